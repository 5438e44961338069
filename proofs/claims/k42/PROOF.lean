import PyProof.Rows.All
import Wide.All
import OpenK.AllK
import Wide.FinOn
import Lean
import PyProof.EqAt
import PyProof.EqKinds
import PyProof.TupleCall
import PyProof.Rows.StrJoin2
import PyProof.TupleOfGen
import PyProof.ListRange
import PyProof.Draws
import PyProof.Rows.StrClose3
import KE.KSortedM
import PyProof.Rows.SortWalk
import PyProof.WalkInts
import PyProof.Rows.Range3
import PyProof.ZipIter
import PyProof.ConsumeWalk
import PyProof.Rows.SeqMore
import KE.KRevIter
import KE.KRevSl
import KE.KUnpack
import KE.KDictSum
import KE.KTupSum
import PySem.Challenge.RW_bearfaults_k42_whole_fewest_made_sure
noncomputable section
set_option bootstrap.genMatcherCode false
section
open PySem
abbrev Zk:=List (Addr×Obj)
abbrev Zl:=Value->Shared->Prop
abbrev Zm:=List (Str×Nat)
abbrev Zn:=List (Str×List Nat)
abbrev Zo:=List (List Nat)
abbrev Zp:=Str->Option Value
abbrev Zq:=Nat->Addr
end
def PySem.W.Fast.tw229010207762813420:=0
def PySem.W.Fast.tw10467930481992680932:=0
def PySem.W.Fast.tw15168028389786401937:=0
def PySem.W.Fast.tw10283074102560026814:=0
def PySem.W.Fast.tw12030525400524953425:=0
def PySem.W.Fast.tw897277774848179652:=0
def PySem.W.Fast.tw10590627384294972103:=0
def PySem.W.Fast.tw8417688931354629029:=0
def PySem.W.Fast.tw16179489097625306270:=0
def PySem.W.Fast.tw15466866877821632602:=0
def PySem.W.Fast.tw9899212285774124077:=0
def PySem.W.Fast.tw14501952896079097148:=0
def PySem.W.Fast.tw4659336650226785682:=0
def PySem.W.Fast.tw4803280470498657665:=0
def PySem.W.Fast.tw4285380243381048760:=0
def PySem.W.Fast.tw4241330251118114669:=0
def PySem.W.Fast.tw5504642503354467750:=0
def PySem.W.Fast.tw10989517311302237407:=0
def PySem.W.Fast.tw16023619617508719714:=0
def PySem.W.Fast.tw10681453239184141299:=0
def PySem.W.Fast.tw471912758291542610:=0
def PySem.W.Fast.tw6258561426997963656:=0
def PySem.W.Fast.tw636549218135493677:=0
def PySem.W.Fast.tw15381801761213194284:=0
def PySem.W.Fast.tw3653875142813050791:=0
def PySem.W.Fast.tw13186880256661679395:=0
def PySem.W.Fast.tw6910969462388374106:=0
def PySem.W.Fast.tw16055313116818297078:=0
def PySem.W.Fast.tw4439377807746072006:=0
def PySem.W.Fast.tw8822989229578581054:=0
def PySem.W.Fast.tw31333595285545952:=0
def PySem.W.Fast.tw9794699116214224452:=0
def PySem.W.Fast.tw1137453603796087454:=0
def PySem.W.Fast.tw4838220281731877744:=0
def PySem.W.Fast.tw8007523099844290178:=0
def PySem.W.Fast.tw11301623547905004859:=0
def PySem.W.Fast.tw10278207151011998201:=0
def PySem.W.Fast.tw6160200931263984739:=0
def PySem.W.Fast.tw16668443066724543823:=0
def PySem.W.Fast.tw12945168847040197057:=0
set_option Elab.async false
set_option linter.all false
set_option maxRecDepth 100000
set_option maxHeartbeats 4000000
section
namespace L2
open PySem PySem.Spec PyProof.Rows
abbrev Key:=Sum Int Str
def uT:Key->Value->Bool
 | .inl k,v=>Value.isInt k v
 | .inr x,v=>Value.isStrOf x v
def Uh(w:World):Key->Int
 | .inl k=>hashInt k
 | .inr x=>hashStr w x
theorem dj:∀{k:Key} {v:Value},uT k v=true->(∃i t,k=Sum.inl i/\v=Value.int i t)\/(∃x t,k=Sum.inr x/\v=Value.str x t)
 | .inl i,v,h=>by
   obtain⟨t,e⟩:=Value.isInt_shape (k:=i) (v:=v) h;exact .inl ⟨i,t,rfl,e⟩
 | .inr x,v,h=>by
   obtain⟨t,e⟩:=Value.isStrOf_shape (x:=x) (v:=v) h;exact .inr ⟨x,t,rfl,e⟩
theorem E6(i:Int)(t:Tok):uT (.inl i) (.int i t)=true:=by simp [uT,Value.isInt]
theorem Fg(x:Str)(t:Tok):uT (.inr x) (.str x t)=true:=by simp [uT,Value.isStrOf]
theorem Ox(a b:Int):decide ((Sum.inl a:Key)=Sum.inl b)=(a==b):=by
 by_cases e:a=b
 .subst e;simp
 .have h:¬(Sum.inl a:Key)=Sum.inl b:=fun q=>e (Sum.inl.inj q)
  rw[decide_eq_false h];exact(beq_eq_false_iff_ne.mpr e).symm
theorem OD(a b:Str):decide ((Sum.inr a:Key)=Sum.inr b)=decide (a=b):=by
 by_cases e:a=b
 .subst e;simp
 .have h:¬(Sum.inr a:Key)=Sum.inr b:=fun q=>e (Sum.inr.inj q)
  rw[decide_eq_false h,decide_eq_false e]
theorem M6(a:Int)(b:Str):decide ((Sum.inl a:Key)=Sum.inr b)=false:=decide_eq_false (fun q=>nomatch q)
theorem OT(a:Str)(b:Int):decide ((Sum.inr a:Key)=Sum.inl b)=false:=decide_eq_false (fun q=>nomatch q)
def cX(prog:Program)(w:World):PySem.KeyKind prog w Key where
 is:=uT
 hash:=Uh w
 inj:=fun v a b ha hb=>by
  rcases dj ha with⟨i,t,rfl,rfl⟩ | ⟨x,t,rfl,rfl⟩
  .rcases dj hb with⟨j,u,rfl,e⟩ | ⟨y,u,rfl,e⟩
   .injection e with e1 _;rw [e1]
   .exact nomatch e
  .rcases dj hb with⟨j,u,rfl,e⟩ | ⟨y,u,rfl,e⟩
   .exact nomatch e
   .injection e with e1 _;rw [e1]
 byValue:=fun k v h=>by
  rcases dj h with⟨i,t,rfl,rfl⟩ | ⟨x,t,rfl,rfl⟩ <;> rfl
 pyHash:=fun hv h=>by
  rcases dj hv with⟨i,t,rfl,rfl⟩ | ⟨x,t,rfl,rfl⟩
  .exact wpAny_pyHash_int h
  .exact wpAny_pyHash_str h
 eqBool:=fun hu hv h=>by
  rcases dj hu with⟨i,t,rfl,rfl⟩ | ⟨x,t,rfl,rfl⟩
  .rcases dj hv with⟨j,u,rfl,rfl⟩ | ⟨y,u,rfl,rfl⟩
   .rw [Ox] at h;exact wpAny_eqBool_int h
   .rw [M6] at h;exact SeqAt.EqAt.int_str i t y u _ _ _ _ h
  .rcases dj hv with⟨j,u,rfl,rfl⟩ | ⟨y,u,rfl,rfl⟩
   .rw [OT] at h;exact SeqAt.EqAt.str_int x t j u _ _ _ _ h
   .rw [OD] at h;exact wpAny_eqBool_str h
 «strs»:=fun k x t v h=>by
  rcases dj h with⟨i,u,rfl,e⟩ | ⟨y,u,rfl,e⟩
  .exact nomatch e
  .injection e with e1 _
   subst e1;cases v <;> rfl
theorem A1(prog:Program)(w:World)(i:Int)(t:Tok):(cX prog w).is (.inl i) (.int i t)=true:=E6 i t
theorem AE(prog:Program)(w:World)(x:Str)(t:Tok):(cX prog w).is (.inr x) (.str x t)=true:=Fg x t
inductive V where
 | cu | bl (b:Bool) | int (i:Int) | str (x:Str) | byt (b:Array UInt8) | flt (b:UInt64) | ref (a:Addr) | ty (n:String)
 deriving DecidableEq
def RelV:V->Value->Prop
 | .cu,u=>u=Value.none
 | .bl b,u=>u=Value.bool b
 | .int i,u=>∃t,u=Value.int i t
 | .str x,u=>∃t,u=Value.str x t
 | .byt b,u=>∃t,u=Value.bytes b t
 | .flt b,u=>∃t,u=Value.float b t
 | .ref a,u=>u=Value.ref a
 | .ty n,u=>u=Value.type n
abbrev Vals:List V->List Value->Prop:=Paired RelV
theorem Vals.length{xs:List V}{us:List Value}(r:Vals xs us):xs.length=us.length:=Paired.length r
theorem Vals.get:∀{xs:List V} {us:List Value} {i:Nat} {x:V},Vals xs us->xs[i]? =some x->∃u,us[i]? =some u/\RelV x u
 | _,_,_,_, .nil,e=>by simp at e
 | _,_,0,_, .cons r _,e=>by simp at e;subst e;exact⟨_,rfl,r⟩
 | _,_,i+1,x, .cons _ t,e=>by
   obtain⟨u,h1,h2⟩:=Vals.get (i:=i) (x:=x) t (by simpa using e)
   exact⟨u,by simpa using h1,h2⟩
theorem Vals.append:∀{xs ys:List V} {us ws:List Value},Vals xs us->Vals ys ws->Vals (xs++ys) (us++ws)
 | _,_,_,_, .nil,s=>s
 | _,_,_,_, .cons r t,s=> .cons r (Vals.append t s)
theorem Vals.take:∀{xs:List V} {us:List Value} (n:Nat),Vals xs us->Vals (xs.take n) (us.take n)
 | _,_,0,_=> .nil
 | _,_,_+1, .nil=> .nil
 | _,_,n+1, .cons r t=> .cons r (Vals.take n t)
theorem Vals.drop:∀{xs:List V} {us:List Value} (n:Nat),Vals xs us->Vals (xs.drop n) (us.drop n)
 | _,_,0,r=>r
 | _,_,_+1, .nil=> .nil
 | _,_,n+1, .cons _ t=>Vals.drop n t
def pQ:Option V->Option Value->Prop
 | some v,some u=>RelV v u
 | none,none=>True
 | _,_=>False
def KV{κ:Type}:List (κ × V)->List (κ × Value)->Prop:=Paired fun(p:κ × V) (q:κ × Value)=>p.1=q.1/\RelV p.2 q.2
def kV:Key->V
 | .inl i=> .int i
 | .inr x=> .str x
inductive HO where
 | lst (xs:List V)
 | tup (xs:List V)
 | dK (kvs:List (Key × V)) | dT (kvs:List (List Key × V))
 | set (S:Int->Bool) (n:Nat)
 | ins (C dx:Addr) (fs:List (Str × V))
 | own (x:Addr)
 | xd (fs:List (Str × V))
 | met (f x:Addr)
 | rng (lo hi:Int)
 | k4 (o:Obj) (u:HO)
 | tbl (ps:Array Value)
 | ext (φ:Heap->Prop)
abbrev Hp:=Addr->Option HO
def upd(H:Hp)(a:Addr)(o:HO):Hp:=fun b=>if b=a then some o else H b
theorem aX{a:Addr}{o:HO}:upd H a o a=some o:=by unfold upd;rw [if_pos rfl]
theorem bb{H:Hp}{a b:Addr}{o:HO}(h:b≠a):upd H a o b=H b:=by unfold upd;rw [if_neg h]
theorem Qc{H:Hp}{a b:Addr}{o u:HO}(h:H a=some o)(h':H b=some u)(d:o≠u):a≠b:=by
 intro e;subst e;rw [h] at h';exact d (Option.some.inj h')
theorem cz{H:Hp}{a b:Addr}{o:HO}(h:H a=some o)(h':H b=none):a≠b:=by
 intro e;subst e;rw [h] at h';cases h'
section
variable (P:Program) (w:World)
def e_(H:Hp)(h:Heap)(a:Addr):HO->Prop
 | .lst xs=>xs.length<=sizeLine/\∃(its:List Value) (n:Nat),Vals xs its/\h.get? a=some {cls:= .type "list",data:= .seq its.toArray n}
 | .tup xs=>xs.length<=sizeLine/\∃its:List Value,Vals xs its/\IsTup h a its.toArray
 | .dK kvs=>kvs.length<=sizeLine/\(a==sysModules)=false/\∃vs,KV kvs vs/\h.DictOf (cX P w) a vs
 | .dT kvs=>kvs.length<=sizeLine/\(a==sysModules)=false/\∃xs:List (List Key × Addr × Value),
    Paired (fun(p:List Key × V) (q:List Key × Addr × Value)=>p.1=q.1/\H q.2.1=some (.tup (p.1.map kV))/\RelV p.2 q.2.2) kvs xs/\
    ∃o es ep,h.get? a=some o/\o.ExactDict/\o.data= .dict es ep/\es.toList=xs.map (entryOfKey (tupleKind (cX P w)))/\(xs.map (·.1)).Nodup
 | .set S n=>h.SetOf (intKind P w) a S n
 | .ins C dx fs=>H dx=some (.own a)/\fs.length<=1000/\dx≠a/\h.get? a=some (PySem.W.instObj C dx)/\
    ∃mA,h.Ns1 dx mA/\(∀f,pQ (fs.lookup f) (mA f))/\PySem.Within mA (fs.map (·.1))
 | .own _=>∃o,h.get? a=some o
 | .xd fs=>∃mA,h.Ns1 a mA/\∀f,pQ (fs.lookup f) (mA f)
 | .rng lo hi=>∃t u v,h.get? a=some {cls:= .type "range",data:= .fields #[.int lo t, .int hi u, .int 1 v]}
 | .k4 o u=>h.get? a=some o/\e_ H h a u
 | .tbl ps=>h.get? a=some {cls:= .none,data:= .fields ps}
 | .met f x=>h.get? a=some (PySem.W.methodObj (.ref f) (.ref x))
 | .ext φ=>φ h/\(∃o,h.get? a=some o)/\∀h1 h2:Heap,φ h1->(∀o,h1.get? a=some o->h2.get? a=some o)->φ h2
def pR(H:Hp)(h:Heap):Prop:=∀a o,H a=some o->e_ P w H h a o
end
section
variable {P:Program} {w:World} {H H':Hp} {h h':Heap} {a:Addr} {o:HO}
theorem e_.lt(x:e_ P w H h a o):a < h.objs.size:=by
 cases o with
 | lst xs=>obtain⟨_,_,_,_,e⟩:=x;exact Heap.lt_size e
 | tup xs=>obtain⟨_,_,_,p⟩:=x;exact p.lt
 | dK kvs=>obtain⟨_,_,_,_,o,_,_,e,_⟩:=x;exact Heap.lt_size e
 | dT kvs=>obtain⟨_,_,_,_,o,_,_,e,_⟩:=x;exact Heap.lt_size e
 | set S n=>obtain⟨o,_,_,_,e,_⟩:=x;exact Heap.lt_size e
 | ins C dx fs=>obtain⟨_,_,_,e,_⟩:=x;exact Heap.lt_size e
 | own y=>obtain⟨_,e⟩:=x;exact Heap.lt_size e
 | xd fs=>obtain⟨_,⟨_,_,_,e,_⟩,_⟩:=x;exact Heap.lt_size e
 | rng lo hi=>obtain⟨_,_,_,e⟩:=x;exact Heap.lt_size e
 | k4 ob u=>obtain⟨e,_⟩:=x;exact Heap.lt_size e
 | tbl ps=>exact Heap.lt_size (show h.get? a=some _ from x)
 | met f y=>exact Heap.lt_size (show h.get? a=some _ from x)
 | ext φ=>obtain⟨_,⟨_,e⟩,_⟩:=x;exact Heap.lt_size e
theorem Paired.M8{α β:Type}{F G:α->β->Prop}:∀{Ry:List α} {RG:List β},Paired F Ry RG->(∀a b,F a b->G a b)->Paired G Ry RG
 | _,_, .nil,_=> .nil
 | _,_, .cons r t,f=> .cons (f _ _ r) (Paired.M8 t f)
theorem e_.yN(x:e_ P w H h a o)(k:∀b u,(b=a\/H b=some (.own a))->h.get? b=some u->h'.get? b=some u)
 (ho:∀b,H b=some (.own a)->H' b=some (.own a)) (ht:∀b xs,H b=some (.tup xs)->H' b=some (.tup xs)):e_ P w H' h' a o:=by
 induction o with
 | lst xs=>obtain⟨z,its,n,r,e⟩:=x;exact⟨z,its,n,r,k _ _ (.inl rfl) e⟩
 | tup xs=>obtain⟨z,its,r,ob,e,c⟩:=x;exact⟨z,its,r,ob,k _ _ (.inl rfl) e,c⟩
 | dK kvs=>obtain⟨z,y,vs,r,ob,es,ep,e,c⟩:=x;exact⟨z,y,vs,r,ob,es,ep,k _ _ (.inl rfl) e,c⟩
 | dT kvs=>
   obtain⟨z,y,xs,r,ob,es,ep,e,c⟩:=x;exact⟨z,y,xs,Paired.M8 r fun p q z=>⟨z.1,ht _ _ z.2.1,z.2.2⟩,ob,es,ep,k _ _ (.inl rfl) e,c⟩
 | set S n=>obtain⟨ob,es,ep,t,e,c⟩:=x;exact⟨ob,es,ep,t,k _ _ (.inl rfl) e,c⟩
 | ins C dx fs=>
   obtain⟨d,z,ne,e,mA,⟨od,es,ep,e2,c⟩,r⟩:=x;exact⟨ho _ d,z,ne,k _ _ (.inl rfl) e,mA,⟨od,es,ep,k _ _ (.inr d) e2,c⟩,r⟩
 | own y=>obtain⟨ob,e⟩:=x;exact⟨ob,k _ _ (.inl rfl) e⟩
 | xd fs=>obtain⟨mA,⟨od,es,ep,e,c⟩,r⟩:=x;exact⟨mA,⟨od,es,ep,k _ _ (.inl rfl) e,c⟩,r⟩
 | rng lo hi=>obtain⟨t,u,v,e⟩:=x;exact⟨t,u,v,k _ _ (.inl rfl) e⟩
 | k4 ob u ih=>obtain⟨e,q⟩:=x;exact⟨k _ _ (.inl rfl) e,ih q⟩
 | tbl ps=>
   have e:h.get? a=some {cls:= .none,data:= .fields ps}:=x;show h'.get? a=some {cls:= .none,data:= .fields ps};exact k a _ (.inl rfl) e
 | met f y=>
   have e:h.get? a=some (PySem.W.methodObj (.ref f) (.ref y)):=x;show h'.get? a=some (PySem.W.methodObj (.ref f) (.ref y));exact k a _ (.inl rfl) e
 | ext φ=>obtain⟨p,⟨o,e⟩,st⟩:=x;exact⟨st _ _ p fun o q=>k _ _ (.inl rfl) q,⟨o,k _ _ (.inl rfl) e⟩,st⟩
theorem pR.lt(x:pR P w H h)(e:H a=some o):a < h.objs.size:=(x a o e).lt
theorem pR.fresh(x:pR P w H h)(e:h.objs.size<=a):H a=none:=by
 cases q:H a with
 | none=>rfl
 | some u=>exact absurd (Nat.lt_of_lt_of_le (x.lt q) e) (Nat.lt_irrefl _)
theorem pR.kept(x:pR P w H h)(k:∀b u,h.get? b=some u->h'.get? b=some u):pR P w H h':=fun a o e=>
 (x a o e).yN (fun b u _ q=>k b u q) (fun _ q=>q) fun _ _ q=>q
theorem pR.laid(x:pR P w H h)(k:∀b u,h.get? b=some u->h'.get? b=some u)(hp:h.objs.size<=a)(new:e_ P w (upd H a o) h' a o):pR P w (upd H a o) h':=fun b u e=>by
 have hn:=x.fresh hp;by_cases hb:b=a
 .subst hb;rw [aX] at e;cases e;exact new
 .rw [bb hb] at e;exact(x b u e).yN (fun c v _ q=>k c v q) (fun c q=>by rw[bb (cz q hn)];exact q) fun c xs q=>by rw[bb (cz q hn)];exact q
end
def Rd(H:Hp)(a:Addr)(u:HO):Prop:=H a=some u\/∃o,H a=some (.k4 o u)
theorem Rd.of{H:Hp}{a:Addr}{u:HO}(h:H a=some u):Rd H a u:= .inl h
theorem Rd.ok{a:Addr}{u:HO}(r:Rd H a u)(x:pR P w H h):e_ P w H h a u:=by
 rcases r with r | ⟨o,r⟩
 .exact x a u r
 .obtain⟨_,q⟩:=x a _ r;exact q
def QQ:Option HO->Prop
 | some (.lst _)=>True
 | some (.dK _)=>True
 | some (.dT _)=>True
 | some (.set _ _)=>True
 | some (.ins _ _ _)=>True
 | some (.ext _)=>True
 | _=>False
section
variable {P:Program} {w:World} {H:Hp} {h h':Heap} {x e:Addr} {o':HO}
theorem pR.write(ok:pR P w H h)(mu:QQ (H x))(he:e=x\/H e=some (.own x))(k:∀b u,b≠e->h.get? b=some u->h'.get? b=some u)(JX:∃u,h'.get? e=some u)
 (new:e_ P w (upd H x o') h' x o'):pR P w (upd H x o') h':=fun b u q=>by
 have nown:∀c y,H c=some (.own y)->c≠x:=fun c y r z=>by subst z;rw [r] at mu;exact mu
 have ntup:∀c xs,H c=some (.tup xs)->c≠x:=fun c xs r z=>by subst z;rw [r] at mu;exact mu
 by_cases hb:b=x
 .subst hb;rw [aX] at q;cases q;exact new
 .rw [bb hb] at q;by_cases hbe:b=e
  .have q':H b=some (.own x):=by
    rcases he with z | z
    .exact absurd (hbe.trans z) hb
    .rw [hbe];exact z
   rw[q] at q';cases q';obtain⟨v,hv⟩:=JX;exact⟨v,by rw[hbe];exact hv⟩
  .refine(ok b u q).yN (fun c v hc r=>k c v ?_ r) (fun c r=>by rw[bb (nown c b r)];exact r) fun c xs r=>by rw[bb (ntup c xs r)];exact r
   rcases hc with rfl | hc
   .exact hbe
   .rintro rfl;rcases he with z | z
    .exact nown c b hc z
    .rw [hc] at z;cases z;exact hb rfl
end
structure Un (fs ex:List Addr) (H H':Hp) (h h':Heap):Prop where
 keep:∀b o,h.get? b=some o->H b=none->b ∉ fs->b ∉ ex->h'.get? b=some o
 slot:∀b o,h.get? b=some o->H b=none->b∈fs->b ∉ ex->∃sl,h'.get? b=some {o with slots:=sl}
 free:∀b o,h.get? b=some o->H b=none->b ∉ ex->H' b=none
 there:∀b o,h.get? b=some o->b ∉ ex->∃o',h'.get? b=some o'
 tups:∀b xs,H b=some (.tup xs)->H' b=some (.tup xs)
 frzs:∀b o u,H b=some (.k4 o u)->H' b=some (.k4 o u)
 tbls:∀b ps,H b=some (.tbl ps)->∃more,H' b=some (.tbl (ps++more))
section
variable {fs PH ex Y6:List Addr} {H H1 H2:Hp} {h h1 h2 h':Heap} {a x e:Addr} {o:HO}
theorem Un.any(u:Un fs ex H H1 h h1){b:Addr}{ob:Obj}(q:h.get? b=some ob)(n:H b=none)(hx:b ∉ ex):∃sl,h1.get? b=some {ob with slots:=sl}:=by
 by_cases hb:b∈fs
 .exact u.slot b ob q n hb hx
 .exact⟨ob.slots,u.keep b ob q n hb hx⟩
theorem Un.kept(k:∀b u,h.get? b=some u->h'.get? b=some u):Un fs ex H H h h':=
 ⟨fun b ob q _ _ _=>k b ob q,fun b ob q _ _ _=>⟨ob.slots,k b ob q⟩,fun _ _ _ n _=>n,fun b ob q _=>⟨ob,k b ob q⟩,fun _ _ q=>q,fun _ _ _ q=>q,fun _ ps q=>⟨#[],by rw[q];simp⟩⟩
theorem Un.refl:Un fs ex H H h h:=Un.kept fun _ _ q=>q
theorem Un.laid(k:∀b u,h.get? b=some u->h'.get? b=some u)(hp:h.objs.size<=a)(hn:H a=none):Un fs ex H (upd H a o) h h' where
 keep:=fun b u q _ _ _=>k b u q
 slot:=fun b u q _ _ _=>⟨u.slots,k b u q⟩
 free:=fun b u q n _=>by rw[bb (Nat.ne_of_lt (Nat.lt_of_lt_of_le (Heap.lt_size q) hp))];exact n
 there:=fun b u q _=>⟨u,k b u q⟩
 tups:=fun b xs q=>by rw[bb (cz q hn)];exact q
 frzs:=fun b u xs q=>by rw[bb (cz q hn)];exact q
 tbls:=fun b ps q=>⟨#[],by rw[bb (cz q hn),q];simp⟩
theorem Un.write(mu:QQ (H x))(he:e=x\/H e=some (.own x))(k:∀b u,b≠e->h.get? b=some u->h'.get? b=some u)(JX:∃u,h'.get? e=some u):Un fs ex H (upd H x o) h h':=by
 have hx:∀b,H b=none->b≠x:=fun b n z=>by subst z;rw [n] at mu;exact mu
 have hb:∀b,H b=none->b≠e:=fun b n z=>by
  subst z;rcases he with r | r
  .exact hx b n r
  .rw [n] at r;cases r
 have hm:∀b u,H b=some u->¬QQ (some u)->b≠x:=fun b u q nm z=>by subst z;rw [q] at mu;exact nm mu
 refine⟨fun b u q n _ _=>k b u (hb b n) q,fun b u q n _ _=>⟨u.slots,k b u (hb b n) q⟩,fun b u q n _=>by rw[bb (hx b n)];exact n,fun b u q _=>?_,
  fun b xs q=>by rw[bb (hm b _ q fun z=>z)];exact q,fun b u xs q=>by rw[bb (hm b _ q fun z=>z)];exact q,fun b ps q=>⟨#[],by rw[bb (hm b _ q fun z=>z),q];simp⟩⟩
 by_cases hbe:b=e
 .subst hbe;exact JX
 .exact⟨u,k b u hbe q⟩
end
def RT(h:Heap)(H:Hp):List Addr:=(List.range h.objs.size).filter fun a=>(H a).isSome
def yV(h:Heap)(H:Hp):Heap:=PySem.W.hideAll h (RT h H)
theorem FR(h:Heap)(H:Hp):(yV h H).objs.size=h.objs.size:=PySem.W.hideAll_size _ _
theorem Ho{h:Heap}{H:Hp}{b:Addr}{o:Obj}(e:h.get? b=some o)(n:H b=none):(yV h H).get? b=some o:=
 PySem.W.hideAll_get _ e fun hm=>by
  have q:(H b).isSome=true:=(List.mem_filter.mp hm).2;rw[n] at q;simp at q
theorem KQ{h:Heap}{H:Hp}{b:Addr}{o:Obj}(e:(yV h H).get? b=some o):h.get? b=some o/\H b=none:=by
 have e':h.get? b=some o:=PySem.W.of_hideAll (RT h H) e;refine⟨e',?_⟩;cases q:H b with
 | none=>rfl
 | some x=>
   have hm:b∈RT h H:=List.mem_filter.mpr ⟨List.mem_range.mpr (Heap.lt_size e'),by simp [q]⟩
   have z:(yV h H).get? b=none:=PySem.W.hideAll_none (RT h H) hm;rw[z] at e;cases e
def LH(g h:Heap)(L:Addr):Zk:=(List.range h.objs.size).filterMap fun a=>if a=L\/(g.get? a).isSome=true then none else(h.get? a).map fun o=>(a,o)
def rest(g h:Heap)(L d:Addr):Zk:=(LH g h L).filter fun p=>decide (p.1≠d)
structure Mod (K:W.Frag) (mg:Zp) (base:Heap):Prop where
 kin:K.In base
 glob:base.Ns mainGlobals mg
 blt:∃mb,base.Ns builtinsNs mb/\∀x:Str,x≠"__name__"->mb x=bootBuiltins x
 nolimit:base.NoLimit
structure Cx where
 prog:Program
 w:World
 K:W.Frag
 mg:Zp
 base:Heap
 A:Around
 N:List Str
 s₀:Shared
 H₀:Hp
 env:Env
 outer:List Env
 stack:List Env
 ex:List Addr
 fn:Str->Bool
 calm:Bool
 pn:Zk
 xe:Zl
def Gs(l:List Env):List Addr:=l.filterMap (·.frame)
abbrev Cx.fs(X:Cx):List Addr:=Gs X.outer
def KP(sc:Scope)(x:Str):Prop:=sc.names.lookup x=some .local\/sc.names.lookup x=some .cell\/sc.names.lookup x=some .free
def Loc(sc:Scope)(x:Str):Prop:=sc.names.lookup x=some .local\/sc.names.lookup x=some .cell
def Look(env:Env)(h:Heap)(m:Zp)(x:Str)(u:Value):Prop:=
 (env.kindOf x=some .local/\m x=some u)\/((env.kindOf x=some .cell\/env.kindOf x=some .free)/\∃c,env.cells.lookup x=some c/\h.IsCell c (some u))
structure Cx.Ok (X:Cx):Prop where
 mod:Mod X.K X.mg X.base
 kind:X.env.scope.kind= .function
 glob:X.env.globals=mainGlobals
 blt:X.env.builtins=builtinsNs
 above:X.s₀.heap.objs.size<=X.env.locals
 inj:∀x y c,X.env.cells.lookup x=some c->X.env.cells.lookup y=some c->x=y
 has:∀x,(X.env.kindOf x=some .cell\/X.env.kindOf x=some .free)->∃c,X.env.cells.lookup x=some c
 cab:∀x c,X.fn x=true->X.env.cells.lookup x=some c->X.s₀.heap.objs.size<=c
 hd:X.calm=true->X.A.handled=none
 frames:X.A.frames=some X.stack
 stk:X.stack=X.outer\/(X.stack=X.env ::X.outer/\X.env.frame=some X.env.locals)
 exf:∀b∈X.ex,b≠X.env.locals/\∀x c,X.env.cells.lookup x=some c->c≠b
 bs:∀b o,X.base.get? b=some o->X.s₀.heap.get? b=some o/\X.H₀ b=none
 bsz:X.base.objs.size<=X.s₀.heap.objs.size
 noex:∀b o,X.base.get? b=some o->b ∉ X.ex
 exfs:∀b∈X.ex,b ∉ X.fs
 ui:X.s₀.heap.FunFrames X.base X.outer
 frf:∀b∈X.fs,X.H₀ b=none
structure Inv (X:Cx) (pins:Zk) (σ:List (Option V)) (H:Hp) (s:Shared):Prop where
 ok:X.Ok
 os:s.os=X.s₀.os
 bare:AllBare s.gens
 base:Un X.fs X.ex X.H₀ H X.s₀.heap s.heap
 loc:∃m,s.heap.Ns X.env.locals m/\∀(i:Nat) (x:Str) (v:V),X.N[i]? =some x->σ[i]? =some (some v)->KP X.env.scope x->∃u,RelV v u/\Look X.env s.heap m x u
 cell:∀x c,X.env.cells.lookup x=some c->∃v,s.heap.IsCell c v
 free:H X.env.locals=none
 freeC:∀x c,X.env.cells.lookup x=some c->H c=none
 pin:∀p∈X.pn++pins,s.heap.get? p.1=some p.2/\H p.1=none/\p.1≠X.env.locals/\p.1 ∉ X.fs/\∀v,p.2.data≠ .cell v
 hok:pR X.prog X.w H s.heap
 len:σ.length=X.N.length
section
variable {X:Cx} {pins:Zk} {σ:List (Option V)} {H H':Hp} {s:Shared} {h':Heap}
theorem Cx.Ok.SK(ok:X.Ok){b:Addr}{o:Obj}(e:X.base.get? b=some o):b ∉ X.fs:=fun hb=>by
 have:=(ok.ui.mem hb).1;rw[e] at this;cases this
theorem Inv.bs(I:Inv X pins σ H s):∀b o,X.base.get? b=some o->s.heap.get? b=some o/\H b=none:=fun b o e=>
 ⟨I.base.keep b o (I.ok.bs b o e).1 (I.ok.bs b o e).2 (I.ok.SK e) (I.ok.noex b o e),I.base.free b o (I.ok.bs b o e).1 (I.ok.bs b o e).2 (I.ok.noex b o e)⟩
theorem Inv.bk(I:Inv X pins σ H s):∀b o,X.base.get? b=some o->s.heap.get? b=some o:=fun b o e=>(I.bs b o e).1
theorem Inv.mod(I:Inv X pins σ H s):Mod X.K X.mg X.base:=I.ok.mod
theorem Inv.D2(I:Inv X pins σ H s):X.K.In s.heap:=I.ok.mod.kin.keeps I.bk
theorem Inv.lt(I:Inv X pins σ H s):X.env.locals < s.heap.objs.size:=let⟨_,hn,_⟩:=I.loc;hn.lt
theorem Inv.sz(I:Inv X pins σ H s):X.s₀.heap.objs.size<=s.heap.objs.size:=Nat.le_trans I.ok.above (Nat.le_of_lt I.lt)
theorem Inv.T9(I:Inv X pins σ H s){a:Addr}(h:s.heap.objs.size<=a):a ∉ X.fs:=fun hb=>by
 obtain⟨_,o,ho,_⟩:=I.ok.ui.mem hb;exact absurd (Nat.lt_of_lt_of_le (Heap.lt_size ho) (Nat.le_trans I.sz h)) (Nat.lt_irrefl _)
theorem Inv.Oz(I:Inv X pins σ H s):∀x c,X.env.cells.lookup x=some c->c≠X.env.locals:=fun x c e z=>by
 obtain⟨v,o,ho,hd⟩:=I.cell x c e;obtain⟨m,⟨o',es,ep,De,RO,_⟩,_⟩:=I.loc;rw[z,De] at ho;cases ho;rw [RO] at hd;cases hd
theorem Inv.ui(I:Inv X pins σ H s):s.heap.FunFrames X.base X.outer:=by
 have all:∀(l:List Env),(∀b∈Gs l,b∈X.fs)->X.s₀.heap.FunFrames X.base l->s.heap.FunFrames X.base l:=by
  intro l
  induction l with
  | nil=>intro _ _;trivial
  | cons env r ih=>
    intro hs hl;obtain⟨hk,⟨L,o,hf,hn,ho,hd⟩,hr⟩:=hl;have hL:L∈X.fs:=hs L (by unfold Gs;rw [List.filterMap_cons,hf];exact List.mem_cons_self)
    obtain⟨sl,e⟩:=I.base.slot L o ho (I.ok.frf L hL) hL fun z=>I.ok.exfs L z hL
    exact⟨hk,⟨L,_,hf,hn,e,hd⟩,ih (fun b hb=>hs b (by unfold Gs;rw [List.filterMap_cons,hf];exact List.mem_cons_of_mem _ hb)) hr⟩
 exact all X.outer (fun _ hb=>hb) I.ok.ui
theorem Inv.stack(I:Inv X pins σ H s):s.heap.FunFrames X.base X.stack:=by
 rcases I.ok.stk with e | ⟨e,hf⟩
 .rw [e];exact I.ui
 .rw [e];obtain⟨m,hn,_⟩:=I.loc;refine .cons (by rw[I.ok.kind];decide) hf hn ?_ I.ui
  exact Heap.get?_none_of_le (Nat.le_trans I.ok.bsz I.ok.above)
theorem Inv.CC(I:Inv X pins σ H s):∀b∈Gs X.stack,b∈X.env.locals ::X.fs:=fun b hb=>by
 rcases I.ok.stk with e | ⟨e,hf⟩
 .rw [e] at hb;exact List.mem_cons_of_mem _ hb
 .rw [e] at hb;unfold Gs at hb;rw[List.filterMap_cons,hf] at hb;exact hb
theorem Inv.DH(I:Inv X pins σ H s):∀b∈Gs X.stack,H b=none:=fun b hb=>by
 rcases List.mem_cons.mp (I.CC b hb) with e | hb
 .rw [e];exact I.free
 .obtain⟨_,o,ho,_⟩:=I.ok.ui.mem hb;exact I.base.free b o ho (I.ok.frf b hb) fun z=>I.ok.exfs b z hb
theorem Inv.step{g':Array GenState}{t':Nat}{d':Drawn}{ch:List Addr}(I:Inv X pins σ H s)
 (J0:∀b∈ch,(b∈X.ex\/X.s₀.heap.objs.size<=b)/\b≠X.env.locals/\(∀x c,X.env.cells.lookup x=some c->c≠b)/\∀p∈X.pn++pins,p.1≠b)
 (keep:∀b o,b≠X.env.locals->b ∉ X.fs->b ∉ ch->s.heap.get? b=some o->H b=none->h'.get? b=some o)
 (slot:∀b o,b≠X.env.locals->b∈X.fs->b ∉ ch->s.heap.get? b=some o->H b=none->∃sl,h'.get? b=some {o with slots:=sl}) (free:∀b o,b ∉ ch->s.heap.get? b=some o->H b=none->H' b=none)
 (there:∀b o,b ∉ ch->s.heap.get? b=some o->∃o',h'.get? b=some o')
 (tups:∀b xs,H b=some (.tup xs)->H' b=some (.tup xs)) (frzs:∀b o u,H b=some (.k4 o u)->H' b=some (.k4 o u)) (tbls:∀b ps,H b=some (.tbl ps)->∃more,H' b=some (.tbl (ps++more)))
 (ns:∀m,s.heap.Ns X.env.locals m->h'.Ns X.env.locals m) (hok:pR X.prog X.w H' h') (hg:AllBare g') :
 Inv X pins σ H' {s with heap:=h',gens:=g',drawn:=d',toks:=t'}:=by
 have neL:∀b o,X.s₀.heap.get? b=some o->b≠X.env.locals:=fun b o e=>Nat.ne_of_lt (Nat.lt_of_lt_of_le (Heap.lt_size e) I.ok.above)
 have neC:∀b o,X.s₀.heap.get? b=some o->b ∉ X.ex->b ∉ ch:=fun b o e hx hb=>by
  rcases(J0 b hb).1 with z | z
  .exact hx z
  .exact absurd (Nat.lt_of_lt_of_le (Heap.lt_size e) z) (Nat.lt_irrefl _)
 have cellK:∀x c,X.env.cells.lookup x=some c->∀v,s.heap.IsCell c v->h'.IsCell c v:=fun x c e v ⟨o,ho,hd⟩=>by
  have nch:c ∉ ch:=fun z=>(J0 c z).2.2.1 x c e rfl
  by_cases hc:c∈X.fs
  .obtain⟨sl,q⟩:=slot c o (I.Oz x c e) hc nch ho (I.freeC x c e);exact⟨_,q,hd⟩
  .exact⟨o,keep c o (I.Oz x c e) hc nch ho (I.freeC x c e),hd⟩
 refine⟨I.ok,I.os,hg,⟨fun b o e n hb hx=>?_,fun b o e n hb hx=>?_,fun b o e n hx=>?_,fun b o e hx=>?_,fun b xs e=>tups b xs (I.base.tups b xs e),fun b o xs e=>frzs b o xs (I.base.frzs b o xs e),fun b ps e=>?_⟩,?_,fun x c e=>?_,?_,fun x c e=>?_,fun p hp=>?_,hok,I.len⟩
 .exact keep b o (neL b o e) hb (neC b o e hx) (I.base.keep b o e n hb hx) (I.base.free b o e n hx)
 .obtain⟨sl,e1⟩:=I.base.slot b o e n hb hx;obtain⟨Xr,e2⟩:=slot b _ (neL b o e) hb (neC b o e hx) e1 (I.base.free b o e n hx);exact⟨Xr,e2⟩
 .obtain⟨o',e1⟩:=I.base.there b o e hx;exact free b o' (neC b o e hx) e1 (I.base.free b o e n hx)
 .obtain⟨o',e1⟩:=I.base.there b o e hx;exact there b o' (neC b o e hx) e1
 .obtain⟨m1,e1⟩:=I.base.tbls b ps e;obtain⟨m2,e2⟩:=tbls b _ e1;exact⟨m1++m2,by rw[e2,Array.append_assoc]⟩
 .obtain⟨m,hn,hl⟩:=I.loc;refine⟨m,ns m hn,fun i x v e1 e2 e3=>?_⟩
  obtain⟨u,r,l⟩:=hl i x v e1 e2 e3;refine⟨u,r,?_⟩;rcases l with l | ⟨k,c,e,z⟩
  .exact .inl l
  .exact .inr ⟨k,c,e,cellK x c e _ z⟩
 .obtain⟨v,z⟩:=I.cell x c e;exact⟨v,cellK x c e v z⟩
 .obtain⟨m,⟨o,_,_,ho,_⟩,_⟩:=I.loc;exact free _ o (fun z=>(J0 _ z).2.1 rfl) ho I.free
 .obtain⟨v,o,ho,hd⟩:=I.cell x c e;exact free c o (fun z=>(J0 c z).2.2.1 x c e rfl) ho (I.freeC x c e)
 .obtain⟨e,n,ne,nf,d⟩:=I.pin p hp;have nch:p.1 ∉ ch:=fun z=>(J0 p.1 z).2.2.2 p hp rfl
  exact⟨keep p.1 p.2 ne nf nch e n,free p.1 p.2 nch e n,ne,nf,d⟩
theorem Inv.un{t':Nat}(I:Inv X pins σ H s)(u:Un X.fs [] H H' s.heap h')(hok:pR X.prog X.w H' h'):Inv X pins σ H' {s with heap:=h',toks:=t'}:=by
 obtain⟨m,⟨o,es,ep,ho,r⟩,_⟩:=id I.loc;obtain⟨sl,hL⟩:=u.any ho I.free (by simp)
 exact I.step (g':=s.gens) (d':=s.drawn) (ch:=[]) (fun _ z=>nomatch z) (fun b o _ hb _ e n=>u.keep b o e n hb (by simp)) (fun b o _ hb _ e n=>u.slot b o e n hb (by simp)) (fun b o _ e n=>u.free b o e n (by simp)) (fun b o _ e=>u.there b o e (by simp)) u.tups u.frzs u.tbls (fun m' hm=>by
  obtain⟨o',UK,Rz,De,r'⟩:=hm;rw[ho] at De;cases De;exact⟨_,UK,Rz,hL,r'⟩) hok I.bare
theorem Inv.call{g':Array GenState}{t':Nat}{d':Drawn}{ch:List Addr}(I:Inv X pins σ H s)(u:Un (Gs X.stack) ch H H' s.heap h')(hok:pR X.prog X.w H' h')(hg:AllBare g')
 (J0:∀b∈ch,(b∈X.ex\/X.s₀.heap.objs.size<=b)/\b≠X.env.locals/\(∀x c,X.env.cells.lookup x=some c->c≠b)/\∀p∈X.pn++pins,p.1≠b) :
 Inv X pins σ H' {s with heap:=h',gens:=g',drawn:=d',toks:=t'}:=by
 obtain⟨m,⟨o,es,ep,ho,r⟩,_⟩:=id I.loc;obtain⟨sl,hL⟩:=u.any ho I.free fun z=>(J0 _ z).2.1 rfl
 exact I.step (ch:=ch) J0 (fun b o hL hb hc e n=>u.keep b o e n (fun z=>(List.mem_cons.mp (I.CC b z)).elim hL hb) hc) (fun b o _ _ hc e n=>u.any e n hc) (fun b o hc e n=>u.free b o e n hc) (fun b o hc e=>u.there b o e hc) u.tups u.frzs u.tbls (fun m' hm=>by
  obtain⟨o',UK,Rz,De,r'⟩:=hm;rw[ho] at De;cases De;exact⟨_,UK,Rz,hL,r'⟩) hok hg
theorem Inv.turned{t':Nat}{it:Addr}(I:Inv X pins σ H s)(k:∀b o,b≠it->s.heap.get? b=some o->h'.get? b=some o)(hn:H it=none)(hL:it≠X.env.locals)
 (h1:it∈X.ex\/X.s₀.heap.objs.size<=it) (h2:∀x c,X.env.cells.lookup x=some c->c≠it) (h3:∀p∈X.pn++pins,p.1≠it):Inv X pins σ H {s with heap:=h',toks:=t'}:=by
 have nit:∀b u,H b=some u->b≠it:=fun b u e z=>by rw[z,hn] at e;cases e
 refine I.step (g':=s.gens) (d':=s.drawn) (ch:=[it]) (fun b hb=>?_) (fun b o _ _ hc e _=>k b o (fun z=>hc (by simp [z])) e) (fun b o _ _ hc e _=>⟨o.slots,k b o (fun z=>hc (by simp [z])) e⟩) (fun _ _ _ _ n=>n)
  (fun b o hc e=>⟨o,k b o (fun z=>hc (by simp [z])) e⟩) (fun _ _ e=>e) (fun _ _ _ e=>e) (fun b ps e=>⟨#[],by rw[e];simp⟩) (fun m hm=>?_) (fun b u e=>?_) I.bare
 .have e:b=it:=by simpa using hb
  subst e;exact⟨h1,hL,h2,h3⟩
 .obtain⟨o,es,ep,ho,r⟩:=hm;exact⟨o,es,ep,k _ o (Ne.symm hL) ho,r⟩
 .refine(I.hok b u e).yN (fun c v hc q=>k c v ?_ q) (fun _ q=>q) fun _ _ q=>q
  rcases hc with z | z
  .rw [z];exact nit b u e
  .exact nit c _ z
theorem Inv.tok(I:Inv X pins σ H s)(t:Nat):Inv X pins σ H {s with toks:=t}:=I.un (h':=s.heap) (t':=t) Un.refl I.hok
theorem Inv.kept{t':Nat}(I:Inv X pins σ H s)(k:∀b u,s.heap.get? b=some u->h'.get? b=some u):Inv X pins σ H {s with heap:=h',toks:=t'}:=I.un (Un.kept k) (I.hok.kept k)
theorem Inv.laid{a:Addr}{o:HO}{t':Nat}(I:Inv X pins σ H s)(k:∀b u,s.heap.get? b=some u->h'.get? b=some u)(hp:s.heap.objs.size<=a)(new:e_ X.prog X.w (upd H a o) h' a o) :
 Inv X pins σ (upd H a o) {s with heap:=h',toks:=t'}:=I.un (Un.laid k hp (I.hok.fresh hp)) (I.hok.laid k hp new)
theorem Inv.write{x e:Addr}{o:HO}{t':Nat}(I:Inv X pins σ H s)(mu:QQ (H x))(he:e=x\/H e=some (.own x))(k:∀b u,b≠e->s.heap.get? b=some u->h'.get? b=some u)(JX:∃u,h'.get? e=some u)
 (new:e_ X.prog X.w (upd H x o) h' x o):Inv X pins σ (upd H x o) {s with heap:=h',toks:=t'}:=I.un (Un.write mu he k JX) (I.hok.write mu he k JX new)
theorem Inv.Ei{ME:Zk}(I:Inv X pins σ H s)(h:∀p∈ME,s.heap.get? p.1=some p.2/\H p.1=none/\p.1≠X.env.locals/\p.1 ∉ X.fs/\∀v,p.2.data≠ .cell v):Inv X ME σ H s:=
 ⟨I.ok,I.os,I.bare,I.base,I.loc,I.cell,I.free,I.freeC,fun p hp=>(List.mem_append.mp hp).elim (fun z=>I.pin p (List.mem_append_left _ z)) (h p),I.hok,I.len⟩
theorem AM{N:List Str}(hN:N.Nodup){i j:Nat}(a:N[i]? =some x)(b:N[j]? =some x):i=j:=by
 obtain⟨h1,e1⟩:=List.getElem?_eq_some_iff.mp a;obtain⟨h2,e2⟩:=List.getElem?_eq_some_iff.mp b;exact(List.getElem_inj hN).mp (e1.trans e2.symm)
theorem yb{M:Model}{A:Around}{E:Zl}{i:Nat}{x:Str}{v:V}{u:Value}{Q:Unit->Shared->Prop}(I:Inv X pins σ H s)(hN:X.N.Nodup)(hi:X.N[i]? =some x)(hx:Loc X.env.scope x)(r:RelV v u)
 (h:∀s',Inv X pins (σ.set i (some v)) H s'->(∃a,Heap.SameBut a s.heap s'.heap/\(a=X.env.locals\/X.env.cells.lookup x=some a))->Q () s') (hf:X.fn x=true\/X.env.scope.names.lookup x=some .local:=by first | exact .inl rfl | exact .inr rfl | assumption):wpAny M A (storeName X.env x u) Q E s:=by
 obtain⟨m,hn,hl⟩:=id I.loc;have hcls:(X.env.scope.kind== .class || (X.env.scope.kind== .module && X.env.locals !=X.env.globals))=false:=by rw[I.ok.kind];rfl
 have hiσ:i < σ.length:=by rw[I.len];exact(List.getElem?_eq_some_iff.mp hi).1
 have Oz:=I.Oz;have tracked:∀{a:Addr} {h':Heap},(∃o,s.heap.get? a=some o/\H a=none)->Heap.SameBut a s.heap h'->pR X.prog X.w H h':=fun {a h'} ha hs b ob e=>by
  obtain⟨_,_,hfree⟩:=ha;refine(I.hok b ob e).yN (fun c w' hc q=>(hs.2 c ?_).trans q) (fun _ q=>q) fun _ _ q=>q
  rintro rfl;rcases hc with rfl | hc
  .rw [hfree] at e;cases e
  .rw [hfree] at hc;cases hc
 rcases hx with hk | hk
 .refine wpAny_storeName_local hk hn (fun h' UD hs=>?_) hcls
  obtain⟨oL,_,_,hoL,_⟩:=id hn;refine h _ ⟨I.ok,I.os,I.bare,⟨fun b o e n hb hx=>?_,fun b o e n hb hx=>?_,I.base.free,fun b o e hx=>?_,I.base.tups,I.base.frzs,I.base.tbls⟩,⟨_,UD,fun j y v' e1 e2 e3=>?_⟩,fun y c e=>?_,I.free,I.freeC,fun p hp=>?_,tracked ⟨oL,hoL,I.free⟩ hs,by simpa using I.len⟩ ⟨_,hs, .inl rfl⟩
  .exact(hs.2 b (Nat.ne_of_lt (Nat.lt_of_lt_of_le (Heap.lt_size e) I.ok.above))).trans (I.base.keep b o e n hb hx)
  .obtain⟨sl,e1⟩:=I.base.slot b o e n hb hx;exact⟨sl,(hs.2 b (Nat.ne_of_lt (Nat.lt_of_lt_of_le (Heap.lt_size e) I.ok.above))).trans e1⟩
  .obtain⟨o',e1⟩:=I.base.there b o e hx;exact⟨o',(hs.2 b (Nat.ne_of_lt (Nat.lt_of_lt_of_le (Heap.lt_size e) I.ok.above))).trans e1⟩
  .by_cases hj:j=i
   .subst hj;rw[hi] at e1;cases e1;rw[List.getElem?_set_self hiσ] at e2;cases e2;exact⟨u,r, .inl ⟨hk,by simp⟩⟩
   .rw [List.getElem?_set_ne (Ne.symm hj)] at e2;obtain⟨u',r',q⟩:=hl j y v' e1 e2 e3;refine⟨u',r',?_⟩;rcases q with⟨k,e⟩ | ⟨k,c,e,z⟩
    .refine .inl ⟨k,?_⟩;have:y≠x:=fun e=>hj (AM hN e1 (e▸hi))
     simp [this,e]
    .exact .inr ⟨k,c,e,z.sameBut hs (Oz y c e)⟩
  .obtain⟨w',z⟩:=I.cell y c e;exact⟨w',z.sameBut hs (Oz y c e)⟩
  .obtain⟨e,n,ne,nf,d⟩:=I.pin p hp;exact⟨(hs.2 p.1 ne).trans e,n,ne,nf,d⟩
 .have hfn:X.fn x=true:=by
   rcases hf with z | z
   .exact z
   .rw [z] at hk;cases hk
  obtain⟨c,hc⟩:=I.ok.has x (.inl hk);obtain⟨w',z⟩:=I.cell x c hc;refine wpAny_storeName_cell I.ok.kind hk hc z (fun h' Gu hs=>?_)
  obtain⟨oc,hoc,hocd⟩:=id z;refine h {s with heap:=h'} ⟨I.ok,I.os,I.bare,⟨fun b o e n hb hx=>?_,fun b o e n hb hx=>?_,I.base.free,fun b o e hx=>?_,I.base.tups,I.base.frzs,I.base.tbls⟩,⟨m,hn.sameBut hs (Ne.symm (Oz x c hc)),fun j y v' e1 e2 e3=>?_⟩,fun y c' e=>?_,I.free,I.freeC,fun p hp=>?_,tracked ⟨oc,hoc,I.freeC x c hc⟩ hs,by simpa using I.len⟩ ⟨c,hs, .inr hc⟩
  .exact(hs.2 b (Nat.ne_of_lt (Nat.lt_of_lt_of_le (Heap.lt_size e) (I.ok.cab x c hfn hc)))).trans (I.base.keep b o e n hb hx)
  .obtain⟨sl,e1⟩:=I.base.slot b o e n hb hx;exact⟨sl,(hs.2 b (Nat.ne_of_lt (Nat.lt_of_lt_of_le (Heap.lt_size e) (I.ok.cab x c hfn hc)))).trans e1⟩
  .obtain⟨o',e1⟩:=I.base.there b o e hx;exact⟨o',(hs.2 b (Nat.ne_of_lt (Nat.lt_of_lt_of_le (Heap.lt_size e) (I.ok.cab x c hfn hc)))).trans e1⟩
  .by_cases hj:j=i
   .subst hj;rw[hi] at e1;cases e1;rw[List.getElem?_set_self hiσ] at e2;cases e2;exact⟨u,r, .inr ⟨.inl hk,c,hc,Gu⟩⟩
   .rw [List.getElem?_set_ne (Ne.symm hj)] at e2;obtain⟨u',r',q⟩:=hl j y v' e1 e2 e3;refine⟨u',r',?_⟩;rcases q with q | ⟨k,c',e,z'⟩
    .exact .inl q
    .refine .inr ⟨k,c',e,z'.sameBut hs ?_⟩;rintro rfl;exact hj (AM hN e1 (I.ok.inj _ _ _ e hc▸hi))
  .by_cases hcc:c'=c
   .subst hcc;exact⟨_,Gu⟩
   .obtain⟨w2,z2⟩:=I.cell y c' e;exact⟨w2,z2.sameBut hs hcc⟩
  .obtain⟨e,n,ne,nf,d⟩:=I.pin p hp;refine⟨(hs.2 p.1 ?_).trans e,n,ne,nf,d⟩;intro q;rw[q,hoc] at e;have q':oc=p.2:=Option.some.inj e;exact d w' (by rw[<-q'];exact hocd)
theorem Bj{M:Model}{A:Around}{E:Zl}{i:Nat}{x:Str}{v:V}{u:Value}{Q:Unit->Shared->Prop}(I:Inv X pins σ H s)(hN:X.N.Nodup)(hi:X.N[i]? =some x)(hx:Loc X.env.scope x)(r:RelV v u)
 (h:∀s',Inv X pins (σ.set i (some v)) H s'->Q () s') (hf:X.fn x=true\/X.env.scope.names.lookup x=some .local:=by first | exact .inl rfl | exact .inr rfl | assumption):wpAny M A (storeName X.env x u) Q E s:=
 yb I hN hi hx r (fun s' I' _=>h s' I') hf
theorem Inv.QG{s':Shared}{ch:List Addr}(I:Inv X pins σ H s)(ho:s'.os=s.os)(u:Un (Gs X.stack) ch H H' s.heap s'.heap)(hok:pR X.prog X.w H' s'.heap)(hg:AllBare s'.gens)
 (J0:∀b∈ch,(b∈X.ex\/X.s₀.heap.objs.size<=b)/\b≠X.env.locals/\(∀x c,X.env.cells.lookup x=some c->c≠b)/\∀p∈X.pn++pins,p.1≠b):Inv X pins σ H' s':=by
 obtain⟨h',g',d',t',o'⟩:=s';have e:o'=s.os:=ho;subst e;exact I.call (g':=g') (t':=t') (d':=d') u hok hg J0
end
abbrev XK:=Value->Option Addr->Hp->Prop
abbrev St:=List (Option V)
abbrev VK:=V->Hp->Prop
abbrev TE:=St->Hp->VK->Prop
abbrev TT:=St->Hp->(Bool->Hp->Prop)->Prop
abbrev TA:=St->Hp->(List V->Hp->Prop)->Prop
structure Ends where
 nx:St->Hp->Prop
 rt:VK
 bk:St->Hp->Prop:=fun _ _=>False
 ct:St->Hp->Prop:=fun _ _=>False
abbrev TS:=Ends->St->Hp->Prop
def EP(X:Cx)(pins:Zk)(σ:St)(Q:VK)(u:Value)(s':Shared):Prop:=∃v H',Inv X pins σ H' s'/\RelV v u/\Q v H'
def TP(X:Cx)(pins:Zk)(σ:St)(Q:Bool->Hp->Prop)(b:Bool)(s':Shared):Prop:=∃H',Inv X pins σ H' s'/\Q b H'
def AP(X:Cx)(pins:Zk)(σ:St)(Q:List V->Hp->Prop)(us:List Value)(s':Shared):Prop:=∃vs H',Inv X pins σ H' s'/\Vals vs us/\Q vs H'
def SP(X:Cx)(pins:Zk)(D:Ends)(f:Flow)(s':Shared):Prop:=
 match f with
 | .next=>∃de H',Inv X pins de H' s'/\D.nx de H'
 | .brk=>∃de H',Inv X pins de H' s'/\D.bk de H'
 | .cont=>∃de H',Inv X pins de H' s'/\D.ct de H'
 | .ret u=>∃v de H',Inv X pins de H' s'/\RelV v u/\D.rt v H'
def PE(X:Cx)(e:Expr)(t:TE):Prop:=
 ∀(pins:Zk) (s:Shared) (σ:St) (H:Hp) (Q:VK),Inv X pins σ H s->t σ H Q->wpAny (model X.prog X.w) X.A (eval e X.env) (EP X pins σ Q) X.xe s
def PT(X:Cx)(e:Expr)(t:TT):Prop:=
 ∀(pins:Zk) (s:Shared) (σ:St) (H:Hp) (Q:Bool->Hp->Prop),Inv X pins σ H s->t σ H Q->wpAny (model X.prog X.w) X.A (isTrue e X.env (eval e X.env)) (TP X pins σ Q) X.xe s
def PW(X:Cx)(e:Expr)(t:TT):Prop:=
 ∀(whole:Sem Value) (pins:Zk) (s:Shared) (σ:St) (H:Hp) (Q:Bool->Hp->Prop),Inv X pins σ H s->t σ H Q->wpAny (model X.prog X.w) X.A (isTrue e X.env whole) (TP X pins σ Q) X.xe s
theorem PW.pt{X:Cx}{t:TT}(h:PW X e t):PT X e t:=h _
def PA(X:Cx)(es:List Expr)(t:TA):Prop:=
 ∀(pos:Pos) (pins:Zk) (s:Shared) (σ:St) (H:Hp) (Q:List V->Hp->Prop),Inv X pins σ H s->t σ H Q->wpAny (model X.prog X.w) X.A (spliced (backTo pos (starEach es X.env))) (AP X pins σ Q) X.xe s
def PS(X:Cx)(st:Stmt)(t:TS):Prop:=
 ∀(pins:Zk) (s:Shared) (σ:St) (H:Hp) (D:Ends),Inv X pins σ H s->t D σ H->wpAny (model X.prog X.w) X.A (exec st X.env) (SP X pins D) X.xe s
def yR(X:Cx)(st:List Stmt)(t:TS):Prop:=
 ∀(pins:Zk) (s:Shared) (σ:St) (H:Hp) (D:Ends),Inv X pins σ H s->t D σ H->wpAny (model X.prog X.w) X.A (execs st X.env) (SP X pins D) X.xe s
theorem d6{α:Type}{t:Sem α}{Q Q':α->Shared->Prop}{M:Model}{E:Zl}{s:Shared}(h:wpAny M A t Q E s)(hQ:∀a s,Q a s->Q' a s):wpAny M A t Q' E s:=wpAny_mono h hQ fun _ _ x=>x
section
variable {X:Cx}
def TU(i:Nat):TE:=fun σ H Q=>∃v,σ[i]? =some (some v)/\Q v H
def tC(v:V):TE:=fun _ H Q=>Q v H
theorem we{i:Nat}{pos:Pos}(hN:X.N[i]? =some x)(hv:KP X.env.scope x)(hd:(x==("__debug__":Str))=false:=by decide)(wF:(x==("__classdict__":Str))=false:=by decide):PE X (.Name x pos) (TU i):=by
 intro pins s σ H Q I h;obtain⟨v,e,h⟩:=h;obtain⟨m,hn,hl⟩:=I.loc;obtain⟨u,r,l⟩:=hl i x v hN e hv;have fin:EP X pins σ Q u s:=⟨v,H,I,r,h⟩;rcases l with⟨hk,hm⟩ | ⟨hk,c,hc,hcell⟩
 .exact wpAny_Name (wpAny_loadName_local I.ok.kind hk hn hm fin) hd
 .rcases hk with hk | hk
  .exact wpAny_Name (wpAny_loadName_cell I.ok.kind hk hc hcell fin) hd
  .exact wpAny_Name (wpAny_loadName_free I.ok.kind hk hc hcell fin wF) hd
theorem M7{i j pos}:PE X (.Constant (.int i) j pos) (tC (.int i)):=fun _ _ _ H _ I h=>wpAny_Constant_int ⟨.int i,H,I.tok _,⟨_,rfl⟩,h⟩
theorem Qt{b j pos}:PE X (.Constant (.bool b) j pos) (tC (.bl b)):=fun _ _ _ H _ I h=>Constant_bool ⟨.bl b,H,I,rfl,h⟩
theorem NF{j pos}:PE X (.Constant .none j pos) (tC .cu):=fun _ _ _ H _ I h=>Constant_none ⟨.cu,H,I,rfl,h⟩
theorem NC{x j pos}:PE X (.Constant (.str x) j pos) (tC (.str x)):=fun _ _ _ H _ I h=>Calls.Constant_str ⟨.str x,H,I.tok _,⟨_,rfl⟩,h⟩
def Gl(X:Cx)(x:Str):Prop:=X.env.kindOf x=some .globalImplicit
theorem Dy{E:Zl}{pins:Zk}{s:Shared}{σ:St}{H:Hp}{x:Str}{u:Value}{pos:Pos}{Q:Zl}(I:Inv X pins σ H s)(hg:Gl X x)(hm:X.mg x=some u)(h:Q u s)
 (hd:(x==("__debug__":Str))=false:=by decide):wpAny (model X.prog X.w) X.A (eval (.Name x pos) X.env) Q E s:=
 Calls.Name_function_global I.ok.kind hg (Calls.loadGlobal_global (by rw[I.ok.glob];exact I.mod.glob.keeps I.bk) hm h) hd
theorem lQ{E:Zl}{pins:Zk}{s:Shared}{σ:St}{H:Hp}{x:Str}{u:Value}{pos:Pos}{Q:Zl}(I:Inv X pins σ H s)(hg:Gl X x)(hm:X.mg x=none)(hv:bootBuiltins x=some u)(h:Q u s)
 (hn:x≠"__name__":=by decide) (hd:(x==("__debug__":Str))=false:=by decide):wpAny (model X.prog X.w) X.A (eval (.Name x pos) X.env) Q E s:=by
 obtain⟨mb,h1,h2⟩:=I.mod.blt;exact Calls.Name_function_global I.ok.kind hg (Calls.loadGlobal_builtin (by rw[I.ok.glob];exact I.mod.glob.keeps I.bk) hm (by rw[I.ok.blt];exact h1.keeps I.bk) ((h2 x hn).trans hv) h) hd
def Sa(ta tb:TE)(k:Int->Int->Hp->Prop):St->Hp->Prop:=fun σ H=>ta σ H fun x H1=>tb σ H1 fun y H2=>∃i j,x= .int i/\y= .int j/\k i j H2
def Xi(ta tb:TE):TE:=fun σ H Q=>Sa ta tb (fun i j H2=>Q (.int (i+j)) H2) σ H
def Ws(ta tb:TE):TE:=fun σ H Q=>Sa ta tb (fun i j H2=>Q (.int (i - j)) H2) σ H
def Wo(ta tb:TE):TE:=fun σ H Q=>Sa ta tb (fun i j H2=>(-(2 ^ 64) < i/\i < 2 ^ 64)/\Q (.int (i*j)) H2) σ H
variable {a b:Expr} {ta tb:TE} {pos:Pos}
def PC(X:Cx)(op:CmpOp)(a b:Expr)(t:TE):Prop:=
 ∀(pins:Zk) (s:Shared) (σ:St) (H:Hp) (Q:VK),Inv X pins σ H s->t σ H Q->
  wpAny (model X.prog X.w) X.A (eval a X.env) (fun v s₁=>wpAny (model X.prog X.w) X.A (eval b X.env) (fun u Pc=>wpAny (model X.prog X.w) X.A (compareOp op v u) (EP X pins σ Q) X.xe Pc) X.xe s₁) X.xe s
def Fu(p:Int->Int->Bool)(ta tb:TE):TE:=fun σ H Q=>Sa ta tb (fun i j H2=>Q (.bl (p i j)) H2) σ H
abbrev Y1:TE->TE->TE:=Fu fun i j=>decide (i < j)
abbrev YX:TE->TE->TE:=Fu fun i j=>decide (i<=j)
abbrev Y4:TE->TE->TE:=Fu fun i j=>decide (j < i)
abbrev YV:TE->TE->TE:=Fu fun i j=>decide (j<=i)
abbrev WV:TE->TE->TE:=Fu fun i j=>decide (i=j)
abbrev WB:TE->TE->TE:=Fu fun i j=>!decide (i=j)
def W6(ta:TE):TE:=fun σ H Q=>ta σ H fun x H1=>Q (.bl (decide (x= .cu))) H1
def VB(ta:TE):TE:=fun σ H Q=>ta σ H fun x H1=>Q (.bl (!decide (x= .cu))) H1
def tB(t:TE):TT:=fun σ H Q=>t σ H fun x H1=>∃c,x= .bl c/\Q c H1
theorem N5{op:CmpOp}{t:TE}(h:PC X op a b t)(h1:behindInMarks op b=false:=by first | exact nobehind _ (by decide) (by decide) | rfl):PE X (.Compare a [op] [b] pos) t:=fun pins s σ H Q I hw=>wpAny_Compare1 (h pins s σ H Q I hw) h1
variable {tA So:TT} {rest:List Expr}
def SJ(t u:TT):TT:=fun σ H Q=>t σ H fun c H1=>if c=true then u σ H1 Q else Q false H1
def Xc(t u:TT):TT:=fun σ H Q=>t σ H fun c H1=>if c=true then Q true H1 else u σ H1 Q
def TB(t:TT):TT:=fun σ H Q=>t σ H fun c H1=>Q (!c) H1
theorem D4(ha:PT X a tA):PW X (.BoolOp .And [a] pos) tA:=by
 intro wh pins s σ H Q I h;refine isTrue_and (d6 (ha pins s σ H Q I h) fun c s1 e=>?_)
 cases c with
 | true=>exact isTrue_and_nil e
 | false=>exact e
theorem IM(ha:PT X a tA):PW X (.BoolOp .Or [a] pos) tA:=by
 intro wh pins s σ H Q I h;refine isTrue_or (d6 (ha pins s σ H Q I h) fun c s1 e=>?_)
 cases c with
 | false=>exact isTrue_or_nil e
 | true=>exact e
theorem HA(ha:PT X a tA)(hb:PW X (.BoolOp .And (b ::rest) pos) So):PW X (.BoolOp .And (a ::b ::rest) pos) (SJ tA So):=by
 intro wh pins s σ H Q I h;refine isTrue_and (d6 (ha pins s σ H _ I h) fun c s1 ⟨H1,I1,q1⟩=>?_)
 cases c with
 | true=>exact hb wh pins s1 σ H1 Q I1 q1
 | false=>exact⟨H1,I1,q1⟩
theorem Mu(ha:PT X a tA)(hb:PW X (.BoolOp .Or (b ::rest) pos) So):PW X (.BoolOp .Or (a ::b ::rest) pos) (Xc tA So):=by
 intro wh pins s σ H Q I h;refine isTrue_or (d6 (ha pins s σ H _ I h) fun c s1 ⟨H1,I1,q1⟩=>?_)
 cases c with
 | true=>exact⟨H1,I1,q1⟩
 | false=>exact hb wh pins s1 σ H1 Q I1 q1
theorem Iw(ha:PT X a tA):PT X (.UnaryOp .Not a pos) (TB tA):=by
 intro pins s σ H Q I h;exact isTrue_not (ha pins s σ H (fun c H1=>Q (!c) H1) I h)
def Vt(ta tb:TE):TE:=fun σ H Q=>ta σ H fun x H1=>∃c,x= .bl c/\if c=true then tb σ H1 Q else Q (.bl false) H1
def Tq(ta tb:TE):TE:=fun σ H Q=>ta σ H fun x H1=>∃c,x= .bl c/\if c=true then Q (.bl true) H1 else tb σ H1 Q
def VL(ta:TE):TE:=fun σ H Q=>ta σ H fun x H1=>∃c,x= .bl c/\Q (.bl (!c)) H1
theorem Ng{op}{t:TE}(h:PE X a t):PE X (.BoolOp op [a] pos) t:=fun pins s σ H Q I hw=>BoolOp_one (h pins s σ H Q I hw)
theorem Rm(ha:PE X a ta)(hb:PE X (.BoolOp .Or (b ::rest) pos) tb):PE X (.BoolOp .Or (a ::b ::rest) pos) (Tq ta tb):=by
 intro pins s σ H Q I h;refine BoolOp_or (d6 (ha pins s σ H _ I h) fun v s1 ⟨x,H1,I1,r1,q1⟩=>?_)
 obtain⟨c,rfl,q1⟩:=q1;cases r1;refine wpAny_truthy_bool ?_;cases c with
 | false=>exact hb pins s1 σ H1 Q I1 q1
 | true=>exact⟨.bl true,H1,I1,rfl,q1⟩
def WG(t:TT)(ta tb:TE):TE:=fun σ H Q=>t σ H fun c H1=>if c=true then ta σ H1 Q else tb σ H1 Q
theorem GF(hc:PT X c tA)(ha:PE X a ta)(hb:PE X b tb):PE X (.IfExp c a b pos) (WG tA ta tb):=by
 intro pins s σ H Q I h;refine wpAny_IfExp (d6 (hc pins s σ H _ I h) fun d s1 ⟨H1,I1,q1⟩=>?_)
 cases d with
 | true=>exact ha pins s1 σ H1 Q I1 q1
 | false=>exact hb pins s1 σ H1 Q I1 q1
end
def qT(K:W.Frag)(H:Hp)(a:Addr)(xs:List V):Prop:=
 Rd H a (.lst xs)\/
  ∃(o:Obj) (its:Array Value) (n:Nat),K.lookup a=some o/\o.cls= .type "list"/\o.dict=none/\o.data= .seq its n/\its.size<=sizeLine/\Vals xs its.toList
def tS(K:W.Frag)(H:Hp)(a:Addr)(xs:List V):Prop:=
 Rd H a (.tup xs)\/
  ∃(o:Obj) (its:Array Value) (n:Nat),K.lookup a=some o/\o.cls= .type "tuple"/\o.data= .seq its n/\its.size<=sizeLine/\Vals xs its.toList
def SI:Value->Option V
 | .none=>some .cu
 | .bool b=>some (.bl b)
 | .int i _=>some (.int i)
 | .str x _=>some (.str x)
 | .bytes b _=>some (.byt b)
 | .float b _=>some (.flt b)
 | .ref a=>some (.ref a)
 | .type n=>some (.ty n)
 | _=>none
theorem RelV.abs{x:V}{u:Value}(r:RelV x u):SI u=some x:=by
 cases x with
 | cu=>cases r;rfl
 | bl _=>cases r;rfl
 | int _=>obtain⟨t,rfl⟩:=r;rfl
 | str _=>obtain⟨t,rfl⟩:=r;rfl
 | byt _=>obtain⟨t,rfl⟩:=r;rfl
 | flt _=>obtain⟨t,rfl⟩:=r;rfl
 | ref _=>cases r;rfl
 | ty _=>cases r;rfl
theorem RelV.inj{x y:V}{u:Value}(r:RelV x u)(q:RelV y u):x=y:=Option.some.inj (r.abs.symm.trans q.abs)
theorem Vals.inj:∀{xs ys:List V} {us:List Value},Vals xs us->Vals ys us->xs=ys
 | _,_,_, .nil, .nil=>rfl
 | _,_,_, .cons r t, .cons r' t'=>by rw[r.inj r',Vals.inj t t']
section
variable {X:Cx} {pins:Zk} {σ:St} {H:Hp} {s:Shared} {a:Addr} {xs ys:List V}
theorem qT.of{K:W.Frag}(h:H a=some (.lst xs)):qT K H a xs:= .inl (.inl h)
theorem Inv.list(I:Inv X pins σ H s)(h:qT X.K H a xs):∃its:List Value,Vals xs its/\PlainL s.heap a its.toArray/\xs.length<=sizeLine:=by
 rcases h with h | ⟨o,its,n,hk,hc,hd,hs,hz,r⟩
 .obtain⟨z,its,n,r,e⟩:=h.ok I.hok;exact⟨its,r,⟨_,n,e,rfl,rfl,rfl⟩,z⟩
 .refine⟨its.toList,r,⟨o,n,I.D2 a o hk,hc,hd,by simpa using hs⟩,?_⟩
  have e:=r.length;simp only[Array.length_toList] at e;omega
theorem Inv.tuple(I:Inv X pins σ H s)(h:tS X.K H a xs):∃its:List Value,Vals xs its/\IsTup s.heap a its.toArray/\xs.length<=sizeLine:=by
 rcases h with h | ⟨o,its,n,hk,hc,hs,hz,r⟩
 .obtain⟨z,its,r,p⟩:=h.ok I.hok;exact⟨its,r,p,z⟩
 .refine⟨its.toList,r,⟨o,I.D2 a o hk,hc,n,by simpa using hs⟩,?_⟩
  have e:=r.length;simp only[Array.length_toList] at e;omega
theorem Inv.rn(I:Inv X pins σ H s)(h:qT X.K H a xs)(h':qT X.K H a ys):xs=ys:=by
 obtain⟨its,r,⟨o,n,e,_,_,d⟩,_⟩:=I.list h;obtain⟨its',r',⟨o',n',e',_,_,d'⟩,_⟩:=I.list h';rw[e] at e';cases e';rw[d] at d';injection d' with d1 _
 have:its=its':=by simpa using congrArg Array.toList d1
 subst this;exact r.inj r'
theorem Inv.tm(I:Inv X pins σ H s)(h:tS X.K H a xs)(h':tS X.K H a ys):xs=ys:=by
 obtain⟨its,r,⟨o,e,_,n,d⟩,_⟩:=I.tuple h;obtain⟨its',r',⟨o',e',_,n',d'⟩,_⟩:=I.tuple h';rw[e] at e';cases e';rw[d] at d';injection d' with d1 _
 have:its=its':=by simpa using congrArg Array.toList d1
 subst this;exact r.inj r'
end
abbrev Cx.wW(X:Cx)(E:Zl):Cx:={X with xe:=E}
abbrev Cx.Lp(X:Cx):Cx:=X.wW fun _ _=>False
theorem Cx.Ok.wW{X:Cx}(ok:X.Ok)(E:Zl):(X.wW E).Ok:=
 ⟨ok.mod,ok.kind,ok.glob,ok.blt,ok.above,ok.inj,ok.has,ok.cab,ok.hd,ok.frames,ok.stk,ok.exf,ok.bs,ok.bsz,ok.noex,ok.exfs,ok.ui,ok.frf⟩
theorem Cx.Ok.oi{X:Cx}{E:Zl}(ok:(X.wW E).Ok):X.Ok:=
 ⟨ok.mod,ok.kind,ok.glob,ok.blt,ok.above,ok.inj,ok.has,ok.cab,ok.hd,ok.frames,ok.stk,ok.exf,ok.bs,ok.bsz,ok.noex,ok.exfs,ok.ui,ok.frf⟩
section
variable {X:Cx} {pins:Zk} {σ:St} {H:Hp} {s:Shared} {E:Zl}
theorem Inv.wW(I:Inv X pins σ H s)(E:Zl):Inv (X.wW E) pins σ H s:=⟨I.ok.wW E,I.os,I.bare,I.base,I.loc,I.cell,I.free,I.freeC,I.pin,I.hok,I.len⟩
theorem Inv.oi(I:Inv (X.wW E) pins σ H s):Inv X pins σ H s:=⟨I.ok.oi,I.os,I.bare,I.base,I.loc,I.cell,I.free,I.freeC,I.pin,I.hok,I.len⟩
theorem SP.oi{D:Ends}{f:Flow}{s':Shared}(h:SP (X.wW E) pins D f s'):SP X pins D f s':=by
 cases f with
 | next=>obtain⟨de,H',I,q⟩:=h;exact⟨de,H',I.oi,q⟩
 | brk=>obtain⟨de,H',I,q⟩:=h;exact⟨de,H',I.oi,q⟩
 | cont=>obtain⟨de,H',I,q⟩:=h;exact⟨de,H',I.oi,q⟩
 | ret u=>obtain⟨v,de,H',I,r,q⟩:=h;exact⟨v,de,H',I.oi,r,q⟩
theorem yR.Lp{st:List Stmt}{t:TS}(h:yR X.Lp st t):yR X st t:=fun pins s σ H D I hw=>
 wpAny_mono (h pins s σ H D (I.wW _) hw) (fun _ _ q=>q.oi) fun _ _ z=>False.elim z
end
section
variable {X:Cx} {st:Stmt} {rest:List Stmt} {t u:TS} {e:Expr} {te:TE} {pos:Pos}
def Ql:TS:=fun D σ H=>D.nx σ H
def Ra(t u:TS):TS:=fun D σ H=>t {D with nx:=u D} σ H
theorem y_:yR X [] Ql:=fun _ _ σ H _ I h=>wpAny_execs_nil ⟨σ,H,I,h⟩
theorem vL(h1:PS X st t)(h2:yR X rest u):yR X (st ::rest) (Ra t u):=by
 intro pins s σ H D I h;refine wpAny_execs_cons (d6 (h1 pins s σ H {D with nx:=u D} I h) fun f s1 q=>?_)
 cases f with
 | next=>
   obtain⟨de,H',I',q⟩:=q;exact h2 pins s1 de H' D I' q
 | ret v=>exact q
 | brk=>exact q
 | cont=>exact q
theorem yC(h1:PS X st t):yR X [st] t:=by
 intro pins s σ H D I h;refine wpAny_execs_cons (d6 (h1 pins s σ H D I h) fun f s1 q=>?_)
 cases f with
 | next=>exact wpAny_execs_nil q
 | ret v=>exact q
 | brk=>exact q
 | cont=>exact q
def TX:TS:=fun D σ H=>D.bk σ H
def Rl:TS:=fun D σ H=>D.ct σ H
theorem AN:PS X (.Continue pos) Rl:=fun _ _ σ H _ I h=>wpAny_Continue ⟨σ,H,I,h⟩
theorem Inv.quiet{pins:Zk}{s:Shared}(I:Inv X pins σ H s):interactive X.env=false:=by simp [interactive,I.ok.kind]
def P1(te:TE):TS:=fun D σ H=>te σ H fun _ H1=>D.nx σ H1
theorem D7(he:PE X e te)(hs:swapsWith e none pos.line X.env=pure false:=by rfl):PS X (.Expr e pos) (P1 te):=by
 intro pins s σ H D I h;exact wpAny_Expr_any (d6 (he pins s σ H _ I h) fun v s1 ⟨x,H1,I1,r1,q1⟩=>⟨σ,H1,I1,q1⟩) I.quiet hs
def Sx(te:TE):TS:=fun D σ H=>te σ H D.rt
theorem GX(he:PE X e te):PS X (.Return (some e) pos) (Sx te):=by
 intro pins s σ H D I h;exact wpAny_Return_some (d6 (he pins s σ H _ I h) fun v s1 ⟨x,H1,I1,r1,q1⟩=>⟨x,σ,H1,I1,r1,q1⟩)
def Vj:TS:=fun D _ H=>D.rt .cu H
def Tb(c:TT)(t u:TS):TS:=fun D σ H=>c σ H fun b H1=>if b=true then t D σ H1 else u D σ H1
theorem GJ{tc:TT}(hc:PT X c tc)(ha:yR X a t)(hb:yR X b u):PS X (.If c a b pos) (Tb tc t u):=by
 intro pins s σ H D I h;refine wpAny_If (d6 (hc pins s σ H _ I h) fun d s1 ⟨H1,I1,q1⟩=>?_)
 cases d with
 | true=>exact ha pins s1 σ H1 D I1 q1
 | false=>exact hb pins s1 σ H1 D I1 q1
def SH:TS:=fun _ _ _=>False
end
abbrev TG:=V->St->Hp->(St->Hp->Prop)->Prop
abbrev HU:=List V->St->Hp->(St->Hp->Prop)->Prop
def PG(X:Cx)(target:Expr)(t:TG):Prop:=
 ∀(pins:Zk) (s:Shared) (σ:St) (H:Hp) (v:V) (u:Value) (Q:St->Hp->Prop),Inv X pins σ H s->RelV v u->t v σ H Q->
  wpAny (model X.prog X.w) X.A (assign target X.env u) (fun _ s'=>∃de H',Inv X pins de H' s'/\Q de H') X.xe s
def Ll(X:Cx)(ts:List Expr)(t:HU):Prop:=
 ∀(pins:Zk) (s:Shared) (σ:St) (H:Hp) (vs:List V) (us:List Value) (Q:St->Hp->Prop),Inv X pins σ H s->Vals vs us->t vs σ H Q->
  wpAny (model X.prog X.w) X.A (assignInOrder ((assignEach ts X.env).map (·.2)) us) (fun _ s'=>∃de H',Inv X pins de H' s'/\Q de H') X.xe s
abbrev OY:=V->V->V->Hp->(Hp->Prop)->Prop
def Wl(X:Cx)(t:OY):Prop:=
 ∀(pins:Zk) (s:Shared) (σ:St) (H:Hp) (o i v:V) (ov iv u:Value) (Q:Hp->Prop),Inv X pins σ H s->RelV o ov->RelV i iv->RelV v u->t o i v H Q->
  wpAny (model X.prog X.w) X.A (setItem ov iv u) (fun _ s'=>∃H',Inv X pins σ H' s'/\Q H') X.xe s
abbrev R4:=V->V->Hp->VK->Prop
def YL(X:Cx)(op:Operator)(t:R4):Prop:=
 ∀(pins:Zk) (s:Shared) (σ:St) (H:Hp) (x y:V) (v u:Value) (Q:VK),Inv X pins σ H s->RelV x v->RelV y u->t x y H Q->
  wpAny (model X.prog X.w) X.A (inplaceOp op v u) (EP X pins σ Q) X.xe s
section
variable {X:Cx} {pos:Pos}
def wa(i:Nat):TG:=fun v σ H Q=>Q (σ.set i (some v)) H
theorem Dz{i:Nat}(hN:X.N.Nodup)(hi:X.N[i]? =some x)(hx:Loc X.env.scope x)(hf:X.fn x=true\/X.env.scope.names.lookup x=some .local:=by first | exact .inl rfl | exact .inr rfl | assumption):PG X (.Name x pos) (wa i):=by
 intro pins s σ H v u Q I r h;exact wpAny_assign_Name (Bj I hN hi hx r (fun s' I'=>⟨_,H,I',h⟩) hf)
def T7:HU:=fun vs σ H Q=>vs=[]/\Q σ H
def QF(t:TG)(u:HU):HU:=fun vs σ H Q=>∃v r,vs=v ::r/\t v σ H fun de H'=>u r de H' Q
theorem DK:Ll X [] T7:=by
 intro pins s σ H vs us Q I r h;obtain⟨e,h⟩:=h;subst e;cases r;exact assignInOrder_nil ⟨σ,H,I,h⟩
theorem AS{e:Expr}{es:List Expr}{t:TG}{u:HU}(h1:PG X e t)(h2:Ll X es u)
 (hs:(assignEach (e ::es) X.env).map (·.2)=assign e X.env ::(assignEach es X.env).map (·.2):=by rfl):Ll X (e ::es) (QF t u):=by
 intro pins s σ H vs us Q I r h;obtain⟨v,vr,e1,h⟩:=h;subst e1;cases r with
 | cons r rr=>
   rw[hs];refine assignInOrder_cons (d6 (h1 pins s σ H _ _ _ I r h) fun _ s1 ⟨J2,H1,I1,q1⟩=>?_)
   exact h2 pins s1 J2 H1 _ _ Q I1 rr q1
def Sw(K:W.Frag)(n:Nat)(t:HU):TG:=fun v σ H Q=>∃a xs,v= .ref a/\tS K H a xs/\xs.length=n/\t xs σ H Q
theorem II{es:List Expr}{k:Nat}{t:HU}{n:Nat}(hc:X.calm=true)(h:Ll X es t)
 (hn:(assignEach es X.env).length=n:=by rfl) (Jt:(assignEach es X.env).findIdx? (·.1)=none:=by rfl):PG X (.Tuple es k pos) (Sw X.K n t):=by
 intro pins s σ H v u Q I r hw;obtain⟨a,xs,e1,hq,hl,hw⟩:=hw;subst e1;cases r;obtain⟨its,rv,ht,hz⟩:=I.tuple hq;refine assign_Tuple_tuple (I.ok.hd hc) ht (by simp [hn,<-hl,rv.length]) Jt fun h' hx=>?_
 have I1:Inv X pins σ H {s with heap:=h'}:=I.kept (t':=s.toks) fun b o e=>hx b o (Nat.ne_of_lt (Heap.lt_size e)) e
 exact h pins _ σ H xs _ Q I1 (by simpa using rv) hw
def Wx(to ti:TE)(t:OY):TG:=fun v σ H Q=>to σ H fun o H1=>ti σ H1 fun i H2=>t o i v H2 fun H3=>Q σ H3
def F3(te:TE)(g:TG):TS:=fun D σ H=>te σ H fun x H1=>g x σ H1 D.nx
theorem OX{tg e:Expr}{te:TE}{g:TG}(he:PE X e te)(hg:PG X tg g)(hs:swapsWithSole [tg] e pos.line X.env=pure false:=by rfl)(hw:swappedStores [tg] e X.env=pure none:=by rfl)
 (h1:(assignEach [tg] X.env).map (·.2)=[assign tg X.env]:=by rfl):PS X (.Assign [tg] e pos) (F3 te g):=by
 intro pins s σ H D I h;refine wpAny_Assign_stores (d6 (he pins s σ H _ I h) fun v s1 ⟨x,H1,I1,r1,q1⟩=>?_) hs hw
 rw[h1];exact d6 (hg pins s1 σ H1 x v _ I1 r1 q1) fun _ s2 q=>q
theorem BZ{i:Nat}{te:TE}(hN:X.N.Nodup)(hi:X.N[i]? =some x)(hx:Loc X.env.scope x)(he:PE X e te)(hs:swapsWith e (some (.Name x pos')) pos.line X.env=pure false:=by rfl)(hf:X.fn x=true\/X.env.scope.names.lookup x=some .local:=by first | exact .inl rfl | exact .inr rfl | assumption) :
 PS X (.Assign [.Name x pos'] e pos) (F3 te (wa i)):=by
 intro pins s σ H D I h;refine wpAny_Assign_Name (d6 (he pins s σ H _ I h) fun v s1 ⟨y,H1,I1,r1,q1⟩=>?_) hs
 exact Bj I1 hN hi hx r1 (fun s2 I2=>⟨_,H1,I2,q1⟩) hf
def Xo(i j:Nat)(ta:TA):TS:=fun D σ H=>ta σ H fun vs H1=>∃v w,vs=[v,w]/\D.nx ((σ.set i (some v)).set j (some w)) H1
def WR(i:Nat)(te:TE)(ti:R4):TS:=fun D σ H=>∃x,σ[i]? =some (some x)/\te σ H fun y H1=>ti x y H1 fun z H2=>D.nx (σ.set i (some z)) H2
def Vb(to ti te:TE)(UM:V->V->Hp->VK->Prop)(XO:R4)(UR:OY):TS:=fun D σ H=>to σ H fun o H1=>ti σ H1 fun i H2=>UM o i H2 fun x H3=>te σ H3 fun y H4=>XO x y H4 fun z H5=>UR o i z H5 fun H6=>D.nx σ H6
def We(X:Cx)(t:V->V->Hp->VK->Prop):Prop:=
 ∀(pins:Zk) (s:Shared) (σ:St) (H:Hp) (o i:V) (ov iv:Value) (Q:VK),Inv X pins σ H s->RelV o ov->RelV i iv->t o i H Q->
  wpAny (model X.prog X.w) X.A (getItem ov iv) (EP X pins σ Q) X.xe s
def YZ(f:Int->Int->Int):R4:=fun x y H Q=>∃i j,x= .int i/\y= .int j/\Q (.int (f i j)) H
end
section
variable {X:Cx} {pos:Pos}
def N0(c:TT)(tb:TS):TS:=fun D σ H=>∃W:Nat->St->Hp->Prop,(∃m,W m σ H)/\∀m σ H,W m σ H->
 c σ H fun b H1=>if b=true then ∃N:St->Hp->Prop,(∀de H',N de H'->∃m',m' < m/\W m' de H')/\tb {D with nx:=N,ct:=N,bk:=D.nx} σ H1 else D.nx σ H1
theorem Im{tc:TT}{tb:TS}(hp:PassesOwn (model X.prog X.w) X.A X.env X.xe)(hc:PT X c tc)(hb:yR X body tb):PS X (.While c body [] pos) (N0 tc tb):=by
 intro pins s σ H D I h;obtain⟨W,⟨m0,w0⟩,turn⟩:=h;refine wpAny_While (codeAny_whileLoop (fun n s'=>∃de H',Inv X pins de H' s'/\W n de H') ?_ m0 ⟨σ,H,I,w0⟩)
 rintro n s1 ⟨J2,H1,I1,w1⟩;refine wpAny_passesOwn hp (d6 (hc pins s1 J2 H1 _ I1 (turn n J2 H1 w1)) fun b s2 ⟨H2,I2,q2⟩=>?_)
 cases b with
 | true=>
   obtain⟨N,hN,q2⟩:=q2;rw[if_pos rfl];refine wpAny_passesOwn hp (d6 (hb pins s2 J2 H2 _ I2 q2) fun f s3 q3=>?_)
   cases f with
   | next=>
     obtain⟨By,H3,I3,n3⟩:=q3;obtain⟨m',hm,w3⟩:=hN By H3 n3;exact⟨m',hm,By,H3,I3,w3⟩
   | cont=>
     obtain⟨By,H3,I3,n3⟩:=q3;obtain⟨m',hm,w3⟩:=hN By H3 n3;exact⟨m',hm,By,H3,I3,w3⟩
   | brk=>exact q3
   | ret v=>exact q3
 | false=>
   rw[if_neg Bool.false_ne_true];exact wpAny_execs_nil ⟨J2,H2,I2,q2⟩
end
structure It where
 go:Nat->Hp->Prop
 yld:Nat->Hp->V->Hp->Prop
 stop:Nat->Hp->Prop
def uz(X:Cx)(pins:Zk)(H:Hp)(b:Addr):Prop:=
 H b=none/\b≠X.env.locals/\b ∉ X.fs/\(b∈X.ex\/X.s₀.heap.objs.size<=b)/\(∀x c,X.env.cells.lookup x=some c->c≠b)/\∀p∈X.pn++pins,p.1≠b
theorem Inv.vm{X:Cx}{pins:Zk}{H H':Hp}{s:Shared}{b:Addr}(I:Inv X pins σ H s)(hb:s.heap.objs.size<=b)(hn:H' b=none):uz X pins H' b:=by
 refine⟨hn,Nat.ne_of_gt (Nat.lt_of_lt_of_le I.lt hb),I.T9 hb, .inr (Nat.le_trans I.sz hb),fun x c e z=>?_,fun p hp z=>?_⟩
 .obtain⟨v,q⟩:=I.cell x c e;exact absurd (Nat.lt_of_lt_of_le q.lt (by rw[z];exact hb)) (Nat.lt_irrefl _)
 .exact absurd (Nat.lt_of_lt_of_le (Heap.lt_size (I.pin p hp).1) (by rw[z];exact hb)) (Nat.lt_irrefl _)
structure Turn (P:Program) (w:World) (K:W.Frag) (tg:Expr) (J:It) (fp:List Addr) (it:Addr) (tn:Nat->Heap->Prop):Prop where
 mem:it∈fp
 obj:∀i h,tn i h->∀b∈fp,∃o,h.get? b=some o/\∀v,o.data≠ .cell v
 keep:∀i h h',tn i h->(∀b∈fp,∀o,h.get? b=some o->h'.get? b=some o)->tn i h'
 item:∀(X:Cx),X.prog=P->X.w=w->X.K=K->X.calm=true->∀(i:Nat) (pins:Zk) (s:Shared) (σ:St) (H:Hp) (E:Zl),Inv X pins σ H s->(∀b∈fp,uz X pins H b)->tn i s.heap->J.go i H->
  wpAny (model P w) X.A (pyNext (.ref it)) (fun r s1=>∃u,r=some u/\
   wpAny (model P w) X.A (letOwnedTupleGo tg (.ref it) u) (fun _ s2=>∃x H',Inv X pins σ H' s2/\RelV x u/\J.yld i H x H'/\tn (i+1) s2.heap/\∀b∈fp,H' b=none) E s1) E s
 done:∀(X:Cx),X.prog=P->X.w=w->X.K=K->X.calm=true->∀(i:Nat) (pins:Zk) (s:Shared) (σ:St) (H:Hp) (E:Zl),Inv X pins σ H s->(∀b∈fp,uz X pins H b)->tn i s.heap->J.stop i H->
  wpAny (model P w) X.A (pyNext (.ref it)) (fun r s1=>r=none/\Inv X pins σ H s1) E s
 self:∀(A:Around) (i:Nat) (s:Shared) (Q:Zl) (E:Zl),tn i s.heap->Q (.ref it) s->wpAny (model P w) A (pyIter (.ref it)) Q E s
abbrev TI:=St->Hp->(It->Hp->Prop)->Prop
def Vp(X:Cx)(pins:Zk)(σ:St)(tg:Expr)(R:It->Hp->Prop)(Sk:Value)(s2:Shared):Prop:=
 ∃(it:Addr) (fp:List Addr) (tn:Nat->Heap->Prop) (J:It) (H':Hp),Sk= .ref it/\Inv X pins σ H' s2/\Turn X.prog X.w X.K tg J fp it tn/\tn 0 s2.heap/\(∀b∈fp,uz X pins H' b)/\R J H'
def PI(X:Cx)(tg iter:Expr)(wi:TI):Prop:=
 ∀(pins:Zk) (s:Shared) (σ:St) (H:Hp) (R:It->Hp->Prop),Inv X pins σ H s->wi σ H R->
  wpAny (model X.prog X.w) X.A (eval iter X.env) (fun v s1=>wpAny (model X.prog X.w) X.A (pyIter v) (Vp X pins σ tg R) X.xe s1) X.xe s
theorem Ep{M:Model}{A:Around}{E:Zl}{s:Shared}{tg:Expr}{it:Addr}{u:Value}{o:Obj}{n:String}{vs:Array Value}{Q:Unit->Shared->Prop}(ho:s.heap.get? it=some o)(hc:o.cls= .type n)(hd:o.data= .fields vs)
 (hn:["enumerate","zip","dict_itemiterator","dict_reverseitemiterator","odict_iterator","itertools.zip_longest","itertools.pairwise"].contains n=false) (hQ:Q () s):wpAny M A (letOwnedTupleGo tg (.ref it) u) Q E s:=by
 unfold letOwnedTupleGo;cases tg <;> first
  | exact wpAny_pure hQ
  | (cases u <;> first
      | exact wpAny_pure hQ
      | (refine wpAny_bind (wpAny_load ho ?_)
         rw[hc,hd];show wpAny M A (if(["enumerate","zip","dict_itemiterator","dict_reverseitemiterator","odict_iterator","itertools.zip_longest","itertools.pairwise"].contains n && vs[0]? ==some (rawInt _))=true then _ else _) Q E s
         rw[if_neg (by intro h;rw [hn,Bool.false_and] at h;cases h)]
         exact wpAny_pure hQ))
def VO(K:W.Frag)(a:Addr):It:=
 ⟨fun i H=>∃xs x,qT K H a xs/\xs[i]? =some x,fun i H x H'=>H'=H/\∀xs,qT K H a xs->xs[i]? =some x,fun i H=>∃xs,qT K H a xs/\xs.length<=i⟩
def VD(K:W.Frag)(a:Addr):It:=
 ⟨fun i H=>∃xs x,tS K H a xs/\xs[i]? =some x,fun i H x H'=>H'=H/\∀xs,tS K H a xs->xs[i]? =some x,fun i H=>∃xs,tS K H a xs/\xs.length<=i⟩
def QH(lo:Int)(n:Nat):It:=⟨fun i _=>i < n,fun i H x H'=>H'=H/\x= .int (lo+i),fun i _=>n<=i⟩
theorem xp{K:W.Frag}(a it:Addr):Turn P w K tg (VO K a) [it] it (fun i h=>h.IsListIter it a i) where
 mem:=by simp
 obj:=fun i h st b hb=>by
  have e:b=it:=by simpa using hb
  subst e;obtain⟨o,e,c,d⟩:=st;exact⟨o,e,fun v z=>by rw[d] at z;cases z⟩
 keep:=fun i h h' st k=>st.at fun o e=>k it (by simp) o e
 item:=by
  intro X hP hw hK hc i pins s σ H E I hf st hg;subst hP hw hK;obtain⟨xs,x,hq,hx⟩:=hg;obtain⟨its,rv,p,hz⟩:=I.list hq;obtain⟨u,hu,ru⟩:=rv.get hx;obtain⟨f0,f1,f2,f3,f4,f5⟩:=hf it (by simp)
  refine wpAny_pyNext_list_item st p.isList (x:=u) (by simpa using hu) fun h' Jy sb=>?_
  have I1:Inv X pins σ H {s with heap:=h'}:=I.turned (t':=s.toks) (fun b o hb e=>(sb.2 b hb).trans e) f0 f1 f3 f4 f5
  obtain⟨o,e,c,d⟩:=id Jy;exact⟨u,rfl,Ep (s:={s with heap:=h'}) e c d (by decide) ⟨x,H,I1,ru,⟨rfl,fun ys hy=>by rw[I.rn hy hq];exact hx⟩,Jy,fun b hb=>(hf b hb).1⟩⟩
 done:=by
  intro X hP hw hK hc i pins s σ H E I hf st hg;subst hP hw hK;obtain⟨xs,hq,hx⟩:=hg;obtain⟨its,rv,p,hz⟩:=I.list hq;obtain⟨f0,f1,f2,f3,f4,f5⟩:=hf it (by simp)
  have hl:=rv.length;exact wpAny_pyNext_list_end (I.ok.hd hc) st p.isList (by simp;omega) fun h' eb=>⟨rfl,I.turned (t':=s.toks) (fun b o hb e=>eb b o hb e) f0 f1 f3 f4 f5⟩
 self:=fun _ _ _ _ _ st h=>wpAny_pyIter_listiter st h
theorem B9{K:W.Frag}(a it:Addr):Turn P w K tg (VD K a) [it] it (fun i h=>h.IsTupleIter it a i) where
 mem:=by simp
 obj:=fun i h st b hb=>by
  have e:b=it:=by simpa using hb
  subst e;obtain⟨o,e,c,d⟩:=st;exact⟨o,e,fun v z=>by rw[d] at z;cases z⟩
 keep:=fun i h h' st k=>st.at fun o e=>k it (by simp) o e
 item:=by
  intro X hP hw hK hc i pins s σ H E I hf st hg;subst hP hw hK;obtain⟨xs,x,hq,hx⟩:=hg;obtain⟨its,rv,p,hz⟩:=I.tuple hq;obtain⟨u,hu,ru⟩:=rv.get hx;obtain⟨f0,f1,f2,f3,f4,f5⟩:=hf it (by simp)
  refine wpAny_pyNext_tuple_item st (show s.heap.IsTuple a its.toArray from p) (x:=u) (by simpa using hu) fun h' Jy sb=>?_
  have I1:Inv X pins σ H {s with heap:=h'}:=I.turned (t':=s.toks) (fun b o hb e=>(sb.2 b hb).trans e) f0 f1 f3 f4 f5
  obtain⟨o,e,c,d⟩:=id Jy;exact⟨u,rfl,Ep (s:={s with heap:=h'}) e c d (by decide) ⟨x,H,I1,ru,⟨rfl,fun ys hy=>by rw[I.tm hy hq];exact hx⟩,Jy,fun b hb=>(hf b hb).1⟩⟩
 done:=by
  intro X hP hw hK hc i pins s σ H E I hf st hg;subst hP hw hK;obtain⟨xs,hq,hx⟩:=hg;obtain⟨its,rv,p,hz⟩:=I.tuple hq;obtain⟨f0,f1,f2,f3,f4,f5⟩:=hf it (by simp)
  have hl:=rv.length;exact wpAny_pyNext_tuple_end (I.ok.hd hc) st (show s.heap.IsTuple a its.toArray from p) (by simp;omega) fun h' eb=>⟨rfl,I.turned (t':=s.toks) (fun b o hb e=>eb b o hb e) f0 f1 f3 f4 f5⟩
 self:=fun _ _ _ _ _ st h=>wpAny_pyIter_tupleiter st h
theorem CM{K:W.Frag}(it:Addr)(lo:Int)(n:Nat):Turn P w K tg (QH lo n) [it] it (fun i h=>IsRangeIter h it (lo+(i:Nat)*1) ((n:Int) - (i:Nat)) 1) where
 mem:=by simp
 obj:=fun i h st b hb=>by
  have e:b=it:=by simpa using hb
  subst e;exact⟨_,st,fun v z=>by
   have z':Data.fields _=Data.cell v:=z;cases z'⟩
 keep:=fun i h h' st k=>k it (by simp) _ st
 item:=by
  intro X hP hw hK hc i pins s σ H E I hf st hg;subst hP hw hK;obtain⟨f0,f1,f2,f3,f4,f5⟩:=hf it (by simp)
  have W:=Walks.range (prog:=X.prog) (w:=X.w) (I.ok.hd hc) it lo 1 n;refine W.item i s _ _ hg st fun v h' tk hv Jy kk=>?_
  obtain⟨t,rfl⟩:=hv;have I1:Inv X pins σ H {s with heap:=h',toks:=tk}:=I.turned (fun b o hb e=>kk b o (by simpa using hb) e) f0 f1 f3 f4 f5
  refine⟨_,rfl,Ep (s:={s with heap:=h',toks:=tk}) (n:="range_iterator") Jy rfl rfl (by decide) ⟨.int (lo+i),H,I1,⟨t,?_⟩,⟨rfl,rfl⟩,Jy,fun b hb=>(hf b hb).1⟩⟩
  rw[Int.mul_one]
 done:=by
  intro X hP hw hK hc i pins s σ H E I hf st hg;subst hP hw hK;obtain⟨f0,f1,f2,f3,f4,f5⟩:=hf it (by simp)
  exact wpAny_pyNext_range_end (I.ok.hd hc) st (by have:n<=i:=hg;omega) fun h' eb=>⟨rfl,I.turned (t':=s.toks) (fun b o hb e=>eb b o hb e) f0 f1 f3 f4 f5⟩
 self:=fun _ _ _ _ _ st h=>wpAny_pyIter_rangeiter st h
section
variable {X:Cx} {tg:Expr}
def Vq(K:W.Frag)(tl:TE):TI:=fun σ H R=>tl σ H fun x H1=>∃a,x= .ref a/\(∃xs,qT K H1 a xs)/\R (VO K a) H1
def T4(K:W.Frag)(tl:TE):TI:=fun σ H R=>tl σ H fun x H1=>∃a,x= .ref a/\(∃xs,tS K H1 a xs)/\R (VD K a) H1
theorem G6{pins:Zk}{σ:St}{H:Hp}{s:Shared}{R:It->Hp->Prop}{E:Zl}{lo hi:Int}{t u v:Tok}{tk:Nat}(I:Inv X pins σ H s)(h1: -(2 ^ 62)<=lo)(h2:lo < 2 ^ 62)(h3: -(2 ^ 62)<=hi)(h4:hi < 2 ^ 62)
 (q:R (QH lo (hi - lo).toNat) H):wpAny (model X.prog X.w) X.A (pyIter (.ref s.heap.objs.size)) (Vp X pins σ tg R) E {s with heap:=s.heap.push {cls:= .type "range",data:= .fields #[.int lo t, .int hi u, .int 1 v]},toks:=tk}:=by
 refine wpAny_pyIter_range (IsRange.new ..) (small_one h1 h2 h3 h4) ?_;have I1:Inv X pins σ H {s with heap:=s.heap.push {cls:= .type "range",data:= .fields #[.int lo t, .int hi u, .int 1 v]},toks:=tk}:=I.kept fun b o e=>Heap.get?_push_of_some _ e
 refine⟨(s.heap.push {cls:= .type "range",data:= .fields #[.int lo t, .int hi u, .int 1 v]}).objs.size,[(s.heap.push {cls:= .type "range",data:= .fields #[.int lo t, .int hi u, .int 1 v]}).objs.size],_,_,H,rfl,
  I1.kept (t':=tk) fun b o e=>Heap.get?_push_of_some _ e,CM _ lo (hi - lo).toNat,?_,fun b hb=>?_,q⟩
 .have e1:lo+((0:Nat):Int)*1=lo:=by simp
  have e2:(((hi - lo).toNat:Nat):Int) - ((0:Nat):Int)=Builtin.Range.rangeSize lo hi 1:=by rw[rangeSize_one];split <;> omega
  show IsRangeIter _ _ (lo+((0:Nat):Int)*1) ((((hi - lo).toNat:Nat):Int) - ((0:Nat):Int)) 1;rw[e1,e2];exact Heap.get?_push_size _ rfl
 .have e:b=(s.heap.push {cls:= .type "range",data:= .fields #[.int lo t, .int hi u, .int 1 v]}).objs.size:=by simpa using hb
  subst e;exact I1.vm (Nat.le_refl _) (I1.hok.fresh (Nat.le_refl _))
def A0(ta:TA):TI:=fun σ H R=>ta σ H fun vs H1=>∃j:Int,vs=[.int j]/\ -(2 ^ 62)<=j/\j < 2 ^ 62/\R (QH 0 j.toNat) H1
def VH(ta:TA):TI:=fun σ H R=>ta σ H fun vs H1=>∃i j:Int,vs=[.int i, .int j]/\(-(2 ^ 62)<=i/\i < 2 ^ 62/\ -(2 ^ 62)<=j/\j < 2 ^ 62)/\R (QH i (j - i).toNat) H1
theorem xJ{ta:TA}{p pos:Pos}(hg:Gl X "range")(hm:X.mg "range"=none)(ha:PA X [a] ta)(hs:starEach [a] X.env=[(false,eval a X.env)]:=by rfl):PI X tg (.Call (.Name "range" p) [a] [] pos) (A0 ta):=by
 intro pins s σ H R I h;refine Call_ (lQ I hg hm boot_range (PyProof.Rows.callWith_type1 (d6 (ha pos pins s σ H _ I h) fun us s1 ⟨vs,H1,I1,r1,q1⟩=>?_) hs rfl))
 obtain⟨j,e,q1,q2,q⟩:=q1;subst e;cases r1 with
 | cons r rr=>
   cases rr;obtain⟨t,rfl⟩:=r;exact call_range_1 (G6 I1 (by omega) (by omega) q1 q2 (by simpa using q))
def S7(wi:TI)(g:TG)(tb:TS):TS:=fun D σ H=>wi σ H fun J H1=>∃W:Nat->Nat->St->Hp->Prop,(∃m,W 0 m σ H1)/\∀i m σ H,W i m σ H->
 (J.stop i H/\D.nx σ H)\/(J.go i H/\∃N:St->Hp->Prop,(∀de H',N de H'->∃m',m' < m/\W (i+1) m' de H')/\∀x H',J.yld i H x H'->g x σ H' fun wH H2=>tb {D with nx:=N,ct:=N,bk:=D.nx} wH H2)
def qr(fp:List Addr)(h:Heap):Zk:=fp.filterMap fun b=>(h.get? b).map fun o=>(b,o)
theorem m8{fp:List Addr}{h:Heap}{b:Addr}{o:Obj}(hb:b∈fp)(e:h.get? b=some o):(b,o)∈qr fp h:=List.mem_filterMap.mpr ⟨b,hb,by rw[e];rfl⟩
theorem FK{fp:List Addr}{h:Heap}{p:Addr × Obj}(hp:p∈qr fp h):p.1∈fp/\h.get? p.1=some p.2:=by
 obtain⟨b,hb,e⟩:=List.mem_filterMap.mp hp;cases q:h.get? b with
 | none=>rw [q] at e;cases e
 | some o=>
   rw[q] at e;have e':(b,o)=p:=Option.some.inj e;subst e';exact⟨hb,q⟩
theorem Inv.pinned{pins:Zk}{s:Shared}{fp:List Addr}(I:Inv X pins σ H s)(hf:∀b∈fp,uz X pins H b)(ho:∀b∈fp,∃o,s.heap.get? b=some o/\∀v,o.data≠ .cell v):Inv X (pins++qr fp s.heap) σ H s:=
 I.Ei fun p hp=>(List.mem_append.mp hp).elim (fun z=>I.pin p (List.mem_append_right _ z)) fun z=>by
  obtain⟨hb,e⟩:=FK z;obtain⟨f0,f1,f2,_⟩:=hf p.1 hb;obtain⟨o,e',d⟩:=ho p.1 hb;rw[e] at e';cases e';exact⟨e,f0,f1,f2,d⟩
theorem Inv.rp{pins pl:Zk}{s:Shared}(I:Inv X (pins++pl) σ H s):Inv X pins σ H s:=I.Ei fun p hp=>I.pin p (List.mem_append_right _ (List.mem_append_left _ hp))
theorem BJ{iter:Expr}{body:List Stmt}{wi:TI}{g:TG}{tb:TS}{pos:Pos}(hp:PassesOwn (model X.prog X.w) X.A X.env X.xe)(hc:X.calm=true)(hi:PI X tg iter wi)(hg:PG X tg g)(hb:yR X body tb)
 (hs:∀x,foldedSetIterable iter X.env x=pure x:=by intro _;rfl):PS X (.For tg iter body [] pos) (S7 wi g tb):=by
 intro pins s σ H D I h;refine wpAny_For (d6 (hi pins s σ H _ I h) fun v s1 h1=>d6 h1 fun Sk s2 h2=>?_) hs
 obtain⟨it,fp,tn,J,H2,e,I2,T,JU,f2,W,⟨m0,w0⟩,turn⟩:=h2;subst e;have stat:∀{H':Hp},(∀b∈fp,H' b=none)->∀b∈fp,uz X pins H' b:=fun hn b hb=>⟨hn b hb,(f2 b hb).2⟩
 refine codeAny_forLoop_any (fun n s'=>∃i de H',Inv X pins de H' s'/\tn i s'.heap/\(∀b∈fp,H' b=none)/\W i n de H') ?_ m0 ⟨0,σ,H2,I2,JU,fun b hb=>(f2 b hb).1,w0⟩
 rintro n s3 ⟨i,By,H3,I3,LV,RA,w3⟩;rcases turn i n By H3 w3 with⟨stop,qn⟩ | ⟨go,N,hN,step⟩
 .refine wpAny_passesOwn hp (d6 (T.done X rfl rfl rfl hc i pins s3 By H3 X.xe I3 (stat RA) LV stop) fun r s4 ⟨hr,I4⟩=>?_)
  subst hr;exact wpAny_execs_nil ⟨By,H3,I4,qn⟩
 .refine wpAny_passesOwn hp (d6 (T.item X rfl rfl rfl hc i pins s3 By H3 X.xe I3 (stat RA) LV go) fun r s4 ⟨u,hr,h4⟩=>?_)
  subst hr;refine wpAny_passesOwn hp (d6 h4 fun _ s5 ⟨x,H5,I5,r5,y5,O_,UP⟩=>?_)
  have I5':=I5.pinned (stat UP) (T.obj _ _ O_);refine wpAny_passesOwn hp (d6 (hg _ s5 By H5 x u _ I5' r5 (step x H5 y5)) fun _ s6 ⟨RM,H6,I6,q6⟩=>?_)
  refine wpAny_passesOwn hp (d6 (hb _ s6 RM H6 _ I6 q6) fun f s7 q7=>?_)
  have again:∀{Bz:St} {H7:Hp},Inv X (pins++qr fp s5.heap) Bz H7 s7->N Bz H7->∃m,m < n/\∃i de H',Inv X pins de H' s7/\tn i s7.heap/\(∀b∈fp,H' b=none)/\W i m de H':=fun {Bz H7} I7 n7=>by
   obtain⟨m',hm,w7⟩:=hN Bz H7 n7;refine⟨m',hm,i+1,Bz,H7,I7.rp,T.keep _ _ _ O_ fun b hb o e=>(I7.pin (b,o) (List.mem_append_right _ (List.mem_append_right _ (m8 hb e)))).1,fun b hb=>?_,w7⟩
   obtain⟨o,e,d⟩:=T.obj _ _ O_ b hb;exact(I7.pin (b,o) (List.mem_append_right _ (List.mem_append_right _ (m8 hb e)))).2.1
  cases f with
  | next=>obtain⟨Bz,H7,I7,n7⟩:=q7;exact again I7 n7
  | cont=>obtain⟨Bz,H7,I7,n7⟩:=q7;exact again I7 n7
  | brk=>obtain⟨Bz,H7,I7,q7⟩:=q7;exact⟨Bz,H7,I7.rp,q7⟩
  | ret v=>obtain⟨x7,Bz,H7,I7,r7,q7⟩:=q7;exact⟨x7,Bz,H7,I7.rp,r7,q7⟩
end
abbrev R2:=V->V->Hp->VK->Prop
def mL(X:Cx)(f:Value->Value->Sem Value)(r:R2):Prop:=
 ∀(pins:Zk) (s:Shared) (σ:St) (H:Hp) (x y:V) (v u:Value) (Q:VK),Inv X pins σ H s->RelV x v->RelV y u->r x y H Q->
  wpAny (model X.prog X.w) X.A (f v u) (EP X pins σ Q) X.xe s
def Tt(X:Cx)(f:Value->Sem Value)(r:V->Hp->VK->Prop):Prop:=
 ∀(pins:Zk) (s:Shared) (σ:St) (H:Hp) (x:V) (v:Value) (Q:VK),Inv X pins σ H s->RelV x v->r x H Q->
  wpAny (model X.prog X.w) X.A (f v) (EP X pins σ Q) X.xe s
def mr(X:Cx)(f:Value)(r:List V->Hp->VK->Prop):Prop:=
 ∀(pins:Zk) (s:Shared) (σ:St) (H:Hp) (xs:List V) (us:List Value) (Q:VK),Inv X pins σ H s->Vals xs us->r xs H Q->
  wpAny (model X.prog X.w) X.A (call f us) (EP X pins σ Q) X.xe s
def Ti(X:Cx)(r:V->Hp->(Bool->Hp->Prop)->Prop):Prop:=
 ∀(pins:Zk) (s:Shared) (σ:St) (H:Hp) (x:V) (v:Value) (Q:Bool->Hp->Prop),Inv X pins σ H s->RelV x v->r x H Q->
  wpAny (model X.prog X.w) X.A (truthy v) (TP X pins σ Q) X.xe s
def Pt(r:R2)(ta tb:TE):TE:=fun σ H Q=>ta σ H fun x H1=>tb σ H1 fun y H2=>r x y H2 Q
def WJ(r:V->Hp->VK->Prop)(ta:TE):TE:=fun σ H Q=>ta σ H fun x H1=>r x H1 Q
def rI(C:Int->Int->Prop)(g:Int->Int->V):R2:=fun x y H Q=>∃i j,x= .int i/\y= .int j/\C i j/\Q (g i j) H
def FV(g:Int->Int->V):R2:=fun x y H Q=>∃i j,x= .int i/\y= .int j/\Q (g i j) H
def rU(g:Int->V):V->Hp->VK->Prop:=fun x H Q=>∃i,x= .int i/\Q (g i) H
section
variable {X:Cx} {a b c:Expr} {ta tb tc:TE} {pos:Pos}
theorem Nx(ha:PE X a ta)(hb:PE X b tb){pins:Zk}{s:Shared}{σ:St}{H:Hp}{R:V->V->Hp->Prop}(I:Inv X pins σ H s)
 (h:ta σ H fun x H1=>tb σ H1 fun y H2=>R x y H2) {Q:Zl} {f:Value->Value->Sem Value}
 (hf:∀v u s2 x y H2,Inv X pins σ H2 s2->RelV x v->RelV y u->R x y H2->wpAny (model X.prog X.w) X.A (f v u) Q X.xe s2) :
 wpAny (model X.prog X.w) X.A (eval a X.env) (fun v s₁=>wpAny (model X.prog X.w) X.A (eval b X.env) (fun u Pc=>wpAny (model X.prog X.w) X.A (f v u) Q X.xe Pc) X.xe s₁) X.xe s:=by
 refine d6 (ha pins s σ H _ I h) fun v s1 ⟨x,H1,I1,r1,q1⟩=>?_
 refine d6 (hb pins s1 σ H1 _ I1 q1) fun u s2 ⟨y,H2,I2,r2,q2⟩=>?_
 exact hf v u s2 x y H2 I2 r1 r2 q2
theorem G3{op:Operator}{r:R2}(ho:mL X (binaryOp op) r)(ha:PE X a ta)(hb:PE X b tb):PE X (.BinOp a op b pos) (Pt r ta tb):=by
 intro pins s σ H Q I h;exact wpAny_BinOp (Nx ha hb I h fun v u s2 x y H2 I2 rx ry q=>ho pins s2 σ H2 x y v u Q I2 rx ry q)
theorem Rn{op:UnaryOp}{r:V->Hp->VK->Prop}(ho:Tt X (unaryOp op) r)(ha:PE X a ta):PE X (.UnaryOp op a pos) (WJ r ta):=by
 intro pins s σ H Q I h;exact UnaryOp_ (d6 (ha pins s σ H _ I h) fun v s1 ⟨x,H1,I1,r1,q1⟩=>ho pins s1 σ H1 x v Q I1 r1 q1)
theorem Pq{f:Value->Value->Sem Value}{C:Int->Int->Prop}{g:Int->Int->Int}
 (rule:∀(i j:Int) (t u:Tok) (s:Shared) (Q:Zl) (E:Zl),C i j->Q (.int (g i j) s.toks) {s with toks:=s.toks+1}->wpAny (model X.prog X.w) X.A (f (.int i t) (.int j u)) Q E s) :
 mL X f (rI C fun i j=> .int (g i j)):=by
 intro pins s σ H x y v u Q I rx ry h;obtain⟨i,j,rfl,rfl,hc,q⟩:=h;obtain⟨t,rfl⟩:=rx;obtain⟨t',rfl⟩:=ry;exact rule i j t t' s _ _ hc ⟨.int (g i j),H,I.tok _,⟨_,rfl⟩,q⟩
theorem HK{f:Value->Value->Sem Value}{g:Int->Int->Int}
 (rule:∀(i j:Int) (t u:Tok) (s:Shared) (Q:Zl) (E:Zl),Q (.int (g i j) s.toks) {s with toks:=s.toks+1}->wpAny (model X.prog X.w) X.A (f (.int i t) (.int j u)) Q E s) :
 mL X f (FV fun i j=> .int (g i j)):=by
 intro pins s σ H x y v u Q I rx ry h;obtain⟨i,j,rfl,rfl,q⟩:=h;obtain⟨t,rfl⟩:=rx;obtain⟨t',rfl⟩:=ry;exact rule i j t t' s _ _ ⟨.int (g i j),H,I.tok _,⟨_,rfl⟩,q⟩
theorem LB{f:Value->Value->Sem Value}{g:Int->Int->Bool}
 (rule:∀(i j:Int) (t u:Tok) (s:Shared) (Q:Zl) (E:Zl),Q (.bool (g i j)) s->wpAny (model X.prog X.w) X.A (f (.int i t) (.int j u)) Q E s) :
 mL X f (FV fun i j=> .bl (g i j)):=by
 intro pins s σ H x y v u Q I rx ry h;obtain⟨i,j,rfl,rfl,q⟩:=h;obtain⟨t,rfl⟩:=rx;obtain⟨t',rfl⟩:=ry;exact rule i j t t' s _ _ ⟨.bl (g i j),H,I,rfl,q⟩
def Tg(i j:Int):Prop:=0 < j/\j < 1073741824
def Vn(i j:Int):Prop:=j≠0/\j.natAbs < 1073741824
def Q6(i j:Int):Prop:=0<=j/\j<=1000000/\i.natAbs < 2 ^ 64
def Ol(i j:Int):Prop:=(-(2 ^ 64) < i/\i < 2 ^ 64)\/(-(2 ^ 64) < j/\j < 2 ^ 64)
theorem Ol.ok{i j:Int}(h:Ol i j):IntMulOk i j:=by
 rcases h with⟨h1,h2⟩ | ⟨h1,h2⟩
 .exact .of_left (intBits_le_64 h1 h2)
 .exact .of_right (intBits_le_64 h1 h2)
theorem BV(k:Nat):(0:Int)<=2 ^ k:=by
 rw[two_pow_cast];exact Int.natCast_nonneg _
theorem OH:mL X (binaryOp .Add) (FV fun i j=> .int (i+j)):=HK fun _ _ _ _ _ _ _ q=>add_int q
theorem OV:mL X (binaryOp .Sub) (FV fun i j=> .int (i - j)):=HK fun _ _ _ _ _ _ _ q=>sub_int q
theorem O1:mL X (binaryOp .Mult) (rI Ol fun i j=> .int (i*j)):=Pq fun _ _ _ _ _ _ _ hc q=>mul_int q hc.ok
theorem LA:mL X (binaryOp .FloorDiv) (rI Tg fun i j=> .int (i / j)):=Pq fun i j _ _ _ _ _ hc q=>by
 have h1:(0:Int) < j:=hc.1;have h2:j < 1073741824:=hc.2;exact floordiv_int (by omega) (by rw[Int.fdiv_eq_ediv_of_nonneg i (by omega)];exact q) (.inl (PyProof.noPylong_small (by omega)))
theorem NH:mL X (binaryOp .Mod) (rI (fun _ j=>0 < j) fun i j=> .int (i % j)):=Pq fun i j _ _ _ _ _ hc q=>by
 have h1:(0:Int) < j:=hc;exact mod_int' (by omega) (by rw[Int.fmod_eq_emod_of_nonneg i (by omega)];exact q)
theorem Oa:mL X (binaryOp .Pow) (rI Q6 fun i j=> .int (i ^ j.toNat)):=Pq fun _ _ _ _ _ _ _ hc q=>pow_int_small hc.1 hc.2.1 hc.2.2 q
theorem OU:mL X (binaryOp .LShift) (rI Q6 fun i j=> .int (i*2 ^ j.toNat)):=Pq fun _ _ _ _ _ _ _ hc q=>lshift_int_small hc.1 hc.2.1 hc.2.2 q
theorem Oi:mL X (binaryOp .RShift) (rI (fun _ j=>0<=j) fun i j=> .int (i / 2 ^ j.toNat)):=Pq fun i j _ _ _ _ _ hc q=>
 rshift_int hc (by rw[Int.fdiv_eq_ediv_of_nonneg i (BV _)];exact q)
theorem M5:mL X (binaryOp .BitAnd) (FV fun i j=> .int (Builtin.bitAnd i j)):=HK fun _ _ _ _ _ _ _ q=>and_int q
theorem Qm:mL X (binaryOp .BitOr) (FV fun i j=> .int (Builtin.bitOr i j)):=HK fun _ _ _ _ _ _ _ q=>or_int q
theorem OK:mL X (binaryOp .BitXor) (FV fun i j=> .int (Builtin.bitXor i j)):=HK fun _ _ _ _ _ _ _ q=>xor_int q
theorem Xb{f:Value->Sem Value}{g:Int->Int}
 (rule:∀(i:Int) (t:Tok) (s:Shared) (Q:Zl) (E:Zl),Q (.int (g i) s.toks) {s with toks:=s.toks+1}->wpAny (model X.prog X.w) X.A (f (.int i t)) Q E s) :
 Tt X f (rU fun i=> .int (g i)):=by
 intro pins s σ H x v Q I rx h;obtain⟨i,rfl,q⟩:=h;obtain⟨t,rfl⟩:=rx;exact rule i t s _ _ ⟨.int (g i),H,I.tok _,⟨_,rfl⟩,q⟩
theorem Om:Tt X (unaryOp .USub) (rU fun i=> .int (-i)):=Xb fun _ _ _ _ _ q=>neg_int q
end
def Qi:V->V->Bool
 | .cu, .cu=>true | .cu, .int _=>true | .int _, .cu=>true | .cu, .bl _=>true | .bl _, .cu=>true | .cu, .str _=>true | .str _, .cu=>true
 | .int _, .int _=>true | .bl _, .bl _=>true | .str _, .str _=>true | .byt _, .byt _=>true
 | .int _, .str _=>true | .str _, .int _=>true | .bl _, .str _=>true | .str _, .bl _=>true
 | _,_=>false
def WA:R2:=fun x y H Q=>Qi x y=true/\Q (.bl (decide (x=y))) H
def Xh:R2:=fun x y H Q=>Qi x y=true/\Q (.bl (!decide (x=y))) H
theorem D_{i j:Int}:decide (V.int i=V.int j)=(i==j):=by
 rw[Bool.eq_iff_iff];simp
theorem GW{i j:Bool}:decide (V.bl i=V.bl j)=(i==j):=by
 rw[Bool.eq_iff_iff];simp
theorem DG:decide (V.str i=V.str j)=(i==j):=by
 rw[Bool.eq_iff_iff];simp
theorem DF{i j:Array UInt8}:decide (V.byt i=V.byt j)=(i.toList==j.toList):=by
 rw[Bool.eq_iff_iff];cases i;cases j;simp
section
variable {X:Cx} {a b c:Expr} {ta tb tc:TE} {pos:Pos}
theorem cb{pins:Zk}{s:Shared}{Q:VK}{k k':Bool}(I:Inv X pins σ H s)(q:Q (.bl k) H)(e:k=k'):EP X pins σ Q (.bool k') s:=by
 subst e;exact⟨.bl k,H,I,rfl,q⟩
theorem HZ:mL X (compareOp .Eq) WA:=by
 intro pins s σ H x y v u Q I rx ry h;obtain⟨hs,q⟩:=h;cases x with
 | cu=>
   cases rx;cases y with
   | cu=>cases ry;exact PySem.EqNone.eq_none_none (cb I q (by simp))
   | bl j=>cases ry;exact PySem.EqNone.eq_none_bool (cb I q (by simp))
   | int j=>obtain⟨t',rfl⟩:=ry;exact PySem.EqNone.eq_none_int (cb I q (by simp))
   | str j=>obtain⟨t',rfl⟩:=ry;exact PySem.EqNone.eq_none_str (cb I q (by simp))
   | _=>exact absurd (show false=true from hs) Bool.false_ne_true
 | bl i=>
   cases rx;cases y with
   | cu=>cases ry;exact PySem.EqNone.eq_bool_none (cb I q (by simp))
   | bl j=>cases ry;exact eq_bool (cb I q GW)
   | str j=>obtain⟨t',rfl⟩:=ry;exact PySem.EqMixed.eq_bool_str (cb I q (by simp))
   | _=>exact absurd (show false=true from hs) Bool.false_ne_true
 | int i=>
   obtain⟨t,rfl⟩:=rx;cases y with
   | cu=>cases ry;exact PySem.EqNone.eq_int_none (cb I q (by simp))
   | int j=>obtain⟨t',rfl⟩:=ry;exact eq_int (cb I q D_)
   | str j=>obtain⟨t',rfl⟩:=ry;exact PySem.EqMixed.eq_int_str (cb I q (by simp))
   | _=>exact absurd (show false=true from hs) Bool.false_ne_true
 | str i=>
   obtain⟨t,rfl⟩:=rx;cases y with
   | cu=>cases ry;exact PySem.EqNone.eq_str_none (cb I q (by simp))
   | bl j=>cases ry;exact PySem.EqMixed.eq_str_bool (cb I q (by simp))
   | int j=>obtain⟨t',rfl⟩:=ry;exact PySem.EqMixed.eq_str_int (cb I q (by simp))
   | str j=>obtain⟨t',rfl⟩:=ry;exact eq_str (cb I q DG)
   | _=>exact absurd (show false=true from hs) Bool.false_ne_true
 | byt i=>
   obtain⟨t,rfl⟩:=rx;cases y with
   | byt j=>obtain⟨t',rfl⟩:=ry;exact PySem.W.eq_bytes (cb I q DF)
   | _=>exact absurd (show false=true from hs) Bool.false_ne_true
 | _=>cases y <;> exact absurd (show false=true from hs) Bool.false_ne_true
theorem Hg:mL X (compareOp .NotEq) Xh:=by
 intro pins s σ H x y v u Q I rx ry h;obtain⟨hs,q⟩:=h;cases x with
 | cu=>
   cases rx;cases y with
   | cu=>cases ry;exact PySem.EqNone.ne_none_none (cb I q (by simp))
   | bl j=>cases ry;exact PySem.EqNone.ne_none_bool (cb I q (by simp))
   | int j=>obtain⟨t',rfl⟩:=ry;exact PySem.EqNone.ne_none_int (cb I q (by simp))
   | str j=>obtain⟨t',rfl⟩:=ry;exact PySem.EqNone.ne_none_str (cb I q (by simp))
   | _=>exact absurd (show false=true from hs) Bool.false_ne_true
 | bl i=>
   cases rx;cases y with
   | cu=>cases ry;exact PySem.EqNone.ne_bool_none (cb I q (by simp))
   | bl j=>cases ry;exact ne_bool (cb I q (congrArg not GW))
   | str j=>obtain⟨t',rfl⟩:=ry;exact PySem.EqMixed.ne_bool_str (cb I q (by simp))
   | _=>exact absurd (show false=true from hs) Bool.false_ne_true
 | int i=>
   obtain⟨t,rfl⟩:=rx;cases y with
   | cu=>cases ry;exact PySem.EqNone.ne_int_none (cb I q (by simp))
   | int j=>obtain⟨t',rfl⟩:=ry;exact ne_int (cb I q (congrArg not D_))
   | str j=>obtain⟨t',rfl⟩:=ry;exact PySem.EqMixed.ne_int_str (cb I q (by simp))
   | _=>exact absurd (show false=true from hs) Bool.false_ne_true
 | str i=>
   obtain⟨t,rfl⟩:=rx;cases y with
   | cu=>cases ry;exact PySem.EqNone.ne_str_none (cb I q (by simp))
   | bl j=>cases ry;exact PySem.EqMixed.ne_str_bool (cb I q (by simp))
   | int j=>obtain⟨t',rfl⟩:=ry;exact PySem.EqMixed.ne_str_int (cb I q (by simp))
   | str j=>obtain⟨t',rfl⟩:=ry;exact ne_str (cb I q (congrArg not DG))
   | _=>exact absurd (show false=true from hs) Bool.false_ne_true
 | byt i=>
   obtain⟨t,rfl⟩:=rx;cases y with
   | byt j=>obtain⟨t',rfl⟩:=ry;exact PySem.W.ne_bytes (cb I q (congrArg not DF))
   | _=>exact absurd (show false=true from hs) Bool.false_ne_true
 | _=>cases y <;> exact absurd (show false=true from hs) Bool.false_ne_true
theorem Rr:mL X (compareOp .Lt) (FV fun i j=> .bl (decide (i < j))):=LB fun _ _ _ _ _ _ _ q=>lt_int q
theorem P5:mL X (compareOp .LtE) (FV fun i j=> .bl (decide (i<=j))):=LB fun _ _ _ _ _ _ _ q=>le_int q
theorem Q5:mL X (compareOp .Gt) (FV fun i j=> .bl (decide (j < i))):=LB fun _ _ _ _ _ _ _ q=>gt_int q
theorem P7:mL X (compareOp .GtE) (FV fun i j=> .bl (decide (j<=i))):=LB fun _ _ _ _ _ _ _ q=>ge_int q
theorem Fq:mL X (compareOp .In) (fun x y H Q=>∃i j,x= .str i/\y= .str j/\Q (.bl (!(Builtin.Str.occurrences j i 0 j.length 1).isEmpty)) H):=by
 intro pins s σ H x y v u Q I rx ry h;obtain⟨i,j,rfl,rfl,q⟩:=h;obtain⟨t,rfl⟩:=rx;obtain⟨t',rfl⟩:=ry;exact in_str (cb I q rfl)
theorem MP:mL X (compareOp .Is) (fun x y H Q=>y= .cu/\Q (.bl (decide (x= .cu))) H):=by
 intro pins s σ H x y v u Q I rx ry h;obtain⟨rfl,q⟩:=h;cases ry;refine is_none_gen (cb I q ?_);cases x <;> first
  | (cases rx;rfl)
  | (obtain⟨t,rfl⟩:=rx;rfl)
theorem LI:mL X (compareOp .IsNot) (fun x y H Q=>y= .cu/\Q (.bl (!decide (x= .cu))) H):=by
 intro pins s σ H x y v u Q I rx ry h;obtain⟨rfl,q⟩:=h;cases ry;refine isnot_none_gen (cb I q ?_);cases x <;> first
  | (cases rx;rfl)
  | (obtain⟨t,rfl⟩:=rx;rfl)
theorem yS:mL X (compareOp .NotIn) (fun x y H Q=>∃i j,x= .str i/\y= .str j/\Q (.bl (!(!(Builtin.Str.occurrences j i 0 j.length 1).isEmpty))) H):=by
 intro pins s σ H x y v u Q I rx ry h;obtain⟨i,j,rfl,rfl,q⟩:=h;obtain⟨t,rfl⟩:=rx;obtain⟨t',rfl⟩:=ry;exact notIn_str (cb I q rfl)
def isObj:HO->Bool
 | .lst _=>true
 | .ins _ _ _=>true
 | _=>false
theorem bG(b:Expr){op:CmpOp}(h:op≠ .In:=by decide)(h2:op≠ .NotIn:=by decide):behindInMarks op b=false:=by
 have e1:(op==CmpOp.In)=false:=by cases op <;> first | rfl | exact absurd rfl h
 have e2:(op==CmpOp.NotIn)=false:=by cases op <;> first | rfl | exact absurd rfl h2
 cases b <;> simp [behindInMarks,e1,e2]
theorem DZ{op:CmpOp}{r:R2}(ho:mL X (compareOp op) r)(ha:PE X a ta)(hb:PE X b tb)(hm:behindInMarks op b=false):PE X (.Compare a [op] [b] pos) (Pt r ta tb):=by
 intro pins s σ H Q I h;exact wpAny_Compare1 (Nx ha hb I h fun v u s2 x y H2 I2 rx ry q=>ho pins s2 σ H2 x y v u Q I2 rx ry q) hm
def Q4(t:TE):TT:=fun σ H Q=>t σ H fun x H'=>∃k,x= .bl k/\Q k H'
theorem D3{op:CmpOp}{r:R2}(ho:mL X (compareOp op) r)(ha:PE X a ta)(hb:PE X b tb)(hm:behindInMarks op b=false):PT X (.Compare a [op] [b] pos) (Q4 (Pt r ta tb)):=by
 intro pins s σ H Q I h;refine wpAny_isTrue_Compare1 (d6 (ha pins s σ H _ I h) fun v s1 ⟨x,H1,I1,r1,q1⟩=>d6 (hb pins s1 σ H1 _ I1 q1) fun u s2 ⟨y,H2,I2,r2,q2⟩=>
  d6 (ho pins s2 σ H2 x y v u _ I2 r1 r2 q2) fun c s3 ⟨z,H3,I3,r3,k,e,q3⟩=>?_) hm
 subst e;cases r3;exact wpAny_truthy_bool ⟨H3,I3,q3⟩
def S_(r r':R2)(ta tb tc:TE):TE:=fun σ H Q=>ta σ H fun x H1=>tb σ H1 fun y H2=>r x y H2 fun z H3=>∃k,z= .bl k/\
 (if k=true then tc σ H3 fun w' H4=>r' y w' H4 Q else Q (.bl false) H3)
def Kh(K:W.Frag)(x:V)(H:Hp)(k:Bool):Prop:=
 match x with
 | .cu=>k=false
 | .bl b=>k=b
 | .int i=>k=(i !=0)
 | .str y=>y.length<=sizeLine/\k=((y.length:Int) !=0)
 | .byt y=>y.size<=sizeLine/\k=((y.size:Int) !=0)
 | .ref p=>(∃xs,qT K H p xs/\k=!xs.isEmpty)\/(∃xs,tS K H p xs/\k=!xs.isEmpty)\/∃kvs,H p=some (.dK kvs)/\k=!kvs.isEmpty
 | _=>False
theorem CT{κ:Type}{kvs:List (κ × V)}{vs:List (κ × Value)}(r:KV kvs vs):(!vs.isEmpty)=!kvs.isEmpty:=by
 cases r <;> rfl
theorem vG{xs:List V}{its:List Value}(r:Vals xs its):(!its.toArray.isEmpty)=!xs.isEmpty:=by
 cases r <;> simp
theorem vA:(sizeLine:Nat) < 2 ^ 63:=by rw[sizeLine_eq];decide
theorem ON:Ti X (fun x H Q=>∃k,Kh X.K x H k/\Q k H):=by
 intro pins s σ H x v Q I rx h;obtain⟨k,e,q⟩:=h;have hl:=vA;have hs:sizeLine=16777216:=sizeLine_eq;cases x with
 | cu=>
   cases rx;have e':k=false:=e;subst e';exact truthy_none ⟨H,I,q⟩
 | bl b=>
   cases rx;have e':k=b:=e;subst e';exact wpAny_truthy_bool ⟨H,I,q⟩
 | int i=>
   obtain⟨t,rfl⟩:=rx;have e':k=(i !=0):=e;subst e';exact PySem.P.truthy_int ⟨H,I,q⟩
 | str y=>
   obtain⟨t,rfl⟩:=rx;obtain⟨hy,e'⟩:y.length<=sizeLine/\k=((y.length:Int) !=0):=e;subst e';exact PySem.P.truthy_str (by omega) ⟨H,I.tok _,q⟩
 | byt y=>
   obtain⟨t,rfl⟩:=rx;obtain⟨hy,e'⟩:y.size<=sizeLine/\k=((y.size:Int) !=0):=e;subst e';exact PySem.W.truthy_bytes (by omega) ⟨H,I.tok _,q⟩
 | ref p=>
   cases rx;have e':(∃xs,qT X.K H p xs/\k=!xs.isEmpty)\/(∃xs,tS X.K H p xs/\k=!xs.isEmpty)\/∃kvs,H p=some (.dK kvs)/\k=!kvs.isEmpty:=e;rcases e' with⟨xs,hx,e'⟩ | ⟨xs,hx,e'⟩ | ⟨kvs,hx,e'⟩
   .subst e';obtain⟨its,r,pl,hz⟩:=I.list hx;have hlen:=r.length;exact wpAny_truthy_list pl.isList (by simp only[List.size_toArray];omega) ⟨H,I.tok _,by rw[vG r];exact q⟩
   .subst e';obtain⟨its,r,pl,hz⟩:=I.tuple hx;have hlen:=r.length;exact truthy_tuple pl (by simp only[List.size_toArray];omega) ⟨H,I.tok _,by rw[vG r];exact q⟩
   .subst e';obtain⟨hz,hS,vs,r,m⟩:kvs.length<=sizeLine/\(p==sysModules)=false/\∃vs,KV kvs vs/\s.heap.DictOf (cX X.prog X.w) p vs:=I.hok p _ hx;have hlen:kvs.length=vs.length:=Paired.length r;exact wpAny_truthy_dict hS m (by omega) ⟨H,I.tok _,by rw[CT r];exact q⟩
 | _=>exact(show False from e).elim
theorem AZ(ha:PE X a ta)(he:∀whole,isTrue a X.env whole=(do let v <-whole;standAt a.pos;holding [v] (truthy v))) :
 PT X a (fun σ H Q=>ta σ H fun x H'=>∃k,Kh X.K x H' k/\Q k H'):=by
 intro pins s σ H Q I h;exact isTrue_plain (d6 (ha pins s σ H _ I h) fun v s1 ⟨x,H1,I1,r1,q1⟩=>ON pins s1 σ H1 x v Q I1 r1 q1) (he _)
theorem CK:mL X (binaryOp .Add) (fun x y H Q=>∃i j,x= .str i/\y= .str j/\i.length+j.length<=sizeLine/\Q (.str (i++j)) H):=by
 intro pins s σ H x y v u Q I rx ry h;obtain⟨i,j,rfl,rfl,hz,q⟩:=h;obtain⟨t,rfl⟩:=rx;obtain⟨t',rfl⟩:=ry;exact add_str (fun t' tk=>⟨.str (i++j),H,I.tok _,⟨_,rfl⟩,q⟩) hz
def Qj(b:Expr):Prop:=∀o i,subscripted b false o i=operate [o,i] (getItem o i)
theorem vals1{x:V}{us:List Value}(r:Vals [x] us):∃u,us=[u]/\RelV x u:=by
 cases r with
 | cons r1 r2=>cases r2;exact⟨_,rfl,r1⟩
theorem vals2{x y:V}{us:List Value}(r:Vals [x,y] us):∃u w',us=[u,w']/\RelV x u/\RelV y w':=by
 cases r with
 | cons r1 r2=>
   cases r2 with
   | cons r3 r4=>cases r4;exact⟨_,_,rfl,r1,r3⟩
theorem GR:mr X (.builtin "abs") (fun xs H Q=>∃i,xs=[.int i]/\Q (.int (if i < 0 then -i else i)) H):=by
 intro pins s σ H xs us Q I r h;obtain⟨i,rfl,q⟩:=h;obtain⟨u,rfl,t,rfl⟩:=vals1 r;exact call_abs_int fun u tk=>⟨.int (if i < 0 then -i else i),H,I.tok _,⟨_,rfl⟩,q⟩
theorem F8(hc:X.calm=true):mr X (.builtin "max") (fun xs H Q=>∃i j,xs=[.int i, .int j]/\Q (.int (if j > i then j else i)) H):=by
 intro pins s σ H xs us Q I r h;obtain⟨i,j,rfl,q⟩:=h;obtain⟨u,w',rfl,⟨t,rfl⟩,⟨t',rfl⟩⟩:=vals2 r;refine max_two_ints (I.ok.hd hc) fun h' tk k=>⟨_,H,I.kept k,?_,q⟩
 by_cases hj:j > i
 .rw [if_pos hj,if_pos hj];exact⟨_,rfl⟩
 .rw [if_neg hj,if_neg hj];exact⟨_,rfl⟩
theorem F4(hc:X.calm=true):mr X (.builtin "min") (fun xs H Q=>∃i j,xs=[.int i, .int j]/\Q (.int (if j < i then j else i)) H):=by
 intro pins s σ H xs us Q I r h;obtain⟨i,j,rfl,q⟩:=h;obtain⟨u,w',rfl,⟨t,rfl⟩,⟨t',rfl⟩⟩:=vals2 r;refine min_two_ints (I.ok.hd hc) fun h' tk k=>⟨_,H,I.kept k,?_,q⟩
 by_cases hj:j < i
 .rw [if_pos hj,if_pos hj];exact⟨_,rfl⟩
 .rw [if_neg hj,if_neg hj];exact⟨_,rfl⟩
theorem Fd:mr X (.type "int") (fun xs H Q=>(∃i,xs=[.int i]/\Q (.int i) H)\/∃k,xs=[.bl k]/\Q (.int (if k then 1 else 0)) H):=by
 intro pins s σ H xs us Q I r h;rcases h with⟨i,rfl,q⟩ | ⟨k,rfl,q⟩
 .obtain⟨u,rfl,t,rfl⟩:=vals1 r;exact call_int_int ⟨.int i,H,I,⟨_,rfl⟩,q⟩
 .obtain⟨u,rfl,r1⟩:=vals1 r;cases r1;exact call_int_bool ⟨.int (if k then 1 else 0),H,I.tok _,⟨_,rfl⟩,q⟩
def TN(K:W.Frag)(x:V)(H:Hp)(n:Nat):Prop:=
 match x with
 | .str y=>y.length<=sizeLine/\n=y.length
 | .byt y=>y.size<=sizeLine/\n=y.size
 | .ref p=>(∃xs,qT K H p xs/\n=xs.length)\/∃xs,tS K H p xs/\n=xs.length
 | _=>False
theorem HJ:mr X (.builtin "len") (fun xs H Q=>∃x n,xs=[x]/\TN X.K x H n/\Q (.int n) H):=by
 intro pins s σ H xs us Q I r h;obtain⟨x,n,rfl,e,q⟩:=h;obtain⟨u,rfl,rx⟩:=vals1 r;have hl:=vA;have hs:sizeLine=16777216:=sizeLine_eq;cases x with
 | str y=>
   obtain⟨t,rfl⟩:=rx;obtain⟨hy,e'⟩:y.length<=sizeLine/\n=y.length:=e;subst e';exact len_str (by omega) ⟨.int _,H,I.tok _,⟨_,rfl⟩,q⟩
 | byt y=>
   obtain⟨t,rfl⟩:=rx;obtain⟨hy,e'⟩:y.size<=sizeLine/\n=y.size:=e;subst e';exact PySem.W.len_bytes (by omega) ⟨.int _,H,I.tok _,⟨_,rfl⟩,q⟩
 | ref p=>
   cases rx;have e':(∃xs,qT X.K H p xs/\n=xs.length)\/∃xs,tS X.K H p xs/\n=xs.length:=e;rcases e' with⟨xs,hx,e'⟩ | ⟨xs,hx,e'⟩
   .subst e';obtain⟨its,r',pl,hz⟩:=I.list hx;have hlen:=r'.length;exact Calls.call_len_list pl.isList (by simp only[List.size_toArray];omega) ⟨.int xs.length,H,I.tok _,⟨_,by simp only[List.size_toArray];rw [hlen]⟩,q⟩
   .subst e';obtain⟨its,r',pl,hz⟩:=I.tuple hx;have hlen:=r'.length;exact len_tuple pl (by simp only[List.size_toArray];omega) ⟨.int xs.length,H,I.tok _,⟨_,by simp only[List.size_toArray];rw [hlen]⟩,q⟩
 | _=>exact(show False from e).elim
end
structure CU (h:Heap) (x dx C:Addr) (mA:Zp):Prop where
 obj:h.get? x=some (PySem.W.instObj C dx)
 ns:h.Ns1 dx mA
 ne:dx≠x
theorem Fz{h:Heap}{dx:Addr}{mA:Zp}(n:h.Ns1 dx mA):∃od,h.get? dx=some od/\∀name,PySem.W.lookIn name od=some (mA name):=by
 obtain⟨o,es,ep,ho,hd,hk,_,hm⟩:=n;refine⟨o,ho,fun name=>?_⟩
 have e:=hm name;unfold nsFind findBy at e;rw[<-Array.find?_toList] at e;unfold PySem.W.lookIn;rw[hd];dsimp only;split
 .rename_i y q;rw[q] at e;exact congrArg some e
 .rename_i q;rw[q] at e;have a:es.toList.any (·.refKey)=false:=by
   rw[List.any_eq_false];intro y hy;obtain⟨z,t,hkey⟩:=hk y (Array.mem_toList_iff.mp hy);simp [DictEntry.refKey,hkey]
  have a':¬es.toList.any (·.refKey)=true:=by rw[a];exact Bool.false_ne_true
  rw[if_neg a'];exact congrArg some e
theorem CU.look{x dx C:Addr}{mA:Zp}(I:CU h x dx C mA):∃od,PySem.W.InstAt h x (PySem.W.instObj C dx) C (some od)/\∀name,PySem.W.lookIn name od=some (mA name):=
 let⟨od,ho,hl⟩:=Fz I.ns
 ⟨od,⟨I.obj,rfl,rfl,ho⟩,hl⟩
section
variable {prog:Program} {w:World} {A:Around} {E:Zl} {s:Shared} {K:W.Frag} {x dx C f:Addr} {mA:Zp} {name:Str} {v:Value}
theorem get_map{expr:Bool}{Q:Zl}(X:K.In s.heap)(I:CU s.heap x dx C mA)(hg:PySem.W.plainGet K C name=true)(hh:PySem.W.hasDictIn K C=true)
 (ha:PySem.W.findIn K (.ref C) name=some none) (hv:mA name=some v) (Ym:PySem.W.handedIn v=true) (h:Q v {s with toks:=s.toks+1}) :
 wpAny (model prog w) A (getAttr (.ref x) name expr) Q E s:=by
 obtain⟨od,J,hl⟩:=I.look;exact PySem.W.get_value X J (PySem.W.plainGet_of hg).1 (PySem.W.findObj_own hh ha rfl (by rw[hl,hv])) Ym h
theorem Ip{pl:Sem Bool}{Q:Value × List Value->Shared->Prop}(X:K.In s.heap)(I:CU s.heap x dx C mA)(hg:PySem.W.plainGet K C name=true)
 (hf:PySem.W.findIn K (.ref C) name=some (some (.ref f))) (ht:PySem.W.isFn K (.ref f)=true) (hv:mA name=none) (h:Q (.ref f,[.ref x]) s) :
 wpAny (model prog w) A (getMethod (.ref x) name pl) Q E s:=by
 obtain⟨od,J,hl⟩:=I.look;exact PySem.W.method_fn X J (PySem.W.plainGet_of hg).1 (PySem.W.plainGet_of hg).2 hf (beq_iff_eq.mp ht) (by show(PySem.W.lookIn name od).map (·.isSome)=some false;rw [hl,hv];rfl) h
theorem LQ{ns:List Str}{Q:Unit->Shared->Prop}(X:K.In s.heap)(I:CU s.heap x dx C mA)
 (hs:PySem.W.findIn K (.ref C) "__setattr__"=some (some (.builtin "object.__setattr__"))) (hp:PySem.W.plainOver K C=true) (ht:PySem.W.takerIn K C name=some none) (hh:PySem.W.hasDictIn K C=true)
 (hw:PySem.Within mA ns) (hsz:ns.length<=sizeLine)
 (h:∀h',CU h' x dx C (fun y=>if y=name then some v else mA y)->Heap.SameBut dx s.heap h'->Q () {s with heap:=h',toks:=s.toks+2}) :
 wpAny (model prog w) A (setAttr (.ref x) name v) Q E s:=by
 obtain⟨od,J,hl⟩:=I.look;refine PySem.W.set_plain X J hs (PySem.W.osa_open (s:={s with toks:=s.toks+1}) (r:=none) X J hp ht fun b=>?_)
 obtain⟨cd,hc,RO⟩:=PySem.W.any_some hh;have hx:s.heap.get? x=some ⟨.ref C,some dx, .plain,#[]⟩:=I.obj;refine wpAny_bind (wpAny_pure (wpAny_bind (wpAny_bind (wpAny_loadPart hx (wpAny_bind (PySem.W.Looks.here (s:={s with toks:=s.toks+1}) (PySem.W.looks_clsIn X hc) ?_))))))
 rw[RO];refine wpAny_pure (a:=some dx) (wpAny_bind (wpAny_pure (wpAny_bind ?_)));refine wpAny_nsSet1 (s:={s with toks:=s.toks+1}) I.ns fun h' Sj Dh=>?_
 obtain⟨oD,esD,epD,hoD,hdD,hcD⟩:=Sj.count (PySem.Within.cons name v hw);refine wpAny_bind (wpAny_lookBehind hoD (by rw[hdD];exact pastItsLine_dict (Nat.le_trans hcD (by rw[List.length_cons];omega))) ?_)
 exact wpAny_pure (h _ ⟨(Dh.2 _ (Ne.symm I.ne)).trans I.obj,Sj,I.ne⟩ Dh)
theorem Ie{R:Result->Shared->Prop}{vs:List Value}{kw:List (Str × Value)}(X:K.In s.heap)(hm:PySem.W.makesIn K C=true)
 (hi:PySem.W.findIn K (.ref C) "__init__"=some (some (.ref f))) (hf:PySem.W.typeIn K (.ref f)=some (.type "function"))
 (h:codeAny (model prog w) (A.under (.builtin "type.__call__" ⟨.ref C ::vs,kw⟩)) (.call (.ref f) ⟨.ref (s.heap.objs.size+1) ::vs,kw⟩) (PySem.W.InitBack (s.heap.objs.size+1) R)
   {s with heap:=(s.heap.push PySem.W.emptyDict).push (PySem.W.instObj C s.heap.objs.size)}) :
 codeAny (model prog w) A (.call (.ref C) ⟨vs,kw⟩) R s:=by
 obtain⟨hh,g,d,t,os⟩:=s;exact PySem.W.make_core (PySem.W.makes_of X hm) (PySem.W.looks_findIn X hi) (fun self=>PySem.W.bind_fn X self hf) (.inl rfl) h
end
def lF(f:Str)(v:V):List (Str × V)->List (Str × V)
 | []=>[(f,v)]
 | (g,x) ::r=>if g=f then(g,v) ::r else(g,x) ::lF f v r
theorem tU(f g:Str)(v:V):∀fs:List (Str × V),(lF f v fs).lookup g=if g=f then some v else fs.lookup g
 | []=>by
   show List.lookup g [(f,v)]=_;by_cases h:g=f
   .have hb:(g==f)=true:=beq_iff_eq.mpr h;simp only[List.lookup,hb,if_pos h]
   .have hb:(g==f)=false:=beq_eq_false_iff_ne.mpr h;simp only[List.lookup,hb,if_neg h]
 | (k,x) ::r=>by
   have ih:=tU f g v r;rw[show lF f v ((k,x) ::r)=(if k=f then(k,v) ::r else(k,x) ::lF f v r) from rfl]
   by_cases hk:k=f
   .rw [if_pos hk];by_cases h:g=k
    .have hb:(g==k)=true:=beq_iff_eq.mpr h;simp only[List.lookup,hb,if_pos (h.trans hk)]
    .have hb:(g==k)=false:=beq_eq_false_iff_ne.mpr h;simp only[List.lookup,hb,if_neg (fun e:g=f=>h (e.trans hk.symm))]
   .rw [if_neg hk];by_cases h:g=k
    .have hb:(g==k)=true:=beq_iff_eq.mpr h;simp only[List.lookup,hb,if_neg (fun e:g=f=>hk (h.symm.trans e))]
    .have hb:(g==k)=false:=beq_eq_false_iff_ne.mpr h;simp only[List.lookup,hb];exact ih
theorem tp(f:Str)(v:V):∀fs:List (Str × V),f∈(lF f v fs).map (·.1)/\∀g,g∈fs.map (·.1)->g∈(lF f v fs).map (·.1)
 | []=>⟨by simp [lF],fun g h=>by simp at h⟩
 | (k,x) ::r=>by
   obtain⟨i1,i2⟩:=tp f v r;rw[show lF f v ((k,x) ::r)=(if k=f then(k,v) ::r else(k,x) ::lF f v r) from rfl]
   by_cases hk:k=f
   .rw [if_pos hk];subst hk;exact⟨by simp,fun g h=>by simpa using h⟩
   .rw [if_neg hk];refine⟨?_,fun g h=>?_⟩
    .rw [List.map_cons];exact List.mem_cons_of_mem _ i1
    .rw [List.map_cons] at h ⊢;rcases List.mem_cons.mp h with e | e
     .exact List.mem_cons.mpr (.inl e)
     .exact List.mem_cons_of_mem _ (i2 g e)
theorem tT(f:Str)(v:V):∀fs:List (Str × V),(lF f v fs).length<=fs.length+1
 | []=>by simp [lF]
 | (k,x) ::r=>by
   have ih:=tT f v r;rw[show lF f v ((k,x) ::r)=(if k=f then(k,v) ::r else(k,x) ::lF f v r) from rfl]
   by_cases hk:k=f
   .rw [if_pos hk,List.length_cons,List.length_cons];omega
   .rw [if_neg hk,List.length_cons,List.length_cons];omega
theorem pQ.some_of{v:V}{o:Option Value}(r:pQ (some v) o):∃u,o=some u/\RelV v u:=by
 cases o with
 | none=>exact(show False from r).elim
 | some u=>exact⟨u,rfl,r⟩
theorem pQ.none_of{o:Option Value}(r:pQ none o):o=none:=by
 cases o with
 | none=>rfl
 | some u=>exact(show False from r).elim
theorem Ft{v:V}{u:Value}(r:RelV v u):PySem.W.handedIn u=true:=by
 cases v with
 | cu=>cases(show u=Value.none from r);rfl
 | bl b=>cases(show u=Value.bool b from r);rfl
 | int i=>obtain⟨t,e⟩:=(show ∃t,u=Value.int i t from r);cases e;rfl
 | str x=>obtain⟨t,e⟩:=(show ∃t,u=Value.str x t from r);cases e;rfl
 | byt b=>obtain⟨t,e⟩:=(show ∃t,u=Value.bytes b t from r);cases e;rfl
 | flt b=>obtain⟨t,e⟩:=(show ∃t,u=Value.float b t from r);cases e;rfl
 | ref a=>cases(show u=Value.ref a from r);rfl
 | ty n=>cases(show u=Value.type n from r);rfl
section
variable {P:Program} {w:World} {H H':Hp} {h h':Heap} {a C dx:Addr} {fs PH:List (Str × V)}
theorem ze(hok:pR P w H h)(e:H a=some (.ins C dx fs)):∃mA,CU h a dx C mA/\(∀f,pQ (fs.lookup f) (mA f))/\PySem.Within mA (fs.map (·.1))/\fs.length<=1000/\H dx=some (.own a):=by
 obtain⟨d,z,ne,ob,mA,n,r,q⟩:=(show e_ P w H h a (.ins C dx fs) from hok a _ e)
 exact⟨mA,⟨ob,n,ne⟩,r,q,z,d⟩
end
structure zF (K:W.Frag) (C:Addr):Prop where
 pg:PySem.W.plainGet K C Str.empty=true
 hd:PySem.W.hasDictIn K C=true
 po:PySem.W.plainOver K C=true
 sa:PySem.W.findIn K (.ref C) "__setattr__"=some (some (.builtin "object.__setattr__"))
theorem zF.get{K:W.Frag}{C:Addr}(c:zF K C)(f:Str):PySem.W.plainGet K C f=true:=c.pg
def dv(K:W.Frag)(C:Addr)(f:Str):Prop:=PySem.W.findIn K (.ref C) f=some none
theorem dv.Rh{K:W.Frag}{C:Addr}(n:dv K C f):PySem.W.takerIn K C f=some none:=by
 unfold PySem.W.takerIn;rw[show PySem.W.findIn K (.ref C) f=some none from n]
 rfl
structure WX (K:W.Frag) (C:Addr) (f:Str) (v:V) (u:Value):Prop where
 at_:PySem.W.findIn K (.ref C) f=some (some u)
 rel:RelV v u
 get:PySem.W.specialIn K u "__get__"=some none
 cp:PySem.W.copiedNames.contains f=false
structure Meth (K:W.Frag) (C:Addr) (m:Str) (f:Addr):Prop where
 at_:PySem.W.findIn K (.ref C) m=some (some (.ref f))
 fn:PySem.W.isFn K (.ref f)=true
 kp:PySem.W.keepIn K (.ref f)=true
section
variable {X:Cx} {pins:Zk} {σ:St} {H:Hp} {s:Shared} {a C dx:Addr} {fs:List (Str × V)} {f:Str} {v:V} {A:Around} {E:Zl}
theorem Cz{b:Bool}{Q:Zl}(I:Inv X pins σ H s)(e:H a=some (.ins C dx fs))(c:zF X.K C)(n:dv X.K C f)(l:fs.lookup f=some v)
 (h:∀u s',Inv X pins σ H s'->RelV v u->Q u s'):wpAny (model X.prog X.w) A (getAttr (.ref a) f b) Q E s:=by
 obtain⟨mA,O,r,_,_,_⟩:=ze I.hok e;obtain⟨u,hu,ru⟩:=pQ.some_of (v:=v) (o:=mA f) (by rw[<-l];exact r f)
 exact get_map I.D2 O (c.get f) c.hd n hu (Ft ru) (h u _ (I.tok _) ru)
theorem Ca{m:Str}{g:Addr}{pl:Sem Bool}{Q:Value × List Value->Shared->Prop}(I:Inv X pins σ H s)(e:H a=some (.ins C dx fs))(c:zF X.K C)(k:Meth X.K C m g)(l:fs.lookup m=none)
 (h:Q (.ref g,[.ref a]) s):wpAny (model X.prog X.w) A (getMethod (.ref a) m pl) Q E s:=by
 obtain⟨mA,O,r,_,_,_⟩:=ze I.hok e;have hn:mA m=none:=pQ.none_of (by rw[<-l];exact r m)
 exact Ip I.D2 O (c.get m) k.at_ k.fn hn h
theorem CJ{y:V}{u:Value}{Q:Unit->Shared->Prop}(I:Inv X pins σ H s)(e:H a=some (.ins C dx fs))(c:zF X.K C)(n:dv X.K C f)(hl:fs.length < 1000)(ry:RelV y u)
 (h:∀s',Inv X pins σ (upd H a (.ins C dx (lF f y fs))) s'->Q () s'):wpAny (model X.prog X.w) A (setAttr (.ref a) f u) Q E s:=by
 obtain⟨mA,O,r,wi,_,ho⟩:=ze I.hok e;have hz:(fs.map (·.1)).length<=sizeLine:=by rw[List.length_map,sizeLine_eq];omega
 refine LQ I.D2 O c.sa c.po n.Rh c.hd wi hz fun h' O' sb=>h _ ?_
 have hd:∃o,h'.get? dx=some o:=let⟨o,_,_,e',_⟩:=O'.ns;⟨o,e'⟩
 refine I.write (x:=a) (e:=dx) (by rw[e];exact True.intro) (.inr ho) (fun b q hb z=>(sb.2 b hb).trans z) hd ?_
 refine⟨by rw[bb O.ne];exact ho,?_,O.ne,O'.obj,_,O'.ns,fun g=>?_,fun g hg=>?_⟩
 .have:=tT f y fs;omega
 .show pQ ((lF f y fs).lookup g) (if g=f then some u else mA g)
  rw[tU];by_cases q:g=f
  .rw [if_pos q,if_pos q];exact ry
  .rw [if_neg q,if_neg q];exact r g
 .by_cases q:g=f
  .rw [q];exact(tp f y fs).1
  .refine(tp f y fs).2 g (wi g fun z=>hg ?_)
   show(if g=f then some u else mA g)=none
   rw[if_neg q];exact z
theorem Inv.made(I:Inv X pins σ H s):Inv X pins σ (upd (upd H s.heap.objs.size (.own (s.heap.objs.size+1))) (s.heap.objs.size+1) (.ins C s.heap.objs.size []))
 {s with heap:=(s.heap.push PySem.W.emptyDict).push (PySem.W.instObj C s.heap.objs.size)}:=by
 have e1:(s.heap.push PySem.W.emptyDict).get? s.heap.objs.size=some PySem.W.emptyDict:=Heap.get?_push_size s.heap rfl;have e2:((s.heap.push PySem.W.emptyDict).push (PySem.W.instObj C s.heap.objs.size)).get? (s.heap.objs.size+1)=some (PySem.W.instObj C s.heap.objs.size):=by
  have:=Heap.get?_push_size (s.heap.push PySem.W.emptyDict) (o:=PySem.W.instObj C s.heap.objs.size) rfl
  rwa [Heap.size_push] at this
 have e3:(s.heap.push PySem.W.emptyDict).Ns s.heap.objs.size (fun _=>none):=⟨PySem.W.emptyDict,#[],_,e1,rfl,(fun e he=>absurd he (by simp)),fun _=>rfl⟩
 have I1:=I.laid (a:=s.heap.objs.size) (o:= .own (s.heap.objs.size+1)) (h':=s.heap.push PySem.W.emptyDict) (t':=s.toks) (fun b u q=>Heap.get?_push_of_some _ q) (Nat.le_refl _) ⟨_,e1⟩
 refine I1.laid (a:=s.heap.objs.size+1) (o:= .ins C s.heap.objs.size []) (t':=s.toks) (fun b u q=>Heap.get?_push_of_some _ q) (Nat.le_of_eq (Heap.size_push _ _)) ?_
 have ne:s.heap.objs.size≠s.heap.objs.size+1:=Nat.ne_of_lt (Nat.lt_succ_self _);refine⟨by rw[bb ne,aX],Nat.zero_le _,ne,e2,fun _=>none,(Heap.Ns1.of_empty e3).at fun o q=>Heap.get?_push_of_some _ q,fun _=>True.intro,fun y hy=>absurd rfl hy⟩
theorem Ld{prog:Program}{w:World}{env:Env}{e:Expr}{f:Str}{pos:Pos}{s:Shared}{Q:Zl}(hb:attributeBase e f env (eval e env)=eval e env)
 (h:wpAny (model prog w) A (eval e env) (fun o s₁=>wpAny (model prog w) A (getAttr o f true) Q E s₁) E s):wpAny (model prog w) A (eval (.Attribute e f pos) env) Q E s:=
 Attribute_any_ h (by rw[arm_eval_Attribute,hb])
end
def To(K:W.Frag)(ta:TE)(f:Str):TE:=fun σ H Q=>ta σ H fun x H1=>∃a C dx fs v,x= .ref a/\H1 a=some (.ins C dx fs)/\zF K C/\dv K C f/\fs.lookup f=some v/\Q v H1
def Wy(K:W.Frag)(ta:TE)(f:Str):TE:=fun σ H Q=>ta σ H fun x H1=>∃a C dx fs v u,x= .ref a/\H1 a=some (.ins C dx fs)/\zF K C/\WX K C f v u/\fs.lookup f=none/\Q v H1
def Uc(K:W.Frag)(ta tv:TE)(f:Str):TS:=fun D σ H=>tv σ H fun y H1=>ta σ H1 fun x H2=>∃a C dx fs,x= .ref a/\H2 a=some (.ins C dx fs)/\zF K C/\dv K C f/\fs.length < 1000/\
 D.nx σ (upd H2 a (.ins C dx (lF f y fs)))
def W5(X:Cx)(op:Operator)(rd:V->V->Hp->VK->Prop):Prop:=
 ∀(pins:Zk) (s:Shared) (σ:St) (H:Hp) (x y:V) (u v:Value) (Q:VK),Inv X pins σ H s->RelV x u->RelV y v->rd x y H Q->wpAny (model X.prog X.w) X.A (inplaceOp op u v) (EP X pins σ Q) X.xe s
def RU(K:W.Frag)(ta tv:TE)(rd:V->V->Hp->VK->Prop)(f:Str):TS:=fun D σ H=>ta σ H fun x H1=>∃a C dx fs v,x= .ref a/\H1 a=some (.ins C dx fs)/\zF K C/\dv K C f/\fs.lookup f=some v/\
 tv σ H1 fun y H2=>rd v y H2 fun z H3=>∃dx' PH,H3 a=some (.ins C dx' PH)/\PH.length < 1000/\D.nx σ (upd H3 a (.ins C dx' (lF f z PH)))
section
variable {X:Cx} {o e value:Expr} {f:Str} {pos pos' tK:Pos} {ta tv:TE}
theorem Oy(he:PE X e ta)(hb:attributeBase e f X.env (eval e X.env)=eval e X.env):PE X (.Attribute e f pos) (To X.K ta f):=by
 intro pins s σ H Q I h;refine Ld hb (d6 (he pins s σ H _ I h) fun u s1 ⟨x,H1,I1,rx,a,C,dx,fs,v,ex,ea,c,n,l,q⟩=>?_)
 subst ex;obtain rfl:u=Value.ref a:=rx;exact Cz I1 ea c n l fun u' s2 I2 ru=>⟨v,H1,I2,ru,q⟩
theorem Nc(ha:PE X o ta)(hv:PE X value tv)(hs:swapsWith value (some (.Attribute o f pos')) pos.line X.env=pure false):PS X (.Assign [.Attribute o f pos'] value pos) (Uc X.K ta tv f):=by
 intro pins s σ H D I h;refine plainObj_wpAny_Assign_Attribute (d6 (hv pins s σ H _ I h) fun u s1 ⟨y,H1,I1,ry,q⟩=>d6 (ha pins s1 σ H1 _ I1 q) fun ov s2 ⟨x,H2,I2,rx,a,C,dx,fs,ex,ea,c,n,l,q2⟩=>?_) hs
 subst ex;obtain rfl:ov=Value.ref a:=rx;exact CJ I2 ea c n l ry fun s3 I3=>⟨σ,_,I3,q2⟩
def Wt:V->V->Hp->VK->Prop:=fun x y H Q=>∃i j,x= .int i/\y= .int j/\Q (.int (i+j)) H
def Wn:V->V->Hp->VK->Prop:=fun x y H Q=>∃i j,x= .int i/\y= .int j/\Q (.int (i - j)) H
end
section
variable {X:Cx} {pins:Zk} {σ:St} {H:Hp} {s:Shared} {A:Around} {E:Zl} {Q:Zl} {c:Value} {b:Bool}
inductive vj (K:W.Frag) (H:Hp):V->Value->Prop where
 | cu:vj K H .cu (.type "NoneType")
 | bl (x:Bool):vj K H (.bl x) (.type "bool")
 | int (i:Int):vj K H (.int i) (.type "int")
 | str (x:Str):vj K H (.str x) (.type "str")
 | flt (x:UInt64):vj K H (.flt x) (.type "float")
 | lst {a:Addr} {xs:List V} (e:H a=some (.lst xs)):vj K H (.ref a) (.type "list")
 | k4 {a:Addr} {o:Obj} {xs:List V} (e:H a=some (.k4 o (.lst xs))):vj K H (.ref a) (.type "list")
 | tup {a:Addr} {xs:List V} (e:H a=some (.tup xs)):vj K H (.ref a) (.type "tuple")
 | dK {a:Addr} {kvs:List (Key × V)} (e:H a=some (.dK kvs)):vj K H (.ref a) (.type "dict")
 | dT {a:Addr} {kvs:List (List Key × V)} (e:H a=some (.dT kvs)):vj K H (.ref a) (.type "dict")
 | ins {a C dx:Addr} {fs:List (Str × V)} (e:H a=some (.ins C dx fs)) (cl:zF K C) (ha:PySem.W.findIn K (.ref C) "__class__"=some (some (.builtin "object.__class__")))
    (hn:PySem.W.specialIn K (.builtin "object.__class__") "__get__"=some (some (.builtin "getset_descriptor.__get__"))) (Zd:PySem.W.takesIn K (.builtin "object.__class__")=some true)
    (hm:PySem.W.mroIn K C (.type "object")=some true):vj K H (.ref a) (.ref C)
end
structure fq (k:Nat) (A:Around):Prop where
 hd:A.handled=none
 dp:A.depth+3*k+5 < recursionLimit
 un:A.units+16*k+200 < cLine
theorem fq.mono{j k:Nat}(r:fq k A)(h:j<=k):fq j A:=⟨r.hd,by have:=r.dp;omega,by have:=r.un;omega⟩
theorem fq.deeper{k:Nat}{A:Around}(r:fq (k+1) A)(env:Env):fq k (A.deeper env):=
 ⟨r.hd,by have:=r.dp;show A.depth+1+3*k+5 < _;omega,by have:=r.un;show A.units+3+16*k+200 < _;omega⟩
theorem CG{A:Around}{C:Addr}{us:List Value}{kw:List (Str × Value)}:(A.under (.builtin "type.__call__" ⟨.ref C ::us,kw⟩)).depth=A.depth+1:=by
 first | rfl | simp [Around.under,Code.weight,Code.isCreation,Code.isGuard,Code.isCaller,Code.frames,Code.isFrame,guardIds]
theorem Cq{A:Around}{C:Addr}{us:List Value}{kw:List (Str × Value)}:(A.under (.builtin "type.__call__" ⟨.ref C ::us,kw⟩)).units=A.units+1:=by
 first | rfl | simp [Around.under,Code.cUnits,Code.frames,Code.isFrame]
theorem fq.make{k:Nat}{A:Around}(r:fq (k+1) A)(C:Addr)(us:List Value)(kw:List (Str × Value)):fq k (A.under (.builtin "type.__call__" ⟨.ref C ::us,kw⟩)):=
 ⟨r.hd,by have:=r.dp;rw [CG];omega,by have:=r.un;rw [Cq];omega⟩
theorem fq.depth{k:Nat}{A:Around}(r:fq k A):A.depth < recursionLimit:=by have:=r.dp;omega
theorem fq.units{k:Nat}{A:Around}(r:fq k A):A.units+64 < cLine:=by have:=r.un;omega
def SG:TA:=fun _ H Q=>Q [] H
def Qa(ta:TE)(tr:TA):TA:=fun σ H Q=>ta σ H fun x H1=>tr σ H1 fun xs H2=>Q (x ::xs) H2
section
variable {X:Cx} {e:Expr} {es:List Expr} {te:TE} {t:TA} {pos:Pos}
theorem jG:PA X [] SG:=fun _ _ _ _ H Q I h=>Calls.spliced_nil ⟨[],H,I, .nil,h⟩
theorem fI(ha:PE X e te)(hr:PA X es t)(hs:starEach (e ::es) X.env=(false,eval e X.env) ::starEach es X.env:=by rfl):PA X (e ::es) (Qa te t):=by
 intro pos pins s σ H Q I h;rw[hs];show wpAny _ _ (spliced ((false,eval e X.env) ::backTo pos (starEach es X.env))) _ _ s;refine Calls.spliced_cons (d6 (ha pins s σ H _ I h) fun u s1 ⟨x,H1,I1,r1,q1⟩=>?_)
 exact d6 (hr pos pins s1 σ H1 _ I1 q1) fun us s2 ⟨xs,H2,I2,r2,q2⟩=>⟨x ::xs,H2,I2, .cons r1 r2,q2⟩
def SX(t:TA):TE:=fun σ H Q=>t σ H fun xs H1=>xs.length<=sizeLine/\∀p,H1 p=none->Q (.ref p) (upd H1 p (.tup xs))
def Sy(t:TA):TE:=fun σ H Q=>t σ H fun xs H1=>xs.length<=sizeLine/\∀p,H1 p=none->Q (.ref p) (upd H1 p (.lst xs))
theorem Hn{x1}(h:PA X es t):PE X (.Tuple es x1 pos) (SX t):=by
 intro pins s σ H Q I hq;refine wpAny_Tuple_spliced (d6 (h pos pins s σ H _ I hq) fun us s1 ⟨xs,H1,I1,r,z,q⟩=>⟨by rw[<-r.length];exact z,?_⟩)
 have hf:H1 s1.heap.objs.size=none:=I1.hok.fresh (Nat.le_refl _);refine⟨.ref s1.heap.objs.size,upd H1 s1.heap.objs.size (.tup xs),I1.laid (t':=s1.toks) (fun b u e=>Heap.get?_push_of_some _ e) (Nat.le_refl _) ?_,rfl,q _ hf⟩
 exact⟨z,us,r,⟨_,Heap.get?_push_size _ rfl,rfl,_,rfl⟩⟩
theorem Nr(h:PA X es t):PE X (.List es pos) (Sy t):=by
 intro pins s σ H Q I hq;refine wpAny_List_spliced (d6 (h pos pins s σ H _ I hq) fun us s1 ⟨xs,H1,I1,r,z,q⟩=>⟨by rw[<-r.length];exact z,?_⟩)
 have hf:H1 s1.heap.objs.size=none:=I1.hok.fresh (Nat.le_refl _);refine⟨.ref s1.heap.objs.size,upd H1 s1.heap.objs.size (.lst xs),I1.laid (t':=s1.toks) (fun b u e=>Heap.get?_push_of_some _ e) (Nat.le_refl _) ?_,rfl,q _ hf⟩
 exact⟨z,us,0,r,Heap.get?_push_size _ rfl⟩
end
abbrev Sp:=List V->Hp->VK->XK->Prop
abbrev GY:=List Env->Hp->Shared->XK->Value->Shared->Prop
structure BH (P:Program) (w:World) (K:W.Frag) (mg:Zp) (base:Heap) (A:Around) (outer:List Env) (s:Shared) (H:Hp):Prop where
 frames:A.frames=some outer
 mod:Mod K mg base
 bs:∀b o,base.get? b=some o->s.heap.get? b=some o/\H b=none
 bsz:base.objs.size<=s.heap.objs.size
 ui:s.heap.FunFrames base outer
 frf:∀b∈Gs outer,H b=none
 hok:pR P w H s.heap
 bare:AllBare s.gens
def CE(outer:List Env)(P:Program)(w:World)(H:Hp)(s:Shared)(Q:VK)(u:Value)(s':Shared):Prop:=
 ∃v H',s'.os=s.os/\AllBare s'.gens/\Un (Gs outer) [] H H' s.heap s'.heap/\pR P w H' s'.heap/\RelV v u/\Q v H'
def CR(CX:GY)(outer:List Env)(P:Program)(w:World)(H:Hp)(s:Shared)(Q:VK)(E:XK)(r:Result)(s':Shared):Prop:=
 match r with
 | .ok (.ret u)=>CE outer P w H s Q u s'
 | .ok _=>False
 | .error e=>CX outer H s E e s'
structure jI (P:Program) (w:World) (K:W.Frag) (mg:Zp) (base:Heap) (CX:GY) (k:Nat) (f:Addr) (fd:FuncData) (ps:List Str) (sp:Sp):Prop where
 len:∀vs H Q E,sp vs H Q E->vs.length=ps.length
 run:∀(A:Around) (outer:List Env) (s:Shared) (H:Hp) (args:Args) (us:List Value) (vs:List V) (Q:VK) (E:XK),fq k A->BH P w K mg base A outer s H->BindsTo s fd args (ps.zip us)->Vals vs us->sp vs H Q E->
  codeAny (model P w) A (.call (.ref f) args) (CR CX outer P w H s Q E) s
theorem jI.imp{P:Program}{w:World}{K:W.Frag}{mg:Zp}{base:Heap}{CX:GY}{k:Nat}{f:Addr}{fd:FuncData}{ps:List Str}{sp VQ:Sp}(F:jI P w K mg base CX k f fd ps sp)
 (h:∀vs H Q E,VQ vs H Q E->sp vs H Q E):jI P w K mg base CX k f fd ps VQ:=
 ⟨fun vs H Q E q=>F.len vs H Q E (h _ _ _ _ q),fun A outer s H args us vs Q E hr he hb hv hs=>F.run A outer s H args us vs Q E hr he hb hv (h _ _ _ _ hs)⟩
theorem BH.make{K:W.Frag}{mg:Zp}{outer:List Env}{s:Shared}(e:BH P w K mg base A outer s H)(C:Addr)(us:List Value)(kw:List (Str × Value)) :
 BH P w K mg base (A.under (.builtin "type.__call__" ⟨.ref C ::us,kw⟩)) outer s H:=⟨by first | exact e.frames | (simpa [Around.under,Code.envs,Code.isFrame,pushEnvs] using e.frames),e.mod,e.bs,e.bsz,e.ui,e.frf,e.hok,e.bare⟩
section
variable {X:Cx} {pins:Zk} {σ:St} {H:Hp} {s s':Shared}
theorem Inv.Rf(I:Inv X pins σ H s):BH X.prog X.w X.K X.mg X.base X.A X.stack s H:=
 ⟨I.ok.frames,I.ok.mod,I.bs,Nat.le_trans I.ok.bsz I.sz,I.stack,I.DH,I.hok,I.bare⟩
theorem Inv.after{Q:VK}{u:Value}(I:Inv X pins σ H s)(h:CE X.stack X.prog X.w H s Q u s'):EP X pins σ Q u s':=by
 obtain⟨v,H',os,bare,un,hok,r,q⟩:=h;obtain⟨hh,g,d,t,YJ⟩:=s';obtain rfl:YJ=s.os:=os;exact⟨v,H',I.call (h':=hh) (g':=g) (d':=d) (t':=t) (ch:=[]) un hok bare (fun b z=>absurd z (by simp)),r,q⟩
end
def QR(sp:Sp)(zw:List V)(E:XK)(t:TA):TE:=fun σ H Q=>t σ H fun vs H1=>sp (vs++zw) H1 Q E
def Qk(C:Addr)(m:Str)(sp:Sp)(zw:List V)(E:XK)(ta:TE)(t:TA):TE:=fun σ H Q=>ta σ H fun x H1=>∃a dx fs,x= .ref a/\H1 a=some (.ins C dx fs)/\fs.lookup m=none/\
 t σ H1 fun vs H2=>sp (x ::(vs++zw)) H2 Q E
def QZ(C:Addr)(sp:Sp)(zw:List V)(E:XK)(t:TA):TE:=fun σ H Q=>t σ H fun vs H1=>∀x dx,H1 x=none->H1 dx=none->dx≠x->
 sp (.ref x ::(vs++zw)) (upd (upd H1 dx (.own x)) x (.ins C dx [])) (fun v H2=>v= .cu/\Q (.ref x) H2) E
def Binds(K:W.Frag)(fd:FuncData)(ps:List Str)(ds:List Value):Prop:=
 ∀(s:Shared) (us:List Value),K.In s.heap->(us++ds).length=ps.length->BindsTo s fd ⟨us,[]⟩ (ps.zip (us++ds))
theorem Binds.all{K:W.Frag}{fd:FuncData}{ps:List Str}(h:∀us:List Value,us.length=ps.length->bindArgs fd ⟨us,[]⟩=pure (ps.zip us)):Binds K fd ps []:=fun s us _ hl=>by
 rw[List.append_nil] at hl ⊢;exact .of_eq (h us hl)
def Passes(CX:GY)(X:Cx)(E:XK):Prop:=∀(pins:Zk) (σ:St) (H:Hp) (s:Shared) (e:Value) (s':Shared),Inv X pins σ H s->CX X.stack H s E e s'->X.xe e s'
section
variable {X:Cx} {CX:GY} {k:Nat} {f C:Addr} {fd:FuncData} {ps:List Str} {sp:Sp} {zw:List V} {ds:List Value} {E:XK} {x m:Str} {p pos apos:Pos} {e o:Expr} {es:List Expr} {ta:TE} {t:TA}
theorem Jm{pins:Zk}{σ:St}{H:Hp}{s:Shared}{Q:VK}{us:List Value}{vs:List V}(F:jI X.prog X.w X.K X.mg X.base CX k f fd ps sp)(hr:fq k X.A)(hb:Binds X.K fd ps ds)(hd:Vals zw ds)(hx:Passes CX X E)
 (I:Inv X pins σ H s) (r:Vals vs us) (h:sp (vs++zw) H Q E):wpAny (model X.prog X.w) X.A (call (.ref f) us) (EP X pins σ Q) X.xe s:=by
 have r2:Vals (vs++zw) (us++ds):=r.append hd;have hl:(us++ds).length=ps.length:=by rw[<-r2.length];exact F.len _ _ _ _ h
 refine wpAny_call (codeAny_mono (F.run X.A X.stack s H ⟨us,[]⟩ (us++ds) (vs++zw) Q E hr I.Rf (hb s us I.D2 hl) r2 h) fun r s' hq=>?_)
 cases r with
 | error e=>exact hx pins σ H s e s' I hq
 | ok fl=>
   cases fl with
   | ret u=>exact I.after hq
   | next=>exact False.elim hq
   | brk=>exact False.elim hq
   | cont=>exact False.elim hq
theorem yG(F:jI X.prog X.w X.K X.mg X.base CX k f fd ps sp)(hr:fq k X.A)(hg:Gl X x)(hm:X.mg x=some (.ref f))(hk:PySem.W.keepIn X.K (.ref f)=true)(hb:Binds X.K fd ps ds)(hd:Vals zw ds)(hx:Passes CX X E)
 (ha:PA X (e ::es) t) (se:(x==("__debug__":Str))=false:=by decide) (he:starEach (e ::es) X.env=(false,eval e X.env) ::starEach es X.env:=by rfl) (nX:(backTo pos (starEach es X.env)).any (·.1)=false:=by rfl) :
 PE X (.Call (.Name x p) (e ::es) [] pos) (QR sp zw E t):=by
 intro pins s σ H Q I h;refine wpAny_Call_Name_kw (Dy I hg hm ?_ se);refine PySem.W.callWith_K (h₀:=X.base) I.ok.mod.kin hk (d6 (ha pos pins s σ H _ I h) fun us s1 ⟨vs,H1,I1,r,q⟩=>⟨I1.D2,?_⟩) he nX
 exact Jm F hr hb hd hx I1 r q
theorem Kx{pl:Sem Bool}(he:PE X o ta)(c:zF X.K C)(hm:Meth X.K C m f)(F:jI X.prog X.w X.K X.mg X.base CX k f fd ps sp)(hr:fq k X.A)(hb:Binds X.K fd ps ds)(hd:Vals zw ds)(hx:Passes CX X E)(ha:PA X (e ::es) t)
 (Jt:starEach (e ::es) X.env=(false,eval e X.env) ::starEach es X.env:=by rfl) (nX:(backTo pos (starEach es X.env)).any (·.1)=false:=by rfl)
 (ht:eval (.Call (.Attribute o m apos) (e ::es) [] pos) X.env=(do
   let ov <-eval o X.env
   standAt apos.atName
   let(f,first) <-holding [ov] (getMethod ov m pl)
   callWith pos f first (backTo pos (starEach (e ::es) X.env)) (backToKw pos (keywordEach [] X.env))):=by rfl) :
 PE X (.Call (.Attribute o m apos) (e ::es) [] pos) (Qk C m sp zw E ta t):=by
 intro pins s σ H Q I h;refine PySem.W.methodCall_KW (pl:=pl) (d6 (he pins s σ H _ I h) fun u s1 ⟨x,H1,I1,rx,a,dx,fs,ex,ea,l,q⟩=>?_) ht
 subst ex;obtain rfl:u=Value.ref a:=rx;refine Ca I1 ea c hm l ?_;refine PySem.W.callWith_K (first:=[.ref a]) (h₀:=X.base) I.ok.mod.kin hm.kp (d6 (ha pos pins s1 σ H1 _ I1 q) fun us s2 ⟨vs,H2,I2,r,q2⟩=>⟨I2.D2,?_⟩) Jt nX
 exact Jm (us:= .ref a ::us) (vs:= .ref a ::vs) F hr hb hd hx I2 (.cons rfl r) q2
structure Mk (K:W.Frag) (C f:Addr):Prop where
 makes:PySem.W.makesIn K C=true
 init:PySem.W.findIn K (.ref C) "__init__"=some (some (.ref f))
 fn:PySem.W.isFn K (.ref f)=true
 kp:PySem.W.keepIn K (.ref C)=true
theorem Hc{pins:Zk}{σ:St}{H:Hp}{s:Shared}{Q:VK}{us:List Value}{vs:List V}(M:Mk X.K C f)(F:jI X.prog X.w X.K X.mg X.base CX k f fd ps sp)(hr:fq (k+1) X.A)(hb:Binds X.K fd ps ds)(hd:Vals zw ds)
 (hx:Passes CX X E) (I:Inv X pins σ H s) (r:Vals vs us)
 (h:∀x dx,H x=none->H dx=none->dx≠x->sp (.ref x ::(vs++zw)) (upd (upd H dx (.own x)) x (.ins C dx [])) (fun v H2=>v= .cu/\Q (.ref x) H2) E) :
 wpAny (model X.prog X.w) X.A (call (.ref C) us) (EP X pins σ Q) X.xe s:=by
 have hq:=h (s.heap.objs.size+1) s.heap.objs.size (I.hok.fresh (Nat.le_succ _)) (I.hok.fresh (Nat.le_refl _)) (Nat.ne_of_lt (Nat.lt_succ_self _));have I2:=Inv.made (C:=C) I;have r2:Vals (V.ref (s.heap.objs.size+1) ::(vs++zw)) (Value.ref (s.heap.objs.size+1) ::(us++ds)):= .cons rfl (r.append hd);have hl:(Value.ref (s.heap.objs.size+1) ::us++ds).length=ps.length:=by
  have e:=r2.length;rw[F.len _ _ _ _ hq] at e;exact e.symm
 refine wpAny_call (Ie (f:=f) I.D2 M.makes M.init (beq_iff_eq.mp M.fn) (codeAny_mono (F.run _ X.stack _ _ ⟨Value.ref (s.heap.objs.size+1) ::us,[]⟩ (Value.ref (s.heap.objs.size+1) ::(us++ds)) _ _ E (hr.make C us [])
  (I2.Rf.make C us []) (hb _ (Value.ref (s.heap.objs.size+1) ::us) I2.D2 hl) r2 hq) fun r s' Rw=>?_))
 cases r with
 | error e=>exact hx pins σ _ _ e s' I2 Rw
 | ok fl=>
   cases fl with
   | ret u=>
     obtain⟨v,H',I3,rv,ev,q3⟩:=I2.after Rw;subst ev;exact⟨rv,⟨V.ref (s.heap.objs.size+1),H',I3,rfl,q3⟩⟩
   | next=>exact False.elim Rw
   | brk=>exact False.elim Rw
   | cont=>exact False.elim Rw
theorem K0(M:Mk X.K C f)(F:jI X.prog X.w X.K X.mg X.base CX k f fd ps sp)(hr:fq (k+1) X.A)(hg:Gl X x)(hm:X.mg x=some (.ref C))(hb:Binds X.K fd ps ds)(hd:Vals zw ds)(hx:Passes CX X E)
 (ha:PA X (e ::es) t) (se:(x==("__debug__":Str))=false:=by decide) (he:starEach (e ::es) X.env=(false,eval e X.env) ::starEach es X.env:=by rfl) (nX:(backTo pos (starEach es X.env)).any (·.1)=false:=by rfl) :
 PE X (.Call (.Name x p) (e ::es) [] pos) (QZ C sp zw E t):=by
 intro pins s σ H Q I h;refine wpAny_Call_Name_kw (Dy I hg hm ?_ se);refine PySem.W.callWith_K (h₀:=X.base) I.ok.mod.kin M.kp (d6 (ha pos pins s σ H _ I h) fun us s1 ⟨vs,H1,I1,r,q⟩=>⟨I1.D2,?_⟩) he nX
 exact Hc M F hr hb hd hx I1 r q
end
def PK(X:Cx)(VS:List Keyword)(t:TA):Prop:=
 ∀(pos:Pos) (pins:Zk) (s:Shared) (σ:St) (H:Hp) (Q:List V->Hp->Prop),Inv X pins σ H s->t σ H Q->wpAny (model X.prog X.w) X.A (evalAll ((backToKw pos (keywordEach VS X.env)).map (·.2))) (AP X pins σ Q) X.xe s
section
variable {X:Cx} {CX:GY} {k:Nat} {f C:Addr} {fd:FuncData} {ps ks:List Str} {sp:Sp} {E:XK} {x m:Str} {p pos apos Xv:Pos} {e o:Expr} {es:List Expr} {VS:List Keyword} {te ta:TE} {t tk:TA} {nm:Option Str}
structure T_ (K:W.Frag) (fd:FuncData) (ps ks:List Str) (g:List Value->List Value->List Value) (gV:List V->List V->List V):Prop where
 to:∀(s:Shared) (us ws:List Value),K.In s.heap->(g us ws).length=ps.length->BindsTo s fd ⟨us,ks.zip ws⟩ (ps.zip (g us ws))
 rel:∀{vs:List V} {us:List Value} {zs:List V} {ws:List Value},Vals vs us->Vals zs ws->Vals (gV vs zs) (g us ws)
def Tr(sp:Sp)(gV:List V->List V->List V)(E:XK)(t tk:TA):TE:=fun σ H Q=>t σ H fun vs H1=>tk σ H1 fun zs H2=>sp (gV vs zs) H2 Q E
variable {g:List Value->List Value->List Value} {gV:List V->List V->List V}
end
structure aT (N P:List Str) (sc:Scope):Prop where
 kind:sc.kind= .function
 co:sc.isCoroutine=false
 gen:sc.isGenerator=false
 nd:N.Nodup
 pre:N.take P.length=P
 par:∀x∈P,sc.names.lookup x=some .local\/sc.names.lookup x=some .cell
 nofree:∀y∈sc.names,y.2≠ .free
theorem ya{kindOf:Str->Option NameKind}:∀{binds:List (Str × Value)} {m:Zp},(∀v,(x,v) ∉ binds)->bindL kindOf binds m x=m x
 | [],_,_=>rfl
 | (n,v) ::r,m,h=>by
   unfold bindL;rw[ya fun w hw=>h w (List.mem_cons_of_mem _ hw)]
   split
   .have:x≠n:=by rintro rfl;exact h v List.mem_cons_self
    simp [this]
   .rfl
theorem xE{kindOf:Str->Option NameKind}:∀{binds:List (Str × Value)} {m:Zp},(∀v,(x,v) ∉ binds)->bindC kindOf binds m x=m x
 | [],_,_=>rfl
 | (n,v) ::r,m,h=>by
   unfold bindC;rw[xE fun w hw=>h w (List.mem_cons_of_mem _ hw)]
   split
   .rfl
   .have:x≠n:=by rintro rfl;exact h v List.mem_cons_self
    simp [this]
theorem xU{kindOf:Str->Option NameKind}{v:Value}:∀{P:List Str} {vs:List Value} {i:Nat} {m:Zp},P.Nodup->P[i]? =some x->vs[i]? =some v->kindOf x=some .local->
 bindL kindOf (P.zip vs) m x=some v
 | [],_,_,_,_,h,_,_=>by simp at h
 | _ ::_,[],_,_,_,_,h,_=>by simp at h
 | p ::P,w ::vs,0,m,nd,h1,h2,hk=>by
   simp at h1 h2;subst h1;subst h2;show bindL kindOf ((p,w) ::P.zip vs) m p=_;unfold bindL;rw[ya fun v hv=>(List.nodup_cons.mp nd).1 (List.of_mem_zip hv).1,if_pos hk]
   simp
 | p ::P,w ::vs,i+1,m,nd,h1,h2,hk=>by
   show bindL kindOf ((p,w) ::P.zip vs) m x=_;unfold bindL;exact xU (i:=i) (List.nodup_cons.mp nd).2 (by simpa using h1) (by simpa using h2) hk
theorem xu{kindOf:Str->Option NameKind}{v:Value}:∀{P:List Str} {vs:List Value} {i:Nat} {m:Zp},P.Nodup->P[i]? =some x->vs[i]? =some v->kindOf x≠some .local->
 bindC kindOf (P.zip vs) m x=some v
 | [],_,_,_,_,h,_,_=>by simp at h
 | _ ::_,[],_,_,_,_,h,_=>by simp at h
 | p ::P,w ::vs,0,m,nd,h1,h2,hk=>by
   simp at h1 h2;subst h1;subst h2;show bindC kindOf ((p,w) ::P.zip vs) m p=_;unfold bindC;rw[xE fun v hv=>(List.nodup_cons.mp nd).1 (List.of_mem_zip hv).1,if_neg hk]
   simp
 | p ::P,w ::vs,i+1,m,nd,h1,h2,hk=>by
   show bindC kindOf ((p,w) ::P.zip vs) m x=_;unfold bindC;exact xu (i:=i) (List.nodup_cons.mp nd).2 (by simpa using h1) (by simpa using h2) hk
def start(N:List Str)(vs:List V):St:=vs.map some++List.replicate (N.length - vs.length) none
def vY(CX:GY)(P:Program)(w:World)(K:W.Frag)(mg:Zp)(base:Heap)(N:List Str)(qual:Str)(scope:Scope)(f:Addr)(cd:Value)(A:Around)(outer:List Env)(s:Shared)(H:Hp)(E:XK):Cx where
 prog:=P
 w:=w
 K:=K
 mg:=mg
 base:=base
 A:=A.deeper (envOfC qual scope s.heap.objs.size f cd)
 N:=N
 s₀:=s
 H₀:=H
 env:=envOfC qual scope s.heap.objs.size f cd
 outer:=outer
 stack:=envOfC qual scope s.heap.objs.size f cd ::outer
 ex:=[]
 calm:=true
 fn:=fun _=>true
 pn:=[]
 xe:=fun e s'=>wpAny (model P w) (A.deeper (envOfC qual scope s.heap.objs.size f cd)) (leaving (envOfC qual scope s.heap.objs.size f cd) e) (fun _ UE=>CX outer H s E e UE) (fun e' UE=>CX outer H s E e' UE) s'
theorem u0{sc:Scope}{n:Nat}(h:sc.names.lookup x=some .cell):∃c,(cellsFrom n sc.names []).lookup x=some c:=by
 have q:=PySem.W.cellsFrom_some sc.names n [] (.inl h);exact Option.isSome_iff_exists.mp q
theorem FJ{CX:GY}{P:Program}{w:World}{K:W.Frag}{mg:Zp}{base:Heap}{N ps:List Str}{qual:Str}{scope:Scope}{f:Addr}{cd:Value}{A:Around}{outer:List Env}{s s1:Shared}{H:Hp}{E:XK}{us:List Value}{vs:List V}
 (S:aT N ps scope) (hd:A.handled=none) (e0:BH P w K mg base A outer s H) (hl:vs.length=ps.length) (r:Vals vs us)
 (x:InCallC s s.heap.objs.size (bindL (envOfC qual scope s.heap.objs.size f cd).kindOf (ps.zip us) fun _=>none) (cellsFrom (s.heap.objs.size+1) scope.names []) (bindC (envOfC qual scope s.heap.objs.size f cd).kindOf (ps.zip us) fun _=>none) s1) :
 Inv (vY CX P w K mg base N qual scope f cd A outer s H E) [] (start N vs) H s1:=by
 have nX:ps.length<=N.length:=by have:=congrArg List.length S.pre;rw [List.length_take] at this;omega
 obtain⟨h1,tk,rfl,hk⟩:=x.done;have noA:∀b:Addr,b ∉ (vY CX P w K mg base N qual scope f cd A outer s H E).ex:=fun b z=>absurd (show b∈([]:List Addr) from z) (by simp)
 refine⟨⟨e0.mod,S.kind,rfl,rfl,Nat.le_refl _,fun y z c h1 h2=>?_,fun y hy=>?_,fun y c _ h=>?_,fun _=>hd,Around.frames_deeper e0.frames, .inr ⟨rfl,rfl⟩,fun b z=>absurd z (noA b),e0.bs,e0.bsz,fun b _ _=>noA b,fun b z=>absurd z (noA b),e0.ui,e0.frf⟩,
  rfl,e0.bare,Un.kept hk,⟨_,x.toInCall.ns,fun i y v h1 h2 h3=>?_⟩,fun y c h=>⟨_,x.cell y c h⟩,e0.hok.fresh (Nat.le_refl _),fun y c h=>?_,fun p hp=>absurd (show p∈([]:Zk) from hp) (by simp),e0.hok.kept hk,?_⟩
 .exact name_of_addr x.apart (PySem.mem_of_lookup h1) (PySem.mem_of_lookup h2)
 .have hy:scope.names.lookup y=some .cell\/scope.names.lookup y=some .free:=hy;rcases hy with hy | hy
  .exact u0 hy
  .exact absurd rfl (S.nofree _ (PySem.mem_of_lookup hy))
 .exact Nat.le_of_lt (x.above y c (PySem.mem_of_lookup h))
 .have hi:i < vs.length:=by
   unfold start at h2;by_cases hi:i < vs.length
   .exact hi
   .rw [List.getElem?_append_right (by simpa using hi)] at h2
    rw[List.getElem?_replicate] at h2;split at h2 <;> cases h2
  have ha:vs[i]? =some v:=by
   unfold start at h2;rw[List.getElem?_append_left (by simpa using hi),List.getElem?_map] at h2
   cases e:vs[i]? with
   | none=>rw [e] at h2;cases h2
   | some a=>rw [e] at h2;cases h2;rfl
  obtain⟨u,hu,rv⟩:=r.get ha;have hp:ps[i]? =some y:=by
   rw[<-S.pre,List.getElem?_take_of_lt (by omega)];exact h1
  have ndP:ps.Nodup:=by rw[<-S.pre];exact S.nd.sublist (List.take_sublist _ _)
  refine⟨u,rv,?_⟩;rcases S.par y (List.mem_of_getElem? hp) with k | k
  .exact .inl ⟨k,xU ndP hp hu k⟩
  .obtain⟨c,e⟩:=u0 (n:=s.heap.objs.size+1) k;refine .inr ⟨.inl k,c,e,?_⟩;have q:=x.cell y c e;rw[xu ndP hp hu (by show scope.names.lookup y≠_;rw [k];decide)] at q
   exact q
 .exact e0.hok.fresh (Nat.le_of_lt (x.above y c (PySem.mem_of_lookup h)))
 .unfold start;show _=N.length;rw[List.length_append,List.length_map,List.length_replicate];omega
theorem QL{CX:GY}{P:Program}{w:World}{K:W.Frag}{mg:Zp}{base:Heap}{k:Nat}{f:Addr}{name qual:Str}{params:Arguments}{body:List Stmt}{scope:Scope}{dV kV doc pm dF ct oc:Value}{an od:Option Addr}
 {JV:Array (Option Value)} {N ps:List Str} {sp:Sp} (lk:K.lookup f=some ⟨oc,od, .func (PySem.W.fnOf name qual params body scope dV kV doc pm an dF ct),JV⟩) (wF:PySem.W.codeIn K dF qual=true) (S:aT N ps scope)
 (len:∀vs H Q E,sp vs H Q E->vs.length=ps.length)
 (mK:∀(A:Around) (outer:List Env) (s:Shared) (H:Hp) (vs:List V) (Q:VK) (E:XK),fq k (A.deeper (envOfC qual scope s.heap.objs.size f dF))->sp vs H Q E->
   ∃t,yR (vY CX P w K mg base N qual scope f dF A outer s H E) body t/\t {nx:=fun _ H'=>Q .cu H',rt:=Q} (start N vs) H) :
 jI P w K mg base CX (k+1) f (PySem.W.fnOf name qual params body scope dV kV doc pm an dF ct) ps sp:=by
 refine⟨len,fun A outer s H args us vs Q E hr e0 hb r Pz=>?_⟩
 have hl:=len _ _ _ _ Pz;have KX:K.In s.heap:=e0.mod.kin.keeps fun b o e=>(e0.bs b o e).1
 have lim:s.heap.NoLimit:=e0.mod.nolimit.keeps fun b o e=>(e0.bs b o e).1
 have hkind:∀y∈ps.zip us,scope.names.lookup y.1=some .local\/(scope.names.lookup y.1=some .cell/\((cellsFrom (s.heap.objs.size+1) scope.names []).lookup y.1).isSome=true):=fun⟨n,v⟩ hy=>by
  rcases S.par n (List.of_mem_zip hy).1 with q | q
  .exact .inl q
  .exact .inr ⟨q,PySem.W.cellsFrom_some _ _ _ (.inl q)⟩
 refine codeAny_call_function hr.depth (KX _ _ lk) rfl S.co S.gen rfl (PySem.W.codeRec_of KX wF) (hb _ _ _ _ ?_);refine wpAny_newFunctionEnv_cells S.kind hkind fun env he s1 x=>?_
 subst he;refine⟨lim.keeps x.toInCall.keep,codeAny_func ?_⟩;obtain⟨t,ht,hq⟩:=mK A outer s H vs Q E (hr.deeper _) Pz;have I:Inv (vY CX P w K mg base N qual scope f dF A outer s H E) [] (start N vs) H s1:=FJ S hr.hd e0 hl r x;refine wpAny_mono (ht [] s1 (start N vs) H _ I hq) (fun fl s' hs=>?_) fun e s' hs=>hs
 have fin:∀{de:St} {H':Hp} {v:V} {u:Value},Inv (vY CX P w K mg base N qual scope f dF A outer s H E) [] de H' s'->RelV v u->Q v H'->CE outer P w H s Q u s':=
  fun {de H' v u} J rv q=>⟨v,H',J.os,J.bare,J.base,J.hok,rv,q⟩
 cases fl with
 | ret u=>
   obtain⟨v,de,H',J,rv,q⟩:=hs;exact fin J rv q
 | next=>
   obtain⟨de,H',J,q⟩:=hs;exact fin (v:=V.cu) (u:=Value.none) J rfl q
 | brk=>
   obtain⟨_,_,_,q⟩:=hs;exact False.elim q
 | cont=>
   obtain⟨_,_,_,q⟩:=hs;exact False.elim q
section
variable {X:Cx} {x:Str} {p pos:Pos} {e:Expr} {es:List Expr} {t:TA} {id T:String} {r:List V->Hp->VK->Prop}
def VN(r:List V->Hp->VK->Prop)(t:TA):TE:=fun σ H Q=>t σ H fun vs H1=>r vs H1 Q
theorem vJ(hc:mr X (.builtin id) r)(hg:Gl X x)(hm:X.mg x=none)(hv:bootBuiltins x=some (.builtin id))(ha:PA X (e ::es) t)(hn:x≠"__name__":=by decide)(se:(x==("__debug__":Str))=false:=by decide)
 (he:starEach (e ::es) X.env=(false,eval e X.env) ::starEach es X.env:=by rfl) (nX:(backTo pos (starEach es X.env)).any (·.1)=false:=by rfl):PE X (.Call (.Name x p) (e ::es) [] pos) (VN r t):=by
 intro pins s σ H Q I h;refine wpAny_Call_Name_kw (lQ I hg hm hv ?_ hn se);exact PyProof.Rows.callWith_builtin1 (d6 (ha pos pins s σ H _ I h) fun us s1 ⟨vs,H1,I1,r1,q1⟩=>hc pins s1 σ H1 vs us Q I1 r1 q1) he nX
theorem Fo(hc:mr X (.type T) r)(hg:Gl X x)(hm:X.mg x=none)(hv:bootBuiltins x=some (.type T))(ha:PA X (e ::es) t)(hn:x≠"__name__":=by decide)(se:(x==("__debug__":Str))=false:=by decide)
 (he:starEach (e ::es) X.env=(false,eval e X.env) ::starEach es X.env:=by rfl) (nX:(backTo pos (starEach es X.env)).any (·.1)=false:=by rfl):PE X (.Call (.Name x p) (e ::es) [] pos) (VN r t):=by
 intro pins s σ H Q I h;refine wpAny_Call_Name_kw (lQ I hg hm hv ?_ hn se);exact PyProof.Rows.callWith_type1 (d6 (ha pos pins s σ H _ I h) fun us s1 ⟨vs,H1,I1,r1,q1⟩=>hc pins s1 σ H1 vs us Q I1 r1 q1) he nX
end
section
variable {κ:Type} [DecidableEq κ]
def jw(kvs:List (κ × V))(k:κ):Option V:=(kvs.find? fun kv=>decide (kv.1=k)).map (·.2)
def putK(kvs:List (κ × V))(k:κ)(v:V):List (κ × V):=
 if(kvs.any fun kv=>decide (kv.1=k))=true then kvs.map (fun kv=>if kv.1=k then(kv.1,v) else kv) else kvs++[(k,v)]
def Ik(kvs:List (κ × V))(k:κ):List (κ × V):=kvs.filter fun kv=>decide (kv.1≠k)
theorem vf{p:κ × V}{r:List (κ × V)}{k:κ}(e:p.1=k):jw (p ::r) k=some p.2:=by simp [jw,List.find?_cons,e]
theorem vV{p:κ × V}{r:List (κ × V)}{k:κ}(e:¬p.1=k):jw (p ::r) k=jw r k:=by simp [jw,List.find?_cons,e]
theorem AV(k:κ):∀kvs:List (κ × V),(kvs.any fun kv=>decide (kv.1=k))=(jw kvs k).isSome
 | []=>rfl
 | p ::r=>by
   rw[List.any_cons];by_cases e:p.1=k
   .simp only[vf e,decide_eq_true e,Bool.true_or,Option.isSome_some]
   .rw [vV e,decide_eq_false e,Bool.false_or];exact AV k r
theorem oF(kvs:List (κ × V))(k:κ)(v:V):(putK kvs k v).length<=kvs.length+1:=by
 unfold putK;split
 .rw [List.length_map];omega
 .rw [List.length_append,List.length_cons,List.length_nil];omega
theorem pQ.sV{o:Option V}{u:Option Value}(r:pQ o u):o.isSome=u.isSome:=by
 cases o with
 | none=>cases u with
   | none=>rfl
   | some _=>exact(show False from r).elim
 | some _=>cases u with
   | none=>exact(show False from r).elim
   | some _=>rfl
theorem pQ.getD{o:Option V}{u:Option Value}{d:V}{d':Value}(r:pQ o u)(rd:RelV d d'):RelV (o.getD d) (u.getD d'):=by
 cases o with
 | none=>cases u with
   | none=>exact rd
   | some _=>exact(show False from r).elim
 | some _=>cases u with
   | none=>exact(show False from r).elim
   | some _=>exact r
theorem KV.val{kvs:List (κ × V)}{vs:List (κ × Value)}(r:KV kvs vs)(k:κ):pQ (jw kvs k) (valueAt vs k):=by
 unfold KV at r
 induction r with
 | nil=>exact True.intro
 | @cons p q ps qs h t ih=>
   obtain⟨h1,h2⟩:=h;by_cases e:p.1=k
   .have e':q.1=k:=h1.symm.trans e;have b:valueAt (q ::qs) k=some q.2:=by simp [valueAt,List.find?_cons,e']
    rw[vf e,b];exact h2
   .have e':¬q.1=k:=fun z=>e (h1.trans z)
    have b:valueAt (q ::qs) k=valueAt qs k:=by simp [valueAt,List.find?_cons,e']
    rw[vV e,b];exact ih
theorem KV.any{kvs:List (κ × V)}{vs:List (κ × Value)}(r:KV kvs vs)(k:κ):(kvs.any fun kv=>decide (kv.1=k))=vs.any fun kv=>decide (kv.1=k):=by
 unfold KV at r
 induction r with
 | nil=>rfl
 | cons h t ih=>rw [List.any_cons,List.any_cons,ih,h.1]
theorem KV.NZ{kvs:List (κ × V)}{vs:List (κ × Value)}(r:KV kvs vs)(k:κ){y:V}{u:Value}(ry:RelV y u) :
 KV (kvs.map fun kv=>if kv.1=k then(kv.1,y) else kv) (vs.map fun kv=>if kv.1=k then(kv.1,u) else kv):=by
 unfold KV at r ⊢
 induction r with
 | nil=>exact .nil
 | @cons p q ps qs h t ih=>
   rw[List.map_cons,List.map_cons];refine .cons ?_ ih;obtain⟨h1,h2⟩:=h;by_cases e:p.1=k
   .rw [if_pos e,if_pos (h1.symm.trans e)];exact⟨h1,ry⟩
   .rw [if_neg e,if_neg (fun z=>e (h1.trans z))];exact⟨h1,h2⟩
theorem KV.put{kvs:List (κ × V)}{vs:List (κ × Value)}(r:KV kvs vs)(k:κ){y:V}{u:Value}(ry:RelV y u):KV (putK kvs k y) (stored vs k u):=by
 unfold putK stored;rw[r.any k];by_cases e:(vs.any fun kv=>decide (kv.1=k))=true
 .rw [if_pos e,if_pos e];exact r.NZ k ry
 .rw [if_neg e,if_neg e];exact Paired.snoc r ⟨rfl,ry⟩
theorem KV.length{kvs:List (κ × V)}{vs:List (κ × Value)}(r:KV kvs vs):kvs.length=vs.length:=Paired.length r
end
theorem AL{k:Key}{u:Value}(r:RelV (kV k) u):(cX P w).is k u=true:=by
 cases k with
 | inl i=>obtain⟨t,e⟩:=(show ∃t,u=Value.int i t from r);subst e;exact A1 P w i t
 | inr x=>obtain⟨t,e⟩:=(show ∃t,u=Value.str x t from r);subst e;exact AE P w x t
theorem xX:∀{ks:List Key} {us:List Value},Vals (ks.map kV) us->ItemsAre (cX P w) ks us
 | [],_,r=>by rw[List.map_nil] at r;cases r;exact .nil
 | k ::ks,_,r=>by
   rw[List.map_cons] at r;cases r with
   | cons h t=>exact .cons (AL h) (xX t)
abbrev KT(H:Hp):List (List Key × V)->List (List Key × Addr × Value)->Prop:=Paired fun p q=>p.1=q.1/\H q.2.1=some (.tup (p.1.map kV))/\RelV p.2 q.2.2
theorem KT.val{kvs:List (List Key × V)}{xs:List (List Key × Addr × Value)}(r:KT H kvs xs)(k:List Key):pQ (jw kvs k) ((atKey xs k).map (·.2)):=by
 induction r with
 | nil=>exact True.intro
 | @cons p q ps qs h t ih=>
   obtain⟨h1,_,h2⟩:=h;by_cases e:p.1=k
   .have e':q.1=k:=h1.symm.trans e;have b:atKey (q ::qs) k=some q.2:=by simp [atKey,List.find?_cons,e']
    rw[vf e,b];exact h2
   .have e':¬q.1=k:=fun z=>e (h1.trans z)
    have b:atKey (q ::qs) k=atKey qs k:=by simp [atKey,List.find?_cons,e']
    rw[vV e,b];exact ih
theorem KT.NZ{kvs:List (List Key × V)}{xs:List (List Key × Addr × Value)}(r:KT H kvs xs)(k:List Key){y:V}{u:Value}(ry:RelV y u) :
 KT H (kvs.map fun kv=>if kv.1=k then(kv.1,y) else kv) (xs.map (putAt k u)):=by
 induction r with
 | nil=>exact .nil
 | @cons p q ps qs h t ih=>
   rw[List.map_cons,List.map_cons];refine .cons ?_ ih;obtain⟨h1,h2,h3⟩:=h;unfold putAt;by_cases e:p.1=k
   .rw [if_pos e,if_pos (h1.symm.trans e)];exact⟨h1,h2,ry⟩
   .rw [if_neg e,if_neg (fun z=>e (h1.trans z))];exact⟨h1,h2,h3⟩
theorem KT.put{H:Hp}{kvs:List (List Key × V)}{xs:List (List Key × Addr × Value)}(r:KT H kvs xs)(k:List Key){b:Addr}{y:V}{u:Value}(hb:H b=some (.tup (k.map kV)))(ry:RelV y u) :
 KT H (putK kvs k y) (storedH xs k b u):=by
 have e:(kvs.any fun kv=>decide (kv.1=k))=(atKey xs k).isSome:=by
  rw[AV,(r.val k).sV,Option.isSome_map]
 unfold putK storedH;rw[e];by_cases q:(atKey xs k).isSome=true
 .rw [if_pos q,if_pos q];exact r.NZ k ry
 .rw [if_neg q,if_neg q];exact Paired.snoc r ⟨rfl,hb,ry⟩
theorem KT.keeps{H H':Hp}{kvs:List (List Key × V)}{xs:List (List Key × Addr × Value)}(r:KT H kvs xs)(ht:∀b ys,H b=some (.tup ys)->H' b=some (.tup ys)):KT H' kvs xs:=
 Paired.M8 r fun _ _ z=>⟨z.1,ht _ _ z.2.1,z.2.2⟩
section
variable {P:Program} {w:World} {H:Hp} {h:Heap} {a:Addr}
theorem L8{u:HO}(ok:pR P w H h)(e:Rd H a u):e_ P w H h a u:=e.ok ok
theorem En{kvs:List (Key × V)}(ok:pR P w H h)(e:Rd H a (.dK kvs)):kvs.length<=sizeLine/\(a==sysModules)=false/\∃vs,KV kvs vs/\h.DictOf (cX P w) a vs:=
 show e_ P w H h a (.dK kvs) from L8 ok e
theorem Hb{kvs:List (Key × V)}(ok:pR P w H h)(e:H a=some (.dK kvs)):kvs.length<=sizeLine/\(a==sysModules)=false/\∃vs,KV kvs vs/\h.DictOf (cX P w) a vs:=En ok (.inl e)
theorem yH{ks:List Key}(ok:pR P w H h)(e:H a=some (.tup (ks.map kV))):(tupleKind (cX P w)).is h ks a:=by
 obtain⟨_,its,r,o,h1,h2,n,h3⟩:=(show e_ P w H h a (.tup (ks.map kV)) from ok a _ e)
 exact⟨o,its.toArray,n,h1,h2,h3,by simpa using xX r⟩
theorem DM{kvs:List (List Key × V)}(ok:pR P w H h)(e:Rd H a (.dT kvs)):kvs.length<=sizeLine/\(a==sysModules)=false/\
 ∃xs,KT H kvs xs/\h.DictOfH (tupleKind (cX P w)) a xs:=by
 obtain⟨z,y,xs,r,o,es,ep,h1,h2,h3,h4,h5⟩:=(show e_ P w H h a (.dT kvs) from L8 ok e)
 refine⟨z,y,xs,r,o,es,ep,h1,h2,h3,h4,fun x hx=>?_,h5⟩
 have all:∀{l:List (List Key × V)} {m:List (List Key × Addr × Value)},KT H l m->∀x∈m,(tupleKind (cX P w)).is h x.1 x.2.1:=by
  intro l m q
  induction q with
  | nil=>intro x hx;exact nomatch hx
  | @cons p q ps qs hq t ih=>
    intro x hx;rcases List.mem_cons.mp hx with e | hx
    .subst e;exact yH ok (by rw[<-hq.1];exact hq.2.1)
    .exact ih x hx
 exact all r x hx
theorem QM{kvs:List (List Key × V)}(ok:pR P w H h)(e:H a=some (.dT kvs)):kvs.length<=sizeLine/\(a==sysModules)=false/\
 ∃xs,KT H kvs xs/\h.DictOfH (tupleKind (cX P w)) a xs:=DM ok (.inl e)
end
def ug(H:Hp)(a:Addr)(y:V)(r:Option V):Prop:=
 (∃kvs k,Rd H a (.dK kvs)/\y=kV k/\r=jw kvs k)\/∃kvs k b,Rd H a (.dT kvs)/\y= .ref b/\H b=some (.tup (k.map kV))/\r=jw kvs k
def Fj(H:Hp)(a:Addr)(y v:V)(H':Hp):Prop:=
 (∃kvs k,H a=some (.dK kvs)/\y=kV k/\kvs.length < sizeLine/\H'=upd H a (.dK (putK kvs k v)))\/
 ∃kvs k b,H a=some (.dT kvs)/\y= .ref b/\H b=some (.tup (k.map kV))/\kvs.length < sizeLine/\H'=upd H a (.dT (putK kvs k v))
theorem ug.k{H:Hp}{a:Addr}{kvs:List (Key × V)}{k:Key}(e:H a=some (.dK kvs)):ug H a (kV k) (jw kvs k):= .inl ⟨kvs,k, .inl e,rfl,rfl⟩
theorem Fj.k{H:Hp}{a:Addr}{kvs:List (Key × V)}{k:Key}{v:V}(e:H a=some (.dK kvs))(hl:kvs.length < sizeLine):Fj H a (kV k) v (upd H a (.dK (putK kvs k v))):= .inl ⟨kvs,k,e,rfl,hl,rfl⟩
section
variable {X:Cx} {pins:Zk} {σ:St} {H:Hp} {s:Shared} {a:Addr} {y v:V} {u r:Value} {o:Option V} {A:Around} {E:Zl}
theorem Inv.big(I:Inv X pins σ H s):sysModules < s.heap.objs.size:=by
 have h:mainGlobals < s.heap.objs.size:=(I.mod.glob.keeps I.bk).lt;exact Nat.lt_trans (by decide) h
theorem TR{Q:Zl}(hu:A.units+1 < cLine)(I:Inv X pins σ H s)(g:ug H a y o)(ry:RelV y u)(h:∀s',Inv X pins σ H s'->Q (.bool o.isSome) s') :
 wpAny (model X.prog X.w) A (compareOp .In u (.ref a)) Q E s:=by
 rcases g with⟨kvs,k,e,ey,l⟩ | ⟨kvs,k,b,e,ey,eb,l⟩
 .subst ey;obtain⟨z,hd,vs,rel,dd⟩:=En I.hok e;refine wpAny_in_of (AL ry) hd dd.mapOf ?_;rw[<-(rel.val k).sV,<-l];exact h _ (I.tok _)
 .subst ey;cases(show u=Value.ref b from ry)
  obtain⟨z,hd,xs,rel,dd⟩:=DM I.hok e;refine wpAny_in_heap (tupleKind_room_in1 hu) (yH I.hok eb) hd dd ?_;have q:=(rel.val k).sV;rw[Option.isSome_map] at q;rw[<-q,<-l];exact h _ (I.tok _)
theorem zi{h':Heap}{t':Nat}{ob:HO}(I:Inv X pins σ H s)(mu:QQ (H a))(hs:Heap.SameBut a s.heap h')(he:∃q,h'.get? a=some q)(new:e_ X.prog X.w (upd H a ob) h' a ob) :
 Inv X pins σ (upd H a ob) {s with heap:=h',toks:=t'}:=
 I.write (x:=a) (e:=a) mu (.inl rfl) (fun b q hb z=>(hs.2 b hb).trans z) he new
theorem GC{H':Hp}{h':Heap}{kvs:List (Key × V)}{vs:List (Key × Value)}(z:kvs.length<=sizeLine)(hd:(a==sysModules)=false)(rel:KV kvs vs)(dd:h'.DictOf (cX P w) a vs) :
 e_ P w H' h' a (.dK kvs):=⟨z,hd,vs,rel,dd⟩
theorem F5{Q:Unit->Shared->Prop}(hu:A.units+1 < cLine)(I:Inv X pins σ H s)(g:Fj H a y v H')(ry:RelV y u)(rv:RelV v r)(h:∀s',Inv X pins σ H' s'->Q () s') :
 wpAny (model X.prog X.w) A (setItem (.ref a) u r) Q E s:=by
 rcases g with⟨kvs,k,e,ey,l,eH⟩ | ⟨kvs,k,b,e,ey,eb,l,eH⟩
 .subst ey eH;obtain⟨z,hd,vs,rel,dd⟩:=Hb I.hok e;have hz:vs.length<=sizeLine:=by rw[<-rel.length];exact z
  have hl:(putK kvs k v).length<=sizeLine:=by have:=oF kvs k v;omega
  refine wpAny_setItem_pairs (hsz:=hz) (AL ry) dd fun h' Pb hs=>h _ ?_
  have he:∃q,h'.get? a=some q:=let⟨q,_,_,hq,_⟩:=Pb;⟨q,hq⟩
  exact zi I (by rw[e];exact True.intro) hs he (GC hl hd (rel.put k rv) Pb)
 .subst ey eH;cases(show u=Value.ref b from ry)
  obtain⟨z,hd,xs,rel,dd⟩:=QM I.hok e;have hz:xs.length<=sizeLine:=by rw[<-Paired.length rel];exact z
  have hl:(putK kvs k v).length<=sizeLine:=by have:=oF kvs k v;omega
  refine wpAny_setItem_heap (hsz:=hz) (tupleKind_room_in1 hu) (yH I.hok eb) dd fun h' Pb hs=>h _ ?_
  obtain⟨q,es,ep,hq,h2,h3,h4,_,h5⟩:=Pb;refine zi I (by rw[e];exact True.intro) hs ⟨q,hq⟩ ⟨hl,hd,_,(rel.put k eb rv).keeps fun c ys ec=>?_,q,es,ep,hq,h2,h3,h4,h5⟩
  rw[bb (Qc ec e (fun z=>nomatch z))]
  exact ec
end
section
variable {X:Cx} {pins:Zk} {σ:St} {H:Hp} {s:Shared} {a:Addr} {kvs:List (Key × V)} {k:Key} {u:Value} {A:Around} {E:Zl}
end
def V_(i:Expr):Prop:=∀ov iv,subscripted i false ov iv=operate [ov,iv] (getItem ov iv)
def Va(td ty:TE):TE:=fun σ H Q=>td σ H fun x H1=>ty σ H1 fun y H2=>∃a v,x= .ref a/\ug H2 a y (some v)/\Q v H2
def Tn(ty td:TE):TE:=fun σ H Q=>ty σ H fun y H1=>td σ H1 fun x H2=>∃a o,x= .ref a/\ug H2 a y o/\Q (.bl o.isSome) H2
def R1(ty td:TE):TE:=fun σ H Q=>ty σ H fun y H1=>td σ H1 fun x H2=>∃a o,x= .ref a/\ug H2 a y o/\Q (.bl (!o.isSome)) H2
def Rv(td ty tv:TE):TS:=fun D σ H=>tv σ H fun v H1=>td σ H1 fun x H2=>ty σ H2 fun y H3=>∃a H4,x= .ref a/\Fj H3 a y v H4/\D.nx σ H4
def VA(td ty tv:TE)(rd:V->V->Hp->VK->Prop):TS:=fun D σ H=>td σ H fun x H1=>ty σ H1 fun y H2=>∃a v,x= .ref a/\ug H2 a y (some v)/\
 tv σ H2 fun y2 H3=>rd v y2 H3 fun z H4=>∃H5,Fj H4 a y z H5/\D.nx σ H5
def U8(td ty:TE):TS:=fun D σ H=>td σ H fun x H1=>ty σ H1 fun y H2=>∃a kvs k,x= .ref a/\H2 a=some (.dK kvs)/\y=kV k/\(jw kvs k).isSome=true/\D.nx σ (upd H2 a (.dK (Ik kvs k)))
section
variable {X:Cx} {o i e value:Expr} {pos pos' tK:Pos} {td ty tv:TE}
theorem Ov(hu:X.A.units+1 < cLine)(hi:PE X i ty)(ho:PE X o td):PC X .In i o (Tn ty td):=by
 intro pins s σ H Q I h;refine d6 (hi pins s σ H _ I h) fun iv s1 ⟨y,H1,I1,ry,q1⟩=>d6 (ho pins s1 σ H1 _ I1 q1) fun u s2 ⟨x,H2,I2,rx,a,ov,ex,g,q2⟩=>?_
 subst ex;obtain rfl:u=Value.ref a:=rx;exact TR hu I2 g ry fun s3 I3=>⟨.bl ov.isSome,H2,I3,rfl,q2⟩
theorem J4(hu:X.A.units+1 < cLine)(ho:PE X o td)(hi:PE X i ty)(hv:PE X value tv)(hs:swapsWith value (some (.Subscript o i pos')) pos.line X.env=pure false) :
 PS X (.Assign [.Subscript o i pos'] value pos) (Rv td ty tv):=by
 intro pins s σ H D I h;refine wpAny_Assign_Subscript (d6 (hv pins s σ H _ I h) fun r s1 ⟨v,H1,I1,rv,q1⟩=>d6 (ho pins s1 σ H1 _ I1 q1) fun u s2 ⟨x,H2,I2,rx,q2⟩=>d6 (hi pins s2 σ H2 _ I2 q2) fun iv s3 ⟨y,H3,I3,ry,a,H4,ex,g,q3⟩=>?_) hs
 subst ex;obtain rfl:u=Value.ref a:=rx;exact F5 hu I3 g ry rv fun s4 I4=>⟨σ,H4,I4,q3⟩
end
theorem Ay(h:Heap)(hb:sysModules < h.objs.size):e_ P w H (h.push {cls:= .type "dict",data:= .dict #[]}) h.objs.size (.dK []):=
 ⟨Nat.zero_le _,beq_eq_false_iff_ne.mpr (Ne.symm (Nat.ne_of_lt hb)),[], .nil,Heap.DictOf.new h⟩
def Nv:TE:=fun _ H Q=>∀p,H p=none->Q (.ref p) (upd H p (.dK []))
def Tu:TE:=fun _ H Q=>∀p,H p=none->Q (.ref p) (upd H p (.dT []))
section
variable {X:Cx} {pos:Pos}
theorem Ij:PE X (.Dict [] [] pos) Nv:=fun pins s σ H Q I h=>
 wpAny_Dict_empty ⟨.ref s.heap.objs.size,_,I.laid (a:=s.heap.objs.size) (o:= .dK []) (t':=s.toks) (fun _ _ q=>Heap.get?_push_of_some _ q) (Nat.le_refl _) (Ay s.heap I.big),rfl,h _ (I.hok.fresh (Nat.le_refl _))⟩
end
def zr:List (TE × TE)->St->Hp->(List (V × V)->Hp->Prop)->Prop
 | [],_,H,Q=>Q [] H
 | (tk,tv) ::r,σ,H,Q=>tk σ H fun x H1=>tv σ H1 fun y H2=>zr r σ H2 fun ps H3=>Q ((x,y) ::ps) H3
abbrev VV:List (V × V)->List (Value × Value)->Prop:=Paired fun p q=>RelV p.1 q.1/\RelV p.2 q.2
def Qv(X:Cx)(pos:Pos)(keys:List (Option Expr))(values:List Expr)(EJ:List (TE × TE)):Prop:=
 ∀(pins:Zk) (s:Shared) (σ:St) (H:Hp) (Q:List (V × V)->Hp->Prop),Inv X pins σ H s->zr EJ σ H Q->
  wpAny (model X.prog X.w) X.A (evalPairs (pairTrees keys values X.env pos)) (fun vs s'=>∃ps H',Inv X pins σ H' s'/\VV ps vs/\Q ps H') X.xe s
theorem Ky{X:Cx}:Qv X pos [] [] []:=fun pins s σ H Q I h=>pairTrees_nil_walk ⟨[],H,I, .nil,h⟩
theorem IW{X:Cx}{ks:List (Option Expr)}{tk tv:TE}{EJ:List (TE × TE)}(hk:PE X k tk)(hv:PE X v tv)(hr:Qv X pos ks vs EJ) :
 Qv X pos (some k ::ks) (v ::vs) ((tk,tv) ::EJ):=fun pins s σ H Q I h=>
 pairTrees_cons_walk (d6 (hk pins s σ H _ I h) fun u s1 ⟨x,H1,I1,rx,q1⟩=>d6 (hv pins s1 σ H1 _ I1 q1) fun w2 s2 ⟨y,H2,I2,ry,q2⟩=>
  d6 (hr pins s2 σ H2 _ I2 q2) fun ws s3 ⟨ps,H3,I3,rel,q3⟩=>⟨(x,y) ::ps,H3,I3, .cons ⟨rx,ry⟩ rel,q3⟩)
def lV(kvs more:List (Key × V)):List (Key × V):=more.foldl (fun acc kv=>putK acc kv.1 kv.2) kvs
theorem KV.merge:∀{more:List (Key × V)} {rs:List (Key × Value)} {kvs:List (Key × V)} {vs:List (Key × Value)},KV more rs->KV kvs vs->KV (lV kvs more) (merged vs rs):=by
 intro more rs kvs vs r;unfold KV at r
 induction r generalizing kvs vs with
 | nil=>intro q;exact q
 | @cons p q ps qs h t ih=>
   intro r0;have e:KV (putK kvs p.1 p.2) (stored vs q.1 q.2):=by
    have:=r0.put p.1 h.2;rw[<-h.1];exact this
   exact ih e
theorem pT:∀(more kvs:List (Key × V)),(lV kvs more).length<=kvs.length+more.length
 | [],kvs=>by show kvs.length<=kvs.length+0;omega
 | p ::r,kvs=>by
   have h1:=pT r (putK kvs p.1 p.2);have h2:=oF kvs p.1 p.2;show(lV (putK kvs p.1 p.2) r).length<=_;rw[List.length_cons];omega
theorem vU:∀{kvs:List (Key × V)} {ws:List (Value × Value)},VV (kvs.map fun kv=>(kV kv.1,kv.2)) ws->∃rs,Carries (cX P w) ws rs/\KV kvs rs
 | [],_,r=>by rw[List.map_nil] at r;cases r;exact⟨[],True.intro, .nil⟩
 | p ::kvs,_,r=>by
   rw[List.map_cons] at r;cases r with
   | @cons a b as bs h t=>
     obtain⟨rs,c,q⟩:=vU (P:=P) (w:=w) t;obtain⟨b1,b2⟩:=b;exact⟨(p.1,b2) ::rs,⟨AL h.1,rfl,c⟩, .cons ⟨rfl,h.2⟩ q⟩
def Ru(EJ:List (TE × TE)):TE:=fun σ H Q=>∀p,H p=none->zr EJ σ (upd H p (.dK [])) fun ps H2=>H2 p=some (.dK [])/\∃kvs:List (Key × V),ps=kvs.map (fun kv=>(kV kv.1,kv.2))/\kvs.length<=15/\Q (.ref p) (upd H2 p (.dK (lV [] kvs)))
theorem Kj{X:Cx}{pos:Pos}{keys:List (Option Expr)}{values:List Expr}{EJ:List (TE × TE)}(h:Qv X pos keys values EJ)(zE:keys.all (·.isSome)=true)(hl:keys.length=values.length)(h0:keys≠[])
 (Uu:keys.length<=15):PE X (.Dict keys values pos) (Ru EJ):=by
 intro pins s σ H Q I q;have hn:=I.hok.fresh (Nat.le_refl s.heap.objs.size);have I1:=I.laid (a:=s.heap.objs.size) (o:= .dK []) (h':=s.heap.push {cls:= .type "dict",data:= .dict #[]}) (t':=s.toks) (fun _ _ q=>Heap.get?_push_of_some _ q) (Nat.le_refl _) (Ay s.heap I.big)
 refine wpAny_Dict_walk (knd:=cX X.prog X.w) zE hl h0 Uu (d6 (h pins _ σ _ _ I1 (q _ hn)) fun ws s2 ⟨ps,H2,I2,rel,e,kvs,ep,lk,q2⟩=>?_)
 subst ep;obtain⟨rs,c,rk⟩:=vU (P:=X.prog) (w:=X.w) rel;obtain⟨z,hd,Zc,r0,dd⟩:=Hb I2.hok e;cases r0;refine⟨rs,c,dd,fun h' Pb hs=>⟨.ref s.heap.objs.size,_,?_,rfl,q2⟩⟩
 have hz:(lV [] kvs).length<=sizeLine:=by
  have h1:=pT kvs [];rw[List.length_nil] at h1;rw[sizeLine_eq];omega
 have he:∃q,h'.get? s.heap.objs.size=some q:=let⟨q,_,_,hq,_⟩:=Pb;⟨q,hq⟩
 exact zi I2 (by rw[e];exact True.intro) hs he (GC hz hd (rk.merge .nil) Pb)
structure M1 (X:Cx) (o:Expr) (m:Str) (apos:Pos) (e:Expr) (dU:Pos):Prop where
 base:attributeBase o m X.env (eval o X.env)=eval o X.env
 few:((backTo dU (starEach [e] X.env)).all (fun x=>!x.1) && (backToKw dU (keywordEach [] X.env)).all (fun x=>x.1.isSome)
  && decide (([e]:List Expr).length+([]:List Keyword).length+(if([]:List Keyword).isEmpty then 0 else 1) < 30))=true
 line:(apos.endLine==dU.line)=true
 trees:backTo dU (starEach [e] X.env)=[(false,eval e X.env)]
structure M2 (X:Cx) (o:Expr) (m:Str) (apos:Pos) (e f:Expr) (dU:Pos):Prop where
 base:attributeBase o m X.env (eval o X.env)=eval o X.env
 few:((backTo dU (starEach [e,f] X.env)).all (fun x=>!x.1) && (backToKw dU (keywordEach [] X.env)).all (fun x=>x.1.isSome)
  && decide (([e,f]:List Expr).length+([]:List Keyword).length+(if([]:List Keyword).isEmpty then 0 else 1) < 30))=true
 line:(apos.endLine==dU.line)=true
 trees:backTo dU (starEach [e,f] X.env)=[(false,eval e X.env),(false,eval f X.env)]
def Qn(H:Hp)(a:Addr):Prop:=(∃kvs,Rd H a (.dK kvs))\/∃kvs,Rd H a (.dT kvs)
theorem M9{X:Cx}{pins:Zk}{s:Shared}{a:Addr}(I:Inv X pins σ H s)(d:Qn H a) :
 s.TypeIs (.ref a) "dict"/\(∀b,Value.ref a= .ref b->∃ob,s.heap.get? b=some ob/\ob.dict=none)/\(a==sysModules)=false:=by
 rcases d with⟨kvs,e⟩ | ⟨kvs,e⟩
 .obtain⟨_,hd,vs,_,dd⟩:=En I.hok e;refine⟨dd.typeIs,fun b q=>?_,hd⟩
  cases q;obtain⟨ob,_,_,h1,h2,_⟩:=dd;exact⟨ob,h1,h2.2.1⟩
 .obtain⟨_,hd,xs,_,dd⟩:=DM I.hok e;refine⟨dd.typeIs,fun b q=>?_,hd⟩
  cases q;obtain⟨ob,_,_,h1,h2,_⟩:=dd;exact⟨ob,h1,h2.2.1⟩
section
variable {X:Cx} {pins:Zk} {σ:St} {H:Hp} {s:Shared} {a:Addr} {y d:V} {u r:Value} {o:Option V} {A:Around} {E:Zl}
theorem NW{Q:Zl}(hu:A.units+1 < cLine)(I:Inv X pins σ H s)(g:ug H a y o)(ry:RelV y u)(rd:RelV d r)(h:∀w' s',Inv X pins σ H s'->RelV (o.getD d) w'->Q w' s') :
 wpAny (model X.prog X.w) A (call (.builtin "dict.get") [.ref a,u,r]) Q E s:=by
 rcases g with⟨kvs,k,e,ey,l⟩ | ⟨kvs,k,b,e,ey,eb,l⟩
 .subst ey;obtain⟨z,hd,vs,rel,dd⟩:=En I.hok e;refine call_meetsIn PySem.F.slot_dict_get dd.typeIs PySem.F.entry_dict_get (PySem.F.args_dict_get_3 _ _ _) (meets_dict_get_default (cX X.prog X.w) a (AL ry) hd r) ⟨_,dd.mapOf,h _ _ (I.tok _) ?_⟩;rw[l];exact(rel.val k).getD rd
 .subst ey;cases(show u=Value.ref b from ry)
  obtain⟨z,hd,xs,rel,dd⟩:=DM I.hok e;refine call_meetsIn PySem.F.slot_dict_get dd.typeIs PySem.F.entry_dict_get (PySem.F.args_dict_get_3 _ _ _) (meetsH_dict_get_default (tupleKind (cX X.prog X.w)) a b hd r) ⟨tupleKind_room_in1 hu,k,xs,yH I.hok eb,dd,h _ _ (I.tok _) ?_⟩;rw[l];exact(rel.val k).getD rd
end
def TH(td ty:TE):TE:=fun σ H Q=>td σ H fun x H1=>∃a,x= .ref a/\Qn H1 a/\ty σ H1 fun y H2=>∃o,ug H2 a y o/\Q (o.getD .cu) H2
def Og(td ty tx:TE):TE:=fun σ H Q=>td σ H fun x H1=>∃a,x= .ref a/\Qn H1 a/\ty σ H1 fun y H2=>tx σ H2 fun z H3=>∃o,ug H3 a y o/\Q (o.getD z) H3
def S9(td ty:TE):TE:=fun σ H Q=>td σ H fun x H1=>∃a,x= .ref a/\Qn H1 a/\ty σ H1 fun y H2=>∃kvs k v,H2 a=some (.dK kvs)/\y=kV k/\jw kvs k=some v/\Q v (upd H2 a (.dK (Ik kvs k)))
def TJ(td ty tx:TE):TE:=fun σ H Q=>td σ H fun x H1=>∃a,x= .ref a/\Qn H1 a/\ty σ H1 fun y H2=>tx σ H2 fun z H3=>∃kvs k,H3 a=some (.dK kvs)/\y=kV k/\
 (∀v,jw kvs k=some v->Q v (upd H3 a (.dK (Ik kvs k))))/\(jw kvs k=none->Q z H3)
section
variable {X:Cx} {o e f:Expr} {apos dU:Pos} {td ty tx:TE}
theorem GV(hu:X.A.units+1 < cLine)(ho:PE X o td)(he:PE X e ty)(hf:PE X f tx)(m:M2 X o "get" apos e f dU):PE X (.Call (.Attribute o "get" apos) [e,f] [] dU) (Og td ty tx):=by
 intro pins s σ H Q I h;refine wpAny_Call_method m.base m.few m.line PySem.F.plainAttrs_dict PySem.F.slot_dict_get PySem.F.type_dict_get (d6 (ho pins s σ H _ I h) fun u s1 ⟨x,H1,I1,rx,a,ex,d,q1⟩=>?_)
 subst ex;obtain rfl:u=Value.ref a:=rx;obtain⟨t1,t2,_⟩:=M9 I1 d;refine⟨t1,t2,?_⟩;rw[m.trees];refine Calls.callWith_builtin rfl (Calls.evalArgs_plain (Calls.spliced_cons (d6 (he pins s1 σ H1 _ I1 q1) fun iv s2 ⟨y,H2,I2,ry,q2⟩=>
  Calls.spliced_cons (d6 (hf pins s2 σ H2 _ I2 q2) fun fv s3 ⟨z,H3,I3,rz,ov,g,q3⟩=>Calls.spliced_nil ?_))))
 exact NW hu I3 g ry rz fun w' s4 I4 JG=>⟨_,H3,I4,JG,q3⟩
end
section
variable {X:Cx} {pins:Zk} {σ:St} {H:Hp} {s:Shared} {a:Addr} {kvs:List (Key × V)} {A:Around} {E:Zl}
end
section
variable {X:Cx} {pins:Zk} {σ:St} {H:Hp} {s:Shared} {a:Addr} {y:V} {u:Value} {A:Around} {E:Zl}
end
end L2
namespace HT
open PySem PyProof.Rows
def lexLt:List Int->List Int->Bool
 | [],[]=>false
 | [],_ ::_=>true
 | _ ::_,[]=>false
 | x ::xs,y ::ys=>if x=y then lexLt xs ys else decide (x < y)
section
open PySem.SeqAt
open PySem.AutoSeq1 (wpAny_loadPart')
open PySem.MeetsSeq PySem.MeetsSeq2 PySem.MeetsSeq3
end
section
variable {prog:Program} {w:World} {A:Around} {E:Zl} {s:Shared}
theorem J3{t b:Addr}{vs ws:List Value}{Q:Zl}(ht:IsTup s.heap t vs.toArray)(hb:IsTup s.heap b ws.toArray)(hv:vs≠[])
 (h1:ws=[]->Q (.ref t) s) (h2:ws≠[]->Q (.ref s.heap.objs.size) {s with heap:=s.heap.push {cls:= .type "tuple",data:= .seq (vs++ws).toArray}})
 (hsz:vs.length+ws.length<=sizeLine):wpAny (model prog w) A (binaryOp .Add (.ref t) (.ref b)) Q E s:=by
 obtain⟨⟨cls,dd,data,sl⟩,ho,hc,n,hd⟩:=id ht;obtain⟨⟨UW,Si,data2,PU⟩,L5,Py,n2,hd2⟩:=id hb;simp only at hc hd Py hd2;subst hc hd Py hd2;have e:vs.toArray++ws.toArray=(vs++ws).toArray:=by simp
 by_cases hw:ws=[]
 .exact concat_meets ⟨_,ho,rfl⟩ ⟨_,L5,rfl⟩ noFill_tuple_add seq_tuple_add PySem.F.slot_tuple_add PySem.F.entry_tuple_add (PySem.F.args_tuple_add_2 _ _)
   (tuple_addW1 t b vs.toArray ws.toArray n n2 dd Si sl PU (by simpa using hv) (by simp [hw])) ⟨ho,L5,h1 hw⟩
 .refine concat_meets ⟨_,ho,rfl⟩ ⟨_,L5,rfl⟩ noFill_tuple_add seq_tuple_add PySem.F.slot_tuple_add PySem.F.entry_tuple_add (PySem.F.args_tuple_add_2 _ _)
   (tuple_addW2 t b vs.toArray ws.toArray n n2 dd Si sl PU (by simpa using hv) (by simpa using hw) (by rw[List.size_toArray,List.size_toArray];exact hsz)) ⟨ho,L5,?_⟩
  rw[e];exact h2 hw
def gA(n d:Nat):Option Int->Nat
 | none=>d
 | some v=>if v < 0 then(v+(n:Int)).toNat else min v.toNat n
theorem wm(n d:Nat):gA n d none=d:=rfl
theorem rR(n d k:Nat):gA n d (some (k:Int))=min k n:=by
 show(if(k:Int) < 0 then((k:Int)+(n:Int)).toNat else min (k:Int).toNat n)=min k n
 rw[if_neg (by omega),Int.toNat_natCast]
theorem N3(n d:Nat)(hd:d<=n)(o:Option Int):gA n d o<=n:=by
 cases o with
 | none=>exact hd
 | some v=>
   show(if v < 0 then(v+(n:Int)).toNat else min v.toNat n)<=n
   by_cases hv:v < 0
   .rw [if_pos hv];omega
   .rw [if_neg hv];exact Nat.min_le_right _ _
theorem EG(v:Int)(n d:Nat):(if v < 0 then max (v+(n:Int)) 0 else min v (n:Int))=((gA n d (some v):Nat):Int):=by
 show(if v < 0 then max (v+(n:Int)) 0 else min v (n:Int))=(((if v < 0 then(v+(n:Int)).toNat else min v.toNat n):Nat):Int)
 by_cases hv:v < 0
 .simp only[if_pos hv];omega
 .simp only[if_neg hv];omega
theorem CS(lo hi:Option Int)(n:Nat):Builtin.Slice.sliceAdjust lo hi 1 (n:Int)=(((gA n 0 lo:Nat):Int),((gA n n hi:Nat):Int)):=by
 have h1:¬((1:Int) < 0):=by omega
 unfold Builtin.Slice.sliceAdjust;simp only[h1,if_false];refine Prod.ext ?_ ?_
 .cases lo with
  | none=>rfl
  | some v=>exact EG v n 0
 .cases hi with
  | none=>rfl
  | some v=>exact EG v n n
theorem Cj(i j:Nat):Builtin.Slice.slicePlaces (i:Int) (j:Int) 1=j - i:=by
 unfold Builtin.Slice.slicePlaces;have h1:(1:Int) > 0:=by omega
 simp only[h1,if_true,Int.ediv_one];split <;> omega
theorem wq{v:Value}{o:Option Int}{Q:Option Int->Shared->Prop}(p:IsPart v o)(h:Q o s):wpAny (model prog w) A (Builtin.Slice.slicePartIndex v) Q E s:=by
 cases p with
 | none=>exact slicePart_none h
 | int i t=>exact slicePart_int h
theorem tf{sl:Addr}{vl vu:Value}{lo hi:Option Int}{n:Nat}{Q:Int × Int × Nat->Shared->Prop}(hs:s.heap.IsSliceOf sl vl vu .none)(pl:IsPart vl lo)(pu:IsPart vu hi)
 (h:Q (((gA n 0 lo:Nat):Int),1,gA n n hi - gA n 0 lo) s):wpAny (model prog w) A (Builtin.Slice.sliceApplied (.ref sl) (pure (n:Int))) Q E s:=by
 obtain⟨os,hos,hcs,hds⟩:=id hs;unfold Builtin.Slice.sliceApplied Builtin.Slice.sliceFields;refine wpAny_bind (wpAny_bind (wpAny_field hos hds (x:=vl) rfl (wpAny_bind (wpAny_field hos hds (x:=vu) rfl (wpAny_bind (wpAny_field hos hds (x:= .none) rfl (wpAny_pure ?_)))))));refine wpAny_bind (slicePart_none ?_);show wpAny _ _ (if((1:Int)==0)=true then _ else _) _ _ s
 rw[if_neg (by decide)]
 refine wpAny_bind (wq pl (wpAny_bind (wq pu (wpAny_bind (wpAny_pure ?_)))));show wpAny _ _ (match Builtin.Slice.sliceAdjust lo hi 1 (n:Int) with | (lo,hi)=>pure (lo,(1:Int),Builtin.Slice.slicePlaces lo hi 1)) _ _ s
 rw[CS lo hi n];show wpAny _ _ (pure (((gA n 0 lo:Nat):Int),(1:Int),Builtin.Slice.slicePlaces ((gA n 0 lo:Nat):Int) ((gA n n hi:Nat):Int) 1)) _ _ s;rw[Cj];exact wpAny_pure h
theorem IJ(xs:Array Value)(i k:Nat):((List.range k).filterMap fun(m:Nat)=>xs[((i:Int)+(m:Int)*1).toNat]?).toArray=((xs.toList.drop i).take k).toArray:=by
 have e:(fun(m:Nat)=>xs[((i:Int)+(m:Int)*1).toNat]?)=fun m=>xs[i+m]?:=by
  funext m;have:((i:Int)+(m:Int)*1).toNat=i+m:=by omega
  rw[this]
 rw[e];have:=pick_run xs i k;rw[List.filterMap_map] at this;have e2:((fun x=>xs[x]?) ∘ fun x=>i+x)=fun m=>xs[i+m]?:=rfl
 rw[e2] at this;rw[this]
theorem rL{t sl:Addr}{items:Array Value}{vl vu:Value}{lo hi:Option Int}{Q:Zl}(ht:IsTup s.heap t items)(hs:s.heap.IsSliceOf sl vl vu .none)(pl:IsPart vl lo)(pu:IsPart vu hi)
 (hw:¬(gA items.size 0 lo=0/\gA items.size items.size hi=items.size))
 (h:Q (.ref s.heap.objs.size) {s with heap:=s.heap.push {cls:= .type "tuple",data:= .seq ((items.toList.drop (gA items.size 0 lo)).take (gA items.size items.size hi - gA items.size 0 lo)).toArray}})
 (hsz:items.size<=sizeLine):wpAny (model prog w) A (getItem (.ref t) (.ref sl)) Q E s:=by
 have htake:sizeOk (.seq ((items.toList.drop (gA items.size 0 lo)).take (gA items.size items.size hi - gA items.size 0 lo)).toArray):=by
  show((items.toList.drop (gA items.size 0 lo)).take (gA items.size items.size hi - gA items.size 0 lo)).toArray.size<=sizeLine;rw[List.size_toArray,List.length_take,List.length_drop,Array.length_toList];omega
 have hj:gA items.size items.size hi<=items.size:=N3 _ _ (Nat.le_refl _) hi;obtain⟨os,hos,hcs,hds⟩:=id hs;have hTs:s.TypeIs (.ref sl) "slice":=⟨os,hos,hcs⟩;unfold getItem
 try with_reducible refine wpAny_holding ?_
 first | refine wpAny_bind (wpAny_pure ?_) | skip
 refine wpAny_bind (wpAny_sequenceKey ht.typeIs (by decide) ?_)
 refine wpAny_bind (wpAny_callSpecial?_slot (name:="__getitem__") ht.typeIs PyProof.Rows.slot_tuple_getitem
  (wpAny_call_entry PyProof.Rows.slot_tuple_getitem ht.typeIs entry_tuple_getitem ?_ (args_tuple_getitem _ _)))
 show wpAny _ _ (Builtin.Tuple.tupleItemsOf (.ref t) >>=_) _ _ s;refine wpAny_bind (tupleItemsOf_ ht ?_);refine wpAny_bind (wpAny_typeOf hTs ?_);rw[if_pos (by decide)]
 refine wpAny_bind (tf hs pl pu ?_);have hno:¬((((gA items.size 0 lo:Nat):Int)==0 && (1:Int)==1 && (gA items.size items.size hi - gA items.size 0 lo)==items.size)=true):=by
  intro q;rw[Bool.and_eq_true,Bool.and_eq_true] at q;have q1:((gA items.size 0 lo:Nat):Int)=0:=eq_of_beq q.1.1;have q2:gA items.size items.size hi - gA items.size 0 lo=items.size:=eq_of_beq q.2;exact hw ⟨by omega,by omega⟩
 show wpAny _ _ (if(((gA items.size 0 lo:Nat):Int)==0 && (1:Int)==1 && (gA items.size items.size hi - gA items.size 0 lo)==items.size)=true then _ else _) _ _ s
 rw[if_neg hno,IJ]
 first
  | exact wpAny_bind (m:=Builtin.Tuple.tupleExact _) (wpAny_newObj_type (wpAny_pure ⟨_,rfl,wpAny_pure h⟩) htake)
  | exact wpAny_bind (m:=Builtin.Tuple.tupleExact _) (wpAny_newObj_type (wpAny_bind (wpAny_pure (wpAny_pure ⟨_,rfl,wpAny_pure h⟩))) htake)
  | exact wpAny_bind (wpAny_bind (m:=Builtin.Tuple.tupleExact _) (wpAny_newObj_type (wpAny_pure (wpAny_pure ⟨_,rfl,wpAny_pure h⟩)) htake))
  | exact wpAny_bind (wpAny_bind (m:=Builtin.Tuple.tupleExact _) (wpAny_newObj_type (wpAny_pure ⟨_,rfl,wpAny_pure h⟩) htake))
end
end HT
namespace L2
open PySem PySem.Spec PyProof.Rows
abbrev TO:=St->Hp->(Option Int->Hp->Prop)->Prop
def PO(X:Cx)(e:Option Expr)(t:TO):Prop:=
 ∀(pins:Zk) (s:Shared) (σ:St) (H:Hp) (Q:Option Int->Hp->Prop),Inv X pins σ H s->t σ H Q->
  wpAny (model X.prog X.w) X.A (evalPart e X.env) (fun u s'=>∃o H',Inv X pins σ H' s'/\IsPart u o/\Q o H') X.xe s
def Kq:TO:=fun _ H Q=>Q none H
def QC(t:TE):TO:=fun σ H Q=>t σ H fun x H1=>∃i,x= .int i/\Q (some i) H1
section
variable {X:Cx} {e:Expr} {te:TE} {lo hi:Option Expr} {tl th:TO} {pos p2:Pos}
theorem J_:PO X none Kq:=by
 intro pins s σ H Q I h;rw[evalPart_none];exact wpAny_pure ⟨none,H,I, .none,h⟩
theorem Lk(h:PE X e te):PO X (some e) (QC te):=by
 intro pins s σ H Q I hw;rw[evalPart_some];refine d6 (h pins s σ H _ I hw) fun u s1 ⟨x,H1,I1,r1,q1⟩=>?_
 obtain⟨i,rfl,q⟩:=q1;obtain⟨t,rfl⟩:=r1;exact⟨some i,H1,I1, .int i t,q⟩
def Md(X:Cx)(r:V->Option Int->Option Int->Hp->VK->Prop):Prop:=
 ∀(pins:Zk) (s:Shared) (σ:St) (H:Hp) (x:V) (v vl vu:Value) (lo hi:Option Int) (sl:Addr) (Q:VK),Inv X pins σ H s->RelV x v->s.heap.IsSliceOf sl vl vu .none->IsPart vl lo->IsPart vu hi->r x lo hi H Q->
  ∃T id,typeLookup (.type T) "__getitem__"=pure (some (.builtin id))/\s.TypeIs v T/\wpAny (model X.prog X.w) X.A (getItem v (.ref sl)) (EP X pins σ Q) X.xe s
theorem Md.or{r r':V->Option Int->Option Int->Hp->VK->Prop}(h:Md X r)(h':Md X r'):Md X (fun x lo hi H Q=>r x lo hi H Q\/r' x lo hi H Q):=by
 intro pins s σ H x v vl vu lo hi sl Q I rx hs pl pu q;rcases q with q | q
 .exact h pins s σ H x v vl vu lo hi sl Q I rx hs pl pu q
 .exact h' pins s σ H x v vl vu lo hi sl Q I rx hs pl pu q
def WD(r:V->Option Int->Option Int->Hp->VK->Prop)(te:TE)(tl th:TO):TE:=fun σ H Q=>te σ H fun x H1=>tl σ H1 fun l H2=>th σ H2 fun u H3=>r x l u H3 Q
theorem Bd{r:V->Option Int->Option Int->Hp->VK->Prop}(hr:Md X r)(he:PE X e te)(hl:PO X lo tl)(hu:PO X hi th):PE X (.Subscript e (.Slice lo hi none p2) pos) (WD r te tl th):=by
 intro pins s σ H Q I h;refine Subscript_ (d6 (he pins s σ H _ I h) fun v s1 ⟨x,H1,I1,r1,q1⟩=>?_)
 refine wpAny_Slice (d6 (hl pins s1 σ H1 _ I1 q1) fun vl s2 ⟨l,H2,I2,pl,q2⟩=>d6 (hu pins s2 σ H2 _ I2 q2) fun vu s3 ⟨u,H3,I3,pu,q3⟩=>?_)
 rw[evalPart_none];refine wpAny_pure ?_;have I4:Inv X pins σ H3 {s3 with heap:=s3.heap.push {cls:= .type "slice",data:= .fields #[vl,vu, .none]}}:=I3.kept (t':=s3.toks) fun b ob q=>Heap.get?_push_of_some _ q
 obtain⟨T,id,hT,ht,hg⟩:=hr pins {s3 with heap:=s3.heap.push {cls:= .type "slice",data:= .fields #[vl,vu, .none]}} σ H3 x v vl vu l u s3.heap.objs.size Q I4 r1 (Heap.IsSliceOf.new ..) pl pu q3
 show wpAny (model X.prog X.w) X.A (subscriptTail e (.Slice lo hi none p2) v (.ref s3.heap.objs.size)) (EP X pins σ Q) X.xe {s3 with heap:=s3.heap.push {cls:= .type "slice",data:= .fields #[vl,vu, .none]}}
 exact tail_any (ops:=[.ref s3.heap.objs.size,v]) ht hT hg (by with_unfolding_all rfl)
def Aw(xs:List V)(lo hi:Option Int):List V:=(xs.drop (HT.gA xs.length 0 lo)).take (HT.gA xs.length xs.length hi - HT.gA xs.length 0 lo)
theorem t9(xs:List V)(lo hi:Option Int):(Aw xs lo hi).length<=xs.length:=by
 unfold Aw;rw[List.length_take,List.length_drop];omega
def T5(K:W.Frag):V->Option Int->Option Int->Hp->VK->Prop:=fun x lo hi H Q=>∃a xs,x= .ref a/\tS K H a xs/\
 ¬(HT.gA xs.length 0 lo=0/\HT.gA xs.length xs.length hi=xs.length)/\∀p,H p=none->Q (.ref p) (upd H p (.tup (Aw xs lo hi)))
theorem M3:Md X (T5 X.K):=by
 intro pins s σ H x v vl vu lo hi sl Q I rx hs pl pu h;obtain⟨a,xs,rfl,hx,hw,q⟩:=h;cases rx;obtain⟨its,r,ht,hz⟩:=I.tuple hx;have hlen:its.toArray.size=xs.length:=by rw[List.size_toArray];exact r.length.symm
 refine⟨"tuple",_,PyProof.Rows.slot_tuple_getitem.lookup,ht.typeIs,?_⟩;refine HT.rL ht hs pl pu (by rw[hlen];exact hw) ?_ (by rw[hlen];exact hz)
 rw[hlen];refine⟨.ref s.heap.objs.size,_,I.laid (t':=s.toks) (o:= .tup (Aw xs lo hi)) (fun b ob q=>Heap.get?_push_of_some _ q) (Nat.le_refl _) ?_,rfl,q _ (I.hok.fresh (Nat.le_refl _))⟩
 exact⟨Nat.le_trans (t9 xs lo hi) hz,_,(r.drop (HT.gA xs.length 0 lo)).take (HT.gA xs.length xs.length hi - HT.gA xs.length 0 lo),IsTup.new _ _⟩
def Xj(K:W.Frag):R2:=fun x y H Q=>∃a b ns ms,x= .ref a/\y= .ref b/\tS K H a (ns.map V.int)/\tS K H b (ms.map V.int)/\Q (.bl (HT.lexLt ns ms)) H
def Ve(K:W.Frag):R2:=fun x y H Q=>∃a b xs ys,x= .ref a/\y= .ref b/\tS K H a xs/\tS K H b ys/\xs≠[]/\xs.length+ys.length<=sizeLine/\
 (ys=[]->Q (.ref a) H)/\(ys≠[]->∀p,H p=none->Q (.ref p) (upd H p (.tup (xs++ys))))
end
def EA(n:Nat)(i:Int):Option Nat:=if 0<=i then(if i < n then some i.toNat else none) else if -(n:Int)<=i then some (i+n).toNat else none
def ur{α:Type}(xs:List α)(i:Int):Option α:=(EA xs.length i).bind fun j=>xs[j]?
theorem KZ{n:Nat}{i:Int}{j:Nat}(h:EA n i=some j):seqIndex? i n=some j/\j < n/\ -(n:Int)<=i/\i < n:=by
 unfold EA at h;by_cases h0:0<=i
 .rw [if_pos h0] at h;by_cases h1:i < n
  .rw [if_pos h1] at h;have e:i.toNat=j:=Option.some.inj h;exact⟨by rw[seqIndex_of h0 h1,e],by omega,by omega,h1⟩
  .rw [if_neg h1] at h;cases h
 .rw [if_neg h0] at h;by_cases h1: -(n:Int)<=i
  .rw [if_pos h1] at h;have e:(i+n).toNat=j:=Option.some.inj h;exact⟨by rw[seqIndex_neg (by omega) h1,e],by omega,h1,by omega⟩
  .rw [if_neg h1] at h;cases h
theorem yJ{α:Type}{xs:List α}{i:Int}{v:α}(h:ur xs i=some v):∃j,seqIndex? i xs.length=some j/\xs[j]? =some v/\j < xs.length/\ -(xs.length:Int)<=i/\i < xs.length:=by
 unfold ur at h;cases e:EA xs.length i with
 | none=>rw [e] at h;cases h
 | some j=>
   rw[e] at h;obtain⟨h1,h2,h3,h4⟩:=KZ e;exact⟨j,h1,h,h2,h3,h4⟩
def uG(b:Expr):Prop:=∀o i,subscripted b false o i=operate [o,i] (getItem o i)
def KL(X:Cx)(r:R2):Prop:=
 ∀(value slice:Expr) (pins:Zk) (s:Shared) (σ:St) (H:Hp) (x y:V) (v u:Value) (Q:VK),Inv X pins σ H s->RelV x v->RelV y u->r x y H Q->
  subscripted slice false v u=operate [v,u] (getItem v u)->wpAny (model X.prog X.w) X.A (subscriptTail value slice v u) (EP X pins σ Q) X.xe s
def WI(X:Cx)(id:String)(r:V->List V->Hp->VK->Prop):Prop:=
 ∀(pins:Zk) (s:Shared) (σ:St) (H:Hp) (x:V) (xs:List V) (v:Value) (us:List Value) (Q:VK),Inv X pins σ H s->RelV x v->Vals xs us->r x xs H Q->
  wpAny (model X.prog X.w) X.A (call (.builtin id) (v ::us)) (EP X pins σ Q) X.xe s
section
variable {X:Cx} {a b:Expr} {ta tb:TE} {pos:Pos}
theorem KL.or{r r':R2}(h:KL X r)(h':KL X r'):KL X (fun x y H Q=>r x y H Q\/r' x y H Q):=by
 intro value slice pins s σ H x y v u Q I rx ry q hs;rcases q with q | q
 .exact h value slice pins s σ H x y v u Q I rx ry q hs
 .exact h' value slice pins s σ H x y v u Q I rx ry q hs
theorem Mo{r:R2}(hr:KL X r)(ha:PE X a ta)(hb:PE X b tb)(hs:uG b):PE X (.Subscript a b pos) (Pt r ta tb):=by
 intro pins s σ H Q I h;exact Subscript_ (Nx ha hb I h fun v u s2 x y H2 I2 rx ry q=>hr a b pins s2 σ H2 x y v u Q I2 rx ry q (hs _ _))
def Qy(K:W.Frag):R2:=fun x y H Q=>∃p xs i v,x= .ref p/\y= .int i/\qT K H p xs/\ur xs i=some v/\Q v H
def P9(K:W.Frag):R2:=fun x y H Q=>∃p xs i v,x= .ref p/\y= .int i/\tS K H p xs/\ur xs i=some v/\Q v H
def Qs:R2:=fun x y H Q=>∃z i c,x= .str z/\y= .int i/\z.length<=sizeLine/\ur z.cps.toList i=some c/\Q (.str ⟨#[c]⟩) H
theorem LC:KL X (Qy X.K):=by
 intro value slice pins s σ H x y v u Q I rx ry h hs;obtain⟨p,xs,i,z,rfl,rfl,hq,he,q⟩:=h;cases rx;obtain⟨t,rfl⟩:=ry;obtain⟨its,r,pl,hz⟩:=I.list hq;obtain⟨j,h1,h2,h3,h4,h5⟩:=yJ he;obtain⟨w,ew,JG⟩:=r.get h2;have hl:=r.length;have hn:=vA;have fin:EP X pins σ Q w s:=⟨z,H,I,JG,q⟩;by_cases h0:0<=i
 .have hj:i.toNat=j:=by
   rw[seqIndex_of h0 h5] at h1;exact Option.some.inj h1
  exact item_listR pl.isList h0 (by omega) (by rw[hj];simpa using ew) fin hs
 .have hj:(i+(its.toArray.size:Int)).toNat=j:=by
   rw[seqIndex_neg (by omega) h4] at h1
   rw[List.size_toArray,<-hl];exact Option.some.inj h1
  exact subscriptTail_builtinR (x:=w) pl.isList.typeIs slot_list_getitem.lookup
   (wpAny_getItem_list_neg (Q:=fun r s'=>r=w/\EP X pins σ Q r s') pl.isList (by omega) (by rw[List.size_toArray] <;> omega) (by omega) (by rw[hj];simpa using ew) ⟨rfl,fin⟩) hs
theorem M0:KL X (P9 X.K):=by
 intro value slice pins s σ H x y v u Q I rx ry h hs;obtain⟨p,xs,i,z,rfl,rfl,hq,he,q⟩:=h;cases rx;obtain⟨t,rfl⟩:=ry;obtain⟨its,r,pl,hz⟩:=I.tuple hq;obtain⟨j,h1,h2,h3,h4,h5⟩:=yJ he;obtain⟨w,ew,JG⟩:=r.get h2;have hl:=r.length;have hn:=vA;have fin:EP X pins σ Q w s:=⟨z,H,I,JG,q⟩;exact subscriptTail_builtinR (x:=w) pl.typeIs slot_tuple_getitem.lookup
  (getItem_tuple (j:=j) (Q:=fun r s'=>r=w/\EP X pins σ Q r s') pl (by omega) (by omega) (by rw[List.size_toArray,<-hl];exact h1) (by simpa using ew) ⟨rfl,fin⟩) hs
theorem N2:KL X Qs:=by
 intro value slice pins s σ H x y v u Q I rx ry h hs;obtain⟨z,i,c,rfl,rfl,hz,he,q⟩:=h;obtain⟨t,rfl⟩:=rx;obtain⟨t',rfl⟩:=ry;obtain⟨j,h1,h2,h3,h4,h5⟩:=yJ he;have hl:z.cps.toList.length=z.length:=by simp [Str.length]
 rw[hl] at h1 h4 h5;have hn:=vA;exact tail_any (typeIs_str s z t) slot_str_getitem.lookup (getItem_str (c:=c) (by
  have e1:decide (i < -(2 ^ 63:Int))=false:=decide_eq_false (by omega)
  have e2:decide (i>=2 ^ 63)=false:=decide_eq_false (by omega)
  rw[e1,e2,Bool.or_false]) (by rw[h1];simpa using h2) ⟨.str ⟨#[c]⟩,H,I.tok _,⟨_,rfl⟩,q⟩) hs
def Tj(K:W.Frag):R2:=fun x y H Q=>Qy K x y H Q\/P9 K x y H Q\/Qs x y H Q
theorem IX:KL X (Tj X.K):=LC.or (M0.or N2)
def Vy:V->V->V->Hp->(Hp->Prop)->Prop:=fun o i v H Q=>∃p xs k j,o= .ref p/\i= .int k/\H p=some (.lst xs)/\EA xs.length k=some j/\Q (upd H p (.lst (xs.set j v)))
theorem yx(lo hi:Option Int)(n:Nat):(sliceBounds lo hi none n).1=((HT.gA n 0 lo:Nat):Int)/\(sliceBounds lo hi none n).2.1=((HT.gA n n hi:Nat):Int)/\(sliceBounds lo hi none n).2.2=1:=by
 refine⟨?_,?_,rfl⟩
 .cases lo with
  | none=>simp [sliceBounds,HT.gA]
  | some i=>
    simp only[sliceBounds,HT.gA,Option.getD_none,show(1:Int) > 0 by decide,if_true]
    by_cases h:i < 0
    .simp only[h,if_true] <;> omega
    .simp only[h,if_false] <;> omega
 .cases hi with
  | none=>simp [sliceBounds,HT.gA]
  | some i=>
    simp only[sliceBounds,HT.gA,Option.getD_none,show(1:Int) > 0 by decide,if_true]
    by_cases h:i < 0
    .simp only[h,if_true] <;> omega
    .simp only[h,if_false] <;> omega
theorem xi(its:List Value)(lo hi:Option Int):slicePick its.toArray lo hi none=((its.drop (HT.gA its.length 0 lo)).take (HT.gA its.length its.length hi - HT.gA its.length 0 lo)).toArray:=by
 obtain⟨h1,h2,h3⟩:=yx lo hi its.toArray.size;unfold slicePick;rw[h1,h2,h3];simp only[sliceRange_one,pick_run,List.size_toArray] <;> rfl
def SM(K:W.Frag):V->Option Int->Option Int->Hp->VK->Prop:=fun x lo hi H Q=>∃a xs,x= .ref a/\qT K H a xs/\∀p,H p=none->Q (.ref p) (upd H p (.lst (Aw xs lo hi)))
theorem LO:Md X (SM X.K):=by
 intro pins s σ H x v vl vu lo hi sl Q I rx hs pl pu h;obtain⟨a,xs,rfl,hx,q⟩:=h;cases rx;obtain⟨its,r,ht,hz⟩:=I.list hx;have hlen:=r.length;refine⟨"list",_,slot_list_getitem.lookup,ht.isList.typeIs,?_⟩;refine wpAny_getItem_list_slice ht.isList hs pl pu .none (by simp) ?_ (by rw[List.size_toArray] <;> omega)
 rw[xi,<-hlen];refine⟨.ref s.heap.objs.size,_,I.laid (t':=s.toks) (o:= .lst (Aw xs lo hi)) (fun b ob q=>Heap.get?_push_of_some _ q) (Nat.le_refl _) ?_,rfl,q _ (I.hok.fresh (Nat.le_refl _))⟩
 exact⟨Nat.le_trans (t9 xs lo hi) hz,_,0,(r.drop (HT.gA xs.length 0 lo)).take (HT.gA xs.length xs.length hi - HT.gA xs.length 0 lo),Heap.get?_push_size _ rfl⟩
def l8:V->Bool
 | .cu=>true
 | .bl _=>true
 | .int _=>true
 | .str _=>true
 | _=>false
def Mj:V->V->Bool
 | .cu, .cu=>true
 | .bl a, .bl b=>a==b
 | .bl a, .int b=>(if a then 1 else 0)==b
 | .int a, .bl b=>a==(if b then 1 else 0)
 | .int a, .int b=>a==b
 | .str a, .str b=>a==b
 | _,_=>false
theorem OO{s:Shared}{y x:V}{u v:Value}(ry:RelV y u)(rx:RelV x v)(fy:l8 y=true)(fx:l8 x=true):SeqAt.EqAt A s u v (Mj y x):=by
 cases y with
 | cu=>
   cases ry;cases x with
   | cu=>cases rx;exact SeqAt.EqAt.same _
   | bl b=>cases rx;exact SeqAt.EqAt.none_bool b
   | int b=>obtain⟨t,rfl⟩:=rx;exact SeqAt.EqAt.none_int b t
   | str b=>obtain⟨t,rfl⟩:=rx;exact SeqAt.EqAt.none_str b t
   | _=>exact absurd (show false=true from fx) Bool.false_ne_true
 | bl a=>
   cases ry;cases x with
   | cu=>cases rx;exact SeqAt.EqAt.bool_none a
   | bl b=>cases rx;exact SeqAt.EqAt.bool_bool a b
   | int b=>obtain⟨t,rfl⟩:=rx;exact SeqAt.EqAt.bool_int a b t
   | str b=>obtain⟨t,rfl⟩:=rx;exact SeqAt.EqAt.bool_str a b t
   | _=>exact absurd (show false=true from fx) Bool.false_ne_true
 | int a=>
   obtain⟨t',rfl⟩:=ry;cases x with
   | cu=>cases rx;exact SeqAt.EqAt.int_none a t'
   | bl b=>cases rx;exact SeqAt.EqAt.int_bool a t' b
   | int b=>obtain⟨t,rfl⟩:=rx;exact SeqAt.EqAt.int_int a t' b t
   | str b=>obtain⟨t,rfl⟩:=rx;exact SeqAt.EqAt.int_str a t' b t
   | _=>exact absurd (show false=true from fx) Bool.false_ne_true
 | str a=>
   obtain⟨t',rfl⟩:=ry;cases x with
   | cu=>cases rx;exact SeqAt.EqAt.str_none a t'
   | bl b=>cases rx;exact SeqAt.EqAt.str_bool a t' b
   | int b=>obtain⟨t,rfl⟩:=rx;exact SeqAt.EqAt.str_int a t' b t
   | str b=>obtain⟨t,rfl⟩:=rx;exact SeqAt.EqAt.str_str a t' b t
   | _=>exact absurd (show false=true from fx) Bool.false_ne_true
 | _=>exact absurd (show false=true from fy) Bool.false_ne_true
def Cw(x:V)(u:Value):Bool:=match u with
 | .none=>Mj .cu x
 | .bool b=>Mj (.bl b) x
 | .int i _=>Mj (.int i) x
 | .str z _=>Mj (.str z) x
 | _=>false
theorem Gx{x y:V}{u:Value}(r:RelV y u)(f:l8 y=true):Cw x u=Mj y x:=by
 cases y with
 | cu=>cases r;rfl
 | bl b=>cases r;rfl
 | int i=>obtain⟨t,rfl⟩:=r;rfl
 | str z=>obtain⟨t,rfl⟩:=r;rfl
 | _=>exact absurd (show false=true from f) Bool.false_ne_true
theorem ri{x:V}:∀{xs:List V} {us:List Value},Vals xs us->xs.all l8=true->us.any (Cw x)=xs.any fun y=>Mj y x
 | _,_, .nil,_=>rfl
 | y ::xs,u ::us, .cons r t,f=>by
   rw[List.all_cons,Bool.and_eq_true] at f;rw[List.any_cons,List.any_cons,Gx r f.1,ri t f.2]
theorem n_{s:Shared}{x:V}{v:Value}(rx:RelV x v)(fx:l8 x=true):∀{xs:List V} {us:List Value},Vals xs us->xs.all l8=true->∀u∈us,SeqAt.EqAt A s u v (Cw x u)
 | _,_, .nil,_=>fun u hu=>by cases hu
 | y ::xs,u ::us, .cons r t,f=>fun u' hu=>by
   rw[List.all_cons,Bool.and_eq_true] at f;rcases List.mem_cons.mp hu with rfl | hu
   .rw [Gx r f.1];exact OO r rx f.1 fx
   .exact n_ rx fx t f.2 u' hu
def Hk(x:V)(xs:List V):Bool:=xs.any fun y=>Mj y x
def Tz(K:W.Frag)(neg:Bool):R2:=fun x y H Q=>∃p xs,y= .ref p/\(qT K H p xs\/tS K H p xs)/\l8 x=true/\xs.all l8=true/\Q (.bl (if neg then !Hk x xs else Hk x xs)) H
theorem xQ:mL X (compareOp .In) (Tz X.K false):=by
 intro pins s σ H x y v u Q I rx ry h;obtain⟨p,xs,rfl,hq,fx,fs,q⟩:=h;cases ry;rcases hq with hq | hq
 .obtain⟨its,r,pl,hz⟩:=I.list hq;refine SeqAt.in_listAt (Cw x) pl.isList (fun w hw=>n_ rx fx r fs w (by simpa using hw)) ⟨.bl _,H,I,rfl,?_⟩
  rw[show its.toArray.any (Cw x)=its.any (Cw x) by simp,ri r fs]
  exact q
 .obtain⟨its,r,pl,hz⟩:=I.tuple hq;refine SeqAt.in_tupleAt (Cw x) pl (fun w hw=>n_ rx fx r fs w (by simpa using hw)) ⟨.bl _,H,I,rfl,?_⟩
  rw[show its.toArray.any (Cw x)=its.any (Cw x) by simp,ri r fs]
  exact q
theorem yF:mL X (compareOp .NotIn) (Tz X.K true):=by
 intro pins s σ H x y v u Q I rx ry h;obtain⟨p,xs,rfl,hq,fx,fs,q⟩:=h;cases ry;rcases hq with hq | hq
 .obtain⟨its,r,pl,hz⟩:=I.list hq;refine SeqAt.notIn_listAt (Cw x) pl.isList (fun w hw=>n_ rx fx r fs w (by simpa using hw)) ⟨.bl _,H,I,rfl,?_⟩
  rw[show its.toArray.any (Cw x)=its.any (Cw x) by simp,ri r fs]
  exact q
 .obtain⟨its,r,pl,hz⟩:=I.tuple hq;refine SeqAt.notIn_tupleAt (Cw x) pl (fun w hw=>n_ rx fx r fs w (by simpa using hw)) ⟨.bl _,H,I,rfl,?_⟩
  rw[show its.toArray.any (Cw x)=its.any (Cw x) by simp,ri r fs]
  exact q
theorem yy:mr X (.type "list") (fun xs H Q=>∃p ys,xs=[.ref p]/\(qT X.K H p ys\/tS X.K H p ys)/\∀l,H l=none->Q (.ref l) (upd H l (.lst ys))):=by
 intro pins s σ H xs us Q I r h;obtain⟨p,ys,rfl,hq,q⟩:=h;obtain⟨u,rfl,rx⟩:=vals1 r;cases rx;have fin:∀(its:List Value),Vals ys its->ys.length<=sizeLine->∀(h':Heap) (c':Nat),(∀b o',s.heap.get? b=some o'->h'.get? b=some o')->
  h'.get? s.heap.objs.size=some {cls:= .type "list",dict:=none,data:= .seq its.toArray c',slots:=#[]}->EP X pins σ Q (.ref s.heap.objs.size) {s with heap:=h'}:=fun its r' hz h' c' kp e=>
  ⟨.ref s.heap.objs.size,_,I.laid (t':=s.toks) kp (Nat.le_refl _) (show e_ X.prog X.w _ h' _ (.lst ys) from⟨hz,its,c',r',e⟩),rfl,q _ (I.hok.fresh (Nat.le_refl _))⟩
 rcases hq with hq | hq
 .obtain⟨its,r',pl,hz⟩:=I.list hq;have hlen:=r'.length;obtain⟨o,ho,hc,n,hd⟩:=pl.isList;exact call_list_seq p (.inl rfl) ho hc hd (fun h' c' kp e=>fin its r' hz h' c' kp e) (by simp only[List.size_toArray] <;> omega)
 .obtain⟨its,r',pl,hz⟩:=I.tuple hq;have hlen:=r'.length;obtain⟨o,ho,hc,n,hd⟩:=pl;exact call_list_seq p (.inr rfl) ho hc hd (fun h' c' kp e=>fin its r' hz h' c' kp e) (by simp only[List.size_toArray] <;> omega)
theorem xj:mr X (.type "tuple") (fun xs H Q=>∃p ys,xs=[.ref p]/\((qT X.K H p ys/\∀l,H l=none->Q (.ref l) (upd H l (.tup ys)))\/(tS X.K H p ys/\Q (.ref p) H))):=by
 intro pins s σ H xs us Q I r h;obtain⟨p,ys,rfl,h⟩:=h;obtain⟨u,rfl,rx⟩:=vals1 r;cases rx;rcases h with⟨hq,q⟩ | ⟨hq,q⟩
 .obtain⟨its,r',pl,hz⟩:=I.list hq;have hlen:=r'.length;refine call_tuple_list pl.isList (fun h' kp=>?_) (by simp only[List.size_toArray] <;> omega)
  have I1:Inv X pins σ H {s with heap:=h'}:=I.kept (t':=s.toks) kp
  have I2:Inv X pins σ (upd H h'.objs.size (.tup ys)) {s with heap:=h'.push {cls:= .type "tuple",data:= .seq its.toArray}}:=
   I1.laid (t':=s.toks) (fun b o e=>Heap.get?_push_of_some _ e) (Nat.le_refl _) (show e_ X.prog X.w _ _ _ (.tup ys) from⟨hz,its,r',IsTup.new _ _⟩)
  exact⟨.ref h'.objs.size,_,I2,rfl,q _ (I1.hok.fresh (Nat.le_refl _))⟩
 .obtain⟨its,r',pl,hz⟩:=I.tuple hq;exact call_tuple_same pl ⟨.ref p,H,I,rfl,q⟩
def SE(K:W.Frag)(T:String)(x:V)(H:Hp):Prop:=match x with
 | .str _=>T="str"
 | .int _=>T="int"
 | .ref p=>(T="list"/\∃xs,qT K H p xs)\/(T="tuple"/\∃o,K.lookup p=some o/\o.cls= .type "tuple"/\o.dict=none)\/
    (T="dict"/\((∃kvs,H p=some (.dK kvs))\/∃kvs,H p=some (.dT kvs)))\/(T="set"/\∃S n,H p=some (.set S n))
 | _=>False
theorem NP{pins:Zk}{s:Shared}{T:String}{x:V}{v:Value}(I:Inv X pins σ H s)(r:RelV x v)(ty:SE X.K T x H) :
 s.TypeIs v T/\∀a,v= .ref a->∃ob,s.heap.get? a=some ob/\ob.dict=none:=by
 cases x with
 | str z=>
   obtain⟨t,rfl⟩:=r;cases(show T="str" from ty)
   exact⟨typeIs_str s z t,fun _ e=>nomatch e⟩
 | int i=>
   obtain⟨t,rfl⟩:=r;cases(show T="int" from ty)
   exact⟨typeIs_int s i t,fun _ e=>nomatch e⟩
 | ref p=>
   cases r;rcases ty with⟨rfl,xs,hq⟩ | ⟨rfl,o,hk,hc,hd⟩ | ⟨rfl,hk⟩ | ⟨rfl,S,n,hk⟩
   .obtain⟨its,_,pl,_⟩:=I.list hq;refine⟨pl.isList.typeIs,fun a e=>?_⟩
    cases e;obtain⟨o,n,e,c,hd,_⟩:=pl;exact⟨o,e,hd⟩
   .refine⟨⟨o,I.D2 p o hk,hc⟩,fun a e=>?_⟩
    cases e;exact⟨o,I.D2 _ o hk,hd⟩
   .have z:∃o,s.heap.get? p=some o/\o.ExactDict:=by
     rcases hk with⟨kvs,hk⟩ | ⟨kvs,hk⟩
     .obtain⟨_,_,_,_,o,_,_,e,ex,_⟩:=I.hok p _ hk;exact⟨o,e,ex⟩
     .obtain⟨_,_,_,_,o,_,_,e,ex,_⟩:=I.hok p _ hk;exact⟨o,e,ex⟩
    obtain⟨o,e,ex⟩:=z;refine⟨⟨o,e,ex.1⟩,fun a e2=>?_⟩
    cases e2;exact⟨o,e,ex.2.1⟩
   .obtain⟨o,_,_,_,e,ex,_⟩:=I.hok p _ hk;refine⟨⟨o,e,ex.1⟩,fun a e2=>?_⟩
    cases e2;exact⟨o,e,ex.2.1⟩
 | _=>exact False.elim ty
def Wz(K:W.Frag)(T:String)(r:V->List V->Hp->VK->Prop)(to:TE):TE:=fun σ H Q=>to σ H fun x H1=>SE K T x H1/\r x [] H1 Q
def WT(K:W.Frag)(T:String)(r:V->List V->Hp->VK->Prop)(to:TE)(t:TA):TE:=fun σ H Q=>to σ H fun x H1=>SE K T x H1/\t σ H1 fun xs H2=>r x xs H2 Q
variable {o e:Expr} {es:List Expr} {to:TE} {t:TA} {name:Str} {apos dU:Pos} {T id:String} {r:V->List V->Hp->VK->Prop}
theorem Mq(pa:PlainAttrs T)(slot:Slot T name id)(Ye:typeOf (.builtin id)=pure (.type "method_descriptor"))(hm:WI X id r)(ho:PE X o to)(ha:PA X (e ::es) t)
 (r_:attributeBase o name X.env (eval o X.env)=eval o X.env:=by rfl)
 (zD:((backTo dU (starEach (e ::es) X.env)).all (fun x=>!x.1) && (backToKw dU (keywordEach [] X.env)).all (fun x=>x.1.isSome)
   && decide ((e ::es).length+([]:List Keyword).length+(if([]:List Keyword).isEmpty then 0 else 1) < 30))=true:=by rfl)
 (sf:(apos.endLine==dU.line)=true:=by rfl) (hs:starEach (e ::es) X.env=(false,eval e X.env) ::starEach es X.env:=by rfl) (O4:(backTo dU (starEach es X.env)).any (·.1)=false:=by rfl) :
 PE X (.Call (.Attribute o name apos) (e ::es) [] dU) (WT X.K T r to t):=by
 intro pins s σ H Q I h;refine wpAny_Call_method_late r_ zD sf rfl (d6 (ho pins s σ H _ I h) fun v s1 ⟨x,H1,I1,r1,ty,q1⟩=>?_)
 obtain⟨h1,h2⟩:=NP I1 r1 ty;refine⟨T,id,pa,slot,Ye,h1,h2,?_⟩;have hA:=ha dU pins s1 σ H1 _ I1 q1;rw[hs] at hA ⊢;refine Calls.callWith_builtin (by show(false || (backTo dU (starEach es X.env)).any (·.1))=false;rw [O4] <;> rfl) (Calls.evalArgs_plain ?_)
 exact d6 hA fun us s2 ⟨vs,H2,I2,r2,q2⟩=>hm pins s2 σ H2 x vs v us Q I2 r1 r2 q2
end
def WZ(X:Cx)(id:String)(r:V->List V->Hp->VK->Prop):Prop:=
 ∀(pins:Zk) (s:Shared) (σ:St) (H:Hp) (x:V) (xs:List V) (v:Value) (us:List Value) (Q:VK),Inv X pins σ H s->RelV x v->Vals xs us->r x xs H Q->
  wpAny (model X.prog X.w) X.A (call (.builtin id) (v ::us)) (EP X pins σ Q) X.xe s
theorem Vals.one:∀{x:V} {us:List Value},Vals [x] us->∃u,us=[u]/\RelV x u
 | _,_, .cons r .nil=>⟨_,rfl,r⟩
theorem Vals.rep{xs:List V}{us:List Value}(h:Vals xs us):∀k:Nat,Vals (List.replicate k xs).flatten (List.replicate k us).flatten
 | 0=> .nil
 | k+1=>by
   rw[List.replicate_succ,List.replicate_succ,List.flatten_cons,List.flatten_cons];exact Vals.append h (Vals.rep h k)
theorem foldl_rep(its:List Value):∀(k:Nat) (acc:List Value),
 List.foldl (fun x1 x2=>x1++x2) acc.toArray (List.replicate k its.toArray)=(acc++(List.replicate k its).flatten).toArray
 | 0,acc=>by simp
 | k+1,acc=>by
   have e:acc.toArray++its.toArray=(acc++its).toArray:=by simp
   have e2:(acc++its)++(List.replicate k its).flatten=acc++(List.replicate (k+1) its).flatten:=by
    rw[List.replicate_succ,List.flatten_cons,List.append_assoc]
   rw[<-e2,<-foldl_rep its k (acc++its),<-e,List.replicate_succ,List.foldl_cons]
section
variable {X:Cx} {pins:Zk} {σ:St} {H:Hp} {s:Shared} {l b:Addr} {xs ys zs:List V}
theorem Inv.T8{its its':List Value}{n:Nat}{f:Array Value->Array Value}{t':Nat}(I:Inv X pins σ H s)(hH:H l=some (.lst xs))
 (e:s.heap.get? l=some {cls:= .type "list",data:= .seq its.toArray n}) (hf:f its.toArray=its'.toArray) (hv:Vals ys its') (hz:ys.length<=sizeLine) :
 Inv X pins σ (upd H l (.lst ys)) {s with heap:=s.heap.update l (Obj.mapSeq f),toks:=t'}:=by
 have q:=PySem.IsL.update e f;rw[hf] at q;refine I.write (x:=l) (e:=l) (by rw[hH];exact trivial) (.inl rfl) (fun b' u hb hu=>(Heap.get?_update_other s.heap (Obj.mapSeq f) (Ne.symm hb)).trans hu) ⟨_,q⟩ ?_
 exact⟨hz,its',_,hv,q⟩
theorem Inv.Lc{its:List Value}{t':Nat}(I:Inv X pins σ H s)(hv:Vals ys its)(hz:ys.length<=sizeLine) :
 Inv X pins σ (upd H s.heap.objs.size (.lst ys)) {s with heap:=s.heap.push {cls:= .type "list",data:= .seq its.toArray},toks:=t'}:=
 I.laid (fun _ _ q=>Heap.get?_push_of_some _ q) (Nat.le_refl _) ⟨hz,its,0,hv,Heap.get?_push_size _ rfl⟩
theorem Inv.fresh(I:Inv X pins σ H s):H s.heap.objs.size=none:=I.hok.fresh (Nat.le_refl _)
theorem Inv.Qp(I:Inv X pins σ H s)(hH:H l=some (.lst xs)):xs.length<=sizeLine/\∃(its:List Value) (n:Nat),Vals xs its/\xs.length=its.length/\s.heap.get? l=some {cls:= .type "list",data:= .seq its.toArray n}:=by
 obtain⟨z,its,n,r,e⟩:=I.hok l _ hH;exact⟨z,its,n,r,r.length,e⟩
theorem Jd{n:Nat}(h:n<=sizeLine):Builtin.List.listTooLong n=false:=by
 unfold Builtin.List.listTooLong;exact decide_eq_false (by omega)
end
section
variable {X:Cx}
def KR:V->List V->Hp->VK->Prop:=fun x vs H Q=>∃l xs y,x= .ref l/\vs=[y]/\H l=some (.lst xs)/\xs.length < sizeLine/\Q .cu (upd H l (.lst (xs++[y])))
theorem sC:WZ X "list.append" KR:=by
 intro pins s σ H x vs v us Q I rx rv h;obtain⟨l,xs,y,rfl,rfl,hH,hz,q⟩:=h;cases rx;obtain⟨u,rfl,ru⟩:=rv.one;obtain⟨z,its,n,r,hl,e⟩:=I.Qp hH;refine call_meets F.slot_list_append ⟨_,e,rfl⟩ F.entry_list_append (F.args_list_append_2 _ _) (PySem.list_append l its.toArray n u (by rw[List.size_toArray];omega)) ⟨e,?_⟩
 refine⟨.cu,_,I.T8 (its':=its++[u]) hH e (by simp) (r.append (.cons ru .nil)) ?_,rfl,q⟩
 rw[List.length_append,List.length_singleton];omega
def RV:V->List V->Hp->VK->Prop:=fun x vs H Q=>∃l b xs zs,x= .ref l/\vs=[.ref b]/\H l=some (.lst xs)/\H b=some (.lst zs)/\xs.length+zs.length<=sizeLine/\Q .cu (upd H l (.lst (xs++zs)))
def WN:V->List V->Hp->VK->Prop:=fun x vs H Q=>∃l xs y,x= .ref l/\vs=[]/\H l=some (.lst xs)/\xs[xs.length - 1]? =some y/\Q y (upd H l (.lst xs.dropLast))
def TL:V->List V->Hp->VK->Prop:=fun x vs H Q=>∃l xs i k y,x= .ref l/\vs=[.int i]/\H l=some (.lst xs)/\ -(2 ^ 63)<=i/\i < 2 ^ 63/\seqIndex? i xs.length=some k/\xs[k]? =some y/\Q y (upd H l (.lst (xs.eraseIdx k)))
def Q0:V->List V->Hp->VK->Prop:=fun x vs H Q=>∃l xs,x= .ref l/\vs=[]/\H l=some (.lst xs)/\Q .cu (upd H l (.lst xs.reverse))
def SQ:V->List V->Hp->VK->Prop:=fun x vs H Q=>∃l xs,x= .ref l/\vs=[]/\H l=some (.lst xs)/\Q .cu (upd H l (.lst []))
def Xd:R2:=fun x y H Q=>∃l b xs zs,x= .ref l/\y= .ref b/\H l=some (.lst xs)/\H b=some (.lst zs)/\xs.length+zs.length<=sizeLine/\∀p,H p=none->Q (.ref p) (upd H p (.lst (xs++zs)))
def SD:R2:=fun x y H Q=>∃l k xs,x= .ref l/\y= .int k/\H l=some (.lst xs)/\ -(2 ^ 63)<=k/\k < 2 ^ 63/\xs.length*k.toNat<=sizeLine/\
 ∀p,H p=none->Q (.ref p) (upd H p (.lst (List.replicate k.toNat xs).flatten))
theorem len_rep{α:Type}(xs:List α)(k:Nat):(List.replicate k xs).flatten.length=k*xs.length:=by
 induction k with
 | zero=>simp
 | succ k ih=>rw [List.replicate_succ,List.flatten_cons,List.length_append,ih,Nat.succ_mul,Nat.add_comm]
theorem OE:mL X (binaryOp .Mult) SD:=by
 intro pins s σ H x y v u Q I rx ry h;obtain⟨l,k,xs,rfl,rfl,hH,h1,h2,hz,q⟩:=h;cases rx;obtain⟨t,rfl⟩:=ry;obtain⟨z,its,n,r,hl,e⟩:=I.Qp hH;have hlen:its.toArray.size*k.toNat<=sizeLine:=by rw[List.size_toArray,<-hl];exact hz
 have hcap:¬its.toArray.size*k.toNat > (2 ^ 63 - 1) / 8:=by
  have:(sizeLine:Nat)<=(2 ^ 63 - 1) / 8:=by decide
  omega
 have hfit:¬(!Builtin.List.listFitsIndex k)=true:=by
  rw[fitsIndex_both h1 h2];exact Bool.false_ne_true
 have hlong:¬Builtin.List.listTooLong (its.toArray.size*k.toNat)=true:=by
  rw[Jd hlen];exact Bool.false_ne_true
 have hnew:List.foldl (fun x1 x2=>x1++x2) #[] (List.replicate (if its.toArray.isEmpty=true then 0 else k.toNat) its.toArray)=(List.replicate k.toNat its).flatten.toArray:=by
  have f0:∀m:Nat,List.foldl (fun x1 x2=>x1++x2) #[] (List.replicate m its.toArray)=(List.replicate m its).flatten.toArray:=fun m=>by
   have:=foldl_rep its m [];rw[List.nil_append] at this;exact this
  rw[f0];cases its with
  | nil=>simp
  | cons a r'=>rw [if_neg (by simp)]
 refine wpAny_binaryOp_repeat_ref (T:="list") (U:="int") (by decide) ⟨_,e,rfl⟩ (fun s'=>typeIs_int s' k t) noFill_list_mul F.fills_int_mul F.slot_int_rmul repeat_list F.slot_int_index.lookup
  (call_meets F.slot_int_rmul (typeIs_int s k t) F.entry_int_rmul (F.args_int_rmul_2 _ _) (int___rmul___int_list k t l its.toArray n)
    ⟨e,rfl,⟨_,e,rfl⟩,call_meets F.slot_list_mul ⟨_,e,rfl⟩ F.entry_list_mul (F.args_list_mul_2 _ _) (AutoListH.list___mul___list_int_3 l its.toArray n k t hfit hcap hlong) ⟨e,?_⟩⟩)
 rw[hnew];exact⟨.ref _,_,I.Lc (t':=s.toks) (r.rep k.toNat) (by rw[len_rep,Nat.mul_comm];exact hz),rfl,q _ I.fresh⟩
end
section
variable {prog:Program} {w:World} {A:Around} {E:Zl} {s:Shared}
set_option maxRecDepth 100000 in
end
section
variable {X:Cx}
end
end L2
namespace Att
open PySem PySem.W PySem.Calls PyProof.Rows
theorem uf{P:Params}:∀(ns:List Int) (vs:List Value),WellAll P h vs (ns.map WData.int)->IntsAre vs ns:=by
 intro ns
 induction ns with
 | nil=>
   intro vs w;rw[List.map_nil] at w;cases w;exact .nil
 | cons n ns ih=>
   intro vs w;rw[List.map_cons] at w;cases w with
   | cons a b=>
     cases a;exact .cons _ _ (ih _ b)
theorem ES{l:OpenLaw}{n:Nat}(hn:l.most=some n){P:Params}{h:Heap}{args:List WData}{vals:List Value}
 (LX:l.row.toRowW.claim.pre args=true) (Dg:WellAll P h vals args) :
 ∃a vs ns,vals=[Value.ref a]/\args=[WData.list (ns.map WData.int)]/\h.get? a=some {cls:= .type "list",data:= .seq vs.toArray}/\IntsAre vs ns/\ns.length<=n:=by
 have hsh:WShape.hasAll [] args [.list .int]=true:=(pre_splitW LX).1;have hc:l.pre.holds [] {args:=args}=true:=(pre_splitW LX).2;obtain⟨d,r,rfl,h1,h2⟩:=hasAllW_cons hsh;obtain rfl:=hasAllW_nil h2;obtain⟨xs,rfl,h3⟩:=hasW_list h1;obtain⟨ns,rfl⟩:=items_int h3;have hlen:ns.length<=n:=by
  unfold OpenLaw.pre at hc;have h4:(WTm.not (.lt (.lit (.int (n:Int))) (.len (.arg 0)))).holds [] {args:=[.list (ns.map .int)]}=true:=by
   have h4:=(holds_andW hc).1;rw[hn] at h4;exact h4
  have h5:=condW_of h4 (w_not (w_lt w_lit (w_len_list (w_arg rfl))));rw[List.length_map] at h5;refine Nat.le_of_not_lt fun q=>?_
  have q':(n:Int) < ((ns.length:Nat):Int):=by omega
  first
   | (rw [decide_eq_true q'] at h5;exact absurd h5 (by decide))
   | (simp at h5;omega)
 cases Dg with
 | cons w1 w2=>
   cases w2;cases w1 with
   | list ho zE=>exact⟨_,_,ns,rfl,rfl,ho,uf ns _ zE,hlen⟩
theorem Fx(l:OpenLaw)(args:List WData):l.row.toRowW.claim.post args (.bool true) args=true:=
 postW_of (r:=l.row.toRowW) (X:=(true==true))
  (show WShape.has [] (.bool true) .bool=true by first | rfl | decide | simp [WShape.has,WShape.arms,WShape.armsAll])
  (show(WTm.eq .res (.lit (.bool true))).value [] {args:=args,res:=some (.bool true),after:=args}=some (.bool (true==true)) from w_eq_bool (w_res rfl) w_lit) rfl
theorem Aq{l:OpenLaw}{n:Nat}{q:Program}{loose:List Str}{XP:(Str->Option Value)->Heap->Prop}{YP:World->Heap->Prop}{d:DefRec}
 (hn:l.most=some n) (UU:d.params.defaults=[])
 (call:∀(w:World) (s₀ s₁:Shared) (mg mb:Zp) (fa:Addr) (o:Obj) (pm cd doc:Value) (a:Addr) (vs:List Value) (ns:List Int),
   Ground q loose [] XP w s₀ mg mb s₁.heap->YP w s₁.heap->
   s₁.heap.get? fa=some o->o.data= .func (docDef d.name d.params d.body d.scope pm cd doc)->s₁.heap.CodeRec cd d.name->mg d.name=some (.ref fa)->
   s₁.heap.get? a=some {cls:= .type "list",data:= .seq vs.toArray}->IntsAre vs ns->ns.length<=n->s₁.gens=#[]->
   codeAny (model l.prog w) callerA (.call (.ref fa) ⟨[.ref a],[]⟩) (fun r s'=>r= .ok (.ret (.bool true))/\OldK s₁.heap s'.heap/\s'.os=s₁.os/\AllBare s'.gens) s₁) :
 WalkO q loose XP YP l.row.toRowW d [] (fun f vs=>PySem.call f vs):=by
 intro w s₀ s₁ mg mb G Y fa o pm cd doc dV kV ho hd wF hD RL hg args vals as LX hlay hrd Dg hlo;obtain rfl:dV= .none:=Dflts.none hD UU;obtain rfl:kV= .none:=Dflts.noKw hD;obtain⟨a,vs,ns,rfl,rfl,O3,hints,hlen⟩:=ES hn LX Dg;refine enter_call (codeAny_mono (call w s₀ s₁ mg mb fa o pm cd doc a vs ns G Y ho (fd_plain hd) wF RL O3 hints hlen hg) fun r s' hq=>?_)
 obtain⟨rfl,h2,h3,h4⟩:=hq;exact⟨.inl ⟨.bool true, .bool true,[],rfl,fun _=>rfl, .bool true,Fx l _,fun _=>⟨List.Pairwise.nil,fun _ hm=>(nomatch hm)⟩⟩,h2,h3,h4⟩
section
variable {prog:Program} {w:World} {A:Around} {E:Zl} {s:Shared} {K:Frag}
def TQ(h:Heap):Heap:={h with objs:=#[]}
def ledger(h:Heap)(L d:Addr):Zk:=(List.range h.objs.size).filterMap fun a=>if a=L\/a=d then none else(h.get? a).map fun o=>(a,o)
end
end Att
namespace L2
open PySem PySem.Spec PyProof.Rows
theorem xG:∀{vs:List Value} {ns:List Int},IntsAre vs ns->Vals (ns.map V.int) vs
 | _,_, .nil=> .nil
 | _,_, .cons n t h=> .cons ⟨t,rfl⟩ (xG h)
def Rg(H:Hp):Prop:=∀b,H b=none\/∃o xs,H b=some (.k4 o (.lst xs))
abbrev eP{K:W.Frag}{h:Heap}(_:K.In h):W.Frag:=K
def inClass(s:Stmt)(j:Nat):Stmt:=match s with
 | .ClassDef _ _ _ body _ _ _ _ _ _ _=>body.getD j (.Pass ⟨0,0,0,0⟩)
 | _=> .Pass ⟨0,0,0,0⟩
def gJ(s:Stmt):Arguments:=match s with
 | .FunctionDef _ a _ _ _ _ _ _ _ _=>a
 | _=>{posonlyargs:=[],args:=[],vararg:=none,kwonlyargs:=[],kw_defaults:=[],kwarg:=none,defaults:=[]}
def aK(s:Stmt):List Stmt:=match s with
 | .FunctionDef _ _ b _ _ _ _ _ _ _=>b
 | _=>[]
def ay(s:Stmt):Scope:=match s with
 | .FunctionDef _ _ _ _ _ _ sc _ _ _=>sc
 | _=>{kind:= .function,names:=[],isGenerator:=false,isCoroutine:=false}
abbrev wJ:GY:=fun _ _ _ _ _ _=>False
abbrev E0:XK:=fun _ _ _=>False
theorem Bn{X:Cx}:Passes wJ X E0:=fun _ _ _ _ _ _ _ h=>h.elim
structure ED (K:W.Frag) (x qual:Str) (st:Stmt) (f:Addr) (fd:FuncData):Prop where
 ex:∃(oc:Value) (od:Option Addr) (kV doc pm:Value) (an:Option Addr) (dF ct:Value) (JV:Array (Option Value)),
  fd=PySem.W.fnOf x qual (gJ st) (aK st) (ay st) .none kV doc pm an dF ct/\K.lookup f=some ⟨oc,od, .func fd,JV⟩/\PySem.W.codeIn K dF qual=true
 kp:PySem.W.keepIn K (.ref f)=true
section
variable {P:Program} {w:World} {K:W.Frag} {mg:Zp} {base:Heap}
theorem ED.ok{x qual:Str}{st:Stmt}{f:Addr}{fd:FuncData}{N ps:List Str}{k:Nat}{sp:Sp}(F:ED K x qual st f fd)(S:aT N ps (ay st))(len:∀vs H Q E,sp vs H Q E->vs.length=ps.length)
 (mK:∀(dF:Value) (A:Around) (outer:List Env) (s:Shared) (H:Hp) (vs:List V) (Q:VK) (E:XK),fq k (A.deeper (envOfC qual (ay st) s.heap.objs.size f dF))->sp vs H Q E->
   ∃t,yR (vY wJ P w K mg base N qual (ay st) f dF A outer s H E).Lp (aK st) t/\t {nx:=fun _ H'=>Q .cu H',rt:=Q} (start N vs) H):jI P w K mg base wJ (k+1) f fd ps sp:=by
 obtain⟨oc,od,kV,doc,pm,an,dF,ct,JV,rfl,lk,wF⟩:=F.ex;refine QL lk wF S len fun A outer s H vs Q E hr Pz=>?_
 obtain⟨t,h,q⟩:=mK dF A outer s H vs Q E hr Pz;exact⟨t,h.Lp,q⟩
theorem ED.binds{x qual:Str}{st:Stmt}{f:Addr}{fd:FuncData}{ps:List Str}(F:ED K x qual st f fd)
 (h:∀(kV doc pm:Value) (an:Option Addr) (dF ct:Value) (us:List Value),us.length=ps.length->bindArgs (PySem.W.fnOf x qual (gJ st) (aK st) (ay st) .none kV doc pm an dF ct) ⟨us,[]⟩=pure (ps.zip us)):Binds K fd ps []:=by
 obtain⟨oc,od,kV,doc,pm,an,dF,ct,JV,rfl,lk,wF⟩:=F.ex;exact .all (h kV doc pm an dF ct)
theorem qm{x qual:Str}{st:Stmt}{f:Addr}{oc:Value}{od an:Option Addr}{JV:Array (Option Value)}{kV doc pm dF ct:Value}(l:K.lookup f=some ⟨oc,od, .func (PySem.W.fnOf x qual (gJ st) (aK st) (ay st) .none kV doc pm an dF ct),JV⟩)
 (c:PySem.W.codeIn K dF qual=true) (k:PySem.W.keepIn K (.ref f)=true):ED K x qual st f (PySem.W.fnOf x qual (gJ st) (aK st) (ay st) .none kV doc pm an dF ct):=⟨⟨oc,od,kV,doc,pm,an,dF,ct,JV,rfl,l,c⟩,k⟩
end
theorem Dm{A:Around}{k:Nat}(hr:fq k A):A.units+1 < cLine:=Nat.lt_of_le_of_lt (Nat.add_le_add_left (by decide:1<=64) _) hr.units
section
variable {X:Cx}
end
theorem Fb{A B:Prop}(h:B):if false=true then A else B:=by
 rw[if_neg Bool.false_ne_true];exact h
theorem EU{A B:Prop}(h:A):if true=true then A else B:=by
 rw[if_pos rfl];exact h
def aU(H H':Hp):Prop:=∀b o,H b=some o->H' b=some o
theorem aU.refl(H:Hp):aU H H:=fun _ _ h=>h
theorem aU.trans(a:aU H H1)(b:aU H1 H2):aU H H2:=fun c o h=>b c o (a c o h)
theorem aU.free{H H':Hp}(e:aU H H'){l:Addr}(h:H' l=Option.none):H l=Option.none:=by
 cases q:H l with
 | none=>rfl
 | some o=>
   rw[e l o q] at h;cases h
section
variable {κ:Type} [DecidableEq κ]
end
end L2
end
section
namespace L2
open PySem PySem.Spec PyProof.Rows
def pP(cells:List (Str × Addr)):List (Str × NameKind)->List (Str × Addr)->List (Str × Addr)
 | [],acc=>acc
 | (n,k) ::r,acc=>pP cells r (if k==NameKind.free then(n,(cells.lookup n).getD 0) ::acc else acc)
theorem mX{env:Env}:∀(names:List (Str × NameKind)) (acc:List (Str × Addr)),(∀y∈names,y.2= .free->∃c,env.cells.lookup y.1=some c)->
 (forIn names acc fun(x:Str × NameKind) (cs:List (Str × Addr))=>(match x with
   | (name,kind)=>if kind== .free then do let a <-cellOf env name;pure (ForInStep.yield ((name,a) ::cs)) else pure (ForInStep.yield cs):Sem (ForInStep (List (Str × Addr)))))=pure (pP env.cells names acc)
 | [],acc,_=>by simp [pP]
 | (n,k) ::r,acc,h=>by
   rw[List.forIn_cons];by_cases hk:k=NameKind.free
   .subst hk;obtain⟨c,hc⟩:=h (n, .free) List.mem_cons_self rfl;have e:cellOf env n=pure c:=by unfold cellOf;rw [hc]
    simp only[beq_self_eq_true,if_true,e,pure_bind,pP,hc,Option.getD_some];exact mX r _ fun y hy=>h y (List.mem_cons_of_mem _ hy)
   .have hb:(k==NameKind.free)=false:=by simpa using hk
    simp only[hb,Bool.false_eq_true,if_false,pure_bind,pP];exact mX r _ fun y hy=>h y (List.mem_cons_of_mem _ hy)
theorem nQ{env:Env}{scope:Scope}(h:∀y∈scope.names,y.2= .free->∃c,env.cells.lookup y.1=some c):closureFor scope env=pure (pP env.cells scope.names []):=by
 unfold closureFor;have:=mX (env:=env) scope.names [] h;simp only[bind_pure];exact this
theorem lB{cells:List (Str × Addr)}:∀(names:List (Str × NameKind)) (acc:List (Str × Addr)) {x:Str} {c:Addr},(pP cells names acc).lookup x=some c->
 acc.lookup x=some c\/((x,NameKind.free)∈names/\c=(cells.lookup x).getD 0)
 | [],acc,x,c,h=> .inl h
 | (n,k) ::r,acc,x,c,h=>by
   rcases lB r _ h with q | ⟨q1,q2⟩
   .by_cases hk:k=NameKind.free
    .subst hk;simp only[beq_self_eq_true,if_true] at q;cases hx:x==n with
     | true=>
       have e:x=n:=by simpa using hx
       subst e;rw[List.lookup_cons,hx] at q;exact .inr ⟨List.mem_cons_self,(Option.some.inj q).symm⟩
     | false=>
       rw[List.lookup_cons,hx] at q;exact .inl q
    .have hb:(k==NameKind.free)=false:=by simpa using hk
     simp only[hb,Bool.false_eq_true,if_false] at q;exact .inl q
   .exact .inr ⟨List.mem_cons_of_mem _ q1,q2⟩
theorem AX{cells:List (Str × Addr)}:∀(names:List (Str × NameKind)) (acc:List (Str × Addr)) {x:Str},((x,NameKind.free)∈names\/∃c,acc.lookup x=some c)->∃c,(pP cells names acc).lookup x=some c
 | [],acc,x,h=>by
   rcases h with h | h
   .simp at h
   .exact h
 | (n,k) ::r,acc,x,h=>by
   refine AX r _ ?_;rcases h with h | ⟨c,h⟩
   .rcases List.mem_cons.mp h with e | e
    .cases e;exact .inr ⟨(cells.lookup n).getD 0,by simp [List.lookup_cons]⟩
    .exact .inl e
   .by_cases hk:k=NameKind.free
    .subst hk;simp only[beq_self_eq_true,if_true];cases hx:x==n with
     | true=>exact .inr ⟨(cells.lookup n).getD 0,by rw[List.lookup_cons,hx]⟩
     | false=>exact .inr ⟨c,by rw[List.lookup_cons,hx];exact h⟩
    .have hb:(k==NameKind.free)=false:=by simpa using hk
     simp only[hb,Bool.false_eq_true,if_false];exact .inr ⟨c,h⟩
theorem y8:∀(names:List (Str × NameKind)) (n:Nat) (acc:List (Str × Addr)) {x:Str},(x,NameKind.cell) ∉ names->(cellsFrom n names acc).lookup x=acc.lookup x
 | [],_,_,_,_=>rfl
 | (y,k) ::r,n,acc,x,h=>by
   unfold cellsFrom;split
   .rename_i hk;have hk:k= .cell:=by simpa using hk
    subst hk;rw[y8 r _ _ fun z=>h (List.mem_cons_of_mem _ z),List.lookup_cons]
    cases hx:x==y with
    | true=>
      have e:x=y:=by simpa using hx
      subst e;exact absurd List.mem_cons_self h
    | false=>rfl
   .exact y8 r _ _ fun z=>h (List.mem_cons_of_mem _ z)
theorem qi:∀(names:List (Str × NameKind)) (n:Nat) (acc:List (Str × Addr)),cellsFrom n names acc=cellsFrom n names []++acc
 | [],_,_=>rfl
 | (y,k) ::r,n,acc=>by
   unfold cellsFrom;split
   .rw [qi r (n+1) ((y,n) ::acc),qi r (n+1) [(y,n)],List.append_assoc];rfl
   .exact qi r n acc
theorem Dc{a b:List (Str × Addr)}{c:Addr}(h:(a++b).lookup x=some c):(x,c)∈a\/b.lookup x=some c:=by
 induction a with
 | nil=>exact .inr h
 | cons y r ih=>
   obtain⟨n,v⟩:=y;rw[List.cons_append,List.lookup_cons] at h;cases hx:x==n with
   | true=>
     rw[hx] at h;have e:x=n:=by simpa using hx
     subst e;cases h;exact .inl List.mem_cons_self
   | false=>
     rw[hx] at h;exact(ih h).imp (List.mem_cons_of_mem _) id
theorem oA{a b:List (Str × Addr)}(h:∃c,b.lookup x=some c):∃c,(a++b).lookup x=some c:=by
 induction a with
 | nil=>exact h
 | cons y r ih=>
   rw[List.cons_append,List.lookup_cons];cases x==y.1 with
   | true=>exact⟨_,rfl⟩
   | false=>exact ih
theorem yA{a b:List (Str × Addr)}{c:Addr}(h:a.lookup x=some c):∃c,(a++b).lookup x=some c:=by
 induction a with
 | nil=>cases h
 | cons y r ih=>
   rw[List.cons_append,List.lookup_cons];rw[List.lookup_cons] at h;cases hx:x==y.1 with
   | true=>exact⟨_,rfl⟩
   | false=>rw [hx] at h;exact ih h
theorem x5{M:Model}{A:Around}{E:Zl}{s:Shared}{scope:Scope}{cl:List (Str × Addr)}{qual:Str}{env:Env}{Q:Env->Shared->Prop}(hQ:∀h',h'.Ns s.heap.objs.size (fun _=>none)->(∀b o,s.heap.get? b=some o->h'.get? b=some o)->CellsOk h' (s.heap.objs.size+1) (cellsFrom (s.heap.objs.size+1) scope.names [])->
 Q (newEnv scope s.heap.objs.size env.globals (cellsFrom (s.heap.objs.size+1) scope.names cl) qual none .none (some env) builtinsNs) {s with heap:=h'}) :
 wpAny M A (newFunctionEnv scope env.globals cl [] qual none .none (some env)) Q E s:=by
 simp only[newFunctionEnv,Option.isSome_some,if_true];refine wpAny_bind (wpAny_alloc ?_);refine wpAny_bind (wpAny_layCells _ (fun name kind cells=>by cases hkc:kind==NameKind.cell <;> simp [hkc]) _ _ _ _ ?_)
 have ok:=cellsFrom_ok scope.names (s.heap.push {cls:= .type "dict",data:= .dict #[]}) (s.heap.objs.size+1) [] ⟨fun _ _ hm=>(nomatch hm),List.Pairwise.nil⟩ (by rw[Heap.size_push];exact Nat.le_refl _)
 rw[Heap.size_push] at ok;rw[show({s with heap:=s.heap.push {cls:= .type "dict",data:= .dict #[]}}:Shared).heap.objs.size=s.heap.objs.size+1 from Heap.size_push ..]
 rw[List.forIn_nil];refine wpAny_bind (wpAny_pure (wpAny_pure ?_));exact hQ _ ((Heap.Ns.new s.heap (.type "dict")).keeps (pushCells_keeps _ _)) (fun b o e=>pushCells_keeps _ _ b o (Heap.get?_push_of_some _ e)) ok
def bM(X:Cx)(scope:Scope)(N':List Str)(fp:List Addr)(s:Shared)(H:Hp):Cx where
 prog:=X.prog
 w:=X.w
 K:=X.K
 mg:=X.mg
 base:=X.base
 A:=X.A
 N:=N'
 s₀:=s
 H₀:=H
 env:=compEnvC scope (cellsFrom (s.heap.objs.size+1) scope.names (pP X.env.cells scope.names [])) s.heap.objs.size X.env
 outer:=X.stack
 stack:=X.stack
 ex:=fp
 fn:=fun x=>scope.names.lookup x==some .cell
 calm:=X.calm
 pn:=[]
 xe:=fun _ _=>False
structure bz (X:Cx) (scope:Scope) (own:List Str) (kp:List Nat) (kn:List Str):Prop where
 kind:scope.kind= .function
 cel:∀y∈scope.names,y.2= .cell->scope.names.lookup y.1=some .cell
 nd:∀y∈scope.names,y.2= .local->scope.names.lookup y.1=some .local
 free:∀y∈scope.names,y.2= .free->X.env.kindOf y.1=some .cell\/X.env.kindOf y.1=some .free
 frl:∀y∈scope.names,y.2= .free->scope.names.lookup y.1=some .free
 names:kn.length=kp.length
 at_:∀(j i:Nat) (x:Str),kp[j]? =some i->kn[j]? =some x->X.N[i]? =some x
 isfree:∀x∈kn,scope.names.lookup x=some .free
def dZ(own:List Str)(kp:List Nat)(σ:St):St:=List.replicate own.length none++kp.map fun i=>(σ[i]?).getD none
section
variable {X:Cx} {scope:Scope} {own:List Str} {kp:List Nat} {kn:List Str}
theorem fB{env:Env}:∀{names:List (Str × NameKind)} {x:Str} {k:NameKind},
 (names.map fun(n,k)=>if(k==NameKind.free && env.scope.kind== .function && env.kindOf n==some .cell) then(n,NameKind.cell) else(n,k)).lookup x=some k->
 names.lookup x=some k\/(k= .cell/\names.lookup x=some .free)
 | [],_,_,h=>by simp at h
 | (n,k) ::r,x,k',h=>by
   have ih:=@fB env r x k';have h:List.lookup x ((if(k==NameKind.free && env.scope.kind== .function && env.kindOf n==some .cell)=true then(n,NameKind.cell) else(n,k)) ::_)=some k':=h
   by_cases hc:(k==NameKind.free && env.scope.kind== .function && env.kindOf n==some .cell)=true
   .rw [if_pos hc] at h;have hkf:k= .free:=by
     simp only[Bool.and_eq_true,beq_iff_eq] at hc;exact hc.1.1
    cases hx:x==n with
    | true=>
      rw[List.lookup_cons,hx] at h;cases h;exact .inr ⟨rfl,by rw[List.lookup_cons,hx,hkf]⟩
    | false=>
      rw[List.lookup_cons,hx] at h;rw[List.lookup_cons,hx];exact ih h
   .rw [if_neg hc] at h;cases hx:x==n with
    | true=>
      rw[List.lookup_cons,hx] at h;rw[List.lookup_cons,hx];exact .inl h
    | false=>
      rw[List.lookup_cons,hx] at h;rw[List.lookup_cons,hx];exact ih h
theorem qy{pins:Zk}{s:Shared}(C:bz X scope own kp kn)(I:Inv X pins σ H s):∀y∈scope.names,y.2= .free->∃c,X.env.cells.lookup y.1=some c:=fun y hy hf=>
 I.ok.has y.1 (C.free y hy hf)
theorem HS{pins:Zk}{σ:St}{H:Hp}{s:Shared}{fp:List Addr}{jM:Heap}{tk:Nat}(C:bz X scope own kp kn)(I:Inv X pins σ H s)(hf:∀b∈fp,uz X pins H b)(hb:∀b∈fp,b < s.heap.objs.size)
 (hn:jM.Ns s.heap.objs.size (fun _=>none)) (hk:∀b o,s.heap.get? b=some o->jM.get? b=some o) (hC:CellsOk jM (s.heap.objs.size+1) (cellsFrom (s.heap.objs.size+1) scope.names [])):Inv (bM X scope (own++kn) fp s H) [] (dZ own kp σ) H {s with heap:=jM,toks:=tk}:=by
 have cl:∀x c,(pP X.env.cells scope.names []).lookup x=some c->X.env.cells.lookup x=some c:=fun x c e=>by
  rcases lB scope.names [] e with q | ⟨q1,q2⟩
  .simp at q
  .obtain⟨c',Gu⟩:=qy C I (x, .free) q1 rfl;have Gu:X.env.cells.lookup x=some c':=Gu;rw[Gu] at q2;rw[Gu,q2];rfl
 have clA:∀x c,(cellsFrom (s.heap.objs.size+1) scope.names (pP X.env.cells scope.names [])).lookup x=some c->(x,c)∈cellsFrom (s.heap.objs.size+1) scope.names []\/(pP X.env.cells scope.names []).lookup x=some c:=fun x c e=>by
  rw[qi] at e;exact Dc e
 have old:∀x c,(pP X.env.cells scope.names []).lookup x=some c->c < s.heap.objs.size:=fun x c e=>by
  obtain⟨v,h⟩:=I.cell x c (cl x c e);exact h.lt
 have new:∀x c,(x,c)∈cellsFrom (s.heap.objs.size+1) scope.names []->s.heap.objs.size<=c:=fun x c e=>Nat.le_of_lt (hC.empty x c e).2
 have clh:∀x,scope.names.lookup x=some .free->∃c,(pP X.env.cells scope.names []).lookup x=some c:=fun x hx=>AX scope.names [] (.inl (PySem.mem_of_lookup hx))
 refine⟨⟨I.ok.mod,C.kind,I.ok.glob,I.ok.blt,Nat.le_refl _,fun x y c h1 h2=>?inj,fun x hx=>?_,fun x c hn h=>?cab,I.ok.hd,I.ok.frames, .inl rfl,fun b zC=>⟨Nat.ne_of_lt (hb b zC),fun x c e z=>?exf⟩,
  fun b o e=>I.bs b o e,Nat.le_trans I.ok.bsz I.sz,fun b o e zC=>?_,fun b zC hs=>?_,I.stack,I.DH⟩,
  rfl,I.bare,Un.kept hk,⟨_,hn,fun i x v h1 h2 h3=>?_⟩,fun x c e=>?_,I.hok.fresh (Nat.le_refl _),fun x c e=>?frc,fun p hp=>(by cases hp),I.hok.kept hk,?_⟩
 case inj=>
  rcases clA x c h1 with a | a <;> rcases clA y c h2 with b | b
  .exact name_of_addr hC.apart a b
  .exact absurd (Nat.lt_of_lt_of_le (old y c b) (new x c a)) (Nat.lt_irrefl _)
  .exact absurd (Nat.lt_of_lt_of_le (old x c a) (new y c b)) (Nat.lt_irrefl _)
  .exact I.ok.inj x y c (cl x c a) (cl y c b)
 case cab=>
  have hn:(scope.names.lookup x==some .cell)=true:=hn;rcases clA x c h with a | a
  .exact new x c a
  .rcases lB scope.names [] a with q | ⟨q1,q2⟩
   .simp at q
   .have hx:scope.names.lookup x=some .cell:=by simpa using hn
    have h7:scope.names.lookup x=some .free:=C.frl _ q1 rfl;rw[hx] at h7;cases h7
 case exf=>
  rcases clA x c e with a | a
  .subst z;exact absurd (Nat.lt_of_lt_of_le (hb _ zC) (new x _ a)) (Nat.lt_irrefl _)
  .exact(hf b zC).2.2.2.2.1 x c (cl x c a) z
 case frc=>
  rcases clA x c e with a | a
  .exact I.hok.fresh (new x c a)
  .exact I.freeC x c (cl x c a)
 .have hx:(relabel scope X.env).names.lookup x=some .cell\/(relabel scope X.env).names.lookup x=some .free:=hx;show ∃c,(cellsFrom (s.heap.objs.size+1) scope.names (pP X.env.cells scope.names [])).lookup x=some c;rcases hx with hx | hx
  .rcases fB hx with q | ⟨_,q⟩
   .rw [qi];obtain⟨c,hc⟩:=u0 (n:=s.heap.objs.size+1) q;exact yA hc
   .rw [qi];exact oA (clh x q)
  .rcases fB hx with q | ⟨q,_⟩
   .rw [qi];exact oA (clh x q)
   .cases q
 .rcases(hf b zC).2.2.2.1 with z | z
  .exact I.ok.noex b o e z
  .exact absurd (Nat.lt_of_lt_of_le (Heap.lt_size (I.ok.bs b o e).1) z) (Nat.lt_irrefl _)
 .rcases List.mem_cons.mp (I.CC b hs) with z | z
  .exact(hf b zC).2.1 z
  .exact(hf b zC).2.2.1 z
 .-- a kept name
  have h1:(own++kn)[i]? =some x:=h1;have h2:(dZ own kp σ)[i]? =some (some v):=h2;unfold dZ at h2;by_cases hi:i < own.length
  .rw [List.getElem?_append_left (by simpa using hi),List.getElem?_replicate] at h2
   split at h2 <;> cases h2
  .rw [List.getElem?_append_right (by simpa using hi),List.length_replicate,List.getElem?_map] at h2
   rw[List.getElem?_append_right (by simpa using hi)] at h1
   cases e:kp[i - own.length]? with
   | none=>rw [e] at h2;cases h2
   | some j=>
     rw[e] at h2;have h2:(σ[j]?).getD none=some v:=Option.some.inj h2;have hj:X.N[j]? =some x:=C.at_ _ j x e h1;have LZ:σ[j]? =some (some v):=by
      cases q:σ[j]? with
      | none=>rw [q] at h2;cases h2
      | some y=>rw [q] at h2;exact congrArg some h2
     have hfree:scope.names.lookup x=some .free:=C.isfree x (List.mem_of_getElem? h1);have hkind:=C.free (x, .free) (PySem.mem_of_lookup hfree) rfl;obtain⟨m,hm,hl⟩:=I.loc;obtain⟨u,r,l⟩:=hl j x v hj LZ (hkind.elim (fun q=>Or.inr (Or.inl q)) fun q=>Or.inr (Or.inr q))
     refine⟨u,r, .inr ⟨?_,?_⟩⟩
     .have h3:(relabel scope X.env).names.lookup x=some .local\/(relabel scope X.env).names.lookup x=some .cell\/(relabel scope X.env).names.lookup x=some .free:=h3;rcases h3 with q | q | q
      .rcases fB q with z | ⟨z,_⟩
       .rw [hfree] at z;cases z
       .cases z
      .exact .inl q
      .exact .inr q
     .rcases l with⟨k,_⟩ | ⟨_,c,hc,hcell⟩
      .rcases hkind with q | q
       .rw [show X.env.kindOf x=some .cell from q] at k;cases k
       .rw [show X.env.kindOf x=some .free from q] at k;cases k
      .obtain⟨c',Gu⟩:=clh x hfree;have:=cl x c' Gu;rw[hc] at this;cases this;obtain⟨o,ho,hd⟩:=hcell;exact⟨c,(y8 _ _ _ fun z=>by have:=C.cel _ z rfl;rw [hfree] at this;cases this).trans Gu,o,hk c o ho,hd⟩
 .rcases clA x c e with a | a
  .exact⟨_,(hC.empty x c a).1⟩
  obtain⟨v,o,ho,hd⟩:=I.cell x c (cl x c a);exact⟨v,o,hk c o ho,hd⟩
 .show(dZ own kp σ).length=(own++kn).length;unfold dZ;rw[List.length_append,List.length_replicate,List.length_map,List.length_append,C.names]
theorem vi{pins:Zk}{s s':Shared}{fp:List Addr}{N':List Str}(I:Inv X pins σ H s)(hf:∀b∈fp,uz X pins H b)(J:Inv (bM X scope N' fp s H) [] de H' s'):Inv X pins σ H' s':=
 I.QG (ch:=fp) J.os J.base J.hok J.bare fun b hb=>⟨(hf b hb).2.2.2.1,(hf b hb).2.1,(hf b hb).2.2.2.2.1,(hf b hb).2.2.2.2.2⟩
end
def sr(X:Cx)(ifs:List Expr)(t:TT):Prop:=
 ∀(pins:Zk) (s:Shared) (σ:St) (H:Hp) (Q:Bool->Hp->Prop),Inv X pins σ H s->t σ H Q->
  wpAny (model X.prog X.w) X.A (forIn ifs true fun c r=>if r=true then do let ok <-isTrue c X.env (eval c X.env);pure (ForInStep.yield ok) else pure (ForInStep.yield r)) (TP X pins σ Q) X.xe s
def SY:TT:=fun _ H Q=>Q true H
theorem Bo{X:Cx}:sr X [] SY:=fun _ _ _ H _ I h=>wpAny_tests_nil ⟨H,I,h⟩
theorem zS{X:Cx}{t:TT}(h:PT X c t):sr X [c] t:=fun pins s σ H Q I hq=>wpAny_tests_one (h pins s σ H Q I hq)
def D6(wi:TI)(g:TG)(tc:TT)(te:TE)(own:List Str)(kp:List Nat):TE:=fun σ H Q=>wi σ H fun J H1=>∀D,H1 D=none->
 ∃W:Nat->Nat->List V->Hp->Prop,(∃m,W 0 m [] (upd H1 D (.lst [])))/\∀i m ys H,W i m ys H->
  (J.stop i H/\Q (.ref D) H)\/(J.go i H/\∀x H',J.yld i H x H'->g x (dZ own kp σ) H' fun wH H2=>tc wH H2 fun c H3=>
    if c=true then te wH H3 fun y H4=>H4 D=some (.lst ys)/\ys.length < sizeLine/\∃m',m' < m/\W (i+1) m' (ys++[y]) (upd H4 D (.lst (ys++[y])))
    else ∃m',m' < m/\W (i+1) m' ys H3)
section
variable {X:Cx} {scope:Scope} {own:List Str} {kp:List Nat} {kn:List Str} {tg iter elt:Expr} {ifs:List Expr} {wi:TI} {g:TG} {tc:TT} {te:TE} {pos:Pos}
theorem Az{pins:Zk}{σ:St}{H:Hp}{s:Shared}{fp:List Addr}{it D:Addr}{tn:Nat->Heap->Prop}{J:It}{Q:VK}{jM:Heap}{tk:Nat}{R:Result->Shared->Prop}
 (hc:X.calm=true) (C:bz X scope own kp kn) (I:Inv X pins σ H s) (hf:∀b∈fp,uz X pins H b) (hb:∀b∈fp,b < s.heap.objs.size) (T:Turn X.prog X.w X.K tg J fp it tn)
 (hg:PG (bM X scope (own++kn) fp s H) tg g) (hi:sr (bM X scope (own++kn) fp s H) ifs tc) (he:PE (bM X scope (own++kn) fp s H) elt te)
 (hn:jM.Ns s.heap.objs.size (fun _=>none)) (hk:∀b o,s.heap.get? b=some o->jM.get? b=some o) (hC:CellsOk jM (s.heap.objs.size+1) (cellsFrom (s.heap.objs.size+1) scope.names [])) (st:tn 0 s.heap)
 (W:Nat->Nat->List V->Hp->Prop) (w0:∃m,W 0 m [] H)
 (turn:∀i m ys H,W i m ys H->
   (J.stop i H/\Q (.ref D) H)\/(J.go i H/\∀x H',J.yld i H x H'->g x (dZ own kp σ) H' fun wH H2=>tc wH H2 fun c H3=>
     if c=true then te wH H3 fun y H4=>H4 D=some (.lst ys)/\ys.length < sizeLine/\∃m',m' < m/\W (i+1) m' (ys++[y]) (upd H4 D (.lst (ys++[y])))
     else ∃m',m' < m/\W (i+1) m' ys H3))
 (hR:∀H' s' de,Inv (bM X scope (own++kn) fp s H) [] de H' s'->Q (.ref D) H'->R (.ok .next) s') :
 codeAny (model X.prog X.w) X.A (.compStart (.ListComp elt [⟨tg,iter,ifs,0⟩] scope pos) 0 (.ref it) (.ref D) (bM X scope (own++kn) fp s H).env) R {s with heap:=jM,toks:=tk}:=by
 have I1:Inv (bM X scope (own++kn) fp s H) [] (dZ own kp σ) H {s with heap:=jM,toks:=tk}:=HS C I hf hb hn hk hC
 have VR:tn 0 jM:=T.keep _ _ _ st fun b _ o e=>hk b o e
 have fp1:∀{H':Hp} {p:Zk},(∀b∈fp,H' b=none)->(∀b∈fp,∀q∈p,q.1≠b)->∀b∈fp,uz (bM X scope (own++kn) fp s H) p H' b:=fun {H' p} hn hp b zC=>
  ⟨hn b zC,(I1.ok.exf b zC).1,I1.ok.exfs b zC, .inl zC,fun x c e=>(I1.ok.exf b zC).2 x c e,fun q hq=>hp b zC q hq⟩
 obtain⟨m0,w0⟩:=w0;have loop:codeAny (model X.prog X.w) X.A (.compLoop (.ListComp elt [⟨tg,iter,ifs,0⟩] scope pos) 0 (.ref it) (.ref D) (bM X scope (own++kn) fp s H).env) R {s with heap:=jM,toks:=tk}:=by
  refine codeAny_loop rfl (fun n s'=>∃i ys H',Inv (bM X scope (own++kn) fp s H) [] (dZ own kp σ) H' s'/\tn i s'.heap/\(∀b∈fp,H' b=none)/\W i n ys H') (fun n s' hI=>?_) m0 ⟨0,[],H,I1,VR,fun b zC=>(hf b zC).1,w0⟩
  obtain⟨i,ys,H3,I3,LV,RA,w3⟩:=hI;show wpAny _ _ ((compTurn (.ListComp elt [⟨tg,iter,ifs,0⟩] scope pos) 0 (.ref it) (.ref D) (bM X scope (own++kn) fp s H).env).onRaise (fun x=>do noteFrame x (bM X scope (own++kn) fp s H).env;theTreesLotGoes x)) _ _ s'
  refine wpAny_noted (wpAny_noRaise ?_);rw[compTurn_list];refine wpAny_bind (wpAny_standAt (wpAny_bind ?_));rcases turn i n ys H3 w3 with⟨stop,q⟩ | ⟨go,step⟩
  .refine d6 (T.done (bM X scope (own++kn) fp s H) rfl rfl rfl hc i [] s' _ H3 _ I3 (fp1 RA (fun _ _ q hq=>by cases hq)) LV stop) fun r s4 ⟨hr,I4⟩=>?_
   subst hr;exact wpAny_pure (hR H3 s4 _ I4 q)
  .refine d6 (T.item (bM X scope (own++kn) fp s H) rfl rfl rfl hc i [] s' _ H3 _ I3 (fp1 RA (fun _ _ q hq=>by cases hq)) LV go) fun r s4 ⟨u,hr,h4⟩=>?_
   subst hr;refine wpAny_bind (d6 h4 fun _ s5 ⟨x,H5,I5,r5,y5,O_,UP⟩=>?_)
   have I5':=I5.pinned (fp1 UP (fun _ _ q hq=>by cases hq)) (T.obj _ _ O_)
   have keepIt:∀{Bz:St} {H7:Hp} {s7:Shared},Inv (bM X scope (own++kn) fp s H) ([]++qr fp s5.heap) Bz H7 s7->tn (i+1) s7.heap/\∀b∈fp,H7 b=none:=fun {Bz H7 s7} I7=>by
    refine⟨T.keep _ _ _ O_ fun b hb o e=>(I7.pin (b,o) (List.mem_append_right _ (List.mem_append_right _ (m8 hb e)))).1,fun b hb=>?_⟩
    obtain⟨o,e,d⟩:=T.obj _ _ O_ b hb;exact(I7.pin (b,o) (List.mem_append_right _ (List.mem_append_right _ (m8 hb e)))).2.1
   have reset:∀{Bz:St} {H7:Hp} {s7:Shared},Inv (bM X scope (own++kn) fp s H) ([]++qr fp s5.heap) Bz H7 s7->Inv (bM X scope (own++kn) fp s H) [] (dZ own kp σ) H7 s7:=fun {Bz H7 s7} I7=>by
    have I8:=I7.rp;have hun:Un (Gs X.stack) fp H H7 s.heap s7.heap:=I8.base;have I9:Inv X pins σ H7 s7:=vi I hf I8;refine⟨I8.ok,I8.os,I8.bare,I8.base,?_,I8.cell,I8.free,I8.freeC,I8.pin,I8.hok,I1.len⟩;obtain⟨m,hm,_⟩:=I8.loc;refine⟨m,hm,fun i x v h1 h2 h3=>?_⟩
    obtain⟨m1,Yz,JZ⟩:=I1.loc;obtain⟨u1,r1,l1⟩:=JZ i x v h1 h2 h3;have h1:(own++kn)[i]? =some x:=h1;have h2:(dZ own kp σ)[i]? =some (some v):=h2;unfold dZ at h2;by_cases hi:i < own.length
    .rw [List.getElem?_append_left (by simpa using hi),List.getElem?_replicate] at h2
     split at h2 <;> cases h2
    .rw [List.getElem?_append_right (by simpa using hi),List.length_replicate,List.getElem?_map] at h2
     rw[List.getElem?_append_right (by simpa using hi)] at h1
     cases e:kp[i - own.length]? with
     | none=>rw [e] at h2;cases h2
     | some j=>
       rw[e] at h2;have h2:(σ[j]?).getD none=some v:=Option.some.inj h2;have hj:X.N[j]? =some x:=C.at_ _ j x e h1;have LZ:σ[j]? =some (some v):=by
        cases q:σ[j]? with
        | none=>rw [q] at h2;cases h2
        | some y=>rw [q] at h2;exact congrArg some h2
       have hfree:scope.names.lookup x=some .free:=C.isfree x (List.mem_of_getElem? h1);have hkind:=C.free (x, .free) (PySem.mem_of_lookup hfree) rfl;obtain⟨m9,Zb,XR⟩:=I9.loc;obtain⟨u,r,l⟩:=XR j x v hj LZ (hkind.elim (fun q=>Or.inr (Or.inl q)) fun q=>Or.inr (Or.inr q))
       refine⟨u,r, .inr ?_⟩;rcases l1 with⟨k,k2⟩ | ⟨k,c,hc,hcell⟩
       .have k:(relabel scope X.env).names.lookup x=some .local:=k;rcases fB k with z | ⟨z,_⟩
        .rw [hfree] at z;cases z
        .cases z
       .refine⟨k,c,hc,?_⟩;rcases l with⟨k',_⟩ | ⟨_,c',Gu,Pd⟩
        .rcases hkind with q | q
         .rw [show X.env.kindOf x=some .cell from q] at k';cases k'
         .rw [show X.env.kindOf x=some .free from q] at k';cases k'
        .have hcl:(pP X.env.cells scope.names []).lookup x=some c:=(y8 _ _ _ fun z=>by have:=C.cel _ z rfl;rw [hfree] at this;cases this).symm.trans hc
         rcases lB scope.names [] hcl with q | ⟨q1,q2⟩
         .simp at q
         .rw [Gu] at q2;have q2:c=c':=q2;rw[q2];exact Pd
   have hmm:=hg ([]++qr fp s5.heap) s5 (dZ own kp σ) H5 x u _ I5' r5 (step x H5 y5);refine wpAny_bind (d6 hmm fun _ s6 ⟨RM,H6,I6,q6⟩=>?_)
   refine wpAny_bind (d6 (hi _ s6 RM H6 _ I6 q6) fun ok s7 ⟨H7,I7,q7⟩=>?_)
   cases ok with
   | false=>
     simp only[Bool.false_eq_true,if_false] at q7 ⊢;obtain⟨m',O6,w7⟩:=q7;obtain⟨a1,a2⟩:=keepIt I7;exact wpAny_pure ⟨rfl,m',O6,i+1,ys,H7,reset I7,a1,a2,w7⟩
   | true=>
     simp only[if_true] at q7 ⊢;refine wpAny_bind (wpAny_bind (d6 (he _ s7 RM H7 _ I7 q7) fun yv s8 ⟨y,H8,I8,r8,hD,hlt,m',O6,w8⟩=>wpAny_bind ?_))
     obtain⟨a1,a2⟩:=keepIt I8;refine d6 (sC _ s8 RM H8 (.ref D) [y] (.ref D) [yv] (fun v H9=>v= .cu/\H9=upd H8 D (.lst (ys++[y]))) I8 rfl (.cons r8 .nil) ⟨D,ys,y,rfl,rfl,hD,hlt,rfl,rfl⟩) fun _ s9 ⟨v9,H9,I9,_,_,e9⟩=>?_
     subst e9;obtain⟨b1,b2⟩:=keepIt I9;exact wpAny_pure (wpAny_pure ⟨rfl,m',O6,i+1,ys++[y],_,reset I9,b1,b2,w8⟩)
 exact codeAny_compStart_list loop (T.self _ _ _ _ _ VR loop)
theorem Ex(hc:X.calm=true)(C:bz X scope own kp kn)(hi:PI X tg iter wi)(hg:∀fp s H,PG (bM X scope (own++kn) fp s H) tg g)(Gp:∀fp s H,sr (bM X scope (own++kn) fp s H) ifs tc)
 (he:∀fp s H,PE (bM X scope (own++kn) fp s H) elt te) (hs:∀x,foldedSetIterable iter X.env x=pure x:=by intro _;rfl):PE X (.ListComp elt [⟨tg,iter,ifs,0⟩] scope pos) (D6 wi g tc te own kp):=by
 intro pins s σ H Q I h;rw[eval_ListComp];refine wpAny_comprehension_free (use:=none) rfl hs (nQ (qy C I)) C.kind C.nd (d6 (hi pins s σ H _ I h) fun v s1 h1=>d6 h1 fun Sk s2 h2=>?_)
 obtain⟨it,fp,tn,J,H2,e,I2,T,JU,f2,q⟩:=h2;subst e;refine wpAny_newObj_type ?_;have I3:Inv X pins σ (upd H2 s2.heap.objs.size (.lst [])) {s2 with heap:=s2.heap.push {cls:= .type "list",dict:=none,data:= .seq ([]:List Value).toArray}}:=I2.Lc (its:=[]) (t':=s2.toks) .nil (Nat.zero_le _)
 obtain⟨W,w0,turn⟩:=q s2.heap.objs.size I2.fresh;have fne:∀b∈fp,b < s2.heap.objs.size:=fun b hb=>let⟨o,e,_⟩:=T.obj _ _ JU b hb;Heap.lt_size e
 have f3:∀b∈fp,uz X pins (upd H2 s2.heap.objs.size (.lst [])) b:=fun b hb=>⟨by rw[bb (Nat.ne_of_lt (fne b hb))];exact(f2 b hb).1,(f2 b hb).2⟩
 generalize hs3:({s2 with heap:=s2.heap.push {cls:= .type "list",dict:=none,data:= .seq ([]:List Value).toArray}}:Shared)=s3 at I3 ⊢
 have LV:tn 0 s3.heap:=by rw[<-hs3];exact T.keep _ _ _ JU fun b _ o e=>Heap.get?_push_of_some _ e
 have fne3:∀b∈fp,b < s3.heap.objs.size:=fun b hb=>by rw[<-hs3];exact Nat.lt_of_lt_of_le (fne b hb) (by rw[Heap.size_push];exact Nat.le_succ _)
 refine x5 fun jM Di hk hC=>?_
 refine Az (D:=s2.heap.objs.size) hc C I3 f3 fne3 T (hg fp s3 _) (Gp fp s3 _) (he fp s3 _) Di hk hC LV W w0 turn fun H' s' de J' hq=>?_
 have B:=vi I3 f3 J';obtain⟨m',O6,_⟩:=J'.loc;refine⟨m',O6,fun h' sb=>⟨.ref s2.heap.objs.size,H',?_,rfl,hq⟩⟩
 have fC:=I3.vm (H':=H') (b:=s3.heap.objs.size) (Nat.le_refl _) J'.free;exact B.turned (it:=s3.heap.objs.size) (t':=s'.toks) (fun b o hb e=>(sb.2 b hb).trans e) fC.1 fC.2.1 fC.2.2.2.1 fC.2.2.2.2.1 fC.2.2.2.2.2
theorem uS{i:Nat}{x:Str}{pos' Bv:Pos}(hc:X.calm=true)(hN:X.N.Nodup)(hx:X.N[i]? =some x)(JY:X.env.scope.names.lookup x=some .local)(C:bz X scope own kp kn)(hi:PI X tg iter wi)
 (hg:∀fp s H,PG (bM X scope (own++kn) fp s H) tg g) (Gp:∀fp s H,sr (bM X scope (own++kn) fp s H) ifs tc)
 (he:∀fp s H,PE (bM X scope (own++kn) fp s H) elt te)
 (Jz:swapsWith (.ListComp elt [⟨tg,iter,ifs,0⟩] scope pos) (some (.Name x pos')) Bv.line X.env=pure true:=by rfl)
 (hs:∀x,foldedSetIterable iter X.env x=pure x:=by intro _;rfl) :
 PS X (.Assign [.Name x pos'] (.ListComp elt [⟨tg,iter,ifs,0⟩] scope pos) Bv) (F3 (D6 wi g tc te own kp) (wa i)):=by
 intro pins s σ H D I h;rw[exec_Assign_Name_used _ _ _ _ Jz];refine wpAny_bind (wpAny_standAt (wpAny_bind ?_));show wpAny _ X.A (do let _ <-comprehension (.ListComp elt [⟨tg,iter,ifs,0⟩] scope pos) scope X.env _ (newList []) false (eval iter X.env) (some (assign (.Name x pos') X.env))) _ _ s
 refine wpAny_bind (wpAny_mono (wpAny_comprehension_free (use:=some (assign (.Name x pos') X.env)) (Q:=fun _ s'=>SP X pins D .next s') rfl hs (nQ (qy C I)) C.kind C.nd
  (d6 (hi pins s σ H _ I h) fun v s1 h1=>d6 h1 fun Sk s2 h2=>?_)) (fun _ s' hq=>wpAny_pure (wpAny_pure hq)) fun _ _ e=>e)
 obtain⟨it,fp,tn,J,H2,e,I2,T,JU,f2,q⟩:=h2;subst e;refine wpAny_newObj_type ?_;have I3:Inv X pins σ (upd H2 s2.heap.objs.size (.lst [])) {s2 with heap:=s2.heap.push {cls:= .type "list",dict:=none,data:= .seq ([]:List Value).toArray}}:=I2.Lc (its:=[]) (t':=s2.toks) .nil (Nat.zero_le _)
 obtain⟨W,w0,turn⟩:=q s2.heap.objs.size I2.fresh;have fne:∀b∈fp,b < s2.heap.objs.size:=fun b hb=>let⟨o,e,_⟩:=T.obj _ _ JU b hb;Heap.lt_size e
 have f3:∀b∈fp,uz X pins (upd H2 s2.heap.objs.size (.lst [])) b:=fun b hb=>⟨by rw[bb (Nat.ne_of_lt (fne b hb))];exact(f2 b hb).1,(f2 b hb).2⟩
 generalize hs3:({s2 with heap:=s2.heap.push {cls:= .type "list",dict:=none,data:= .seq ([]:List Value).toArray}}:Shared)=s3 at I3 ⊢
 have LV:tn 0 s3.heap:=by rw[<-hs3];exact T.keep _ _ _ JU fun b _ o e=>Heap.get?_push_of_some _ e
 have fne3:∀b∈fp,b < s3.heap.objs.size:=fun b hb=>by rw[<-hs3];exact Nat.lt_of_lt_of_le (fne b hb) (by rw[Heap.size_push];exact Nat.le_succ _)
 refine x5 fun jM Di hk hC=>?_
 refine Az (Q:=fun x H1=>wa i x σ H1 D.nx) (D:=s2.heap.objs.size) hc C I3 f3 fne3 T (hg fp s3 _) (Gp fp s3 _) (he fp s3 _) Di hk hC LV W w0 turn fun H' s' de J' hq=>?_
 have B:=vi I3 f3 J';obtain⟨m',O6,_⟩:=J'.loc;have fC:=I3.vm (H':=H') (b:=s3.heap.objs.size) (Nat.le_refl _) J'.free;show wpAny _ X.A (assign (.Name x pos') X.env (.ref s2.heap.objs.size)) _ _ s';refine wpAny_assign_Name (yb B hN hx (.inl JY) (v:= .ref s2.heap.objs.size) rfl (fun s4 I4 ⟨a,sb,ha⟩=>?_) (.inr JY))
 have ha':s3.heap.objs.size≠a:=by
  rcases ha with rfl | z
  .exact fC.2.1
  .exact fun e=>fC.2.2.2.2.1 x a z e.symm
 refine⟨m',O6.sameBut sb ha',fun h' Yy=>⟨_,H',?_,hq⟩⟩
 exact I4.turned (it:=s3.heap.objs.size) (t':=s4.toks) (fun b o hb e=>(Yy.2 b hb).trans e) fC.1 fC.2.1 fC.2.2.2.1 fC.2.2.2.2.1 fC.2.2.2.2.2
end
end L2
end
section
namespace L2
open PySem PySem.Spec PyProof.Rows
inductive D where
 | cu | bl (b:Bool) | int (i:Int) | str (x:Str) | lst (ds:List D) | tup (ds:List D) | dct (ks:List Key) (ds:List D)
inductive R (α:Type) where
 | ok (a:α) | ex (c:Nat) | no
def R.bind{α β:Type}:R α->(α->R β)->R β
 | .ok a,f=>f a
 | .ex c,_=> .ex c
 | .no,_=> .no
theorem R.ai{α β:Type}{r:R α}{f:α->R β}{b:β}(h:r.bind f= .ok b):∃a,r= .ok a/\f a= .ok b:=by
 cases r with
 | ok a=>exact⟨a,rfl,h⟩
 | ex c=>cases h
 | no=>cases h
@[simp] theorem R.aM{α β:Type}(a:α)(f:α->R β):(R.ok a).bind f=f a:=rfl
def R.bN{α:Type}(c:Bool)(r:R α):R α:=if c then r else .no
theorem R.bc{α:Type}{c:Bool}{r:R α}{a:α}(h:R.bN c r= .ok a):c=true/\r= .ok a:=by
 cases c with
 | true=>exact⟨rfl,h⟩
 | false=>cases h
@[simp] theorem R.Ph{α:Type}(r:R α):R.bN true r=r:=rfl
def wL(K:W.Frag)(B:List Addr)(H:Hp)(a:Addr)(xs:List V):Prop:=
 (a ∉ B/\Rd H a (.lst xs))\/∃(its:List Value) (n:Nat),K.lookup a=some {cls:= .type "list",data:= .seq its.toArray n}/\xs.length<=sizeLine/\Vals xs its
def x9(K:W.Frag)(B:List Addr)(H:Hp)(a:Addr)(xs:List V):Prop:=
 (a ∉ B/\Rd H a (.tup xs))\/∃(o:Obj) (its:Array Value) (n:Nat),K.lookup a=some o/\o.cls= .type "tuple"/\o.data= .seq its n/\its.size<=sizeLine/\Vals xs its.toList
theorem wL.sq{K:W.Frag}{B:List Addr}{a:Addr}{xs:List V}(h:wL K B H a xs):qT K H a xs:=by
 rcases h with z | ⟨its,n,hk,hz,r⟩
 .exact .inl z.2
 .exact .inr ⟨_,its.toArray,n,hk,rfl,rfl,rfl,by rw[List.size_toArray,<-r.length];exact hz,by simpa using r⟩
theorem x9.sq{K:W.Frag}{B:List Addr}{a:Addr}{xs:List V}(h:x9 K B H a xs):tS K H a xs:=h.elim (fun z=> .inl z.2) .inr
mutual
def Rep(K:W.Frag)(B:List Addr)(H:Hp):D->V->Prop
 | .cu,v=>v= .cu
 | .bl b,v=>v= .bl b
 | .int i,v=>v= .int i
 | .str x,v=>v= .str x
 | .lst ds,v=>∃a xs,v= .ref a/\wL K B H a xs/\aH K B H ds xs
 | .tup ds,v=>∃a xs,v= .ref a/\x9 K B H a xs/\aH K B H ds xs
 | .dct ks ds,v=>∃(a:Addr) (kvs:List (Key × V)),v= .ref a/\(a ∉ B/\H a=some (.dK kvs))/\kvs.map (·.1)=ks/\aH K B H ds (kvs.map (·.2))
def aH(K:W.Frag)(B:List Addr)(H:Hp):List D->List V->Prop
 | [],xs=>xs=[]
 | d ::ds,xs=>∃x r,xs=x ::r/\Rep K B H d x/\aH K B H ds r
end
def dP(B:List Addr)(H:Hp)(B':List Addr)(H':Hp):Prop:=∀b o,H b=some o->b ∉ B->H' b=some o/\b ∉ B'
theorem dP.rd{B B':List Addr}(p:dP B H B' H'){a:Addr}{u:HO}(h:Rd H a u)(n:a ∉ B):Rd H' a u/\a ∉ B':=by
 rcases h with e | ⟨o,e⟩
 .exact⟨.inl (p a _ e n).1,(p a _ e n).2⟩
 .exact⟨.inr ⟨o,(p a _ e n).1⟩,(p a _ e n).2⟩
theorem dP.trans{B B' RS:List Addr}(p:dP B H B' H')(q:dP B' H' RS nY):dP B H RS nY:=fun b o e n=>
 let⟨e1,n1⟩:=p b o e n;q b o e1 n1
theorem dP.same{B:List Addr}(s:aU H H'):dP B H B H':=fun b o e n=>⟨s b o e,n⟩
theorem dP.refl(B:List Addr)(H:Hp):dP B H B H:=dP.same (aU.refl H)
theorem wL.bq{K:W.Frag}{B B':List Addr}(p:dP B H B' H'){a:Addr}{xs:List V}(l:wL K B H a xs):wL K B' H' a xs:=
 l.elim (fun z=> .inl ⟨(p.rd z.2 z.1).2,(p.rd z.2 z.1).1⟩) .inr
mutual
theorem Rep.bq{K:W.Frag}{B B':List Addr}(p:dP B H B' H'):∀{d:D} {v:V},Rep K B H d v->Rep K B' H' d v
 | .cu,_,h=>h
 | .bl _,_,h=>h
 | .int _,_,h=>h
 | .str _,_,h=>h
 | .lst ds,v,h=>by
   unfold Rep at h ⊢;obtain⟨a,xs,e,l,r⟩:=h;exact⟨a,xs,e,l.bq p,aH.bq p r⟩
 | .tup ds,v,h=>by
   unfold Rep at h ⊢;obtain⟨a,xs,e,l,r⟩:=h;exact⟨a,xs,e,l.elim (fun z=> .inl ⟨(p.rd z.2 z.1).2,(p.rd z.2 z.1).1⟩) .inr,aH.bq p r⟩
 | .dct ks ds,v,h=>by
   unfold Rep at h ⊢;obtain⟨a,kvs,e,⟨n,l⟩,k,r⟩:=h;exact⟨a,kvs,e,⟨(p a _ l n).2,(p a _ l n).1⟩,k,aH.bq p r⟩
theorem aH.bq{K:W.Frag}{B B':List Addr}(p:dP B H B' H'):∀{ds:List D} {xs:List V},aH K B H ds xs->aH K B' H' ds xs
 | [],_,h=>h
 | d ::ds,xs,h=>by
   unfold aH at h ⊢;obtain⟨x,r,e,h1,h2⟩:=h;exact⟨x,r,e,Rep.bq p h1,aH.bq p h2⟩
end
theorem Rep.same{K:W.Frag}{B:List Addr}{d:D}{v:V}(h:Rep K B H d v)(s:aU H H'):Rep K B H' d v:=h.bq (dP.same s)
theorem aH.same{K:W.Frag}{B:List Addr}{d:List D}{v:List V}(h:aH K B H d v)(s:aU H H'):aH K B H' d v:=h.bq (dP.same s)
theorem aH.nil{K:W.Frag}{B:List Addr}:aH K B H [] []:=by unfold aH;rfl
theorem aH.cons{K:W.Frag}{B:List Addr}{d:D}{ds:List D}{x:V}{xs:List V}(h:Rep K B H d x)(t:aH K B H ds xs):aH K B H (d ::ds) (x ::xs):=by
 unfold aH;exact⟨x,xs,rfl,h,t⟩
theorem aH.cw{K:W.Frag}{B:List Addr}{d:D}{ds:List D}{xs:List V}(h:aH K B H (d ::ds) xs):∃x r,xs=x ::r/\Rep K B H d x/\aH K B H ds r:=by
 unfold aH at h;exact h
theorem aH.length{K:W.Frag}{B:List Addr}:∀{ds:List D} {xs:List V},aH K B H ds xs->ds.length=xs.length
 | [],_,h=>by unfold aH at h;rw [h];rfl
 | d ::ds,xs,h=>by
   obtain⟨x,r,rfl,_,h2⟩:=h.cw;simp [h2.length]
theorem aH.get{K:W.Frag}{B:List Addr}:∀{ds:List D} {xs:List V} {i:Nat} {d:D},aH K B H ds xs->ds[i]? =some d->∃x,xs[i]? =some x/\Rep K B H d x
 | [],_,_,_,_,e=>by simp at e
 | d ::ds,xs,0,d',h,e=>by
   obtain⟨x,r,rfl,h1,h2⟩:=h.cw;simp at e;subst e;exact⟨x,rfl,h1⟩
 | d ::ds,xs,i+1,d',h,e=>by
   obtain⟨x,r,rfl,h1,h2⟩:=h.cw;obtain⟨y,e1,e2⟩:=aH.get (i:=i) h2 (by simpa using e)
   exact⟨y,by simpa using e1,e2⟩
theorem aH.append{K:W.Frag}{B:List Addr}:∀{ds es:List D} {xs ys:List V},aH K B H ds xs->aH K B H es ys->aH K B H (ds++es) (xs++ys)
 | [],_,_,_,h,t=>by unfold aH at h;subst h;exact t
 | d ::ds,es,xs,ys,h,t=>by
   obtain⟨x,r,rfl,h1,h2⟩:=h.cw;exact aH.cons h1 (aH.append h2 t)
theorem aH.drop{K:W.Frag}{B:List Addr}:∀{ds:List D} {xs:List V} (n:Nat),aH K B H ds xs->aH K B H (ds.drop n) (xs.drop n)
 | _,_,0,h=>h
 | [],_,n+1,h=>by unfold aH at h;subst h;exact aH.nil
 | d ::ds,xs,n+1,h=>by
   obtain⟨x,r,rfl,h1,h2⟩:=h.cw;exact aH.drop n h2
theorem aH.take{K:W.Frag}{B:List Addr}:∀{ds:List D} {xs:List V} (n:Nat),aH K B H ds xs->aH K B H (ds.take n) (xs.take n)
 | _,_,0,h=>aH.nil
 | [],_,n+1,h=>by unfold aH at h;subst h;exact aH.nil
 | d ::ds,xs,n+1,h=>by
   obtain⟨x,r,rfl,h1,h2⟩:=h.cw;exact aH.cons h1 (aH.take n h2)
def D.atom:D->Bool
 | .cu=>true | .bl _=>true | .int _=>true | .str _=>true | _=>false
theorem Rep.atom{K:W.Frag}{B B':List Addr}{d:D}{v:V}(a:d.atom=true)(h:Rep K B H d v):Rep K B' H' d v:=by
 cases d <;> first | exact h | cases a
inductive Sl where
 | un | val (d:D) | bld (ds:List D)
abbrev av:=List Sl
structure eR (K:W.Frag) (Z B:List Addr) (H:Hp) (σ:St) (δ:av):Prop where
 len:δ.length=σ.length
 bs:∀a∈B,∃o,H a=some o
 zb:∀a∈Z,a∈B
 val:∀(i:Nat) (d:D),δ[i]? =some (.val d)->∃v,σ[i]? =some (some v)/\Rep K B H d v
 bld:∀(i:Nat) (ds:List D),δ[i]? =some (.bld ds)->∃a xs,σ[i]? =some (some (.ref a))/\a∈B/\a ∉ Z/\H a=some (.lst xs)/\aH K B H ds xs
 dis:∀(i j:Nat) (a:Addr) (ds es:List D),δ[i]? =some (.bld ds)->δ[j]? =some (.bld es)->σ[i]? =some (some (.ref a))->σ[j]? =some (some (.ref a))->i=j
theorem eR.same{K:W.Frag}{Z B:List Addr}{δ:av}(E:eR K Z B H σ δ)(s:aU H H'):eR K Z B H' σ δ where
 len:=E.len
 bs:=fun a ha=>let⟨o,e⟩:=E.bs a ha;⟨o,s a o e⟩
 zb:=E.zb
 val:=fun i d e=>let⟨v,h1,h2⟩:=E.val i d e;⟨v,h1,h2.same s⟩
 bld:=fun i ds e=>let⟨a,xs,h1,h2,h3,h4,h5⟩:=E.bld i ds e;⟨a,xs,h1,h2,h3,s a _ h4,h5.same s⟩
 dis:=E.dis
def QK(δ:av):av:=δ.map fun x=>match x with | .bld ds=> .val (.lst ds) | y=>y
theorem PE.imp{X:Cx}{t t':TE}(h:PE X e t)(w:∀σ H Q,t' σ H Q->t σ H Q):PE X e t':=fun pins s σ H Q I hq=>h pins s σ H Q I (w σ H Q hq)
theorem PT.imp{X:Cx}{t t':TT}(h:PT X e t)(w:∀σ H Q,t' σ H Q->t σ H Q):PT X e t':=fun pins s σ H Q I hq=>h pins s σ H Q I (w σ H Q hq)
theorem PA.imp{X:Cx}{t t':TA}(h:PA X e t)(w:∀σ H Q,t' σ H Q->t σ H Q):PA X e t':=fun pos pins s σ H Q I hq=>h pos pins s σ H Q I (w σ H Q hq)
theorem PS.imp{X:Cx}{t t':TS}(h:PS X e t)(w:∀D σ H,t' D σ H->t D σ H):PS X e t':=fun pins s σ H D I hq=>h pins s σ H D I (w D σ H hq)
theorem yR.imp{X:Cx}{t t':TS}(h:yR X e t)(w:∀D σ H,t' D σ H->t D σ H):yR X e t':=fun pins s σ H D I hq=>h pins s σ H D I (w D σ H hq)
theorem PG.imp{X:Cx}{t t':TG}(h:PG X e t)(w:∀v σ H Q,t' v σ H Q->t v σ H Q):PG X e t':=fun pins s σ H v u Q I r hq=>h pins s σ H v u Q I r (w v σ H Q hq)
theorem PI.imp{X:Cx}{t t':TI}(h:PI X tg e t)(w:∀σ H Q,t' σ H Q->t σ H Q):PI X tg e t':=fun pins s σ H Q I hq=>h pins s σ H Q I (w σ H Q hq)
abbrev FD:=av->R D
def tD(K:W.Frag)(f:FD):TE:=fun σ H Q=>∃Z B δ d,eR K Z B H σ δ/\f δ= .ok d/\∀v H',aU H H'->Rep K B H' d v->Q v H'
def tN(K:W.Frag)(f:av->R (List D)):TE:=fun σ H Q=>∃Z B δ ds,eR K Z B H σ δ/\f δ= .ok ds/\∀a xs H',aU H H'->H a=none->H' a=some (.lst xs)->aH K (a ::B) H' ds xs->Q (.ref a) H'
def Nh(K:W.Frag)(f:av->R Bool):TT:=fun σ H Q=>∃Z B δ b,eR K Z B H σ δ/\f δ= .ok b/\∀H',aU H H'->Q b H'
def Vu(K:W.Frag)(f:av->R (List D)):TA:=fun σ H Q=>∃Z B δ ds,eR K Z B H σ δ/\f δ= .ok ds/\∀vs H',aU H H'->aH K B H' ds vs->Q vs H'
abbrev PD(X:Cx)(e:Expr)(f:FD):Prop:=PE X e (tD X.K f)
abbrev PN(X:Cx)(e:Expr)(f:av->R (List D)):Prop:=PE X e (tN X.K f)
abbrev PB(X:Cx)(e:Expr)(f:av->R Bool):Prop:=PT X e (Nh X.K f)
abbrev JP(X:Cx)(es:List Expr)(f:av->R (List D)):Prop:=PA X es (Vu X.K f)
section
variable {X:Cx}
def eNew(f:av->R (List D)):FD:=fun δ=>(f δ).bind fun ds=> .ok (.lst ds)
theorem NB{f:av->R (List D)}(h:PN X e f):PD X e (eNew f):=h.imp fun σ H Q ⟨Z,B,δ,d,E,hf,q⟩=>by
 obtain⟨ds,h1,h2⟩:=R.ai hf;cases h2;refine⟨Z,B,δ,ds,E,h1,fun a xs H' s n e r=>q _ H' s ?_⟩
 unfold Rep;refine⟨a,xs,rfl, .inl ⟨fun ha=>?_, .inl e⟩,r.bq fun b o e nb=>⟨e,fun hb=>nb (List.mem_cons_of_mem _ hb)⟩⟩
 obtain⟨o,ho⟩:=E.bs a ha;rw[n] at ho;cases ho
theorem AQ{B:List Addr}{H:Hp}{p:Addr}{o:HO}(h:H p=none):dP B H (p ::B) (upd H p o):=fun b u e nb=>
 ⟨by rw[bb (cz e h)];exact e,fun hb=>by
   rcases List.mem_cons.mp hb with z | z
   .exact cz e h z
   .exact nb z⟩
def VM(f:FD):FD:=fun δ=>(f (QK δ)).bind fun d=>R.bN d.atom (.ok d)
def Vf(f:av->R Bool):av->R Bool:=fun δ=>f (QK δ)
def ae(i:Nat):FD:=fun δ=>match δ[i]? with | some (.val d)=> .ok d | _=> .no
def eC(d:D):FD:=fun _=> .ok d
theorem Np(i:Nat){x:Str}{pos:Pos}(hN:X.N[i]? =some x:=by rfl)(hv:KP X.env.scope x:=by first | exact Or.inl rfl | exact Or.inr (Or.inl rfl) | exact Or.inr (Or.inr rfl))(hd:(x==("__debug__":Str))=false:=by decide)
 (wF:(x==("__classdict__":Str))=false:=by decide):PD X (.Name x pos) (ae i):=(we hN hv hd wF).imp fun σ H Q ⟨Z,B,δ,d,E,hf,q⟩=>by
 unfold ae at hf;split at hf
 .rename_i d' e;cases hf;obtain⟨v,h1,h2⟩:=E.val i d e;exact⟨v,h1,q v H (aU.refl H) h2⟩
 .cases hf
theorem q8{v:V}{d:D}(h:PE X e (tC v))(r:∀B H,Rep X.K B H d v):PD X e (eC d):=h.imp fun σ H Q ⟨Z,B,δ,d',E,hf,q⟩=>by
 cases hf;exact q v H (aU.refl H) (r B H)
theorem NX{i j pos}:PD X (.Constant (.int i) j pos) (eC (.int i)):=q8 M7 fun _ _=>by unfold Rep;rfl
theorem Q_{b j pos}:PD X (.Constant (.bool b) j pos) (eC (.bl b)):=q8 Qt fun _ _=>by unfold Rep;rfl
theorem OZ{j pos}:PD X (.Constant .none j pos) (eC .cu):=q8 NF fun _ _=>by unfold Rep;rfl
theorem NU{x j pos}:PD X (.Constant (.str x) j pos) (eC (.str x)):=q8 NC fun _ _=>by unfold Rep;rfl
def Glob(K:W.Frag)(mg:Zp)(x:Str)(d:D):Prop:=∃(u:Value) (v:V),mg x=some u/\RelV v u/\∀B H,Rep K B H d v
def aJ:av->R (List D):=fun _=> .ok []
def ak(f:FD)(g:av->R (List D)):av->R (List D):=fun δ=>(f δ).bind fun d=>(g δ).bind fun ds=> .ok (d ::ds)
theorem Kg:JP X [] aJ:=jG.imp fun σ H Q ⟨Z,B,δ,d,E,hf,q⟩=>by
 cases hf;exact q [] H (aU.refl H) aH.nil
theorem GD{g:av->R (List D)}(h:PD X e f)(t:JP X es g)(hs:starEach (e ::es) X.env=(false,eval e X.env) ::starEach es X.env:=by rfl):JP X (e ::es) (ak f g):=
 (fI h t hs).imp fun σ H Q ⟨Z,B,δ,d,E,hf,q⟩=>by
   obtain⟨d1,h1,h2⟩:=R.ai hf;obtain⟨ds,h3,h4⟩:=R.ai h2;cases h4;exact⟨Z,B,δ,d1,E,h1,fun v H1 s1 r1=>⟨Z,B,δ,ds,E.same s1,h3,fun vs H2 s2 r2=>q _ H2 (s1.trans s2) (aH.cons (r1.same s2) r2)⟩⟩
def d5(g:av->R (List D)):FD:=fun δ=>(g δ).bind fun ds=>R.bN (decide (ds.length<=sizeLine)) (.ok (.tup ds))
def d_(g:av->R (List D)):av->R (List D):=fun δ=>(g δ).bind fun ds=>R.bN (decide (ds.length<=sizeLine)) (.ok ds)
theorem aR{H:Hp}{p:Addr}{o:HO}(h:H p=none):aU H (upd H p o):=fun b u e=>by rw[bb (cz e h)];exact e
theorem MX{g:av->R (List D)}{x1 pos}(h:JP X es g):PD X (.Tuple es x1 pos) (d5 g):=(Hn h).imp fun σ H Q ⟨Z,B,δ,d,E,hf,q⟩=>by
 obtain⟨ds,h1,h2⟩:=R.ai hf;obtain⟨hl,h3⟩:=R.bc h2;cases h3;refine⟨Z,B,δ,ds,E,h1,fun vs H1 s1 r1=>⟨by rw[<-r1.length];exact of_decide_eq_true hl,fun p hp=>q _ _ (s1.trans (aR hp)) ?_⟩⟩
 unfold Rep;refine⟨p,vs,rfl, .inl ⟨fun ha=>?_, .inl aX⟩,r1.same (aR hp)⟩
 obtain⟨o,ho⟩:=(E.same s1).bs p ha;rw[hp] at ho;cases ho
theorem Oe{g:av->R (List D)}{pos}(h:JP X es g):PN X (.List es pos) (d_ g):=(Nr h).imp fun σ H Q ⟨Z,B,δ,d,E,hf,q⟩=>by
 obtain⟨ds,h1,h2⟩:=R.ai hf;obtain⟨hl,h3⟩:=R.bc h2;cases h3;exact⟨Z,B,δ,_,E,h1,fun vs H1 s1 r1=>⟨by rw[<-r1.length];exact of_decide_eq_true hl,fun p hp=>q p vs _ (s1.trans (aR hp)) (s1.free hp) aX (r1.bq (AQ hp))⟩⟩
def lq(X:Cx)(f:Value->Value->Sem Value)(g:D->D->R D):Prop:=
 ∀(pins:Zk) (s:Shared) (σ:St) (H:Hp) (B:List Addr) (da db d:D) (x y:V) (v u:Value),Inv X pins σ H s->(∀a∈B,∃o,H a=some o)->RelV x v->RelV y u->Rep X.K B H da x->Rep X.K B H db y->g da db= .ok d->
  wpAny (model X.prog X.w) X.A (f v u) (EP X pins σ fun z H'=>aU H H'/\Rep X.K B H' d z) X.xe s
def e2(g:D->D->R D)(fa fb:FD):FD:=fun δ=>(fa δ).bind fun a=>(fb δ).bind fun b=>g a b
theorem lq.r{f:Value->Value->Sem Value}{g:D->D->R D}(h:lq X f g):mL X f (fun x y H Q=>∃B da db d,(∀a∈B,∃o,H a=some o)/\Rep X.K B H da x/\Rep X.K B H db y/\g da db= .ok d/\∀z H',aU H H'->Rep X.K B H' d z->Q z H'):=by
 intro pins s σ H x y v u Q I rx ry ⟨B,da,db,d,hb,ha,zC,hg,q⟩;exact d6 (h pins s σ H B da db d x y v u I hb rx ry ha zC hg) fun z s' ⟨zv,H',I',r',s1,r1⟩=>⟨zv,H',I',r',q zv H' s1 r1⟩
theorem OW{K:W.Frag}{g:D->D->R D}{Q:VK}(h:tD K (e2 g fa fb) σ H Q) :
 Pt (fun x y H Q=>∃B da db d,(∀a∈B,∃o,H a=some o)/\Rep K B H da x/\Rep K B H db y/\g da db= .ok d/\∀z H',aU H H'->Rep K B H' d z->Q z H') (tD K fa) (tD K fb) σ H Q:=by
 obtain⟨Z,B,δ,d,E,hf,q⟩:=h;obtain⟨d1,h1,h2⟩:=R.ai hf;obtain⟨d2,h3,h4⟩:=R.ai h2;exact⟨Z,B,δ,d1,E,h1,fun v1 H1 s1 r1=>⟨Z,B,δ,d2,E.same s1,h3,fun v2 H2 s2 r2=>⟨B,d1,d2,d,(E.same (s1.trans s2)).bs,r1.same s2,r2,h4,fun z H' s3 r3=>q z H' (s1.trans (s2.trans s3)) r3⟩⟩⟩
theorem P2{op:Operator}{g:D->D->R D}(ho:lq X (binaryOp op) g)(ha:PD X a fa)(hb:PD X b fb):PD X (.BinOp a op b pos) (e2 g fa fb):=
 (G3 ho.r ha hb).imp fun σ H Q h=>OW h
theorem O0{op:CmpOp}{g:D->D->R D}(ho:lq X (compareOp op) g)(ha:PD X a fa)(hb:PD X b fb)(hm:behindInMarks op b=false):PD X (.Compare a [op] [b] pos) (e2 g fa fb):=
 (DZ ho.r ha hb hm).imp fun σ H Q h=>OW h
def b2(g:D->D->R D)(fa fb:FD):av->R Bool:=fun δ=>(e2 g fa fb δ).bind fun d=>match d with | .bl b=> .ok b | _=> .no
theorem N4{op:CmpOp}{g:D->D->R D}(ho:lq X (compareOp op) g)(ha:PD X a fa)(hb:PD X b fb)(hm:behindInMarks op b=false):PB X (.Compare a [op] [b] pos) (b2 g fa fb):=
 (D3 ho.r ha hb hm).imp fun σ H Q ⟨Z,B,δ,b,E,hf,q⟩=>by
   obtain⟨d,h1,h2⟩:=R.ai hf;cases d with
   | bl k=>
     cases h2;exact OW (g:=g) (Q:=fun x H'=>∃k,x= .bl k/\Q k H') ⟨Z,B,δ, .bl b,E,h1,fun v H' s r=>⟨b,by unfold Rep at r;exact r,q H' s⟩⟩
   | _=>cases h2
def SA(g g':D->D->R D)(fa fb fc:FD):FD:=fun δ=>(fa δ).bind fun a=>(fb δ).bind fun b=>(g a b).bind fun r=>match r with
 | .bl true=>(fc δ).bind fun c=>g' b c
 | .bl false=> .ok (.bl false)
 | _=> .no
def Ks:D->R Bool
 | .cu=> .ok false
 | .bl b=> .ok b
 | .int i=> .ok (i !=0)
 | .str x=>R.bN (decide (x.length<=sizeLine)) (.ok ((x.length:Int) !=0))
 | .lst ds=> .ok (!ds.isEmpty)
 | .tup ds=> .ok (!ds.isEmpty)
 | .dct _ _=> .no
def ym(f:FD):av->R Bool:=fun δ=>(f δ).bind Ks
theorem aH.isEmpty{K:W.Frag}{B:List Addr}{ds:List D}{xs:List V}(h:aH K B H ds xs):ds.isEmpty=xs.isEmpty:=by
 have:=h.length;cases ds <;> cases xs <;> simp_all
theorem IS{K:W.Frag}{B:List Addr}{d:D}{v:V}{b:Bool}(r:Rep K B H d v)(h:Ks d= .ok b):Kh K v H b:=by
 cases d with
 | cu=>unfold Rep at r;subst r;cases h;exact rfl
 | bl k=>unfold Rep at r;subst r;cases h;exact rfl
 | int i=>unfold Rep at r;subst r;cases h;exact rfl
 | str x=>unfold Rep at r;subst r;obtain⟨h1,h2⟩:=R.bc h;cases h2;exact⟨of_decide_eq_true h1,rfl⟩
 | lst ds=>unfold Rep at r;obtain⟨a,xs,rfl,l,r⟩:=r;cases h;exact .inl ⟨xs,l.sq,by rw[r.isEmpty]⟩
 | tup ds=>unfold Rep at r;obtain⟨a,xs,rfl,l,r⟩:=r;cases h;exact .inr (.inl ⟨xs,l.sq,by rw[r.isEmpty]⟩)
 | dct _ _=>cases h
theorem OC{a:Expr}(ha:PD X a f)(he:∀whole,isTrue a X.env whole=(do let v <-whole;standAt a.pos;holding [v] (truthy v)):=by intro _;rfl):PB X a (ym f):=
 (AZ ha he).imp fun σ H Q ⟨Z,B,δ,b,E,hf,q⟩=>by
   obtain⟨d,h1,h2⟩:=R.ai hf;exact⟨Z,B,δ,d,E,h1,fun v H' s r=>⟨b,IS r h2,q H' s⟩⟩
def Gb(f g:av->R Bool):av->R Bool:=fun δ=>(f δ).bind fun b=>if b then g δ else .ok false
def Mr(f g:av->R Bool):av->R Bool:=fun δ=>(f δ).bind fun b=>if b then .ok true else g δ
def Cm(f:av->R Bool):av->R Bool:=fun δ=>(f δ).bind fun b=> .ok (!b)
def JR(X:Cx)(e:Expr)(f:av->R Bool):Prop:=PW X e (Nh X.K f)
theorem JR.pb{f:av->R Bool}(h:JR X e f):PB X e f:=PW.pt h
theorem GP{f:av->R Bool}(h:PB X a f):JR X (.BoolOp .And [a] pos) f:=D4 h
theorem Le{f:av->R Bool}(h:PB X a f):JR X (.BoolOp .Or [a] pos) f:=IM h
theorem Kw{rest:List Expr}{f g:av->R Bool}(ha:PB X a f)(hb:JR X (.BoolOp .And (b ::rest) pos) g):JR X (.BoolOp .And (a ::b ::rest) pos) (Gb f g):=by
 intro wh pins s σ H Q I ⟨Z,B,δ,k,E,hf,q⟩;refine HA ha hb wh pins s σ H Q I ?_;obtain⟨c,h1,h2⟩:=R.ai hf;refine⟨Z,B,δ,c,E,h1,fun H1 s1=>?_⟩
 cases c with
 | true=>rw [if_pos rfl] at h2 ⊢;exact⟨Z,B,δ,k,E.same s1,h2,fun H' s2=>q H' (s1.trans s2)⟩
 | false=>rw [if_neg (by decide)] at h2 ⊢;cases h2;exact q H1 s1
theorem N8{rest:List Expr}{f g:av->R Bool}(ha:PB X a f)(hb:JR X (.BoolOp .Or (b ::rest) pos) g):JR X (.BoolOp .Or (a ::b ::rest) pos) (Mr f g):=by
 intro wh pins s σ H Q I ⟨Z,B,δ,k,E,hf,q⟩;refine Mu ha hb wh pins s σ H Q I ?_;obtain⟨c,h1,h2⟩:=R.ai hf;refine⟨Z,B,δ,c,E,h1,fun H1 s1=>?_⟩
 cases c with
 | true=>rw [if_pos rfl] at h2 ⊢;cases h2;exact q H1 s1
 | false=>rw [if_neg (by decide)] at h2 ⊢;exact⟨Z,B,δ,k,E.same s1,h2,fun H' s2=>q H' (s1.trans s2)⟩
theorem N9{f:av->R Bool}(ha:PB X a f):PB X (.UnaryOp .Not a pos) (Cm f):=(Iw ha).imp fun σ H Q ⟨Z,B,δ,k,E,hf,q⟩=>by
 obtain⟨c,h1,h2⟩:=R.ai hf;cases h2;exact⟨Z,B,δ,c,E,h1,fun H1 s1=>q H1 s1⟩
def Pr(f:FD):av->R Bool:=fun δ=>(f δ).bind fun d=>match d with | .bl b=> .ok b | _=> .no
def W8(f g:FD):FD:=fun δ=>(Pr f δ).bind fun b=>if b then g δ else .ok (.bl false)
def Pw(f g:FD):FD:=fun δ=>(Pr f δ).bind fun b=>if b then .ok (.bl true) else g δ
def WS(f:FD):FD:=fun δ=>(Pr f δ).bind fun b=> .ok (.bl (!b))
theorem OA{f:FD}{δ:av}{b:Bool}(h:Pr f δ= .ok b):f δ= .ok (.bl b):=by
 obtain⟨d,h1,h2⟩:=R.ai h;cases d with
 | bl k=>cases h2;exact h1
 | _=>cases h2
theorem Ny{op}(h:PD X a f):PD X (.BoolOp op [a] pos) f:=Ng h
theorem Q7{rest:List Expr}(ha:PD X a f)(hb:PD X (.BoolOp .Or (b ::rest) pos) g):PD X (.BoolOp .Or (a ::b ::rest) pos) (Pw f g):=(Rm ha hb).imp fun σ H Q ⟨Z,B,δ,k,E,hf,q⟩=>by
 obtain⟨c,h1,h2⟩:=R.ai hf;refine⟨Z,B,δ, .bl c,E,OA h1,fun v H1 s1 r1=>⟨c,by unfold Rep at r1;exact r1,?_⟩⟩
 cases c with
 | true=>rw [if_pos rfl] at h2 ⊢;cases h2;exact q _ H1 s1 (by unfold Rep;rfl)
 | false=>rw [if_neg (by decide)] at h2 ⊢;exact⟨Z,B,δ,k,E.same s1,h2,fun v H' s2 r2=>q v H' (s1.trans s2) r2⟩
def Ow(c:av->R Bool)(f g:FD):FD:=fun δ=>(c δ).bind fun b=>if b then f δ else g δ
theorem Ro{fc:av->R Bool}(hc:PB X c fc)(ha:PD X a f)(hb:PD X b g):PD X (.IfExp c a b pos) (Ow fc f g):=(GF hc ha hb).imp fun σ H Q ⟨Z,B,δ,k,E,hf,q⟩=>by
 obtain⟨c,h1,h2⟩:=R.ai hf;refine⟨Z,B,δ,c,E,h1,fun H1 s1=>?_⟩
 cases c with
 | true=>rw [if_pos rfl] at h2 ⊢;exact⟨Z,B,δ,k,E.same s1,h2,fun v H' s2 r2=>q v H' (s1.trans s2) r2⟩
 | false=>rw [if_neg (by decide)] at h2 ⊢;exact⟨Z,B,δ,k,E.same s1,h2,fun v H' s2 r2=>q v H' (s1.trans s2) r2⟩
def cK(X:Cx)(f:Value)(g:List D->R D):Prop:=
 ∀(pins:Zk) (s:Shared) (σ:St) (H:Hp) (B:List Addr) (ds:List D) (d:D) (xs:List V) (us:List Value),Inv X pins σ H s->(∀a∈B,∃o,H a=some o)->Vals xs us->aH X.K B H ds xs->g ds= .ok d->
  wpAny (model X.prog X.w) X.A (call f us) (EP X pins σ fun z H'=>aU H H'/\Rep X.K B H' d z) X.xe s
def aS(g:List D->R D)(fs:av->R (List D)):FD:=fun δ=>(fs δ).bind g
theorem cK.r{f:Value}{g:List D->R D}(h:cK X f g):mr X f (fun xs H Q=>∃B ds d,(∀a∈B,∃o,H a=some o)/\aH X.K B H ds xs/\g ds= .ok d/\∀z H',aU H H'->Rep X.K B H' d z->Q z H'):=by
 intro pins s σ H xs us Q I rx ⟨B,ds,d,hb,hr,hg,q⟩;exact d6 (h pins s σ H B ds d xs us I hb rx hr hg) fun z s' ⟨zv,H',I',r',s1,r1⟩=>⟨zv,H',I',r',q zv H' s1 r1⟩
theorem Dr{K:W.Frag}{g:List D->R D}{fs:av->R (List D)}{Q:VK}(h:tD K (aS g fs) σ H Q) :
 Vu K fs σ H fun vs H1=>∃B ds d,(∀a∈B,∃o,H1 a=some o)/\aH K B H1 ds vs/\g ds= .ok d/\∀z H',aU H1 H'->Rep K B H' d z->Q z H':=by
 obtain⟨Z,B,δ,d,E,hf,q⟩:=h;obtain⟨ds,h1,h2⟩:=R.ai hf;exact⟨Z,B,δ,ds,E,h1,fun vs H1 s1 r1=>⟨B,ds,d,(E.same s1).bs,r1,h2,fun z H' s2 r2=>q z H' (s1.trans s2) r2⟩⟩
theorem Il{g:List D->R D}{x:Str}{id:String}{p pos:Pos}{e:Expr}{es:List Expr}{fs:av->R (List D)}(hc:cK X (.builtin id) g)(hg:Gl X x)(hm:X.mg x=none)(hv:bootBuiltins x=some (.builtin id))(ha:JP X (e ::es) fs)(hn:x≠"__name__":=by decide)(se:(x==("__debug__":Str))=false:=by decide)
 (he:starEach (e ::es) X.env=(false,eval e X.env) ::starEach es X.env:=by rfl) (nX:(backTo pos (starEach es X.env)).any (·.1)=false:=by rfl):PD X (.Call (.Name x p) (e ::es) [] pos) (aS g fs):=
 (vJ hc.r hg hm hv ha hn se he nX).imp fun σ H Q h=>Dr h
theorem Fs{g:List D->R D}{x:Str}{T:String}{p pos:Pos}{e:Expr}{es:List Expr}{fs:av->R (List D)}(hc:cK X (.type T) g)(hg:Gl X x)(hm:X.mg x=none)(hv:bootBuiltins x=some (.type T))(ha:JP X (e ::es) fs)(hn:x≠"__name__":=by decide)(se:(x==("__debug__":Str))=false:=by decide)
 (he:starEach (e ::es) X.env=(false,eval e X.env) ::starEach es X.env:=by rfl) (nX:(backTo pos (starEach es X.env)).any (·.1)=false:=by rfl):PD X (.Call (.Name x p) (e ::es) [] pos) (aS g fs):=
 (Fo hc.r hg hm hv ha hn se he nX).imp fun σ H Q h=>Dr h
def IY(K:W.Frag)(n:Nat)(g:List D->R D):Sp:=fun vs H Q _=>vs.length=n/\∃B ds d,(∀a∈B,∃o,H a=some o)/\aH K B H ds vs/\g ds= .ok d/\∀z H',aU H H'->Rep K B H' d z->Q z H'
theorem Ln{g:List D->R D}{k n:Nat}{f:Addr}{fd:FuncData}{ps:List Str}{x:Str}{p pos:Pos}{e:Expr}{es:List Expr}{fs:av->R (List D)}
 (F:jI X.prog X.w X.K X.mg X.base wJ k f fd ps (IY X.K n g)) (hr:fq k X.A) (hg:Gl X x) (hm:X.mg x=some (.ref f)) (hk:PySem.W.keepIn X.K (.ref f)=true) (hb:Binds X.K fd ps []) (ha:JP X (e ::es) fs)
 (hn:∀δ ds,fs δ= .ok ds->ds.length=n) (se:(x==("__debug__":Str))=false:=by decide) (he:starEach (e ::es) X.env=(false,eval e X.env) ::starEach es X.env:=by rfl) (nX:(backTo pos (starEach es X.env)).any (·.1)=false:=by rfl) :
 PD X (.Call (.Name x p) (e ::es) [] pos) (aS g fs):=
 (yG F hr hg hm hk hb .nil Bn ha se he nX).imp fun σ H Q ⟨Z,B,δ,d,E,hf,q⟩=>by
   obtain⟨ds,h1,h2⟩:=R.ai hf;refine⟨Z,B,δ,ds,E,h1,fun vs H1 s1 r1=>?_⟩
   show IY X.K n g (vs++[]) H1 Q E0;rw[List.append_nil];exact⟨by rw[<-r1.length];exact hn δ ds h1,B,ds,d,(E.same s1).bs,r1,h2,fun z H' s2 r2=>q z H' (s1.trans s2) r2⟩
end
end L2
end
section
namespace L2
open PySem PySem.Spec PyProof.Rows
inductive Out where
 | nx (δ:av) | rt (d:D)
abbrev FS:=av->R Out
structure Ev (Z B:List Addr) (H:Hp) (B':List Addr) (H':Hp):Prop where
 bq:dP B H B' H'
 zs:∀b o,H b=some o->b∈Z->H' b=some o/\b∈B'
theorem Ev.refl(Z B:List Addr)(H:Hp)(zb:∀a∈Z,a∈B):Ev Z B H B H:=⟨dP.refl B H,fun b o e z=>⟨e,zb b z⟩⟩
theorem Ev.trans{Z B B' RS:List Addr}(a:Ev Z B H B' H')(b:Ev Z B' H' RS nY):Ev Z B H RS nY:=
 ⟨a.bq.trans b.bq,fun c o e z=>let⟨e1,_⟩:=a.zs c o e z;b.zs c o e1 z⟩
theorem Ev.same{Z B:List Addr}(zb:∀a∈Z,a∈B)(s:aU H H'):Ev Z B H B H':=⟨dP.same s,fun b o e z=>⟨s b o e,zb b z⟩⟩
def Eh(K:W.Frag)(Z B:List Addr)(H:Hp)(D:Ends):Out->Prop
 | .nx eD=>∀de B' H',Ev Z B H B' H'->eR K Z B' H' de eD->D.nx de H'
 | .rt d=>∀v B' H',Ev Z B H B' H'->(∀a∈Z,a∈B')->Rep K B' H' d v->D.rt v H'
theorem Eh.ev{K:W.Frag}{Z B B1:List Addr}{D:Ends}{o:Out}(q:Eh K Z B H D o)(ev:Ev Z B H B1 H1):Eh K Z B1 H1 D o:=by
 cases o with
 | nx eD=>exact fun de B' H' Gn E'=>q de B' H' (ev.trans Gn) E'
 | rt d=>exact fun v B' H' Gn z r=>q v B' H' (ev.trans Gn) z r
def sD(K:W.Frag)(F:FS):TS:=fun D σ H=>∃Z B δ o,eR K Z B H σ δ/\F δ= .ok o/\Eh K Z B H D o
abbrev J6(X:Cx)(st:Stmt)(F:FS):Prop:=PS X st (sD X.K F)
abbrev uv(X:Cx)(st:List Stmt)(F:FS):Prop:=yR X st (sD X.K F)
section
variable {X:Cx}
def uq:FS:=fun δ=> .ok (.nx δ)
def eZ(F G:FS):FS:=fun δ=>(F δ).bind fun o=>match o with | .nx eD=>G eD | .rt d=> .ok (.rt d)
theorem LJ:uv X [] uq:=y_.imp fun D σ H ⟨Z,B,δ,o,E,hf,q⟩=>by
 cases hf;exact q σ B H (Ev.refl Z B H E.zb) E
theorem MN{K:W.Frag}{F G:FS}{D:Ends}(h:sD K (eZ F G) D σ H):Ra (sD K F) (sD K G) D σ H:=by
 obtain⟨Z,B,δ,o,E,hf,q⟩:=h;obtain⟨o1,h1,h2⟩:=R.ai hf;refine⟨Z,B,δ,o1,E,h1,?_⟩;cases o1 with
 | nx cP=>
   intro J2 B1 H1 ev E1;refine⟨Z,B1,cP,o,E1,h2,?_⟩;cases o with
   | nx cZ=>exact fun de B' H' Gn E'=>q de B' H' (ev.trans Gn) E'
   | rt d=>exact fun v B' H' Gn z r=>q v B' H' (ev.trans Gn) z r
 | rt d=>
   cases h2;exact q
theorem H0{st:Stmt}{rest:List Stmt}{F G:FS}(h1:J6 X st F)(h2:uv X rest G):uv X (st ::rest) (eZ F G):=(vL h1 h2).imp fun D σ H h=>MN h
theorem Kf{st:Stmt}{F:FS}(h1:J6 X st F):uv X [st] F:=yC h1
theorem eR.set{K:W.Frag}{Z B:List Addr}{σ:St}{δ:av}(E:eR K Z B H σ δ){i:Nat}{d:D}{v:V}(hi:i < σ.length)(r:Rep K B H d v):eR K Z B H (σ.set i (some v)) (δ.set i (.val d)) where
 len:=by rw[List.length_set,List.length_set];exact E.len
 bs:=E.bs
 zb:=E.zb
 val:=fun j d' e=>by
  by_cases h:i=j
  .subst h;rw[List.getElem?_set_self (by rw[E.len];exact hi)] at e
   cases e;exact⟨v,List.getElem?_set_self hi,r⟩
  .rw [List.getElem?_set_ne h] at e ⊢;exact E.val j d' e
 bld:=fun j ds e=>by
  by_cases h:i=j
  .subst h;rw[List.getElem?_set_self (by rw[E.len];exact hi)] at e
   cases e
  .rw [List.getElem?_set_ne h] at e ⊢;exact E.bld j ds e
 dis:=fun j k a ds es e1 e2 e3 e4=>by
  by_cases h:i=j
  .subst h;rw[List.getElem?_set_self (by rw[E.len];exact hi)] at e1
   cases e1
  .by_cases h':i=k
   .subst h';rw[List.getElem?_set_self (by rw[E.len];exact hi)] at e2
    cases e2
   .rw [List.getElem?_set_ne h] at e1 e3;rw[List.getElem?_set_ne h'] at e2 e4;exact E.dis j k a ds es e1 e2 e3 e4
theorem eR.setB{K:W.Frag}{Z B:List Addr}{H:Hp}{σ:St}{δ:av}(E:eR K Z B H σ δ){i:Nat}{ds:List D}{a:Addr}{xs:List V}(hi:i < σ.length)(hB:a∈B)(hZ:a ∉ Z)(hH:H a=some (.lst xs))(r:aH K B H ds xs)
 (new:∀j es,j≠i->δ[j]? =some (.bld es)->σ[j]?≠some (some (.ref a))):eR K Z B H (σ.set i (some (.ref a))) (δ.set i (.bld ds)) where
 len:=by rw[List.length_set,List.length_set];exact E.len
 bs:=E.bs
 zb:=E.zb
 val:=fun j d' e=>by
  by_cases h:i=j
  .subst h;rw[List.getElem?_set_self (by rw[E.len];exact hi)] at e
   cases e
  .rw [List.getElem?_set_ne h] at e ⊢;exact E.val j d' e
 bld:=fun j es e=>by
  by_cases h:i=j
  .subst h;rw[List.getElem?_set_self (by rw[E.len];exact hi)] at e
   cases e;exact⟨a,xs,List.getElem?_set_self hi,hB,hZ,hH,r⟩
  .rw [List.getElem?_set_ne h] at e ⊢;exact E.bld j es e
 dis:=fun j k b RJ RC e1 e2 e3 e4=>by
  by_cases h:i=j
  .subst h;by_cases h':i=k
   .exact h'
   .rw [List.getElem?_set_self hi] at e3;cases e3;rw[List.getElem?_set_ne h'] at e2 e4;exact absurd e4 (new k RC (Ne.symm h') e2)
  .by_cases h':i=k
   .subst h';rw[List.getElem?_set_self hi] at e4;cases e4;rw[List.getElem?_set_ne h] at e1 e3;exact absurd e3 (new j RJ (Ne.symm h) e1)
   .rw [List.getElem?_set_ne h] at e1 e3;rw[List.getElem?_set_ne h'] at e2 e4;exact E.dis j k b RJ RC e1 e2 e3 e4
def mN(i:Nat)(f:FD):FS:=fun δ=>(f δ).bind fun d=>R.bN (decide (i < δ.length)) (.ok (.nx (δ.set i (.val d))))
theorem OF{K:W.Frag}{i:Nat}{D:Ends}(h:sD K (mN i f) D σ H):F3 (tD K f) (wa i) D σ H:=by
 obtain⟨Z,B,δ,o,E,hf,q⟩:=h;obtain⟨d,h1,h2⟩:=R.ai hf;obtain⟨hi,h3⟩:=R.bc h2;cases h3;refine⟨Z,B,δ,d,E,h1,fun v H1 s1 r1=>?_⟩
 exact q _ B H1 (Ev.same E.zb s1) ((E.same s1).set (by rw[<-E.len];exact of_decide_eq_true hi) r1)
theorem K2{i:Nat}{pos pos':Pos}(hN:X.N.Nodup)(hi:X.N[i]? =some x)(hx:Loc X.env.scope x)(he:PD X e f)(hs:swapsWith e (some (.Name x pos')) pos.line X.env=pure false:=by rfl)(hf:X.fn x=true\/X.env.scope.names.lookup x=some .local:=by first | exact .inl rfl | exact .inr rfl | assumption) :
 J6 X (.Assign [.Name x pos'] e pos) (mN i f):=(BZ hN hi hx he hs hf).imp fun D σ H h=>OF h
def AI(i:Nat)(f:av->R (List D)):FS:=fun δ=>(f δ).bind fun ds=>R.bN (decide (i < δ.length)) (.ok (.nx (δ.set i (.bld ds))))
theorem Nn{K:W.Frag}{i:Nat}{f:av->R (List D)}{D:Ends}(h:sD K (AI i f) D σ H):F3 (tN K f) (wa i) D σ H:=by
 obtain⟨Z,B,δ,o,E,hf,q⟩:=h;obtain⟨ds,h1,h2⟩:=R.ai hf;obtain⟨hi,h3⟩:=R.bc h2;cases h3;refine⟨Z,B,δ,ds,E,h1,fun a xs H1 s1 n e r=>?_⟩
 have E1:=E.same s1;have aB:a ∉ B:=fun ha=>by obtain⟨o,ho⟩:=E.bs a ha;rw [n] at ho;cases ho
 have nZ:a ∉ Z:=fun ha=>aB (E.zb a ha)
 have p0:dP B H (a ::B) H1:=fun b o e' nb=>⟨s1 b o e',fun hb=>by
  rcases List.mem_cons.mp hb with z | z
  .subst z;rw [n] at e';cases e'
  .exact nb z⟩
 have E2:eR K Z (a ::B) H1 σ δ:={
  len:=E.len
  bs:=fun b hb=>by
   rcases List.mem_cons.mp hb with z | z
   .subst z;exact⟨_,e⟩
   .exact E1.bs b z
  zb:=fun b hb=>List.mem_cons_of_mem _ (E.zb b hb)
  val:=fun j d e=>let⟨v,q1,q2⟩:=E.val j d e;⟨v,q1,q2.bq p0⟩
  bld:=fun j es e=>let⟨b,ys,q1,q2,q3,q4,q5⟩:=E.bld j es e;⟨b,ys,q1,List.mem_cons_of_mem _ q2,q3,s1 b _ q4,q5.bq p0⟩
  dis:=E.dis}
 refine q _ (a ::B) H1 ⟨p0,fun b o e' hb=>⟨s1 b o e',List.mem_cons_of_mem _ (E.zb b hb)⟩⟩ (E2.setB (by rw[<-E.len];exact of_decide_eq_true hi) List.mem_cons_self nZ e r fun j es hj ej LZ=>?_)
 obtain⟨b,ys,q1,_,_,q4,_⟩:=E.bld j es ej;rw[LZ] at q1;cases q1;rw[n] at q4;cases q4
theorem Lu{i:Nat}{f:av->R (List D)}{pos pos':Pos}(hN:X.N.Nodup)(hi:X.N[i]? =some x)(hx:Loc X.env.scope x)(he:PN X e f)(hs:swapsWith e (some (.Name x pos')) pos.line X.env=pure false:=by rfl)(hf:X.fn x=true\/X.env.scope.names.lookup x=some .local:=by first | exact .inl rfl | exact .inr rfl | assumption) :
 J6 X (.Assign [.Name x pos'] e pos) (AI i f):=(BZ hN hi hx he hs hf).imp fun D σ H h=>Nn h
theorem eR.grow{K:W.Frag}{Z B:List Addr}{H:Hp}{σ:St}{δ:av}(E:eR K Z B H σ δ){i:Nat}{ds es:List D}{a:Addr}{xs ys:List V}(hd:δ[i]? =some (.bld ds))(LZ:σ[i]? =some (some (.ref a)))(hB:a∈B)(hH:H a=some (.lst xs))(r:aH K B H es ys) :
 eR K Z B (upd H a (.lst ys)) σ (δ.set i (.bld es))/\dP B H B (upd H a (.lst ys)):=by
 have p:dP B H B (upd H a (.lst ys)):=fun b o e nb=>⟨by rw[bb (fun(z:b=a)=>nb (by rw[z];exact hB))];exact e,nb⟩
 have hi:i < δ.length:=(List.getElem?_eq_some_iff.mp hd).1;refine⟨{
  len:=by rw[List.length_set];exact E.len
  bs:=fun b hb=>by
   by_cases z:b=a
   .subst z;exact⟨_,aX⟩
   .rw [bb z];exact E.bs b hb
  zb:=E.zb
  val:=fun j d e=>by
   by_cases h:i=j
   .subst h;rw [List.getElem?_set_self hi] at e;cases e
   .rw [List.getElem?_set_ne h] at e;obtain⟨v,q1,q2⟩:=E.val j d e;exact⟨v,q1,q2.bq p⟩
  bld:=fun j fs e=>by
   by_cases h:i=j
   .subst h;rw [List.getElem?_set_self hi] at e;cases e;obtain⟨b,zs,q1,q2,q3,_,_⟩:=E.bld i ds hd;rw[LZ] at q1;cases q1;exact⟨a,ys,LZ,hB,q3,aX,r.bq p⟩
   .rw [List.getElem?_set_ne h] at e;obtain⟨b,zs,q1,q2,q3,q4,q5⟩:=E.bld j fs e;have ne:b≠a:=fun z=>by subst z;exact h (E.dis i j b ds fs hd e LZ q1)
    exact⟨b,zs,q1,q2,q3,by rw[bb ne];exact q4,q5.bq p⟩
  dis:=fun j k b RJ RC e1 e2 e3 e4=>by
   have f1:∃fs,δ[j]? =some (.bld fs):=by
    by_cases h:i=j
    .subst h;exact⟨ds,hd⟩
    .rw [List.getElem?_set_ne h] at e1;exact⟨_,e1⟩
   have f2:∃fs,δ[k]? =some (.bld fs):=by
    by_cases h:i=k
    .subst h;exact⟨ds,hd⟩
    .rw [List.getElem?_set_ne h] at e2;exact⟨_,e2⟩
   obtain⟨_,f1⟩:=f1;obtain⟨_,f2⟩:=f2;exact E.dis j k b _ _ f1 f2 e3 e4},p⟩
theorem Ev.grow{Z B:List Addr}{a:Addr}{o:HO}(zb:∀a∈Z,a∈B)(hZ:a ∉ Z)(p:dP B H B (upd H a o)):Ev Z B H B (upd H a o):=
 ⟨p,fun b u e hb=>⟨by rw[bb (fun(z:b=a)=>hZ (by rw[<-z];exact hb))];exact e,zb b hb⟩⟩
def ye(δ:av)(i:Nat):R (List D):=match δ[i]? with | some (.bld ds)=> .ok ds | _=> .no
theorem Jb{δ:av}{i:Nat}{ds:List D}(h:ye δ i= .ok ds):δ[i]? =some (.bld ds):=by
 unfold ye at h;split at h
 .rename_i q;cases h;exact q
 .cases h
def zW(i:Nat)(f:FD):FS:=fun δ=>(f δ).bind fun d=>(ye δ i).bind fun ds=>R.bN (decide (ds.length < sizeLine)) (.ok (.nx (δ.set i (.bld (ds++[d])))))
theorem Lh{i:Nat}{x:Str}{e:Expr}{f:FD}{k5 apos dU pos:Pos}(hN:X.N[i]? =some x)(hv:KP X.env.scope x)(he:PD X e f)
 (hd:(x==("__debug__":Str))=false:=by decide) (wF:(x==("__classdict__":Str))=false:=by decide)
 (hs:starEach [e] X.env=(false,eval e X.env) ::starEach [] X.env:=by rfl) (sf:(apos.endLine==dU.line)=true:=by rfl)
 (zD:((backTo dU (starEach [e] X.env)).all (fun x=>!x.1) && (backToKw dU (keywordEach [] X.env)).all (fun x=>x.1.isSome)
   && decide (([e]:List Expr).length+([]:List Keyword).length+(if([]:List Keyword).isEmpty then 0 else 1) < 30))=true:=by rfl)
 (Jz:swapsWith (.Call (.Attribute (.Name x k5) "append" apos) [e] [] dU) none pos.line X.env=pure false:=by rfl)
 (r_:attributeBase (.Name x k5) "append" X.env (eval (.Name x k5) X.env)=eval (.Name x k5) X.env:=by rfl) :
 J6 X (.Expr (.Call (.Attribute (.Name x k5) "append" apos) [e] [] dU) pos) (zW i f):=by
 refine(D7 (Mq (X:=X) PySem.F.plainAttrs_list PySem.F.slot_list_append PySem.F.type_list_append sC (we hN hv hd wF) (fI he jG hs) r_ zD sf hs) Jz).imp fun D σ H ⟨Z,B,δ,o,E,hf,q⟩=>?_
 obtain⟨d,h1,h2⟩:=R.ai hf;obtain⟨ds,h3,h4⟩:=R.ai h2;obtain⟨hl,h5⟩:=R.bc h4;cases h5;have hb:=Jb h3;obtain⟨a,xs,q1,q2,q3,q4,q5⟩:=E.bld i ds hb;refine⟨.ref a,q1, .inl ⟨rfl,xs,qT.of q4⟩,⟨Z,B,δ,d,E,h1,fun v H1 s1 r1=>?_⟩⟩
 have E1:=E.same s1;refine⟨a,xs,v,rfl,rfl,s1 a _ q4,by rw[<-q5.length];exact of_decide_eq_true hl,?_⟩
 obtain⟨E2,p2⟩:=E1.grow (es:=ds++[d]) (ys:=xs++[v]) hb q1 q2 (s1 a _ q4) ((q5.same s1).append (aH.cons r1 aH.nil));exact q σ B _ ((Ev.same E.zb s1).trans (Ev.grow E.zb q3 p2)) E2
def Wb(i:Nat)(f:av->R (List D)):FS:=fun δ=>(f δ).bind fun es=>(ye δ i).bind fun ds=>R.bN (decide (ds.length+es.length<=sizeLine)) (.ok (.nx (δ.set i (.bld (ds++es)))))
def k4(i:Nat)(δ:av):av:=match δ[i]? with | some (.bld ds)=>δ.set i (.val (.lst ds)) | _=>δ
theorem eR.k4{K:W.Frag}{Z B:List Addr}{δ:av}(E:eR K Z B H σ δ)(i:Nat):∃B',Ev Z B H B' H/\eR K Z B' H σ (k4 i δ):=by
 unfold L2.k4;cases hd:δ[i]? with
 | none=>exact⟨B,Ev.refl Z B H E.zb,E⟩
 | some x=>
   cases x with
   | un=>exact⟨B,Ev.refl Z B H E.zb,E⟩
   | val d=>exact⟨B,Ev.refl Z B H E.zb,E⟩
   | bld ds=>
     obtain⟨a,xs,q1,q2,q3,q4,q5⟩:=E.bld i ds hd;have hi:i < δ.length:=(List.getElem?_eq_some_iff.mp hd).1;have p:dP B H (B.filter fun b=>decide (b≠a)) H:=fun b o e nb=>⟨e,fun hb=>nb (List.mem_filter.mp hb).1⟩
     have zb:∀b∈Z,b∈B.filter fun b=>decide (b≠a):=fun b hb=>List.mem_filter.mpr ⟨E.zb b hb,decide_eq_true fun z=>q3 (z▸hb)⟩
     refine⟨B.filter fun b=>decide (b≠a),⟨p,fun b o e hb=>⟨e,zb b hb⟩⟩,{
      len:=by rw[List.length_set];exact E.len
      bs:=fun b hb=>E.bs b (List.mem_filter.mp hb).1
      zb:=zb
      val:=fun j d e=>by
       by_cases h:i=j
       .subst h;rw [List.getElem?_set_self hi] at e;cases e;refine⟨.ref a,q1,?_⟩;unfold Rep;exact⟨a,xs,rfl, .inl ⟨fun hb=>by simpa using(List.mem_filter.mp hb).2, .inl q4⟩,q5.bq p⟩
       .rw [List.getElem?_set_ne h] at e;obtain⟨v,z1,z2⟩:=E.val j d e;exact⟨v,z1,z2.bq p⟩
      bld:=fun j fs e=>by
       by_cases h:i=j
       .subst h;rw [List.getElem?_set_self hi] at e;cases e
       .rw [List.getElem?_set_ne h] at e;obtain⟨b,zs,z1,z2,z3,z4,z5⟩:=E.bld j fs e;exact⟨b,zs,z1,List.mem_filter.mpr ⟨z2,decide_eq_true fun z=>by subst z;exact h (E.dis i j b ds fs hd e q1 z1)⟩,z3,z4,z5.bq p⟩
      dis:=fun j k b RJ RC e1 e2 e3 e4=>by
       by_cases h:i=j
       .subst h;rw [List.getElem?_set_self hi] at e1;cases e1
       .by_cases h':i=k
        .subst h';rw [List.getElem?_set_self hi] at e2;cases e2
        .rw [List.getElem?_set_ne h] at e1;rw[List.getElem?_set_ne h'] at e2;exact E.dis j k b RJ RC e1 e2 e3 e4}⟩
def EW(i:Nat)(F:FS):FS:=fun δ=>F (k4 i δ)
theorem M_{K:W.Frag}{i:Nat}{F:FS}{D:Ends}(h:sD K (EW i F) D σ H):sD K F D σ H:=by
 obtain⟨Z,B,δ,o,E,hf,q⟩:=h;obtain⟨B1,ev,E1⟩:=E.k4 i;refine⟨Z,B1,L2.k4 i δ,o,E1,hf,?_⟩;cases o with
 | nx eD=>exact fun de B' H' Gn E'=>q de B' H' (ev.trans Gn) E'
 | rt d=>exact fun v B' H' Gn z r=>q v B' H' (ev.trans Gn) z r
theorem Li(i:Nat){F:FS}(h:uv X MK F):uv X MK (EW i F):=h.imp fun D σ H h=>M_ h
def fO(f:FD):FS:=fun δ=>(f δ).bind fun d=> .ok (.rt d)
theorem KS(he:PD X e f):J6 X (.Return (some e) pos) (fO f):=(GX he).imp fun D σ H ⟨Z,B,δ,o,E,hf,q⟩=>by
 obtain⟨d,h1,h2⟩:=R.ai hf;cases h2;exact⟨Z,B,δ,d,E,h1,fun v H1 s1 r1=>q v B H1 (Ev.same E.zb s1) E.zb r1⟩
def A4(c:av->R Bool)(F G:FS):FS:=fun δ=>(c δ).bind fun b=>if b then F δ else G δ
theorem OI{fc:av->R Bool}{F G:FS}(hc:PB X c fc)(ha:uv X a F)(hb:uv X b G):J6 X (.If c a b pos) (A4 fc F G):=(GJ hc ha hb).imp fun D σ H ⟨Z,B,δ,o,E,hf,q⟩=>by
 obtain⟨k,h1,h2⟩:=R.ai hf;refine⟨Z,B,δ,k,E,h1,fun H1 s1=>?_⟩
 have q':=q.ev (Ev.same E.zb s1);cases k with
 | true=>rw [if_pos rfl] at h2;exact EU ⟨Z,B,δ,o,E.same s1,h2,q'⟩
 | false=>rw [if_neg (by decide)] at h2;exact Fb ⟨Z,B,δ,o,E.same s1,h2,q'⟩
abbrev FT:=D->av->R av
def gD(K:W.Frag)(t:FT):TG:=fun v σ H Q=>∃Z B δ d eD,eR K Z B H σ δ/\Rep K B H d v/\t d δ= .ok eD/\∀de H',aU H H'->eR K Z B H' de eD->de.length=σ.length->Q de H'
abbrev Pm(X:Cx)(tg:Expr)(t:FT):Prop:=PG X tg (gD X.K t)
def aI(i:Nat):FT:=fun d δ=>R.bN (decide (i < δ.length)) (.ok (δ.set i (.val d)))
theorem Hq{i:Nat}{pos:Pos}(hN:X.N.Nodup)(hi:X.N[i]? =some x)(hx:Loc X.env.scope x)(hf:X.fn x=true\/X.env.scope.names.lookup x=some .local:=by first | exact .inl rfl | exact .inr rfl | assumption):Pm X (.Name x pos) (aI i):=
 (Dz hN hi hx hf).imp fun v σ H Q ⟨Z,B,δ,d,eD,E,r,ht,q⟩=>by
   obtain⟨hi,h⟩:=R.bc ht;cases h;exact q _ H (aU.refl H) (E.set (by rw[<-E.len];exact of_decide_eq_true hi) r) (List.length_set ..)
abbrev HC:=List D->av->R av
def WE(K:W.Frag)(t:HC):HU:=fun vs σ H Q=>∃Z B δ ds eD,eR K Z B H σ δ/\aH K B H ds vs/\t ds δ= .ok eD/\∀de H',aU H H'->eR K Z B H' de eD->de.length=σ.length->Q de H'
abbrev IV(X:Cx)(ts:List Expr)(t:HC):Prop:=Ll X ts (WE X.K t)
theorem Ll.imp{X:Cx}{t t':HU}(h:Ll X e t)(w:∀v σ H Q,t' v σ H Q->t v σ H Q):Ll X e t':=fun pins s σ H v u Q I r hq=>h pins s σ H v u Q I r (w v σ H Q hq)
def iy:HC:=fun ds δ=>match ds with | []=> .ok δ | _=> .no
def cc(t:FT)(u:HC):HC:=fun ds δ=>match ds with | d ::r=>(t d δ).bind fun eD=>u r eD | []=> .no
theorem Hz:IV X [] iy:=DK.imp fun vs σ H Q ⟨Z,B,δ,ds,eD,E,r,ht,q⟩=>by
 cases ds with
 | nil=>unfold aH at r;cases ht;exact⟨r,q σ H (aU.refl H) E rfl⟩
 | cons=>cases ht
theorem Fw{u:HC}(h1:Pm X e t)(h2:IV X es u)(hs:(assignEach (e ::es) X.env).map (·.2)=assign e X.env ::(assignEach es X.env).map (·.2):=by rfl):IV X (e ::es) (cc t u):=
 (AS h1 h2 hs).imp fun vs σ H Q ⟨Z,B,δ,ds,eD,E,r,ht,q⟩=>by
   cases ds with
   | nil=>cases ht
   | cons d ds=>
     obtain⟨x,xs,rfl,r1,r2⟩:=r.cw;obtain⟨cP,h1,h2⟩:=R.ai ht;exact⟨x,xs,rfl,Z,B,δ,d,cP,E,r1,h1,fun J2 H1 s1 E1 l1=>⟨Z,B,cP,ds,eD,E1,r2.same s1,h2,fun wH H2 s2 E2 l2=>q wH H2 (s1.trans s2) E2 (l2.trans l1)⟩⟩
def iu(n:Nat)(t:HC):FT:=fun d δ=>match d with | .tup ds=>R.bN (decide (ds.length=n)) (t ds δ) | _=> .no
theorem KN{k:Nat}{t:HC}{n:Nat}{pos:Pos}(hc:X.calm=true)(h:IV X es t)(hn:(assignEach es X.env).length=n:=by rfl)(Jt:(assignEach es X.env).findIdx? (·.1)=none:=by rfl):Pm X (.Tuple es k pos) (iu n t):=
 (II hc h hn Jt).imp fun v σ H Q ⟨Z,B,δ,d,eD,E,r,ht,q⟩=>by
   cases d with
   | tup ds=>
     unfold Rep at r;obtain⟨a,xs,rfl,l,r⟩:=r;obtain⟨hl,h⟩:=R.bc ht;exact⟨a,xs,rfl,l.sq,by rw[<-r.length];exact of_decide_eq_true hl,Z,B,δ,ds,eD,E,r,h,q⟩
   | _=>cases ht
def W2(f:FD)(t:FT):FS:=fun δ=>(f δ).bind fun d=>(t d δ).bind fun eD=> .ok (.nx eD)
def Hs(K:W.Frag)(B:List Addr)(H:Hp)(J:It)(ds:List D):Prop:=∀B' H',dP B H B' H'->(∀(i:Nat) (d:D),ds[i]? =some d->J.go i H'/\∀x nY,J.yld i H' x nY->(∀a∈B',∃o,H' a=some o)->aU H' nY/\Rep K B' nY d x)/\J.stop ds.length H'
def iD(K:W.Frag)(f:av->R (List D)):TI:=fun σ H R=>∃Z B δ ds,eR K Z B H σ δ/\f δ= .ok ds/\∀J H1,aU H H1->Hs K B H1 J ds->R J H1
abbrev Pk(X:Cx)(tg e:Expr)(f:av->R (List D)):Prop:=PI X tg e (iD X.K f)
def cq(f:FD):av->R (List D):=fun δ=>(f δ).bind fun d=>match d with | .lst ds=> .ok ds | .tup ds=> .ok ds | _=> .no
theorem Kv(h:PD X e f):Pk X tg e (cq f):=by
 intro pins s σ H RR I ⟨Z,B,δ,ds,E,hf,q⟩;obtain⟨d,h1,h2⟩:=R.ai hf;refine d6 (h pins s σ H (fun v H1=>aU H H1/\Rep X.K B H1 d v) I ⟨Z,B,δ,d,E,h1,fun v H1 s1 r1=>⟨s1,r1⟩⟩) fun v s1 ⟨x,H1,I1,r1,ss,rr⟩=>?_
 cases d with
 | lst es=>
   cases h2;unfold Rep at rr;obtain⟨a,xs,rfl,l,rr⟩:=rr;cases r1;obtain⟨its,rv,p,hz⟩:=I1.list l.sq;refine wpAny_pyIter_list p.isList ?_;refine⟨s1.heap.objs.size,[s1.heap.objs.size],_,_,H1,rfl,I1.kept (t':=s1.toks) fun b o e=>Heap.get?_push_of_some _ e,xp a _,⟨_,Heap.get?_push_size _ rfl,rfl,rfl⟩,fun b hb=>?_,q _ H1 ss fun B' H' pr=>?_⟩
   .have e:b=s1.heap.objs.size:=by simpa using hb
    subst e;exact I1.vm (Nat.le_refl _) (I1.hok.fresh (Nat.le_refl _))
   .have l':wL X.K B' H' a xs:=l.bq pr;have Pa:=rr.bq pr;refine⟨fun i d hd=>?_,⟨xs,l'.sq,by rw[rr.length];exact Nat.le_refl _⟩⟩
    obtain⟨x,hx,rx⟩:=Pa.get hd;exact⟨⟨xs,x,l'.sq,hx⟩,fun y nY ⟨e1,e2⟩ _=>by
     subst e1;have:=e2 xs l'.sq;rw[hx] at this;cases this;exact⟨aU.refl _,rx⟩⟩
 | tup es=>
   cases h2;unfold Rep at rr;obtain⟨a,xs,rfl,l,rr⟩:=rr;cases r1;obtain⟨its,rv,p,hz⟩:=I1.tuple l.sq;refine wpAny_pyIter_tuple (show s1.heap.IsTuple a its.toArray from p) ?_
   refine⟨s1.heap.objs.size,[s1.heap.objs.size],_,_,H1,rfl,I1.kept (t':=s1.toks) fun b o e=>Heap.get?_push_of_some _ e,B9 a _,⟨_,Heap.get?_push_size _ rfl,rfl,rfl⟩,fun b hb=>?_,q _ H1 ss fun B' H' pr=>?_⟩
   .have e:b=s1.heap.objs.size:=by simpa using hb
    subst e;exact I1.vm (Nat.le_refl _) (I1.hok.fresh (Nat.le_refl _))
   .have l':x9 X.K B' H' a xs:=l.elim (fun z=> .inl ⟨(pr.rd z.2 z.1).2,(pr.rd z.2 z.1).1⟩) .inr
    have Pa:=rr.bq pr;refine⟨fun i d hd=>?_,⟨xs,l'.sq,by rw[rr.length];exact Nat.le_refl _⟩⟩
    obtain⟨x,hx,rx⟩:=Pa.get hd;exact⟨⟨xs,x,l'.sq,hx⟩,fun y nY ⟨e1,e2⟩ _=>by
     subst e1;have:=e2 xs l'.sq;rw[hx] at this;cases this;exact⟨aU.refl _,rx⟩⟩
 | _=>cases h2
def gq(lo:Int)(n:Nat):List D:=(List.range n).map fun(i:Nat)=>D.int (lo+i)
theorem IP{K:W.Frag}{B:List Addr}(lo:Int)(n:Nat):Hs K B H (QH lo n) (gq lo n):=fun B' H' _=>by
 refine⟨fun i d hd=>?_,?_⟩
 .unfold gq at hd;rw[List.getElem?_map] at hd;cases e:(List.range n)[i]? with
  | none=>rw [e] at hd;cases hd
  | some j=>
    rw[e] at hd;cases hd;obtain⟨hi,ej⟩:=List.getElem?_eq_some_iff.mp e;rw[List.getElem_range] at ej;subst ej;rw[List.length_range] at hi;exact⟨hi,fun x nY ⟨e1,e2⟩ _=>by subst e1 e2;exact⟨aU.refl _,by unfold Rep;rfl⟩⟩
 .show n<=(gq lo n).length;unfold gq;rw[List.length_map,List.length_range];exact Nat.le_refl _
def dE(f:FD):av->R (List D):=fun δ=>(f δ).bind fun d=>match d with | .int j=>R.bN (decide (-(2 ^ 62)<=j/\j < 2 ^ 62)) (.ok (gq 0 j.toNat)) | _=> .no
theorem Ck{tg a:Expr}{p pos:Pos}(h:PD X a f)(hg:Gl X "range")(hm:X.mg "range"=none)(hs:starEach [a] X.env=[(false,eval a X.env)]:=by rfl):Pk X tg (.Call (.Name "range" p) [a] [] pos) (dE f):=
 (xJ hg hm (fI h jG hs) hs).imp fun σ H RR ⟨Z,B,δ,ds,E,hf,q⟩=>by
   obtain⟨d,h1,h2⟩:=R.ai hf;cases d with
   | int j=>
     obtain⟨hb,h3⟩:=R.bc h2;cases h3;have hb:=of_decide_eq_true hb;refine⟨Z,B,δ, .int j,E,h1,fun v H1 s1 r1=>⟨j,?_,hb.1,hb.2,q _ H1 s1 (IP 0 _)⟩⟩
     unfold Rep at r1;rw[r1]
   | _=>cases h2
def Sz(f g:FD):av->R (List D):=fun δ=>(f δ).bind fun d=>(g δ).bind fun e=>match d,e with
 | .int i, .int j=>R.bN (decide (-(2 ^ 62)<=i/\i < 2 ^ 62/\ -(2 ^ 62)<=j/\j < 2 ^ 62)) (.ok (gq i (j - i).toNat)) | _,_=> .no
def p8(t:FT)(body:FS):List D->FS
 | [],δ=> .ok (.nx δ)
 | d ::ds,δ=>(t d δ).bind fun cP=>(body cP).bind fun o=>match o with | .nx cZ=>p8 t body ds cZ | .rt r=> .ok (.rt r)
def sY(it:av->R (List D))(t:FT)(body:FS):FS:=fun δ=>(it δ).bind fun ds=>p8 t body ds δ
theorem Kb{tg iter:Expr}{body:List Stmt}{it:av->R (List D)}{t:FT}{F:FS}{pos:Pos}(hp:PassesOwn (model X.prog X.w) X.A X.env X.xe)(hc:X.calm=true)(hi:Pk X tg iter it)(hg:Pm X tg t)(hb:uv X body F)
 (hs:∀x,foldedSetIterable iter X.env x=pure x:=by intro _;rfl):J6 X (.For tg iter body [] pos) (sY it t F):=(BJ hp hc hi hg hb hs).imp fun D σ H ⟨Z,B,δ,o,E,hf,q⟩=>by
 obtain⟨ds,h1,h2⟩:=R.ai hf;refine⟨Z,B,δ,ds,E,h1,fun J H1 s1 ir=>?_⟩
 refine⟨fun i m de H'=>m=ds.length - i/\i<=ds.length/\∃B' eD,Ev Z B H1 B' H'/\eR X.K Z B' H' de eD/\p8 t F (ds.drop i) eD= .ok o,⟨ds.length,rfl,Nat.zero_le _,B,δ,Ev.refl Z B H1 E.zb,E.same s1,by simpa using h2⟩,?_⟩
 rintro i m de H' ⟨rfl,hi,B',eD,ev,E',hl⟩;obtain⟨go,stop⟩:=ir B' H' ev.bq;by_cases hlt:i < ds.length
 .have hd:ds[i]? =some ds[i]:=List.getElem?_eq_getElem hlt;have hdrop:ds.drop i=ds[i] ::ds.drop (i+1):=List.drop_eq_getElem_cons hlt;rw[hdrop] at hl;obtain⟨cP,h3,h4⟩:=R.ai hl;obtain⟨o1,h5,h6⟩:=R.ai h4;obtain⟨g1,g2⟩:=go i _ hd;refine .inr ⟨g1,fun wH H2=>∃B2 cZ,Ev Z B H1 B2 H2/\eR X.K Z B2 H2 wH cZ/\p8 t F (ds.drop (i+1)) cZ= .ok o,fun wH H2 n=>⟨ds.length - (i+1),by omega,rfl,hlt,n⟩,fun x nY y=>?_⟩
  obtain⟨ss,rr⟩:=g2 x nY y E'.bs;refine⟨Z,B',eD,ds[i],cP,E'.same ss,rr,h3,fun wH H2 s2 E2 l2=>⟨Z,B',cP,o1,E2,h5,?_⟩⟩
  have ev2:Ev Z B H1 B' H2:=ev.trans (Ev.same E'.zb (ss.trans s2));cases o1 with
  | nx cZ=>exact fun By B3 H3 UQ E3=>⟨B3,cZ,ev2.trans UQ,E3,h6⟩
  | rt d=>
    cases h6;exact fun v B3 H3 UQ z r=>q v B3 H3 ((Ev.same E.zb s1).trans (ev2.trans UQ)) z r
 .have e:i=ds.length:=by omega
  subst e;rw[List.drop_length] at hl;cases hl;exact .inl ⟨stop,q de B' H' ((Ev.same E.zb s1).trans ev) E'⟩
def Ih(c:av->R Bool)(body:FS):Nat->FS
 | 0,_=> .no
 | n+1,δ=>(c δ).bind fun b=>if b then(body δ).bind fun o=>match o with | .nx cZ=>Ih c body n cZ | .rt r=> .ok (.rt r) else .ok (.nx δ)
def Ub(n:Nat)(c:av->R Bool)(body:FS):FS:=fun δ=>Ih c body n δ
def wb(δ:av)(i:Nat):Sl:=match δ[i]? with | some (.val d)=> .val d | _=> .un
def uj(own:List Str)(kp:List Nat)(δ:av):av:=List.replicate own.length .un++kp.map (wb δ)
def mf(t:FT)(c:av->R Bool)(f:FD)(δ:av):List D->R (List D)
 | []=> .ok []
 | d ::ds=>(t d δ).bind fun cP=>(c cP).bind fun b=>if b then(f cP).bind fun y=>(mf t c f δ ds).bind fun ys=> .ok (y ::ys) else mf t c f δ ds
def cO(it:av->R (List D))(t:FT)(c:av->R Bool)(f:FD)(own:List Str)(kp:List Nat):av->R (List D):=fun δ=>(it δ).bind fun ds=>R.bN (decide (ds.length<=sizeLine)) (mf t c f (uj own kp δ) ds)
theorem Oh{K:W.Frag}{Z B B':List Addr}{H H':Hp}{δ:av}{own:List Str}{kp:List Nat}(E:eR K Z B H σ δ)(p:dP B H B' H')(hB:∀a∈B',∃o,H' a=some o):eR K [] B' H' (dZ own kp σ) (uj own kp δ) where
 len:=by unfold dZ uj;simp
 bs:=hB
 zb:=fun a ha=>by cases ha
 val:=fun i d e=>by
  unfold uj at e;unfold dZ;by_cases hi:i < own.length
  .rw [List.getElem?_append_left (by simpa using hi),List.getElem?_replicate] at e
   split at e <;> cases e
  .rw [List.getElem?_append_right (by simpa using hi),List.length_replicate,List.getElem?_map] at e ⊢
   cases q:kp[i - own.length]? with
   | none=>rw [q] at e;cases e
   | some j=>
     rw[q] at e;have e:wb δ j= .val d:=Option.some.inj e;unfold wb at e;split at e
     .rename_i d' ed;cases e;obtain⟨v,h1,h2⟩:=E.val j d ed;exact⟨v,by simp [h1],h2.bq p⟩
     .cases e
 bld:=fun i ds e=>by
  unfold uj at e;by_cases hi:i < own.length
  .rw [List.getElem?_append_left (by simpa using hi),List.getElem?_replicate] at e
   split at e <;> cases e
  .rw [List.getElem?_append_right (by simpa using hi),List.length_replicate,List.getElem?_map] at e
   cases q:kp[i - own.length]? with
   | none=>rw [q] at e;cases e
   | some j=>
     rw[q] at e;have e:wb δ j= .bld ds:=Option.some.inj e;unfold wb at e;split at e <;> cases e
 dis:=fun i j a ds es e=>by
  unfold uj at e;by_cases hi:i < own.length
  .rw [List.getElem?_append_left (by simpa using hi),List.getElem?_replicate] at e
   split at e <;> cases e
  .rw [List.getElem?_append_right (by simpa using hi),List.length_replicate,List.getElem?_map] at e
   cases q:kp[i - own.length]? with
   | none=>rw [q] at e;cases e
   | some j=>
     rw[q] at e;have e:wb δ j= .bld ds:=Option.some.inj e;unfold wb at e;split at e <;> cases e
theorem D1{K:W.Frag}{it:av->R (List D)}{c:av->R Bool}{own:List Str}{kp:List Nat}{Q:VK}(h:tN K (cO it t c f own kp) σ H Q) :
 D6 (iD K it) (gD K t) (Nh K c) (tD K f) own kp σ H Q:=by
 obtain⟨Z,B,δ,ds,E,hf,q⟩:=h;obtain⟨es,h1,h2⟩:=R.ai hf;obtain⟨hl,h3⟩:=R.bc h2;have hl:=of_decide_eq_true hl;refine⟨Z,B,δ,es,E,h1,fun J H1 s1 ir Dd hD=>?_⟩
 have E1:=E.same s1;have pD:dP B H1 (Dd ::B) (upd H1 Dd (.lst [])):=AQ hD;refine⟨fun i m ys H'=>m=es.length - i/\i<=es.length/\ys.length<=i/\H' Dd=some (.lst ys)/\aU H1 H'/\∃done rest,ds=done++rest/\aH K (Dd ::B) H' done ys/\mf t c f (uj own kp δ) (es.drop i)= .ok rest,
  ⟨es.length,rfl,Nat.zero_le _,Nat.le_refl _,aX,aR hD,[],ds,rfl,aH.nil,by simpa using h3⟩,?_⟩
 rintro i m ys H' ⟨rfl,hi,hy,hDl,ss,done,rest,rfl,rd,hc⟩;have dB:Dd ∉ B:=fun hb=>by obtain⟨o,ho⟩:=E1.bs Dd hb;rw [hD] at ho;cases ho
 have p':dP B H1 (Dd ::B) H':=fun b o e nb=>⟨ss b o e,fun hb=>by
  rcases List.mem_cons.mp hb with z | z
  .exact cz e hD z
  .exact nb z⟩
 have JJ:∀a∈Dd ::B,∃o,H' a=some o:=fun a ha=>by
  rcases List.mem_cons.mp ha with z | z
  .subst z;exact⟨_,hDl⟩
  .obtain⟨o,ho⟩:=E1.bs a z;exact⟨o,ss a o ho⟩
 obtain⟨go,stop⟩:=ir (Dd ::B) H' p';by_cases hlt:i < es.length
 .have hd:es[i]? =some es[i]:=List.getElem?_eq_getElem hlt;have hdrop:es.drop i=es[i] ::es.drop (i+1):=List.drop_eq_getElem_cons hlt;rw[hdrop] at hc;obtain⟨cP,h4,h5⟩:=R.ai hc;obtain⟨b,h6,h7⟩:=R.ai h5;obtain⟨g1,g2⟩:=go i _ hd;refine .inr ⟨g1,fun x H2 y=>?_⟩
  obtain⟨sy,ry⟩:=g2 x H2 y JJ;have Ec:eR K [] (Dd ::B) H2 (dZ own kp σ) (uj own kp δ):=Oh E1 (p'.trans (dP.same sy)) fun a ha=>let⟨o,ho⟩:=JJ a ha;⟨o,sy a o ho⟩
  refine⟨[],Dd ::B,uj own kp δ,es[i],cP,Ec,ry,h4,fun By H3 s3 E3 _=>⟨[],Dd ::B,cP,b,E3,h6,fun H4 s4=>?_⟩⟩
  have sAll:aU H' H4:=sy.trans (s3.trans s4);cases b with
  | true=>
    rw[if_pos rfl] at h7;refine EU ?_;obtain⟨yv,h8,h9⟩:=R.ai h7;obtain⟨rs,UG,Uy⟩:=R.ai h9;cases Uy;refine⟨[],Dd ::B,cP,yv,E3.same s4,h8,fun v H5 s5 r5=>?_⟩
    have s':aU H' H5:=sAll.trans s5;have U4:H5 Dd=some (.lst ys):=s' Dd _ hDl;have pu:dP (Dd ::B) H5 (Dd ::B) (upd H5 Dd (.lst (ys++[v]))):=fun b o e nb=>⟨by rw[bb (fun(z:b=Dd)=>nb (by rw[z];exact List.mem_cons_self))];exact e,nb⟩
    refine⟨U4,by omega,es.length - (i+1),by omega,rfl,hlt,by rw[List.length_append,List.length_singleton];omega,aX,fun b o e=>?_,done++[yv],rs,by simp,((rd.same s').append (aH.cons r5 aH.nil)).bq pu,UG⟩
    rw[bb (cz e hD)];exact s' b o (ss b o e)
  | false=>
    rw[if_neg (by decide)] at h7
    refine Fb ?_;exact⟨es.length - (i+1),by omega,rfl,hlt,by omega,sAll Dd _ hDl,ss.trans sAll,done,rest,rfl,rd.same sAll,h7⟩
 .have e:i=es.length:=by omega
  subst e;rw[List.drop_length] at hc;cases hc;rw[List.append_nil] at q;exact .inl ⟨stop,q Dd ys H' (s1.trans ss) (s1.free hD) hDl rd⟩
theorem Kr{scope:Scope}{own:List Str}{kp:List Nat}{kn:List Str}{tg iter elt:Expr}{ifs:List Expr}{it:av->R (List D)}{t:FT}{c:av->R Bool}{f:FD}{pos:Pos}(hc:X.calm=true)(C:bz X scope own kp kn)(hi:Pk X tg iter it)
 (hg:∀fp s H,Pm (bM X scope (own++kn) fp s H) tg t) (Gp:∀fp s H,sr (bM X scope (own++kn) fp s H) ifs (Nh X.K c)) (he:∀fp s H,PD (bM X scope (own++kn) fp s H) elt f)
 (hs:∀x,foldedSetIterable iter X.env x=pure x:=by intro _;rfl):PN X (.ListComp elt [⟨tg,iter,ifs,0⟩] scope pos) (cO it t c f own kp):=
 (Ex hc C hi hg Gp he hs).imp fun σ H Q h=>D1 h
def j4:av->R Bool:=fun _=> .ok true
theorem G5:sr X [] (Nh X.K j4):=fun pins s σ H Q I ⟨Z,B,δ,b,E,hf,q⟩=>Bo pins s σ H Q I (by cases hf;exact q H (aU.refl H))
theorem LU{c:av->R Bool}(h:PB X e c):sr X [e] (Nh X.K c):=zS h
end
def dD(N:List Str)(ds:List D):av:=ds.map .val++List.replicate (N.length - ds.length) .un
def tV(N:List Str)(F:FS):List D->R D:=fun ds=>(F (dD N ds)).bind fun o=>match o with | .rt d=> .ok d | .nx _=> .ok .cu
theorem Lm{K:W.Frag}{B:List Addr}{H:Hp}{N:List Str}{ds:List D}{vs:List V}(hB:∀a∈B,∃o,H a=some o)(r:aH K B H ds vs):eR K B B H (start N vs) (dD N ds) where
 len:=by unfold start dD;simp [r.length]
 bs:=hB
 zb:=fun a ha=>ha
 val:=fun i d e=>by
  unfold dD at e;unfold start;by_cases hi:i < ds.length
  .rw [List.getElem?_append_left (by simpa using hi),List.getElem?_map] at e
   cases q:ds[i]? with
   | none=>rw [q] at e;cases e
   | some d'=>
     rw[q] at e;cases e;obtain⟨x,h1,h2⟩:=r.get q;exact⟨x,by rw[List.getElem?_append_left (by rw[List.length_map,<-r.length];exact hi),List.getElem?_map,h1];rfl,h2⟩
  .rw [List.getElem?_append_right (by simpa using hi),List.getElem?_replicate] at e
   split at e <;> cases e
 bld:=fun i es e=>by
  unfold dD at e;by_cases hi:i < ds.length
  .rw [List.getElem?_append_left (by simpa using hi),List.getElem?_map] at e
   cases q:ds[i]? with
   | none=>rw [q] at e;cases e
   | some d'=>rw [q] at e;cases e
  .rw [List.getElem?_append_right (by simpa using hi),List.getElem?_replicate] at e
   split at e <;> cases e
 dis:=fun i j a es fs e=>by
  unfold dD at e;by_cases hi:i < ds.length
  .rw [List.getElem?_append_left (by simpa using hi),List.getElem?_map] at e
   cases q:ds[i]? with
   | none=>rw [q] at e;cases e
   | some d'=>rw [q] at e;cases e
  .rw [List.getElem?_append_right (by simpa using hi),List.getElem?_replicate] at e
   split at e <;> cases e
theorem KY{P:Program}{w:World}{K:W.Frag}{mg:Zp}{base:Heap}{x qual:Str}{st:Stmt}{f:Addr}{fd:FuncData}{N ps:List Str}{k:Nat}{F:FS}(Fn:ED K x qual st f fd)(S:aT N ps (ay st))
 (mK:∀(dF:Value) (A:Around) (outer:List Env) (s:Shared) (H:Hp) (E:XK),fq k (A.deeper (envOfC qual (ay st) s.heap.objs.size f dF))->
   uv (vY wJ P w K mg base N qual (ay st) f dF A outer s H E).Lp (aK st) F):jI P w K mg base wJ (k+1) f fd ps (IY K ps.length (tV N F)):=by
 refine Fn.ok S (fun vs H Q E h=>h.1) (fun dF A outer s H vs Q E hr h=>⟨_,mK dF A outer s H E hr,?_⟩)
 obtain⟨_,B,ds,d,hB,r,hg,q⟩:=h;obtain⟨o,h1,h2⟩:=R.ai hg;refine⟨B,B,dD N ds,o,Lm hB r,h1,?_⟩;have sm:∀{B':List Addr} {H':Hp},Ev B B H B' H'->aU H H':=fun {B' H'} ev b u e=>by
  by_cases hb:b∈B
  .exact(ev.zs b u e hb).1
  .exact(ev.bq b u e hb).1
 cases o with
 | nx eD=>
   cases h2;exact fun de B' H' ev _=>q _ H' (sm ev) (by unfold Rep;rfl)
 | rt d'=>
   cases h2;exact fun v B' H' ev z rr=>q v H' (sm ev) (rr.bq fun b o e nb=>⟨e,fun hb=>nb (z b hb)⟩)
end L2
end
section
namespace L2
open PySem PySem.Spec PyProof.Rows
theorem Rep.int{K:W.Frag}{B:List Addr}{i:Int}{v:V}:Rep K B H (.int i) v↔v= .int i:=by unfold Rep;exact Iff.rfl
theorem Rep.bl{K:W.Frag}{B:List Addr}{i:Bool}{v:V}:Rep K B H (.bl i) v↔v= .bl i:=by unfold Rep;exact Iff.rfl
theorem Rep.str{K:W.Frag}{B:List Addr}{v:V}:Rep K B H (.str i) v↔v= .str i:=by unfold Rep;exact Iff.rfl
theorem Rep.cu{K:W.Frag}{B:List Addr}{v:V}:Rep K B H .cu v↔v= .cu:=by unfold Rep;exact Iff.rfl
theorem Rep.lst{K:W.Frag}{B:List Addr}{ds:List D}{v:V}:Rep K B H (.lst ds) v↔∃a xs,v= .ref a/\wL K B H a xs/\aH K B H ds xs:=by rw[Rep]
theorem Rep.tup{K:W.Frag}{B:List Addr}{ds:List D}{v:V}:Rep K B H (.tup ds) v↔∃a xs,v= .ref a/\x9 K B H a xs/\aH K B H ds xs:=by rw[Rep]
section
variable {X:Cx}
theorem lq.of{f:Value->Value->Sem Value}{r:R2}{g:D->D->R D}(h:mL X f r)
 (w:∀(B:List Addr) (H:Hp) (da db d:D) (x y:V) (Q:VK),(∀a∈B,∃o,H a=some o)->Rep X.K B H da x->Rep X.K B H db y->g da db= .ok d->(∀z H',aU H H'->Rep X.K B H' d z->Q z H')->r x y H Q):lq X f g:=by
 intro pins s σ H B da db d x y v u I hb rx ry ra rb hg;exact h pins s σ H x y v u _ I rx ry (w B H da db d x y _ hb ra rb hg fun z H' s1 r1=>⟨s1,r1⟩)
theorem cK.of{f:Value}{r:List V->Hp->VK->Prop}{g:List D->R D}(h:mr X f r)
 (w:∀(B:List Addr) (H:Hp) (ds:List D) (d:D) (xs:List V) (Q:VK),(∀a∈B,∃o,H a=some o)->aH X.K B H ds xs->g ds= .ok d->(∀z H',aU H H'->Rep X.K B H' d z->Q z H')->r xs H Q):cK X f g:=by
 intro pins s σ H B ds d xs us I hb rx rs hg;exact h pins s σ H xs us _ I rx (w B H ds d xs _ hb rs hg fun z H' s1 r1=>⟨s1,r1⟩)
theorem cK.or{f:Value}{g g1 g2:List D->R D}(h1:cK X f g1)(h2:cK X f g2)(e:∀a d,g a= .ok d->g1 a= .ok d\/g2 a= .ok d):cK X f g:=by
 intro pins s σ H B ds d xs us I hb rx rs hg;rcases e ds d hg with q | q
 .exact h1 pins s σ H B ds d xs us I hb rx rs q
 .exact h2 pins s σ H B ds d xs us I hb rx rs q
def Mm(C:Int->Int->Bool)(g:Int->Int->Int):D->D->R D
 | .int i, .int j=>R.bN (C i j) (.ok (.int (g i j)))
 | _,_=> .no
theorem Ad{f:Value->Value->Sem Value}{C:Int->Int->Bool}{Cp:Int->Int->Prop}{g:Int->Int->Int}(h:mL X f (rI Cp fun i j=> .int (g i j)))(hc:∀i j,C i j=true->Cp i j):lq X f (Mm C g):=
 lq.of h fun B H da db d x y Q _ ra rb hg q=>by
  unfold Mm at hg;split at hg
  .obtain⟨h1,h2⟩:=R.bc hg;cases h2;exact⟨_,_,Rep.int.mp ra,Rep.int.mp rb,hc _ _ h1,q _ H (aU.refl H) (Rep.int.mpr rfl)⟩
  .cases hg
def Fe(g:Int->Int->Int):D->D->R D
 | .int i, .int j=> .ok (.int (g i j))
 | _,_=> .no
theorem zj{f:Value->Value->Sem Value}{g:Int->Int->Int}(h:mL X f (FV fun i j=> .int (g i j))):lq X f (Fe g):=
 lq.of h fun B H da db d x y Q _ ra rb hg q=>by
  unfold Fe at hg;split at hg
  .cases hg;exact⟨_,_,Rep.int.mp ra,Rep.int.mp rb,q _ H (aU.refl H) (Rep.int.mpr rfl)⟩
  .cases hg
def Pg(g:Int->Int->Bool):D->D->R D
 | .int i, .int j=> .ok (.bl (g i j))
 | _,_=> .no
theorem EE{f:Value->Value->Sem Value}{g:Int->Int->Bool}(h:mL X f (FV fun i j=> .bl (g i j))):lq X f (Pg g):=
 lq.of h fun B H da db d x y Q _ ra rb hg q=>by
  unfold Pg at hg;split at hg
  .cases hg;exact⟨_,_,Rep.int.mp ra,Rep.int.mp rb,q _ H (aU.refl H) (Rep.bl.mpr rfl)⟩
  .cases hg
abbrev qZ:D->D->R D:=Fe fun i j=>i - j
theorem rB:lq X (binaryOp .Sub) qZ:=zj OV
abbrev rM:D->D->R D:=Mm (fun _ j=>decide (0 < j/\j < 1073741824)) fun i j=>i / j
theorem sL:lq X (binaryOp .FloorDiv) rM:=Ad LA fun i j h=>(of_decide_eq_true h:0 < j/\j < 1073741824)
abbrev jv:D->D->R D:=Mm (fun _ j=>decide (0 < j)) fun i j=>i % j
theorem fW:lq X (binaryOp .Mod) jv:=Ad NH fun i j h=>of_decide_eq_true h
abbrev Of:D->D->R D:=Mm (fun i j=>decide (0<=j/\j<=1000000/\i.natAbs < 2 ^ 64)) fun i j=>i ^ j.toNat
theorem Qw:lq X (binaryOp .Pow) Of:=Ad Oa fun i j h=>(of_decide_eq_true h:0<=j/\j<=1000000/\i.natAbs < 2 ^ 64)
abbrev Be:D->D->R D:=Mm (fun _ j=>decide (0<=j)) fun i j=>i / 2 ^ j.toNat
theorem MB:lq X (binaryOp .RShift) Be:=Ad Oi fun i j h=>of_decide_eq_true h
abbrev CN:D->D->R D:=Fe fun i j=>Builtin.bitAnd i j
theorem yn:lq X (binaryOp .BitAnd) CN:=zj M5
abbrev JN:D->D->R D:=Fe fun i j=>Builtin.bitOr i j
theorem Ac:lq X (binaryOp .BitOr) JN:=zj Qm
abbrev Gr:D->D->R D:=Fe fun i j=>Builtin.bitXor i j
theorem Ba:lq X (binaryOp .BitXor) Gr:=zj OK
abbrev Ue:D->D->R D:=Pg fun i j=>decide (i < j)
theorem Te:lq X (compareOp .Lt) Ue:=EE Rr
abbrev Ua:D->D->R D:=Pg fun i j=>decide (i<=j)
theorem Ts:lq X (compareOp .LtE) Ua:=EE P5
abbrev JT:D->D->R D:=Pg fun i j=>decide (j < i)
theorem IT:lq X (compareOp .Gt) JT:=EE Q5
abbrev TM:D->D->R D:=Pg fun i j=>decide (j<=i)
theorem TY:lq X (compareOp .GtE) TM:=EE P7
theorem wL.uV{K:W.Frag}{B:List Addr}{H:Hp}{a:Addr}{xs:List V}(h:H a=some (.lst xs))(n:a ∉ B):wL K B H a xs:= .inl ⟨n, .inl h⟩
theorem Inv.Mp{pins:Zk}{s:Shared}{a:Addr}{xs:List V}{B:List Addr}(I:Inv X pins σ H s)(h:wL X.K B H a xs):∃(its:List Value) (n:Nat),Vals xs its/\s.heap.get? a=some {cls:= .type "list",data:= .seq its.toArray n}/\xs.length<=sizeLine:=by
 rcases h with⟨_,h⟩ | ⟨its,n,hk,hz,r⟩
 .obtain⟨z,its,n,r,e⟩:=h.ok I.hok;exact⟨its,n,r,e,z⟩
 .exact⟨its,n,r,I.D2 a _ hk,hz⟩
theorem D0:mL X (binaryOp .Add) (fun x y H Q=>∃B l b xs zs,x= .ref l/\y= .ref b/\wL X.K B H l xs/\wL X.K B H b zs/\xs.length+zs.length<=sizeLine/\∀p,H p=none->Q (.ref p) (upd H p (.lst (xs++zs)))):=by
 intro pins s σ H x y v u Q I rx ry h;obtain⟨B,l,b,xs,zs,rfl,rfl,hH,hB,hz,q⟩:=h;cases rx;cases ry;obtain⟨its,n,r,e,_⟩:=I.Mp hH;obtain⟨O9,n2,r2,e2,_⟩:=I.Mp hB;have l1:=r.length;have l2:=r2.length;refine PySem.P.add_list e e2 ?_ (by rw[List.size_toArray,List.size_toArray];omega)
 have ea:its.toArray++O9.toArray=(its++O9).toArray:=by simp
 rw[ea];exact⟨.ref _,_,I.Lc (t':=s.toks) (r.append r2) (by rw[List.length_append];omega),rfl,q _ I.fresh⟩
def eT:D->D->R D
 | .int i, .int j=> .ok (.int (i+j))
 | .str a, .str b=>R.bN (decide (a.length+b.length<=sizeLine)) (.ok (.str (a++b)))
 | .lst a, .lst b=>R.bN (decide (a.length+b.length<=sizeLine)) (.ok (.lst (a++b)))
 | _,_=> .no
theorem d7:lq X (binaryOp .Add) eT:=by
 intro pins s σ H B da db d x y v u I hb rx ry ra rb hg;unfold eT at hg;split at hg
 .cases hg;exact OH pins s σ H x y v u _ I rx ry ⟨_,_,Rep.int.mp ra,Rep.int.mp rb,aU.refl H,Rep.int.mpr rfl⟩
 .obtain⟨h1,h2⟩:=R.bc hg;cases h2;exact CK pins s σ H x y v u _ I rx ry ⟨_,_,Rep.str.mp ra,Rep.str.mp rb,of_decide_eq_true h1,aU.refl H,Rep.str.mpr rfl⟩
 .obtain⟨h1,h2⟩:=R.bc hg;cases h2;obtain⟨a1,Uz,rfl,l1,r1⟩:=Rep.lst.mp ra;obtain⟨a2,UI,rfl,l2,r2⟩:=Rep.lst.mp rb;refine D0 pins s σ H _ _ v u _ I rx ry ⟨B,a1,a2,Uz,UI,rfl,rfl,l1,l2,by rw[<-r1.length,<-r2.length];exact of_decide_eq_true h1,fun p hp=>⟨aR hp,Rep.lst.mpr ⟨p,_,rfl, .uV aX fun ha=>?_,(r1.append r2).same (aR hp)⟩⟩⟩
  obtain⟨o,ho⟩:=hb p ha;rw[hp] at ho;cases ho
 .cases hg
theorem Ka:mL X (binaryOp .Mult) (fun x y H Q=>∃z n,x= .str z/\y= .int n/\MulOk z n/\Q (.str (Txt.mul z n)) H):=by
 intro pins s σ H x y v u Q I rx ry h;obtain⟨z,n,rfl,rfl,hm,q⟩:=h;obtain⟨t,rfl⟩:=rx;obtain⟨t',rfl⟩:=ry;exact SB.mul hm fun t2 k=>⟨.str _,H,I.tok _,⟨_,rfl⟩,q⟩
end
end L2
end
section
namespace L2
open PySem PySem.Spec PyProof.Rows
section
variable {X:Cx}
theorem mulOk_of{x:Str}{n:Int}(h1: -(2 ^ 63)<=n)(h2:n < 2 ^ 63)(h3:x.length*n.toNat<=sizeLine):MulOk x n:=by
 refine⟨by simp only[Bool.or_eq_false_iff,decide_eq_false_iff_not];omega,fun hn _=>?_,fun hn _=>?_⟩
 .have hz:sizeLine=16777216:=sizeLine_eq;have e:(n.toNat:Int)=n:=by omega
  have h4:(x.length:Int)*n<=16777216:=by
   have:((x.length*n.toNat:Nat):Int)<=((16777216:Nat):Int):=Int.ofNat_le.mpr (by omega)
   rw[Int.natCast_mul,e] at this;exact this
  have:(x.length:Int)<=(2 ^ 63 - 1) / n:=(Int.le_ediv_iff_mul_le (by omega)).mpr (by omega)
  omega
 .unfold Builtin.Str.tooLong;exact decide_eq_false (by omega)
def zp:D->D->R D
 | .int i, .int j=>R.bN (decide ((-(2 ^ 64) < i/\i < 2 ^ 64)\/(-(2 ^ 64) < j/\j < 2 ^ 64))) (.ok (.int (i*j)))
 | .str x, .int n=>R.bN (decide (-(2 ^ 63)<=n/\n < 2 ^ 63/\x.length*n.toNat<=sizeLine)) (.ok (.str (Txt.mul x n)))
 | _,_=> .no
theorem xw:lq X (binaryOp .Mult) zp:=by
 intro pins s σ H B da db d x y v u I hb rx ry ra rb hg;unfold zp at hg;split at hg
 .obtain⟨h1,h2⟩:=R.bc hg;cases h2;have h1:=of_decide_eq_true h1;exact O1 pins s σ H x y v u _ I rx ry ⟨_,_,Rep.int.mp ra,Rep.int.mp rb,h1,aU.refl H,Rep.int.mpr rfl⟩
 .obtain⟨h1,h2⟩:=R.bc hg;cases h2;have h1:=of_decide_eq_true h1;exact Ka pins s σ H x y v u _ I rx ry ⟨_,_,Rep.str.mp ra,Rep.int.mp rb,mulOk_of h1.1 h1.2.1 h1.2.2,aU.refl H,Rep.str.mpr rfl⟩
 .cases hg
mutual
def toPy:D->PyData
 | .cu=> .none
 | .bl b=> .bool b
 | .int i=> .int i
 | .str x=> .str x
 | .lst ds=> .list (nL ds)
 | .tup ds=> .tuple (nL ds)
 | .dct _ _=> .dict []
def nL:List D->List PyData
 | []=>[]
 | d ::ds=>toPy d ::nL ds
end
mutual
def eY:D->Bool
 | .dct _ _=>false
 | .lst ds=>lh ds
 | .tup ds=>lh ds
 | _=>true
def lh:List D->Bool
 | []=>true
 | d ::ds=>eY d && lh ds
end
mutual
theorem Rep.reads{pins:Zk}{s:Shared}{B:List Addr}(I:Inv X pins σ H s):∀{d:D} {v:V} {u:Value},eY d=true->Rep X.K B H d v->RelV v u->∃as,Reads s.heap u (toPy d) as
 | .cu,v,u,_,r,q=>by rw[Rep.cu.mp r] at q;cases q;unfold toPy;exact⟨_, .none⟩
 | .bl b,v,u,_,r,q=>by rw[Rep.bl.mp r] at q;cases q;unfold toPy;exact⟨_, .bool b⟩
 | .int i,v,u,_,r,q=>by rw[Rep.int.mp r] at q;obtain⟨t,rfl⟩:=q;unfold toPy;exact⟨_, .int i t⟩
 | .str x,v,u,_,r,q=>by rw[Rep.str.mp r] at q;obtain⟨t,rfl⟩:=q;unfold toPy;exact⟨_, .str x t⟩
 | .lst ds,v,u,hp,r,q=>by
   obtain⟨a,xs,rfl,l,rs⟩:=Rep.lst.mp r;cases q;obtain⟨its,rv,⟨o,n,e,hc,hd,he⟩,_⟩:=I.list l.sq;obtain⟨as,ra⟩:=aH.reads I (by unfold eY at hp;exact hp) rs rv
   unfold toPy;exact⟨_, .list e hc he (by simpa using ra)⟩
 | .tup ds,v,u,hp,r,q=>by
   obtain⟨a,xs,rfl,l,rs⟩:=Rep.tup.mp r;cases q;obtain⟨its,rv,⟨o,e,hc,n,hd⟩,_⟩:=I.tuple l.sq;obtain⟨as,ra⟩:=aH.reads I (by unfold eY at hp;exact hp) rs rv
   unfold toPy;exact⟨_, .tuple e hc hd (by simpa using ra)⟩
 | .dct _ _,v,u,hp,r,q=>by unfold eY at hp;cases hp
theorem aH.reads{pins:Zk}{s:Shared}{B:List Addr}(I:Inv X pins σ H s):∀{ds:List D} {vs:List V} {us:List Value},lh ds=true->aH X.K B H ds vs->Vals vs us->∃as,ReadsAll s.heap us (nL ds) as
 | [],vs,us,_,r,q=>by unfold aH at r;subst r;cases q;unfold nL;exact⟨_, .nil⟩
 | d ::ds,vs,us,hp,r,q=>by
   obtain⟨x,xs,rfl,r1,r2⟩:=r.cw;cases q with
   | cons q1 q2=>
     unfold lh at hp;obtain⟨h1,h2⟩:=Bool.and_eq_true_iff.mp hp;obtain⟨as,a1⟩:=Rep.reads I h1 r1 q1;obtain⟨bs,a2⟩:=aH.reads I h2 r2 q2;unfold nL;exact⟨_, .cons a1 a2⟩
end
def Em:D->D->R Bool
 | .int i, .int j=> .ok (decide (i=j))
 | .str x, .str y=> .ok (decide (x=y))
 | .bl a, .bl b=> .ok (decide (a=b))
 | d,e=>R.bN (eY d && eY e && SeqAt.shaped (toPy d) && SeqAt.shaped (toPy e)) (.ok (PyData.eqv (toPy d) (toPy e)))
def lA(d e:D):R D:=(Em d e).bind fun b=> .ok (.bl b)
def EC(d e:D):R D:=(Em d e).bind fun b=> .ok (.bl (!b))
theorem lP(hu:X.A.units+64 < cLine):lq X (compareOp .Eq) lA:=by
 intro pins s σ H B da db d x y v u I hb rx ry ra rb hg;obtain⟨b,h1,h2⟩:=R.ai hg;cases h2;unfold Em at h1;split at h1
 .cases h1;rename_i i j;have:=HZ pins s σ H x y v u (fun z H'=>aU H H'/\Rep X.K B H' (.bl (decide (i=j))) z) I rx ry
  rw[Rep.int.mp ra,Rep.int.mp rb] at this;refine this ⟨rfl,aU.refl H,Rep.bl.mpr ?_⟩;simp [V.int.injEq]
 .cases h1;rename_i i j;have:=HZ pins s σ H x y v u (fun z H'=>aU H H'/\Rep X.K B H' (.bl (decide (i=j))) z) I rx ry
  rw[Rep.str.mp ra,Rep.str.mp rb] at this;refine this ⟨rfl,aU.refl H,Rep.bl.mpr ?_⟩;simp [V.str.injEq]
 .cases h1;rename_i i j;have:=HZ pins s σ H x y v u (fun z H'=>aU H H'/\Rep X.K B H' (.bl (decide (i=j))) z) I rx ry
  rw[Rep.bl.mp ra,Rep.bl.mp rb] at this;refine this ⟨rfl,aU.refl H,Rep.bl.mpr ?_⟩;simp [V.bl.injEq]
 .obtain⟨h3,h4⟩:=R.bc h1;cases h4;simp only[Bool.and_eq_true] at h3;obtain⟨⟨⟨p1,p2⟩,s1⟩,s2⟩:=h3;obtain⟨as,r1⟩:=ra.reads I p1 rx;obtain⟨bs,r2⟩:=rb.reads I p2 ry;exact eq_dataH r1 r2 s1 s2 hu ⟨.bl _,H,I,rfl,aU.refl H,Rep.bl.mpr rfl⟩
theorem zZ(hu:X.A.units+64 < cLine):lq X (compareOp .NotEq) EC:=by
 intro pins s σ H B da db d x y v u I hb rx ry ra rb hg;obtain⟨b,h1,h2⟩:=R.ai hg;cases h2;unfold Em at h1;split at h1
 .cases h1;rename_i i j;have:=Hg pins s σ H x y v u (fun z H'=>aU H H'/\Rep X.K B H' (.bl (!decide (i=j))) z) I rx ry
  rw[Rep.int.mp ra,Rep.int.mp rb] at this;refine this ⟨rfl,aU.refl H,Rep.bl.mpr ?_⟩;simp [V.int.injEq]
 .cases h1;rename_i i j;have:=Hg pins s σ H x y v u (fun z H'=>aU H H'/\Rep X.K B H' (.bl (!decide (i=j))) z) I rx ry
  rw[Rep.str.mp ra,Rep.str.mp rb] at this;refine this ⟨rfl,aU.refl H,Rep.bl.mpr ?_⟩;simp [V.str.injEq]
 .cases h1;rename_i i j;have:=Hg pins s σ H x y v u (fun z H'=>aU H H'/\Rep X.K B H' (.bl (!decide (i=j))) z) I rx ry
  rw[Rep.bl.mp ra,Rep.bl.mp rb] at this;refine this ⟨rfl,aU.refl H,Rep.bl.mpr ?_⟩;simp [V.bl.injEq]
 .obtain⟨h3,h4⟩:=R.bc h1;cases h4;simp only[Bool.and_eq_true] at h3;obtain⟨⟨⟨p1,p2⟩,s1⟩,s2⟩:=h3;obtain⟨as,r1⟩:=ra.reads I p1 rx;obtain⟨bs,r2⟩:=rb.reads I p2 ry;exact ne_dataH r1 r2 s1 s2 hu ⟨.bl _,H,I,rfl,aU.refl H,Rep.bl.mpr rfl⟩
def strs?:List D->Option (List Str)
 | []=>some []
 | .str x ::ds=>(strs? ds).map (x ::·)
 | _ ::_=>none
theorem mj{K:W.Frag}{B:List Addr}:∀{ds:List D} {xs:List V} {ss:List Str},aH K B H ds xs->strs? ds=some ss->xs=ss.map V.str
 | [],xs,ss,r,h=>by unfold aH at r;subst r;cases h;rfl
 | d ::ds,xs,ss,r,h=>by
   obtain⟨x,r',rfl,r1,r2⟩:=r.cw;cases d with
   | str z=>
     unfold strs? at h;cases e:strs? ds with
     | none=>rw [e] at h;cases h
     | some tt=>
       rw[e] at h;cases h;rw[Rep.str.mp r1,mj r2 e];rfl
   | _=>cases h
def ints?:List D->Option (List Int)
 | []=>some []
 | .int x ::ds=>(ints? ds).map (x ::·)
 | _ ::_=>none
theorem dG{K:W.Frag}{B:List Addr}:∀{ds:List D} {xs:List V} {ss:List Int},aH K B H ds xs->ints? ds=some ss->xs=ss.map V.int
 | [],xs,ss,r,h=>by unfold aH at r;subst r;cases h;rfl
 | d ::ds,xs,ss,r,h=>by
   obtain⟨x,r',rfl,r1,r2⟩:=r.cw;cases d with
   | int z=>
     unfold ints? at h;cases e:ints? ds with
     | none=>rw [e] at h;cases h
     | some tt=>
       rw[e] at h;cases h;rw[Rep.int.mp r1,dG r2 e];rfl
   | _=>cases h
def inD(d e:D):R Bool:=match d,e with
 | .str x, .lst ds=>(match strs? ds with | some ss=> .ok (ss.contains x) | none=> .no)
 | .str x, .tup ds=>(match strs? ds with | some ss=> .ok (ss.contains x) | none=> .no)
 | .str x, .str y=> .ok (!(Builtin.Str.occurrences y x 0 y.length 1).isEmpty)
 | .int x, .lst ds=>(match ints? ds with | some ss=> .ok (ss.contains x) | none=> .no)
 | .int x, .tup ds=>(match ints? ds with | some ss=> .ok (ss.contains x) | none=> .no)
 | _,_=> .no
def Bk(d e:D):R D:=(inD d e).bind fun b=> .ok (.bl b)
def sP(d e:D):R D:=(inD d e).bind fun b=> .ok (.bl (!b))
theorem wg(x:Str):∀ss:List Str,Hk (.str x) (ss.map V.str)=ss.contains x
 | []=>rfl
 | y ::ss=>by
   unfold Hk;rw[List.map_cons,List.any_cons];have ih:=wg x ss;unfold Hk at ih;rw[ih];show(y==x || ss.contains x)=_
   rw[List.contains_cons];congr 1;exact Bool.eq_iff_iff.mpr ⟨fun h=>by simpa using(beq_iff_eq.mp h).symm,fun h=>by simpa using(beq_iff_eq.mp h).symm⟩
theorem uR(x:Int):∀ss:List Int,Hk (.int x) (ss.map V.int)=ss.contains x
 | []=>rfl
 | y ::ss=>by
   unfold Hk;rw[List.map_cons,List.any_cons];have ih:=uR x ss;unfold Hk at ih;rw[ih];show(y==x || ss.contains x)=_
   rw[List.contains_cons];congr 1;exact Bool.eq_iff_iff.mpr ⟨fun h=>by simpa using(beq_iff_eq.mp h).symm,fun h=>by simpa using(beq_iff_eq.mp h).symm⟩
theorem xV(ss:List Int):(ss.map V.int).all l8=true:=by
 rw[List.all_map];simp [List.all_eq_true,l8]
theorem xN(ss:List Str):(ss.map V.str).all l8=true:=by
 rw[List.all_map];simp [List.all_eq_true,l8]
theorem GU{neg:Bool}{op:CmpOp}{g:D->D->R D}(h1:mL X (compareOp op) (Tz X.K neg))(h2:mL X (compareOp op) (fun x y H Q=>∃i j,x= .str i/\y= .str j/\Q (.bl (if neg then !(!(Builtin.Str.occurrences j i 0 j.length 1).isEmpty) else(!(Builtin.Str.occurrences j i 0 j.length 1).isEmpty))) H))
 (hg:∀d e r,g d e= .ok r->∃b,inD d e= .ok b/\r= .bl (if neg then !b else b)):lq X (compareOp op) g:=by
 intro pins s σ H B da db d x y v u I hb rx ry ra rb hg';obtain⟨b,hi,rfl⟩:=hg da db d hg';unfold inD at hi;split at hi
 .rename_i z ds;split at hi
  .rename_i ss e;cases hi;obtain⟨a,xs,rfl,l,rs⟩:=Rep.lst.mp rb;refine h1 pins s σ H x _ v u _ I rx ry ⟨a,xs,rfl, .inl l.sq,by rw[Rep.str.mp ra];rfl,by rw[mj rs e];exact xN _,aU.refl H,Rep.bl.mpr ?_⟩
   rw[mj rs e,Rep.str.mp ra,wg]
  .cases hi
 .rename_i z ds;split at hi
  .rename_i ss e;cases hi;obtain⟨a,xs,rfl,l,rs⟩:=Rep.tup.mp rb;refine h1 pins s σ H x _ v u _ I rx ry ⟨a,xs,rfl, .inr l.sq,by rw[Rep.str.mp ra];rfl,by rw[mj rs e];exact xN _,aU.refl H,Rep.bl.mpr ?_⟩
   rw[mj rs e,Rep.str.mp ra,wg]
  .cases hi
 .cases hi;exact h2 pins s σ H x y v u _ I rx ry ⟨_,_,Rep.str.mp ra,Rep.str.mp rb,aU.refl H,Rep.bl.mpr rfl⟩
 .rename_i z ds;split at hi
  .rename_i ss e;cases hi;obtain⟨a,xs,rfl,l,rs⟩:=Rep.lst.mp rb;refine h1 pins s σ H x _ v u _ I rx ry ⟨a,xs,rfl, .inl l.sq,by rw[Rep.int.mp ra];rfl,by rw[dG rs e];exact xV _,aU.refl H,Rep.bl.mpr ?_⟩
   rw[dG rs e,Rep.int.mp ra,uR]
  .cases hi
 .rename_i z ds;split at hi
  .rename_i ss e;cases hi;obtain⟨a,xs,rfl,l,rs⟩:=Rep.tup.mp rb;refine h1 pins s σ H x _ v u _ I rx ry ⟨a,xs,rfl, .inr l.sq,by rw[Rep.int.mp ra];rfl,by rw[dG rs e];exact xV _,aU.refl H,Rep.bl.mpr ?_⟩
   rw[dG rs e,Rep.int.mp ra,uR]
  .cases hi
 .cases hi
theorem AD:lq X (compareOp .In) Bk:=GU (neg:=false) xQ Fq fun d e r h=>by
 obtain⟨b,h1,h2⟩:=R.ai h;cases h2;exact⟨b,h1,rfl⟩
theorem DV:lq X (compareOp .NotIn) sP:=GU (neg:=true) yF yS fun d e r h=>by
 obtain⟨b,h1,h2⟩:=R.ai h;cases h2;exact⟨b,h1,rfl⟩
def cn(d e:D):R D:=match d,e with
 | .lst ds, .int i=>(match ur ds i with | some x=> .ok x | none=> .no)
 | .tup ds, .int i=>(match ur ds i with | some x=> .ok x | none=> .no)
 | .str x, .int i=>R.bN (decide (x.length<=sizeLine)) (match ur x.cps.toList i with | some c=> .ok (.str ⟨#[c]⟩) | none=> .no)
 | _,_=> .no
theorem rH{K:W.Frag}{B:List Addr}{ds:List D}{xs:List V}{i:Int}{d:D}(r:aH K B H ds xs)(h:ur ds i=some d):∃x,ur xs i=some x/\Rep K B H d x:=by
 unfold ur at h ⊢;rw[<-r.length];cases e:EA ds.length i with
 | none=>rw [e] at h;cases h
 | some j=>
   rw[e] at h;exact r.get h
theorem P0(ha:PD X a fa)(hb:PD X b fb)(hs:uG b):PD X (.Subscript a b pos) (e2 cn fa fb):=by
 refine(Mo (r:=Tj X.K) IX ha hb hs).imp fun σ H Q ⟨Z,B,δ,d,E,hf,q⟩=>?_
 obtain⟨d1,h1,h2⟩:=R.ai hf;obtain⟨d2,h3,h4⟩:=R.ai h2;refine⟨Z,B,δ,d1,E,h1,fun v1 H1 s1 r1=>⟨Z,B,δ,d2,E.same s1,h3,fun v2 H2 s2 r2=>?_⟩⟩
 have uA:=r1.same s2;unfold cn at h4;split at h4
 .split at h4
  .rename_i e;cases h4;obtain⟨p,xs,rfl,l,rs⟩:=Rep.lst.mp uA;obtain⟨y,e1,e2⟩:=rH rs e;exact .inl ⟨p,xs,_,y,rfl,Rep.int.mp r2,l.sq,e1,q y H2 (s1.trans s2) e2⟩
  .cases h4
 .split at h4
  .rename_i e;cases h4;obtain⟨p,xs,rfl,l,rs⟩:=Rep.tup.mp uA;obtain⟨y,e1,e2⟩:=rH rs e;exact .inr (.inl ⟨p,xs,_,y,rfl,Rep.int.mp r2,l.sq,e1,q y H2 (s1.trans s2) e2⟩)
  .cases h4
 .obtain⟨hl,h5⟩:=R.bc h4;split at h5
  .rename_i e;cases h5;exact .inr (.inr ⟨_,_,_,Rep.str.mp uA,Rep.int.mp r2,of_decide_eq_true hl,e,q _ H2 (s1.trans s2) (Rep.str.mpr rfl)⟩)
  .cases h5
 .cases h4
abbrev FO:=av->R (Option Int)
def WM(K:W.Frag)(f:FO):TO:=fun σ H Q=>∃Z B δ o,eR K Z B H σ δ/\f δ= .ok o/\∀H',aU H H'->Q o H'
theorem PO.imp{X:Cx}{e:Option Expr}{t t':TO}(h:PO X e t)(w:∀σ H Q,t' σ H Q->t σ H Q):PO X e t':=fun pins s σ H Q I hq=>h pins s σ H Q I (w σ H Q hq)
abbrev PP(X:Cx)(e:Option Expr)(f:FO):Prop:=PO X e (WM X.K f)
def Bm:FO:=fun _=> .ok none
def vk(f:FD):FO:=fun δ=>(f δ).bind fun d=>match d with | .int i=> .ok (some i) | _=> .no
theorem LP:PP X none Bm:=J_.imp fun σ H Q ⟨Z,B,δ,o,E,hf,q⟩=>by cases hf;exact q H (aU.refl H)
theorem LD(h:PD X e f):PP X (some e) (vk f):=(Lk h).imp fun σ H Q ⟨Z,B,δ,o,E,hf,q⟩=>by
 obtain⟨d,h1,h2⟩:=R.ai hf;cases d with
 | int i=>cases h2;exact⟨Z,B,δ, .int i,E,h1,fun v H1 s1 r1=>⟨i,Rep.int.mp r1,q H1 s1⟩⟩
 | _=>cases h2
theorem MU:Md X (fun x lo hi H Q=>∃z,x= .str z/\z.length<=sizeLine/\Q (.str (Txt.slice z lo hi)) H):=by
 intro pins s σ H x v vl vu lo hi sl Q I rx hs pl pu h;obtain⟨z,rfl,hz,q⟩:=h;obtain⟨t,rfl⟩:=rx;refine⟨"str",_,F.slot_str_getitem.lookup,typeIs_str _ _ _,?_⟩;have fin:∀t' k,EP X pins σ Q (.str (Txt.slice z lo hi) t') {s with toks:=k}:=fun t' k=>⟨.str _,H,I.tok _,⟨_,rfl⟩,q⟩
 obtain⟨o,ho,hc,hd⟩:=hs;cases pl with
 | none=>
   cases pu with
   | none=>exact wpAny_getItem_str_slice (l:=none) (u:=none) (st:=none) ⟨o,ho,hc,hd⟩ rfl (post_val_or_str ⟨Nat.le_trans (Txt.slice_le z _ _) hz,fin⟩)
   | int j u=>exact wpAny_getItem_str_slice (l:=none) (u:=some (j,u)) (st:=none) ⟨o,ho,hc,hd⟩ rfl (post_val_or_str ⟨Nat.le_trans (Txt.slice_le z _ _) hz,fin⟩)
 | int i t1=>
   cases pu with
   | none=>exact wpAny_getItem_str_slice (l:=some (i,t1)) (u:=none) (st:=none) ⟨o,ho,hc,hd⟩ rfl (post_val_or_str ⟨Nat.le_trans (Txt.slice_le z _ _) hz,fin⟩)
   | int j u=>exact wpAny_getItem_str_slice (l:=some (i,t1)) (u:=some (j,u)) (st:=none) ⟨o,ho,hc,hd⟩ rfl (post_val_or_str ⟨Nat.le_trans (Txt.slice_le z _ _) hz,fin⟩)
def cutD{α:Type}(xs:List α)(lo hi:Option Int):List α:=(xs.drop (HT.gA xs.length 0 lo)).take (HT.gA xs.length xs.length hi - HT.gA xs.length 0 lo)
def Qb(d:D)(lo hi:Option Int):R D:=match d with
 | .str x=>R.bN (decide (x.length<=sizeLine)) (.ok (.str (Txt.slice x lo hi)))
 | .lst ds=> .ok (.lst (cutD ds lo hi))
 | _=> .no
theorem Aa{K:W.Frag}{B:List Addr}{ds:List D}{xs:List V}(r:aH K B H ds xs)(lo hi:Option Int):aH K B H (cutD ds lo hi) (Aw xs lo hi):=by
 unfold cutD Aw;rw[<-r.length];exact(r.drop _).take _
def Rj(f:FD)(fl fh:FO):FD:=fun δ=>(f δ).bind fun d=>(fl δ).bind fun lo=>(fh δ).bind fun hi=>Qb d lo hi
theorem P4{lo hi:Option Expr}{fl fh:FO}(he:PD X e f)(hl:PP X lo fl)(hh:PP X hi fh):PD X (.Subscript e (.Slice lo hi none p2) pos) (Rj f fl fh):=by
 refine(Bd (MU.or LO) he hl hh).imp fun σ H Q ⟨Z,B,δ,d,E,hf,q⟩=>?_
 obtain⟨d1,h1,h2⟩:=R.ai hf;obtain⟨l,h3,h4⟩:=R.ai h2;obtain⟨h,h5,h6⟩:=R.ai h4;refine⟨Z,B,δ,d1,E,h1,fun v1 H1 s1 r1=>⟨Z,B,δ,l,E.same s1,h3,fun H2 s2=>⟨Z,B,δ,h,(E.same s1).same s2,h5,fun H3 s3=>?_⟩⟩⟩
 have sA:aU H H3:=s1.trans (s2.trans s3);have uA:=r1.same (s2.trans s3);unfold Qb at h6;split at h6
 .obtain⟨hz,h7⟩:=R.bc h6;cases h7;exact .inl ⟨_,Rep.str.mp uA,of_decide_eq_true hz,q _ H3 sA (Rep.str.mpr rfl)⟩
 .cases h6;obtain⟨a,xs,rfl,ls,rs⟩:=Rep.lst.mp uA;refine .inr ⟨a,xs,rfl,ls.sq,fun p hp=>q _ _ (sA.trans (aR hp)) (Rep.lst.mpr ⟨p,_,rfl, .uV aX fun ha=>?_,(Aa rs l h).same (aR hp)⟩)⟩
  obtain⟨o,ho⟩:=(E.same sA).bs p ha;rw[hp] at ho;cases ho
 .cases h6
end
end L2
end
section
namespace L2
open PySem PySem.Spec PyProof.Rows
section
variable {X:Cx}
theorem aH.one{K:W.Frag}{B:List Addr}{d:D}{xs:List V}(h:aH K B H [d] xs):∃x,xs=[x]/\Rep K B H d x:=by
 obtain⟨x,r,rfl,h1,h2⟩:=h.cw;unfold aH at h2;subst h2;exact⟨x,rfl,h1⟩
theorem aH.two{K:W.Frag}{B:List Addr}{d e:D}{xs:List V}(h:aH K B H [d,e] xs):∃x y,xs=[x,y]/\Rep K B H d x/\Rep K B H e y:=by
 obtain⟨x,r,rfl,h1,h2⟩:=h.cw;obtain⟨y,rfl,h3⟩:=h2.one;exact⟨x,y,rfl,h1,h3⟩
def j2:List D->R D
 | [.str x]=>R.bN (decide (x.length<=sizeLine)) (.ok (.int x.length))
 | [.lst ds]=> .ok (.int ds.length)
 | [.tup ds]=> .ok (.int ds.length)
 | _=> .no
theorem ju:cK X (.builtin "len") j2:=cK.of HJ fun B H ds d xs Q _ rs hg q=>by
 unfold j2 at hg;split at hg
 .obtain⟨h1,h2⟩:=R.bc hg;cases h2;obtain⟨x,rfl,r⟩:=rs.one;exact⟨x,_,rfl,by rw[Rep.str.mp r];exact⟨of_decide_eq_true h1,rfl⟩,q _ H (aU.refl H) (Rep.int.mpr rfl)⟩
 .cases hg;obtain⟨x,rfl,r⟩:=rs.one;obtain⟨a,ys,rfl,l,r⟩:=Rep.lst.mp r;exact⟨_,_,rfl, .inl ⟨ys,l.sq,rfl⟩,q _ H (aU.refl H) (Rep.int.mpr (by rw[r.length]))⟩
 .cases hg;obtain⟨x,rfl,r⟩:=rs.one;obtain⟨a,ys,rfl,l,r⟩:=Rep.tup.mp r;exact⟨_,_,rfl, .inr ⟨ys,l.sq,rfl⟩,q _ H (aU.refl H) (Rep.int.mpr (by rw[r.length]))⟩
 .cases hg
def cInt:List D->R D
 | [.int i]=> .ok (.int i)
 | [.bl b]=> .ok (.int (if b then 1 else 0))
 | _=> .no
theorem Qu:cK X (.type "int") cInt:=cK.of Fd fun B H ds d xs Q _ rs hg q=>by
 unfold cInt at hg;split at hg
 .cases hg;obtain⟨x,rfl,r⟩:=rs.one;exact .inl ⟨_,by rw[Rep.int.mp r],q _ H (aU.refl H) (Rep.int.mpr rfl)⟩
 .cases hg;obtain⟨x,rfl,r⟩:=rs.one;exact .inr ⟨_,by rw[Rep.bl.mp r],q _ H (aU.refl H) (Rep.int.mpr rfl)⟩
 .cases hg
def cStr:List D->R D
 | [.int i]=>R.bN (decide (i.natAbs.log2 < 1920)) (.ok (.str (toString i)))
 | _=> .no
def N6:List D->R D
 | [.int i, .int j]=> .ok (.int (if j < i then j else i))
 | _=> .no
theorem Qq(hc:X.calm=true):cK X (.builtin "min") N6:=cK.of (F4 hc) fun B H ds d xs Q _ rs hg q=>by
 unfold N6 at hg;split at hg
 .cases hg;obtain⟨x,y,rfl,r1,r2⟩:=rs.two;exact⟨_,_,by rw[Rep.int.mp r1,Rep.int.mp r2],q _ H (aU.refl H) (Rep.int.mpr rfl)⟩
 .cases hg
def OB:List D->R D
 | [.int i, .int j]=> .ok (.int (if j > i then j else i))
 | _=> .no
theorem Qe(hc:X.calm=true):cK X (.builtin "max") OB:=cK.of (F8 hc) fun B H ds d xs Q _ rs hg q=>by
 unfold OB at hg;split at hg
 .cases hg;obtain⟨x,y,rfl,r1,r2⟩:=rs.two;exact⟨_,_,by rw[Rep.int.mp r1,Rep.int.mp r2],q _ H (aU.refl H) (Rep.int.mpr rfl)⟩
 .cases hg
def oK:List D->R D
 | [.lst ds]=> .ok (.tup ds)
 | [.tup ds]=> .ok (.tup ds)
 | _=> .no
theorem rV:cK X (.type "tuple") oK:=cK.of xj fun B H ds d xs Q hb rs hg q=>by
 unfold oK at hg;split at hg
 .cases hg;obtain⟨x,rfl,r⟩:=rs.one;obtain⟨a,ys,rfl,l,r⟩:=Rep.lst.mp r;refine⟨a,ys,rfl, .inl ⟨l.sq,fun p hp=>q _ _ (aR hp) (Rep.tup.mpr ⟨p,ys,rfl, .inl ⟨fun ha=>?_, .inl aX⟩,r.same (aR hp)⟩)⟩⟩
  obtain⟨o,ho⟩:=hb p ha;rw[hp] at ho;cases ho
 .cases hg;obtain⟨x,rfl,r⟩:=rs.one;have r0:=r;obtain⟨a,ys,rfl,l,r⟩:=Rep.tup.mp r;exact⟨a,ys,rfl, .inr ⟨l.sq,q _ H (aU.refl H) r0⟩⟩
 .cases hg
def A6:List D->R D
 | [.lst ds]=> .ok (.lst ds)
 | [.tup ds]=> .ok (.lst ds)
 | _=> .no
theorem BN:cK X (.type "list") A6:=cK.of yy fun B H ds d xs Q hb rs hg q=>by
 unfold A6 at hg;split at hg
 .cases hg;obtain⟨x,rfl,r⟩:=rs.one;obtain⟨a,ys,rfl,l,r⟩:=Rep.lst.mp r;refine⟨a,ys,rfl, .inl l.sq,fun p hp=>q _ _ (aR hp) (Rep.lst.mpr ⟨p,ys,rfl, .uV aX fun ha=>?_,r.same (aR hp)⟩)⟩
  obtain⟨o,ho⟩:=hb p ha;rw[hp] at ho;cases ho
 .cases hg;obtain⟨x,rfl,r⟩:=rs.one;obtain⟨a,ys,rfl,l,r⟩:=Rep.tup.mp r;refine⟨a,ys,rfl, .inr l.sq,fun p hp=>q _ _ (aR hp) (Rep.lst.mpr ⟨p,ys,rfl, .uV aX fun ha=>?_,r.same (aR hp)⟩)⟩
  obtain⟨o,ho⟩:=hb p ha;rw[hp] at ho;cases ho
 .cases hg
def cAbs:List D->R D
 | [.int i]=> .ok (.int (if i < 0 then -i else i))
 | _=> .no
theorem Mh:cK X (.builtin "abs") cAbs:=cK.of GR fun B H ds d xs Q _ rs hg q=>by
 unfold cAbs at hg;split at hg
 .cases hg;obtain⟨x,rfl,r⟩:=rs.one;exact⟨_,by rw[Rep.int.mp r],q _ H (aU.refl H) (Rep.int.mpr rfl)⟩
 .cases hg
def Nb:List D->R D
 | [.lst ds]=>(match ints? ds with | some ns=> .ok (.int ns.sum) | none=> .no)
 | _=> .no
theorem fV:∀{ns:List Int} {us:List Value},Vals (ns.map V.int) us->∃l:List (Int × Tok),us=l.map (fun p=>Value.int p.1 p.2)/\l.map (·.1)=ns
 | [],_, .nil=>⟨[],rfl,rfl⟩
 | n ::ns,_, .cons r t=>by
   obtain⟨l,rfl,e⟩:=fV t;obtain⟨tk,rfl⟩:=r;exact⟨(n,tk) ::l,rfl,by rw[List.map_cons,e]⟩
theorem Q3(hc:X.calm=true):cK X (.builtin "sum") Nb:=by
 intro pins s σ H B ds d xs us I hb rx rs hg;unfold Nb at hg;split at hg
 .split at hg
  .rename_i es ns e;cases hg;obtain⟨x,rfl,r⟩:=rs.one;obtain⟨a,ys,rfl,l,r⟩:=Rep.lst.mp r;obtain⟨u,rfl,ru⟩:=vals1 rx;cases ru;obtain⟨its,n,rv,e1,hz⟩:=I.Mp l;rw[dG r e] at rv;obtain⟨ps,rfl,rfl⟩:=fV rv;have hl:s.heap.IsList a (intItems ps.toArray):=⟨_,e1,rfl,n,by simp [intItems]⟩
   refine sum_intListG (I.ok.hd hc) hl fun h' tk t' k=>⟨.int _,H,I.kept k,⟨t',rfl⟩,aU.refl H,Rep.int.mpr ?_⟩
   rw[preSum_eq,List.take_of_length_le (by simp)]
  .cases hg
 .cases hg
def tyName:D->String
 | .cu=>"NoneType" | .bl _=>"bool" | .int _=>"int" | .str _=>"str" | .lst _=>"list" | .tup _=>"tuple" | .dct _ _=>"dict"
def WQ(T:String)(f:FD):FD:=fun δ=>(f δ).bind fun d=>R.bN (tyName d==T && d.atom) (.ok (.bl true))
def YR(X:Cx)(id:String)(g:D->List D->R D):Prop:=
 ∀(pins:Zk) (s:Shared) (σ:St) (H:Hp) (B:List Addr) (da d:D) (ds:List D) (x:V) (xs:List V) (v:Value) (us:List Value),Inv X pins σ H s->(∀a∈B,∃o,H a=some o)->RelV x v->Vals xs us->Rep X.K B H da x->aH X.K B H ds xs->g da ds= .ok d->
  wpAny (model X.prog X.w) X.A (call (.builtin id) (v ::us)) (EP X pins σ fun z H'=>aU H H'/\Rep X.K B H' d z) X.xe s
def Y0(T:String)(g:D->List D->R D)(f:FD)(fs:av->R (List D)):FD:=fun δ=>(f δ).bind fun d=>R.bN (tyName d==T && (d.atom || T=="list")) ((fs δ).bind fun ds=>g d ds)
def Vh(d:D)(ds:List D):R D:=match d,ds with
 | .str sep,[.lst es]=>(match strs? es with | some ss=>R.bN (JoinOk sep ss) (.ok (.str (Str.join sep ss))) | none=> .no)
 | _,_=> .no
abbrev PJ(X:Cx)(es:List Expr)(f:av->R (List Str)):Prop:=
 ∀(pins:Zk) (s:Shared) (σ:St) (H:Hp) (Z B:List Addr) (δ:av) (acc:Str) (ss:List Str) (Q:VK),Inv X pins σ H s->eR X.K Z B H σ δ->f δ= .ok ss->(ss.foldl (·++·) acc).length<=sizeLine->(∀H',aU H H'->Q (.str (ss.foldl (·++·) acc)) H')->
  wpAny (model X.prog X.w) X.A (joinParts acc (evalEach es X.env)) (EP X pins σ Q) X.xe s
def WH:av->R (List Str):=fun _=> .ok []
def VF(f:FD)(g:av->R (List Str)):av->R (List Str):=fun δ=>(f δ).bind fun d=>match d with | .str x=>(g δ).bind fun ss=> .ok (x ::ss) | _=> .no
def Sg(g:av->R (List Str)):FD:=fun δ=>(g δ).bind fun ss=>R.bN (decide ((ss.foldl (·++·) Str.empty).length<=sizeLine)) (.ok (.str (ss.foldl (·++·) Str.empty)))
def Tv:D->R D
 | .str x=>R.bN (decide (x.length<=sizeLine)) (.ok (.str x))
 | .int i=>R.bN (decide (i.natAbs.log2 < 1920)) (.ok (.str (toString i)))
 | _=> .no
def W9(f:FD):FD:=fun δ=>(f δ).bind Tv
def QX:List (D × D)->Str->R (Option D)
 | [],_=> .ok none
 | (.str y,d) ::r,x=>(QX r x).bind fun o=> .ok (match o with | some e=>some e | none=>if y=x then some d else none)
 | _ ::_,_=> .no
def Qh(x:Str):List D:=x.cps.toList.map fun c=> .str ⟨#[c]⟩
def YU(x:Str):It:=⟨fun i _=>i < x.cps.size,fun i H v H'=>H'=H/\∃c,x.cps[i]? =some c/\v= .str ⟨#[c]⟩,fun i _=>x.cps.size<=i⟩
def VJ(f:FD):av->R (List D):=fun δ=>(f δ).bind fun d=>match d with | .str x=> .ok (Qh x) | _=> .no
def Wu(K:W.Frag)(a:Addr):It:=
 ⟨fun i H=>∃xs x,qT K H a xs/\xs[i]? =some x,fun i H v H'=>∃p x,H p=none/\v= .ref p/\(∀xs,qT K H a xs->xs[i]? =some x)/\H'=upd H p (.tup [.int i,x]),fun i H=>∃xs,qT K H a xs/\xs.length<=i⟩
theorem E4{K:W.Frag}{k:Nat}(a e it:Addr)(PR:e≠it):Turn P w K (.Tuple elts k pos) (Wu K a) [e,it] e (fun i h=>(∃old,IsEnum h e it ((i:Nat):Int) old)/\h.IsListIter it a i) where
 mem:=by simp
 obj:=fun i h st b hb=>by
  obtain⟨⟨old,he⟩,o,ho,c,d⟩:=st;rcases List.mem_cons.mp hb with rfl | hb
  .exact⟨_,he,fun v z=>by cases z⟩
  .have e:b=it:=by simpa using hb
   subst e;exact⟨o,ho,fun v z=>by rw[d] at z;cases z⟩
 keep:=fun i h h' st k=>by
  obtain⟨⟨old,he⟩,hi⟩:=st;exact⟨⟨old,k e (by simp) _ he⟩,hi.at fun o x=>k it (by simp) o x⟩
 item:=by
  intro X hP hw hK hc i pins s σ H E I hf st hg;subst hP hw hK;obtain⟨xs,x,hq,hx⟩:=hg;obtain⟨its,rv,p,hz⟩:=I.list hq;obtain⟨u,hu,ru⟩:=rv.get hx;obtain⟨⟨old,he⟩,hit⟩:=st;obtain⟨f0,f1,f2,f3,f4,f5⟩:=hf e (by simp)
  obtain⟨g0,g1,g2,g3,g4,g5⟩:=hf it (by simp)
  refine wpAny_pyNext_enum_item he hit p.isList (x:=u) (by simpa using hu) PR fun jM JX Dk JC qe yj=>⟨_,rfl,?_⟩
  refine wpAny_letOwnedTupleGo_enum JX fun gH JK dh=>?_
  replace dh:Heap.SameBut e jM gH:=dh
  have hel:e < s.heap.objs.size:=Heap.lt_size he;have Bu:gH.get? s.heap.objs.size=some {cls:= .type "tuple",data:= .seq #[.int i s.toks,u]}:=(dh.2 _ (Nat.ne_of_gt hel)).trans JC;have kk:∀b o,b≠e->b≠it->s.heap.get? b=some o->gH.get? b=some o:=fun b o h1 h2 q=>(dh.2 b h1).trans (yj b o h1 h2 q)
  have hn:H s.heap.objs.size=none:=I.fresh;have sm:aU H (upd H s.heap.objs.size (.tup [.int i,x])):=aR hn;have nit:∀b o,H b=some o->b≠e/\b≠it:=fun b o q=>⟨fun z=>(by rw[z,f0] at q;cases q),fun z=>(by rw[z,g0] at q;cases q)⟩
  have hok:pR X.prog X.w (upd H s.heap.objs.size (.tup [.int i,x])) gH:=fun b ob q=>by
   by_cases hb:b=s.heap.objs.size
   .subst hb;rw[aX] at q;cases q;exact⟨by show 2<=sizeLine;decide,[.int i s.toks,u], .cons ⟨_,rfl⟩ (.cons ru .nil),⟨_,Bu,rfl,_,rfl⟩⟩
   .rw [bb hb] at q;refine(I.hok b ob q).yN (fun c v hc z=>?_) (fun c z=>sm c _ z) fun c ys z=>sm c _ z
    rcases hc with rfl | hc
    .exact kk c v (nit c _ q).1 (nit c _ q).2 z
    .exact kk c v (nit c _ hc).1 (nit c _ hc).2 z
  have nch:∀b,b ∉ [e,it]->b≠e/\b≠it:=fun b hb=>⟨fun z=>hb (by simp [z]),fun z=>hb (by simp [z])⟩
  have I2:Inv X pins σ (upd H s.heap.objs.size (.tup [.int i,x])) {s with heap:=gH,toks:=s.toks+1}:=by
   refine I.step (g':=s.gens) (d':=s.drawn) (ch:=[e,it]) (fun b hb=>?_) (fun b o _ _ hb q _=>kk b o (nch b hb).1 (nch b hb).2 q) (fun b o _ _ hb q _=>⟨o.slots,kk b o (nch b hb).1 (nch b hb).2 q⟩)
    (fun b o hb q n=>by rw[bb (Nat.ne_of_lt (Heap.lt_size q))];exact n) (fun b o hb q=>⟨o,kk b o (nch b hb).1 (nch b hb).2 q⟩) (fun b ys z=>sm b _ z) (fun b o u z=>sm b _ z) (fun b ps z=>⟨#[],by rw[sm b _ z];simp⟩) (fun m hm=>?_) hok I.bare
   .rcases List.mem_cons.mp hb with rfl | hb
    .exact⟨f3,f1,f4,f5⟩
    .have z:b=it:=by simpa using hb
     subst z;exact⟨g3,g1,g4,g5⟩
   .obtain⟨o,es,ep,ho,r⟩:=hm;exact⟨o,es,ep,kk _ o (Ne.symm f1) (Ne.symm g1) ho,r⟩
  refine⟨.ref s.heap.objs.size,_,I2,rfl,⟨s.heap.objs.size,x,hn,rfl,fun ys hy=>(by rw[I.rn hy hq];exact hx),rfl⟩,⟨⟨_,by simpa using JK⟩,Dk.at fun o q=>(dh.2 it (Ne.symm PR)).trans q⟩,fun b hb=>?_⟩
  rcases List.mem_cons.mp hb with rfl | hb
  .rw [bb (Nat.ne_of_lt hel)];exact f0
  .have z:b=it:=by simpa using hb
   subst z;obtain⟨o,ho,_⟩:=hit;rw[bb (Nat.ne_of_lt (Heap.lt_size ho))];exact g0
 done:=by
  intro X hP hw hK hc i pins s σ H E I hf st hg;subst hP hw hK;obtain⟨xs,hq,hx⟩:=hg;obtain⟨its,rv,p,hz⟩:=I.list hq;obtain⟨⟨old,he⟩,hit⟩:=st;obtain⟨g0,g1,g2,g3,g4,g5⟩:=hf it (by simp)
  have hl:=rv.length;exact wpAny_pyNext_enum_end (I.ok.hd hc) he hit p.isList (by simp;omega) fun h' eb=>⟨rfl,I.turned (t':=s.toks) (fun b o hb q=>eb b o hb q) g0 g1 g3 g4 g5⟩
 self:=fun A i s Q E st h=>let⟨⟨_,he⟩,_⟩:=st;wpAny_pyIter_enum he h
def cm(ds:List D):List D:=ds.zipIdx.map fun p=> .tup [.int p.2,p.1]
def fN(f:FD):av->R (List D):=fun δ=>(f δ).bind fun d=>match d with | .lst ds=> .ok (cm ds) | _=> .no
theorem Bi{elts:List Expr}{k:Nat}{tK:Pos}{p pos:Pos}(h:PD X a f)(hg:Gl X "enumerate")(hm:X.mg "enumerate"=none)(hs:starEach [a] X.env=[(false,eval a X.env)]:=by rfl):Pk X (.Tuple elts k tK) (.Call (.Name "enumerate" p) [a] [] pos) (fN f):=by
 intro pins s σ H RR I ⟨Z,B,δ,ds,E,hf,q⟩;obtain⟨d,h1,h2⟩:=R.ai hf;have hA:=fI h jG hs pos pins s σ H (fun vs H1=>aU H H1/\∃v,vs=[v]/\Rep X.K B H1 d v) I ⟨Z,B,δ,d,E,h1,fun v H1 s1 r1=>⟨s1,v,rfl,r1⟩⟩
 refine Call_ (lQ I hg hm boot_enumerate (PyProof.Rows.callWith_type1 (d6 hA fun us s1 ⟨vs,H1,I1,r1,ss,v,ev,rr⟩=>?_) hs rfl))
 subst ev;obtain⟨u,rfl,ru⟩:=vals1 r1;cases d with
 | lst es=>
   cases h2;obtain⟨b,xs,rfl,l,rs⟩:=Rep.lst.mp rr;cases ru;obtain⟨its,n,rv,e1,hz⟩:=I1.Mp l;refine call_enumerate_list (items:=its.toArray) ⟨_,e1,rfl,n,rfl⟩ fun h' he hit hsz kk=>wpAny_pyIter_enum he ?_
   have I2:Inv X pins σ H1 {s1 with heap:=h'}:=I1.kept (t':=s1.toks) kk
   refine⟨s1.heap.objs.size+1,[s1.heap.objs.size+1,s1.heap.objs.size],_,_,H1,rfl,I2,E4 b (s1.heap.objs.size+1) s1.heap.objs.size (Nat.succ_ne_self _),⟨⟨_,he⟩,hit⟩,fun c hc=>?_,q _ H1 ss fun B' H' pr=>?_⟩
   .have hle:s1.heap.objs.size<=c:=by
     rcases List.mem_cons.mp hc with z | hc
     .rw [z];exact Nat.le_succ _
     .have z:c=s1.heap.objs.size:=by simpa using hc
      rw[z];exact Nat.le_refl _
    exact I1.vm hle (I1.hok.fresh hle)
   .have l':wL X.K B' H' b xs:=l.bq pr;have rs':=rs.bq pr;refine⟨fun i d hd=>?_,⟨xs,l'.sq,by rw[<-rs.length];unfold cm;simp⟩⟩
    unfold cm at hd;rw[List.getElem?_map,List.getElem?_zipIdx] at hd;cases e:es[i]? with
    | none=>rw [e] at hd;cases hd
    | some d0=>
      rw[e] at hd;have hd:D.tup [.int ((0+i:Nat):Int),d0]=d:=Option.some.inj hd;rw[Nat.zero_add] at hd;obtain⟨x,hx,rx⟩:=rs'.get e;refine⟨⟨xs,x,l'.sq,hx⟩,fun v nY y JJ=>?_⟩
      obtain⟨p,y,hp,rfl,hy,rfl⟩:=y;refine⟨aR hp,?_⟩;subst hd;have zI:=hy xs l'.sq;rw[hx] at zI;cases zI;refine Rep.tup.mpr ⟨p,_,rfl, .inl ⟨fun ha=>?_, .inl aX⟩,aH.cons (Rep.int.mpr rfl) (aH.cons (rx.same (aR hp)) aH.nil)⟩
      obtain⟨o,ho⟩:=JJ p ha;rw[hp] at ho;cases ho
 | _=>cases h2
end
end L2
end
section
namespace L2
open PySem PySem.Spec PyProof.Rows
def Def(K:W.Frag)(mg:Zp)(x:Str)(st:Stmt):Prop:=∃f fd,ED K x x st f fd/\mg x=some (.ref f)
def Callee(P:Program)(w:World)(K:W.Frag)(mg:Zp)(base:Heap)(k:Nat)(x:Str)(n:Nat)(g:List D->R D):Prop:=
 ∃f fd ps,jI P w K mg base wJ k f fd ps (IY K n g)/\mg x=some (.ref f)/\PySem.W.keepIn K (.ref f)=true/\Binds K fd ps []
theorem bH:∀(δ:av) (ds:List D),aJ δ= .ok ds->ds.length=0:=fun δ ds h=>by cases h;rfl
theorem aG{g:av->R (List D)}{n:Nat}(h:∀(δ:av) (ds:List D),g δ= .ok ds->ds.length=n):∀(δ:av) (ds:List D),ak f g δ= .ok ds->ds.length=n+1:=fun δ ds e=>by
 obtain⟨d,h1,h2⟩:=R.ai e;obtain⟨es,h3,h4⟩:=R.ai h2;cases h4;rw[List.length_cons,h δ es h3]
theorem IF{P:Program}{w:World}{K:W.Frag}{mg:Zp}{base:Heap}{x qual:Str}{st:Stmt}{f:Addr}{fd:FuncData}{N ps:List Str}{k:Nat}{F:FS}{b:List Stmt}{sc:Scope}(hb:aK st=b)(hs:ay st=sc)(Fn:ED K x qual st f fd)(S:aT N ps sc)
 (mK:∀(dF:Value) (A:Around) (outer:List Env) (s:Shared) (H:Hp) (E:XK),fq k (A.deeper (envOfC qual sc s.heap.objs.size f dF))->
   uv (vY wJ P w K mg base N qual sc f dF A outer s H E).Lp b F):jI P w K mg base wJ (k+1) f fd ps (IY K ps.length (tV N F)):=by
 subst hb hs;exact KY Fn S mK
section
variable {X:Cx}
theorem Hw{g:List D->R D}{k j n:Nat}{x:Str}{p pos:Pos}{e:Expr}{es:List Expr}{fs:av->R (List D)}(C:Callee X.prog X.w X.K X.mg X.base k x n g)(hr:fq j X.A)(Jv:k<=j)(hg:Gl X x)(ha:JP X (e ::es) fs)
 (hn:∀δ ds,fs δ= .ok ds->ds.length=n) (se:(x==("__debug__":Str))=false:=by decide) (he:starEach (e ::es) X.env=(false,eval e X.env) ::starEach es X.env:=by rfl) (nX:(backTo pos (starEach es X.env)).any (·.1)=false:=by rfl) :
 PD X (.Call (.Name x p) (e ::es) [] pos) (aS g fs):=by
 obtain⟨f,fd,ps,F,hm,hk,hb⟩:=C;exact Ln F (hr.mono Jv) hg hm hk hb ha hn se he nX
def Rb(sc:Scope)(N:List Str)(scope:Scope)(kp:List Nat)(kn:List Str):Bool:=
 decide (scope.kind= .function) && scope.names.all (fun y=>decide (y.2= .cell->scope.names.lookup y.1=some .cell)) && scope.names.all (fun y=>decide (y.2= .local->scope.names.lookup y.1=some .local))
  && scope.names.all (fun y=>decide (y.2= .free->(sc.names.lookup y.1=some .cell\/sc.names.lookup y.1=some .free))) && scope.names.all (fun y=>decide (y.2= .free->scope.names.lookup y.1=some .free)) && decide (kn.length=kp.length)
  && (List.range kp.length).all (fun j=>decide ((kp[j]?).bind (N[·]?)=kn[j]?)) && kn.all (fun x=>decide (scope.names.lookup x=some .free))
theorem bz.of{own:List Str}{kp:List Nat}{kn:List Str}{N:List Str}(h1:X.env.scope=sc)(h2:X.N=N)(h:Rb sc N scope kp kn=true):bz X scope own kp kn:=by
 unfold Rb at h;simp only[Bool.and_eq_true,decide_eq_true_eq,List.all_eq_true] at h;obtain⟨⟨⟨⟨⟨⟨⟨a1,a2⟩,a3⟩,a4⟩,a8⟩,a5⟩,a6⟩,a7⟩:=h;refine⟨a1,a2,a3,fun y hy hf=>?_,a8,a5,fun j i x hj hx=>?_,a7⟩
 .have:=a4 y hy hf;unfold Env.kindOf;rw[h1];exact this
 .have hlt:j < kp.length:=(List.getElem?_eq_some_iff.mp hj).1;have:=a6 j (List.mem_range.mpr hlt);rw[hj] at this;rw[h2];exact this.trans hx
def Wg(kvs:List (Key × V))(f g:FD):FD:=fun δ=>(f δ).bind fun k=>(g δ).bind fun d=>match k with
 | .str x=>(match jw (lV [] kvs) (Sum.inr x) with | some (.int i)=> .ok (.int i) | none=> .ok d | _=> .no)
 | _=> .no
def U9(i:Nat)(f:FD):FS:=fun δ=>(f δ).bind fun d=>match d with
 | .lst es=>(ye δ i).bind fun ds=>R.bN (decide (ds.length+es.length<=sizeLine)) (.ok (.nx (δ.set i (.bld (ds++es)))))
 | _=> .no
end
end L2
end
section
namespace L2
open PySem PySem.Spec PyProof.Rows
structure QD (X:Cx) (e:Expr) (f:FD):Prop where
 h:PD X e f
structure QN (X:Cx) (e:Expr) (f:av->R (List D)):Prop where
 h:PN X e f
structure QB (X:Cx) (e:Expr) (f:av->R Bool):Prop where
 h:PB X e f
structure O2 (X:Cx) (e:Expr) (f:av->R Bool):Prop where
 h:JR X e f
structure Mt (X:Cx) (e:List Expr) (f:av->R (List D)):Prop where
 h:JP X e f
structure Mi (X:Cx) (e:Stmt) (f:FS):Prop where
 h:J6 X e f
structure wQ (X:Cx) (e:List Stmt) (f:FS):Prop where
 h:uv X e f
structure Px (X:Cx) (e:Expr) (f:FT):Prop where
 h:Pm X e f
structure J8 (X:Cx) (e:List Expr) (f:HC):Prop where
 h:IV X e f
structure BE (X:Cx) (tg e:Expr) (f:av->R (List D)):Prop where
 h:Pk X tg e f
structure QP (X:Cx) (e:Option Expr) (f:FO):Prop where
 h:PP X e f
structure QJ (X:Cx) (e:List Expr) (f:av->R (List Str)):Prop where
 h:PJ X e f
structure Lb (X:Cx) (e:List Expr) (c:av->R Bool):Prop where
 h:sr X e (Nh X.K c)
section
variable {X:Cx}
theorem bt{f:av->R (List D)}(h:QN X e f):QD X e (eNew f):=⟨NB h.1⟩
theorem aa(i:Nat){pos:Pos}(hN:X.N[i]? =some x:=by rfl)(hv:KP X.env.scope x:=by first | exact Or.inl rfl | exact Or.inr (Or.inl rfl) | exact Or.inr (Or.inr rfl))(hd:(x==("__debug__":Str))=false:=by decide)(wF:(x==("__classdict__":Str))=false:=by decide):QD X (.Name x pos) (ae i):=⟨Np i hN hv hd wF⟩
theorem af{i j pos}:QD X (.Constant (.int i) j pos) (eC (.int i)):=⟨NX⟩
theorem sF{b j pos}:QD X (.Constant (.bool b) j pos) (eC (.bl b)):=⟨Q_⟩
theorem i8{j pos}:QD X (.Constant .none j pos) (eC .cu):=⟨OZ⟩
theorem bO{x j pos}:QD X (.Constant (.str x) j pos) (eC (.str x)):=⟨NU⟩
theorem ag:Mt X [] aJ:=⟨Kg⟩
theorem ab{g:av->R (List D)}(h:QD X e f)(t:Mt X es g)(hs:starEach (e ::es) X.env=(false,eval e X.env) ::starEach es X.env:=by rfl):Mt X (e ::es) (ak f g):=⟨GD h.1 t.1 hs⟩
theorem bA{g:av->R (List D)}{x1 pos}(h:Mt X es g):QD X (.Tuple es x1 pos) (d5 g):=⟨MX h.1⟩
theorem bJ{g:av->R (List D)}{pos}(h:Mt X es g):QN X (.List es pos) (d_ g):=⟨Oe h.1⟩
theorem aw{op:Operator}{g:D->D->R D}(ho:lq X (binaryOp op) g)(ha:QD X a fa)(hb:QD X b fb):QD X (.BinOp a op b pos) (e2 g fa fb):=⟨P2 ho ha.1 hb.1⟩
theorem jR{op:CmpOp}{g:D->D->R D}(ho:lq X (compareOp op) g)(ha:QD X a fa)(hb:QD X b fb)(hm:behindInMarks op b=false):QD X (.Compare a [op] [b] pos) (e2 g fa fb):=⟨O0 ho ha.1 hb.1 hm⟩
theorem bx{op:CmpOp}{g:D->D->R D}(ho:lq X (compareOp op) g)(ha:QD X a fa)(hb:QD X b fb)(hm:behindInMarks op b=false):QB X (.Compare a [op] [b] pos) (b2 g fa fb):=⟨N4 ho ha.1 hb.1 hm⟩
theorem uK{a:Expr}(ha:QD X a f)(he:∀whole,isTrue a X.env whole=(do let v <-whole;standAt a.pos;holding [v] (truthy v)):=by intro _;rfl):QB X a (ym f):=⟨OC ha.1 he⟩
theorem uL{f:av->R Bool}(h:O2 X e f):QB X e f:=⟨JR.pb h.1⟩
theorem yf{f:av->R Bool}(h:QB X a f):O2 X (.BoolOp .And [a] pos) f:=⟨GP h.1⟩
theorem Bb{f:av->R Bool}(h:QB X a f):O2 X (.BoolOp .Or [a] pos) f:=⟨Le h.1⟩
theorem zR{rest:List Expr}{f g:av->R Bool}(ha:QB X a f)(hb:O2 X (.BoolOp .And (b ::rest) pos) g):O2 X (.BoolOp .And (a ::b ::rest) pos) (Gb f g):=⟨Kw ha.1 hb.1⟩
theorem Ek{rest:List Expr}{f g:av->R Bool}(ha:QB X a f)(hb:O2 X (.BoolOp .Or (b ::rest) pos) g):O2 X (.BoolOp .Or (a ::b ::rest) pos) (Mr f g):=⟨N8 ha.1 hb.1⟩
theorem yz{f:av->R Bool}(ha:QB X a f):QB X (.UnaryOp .Not a pos) (Cm f):=⟨N9 ha.1⟩
theorem Es{op}(h:QD X a f):QD X (.BoolOp op [a] pos) f:=⟨Ny h.1⟩
theorem Hr{rest:List Expr}(ha:QD X a f)(hb:QD X (.BoolOp .Or (b ::rest) pos) g):QD X (.BoolOp .Or (a ::b ::rest) pos) (Pw f g):=⟨Q7 ha.1 hb.1⟩
theorem CH{fc:av->R Bool}(hc:QB X c fc)(ha:QD X a f)(hb:QD X b g):QD X (.IfExp c a b pos) (Ow fc f g):=⟨Ro hc.1 ha.1 hb.1⟩
theorem ba{g:List D->R D}{id:String}{p pos:Pos}{fs:av->R (List D)}(hc:cK X (.builtin id) g)(hg:Gl X x)(hm:X.mg x=none)(hv:bootBuiltins x=some (.builtin id))(ha:Mt X (e ::es) fs)(hn:x≠"__name__":=by decide)(se:(x==("__debug__":Str))=false:=by decide)(he:starEach (e ::es) X.env=(false,eval e X.env) ::starEach es X.env:=by rfl)(nX:(backTo pos (starEach es X.env)).any (·.1)=false:=by rfl):QD X (.Call (.Name x p) (e ::es) [] pos) (aS g fs):=⟨Il hc hg hm hv ha.1 hn se he nX⟩
theorem dc{g:List D->R D}{T:String}{p pos:Pos}{fs:av->R (List D)}(hc:cK X (.type T) g)(hg:Gl X x)(hm:X.mg x=none)(hv:bootBuiltins x=some (.type T))(ha:Mt X (e ::es) fs)(hn:x≠"__name__":=by decide)(se:(x==("__debug__":Str))=false:=by decide)(he:starEach (e ::es) X.env=(false,eval e X.env) ::starEach es X.env:=by rfl)(nX:(backTo pos (starEach es X.env)).any (·.1)=false:=by rfl):QD X (.Call (.Name x p) (e ::es) [] pos) (aS g fs):=⟨Fs hc hg hm hv ha.1 hn se he nX⟩
theorem gO:wQ X [] uq:=⟨LJ⟩
theorem bf{st:Stmt}{rest:List Stmt}{F G:FS}(h1:Mi X st F)(h2:wQ X rest G):wQ X (st ::rest) (eZ F G):=⟨H0 h1.1 h2.1⟩
theorem aV{st:Stmt}{F:FS}(h1:Mi X st F):wQ X [st] F:=⟨Kf h1.1⟩
theorem dJ{i:Nat}{pos pos':Pos}(hN:X.N.Nodup)(hi:X.N[i]? =some x)(hx:Loc X.env.scope x)(he:QD X e f)(hs:swapsWith e (some (.Name x pos')) pos.line X.env=pure false:=by rfl)(hf:X.fn x=true\/X.env.scope.names.lookup x=some .local:=by first | exact .inl rfl | exact .inr rfl | assumption):Mi X (.Assign [.Name x pos'] e pos) (mN i f):=⟨K2 hN hi hx he.1 hs hf⟩
theorem uP{i:Nat}{f:av->R (List D)}{pos pos':Pos}(hN:X.N.Nodup)(hi:X.N[i]? =some x)(hx:Loc X.env.scope x)(he:QN X e f)(hs:swapsWith e (some (.Name x pos')) pos.line X.env=pure false:=by rfl)(hf:X.fn x=true\/X.env.scope.names.lookup x=some .local:=by first | exact .inl rfl | exact .inr rfl | assumption):Mi X (.Assign [.Name x pos'] e pos) (AI i f):=⟨Lu hN hi hx he.1 hs hf⟩
theorem ro{i:Nat}{x:Str}{e:Expr}{f:FD}{k5 apos dU pos:Pos}(hN:X.N[i]? =some x)(hv:KP X.env.scope x)(he:QD X e f)(hd:(x==("__debug__":Str))=false:=by decide)(wF:(x==("__classdict__":Str))=false:=by decide)(hs:starEach [e] X.env=(false,eval e X.env) ::starEach [] X.env:=by rfl)(sf:(apos.endLine==dU.line)=true:=by rfl)(zD:((backTo dU (starEach [e] X.env)).all (fun x=>!x.1) && (backToKw dU (keywordEach [] X.env)).all (fun x=>x.1.isSome)
 && decide (([e]:List Expr).length+([]:List Keyword).length+(if([]:List Keyword).isEmpty then 0 else 1) < 30))=true:=by rfl) (Jz:swapsWith (.Call (.Attribute (.Name x k5) "append" apos) [e] [] dU) none pos.line X.env=pure false:=by rfl) (r_:attributeBase (.Name x k5) "append" X.env (eval (.Name x k5) X.env)=eval (.Name x k5) X.env:=by rfl):Mi X (.Expr (.Call (.Attribute (.Name x k5) "append" apos) [e] [] dU) pos) (zW i f):=⟨Lh hN hv he.1 hd wF hs sf zD Jz r_⟩
theorem vb(i:Nat){F:FS}(h:wQ X MK F):wQ X MK (EW i F):=⟨Li i h.1⟩
theorem bC(he:QD X e f):Mi X (.Return (some e) pos) (fO f):=⟨KS he.1⟩
theorem ja{fc:av->R Bool}{F G:FS}(hc:QB X c fc)(ha:wQ X a F)(hb:wQ X b G):Mi X (.If c a b pos) (A4 fc F G):=⟨OI hc.1 ha.1 hb.1⟩
theorem aQ{i:Nat}{pos:Pos}(hN:X.N.Nodup)(hi:X.N[i]? =some x)(hx:Loc X.env.scope x)(hf:X.fn x=true\/X.env.scope.names.lookup x=some .local:=by first | exact .inl rfl | exact .inr rfl | assumption):Px X (.Name x pos) (aI i):=⟨Hq hN hi hx hf⟩
theorem iH:J8 X [] iy:=⟨Hz⟩
theorem cD{u:HC}(h1:Px X e t)(h2:J8 X es u)(hs:(assignEach (e ::es) X.env).map (·.2)=assign e X.env ::(assignEach es X.env).map (·.2):=by rfl):J8 X (e ::es) (cc t u):=⟨Fw h1.1 h2.1 hs⟩
theorem kD{k:Nat}{t:HC}{n:Nat}{pos:Pos}(hc:X.calm=true)(h:J8 X es t)(hn:(assignEach es X.env).length=n:=by rfl)(Jt:(assignEach es X.env).findIdx? (·.1)=none:=by rfl):Px X (.Tuple es k pos) (iu n t):=⟨KN hc h.1 hn Jt⟩
theorem br(h:QD X e f):BE X tg e (cq f):=⟨Kv h.1⟩
theorem bK{tg a:Expr}{p pos:Pos}(h:QD X a f)(hg:Gl X "range")(hm:X.mg "range"=none)(hs:starEach [a] X.env=[(false,eval a X.env)]:=by rfl):BE X tg (.Call (.Name "range" p) [a] [] pos) (dE f):=⟨Ck h.1 hg hm hs⟩
theorem g7{it:av->R (List D)}{F:FS}{pos:Pos}(hp:PassesOwn (model X.prog X.w) X.A X.env X.xe)(hc:X.calm=true)(hi:BE X tg iter it)(hg:Px X tg t)(hb:wQ X body F)(hs:∀x,foldedSetIterable iter X.env x=pure x:=by intro _;rfl):Mi X (.For tg iter body [] pos) (sY it t F):=⟨Kb hp hc hi.1 hg.1 hb.1 hs⟩
theorem cx{own:List Str}{kp:List Nat}{kn:List Str}{it:av->R (List D)}{c:av->R Bool}{pos:Pos}(hc:X.calm=true)(C:bz X scope own kp kn)(hi:BE X tg iter it)(hg:∀fp s H,Px (bM X scope (own++kn) fp s H) tg t)(Gp:∀fp s H,Lb (bM X scope (own++kn) fp s H) ifs c)(he:∀fp s H,QD (bM X scope (own++kn) fp s H) elt f)(hs:∀x,foldedSetIterable iter X.env x=pure x:=by intro _;rfl):QN X (.ListComp elt [⟨tg,iter,ifs,0⟩] scope pos) (cO it t c f own kp):=⟨Kr hc C hi.1 (fun fp s H=>(hg fp s H).1) (fun fp s H=>(Gp fp s H).1) (fun fp s H=>(he fp s H).1) hs⟩
theorem dq:Lb X [] j4:=⟨G5⟩
theorem gL{c:av->R Bool}(h:QB X e c):Lb X [e] c:=⟨LU h.1⟩
theorem aC(ha:QD X a fa)(hb:QD X b fb)(hs:uG b):QD X (.Subscript a b pos) (e2 cn fa fb):=⟨P0 ha.1 hb.1 hs⟩
theorem va:QP X none Bm:=⟨LP⟩
theorem vR(h:QD X e f):QP X (some e) (vk f):=⟨LD h.1⟩
theorem Nt{lo hi:Option Expr}{fl fh:FO}(he:QD X e f)(hl:QP X lo fl)(hh:QP X hi fh):QD X (.Subscript e (.Slice lo hi none p2) pos) (Rj f fl fh):=⟨P4 he.1 hl.1 hh.1⟩
theorem iK{elts:List Expr}{k:Nat}{tK:Pos}{p pos:Pos}(h:QD X a f)(hg:Gl X "enumerate")(hm:X.mg "enumerate"=none)(hs:starEach [a] X.env=[(false,eval a X.env)]:=by rfl):BE X (.Tuple elts k tK) (.Call (.Name "enumerate" p) [a] [] pos) (fN f):=⟨Bi h.1 hg hm hs⟩
theorem bZ{P:Program}{w:World}{K:W.Frag}{mg:Zp}{base:Heap}{x qual:Str}{st:Stmt}{f:Addr}{fd:FuncData}{N ps:List Str}{k:Nat}{F:FS}{b:List Stmt}{sc:Scope}(hb:aK st=b)(hs:ay st=sc)(Fn:ED K x qual st f fd)(S:aT N ps sc)(mK:∀(dF:Value) (A:Around) (outer:List Env) (s:Shared) (H:Hp) (E:XK),fq k (A.deeper (envOfC qual sc s.heap.objs.size f dF))->
 wQ (vY wJ P w K mg base N qual sc f dF A outer s H E).Lp b F):jI P w K mg base wJ (k+1) f fd ps (IY K ps.length (tV N F)):=IF hb hs Fn S (fun dF A outer s H E hr=>(mK dF A outer s H E hr).1)
theorem bo{g:List D->R D}{k j n:Nat}{p pos:Pos}{fs:av->R (List D)}(C:Callee X.prog X.w X.K X.mg X.base k x n g)(hr:fq j X.A)(Jv:k<=j)(hg:Gl X x)(ha:Mt X (e ::es) fs)(hn:∀δ ds,fs δ= .ok ds->ds.length=n)(se:(x==("__debug__":Str))=false:=by decide)(he:starEach (e ::es) X.env=(false,eval e X.env) ::starEach es X.env:=by rfl)(nX:(backTo pos (starEach es X.env)).any (·.1)=false:=by rfl):QD X (.Call (.Name x p) (e ::es) [] pos) (aS g fs):=⟨Hw C hr Jv hg ha.1 hn se he nX⟩
end
end L2
end
section
namespace L2
open PySem PySem.Spec PyProof.Rows
theorem E7{P:Program}{w:World}{K:W.Frag}{mg mb:Zp}{CX:GY}{k:Nat}{fa a:Addr}{fd:FuncData}{x:Str}{sp:Sp}{s₁:Shared}{vs:List Value}{ns:List Int}
 (KX:K.In s₁.heap) (Sv:s₁.heap.Ns mainGlobals mg) (hb:s₁.heap.Ns builtinsNs mb) (Yu:∀x:Str,x≠"__name__"->mb x=bootBuiltins x) (U0:s₁.heap.NoLimit) (hg:s₁.gens=#[])
 (ha:s₁.heap.get? a=some {cls:= .type "list",data:= .seq vs.toArray}) (hi:IntsAre vs ns) (hl:ns.length<=sizeLine) (hr:fq k callerA)
 (F:∀base:Heap,K.In base->base.Ns mainGlobals mg->jI P w K mg base CX k fa fd [x] sp) (RF:∀(s:Shared) (u:Value),BindsTo s fd ⟨[u],[]⟩ [(x,u)])
 (Pz:∀H:Hp,Rg H->wL K [] H a (ns.map V.int)->sp [.ref a] H (fun v _=>v= .bl true) fun _ _ _=>False)
 (Yo:∀H e s',CX [] H s₁ (fun _ _ _=>False) e s'->False) :
 codeAny (model P w) callerA (.call (.ref fa) ⟨[.ref a],[]⟩) (fun r s'=>r= .ok (.ret (.bool true))/\OldK s₁.heap s'.heap/\s'.os=s₁.os/\AllBare s'.gens) s₁:=by
 have rv:=xG hi;have lenV:=hi.length;have core:∀H:Hp,Rg H->wL K [] H a (ns.map V.int)->pR P w H s₁.heap->(∀b,H b≠none->b=a)->(H a≠none->K.lookup a=none)->
  codeAny (model P w) callerA (.call (.ref fa) ⟨[.ref a],[]⟩) (fun r s'=>r= .ok (.ret (.bool true))/\OldK s₁.heap s'.heap/\s'.os=s₁.os/\AllBare s'.gens) s₁:=by
  intro H hO hS hok hA hK;have EN:∀{b:Addr} {o:Obj},s₁.heap.get? b=some o->H b=none->(yV s₁.heap H).get? b=some o:=fun e n=>Ho e n
  have noA:∀{b:Addr} {o:Obj} {es:Array DictEntry} {ep:Nat},s₁.heap.get? b=some o->o.data= .dict es ep->H b=none:=fun {b o es ep} e d=>by
   cases q:H b with
   | none=>rfl
   | some u=>
     have e':b=a:=hA b (by rw[q];simp)
     subst e';rw[ha] at e;cases e;have d':Data.seq vs.toArray _=Data.dict es ep:=d;cases d'
  have nsK:∀{b:Addr} {m:Zp},s₁.heap.Ns b m->(yV s₁.heap H).Ns b m:=fun {b m} ⟨o,es,ep,e,d,r⟩=>⟨o,es,ep,EN e (noA e d),d,r⟩
  have hKb:K.In (yV s₁.heap H):=fun b o e=>EN (KX b o e) (by
   cases q:H b with
   | none=>rfl
   | some u=>
     have e':b=a:=hA b (by rw[q];simp)
     subst e';rw[hK (by rw[q];simp)] at e;cases e)
  have hM:Mod K mg (yV s₁.heap H):=⟨hKb,nsK Sv,⟨mb,nsK hb,Yu⟩,let⟨mc,h1,h2⟩:=U0;⟨mc,nsK h1,h2⟩⟩
  have e0:BH P w K mg (yV s₁.heap H) callerA [] s₁ H:=⟨rfl,hM,fun b o e=>KQ e,Nat.le_of_eq (FR _ _),trivial,fun b hb=>absurd (show b∈([]:List Addr) from hb) (by simp),hok, .of_eq hg⟩
  refine codeAny_mono ((F _ hKb (nsK Sv)).run callerA [] s₁ H ⟨[.ref a],[]⟩ [.ref a] [.ref a] _ _ hr e0 (RF s₁ (.ref a)) (.cons rfl .nil) (Pz H hO hS)) fun r s' h=>?_
  cases r with
  | error e=>exact(Yo H e s' h).elim
  | ok fl=>
    cases fl with
    | next=>exact False.elim h
    | brk=>exact False.elim h
    | cont=>exact False.elim h
    | ret u=>
      obtain⟨v,H',os,bare,un,U3,r',q⟩:=h;have q':v= .bl true:=q;subst q';obtain rfl:u=Value.bool true:=r';refine⟨rfl,OldK.of_keep fun b o e=>?_,os,bare⟩
      cases q:H b with
      | none=>exact un.keep b o e q (by intro z;exact absurd (show b∈([]:List Addr) from z) (by simp)) (by simp)
      | some u=>
        rcases hO b with z | ⟨ob,xs,z⟩
        .rw [q] at z;cases z
        .have z2:=un.frzs b ob _ z;obtain⟨e1,_⟩:=hok b _ z;obtain⟨e2,_⟩:=U3 b _ z2;rw[e] at e1;cases e1;exact e2
 cases hk:K.lookup a with
 | some o=>
   have e:=KX a o hk;rw[ha] at e;cases e;refine core (fun _=>none) (fun _=> .inl rfl) (.inr ⟨vs,_,hk,by rw[List.length_map];exact hl,rv⟩) (fun b u z=>by have z':(none:Option HO)=some u:=z;cases z') (fun b z=>absurd rfl z) fun z=>absurd rfl z
 | none=>
   refine core (fun b=>if b=a then some (.k4 {cls:= .type "list",data:= .seq vs.toArray} (.lst (ns.map V.int))) else none) (fun b=>?_) (.inl ⟨by simp, .inr ⟨{cls:= .type "list",data:= .seq vs.toArray},if_pos rfl⟩⟩) (fun b u z=>?_) (fun b z=>?_) fun _=>hk
   .by_cases hb:b=a
    .exact .inr ⟨_,_,if_pos hb⟩
    .exact .inl (if_neg hb)
   .by_cases hb:b=a
    .have z':=(if_pos hb).symm.trans z;cases z';subst hb;exact⟨ha,by rw[List.length_map];exact hl,vs,_,rv,ha⟩
    .have z':=(if_neg hb).symm.trans z;cases z'
   .by_cases hb:b=a
    .exact hb
    .exact absurd (if_neg hb) z
theorem ints_rep{K:W.Frag}{B:List Addr}:∀ns:List Int,aH K B H (ns.map D.int) (ns.map V.int)
 | []=>aH.nil
 | n ::ns=>aH.cons (Rep.int.mpr rfl) (ints_rep ns)
theorem PY{l:PySem.W.OpenLaw}{n k:Nat}{q:Program}{loose:List Str}{XP:(Str->Option Value)->Heap->Prop}{YP:World->Heap->Prop}{d:DefRec}{K:Params->W.Frag}{x:Str}{g:List D->R D}
 (hn:l.most=some n) (Sj:n<=sizeLine) (UU:d.params.defaults=[]) (hr:fq k callerA) (hY:∀(w:World) (h:Heap),YP w h->(K w.params).In h)
 (F:∀(w:World) (mg:Zp) (fa:Addr) (h:Heap),(K w.params).In h->h.Ns mainGlobals mg->mg d.name=some (.ref fa)->
   ∃fd:FuncData,(∀(s:Shared) (u:Value),BindsTo s fd ⟨[u],[]⟩ [(x,u)])/\∀base:Heap,(K w.params).In base->base.Ns mainGlobals mg->jI l.prog w (K w.params) mg base wJ k fa fd [x] (IY (K w.params) 1 g))
 (hg:∀ns:List Int,ns.length<=n->g [.lst (ns.map D.int)]= .ok (.bl true)):PySem.W.WalkO q loose XP YP l.row.toRowW d [] (fun f vs=>PySem.call f vs):=by
 refine Att.Aq hn UU fun w s₀ s₁ mg mb fa o pm cd doc a vs ns G Y ho hd wF RL O3 hints hlen U1=>?_
 have KX:=hY w _ Y;obtain⟨fd,hb,hF⟩:=F w mg fa _ KX G.T.g RL;refine E7 KX G.T.g G.T.b G.T.builtins G.T.nolimit U1 O3 hints (Nat.le_trans hlen Sj) hr hF hb (fun H hO hS=>?_) fun H e s' h=>h
 refine⟨rfl,[],[.lst (ns.map D.int)], .bl true,fun b hb=>(by cases hb),aH.cons (Rep.lst.mpr ⟨_,_,rfl,hS,ints_rep ns⟩) aH.nil,hg ns hlen,fun z H' _ r=>Rep.bl.mp r⟩
theorem bQ{K:W.Frag}{h:Heap}{mg:Zp}{x:Str}{st:Stmt}{f:Addr}{oc:Value}{od an:Option Addr}{JV:Array (Option Value)}{kV doc pm dF ct:Value}(X:K.In h)(G:h.Ns mainGlobals mg)(a:PySem.W.nsIn K mainGlobals x=some (some (.ref f)))
 (l:K.lookup f=some ⟨oc,od, .func (PySem.W.fnOf x x (gJ st) (aK st) (ay st) .none kV doc pm an dF ct),JV⟩) (c:PySem.W.codeIn K dF x=true) (k:PySem.W.keepIn K (.ref f)=true):Def K mg x st:=
 ⟨f,_,qm l c k,PySem.W.mg_of X G a⟩
end L2
end
section
namespace L2
open PySem PySem.Spec PyProof.Rows
theorem wk{t:FT}{body:FS}:∀(ds:List D) (n:Nat) (P:Nat->av->Prop) {δ:av},P n δ->
 (∀i d δ,ds[i]? =some d->P (n+i) δ->∃eD,((t d δ).bind body)= .ok (.nx eD)/\P (n+i+1) eD)->∃eD,p8 t body ds δ= .ok (.nx eD)/\P (n+ds.length) eD
 | [],n,P,δ,h0,_=>⟨δ,rfl,h0⟩
 | d ::ds,n,P,δ,h0,hs=>by
   obtain⟨cP,e1,p1⟩:=hs 0 d δ rfl h0;obtain⟨cZ,e2,p2⟩:=wk ds (n+1) P p1 (fun i d' eD hi hp=>by
    have:=hs (i+1) d' eD (by simpa using hi) (by rw[show n+(i+1)=n+1+i by omega];exact hp)
    rw[show n+(i+1)+1=n+1+i+1 by omega] at this
    exact this)
   refine⟨cZ,?_,by rw[List.length_cons,show n+(ds.length+1)=n+1+ds.length by omega];exact p2⟩
   obtain⟨Y5,h1,h2⟩:=R.ai e1;show(t d δ).bind (fun cP=>(body cP).bind fun o=>match o with | .nx cZ=>p8 t body ds cZ | .rt r=> .ok (.rt r))=_
   rw[h1,R.aM,h2,R.aM];exact e2
theorem iL{t:FT}{body:FS}{ds:List D}(P:Nat->av->Prop){δ:av}(h0:P 0 δ)
 (hs:∀i d δ,ds[i]? =some d->P i δ->∃eD,((t d δ).bind body)= .ok (.nx eD)/\P (i+1) eD):∃eD,p8 t body ds δ= .ok (.nx eD)/\P ds.length eD:=by
 have:=wk (t:=t) (body:=body) ds 0 P h0 (fun i d δ hi hp=>by simpa using hs i d δ hi (by simpa using hp))
 simpa using this
theorem xA{t:FT}{c:av->R Bool}{f:FD}{δ:av}(g:D->D):∀{ds:List D},(∀d∈ds,∃cP,t d δ= .ok cP/\c cP= .ok true/\f cP= .ok (g d))->mf t c f δ ds= .ok (ds.map g)
 | [],_=>rfl
 | d ::ds,h=>by
   obtain⟨cP,h1,h2,h3⟩:=h d List.mem_cons_self;have ih:=xA (t:=t) (c:=c) (f:=f) (δ:=δ) g (fun d' hd=>h d' (List.mem_cons_of_mem _ hd))
   unfold mf;rw[h1,R.aM,h2,R.aM,if_pos rfl,h3,R.aM,ih];rfl
theorem Co{α:Type} [DecidableEq α]:∀(L F:List α),L.Nodup->(∀x∈L,x∈F)->L.length<=F.length
 | [],_,_,_=>Nat.zero_le _
 | x ::L,F,hn,hs=>by
   obtain⟨h1,h2⟩:=List.nodup_cons.mp hn;have hx:x∈F:=hs x List.mem_cons_self;have ih:=Co L (F.erase x) h2 (fun y hy=>(List.mem_erase_of_ne (fun(e:y=x)=>h1 (by rw[<-e];exact hy))).mpr (hs y (List.mem_cons_of_mem _ hy)))
   rw[List.length_erase_of_mem hx] at ih;have:0 < F.length:=List.length_pos_of_mem hx;rw[List.length_cons];omega
theorem qz{α:Type}{xs:List α}{i:Int}(h0:0<=i)(h:i.toNat < xs.length):ur xs i=some xs[i.toNat]:=by
 unfold ur EA;rw[if_pos h0,if_pos (by omega)]
 simp [h]
theorem ints_map:∀ss:List Int,ints? (ss.map D.int)=some ss
 | []=>rfl
 | s ::ss=>by show(ints? (ss.map D.int)).map (s ::·)=_;rw [ints_map ss];rfl
theorem bu{F G:FS}{δ cP:av}{r:R Out}(h:F δ= .ok (.nx cP))(h2:G cP=r):eZ F G δ=r:=by unfold eZ;rw [h,R.aM];exact h2
theorem cJ{f:av->R (List D)}{δ:av}{ds:List D}(h:f δ= .ok ds):eNew f δ= .ok (.lst ds):=by unfold eNew;rw [h];rfl
theorem rK{c:av->R Bool}{F G:FS}{δ:av}{r:R Out}(h:c δ= .ok true)(h2:F δ=r):A4 c F G δ=r:=by unfold A4;rw [h,R.aM,if_pos rfl];exact h2
theorem jQ{c:av->R Bool}{F G:FS}{δ:av}{r:R Out}(h:c δ= .ok false)(h2:G δ=r):A4 c F G δ=r:=by unfold A4;rw [h,R.aM,if_neg (by decide)];exact h2
theorem i_{it:av->R (List D)}{F:FS}{δ:av}{ds:List D}{r:R Out}(h:it δ= .ok ds)(h2:p8 t F ds δ=r):sY it t F δ=r:=by unfold sY;rw [h,R.aM];exact h2
theorem cv{f:FD}{δ:av}{d:D}(h:f δ= .ok d):fO f δ= .ok (.rt d):=by unfold fO;rw [h];rfl
theorem cL{N:List Str}{F:FS}{ds:List D}{d:D}(h:F (dD N ds)= .ok (.rt d)):tV N F ds= .ok d:=by unfold tV;rw [h];rfl
theorem cg{α:Type}{p:Prop} [Decidable p](r:R α)(h:p):R.bN (decide p) r=r:=by rw[decide_eq_true h];rfl
theorem eL{i:Nat}{f:FD}{δ:av}{d:D}(h:f δ= .ok d)(hi:i < δ.length):mN i f δ= .ok (.nx (δ.set i (.val d))):=by unfold mN;rw [h,R.aM,cg _ hi]
theorem yP{i:Nat}{f:av->R (List D)}{δ:av}{ds:List D}(h:f δ= .ok ds)(hi:i < δ.length):AI i f δ= .ok (.nx (δ.set i (.bld ds))):=by unfold AI;rw [h,R.aM,cg _ hi]
theorem uF{i:Nat}{f:FD}{δ:av}{d:D}{ds:List D}(h:f δ= .ok d)(hb:δ[i]? =some (.bld ds))(hl:ds.length < sizeLine):zW i f δ= .ok (.nx (δ.set i (.bld (ds++[d])))):=by unfold zW ye;rw [h,R.aM,hb];show R.bN _ _=_;rw [cg _ hl]
theorem ck{it:av->R (List D)}{c:av->R Bool}{own:List Str}{kp:List Nat}{δ:av}{ds ys:List D}(h1:it δ= .ok ds)(h2:ds.length<=sizeLine)(h3:mf t c f (uj own kp δ) ds= .ok ys):cO it t c f own kp δ= .ok ys:=by unfold cO;rw [h1,R.aM,cg _ h2,h3]
theorem vD{ds:List D}{i:Int}{d:D}(h:ur ds i=some d):cn (.lst ds) (.int i)= .ok d:=by unfold cn;simp only[h]
theorem wt{ds:List D}{i:Int}{d:D}(h:ur ds i=some d):cn (.tup ds) (.int i)= .ok d:=by unfold cn;simp only[h]
end L2
end
section
namespace L2
open PySem PySem.Spec PyProof.Rows
theorem aq{g:D->D->R D}{fa fb:FD}{δ:av}{a b:D}{r:R D}(ha:fa δ= .ok a)(hb:fb δ= .ok b)(h:g a b=r):e2 g fa fb δ=r:=by unfold e2;rw [ha,R.aM,hb,R.aM];exact h
theorem dN{g:D->D->R D}{fa fb:FD}{δ:av}{a b:D}{k:Bool}(ha:fa δ= .ok a)(hb:fb δ= .ok b)(h:g a b= .ok (.bl k)):b2 g fa fb δ= .ok k:=by unfold b2;rw [aq ha hb h];rfl
theorem ax{f:FD}{g:av->R (List D)}{δ:av}{d:D}{ds:List D}(h:f δ= .ok d)(h2:g δ= .ok ds):ak f g δ= .ok (d ::ds):=by unfold ak;rw [h,R.aM,h2];rfl
theorem aA{g:List D->R D}{fs:av->R (List D)}{δ:av}{ds:List D}{r:R D}(h:fs δ= .ok ds)(h2:g ds=r):aS g fs δ=r:=by unfold aS;rw [h,R.aM];exact h2
theorem di{g:av->R (List D)}{δ:av}{ds:List D}(h:g δ= .ok ds)(hl:ds.length<=sizeLine):d5 g δ= .ok (.tup ds):=by unfold d5;rw [h,R.aM,cg _ hl]
theorem y7{g:av->R (List D)}{δ:av}{ds:List D}(h:g δ= .ok ds)(hl:ds.length<=sizeLine):d_ g δ= .ok ds:=by unfold d_;rw [h,R.aM,cg _ hl]
theorem OL{f:FD}{fl fh:FO}{δ:av}{d:D}{lo hi:Option Int}{r:R D}(h:f δ= .ok d)(h1:fl δ= .ok lo)(h2:fh δ= .ok hi)(h3:Qb d lo hi=r):Rj f fl fh δ=r:=by unfold Rj;rw [h,R.aM,h1,R.aM,h2,R.aM];exact h3
theorem GS{f:FD}{δ:av}{i:Int}(h:f δ= .ok (.int i)):vk f δ= .ok (some i):=by unfold vk;rw [h];rfl
theorem dM{f:FD}{δ:av}{n:Nat}(h:f δ= .ok (.int n))(hn:n < 1000000):dE f δ= .ok (gq 0 n):=by
 unfold dE;rw [h,R.aM];show R.bN (decide (-(2 ^ 62)<=(n:Int)/\(n:Int) < 2 ^ 62)) _=_;rw[cg _ ⟨by omega,by omega⟩,Int.toNat_natCast]
theorem dC{f:FD}{δ:av}{ds:List D}(h:f δ= .ok (.lst ds)):cq f δ= .ok ds:=by unfold cq;rw [h];rfl
theorem sO{f:FD}{δ:av}{ds:List D}(h:f δ= .ok (.tup ds)):cq f δ= .ok ds:=by unfold cq;rw [h];rfl
theorem Ni{f:FD}{δ:av}{ds:List D}(h:f δ= .ok (.lst ds)):fN f δ= .ok (cm ds):=by unfold fN;rw [h];rfl
theorem NA{f:FD}{δ:av}{b:Bool}(h:f δ= .ok (.bl b)):Pr f δ= .ok b:=by unfold Pr;rw [h];rfl
theorem sI(ds:List D):j2 [.lst ds]= .ok (.int ds.length):=rfl
end L2
end
section
namespace L3
open PySem PySem.Spec PyProof.Rows L2
inductive V3 where
 | d (x:D) | loc (k:Nat) | lst (vs:List V3) | tup (vs:List V3)
inductive SO where
 | lst (ds:List D) | dct (kvs:List (Key × D)) | ins (c:Nat) (fs:List (Str × V3)) | k4
abbrev aP:=List SO
inductive R3 (α:Type) where
 | ok (a:α) (S:aP) | ex (c:Nat) (S:aP) | no
def R3.bind{α β:Type}:R3 α->(α->aP->R3 β)->R3 β
 | .ok a S,f=>f a S
 | .ex c S,_=> .ex c S
 | .no,_=> .no
theorem R3.ai{α β:Type}{r:R3 α}{f:α->aP->R3 β}{b:β}{S':aP}(h:r.bind f= .ok b S'):∃a S,r= .ok a S/\f a S= .ok b S':=by
 cases r with
 | ok a S=>exact⟨a,S,rfl,h⟩
 | ex c S=>cases h
 | no=>cases h
@[simp] theorem R3.aM{α β:Type}(a:α)(S:aP)(f:α->aP->R3 β):(R3.ok a S).bind f=f a S:=rfl
def R3.bN{α:Type}(c:Bool)(r:R3 α):R3 α:=if c then r else .no
theorem R3.bc{α:Type}{c:Bool}{r:R3 α}{a:α}{S:aP}(h:R3.bN c r= .ok a S):c=true/\r= .ok a S:=by
 cases c with
 | true=>exact⟨rfl,h⟩
 | false=>cases h
def R3.of{α:Type}(r:R α)(S:aP):R3 α:=match r with | .ok a=> .ok a S | _=> .no
theorem R3.of_ok{α:Type}{r:R α}{S S':aP}{a:α}(h:R3.of r S= .ok a S'):r= .ok a/\S'=S:=by
 cases r with
 | ok b=>cases h;exact⟨rfl,rfl⟩
 | ex c=>cases h
 | no=>cases h
structure P3 where
 r:List Addr
 z:List Addr
 f:List Addr
def P3.b(ρ:P3):List Addr:=ρ.r.filter (fun a=>!ρ.f.contains a)++ρ.z
theorem P3.eF{ρ:P3}{a:Addr}:a∈ρ.b↔(a∈ρ.r/\a ∉ ρ.f)\/a∈ρ.z:=by
 unfold P3.b;rw[List.mem_append,List.mem_filter];simp
def P3.push(ρ:P3)(a:Addr):P3:=⟨ρ.r++[a],ρ.z,ρ.f⟩
def P3.cut(ρ:P3)(n:Nat):P3:=⟨ρ.r.take n,ρ.z,ρ.f⟩
mutual
def a_(K:W.Frag)(ρ:P3)(H:Hp):V3->V->Prop
 | .d x,v=>Rep K ρ.b H x v
 | .loc k,v=>∃a,ρ.r[k]? =some a/\v= .ref a
 | .lst vs,v=>∃a xs,v= .ref a/\wL K ρ.b H a xs/\aL K ρ H vs xs
 | .tup vs,v=>∃a xs,v= .ref a/\x9 K ρ.b H a xs/\aL K ρ H vs xs
def aL(K:W.Frag)(ρ:P3)(H:Hp):List V3->List V->Prop
 | [],xs=>xs=[]
 | d ::ds,xs=>∃x r,xs=x ::r/\a_ K ρ H d x/\aL K ρ H ds r
end
structure Pre (ρ:P3) (H:Hp) (cU:P3) (H':Hp):Prop where
 bq:dP ρ.b H cU.b H'
 zz:cU.z=ρ.z
 zs:∀(b:Addr) (o:HO),b∈ρ.z->H b=some o->H' b=some o
 ext:∀(k:Nat) (a:Addr),ρ.r[k]? =some a->cU.r[k]? =some a
theorem Pre.refl(ρ:P3)(H:Hp):Pre ρ H ρ H:=⟨dP.refl ρ.b H,rfl,fun _ _ _ h=>h,fun _ _ h=>h⟩
theorem Pre.trans(a:Pre ρ H cU H')(b:Pre cU H' JD nY):Pre ρ H JD nY:=⟨a.bq.trans b.bq,b.zz.trans a.zz,fun c o hc h=>b.zs c o (by rw[a.zz];exact hc) (a.zs c o hc h),fun k x h=>b.ext k x (a.ext k x h)⟩
theorem Pre.same(s:aU H H'):Pre ρ H ρ H':=⟨dP.same s,rfl,fun b o _ h=>s b o h,fun _ _ h=>h⟩
theorem x9.bq{K:W.Frag}{B B':List Addr}(p:dP B H B' H'){a:Addr}{xs:List V}(l:x9 K B H a xs):x9 K B' H' a xs:=
 l.elim (fun z=> .inl ⟨(p.rd z.2 z.1).2,(p.rd z.2 z.1).1⟩) .inr
mutual
theorem a_.pre{K:W.Frag}(p:Pre ρ H cU H'):∀{d:V3} {v:V},a_ K ρ H d v->a_ K cU H' d v
 | .d x,v,h=>by unfold a_ at h ⊢;exact h.bq p.bq
 | .loc k,v,h=>by unfold a_ at h ⊢;obtain⟨a,h1,h2⟩:=h;exact⟨a,p.ext k a h1,h2⟩
 | .lst vs,v,h=>by unfold a_ at h ⊢;obtain⟨a,xs,e,l,r⟩:=h;exact⟨a,xs,e,l.bq p.bq,aL.pre p r⟩
 | .tup vs,v,h=>by unfold a_ at h ⊢;obtain⟨a,xs,e,l,r⟩:=h;exact⟨a,xs,e,x9.bq p.bq l,aL.pre p r⟩
theorem aL.pre{K:W.Frag}(p:Pre ρ H cU H'):∀{ds:List V3} {xs:List V},aL K ρ H ds xs->aL K cU H' ds xs
 | [],_,h=>by unfold aL at h ⊢;exact h
 | d ::ds,xs,h=>by
   unfold aL at h ⊢;obtain⟨x,r,e,h1,h2⟩:=h;exact⟨x,r,e,a_.pre p h1,aL.pre p h2⟩
end
structure PW (ρ:P3) (H:Hp) (cU:P3) (H':Hp):Prop where
 bq:dP ρ.b H cU.b H'
 ext:∀(k:Nat) (a:Addr),ρ.r[k]? =some a->cU.r[k]? =some a
theorem Pre.pw(p:Pre ρ H cU H'):PW ρ H cU H':=⟨p.bq,p.ext⟩
theorem PW.trans(a:PW ρ H cU H')(b:PW cU H' JD nY):PW ρ H JD nY:=⟨a.bq.trans b.bq,fun k x h=>b.ext k x (a.ext k x h)⟩
mutual
theorem a_.pw{K:W.Frag}(p:PW ρ H cU H'):∀{d:V3} {v:V},a_ K ρ H d v->a_ K cU H' d v
 | .d x,v,h=>by unfold a_ at h ⊢;exact h.bq p.bq
 | .loc k,v,h=>by unfold a_ at h ⊢;obtain⟨a,h1,h2⟩:=h;exact⟨a,p.ext k a h1,h2⟩
 | .lst vs,v,h=>by unfold a_ at h ⊢;obtain⟨a,xs,e,l,r⟩:=h;exact⟨a,xs,e,l.bq p.bq,aL.pw p r⟩
 | .tup vs,v,h=>by unfold a_ at h ⊢;obtain⟨a,xs,e,l,r⟩:=h;exact⟨a,xs,e,x9.bq p.bq l,aL.pw p r⟩
theorem aL.pw{K:W.Frag}(p:PW ρ H cU H'):∀{ds:List V3} {xs:List V},aL K ρ H ds xs->aL K cU H' ds xs
 | [],_,h=>by unfold aL at h ⊢;exact h
 | d ::ds,xs,h=>by
   unfold aL at h ⊢;obtain⟨x,r,e,h1,h2⟩:=h;exact⟨x,r,e,a_.pw p h1,aL.pw p h2⟩
end
theorem aL.nil{K:W.Frag}:aL K ρ H [] []:=by unfold aL;rfl
theorem aL.cons{K:W.Frag}{d:V3}{ds:List V3}{x:V}{xs:List V}(h:a_ K ρ H d x)(t:aL K ρ H ds xs):aL K ρ H (d ::ds) (x ::xs):=by
 unfold aL;exact⟨x,xs,rfl,h,t⟩
theorem aL.cw{K:W.Frag}{d:V3}{ds:List V3}{xs:List V}(h:aL K ρ H (d ::ds) xs):∃x r,xs=x ::r/\a_ K ρ H d x/\aL K ρ H ds r:=by
 unfold aL at h;exact h
theorem aL.length{K:W.Frag}:∀{ds:List V3} {xs:List V},aL K ρ H ds xs->ds.length=xs.length
 | [],_,h=>by unfold aL at h;rw [h];rfl
 | d ::ds,xs,h=>by
   obtain⟨x,r,rfl,_,h2⟩:=h.cw;simp [h2.length]
theorem aL.of{K:W.Frag}{ρ:P3}:∀{ds:List D} {xs:List V},aH K ρ.b H ds xs->aL K ρ H (ds.map .d) xs
 | [],_,h=>by unfold aH at h;subst h;exact aL.nil
 | d ::ds,xs,h=>by
   obtain⟨x,r,rfl,h1,h2⟩:=h.cw;exact aL.cons (by unfold a_;exact h1) (aL.of h2)
theorem aL.to{K:W.Frag}{ρ:P3}:∀{ds:List D} {xs:List V},aL K ρ H (ds.map .d) xs->aH K ρ.b H ds xs
 | [],_,h=>by unfold aL at h;subst h;exact aH.nil
 | d ::ds,xs,h=>by
   obtain⟨x,r,rfl,h1,h2⟩:=aL.cw h;unfold a_ at h1;exact aH.cons h1 (aL.to h2)
def IK(K:W.Frag)(cl:Zq)(ρ:P3)(H:Hp):SO->Option HO->Prop
 | .lst ds,h=>∃xs,h=some (.lst xs)/\aH K ρ.b H ds xs
 | .dct kvs,h=>∃ys,h=some (.dK ys)/\ys.map (·.1)=kvs.map (·.1)/\aH K ρ.b H (kvs.map (·.2)) (ys.map (·.2))
 | .ins c fs,h=>∃dx ys,h=some (.ins (cl c) dx ys)/\ys.map (·.1)=fs.map (·.1)/\aL K ρ H (fs.map (·.2)) (ys.map (·.2))
 | .k4,h=>∃u,h=some u
theorem IK.pre{K:W.Frag}{cl:Zq}(p:Pre ρ H cU H'){o:SO}{h:Option HO}(r:IK K cl ρ H o h):IK K cl cU H' o h:=by
 cases o with
 | lst ds=>obtain⟨xs,e,q⟩:=r;exact⟨xs,e,q.bq p.bq⟩
 | dct kvs=>obtain⟨ys,e,e2,q⟩:=r;exact⟨ys,e,e2,q.bq p.bq⟩
 | ins c fs=>obtain⟨dx,ys,e,e2,q⟩:=r;exact⟨dx,ys,e,e2,q.pre p⟩
 | k4=>exact r
theorem IK.pw{K:W.Frag}{cl:Zq}(p:PW ρ H cU H'){o:SO}{h:Option HO}(r:IK K cl ρ H o h):IK K cl cU H' o h:=by
 cases o with
 | lst ds=>obtain⟨xs,e,q⟩:=r;exact⟨xs,e,q.bq p.bq⟩
 | dct kvs=>obtain⟨ys,e,e2,q⟩:=r;exact⟨ys,e,e2,q.bq p.bq⟩
 | ins c fs=>obtain⟨dx,ys,e,e2,q⟩:=r;exact⟨dx,ys,e,e2,q.pw p⟩
 | k4=>exact r
theorem IK.some{K:W.Frag}{cl:Zq}{o:SO}{h:Option HO}(r:IK K cl ρ H o h):∃u,h=some u:=by
 cases o with
 | lst ds=>obtain⟨xs,e,q⟩:=r;exact⟨_,e⟩
 | dct kvs=>obtain⟨ys,e,e2,q⟩:=r;exact⟨_,e⟩
 | ins c fs=>obtain⟨dx,ys,e,e2,q⟩:=r;exact⟨_,e⟩
 | k4=>exact r
structure SW (K:W.Frag) (cl:Zq) (ρ:P3) (H:Hp) (S:aP):Prop where
 len:ρ.r.length=S.length
 nd:∀(i j:Nat) (a:Addr),ρ.r[i]? =some a->ρ.r[j]? =some a->i=j
 ob:∀(k:Nat) (a:Addr) (o:SO),ρ.r[k]? =some a->S[k]? =some o->IK K cl ρ H o (H a)
 zb:∀b∈ρ.z,(∃xs,H b=some (.lst xs))/\b ∉ ρ.r
 fz:∀(k:Nat) (a:Addr),ρ.r[k]? =some a->S[k]?≠some .k4->a ∉ ρ.f
 ff:∀a∈ρ.f,∃o,H a=some o
 fi:∀(k:Nat) (a:Addr),ρ.r[k]? =some a->S[k]? =some .k4->a∈ρ.f
theorem SW.rs{K:W.Frag}{cl:Zq}{ρ:P3}{H:Hp}{S:aP}(w:SW K cl ρ H S):∀a∈ρ.r,∃o,H a=some o:=fun a z=>by
 obtain⟨k,hk⟩:=List.getElem?_of_mem z;have hl:=(List.getElem?_eq_some_iff.mp hk).1;exact(w.ob k a _ hk (List.getElem?_eq_getElem (by rw[<-w.len];exact hl))).some
theorem SW.bs{K:W.Frag}{cl:Zq}{ρ:P3}{H:Hp}{S:aP}(w:SW K cl ρ H S):∀a∈ρ.b,∃o,H a=some o:=fun a ha=>by
 rcases P3.eF.mp ha with z | z
 .exact w.rs a z.1
 .obtain⟨xs,h⟩:=(w.zb a z).1;exact⟨_,h⟩
theorem SW.same{K:W.Frag}{cl:Zq}{S:aP}(w:SW K cl ρ H S)(s:aU H H'):SW K cl ρ H' S:=
 ⟨w.len,w.nd,fun k a o h1 h2=>by
   have r:=w.ob k a o h1 h2;obtain⟨u,hu⟩:=r.some;rw[s a u hu,<-hu];exact r.pre (Pre.same s),fun b hb=>let⟨⟨o,ho⟩,n⟩:=w.zb b hb;⟨⟨o,s b _ ho⟩,n⟩,w.fz,fun a ha=>let⟨o,ho⟩:=w.ff a ha;⟨o,s a o ho⟩,w.fi⟩
theorem P3.mem_push{ρ:P3}{a b:Addr}(h:b∈(ρ.push a).b):b∈ρ.b\/b=a:=by
 rcases P3.eF.mp h with⟨z,n⟩ | z
 .rcases List.mem_append.mp z with y | y
  .exact .inl (P3.eF.mpr (.inl ⟨y,n⟩))
  .exact .inr (List.mem_singleton.mp y)
 .exact .inl (P3.eF.mpr (.inr z))
theorem SW.new{K:W.Frag}{cl:Zq}{ρ:P3}{H H':Hp}{S:aP}(w:SW K cl ρ H S){a:Addr}{o:SO}(s:aU H H')(n:H a=none)(r:IK K cl (ρ.push a) H' o (H' a))(uN:o≠SO.k4:=by intro h;cases h) :
 SW K cl (ρ.push a) H' (S++[o])/\Pre ρ H (ρ.push a) H':=by
 have na:a ∉ ρ.b:=fun ha=>by obtain⟨o,ho⟩:=w.bs a ha;rw [n] at ho;cases ho
 have nr:a ∉ ρ.r:=fun ha=>by obtain⟨o,ho⟩:=w.rs a ha;rw [n] at ho;cases ho
 have nf:a ∉ ρ.f:=fun ha=>by obtain⟨o,ho⟩:=w.ff a ha;rw [n] at ho;cases ho
 have p:Pre ρ H (ρ.push a) H':=⟨fun b u e nb=>⟨s b u e,fun hb=>by
  rcases P3.mem_push hb with z | z
  .exact nb z
  .subst z;rw [n] at e;cases e⟩,rfl,fun b o _ h=>s b o h,fun k x hx=>by
   show(ρ.r++[a])[k]? =_;rw[List.getElem?_append_left (List.getElem?_eq_some_iff.mp hx).1];exact hx⟩
 have last:∀(i:Nat) (b:Addr),(ρ.push a).r[i]? =some b->(i < ρ.r.length/\ρ.r[i]? =some b)\/(i=ρ.r.length/\b=a):=fun i b h=>by
  have h:(ρ.r++[a])[i]? =some b:=h;by_cases q:i < ρ.r.length
  .rw [List.getElem?_append_left q] at h;exact .inl ⟨q,h⟩
  .rw [List.getElem?_append_right (by omega)] at h
   have h0:i - ρ.r.length=0:=by
    have:=(List.getElem?_eq_some_iff.mp h).1;simp at this;omega
   rw[h0] at h;cases h;exact .inr ⟨by omega,rfl⟩
 refine⟨⟨by show(ρ.r++[a]).length=_;rw [List.length_append,List.length_append,w.len];rfl,fun i j b hi hj=>?_,fun k b u hk hu=>?_,fun b hb=>?_,fun k b hk hu=>?_,fun b hb=>?_,fun k b hk hu=>?_⟩,p⟩
 .rcases last i b hi with⟨q1,q2⟩ | ⟨q1,rfl⟩
  .rcases last j b hj with⟨z1,z2⟩ | ⟨z1,rfl⟩
   .exact w.nd i j b q2 z2
   .exact absurd (List.mem_of_getElem? q2) nr
  .rcases last j b hj with⟨z1,z2⟩ | ⟨z1,z3⟩
   .exact absurd (List.mem_of_getElem? z2) nr
   .omega
 .rcases last k b hk with⟨q1,q2⟩ | ⟨q1,rfl⟩
  .rw [List.getElem?_append_left (by rw[<-w.len];exact q1)] at hu
   have r0:=w.ob k b u q2 hu;obtain⟨x,hx⟩:=r0.some;rw[s b x hx,<-hx];exact r0.pre p
  .rw [List.getElem?_append_right (by rw[<-w.len];omega),q1,w.len,Nat.sub_self] at hu
   cases hu;exact r
 .obtain⟨⟨o,ho⟩,nb⟩:=w.zb b hb;refine⟨⟨o,s b _ ho⟩,fun h=>?_⟩
  rcases List.mem_append.mp h with y | y
  .exact nb y
  .rw [List.mem_singleton] at y;subst y;rw [n] at ho;cases ho
 .rcases last k b hk with⟨q1,q2⟩ | ⟨q1,rfl⟩
  .rw [List.getElem?_append_left (by rw[<-w.len];exact q1)] at hu
   exact w.fz k b q2 hu
  .exact nf
 .obtain⟨o,ho⟩:=w.ff b hb;exact⟨o,s b o ho⟩
 .rcases last k b hk with⟨q1,q2⟩ | ⟨q1,rfl⟩
  .rw [List.getElem?_append_left (by rw[<-w.len];exact q1)] at hu
   exact w.fi k b q2 hu
  .rw [List.getElem?_append_right (by rw[<-w.len];omega),q1,w.len,Nat.sub_self] at hu
   cases hu;exact absurd rfl uN
theorem SW.put{K:W.Frag}{cl:Zq}{ρ:P3}{S:aP}(w:SW K cl ρ H S){k:Nat}{a:Addr}{o:SO}{u:HO}(hk:ρ.r[k]? =some a)(hf:a ∉ ρ.f)(r:IK K cl ρ H o (some u))(uN:o≠SO.k4:=by intro h;cases h) :
 SW K cl ρ (upd H a u) (S.set k o)/\Pre ρ H ρ (upd H a u):=by
 have ha:a∈ρ.r:=List.mem_of_getElem? hk;have hb:a∈ρ.b:=P3.eF.mpr (.inl ⟨ha,hf⟩);have nz:∀b∈ρ.z,b≠a:=fun b hb z=>(w.zb b hb).2 (by rw[z];exact ha)
 have p:Pre ρ H ρ (upd H a u):=⟨fun b x e nb=>⟨by rw[bb (fun(z:b=a)=>nb (by rw[z];exact hb))];exact e,nb⟩,rfl,fun b o hb h=>by rw[bb (nz b hb)];exact h,fun _ _ h=>h⟩
 have hl:k < S.length:=by rw[<-w.len];exact(List.getElem?_eq_some_iff.mp hk).1
 refine⟨⟨by rw[List.length_set];exact w.len,w.nd,fun j b x hj hx=>?_,fun b hb=>?_,fun j b hj hx=>?_,fun b hb=>?_,fun j b hj hx=>?_⟩,p⟩
 .by_cases q:k=j
  .subst q;rw[hk] at hj;cases hj;rw[List.getElem?_set_self hl] at hx;cases hx;rw[aX];exact r.pre p
  .rw [List.getElem?_set_ne q] at hx;have ne:b≠a:=fun z=>by subst z;exact q (w.nd k j b hk hj)
   rw[bb ne];exact(w.ob j b x hj hx).pre p
 .obtain⟨⟨o,ho⟩,nb⟩:=w.zb b hb;exact⟨⟨o,by rw[bb (nz b hb)];exact ho⟩,nb⟩
 .by_cases q:k=j
  .subst q;rw[hk] at hj;cases hj;exact hf
  .rw [List.getElem?_set_ne q] at hx;exact w.fz j b hj hx
 .obtain⟨o,ho⟩:=w.ff b hb;exact⟨o,by rw[bb (fun z=>hf (by rw[<-z];exact hb))];exact ho⟩
 .by_cases q:k=j
  .subst q;rw[List.getElem?_set_self hl] at hx;cases hx;exact absurd rfl uN
  .rw [List.getElem?_set_ne q] at hx;exact w.fi j b hj hx
theorem SW.k4{K:W.Frag}{cl:Zq}{ρ:P3}{S:aP}(w:SW K cl ρ H S){k:Nat}{a:Addr}{ds:List D}(hk:ρ.r[k]? =some a)(hS:S[k]? =some (.lst ds)) :
 SW K cl ⟨ρ.r,ρ.z,a ::ρ.f⟩ H (S.set k .k4)/\Pre ρ H ⟨ρ.r,ρ.z,a ::ρ.f⟩ H/\Rep K (⟨ρ.r,ρ.z,a ::ρ.f⟩:P3).b H (.lst ds) (.ref a):=by
 have hl:k < S.length:=by rw[<-w.len];exact(List.getElem?_eq_some_iff.mp hk).1
 have sub:∀b,b∈(⟨ρ.r,ρ.z,a ::ρ.f⟩:P3).b->b∈ρ.b:=fun b hb=>by
  rcases P3.eF.mp hb with⟨z,n⟩ | z
  .exact P3.eF.mpr (.inl ⟨z,fun h=>n (List.mem_cons_of_mem _ h)⟩)
  .exact P3.eF.mpr (.inr z)
 have p:Pre ρ H ⟨ρ.r,ρ.z,a ::ρ.f⟩ H:=⟨fun b o e nb=>⟨e,fun hb=>nb (sub b hb)⟩,rfl,fun _ _ _ h=>h,fun _ _ h=>h⟩
 obtain⟨xs,e1,r1⟩:=w.ob k a _ hk hS;refine⟨⟨by rw[List.length_set];exact w.len,w.nd,fun j b x hj hx=>?_,w.zb,fun j b hj hx=>?_,fun b hb=>?_,fun j b hj hx=>?_⟩,p,?_⟩
 .by_cases q:k=j
  .subst q;rw[List.getElem?_set_self hl] at hx;cases hx;rw[hk] at hj;cases hj;exact⟨_,e1⟩
  .rw [List.getElem?_set_ne q] at hx;exact(w.ob j b x hj hx).pre p
 .by_cases q:k=j
  .subst q;rw[List.getElem?_set_self hl] at hx;exact absurd rfl hx
  .rw [List.getElem?_set_ne q] at hx;intro h;rcases List.mem_cons.mp h with z | z
   .subst z;exact q (w.nd k j b hk hj)
   .exact w.fz j b hj hx z
 .rcases List.mem_cons.mp hb with z | z
  .subst z;exact⟨_,e1⟩
  .exact w.ff b z
 .by_cases q:k=j
  .subst q;rw[hk] at hj;cases hj;exact List.mem_cons_self
  .rw [List.getElem?_set_ne q] at hx;exact List.mem_cons_of_mem _ (w.fi j b hj hx)
 .refine Rep.lst.mpr ⟨a,xs,rfl, .inl ⟨fun hb=>?_, .inl e1⟩,r1.bq p.bq⟩
  rcases P3.eF.mp hb with⟨_,n⟩ | z
  .exact n List.mem_cons_self
  .exact(w.zb a z).2 (List.mem_of_getElem? hk)
mutual
def nV:D->Bool
 | .lst _=>false
 | .dct _ _=>false
 | .tup ds=>ix ds
 | _=>true
def ix:List D->Bool
 | []=>true
 | d ::ds=>nV d && ix ds
end
mutual
theorem Rep.xZ{K:W.Frag}{B:List Addr}(hB:∀b∈B,∀xs,¬Rd H b (.tup xs)):∀{d:D} {v:V},nV d=true->Rep K [] H d v->Rep K B H d v
 | .cu,v,_,r=>Rep.cu.mpr (Rep.cu.mp r)
 | .bl _,v,_,r=>Rep.bl.mpr (Rep.bl.mp r)
 | .int _,v,_,r=>Rep.int.mpr (Rep.int.mp r)
 | .str _,v,_,r=>Rep.str.mpr (Rep.str.mp r)
 | .lst _,v,h,_=>by unfold nV at h;cases h
 | .dct _ _,v,h,_=>by unfold nV at h;cases h
 | .tup ds,v,h,r=>by
   unfold nV at h;obtain⟨a,xs,rfl,l,rs⟩:=Rep.tup.mp r;exact Rep.tup.mpr ⟨a,xs,rfl,l.elim (fun z=> .inl ⟨fun hb=>hB a hb xs z.2,z.2⟩) .inr,aH.xZ hB h rs⟩
theorem aH.xZ{K:W.Frag}{B:List Addr}(hB:∀b∈B,∀xs,¬Rd H b (.tup xs)):∀{ds:List D} {vs:List V},ix ds=true->aH K [] H ds vs->aH K B H ds vs
 | [],_,_,r=>by unfold aH at r;subst r;exact aH.nil
 | d ::ds,vs,h,r=>by
   unfold ix at h;obtain⟨h1,h2⟩:=Bool.and_eq_true_iff.mp h;obtain⟨x,xs,rfl,r1,r2⟩:=r.cw;exact aH.cons (Rep.xZ hB h1 r1) (aH.xZ hB h2 r2)
end
theorem SW.nt{K:W.Frag}{cl:Zq}{ρ:P3}{S:aP}(w:SW K cl ρ H S):∀b∈ρ.b,∀xs,¬Rd H b (.tup xs):=fun b hb xs h=>by
 have key:∀o,H b=some o->(∀xs,o≠ .tup xs)->(∀ob xs,o≠ .k4 ob (.tup xs))->False:=fun o e h1 h2=>by
  rcases h with z | ⟨ob,z⟩
  .rw [e] at z;cases z;exact h1 _ rfl
  .rw [e] at z;cases z;exact h2 _ _ rfl
 rcases P3.eF.mp hb with⟨z,n⟩ | z
 .obtain⟨k,hk⟩:=List.getElem?_of_mem z;have hl:=(List.getElem?_eq_some_iff.mp hk).1;have hS:S[k]? =some (S[k]'(by rw[<-w.len];exact hl)):=List.getElem?_eq_getElem (by rw[<-w.len];exact hl)
  have r:=w.ob k b _ hk hS;generalize S[k]'(by rw[<-w.len];exact hl)=o at r hS
  cases o with
  | lst ds=>obtain⟨ys,e,_⟩:=r;exact key _ e (fun _ q=>by cases q) (fun _ _ q=>by cases q)
  | dct kvs=>obtain⟨ys,e,_⟩:=r;exact key _ e (fun _ q=>by cases q) (fun _ _ q=>by cases q)
  | ins c fs=>obtain⟨dx,ys,e,_⟩:=r;exact key _ e (fun _ q=>by cases q) (fun _ _ q=>by cases q)
  | k4=>exact n (w.fi k b hk hS)
 .obtain⟨⟨ys,e⟩,_⟩:=w.zb b z;exact key _ e (fun _ q=>by cases q) (fun _ _ q=>by cases q)
abbrev DE:=List (Option V3)
structure fA (K:W.Frag) (cl:Zq) (ρ:P3) (H:Hp) (S:aP) (σ:L2.St) (δ:DE):Prop where
 len:δ.length=σ.length
 sw:SW K cl ρ H S
 val:∀(i:Nat) (d:V3),δ[i]? =some (some d)->∃v,σ[i]? =some (some v)/\a_ K ρ H d v
theorem fA.to{K:W.Frag}{cl:Zq}{S S':aP}{σ:L2.St}{δ:DE}(E:fA K cl ρ H S σ δ)(p:Pre ρ H cU H')(w:SW K cl cU H' S'):fA K cl cU H' S' σ δ:=
 ⟨E.len,w,fun i d e=>let⟨v,h1,h2⟩:=E.val i d e;⟨v,h1,h2.pre p⟩⟩
theorem fA.set{K:W.Frag}{cl:Zq}{S:aP}{σ:L2.St}{δ:DE}(E:fA K cl ρ H S σ δ){i:Nat}{d:V3}{v:V}(hi:i < σ.length)(r:a_ K ρ H d v):fA K cl ρ H S (σ.set i (some v)) (δ.set i (some d)):=
 ⟨by rw[List.length_set,List.length_set];exact E.len,E.sw,fun j d' e=>by
   by_cases h:i=j
   .subst h;rw[List.getElem?_set_self (by rw[E.len];exact hi)] at e
    cases e;exact⟨v,List.getElem?_set_self hi,r⟩
   .rw [List.getElem?_set_ne h] at e ⊢;exact E.val j d' e⟩
def down(δ:DE):av:=δ.map fun x=>match x with | some (.d d)=> .val d | _=> .un
theorem fA.down{K:W.Frag}{cl:Zq}{ρ:P3}{S:aP}{σ:L2.St}{δ:DE}(E:fA K cl ρ H S σ δ):eR K [] ρ.b H σ (down δ) where
 len:=by unfold L3.down;rw [List.length_map];exact E.len
 bs:=E.sw.bs
 zb:=fun a ha=>by cases ha
 val:=fun i d e=>by
  unfold L3.down at e;rw[List.getElem?_map] at e;cases q:δ[i]? with
  | none=>rw [q] at e;cases e
  | some x=>
    rw[q] at e
    match x,e,q with
    | some (.d y),e,q=>
      cases e;obtain⟨v,h1,h2⟩:=E.val i _ q;unfold a_ at h2;exact⟨v,h1,h2⟩
    | some (.loc k),e,q=>cases e
    | some (.lst k),e,q=>cases e
    | some (.tup k),e,q=>cases e
    | none,e,q=>cases e
 bld:=fun i ds e=>by
  unfold L3.down at e;rw[List.getElem?_map] at e;cases q:δ[i]? with
  | none=>rw [q] at e;cases e
  | some x=>
    rw[q] at e
    match x,e with
    | some (.d y),e=>cases e
    | some (.loc k),e=>cases e
    | some (.lst k),e=>cases e
    | some (.tup k),e=>cases e
    | none,e=>cases e
 dis:=fun i j a ds es e=>by
  unfold L3.down at e;rw[List.getElem?_map] at e;cases q:δ[i]? with
  | none=>rw [q] at e;cases e
  | some x=>
    rw[q] at e
    match x,e with
    | some (.d y),e=>cases e
    | some (.loc k),e=>cases e
    | some (.lst k),e=>cases e
    | some (.tup k),e=>cases e
    | none,e=>cases e
mutual
def res(S:aP):V3->Option D
 | .d x=>some x
 | .loc k=>(match S[k]? with | some (.lst ds)=>some (.lst ds) | _=>none)
 | .lst vs=>(Cc S vs).map D.lst
 | .tup vs=>(Cc S vs).map D.tup
def Cc(S:aP):List V3->Option (List D)
 | []=>some []
 | v ::vs=>(res S v).bind fun d=>(Cc S vs).map (d ::·)
end
def fj(S:aP)(δ:DE):av:=δ.map fun x=>match x with | some v=>(match res S v with | some d=> .val d | none=> .un) | none=> .un
theorem mJ{α β:Type}{o:Option α}{f:α->β}{b:β}(h:o.map f=some b):∃a,o=some a/\f a=b:=by
 cases o with
 | none=>cases h
 | some a=>cases h;exact⟨a,rfl,rfl⟩
theorem Cv{α β:Type}{o:Option α}{f:α->Option β}{b:β}(h:o.bind f=some b):∃a,o=some a/\f a=some b:=by
 cases o with
 | none=>cases h
 | some a=>exact⟨a,rfl,h⟩
mutual
def fR(n:Nat):V3->Bool
 | .d _=>true
 | .loc k=>decide (n<=k)
 | .lst vs=>tR n vs
 | .tup vs=>tR n vs
def tR(n:Nat):List V3->Bool
 | []=>true
 | v ::vs=>fR n v && tR n vs
end
mutual
theorem a_.resB{K:W.Frag}{cl:Zq}{ρ:P3}{S:aP}{B':List Addr}{n:Nat}(w:SW K cl ρ H S)(p:dP ρ.b H B' H)(hn:∀(k:Nat) (a:Addr),n<=k->ρ.r[k]? =some a->a ∉ B'):∀{v:V3} {d:D} {x:V},fR n v=true->res S v=some d->a_ K ρ H v x->Rep K B' H d x
 | .d y,d,x,_,h,r=>by unfold L3.res at h;cases h;unfold a_ at r;exact r.bq p
 | .loc k,d,x,g,h,r=>by
   unfold L3.res at h;unfold a_ at r;unfold fR at g;obtain⟨a,h1,rfl⟩:=r;split at h
   .rename_i ds e;cases h;obtain⟨xs,e2,q⟩:=w.ob k a _ h1 e;unfold Rep;exact⟨a,xs,rfl, .inl ⟨hn k a (of_decide_eq_true g) h1, .inl e2⟩,q.bq p⟩
   .cases h
 | .lst vs,d,x,g,h,r=>by
   unfold L3.res at h;unfold fR at g;obtain⟨ds,e,rfl⟩:=mJ h;unfold a_ at r;obtain⟨a,xs,rfl,l,r⟩:=r;unfold Rep;exact⟨a,xs,rfl,l.bq p,aL.resB w p hn g e r⟩
 | .tup vs,d,x,g,h,r=>by
   unfold L3.res at h;unfold fR at g;obtain⟨ds,e,rfl⟩:=mJ h;unfold a_ at r;obtain⟨a,xs,rfl,l,r⟩:=r;unfold Rep;exact⟨a,xs,rfl,x9.bq p l,aL.resB w p hn g e r⟩
theorem aL.resB{K:W.Frag}{cl:Zq}{ρ:P3}{S:aP}{B':List Addr}{n:Nat}(w:SW K cl ρ H S)(p:dP ρ.b H B' H)(hn:∀(k:Nat) (a:Addr),n<=k->ρ.r[k]? =some a->a ∉ B'):∀{vs:List V3} {ds:List D} {xs:List V},tR n vs=true->Cc S vs=some ds->aL K ρ H vs xs->aH K B' H ds xs
 | [],ds,xs,_,h,r=>by unfold Cc at h;cases h;unfold aL at r;subst r;exact aH.nil
 | v ::vs,ds,xs,g,h,r=>by
   unfold Cc at h;unfold tR at g;obtain⟨g1,g2⟩:=Bool.and_eq_true_iff.mp g;obtain⟨d,e1,h2⟩:=Cv h;obtain⟨es,e2,rfl⟩:=mJ h2;obtain⟨y,ys,rfl,r1,r2⟩:=r.cw;exact aH.cons (a_.resB w p hn g1 e1 r1) (aL.resB w p hn g2 e2 r2)
end
mutual
theorem xx:∀v:V3,fR 0 v=true
 | .d _=>by unfold fR;rfl
 | .loc k=>by unfold fR;exact decide_eq_true (Nat.zero_le _)
 | .lst vs=>by unfold fR;exact qq vs
 | .tup vs=>by unfold fR;exact qq vs
theorem qq:∀vs:List V3,tR 0 vs=true
 | []=>by unfold tR;rfl
 | v ::vs=>by unfold tR;rw [xx v,qq vs];rfl
end
theorem a_.res{K:W.Frag}{cl:Zq}{S:aP}(w:SW K cl ρ H S){v:V3}{d:D}{x:V}(h:res S v=some d)(r:a_ K ρ H v x):Rep K [] H d x:=
 r.resB w (fun b o e _=>⟨e,by simp⟩) (n:=0) (fun _ _ _ _=>by simp) (xx v) h
theorem sU{S:aP}{δ:DE}{i:Nat}{y:Sl}(e:(fj S δ)[i]? =some y):(∃v d,δ[i]? =some (some v)/\res S v=some d/\y= .val d)\/y= .un:=by
 unfold fj at e;rw[List.getElem?_map] at e;cases q:δ[i]? with
 | none=>rw [q] at e;cases e
 | some x=>
   rw[q] at e;cases x with
   | none=>cases e;exact .inr rfl
   | some v=>
     cases z:res S v with
     | none=>
       have e:some (match res S v with | some d=>Sl.val d | none=> .un)=some y:=e
       rw[z] at e;cases e;exact .inr rfl
     | some d=>
       have e:some (match res S v with | some d=>Sl.val d | none=> .un)=some y:=e
       rw[z] at e;cases e;exact .inl ⟨v,d,rfl,z,rfl⟩
theorem fA.fj{K:W.Frag}{cl:Zq}{S:aP}{σ:L2.St}{δ:DE}(E:fA K cl ρ H S σ δ):eR K [] [] H σ (fj S δ) where
 len:=by unfold L3.fj;rw [List.length_map];exact E.len
 bs:=fun a ha=>by cases ha
 zb:=fun a ha=>by cases ha
 val:=fun i d e=>by
  rcases sU e with⟨v,d',h1,h2,h3⟩ | h
  .cases h3;obtain⟨x,q1,q2⟩:=E.val i v h1;exact⟨x,q1,q2.res E.sw h2⟩
  .cases h
 bld:=fun i ds e=>by
  rcases sU e with⟨v,d',h1,h2,h3⟩ | h
  .cases h3
  .cases h
 dis:=fun i j a ds es e=>by
  rcases sU e with⟨v,d',h1,h2,h3⟩ | h
  .cases h3
  .cases h
abbrev FX:=DE->aP->R3 V3
abbrev FB:=DE->aP->R3 Bool
abbrev FA:=DE->aP->R3 (List V3)
def tX(K:W.Frag)(cl:Zq)(f:FX):TE:=fun σ H Q=>∃ρ S δ v S',fA K cl ρ H S σ δ/\f δ S= .ok v S'/\∀u cU H',Pre ρ H cU H'->SW K cl cU H' S'->a_ K cU H' v u->Q u H'
def Nm(K:W.Frag)(cl:Zq)(f:FB):TT:=fun σ H Q=>∃ρ S δ b S',fA K cl ρ H S σ δ/\f δ S= .ok b S'/\∀cU H',Pre ρ H cU H'->SW K cl cU H' S'->Q b H'
def Vv(K:W.Frag)(cl:Zq)(f:FA):TA:=fun σ H Q=>∃ρ S δ vs S',fA K cl ρ H S σ δ/\f δ S= .ok vs S'/\∀us cU H',Pre ρ H cU H'->SW K cl cU H' S'->aL K cU H' vs us->Q us H'
structure PX (X:Cx) (cl:Zq) (e:Expr) (f:FX):Prop where
 go:PE X e (tX X.K cl f)
structure BD (X:Cx) (cl:Zq) (e:Expr) (f:FB):Prop where
 go:PT X e (Nm X.K cl f)
structure Kl (X:Cx) (cl:Zq) (es:List Expr) (f:FA):Prop where
 go:PA X es (Vv X.K cl f)
section
variable {X:Cx} {cl:Zq}
def xP(f:FD):FX:=fun δ S=>(R3.of (f (down δ)) S).bind fun d S=> .ok (.d d) S
theorem ah(h:QD X e f):PX X cl e (xP f):=⟨h.1.imp fun σ H Q ⟨ρ,S,δ,v,S',E,hf,q⟩=>by
 obtain⟨d,S1,h1,h2⟩:=R3.ai hf;obtain⟨h3,e3⟩:=R3.of_ok h1;cases h2;subst e3;exact⟨[],ρ.b,down δ,d,E.down,h3,fun v H' s r=>q v ρ H' (Pre.same s) (E.sw.same s) (by unfold a_;exact r)⟩⟩
def xT(f:FD):FX:=fun δ S=>(R3.of (f (fj S δ)) S).bind fun d S=>R3.bN (nV d) (.ok (.d d) S)
theorem uJ(h:QD X e f):PX X cl e (xT f):=⟨h.1.imp fun σ H Q ⟨ρ,S,δ,v,S',E,hf,q⟩=>by
 obtain⟨d,S1,h1,h2⟩:=R3.ai hf;obtain⟨h4,e3⟩:=R3.of_ok h1;obtain⟨ha,h3⟩:=R3.bc h2;cases h3;subst e3;exact⟨[],[],fj _ δ,d,E.fj,h4,fun v H' s r=>q v ρ H' (Pre.same s) (E.sw.same s) (by unfold a_;exact Rep.xZ (E.sw.same s).nt ha r)⟩⟩
def bP(f:av->R Bool):FB:=fun δ S=>R3.of (f (down δ)) S
theorem fF{f:av->R Bool}(h:QB X e f):BD X cl e (bP f):=⟨h.1.imp fun σ H Q ⟨ρ,S,δ,v,S',E,hf,q⟩=>by
 obtain⟨h1,e3⟩:=R3.of_ok hf;subst e3;exact⟨[],ρ.b,down δ,v,E.down,h1,fun H' s=>q ρ H' (Pre.same s) (E.sw.same s)⟩⟩
def bT(f:av->R Bool):FB:=fun δ S=>R3.of (f (fj S δ)) S
theorem Au{f:av->R Bool}(h:QB X e f):BD X cl e (bT f):=⟨h.1.imp fun σ H Q ⟨ρ,S,δ,v,S',E,hf,q⟩=>by
 obtain⟨h1,e3⟩:=R3.of_ok hf;subst e3;exact⟨[],[],fj _ δ,v,E.fj,h1,fun H' s=>q ρ H' (Pre.same s) (E.sw.same s)⟩⟩
def eO(i:Nat):FX:=fun δ S=>match δ[i]? with | some (some v)=> .ok v S | _=> .no
theorem bW(i:Nat){x:Str}{pos:Pos}(hN:X.N[i]? =some x:=by rfl)(hv:KP X.env.scope x:=by first | exact Or.inl rfl | exact Or.inr (Or.inl rfl) | exact Or.inr (Or.inr rfl))(hd:(x==("__debug__":Str))=false:=by decide)
 (wF:(x==("__classdict__":Str))=false:=by decide):PX X cl (.Name x pos) (eO i):=⟨(we hN hv hd wF).imp fun σ H Q ⟨ρ,S,δ,v,S',E,hf,q⟩=>by
 unfold eO at hf;split at hf
 .rename_i d' e;cases hf;obtain⟨u,h1,h2⟩:=E.val i _ e;exact⟨u,h1,q u ρ H (Pre.refl ρ H) E.sw h2⟩
 .cases hf⟩
def qA(f:av->R (List D)):FX:=fun δ S=>(R3.of (f (down δ)) S).bind fun ds S=> .ok (.loc S.length) (S++[.lst ds])
theorem iJ{f:av->R (List D)}(h:QN X e f):PX X cl e (qA f):=⟨h.1.imp fun σ H Q ⟨ρ,S,δ,v,S',E,hf,q⟩=>by
 obtain⟨ds,S1,h1,h2⟩:=R3.ai hf;obtain⟨h3,e3⟩:=R3.of_ok h1;cases h2;subst e3;refine⟨[],ρ.b,down δ,ds,E.down,h3,fun a xs H' s n e r=>?_⟩
 have r':aH X.K (ρ.push a).b H' ds xs:=r.bq fun b o e nb=>⟨e,fun hb=>nb (by
  rcases P3.mem_push hb with z | z
  .exact List.mem_cons_of_mem _ z
  .subst z;exact List.mem_cons_self)⟩
 obtain⟨w,p⟩:=E.sw.new (o:= .lst ds) s n ⟨xs,e,r'⟩;exact q _ _ H' p w (by unfold a_;exact⟨a,by show(ρ.r++[a])[_]? =_;rw [<-E.sw.len,List.getElem?_append_right (by omega),Nat.sub_self];rfl,rfl⟩)⟩
end
end L3
end
section
namespace L3
open PySem PySem.Spec PyProof.Rows L2
section
variable {X:Cx} {cl:Zq}
def dW:FA:=fun _ S=> .ok [] S
def aN(f:FX)(g:FA):FA:=fun δ S=>(f δ S).bind fun v S1=>(g δ S1).bind fun vs S2=> .ok (v ::vs) S2
theorem bj:Kl X cl [] dW:=⟨jG.imp fun σ H Q ⟨ρ,S,δ,v,S',E,hf,q⟩=>by
 cases hf;exact q [] ρ H (Pre.refl ρ H) E.sw aL.nil⟩
theorem ao(h:PX X cl e f)(t:Kl X cl es g)(hs:starEach (e ::es) X.env=(false,eval e X.env) ::starEach es X.env:=by rfl):Kl X cl (e ::es) (aN f g):=
 ⟨(fI h.1 t.1 hs).imp fun σ H Q ⟨ρ,S,δ,v,S',E,hf,q⟩=>by
   obtain⟨v1,S1,h1,h2⟩:=R3.ai hf;obtain⟨vs,S2,h3,h4⟩:=R3.ai h2;cases h4;exact⟨ρ,S,δ,v1,S1,E,h1,fun u bX H1 p1 w1 r1=>⟨bX,S1,δ,vs,_,E.to p1 w1,h3,fun us o_ H2 p2 w2 r2=>q _ o_ H2 (p1.trans p2) w2 (aL.cons (r1.pre p2) r2)⟩⟩⟩
def uk:List V3->Option (List D)
 | []=>some []
 | .d x ::r=>(uk r).map (x ::·)
 | _ ::_=>none
theorem j5:∀{vs:List V3} {ds:List D},uk vs=some ds->vs=ds.map .d
 | [],ds,h=>by cases h;rfl
 | .d x ::r,ds,h=>by
   cases e:uk r with
   | none=>have h:(uk r).map (x ::·)=some ds:=h;rw [e] at h;cases h
   | some es=>
     have h:(uk r).map (x ::·)=some ds:=h
     rw[e] at h;cases h;rw[j5 e];rfl
 | .loc _ ::_,_,h=>by cases h
 | .lst _ ::_,_,h=>by cases h
 | .tup _ ::_,_,h=>by cases h
theorem uX:∀ds:List D,uk (ds.map .d)=some ds
 | []=>rfl
 | d ::ds=>by show(uk (ds.map .d)).map (d ::·)=_;rw [uX ds];rfl
def Dl(vs:List V3):V3:=match uk vs with | some ds=> .d (.tup ds) | none=> .tup vs
def yi(vs:List V3):V3:=match uk vs with | some ds=> .d (.lst ds) | none=> .lst vs
def Nq(g:FA):FX:=fun δ S=>(g δ S).bind fun vs S=>R3.bN (decide (vs.length<=sizeLine)) (.ok (Dl vs) S)
theorem zm{H:Hp}{p:Addr}{o:HO}(hp:H p=none):Pre ρ H ρ (upd H p o):=Pre.same (aR hp)
theorem EZ{K:W.Frag}{ρ:P3}{vs:List V3}{xs:List V}{a:Addr}(l:x9 K ρ.b H a xs)(r:aL K ρ H vs xs):a_ K ρ H (Dl vs) (.ref a):=by
 unfold Dl;split
 .rename_i ds e;rw[j5 e] at r;unfold a_ Rep;exact⟨a,xs,rfl,l,r.to⟩
 .unfold a_;exact⟨a,xs,rfl,l,r⟩
theorem FU{K:W.Frag}{ρ:P3}{vs:List V3}{xs:List V}{a:Addr}(l:wL K ρ.b H a xs)(r:aL K ρ H vs xs):a_ K ρ H (yi vs) (.ref a):=by
 unfold yi;split
 .rename_i ds e;rw[j5 e] at r;unfold a_ Rep;exact⟨a,xs,rfl,l,r.to⟩
 .unfold a_;exact⟨a,xs,rfl,l,r⟩
theorem Nu{x1 pos}(h:Kl X cl es g):PX X cl (.Tuple es x1 pos) (Nq g):=⟨(Hn h.1).imp fun σ H Q ⟨ρ,S,δ,v,S',E,hf,q⟩=>by
 obtain⟨vs,S1,h1,h2⟩:=R3.ai hf;obtain⟨hl,h3⟩:=R3.bc h2;cases h3;refine⟨ρ,S,δ,vs,_,E,h1,fun us bX H1 p1 w1 r1=>⟨by rw[<-r1.length];exact of_decide_eq_true hl,fun p hp=>q _ bX _ (p1.trans (zm hp)) (w1.same (aR hp)) ?_⟩⟩
 refine EZ (.inl ⟨fun ha=>?_, .inl aX⟩) (r1.pre (zm hp))
 obtain⟨o,ho⟩:=w1.bs p ha;rw[hp] at ho;cases ho⟩
def Xl(g:FA):FX:=fun δ S=>(g δ S).bind fun vs S=>R3.bN (decide (vs.length<=sizeLine)) (.ok (yi vs) S)
def x2(g:D->D->R D)(fa fb:FX):FX:=fun δ S=>(fa δ S).bind fun a S1=>(fb δ S1).bind fun b S2=>match a,b with
 | .d x, .d y=>(R3.of (g x y) S2).bind fun d S=> .ok (.d d) S
 | _,_=> .no
theorem Rt{K:W.Frag}{g:D->D->R D}{σ:L2.St}{Q:VK}(h:tX K cl (x2 g fa fb) σ H Q) :
 Pt (fun x y H Q=>∃B da db d,(∀a∈B,∃o,H a=some o)/\Rep K B H da x/\Rep K B H db y/\g da db= .ok d/\∀z H',aU H H'->Rep K B H' d z->Q z H') (tX K cl fa) (tX K cl fb) σ H Q:=by
 obtain⟨ρ,S,δ,v,S',E,hf,q⟩:=h;obtain⟨a,S1,h1,h2⟩:=R3.ai hf;obtain⟨b,S2,h3,h4⟩:=R3.ai h2
 match a,b,h1,h3,h4 with
 | .d x, .d y,h1,h3,h4=>
   obtain⟨d,S3,h5,h6⟩:=R3.ai h4;obtain⟨h7,e⟩:=R3.of_ok h5;cases h6;subst e;refine⟨ρ,S,δ, .d x,S1,E,h1,fun u1 bX H1 p1 w1 r1=>⟨bX,S1,δ, .d y,_,E.to p1 w1,h3,fun u2 o_ H2 p2 w2 r2=>?_⟩⟩
   have uA:=r1.pre p2;unfold a_ at uA r2;exact⟨o_.b,x,y,d,w2.bs,uA,r2,h7,fun z H' s r=>q z o_ H' (p1.trans (p2.trans (Pre.same s))) (w2.same s) (by unfold a_;exact r)⟩
 | .d x, .loc _,_,_,h4=>cases h4
 | .d x, .lst _,_,_,h4=>cases h4
 | .d x, .tup _,_,_,h4=>cases h4
 | .loc _,_,_,_,h4=>cases h4
 | .lst _,_,_,_,h4=>cases h4
 | .tup _,_,_,_,h4=>cases h4
theorem MV{op:CmpOp}{g:D->D->R D}(ho:lq X (compareOp op) g)(ha:PX X cl a fa)(hb:PX X cl b fb)(hm:behindInMarks op b=false):PX X cl (.Compare a [op] [b] pos) (x2 g fa fb):=
 ⟨(DZ ho.r ha.1 hb.1 hm).imp fun σ H Q h=>Rt h⟩
def Lz(g:D->D->R D)(fa fb:FX):FB:=fun δ S=>(x2 g fa fb δ S).bind fun v S=>match v with | .d (.bl b)=> .ok b S | _=> .no
theorem mT{op:CmpOp}{g:D->D->R D}(ho:lq X (compareOp op) g)(ha:PX X cl a fa)(hb:PX X cl b fb)(hm:behindInMarks op b=false):BD X cl (.Compare a [op] [b] pos) (Lz g fa fb):=
 ⟨(D3 ho.r ha.1 hb.1 hm).imp fun σ H Q ⟨ρ,S,δ,b,S',E,hf,q⟩=>by
   obtain⟨v,S1,h1,h2⟩:=R3.ai hf;have hv:v= .d (.bl b)/\S1=S':=by
    match v,h2 with
    | .d (.bl k),h2=>cases h2;exact⟨rfl,rfl⟩
    | .d .cu,h2=>cases h2
    | .d (.int _),h2=>cases h2
    | .d (.str _),h2=>cases h2
    | .d (.lst _),h2=>cases h2
    | .d (.tup _),h2=>cases h2
    | .d (.dct _ _),h2=>cases h2
    | .loc _,h2=>cases h2
    | .lst _,h2=>cases h2
    | .tup _,h2=>cases h2
   obtain⟨rfl,rfl⟩:=hv;exact Rt (g:=g) (Q:=fun x H'=>∃k,x= .bl k/\Q k H') ⟨ρ,S,δ,_,_,E,h1,fun u cU H' p w r=>⟨b,by unfold a_ Rep at r;exact r,q cU H' p w⟩⟩⟩
inductive Ou where
 | nx (δ:DE) | rt (v:V3)
abbrev FZ:=DE->aP->R3 Ou
def LN(K:W.Frag)(cl:Zq)(ρ:P3)(H:Hp)(D:Ends)(S':aP):Ou->Prop
 | .nx eD=>∀de cU H',Pre ρ H cU H'->fA K cl cU H' S' de eD->D.nx de H'
 | .rt v=>∀u cU H',Pre ρ H cU H'->SW K cl cU H' S'->a_ K cU H' v u->D.rt u H'
theorem LN.pre{K:W.Frag}{D:Ends}{S':aP}{o:Ou}(q:LN K cl ρ H D S' o)(p:Pre ρ H bX H1):LN K cl bX H1 D S' o:=by
 cases o with
 | nx eD=>exact fun de cU H' p' E'=>q de cU H' (p.trans p') E'
 | rt d=>exact fun v cU H' p' w r=>q v cU H' (p.trans p') w r
def sX(K:W.Frag)(cl:Zq)(F:FZ):TS:=fun D σ H=>∃ρ S δ o S',fA K cl ρ H S σ δ/\F δ S= .ok o S'/\LN K cl ρ H D S' o
structure PZ (X:Cx) (cl:Zq) (st:Stmt) (F:FZ):Prop where
 go:PS X st (sX X.K cl F)
structure Fh (X:Cx) (cl:Zq) (st:List Stmt) (F:FZ):Prop where
 go:yR X st (sX X.K cl F)
def ny:FZ:=fun δ S=> .ok (.nx δ) S
def bw(F G:FZ):FZ:=fun δ S=>(F δ S).bind fun o S1=>match o with | .nx eD=>G eD S1 | .rt d=> .ok (.rt d) S1
theorem eM:Fh X cl [] ny:=⟨y_.imp fun D σ H ⟨ρ,S,δ,o,S',E,hf,q⟩=>by
 cases hf;exact q σ ρ H (Pre.refl ρ H) E⟩
theorem au{st:Stmt}{rest:List Stmt}(h1:PZ X cl st F)(h2:Fh X cl rest G):Fh X cl (st ::rest) (bw F G):=⟨(vL h1.1 h2.1).imp fun D σ H ⟨ρ,S,δ,o,S',E,hf,q⟩=>by
 obtain⟨o1,S1,h1,h2⟩:=R3.ai hf;refine⟨ρ,S,δ,o1,S1,E,h1,?_⟩;cases o1 with
 | nx cP=>
   intro J2 bX H1 p1 E1;exact⟨bX,S1,cP,o,S',E1,h2,q.pre p1⟩
 | rt d=>
   cases h2;exact q⟩
theorem aF{st:Stmt}(h1:PZ X cl st F):Fh X cl [st] F:=⟨yC h1.1⟩
def cC(i:Nat)(f:FX):FZ:=fun δ S=>(f δ S).bind fun v S=>R3.bN (decide (i < δ.length)) (.ok (.nx (δ.set i (some v))) S)
theorem bh{i:Nat}{pos pos':Pos}(hN:X.N.Nodup)(hi:X.N[i]? =some x)(hx:Loc X.env.scope x)(he:PX X cl e f)(hs:swapsWith e (some (.Name x pos')) pos.line X.env=pure false:=by rfl)(hf:X.fn x=true\/X.env.scope.names.lookup x=some .local:=by first | exact .inl rfl | exact .inr rfl | assumption) :
 PZ X cl (.Assign [.Name x pos'] e pos) (cC i f):=⟨(BZ hN hi hx he.1 hs hf).imp fun D σ H ⟨ρ,S,δ,o,S',E,hf,q⟩=>by
 obtain⟨v,S1,h1,h2⟩:=R3.ai hf;obtain⟨hi,h3⟩:=R3.bc h2;cases h3;refine⟨ρ,S,δ,v,_,E,h1,fun u bX H1 p1 w1 r1=>?_⟩
 exact q _ bX H1 p1 ((E.to p1 w1).set (by rw[<-E.len];exact of_decide_eq_true hi) r1)⟩
def fP(f:FX):FZ:=fun δ S=>(f δ S).bind fun v S=> .ok (.rt v) S
theorem cy(he:PX X cl e f):PZ X cl (.Return (some e) pos) (fP f):=⟨(GX he.1).imp fun D σ H ⟨ρ,S,δ,o,S',E,hf,q⟩=>by
 obtain⟨v,S1,h1,h2⟩:=R3.ai hf;cases h2;exact⟨ρ,S,δ,v,_,E,h1,fun u bX H1 p1 w1 r1=>q u bX H1 p1 w1 r1⟩⟩
def x8(c:FB)(F G:FZ):FZ:=fun δ S=>(c δ S).bind fun b S=>if b then F δ S else G δ S
theorem jO(hc:BD X cl c fc)(ha:Fh X cl a F)(hb:Fh X cl b G):PZ X cl (.If c a b pos) (x8 fc F G):=⟨(GJ hc.1 ha.1 hb.1).imp fun D σ H ⟨ρ,S,δ,o,S',E,hf,q⟩=>by
 obtain⟨k,S1,h1,h2⟩:=R3.ai hf;refine⟨ρ,S,δ,k,S1,E,h1,fun bX H1 p1 w1=>?_⟩
 cases k with
 | true=>rw [if_pos rfl] at h2;exact EU ⟨bX,S1,δ,o,S',E.to p1 w1,h2,q.pre p1⟩
 | false=>rw [if_neg (by decide)] at h2;exact Fb ⟨bX,S1,δ,o,S',E.to p1 w1,h2,q.pre p1⟩⟩
def Vd(f:FX):FZ:=fun δ S=>(f δ S).bind fun _ S=> .ok (.nx δ) S
def m_(c:FB)(body:FZ):Nat->FZ
 | 0,_,_=> .no
 | n+1,δ,S=>(c δ S).bind fun b S=>if b then(body δ S).bind fun o S=>match o with | .nx cZ=>m_ c body n cZ S | .rt r=> .ok (.rt r) S else .ok (.nx δ) S
def BX(n:Nat)(c:FB)(body:FZ):FZ:=fun δ S=>m_ c body n δ S
theorem Ht(n:Nat)(hp:PassesOwn (model X.prog X.w) X.A X.env X.xe)(hc:BD X cl c fc)(hb:Fh X cl body F):PZ X cl (.While c body [] pos) (BX n fc F):=
 ⟨(Im hp hc.1 hb.1).imp fun D σ H ⟨ρ,S,δ,o,S',E,hf,q⟩=>by
   refine⟨fun m de H'=>∃bX S1 cP,Pre ρ H bX H'/\fA X.K cl bX H' S1 de cP/\m_ fc F m cP S1= .ok o S',⟨n,ρ,S,δ,Pre.refl ρ H,E,hf⟩,?_⟩
   rintro m de H' ⟨bX,S1,cP,p1,E1,hw⟩;cases m with
   | zero=>cases hw
   | succ m=>
     obtain⟨b,S2,h1,h2⟩:=R3.ai hw;refine⟨bX,S1,cP,b,S2,E1,h1,fun o_ H2 p2 w2=>?_⟩
     cases b with
     | false=>
       rw[if_neg (by decide)] at h2
       cases h2;exact Fb (q de o_ H2 (p1.trans p2) (E1.to p2 w2))
     | true=>
       rw[if_pos rfl] at h2;obtain⟨o1,S3,h3,h4⟩:=R3.ai h2;refine EU ⟨fun VZ H4=>∃Jx S4 δ4,Pre ρ H Jx H4/\fA X.K cl Jx H4 S4 VZ δ4/\m_ fc F m δ4 S4= .ok o S',fun VZ H4 n=>⟨m,Nat.lt_succ_self _,n⟩,o_,S2,cP,o1,S3,E1.to p2 w2,h3,?_⟩
       cases o1 with
       | nx cZ=>exact fun By Bw H3 p3 E3=>⟨Bw,S3,cZ,(p1.trans p2).trans p3,E3,h4⟩
       | rt d=>
         cases h4;exact fun v Bw H3 p3 w r=>q v Bw H3 ((p1.trans p2).trans p3) w r⟩
end
end L3
end
section
namespace L3
open PySem PySem.Spec PyProof.Rows L2
theorem aL.get{K:W.Frag}:∀{ds:List V3} {xs:List V} {i:Nat} {d:V3},aL K ρ H ds xs->ds[i]? =some d->∃x,xs[i]? =some x/\a_ K ρ H d x
 | [],_,_,_,_,e=>by simp at e
 | d ::ds,xs,0,d',h,e=>by
   obtain⟨x,r,rfl,h1,h2⟩:=h.cw;simp at e;subst e;exact⟨x,rfl,h1⟩
 | d ::ds,xs,i+1,d',h,e=>by
   obtain⟨x,r,rfl,h1,h2⟩:=h.cw;obtain⟨y,e1,e2⟩:=aL.get (i:=i) h2 (by simpa using e)
   exact⟨y,by simpa using e1,e2⟩
def Pu(K:W.Frag)(ρ:P3)(H:Hp)(J:It)(vs:List V3):Prop:=∀cU H',PW ρ H cU H'->(∀a∈cU.b,∃o,H' a=some o)->(∀(i:Nat) (d:V3),vs[i]? =some d->J.go i H'/\∀x nY,J.yld i H' x nY->aU H' nY/\a_ K cU nY d x)/\J.stop vs.length H'
theorem Pu.of{K:W.Frag}{ρ:P3}{J:It}{ds:List D}(h:Hs K ρ.b H J ds):Pu K ρ H J (ds.map .d):=fun cU H' p bs=>by
 obtain⟨h1,h2⟩:=h cU.b H' p.bq;refine⟨fun i v hv=>?_,by rw[List.length_map];exact h2⟩
 rw[List.getElem?_map] at hv;cases e:ds[i]? with
 | none=>rw [e] at hv;cases hv
 | some d=>
   rw[e] at hv;cases hv;obtain⟨g1,g2⟩:=h1 i d e;exact⟨g1,fun x nY y=>let⟨s,r⟩:=g2 x nY y bs;⟨s,by unfold a_;exact r⟩⟩
def Vo(K:W.Frag)(cl:Zq)(f:FA):TI:=fun σ H R=>∃ρ S δ vs S',fA K cl ρ H S σ δ/\f δ S= .ok vs S'/\∀J bX H1,Pre ρ H bX H1->SW K cl bX H1 S'->Pu K bX H1 J vs->R J H1
structure Mg (X:Cx) (cl:Zq) (tg e:Expr) (f:FA):Prop where
 go:PI X tg e (Vo X.K cl f)
section
variable {X:Cx} {cl:Zq}
def iP(f:av->R (List D)):FA:=fun δ S=>(R3.of (f (down δ)) S).bind fun ds S=> .ok (ds.map .d) S
theorem bE{f:av->R (List D)}(h:BE X tg e f):Mg X cl tg e (iP f):=⟨h.1.imp fun σ H Q ⟨ρ,S,δ,vs,S',E,hf,q⟩=>by
 obtain⟨ds,S1,h1,h2⟩:=R3.ai hf;obtain⟨h3,e3⟩:=R3.of_ok h1;cases h2;subst e3;exact⟨[],ρ.b,down δ,ds,E.down,h3,fun J H1 s r=>q J ρ H1 (Pre.same s) (E.sw.same s) (Pu.of r)⟩⟩
def A0(f:FX):FA:=fun δ S=>(f δ S).bind fun v S=>match v with | .d (.int j)=>R3.bN (decide (-(2 ^ 62)<=j/\j < 2 ^ 62)) (.ok ((gq 0 j.toNat).map .d) S) | _=> .no
theorem BR{tg a:Expr}{p pos:Pos}(h:PX X cl a f)(hg:Gl X "range")(hm:X.mg "range"=none)(hs:starEach [a] X.env=[(false,eval a X.env)]:=by rfl):Mg X cl tg (.Call (.Name "range" p) [a] [] pos) (A0 f):=
 ⟨(xJ hg hm (fI h.1 jG hs) hs).imp fun σ H RR ⟨ρ,S,δ,vs,S',E,hf,q⟩=>by
   obtain⟨v,S1,h1,h2⟩:=R3.ai hf
   match v,h1,h2 with
   | .d (.int j),h1,h2=>
     obtain⟨hb,h3⟩:=R3.bc h2;cases h3;have hb:=of_decide_eq_true hb;refine⟨ρ,S,δ, .d (.int j),_,E,h1,fun u bX H1 p1 w1 r1=>⟨j,?_,hb.1,hb.2,q _ bX H1 p1 w1 (Pu.of (IP 0 _))⟩⟩
     unfold a_ Rep at r1;rw[r1]
   | .d .cu,_,h2=>cases h2
   | .d (.bl _),_,h2=>cases h2
   | .d (.str _),_,h2=>cases h2
   | .d (.lst _),_,h2=>cases h2
   | .d (.tup _),_,h2=>cases h2
   | .d (.dct _ _),_,h2=>cases h2
   | .loc _,_,h2=>cases h2
   | .lst _,_,h2=>cases h2
   | .tup _,_,h2=>cases h2⟩
def zN(f:FX):FA:=fun δ S=>(f δ S).bind fun v S=>match v with | .d (.lst ds)=> .ok (ds.map .d) S | .lst vs=> .ok vs S | _=> .no
theorem pM(h:PX X cl e f):Mg X cl tg e (zN f):=⟨by
 intro pins s σ H RR I ⟨ρ,S,δ,vs,S',E,hf,q⟩;obtain⟨v,S1,h1,h2⟩:=R3.ai hf;refine d6 (h.1 pins s σ H (fun u H1=>∃bX,Pre ρ H bX H1/\SW X.K cl bX H1 S1/\a_ X.K bX H1 v u) I ⟨ρ,S,δ,v,S1,E,h1,fun u bX H1 p1 w1 r1=>⟨bX,p1,w1,r1⟩⟩) fun u s1 ⟨x,H1,I1,r1,bX,p1,w1,rr⟩=>?_
 have key:S1=S'/\∃a xs,x= .ref a/\wL X.K bX.b H1 a xs/\aL X.K bX H1 vs xs:=by
  match v,h2,rr with
  | .d (.lst ds),h2,rr=>
    cases h2;unfold a_ Rep at rr;obtain⟨a,xs,e,l,r⟩:=rr;exact⟨rfl,a,xs,e,l,aL.of r⟩
  | .lst ws,h2,rr=>
    cases h2;unfold a_ at rr;exact⟨rfl,rr⟩
  | .d .cu,h2,_=>cases h2
  | .d (.bl _),h2,_=>cases h2
  | .d (.int _),h2,_=>cases h2
  | .d (.str _),h2,_=>cases h2
  | .d (.tup _),h2,_=>cases h2
  | .d (.dct _ _),h2,_=>cases h2
  | .loc _,h2,_=>cases h2
  | .tup _,h2,_=>cases h2
 obtain⟨rfl,a,xs,rfl,l,rr⟩:=key;cases r1;obtain⟨its,rv,p,hz⟩:=I1.list l.sq;refine wpAny_pyIter_list p.isList ?_;refine⟨s1.heap.objs.size,[s1.heap.objs.size],_,_,H1,rfl,I1.kept (t':=s1.toks) fun b o e=>Heap.get?_push_of_some _ e,xp a _,⟨_,Heap.get?_push_size _ rfl,rfl,rfl⟩,fun b hb=>?_,q _ bX H1 p1 w1 fun cU H' pr bs=>?_⟩
 .have e:b=s1.heap.objs.size:=by simpa using hb
  subst e;exact I1.vm (Nat.le_refl _) (I1.hok.fresh (Nat.le_refl _))
 .have l':wL X.K cU.b H' a xs:=l.bq pr.bq;have Pa:=rr.pw pr;refine⟨fun i d hd=>?_,⟨xs,l'.sq,by rw[rr.length];exact Nat.le_refl _⟩⟩
  obtain⟨x,hx,rx⟩:=Pa.get hd;exact⟨⟨xs,x,l'.sq,hx⟩,fun y nY ⟨e1,e2⟩=>by
   subst e1;have:=e2 xs l'.sq;rw[hx] at this;cases this;exact⟨aU.refl _,rx⟩⟩⟩
abbrev FG:=V3->DE->Option DE
abbrev Lq:=List V3->DE->Option DE
def gX(K:W.Frag)(cl:Zq)(t:FG):TG:=fun v σ H Q=>∃ρ S δ x eD,fA K cl ρ H S σ δ/\a_ K ρ H x v/\t x δ=some eD/\∀de H',aU H H'->fA K cl ρ H' S de eD->Q de H'
def Xf(K:W.Frag)(cl:Zq)(t:Lq):HU:=fun v σ H Q=>∃ρ S δ x eD,fA K cl ρ H S σ δ/\aL K ρ H x v/\t x δ=some eD/\∀de H',aU H H'->fA K cl ρ H' S de eD->Q de H'
structure MA (X:Cx) (cl:Zq) (tg:Expr) (t:FG):Prop where
 go:PG X tg (gX X.K cl t)
structure Ke (X:Cx) (cl:Zq) (tg:List Expr) (t:Lq):Prop where
 go:Ll X tg (Xf X.K cl t)
theorem fA.same{K:W.Frag}{S:aP}{σ:L2.St}{δ:DE}(E:fA K cl ρ H S σ δ)(s:aU H H'):fA K cl ρ H' S σ δ:=E.to (Pre.same s) (E.sw.same s)
def jT(i:Nat):FG:=fun d δ=>if i < δ.length then some (δ.set i (some d)) else none
theorem aO{i:Nat}{pos:Pos}(hN:X.N.Nodup)(hi:X.N[i]? =some x)(hx:Loc X.env.scope x)(hf:X.fn x=true\/X.env.scope.names.lookup x=some .local:=by first | exact .inl rfl | exact .inr rfl | assumption):MA X cl (.Name x pos) (jT i):=
 ⟨(Dz hN hi hx hf).imp fun v σ H Q ⟨ρ,S,δ,d,eD,E,r,ht,q⟩=>by
   unfold jT at ht;split at ht
   .rename_i hi;cases ht;exact q _ H (aU.refl H) (E.set (by rw[<-E.len];exact hi) r)
   .cases ht⟩
def KD:Lq:=fun ds δ=>match ds with | []=>some δ | _=>none
def zG(t:FG)(u:Lq):Lq:=fun ds δ=>match ds with | d ::r=>(t d δ).bind fun eD=>u r eD | []=>none
theorem jt:Ke X cl [] KD:=⟨DK.imp fun vs σ H Q ⟨ρ,S,δ,ds,eD,E,r,ht,q⟩=>by
 cases ds with
 | nil=>unfold aL at r;cases ht;exact⟨r,q σ H (aU.refl H) E⟩
 | cons=>cases ht⟩
theorem cB{u:Lq}(h1:MA X cl e t)(h2:Ke X cl es u)(hs:(assignEach (e ::es) X.env).map (·.2)=assign e X.env ::(assignEach es X.env).map (·.2):=by rfl):Ke X cl (e ::es) (zG t u):=
 ⟨(AS h1.1 h2.1 hs).imp fun vs σ H Q ⟨ρ,S,δ,ds,eD,E,r,ht,q⟩=>by
   cases ds with
   | nil=>cases ht
   | cons d ds=>
     obtain⟨x,xs,rfl,r1,r2⟩:=r.cw;have ht:(t d δ).bind (fun eD=>u ds eD)=some eD:=ht
     cases e1:t d δ with
     | none=>rw [e1] at ht;cases ht
     | some cP=>
       rw[e1] at ht;exact⟨x,xs,rfl,ρ,S,δ,d,cP,E,r1,e1,fun J2 H1 s1 E1=>⟨ρ,S,cP,ds,eD,E1,r2.pre (Pre.same s1),ht,fun wH H2 s2 E2=>q wH H2 (s1.trans s2) E2⟩⟩⟩
def JS(n:Nat)(t:Lq):FG:=fun d δ=>match d with
 | .d (.tup ds)=>if ds.length=n then t (ds.map .d) δ else none
 | .tup vs=>if vs.length=n then t vs δ else none
 | _=>none
theorem lx{k:Nat}{t:Lq}{n:Nat}{pos:Pos}(hc:X.calm=true)(h:Ke X cl es t)(hn:(assignEach es X.env).length=n:=by rfl)(Jt:(assignEach es X.env).findIdx? (·.1)=none:=by rfl):MA X cl (.Tuple es k pos) (JS n t):=
 ⟨(II hc h.1 hn Jt).imp fun v σ H Q ⟨ρ,S,δ,d,eD,E,r,ht,q⟩=>by
   have key:∃vs a xs,v= .ref a/\x9 X.K ρ.b H a xs/\aL X.K ρ H vs xs/\vs.length=n/\t vs δ=some eD:=by
    unfold JS at ht;split at ht
    .rename_i ds;split at ht
     .rename_i hl;unfold a_ Rep at r;obtain⟨a,xs,e,l,r⟩:=r;exact⟨ds.map .d,a,xs,e,l,aL.of r,by rw[List.length_map];exact hl,ht⟩
     .cases ht
    .rename_i vs;split at ht
     .rename_i hl;unfold a_ at r;obtain⟨a,xs,e,l,r⟩:=r;exact⟨vs,a,xs,e,l,r,hl,ht⟩
     .cases ht
    .cases ht
   obtain⟨vs,a,xs,rfl,l,r,hl,ht⟩:=key;exact⟨a,xs,rfl,l.sq,by rw[<-r.length];exact hl,ρ,S,δ,vs,eD,E,r,ht,q⟩⟩
def OG(f:FX)(t:FG):FZ:=fun δ S=>(f δ S).bind fun d S=>match t d δ with | some eD=> .ok (.nx eD) S | none=> .no
theorem NJ{tg e:Expr}{f:FX}{t:FG}{pos:Pos}(he:PX X cl e f)(hg:MA X cl tg t)(hs:swapsWithSole [tg] e pos.line X.env=pure false:=by rfl)(hw:swappedStores [tg] e X.env=pure none:=by rfl)
 (h1:(assignEach [tg] X.env).map (·.2)=[assign tg X.env]:=by rfl):PZ X cl (.Assign [tg] e pos) (OG f t):=⟨(OX he.1 hg.1 hs hw h1).imp fun D σ H ⟨ρ,S,δ,o,S',E,hf,q⟩=>by
 obtain⟨d,S1,h1,h2⟩:=R3.ai hf;split at h2
 .rename_i cP e1;cases h2;exact⟨ρ,S,δ,d,_,E,h1,fun v bX H1 p1 w1 r1=>⟨bX,_,δ,d,cP,E.to p1 w1,r1,e1,fun de H2 s2 E2=>q de bX H2 (p1.trans (Pre.same s2)) E2⟩⟩
 .cases h2⟩
def jN(t:FG)(body:FZ):List V3->FZ
 | [],δ,S=> .ok (.nx δ) S
 | d ::ds,δ,S=>match t d δ with
   | none=> .no
   | some cP=>(body cP S).bind fun o S=>match o with | .nx cZ=>jN t body ds cZ S | .rt r=> .ok (.rt r) S
def gn(it:FA)(t:FG)(body:FZ):FZ:=fun δ S=>(it δ S).bind fun vs S=>jN t body vs δ S
theorem cT{tg iter:Expr}{body:List Stmt}{it:FA}{t:FG}{F:FZ}{pos:Pos}(hp:PassesOwn (model X.prog X.w) X.A X.env X.xe)(hc:X.calm=true)(hi:Mg X cl tg iter it)(hg:MA X cl tg t)(hb:Fh X cl body F)
 (hs:∀x,foldedSetIterable iter X.env x=pure x:=by intro _;rfl):PZ X cl (.For tg iter body [] pos) (gn it t F):=⟨(BJ hp hc hi.1 hg.1 hb.1 hs).imp fun D σ H ⟨ρ,S,δ,o,S',E,hf,q⟩=>by
 obtain⟨ds,S0,h1,h2⟩:=R3.ai hf;refine⟨ρ,S,δ,ds,S0,E,h1,fun J bX H1 p1 w1 ir=>?_⟩
 refine⟨fun i m de H'=>m=ds.length - i/\i<=ds.length/\∃cU S1 eD,Pre bX H1 cU H'/\fA X.K cl cU H' S1 de eD/\jN t F (ds.drop i) eD S1= .ok o S',⟨ds.length,rfl,Nat.zero_le _,bX,S0,δ,Pre.refl bX H1,E.to p1 w1,by simpa using h2⟩,?_⟩
 rintro i m de H' ⟨rfl,hi,cU,S1,eD,pv,E',hl⟩;obtain⟨go,stop⟩:=ir cU H' pv.pw E'.sw.bs;by_cases hlt:i < ds.length
 .have hd:ds[i]? =some ds[i]:=List.getElem?_eq_getElem hlt;have hdrop:ds.drop i=ds[i] ::ds.drop (i+1):=List.drop_eq_getElem_cons hlt;rw[hdrop] at hl;unfold jN at hl;split at hl
  .cases hl
  .rename_i cP h3;obtain⟨o1,S2,h5,h6⟩:=R3.ai hl;obtain⟨g1,g2⟩:=go i _ hd;refine .inr ⟨g1,fun wH H2=>∃o_ S2 cZ,Pre bX H1 o_ H2/\fA X.K cl o_ H2 S2 wH cZ/\jN t F (ds.drop (i+1)) cZ S2= .ok o S',fun wH H2 n=>⟨ds.length - (i+1),by omega,rfl,hlt,n⟩,fun x nY y=>?_⟩
   obtain⟨ss,rr⟩:=g2 x nY y;refine⟨cU,S1,eD,ds[i],cP,E'.same ss,rr,h3,fun wH H2 s2 E2=>⟨cU,S1,cP,o1,S2,E2,h5,?_⟩⟩
   have pv2:Pre bX H1 cU H2:=pv.trans (Pre.same (ss.trans s2));cases o1 with
   | nx cZ=>exact fun By Bw H3 p3 E3=>⟨Bw,S2,cZ,pv2.trans p3,E3,h6⟩
   | rt d=>
     cases h6;exact fun v Bw H3 p3 w r=>q v Bw H3 (p1.trans (pv2.trans p3)) w r
 .have e:i=ds.length:=by omega
  subst e;rw[List.drop_length] at hl;cases hl;exact .inl ⟨stop,q de cU H' (p1.trans pv) E'⟩⟩
end
end L3
end
section
namespace L3
open PySem PySem.Spec PyProof.Rows L2
mutual
def oW(n:Nat):V3->Bool
 | .d _=>true
 | .loc k=>decide (k < n)
 | .lst vs=>kz n vs
 | .tup vs=>kz n vs
def kz(n:Nat):List V3->Bool
 | []=>true
 | v ::vs=>oW n v && kz n vs
end
def sZ(n:Nat):SO->Bool
 | .ins _ fs=>kz n (fs.map (·.2))
 | _=>true
theorem LF{ρ:P3}{n:Nat}{b:Addr}(h:b∈(ρ.cut n).b):b∈ρ.b:=by
 rcases P3.eF.mp h with z | z
 .exact P3.eF.mpr (.inl ⟨List.mem_of_mem_take z.1,z.2⟩)
 .exact P3.eF.mpr (.inr z)
theorem kC{ρ:P3}(n:Nat):dP ρ.b H (ρ.cut n).b H:=fun b o e nb=>⟨e,fun hb=>nb (LF hb)⟩
mutual
theorem a_.cut{K:W.Frag}{ρ:P3}{n:Nat}:∀{v:V3} {x:V},oW n v=true->a_ K ρ H v x->a_ K (ρ.cut n) H v x
 | .d y,x,_,h=>by unfold a_ at h ⊢;exact h.bq (kC n)
 | .loc k,x,o,h=>by
   unfold a_ at h ⊢;unfold oW at o;obtain⟨a,h1,h2⟩:=h;exact⟨a,by show(ρ.r.take n)[k]? =_;rw [List.getElem?_take_of_lt (of_decide_eq_true o)];exact h1,h2⟩
 | .lst vs,x,o,h=>by
   unfold a_ at h ⊢;unfold oW at o;obtain⟨a,xs,e,l,r⟩:=h;exact⟨a,xs,e,l.bq (kC n),aL.cut o r⟩
 | .tup vs,x,o,h=>by
   unfold a_ at h ⊢;unfold oW at o;obtain⟨a,xs,e,l,r⟩:=h;exact⟨a,xs,e,x9.bq (kC n) l,aL.cut o r⟩
theorem aL.cut{K:W.Frag}{ρ:P3}{n:Nat}:∀{vs:List V3} {xs:List V},kz n vs=true->aL K ρ H vs xs->aL K (ρ.cut n) H vs xs
 | [],_,_,h=>by unfold aL at h ⊢;exact h
 | v ::vs,xs,o,h=>by
   unfold kz at o;obtain⟨o1,o2⟩:=Bool.and_eq_true_iff.mp o;obtain⟨x,r,rfl,h1,h2⟩:=h.cw;exact aL.cons (a_.cut o1 h1) (aL.cut o2 h2)
end
theorem SW.cut{K:W.Frag}{cl:Zq}{ρ:P3}{S:aP}(w:SW K cl ρ H S){n:Nat}(ok:(S.take n).all (sZ n)=true):SW K cl (ρ.cut n) H (S.take n):=
 ⟨by show(ρ.r.take n).length=_;rw [List.length_take,List.length_take,w.len],fun i j a hi hj=>by
   have hi:(ρ.r.take n)[i]? =some a:=hi;have hj:(ρ.r.take n)[j]? =some a:=hj;have gi:ρ.r[i]? =some a:=by
    rw[List.getElem?_take] at hi;split at hi
    .exact hi
    .cases hi
   have gj:ρ.r[j]? =some a:=by
    rw[List.getElem?_take] at hj;split at hj
    .exact hj
    .cases hj
   exact w.nd i j a gi gj,fun k a o hk ho=>by
   have hk:(ρ.r.take n)[k]? =some a:=hk;have gk:ρ.r[k]? =some a:=by
    rw[List.getElem?_take] at hk;split at hk
    .exact hk
    .cases hk
   have go:S[k]? =some o:=by
    rw[List.getElem?_take] at ho;split at ho
    .exact ho
    .cases ho
   have r:=w.ob k a o gk go;have oo:sZ n o=true:=List.all_eq_true.mp ok o (List.mem_of_getElem? ho);cases o with
   | lst ds=>obtain⟨xs,e,q⟩:=r;exact⟨xs,e,q.bq (kC n)⟩
   | dct kvs=>obtain⟨ys,e,e2,q⟩:=r;exact⟨ys,e,e2,q.bq (kC n)⟩
   | ins c fs=>obtain⟨dx,ys,e,e2,q⟩:=r;exact⟨dx,ys,e,e2,q.cut oo⟩
   | k4=>exact r,fun b hb=>let⟨h1,h2⟩:=w.zb b hb;⟨h1,fun h=>h2 (List.mem_of_mem_take h)⟩,(fun k a hk ho=>by
   have hk:(ρ.r.take n)[k]? =some a:=hk;rw[List.getElem?_take] at hk;split at hk
   .rename_i hlt;rw[List.getElem?_take_of_lt hlt] at ho;exact w.fz k a hk ho
   .cases hk),w.ff,(fun k a hk ho=>by
   have hk:(ρ.r.take n)[k]? =some a:=hk;rw[List.getElem?_take] at hk;split at hk
   .rename_i hlt;rw[List.getElem?_take_of_lt hlt] at ho;exact w.fi k a hk ho
   .cases hk)⟩
theorem SW.NK{K:W.Frag}{cl:Zq}{ρ cU:P3}{n:Nat}(hn:ρ.r.length<=n)(p:Pre ρ H cU H'):Pre ρ H (cU.cut n) H':=
 ⟨p.bq.trans (kC n),p.zz,p.zs,fun k a h=>by show(cU.r.take n)[k]? =_;rw [List.getElem?_take_of_lt (Nat.lt_of_lt_of_le (List.getElem?_eq_some_iff.mp h).1 hn)];exact p.ext k a h⟩
section
variable {X:Cx} {cl:Zq}
def eE(S:aP)(k:Nat):Option (List D):=match S[k]? with | some (.lst ds)=>some ds | _=>none
theorem kT{S:aP}{k:Nat}{ds:List D}(h:eE S k=some ds):S[k]? =some (.lst ds):=by
 unfold eE at h;split at h
 .rename_i e;cases h;exact e
 .cases h
def kg(δ:DE)(i:Nat):Option Nat:=match δ[i]? with | some (some (.loc k))=>some k | _=>none
theorem nu{δ:DE}{i k:Nat}(h:kg δ i=some k):δ[i]? =some (some (.loc k)):=by
 unfold kg at h;split at h
 .rename_i e;cases h;exact e
 .cases h
def oY(i:Nat)(f:FX):FZ:=fun δ S=>match kg δ i with
 | none=> .no
 | some k=>match eE S k with
   | none=> .no
   | some _=>(f δ S).bind fun v S1=>match v with
     | .d d=>(match eE S1 k with | some ds=>R3.bN (decide (ds.length < sizeLine)) (.ok (.nx δ) (S1.set k (.lst (ds++[d])))) | none=> .no)
     | _=> .no
theorem jH{i:Nat}{x:Str}{e:Expr}{f:FX}{k5 apos dU pos:Pos}(hN:X.N[i]? =some x)(hv:KP X.env.scope x)(he:PX X cl e f)
 (hd:(x==("__debug__":Str))=false:=by decide) (wF:(x==("__classdict__":Str))=false:=by decide)
 (hs:starEach [e] X.env=(false,eval e X.env) ::starEach [] X.env:=by rfl) (sf:(apos.endLine==dU.line)=true:=by rfl)
 (zD:((backTo dU (starEach [e] X.env)).all (fun x=>!x.1) && (backToKw dU (keywordEach [] X.env)).all (fun x=>x.1.isSome)
   && decide (([e]:List Expr).length+([]:List Keyword).length+(if([]:List Keyword).isEmpty then 0 else 1) < 30))=true:=by rfl)
 (Jz:swapsWith (.Call (.Attribute (.Name x k5) "append" apos) [e] [] dU) none pos.line X.env=pure false:=by rfl)
 (r_:attributeBase (.Name x k5) "append" X.env (eval (.Name x k5) X.env)=eval (.Name x k5) X.env:=by rfl) :
 PZ X cl (.Expr (.Call (.Attribute (.Name x k5) "append" apos) [e] [] dU) pos) (oY i f):=by
 refine⟨(D7 (Mq (X:=X) PySem.F.plainAttrs_list PySem.F.slot_list_append PySem.F.type_list_append sC (we hN hv hd wF) (fI he.1 jG hs) r_ zD sf hs) Jz).imp fun D σ H ⟨ρ,S,δ,o,S',E,hf,q⟩=>?_⟩
 unfold oY at hf;split at hf
 .cases hf
 .rename_i k hk;split at hf
  .cases hf
  .rename_i ds0 h0;obtain⟨v,S1,h1,h2⟩:=R3.ai hf;split at h2
   .rename_i d;split at h2
    .rename_i ds h3;obtain⟨hl,h4⟩:=R3.bc h2;cases h4;obtain⟨u,u1,u2⟩:=E.val i _ (nu hk);unfold a_ at u2;obtain⟨a,a1,rfl⟩:=u2;obtain⟨Xq,x0,_⟩:=E.sw.ob k a _ a1 (kT h0);refine⟨.ref a,u1, .inl ⟨rfl,Xq,qT.of x0⟩,⟨ρ,S,δ, .d d,S1,E,h1,fun y bX H1 p1 w1 r1=>?_⟩⟩
     have b1:=p1.ext k a a1;obtain⟨xs,x1,x2⟩:=w1.ob k a _ b1 (kT h3);refine⟨a,xs,y,rfl,rfl,x1,by rw[<-x2.length];exact of_decide_eq_true hl,?_⟩
     unfold a_ at r1;obtain⟨w2,p2⟩:=w1.put (o:= .lst (ds++[d])) (u:= .lst (xs++[y])) b1 (w1.fz k a b1 (by rw[kT h3];intro h;cases h)) ⟨xs++[y],rfl,x2.append (aH.cons r1 aH.nil)⟩
     exact q σ bX _ (p1.trans p2) (E.to (p1.trans p2) w2)
    .cases h2
   .cases h2
def WO(fo fi fe:FX):FZ:=fun δ S=>(fe δ S).bind fun v S1=>(fo δ S1).bind fun o S2=>(fi δ S2).bind fun j S3=>match v,o,j with
 | .d d, .loc k, .d (.int n)=>(match eE S3 k with
   | some ds=>(match EA ds.length n with | some m=> .ok (.nx δ) (S3.set k (.lst (ds.set m d))) | none=> .no)
   | none=> .no)
 | _,_,_=> .no
def Gq(K:W.Frag)(cl:Zq)(n:Nat)(g:List V3->aP->R3 V3):Sp:=fun vs H Q _=>vs.length=n/\∃ρ S xs v S',SW K cl ρ H S/\aL K ρ H xs vs/\g xs S= .ok v S'/\∀u cU H',Pre ρ H cU H'->SW K cl cU H' S'->a_ K cU H' v u->Q u H'
def eQ(g:List V3->aP->R3 V3)(fs:FA):FX:=fun δ S=>(fs δ S).bind g
def bp(P:Program)(w:World)(K:W.Frag)(mg:Zp)(base:Heap)(cl:Zq)(k:Nat)(x:Str)(n:Nat)(g:List V3->aP->R3 V3):Prop:=
 ∃(f:Addr) (fd:FuncData) (ps:List Str),jI P w K mg base wJ k f fd ps (Gq K cl n g)/\mg x=some (.ref f)/\PySem.W.keepIn K (.ref f)=true/\Binds K fd ps []
theorem cF{g:List V3->aP->R3 V3}{k j n:Nat}{x:Str}{p pos:Pos}{e:Expr}{es:List Expr}{fs:FA}(C:bp X.prog X.w X.K X.mg X.base cl k x n g)(hr:fq j X.A)(Jv:k<=j)(hg:Gl X x)(ha:Kl X cl (e ::es) fs)
 (hn:∀δ S ds S',fs δ S= .ok ds S'->ds.length=n) (se:(x==("__debug__":Str))=false:=by decide) (he:starEach (e ::es) X.env=(false,eval e X.env) ::starEach es X.env:=by rfl) (nX:(backTo pos (starEach es X.env)).any (·.1)=false:=by rfl) :
 PX X cl (.Call (.Name x p) (e ::es) [] pos) (eQ g fs):=by
 obtain⟨f,fd,ps,F,hm,hk,hb⟩:=C;refine⟨(yG F (hr.mono Jv) hg hm hk hb .nil Bn ha.1 se he nX).imp fun σ H Q ⟨ρ,S,δ,v,S',E,hf,q⟩=>?_⟩
 obtain⟨vs,S1,h1,h2⟩:=R3.ai hf;refine⟨ρ,S,δ,vs,S1,E,h1,fun us bX H1 p1 w1 r1=>?_⟩
 show Gq X.K cl n g (us++[]) H1 Q E0;rw[List.append_nil];exact⟨by rw[<-r1.length];exact hn δ S vs S1 h1,bX,S1,vs,v,S',w1,r1,h2,fun z o_ H2 p2 w2 r2=>q z o_ H2 (p1.trans p2) w2 r2⟩
end
def cA(N:List Str)(vs:List V3):DE:=vs.map some++List.replicate (N.length - vs.length) none
theorem Ha{K:W.Frag}{cl:Zq}{S:aP}{N:List Str}{ds:List V3}{vs:List V}(w:SW K cl ρ H S)(r:aL K ρ H ds vs):fA K cl ρ H S (L2.start N vs) (cA N ds) where
 len:=by unfold L2.start cA;simp [r.length]
 sw:=w
 val:=fun i d e=>by
  unfold cA at e;unfold L2.start;by_cases hi:i < ds.length
  .rw [List.getElem?_append_left (by simpa using hi),List.getElem?_map] at e
   cases q:ds[i]? with
   | none=>rw [q] at e;cases e
   | some d'=>
     rw[q] at e;cases e;obtain⟨x,h1,h2⟩:=r.get q;exact⟨x,by rw[List.getElem?_append_left (by rw[List.length_map,<-r.length];exact hi),List.getElem?_map,h1];rfl,h2⟩
  .rw [List.getElem?_append_right (by simpa using hi),List.getElem?_replicate] at e
   split at e <;> cases e
def pJ(N:List Str)(F:FZ):List V3->aP->R3 V3:=fun vs S=>(F (cA N vs) S).bind fun o S'=>match o with | .rt v=> .ok v S' | .nx _=> .ok (.d .cu) S'
def pN(N:List Str)(F:FZ):List V3->aP->R3 V3:=fun vs S=>(pJ N F vs S).bind fun v S'=>match res S' v with
 | some d=>R3.bN ((S'.take S.length).all (sZ S.length) && fR S.length v) (.ok (.d d) (S'.take S.length))
 | none=> .no
theorem KW{P:Program}{w:World}{K:W.Frag}{mg:Zp}{base:Heap}{cl:Zq}{x qual:Str}{st:Stmt}{f:Addr}{fd:FuncData}{N ps:List Str}{k:Nat}{F:FZ}(Fn:ED K x qual st f fd)(S:aT N ps (ay st))
 (mK:∀(dF:Value) (A:Around) (outer:List Env) (s:Shared) (H:Hp) (E:XK),fq k (A.deeper (envOfC qual (ay st) s.heap.objs.size f dF))->
   Fh (vY wJ P w K mg base N qual (ay st) f dF A outer s H E).Lp cl (aK st) F):jI P w K mg base wJ (k+1) f fd ps (Gq K cl ps.length (pJ N F)):=by
 refine Fn.ok S (fun vs H Q E h=>h.1) (fun dF A outer s H vs Q E hr h=>⟨_,(mK dF A outer s H E hr).1,?_⟩)
 obtain⟨_,ρ,S,ds,v,S',w,r,hg,q⟩:=h;obtain⟨o,S1,h1,h2⟩:=R3.ai hg;refine⟨ρ,S,cA N ds,o,S1,Ha w r,h1,?_⟩;cases o with
 | nx eD=>
   cases h2;exact fun de cU H' p' E'=>q _ cU H' p' E'.sw (by unfold a_ Rep;rfl)
 | rt d'=>
   cases h2;exact fun u cU H' p' w' r'=>q u cU H' p' w' r'
theorem CP{K:W.Frag}{cl:Zq}{N:List Str}{n:Nat}{vs:List V}{Q:VK}{E:XK}(h:Gq K cl n (pN N F) vs H Q E):Gq K cl n (pJ N F) vs H Q E:=by
 obtain⟨hl,ρ,S,xs,v,S',w,r,hg,q⟩:=h;obtain⟨v1,S1,h1,h2⟩:=R3.ai hg;refine⟨hl,ρ,S,xs,v1,S1,w,r,h1,fun u bX H1 p1 w1 r1=>?_⟩
 have pc:Pre ρ H (bX.cut S.length) H1:=SW.NK (K:=K) (cl:=cl) (by rw[w.len];exact Nat.le_refl _) p1
 split at h2
 .rename_i d e;obtain⟨ok,h3⟩:=R3.bc h2;obtain⟨ok,hk⟩:=Bool.and_eq_true_iff.mp ok;cases h3;refine q u _ H1 pc (w1.cut ok) ?_;unfold a_;refine r1.resB w1 (kC _) (fun k a hk a1 ha=>?_) hk e
  rcases P3.eF.mp ha with⟨z,_⟩ | z
  .obtain⟨j,hj⟩:=List.getElem?_of_mem z;have hj:(bX.r.take S.length)[j]? =some a:=hj;rw[List.getElem?_take] at hj;split at hj
   .rename_i hjl;have:=w1.nd j k a hj a1;omega
   .cases hj
  .exact(w1.zb a z).2 (List.mem_of_getElem? a1)
 .cases h2
end L3
end
section
namespace L3
open PySem PySem.Spec PyProof.Rows L2
section
variable {X:Cx} {cl:Zq}
def kX(δ:DE)(i:Nat):Option V3:=match δ[i]? with | some (some v)=>some v | _=>none
def oq(own:List Str)(kp:List Nat)(δ:DE):DE:=List.replicate own.length none++kp.map (kX δ)
theorem Kk{K:W.Frag}{S S':aP}{σ:L2.St}{δ:DE}{own:List Str}{kp:List Nat}(E:fA K cl ρ H S σ δ)(p:PW ρ H cU H')(w:SW K cl cU H' S'):fA K cl cU H' S' (dZ own kp σ) (oq own kp δ) where
 len:=by unfold dZ oq;simp
 sw:=w
 val:=fun i d e=>by
  unfold oq at e;unfold dZ;by_cases hi:i < own.length
  .rw [List.getElem?_append_left (by simpa using hi),List.getElem?_replicate] at e
   split at e <;> cases e
  .rw [List.getElem?_append_right (by simpa using hi),List.length_replicate,List.getElem?_map] at e ⊢
   cases q:kp[i - own.length]? with
   | none=>rw [q] at e;cases e
   | some j=>
     rw[q] at e;have e:kX δ j=some d:=Option.some.inj e;unfold kX at e;split at e
     .rename_i d' ed;cases e;obtain⟨v,h1,h2⟩:=E.val j d ed;exact⟨v,by simp [h1],h2.pw p⟩
     .cases e
def oS(t:FG)(c:FB)(f:FX)(δ:DE):List V3->aP->R3 (List V3)
 | [],S=> .ok [] S
 | v ::vs,S=>match t v δ with
   | none=> .no
   | some cP=>(c cP S).bind fun b S1=>if b then(f cP S1).bind fun y S2=>(oS t c f δ vs S2).bind fun ys S3=> .ok (y ::ys) S3 else oS t c f δ vs S1
def kB(it:FA)(t:FG)(c:FB)(f:FX)(own:List Str)(kp:List Nat):FX:=fun δ S=>(it δ S).bind fun vs S1=>R3.bN (decide (vs.length<=sizeLine)) ((oS t c f (oq own kp δ) vs S1).bind fun ys S2=> .ok (yi ys) S2)
theorem aL.append{K:W.Frag}:∀{ds es:List V3} {xs ys:List V},aL K ρ H ds xs->aL K ρ H es ys->aL K ρ H (ds++es) (xs++ys)
 | [],_,_,_,h,t=>by unfold aL at h;subst h;exact t
 | d ::ds,es,xs,ys,h,t=>by
   obtain⟨x,r,rfl,h1,h2⟩:=h.cw;exact aL.cons h1 (aL.append h2 t)
theorem Eo{K:W.Frag}{own:List Str}{kp:List Nat}{σ:L2.St}{Q:VK}(h:tX K cl (kB it t c f own kp) σ H Q) :
 D6 (Vo K cl it) (gX K cl t) (Nm K cl c) (tX K cl f) own kp σ H Q:=by
 obtain⟨ρ,S,δ,v,SF,E,hf,q⟩:=h;obtain⟨es,S1,h1,h2⟩:=R3.ai hf;obtain⟨hl,h3⟩:=R3.bc h2;have hl:=of_decide_eq_true hl;obtain⟨vs,S2,h4,h5⟩:=R3.ai h3;cases h5;refine⟨ρ,S,δ,es,S1,E,h1,fun J bX H1 p1 w1 ir Dd hD=>?_⟩
 have nDz:Dd ∉ bX.b:=fun hb=>by obtain⟨o,ho⟩:=w1.bs Dd hb;rw [hD] at ho;cases ho
 have nDr:Dd ∉ bX.r:=fun hb=>by obtain⟨o,ho⟩:=w1.rs Dd hb;rw [hD] at ho;cases ho
 have toZ:∀{r' f':List Addr} {H':Hp},Pre bX H1 ⟨r',bX.z,f'⟩ H'->PW bX H1 ⟨r',Dd ::bX.z,f'⟩ H':=fun {r' f' H'} p=>⟨fun b o e nb=>⟨(p.bq b o e nb).1,fun hb=>by
  rcases P3.eF.mp hb with z | z
  .exact(p.bq b o e nb).2 (P3.eF.mpr (.inl z))
  .rcases List.mem_cons.mp z with y | y
   .exact cz e hD y
   .exact(p.bq b o e nb).2 (P3.eF.mpr (.inr y))⟩,p.ext⟩
 have w0:SW K cl ⟨bX.r,Dd ::bX.z,bX.f⟩ (upd H1 Dd (.lst [])) S1:=by
  have s0:aU H1 (upd H1 Dd (.lst [])):=aR hD;have ws:=w1.same s0;refine⟨ws.len,ws.nd,fun k a o hk ho=>?_,fun b hb=>?_,ws.fz,ws.ff,ws.fi⟩
  .have r:=w1.ob k a o hk ho;obtain⟨u,hu⟩:=r.some;rw[s0 a u hu,<-hu];exact r.pw (toZ (Pre.same s0))
  .rcases List.mem_cons.mp hb with y | y
   .subst y;exact⟨⟨_,aX⟩,nDr⟩
   .exact ws.zb b y
 refine⟨fun i m ys H'=>m=es.length - i/\i<=es.length/\ys.length<=i/\H' Dd=some (.lst ys)/\∃r' f' S' done rest,Pre bX H1 ⟨r',bX.z,f'⟩ H'/\SW K cl ⟨r',Dd ::bX.z,f'⟩ H' S'/\vs=done++rest/\aL K ⟨r',Dd ::bX.z,f'⟩ H' done ys/\oS t c f (oq own kp δ) (es.drop i) S'= .ok rest SF,
  ⟨es.length,rfl,Nat.zero_le _,Nat.le_refl _,aX,bX.r,bX.f,S1,[],vs,Pre.same (aR hD),w0,rfl,aL.nil,by simpa using h4⟩,?_⟩
 rintro i m ys H' ⟨rfl,hi,hy,hDl,r',f',S',done,rest,pv,w',rfl,rd,hc⟩;obtain⟨go,stop⟩:=ir ⟨r',Dd ::bX.z,f'⟩ H' (toZ pv) w'.bs;have unZ:∀{Jx:P3} {H4:Hp},Pre ⟨r',Dd ::bX.z,f'⟩ H' Jx H4->Pre bX H1 ⟨Jx.r,bX.z,Jx.f⟩ H4:=fun {Jx H4} p4=>⟨fun b o e nb=>by
  obtain⟨e1,n1⟩:=(toZ pv).bq b o e nb;obtain⟨fH,n2⟩:=p4.bq b o e1 n1;refine⟨fH,fun hb=>n2 ?_⟩
  rcases P3.eF.mp hb with z | z
  .exact P3.eF.mpr (.inl z)
  .exact P3.eF.mpr (.inr (by rw[p4.zz];exact List.mem_cons_of_mem _ z)),rfl,fun b o hb h=>p4.zs b o (List.mem_cons_of_mem _ hb) (pv.zs b o hb h),fun k a h=>p4.ext k a (pv.ext k a h)⟩
 by_cases hlt:i < es.length
 .have hd:es[i]? =some es[i]:=List.getElem?_eq_getElem hlt;have hdrop:es.drop i=es[i] ::es.drop (i+1):=List.drop_eq_getElem_cons hlt;rw[hdrop] at hc;unfold oS at hc;split at hc
  .cases hc
  .rename_i cP h6;obtain⟨b,T1,h7,h8⟩:=R3.ai hc;obtain⟨g1,g2⟩:=go i _ hd;refine .inr ⟨g1,fun x H2 y=>?_⟩
   obtain⟨sy,ry⟩:=g2 x H2 y;have Ec:fA K cl ⟨r',Dd ::bX.z,f'⟩ H2 S' (dZ own kp σ) (oq own kp δ):=Kk E (p1.pw.trans ((toZ pv).trans (Pre.same sy).pw)) (w'.same sy);refine⟨⟨r',Dd ::bX.z,f'⟩,S',oq own kp δ,es[i],cP,Ec,ry,h6,fun By H3 s3 E3=>⟨⟨r',Dd ::bX.z,f'⟩,S',cP,b,T1,E3,h7,fun Jx H4 p4 w4=>?_⟩⟩
   have RD:Pre ⟨r',Dd ::bX.z,f'⟩ H' Jx H4:=(Pre.same (sy.trans s3)).trans p4;cases b with
   | true=>
     rw[if_pos rfl] at h8;refine EU ?_;obtain⟨yv,T2,h9,UG⟩:=R3.ai h8;obtain⟨rs,T3,Uy,Yg⟩:=R3.ai UG;cases Yg;refine⟨Jx,T1,cP,yv,T2,E3.to p4 w4,h9,fun v5 V5 H5 p5 w5 r5=>?_⟩
     have pv5:Pre ⟨r',Dd ::bX.z,f'⟩ H' V5 H5:=RD.trans p5;have U4:H5 Dd=some (.lst ys):=pv5.zs Dd _ List.mem_cons_self hDl;have u5:=unZ pv5;obtain⟨Su,z5,f5⟩:=V5;have ez:z5=Dd ::bX.z:=pv5.zz;subst ez;have nr:Dd ∉ Su:=(w5.zb Dd List.mem_cons_self).2;have pw:PW ⟨Su,Dd ::bX.z,f5⟩ H5 ⟨Su,Dd ::bX.z,f5⟩ (upd H5 Dd (.lst (ys++[v5]))):=⟨fun b o e nb=>⟨by rw[bb (fun(z:b=Dd)=>nb (by rw[z];exact P3.eF.mpr (.inr List.mem_cons_self)))];exact e,nb⟩,fun _ _ h=>h⟩
     refine⟨U4,by omega,es.length - (i+1),by omega,rfl,hlt,by rw[List.length_append,List.length_singleton];omega,aX,Su,f5,T2,done++[yv],rs,?_,?_,by simp,aL.append ((rd.pre pv5).pw pw) (aL.cons (r5.pw pw) aL.nil),Uy⟩
     .refine⟨fun b o e nb=>⟨by rw[bb (cz e hD)];exact(u5.bq b o e nb).1,(u5.bq b o e nb).2⟩,rfl,fun b o hb h=>?_,u5.ext⟩
      rw[bb (cz h hD)];exact u5.zs b o hb h
     .refine⟨w5.len,w5.nd,fun k a o hk ho=>?_,fun b hb=>?_,w5.fz,fun b hb=>?_,w5.fi⟩
      .have ne:a≠Dd:=fun z=>nr (by rw[<-z];exact List.mem_of_getElem? hk)
       rw[bb ne];exact(w5.ob k a o hk ho).pw pw
      .obtain⟨⟨o,ho⟩,n⟩:=w5.zb b hb;refine⟨?_,n⟩;by_cases z:b=Dd
       .subst z;exact⟨_,aX⟩
       .rw [bb z];exact⟨o,ho⟩
      .obtain⟨o,ho⟩:=w5.ff b hb;by_cases z:b=Dd
       .subst z;exact⟨_,aX⟩
       .rw [bb z];exact⟨o,ho⟩
   | false=>
     rw[if_neg (by decide)] at h8
     refine Fb ?_;have XU:H4 Dd=some (.lst ys):=RD.zs Dd _ List.mem_cons_self hDl;have u4:=unZ RD;obtain⟨X0,z4,f4⟩:=Jx;have ez:z4=Dd ::bX.z:=RD.zz;subst ez;exact⟨es.length - (i+1),by omega,rfl,hlt,by omega,XU,X0,f4,T1,done,rest,u4,w4,rfl,rd.pre RD,h8⟩
 .have e:i=es.length:=by omega
  subst e;rw[List.drop_length] at hc;cases hc;rw[List.append_nil] at q;refine .inl ⟨stop,?_⟩;have back:PW ⟨r',Dd ::bX.z,f'⟩ H' ⟨r',bX.z,f'⟩ H':=⟨fun b o e nb=>⟨e,fun hb=>nb (by
   rcases P3.eF.mp hb with z | z
   .exact P3.eF.mpr (.inl z)
   .exact P3.eF.mpr (.inr (List.mem_cons_of_mem _ z)))⟩,fun _ _ h=>h⟩
  have wB:SW K cl ⟨r',bX.z,f'⟩ H' _:=⟨w'.len,w'.nd,fun k a o hk ho=>(w'.ob k a o hk ho).pw back,fun b hb=>w'.zb b (List.mem_cons_of_mem _ hb),w'.fz,w'.ff,w'.fi⟩
  refine q _ ⟨r',bX.z,f'⟩ H' (p1.trans pv) wB (FU (.inl ⟨fun hb=>?_, .inl hDl⟩) (rd.pw back))
  rcases P3.eF.mp hb with z | z
  .exact(w'.zb Dd List.mem_cons_self).2 z.1
  .exact nDz (P3.eF.mpr (.inr z))
end
end L3
end
section
namespace L3
open PySem PySem.Spec PyProof.Rows L2
section
variable {X:Cx} {cl:Zq}
theorem uI{scope:Scope}{own:List Str}{kp:List Nat}{kn:List Str}{tg iter elt:Expr}{ifs:List Expr}{it:FA}{t:FG}{c:FB}{f:FX}{pos:Pos}(hc:X.calm=true)(C:bz X scope own kp kn)(hi:Mg X cl tg iter it)
 (hg:∀fp s H,MA (bM X scope (own++kn) fp s H) cl tg t) (Gp:∀fp s H,sr (bM X scope (own++kn) fp s H) ifs (Nm X.K cl c)) (he:∀fp s H,PX (bM X scope (own++kn) fp s H) cl elt f)
 (hs:∀x,foldedSetIterable iter X.env x=pure x:=by intro _;rfl):PX X cl (.ListComp elt [⟨tg,iter,ifs,0⟩] scope pos) (kB it t c f own kp):=
 ⟨(Ex hc C hi.1 (fun fp s H=>(hg fp s H).1) Gp (fun fp s H=>(he fp s H).1) hs).imp fun σ H Q h=>Eo h⟩
def wZ:FB:=fun _ S=> .ok true S
theorem iG:sr X [] (Nm X.K cl wZ):=fun pins s σ H Q I ⟨ρ,S,δ,b,S',E,hf,q⟩=>Bo pins s σ H Q I (by cases hf;exact q ρ H (Pre.refl ρ H) E.sw)
theorem zV(h:BD X cl e c):sr X [e] (Nm X.K cl c):=zS h.1
theorem Jn{K:W.Frag}{i:Nat}{D:Ends}{σ:L2.St}(h:sX K cl (cC i f) D σ H):F3 (tX K cl f) (wa i) D σ H:=by
 obtain⟨ρ,S,δ,o,S',E,hf,q⟩:=h;obtain⟨v,S1,h1,h2⟩:=R3.ai hf;obtain⟨hi,h3⟩:=R3.bc h2;cases h3;refine⟨ρ,S,δ,v,_,E,h1,fun u bX H1 p1 w1 r1=>?_⟩
 exact q _ bX H1 p1 ((E.to p1 w1).set (by rw[<-E.len];exact of_decide_eq_true hi) r1)
theorem kr{i:Nat}{x:Str}{pos' Bv:Pos}{scope:Scope}{own:List Str}{kp:List Nat}{kn:List Str}{tg iter elt:Expr}{ifs:List Expr}{it:FA}{t:FG}{c:FB}{f:FX}{pos:Pos}(hc:X.calm=true)
 (hN:X.N.Nodup) (hx:X.N[i]? =some x) (JY:X.env.scope.names.lookup x=some .local) (C:bz X scope own kp kn) (hi:Mg X cl tg iter it)
 (hg:∀fp s H,MA (bM X scope (own++kn) fp s H) cl tg t) (Gp:∀fp s H,sr (bM X scope (own++kn) fp s H) ifs (Nm X.K cl c)) (he:∀fp s H,PX (bM X scope (own++kn) fp s H) cl elt f)
 (Jz:swapsWith (.ListComp elt [⟨tg,iter,ifs,0⟩] scope pos) (some (.Name x pos')) Bv.line X.env=pure true:=by rfl)
 (hs:∀x,foldedSetIterable iter X.env x=pure x:=by intro _;rfl):PZ X cl (.Assign [.Name x pos'] (.ListComp elt [⟨tg,iter,ifs,0⟩] scope pos) Bv) (cC i (kB it t c f own kp)):=
 ⟨(uS hc hN hx JY C hi.1 (fun fp s H=>(hg fp s H).1) Gp (fun fp s H=>(he fp s H).1) Jz hs).imp fun D σ H h=>Eo (Jn h)⟩
def YQ(g:FA):FX:=fun δ S=>(g δ S).bind fun vs S1=>match uk vs with
 | some ds=>R3.bN (decide (ds.length<=sizeLine)) (.ok (.loc S1.length) (S1++[.lst ds]))
 | none=> .no
end
end L3
end
section
namespace L3
open PySem PySem.Spec PyProof.Rows L2
section
variable {X:Cx} {cl:Zq}
def mM(g:List D->R D)(fs:FA):FX:=fun δ S=>(fs δ S).bind fun vs S1=>match uk vs with
 | some ds=>(R3.of (g ds) S1).bind fun d S=> .ok (.d d) S
 | none=> .no
theorem Hu{K:W.Frag}{g:List D->R D}{σ:L2.St}{Q:VK}(h:tX K cl (mM g fs) σ H Q) :
 Vv K cl fs σ H fun vs H1=>∃B ds d,(∀a∈B,∃o,H1 a=some o)/\aH K B H1 ds vs/\g ds= .ok d/\∀z H',aU H1 H'->Rep K B H' d z->Q z H':=by
 obtain⟨ρ,S,δ,v,S',E,hf,q⟩:=h;obtain⟨vs,S1,h1,h2⟩:=R3.ai hf;split at h2
 .rename_i ds e;obtain⟨d,S2,h3,h4⟩:=R3.ai h2;obtain⟨h5,e5⟩:=R3.of_ok h3;cases h4;subst e5;refine⟨ρ,S,δ,vs,_,E,h1,fun us bX H1 p1 w1 r1=>?_⟩
  rw[j5 e] at r1;exact⟨bX.b,ds,d,w1.bs,r1.to,h5,fun z H' s r=>q z bX H' (p1.trans (Pre.same s)) (w1.same s) (by unfold a_;exact r)⟩
 .cases h2
theorem HI{g:List D->R D}{x:Str}{id:String}{p pos:Pos}{e:Expr}{es:List Expr}{fs:FA}(hc:cK X (.builtin id) g)(hg:Gl X x)(hm:X.mg x=none)(hv:bootBuiltins x=some (.builtin id))(ha:Kl X cl (e ::es) fs)(hn:x≠"__name__":=by decide)(se:(x==("__debug__":Str))=false:=by decide)
 (he:starEach (e ::es) X.env=(false,eval e X.env) ::starEach es X.env:=by rfl) (nX:(backTo pos (starEach es X.env)).any (·.1)=false:=by rfl):PX X cl (.Call (.Name x p) (e ::es) [] pos) (mM g fs):=
 ⟨(vJ hc.r hg hm hv ha.1 hn se he nX).imp fun σ H Q h=>Hu h⟩
def YW(c:FB)(f g:FX):FX:=fun δ S=>(c δ S).bind fun b S=>if b then f δ S else g δ S
theorem aZ:∀(δ:DE) (S:aP) (ds:List V3) (S':aP),dW δ S= .ok ds S'->ds.length=0:=fun δ S ds S' h=>by cases h;rfl
theorem aj{g:FA}{n:Nat}(h:∀(δ:DE) (S:aP) (ds:List V3) (S':aP),g δ S= .ok ds S'->ds.length=n):∀(δ:DE) (S:aP) (ds:List V3) (S':aP),aN f g δ S= .ok ds S'->ds.length=n+1:=fun δ S ds S' e=>by
 obtain⟨v,S1,h1,h2⟩:=R3.ai e;obtain⟨vs,S2,h3,h4⟩:=R3.ai h2;cases h4;rw[List.length_cons,h δ S1 vs _ h3]
end
end L3
end
section
namespace L3
open PySem PySem.Spec PyProof.Rows L2
theorem xq{K:W.Frag}{ds:List V3}{xs:List V}{i:Int}{d:V3}(r:aL K ρ H ds xs)(h:ur ds i=some d):∃x,ur xs i=some x/\a_ K ρ H d x:=by
 unfold ur at h ⊢;rw[<-r.length];cases e:EA ds.length i with
 | none=>rw [e] at h;cases h
 | some j=>
   rw[e] at h;exact r.get h
section
variable {X:Cx} {cl:Zq}
def R8(fa fb:FX):FX:=fun δ S=>(fa δ S).bind fun a S1=>(fb δ S1).bind fun b S2=>match a,b with
 | .d x, .d y=>(R3.of (cn x y) S2).bind fun d S=> .ok (.d d) S
 | .lst vs, .d (.int i)=>(match ur vs i with | some v=> .ok v S2 | none=> .no)
 | .tup vs, .d (.int i)=>(match ur vs i with | some v=> .ok v S2 | none=> .no)
 | _,_=> .no
theorem Mx(ha:PX X cl a fa)(hb:PX X cl b fb)(hs:uG b):PX X cl (.Subscript a b pos) (R8 fa fb):=by
 refine⟨(Mo (r:=Tj X.K) IX ha.1 hb.1 hs).imp fun σ H Q ⟨ρ,S,δ,v,S',E,hf,q⟩=>?_⟩
 obtain⟨v1,S1,h1,h2⟩:=R3.ai hf;obtain⟨v2,S2,h3,h4⟩:=R3.ai h2;refine⟨ρ,S,δ,v1,S1,E,h1,fun u1 bX H1 p1 w1 r1=>⟨bX,S1,δ,v2,S2,E.to p1 w1,h3,fun u2 o_ H2 p2 w2 r2=>?_⟩⟩
 have uA:=r1.pre p2;have RN:=p1.trans p2;split at h4
 .rename_i x y;obtain⟨d,S3,h5,h6⟩:=R3.ai h4;obtain⟨h7,e7⟩:=R3.of_ok h5;cases h6;subst e7;unfold a_ at uA r2;unfold cn at h7;split at h7
  .split at h7
   .rename_i e;cases h7;obtain⟨p,xs,rfl,l,rs⟩:=Rep.lst.mp uA;obtain⟨y,e1,e2⟩:=rH rs e;exact .inl ⟨p,xs,_,y,rfl,Rep.int.mp r2,l.sq,e1,q y o_ H2 RN w2 (by unfold a_;exact e2)⟩
   .cases h7
  .split at h7
   .rename_i e;cases h7;obtain⟨p,xs,rfl,l,rs⟩:=Rep.tup.mp uA;obtain⟨y,e1,e2⟩:=rH rs e;exact .inr (.inl ⟨p,xs,_,y,rfl,Rep.int.mp r2,l.sq,e1,q y o_ H2 RN w2 (by unfold a_;exact e2)⟩)
   .cases h7
  .obtain⟨hl,h8⟩:=R.bc h7;split at h8
   .rename_i e;cases h8;exact .inr (.inr ⟨_,_,_,Rep.str.mp uA,Rep.int.mp r2,of_decide_eq_true hl,e,q _ o_ H2 RN w2 (by unfold a_;exact Rep.str.mpr rfl)⟩)
   .cases h8
  .cases h7
 .split at h4
  .rename_i e;cases h4;unfold a_ at uA r2;obtain⟨p,xs,rfl,l,rs⟩:=uA;obtain⟨y,e1,e2⟩:=xq rs e;exact .inl ⟨p,xs,_,y,rfl,Rep.int.mp r2,l.sq,e1,q y o_ H2 RN w2 e2⟩
  .cases h4
 .split at h4
  .rename_i e;cases h4;unfold a_ at uA r2;obtain⟨p,xs,rfl,l,rs⟩:=uA;obtain⟨y,e1,e2⟩:=xq rs e;exact .inr (.inl ⟨p,xs,_,y,rfl,Rep.int.mp r2,l.sq,e1,q y o_ H2 RN w2 e2⟩)
  .cases h4
 .cases h4
end
end L3
end
section
namespace L3
open PySem PySem.Spec PyProof.Rows L2
section
variable {X:Cx} {cl:Zq}
structure JO (X:Cx) (cl:Zq) (e:Expr) (f:FB):Prop where
 go:L2.PW X e (Nm X.K cl f)
theorem JO.pb(h:JO X cl e f):BD X cl e f:=⟨L2.PW.pt h.1⟩
def ND(f g:FB):FB:=fun δ S=>(f δ S).bind fun b S=>if b then g δ S else .ok false S
def Ug(f g:FB):FB:=fun δ S=>(f δ S).bind fun b S=>if b then .ok true S else g δ S
def KC(f:FB):FB:=fun δ S=>(f δ S).bind fun b S=> .ok (!b) S
theorem IL(h:BD X cl a f):JO X cl (.BoolOp .And [a] pos) f:=⟨D4 h.1⟩
theorem KH(h:BD X cl a f):JO X cl (.BoolOp .Or [a] pos) f:=⟨IM h.1⟩
theorem Kc{rest:List Expr}(ha:BD X cl a f)(hb:JO X cl (.BoolOp .And (b ::rest) pos) g):JO X cl (.BoolOp .And (a ::b ::rest) pos) (ND f g):=⟨by
 intro wh pins s σ H Q I ⟨ρ,S,δ,k,S',E,hf,q⟩;refine HA ha.1 hb.1 wh pins s σ H Q I ?_;obtain⟨c,S1,h1,h2⟩:=R3.ai hf;refine⟨ρ,S,δ,c,S1,E,h1,fun bX H1 p1 w1=>?_⟩
 cases c with
 | true=>rw [if_pos rfl] at h2 ⊢;exact⟨bX,S1,δ,k,S',E.to p1 w1,h2,fun o_ H' p2 w2=>q o_ H' (p1.trans p2) w2⟩
 | false=>rw [if_neg (by decide)] at h2 ⊢;cases h2;exact q bX H1 p1 w1⟩
theorem Nj{rest:List Expr}(ha:BD X cl a f)(hb:JO X cl (.BoolOp .Or (b ::rest) pos) g):JO X cl (.BoolOp .Or (a ::b ::rest) pos) (Ug f g):=⟨by
 intro wh pins s σ H Q I ⟨ρ,S,δ,k,S',E,hf,q⟩;refine Mu ha.1 hb.1 wh pins s σ H Q I ?_;obtain⟨c,S1,h1,h2⟩:=R3.ai hf;refine⟨ρ,S,δ,c,S1,E,h1,fun bX H1 p1 w1=>?_⟩
 cases c with
 | true=>rw [if_pos rfl] at h2 ⊢;cases h2;exact q bX H1 p1 w1
 | false=>rw [if_neg (by decide)] at h2 ⊢;exact⟨bX,S1,δ,k,S',E.to p1 w1,h2,fun o_ H' p2 w2=>q o_ H' (p1.trans p2) w2⟩⟩
theorem Dw(ha:BD X cl a f):BD X cl (.UnaryOp .Not a pos) (KC f):=⟨(Iw ha.1).imp fun σ H Q ⟨ρ,S,δ,k,S',E,hf,q⟩=>by
 obtain⟨c,S1,h1,h2⟩:=R3.ai hf;cases h2;exact⟨ρ,S,δ,c,_,E,h1,fun bX H1 p1 w1=>q bX H1 p1 w1⟩⟩
def Jf(f:FX):FB:=fun δ S=>(f δ S).bind fun v S=>match v with | .d d=>R3.of (Ks d) S | _=> .no
theorem Lo(ha:PX X cl a f)(ht:∀{t:TE},PE X a t->PT X a (fun σ H Q=>t σ H fun x H'=>∃b,Kh X.K x H' b/\Q b H')):BD X cl a (Jf f):=
 ⟨(ht ha.1).imp fun σ H Q ⟨ρ,S,δ,b,S',E,hf,q⟩=>by
   obtain⟨v,S1,h1,h2⟩:=R3.ai hf;split at h2
   .rename_i d;obtain⟨h3,e3⟩:=R3.of_ok h2;subst e3;exact⟨ρ,S,δ, .d d,_,E,h1,fun u bX H1 p1 w1 r1=>⟨b,IS (by unfold a_ at r1;exact r1) h3,q bX H1 p1 w1⟩⟩
   .cases h2⟩
abbrev Po:=DE->aP->R3 (Option Int)
def Wv(K:W.Frag)(cl:Zq)(f:Po):TO:=fun σ H Q=>∃ρ S δ o S',fA K cl ρ H S σ δ/\f δ S= .ok o S'/\∀cU H',Pre ρ H cU H'->SW K cl cU H' S'->Q o H'
structure YK (X:Cx) (cl:Zq) (e:Option Expr) (f:Po):Prop where
 go:PO X e (Wv X.K cl f)
def Th:Po:=fun _ S=> .ok none S
def SS(f:FX):Po:=fun δ S=>(f δ S).bind fun v S=>match v with | .d (.int i)=> .ok (some i) S | _=> .no
def YO(f:FX)(fl fh:Po):FX:=fun δ S=>(f δ S).bind fun v S1=>(fl δ S1).bind fun lo S2=>(fh δ S2).bind fun hi S3=>match v with
 | .d d=>(R3.of (Qb d lo hi) S3).bind fun r S=> .ok (.d r) S
 | _=> .no
end
end L3
end
section
namespace L2
open PySem PySem.Spec PyProof.Rows
section
variable {X:Cx}
def Oq(t T:String):Bool:=t==T || (t=="bool" && T=="int")
def Xn(T:String)(f:FD):FD:=fun δ=>(f δ).bind fun d=>match d with | .dct _ _=> .no | _=> .ok (.bl (Oq (tyName d) T))
def nList(f:FD):av->R (List D):=fun δ=>(f δ).bind fun d=>match d with | .lst ds=> .ok ds | .tup ds=> .ok ds | _=> .no
end
end L2
namespace L3
open PySem PySem.Spec PyProof.Rows L2
theorem bU{P:Program}{w:World}{K:W.Frag}{mg:Zp}{base:Heap}{cl:Zq}{x qual:Str}{st:Stmt}{f:Addr}{fd:FuncData}{N ps:List Str}{k:Nat}{F:FZ}{b:List Stmt}{sc:Scope}(hb:aK st=b)(hs:ay st=sc)(Fn:ED K x qual st f fd)(S:aT N ps sc)
 (mK:∀(dF:Value) (A:Around) (outer:List Env) (s:Shared) (H:Hp) (E:XK),fq k (A.deeper (envOfC qual sc s.heap.objs.size f dF))->
   Fh (vY wJ P w K mg base N qual sc f dF A outer s H E).Lp cl b F):jI P w K mg base wJ (k+1) f fd ps (Gq K cl ps.length (pJ N F)):=by
 subst hb hs;exact KW Fn S mK
theorem bp.p{K:W.Frag}{mg:Zp}{cl:Zq}{k:Nat}{n:Nat}{N:List Str}(C:bp P w K mg base cl k x n (pJ N F)):bp P w K mg base cl k x n (pN N F):=
 let⟨f,fd,ps,F,h⟩:=C;⟨f,fd,ps,F.imp fun _ _ _ _ h=>CP h,h⟩
def Sb(N:List Str)(F:FZ):List D->R D:=fun ds=>match pN N F (ds.map .d) [] with
 | .ok (.d d) []=>R.bN d.atom (.ok d)
 | _=> .no
theorem MM{K:W.Frag}{cl:Zq}{N:List Str}{n:Nat}{vs:List V}{Q:VK}{E:XK}(h:IY K n (Sb N F) vs H Q E):Gq K cl n (pJ N F) vs H Q E:=by
 obtain⟨hl,B,ds,d,hb,r,hg,q⟩:=h;unfold Sb at hg;split at hg
 .rename_i d' e;obtain⟨ha,h2⟩:=R.bc hg;cases h2;have r0:aH K (⟨[],[],[]⟩:P3).b H ds vs:=r.bq fun b o e _=>⟨e,by simp [P3.b]⟩
  refine CP ⟨hl,⟨[],[],[]⟩,[],ds.map .d, .d d,[],⟨rfl,fun i j a hi=>by simp at hi,fun k a o hk=>by simp at hk,fun b hb=>by simp at hb,fun k a hk=>by simp at hk,fun b hb=>by simp at hb,fun k a hk=>by simp at hk⟩,aL.of r0,e,fun u cU H' p w' r'=>q u H' (fun b o eb=>?_) ?_⟩
  .exact(p.bq b o eb (by simp [P3.b])).1
  .unfold a_ at r';exact r'.atom ha
 .cases hg
section
variable {X:Cx} {cl:Zq}
theorem Bg{a:Expr}(ha:PX X cl a f)(he:∀whole,isTrue a X.env whole=(do let v <-whole;standAt a.pos;holding [v] (truthy v)):=by intro _;rfl):BD X cl a (Jf f):=Lo ha fun h=>AZ h he
theorem rC{g:List D->R D}{k j n:Nat}{x:Str}{p pos:Pos}{e:Expr}{es:List Expr}{fs:FA}(C:Callee X.prog X.w X.K X.mg X.base k x n g)(hr:fq j X.A)(Jv:k<=j)(hg:Gl X x)(ha:Kl X cl (e ::es) fs)
 (hn:∀δ S ds S',fs δ S= .ok ds S'->ds.length=n) (se:(x==("__debug__":Str))=false:=by decide) (he:starEach (e ::es) X.env=(false,eval e X.env) ::starEach es X.env:=by rfl) (nX:(backTo pos (starEach es X.env)).any (·.1)=false:=by rfl) :
 PX X cl (.Call (.Name x p) (e ::es) [] pos) (mM g fs):=by
 obtain⟨f,fd,ps,F,hm,hk,hb⟩:=C;refine⟨(yG F (hr.mono Jv) hg hm hk hb .nil Bn ha.1 se he nX).imp fun σ H Q ⟨ρ,S,δ,v,S',E,hf,q⟩=>?_⟩
 obtain⟨vs,S1,h1,h2⟩:=R3.ai hf;split at h2
 .rename_i ds e;obtain⟨d,S2,h3,h4⟩:=R3.ai h2;obtain⟨h5,e5⟩:=R3.of_ok h3;cases h4;subst e5;refine⟨ρ,S,δ,vs,_,E,h1,fun us bX H1 p1 w1 r1=>?_⟩
  have hl:=hn δ S vs _ h1;rw[j5 e] at r1;show IY X.K n g (us++[]) H1 Q E0;rw[List.append_nil];exact⟨by rw[<-r1.length,<-j5 e];exact hl,bX.b,ds,d,w1.bs,r1.to,h5,fun z H' s r=>q z bX H' (p1.trans (Pre.same s)) (w1.same s) (by unfold a_;exact r)⟩
 .cases h2
def T4(f:FX):FA:=fun δ S=>(f δ S).bind fun v S=>match v with | .d (.tup ds)=> .ok (ds.map .d) S | .tup vs=> .ok vs S | _=> .no
end
end L3
end
section
namespace L3
open PySem PySem.Spec PyProof.Rows L2
def W3{α:Type}(r:R3 α)(Q:α->aP->Prop):Prop:=∃a S,r= .ok a S/\Q a S
section
variable {α β:Type} {Q Q':α->aP->Prop} {S:aP} {δ:DE}
theorem W3.ok{a:α}(h:Q a S):W3 (.ok a S) Q:=⟨a,S,rfl,h⟩
theorem W3.bind{Q:β->aP->Prop}{r:R3 α}{f:α->aP->R3 β}(h:W3 r fun a S=>W3 (f a S) Q):W3 (r.bind f) Q:=by
 obtain⟨a,S1,e1,b,S2,h2,q⟩:=h;exact⟨b,S2,by rw[e1];exact h2,q⟩
theorem W3.mono{r:R3 α}(h:W3 r Q)(m:∀a S,Q a S->Q' a S):W3 r Q':=let⟨a,S,e,q⟩:=h;⟨a,S,e,m a S q⟩
theorem W3.wh{c:Bool}{r:R3 α}(hc:c=true)(h:W3 r Q):W3 (R3.bN c r) Q:=by rw[hc];exact h
theorem W3.of{r:R α}{a:α}(e:r= .ok a)(h:Q a S):W3 (R3.of r S) Q:=by rw[e];exact⟨a,S,rfl,h⟩
end
section
variable {S:aP} {δ:DE} {QV:V3->aP->Prop} {QB:Bool->aP->Prop} {QA:List V3->aP->Prop} {QO:Ou->aP->Prop}
theorem bV{f:FD}{d:D}(e:f (down δ)= .ok d)(h:QV (.d d) S):W3 (xP f δ S) QV:=W3.bind (W3.of e (W3.ok h))
theorem RX{f:FD}{d:D}(e:f (fj S δ)= .ok d)(ha:nV d=true)(h:QV (.d d) S):W3 (xT f δ S) QV:=W3.bind (W3.of e (W3.wh ha (W3.ok h)))
theorem qX{f:av->R Bool}{b:Bool}(e:f (down δ)= .ok b)(h:QB b S):W3 (bP f δ S) QB:=W3.of e h
theorem Q8{f:av->R Bool}{b:Bool}(e:f (fj S δ)= .ok b)(h:QB b S):W3 (bT f δ S) QB:=W3.of e h
theorem w_var{i:Nat}{v:V3}(e:δ[i]? =some (some v))(h:QV v S):W3 (eO i δ S) QV:=by unfold eO;rw [e];exact W3.ok h
theorem mh{f:av->R (List D)}{ds:List D}(e:f (down δ)= .ok ds)(h:QV (.loc S.length) (S++[.lst ds])):W3 (qA f δ S) QV:=W3.bind (W3.of e (W3.ok h))
theorem cI(h:QA [] S):W3 (dW δ S) QA:=W3.ok h
theorem aD{f:FX}{g:FA}(h:W3 (f δ S) fun v S1=>W3 (g δ S1) fun vs S2=>QA (v ::vs) S2):W3 (aN f g δ S) QA:=W3.bind (h.mono fun _ _ h=>W3.bind (h.mono fun _ _ h=>W3.ok h))
theorem Q2{g:FA}(h:W3 (g δ S) fun vs S1=>vs.length<=sizeLine/\QV (Dl vs) S1):W3 (Nq g δ S) QV:=W3.bind (h.mono fun _ _ h=>W3.wh (decide_eq_true h.1) (W3.ok h.2))
theorem Vg{g:D->D->R D}{fa fb:FX}(h:W3 (fa δ S) fun a S1=>W3 (fb δ S1) fun b S2=>∃x y d,a= .d x/\b= .d y/\g x y= .ok d/\QV (.d d) S2):W3 (x2 g fa fb δ S) QV:=
 W3.bind (h.mono fun _ _ h=>W3.bind (h.mono fun _ _ ⟨_,_,_,e1,e2,e3,q⟩=>by subst e1 e2;exact W3.bind (W3.of e3 (W3.ok q))))
theorem Cu{g:D->D->R D}{fa fb:FX}(h:W3 (fa δ S) fun a S1=>W3 (fb δ S1) fun b S2=>∃x y k,a= .d x/\b= .d y/\g x y= .ok (.bl k)/\QB k S2):W3 (Lz g fa fb δ S) QB:=
 W3.bind (Vg (h.mono fun _ _ h=>h.mono fun _ _ ⟨x,y,k,e1,e2,e3,q⟩=>⟨x,y, .bl k,e1,e2,e3,W3.ok q⟩))
theorem Qg{fa fb:FX}(h:W3 (fa δ S) fun a S1=>W3 (fb δ S1) fun b S2=>∃x y d,a= .d x/\b= .d y/\cn x y= .ok d/\QV (.d d) S2):W3 (R8 fa fb δ S) QV:=
 W3.bind (h.mono fun _ _ h=>W3.bind (h.mono fun _ _ ⟨_,_,_,e1,e2,e3,q⟩=>by subst e1 e2;exact W3.bind (W3.of e3 (W3.ok q))))
theorem dy{g:List V3->aP->R3 V3}{fs:FA}(h:W3 (fs δ S) fun vs S1=>W3 (g vs S1) QV):W3 (eQ g fs δ S) QV:=W3.bind h
theorem rJ{g:List D->R D}{fs:FA}(h:W3 (fs δ S) fun vs S1=>∃ds d,vs=ds.map .d/\g ds= .ok d/\QV (.d d) S1):W3 (mM g fs δ S) QV:=
 W3.bind (h.mono fun _ _ ⟨ds,_,e1,e2,q⟩=>by subst e1;rw [uX];exact W3.bind (W3.of e2 (W3.ok q)))
theorem NS{it:FA}{own:List Str}{kp:List Nat}(h:W3 (it δ S) fun vs S1=>vs.length<=sizeLine/\W3 (oS t c f (oq own kp δ) vs S1) fun ys S2=>QV (yi ys) S2):W3 (kB it t c f own kp δ S) QV:=
 W3.bind (h.mono fun _ _ h=>W3.wh (decide_eq_true h.1) (W3.bind (h.2.mono fun _ _ h=>W3.ok h)))
theorem L9{f:FX}(h:W3 (f δ S) fun v S1=>∃d b,v= .d d/\Ks d= .ok b/\QB b S1):W3 (Jf f δ S) QB:=W3.bind (h.mono fun _ _ ⟨_,_,e,e2,q⟩=>by subst e;exact W3.of e2 q)
theorem w_not{f:FB}(h:W3 (f δ S) fun b S1=>QB (!b) S1):W3 (KC f δ S) QB:=W3.bind (h.mono fun _ _ h=>W3.ok h)
theorem aW{F G:FZ}(h:W3 (F δ S) fun o S1=>∃cP,o= .nx cP/\W3 (G cP S1) QO):W3 (bw F G δ S) QO:=W3.bind (h.mono fun _ _ ⟨_,e,h⟩=>by subst e;exact h)
theorem bB{i:Nat}{f:FX}(hi:i < δ.length)(h:W3 (f δ S) fun v S1=>QO (.nx (δ.set i (some v))) S1):W3 (cC i f δ S) QO:=W3.bind (h.mono fun _ _ h=>W3.wh (decide_eq_true hi) (W3.ok h))
theorem eG{f:FX}(h:W3 (f δ S) fun v S1=>QO (.rt v) S1):W3 (fP f δ S) QO:=W3.bind (h.mono fun _ _ h=>W3.ok h)
theorem m7{c:FB}{F G:FZ}(h:W3 (c δ S) fun b S1=>if b then W3 (F δ S1) QO else W3 (G δ S1) QO):W3 (x8 c F G δ S) QO:=W3.bind (h.mono fun b _ h=>by cases b <;> exact h)
theorem Qr{f:FX}{t:FG}(h:W3 (f δ S) fun v S1=>∃cP,t v δ=some cP/\QO (.nx cP) S1):W3 (OG f t δ S) QO:=W3.bind (h.mono fun _ _ ⟨_,e,q⟩=>by rw[e];exact W3.ok q)
theorem fw(h:QO (.nx δ) S):W3 (ny δ S) QO:=W3.ok h
theorem ik{f:av->R (List D)}{ds:List D}(e:f (down δ)= .ok ds)(h:QA (ds.map .d) S):W3 (iP f δ S) QA:=W3.bind (W3.of e (W3.ok h))
theorem OJ{f:FX}(h:W3 (f δ S) fun v S1=>∃n:Nat,v= .d (.int n)/\n < 1000000/\QA ((gq 0 n).map .d) S1):W3 (A0 f δ S) QA:=W3.bind (h.mono fun _ _ ⟨n,e,hn,q⟩=>by
 subst e;refine W3.wh (decide_eq_true ⟨by omega,by omega⟩) (W3.ok ?_)
 rw[Int.toNat_natCast];exact q)
theorem pG{f:FX}(h:W3 (f δ S) fun v S1=>∃ds,v= .d (.lst ds)/\QA (ds.map .d) S1):W3 (zN f δ S) QA:=W3.bind (h.mono fun _ _ ⟨n,e,q⟩=>by subst e;exact W3.ok q)
theorem d8{it:FA}(h:W3 (it δ S) fun vs S1=>W3 (jN t F vs δ S1) QO):W3 (gn it t F δ S) QO:=W3.bind h
theorem nM{i k:Nat}{f:FX}(hk:δ[i]? =some (some (.loc k)))(h0:∃ds,S[k]? =some (.lst ds))(h:W3 (f δ S) fun v S1=>∃d ds,v= .d d/\S1[k]? =some (.lst ds)/\ds.length < sizeLine/\QO (.nx δ) (S1.set k (.lst (ds++[d])))):W3 (oY i f δ S) QO:=by
 obtain⟨es,h0⟩:=h0;unfold oY;have e1:kg δ i=some k:=by unfold kg;rw [hk]
 have e2:eE S k=some es:=by unfold eE;simp only[h0]
 rw[e1];show W3 (match eE S k with | none=>_ | some _=>_) _
 rw[e2];refine W3.bind (h.mono fun v S1 ⟨d,ds,e,h1,hl,q⟩=>?_)
 subst e;have e3:eE S1 k=some ds:=by unfold eE;simp only[h1]
 show W3 (match eE S1 k with | some ds=>_ | none=>_) _
 rw[e3];exact W3.wh (decide_eq_true hl) (W3.ok q)
theorem vZ{t:FG}{body:FZ}:∀(vs:List V3) (n:Nat) (P:Nat->DE->aP->Prop) {δ:DE} {S:aP},P n δ S->
 (∀i v δ S,vs[i]? =some v->P (n+i) δ S->∃cP,t v δ=some cP/\W3 (body cP S) fun o S1=>∃cZ,o= .nx cZ/\P (n+i+1) cZ S1)->W3 (jN t body vs δ S) fun o S1=>∃cZ,o= .nx cZ/\P (n+vs.length) cZ S1
 | [],n,P,δ,S,h0,_=>W3.ok ⟨δ,rfl,h0⟩
 | v ::vs,n,P,δ,S,h0,hs=>by
   obtain⟨cP,e1,o,S1,e2,cZ,rfl,p2⟩:=hs 0 v δ S rfl h0;have ih:=vZ vs (n+1) P p2 (fun i v' eD S' hi hp=>by
    have:=hs (i+1) v' eD S' (by simpa using hi) (by rw[show n+(i+1)=n+1+i by omega];exact hp)
    rw[show n+(i+1)+1=n+1+i+1 by omega] at this
    exact this)
   rw[show n+1+vs.length=n+(v ::vs).length by rw[List.length_cons];omega] at ih
   unfold jN;rw[e1];refine W3.bind ⟨_,_,e2,?_⟩;exact ih
theorem bF{t:FG}{body:FZ}{vs:List V3}(P:Nat->DE->aP->Prop){δ:DE}{S:aP}(h0:P 0 δ S)
 (hs:∀i v δ S,vs[i]? =some v->P i δ S->∃cP,t v δ=some cP/\W3 (body cP S) fun o S1=>∃cZ,o= .nx cZ/\P (i+1) cZ S1):W3 (jN t body vs δ S) fun o S1=>∃cZ,o= .nx cZ/\P vs.length cZ S1:=by
 have:=vZ (t:=t) (body:=body) vs 0 P h0 (fun i v δ S hi hp=>by simpa using hs i v δ S hi (by simpa using hp))
 simpa using this
theorem vO{t:FG}{c:FB}{f:FX}{δ:DE}:∀(vs:List V3) (n:Nat) (P:Nat->List V3->aP->Prop) {ys:List V3} {S:aP},P n ys S->
 (∀i v ys S,vs[i]? =some v->P (n+i) ys S->∃cP,t v δ=some cP/\W3 (c cP S) fun b S1=>if b then W3 (f cP S1) fun y S2=>P (n+i+1) (ys++[y]) S2 else P (n+i+1) ys S1)->W3 (oS t c f δ vs S) fun zs S1=>P (n+vs.length) (ys++zs) S1
 | [],n,P,ys,S,h0,_=>W3.ok (by rw[List.append_nil];exact h0)
 | v ::vs,n,P,ys,S,h0,hs=>by
   obtain⟨cP,e1,b,S1,e2,h2⟩:=hs 0 v ys S rfl h0;have ih:∀{RI S'},P (n+1) RI S'->W3 (oS t c f δ vs S') fun zs S1=>P (n+(v ::vs).length) (RI++zs) S1:=fun {RI S'} p=>by
    have:=vO (t:=t) (c:=c) (f:=f) (δ:=δ) vs (n+1) P p (fun i v' RI S' hi hp=>by
     have:=hs (i+1) v' RI S' (by simpa using hi) (by rw[show n+(i+1)=n+1+i by omega];exact hp)
     rw[show n+(i+1)+1=n+1+i+1 by omega] at this
     exact this)
    rw[show n+1+vs.length=n+(v ::vs).length by rw[List.length_cons];omega] at this
    exact this
   unfold oS;rw[e1];refine W3.bind ⟨b,S1,e2,?_⟩;cases b with
   | true=>
     rw[if_pos rfl] at h2 ⊢;exact W3.bind (h2.mono fun y S2 p=>W3.bind ((ih p).mono fun zs S3 q=>W3.ok (by rw[List.append_assoc] at q;exact q)))
   | false=>rw [if_neg (by decide)] at h2 ⊢;exact ih h2
theorem Fc{t:FG}{c:FB}{f:FX}{δ:DE}{vs:List V3}(P:Nat->List V3->aP->Prop){S:aP}(h0:P 0 [] S)
 (hs:∀i v ys S,vs[i]? =some v->P i ys S->∃cP,t v δ=some cP/\W3 (c cP S) fun b S1=>if b then W3 (f cP S1) fun y S2=>P (i+1) (ys++[y]) S2 else P (i+1) ys S1):W3 (oS t c f δ vs S) fun zs S1=>P vs.length zs S1:=by
 have:=vO (t:=t) (c:=c) (f:=f) (δ:=δ) vs 0 P h0 (fun i v ys S hi hp=>by simpa using hs i v ys S hi (by simpa using hp))
 simpa using this
theorem wj{QB:Bool->aP->Prop}(h:QB true S):W3 (wZ δ S) QB:=W3.ok h
theorem wI{N:List Str}{F:FZ}{vs:List V3}{δ:DE}(e:cA N vs=δ)(h:W3 (F δ S) fun o S1=>∃v,o= .rt v/\QV v S1):W3 (pJ N F vs S) QV:=by
 subst e;exact W3.bind (h.mono fun _ _ ⟨_,e,q⟩=>by subst e;exact W3.ok q)
def Vm(S:aP):Prop:=∀o∈S,∃ds,o=SO.lst ds
end
section
variable {S:aP} {δ:DE} {QV:V3->aP->Prop}
theorem j1{it:FA}{t:FG}{c:FB}{f:FX}{own:List Str}{kp:List Nat}(P:Nat->List D->aP->Prop)(h:W3 (it δ S) fun vs S1=>vs.length<=sizeLine/\P 0 [] S1/\
 (∀i v ds S2,vs[i]? =some v->P i ds S2->∃cP,t v (oq own kp δ)=some cP/\W3 (c cP S2) fun b S3=>if b then W3 (f cP S3) fun y S4=>∃d,y= .d d/\P (i+1) (ds++[d]) S4 else P (i+1) ds S3)/\
 ∀ds S2,P vs.length ds S2->QV (.d (.lst ds)) S2):W3 (kB it t c f own kp δ S) QV:=by
 refine NS (h.mono fun vs S1 ⟨hl,h0,hs,hq⟩=>⟨hl,?_⟩)
 refine(Fc (fun i ys S=>∃ds,ys=ds.map V3.d/\P i ds S) ⟨[],rfl,h0⟩ ?_).mono fun zs S2 ⟨ds,e,p⟩=>?_
 .rintro i v ys S2 hv ⟨ds,rfl,p⟩;obtain⟨cP,e1,h1⟩:=hs i v ds S2 hv p;refine⟨cP,e1,h1.mono fun b S3 h3=>?_⟩
  cases b with
  | true=>
    rw[if_pos rfl] at h3 ⊢;exact h3.mono fun y S4 ⟨d,e,p⟩=>by subst e;exact⟨ds++[d],by simp,p⟩
  | false=>rw [if_neg (by decide)] at h3 ⊢;exact⟨ds,rfl,h3⟩
 .subst e;unfold yi;rw[uX];exact hq ds S2 p
structure cS (n:Nat) (d:D):Prop where
 pl:eY d=true
 ly:(toPy d).canLay0=true
 dp:(toPy d).depth<=n
theorem cS.int(i:Int):cS 0 (.int i):=⟨by unfold eY;rfl,by unfold toPy PyData.canLay0;rfl,by unfold toPy PyData.depth;omega⟩
theorem cS.bl(b:Bool):cS 0 (.bl b):=⟨by unfold eY;rfl,by unfold toPy PyData.canLay0;rfl,by unfold toPy PyData.depth;omega⟩
theorem cS.cu:cS 0 .cu:=⟨by unfold eY;rfl,by unfold toPy PyData.canLay0;rfl,by unfold toPy PyData.depth;omega⟩
theorem cS.str(h:(PyData.str s).canLay0=true):cS 0 (.str s):=⟨by unfold eY;rfl,by unfold toPy;exact h,by unfold toPy PyData.depth;omega⟩
theorem cS.mono{n m:Nat}{d:D}(h:cS n d)(hm:n<=m):cS m d:=⟨h.pl,h.ly,Nat.le_trans h.dp hm⟩
theorem cS.all{n:Nat}:∀{ds:List D},(∀d∈ds,cS n d)->lh ds=true/\PyData.canLayAll0 (nL ds)=true/\PyData.depthAll (nL ds)<=n
 | [],_=>⟨by unfold lh;rfl,by unfold nL PyData.canLayAll0;rfl,by unfold nL PyData.depthAll;omega⟩
 | d ::ds,h=>by
   obtain⟨h1,h2,h3⟩:=cS.all (ds:=ds) fun x hx=>h x (List.mem_cons_of_mem _ hx)
   have f:=h d List.mem_cons_self;refine⟨by unfold lh;rw [f.pl,h1];rfl,by unfold nL PyData.canLayAll0;rw [f.ly,h2];rfl,?_⟩
   unfold nL PyData.depthAll;have:=f.dp;omega
theorem cS.lst{n:Nat}{ds:List D}(h:∀d∈ds,cS n d):cS (n+1) (.lst ds):=by
 obtain⟨h1,h2,h3⟩:=cS.all h;exact⟨by unfold eY;exact h1,by unfold toPy PyData.canLay0;exact h2,by unfold toPy PyData.depth;omega⟩
theorem cS.tup{n:Nat}{ds:List D}(h:∀d∈ds,cS n d):cS (n+1) (.tup ds):=by
 obtain⟨h1,h2,h3⟩:=cS.all h;exact⟨by unfold eY;exact h1,by unfold toPy PyData.canLay0;exact h2,by unfold toPy PyData.depth;omega⟩
theorem cS.sh{n:Nat}{d:D}(h:cS n d)(hn:n<=64):SeqAt.shaped (toPy d)=true:=by
 unfold SeqAt.shaped;rw[h.ly,decide_eq_true (Nat.le_trans h.dp hn)];rfl
theorem zc{d e:List D}:Em (.lst d) (.lst e)=R.bN (eY (.lst d) && eY (.lst e) && SeqAt.shaped (toPy (.lst d)) && SeqAt.shaped (toPy (.lst e))) (.ok (PyData.eqv (toPy (.lst d)) (toPy (.lst e)))):=rfl
theorem IU{d e:List D}:Em (.tup d) (.tup e)=R.bN (eY (.tup d) && eY (.tup e) && SeqAt.shaped (toPy (.tup d)) && SeqAt.shaped (toPy (.tup e))) (.ok (PyData.eqv (toPy (.tup d)) (toPy (.tup e)))):=rfl
theorem cS.eqT{n:Nat}{ds:List D}(h:cS n (.tup ds))(hn:n<=64):Em (.tup ds) (.tup ds)= .ok true:=by
 rw[IU,h.pl,h.sh hn,SeqAt.eqv_refl _ h.ly];rfl
theorem cS.Wj{n:Nat}{ds:List D}(h:cS n (.lst ds))(hn:n<=64):Em (.lst ds) (.lst ds)= .ok true:=by
 rw[zc,h.pl,h.sh hn,SeqAt.eqv_refl _ h.ly];rfl
end
theorem NV{α:Type}(ds:List α){n:Int}(h:0<=n):L2.cutD ds none (some n)=ds.take n.toNat:=by
 obtain⟨k,rfl⟩:=Int.eq_ofNat_of_zero_le h;unfold L2.cutD;rw[HT.wm,HT.rR,List.drop_zero,Nat.sub_zero,Int.toNat_natCast];by_cases hk:k<=ds.length
 .rw [Nat.min_eq_left hk]
 .rw [Nat.min_eq_right (by omega),List.take_of_length_le (Nat.le_refl _),List.take_of_length_le (by omega)]
theorem HH{α:Type}(ds:List α){n:Int}(h:0<=n):L2.cutD ds (some n) none=ds.drop n.toNat:=by
 obtain⟨k,rfl⟩:=Int.eq_ofNat_of_zero_le h;unfold L2.cutD;rw[HT.wm,HT.rR,Int.toNat_natCast,List.take_of_length_le (by rw[List.length_drop];omega)]
 by_cases hk:k<=ds.length
 .rw [Nat.min_eq_left hk]
 .rw [Nat.min_eq_right (by omega),List.drop_of_length_le (Nat.le_refl _),List.drop_of_length_le (by omega)]
end L3
end
section
namespace L2
open PySem PySem.Spec PyProof.Rows
section
variable {X:Cx}
def GK:D->Bool | .cu=>true | _=>false
def R_(d e:D):R D:=match e with | .cu=> .ok (.bl (GK d)) | _=> .no
def Ab(d e:D):R D:=match e with | .cu=> .ok (.bl (!GK d)) | _=> .no
theorem Ew{K:W.Frag}{B:List Addr}{d:D}{x:V}(r:Rep K B H d x):decide (x= .cu)=GK d:=by
 cases d with
 | cu=>rw [Rep.cu.mp r];rfl
 | bl b=>rw [Rep.bl.mp r];rfl
 | int b=>rw [Rep.int.mp r];rfl
 | str b=>rw [Rep.str.mp r];rfl
 | lst ds=>obtain⟨a,xs,rfl,_⟩:=Rep.lst.mp r;rfl
 | tup ds=>obtain⟨a,xs,rfl,_⟩:=Rep.tup.mp r;rfl
 | dct ks ds=>unfold Rep at r;obtain⟨a,xs,rfl,_⟩:=r;rfl
theorem T6:lq X (compareOp .Is) R_:=lq.of MP fun B H da db d x y Q _ ra rb hg q=>by
 unfold R_ at hg;split at hg
 .cases hg;exact⟨Rep.cu.mp rb,by rw[Ew ra];exact q _ H (aU.refl H) (Rep.bl.mpr rfl)⟩
 .cases hg
theorem HD:lq X (compareOp .IsNot) Ab:=lq.of LI fun B H da db d x y Q _ ra rb hg q=>by
 unfold Ab at hg;split at hg
 .cases hg;exact⟨Rep.cu.mp rb,by rw[Ew ra];exact q _ H (aU.refl H) (Rep.bl.mpr rfl)⟩
 .cases hg
theorem Gg:mr X (.type "int") (fun xs H Q=>∃x n,xs=[.str x]/\PySem.intText? x=some n/\x.length<=640/\Q (.int n) H):=by
 intro pins s σ H xs us Q I r h;obtain⟨x,n,rfl,h1,h2,q⟩:=h;obtain⟨u,rfl,ru⟩:=vals1 r;obtain⟨t,rfl⟩:=ru;exact PySem.W.KIN.call_text h1 h2 ⟨.int n,H,I.tok _,⟨_,rfl⟩,q⟩
def Iq:List D->R D
 | [.str x]=>R.bN (decide (x.length<=640)) (match PySem.intText? x with | some n=> .ok (.int n) | none=> .no)
 | _=> .no
theorem NI:cK X (.type "int") Iq:=cK.of Gg fun B H ds d xs Q _ rs hg q=>by
 unfold Iq at hg;split at hg
 .obtain⟨h1,h2⟩:=R.bc hg;split at h2
  .rename_i e;cases h2;obtain⟨x,rfl,r⟩:=rs.one;exact⟨_,_,by rw[Rep.str.mp r],e,of_decide_eq_true h1,q _ H (aU.refl H) (Rep.int.mpr rfl)⟩
  .cases h2
 .cases hg
def qV(ds:List D):R D:=match ds with | [.str _]=>Iq ds | _=>cInt ds
theorem yZ:cK X (.type "int") qV:=cK.or NI Qu fun a d h=>by
 unfold qV at h;split at h
 .exact .inl h
 .exact .inr h
def Ff(f:FD):FD:=fun δ=>(f δ).bind fun d=>match d with | .int i=> .ok (.int (-i)) | _=> .no
theorem Eg(h:QD X a f):QD X (.UnaryOp .USub a pos) (Ff f):=⟨(Rn Om h.1).imp fun σ H Q ⟨Z,B,δ,d,E,hf,q⟩=>by
 obtain⟨d1,h1,h2⟩:=R.ai hf;split at h2
 .cases h2;exact⟨Z,B,δ,_,E,h1,fun v H1 s1 r1=>⟨_,Rep.int.mp r1,q _ H1 s1 (Rep.int.mpr rfl)⟩⟩
 .cases h2⟩
def U_(d:D)(ds:List D):R D:=match d,ds with
 | .str x,[.str y]=> .ok (.int (Txt.find x y))
 | _,_=> .no
def WC(kvs:List (Str × Str)):D:= .dct (kvs.map fun p=>Sum.inr p.1) (kvs.map fun p=> .str p.2)
def Y3(kvs:List (Str × Str)):List (Key × V):=kvs.map fun p=>((Sum.inr p.1:Key),V.str p.2)
def WU(d k:D):R D:=match d,k with
 | .dct ks ds, .str x=>(match (ks.zip ds).find? fun p=>decide (p.1=Sum.inr x) with | some p=> .ok p.2 | none=> .no)
 | _,_=> .no
end
theorem Rp{K:W.Frag}{mg:Zp}{k n:Nat}{f:Addr}{fd:FuncData}{ps:List Str}:jI P w K mg base wJ k f fd ps (IY K n fun _=> .no):=
 ⟨fun vs H Q E h=>(by obtain⟨_,_,_,_,_,_,h,_⟩:=h;cases h),fun A outer s H args us vs Q E _ _ _ _ h=>(by obtain⟨_,_,_,_,_,_,h,_⟩:=h;cases h)⟩
end L2
namespace L3
open PySem PySem.Spec PyProof.Rows L2
section
variable {X:Cx} {cl:Zq}
def VC(f:FX):FB:=fun δ S=>(f δ S).bind fun v S=>match v with | .d (.bl b)=> .ok b S | _=> .no
def Xg(f g:FX):FX:=fun δ S=>(VC f δ S).bind fun b S=>if b then g δ S else .ok (.d (.bl false)) S
def Y2(f g:FX):FX:=fun δ S=>(VC f δ S).bind fun b S=>if b then .ok (.d (.bl true)) S else g δ S
def zq(i:Nat)(F:FZ):FZ:=fun δ S=>match kg δ i with
 | some k=>(match eE S k with | some ds=>F (δ.set i (some (.d (.lst ds)))) (S.set k .k4) | none=> .no)
 | none=> .no
theorem rh(i:Nat)(h:Fh X cl MK F):Fh X cl MK (zq i F):=⟨h.1.imp fun D σ H ⟨ρ,S,δ,o,S',E,hf,q⟩=>by
 unfold zq at hf;split at hf
 .rename_i k hk;split at hf
  .rename_i ds hds;obtain⟨v,v1,v2⟩:=E.val i _ (nu hk);unfold a_ at v2;obtain⟨a,a1,rfl⟩:=v2;obtain⟨w,p,r⟩:=E.sw.k4 a1 (kT hds);have E1:fA X.K cl ⟨ρ.r,ρ.z,a ::ρ.f⟩ H (S.set k .k4) σ (δ.set i (some (.d (.lst ds)))):=⟨by rw[List.length_set];exact E.len,w,fun j d e=>by
    by_cases h:i=j
    .subst h;rw[List.getElem?_set_self (by obtain⟨h1,_⟩:=List.getElem?_eq_some_iff.mp (nu hk);exact h1)] at e
     cases e;exact⟨_,v1,by unfold a_;exact r⟩
    .rw [List.getElem?_set_ne h] at e;obtain⟨u,u1,u2⟩:=E.val j d e;exact⟨u,u1,u2.pre p⟩⟩
   exact⟨_,_,_,o,S',E1,hf,q.pre p⟩
  .cases hf
 .cases hf⟩
theorem AU{i k:Nat}{ds:List D}{F:FZ}{δ:DE}{S:aP}{QO:Ou->aP->Prop}(hk:δ[i]? =some (some (.loc k)))(hS:S[k]? =some (.lst ds))(h:W3 (F (δ.set i (some (.d (.lst ds)))) (S.set k .k4)) QO):W3 (zq i F δ S) QO:=by
 unfold zq;have e1:kg δ i=some k:=by unfold kg;rw [hk]
 have e2:eE S k=some ds:=by unfold eE;simp only[hS]
 simp only[e1,e2];exact h
end
def Flat(S:aP):Prop:=∀o∈S,∀n,sZ n o=true
end L3
end
section
namespace PySem
open Sem (wp)
open AutoSeq1 (wpAny_loadPart')
section
variable {prog:Program} {w:World} {A:Around} {E:Zl} {s:Shared}
end
end PySem
namespace L2
open PySem PySem.Spec PyProof.Rows
section
variable {X:Cx}
def RY(f:FD):FD:=fun δ=>(f δ).bind fun d=>match d with
 | .int j=>R.bN (decide (-(2 ^ 62)<=j/\j < 16777216)) (.ok (.tup (gq 0 j.toNat)))
 | _=> .no
theorem BS{n:Nat}{acc:Array Value}(h:ItemsOf (fun i v=>∃t,v=Value.int (0+(i:Int)*1) t) acc n):Vals ((List.range n).map fun(i:Nat)=>V.int (0+(i:Int))) acc.toList:=by
 obtain⟨hl,h⟩:=h;have gen:∀(l:List Value) (m:Nat),(∀j v,l[j]? =some v->∃t,v=Value.int (((m+j:Nat):Int)) t)->Vals ((List.range' m l.length).map fun(i:Nat)=>V.int (0+(i:Int))) l:=by
  intro l
  induction l with
  | nil=>intro m _;exact .nil
  | cons x l ih=>
    intro m hv;rw[List.length_cons,List.range'_succ,List.map_cons];obtain⟨t,e⟩:=hv 0 x rfl;refine .cons ⟨t,by rw[e];simp⟩ (ih (m+1) fun j v hj=>?_)
    obtain⟨t,e⟩:=hv (j+1) v (by simpa using hj)
    exact⟨t,by rw[e];congr 1;omega⟩
 have:=gen acc.toList 0 fun j v hj=>by
  obtain⟨t,e⟩:=h j v (by rw[<-hj];simp)
  exact⟨t,by rw[e];congr 1;omega⟩
 rw[<-hl,List.range_eq_range'];simpa using this
theorem As{K:W.Frag}{B:List Addr}:∀l:List Nat,aH K B H (l.map fun(i:Nat)=>D.int (0+(i:Int))) (l.map fun(i:Nat)=>V.int (0+(i:Int)))
 | []=>aH.nil
 | i ::l=>aH.cons (Rep.int.mpr rfl) (As l)
end
end L2
end
section
namespace PySem
open Sem (wp)
open AutoSeq1 (wpAny_loadPart')
section
variable {prog:Program} {w:World} {A:Around} {E:Zl} {s:Shared}
theorem nO{it l:Addr}{i:Nat}{items:Array Value}{x:Value}{Q:Zl}(hit:s.heap.IsTupleIter it l i)(hl:s.heap.IsTuple l items)(hx:items[i]? =some x)
 (hQ:∀h',h'.IsTupleIter it l (i+1)->Heap.SameBut it s.heap h'->Q x {s with heap:=h'}):wpAny (model prog w) A (Builtin.SmallTypes.nextOf (.ref it)) Q E s:=by
 obtain⟨o,ho,hc,hd⟩:=id hit;obtain⟨ol,hol,_,nl,hdl⟩:=hl;unfold Builtin.SmallTypes.nextOf;refine wpAny_bind (wpAny_callSpecial?_slot (name:="__next__") hit.typeIs F.slot_tuple_iterator_next (wpAny_call_entry F.slot_tuple_iterator_next hit.typeIs F.entry_tuple_iterator_next ?_ (F.args_tuple_iterator_next_1 _)));show wpAny _ _ (field (.ref it) 0 >>=_) _ _ s;refine wpAny_bind (wpAny_field ho hd (x:= .ref l) rfl ?_);show wpAny _ _ (if(Value.ref l==Value.none)=true then _ else _) _ _ s;rw [if_neg (show ¬((Value.ref l==Value.none)=true) from Bool.false_ne_true)]
 show wpAny _ _ (field (.ref it) 1 >>=_) _ _ s;refine wpAny_bind (wpAny_field ho hd (x:= .int i 0) rfl ?_);show wpAny _ _ (seqItems? (.ref l) >>=_) _ _ s;refine wpAny_bind (wpAny_seqItems hol hdl ?_);simp only[Int.toNat_natCast,hx];refine wpAny_bind (wpAny_setField ho hd (by simp) (wpAny_pure ⟨x,rfl,wpAny_pure (hQ _ ⟨_,Heap.get?_update_self _ ho (Obj.isFreed_of_fields (Obj.data_mapFields hd _)),(Obj.cls_mapFields ..).trans hc,by rw[Obj.data_mapFields hd];simp [rawInt]⟩ (Heap.SameBut.update ..))⟩))
theorem kN{it l:Addr}{i:Nat}{items:Array Value}{Q:Zl}(hh:A.handled=none)(hit:s.heap.IsTupleIter it l i)(hl:s.heap.IsTuple l items)(hx:items[i]? =none)
 (hE:∀h' e,Heap.ExtBut it s.heap h'->(∃o,h'.get? e=some o/\o.cls= .type "StopIteration")->E (.ref e) {s with heap:=h'}):wpAny (model prog w) A (Builtin.SmallTypes.nextOf (.ref it)) Q E s:=by
 obtain⟨o,ho,hc,hd⟩:=id hit;obtain⟨ol,hol,_,nl,hdl⟩:=hl;unfold Builtin.SmallTypes.nextOf;refine wpAny_bind (wpAny_callSpecial?_slot (name:="__next__") hit.typeIs F.slot_tuple_iterator_next (wpAny_call_entry F.slot_tuple_iterator_next hit.typeIs F.entry_tuple_iterator_next ?_ (F.args_tuple_iterator_next_1 _)));show wpAny _ _ (field (.ref it) 0 >>=_) _ _ s;refine wpAny_bind (wpAny_field ho hd (x:= .ref l) rfl ?_);show wpAny _ _ (if(Value.ref l==Value.none)=true then _ else _) _ _ s;rw [if_neg (show ¬((Value.ref l==Value.none)=true) from Bool.false_ne_true)]
 show wpAny _ _ (field (.ref it) 1 >>=_) _ _ s;refine wpAny_bind (wpAny_field ho hd (x:= .int i 0) rfl ?_);show wpAny _ _ (seqItems? (.ref l) >>=_) _ _ s;refine wpAny_bind (wpAny_seqItems hol hdl ?_);simp only[Int.toNat_natCast,hx];refine wpAny_bind (wpAny_rule (wpAny_bind (wpAny_setField ho hd (by simp) ?_)))
 show wpAny _ _ (newExc (.type "StopIteration") [] >>=_) _ _ _;refine wpAny_bind ?_;simp only[newExc,newTuple];refine wpAny_bind (wpAny_newObj_type ?_ (by size_fits))
 refine wpAny_bind (m:=firstArgMember _ _) (wpAny_of_eq (a:=Value.none) (by first | rfl | (simp only[firstArgMember];rfl)) ?_);refine wpAny_newObj_type ?_ (by size_fits)
 simp only[raiseNew];refine wpAny_bind (wpAny_handled ?_)
 first | rw[show A.in1.handled=none from hh] | rw[hh]
 exact wpAny_bind (wpAny_pure (wpAny_throw (hE _ _ (((Heap.SameBut.update ..).extBut.push _).push _) ⟨_,Heap.get?_push_size _ rfl,rfl⟩)))
end
theorem FC{prog:Program}{w:World}{A:Around}(hh:A.handled=none)(it l:Addr)(uN:l≠it)(items:Array Value) :
 Draws prog w A it [it,l] items.size (fun i v=>items[i]? =some v) (fun i h=>h.IsTupleIter it l i/\h.IsTuple l items) where
 live:=fun _ _ st=>let⟨o,ho,_⟩:=st.1;⟨o,ho⟩
 frame:=fun _ _ _ st hk=>⟨st.1.at fun o e=>hk it (by simp) o e,Heap.IsTuple.at st.2 fun o e=>hk l (by simp) o e⟩
 item:=fun i s Q E hi st hQ=>nO st.1 st.2 (x:=items[i]) (by simp [hi]) fun h' Ux Sr=>hQ _ h' s.toks (by simp [hi]) ⟨Ux,st.2.extBut Sr.extBut uN⟩ Sr
 done:=fun s Q E st hE=>kN hh st.1 st.2 (by simp) hE
theorem uu(l:Addr)(items:Array Value)(o:Obj)(n:Nat)(hc:o.cls= .type "tuple")(hd:o.data= .seq items n) :
 Meets (Builtin.«enumerate.__new__» ⟨[.type "enumerate", .ref l],[]⟩) (fun _ R s=>s.heap.get? l=some o/\
  R (.ok (.ret (.ref (s.heap.push {cls:= .type "tuple_iterator",data:= .fields #[.ref l, .int 0 0]}).objs.size)))
   {s with heap:=(s.heap.push {cls:= .type "tuple_iterator",data:= .fields #[.ref l, .int 0 0]}).push {cls:= .type "enumerate",data:= .fields #[.none, .bool false, .ref s.heap.objs.size,rawInt 0, .none, .none]}}):=
 .of_wp fun prog w A R s h=>by
   obtain⟨hp,g,d,tk,os⟩:=s;obtain⟨hl,h⟩:=h;have hsub:=sub_enumerate;have hL:Heap.IsTuple (Shared.heap ⟨hp,g,d,tk,os⟩) l items:=⟨_,hl,hc,n,hd⟩
   wp_walk using wpAny_loadPart' hl
   refine wpAny_stack_any fun st=>wpAny_pure ?_
   split
   .rename_i c _ _ _ _ _;cases(c==Value.type "enumerate") <;> (wp_walk using wpAny_loadPart' hl,wpAny_pyIter_tuple hL;exact⟨_,rfl,h⟩)
   .wp_walk using wpAny_loadPart' hl,wpAny_pyIter_tuple hL
    exact⟨_,rfl,h⟩
theorem BG{prog:Program}{w:World}{A:Around}{E:Zl}{s:Shared}{l:Addr}{items:Array Value}{Q:Zl}(hL:s.heap.IsTuple l items)
 (h:∀h':Heap,IsEnum h' (s.heap.objs.size+1) s.heap.objs.size 0 .none->h'.IsTupleIter s.heap.objs.size l 0->(∀b o,s.heap.get? b=some o->h'.get? b=some o)->Q (.ref (s.heap.objs.size+1)) {s with heap:=h'}) :
 wpAny (model prog w) A (call (.type "enumerate") [.ref l]) Q E s:=by
 obtain⟨o,hl,hc,n,hd⟩:=hL;refine callType_new F.called_enumerate (by decide) (F.typeCall_enumerate_1 _) (F.newCall_enumerate_1 _) (fun obj=>F.args_object_init_2 obj _) F.entry_enumerate_new (uu l items o n hc hd) ⟨hl,?_⟩
 have hz:(s.heap.push {cls:= .type "tuple_iterator",data:= .fields #[.ref l, .int 0 0]}).objs.size=s.heap.objs.size+1:=Heap.size_push ..;show _/\_;rw [hz];have he:IsEnum ((s.heap.push {cls:= .type "tuple_iterator",data:= .fields #[.ref l, .int 0 0]}).push {cls:= .type "enumerate",data:= .fields #[.none, .bool false, .ref s.heap.objs.size,rawInt 0, .none, .none]}) (s.heap.objs.size+1) s.heap.objs.size 0 .none:=by
  have:=Heap.get?_push_size (s.heap.push {cls:= .type "tuple_iterator",data:= .fields #[.ref l, .int 0 0]}) (o:={cls:= .type "enumerate",data:= .fields #[.none, .bool false, .ref s.heap.objs.size,rawInt 0, .none, .none]}) rfl;rw[hz] at this;exact this
 exact⟨⟨_,he,rfl⟩,h _ he ⟨_,Heap.get?_push_of_some _ (Heap.get?_push_size _ rfl),rfl,rfl⟩ fun b o x=>Heap.get?_push_of_some _ (Heap.get?_push_of_some _ x)⟩
end PySem
namespace L2
open PySem PySem.Spec PyProof.Rows
def Td(K:W.Frag)(a:Addr):It:=
 ⟨fun i H=>∃xs x,tS K H a xs/\xs[i]? =some x,fun i H v H'=>∃p x,H p=none/\v= .ref p/\(∀xs,tS K H a xs->xs[i]? =some x)/\H'=upd H p (.tup [.int i,x]),fun i H=>∃xs,tS K H a xs/\xs.length<=i⟩
theorem CQ{K:W.Frag}{k:Nat}(a e it:Addr)(PR:e≠it):Turn P w K (.Tuple elts k pos) (Td K a) [e,it] e (fun i h=>(∃old,IsEnum h e it ((i:Nat):Int) old)/\h.IsTupleIter it a i) where
 mem:=by simp
 obj:=fun i h st b hb=>by
  obtain⟨⟨old,he⟩,o,ho,c,d⟩:=st;rcases List.mem_cons.mp hb with rfl | hb
  .exact⟨_,he,fun v z=>by cases z⟩
  .have e:b=it:=by simpa using hb
   subst e;exact⟨o,ho,fun v z=>by rw[d] at z;cases z⟩
 keep:=fun i h h' st k=>by
  obtain⟨⟨old,he⟩,hi⟩:=st;exact⟨⟨old,k e (by simp) _ he⟩,hi.at fun o x=>k it (by simp) o x⟩
 item:=by
  intro X hP hw hK hc i pins s σ H E I hf st hg;subst hP hw hK;obtain⟨xs,x,hq,hx⟩:=hg;obtain⟨its,rv,p,hz⟩:=I.tuple hq;have p':s.heap.IsTuple a its.toArray:=p;obtain⟨u,hu,ru⟩:=rv.get hx;obtain⟨⟨old,he⟩,hit⟩:=st;obtain⟨f0,f1,f2,f3,f4,f5⟩:=hf e (by simp)
  obtain⟨g0,g1,g2,g3,g4,g5⟩:=hf it (by simp)
  have ha_it:a≠it:=fun z=>by
   obtain⟨o1,h1,c1,_⟩:=p';obtain⟨o2,h2,c2,_⟩:=hit;rw[z,h2] at h1;cases h1;rw[c2] at c1;exact absurd c1 (by decide)
  have ha_e:e ∉ [it,a]:=fun z=>by
   rcases List.mem_cons.mp z with q | q
   .exact PR q
   .have q:e=a:=by simpa using q
    obtain⟨o1,h1,c1,_⟩:=p';rw[<-q,he] at h1;cases h1;exact absurd (show Value.type "enumerate"=Value.type "tuple" from c1) (by decide)
  refine wpAny_pyNext_enum_itemD (FC (A:=X.A.in1) (I.ok.hd hc) it a ha_it its.toArray) he ⟨hit,p'⟩ (by have:=(List.getElem?_eq_some_iff.mp hu).1;simpa using this) PR ha_e fun u2 jM tk Yk JX RP JC qe yj=>⟨_,rfl,?_⟩
  obtain rfl:u2=u:=by
   have h1:its[i]? =some u2:=by simpa using Yk
   rw[hu] at h1;cases h1;rfl
  obtain⟨Dk,_⟩:=RP;refine wpAny_letOwnedTupleGo_enum JX fun gH JK dh=>?_
  replace dh:Heap.SameBut e jM gH:=dh
  have hel:e < s.heap.objs.size:=Heap.lt_size he;have Bu:gH.get? s.heap.objs.size=some {cls:= .type "tuple",data:= .seq #[.int i tk,u2]}:=(dh.2 _ (Nat.ne_of_gt hel)).trans JC;have kk:∀b o,b≠e->b≠it->s.heap.get? b=some o->gH.get? b=some o:=fun b o h1 h2 q=>(dh.2 b h1).trans (yj b o h1 h2 q)
  have hn:H s.heap.objs.size=none:=I.fresh;have sm:aU H (upd H s.heap.objs.size (.tup [.int i,x])):=aR hn;have nit:∀b o,H b=some o->b≠e/\b≠it:=fun b o q=>⟨fun z=>(by rw[z,f0] at q;cases q),fun z=>(by rw[z,g0] at q;cases q)⟩
  have hok:pR X.prog X.w (upd H s.heap.objs.size (.tup [.int i,x])) gH:=fun b ob q=>by
   by_cases hb:b=s.heap.objs.size
   .subst hb;rw[aX] at q;cases q;exact⟨by show 2<=sizeLine;decide,[.int i tk,u2], .cons ⟨_,rfl⟩ (.cons ru .nil),⟨_,Bu,rfl,_,rfl⟩⟩
   .rw [bb hb] at q;refine(I.hok b ob q).yN (fun c v hc z=>?_) (fun c z=>sm c _ z) fun c ys z=>sm c _ z
    rcases hc with rfl | hc
    .exact kk c v (nit c _ q).1 (nit c _ q).2 z
    .exact kk c v (nit c _ hc).1 (nit c _ hc).2 z
  have nch:∀b,b ∉ [e,it]->b≠e/\b≠it:=fun b hb=>⟨fun z=>hb (by simp [z]),fun z=>hb (by simp [z])⟩
  have I2:Inv X pins σ (upd H s.heap.objs.size (.tup [.int i,x])) {s with heap:=gH,toks:=tk+1}:=by
   refine I.step (g':=s.gens) (d':=s.drawn) (ch:=[e,it]) (fun b hb=>?_) (fun b o _ _ hb q _=>kk b o (nch b hb).1 (nch b hb).2 q) (fun b o _ _ hb q _=>⟨o.slots,kk b o (nch b hb).1 (nch b hb).2 q⟩)
    (fun b o hb q n=>by rw[bb (Nat.ne_of_lt (Heap.lt_size q))];exact n) (fun b o hb q=>⟨o,kk b o (nch b hb).1 (nch b hb).2 q⟩) (fun b ys z=>sm b _ z) (fun b o u z=>sm b _ z) (fun b ps z=>⟨#[],by rw[sm b _ z];simp⟩) (fun m hm=>?_) hok I.bare
   .rcases List.mem_cons.mp hb with rfl | hb
    .exact⟨f3,f1,f4,f5⟩
    .have z:b=it:=by simpa using hb
     subst z;exact⟨g3,g1,g4,g5⟩
   .obtain⟨o,es,ep,ho,r⟩:=hm;exact⟨o,es,ep,kk _ o (Ne.symm f1) (Ne.symm g1) ho,r⟩
  refine⟨.ref s.heap.objs.size,_,I2,rfl,⟨s.heap.objs.size,x,hn,rfl,fun ys hy=>(by rw[I.tm hy hq];exact hx),rfl⟩,⟨⟨_,by simpa using JK⟩,Dk.at fun o q=>(dh.2 it (Ne.symm PR)).trans q⟩,fun b hb=>?_⟩
  rcases List.mem_cons.mp hb with rfl | hb
  .rw [bb (Nat.ne_of_lt hel)];exact f0
  .have z:b=it:=by simpa using hb
   subst z;obtain⟨o,ho,_⟩:=hit;rw[bb (Nat.ne_of_lt (Heap.lt_size ho))];exact g0
 done:=by
  intro X hP hw hK hc i pins s σ H E I hf st hg;subst hP hw hK;obtain⟨xs,hq,hx⟩:=hg;obtain⟨its,rv,p,hz⟩:=I.tuple hq;have p':s.heap.IsTuple a its.toArray:=p;obtain⟨⟨old,he⟩,hit⟩:=st;obtain⟨g0,g1,g2,g3,g4,g5⟩:=hf it (by simp)
  have hl:=rv.length;have hT:s.TypeIs (.ref e) "enumerate":=⟨_,he,rfl⟩;unfold pyNext;refine wpAny_bind (wpAny_attempt (wpAny_callSpecial?_slot (name:="__next__") hT F.slot_enumerate_next (wpAny_call_entry F.slot_enumerate_next hT F.entry_enumerate_next ?_ (F.args_enumerate_next_1 _))));show wpAny _ _ (field (.ref e) 2 >>=_) _ _ _;refine wpAny_bind (wpAny_field he rfl (x:= .ref it) rfl ?_);refine wpAny_bind (kN (A:=X.A.in1) (I.ok.hd hc) hit p' (by simp;omega) fun h' x RE Pe=>?_)
  obtain⟨o,ho,hcl⟩:=Pe;refine wpAny_bind (wpAny_isInstance (T:="StopIteration") (b:=true) ⟨o,ho,hcl⟩ isSubtype_stop ?_);exact wpAny_pure ⟨rfl,I.turned (t':=s.toks) (fun b o hb q=>RE b o hb q) g0 g1 g3 g4 g5⟩
 self:=fun A i s Q E st h=>let⟨⟨_,he⟩,_⟩:=st;wpAny_pyIter_enum he h
section
variable {X:Cx}
def yT(f:FD):av->R (List D):=fun δ=>(f δ).bind fun d=>match d with | .tup ds=> .ok (cm ds) | _=> .no
theorem C5{elts:List Expr}{k:Nat}{tK:Pos}{p pos:Pos}(h:QD X a f)(hg:Gl X "enumerate")(hm:X.mg "enumerate"=none)(hs:starEach [a] X.env=[(false,eval a X.env)]:=by rfl):BE X (.Tuple elts k tK) (.Call (.Name "enumerate" p) [a] [] pos) (yT f):=by
 refine⟨?_⟩;intro pins s σ H RR I ⟨Z,B,δ,ds,E,hf,q⟩;obtain⟨d,h1,h2⟩:=R.ai hf;have hA:=fI h.1 jG hs pos pins s σ H (fun vs H1=>aU H H1/\∃v,vs=[v]/\Rep X.K B H1 d v) I ⟨Z,B,δ,d,E,h1,fun v H1 s1 r1=>⟨s1,v,rfl,r1⟩⟩
 refine Call_ (lQ I hg hm boot_enumerate (PyProof.Rows.callWith_type1 (d6 hA fun us s1 ⟨vs,H1,I1,r1,ss,v,ev,rr⟩=>?_) hs rfl))
 subst ev;obtain⟨u,rfl,ru⟩:=vals1 r1;cases d with
 | tup es=>
   cases h2;obtain⟨b,xs,rfl,l,rs⟩:=Rep.tup.mp rr;cases ru;obtain⟨its,rv,pt,hz⟩:=I1.tuple l.sq;refine BG (items:=its.toArray) pt fun h' he hit kk=>wpAny_pyIter_enum he ?_
   have I2:Inv X pins σ H1 {s1 with heap:=h'}:=I1.kept (t':=s1.toks) kk
   refine⟨s1.heap.objs.size+1,[s1.heap.objs.size+1,s1.heap.objs.size],_,_,H1,rfl,I2,CQ b (s1.heap.objs.size+1) s1.heap.objs.size (Nat.succ_ne_self _),⟨⟨_,he⟩,hit⟩,fun c hc=>?_,q _ H1 ss fun B' H' pr=>?_⟩
   .have hle:s1.heap.objs.size<=c:=by
     rcases List.mem_cons.mp hc with z | hc
     .rw [z];exact Nat.le_succ _
     .have z:c=s1.heap.objs.size:=by simpa using hc
      rw[z];exact Nat.le_refl _
    exact I1.vm hle (I1.hok.fresh hle)
   .have l':x9 X.K B' H' b xs:=l.elim (fun z=> .inl ⟨(pr.rd z.2 z.1).2,(pr.rd z.2 z.1).1⟩) .inr
    have rs':=rs.bq pr;refine⟨fun i d hd=>?_,⟨xs,l'.sq,by rw[<-rs.length];unfold cm;simp⟩⟩
    unfold cm at hd;rw[List.getElem?_map,List.getElem?_zipIdx] at hd;cases e:es[i]? with
    | none=>rw [e] at hd;cases hd
    | some d0=>
      rw[e] at hd;have hd:D.tup [.int ((0+i:Nat):Int),d0]=d:=Option.some.inj hd;rw[Nat.zero_add] at hd;obtain⟨x,hx,rx⟩:=rs'.get e;refine⟨⟨xs,x,l'.sq,hx⟩,fun v nY y JJ=>?_⟩
      obtain⟨p,y,hp,rfl,hy,rfl⟩:=y;refine⟨aR hp,?_⟩;subst hd;have zI:=hy xs l'.sq;rw[hx] at zI;cases zI;refine Rep.tup.mpr ⟨p,_,rfl, .inl ⟨fun ha=>?_, .inl aX⟩,aH.cons (Rep.int.mpr rfl) (aH.cons (rx.same (aR hp)) aH.nil)⟩
      obtain⟨o,ho⟩:=JJ p ha;rw[hp] at ho;cases ho
 | _=>cases h2
end
end L2
end
section
namespace L2
open PySem PySem.Spec PyProof.Rows
section
variable {X:Cx}
abbrev VG:D->D->R D:=Mm (fun _ j=>decide (0 < j/\j.natAbs.log2 < 9000)) fun i j=>i / j
theorem zL:∀{ns:List Int} {us:List Value},Vals (ns.map V.int) us->IntsAre us ns
 | [],_, .nil=> .nil
 | n ::ns,_, .cons r t=>by obtain⟨tk,rfl⟩:=r;exact .cons _ _ (zL t)
theorem HB:∀{ns:List Int} {us:List Value},IntsAre us ns->Vals (ns.map V.int) us:=fun h=>by
 induction h with
 | nil=>exact .nil
 | cons _ _ _ ih=>exact .cons ⟨_,rfl⟩ ih
theorem z_{K:W.Frag}{B:List Addr}{ds:List D}{xs:List V}(r:aH K B H ds xs):∀n:Nat,aH K B H (List.replicate n ds).flatten (List.replicate n xs).flatten
 | 0=>aH.nil
 | n+1=>by rw[List.replicate_succ,List.replicate_succ,List.flatten_cons,List.flatten_cons];exact r.append (z_ r n)
def I_(f:av->R (List D))(g:FD):av->R (List D):=fun δ=>(f δ).bind fun ds=>(g δ).bind fun d=>match d with
 | .int k=>R.bN (decide (0<=k/\k < 1000000/\ds.length*k.toNat<=sizeLine)) (.ok (List.replicate k.toNat ds).flatten)
 | _=> .no
theorem DU{f:av->R (List D)}(ha:QN X a f)(hb:QD X b g):QN X (.BinOp a .Mult b pos) (I_ f g):=by
 refine⟨(G3 OE ha.1 hb.1).imp fun σ H Q ⟨Z,B,δ,es,E,hf,q⟩=>?_⟩
 obtain⟨ds,h1,h2⟩:=R.ai hf;obtain⟨d,h3,h4⟩:=R.ai h2;split at h4
 .rename_i k;obtain⟨h5,h6⟩:=R.bc h4;cases h6;obtain⟨k0,k1,k2⟩:=of_decide_eq_true h5;refine⟨Z,B,δ,ds,E,h1,fun a xs H1 s1 n1 e1 r1=>⟨Z,B,δ, .int k,E.same s1,h3,fun v H2 s2 r2=>⟨a,k,xs,rfl,Rep.int.mp r2,s2 a _ e1,by omega,by omega,by rw[<-r1.length];exact k2,fun p hp=>?_⟩⟩⟩
  refine q p _ _ (s1.trans (s2.trans (aR hp))) ((s1.trans s2).free hp) aX ?_;refine(z_ r1 k.toNat).bq fun b o e nb=>⟨(s2.trans (aR hp)) b o e,fun hm=>?_⟩
  rcases List.mem_cons.mp hm with z | z
  .rw [z] at e;rw [s2 p _ e] at hp;cases hp
  .exact nb (List.mem_cons_of_mem _ z)
 .cases h4
def tZ(ns:List Int):List Int:=ns.mergeSort fun a b=>decide (a<=b)
theorem Ah{a ns:List Int}(p:a.Perm ns)(o:a.Pairwise (·<=·)):a=tZ ns:=by
 refine PySem.W.ksm_same (p.trans (List.mergeSort_perm ns _).symm) o ?_;have:=List.pairwise_mergeSort (le:=fun a b:Int=>decide (a<=b)) (fun a b c h1 h2=>by simp at*;omega) (fun a b=>by simp;omega) ns
 exact this.imp fun h=>by simpa using h
def Sd:List D->R D
 | [.lst ds]=>(match ints? ds with | some ns=>R.bN (decide (ns.length < 64)) (.ok (.lst ((tZ ns).map .int))) | none=> .no)
 | _=> .no
theorem getD_in{l:List Int}{i:Nat}(h:i < l.length):l.getD i 0∈l:=by
 have e:l.getD i 0=l[i]:=by simp [h]
 rw[e];exact List.getElem_mem h
theorem fold_min:∀(ns:List Int) (n:Int),ns.foldl min n∈n ::ns/\∀a∈n ::ns,ns.foldl min n<=a
 | [],n=>⟨by simp,fun a ha=>by simp at ha;subst ha;exact Int.le_refl _⟩
 | x ::ns,n=>by
   obtain⟨h1,h2⟩:=fold_min ns (min n x);rw[List.foldl_cons];refine⟨?_,fun a ha=>?_⟩
   .rcases List.mem_cons.mp h1 with z | z
    .rw [z];by_cases hc:n<=x
     .rw [Int.min_eq_left hc];simp
     .rw [Int.min_eq_right (by omega)];simp
    .exact List.mem_cons_of_mem _ (List.mem_cons_of_mem _ z)
   .have hm:=h2 _ List.mem_cons_self;rcases List.mem_cons.mp ha with z | z
    .subst z;omega
    .rcases List.mem_cons.mp z with z | z
     .subst z;omega
     .exact h2 a (List.mem_cons_of_mem _ z)
theorem fold_max:∀(ns:List Int) (n:Int),ns.foldl max n∈n ::ns/\∀a∈n ::ns,a<=ns.foldl max n
 | [],n=>⟨by simp,fun a ha=>by simp at ha;subst ha;exact Int.le_refl _⟩
 | x ::ns,n=>by
   obtain⟨h1,h2⟩:=fold_max ns (max n x);rw[List.foldl_cons];refine⟨?_,fun a ha=>?_⟩
   .rcases List.mem_cons.mp h1 with z | z
    .rw [z];by_cases hc:n<=x
     .rw [Int.max_eq_right hc];simp
     .rw [Int.max_eq_left (by omega)];simp
    .exact List.mem_cons_of_mem _ (List.mem_cons_of_mem _ z)
   .have hm:=h2 _ List.mem_cons_self;rcases List.mem_cons.mp ha with z | z
    .subst z;omega
    .rcases List.mem_cons.mp z with z | z
     .subst z;omega
     .exact h2 a (List.mem_cons_of_mem _ z)
def p9:List D->R D
 | [.lst ds]=>(match ints? ds with | some (n ::ns)=> .ok (.int (ns.foldl min n)) | _=> .no)
 | ds=>N6 ds
def DW:List D->R D
 | [.lst ds]=>(match ints? ds with | some (n ::ns)=> .ok (.int (ns.foldl max n)) | _=> .no)
 | ds=>OB ds
theorem y6(hc:X.calm=true):cK X (.builtin "min") p9:=by
 intro pins s σ H B ds d xs us I hb rx rs hg;unfold p9 at hg;split at hg
 .split at hg
  .rename_i es n ns e;cases hg;obtain⟨x,rfl,r⟩:=rs.one;obtain⟨a,ys,rfl,l,r⟩:=Rep.lst.mp r;obtain⟨u,rfl,ru⟩:=vals1 rx;cases ru;obtain⟨its,k,rv,e1,hz⟩:=I.Mp l;rw[dG r e] at rv;obtain⟨ps,rfl,hps⟩:=fV rv;have hl:s.heap.IsList a (intItems ps.toArray):=⟨_,e1,rfl,k,by simp [intItems]⟩
   have hlp:ps.length=ns.length+1:=by have:=congrArg List.length hps;simpa using this
   refine min_intList (I.ok.hd hc) hl (by simp;omega) fun v h' tk hv hk=>?_
   obtain⟨t,rfl⟩:=intItems_at hv;obtain⟨b1,b2⟩:=argBest_lt (numAt ps.toArray) (ps.toArray.size - 1);refine⟨.int _,H,I.kept hk,⟨t,rfl⟩,aU.refl H,Rep.int.mpr ?_⟩;obtain⟨m1,m2⟩:=fold_min ns n;have hge:∀j,j < ps.length->numAt ps.toArray j=(n ::ns).getD j 0:=fun j hj=>by rw[numAt_eq,<-hps]
   have hin:numAt ps.toArray (argBest (fun i j=>decide (numAt ps.toArray i < numAt ps.toArray j)) (ps.toArray.size - 1))∈n ::ns:=by
    rw[hge _ (by simp at b1 ⊢;omega)];exact getD_in (by simp at b1 ⊢;omega)
   have hle:=m2 _ hin;obtain⟨j,hj,ej⟩:=List.getElem_of_mem m1;have hj':j < ns.length+1:=by simpa using hj
   have h3:=b2 j (by simp;omega)
   rw[hge j (by omega)] at h3
   have h4:(n ::ns).getD j 0=ns.foldl min n:=by rw[<-ej,List.getD_eq_getElem?_getD,List.getElem?_eq_getElem hj];rfl
   rw[h4] at h3;congr 1;omega
  .cases hg
 .exact Qq hc pins s σ H B _ d xs us I hb rx rs hg
theorem NM(hc:X.calm=true):cK X (.builtin "max") DW:=by
 intro pins s σ H B ds d xs us I hb rx rs hg;unfold DW at hg;split at hg
 .split at hg
  .rename_i es n ns e;cases hg;obtain⟨x,rfl,r⟩:=rs.one;obtain⟨a,ys,rfl,l,r⟩:=Rep.lst.mp r;obtain⟨u,rfl,ru⟩:=vals1 rx;cases ru;obtain⟨its,k,rv,e1,hz⟩:=I.Mp l;rw[dG r e] at rv;obtain⟨ps,rfl,hps⟩:=fV rv;have hl:s.heap.IsList a (intItems ps.toArray):=⟨_,e1,rfl,k,by simp [intItems]⟩
   have hlp:ps.length=ns.length+1:=by have:=congrArg List.length hps;simpa using this
   refine max_intList (I.ok.hd hc) hl (by simp;omega) fun v h' tk hv hk=>?_
   obtain⟨t,rfl⟩:=intItems_at hv;obtain⟨b1,b2⟩:=argBest_gt (numAt ps.toArray) (ps.toArray.size - 1);refine⟨.int _,H,I.kept hk,⟨t,rfl⟩,aU.refl H,Rep.int.mpr ?_⟩;obtain⟨m1,m2⟩:=fold_max ns n;have hge:∀j,j < ps.length->numAt ps.toArray j=(n ::ns).getD j 0:=fun j hj=>by rw[numAt_eq,<-hps]
   have hin:numAt ps.toArray (argBest (fun i j=>decide (numAt ps.toArray i > numAt ps.toArray j)) (ps.toArray.size - 1))∈n ::ns:=by
    rw[hge _ (by simp at b1 ⊢;omega)];exact getD_in (by simp at b1 ⊢;omega)
   have hle:=m2 _ hin;obtain⟨j,hj,ej⟩:=List.getElem_of_mem m1;have hj':j < ns.length+1:=by simpa using hj
   have h3:=b2 j (by simp;omega)
   rw[hge j (by omega)] at h3
   have h4:(n ::ns).getD j 0=ns.foldl max n:=by rw[<-ej,List.getD_eq_getElem?_getD,List.getElem?_eq_getElem hj];rfl
   rw[h4] at h3;congr 1;omega
  .cases hg
 .exact Qe hc pins s σ H B _ d xs us I hb rx rs hg
end
end L2
namespace L3
open PySem PySem.Spec PyProof.Rows L2
def C6(S:aP):V3->Option (List D)
 | .d (.lst ds)=>some ds
 | .loc k=>eE S k
 | _=>none
theorem IE{K:W.Frag}{cl:Zq}{ρ:P3}{S:aP}{v:V3}{x:V}{ds:List D}(w:SW K cl ρ H S)(h:C6 S v=some ds)(r:a_ K ρ H v x):∃a xs,x= .ref a/\wL K [] H a xs/\aH K ρ.b H ds xs:=by
 unfold C6 at h;split at h
 .cases h;unfold a_ Rep at r;obtain⟨a,xs,e,l,rs⟩:=r;exact⟨a,xs,e,l.bq (fun b o e _=>⟨e,by simp⟩),rs⟩
 .unfold a_ at r;obtain⟨a,a1,rfl⟩:=r;obtain⟨xs,e,rs⟩:=w.ob _ a _ a1 (kT h);exact⟨a,xs,rfl, .inl ⟨by simp, .inl e⟩,rs⟩
 .cases h
section
variable {X:Cx} {cl:Zq}
def NN(fa fb:FX):FX:=fun δ S=>(fa δ S).bind fun a S1=>(fb δ S1).bind fun b S2=>match C6 S2 a,C6 S2 b with
 | some ds,some es=>R3.bN (decide (ds.length+es.length<=sizeLine)) (.ok (.loc S2.length) (S2++[.lst (ds++es)]))
 | _,_=> .no
theorem NG(ha:PX X cl a fa)(hb:PX X cl b fb):PX X cl (.BinOp a .Add b pos) (NN fa fb):=⟨(G3 D0 ha.1 hb.1).imp fun σ H Q ⟨ρ,S,δ,v,S',E,hf,q⟩=>by
 obtain⟨a,S1,h1,h2⟩:=R3.ai hf;obtain⟨b,S2,h3,h4⟩:=R3.ai h2;split at h4
 .rename_i ds es e1 fH;obtain⟨hl,h5⟩:=R3.bc h4;cases h5;refine⟨ρ,S,δ,a,S1,E,h1,fun u1 bX H1 p1 w1 r1=>⟨bX,S1,δ,b,S2,E.to p1 w1,h3,fun u2 o_ H2 p2 w2 r2=>?_⟩⟩
  obtain⟨la,xs,rfl,l1,MI⟩:=IE w2 e1 (r1.pre p2);obtain⟨lb,ys,rfl,l2,MG⟩:=IE w2 fH r2;refine⟨[],la,lb,xs,ys,rfl,rfl,l1,l2,by rw[<-MI.length,<-MG.length];exact of_decide_eq_true hl,fun p hp=>?_⟩
  obtain⟨w3,p3⟩:=w2.new (a:=p) (o:= .lst (ds++es)) (aR (o:= .lst (xs++ys)) hp) hp ⟨xs++ys,aX,(MI.append MG).bq (fun b o e nb=>⟨by rw[bb (cz e hp)];exact e,fun hb=>by
   rcases P3.mem_push hb with z | z
   .exact nb z
   .exact cz e hp z⟩)⟩
  exact q _ _ _ (p1.trans (p2.trans p3)) w3 (by unfold a_;exact⟨p,by show(o_.r++[p])[_]? =_;rw [<-w2.len,List.getElem?_append_right (Nat.le_refl _),Nat.sub_self];rfl,rfl⟩)
 .cases h4⟩
theorem Qx{fa fb:FX}{δ:DE}{S:aP}{Q:V3->aP->Prop}(h:W3 (fa δ S) fun a S1=>W3 (fb δ S1) fun b S2=>∃ds es,C6 S2 a=some ds/\C6 S2 b=some es/\ds.length+es.length<=sizeLine/\Q (.loc S2.length) (S2++[.lst (ds++es)])):W3 (NN fa fb δ S) Q:=
 W3.bind (h.mono fun _ _ h=>W3.bind (h.mono fun _ _ ⟨ds,es,e1,fH,hl,q⟩=>by
  simp only[e1,fH];exact W3.wh (decide_eq_true hl) (W3.ok q)))
def Wc(i:Nat):FZ:=fun δ S=>match kg δ i with
 | none=> .no
 | some k=>(match eE S k with | some _=> .ok (.nx δ) (S.set k (.lst [])) | none=> .no)
end
end L3
end
section
namespace L3
open PySem PySem.Spec PyProof.Rows L2
def oM(S:aP)(c k:Nat):Option (List (Str × V3)):=match S[k]? with | some (.ins c' fs)=>(if c'=c then some fs else none) | _=>none
theorem mU{S:aP}{c k:Nat}{fs:List (Str × V3)}(h:oM S c k=some fs):S[k]? =some (.ins c fs):=by
 unfold oM at h;split at h
 .rename_i c' PH e;split at h
  .rename_i hc;cases h;rw [e,hc]
  .cases h
 .cases h
theorem Ey{K:W.Frag}{v:V3}:∀{fs:List (Str × V3)} {ys:List (Str × V)},ys.map (·.1)=fs.map (·.1)->aL K ρ H (fs.map (·.2)) (ys.map (·.2))->fs.lookup f=some v->∃x,ys.lookup f=some x/\a_ K ρ H v x
 | [],ys,_,_,h=>by simp at h
 | (g,w) ::fs,[],e,_,_=>by simp at e
 | (g,w) ::fs,(g',y) ::ys,e,r,h=>by
   obtain⟨e1,fH⟩:=List.cons.inj e;have e1:g'=g:=e1;subst e1;obtain⟨x,xs,ex,r1,r2⟩:=r.cw;cases ex;rw[List.lookup_cons] at h ⊢;cases hq:f==g' with
   | true=>rw [hq] at h;cases h;exact⟨y,rfl,r1⟩
   | false=>rw [hq] at h;exact Ey fH r2 h
theorem AW:∀{fs:List (Str × V3)} {ys:List (Str × V)},ys.map (·.1)=fs.map (·.1)->fs.lookup f=none->ys.lookup f=none
 | [],[],_,_=>rfl
 | [],_ ::_,e,_=>by simp at e
 | _ ::_,[],e,_=>by simp at e
 | (g,w) ::fs,(g',y) ::ys,e,h=>by
   obtain⟨e1,fH⟩:=List.cons.inj e;have e1:g'=g:=e1;subst e1;rw[List.lookup_cons] at h ⊢;cases hq:f==g' with
   | true=>rw [hq] at h;cases h
   | false=>rw [hq] at h;exact AW fH h
def z0(f:Str)(v:V3):List (Str × V3)->List (Str × V3)
 | []=>[(f,v)]
 | (g,x) ::r=>if g=f then(g,v) ::r else(g,x) ::z0 f v r
theorem Ej{K:W.Frag}{f:Str}{v:V3}{u:V}(rv:a_ K ρ H v u):∀{fs:List (Str × V3)} {ys:List (Str × V)},ys.map (·.1)=fs.map (·.1)->aL K ρ H (fs.map (·.2)) (ys.map (·.2))->
 (lF f u ys).map (·.1)=(z0 f v fs).map (·.1)/\aL K ρ H ((z0 f v fs).map (·.2)) ((lF f u ys).map (·.2))
 | [],[],_,_=>⟨rfl,aL.cons rv aL.nil⟩
 | [],_ ::_,e,_=>by simp at e
 | _ ::_,[],e,_=>by simp at e
 | (g,w) ::fs,(g',y) ::ys,e,r=>by
   obtain⟨e1,fH⟩:=List.cons.inj e;have e1:g'=g:=e1;subst e1;obtain⟨x,xs,ex,r1,r2⟩:=r.cw;cases ex;unfold z0 lF;by_cases hg:g'=f
   .rw [if_pos hg,if_pos hg];exact⟨by rw[List.map_cons,List.map_cons,fH],aL.cons rv r2⟩
   .rw [if_neg hg,if_neg hg];obtain⟨h1,h2⟩:=Ej rv fH r2;exact⟨by rw[List.map_cons,List.map_cons,h1],aL.cons r1 h2⟩
section
variable {X:Cx} {cl:Zq}
def rT(c:Nat)(f:Str)(g:FX):FX:=fun δ S=>(g δ S).bind fun v S1=>match v with
 | .loc k=>(match oM S1 c k with | some fs=>(match fs.lookup f with | some v=> .ok v S1 | none=> .no) | none=> .no)
 | _=> .no
theorem jJ{c:Nat}{pos:Pos}(hC:zF X.K (cl c))(hn:dv X.K (cl c) f)(he:PX X cl e g)(hb:attributeBase e f X.env (eval e X.env)=eval e X.env:=by rfl):PX X cl (.Attribute e f pos) (rT c f g):=⟨(Oy he.1 hb).imp fun σ H Q ⟨ρ,S,δ,v,S',E,hf,q⟩=>by
 obtain⟨o,S1,h1,h2⟩:=R3.ai hf;split at h2
 .rename_i k;split at h2
  .rename_i fs e1;split at h2
   .rename_i w fH;cases h2;refine⟨ρ,S,δ, .loc k,_,E,h1,fun u bX H1 p1 w1 r1=>?_⟩
    unfold a_ at r1;obtain⟨a,a1,rfl⟩:=r1;obtain⟨dx,ys,ey,ek,rs⟩:=w1.ob k a _ a1 (mU e1);obtain⟨x,hx,rx⟩:=Ey ek rs fH;exact⟨a,cl c,dx,ys,x,rfl,ey,hC,hn,hx,q x bX H1 p1 w1 rx⟩
   .cases h2
  .cases h2
 .cases h2⟩
theorem w_fld{c k:Nat}{g:FX}{δ:DE}{S:aP}{Q:V3->aP->Prop}(h:W3 (g δ S) fun v S1=>∃fs w,v= .loc k/\S1[k]? =some (.ins c fs)/\fs.lookup f=some w/\Q w S1):W3 (rT c f g δ S) Q:=
 W3.bind (h.mono fun v S1 ⟨fs,w,e1,fH,e3,q⟩=>by
  subst e1;have e4:oM S1 c k=some fs:=by unfold oM;simp only[fH,if_true]
  simp only[e4,e3];exact W3.ok q)
def lr(P:Program)(w:World)(K:W.Frag)(mg:Zp)(base:Heap)(cl:Zq)(k c:Nat)(m:Str)(n:Nat)(g:List V3->aP->R3 V3):Prop:=
 ∃(f:Addr) (fd:FuncData) (ps:List Str),zF K (cl c)/\Meth K (cl c) m f/\jI P w K mg base wJ k f fd ps (Gq K cl (n+1) g)/\Binds K fd ps []
def tY(c:Nat)(m:Str)(g:List V3->aP->R3 V3)(fo:FX)(fs:FA):FX:=fun δ S=>(fo δ S).bind fun o S1=>match o with
 | .loc k=>(match oM S1 c k with | some ys=>(match ys.lookup m with | none=>(fs δ S1).bind fun vs S2=>g (.loc k ::vs) S2 | some _=> .no) | none=> .no)
 | _=> .no
theorem pK{g:List V3->aP->R3 V3}{k j n c:Nat}{m:Str}{o e:Expr}{es:List Expr}{fo:FX}{fs:FA}{apos pos:Pos}{pl:Sem Bool}(M:lr X.prog X.w X.K X.mg X.base cl k c m n g)(hr:fq j X.A)(Jv:k<=j)(ho:PX X cl o fo)(ha:Kl X cl (e ::es) fs)(hn:∀δ S ds S',fs δ S= .ok ds S'->ds.length=n)
 (Jt:starEach (e ::es) X.env=(false,eval e X.env) ::starEach es X.env:=by rfl) (nX:(backTo pos (starEach es X.env)).any (·.1)=false:=by rfl)
 (ht:eval (.Call (.Attribute o m apos) (e ::es) [] pos) X.env=(do
   let ov <-eval o X.env
   standAt apos.atName
   let(f,first) <-holding [ov] (getMethod ov m pl)
   callWith pos f first (backTo pos (starEach (e ::es) X.env)) (backToKw pos (keywordEach [] X.env))):=by rfl) :
 PX X cl (.Call (.Attribute o m apos) (e ::es) [] pos) (tY c m g fo fs):=by
 obtain⟨f,fd,ps,hC,hm,F,hb⟩:=M;refine⟨(Kx ho.1 hC hm F (hr.mono Jv) hb .nil Bn ha.1 Jt nX ht).imp fun σ H Q ⟨ρ,S,δ,v,S',E,hf,q⟩=>?_⟩
 obtain⟨ov,S1,h1,h2⟩:=R3.ai hf;split at h2
 .rename_i kk;split at h2
  .rename_i ys e1;split at h2
   .rename_i fH;obtain⟨vs,S2,h3,h4⟩:=R3.ai h2;refine⟨ρ,S,δ, .loc kk,S1,E,h1,fun u bX H1 p1 w1 r1=>?_⟩
    have uA:=r1;unfold a_ at r1;obtain⟨a,a1,rfl⟩:=r1;obtain⟨dx,zs,ey,ek,rs⟩:=w1.ob kk a _ a1 (mU e1);refine⟨a,dx,zs,rfl,ey,AW ek fH,bX,S1,δ,vs,S2,E.to p1 w1,h3,fun us o_ H2 p2 w2 r2=>?_⟩
    show Gq X.K cl (n+1) g (V.ref a ::(us++[])) H2 Q E0;rw[List.append_nil];exact⟨by rw[List.length_cons,<-r2.length,hn δ S1 vs S2 h3],o_,S2, .loc kk ::vs,v,S',w2,aL.cons (uA.pre p2) r2,h4,fun z Bw H3 p3 w3 r3=>q z Bw H3 (p1.trans (p2.trans p3)) w3 r3⟩
   .cases h2
  .cases h2
 .cases h2
def xv(P:Program)(w:World)(K:W.Frag)(mg:Zp)(base:Heap)(cl:Zq)(k c:Nat)(x:Str)(n:Nat)(g:List V3->aP->R3 V3):Prop:=
 ∃(f:Addr) (fd:FuncData) (ps:List Str),Mk K (cl c) f/\jI P w K mg base wJ k f fd ps (Gq K cl (n+1) g)/\mg x=some (.ref (cl c))/\Binds K fd ps []
def AK(c:Nat)(g:List V3->aP->R3 V3)(fs:FA):FX:=fun δ S=>(fs δ S).bind fun vs S1=>(g (.loc S1.length ::vs) (S1++[.ins c []])).bind fun v S2=>match v with
 | .d .cu=> .ok (.loc S1.length) S2
 | _=> .no
theorem yp{g:List V3->aP->R3 V3}{k j n c:Nat}{x:Str}{p pos:Pos}{e:Expr}{es:List Expr}{fs:FA}(M:xv X.prog X.w X.K X.mg X.base cl k c x n g)(hr:fq j X.A)(Jv:k+1<=j)(hg:Gl X x)(ha:Kl X cl (e ::es) fs)(hn:∀δ S ds S',fs δ S= .ok ds S'->ds.length=n)
 (se:(x==("__debug__":Str))=false:=by decide) (he:starEach (e ::es) X.env=(false,eval e X.env) ::starEach es X.env:=by rfl) (nX:(backTo pos (starEach es X.env)).any (·.1)=false:=by rfl) :
 PX X cl (.Call (.Name x p) (e ::es) [] pos) (AK c g fs):=by
 obtain⟨f,fd,ps,M,F,hm,hb⟩:=M;refine⟨(K0 M F (hr.mono Jv) hg hm hb .nil Bn ha.1 se he nX).imp fun σ H Q ⟨ρ,S,δ,v,S',E,hf,q⟩=>?_⟩
 obtain⟨vs,S1,h1,h2⟩:=R3.ai hf;obtain⟨v0,S2,h3,h4⟩:=R3.ai h2;split at h4
 .cases h4;refine⟨ρ,S,δ,vs,S1,E,h1,fun us bX H1 p1 w1 r1 xa dx hx X2 uN=>?_⟩
  have hx1:upd H1 dx (.own xa) xa=none:=by rw[bb (fun z=>uN z.symm)];exact hx
  have sm:aU H1 (upd (upd H1 dx (.own xa)) xa (.ins (cl c) dx [])):=(aR X2).trans (aR hx1);obtain⟨w2,p2⟩:=w1.new (a:=xa) (o:= .ins c []) sm hx ⟨dx,[],aX,rfl,aL.nil⟩;show Gq X.K cl (n+1) g (V.ref xa ::(us++[])) _ _ E0;rw[List.append_nil];have rl:a_ X.K (bX.push xa) (upd (upd H1 dx (.own xa)) xa (.ins (cl c) dx [])) (.loc S1.length) (.ref xa):=by
   unfold a_;exact⟨xa,by show(bX.r++[xa])[_]? =_;rw [<-w1.len,List.getElem?_append_right (Nat.le_refl _),Nat.sub_self];rfl,rfl⟩
  exact⟨by rw[List.length_cons,<-r1.length,hn δ S vs S1 h1],_,_, .loc S1.length ::vs, .d .cu,_,w2,aL.cons rl (r1.pre p2),h3,fun z Bw H3 p3 w3 r3=>⟨by unfold a_ Rep at r3;exact r3,q _ Bw H3 (p1.trans (p2.trans p3)) w3 (rl.pre p3)⟩⟩
 .cases h4
def zg(c:Nat)(f:Str)(fo fe:FX):FZ:=fun δ S=>(fe δ S).bind fun v S1=>(fo δ S1).bind fun o S2=>match o with
 | .loc k=>(match oM S2 c k with | some fs=>R3.bN (decide (fs.length < 1000)) (.ok (.nx δ) (S2.set k (.ins c (z0 f v fs)))) | none=> .no)
 | _=> .no
theorem qC{c:Nat}{pos pos':Pos}(hC:zF X.K (cl c))(hn:dv X.K (cl c) f)(ho:PX X cl o fo)(he:PX X cl value fe)(hs:swapsWith value (some (.Attribute o f pos')) pos.line X.env=pure false:=by rfl) :
 PZ X cl (.Assign [.Attribute o f pos'] value pos) (zg c f fo fe):=⟨(Nc ho.1 he.1 hs).imp fun D σ H ⟨ρ,S,δ,ou,S',E,hf,q⟩=>by
 obtain⟨v,S1,h1,h2⟩:=R3.ai hf;obtain⟨vo,S2,h3,h4⟩:=R3.ai h2;split at h4
 .rename_i k;split at h4
  .rename_i fs e1;obtain⟨hl,h5⟩:=R3.bc h4;cases h5;refine⟨ρ,S,δ,v,S1,E,h1,fun u bX H1 p1 w1 r1=>⟨bX,S1,δ, .loc k,S2,E.to p1 w1,h3,fun u2 o_ H2 p2 w2 r2=>?_⟩⟩
   unfold a_ at r2;obtain⟨a,a1,rfl⟩:=r2;obtain⟨dx,ys,ey,ek,rs⟩:=w2.ob k a _ a1 (mU e1);have hlen:ys.length=fs.length:=by have:=congrArg List.length ek;simpa using this
   obtain⟨k1,k2⟩:=Ej (f:=f) (r1.pre p2) ek rs;obtain⟨w3,p3⟩:=w2.put (o:= .ins c (z0 f v fs)) (u:= .ins (cl c) dx (lF f u ys)) a1 (w2.fz k a a1 (by rw[mU e1];intro h;cases h)) ⟨dx,_,rfl,k1,k2⟩
   exact⟨a,cl c,dx,ys,rfl,ey,hC,hn,by rw[hlen];exact of_decide_eq_true hl,q σ o_ _ (p1.trans (p2.trans p3)) (E.to (p1.trans (p2.trans p3)) w3)⟩
  .cases h4
 .cases h4⟩
theorem ko{c k:Nat}{fo fe:FX}{δ:DE}{S:aP}{QO:Ou->aP->Prop}(h:W3 (fe δ S) fun v S1=>W3 (fo δ S1) fun o S2=>∃fs,o= .loc k/\S2[k]? =some (.ins c fs)/\fs.length < 1000/\QO (.nx δ) (S2.set k (.ins c (z0 f v fs)))):W3 (zg c f fo fe δ S) QO:=
 W3.bind (h.mono fun v S1 h=>W3.bind (h.mono fun o S2 ⟨fs,e1,fH,hl,q⟩=>by
  subst e1;have e4:oM S2 c k=some fs:=by unfold oM;simp only[fH,if_true]
  simp only[e4];exact W3.wh (decide_eq_true hl) (W3.ok q)))
theorem s_{c k:Nat}{g:List V3->aP->R3 V3}{fo:FX}{fs:FA}{δ:DE}{S:aP}{Q:V3->aP->Prop}(h:W3 (fo δ S) fun o S1=>∃ys,o= .loc k/\S1[k]? =some (.ins c ys)/\ys.lookup m=none/\W3 (fs δ S1) fun vs S2=>W3 (g (.loc k ::vs) S2) Q):W3 (tY c m g fo fs δ S) Q:=
 W3.bind (h.mono fun o S1 ⟨ys,e1,fH,e3,h⟩=>by
  subst e1;have e4:oM S1 c k=some ys:=by unfold oM;simp only[fH,if_true]
  simp only[e4,e3];exact W3.bind h)
theorem BU{c:Nat}{g:List V3->aP->R3 V3}{fs:FA}{δ:DE}{S:aP}{Q:V3->aP->Prop}(h:W3 (fs δ S) fun vs S1=>W3 (g (.loc S1.length ::vs) (S1++[.ins c []])) fun v S2=>v= .d .cu/\Q (.loc S1.length) S2):W3 (AK c g fs δ S) Q:=
 W3.bind (h.mono fun vs S1 h=>W3.bind (h.mono fun v S2 ⟨e,q⟩=>by subst e;exact W3.ok q))
end
end L3
end
section
namespace PySem
open Sem (wp)
def gQ(t:Bool)(h:Heap)(i l:Addr)(k:Nat):Prop:=cond t (h.IsTupleIter i l k) (h.IsListIter i l k)
def k3(t:Bool)(h:Heap)(l:Addr)(xs:Array Value):Prop:=cond t (h.IsTuple l xs) (h.IsList l xs)
def uU(t:Bool):String:=cond t "tuple_iterator" "list_iterator"
theorem gQ.at{t:Bool}{h h':Heap}{i l:Addr}{k:Nat}(x:gQ t h i l k)(e:∀o,h.get? i=some o->h'.get? i=some o):gQ t h' i l k:=by
 cases t with
 | true=>exact Heap.IsTupleIter.at x e
 | false=>exact Heap.IsListIter.at x e
theorem k3.at{t:Bool}{h h':Heap}{l:Addr}{xs:Array Value}(x:k3 t h l xs)(e:∀o,h.get? l=some o->h'.get? l=some o):k3 t h' l xs:=by
 cases t with
 | true=>exact Heap.IsTuple.at x e
 | false=>exact Heap.IsList.at x e
theorem gQ.xb{t:Bool}{i l b:Addr}{k:Nat}(x:gQ t h i l k)(hs:Heap.ExtBut b h h')(PL:i≠b):gQ t h' i l k:=x.at fun o e=>hs i o PL e
theorem k3.xb{t:Bool}{l b:Addr}{xs:Array Value}(x:k3 t h l xs)(hs:Heap.ExtBut b h h')(PL:l≠b):k3 t h' l xs:=x.at fun o e=>hs l o PL e
theorem gQ.ob{t:Bool}{h:Heap}{i l:Addr}{k:Nat}(x:gQ t h i l k):∃o,h.get? i=some o/\∀v,o.data≠ .cell v:=by
 cases t with
 | true=>obtain⟨o,e,_,d⟩:=x;exact⟨o,e,fun v z=>by rw[d] at z;cases z⟩
 | false=>obtain⟨o,e,_,d⟩:=x;exact⟨o,e,fun v z=>by rw[d] at z;cases z⟩
theorem k3.lt{t:Bool}{h:Heap}{l:Addr}{xs:Array Value}(x:k3 t h l xs):l < h.objs.size:=by
 cases t with
 | true=>obtain⟨o,e,_⟩:=x;exact Heap.lt_size e
 | false=>obtain⟨o,e,_⟩:=x;exact Heap.lt_size e
theorem gQ.lt{t:Bool}{h:Heap}{i l:Addr}{k:Nat}(x:gQ t h i l k):i < h.objs.size:=let⟨_,e,_⟩:=x.ob;Heap.lt_size e
section
variable {prog:Program} {w:World} {A:Around} {E:Zl} {s:Shared}
theorem km{t:Bool}{it l:Addr}{i:Nat}{items:Array Value}{x:Value}{Q:Zl}(hit:gQ t s.heap it l i)(hl:k3 t s.heap l items)(hx:items[i]? =some x)
 (hQ:∀h',gQ t h' it l (i+1)->Heap.SameBut it s.heap h'->Q x {s with heap:=h'}):wpAny (model prog w) A (Builtin.SmallTypes.nextOf (.ref it)) Q E s:=by
 cases t with
 | true=>exact nO hit hl hx hQ
 | false=>exact wpAny_nextOf_list_item hit hl hx hQ
theorem p_{t:Bool}{it l:Addr}{i:Nat}{items:Array Value}{Q:Zl}(hh:A.handled=none)(hit:gQ t s.heap it l i)(hl:k3 t s.heap l items)(hx:items[i]? =none)
 (hE:∀h' e,Heap.ExtBut it s.heap h'->(∃o,h'.get? e=some o/\o.cls= .type "StopIteration")->E (.ref e) {s with heap:=h'}):wpAny (model prog w) A (Builtin.SmallTypes.nextOf (.ref it)) Q E s:=by
 cases t with
 | true=>exact kN hh hit hl hx hE
 | false=>exact wpAny_nextOf_list_end hh hit hl hx hE
theorem xF{t:Bool}{l:Addr}{items:Array Value}{Q:Zl}(hl:k3 t s.heap l items)
 (hQ:Q (.ref s.heap.objs.size) {s with heap:=s.heap.push {cls:= .type (uU t),data:= .fields #[.ref l, .int 0 0]}}):wpAny (model prog w) A (pyIter (.ref l)) Q E s:=by
 cases t with
 | true=>exact wpAny_pyIter_tuple hl hQ
 | false=>exact wpAny_pyIter_list hl hQ
theorem F6{t u:Bool}{z TI TO i1 i2 l1 l2:Addr}{k1 k2:Nat}{xs ys:Array Value}{x y a b:Value}{Q:Zl}(D:ZipApart z TI TO i1 i2 l1 l2)(hz:IsZip s.heap z TI TO .none)(Bx:IsPair s.heap TI (.ref i1) (.ref i2))
 (BF:IsPair s.heap TO a b) (h1:gQ t s.heap i1 l1 k1) (h2:gQ u s.heap i2 l2 k2) (JZ:k3 t s.heap l1 xs) (Pf:k3 u s.heap l2 ys) (hx:xs[k1]? =some x) (hy:ys[k2]? =some y)
 (hQ:∀h',IsZip h' z TI TO (rawInt s.heap.objs.size)->IsPair h' TO x y->gQ t h' i1 l1 (k1+1)->gQ u h' i2 l2 (k2+1)->IsPair h' s.heap.objs.size x y->h'.objs.size=s.heap.objs.size+1->(∀c o,c≠z->c≠TO->c≠i1->c≠i2->s.heap.get? c=some o->h'.get? c=some o)->Q (.ref s.heap.objs.size) {s with heap:=h'}) :
 wpAny (model prog w) A (Builtin.«zip.__next__» ⟨[.ref z],[]⟩) (fun fin s'=>∃v,fin= .done (.ret v)/\Q v s') E s:=by
 show wpAny _ _ (field (.ref z) 2 >>=_) _ _ _;refine wpAny_bind (wpAny_field hz rfl (x:= .bool false) rfl ?_);show wpAny _ _ (field (.ref z) 3 >>=_) _ _ _;refine wpAny_bind (wpAny_field hz rfl (x:= .ref TI) rfl ?_);refine wpAny_bind (wpAny_seqItems Bx rfl ?_);show wpAny _ _ (Builtin.SmallTypes.ownedTupleIsFree (.ref z) >>=_) _ _ _;refine wpAny_bind ?_;unfold Builtin.SmallTypes.ownedTupleIsFree;refine wpAny_bind (wpAny_field hz rfl (x:= .none) rfl (wpAny_pure ?_));simp only[if_true];refine wpAny_bind (wpAny_rule ?_);refine wpAny_bind (wpAny_field hz rfl (x:= .ref TO) rfl ?_);refine wpAny_bind (wpAny_setField_rec hz (by simp) fun jM qe jz=>?_)
 replace qe:IsZip jM z TI TO .ellipsis:=qe;refine wpAny_bind ?_;simp only[List.zipIdx_cons,List.zipIdx_nil,List.forIn_cons,List.forIn_nil]
 refine wpAny_bind (wpAny_bind (wpAny_onRaise ?_));show wpAny _ _ (Builtin.SmallTypes.nextOf (.ref i1) >>=_) _ _ _;refine wpAny_bind (km (h1.xb jz.extBut D.i1z) (JZ.xb jz.extBut D.l1z) hx fun gH ML dh=>wpAny_pure ?_)
 have hTO₂:IsPair gH TO a b:=dh.extBut _ _ D.TOi1 (jz.extBut _ _ D.TOz BF);refine wpAny_bind (wpAny_seqItems hTO₂ rfl ?_);refine wpAny_bind (wpAny_updateSeq_pair hTO₂ fun LW zB lC=>?_)
 replace zB:IsPair LW TO x b:=zB;refine wpAny_bind (wpAny_letGo (wpAny_pure ?_));refine wpAny_bind (wpAny_bind (wpAny_onRaise ?_));show wpAny _ _ (Builtin.SmallTypes.nextOf (.ref i2) >>=_) _ _ _
 refine wpAny_bind (km (((h2.xb jz.extBut D.i2z).xb dh.extBut D.i12.symm).xb lC.extBut D.TOi2.symm) (((Pf.xb jz.extBut D.l2z).xb dh.extBut D.l2i1).xb lC.extBut D.l2TO) hy fun O8 Rx ud=>wpAny_pure ?_)
 have hTO₄:IsPair O8 TO x b:=ud.extBut _ _ D.TOi2 zB;refine wpAny_bind (wpAny_seqItems hTO₄ rfl ?_);refine wpAny_bind (wpAny_updateSeq_pair hTO₄ fun pS zy ue=>?_)
 replace zy:IsPair pS TO x y:=zy;refine wpAny_bind (wpAny_letGo (wpAny_pure (wpAny_pure ?_)));refine wpAny_bind (wpAny_seqItems zy rfl ?_);refine wpAny_bind (wpAny_newTuple ?_)
 have hsz:pS.objs.size=s.heap.objs.size:=(ue.1.trans (ud.1.trans (lC.1.trans (dh.1.trans jz.1))));have hz₅:IsZip pS z TI TO .ellipsis:=ue.extBut _ _ D.TOz.symm <| ud.extBut _ _ D.i2z.symm <| lC.extBut _ _ D.TOz.symm <| dh.extBut _ _ D.i1z.symm qe
 have hk₅:∀c o,c≠z->c≠TO->c≠i1->c≠i2->s.heap.get? c=some o->pS.get? c=some o:=fun c o c1 c2 c3 c4 e=>ue.extBut _ _ c2 <| ud.extBut _ _ c4 <| lC.extBut _ _ c2 <| dh.extBut _ _ c3 <| jz.extBut _ _ c1 e
 have h1₅:gQ t pS i1 l1 (k1+1):=((ML.xb lC.extBut D.TOi1.symm).xb ud.extBut D.i12).xb ue.extBut D.TOi1.symm;have h2₅:gQ u pS i2 l2 (k2+1):=Rx.xb ue.extBut D.TOi2.symm;have hzlt:=Heap.lt_size hz₅;show wpAny _ _ (Builtin.SmallTypes.ownedTupleHandOut (.ref z) (.ref pS.objs.size) >>=_) _ _ _;refine wpAny_bind ?_;unfold Builtin.SmallTypes.ownedTupleHandOut;have hz₆:IsZip (pS.push {cls:= .type "tuple",data:= .seq #[x,y]}) z TI TO .ellipsis:=Heap.get?_push_of_some _ hz₅;refine wpAny_bind (wpAny_setField_rec hz₆ (by simp) fun Ur JI JA=>?_)
 replace JI:IsZip Ur z TI TO (rawInt pS.objs.size):=JI;refine wpAny_setField_rec JI (by simp) fun JE EI Js=>?_;replace EI:IsZip JE z TI TO (rawInt pS.objs.size):=EI
 have up:∀c o,c≠z->pS.get? c=some o->JE.get? c=some o:=fun c o c1 e=>Js.extBut _ _ c1 <| JA.extBut _ _ c1 (Heap.get?_push_of_some _ e)
 have hT₈:IsPair JE pS.objs.size x y:=Js.extBut _ _ (Nat.ne_of_gt hzlt) <| JA.extBut _ _ (Nat.ne_of_gt hzlt) (Heap.get?_push_size _ rfl)
 have hz8:JE.objs.size=pS.objs.size+1:=(Js.1.trans JA.1).trans (Heap.size_push ..);rw[hsz] at EI hT₈ hz8;refine wpAny_pure ⟨_,rfl,?_⟩;show Q (.ref pS.objs.size) _;rw [hsz];exact hQ JE EI (up _ _ D.TOz zy) (h1₅.at fun o e=>up _ o D.i1z e) (h2₅.at fun o e=>up _ o D.i2z e) hT₈ hz8 fun c o c1 c2 c3 c4 e=>up c o c1 (hk₅ c o c1 c2 c3 c4 e)
theorem GH{t u:Bool}{z TI TO i1 i2 l1 l2:Addr}{k1 k2:Nat}{xs ys:Array Value}{a b:Value}{Q:Fin->Shared->Prop}(hh:A.handled=none)(D:ZipApart z TI TO i1 i2 l1 l2)(hz:IsZip s.heap z TI TO .none)
 (Bx:IsPair s.heap TI (.ref i1) (.ref i2)) (BF:IsPair s.heap TO a b) (h1:gQ t s.heap i1 l1 k1) (h2:gQ u s.heap i2 l2 k2) (JZ:k3 t s.heap l1 xs) (Pf:k3 u s.heap l2 ys) (Uo:xs[k1]? =none\/ys[k2]? =none)
 (hE:∀h' e,(∀c o,c≠z->c≠TO->c≠i1->c≠i2->s.heap.get? c=some o->h'.get? c=some o)->(∃o,h'.get? e=some o/\o.cls= .type "StopIteration")->E (.ref e) {s with heap:=h'}):wpAny (model prog w) A (Builtin.«zip.__next__» ⟨[.ref z],[]⟩) Q E s:=by
 show wpAny _ _ (field (.ref z) 2 >>=_) _ _ _;refine wpAny_bind (wpAny_field hz rfl (x:= .bool false) rfl ?_);show wpAny _ _ (field (.ref z) 3 >>=_) _ _ _;refine wpAny_bind (wpAny_field hz rfl (x:= .ref TI) rfl ?_);refine wpAny_bind (wpAny_seqItems Bx rfl ?_);show wpAny _ _ (Builtin.SmallTypes.ownedTupleIsFree (.ref z) >>=_) _ _ _;refine wpAny_bind ?_;unfold Builtin.SmallTypes.ownedTupleIsFree;refine wpAny_bind (wpAny_field hz rfl (x:= .none) rfl (wpAny_pure ?_));simp only[if_true];refine wpAny_bind (wpAny_rule ?_);refine wpAny_bind (wpAny_field hz rfl (x:= .ref TO) rfl ?_);refine wpAny_bind (wpAny_setField_rec hz (by simp) fun jM qe jz=>?_)
 replace qe:IsZip jM z TI TO .ellipsis:=qe;refine wpAny_bind ?_;simp only[List.zipIdx_cons,List.zipIdx_nil,List.forIn_cons,List.forIn_nil]
 refine wpAny_bind (wpAny_bind (wpAny_onRaise ?_));show wpAny _ _ (Builtin.SmallTypes.nextOf (.ref i1) >>=_) _ _ _;cases hx:xs[k1]? with
 | none=>
   refine wpAny_bind (p_ hh (h1.xb jz.extBut D.i1z) (JZ.xb jz.extBut D.l1z) hx fun gH e dh he=>?_)
   obtain⟨oe,hoe,hce⟩:=he;have EM:IsZip gH z TI TO .ellipsis:=dh _ _ D.i1z.symm qe;have hez:e≠z:=fun x=>by {subst x;rw [EM] at hoe;cases hoe;simp at hce}
   exact wpAny_setField_rec EM (by simp) fun LW _ lC=>hE LW e (fun c o c1 _ c3 _ x=>lC.extBut _ _ c1 <| dh _ _ c3 <| jz.extBut _ _ c1 x) ⟨oe,lC.extBut _ _ hez hoe,hce⟩
 | some x=>
   have hy:ys[k2]? =none:=Uo.resolve_left fun h=>by {rw [hx] at h;cases h}
   refine wpAny_bind (km (h1.xb jz.extBut D.i1z) (JZ.xb jz.extBut D.l1z) hx fun gH ML dh=>wpAny_pure ?_)
   have hTO₂:IsPair gH TO a b:=dh.extBut _ _ D.TOi1 (jz.extBut _ _ D.TOz BF);refine wpAny_bind (wpAny_seqItems hTO₂ rfl ?_);refine wpAny_bind (wpAny_updateSeq_pair hTO₂ fun LW zB lC=>?_)
   refine wpAny_bind (wpAny_letGo (wpAny_pure ?_));refine wpAny_bind (wpAny_bind (wpAny_onRaise ?_));show wpAny _ _ (Builtin.SmallTypes.nextOf (.ref i2) >>=_) _ _ _;refine wpAny_bind (p_ hh (((h2.xb jz.extBut D.i2z).xb dh.extBut D.i12.symm).xb lC.extBut D.TOi2.symm) (((Pf.xb jz.extBut D.l2z).xb dh.extBut D.l2i1).xb lC.extBut D.l2TO) hy fun O8 e ud he=>?_)
   obtain⟨oe,hoe,hce⟩:=he;have hz₄:IsZip O8 z TI TO .ellipsis:=ud _ _ D.i2z.symm <| lC.extBut _ _ D.TOz.symm <| dh.extBut _ _ D.i1z.symm qe
   have hez:e≠z:=fun x=>by {subst x;rw [hz₄] at hoe;cases hoe;simp at hce}
   exact wpAny_setField_rec hz₄ (by simp) fun pS _ ue=>hE pS e (fun c o c1 c2 c3 c4 x=>ue.extBut _ _ c1 <| ud _ _ c4 <| lC.extBut _ _ c2 <| dh.extBut _ _ c3 <| jz.extBut _ _ c1 x) ⟨oe,ue.extBut _ _ hez hoe,hce⟩
end
abbrev RZ(t:Bool)(h:Heap)(l1:Addr):Heap:=h.push {cls:= .type (uU t),data:= .fields #[.ref l1, .int 0 0]}
abbrev R6(t u:Bool)(h:Heap)(l1 l2:Addr):Heap:=(RZ t h l1).push {cls:= .type (uU u),data:= .fields #[.ref l2, .int 0 0]}
abbrev R7(t u:Bool)(h:Heap)(l1 l2:Addr):Heap:=(R6 t u h l1 l2).push {cls:= .type "tuple",data:= .seq #[.ref h.objs.size, .ref (RZ t h l1).objs.size]}
abbrev RW(t u:Bool)(h:Heap)(l1 l2:Addr):Heap:=(R7 t u h l1 l2).push {cls:= .type "tuple",data:= .seq #[.none, .none]}
abbrev Pj(t u:Bool)(h:Heap)(l1 l2:Addr):Heap:=(RW t u h l1 l2).push {cls:= .type "zip",data:= .fields #[.none, .bool false, .bool false, .ref (R6 t u h l1 l2).objs.size, .ref (R7 t u h l1 l2).objs.size]}
theorem CA(t u:Bool)(l1 l2:Addr)(xs ys:Array Value):Meets (Builtin.«zip.__new__» ⟨[.type "zip", .ref l1, .ref l2],[]⟩) (fun _ R s=>k3 t s.heap l1 xs/\k3 u s.heap l2 ys/\R (.ok (.ret (.ref (RW t u s.heap l1 l2).objs.size))) {s with heap:=Pj t u s.heap l1 l2}):=
 .of_wp fun prog w A R s h=>by
   obtain⟨hp,g,d,tk,os⟩:=s;obtain⟨JZ,Pf,h⟩:=h;have hsub:=sub_zip;have hL1:k3 t (Shared.heap ⟨hp,g,d,tk,os⟩) l1 xs:=JZ;have hL2:k3 u (Shared.heap ⟨hp.push {cls:= .type (uU t),data:= .fields #[.ref l1, .int 0 0]},g,d,tk,os⟩) l2 ys:=Pf.at fun o e=>Heap.get?_push_of_some _ e
   wp_walk using xF hL1,xF hL2
   exact⟨_,rfl,h⟩
theorem gQ.new{t:Bool}{h:Heap}{i l:Addr}(e:h.get? i=some {cls:= .type (uU t),data:= .fields #[.ref l, .int 0 0]}):gQ t h i l 0:=by
 cases t with
 | true=>exact⟨_,e,rfl,rfl⟩
 | false=>exact⟨_,e,rfl,rfl⟩
theorem xt{prog:Program}{w:World}{A:Around}{E:Zl}{s:Shared}{t u:Bool}{l1 l2:Addr}{xs ys:Array Value}{Q:Zl}(JZ:k3 t s.heap l1 xs)(Pf:k3 u s.heap l2 ys)
 (h:∀h',IsZip h' (s.heap.objs.size+4) (s.heap.objs.size+2) (s.heap.objs.size+3) .none->IsPair h' (s.heap.objs.size+2) (.ref s.heap.objs.size) (.ref (s.heap.objs.size+1))->IsPair h' (s.heap.objs.size+3) .none .none->
   gQ t h' s.heap.objs.size l1 0->gQ u h' (s.heap.objs.size+1) l2 0->(∀c o,s.heap.get? c=some o->h'.get? c=some o)->Q (.ref (s.heap.objs.size+4)) {s with heap:=h'}):wpAny (model prog w) A (call (.type "zip") [.ref l1, .ref l2]) Q E s:=by
 refine callType_new F.called_zip (by decide) (F.typeCall_zip_2 _ _) (F.newCall_zip_2 _ _) (fun obj=>F.args_object_init_3 obj _ _) F.entry_zip_new (CA t u l1 l2 xs ys) ⟨JZ,Pf,?_⟩
 have z1:(RZ t s.heap l1).objs.size=s.heap.objs.size+1:=Heap.size_push ..;have z2:(R6 t u s.heap l1 l2).objs.size=s.heap.objs.size+2:=(Heap.size_push ..).trans (congrArg (·+1) z1)
 have z3:(R7 t u s.heap l1 l2).objs.size=s.heap.objs.size+3:=(Heap.size_push ..).trans (congrArg (·+1) z2)
 have z4:(RW t u s.heap l1 l2).objs.size=s.heap.objs.size+4:=(Heap.size_push ..).trans (congrArg (·+1) z3)
 have g5:(Pj t u s.heap l1 l2).get? (RW t u s.heap l1 l2).objs.size=some _:=Heap.get?_push_size _ rfl;have g4:(Pj t u s.heap l1 l2).get? (R7 t u s.heap l1 l2).objs.size=some _:=Heap.get?_push_of_some _ (Heap.get?_push_size _ rfl);have g3:(Pj t u s.heap l1 l2).get? (R6 t u s.heap l1 l2).objs.size=some _:=Heap.get?_push_of_some _ <| Heap.get?_push_of_some _ (Heap.get?_push_size _ rfl)
 have g2:(Pj t u s.heap l1 l2).get? (RZ t s.heap l1).objs.size=some _:=Heap.get?_push_of_some _ <| Heap.get?_push_of_some _ <| Heap.get?_push_of_some _ (Heap.get?_push_size _ rfl)
 have g1:(Pj t u s.heap l1 l2).get? s.heap.objs.size=some _:=Heap.get?_push_of_some _ <| Heap.get?_push_of_some _ <| Heap.get?_push_of_some _ <| Heap.get?_push_of_some _ (Heap.get?_push_size _ rfl)
 show _/\_;rw[z2,z3,z4] at g5;rw [z1,z2] at g3;rw [z3] at g4;rw [z1] at g2;rw [z4];exact⟨⟨_,g5,rfl⟩,h _ g5 g3 g4 (gQ.new g1) (gQ.new g2) fun c o x=>Heap.get?_push_of_some _ <| Heap.get?_push_of_some _ <| Heap.get?_push_of_some _ <| Heap.get?_push_of_some _ <| Heap.get?_push_of_some _ x⟩
end PySem
namespace L2
open PySem PySem.Spec PyProof.Rows
def JM(t:Bool)(K:W.Frag)(H:Hp)(a:Addr)(xs:List V):Prop:=cond t (tS K H a xs) (qT K H a xs)
theorem Inv.Ga{X:Cx}{pins:Zk}{σ:L2.St}{s:Shared}{t:Bool}{a:Addr}{xs:List V}(I:Inv X pins σ H s)(h:JM t X.K H a xs):∃its:List Value,Vals xs its/\k3 t s.heap a its.toArray:=by
 cases t with
 | true=>obtain⟨its,r,p,_⟩:=I.tuple h;exact⟨its,r,p⟩
 | false=>obtain⟨its,r,p,_⟩:=I.list h;exact⟨its,r,p.isList⟩
theorem Inv.DS{X:Cx}{pins:Zk}{σ:L2.St}{s:Shared}{t:Bool}{a:Addr}{xs ys:List V}(I:Inv X pins σ H s)(h:JM t X.K H a xs)(h':JM t X.K H a ys):xs=ys:=by
 cases t with
 | true=>exact I.tm h h'
 | false=>exact I.rn h h'
def Wa(K:W.Frag)(t u:Bool)(a b:Addr):It:=
 ⟨fun i H=>∃xs ys x y,JM t K H a xs/\JM u K H b ys/\xs[i]? =some x/\ys[i]? =some y,
  fun i H v H'=>∃p x y,H p=none/\v= .ref p/\(∀xs,JM t K H a xs->xs[i]? =some x)/\(∀ys,JM u K H b ys->ys[i]? =some y)/\H'=upd H p (.tup [x,y]),
  fun i H=>∃xs ys,JM t K H a xs/\JM u K H b ys/\(xs.length<=i\/ys.length<=i)⟩
theorem zO{K:W.Frag}{k:Nat}{t u:Bool}{z TI TO i1 i2 a b:Addr}(D:ZipApart z TI TO i1 i2 a b):Turn P w K (.Tuple elts k pos) (Wa K t u a b) [z,TI,TO,i1,i2] z
 (fun i h=>IsZip h z TI TO .none/\IsPair h TI (.ref i1) (.ref i2)/\(∃x y,IsPair h TO x y)/\gQ t h i1 a i/\gQ u h i2 b i) where
 mem:=by simp
 obj:=fun i h st c hc=>by
  obtain⟨hz,Bx,⟨x,y,BF⟩,h1,h2⟩:=st;simp only[List.mem_cons,List.not_mem_nil,or_false] at hc;rcases hc with rfl | rfl | rfl | rfl | rfl
  .exact⟨_,hz,fun v z=>by cases z⟩
  .exact⟨_,Bx,fun v z=>by cases z⟩
  .exact⟨_,BF,fun v z=>by cases z⟩
  .exact h1.ob
  .exact h2.ob
 keep:=fun i h h' st k=>by
  obtain⟨hz,Bx,⟨x,y,BF⟩,h1,h2⟩:=st;exact⟨k z (by simp) _ hz,k TI (by simp) _ Bx,⟨x,y,k TO (by simp) _ BF⟩,h1.at fun o e=>k i1 (by simp) o e,h2.at fun o e=>k i2 (by simp) o e⟩
 item:=by
  intro X hP hw hK hc i pins s σ H E I hf st hg;subst hP hw hK;obtain⟨xs,ys,x,y,hq,hr,hx,hy⟩:=hg;obtain⟨its,rv,p⟩:=I.Ga hq;obtain⟨jts,JG,p'⟩:=I.Ga hr;obtain⟨ux,hu,ru⟩:=rv.get hx;obtain⟨uy,XE,RB⟩:=JG.get hy;obtain⟨hz,Bx,⟨a0,b0,BF⟩,h1,h2⟩:=st;have hT:s.TypeIs (.ref z) "zip":=⟨_,hz,rfl⟩;unfold pyNext;refine wpAny_bind (wpAny_attempt (wpAny_callSpecial?_slot (name:="__next__") hT F.slot_zip_next (wpAny_call_entry F.slot_zip_next hT F.entry_zip_next (F6 D hz Bx BF h1 h2 p p' (x:=ux) (y:=uy) (by simpa using hu) (by simpa using XE) fun jM a1 a2 a3 a4 a5 a6 yj=>wpAny_pure ?_) (F.args_zip_next_1 _))))
  refine⟨_,rfl,wpAny_letOwnedTupleGo_zip a1 fun gH EM dh=>?_⟩
  replace dh:Heap.SameBut z jM gH:=dh
  have hzl:z < s.heap.objs.size:=Heap.lt_size hz;have Bu:gH.get? s.heap.objs.size=some {cls:= .type "tuple",data:= .seq #[ux,uy]}:=(dh.2 _ (Nat.ne_of_gt hzl)).trans a5;have kk:∀b o,b≠z->b≠TO->b≠i1->b≠i2->s.heap.get? b=some o->gH.get? b=some o:=fun b o c1 c2 c3 c4 q=>(dh.2 b c1).trans (yj b o c1 c2 c3 c4 q)
  have hn:H s.heap.objs.size=none:=I.fresh;have sm:aU H (upd H s.heap.objs.size (.tup [x,y])):=aR hn;have f0:∀c∈[z,TI,TO,i1,i2],H c=none:=fun c hc=>(hf c hc).1
  have nit:∀b o,H b=some o->b≠z/\b≠TO/\b≠i1/\b≠i2:=fun b o q=>by
   refine⟨fun e=>?_,fun e=>?_,fun e=>?_,fun e=>?_⟩
   .rw [e,f0 z (by simp)] at q;cases q
   .rw [e,f0 TO (by simp)] at q;cases q
   .rw [e,f0 i1 (by simp)] at q;cases q
   .rw [e,f0 i2 (by simp)] at q;cases q
  have kH:∀b o q,H b=some q->s.heap.get? b=some o->gH.get? b=some o:=fun b o q hb e=>let⟨c1,c2,c3,c4⟩:=nit b q hb;kk b o c1 c2 c3 c4 e
  have hok:pR X.prog X.w (upd H s.heap.objs.size (.tup [x,y])) gH:=fun b ob q=>by
   by_cases hb:b=s.heap.objs.size
   .subst hb;rw[aX] at q;cases q;exact⟨by show 2<=sizeLine;decide,[ux,uy], .cons ru (.cons RB .nil),⟨_,Bu,rfl,_,rfl⟩⟩
   .rw [bb hb] at q;refine(I.hok b ob q).yN (fun c v hc e=>?_) (fun c e=>sm c _ e) fun c ys e=>sm c _ e
    rcases hc with rfl | hc
    .exact kH c v _ q e
    .exact kH c v _ hc e
  have nch:∀b,b ∉ [z,TI,TO,i1,i2]->b≠z/\b≠TO/\b≠i1/\b≠i2:=fun b hb=>⟨fun e=>hb (by simp [e]),fun e=>hb (by simp [e]),fun e=>hb (by simp [e]),fun e=>hb (by simp [e])⟩
  have kc:∀b o,b ∉ [z,TI,TO,i1,i2]->s.heap.get? b=some o->gH.get? b=some o:=fun b o hb e=>let⟨c1,c2,c3,c4⟩:=nch b hb;kk b o c1 c2 c3 c4 e
  have I2:Inv X pins σ (upd H s.heap.objs.size (.tup [x,y])) {s with heap:=gH,toks:=s.toks}:=by
   refine I.step (g':=s.gens) (d':=s.drawn) (ch:=[z,TI,TO,i1,i2]) (fun b hb=>?_) (fun b o _ _ hb q _=>kc b o hb q) (fun b o _ _ hb q _=>⟨o.slots,kc b o hb q⟩)
    (fun b o hb q n=>by rw[bb (Nat.ne_of_lt (Heap.lt_size q))];exact n) (fun b o hb q=>⟨o,kc b o hb q⟩) (fun b ys e=>sm b _ e) (fun b o u e=>sm b _ e) (fun b ps e=>⟨#[],by rw[sm b _ e];simp⟩) (fun m hm=>?_) hok I.bare
   .obtain⟨g0,g1,g2,g3,g4,g5⟩:=hf b hb;exact⟨g3,g1,g4,g5⟩
   .obtain⟨o,es,ep,ho,r⟩:=hm;refine⟨o,es,ep,kc _ o (fun hb=>?_) ho,r⟩
    exact(hf _ hb).2.1 rfl
  have up:∀c,c≠z->∀o,jM.get? c=some o->gH.get? c=some o:=fun c hc o e=>(dh.2 c hc).trans e
  refine⟨.ref s.heap.objs.size,_,I2,rfl,⟨s.heap.objs.size,x,y,hn,rfl,fun zs UH=>(by rw[I.DS UH hq];exact hx),fun zs UH=>(by rw[I.DS UH hr];exact hy),rfl⟩,
   ⟨EM,up _ D.TIz _ (yj TI _ D.TIz D.TITO D.TIi1 D.TIi2 Bx),⟨_,_,up _ D.TOz _ a2⟩,a3.at fun o e=>up _ D.i1z o e,a4.at fun o e=>up _ D.i2z o e⟩,fun c hc=>?_⟩
  have hlt:c < s.heap.objs.size:=by
   simp only[List.mem_cons,List.not_mem_nil,or_false] at hc;rcases hc with rfl | rfl | rfl | rfl | rfl
   .exact hzl
   .exact Heap.lt_size Bx
   .exact Heap.lt_size BF
   .exact h1.lt
   .exact h2.lt
  rw[bb (Nat.ne_of_lt hlt)];exact f0 c hc
 done:=by
  intro X hP hw hK hc i pins s σ H E I hf st hg;subst hP hw hK;obtain⟨xs,ys,hq,hr,hl⟩:=hg;obtain⟨its,rv,p⟩:=I.Ga hq;obtain⟨jts,JG,p'⟩:=I.Ga hr;obtain⟨hz,Bx,⟨a0,b0,BF⟩,h1,h2⟩:=st;have hT:s.TypeIs (.ref z) "zip":=⟨_,hz,rfl⟩;have l1:=rv.length;have l2:=JG.length;unfold pyNext;refine wpAny_bind (wpAny_attempt (wpAny_callSpecial?_slot (name:="__next__") hT F.slot_zip_next (wpAny_call_entry F.slot_zip_next hT F.entry_zip_next (GH (I.ok.hd hc) D hz Bx BF h1 h2 p p' ?_ fun h' e hk he=>?_) (F.args_zip_next_1 _))))
  .rcases hl with hl | hl
   .exact .inl (by simp;omega)
   .exact .inr (by simp;omega)
  obtain⟨o,ho,hcl⟩:=he;refine wpAny_bind (wpAny_isInstance (T:="StopIteration") (b:=true) ⟨o,ho,hcl⟩ isSubtype_stop ?_);have nch:∀b,b ∉ [z,TI,TO,i1,i2]->b≠z/\b≠TO/\b≠i1/\b≠i2:=fun b hb=>⟨fun e=>hb (by simp [e]),fun e=>hb (by simp [e]),fun e=>hb (by simp [e]),fun e=>hb (by simp [e])⟩
  have kc:∀b o,b ∉ [z,TI,TO,i1,i2]->s.heap.get? b=some o->h'.get? b=some o:=fun b o hb e=>let⟨c1,c2,c3,c4⟩:=nch b hb;hk b o c1 c2 c3 c4 e
  have f0:∀c∈[z,TI,TO,i1,i2],H c=none:=fun c hc=>(hf c hc).1
  have kH:∀b o q,H b=some q->s.heap.get? b=some o->h'.get? b=some o:=fun b o q hb e=>kc b o (fun z=>by rw[f0 b z] at hb;cases hb) e
  refine wpAny_pure ⟨rfl,?_⟩;refine I.step (h':=h') (H':=H) (g':=s.gens) (d':=s.drawn) (t':=s.toks) (ch:=[z,TI,TO,i1,i2]) (fun b hb=>?_) (fun b o _ _ hb q _=>kc b o hb q) (fun b o _ _ hb q _=>⟨o.slots,kc b o hb q⟩)
   (fun b o hb q n=>n) (fun b o hb q=>⟨o,kc b o hb q⟩) (fun b ys e=>e) (fun b o u e=>e) (fun b ps e=>⟨#[],by rw[e];simp⟩) (fun m hm=>?_) (fun b ob q=>?_) I.bare
  .obtain⟨g0,g1,g2,g3,g4,g5⟩:=hf b hb;exact⟨g3,g1,g4,g5⟩
  .obtain⟨o,es,ep,ho,r⟩:=hm;refine⟨o,es,ep,kc _ o (fun hb=>?_) ho,r⟩
   exact(hf _ hb).2.1 rfl
  .refine(I.hok b ob q).yN (fun c v hc e=>?_) (fun c e=>e) fun c ys e=>e
   rcases hc with rfl | hc
   .exact kH c v _ q e
   .exact kH c v _ hc e
 self:=fun A i s Q E st h=>wpAny_pyIter_zip st.1 h
section
variable {X:Cx}
def lL(ds es:List D):List D:=(ds.zip es).map fun p=> .tup [p.1,p.2]
def seqD?:D->Option (List D)
 | .lst ds=>some ds
 | .tup ds=>some ds
 | _=>none
def Ef(f g:FD):av->R (List D):=fun δ=>(f δ).bind fun d=>(g δ).bind fun e=>match seqD? d,seqD? e with | some ds,some es=> .ok (lL ds es) | _,_=> .no
theorem Rep.Ga{K:W.Frag}{B:List Addr}{d:D}{v:V}{ds:List D}(r:Rep K B H d v)(h:seqD? d=some ds):∃t a xs,v= .ref a/\(∀B' H',dP B H B' H'->JM t K H' a xs/\aH K B' H' ds xs):=by
 cases d with
 | lst es=>
   cases h;obtain⟨a,xs,rfl,l,rs⟩:=Rep.lst.mp r;exact⟨false,a,xs,rfl,fun B' H' p=>⟨(l.bq p).sq,rs.bq p⟩⟩
 | tup es=>
   cases h;obtain⟨a,xs,rfl,l,rs⟩:=Rep.tup.mp r;refine⟨true,a,xs,rfl,fun B' H' p=>⟨?_,rs.bq p⟩⟩
   have l':x9 K B' H' a xs:=l.elim (fun z=> .inl ⟨(p.rd z.2 z.1).2,(p.rd z.2 z.1).1⟩) .inr
   exact l'.sq
 | _=>cases h
theorem Bs{elts:List Expr}{k:Nat}{tK:Pos}{p pos:Pos}(h:QD X a f)(h':QD X b g)(hg:Gl X "zip")(hm:X.mg "zip"=none)(hs:starEach [a,b] X.env=[(false,eval a X.env),(false,eval b X.env)]:=by rfl)(Dh:starEach [b] X.env=[(false,eval b X.env)]:=by rfl) :
 BE X (.Tuple elts k tK) (.Call (.Name "zip" p) [a,b] [] pos) (Ef f g):=by
 refine⟨?_⟩;intro pins s σ H RR I ⟨Z,B,δ,ds,E,hf,q⟩;obtain⟨d,h1,h2⟩:=R.ai hf;obtain⟨e,h3,h4⟩:=R.ai h2;have hA:=fI h.1 (fI h'.1 jG Dh) (by rw[hs,Dh]) pos pins s σ H (fun vs H1=>aU H H1/\∃v v',vs=[v,v']/\Rep X.K B H1 d v/\Rep X.K B H1 e v') I
  ⟨Z,B,δ,d,E,h1,fun v H1 s1 r1=>⟨Z,B,δ,e,E.same s1,h3,fun v' H2 s2 r2=>⟨s1.trans s2,v,v',rfl,r1.same s2,r2⟩⟩⟩
 refine Call_ (lQ I hg hm boot_zip (PyProof.Rows.callWith_type1 (d6 hA fun us s1 ⟨vs,H1,I1,r1,ss,v,v',ev,rr,Pa⟩=>?_) (by rw[hs,Dh]) (by rw[Dh];rfl)))
 subst ev;obtain⟨u,u',rfl,ru,RB⟩:=vals2 r1;cases e1:seqD? d with
 | none=>rw [e1] at h4;cases h4
 | some ls=>
   cases e2:seqD? e with
   | none=>rw [e1,e2] at h4;cases h4
   | some ms=>
     rw[e1,e2] at h4;cases h4;obtain⟨t,a,xs,rfl,k1⟩:=rr.Ga e1;obtain⟨w,b,ys,rfl,k2⟩:=Pa.Ga e2;cases ru;cases RB;obtain⟨its,rv,pp⟩:=I1.Ga (k1 B H1 (dP.refl B H1)).1;obtain⟨jts,JG,RK⟩:=I1.Ga (k2 B H1 (dP.refl B H1)).1;have la:=pp.lt;have lb:=RK.lt;refine xt pp RK fun gH hz Bx BF UN Ul kk=>wpAny_pyIter_zip hz ?_
     have I2:Inv X pins σ H1 {s1 with heap:=gH}:=I1.kept (t':=s1.toks) kk
     refine⟨s1.heap.objs.size+4,[s1.heap.objs.size+4,s1.heap.objs.size+2,s1.heap.objs.size+3,s1.heap.objs.size,s1.heap.objs.size+1],_,_,H1,rfl,I2,zO (t:=t) (u:=w) (zipApart_new la lb),⟨hz,Bx,⟨_,_,BF⟩,UN,Ul⟩,fun c hc=>?_,q _ H1 ss fun B' H' pr=>?_⟩
     .have hle:s1.heap.objs.size<=c:=by
       simp only[List.mem_cons,List.not_mem_nil,or_false] at hc;rcases hc with rfl | rfl | rfl | rfl | rfl <;> omega
      exact I1.vm hle (I1.hok.fresh hle)
     .obtain⟨l1,MI⟩:=k1 B' H' pr;obtain⟨l2,MG⟩:=k2 B' H' pr;refine⟨fun i d hd=>?_,⟨xs,ys,l1,l2,?_⟩⟩
      .unfold lL at hd;rw[List.getElem?_map] at hd;cases ez:(ls.zip ms)[i]? with
       | none=>rw [ez] at hd;cases hd
       | some pr'=>
         rw[ez] at hd;have hd:D.tup [pr'.1,pr'.2]=d:=Option.some.inj hd;obtain⟨ea,eb⟩:=List.getElem?_zip_eq_some.mp ez;obtain⟨x,hx,rx⟩:=MI.get ea;obtain⟨y,hy,ry⟩:=MG.get eb;refine⟨⟨xs,ys,x,y,l1,l2,hx,hy⟩,fun v nY yl JJ=>?_⟩
         obtain⟨p,x2,y2,hp,rfl,L6,zI,rfl⟩:=yl;refine⟨aR hp,?_⟩;subst hd;have L6:=L6 xs l1;have zI:=zI ys l2;rw[hx] at L6;cases L6;rw[hy] at zI;cases zI;refine Rep.tup.mpr ⟨p,_,rfl, .inl ⟨fun ha=>?_, .inl aX⟩,aH.cons (rx.same (aR hp)) (aH.cons (ry.same (aR hp)) aH.nil)⟩
         obtain⟨o,ho⟩:=JJ p ha;rw[hp] at ho;cases ho
      .rw [<-MI.length,<-MG.length];unfold lL;rw[List.length_map,List.length_zip];omega
def Vw(T U:String)(f:FD):FD:=fun δ=>(f δ).bind fun d=>match d with | .dct _ _=> .no | _=> .ok (.bl (Oq (tyName d) T || Oq (tyName d) U))
def YY(lo:Int)(n:Nat):It:=⟨fun i _=>i < n,fun i H x H'=>H'=H/\x= .int (lo - i),fun i _=>n<=i⟩
def Ui(lo:Int)(n:Nat):List D:=(List.range n).map fun(i:Nat)=>D.int (lo - i)
def Vl(f g h:FD):av->R (List D):=fun δ=>(f δ).bind fun d=>(g δ).bind fun e=>(h δ).bind fun k=>match d,e,k with
 | .int i, .int j, .int m=>R.bN (decide (m= -1/\ -(2 ^ 60)<=i/\i < 2 ^ 60/\ -(2 ^ 60)<=j/\j < 2 ^ 60)) (.ok (Ui i (i - j).toNat)) | _,_,_=> .no
def bls?:List D->Option (List Bool)
 | []=>some []
 | .bl b ::ds=>(bls? ds).map (b ::·)
 | _ ::_=>none
theorem u9{K:W.Frag}{B:List Addr}:∀{ds:List D} {xs:List V} {bs:List Bool},aH K B H ds xs->bls? ds=some bs->xs=bs.map V.bl
 | [],xs,bs,r,h=>by unfold aH at r;subst r;cases h;rfl
 | d ::ds,xs,bs,r,h=>by
   obtain⟨x,q,rfl,r1,r2⟩:=r.cw;cases d with
   | bl b=>
     have h:(bls? ds).map (b ::·)=some bs:=h
     cases e:bls? ds with
     | none=>rw [e] at h;cases h
     | some cs=>
       rw[e] at h;cases h;rw[Rep.bl.mp r1,u9 r2 e];rfl
   | _=>cases h
theorem uH:∀bs:List Bool,bls? (bs.map D.bl)=some bs
 | []=>rfl
 | b ::bs=>by show(bls? (bs.map D.bl)).map (b ::·)=_;rw [uH bs];rfl
theorem qf:∀{bs:List Bool} {us:List Value},Vals (bs.map V.bl) us->us=bs.map Value.bool
 | [],us,h=>by cases h;rfl
 | b ::bs,us,h=>by
   cases h with
   | cons r t=>rw [qf t,show _=Value.bool b from r];rfl
theorem range_all(bs:List Bool):(List.range bs.length).all (fun i=>bs.getD i false)=bs.all id:=by
 rw[Bool.eq_iff_iff];simp only[List.all_eq_true,List.mem_range,id];constructor
 .intro h b hb;obtain⟨i,hi,rfl⟩:=List.getElem_of_mem hb;have:=h i hi;rw[List.getD_eq_getElem?_getD,List.getElem?_eq_getElem hi] at this;exact this
 .intro h i hi;rw[List.getD_eq_getElem?_getD,List.getElem?_eq_getElem hi];exact h _ (List.getElem_mem hi)
theorem range_any(bs:List Bool):(List.range bs.length).any (fun i=>bs.getD i false)=bs.any id:=by
 rw[Bool.eq_iff_iff];simp only[List.any_eq_true,List.mem_range,id];constructor
 .rintro⟨i,hi,h⟩;rw[List.getD_eq_getElem?_getD,List.getElem?_eq_getElem hi] at h;exact⟨_,List.getElem_mem hi,h⟩
 .rintro⟨b,hb,h⟩;obtain⟨i,hi,rfl⟩:=List.getElem_of_mem hb;exact⟨i,hi,by rw[List.getD_eq_getElem?_getD,List.getElem?_eq_getElem hi];exact h⟩
def NQ:List D->R D
 | [.lst ds]=>(match bls? ds with | some bs=> .ok (.bl (bs.all id)) | none=> .no)
 | _=> .no
def HL:List D->R D
 | [.lst ds]=>(match bls? ds with | some bs=> .ok (.bl (bs.any id)) | none=> .no)
 | _=> .no
theorem MD{bs:List Bool}{i:Nat}{v:Value}(h:((bs.map Value.bool).toArray)[i]? =some v):v= .bool (bs.getD i false):=by
 rw[List.getElem?_toArray,List.getElem?_map] at h;rw[List.getD_eq_getElem?_getD];cases e:bs[i]? with
 | none=>rw [e] at h;cases h
 | some b=>rw [e] at h;cases h;rfl
theorem Qo(hc:X.calm=true):cK X (.builtin "all") NQ:=by
 intro pins s σ H B ds d xs us I hb rx rs hg;unfold NQ at hg;split at hg
 .split at hg
  .rename_i es bs e;cases hg;obtain⟨x,rfl,r⟩:=rs.one;obtain⟨a,ys,rfl,l,r⟩:=Rep.lst.mp r;obtain⟨u,rfl,ru⟩:=vals1 rx;cases ru;obtain⟨its,n,rv,e1,hz⟩:=I.Mp l;rw[u9 r e] at rv;obtain rfl:=qf rv;have hl:s.heap.IsList a (bs.map Value.bool).toArray:=⟨_,e1,rfl,n,rfl⟩;have hlt:a < s.heap.objs.size:=Heap.lt_size e1;refine call_all_walk (wpAny_pyIter_list hl ?_);refine⟨_,_,_,_,_,_,fun i=>bs.getD i false,rfl,Walks.list (A:=X.A.in1) (I.ok.hd hc) _ a (Nat.ne_of_lt hlt) _,⟨⟨_,Heap.get?_push_size _ rfl,rfl,rfl⟩,hl.push _⟩,?_,fun h' tk hk=>?_⟩
   .intro i v s Q E hP hQ;rw[MD hP];exact wpAny_truthy_bool hQ
   .refine⟨.bl (bs.all id),H,I.kept (old_kept hk),?_,aU.refl H,Rep.bl.mpr rfl⟩;show Value.bool _=Value.bool _;rw[<-range_all];simp
  .cases hg
 .cases hg
theorem Mv(hc:X.calm=true):cK X (.builtin "any") HL:=by
 intro pins s σ H B ds d xs us I hb rx rs hg;unfold HL at hg;split at hg
 .split at hg
  .rename_i es bs e;cases hg;obtain⟨x,rfl,r⟩:=rs.one;obtain⟨a,ys,rfl,l,r⟩:=Rep.lst.mp r;obtain⟨u,rfl,ru⟩:=vals1 rx;cases ru;obtain⟨its,n,rv,e1,hz⟩:=I.Mp l;rw[u9 r e] at rv;obtain rfl:=qf rv;have hl:s.heap.IsList a (bs.map Value.bool).toArray:=⟨_,e1,rfl,n,rfl⟩;have hlt:a < s.heap.objs.size:=Heap.lt_size e1;refine call_any_walk (wpAny_pyIter_list hl ?_);refine⟨_,_,_,_,_,_,fun i=>bs.getD i false,rfl,Walks.list (A:=X.A.in1) (I.ok.hd hc) _ a (Nat.ne_of_lt hlt) _,⟨⟨_,Heap.get?_push_size _ rfl,rfl,rfl⟩,hl.push _⟩,?_,fun h' tk hk=>?_⟩
   .intro i v s Q E hP hQ;rw[MD hP];exact wpAny_truthy_bool hQ
   .refine⟨.bl (bs.any id),H,I.kept (old_kept hk),?_,aU.refl H,Rep.bl.mpr rfl⟩;show Value.bool _=Value.bool _;rw[<-range_any];simp
  .cases hg
 .cases hg
end
end L2
end
section
namespace L2
open PySem PySem.Spec PyProof.Rows
section
variable {X:Cx}
def YM:FS:=fun _=> .no
def Vc(f:FD):FS:=fun δ=>(f δ).bind fun _=> .ok (.nx δ)
end
end L2
namespace L3
open PySem PySem.Spec PyProof.Rows L2
section
variable {X:Cx} {cl:Zq}
def YT:FZ:=fun _ _=> .no
def xH(f:av->R (List D)):FX:=fun δ S=>(R3.of (f (fj S δ)) S).bind fun ds S=>R3.bN (ix ds) (.ok (.loc S.length) (S++[.lst ds]))
theorem D5{K:W.Frag}{f:av->R (List D)}{σ:L2.St}{Q:V->Hp->Prop}(h:tX K cl (xH f) σ H Q):tN K f σ H Q:=by
 obtain⟨ρ,S,δ,v,S',E,hf,q⟩:=h;obtain⟨ds,S1,h1,h2⟩:=R3.ai hf;obtain⟨h3,e3⟩:=R3.of_ok h1;obtain⟨ht,h4⟩:=R3.bc h2;cases h4;subst e3;refine⟨[],[],fj _ δ,ds,E.fj,h3,fun a xs H' s n e r=>?_⟩
 have r0:aH K [] H' ds xs:=r.bq fun b o e nb=>⟨e,by simp⟩
 have r':aH K (ρ.push a).b H' ds xs:=aH.xZ (fun b hb ys hr=>by
  rcases P3.mem_push hb with z | z
  .exact(E.sw.same s).nt b z ys hr
  .subst z;rcases hr with y | ⟨ob,y⟩
   .rw [e] at y;cases y
   .rw [e] at y;cases y) ht r0
 obtain⟨w,p⟩:=E.sw.new (o:= .lst ds) s n ⟨xs,e,r'⟩;exact q _ _ H' p w (by unfold a_;exact⟨a,by show(ρ.r++[a])[_]? =_;rw [<-E.sw.len,List.getElem?_append_right (by omega),Nat.sub_self];rfl,rfl⟩)
theorem KJ{f:av->R (List D)}(h:QN X e f):PX X cl e (xH f):=⟨h.1.imp fun σ H Q h=>D5 h⟩
theorem Bp{i:Nat}{x:Str}{pos' Bv:Pos}{scope:Scope}{own:List Str}{kp:List Nat}{kn:List Str}{tg iter elt:Expr}{ifs:List Expr}{it:av->R (List D)}{t:FT}{c:av->R Bool}{f:FD}{pos:Pos}(hc:X.calm=true)
 (hN:X.N.Nodup) (hx:X.N[i]? =some x) (JY:X.env.scope.names.lookup x=some .local) (C:bz X scope own kp kn) (hi:BE X tg iter it)
 (hg:∀fp s H,Px (bM X scope (own++kn) fp s H) tg t) (Gp:∀fp s H,Lb (bM X scope (own++kn) fp s H) ifs c) (he:∀fp s H,QD (bM X scope (own++kn) fp s H) elt f)
 (Jz:swapsWith (.ListComp elt [⟨tg,iter,ifs,0⟩] scope pos) (some (.Name x pos')) Bv.line X.env=pure true:=by rfl)
 (hs:∀x,foldedSetIterable iter X.env x=pure x:=by intro _;rfl):PZ X cl (.Assign [.Name x pos'] (.ListComp elt [⟨tg,iter,ifs,0⟩] scope pos) Bv) (cC i (xH (cO it t c f own kp))):=
 ⟨(uS hc hN hx JY C hi.1 (fun fp s H=>(hg fp s H).1) (fun fp s H=>(Gp fp s H).1) (fun fp s H=>(he fp s H).1) Jz hs).imp fun D σ H h=>D1 (D5 (Jn h))⟩
theorem HG{f:av->R (List D)}{ds:List D}{δ:DE}{S:aP}{QV:V3->aP->Prop}(e:f (fj S δ)= .ok ds)(ht:ix ds=true)(h:QV (.loc S.length) (S++[.lst ds])):W3 (xH f δ S) QV:=W3.bind (W3.of e (W3.wh ht (W3.ok h)))
def WW(i:Nat)(f:FX):FZ:=fun δ S=>match kg δ i with
 | none=> .no
 | some k=>match eE S k with
   | none=> .no
   | some _=>(f δ S).bind fun v S1=>match v with
     | .d (.lst es)=>(match eE S1 k with
       | some ds=>R3.bN (decide (ds.length+es.length<=sizeLine)) (.ok (.nx δ) (S1.set k (.lst (ds++es))))
       | none=> .no)
     | _=> .no
end
end L3
end
section
namespace L2
open PySem PySem.Spec PyProof.Rows
section
variable {X:Cx}
theorem HY{prog:Program}{w:World}{A:Around}{E:Zl}{s:Shared}{t b:Addr}{vs ws:List Value}{Q:Zl}(ht:IsTup s.heap t vs.toArray)(hb:IsTup s.heap b ws.toArray)
 (h0:vs=[]->Q (.ref b) s) (h1:vs≠[]->ws=[]->Q (.ref t) s) (h2:vs≠[]->ws≠[]->Q (.ref s.heap.objs.size) {s with heap:=s.heap.push {cls:= .type "tuple",data:= .seq (vs++ws).toArray}})
 (hsz:vs.length+ws.length<=sizeLine):wpAny (model prog w) A (binaryOp .Add (.ref t) (.ref b)) Q E s:=by
 by_cases hv:vs=[]
 .obtain⟨⟨cls,dd,data,sl⟩,ho,hc,n,hd⟩:=id ht;obtain⟨⟨UW,Si,data2,PU⟩,L5,Py,n2,hd2⟩:=id hb;simp only at hc hd Py hd2;subst hc hd Py hd2;exact concat_meets ⟨_,ho,rfl⟩ ⟨_,L5,rfl⟩ noFill_tuple_add seq_tuple_add PySem.F.slot_tuple_add PySem.F.entry_tuple_add (PySem.F.args_tuple_add_2 _ _) (tuple_addW0 t b vs.toArray ws.toArray n n2 dd Si sl PU (by simp [hv])) ⟨ho,L5,h0 hv⟩
 .exact HT.J3 ht hb hv (h1 hv) (h2 hv) hsz
def iz(d e:D):R D:=match d,e with
 | .tup a, .tup b=>R.bN (decide (a.length+b.length<=sizeLine)) (.ok (.tup (a++b)))
 | d,e=>eT d e
theorem x9.fresh{K:W.Frag}{B:List Addr}{H:Hp}{p:Addr}{xs:List V}(hb:∀a∈B,∃o,H a=some o)(hp:H p=none):x9 K B (upd H p (.tup xs)) p xs:= .inl ⟨fun ha=>(by obtain⟨o,ho⟩:=hb p ha;rw [hp] at ho;cases ho), .inl aX⟩
theorem lN:lq X (binaryOp .Add) iz:=by
 intro pins s σ H B da db d x y v u I hb rx ry ra rb hg;by_cases ht:∃a b,da= .tup a/\db= .tup b
 .obtain⟨a,b,rfl,rfl⟩:=ht;have hg:R.bN (decide (a.length+b.length<=sizeLine)) (.ok (.tup (a++b)))= .ok d:=hg;obtain⟨h1,h2⟩:=R.bc hg;cases h2;have h1:=of_decide_eq_true h1;have ra':=ra;have rb':=rb;obtain⟨a1,Uz,rfl,l1,r1⟩:=Rep.tup.mp ra;obtain⟨a2,UI,rfl,l2,r2⟩:=Rep.tup.mp rb;cases rx;cases ry;obtain⟨its,V0,p1,_⟩:=I.tuple l1.sq;obtain⟨O9,Sq,p2,_⟩:=I.tuple l2.sq;have e1:=V0.length;have e2:=Sq.length;have e3:=r1.length;have e4:=r2.length;refine HY p1 p2 (fun z=>⟨.ref a2,H,I,rfl,aU.refl H,?_⟩) (fun _ z=>⟨.ref a1,H,I,rfl,aU.refl H,?_⟩) (fun _ _=>?_) (by omega)
  .obtain rfl:a=[]:=List.eq_nil_of_length_eq_zero (by rw[e3,e1,z];rfl)
   exact rb'
  .obtain rfl:b=[]:=List.eq_nil_of_length_eq_zero (by rw[e4,e2,z];rfl)
   rw[List.append_nil];exact ra'
  .have hp:H s.heap.objs.size=none:=I.hok.fresh (Nat.le_refl _);refine⟨.ref s.heap.objs.size,_,I.laid (t':=s.toks) (o:= .tup (Uz++UI)) (fun b ob q=>Heap.get?_push_of_some _ q) (Nat.le_refl _) ⟨by rw[List.length_append];omega,_,V0.append Sq,IsTup.new _ _⟩,rfl,aR hp,Rep.tup.mpr ⟨_,_,rfl,x9.fresh hb hp,(r1.append r2).same (aR hp)⟩⟩
 .have hg:eT da db= .ok d:=by
   unfold iz at hg;split at hg
   .exact absurd ⟨_,_,rfl,rfl⟩ ht
   .exact hg
  exact d7 pins s σ H B da db d x y v u I hb rx ry ra rb hg
theorem BE.or{F F1 F2:av->R (List D)}(h1:BE X tg e F1)(h2:BE X tg e F2)(h:∀δ ds,F δ= .ok ds->F1 δ= .ok ds\/F2 δ= .ok ds):BE X tg e F:=
 ⟨fun pins s σ H R I ⟨Z,B,δ,ds,E,hf,q⟩=>(h δ ds hf).elim (fun z=>h1.1 pins s σ H R I ⟨Z,B,δ,ds,E,z,q⟩) fun z=>h2.1 pins s σ H R I ⟨Z,B,δ,ds,E,z,q⟩⟩
def DC(f:FD):av->R (List D):=fun δ=>(f δ).bind fun d=>match d with | .lst ds=> .ok (cm ds) | .tup ds=> .ok (cm ds) | _=> .no
theorem BP{elts:List Expr}{k:Nat}{tK:Pos}{p pos:Pos}(h:QD X a f)(hg:Gl X "enumerate")(hm:X.mg "enumerate"=none)(hs:starEach [a] X.env=[(false,eval a X.env)]:=by rfl):BE X (.Tuple elts k tK) (.Call (.Name "enumerate" p) [a] [] pos) (DC f):=
 BE.or (F1:=fN f) (F2:=yT f) ⟨Bi h.1 hg hm hs⟩ (C5 h hg hm hs) fun δ ds hf=>by
  obtain⟨d,h1,h2⟩:=R.ai hf;cases d with
  | lst es=>cases h2;exact .inl (by unfold fN;rw [h1];rfl)
  | tup es=>cases h2;exact .inr (by unfold yT;rw [h1];rfl)
  | _=>cases h2
def WK(K:W.Frag)(a:Addr)(n:Nat):It:=
 ⟨fun i H=>∃xs x,qT K H a xs/\xs.length=n/\i < n/\xs[n - 1 - i]? =some x,fun i H v H'=>H'=H/\∀xs,qT K H a xs->xs[n - 1 - i]? =some v,fun i H=>(∃xs,qT K H a xs)/\i=n⟩
theorem Io{K:W.Frag}(a it:Addr)(n:Nat):Turn P w K tg (WK K a n) [it] it (fun i h=>h.IsRevIter it a ((n:Int) - 1 - (i:Int))) where
 mem:=by simp
 obj:=fun i h st b hb=>by
  have e:b=it:=by simpa using hb
  subst e;obtain⟨o,e,c,d⟩:=st;exact⟨o,e,fun v z=>by rw[d] at z;cases z⟩
 keep:=fun i h h' st k=>st.at fun o e=>k it (by simp) o e
 item:=by
  intro X hP hw hK hc i pins s σ H E I hf st hg;subst hP hw hK;obtain⟨xs,x,hq,hn,hi,hx⟩:=hg;obtain⟨its,rv,p,hz⟩:=I.list hq;obtain⟨u,hu,ru⟩:=rv.get hx;obtain⟨f0,f1,f2,f3,f4,f5⟩:=hf it (by simp)
  have e0:(n:Int) - 1 - (i:Int)=((n - 1 - i:Nat):Int):=by omega
  rw[e0] at st;refine wpAny_pyNext_rev_item st p.isList (x:=u) (by simpa using hu) fun h' Jy sb=>?_
  have I1:Inv X pins σ H {s with heap:=h'}:=I.turned (t':=s.toks) (fun b o hb e=>(sb.2 b hb).trans e) f0 f1 f3 f4 f5
  have JU:h'.IsRevIter it a ((n:Int) - 1 - ((i+1:Nat):Int)):=by
   rw[show((n - 1 - i:Nat):Int) - 1=(n:Int) - 1 - ((i+1:Nat):Int) by omega] at Jy;exact Jy
  obtain⟨o,e,c,d⟩:=id JU;exact⟨u,rfl,Ep (s:={s with heap:=h'}) e c d (by decide) ⟨x,H,I1,ru,⟨rfl,fun ys hy=>by rw[I.rn hy hq];exact hx⟩,JU,fun b hb=>(hf b hb).1⟩⟩
 done:=by
  intro X hP hw hK hc i pins s σ H E I hf st hg;subst hP hw hK;obtain⟨_,rfl⟩:=hg;obtain⟨f0,f1,f2,f3,f4,f5⟩:=hf it (by simp)
  rw[show(i:Int) - 1 - (i:Int)= -1 by omega] at st
  exact wpAny_pyNext_rev_end (I.ok.hd hc) st fun h' eb=>⟨rfl,I.turned (t':=s.toks) (fun b o hb e=>eb b o hb e) f0 f1 f3 f4 f5⟩
 self:=fun _ _ _ _ _ st h=>wpAny_pyIter_revIter st h
def Mn(f:FD):av->R (List D):=fun δ=>(f δ).bind fun d=>match d with | .lst ds=> .ok ds.reverse | _=> .no
theorem Ig{tg a:Expr}{p pos:Pos}(h:QD X a f)(hg:Gl X "reversed")(hm:X.mg "reversed"=none)(hs:starEach [a] X.env=[(false,eval a X.env)]:=by rfl):BE X tg (.Call (.Name "reversed" p) [a] [] pos) (Mn f):=by
 refine⟨?_⟩;intro pins s σ H RR I ⟨Z,B,δ,ds,E,hf,q⟩;obtain⟨d,h1,h2⟩:=R.ai hf;have hA:=fI h.1 jG hs pos pins s σ H (fun vs H1=>aU H H1/\∃v,vs=[v]/\Rep X.K B H1 d v) I ⟨Z,B,δ,d,E,h1,fun v H1 s1 r1=>⟨s1,v,rfl,r1⟩⟩
 refine Call_ (lQ I hg hm boot_reversed (PyProof.Rows.callWith_type1 (d6 hA fun us s1 ⟨vs,H1,I1,r1,ss,v,ev,rr⟩=>?_) hs rfl))
 subst ev;obtain⟨u,rfl,ru⟩:=vals1 r1;cases d with
 | lst es=>
   cases h2;obtain⟨b,xs,rfl,l,rs⟩:=Rep.lst.mp rr;cases ru;obtain⟨its,rv,pl,hz⟩:=I1.list l.sq;have e1:=rv.length;have e2:=rs.length;refine call_reversed_list pl.isList (wpAny_pyIter_revIter (i:=(its.toArray.size:Int) - 1) ⟨_,Heap.get?_push_size _ rfl,rfl,rfl⟩ ?_);refine⟨s1.heap.objs.size,[s1.heap.objs.size],_,_,H1,rfl,I1.kept (t':=s1.toks) fun b o e=>Heap.get?_push_of_some _ e,Io b _ es.length,?_,fun c hc=>?_,q _ H1 ss fun B' H' pr=>?_⟩
   .refine⟨_,Heap.get?_push_size _ rfl,rfl,?_⟩;show Data.fields #[.ref b,rawInt ((its.toArray.size:Int) - 1)]=Data.fields #[.ref b,rawInt ((es.length:Int) - 1 - ((0:Nat):Int))];rw[List.size_toArray,<-e1,<-e2,show((es.length:Nat):Int) - 1 - ((0:Nat):Int)=(es.length:Int) - 1 by omega]
   .have e:c=s1.heap.objs.size:=by simpa using hc
    subst e;exact I1.vm (Nat.le_refl _) (I1.hok.fresh (Nat.le_refl _))
   .have l':wL X.K B' H' b xs:=l.bq pr;have rs':=rs.bq pr;refine⟨fun i d hd=>?_,⟨xs,l'.sq⟩,by rw[List.length_reverse]⟩
    have hi:i < es.length:=by have:=(List.getElem?_eq_some_iff.mp hd).1;rwa [List.length_reverse] at this
    rw[List.getElem?_reverse hi] at hd;obtain⟨x,hx,rx⟩:=rs'.get hd;refine⟨⟨xs,x,l'.sq,e2.symm,hi,hx⟩,fun v nY yl JJ=>?_⟩
    obtain⟨rfl,hy⟩:=yl;have zI:=hy xs l'.sq;rw[hx] at zI;cases zI;exact⟨aU.refl _,rx⟩
 | _=>cases h2
def uh(K:W.Frag)(C:Addr)(m qual:Str)(st:Stmt):Prop:=∃f fd,ED K m qual st f fd/\Meth K C m f
def Fp(K:W.Frag)(C:Addr)(m qual:Str)(st:Stmt):Prop:=∃f fd,ED K m qual st f fd/\Mk K C f
end
end L2
namespace L3
open PySem PySem.Spec PyProof.Rows L2
section
variable {X:Cx} {cl:Zq}
theorem lr.p{K:W.Frag}{mg:Zp}{cl:Zq}{k c:Nat}{n:Nat}{N:List Str}(C:lr P w K mg base cl k c m n (pJ N F)):lr P w K mg base cl k c m n (pN N F):=
 let⟨f,fd,ps,c1,c2,F,h⟩:=C;⟨f,fd,ps,c1,c2,F.imp fun _ _ _ _ h=>CP h,h⟩
end
end L3
end
section
namespace L2
open PySem PySem.Spec PyProof.Rows
section
variable {X:Cx}
def Ob(f:FD):av->R (List D):=fun δ=>(f δ).bind fun d=>match d with | .int j=>R.bN (decide (-(2 ^ 62)<=j/\j < 16777216)) (.ok (gq 0 j.toNat)) | _=> .no
theorem K_{a:Expr}{f:FD}{p p2 pos Dj:Pos}(hc:X.calm=true)(h:QD X a f)(hg:Gl X "list")(hm:X.mg "list"=none)(Xu:Gl X "range")(VX:X.mg "range"=none)(hs:starEach [a] X.env=[(false,eval a X.env)]:=by rfl)
 (Dh:starEach [.Call (.Name "range" p2) [a] [] Dj] X.env=(false,eval (.Call (.Name "range" p2) [a] [] Dj) X.env) ::starEach [] X.env:=by rfl) (nX:(backTo pos (starEach [] X.env)).any (·.1)=false:=by rfl) :
 QN X (.Call (.Name "list" p) [.Call (.Name "range" p2) [a] [] Dj] [] pos) (Ob f):=by
 refine⟨?_⟩;intro pins s σ H Q I ⟨Z,B,δ,ds,E,hf,q⟩;obtain⟨d1,h1,h2⟩:=R.ai hf;have key:∃j:Int,d1= .int j/\ -(2 ^ 62)<=j/\j < 16777216/\ds=gq 0 j.toNat:=by
  split at h2
  .obtain⟨h3,h4⟩:=R.bc h2;cases h4;have h3:=of_decide_eq_true h3;exact⟨_,rfl,h3.1,h3.2,rfl⟩
  .cases h2
 obtain⟨j,rfl,Za,Y8,rfl⟩:=key;refine wpAny_Call_Name_kw (lQ I hg hm boot_list ?_ (by decide) (by decide))
 refine PyProof.Rows.callWith_type1 ?_ Dh nX;rw[Dh];show wpAny _ _ (spliced ((false,eval (.Call (.Name "range" p2) [a] [] Dj) X.env) ::backTo pos (starEach [] X.env))) _ _ s;refine Calls.spliced_cons ?_;have hA:=fI h.1 jG hs Dj pins s σ H (fun vs H1=>aU H H1/\vs=[.int j]) I ⟨Z,B,δ, .int j,E,h1,fun v H1 s1 r1=>⟨s1,by rw[Rep.int.mp r1]⟩⟩
 refine Call_ (lQ I Xu VX boot_range (PyProof.Rows.callWith_type1 (d6 hA fun us s1 ⟨vs,H1,I1,r1,ss,ev⟩=>?_) hs rfl))
 subst ev;obtain⟨u,rfl,ru⟩:=vals1 r1;obtain⟨t,rfl⟩:=ru;refine call_range_1 ?_;have I2:Inv X pins σ H1 {s1 with heap:=s1.heap.push {cls:= .type "range",data:= .fields #[.int 0 s1.toks, .int j t, .int 1 (s1.toks+1)]},toks:=s1.toks+1+1}:=I1.kept fun b o e=>Heap.get?_push_of_some _ e
 refine Calls.spliced_nil ?_;have hsz:Builtin.Range.rangeSize 0 j 1=(j.toNat:Nat):=by rw[rangeSize_one];split <;> omega
 have hz:sizeLine=16777216:=sizeLine_eq;refine call_list_range (n:=j.toNat) (I2.ok.hd hc) (IsRange.new ..) (small_one (by omega) (by omega) (by omega) (by omega)) hsz (by omega) fun h' tk acc c' hk UO LY=>?_
 have rv:=BS LY;have hle:((List.range j.toNat).map fun(i:Nat)=>V.int (0+(i:Int))).length<=sizeLine:=by rw[List.length_map,List.length_range];omega
 have hf':H1 (s1.heap.push {cls:= .type "range",data:= .fields #[.int 0 s1.toks, .int j t, .int 1 (s1.toks+1)]}).objs.size=none:=I2.hok.fresh (Nat.le_refl _);have I4:=I2.laid (o:= .lst ((List.range j.toNat).map fun(i:Nat)=>V.int (0+(i:Int)))) (h':=h') (t':=tk) hk (Nat.le_refl _) (show e_ X.prog X.w _ _ _ (.lst _) from⟨hle,acc.toList,c',rv,by simpa using UO⟩)
 exact⟨.ref _,_,I4,rfl,q _ _ _ (ss.trans (aR hf')) (ss.free hf') aX (As _)⟩
def Xm(f:FD):FD:=fun δ=>(f δ).bind fun d=>match d with | .lst ds=> .ok (.lst ds.reverse) | _=> .no
end
end L2
end
section
namespace L2
open PySem PySem.Spec PyProof.Rows
section
variable {X:Cx}
def Wq(K:W.Frag)(n:Nat)(t:HU):TG:=fun v σ H Q=>∃a xs,v= .ref a/\qT K H a xs/\xs.length=n/\t xs σ H Q
end
end L2
namespace L3
open PySem PySem.Spec PyProof.Rows L2
section
variable {X:Cx} {cl:Zq}
def YN(n:Nat)(t:Lq):FG:=fun d δ=>match d with
 | .d (.lst ds)=>if ds.length=n then t (ds.map .d) δ else none
 | .lst vs=>if vs.length=n then t vs δ else none
 | _=>none
def Od(f g:FX):FA:=fun δ S=>(aN f (aN g dW) δ S).bind fun vs S1=>match vs with
 | [.d d, .d e]=>(match seqD? d,seqD? e with | some ds,some es=> .ok ((lL ds es).map .d) S1 | _,_=> .no)
 | _=> .no
theorem K8{elts:List Expr}{k:Nat}{tK:Pos}{p pos:Pos}(h:PX X cl a f)(h':PX X cl b g)(hg:Gl X "zip")(hm:X.mg "zip"=none)(hs:starEach [a,b] X.env=[(false,eval a X.env),(false,eval b X.env)]:=by rfl)(Dh:starEach [b] X.env=[(false,eval b X.env)]:=by rfl) :
 Mg X cl (.Tuple elts k tK) (.Call (.Name "zip" p) [a,b] [] pos) (Od f g):=by
 refine⟨?_⟩;intro pins s σ H RR I ⟨ρ,S,δ,vs,S',E,hf,q⟩;obtain⟨ws,S1,h1,h2⟩:=R3.ai hf;have hA:=(ao h (ao h' bj Dh) (by rw[hs,Dh])).1 pos pins s σ H (fun us H1=>∃bX,Pre ρ H bX H1/\SW X.K cl bX H1 S1/\aL X.K bX H1 ws us) I
  ⟨ρ,S,δ,ws,S1,E,h1,fun us bX H1 p1 w1 r1=>⟨bX,p1,w1,r1⟩⟩
 refine Call_ (lQ I hg hm boot_zip (PyProof.Rows.callWith_type1 (d6 hA fun us s1 ⟨xs,H1,I1,r1,bX,p1,w1,rr⟩=>?_) (by rw[hs,Dh]) (by rw[Dh];rfl)))
 rcases hsh:ws with _ | ⟨w0,_ | ⟨w2,_ | ⟨w3,wr⟩⟩⟩ <;> subst hsh
 .cases h2
 .cases w0 <;> cases h2
 .rcases w0 with d | _ | _ | _ <;> rcases w2 with e | _ | _ | _ <;> try (cases h2;done)
  have h2:(match seqD? d,seqD? e with | some ds,some es=>R3.ok ((lL ds es).map V3.d) S1 | _,_=> .no)= .ok vs S':=h2
  cases e1:seqD? d with
  | none=>rw [e1] at h2;cases h2
  | some ls=>
    cases e2:seqD? e with
    | none=>rw [e1,e2] at h2;cases h2
    | some ms=>
      rw[e1,e2] at h2;cases h2;obtain⟨v,ys,ev,ra,rr⟩:=rr.cw;obtain⟨v',zs,Gn,rb,rr⟩:=rr.cw;unfold aL at rr;subst rr Gn ev;obtain⟨u,u',rfl,ru,RB⟩:=vals2 r1;unfold a_ at ra rb;obtain⟨t,a,xs,rfl,k1⟩:=ra.Ga e1;obtain⟨w,b,ys,rfl,k2⟩:=rb.Ga e2;cases ru;cases RB;obtain⟨its,rv,pp⟩:=I1.Ga (k1 bX.b H1 (dP.refl _ H1)).1;obtain⟨jts,JG,RK⟩:=I1.Ga (k2 bX.b H1 (dP.refl _ H1)).1;have la:=pp.lt;have lb:=RK.lt;refine xt pp RK fun gH hz Bx BF UN Ul kk=>wpAny_pyIter_zip hz ?_
      have I2:Inv X pins σ H1 {s1 with heap:=gH}:=I1.kept (t':=s1.toks) kk
      refine⟨s1.heap.objs.size+4,[s1.heap.objs.size+4,s1.heap.objs.size+2,s1.heap.objs.size+3,s1.heap.objs.size,s1.heap.objs.size+1],_,_,H1,rfl,I2,zO (t:=t) (u:=w) (zipApart_new la lb),⟨hz,Bx,⟨_,_,BF⟩,UN,Ul⟩,fun c hc=>?_,q _ bX H1 p1 w1 (Pu.of fun B' H' pr=>?_)⟩
      .have hle:s1.heap.objs.size<=c:=by
        simp only[List.mem_cons,List.not_mem_nil,or_false] at hc;rcases hc with rfl | rfl | rfl | rfl | rfl <;> omega
       exact I1.vm hle (I1.hok.fresh hle)
      .obtain⟨l1,MI⟩:=k1 B' H' pr;obtain⟨l2,MG⟩:=k2 B' H' pr;refine⟨fun i d hd=>?_,⟨xs,ys,l1,l2,?_⟩⟩
       .unfold lL at hd;rw[List.getElem?_map] at hd;cases ez:(ls.zip ms)[i]? with
        | none=>rw [ez] at hd;cases hd
        | some pr'=>
          rw[ez] at hd;have hd:D.tup [pr'.1,pr'.2]=d:=Option.some.inj hd;obtain⟨ea,eb⟩:=List.getElem?_zip_eq_some.mp ez;obtain⟨x,hx,rx⟩:=MI.get ea;obtain⟨y,hy,ry⟩:=MG.get eb;refine⟨⟨xs,ys,x,y,l1,l2,hx,hy⟩,fun v nY yl JJ=>?_⟩
          obtain⟨p,x2,y2,hp,rfl,L6,zI,rfl⟩:=yl;refine⟨aR hp,?_⟩;subst hd;have L6:=L6 xs l1;have zI:=zI ys l2;rw[hx] at L6;cases L6;rw[hy] at zI;cases zI;refine Rep.tup.mpr ⟨p,_,rfl, .inl ⟨fun ha=>?_, .inl aX⟩,aH.cons (rx.same (aR hp)) (aH.cons (ry.same (aR hp)) aH.nil)⟩
          obtain⟨o,ho⟩:=JJ p ha;rw[hp] at ho;cases ho
       .rw [<-MI.length,<-MG.length];unfold lL;rw[List.length_map,List.length_zip];omega
 .cases w0 <;> cases w2 <;> cases h2
theorem Qf{f g:FX}{δ:DE}{S:aP}{Q:List V3->aP->Prop}(h:W3 (f δ S) fun v S1=>W3 (g δ S1) fun w S2=>∃d e ds es,v= .d d/\w= .d e/\seqD? d=some ds/\seqD? e=some es/\Q ((lL ds es).map .d) S2):W3 (Od f g δ S) Q:=
 W3.bind (W3.bind (h.mono fun v S1 h2=>W3.bind (W3.bind (h2.mono fun w S2 ⟨d,e,ds,es,e1,fH,e3,e4,q⟩=>by
  subst e1 fH;exact W3.bind (W3.ok (W3.ok (W3.ok (by simp only[e3,e4];exact W3.ok q))))))))
def jb(S:aP):Prop:=∀o∈S,sZ S.length o=true
theorem QT{N:List Str}{vs:List V3}{S:aP}{QV:V3->aP->Prop}(h:W3 (pJ N F vs S) fun v S1=>(∀o∈S1.take S.length,sZ S.length o=true)/\fR S.length v=true/\∃d,res S1 v=some d/\QV (.d d) (S1.take S.length)):W3 (pN N F vs S) QV:=
 W3.bind (h.mono fun v S1 ⟨hl,hg,d,e,q⟩=>by
  rw[e];exact W3.wh (by rw[List.all_eq_true.mpr hl,hg];rfl) (W3.ok q))
theorem fZ{N:List Str}{vs:List V3}{S:aP}{QV:V3->aP->Prop}(hS:jb S)(h:W3 (pJ N F vs S) fun v S1=>fR S.length v=true/\(∃T,S1=S++T)/\∃d,res S1 v=some d/\QV (.d d) S):W3 (pN N F vs S) QV:=
 QT (h.mono fun v S1 ⟨hg,⟨T,e1⟩,d,e,q⟩=>by
  subst e1;rw[List.take_append_of_le_length (Nat.le_refl _),List.take_length];exact⟨hS,hg,d,e,q⟩)
end
end L3
end
section
namespace L2
open PySem PySem.Spec PyProof.Rows
section
variable {X:Cx}
def ois?:List D->Option (List (Option Int))
 | []=>some []
 | .int i ::ds=>(ois? ds).map (some i ::·)
 | .cu ::ds=>(ois? ds).map (none ::·)
 | _ ::_=>none
def Tw:Option Int->V | some i=> .int i | none=> .cu
theorem rG{K:W.Frag}{B:List Addr}:∀{ds:List D} {xs:List V} {ss:List (Option Int)},aH K B H ds xs->ois? ds=some ss->xs=ss.map Tw
 | [],xs,ss,r,h=>by unfold aH at r;subst r;cases h;rfl
 | d ::ds,xs,ss,r,h=>by
   obtain⟨x,r',rfl,r1,r2⟩:=r.cw;cases d with
   | int z=>
     unfold ois? at h;cases e:ois? ds with
     | none=>rw [e] at h;cases h
     | some tt=>
       rw[e] at h;cases h;rw[Rep.int.mp r1,rG r2 e];rfl
   | cu=>
     unfold ois? at h;cases e:ois? ds with
     | none=>rw [e] at h;cases h
     | some tt=>
       rw[e] at h;cases h;rw[Rep.cu.mp r1,rG r2 e];rfl
   | _=>cases h
def SV(d e:D):R Bool:=match d,e with
 | .cu, .lst ds=>(match ois? ds with | some ss=> .ok (ss.any (·.isNone)) | none=> .no)
 | _,_=> .no
def E9(d e:D):R D:=(SV d e).bind fun b=> .ok (.bl b)
theorem DI:∀ss:List (Option Int),Hk .cu (ss.map Tw)=ss.any (·.isNone)
 | []=>rfl
 | y ::ss=>by
   unfold Hk;rw[List.map_cons,List.any_cons,List.any_cons];have ih:=DI ss;unfold Hk at ih;rw[ih];cases y <;> rfl
theorem Jc(ss:List (Option Int)):(ss.map Tw).all l8=true:=by
 rw[List.all_map,List.all_eq_true];intro x _;cases x <;> rfl
theorem Qz:lq X (compareOp .In) E9:=by
 intro pins s σ H B da db d x y v u I hb rx ry ra rb hg';obtain⟨b,hi,h2⟩:=R.ai hg';cases h2;unfold SV at hi;split at hi
 .rename_i ds;split at hi
  .rename_i ss e;cases hi;obtain⟨a,xs,rfl,l,rs⟩:=Rep.lst.mp rb;refine xQ pins s σ H x _ v u _ I rx ry ⟨a,xs,rfl, .inl l.sq,by rw[Rep.cu.mp ra];rfl,by rw[rG rs e];exact Jc _,aU.refl H,Rep.bl.mpr ?_⟩
   rw[rG rs e,Rep.cu.mp ra,DI];rfl
  .cases hi
 .cases hi
end
end L2
end
section
namespace L2
open PySem PySem.Spec PyProof.Rows
section
variable {X:Cx}
def Ud(d:D)(ds:List D):R D:=match d,ds with
 | .lst es,[.int k]=>(match ints? es with | some ss=> .ok (.int (ss.count k:Nat)) | none=> .no)
 | _,_=> .no
end
end L2
end
section
namespace L2
open PySem PySem.Spec PyProof.Rows
section
variable {X:Cx}
abbrev M4:D->D->R D:=Mm (fun i j=>decide (0<=j/\j < 1000/\ -1000 < i/\i < 1000)) fun i j=>i*2 ^ j.toNat
theorem Qd:lq X (binaryOp .LShift) M4:=Ad OU fun i j h=>by
 have:=of_decide_eq_true h;exact⟨this.1,by omega,by omega⟩
def Vr(d e:D):R D:=match d,e with | .bl a, .bl b=> .ok (.bl (a !=b)) | _,_=> .no
end
end L2
namespace L3
open PySem PySem.Spec PyProof.Rows L2
section
variable {X:Cx} {cl:Zq}
def VE(fo f:FX):FZ:=fun δ S=>(fo δ S).bind fun o S0=>match o with
 | .loc k=>(match eE S0 k with
   | none=> .no
   | some _=>(f δ S0).bind fun v S1=>match v with
     | .d d=>(match eE S1 k with | some ds=>R3.bN (decide (ds.length < sizeLine)) (.ok (.nx δ) (S1.set k (.lst (ds++[d])))) | none=> .no)
     | _=> .no)
 | _=> .no
def VI(f:FX):FA:=fun δ S=>(aN f dW δ S).bind fun vs S1=>match vs with
 | [.d (.lst ds)]=> .ok ((cm ds).map .d) S1
 | _=> .no
end
end L3
end
section
namespace L2
open PySem PySem.Spec PyProof.Rows
section
variable {X:Cx}
end
end L2
end
section
namespace L3
open PySem PySem.Spec PyProof.Rows L2
section
variable {cl:Zq}
def TF(it:FA)(t:FG)(c:FB)(f:FX)(own:List Str)(kp:List Nat):FX:=fun δ S=>(it δ S).bind fun vs S1=>R3.bN (decide (vs.length<=sizeLine)) ((oS t c f (oq own kp δ) vs S1).bind fun ys S2=>match uk ys with | some ds=> .ok (.loc S2.length) (S2++[.lst ds]) | none=> .no)
end
section
variable {X:Cx} {cl:Zq}
end
end L3
end
section
namespace L3
open PySem PySem.Spec PyProof.Rows L2
section
variable {X:Cx} {cl:Zq}
def TV(g:List D->R D)(fs:FA):FX:=fun δ S=>(fs δ S).bind fun vs S1=>match Cc S1 vs with
 | some ds=>(R3.of (g ds) S1).bind fun d S=>R3.bN (nV d) (.ok (.d d) S)
 | none=> .no
end
end L3
end
section
namespace L2
open PySem PySem.Spec PyProof.Rows
section
variable {X:Cx}
def Xa(f:FD):FD:=fun δ=>(f δ).bind fun d=>match d with | .int i=> .ok (.int (-i - 1)) | _=> .no
def Se(d:D)(lo hi:Option Int):R D:=match d with
 | .tup ds=>R.bN (decide (¬(HT.gA ds.length 0 lo=0/\HT.gA ds.length ds.length hi=ds.length))) (.ok (.tup (cutD ds lo hi)))
 | _=> .no
def Oj(f:FD)(fl fh:FO):FD:=fun δ=>(f δ).bind fun d=>(fl δ).bind fun lo=>(fh δ).bind fun hi=>Se d lo hi
theorem Dp{lo hi:Option Expr}{fl fh:FO}(he:QD X e f)(hl:QP X lo fl)(hh:QP X hi fh):QD X (.Subscript e (.Slice lo hi none p2) pos) (Oj f fl fh):=by
 refine⟨(Bd M3 he.1 hl.1 hh.1).imp fun σ H Q ⟨Z,B,δ,d,E,hf,q⟩=>?_⟩
 obtain⟨d1,h1,h2⟩:=R.ai hf;obtain⟨l,h3,h4⟩:=R.ai h2;obtain⟨h,h5,h6⟩:=R.ai h4;refine⟨Z,B,δ,d1,E,h1,fun v1 H1 s1 r1=>⟨Z,B,δ,l,E.same s1,h3,fun H2 s2=>⟨Z,B,δ,h,(E.same s1).same s2,h5,fun H3 s3=>?_⟩⟩⟩
 have sA:aU H H3:=s1.trans (s2.trans s3);have uA:=r1.same (s2.trans s3);unfold Se at h6;split at h6
 .obtain⟨hz,h7⟩:=R.bc h6;cases h7;obtain⟨a,xs,rfl,ls,rs⟩:=Rep.tup.mp uA;have hz:=of_decide_eq_true hz;rw[rs.length] at hz;refine⟨a,xs,rfl,ls.sq,hz,fun p hp=>q _ _ (sA.trans (aR hp)) (Rep.tup.mpr ⟨p,_,rfl, .inl ⟨fun ha=>?_,?_⟩,(Aa rs l h).same (aR hp)⟩)⟩
  .obtain⟨o,ho⟩:=(E.same sA).bs p ha;rw[hp] at ho;cases ho
  .exact .of aX
 .cases h6
end
end L2
namespace L3
open PySem PySem.Spec PyProof.Rows L2
section
variable {X:Cx} {cl:Zq}
structure R9 (X:Cx) (cl:Zq) (st:List Stmt) (F:FZ):Prop where
 go:yR X st (fun D σ H=>D.ct=D.nx/\sX X.K cl F D σ H)
theorem MO{st:List Stmt}(h:Fh X cl st F):R9 X cl st F:=⟨h.1.imp fun D σ H z=>z.2⟩
theorem Jr{rest:List Stmt}(hc:BD X cl c fc)(h2:R9 X cl rest G):R9 X cl (.If c [.Continue Dj] [] pos ::rest) (x8 fc ny G):=
 ⟨(vL (GJ hc.1 (yC AN) y_) h2.1).imp fun D σ H ⟨ec,ρ,S,δ,o,S',E,hf,q⟩=>by
   obtain⟨k,S1,h1,h2⟩:=R3.ai hf;refine⟨ρ,S,δ,k,S1,E,h1,fun bX H1 p1 w1=>?_⟩
   cases k with
   | true=>
     rw[if_pos rfl] at h2;cases h2;refine EU ?_;show D.ct σ H1;rw[ec];exact q σ bX H1 p1 (E.to p1 w1)
   | false=>rw [if_neg (by decide)] at h2;exact Fb ⟨ec,bX,S1,δ,o,S',E.to p1 w1,h2,q.pre p1⟩⟩
theorem LL{tg iter:Expr}{body:List Stmt}{it:FA}{t:FG}{F:FZ}{pos:Pos}(hp:PassesOwn (model X.prog X.w) X.A X.env X.xe)(hc:X.calm=true)(hi:Mg X cl tg iter it)(hg:MA X cl tg t)(hb:R9 X cl body F)
 (hs:∀x,foldedSetIterable iter X.env x=pure x:=by intro _;rfl):PZ X cl (.For tg iter body [] pos) (gn it t F):=⟨(BJ hp hc hi.1 hg.1 hb.1 hs).imp fun D σ H ⟨ρ,S,δ,o,S',E,hf,q⟩=>by
 obtain⟨ds,S0,h1,h2⟩:=R3.ai hf;refine⟨ρ,S,δ,ds,S0,E,h1,fun J bX H1 p1 w1 ir=>?_⟩
 refine⟨fun i m de H'=>m=ds.length - i/\i<=ds.length/\∃cU S1 eD,Pre bX H1 cU H'/\fA X.K cl cU H' S1 de eD/\jN t F (ds.drop i) eD S1= .ok o S',⟨ds.length,rfl,Nat.zero_le _,bX,S0,δ,Pre.refl bX H1,E.to p1 w1,by simpa using h2⟩,?_⟩
 rintro i m de H' ⟨rfl,hi,cU,S1,eD,pv,E',hl⟩;obtain⟨go,stop⟩:=ir cU H' pv.pw E'.sw.bs;by_cases hlt:i < ds.length
 .have hd:ds[i]? =some ds[i]:=List.getElem?_eq_getElem hlt;have hdrop:ds.drop i=ds[i] ::ds.drop (i+1):=List.drop_eq_getElem_cons hlt;rw[hdrop] at hl;unfold jN at hl;split at hl
  .cases hl
  .rename_i cP h3;obtain⟨o1,S2,h5,h6⟩:=R3.ai hl;obtain⟨g1,g2⟩:=go i _ hd;refine .inr ⟨g1,fun wH H2=>∃o_ S2 cZ,Pre bX H1 o_ H2/\fA X.K cl o_ H2 S2 wH cZ/\jN t F (ds.drop (i+1)) cZ S2= .ok o S',fun wH H2 n=>⟨ds.length - (i+1),by omega,rfl,hlt,n⟩,fun x nY y=>?_⟩
   obtain⟨ss,rr⟩:=g2 x nY y;refine⟨cU,S1,eD,ds[i],cP,E'.same ss,rr,h3,fun wH H2 s2 E2=>⟨rfl,cU,S1,cP,o1,S2,E2,h5,?_⟩⟩
   have pv2:Pre bX H1 cU H2:=pv.trans (Pre.same (ss.trans s2));cases o1 with
   | nx cZ=>exact fun By Bw H3 p3 E3=>⟨Bw,S2,cZ,pv2.trans p3,E3,h6⟩
   | rt d=>
     cases h6;exact fun v Bw H3 p3 w r=>q v Bw H3 (p1.trans (pv2.trans p3)) w r
 .have e:i=ds.length:=by omega
  subst e;rw[List.drop_length] at hl;cases hl;exact .inl ⟨stop,q de cU H' (p1.trans pv) E'⟩⟩
end
end L3
end
section
namespace L2
open PySem PySem.Spec PyProof.Rows
end L2
namespace L3
open PySem PySem.Spec PyProof.Rows L2
section
variable {X:Cx} {cl:Zq}
def Ww(i:Nat)(f:FX):FX:=fun δ S=>match kg δ i with
 | none=> .no
 | some k=>match eE S k with
   | none=> .no
   | some _=>(f δ S).bind fun v S1=>match v with
     | .d (.int j)=>(match eE S1 k with
       | some ds=>(match EA ds.length j with
         | some p=>(match ds[p]? with | some d=>R3.bN (decide (-(2 ^ 63)<=j/\j < 2 ^ 63)) (.ok (.d d) (S1.set k (.lst (ds.eraseIdx p)))) | none=> .no)
         | none=> .no)
       | none=> .no)
     | _=> .no
end
end L3
end
section
namespace L3
open PySem PySem.Spec PyProof.Rows L2
section
variable {X:Cx} {cl:Zq}
def W4(f:FX)(fl fh:Po):FX:=fun δ S=>(f δ S).bind fun v S1=>(fl δ S1).bind fun lo S2=>(fh δ S2).bind fun hi S3=>match v with
 | .lst vs=> .ok (.lst (L2.cutD vs lo hi)) S3
 | _=> .no
end
end L3
end
section
namespace L2
open PySem PySem.Spec PyProof.Rows
section
variable {X:Cx}
theorem Lv{n:Int}{v:Value}(h:(cX P w).is (.inl n) v=true):∃t,v= .int n t:=by
 have h:uT (.inl n) v=true:=h;rcases dj h with⟨i,t,e1,e2⟩ | ⟨x,t,e1,_⟩
 .cases e1;exact⟨t,e2⟩
 .cases e1
theorem A9:∀{ns:List Int} {us:List Value},us.length=ns.length->(∀(j:Nat) (v:Value) (n:Int),us[j]? =some v->ns[j]? =some n->∃t,v=Value.int n t)->Vals (ns.map V.int) us
 | [],[],_,_=> .nil
 | [],_ ::_,h,_=>by simp at h
 | _ ::_,[],h,_=>by simp at h
 | n ::ns,u ::us,h,hv=> .cons (hv 0 u n rfl rfl) (A9 (by simpa using h) fun j v m h1 h2=>hv (j+1) v m h1 h2)
theorem Jq{κ:Type}:∀{kvs:List (κ × V)} {vs:List (κ × Value)},KV kvs vs->vs.map (·.1)=kvs.map (·.1)
 | [],_, .nil=>rfl
 | _ ::_,_, .cons h t=>by rw[List.map_cons,List.map_cons,Jq t,h.1]
theorem gather{P:Program}{w:World}{B:Around}{E:Zl}{z:Shared}{ty:String}{src own:Addr}{len:Nat}{it:Nat->Value->Prop}{ok:Heap->Prop}{Y:List Value->Shared->Prop}(G:PySem.W.KdlSrc P w ty src own len it ok)(nh:B.handled=none)(o0:ok z.heap)(few:len<=sizeLine)
 (fin:∀(g:Heap) (tk:Nat) (xs:Array Value),z.heap.objs.size < g.objs.size->(∀b o,z.heap.get? b=some o->g.get? b=some o)->ItemsOf it xs len->Y xs.toList {z with heap:=g,toks:=tk}):wpAny (model P w) B (collect (.ref src)) Y E z:=by
 obtain⟨l1,l2⟩:=G.there _ o0
 let z1:Shared:={z with heap:=z.heap.push {cls:= .type "list",data:= .seq ([]:List Value).toArray}}
 let Fn:Result->Shared->Prop:=fun q y=>∃g tk xs c,q= .ok (.ret (.ref z.heap.objs.size))/\y={z with heap:=g,toks:=tk}/\(∀b o,z.heap.get? b=some o->g.get? b=some o)/\g.get? z.heap.objs.size=some {cls:= .type "list",dict:=none,data:= .seq xs c,slots:=#[]}/\ItemsOf it xs len
 have mid:wpAny (model P w) B.in1 (Builtin.List.listExtendWith (.ref z.heap.objs.size) (.ref src) (.ref z.heap.objs.size)) (fun q y=>match q with | .done f=>Fn (.ok f) y | .again c=>c.quiet=true/\codeAny (model P w) B c Fn y) (fun e y=>Fn (.error e) y) z1:=
  PySem.W.kdl_extend (s:=z1) (R:=Fn) G nh (G.keep _ _ o0 fun b _ o e=>Heap.get?_push_of_some _ e) _ (Nat.ne_of_gt l1) (Nat.ne_of_gt l2) _ 0 (Heap.get?_push_size _ rfl)
   (fun g tk xs c hk hg hi=>⟨g,tk,xs,c,rfl,rfl,fun b o e=>hk b o (Nat.ne_of_lt (Heap.lt_size e)) (Heap.get?_push_of_some _ e),hg,hi⟩) few
 have out:∀q y,Fn q y->q= .ok (.ret (.ref z.heap.objs.size))/\∃g tk xs c,y={z with heap:=g,toks:=tk}/\g.get? z.heap.objs.size=some {cls:= .type "list",dict:=none,data:= .seq xs c,slots:=#[]}/\Y xs.toList {z with heap:=g,toks:=tk}:=fun q y ⟨g,tk,xs,c,e1,e2,hk,hg,hi⟩=>⟨e1,g,tk,xs,c,e2,hg,fin g tk xs (Heap.lt_size hg) hk hi⟩
 unfold collect;refine wpAny_bind (wpAny_runValue (codeAny_builtin entry_proto_collect' ?_));rw[Around.under_plainId PySem.F.plain_proto_collect _];refine wpAny_bind (m:=newList []) (wpAny_newObj_type (wpAny_pure ⟨plainId_quiet PySem.F.plain_list_iadd _,codeAny_builtin entry_list_iadd' ?_⟩));rw[Around.under_plainId PySem.F.plain_list_iadd _];refine wpAny_mono mid (fun q y hq=>?_) fun e y he=>?_
 .cases q with
  | done f=>
    obtain⟨e1,g,tk,xs,c,rfl,hg,hy⟩:=out _ _ hq;cases e1;exact wpAny_bind (wpAny_load hg (wpAny_pure hy))
  | again c=>
    refine⟨hq.1,codeAny_mono hq.2 fun q y hq=>?_⟩
    obtain⟨rfl,g,tk,xs,c,rfl,hg,hy⟩:=out _ _ hq;exact wpAny_bind (wpAny_load hg (wpAny_pure hy))
 .obtain⟨e1,_⟩:=out _ _ he;cases e1
def NY:List V->Hp->VK->Prop:=fun xs H Q=>∃a kvs ns,xs=[V.ref a]/\H a=some (.dK kvs)/\kvs.map (·.1)=ns.map Sum.inl/\ns.length < 64/\∀p,H p=none->Q (.ref p) (upd H p (.lst ((tZ ns).map V.int)))
theorem CO(hc:X.calm=true):mr X (.builtin "sorted") NY:=by
 intro pins s σ H xs us Q I r h;obtain⟨a,kvs,ns,rfl,e,hk,Y9,q⟩:=h;obtain⟨u,rfl,ru⟩:=vals1 r;cases ru;obtain⟨hz,lo,vs,rel,dd⟩:=Hb I.hok e;obtain⟨ep,hat⟩:=dd.dictAt;have Gv:=Jq rel;rw[hk] at Gv;have hvl:vs.length=ns.length:=by
  have h2:=congrArg List.length Gv;rw[List.length_map,List.length_map] at h2;exact h2
 have hzz:sizeLine=16777216:=sizeLine_eq;refine Calls.call_function_entry kind_sorted plain_sorted entry_sorted (args_sorted1 _) ?_;unfold Builtin.«sorted»;refine wpAny_bind (m:=checkCount "sorted" 1 1 _) (wpAny_pure ?_);refine wpAny_bind (gather (PySem.W.kdl_dict (knd:=cX X.prog X.w) (kvs:=vs) (ep:=ep) lo) (I.ok.hd hc) hat (by omega) fun h' tk acc Ut Sh LY=>?_)
 have hal:acc.toList.length=ns.length:=by rw[Array.length_toList];exact LY.1.trans hvl
 have hI:IntsAre acc.toList ns:=by
  refine zL (A9 hal fun j v n h1 h2=>?_)
  obtain⟨k,x,h3,h4⟩:=LY.2 j v (by rw[<-Array.getElem?_toList];exact h1)
  have h5:(vs.map (·.1))[j]? =some k:=by rw[List.getElem?_map,h3];rfl
  rw[Gv,List.getElem?_map,h2] at h5;have h6:(Sum.inl n:Key)=k:=Option.some.inj h5;rw[<-h6] at h4;exact Lv h4
 refine wpAny_bind (wpAny_newList ?_ (by rw[hal];omega))
 have hoL:(h'.push (seqObj "list" acc.toList.toArray 0)).get? h'.objs.size=some (seqObj "list" acc.toList.toArray 0):=Heap.get?_push_size _ rfl;show wpAny _ _ _ _ _ {s with heap:=h'.push (seqObj "list" acc.toList.toArray 0),toks:=tk}
 refine wpAny_bind (wpAny_holding (wpAny_call_entry slot_list_sort ⟨_,hoL,rfl⟩ entry_list_sort (list_sort_tree hoL hI (by omega) fun out Ze a1 a2 a3=>⟨_,rfl,?_⟩) (args_list_sort _)))
 refine wpAny_pure ⟨_,rfl,?_⟩;have hs:=Ah a2 a3;subst hs;have Sq:=HB a1;have hle:((tZ ns).map V.int).length<=sizeLine:=by
  have h1:=a2.length_eq;rw[List.length_map];omega
 obtain⟨Rz,RE⟩:=sortedHeap_at (out:=out) hoL;have hbig:s.heap.objs.size<=h'.objs.size:=Nat.le_of_lt Ut;have hn:H h'.objs.size=none:=I.hok.fresh hbig;have I2:=I.laid (a:=h'.objs.size) (o:= .lst ((tZ ns).map V.int)) (h':=sortedHeap (h'.push (seqObj "list" acc.toList.toArray 0)) h'.objs.size acc.toList out) (t':=tk) (fun b o hb=>by
  have hlt:=Heap.lt_size (Sh b o hb);rw[sortedHeap_old (Nat.ne_of_lt hlt) (by rw[size_push'];exact Nat.lt_succ_of_lt hlt)]
  exact Heap.get?_push_of_some _ (Sh b o hb)) hbig (show e_ X.prog X.w _ _ _ (.lst _) from⟨hle,out.toList,Rz,Sq,by simpa [seqObj] using RE⟩)
 exact⟨.ref h'.objs.size,_,I2,rfl,q _ hn⟩
end
end L2
end
section
namespace L3
open PySem PySem.Spec PyProof.Rows L2
section
variable {X:Cx} {cl:Zq}
def v_(kvs:List (Key × D))(k:Key)(d:D):List (Key × D):=if(kvs.any fun kv=>decide (kv.1=k))=true then kvs.map (fun kv=>if kv.1=k then(kv.1,d) else kv) else kvs++[(k,d)]
def lj(S:aP)(k:Nat):Option (List (Key × D)):=match S[k]? with | some (.dct kvs)=>some kvs | _=>none
theorem ku{S:aP}{k:Nat}{kvs:List (Key × D)}(h:lj S k=some kvs):S[k]? =some (.dct kvs):=by
 unfold lj at h;split at h
 .rename_i e;cases h;exact e
 .cases h
theorem yQ{α β:Type}(k:Key):∀{a:List (Key × α)} {b:List (Key × β)},a.map (·.1)=b.map (·.1)->(a.any fun kv=>decide (kv.1=k))=b.any fun kv=>decide (kv.1=k)
 | [],[],_=>rfl
 | [],_ ::_,h=>by simp at h
 | _ ::_,[],h=>by simp at h
 | x ::a,y ::b,h=>by
   rw[List.map_cons,List.map_cons] at h;obtain⟨h1,h2⟩:=List.cons.inj h;rw[List.any_cons,List.any_cons,yQ k h2,h1]
theorem DA{K:W.Frag}{B:List Addr}{k:Key}{d:D}{v:V}(rv:Rep K B H d v):∀{kvs:List (Key × D)} {ys:List (Key × V)},ys.map (·.1)=kvs.map (·.1)->aH K B H (kvs.map (·.2)) (ys.map (·.2))->
 (ys.map fun kv=>if kv.1=k then(kv.1,v) else kv).map (·.1)=(kvs.map fun kv=>if kv.1=k then(kv.1,d) else kv).map (·.1)/\aH K B H ((kvs.map fun kv=>if kv.1=k then(kv.1,d) else kv).map (·.2)) ((ys.map fun kv=>if kv.1=k then(kv.1,v) else kv).map (·.2))
 | [],[],_,_=>⟨rfl,aH.nil⟩
 | [],_ ::_,h,_=>by simp at h
 | _ ::_,[],h,_=>by simp at h
 | (k1,d1) ::kvs,(k2,v2) ::ys,h,r=>by
   obtain⟨h1,h2⟩:=List.cons.inj h;have h1:k2=k1:=h1;subst h1;obtain⟨x,r',e,q1,q2⟩:=aH.cw r;cases e;obtain⟨i1,i2⟩:=DA rv h2 q2;simp only[List.map_cons];by_cases hk:k2=k
   .rw [if_pos hk,if_pos hk];exact⟨by rw[i1],aH.cons rv i2⟩
   .rw [if_neg hk,if_neg hk];exact⟨by rw[i1],aH.cons q1 i2⟩
theorem L7{K:W.Frag}{B:List Addr}{k:Key}{d:D}{v:V}(rv:Rep K B H d v){kvs:List (Key × D)}{ys:List (Key × V)}(h:ys.map (·.1)=kvs.map (·.1))(r:aH K B H (kvs.map (·.2)) (ys.map (·.2))) :
 (putK ys k v).map (·.1)=(v_ kvs k d).map (·.1)/\aH K B H ((v_ kvs k d).map (·.2)) ((putK ys k v).map (·.2)):=by
 unfold putK v_;rw[yQ k h];split
 .exact DA rv h r
 .rw [List.map_append,List.map_append,List.map_append,List.map_append,h];exact⟨rfl,r.append (aH.cons rv aH.nil)⟩
def Ee:FX:=fun δ S=> .ok (.loc S.length) (S++[.dct []])
theorem DT:PX X cl (.Dict [] [] pos) Ee:=⟨Ij.imp fun σ H Q ⟨ρ,S,δ,v,S',E,hf,q⟩=>by
 cases hf;intro p hp;obtain⟨w,pr⟩:=E.sw.new (a:=p) (o:= .dct []) (aR (o:= .dK []) hp) hp ⟨[],aX,rfl,aH.nil⟩;exact q _ _ _ pr w (by unfold a_;exact⟨p,by show(ρ.r++[p])[_]? =_;rw [<-E.sw.len,List.getElem?_append_right (by omega),Nat.sub_self];rfl,rfl⟩)⟩
def DY(fo fi fe:FX):FZ:=fun δ S=>(fe δ S).bind fun v S1=>(fo δ S1).bind fun o S2=>(fi δ S2).bind fun j S3=>match v,o,j with
 | .d d, .loc k, .d (.int n)=>(match lj S3 k with | some kvs=>R3.bN (decide (kvs.length < sizeLine)) (.ok (.nx δ) (S3.set k (.dct (v_ kvs (Sum.inl n) d)))) | none=> .no)
 | _,_,_=> .no
theorem DB{pos pos':Pos}(hu:X.A.units+1 < cLine)(hv:PX X cl value fe)(ho:PX X cl o fo)(hi:PX X cl i fi)(hs:swapsWith value (some (.Subscript o i pos')) pos.line X.env=pure false:=by rfl):PZ X cl (.Assign [.Subscript o i pos'] value pos) (DY fo fi fe):=
 ⟨(J4 hu ho.1 hi.1 hv.1 hs).imp fun D σ H ⟨ρ,S,δ,ou,S',E,hf,q⟩=>by
   obtain⟨v,S1,h1,h2⟩:=R3.ai hf;obtain⟨o,S2,h3,h4⟩:=R3.ai h2;obtain⟨j,S3,h5,h6⟩:=R3.ai h4;refine⟨ρ,S,δ,v,S1,E,h1,fun u1 bX H1 p1 w1 r1=>⟨bX,S1,δ,o,S2,E.to p1 w1,h3,fun u2 o_ H2 p2 w2 r2=>⟨o_,S2,δ,j,S3,(E.to p1 w1).to p2 w2,h5,fun u3 Bw H3 p3 w3 r3=>?_⟩⟩⟩
   split at h6
   .rename_i d k n;split at h6
    .rename_i kvs hd;obtain⟨hl,h7⟩:=R3.bc h6;cases h7;have r2':=r2.pre p3;unfold a_ at r2';obtain⟨a,a1,rfl⟩:=r2';unfold a_ Rep at r3;subst r3;obtain⟨ys,y1,y2,y3⟩:=w3.ob k a _ a1 (ku hd);have uA:=(r1.pre p2).pre p3;unfold a_ at uA;obtain⟨e1,fH⟩:=L7 (k:=Sum.inl n) uA y2 y3;have hll:ys.length=kvs.length:=by have:=congrArg List.length y2;simpa using this
     refine⟨a,_,rfl,Fj.k (k:=Sum.inl n) y1 (by rw[hll];exact of_decide_eq_true hl),?_⟩
     obtain⟨w4,p4⟩:=w3.put (o:= .dct (v_ kvs (Sum.inl n) d)) (u:= .dK (putK ys (Sum.inl n) u1)) a1 (w3.fz k a a1 (by rw[ku hd];intro h;cases h)) ⟨_,rfl,e1,fH⟩
     exact q σ Bw _ (p1.trans (p2.trans (p3.trans p4))) (E.to (p1.trans (p2.trans (p3.trans p4))) w4)
    .cases h6
   .cases h6⟩
def OS(fa fo:FX):FX:=fun δ S=>(fa δ S).bind fun j S1=>(fo δ S1).bind fun o S2=>match j,o with
 | .d (.int n), .loc k=>(match lj S2 k with | some kvs=> .ok (.d (.bl (kvs.any fun kv=>decide (kv.1=Sum.inl n)))) S2 | none=> .no)
 | _,_=> .no
theorem Kd{κ:Type} [DecidableEq κ](kvs:List (κ × V))(k:κ):(jw kvs k).isSome=kvs.any fun kv=>decide (kv.1=k):=by
 unfold jw;rw[Option.isSome_map,Bool.eq_iff_iff,List.find?_isSome,List.any_eq_true]
theorem MR(hu:X.A.units+1 < cLine)(ha:PX X cl a fa)(hb:PX X cl b fb)(hm:behindInMarks .In b=false):PX X cl (.Compare a [.In] [b] pos) (OS fa fb):=
 ⟨(N5 (Ov hu ha.1 hb.1) hm).imp fun σ H Q ⟨ρ,S,δ,v,S',E,hf,q⟩=>by
   obtain⟨j,S1,h1,h2⟩:=R3.ai hf;obtain⟨o,S2,h3,h4⟩:=R3.ai h2;refine⟨ρ,S,δ,j,S1,E,h1,fun u1 bX H1 p1 w1 r1=>⟨bX,S1,δ,o,S2,E.to p1 w1,h3,fun u2 o_ H2 p2 w2 r2=>?_⟩⟩
   split at h4
   .rename_i n k;split at h4
    .rename_i kvs hd;cases h4;unfold a_ at r2;obtain⟨ad,a1,rfl⟩:=r2;unfold a_ Rep at r1;subst r1;obtain⟨ys,y1,y2,y3⟩:=w2.ob k ad _ a1 (ku hd);refine⟨ad,jw ys (Sum.inl n),rfl,ug.k (k:=Sum.inl n) y1,?_⟩;refine q _ o_ H2 (p1.trans p2) w2 ?_;unfold a_ Rep;rw[Kd,yQ (Sum.inl n) y2]
    .cases h4
   .cases h4⟩
def intK?:List Key->Option (List Int)
 | []=>some []
 | .inl n ::ks=>(intK? ks).map (n ::·)
 | .inr _ ::_=>none
theorem AA:∀{ks:List Key} {ns:List Int},intK? ks=some ns->ks=ns.map Sum.inl
 | [],ns,h=>by cases h;rfl
 | .inl n ::ks,ns,h=>by
   obtain⟨ms,h1,rfl⟩:=mJ (show(intK? ks).map (n ::·)=some ns from h)
   rw[List.map_cons,<-AA h1]
 | .inr x ::ks,ns,h=>by cases h
theorem DO:∀ns:List Int,intK? (ns.map Sum.inl)=some ns
 | []=>rfl
 | n ::ns=>by show(intK? (ns.map Sum.inl)).map (n ::·)=_;rw [DO ns];rfl
def Ct(f:FX):FX:=fun δ S=>(f δ S).bind fun o S1=>match o with
 | .loc k=>(match lj S1 k with
   | some kvs=>(match intK? (kvs.map (·.1)) with | some ns=>R3.bN (decide (ns.length < 64)) (.ok (.d (.lst ((tZ ns).map .int))) S1) | none=> .no)
   | none=> .no)
 | _=> .no
theorem Ib{p pos:Pos}(hc:X.calm=true)(h:PX X cl e f)(hg:Gl X "sorted")(hm:X.mg "sorted"=none)(he:starEach [e] X.env=(false,eval e X.env) ::starEach [] X.env:=by rfl):PX X cl (.Call (.Name "sorted" p) [e] [] pos) (Ct f):=
 ⟨(vJ (CO hc) hg hm PyProof.Rows.boot_sorted (fI h.1 jG he) (he:=he)).imp fun σ H Q ⟨ρ,S,δ,v,S',E,hf,q⟩=>by
   obtain⟨o,S1,h1,h2⟩:=R3.ai hf;refine⟨ρ,S,δ,o,S1,E,h1,fun u1 bX H1 p1 w1 r1=>?_⟩
   split at h2
   .rename_i k;split at h2
    .rename_i kvs hd;split at h2
     .rename_i ns hn;obtain⟨hl,h3⟩:=R3.bc h2;cases h3;unfold a_ at r1;obtain⟨a,a1,rfl⟩:=r1;obtain⟨ys,y1,y2,y3⟩:=w1.ob k a _ a1 (ku hd);refine⟨a,ys,ns,rfl,y1,by rw[y2];exact AA hn,of_decide_eq_true hl,fun p hp=>q _ bX _ (p1.trans (zm hp)) (w1.same (aR hp)) ?_⟩
      unfold a_;refine Rep.lst.mpr ⟨p,_,rfl, .uV aX fun ha=>?_,ints_rep _⟩
      obtain⟨o,ho⟩:=w1.bs p ha;rw[hp] at ho;cases ho
     .cases h2
    .cases h2
   .cases h2⟩
theorem Nl{K:W.Frag}{mg:Zp}{k n:Nat}{f:Addr}{fd:FuncData}{ps:List Str}:jI P w K mg base wJ k f fd ps (Gq K cl n fun _ _=> .no):=
 ⟨fun vs H Q E h=>(by obtain⟨_,_,_,_,_,_,_,_,h,_⟩:=h;cases h),fun A outer s H args us vs Q E _ _ _ _ h=>(by obtain⟨_,_,_,_,_,_,_,_,h,_⟩:=h;cases h)⟩
theorem IB{δ:DE}{S:aP}{QV:V3->aP->Prop}(h:QV (.loc S.length) (S++[.dct []])):W3 (Ee δ S) QV:=W3.ok h
theorem HM{fo fi fe:FX}{δ:DE}{S:aP}{QO:Ou->aP->Prop}(h:W3 (fe δ S) fun v S1=>W3 (fo δ S1) fun o S2=>W3 (fi δ S2) fun j S3=>∃d k n kvs,v= .d d/\o= .loc k/\j= .d (.int n)/\S3[k]? =some (.dct kvs)/\kvs.length < sizeLine/\QO (.nx δ) (S3.set k (.dct (v_ kvs (Sum.inl n) d)))):W3 (DY fo fi fe δ S) QO:=
 W3.bind (h.mono fun _ _ h=>W3.bind (h.mono fun _ _ h=>W3.bind (h.mono fun _ S3 ⟨d,k,n,kvs,e1,e2,e3,e4,hl,q⟩=>by
  subst e1 e2 e3;have e5:lj S3 k=some kvs:=by unfold lj;simp only[e4]
  simp only[e5];exact W3.wh (decide_eq_true hl) (W3.ok q))))
theorem Q9{fa fb:FX}{δ:DE}{S:aP}{QV:V3->aP->Prop}(h:W3 (fa δ S) fun j S1=>W3 (fb δ S1) fun o S2=>∃n k kvs,j= .d (.int n)/\o= .loc k/\S2[k]? =some (.dct kvs)/\QV (.d (.bl (kvs.any fun kv=>decide (kv.1=Sum.inl n)))) S2):W3 (OS fa fb δ S) QV:=
 W3.bind (h.mono fun _ _ h=>W3.bind (h.mono fun _ S2 ⟨n,k,kvs,e1,e2,e3,q⟩=>by
  subst e1 e2;have e4:lj S2 k=some kvs:=by unfold lj;simp only[e3]
  simp only[e4];exact W3.ok q))
theorem Kp{f:FX}{δ:DE}{S:aP}{QV:V3->aP->Prop}(h:W3 (f δ S) fun o S1=>∃k kvs ns,o= .loc k/\S1[k]? =some (.dct kvs)/\kvs.map (·.1)=ns.map Sum.inl/\ns.length < 64/\QV (.d (.lst ((tZ ns).map .int))) S1):W3 (Ct f δ S) QV:=
 W3.bind (h.mono fun _ S1 ⟨k,kvs,ns,e1,e2,e3,hl,q⟩=>by
  subst e1;have e4:lj S1 k=some kvs:=by unfold lj;simp only[e2]
  simp only[e4,e3,DO];exact W3.wh (decide_eq_true hl) (W3.ok q))
end
end L3
end
section
namespace L2
open PySem PySem.Spec PyProof.Rows
section
variable {X:Cx}
def Sf:V->List V->Hp->VK->Prop:=fun x vs H Q=>∃(l:Addr) (xs:List V) (j:Int) (i:Nat) (y:V),x= .ref l/\vs=[.int j,y]/\H l=some (.lst xs)/\j=i/\i<=xs.length/\xs.length < sizeLine/\Q .cu (upd H l (.lst (xs.take i++y ::xs.drop i)))
end
end L2
namespace L3
open PySem PySem.Spec PyProof.Rows L2
section
variable {X:Cx} {cl:Zq}
def Wh(i:Nat)(f g:FX):FZ:=fun δ S=>match kg δ i with
 | none=> .no
 | some k=>match eE S k with
   | none=> .no
   | some _=>(f δ S).bind fun v S1=>match v with
     | .d (.int j)=>(g δ S1).bind fun w S2=>(match w with
       | .d d=>(match eE S2 k with
         | some ds=>R3.bN (decide (0<=j/\j.toNat<=ds.length/\ds.length < sizeLine)) (.ok (.nx δ) (S2.set k (.lst (ds.take j.toNat++d ::ds.drop j.toNat))))
         | none=> .no)
       | _=> .no)
     | _=> .no
end
end L3
end
section
namespace L3
open PySem PySem.Spec PyProof.Rows L2
section
variable {X:Cx} {cl:Zq}
structure R5 (X:Cx) (pos:Pos) (keys:List (Option Expr)) (values:List Expr) (ks:List Str) (g:av->R (List D)):Prop where
 h:∃EJ,Qv X pos keys values EJ/\∀(σ:L2.St) (H:Hp) (Q:List (V × V)->Hp->Prop),(∃Z B δ ds,eR X.K Z B H σ δ/\g δ= .ok ds/\∀vs H',aU H H'->aH X.K B H' ds vs->Q ((ks.zip vs).map fun p=>(V.str p.1,p.2)) H')->zr EJ σ H Q
theorem Kn:R5 X pos [] [] [] aJ:=⟨[],Ky,fun σ H Q ⟨Z,B,δ,ds,E,hf,q⟩=>by
 cases hf;exact q [] H (fun _ _ e=>e) aH.nil⟩
theorem q_{keys:List (Option Expr)}{ks:List Str}{g:av->R (List D)}(hk:QD X ke (eC (.str k)))(hv:QD X ve f)(hr:R5 X pos keys values ks g):R5 X pos (some ke ::keys) (ve ::values) (k ::ks) (ak f g):=by
 obtain⟨EJ,h1,h2⟩:=hr.h;refine⟨_,IW hk.1 hv.1 h1,fun σ H Q ⟨Z,B,δ,ds,E,hf,q⟩=>?_⟩
 obtain⟨d1,e1,e2⟩:=R.ai hf;obtain⟨Xy,e3,e4⟩:=R.ai e2;cases e4;refine⟨Z,B,δ, .str k,E,rfl,fun x H1 s1 r1=>⟨Z,B,δ,d1,E.same s1,e1,fun y H2 s2 r2=>h2 σ H2 _ ⟨Z,B,δ,Xy,(E.same s1).same s2,e3,fun vs H3 s3 r3=>?_⟩⟩⟩
 rw[Rep.str.mp r1];exact q (y ::vs) H3 (s1.trans (s2.trans s3)) (aH.cons (r2.same s3) r3)
def u6(ks:List Str)(ns:List Int):List (Key × D):=(ks.zip ns).foldl (fun acc p=>v_ acc (Sum.inr p.1) (.int p.2)) []
def yw(ks:List Str)(g:av->R (List D)):FX:=fun δ S=>(R3.of (g (down δ)) S).bind fun ds S=>match ints? ds with
 | some ns=>R3.bN (decide (ns.length=ks.length/\ks.length<=15)) (.ok (.loc S.length) (S++[.dct (u6 ks ns)]))
 | none=> .no
theorem dG{K:W.Frag}{B:List Addr}:∀{ds:List D} {ns:List Int} {vs:List V},ints? ds=some ns->aH K B H ds vs->vs=ns.map V.int
 | [],ns,vs,h,r=>by
   unfold aH at r;subst r;cases h;rfl
 | d ::ds,ns,vs,h,r=>by
   obtain⟨x,r',rfl,h1,h2⟩:=r.cw
   match d,h,h1 with
   | .int n,h,h1=>
     obtain⟨ms,e1,rfl⟩:=mJ (show(ints? ds).map (n ::·)=some ns from h)
     rw[Rep.int.mp h1,dG e1 h2];rfl
theorem DN{K:W.Frag}{B:List Addr}:∀(ps:List (Str × Int)) {kvs:List (Key × D)} {ys:List (Key × V)},ys.map (·.1)=kvs.map (·.1)->aH K B H (kvs.map (·.2)) (ys.map (·.2))->
 (lV ys (ps.map fun p=>((Sum.inr p.1:Key),V.int p.2))).map (·.1)=(ps.foldl (fun acc p=>v_ acc (Sum.inr p.1) (.int p.2)) kvs).map (·.1)/\aH K B H ((ps.foldl (fun acc p=>v_ acc (Sum.inr p.1) (.int p.2)) kvs).map (·.2)) ((lV ys (ps.map fun p=>((Sum.inr p.1:Key),V.int p.2))).map (·.2))
 | [],_,_,h,r=>⟨h,r⟩
 | p ::ps,kvs,ys,h,r=>by
   obtain⟨a,b⟩:=L7 (k:=Sum.inr p.1) (d:= .int p.2) (v:=V.int p.2) (Rep.int.mpr rfl) h r;exact DN ps a b
theorem Jp{keys:List (Option Expr)}{values:List Expr}{ks:List Str}{g:av->R (List D)}(h:R5 X pos keys values ks g)(zE:keys.all (·.isSome)=true)(hl:keys.length=values.length)(h0:keys≠[])(Uu:keys.length<=15):PX X cl (.Dict keys values pos) (yw ks g):=by
 obtain⟨EJ,h1,h2⟩:=h.h;refine⟨(Kj h1 zE hl h0 Uu).imp fun σ H Q ⟨ρ,S,δ,v,S',E,hf,q⟩=>?_⟩
 obtain⟨ds,S1,e1,e2⟩:=R3.ai hf;obtain⟨e3,rfl⟩:=R3.of_ok e1;split at e2
 .rename_i ns Sv;obtain⟨hc,e4⟩:=R3.bc e2;cases e4;obtain⟨uM,Py⟩:=of_decide_eq_true hc;intro p hp;refine h2 σ _ _ ⟨[],ρ.b,down δ,ds,E.down.same (aR hp),e3,fun vs H2 s2 r2=>?_⟩
  have hv:=dG Sv r2;subst hv;have X7:H2 p=some (.dK []):=s2 p _ aX;have ez:(ks.zip (ns.map V.int)).map (fun p=>(V.str p.1,p.2))=((ks.zip ns).map fun p=>((Sum.inr p.1:Key),V.int p.2)).map (fun kv=>(kV kv.1,kv.2)):=by
   rw[List.zip_map_right,List.map_map,List.map_map];rfl
  refine⟨X7,(ks.zip ns).map fun p=>((Sum.inr p.1:Key),V.int p.2),ez,by rw[List.length_map,List.length_zip];omega,?_⟩
  have sA:aU H (upd H2 p (.dK (lV [] ((ks.zip ns).map fun p=>((Sum.inr p.1:Key),V.int p.2))))):=fun b u e=>by
   have hb:b≠p:=fun z=>by subst z;rw [hp] at e;cases e
   rw[bb hb];exact s2 b u (by rw[bb hb];exact e)
  obtain⟨m1,m2⟩:=DN (K:=X.K) (B:=(ρ.push p).b) (H:=upd H2 p (.dK (lV [] ((ks.zip ns).map fun p=>((Sum.inr p.1:Key),V.int p.2))))) (ks.zip ns) (kvs:=[]) (ys:=[]) rfl aH.nil
  obtain⟨w,pr⟩:=E.sw.new (a:=p) (o:= .dct (u6 ks ns)) sA hp ⟨_,aX,m1,m2⟩;exact q _ _ _ pr w (by unfold a_;exact⟨p,by show(ρ.r++[p])[_]? =_;rw [<-E.sw.len,List.getElem?_append_right (by omega),Nat.sub_self];rfl,rfl⟩)
 .cases e2
def zl(kvs:List (Key × D))(k:Key):Option D:=(kvs.find? fun kv=>decide (kv.1=k)).map (·.2)
def A5(i:Nat)(f g:FD):FX:=fun δ S=>match kg δ i with
 | none=> .no
 | some k=>match lj S k with
   | none=> .no
   | some kvs=>(R3.of (f (down δ)) S).bind fun kd S=>(R3.of (g (down δ)) S).bind fun d S=>match kd with
     | .str x=> .ok (.d ((zl kvs (Sum.inr x)).getD d)) S
     | _=> .no
theorem Ms{K:W.Frag}{B:List Addr}{k:Key}:∀{kvs:List (Key × D)} {ys:List (Key × V)},ys.map (·.1)=kvs.map (·.1)->aH K B H (kvs.map (·.2)) (ys.map (·.2))->
 (zl kvs k=none/\jw ys k=none)\/∃d v,zl kvs k=some d/\jw ys k=some v/\Rep K B H d v
 | [],[],_,_=> .inl ⟨rfl,rfl⟩
 | [],_ ::_,h,_=>by simp at h
 | _ ::_,[],h,_=>by simp at h
 | (k1,d1) ::kvs,(k2,v2) ::ys,h,r=>by
   obtain⟨h1,h2⟩:=List.cons.inj h;have h1:k2=k1:=h1;subst h1;obtain⟨x,r',e,q1,q2⟩:=aH.cw r;cases e;by_cases hk:k2=k
   .refine .inr ⟨d1,v2,?_,?_,q1⟩
    .unfold zl;rw [List.find?_cons,decide_eq_true hk];rfl
    .unfold jw;simp [hk]
   .have ih:=Ms (k:=k) h2 q2;have a1:zl ((k2,d1) ::kvs) k=zl kvs k:=by unfold zl;rw [List.find?_cons,decide_eq_false hk]
    have a2:jw ((k2,v2) ::ys) k=jw ys k:=by unfold jw;simp [hk]
    rw[a1,a2];exact ih
theorem Ls{i:Nat}{x:Str}{e e':Expr}{f g:FD}{k5 apos dU:Pos}(hu:X.A.units+1 < cLine)(hN:X.N[i]? =some x)(hv:KP X.env.scope x)(he:QD X e f)(RE:QD X e' g)
 (hd:(x==("__debug__":Str))=false:=by decide) (wF:(x==("__classdict__":Str))=false:=by decide)
 (r_:attributeBase (.Name x k5) "get" X.env (eval (.Name x k5) X.env)=eval (.Name x k5) X.env:=by rfl)
 (zD:((backTo dU (starEach [e,e'] X.env)).all (fun x=>!x.1) && (backToKw dU (keywordEach [] X.env)).all (fun x=>x.1.isSome)
   && decide (([e,e']:List Expr).length+([]:List Keyword).length+(if([]:List Keyword).isEmpty then 0 else 1) < 30))=true:=by rfl)
 (sf:(apos.endLine==dU.line)=true:=by rfl) (XI:backTo dU (starEach [e,e'] X.env)=[(false,eval e X.env),(false,eval e' X.env)]:=by rfl) :
 PX X cl (.Call (.Attribute (.Name x k5) "get" apos) [e,e'] [] dU) (A5 i f g):=by
 refine⟨(GV hu (we hN hv hd wF) he.1 RE.1 ⟨r_,zD,sf,XI⟩).imp fun σ H Q ⟨ρ,S,δ,v,S',E,hf,q⟩=>?_⟩
 unfold A5 at hf;split at hf
 .cases hf
 .rename_i k hk;split at hf
  .cases hf
  .rename_i kvs RO;obtain⟨kd,S1,e1,e2⟩:=R3.ai hf;obtain⟨e3,rfl⟩:=R3.of_ok e1;obtain⟨dd,S2,e4,e5⟩:=R3.ai e2;obtain⟨e6,rfl⟩:=R3.of_ok e4;split at e5
   .rename_i xk;cases e5;obtain⟨u,u1,u2⟩:=E.val i _ (nu hk);unfold a_ at u2;obtain⟨a,a1,rfl⟩:=u2;obtain⟨ys,y1,y2,y3⟩:=E.sw.ob k a _ a1 (ku RO);refine⟨.ref a,u1,a,rfl, .inl ⟨_, .inl y1⟩,[],ρ.b,down δ, .str xk,E.down,e3,fun v1 H1 s1 r1=>⟨[],ρ.b,down δ,dd,E.down.same s1,e6,fun v2 H2 s2 r2=>?_⟩⟩
    have sA:aU H H2:=s1.trans s2;refine⟨jw ys (Sum.inr xk),by rw[Rep.str.mp r1];exact ug.k (k:=Sum.inr xk) (sA a _ y1),q _ ρ H2 (Pre.same sA) (E.sw.same sA) ?_⟩
    unfold a_;rcases Ms (k:=Sum.inr xk) y2 y3 with⟨b1,b2⟩ | ⟨d,v',b1,b2,b3⟩
    .rw [b1,b2];exact r2
    .rw [b1,b2];exact b3.same sA
   .cases e5
theorem Lw{ks:List Str}{g:av->R (List D)}{ns:List Int}{δ:DE}{S:aP}{QV:V3->aP->Prop}(e:g (down δ)= .ok (ns.map .int))(h1:ns.length=ks.length)(h2:ks.length<=15)(h:QV (.loc S.length) (S++[.dct (u6 ks ns)])):W3 (yw ks g δ S) QV:=by
 unfold yw;refine W3.bind (W3.of e ?_);simp only[L2.ints_map];exact W3.wh (decide_eq_true ⟨h1,h2⟩) (W3.ok h)
theorem MQ{i k:Nat}{f g:FD}{d:D}{kvs:List (Key × D)}{δ:DE}{S:aP}{QV:V3->aP->Prop}(hk:δ[i]? =some (some (.loc k)))(hS:S[k]? =some (.dct kvs))(e1:f (down δ)= .ok (.str x))(e2:g (down δ)= .ok d)(h:QV (.d ((zl kvs (Sum.inr x)).getD d)) S):W3 (A5 i f g δ S) QV:=by
 unfold A5;have l1:kg δ i=some k:=by unfold kg;rw [hk]
 have l2:lj S k=some kvs:=by unfold lj;simp only[hS]
 simp only[l1,l2];exact W3.bind (W3.of e1 (W3.bind (W3.of e2 (W3.ok h))))
end
end L3
end
section
namespace L2
open PySem PySem.Spec PyProof.Rows
section
variable {X:Cx}
def pW:List D->R D
 | [.tup ds]=>(match ints? ds with | some ns=> .ok (.int ns.sum) | none=> .no)
 | ds=>Nb ds
theorem yu(hc:X.calm=true):cK X (.builtin "sum") pW:=by
 intro pins s σ H B ds d xs us I hb rx rs hg;unfold pW at hg;split at hg
 .split at hg
  .rename_i es ns e;cases hg;obtain⟨x,rfl,r⟩:=rs.one;obtain⟨a,ys,rfl,l,r⟩:=Rep.tup.mp r;obtain⟨u,rfl,ru⟩:=vals1 rx;cases ru;obtain⟨its,rv,ht,hz⟩:=I.tuple l.sq;rw[dG r e] at rv;obtain⟨ps,rfl,rfl⟩:=fV rv;have hl:s.heap.IsTuple a (intItems ps.toArray):=by
    have ht:s.heap.IsTuple a (ps.map fun p=>Value.int p.1 p.2).toArray:=ht
    simpa [intItems] using ht
   refine PySem.W.ktm_sumG (I.ok.hd hc) hl fun h' tk t' k=>⟨.int _,H,I.kept k,⟨t',rfl⟩,aU.refl H,Rep.int.mpr ?_⟩
   rw[preSum_eq,List.take_of_length_le (by simp)]
  .cases hg
 .exact Q3 hc pins s σ H B ds d xs us I hb rx rs hg
end
end L2
end
section
namespace NT
def mx(f:Nat->Nat)(w:List Nat):Nat:=(w.map f).foldl max 0
structure BA (f:Nat->Nat) (M:Nat) (bs:List Int):Prop where
 a:∀(z:Nat) (v:Int),bs[z]? =some v->v= -1\/(0<=v/\v+f z<=M)
def BB(f:Nat->Nat)(M:Nat)(bs:List Int)(n:Nat):Prop:=∃(z:Nat) (v:Int),z < n/\bs[z]? =some v/\0<=v/\(M:Int)<=v+f z
def Up(bs V1:List Int):Prop:=V1.length=bs.length/\∀(z:Nat) (v:Int),bs[z]? =some v->∃v',V1[z]? =some v'/\v<=v'
end NT
namespace NT
open PySem PySem.Spec PyProof.Rows L2 L3
structure Gt where
 k:Str
 w:List Nat
 s:Bool
def nN(z:Nat):D:= .int z
def wN(w:List Nat):D:= .tup (w.map nN)
def gN(g:Gt):D:= .tup [.str g.k,wN g.w, .bl g.s]
def iN(x:Str × Nat):D:= .tup [.str x.1, .int x.2]
def oN(x:Str × List Nat):D:= .tup [.str x.1,wN x.2]
structure Net where
 i:Zm
 g:List Gt
 o:Zn
def Net.d(n:Net):D:= .tup [.lst (n.i.map iN), .lst (n.g.map gN), .lst (n.o.map oN)]
def Net.first(n:Net):Nat:=(n.i.map (·.2)).sum
structure Vz (n:Nat) (w:List Nat):Prop where
 ne:w≠[]
 le:w.length<=3
 lt:∀z∈w,z < n
structure Net.Ok (n:Net):Prop where
 i1:1<=n.i.length
 i6:n.i.length<=6
 iw:∀x∈n.i,1<=x.2/\x.2<=3
 is:∀x∈n.i,cS 0 (.str x.1)
 g60:n.g.length<=60
 gw:∀(p:Nat) (g:Gt),n.g[p]? =some g->Vz (n.first+p) g.w
 gs:∀g∈n.g,cS 0 (.str g.k)
 o1:1<=n.o.length
 o6:n.o.length<=6
 ow:∀x∈n.o,Vz (n.first+n.g.length) x.2
 os:∀x∈n.o,cS 0 (.str x.1)
theorem eq_self{n:Nat}{ds:List D}(h:cS n (.tup ds))(hn:n<=64):lA (.tup ds) (.tup ds)= .ok (.bl true):=by unfold lA;rw [h.eqT hn];rfl
inductive Sm:Nat->D->Prop where
 | int (n:Nat) (i:Int):Sm n (.int i)
 | bl (n:Nat) (b:Bool):Sm n (.bl b)
 | str (n:Nat) (s:Str):Sm n (.str s)
 | lst {n:Nat} {ds:List D} (h:∀d∈ds,Sm n d) (hl:ds.length<=1000000):Sm (n+1) (.lst ds)
 | tup {n:Nat} {ds:List D} (h:∀d∈ds,Sm n d) (hl:ds.length<=1000000):Sm (n+1) (.tup ds)
theorem mQ{F G:FS}{δ:av}{d:D}(h:F δ= .ok (.rt d)):eZ F G δ= .ok (.rt d):=by unfold eZ;rw [h];rfl
theorem GL{m i:Nat}{v:V3}(h:((gq 0 m).map V3.d)[i]? =some v):i < m/\v= .d (.int i):=by
 rw[List.getElem?_map,gq,List.getElem?_map] at h;cases q:(List.range m)[i]? with
 | none=>rw [q] at h;cases h
 | some j=>
   rw[q] at h;cases h;obtain⟨q1,q2⟩:=List.getElem?_eq_some_iff.mp q;rw[List.getElem_range] at q2;rw[List.length_range] at q1;subst q2;exact⟨q1,by simp⟩
theorem K1(lo:Int)(m:Nat):(gq lo m).length=m:=by rw[gq,List.length_map,List.length_range]
theorem G9(lo:Int)(m:Nat):((gq lo m).map V3.d).length=m:=by rw[List.length_map,K1]
theorem dw{α:Type}{l:List α}{f:α->D}{i:Nat}{v:V3}(h:((l.map f).map V3.d)[i]? =some v):∃x,l[i]? =some x/\v= .d (f x):=by
 rw[List.getElem?_map,List.getElem?_map] at h;cases q:l[i]? with
 | none=>rw [q] at h;cases h
 | some x=>rw [q] at h;cases h;exact⟨x,rfl,rfl⟩
theorem jU{α:Type}{l:List α}{f:α->D}{i:Nat}{v:D}(h:(l.map f)[i]? =some v):∃x,l[i]? =some x/\v=f x:=by
 rw[List.getElem?_map] at h;cases q:l[i]? with
 | none=>rw [q] at h;cases h
 | some x=>rw [q] at h;cases h;exact⟨x,rfl,rfl⟩
theorem eI{α:Type}{t:FT}{c:av->R Bool}{f:FD}{δ:av}(a b:α->D):∀{xs:List α},(∀x∈xs,∃cP,t (a x) δ= .ok cP/\c cP= .ok true/\f cP= .ok (b x))->mf t c f δ (xs.map a)= .ok (xs.map b)
 | [],_=>rfl
 | x ::xs,h=>by
   obtain⟨cP,h1,h2,h3⟩:=h x List.mem_cons_self;have ih:=eI (t:=t) (c:=c) (f:=f) (δ:=δ) a b (xs:=xs) fun y hy=>h y (List.mem_cons_of_mem _ hy)
   rw[List.map_cons];unfold mf;rw[h1,R.aM,h2,R.aM,if_pos rfl,h3,R.aM,ih];rfl
theorem cG{α:Type}{t:FT}{c:av->R Bool}{f:FD}{δ:av}(p:α->Bool)(a b:α->D):∀{xs:List α},(∀x∈xs,∃cP,t (a x) δ= .ok cP/\c cP= .ok (p x)/\(p x=true->f cP= .ok (b x)))->mf t c f δ (xs.map a)= .ok ((xs.filter p).map b)
 | [],_=>rfl
 | x ::xs,h=>by
   obtain⟨cP,h1,h2,h3⟩:=h x List.mem_cons_self;have ih:=cG (t:=t) (c:=c) (f:=f) (δ:=δ) p a b (xs:=xs) fun y hy=>h y (List.mem_cons_of_mem _ hy)
   rw[List.map_cons];unfold mf;rw[h1,R.aM,h2,R.aM];cases e:p x with
   | true=>rw [if_pos rfl,h3 e,R.aM,ih,List.filter_cons,if_pos e];rfl
   | false=>rw [if_neg (by decide),ih,List.filter_cons,if_neg (by rw[e];decide)]
theorem LR{n z:Nat}(h:z < n):EA n (z:Int)=some z:=by
 unfold EA;rw[if_pos (by omega),if_pos (by omega)]
 simp
theorem Je{α:Type}{xs:List α}{z:Nat}{x:α}(h:xs[z]? =some x):ur xs (z:Int)=some x:=by
 have hl:=(List.getElem?_eq_some_iff.mp h).1;unfold ur;rw[LR hl];exact h
theorem pB{ds:List D}{z:Nat}{x:D}(h:ds[z]? =some x):cn (.lst ds) (.int z)= .ok x:=vD (Je h)
end NT
end
section
namespace MT
open PySem PySem.Spec PyProof.Rows L2 L3
abbrev M:=Nat->Bool
theorem P6{N:List Str}{F:FZ}{vs:List V3}{δ:DE}{S:aP}{QV:V3->aP->Prop}(e:cA N vs=δ)(h:W3 (F δ S) fun o S1=>∃eD,o= .nx eD/\QV (.d .cu) S1):W3 (pJ N F vs S) QV:=by
 subst e;exact W3.bind (h.mono fun _ _ ⟨_,e,q⟩=>by subst e;exact W3.ok q)
def jB:Nat->M->Nat
 | 0,_=>0
 | N+1,f=>(if f 0 then 1 else 0)+2*jB N (fun i=>f (i+1))
theorem i7:∀(N:Nat) (f:M) (i:Nat),(jB N f).testBit i=(decide (i < N) && f i)
 | 0,f,i=>by unfold jB;simp
 | N+1,f,0=>by
   unfold jB;rw[Nat.testBit_zero];cases f 0 <;> simp <;> omega
 | N+1,f,i+1=>by
   unfold jB;rw[Nat.testBit_succ];have:((if f 0=true then 1 else 0)+2*jB N fun i=>f (i+1)) / 2=jB N fun i=>f (i+1):=by split <;> omega
   rw[this,i7 N _ i];simp
theorem pF:∀{N:Nat} {f g:M},(∀i,i < N->f i=g i)->jB N f=jB N g
 | 0,_,_,_=>rfl
 | N+1,f,g,h=>by
   unfold jB;rw[h 0 (by omega),pF (N:=N) fun i hi=>h (i+1) (by omega)]
theorem DJ(N:Nat)(f g:M):jB N f &&& jB N g=jB N fun i=>f i && g i:=by
 refine Nat.eq_of_testBit_eq fun i=>?_
 rw[Nat.testBit_and,i7,i7,i7];cases decide (i < N) <;> simp
theorem Jo(N:Nat)(f g:M):jB N f ||| jB N g=jB N fun i=>f i || g i:=by
 refine Nat.eq_of_testBit_eq fun i=>?_
 rw[Nat.testBit_or,i7,i7,i7];cases decide (i < N) <;> simp
theorem D9:∀(N:Nat) (f g:M),((jB N fun i=>f i || g i:Nat):Int) - (jB N fun i=>f i && g i:Nat)=(jB N fun i=>f i !=g i:Nat)
 | 0,f,g=>rfl
 | N+1,f,g=>by
   have ih:=D9 N (fun i=>f (i+1)) (fun i=>g (i+1))
   have e:∀h:M,jB (N+1) h=(if h 0 then 1 else 0)+2*jB N (fun i=>h (i+1)):=fun _=>rfl
   rw[e,e,e];generalize jB N (fun i=>f (i+1) || g (i+1))=a at ih ⊢
   generalize jB N (fun i=>f (i+1) && g (i+1))=b at ih ⊢
   generalize jB N (fun i=>f (i+1) !=g (i+1))=c at ih ⊢
   show(((if(f 0 || g 0) then 1 else 0)+2*a:Nat):Int) - ((if(f 0 && g 0) then 1 else 0)+2*b:Nat)=((if(f 0 !=g 0) then 1 else 0)+2*c:Nat)
   cases f 0 <;> cases g 0 <;> simp <;> omega
theorem rg(x y:Nat):Builtin.bitAnd (x:Int) (y:Int)=((x &&& y:Nat):Int):=by
 unfold Builtin.bitAnd;rw[decide_eq_true (by omega:(0:Int)<=x),decide_eq_true (by omega:(0:Int)<=y)]
 simp
theorem Dq(x y:Nat):Builtin.bitOr (x:Int) (y:Int)=((x ||| y:Nat):Int):=by
 unfold Builtin.bitOr Builtin.bitAnd Builtin.bitNot;rw[decide_eq_false (by omega:¬(0:Int)<= -(x:Int) - 1),decide_eq_false (by omega:¬(0:Int)<= -(y:Int) - 1)]
 show -(-(((-(-(x:Int) - 1) - 1).toNat ||| (-(-(y:Int) - 1) - 1).toNat:Nat):Int) - 1) - 1=_
 rw[show(-(-(x:Int) - 1) - 1).toNat=x by omega,show(-(-(y:Int) - 1) - 1).toNat=y by omega]
 omega
def mI(N:Nat)(f:M):D:= .int (jB N f:Nat)
theorem A2{N:Nat}{f g:M}(h:∀i,i < N->f i=g i):mI N f=mI N g:=by unfold mI;rw [pF h]
theorem vw(N:Nat)(f g:M):CN (mI N f) (mI N g)= .ok (mI N fun i=>f i && g i):=by
 show R.ok (D.int (Builtin.bitAnd (jB N f:Int) (jB N g:Int)))=_;rw[rg,DJ];rfl
theorem AG(N:Nat)(f g:M):JN (mI N f) (mI N g)= .ok (mI N fun i=>f i || g i):=by
 show R.ok (D.int (Builtin.bitOr (jB N f:Int) (jB N g:Int)))=_;rw[Dq,Jo];rfl
theorem Dt(N:Nat)(f g:M):Gr (mI N f) (mI N g)= .ok (mI N fun i=>f i !=g i):=by
 show R.ok (D.int (Builtin.bitOr (jB N f:Int) (jB N g:Int) - Builtin.bitAnd (jB N f:Int) (jB N g:Int)))=_;rw[Dq,rg,Jo,DJ,D9];rfl
def one:M:=fun _=>true
theorem Av(N:Nat)(f:M):Gr (mI N one) (mI N f)= .ok (mI N fun i=>!f i):=by
 rw[Dt];have:(fun i=>one i !=f i)=fun i=>!f i:=by funext i;unfold one;simp
 rw[this]
theorem HR(N:Nat)(f:M)(c:Bool):(if c then Gr (mI N one) (mI N f) else .ok (mI N f))= .ok (mI N fun i=>f i !=c):=by
 cases c with
 | true=>
   rw[if_pos rfl,Av];have:(fun i=>!f i)=fun i=>f i !=true:=by funext i;cases f i <;> rfl
   rw[this]
 | false=>
   rw[if_neg (by decide)]
   have:f=fun i=>f i !=false:=by funext i;cases f i <;> rfl
   rw[<-this]
theorem rX{N:Nat}{f:M}:jB N f=0↔∀i,i < N->f i=false:=by
 constructor
 .intro h i hi;have:=i7 N f i;rw[h,Nat.zero_testBit,decide_eq_true hi,Bool.true_and] at this;exact this.symm
 .intro h;refine Nat.eq_of_testBit_eq fun i=>?_
  rw[i7,Nat.zero_testBit];by_cases q:i < N
  .rw [h i q];simp
  .rw [decide_eq_false q];rfl
theorem Ri(N:Nat)(f:M)(n:Nat):(Be (mI N f) (.int n)).bind (fun d=>CN d (.int 1))= .ok (.int (if decide (n < N) && f n then 1 else 0)):=by
 have h1:Be (mI N f) (.int n)= .ok (.int ((jB N f / 2 ^ n:Nat):Int)):=by
  show R.bN (decide ((0:Int)<=n)) (.ok (D.int ((jB N f:Int) / 2 ^ ((n:Int)).toNat)))=_;rw[cg _ (by omega),Int.toNat_natCast]
  congr 2
 rw[h1,R.aM];show R.ok (D.int (Builtin.bitAnd ((jB N f / 2 ^ n:Nat):Int) ((1:Nat):Int)))=_;rw[rg,Nat.and_one_is_mod,<-i7];congr 2;unfold Nat.testBit;rw[Nat.shiftRight_eq_div_pow,Nat.one_and_eq_mod_two];have:jB N f / 2 ^ n % 2=0\/jB N f / 2 ^ n % 2=1:=by omega
 rcases this with q | q <;> rw[q] <;> rfl
def bI(b:Bool):D:= .int (if b then 1 else 0)
def JQ:List Bool->Nat
 | []=>0
 | b ::bs=>(if b then 1 else 0)+2*JQ bs
theorem G4:∀bs:List Bool,JQ bs=jB bs.length fun i=>bs.getD i false
 | []=>rfl
 | b ::bs=>by
   unfold JQ;rw[G4 bs];rfl
def nI(n:Nat):D:= .int (n:Int)
def kS:Nat->Str | 0=>"not" | 1=>"and" | 2=>"or" | 3=>"xor" | _=>"vote"
def ar:Nat->Nat | 0=>1 | 4=>3 | _=>2
theorem Hl(k:Nat):ar k<=3:=by unfold ar;split <;> omega
def gv:Nat->List Bool->Bool
 | 0,[a]=>!a
 | 1,[a,b]=>a && b
 | 2,[a,b]=>a || b
 | 3,[a,b]=>a !=b
 | 4,[a,b,c]=>(a && b) || (a && c) || (b && c)
 | _,_=>false
def wK(ws:List M)(n:Nat):M:=ws.getD n fun _=>false
abbrev Gt:=Nat × List Nat × Bool
def gy(g:Gt):D:= .tup [.str (kS g.1), .tup (g.2.1.map nI), .bl g.2.2]
def Gi(n:Nat)(g:Gt):Prop:=g.1<=4/\g.2.1.length=ar g.1/\∀w∈g.2.1,w < n
def inD(x:Str × Nat):D:= .tup [.str x.1,nI x.2]
def Fm(x:Str × List Nat):D:= .tup [.str x.1, .tup (x.2.map nI)]
def aY(ins:Zm)(gs:List Gt)(os:Zn):D:= .tup [.lst (ins.map inD), .lst (gs.map gy), .lst (os.map Fm)]
def ub(ins:Zm):Nat:=(ins.map (·.2)).sum
def gF(g:Gt)(ws:List M):M:=fun p=>gv g.1 (g.2.1.map fun n=>wK ws n p)
def lg(bad:List Int)(b:M):Nat->List M->List M
 | 0,ws=>ws
 | n+1,ws=>lg bad b n ws++[fun p=>b p !=bad.contains ((lg bad b n ws).length:Int)]
theorem pE(bad:List Int)(b:M):∀n ws,(lg bad b n ws).length=ws.length+n
 | 0,ws=>rfl
 | n+1,ws=>by unfold lg;rw [List.length_append,pE bad b n ws];rfl
def g_(ins:Zm)(bits:List M)(bad:List Int):Nat->List M
 | 0=>[]
 | i+1=>match ins[i]?,bits[i]? with | some x,some b=>lg bad b x.2 (g_ ins bits bad i) | _,_=>g_ ins bits bad i
theorem md{ins:Zm}{bits:List M}{bad:List Int}(hb:bits.length=ins.length):∀i,i<=ins.length->(g_ ins bits bad i).length=ub (ins.take i)
 | 0,_=>rfl
 | i+1,hi=>by
   have h1:ins[i]? =some ins[i]:=List.getElem?_eq_getElem (by omega)
   have h2:bits[i]? =some bits[i]:=List.getElem?_eq_getElem (by omega)
   unfold g_;rw[h1,h2];show(lg bad bits[i] ins[i].2 (g_ ins bits bad i)).length=_;rw[pE,md hb i (by omega),List.take_add_one,h1]
   unfold ub;simp only[Option.toList_some,List.map_append,List.sum_append,List.map_cons,List.map_nil,List.sum_cons,List.sum_nil];omega
def vg(gs:List Gt)(turned:List Int)(w0:List M):Nat->List M
 | 0=>w0
 | i+1=>match gs[i]? with | some g=>vg gs turned w0 i++[fun p=>gF g (vg gs turned w0 i) p !=turned.contains (i:Int)] | none=>vg gs turned w0 i
theorem rF{gs:List Gt}{turned:List Int}{w0:List M}:∀i,i<=gs.length->(vg gs turned w0 i).length=w0.length+i
 | 0,_=>rfl
 | i+1,hi=>by
   have h1:gs[i]? =some gs[i]:=List.getElem?_eq_getElem (by omega)
   unfold vg;rw[h1];show(vg gs turned w0 i++[_]).length=_;rw[List.length_append,rF i (by omega)]
   rfl
structure iq (ins:Zm) (gs:List Gt) (os:Zn):Prop where
 hi:ins.length < 100
 hw:∀x∈ins,x.2 < 100
 hg:gs.length < 1000
 g:∀(i:Nat) (x:Gt),gs[i]? =some x->Gi (ub ins+i) x
 ho:os.length < 1000
 o:∀x∈os,x.2.length < 1000/\∀w∈x.2,w < ub ins+gs.length
def Iv(ins:Zm)(gs:List Gt)(bits:List M)(turned bad:List Int):List M:=vg gs turned (g_ ins bits bad ins.length) gs.length
theorem vp:∀{l:Zm},(∀x∈l,x.2 < 100)->ub l<=100*l.length
 | [],_=>by simp [ub]
 | x ::l,h=>by
   have ih:=vp (l:=l) fun y hy=>h y (List.mem_cons_of_mem _ hy)
   have:=h x List.mem_cons_self;unfold ub at ih ⊢;rw[List.map_cons,List.sum_cons,List.length_cons];omega
theorem GO{ins:Zm}{gs:List Gt}{bits:List M}{turned bad:List Int}(hb:bits.length=ins.length):(Iv ins gs bits turned bad).length=ub ins+gs.length:=by unfold Iv;rw [rF _ (Nat.le_refl _),md hb _ (Nat.le_refl _),List.take_length]
def tell(ws:List M)(x:Str × List Nat):List M:=x.2.map (wK ws)
def Nw:List Bool->Bool × Bool
 | [a]=>(!a,a)
 | [a,b]=>(!(a || b),a && b)
 | [a,b,c]=>let v:=(a && b) || (a && c) || (b && c);(!v,v)
 | _=>(false,false)
def brk(safe:Bool)(x y:Bool × Bool):Bool:=if safe then(x.1 && y.2) || (x.2 && y.1) else(x.1 !=y.1) || (x.2 !=y.2)
theorem yO(i:Int)(ps:List Int):Bk (.int i) (.tup (ps.map .int))= .ok (.bl (ps.contains i)):=by
 show((match ints? (ps.map D.int) with | some ss=>R.ok (ss.contains i) | none=> .no)).bind (fun b=>R.ok (D.bl b))=_
 rw[L2.ints_map];rfl
theorem ng{ds:List D}{i:Nat}{v:V3}(h:((cm ds).map V3.d)[i]? =some v):∃d,ds[i]? =some d/\v= .d (.tup [.int i,d]):=by
 rw[List.getElem?_map,cm,List.getElem?_map,List.getElem?_zipIdx] at h;cases q:ds[i]? with
 | none=>rw [q] at h;cases h
 | some d=>
   rw[q] at h;simp at h;exact⟨d,rfl,h.symm⟩
theorem yW{c:av->R Bool}{δ:av}{b:Bool}{r:R D}(h:c δ= .ok b)(h2:(if b then f δ else g δ)=r):Ow c f g δ=r:=by unfold Ow;rw [h,R.aM];exact h2
theorem dA(S:aP)(x y:SO):(S++[x]).set S.length y=S++[y]:=by
 rw[List.set_append_right _ _ (Nat.le_refl _),Nat.sub_self];rfl
theorem bg(S:aP)(x:SO):(S++[x])[S.length]? =some x:=by rw[List.getElem?_append_right (Nat.le_refl _),Nat.sub_self];rfl
theorem OR{N:Nat}{ws:List M}{n:Nat}(h:n < ws.length):cn (.lst (ws.map (mI N))) (nI n)= .ok (mI N (wK ws n)):=by
 refine NT.pB ?_;rw[List.getElem?_map,List.getElem?_eq_getElem h];unfold wK;rw[List.getD_eq_getElem?_getD,List.getElem?_eq_getElem h];rfl
theorem m6{α:Type}{t:FG}{body:FZ}{S:aP}(g:α->V3)(f:α->Option V3)(E:DE->Prop):∀{xs:List α} {δ:DE},E δ->
 (∀x∈xs,∀δ,E δ->∃cP,t (g x) δ=some cP/\W3 (body cP S) fun o S1=>S1=S/\(match f x with | some v=>o= .rt v | none=>∃cZ,o= .nx cZ/\E cZ))->
 W3 (jN t body (xs.map g) δ S) fun o S1=>S1=S/\(match xs.findSome? f with | some v=>o= .rt v | none=>∃cZ,o= .nx cZ/\E cZ)
 | [],δ,h0,_=>W3.ok ⟨rfl,δ,rfl,h0⟩
 | x ::xs,δ,h0,hs=>by
   obtain⟨cP,e1,o,S1,e2,rfl,h2⟩:=hs x List.mem_cons_self δ h0;rw[List.map_cons];unfold jN;rw[e1];refine W3.bind ⟨_,_,e2,?_⟩;rw[List.findSome?_cons];cases hf:f x with
   | some v=>rw [hf] at h2;subst h2;exact W3.ok ⟨rfl,rfl⟩
   | none=>
     rw[hf] at h2;obtain⟨cZ,rfl,h2⟩:=h2;exact m6 g f E h2 fun y hy=>hs y (List.mem_cons_of_mem _ hy)
theorem qG{α:Type}{t:FT}{body:FS}(g:α->D)(f:α->Option D)(E:av->Prop):∀{xs:List α} {δ:av},E δ->
 (∀x∈xs,∀δ,E δ->∃o,((t (g x) δ).bind body)= .ok o/\(match f x with | some v=>o= .rt v | none=>∃cZ,o= .nx cZ/\E cZ))->
 ∃o,p8 t body (xs.map g) δ= .ok o/\(match xs.findSome? f with | some v=>o= .rt v | none=>∃cZ,o= .nx cZ/\E cZ)
 | [],δ,h0,_=>⟨_,rfl,δ,rfl,h0⟩
 | x ::xs,δ,h0,hs=>by
   obtain⟨o,e2,h2⟩:=hs x List.mem_cons_self δ h0;rw[List.map_cons];unfold p8;cases e3:t (g x) δ with
   | no=>rw [e3] at e2;cases e2
   | ex _=>rw [e3] at e2;cases e2
   | ok cP=>
     rw[e3,R.aM] at e2;rw[R.aM,e2,R.aM,List.findSome?_cons];cases hf:f x with
     | some v=>rw [hf] at h2;subst h2;exact⟨_,rfl,rfl⟩
     | none=>
       rw[hf] at h2;obtain⟨cZ,rfl,h2⟩:=h2;exact qG g f E h2 fun y hy=>hs y (List.mem_cons_of_mem _ hy)
def eW:List Nat->Nat->Zo
 | _,0=>[[]]
 | ps,s+1=>(List.range ps.length).flatMap fun a=>(eW (ps.drop (a+1)) s).map (ps.getD a 0 ::·)
theorem gK:∀{s:Nat} {ps T:List Nat},T∈eW ps s->T.length=s/\∀x∈T,x∈ps
 | 0,ps,T,h=>by unfold eW at h;rw [List.mem_singleton.mp h];simp
 | s+1,ps,T,h=>by
   unfold eW at h;obtain⟨a,ha,h⟩:=List.mem_flatMap.mp h;obtain⟨R,hR,rfl⟩:=List.mem_map.mp h;rw[List.mem_range] at ha;obtain⟨h1,h2⟩:=gK hR;refine⟨by simp [h1],fun x hx=>?_⟩
   rcases List.mem_cons.mp hx with rfl | hx
   .rw [List.getD_eq_getElem?_getD,List.getElem?_eq_getElem ha];exact List.getElem_mem ha
   .exact List.mem_of_mem_drop (h2 x hx)
theorem Cy:∀{l:List Nat} {m:Nat},(∀x∈l,x<=m)->l.sum<=l.length*m
 | [],_,_=>by simp
 | x ::l,m,h=>by
   have:=Cy (l:=l) (m:=m) fun y hy=>h y (List.mem_cons_of_mem _ hy)
   have h0:=h x List.mem_cons_self;rw[List.sum_cons,List.length_cons,Nat.add_mul];omega
theorem uB:∀{s:Nat} {ps:List Nat} {n:Nat},ps.length<=n->(eW ps s).length<=n ^ s
 | 0,ps,n,_=>by unfold eW;simp
 | s+1,ps,n,h=>by
   unfold eW;rw[List.length_flatMap,Nat.pow_succ];refine Nat.le_trans (Cy (m:=n ^ s) fun x hx=>?_) ?_
   .obtain⟨a,_,rfl⟩:=List.mem_map.mp hx;rw[List.length_map];exact uB (by rw[List.length_drop];omega)
   .rw [List.length_map,List.length_range,Nat.mul_comm];exact Nat.mul_le_mul_left _ h
theorem oT{F G:FZ}{δ:DE}{S:aP}{QO:Ou->aP->Prop}(h:W3 (F δ S) fun o S1=>match o with | .nx cP=>W3 (G cP S1) QO | .rt v=>QO (.rt v) S1):W3 (bw F G δ S) QO:=
 W3.bind (h.mono fun o S1 q=>by cases o with | nx cP=>exact q | rt v=>exact W3.ok q)
end MT
end
section
namespace K42
open PySem PySem.Spec PyProof.Rows L2 L3
variable {P:Program} {w:World} {K:W.Frag} {mg:Zp} {base:Heap} {cl:Zq}
def top(i:Nat):Stmt:=PySem.Challenge.pw_bearfaults_k42_whole_fewest_made_sure.main.body.getD i (.Pass ⟨0,0,0,0⟩)
structure Tp (K:W.Frag) (mg:Zp) (cl:Zq):Prop where
 z_enumerate:mg "enumerate"=none
 z_range:mg "range"=none
 z_len:mg "len"=none
 z_tuple:mg "tuple"=none
 z_reversed:mg "reversed"=none
 z_zip:mg "zip"=none
 z_all:mg "all"=none
 z_any:mg "any"=none
 z_min:mg "min"=none
 z_sorted:mg "sorted"=none
 z_list:mg "list"=none
 z_abs:mg "abs"=none
 z_int:mg "int"=none
 z_sum:mg "sum"=none
 z_max:mg "max"=none
 C_Bench:zF K (cl 0)
 N_Bench_net:dv K (cl 0) "net"
 N_Bench_many_inputs:dv K (cl 0) "many_inputs"
 N_Bench_full:dv K (cl 0) "full"
 N_Bench_in_masks:dv K (cl 0) "in_masks"
 M_Bench:mg "Bench"=some (.ref (cl 0))
 C_Trial:zF K (cl 1)
 N_Trial_bench:dv K (cl 1) "bench"
 N_Trial_plain:dv K (cl 1) "plain"
 N_Trial_unsure:dv K (cl 1) "unsure"
 M_Trial:mg "Trial"=some (.ref (cl 1))
abbrev mv:Stmt:=top 2
noncomputable abbrev xr:List Str:=["masks"]
noncomputable def CW:{b:List Stmt // aK mv=b}:=⟨_,by conv=>lhs;whnf⟩
noncomputable def wo:{b:Scope // ay mv=b}:=⟨_,by conv=>lhs;whnf⟩
theorem EY:aT xr ["masks"] wo.1:=⟨rfl,rfl,rfl,by decide+kernel,rfl,by decide+kernel,by decide+kernel⟩
def xC:FS:=(fO (e2 JN (e2 JN (e2 CN (e2 cn (ae 0) (eC (.int 0))) (e2 cn (ae 0) (eC (.int 1)))) (e2 CN (e2 cn (ae 0) (eC (.int 0))) (e2 cn (ae 0) (eC (.int 2))))) (e2 CN (e2 cn (ae 0) (eC (.int 1))) (e2 cn (ae 0) (eC (.int 2))))))
def iB:List D->R D:=tV xr xC
theorem FE(T:Tp K mg cl)(h:Def K mg "vote_of" mv):Callee P w K mg base 1 "vote_of" 1 iB:=by
 obtain⟨f,fd,F,hm⟩:=h;exact⟨f,fd,_,bZ (k:=0) CW.2 wo.2 F EY (fun dF A outer s H E hr=>(aV (bC (aw Ac (aw Ac (aw yn (aC (aa 0) af (fun _ _=>rfl)) (aC (aa 0) af (fun _ _=>rfl))) (aw yn (aC (aa 0) af (fun _ _=>rfl)) (aC (aa 0) af (fun _ _=>rfl)))) (aw yn (aC (aa 0) af (fun _ _=>rfl)) (aC (aa 0) af (fun _ _=>rfl))))))),hm,F.kp,F.binds fun _ _ _ _ _ _ us hl=>match us,hl with | [_],_=>rfl⟩
abbrev jy:Stmt:=top 3
noncomputable abbrev oR:List Str:=["kind","masks","full"]
noncomputable def zf:{b:List Stmt // aK jy=b}:=⟨_,by conv=>lhs;whnf⟩
noncomputable def rY:{b:Scope // ay jy=b}:=⟨_,by conv=>lhs;whnf⟩
theorem AO:aT oR ["kind","masks","full"] rY.1:=⟨rfl,rfl,rfl,by decide+kernel,rfl,by decide+kernel,by decide+kernel⟩
def t4:FS:=(eZ (A4 (b2 lA (ae 0) (eC (.str "not"))) (fO (e2 Gr (ae 2) (e2 cn (ae 1) (eC (.int 0))))) uq) (eZ (A4 (b2 lA (ae 0) (eC (.str "and"))) (fO (e2 CN (e2 cn (ae 1) (eC (.int 0))) (e2 cn (ae 1) (eC (.int 1))))) uq) (eZ (A4 (b2 lA (ae 0) (eC (.str "or"))) (fO (e2 JN (e2 cn (ae 1) (eC (.int 0))) (e2 cn (ae 1) (eC (.int 1))))) uq) (eZ (A4 (b2 lA (ae 0) (eC (.str "xor"))) (fO (e2 Gr (e2 cn (ae 1) (eC (.int 0))) (e2 cn (ae 1) (eC (.int 1))))) uq) (fO (aS iB (ak (ae 1) aJ)))))))
def jk:List D->R D:=tV oR t4
theorem Ap(T:Tp K mg cl)(h:Def K mg "gate_mask" jy)(j9:Callee P w K mg base 1 "vote_of" 1 iB):Callee P w K mg base 2 "gate_mask" 3 jk:=by
 obtain⟨f,fd,F,hm⟩:=h;exact⟨f,fd,_,bZ (k:=1) zf.2 rY.2 F AO (fun dF A outer s H E hr=>(bf (ja (bx (lP hr.units) (aa 0) bO (bG _)) (aV (bC (aw Ba (aa 2) (aC (aa 1) af (fun _ _=>rfl))))) gO) (bf (ja (bx (lP hr.units) (aa 0) bO (bG _)) (aV (bC (aw yn (aC (aa 1) af (fun _ _=>rfl)) (aC (aa 1) af (fun _ _=>rfl))))) gO) (bf (ja (bx (lP hr.units) (aa 0) bO (bG _)) (aV (bC (aw Ac (aC (aa 1) af (fun _ _=>rfl)) (aC (aa 1) af (fun _ _=>rfl))))) gO) (bf (ja (bx (lP hr.units) (aa 0) bO (bG _)) (aV (bC (aw Ba (aC (aa 1) af (fun _ _=>rfl)) (aC (aa 1) af (fun _ _=>rfl))))) gO) (aV (bC (bo j9 hr (by decide) rfl (ab (aa 1) ag) (aG bH))))))))),hm,F.kp,F.binds fun _ _ _ _ _ _ us hl=>match us,hl with | [_,_,_],_=>rfl⟩
abbrev eU:Stmt:=top 4
noncomputable abbrev gf:List Str:=["ins","in_masks","full","bad","wires","place","mask","figure"]
noncomputable def sJ:{b:List Stmt // aK eU=b}:=⟨_,by conv=>lhs;whnf⟩
noncomputable def mi:{b:Scope // ay eU=b}:=⟨_,by conv=>lhs;whnf⟩
theorem eV:aT gf ["ins","in_masks","full","bad"] mi.1:=⟨rfl,rfl,rfl,by decide+kernel,rfl,by decide+kernel,by decide+kernel⟩
def g9:FZ:=(oY 4 (xT (Ow (b2 Bk (aS j2 (ak (ae 4) aJ)) (ae 3)) (e2 Gr (ae 2) (ae 6)) (ae 6))))
def k9:FZ:=(gn (iP (dE (e2 cn (e2 cn (ae 0) (ae 5)) (eC (.int 1))))) (jT 7) g9)
def jD:FZ:=(bw (cC 4 (qA (d_ aJ))) (bw (gn (iP (DC (ae 1))) (JS 2 (zG (jT 5) (zG (jT 6) KD))) k9) (fP (eO 4))))
def eh:List V3->aP->R3 V3:=pJ gf jD
def FP:List V3->aP->R3 V3:=pN gf jD
theorem um(T:Tp K mg cl)(h:Def K mg "in_wire_masks" eU):bp P w K mg base cl 1 "in_wire_masks" 4 eh:=by
 obtain⟨f,fd,F,hm⟩:=h;exact⟨f,fd,_,bU (k:=0) sJ.2 mi.2 F eV (fun dF A outer s H E hr=>(au (bh eV.nd rfl (Or.inl rfl) (iJ (bJ ag))) (au (cT PassesOwn.never rfl (bE (BP (aa 1) rfl T.z_enumerate)) (lx rfl (cB (aO eV.nd rfl (Or.inl rfl)) (cB (aO eV.nd rfl (Or.inl rfl)) jt))) (aF (cT PassesOwn.never rfl (bE (bK (aC (aC (aa 0) (aa 5) (fun _ _=>rfl)) af (fun _ _=>rfl)) rfl T.z_range)) (aO eV.nd rfl (Or.inl rfl)) (aF (jH rfl (Or.inl rfl) (uJ (CH (bx AD (ba ju rfl T.z_len PySem.boot_len (ab (aa 4) ag)) (aa 3) (by with_unfolding_all rfl)) (aw Ba (aa 2) (aa 6)) (aa 6)))))))) (aF (cy (bW 4)))))),hm,F.kp,F.binds fun _ _ _ _ _ _ us hl=>match us,hl with | [_,_,_,_],_=>rfl⟩
abbrev kh:Stmt:=top 5
noncomputable abbrev qD:List Str:=["wires","numbers"]
noncomputable def Ag:{b:List Stmt // aK kh=b}:=⟨_,by conv=>lhs;whnf⟩
noncomputable def oh:{b:Scope // ay kh=b}:=⟨_,by conv=>lhs;whnf⟩
theorem BY:aT qD ["wires","numbers"] oh.1:=⟨rfl,rfl,rfl,by decide+kernel,rfl,by decide+kernel,by decide+kernel⟩
def vF:FS:=(fO (aS oK (ak (eNew (cO (cq (ae 1)) (aI 0) j4 (e2 cn (ae 1) (ae 0)) ["number"] [0])) aJ)))
def gh:List D->R D:=tV qD vF
theorem B4(T:Tp K mg cl)(h:Def K mg "masks_at" kh):Callee P w K mg base 1 "masks_at" 2 gh:=by
 obtain⟨f,fd,F,hm⟩:=h;exact⟨f,fd,_,bZ (k:=0) Ag.2 oh.2 F BY (fun dF A outer s H E hr=>(aV (bC (dc rV rfl T.z_tuple PyProof.Rows.boot_tuple (ab (bt (cx rfl (bz.of (own:=["number"]) (kp:=[0]) (kn:=["wires"]) (sc:=oh.1) (N:=qD) rfl rfl (by decide+kernel)) (br (aa 1)) (fun _ _ _=>(aQ (show List.Nodup [(Str.ofString "number"),"wires"] from by decide+kernel) rfl (Or.inl rfl))) (fun _ _ _=>dq) (fun _ _ _=>(aC (aa 1) (aa 0) (fun _ _=>rfl))))) ag))))),hm,F.kp,F.binds fun _ _ _ _ _ _ us hl=>match us,hl with | [_,_],_=>rfl⟩
abbrev gZ:Stmt:=top 6
noncomputable abbrev jW:List Str:=["net","in_masks","full","turned","bad","wires","place","gate","mask"]
noncomputable def w9:{b:List Stmt // aK gZ=b}:=⟨_,by conv=>lhs;whnf⟩
noncomputable def pY:{b:Scope // ay gZ=b}:=⟨_,by conv=>lhs;whnf⟩
theorem gS:aT jW ["net","in_masks","full","turned","bad"] pY.1:=⟨rfl,rfl,rfl,by decide+kernel,rfl,by decide+kernel,by decide+kernel⟩
def kQ:FZ:=(bw (cC 8 (xT (aS jk (ak (e2 cn (ae 7) (eC (.int 0))) (ak (aS gh (ak (ae 5) (ak (e2 cn (ae 7) (eC (.int 1))) aJ))) (ak (ae 2) aJ)))))) (oY 5 (xP (Ow (b2 Bk (ae 6) (ae 3)) (e2 Gr (ae 2) (ae 8)) (ae 8)))))
def mP:FZ:=(bw (cC 5 (eQ eh (aN (xP (e2 cn (ae 0) (eC (.int 0)))) (aN (xP (ae 1)) (aN (xP (ae 2)) (aN (xP (ae 4)) dW)))))) (bw (gn (iP (fN (e2 cn (ae 0) (eC (.int 1))))) (JS 2 (zG (jT 6) (zG (jT 7) KD))) kQ) (fP (eO 5))))
def xf:List V3->aP->R3 V3:=pJ jW mP
def i5:List V3->aP->R3 V3:=pN jW mP
theorem yX(T:Tp K mg cl)(h:Def K mg "wire_masks" gZ)(i4:Callee P w K mg base 1 "masks_at" 2 gh)(o9:Callee P w K mg base 2 "gate_mask" 3 jk)(fK:bp P w K mg base cl 1 "in_wire_masks" 4 eh):bp P w K mg base cl 3 "wire_masks" 5 xf:=by
 obtain⟨f,fd,F,hm⟩:=h;exact⟨f,fd,_,bU (k:=2) w9.2 pY.2 F gS (fun dF A outer s H E hr=>(au (bh gS.nd rfl (Or.inl rfl) (cF fK hr (by decide) rfl (ao (ah (aC (aa 0) af (fun _ _=>rfl))) (ao (ah (aa 1)) (ao (ah (aa 2)) (ao (ah (aa 4)) bj)))) (aj (aj (aj (aj aZ)))))) (au (cT PassesOwn.never rfl (bE (iK (aC (aa 0) af (fun _ _=>rfl)) rfl T.z_enumerate)) (lx rfl (cB (aO gS.nd rfl (Or.inl rfl)) (cB (aO gS.nd rfl (Or.inl rfl)) jt))) (au (bh gS.nd rfl (Or.inl rfl) (uJ (bo o9 hr (by decide) rfl (ab (aC (aa 7) af (fun _ _=>rfl)) (ab (bo i4 hr (by decide) rfl (ab (aa 5) (ab (aC (aa 7) af (fun _ _=>rfl)) ag)) (aG (aG bH))) (ab (aa 2) ag))) (aG (aG (aG bH)))))) (aF (jH rfl (Or.inl rfl) (ah (CH (bx AD (aa 6) (aa 3) (by with_unfolding_all rfl)) (aw Ba (aa 2) (aa 8)) (aa 8))))))) (aF (cy (bW 5)))))),hm,F.kp,F.binds fun _ _ _ _ _ _ us hl=>match us,hl with | [_,_,_,_,_],_=>rfl⟩
abbrev jl:Stmt:=top 7
noncomputable abbrev jq:List Str:=["net","wires"]
noncomputable def yD:{b:List Stmt // aK jl=b}:=⟨_,by conv=>lhs;whnf⟩
noncomputable def m4:{b:Scope // ay jl=b}:=⟨_,by conv=>lhs;whnf⟩
theorem Bl:aT jq ["net","wires"] m4.1:=⟨rfl,rfl,rfl,by decide+kernel,rfl,by decide+kernel,by decide+kernel⟩
def n5:FZ:=(fP (qA (cO (cq (e2 cn (ae 0) (eC (.int 2)))) (iu 2 (cc (aI 0) (cc (aI 1) iy))) j4 (aS gh (ak (ae 2) (ak (ae 1) aJ))) ["name","numbers"] [1])))
def yk:List V3->aP->R3 V3:=pJ jq n5
def jY:List V3->aP->R3 V3:=pN jq n5
theorem Ar(T:Tp K mg cl)(h:Def K mg "out_masks" jl)(i4:Callee P w K mg base 1 "masks_at" 2 gh):bp P w K mg base cl 2 "out_masks" 2 yk:=by
 obtain⟨f,fd,F,hm⟩:=h;exact⟨f,fd,_,bU (k:=1) yD.2 m4.2 F Bl (fun dF A outer s H E hr=>(aF (cy (iJ (cx rfl (bz.of (own:=["name","numbers"]) (kp:=[1]) (kn:=["wires"]) (sc:=m4.1) (N:=jq) rfl rfl (by decide+kernel)) (br (aC (aa 0) af (fun _ _=>rfl))) (fun _ _ _=>(kD rfl (cD (aQ (show List.Nodup [(Str.ofString "name"),"numbers","wires"] from by decide+kernel) rfl (Or.inl rfl)) (cD (aQ (show List.Nodup [(Str.ofString "name"),"numbers","wires"] from by decide+kernel) rfl (Or.inl rfl)) iH)))) (fun _ _ _=>dq) (fun _ _ _=>(bo i4 hr (by decide) rfl (ab (aa 2) (ab (aa 1) ag)) (aG (aG bH))))))))),hm,F.kp,F.binds fun _ _ _ _ _ _ us hl=>match us,hl with | [_,_],_=>rfl⟩
abbrev mH:Stmt:=top 8
noncomputable abbrev pC:List Str:=["masks","full","ones"]
noncomputable def CL:{b:List Stmt // aK mH=b}:=⟨_,by conv=>lhs;whnf⟩
noncomputable def vT:{b:Scope // ay mH=b}:=⟨_,by conv=>lhs;whnf⟩
theorem yg:aT pC ["masks","full"] vT.1:=⟨rfl,rfl,rfl,by decide+kernel,rfl,by decide+kernel,by decide+kernel⟩
def x6:FS:=(eZ (A4 (b2 lA (aS j2 (ak (ae 0) aJ)) (eC (.int 2))) (fO (d5 (ak (e2 Gr (ae 1) (e2 JN (e2 cn (ae 0) (eC (.int 0))) (e2 cn (ae 0) (eC (.int 1))))) (ak (e2 CN (e2 cn (ae 0) (eC (.int 0))) (e2 cn (ae 0) (eC (.int 1)))) aJ)))) uq) (eZ (mN 2 (Ow (b2 lA (aS j2 (ak (ae 0) aJ)) (eC (.int 1))) (e2 cn (ae 0) (eC (.int 0))) (aS iB (ak (ae 0) aJ)))) (fO (d5 (ak (e2 Gr (ae 1) (ae 2)) (ak (ae 2) aJ))))))
def mw:List D->R D:=tV pC x6
theorem F7(T:Tp K mg cl)(h:Def K mg "reading" mH)(j9:Callee P w K mg base 1 "vote_of" 1 iB):Callee P w K mg base 2 "reading" 2 mw:=by
 obtain⟨f,fd,F,hm⟩:=h;exact⟨f,fd,_,bZ (k:=1) CL.2 vT.2 F yg (fun dF A outer s H E hr=>(bf (ja (bx (lP hr.units) (ba ju rfl T.z_len PySem.boot_len (ab (aa 0) ag)) af (bG _)) (aV (bC (bA (ab (aw Ba (aa 1) (aw Ac (aC (aa 0) af (fun _ _=>rfl)) (aC (aa 0) af (fun _ _=>rfl)))) (ab (aw yn (aC (aa 0) af (fun _ _=>rfl)) (aC (aa 0) af (fun _ _=>rfl))) ag))))) gO) (bf (dJ yg.nd rfl (Or.inl rfl) (CH (bx (lP hr.units) (ba ju rfl T.z_len PySem.boot_len (ab (aa 0) ag)) af (bG _)) (aC (aa 0) af (fun _ _=>rfl)) (bo j9 hr (by decide) rfl (ab (aa 0) ag) (aG bH)))) (aV (bC (bA (ab (aw Ba (aa 1) (aa 2)) (ab (aa 2) ag)))))))),hm,F.kp,F.binds fun _ _ _ _ _ _ us hl=>match us,hl with | [_,_],_=>rfl⟩
abbrev n6:Stmt:=top 9
noncomputable abbrev zU:List Str:=["mask","number"]
noncomputable def EX:{b:List Stmt // aK n6=b}:=⟨_,by conv=>lhs;whnf⟩
noncomputable def xM:{b:Scope // ay n6=b}:=⟨_,by conv=>lhs;whnf⟩
theorem HP:aT zU ["mask","number"] xM.1:=⟨rfl,rfl,rfl,by decide+kernel,rfl,by decide+kernel,by decide+kernel⟩
def zM:FS:=(fO (e2 CN (e2 Be (ae 0) (ae 1)) (eC (.int 1))))
def o8:List D->R D:=tV zU zM
theorem Jl(T:Tp K mg cl)(h:Def K mg "bit_at" n6):Callee P w K mg base 1 "bit_at" 2 o8:=by
 obtain⟨f,fd,F,hm⟩:=h;exact⟨f,fd,_,bZ (k:=0) EX.2 xM.2 F HP (fun dF A outer s H E hr=>(aV (bC (aw yn (aw MB (aa 0) (aa 1)) af)))),hm,F.kp,F.binds fun _ _ _ _ _ _ us hl=>match us,hl with | [_,_],_=>rfl⟩
abbrev gY:Stmt:=top 10
noncomputable abbrev jZ:List Str:=["count","inputs","place","longer","bits"]
noncomputable def wX:{b:List Stmt // aK gY=b}:=⟨_,by conv=>lhs;whnf⟩
noncomputable def pU:{b:Scope // ay gY=b}:=⟨_,by conv=>lhs;whnf⟩
theorem fJ:aT jZ ["count"] pU.1:=⟨rfl,rfl,rfl,by decide+kernel,rfl,by decide+kernel,by decide+kernel⟩
def n4:FZ:=(bw (oY 3 (xP (e2 iz (ae 4) (d5 (ak (eC (.int 0)) aJ))))) (oY 3 (xP (e2 iz (ae 4) (d5 (ak (eC (.int 1)) aJ))))))
def om:FZ:=(zq 1 (bw (cC 3 (qA (d_ aJ))) (bw (gn (iP (cq (ae 1))) (jT 4) n4) (cC 1 (eO 3)))))
def mS:FZ:=(bw (cC 1 (qA (d_ (ak (d5 aJ) aJ)))) (bw (gn (iP (dE (ae 0))) (jT 2) om) (fP (eO 1))))
def wU:List V3->aP->R3 V3:=pJ jZ mS
def jd:List V3->aP->R3 V3:=pN jZ mS
theorem za(T:Tp K mg cl)(h:Def K mg "all_inputs" gY):bp P w K mg base cl 1 "all_inputs" 1 wU:=by
 obtain⟨f,fd,F,hm⟩:=h;exact⟨f,fd,_,bU (k:=0) wX.2 pU.2 F fJ (fun dF A outer s H E hr=>(au (bh fJ.nd rfl (Or.inl rfl) (iJ (bJ (ab (bA ag) ag)))) (au (cT PassesOwn.never rfl (bE (bK (aa 0) rfl T.z_range)) (aO fJ.nd rfl (Or.inl rfl)) (rh 1 (au (bh fJ.nd rfl (Or.inl rfl) (iJ (bJ ag))) (au (cT PassesOwn.never rfl (bE (br (aa 1))) (aO fJ.nd rfl (Or.inl rfl)) (au (jH rfl (Or.inl rfl) (ah (aw lN (aa 4) (bA (ab af ag))))) (aF (jH rfl (Or.inl rfl) (ah (aw lN (aa 4) (bA (ab af ag)))))))) (aF (bh fJ.nd rfl (Or.inl rfl) (bW 3))))))) (aF (cy (bW 1)))))),hm,F.kp,F.binds fun _ _ _ _ _ _ us hl=>match us,hl with | [_],_=>rfl⟩
abbrev mq:Stmt:=top 11
noncomputable abbrev sR:List Str:=["bits","mask","bit"]
noncomputable def BK:{b:List Stmt // aK mq=b}:=⟨_,by conv=>lhs;whnf⟩
noncomputable def vh:{b:Scope // ay mq=b}:=⟨_,by conv=>lhs;whnf⟩
theorem pL:aT sR ["bits"] vh.1:=⟨rfl,rfl,rfl,by decide+kernel,rfl,by decide+kernel,by decide+kernel⟩
def og:FS:=(mN 1 (e2 eT (e2 zp (ae 1) (eC (.int 2))) (ae 2)))
def xW:FS:=(eZ (mN 1 (eC (.int 0))) (eZ (sY (Mn (ae 0)) (aI 2) og) (fO (ae 1))))
def iF:List D->R D:=tV sR xW
theorem FI(T:Tp K mg cl)(h:Def K mg "mask_of" mq):Callee P w K mg base 1 "mask_of" 1 iF:=by
 obtain⟨f,fd,F,hm⟩:=h;exact⟨f,fd,_,bZ (k:=0) BK.2 vh.2 F pL (fun dF A outer s H E hr=>(bf (dJ pL.nd rfl (Or.inl rfl) af) (bf (g7 PassesOwn.never rfl (Ig (aa 0) rfl T.z_reversed) (aQ pL.nd rfl (Or.inl rfl)) (aV (dJ pL.nd rfl (Or.inl rfl) (aw d7 (aw xw (aa 1) af) (aa 2))))) (aV (bC (aa 1)))))),hm,F.kp,F.binds fun _ _ _ _ _ _ us hl=>match us,hl with | [_],_=>rfl⟩
abbrev mE:Stmt:=top 12
noncomputable abbrev sS:List Str:=["inputs","place"]
noncomputable def B5:{b:List Stmt // aK mE=b}:=⟨_,by conv=>lhs;whnf⟩
noncomputable def qE:{b:Scope // ay mE=b}:=⟨_,by conv=>lhs;whnf⟩
theorem F0:aT sS ["inputs","place"] qE.1:=⟨rfl,rfl,rfl,by decide+kernel,rfl,by decide+kernel,by decide+kernel⟩
def xK:FS:=(fO (aS iF (ak (eNew (cO (cq (ae 0)) (aI 0) j4 (e2 cn (ae 0) (ae 1)) ["bits"] [1])) aJ)))
def mD:List D->R D:=tV sS xK
theorem EO(T:Tp K mg cl)(h:Def K mg "in_mask" mE)(j8:Callee P w K mg base 1 "mask_of" 1 iF):Callee P w K mg base 2 "in_mask" 2 mD:=by
 obtain⟨f,fd,F,hm⟩:=h;exact⟨f,fd,_,bZ (k:=1) B5.2 qE.2 F F0 (fun dF A outer s H E hr=>(aV (bC (bo j8 hr (by decide) rfl (ab (bt (cx rfl (bz.of (own:=["bits"]) (kp:=[1]) (kn:=["place"]) (sc:=qE.1) (N:=sS) rfl rfl (by decide+kernel)) (br (aa 0)) (fun _ _ _=>(aQ (show List.Nodup [(Str.ofString "bits"),"place"] from by decide+kernel) rfl (Or.inl rfl))) (fun _ _ _=>dq) (fun _ _ _=>(aC (aa 0) (aa 1) (fun _ _=>rfl))))) ag) (aG bH))))),hm,F.kp,F.binds fun _ _ _ _ _ _ us hl=>match us,hl with | [_,_],_=>rfl⟩
abbrev mC:Stmt:=top 15
noncomputable abbrev ma:List Str:=["places","size","found","ahead","place","rest"]
noncomputable def C8:{b:List Stmt // aK mC=b}:=⟨_,by conv=>lhs;whnf⟩
noncomputable def uO:{b:Scope // ay mC=b}:=⟨_,by conv=>lhs;whnf⟩
theorem l9:aT ma ["places","size"] uO.1:=⟨rfl,rfl,rfl,by decide+kernel,rfl,by decide+kernel,by decide+kernel⟩
def oQ(self:List D->R D):FS:=(zW 2 (e2 iz (d5 (ak (ae 4) aJ)) (ae 5)))
def n8(self:List D->R D):FS:=(sY (cq (aS self (ak (Rj (ae 0) (vk (e2 iz (ae 3) (eC (.int 1)))) Bm) (ak (e2 qZ (ae 1) (eC (.int 1))) aJ)))) (aI 5) (oQ self))
def me(self:List D->R D):FS:=(eZ (A4 (b2 lA (ae 1) (eC (.int 0))) (fO (eNew (d_ (ak (d5 aJ) aJ)))) uq) (eZ (AI 2 (d_ aJ)) (eZ (sY (fN (ae 0)) (iu 2 (cc (aI 3) (cc (aI 4) iy))) (n8 self)) (EW 2 (fO (ae 2))))))
def dt:Nat->List D->R D
 | 0=>fun _=> .no
 | n+1=>tV ma (me (dt n))
theorem yc(T:Tp K mg cl)(h:Def K mg "choices" mC):∀n,Callee P w K mg base (1+n) "choices" 2 (dt n)
 | 0=>by
   obtain⟨f,fd,F,hm⟩:=h;exact⟨f,fd,["places","size"],Rp,hm,F.kp,F.binds fun _ _ _ _ _ _ us hl=>match us,hl with | [_,_],_=>rfl⟩
 | n+1=>by
   have O7:=yc T h n;obtain⟨f,fd,F,hm⟩:=h;exact⟨f,fd,_,bZ (k:=1+n) C8.2 uO.2 F l9 (fun dF A outer s H E hr=>(bf (ja (bx (lP hr.units) (aa 1) af (bG _)) (aV (bC (bt (bJ (ab (bA ag) ag))))) gO) (bf (uP l9.nd rfl (Or.inl rfl) (bJ ag)) (bf (g7 PassesOwn.never rfl (iK (aa 0) rfl T.z_enumerate) (kD rfl (cD (aQ l9.nd rfl (Or.inl rfl)) (cD (aQ l9.nd rfl (Or.inl rfl)) iH))) (aV (g7 PassesOwn.never rfl (br (bo O7 hr (by omega) rfl (ab (Nt (aa 0) (vR (aw lN (aa 3) af)) va) (ab (aw rB (aa 1) af) ag)) (aG (aG bH)))) (aQ l9.nd rfl (Or.inl rfl)) (aV (ro rfl (Or.inl rfl) (aw lN (bA (ab (aa 4) ag)) (aa 5))))))) (vb 2 (aV (bC (aa 2)))))))),hm,F.kp,F.binds fun _ _ _ _ _ _ us hl=>match us,hl with | [_,_],_=>rfl⟩
abbrev b_:Stmt:=inClass (top 13) 0
noncomputable abbrev dn:List Str:=["self","net","inputs"]
noncomputable def r9:{b:List Stmt // aK b_=b}:=⟨_,by conv=>lhs;whnf⟩
noncomputable def fg:{b:Scope // ay b_=b}:=⟨_,by conv=>lhs;whnf⟩
theorem ml:aT dn ["self","net"] fg.1:=⟨rfl,rfl,rfl,by decide+kernel,rfl,by decide+kernel,by decide+kernel⟩
def iM:FZ:=(bw (cC 2 (eQ jd (aN (xP (aS j2 (ak (e2 cn (ae 1) (eC (.int 0))) aJ))) dW))) (bw (zg 0 "net" (eO 0) (xP (ae 1))) (bw (zg 0 "many_inputs" (eO 0) (xP (aS j2 (ak (ae 2) aJ)))) (bw (zg 0 "full" (eO 0) (xP (aS iF (ak (eNew (cO (cq (ae 2)) (aI 0) j4 (eC (.int 1)) ["bits"] [])) aJ)))) (zg 0 "in_masks" (eO 0) (xP (eNew (cO (dE (aS j2 (ak (e2 cn (ae 1) (eC (.int 0))) aJ))) (aI 0) j4 (aS mD (ak (ae 1) (ak (ae 0) aJ))) ["place"] [2]))))))))
def dH:List V3->aP->R3 V3:=pJ dn iM
def Du:List V3->aP->R3 V3:=pN dn iM
theorem ei(T:Tp K mg cl)(h:Fp K (cl 0) "__init__" "Bench.__init__" b_)(j8:Callee P w K mg base 1 "mask_of" 1 iF)(tP:Callee P w K mg base 2 "in_mask" 2 mD)(l4:bp P w K mg base cl 1 "all_inputs" 1 jd):xv P w K mg base cl 3 0 "Bench" 1 dH:=by
 obtain⟨f,fd,F,hm⟩:=h;exact⟨f,fd,_,hm,bU (k:=2) r9.2 fg.2 F ml (fun dF A outer s H E hr=>(au (bh ml.nd rfl (Or.inr rfl) (cF l4 hr (by decide) rfl (ao (ah (ba ju rfl T.z_len PySem.boot_len (ab (aC (aa 1) af (fun _ _=>rfl)) ag))) bj) (aj aZ))) (au (qC T.C_Bench T.N_Bench_net (bW 0) (ah (aa 1))) (au (qC T.C_Bench T.N_Bench_many_inputs (bW 0) (ah (ba ju rfl T.z_len PySem.boot_len (ab (aa 2) ag)))) (au (qC T.C_Bench T.N_Bench_full (bW 0) (ah (bo j8 hr (by decide) rfl (ab (bt (cx rfl (bz.of (own:=["bits"]) (kp:=[]) (kn:=[]) (sc:=fg.1) (N:=dn) rfl rfl (by decide+kernel)) (br (aa 2)) (fun _ _ _=>(aQ (show List.Nodup [(Str.ofString "bits")] from by decide+kernel) rfl (Or.inl rfl))) (fun _ _ _=>dq) (fun _ _ _=>af))) ag) (aG bH)))) (aF (qC T.C_Bench T.N_Bench_in_masks (bW 0) (ah (bt (cx rfl (bz.of (own:=["place"]) (kp:=[2]) (kn:=["inputs"]) (sc:=fg.1) (N:=dn) rfl rfl (by decide+kernel)) (bK (ba ju rfl T.z_len PySem.boot_len (ab (aC (aa 1) af (fun _ _=>rfl)) ag)) rfl T.z_range) (fun _ _ _=>(aQ (show List.Nodup [(Str.ofString "place"),"inputs"] from by decide+kernel) rfl (Or.inl rfl))) (fun _ _ _=>dq) (fun _ _ _=>(bo tP hr (by decide) rfl (ab (aa 1) (ab (aa 0) ag)) (aG (aG bH)))))))))))))),T.M_Bench,F.binds fun _ _ _ _ _ _ us hl=>match us,hl with | [_,_],_=>rfl⟩
abbrev cR:Stmt:=inClass (top 13) 1
noncomputable abbrev i9:List Str:=["self","turned","bad"]
noncomputable def vK:{b:List Stmt // aK cR=b}:=⟨_,by conv=>lhs;whnf⟩
noncomputable def oa:{b:Scope // ay cR=b}:=⟨_,by conv=>lhs;whnf⟩
theorem wV:aT i9 ["self","turned","bad"] oa.1:=⟨rfl,rfl,rfl,by decide+kernel,rfl,by decide+kernel,by decide+kernel⟩
def lU:FZ:=(fP (eQ jY (aN (rT 0 "net" (eO 0)) (aN (eQ i5 (aN (rT 0 "net" (eO 0)) (aN (rT 0 "in_masks" (eO 0)) (aN (rT 0 "full" (eO 0)) (aN (xP (ae 1)) (aN (xP (ae 2)) dW)))))) dW))))
def v7:List V3->aP->R3 V3:=pJ i9 lU
def g8:List V3->aP->R3 V3:=pN i9 lU
theorem f6(T:Tp K mg cl)(h:uh K (cl 0) "tells" "Bench.tells" cR)(l3:bp P w K mg base cl 3 "wire_masks" 5 i5)(nF:bp P w K mg base cl 2 "out_masks" 2 jY):lr P w K mg base cl 4 0 "tells" 2 v7:=by
 obtain⟨f,fd,F,hm⟩:=h;exact⟨f,fd,_,T.C_Bench,hm,bU (k:=3) vK.2 oa.2 F wV (fun dF A outer s H E hr=>(aF (cy (cF nF hr (by decide) rfl (ao (jJ T.C_Bench T.N_Bench_net (bW 0)) (ao (cF l3 hr (by decide) rfl (ao (jJ T.C_Bench T.N_Bench_net (bW 0)) (ao (jJ T.C_Bench T.N_Bench_in_masks (bW 0)) (ao (jJ T.C_Bench T.N_Bench_full (bW 0)) (ao (ah (aa 1)) (ao (ah (aa 2)) bj))))) (aj (aj (aj (aj (aj aZ)))))) bj)) (aj (aj aZ)))))),F.binds fun _ _ _ _ _ _ us hl=>match us,hl with | [_,_,_],_=>rfl⟩
abbrev bY:Stmt:=inClass (top 13) 2
noncomputable abbrev et:List Str:=["self","turned"]
noncomputable def rW:{b:List Stmt // aK bY=b}:=⟨_,by conv=>lhs;whnf⟩
noncomputable def gI:{b:Scope // ay bY=b}:=⟨_,by conv=>lhs;whnf⟩
theorem tj:aT et ["self","turned"] gI.1:=⟨rfl,rfl,rfl,by decide+kernel,rfl,by decide+kernel,by decide+kernel⟩
def iA:FZ:=(fP (kB (zN (tY 0 "tells" g8 (eO 0) (aN (xP (ae 1)) (aN (xP (d5 aJ)) dW)))) (jT 0) wZ (mM mw (aN (xP (ae 0)) (aN (rT 0 "full" (eO 1)) dW))) ["masks"] [0]))
def qU:List V3->aP->R3 V3:=pJ et iA
def cW:List V3->aP->R3 V3:=pN et iA
theorem ee(T:Tp K mg cl)(h:uh K (cl 0) "readings" "Bench.readings" bY)(tL:Callee P w K mg base 2 "reading" 2 mw)(kZ:lr P w K mg base cl 4 0 "tells" 2 g8):lr P w K mg base cl 5 0 "readings" 1 qU:=by
 obtain⟨f,fd,F,hm⟩:=h;exact⟨f,fd,_,T.C_Bench,hm,bU (k:=4) rW.2 gI.2 F tj (fun dF A outer s H E hr=>(aF (cy (uI rfl (bz.of (own:=["masks"]) (kp:=[0]) (kn:=["self"]) (sc:=gI.1) (N:=et) rfl rfl (by decide+kernel)) (pM (pK kZ hr (by decide) (bW 0) (ao (ah (aa 1)) (ao (ah (bA ag)) bj)) (aj (aj aZ)))) (fun _ _ _=>(aO (show List.Nodup [(Str.ofString "masks"),"self"] from by decide+kernel) rfl (Or.inl rfl))) (fun _ _ _=>iG) (fun _ _ _=>(rC tL hr (by decide) rfl (ao (ah (aa 0)) (ao (jJ T.C_Bench T.N_Bench_full (bW 1)) bj)) (aj (aj aZ)))))))),F.binds fun _ _ _ _ _ _ us hl=>match us,hl with | [_,_],_=>rfl⟩
abbrev cj:Stmt:=inClass (top 16) 0
noncomputable abbrev d9:List Str:=["self","net"]
noncomputable def rO:{b:List Stmt // aK cj=b}:=⟨_,by conv=>lhs;whnf⟩
noncomputable def gR:{b:Scope // ay cj=b}:=⟨_,by conv=>lhs;whnf⟩
theorem sk:aT d9 ["self","net"] gR.1:=⟨rfl,rfl,rfl,by decide+kernel,rfl,by decide+kernel,by decide+kernel⟩
def iO:FZ:=(bw (zg 1 "bench" (eO 0) (AK 0 dH (aN (xP (ae 1)) dW))) (bw (zg 1 "plain" (eO 0) (tY 0 "readings" cW (rT 1 "bench" (eO 0)) (aN (xP (d5 aJ)) dW))) (zg 1 "unsure" (eO 0) (xP (eNew (cO (fN (e2 cn (ae 1) (eC (.int 1)))) (iu 2 (cc (aI 0) (cc (aI 1) iy))) (Cm (ym (e2 cn (ae 1) (eC (.int 2))))) (ae 0) ["place","gate"] []))))))
def cH:List V3->aP->R3 V3:=pJ d9 iO
def Ez:List V3->aP->R3 V3:=pN d9 iO
theorem eg(T:Tp K mg cl)(h:Fp K (cl 1) "__init__" "Trial.__init__" cj)(hV:xv P w K mg base cl 3 0 "Bench" 1 dH)(cY:lr P w K mg base cl 5 0 "readings" 1 cW):xv P w K mg base cl 6 1 "Trial" 1 cH:=by
 obtain⟨f,fd,F,hm⟩:=h;exact⟨f,fd,_,hm,bU (k:=5) rO.2 gR.2 F sk (fun dF A outer s H E hr=>(au (qC T.C_Trial T.N_Trial_bench (bW 0) (yp hV hr (by decide) rfl (ao (ah (aa 1)) bj) (aj aZ))) (au (qC T.C_Trial T.N_Trial_plain (bW 0) (pK cY hr (by decide) (jJ T.C_Trial T.N_Trial_bench (bW 0)) (ao (ah (bA ag)) bj) (aj aZ))) (aF (qC T.C_Trial T.N_Trial_unsure (bW 0) (ah (bt (cx rfl (bz.of (own:=["place","gate"]) (kp:=[]) (kn:=[]) (sc:=gR.1) (N:=d9) rfl rfl (by decide+kernel)) (iK (aC (aa 1) af (fun _ _=>rfl)) rfl T.z_enumerate) (fun _ _ _=>(kD rfl (cD (aQ (show List.Nodup [(Str.ofString "place"),"gate"] from by decide+kernel) rfl (Or.inl rfl)) (cD (aQ (show List.Nodup [(Str.ofString "place"),"gate"] from by decide+kernel) rfl (Or.inl rfl)) iH)))) (fun _ _ _=>(gL (yz (uK (aC (aa 1) af (fun _ _=>rfl)))))) (fun _ _ _=>(aa 0)))))))))),T.M_Trial,F.binds fun _ _ _ _ _ _ us hl=>match us,hl with | [_,_],_=>rfl⟩
abbrev bR:Stmt:=inClass (top 16) 1
noncomputable abbrev e8:List Str:=["self","turned","level","mask","before","after"]
noncomputable def qB:{b:List Stmt // aK bR=b}:=⟨_,by conv=>lhs;whnf⟩
noncomputable def kx:{b:Scope // ay bR=b}:=⟨_,by conv=>lhs;whnf⟩
theorem cV:aT e8 ["self","turned","level"] kx.1:=⟨rfl,rfl,rfl,by decide+kernel,rfl,by decide+kernel,by decide+kernel⟩
def jP:FZ:=(x8 (bP (b2 lA (ae 2) (eC (.str "safe")))) (cC 3 (xP (e2 JN (e2 JN (ae 3) (e2 CN (e2 cn (ae 4) (eC (.int 0))) (e2 cn (ae 5) (eC (.int 1))))) (e2 CN (e2 cn (ae 4) (eC (.int 1))) (e2 cn (ae 5) (eC (.int 0))))))) (cC 3 (xP (e2 JN (e2 JN (ae 3) (e2 Gr (e2 cn (ae 4) (eC (.int 0))) (e2 cn (ae 5) (eC (.int 0))))) (e2 Gr (e2 cn (ae 4) (eC (.int 1))) (e2 cn (ae 5) (eC (.int 1))))))))
def gM:FZ:=(bw (cC 3 (xP (eC (.int 0)))) (bw (gn (Od (rT 1 "plain" (eO 0)) (tY 0 "readings" cW (rT 1 "bench" (eO 0)) (aN (xP (ae 1)) dW))) (JS 2 (zG (jT 4) (zG (jT 5) KD))) jP) (fP (xP (ae 3)))))
def qg:List V3->aP->R3 V3:=pJ e8 gM
def cM:List V3->aP->R3 V3:=pN e8 gM
theorem dI(T:Tp K mg cl)(h:uh K (cl 1) "breaks_at" "Trial.breaks_at" bR)(cY:lr P w K mg base cl 5 0 "readings" 1 cW):lr P w K mg base cl 6 1 "breaks_at" 2 qg:=by
 obtain⟨f,fd,F,hm⟩:=h;exact⟨f,fd,_,T.C_Trial,hm,bU (k:=5) qB.2 kx.2 F cV (fun dF A outer s H E hr=>(au (bh cV.nd rfl (Or.inl rfl) (ah af)) (au (cT PassesOwn.never rfl (K8 (jJ T.C_Trial T.N_Trial_plain (bW 0)) (pK cY hr (by decide) (jJ T.C_Trial T.N_Trial_bench (bW 0)) (ao (ah (aa 1)) bj) (aj aZ)) rfl T.z_zip) (lx rfl (cB (aO cV.nd rfl (Or.inl rfl)) (cB (aO cV.nd rfl (Or.inl rfl)) jt))) (aF (jO (fF (bx (lP hr.units) (aa 2) bO (bG _))) (aF (bh cV.nd rfl (Or.inl rfl) (ah (aw Ac (aw Ac (aa 3) (aw yn (aC (aa 4) af (fun _ _=>rfl)) (aC (aa 5) af (fun _ _=>rfl)))) (aw yn (aC (aa 4) af (fun _ _=>rfl)) (aC (aa 5) af (fun _ _=>rfl))))))) (aF (bh cV.nd rfl (Or.inl rfl) (ah (aw Ac (aw Ac (aa 3) (aw Ba (aC (aa 4) af (fun _ _=>rfl)) (aC (aa 5) af (fun _ _=>rfl)))) (aw Ba (aC (aa 4) af (fun _ _=>rfl)) (aC (aa 5) af (fun _ _=>rfl)))))))))) (aF (cy (ah (aa 3))))))),F.binds fun _ _ _ _ _ _ us hl=>match us,hl with | [_,_,_],_=>rfl⟩
abbrev bS:Stmt:=inClass (top 13) 4
noncomputable abbrev dO:List Str:=["self","mask"]
noncomputable def qh:{b:List Stmt // aK bS=b}:=⟨_,by conv=>lhs;whnf⟩
noncomputable def gp:{b:Scope // ay bS=b}:=⟨_,by conv=>lhs;whnf⟩
theorem rm:aT dO ["self","mask"] gp.1:=⟨rfl,rfl,rfl,by decide+kernel,rfl,by decide+kernel,by decide+kernel⟩
def hJ:FZ:=(fP (kB (A0 (rT 0 "many_inputs" (eO 0))) (jT 0) (bP (b2 lA (aS o8 (ak (ae 1) (ak (ae 0) aJ))) (eC (.int 1)))) (xP (ae 0)) ["number"] [1]))
def qj:List V3->aP->R3 V3:=pJ dO hJ
def eK:List V3->aP->R3 V3:=pN dO hJ
theorem dQ(T:Tp K mg cl)(h:uh K (cl 0) "inputs_in" "Bench.inputs_in" bS)(wu:Callee P w K mg base 1 "bit_at" 2 o8):lr P w K mg base cl 2 0 "inputs_in" 1 qj:=by
 obtain⟨f,fd,F,hm⟩:=h;exact⟨f,fd,_,T.C_Bench,hm,bU (k:=1) qh.2 gp.2 F rm (fun dF A outer s H E hr=>(aF (cy (uI rfl (bz.of (own:=["number"]) (kp:=[1]) (kn:=["mask"]) (sc:=gp.1) (N:=dO) rfl rfl (by decide+kernel)) (BR (jJ T.C_Bench T.N_Bench_many_inputs (bW 0)) rfl T.z_range) (fun _ _ _=>(aO (show List.Nodup [(Str.ofString "number"),"mask"] from by decide+kernel) rfl (Or.inl rfl))) (fun _ _ _=>(zV (fF (bx (lP hr.units) (bo wu hr (by decide) rfl (ab (aa 1) (ab (aa 0) ag)) (aG (aG bH))) af (bG _))))) (fun _ _ _=>(ah (aa 0))))))),F.binds fun _ _ _ _ _ _ us hl=>match us,hl with | [_,_],_=>rfl⟩
abbrev q9:Stmt:=top 17
noncomputable abbrev uE:List Str:=["net","many","level","trial","size","turned","mask"]
noncomputable def HE:{b:List Stmt // aK q9=b}:=⟨_,by conv=>lhs;whnf⟩
noncomputable def A8:{b:Scope // ay q9=b}:=⟨_,by conv=>lhs;whnf⟩
theorem rA:aT uE ["net","many","level"] A8.1:=⟨rfl,rfl,rfl,by decide+kernel,rfl,by decide+kernel,by decide+kernel⟩
def sT:FZ:=(bw (cC 6 (tY 1 "breaks_at" cM (eO 3) (aN (xP (ae 5)) (aN (xP (ae 2)) dW)))) (x8 (bP (b2 EC (ae 6) (eC (.int 0)))) (fP (Nq (aN (xP (eC (.str "breaks"))) (aN (xP (ae 5)) (aN (R8 (tY 0 "inputs_in" eK (rT 1 "bench" (eO 3)) (aN (xP (ae 6)) dW)) (xP (eC (.int 0)))) dW))))) ny))
def xy:FZ:=(gn (zN (mM (dt 4) (aN (rT 1 "unsure" (eO 3)) (aN (xP (ae 4)) dW)))) (jT 5) sT)
def yB:FZ:=(bw (cC 3 (AK 1 cH (aN (xP (ae 0)) dW))) (bw (gn (iP (dE (e2 eT (ae 1) (eC (.int 1))))) (jT 4) xy) (fP (xP (d5 (ak (eC (.str "bears")) aJ))))))
def Jj:List V3->aP->R3 V3:=pJ uE yB
def oC:List V3->aP->R3 V3:=pN uE yB
theorem J9(T:Tp K mg cl)(h:Def K mg "bears" q9)(j_:Callee P w K mg base 5 "choices" 2 (dt 4))(c0:xv P w K mg base cl 6 1 "Trial" 1 cH)(cN:lr P w K mg base cl 6 1 "breaks_at" 2 cM)(gx:lr P w K mg base cl 2 0 "inputs_in" 1 eK):bp P w K mg base cl 8 "bears" 3 Jj:=by
 obtain⟨f,fd,F,hm⟩:=h;exact⟨f,fd,_,bU (k:=7) HE.2 A8.2 F rA (fun dF A outer s H E hr=>(au (bh rA.nd rfl (Or.inl rfl) (yp c0 hr (by decide) rfl (ao (ah (aa 0)) bj) (aj aZ))) (au (cT PassesOwn.never rfl (bE (bK (aw d7 (aa 1) af) rfl T.z_range)) (aO rA.nd rfl (Or.inl rfl)) (aF (cT PassesOwn.never rfl (pM (rC j_ hr (by decide) rfl (ao (jJ T.C_Trial T.N_Trial_unsure (bW 3)) (ao (ah (aa 4)) bj)) (aj (aj aZ)))) (aO rA.nd rfl (Or.inl rfl)) (au (bh rA.nd rfl (Or.inl rfl) (pK cN hr (by decide) (bW 3) (ao (ah (aa 5)) (ao (ah (aa 2)) bj)) (aj (aj aZ)))) (aF (jO (fF (bx (zZ hr.units) (aa 6) af (bG _))) (aF (cy (Nu (ao (ah bO) (ao (ah (aa 5)) (ao (Mx (pK gx hr (by decide) (jJ T.C_Trial T.N_Trial_bench (bW 3)) (ao (ah (aa 6)) bj) (aj aZ)) (ah af) (fun _ _=>rfl)) bj)))))) eM)))))) (aF (cy (ah (bA (ab bO ag)))))))),hm,F.kp,F.binds fun _ _ _ _ _ _ us hl=>match us,hl with | [_,_,_],_=>rfl⟩
abbrev mz:Stmt:=top 19
noncomputable abbrev sG:List Str:=["places","others"]
noncomputable def BM:{b:List Stmt // aK mz=b}:=⟨_,by conv=>lhs;whnf⟩
noncomputable def qt:{b:Scope // ay mz=b}:=⟨_,by conv=>lhs;whnf⟩
theorem FY:aT sG ["places","others"] qt.1:=⟨rfl,rfl,rfl,by decide+kernel,rfl,by decide+kernel,by decide+kernel⟩
def xB:FS:=(fO (aS NQ (ak (eNew (cO (cq (ae 1)) (aI 0) j4 (e2 Bk (ae 0) (ae 1)) ["place"] [0])) aJ)))
def j6:List D->R D:=tV sG xB
theorem Gd(T:Tp K mg cl)(h:Def K mg "has_all" mz):Callee P w K mg base 1 "has_all" 2 j6:=by
 obtain⟨f,fd,F,hm⟩:=h;exact⟨f,fd,_,bZ (k:=0) BM.2 qt.2 F FY (fun dF A outer s H E hr=>(aV (bC (ba (Qo rfl) rfl T.z_all PyProof.Rows.boot_all (ab (bt (cx rfl (bz.of (own:=["place"]) (kp:=[0]) (kn:=["places"]) (sc:=qt.1) (N:=sG) rfl rfl (by decide+kernel)) (br (aa 1)) (fun _ _ _=>(aQ (show List.Nodup [(Str.ofString "place"),"places"] from by decide+kernel) rfl (Or.inl rfl))) (fun _ _ _=>dq) (fun _ _ _=>(jR AD (aa 0) (aa 1) (by with_unfolding_all rfl))))) ag))))),hm,F.kp,F.binds fun _ _ _ _ _ _ us hl=>match us,hl with | [_,_],_=>rfl⟩
abbrev kj:Stmt:=top 20
noncomputable abbrev iI:List Str:=["net","many","level","trial","found","size","places"]
noncomputable def AY:{b:List Stmt // aK kj=b}:=⟨_,by conv=>lhs;whnf⟩
noncomputable def oI:{b:Scope // ay kj=b}:=⟨_,by conv=>lhs;whnf⟩
theorem kA:aT iI ["net","many","level"] oI.1:=⟨rfl,rfl,rfl,by decide+kernel,rfl,by decide+kernel,by decide+kernel⟩
def nA:FZ:=(x8 (bT (ym (aS HL (ak (eNew (cO (cq (ae 4)) (aI 0) j4 (aS j6 (ak (ae 1) (ak (ae 0) aJ))) ["others"] [6])) aJ)))) ny (x8 (Lz EC (tY 1 "breaks_at" cM (eO 3) (aN (xP (ae 6)) (aN (xP (ae 2)) dW))) (xP (eC (.int 0)))) (oY 4 (xP (ae 6))) ny))
def rQ:FZ:=(gn (zN (mM (dt 4) (aN (rT 1 "unsure" (eO 3)) (aN (xP (ae 5)) dW)))) (jT 6) nA)
def mV:FZ:=(bw (cC 3 (AK 1 cH (aN (xP (ae 0)) dW))) (bw (cC 4 (qA (d_ aJ))) (bw (gn (iP (dE (e2 eT (ae 1) (eC (.int 1))))) (jT 5) rQ) (fP (eO 4)))))
def oJ:List V3->aP->R3 V3:=pJ iI mV
def gB:List V3->aP->R3 V3:=pN iI mV
theorem C9(T:Tp K mg cl)(h:Def K mg "breaking" kj)(j_:Callee P w K mg base 5 "choices" 2 (dt 4))(tI:Callee P w K mg base 1 "has_all" 2 j6)(c0:xv P w K mg base cl 6 1 "Trial" 1 cH)(cN:lr P w K mg base cl 6 1 "breaks_at" 2 cM):bp P w K mg base cl 8 "breaking" 3 oJ:=by
 obtain⟨f,fd,F,hm⟩:=h;exact⟨f,fd,_,bU (k:=7) AY.2 oI.2 F kA (fun dF A outer s H E hr=>(au (bh kA.nd rfl (Or.inl rfl) (yp c0 hr (by decide) rfl (ao (ah (aa 0)) bj) (aj aZ))) (au (bh kA.nd rfl (Or.inl rfl) (iJ (bJ ag))) (au (cT PassesOwn.never rfl (bE (bK (aw d7 (aa 1) af) rfl T.z_range)) (aO kA.nd rfl (Or.inl rfl)) (aF (LL PassesOwn.never rfl (pM (rC j_ hr (by decide) rfl (ao (jJ T.C_Trial T.N_Trial_unsure (bW 3)) (ao (ah (aa 5)) bj)) (aj (aj aZ)))) (aO kA.nd rfl (Or.inr rfl)) (Jr (Au (uK (ba (Mv rfl) rfl T.z_any PyProof.Rows.boot_any (ab (bt (cx rfl (bz.of (own:=["others"]) (kp:=[6]) (kn:=["places"]) (sc:=oI.1) (N:=iI) rfl rfl (by decide+kernel)) (br (aa 4)) (fun _ _ _=>(aQ (show List.Nodup [(Str.ofString "others"),"places"] from by decide+kernel) rfl (Or.inl rfl))) (fun _ _ _=>dq) (fun _ _ _=>(bo tI hr (by decide) rfl (ab (aa 1) (ab (aa 0) ag)) (aG (aG bH)))))) ag)))) (MO (aF (jO (mT (zZ hr.units) (pK cN hr (by decide) (bW 3) (ao (ah (aa 6)) (ao (ah (aa 2)) bj)) (aj (aj aZ))) (ah af) (bG _)) (aF (jH rfl (Or.inl rfl) (ah (aa 6)))) eM))))))) (aF (cy (bW 4))))))),hm,F.kp,F.binds fun _ _ _ _ _ _ us hl=>match us,hl with | [_,_,_],_=>rfl⟩
abbrev fX:Stmt:=top 21
noncomputable abbrev gc:List Str:=["groups","taken","count","group","place"]
noncomputable def u7:{b:List Stmt // aK fX=b}:=⟨_,by conv=>lhs;whnf⟩
noncomputable def kf:{b:Scope // ay fX=b}:=⟨_,by conv=>lhs;whnf⟩
theorem eX:aT gc ["groups"] kf.1:=⟨rfl,rfl,rfl,by decide+kernel,rfl,by decide+kernel,by decide+kernel⟩
def nR:FZ:=(DY (eO 1) (xP (ae 4)) (xP (eC (.bl true))))
def nS:FZ:=(x8 (KC (Jf (mM HL (aN (kB (iP (cq (ae 3))) (jT 0) wZ (OS (xP (ae 0)) (eO 1)) ["place"] [1]) dW)))) (bw (cC 2 (xP (e2 eT (ae 2) (eC (.int 1))))) (gn (iP (cq (ae 3))) (jT 4) nR)) ny)
def lR:FZ:=(bw (cC 1 Ee) (bw (cC 2 (xP (eC (.int 0)))) (bw (gn (iP (cq (ae 0))) (jT 3) nS) (fP (xP (ae 2))))))
def vt:List V3->aP->R3 V3:=pJ gc lR
def g6:List V3->aP->R3 V3:=pN gc lR
theorem wY(T:Tp K mg cl)(h:Def K mg "count_apart" fX):bp P w K mg base cl 1 "count_apart" 1 vt:=by
 obtain⟨f,fd,F,hm⟩:=h;exact⟨f,fd,_,bU (k:=0) u7.2 kf.2 F eX (fun dF A outer s H E hr=>(au (bh eX.nd rfl (Or.inr rfl) DT) (au (bh eX.nd rfl (Or.inl rfl) (ah af)) (au (cT PassesOwn.never rfl (bE (br (aa 0))) (aO eX.nd rfl (Or.inl rfl)) (aF (jO (Dw (Bg (HI (Mv rfl) rfl T.z_any PyProof.Rows.boot_any (ao (uI rfl (bz.of (own:=["place"]) (kp:=[1]) (kn:=["taken"]) (sc:=kf.1) (N:=gc) rfl rfl (by decide+kernel)) (bE (br (aa 3))) (fun _ _ _=>(aO (show List.Nodup [(Str.ofString "place"),"taken"] from by decide+kernel) rfl (Or.inl rfl))) (fun _ _ _=>iG) (fun _ _ _=>(MR (Dm hr) (ah (aa 0)) (bW 1) (by with_unfolding_all rfl)))) bj)))) (au (bh eX.nd rfl (Or.inl rfl) (ah (aw d7 (aa 2) af))) (aF (cT PassesOwn.never rfl (bE (br (aa 3))) (aO eX.nd rfl (Or.inl rfl)) (aF (DB (Dm hr) (ah sF) (bW 1) (ah (aa 4))))))) eM))) (aF (cy (ah (aa 2)))))))),hm,F.kp,F.binds fun _ _ _ _ _ _ us hl=>match us,hl with | [_],_=>rfl⟩
abbrev oZ:Stmt:=top 22
noncomputable abbrev vC:List Str:=["group","place"]
noncomputable def Fv:{b:List Stmt // aK oZ=b}:=⟨_,by conv=>lhs;whnf⟩
noncomputable def sW:{b:Scope // ay oZ=b}:=⟨_,by conv=>lhs;whnf⟩
theorem Jk:aT vC ["group","place"] sW.1:=⟨rfl,rfl,rfl,by decide+kernel,rfl,by decide+kernel,by decide+kernel⟩
def A_:FS:=(fO (eNew (cO (cq (ae 0)) (aI 0) (b2 JT (ae 0) (ae 1)) (ae 0) ["other"] [1])))
def o7:List D->R D:=tV vC A_
theorem HW(T:Tp K mg cl)(h:Def K mg "behind" oZ):Callee P w K mg base 1 "behind" 2 o7:=by
 obtain⟨f,fd,F,hm⟩:=h;exact⟨f,fd,_,bZ (k:=0) Fv.2 sW.2 F Jk (fun dF A outer s H E hr=>(aV (bC (bt (cx rfl (bz.of (own:=["other"]) (kp:=[1]) (kn:=["place"]) (sc:=sW.1) (N:=vC) rfl rfl (by decide+kernel)) (br (aa 0)) (fun _ _ _=>(aQ (show List.Nodup [(Str.ofString "other"),"place"] from by decide+kernel) rfl (Or.inl rfl))) (fun _ _ _=>(gL (bx IT (aa 0) (aa 1) (bG _)))) (fun _ _ _=>(aa 0))))))),hm,F.kp,F.binds fun _ _ _ _ _ _ us hl=>match us,hl with | [_,_],_=>rfl⟩
abbrev fU:Stmt:=top 23
noncomputable abbrev lG:List Str:=["groups","place"]
noncomputable def u_:{b:List Stmt // aK fU=b}:=⟨_,by conv=>lhs;whnf⟩
noncomputable def ka:{b:Scope // ay fU=b}:=⟨_,by conv=>lhs;whnf⟩
theorem xl:aT lG ["groups","place"] ka.1:=⟨rfl,rfl,rfl,by decide+kernel,rfl,by decide+kernel,by decide+kernel⟩
def qd:FS:=(fO (eNew (cO (cq (ae 0)) (aI 0) (b2 sP (ae 1) (ae 0)) (aS o7 (ak (ae 0) (ak (ae 1) aJ))) ["group"] [1])))
def fT:List D->R D:=tV lG qd
theorem xm(T:Tp K mg cl)(h:Def K mg "groups_left" fU)(wz:Callee P w K mg base 1 "behind" 2 o7):Callee P w K mg base 2 "groups_left" 2 fT:=by
 obtain⟨f,fd,F,hm⟩:=h;exact⟨f,fd,_,bZ (k:=1) u_.2 ka.2 F xl (fun dF A outer s H E hr=>(aV (bC (bt (cx rfl (bz.of (own:=["group"]) (kp:=[1]) (kn:=["place"]) (sc:=ka.1) (N:=lG) rfl rfl (by decide+kernel)) (br (aa 0)) (fun _ _ _=>(aQ (show List.Nodup [(Str.ofString "group"),"place"] from by decide+kernel) rfl (Or.inl rfl))) (fun _ _ _=>(gL (bx DV (aa 1) (aa 0) (by with_unfolding_all rfl)))) (fun _ _ _=>(bo wz hr (by decide) rfl (ab (aa 0) (ab (aa 1) ag)) (aG (aG bH))))))))),hm,F.kp,F.binds fun _ _ _ _ _ _ us hl=>match us,hl with | [_,_],_=>rfl⟩
abbrev ft:Stmt:=top 24
noncomputable abbrev fD:List Str:=["groups","most","last","tried","group","place","rest"]
noncomputable def uw:{b:List Stmt // aK ft=b}:=⟨_,by conv=>lhs;whnf⟩
noncomputable def jC:{b:Scope // ay ft=b}:=⟨_,by conv=>lhs;whnf⟩
theorem dz:aT fD ["groups","most"] jC.1:=⟨rfl,rfl,rfl,by decide+kernel,rfl,by decide+kernel,by decide+kernel⟩
def mG(self:List V3->aP->R3 V3):FZ:=(x8 (bP (b2 Ua (ae 5) (ae 2))) (DY (eO 3) (xP (ae 5)) (xP (eC (.bl true)))) ny)
def mB(self:List V3->aP->R3 V3):FZ:=(gn (iP (cq (ae 4))) (jT 5) (mG self))
def mF(self:List V3->aP->R3 V3):FZ:=(bw (cC 6 (eQ self (aN (xP (aS fT (ak (ae 0) (ak (ae 5) aJ)))) (aN (xP (e2 qZ (ae 1) (eC (.int 1)))) dW)))) (x8 (bP (b2 Ab (ae 6) (eC .cu))) (fP (xP (e2 iz (d5 (ak (ae 5) aJ)) (ae 6)))) ny))
def kU(self:List V3->aP->R3 V3):FZ:=(bw (x8 (Lz JT (eQ g6 (aN (xP (ae 0)) dW)) (xP (ae 1))) (fP (xP (eC .cu))) ny) (bw (x8 (bP (Cm (ym (ae 0)))) (fP (xP (d5 aJ))) ny) (bw (cC 2 (xP (aS p9 (ak (eNew (cO (cq (ae 0)) (aI 0) j4 (e2 cn (ae 0) (Ff (eC (.int 1)))) ["group"] [])) aJ)))) (bw (cC 3 Ee) (bw (gn (iP (cq (ae 0))) (jT 4) (mB self)) (bw (gn (zN (Ct (eO 3))) (jT 5) (mF self)) (fP (xP (eC .cu)))))))))
def c_:Nat->List V3->aP->R3 V3
 | 0=>fun _ _=> .no
 | n+1=>pN fD (kU (c_ n))
theorem oE(T:Tp K mg cl)(h:Def K mg "first_places" ft)(jf:Callee P w K mg base 2 "groups_left" 2 fT)(ij:bp P w K mg base cl 1 "count_apart" 1 g6):∀n,bp P w K mg base cl (3+n) "first_places" 2 (c_ n)
 | 0=>by
   obtain⟨f,fd,F,hm⟩:=h;exact⟨f,fd,["groups","most"],Nl,hm,F.kp,F.binds fun _ _ _ _ _ _ us hl=>match us,hl with | [_,_],_=>rfl⟩
 | n+1=>by
   have L1:=oE T h jf ij n;obtain⟨f,fd,F,hm⟩:=h;exact bp.p ⟨f,fd,_,bU (k:=3+n) uw.2 jC.2 F dz (fun dF A outer s H E hr=>(au (jO (mT IT (cF ij hr (by omega) rfl (ao (ah (aa 0)) bj) (aj aZ)) (ah (aa 1)) (bG _)) (aF (cy (ah i8))) eM) (au (jO (fF (yz (uK (aa 0)))) (aF (cy (ah (bA ag)))) eM) (au (bh dz.nd rfl (Or.inl rfl) (ah (ba (y6 rfl) rfl T.z_min PyProof.Rows.boot_min (ab (bt (cx rfl (bz.of (own:=["group"]) (kp:=[]) (kn:=[]) (sc:=jC.1) (N:=fD) rfl rfl (by decide+kernel)) (br (aa 0)) (fun _ _ _=>(aQ (show List.Nodup [(Str.ofString "group")] from by decide+kernel) rfl (Or.inl rfl))) (fun _ _ _=>dq) (fun _ _ _=>(aC (aa 0) (Eg af) (fun _ _=>rfl))))) ag)))) (au (bh dz.nd rfl (Or.inl rfl) DT) (au (cT PassesOwn.never rfl (bE (br (aa 0))) (aO dz.nd rfl (Or.inl rfl)) (aF (cT PassesOwn.never rfl (bE (br (aa 4))) (aO dz.nd rfl (Or.inl rfl)) (aF (jO (fF (bx Ts (aa 5) (aa 2) (bG _))) (aF (DB (Dm hr) (ah sF) (bW 3) (ah (aa 5)))) eM))))) (au (cT PassesOwn.never rfl (pM (Ib rfl (bW 3) rfl T.z_sorted)) (aO dz.nd rfl (Or.inl rfl)) (au (bh dz.nd rfl (Or.inl rfl) (cF L1 hr (by omega) rfl (ao (ah (bo jf hr (by omega) rfl (ab (aa 0) (ab (aa 5) ag)) (aG (aG bH)))) (ao (ah (aw rB (aa 1) af)) bj)) (aj (aj aZ)))) (aF (jO (fF (bx HD (aa 6) i8 (bG _))) (aF (cy (ah (aw lN (bA (ab (aa 5) ag)) (aa 6))))) eM)))) (aF (cy (ah i8)))))))))),hm,F.kp,F.binds fun _ _ _ _ _ _ us hl=>match us,hl with | [_,_],_=>rfl⟩
abbrev oP:Stmt:=top 25
noncomputable abbrev o4:List Str:=["net","many","level","groups","most","places"]
noncomputable def ET:{b:List Stmt // aK oP=b}:=⟨_,by conv=>lhs;whnf⟩
noncomputable def sN:{b:Scope // ay oP=b}:=⟨_,by conv=>lhs;whnf⟩
theorem my:aT o4 ["net","many","level"] sN.1:=⟨rfl,rfl,rfl,by decide+kernel,rfl,by decide+kernel,by decide+kernel⟩
def qv:FZ:=(bw (cC 4 (xP (e2 eT (ae 4) (eC (.int 1))))) (cC 5 (eQ (c_ 12) (aN (xP (ae 3)) (aN (xP (ae 4)) dW)))))
def vz:FZ:=(bw (cC 3 (kB (zN (eQ gB (aN (xP (ae 0)) (aN (xP (ae 1)) (aN (xP (ae 2)) dW))))) (jT 0) wZ (xP (aS A6 (ak (ae 0) aJ))) ["places"] [])) (bw (cC 4 (xP (eC (.int 0)))) (bw (cC 5 (eQ (c_ 12) (aN (xP (ae 3)) (aN (xP (ae 4)) dW)))) (bw (BX 1000 (bP (b2 R_ (ae 5) (eC .cu))) qv) (fP (xP (ae 5)))))))
def FN:List V3->aP->R3 V3:=pJ o4 vz
def pH:List V3->aP->R3 V3:=pN o4 vz
theorem GI(T:Tp K mg cl)(h:Def K mg "surest" oP)(gC:bp P w K mg base cl 8 "breaking" 3 gB)(gg:bp P w K mg base cl 15 "first_places" 2 (c_ 12)):bp P w K mg base cl 16 "surest" 3 FN:=by
 obtain⟨f,fd,F,hm⟩:=h;exact⟨f,fd,_,bU (k:=15) ET.2 sN.2 F my (fun dF A outer s H E hr=>(au (kr rfl my.nd rfl rfl (bz.of (own:=["places"]) (kp:=[]) (kn:=[]) (sc:=sN.1) (N:=o4) rfl rfl (by decide+kernel)) (pM (cF gC hr (by decide) rfl (ao (ah (aa 0)) (ao (ah (aa 1)) (ao (ah (aa 2)) bj))) (aj (aj (aj aZ))))) (fun _ _ _=>(aO (show List.Nodup [(Str.ofString "places")] from by decide+kernel) rfl (Or.inl rfl))) (fun _ _ _=>iG) (fun _ _ _=>(ah (dc BN rfl T.z_list PyProof.Rows.boot_list (ab (aa 0) ag))))) (au (bh my.nd rfl (Or.inl rfl) (ah af)) (au (bh my.nd rfl (Or.inl rfl) (cF gg hr (by decide) rfl (ao (ah (aa 3)) (ao (ah (aa 4)) bj)) (aj (aj aZ)))) (au (Ht 1000 PassesOwn.never (fF (bx T6 (aa 5) i8 (bG _))) (au (bh my.nd rfl (Or.inl rfl) (ah (aw d7 (aa 4) af))) (aF (bh my.nd rfl (Or.inl rfl) (cF gg hr (by decide) rfl (ao (ah (aa 3)) (ao (ah (aa 4)) bj)) (aj (aj aZ))))))) (aF (cy (ah (aa 5))))))))),hm,F.kp,F.binds fun _ _ _ _ _ _ us hl=>match us,hl with | [_,_,_],_=>rfl⟩
abbrev js:Stmt:=top 26
noncomputable abbrev o3:List Str:=["net","places","gates","place","gate"]
noncomputable def yr:{b:List Stmt // aK js=b}:=⟨_,by conv=>lhs;whnf⟩
noncomputable def rj:{b:Scope // ay js=b}:=⟨_,by conv=>lhs;whnf⟩
theorem k_:aT o3 ["net","places"] rj.1:=⟨rfl,rfl,rfl,by decide+kernel,rfl,by decide+kernel,by decide+kernel⟩
def lS:FS:=(zW 2 (d5 (ak (e2 cn (ae 4) (eC (.int 0))) (ak (e2 cn (ae 4) (eC (.int 1))) (ak (Pw (e2 cn (ae 4) (eC (.int 2))) (e2 Bk (ae 3) (ae 1))) aJ)))))
def t8:FS:=(eZ (AI 2 (d_ aJ)) (eZ (sY (fN (e2 cn (ae 0) (eC (.int 1)))) (iu 2 (cc (aI 3) (cc (aI 4) iy))) lS) (EW 2 (fO (d5 (ak (aS A6 (ak (e2 cn (ae 0) (eC (.int 0))) aJ)) (ak (ae 2) (ak (aS A6 (ak (e2 cn (ae 0) (eC (.int 2))) aJ)) aJ))))))))
def fu:List D->R D:=tV o3 t8
theorem Ak(T:Tp K mg cl)(h:Def K mg "made_sure" js):Callee P w K mg base 1 "made_sure" 2 fu:=by
 obtain⟨f,fd,F,hm⟩:=h;exact⟨f,fd,_,bZ (k:=0) yr.2 rj.2 F k_ (fun dF A outer s H E hr=>(bf (uP k_.nd rfl (Or.inl rfl) (bJ ag)) (bf (g7 PassesOwn.never rfl (iK (aC (aa 0) af (fun _ _=>rfl)) rfl T.z_enumerate) (kD rfl (cD (aQ k_.nd rfl (Or.inl rfl)) (cD (aQ k_.nd rfl (Or.inl rfl)) iH))) (aV (ro rfl (Or.inl rfl) (bA (ab (aC (aa 4) af (fun _ _=>rfl)) (ab (aC (aa 4) af (fun _ _=>rfl)) (ab (Hr (aC (aa 4) af (fun _ _=>rfl)) (Es (jR AD (aa 3) (aa 1) (by with_unfolding_all rfl)))) ag))))))) (vb 2 (aV (bC (bA (ab (dc BN rfl T.z_list PyProof.Rows.boot_list (ab (aC (aa 0) af (fun _ _=>rfl)) ag)) (ab (aa 2) (ab (dc BN rfl T.z_list PyProof.Rows.boot_list (ab (aC (aa 0) af (fun _ _=>rfl)) ag)) ag)))))))))),hm,F.kp,F.binds fun _ _ _ _ _ _ us hl=>match us,hl with | [_,_],_=>rfl⟩
abbrev fS:Stmt:=top 28
noncomputable abbrev f7:List Str:=["script","k"]
noncomputable def vn:{b:List Stmt // aK fS=b}:=⟨_,by conv=>lhs;whnf⟩
noncomputable def o5:{b:Scope // ay fS=b}:=⟨_,by conv=>lhs;whnf⟩
theorem w6:aT f7 ["script","k"] o5.1:=⟨rfl,rfl,rfl,by decide+kernel,rfl,by decide+kernel,by decide+kernel⟩
def lT:FS:=(eZ (A4 (b2 Ue (ae 1) (aS j2 (ak (ae 0) aJ))) (fO (e2 cn (ae 0) (ae 1))) uq) (fO (eC (.int 0))))
def cQ:List D->R D:=tV f7 lT
theorem w_(T:Tp K mg cl)(h:Def K mg "_law_cell_at" fS):Callee P w K mg base 1 "_law_cell_at" 2 cQ:=by
 obtain⟨f,fd,F,hm⟩:=h;exact⟨f,fd,_,bZ (k:=0) vn.2 o5.2 F w6 (fun dF A outer s H E hr=>(bf (ja (bx Te (aa 1) (ba ju rfl T.z_len PySem.boot_len (ab (aa 0) ag)) (bG _)) (aV (bC (aC (aa 0) (aa 1) (fun _ _=>rfl)))) gO) (aV (bC af)))),hm,F.kp,F.binds fun _ _ _ _ _ _ us hl=>match us,hl with | [_,_],_=>rfl⟩
abbrev f9:Stmt:=top 29
noncomputable abbrev je:List Str:=["cell","many","found","rest","k","one"]
noncomputable def vP:{b:List Stmt // aK f9=b}:=⟨_,by conv=>lhs;whnf⟩
noncomputable def oy:{b:Scope // ay f9=b}:=⟨_,by conv=>lhs;whnf⟩
theorem dX:aT je ["cell","many"] oy.1:=⟨rfl,rfl,rfl,by decide+kernel,rfl,by decide+kernel,by decide+kernel⟩
def jF:FS:=(A4 (b2 TM (aS cAbs (ak (ae 0) aJ)) (e2 Of (eC (.int 10)) (eC (.int 18)))) (eZ (zW 2 (e2 jv (ae 3) (eC (.int 1009)))) (mN 3 (e2 rM (ae 3) (eC (.int 1009))))) (eZ (mN 5 (e2 jv (e2 eT (e2 jv (ae 3) (eC (.int 2147483629))) (e2 zp (e2 zp (eC (.int 7919)) (e2 eT (ae 4) (eC (.int 1)))) (e2 eT (ae 4) (eC (.int 3))))) (eC (.int 2147483629)))) (eZ (mN 5 (e2 eT (e2 jv (e2 zp (ae 5) (ae 5)) (eC (.int 2147483587))) (e2 rM (ae 5) (eC (.int 7))))) (zW 2 (e2 rM (e2 jv (e2 zp (ae 5) (eC (.int 48271))) (eC (.int 2147483647))) (eC (.int 16)))))))
def p6:FS:=(eZ (AI 2 (d_ aJ)) (eZ (mN 3 (aS cAbs (ak (ae 0) aJ))) (eZ (sY (dE (ae 1)) (aI 4) jF) (EW 2 (fO (ae 2))))))
def dk:List D->R D:=tV je p6
theorem wO(T:Tp K mg cl)(h:Def K mg "_law_numbers" f9):Callee P w K mg base 1 "_law_numbers" 2 dk:=by
 obtain⟨f,fd,F,hm⟩:=h;exact⟨f,fd,_,bZ (k:=0) vP.2 oy.2 F dX (fun dF A outer s H E hr=>(bf (uP dX.nd rfl (Or.inl rfl) (bJ ag)) (bf (dJ dX.nd rfl (Or.inl rfl) (ba Mh rfl T.z_abs PyProof.Rows.boot_abs (ab (aa 0) ag))) (bf (g7 PassesOwn.never rfl (bK (aa 1) rfl T.z_range) (aQ dX.nd rfl (Or.inl rfl)) (aV (ja (bx TY (ba Mh rfl T.z_abs PyProof.Rows.boot_abs (ab (aa 0) ag)) (aw Qw af af) (bG _)) (bf (ro rfl (Or.inl rfl) (aw fW (aa 3) af)) (aV (dJ dX.nd rfl (Or.inl rfl) (aw sL (aa 3) af)))) (bf (dJ dX.nd rfl (Or.inl rfl) (aw fW (aw d7 (aw fW (aa 3) af) (aw xw (aw xw af (aw d7 (aa 4) af)) (aw d7 (aa 4) af))) af)) (bf (dJ dX.nd rfl (Or.inl rfl) (aw d7 (aw fW (aw xw (aa 5) (aa 5)) af) (aw sL (aa 5) af))) (aV (ro rfl (Or.inl rfl) (aw sL (aw fW (aw xw (aa 5) af) af) af)))))))) (vb 2 (aV (bC (aa 2)))))))),hm,F.kp,F.binds fun _ _ _ _ _ _ us hl=>match us,hl with | [_,_],_=>rfl⟩
abbrev kR:Stmt:=top 30
noncomputable abbrev vq:List Str:=["number"]
noncomputable def zP:{b:List Stmt // aK kR=b}:=⟨_,by conv=>lhs;whnf⟩
noncomputable def t5:{b:Scope // ay kR=b}:=⟨_,by conv=>lhs;whnf⟩
theorem Cs:aT vq ["number"] t5.1:=⟨rfl,rfl,rfl,by decide+kernel,rfl,by decide+kernel,by decide+kernel⟩
def v8:FS:=(fO (e2 cn (eNew (d_ (ak (d5 (ak (eC (.str "and")) (ak (eC (.int 2)) aJ))) (ak (d5 (ak (eC (.str "or")) (ak (eC (.int 2)) aJ))) (ak (d5 (ak (eC (.str "xor")) (ak (eC (.int 2)) aJ))) (ak (d5 (ak (eC (.str "not")) (ak (eC (.int 1)) aJ))) (ak (d5 (ak (eC (.str "vote")) (ak (eC (.int 3)) aJ))) (ak (d5 (ak (eC (.str "and")) (ak (eC (.int 2)) aJ))) (ak (d5 (ak (eC (.str "xor")) (ak (eC (.int 2)) aJ))) aJ))))))))) (e2 jv (ae 0) (eC (.int 7)))))
def ky:List D->R D:=tV vq v8
theorem Ce(T:Tp K mg cl)(h:Def K mg "_law_kind" kR):Callee P w K mg base 1 "_law_kind" 1 ky:=by
 obtain⟨f,fd,F,hm⟩:=h;exact⟨f,fd,_,bZ (k:=0) zP.2 t5.2 F Cs (fun dF A outer s H E hr=>(aV (bC (aC (bt (bJ (ab (bA (ab bO (ab af ag))) (ab (bA (ab bO (ab af ag))) (ab (bA (ab bO (ab af ag))) (ab (bA (ab bO (ab af ag))) (ab (bA (ab bO (ab af ag))) (ab (bA (ab bO (ab af ag))) (ab (bA (ab bO (ab af ag))) ag))))))))) (aw fW (aa 0) af) (fun _ _=>rfl))))),hm,F.kp,F.binds fun _ _ _ _ _ _ us hl=>match us,hl with | [_],_=>rfl⟩
abbrev jj:Stmt:=top 31
noncomputable abbrev k7:List Str:=["script","first","many","wires","gates","k","numbers","kind","count","some","j","near"]
noncomputable def zt:{b:List Stmt // aK jj=b}:=⟨_,by conv=>lhs;whnf⟩
noncomputable def rS:{b:Scope // ay jj=b}:=⟨_,by conv=>lhs;whnf⟩
theorem dm:aT k7 ["script","first","many","wires"] rS.1:=⟨rfl,rfl,rfl,by decide+kernel,rfl,by decide+kernel,by decide+kernel⟩
def lO:FZ:=(bw (cC 11 (xP (e2 cn (eNew (d_ (ak (e2 jv (e2 rM (e2 cn (ae 6) (e2 eT (eC (.int 1)) (ae 10))) (eC (.int 2))) (aS p9 (ak (eC (.int 4)) (ak (ae 3) aJ)))) (ak (e2 jv (e2 rM (e2 cn (ae 6) (e2 eT (eC (.int 1)) (ae 10))) (eC (.int 2))) (ae 3)) aJ)))) (e2 jv (e2 cn (ae 6) (e2 eT (eC (.int 1)) (ae 10))) (eC (.int 2)))))) (oY 9 (xP (e2 qZ (e2 qZ (ae 3) (eC (.int 1))) (ae 11)))))
def pV:FZ:=(bw (cC 6 (xP (aS dk (ak (aS cQ (ak (ae 0) (ak (e2 eT (ae 1) (ae 5)) aJ))) (ak (eC (.int 6)) aJ))))) (bw (OG (xP (aS ky (ak (e2 cn (ae 6) (eC (.int 0))) aJ))) (JS 2 (zG (jT 7) (zG (jT 8) KD)))) (bw (cC 9 (qA (d_ aJ))) (bw (gn (iP (dE (ae 8))) (jT 10) lO) (bw (oY 4 (xT (d5 (ak (ae 7) (ak (aS oK (ak (ae 9) aJ)) (ak (e2 lA (e2 jv (e2 cn (ae 6) (eC (.int 4))) (eC (.int 6))) (eC (.int 0))) aJ)))))) (cC 3 (xP (e2 eT (ae 3) (eC (.int 1))))))))))
def oO:FZ:=(bw (cC 4 (qA (d_ aJ))) (bw (gn (iP (dE (ae 2))) (jT 5) pV) (zq 4 (fP (xP (ae 4))))))
def yq:List V3->aP->R3 V3:=pJ k7 oO
def jV:List V3->aP->R3 V3:=pN k7 oO
theorem zX(T:Tp K mg cl)(h:Def K mg "_law_gates" jj)(d3:Callee P w K mg base 1 "_law_cell_at" 2 cQ)(d4:Callee P w K mg base 1 "_law_numbers" 2 dk)(qO:Callee P w K mg base 1 "_law_kind" 1 ky):bp P w K mg base cl 2 "_law_gates" 4 yq:=by
 obtain⟨f,fd,F,hm⟩:=h;exact⟨f,fd,_,bU (k:=1) zt.2 rS.2 F dm (fun dF A outer s H E hr=>(au (bh dm.nd rfl (Or.inl rfl) (iJ (bJ ag))) (au (cT PassesOwn.never rfl (bE (bK (aa 2) rfl T.z_range)) (aO dm.nd rfl (Or.inl rfl)) (au (bh dm.nd rfl (Or.inl rfl) (ah (bo d4 hr (by decide) rfl (ab (bo d3 hr (by decide) rfl (ab (aa 0) (ab (aw d7 (aa 1) (aa 5)) ag)) (aG (aG bH))) (ab af ag)) (aG (aG bH))))) (au (NJ (ah (bo qO hr (by decide) rfl (ab (aC (aa 6) af (fun _ _=>rfl)) ag) (aG bH))) (lx rfl (cB (aO dm.nd rfl (Or.inl rfl)) (cB (aO dm.nd rfl (Or.inl rfl)) jt)))) (au (bh dm.nd rfl (Or.inl rfl) (iJ (bJ ag))) (au (cT PassesOwn.never rfl (bE (bK (aa 8) rfl T.z_range)) (aO dm.nd rfl (Or.inl rfl)) (au (bh dm.nd rfl (Or.inl rfl) (ah (aC (bt (bJ (ab (aw fW (aw sL (aC (aa 6) (aw d7 af (aa 10)) (fun _ _=>rfl)) af) (ba (y6 rfl) rfl T.z_min PyProof.Rows.boot_min (ab af (ab (aa 3) ag)))) (ab (aw fW (aw sL (aC (aa 6) (aw d7 af (aa 10)) (fun _ _=>rfl)) af) (aa 3)) ag)))) (aw fW (aC (aa 6) (aw d7 af (aa 10)) (fun _ _=>rfl)) af) (fun _ _=>rfl)))) (aF (jH rfl (Or.inl rfl) (ah (aw rB (aw rB (aa 3) af) (aa 11))))))) (au (jH rfl (Or.inl rfl) (uJ (bA (ab (aa 7) (ab (dc rV rfl T.z_tuple PyProof.Rows.boot_tuple (ab (aa 9) ag)) (ab (jR (lP hr.units) (aw fW (aC (aa 6) af (fun _ _=>rfl)) af) af (bG _)) ag)))))) (aF (bh dm.nd rfl (Or.inl rfl) (ah (aw d7 (aa 3) af)))))))))) (rh 4 (aF (cy (ah (aa 4)))))))),hm,F.kp,F.binds fun _ _ _ _ _ _ us hl=>match us,hl with | [_,_,_,_],_=>rfl⟩
abbrev ki:Stmt:=top 32
noncomputable abbrev iE:List Str:=["net","bits","turned","bad","wires","bit","one","place","gate","some","found"]
noncomputable def Bc:{b:List Stmt // aK ki=b}:=⟨_,by conv=>lhs;whnf⟩
noncomputable def k8:{b:Scope // ay ki=b}:=⟨_,by conv=>lhs;whnf⟩
theorem du:aT iE ["net","bits","turned","bad"] k8.1:=⟨rfl,rfl,rfl,by decide+kernel,rfl,by decide+kernel,by decide+kernel⟩
def qW:FZ:=(cC 4 (NN (eO 4) (xP (eNew (I_ (d_ (ak (ae 5) aJ)) (e2 cn (ae 6) (eC (.int 1))))))))
def mO:FZ:=(bw (cC 9 (kB (iP (cq (e2 cn (ae 8) (eC (.int 1))))) (jT 0) wZ (xT (e2 cn (ae 1) (ae 0))) ["wire"] [4])) (bw (cC 10 (yw ["and","or","xor","not"] (ak (aS p9 (ak (ae 9) aJ)) (ak (aS DW (ak (ae 9) aJ)) (ak (e2 jv (aS pW (ak (ae 9) aJ)) (eC (.int 2))) (ak (e2 qZ (eC (.int 1)) (e2 cn (ae 9) (eC (.int 0)))) aJ)))))) (bw (cC 5 (A5 10 (e2 cn (ae 8) (eC (.int 0))) (aS qV (ak (e2 JT (aS pW (ak (ae 9) aJ)) (eC (.int 1))) aJ)))) (oY 4 (xP (e2 jv (e2 eT (ae 5) (aS qV (ak (e2 Bk (ae 7) (ae 2)) aJ))) (eC (.int 2))))))))
def qH:FZ:=(bw (cC 4 (qA (d_ aJ))) (bw (gn (iP (Ef (ae 1) (e2 cn (ae 0) (eC (.int 0))))) (JS 2 (zG (jT 5) (zG (jT 6) KD))) qW) (bw (cC 4 (xH (cO (fN (ae 4)) (iu 2 (cc (aI 0) (cc (aI 1) iy))) j4 (e2 jv (e2 eT (ae 1) (aS qV (ak (e2 Bk (ae 0) (ae 2)) aJ))) (eC (.int 2))) ["k","bit"] [3]))) (bw (gn (iP (fN (e2 cn (ae 0) (eC (.int 1))))) (JS 2 (zG (jT 7) (zG (jT 8) KD))) mO) (fP (eO 4))))))
def z7:List V3->aP->R3 V3:=pJ iE qH
def ll:List V3->aP->R3 V3:=pN iE qH
theorem Cb(T:Tp K mg cl)(h:Def K mg "_law_told" ki):bp P w K mg base cl 1 "_law_told" 4 z7:=by
 obtain⟨f,fd,F,hm⟩:=h;exact⟨f,fd,_,bU (k:=0) Bc.2 k8.2 F du (fun dF A outer s H E hr=>(au (bh du.nd rfl (Or.inr rfl) (iJ (bJ ag))) (au (cT PassesOwn.never rfl (bE (Bs (aa 1) (aC (aa 0) af (fun _ _=>rfl)) rfl T.z_zip)) (lx rfl (cB (aO du.nd rfl (Or.inl rfl)) (cB (aO du.nd rfl (Or.inl rfl)) jt))) (aF (bh du.nd rfl (Or.inr rfl) (NG (bW 4) (ah (bt (DU (bJ (ab (aa 5) ag)) (aC (aa 6) af (fun _ _=>rfl))))))))) (au (bh du.nd rfl (Or.inr rfl) (KJ (cx rfl (bz.of (own:=["k","bit"]) (kp:=[3]) (kn:=["bad"]) (sc:=k8.1) (N:=iE) rfl rfl (by decide+kernel)) (iK (aa 4) rfl T.z_enumerate) (fun _ _ _=>(kD rfl (cD (aQ (show List.Nodup [(Str.ofString "k"),"bit","bad"] from by decide+kernel) rfl (Or.inl rfl)) (cD (aQ (show List.Nodup [(Str.ofString "k"),"bit","bad"] from by decide+kernel) rfl (Or.inl rfl)) iH)))) (fun _ _ _=>dq) (fun _ _ _=>(aw fW (aw d7 (aa 1) (dc yZ rfl T.z_int PyProof.Rows.boot_int (ab (jR AD (aa 0) (aa 2) (by with_unfolding_all rfl)) ag))) af))))) (au (cT PassesOwn.never rfl (bE (iK (aC (aa 0) af (fun _ _=>rfl)) rfl T.z_enumerate)) (lx rfl (cB (aO du.nd rfl (Or.inl rfl)) (cB (aO du.nd rfl (Or.inl rfl)) jt))) (au (kr rfl du.nd rfl rfl (bz.of (own:=["wire"]) (kp:=[4]) (kn:=["wires"]) (sc:=k8.1) (N:=iE) rfl rfl (by decide+kernel)) (bE (br (aC (aa 8) af (fun _ _=>rfl)))) (fun _ _ _=>(aO (show List.Nodup [(Str.ofString "wire"),"wires"] from by decide+kernel) rfl (Or.inl rfl))) (fun _ _ _=>iG) (fun _ _ _=>(uJ (aC (aa 1) (aa 0) (fun _ _=>rfl))))) (au (bh du.nd rfl (Or.inl rfl) (Jp (q_ bO (ba (y6 rfl) rfl T.z_min PyProof.Rows.boot_min (ab (aa 9) ag)) (q_ bO (ba (NM rfl) rfl T.z_max PyProof.Rows.boot_max (ab (aa 9) ag)) (q_ bO (aw fW (ba (yu rfl) rfl T.z_sum PyProof.Rows.boot_sum (ab (aa 9) ag)) af) (q_ bO (aw rB af (aC (aa 9) af (fun _ _=>rfl))) Kn)))) rfl rfl (by simp) (by decide))) (au (bh du.nd rfl (Or.inl rfl) (Ls (Dm hr) rfl (Or.inl rfl) (aC (aa 8) af (fun _ _=>rfl)) (dc yZ rfl T.z_int PyProof.Rows.boot_int (ab (jR IT (ba (yu rfl) rfl T.z_sum PyProof.Rows.boot_sum (ab (aa 9) ag)) af (bG _)) ag)))) (aF (jH rfl (Or.inr (Or.inl rfl)) (ah (aw fW (aw d7 (aa 5) (dc yZ rfl T.z_int PyProof.Rows.boot_int (ab (jR AD (aa 7) (aa 2) (by with_unfolding_all rfl)) ag))) af)))))))) (aF (cy (bW 4)))))))),hm,F.kp,F.binds fun _ _ _ _ _ _ us hl=>match us,hl with | [_,_,_,_],_=>rfl⟩
abbrev kJ:Stmt:=top 33
noncomputable abbrev vc:List Str:=["bits"]
noncomputable def Bh:{b:List Stmt // aK kJ=b}:=⟨_,by conv=>lhs;whnf⟩
noncomputable def tW:{b:Scope // ay kJ=b}:=⟨_,by conv=>lhs;whnf⟩
theorem BQ:aT vc ["bits"] tW.1:=⟨rfl,rfl,rfl,by decide+kernel,rfl,by decide+kernel,by decide+kernel⟩
def CY:FS:=(eZ (A4 (Gb (b2 lA (aS j2 (ak (ae 0) aJ)) (eC (.int 2))) (b2 EC (e2 cn (ae 0) (eC (.int 0))) (e2 cn (ae 0) (eC (.int 1))))) (fO (eC .cu)) uq) (fO (aS qV (ak (e2 JT (e2 zp (eC (.int 2)) (aS pW (ak (ae 0) aJ))) (aS j2 (ak (ae 0) aJ))) aJ))))
def nq:List D->R D:=tV vc CY
theorem BW(T:Tp K mg cl)(h:Def K mg "_law_read" kJ):Callee P w K mg base 1 "_law_read" 1 nq:=by
 obtain⟨f,fd,F,hm⟩:=h;exact⟨f,fd,_,bZ (k:=0) Bh.2 tW.2 F BQ (fun dF A outer s H E hr=>(bf (ja (uL (zR (bx (lP hr.units) (ba ju rfl T.z_len PySem.boot_len (ab (aa 0) ag)) af (bG _)) (yf (bx (zZ hr.units) (aC (aa 0) af (fun _ _=>rfl)) (aC (aa 0) af (fun _ _=>rfl)) (bG _))))) (aV (bC i8)) gO) (aV (bC (dc yZ rfl T.z_int PyProof.Rows.boot_int (ab (jR IT (aw xw af (ba (yu rfl) rfl T.z_sum PyProof.Rows.boot_sum (ab (aa 0) ag))) (ba ju rfl T.z_len PySem.boot_len (ab (aa 0) ag)) (bG _)) ag)))))),hm,F.kp,F.binds fun _ _ _ _ _ _ us hl=>match us,hl with | [_],_=>rfl⟩
abbrev kK:Stmt:=top 34
noncomputable abbrev kO:List Str:=["net","bits","turned","bad","wires"]
noncomputable def Bf:{b:List Stmt // aK kK=b}:=⟨_,by conv=>lhs;whnf⟩
noncomputable def oU:{b:Scope // ay kK=b}:=⟨_,by conv=>lhs;whnf⟩
theorem vy:aT kO ["net","bits","turned","bad"] oU.1:=⟨rfl,rfl,rfl,by decide+kernel,rfl,by decide+kernel,by decide+kernel⟩
def qk:FZ:=(bw (cC 4 (eQ ll (aN (xP (ae 0)) (aN (xP (ae 1)) (aN (xP (ae 2)) (aN (xP (ae 3)) dW)))))) (fP (xP (eNew (cO (cq (e2 cn (ae 0) (eC (.int 2)))) (iu 2 (cc (aI 0) (cc (aI 1) iy))) j4 (aS oK (ak (eNew (cO (cq (ae 1)) (aI 0) j4 (e2 cn (ae 1) (ae 0)) ["wire"] [2])) aJ)) ["name","wired"] [4])))))
def zJ:List V3->aP->R3 V3:=pJ kO qk
def k6:List V3->aP->R3 V3:=pN kO qk
theorem C2(T:Tp K mg cl)(h:Def K mg "_law_outs" kK)(pd:bp P w K mg base cl 1 "_law_told" 4 ll):bp P w K mg base cl 2 "_law_outs" 4 zJ:=by
 obtain⟨f,fd,F,hm⟩:=h;exact⟨f,fd,_,bU (k:=1) Bf.2 oU.2 F vy (fun dF A outer s H E hr=>(au (bh vy.nd rfl (Or.inr rfl) (cF pd hr (by decide) rfl (ao (ah (aa 0)) (ao (ah (aa 1)) (ao (ah (aa 2)) (ao (ah (aa 3)) bj)))) (aj (aj (aj (aj aZ)))))) (aF (cy (ah (bt (cx rfl (bz.of (own:=["name","wired"]) (kp:=[4]) (kn:=["wires"]) (sc:=oU.1) (N:=kO) rfl rfl (by decide+kernel)) (br (aC (aa 0) af (fun _ _=>rfl))) (fun _ _ _=>(kD rfl (cD (aQ (show List.Nodup [(Str.ofString "name"),"wired","wires"] from by decide+kernel) rfl (Or.inl rfl)) (cD (aQ (show List.Nodup [(Str.ofString "name"),"wired","wires"] from by decide+kernel) rfl (Or.inl rfl)) iH)))) (fun _ _ _=>dq) (fun _ _ _=>(dc rV rfl T.z_tuple PyProof.Rows.boot_tuple (ab (bt (cx rfl (bz.of (own:=["wire"]) (kp:=[2]) (kn:=["wires"]) rfl rfl rfl) (br (aa 1)) (fun _ _ _=>(aQ (show List.Nodup [(Str.ofString "wire"),"wires"] from by decide+kernel) rfl (Or.inl rfl))) (fun _ _ _=>dq) (fun _ _ _=>(aC (aa 1) (aa 0) (fun _ _=>rfl))))) ag)))))))))),hm,F.kp,F.binds fun _ _ _ _ _ _ us hl=>match us,hl with | [_,_,_,_],_=>rfl⟩
abbrev kM:Stmt:=top 35
noncomputable abbrev nk:List Str:=["net","number","many"]
noncomputable def Ao:{b:List Stmt // aK kM=b}:=⟨_,by conv=>lhs;whnf⟩
noncomputable def oV:{b:Scope // ay kM=b}:=⟨_,by conv=>lhs;whnf⟩
theorem vS:aT nk ["net","number"] oV.1:=⟨rfl,rfl,rfl,by decide+kernel,rfl,by decide+kernel,by decide+kernel⟩
def vv:FS:=(eZ (mN 2 (aS j2 (ak (e2 cn (ae 0) (eC (.int 0))) aJ))) (fO (aS oK (ak (eNew (cO (dE (ae 2)) (aI 0) j4 (e2 CN (e2 Be (ae 1) (e2 qZ (e2 qZ (ae 2) (eC (.int 1))) (ae 0))) (eC (.int 1))) ["k"] [1,2])) aJ))))
def iC:List D->R D:=tV nk vv
theorem CI(T:Tp K mg cl)(h:Def K mg "_law_bits" kM):Callee P w K mg base 1 "_law_bits" 2 iC:=by
 obtain⟨f,fd,F,hm⟩:=h;exact⟨f,fd,_,bZ (k:=0) Ao.2 oV.2 F vS (fun dF A outer s H E hr=>(bf (dJ vS.nd rfl (Or.inr rfl) (ba ju rfl T.z_len PySem.boot_len (ab (aC (aa 0) af (fun _ _=>rfl)) ag))) (aV (bC (dc rV rfl T.z_tuple PyProof.Rows.boot_tuple (ab (bt (cx rfl (bz.of (own:=["k"]) (kp:=[1,2]) (kn:=["number","many"]) (sc:=oV.1) (N:=nk) rfl rfl (by decide+kernel)) (bK (aa 2) rfl T.z_range) (fun _ _ _=>(aQ (show List.Nodup [(Str.ofString "k"),"number","many"] from by decide+kernel) rfl (Or.inl rfl))) (fun _ _ _=>dq) (fun _ _ _=>(aw yn (aw MB (aa 1) (aw rB (aw rB (aa 2) af) (aa 0))) af)))) ag)))))),hm,F.kp,F.binds fun _ _ _ _ _ _ us hl=>match us,hl with | [_,_],_=>rfl⟩
abbrev gb:Stmt:=top 36
noncomputable abbrev fQ:List Str:=["net","turned","found","number"]
noncomputable def vN:{b:List Stmt // aK gb=b}:=⟨_,by conv=>lhs;whnf⟩
noncomputable def kL:{b:Scope // ay gb=b}:=⟨_,by conv=>lhs;whnf⟩
theorem lH:aT fQ ["net","turned"] kL.1:=⟨rfl,rfl,rfl,by decide+kernel,rfl,by decide+kernel,by decide+kernel⟩
def nP:FZ:=(oY 2 (kB (zN (eQ k6 (aN (xP (ae 0)) (aN (xP (aS iC (ak (ae 0) (ak (ae 3) aJ)))) (aN (xP (ae 1)) (aN (xP (d5 aJ)) dW)))))) (jT 0) wZ (xP (aS nq (ak (ae 0) aJ))) ["bits"] []))
def lJ:FZ:=(bw (cC 2 (qA (d_ aJ))) (bw (gn (iP (dE (e2 M4 (eC (.int 1)) (aS j2 (ak (e2 cn (ae 0) (eC (.int 0))) aJ))))) (jT 3) nP) (fP (eO 2))))
def vd:List V3->aP->R3 V3:=pJ fQ lJ
def fG:List V3->aP->R3 V3:=pN fQ lJ
theorem xc(T:Tp K mg cl)(h:Def K mg "_law_columns" gb)(qN:Callee P w K mg base 1 "_law_bits" 2 iC)(qJ:Callee P w K mg base 1 "_law_read" 1 nq)(pk:bp P w K mg base cl 2 "_law_outs" 4 k6):bp P w K mg base cl 3 "_law_columns" 2 vd:=by
 obtain⟨f,fd,F,hm⟩:=h;exact⟨f,fd,_,bU (k:=2) vN.2 kL.2 F lH (fun dF A outer s H E hr=>(au (bh lH.nd rfl (Or.inl rfl) (iJ (bJ ag))) (au (cT PassesOwn.never rfl (bE (bK (aw Qd af (ba ju rfl T.z_len PySem.boot_len (ab (aC (aa 0) af (fun _ _=>rfl)) ag))) rfl T.z_range)) (aO lH.nd rfl (Or.inl rfl)) (aF (jH rfl (Or.inl rfl) (uI rfl (bz.of (own:=["bits"]) (kp:=[]) (kn:=[]) (sc:=kL.1) (N:=fQ) rfl rfl (by decide+kernel)) (pM (cF pk hr (by decide) rfl (ao (ah (aa 0)) (ao (ah (bo qN hr (by decide) rfl (ab (aa 0) (ab (aa 3) ag)) (aG (aG bH)))) (ao (ah (aa 1)) (ao (ah (bA ag)) bj)))) (aj (aj (aj (aj aZ)))))) (fun _ _ _=>(aO (show List.Nodup [(Str.ofString "bits")] from by decide+kernel) rfl (Or.inl rfl))) (fun _ _ _=>iG) (fun _ _ _=>(ah (bo qJ hr (by decide) rfl (ab (aa 0) ag) (aG bH)))))))) (aF (cy (bW 2)))))),hm,F.kp,F.binds fun _ _ _ _ _ _ us hl=>match us,hl with | [_,_],_=>rfl⟩
abbrev gP:Stmt:=top 37
noncomputable abbrev r6:List Str:=["plain","other","level","number","one","two"]
noncomputable def wR:{b:List Stmt // aK gP=b}:=⟨_,by conv=>lhs;whnf⟩
noncomputable def qb:{b:Scope // ay gP=b}:=⟨_,by conv=>lhs;whnf⟩
theorem j0:aT r6 ["plain","other","level"] qb.1:=⟨rfl,rfl,rfl,by decide+kernel,rfl,by decide+kernel,by decide+kernel⟩
def kI:FS:=(A4 (Gb (b2 EC (ae 5) (ae 4)) (Mr (b2 lA (ae 2) (eC (.str "right"))) (b2 Ab (ae 5) (eC .cu)))) (fO (ae 3)) uq)
def kG:FS:=(sY (Ef (e2 cn (ae 0) (ae 3)) (e2 cn (ae 1) (ae 3))) (iu 2 (cc (aI 4) (cc (aI 5) iy))) kI)
def qY:FS:=(eZ (sY (dE (aS j2 (ak (ae 0) aJ))) (aI 3) kG) (fO (eC .cu)))
def gW:List D->R D:=tV r6 qY
theorem yo(T:Tp K mg cl)(h:Def K mg "_law_breaks" gP):Callee P w K mg base 1 "_law_breaks" 3 gW:=by
 obtain⟨f,fd,F,hm⟩:=h;exact⟨f,fd,_,bZ (k:=0) wR.2 qb.2 F j0 (fun dF A outer s H E hr=>(bf (g7 PassesOwn.never rfl (bK (ba ju rfl T.z_len PySem.boot_len (ab (aa 0) ag)) rfl T.z_range) (aQ j0.nd rfl (Or.inl rfl)) (aV (g7 PassesOwn.never rfl (Bs (aC (aa 0) (aa 3) (fun _ _=>rfl)) (aC (aa 1) (aa 3) (fun _ _=>rfl)) rfl T.z_zip) (kD rfl (cD (aQ j0.nd rfl (Or.inl rfl)) (cD (aQ j0.nd rfl (Or.inl rfl)) iH))) (aV (ja (uL (zR (bx (zZ hr.units) (aa 5) (aa 4) (bG _)) (yf (uL (Ek (bx (lP hr.units) (aa 2) bO (bG _)) (Bb (bx HD (aa 5) i8 (bG _)))))))) (aV (bC (aa 3))) gO))))) (aV (bC i8)))),hm,F.kp,F.binds fun _ _ _ _ _ _ us hl=>match us,hl with | [_,_,_],_=>rfl⟩
abbrev kl:Stmt:=top 38
noncomputable abbrev kF:List Str:=["places","many","found","layer","turn","wider","one"]
noncomputable def Ae:{b:List Stmt // aK kl=b}:=⟨_,by conv=>lhs;whnf⟩
noncomputable def oH:{b:Scope // ay kl=b}:=⟨_,by conv=>lhs;whnf⟩
theorem eJ:aT kF ["places","many"] oH.1:=⟨rfl,rfl,rfl,by decide+kernel,rfl,by decide+kernel,by decide+kernel⟩
def nv:FS:=(mN 5 (e2 iz (ae 5) (eNew (cO (cq (ae 0)) (aI 0) (Mr (b2 lA (ae 1) (d5 aJ)) (b2 JT (ae 0) (e2 cn (ae 1) (Ff (eC (.int 1)))))) (e2 iz (ae 1) (d5 (ak (ae 0) aJ))) ["place"] [6]))))
def m5:FS:=(eZ (mN 5 (eNew (d_ aJ))) (eZ (sY (cq (ae 3)) (aI 6) nv) (eZ (mN 2 (e2 iz (ae 2) (ae 5))) (mN 3 (ae 5)))))
def vX:FS:=(eZ (mN 2 (eNew (d_ (ak (d5 aJ) aJ)))) (eZ (mN 3 (eNew (d_ (ak (d5 aJ) aJ)))) (eZ (sY (dE (ae 1)) (aI 4) m5) (fO (ae 2)))))
def gu:List D->R D:=tV kF vX
theorem CZ(T:Tp K mg cl)(h:Def K mg "_law_sets" kl):Callee P w K mg base 1 "_law_sets" 2 gu:=by
 obtain⟨f,fd,F,hm⟩:=h;exact⟨f,fd,_,bZ (k:=0) Ae.2 oH.2 F eJ (fun dF A outer s H E hr=>(bf (dJ eJ.nd rfl (Or.inl rfl) (bt (bJ (ab (bA ag) ag)))) (bf (dJ eJ.nd rfl (Or.inl rfl) (bt (bJ (ab (bA ag) ag)))) (bf (g7 PassesOwn.never rfl (bK (aa 1) rfl T.z_range) (aQ eJ.nd rfl (Or.inl rfl)) (bf (dJ eJ.nd rfl (Or.inl rfl) (bt (bJ ag))) (bf (g7 PassesOwn.never rfl (br (aa 3)) (aQ eJ.nd rfl (Or.inr rfl)) (aV (dJ eJ.nd rfl (Or.inl rfl) (aw lN (aa 5) (bt (cx rfl (bz.of (own:=["place"]) (kp:=[6]) (kn:=["one"]) (sc:=oH.1) (N:=kF) rfl rfl (by decide+kernel)) (br (aa 0)) (fun _ _ _=>(aQ (show List.Nodup [(Str.ofString "place"),"one"] from by decide+kernel) rfl (Or.inl rfl))) (fun _ _ _=>(gL (uL (Ek (bx (lP hr.units) (aa 1) (bA ag) (bG _)) (Bb (bx IT (aa 0) (aC (aa 1) (Eg af) (fun _ _=>rfl)) (bG _))))))) (fun _ _ _=>(aw lN (aa 1) (bA (ab (aa 0) ag)))))))))) (bf (dJ eJ.nd rfl (Or.inl rfl) (aw lN (aa 2) (aa 5))) (aV (dJ eJ.nd rfl (Or.inl rfl) (aa 5))))))) (aV (bC (aa 2))))))),hm,F.kp,F.binds fun _ _ _ _ _ _ us hl=>match us,hl with | [_,_],_=>rfl⟩
abbrev l_:Stmt:=top 39
noncomputable abbrev j7:List Str:=["script","head","ins","k","wires","gates","outs","numbers","width","last"]
noncomputable def CD:{b:List Stmt // aK l_=b}:=⟨_,by conv=>lhs;whnf⟩
noncomputable def nj:{b:Scope // ay l_=b}:=⟨_,by conv=>lhs;whnf⟩
theorem dr:aT j7 ["script"] nj.1:=⟨rfl,rfl,rfl,by decide+kernel,rfl,by decide+kernel,by decide+kernel⟩
def t6:FZ:=(oY 2 (xP (d5 (ak (e2 eT (e2 cn (eNew (d_ (ak (eC (.str "a")) (ak (eC (.str "ab")) (ak (eC (.str "long")) aJ))))) (ae 3)) (e2 cn (eNew (d_ (ak (eC (.str "")) (ak (eC (.str "x")) aJ)))) (e2 jv (e2 cn (ae 1) (eC (.int 1))) (eC (.int 2))))) (ak (e2 eT (eC (.int 1)) (e2 jv (e2 cn (ae 1) (e2 eT (eC (.int 2)) (ae 3))) (eC (.int 3)))) aJ)))))
def oG:FZ:=(bw (cC 7 (xP (aS dk (ak (aS cQ (ak (ae 0) (ak (e2 eT (eC (.int 9)) (ae 3)) aJ))) (ak (eC (.int 4)) aJ))))) (bw (cC 8 (xP (e2 eT (eC (.int 1)) (e2 jv (e2 cn (ae 7) (eC (.int 0))) (eC (.int 3)))))) (bw (cC 9 (kB (iP (dE (ae 8))) (jT 0) wZ (xP (e2 qZ (e2 qZ (ae 1) (eC (.int 1))) (e2 jv (e2 cn (ae 2) (e2 eT (eC (.int 1)) (ae 0))) (aS p9 (ak (ae 1) (ak (eC (.int 4)) aJ)))))) ["j"] [4,7])) (bw (x8 (bP (b2 lA (e2 jv (e2 rM (e2 cn (ae 7) (eC (.int 0))) (eC (.int 3))) (eC (.int 3))) (eC (.int 0)))) (cC 9 (xP (eNew (I_ (d_ (ak (e2 cn (ae 9) (eC (.int 0))) aJ)) (ae 8))))) ny) (oY 6 (xP (d5 (ak (e2 cn (eNew (d_ (ak (eC (.str "b")) (ak (eC (.str "long")) aJ)))) (ae 3)) (ak (aS oK (ak (ae 9) aJ)) aJ)))))))))
def su:FZ:=(bw (cC 1 (xP (aS dk (ak (aS cQ (ak (ae 0) (ak (eC (.int 0)) aJ))) (ak (eC (.int 12)) aJ))))) (bw (cC 2 (qA (d_ aJ))) (bw (gn (iP (dE (e2 eT (eC (.int 1)) (e2 jv (e2 cn (ae 1) (eC (.int 0))) (eC (.int 3)))))) (jT 3) t6) (zq 2 (bw (cC 4 (xP (aS pW (ak (eNew (cO (cq (ae 2)) (aI 0) j4 (e2 cn (ae 0) (eC (.int 1))) ["one"] [])) aJ)))) (bw (cC 5 (eQ jV (aN (xP (ae 0)) (aN (xP (eC (.int 1))) (aN (xP (e2 eT (eC (.int 1)) (e2 jv (e2 cn (ae 1) (eC (.int 5))) (eC (.int 7))))) (aN (xP (ae 4)) dW)))))) (bw (cC 4 (xP (e2 eT (ae 4) (aS j2 (ak (ae 5) aJ))))) (bw (cC 6 (qA (d_ aJ))) (bw (gn (iP (dE (e2 eT (eC (.int 1)) (e2 jv (e2 cn (ae 1) (eC (.int 6))) (eC (.int 2)))))) (jT 3) oG) (zq 6 (fP (xP (d5 (ak (ae 2) (ak (ae 5) (ak (ae 6) aJ))))))))))))))))
def C_:List V3->aP->R3 V3:=pJ j7 su
def nc:List V3->aP->R3 V3:=pN j7 su
theorem Fy(T:Tp K mg cl)(h:Def K mg "_law_net" l_)(d3:Callee P w K mg base 1 "_law_cell_at" 2 cQ)(d4:Callee P w K mg base 1 "_law_numbers" 2 dk)(nJ:bp P w K mg base cl 2 "_law_gates" 4 jV):bp P w K mg base cl 3 "_law_net" 1 C_:=by
 obtain⟨f,fd,F,hm⟩:=h;exact⟨f,fd,_,bU (k:=2) CD.2 nj.2 F dr (fun dF A outer s H E hr=>(au (bh dr.nd rfl (Or.inl rfl) (ah (bo d4 hr (by decide) rfl (ab (bo d3 hr (by decide) rfl (ab (aa 0) (ab af ag)) (aG (aG bH))) (ab af ag)) (aG (aG bH))))) (au (bh dr.nd rfl (Or.inl rfl) (iJ (bJ ag))) (au (cT PassesOwn.never rfl (bE (bK (aw d7 af (aw fW (aC (aa 1) af (fun _ _=>rfl)) af)) rfl T.z_range)) (aO dr.nd rfl (Or.inl rfl)) (aF (jH rfl (Or.inl rfl) (ah (bA (ab (aw d7 (aC (bt (bJ (ab bO (ab bO (ab bO ag))))) (aa 3) (fun _ _=>rfl)) (aC (bt (bJ (ab bO (ab bO ag)))) (aw fW (aC (aa 1) af (fun _ _=>rfl)) af) (fun _ _=>rfl))) (ab (aw d7 af (aw fW (aC (aa 1) (aw d7 af (aa 3)) (fun _ _=>rfl)) af)) ag))))))) (rh 2 (au (bh dr.nd rfl (Or.inr rfl) (ah (ba (yu rfl) rfl T.z_sum PyProof.Rows.boot_sum (ab (bt (cx rfl (bz.of (own:=["one"]) (kp:=[]) (kn:=[]) (sc:=nj.1) (N:=j7) rfl rfl (by decide+kernel)) (br (aa 2)) (fun _ _ _=>(aQ (show List.Nodup [(Str.ofString "one")] from by decide+kernel) rfl (Or.inl rfl))) (fun _ _ _=>dq) (fun _ _ _=>(aC (aa 0) af (fun _ _=>rfl))))) ag)))) (au (bh dr.nd rfl (Or.inl rfl) (cF nJ hr (by decide) rfl (ao (ah (aa 0)) (ao (ah af) (ao (ah (aw d7 af (aw fW (aC (aa 1) af (fun _ _=>rfl)) af))) (ao (ah (aa 4)) bj)))) (aj (aj (aj (aj aZ)))))) (au (bh dr.nd rfl (Or.inr rfl) (ah (aw d7 (aa 4) (ba ju rfl T.z_len PySem.boot_len (ab (aa 5) ag))))) (au (bh dr.nd rfl (Or.inl rfl) (iJ (bJ ag))) (au (cT PassesOwn.never rfl (bE (bK (aw d7 af (aw fW (aC (aa 1) af (fun _ _=>rfl)) af)) rfl T.z_range)) (aO dr.nd rfl (Or.inl rfl)) (au (bh dr.nd rfl (Or.inr rfl) (ah (bo d4 hr (by decide) rfl (ab (bo d3 hr (by decide) rfl (ab (aa 0) (ab (aw d7 af (aa 3)) ag)) (aG (aG bH))) (ab af ag)) (aG (aG bH))))) (au (bh dr.nd rfl (Or.inl rfl) (ah (aw d7 af (aw fW (aC (aa 7) af (fun _ _=>rfl)) af)))) (au (kr rfl dr.nd rfl rfl (bz.of (own:=["j"]) (kp:=[4,7]) (kn:=["wires","numbers"]) (sc:=nj.1) (N:=j7) rfl rfl (by decide+kernel)) (bE (bK (aa 8) rfl T.z_range)) (fun _ _ _=>(aO (show List.Nodup [(Str.ofString "j"),"wires","numbers"] from by decide+kernel) rfl (Or.inl rfl))) (fun _ _ _=>iG) (fun _ _ _=>(ah (aw rB (aw rB (aa 1) af) (aw fW (aC (aa 2) (aw d7 af (aa 0)) (fun _ _=>rfl)) (ba (y6 rfl) rfl T.z_min PyProof.Rows.boot_min (ab (aa 1) (ab af ag)))))))) (au (jO (fF (bx (lP hr.units) (aw fW (aw sL (aC (aa 7) af (fun _ _=>rfl)) af) af) af (bG _))) (aF (bh dr.nd rfl (Or.inl rfl) (ah (bt (DU (bJ (ab (aC (aa 9) af (fun _ _=>rfl)) ag)) (aa 8)))))) eM) (aF (jH rfl (Or.inl rfl) (ah (bA (ab (aC (bt (bJ (ab bO (ab bO ag)))) (aa 3) (fun _ _=>rfl)) (ab (dc rV rfl T.z_tuple PyProof.Rows.boot_tuple (ab (aa 9) ag)) ag))))))))))) (rh 6 (aF (cy (ah (bA (ab (aa 2) (ab (aa 5) (ab (aa 6) ag)))))))))))))))))),hm,F.kp,F.binds fun _ _ _ _ _ _ us hl=>match us,hl with | [_],_=>rfl⟩
abbrev jh:Stmt:=top 40
noncomputable abbrev gz:List Str:=["net","plain","many","level","places","found","turned","inside"]
noncomputable def y4:{b:List Stmt // aK jh=b}:=⟨_,by conv=>lhs;whnf⟩
noncomputable def jX:{b:Scope // ay jh=b}:=⟨_,by conv=>lhs;whnf⟩
theorem jm:aT gz ["net","plain","many","level"] jX.1:=⟨rfl,rfl,rfl,by decide+kernel,rfl,by decide+kernel,by decide+kernel⟩
def p7:FZ:=(bw (cC 7 (xH (cO (cq (ae 5)) (aI 0) (b2 lA (eNew (cO (cq (ae 0)) (aI 0) (b2 sP (ae 0) (ae 1)) (ae 0) ["place"] [1])) (eNew (d_ aJ))) (ae 0) ["one"] [6]))) (x8 (ND (bT (b2 lA (ae 7) (eNew (d_ aJ)))) (Lz Ab (mM gW (aN (xP (ae 1)) (aN (eQ fG (aN (xP (ae 0)) (aN (xP (ae 6)) dW))) (aN (xP (ae 3)) dW)))) (xP (eC .cu)))) (oY 5 (xP (ae 6))) ny))
def oX:FZ:=(bw (cC 4 (kB (iP (dE (aS j2 (ak (e2 cn (ae 0) (eC (.int 1))) aJ)))) (jT 0) (bP (Cm (ym (e2 cn (e2 cn (e2 cn (ae 1) (eC (.int 1))) (ae 0)) (eC (.int 2)))))) (xP (ae 0)) ["k"] [0])) (bw (cC 5 (qA (d_ aJ))) (bw (gn (iP (cq (aS gu (ak (ae 4) (ak (ae 2) aJ))))) (jT 6) p7) (fP (eO 5)))))
def zk:List V3->aP->R3 V3:=pJ gz oX
def jS:List V3->aP->R3 V3:=pN gz oX
theorem z9(T:Tp K mg cl)(h:Def K mg "_law_least" jh)(i3:Callee P w K mg base 1 "_law_sets" 2 gu)(nC:Callee P w K mg base 1 "_law_breaks" 3 gW)(ic:bp P w K mg base cl 3 "_law_columns" 2 fG):bp P w K mg base cl 4 "_law_least" 4 zk:=by
 obtain⟨f,fd,F,hm⟩:=h;exact⟨f,fd,_,bU (k:=3) y4.2 jX.2 F jm (fun dF A outer s H E hr=>(au (kr rfl jm.nd rfl rfl (bz.of (own:=["k"]) (kp:=[0]) (kn:=["net"]) (sc:=jX.1) (N:=gz) rfl rfl (by decide+kernel)) (bE (bK (ba ju rfl T.z_len PySem.boot_len (ab (aC (aa 0) af (fun _ _=>rfl)) ag)) rfl T.z_range)) (fun _ _ _=>(aO (show List.Nodup [(Str.ofString "k"),"net"] from by decide+kernel) rfl (Or.inl rfl))) (fun _ _ _=>(zV (fF (yz (uK (aC (aC (aC (aa 1) af (fun _ _=>rfl)) (aa 0) (fun _ _=>rfl)) af (fun _ _=>rfl))))))) (fun _ _ _=>(ah (aa 0)))) (au (bh jm.nd rfl (Or.inl rfl) (iJ (bJ ag))) (au (cT PassesOwn.never rfl (bE (br (bo i3 hr (by decide) rfl (ab (aa 4) (ab (aa 2) ag)) (aG (aG bH))))) (aO jm.nd rfl (Or.inr rfl)) (au (Bp rfl jm.nd rfl rfl (bz.of (own:=["one"]) (kp:=[6]) (kn:=["turned"]) (sc:=jX.1) (N:=gz) rfl rfl (by decide+kernel)) (br (aa 5)) (fun _ _ _=>(aQ (show List.Nodup [(Str.ofString "one"),"turned"] from by decide+kernel) rfl (Or.inl rfl))) (fun _ _ _=>(gL (bx (lP hr.units) (bt (cx rfl (bz.of (own:=["place"]) (kp:=[1]) (kn:=["turned"]) rfl rfl rfl) (br (aa 0)) (fun _ _ _=>(aQ (show List.Nodup [(Str.ofString "place"),"turned"] from by decide+kernel) rfl (Or.inl rfl))) (fun _ _ _=>(gL (bx DV (aa 0) (aa 1) (by with_unfolding_all rfl)))) (fun _ _ _=>(aa 0)))) (bt (bJ ag)) (bG _)))) (fun _ _ _=>(aa 0))) (aF (jO (JO.pb (Kc (Au (bx (lP hr.units) (aa 7) (bt (bJ ag)) (bG _))) (IL (mT HD (rC nC hr (by decide) rfl (ao (ah (aa 1)) (ao (cF ic hr (by decide) rfl (ao (ah (aa 0)) (ao (ah (aa 6)) bj)) (aj (aj aZ))) (ao (ah (aa 3)) bj))) (aj (aj (aj aZ)))) (ah i8) (bG _))))) (aF (jH rfl (Or.inl rfl) (ah (aa 6)))) eM)))) (aF (cy (bW 5))))))),hm,F.kp,F.binds fun _ _ _ _ _ _ us hl=>match us,hl with | [_,_,_,_],_=>rfl⟩
abbrev jx:Stmt:=top 41
noncomputable abbrev ji:List Str:=["net","sets","places","choice"]
noncomputable def yM:{b:List Stmt // aK jx=b}:=⟨_,by conv=>lhs;whnf⟩
noncomputable def mW:{b:Scope // ay jx=b}:=⟨_,by conv=>lhs;whnf⟩
theorem oB:aT ji ["net","sets"] mW.1:=⟨rfl,rfl,rfl,by decide+kernel,rfl,by decide+kernel,by decide+kernel⟩
def qc:FZ:=(x8 (bP (b2 lA (eNew (cO (cq (ae 1)) (aI 0) (b2 lA (eNew (cO (cq (ae 0)) (aI 0) (b2 Bk (ae 0) (ae 1)) (ae 0) ["place"] [1])) (eNew (d_ aJ))) (ae 0) ["one"] [3])) (eNew (d_ aJ)))) (fP (xP (ae 3))) ny)
def oz:FZ:=(bw (cC 2 (qA (Ob (aS j2 (ak (e2 cn (ae 0) (eC (.int 1))) aJ))))) (zq 2 (bw (gn (iP (cq (aS gu (ak (ae 2) (ak (aS j2 (ak (ae 2) aJ)) aJ))))) (jT 3) qc) (fP (xP (eC .cu))))))
def zo:List V3->aP->R3 V3:=pJ ji oz
def j3:List V3->aP->R3 V3:=pN ji oz
theorem z6(T:Tp K mg cl)(h:Def K mg "_law_first" jx)(i3:Callee P w K mg base 1 "_law_sets" 2 gu):bp P w K mg base cl 2 "_law_first" 2 zo:=by
 obtain⟨f,fd,F,hm⟩:=h;exact⟨f,fd,_,bU (k:=1) yM.2 mW.2 F oB (fun dF A outer s H E hr=>(au (bh oB.nd rfl (Or.inl rfl) (iJ (K_ rfl (ba ju rfl T.z_len PySem.boot_len (ab (aC (aa 0) af (fun _ _=>rfl)) ag)) rfl T.z_list rfl T.z_range))) (rh 2 (au (cT PassesOwn.never rfl (bE (br (bo i3 hr (by decide) rfl (ab (aa 2) (ab (ba ju rfl T.z_len PySem.boot_len (ab (aa 2) ag)) ag)) (aG (aG bH))))) (aO oB.nd rfl (Or.inr rfl)) (aF (jO (fF (bx (lP hr.units) (bt (cx rfl (bz.of (own:=["one"]) (kp:=[3]) (kn:=["choice"]) (sc:=mW.1) (N:=ji) rfl rfl (by decide+kernel)) (br (aa 1)) (fun _ _ _=>(aQ (show List.Nodup [(Str.ofString "one"),"choice"] from by decide+kernel) rfl (Or.inl rfl))) (fun _ _ _=>(gL (bx (lP hr.units) (bt (cx rfl (bz.of (own:=["place"]) (kp:=[1]) (kn:=["choice"]) rfl rfl rfl) (br (aa 0)) (fun _ _ _=>(aQ (show List.Nodup [(Str.ofString "place"),"choice"] from by decide+kernel) rfl (Or.inl rfl))) (fun _ _ _=>(gL (bx AD (aa 0) (aa 1) (by with_unfolding_all rfl)))) (fun _ _ _=>(aa 0)))) (bt (bJ ag)) (bG _)))) (fun _ _ _=>(aa 0)))) (bt (bJ ag)) (bG _))) (aF (cy (ah (aa 3)))) eM))) (aF (cy (ah i8))))))),hm,F.kp,F.binds fun _ _ _ _ _ _ us hl=>match us,hl with | [_,_],_=>rfl⟩
abbrev jo:Stmt:=top 42
noncomputable abbrev jr:List Str:=["net","plain","many","level","sets","fewest","k","gates"]
noncomputable def y9:{b:List Stmt // aK jo=b}:=⟨_,by conv=>lhs;whnf⟩
noncomputable def nB:{b:Scope // ay jo=b}:=⟨_,by conv=>lhs;whnf⟩
theorem jn:aT jr ["net","plain","many","level"] nB.1:=⟨rfl,rfl,rfl,by decide+kernel,rfl,by decide+kernel,by decide+kernel⟩
def lD:FZ:=(x8 (Lz EC (R8 (eQ oC (aN (xP (aS fu (ak (ae 0) (ak (e2 iz (Oj (ae 5) Bm (vk (ae 6))) (Oj (ae 5) (vk (e2 iz (ae 6) (eC (.int 1)))) Bm)) aJ)))) (aN (xP (ae 2)) (aN (xP (ae 3)) dW)))) (xP (eC (.int 0)))) (xP (eC (.str "breaks")))) (fP (xP (eC (.bl false)))) ny)
def n0:FZ:=(bw (cC 4 (eQ jS (aN (xP (ae 0)) (aN (xP (ae 1)) (aN (xP (ae 2)) (aN (xP (ae 3)) dW)))))) (bw (x8 (Lz EC (eQ gB (aN (xP (ae 0)) (aN (xP (ae 2)) (aN (xP (ae 3)) dW)))) (xP (ae 4))) (fP (xP (eC (.bl false)))) ny) (bw (cC 5 (eQ pH (aN (xP (ae 0)) (aN (xP (ae 2)) (aN (xP (ae 3)) dW))))) (bw (x8 (Ug (Lz EC (xP (ae 5)) (eQ j3 (aN (xP (ae 0)) (aN (xP (ae 4)) dW)))) (Lz EC (eQ oC (aN (xP (aS fu (ak (ae 0) (ak (ae 5) aJ)))) (aN (xP (ae 2)) (aN (xP (ae 3)) dW)))) (xP (d5 (ak (eC (.str "bears")) aJ))))) (fP (xP (eC (.bl false)))) ny) (bw (gn (iP (dE (aS j2 (ak (ae 5) aJ)))) (jT 6) lD) (bw (cC 7 (kB (iP (fN (e2 cn (ae 0) (eC (.int 1))))) (JS 2 (zG (jT 0) (zG (JS 3 (zG (jT 1) (zG (jT 2) (zG (jT 3) KD)))) KD))) wZ (xP (d5 (ak (ae 1) (ak (ae 2) (ak (Pw (ae 3) (e2 Bk (ae 0) (ae 4))) aJ))))) ["k","kind","wires","sure"] [5])) (fP (xP (e2 lA (aS fu (ak (ae 0) (ak (ae 5) aJ))) (d5 (ak (e2 cn (ae 0) (eC (.int 0))) (ak (ae 7) (ak (e2 cn (ae 0) (eC (.int 2))) aJ)))))))))))))
def yt:List V3->aP->R3 V3:=pJ jr n0
def mR:List V3->aP->R3 V3:=pN jr n0
theorem Aj(T:Tp K mg cl)(h:Def K mg "_law_right" jo)(jA:Callee P w K mg base 1 "made_sure" 2 fu)(nH:bp P w K mg base cl 4 "_law_least" 4 jS)(gC:bp P w K mg base cl 8 "breaking" 3 gB)(tG:bp P w K mg base cl 16 "surest" 3 pH)(nD:bp P w K mg base cl 2 "_law_first" 2 j3)(sd:bp P w K mg base cl 8 "bears" 3 oC):bp P w K mg base cl 17 "_law_right" 4 yt:=by
 obtain⟨f,fd,F,hm⟩:=h;exact⟨f,fd,_,bU (k:=16) y9.2 nB.2 F jn (fun dF A outer s H E hr=>(au (bh jn.nd rfl (Or.inl rfl) (cF nH hr (by decide) rfl (ao (ah (aa 0)) (ao (ah (aa 1)) (ao (ah (aa 2)) (ao (ah (aa 3)) bj)))) (aj (aj (aj (aj aZ)))))) (au (jO (mT (zZ hr.units) (cF gC hr (by decide) rfl (ao (ah (aa 0)) (ao (ah (aa 2)) (ao (ah (aa 3)) bj))) (aj (aj (aj aZ)))) (ah (aa 4)) (bG _)) (aF (cy (ah sF))) eM) (au (bh jn.nd rfl (Or.inr rfl) (cF tG hr (by decide) rfl (ao (ah (aa 0)) (ao (ah (aa 2)) (ao (ah (aa 3)) bj))) (aj (aj (aj aZ))))) (au (jO (JO.pb (Nj (mT (zZ hr.units) (ah (aa 5)) (cF nD hr (by decide) rfl (ao (ah (aa 0)) (ao (ah (aa 4)) bj)) (aj (aj aZ))) (bG _)) (KH (mT (zZ hr.units) (cF sd hr (by decide) rfl (ao (ah (bo jA hr (by decide) rfl (ab (aa 0) (ab (aa 5) ag)) (aG (aG bH)))) (ao (ah (aa 2)) (ao (ah (aa 3)) bj))) (aj (aj (aj aZ)))) (ah (bA (ab bO ag))) (bG _))))) (aF (cy (ah sF))) eM) (au (cT PassesOwn.never rfl (bE (bK (ba ju rfl T.z_len PySem.boot_len (ab (aa 5) ag)) rfl T.z_range)) (aO jn.nd rfl (Or.inl rfl)) (aF (jO (mT (zZ hr.units) (Mx (cF sd hr (by decide) rfl (ao (ah (bo jA hr (by decide) rfl (ab (aa 0) (ab (aw lN (Dp (aa 5) va (vR (aa 6))) (Dp (aa 5) (vR (aw lN (aa 6) af)) va)) ag)) (aG (aG bH)))) (ao (ah (aa 2)) (ao (ah (aa 3)) bj))) (aj (aj (aj aZ)))) (ah af) (fun _ _=>rfl)) (ah bO) (bG _)) (aF (cy (ah sF))) eM))) (au (kr rfl jn.nd rfl rfl (bz.of (own:=["k","kind","wires","sure"]) (kp:=[5]) (kn:=["fewest"]) (sc:=nB.1) (N:=jr) rfl rfl (by decide+kernel)) (bE (iK (aC (aa 0) af (fun _ _=>rfl)) rfl T.z_enumerate)) (fun _ _ _=>(lx rfl (cB (aO (show List.Nodup [(Str.ofString "k"),"kind","wires","sure","fewest"] from by decide+kernel) rfl (Or.inl rfl)) (cB (lx rfl (cB (aO (show List.Nodup [(Str.ofString "k"),"kind","wires","sure","fewest"] from by decide+kernel) rfl (Or.inl rfl)) (cB (aO (show List.Nodup [(Str.ofString "k"),"kind","wires","sure","fewest"] from by decide+kernel) rfl (Or.inl rfl)) (cB (aO (show List.Nodup [(Str.ofString "k"),"kind","wires","sure","fewest"] from by decide+kernel) rfl (Or.inl rfl)) jt)))) jt)))) (fun _ _ _=>iG) (fun _ _ _=>(ah (bA (ab (aa 1) (ab (aa 2) (ab (Hr (aa 3) (Es (jR AD (aa 0) (aa 4) (by with_unfolding_all rfl)))) ag))))))) (aF (cy (ah (jR (lP hr.units) (bo jA hr (by decide) rfl (ab (aa 0) (ab (aa 5) ag)) (aG (aG bH))) (bA (ab (aC (aa 0) af (fun _ _=>rfl)) (ab (aa 7) (ab (aC (aa 0) af (fun _ _=>rfl)) ag)))) (bG _)))))))))))),hm,F.kp,F.binds fun _ _ _ _ _ _ us hl=>match us,hl with | [_,_,_,_],_=>rfl⟩
abbrev Ed:Stmt:=top 43
noncomputable abbrev t_:List Str:=["script","net","plain","many","level"]
noncomputable def Ot:{b:List Stmt // aK Ed=b}:=⟨_,by conv=>lhs;whnf⟩
noncomputable def CV:{b:Scope // ay Ed=b}:=⟨_,by conv=>lhs;whnf⟩
theorem zK:aT t_ ["script"] CV.1:=⟨rfl,rfl,rfl,by decide+kernel,rfl,by decide+kernel,by decide+kernel⟩
def Et:FZ:=(x8 (KC (Jf (eQ mR (aN (xP (ae 1)) (aN (xP (ae 2)) (aN (xP (ae 3)) (aN (xP (ae 4)) dW))))))) (fP (xP (eC (.bl false)))) ny)
def EF:FZ:=(gn (iP (cq (eNew (d_ (ak (eC (.str "right")) (ak (eC (.str "safe")) aJ)))))) (jT 4) Et)
def xI:FZ:=(bw (cC 1 (eQ nc (aN (xP (ae 0)) dW))) (bw (cC 2 (eQ fG (aN (xP (ae 1)) (aN (xP (d5 aJ)) dW)))) (bw (x8 (bP (b2 lA (eNew (cO (cq (ae 2)) (aI 0) (b2 E9 (eC .cu) (ae 0)) (ae 0) ["row"] [])) (eNew (d_ aJ)))) (gn (iP (cq (eNew (d_ (ak (eC (.int 1)) (ak (eC (.int 2)) (ak (eC (.int 3)) aJ))))))) (jT 3) EF) ny) (fP (x2 lA (xP (ae 1)) (eQ nc (aN (xP (ae 0)) dW)))))))
def S8:List V3->aP->R3 V3:=pJ t_ xI
def Ta:List V3->aP->R3 V3:=pN t_ xI
def DL:List D->R D:=Sb t_ xI
structure Cf (K:W.Frag) (mg:Zp) (cl:Zq):Prop where
 C_Bench:zF K (cl 0)
 N_Bench_net:dv K (cl 0) "net"
 N_Bench_many_inputs:dv K (cl 0) "many_inputs"
 N_Bench_full:dv K (cl 0) "full"
 N_Bench_in_masks:dv K (cl 0) "in_masks"
 M_Bench:mg "Bench"=some (.ref (cl 0))
 C_Trial:zF K (cl 1)
 N_Trial_bench:dv K (cl 1) "bench"
 N_Trial_plain:dv K (cl 1) "plain"
 N_Trial_unsure:dv K (cl 1) "unsure"
 M_Trial:mg "Trial"=some (.ref (cl 1))
 eu:Fp K (cl 0) "__init__" "Bench.__init__" b_
 gd:uh K (cl 0) "tells" "Bench.tells" cR
 eA:uh K (cl 0) "readings" "Bench.readings" bY
 eB:Fp K (cl 1) "__init__" "Trial.__init__" cj
 dS:uh K (cl 1) "breaks_at" "Trial.breaks_at" bR
 dR:uh K (cl 0) "inputs_in" "Bench.inputs_in" bS
theorem Rk{K:W.Frag}{h:Heap}{mg:Zp}(X:K.In h)(G:h.Ns mainGlobals mg){C0:Addr}{C1:Addr}{f0:Addr}{Yp XS:Option Addr}{YD:Array (Option Value)}{Yr YG XW XB VU XC:Value}{f1:Addr}{X9 X8:Option Addr}{XH:Array (Option Value)}{XM YF Yn XZ VP XX:Value}{f2:Addr}{XD XY:Option Addr}{PU:Array (Option Value)}{Yw X4 Yb Yq V9 Xp:Value}{f3:Addr}{Yc XN:Option Addr}{Yx:Array (Option Value)}{XA Xw Yf Yt V6 Ya:Value}{f4:Addr}{Ys XT:Option Addr}{XG:Array (Option Value)}{Yh X5 YA YB V2 Yv:Value}{f5:Addr}{YI X_:Option Addr}{YE:Array (Option Value)}{XJ Yl X6 Yj VT YH:Value}(UJ:PySem.W.nsIn K mainGlobals "Bench"=some (some (.ref C0)))(UB:PySem.W.plainGet K C0 Str.empty=true)(L4:PySem.W.hasDictIn K C0=true)(UA:PySem.W.plainOver K C0=true)(U2:PySem.W.findIn K (.ref C0) "__setattr__"=some (some (.builtin "object.__setattr__")))(Uw:PySem.W.makesIn K C0=true)(Uv:PySem.W.keepIn K (.ref C0)=true)(Df:PySem.W.findIn K (.ref C0) "net"=some none)(kW:PySem.W.findIn K (.ref C0) "many_inputs"=some none)(zx:PySem.W.findIn K (.ref C0) "full"=some none)(pe:PySem.W.findIn K (.ref C0) "in_masks"=some none)(UX:PySem.W.nsIn K mainGlobals "Trial"=some (some (.ref C1)))(Um:PySem.W.plainGet K C1 Str.empty=true)(UY:PySem.W.hasDictIn K C1=true)(US:PySem.W.plainOver K C1=true)(U5:PySem.W.findIn K (.ref C1) "__setattr__"=some (some (.builtin "object.__setattr__")))(Us:PySem.W.makesIn K C1=true)(Uj:PySem.W.keepIn K (.ref C1)=true)(wD:PySem.W.findIn K (.ref C1) "bench"=some none)(wC:PySem.W.findIn K (.ref C1) "plain"=some none)(tO:PySem.W.findIn K (.ref C1) "unsure"=some none)(iS:PySem.W.findIn K (.ref C0) "__init__"=some (some (.ref f0)))(iY:PySem.W.isFn K (.ref f0)=true)(iX:K.lookup f0=some ⟨Yr,Yp, .func (PySem.W.fnOf "__init__" "Bench.__init__" (gJ b_) (aK b_) (ay b_) .none YG XW XB XS VU XC),YD⟩)(ei:PySem.W.codeIn K VU "Bench.__init__"=true)(iR:PySem.W.keepIn K (.ref f0)=true)(lW:PySem.W.findIn K (.ref C0) "tells"=some (some (.ref f1)))(l6:PySem.W.isFn K (.ref f1)=true)(l7:K.lookup f1=some ⟨XM,X9, .func (PySem.W.fnOf "tells" "Bench.tells" (gJ cR) (aK cR) (ay cR) .none YF Yn XZ X8 VP XX),XH⟩)(f6:PySem.W.codeIn K VP "Bench.tells"=true)(jg:PySem.W.keepIn K (.ref f1)=true)(iQ:PySem.W.findIn K (.ref C0) "readings"=some (some (.ref f2)))(iT:PySem.W.isFn K (.ref f2)=true)(iZ:K.lookup f2=some ⟨Yw,XD, .func (PySem.W.fnOf "readings" "Bench.readings" (gJ bY) (aK bY) (ay bY) .none X4 Yb Yq XY V9 Xp),PU⟩)(ee:PySem.W.codeIn K V9 "Bench.readings"=true)(fL:PySem.W.keepIn K (.ref f2)=true)(iU:PySem.W.findIn K (.ref C1) "__init__"=some (some (.ref f3)))(iW:PySem.W.isFn K (.ref f3)=true)(i0:K.lookup f3=some ⟨XA,Yc, .func (PySem.W.fnOf "__init__" "Trial.__init__" (gJ cj) (aK cj) (ay cj) .none Xw Yf Yt XN V6 Ya),Yx⟩)(eg:PySem.W.codeIn K V6 "Trial.__init__"=true)(iV:PySem.W.keepIn K (.ref f3)=true)(hX:PySem.W.findIn K (.ref C1) "breaks_at"=some (some (.ref f4)))(ie:PySem.W.isFn K (.ref f4)=true)(ia:K.lookup f4=some ⟨Yh,Ys, .func (PySem.W.fnOf "breaks_at" "Trial.breaks_at" (gJ bR) (aK bR) (ay bR) .none X5 YA YB XT V2 Yv),XG⟩)(dI:PySem.W.codeIn K V2 "Trial.breaks_at"=true)(fk:PySem.W.keepIn K (.ref f4)=true)(h_:PySem.W.findIn K (.ref C0) "inputs_in"=some (some (.ref f5)))(ib:PySem.W.isFn K (.ref f5)=true)(ig:K.lookup f5=some ⟨XJ,YI, .func (PySem.W.fnOf "inputs_in" "Bench.inputs_in" (gJ bS) (aK bS) (ay bS) .none Yl X6 Yj X_ VT YH),YE⟩)(dQ:PySem.W.codeIn K VT "Bench.inputs_in"=true)(fm:PySem.W.keepIn K (.ref f5)=true):∃cl,Cf K mg cl:=by
 exact⟨fun n=>if n=0 then C0 else C1,⟨UB,L4,UA,U2⟩,Df,kW,zx,pe,PySem.W.mg_of X G UJ,⟨Um,UY,US,U5⟩,wD,wC,tO,PySem.W.mg_of X G UX,⟨_,_,qm (st:=b_) iX ei iR,⟨Uw,iS,iY,Uv⟩⟩,⟨_,_,qm (st:=cR) l7 f6 jg,⟨lW,l6,jg⟩⟩,⟨_,_,qm (st:=bY) iZ ee fL,⟨iQ,iT,fL⟩⟩,⟨_,_,qm (st:=cj) i0 eg iV,⟨Us,iU,iW,Uj⟩⟩,⟨_,_,qm (st:=bR) ia dI fk,⟨hX,ie,fk⟩⟩,⟨_,_,qm (st:=bS) ig dQ fm,⟨h_,ib,fm⟩⟩⟩
theorem Nf{K:W.Frag}{mg:Zp}{f:Addr}{fd:FuncData}{cl:Zq}(T:Tp K mg cl)(tJ:Def K mg "vote_of" mv)(pj:Def K mg "gate_mask" jy)(jL:Def K mg "in_wire_masks" eU)(qM:Def K mg "masks_at" kh)(nE:Def K mg "wire_masks" gZ)(pz:Def K mg "out_masks" jl)(tu:Def K mg "reading" mH)(wx:Def K mg "bit_at" n6)(nK:Def K mg "all_inputs" gY)(tH:Def K mg "mask_of" mq)(tw:Def K mg "in_mask" mE)(tM:Def K mg "choices" mC)(eu:Fp K (cl 0) "__init__" "Bench.__init__" b_)(gd:uh K (cl 0) "tells" "Bench.tells" cR)(eA:uh K (cl 0) "readings" "Bench.readings" bY)(eB:Fp K (cl 1) "__init__" "Trial.__init__" cj)(dS:uh K (cl 1) "breaks_at" "Trial.breaks_at" bR)(dR:uh K (cl 0) "inputs_in" "Bench.inputs_in" bS)(zA:Def K mg "bears" q9)(tq:Def K mg "has_all" mz)(qQ:Def K mg "breaking" kj)(l5:Def K mg "count_apart" fX)(wA:Def K mg "behind" oZ)(l0:Def K mg "groups_left" fU)(kY:Def K mg "first_places" ft)(wy:Def K mg "surest" oP)(pq:Def K mg "made_sure" js)(lY:Def K mg "_law_cell_at" fS)(lX:Def K mg "_law_numbers" f9)(qI:Def K mg "_law_kind" kR)(px:Def K mg "_law_gates" jj)(qP:Def K mg "_law_told" ki)(qK:Def K mg "_law_read" kJ)(qS:Def K mg "_law_outs" kK)(qL:Def K mg "_law_bits" kM)(lZ:Def K mg "_law_columns" gb)(nG:Def K mg "_law_breaks" gP)(qR:Def K mg "_law_sets" kl)(tF:Def K mg "_law_net" l_)(pf:Def K mg "_law_least" jh)(ph:Def K mg "_law_first" jx)(pA:Def K mg "_law_right" jo)(F:ED K "law" "law" Ed f fd):jI P w K mg base wJ 18 f fd ["script"] (IY K 1 DL):=by
 have j9:=FE (P:=P) (w:=w) (base:=base) T tJ;have o9:=Ap (P:=P) (w:=w) (base:=base) T pj j9;have fK:=um (P:=P) (w:=w) (base:=base) T jL;have XP_in_wire_masks:=fK.p;have i4:=B4 (P:=P) (w:=w) (base:=base) T qM;have XK_wire_masks:=yX (P:=P) (w:=w) (base:=base) T nE i4 o9 fK;have l3:=XK_wire_masks.p;have XK_out_masks:=Ar (P:=P) (w:=w) (base:=base) T pz i4;have nF:=XK_out_masks.p;have tL:=F7 (P:=P) (w:=w) (base:=base) T tu j9;have wu:=Jl (P:=P) (w:=w) (base:=base) T wx;have XK_all_inputs:=za (P:=P) (w:=w) (base:=base) T nK;have l4:=XK_all_inputs.p;have j8:=FI (P:=P) (w:=w) (base:=base) T tH;have tP:=EO (P:=P) (w:=w) (base:=base) T tw j8;have j_:=yc (P:=P) (w:=w) (base:=base) T tM 4;have hV:=ei (P:=P) (w:=w) (base:=base) T eu j8 tP l4;have XK_Bench_tells:=f6 (P:=P) (w:=w) (base:=base) T gd l3 nF;have kZ:=XK_Bench_tells.p;have XK_Bench_readings:=ee (P:=P) (w:=w) (base:=base) T eA tL kZ;have cY:=XK_Bench_readings.p;have c0:=eg (P:=P) (w:=w) (base:=base) T eB hV cY;have XK_Trial_breaks_at:=dI (P:=P) (w:=w) (base:=base) T dS cY;have cN:=XK_Trial_breaks_at.p;have XK_Bench_inputs_in:=dQ (P:=P) (w:=w) (base:=base) T dR wu;have gx:=XK_Bench_inputs_in.p;have XK_bears:=J9 (P:=P) (w:=w) (base:=base) T zA j_ c0 cN gx;have sd:=XK_bears.p;have tI:=Gd (P:=P) (w:=w) (base:=base) T tq;have XK_breaking:=C9 (P:=P) (w:=w) (base:=base) T qQ j_ tI c0 cN;have gC:=XK_breaking.p;have XK_count_apart:=wY (P:=P) (w:=w) (base:=base) T l5;have ij:=XK_count_apart.p;have wz:=HW (P:=P) (w:=w) (base:=base) T wA;have jf:=xm (P:=P) (w:=w) (base:=base) T l0 wz;have gg:=oE (P:=P) (w:=w) (base:=base) T kY jf ij 12;have XK_surest:=GI (P:=P) (w:=w) (base:=base) T wy gC gg;have tG:=XK_surest.p;have jA:=Ak (P:=P) (w:=w) (base:=base) T pq;have d3:=w_ (P:=P) (w:=w) (base:=base) T lY;have d4:=wO (P:=P) (w:=w) (base:=base) T lX;have qO:=Ce (P:=P) (w:=w) (base:=base) T qI;have XK_law_gates:=zX (P:=P) (w:=w) (base:=base) T px d3 d4 qO;have nJ:=XK_law_gates.p;have XK_law_told:=Cb (P:=P) (w:=w) (base:=base) T qP;have pd:=XK_law_told.p;have qJ:=BW (P:=P) (w:=w) (base:=base) T qK;have XK_law_outs:=C2 (P:=P) (w:=w) (base:=base) T qS pd;have pk:=XK_law_outs.p;have qN:=CI (P:=P) (w:=w) (base:=base) T qL;have XK_law_columns:=xc (P:=P) (w:=w) (base:=base) T lZ qN qJ pk;have ic:=XK_law_columns.p;have nC:=yo (P:=P) (w:=w) (base:=base) T nG;have i3:=CZ (P:=P) (w:=w) (base:=base) T qR;have XK_law_net:=Fy (P:=P) (w:=w) (base:=base) T tF d3 d4 nJ;have XP_law_net:=XK_law_net.p;have XK_law_least:=z9 (P:=P) (w:=w) (base:=base) T pf i3 nC ic;have nH:=XK_law_least.p;have XK_law_first:=z6 (P:=P) (w:=w) (base:=base) T ph i3;have nD:=XK_law_first.p;have XK_law_right:=Aj (P:=P) (w:=w) (base:=base) T pA jA nH gC tG nD sd;have XP_law_right:=XK_law_right.p;exact(bU (cl:=cl) (N:=t_) (F:=xI) (k:=17) Ot.2 CV.2 F zK (fun dF A outer s H E hr=>(au (bh zK.nd rfl (Or.inl rfl) (cF XP_law_net hr (by decide) rfl (ao (ah (aa 0)) bj) (aj aZ))) (au (bh zK.nd rfl (Or.inl rfl) (cF ic hr (by decide) rfl (ao (ah (aa 1)) (ao (ah (bA ag)) bj)) (aj (aj aZ)))) (au (jO (fF (bx (lP hr.units) (bt (cx rfl (bz.of (own:=["row"]) (kp:=[]) (kn:=[]) (sc:=CV.1) (N:=t_) rfl rfl (by decide+kernel)) (br (aa 2)) (fun _ _ _=>(aQ (show List.Nodup [(Str.ofString "row")] from by decide+kernel) rfl (Or.inl rfl))) (fun _ _ _=>(gL (bx Qz i8 (aa 0) (by with_unfolding_all rfl)))) (fun _ _ _=>(aa 0)))) (bt (bJ ag)) (bG _))) (aF (cT PassesOwn.never rfl (bE (br (bt (bJ (ab af (ab af (ab af ag))))))) (aO zK.nd rfl (Or.inl rfl)) (aF (cT PassesOwn.never rfl (bE (br (bt (bJ (ab bO (ab bO ag)))))) (aO zK.nd rfl (Or.inl rfl)) (aF (jO (Dw (Bg (cF XP_law_right hr (by decide) rfl (ao (ah (aa 1)) (ao (ah (aa 2)) (ao (ah (aa 3)) (ao (ah (aa 4)) bj)))) (aj (aj (aj (aj aZ))))))) (aF (cy (ah sF))) eM)))))) eM) (aF (cy (MV (lP hr.units) (ah (aa 1)) (cF XP_law_net hr (by decide) rfl (ao (ah (aa 0)) bj) (aj aZ)) (bG _))))))))).imp fun _ _ _ _ h=>MM h
end K42
end
section
namespace K42
open PySem PySem.Spec PyProof.Rows L2 L3
theorem El(ds:List D):∀n,sZ n (.lst ds)=true:=fun _=>rfl
end K42
end
section
namespace K42
open PySem PySem.Spec PyProof.Rows L2 L3 MT
theorem E8{a:D}{r:List D}:cn (.tup (a ::r)) (.int 0)= .ok a:=wt (by rw[qz (by omega) (by simp)];rfl)
theorem GZ{a b:D}{r:List D}:cn (.tup (a ::b ::r)) (.int 1)= .ok b:=wt (by rw[qz (by omega) (by simp)];rfl)
theorem Vs{a b c:D}{r:List D}:cn (.tup (a ::b ::c ::r)) (.int 2)= .ok c:=wt (by rw[qz (by omega) (by simp)];rfl)
theorem DP{N:Nat}{a b c:M}:iB [.tup [mI N a,mI N b,mI N c]]= .ok (mI N fun p=>(a p && b p) || (a p && c p) || (b p && c p)):=by
 unfold iB xC;refine cL (cv ?_);exact aq (aq (aq (aq rfl rfl E8) (aq rfl rfl GZ) (vw N a b)) (aq (aq rfl rfl E8) (aq rfl rfl Vs) (vw N a c)) (AG N _ _)) (aq (aq rfl rfl GZ) (aq rfl rfl Vs) (vw N b c)) (AG N _ _)
theorem Rq(k j:Nat)(hk:k<=4)(hj:j<=4):lA (.str (kS k)) (.str (kS j))= .ok (.bl (decide (k=j))):=by
 show R.ok (D.bl (kS k==kS j))=_;congr 2
 revert hk hj
 have:∀a∈List.range 5,∀b∈List.range 5,(kS a==kS b)=decide (a=b):=by decide+kernel
 intro hk hj;exact this k (by rw[List.mem_range];omega) j (by rw[List.mem_range];omega)
theorem LM{N kd:Nat}{xs:List M}(hk:kd<=4)(hx:xs.length=ar kd):jk [.str (kS kd), .tup (xs.map (mI N)),mI N one]= .ok (mI N fun p=>gv kd (xs.map (· p))):=by
 unfold jk t4;have q:∀j,j<=4->b2 lA (ae 0) (eC (.str (kS j))) (dD oR [.str (kS kd), .tup (xs.map (mI N)),mI N one])= .ok (decide (kd=j)):=fun j hj=>dN (a:= .str (kS kd)) (b:= .str (kS j)) rfl rfl (Rq kd j hk hj)
 have q0:=q 0 (by omega)
 have q1:=q 1 (by omega)
 have q2:=q 2 (by omega)
 have q3:=q 3 (by omega)
 match kd,hk,xs,hx with
 | 0,_,[a],_=>
   refine cL (NT.mQ (rK q0 (cv (aq (a:=mI N one) (b:=mI N a) rfl (aq rfl rfl E8) (Av N a)))))
 | 1,_,[a,b],_=>
   refine cL (bu (jQ q0 rfl) (NT.mQ (rK q1 (cv (aq (aq rfl rfl E8) (aq rfl rfl GZ) (vw N a b))))))
 | 2,_,[a,b],_=>
   refine cL (bu (jQ q0 rfl) (bu (jQ q1 rfl) (NT.mQ (rK q2 (cv (aq (aq rfl rfl E8) (aq rfl rfl GZ) (AG N a b)))))))
 | 3,_,[a,b],_=>
   refine cL (bu (jQ q0 rfl) (bu (jQ q1 rfl) (bu (jQ q2 rfl) (NT.mQ (rK q3 (cv (aq (aq rfl rfl E8) (aq rfl rfl GZ) (Dt N a b))))))))
 | 4,_,[a,b,c],_=>
   refine cL (bu (jQ q0 rfl) (bu (jQ q1 rfl) (bu (jQ q2 rfl) (bu (jQ q3 rfl) (cv (aA (ds:=[.tup [mI N a,mI N b,mI N c]]) rfl DP))))))
theorem Mz{N:Nat}{ws:List M}{ns:List Nat}(hn:∀n∈ns,n < ws.length)(hl:ns.length < 1000):gh [.lst (ws.map (mI N)), .tup (ns.map nI)]= .ok (.tup ((ns.map (wK ws)).map (mI N))):=by
 have hz:sizeLine=16777216:=sizeLine_eq;unfold gh vF;refine cL (cv (aA (ds:=[.lst ((ns.map (wK ws)).map (mI N))]) (ax (cJ (ck (ds:=ns.map nI) (sO rfl) (by rw[List.length_map];omega) ?_)) rfl) rfl))
 rw[List.map_map];exact NT.eI nI _ fun n UD=>⟨[.val (nI n), .val (.lst (ws.map (mI N)))],rfl,rfl,aq (a:= .lst (ws.map (mI N))) (b:=nI n) rfl rfl (OR (hn n UD))⟩
def BL(N:Nat)(S:aP)(JH nT UC:D)(a5 a6 a7:Option V3):DE:=[some (.d JH),some (.d nT),some (.d (mI N one)),some (.d UC),some (.loc S.length),a5,a6,a7]
theorem I0{N:Nat}{S:aP}{JH nT:D}{bad:List Int}{a5 a7:Option V3}{b:M}{ws:List M}(hl:ws.length < 10000) :
 W3 (g9 (BL N S JH nT (.tup (bad.map .int)) a5 (some (.d (mI N b))) a7) (S++[.lst (ws.map (mI N))])) fun o S1=>o= .nx (BL N S JH nT (.tup (bad.map .int)) a5 (some (.d (mI N b))) a7)/\S1=S++[SO.lst ((ws++[fun p=>b p !=bad.contains (ws.length:Int)]).map (mI N))]:=by
 have hz:sizeLine=16777216:=sizeLine_eq;unfold g9;refine nM (k:=S.length) rfl ⟨_,bg _ _⟩ (RX (d:=mI N fun p=>b p !=bad.contains (ws.length:Int)) ?_ rfl ⟨_,_,rfl,bg _ _,by rw[List.length_map];omega,rfl,?_⟩)
 .have h4:(fj (S++[.lst (ws.map (mI N))]) (BL N S JH nT (.tup (bad.map .int)) a5 (some (.d (mI N b))) a7))[4]? =some (.val (.lst (ws.map (mI N)))):=by
   unfold fj BL;show some (match res (S++[.lst (ws.map (mI N))]) (.loc S.length) with | some d=>Sl.val d | none=> .un)=_
   unfold res;rw[bg]
  refine yW (b:=bad.contains (ws.length:Int)) (dN (a:= .int ws.length) (b:= .tup (bad.map .int)) (aA (ds:=[.lst (ws.map (mI N))]) (ax (by unfold ae;rw [h4]) rfl) (by rw[sI,List.length_map])) rfl (yO _ _)) ?_
  rw[<-HR];rfl
 .rw [dA,List.map_append];rfl
theorem Al{N:Nat}{S:aP}{bD:D}{ins:Zm}{bits:List M}{bad:List Int}(hB:bD= .lst (bits.map (mI N))\/bD= .tup (bits.map (mI N)))(hb:bits.length=ins.length)(hi:ins.length < 100)(hw:∀x∈ins,x.2 < 100){Q:V3->aP->Prop}
 (h:Q (.loc S.length) (S++[.lst ((g_ ins bits bad ins.length).map (mI N))])) :
 W3 (eh [.d (.lst (ins.map inD)), .d bD, .d (mI N one), .d (.tup (bad.map .int))] S) Q:=by
 have hz:sizeLine=16777216:=sizeLine_eq;unfold eh;refine wI rfl ?_;simp only[cA,gf,List.map,List.length,List.replicate,List.cons_append,List.nil_append,Nat.reduceAdd,Nat.reduceSub];unfold jD;refine aW (bB (by simp) (mh (ds:=[]) rfl ⟨_,rfl,?_⟩))
 simp only[List.set];refine aW (d8 (ik (ds:=cm (bits.map (mI N))) (by rcases hB with rfl | rfl <;> rfl) ?_))
 have big:∀i,i<=ins.length->(g_ ins bits bad i).length<=100*i:=by
  intro i hi'
  induction i with
  | zero=>simp [g_]
  | succ i ih=>
    have ih:=ih (by omega)
    have h1:ins[i]? =some ins[i]:=List.getElem?_eq_getElem (by omega)
    have h2:bits[i]? =some bits[i]:=List.getElem?_eq_getElem (by omega)
    unfold g_;rw[h1,h2];show(lg bad bits[i] ins[i].2 (g_ ins bits bad i)).length<=_;rw[pE];have:=hw ins[i] (List.getElem_mem _);omega
 refine(bF (fun i δ S2=>(∃a b c,δ=BL N S (.lst (ins.map inD)) bD (.tup (bad.map .int)) a b c)/\S2=S++[SO.lst ((g_ ins bits bad i).map (mI N))])
  ⟨⟨_,_,_,rfl⟩,rfl⟩ ?_).mono fun o S2 ⟨cZ,fH,⟨a,b,c,hδ⟩,hS⟩=>⟨cZ,fH,?_⟩
 .rintro i v δ S2 hv ⟨⟨a,b,c,rfl⟩,rfl⟩;obtain⟨d,hd,rfl⟩:=ng hv;rw[List.getElem?_map] at hd;have hib:i < bits.length:=by
   have:=(List.getElem?_eq_some_iff.mp hv).1;simpa [cm] using this
  have h1:ins[i]? =some ins[i]:=List.getElem?_eq_getElem (by omega)
  have h2:bits[i]? =some bits[i]:=List.getElem?_eq_getElem hib;rw[h2] at hd;cases hd;refine⟨BL N S (.lst (ins.map inD)) bD (.tup (bad.map .int)) (some (.d (.int i))) (some (.d (mI N bits[i]))) c,rfl,?_⟩;unfold k9;have hwi:=hw ins[i] (List.getElem_mem _);refine d8 (ik (dM (n:=ins[i].2) ?_ (by omega)) ?_)
  .refine aq (a:=inD ins[i]) (b:= .int 1) (aq (a:= .lst (ins.map inD)) (b:= .int i) rfl rfl (vD ?_)) rfl rfl;rw[qz (by omega) (by rw[List.length_map,Int.toNat_natCast];omega)]
   simp
  refine(bF (fun j δ S3=>(∃c,δ=BL N S (.lst (ins.map inD)) bD (.tup (bad.map .int)) (some (.d (.int i))) (some (.d (mI N bits[i]))) c)/\S3=S++[SO.lst ((lg bad bits[i] j (g_ ins bits bad i)).map (mI N))])
   ⟨⟨_,rfl⟩,rfl⟩ ?_).mono fun o S3 ⟨EL,e3,⟨c3,wG⟩,EH⟩=>⟨EL,e3,⟨_,_,c3,wG⟩,?_⟩
  .rintro j v δ S3 hv ⟨⟨c3,rfl⟩,rfl⟩;refine⟨_,rfl,?_⟩;have hj:j < ins[i].2:=by
    have:=(List.getElem?_eq_some_iff.mp hv).1
    rwa [List.length_map,gq,List.length_map,List.length_range] at this
   refine(I0 ?_).mono fun o S4 ⟨e4,e5⟩=>⟨_,e4,⟨_,rfl⟩,e5⟩
   rw[pE];have:=big i (by omega)
   omega
  .rw [EH,List.length_map,gq,List.length_map,List.length_range];show _=S++[SO.lst ((match ins[i]?,bits[i]? with | some x,some b=>lg bad b x.2 (g_ ins bits bad i) | _,_=>g_ ins bits bad i).map (mI N))]
   rw[h1,h2]
 have hlen:((cm (bits.map (mI N))).map V3.d).length=ins.length:=by simp [cm,hb]
 rw[hlen] at hS;subst hδ hS;exact eG (w_var rfl ⟨_,rfl,h⟩)
section
variable {N:Nat} {ins:Zm} {gs:List Gt} {os:Zn} {bits:List M} {turned bad:List Int}
def AH(N:Nat)(S:aP)(nt nT tD bD:D)(a6 a7 a8:Option V3):DE:=[some (.d nt),some (.d nT),some (.d (mI N one)),some (.d tD),some (.d bD),some (.loc S.length),a6,a7,a8]
theorem Fi{S:aP}{nt nT bD:D}{a8:Option V3}{g:Gt}{i:Nat}{ws:List M}(hg:Gi ws.length g)(hl:ws.length < 20000) :
 W3 (kQ (AH N S nt nT (.tup (turned.map .int)) bD (some (.d (.int i))) (some (.d (gy g))) a8) (S++[.lst (ws.map (mI N))])) fun o S1=>(∃c,o= .nx (AH N S nt nT (.tup (turned.map .int)) bD (some (.d (.int i))) (some (.d (gy g))) c))/\S1=S++[SO.lst ((ws++[fun p=>gF g ws p !=turned.contains (i:Int)]).map (mI N))]:=by
 have hz:sizeLine=16777216:=sizeLine_eq;have ha:=Hl g.1;unfold kQ;refine aW (bB (by unfold AH;simp only[List.length_cons,List.length_nil];omega) (RX (d:=mI N (gF g ws)) ?_ rfl ⟨_,rfl,?_⟩))
 .have h5:(fj (S++[.lst (ws.map (mI N))]) (AH N S nt nT (.tup (turned.map .int)) bD (some (.d (.int i))) (some (.d (gy g))) a8))[5]? =some (.val (.lst (ws.map (mI N)))):=by
   unfold fj AH;show some (match res (S++[.lst (ws.map (mI N))]) (.loc S.length) with | some d=>Sl.val d | none=> .un)=_
   unfold res;rw[bg]
  refine(aA (ds:=[.str (kS g.1), .tup ((g.2.1.map (wK ws)).map (mI N)),mI N one]) (ax (aq (a:=gy g) (b:= .int 0) rfl rfl rfl) (ax ?_ (ax rfl rfl))) (LM hg.1 (by rw[List.length_map];exact hg.2.1))).trans ?_
  .exact aA (ds:=[.lst (ws.map (mI N)), .tup (g.2.1.map nI)]) (ax (by unfold ae;rw [h5]) (ax (aq (a:=gy g) (b:= .int 1) rfl rfl rfl) rfl)) (Mz hg.2.2 (by rw[hg.2.1];omega))
  .have:(fun p=>gv g.1 ((g.2.1.map (wK ws)).map (· p)))=gF g ws:=by funext p;unfold gF;rw [List.map_map];rfl
   rw[this]
 .show W3 (oY 5 _ (AH N S nt nT (.tup (turned.map .int)) bD (some (.d (.int i))) (some (.d (gy g))) (some (.d (mI N (gF g ws))))) _) _;refine nM (k:=S.length) rfl ⟨_,bg _ _⟩ (bV (d:=mI N fun p=>gF g ws p !=turned.contains (i:Int)) ?_ ⟨_,_,rfl,bg _ _,by rw[List.length_map];omega,⟨_,rfl⟩,?_⟩)
  .refine yW (b:=turned.contains (i:Int)) (dN (a:= .int i) (b:= .tup (turned.map .int)) rfl rfl (yO _ _)) ?_;rw[<-HR];rfl
  .rw [dA,List.map_append];rfl
theorem G2{S:aP}{bD:D}(hB:bD= .lst (bits.map (mI N))\/bD= .tup (bits.map (mI N)))(NO:iq ins gs os)(hb:bits.length=ins.length)(hS:jb S){Q:V3->aP->Prop}(h:Q (.d (.lst ((Iv ins gs bits turned bad).map (mI N)))) S) :
 W3 (i5 [.d (aY ins gs os), .d bD, .d (mI N one), .d (.tup (turned.map .int)), .d (.tup (bad.map .int))] S) Q:=by
 have hz:sizeLine=16777216:=sizeLine_eq;unfold i5;refine fZ hS (wI rfl ?_);simp only[cA,jW,List.map,List.length,List.replicate,List.cons_append,List.nil_append,Nat.reduceAdd,Nat.reduceSub];unfold mP;refine aW <| bB (by simp) <| dy <| aD <| bV (d:= .lst (ins.map inD)) rfl <| aD <| bV (d:=bD) rfl <| aD <| bV (d:=mI N one) rfl <| aD <| bV (d:= .tup (bad.map .int)) rfl <| cI <| Al hB hb NO.hi NO.hw ⟨_,rfl,?_⟩
 simp only[List.set];have hwd:=vp NO.hw;have hN:=NO.hi;have hG:=NO.hg;refine aW (d8 (ik (ds:=cm (gs.map gy)) rfl ?_));refine(bF (fun i δ S2=>(∃a b c,δ=AH N S (aY ins gs os) bD (.tup (turned.map .int)) (.tup (bad.map .int)) a b c)/\S2=S++[SO.lst ((vg gs turned (g_ ins bits bad ins.length) i).map (mI N))])
  ⟨⟨_,_,_,rfl⟩,rfl⟩ ?_).mono fun o S2 ⟨cZ,fH,⟨a,b,c,hδ⟩,tQ⟩=>⟨cZ,fH,?_⟩
 .rintro i v δ S2 hv ⟨⟨a,b,c,rfl⟩,rfl⟩;obtain⟨d,hd,rfl⟩:=ng hv;rw[List.getElem?_map] at hd;cases q:gs[i]? with
  | none=>rw [q] at hd;cases hd
  | some g=>
    rw[q] at hd;cases hd;have hi:i < gs.length:=(List.getElem?_eq_some_iff.mp q).1;have hl:(vg gs turned (g_ ins bits bad ins.length) i).length=ub ins+i:=by rw[rF _ (by omega),md hb _ (Nat.le_refl _),List.take_length]
    refine⟨AH N S (aY ins gs os) bD (.tup (turned.map .int)) (.tup (bad.map .int)) (some (.d (.int i))) (some (.d (gy g))) c,rfl,?_⟩;refine(Fi (by rw[hl];exact NO.g i g q) (by rw[hl];omega)).mono fun o S4 ⟨⟨c4,e4⟩,e5⟩=>⟨_,e4,⟨_,_,_,rfl⟩,?_⟩
    rw[e5];show _=S++[SO.lst ((match gs[i]? with | some g=>vg gs turned (g_ ins bits bad ins.length) i++[fun p=>gF g (vg gs turned (g_ ins bits bad ins.length) i) p !=turned.contains (i:Int)] | none=>vg gs turned (g_ ins bits bad ins.length) i).map (mI N))]
    rw[q]
 have hlen:((cm (gs.map gy)).map V3.d).length=gs.length:=by simp [cm]
 rw[hlen] at tQ;subst hδ tQ;exact eG (w_var rfl ⟨_,rfl,by unfold fR;exact decide_eq_true (Nat.le_refl _),⟨_,rfl⟩,_,by unfold res;rw [bg];rfl,h⟩)
def qF(N:Nat)(os:Zn)(ws:List M):List D:=os.map fun x=> .tup ((tell ws x).map (mI N))
theorem Lx{S:aP}{ws:List M}(hO:os.length < 1000)(ho:∀x∈os,x.2.length < 1000/\∀w∈x.2,w < ws.length)(hS:jb S){Q:V3->aP->Prop}(h:Q (.d (.lst (qF N os ws))) S) :
 W3 (jY [.d (aY ins gs os), .d (.lst (ws.map (mI N)))] S) Q:=by
 have hz:sizeLine=16777216:=sizeLine_eq;unfold jY;refine fZ hS (wI rfl ?_);simp only[cA,jq,List.map,List.length,List.replicate,List.cons_append,List.nil_append,Nat.reduceAdd,Nat.reduceSub];unfold n5;refine eG (mh (ds:=qF N os ws) ?_ ⟨_,rfl,by unfold fR;exact decide_eq_true (Nat.le_refl _),⟨_,rfl⟩,_,by unfold res;rw [bg],h⟩)
 refine ck (ds:=os.map Fm) (dC (aq (a:=aY ins gs os) (b:= .int 2) rfl rfl rfl)) (by rw[List.length_map];omega) ?_
 unfold qF;refine NT.eI Fm _ fun(x:Str × List Nat) hx=>⟨[.val (.str x.1), .val (.tup (x.2.map nI)), .val (.lst (ws.map (mI N)))],rfl,rfl,?_⟩
 exact aA (ds:=[.lst (ws.map (mI N)), .tup (x.2.map nI)]) rfl (Mz (ho x hx).2 (ho x hx).1)
end
end K42
end
section
namespace K42
open PySem PySem.Spec PyProof.Rows L2 L3 MT
def r0(xs:List M):M:=fun p=>(Nw (xs.map (· p))).1
def r1(xs:List M):M:=fun p=>(Nw (xs.map (· p))).2
theorem vI{n:Nat}{ds:List D}{δ:av}{j:Int}(h:ae 0 δ= .ok (.tup ds))(hl:ds.length=n):b2 lA (aS j2 (ak (ae 0) aJ)) (eC (.int j)) δ= .ok (decide ((n:Int)=j)):=by
 refine dN (a:= .int n) (b:= .int j) (aA (ds:=[.tup ds]) (ax h rfl) ?_) rfl ?_
 .show R.ok (D.int ds.length)=_;rw[hl]
 .show R.ok (D.bl ((n:Int)==j))=_;congr 2
theorem Cg{N:Nat}{xs:List M}(h:1<=xs.length/\xs.length<=3):mw [.tup (xs.map (mI N)),mI N one]= .ok (.tup [mI N (r0 xs),mI N (r1 xs)]):=by
 have hz:sizeLine=16777216:=sizeLine_eq;unfold mw x6
 match xs,h with
 | [a],_=>
   refine cL (bu (jQ (vI (n:=1) rfl rfl) rfl) (bu (eL (d:=mI N a) (yW (vI (n:=1) rfl rfl) (aq (a:= .tup [mI N a]) (b:= .int 0) rfl rfl E8)) (by simp [dD,pC])) (cv ?_)))
   exact di (ax (aq (a:=mI N one) (b:=mI N a) rfl rfl (Av N a)) (ax rfl rfl)) (by simp;omega)
 | [a,b],_=>
   refine cL (NT.mQ (rK (vI (n:=2) rfl rfl) (cv ?_)));exact di (ax (aq (a:=mI N one) (b:=mI N fun p=>a p || b p) rfl (aq (aq rfl rfl E8) (aq rfl rfl GZ) (AG N a b)) (Av N _)) (ax (aq (aq rfl rfl E8) (aq rfl rfl GZ) (vw N a b)) rfl)) (by simp;omega)
 | [a,b,c],_=>
   refine cL (bu (jQ (vI (n:=3) rfl rfl) rfl) (bu (eL (d:=mI N fun p=>(a p && b p) || (a p && c p) || (b p && c p)) (yW (vI (n:=3) rfl rfl) (aA (ds:=[.tup [mI N a,mI N b,mI N c]]) rfl DP)) (by simp [dD,pC])) (cv ?_)))
   exact di (ax (aq (a:=mI N one) (b:=mI N fun p=>(a p && b p) || (a p && c p) || (b p && c p)) rfl rfl (Av N _)) (ax rfl rfl)) (by simp;omega)
theorem MW{N n:Nat}{f:M}:o8 [mI N f, .int n]= .ok (.int (if decide (n < N) && f n then 1 else 0)):=by
 unfold o8 zM;refine cL (cv ?_);have h:=Ri N f n;show(R.bind (R.bind (R.ok (mI N f)) fun d=>R.bind (R.ok (D.int n)) fun e=>Be d e) fun d=>R.bind (R.ok (D.int 1)) fun e=>CN d e)=_
 exact h
theorem vH{bs:List Bool}(hl:bs.length < 100000):iF [.lst (bs.map bI)]= .ok (.int (JQ bs)):=by
 unfold iF xW;refine cL (bu (eL (d:= .int 0) rfl (by simp [dD,sR])) ?_)
 obtain⟨cP,e1,a2,BC⟩:=iL (t:=aI 2) (body:=og) (ds:=(bs.map bI).reverse)
  (fun i δ=>∃a2,δ=[.val (.lst (bs.map bI)), .val (.int (JQ (bs.drop (bs.length - i)))),a2]) (δ:=[.val (.lst (bs.map bI)), .val (.int 0), .un]) ⟨.un,by simp [JQ]⟩ (by
    rintro i d δ hd ⟨a2,rfl⟩;have hi:i < bs.length:=by
     have:=(List.getElem?_eq_some_iff.mp hd).1
     rwa [List.length_reverse,List.length_map] at this
    rw[List.getElem?_reverse (by rw[List.length_map];exact hi),List.length_map,List.getElem?_map,List.getElem?_eq_getElem (by omega:bs.length - 1 - i < bs.length)] at hd
    cases hd;have hdr:bs.drop (bs.length - (i+1))=bs[bs.length - 1 - i] ::bs.drop (bs.length - i):=by
     rw[show bs.length - (i+1)=bs.length - 1 - i by omega,List.drop_eq_getElem_cons (by omega:bs.length - 1 - i < bs.length),show bs.length - 1 - i+1=bs.length - i by omega]
    refine⟨_,?_,⟨.val (bI bs[bs.length - 1 - i]),rfl⟩⟩;have hm:(JQ (bs.drop (bs.length - (i+1))):Int)=(JQ (bs.drop (bs.length - i)):Int)*2+(if bs[bs.length - 1 - i] then 1 else 0):=by
     rw[hdr];show(((if bs[bs.length - 1 - i] then 1 else 0)+2*JQ (bs.drop (bs.length - i)):Nat):Int)=_
     cases bs[bs.length - 1 - i] <;> simp <;> omega
    rw[hm];generalize (JQ (bs.drop (bs.length - i)):Int)=m;generalize bs[bs.length - 1 - i]=x;generalize D.lst (bs.map bI)=y;rw[show aI 2 (bI x) [.val y, .val (.int m),a2]= .ok [.val y, .val (.int m), .val (bI x)] from rfl,R.aM]
    unfold og;exact eL (aq (a:= .int (m*2)) (b:=bI x) (aq (a:= .int m) (b:= .int 2) rfl rfl (cg _ (.inr ⟨by omega,by omega⟩))) rfl rfl) (by simp))
 refine bu (i_ (ds:=(bs.map bI).reverse) rfl e1) ?_;rw[List.length_reverse,List.length_map,Nat.sub_self,List.drop_zero] at BC;subst BC;exact cv rfl
def dg:Nat->List (List Bool)
 | 0=>[[]]
 | c+1=>(dg c).flatMap fun b=>[b++[false],b++[true]]
theorem ef:∀c,(dg c).length=2 ^ c
 | 0=>rfl
 | c+1=>by
   unfold dg;rw[List.length_flatMap];have:(dg c).map (fun b=>[b++[false],b++[true]].length)=(dg c).map fun _=>2:=rfl
   rw[this,List.map_const',List.sum_replicate_nat,ef c];omega
theorem si:∀c,∀b∈dg c,b.length=c
 | 0,b,h=>by unfold dg at h;rw [List.mem_singleton.mp h];rfl
 | c+1,b,h=>by
   unfold dg at h;obtain⟨a,ha,hb⟩:=List.mem_flatMap.mp h;have:=si c a ha;simp only[List.mem_cons,List.not_mem_nil,or_false] at hb;rcases hb with rfl | rfl <;> simp [this]
def ip(b:List Bool):D:= .tup (b.map bI)
def aE(c:Nat)(YC:Option V3)(a2 a3 a4:Option V3):DE:=[some (.d (nI c)),YC,a2,a3,a4]
theorem xg{c:Nat}{S:aP}(hc:c<=10)(hS:jb S){Q:V3->aP->Prop}(h:Q (.d (.lst ((dg c).map ip))) S):W3 (jd [.d (nI c)] S) Q:=by
 have hz:sizeLine=16777216:=sizeLine_eq;unfold jd;refine fZ hS (wI rfl ?_);simp only[cA,jZ,List.map,List.length,List.replicate,List.cons_append,List.nil_append,Nat.reduceAdd,Nat.reduceSub];unfold mS;refine aW <| bB (by simp) <| mh (ds:=(dg 0).map ip) rfl ⟨_,rfl,?_⟩
 simp only[List.set];refine aW <| d8 <| ik (dM (n:=c) rfl (by omega)) ?_
 refine(bF (fun i δ S2=>∃(T:aP) (a2 a3 a4:Option V3),S2=S++T++[.lst ((dg i).map ip)]/\δ=aE c (some (.loc (S++T).length)) a2 a3 a4)
  ⟨[],none,none,none,by simp,by simp [aE]⟩ ?_).mono fun o S2 ⟨cZ,fH,T,a2,a3,a4,tQ,hδ⟩=>⟨cZ,fH,?_⟩
 .rintro i v δ S2 hv ⟨T,a2,a3,a4,rfl,rfl⟩;have hi:i < c:=by
   have:=(List.getElem?_eq_some_iff.mp hv).1
   rwa [List.length_map,gq,List.length_map,List.length_range] at this
  have hpow:(dg i).length<=1024:=by
   rw[ef];exact Nat.pow_le_pow_right (by omega) (by omega:i<=10)
  refine⟨aE c (some (.loc (S++T).length)) (some v) a3 a4,rfl,?_⟩;unfold om aE;refine AU (i:=1) rfl (bg _ _) ?_;rw[dA];simp only[List.set];refine aW <| bB (by simp) <| mh (ds:=[]) rfl ⟨_,rfl,?_⟩
  simp only[List.set];generalize hU:S++T++[SO.k4]=U;refine aW <| d8 <| ik (ds:=(dg i).map ip) rfl ?_
  refine(bF (fun j δ S3=>(∃b4,δ=[some (.d (nI c)),some (.d (.lst ((dg i).map ip))),some v,some (.loc U.length),b4])/\S3=U++[.lst ((((dg i).take j).flatMap fun b=>[b++[false],b++[true]]).map ip)])
   ⟨⟨_,rfl⟩,by simp⟩ ?_).mono fun o S3 ⟨EL,e3,⟨b4,wG⟩,EH⟩=>⟨EL,e3,?_⟩
  .rintro j v3 δ S3 hv3 ⟨⟨b4,rfl⟩,rfl⟩;obtain⟨b,hb,rfl⟩:=NT.dw hv3;have hj:=(List.getElem?_eq_some_iff.mp hb).1;have hbl:=si i b (List.mem_of_getElem? hb);refine⟨[some (.d (nI c)),some (.d (.lst ((dg i).map ip))),some v,some (.loc U.length),some (.d (ip b))],rfl,?_⟩;unfold n4;generalize hL:((((dg i).take j).flatMap fun b=>[b++[false],b++[true]]).map ip)=L
   have hLl:L.length<=2048:=by
    rw[<-hL,List.length_map,List.length_flatMap];have:((dg i).take j).map (fun b=>[b++[false],b++[true]].length)=((dg i).take j).map fun _=>2:=rfl
    rw[this,List.map_const',List.sum_replicate_nat,List.length_take];omega
   have add:∀(x:Bool) (δ:av),ae 4 δ= .ok (ip b)->e2 iz (ae 4) (d5 (ak (eC (bI x)) aJ)) δ= .ok (ip (b++[x])):=fun x δ h4=>by
    refine aq (a:=ip b) (b:= .tup [bI x]) h4 (di rfl (by simp;omega)) ?_
    show R.bN (decide ((b.map bI).length+[bI x].length<=sizeLine)) _=_;rw[cg _ (by rw[List.length_map];simp;omega)]
    unfold ip;rw[List.map_append];rfl
   refine aW <| nM (k:=U.length) rfl ⟨_,bg _ _⟩ <| bV (d:=ip (b++[false])) (add false _ rfl) ⟨_,_,rfl,bg _ _,by omega,_,rfl,?_⟩
   rw[dA];refine nM (k:=U.length) rfl ⟨_,bg _ _⟩ <| bV (d:=ip (b++[true])) (add true _ rfl) ⟨_,_,rfl,bg _ _,by rw[List.length_append];simp;omega,_,rfl,⟨_,rfl⟩,?_⟩
   rw[dA,List.take_add_one,hb,List.flatMap_append,List.map_append,hL];simp
  rw[List.length_map,List.length_map,List.take_length] at EH;subst wG EH;refine bB (by simp) <| w_var (v:= .loc U.length) rfl ⟨_,rfl,T++[SO.k4],some v,some (.loc U.length),b4,?_,?_⟩
  .rw [<-hU,List.append_assoc S];rfl
  .rw [<-hU,List.append_assoc S];rfl
 have hlen:((gq 0 c).map V3.d).length=c:=by simp [gq]
 rw[hlen] at tQ;subst hδ tQ;unfold aE;refine eG (w_var rfl ⟨_,rfl,by unfold fR;exact decide_eq_true (by rw[List.length_append];omega),⟨T++[.lst ((dg c).map ip)],by rw[List.append_assoc]⟩,_,by unfold res;rw [bg],h⟩)
end K42
end
section
namespace K42
open PySem PySem.Spec PyProof.Rows L2 L3 MT
def Pp(c j:Nat):M:=fun p=>((dg c).getD p []).getD j false
def fY(c:Nat):List M:=(List.range c).map (Pp c)
theorem N7{b:List Bool}{j:Nat}(h:j < b.length):cn (ip b) (.int j)= .ok (bI (b.getD j false)):=by
 refine wt ?_;rw[qz (by omega) (by rw[List.length_map,Int.toNat_natCast];exact h)]
 rw[List.getD_eq_getElem?_getD,List.getElem?_eq_getElem h];simp
theorem B7{c j:Nat}(hc:c<=10)(hj:j < c):mD [.lst ((dg c).map ip), .int j]= .ok (mI (2 ^ c) (Pp c j)):=by
 have hz:sizeLine=16777216:=sizeLine_eq;have hp:2 ^ c<=1024:=Nat.pow_le_pow_right (by omega) hc
 unfold mD xK;refine cL (cv (aA (ds:=[.lst (((dg c).map fun b=>b.getD j false).map bI)]) (ax (cJ (ck (ds:=(dg c).map ip) rfl (by rw[List.length_map,ef];omega) ?_)) rfl) ?_))
 .rw [List.map_map];exact NT.eI ip _ fun b hb=>⟨[.val (ip b), .val (.int j)],rfl,rfl,aq (a:=ip b) (b:= .int j) rfl rfl (N7 (by rw[si c b hb];exact hj))⟩
 .rw [vH (by rw[List.length_map,ef];omega),G4,List.length_map,ef]
  unfold mI;congr 3;refine pF fun p UZ=>?_
  unfold Pp;rw[List.getD_eq_getElem?_getD,List.getElem?_map,List.getD_eq_getElem?_getD (l:=dg c),List.getElem?_eq_getElem (by rw[ef];exact UZ)]
  rfl
section
variable {c:Nat} {ins:Zm} {gs:List Gt} {os:Zn}
abbrev EV:=Str.ofString "net"
abbrev x_:=Str.ofString "many_inputs"
abbrev xR:=Str.ofString "full"
abbrev sv:=Str.ofString "in_masks"
def dY(c:Nat)(nt:D):List (Str × V3):=[(EV, .d nt),(x_, .d (nI (2 ^ c))),(xR, .d (mI (2 ^ c) one)),(sv, .d (.lst ((fY c).map (mI (2 ^ c)))))]
theorem Kt{S:aP}(hc:ins.length=c)(uM:c<=10)(hS:jb (S++[.ins 0 []])){Q:V3->aP->Prop}(h:Q (.d .cu) (S++[.ins 0 (dY c (aY ins gs os))])) :
 W3 (dH [.loc S.length, .d (aY ins gs os)] (S++[.ins 0 []])) Q:=by
 have hz:sizeLine=16777216:=sizeLine_eq;have hp:2 ^ c<=1024:=Nat.pow_le_pow_right (by omega) uM
 unfold dH;refine P6 rfl ?_;simp only[cA,dn,List.map,List.length,List.replicate,List.cons_append,List.nil_append,Nat.reduceAdd,Nat.reduceSub];unfold iM;refine aW <| bB (by simp) <| dy <| aD <| bV (d:=nI c) (aA (ds:=[.lst (ins.map inD)]) rfl (by rw[sI,List.length_map,hc];rfl)) <| cI <| xg uM hS ⟨_,rfl,?_⟩
 simp only[List.set];refine aW <| ko (k:=S.length) <| bV (d:=aY ins gs os) rfl <| w_var (v:= .loc S.length) rfl ⟨_,rfl,bg _ _,by simp,_,rfl,?_⟩
 rw[dA];refine aW <| ko (k:=S.length) <| bV (d:=nI (2 ^ c)) (aA (ds:=[.lst ((dg c).map ip)]) rfl (by rw[sI,List.length_map,ef];rfl)) <| w_var (v:= .loc S.length) rfl ⟨_,rfl,bg _ _,by unfold z0;simp,_,rfl,?_⟩
 rw[dA];refine aW <| ko (k:=S.length) <| bV (d:=mI (2 ^ c) one) (aA (ds:=[.lst (((dg c).map fun _=>true).map bI)]) (ax (cJ (ck (ds:=(dg c).map ip) rfl (by rw[List.length_map,ef];omega) ?_)) rfl) ?_) <| w_var (v:= .loc S.length) rfl ⟨_,rfl,bg _ _,?_,_,rfl,?_⟩
 .rw [List.map_map];exact NT.eI ip _ fun b hb=>⟨[.val (ip b)],rfl,rfl,rfl⟩
 .rw [vH (by rw[List.length_map,ef];omega),G4,List.length_map,ef]
  unfold mI;congr 3;refine pF fun p UZ=>?_
  rw[List.getD_eq_getElem?_getD,List.getElem?_map,List.getElem?_eq_getElem (by rw[ef];exact UZ)]
  rfl
 .exact(by decide:2 < 1000)
 rw[dA];refine ko (k:=S.length) <| bV (d:= .lst ((fY c).map (mI (2 ^ c)))) (cJ (ck (ds:=gq 0 c) (dM (n:=c) (aA (ds:=[.lst (ins.map inD)]) rfl (by rw[sI,List.length_map,hc])) (by omega)) (by simp [gq];omega) ?_)) <| w_var (v:= .loc S.length) rfl ⟨_,rfl,bg _ _,?_,_,rfl,?_⟩
 .unfold fY;rw[List.map_map];unfold gq;refine NT.eI (fun i:Nat=>D.int (0+(i:Int))) _ fun j hj=>⟨[.val (.int (0+(j:Int))), .val (.lst ((dg c).map ip))],rfl,rfl,aA (ds:=[.lst ((dg c).map ip), .int j]) ?_ (B7 uM (List.mem_range.mp hj))⟩
  rw[Int.zero_add];rfl
 .exact(by decide:3 < 1000)
 rw[dA];exact h
end
end K42
end
section
namespace K42
open PySem PySem.Spec PyProof.Rows L2 L3 MT
section
variable {c:Nat} {ins:Zm} {gs:List Gt} {os:Zn} {S:aP} {k:Nat} {turned bad:List Int}
theorem Wm:(x_==EV)=false:=by decide+kernel
theorem Xe:(xR==EV)=false:=by decide+kernel
theorem WL:(xR==x_)=false:=by decide+kernel
theorem Wk:(sv==EV)=false:=by decide+kernel
theorem W_:(sv==x_)=false:=by decide+kernel
theorem Wi:(sv==xR)=false:=by decide+kernel
theorem HN{nt:D}:(dY c nt).lookup EV=some (.d nt):=by unfold dY;rw [List.lookup_cons,beq_self_eq_true]
theorem Km{nt:D}:(dY c nt).lookup x_=some (.d (nI (2 ^ c))):=by unfold dY;rw [List.lookup_cons,Wm,List.lookup_cons,beq_self_eq_true]
theorem DR{nt:D}:(dY c nt).lookup xR=some (.d (mI (2 ^ c) one)):=by unfold dY;rw [List.lookup_cons,Xe,List.lookup_cons,WL,List.lookup_cons,beq_self_eq_true]
theorem Hj{nt:D}:(dY c nt).lookup sv=some (.d (.lst ((fY c).map (mI (2 ^ c))))):=by unfold dY;rw [List.lookup_cons,Wk,List.lookup_cons,W_,List.lookup_cons,Wi,List.lookup_cons,beq_self_eq_true]
theorem Hm:(fY c).length=c:=by unfold fY;simp
abbrev Wd(c:Nat)(ins:Zm)(gs:List Gt)(turned bad:List Int):List M:=Iv ins gs (fY c) turned bad
theorem Lj(m:Str)(nt:D)(h1:(m==EV)=false)(h2:(m==x_)=false)(h3:(m==xR)=false)(h4:(m==sv)=false):(dY c nt).lookup m=none:=by unfold dY;rw [List.lookup_cons,h1,List.lookup_cons,h2,List.lookup_cons,h3,List.lookup_cons,h4];rfl
theorem HV(NO:iq ins gs os)(hc:ins.length=c)(hS:jb S)(hb:S[k]? =some (.ins 0 (dY c (aY ins gs os)))){Q:V3->aP->Prop}(h:Q (.d (.lst (qF (2 ^ c) os (Wd c ins gs turned bad)))) S) :
 W3 (g8 [.loc k, .d (.tup (turned.map .int)), .d (.tup (bad.map .int))] S) Q:=by
 have hz:sizeLine=16777216:=sizeLine_eq;unfold g8;refine fZ hS (wI rfl ?_);simp only[cA,i9,List.map,List.length,List.replicate,List.cons_append,List.nil_append,Nat.reduceAdd,Nat.reduceSub];unfold lU;have hl:(fY c).length=ins.length:=by rw[Hm,hc]
 refine eG <| dy <| aD <| w_fld (k:=k) <| w_var (v:= .loc k) rfl ⟨_,_,rfl,hb,HN,?_⟩
 refine aD <| dy <| aD <| w_fld (k:=k) <| w_var (v:= .loc k) rfl ⟨_,_,rfl,hb,HN,?_⟩
 refine aD <| w_fld (k:=k) <| w_var (v:= .loc k) rfl ⟨_,_,rfl,hb,Hj,?_⟩
 refine aD <| w_fld (k:=k) <| w_var (v:= .loc k) rfl ⟨_,_,rfl,hb,DR,?_⟩
 refine aD <| bV (d:= .tup (turned.map .int)) rfl <| aD <| bV (d:= .tup (bad.map .int)) rfl <| cI ?_
 refine G2 (.inl rfl) NO hl hS (cI ?_);refine Lx NO.ho (fun x hx=>⟨(NO.o x hx).1,fun w hw=>by rw[GO hl];exact(NO.o x hx).2 w hw⟩) hS ?_
 exact⟨_,rfl,by unfold fR;rfl,⟨[],by simp⟩,_,by unfold res;rfl,h⟩
def Ly(N:Nat)(os:Zn)(ws:List M):List D:=os.map fun x=> .tup [mI N (r0 (tell ws x)),mI N (r1 (tell ws x))]
theorem uc(NO:iq ins gs os)(hc:ins.length=c)(ho:∀x∈os,1<=x.2.length/\x.2.length<=3)(hS:jb S)(hb:S[k]? =some (.ins 0 (dY c (aY ins gs os)))){Q:V3->aP->Prop}(h:Q (.d (.lst (Ly (2 ^ c) os (Wd c ins gs turned [])))) S) :
 W3 (cW [.loc k, .d (.tup (turned.map .int))] S) Q:=by
 have hz:sizeLine=16777216:=sizeLine_eq;have hO:=NO.ho;unfold cW;refine fZ hS (wI rfl ?_);simp only[cA,et,List.map,List.length,List.replicate,List.cons_append,List.nil_append,Nat.reduceAdd,Nat.reduceSub];unfold iA;refine eG <| j1 (fun j ds S2=>S2=S/\ds=(Ly (2 ^ c) os (Wd c ins gs turned [])).take j) ?_
 refine pG <| s_ (k:=k) <| w_var (v:= .loc k) rfl ⟨_,rfl,hb,Lj _ _ (by decide+kernel) (by decide+kernel) (by decide+kernel) (by decide+kernel),?_⟩
 refine aD <| bV (d:= .tup (turned.map .int)) rfl <| aD <| bV (d:= .tup (([]:List Int).map .int)) rfl <| cI ?_
 refine HV NO hc hS hb ⟨_,rfl,?_,⟨rfl,by simp⟩,?_,?_⟩
 .rw [List.length_map,qF,List.length_map];omega
 .rintro j v ds S2 hv ⟨rfl,rfl⟩;rw[qF] at hv;obtain⟨x,hx,rfl⟩:=NT.dw hv;refine⟨[some (.d (.tup ((tell (Wd c ins gs turned []) x).map (mI (2 ^ c))))),some (.loc k)],rfl,wj ?_⟩;rw[if_pos rfl];refine rJ <| aD <| bV (d:= .tup ((tell (Wd c ins gs turned []) x).map (mI (2 ^ c)))) rfl <| aD <| w_fld (k:=k) <| w_var (v:= .loc k) rfl ⟨_,_,rfl,hb,DR,cI ⟨[.tup ((tell (Wd c ins gs turned []) x).map (mI (2 ^ c))),mI (2 ^ c) one],_,rfl,Cg ?_,_,rfl,rfl,?_⟩⟩
  .unfold tell;rw [List.length_map];exact ho x (List.mem_of_getElem? hx)
  .unfold Ly;rw[List.take_add_one,List.getElem?_map,hx];rfl
 .rintro ds S2 ⟨rfl,rfl⟩;rw[List.length_map,qF,List.length_map,List.take_of_length_le (by rw[Ly,List.length_map];exact Nat.le_refl _)]
  exact⟨_,rfl,by unfold fR;rfl,⟨[],by simp⟩,_,by unfold res;rfl,h⟩
theorem yI{nt:D}{f:M}(hc:c<=10)(hS:jb S)(hb:S[k]? =some (.ins 0 (dY c nt))){Q:V3->aP->Prop}(h:Q (.d (.lst (((List.range (2 ^ c)).filter f).map nI))) S) :
 W3 (eK [.loc k, .d (mI (2 ^ c) f)] S) Q:=by
 have hz:sizeLine=16777216:=sizeLine_eq;have hp:2 ^ c<=1024:=Nat.pow_le_pow_right (by omega) hc
 unfold eK;refine fZ hS (wI rfl ?_);simp only[cA,dO,List.map,List.length,List.replicate,List.cons_append,List.nil_append,Nat.reduceAdd,Nat.reduceSub];unfold hJ;refine eG <| j1 (fun j ds S2=>S2=S/\ds=((List.range j).filter f).map nI) ?_
 refine OJ <| w_fld (k:=k) <| w_var (v:= .loc k) rfl ⟨_,_,rfl,hb,Km,2 ^ c,rfl,by omega,?_⟩
 have hlen:((gq 0 (2 ^ c)).map V3.d).length=2 ^ c:=by simp [gq]
 rw[hlen];refine⟨by omega,⟨rfl,rfl⟩,?_,?_⟩
 .rintro j v ds S2 hv ⟨rfl,rfl⟩;obtain⟨hj,rfl⟩:=NT.GL hv;refine⟨[some (.d (.int j)),some (.d (mI (2 ^ c) f))],rfl,qX (b:=f j) ?_ ?_⟩
  .refine dN (a:= .int (if decide (j < 2 ^ c) && f j then 1 else 0)) (b:= .int 1) (aA (ds:=[mI (2 ^ c) f, .int j]) rfl MW) rfl ?_
   rw[decide_eq_true hj,Bool.true_and];cases f j <;> rfl
  .rw [List.range_succ,List.filter_append,List.map_append];cases hf:f j with
   | true=>rw [if_pos rfl];exact bV (d:=nI j) rfl ⟨_,rfl,rfl,by simp [hf]⟩
   | false=>rw [if_neg (by decide)];exact⟨rfl,by simp [hf]⟩
 .rintro ds S2 ⟨rfl,rfl⟩;exact⟨_,rfl,by unfold fR;rfl,⟨[],by simp⟩,_,by unfold res;rfl,h⟩
end
end K42
end
section
namespace K42
open PySem PySem.Spec PyProof.Rows L2 L3 MT
theorem gT(n:Nat):gq 0 n=(List.range n).map nI:=by
 unfold gq;refine List.map_congr_left fun i _=>?_
 show D.int (0+(i:Int))=D.int (i:Int);rw[Int.zero_add]
def az(T:List Nat):D:= .tup (T.map nI)
theorem La{ps:List Nat}{a:Nat}(ha:a < ps.length):Qb (.lst (ps.map nI)) (some ((a+1:Nat):Int)) none= .ok (.lst ((ps.drop (a+1)).map nI)):=by
 show R.ok (D.lst (L2.cutD (ps.map nI) (some ((a+1:Nat):Int)) none))=_;congr 2;unfold L2.cutD;rw[List.length_map,HT.rR,HT.wm,Nat.min_eq_left (by omega),<-List.map_drop,<-List.map_take,List.take_of_length_le (by rw[List.length_drop];omega)]
theorem zd{ds es:List D}(h:ds.length+es.length<=sizeLine):iz (.tup ds) (.tup es)= .ok (.tup (ds++es)):=cg _ h
theorem qp:∀(n s:Nat) (ps:List Nat),s<=n->n<=3->ps.length<=100->dt (n+1) [.lst (ps.map nI), .int s]= .ok (.lst ((eW ps s).map az))
 | n,0,ps,_,_,_=>by
   show tV ma (me (dt n)) _=_;unfold me;exact cL (NT.mQ (rK (dN (a:= .int 0) (b:= .int 0) rfl rfl rfl) (cv rfl)))
 | 0,s+1,ps,h,_,_=>by omega
 | n+1,s+1,ps,h,hn,hp=>by
   have hz:sizeLine=16777216:=sizeLine_eq;show tV ma (me (dt (n+1))) _=_;unfold me;have hcl:(eW ps (s+1)).length<=100 ^ (s+1):=uB hp;have hpow:∀m,m<=3->(100:Nat) ^ m<=1000000:=fun m hm=>Nat.pow_le_pow_right (by omega) hm
   refine cL (bu (jQ (dN (a:= .int (s+1:Nat)) (b:= .int 0) (k:=false) rfl rfl ?_) rfl) ?_)
   .show R.ok (D.bl (((s+1:Nat):Int)==0))=_;congr 2
   refine bu (yP (ds:=[]) rfl (by simp [dD,ma])) ?_
   let F:Nat->Zo:=fun i=>(List.range i).flatMap fun a=>(eW (ps.drop (a+1)) s).map (ps.getD a 0 ::·)
   have hF:∀i,i<=ps.length->(F i).length<=i*100 ^ s:=fun i hi=>by
    show((List.range i).flatMap fun a=>(eW (ps.drop (a+1)) s).map (ps.getD a 0 ::·)).length<=_
    rw[List.length_flatMap];refine Nat.le_trans (Cy (m:=100 ^ s) fun x hx=>?_) (by rw[List.length_map,List.length_range];exact Nat.le_refl _)
    obtain⟨a,_,rfl⟩:=List.mem_map.mp hx;rw[List.length_map];exact uB (by rw[List.length_drop];omega)
   have hFs:∀i,F (i+1)=F i++(eW (ps.drop (i+1)) s).map (ps.getD i 0 ::·):=fun i=>by
    show(List.range (i+1)).flatMap _=_;rw[List.range_succ,List.flatMap_append];simp [F]
   obtain⟨cP,e1,a3,a4,a5,BC⟩:=iL (t:=iu 2 (cc (aI 3) (cc (aI 4) iy))) (body:=n8 (dt (n+1))) (ds:=cm (ps.map nI))
    (fun i δ=>∃a3 a4 a5,δ=[.val (.lst (ps.map nI)), .val (.int (s+1:Nat)), .bld ((F i).map az),a3,a4,a5]) (δ:=[.val (.lst (ps.map nI)), .val (.int (s+1:Nat)), .bld [], .un, .un, .un]) ⟨.un, .un, .un,by simp [F]⟩ (by
      rintro i d δ hd ⟨a3,a4,a5,rfl⟩;have hv:((cm (ps.map nI)).map V3.d)[i]? =some (.d d):=by rw[List.getElem?_map,hd];rfl
      obtain⟨d0,L4,ed⟩:=ng hv;cases ed;obtain⟨x,hx,rfl⟩:=NT.jU L4;have hil:=(List.getElem?_eq_some_iff.mp hx).1;have hxd:ps.getD i 0=x:=by rw[List.getD_eq_getElem?_getD,hx];rfl
      have hFi:=hF i (by omega)
      have hFb:i*100 ^ s<=100*100 ^ s:=Nat.mul_le_mul_right _ (by omega)
      have hp2:=hpow (s+1) (by omega)
      rw[Nat.pow_succ,Nat.mul_comm] at hp2;rw[show iu 2 (cc (aI 3) (cc (aI 4) iy)) (.tup [.int i,nI x]) [.val (.lst (ps.map nI)), .val (.int (s+1:Nat)), .bld ((F i).map az),a3,a4,a5]= .ok [.val (.lst (ps.map nI)), .val (.int (s+1:Nat)), .bld ((F i).map az), .val (.int i), .val (nI x),a5] from rfl,R.aM]
      unfold n8;have ihc:=qp n s (ps.drop (i+1)) (by omega) (by omega) (by rw[List.length_drop];omega)
      have hdl:(eW (ps.drop (i+1)) s).length<=100 ^ s:=uB (by rw[List.length_drop];omega)
      obtain⟨cZ,fH,c5,Gm⟩:=iL (t:=aI 5) (body:=oQ (dt (n+1))) (ds:=(eW (ps.drop (i+1)) s).map az)
       (fun j δ=>∃c5,δ=[.val (.lst (ps.map nI)), .val (.int (s+1:Nat)), .bld ((F i++((eW (ps.drop (i+1)) s).take j).map (x ::·)).map az), .val (.int i), .val (nI x),c5]) (δ:=[.val (.lst (ps.map nI)), .val (.int (s+1:Nat)), .bld ((F i).map az), .val (.int i), .val (nI x),a5]) ⟨a5,by simp⟩ (by
         rintro j d δ hd ⟨c5,rfl⟩;obtain⟨T,hT,rfl⟩:=NT.jU hd;have hjl:=(List.getElem?_eq_some_iff.mp hT).1;have hTl:=(gK (List.mem_of_getElem? hT)).1;refine⟨[.val (.lst (ps.map nI)), .val (.int (s+1:Nat)), .bld ((F i++((eW (ps.drop (i+1)) s).take (j+1)).map (x ::·)).map az), .val (.int i), .val (nI x), .val (az T)],?_,⟨_,rfl⟩⟩
         generalize hL:(F i++((eW (ps.drop (i+1)) s).take j).map (x ::·)).map az=L
         have hLl:L.length < sizeLine:=by
          rw[<-hL,List.length_map,List.length_append,List.length_map,List.length_take];omega
         rw[show aI 5 (az T) [.val (.lst (ps.map nI)), .val (.int (s+1:Nat)), .bld L, .val (.int i), .val (nI x),c5]= .ok [.val (.lst (ps.map nI)), .val (.int (s+1:Nat)), .bld L, .val (.int i), .val (nI x), .val (az T)] from rfl,R.aM]
         unfold oQ;rw[uF (d:=az (x ::T)) (ds:=L) (aq (a:= .tup [nI x]) (b:=az T) (di rfl (by simp;omega)) rfl (zd (by rw[List.length_map];simp;omega))) rfl hLl,<-hL,List.take_add_one,hT]
         simp [az])
      refine⟨_,i_ (ds:=(eW (ps.drop (i+1)) s).map az) (dC (aA (ds:=[.lst ((ps.drop (i+1)).map nI), .int s]) (ax (OL (d:= .lst (ps.map nI)) (lo:=some ((i+1:Nat):Int)) (hi:=none) rfl (GS (aq (a:= .int i) (b:= .int 1) rfl rfl rfl)) rfl (La hil)) (ax (aq (a:= .int (s+1:Nat)) (b:= .int 1) rfl rfl ?_) rfl)) ihc)) fH,?_⟩
      .show R.ok (D.int (((s+1:Nat):Int) - 1))=_;congr 2;omega
      .rw [List.length_map,List.take_length] at Gm;refine⟨.val (.int i), .val (nI x),c5,?_⟩;rw[Gm,hFs,hxd])
   refine bu (i_ (ds:=cm (ps.map nI)) rfl e1) ?_;have hlen:(cm (ps.map nI)).length=ps.length:=by simp [cm]
   rw[hlen] at BC;subst BC;exact cv rfl
end K42
end
section
namespace K42
open PySem PySem.Spec PyProof.Rows L2 L3 MT
section
variable {c:Nat} {ins:Zm} {gs:List Gt} {os:Zn} {S:aP} {k:Nat} {turned:List Int} {safe:Bool}
abbrev qw:=Str.ofString "bench"
abbrev vQ:=Str.ofString "plain"
abbrev rf:=Str.ofString "unsure"
def il(gs:List Gt):List Nat:=(List.range gs.length).filter fun i=>match gs[i]? with | some g=>!g.2.2 | none=>false
def gm(c:Nat)(ins:Zm)(gs:List Gt)(os:Zn)(b:Nat):List (Str × V3):=[(qw, .loc b),(vQ, .d (.lst (Ly (2 ^ c) os (Wd c ins gs [] [])))),(rf, .d (.lst ((il gs).map nI)))]
theorem Wr:(vQ==qw)=false:=by decide+kernel
theorem Xk:(rf==qw)=false:=by decide+kernel
theorem W7:(rf==vQ)=false:=by decide+kernel
theorem Am{b:Nat}:(gm c ins gs os b).lookup qw=some (.loc b):=by unfold gm;rw [List.lookup_cons,beq_self_eq_true]
theorem Iy{b:Nat}:(gm c ins gs os b).lookup vQ=some (.d (.lst (Ly (2 ^ c) os (Wd c ins gs [] [])))):=by unfold gm;rw [List.lookup_cons,Wr,List.lookup_cons,beq_self_eq_true]
theorem Hh{b:Nat}:(gm c ins gs os b).lookup rf=some (.d (.lst ((il gs).map nI))):=by unfold gm;rw [List.lookup_cons,Xk,List.lookup_cons,W7,List.lookup_cons,beq_self_eq_true]
theorem L_{b:Nat}(m:Str)(h1:(m==qw)=false)(h2:(m==vQ)=false)(h3:(m==rf)=false):(gm c ins gs os b).lookup m=none:=by unfold gm;rw [List.lookup_cons,h1,List.lookup_cons,h2,List.lookup_cons,h3];rfl
def TS(S:aP)(c:Nat)(ins:Zm)(gs:List Gt)(os:Zn):aP:=S++[.ins 1 (gm c ins gs os (S.length+1)), .ins 0 (dY c (aY ins gs os))]
mutual
theorem Cn{n m:Nat}(h:n<=m):∀v:V3,oW n v=true->oW m v=true
 | .d _,_=>by unfold oW;rfl
 | .loc k,q=>by
   unfold oW at q ⊢;exact decide_eq_true (Nat.lt_of_lt_of_le (of_decide_eq_true q) h)
 | .lst vs,q=>by unfold oW at q ⊢;exact lp h vs q
 | .tup vs,q=>by unfold oW at q ⊢;exact lp h vs q
theorem lp{n m:Nat}(h:n<=m):∀vs:List V3,kz n vs=true->kz m vs=true
 | [],_=>by unfold kz;rfl
 | v ::vs,q=>by
   unfold kz at q ⊢;rw[Bool.and_eq_true] at q ⊢;exact⟨Cn h v q.1,lp h vs q.2⟩
end
theorem xS{n m:Nat}(h:n<=m)(o:SO)(q:sZ n o=true):sZ m o=true:=by
 cases o with
 | ins k fs=>exact lp h _ q
 | _=>rfl
theorem jb.push{S:aP}(hS:jb S){x:SO}(hx:∀n,sZ n x=true):jb (S++[x]):=fun o ho=>by
 rcases List.mem_append.mp ho with q | q
 .exact xS (by simp) o (hS o q)
 .rw [List.mem_singleton.mp q];exact hx _
theorem jb.set{S:aP}(hS:jb S)(k:Nat){x:SO}(hx:∀n,sZ n x=true):jb (S.set k x):=fun o ho=>by
 rw[List.length_set];rcases List.mem_or_eq_of_mem_set ho with q | q
 .exact hS o q
 .rw [q];exact hx _
theorem LK{S:aP}(hS:jb S){x y:SO}(hx:sZ (S.length+2) x=true)(hy:sZ (S.length+2) y=true):jb (S++[x,y]):=fun o ho=>by
 rw[show(S++[x,y]).length=S.length+2 by simp]
 rcases List.mem_append.mp ho with q | q
 .exact xS (by omega) o (hS o q)
 .simp only[List.mem_cons,List.not_mem_nil,or_false] at q;rcases q with rfl | rfl
  .exact hx
  .exact hy
theorem G7{δ:av}(hg:gs.length < 1000)(h1:ae 1 δ= .ok (aY ins gs os)):cO (fN (e2 cn (ae 1) (eC (.int 1)))) (iu 2 (cc (aI 0) (cc (aI 1) iy))) (Cm (ym (e2 cn (ae 1) (eC (.int 2))))) (ae 0) ["place","gate"] [] δ= .ok ((il gs).map nI):=by
 have hz:sizeLine=16777216:=sizeLine_eq;refine ck (ds:=cm (gs.map gy)) (Ni (aq (a:=aY ins gs os) (b:= .int 1) h1 rfl rfl)) (by simp [cm];omega) ?_
 have e:cm (gs.map gy)=(List.range gs.length).map fun i=> .tup [.int i,gy (gs.getD i (0,[],false))]:=by
  refine List.ext_getElem? fun i=>?_
  rw[List.getElem?_map,cm,List.getElem?_map,List.getElem?_zipIdx,List.getElem?_map];by_cases q:i < gs.length
  .rw [List.getElem?_eq_getElem q,List.getElem?_range q];show some (D.tup [.int ((0+i:Nat):Int),gy gs[i]])=some (D.tup [.int i,gy (gs.getD i (0,[],false))]);rw[Nat.zero_add,List.getD_eq_getElem?_getD,List.getElem?_eq_getElem q];rfl
  .rw [List.getElem?_eq_none (by omega),List.getElem?_eq_none (by simp;omega)];rfl
 rw[e];unfold il;refine NT.cG (fun i:Nat=>match gs[i]? with | some g=>!g.2.2 | none=>false) (fun i:Nat=>D.tup [.int i,gy (gs.getD i (0,[],false))]) nI fun i hi=>?_
 rw[List.mem_range] at hi;refine⟨[.val (.int i), .val (gy (gs.getD i (0,[],false)))],rfl,?_,fun _=>rfl⟩
 rw[List.getElem?_eq_getElem hi,List.getD_eq_getElem?_getD,List.getElem?_eq_getElem hi];rfl
theorem Bt(NO:iq ins gs os)(hc:ins.length=c)(uM:c<=10)(ho:∀x∈os,1<=x.2.length/\x.2.length<=3)(hS:jb S){Q:V3->aP->Prop}(h:Q (.d .cu) (TS S c ins gs os)) :
 W3 (cH [.loc S.length, .d (aY ins gs os)] (S++[.ins 1 []])) Q:=by
 have hz:sizeLine=16777216:=sizeLine_eq;unfold cH;refine P6 rfl ?_;simp only[cA,d9,List.map,List.length,List.replicate,List.cons_append,List.nil_append,Nat.reduceAdd,Nat.reduceSub];unfold iO;have l1:(S++[SO.ins 1 []]).length=S.length+1:=by simp
 have g0:∀(x y:SO),(S++[x,y])[S.length]? =some x:=fun x y=>by rw[List.getElem?_append_right (Nat.le_refl _),Nat.sub_self];rfl
 have g1:∀(x y:SO),(S++[x,y])[S.length+1]? =some y:=fun x y=>by rw[List.getElem?_append_right (by omega),show S.length+1 - S.length=1 by omega];rfl
 have st:∀(x y z:SO),(S++[x,y]).set S.length z=S++[z,y]:=fun x y z=>by rw[List.set_append_right _ _ (Nat.le_refl _),Nat.sub_self];rfl
 have ap:∀(x y:SO),S++[x]++[y]=S++[x,y]:=fun x y=>by simp
 refine aW <| ko (k:=S.length) <| BU <| aD <| bV (d:=aY ins gs os) rfl <| cI <| Kt hc uM ?_ ⟨rfl,?_⟩
 .rw [ap];exact LK hS rfl rfl
 rw[ap];refine w_var (v:= .loc S.length) rfl ⟨_,rfl,g0 _ _,by simp,_,rfl,?_⟩
 rw[st,l1];have hcl:∀fs:List (Str × V3),kz (S.length+2) (fs.map (·.2))=true->jb (S++[.ins 1 fs, .ins 0 (dY c (aY ins gs os))]):=fun fs hf=>LK hS hf rfl
 refine aW <| ko (k:=S.length) <| s_ (k:=S.length+1) <| w_fld (k:=S.length) <| w_var (v:= .loc S.length) rfl ⟨_,_,rfl,g0 _ _,(by show List.lookup qw [(qw,V3.loc (S.length+1))]=_;rw [List.lookup_cons,beq_self_eq_true]),_,rfl,g1 _ _,Lj _ _ (by decide+kernel) (by decide+kernel) (by decide+kernel) (by decide+kernel),?_⟩
 refine aD <| bV (d:= .tup (([]:List Int).map .int)) rfl <| cI <| uc NO hc ho (hcl _ ?_) (g1 _ _) ?_
 .show(decide (S.length+1 < S.length+2) && true)=true;rw[decide_eq_true (by omega)];rfl
 refine w_var (v:= .loc S.length) rfl ⟨_,rfl,g0 _ _,(by decide:1 < 1000),_,rfl,?_⟩
 rw[st];refine ko (k:=S.length) <| bV (d:= .lst ((il gs).map nI)) (cJ (G7 NO.hg rfl)) <| w_var (v:= .loc S.length) rfl ⟨_,rfl,g0 _ _,?_,_,rfl,?_⟩
 .exact(by decide:2 < 1000)
 rw[st];exact h
def gG(safe:Bool):Str:=if safe then "safe" else "right"
def pt(ws:List M)(x:Str × List Nat)(p:Nat):Bool × Bool:=Nw ((tell ws x).map (· p))
def Er(safe:Bool)(c:Nat)(ins:Zm)(gs:List Gt)(os:Zn)(turned:List Int):M:=fun p=>os.any fun x=>brk safe (pt (Wd c ins gs [] []) x p) (pt (Wd c ins gs turned []) x p)
theorem x3{b:Nat}(NO:iq ins gs os)(hc:ins.length=c)(ho:∀x∈os,1<=x.2.length/\x.2.length<=3)(hS:jb S)(hk:S[k]? =some (.ins 1 (gm c ins gs os b)))(hb:S[b]? =some (.ins 0 (dY c (aY ins gs os)))){Q:V3->aP->Prop}
 (h:Q (.d (mI (2 ^ c) (Er safe c ins gs os turned))) S):W3 (cM [.loc k, .d (.tup (turned.map .int)), .d (.str (gG safe))] S) Q:=by
 have hz:sizeLine=16777216:=sizeLine_eq;unfold cM;refine fZ hS (wI rfl ?_);simp only[cA,e8,List.map,List.length,List.replicate,List.cons_append,List.nil_append,Nat.reduceAdd,Nat.reduceSub];unfold gM;have h0:D.int 0=mI (2 ^ c) fun _=>false:=by
  unfold mI;rw[rX.mpr fun _ _=>rfl];rfl
 refine aW <| bB (by simp) <| bV (d:=mI (2 ^ c) fun _=>false) (by rw[<-h0];rfl) ⟨_,rfl,?_⟩
 simp only[List.set];refine aW <| d8 <| Qf <| w_fld (k:=k) <| w_var (v:= .loc k) rfl ⟨_,_,rfl,hk,Iy,?_⟩
 refine s_ (k:=b) <| w_fld (k:=k) <| w_var (v:= .loc k) rfl ⟨_,_,rfl,hk,Am,_,rfl,hb,Lj _ _ (by decide+kernel) (by decide+kernel) (by decide+kernel) (by decide+kernel),?_⟩
 refine aD <| bV (d:= .tup (turned.map .int)) rfl <| cI <| uc NO hc ho hS hb ⟨_,_,_,_,rfl,rfl,rfl,rfl,?_⟩
 have hzip:lL (Ly (2 ^ c) os (Wd c ins gs [] [])) (Ly (2 ^ c) os (Wd c ins gs turned []))=os.map fun x=> .tup [.tup [mI (2 ^ c) (r0 (tell (Wd c ins gs [] []) x)),mI (2 ^ c) (r1 (tell (Wd c ins gs [] []) x))], .tup [mI (2 ^ c) (r0 (tell (Wd c ins gs turned []) x)),mI (2 ^ c) (r1 (tell (Wd c ins gs turned []) x))]]:=by
  unfold lL Ly;rw[List.zip_map',List.map_map];rfl
 rw[hzip];refine(bF (fun i δ S2=>S2=S/\∃a4 a5,δ=[some (.loc k),some (.d (.tup (turned.map .int))),some (.d (.str (gG safe))),some (.d (mI (2 ^ c) fun p=>(os.take i).any fun x=>brk safe (pt (Wd c ins gs [] []) x p) (pt (Wd c ins gs turned []) x p))),a4,a5])
  ⟨rfl,none,none,rfl⟩ ?_).mono fun o S2 ⟨cZ,fH,tQ,a4,a5,hδ⟩=>⟨cZ,fH,?_⟩
 .rintro i v δ S2 hv ⟨rfl,a4,a5,rfl⟩;obtain⟨x,hx,rfl⟩:=NT.dw hv;generalize hm:(fun p=>(os.take i).any fun x=>brk safe (pt (Wd c ins gs [] []) x p) (pt (Wd c ins gs turned []) x p))=m
  have hnext:(fun p=>(os.take (i+1)).any fun x=>brk safe (pt (Wd c ins gs [] []) x p) (pt (Wd c ins gs turned []) x p))=fun p=>m p || brk safe (pt (Wd c ins gs [] []) x p) (pt (Wd c ins gs turned []) x p):=by
   funext p;rw[List.take_add_one,hx,List.any_append,<-hm];simp
  rw[hnext];refine⟨[some (.loc k),some (.d (.tup (turned.map .int))),some (.d (.str (gG safe))),some (.d (mI (2 ^ c) m)),some (.d (.tup [mI (2 ^ c) (r0 (tell (Wd c ins gs [] []) x)),mI (2 ^ c) (r1 (tell (Wd c ins gs [] []) x))])),some (.d (.tup [mI (2 ^ c) (r0 (tell (Wd c ins gs turned []) x)),mI (2 ^ c) (r1 (tell (Wd c ins gs turned []) x))]))],rfl,?_⟩;unfold jP;refine m7 <| qX (b:=safe) (dN (a:= .str (gG safe)) (b:= .str "safe") rfl rfl ?_) ?_
  .show R.ok (D.bl (gG safe=="safe"))=_;congr 2;cases safe <;> decide+kernel
  cases safe with
  | true=>
    rw[if_pos rfl];refine bB (by simp) <| bV (aq (aq (a:=mI (2 ^ c) m) rfl (aq (aq rfl rfl E8) (aq rfl rfl GZ) (vw _ _ _)) (AG _ _ _)) (aq (aq rfl rfl GZ) (aq rfl rfl E8) (vw _ _ _)) (AG _ _ _)) ⟨_,rfl,rfl,some (.d (.tup [mI (2 ^ c) (r0 (tell (Wd c ins gs [] []) x)),mI (2 ^ c) (r1 (tell (Wd c ins gs [] []) x))])),some (.d (.tup [mI (2 ^ c) (r0 (tell (Wd c ins gs turned []) x)),mI (2 ^ c) (r1 (tell (Wd c ins gs turned []) x))])),?_⟩
    simp only[List.set];congr 6;refine A2 fun p _=>?_
    rw[Bool.or_assoc];rfl
  | false=>
    rw[if_neg (by decide)]
    refine bB (by simp) <| bV (aq (aq (a:=mI (2 ^ c) m) rfl (aq (aq rfl rfl E8) (aq rfl rfl E8) (Dt _ _ _)) (AG _ _ _)) (aq (aq rfl rfl GZ) (aq rfl rfl GZ) (Dt _ _ _)) (AG _ _ _)) ⟨_,rfl,rfl,some (.d (.tup [mI (2 ^ c) (r0 (tell (Wd c ins gs [] []) x)),mI (2 ^ c) (r1 (tell (Wd c ins gs [] []) x))])),some (.d (.tup [mI (2 ^ c) (r0 (tell (Wd c ins gs turned []) x)),mI (2 ^ c) (r1 (tell (Wd c ins gs turned []) x))])),?_⟩
    simp only[List.set];congr 6;refine A2 fun p _=>?_
    rw[Bool.or_assoc];rfl
 rw[List.length_map,List.length_map,List.take_length] at hδ;subst hδ tQ;exact eG <| bV (d:=mI (2 ^ c) (Er safe c ins gs os turned)) rfl ⟨_,rfl,by unfold fR;rfl,⟨[],by simp⟩,_,by unfold res;rfl,h⟩
end
end K42
end
section
namespace K42
open PySem PySem.Spec PyProof.Rows L2 L3 MT
def nZ(ps:List Nat):List Int:=ps.map fun(n:Nat)=>(n:Int)
theorem F_(ps:List Nat):(nZ ps).map D.int=ps.map nI:=by unfold nZ;rw [List.map_map];rfl
theorem C7(ps:List Nat)(i:Nat):(nZ ps).contains (i:Int)=ps.contains i:=by
 rw[Bool.eq_iff_iff];unfold nZ;simp only[List.contains_iff_mem,List.mem_map];exact⟨fun⟨a,ha,e⟩=>(by rw[<-Int.ofNat_inj.mp e];exact ha),fun h=>⟨i,h,rfl⟩⟩
section
variable {c:Nat} {ins:Zm} {gs:List Gt} {os:Zn} {S:aP} {k:Nat} {safe:Bool}
def K4(T:List Nat)(p:Nat):D:= .tup [.str "breaks",az T,nI p]
def pX:D:= .tup [.str "bears"]
def lI(safe:Bool)(c:Nat)(ins:Zm)(gs:List Gt)(os:Zn)(T:List Nat):Option D:=
 ((List.range (2 ^ c)).filter (Er safe c ins gs os (nZ T))).head?.map (K4 T)
def bears(safe:Bool)(c:Nat)(ins:Zm)(gs:List Gt)(os:Zn)(m:Nat):D:=
 ((List.range (m+1)).findSome? fun s=>(eW (il gs) s).findSome? (lI safe c ins gs os)).getD pX
theorem uC:(il gs).length<=gs.length:=by
 unfold il;exact Nat.le_trans (List.length_filter_le _ _) (by rw[List.length_range];exact Nat.le_refl _)
theorem pI{f:M}{N:Nat}:jB N f=0↔((List.range N).filter f).head? =none:=by
 rw[rX,List.head?_eq_none_iff,List.filter_eq_nil_iff];exact⟨fun h i hi=>by rw[h i (List.mem_range.mp hi)];decide,fun h i hi=>by have:=h i (List.mem_range.mpr hi);cases hf:f i with | false=>rfl | true=>exact absurd hf this⟩
theorem GB{V8 sz a6:Option V3}{m:V3}{T:List Nat}(NO:iq ins gs os)(hc:ins.length=c)(uM:c<=10)(ho:∀x∈os,1<=x.2.length/\x.2.length<=3)(hS:jb S) :
 W3 (sT [V8,some m,some (.d (.str (gG safe))),some (.loc S.length),sz,some (.d (az T)),a6] (TS S c ins gs os)) fun o S1=>S1=TS S c ins gs os/\(match (lI safe c ins gs os T).map V3.d with | some v=>o= .rt v | none=>∃cZ,o= .nx cZ/\∃b6,cZ=[V8,some m,some (.d (.str (gG safe))),some (.loc S.length),sz,some (.d (az T)),b6]):=by
 have hz:sizeLine=16777216:=sizeLine_eq;have hk:(TS S c ins gs os)[S.length]? =some (.ins 1 (gm c ins gs os (S.length+1))):=by unfold TS;rw [List.getElem?_append_right (Nat.le_refl _),Nat.sub_self];rfl
 have hb:(TS S c ins gs os)[S.length+1]? =some (.ins 0 (dY c (aY ins gs os))):=by unfold TS;rw [List.getElem?_append_right (by omega),show S.length+1 - S.length=1 by omega];rfl
 have hcl:jb (TS S c ins gs os):=LK hS (by
  show(decide (S.length+1 < S.length+2) && true)=true;rw[decide_eq_true (by omega)];rfl) rfl
 unfold sT;refine aW <| bB (by simp) <| s_ (k:=S.length) <| w_var (v:= .loc S.length) rfl ⟨_,rfl,hk,L_ _ (by decide+kernel) (by decide+kernel) (by decide+kernel),?_⟩
 refine aD <| bV (d:= .tup ((nZ T).map .int)) (by rw[F_];rfl) <| aD <| bV (d:= .str (gG safe)) rfl <| cI <| x3 NO hc ho hcl hk hb ⟨_,rfl,?_⟩
 simp only[List.set];generalize hf:Er safe c ins gs os (nZ T)=f;have htry:lI safe c ins gs os T=((List.range (2 ^ c)).filter f).head?.map (K4 T):=by unfold lI;rw [hf]
 refine m7 <| qX (b:=!(decide (jB (2 ^ c) f=0))) (dN (a:=mI (2 ^ c) f) (b:= .int 0) rfl rfl ?_) ?_
 .show R.ok (D.bl (!((jB (2 ^ c) f:Int)==0)))=_;congr 3;by_cases q:jB (2 ^ c) f=0
  .rw [q];rfl
  .rw [decide_eq_false q];exact beq_eq_false_iff_ne.mpr (by omega)
 cases hh:((List.range (2 ^ c)).filter f).head? with
 | none=>
   rw[htry,hh,decide_eq_true (pI.mpr hh),if_neg (by decide)]
   exact fw ⟨rfl,_,rfl,_,rfl⟩
 | some p=>
   have uN:¬jB (2 ^ c) f=0:=fun q=>by rw[pI.mp q] at hh;cases hh
   rw[htry,hh,decide_eq_false uN,if_pos (by decide)]
   refine eG <| Q2 <| aD <| bV (d:= .str "breaks") rfl <| aD <| bV (d:=az T) rfl <| aD <| Qg <| s_ (k:=S.length+1) <| w_fld (k:=S.length) <| w_var (v:= .loc S.length) rfl ⟨_,_,rfl,hk,Am,_,rfl,hb,Lj _ _ (by decide+kernel) (by decide+kernel) (by decide+kernel) (by decide+kernel),?_⟩
   refine aD <| bV (d:=mI (2 ^ c) f) rfl <| cI <| yI uM hcl hb <| bV (d:= .int 0) rfl ⟨_,_,nI p,rfl,rfl,?_,cI ⟨by simp;omega,rfl,rfl⟩⟩
   refine vD ?_;obtain⟨r,hr⟩:∃r,(List.range (2 ^ c)).filter f=p ::r:=by
    cases q:(List.range (2 ^ c)).filter f with
    | nil=>rw [q] at hh;cases hh
    | cons a r=>rw [q] at hh;cases hh;exact⟨r,rfl⟩
   rw[hr,qz (by omega) (by simp)]
   rfl
theorem Af{m:Nat}(NO:iq ins gs os)(hc:ins.length=c)(uM:c<=10)(ho:∀x∈os,1<=x.2.length/\x.2.length<=3)(hg:gs.length<=100)(hm:m<=3)(hS:jb S){Q:V3->aP->Prop}(h:Q (.d (bears safe c ins gs os m)) S) :
 W3 (oC [.d (aY ins gs os), .d (nI m), .d (.str (gG safe))] S) Q:=by
 have hz:sizeLine=16777216:=sizeLine_eq;have hk:(TS S c ins gs os)[S.length]? =some (.ins 1 (gm c ins gs os (S.length+1))):=by unfold TS;rw [List.getElem?_append_right (Nat.le_refl _),Nat.sub_self];rfl
 unfold oC;refine fZ hS (wI rfl ?_);simp only[cA,uE,List.map,List.length,List.replicate,List.cons_append,List.nil_append,Nat.reduceAdd,Nat.reduceSub];unfold yB;refine aW <| bB (by simp) <| BU <| aD <| bV (d:=aY ins gs os) rfl <| cI <| Bt NO hc uM ho hS ⟨rfl,_,rfl,?_⟩
 simp only[List.set];refine oT <| d8 <| ik (ds:=(List.range (m+1)).map nI) ?_ ?_
 .rw [<-gT];exact dM (n:=m+1) (aq (a:=nI m) (b:= .int 1) rfl rfl rfl) (by omega)
 rw[List.map_map];refine(m6 (S:=TS S c ins gs os) (V3.d ∘ nI) (fun s=>((eW (il gs) s).findSome? (lI safe c ins gs os)).map V3.d) (fun δ=>∃a4 a5 a6,δ=[some (.d (aY ins gs os)),some (.d (nI m)),some (.d (.str (gG safe))),some (.loc S.length),a4,a5,a6])
  ⟨_,_,_,rfl⟩ ?_).mono fun o S1 ⟨e1,h1⟩=>?_
 .rintro s hs δ ⟨a4,a5,a6,rfl⟩;rw[List.mem_range] at hs;have J1:(il gs).length<=100:=Nat.le_trans uC hg;have hcs:dt 4 [.lst ((il gs).map nI), .int s]= .ok (.lst ((eW (il gs) s).map az)):=qp 3 s (il gs) (by omega) (by omega) J1
  refine⟨[some (.d (aY ins gs os)),some (.d (nI m)),some (.d (.str (gG safe))),some (.loc S.length),some (.d (nI s)),a5,a6],rfl,?_⟩;unfold xy;refine d8 <| pG <| rJ <| aD <| w_fld (k:=S.length) <| w_var (v:= .loc S.length) rfl ⟨_,_,rfl,hk,Hh,aD <| bV (d:= .int s) rfl <| cI ⟨[.lst ((il gs).map nI), .int s],_,rfl,hcs,_,rfl,?_⟩⟩
  rw[List.map_map];refine(m6 (S:=TS S c ins gs os) (V3.d ∘ az) (fun T=>(lI safe c ins gs os T).map V3.d) (fun δ=>∃a5 a6,δ=[some (.d (aY ins gs os)),some (.d (nI m)),some (.d (.str (gG safe))),some (.loc S.length),some (.d (nI s)),a5,a6])
   ⟨_,_,rfl⟩ ?_).mono fun o S1 ⟨e1,h1⟩=>⟨e1,?_⟩
  .rintro T hT δ ⟨a5,a6,rfl⟩;refine⟨[some (.d (aY ins gs os)),some (.d (nI m)),some (.d (.str (gG safe))),some (.loc S.length),some (.d (nI s)),some (.d (az T)),a6],rfl,?_⟩;refine(GB NO hc uM ho hS).mono fun o S1 ⟨e1,h1⟩=>⟨e1,?_⟩
   cases htt:lI safe c ins gs os T with
   | none=>rw [htt] at h1;obtain⟨cZ,fH,b6,e3⟩:=h1;exact⟨cZ,fH,_,b6,e3⟩
   | some d=>rw [htt] at h1;exact h1
  .have Gv:(eW (il gs) s).findSome? (fun T=>(lI safe c ins gs os T).map V3.d)=((eW (il gs) s).findSome? (lI safe c ins gs os)).map V3.d:=by
    rw[List.map_findSome?];rfl
   rw[Gv] at h1;cases htt:(eW (il gs) s).findSome? (lI safe c ins gs os) with
   | none=>rw [htt] at h1;obtain⟨cZ,fH,b5,b6,e3⟩:=h1;exact⟨cZ,fH,_,b5,b6,e3⟩
   | some d=>rw [htt] at h1;exact h1
 .subst e1;have Gv:(List.range (m+1)).findSome? (fun s=>((eW (il gs) s).findSome? (lI safe c ins gs os)).map V3.d)=((List.range (m+1)).findSome? fun s=>(eW (il gs) s).findSome? (lI safe c ins gs os)).map V3.d:=by
   rw[List.map_findSome?];rfl
  rw[Gv] at h1;unfold bears at h;cases htt:(List.range (m+1)).findSome? fun s=>(eW (il gs) s).findSome? (lI safe c ins gs os) with
  | none=>
    rw[htt] at h1 h;obtain⟨cZ,rfl,b4,b5,b6,rfl⟩:=h1;exact eG <| bV (d:=pX) rfl ⟨_,rfl,by unfold fR;rfl,⟨_,rfl⟩,_,by unfold res;rfl,h⟩
  | some d=>
    rw[htt] at h1 h;subst h1;exact⟨_,rfl,by unfold fR;rfl,⟨_,rfl⟩,_,by unfold res;rfl,h⟩
end
end K42
end
section
namespace K42
open PySem PySem.Spec PyProof.Rows L2 L3 MT
theorem OM{ds:List D}{i:Nat}{x:D}(h:ds[i]? =some x):ur ds (i:Int)=some x:=by
 obtain⟨h1,h2⟩:=List.getElem?_eq_some_iff.mp h;rw[qz (by omega) (by rw[Int.toNat_natCast];exact h1)]
 simp [h2]
section
variable {gs:List Gt}
end
section
variable {S:aP} {q:Nat}
theorem jc{ds:List D}(e:S[q]? =some (.lst ds)):res S (.loc q)=some (.lst ds):=by unfold res;rw [e]
end
theorem AF(ws:List Nat):nV (.tup (ws.map nI))=true:=by
 unfold nV
 induction ws with
 | nil=>unfold ix;rfl
 | cons w ws ih=>rw [List.map_cons];unfold ix;rw [ih];rfl
theorem GQ{f:av->R (List D)}{g:FD}{δ:av}{ds:List D}{n:Nat}(h1:f δ= .ok ds)(h2:g δ= .ok (.int n))(hn:n < 1000000)(hl:ds.length*n<=sizeLine):I_ f g δ= .ok (List.replicate n ds).flatten:=by
 unfold I_;rw[h1,R.aM,h2,R.aM];show R.bN (decide (0<=(n:Int)/\(n:Int) < 1000000/\ds.length*(n:Int).toNat<=sizeLine)) _=_;rw[cg _ ⟨by omega,by omega,by rw[Int.toNat_natCast];exact hl⟩,Int.toNat_natCast]
theorem Nz(g:Gt):nV (gy g)=true:=by
 unfold gy nV ix;rw[show nV (.str _)=true from by unfold nV;rfl]
 unfold ix;rw[AF];unfold ix;rw[show nV (.bl _)=true from by unfold nV;rfl]
 unfold ix;rfl
def Iu(x:Str × Nat):Prop:=(1<=x.2/\x.2<=3)/\cS 0 (.str x.1)
theorem OQ{f g:FB}{δ:DE}{S:aP}{QB:Bool->aP->Prop}(h:W3 (f δ S) fun b S1=>(b=false/\QB false S1)\/(b=true/\W3 (g δ S1) QB)):W3 (ND f g δ S) QB:=W3.bind (h.mono fun b S1 h=>by
 rcases h with⟨e,q⟩ | ⟨e,q⟩
 .subst e;rw [if_neg (by decide)];exact W3.ok q
 .subst e;rw [if_pos rfl];exact q)
theorem g2{S:aP}{a b:SO}:(S++[a,b])[S.length+1]? =some b:=by rw[List.getElem?_append_right (by omega),show S.length+1 - S.length=1 by omega];rfl
theorem s2{S:aP}{a b c:SO}:(S++[a,b]).set (S.length+1) c=S++[a,c]:=by rw[List.set_append_right _ _ (by omega),show S.length+1 - S.length=1 by omega];rfl
theorem t1{S:aP}{a b d:SO}:(S++[a,b,d])[S.length]? =some a:=by rw[List.getElem?_append_right (Nat.le_refl _),Nat.sub_self];rfl
theorem t2{S:aP}{a b d:SO}:(S++[a,b,d])[S.length+1]? =some b:=by rw[List.getElem?_append_right (by omega),show S.length+1 - S.length=1 by omega];rfl
theorem t3{S:aP}{a b d:SO}:(S++[a,b,d])[S.length+2]? =some d:=by rw[List.getElem?_append_right (by omega),show S.length+2 - S.length=2 by omega];rfl
theorem u3{S:aP}{a b d c:SO}:(S++[a,b,d]).set (S.length+2) c=S++[a,b,c]:=by rw[List.set_append_right _ _ (by omega),show S.length+2 - S.length=2 by omega];rfl
theorem xo{δ:DE}{S:aP}{i:Nat}{v:V3}{d:D}(h:δ[i]? =some (some v))(hr:res S v=some d):ae i (fj S δ)= .ok d:=by
 unfold ae fj;rw[List.getElem?_map,h];show(match (some (match res S v with | some d=>Sl.val d | none=> .un)) with | some (.val d)=>R.ok d | _=> .no)=_
 rw[hr]
theorem Iz{g:Gt}:cS 2 (gy g):=by
 refine cS.tup fun x hx=>?_
 simp only[List.mem_cons,List.not_mem_nil,or_false] at hx;rcases hx with rfl | rfl | rfl
 .refine(cS.str ?_).mono (by omega)
  unfold kS;split <;> decide+kernel
 .exact cS.tup fun d hd=>by obtain⟨z,_,rfl⟩:=List.mem_map.mp hd;exact cS.int _
 .exact(cS.bl _).mono (by omega)
def WY(l:Zm)(gs:List Gt):Prop:=∀(i:Nat) (g:Gt),gs[i]? =some g->Gi (ub l+i) g
end K42
end
section
namespace K42
open PySem PySem.Spec PyProof.Rows L2 L3 MT
theorem B_(ps:List Nat):(List.range ps.length).map (fun a=>ps.getD a 0)=ps:=by
 refine List.ext_getElem? fun i=>?_
 rw[List.getElem?_map];by_cases q:i < ps.length
 .rw [List.getElem?_range q];show some (ps.getD i 0)=_;rw[List.getD_eq_getElem?_getD,List.getElem?_eq_getElem q];rfl
 .rw [List.getElem?_eq_none (by simp;omega),List.getElem?_eq_none (by omega)];rfl
theorem B0(gs:List Gt):(il gs).Pairwise (· < ·):=List.Pairwise.filter _ List.pairwise_lt_range
theorem zT{α β:Type}(f:α->β):∀xs:List α,(xs.flatMap fun x=>[f x])=xs.map f
 | []=>rfl
 | x ::xs=>by rw[List.flatMap_cons,zT f xs];rfl
theorem LG(ps:List Nat):eW ps 1=ps.map fun x=>[x]:=by
 show((List.range ps.length).flatMap fun a=>(eW (ps.drop (a+1)) 0).map (ps.getD a 0 ::·))=_
 have:(fun a=>(eW (ps.drop (a+1)) 0).map (ps.getD a 0 ::·))=fun a=>[[ps.getD a 0]]:=by funext a;rfl
 rw[this,zT]
 conv=>rhs;rw [<-B_ ps]
 rw[List.map_map];rfl
theorem t7{free:List Nat}(hs:free.Pairwise (· < ·)){a:Nat}(ha:a < free.length):free.filter (fun o=>decide (o > free.getD a 0))=free.drop (a+1):=by
 have hga:free.getD a 0=free[a]:=by rw[List.getD_eq_getElem?_getD,List.getElem?_eq_getElem ha];rfl
 rw[hga];generalize hx:free[a]=x;have e2:free.filter (fun o=>decide (o > x))=(free.take (a+1)++free.drop (a+1)).filter (fun o=>decide (o > x)):=by rw[List.take_append_drop]
 rw[e2,List.filter_append];subst hx;have h1:(free.take (a+1)).filter (fun o=>decide (o > free[a]))=[]:=by
  rw[List.filter_eq_nil_iff];intro o ho;obtain⟨i,hi,rfl⟩:=List.mem_iff_getElem.mp ho;rw[List.length_take] at hi;rw[List.getElem_take];have hle:free[i]'(by omega)<=free[a]:=by
   rcases Nat.lt_or_ge i a with z | z
   .exact Nat.le_of_lt (List.pairwise_iff_getElem.mp hs i a (by omega) ha z)
   .have:i=a:=by omega
    subst this;exact Nat.le_refl _
  rw[decide_eq_true_eq];omega
 rw[h1,List.nil_append,List.filter_eq_self];intro o ho;obtain⟨i,hi,rfl⟩:=List.mem_iff_getElem.mp ho;rw[List.length_drop] at hi;rw[List.getElem_drop];exact decide_eq_true (List.pairwise_iff_getElem.mp hs a (a+1+i) ha (by omega) (by omega))
def okN(s:List Nat)(o:Nat):Bool:=match s.getLast? with | none=>true | some l=>decide (o > l)
theorem Tf{free:List Nat}(hs:free.Pairwise (· < ·)){a:Nat}(ha:a < free.length){s:List Nat}(h:∀x∈s,x∈free.drop (a+1)):free.filter (okN (free.getD a 0 ::s))=(free.drop (a+1)).filter (okN s):=by
 have hga:free.getD a 0=free[a]:=by rw[List.getD_eq_getElem?_getD,List.getElem?_eq_getElem ha];rfl
 cases s with
 | nil=>
   have e1:okN [free.getD a 0]=fun o=>decide (o > free.getD a 0):=rfl
   have e2:(free.drop (a+1)).filter (okN [])=free.drop (a+1):=by rw[List.filter_eq_self];intro o _;rfl
   rw[e1,t7 hs ha,e2]
 | cons y r=>
   have e1:okN (free.getD a 0 ::y ::r)=okN (y ::r):=by unfold okN;rw [List.getLast?_cons_cons]
   rw[e1];have hl:∃l,(y ::r).getLast? =some l:=⟨_,List.getLast?_eq_some_getLast (by simp)⟩
   obtain⟨l,hl⟩:=hl;have hlm:=h l (List.mem_of_getLast? hl);have hgt:free[a] < l:=by
    obtain⟨i,hi,rfl⟩:=List.mem_iff_getElem.mp hlm;rw[List.length_drop] at hi;rw[List.getElem_drop];exact List.pairwise_iff_getElem.mp hs a (a+1+i) ha (by omega) (by omega)
   have e2:okN (y ::r)=fun o=>decide (o > l):=by unfold okN;rw [hl]
   rw[e2];have e3:free.filter (fun o=>decide (o > l))=(free.take (a+1)++free.drop (a+1)).filter (fun o=>decide (o > l)):=by rw[List.take_append_drop]
   rw[e3,List.filter_append];have h1:(free.take (a+1)).filter (fun o=>decide (o > l))=[]:=by
    rw[List.filter_eq_nil_iff];intro o ho;obtain⟨i,hi,rfl⟩:=List.mem_iff_getElem.mp ho;rw[List.length_take] at hi;rw[List.getElem_take];have hle:free[i]'(by omega)<=free[a]:=by
     rcases Nat.lt_or_ge i a with z | z
     .exact Nat.le_of_lt (List.pairwise_iff_getElem.mp hs i a (by omega) ha z)
     .have:i=a:=by omega
      subst this;exact Nat.le_refl _
    rw[decide_eq_true_eq];omega
   rw[h1,List.nil_append]
theorem kP{α β:Type}{f g:α->List β}:∀{xs:List α},(∀x∈xs,f x=g x)->xs.flatMap f=xs.flatMap g
 | [],_=>rfl
 | x ::xs,h=>by rw[List.flatMap_cons,List.flatMap_cons,h x List.mem_cons_self,kP fun y hy=>h y (List.mem_cons_of_mem _ hy)]
theorem mY{α β γ:Type}(f:α->β)(g:β->List γ):∀xs:List α,(xs.map f).flatMap g=xs.flatMap fun x=>g (f x)
 | []=>rfl
 | x ::xs=>by rw[List.map_cons,List.flatMap_cons,mY f g xs,List.flatMap_cons]
theorem rN{α β γ:Type}(f:β->γ)(g:α->List β):∀xs:List α,(xs.flatMap g).map f=xs.flatMap fun x=>(g x).map f
 | []=>rfl
 | x ::xs=>by rw[List.flatMap_cons,List.map_append,rN f g xs,List.flatMap_cons]
theorem zQ:∀(k:Nat) (free:List Nat),free.Pairwise (· < ·)->eW free (k+1)=(eW free k).flatMap fun s=>(free.filter (okN s)).map fun o=>s++[o]
 | 0,free,_=>by
   rw[LG];show _=([[]]:Zo).flatMap _;rw[List.flatMap_cons,List.flatMap_nil,List.append_nil];have:free.filter (okN [])=free:=by rw[List.filter_eq_self];intro o _;rfl
   rw[this];rfl
 | k+1,free,hs=>by
   show((List.range free.length).flatMap fun a=>(eW (free.drop (a+1)) (k+1)).map (free.getD a 0 ::·))=((List.range free.length).flatMap fun a=>(eW (free.drop (a+1)) k).map (free.getD a 0 ::·)).flatMap _
   rw[List.flatMap_assoc];refine kP fun a ha=>?_
   rw[List.mem_range] at ha;have hd:(free.drop (a+1)).Pairwise (· < ·):=hs.sublist (List.drop_sublist _ _)
   rw[zQ k _ hd,mY,rN];refine kP fun s Sr=>?_
   rw[Tf hs ha (gK Sr).2,List.map_map];rfl
theorem K6{s:List Nat}{l:Nat}(h:s.getLast? =some l)(hl:s.length < 1000):cn (az s) (.int (-1))= .ok (nI l):=by
 refine wt ?_;unfold ur EA;have hp:0 < s.length:=by
  cases s with
  | nil=>cases h
  | cons _ _=>simp
 rw[List.length_map,if_neg (by omega),if_pos (by omega)]
 show(s.map nI)[(((s.length:Int))+ -1).toNat]? =_;rw[List.getElem?_map,show((s.length:Int)+ -1).toNat=s.length - 1 by omega,<-List.getLast?_eq_getElem?,h]
 rfl
theorem eq_nil(s:List Nat):lA (az s) (.tup [])= .ok (.bl s.isEmpty):=by
 have f:cS 1 (az s):=cS.tup fun d hd=>by obtain⟨x,_,rfl⟩:=List.mem_map.mp hd;exact cS.int _
 have f2:cS 1 (.tup []):=cS.tup fun d hd=>by cases hd
 unfold lA;have:Em (az s) (.tup [])= .ok s.isEmpty:=by
  unfold az at f ⊢;rw[IU,f.pl,f.sh (by omega),f2.pl,f2.sh (by omega)]
  cases s with
  | nil=>rfl
  | cons g gs=>rfl
 rw[this];rfl
theorem lu:∀(s:Nat) (ps:List Nat),(eW ps s).length<=2 ^ ps.length
 | 0,ps=>by
   show 1<=_;exact Nat.one_le_two_pow
 | s+1,ps=>by
   have key:∀(n:Nat) (qs:List Nat),qs.length=n->∀s,(∀rs:List Nat,(eW rs s).length<=2 ^ rs.length)->((List.range qs.length).map fun a=>(eW (qs.drop (a+1)) s).length).sum+1<=2 ^ n:=by
    intro n
    induction n with
    | zero=>intro qs hq s _;rw [hq];simp
    | succ n ih=>
      intro qs hq s hs
      match qs,hq with
      | x ::qs,hq=>
        rw[List.length_cons] at hq;have h1:=ih qs (by omega) s hs
        rw[List.length_cons,List.range_succ_eq_map,List.map_cons,List.map_map,List.sum_cons];have h2:=hs qs;have e:((fun a=>(eW ((x ::qs).drop (a+1)) s).length) ∘ Nat.succ)=fun a=>(eW (qs.drop (a+1)) s).length:=rfl
        rw[e,show(x ::qs).drop (0+1)=qs from rfl,Nat.pow_succ]
        have:qs.length=n:=by omega
        rw[this] at h2;omega
   unfold eW;rw[List.length_flatMap];have:(List.range ps.length).map (fun a=>((eW (ps.drop (a+1)) s).map (ps.getD a 0 ::·)).length)=(List.range ps.length).map fun a=>(eW (ps.drop (a+1)) s).length:=List.map_congr_left fun a _=>by rw[List.length_map]
   rw[this];have:=key ps.length ps rfl s fun rs=>lu s rs
   omega
def gU(free:List Nat)(m:Nat):Zo:=(List.range (m+1)).flatMap (eW free)
theorem sj(free:List Nat)(m:Nat):gU free (m+1)=gU free m++eW free (m+1):=by
 unfold gU;rw[List.range_succ,List.flatMap_append];simp
theorem oj{free:List Nat}(h:free.length<=12):∀m,(gU free m).length<=(m+1)*4096
 | 0=>by show([[]]++[]:Zo).length<=_;simp
 | m+1=>by
   have:=oj h m;have h2:=lu (m+1) free;have:2 ^ free.length<=4096:=Nat.pow_le_pow_right (by omega) (by omega:free.length<=12)
   rw[sj,List.length_append];omega
theorem J7{free T:List Nat}{m:Nat}(h:T∈gU free m):T.length<=m/\∀x∈T,x∈free:=by
 unfold gU at h;obtain⟨s,hs,hT⟩:=List.mem_flatMap.mp h;rw[List.mem_range] at hs;obtain⟨h1,h2⟩:=gK hT;exact⟨by omega,h2⟩
end K42
end
section
namespace K42
open PySem PySem.Spec PyProof.Rows L2 L3 MT
def subB(T o:List Nat):Bool:=o.all fun x=>T.contains x
def uD(B:List Nat->Bool)(f:Zo)(T:List Nat):Zo:=if f.any (subB T) then f else if B T then f++[T] else f
def nW(B:List Nat->Bool)(sets:Zo):Zo:=sets.foldl (uD B) []
theorem rP(B:List Nat->Bool):∀(xs f:Zo),(xs.foldl (uD B) f).length<=f.length+xs.length
 | [],f=>by simp
 | x ::xs,f=>by
   have:=rP B xs (uD B f x);rw[List.foldl_cons,List.length_cons];have h2:(uD B f x).length<=f.length+1:=by unfold uD;split <;> (try split) <;> simp
   omega
theorem Eu(B:List Nat->Bool):∀(xs f:Zo),∀T∈xs.foldl (uD B) f,T∈f\/T∈xs
 | [],f,T,h=> .inl h
 | x ::xs,f,T,h=>by
   rw[List.foldl_cons] at h;rcases Eu B xs _ T h with q | q
   .unfold uD at q;split at q
    .exact .inl q
    .split at q
     .rcases List.mem_append.mp q with z | z
      .exact .inl z
      .exact .inr (by rw[List.mem_singleton.mp z];exact List.mem_cons_self)
     .exact .inl q
   .exact .inr (List.mem_cons_of_mem _ q)
theorem BO(x:Nat)(T:List Nat):Bk (nI x) (az T)= .ok (.bl (T.contains x)):=by
 have h:=yO (x:Int) (nZ T);rw[F_,C7] at h;exact h
theorem C3{T o:List Nat}(ho:o.length < 1000):j6 [az T,az o]= .ok (.bl (subB T o)):=by
 have hz:sizeLine=16777216:=sizeLine_eq;unfold j6 xB;refine cL (cv (aA (ds:=[.lst ((o.map fun x=>T.contains x).map .bl)]) (ax (cJ (ck (ds:=o.map nI) (sO rfl) (by rw[List.length_map];omega) ?_)) rfl) ?_))
 .rw [List.map_map];exact NT.eI nI _ fun x _=>⟨[.val (nI x), .val (az T)],rfl,rfl,aq (a:=nI x) (b:=az T) rfl rfl (BO x T)⟩
 .show(match bls? ((o.map fun x=>T.contains x).map D.bl) with | some bs=>R.ok (D.bl (bs.all id)) | none=> .no)=_
  rw[uH];show R.ok (D.bl ((o.map fun x=>T.contains x).all id))=_
  rw[List.all_map];rfl
theorem Ma(xs:Zo):Em (.lst (xs.map az)) (.lst [])= .ok xs.isEmpty:=by
 have f:cS 2 (.lst (xs.map az)):=cS.lst fun d hd=>by
  obtain⟨x,_,rfl⟩:=List.mem_map.mp hd;exact cS.tup fun d hd=>by obtain⟨x,_,rfl⟩:=List.mem_map.mp hd;exact cS.int _
 have f2:cS 1 (.lst []):=cS.lst fun d hd=>by cases hd
 rw[zc,f.pl,f.sh (by omega),f2.pl,f2.sh (by omega)]
 cases xs with
 | nil=>rfl
 | cons g gs=>rfl
theorem Ml(s:List Nat):Em (.lst (s.map nI)) (.lst [])= .ok s.isEmpty:=by
 have f:cS 1 (.lst (s.map nI)):=cS.lst fun d hd=>by obtain⟨x,_,rfl⟩:=List.mem_map.mp hd;exact cS.int _
 have f2:cS 1 (.lst []):=cS.lst fun d hd=>by cases hd
 rw[zc,f.pl,f.sh (by omega),f2.pl,f2.sh (by omega)]
 cases s with
 | nil=>rfl
 | cons g gs=>rfl
theorem sE{a b:D}{k:Bool}(h:Em a b= .ok k):lA a b= .ok (.bl k):=by unfold lA;rw [h];rfl
theorem Ax{a b:D}{k:Bool}(h:Bk a b= .ok (.bl k)):sP a b= .ok (.bl (!k)):=by
 unfold Bk at h;unfold sP;cases q:inD a b with
 | ok c=>rw [q] at h;cases h;rfl
 | ex c=>rw [q] at h;cases h
 | no=>rw [q] at h;cases h
theorem He(T:List Nat):nV (az T)=true:=AF T
theorem My:∀xs:Zo,ix (xs.map az)=true
 | []=>by rw[List.map_nil];unfold ix;rfl
 | x ::xs=>by rw[List.map_cons];unfold ix;rw [He,My xs];rfl
section
variable {c:Nat} {l:Zm} {gs:List Gt} {os:Zn} {S:aP} {safe:Bool} {m:Nat}
def BT(safe:Bool)(c:Nat)(l:Zm)(gs:List Gt)(os:Zn)(T:List Nat):Bool:=!(decide (jB (2 ^ c) (Er safe c l gs os (nZ T))=0))
def er(safe:Bool)(c:Nat)(l:Zm)(gs:List Gt)(os:Zn)(m:Nat):Zo:=nW (BT safe c l gs os) (gU (il gs) m)
theorem Wf(f:M)(N:Nat):EC (mI N f) (.int 0)= .ok (.bl (!(decide (jB N f=0)))):=by
 show R.ok (D.bl (!((jB N f:Int)==0)))=_;congr 3;by_cases q:jB N f=0
 .rw [q];rfl
 .rw [decide_eq_false q];exact beq_eq_false_iff_ne.mpr (by omega)
theorem qu{xs:Zo}{B:List Nat->Bool}(hx:∀T∈xs,T.length < 1000):∀o∈nW B xs,o.length < 1000:=fun o ho=>by
 rcases Eu B xs [] o ho with q | q
 .cases q
 .exact hx o q
theorem yh(B:List Nat->Bool)(xs:Zo)(T:List Nat):nW B (xs++[T])=uD B (nW B xs) T:=by unfold nW;rw [List.foldl_append];rfl
theorem wc{free:List Nat}(hm:m<=12):∀T∈gU free m,T.length < 1000:=fun T hT=>by have:=(J7 hT).1;omega
def yE(nt mm lv:D)(n:Nat)(a5 a6:Option V3):DE:=[some (.d nt),some (.d mm),some (.d lv),some (.loc n),some (.loc (n+2)),a5,a6]
def YS(S:aP)(c:Nat)(l:Zm)(gs:List Gt)(os:Zn)(f:Zo):aP:=S++[.ins 1 (gm c l gs os (S.length+1)), .ins 0 (dY c (aY l gs os)), .lst (f.map az)]
theorem Nk(hS:jb S)(f:Zo):jb (YS S c l gs os f):=by
 have:YS S c l gs os f=S++[.ins 1 (gm c l gs os (S.length+1)), .ins 0 (dY c (aY l gs os))]++[.lst (f.map az)]:=by unfold YS;simp
 rw[this];refine jb.push (LK hS ?_ rfl) (El _);show(decide (S.length+1 < S.length+2) && true)=true;rw[decide_eq_true (by omega)];rfl
theorem HQ{mm:D}{f:Zo}{T:List Nat}{a5:Option V3}(NO:iq l gs os)(hc:l.length=c)(ho:∀x∈os,1<=x.2.length/\x.2.length<=3)(hS:jb S)(Gv:∀o∈f,o.length < 1000)(V7:f.length < 100000) :
 W3 (nA (yE (aY l gs os) mm (.str (gG safe)) S.length a5 (some (.d (az T)))) (YS S c l gs os f)) fun o S2=>o= .nx (yE (aY l gs os) mm (.str (gG safe)) S.length a5 (some (.d (az T))))/\S2=YS S c l gs os (uD (BT safe c l gs os) f T):=by
 have hz:sizeLine=16777216:=sizeLine_eq;have hg:(YS S c l gs os f)[S.length+2]? =some (.lst (f.map az)):=t3;have hk:(YS S c l gs os f)[S.length]? =some (.ins 1 (gm c l gs os (S.length+1))):=t1;have hb:(YS S c l gs os f)[S.length+1]? =some (.ins 0 (dY c (aY l gs os))):=t2;unfold nA;refine m7 <| Q8 (b:=f.any (subB T)) ?_ ?_
 .have e:aS HL (ak (eNew (cO (cq (ae 4)) (aI 0) j4 (aS j6 (ak (ae 1) (ak (ae 0) aJ))) ["others"] [6])) aJ) (fj (YS S c l gs os f) (yE (aY l gs os) mm (.str (gG safe)) S.length a5 (some (.d (az T)))))= .ok (.bl (f.any (subB T))):=by
   refine aA (ds:=[.lst ((f.map (subB T)).map .bl)]) (ax (cJ (ck (ds:=f.map az) (dC (xo rfl (jc hg))) (by rw[List.length_map];omega) ?_)) rfl) ?_
   .rw [List.map_map];exact NT.eI az _ fun o De=>⟨[.val (az o), .val (az T)],rfl,rfl,aA (ds:=[az T,az o]) rfl (C3 (Gv o De))⟩
   .show(match bls? ((f.map (subB T)).map D.bl) with | some bs=>R.ok (D.bl (bs.any id)) | none=> .no)=_
    rw[uH];show R.ok (D.bl ((f.map (subB T)).any id))=_;rw[List.any_map];rfl
  unfold ym;rw[e];rfl
 unfold uD;cases hany:f.any (subB T) with
 | true=>rw [if_pos rfl,if_pos rfl];exact fw ⟨rfl,rfl⟩
 | false=>
   rw[if_neg (by decide),if_neg (by decide)]
   refine m7 <| Cu <| s_ (k:=S.length) <| w_var (v:= .loc S.length) rfl ⟨_,rfl,hk,L_ _ (by decide+kernel) (by decide+kernel) (by decide+kernel),?_⟩
   refine aD <| bV (d:= .tup ((nZ T).map .int)) (by rw[F_];rfl) <| aD <| bV (d:= .str (gG safe)) rfl <| cI <| x3 NO hc ho (Nk hS f) hk hb <| bV (d:= .int 0) rfl ⟨_,_,_,rfl,rfl,Wf _ _,?_⟩
   show if BT safe c l gs os T then _ else _
   cases BT safe c l gs os T with
   | true=>
     rw[if_pos rfl,if_pos rfl];refine nM (k:=S.length+2) rfl ⟨_,hg⟩ <| bV (d:=az T) rfl ⟨_,_,rfl,hg,by rw[List.length_map];omega,rfl,?_⟩
     unfold YS;rw[u3,List.map_append];rfl
   | false=>rw [if_neg (by decide),if_neg (by decide)];exact fw ⟨rfl,rfl⟩
theorem Cd(NO:iq l gs os)(hc:l.length=c)(uM:c<=10)(ho:∀x∈os,1<=x.2.length/\x.2.length<=3)(hg:gs.length<=12)(hm:m<=3)(hS:jb S){Q:V3->aP->Prop}(h:Q (.loc (S.length+2)) (YS S c l gs os (er safe c l gs os m))) :
 W3 (oJ [.d (aY l gs os), .d (nI m), .d (.str (gG safe))] S) Q:=by
 have hz:sizeLine=16777216:=sizeLine_eq;have J1:(il gs).length<=12:=Nat.le_trans uC hg;unfold oJ;refine wI rfl ?_;simp only[cA,iI,List.map,List.length,List.replicate,List.cons_append,List.nil_append,Nat.reduceAdd,Nat.reduceSub];unfold mV;refine aW <| bB (by simp) <| BU <| aD <| bV (d:=aY l gs os) rfl <| cI <| Bt NO hc uM ho hS ⟨rfl,_,rfl,?_⟩
 simp only[List.set];refine aW <| bB (by simp) <| mh (ds:=[]) rfl ⟨_,rfl,?_⟩
 simp only[List.set];have e0:TS S c l gs os++[SO.lst []]=YS S c l gs os []:=by unfold TS YS;simp
 have el:(TS S c l gs os).length=S.length+2:=by unfold TS;simp
 rw[e0,el];show W3 (bw _ _ (yE (aY l gs os) (nI m) (.str (gG safe)) S.length none none) _) _;generalize hB:BT safe c l gs os=B;have hbl:∀i,i<=4->∀j,(nW B ((List.range i).flatMap (eW (il gs))++(eW (il gs) i).take j)).length<=32768:=fun i hi j=>by
  have h1:=rP B ((List.range i).flatMap (eW (il gs))++(eW (il gs) i).take j) [];have h2:(List.range i).flatMap (eW (il gs))=if i=0 then [] else gU (il gs) (i - 1):=by
   cases i with
   | zero=>rfl
   | succ i=>rw [if_neg (by omega)];rfl
  have h3:((List.range i).flatMap (eW (il gs))).length<=16384:=by
   rw[h2];split
   .simp
   .have:=oj J1 (i - 1);have:(i - 1+1)*4096<=4*4096:=Nat.mul_le_mul_right _ (by omega)
    omega
  have h4:((eW (il gs) i).take j).length<=4096:=by
   rw[List.length_take];have:=lu i (il gs);have:2 ^ (il gs).length<=4096:=Nat.pow_le_pow_right (by omega) (by omega:(il gs).length<=12)
   omega
  rw[List.length_append] at h1;unfold nW;simp only[List.length_nil] at h1;omega
 refine aW <| d8 <| ik (ds:=gq 0 (m+1)) (dM (n:=m+1) (aq (a:=nI m) (b:= .int 1) rfl rfl rfl) (by omega)) ?_
 refine(bF (fun i δ S2=>S2=YS S c l gs os (nW B ((List.range i).flatMap (eW (il gs))))/\∃a5 a6,δ=yE (aY l gs os) (nI m) (.str (gG safe)) S.length a5 a6)
  ⟨rfl,_,_,rfl⟩ ?_).mono fun o S2 ⟨cZ,fH,tQ,a5,a6,hδ⟩=>⟨cZ,fH,?_⟩
 .rintro i v δ S2 hv ⟨rfl,a5,a6,rfl⟩;obtain⟨hi,rfl⟩:=NT.GL hv;refine⟨yE (aY l gs os) (nI m) (.str (gG safe)) S.length (some (.d (.int i))) a6,rfl,?_⟩;have hcs:dt 4 [.lst ((il gs).map nI), .int i]= .ok (.lst ((eW (il gs) i).map az)):=qp 3 i (il gs) (by omega) (by omega) (by omega)
  unfold rQ;refine d8 <| pG <| rJ <| aD <| w_fld (k:=S.length) <| w_var (v:= .loc S.length) rfl ⟨_,_,rfl,t1,Hh,aD <| bV (d:= .int i) rfl <| cI ⟨[.lst ((il gs).map nI), .int i],_,rfl,hcs,_,rfl,?_⟩⟩
  refine(bF (fun j δ S3=>S3=YS S c l gs os (nW B ((List.range i).flatMap (eW (il gs))++(eW (il gs) i).take j))/\∃a6,δ=yE (aY l gs os) (nI m) (.str (gG safe)) S.length (some (.d (.int i))) a6)
   ⟨by simp,_,rfl⟩ ?_).mono fun o S3 ⟨EL,e3,EH,b6,wG⟩=>⟨EL,e3,?_,_,_,wG⟩
  .rintro j v δ S3 hv ⟨rfl,b6,rfl⟩;obtain⟨T,hT,rfl⟩:=NT.dw hv;refine⟨yE (aY l gs os) (nI m) (.str (gG safe)) S.length (some (.d (.int i))) (some (.d (az T))),rfl,?_⟩;refine(HQ NO hc ho hS (qu fun o De=>?_) (Nat.lt_of_le_of_lt (hbl i (by omega) j) (by omega))).mono fun o S4 ⟨e4,MH⟩=>⟨_,e4,?_,_,rfl⟩
   .rcases List.mem_append.mp De with q | q
    .obtain⟨s,hs,hq⟩:=List.mem_flatMap.mp q;rw[List.mem_range] at hs;rw[(gK hq).1];omega
    .rw [(gK (List.mem_of_mem_take q)).1];omega
   .rw [MH,hB,List.take_add_one,hT,<-List.append_assoc,show(some T).toList=[T] from rfl,yh]
  .rw [List.length_map,List.length_map,List.take_length] at EH;rw[EH,List.range_succ,List.flatMap_append];simp
 .subst hδ tQ;rw[NT.G9];unfold yE;refine eG <| w_var (v:= .loc (S.length+2)) rfl ⟨_,rfl,?_⟩
  rw[<-hB];exact h
theorem uY(NO:iq l gs os)(hc:l.length=c)(uM:c<=10)(ho:∀x∈os,1<=x.2.length/\x.2.length<=3)(hg:gs.length<=12)(hm:m<=3)(hS:jb S){Q:V3->aP->Prop}(h:Q (.d (.lst ((er safe c l gs os m).map az))) S) :
 W3 (gB [.d (aY l gs os), .d (nI m), .d (.str (gG safe))] S) Q:=by
 have e:gB [.d (aY l gs os), .d (nI m), .d (.str (gG safe))] S=pN iI mV [.d (aY l gs os), .d (nI m), .d (.str (gG safe))] S:=rfl;rw[e];refine fZ hS ?_;refine Cd NO hc uM ho hg hm hS ⟨?_,⟨_,rfl⟩,_,jc t3,h⟩;show decide (S.length<=S.length+2)=true;exact decide_eq_true (by omega)
end
end K42
end
section
namespace K42
open PySem PySem.Spec PyProof.Rows L2 L3 MT
theorem G_{x:Str × Nat}(h:Iu x):cS 1 (MT.inD x):=cS.tup fun d hd=>by
 simp only[List.mem_cons,List.not_mem_nil,or_false] at hd;rcases hd with rfl | rfl
 .exact h.2
 .exact cS.int _
theorem Hf{x:Str × List Nat}(h:cS 0 (.str x.1)):cS 2 (Fm x):=cS.tup fun d hd=>by
 simp only[List.mem_cons,List.not_mem_nil,or_false] at hd;rcases hd with rfl | rfl
 .exact h.mono (by omega)
 .exact cS.tup fun d hd=>by obtain⟨z,_,rfl⟩:=List.mem_map.mp hd;exact cS.int _
theorem Q1(xs:Zo):cS 2 (.lst (xs.map az)):=cS.lst fun d hd=>by
 obtain⟨x,_,rfl⟩:=List.mem_map.mp hd;exact cS.tup fun d hd=>by obtain⟨x,_,rfl⟩:=List.mem_map.mp hd;exact cS.int _
end K42
end
section
namespace K42
open PySem PySem.Spec PyProof.Rows L2 L3 MT
def hit(T G:List Nat):Bool:=G.any fun x=>T.contains x
def fM(groups:Zo)(T:List Nat):Bool:=groups.all (hit T)
theorem yU{T G:List Nat}:hit T G=true↔∃x∈G,x∈T:=by
 unfold hit;rw[List.any_eq_true];exact⟨fun⟨x,h1,h2⟩=>⟨x,h1,by simpa using h2⟩,fun⟨x,h1,h2⟩=>⟨x,h1,by simpa using h2⟩⟩
theorem f_{groups:Zo}{T:List Nat}:fM groups T=true↔∀G∈groups,∃x∈G,x∈T:=by
 unfold fM;rw[List.all_eq_true];exact⟨fun h G hG=>yU.mp (h G hG),fun h G hG=>yU.mpr (h G hG)⟩
structure Good (free:List Nat) (groups:Zo):Prop where
 so:free.Pairwise (· < ·)
 g:∀G∈groups,G≠[]/\G.Sublist free
def gD(G:List Nat):D:= .lst (G.map nI)
def uo(groups:Zo):D:= .lst (groups.map gD)
def dK(ks:List Nat):List (Key × D):=ks.map fun(k:Nat)=>((Sum.inl (k:Int):Key),D.bl true)
def sQ(ks:List Nat)(x:Nat):List Nat:=if ks.contains x then ks else ks++[x]
theorem Na(k x:Nat):decide ((Sum.inl (k:Int):Key)=Sum.inl (x:Int))=(k==x):=by
 by_cases q:k=x
 .subst q;simp
 .have:¬(Sum.inl (k:Int):Key)=Sum.inl (x:Int):=fun e=>q (by have:=Sum.inl.inj e;omega)
  rw[decide_eq_false this];exact(beq_eq_false_iff_ne.mpr q).symm
theorem HF(ks:List Nat)(x:Nat):((dK ks).any fun kv=>decide (kv.1=(Sum.inl (x:Int):Key)))=ks.contains x:=by
 unfold dK;rw[List.any_map]
 induction ks with
 | nil=>rfl
 | cons k ks ih=>
   rw[List.any_cons,List.contains_cons,ih];congr 1;show decide ((Sum.inl (k:Int):Key)=Sum.inl (x:Int))=(x==k);rw[Na];rw[Bool.eq_iff_iff,beq_iff_eq,beq_iff_eq];exact⟨Eq.symm,Eq.symm⟩
theorem Ir(ks:List Nat)(x:Nat):v_ (dK ks) (Sum.inl (x:Int)) (.bl true)=dK (sQ ks x):=by
 unfold v_;rw[HF];unfold sQ;by_cases q:ks.contains x=true
 .rw [if_pos q,if_pos q];unfold dK;rw[List.map_map];refine List.map_congr_left fun k _=>?_
  show(if(Sum.inl (k:Int):Key)=Sum.inl (x:Int) then((Sum.inl (k:Int):Key),D.bl true) else((Sum.inl (k:Int):Key),D.bl true))=_
  split <;> rfl
 .rw [if_neg q,if_neg q];unfold dK;rw[List.map_append];rfl
theorem zY{ks:List Nat}{x y:Nat}:y∈sQ ks x↔y∈ks\/y=x:=by
 unfold sQ;split
 .rename_i h;have h:x∈ks:=by simpa using h
  exact⟨.inl,fun z=>z.elim id fun e=>by subst e;exact h⟩
 .simp
theorem K5{ks:List Nat}{x:Nat}(h:ks.Nodup):(sQ ks x).Nodup:=by
 unfold sQ;split
 .exact h
 .rename_i hx;have hx:x ∉ ks:=by simpa using hx
  rw[List.nodup_append];exact⟨h,by simp,fun a ha b hb=>by rw[List.mem_singleton.mp hb];intro e;subst e;exact hx ha⟩
theorem Hx{ks:List Nat}{x:Nat}:(sQ ks x).length<=ks.length+1:=by unfold sQ;split <;> simp
def lK(ks G:List Nat):List Nat:=G.foldl sQ ks
theorem ql:∀{G ks:List Nat} {y:Nat},y∈lK ks G↔y∈ks\/y∈G
 | [],ks,y=>by simp [lK]
 | x ::G,ks,y=>by
   show y∈lK (sQ ks x) G↔_;rw[ql,zY,List.mem_cons,or_assoc]
theorem qo:∀{G ks:List Nat},(lK ks G).length<=ks.length+G.length
 | [],ks=>by simp [lK]
 | x ::G,ks=>by
   show(lK (sQ ks x) G).length<=_;have:=qo (G:=G) (ks:=sQ ks x);have:=Hx (ks:=ks) (x:=x);rw[List.length_cons];omega
theorem wM{T:List Nat}{p q:Nat->Bool}(h:∀x∈T,p x=true->q x=true){x:Nat}(hx:x∈T)(h1:p x=false)(h2:q x=true):(T.filter p).length+1<=(T.filter q).length:=by
 induction T with
 | nil=>cases hx
 | cons y T ih=>
   rcases List.mem_cons.mp hx with rfl | Pe
   .have hle:(T.filter p).length<=(T.filter q).length:=by
     clear ih hx
     induction T with
     | nil=>exact Nat.le_refl _
     | cons z T ih=>
       have ih':=ih fun w hw=>h w (by rcases List.mem_cons.mp hw with e | e;exact e▸List.mem_cons_self;exact List.mem_cons_of_mem _ (List.mem_cons_of_mem _ e))
       have hz:=h z (List.mem_cons_of_mem _ List.mem_cons_self);rw[List.filter_cons,List.filter_cons];cases hp:p z with
       | true=>rw [if_pos rfl,if_pos (hz hp),List.length_cons,List.length_cons];omega
       | false=>
         rw[if_neg (by decide)]
         split
         .rw [List.length_cons];omega
         .exact ih'
    rw[List.filter_cons,if_neg (by rw[h1];decide),List.filter_cons,if_pos h2,List.length_cons]
    omega
   .have ih':=ih (fun z hz=>h z (List.mem_cons_of_mem _ hz)) Pe
    have hy:=h y List.mem_cons_self;rw[List.filter_cons,List.filter_cons];cases hp:p y with
    | true=>rw [if_pos rfl,if_pos (hy hp),List.length_cons,List.length_cons];omega
    | false=>
      rw[if_neg (by decide)]
      split
      .rw [List.length_cons];omega
      .exact ih'
section
variable {S:aP} {groups:Zo} {free:List Nat}
def cE(gs:D)(n:Nat)(c:D)(a3 a4:Option V3):DE:=[some (.d gs),some (.loc n),some (.d c),a3,a4]
theorem Ja(hG:Good free groups)(hf:free.length<=12)(hl:groups.length<=20000)(hS:jb S){Q:V3->aP->Prop}
 (h:∀c:Nat,(∀T,fM groups T=true->c<=T.length)->(groups≠[]->1<=c)->Q (.d (nI c)) S):W3 (g6 [.d (uo groups)] S) Q:=by
 have hz:sizeLine=16777216:=sizeLine_eq;unfold g6;refine fZ hS (wI rfl ?_);simp only[cA,gc,List.map,List.length,List.replicate,List.cons_append,List.nil_append,Nat.reduceAdd,Nat.reduceSub];unfold lR;refine aW <| bB (by simp) <| IB ⟨_,rfl,?_⟩
 simp only[List.set];refine aW <| bB (by simp) <| bV (d:=nI 0) rfl ⟨_,rfl,?_⟩
 simp only[List.set];refine aW <| d8 <| ik (ds:=groups.map gD) (dC rfl) ?_
 refine(bF (fun i δ S2=>∃(ks:List Nat) (c:Nat) (a3 a4:Option V3),S2=S++[SO.dct (dK ks)]/\ks.length<=12*i/\(∀T,fM groups T=true->c<=(T.filter fun x=>ks.contains x).length)/\(0 < i->1<=c)/\(i=0->ks=[])/\δ=cE (uo groups) S.length (nI c) a3 a4)
  ⟨[],0,none,none,rfl,by simp,fun T _=>by omega,fun z=>by omega,fun _=>rfl,rfl⟩ ?_).mono fun o S2 ⟨cZ,fH,ks,c,a3,a4,tQ,hkl,hc,uM,_,hδ⟩=>⟨cZ,fH,?_⟩
 .rintro i v δ S2 hv ⟨ks,c,a3,a4,rfl,hkl,hc,uM,Xz,rfl⟩;obtain⟨G,hGi,rfl⟩:=NT.dw hv;have hil:=(List.getElem?_eq_some_iff.mp hGi).1;have zu:=List.mem_of_getElem? hGi;obtain⟨hGn,hGs⟩:=hG.g G zu;have hGl:G.length<=12:=Nat.le_trans hGs.length_le hf;have hg:(S++[SO.dct (dK ks)])[S.length]? =some (.dct (dK ks)):=bg _ _;refine⟨cE (uo groups) S.length (nI c) (some (.d (gD G))) a4,rfl,?_⟩;unfold nS;refine m7 <| w_not <| L9 <| rJ <| aD <| j1 (fun j ds S3=>S3=S++[SO.dct (dK ks)]/\ds=((G.map fun x=>ks.contains x).take j).map .bl) (ik (ds:=G.map nI) (dC rfl) ⟨by rw[List.length_map,List.length_map];omega,⟨rfl,by simp⟩,?_,?_⟩)
  .rintro j u ds S3 hu ⟨rfl,rfl⟩;obtain⟨x,hx,rfl⟩:=NT.dw hu;refine⟨[some (.d (nI x)),some (.loc S.length)],rfl,wj ?_⟩;rw[if_pos rfl];refine Q9 <| bV (d:=nI x) rfl <| w_var (v:= .loc S.length) rfl ⟨_,_,_,rfl,rfl,hg,_,rfl,rfl,?_⟩
   rw[HF,List.take_add_one,List.getElem?_map,hx,List.map_append];rfl
  .rintro ds S3 ⟨rfl,rfl⟩;rw[List.length_map,List.length_map,List.take_of_length_le (by simp)]
   refine cI ⟨[.lst ((G.map fun x=>ks.contains x).map .bl)], .bl (G.any fun x=>ks.contains x),rfl,?_,_,_,rfl,rfl,?_⟩
   .show(match bls? ((G.map fun x=>ks.contains x).map D.bl) with | some bs=>R.ok (D.bl (bs.any id)) | none=> .no)=_
    rw[uH];show R.ok (D.bl ((G.map fun x=>ks.contains x).any id))=_
    rw[List.any_map];rfl
   cases hany:G.any fun x=>ks.contains x with
   | true=>
     rw[if_neg (by decide)]
     refine fw ⟨_,rfl,ks,c,_,_,rfl,by omega,hc,fun _=>?_,fun z=>by omega,rfl⟩
     refine uM (Nat.pos_of_ne_zero fun z=>?_)
     rw[Xz z] at hany;obtain⟨x,_,hx⟩:=List.any_eq_true.mp hany;simp at hx
   | false=>
     rw[if_pos (by decide)]
     have hdis:∀x∈G,ks.contains x=false:=fun x hx=>by
      cases q:ks.contains x with
      | false=>rfl
      | true=>have:=List.any_eq_true.mpr ⟨x,hx,q⟩;rw [hany] at this;cases this
     refine aW <| bB (by unfold cE;simp only[List.length_cons,List.length_nil];omega) <| bV (d:=nI (c+1)) (aq (a:=nI c) (b:= .int 1) rfl rfl rfl) ⟨_,rfl,?_⟩
     show W3 (gn _ _ _ (cE (uo groups) S.length (nI (c+1)) (some (.d (gD G))) a4) _) _;refine d8 <| ik (ds:=G.map nI) (dC rfl) ?_
     refine(bF (fun j δ S3=>∃b4,S3=S++[SO.dct (dK (lK ks (G.take j)))]/\δ=cE (uo groups) S.length (nI (c+1)) (some (.d (gD G))) b4)
      ⟨a4,rfl,rfl⟩ ?_).mono fun o S3 ⟨EL,e3,b4,EH,wG⟩=>⟨EL,e3,lK ks G,c+1,some (.d (gD G)),b4,?_,?_,?_,fun _=>by omega,fun z=>by omega,wG⟩
     .rintro j u δ S3 hu ⟨b4,rfl,rfl⟩;obtain⟨x,hx,rfl⟩:=NT.dw hu;refine⟨cE (uo groups) S.length (nI (c+1)) (some (.d (gD G))) (some (.d (nI x))),rfl,?_⟩;unfold nR;have hlen:=qo (G:=G.take j) (ks:=ks);rw[List.length_take] at hlen;refine HM <| bV (d:= .bl true) rfl <| w_var (v:= .loc S.length) rfl <| bV (d:=nI x) rfl ⟨_,_,_,_,rfl,rfl,rfl,bg _ _,by unfold dK;rw [List.length_map];omega,_,rfl,_,?_,rfl⟩
      rw[dA,Ir,List.take_add_one,hx];unfold lK;rw[List.foldl_append];rfl
     .rw [List.length_map,List.length_map,List.take_length] at EH;exact EH
     .have:=qo (G:=G) (ks:=ks);omega
     .intro T hT;obtain⟨x,L0,hxT⟩:=f_.mp hT G zu;have h1:=hc T hT;have h2:=wM (T:=T) (p:=fun x=>ks.contains x) (q:=fun x=>(lK ks G).contains x) (fun y _ hy=>by
       have hy:y∈ks:=by simpa using hy
       simpa using ql.mpr (.inl hy)) hxT (hdis x L0) (by simpa using ql.mpr (.inr L0))
      omega
 .subst hδ tQ;rw[List.length_map,List.length_map] at uM;unfold cE;refine eG <| bV (d:=nI c) rfl ⟨_,rfl,by unfold fR;rfl,⟨_,rfl⟩,_,by unfold res;rfl,h c (fun T hT=>Nat.le_trans (hc T hT) (List.length_filter_le _ _)) fun uN=>uM (List.length_pos_iff.mpr uN)⟩
end
end K42
end
section
namespace K42
open PySem PySem.Spec PyProof.Rows L2 L3 MT
def fr(free:List Nat)(x:Nat):List Nat:=free.filter fun y=>decide (y > x)
def left(groups:Zo)(x:Nat):Zo:=(groups.filter fun G=>!G.contains x).map fun G=>fr G x
def kq(free:List Nat)(s:Nat)(groups:Zo):Option (List Nat):=(eW free s).find? (fM groups)
def K7(free:List Nat)(groups:Zo)(m:Nat):Option (List Nat)->Prop
 | none=>∀T:List Nat,T.Sublist free->fM groups T=true->m < T.length
 | some T0=>T0.Sublist free/\fM groups T0=true/\T0.length<=m/\((∀T:List Nat,T.Sublist free->fM groups T=true->m<=T.length)->kq free m groups=some T0)
theorem Ds:∀{T free:List Nat},T.Sublist free->T∈eW free T.length
 | [],free,_=>by unfold eW;simp
 | x ::T,free,h=>by
   induction free with
   | nil=>cases h
   | cons y free ih=>
     have hstep:eW (y ::free) (x ::T).length=(eW free T.length).map (y ::·)++eW free (x ::T).length:=by
      show((List.range (y ::free).length).flatMap fun a=>(eW ((y ::free).drop (a+1)) T.length).map ((y ::free).getD a 0 ::·))=_
      rw[List.length_cons,List.range_succ_eq_map,List.flatMap_cons];congr 1;show(List.map Nat.succ (List.range free.length)).flatMap _=(List.range free.length).flatMap fun a=>(eW (free.drop (a+1)) T.length).map (free.getD a 0 ::·)
      rw[mY];rfl
     rw[hstep];cases h with
     | cons _ h=>exact List.mem_append_right _ (ih h)
     | cons_cons _ h=>exact List.mem_append_left _ (List.mem_map_of_mem (Ds h))
theorem rq:∀(s:Nat) (free T:List Nat),T∈eW free s->T.Sublist free
 | 0,free,T,h=>by unfold eW at h;rw [List.mem_singleton.mp h];exact List.nil_sublist _
 | s+1,free,T,h=>by
   unfold eW at h;obtain⟨a,ha,h⟩:=List.mem_flatMap.mp h;obtain⟨R,hR,rfl⟩:=List.mem_map.mp h;rw[List.mem_range] at ha;have:=rq s _ R hR;have e:free.drop a=free.getD a 0 ::free.drop (a+1):=by
    rw[List.drop_eq_getElem_cons ha,List.getD_eq_getElem?_getD,List.getElem?_eq_getElem ha];rfl
   exact(e▸List.Sublist.cons_cons _ this).trans (List.drop_sublist a free)
theorem ox{free:List Nat}{x y:Nat}:y∈fr free x↔y∈free/\x < y:=by unfold fr;rw [List.mem_filter];simp
theorem Ji{free R:List Nat}{x:Nat}(hs:free.Pairwise (· < ·))(h:(x ::R).Sublist free):x∈free/\R.Sublist (fr free x):=by
 refine⟨h.subset List.mem_cons_self,?_⟩;have hp:=(hs.sublist h);have hR:R=R.filter fun y=>decide (y > x):=by
  rw[eq_comm,List.filter_eq_self];intro y hy;exact decide_eq_true ((List.pairwise_cons.mp hp).1 y hy)
 rw[hR];exact((List.sublist_cons_self x R).trans h).filter _
theorem xY{x:Nat}:∀{free:List Nat},free.Pairwise (· < ·)->x∈free->(x ::fr free x).Sublist free
 | [],_,h=>by cases h
 | y ::f,hs,h=>by
   obtain⟨h1,h2⟩:=List.pairwise_cons.mp hs;rcases List.mem_cons.mp h with rfl | hx
   .unfold fr;rw[List.filter_cons,if_neg (by simp)]
    exact List.Sublist.cons_cons _ List.filter_sublist
   .have hlt:=h1 x hx;unfold fr;rw[List.filter_cons,if_neg (by simp;omega)]
    exact(xY h2 hx).cons y
theorem uW{free R:List Nat}{x:Nat}(hs:free.Pairwise (· < ·))(hx:x∈free)(h:R.Sublist (fr free x)):(x ::R).Sublist free:=(List.Sublist.cons_cons x h).trans (xY hs hx)
theorem n9{groups:Zo}{R:List Nat}{x:Nat}(hR:∀y∈R,x < y):fM (left groups x) R=fM groups (x ::R):=by
 rw[Bool.eq_iff_iff,f_,f_];constructor
 .intro h G hG;by_cases q:x∈G
  .exact⟨x,q,List.mem_cons_self⟩
  .obtain⟨y,h1,h2⟩:=h (fr G x) (List.mem_map.mpr ⟨G,List.mem_filter.mpr ⟨hG,by simpa using q⟩,rfl⟩)
   exact⟨y,(ox.mp h1).1,List.mem_cons_of_mem _ h2⟩
 .intro h G' O5;obtain⟨G,hG,rfl⟩:=List.mem_map.mp O5;obtain⟨hG,hx⟩:=List.mem_filter.mp hG;have hx:x ∉ G:=by simpa using hx
  obtain⟨y,h1,h2⟩:=h G hG;rcases List.mem_cons.mp h2 with rfl | h2
  .exact absurd h1 hx
  .exact⟨y,ox.mpr ⟨h1,hR y h2⟩,h2⟩
theorem vM{β:Type}{f:Nat->Option β}{v:β}{n a:Nat}(ha:a < n)(hv:f a=some v)(hn:∀b,b < a->f b=none):(List.range n).findSome? f=some v:=by
 rw[List.range_eq_range'];have:∀(m lo:Nat),lo<=a->a < lo+m->(List.range' lo m).findSome? f=some v:=by
  intro m
  induction m with
  | zero=>intro lo h1 h2;omega
  | succ m ih=>
    intro lo h1 h2;rw[List.range'_succ,List.findSome?_cons];by_cases q:lo=a
    .subst q;rw [hv]
    .rw [hn lo (by omega)]
     exact ih (lo+1) (by omega) (by omega)
 exact this n 0 (by omega) (by omega)
theorem xh{free:List Nat}(hs:free.Pairwise (· < ·))(s:Nat)(groups:Zo):kq free (s+1) groups=(List.range free.length).findSome? fun a=>(kq (fr free (free.getD a 0)) s (left groups (free.getD a 0))).map (free.getD a 0 ::·):=by
 unfold kq;show((List.range free.length).flatMap fun a=>(eW (free.drop (a+1)) s).map (free.getD a 0 ::·)).find? (fM groups)=_
 rw[List.find?_flatMap];have cong:∀(xs:List Nat) (f g:Nat->Option (List Nat)),(∀x∈xs,f x=g x)->xs.findSome? f=xs.findSome? g:=by
  intro xs
  induction xs with
  | nil=>intro f g _;rfl
  | cons x xs ih=>intro f g h;rw [List.findSome?_cons,List.findSome?_cons,h x List.mem_cons_self,ih f g fun y hy=>h y (List.mem_cons_of_mem _ hy)]
 refine cong _ _ _ fun a ha=>?_
 rw[List.mem_range] at ha;have hd:free.drop (a+1)=fr free (free.getD a 0):=(t7 hs ha).symm;rw[List.find?_map,hd];congr 1;have cf:∀(xs:Zo) (p q:List Nat->Bool),(∀x∈xs,p x=q x)->xs.find? p=xs.find? q:=by
  intro xs
  induction xs with
  | nil=>intro p q _;rfl
  | cons x xs ih=>intro p q h;rw [List.find?_cons,List.find?_cons,h x List.mem_cons_self,ih p q fun y hy=>h y (List.mem_cons_of_mem _ hy)]
 refine cf _ _ _ fun R hR=>?_
 show fM groups (free.getD a 0 ::R)=_;exact(n9 fun y hy=>(ox.mp ((gK hR).2 y hy)).2).symm
section
variable {free:List Nat} {groups:Zo} {last m:Nat} {ks:List Nat}
structure Nd (free:List Nat) (groups:Zo) (last:Nat) (ks:List Nat):Prop where
 good:Good free groups
 ne:groups≠[]
 up:∀G∈groups,∃y∈G,last<=y
 lo:∃G∈groups,∀y∈G,y<=last
 ks:∀x,x∈ks↔(∃G∈groups,x∈G)/\x<=last
theorem Nd.low(N:Nd free groups last ks){x:Nat}{R:List Nat}(hT:(x ::R).Sublist free)(hh:fM groups (x ::R)=true):x<=last:=by
 obtain⟨G,hG,hl⟩:=N.lo;obtain⟨y,h1,h2⟩:=f_.mp hh G hG;have hy:=hl y h1;have hp:=N.good.so.sublist hT;rcases List.mem_cons.mp h2 with rfl | h2
 .exact hy
 .have:=(List.pairwise_cons.mp hp).1 y h2;omega
theorem Nd.skip(N:Nd free groups last ks){x:Nat}{R:List Nat}(hT:(x ::R).Sublist free)(hh:fM groups (x ::R)=true)(hx:x ∉ ks):fM groups R=true:=by
 have hl:=N.low hT hh;have hno:∀G∈groups,x ∉ G:=fun G hG L0=>hx ((N.ks x).mpr ⟨⟨G,hG,L0⟩,hl⟩)
 refine f_.mpr fun G hG=>?_
 obtain⟨y,h1,h2⟩:=f_.mp hh G hG;rcases List.mem_cons.mp h2 with rfl | h2
 .exact absurd h1 (hno G hG)
 .exact⟨y,h1,h2⟩
theorem Nd.left(N:Nd free groups last ks){x:Nat}(hx:x<=last):Good (fr free x) (left groups x):=by
 refine⟨N.good.so.filter _,fun G' O5=>?_⟩
 obtain⟨G,hG,rfl⟩:=List.mem_map.mp O5;obtain⟨hG,L0⟩:=List.mem_filter.mp hG;have L0:x ∉ G:=by simpa using L0
 obtain⟨y,hy,hly⟩:=N.up G hG;have uN:y≠x:=fun e=>L0 (e▸hy)
 refine⟨fun e=>?_,(N.good.g G hG).2.filter _⟩
 have:y∈fr G x:=ox.mpr ⟨hy,by omega⟩
 rw[e] at this;cases this
theorem Nd.U7(N:Nd free groups last ks)(h:∀x∈free.filter (fun x=>ks.contains x),K7 (fr free x) (K42.left groups x) m none):∀T:List Nat,T.Sublist free->fM groups T=true->m+1 < T.length
 | [],_,hh=>by
   obtain⟨G,hG⟩:=List.exists_mem_of_ne_nil _ N.ne;obtain⟨y,_,hy⟩:=f_.mp hh G hG;cases hy
 | x ::R,hT,hh=>by
   obtain⟨hx,hR⟩:=Ji N.good.so hT;by_cases q:x∈ks
   .have h1:=h x (List.mem_filter.mpr ⟨hx,by simpa using q⟩) R hR (by rw[n9 fun y hy=>(ox.mp (hR.subset hy)).2];exact hh)
    rw[List.length_cons];omega
   .have:=Nd.U7 N h R ((List.sublist_cons_self x R).trans hT) (N.skip hT hh q);rw[List.length_cons];omega
theorem Nd.yes(N:Nd free groups last ks){ys zs:List Nat}{x0:Nat}{R0:List Nat}(e:free.filter (fun x=>ks.contains x)=ys++x0 ::zs)(hy:∀y∈ys,K7 (fr free y) (K42.left groups y) m none)(h0:K7 (fr free x0) (K42.left groups x0) m (some R0)):K7 free groups (m+1) (some (x0 ::R0)):=by
 obtain⟨h1,h2,h3,h4⟩:=h0;have MF:x0∈free:=(List.mem_filter (p:=fun x=>ks.contains x) |>.mp (by rw[e];simp)).1
 have hgt:∀y∈R0,x0 < y:=fun y hy=>(ox.mp (h1.subset hy)).2
 refine⟨uW N.good.so MF h1,by rw[<-n9 hgt];exact h2,by rw[List.length_cons];omega,fun xn=>?_⟩
 rw[xh N.good.so];obtain⟨a0,Uq,hxa⟩:=List.mem_iff_getElem.mp MF;have hg0:free.getD a0 0=x0:=by rw[List.getD_eq_getElem?_getD,List.getElem?_eq_getElem Uq,hxa];rfl
 refine vM Uq ?_ fun b hb=>?_
 .rw [hg0,h4 fun R hR hh=>?_]
  .rfl
  .have:=xn (x0 ::R) (uW N.good.so MF hR) (by rw[<-n9 fun y hy=>(ox.mp (hR.subset hy)).2];exact hh)
   rw[List.length_cons] at this;omega
 .have hbl:b < free.length:=by omega
  have hgb:free.getD b 0=free[b]:=by rw[List.getD_eq_getElem?_getD,List.getElem?_eq_getElem hbl];rfl
  rw[hgb];cases hf:kq (fr free free[b]) m (K42.left groups free[b]) with
  | none=>rfl
  | some R=>
    exfalso
    unfold kq at hf;have hRm:=List.mem_of_find?_eq_some hf;have hRh:=List.find?_some hf;have hRs:=rq _ _ _ hRm;have hRl:=(gK hRm).1;have hbm:free[b]∈free:=List.getElem_mem hbl;have hlt:free[b] < x0:=by rw[<-hxa];exact List.pairwise_iff_getElem.mp N.good.so b a0 hbl Uq hb
    have hT:=uW N.good.so hbm hRs;have hh:fM groups (free[b] ::R)=true:=by rw[<-n9 fun y hy=>(ox.mp (hRs.subset hy)).2];exact hRh
    by_cases q:free[b]∈ks
    .have hin:free[b]∈free.filter (fun x=>ks.contains x):=List.mem_filter.mpr ⟨hbm,by simpa using q⟩
     rw[e] at hin;have PM:(ys++x0 ::zs).Pairwise (· < ·):=by rw[<-e];exact N.good.so.filter _
     have hys:free[b]∈ys:=by
      rcases List.mem_append.mp hin with z | z
      .exact z
      .rcases List.mem_cons.mp z with z | z
       .omega
       .have:=(List.pairwise_cons.mp (List.pairwise_append.mp PM).2.1).1 _ z;omega
     have:=hy _ hys R hRs hRh;omega
    .have h5:=xn R ((List.sublist_cons_self _ R).trans hT) (N.skip hT hh q);omega
end
end K42
end
section
namespace K42
open PySem PySem.Spec PyProof.Rows L2 L3 MT
theorem TK(x:Nat)(ns:List Nat):Bk (nI x) (.lst (ns.map nI))= .ok (.bl (ns.contains x)):=by
 have h:Bk (.int (x:Int)) (.lst ((nZ ns).map .int))= .ok (.bl ((nZ ns).contains (x:Int))):=by
  show((match ints? ((nZ ns).map D.int) with | some ss=>R.ok (ss.contains (x:Int)) | none=> .no)).bind (fun b=>R.ok (D.bl b))=_
  rw[L2.ints_map];rfl
 rw[F_,C7] at h;exact h
theorem QW(y x:Nat):JT (nI y) (nI x)= .ok (.bl (decide (y > x))):=by
 show R.ok (D.bl (decide ((y:Int) > (x:Int))))=_;congr 2;by_cases q:y > x
 .rw [decide_eq_true q,decide_eq_true (by omega)]
 .rw [decide_eq_false q,decide_eq_false (by omega)]
theorem Tc(y x:Nat):Ua (nI y) (nI x)= .ok (.bl (decide (y<=x))):=by
 show R.ok (D.bl (decide ((y:Int)<=(x:Int))))=_;congr 2;by_cases q:y<=x
 .rw [decide_eq_true q,decide_eq_true (by omega)]
 .rw [decide_eq_false q,decide_eq_false (by omega)]
theorem FL{G:List Nat}{x:Nat}(hl:G.length < 1000):o7 [gD G,nI x]= .ok (gD (fr G x)):=by
 have hz:sizeLine=16777216:=sizeLine_eq;unfold o7 A_;refine cL (cv (cJ (ck (ds:=G.map nI) (dC rfl) (by rw[List.length_map];omega) ?_)))
 exact NT.cG (fun y=>decide (y > x)) nI nI fun y _=>⟨[.val (nI y), .val (nI x)],rfl,dN (a:=nI y) (b:=nI x) rfl rfl (QW y x),fun _=>rfl⟩
theorem Ki{groups:Zo}{x:Nat}(hl:∀G∈groups,G.length < 1000)(hn:groups.length<=20000):fT [uo groups,nI x]= .ok (uo (left groups x)):=by
 have hz:sizeLine=16777216:=sizeLine_eq;unfold fT qd;refine cL (cv (cJ (ck (ds:=groups.map gD) (dC rfl) (by rw[List.length_map];omega) ?_)))
 unfold left;rw[List.map_map];exact NT.cG (fun G:List Nat=>!G.contains x) gD _ fun G hG=>⟨[.val (gD G), .val (nI x)],rfl,dN (a:=nI x) (b:=gD G) rfl rfl (Ax (TK x G)),fun _=>aA (ds:=[gD G,nI x]) rfl (FL (hl G hG))⟩
theorem QU{G:List Nat}{l:Nat}(h:G.getLast? =some l):cn (gD G) (.int (-1))= .ok (nI l):=by
 refine vD ?_;unfold ur EA;have hp:0 < G.length:=by
  cases G with
  | nil=>cases h
  | cons _ _=>simp
 rw[List.length_map,if_neg (by omega),if_pos (by omega)]
 show(G.map nI)[(((-1:Int))+(G.length:Int)).toNat]? =_;rw[List.getElem?_map,show((-1:Int)+(G.length:Int)).toNat=G.length - 1 by omega,<-List.getLast?_eq_getElem?,h]
 rfl
theorem yd{α:Type}{t:FG}{body:FZ}{S:aP}(g:α->V3)(E:DE->Prop)(N:α->Prop)(Y:α->V3->Prop):∀{xs:List α} {δ:DE},E δ->
 (∀x∈xs,∀δ,E δ->∃cP,t (g x) δ=some cP/\W3 (body cP S) fun o S1=>S1=S/\((∃cZ,o= .nx cZ/\E cZ/\N x)\/∃v,o= .rt v/\Y x v))->
 W3 (jN t body (xs.map g) δ S) fun o S1=>S1=S/\((∃cZ,o= .nx cZ/\E cZ/\∀x∈xs,N x)\/∃ys x zs v,xs=ys++x ::zs/\(∀y∈ys,N y)/\o= .rt v/\Y x v)
 | [],δ,h0,_=>W3.ok ⟨rfl, .inl ⟨δ,rfl,h0,fun x hx=>by cases hx⟩⟩
 | x ::xs,δ,h0,hs=>by
   obtain⟨cP,e1,o,S1,fH,rfl,h2⟩:=hs x List.mem_cons_self δ h0;rw[List.map_cons];unfold jN;rw[e1];refine W3.bind ⟨_,_,fH,?_⟩;rcases h2 with⟨cZ,rfl,hE,hN⟩ | ⟨v,rfl,hY⟩
   .refine(yd g E N Y hE fun y hy=>hs y (List.mem_cons_of_mem _ hy)).mono fun o S2 ⟨eS,hq⟩=>⟨eS,?_⟩
    rcases hq with⟨EL,e3,XQ,Yd⟩ | ⟨ys,z,zs,v,exs,hys,eo,hY⟩
    .exact .inl ⟨EL,e3,XQ,fun y hy=>(List.mem_cons.mp hy).elim (fun e=>e▸hN) (Yd y)⟩
    .exact .inr ⟨x ::ys,z,zs,v,by rw[exs];rfl,fun y hy=>(List.mem_cons.mp hy).elim (fun e=>e▸hN) (hys y),eo,hY⟩
   .exact W3.ok ⟨rfl, .inr ⟨[],x,xs,v,rfl,(fun y hy=>by cases hy),rfl,hY⟩⟩
def rD:Option (List Nat)->D | none=> .cu | some T=>az T
section
variable {free:List Nat} {groups:Zo}
def fE(gs m:D)(a2 a3 a4 a5 a6:Option V3):DE:=[some (.d gs),some (.d m),a2,a3,a4,a5,a6]
theorem KI(hG:Good free groups)(uN:groups≠[])(hl:groups.length<=20000){δ:av}(h0:ae 0 δ= .ok (uo groups)):∃last:Nat,aS p9 (ak (eNew (cO (cq (ae 0)) (aI 0) j4 (e2 cn (ae 0) (Ff (eC (.int 1)))) ["group"] [])) aJ) δ= .ok (nI last)/\(∀G∈groups,∃y∈G,last<=y)/\∃G∈groups,∀y∈G,y<=last:=by
 have hz:sizeLine=16777216:=sizeLine_eq
 let mx:List Nat->Nat:=fun G=>G.getLast?.getD 0
 have hmx:∀G∈groups,G.getLast? =some (mx G)/\mx G∈G/\∀y∈G,y<=mx G:=fun G zu=>by
  obtain⟨h1,h2⟩:=hG.g G zu;obtain⟨l,RQ⟩:∃l,G.getLast? =some l:=⟨_,List.getLast?_eq_some_getLast h1⟩;have e:mx G=l:=by show G.getLast?.getD 0=l;rw [RQ];rfl
  rw[e];refine⟨RQ,List.mem_of_getLast? RQ,fun y hy=>?_⟩
  have hs:=hG.so.sublist h2;obtain⟨i,hi,rfl⟩:=List.mem_iff_getElem.mp hy;rw[List.getLast?_eq_getElem?] at RQ;obtain⟨h3,h4⟩:=List.getElem?_eq_some_iff.mp RQ;rcases Nat.lt_or_ge i (G.length - 1) with q | q
  .exact Nat.le_of_lt (by rw[<-h4];exact List.pairwise_iff_getElem.mp hs i _ hi h3 q)
  .have:i=G.length - 1:=by omega
   subst this;omega
 obtain⟨G0,gr,rfl⟩:∃G0 gr,groups=G0 ::gr:=by
  cases groups with
  | nil=>exact absurd rfl uN
  | cons a r=>exact⟨a,r,rfl⟩
 have hcomp:eNew (cO (cq (ae 0)) (aI 0) j4 (e2 cn (ae 0) (Ff (eC (.int 1)))) ["group"] []) δ= .ok (.lst (((G0 ::gr).map fun G=>((mx G:Nat):Int)).map .int)):=by
  refine cJ (ck (ds:=(G0 ::gr).map gD) (dC h0) (by rw[List.length_map];omega) ?_)
  rw[List.map_map];exact NT.eI gD _ fun G zu=>⟨[.val (gD G)],rfl,rfl,aq (a:=gD G) (b:= .int (-1)) rfl rfl (QU (hmx G zu).1)⟩
 obtain⟨h1,h2⟩:=L2.fold_min (gr.map fun G=>((mx G:Nat):Int)) ((mx G0:Nat):Int)
 obtain⟨G1,V4,e1⟩:∃G∈G0 ::gr,((mx G:Nat):Int)=(gr.map fun G=>((mx G:Nat):Int)).foldl min ((mx G0:Nat):Int):=by
  rcases List.mem_cons.mp h1 with q | q
  .exact⟨G0,List.mem_cons_self,q.symm⟩
  .obtain⟨G,zu,e⟩:=List.mem_map.mp q;exact⟨G,List.mem_cons_of_mem _ zu,e⟩
 refine⟨mx G1,?_,fun G zu=>?_,G1,V4,(hmx G1 V4).2.2⟩
 .refine aA (ax hcomp rfl) ?_;show(match ints? (((G0 ::gr).map fun G=>((mx G:Nat):Int)).map D.int) with | some (n ::ns)=>R.ok (D.int (ns.foldl min n)) | _=> .no)=_
  rw[L2.ints_map];show R.ok (D.int ((gr.map fun G=>((mx G:Nat):Int)).foldl min ((mx G0:Nat):Int)))=_
  rw[<-e1];rfl
 .refine⟨mx G,(hmx G zu).2.1,?_⟩;have h3:(gr.map fun G=>((mx G:Nat):Int)).foldl min ((mx G0:Nat):Int)<=((mx G:Nat):Int):=by
   refine h2 _ ?_;rcases List.mem_cons.mp zu with rfl | q
   .exact List.mem_cons_self
   .exact List.mem_cons_of_mem _ (List.mem_map.mpr ⟨G,q,rfl⟩)
  rw[<-e1] at h3;omega
theorem Lg{ks:List Nat}(hs:free.Pairwise (· < ·))(hn:ks.Nodup)(hk:∀x∈ks,x∈free):tZ (nZ ks)=nZ (free.filter fun x=>ks.contains x):=by
 have hnf:free.Nodup:=hs.imp fun h=>Nat.ne_of_lt h
 have hperm:(free.filter fun x=>ks.contains x).Perm ks:=(List.perm_ext_iff_of_nodup (hnf.filter _) hn).mpr fun x=>by
  rw[List.mem_filter];exact⟨fun h=>by simpa using h.2,fun h=>⟨hk x h,by simpa using h⟩⟩
 refine(Ah (a:=nZ (free.filter fun x=>ks.contains x)) (hperm.map _) ?_).symm
 unfold nZ;rw[List.pairwise_map];exact(hs.filter _).imp fun h=>by omega
theorem IC:∀(n m:Nat),m < n->∀(free:List Nat) (groups:Zo) (S:aP),Good free groups->free.length<=12->groups.length<=20000->jb S->∀(Q:V3->aP->Prop),(∀r,K7 free groups m r->Q (.d (rD r)) S)->W3 (c_ n [.d (uo groups), .d (nI m)] S) Q
 | 0,m,hm=>by omega
 | n+1,m,hm=>by
   intro free groups S hG hf hl hS Q h;have hz:sizeLine=16777216:=sizeLine_eq;have hgl:∀G∈groups,G.length < 1000:=fun G zu=>by have:=(hG.g G zu).2.length_le;omega
   show W3 (pN fD (kU (c_ n)) _ S) Q;refine fZ hS (wI rfl ?_);simp only[cA,fD,List.map,List.length,List.replicate,List.cons_append,List.nil_append,Nat.reduceAdd,Nat.reduceSub];unfold kU;have fin:∀(r:Option (List Nat)) (T:aP),K7 free groups m r->fR S.length (.d (rD r))=true/\(∃U,S++T=S++U)/\∃d,res (S++T) (.d (rD r))=some d/\Q (.d d) S:=fun r T hr=>⟨by unfold fR;rfl,⟨T,rfl⟩,_,by unfold res;rfl,h r hr⟩
   refine oT <| m7 <| Cu <| dy <| aD <| bV (d:=uo groups) rfl <| cI <| Ja hG hf hl hS fun c hc uM=>bV (d:=nI m) rfl ⟨_,_,_,rfl,rfl,QW c m,?_⟩
   by_cases hcm:c > m
   .rw [decide_eq_true hcm,if_pos rfl];refine eG <| bV (d:= .cu) rfl ⟨_,rfl,?_⟩
    have:=fin none [] fun T _ hh=>by have:=hc T hh;omega
    rw[List.append_nil] at this;exact this
   rw[decide_eq_false hcm,if_neg (by decide)]
   refine fw ?_;by_cases uN:groups=[]
   .subst uN;refine oT <| m7 <| qX (b:=true) rfl ?_
    rw[if_pos rfl];refine eG <| bV (d:=az []) (di rfl (by simp)) ⟨_,rfl,?_⟩
    have:=fin (some []) [] ⟨List.nil_sublist _,rfl,by simp,fun xn=>?_⟩
    .rw [List.append_nil] at this;exact this
    .have h0:=xn [] (List.nil_sublist _) rfl;have:m=0:=by simpa using h0
     subst this;rfl
   obtain⟨G0,gr,Ut⟩:∃G0 gr,groups=G0 ::gr:=by
    cases groups with
    | nil=>exact absurd rfl uN
    | cons a r=>exact⟨a,r,rfl⟩
   refine oT <| m7 <| qX (b:=false) (by rw[Ut];rfl) ?_
   rw[if_neg (by decide)]
   refine fw ?_;have Yz:1<=m:=by have:=uM uN;omega
   obtain⟨last,elast,hup,hlo⟩:=KI hG uN hl (δ:=down [some (.d (uo groups)),some (.d (nI m)),none,none,none,none,none]) rfl;refine aW <| bB (by simp) <| bV (d:=nI last) elast ⟨_,rfl,?_⟩
   simp only[List.set];refine aW <| bB (by simp) <| IB ⟨_,rfl,?_⟩
   simp only[List.set];refine aW <| d8 <| ik (ds:=groups.map gD) (dC rfl) ?_
   refine(bF (fun i δ S2=>∃(ks:List Nat) (a4 a5:Option V3),S2=S++[SO.dct (dK ks)]/\ks.Nodup/\(∀x,x∈ks↔(∃G∈groups.take i,x∈G)/\x<=last)/\δ=fE (uo groups) (nI m) (some (.d (nI last))) (some (.loc S.length)) a4 a5 none)
    ⟨[],none,none,rfl,List.nodup_nil,fun x=>by simp,rfl⟩ ?_).mono fun o S2 ⟨cZ,fH,ks,a4,a5,tQ,hnd,hks,hδ⟩=>⟨cZ,fH,?_⟩
   .rintro i v δ S2 hv ⟨ks,a4,a5,rfl,hnd,hks,rfl⟩;obtain⟨G,hGi,rfl⟩:=NT.dw hv;have zu:=List.mem_of_getElem? hGi;have hGs:=(hG.g G zu).2;have hkf:∀x∈ks,x∈free:=fun x hx=>by
     obtain⟨⟨G',O5,Pe⟩,_⟩:=(hks x).mp hx;exact(hG.g G' (List.mem_of_mem_take O5)).2.subset Pe
    refine⟨fE (uo groups) (nI m) (some (.d (nI last))) (some (.loc S.length)) (some (.d (gD G))) a5 none,rfl,?_⟩;unfold mB;refine d8 <| ik (ds:=G.map nI) (dC rfl) ?_
    refine(bF (fun j δ S3=>∃(JB:List Nat) (b5:Option V3),S3=S++[SO.dct (dK JB)]/\JB.Nodup/\(∀x,x∈JB↔x∈ks\/(x∈G.take j/\x<=last))/\δ=fE (uo groups) (nI m) (some (.d (nI last))) (some (.loc S.length)) (some (.d (gD G))) b5 none)
     ⟨ks,a5,rfl,hnd,fun x=>by simp,rfl⟩ ?_).mono fun o S3 ⟨EL,e3,JB,b5,EH,Ju,JF,wG⟩=>⟨EL,e3,JB,_,b5,EH,Ju,fun x=>?_,wG⟩
    .rintro j u δ S3 hu ⟨JB,b5,rfl,Ju,JF,rfl⟩;obtain⟨x,hx,rfl⟩:=NT.dw hu;have L0:=List.mem_of_getElem? hx;refine⟨fE (uo groups) (nI m) (some (.d (nI last))) (some (.loc S.length)) (some (.d (gD G))) (some (.d (nI x))) none,rfl,?_⟩;unfold mG;have hkl:JB.length<=12:=by
      have hsub:∀y∈JB,y∈free:=fun y hy=>by
       rcases(JF y).mp hy with q | q
       .exact hkf y q
       .exact hGs.subset (List.mem_of_mem_take q.1)
      exact Nat.le_trans (L2.Co _ _ Ju hsub) hf
     have hstep:∀y,(y∈ks\/(y∈G.take (j+1)/\y<=last))↔(y∈JB\/(y=x/\x<=last)):=fun y=>by
      rw[JF y,List.take_add_one,hx];simp only[Option.toList_some,List.mem_append,List.mem_singleton];constructor
      .rintro(q | ⟨q | q,q2⟩)
       .exact .inl (.inl q)
       .exact .inl (.inr ⟨q,q2⟩)
       .exact .inr ⟨q,q▸q2⟩
      .rintro((q | ⟨q,q2⟩) | ⟨q,q2⟩)
       .exact .inl q
       .exact .inr ⟨.inl q,q2⟩
       .exact .inr ⟨.inr q,q▸q2⟩
     refine m7 <| qX (b:=decide (x<=last)) (dN (a:=nI x) (b:=nI last) rfl rfl (Tc x last)) ?_
     by_cases q:x<=last
     .rw [decide_eq_true q,if_pos rfl];refine HM <| bV (d:= .bl true) rfl <| w_var (v:= .loc S.length) rfl <| bV (d:=nI x) rfl ⟨_,_,_,_,rfl,rfl,rfl,bg _ _,by unfold dK;rw [List.length_map];omega,_,rfl,sQ JB x,_,?_,K5 Ju,fun y=>?_,rfl⟩
      .rw [dA,Ir]
      .rw [zY,hstep y];exact⟨fun z=>z.elim .inl fun e=> .inr ⟨e,q⟩,fun z=>z.elim .inl fun e=> .inr e.1⟩
     .rw [decide_eq_false q,if_neg (by decide)]
      refine fw ⟨_,rfl,JB,_,rfl,Ju,fun y=>?_,rfl⟩
      rw[hstep y];exact⟨.inl,fun z=>z.elim id fun e=>absurd e.2 q⟩
    .rw [List.length_map,List.length_map,List.take_length] at JF;rw[JF x,hks x,List.take_add_one,hGi];simp only[Option.toList_some,List.mem_append,List.mem_singleton];constructor
     .rintro(⟨⟨G',h1,h2⟩,h3⟩ | ⟨h1,h2⟩)
      .exact⟨⟨G', .inl h1,h2⟩,h3⟩
      .exact⟨⟨G, .inr rfl,h1⟩,h2⟩
     .rintro⟨⟨G',h1 | h1,h2⟩,h3⟩
      .exact .inl ⟨⟨G',h1,h2⟩,h3⟩
      .exact .inr ⟨h1▸h2,h3⟩
   rw[List.length_map,List.length_map,List.take_length] at hks;subst hδ tQ;have N:Nd free groups last ks:=⟨hG,uN,hup,hlo,hks⟩;have hkf:∀x∈ks,x∈free:=fun x hx=>by
    obtain⟨⟨G',O5,Pe⟩,_⟩:=(hks x).mp hx;exact(hG.g G' O5).2.subset Pe
   have hkl:ks.length<=12:=Nat.le_trans (L2.Co _ _ hnd hkf) hf;have Gk:jb (S++[SO.dct (dK ks)]):=jb.push hS fun _=>rfl
   unfold fE;refine oT <| d8 <| pG <| Kp <| w_var (v:= .loc S.length) rfl ⟨_,_,nZ ks,rfl,bg _ _,?_,by unfold nZ;rw [List.length_map];omega,_,rfl,?_⟩
   .unfold dK nZ;rw[List.map_map,List.map_map];rfl
   rw[Lg hG.so hnd hkf,F_,List.map_map];refine(yd (S:=S++[SO.dct (dK ks)]) (V3.d ∘ nI) (fun δ=>∃a5 a6,δ=fE (uo groups) (nI m) (some (.d (nI last))) (some (.loc S.length)) a4 a5 a6) (fun x=>K7 (fr free x) (left groups x) (m - 1) none) (fun x v=>∃R,v= .d (az (x ::R))/\K7 (fr free x) (left groups x) (m - 1) (some R))
    ⟨_,_,rfl⟩ ?_).mono fun o S2 ⟨X3,hq⟩=>?_
   .rintro x hx δ ⟨b5,b6,rfl⟩;have hxk:x∈ks:=by have:=(List.mem_filter.mp hx).2;simpa using this
    have JY:=((hks x).mp hxk).2;refine⟨fE (uo groups) (nI m) (some (.d (nI last))) (some (.loc S.length)) a4 (some (.d (nI x))) b6,rfl,?_⟩;unfold mF;refine aW <| bB (by unfold fE;simp only[List.length_cons,List.length_nil];omega) <| dy <| aD <| bV (d:=uo (left groups x)) (aA (ds:=[uo groups,nI x]) rfl (Ki hgl hl)) <| aD <| bV (d:=nI (m - 1)) (aq (a:=nI m) (b:= .int 1) rfl rfl ?_) <| cI <| IC n (m - 1) (by omega) _ _ _ (N.left JY) (Nat.le_trans (List.length_filter_le _ _) hf) (by unfold left;rw [List.length_map];exact Nat.le_trans (List.length_filter_le _ _) hl) Gk _ fun r hr=>⟨_,rfl,?_⟩
    .show R.ok (D.int ((m:Int) - 1))=R.ok (D.int ((m - 1:Nat):Int));congr 2;omega
    cases r with
    | none=>
      refine m7 <| qX (b:=false) rfl ?_
      rw[if_neg (by decide)]
      exact fw ⟨rfl, .inl ⟨_,rfl,⟨_,_,rfl⟩,hr⟩⟩
    | some R=>
      refine m7 <| qX (b:=true) rfl ?_
      rw[if_pos rfl];have hRl:R.length<=12:=Nat.le_trans hr.1.length_le (Nat.le_trans (List.length_filter_le _ _) hf);refine eG <| bV (d:=az (x ::R)) (aq (a:= .tup [nI x]) (b:=az R) (di rfl (by simp;omega)) rfl (zd (by rw[List.length_map];simp;omega))) ⟨rfl, .inr ⟨_,rfl,R,rfl,hr⟩⟩
   .subst X3;have hmm:m - 1+1=m:=by omega
    rcases hq with⟨EL,rfl,⟨b5,b6,rfl⟩,hN⟩ | ⟨ys,x,zs,v,eps,hys,rfl,R,rfl,hR⟩
    .refine eG <| bV (d:= .cu) rfl ⟨_,rfl,?_⟩
     have:=N.U7 hN;rw[hmm] at this;exact fin none _ this
    .have:=N.yes eps hys hR;rw[hmm] at this;exact⟨_,rfl,fin (some (x ::R)) _ this⟩
end
end K42
end
section
namespace K42
open PySem PySem.Spec PyProof.Rows L2 L3 MT
theorem AR{T o:List Nat}:subB T o=true↔∀x∈o,x∈T:=by
 unfold subB;rw[List.all_eq_true];exact⟨fun h x hx=>by have:=h x hx;simpa using this,fun h x hx=>by simpa using h x hx⟩
theorem AB{B:List Nat->Bool}{f:Zo}{T o:List Nat}(h:o∈f):o∈uD B f T:=by
 unfold uD;split
 .exact h
 .split
  .exact List.mem_append_left _ h
  .exact h
theorem sM{B:List Nat->Bool}:∀(xs:Zo) {f:Zo} {o:List Nat},o∈f->o∈xs.foldl (uD B) f
 | [],_,_,h=>h
 | x ::xs,f,o,h=>by rw[List.foldl_cons];exact sM xs (AB h)
theorem vW{B:List Nat->Bool}:∀(xs f:Zo) {T:List Nat},T∈xs->B T=true->∃o∈xs.foldl (uD B) f,∀x∈o,x∈T
 | x ::xs,f,T,h,hB=>by
   rw[List.foldl_cons];rcases List.mem_cons.mp h with rfl | h
   .by_cases q:f.any (subB T)=true
    .obtain⟨o,ho,hs⟩:=List.any_eq_true.mp q;exact⟨o,sM xs (AB ho),AR.mp hs⟩
    .refine⟨T,sM xs ?_,fun x hx=>hx⟩
     unfold uD;rw[if_neg q,if_pos hB];exact List.mem_append_right _ (List.mem_singleton.mpr rfl)
   .exact vW xs _ h hB
theorem An{B:List Nat->Bool}:∀(xs f:Zo) {T:List Nat},T∈xs.foldl (uD B) f->T∈f\/∃ys zs,xs=ys++T ::zs/\B T=true/\(ys.foldl (uD B) f).any (subB T)=false
 | [],f,T,h=> .inl h
 | x ::xs,f,T,h=>by
   rw[List.foldl_cons] at h;rcases An xs _ h with q | ⟨ys,zs,e,hB,hn⟩
   .unfold uD at q;split at q
    .exact .inl q
    .rename_i hany;split at q
     .rename_i hBx;rcases List.mem_append.mp q with z | z
      .exact .inl z
      .rw [List.mem_singleton.mp z];exact .inr ⟨[],xs,rfl,hBx,by cases hq:f.any (subB x) with | false=>exact hq | true=>exact absurd hq hany⟩
     .exact .inl q
   .exact .inr ⟨x ::ys,zs,by rw[e];rfl,hB,by rw[List.foldl_cons];exact hn⟩
theorem rZ{free T:List Nat}{m:Nat}:T∈gU free m↔T.Sublist free/\T.length<=m:=by
 unfold gU;rw[List.mem_flatMap];constructor
 .rintro⟨s,hs,h⟩;rw[List.mem_range] at hs;exact⟨rq s free T h,by rw[(gK h).1];omega⟩
 .rintro⟨h1,h2⟩;exact⟨T.length,List.mem_range.mpr (by omega),Ds h1⟩
theorem ua(free:List Nat):∀m,(gU free m).Pairwise (fun a b=>a.length<=b.length)
 | 0=>by show([[]]:Zo).Pairwise _;simp
 | m+1=>by
   rw[sj,List.pairwise_append];refine⟨ua free m,?_,fun a ha b hb=>?_⟩
   .refine List.pairwise_iff_forall_sublist.mpr fun {a b} PL=>?_
    have ha:=PL.subset (List.mem_cons_self);have hb:=PL.subset (List.mem_cons_of_mem _ (List.mem_singleton.mpr rfl));rw[(gK ha).1,(gK hb).1];omega
   .rw [(gK hb).1];have:=(rZ.mp ha).2;omega
theorem lz{B:List Nat->Bool}{free:List Nat}{m:Nat}{T:List Nat}(h:T∈nW B (gU free m)):T.Sublist free/\T.length<=m/\B T=true/\∀R:List Nat,R.Sublist T->R.length < T.length->B R=false:=by
 rcases An _ [] h with q | ⟨ys,zs,e,hB,hn⟩
 .cases q
 have hT:T∈gU free m:=by rw[e];simp
 obtain⟨h1,h2⟩:=rZ.mp hT;refine⟨h1,h2,hB,fun R hR hl=>?_⟩
 cases hBR:B R with
 | false=>rfl
 | true=>
   have hRA:R∈gU free m:=rZ.mpr ⟨hR.trans h1,by omega⟩
   have PM:=ua free m;rw[e] at hRA PM;have hRy:R∈ys:=by
    rcases List.mem_append.mp hRA with q | q
    .exact q
    .exfalso
     have h3:=(List.pairwise_append.mp PM).2.1;rcases List.mem_cons.mp q with rfl | q
     .omega
     .have:=(List.pairwise_cons.mp h3).1 R q;omega
   obtain⟨o,ho,hoR⟩:=vW ys [] hRy hBR;have:(ys.foldl (uD B) []).any (subB T)=true:=List.any_eq_true.mpr ⟨o,ho,AR.mpr fun x hx=>hR.subset (hoR x hx)⟩
   rw[hn] at this;cases this
theorem xD{B:List Nat->Bool}{free:List Nat}{m:Nat}{T:List Nat}(h1:T.Sublist free)(h2:T.length<=m)(hB:B T=true):∃o∈nW B (gU free m),∀x∈o,x∈T:=vW _ [] (rZ.mpr ⟨h1,h2⟩) hB
section
variable {c:Nat} {ins:Zm} {gs:List Gt} {os:Zn} {safe:Bool} {S:aP} {m:Nat}
theorem Hd{free:List Nat}(h0:BT safe c ins gs os []=false)(hs:free.Pairwise (· < ·))(hu:(il gs).Sublist free):Good free (er safe c ins gs os m):=by
 refine⟨hs,fun G hG=>?_⟩
 obtain⟨h1,_,h3,_⟩:=lz hG;refine⟨fun e=>?_,h1.trans hu⟩
 subst e;rw[h0] at h3;cases h3
theorem DQ(hg:gs.length<=12)(hm:m<=3):(er safe c ins gs os m).length<=16384:=by
 have h1:=rP (BT safe c ins gs os) (gU (il gs) m) [];have h2:=oj (free:=il gs) (Nat.le_trans uC hg) m;have h3:(m+1)*4096<=4*4096:=Nat.mul_le_mul_right _ (by omega)
 unfold er nW;simp only[List.length_nil] at h1;omega
structure SU (free:List Nat) (F:Zo) (T0:List Nat):Prop where
 sub:T0.Sublist free
 hit:fM F T0=true
 min:∀T:List Nat,T.Sublist free->fM F T=true->T0.length<=T.length
 fst:kq free T0.length F=some T0
def vE(nt mm lv gr:D)(mo pl:D):DE:=[some (.d nt),some (.d mm),some (.d lv),some (.d gr),some (.d mo),some (.d pl)]
theorem xO{nt mm lv:D}{free:List Nat}{F:Zo}(hG:Good free F)(hf:free.length<=11)(hl:F.length<=20000)(hS:jb S):∀(n k:Nat) (r:Option (List Nat)),free.length < n+k->K7 free F k r->(∀T:List Nat,T.Sublist free->fM F T=true->k<=T.length)->
 W3 (m_ (bP (b2 R_ (ae 5) (eC .cu))) qv n (vE nt mm lv (uo F) (nI k) (rD r)) S) fun o S1=>S1=S/\∃T0 k',o= .nx (vE nt mm lv (uo F) (nI k') (az T0))/\SU free F T0
 | 0,k,r,hn,hr,xn=>by
   exfalso
   have zE:fM F free=true:=f_.mpr fun G zu=>by
    obtain⟨h1,h2⟩:=hG.g G zu;obtain⟨x,hx⟩:=List.exists_mem_of_ne_nil _ h1;exact⟨x,hx,h2.subset hx⟩
   have:=xn free (List.Sublist.refl _) zE;omega
 | n+1,k,r,hn,hr,xn=>by
   unfold m_;cases r with
   | some T0=>
     refine W3.bind (qX (b:=false) rfl ?_);rw[if_neg (by decide)]
     obtain⟨h1,h2,h3,h4⟩:=hr;have hk:k=T0.length:=by have:=xn T0 h1 h2;omega
     exact W3.ok ⟨rfl,T0,k,rfl,h1,h2,fun T hT hh=>by rw[<-hk];exact xn T hT hh,by rw[<-hk];exact h4 xn⟩
   | none=>
     refine W3.bind (qX (b:=true) rfl ?_);rw[if_pos rfl];have zE:fM F free=true:=f_.mpr fun G zu=>by
      obtain⟨h1,h2⟩:=hG.g G zu;obtain⟨x,hx⟩:=List.exists_mem_of_ne_nil _ h1;exact⟨x,hx,h2.subset hx⟩
     have hkf:k < free.length:=hr free (List.Sublist.refl _) zE;unfold qv;refine W3.bind ?_;refine aW <| bB (by unfold vE;simp only[List.length_cons,List.length_nil];omega) <| bV (d:=nI (k+1)) (aq (a:=nI k) (b:= .int 1) rfl rfl rfl) ⟨_,rfl,?_⟩
     refine bB (by unfold vE;simp only[List.length_cons,List.length_nil,List.length_set];omega) <| dy <| aD <| bV (d:=uo F) rfl <| aD <| bV (d:=nI (k+1)) rfl <| cI <| IC 12 (k+1) (by omega) free F S hG (by omega) hl hS _ fun r' Xt=>?_
     show W3 (m_ _ _ n (vE nt mm lv (uo F) (nI (k+1)) (rD r')) S) _;exact xO hG hf hl hS n (k+1) r' (by omega) Xt fun T hT hh=>hr T hT hh
theorem E5{free:List Nat}(NO:iq ins gs os)(hc:ins.length=c)(uM:c<=10)(ho:∀x∈os,1<=x.2.length/\x.2.length<=3)(hg:gs.length<=11)(hm:m<=3)(hs:free.Pairwise (· < ·))(hG:Good free (er safe c ins gs os m))(hf:free.length<=11)(hS:jb S){Q:V3->aP->Prop}
 (h:∀T0,SU free (er safe c ins gs os m) T0->Q (.d (az T0)) S):W3 (pH [.d (aY ins gs os), .d (nI m), .d (.str (gG safe))] S) Q:=by
 have hz:sizeLine=16777216:=sizeLine_eq;have hl:(er safe c ins gs os m).length<=16384:=DQ (by omega) hm
 unfold pH;refine fZ hS (wI rfl ?_);simp only[cA,o4,List.map,List.length,List.replicate,List.cons_append,List.nil_append,Nat.reduceAdd,Nat.reduceSub];unfold vz;refine aW <| bB (by simp) <| j1 (fun j ds S2=>S2=S/\ds=((er safe c ins gs os m).take j).map gD) (pG <| dy <| aD <| bV (d:=aY ins gs os) rfl <| aD <| bV (d:=nI m) rfl <| aD <| bV (d:= .str (gG safe)) rfl <| cI <| uY NO hc uM ho (by omega) hm hS ⟨_,rfl,by rw[List.length_map,List.length_map];omega,⟨rfl,by simp⟩,?_,?_⟩)
 .rintro j v ds S2 hv ⟨rfl,rfl⟩;obtain⟨T,hT,rfl⟩:=NT.dw hv;refine⟨[some (.d (az T))],rfl,wj ?_⟩;rw[if_pos rfl];refine bV (d:=gD T) (aA (ds:=[az T]) rfl rfl) ⟨_,rfl,rfl,?_⟩;rw[List.take_add_one,hT,List.map_append];rfl
 .rintro ds S2 ⟨rfl,rfl⟩;rw[List.length_map,List.length_map,List.take_length];generalize er safe c ins gs os m=F at hG hl h;refine⟨_,rfl,?_⟩;simp only[List.set];refine aW <| bB (by simp) <| bV (d:=nI 0) rfl ⟨_,rfl,?_⟩
  simp only[List.set];refine aW <| bB (by simp) <| dy <| aD <| bV (d:=uo F) rfl <| aD <| bV (d:=nI 0) rfl <| cI <| IC 12 0 (by omega) free F _ hG (by omega) (by omega) hS _ fun r hr=>⟨_,rfl,?_⟩
  simp only[List.set];refine aW ?_;unfold BX;refine(xO (nt:=aY ins gs os) (mm:=nI m) (lv:= .str (gG safe)) hG hf (by omega) hS 1000 0 r (by omega) hr fun T _ _=>by omega).mono fun o S3 ⟨eS,T0,k',eo,hSU⟩=>⟨_,eo,?_⟩
  subst eS;unfold vE;exact eG <| bV (d:=az T0) rfl ⟨_,rfl,by unfold fR;rfl,⟨[],by simp⟩,_,by unfold res;rfl,h T0 hSU⟩
end
theorem FW{free:List Nat}{F:Zo}{T0:List Nat}(h:SU free F T0){n:Nat}(hn:T0.length<=n):(gU free n).find? (fM F)=some T0:=by
 unfold gU;rw[List.find?_flatMap];refine vM (a:=T0.length) (by omega) h.fst fun b hb=>?_
 cases hf:(eW free b).find? (fM F) with
 | none=>rfl
 | some T=>
   exfalso
   have hm:=List.mem_of_find?_eq_some hf;have:=h.min T (rq _ _ _ hm) (List.find?_some hf);rw[(gK hm).1] at this;omega
end K42
end
section
namespace K42
open PySem PySem.Spec PyProof.Rows L2 L3 MT
def mk(T:List Nat)(gs:List Gt):List Gt:=gs.mapIdx fun i g=>(g.1,g.2.1,g.2.2 || T.contains i)
section
variable {c m:Nat} {l:Zm} {gs:List Gt} {os:Zn} {safe:Bool} {T:List Nat}
theorem mZ:(mk T gs).length=gs.length:=by unfold mk;simp
theorem uQ(i:Nat):(mk T gs)[i]? =(gs[i]?).map fun g=>(g.1,g.2.1,g.2.2 || T.contains i):=by unfold mk;rw [List.getElem?_mapIdx]
theorem IA(NO:iq l gs os):iq l (mk T gs) os:=⟨NO.hi,NO.hw,by rw[mZ];exact NO.hg,fun i x h=>by
 rw[uQ] at h;cases q:gs[i]? with
 | none=>rw [q] at h;cases h
 | some g=>rw [q] at h;cases h;exact NO.g i g q,NO.ho,by rw[mZ];exact NO.o⟩
theorem ID:il (mk T gs)=(il gs).filter fun x=>!T.contains x:=by
 unfold il;rw[mZ,List.filter_filter];refine List.filter_congr fun i _=>?_
 rw[uQ];cases gs[i]? with
 | none=>simp
 | some g=>
   show(!(g.2.2 || T.contains i))=(!T.contains i && !g.2.2)
   cases g.2.2 <;> cases T.contains i <;> rfl
theorem Ii{t:List Int}{w0:List M}:∀i,vg (mk T gs) t w0 i=vg gs t w0 i
 | 0=>rfl
 | i+1=>by
   unfold vg;rw[uQ,Ii i];cases gs[i]? with
   | none=>rfl
   | some g=>rfl
theorem QS{t b:List Int}:Wd c l (mk T gs) t b=Wd c l gs t b:=by
 unfold Wd Iv;rw[mZ];exact Ii _
theorem MS(t:List Int):Er safe c l (mk T gs) os t=Er safe c l gs os t:=by
 unfold Er;simp only[QS]
theorem Mb:BT safe c l (mk T gs) os=BT safe c l gs os:=by
 funext t;unfold BT;rw[MS]
theorem Gj(h:fM (er safe c l gs os m) T=true):er safe c l (mk T gs) os m=[]:=by
 cases q:er safe c l (mk T gs) os m with
 | nil=>rfl
 | cons o r=>
   exfalso
   have ho:o∈er safe c l (mk T gs) os m:=by rw[q];exact List.mem_cons_self
   unfold er at ho;obtain⟨h1,h2,h3,_⟩:=lz ho;rw[ID] at h1;rw[Mb] at h3;obtain⟨o',De,hsub⟩:=xD (B:=BT safe c l gs os) (h1.trans List.filter_sublist) h2 h3;obtain⟨x,hx,hxT⟩:=f_.mp h o' De;have:=List.mem_filter.mp (h1.subset (hsub x hx));simp at this;exact this.2 hxT
theorem zh{G:List Nat}(hG:G∈er safe c l gs os m)(h:hit T G=false):er safe c l (mk T gs) os m≠[]:=fun q=>by
 unfold er at hG;obtain⟨h1,h2,h3,_⟩:=lz hG;have e:G.filter (fun x=>!T.contains x)=G:=by
  rw[List.filter_eq_self];intro x hx;cases z:T.contains x with
  | false=>rfl
  | true=>
    have:hit T G=true:=yU.mpr ⟨x,hx,by simpa using z⟩
    rw[h] at this;cases this
 have h4:G.Sublist (il (mk T gs)):=by
  rw[ID,<-e];exact h1.filter _
 obtain⟨o,ho,_⟩:=xD (B:=BT safe c l (mk T gs) os) h4 h2 (by rw[Mb];exact h3)
 have ho:o∈er safe c l (mk T gs) os m:=ho;rw[q] at ho;cases ho
end
theorem HX{B:List Nat->Bool}{f:Zo}{T o:List Nat}(h:f.head? =some o):(uD B f T).head? =some o:=by
 unfold uD;split
 .exact h
 split
 .rw [List.head?_append,h];rfl
 .exact h
theorem sH(B:List Nat->Bool):∀(xs f:Zo),(xs.foldl (uD B) f).head? =(match f.head? with | some o=>some o | none=>xs.find? B)
 | [],f=>by cases f <;> rfl
 | T ::xs,[]=>by
   rw[List.foldl_cons,sH B xs];have e:uD B [] T=if B T then [T] else []:=rfl
   rw[e,List.find?_cons];cases B T <;> rfl
 | T ::xs,o ::f=>by
   rw[List.foldl_cons,sH B xs,HX (o:=o) rfl];rfl
theorem DD{f:List Nat->Option D}{B:List Nat->Bool}(h0:∀T,B T=false->f T=none)(h1:∀T,B T=true->∃d,f T=some d):∀xs:Zo,xs.findSome? f=(match xs.find? B with | none=>none | some T=>f T)
 | []=>rfl
 | T ::xs=>by
   rw[List.findSome?_cons,List.find?_cons];cases q:B T with
   | false=>rw [h0 T q];exact DD h0 h1 xs
   | true=>
     obtain⟨d,hd⟩:=h1 T q;show _=f T;rw[hd]
theorem Vk{α:Type}(f:List Nat->Option α):∀(a b:Zo),(a++b).findSome? f=(match a.findSome? f with | some d=>some d | none=>b.findSome? f)
 | [],_=>rfl
 | x ::a,b=>by
   rw[List.cons_append,List.findSome?_cons,List.findSome?_cons,Vk f a b];cases f x <;> rfl
theorem Vx{α:Type}(f:List Nat->Option α)(g:Nat->Zo):∀xs:List Nat,(xs.flatMap g).findSome? f=xs.findSome? fun s=>(g s).findSome? f
 | []=>rfl
 | x ::xs=>by
   rw[List.flatMap_cons,Vk,List.findSome?_cons,Vx f g xs];cases(g x).findSome? f <;> rfl
section
variable {c m:Nat} {l:Zm} {gs:List Gt} {os:Zn} {safe:Bool}
theorem NL{T:List Nat}(h:BT safe c l gs os T=false):lI safe c l gs os T=none:=by
 unfold BT at h;unfold lI;have:jB (2 ^ c) (Er safe c l gs os (nZ T))=0:=by simpa using h
 rw[pI.mp this];rfl
theorem Ea{T:List Nat}(h:BT safe c l gs os T=true):∃p,lI safe c l gs os T=some (K4 T p):=by
 unfold BT at h;unfold lI;have h2:¬jB (2 ^ c) (Er safe c l gs os (nZ T))=0:=by simpa using h
 cases q:((List.range (2 ^ c)).filter (Er safe c l gs os (nZ T))).head? with
 | none=>exact absurd (pI.mpr q) h2
 | some p=>exact⟨p,rfl⟩
theorem vB:bears safe c l gs os m=(match (er safe c l gs os m).head? with | none=>none | some T=>lI safe c l gs os T).getD pX:=by
 have e:(List.range (m+1)).findSome? (fun s=>(eW (il gs) s).findSome? (lI safe c l gs os))=(gU (il gs) m).findSome? (lI safe c l gs os):=by
  unfold gU;exact(Vx _ _ _).symm
 unfold bears;rw[e,DD (B:=BT safe c l gs os) (fun T h=>NL h) (fun T h=>(Ea h).elim fun p hp=>⟨_,hp⟩)]
 unfold er nW;rw[sH];rfl
theorem F9(h:er safe c l gs os m=[]):bears safe c l gs os m=pX:=by rw[vB,h];rfl
theorem C4{T:List Nat}{r:Zo}(h:er safe c l gs os m=T ::r):∃p,bears safe c l gs os m=K4 T p:=by
 have hT:T∈er safe c l gs os m:=by rw[h];exact List.mem_cons_self
 unfold er at hT;obtain⟨p,hp⟩:=Ea (lz hT).2.2.1;refine⟨p,?_⟩;rw[vB,h];show(lI safe c l gs os T).getD pX=_;rw[hp];rfl
end
def KU(F:Zo)(free:List Nat):List Nat:=free.filter fun x=>F.any fun G=>G.contains x
end K42
end
section
namespace K42
open PySem PySem.Spec PyProof.Rows L2 L3 MT
theorem Mf{f g:FD}{δ:av}{a b:Bool}(h1:f δ= .ok (.bl a))(h2:g δ= .ok (.bl b)):Pw f g δ= .ok (.bl (a || b)):=by
 unfold Pw;rw[NA h1,R.aM];cases a
 .rw [if_neg (by decide),h2];rfl
 .rw [if_pos rfl];rfl
section
variable {l:Zm} {gs:List Gt} {os:Zn} {T:List Nat}
theorem ni(hg:gs.length < 1000):fu [aY l gs os,az T]= .ok (aY l (mk T gs) os):=by
 have hz:sizeLine=16777216:=sizeLine_eq;unfold fu t8;refine cL (bu (yP (ds:=[]) rfl (by simp [dD,o3])) ?_)
 obtain⟨cP,e1,a3,a4,BC⟩:=iL (t:=iu 2 (cc (aI 3) (cc (aI 4) iy))) (body:=lS) (ds:=cm (gs.map gy))
  (fun i δ=>∃a3 a4,δ=[.val (aY l gs os), .val (az T), .bld (((mk T gs).take i).map gy),a3,a4]) (δ:=[.val (aY l gs os), .val (az T), .bld [], .un, .un]) ⟨.un, .un,by simp⟩ (by
    rintro i d δ hd ⟨a3,a4,rfl⟩;have hv:((cm (gs.map gy)).map V3.d)[i]? =some (.d d):=by rw[List.getElem?_map,hd];rfl
    obtain⟨d0,L4,ed⟩:=ng hv;cases ed;obtain⟨g,hx,rfl⟩:=NT.jU L4;have hil:=(List.getElem?_eq_some_iff.mp hx).1;have hm:(mk T gs)[i]? =some (g.1,g.2.1,g.2.2 || T.contains i):=by rw[uQ,hx];rfl
    refine⟨[.val (aY l gs os), .val (az T), .bld (((mk T gs).take (i+1)).map gy), .val (.int i), .val (gy g)],?_,⟨_,_,rfl⟩⟩;generalize hL:((mk T gs).take i).map gy=L;have hLl:L.length < sizeLine:=by
     rw[<-hL,List.length_map,List.length_take,mZ];omega
    rw[show iu 2 (cc (aI 3) (cc (aI 4) iy)) (.tup [.int i,gy g]) [.val (aY l gs os), .val (az T), .bld L,a3,a4]= .ok [.val (aY l gs os), .val (az T), .bld L, .val (.int i), .val (gy g)] from rfl,R.aM]
    unfold lS;rw[uF (d:=gy (g.1,g.2.1,g.2.2 || T.contains i)) (ds:=L) (di (ds:=[.str (kS g.1), .tup (g.2.1.map nI), .bl (g.2.2 || T.contains i)]) (ax rfl (ax rfl (ax (Mf rfl (aq (a:=nI i) (b:=az T) rfl rfl (BO i T))) rfl))) (by simp;omega)) rfl hLl,<-hL,List.take_add_one,hm]
    simp)
 refine bu (i_ (ds:=cm (gs.map gy)) rfl e1) ?_;have hlen:(cm (gs.map gy)).length=gs.length:=by simp [cm]
 rw[hlen] at BC;subst BC;have:(mk T gs).take gs.length=mk T gs:=by rw[<-mZ (T:=T),List.take_length]
 rw[this];exact cv rfl
end
theorem FQ{o T:List Nat}{δ:av}{e:FD}{w:Nat}(hl:o.length < 1000)(h0:e δ= .ok (az o))(hk:uj ["place"] [w] δ=[.un, .val (az T)]):b2 lA (eNew (cO (cq e) (aI 0) (b2 Bk (ae 0) (ae 1)) (ae 0) ["place"] [w])) (eNew (d_ aJ)) δ= .ok (!hit T o):=by
 have hz:sizeLine=16777216:=sizeLine_eq;refine dN (a:= .lst ((o.filter fun x=>T.contains x).map nI)) (b:= .lst []) (cJ (ck (ds:=o.map nI) (sO h0) (by rw[List.length_map];omega) ?_)) rfl ((sE (Ml _)).trans ?_)
 .rw [hk];exact NT.cG (fun x=>T.contains x) nI nI fun x _=>⟨[.val (nI x), .val (az T)],rfl,dN (a:=nI x) (b:=az T) rfl rfl (BO x T),fun _=>rfl⟩
 .congr 2;unfold hit;rw[Bool.eq_iff_iff,List.isEmpty_iff,List.filter_eq_nil_iff];simp
end K42
end
section
namespace K42
open PySem PySem.Spec PyProof.Rows L2 L3 MT
theorem nU{a b:Nat}(h:0 < b):jv (nI a) (nI b)= .ok (nI (a % b)):=cg _ (show 0 < (b:Int) by omega)
theorem G8{a b:Nat}(h:0 < b)(h2:b < 1073741824):rM (nI a) (nI b)= .ok (nI (a / b)):=cg _ (show 0 < (b:Int)/\(b:Int) < 1073741824 by omega)
theorem KG{a b:Nat}(h:b < 18446744073709551616):zp (nI a) (nI b)= .ok (nI (a*b)):=cg _ (.inr (by omega))
theorem pO(a b:Nat):eT (nI a) (nI b)= .ok (nI (a+b)):=rfl
theorem FH{a b:Nat}(h:b<=a):qZ (nI a) (nI b)= .ok (nI (a - b)):=by
 show R.ok (D.int ((a:Int) - (b:Int)))=R.ok (D.int ((a - b:Nat):Int));congr 2;omega
theorem Vi(a b:Nat):lA (nI a) (nI b)= .ok (.bl (a==b)):=by
 show R.ok (D.bl ((a:Int)==(b:Int)))=_;congr 2;rw[Bool.eq_iff_iff,beq_iff_eq,beq_iff_eq];omega
theorem yY(ns:List Int)(k:Nat):∃c:Int,cQ [.lst (ns.map .int),nI k]= .ok (.int c):=by
 by_cases h:k < ns.length
 .refine⟨ns[k],?_⟩;unfold cQ lT;refine cL ?_;have e:A4 (b2 Ue (ae 1) (aS j2 (ak (ae 0) aJ))) (fO (e2 cn (ae 0) (ae 1))) uq (dD f7 [.lst (ns.map .int), .int k])= .ok (.rt (.int ns[k])):=by
   refine rK ?_ (cv (aq (a:= .lst (ns.map .int)) (b:= .int k) rfl rfl (vD (OM (by rw[List.getElem?_map,List.getElem?_eq_getElem h];rfl)))))
   refine dN (a:= .int k) (b:= .int ns.length) rfl (aA (ds:=[.lst (ns.map .int)]) rfl (by rw[sI,List.length_map])) ?_
   show R.ok (D.bl (decide ((k:Int) < (ns.length:Int))))=_;rw[decide_eq_true (by omega)]
  unfold eZ;rw[show dD f7 [.lst (ns.map .int),nI k]=dD f7 [.lst (ns.map .int), .int k] from rfl,e];rfl
 .refine⟨0,?_⟩;unfold cQ lT;refine cL (bu (jQ ?_ rfl) rfl);refine dN (a:= .int k) (b:= .int ns.length) rfl (aA (ds:=[.lst (ns.map .int)]) rfl (by rw[sI,List.length_map])) ?_
  show R.ok (D.bl (decide ((k:Int) < (ns.length:Int))))=_;rw[decide_eq_false (by omega)]
theorem qx(c:Int)(n:Nat)(hn:n < 100):∃ns:List Nat,ns.length=n/\dk [.int c,nI n]= .ok (.lst (ns.map nI)):=by
 have hz:sizeLine=16777216:=sizeLine_eq;obtain⟨a,ha⟩:∃a:Nat,(if c < 0 then -c else c)=(a:Int):=⟨(if c < 0 then -c else c).toNat,by split <;> omega⟩
 obtain⟨cP,e1,ns,r,a4,a5,hl,hδ⟩:=iL (t:=aI 4) (body:=jF) (ds:=(List.range n).map nI)
  (fun i δ=>∃(ns:List Nat) (r:Nat) (a4 a5:Sl),ns.length=i/\δ=[.val (.int c), .val (nI n), .bld (ns.map nI), .val (nI r),a4,a5]) (δ:=[.val (.int c), .val (nI n), .bld [], .val (nI a), .un, .un]) ⟨[],a, .un, .un,rfl,rfl⟩ (by
    rintro i d δ hd ⟨ns,r,a4,a5,hl,rfl⟩;obtain⟨k,hk,rfl⟩:=NT.jU hd;have hkn:k < n:=List.mem_range.mp (List.mem_of_getElem? hk);have hin:i < n:=by
     have:=(List.getElem?_eq_some_iff.mp hk).1;simpa using this
    have hlen:(ns.map nI).length < sizeLine:=by rw[List.length_map];omega
    rw[show aI 4 (nI k) [.val (.int c), .val (nI n), .bld (ns.map nI), .val (nI r),a4,a5]= .ok [.val (.int c), .val (nI n), .bld (ns.map nI), .val (nI r), .val (nI k),a5] from rfl,R.aM]
    unfold jF;have hc:b2 TM (aS cAbs (ak (ae 0) aJ)) (e2 Of (eC (.int 10)) (eC (.int 18))) [.val (.int c), .val (nI n), .bld (ns.map nI), .val (nI r), .val (nI k),a5]= .ok (decide ((a:Int)>=1000000000000000000)):=
     dN (a:= .int a) (b:= .int 1000000000000000000) (aA (ds:=[.int c]) rfl (by show R.ok (D.int (if c < 0 then -c else c))=_;rw [ha])) (aq (a:= .int 10) (b:= .int 18) rfl rfl rfl) rfl
    cases q:decide ((a:Int)>=1000000000000000000) with
    | true=>
      rw[q] at hc;refine⟨_,rK hc (bu (uF (d:=nI (r % 1009)) (ds:=ns.map nI) (aq (a:=nI r) (b:=nI 1009) rfl rfl (nU (by omega))) rfl hlen) (eL (d:=nI (r / 1009)) (aq (a:=nI r) (b:=nI 1009) rfl rfl (G8 (by omega) (by omega))) (by simp))),ns++[r % 1009],r / 1009, .val (nI k),a5,by simp [hl],?_⟩
      rw[List.map_append];rfl
    | false=>
      rw[q] at hc;generalize ho:(r % 2147483629+7919*(k+1)*(k+3)) % 2147483629=o;have hob:o < 2147483629:=by rw[<-ho];exact Nat.mod_lt _ (by omega)
      generalize L5:o*o % 2147483587+o / 7=o2;refine⟨_,jQ hc (bu (eL (d:=nI o) (aq (a:=nI (r % 2147483629+7919*(k+1)*(k+3))) (b:=nI 2147483629) (aq (a:=nI (r % 2147483629)) (b:=nI (7919*(k+1)*(k+3))) (aq (a:=nI r) (b:=nI 2147483629) rfl rfl (nU (by omega))) (aq (a:=nI (7919*(k+1))) (b:=nI (k+3)) (aq (a:=nI 7919) (b:=nI (k+1)) rfl (aq (a:=nI k) (b:=nI 1) rfl rfl (pO _ _)) (KG (by omega))) (aq (a:=nI k) (b:=nI 3) rfl rfl (pO _ _)) (KG (by omega))) (pO _ _)) rfl (by rw[<-ho];exact nU (by omega))) (by simp)) (bu (eL (d:=nI o2) (aq (a:=nI (o*o % 2147483587)) (b:=nI (o / 7)) (aq (a:=nI (o*o)) (b:=nI 2147483587) (aq (a:=nI o) (b:=nI o) rfl rfl (KG (by omega))) rfl (nU (by omega))) (aq (a:=nI o) (b:=nI 7) rfl rfl (G8 (by omega) (by omega))) (by rw[<-L5];exact pO _ _)) (by simp)) (uF (d:=nI (o2*48271 % 2147483647 / 16)) (ds:=ns.map nI) (aq (a:=nI (o2*48271 % 2147483647)) (b:=nI 16) (aq (a:=nI (o2*48271)) (b:=nI 2147483647) (aq (a:=nI o2) (b:=nI 48271) rfl rfl (KG (by omega))) rfl (nU (by omega))) rfl (G8 (by omega) (by omega))) rfl hlen))),ns++[o2*48271 % 2147483647 / 16],r, .val (nI k), .val (nI o2),by simp [hl],?_⟩
      rw[List.map_append];rfl)
 rw[List.length_map,List.length_range] at hl;refine⟨ns,hl,?_⟩;unfold dk p6;subst hδ;refine cL (bu (yP (ds:=[]) rfl (by simp [dD,je])) (bu (eL (d:=nI a) (aA (ds:=[.int c]) rfl (by show R.ok (D.int (if c < 0 then -c else c))=_;rw [ha];rfl)) (by simp [dD,je])) (bu (i_ (ds:=(List.range n).map nI) ?_ e1) (cv rfl))))
 rw[<-gT];exact dM (n:=n) rfl (by omega)
theorem Kz(n:Nat):∃kd,kd<=4/\ky [nI n]= .ok (.tup [.str (kS kd),nI (ar kd)]):=by
 have key:∀r,r < 7->∃kd,kd<=4/\cn (.lst [.tup [.str "and", .int 2], .tup [.str "or", .int 2], .tup [.str "xor", .int 2], .tup [.str "not", .int 1], .tup [.str "vote", .int 3], .tup [.str "and", .int 2], .tup [.str "xor", .int 2]]) (nI r)= .ok (.tup [.str (kS kd),nI (ar kd)]):=fun r hr=>by
  match r,hr with
  | 0,_=>exact⟨1,by omega,rfl⟩
  | 1,_=>exact⟨2,by omega,rfl⟩
  | 2,_=>exact⟨3,by omega,rfl⟩
  | 3,_=>exact⟨0,by omega,rfl⟩
  | 4,_=>exact⟨4,by omega,rfl⟩
  | 5,_=>exact⟨1,by omega,rfl⟩
  | 6,_=>exact⟨3,by omega,rfl⟩
 obtain⟨kd,h1,h2⟩:=key (n % 7) (Nat.mod_lt _ (by omega))
 refine⟨kd,h1,?_⟩;unfold ky v8;exact cL (cv (aq (b:=nI (n % 7)) rfl (aq (a:=nI n) (b:=nI 7) rfl rfl (nU (by omega))) h2))
theorem jK{ms:List Nat}{n x:Nat}(h:ms[n]? =some x):cn (.lst (ms.map nI)) (nI n)= .ok (nI x):=NT.pB (by rw[List.getElem?_map,h];rfl)
end K42
end
section
namespace K42
open PySem PySem.Spec PyProof.Rows L2 L3 MT
def gE(sc:D)(f m w n:Nat)(a5 a6 a7 a8 a9 EK Jw:Option V3):DE:=[some (.d sc),some (.d (nI f)),some (.d (nI m)),some (.d (nI w)),some (.loc n),a5,a6,a7,a8,a9,EK,Jw]
theorem x0(S X:aP)(x:SO):(S++x ::X)[S.length]? =some x:=by rw[List.getElem?_append_right (Nat.le_refl _),Nat.sub_self];rfl
theorem y0(S X:aP)(x y:SO):(S++x ::X).set S.length y=S++y ::X:=by rw[List.set_append_right _ _ (Nat.le_refl _),Nat.sub_self];rfl
theorem xL(S X:aP)(x y:SO):(S++x ::(X++[y]))[S.length+1+X.length]? =some y:=by
 rw[List.getElem?_append_right (by omega),show S.length+1+X.length - S.length=X.length+1 by omega,List.getElem?_cons_succ,List.getElem?_append_right (Nat.le_refl _),Nat.sub_self];rfl
theorem yL(S X:aP)(x y z:SO):(S++x ::(X++[y])).set (S.length+1+X.length) z=S++x ::(X++[z]):=by
 rw[List.set_append_right _ _ (by omega),show S.length+1+X.length - S.length=X.length+1 by omega,List.set_cons_succ,List.set_append_right _ _ (Nat.le_refl _),Nat.sub_self];rfl
theorem Tx(w:Nat)(hw:0 < w):∃mn:Nat,0 < mn/\mn<=w/\p9 [nI 4,nI w]= .ok (nI mn):=by
 by_cases h:w < 4
 .refine⟨w,hw,Nat.le_refl _,?_⟩;show R.ok (D.int (if(w:Int) < 4 then(w:Int) else 4))=_
  rw[if_pos (by omega)];rfl
 .refine⟨4,by omega,by omega,?_⟩
  show R.ok (D.int (if(w:Int) < 4 then(w:Int) else 4))=_
  rw[if_neg (by omega)];rfl
theorem Gh{sc:D}{f m w j x:Nat}{g0:SO}{S X:aP}{ms ws:List Nat}{a5 a7 a8 Jw:Option V3}(hw:0 < w)(hx:ms[1+j]? =some x)(hl:ws.length < 1000) :
 W3 (lO (gE sc f m w S.length a5 (some (.d (.lst (ms.map nI)))) a7 a8 (some (.loc (S.length+1+X.length))) (some (.d (nI j))) Jw) (S++g0 ::(X++[.lst (ws.map nI)]))) fun o S2=>∃(y:Nat) (PF:Option V3),o= .nx (gE sc f m w S.length a5 (some (.d (.lst (ms.map nI)))) a7 a8 (some (.loc (S.length+1+X.length))) (some (.d (nI j))) PF)/\y < w/\S2=S++g0 ::(X++[.lst ((ws++[y]).map nI)]):=by
 have hz:sizeLine=16777216:=sizeLine_eq;obtain⟨mn,h1,h2,h3⟩:=Tx w hw;unfold lO gE;generalize hδ:down [some (.d sc),some (.d (nI f)),some (.d (nI m)),some (.d (nI w)),some (.loc S.length),a5,some (.d (.lst (ms.map nI))),a7,a8,some (.loc (S.length+1+X.length)),some (.d (nI j)),Jw]=δ;have v6:ae 6 δ= .ok (.lst (ms.map nI)):=by rw[<-hδ];rfl
 have v10:ae 10 δ= .ok (nI j):=by rw[<-hδ];rfl
 have v3:ae 3 δ= .ok (nI w):=by rw[<-hδ];rfl
 have ex:(e2 cn (ae 6) (e2 eT (eC (.int 1)) (ae 10))) δ= .ok (nI x):=aq (a:= .lst (ms.map nI)) (b:=nI (1+j)) v6 (aq (a:=nI 1) (b:=nI j) rfl v10 (pO _ _)) (jK hx);have e2x:(e2 rM (e2 cn (ae 6) (e2 eT (eC (.int 1)) (ae 10))) (eC (.int 2))) δ= .ok (nI (x / 2)):=aq (a:=nI x) (b:=nI 2) ex rfl (G8 (by omega) (by omega))
 obtain⟨nr,hnr,en⟩:∃nr,nr < w/\cn (.lst [nI (x / 2 % mn),nI (x / 2 % w)]) (nI (x % 2))= .ok (nI nr):=by
  have:x % 2=0\/x % 2=1:=by omega
  rcases this with q | q
  .rw [q];exact⟨x / 2 % mn,Nat.lt_of_lt_of_le (Nat.mod_lt _ h1) h2,rfl⟩
  .rw [q];exact⟨x / 2 % w,Nat.mod_lt _ hw,rfl⟩
 refine aW <| bB (by simp) <| bV (d:=nI nr) (by rw[hδ];exact aq (a:= .lst [nI (x / 2 % mn),nI (x / 2 % w)]) (b:=nI (x % 2)) (cJ (y7 (ds:=[nI (x / 2 % mn),nI (x / 2 % w)]) (ax (aq (a:=nI (x / 2)) (b:=nI mn) e2x (aA (ds:=[nI 4,nI w]) (ax rfl (ax v3 rfl)) h3) (nU h1)) (ax (aq (a:=nI (x / 2)) (b:=nI w) e2x v3 (nU hw)) rfl)) (by simp;omega))) (aq (a:=nI x) (b:=nI 2) ex rfl (nU (by omega))) en) ⟨_,rfl,?_⟩
 simp only[List.set];refine nM (k:=S.length+1+X.length) rfl ⟨_,xL _ _ _ _⟩ <| bV (d:=nI (w - 1 - nr)) (aq (a:=nI (w - 1)) (b:=nI nr) (aq (a:=nI w) (b:=nI 1) rfl rfl (FH (by omega))) rfl (FH (by omega))) ⟨_,_,rfl,xL _ _ _ _,by rw[List.length_map];omega,w - 1 - nr,_,rfl,by omega,?_⟩
 rw[yL,List.map_append];rfl
theorem Ia(ns:List Int)(f m w:Nat)(hw:0 < w)(hm:m < 100)(Zf:w < 1000){S:aP}(hS:jb S):W3 (jV [.d (.lst (ns.map .int)), .d (nI f), .d (nI m), .d (nI w)] S) fun v S1=>∃gs:List Gt,v= .d (.lst (gs.map gy))/\S1=S/\gs.length=m/\∀(i:Nat) (g:Gt),gs[i]? =some g->Gi (w+i) g:=by
 have hz:sizeLine=16777216:=sizeLine_eq;unfold jV;refine fZ hS (wI rfl ?_);simp only[cA,k7,List.map,List.length,List.replicate,List.cons_append,List.nil_append,Nat.reduceAdd,Nat.reduceSub];unfold oO;refine aW <| bB (by simp) <| mh (ds:=[]) rfl ⟨_,rfl,?_⟩
 simp only[List.set];refine aW <| d8 <| ik (ds:=(List.range m).map nI) (by rw[<-gT];exact dM (n:=m) rfl (by omega)) ?_
 refine(bF (fun i δ S2=>∃(gs:List Gt) (X:aP) (a5 a6 a7 a8 a9 EK Jw:Option V3),gs.length=i/\(∀(i:Nat) (g:Gt),gs[i]? =some g->Gi (w+i) g)/\S2=S++SO.lst (gs.map gy) ::X/\δ=gE (.lst (ns.map .int)) f m (w+i) S.length a5 a6 a7 a8 a9 EK Jw)
  ⟨[],[],none,none,none,none,none,none,none,rfl,by simp,rfl,rfl⟩ ?_).mono fun o S2 ⟨cZ,fH,gs,X,a5,a6,a7,a8,a9,EK,Jw,hl,hgs,tQ,hδ⟩=>⟨cZ,fH,?_⟩
 .rintro i v δ S2 hv ⟨gs,X,a5,a6,a7,a8,a9,EK,Jw,hl,hgs,rfl,rfl⟩;have hin:i < m:=by
   have:=(List.getElem?_eq_some_iff.mp hv).1;simpa using this
  obtain⟨k,hk,rfl⟩:=NT.dw hv;refine⟨gE (.lst (ns.map .int)) f m (w+i) S.length (some (.d (nI k))) a6 a7 a8 a9 EK Jw,rfl,?_⟩;unfold pV gE;obtain⟨c,hc⟩:=yY ns (f+k);obtain⟨ms,hms,em⟩:=qx c 6 (by omega)
  obtain⟨JL,MF⟩:∃x,ms[0]? =some x:=⟨ms[0],List.getElem?_eq_getElem (by omega)⟩
  obtain⟨x4,Xx⟩:∃x,ms[4]? =some x:=⟨ms[4],List.getElem?_eq_getElem (by omega)⟩
  obtain⟨kd,hkd,ek⟩:=Kz JL;have har:=Hl kd;refine aW <| bB (by simp) <| bV (d:= .lst (ms.map nI)) (aA (ds:=[.int c,nI 6]) (ax (aA (ds:=[.lst (ns.map .int),nI (f+k)]) (ax rfl (ax (aq (a:=nI f) (b:=nI k) rfl rfl (pO _ _)) rfl)) hc) rfl) em) ⟨_,rfl,?_⟩
  simp only[List.set];refine aW <| Qr <| bV (d:= .tup [.str (kS kd),nI (ar kd)]) (aA (ds:=[nI JL]) (ax (aq (a:= .lst (ms.map nI)) (b:=nI 0) rfl rfl (jK MF)) rfl) ek) ⟨_,rfl,_,rfl,?_⟩
  refine aW <| bB (by simp) <| mh (ds:=[]) rfl ⟨_,rfl,?_⟩
  have hlen:(S++SO.lst (gs.map gy) ::X).length=S.length+1+X.length:=by rw[List.length_append,List.length_cons];omega
  rw[hlen,List.append_assoc,List.cons_append];show W3 (bw _ _ (gE (.lst (ns.map .int)) f m (w+i) S.length (some (.d (nI k))) (some (.d (.lst (ms.map nI)))) (some (.d (.str (kS kd)))) (some (.d (nI (ar kd)))) (some (.loc (S.length+1+X.length))) EK Jw) _) _;refine aW <| d8 <| ik (ds:=(List.range (ar kd)).map nI) (by rw[<-gT];exact dM (n:=ar kd) rfl (by omega)) ?_
  refine(bF (fun j δ S3=>∃(ws:List Nat) (MJ PF:Option V3),ws.length=j/\(∀y∈ws,y < w+i)/\S3=S++SO.lst (gs.map gy) ::(X++[SO.lst (ws.map nI)])/\δ=gE (.lst (ns.map .int)) f m (w+i) S.length (some (.d (nI k))) (some (.d (.lst (ms.map nI)))) (some (.d (.str (kS kd)))) (some (.d (nI (ar kd)))) (some (.loc (S.length+1+X.length))) MJ PF)
   ⟨[],EK,Jw,rfl,by simp,rfl,rfl⟩ ?_).mono fun o S3 ⟨EL,e3,ws,MJ,PF,Dg,hws,EH,wG⟩=>⟨EL,e3,?_⟩
  .rintro j u δ S3 hu ⟨ws,MJ,PF,Dg,hws,rfl,rfl⟩;have hjn:j < ar kd:=by
    have:=(List.getElem?_eq_some_iff.mp hu).1;simpa using this
   obtain⟨k2,UT,rfl⟩:=NT.dw hu;have hk3:k2 < ar kd:=List.mem_range.mp (List.mem_of_getElem? UT);refine⟨gE (.lst (ns.map .int)) f m (w+i) S.length (some (.d (nI k))) (some (.d (.lst (ms.map nI)))) (some (.d (.str (kS kd)))) (some (.d (nI (ar kd)))) (some (.loc (S.length+1+X.length))) (some (.d (nI k2))) PF,rfl,?_⟩;refine(Gh (by omega) (List.getElem?_eq_getElem (by omega:1+k2 < ms.length)) (by omega)).mono fun o S4 ⟨y,Y7,eo,hy,MH⟩=>⟨_,eo,ws++[y],_,_,by simp [Dg],?_,MH,rfl⟩
   intro z hz';rcases List.mem_append.mp hz' with q | q
   .exact hws z q
   .rw [List.mem_singleton.mp q];exact hy
  rw[List.length_map,List.length_map,List.length_range] at Dg;subst wG EH;unfold gE;refine aW <| nM (k:=S.length) rfl ⟨_,x0 _ _ _⟩ <| RX (d:=gy (kd,ws,(x4 % 6==0))) ?_ (Nz _) ⟨_,gs.map gy,rfl,x0 _ _ _,by rw[List.length_map];omega,_,rfl,?_⟩
  .refine di (ds:=[.str (kS kd), .tup (ws.map nI), .bl (x4 % 6==0)]) (ax rfl (ax (aA (ds:=[.lst (ws.map nI)]) (ax (xo rfl (jc (xL _ _ _ _))) rfl) rfl) (ax (aq (a:=nI (x4 % 6)) (b:=nI 0) (aq (a:=nI x4) (b:=nI 6) (aq (a:= .lst (ms.map nI)) (b:=nI 4) rfl rfl (jK Xx)) rfl (nU (by omega))) rfl (Vi _ _)) rfl))) (by simp;omega)
  rw[y0];refine bB (by simp) <| bV (d:=nI (w+i+1)) (aq (a:=nI (w+i)) (b:=nI 1) rfl rfl (pO _ _)) ?_
  simp only[List.set];refine⟨_,rfl,gs++[(kd,ws,(x4 % 6==0))],X++[SO.lst (ws.map nI)],_,_,_,_,_,_,_,by simp [hl],?_,by rw[List.map_append];rfl,rfl⟩
  intro j g hj;by_cases hjl:j < gs.length
  .rw [List.getElem?_append_left hjl] at hj;exact hgs j g hj
  .rw [List.getElem?_append_right (by omega)] at hj
   have h0:j - gs.length=0:=by
    cases q:j - gs.length with
    | zero=>rfl
    | succ n=>rw [q] at hj;simp at hj
   rw[h0] at hj;cases hj;rw[show j=i by omega]
   exact⟨hkd,Dg,hws⟩
 rw[List.length_map,List.length_map,List.length_range] at hl;subst hδ tQ;unfold gE;refine AU (k:=S.length) (ds:=gs.map gy) rfl (x0 _ _ _) ?_;rw[y0];simp only[List.set];exact eG <| bV (d:= .lst (gs.map gy)) rfl ⟨.d (.lst (gs.map gy)),rfl,by unfold fR;rfl,⟨_,rfl⟩, .lst (gs.map gy),by unfold res;rfl,⟨gs,rfl,trivial,hl,hgs⟩⟩
end K42
end
section
namespace K42
open PySem PySem.Spec PyProof.Rows L2 L3 MT
structure GN (l:Zm) (gs:List Gt) (os:Zn):Prop where
 no:iq l gs os
 c1:1<=l.length
 c:l.length<=3
 g:gs.length<=7
 o:∀x∈os,1<=x.2.length/\x.2.length<=3
 ol:os.length<=2
 fi:∀x∈l,Iu x
 fo:∀x∈os,cS 0 (.str x.1)
theorem GN.fit{l:Zm}{gs:List Gt}{os:Zn}(h:GN l gs os):cS 4 (aY l gs os):=cS.tup fun d hd=>by
 simp only[List.mem_cons,List.not_mem_nil,or_false] at hd;rcases hd with rfl | rfl | rfl
 .exact cS.lst fun d hd=>by obtain⟨x,hx,rfl⟩:=List.mem_map.mp hd;exact(G_ (h.fi x hx)).mono (by omega)
 .exact cS.lst fun d hd=>by obtain⟨x,hx,rfl⟩:=List.mem_map.mp hd;exact Iz
 .exact cS.lst fun d hd=>by obtain⟨x,hx,rfl⟩:=List.mem_map.mp hd;exact Hf (h.fo x hx)
theorem KA(k b:Nat)(hk:k < 3)(hb:b < 2):∃s n x,cS 0 (.str s)/\cn (.lst [.str "a", .str "ab", .str "long"]) (nI k)= .ok n/\cn (.lst [.str "", .str "x"]) (nI b)= .ok x/\eT n x= .ok (.str s):=by
 have hz:sizeLine=16777216:=sizeLine_eq
 match k,b,hk,hb with
 | 0,0,_,_=>exact⟨_,_,_,cS.str (by decide+kernel),rfl,rfl,cg _ (by rw[hz];decide+kernel)⟩
 | 0,1,_,_=>exact⟨_,_,_,cS.str (by decide+kernel),rfl,rfl,cg _ (by rw[hz];decide+kernel)⟩
 | 1,0,_,_=>exact⟨_,_,_,cS.str (by decide+kernel),rfl,rfl,cg _ (by rw[hz];decide+kernel)⟩
 | 1,1,_,_=>exact⟨_,_,_,cS.str (by decide+kernel),rfl,rfl,cg _ (by rw[hz];decide+kernel)⟩
 | 2,0,_,_=>exact⟨_,_,_,cS.str (by decide+kernel),rfl,rfl,cg _ (by rw[hz];decide+kernel)⟩
 | 2,1,_,_=>exact⟨_,_,_,cS.str (by decide+kernel),rfl,rfl,cg _ (by rw[hz];decide+kernel)⟩
theorem Jg(k:Nat)(hk:k < 2):∃s,cS 0 (.str s)/\cn (.lst [.str "b", .str "long"]) (nI k)= .ok (.str s):=by
 match k,hk with
 | 0,_=>exact⟨_,cS.str (by decide+kernel),rfl⟩
 | 1,_=>exact⟨_,cS.str (by decide+kernel),rfl⟩
theorem Eb(d:D)(n:Nat):(List.replicate n [d]).flatten=List.replicate n d:=by
 induction n with
 | zero=>rfl
 | succ n ih=>rw [List.replicate_succ,List.flatten_cons,ih,List.replicate_succ];rfl
theorem sumZ:∀ns:List Nat,(nZ ns).sum=(ns.sum:Int)
 | []=>rfl
 | n ::ns=>by
   show(n:Int)+(nZ ns).sum=((n+ns.sum:Nat):Int);rw[sumZ ns];omega
theorem Lf{l:Zm}(h1:1<=l.length)(h:∀x∈l,Iu x):0 < ub l:=by
 cases l with
 | nil=>simp at h1
 | cons x l=>
   have:=(h x List.mem_cons_self).1.1;unfold ub;rw[List.map_cons,List.sum_cons];omega
theorem Ge{l:Zm}(h1:l.length<=3)(h:∀x∈l,Iu x):ub l<=300:=by
 have:=vp (l:=l) fun x hx=>by have:=(h x hx).1.2;omega
 omega
theorem P8(w:Nat)(hw:0 < w):∃mn:Nat,0 < mn/\mn<=w/\p9 [nI w,nI 4]= .ok (nI mn):=by
 by_cases h:4 < w
 .refine⟨4,by omega,by omega,?_⟩
  show R.ok (D.int (if(4:Int) < w then(4:Int) else w))=_
  rw[if_pos (by omega)];rfl
 .refine⟨w,by omega,by omega,?_⟩
  show R.ok (D.int (if(4:Int) < w then(4:Int) else w))=_
  rw[if_neg (by omega)];rfl
def eN(sc hd ins w gs:Option V3)(n:Option V3)(a3 a7 a8 a9:Option V3):DE:=[sc,hd,ins,a3,w,gs,n,a7,a8,a9]
theorem Ic{ns:List Int}{hd ins Sn:Option V3}{W k:Nat}{n:Nat}{S:aP}{a7 a8 a9:Option V3}{ot:Zn}(hW:0 < W)(hk:k < 2)(hn:S[n]? =some (.lst (ot.map Fm)))(hl:ot.length < 100) :
 W3 (oG (eN (some (.d (.lst (ns.map .int)))) hd ins (some (.d (nI W))) Sn (some (.loc n)) (some (.d (nI k))) a7 a8 a9) S) fun o S2=>∃(x:Str × List Nat) (b7 b8 b9:Option V3),o= .nx (eN (some (.d (.lst (ns.map .int)))) hd ins (some (.d (nI W))) Sn (some (.loc n)) (some (.d (nI k))) b7 b8 b9)/\(1<=x.2.length/\x.2.length<=3)/\(∀w∈x.2,w < W)/\cS 0 (.str x.1)/\S2=S.set n (.lst ((ot++[x]).map Fm)):=by
 have hz:sizeLine=16777216:=sizeLine_eq;obtain⟨c,hc⟩:=yY ns (9+k);obtain⟨ms,hms,em⟩:=qx c 4 (by omega)
 obtain⟨JL,MF⟩:∃x,ms[0]? =some x:=⟨ms[0],List.getElem?_eq_getElem (by omega)⟩
 obtain⟨mn,m1,m2,m3⟩:=P8 W hW;obtain⟨s,hs,es⟩:=Jg k hk;generalize hwd:1+JL % 3=wd;have hwd1:1<=wd/\wd<=3:=by omega
 unfold oG eN;refine aW <| bB (by simp) <| bV (d:= .lst (ms.map nI)) (aA (ds:=[.int c,nI 4]) (ax (aA (ds:=[.lst (ns.map .int),nI (9+k)]) (ax rfl (ax (aq (a:=nI 9) (b:=nI k) rfl rfl (pO _ _)) rfl)) hc) rfl) em) ⟨_,rfl,?_⟩
 simp only[List.set];refine aW <| bB (by simp) <| bV (d:=nI wd) (aq (a:=nI 1) (b:=nI (JL % 3)) rfl (aq (a:=nI JL) (b:=nI 3) (aq (a:= .lst (ms.map nI)) (b:=nI 0) rfl rfl (jK MF)) rfl (nU (by omega))) (by rw[<-hwd];exact pO _ _)) ⟨_,rfl,?_⟩
 simp only[List.set];refine aW <| bB (by simp) <| j1 (fun j ds S2=>S2=S/\∃ws:List Nat,ws.length=j/\(∀y∈ws,y < W)/\ds=ws.map nI) (ik (ds:=(List.range wd).map nI) (by rw[<-gT];exact dM (n:=wd) rfl (by omega)) ⟨by rw[List.length_map,List.length_map,List.length_range];omega,⟨rfl,[],rfl,by simp,rfl⟩,?_,?_⟩)
 .rintro j v ds S2 hv ⟨rfl,ws,Dg,hws,rfl⟩;obtain⟨k2,UT,rfl⟩:=NT.dw hv;have hk3:k2 < wd:=List.mem_range.mp (List.mem_of_getElem? UT);have hx:ms[1+k2]? =some ms[1+k2]:=List.getElem?_eq_getElem (by omega)
  generalize ms[1+k2]=x at hx;have hxm:x % mn < mn:=Nat.mod_lt _ m1;refine⟨[some (.d (nI k2)),some (.d (nI W)),some (.d (.lst (ms.map nI)))],rfl,wj ?_⟩;rw[if_pos rfl];refine bV (d:=nI (W - 1 - x % mn)) (aq (a:=nI (W - 1)) (b:=nI (x % mn)) (aq (a:=nI W) (b:=nI 1) rfl rfl (FH (by omega))) (aq (a:=nI x) (b:=nI mn) (aq (a:= .lst (ms.map nI)) (b:=nI (1+k2)) rfl (aq (a:=nI 1) (b:=nI k2) rfl rfl (pO _ _)) (jK hx)) (aA (ds:=[nI W,nI 4]) rfl m3) (nU m1)) (FH (by omega))) ⟨_,rfl,rfl,ws++[W - 1 - x % mn],by simp [Dg],?_,by rw[List.map_append];rfl⟩
  intro y hy;rcases List.mem_append.mp hy with q | q
  .exact hws y q
  .rw [List.mem_singleton.mp q];omega
 rintro ds S2 ⟨rfl,ws,Dg,hws,rfl⟩;rw[List.length_map,List.length_map,List.length_range] at Dg;refine⟨_,rfl,?_⟩;simp only[List.set];refine aW (W3.mono (Q:=fun o S3=>S3=S2/\∃JW:List Nat,JW.length=wd/\(∀y∈JW,y < W)/\o= .nx [some (.d (.lst (ns.map .int))),hd,ins,some (.d (nI k)),some (.d (nI W)),Sn,some (.loc n),some (.d (.lst (ms.map nI))),some (.d (nI wd)),some (.d (.lst (JW.map nI)))]) ?_ fun o S3 ⟨e3,JW,Yi,Uk,eo⟩=>⟨_,eo,?_⟩)
 .refine m7 <| qX (b:=JL / 3 % 3==0) (dN (a:=nI (JL / 3 % 3)) (b:=nI 0) (aq (a:=nI (JL / 3)) (b:=nI 3) (aq (a:=nI JL) (b:=nI 3) (aq (a:= .lst (ms.map nI)) (b:=nI 0) rfl rfl (jK MF)) rfl (G8 (by omega) (by omega))) rfl (nU (by omega))) rfl (Vi _ _)) ?_
  cases JL / 3 % 3==0 with
  | false=>rw [if_neg (by decide)];exact fw ⟨rfl,ws,Dg,hws,rfl⟩
  | true=>
    rw[if_pos rfl];have hw0:ws[0]? =some ws[0]:=List.getElem?_eq_getElem (by omega)
    refine bB (by simp) <| bV (d:= .lst ((List.replicate wd ws[0]).map nI)) (cJ ?_) ?_
    .have:=GQ (f:=d_ (ak (e2 cn (ae 9) (eC (.int 0))) aJ)) (g:=ae 8) (δ:=down [some (.d (.lst (ns.map .int))),hd,ins,some (.d (nI k)),some (.d (nI W)),Sn,some (.loc n),some (.d (.lst (ms.map nI))),some (.d (nI wd)),some (.d (.lst (ws.map nI)))]) (ds:=[nI ws[0]]) (n:=wd) (y7 (ax (aq (a:= .lst (ws.map nI)) (b:=nI 0) rfl rfl (jK hw0)) rfl) (by simp;omega)) rfl (by omega) (by simp;omega)
     rw[this,List.map_replicate,Eb]
    .simp only[List.set];exact⟨trivial,List.replicate wd ws[0],by simp,fun y hy=>by rw[(List.mem_replicate.mp hy).2];exact hws _ (List.getElem_mem _),rfl⟩
 subst e3;refine nM (k:=n) rfl ⟨_,hn⟩ <| bV (d:=Fm (s,JW)) (di (ds:=[.str s, .tup (JW.map nI)]) (ax (aq (a:= .lst [.str "b", .str "long"]) (b:=nI k) rfl rfl es) (ax (aA (ds:=[.lst (JW.map nI)]) rfl rfl) rfl)) (by simp;omega)) ⟨_,_,rfl,hn,by rw[List.length_map];omega,(s,JW),_,_,_,rfl,⟨by show 1<=JW.length;omega,by show JW.length<=3;omega⟩,Uk,hs,by rw[List.map_append];rfl⟩
theorem N_(ns:List Int){S:aP}(hS:jb S):W3 (nc [.d (.lst (ns.map .int))] S) fun v S1=>∃l gs os,v= .d (aY l gs os)/\S1=S/\GN l gs os:=by
 have hz:sizeLine=16777216:=sizeLine_eq;obtain⟨c,hc⟩:=yY ns 0;obtain⟨ms,hms,em⟩:=qx c 12 (by omega)
 have at':∀i,i < 12->∃x,ms[i]? =some x:=fun i hi=>⟨ms[i],List.getElem?_eq_getElem (by omega)⟩
 obtain⟨h0,e0⟩:=at' 0 (by omega)
 obtain⟨h1,e1⟩:=at' 1 (by omega)
 obtain⟨h5,e5⟩:=at' 5 (by omega)
 obtain⟨h6,e6⟩:=at' 6 (by omega)
 unfold nc;refine fZ hS (wI rfl ?_);simp only[cA,j7,List.map,List.length,List.replicate,List.cons_append,List.nil_append,Nat.reduceAdd,Nat.reduceSub];unfold su;refine aW <| bB (by simp) <| bV (d:= .lst (ms.map nI)) (aA (ds:=[.int c,nI 12]) (ax (aA (ds:=[.lst (ns.map .int),nI 0]) rfl hc) rfl) em) ⟨_,rfl,?_⟩
 simp only[List.set];refine aW <| bB (by simp) <| mh (ds:=[]) rfl ⟨_,rfl,?_⟩
 simp only[List.set];generalize hn:1+h0 % 3=n;have hn3:1<=n/\n<=3:=by omega
 refine aW <| d8 <| ik (ds:=(List.range n).map nI) ?_ ?_
 .rw [<-gT];exact dM (n:=n) (aq (a:=nI 1) (b:=nI (h0 % 3)) rfl (aq (a:=nI h0) (b:=nI 3) (aq (a:= .lst (ms.map nI)) (b:=nI 0) rfl rfl (jK e0)) rfl (nU (by omega))) (by rw[<-hn];exact pO _ _)) (by omega)
 refine(bF (fun i δ S2=>∃(l:Zm) (a3:Option V3),l.length=i/\(∀x∈l,Iu x)/\S2=S++[SO.lst (l.map MT.inD)]/\δ=eN (some (.d (.lst (ns.map .int)))) (some (.d (.lst (ms.map nI)))) (some (.loc S.length)) none none none a3 none none none)
  ⟨[],none,rfl,by simp,rfl,rfl⟩ ?_).mono fun o S2 ⟨cZ,fH,l,a3,hl,hli,tQ,hδ⟩=>⟨cZ,fH,?_⟩
 .rintro i v δ S2 hv ⟨l,a3,hl,hli,rfl,rfl⟩;have hin:i < n:=by
   have:=(List.getElem?_eq_some_iff.mp hv).1;simpa using this
  obtain⟨k,hk,rfl⟩:=NT.dw hv;have hkn:k < n:=List.mem_range.mp (List.mem_of_getElem? hk);obtain⟨x2,XF⟩:=at' (2+k) (by omega)
  obtain⟨s,nm,sx,hs,en,ex,es⟩:=KA k (h1 % 2) (by omega) (Nat.mod_lt _ (by omega))
  refine⟨eN (some (.d (.lst (ns.map .int)))) (some (.d (.lst (ms.map nI)))) (some (.loc S.length)) none none none (some (.d (nI k))) none none none,rfl,?_⟩;unfold t6 eN;refine nM (k:=S.length) rfl ⟨_,bg _ _⟩ <| bV (d:=MT.inD (s,1+x2 % 3)) (di (ds:=[.str s,nI (1+x2 % 3)]) (ax (aq (a:=nm) (b:=sx) (aq (a:= .lst [.str "a", .str "ab", .str "long"]) (b:=nI k) rfl rfl en) (aq (a:= .lst [.str "", .str "x"]) (b:=nI (h1 % 2)) rfl (aq (a:=nI h1) (b:=nI 2) (aq (a:= .lst (ms.map nI)) (b:=nI 1) rfl rfl (jK e1)) rfl (nU (by omega))) ex) es) (ax (aq (a:=nI 1) (b:=nI (x2 % 3)) rfl (aq (a:=nI x2) (b:=nI 3) (aq (a:= .lst (ms.map nI)) (b:=nI (2+k)) rfl (aq (a:=nI 2) (b:=nI k) rfl rfl (pO _ _)) (jK XF)) rfl (nU (by omega))) (pO _ _)) rfl)) (by simp;omega)) ⟨_,_,rfl,bg _ _,by rw[List.length_map];omega,_,rfl,l++[(s,1+x2 % 3)],_,by simp [hl],?_,by rw[dA,List.map_append];rfl,rfl⟩
  intro x hx;rcases List.mem_append.mp hx with q | q
  .exact hli x q
  .rw [List.mem_singleton.mp q];exact⟨⟨by show 1<=1+x2 % 3;omega,by show 1+x2 % 3<=3;omega⟩,hs⟩
 rw[List.length_map,List.length_map,List.length_range] at hl;subst hδ tQ;have hwp:=Lf (by omega) hli
 have hws:=Ge (by omega) hli
 unfold eN;refine AU (k:=S.length) (ds:=l.map MT.inD) rfl (bg _ _) ?_;rw[dA];simp only[List.set];refine aW <| bB (by simp) <| bV (d:=nI (ub l)) (aA (ds:=[.lst ((l.map (·.2)).map nI)]) (ax (cJ (ck (ds:=l.map MT.inD) (dC rfl) (by rw[List.length_map];omega) ?_)) rfl) ?_) ⟨_,rfl,?_⟩
 .have:=NT.cG (t:=aI 0) (c:=j4) (f:=e2 cn (ae 0) (eC (.int 1))) (δ:=[.un]) (fun _:Str × Nat=>true) MT.inD (fun x=>nI x.2) (xs:=l) fun x _=>⟨[.val (MT.inD x)],rfl,rfl,fun _=>rfl⟩
  rw[List.filter_eq_self.mpr (fun _ _=>rfl)] at this
  rw[List.map_map];exact this
 .rw [<-F_];show(match ints? ((nZ (l.map (·.2))).map D.int) with | some ns=>R.ok (D.int ns.sum) | none=> .no)=_
  rw[L2.ints_map];show R.ok (D.int (nZ (l.map (·.2))).sum)=_
  rw[sumZ];rfl
 simp only[List.set];have hcl:jb (S++[SO.k4]):=jb.push hS fun _=>rfl
 refine aW <| bB (by simp) <| dy <| aD <| bV (d:= .lst (ns.map .int)) rfl <| aD <| bV (d:=nI 1) rfl <| aD <| bV (d:=nI (1+h5 % 7)) (aq (a:=nI 1) (b:=nI (h5 % 7)) rfl (aq (a:=nI h5) (b:=nI 7) (aq (a:= .lst (ms.map nI)) (b:=nI 5) rfl rfl (jK e5)) rfl (nU (by omega))) (pO _ _)) <| aD <| bV (d:=nI (ub l)) rfl <| cI <| (Ia ns 1 (1+h5 % 7) (ub l) hwp (by omega) (by omega) hcl).mono fun v S3 ⟨gs,ev,X1,hgl,hgs⟩=>⟨_,rfl,?_⟩
 subst ev X1;simp only[List.set];refine aW <| bB (by simp) <| bV (d:=nI (ub l+gs.length)) (aq (a:=nI (ub l)) (b:=nI gs.length) rfl (aA (ds:=[.lst (gs.map gy)]) rfl (by rw[sI,List.length_map];rfl)) (pO _ _)) ⟨_,rfl,?_⟩
 simp only[List.set];refine aW <| bB (by simp) <| mh (ds:=[]) rfl ⟨_,rfl,?_⟩
 simp only[List.set];have hlen:(S++[SO.k4]).length=S.length+1:=by simp
 rw[hlen,List.append_assoc];generalize hm:1+h6 % 2=m;have VX:1<=m/\m<=2:=by omega
 refine aW <| d8 <| ik (ds:=(List.range m).map nI) ?_ ?_
 .rw [<-gT];exact dM (n:=m) (aq (a:=nI 1) (b:=nI (h6 % 2)) rfl (aq (a:=nI h6) (b:=nI 2) (aq (a:= .lst (ms.map nI)) (b:=nI 6) rfl rfl (jK e6)) rfl (nU (by omega))) (by rw[<-hm];exact pO _ _)) (by omega)
 refine(bF (fun i δ S2=>∃(os:Zn) (a3 a7 a8 a9:Option V3),os.length=i/\(∀x∈os,(1<=x.2.length/\x.2.length<=3)/\(∀w∈x.2,w < ub l+gs.length)/\cS 0 (.str x.1))/\S2=S++[SO.k4,SO.lst (os.map Fm)]/\δ=eN (some (.d (.lst (ns.map .int)))) (some (.d (.lst (ms.map nI)))) (some (.d (.lst (l.map MT.inD)))) (some (.d (nI (ub l+gs.length)))) (some (.d (.lst (gs.map gy)))) (some (.loc (S.length+1))) a3 a7 a8 a9)
  ⟨[],a3,none,none,none,rfl,by simp,rfl,rfl⟩ ?_).mono fun o S2 ⟨cZ,fH,os,b3,b7,b8,b9,hol,hoo,tQ,hδ⟩=>⟨cZ,fH,?_⟩
 .rintro i v δ S2 hv ⟨os,b3,b7,b8,b9,hol,hoo,rfl,rfl⟩;have him:i < m:=by
   have:=(List.getElem?_eq_some_iff.mp hv).1;simpa using this
  obtain⟨k,hk,rfl⟩:=NT.dw hv;have hkm:k < m:=List.mem_range.mp (List.mem_of_getElem? hk);refine⟨eN (some (.d (.lst (ns.map .int)))) (some (.d (.lst (ms.map nI)))) (some (.d (.lst (l.map MT.inD)))) (some (.d (nI (ub l+gs.length)))) (some (.d (.lst (gs.map gy)))) (some (.loc (S.length+1))) (some (.d (nI k))) b7 b8 b9,rfl,?_⟩;refine(Ic (by omega) (by omega) (ot:=os) (by exact g2) (by omega)).mono fun o S4 ⟨x,c7,c8,c9,eo,q1,q2,q3,MH⟩=>⟨_,eo,os++[x],_,_,_,_,by simp [hol],?_,by rw[MH];exact s2,rfl⟩
  intro y hy;rcases List.mem_append.mp hy with q | q
  .exact hoo y q
  .rw [List.mem_singleton.mp q];exact⟨q1,q2,q3⟩
 rw[List.length_map,List.length_map,List.length_range] at hol;subst hδ tQ;unfold eN;refine AU (k:=S.length+1) (ds:=os.map Fm) rfl g2 ?_;simp only[List.set];refine eG <| bV (d:=aY l gs os) (di (ds:=[.lst (l.map MT.inD), .lst (gs.map gy), .lst (os.map Fm)]) rfl (by simp;omega)) ⟨.d (aY l gs os),rfl,by unfold fR;rfl,⟨[SO.k4,SO.k4],s2⟩,aY l gs os,by unfold res;rfl,l,gs,os,rfl,trivial,⟨⟨by omega,fun x hx=>by have:=(hli x hx).1.2;omega,by omega,hgs,by omega,fun x hx=>⟨by have:=(hoo x hx).1.2;omega,(hoo x hx).2.1⟩⟩,by omega,by omega,by omega,fun x hx=>(hoo x hx).1,by omega,hli,fun x hx=>(hoo x hx).2.2⟩⟩
end K42
end
section
namespace K42
open PySem PySem.Spec PyProof.Rows L2 L3 MT
def lo:Nat->Nat->List Bool
 | 0,_=>[]
 | k+1,p=>p.testBit k ::lo k p
theorem D8:∀c p,lo (c+1) p=lo c (p / 2)++[p.testBit 0]
 | 0,p=>rfl
 | c+1,p=>by
   show p.testBit (c+1) ::lo (c+1) p=(p / 2).testBit c ::lo c (p / 2)++[p.testBit 0];rw[D8 c p,Nat.testBit_succ];rfl
theorem Br{α:Type}(f g:α->α):∀(l:List α) (p:Nat),(l.flatMap fun b=>[f b,g b])[p]? =(l[p / 2]?).map fun b=>if p.testBit 0 then g b else f b
 | [],p=>by simp
 | b ::l,0=>rfl
 | b ::l,1=>rfl
 | b ::l,p+2=>by
   rw[List.flatMap_cons];show(f b ::g b ::(l.flatMap fun b=>[f b,g b]))[p+2]? =_
   rw[List.getElem?_cons_succ,List.getElem?_cons_succ,Br f g l p,show(p+2) / 2=p / 2+1 by omega,List.getElem?_cons_succ]
   have:(p+2).testBit 0=p.testBit 0:=by rw[Nat.testBit_zero,Nat.testBit_zero,Nat.add_mod_right]
   rw[this]
theorem Bq:∀c p,p < 2 ^ c->(dg c)[p]? =some (lo c p)
 | 0,p,h=>by
   have:p=0:=by omega
   subst this;rfl
 | c+1,p,h=>by
   unfold dg;rw[Br (fun b=>b++[false]) (fun b=>b++[true]),Bq c (p / 2) (by rw[Nat.pow_succ] at h;omega),D8]
   show some _=some _;congr 1;cases p.testBit 0 <;> rfl
theorem Me:∀c p k,k < c->(lo c p).getD k false=p.testBit (c - 1 - k)
 | 0,_,_,h=>by omega
 | c+1,p,0,_=>rfl
 | c+1,p,k+1,h=>by
   show(lo c p).getD k false=_;rw[Me c p k (by omega)]
   congr 1;omega
theorem Ko{c k p:Nat}(hk:k < c)(hp:p < 2 ^ c):Pp c k p=p.testBit (c - 1 - k):=by
 unfold Pp;rw[List.getD_eq_getElem?_getD (l:=dg c),Bq c p hp];exact Me c p k hk
theorem EB(g:M->D)(b:M):∀(n:Nat) (ws:List M),(lg [] b n ws).map g=ws.map g++List.replicate n (g b)
 | 0,ws=>by simp [lg]
 | n+1,ws=>by
   unfold lg;have e:(fun p=>b p !=([]:List Int).contains ((lg [] b n ws).length:Int))=b:=by
    funext p;show(b p !=false)=b p;cases b p <;> rfl
   rw[e,List.map_append,EB g b n ws,List.append_assoc,List.replicate_succ'];rfl
def bL(ws:List M)(p:Nat):List D:=ws.map fun f=>bI (f p)
theorem B8(ws:List M)(p:Nat):(bL ws p).length=ws.length:=by unfold bL;rw [List.length_map]
theorem Mc{ws:List M}{p n:Nat}(h:n < ws.length):cn (.lst (bL ws p)) (nI n)= .ok (bI (wK ws n p)):=NT.pB (by
 unfold bL;rw[List.getElem?_map,List.getElem?_eq_getElem h];unfold wK;rw[List.getD_eq_getElem?_getD,List.getElem?_eq_getElem h];rfl)
theorem Gy(b:Bool):nV (bI b)=true:=by cases b <;> rfl
theorem Dn:∀bs:List Bool,ix (bs.map bI)=true
 | []=>by unfold ix;rfl
 | b ::bs=>by
   rw[List.map_cons];unfold ix;rw[Gy,Dn bs];rfl
theorem SN(a b:Nat):Be (nI a) (nI b)= .ok (nI (a / 2 ^ b)):=by
 show R.bN (decide ((0:Int)<=((b:Nat):Int))) (.ok (D.int ((a:Int) / 2 ^ ((b:Int)).toNat)))=_;rw[cg _ (by omega),Int.toNat_natCast]
 congr 2
theorem SR(a n:Nat):CN (nI (a / 2 ^ n)) (nI 1)= .ok (bI (a.testBit n)):=by
 show R.ok (D.int (Builtin.bitAnd ((a / 2 ^ n:Nat):Int) ((1:Nat):Int)))=_;rw[rg,Nat.and_one_is_mod,Nat.testBit_eq_decide_div_mod_eq];have:a / 2 ^ n % 2=0\/a / 2 ^ n % 2=1:=by omega
 rcases this with q | q <;> rw[q] <;> rfl
theorem Ku{l:Zm}{gs:List Gt}{os:Zn}{p:Nat}(hc:l.length<=6):iC [aY l gs os,nI p]= .ok (.tup ((List.range l.length).map fun k=>bI (p.testBit (l.length - 1 - k)))):=by
 have hz:sizeLine=16777216:=sizeLine_eq;unfold iC vv;refine cL (bu (eL (d:=nI l.length) (aA (ds:=[.lst (l.map MT.inD)]) (ax (aq (a:=aY l gs os) (b:= .int 0) rfl rfl rfl) rfl) (by rw[sI,List.length_map];rfl)) (by simp [dD,nk])) (cv (aA (ds:=[.lst ((List.range l.length).map fun k=>bI (p.testBit (l.length - 1 - k)))]) (ax (cJ (ck (ds:=(List.range l.length).map nI) ?_ (by rw[List.length_map,List.length_range];omega) ?_)) rfl) rfl)))
 .rw [<-gT];exact dM (n:=l.length) rfl (by omega)
 .have:=NT.cG (t:=aI 0) (c:=j4) (f:=e2 CN (e2 Be (ae 1) (e2 qZ (e2 qZ (ae 2) (eC (.int 1))) (ae 0))) (eC (.int 1))) (δ:=[.un, .val (nI p), .val (nI l.length)]) (fun _:Nat=>true) nI (fun k=>bI (p.testBit (l.length - 1 - k))) (xs:=List.range l.length) fun k hk=>⟨[.val (nI k), .val (nI p), .val (nI l.length)],rfl,rfl,fun _=>by
   rw[List.mem_range] at hk;exact aq (a:=nI (p / 2 ^ (l.length - 1 - k))) (b:=nI 1) (aq (a:=nI p) (b:=nI (l.length - 1 - k)) rfl (aq (a:=nI (l.length - 1)) (b:=nI k) (aq (a:=nI l.length) (b:=nI 1) rfl rfl (FH (by omega))) rfl (FH (by omega))) (SN _ _)) rfl (SR _ _)⟩
  rw[List.filter_eq_self.mpr (fun _ _=>rfl)] at this
  exact this
theorem K3{c p:Nat}(hp:p < 2 ^ c):((List.range c).map fun k=>bI (p.testBit (c - 1 - k)))=(fY c).map fun f=>bI (f p):=by
 unfold fY;rw[List.map_map];refine List.map_congr_left fun k hk=>?_
 rw[List.mem_range] at hk;show _=bI (Pp c k p);rw[Ko hk hp]
theorem Gz{kd:Nat}{bs:List Bool}(hk:kd<=4)(hl:bs.length=ar kd):∃mn mx sm nt df:Int,p9 [.lst (bs.map bI)]= .ok (.int mn)/\DW [.lst (bs.map bI)]= .ok (.int mx)/\(pW [.lst (bs.map bI)]).bind (fun d=>jv d (.int 2))= .ok (.int sm)/\(cn (.lst (bs.map bI)) (.int 0)).bind (fun d=>qZ (.int 1) d)= .ok (.int nt)/\((pW [.lst (bs.map bI)]).bind fun d=>(JT d (.int 1)).bind fun d=>qV [d])= .ok (.int df)/\(zl (u6 ["and","or","xor","not"] [mn,mx,sm,nt]) (Sum.inr (kS kd))).getD (.int df)=bI (gv kd bs):=by
 match kd,bs,hl with
 | 0,[a],_=>cases a <;> exact⟨_,_,_,_,_,rfl,rfl,rfl,rfl,rfl,rfl⟩
 | 1,[a,b],_=>cases a <;> cases b <;> exact⟨_,_,_,_,_,rfl,rfl,rfl,rfl,rfl,rfl⟩
 | 2,[a,b],_=>cases a <;> cases b <;> exact⟨_,_,_,_,_,rfl,rfl,rfl,rfl,rfl,rfl⟩
 | 3,[a,b],_=>cases a <;> cases b <;> exact⟨_,_,_,_,_,rfl,rfl,rfl,rfl,rfl,rfl⟩
 | 4,[a,b,c],_=>cases a <;> cases b <;> cases c <;> exact⟨_,_,_,_,_,rfl,rfl,rfl,rfl,rfl,rfl⟩
end K42
end
section
namespace K42
open PySem PySem.Spec PyProof.Rows L2 L3 MT
theorem Oo{α β:Type}{xs:List α}{ys:List β}{f:α->D}{g:β->D}{i:Nat}{v:V3}(h:((lL (xs.map f) (ys.map g)).map V3.d)[i]? =some v):∃x y,xs[i]? =some x/\ys[i]? =some y/\v= .d (.tup [f x,g y]):=by
 induction xs generalizing ys i with
 | nil=>simp [lL] at h
 | cons x xs ih=>
   cases ys with
   | nil=>simp [lL] at h
   | cons y ys=>
     cases i with
     | zero=>simp [lL] at h;exact⟨x,y,rfl,rfl,h.symm⟩
     | succ i=>simp only[lL,List.map_cons,List.zip_cons_cons,List.getElem?_cons_succ] at h ⊢;exact ih h
theorem Dx{α β:Type}{xs:List α}{ys:List β}{f:α->D}{g:β->D}(h:xs.length=ys.length):((lL (xs.map f) (ys.map g)).map V3.d).length=xs.length:=by
 unfold lL;simp [h]
theorem z8{gs:List Gt}{T:List Nat}{w0:List M}{i:Nat}{g:Gt}(h:gs[i]? =some g):vg gs (nZ T) w0 (i+1)=vg gs (nZ T) w0 i++[fun p=>gF g (vg gs (nZ T) w0 i) p !=T.contains i]:=by
 conv=>lhs;unfold vg
 rw[h];simp only[C7]
theorem E_{l:Zm}{bits:List M}{i:Nat}{x:Str × Nat}{f:M}(h:l[i]? =some x)(h2:bits[i]? =some f):g_ l bits [] (i+1)=lg [] f x.2 (g_ l bits [] i):=by
 conv=>lhs;unfold g_
 rw[h,h2]
def tE(nt bs T:D)(q:Nat)(a5 a6 a7 a8 a9 EK:Option V3):DE:=[some (.d nt),some (.d bs),some (.d T),some (.d (.tup [])),some (.loc q),a5,a6,a7,a8,a9,EK]
theorem OP{S X:aP}{q:Nat}{y:SO}(h:S.length<=q):(S++X).set q y=S++X.set (q - S.length) y:=List.set_append_right _ _ h
theorem AJ{S:aP}{q:Nat}{x:SO}{Y:aP}(h:S[q]? =some x):(S++Y)[q]? =some x:=by
 rw[List.getElem?_append_left (List.getElem?_eq_some_iff.mp h).1];exact h
theorem GA{S:aP}{q:Nat}{ds:List D}(h:S[q]? =some (.lst ds)):C6 S (.loc q)=some ds:=by
 show eE S q=some ds;unfold eE;simp only[h]
theorem N1{S:aP}{p a:Nat}{ws:List M}{ns:List Nat}{δ:DE}{it:FA}{own:List Str}{kp:List Nat}{Q:V3->aP->Prop}(hn:∀n∈ns,n < ws.length)(hl:ns.length < 1000)(hit:W3 (it δ S) fun vs S1=>vs=(ns.map nI).map V3.d/\S1=S)(Sh:oq own kp δ=[none,some (.loc a)])(e:S[a]? =some (.lst (bL ws p)))(h:Q (.d (.lst ((ns.map fun n=>wK ws n p).map bI))) S) :
 W3 (kB it (jT 0) wZ (xT (e2 cn (ae 1) (ae 0))) own kp δ S) Q:=by
 have hz:sizeLine=16777216:=sizeLine_eq;refine j1 (fun j ds S2=>S2=S/\ds=(((ns.map fun n=>wK ws n p).map bI).take j)) (hit.mono fun vs S1 ⟨e1,fH⟩=>?_)
 subst e1 fH;refine⟨by rw[List.length_map,List.length_map];omega,⟨rfl,by simp⟩,?_,?_⟩
 .rintro j v ds S2 hv ⟨rfl,rfl⟩;obtain⟨n,hnj,rfl⟩:=NT.dw hv;rw[Sh];refine⟨[some (.d (nI n)),some (.loc a)],rfl,wj ?_⟩;rw[if_pos rfl];refine RX (d:=bI (wK ws n p)) (aq (a:= .lst (bL ws p)) (b:=nI n) (xo rfl (jc e)) rfl (Mc (hn n (List.mem_of_getElem? hnj)))) (Gy _) ⟨_,rfl,rfl,?_⟩;rw[List.take_add_one,List.getElem?_map,List.getElem?_map,hnj];rfl
 .rintro ds S2 ⟨rfl,rfl⟩;rw[List.length_map,List.length_map,List.take_of_length_le (by simp)]
  exact h
theorem MC(a b:Bool):((eT (bI a) (.int (if b then 1 else 0))).bind fun d=>jv d (.int 2))= .ok (bI (a !=b)):=by
 cases a <;> cases b <;> rfl
section
variable {c p:Nat} {l:Zm} {gs:List Gt} {os:Zn} {T:List Nat} {S:aP}
theorem DX(b:Bool):qV [.bl b]= .ok (.int (if b then 1 else 0)):=by cases b <;> rfl
theorem ER{nt bs:D}{q i:Nat}{g:Gt}{ws:List M}{a5 a6 a9 EK:Option V3}(hg:Gi ws.length g)(hq:S[q]? =some (.lst (bL ws p)))(hl:ws.length < 100000) :
 W3 (mO (tE nt bs (az T) q a5 a6 (some (.d (nI i))) (some (.d (gy g))) a9 EK) S) fun o S2=>∃b5 b9 MJ d,o= .nx (tE nt bs (az T) q b5 a6 (some (.d (nI i))) (some (.d (gy g))) b9 MJ)/\S2=(S++[SO.dct d]).set q (.lst (bL (ws++[fun p=>gF g ws p !=T.contains i]) p)):=by
 have hz:sizeLine=16777216:=sizeLine_eq;obtain⟨hk,hgl,hgw⟩:=hg;have har:=Hl g.1;have hbl:(g.2.1.map fun n=>wK ws n p).length=ar g.1:=by rw[List.length_map];exact hgl
 obtain⟨mn,mx,sm,VW,df,q1,q2,q3,q4,q5,q6⟩:=Gz hk hbl;unfold mO tE;refine aW <| bB (by simp) <| N1 (ns:=g.2.1) hgw (by omega) (ik (ds:=g.2.1.map nI) (sO (aq (a:=gy g) (b:= .int 1) rfl rfl rfl)) ⟨rfl,rfl⟩) rfl hq ⟨_,rfl,?_⟩
 simp only[List.set];generalize hB:(g.2.1.map fun n=>wK ws n p).map bI=B at q1 q2 q3 q4 q5
 refine aW <| bB (by simp) <| Lw (ns:=[mn,mx,sm,VW]) ?_ rfl (by decide) ⟨_,rfl,?_⟩
 .refine ax (aA (ds:=[.lst B]) rfl q1) (ax (aA (ds:=[.lst B]) rfl q2) (ax ?_ (ax ?_ rfl)))
  .cases q:pW [.lst B] with
   | ok d=>rw [q] at q3;exact aq (a:=d) (b:= .int 2) (aA (ds:=[.lst B]) rfl q) rfl q3
   | no=>rw [q] at q3;cases q3
   | ex _=>rw [q] at q3;cases q3
  .cases q:cn (.lst B) (.int 0) with
   | ok d=>rw [q] at q4;exact aq (a:= .int 1) (b:=d) rfl (aq (a:= .lst B) (b:= .int 0) rfl rfl q) q4
   | no=>rw [q] at q4;cases q4
   | ex _=>rw [q] at q4;cases q4
 simp only[List.set];refine aW <| bB (by simp) <| MQ (k:=S.length) (x:=kS g.1) (d:= .int df) rfl (bg _ _) (aq (a:=gy g) (b:= .int 0) rfl rfl rfl) ?_ ⟨_,rfl,?_⟩
 .cases q:pW [.lst B] with
  | ok d=>
    rw[q] at q5;cases q':JT d (.int 1) with
    | ok d'=>
      rw[R.aM,q',R.aM] at q5;exact aA (ds:=[d']) (ax (aq (a:=d) (b:= .int 1) (aA (ds:=[.lst B]) rfl q) rfl q') rfl) q5
    | no=>rw [R.aM,q'] at q5;cases q5
    | ex _=>rw [R.aM,q'] at q5;cases q5
  | no=>rw [q] at q5;cases q5
  | ex _=>rw [q] at q5;cases q5
 simp only[List.set];rw[q6];have ht:=MC (gv g.1 (g.2.1.map fun n=>wK ws n p)) (T.contains i)
 cases qa:eT (bI (gv g.1 (g.2.1.map fun n=>wK ws n p))) (.int (if T.contains i then 1 else 0)) with
 | ok d=>
   rw[qa,R.aM] at ht;refine nM (k:=q) rfl ⟨_,AJ hq⟩ <| bV (d:=bI (gv g.1 (g.2.1.map fun n=>wK ws n p) !=T.contains i)) (aq (a:=d) (b:= .int 2) (aq (a:=bI (gv g.1 (g.2.1.map fun n=>wK ws n p))) (b:= .int (if T.contains i then 1 else 0)) rfl (aA (ds:=[.bl (T.contains i)]) (ax (aq (a:=nI i) (b:=az T) rfl rfl (BO i T)) rfl) (DX _)) qa) rfl ht) ⟨_,_,rfl,AJ hq,by rw[B8];omega,_,_,_,u6 ["and","or","xor","not"] [mn,mx,sm,VW],rfl,?_⟩
   unfold bL;rw[List.map_append];rfl
 | no=>rw [qa] at ht;cases ht
 | ex _=>rw [qa] at ht;cases ht
theorem J5(NO:iq l gs os)(hc:l.length=c)(PQ:c<=6)(hS:jb S){Q:V3->aP->Prop}(h:Q (.d (.lst (bL (Wd c l gs (nZ T) []) p))) S) :
 W3 (ll [.d (aY l gs os), .d (.tup ((fY c).map fun f=>bI (f p))), .d (az T), .d (.tup [])] S) Q:=by
 have hz:sizeLine=16777216:=sizeLine_eq;have hml:(fY c).length=l.length:=by unfold fY;rw [List.length_map,List.length_range,hc]
 unfold ll;refine fZ hS (wI rfl ?_);simp only[cA,iE,List.map,List.length,List.replicate,List.cons_append,List.nil_append,Nat.reduceAdd,Nat.reduceSub];unfold qH;refine aW <| bB (by simp) <| mh (ds:=[]) rfl ⟨_,rfl,?_⟩
 simp only[List.set];refine aW <| d8 <| ik (ds:=lL ((fY c).map fun f=>bI (f p)) (l.map MT.inD)) rfl ?_
 refine(bF (fun i δ S2=>∃(X:aP) (q:Nat) (a5 a6:Option V3),S2=S++X/\S.length<=q/\S2[q]? =some (.lst (bL (g_ l (fY c) [] i) p))/\δ=tE (aY l gs os) (.tup ((fY c).map fun f=>bI (f p))) (az T) q a5 a6 none none none none)
  ⟨[.lst []],S.length,none,none,rfl,Nat.le_refl _,bg _ _,rfl⟩ ?_).mono fun o S2 ⟨cZ,fH,X,q,a5,a6,tQ,hq,hSq,hδ⟩=>⟨cZ,fH,?_⟩
 .rintro i v δ S2 hv ⟨X,q,a5,a6,rfl,hq,hSq,rfl⟩;have hil:i < (fY c).length:=by
   have:=(List.getElem?_eq_some_iff.mp hv).1;rw[Dx hml] at this;exact this
  obtain⟨f,x,hf,hx,rfl⟩:=Oo hv;have hxw:=NO.hw x (List.mem_of_getElem? hx);have hln:(g_ l (fY c) [] i).length=ub (l.take i):=md hml i (by omega)
  have Dg:ub (l.take i)<=100*(l.take i).length:=vp fun y hy=>NO.hw y (List.mem_of_mem_take hy)
  have htl:(l.take i).length<=6:=by rw[List.length_take];omega
  refine⟨tE (aY l gs os) (.tup ((fY c).map fun f=>bI (f p))) (az T) q (some (.d (bI (f p)))) (some (.d (MT.inD x))) none none none none,rfl,?_⟩
  unfold qW tE;have hrep:=GQ (f:=d_ (ak (ae 5) aJ)) (g:=e2 cn (ae 6) (eC (.int 1))) (δ:=down [some (.d (aY l gs os)),some (.d (.tup ((fY c).map fun f=>bI (f p)))),some (.d (az T)),some (.d (.tup [])),some (.loc q),some (.d (bI (f p))),some (.d (MT.inD x)),none,none,none,none]) (ds:=[bI (f p)]) (n:=x.2) (y7 rfl (by simp;omega)) rfl (by omega) (by simp;omega)
  rw[Eb] at hrep;refine bB (by simp) <| Qx <| w_var (v:= .loc q) rfl <| bV (d:= .lst (List.replicate x.2 (bI (f p)))) (cJ hrep) ⟨bL (g_ l (fY c) [] i) p,List.replicate x.2 (bI (f p)),GA hSq,rfl,by rw[B8,List.length_replicate];omega,?_⟩
  simp only[List.set];refine⟨_,rfl,X++[SO.lst (bL (g_ l (fY c) [] i) p++List.replicate x.2 (bI (f p)))],(S++X).length,some (.d (bI (f p))),some (.d (MT.inD x)),List.append_assoc _ _ _,by rw[List.length_append];omega,?_,rfl⟩
  rw[bg];rw[E_ hx hf];unfold bL;rw[EB (fun g=>bI (g p))]
 rw[Dx hml,hml] at hSq;subst hδ tQ;generalize hw0:g_ l (fY c) [] l.length=w0 at hSq;have hw0l:w0.length=ub l:=by rw[<-hw0,md hml _ (Nat.le_refl _),List.take_length]
 have Dg:ub l<=100*l.length:=vp NO.hw;have hgl:=NO.hg;unfold tE;refine aW <| bB (by simp) <| HG (ds:=bL w0 p) ?_ ?_ ⟨_,rfl,?_⟩
 .refine ck (ds:=cm (bL w0 p)) ?_ ?_ ?_
  .show fN (ae 4) _=_;unfold fN;rw[xo (v:= .loc q) (d:= .lst (bL w0 p)) rfl (jc hSq)];rfl
  .unfold cm;rw [List.length_map,List.length_zipIdx,B8];omega
  .have:=xA (t:=iu 2 (cc (aI 0) (cc (aI 1) iy))) (c:=j4) (f:=e2 jv (e2 eT (ae 1) (aS qV (ak (e2 Bk (ae 0) (ae 2)) aJ))) (eC (.int 2))) (δ:=[.un, .un, .val (.tup [])]) (fun d=>match d with | .tup [_,b]=>b | _=> .cu) (ds:=cm (bL w0 p)) fun d hd=>by
    obtain⟨j,hj⟩:=List.mem_iff_getElem?.mp hd;have hv:((cm (bL w0 p)).map V3.d)[j]? =some (.d d):=by rw[List.getElem?_map,hj];rfl
    obtain⟨d0,L4,ed⟩:=ng hv;cases ed;obtain⟨g,_,rfl⟩:=NT.jU (show(w0.map fun f=>bI (f p))[j]? =some d0 from L4)
    refine⟨[.val (nI j), .val (bI (g p)), .val (.tup [])],rfl,rfl,?_⟩;have ht:=MC (g p) false;cases qa:eT (bI (g p)) (.int (if false then 1 else 0)) with
    | ok d=>
      rw[qa,R.aM] at ht;have e2:(g p !=false)=g p:=by cases g p <;> rfl
      rw[e2] at ht;exact aq (a:=d) (b:= .int 2) (aq (a:=bI (g p)) (b:= .int (if false then 1 else 0)) rfl (aA (ds:=[.bl false]) (ax (aq (a:=nI j) (b:= .tup []) rfl rfl (BO j [])) rfl) (DX _)) qa) rfl ht
    | no=>rw [qa] at ht;cases ht
    | ex _=>rw [qa] at ht;cases ht
   refine(show mf _ _ _ _ _=_ from this).trans ?_
   congr 1;unfold cm;rw[List.map_map];refine List.ext_getElem? fun j=>?_
   rw[List.getElem?_map,List.getElem?_zipIdx];cases(bL w0 p)[j]? <;> rfl
 .have:bL w0 p=(w0.map fun f=>f p).map bI:=by unfold bL;rw [List.map_map];rfl
  rw[this];exact Dn _
 simp only[List.set];refine aW <| d8 <| ik (ds:=cm (gs.map gy)) rfl ?_
 refine(bF (fun i δ S2=>∃(X:aP) (q:Nat) (a5 a6 a7 a8 a9 EK:Option V3),S2=S++X/\S.length<=q/\S2[q]? =some (.lst (bL (vg gs (nZ T) w0 i) p))/\δ=tE (aY l gs os) (.tup ((fY c).map fun f=>bI (f p))) (az T) q a5 a6 a7 a8 a9 EK)
  ⟨X++[SO.lst (bL w0 p)],(S++X).length,a5,a6,none,none,none,none,List.append_assoc _ _ _,by rw[List.length_append];omega,bg _ _,rfl⟩ ?_).mono fun o S2 ⟨cZ,fH,X,q,b5,b6,b7,b8,b9,MJ,tQ,hq,hSq,hδ⟩=>⟨cZ,fH,?_⟩
 .rintro i v δ S2 hv ⟨X,q,b5,b6,b7,b8,b9,MJ,rfl,hq,hSq,rfl⟩;obtain⟨d,hd,rfl⟩:=ng hv;obtain⟨g,hg,rfl⟩:=NT.jU hd;have hil:=(List.getElem?_eq_some_iff.mp hg).1;have hlen:(vg gs (nZ T) w0 i).length=w0.length+i:=rF i (by omega)
  refine⟨tE (aY l gs os) (.tup ((fY c).map fun f=>bI (f p))) (az T) q b5 b6 (some (.d (nI i))) (some (.d (gy g))) b9 MJ,rfl,?_⟩
  refine(ER (by rw[hlen,hw0l];exact NO.g i g hg) hSq (by omega)).mono fun o S4 ⟨c5,c9,Y_,dd,eo,MH⟩=>⟨_,eo,(X++[SO.dct dd]).set (q - S.length) (.lst (bL (vg gs (nZ T) w0 (i+1)) p)),q,_,_,_,_,_,_,?_,hq,?_,rfl⟩
  .rw [MH,List.append_assoc,OP hq,z8 hg]
  .rw [MH,List.getElem?_set_self (by have:=(List.getElem?_eq_some_iff.mp hSq).1;rw [List.length_append];omega),z8 hg]
 have hen:((cm (gs.map gy)).map V3.d).length=gs.length:=by simp [cm]
 rw[hen] at hSq;subst hδ tQ;unfold tE;refine eG <| w_var (v:= .loc q) rfl ⟨.loc q,rfl,?_,⟨_,rfl⟩,_,jc hSq,?_⟩
 .show decide (S.length<=q)=true;exact decide_eq_true hq
 .rw [<-hw0] at*;exact h
end
end K42
end
section
set_option maxHeartbeats 400000
namespace K42
open PySem PySem.Spec PyProof.Rows L2 L3 MT
theorem MY{i j:Nat}(hi:i < 1000)(hj:j < 1000):M4 (.int i) (.int j)= .ok (.int ((i*2 ^ j:Nat):Int)):=by
 show R.bN (decide ((0:Int)<=j/\(j:Int) < 1000/\ -1000 < (i:Int)/\(i:Int) < 1000)) (.ok (D.int ((i:Int)*2 ^ ((j:Int)).toNat)))=_;rw[cg _ ⟨by omega,by omega,by omega,by omega⟩,Int.toNat_natCast]
 congr 2
def sg(x:Bool × Bool):D:=if x.1 then .int 0 else if x.2 then .int 1 else .cu
theorem Lr{bs:List Bool}(h:1<=bs.length/\bs.length<=3):nq [.tup (bs.map bI)]= .ok (sg (Nw bs)):=by
 match bs,h with
 | [a],_=>cases a <;> rfl
 | [a,b],_=>cases a <;> cases b <;> rfl
 | [a,b,c],_=>cases a <;> cases b <;> cases c <;> rfl
 | [],h=>simp at h
 | _ ::_ ::_ ::_ ::_,h=>simp at h
section
variable {c p:Nat} {l:Zm} {gs:List Gt} {os:Zn} {T:List Nat} {S:aP}
def outD(W:List M)(p:Nat)(x:Str × List Nat):D:= .tup ((x.2.map fun n=>wK W n p).map bI)
def lM(W:List M)(os:Zn)(p:Nat):D:= .lst (os.map fun x=>sg (pt W x p))
theorem Hv(NO:iq l gs os)(hc:l.length=c)(PQ:c<=6)(hS:jb S){Q:V3->aP->Prop}(h:Q (.d (.lst (os.map (outD (Wd c l gs (nZ T) []) p)))) S) :
 W3 (k6 [.d (aY l gs os), .d (.tup ((fY c).map fun f=>bI (f p))), .d (az T), .d (.tup [])] S) Q:=by
 have hz:sizeLine=16777216:=sizeLine_eq;have hml:(fY c).length=l.length:=by unfold fY;rw [List.length_map,List.length_range,hc]
 have hWl:(Wd c l gs (nZ T) []).length=ub l+gs.length:=by
  show(vg gs (nZ T) (g_ l (fY c) [] l.length) gs.length).length=_;rw[rF _ (Nat.le_refl _),md hml _ (Nat.le_refl _),List.take_length]
 have hol:=NO.ho;unfold k6;refine fZ hS (wI rfl ?_);simp only[cA,kO,List.map,List.length,List.replicate,List.cons_append,List.nil_append,Nat.reduceAdd,Nat.reduceSub];unfold qk;refine aW <| bB (by simp) <| dy <| aD <| bV (d:=aY l gs os) rfl <| aD <| bV (d:= .tup ((fY c).map fun f=>bI (f p))) rfl <| aD <| bV (d:=az T) rfl <| aD <| bV (d:= .tup []) rfl <| cI ?_
 refine @J5 c p l gs os T S NO hc PQ hS _ ?_;generalize Wd c l gs (nZ T) []=W at hWl h ⊢;refine⟨_,rfl,?_⟩;simp only[List.set];refine eG <| bV (d:= .lst (os.map (outD W p))) (cJ (ck (ds:=os.map Fm) (dC (aq (a:=aY l gs os) (b:= .int 2) rfl rfl rfl)) (by rw[List.length_map];omega) ?_)) ⟨.d (.lst (os.map (outD W p))),rfl,by unfold fR;rfl,⟨[],by simp⟩,_,by unfold res;rfl,h⟩
 have:=NT.cG (t:=iu 2 (cc (aI 0) (cc (aI 1) iy))) (c:=j4) (f:=aS oK (ak (eNew (cO (cq (ae 1)) (aI 0) j4 (e2 cn (ae 1) (ae 0)) ["wire"] [2])) aJ)) (δ:=[.un, .un, .val (.lst (bL W p))]) (fun _:Str × List Nat=>true) Fm (outD W p) (xs:=os) fun x hx=>⟨[.val (.str x.1), .val (.tup (x.2.map nI)), .val (.lst (bL W p))],rfl,rfl,fun _=>by
  obtain⟨h1,h2⟩:=NO.o x hx;refine aA (ds:=[.lst ((x.2.map fun n=>wK W n p).map bI)]) (ax (cJ (ck (ds:=x.2.map nI) (sO rfl) (by rw[List.length_map];omega) ?_)) rfl) rfl
  have:=NT.cG (t:=aI 0) (c:=j4) (f:=e2 cn (ae 1) (ae 0)) (δ:=[.un, .val (.lst (bL W p))]) (fun _:Nat=>true) nI (fun n=>bI (wK W n p)) (xs:=x.2) fun n hn=>⟨[.val (nI n), .val (.lst (bL W p))],rfl,rfl,fun _=>aq (a:= .lst (bL W p)) (b:=nI n) rfl rfl (Mc (by rw[hWl];exact h2 n hn))⟩
  rw[List.filter_eq_self.mpr (fun _ _=>rfl)] at this
  rw[List.map_map];exact this⟩
 rw[List.filter_eq_self.mpr (fun _ _=>rfl)] at this
 exact this
theorem vx(NO:iq l gs os)(hc:l.length=c)(PQ:c<=6)(ho:∀x∈os,1<=x.2.length/\x.2.length<=3)(hS:jb S){Q:V3->aP->Prop}(h:Q (.d (.lst ((List.range (2 ^ c)).map (lM (Wd c l gs (nZ T) []) os)))) S) :
 W3 (fG [.d (aY l gs os), .d (az T)] S) Q:=by
 have hz:sizeLine=16777216:=sizeLine_eq;have hpow:2 ^ c<=64:=Nat.pow_le_pow_right (by omega) (by omega:c<=6)
 have hol:=NO.ho;unfold fG;refine fZ hS (wI rfl ?_);simp only[cA,fQ,List.map,List.length,List.replicate,List.cons_append,List.nil_append,Nat.reduceAdd,Nat.reduceSub];unfold lJ;refine aW <| bB (by simp) <| mh (ds:=[]) rfl ⟨_,rfl,?_⟩
 simp only[List.set];refine aW <| d8 <| ik (ds:=(List.range (2 ^ c)).map nI) ?_ ?_
 .rw [<-gT];refine dM (n:=2 ^ c) (aq (a:= .int (1:Nat)) (b:= .int c) rfl (aA (ds:=[.lst (l.map MT.inD)]) (ax (aq (a:=aY l gs os) (b:= .int 0) rfl rfl rfl) rfl) (by rw[sI,List.length_map,hc])) ?_) (by omega)
  rw[MY (by omega) (by omega),Nat.one_mul]
 refine(bF (fun i δ S2=>∃a3,S2=S++[SO.lst (((List.range (2 ^ c)).take i).map (lM (Wd c l gs (nZ T) []) os))]/\δ=[some (.d (aY l gs os)),some (.d (az T)),some (.loc S.length),a3])
  ⟨none,by simp,rfl⟩ ?_).mono fun o S2 ⟨cZ,fH,a3,tQ,hδ⟩=>⟨cZ,fH,?_⟩
 .rintro i v δ S2 hv ⟨a3,rfl,rfl⟩;obtain⟨p,hp,rfl⟩:=NT.dw hv;have hpc:p < 2 ^ c:=List.mem_range.mp (List.mem_of_getElem? hp);have hil:i < 2 ^ c:=by
   have:=(List.getElem?_eq_some_iff.mp hp).1;simpa using this
  refine⟨[some (.d (aY l gs os)),some (.d (az T)),some (.loc S.length),some (.d (nI p))],rfl,?_⟩;unfold nP;have hcl:jb (S++[SO.lst (((List.range (2 ^ c)).take i).map (lM (Wd c l gs (nZ T) []) os))]):=jb.push hS fun _=>rfl
  have hbits:iC [aY l gs os,nI p]= .ok (.tup ((fY c).map fun f=>bI (f p))):=by rw[Ku (by omega),hc,K3 hpc]
  refine nM (k:=S.length) rfl ⟨_,bg _ _⟩ <| j1 (fun j ds S2=>S2=S++[SO.lst (((List.range (2 ^ c)).take i).map (lM (Wd c l gs (nZ T) []) os))]/\ds=(os.take j).map fun x=>sg (pt (Wd c l gs (nZ T) []) x p)) (pG <| dy <| aD <| bV (d:=aY l gs os) rfl <| aD <| bV (d:= .tup ((fY c).map fun f=>bI (f p))) (aA (ds:=[aY l gs os,nI p]) rfl hbits) <| aD <| bV (d:=az T) rfl <| aD <| bV (d:= .tup []) (di rfl (by simp)) <| cI ?_)
  refine @Hv c p l gs os T _ NO hc PQ hcl _ ?_;generalize Wd c l gs (nZ T) []=W;refine⟨_,rfl,by rw[List.length_map,List.length_map];omega,⟨rfl,by simp⟩,?_,?_⟩
  .rintro j u ds S3 hu ⟨rfl,rfl⟩;obtain⟨x,hx,rfl⟩:=NT.dw hu;have hxo:=ho x (List.mem_of_getElem? hx);refine⟨[some (.d (outD W p x))],rfl,wj ?_⟩;rw[if_pos rfl];refine bV (d:=sg (pt W x p)) (aA (ds:=[outD W p x]) rfl ?_) ⟨_,rfl,rfl,?_⟩
   .unfold outD;rw[Lr (by rw[List.length_map];exact hxo)]
    unfold pt tell;rw[List.map_map];rfl
   .rw [List.take_add_one,hx,List.map_append];rfl
  .rintro ds S3 ⟨rfl,rfl⟩;rw[List.length_map,List.length_map,List.take_length];refine⟨lM W os p,_,rfl,bg _ _,by rw[List.length_map,List.length_take];omega,_,rfl,_,?_,rfl⟩
   rw[dA,List.take_add_one,hp,List.map_append];rfl
 subst hδ tQ;rw[List.length_map,List.length_map,List.take_of_length_le (by simp)]
 refine eG <| w_var (v:= .loc S.length) rfl ⟨.loc S.length,rfl,?_,⟨_,rfl⟩,_,jc (bg _ _),h⟩
 show decide (S.length<=S.length)=true;exact decide_eq_true (Nat.le_refl _)
end
end K42
end
section
namespace K42
open PySem PySem.Spec PyProof.Rows L2 L3 MT
def zH(x:Bool × Bool):Option Bool:=if x.1 then some false else if x.2 then some true else none
def yK(safe:Bool)(x y:Bool × Bool):Bool:=(zH y !=zH x) && (!safe || (zH y).isSome)
theorem P_(x y:Bool × Bool):EC (sg y) (sg x)= .ok (.bl (zH y !=zH x)):=by
 obtain⟨a,b⟩:=x;obtain⟨c,d⟩:=y;cases a <;> cases b <;> cases c <;> cases d <;> rfl
theorem MZ(y:Bool × Bool):Ab (sg y) .cu= .ok (.bl (zH y).isSome):=by
 obtain⟨c,d⟩:=y;cases c <;> cases d <;> rfl
theorem Hy{safe:Bool}{x y:Bool × Bool}(hx:x.2=!x.1)(hy:(y.1 && y.2)=false):yK safe x y=brk safe x y:=by
 obtain⟨a,b⟩:=x;obtain⟨c,d⟩:=y;have hx:b=!a:=hx;have hy:(c && d)=false:=hy;subst hx;cases a <;> cases c <;> cases d <;> cases safe <;> first | rfl | (cases hy)
theorem Cr(xs:List Bool):((Nw xs).1 && (Nw xs).2)=false:=by
 unfold Nw;split
 .rename_i a;cases a <;> rfl
 .rename_i a b;cases a <;> cases b <;> rfl
 .rename_i a b c;cases a <;> cases b <;> cases c <;> rfl
 .rfl
theorem H_(safe:Bool):lA (.str (gG safe)) (.str "right")= .ok (.bl (!safe)):=by cases safe <;> rfl
theorem A3{α:Type}(f g:α->D):∀xs:List α,lL (xs.map f) (xs.map g)=xs.map fun x=> .tup [f x,g x]
 | []=>rfl
 | x ::xs=>by
   unfold lL;rw[List.map_cons,List.map_cons,List.zip_cons_cons,List.map_cons,List.map_cons];congr 1;exact A3 f g xs
theorem A7{α:Type}(q:α->Bool)(d:D):∀xs:List α,(xs.findSome? fun x=>if q x then some d else none)=if xs.any q then some d else none
 | []=>rfl
 | x ::xs=>by
   rw[List.findSome?_cons,List.any_cons];cases q x with
   | true=>rfl
   | false=>exact A7 q d xs
section
variable {os:Zn} {W0 W1:List M} {safe:Bool} {N:Nat}
def lE(A B lv:D)(a3 a4 a5:Sl):av:=[.val A, .val B, .val lv,a3,a4,a5]
theorem BI(hN:N<=64)(ho:os.length < 1000):∃d,gW [.lst ((List.range N).map (lM W0 os)), .lst ((List.range N).map (lM W1 os)), .str (gG safe)]= .ok d/\Ab d .cu= .ok (.bl ((List.range N).any fun p=>os.any fun x=>yK safe (pt W0 x p) (pt W1 x p))):=by
 have hz:sizeLine=16777216:=sizeLine_eq;unfold gW qY;generalize hA:D.lst ((List.range N).map (lM W0 os))=A;generalize hB:D.lst ((List.range N).map (lM W1 os))=B;have ixA:∀p,p < N->cn A (nI p)= .ok (lM W0 os p):=fun p hp=>by rw[<-hA];exact NT.pB (by rw[List.getElem?_map,List.getElem?_range hp];rfl)
 have ixB:∀p,p < N->cn B (nI p)= .ok (lM W1 os p):=fun p hp=>by rw[<-hB];exact NT.pB (by rw[List.getElem?_map,List.getElem?_range hp];rfl)
 have lenA:j2 [A]= .ok (nI N):=by rw[<-hA,sI,List.length_map,List.length_range];rfl
 obtain⟨o,e,h⟩:=qG (t:=aI 3) (body:=kG) nI (fun p=>if os.any (fun x=>yK safe (pt W0 x p) (pt W1 x p)) then some (nI p) else none) (fun δ=>∃a3 a4 a5,δ=lE A B (.str (gG safe)) a3 a4 a5) (xs:=List.range N) (δ:=lE A B (.str (gG safe)) .un .un .un) ⟨_,_,_,rfl⟩ (by
  rintro p hp δ ⟨a3,a4,a5,rfl⟩;rw[List.mem_range] at hp;rw[show aI 3 (nI p) (lE A B (.str (gG safe)) a3 a4 a5)= .ok (lE A B (.str (gG safe)) (.val (nI p)) a4 a5) from rfl,R.aM]
  unfold kG;obtain⟨o,e,h⟩:=qG (t:=iu 2 (cc (aI 4) (cc (aI 5) iy))) (body:=kI) (fun x=> .tup [sg (pt W0 x p),sg (pt W1 x p)]) (fun x=>if yK safe (pt W0 x p) (pt W1 x p) then some (nI p) else none) (fun δ=>∃a4 a5,δ=lE A B (.str (gG safe)) (.val (nI p)) a4 a5) (xs:=os) (δ:=lE A B (.str (gG safe)) (.val (nI p)) a4 a5) ⟨_,_,rfl⟩ (by
   rintro x hx δ ⟨a4,a5,rfl⟩;generalize pt W0 x p=X;generalize pt W1 x p=Y;rw[show iu 2 (cc (aI 4) (cc (aI 5) iy)) (.tup [sg X,sg Y]) (lE A B (.str (gG safe)) (.val (nI p)) a4 a5)= .ok (lE A B (.str (gG safe)) (.val (nI p)) (.val (sg X)) (.val (sg Y))) from rfl,R.aM]
   unfold kI;have hc:Gb (b2 EC (ae 5) (ae 4)) (Mr (b2 lA (ae 2) (eC (.str "right"))) (b2 Ab (ae 5) (eC .cu))) (lE A B (.str (gG safe)) (.val (nI p)) (.val (sg X)) (.val (sg Y)))= .ok (yK safe X Y):=by
    unfold Gb Mr yK;rw[dN (a:=sg Y) (b:=sg X) rfl rfl (P_ X Y),R.aM];cases zH Y !=zH X with
    | false=>rfl
    | true=>
      rw[if_pos rfl,dN (a:= .str (gG safe)) (b:= .str "right") rfl rfl (H_ safe),R.aM];cases safe with
      | false=>rfl
      | true=>
        rw[if_neg (by decide),dN (a:=sg Y) (b:= .cu) rfl rfl (MZ Y)]
        rfl
   cases q:yK safe X Y with
   | true=>rw [q] at hc;exact⟨_,rK hc (cv rfl),rfl⟩
   | false=>rw [q] at hc;exact⟨_,jQ hc rfl,_,rfl,_,_,rfl⟩)
  rw[A7] at h;refine⟨o,i_ (ds:=os.map fun x=> .tup [sg (pt W0 x p),sg (pt W1 x p)]) ?_ e,?_⟩
  .unfold Ef;rw[aq (a:=A) (b:=nI p) rfl rfl (ixA p hp),R.aM,aq (a:=B) (b:=nI p) rfl rfl (ixB p hp),R.aM];show R.ok (lL _ _)=_;rw[A3]
  .cases q:os.any (fun x=>yK safe (pt W0 x p) (pt W1 x p)) with
   | true=>rw [q] at h;exact h
   | false=>rw [q] at h;obtain⟨cZ,fH,b4,b5,e3⟩:=h;exact⟨cZ,fH,_,b4,b5,e3⟩)
 have hit:dE (aS j2 (ak (ae 0) aJ)) (lE A B (.str (gG safe)) .un .un .un)= .ok ((List.range N).map nI):=by
  rw[<-gT];exact dM (n:=N) (aA (ds:=[A]) rfl lenA) (by omega)
 cases q:(List.range N).findSome? (fun p=>if os.any (fun x=>yK safe (pt W0 x p) (pt W1 x p)) then some (nI p) else none) with
 | none=>
   rw[q] at h;obtain⟨cZ,rfl,b3,b4,b5,rfl⟩:=h;refine⟨.cu,cL (bu (i_ hit e) (cv rfl)),?_⟩;have:((List.range N).any fun p=>os.any fun x=>yK safe (pt W0 x p) (pt W1 x p))=false:=by
    rw[List.any_eq_false];intro p hp hq;have:=List.findSome?_eq_none_iff.mp q p hp;rw[if_pos hq] at this;cases this
   rw[this];rfl
 | some d=>
   rw[q] at h;subst h;obtain⟨p,hp,hd⟩:=List.exists_of_findSome?_eq_some q;have hq:os.any (fun x=>yK safe (pt W0 x p) (pt W1 x p))=true:=by
    cases z:os.any (fun x=>yK safe (pt W0 x p) (pt W1 x p)) with
    | true=>rfl
    | false=>rw [z] at hd;cases hd
   rw[hq,if_pos rfl] at hd;cases hd;refine⟨nI p,cL (NT.mQ (i_ hit e)),?_⟩;have:((List.range N).any fun p=>os.any fun x=>yK safe (pt W0 x p) (pt W1 x p))=true:=List.any_eq_true.mpr ⟨p,hp,hq⟩
   rw[this];rfl
end
end K42
end
section
namespace K42
open PySem PySem.Spec PyProof.Rows L2 L3 MT
theorem Mw{ds es:List D}(h:ds.length+es.length<=sizeLine):iz (.lst ds) (.lst es)= .ok (.lst (ds++es)):=cg _ h
theorem B6{free s:List Nat}(hf:free.length<=12)(hs:s.length<=12):mf (aI 0) (Mr (b2 lA (ae 1) (d5 aJ)) (b2 JT (ae 0) (e2 cn (ae 1) (Ff (eC (.int 1)))))) (e2 iz (ae 1) (d5 (ak (ae 0) aJ))) [.un, .val (az s)] (free.map nI)= .ok (((free.filter (okN s)).map fun o=>s++[o]).map az):=by
 have hz:sizeLine=16777216:=sizeLine_eq;rw[List.map_map];refine NT.cG (okN s) nI _ fun o ho=>⟨[.val (nI o), .val (az s)],rfl,?_,fun _=>?_⟩
 .have e1:b2 lA (ae 1) (d5 aJ) [.val (nI o), .val (az s)]= .ok s.isEmpty:=dN (a:=az s) (b:= .tup []) rfl (di rfl (by simp)) (eq_nil s)
  unfold Mr;rw[e1,R.aM];cases hl:s.getLast? with
  | none=>
    have:s=[]:=List.getLast?_eq_none_iff.mp hl;subst this;rfl
  | some l=>
    have uN:s.isEmpty=false:=by
     cases s with
     | nil=>cases hl
     | cons _ _=>rfl
    rw[uN,if_neg (by decide)]
    have:okN s o=decide (o > l):=by unfold okN;rw [hl]
    rw[this];refine dN (a:=nI o) (b:=nI l) rfl (aq (a:=az s) (b:= .int (-1)) rfl rfl (K6 hl (by omega))) ?_
    show R.ok (D.bl (decide ((o:Int) > (l:Int))))=_;congr 2;by_cases q:o > l
    .rw [decide_eq_true q,decide_eq_true (by omega)]
    .rw [decide_eq_false q,decide_eq_false (by omega)]
 .refine aq (a:=az s) (b:= .tup [nI o]) rfl (di rfl (by simp;omega)) ?_
  show iz (.tup (s.map nI)) (.tup [nI o])= .ok (.tup ((s++[o]).map nI));rw[List.map_append];exact zd (by rw[List.length_map];simp;omega)
def jE(fr mm:D)(a2 a3 a4 a5 a6:Sl):av:=[.val fr, .val mm,a2,a3,a4,a5,a6]
theorem Dv{free:List Nat}{m:Nat}(PM:free.Pairwise (· < ·))(J1:free.length<=12)(hm:m<=12):gu [.lst (free.map nI),nI m]= .ok (.lst ((gU free m).map az)):=by
 have hz:sizeLine=16777216:=sizeLine_eq;have hC:∀s,(eW free s).length<=4096:=fun s=>Nat.le_trans (lu s free) (Nat.le_trans (Nat.pow_le_pow_right (by omega) J1) (by decide))
 unfold gu vX;obtain⟨cP,e1,a4,a5,a6,hδ⟩:=iL (t:=aI 4) (body:=m5) (ds:=(List.range m).map nI)
  (fun i δ=>∃a4 a5 a6,δ=jE (.lst (free.map nI)) (nI m) (.val (.lst ((gU free i).map az))) (.val (.lst ((eW free i).map az))) a4 a5 a6) (δ:=jE (.lst (free.map nI)) (nI m) (.val (.lst [.tup []])) (.val (.lst [.tup []])) .un .un .un) ⟨.un, .un, .un,rfl⟩ (by
    rintro i d δ hd ⟨a4,a5,a6,rfl⟩;obtain⟨k,hk,rfl⟩:=NT.jU hd;have him:i < m:=by
     have:=(List.getElem?_eq_some_iff.mp hk).1;simpa using this
    rw[show aI 4 (nI k) (jE (.lst (free.map nI)) (nI m) (.val (.lst ((gU free i).map az))) (.val (.lst ((eW free i).map az))) a4 a5 a6)= .ok (jE (.lst (free.map nI)) (nI m) (.val (.lst ((gU free i).map az))) (.val (.lst ((eW free i).map az))) (.val (nI k)) a5 a6) from rfl,R.aM]
    unfold m5;have hAi:=oj J1 i;have hCi:=hC i;have hCn:=hC (i+1);have hmore:=zQ i free PM;have hsu:=sj free i;have hsl:∀s∈eW free i,s.length=i:=fun s hs=>(gK hs).1
    generalize eW free (i+1)=C1 at hCn hmore hsu;generalize gU free i=Ai at hAi hsu;generalize eW free i=Ci at hCi hmore hsl
    let F:Nat->Zo:=fun j=>(Ci.take j).flatMap fun s=>(free.filter (okN s)).map fun o=>s++[o]
    have hFl:∀j,(F j).length<=4096:=fun j=>by
     have h1:C1=F j++(Ci.drop j).flatMap fun s=>(free.filter (okN s)).map fun o=>s++[o]:=by
      rw[hmore,<-List.flatMap_append,List.take_append_drop]
     have h2:=congrArg List.length h1;rw[List.length_append] at h2;omega
    obtain⟨cZ,fH,c6,Gm⟩:=iL (t:=aI 6) (body:=nv) (ds:=Ci.map az)
     (fun j δ=>∃c6,δ=jE (.lst (free.map nI)) (nI m) (.val (.lst (Ai.map az))) (.val (.lst (Ci.map az))) (.val (nI k)) (.val (.lst ((F j).map az))) c6) (δ:=jE (.lst (free.map nI)) (nI m) (.val (.lst (Ai.map az))) (.val (.lst (Ci.map az))) (.val (nI k)) (.val (.lst [])) a6) ⟨a6,rfl⟩ (by
       rintro j d δ hd ⟨c6,rfl⟩;obtain⟨s,hs,rfl⟩:=NT.jU hd;have hsi:=hsl s (List.mem_of_getElem? hs);have hFs:F (j+1)=F j++(free.filter (okN s)).map fun o=>s++[o]:=by
        show(Ci.take (j+1)).flatMap _=_;rw[List.take_add_one,hs,List.flatMap_append];simp [F]
       have hb:=hFl (j+1);rw[hFs,List.length_append] at hb;rw[show aI 6 (az s) (jE (.lst (free.map nI)) (nI m) (.val (.lst (Ai.map az))) (.val (.lst (Ci.map az))) (.val (nI k)) (.val (.lst ((F j).map az))) c6)= .ok (jE (.lst (free.map nI)) (nI m) (.val (.lst (Ai.map az))) (.val (.lst (Ci.map az))) (.val (nI k)) (.val (.lst ((F j).map az))) (.val (az s))) from rfl,R.aM]
       unfold nv;refine⟨_,eL (d:= .lst ((F (j+1)).map az)) (aq (a:= .lst ((F j).map az)) (b:= .lst (((free.filter (okN s)).map fun o=>s++[o]).map az)) rfl (cJ (ck (ds:=free.map nI) (dC rfl) (by rw[List.length_map];omega) (B6 J1 (by omega)))) ?_) (by simp [jE]),_,rfl⟩
       rw[hFs,List.map_append];exact Mw (by rw[List.length_map,List.length_map];omega))
    rw[List.length_map] at Gm;have hFe:F Ci.length=C1:=by
     show(Ci.take Ci.length).flatMap _=_;rw[List.take_length,hmore]
    rw[hFe] at Gm;subst Gm;refine⟨_,bu (eL (d:= .lst []) rfl (by simp [jE])) (bu (i_ (ds:=Ci.map az) (dC rfl) fH) (bu (eL (d:= .lst ((Ai++C1).map az)) (aq (a:= .lst (Ai.map az)) (b:= .lst (C1.map az)) rfl rfl ?_) (by simp [jE])) (eL (d:= .lst (C1.map az)) rfl (by simp [jE])))),?_⟩
    .rw [List.map_append];refine Mw ?_;rw[List.length_map,List.length_map];have:(i+1)*4096<=13*4096:=Nat.mul_le_mul_right _ (by omega)
     omega
    .rw [hsu];exact⟨_,_,_,rfl⟩)
 rw[List.length_map,List.length_range] at hδ;subst hδ;refine cL (bu (eL (d:= .lst [.tup []]) rfl (by simp [dD,kF])) (bu (eL (d:= .lst [.tup []]) rfl (by simp [dD,kF])) (bu (i_ (ds:=(List.range m).map nI) ?_ e1) (cv rfl))))
 rw[<-gT];exact dM (n:=m) rfl (by omega)
section
variable {c m:Nat} {l:Zm} {gs:List Gt} {os:Zn} {safe:Bool} {S:aP}
def Pn(c:Nat)(l:Zm)(gs:List Gt)(os:Zn):Prop:=∀x∈os,∀p,p < 2 ^ c->(pt (Wd c l gs [] []) x p).2=!(pt (Wd c l gs [] []) x p).1
theorem IQ(h:Pn c l gs os)(T:List Nat):((List.range (2 ^ c)).any fun p=>os.any fun x=>yK safe (pt (Wd c l gs [] []) x p) (pt (Wd c l gs (nZ T) []) x p))=BT safe c l gs os T:=by
 have e:∀p∈List.range (2 ^ c),(os.any fun x=>yK safe (pt (Wd c l gs [] []) x p) (pt (Wd c l gs (nZ T) []) x p))=Er safe c l gs os (nZ T) p:=fun p hp=>by
  rw[List.mem_range] at hp;unfold Er;rw[Bool.eq_iff_iff,List.any_eq_true,List.any_eq_true];constructor
  .rintro⟨x,hx,h1⟩;rw[Hy (h x hx p hp) (by unfold pt;exact Cr _)] at h1
   exact⟨x,hx,h1⟩
  .rintro⟨x,hx,h1⟩;rw[<-Hy (h x hx p hp) (by unfold pt;exact Cr _)] at h1
   exact⟨x,hx,h1⟩
 unfold BT;cases q:decide (jB (2 ^ c) (Er safe c l gs os (nZ T))=0) with
 | true=>
   have h0:=rX.mp (of_decide_eq_true q);rw[Bool.not_true,List.any_eq_false];intro p hp;rw[e p hp,h0 p (List.mem_range.mp hp)]
   decide
 | false=>
   have h0:=of_decide_eq_false q;rw[Bool.not_false];cases z:(List.range (2 ^ c)).any fun p=>os.any fun x=>yK safe (pt (Wd c l gs [] []) x p) (pt (Wd c l gs (nZ T) []) x p) with
   | true=>rfl
   | false=>
     exfalso
     refine h0 (rX.mpr fun p hp=>?_)
     rw[List.any_eq_false] at z;have:=z p (List.mem_range.mpr hp);rw[e p (List.mem_range.mpr hp)] at this;simpa using this
theorem LS(h:Pn c l gs os):BT safe c l gs os []=false:=by
 rw[<-IQ h,List.any_eq_false];intro p hp;rw[List.mem_range] at hp;have:(os.any fun x=>yK safe (pt (Wd c l gs [] []) x p) (pt (Wd c l gs (nZ []) []) x p))=false:=by
  rw[List.any_eq_false];intro x _;show ¬(yK safe (pt (Wd c l gs [] []) x p) (pt (Wd c l gs [] []) x p))=true;unfold yK;simp
 rw[this]
 decide
end
end K42
end
section
namespace K42
open PySem PySem.Spec PyProof.Rows L2 L3 MT
theorem GG{o T:List Nat}{δ:av}(hl:o.length < 1000)(h0:ae 0 δ= .ok (az o))(hk:uj ["place"] [1] δ=[.un, .val (az T)]):b2 lA (eNew (cO (cq (ae 0)) (aI 0) (b2 sP (ae 0) (ae 1)) (ae 0) ["place"] [1])) (eNew (d_ aJ)) δ= .ok (subB T o):=by
 have hz:sizeLine=16777216:=sizeLine_eq;refine dN (a:= .lst ((o.filter fun x=>!T.contains x).map nI)) (b:= .lst []) (cJ (ck (ds:=o.map nI) (sO h0) (by rw[List.length_map];omega) ?_)) rfl ((sE (Ml _)).trans ?_)
 .rw [hk];exact NT.cG (fun x=>!T.contains x) nI nI fun x _=>⟨[.val (nI x), .val (az T)],rfl,dN (a:=nI x) (b:=az T) rfl rfl (Ax (BO x T)),fun _=>rfl⟩
 .congr 2;unfold subB;rw[Bool.eq_iff_iff,List.isEmpty_iff,List.filter_eq_nil_iff,List.all_eq_true];exact⟨fun h x hx=>by have:=h x hx;simpa using this,fun h x hx=>by rw[h x hx];decide⟩
section
variable {c m:Nat} {l:Zm} {gs:List Gt} {os:Zn} {safe:Bool} {S:aP}
def CB(c:Nat)(l:Zm)(gs:List Gt)(os:Zn)(T:List Nat):D:= .lst ((List.range (2 ^ c)).map (lM (Wd c l gs (nZ T) []) os))
def kE(nt pl mm lv us:D)(a:Nat)(a6 a7:Option V3):DE:=[some (.d nt),some (.d pl),some (.d mm),some (.d lv),some (.d us),some (.loc a),a6,a7]
theorem Gw(NO:iq l gs os)(hc:l.length=c)(PQ:c<=6)(ho:∀x∈os,1<=x.2.length/\x.2.length<=3)(Xs:Pn c l gs os)(hg:gs.length<=11)(hm:m<=3)(hS:jb S){Q:V3->aP->Prop}
 (h:Q (.d (.lst ((er safe c l gs os m).map az))) S):W3 (jS [.d (aY l gs os), .d (CB c l gs os []), .d (nI m), .d (.str (gG safe))] S) Q:=by
 have hz:sizeLine=16777216:=sizeLine_eq;have hO:=NO.ho;have hpow:2 ^ c<=64:=Nat.pow_le_pow_right (by omega) (by omega:c<=6)
 have J1:(il gs).length<=12:=Nat.le_trans uC (by omega)
 unfold jS;refine fZ hS (wI rfl ?_);simp only[cA,gz,List.map,List.length,List.replicate,List.cons_append,List.nil_append,Nat.reduceAdd,Nat.reduceSub];unfold oX;refine aW <| bB (by simp) <| j1 (fun j ds S2=>S2=S/\ds=((((List.range gs.length).take j).filter fun i=>match gs[i]? with | some g=>!g.2.2 | none=>false)).map nI) (ik (ds:=(List.range gs.length).map nI) ?_ ⟨by rw[List.length_map,List.length_map,List.length_range];omega,⟨rfl,by simp⟩,?_,?_⟩)
 .rw [<-gT];exact dM (n:=gs.length) (aA (ds:=[.lst (gs.map gy)]) (ax (aq (a:=aY l gs os) (b:= .int 1) rfl rfl rfl) rfl) (by rw[sI,List.length_map])) (by omega)
 .rintro j v ds S2 hv ⟨rfl,rfl⟩;obtain⟨k,hk,rfl⟩:=NT.dw hv;have hkg:k < gs.length:=List.mem_range.mp (List.mem_of_getElem? hk);have hgk:gs[k]? =some gs[k]:=List.getElem?_eq_getElem hkg;refine⟨[some (.d (nI k)),some (.d (aY l gs os))],rfl,qX (b:=!gs[k].2.2) ?_ ?_⟩
  .unfold Cm ym;rw[aq (a:=gy gs[k]) (b:= .int 2) (aq (a:= .lst (gs.map gy)) (b:=nI k) (aq (a:=aY l gs os) (b:= .int 1) rfl rfl rfl) rfl (NT.pB (by rw[List.getElem?_map,hgk];rfl))) rfl (show cn (gy gs[k]) (.int 2)= .ok (.bl gs[k].2.2) from rfl)]
   rfl
  rw[List.take_add_one,hk,show(some k).toList=[k] from rfl,List.filter_append]
  have e:([k].filter fun i=>match gs[i]? with | some g=>!g.2.2 | none=>false)=if !gs[k].2.2 then [k] else []:=by
   rw[List.filter_cons,hgk];rfl
  rw[e];cases gs[k].2.2 with
  | false=>
    rw[if_pos (by decide)]
    exact bV (d:=nI k) rfl ⟨_,rfl,rfl,by rw[if_pos (by decide),List.map_append];rfl⟩
  | true=>
    rw[if_neg (by decide)]
    exact⟨rfl,by rw[if_neg (by decide),List.append_nil]⟩
 rintro ds S2 ⟨rfl,rfl⟩;rw[List.length_map,List.length_map,List.length_range,List.take_of_length_le (by simp)]
 refine⟨_,rfl,?_⟩;simp only[List.set];show W3 (bw _ _ [some (.d (aY l gs os)),some (.d (CB c l gs os [])),some (.d (nI m)),some (.d (.str (gG safe))),some (.d (.lst ((il gs).map nI))),none,none,none] S2) _;refine aW <| bB (by simp) <| mh (ds:=[]) rfl ⟨_,rfl,?_⟩
 simp only[List.set];have U6:jb (S2++[SO.lst []]):=jb.push hS (El _);refine aW <| d8 <| ik (ds:=(gU (il gs) m).map az) (dC (aA (ds:=[.lst ((il gs).map nI),nI m]) rfl (Dv (B0 gs) J1 (by omega)))) ?_
 have hAl:=oj J1 m;have hAs:=wc (free:=il gs) (m:=m) (by omega)
 generalize hPl:CB c l gs os []=Pl;unfold er at h;generalize hB:BT safe c l gs os=B at h;generalize (il gs).map nI=us;generalize gU (il gs) m=A at hAl hAs h;have hA2:(m+1)*4096<=16384:=Nat.mul_le_mul_right 4096 (by omega:m+1<=4)
 refine(bF (fun i δ S3=>jb S3/\∃(U:aP) (a6 a7:Option V3),S3=S2++SO.lst ((nW B (A.take i)).map az) ::U/\δ=kE (aY l gs os) Pl (nI m) (.str (gG safe)) (.lst us) S2.length a6 a7)
  ⟨U6,[],none,none,rfl,rfl⟩ ?_).mono fun o S3 ⟨cZ,fH,hcl,U,a6,a7,tQ,hδ⟩=>⟨cZ,fH,?_⟩
 .rintro i v δ S3 hv ⟨hcl,U,a6,a7,rfl,rfl⟩;obtain⟨T,hT,rfl⟩:=NT.dw hv;have hil:=(List.getElem?_eq_some_iff.mp hT).1;have Gv:∀o∈nW B (A.take i),o.length < 1000:=qu fun T hT=>hAs T (List.mem_of_mem_take hT)
  have V7:(nW B (A.take i)).length<=16384:=by
   have:=rP B (A.take i) [];rw[List.length_take] at this;unfold nW;simp only[List.length_nil] at this;omega
  rw[List.take_add_one,hT];rw[show(some T).toList=[T] from rfl,yh]
  generalize nW B (A.take i)=f at Gv V7 hcl;have hg0:(S2++SO.lst (f.map az) ::U)[S2.length]? =some (.lst (f.map az)):=x0 _ _ _;refine⟨kE (aY l gs os) Pl (nI m) (.str (gG safe)) (.lst us) S2.length (some (.d (az T))) a7,rfl,?_⟩;unfold p7;refine aW <| bB (by unfold kE;simp only[List.length_cons,List.length_nil];omega) <| HG (ds:=(f.filter (subB T)).map az) (ck (ds:=f.map az) (dC (xo rfl (jc hg0))) (by rw[List.length_map];omega) (NT.cG (subB T) az az fun o ho=>⟨[.val (az o), .val (az T)],rfl,GG (Gv o ho) rfl rfl,fun _=>rfl⟩)) (My _) ⟨_,rfl,?_⟩
  have Gk:jb (S2++SO.lst (f.map az) ::U++[SO.lst ((f.filter (subB T)).map az)]):=jb.push hcl (El _);have VY:∀W:aP,(S2++SO.lst (f.map az) ::U++W)[S2.length]? =some (.lst (f.map az)):=fun W=>by rw[List.append_assoc];exact x0 _ _ _
  have has:∀(f':Zo) W,S2++SO.lst (f'.map az) ::U++W=S2++SO.lst (f'.map az) ::(U++W):=fun f' W=>by rw[List.append_assoc];rfl
  have hemp:(f.filter (subB T)).isEmpty=!(f.any (subB T)):=by
   rw[Bool.eq_iff_iff,List.isEmpty_iff,List.filter_eq_nil_iff];simp
  refine m7 <| OQ <| Q8 (b:=(f.filter (subB T)).isEmpty) (dN (a:= .lst ((f.filter (subB T)).map az)) (b:= .lst []) (xo rfl (jc (bg _ _))) rfl (sE (Ma _))) ?_
  rw[hemp];unfold uD;cases hany:f.any (subB T) with
  | true=>exact .inl ⟨rfl,by rw[if_neg (by decide)];exact fw ⟨_,rfl,Gk,U++_,_,_,has _ _,rfl⟩⟩
  | false=>
    obtain⟨d,hd,hdn⟩:=BI (os:=os) (W0:=Wd c l gs [] []) (W1:=Wd c l gs (nZ T) []) (safe:=safe) (N:=2 ^ c) hpow hO;rw[IQ Xs T,hB] at hdn;refine .inr ⟨rfl,Cu <| rJ <| aD <| bV (d:=Pl) rfl <| aD <| dy <| aD <| bV (d:=aY l gs os) rfl <| aD <| bV (d:=az T) rfl <| cI ?_⟩
    refine @vx c l gs os T _ NO hc PQ ho Gk _ ?_;refine aD <| bV (d:= .str (gG safe)) rfl <| cI ⟨[Pl,CB c l gs os T, .str (gG safe)],d,rfl,by rw[<-hPl];exact hd,?_⟩
    refine bV (d:= .cu) rfl ⟨d, .cu,B T,rfl,rfl,hdn,?_⟩;rw[if_neg (show ¬(false=true) by decide)]
    cases B T with
    | true=>
      rw[if_pos rfl,if_pos rfl];refine nM (k:=S2.length) rfl ⟨_,VY _⟩ <| bV (d:=az T) rfl ⟨_,_,rfl,VY _,by rw[List.length_map];omega,_,rfl,jb.set Gk _ (El _),U++[SO.lst ((f.filter (subB T)).map az)],_,_,?_,rfl⟩
      rw[has,y0,List.map_append];rfl
    | false=>
      rw[if_neg (by decide),if_neg (by decide)]
      exact fw ⟨_,rfl,Gk,U++_,_,_,has _ _,rfl⟩
 .subst hδ tQ;rw[List.length_map,List.length_map,List.take_length];unfold kE;refine eG <| w_var (v:= .loc S2.length) rfl ⟨.loc S2.length,rfl,?_,⟨_,rfl⟩,_,jc (x0 _ _ _),h⟩
  show decide (S2.length<=S2.length)=true;exact decide_eq_true (Nat.le_refl _)
end
end K42
end
section
namespace K42
open PySem PySem.Spec PyProof.Rows L2 L3 MT
theorem pZ{α:Type}(p:α->Bool)(g:α->V3):∀xs:List α,(xs.findSome? fun x=>if p x then some (g x) else none)=(xs.find? p).map g
 | []=>rfl
 | x ::xs=>by
   rw[List.findSome?_cons,List.find?_cons];cases p x with
   | true=>rfl
   | false=>exact pZ p g xs
theorem QI{f g:FB}{δ:DE}{S:aP}{QB:Bool->aP->Prop}(h:W3 (f δ S) fun b S1=>(b=true/\QB true S1)\/(b=false/\W3 (g δ S1) QB)):W3 (Ug f g δ S) QB:=W3.bind (h.mono fun b S1 h=>by
 rcases h with⟨rfl,q⟩ | ⟨rfl,q⟩
 .rw [if_pos rfl];exact W3.ok q
 .rw [if_neg (by decide)];exact q)
theorem IG:cS 3 pX:=by
 unfold pX;exact(cS.tup (n:=0) fun d hd=>by rw[List.mem_singleton.mp hd];exact cS.str (by decide+kernel)).mono (by omega)
theorem K9:lA pX pX= .ok (.bl true):=NT.eq_self IG (by omega)
theorem uZ{a b:D}{k:Bool}(h:lA a b= .ok (.bl k)):EC a b= .ok (.bl (!k)):=by
 unfold lA at h;unfold EC;cases q:Em a b with
 | ok x=>rw [q] at h;cases h;rfl
 | no=>rw [q] at h;cases h
 | ex _=>rw [q] at h;cases h
theorem PV(T:List Nat):cS 1 (az T):=cS.tup fun d hd=>by obtain⟨x,_,rfl⟩:=List.mem_map.mp hd;exact cS.int _
theorem TC(T:List Nat):lA (az T) (az T)= .ok (.bl true):=NT.eq_self (PV T) (by omega)
theorem TZ(F:Zo):lA (.lst (F.map az)) (.lst (F.map az))= .ok (.bl true):=sE (cS.Wj (Q1 F) (by omega))
theorem SU.less{free:List Nat}{F:Zo}{T0:List Nat}(h:SU free F T0){k:Nat}(hk:k < T0.length):∃G∈F,K42.hit (T0.take k++T0.drop (k+1)) G=false:=by
 have e:T0.take k++T0.drop (k+1)=T0.eraseIdx k:=(List.eraseIdx_eq_take_drop_succ T0 k).symm;rw[e];cases q:fM F (T0.eraseIdx k) with
 | true=>
   have h1:=h.min _ ((List.eraseIdx_sublist T0 k).trans h.sub) q;rw[List.length_eraseIdx_of_lt hk] at h1;omega
 | false=>
   unfold fM at q;rw[List.all_eq_false] at q;obtain⟨G,hG,h2⟩:=q;exact⟨G,hG,by simpa using h2⟩
section
variable {c m:Nat} {l:Zm} {gs:List Gt} {os:Zn} {safe:Bool} {S:aP}
theorem IH{F:Zo}{T0:List Nat}(hg:gs.length<=11)(hF:F.length<=20000)(UL:∀o∈F,o.length < 1000)(hU:SU (List.range gs.length) F T0)(hS:jb S){Q:V3->aP->Prop}(h:Q (.d (az T0)) S):W3 (j3 [.d (aY l gs os), .d (.lst (F.map az))] S) Q:=by
 have hz:sizeLine=16777216:=sizeLine_eq;have hTl:T0.length<=gs.length:=by have:=hU.sub.length_le;rw [List.length_range] at this;exact this
 unfold j3;refine fZ hS (wI rfl ?_);simp only[cA,ji,List.map,List.length,List.replicate,List.cons_append,List.nil_append,Nat.reduceAdd,Nat.reduceSub];unfold oz;refine aW <| bB (by simp) <| mh (ds:=(List.range gs.length).map nI) ?_ ⟨_,rfl,?_⟩
 .unfold Ob;rw[aA (ds:=[.lst (gs.map gy)]) (ax (aq (a:=aY l gs os) (b:= .int 1) rfl rfl rfl) rfl) (sI _),R.aM];rw[List.length_map];show R.bN (decide (-(2 ^ 62)<=(gs.length:Int)/\(gs.length:Int) < 16777216)) (.ok (gq 0 (gs.length:Int).toNat))=_;rw[cg _ ⟨by omega,by omega⟩,Int.toNat_natCast,gT]
 simp only[List.set];refine AU (k:=S.length) (ds:=(List.range gs.length).map nI) rfl (bg _ _) ?_;rw[dA];simp only[List.set];have hFi:=FW hU (n:=gs.length) hTl;refine oT <| d8 <| ik (ds:=(gU (List.range gs.length) gs.length).map az) (dC (aA (ds:=[.lst ((List.range gs.length).map nI),nI gs.length]) (ax rfl (ax (aA (ds:=[.lst ((List.range gs.length).map nI)]) rfl (by rw[sI,List.length_map,List.length_range];rfl)) rfl)) (Dv List.pairwise_lt_range (by rw[List.length_range];omega) (by omega)))) ?_
 rw[List.map_map];generalize (List.range gs.length).map nI=rs;refine(m6 (S:=S++[SO.k4]) (V3.d ∘ az) (fun T=>if fM F T then some (.d (az T)) else none) (fun δ=>∃a3,δ=[some (.d (aY l gs os)),some (.d (.lst (F.map az))),some (.d (.lst rs)),a3])
  ⟨_,rfl⟩ ?_).mono fun o S1 ⟨e1,h1⟩=>?_
 .rintro T hT δ ⟨a3,rfl⟩;refine⟨[some (.d (aY l gs os)),some (.d (.lst (F.map az))),some (.d (.lst rs)),some (.d (az T))],rfl,?_⟩;unfold qc;have hfe:(F.filter fun o=>!hit T o).isEmpty=fM F T:=by
   rw[Bool.eq_iff_iff,List.isEmpty_iff,List.filter_eq_nil_iff];unfold fM;rw[List.all_eq_true];simp
  refine m7 <| qX (b:=fM F T) (dN (a:= .lst ((F.filter fun o=>!hit T o).map az)) (b:= .lst []) (cJ (ck (ds:=F.map az) (dC rfl) (by rw[List.length_map];omega) (NT.cG (fun o=>!hit T o) az az fun o De=>⟨[.val (az o), .val (az T)],rfl,FQ (e:=ae 0) (w:=1) (UL o De) rfl rfl,fun _=>rfl⟩))) rfl ((sE (Ma _)).trans (by rw[hfe]))) ?_
  cases fM F T with
  | true=>rw [if_pos rfl,if_pos rfl];exact eG <| bV (d:=az T) rfl ⟨rfl,rfl⟩
  | false=>rw [if_neg (by decide),if_neg (by decide)];exact fw ⟨rfl,_,rfl,_,rfl⟩
 .subst e1;rw[pZ (fM F) (fun T=>V3.d (az T)),hFi] at h1
  subst h1;exact⟨.d (az T0),rfl,by unfold fR;rfl,⟨_,rfl⟩,_,by unfold res;rfl,h⟩
theorem QY{T0:List Nat}{k:Nat}(hk:k < T0.length):Se (az T0) none (some (k:Int))= .ok (az (T0.take k)):=by
 show R.bN (decide (¬(HT.gA (T0.map nI).length 0 none=0/\HT.gA (T0.map nI).length (T0.map nI).length (some (k:Int))=(T0.map nI).length))) (R.ok (D.tup (L2.cutD (T0.map nI) none (some (k:Int)))))=R.ok (D.tup ((T0.take k).map nI));rw[cg _ (by rw[HT.rR,List.length_map];omega),NV _ (by omega),Int.toNat_natCast,List.map_take]
theorem QE{T0:List Nat}{k:Nat}(hk:k < T0.length):Se (az T0) (some ((k+1:Nat):Int)) none= .ok (az (T0.drop (k+1))):=by
 show R.bN (decide (¬(HT.gA (T0.map nI).length 0 (some ((k+1:Nat):Int))=0/\HT.gA (T0.map nI).length (T0.map nI).length none=(T0.map nI).length))) (R.ok (D.tup (L2.cutD (T0.map nI) (some ((k+1:Nat):Int)) none)))=R.ok (D.tup ((T0.drop (k+1)).map nI));rw[cg _ (by rw[HT.rR,List.length_map];omega),HH _ (by omega),Int.toNat_natCast,List.map_drop]
def rE(nt pl mm lv F T0:D)(a6 a7:Option V3):DE:=[some (.d nt),some (.d pl),some (.d mm),some (.d lv),some (.d F),some (.d T0),a6,a7]
theorem Gf{k:Nat}{pl:D}{T0:List Nat}{a7:Option V3}(N:GN l gs os)(hc:l.length=c)(hm:m<=3)(hS:jb S){free:List Nat}(hU:SU free (er safe c l gs os m) T0)(hk:k < T0.length)(hl:T0.length < 1000) :
 W3 (lD (rE (aY l gs os) pl (nI m) (.str (gG safe)) (.lst ((er safe c l gs os m).map az)) (az T0) (some (.d (nI k))) a7) S) fun o S1=>S1=S/\o= .nx (rE (aY l gs os) pl (nI m) (.str (gG safe)) (.lst ((er safe c l gs os m).map az)) (az T0) (some (.d (nI k))) a7):=by
 have hz:sizeLine=16777216:=sizeLine_eq;have hcc:=N.c;have hgg:=N.g;obtain⟨G,hG,hh⟩:=hU.less hk;generalize hT1:T0.take k++T0.drop (k+1)=T1 at hh;have uN:=zh (T:=T1) hG hh;obtain⟨T2,r1,e1⟩:∃T r,er safe c l (mk T1 gs) os m=T ::r:=by
  cases q:er safe c l (mk T1 gs) os m with
  | nil=>exact absurd q uN
  | cons a r=>exact⟨a,r,rfl⟩
 obtain⟨q,eb⟩:=C4 e1;unfold lD rE;refine m7 <| Cu <| Qg <| dy <| aD <| bV (d:=aY l (mk T1 gs) os) (aA (ds:=[aY l gs os,az T1]) (ax rfl (ax (aq (a:=az (T0.take k)) (b:=az (T0.drop (k+1))) ?_ ?_ ?_) rfl)) (ni (by omega))) <| aD <| bV (d:=nI m) rfl <| aD <| bV (d:= .str (gG safe)) rfl <| cI <| Af (IA N.no) hc (by omega) N.o (by rw[mZ];omega) hm hS ?_
 .exact QY hk
 .exact QE hk
 .rw [<-hT1];show iz (.tup ((T0.take k).map nI)) (.tup ((T0.drop (k+1)).map nI))= .ok (.tup ((T0.take k++T0.drop (k+1)).map nI));rw[List.map_append];exact zd (by rw[List.length_map,List.length_map,List.length_take,List.length_drop];omega)
 rw[eb];refine bV (d:= .int 0) rfl ⟨_,_, .str "breaks",rfl,rfl,rfl,bV (d:= .str "breaks") rfl ⟨_,_,false,rfl,rfl,rfl,?_⟩⟩;rw[if_neg (by decide)]
 exact fw ⟨rfl,rfl⟩
end
end K42
end
section
namespace K42
open PySem PySem.Spec PyProof.Rows L2 L3 MT
theorem NR(x:Bool × Bool):cS 0 (sg x):=by
 unfold sg;split
 .exact cS.int _
 split
 .exact cS.int _
 .exact cS.cu
theorem Rc{α:Type}(g:α->D)(hg:∀x,cS 1 (g x))(xs:List α):Em (.lst (xs.map g)) (.lst [])= .ok xs.isEmpty:=by
 have f:cS 2 (.lst (xs.map g)):=cS.lst fun d hd=>by
  obtain⟨x,_,rfl⟩:=List.mem_map.mp hd;exact hg x
 have f2:cS 1 (.lst []):=cS.lst fun d hd=>by cases hd
 rw[zc,f.pl,f.sh (by omega),f2.pl,f2.sh (by omega)]
 cases xs with
 | nil=>rfl
 | cons g gs=>rfl
theorem Jh:∀xs:List (Bool × Bool),∃ss,ois? (xs.map sg)=some ss/\ss.any (·.isNone)=xs.any fun x=>(zH x).isNone
 | []=>⟨[],rfl,rfl⟩
 | (a,b) ::xs=>by
   obtain⟨ss,h1,h2⟩:=Jh xs;cases a <;> cases b
   .exact⟨none ::ss,by rw[List.map_cons];unfold ois?;show(ois? (xs.map sg)).map _=_;rw [h1];rfl,by rw[List.any_cons,List.any_cons,h2];rfl⟩
   .exact⟨some 1 ::ss,by rw[List.map_cons];unfold ois?;show(ois? (xs.map sg)).map _=_;rw [h1];rfl,by rw[List.any_cons,List.any_cons,h2];rfl⟩
   .exact⟨some 0 ::ss,by rw[List.map_cons];unfold ois?;show(ois? (xs.map sg)).map _=_;rw [h1];rfl,by rw[List.any_cons,List.any_cons,h2];rfl⟩
   .exact⟨some 0 ::ss,by rw[List.map_cons];unfold ois?;show(ois? (xs.map sg)).map _=_;rw [h1];rfl,by rw[List.any_cons,List.any_cons,h2];rfl⟩
section
variable {c m:Nat} {l:Zm} {gs:List Gt} {os:Zn} {safe:Bool} {S:aP}
theorem Oc(W:List M)(p:Nat):E9 .cu (lM W os p)= .ok (.bl (os.any fun x=>(zH (pt W x p)).isNone)):=by
 obtain⟨ss,h1,h2⟩:=Jh (os.map fun x=>pt W x p)
 rw[List.map_map] at h1;unfold E9 SV lM;show((match ois? (os.map (sg ∘ fun x=>pt W x p)) with | some ss=>R.ok (ss.any (·.isNone)) | none=>R.no).bind fun b=>R.ok (D.bl b))=_
 rw[h1];show R.ok (D.bl (ss.any (·.isNone)))=_
 rw[h2,List.any_map];rfl
theorem KO(ho:∀x∈os,1<=x.2.length/\x.2.length<=3):((List.range (2 ^ c)).filter fun p=>os.any fun x=>(zH (pt (Wd c l gs [] []) x p)).isNone).isEmpty=true->Pn c l gs os:=fun h x hx p hp=>by
 rw[List.isEmpty_iff,List.filter_eq_nil_iff] at h;have h1:=h p (List.mem_range.mpr hp);have h2:(zH (pt (Wd c l gs [] []) x p)).isNone=false:=by
  cases q:(zH (pt (Wd c l gs [] []) x p)).isNone with
  | false=>rfl
  | true=>exact absurd (List.any_eq_true.mpr ⟨x,hx,q⟩) h1
 have h3:((pt (Wd c l gs [] []) x p).1 && (pt (Wd c l gs [] []) x p).2)=false:=by unfold pt;exact Cr _
 generalize pt (Wd c l gs [] []) x p=X at h2 h3;obtain⟨a,b⟩:=X;cases a <;> cases b <;> first | rfl | exact absurd h3 (by decide) | exact absurd h2 (by decide)
theorem Hi(N:GN l gs os)(hc:l.length=c)(hs:Pn c l gs os)(hm:m<=3)(hS:jb S){Q:V3->aP->Prop}(h:Q (.d (.bl true)) S):W3 (mR [.d (aY l gs os), .d (CB c l gs os []), .d (nI m), .d (.str (gG safe))] S) Q:=by
 have hz:sizeLine=16777216:=sizeLine_eq;have hcc:=N.c;have hgg:=N.g;have hFl:(er safe c l gs os m).length<=16384:=DQ (by omega) hm
 have UL:∀o∈er safe c l gs os m,o.length < 1000:=qu (wc (by omega))
 have hGd:Good (List.range gs.length) (er safe c l gs os m):=Hd (LS hs) List.pairwise_lt_range List.filter_sublist;unfold mR;refine fZ hS (wI rfl ?_);simp only[cA,jr,List.map,List.length,List.replicate,List.cons_append,List.nil_append,Nat.reduceAdd,Nat.reduceSub];unfold n0;refine aW <| bB (by simp) <| dy <| aD <| bV (d:=aY l gs os) rfl <| aD <| bV (d:=CB c l gs os []) rfl <| aD <| bV (d:=nI m) rfl <| aD <| bV (d:= .str (gG safe)) rfl <| cI ?_
 refine @Gw c m l gs os safe S N.no hc (by omega) N.o hs (by omega) hm hS _ ?_
 generalize CB c l gs os []=pl;refine⟨_,rfl,?_⟩;simp only[List.set];refine oT <| m7 <| Cu <| dy <| aD <| bV (d:=aY l gs os) rfl <| aD <| bV (d:=nI m) rfl <| aD <| bV (d:= .str (gG safe)) rfl <| cI <| uY (safe:=safe) N.no hc (by omega) N.o (by omega) hm hS ?_
 refine bV (d:= .lst ((er safe c l gs os m).map az)) rfl ⟨_,_,false,rfl,rfl,uZ (TZ _),?_⟩;rw[if_neg (by decide)]
 refine fw <| aW <| bB (by simp) <| dy <| aD <| bV (d:=aY l gs os) rfl <| aD <| bV (d:=nI m) rfl <| aD <| bV (d:= .str (gG safe)) rfl <| cI <| E5 (free:=List.range gs.length) N.no hc (by omega) N.o (by omega) hm List.pairwise_lt_range hGd (by rw[List.length_range];omega) hS fun T0 hU=>⟨_,rfl,?_⟩
 simp only[List.set];have hTl:T0.length < 1000:=by have:=hU.sub.length_le;rw [List.length_range] at this;omega
 have hnil:er safe c l (mk T0 gs) os m=[]:=Gj hU.hit;refine oT <| m7 <| QI <| Cu <| bV (d:=az T0) rfl <| dy <| aD <| bV (d:=aY l gs os) rfl <| aD <| bV (d:= .lst ((er safe c l gs os m).map az)) rfl <| cI <| IH (by omega) (by omega) UL hU hS ⟨_,_,false,rfl,rfl,uZ (TC T0), .inr ⟨rfl,?_⟩⟩
 refine Cu <| dy <| aD <| bV (d:=aY l (mk T0 gs) os) (aA (ds:=[aY l gs os,az T0]) rfl (ni (by omega))) <| aD <| bV (d:=nI m) rfl <| aD <| bV (d:= .str (gG safe)) rfl <| cI <| Af (safe:=safe) (IA N.no) hc (by omega) N.o (by rw[mZ];omega) hm hS ?_
 rw[F9 hnil];refine bV (d:=pX) (di rfl (by simp;omega)) ⟨_,_,false,rfl,rfl,uZ K9,?_⟩
 rw[if_neg (by decide)]
 refine fw <| aW <| d8 <| ik (ds:=(List.range T0.length).map nI) ?_ ?_
 .rw [<-gT];refine dM (n:=T0.length) (aA (ds:=[az T0]) rfl ?_) (by omega)
  show R.ok (D.int (T0.map nI).length)=_;rw[List.length_map]
 refine(bF (fun i δ S5=>S5=S/\∃a6,δ=rE (aY l gs os) pl (nI m) (.str (gG safe)) (.lst ((er safe c l gs os m).map az)) (az T0) a6 none)
  ⟨rfl,none,rfl⟩ ?_).mono fun o S5 ⟨Ss,e5,RH,a6,hδ⟩=>⟨Ss,e5,?_⟩
 .rintro i v δ S5 hv ⟨rfl,a6,rfl⟩;obtain⟨x,hx,rfl⟩:=NT.dw hv;have JY:x < T0.length:=List.mem_range.mp (List.mem_of_getElem? hx);refine⟨rE (aY l gs os) pl (nI m) (.str (gG safe)) (.lst ((er safe c l gs os m).map az)) (az T0) (some (.d (nI x))) none,rfl,?_⟩;exact(Gf N hc hm hS hU JY hTl).mono fun o S6 ⟨e6,eo⟩=>⟨_,eo,e6,_,rfl⟩
 subst hδ;rw[RH];unfold rE;generalize D.lst ((er safe c l gs os m).map az)=FF;refine aW <| bB (by simp) <| j1 (fun j ds S2=>S2=S/\ds=((mk T0 gs).take j).map gy) (ik (ds:=cm (gs.map gy)) rfl ⟨by unfold cm;rw [List.length_map,List.length_map,List.length_zipIdx,List.length_map];omega,⟨rfl,by simp⟩,?_,?_⟩)
 .rintro j v ds S2 hv ⟨rfl,rfl⟩;obtain⟨d,hd,rfl⟩:=ng hv;obtain⟨g,hg,rfl⟩:=NT.jU hd;have hmk:(mk T0 gs)[j]? =some (g.1,g.2.1,g.2.2 || T0.contains j):=by rw[uQ,hg];rfl
  refine⟨[some (.d (nI j)),some (.d (.str (kS g.1))),some (.d (.tup (g.2.1.map nI))),some (.d (.bl g.2.2)),some (.d (az T0))],rfl,wj ?_⟩;rw[if_pos rfl];refine bV (d:=gy (g.1,g.2.1,g.2.2 || T0.contains j)) (di (ds:=[.str (kS g.1), .tup (g.2.1.map nI), .bl (g.2.2 || T0.contains j)]) (ax rfl (ax rfl (ax (Mf rfl (aq (a:=nI j) (b:=az T0) rfl rfl (BO j T0))) rfl))) (by simp;omega)) ⟨_,rfl,rfl,?_⟩
  rw[List.take_add_one,hmk,List.map_append];rfl
 rintro ds S2 ⟨fH,rfl⟩;have hen:((cm (gs.map gy)).map V3.d).length=(mk T0 gs).length:=by rw[mZ];simp [cm]
 rw[hen,List.take_length];refine⟨_,rfl,?_⟩;simp only[List.set];have hfit:cS 4 (aY l (mk T0 gs) os):=cS.tup fun d hd=>by
  simp only[List.mem_cons,List.not_mem_nil,or_false] at hd;rcases hd with rfl | rfl | rfl
  .exact cS.lst fun d hd=>by obtain⟨x,hx,rfl⟩:=List.mem_map.mp hd;exact(G_ (N.fi x hx)).mono (by omega)
  .exact cS.lst fun d hd=>by obtain⟨x,hx,rfl⟩:=List.mem_map.mp hd;exact Iz
  .exact cS.lst fun d hd=>by obtain⟨x,hx,rfl⟩:=List.mem_map.mp hd;exact Hf (N.fo x hx)
 subst fH;exact eG <| bV (d:= .bl true) (aq (a:=aY l (mk T0 gs) os) (b:=aY l (mk T0 gs) os) (aA (ds:=[aY l gs os,az T0]) rfl (ni (by omega))) (di (ds:=[.lst (l.map MT.inD), .lst ((mk T0 gs).map gy), .lst (os.map Fm)]) (ax (aq (a:=aY l gs os) (b:= .int 0) rfl rfl rfl) (ax rfl (ax (aq (a:=aY l gs os) (b:= .int 2) rfl rfl rfl) rfl))) (by simp;omega)) (NT.eq_self hfit (by omega))) ⟨.d (.bl true),rfl,by unfold fR;rfl,⟨[],by simp⟩, .bl true,by unfold res;rfl,h⟩
end
theorem IZ(ns:List Int)(hn:ns.length<=63):DL [.lst (ns.map D.int)]= .ok (.bl true):=by
 have hz:sizeLine=16777216:=sizeLine_eq;obtain⟨v0,S0,e0,l,gs,os,ev,eS,N⟩:=N_ ns (S:=[]) (fun o ho=>by cases ho)
 subst ev eS;have hcl:jb ([]:aP):=fun o ho=>by cases ho
 have hcc:=N.c;have key:W3 (pN t_ xI [.d (.lst (ns.map .int))] []) fun v S1=>v= .d (.bl true)/\S1=[]:=by
  refine fZ hcl (wI rfl ?_);simp only[cA,t_,List.map,List.length,List.replicate,List.cons_append,List.nil_append,Nat.reduceAdd,Nat.reduceSub];unfold xI;refine aW <| bB (by simp) <| dy <| aD <| bV (d:= .lst (ns.map .int)) rfl <| cI ⟨_,_,e0,_,rfl,?_⟩
  simp only[List.set];refine aW <| bB (by simp) <| dy <| aD <| bV (d:=aY l gs os) rfl <| aD <| bV (d:=az []) (di rfl (by simp)) <| cI ?_
  refine @vx l.length l gs os [] [] N.no rfl (by omega) N.o hcl _ ?_
  rw[show D.lst ((List.range (2 ^ l.length)).map (lM (Wd l.length l gs (nZ []) []) os))=CB l.length l gs os [] from rfl]
  refine⟨_,rfl,?_⟩;simp only[List.set];have hpow:2 ^ l.length<=64:=Nat.pow_le_pow_right (by omega) (by omega:l.length<=6)
  have hrows:b2 lA (eNew (cO (cq (ae 2)) (aI 0) (b2 E9 (eC .cu) (ae 0)) (ae 0) ["row"] [])) (eNew (d_ aJ)) (down [some (.d (.lst (ns.map .int))),some (.d (aY l gs os)),some (.d (CB l.length l gs os [])),none,none])= .ok ((List.range (2 ^ l.length)).filter fun p=>os.any fun x=>(zH (pt (Wd l.length l gs [] []) x p)).isNone).isEmpty:=by
   refine dN (a:= .lst (((List.range (2 ^ l.length)).filter fun p=>os.any fun x=>(zH (pt (Wd l.length l gs [] []) x p)).isNone).map (lM (Wd l.length l gs [] []) os))) (b:= .lst []) (cJ (ck (ds:=(List.range (2 ^ l.length)).map (lM (Wd l.length l gs [] []) os)) (dC rfl) (by rw[List.length_map,List.length_range];omega) ?_)) rfl (sE (Rc _ (fun p=>cS.lst fun d hd=>by obtain⟨x,_,rfl⟩:=List.mem_map.mp hd;exact NR _) _))
   exact NT.cG (t:=aI 0) (c:=b2 E9 (eC .cu) (ae 0)) (f:=ae 0) (δ:=[.un]) (fun p=>os.any fun x=>(zH (pt (Wd l.length l gs [] []) x p)).isNone) (lM (Wd l.length l gs [] []) os) (lM (Wd l.length l gs [] []) os) fun p _=>⟨[.val (lM (Wd l.length l gs [] []) os p)],rfl,dN (a:= .cu) (b:=lM (Wd l.length l gs [] []) os p) rfl rfl (Oc _ p),fun _=>rfl⟩
  refine aW (W3.mono (Q:=fun o S3=>S3=[]/\∃a3 a4,o= .nx [some (.d (.lst (ns.map .int))),some (.d (aY l gs os)),some (.d (CB l.length l gs os [])),a3,a4]) ?_ fun o S3 ⟨e3,a3,a4,eo⟩=>⟨_,eo,?_⟩)
  .refine m7 <| qX (b:=((List.range (2 ^ l.length)).filter fun p=>os.any fun x=>(zH (pt (Wd l.length l gs [] []) x p)).isNone).isEmpty) hrows ?_
   cases q:((List.range (2 ^ l.length)).filter fun p=>os.any fun x=>(zH (pt (Wd l.length l gs [] []) x p)).isNone).isEmpty with
   | false=>rw [if_neg (by decide)];exact fw ⟨rfl,_,_,rfl⟩
   | true=>
     rw[if_pos rfl];have hs:Pn l.length l gs os:=KO N.o q;refine d8 <| ik (ds:=[1,2,3].map nI) (dC rfl) ?_
     refine(bF (fun i δ S5=>S5=[]/\∃a3 a4,δ=[some (.d (.lst (ns.map .int))),some (.d (aY l gs os)),some (.d (CB l.length l gs os [])),a3,a4])
      ⟨rfl,_,_,rfl⟩ ?_).mono fun o S5 ⟨Ss,e5,RH,b3,b4,hδ⟩=>⟨RH,b3,b4,by rw[e5,hδ]⟩
     rintro i v δ S5 hv ⟨rfl,b3,b4,rfl⟩;obtain⟨m,hm,rfl⟩:=NT.dw hv;have hm3:m<=3:=by
      have:=List.mem_of_getElem? hm;simp only[List.mem_cons,List.not_mem_nil,or_false] at this;omega
     refine⟨[some (.d (.lst (ns.map .int))),some (.d (aY l gs os)),some (.d (CB l.length l gs os [])),some (.d (nI m)),b4],rfl,?_⟩;unfold EF;refine d8 <| ik (ds:=[false,true].map fun s=> .str (gG s)) (dC rfl) ?_
     refine(bF (fun i δ S5=>S5=[]/\∃a4,δ=[some (.d (.lst (ns.map .int))),some (.d (aY l gs os)),some (.d (CB l.length l gs os [])),some (.d (nI m)),a4])
      ⟨rfl,_,rfl⟩ ?_).mono fun o S5 ⟨Ss,e5,RH,c4,hδ⟩=>⟨Ss,e5,RH,_,c4,hδ⟩
     rintro j u δ S5 hu ⟨rfl,c4,rfl⟩;obtain⟨s,_,rfl⟩:=NT.dw hu;refine⟨[some (.d (.lst (ns.map .int))),some (.d (aY l gs os)),some (.d (CB l.length l gs os [])),some (.d (nI m)),some (.d (.str (gG s)))],rfl,?_⟩;unfold Et;refine m7 <| w_not <| L9 <| dy <| aD <| bV (d:=aY l gs os) rfl <| aD <| bV (d:=CB l.length l gs os []) rfl <| aD <| bV (d:=nI m) rfl <| aD <| bV (d:= .str (gG s)) rfl <| cI ?_
     refine @Hi l.length m l gs os s [] N rfl hs hm3 hcl _ ⟨_,true,rfl,rfl,?_⟩;rw[if_neg (by decide)]
     exact fw ⟨_,rfl,rfl,_,rfl⟩
  subst e3;refine eG <| Vg <| bV (d:=aY l gs os) rfl <| dy <| aD <| bV (d:= .lst (ns.map .int)) rfl <| cI ⟨_,_,e0,aY l gs os,aY l gs os, .bl true,rfl,rfl,NT.eq_self N.fit (by omega), .d (.bl true),rfl,by unfold fR;rfl,⟨[],rfl⟩, .bl true,by unfold res;rfl,rfl,trivial⟩
 obtain⟨v,S1,e,rfl,rfl⟩:=key;unfold DL Sb;simp only[List.map_cons,List.map_nil];rw[e];rfl
end K42
end
open PySem PySem.W PyProof.Rows
set_option maxRecDepth 100000 in
set_option maxHeartbeats 0 in
theorem PySem.Challenge.cw_bearfaults_k42_whole_fewest_made_sure_holds : PySem.Challenge.rw_bearfaults_k42_whole_fewest_made_sure.Holds := by
 w_on;o_law;k_head;(case hw=>w_witness2)
 k_fill
 refine L2.PY (l:=PySem.Challenge.rw_bearfaults_k42_whole_fewest_made_sure) (n:=63) (k:=18) (x:="script") (g:=K42.DL) rfl (by decide) rfl ⟨rfl,by decide,by decide⟩ (fun w h Y=>PySem.W.kIn_of Y) ?F K42.IZ
 case F=>
  intro w mg fa h KX G RL
  have tJ:L2.Def (L2.eP KX) mg "vote_of" K42.mv:=by
   dsimp only[L2.eP]
   refine' L2.bQ KX G ?a ?l ?c ?k
   (case a=>k_is);(case l=>k_is);(case c=>k_is);(case k=>k_is)
  have pj:L2.Def (L2.eP KX) mg "gate_mask" K42.jy:=by
   dsimp only[L2.eP]
   refine' L2.bQ KX G ?a ?l ?c ?k
   (case a=>k_is);(case l=>k_is);(case c=>k_is);(case k=>k_is)
  have jL:L2.Def (L2.eP KX) mg "in_wire_masks" K42.eU:=by
   dsimp only[L2.eP]
   refine' L2.bQ KX G ?a ?l ?c ?k
   (case a=>k_is);(case l=>k_is);(case c=>k_is);(case k=>k_is)
  have qM:L2.Def (L2.eP KX) mg "masks_at" K42.kh:=by
   dsimp only[L2.eP]
   refine' L2.bQ KX G ?a ?l ?c ?k
   (case a=>k_is);(case l=>k_is);(case c=>k_is);(case k=>k_is)
  have nE:L2.Def (L2.eP KX) mg "wire_masks" K42.gZ:=by
   dsimp only[L2.eP]
   refine' L2.bQ KX G ?a ?l ?c ?k
   (case a=>k_is);(case l=>k_is);(case c=>k_is);(case k=>k_is)
  have pz:L2.Def (L2.eP KX) mg "out_masks" K42.jl:=by
   dsimp only[L2.eP]
   refine' L2.bQ KX G ?a ?l ?c ?k
   (case a=>k_is);(case l=>k_is);(case c=>k_is);(case k=>k_is)
  have tu:L2.Def (L2.eP KX) mg "reading" K42.mH:=by
   dsimp only[L2.eP]
   refine' L2.bQ KX G ?a ?l ?c ?k
   (case a=>k_is);(case l=>k_is);(case c=>k_is);(case k=>k_is)
  have wx:L2.Def (L2.eP KX) mg "bit_at" K42.n6:=by
   dsimp only[L2.eP]
   refine' L2.bQ KX G ?a ?l ?c ?k
   (case a=>k_is);(case l=>k_is);(case c=>k_is);(case k=>k_is)
  have nK:L2.Def (L2.eP KX) mg "all_inputs" K42.gY:=by
   dsimp only[L2.eP]
   refine' L2.bQ KX G ?a ?l ?c ?k
   (case a=>k_is);(case l=>k_is);(case c=>k_is);(case k=>k_is)
  have tH:L2.Def (L2.eP KX) mg "mask_of" K42.mq:=by
   dsimp only[L2.eP]
   refine' L2.bQ KX G ?a ?l ?c ?k
   (case a=>k_is);(case l=>k_is);(case c=>k_is);(case k=>k_is)
  have tw:L2.Def (L2.eP KX) mg "in_mask" K42.mE:=by
   dsimp only[L2.eP]
   refine' L2.bQ KX G ?a ?l ?c ?k
   (case a=>k_is);(case l=>k_is);(case c=>k_is);(case k=>k_is)
  have tM:L2.Def (L2.eP KX) mg "choices" K42.mC:=by
   dsimp only[L2.eP]
   refine' L2.bQ KX G ?a ?l ?c ?k
   (case a=>k_is);(case l=>k_is);(case c=>k_is);(case k=>k_is)
  have zA:L2.Def (L2.eP KX) mg "bears" K42.q9:=by
   dsimp only[L2.eP]
   refine' L2.bQ KX G ?a ?l ?c ?k
   (case a=>k_is);(case l=>k_is);(case c=>k_is);(case k=>k_is)
  have tq:L2.Def (L2.eP KX) mg "has_all" K42.mz:=by
   dsimp only[L2.eP]
   refine' L2.bQ KX G ?a ?l ?c ?k
   (case a=>k_is);(case l=>k_is);(case c=>k_is);(case k=>k_is)
  have qQ:L2.Def (L2.eP KX) mg "breaking" K42.kj:=by
   dsimp only[L2.eP]
   refine' L2.bQ KX G ?a ?l ?c ?k
   (case a=>k_is);(case l=>k_is);(case c=>k_is);(case k=>k_is)
  have l5:L2.Def (L2.eP KX) mg "count_apart" K42.fX:=by
   dsimp only[L2.eP]
   refine' L2.bQ KX G ?a ?l ?c ?k
   (case a=>k_is);(case l=>k_is);(case c=>k_is);(case k=>k_is)
  have wA:L2.Def (L2.eP KX) mg "behind" K42.oZ:=by
   dsimp only[L2.eP]
   refine' L2.bQ KX G ?a ?l ?c ?k
   (case a=>k_is);(case l=>k_is);(case c=>k_is);(case k=>k_is)
  have l0:L2.Def (L2.eP KX) mg "groups_left" K42.fU:=by
   dsimp only[L2.eP]
   refine' L2.bQ KX G ?a ?l ?c ?k
   (case a=>k_is);(case l=>k_is);(case c=>k_is);(case k=>k_is)
  have kY:L2.Def (L2.eP KX) mg "first_places" K42.ft:=by
   dsimp only[L2.eP]
   refine' L2.bQ KX G ?a ?l ?c ?k
   (case a=>k_is);(case l=>k_is);(case c=>k_is);(case k=>k_is)
  have wy:L2.Def (L2.eP KX) mg "surest" K42.oP:=by
   dsimp only[L2.eP]
   refine' L2.bQ KX G ?a ?l ?c ?k
   (case a=>k_is);(case l=>k_is);(case c=>k_is);(case k=>k_is)
  have pq:L2.Def (L2.eP KX) mg "made_sure" K42.js:=by
   dsimp only[L2.eP]
   refine' L2.bQ KX G ?a ?l ?c ?k
   (case a=>k_is);(case l=>k_is);(case c=>k_is);(case k=>k_is)
  have lY:L2.Def (L2.eP KX) mg "_law_cell_at" K42.fS:=by
   dsimp only[L2.eP]
   refine' L2.bQ KX G ?a ?l ?c ?k
   (case a=>k_is);(case l=>k_is);(case c=>k_is);(case k=>k_is)
  have lX:L2.Def (L2.eP KX) mg "_law_numbers" K42.f9:=by
   dsimp only[L2.eP]
   refine' L2.bQ KX G ?a ?l ?c ?k
   (case a=>k_is);(case l=>k_is);(case c=>k_is);(case k=>k_is)
  have qI:L2.Def (L2.eP KX) mg "_law_kind" K42.kR:=by
   dsimp only[L2.eP]
   refine' L2.bQ KX G ?a ?l ?c ?k
   (case a=>k_is);(case l=>k_is);(case c=>k_is);(case k=>k_is)
  have px:L2.Def (L2.eP KX) mg "_law_gates" K42.jj:=by
   dsimp only[L2.eP]
   refine' L2.bQ KX G ?a ?l ?c ?k
   (case a=>k_is);(case l=>k_is);(case c=>k_is);(case k=>k_is)
  have qP:L2.Def (L2.eP KX) mg "_law_told" K42.ki:=by
   dsimp only[L2.eP]
   refine' L2.bQ KX G ?a ?l ?c ?k
   (case a=>k_is);(case l=>k_is);(case c=>k_is);(case k=>k_is)
  have qK:L2.Def (L2.eP KX) mg "_law_read" K42.kJ:=by
   dsimp only[L2.eP]
   refine' L2.bQ KX G ?a ?l ?c ?k
   (case a=>k_is);(case l=>k_is);(case c=>k_is);(case k=>k_is)
  have qS:L2.Def (L2.eP KX) mg "_law_outs" K42.kK:=by
   dsimp only[L2.eP]
   refine' L2.bQ KX G ?a ?l ?c ?k
   (case a=>k_is);(case l=>k_is);(case c=>k_is);(case k=>k_is)
  have qL:L2.Def (L2.eP KX) mg "_law_bits" K42.kM:=by
   dsimp only[L2.eP]
   refine' L2.bQ KX G ?a ?l ?c ?k
   (case a=>k_is);(case l=>k_is);(case c=>k_is);(case k=>k_is)
  have lZ:L2.Def (L2.eP KX) mg "_law_columns" K42.gb:=by
   dsimp only[L2.eP]
   refine' L2.bQ KX G ?a ?l ?c ?k
   (case a=>k_is);(case l=>k_is);(case c=>k_is);(case k=>k_is)
  have nG:L2.Def (L2.eP KX) mg "_law_breaks" K42.gP:=by
   dsimp only[L2.eP]
   refine' L2.bQ KX G ?a ?l ?c ?k
   (case a=>k_is);(case l=>k_is);(case c=>k_is);(case k=>k_is)
  have qR:L2.Def (L2.eP KX) mg "_law_sets" K42.kl:=by
   dsimp only[L2.eP]
   refine' L2.bQ KX G ?a ?l ?c ?k
   (case a=>k_is);(case l=>k_is);(case c=>k_is);(case k=>k_is)
  have tF:L2.Def (L2.eP KX) mg "_law_net" K42.l_:=by
   dsimp only[L2.eP]
   refine' L2.bQ KX G ?a ?l ?c ?k
   (case a=>k_is);(case l=>k_is);(case c=>k_is);(case k=>k_is)
  have pf:L2.Def (L2.eP KX) mg "_law_least" K42.jh:=by
   dsimp only[L2.eP]
   refine' L2.bQ KX G ?a ?l ?c ?k
   (case a=>k_is);(case l=>k_is);(case c=>k_is);(case k=>k_is)
  have ph:L2.Def (L2.eP KX) mg "_law_first" K42.jx:=by
   dsimp only[L2.eP]
   refine' L2.bQ KX G ?a ?l ?c ?k
   (case a=>k_is);(case l=>k_is);(case c=>k_is);(case k=>k_is)
  have pA:L2.Def (L2.eP KX) mg "_law_right" K42.jo:=by
   dsimp only[L2.eP]
   refine' L2.bQ KX G ?a ?l ?c ?k
   (case a=>k_is);(case l=>k_is);(case c=>k_is);(case k=>k_is)
  have D_law:L2.Def (L2.eP KX) mg "law" K42.Ed:=by
   dsimp only[L2.eP]
   refine' L2.bQ KX G ?a ?l ?c ?k
   (case a=>k_is);(case l=>k_is);(case c=>k_is);(case k=>k_is)
  obtain⟨cl,CF⟩:∃cl,K42.Cf (L2.eP KX) mg cl:=by
   dsimp only[L2.eP]
   refine' K42.Rk KX G ?UJ ?UB ?L4 ?UA ?U2 ?Uw ?Uv ?Df ?kW ?zx ?pe ?UX ?Um ?UY ?US ?U5 ?Us ?Uj ?wD ?wC ?tO ?iS ?iY ?iX ?ei ?iR ?lW ?l6 ?l7 ?f6 ?jg ?iQ ?iT ?iZ ?ee ?fL ?iU ?iW ?i0 ?eg ?iV ?hX ?ie ?ia ?dI ?fk ?h_ ?ib ?ig ?dQ ?fm
   (case UJ=>k_is)
   (case UB=>k_is)
   (case L4=>k_is)
   (case UA=>k_is)
   (case U2=>k_is)
   (case Uw=>k_is)
   (case Uv=>k_is)
   (case Df=>k_is)
   (case kW=>k_is)
   (case zx=>k_is)
   (case pe=>k_is)
   (case UX=>k_is)
   (case Um=>k_is)
   (case UY=>k_is)
   (case US=>k_is)
   (case U5=>k_is)
   (case Us=>k_is)
   (case Uj=>k_is)
   (case wD=>k_is)
   (case wC=>k_is)
   (case tO=>k_is)
   (case iS=>k_is)
   (case iY=>k_is)
   (case iX=>k_is)
   (case ei=>k_is)
   (case iR=>k_is)
   (case lW=>k_is)
   (case l6=>k_is)
   (case l7=>k_is)
   (case f6=>k_is)
   (case jg=>k_is)
   (case iQ=>k_is)
   (case iT=>k_is)
   (case iZ=>k_is)
   (case ee=>k_is)
   (case fL=>k_is)
   (case iU=>k_is)
   (case iW=>k_is)
   (case i0=>k_is)
   (case eg=>k_is)
   (case iV=>k_is)
   (case hX=>k_is)
   (case ie=>k_is)
   (case ia=>k_is)
   (case dI=>k_is)
   (case fk=>k_is)
   (case h_=>k_is)
   (case ib=>k_is)
   (case ig=>k_is)
   (case dQ=>k_is)
   (case fm=>k_is)
  have eu:=CF.eu
  have gd:=CF.gd
  have eA:=CF.eA
  have eB:=CF.eB
  have dS:=CF.dS
  have dR:=CF.dR
  have T:K42.Tp (L2.eP KX) mg cl:=by
   dsimp only[L2.eP]
   refine' ⟨PySem.W.mg_none_of KX G ?z_enumerate,PySem.W.mg_none_of KX G ?z_range,PySem.W.mg_none_of KX G ?z_len,PySem.W.mg_none_of KX G ?z_tuple,PySem.W.mg_none_of KX G ?z_reversed,PySem.W.mg_none_of KX G ?z_zip,PySem.W.mg_none_of KX G ?z_all,PySem.W.mg_none_of KX G ?z_any,PySem.W.mg_none_of KX G ?z_min,PySem.W.mg_none_of KX G ?z_sorted,PySem.W.mg_none_of KX G ?z_list,PySem.W.mg_none_of KX G ?z_abs,PySem.W.mg_none_of KX G ?z_int,PySem.W.mg_none_of KX G ?z_sum,PySem.W.mg_none_of KX G ?z_max,CF.C_Bench,CF.N_Bench_net,CF.N_Bench_many_inputs,CF.N_Bench_full,CF.N_Bench_in_masks,CF.M_Bench,CF.C_Trial,CF.N_Trial_bench,CF.N_Trial_plain,CF.N_Trial_unsure,CF.M_Trial⟩
   (case z_enumerate=>k_is);(case z_range=>k_is);(case z_len=>k_is);(case z_tuple=>k_is);(case z_reversed=>k_is);(case z_zip=>k_is);(case z_all=>k_is);(case z_any=>k_is);(case z_min=>k_is);(case z_sorted=>k_is);(case z_list=>k_is);(case z_abs=>k_is);(case z_int=>k_is);(case z_sum=>k_is);(case z_max=>k_is)
  obtain⟨fl,fd,Fl,hl⟩:=D_law
  have e0:=RL.symm.trans hl
  cases e0
  refine' ⟨fd,?b,fun base kb nb=>K42.Nf T tJ pj jL qM nE pz tu wx nK tH tw tM eu gd eA eB dS dR zA tq qQ l5 wA l0 kY wy pq lY lX qI px qP qK qS qL lZ nG qR tF pf ph pA Fl⟩
  obtain⟨_,_,_,_,_,_,_,_,_,e,_,_⟩:=Fl.ex
  subst e
  exact fun s u=> .of_eq rfl
