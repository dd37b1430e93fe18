import PyProof.Rows.All
import Wide.All
import OpenK.AllK
import Wide.FinOn
import PyProof.EqAt
import PyProof.EqKinds
import PyProof.TupleCall
import KE.BitLaws
import KE.KDictLaws
import KE.KSortKeySt
import KE.KSortTupG
import PyProof.Rows.SetFrom
import KE.KDictList
import PoMoveRead
import WqatcoSpec
import PyWqatco
import Open.SpecLaws
import KE.OsHead
import KE.OsGo
import PySem.Challenge.RW_mailmoves_s01_answers
set_option Elab.async false
set_option linter.all false
set_option maxRecDepth 100000
set_option maxHeartbeats 4000000
local macro_rules | `(tactic|omega)=>`(tactic|lia)
namespace L2
open PySem PySem.Spec PyProof.Rows
abbrev Key:=Sum Int Str
def Ds:Key→Value→Bool
 | .inl k,v=>Value.isInt k v
 | .inr x,v=>Value.isStrOf x v
def Sv(w:World):Key→Int
 | .inl k=>hashInt k
 | .inr x=>hashStr w x
theorem eY:∀{k:Key}{v:Value},Ds k v=true→(∃i t,k=Sum.inl i∧v=Value.int i t)∨(∃x t,k=Sum.inr x∧v=Value.str x t)
 | .inl i,v,h=>by
  obtain⟨t,e⟩:=Value.isInt_shape (k:=i) (v:=v) h
  exact .inl ⟨i,t,rfl,e⟩
 | .inr x,v,h=>by
  obtain⟨t,e⟩:=Value.isStrOf_shape (x:=x) (v:=v) h
  exact .inr ⟨x,t,rfl,e⟩
theorem Km(i:Int)(t:Tok):Ds (.inl i) (.int i t)=true:=by simp[Ds,Value.isInt]
theorem Kl(x:Str)(t:Tok):Ds (.inr x) (.str x t)=true:=by simp[Ds,Value.isStrOf]
theorem Qz(a b:Int):decide ((Sum.inl a:Key)=Sum.inl b)=(a==b):=by
 by_cases e:a=b
 ·subst e;simp
 ·have h:¬(Sum.inl a:Key)=Sum.inl b:=fun q=>e (Sum.inl.inj q)
  rw[decide_eq_false h]
  exact(beq_eq_false_iff_ne.mpr e).symm
theorem Qw(a b:Str):decide ((Sum.inr a:Key)=Sum.inr b)=decide (a=b):=by
 by_cases e:a=b
 ·subst e;simp
 ·have h:¬(Sum.inr a:Key)=Sum.inr b:=fun q=>e (Sum.inr.inj q)
  rw[decide_eq_false h,decide_eq_false e]
theorem Qy(a:Int)(b:Str):decide ((Sum.inl a:Key)=Sum.inr b)=false:=decide_eq_false (fun q=>nomatch q)
theorem Qx(a:Str)(b:Int):decide ((Sum.inr a:Key)=Sum.inl b)=false:=decide_eq_false (fun q=>nomatch q)
def dE(prog:Program)(w:World):PySem.KeyKind prog w Key where
 is:=Ds
 hash:=Sv w
 inj:=fun v a b ha hb=>by
  rcases eY ha with⟨i,t,rfl,rfl⟩|⟨x,t,rfl,rfl⟩
  ·rcases eY hb with⟨j,u,rfl,e⟩|⟨y,u,rfl,e⟩
   ·injection e with e1 _;rw[e1]
   ·exact nomatch e
  ·rcases eY hb with⟨j,u,rfl,e⟩|⟨y,u,rfl,e⟩
   ·exact nomatch e
   ·injection e with e1 _;rw[e1]
 byValue:=fun k v h=>by
  rcases eY h with⟨i,t,rfl,rfl⟩|⟨x,t,rfl,rfl⟩<;>rfl
 pyHash:=fun hv h=>by
  rcases eY hv with⟨i,t,rfl,rfl⟩|⟨x,t,rfl,rfl⟩
  ·exact wpAny_pyHash_int h
  ·exact wpAny_pyHash_str h
 eqBool:=fun hu hv h=>by
  rcases eY hu with⟨i,t,rfl,rfl⟩|⟨x,t,rfl,rfl⟩
  ·rcases eY hv with⟨j,u,rfl,rfl⟩|⟨y,u,rfl,rfl⟩
   ·rw[Qz]at h;exact wpAny_eqBool_int h
   ·rw[Qy]at h;exact SeqAt.EqAt.int_str i t y u _ _ _ _ h
  ·rcases eY hv with⟨j,u,rfl,rfl⟩|⟨y,u,rfl,rfl⟩
   ·rw[Qx]at h;exact SeqAt.EqAt.str_int x t j u _ _ _ _ h
   ·rw[Qw]at h;exact wpAny_eqBool_str h
 «strs»:=fun k x t v h=>by
  rcases eY h with⟨i,u,rfl,e⟩|⟨y,u,rfl,e⟩
  ·exact nomatch e
  ·injection e with e1 _
   subst e1
   cases v<;>rfl
theorem FZ(prog:Program)(w:World)(i:Int)(t:Tok):(dE prog w).is (.inl i) (.int i t)=true:=Km i t
theorem FY(prog:Program)(w:World)(x:Str)(t:Tok):(dE prog w).is (.inr x) (.str x t)=true:=Kl x t
end L2
namespace L2
open PySem PySem.Spec PyProof.Rows
inductive V where
 |non |bl (b:Bool)|int (i:Int)|str (x:Str)|Cp (b:Array UInt8)|flt (b:UInt64)|ref (a:Addr)|ty (n:String)
 deriving DecidableEq
def RelV:V→Value→Prop
 | .non,u=>u=Value.none
 | .bl b,u=>u=Value.bool b
 | .int i,u=>∃t,u=Value.int i t
 | .str x,u=>∃t,u=Value.str x t
 | .Cp b,u=>∃t,u=Value.bytes b t
 | .flt b,u=>∃t,u=Value.float b t
 | .ref a,u=>u=Value.ref a
 | .ty n,u=>u=Value.type n
abbrev Vals:List V→List Value→Prop:=Paired RelV
theorem Vals.length{xs:List V}{us:List Value}(r:Vals xs us):xs.length=us.length:=Paired.length r
theorem Vals.get:∀{xs:List V}{us:List Value}{i:Nat}{x:V},Vals xs us→xs[i]? =some x→∃u,us[i]? =some u∧RelV x u
 |_,_,_,_,.nil,e=>by simp at e
 |_,_,0,_,.cons r _,e=>by simp at e;subst e;exact⟨_,rfl,r⟩
 |_,_,i+1,x,.cons _ t,e=>by
  obtain⟨u,h1,h2⟩:=Vals.get (i:=i) (x:=x) t (by simpa using e)
  exact⟨u,by simpa using h1,h2⟩
theorem Vals.set{x:V}{u:Value}(r:RelV x u):∀{xs:List V}{us:List Value}(i:Nat),Vals xs us→Vals (xs.set i x) (us.set i u)
 |_,_,_,.nil=>.nil
 |_,_,0,.cons _ t=>.cons r t
 |_,_,i+1,.cons q t=>.cons q (Vals.set r i t)
theorem Vals.append:∀{xs ys:List V}{us ws:List Value},Vals xs us→Vals ys ws→Vals (xs++ys) (us++ws)
 |_,_,_,_,.nil,s=>s
 |_,_,_,_,.cons r t,s=>.cons r (Vals.append t s)
theorem Vals.take:∀{xs:List V}{us:List Value}(n:Nat),Vals xs us→Vals (xs.take n) (us.take n)
 |_,_,0,_=>.nil
 |_,_,_+1,.nil=>.nil
 |_,_,n+1,.cons r t=>.cons r (Vals.take n t)
theorem Vals.drop:∀{xs:List V}{us:List Value}(n:Nat),Vals xs us→Vals (xs.drop n) (us.drop n)
 |_,_,0,r=>r
 |_,_,_+1,.nil=>.nil
 |_,_,n+1,.cons _ t=>Vals.drop n t
def m9:Option V→Option Value→Prop
 |some v,some u=>RelV v u
 |none,none=>True
 |_,_=>False
def KV{κ:Type}:List (κ×V)→List (κ×Value)→Prop:=Paired fun(p:κ×V)(q:κ×Value)=>p.1=q.1∧RelV p.2 q.2
def kV:Key→V
 | .inl i=>.int i
 | .inr x=>.str x
inductive HO where
 |lst (xs:List V)
 |tup (xs:List V)
 |dK (kvs:List (Key×V))|dT (kvs:List (List Key×V))
 |set (S:Int→Bool) (n:Nat)
 |ins (C dx:Addr) (fs:List (Str×V))
 |own (x:Addr)
 |xd (fs:List (Str×V))
 |met (f x:Addr)
 |rng (lo hi:Int)
 |Dv (o:Obj) (u:HO)
 |O8 (ps:Array Value)
 |ext (φ:Heap→Prop)
abbrev Hp:=Addr→Option HO
def upd(H:Hp)(a:Addr)(o:HO):Hp:=fun b=>if b=a then some o else H b
theorem aj{H:Hp}{a:Addr}{o:HO}:upd H a o a=some o:=by unfold upd;rw[if_pos rfl]
theorem aq{H:Hp}{a b:Addr}{o:HO}(h:b≠a):upd H a o b=H b:=by unfold upd;rw[if_neg h]
theorem aG{H:Hp}{a:Addr}{o u:HO}:upd (upd H a o) a u=upd H a u:=by
 funext b;unfold upd;split<;>rfl
theorem cO{H:Hp}{a b:Addr}{o u:HO}(h:H a=some o)(h':H b=some u)(d:o≠u):a≠b:=by
 intro e;subst e;rw[h]at h';exact d (Option.some.inj h')
theorem aD{H:Hp}{a b:Addr}{o:HO}(h:H a=some o)(h':H b=none):a≠b:=by
 intro e;subst e;rw[h]at h';cases h'
section
variable(P:Program)(w:World)
def cM(H:Hp)(h:Heap)(a:Addr):HO→Prop
 | .lst xs=>xs.length≤sizeLine∧∃(its:List Value)(n:Nat),Vals xs its∧h.get? a=some { cls:=.type "list",data:=.seq its.toArray n }
 | .tup xs=>xs.length≤sizeLine∧∃its:List Value,Vals xs its∧IsTup h a its.toArray
 | .dK kvs=>kvs.length≤sizeLine∧(a==sysModules)=false∧∃vs,KV kvs vs∧h.DictOf (dE P w) a vs
 | .dT kvs=>kvs.length≤sizeLine∧(a==sysModules)=false∧∃xs:List (List Key×Addr×Value),
   Paired (fun(p:List Key×V)(q:List Key×Addr×Value)=>p.1=q.1∧H q.2.1=some (.tup (p.1.map kV))∧RelV p.2 q.2.2) kvs xs∧
   ∃o es ep,h.get? a=some o∧o.ExactDict∧o.data= .dict es ep∧es.toList=xs.map (entryOfKey (tupleKind (dE P w)))∧(xs.map (·.1)).Nodup
 | .set S n=>h.SetOf (intKind P w) a S n
 | .ins C dx fs=>H dx=some (.own a)∧fs.length≤1000∧dx≠a∧h.get? a=some (PySem.W.instObj C dx)∧
   ∃mA,h.Ns1 dx mA∧(∀f,m9 (fs.lookup f) (mA f))∧PySem.Within mA (fs.map (·.1))
 | .own _=>∃o,h.get? a=some o
 | .xd fs=>∃mA,h.Ns1 a mA∧∀f,m9 (fs.lookup f) (mA f)
 | .rng lo hi=>∃t u v,h.get? a=some { cls:=.type "range",data:=.fields #[.int lo t,.int hi u,.int 1 v] }
 | .Dv o u=>h.get? a=some o∧cM H h a u
 | .O8 ps=>h.get? a=some { cls:=.none,data:=.fields ps }
 | .met f x=>h.get? a=some (PySem.W.methodObj (.ref f) (.ref x))
 | .ext φ=>φ h∧(∃o,h.get? a=some o)∧∀h1 h2:Heap,φ h1→(∀o,h1.get? a=some o→h2.get? a=some o)→φ h2
def tL(H:Hp)(h:Heap):Prop:=∀a o,H a=some o→cM P w H h a o
end
section
variable{P:Program}{w:World}{H H':Hp}{h h':Heap}{a:Addr}{o:HO}
theorem cM.lt(x:cM P w H h a o):a<h.objs.size:=by
 cases o with
 |lst xs=>obtain⟨_,_,_,_,e⟩:=x;exact Heap.lt_size e
 |tup xs=>obtain⟨_,_,_,p⟩:=x;exact p.lt
 |dK kvs=>obtain⟨_,_,_,_,o,_,_,e,_⟩:=x;exact Heap.lt_size e
 |dT kvs=>obtain⟨_,_,_,_,o,_,_,e,_⟩:=x;exact Heap.lt_size e
 |set S n=>obtain⟨o,_,_,_,e,_⟩:=x;exact Heap.lt_size e
 |ins C dx fs=>obtain⟨_,_,_,e,_⟩:=x;exact Heap.lt_size e
 |own y=>obtain⟨_,e⟩:=x;exact Heap.lt_size e
 |xd fs=>obtain⟨_,⟨_,_,_,e,_⟩,_⟩:=x;exact Heap.lt_size e
 |rng lo hi=>obtain⟨_,_,_,e⟩:=x;exact Heap.lt_size e
 |Dv ob u=>obtain⟨e,_⟩:=x;exact Heap.lt_size e
 |O8 ps=>exact Heap.lt_size (show h.get? a=some _ from x)
 |met f y=>exact Heap.lt_size (show h.get? a=some _ from x)
 |ext φ=>obtain⟨_,⟨_,e⟩,_⟩:=x;exact Heap.lt_size e
theorem Paired.Qt{α β:Type}{F G:α→β→Prop}:∀{l₁:List α}{l₂:List β},Paired F l₁ l₂→(∀a b,F a b→G a b)→Paired G l₁ l₂
 |_,_,.nil,_=>.nil
 |_,_,.cons r t,f=>.cons (f _ _ r) (Paired.Qt t f)
theorem cM.stay(x:cM P w H h a o)(k:∀b u,(b=a∨H b=some (.own a))→h.get? b=some u→h'.get? b=some u)
  (ho:∀b,H b=some (.own a)→H' b=some (.own a)) (ht:∀b xs,H b=some (.tup xs)→H' b=some (.tup xs)):cM P w H' h' a o:=by
 induction o with
 |lst xs=>obtain⟨z,its,n,r,e⟩:=x;exact⟨z,its,n,r,k _ _ (.inl rfl) e⟩
 |tup xs=>obtain⟨z,its,r,ob,e,c⟩:=x;exact⟨z,its,r,ob,k _ _ (.inl rfl) e,c⟩
 |dK kvs=>obtain⟨z,y,vs,r,ob,es,ep,e,c⟩:=x;exact⟨z,y,vs,r,ob,es,ep,k _ _ (.inl rfl) e,c⟩
 |dT kvs=>
  obtain⟨z,y,xs,r,ob,es,ep,e,c⟩:=x
  exact⟨z,y,xs,Paired.Qt r fun p q z=>⟨z.1,ht _ _ z.2.1,z.2.2⟩,ob,es,ep,k _ _ (.inl rfl) e,c⟩
 |set S n=>obtain⟨ob,es,ep,t,e,c⟩:=x;exact⟨ob,es,ep,t,k _ _ (.inl rfl) e,c⟩
 |ins C dx fs=>
  obtain⟨d,z,ne,e,mA,⟨od,es,ep,e2,c⟩,r⟩:=x
  exact⟨ho _ d,z,ne,k _ _ (.inl rfl) e,mA,⟨od,es,ep,k _ _ (.inr d) e2,c⟩,r⟩
 |own y=>obtain⟨ob,e⟩:=x;exact⟨ob,k _ _ (.inl rfl) e⟩
 |xd fs=>obtain⟨mA,⟨od,es,ep,e,c⟩,r⟩:=x;exact⟨mA,⟨od,es,ep,k _ _ (.inl rfl) e,c⟩,r⟩
 |rng lo hi=>obtain⟨t,u,v,e⟩:=x;exact⟨t,u,v,k _ _ (.inl rfl) e⟩
 |Dv ob u ih=>obtain⟨e,q⟩:=x;exact⟨k _ _ (.inl rfl) e,ih q⟩
 |O8 ps=>
  have e:h.get? a=some { cls:=.none,data:=.fields ps }:=x
  show h'.get? a=some { cls:=.none,data:=.fields ps }
  exact k a _ (.inl rfl) e
 |met f y=>
  have e:h.get? a=some (PySem.W.methodObj (.ref f) (.ref y)):=x
  show h'.get? a=some (PySem.W.methodObj (.ref f) (.ref y))
  exact k a _ (.inl rfl) e
 |ext φ=>obtain⟨p,⟨o,e⟩,st⟩:=x;exact⟨st _ _ p fun o q=>k _ _ (.inl rfl) q,⟨o,k _ _ (.inl rfl) e⟩,st⟩
theorem tL.lt(x:tL P w H h)(e:H a=some o):a<h.objs.size:=(x a o e).lt
theorem tL.fresh(x:tL P w H h)(e:h.objs.size≤a):H a=none:=by
 cases q:H a with
 |none=>rfl
 |some u=>exact absurd (Nat.lt_of_lt_of_le (x.lt q) e) (Nat.lt_irrefl _)
theorem tL.kept(x:tL P w H h)(k:∀b u,h.get? b=some u→h'.get? b=some u):tL P w H h':=fun a o e=>
 (x a o e).stay (fun b u _ q=>k b u q) (fun _ q=>q) fun _ _ q=>q
theorem tL.laid(x:tL P w H h)(k:∀b u,h.get? b=some u→h'.get? b=some u)(hp:h.objs.size≤a)(new:cM P w (upd H a o) h' a o):tL P w (upd H a o) h':=fun b u e=>by
 have hn:=x.fresh hp
 by_cases hb:b=a
 ·subst hb;rw[aj]at e;cases e;exact new
 ·rw[aq hb]at e
  exact(x b u e).stay (fun c v _ q=>k c v q) (fun c q=>by rw[aq (aD q hn)];exact q) fun c xs q=>by rw[aq (aD q hn)];exact q
end
def Rd(H:Hp)(a:Addr)(u:HO):Prop:=H a=some u∨∃o,H a=some (.Dv o u)
theorem Rd.ok{P:Program}{w:World}{H:Hp}{h:Heap}{a:Addr}{u:HO}(r:Rd H a u)(x:tL P w H h):cM P w H h a u:=by
 rcases r with r |⟨o,r⟩
 ·exact x a u r
 ·obtain⟨_,q⟩:=x a _ r
  exact q
def RQ:Option HO→Prop
 |some (.lst _)=>True
 |some (.dK _)=>True
 |some (.dT _)=>True
 |some (.set _ _)=>True
 |some (.ins _ _ _)=>True
 |some (.ext _)=>True
 |_=>False
section
variable{P:Program}{w:World}{H:Hp}{h h':Heap}{x e:Addr}{o':HO}
theorem tL.write(ok:tL P w H h)(mu:RQ (H x))(he:e=x∨H e=some (.own x))(k:∀b u,b≠e→h.get? b=some u→h'.get? b=some u)(heo:∃u,h'.get? e=some u)
  (new:cM P w (upd H x o') h' x o'):tL P w (upd H x o') h':=fun b u q=>by
 have nown:∀c y,H c=some (.own y)→c≠x:=fun c y r z=>by subst z;rw[r]at mu;exact mu
 have ntup:∀c xs,H c=some (.tup xs)→c≠x:=fun c xs r z=>by subst z;rw[r]at mu;exact mu
 by_cases hb:b=x
 ·subst hb;rw[aj]at q;cases q;exact new
 ·rw[aq hb]at q
  by_cases hbe:b=e
  ·have q':H b=some (.own x):=by
    rcases he with z |z
    ·exact absurd (hbe.trans z) hb
    ·rw[hbe];exact z
   rw[q]at q';cases q'
   obtain⟨v,hv⟩:=heo
   exact⟨v,by rw[hbe];exact hv⟩
  ·refine(ok b u q).stay (fun c v hc r=>k c v ?_ r) (fun c r=>by rw[aq (nown c b r)];exact r) fun c xs r=>by rw[aq (ntup c xs r)];exact r
   rcases hc with rfl |hc
   ·exact hbe
   ·rintro rfl
    rcases he with z |z
    ·exact nown c b hc z
    ·rw[hc]at z;cases z;exact hb rfl
end
structure Un(fs ex:List Addr)(H H':Hp)(h h':Heap):Prop where
 keep:∀b o,h.get? b=some o→H b=none→b∉fs→b∉ex→h'.get? b=some o
 slot:∀b o,h.get? b=some o→H b=none→b∈fs→b∉ex→∃sl,h'.get? b=some { o with slots:=sl }
 free:∀b o,h.get? b=some o→H b=none→b∉ex→H' b=none
 there:∀b o,h.get? b=some o→b∉ex→∃o',h'.get? b=some o'
 tups:∀b xs,H b=some (.tup xs)→H' b=some (.tup xs)
 u5:∀b o u,H b=some (.Dv o u)→H' b=some (.Dv o u)
 vS:∀b ps,H b=some (.O8 ps)→∃more,H' b=some (.O8 (ps++more))
section
variable{fs fs' ex ex':List Addr}{H H1 H2:Hp}{h h1 h2 h':Heap}{a x e:Addr}{o:HO}
theorem Un.any(u:Un fs ex H H1 h h1){b:Addr}{ob:Obj}(q:h.get? b=some ob)(n:H b=none)(hx:b∉ex):∃sl,h1.get? b=some { ob with slots:=sl }:=by
 by_cases hb:b∈fs
 ·exact u.slot b ob q n hb hx
 ·exact⟨ob.slots,u.keep b ob q n hb hx⟩
theorem Un.trans(a:Un fs ex H H1 h h1)(b:Un fs ex H1 H2 h1 h2):Un fs ex H H2 h h2 where
 keep:=fun c ob q n hc hx=>b.keep c ob (a.keep c ob q n hc hx) (a.free c ob q n hx) hc hx
 slot:=fun c ob q n hc hx=>by
  obtain⟨sl,e1⟩:=a.slot c ob q n hc hx
  obtain⟨sl',e2⟩:=b.slot c _ e1 (a.free c ob q n hx) hc hx
  exact⟨sl',e2⟩
 free:=fun c ob q n hx=>by
  obtain⟨o',e1⟩:=a.there c ob q hx
  exact b.free c o' e1 (a.free c ob q n hx) hx
 there:=fun c ob q hx=>by
  obtain⟨o',e1⟩:=a.there c ob q hx
  exact b.there c o' e1 hx
 tups:=fun c xs q=>b.tups c xs (a.tups c xs q)
 u5:=fun c ob xs q=>b.u5 c ob xs (a.u5 c ob xs q)
 vS:=fun c ps q=>by
  obtain⟨m1,e1⟩:=a.vS c ps q
  obtain⟨m2,e2⟩:=b.vS c _ e1
  exact⟨m1++m2,by rw[e2,Array.append_assoc]⟩
theorem Un.kept(k:∀b u,h.get? b=some u→h'.get? b=some u):Un fs ex H H h h':=
 ⟨fun b ob q _ _ _=>k b ob q,fun b ob q _ _ _=>⟨ob.slots,k b ob q⟩,fun _ _ _ n _=>n,fun b ob q _=>⟨ob,k b ob q⟩,fun _ _ q=>q,fun _ _ _ q=>q,fun _ ps q=>⟨#[],by rw[q];simp⟩⟩
theorem Un.refl:Un fs ex H H h h:=Un.kept fun _ _ q=>q
theorem Un.laid(k:∀b u,h.get? b=some u→h'.get? b=some u)(hp:h.objs.size≤a)(hn:H a=none):Un fs ex H (upd H a o) h h' where
 keep:=fun b u q _ _ _=>k b u q
 slot:=fun b u q _ _ _=>⟨u.slots,k b u q⟩
 free:=fun b u q n _=>by rw[aq (Nat.ne_of_lt (Nat.lt_of_lt_of_le (Heap.lt_size q) hp))];exact n
 there:=fun b u q _=>⟨u,k b u q⟩
 tups:=fun b xs q=>by rw[aq (aD q hn)];exact q
 u5:=fun b u xs q=>by rw[aq (aD q hn)];exact q
 vS:=fun b ps q=>⟨#[],by rw[aq (aD q hn),q];simp⟩
theorem Un.write(mu:RQ (H x))(he:e=x∨H e=some (.own x))(k:∀b u,b≠e→h.get? b=some u→h'.get? b=some u)(heo:∃u,h'.get? e=some u):Un fs ex H (upd H x o) h h':=by
 have hx:∀b,H b=none→b≠x:=fun b n z=>by subst z;rw[n]at mu;exact mu
 have hb:∀b,H b=none→b≠e:=fun b n z=>by
  subst z
  rcases he with r |r
  ·exact hx b n r
  ·rw[n]at r;cases r
 have hm:∀b u,H b=some u→¬RQ (some u)→b≠x:=fun b u q nm z=>by subst z;rw[q]at mu;exact nm mu
 refine⟨fun b u q n _ _=>k b u (hb b n) q,fun b u q n _ _=>⟨u.slots,k b u (hb b n) q⟩,fun b u q n _=>by rw[aq (hx b n)];exact n,fun b u q _=> ?_,
  fun b xs q=>by rw[aq (hm b _ q fun z=>z)];exact q,fun b u xs q=>by rw[aq (hm b _ q fun z=>z)];exact q,fun b ps q=>⟨#[],by rw[aq (hm b _ q fun z=>z),q];simp⟩⟩
 by_cases hbe:b=e
 ·subst hbe;exact heo
 ·exact⟨u,k b u hbe q⟩
end
def RV(h:Heap)(H:Hp):List Addr:=(List.range h.objs.size).filter fun a=>(H a).isSome
def EB(h:Heap)(H:Hp):Heap:=PySem.W.hideAll h (RV h H)
theorem Kq(h:Heap)(H:Hp):(EB h H).objs.size=h.objs.size:=PySem.W.hideAll_size _ _
theorem M0{h:Heap}{H:Hp}{b:Addr}{o:Obj}(e:h.get? b=some o)(n:H b=none):(EB h H).get? b=some o:=
 PySem.W.hideAll_get _ e fun hm=>by
  have q:(H b).isSome=true:=(List.mem_filter.mp hm).2
  rw[n]at q;simp at q
theorem Ol{h:Heap}{H:Hp}{b:Addr}{o:Obj}(e:(EB h H).get? b=some o):h.get? b=some o∧H b=none:=by
 have e':h.get? b=some o:=PySem.W.of_hideAll (RV h H) e
 refine⟨e',?_⟩
 cases q:H b with
 |none=>rfl
 |some x=>
  have hm:b∈RV h H:=List.mem_filter.mpr ⟨List.mem_range.mpr (Heap.lt_size e'),by simp[q]⟩
  have z:(EB h H).get? b=none:=PySem.W.hideAll_none (RV h H) hm
  rw[z]at e;cases e
def OS(g h:Heap)(L:Addr):List (Addr×Obj):=(List.range h.objs.size).filterMap fun a=>if a=L∨(g.get? a).isSome=true then none else(h.get? a).map fun o=>(a,o)
def rest(g h:Heap)(L d:Addr):List (Addr×Obj):=(OS g h L).filter fun p=>decide (p.1≠d)
end L2
namespace L2
open PySem PySem.Spec PyProof.Rows
structure Mod(K:PySem.W.Frag)(mg:Str→Option Value)(base:Heap):Prop where
 MQ:K.In base
 glob:base.Ns mainGlobals mg
 blt:∃mb,base.Ns builtinsNs mb∧∀x:Str,x≠"__name__"→mb x=bootBuiltins x
 nolimit:base.NoLimit
structure Cx where
 prog:Program
 w:World
 K:PySem.W.Frag
 mg:Str→Option Value
 base:Heap
 A:Around
 N:List Str
 s_0:Shared
 QQ:Hp
 env:Env
 outer:List Env
 stack:List Env
 ex:List Addr
 fn:Str→Bool
 calm:Bool
 pn:List (Addr×Obj)
 xe:Value→Shared→Prop
def frs(l:List Env):List Addr:=l.filterMap (·.frame)
abbrev Cx.fs(X:Cx):List Addr:=frs X.outer
def QW(sc:Scope)(x:Str):Prop:=sc.names.lookup x=some .local∨sc.names.lookup x=some .cell∨sc.names.lookup x=some .free
def Loc(sc:Scope)(x:Str):Prop:=sc.names.lookup x=some .local∨sc.names.lookup x=some .cell
def Look(env:Env)(h:Heap)(m:Str→Option Value)(x:Str)(u:Value):Prop:=
 (env.kindOf x=some .local∧m x=some u)∨((env.kindOf x=some .cell∨env.kindOf x=some .free)∧∃c,env.cells.lookup x=some c∧h.IsCell c (some u))
structure Cx.Ok(X:Cx):Prop where
 mod:Mod X.K X.mg X.base
 kind:X.env.scope.kind= .function
 glob:X.env.globals=mainGlobals
 blt:X.env.builtins=builtinsNs
 above:X.s_0.heap.objs.size≤X.env.locals
 inj:∀x y c,X.env.cells.lookup x=some c→X.env.cells.lookup y=some c→x=y
 has:∀x,(X.env.kindOf x=some .cell∨X.env.kindOf x=some .free)→∃c,X.env.cells.lookup x=some c
 cab:∀x c,X.fn x=true→X.env.cells.lookup x=some c→X.s_0.heap.objs.size≤c
 hd:X.calm=true→X.A.handled=none
 frames:X.A.frames=some X.stack
 stk:X.stack=X.outer∨(X.stack=X.env::X.outer∧X.env.frame=some X.env.locals)
 OH:∀b∈X.ex,b≠X.env.locals∧∀x c,X.env.cells.lookup x=some c→c≠b
 bs:∀b o,X.base.get? b=some o→X.s_0.heap.get? b=some o∧X.QQ b=none
 EZ:X.base.objs.size≤X.s_0.heap.objs.size
 Cz:∀b o,X.base.get? b=some o→b∉X.ex
 CD:∀b∈X.ex,b∉X.fs
 qU:X.s_0.heap.FunFrames X.base X.outer
 Gy:∀b∈X.fs,X.QQ b=none
structure Inv(X:Cx)(pins:List (Addr×Obj))(σ:List (Option V))(H:Hp)(s:Shared):Prop where
 ok:X.Ok
 os:s.os=X.s_0.os
 bare:AllBare s.gens
 base:Un X.fs X.ex X.QQ H X.s_0.heap s.heap
 loc:∃m,s.heap.Ns X.env.locals m∧∀(i:Nat)(x:Str)(v:V),X.N[i]? =some x→σ[i]? =some (some v)→QW X.env.scope x→∃u,RelV v u∧Look X.env s.heap m x u
 cell:∀x c,X.env.cells.lookup x=some c→∃v,s.heap.IsCell c v
 free:H X.env.locals=none
 jU:∀x c,X.env.cells.lookup x=some c→H c=none
 pin:∀p∈X.pn++pins,s.heap.get? p.1=some p.2∧H p.1=none∧p.1≠X.env.locals∧p.1∉X.fs∧∀v,p.2.data≠.cell v
 hok:tL X.prog X.w H s.heap
 len:σ.length=X.N.length
section
variable{X:Cx}{pins:List (Addr×Obj)}{σ:List (Option V)}{H H':Hp}{s:Shared}{h':Heap}
theorem Cx.Ok.Sl(ok:X.Ok){b:Addr}{o:Obj}(e:X.base.get? b=some o):b∉X.fs:=fun hb=>by
 have:=(ok.qU.mem hb).1
 rw[e]at this;cases this
theorem Inv.bs(I:Inv X pins σ H s):∀b o,X.base.get? b=some o→s.heap.get? b=some o∧H b=none:=fun b o e=>
 ⟨I.base.keep b o (I.ok.bs b o e).1 (I.ok.bs b o e).2 (I.ok.Sl e) (I.ok.Cz b o e),I.base.free b o (I.ok.bs b o e).1 (I.ok.bs b o e).2 (I.ok.Cz b o e)⟩
theorem Inv.bk(I:Inv X pins σ H s):∀b o,X.base.get? b=some o→s.heap.get? b=some o:=fun b o e=>(I.bs b o e).1
theorem Inv.mod(I:Inv X pins σ H s):Mod X.K X.mg X.base:=I.ok.mod
theorem Inv.vZ(I:Inv X pins σ H s):X.K.In s.heap:=I.ok.mod.MQ.keeps I.bk
theorem Inv.fr(I:Inv X pins σ H s):∃m,Fr X.base X.env.locals s.heap m:=
 let ⟨m,hn,_⟩:=I.loc
 ⟨m,hn,I.bk,Nat.le_trans I.ok.EZ I.ok.above⟩
theorem Inv.lt(I:Inv X pins σ H s):X.env.locals<s.heap.objs.size:=let ⟨_,hn,_⟩:=I.loc;hn.lt
theorem Inv.sz(I:Inv X pins σ H s):X.s_0.heap.objs.size≤s.heap.objs.size:=Nat.le_trans I.ok.above (Nat.le_of_lt I.lt)
theorem Inv.Si(I:Inv X pins σ H s){a:Addr}(h:s.heap.objs.size≤a):a∉X.fs:=fun hb=>by
 obtain⟨_,o,ho,_⟩:=I.ok.qU.mem hb
 exact absurd (Nat.lt_of_lt_of_le (Heap.lt_size ho) (Nat.le_trans I.sz h)) (Nat.lt_irrefl _)
theorem Inv.P7(I:Inv X pins σ H s):∀x c,X.env.cells.lookup x=some c→c≠X.env.locals:=fun x c e z=>by
 obtain⟨v,o,ho,hd⟩:=I.cell x c e
 obtain⟨m,⟨o',es,ep,ho',hd',_⟩,_⟩:=I.loc
 rw[z,ho']at ho;cases ho;rw[hd']at hd;cases hd
theorem Inv.qU(I:Inv X pins σ H s):s.heap.FunFrames X.base X.outer:=by
 have all:∀(l:List Env),(∀b∈frs l,b∈X.fs)→X.s_0.heap.FunFrames X.base l→s.heap.FunFrames X.base l:=by
  intro l
  induction l with
  |nil=>intro _ _;trivial
  |cons env r ih=>
   intro hs hl
   obtain⟨hk,⟨L,o,hf,hn,ho,hd⟩,hr⟩:=hl
   have hL:L∈X.fs:=hs L (by unfold frs;rw[List.filterMap_cons,hf];exact List.mem_cons_self)
   obtain⟨sl,e⟩:=I.base.slot L o ho (I.ok.Gy L hL) hL fun z=>I.ok.CD L z hL
   exact⟨hk,⟨L,_,hf,hn,e,hd⟩,ih (fun b hb=>hs b (by unfold frs;rw[List.filterMap_cons,hf];exact List.mem_cons_of_mem _ hb)) hr⟩
 exact all X.outer (fun _ hb=>hb) I.ok.qU
theorem Inv.stack(I:Inv X pins σ H s):s.heap.FunFrames X.base X.stack:=by
 rcases I.ok.stk with e |⟨e,hf⟩
 ·rw[e];exact I.qU
 ·rw[e]
  obtain⟨m,hn,_⟩:=I.loc
  refine .cons (by rw[I.ok.kind];decide) hf hn ?_ I.qU
  exact Heap.get?_none_of_le (Nat.le_trans I.ok.EZ I.ok.above)
theorem Inv.AJ(I:Inv X pins σ H s):∀b∈frs X.stack,b∈X.env.locals::X.fs:=fun b hb=>by
 rcases I.ok.stk with e |⟨e,hf⟩
 ·rw[e]at hb;exact List.mem_cons_of_mem _ hb
 ·rw[e]at hb
  unfold frs at hb
  rw[List.filterMap_cons,hf]at hb
  exact hb
theorem Inv.DU(I:Inv X pins σ H s):∀b∈frs X.stack,H b=none:=fun b hb=>by
 rcases List.mem_cons.mp (I.AJ b hb)with e |hb
 ·rw[e];exact I.free
 ·obtain⟨_,o,ho,_⟩:=I.ok.qU.mem hb
  exact I.base.free b o ho (I.ok.Gy b hb) fun z=>I.ok.CD b z hb
theorem Inv.step{g':Array GenState}{t':Nat}{d':Drawn}{ch:List Addr}(I:Inv X pins σ H s)
  (hch:∀b∈ch,(b∈X.ex∨X.s_0.heap.objs.size≤b)∧b≠X.env.locals∧(∀x c,X.env.cells.lookup x=some c→c≠b)∧∀p∈X.pn++pins,p.1≠b)
  (keep:∀b o,b≠X.env.locals→b∉X.fs→b∉ch→s.heap.get? b=some o→H b=none→h'.get? b=some o)
  (slot:∀b o,b≠X.env.locals→b∈X.fs→b∉ch→s.heap.get? b=some o→H b=none→∃sl,h'.get? b=some { o with slots:=sl }) (free:∀b o,b∉ch→s.heap.get? b=some o→H b=none→H' b=none)
  (there:∀b o,b∉ch→s.heap.get? b=some o→∃o',h'.get? b=some o')
  (tups:∀b xs,H b=some (.tup xs)→H' b=some (.tup xs)) (u5:∀b o u,H b=some (.Dv o u)→H' b=some (.Dv o u)) (vS:∀b ps,H b=some (.O8 ps)→∃more,H' b=some (.O8 (ps++more)))
  (ns:∀m,s.heap.Ns X.env.locals m→h'.Ns X.env.locals m) (hok:tL X.prog X.w H' h') (hg:AllBare g'):
  Inv X pins σ H' { s with heap:=h',gens:=g',drawn:=d',toks:=t' }:=by
 have neL:∀b o,X.s_0.heap.get? b=some o→b≠X.env.locals:=fun b o e=>Nat.ne_of_lt (Nat.lt_of_lt_of_le (Heap.lt_size e) I.ok.above)
 have neC:∀b o,X.s_0.heap.get? b=some o→b∉X.ex→b∉ch:=fun b o e hx hb=>by
  rcases(hch b hb).1 with z |z
  ·exact hx z
  ·exact absurd (Nat.lt_of_lt_of_le (Heap.lt_size e) z) (Nat.lt_irrefl _)
 have cellK:∀x c,X.env.cells.lookup x=some c→∀v,s.heap.IsCell c v→h'.IsCell c v:=fun x c e v ⟨o,ho,hd⟩=>by
  have PZ:c∉ch:=fun z=>(hch c z).2.2.1 x c e rfl
  by_cases hc:c∈X.fs
  ·obtain⟨sl,q⟩:=slot c o (I.P7 x c e) hc PZ ho (I.jU x c e)
   exact⟨_,q,hd⟩
  ·exact⟨o,keep c o (I.P7 x c e) hc PZ ho (I.jU x c e),hd⟩
 refine⟨I.ok,I.os,hg,⟨fun b o e n hb hx=> ?_,fun b o e n hb hx=> ?_,fun b o e n hx=> ?_,fun b o e hx=> ?_,fun b xs e=>tups b xs (I.base.tups b xs e),fun b o xs e=>u5 b o xs (I.base.u5 b o xs e),fun b ps e=> ?_⟩,?_,fun x c e=> ?_,?_,fun x c e=> ?_,fun p hp=> ?_,hok,I.len⟩
 ·exact keep b o (neL b o e) hb (neC b o e hx) (I.base.keep b o e n hb hx) (I.base.free b o e n hx)
 ·obtain⟨sl,e1⟩:=I.base.slot b o e n hb hx
  obtain⟨sl',e2⟩:=slot b _ (neL b o e) hb (neC b o e hx) e1 (I.base.free b o e n hx)
  exact⟨sl',e2⟩
 ·obtain⟨o',e1⟩:=I.base.there b o e hx
  exact free b o' (neC b o e hx) e1 (I.base.free b o e n hx)
 ·obtain⟨o',e1⟩:=I.base.there b o e hx
  exact there b o' (neC b o e hx) e1
 ·obtain⟨m1,e1⟩:=I.base.vS b ps e
  obtain⟨m2,e2⟩:=vS b _ e1
  exact⟨m1++m2,by rw[e2,Array.append_assoc]⟩
 ·obtain⟨m,hn,hl⟩:=I.loc
  refine⟨m,ns m hn,fun i x v e1 e2 e3=> ?_⟩
  obtain⟨u,r,l⟩:=hl i x v e1 e2 e3
  refine⟨u,r,?_⟩
  rcases l with l |⟨k,c,e,z⟩
  ·exact .inl l
  ·exact .inr ⟨k,c,e,cellK x c e _ z⟩
 ·obtain⟨v,z⟩:=I.cell x c e
  exact⟨v,cellK x c e v z⟩
 ·obtain⟨m,⟨o,_,_,ho,_⟩,_⟩:=I.loc
  exact free _ o (fun z=>(hch _ z).2.1 rfl) ho I.free
 ·obtain⟨v,o,ho,hd⟩:=I.cell x c e
  exact free c o (fun z=>(hch c z).2.2.1 x c e rfl) ho (I.jU x c e)
 ·obtain⟨e,n,ne,nf,d⟩:=I.pin p hp
  have PZ:p.1∉ch:=fun z=>(hch p.1 z).2.2.2 p hp rfl
  exact⟨keep p.1 p.2 ne nf PZ e n,free p.1 p.2 PZ e n,ne,nf,d⟩
theorem Inv.un{t':Nat}(I:Inv X pins σ H s)(u:Un X.fs [] H H' s.heap h')(hok:tL X.prog X.w H' h'):Inv X pins σ H' { s with heap:=h',toks:=t' }:=by
 obtain⟨m,⟨o,es,ep,ho,r⟩,_⟩:=id I.loc
 obtain⟨sl,hL⟩:=u.any ho I.free (by simp)
 exact I.step (g':=s.gens) (d':=s.drawn) (ch:=[]) (fun _ z=>nomatch z) (fun b o _ hb _ e n=>u.keep b o e n hb (by simp)) (fun b o _ hb _ e n=>u.slot b o e n hb (by simp)) (fun b o _ e n=>u.free b o e n (by simp)) (fun b o _ e=>u.there b o e (by simp)) u.tups u.u5 u.vS (fun m' hm=>by
  obtain⟨o',es',ep',ho',r'⟩:=hm
  rw[ho]at ho';cases ho'
  exact⟨_,es',ep',hL,r'⟩) hok I.bare
theorem Inv.call{g':Array GenState}{t':Nat}{d':Drawn}{ch:List Addr}(I:Inv X pins σ H s)(u:Un (frs X.stack) ch H H' s.heap h')(hok:tL X.prog X.w H' h')(hg:AllBare g')
  (hch:∀b∈ch,(b∈X.ex∨X.s_0.heap.objs.size≤b)∧b≠X.env.locals∧(∀x c,X.env.cells.lookup x=some c→c≠b)∧∀p∈X.pn++pins,p.1≠b):
  Inv X pins σ H' { s with heap:=h',gens:=g',drawn:=d',toks:=t' }:=by
 obtain⟨m,⟨o,es,ep,ho,r⟩,_⟩:=id I.loc
 obtain⟨sl,hL⟩:=u.any ho I.free fun z=>(hch _ z).2.1 rfl
 exact I.step (ch:=ch) hch (fun b o hL hb hc e n=>u.keep b o e n (fun z=>(List.mem_cons.mp (I.AJ b z)).elim hL hb) hc) (fun b o _ _ hc e n=>u.any e n hc) (fun b o hc e n=>u.free b o e n hc) (fun b o hc e=>u.there b o e hc) u.tups u.u5 u.vS (fun m' hm=>by
  obtain⟨o',es',ep',ho',r'⟩:=hm
  rw[ho]at ho';cases ho'
  exact⟨_,es',ep',hL,r'⟩) hok hg
theorem Inv.turned{t':Nat}{it:Addr}(I:Inv X pins σ H s)(k:∀b o,b≠it→s.heap.get? b=some o→h'.get? b=some o)(hn:H it=none)(hL:it≠X.env.locals)
  (h1:it∈X.ex∨X.s_0.heap.objs.size≤it) (h2:∀x c,X.env.cells.lookup x=some c→c≠it) (h3:∀p∈X.pn++pins,p.1≠it):Inv X pins σ H { s with heap:=h',toks:=t' }:=by
 have nit:∀b u,H b=some u→b≠it:=fun b u e z=>by rw[z,hn]at e;cases e
 refine I.step (g':=s.gens) (d':=s.drawn) (ch:=[it]) (fun b hb=> ?_) (fun b o _ _ hc e _=>k b o (fun z=>hc (by simp[z])) e) (fun b o _ _ hc e _=>⟨o.slots,k b o (fun z=>hc (by simp[z])) e⟩) (fun _ _ _ _ n=>n)
  (fun b o hc e=>⟨o,k b o (fun z=>hc (by simp[z])) e⟩) (fun _ _ e=>e) (fun _ _ _ e=>e) (fun b ps e=>⟨#[],by rw[e];simp⟩) (fun m hm=> ?_) (fun b u e=> ?_) I.bare
 ·have e:b=it:=by simpa using hb
  subst e
  exact⟨h1,hL,h2,h3⟩
 ·obtain⟨o,es,ep,ho,r⟩:=hm
  exact⟨o,es,ep,k _ o (Ne.symm hL) ho,r⟩
 ·refine(I.hok b u e).stay (fun c v hc q=>k c v ?_ q) (fun _ q=>q) fun _ _ q=>q
  rcases hc with z |z
  ·rw[z];exact nit b u e
  ·exact nit c _ z
theorem Inv.tok(I:Inv X pins σ H s)(t:Nat):Inv X pins σ H { s with toks:=t }:=I.un (h':=s.heap) (t':=t) Un.refl I.hok
theorem Inv.kept{t':Nat}(I:Inv X pins σ H s)(k:∀b u,s.heap.get? b=some u→h'.get? b=some u):Inv X pins σ H { s with heap:=h',toks:=t' }:=I.un (Un.kept k) (I.hok.kept k)
theorem Inv.laid{a:Addr}{o:HO}{t':Nat}(I:Inv X pins σ H s)(k:∀b u,s.heap.get? b=some u→h'.get? b=some u)(hp:s.heap.objs.size≤a)(new:cM X.prog X.w (upd H a o) h' a o):
  Inv X pins σ (upd H a o) { s with heap:=h',toks:=t' }:=I.un (Un.laid k hp (I.hok.fresh hp)) (I.hok.laid k hp new)
theorem Inv.write{x e:Addr}{o:HO}{t':Nat}(I:Inv X pins σ H s)(mu:RQ (H x))(he:e=x∨H e=some (.own x))(k:∀b u,b≠e→s.heap.get? b=some u→h'.get? b=some u)(heo:∃u,h'.get? e=some u)
  (new:cM X.prog X.w (upd H x o) h' x o):Inv X pins σ (upd H x o) { s with heap:=h',toks:=t' }:=I.un (Un.write mu he k heo) (I.hok.write mu he k heo new)
theorem Inv.weak{σ':List (Option V)}(I:Inv X pins σ H s)(hl:σ'.length=σ.length)(w:∀(i:Nat) v,σ'[i]? =some (some v)→σ[i]? =some (some v)):Inv X pins σ' H s:=
 ⟨I.ok,I.os,I.bare,I.base,let ⟨m,hn,hl'⟩:=I.loc;⟨m,hn,fun i x v e1 e2 e3=>hl' i x v e1 (w i v e2) e3⟩,I.cell,I.free,I.jU,I.pin,I.hok,hl.trans I.len⟩
theorem Inv.IH{pins':List (Addr×Obj)}(I:Inv X pins σ H s)(h:∀p∈pins',s.heap.get? p.1=some p.2∧H p.1=none∧p.1≠X.env.locals∧p.1∉X.fs∧∀v,p.2.data≠.cell v):Inv X pins' σ H s:=
 ⟨I.ok,I.os,I.bare,I.base,I.loc,I.cell,I.free,I.jU,fun p hp=>(List.mem_append.mp hp).elim (fun z=>I.pin p (List.mem_append_left _ z)) (h p),I.hok,I.len⟩
theorem BD{N:List Str}(hN:N.Nodup){i j:Nat}{x:Str}(a:N[i]? =some x)(b:N[j]? =some x):i=j:=by
 obtain⟨h1,e1⟩:=List.getElem?_eq_some_iff.mp a
 obtain⟨h2,e2⟩:=List.getElem?_eq_some_iff.mp b
 exact(List.getElem_inj hN).mp (e1.trans e2.symm)
theorem CW{M:Model}{A:Around}{E:Value→Shared→Prop}{i:Nat}{x:Str}{v:V}{u:Value}{Q:Unit→Shared→Prop}(I:Inv X pins σ H s)(hN:X.N.Nodup)(hi:X.N[i]? =some x)(hx:Loc X.env.scope x)(r:RelV v u)
  (h:∀s',Inv X pins (σ.set i (some v)) H s'→(∃a,Heap.SameBut a s.heap s'.heap∧(a=X.env.locals∨X.env.cells.lookup x=some a))→Q () s') (hf:X.fn x=true∨X.env.scope.names.lookup x=some .local:=by first |exact .inl rfl |exact .inr rfl |assumption):wpAny M A (storeName X.env x u) Q E s:=by
 obtain⟨m,hn,hl⟩:=id I.loc
 have hcls:(X.env.scope.kind== .class||(X.env.scope.kind== .module&&X.env.locals != X.env.globals))=false:=by rw[I.ok.kind];rfl
 have hiσ:i<σ.length:=by rw[I.len];exact(List.getElem?_eq_some_iff.mp hi).1
 have P7:=I.P7
 have tracked:∀{a:Addr}{h':Heap},(∃o,s.heap.get? a=some o∧H a=none)→Heap.SameBut a s.heap h'→tL X.prog X.w H h':=fun{a h'} ha hs b ob e=>by
  obtain⟨_,_,hfree⟩:=ha
  refine(I.hok b ob e).stay (fun c w' hc q=>(hs.2 c ?_).trans q) (fun _ q=>q) fun _ _ q=>q
  rintro rfl
  rcases hc with rfl |hc
  ·rw[hfree]at e;cases e
  ·rw[hfree]at hc;cases hc
 rcases hx with hk |hk
 ·refine wpAny_storeName_local hk hn (fun h' hn' hs=> ?_) hcls
  obtain⟨oL,_,_,hoL,_⟩:=id hn
  refine h _ ⟨I.ok,I.os,I.bare,⟨fun b o e n hb hx=> ?_,fun b o e n hb hx=> ?_,I.base.free,fun b o e hx=> ?_,I.base.tups,I.base.u5,I.base.vS⟩,⟨_,hn',fun j y v' e1 e2 e3=> ?_⟩,fun y c e=> ?_,I.free,I.jU,fun p hp=> ?_,tracked ⟨oL,hoL,I.free⟩ hs,by simpa using I.len⟩ ⟨_,hs,.inl rfl⟩
  ·exact(hs.2 b (Nat.ne_of_lt (Nat.lt_of_lt_of_le (Heap.lt_size e) I.ok.above))).trans (I.base.keep b o e n hb hx)
  ·obtain⟨sl,e1⟩:=I.base.slot b o e n hb hx
   exact⟨sl,(hs.2 b (Nat.ne_of_lt (Nat.lt_of_lt_of_le (Heap.lt_size e) I.ok.above))).trans e1⟩
  ·obtain⟨o',e1⟩:=I.base.there b o e hx
   exact⟨o',(hs.2 b (Nat.ne_of_lt (Nat.lt_of_lt_of_le (Heap.lt_size e) I.ok.above))).trans e1⟩
  ·by_cases hj:j=i
   ·subst hj
    rw[hi]at e1;cases e1
    rw[List.getElem?_set_self hiσ]at e2
    cases e2
    exact⟨u,r,.inl ⟨hk,by simp⟩⟩
   ·rw[List.getElem?_set_ne (Ne.symm hj)]at e2
    obtain⟨u',r',q⟩:=hl j y v' e1 e2 e3
    refine⟨u',r',?_⟩
    rcases q with⟨k,e⟩|⟨k,c,e,z⟩
    ·refine .inl ⟨k,?_⟩
     have:y≠x:=fun e=>hj (BD hN e1 (e▸hi))
     simp[this,e]
    ·exact .inr ⟨k,c,e,z.sameBut hs (P7 y c e)⟩
  ·obtain⟨w',z⟩:=I.cell y c e
   exact⟨w',z.sameBut hs (P7 y c e)⟩
  ·obtain⟨e,n,ne,nf,d⟩:=I.pin p hp
   exact⟨(hs.2 p.1 ne).trans e,n,ne,nf,d⟩
 ·have hfn:X.fn x=true:=by
   rcases hf with z |z
   ·exact z
   ·rw[z]at hk;cases hk
  obtain⟨c,hc⟩:=I.ok.has x (.inl hk)
  obtain⟨w',z⟩:=I.cell x c hc
  refine wpAny_storeName_cell I.ok.kind hk hc z (fun h' hc' hs=> ?_)
  obtain⟨oc,hoc,hocd⟩:=id z
  refine h { s with heap:=h' } ⟨I.ok,I.os,I.bare,⟨fun b o e n hb hx=> ?_,fun b o e n hb hx=> ?_,I.base.free,fun b o e hx=> ?_,I.base.tups,I.base.u5,I.base.vS⟩,⟨m,hn.sameBut hs (Ne.symm (P7 x c hc)),fun j y v' e1 e2 e3=> ?_⟩,fun y c' e=> ?_,I.free,I.jU,fun p hp=> ?_,tracked ⟨oc,hoc,I.jU x c hc⟩ hs,by simpa using I.len⟩ ⟨c,hs,.inr hc⟩
  ·exact(hs.2 b (Nat.ne_of_lt (Nat.lt_of_lt_of_le (Heap.lt_size e) (I.ok.cab x c hfn hc)))).trans (I.base.keep b o e n hb hx)
  ·obtain⟨sl,e1⟩:=I.base.slot b o e n hb hx
   exact⟨sl,(hs.2 b (Nat.ne_of_lt (Nat.lt_of_lt_of_le (Heap.lt_size e) (I.ok.cab x c hfn hc)))).trans e1⟩
  ·obtain⟨o',e1⟩:=I.base.there b o e hx
   exact⟨o',(hs.2 b (Nat.ne_of_lt (Nat.lt_of_lt_of_le (Heap.lt_size e) (I.ok.cab x c hfn hc)))).trans e1⟩
  ·by_cases hj:j=i
   ·subst hj
    rw[hi]at e1;cases e1
    rw[List.getElem?_set_self hiσ]at e2
    cases e2
    exact⟨u,r,.inr ⟨.inl hk,c,hc,hc'⟩⟩
   ·rw[List.getElem?_set_ne (Ne.symm hj)]at e2
    obtain⟨u',r',q⟩:=hl j y v' e1 e2 e3
    refine⟨u',r',?_⟩
    rcases q with q |⟨k,c',e,z'⟩
    ·exact .inl q
    ·refine .inr ⟨k,c',e,z'.sameBut hs ?_⟩
     rintro rfl
     exact hj (BD hN e1 (I.ok.inj _ _ _ e hc▸hi))
  ·by_cases hcc:c'=c
   ·subst hcc;exact⟨_,hc'⟩
   ·obtain⟨w2,z2⟩:=I.cell y c' e
    exact⟨w2,z2.sameBut hs hcc⟩
  ·obtain⟨e,n,ne,nf,d⟩:=I.pin p hp
   refine⟨(hs.2 p.1 ?_).trans e,n,ne,nf,d⟩
   intro q
   rw[q,hoc]at e
   have q':oc=p.2:=Option.some.inj e
   exact d w' (by rw[←q'];exact hocd)
theorem xB{M:Model}{A:Around}{E:Value→Shared→Prop}{i:Nat}{x:Str}{v:V}{u:Value}{Q:Unit→Shared→Prop}(I:Inv X pins σ H s)(hN:X.N.Nodup)(hi:X.N[i]? =some x)(hx:Loc X.env.scope x)(r:RelV v u)
  (h:∀s',Inv X pins (σ.set i (some v)) H s'→Q () s') (hf:X.fn x=true∨X.env.scope.names.lookup x=some .local:=by first |exact .inl rfl |exact .inr rfl |assumption):wpAny M A (storeName X.env x u) Q E s:=
 CW I hN hi hx r (fun s' I' _=>h s' I') hf
theorem Inv.call'{s':Shared}{ch:List Addr}(I:Inv X pins σ H s)(ho:s'.os=s.os)(u:Un (frs X.stack) ch H H' s.heap s'.heap)(hok:tL X.prog X.w H' s'.heap)(hg:AllBare s'.gens)
  (hch:∀b∈ch,(b∈X.ex∨X.s_0.heap.objs.size≤b)∧b≠X.env.locals∧(∀x c,X.env.cells.lookup x=some c→c≠b)∧∀p∈X.pn++pins,p.1≠b):Inv X pins σ H' s':=by
 obtain⟨h',g',d',t',o'⟩:=s'
 have e:o'=s.os:=ho
 subst e
 exact I.call (g':=g') (t':=t') (d':=d') u hok hg hch
end
abbrev XK:=Value→Option Addr→Hp→Prop
abbrev St:=List (Option V)
abbrev VK:=V→Hp→Prop
abbrev TE:=St→Hp→VK→Prop
abbrev TT:=St→Hp→(Bool→Hp→Prop)→Prop
abbrev TA:=St→Hp→(List V→Hp→Prop)→Prop
structure Ends where
 nx:St→Hp→Prop
 rt:VK
 bk:St→Hp→Prop:=fun _ _=>False
 ct:St→Hp→Prop:=fun _ _=>False
abbrev TS:=Ends→St→Hp→Prop
def EP(X:Cx)(pins:List (Addr×Obj))(σ:St)(Q:VK)(u:Value)(s':Shared):Prop:=∃v H',Inv X pins σ H' s'∧RelV v u∧Q v H'
def TP(X:Cx)(pins:List (Addr×Obj))(σ:St)(Q:Bool→Hp→Prop)(b:Bool)(s':Shared):Prop:=∃H',Inv X pins σ H' s'∧Q b H'
def AP(X:Cx)(pins:List (Addr×Obj))(σ:St)(Q:List V→Hp→Prop)(us:List Value)(s':Shared):Prop:=∃vs H',Inv X pins σ H' s'∧Vals vs us∧Q vs H'
def SP(X:Cx)(pins:List (Addr×Obj))(D:Ends)(f:Flow)(s':Shared):Prop:=
 match f with
 | .next=>∃σ' H',Inv X pins σ' H' s'∧D.nx σ' H'
 | .brk=>∃σ' H',Inv X pins σ' H' s'∧D.bk σ' H'
 | .cont=>∃σ' H',Inv X pins σ' H' s'∧D.ct σ' H'
 | .ret u=>∃v σ' H',Inv X pins σ' H' s'∧RelV v u∧D.rt v H'
def PE(X:Cx)(e:Expr)(t:TE):Prop:=
 ∀(pins:List (Addr×Obj))(s:Shared)(σ:St)(H:Hp)(Q:VK),Inv X pins σ H s→t σ H Q→wpAny (model X.prog X.w) X.A (eval e X.env) (EP X pins σ Q) X.xe s
def PT(X:Cx)(e:Expr)(t:TT):Prop:=
 ∀(pins:List (Addr×Obj))(s:Shared)(σ:St)(H:Hp)(Q:Bool→Hp→Prop),Inv X pins σ H s→t σ H Q→wpAny (model X.prog X.w) X.A (isTrue e X.env (eval e X.env)) (TP X pins σ Q) X.xe s
def PW(X:Cx)(e:Expr)(t:TT):Prop:=
 ∀(whole:Sem Value)(pins:List (Addr×Obj))(s:Shared)(σ:St)(H:Hp)(Q:Bool→Hp→Prop),Inv X pins σ H s→t σ H Q→wpAny (model X.prog X.w) X.A (isTrue e X.env whole) (TP X pins σ Q) X.xe s
theorem PW.pt{X:Cx}{e:Expr}{t:TT}(h:PW X e t):PT X e t:=h _
def PA(X:Cx)(es:List Expr)(t:TA):Prop:=
 ∀(pos:Pos)(pins:List (Addr×Obj))(s:Shared)(σ:St)(H:Hp)(Q:List V→Hp→Prop),Inv X pins σ H s→t σ H Q→wpAny (model X.prog X.w) X.A (spliced (backTo pos (starEach es X.env))) (AP X pins σ Q) X.xe s
def PS(X:Cx)(st:Stmt)(t:TS):Prop:=
 ∀(pins:List (Addr×Obj))(s:Shared)(σ:St)(H:Hp)(D:Ends),Inv X pins σ H s→t D σ H→wpAny (model X.prog X.w) X.A (exec st X.env) (SP X pins D) X.xe s
def CI(X:Cx)(st:List Stmt)(t:TS):Prop:=
 ∀(pins:List (Addr×Obj))(s:Shared)(σ:St)(H:Hp)(D:Ends),Inv X pins σ H s→t D σ H→wpAny (model X.prog X.w) X.A (execs st X.env) (SP X pins D) X.xe s
theorem cC{α:Type}{t:Sem α}{Q Q':α→Shared→Prop}{M:Model}{A:Around}{E:Value→Shared→Prop}{s:Shared}(h:wpAny M A t Q E s)(hQ:∀a s,Q a s→Q' a s):wpAny M A t Q' E s:=wpAny_mono h hQ fun _ _ x=>x
end L2
namespace L2
open PySem PySem.Spec PyProof.Rows
section
variable{X:Cx}
theorem bin{a b:Expr}{ta tb:TE}(ha:PE X a ta)(hb:PE X b tb){pins:List (Addr×Obj)}{s:Shared}{σ:St}{H:Hp}{R:V→V→Hp→Prop}(I:Inv X pins σ H s)(h:ta σ H fun x H1=>tb σ H1 fun y H2=>R x y H2)
  {α:Type} {Q:α→Shared→Prop} {f:Value→Value→Sem α}
  (hf:∀v u s2 x y H2,Inv X pins σ H2 s2→RelV x v→RelV y u→R x y H2→wpAny (model X.prog X.w) X.A (f v u) Q X.xe s2):
  wpAny (model X.prog X.w) X.A (eval a X.env) (fun v s₁=>wpAny (model X.prog X.w) X.A (eval b X.env) (fun u s₂=>wpAny (model X.prog X.w) X.A (f v u) Q X.xe s₂) X.xe s₁) X.xe s:=by
 refine cC (ha pins s σ H _ I h) fun v s1 zz=> ?_
 obtain⟨x,H1,I1,r1,q1⟩:=zz
 refine cC (hb pins s1 σ H1 _ I1 q1) fun u s2 zz=> ?_
 obtain⟨y,H2,I2,r2,q2⟩:=zz
 exact hf v u s2 x y H2 I2 r1 r2 q2
def vT(i:Nat):TE:=fun σ H Q=>∃v,σ[i]? =some (some v)∧Q v H
def tC(v:V):TE:=fun _ H Q=>Q v H
theorem Qo{i:Nat}{x:Str}{pos:Pos}(hN:X.N[i]? =some x)(hv:QW X.env.scope x)(hd:(x==("__debug__":Str))=false:=by decide)(hcd:(x==("__classdict__":Str))=false:=by decide):PE X (.Name x pos) (vT i):=by
 intro pins s σ H Q I h
 obtain⟨v,e,h⟩:=h
 obtain⟨m,hn,hl⟩:=I.loc
 obtain⟨u,r,l⟩:=hl i x v hN e hv
 have fin:EP X pins σ Q u s:=⟨v,H,I,r,h⟩
 rcases l with⟨hk,hm⟩|⟨hk,c,hc,hcell⟩
 ·exact wpAny_Name (wpAny_loadName_local I.ok.kind hk hn hm fin) hd
 ·rcases hk with hk |hk
  ·exact wpAny_Name (wpAny_loadName_cell I.ok.kind hk hc hcell fin) hd
  ·exact wpAny_Name (wpAny_loadName_free I.ok.kind hk hc hcell fin hcd) hd
theorem qS{i j pos}:PE X (.Constant (.int i) j pos) (tC (.int i)):=fun _ _ _ H _ I h=>wpAny_Constant_int ⟨.int i,H,I.tok _,⟨_,rfl⟩,h⟩
theorem xS{b j pos}:PE X (.Constant (.bool b) j pos) (tC (.bl b)):=fun _ _ _ H _ I h=>Constant_bool ⟨.bl b,H,I,rfl,h⟩
theorem sP{j pos}:PE X (.Constant .none j pos) (tC .non):=fun _ _ _ H _ I h=>Constant_none ⟨.non,H,I,rfl,h⟩
theorem sO{x j pos}:PE X (.Constant (.str x) j pos) (tC (.str x)):=fun _ _ _ H _ I h=>Calls.Constant_str ⟨.str x,H,I.tok _,⟨_,rfl⟩,h⟩
def Gl(X:Cx)(x:Str):Prop:=X.env.kindOf x=some .globalImplicit
theorem k7{E:Value→Shared→Prop}{pins:List (Addr×Obj)}{s:Shared}{σ:St}{H:Hp}{x:Str}{u:Value}{pos:Pos}{Q:Value→Shared→Prop}(I:Inv X pins σ H s)(hg:Gl X x)(hm:X.mg x=some u)(h:Q u s)
  (hd:(x==("__debug__":Str))=false:=by decide):wpAny (model X.prog X.w) X.A (eval (.Name x pos) X.env) Q E s:=
 Calls.Name_function_global I.ok.kind hg (Calls.loadGlobal_global (by rw[I.ok.glob];exact I.mod.glob.keeps I.bk) hm h) hd
theorem Ey{E:Value→Shared→Prop}{pins:List (Addr×Obj)}{s:Shared}{σ:St}{H:Hp}{x:Str}{u:Value}{pos:Pos}{Q:Value→Shared→Prop}(I:Inv X pins σ H s)(hg:Gl X x)(hm:X.mg x=none)(hv:bootBuiltins x=some u)(h:Q u s)
  (hn:x≠"__name__":=by decide) (hd:(x==("__debug__":Str))=false:=by decide):wpAny (model X.prog X.w) X.A (eval (.Name x pos) X.env) Q E s:=by
 obtain⟨mb,h1,h2⟩:=I.mod.blt
 exact Calls.Name_function_global I.ok.kind hg (Calls.loadGlobal_builtin (by rw[I.ok.glob];exact I.mod.glob.keeps I.bk) hm (by rw[I.ok.blt];exact h1.keeps I.bk) ((h2 x hn).trans hv) h) hd
theorem aE{x:Str}{v:V}{u:Value}{pos:Pos}(hg:Gl X x)(hm:X.mg x=some u)(r:RelV v u)(hd:(x==("__debug__":Str))=false:=by decide):PE X (.Name x pos) (tC v):=
 fun _ _ _ H _ I h=>k7 I hg hm ⟨v,H,I,r,h⟩ hd
variable{a b:Expr}{ta tb:TE}{pos:Pos}
def PC(X:Cx)(op:CmpOp)(a b:Expr)(t:TE):Prop:=
 ∀(pins:List (Addr×Obj))(s:Shared)(σ:St)(H:Hp)(Q:VK),Inv X pins σ H s→t σ H Q→
  wpAny (model X.prog X.w) X.A (eval a X.env) (fun v s₁=>wpAny (model X.prog X.w) X.A (eval b X.env) (fun u s₂=>wpAny (model X.prog X.w) X.A (compareOp op v u) (EP X pins σ Q) X.xe s₂) X.xe s₁) X.xe s
theorem FW(b:Expr){op:CmpOp}(h:op≠.In)(h2:op≠.NotIn):behindInMarks op b=false:=by
 have e1:(op==CmpOp.In)=false:=by cases op<;>first |rfl |exact absurd rfl h
 have e2:(op==CmpOp.NotIn)=false:=by cases op<;>first |rfl |exact absurd rfl h2
 cases b<;>simp[behindInMarks,e1,e2]
def Q7(ta:TE):TE:=fun σ H Q=>ta σ H fun x H1=>Q (.bl (decide (x= .non))) H1
def Pk(ta:TE):TE:=fun σ H Q=>ta σ H fun x H1=>Q (.bl (!decide (x= .non))) H1
theorem RelV.FU{x:V}{v:Value}(r:RelV x v):(v==Value.none)=decide (x= .non):=by
 cases x with
 |non=>cases r;rfl
 |bl _=>cases r;rfl
 |int _=>obtain⟨t,rfl⟩:=r;rfl
 |str _=>obtain⟨t,rfl⟩:=r;rfl
 |Cp _=>obtain⟨t,rfl⟩:=r;rfl
 |flt _=>obtain⟨t,rfl⟩:=r;rfl
 |ref _=>cases r;rfl
 |ty _=>cases r;rfl
theorem Ei{j pos'}(ha:PE X a ta):PC X .Is a (.Constant .none j pos') (Q7 ta):=by
 intro pins s σ H Q I h
 refine cC (ha pins s σ H _ I h) fun v s1 zz=> ?_
 obtain⟨x,H1,I1,r1,q1⟩:=zz
 exact Constant_none (is_none_gen ⟨.bl _,H1,I1,by rw[r1.FU];rfl,q1⟩)
theorem IK{j pos'}(ha:PE X a ta):PC X .IsNot a (.Constant .none j pos') (Pk ta):=by
 intro pins s σ H Q I h
 refine cC (ha pins s σ H _ I h) fun v s1 zz=> ?_
 obtain⟨x,H1,I1,r1,q1⟩:=zz
 exact Constant_none (isnot_none_gen ⟨.bl _,H1,I1,by rw[r1.FU];rfl,q1⟩)
def tB(t:TE):TT:=fun σ H Q=>t σ H fun x H1=>∃c,x= .bl c∧Q c H1
theorem G5{op:CmpOp}{t:TE}(h:PC X op a b t)(h1:behindInMarks op b=false:=by first |exact FW _ (by decide) (by decide)|rfl):PE X (.Compare a [op] [b] pos) t:=fun pins s σ H Q I hw=>wpAny_Compare1 (h pins s σ H Q I hw) h1
theorem yX{op:CmpOp}{t:TE}(h:PC X op a b t)(h1:behindInMarks op b=false:=by first |exact FW _ (by decide) (by decide)|rfl):PT X (.Compare a [op] [b] pos) (tB t):=by
 intro pins s σ H Q I hw
 refine wpAny_isTrue_Compare1 (cC (h pins s σ H _ I hw) fun v s1 h1=>cC h1 fun u s2 h2=>cC h2 fun c s3 ⟨x,H1,I1,r1,q1⟩=> ?_) h1
 obtain⟨d,rfl,q⟩:=q1
 cases r1
 exact wpAny_truthy_bool ⟨H1,I1,q⟩
theorem gk{e:Expr}{t:TE}(h:PE X e t)(he:∀whole,isTrue e X.env whole=(do let v ←whole;standAt e.pos;holding [v] (truthy v)):=by intro _;rfl):PT X e (tB t):=by
 intro pins s σ H Q I hw
 refine isTrue_plain (cC (h pins s σ H _ I hw) fun v s1 ⟨x,H1,I1,r1,q1⟩=> ?_) (he _)
 obtain⟨d,rfl,q⟩:=q1
 cases r1
 exact wpAny_truthy_bool ⟨H1,I1,q⟩
variable{tA tB':TT}{rest:List Expr}
def Qh(t u:TT):TT:=fun σ H Q=>t σ H fun c H1=>if c=true then u σ H1 Q else Q false H1
def SM(t u:TT):TT:=fun σ H Q=>t σ H fun c H1=>if c=true then Q true H1 else u σ H1 Q
def Q6(t:TT):TT:=fun σ H Q=>t σ H fun c H1=>Q (!c) H1
theorem vF(ha:PT X a tA):PW X (.BoolOp .And [a] pos) tA:=by
 intro wh pins s σ H Q I h
 refine isTrue_and (cC (ha pins s σ H Q I h) fun c s1 e=> ?_)
 cases c with
 |true=>exact isTrue_and_nil e
 |false=>exact e
theorem Bi(ha:PT X a tA):PW X (.BoolOp .Or [a] pos) tA:=by
 intro wh pins s σ H Q I h
 refine isTrue_or (cC (ha pins s σ H Q I h) fun c s1 e=> ?_)
 cases c with
 |false=>exact isTrue_or_nil e
 |true=>exact e
theorem yW(ha:PT X a tA)(hb:PW X (.BoolOp .And (b::rest) pos) tB'):PW X (.BoolOp .And (a::b::rest) pos) (Qh tA tB'):=by
 intro wh pins s σ H Q I h
 refine isTrue_and (cC (ha pins s σ H _ I h) fun c s1 zz=> ?_)
 obtain⟨H1,I1,q1⟩:=zz
 cases c with
 |true=>exact hb wh pins s1 σ H1 Q I1 q1
 |false=>exact⟨H1,I1,q1⟩
theorem FC(ha:PT X a tA)(hb:PW X (.BoolOp .Or (b::rest) pos) tB'):PW X (.BoolOp .Or (a::b::rest) pos) (SM tA tB'):=by
 intro wh pins s σ H Q I h
 refine isTrue_or (cC (ha pins s σ H _ I h) fun c s1 zz=> ?_)
 obtain⟨H1,I1,q1⟩:=zz
 cases c with
 |true=>exact⟨H1,I1,q1⟩
 |false=>exact hb wh pins s1 σ H1 Q I1 q1
theorem oO(ha:PT X a tA):PT X (.UnaryOp .Not a pos) (Q6 tA):=by
 intro pins s σ H Q I h
 exact isTrue_not (ha pins s σ H (fun c H1=>Q (!c) H1) I h)
def Px(ta tb:TE):TE:=fun σ H Q=>ta σ H fun x H1=>∃c,x= .bl c∧if c=true then tb σ H1 Q else Q (.bl false) H1
def Q5(ta tb:TE):TE:=fun σ H Q=>ta σ H fun x H1=>∃c,x= .bl c∧if c=true then Q (.bl true) H1 else tb σ H1 Q
def Pj(ta:TE):TE:=fun σ H Q=>ta σ H fun x H1=>∃c,x= .bl c∧Q (.bl (!c)) H1
theorem Eh{op}{t:TE}(h:PE X a t):PE X (.BoolOp op [a] pos) t:=fun pins s σ H Q I hw=>BoolOp_one (h pins s σ H Q I hw)
theorem G6(ha:PE X a ta)(hb:PE X (.BoolOp .And (b::rest) pos) tb):PE X (.BoolOp .And (a::b::rest) pos) (Px ta tb):=by
 intro pins s σ H Q I h
 refine BoolOp_and (cC (ha pins s σ H _ I h) fun v s1 zz=> ?_)
 obtain⟨x,H1,I1,r1,q1⟩:=zz
 obtain⟨c,rfl,q1⟩:=q1
 cases r1
 refine wpAny_truthy_bool ?_
 cases c with
 |true=>exact hb pins s1 σ H1 Q I1 q1
 |false=>exact⟨.bl false,H1,I1,rfl,q1⟩
theorem Rt(ha:PE X a ta)(hb:PE X (.BoolOp .Or (b::rest) pos) tb):PE X (.BoolOp .Or (a::b::rest) pos) (Q5 ta tb):=by
 intro pins s σ H Q I h
 refine BoolOp_or (cC (ha pins s σ H _ I h) fun v s1 zz=> ?_)
 obtain⟨x,H1,I1,r1,q1⟩:=zz
 obtain⟨c,rfl,q1⟩:=q1
 cases r1
 refine wpAny_truthy_bool ?_
 cases c with
 |false=>exact hb pins s1 σ H1 Q I1 q1
 |true=>exact⟨.bl true,H1,I1,rfl,q1⟩
theorem Qp(ha:PE X a ta):PE X (.UnaryOp .Not a pos) (Pj ta):=by
 intro pins s σ H Q I h
 refine UnaryOp_ (cC (ha pins s σ H _ I h) fun v s1 zz=> ?_)
 obtain⟨x,H1,I1,r1,q1⟩:=zz
 obtain⟨c,rfl,q1⟩:=q1
 cases r1
 exact not_of (wpAny_truthy_bool ⟨.bl (!c),H1,I1,rfl,q1⟩)
def S5(t:TT)(ta tb:TE):TE:=fun σ H Q=>t σ H fun c H1=>if c=true then ta σ H1 Q else tb σ H1 Q
end
end L2
namespace L2
open PySem PySem.Spec PyProof.Rows
def bW(K:PySem.W.Frag)(H:Hp)(a:Addr)(xs:List V):Prop:=
 Rd H a (.lst xs)∨
  ∃(o:Obj)(its:Array Value)(n:Nat),K.lookup a=some o∧o.cls= .type "list"∧o.dict=none∧o.data= .seq its n∧its.size≤sizeLine∧Vals xs its.toList
def sE(K:PySem.W.Frag)(H:Hp)(a:Addr)(xs:List V):Prop:=
 Rd H a (.tup xs)∨
  ∃(o:Obj)(its:Array Value)(n:Nat),K.lookup a=some o∧o.cls= .type "tuple"∧o.data= .seq its n∧its.size≤sizeLine∧Vals xs its.toList
def SD:Value→Option V
 | .none=>some .non
 | .bool b=>some (.bl b)
 | .int i _=>some (.int i)
 | .str x _=>some (.str x)
 | .bytes b _=>some (.Cp b)
 | .float b _=>some (.flt b)
 | .ref a=>some (.ref a)
 | .type n=>some (.ty n)
 |_=>none
theorem RelV.abs{x:V}{u:Value}(r:RelV x u):SD u=some x:=by
 cases x with
 |non=>cases r;rfl
 |bl _=>cases r;rfl
 |int _=>obtain⟨t,rfl⟩:=r;rfl
 |str _=>obtain⟨t,rfl⟩:=r;rfl
 |Cp _=>obtain⟨t,rfl⟩:=r;rfl
 |flt _=>obtain⟨t,rfl⟩:=r;rfl
 |ref _=>cases r;rfl
 |ty _=>cases r;rfl
theorem RelV.inj{x y:V}{u:Value}(r:RelV x u)(q:RelV y u):x=y:=Option.some.inj (r.abs.symm.trans q.abs)
theorem Vals.inj:∀{xs ys:List V}{us:List Value},Vals xs us→Vals ys us→xs=ys
 |_,_,_,.nil,.nil=>rfl
 |_,_,_,.cons r t,.cons r' t'=>by rw[r.inj r',Vals.inj t t']
section
variable{X:Cx}{pins:List (Addr×Obj)}{σ:St}{H:Hp}{s:Shared}{a:Addr}{xs ys:List V}
theorem bW.of{K:PySem.W.Frag}(h:H a=some (.lst xs)):bW K H a xs:=.inl (.inl h)
theorem sE.of{K:PySem.W.Frag}(h:H a=some (.tup xs)):sE K H a xs:=.inl (.inl h)
theorem Inv.list(I:Inv X pins σ H s)(h:bW X.K H a xs):∃its:List Value,Vals xs its∧PlainL s.heap a its.toArray∧xs.length≤sizeLine:=by
 rcases h with h |⟨o,its,n,hk,hc,hd,hs,hz,r⟩
 ·obtain⟨z,its,n,r,e⟩:=h.ok I.hok
  exact⟨its,r,⟨_,n,e,rfl,rfl,rfl⟩,z⟩
 ·refine⟨its.toList,r,⟨o,n,I.vZ a o hk,hc,hd,by simpa using hs⟩,?_⟩
  have e:=r.length
  simp only[Array.length_toList]at e
  omega
theorem Inv.tuple(I:Inv X pins σ H s)(h:sE X.K H a xs):∃its:List Value,Vals xs its∧IsTup s.heap a its.toArray∧xs.length≤sizeLine:=by
 rcases h with h |⟨o,its,n,hk,hc,hs,hz,r⟩
 ·obtain⟨z,its,r,p⟩:=h.ok I.hok
  exact⟨its,r,p,z⟩
 ·refine⟨its.toList,r,⟨o,I.vZ a o hk,hc,n,by simpa using hs⟩,?_⟩
  have e:=r.length
  simp only[Array.length_toList]at e
  omega
theorem Inv.F4(I:Inv X pins σ H s)(h:bW X.K H a xs)(h':bW X.K H a ys):xs=ys:=by
 obtain⟨its,r,⟨o,n,e,_,_,d⟩,_⟩:=I.list h
 obtain⟨its',r',⟨o',n',e',_,_,d'⟩,_⟩:=I.list h'
 rw[e]at e';cases e'
 rw[d]at d'
 injection d' with d1 _
 have:its=its':=by simpa using congrArg Array.toList d1
 subst this
 exact r.inj r'
theorem Inv.JI(I:Inv X pins σ H s)(h:sE X.K H a xs)(h':sE X.K H a ys):xs=ys:=by
 obtain⟨its,r,⟨o,e,_,n,d⟩,_⟩:=I.tuple h
 obtain⟨its',r',⟨o',e',_,n',d'⟩,_⟩:=I.tuple h'
 rw[e]at e';cases e'
 rw[d]at d'
 injection d' with d1 _
 have:its=its':=by simpa using congrArg Array.toList d1
 subst this
 exact r.inj r'
end
abbrev Cx.wish(X:Cx)(E:Value→Shared→Prop):Cx:={ X with xe:=E }
abbrev Cx.PY(X:Cx):Cx:=X.wish fun _ _=>False
theorem Cx.Ok.wish{X:Cx}(ok:X.Ok)(E:Value→Shared→Prop):(X.wish E).Ok:=
 ⟨ok.mod,ok.kind,ok.glob,ok.blt,ok.above,ok.inj,ok.has,ok.cab,ok.hd,ok.frames,ok.stk,ok.OH,ok.bs,ok.EZ,ok.Cz,ok.CD,ok.qU,ok.Gy⟩
theorem Cx.Ok.qC{X:Cx}{E:Value→Shared→Prop}(ok:(X.wish E).Ok):X.Ok:=
 ⟨ok.mod,ok.kind,ok.glob,ok.blt,ok.above,ok.inj,ok.has,ok.cab,ok.hd,ok.frames,ok.stk,ok.OH,ok.bs,ok.EZ,ok.Cz,ok.CD,ok.qU,ok.Gy⟩
section
variable{X:Cx}{pins:List (Addr×Obj)}{σ:St}{H:Hp}{s:Shared}{E:Value→Shared→Prop}
theorem Inv.wish(I:Inv X pins σ H s)(E:Value→Shared→Prop):Inv (X.wish E) pins σ H s:=⟨I.ok.wish E,I.os,I.bare,I.base,I.loc,I.cell,I.free,I.jU,I.pin,I.hok,I.len⟩
theorem Inv.qC(I:Inv (X.wish E) pins σ H s):Inv X pins σ H s:=⟨I.ok.qC,I.os,I.bare,I.base,I.loc,I.cell,I.free,I.jU,I.pin,I.hok,I.len⟩
theorem SP.qC{D:Ends}{f:Flow}{s':Shared}(h:SP (X.wish E) pins D f s'):SP X pins D f s':=by
 cases f with
 |next=>obtain⟨σ',H',I,q⟩:=h;exact⟨σ',H',I.qC,q⟩
 |brk=>obtain⟨σ',H',I,q⟩:=h;exact⟨σ',H',I.qC,q⟩
 |cont=>obtain⟨σ',H',I,q⟩:=h;exact⟨σ',H',I.qC,q⟩
 |ret u=>obtain⟨v,σ',H',I,r,q⟩:=h;exact⟨v,σ',H',I.qC,r,q⟩
theorem CI.PY{st:List Stmt}{t:TS}(h:CI X.PY st t):CI X st t:=fun pins s σ H D I hw=>
 wpAny_mono (h pins s σ H D (I.wish _) hw) (fun _ _ q=>q.qC) fun _ _ z=>False.elim z
end
section
variable{X:Cx}{st:Stmt}{rest:List Stmt}{t u:TS}{e:Expr}{te:TE}{pos:Pos}
def Ln:TS:=fun D σ H=>D.nx σ H
def NU(t u:TS):TS:=fun D σ H=>t { D with nx:=u D } σ H
theorem aL:CI X [] Ln:=fun _ _ σ H _ I h=>wpAny_execs_nil ⟨σ,H,I,h⟩
theorem ao(h1:PS X st t)(h2:CI X rest u):CI X (st::rest) (NU t u):=by
 intro pins s σ H D I h
 refine wpAny_execs_cons (cC (h1 pins s σ H { D with nx:=u D } I h) fun f s1 q=> ?_)
 cases f with
 |next=>
  obtain⟨σ',H',I',q⟩:=q
  exact h2 pins s1 σ' H' D I' q
 |ret v=>exact q
 |brk=>exact q
 |cont=>exact q
theorem au(h1:PS X st t):CI X [st] t:=by
 intro pins s σ H D I h
 refine wpAny_execs_cons (cC (h1 pins s σ H D I h) fun f s1 q=> ?_)
 cases f with
 |next=>exact wpAny_execs_nil q
 |ret v=>exact q
 |brk=>exact q
 |cont=>exact q
def Qg:TS:=fun D σ H=>D.bk σ H
def Pt:TS:=fun D σ H=>D.ct σ H
theorem FG:PS X (.Continue pos) Pt:=fun _ _ σ H _ I h=>wpAny_Continue ⟨σ,H,I,h⟩
theorem Inv.quiet{pins:List (Addr×Obj)}{σ:St}{H:Hp}{s:Shared}(I:Inv X pins σ H s):interactive X.env=false:=by simp[interactive,I.ok.kind]
def LC(te:TE):TS:=fun D σ H=>te σ H fun _ H1=>D.nx σ H1
theorem dD(he:PE X e te)(hs:swapsWith e none pos.line X.env=pure false:=by rfl):PS X (.Expr e pos) (LC te):=by
 intro pins s σ H D I h
 exact wpAny_Expr_any (cC (he pins s σ H _ I h) fun v s1 ⟨x,H1,I1,r1,q1⟩=>⟨σ,H1,I1,q1⟩) I.quiet hs
def Lg(te:TE):TS:=fun D σ H=>te σ H D.rt
theorem aJ(he:PE X e te):PS X (.Return (some e) pos) (Lg te):=by
 intro pins s σ H D I h
 exact wpAny_Return_some (cC (he pins s σ H _ I h) fun v s1 ⟨x,H1,I1,r1,q1⟩=>⟨x,σ,H1,I1,r1,q1⟩)
def Q0:TS:=fun D _ H=>D.rt .non H
def Qc(c:TT)(t u:TS):TS:=fun D σ H=>c σ H fun b H1=>if b=true then t D σ H1 else u D σ H1
theorem a6{c:Expr}{a b:List Stmt}{tc:TT}(hc:PT X c tc)(ha:CI X a t)(hb:CI X b u):PS X (.If c a b pos) (Qc tc t u):=by
 intro pins s σ H D I h
 refine wpAny_If (cC (hc pins s σ H _ I h) fun d s1 zz=> ?_)
 obtain⟨H1,I1,q1⟩:=zz
 cases d with
 |true=>exact ha pins s1 σ H1 D I1 q1
 |false=>exact hb pins s1 σ H1 D I1 q1
def Lp:TS:=fun _ _ _=>False
theorem Mr:PS X st Lp:=fun _ _ _ _ _ _ h=>h.elim
end
abbrev TG:=V→St→Hp→(St→Hp→Prop)→Prop
abbrev KJ:=List V→St→Hp→(St→Hp→Prop)→Prop
def PG(X:Cx)(target:Expr)(t:TG):Prop:=
 ∀(pins:List (Addr×Obj))(s:Shared)(σ:St)(H:Hp)(v:V)(u:Value)(Q:St→Hp→Prop),Inv X pins σ H s→RelV v u→t v σ H Q→
  wpAny (model X.prog X.w) X.A (assign target X.env u) (fun _ s'=>∃σ' H',Inv X pins σ' H' s'∧Q σ' H') X.xe s
def RO(X:Cx)(ts:List Expr)(t:KJ):Prop:=
 ∀(pins:List (Addr×Obj))(s:Shared)(σ:St)(H:Hp)(vs:List V)(us:List Value)(Q:St→Hp→Prop),Inv X pins σ H s→Vals vs us→t vs σ H Q→
  wpAny (model X.prog X.w) X.A (assignInOrder ((assignEach ts X.env).map (·.2)) us) (fun _ s'=>∃σ' H',Inv X pins σ' H' s'∧Q σ' H') X.xe s
abbrev RM:=V→V→Hp→VK→Prop
def SY(X:Cx)(op:Operator)(t:RM):Prop:=
 ∀(pins:List (Addr×Obj))(s:Shared)(σ:St)(H:Hp)(x y:V)(v u:Value)(Q:VK),Inv X pins σ H s→RelV x v→RelV y u→t x y H Q→
  wpAny (model X.prog X.w) X.A (inplaceOp op v u) (EP X pins σ Q) X.xe s
section
variable{X:Cx}{pos:Pos}
def BV(i:Nat):TG:=fun v σ H Q=>Q (σ.set i (some v)) H
theorem bY{i:Nat}{x:Str}(hN:X.N.Nodup)(hi:X.N[i]? =some x)(hx:Loc X.env.scope x)(hf:X.fn x=true∨X.env.scope.names.lookup x=some .local:=by first |exact .inl rfl |exact .inr rfl |assumption):PG X (.Name x pos) (BV i):=by
 intro pins s σ H v u Q I r h
 exact wpAny_assign_Name (xB I hN hi hx r (fun s' I'=>⟨_,H,I',h⟩) hf)
def RG:KJ:=fun vs σ H Q=>vs=[]∧Q σ H
def P5(t:TG)(u:KJ):KJ:=fun vs σ H Q=>∃v r,vs=v::r∧t v σ H fun σ' H'=>u r σ' H' Q
theorem Ao:RO X [] RG:=by
 intro pins s σ H vs us Q I r h
 obtain⟨e,h⟩:=h
 subst e
 cases r
 exact assignInOrder_nil ⟨σ,H,I,h⟩
theorem i9{e:Expr}{es:List Expr}{t:TG}{u:KJ}(h1:PG X e t)(h2:RO X es u)
  (hs:(assignEach (e::es) X.env).map (·.2)=assign e X.env::(assignEach es X.env).map (·.2):=by rfl):RO X (e::es) (P5 t u):=by
 intro pins s σ H vs us Q I r h
 obtain⟨v,vr,e1,h⟩:=h
 subst e1
 cases r with
 |cons r rr=>
  rw[hs]
  refine assignInOrder_cons (cC (h1 pins s σ H _ _ _ I r h) fun _ s1 zz=> ?_)
  obtain⟨σ1,H1,I1,q1⟩:=zz
  exact h2 pins s1 σ1 H1 _ _ Q I1 rr q1
def Ku(K:PySem.W.Frag)(n:Nat)(t:KJ):TG:=fun v σ H Q=>∃a xs,v= .ref a∧sE K H a xs∧xs.length=n∧t xs σ H Q
theorem Eg{es:List Expr}{k:Nat}{t:KJ}{n:Nat}(hc:X.calm=true)(h:RO X es t)
  (hn:(assignEach es X.env).length=n:=by rfl) (hst:(assignEach es X.env).findIdx? (·.1)=none:=by rfl):PG X (.Tuple es k pos) (Ku X.K n t):=by
 intro pins s σ H v u Q I r hw
 obtain⟨a,xs,e1,hq,hl,hw⟩:=hw
 subst e1
 cases r
 obtain⟨its,rv,ht,hz⟩:=I.tuple hq
 refine assign_Tuple_tuple (I.ok.hd hc) ht (by simp[hn,←hl,rv.length]) hst fun h' hx=> ?_
 have I1:Inv X pins σ H { s with heap:=h' }:=I.kept (t':=s.toks) fun b o e=>hx b o (Nat.ne_of_lt (Heap.lt_size e)) e
 exact h pins _ σ H xs _ Q I1 (by simpa using rv) hw
def NW(te:TE)(g:TG):TS:=fun D σ H=>te σ H fun x H1=>g x σ H1 D.nx
theorem aU{i:Nat}{x:Str}{e:Expr}{te:TE}{pos':Pos}(hN:X.N.Nodup)(hi:X.N[i]? =some x)(hx:Loc X.env.scope x)(he:PE X e te)(hs:swapsWith e (some (.Name x pos')) pos.line X.env=pure false:=by rfl)(hf:X.fn x=true∨X.env.scope.names.lookup x=some .local:=by first |exact .inl rfl |exact .inr rfl |assumption):
  PS X (.Assign [.Name x pos'] e pos) (NW te (BV i)):=by
 intro pins s σ H D I h
 refine wpAny_Assign_Name (cC (he pins s σ H _ I h) fun v s1 zz=> ?_) hs
 obtain⟨y,H1,I1,r1,q1⟩:=zz
 exact xB I1 hN hi hx r1 (fun s2 I2=>⟨_,H1,I2,q1⟩) hf
def R5(i j:Nat)(ta:TA):TS:=fun D σ H=>ta σ H fun vs H1=>∃v w,vs=[v,w]∧D.nx ((σ.set i (some v)).set j (some w)) H1
def Rb(i:Nat)(te:TE)(ti:RM):TS:=fun D σ H=>∃x,σ[i]? =some (some x)∧te σ H fun y H1=>ti x y H1 fun z H2=>D.nx (σ.set i (some z)) H2
theorem Ms{i:Nat}{x:Str}{e:Expr}{te:TE}{op:Operator}{ti:RM}{pos':Pos}(hN:X.N.Nodup)(hi:X.N[i]? =some x)(hx:Loc X.env.scope x)(he:PE X e te)(ho:SY X op ti)(hf:X.fn x=true∨X.env.scope.names.lookup x=some .local:=by first |exact .inl rfl |exact .inr rfl |assumption):
  PS X (.AugAssign (.Name x pos') op e pos) (Rb i te ti):=by
 intro pins s σ H D I h
 obtain⟨v,e1,h⟩:=h
 obtain⟨m,hn,hl⟩:=I.loc
 have vis:QW X.env.scope x:=by rcases hx with k |k;exact .inl k;exact .inr (.inl k)
 obtain⟨u,r,l⟩:=hl i x v hi e1 vis
 refine wpAny_AugAssign_Name ?_
 have go:wpAny (model X.prog X.w) X.A (eval e X.env) (fun w s₂=>wpAny (model X.prog X.w) X.A (inplaceOp op u w) (fun r s₃=>wpAny (model X.prog X.w) X.A (storeName X.env x r) (fun _=>SP X pins D .next) X.xe s₃) X.xe s₂) X.xe s:=by
  refine cC (he pins s σ H _ I h) fun w s1 zz=> ?_
  obtain⟨y,H1,I1,r1,q1⟩:=zz
  refine cC (ho pins s1 σ H1 v y u w _ I1 r r1 q1) fun z s2 zz=> ?_
  obtain⟨zv,H2,I2,r2,q2⟩:=zz
  exact xB I2 hN hi hx r2 (fun s3 I3=>⟨_,H2,I3,q2⟩) hf
 rcases l with⟨hk,hm⟩|⟨hk,c,hc,hcell⟩
 ·exact wpAny_loadName_local I.ok.kind hk hn hm go
 ·rcases hk with hk |hk
  ·exact wpAny_loadName_cell I.ok.kind hk hc hcell go
  ·rcases hx with k |k
   ·have:X.env.scope.names.lookup x=some .free:=hk
    rw[k]at this;cases this
   ·have:X.env.scope.names.lookup x=some .free:=hk
    rw[k]at this;cases this
def S8(f:Int→Int→Int):RM:=fun x y H Q=>∃i j,x= .int i∧y= .int j∧Q (.int (f i j)) H
theorem QC:SY X .Add (S8 fun i j=>i+j):=by
 intro pins s σ H x y v u Q I r1 r2 h
 obtain⟨i,j,e1,e2,q⟩:=h
 subst e1;subst e2
 obtain⟨t,rfl⟩:=r1
 obtain⟨t',rfl⟩:=r2
 exact iadd_int ⟨.int _,H,I.tok _,⟨_,rfl⟩,q⟩
end
section
variable{X:Cx}{pos:Pos}
def Qa(c:TT)(tb:TS):TS:=fun D σ H=>∃W:Nat→St→Hp→Prop,(∃m,W m σ H)∧∀m σ H,W m σ H→
 c σ H fun b H1=>if b=true then ∃N:St→Hp→Prop,(∀σ' H',N σ' H'→∃m',m'<m∧W m' σ' H')∧tb { D with nx:=N,ct:=N,bk:=D.nx } σ H1 else D.nx σ H1
theorem FE{c:Expr}{body:List Stmt}{tc:TT}{tb:TS}(hp:PassesOwn (model X.prog X.w) X.A X.env X.xe)(hc:PT X c tc)(hb:CI X body tb):PS X (.While c body [] pos) (Qa tc tb):=by
 intro pins s σ H D I h
 obtain⟨W,⟨m0,w0⟩,turn⟩:=h
 refine wpAny_While (codeAny_whileLoop (fun n s'=>∃σ' H',Inv X pins σ' H' s'∧W n σ' H') ?_ m0 ⟨σ,H,I,w0⟩)
 rintro n s1 ⟨σ1,H1,I1,w1⟩
 refine wpAny_passesOwn hp (cC (hc pins s1 σ1 H1 _ I1 (turn n σ1 H1 w1)) fun b s2 zz=> ?_)
 obtain⟨H2,I2,q2⟩:=zz
 cases b with
 |true=>
  obtain⟨N,hN,q2⟩:=q2
  rw[if_pos rfl]
  refine wpAny_passesOwn hp (cC (hb pins s2 σ1 H2 _ I2 q2) fun f s3 q3=> ?_)
  cases f with
  |next=>
   obtain⟨σ3,H3,I3,n3⟩:=q3
   obtain⟨m',hm,w3⟩:=hN σ3 H3 n3
   exact⟨m',hm,σ3,H3,I3,w3⟩
  |cont=>
   obtain⟨σ3,H3,I3,n3⟩:=q3
   obtain⟨m',hm,w3⟩:=hN σ3 H3 n3
   exact⟨m',hm,σ3,H3,I3,w3⟩
  |brk=>exact q3
  |ret v=>exact q3
 |false=>
  rw[if_neg Bool.false_ne_true]
  exact wpAny_execs_nil ⟨σ1,H2,I2,q2⟩
end
structure It where
 go:Nat→Hp→Prop
 OZ:Nat→Hp→V→Hp→Prop
 stop:Nat→Hp→Prop
def Cj(X:Cx)(pins:List (Addr×Obj))(H:Hp)(b:Addr):Prop:=
 H b=none∧b≠X.env.locals∧b∉X.fs∧(b∈X.ex∨X.s_0.heap.objs.size≤b)∧(∀x c,X.env.cells.lookup x=some c→c≠b)∧∀p∈X.pn++pins,p.1≠b
theorem Inv.OD{X:Cx}{pins:List (Addr×Obj)}{σ:St}{H H':Hp}{s:Shared}{b:Addr}(I:Inv X pins σ H s)(hb:s.heap.objs.size≤b)(hn:H' b=none):Cj X pins H' b:=by
 refine⟨hn,Nat.ne_of_gt (Nat.lt_of_lt_of_le I.lt hb),I.Si hb,.inr (Nat.le_trans I.sz hb),fun x c e z=> ?_,fun p hp z=> ?_⟩
 ·obtain⟨v,q⟩:=I.cell x c e
  exact absurd (Nat.lt_of_lt_of_le q.lt (by rw[z];exact hb)) (Nat.lt_irrefl _)
 ·exact absurd (Nat.lt_of_lt_of_le (Heap.lt_size (I.pin p hp).1) (by rw[z];exact hb)) (Nat.lt_irrefl _)
structure Turn(P:Program)(w:World)(K:PySem.W.Frag)(tg:Expr)(J:It)(fp:List Addr)(it:Addr)(tn:Nat→Heap→Prop):Prop where
 mem:it∈fp
 obj:∀i h,tn i h→∀b∈fp,∃o,h.get? b=some o∧∀v,o.data≠.cell v
 keep:∀i h h',tn i h→(∀b∈fp,∀o,h.get? b=some o→h'.get? b=some o)→tn i h'
 item:∀(X:Cx),X.prog=P→X.w=w→X.K=K→X.calm=true→∀(i:Nat)(pins:List (Addr×Obj))(s:Shared)(σ:St)(H:Hp)(E:Value→Shared→Prop),Inv X pins σ H s→(∀b∈fp,Cj X pins H b)→tn i s.heap→J.go i H→
  wpAny (model P w) X.A (pyNext (.ref it)) (fun r s1=>∃u,r=some u∧
   wpAny (model P w) X.A (letOwnedTupleGo tg (.ref it) u) (fun _ s2=>∃x H',Inv X pins σ H' s2∧RelV x u∧J.OZ i H x H'∧tn (i+1) s2.heap∧∀b∈fp,H' b=none) E s1) E s
 done:∀(X:Cx),X.prog=P→X.w=w→X.K=K→X.calm=true→∀(i:Nat)(pins:List (Addr×Obj))(s:Shared)(σ:St)(H:Hp)(E:Value→Shared→Prop),Inv X pins σ H s→(∀b∈fp,Cj X pins H b)→tn i s.heap→J.stop i H→
  wpAny (model P w) X.A (pyNext (.ref it)) (fun r s1=>r=none∧Inv X pins σ H s1) E s
 self:∀(A:Around)(i:Nat)(s:Shared)(Q:Value→Shared→Prop)(E:Value→Shared→Prop),tn i s.heap→Q (.ref it) s→wpAny (model P w) A (pyIter (.ref it)) Q E s
abbrev TI:=St→Hp→(It→Hp→Prop)→Prop
def PIE(X:Cx)(pins:List (Addr×Obj))(σ:St)(tg:Expr)(R:It→Hp→Prop)(itv:Value)(s2:Shared):Prop:=
 ∃(it:Addr)(fp:List Addr)(tn:Nat→Heap→Prop)(J:It)(H':Hp),itv= .ref it∧Inv X pins σ H' s2∧Turn X.prog X.w X.K tg J fp it tn∧tn 0 s2.heap∧(∀b∈fp,Cj X pins H' b)∧R J H'
def PI(X:Cx)(tg iter:Expr)(wi:TI):Prop:=
 ∀(pins:List (Addr×Obj))(s:Shared)(σ:St)(H:Hp)(R:It→Hp→Prop),Inv X pins σ H s→wi σ H R→
  wpAny (model X.prog X.w) X.A (eval iter X.env) (fun v s1=>wpAny (model X.prog X.w) X.A (pyIter v) (PIE X pins σ tg R) X.xe s1) X.xe s
theorem P4{M:Model}{A:Around}{E:Value→Shared→Prop}{s:Shared}{tg:Expr}{it:Addr}{u:Value}{o:Obj}{n:String}{vs:Array Value}{Q:Unit→Shared→Prop}(ho:s.heap.get? it=some o)(hc:o.cls= .type n)(hd:o.data= .fields vs)
  (hn:["enumerate","zip","dict_itemiterator","dict_reverseitemiterator","odict_iterator","itertools.zip_longest","itertools.pairwise"].contains n=false) (hQ:Q () s):wpAny M A (letOwnedTupleGo tg (.ref it) u) Q E s:=by
 unfold letOwnedTupleGo
 cases tg<;>first
  |exact wpAny_pure hQ
  |(cases u<;>first
    |exact wpAny_pure hQ
    |(refine wpAny_bind (wpAny_load ho ?_)
      rw[hc,hd]
      show wpAny M A (if(["enumerate","zip","dict_itemiterator","dict_reverseitemiterator","odict_iterator","itertools.zip_longest","itertools.pairwise"].contains n&&vs[0]? ==some (rawInt _))=true then _ else _) Q E s
      rw[if_neg (by intro h;rw[hn,Bool.false_and]at h;cases h)]
      exact wpAny_pure hQ))
def KN(K:PySem.W.Frag)(a:Addr):It:=
 ⟨fun i H=>∃xs x,bW K H a xs∧xs[i]? =some x,fun i H x H'=>H'=H∧∀xs,bW K H a xs→xs[i]? =some x,fun i H=>∃xs,bW K H a xs∧xs.length≤i⟩
def OY(K:PySem.W.Frag)(a:Addr):It:=
 ⟨fun i H=>∃xs x,sE K H a xs∧xs[i]? =some x,fun i H x H'=>H'=H∧∀xs,sE K H a xs→xs[i]? =some x,fun i H=>∃xs,sE K H a xs∧xs.length≤i⟩
def RY(lo:Int)(n:Nat):It:=⟨fun i _=>i<n,fun i H x H'=>H'=H∧x= .int (lo+i),fun i _=>n≤i⟩
theorem JG{P:Program}{w:World}{K:PySem.W.Frag}{tg:Expr}(a it:Addr):Turn P w K tg (KN K a) [it] it (fun i h=>h.IsListIter it a i) where
 mem:=by simp
 obj:=fun i h st b hb=>by
  have e:b=it:=by simpa using hb
  subst e
  obtain⟨o,e,c,d⟩:=st
  exact⟨o,e,fun v z=>by rw[d]at z;cases z⟩
 keep:=fun i h h' st k=>st.at fun o e=>k it (by simp) o e
 item:=by
  intro X hP hw hK hc i pins s σ H E I hf st hg
  subst hP hw hK
  obtain⟨xs,x,hq,hx⟩:=hg
  obtain⟨its,rv,p,hz⟩:=I.list hq
  obtain⟨u,hu,ru⟩:=rv.get hx
  obtain⟨f0,f1,f2,f3,f4,f5⟩:=hf it (by simp)
  refine wpAny_pyNext_list_item st p.isList (x:=u) (by simpa using hu) fun h' st' sb=> ?_
  have I1:Inv X pins σ H { s with heap:=h' }:=I.turned (t':=s.toks) (fun b o hb e=>(sb.2 b hb).trans e) f0 f1 f3 f4 f5
  obtain⟨o,e,c,d⟩:=id st'
  exact⟨u,rfl,P4 (s:={ s with heap:=h' }) e c d (by decide) ⟨x,H,I1,ru,⟨rfl,fun ys hy=>by rw[I.F4 hy hq];exact hx⟩,st',fun b hb=>(hf b hb).1⟩⟩
 done:=by
  intro X hP hw hK hc i pins s σ H E I hf st hg
  subst hP hw hK
  obtain⟨xs,hq,hx⟩:=hg
  obtain⟨its,rv,p,hz⟩:=I.list hq
  obtain⟨f0,f1,f2,f3,f4,f5⟩:=hf it (by simp)
  have hl:=rv.length
  exact wpAny_pyNext_list_end (I.ok.hd hc) st p.isList (by simp;omega) fun h' eb=>⟨rfl,I.turned (t':=s.toks) (fun b o hb e=>eb b o hb e) f0 f1 f3 f4 f5⟩
 self:=fun _ _ _ _ _ st h=>wpAny_pyIter_listiter st h
theorem GH{P:Program}{w:World}{K:PySem.W.Frag}{tg:Expr}(a it:Addr):Turn P w K tg (OY K a) [it] it (fun i h=>h.IsTupleIter it a i) where
 mem:=by simp
 obj:=fun i h st b hb=>by
  have e:b=it:=by simpa using hb
  subst e
  obtain⟨o,e,c,d⟩:=st
  exact⟨o,e,fun v z=>by rw[d]at z;cases z⟩
 keep:=fun i h h' st k=>st.at fun o e=>k it (by simp) o e
 item:=by
  intro X hP hw hK hc i pins s σ H E I hf st hg
  subst hP hw hK
  obtain⟨xs,x,hq,hx⟩:=hg
  obtain⟨its,rv,p,hz⟩:=I.tuple hq
  obtain⟨u,hu,ru⟩:=rv.get hx
  obtain⟨f0,f1,f2,f3,f4,f5⟩:=hf it (by simp)
  refine wpAny_pyNext_tuple_item st (show s.heap.IsTuple a its.toArray from p) (x:=u) (by simpa using hu) fun h' st' sb=> ?_
  have I1:Inv X pins σ H { s with heap:=h' }:=I.turned (t':=s.toks) (fun b o hb e=>(sb.2 b hb).trans e) f0 f1 f3 f4 f5
  obtain⟨o,e,c,d⟩:=id st'
  exact⟨u,rfl,P4 (s:={ s with heap:=h' }) e c d (by decide) ⟨x,H,I1,ru,⟨rfl,fun ys hy=>by rw[I.JI hy hq];exact hx⟩,st',fun b hb=>(hf b hb).1⟩⟩
 done:=by
  intro X hP hw hK hc i pins s σ H E I hf st hg
  subst hP hw hK
  obtain⟨xs,hq,hx⟩:=hg
  obtain⟨its,rv,p,hz⟩:=I.tuple hq
  obtain⟨f0,f1,f2,f3,f4,f5⟩:=hf it (by simp)
  have hl:=rv.length
  exact wpAny_pyNext_tuple_end (I.ok.hd hc) st (show s.heap.IsTuple a its.toArray from p) (by simp;omega) fun h' eb=>⟨rfl,I.turned (t':=s.toks) (fun b o hb e=>eb b o hb e) f0 f1 f3 f4 f5⟩
 self:=fun _ _ _ _ _ st h=>wpAny_pyIter_tupleiter st h
end L2
namespace L2
open PySem PySem.Spec PyProof.Rows
section
variable{X:Cx}{tg:Expr}
def Je(K:PySem.W.Frag)(tl:TE):TI:=fun σ H R=>tl σ H fun x H1=>∃a,x= .ref a∧(∃xs,bW K H1 a xs)∧R (KN K a) H1
def OA(K:PySem.W.Frag)(tl:TE):TI:=fun σ H R=>tl σ H fun x H1=>∃a,x= .ref a∧(∃xs,sE K H1 a xs)∧R (OY K a) H1
theorem gS{l:Expr}{tl:TE}(hl:PE X l tl):PI X tg l (Je X.K tl):=by
 intro pins s σ H R I h
 refine cC (hl pins s σ H _ I h) fun v s1 zz=> ?_
 obtain⟨x,H1,I1,r1,q1⟩:=zz
 obtain⟨a,e,⟨xs,hq⟩,q⟩:=q1
 subst e
 cases r1
 obtain⟨its,rv,p,hz⟩:=I1.list hq
 refine wpAny_pyIter_list p.isList ?_
 refine⟨s1.heap.objs.size,[s1.heap.objs.size],_,_,H1,rfl,I1.kept (t':=s1.toks) fun b o e=>Heap.get?_push_of_some _ e,JG a _,⟨_,Heap.get?_push_size _ rfl,rfl,rfl⟩,fun b hb=> ?_,q⟩
 have e:b=s1.heap.objs.size:=by simpa using hb
 subst e
 exact I1.OD (Nat.le_refl _) (I1.hok.fresh (Nat.le_refl _))
theorem G3{l:Expr}{tl:TE}(hl:PE X l tl):PI X tg l (OA X.K tl):=by
 intro pins s σ H R I h
 refine cC (hl pins s σ H _ I h) fun v s1 zz=> ?_
 obtain⟨x,H1,I1,r1,q1⟩:=zz
 obtain⟨a,e,⟨xs,hq⟩,q⟩:=q1
 subst e
 cases r1
 obtain⟨its,rv,p,hz⟩:=I1.tuple hq
 refine wpAny_pyIter_tuple (show s1.heap.IsTuple a its.toArray from p) ?_
 refine⟨s1.heap.objs.size,[s1.heap.objs.size],_,_,H1,rfl,I1.kept (t':=s1.toks) fun b o e=>Heap.get?_push_of_some _ e,GH a _,⟨_,Heap.get?_push_size _ rfl,rfl,rfl⟩,fun b hb=> ?_,q⟩
 have e:b=s1.heap.objs.size:=by simpa using hb
 subst e
 exact I1.OD (Nat.le_refl _) (I1.hok.fresh (Nat.le_refl _))
def RD(ta:TA):TI:=fun σ H R=>ta σ H fun vs H1=>∃j:Int,vs=[.int j]∧-(2 ^ 62)≤j∧j<2 ^ 62∧R (RY 0 j.toNat) H1
def RC(ta:TA):TI:=fun σ H R=>ta σ H fun vs H1=>∃i j:Int,vs=[.int i,.int j]∧(-(2 ^ 62)≤i∧i<2 ^ 62∧-(2 ^ 62)≤j∧j<2 ^ 62)∧R (RY i (j - i).toNat) H1
def Lx(wi:TI)(g:TG)(tb:TS):TS:=fun D σ H=>wi σ H fun J H1=>∃W:Nat→Nat→St→Hp→Prop,(∃m,W 0 m σ H1)∧∀i m σ H,W i m σ H→
 (J.stop i H∧D.nx σ H)∨(J.go i H∧∃N:St→Hp→Prop,(∀σ' H',N σ' H'→∃m',m'<m∧W (i+1) m' σ' H')∧∀x H',J.OZ i H x H'→g x σ H' fun σ2 H2=>tb { D with nx:=N,ct:=N,bk:=D.nx } σ2 H2)
def Bl(fp:List Addr)(h:Heap):List (Addr×Obj):=fp.filterMap fun b=>(h.get? b).map fun o=>(b,o)
theorem wQ{fp:List Addr}{h:Heap}{b:Addr}{o:Obj}(hb:b∈fp)(e:h.get? b=some o):(b,o)∈Bl fp h:=List.mem_filterMap.mpr ⟨b,hb,by rw[e];rfl⟩
theorem Kb{fp:List Addr}{h:Heap}{p:Addr×Obj}(hp:p∈Bl fp h):p.1∈fp∧h.get? p.1=some p.2:=by
 obtain⟨b,hb,e⟩:=List.mem_filterMap.mp hp
 cases q:h.get? b with
 |none=>rw[q]at e;cases e
 |some o=>
  rw[q]at e
  have e':(b,o)=p:=Option.some.inj e
  subst e'
  exact⟨hb,q⟩
theorem Inv.pinned{pins:List (Addr×Obj)}{σ:St}{H:Hp}{s:Shared}{fp:List Addr}(I:Inv X pins σ H s)(hf:∀b∈fp,Cj X pins H b)(ho:∀b∈fp,∃o,s.heap.get? b=some o∧∀v,o.data≠.cell v):Inv X (pins++Bl fp s.heap) σ H s:=
 I.IH fun p hp=>(List.mem_append.mp hp).elim (fun z=>I.pin p (List.mem_append_right _ z)) fun z=>by
  obtain⟨hb,e⟩:=Kb z
  obtain⟨f0,f1,f2,_⟩:=hf p.1 hb
  obtain⟨o,e',d⟩:=ho p.1 hb
  rw[e]at e';cases e'
  exact⟨e,f0,f1,f2,d⟩
theorem Inv.xr{pins pl:List (Addr×Obj)}{σ:St}{H:Hp}{s:Shared}(I:Inv X (pins++pl) σ H s):Inv X pins σ H s:=I.IH fun p hp=>I.pin p (List.mem_append_right _ (List.mem_append_left _ hp))
theorem oP{iter:Expr}{body:List Stmt}{wi:TI}{g:TG}{tb:TS}{pos:Pos}(hp:PassesOwn (model X.prog X.w) X.A X.env X.xe)(hc:X.calm=true)(hi:PI X tg iter wi)(hg:PG X tg g)(hb:CI X body tb)
  (hs:∀x,foldedSetIterable iter X.env x=pure x:=by intro _;rfl):PS X (.For tg iter body [] pos) (Lx wi g tb):=by
 intro pins s σ H D I h
 refine wpAny_For (cC (hi pins s σ H _ I h) fun v s1 h1=>cC h1 fun itv s2 h2=> ?_) hs
 obtain⟨it,fp,tn,J,H2,e,I2,T,st2,f2,W,⟨m0,w0⟩,turn⟩:=h2
 subst e
 have stat:∀{H':Hp},(∀b∈fp,H' b=none)→∀b∈fp,Cj X pins H' b:=fun hn b hb=>⟨hn b hb,(f2 b hb).2⟩
 refine codeAny_forLoop_any (fun n s'=>∃i σ' H',Inv X pins σ' H' s'∧tn i s'.heap∧(∀b∈fp,H' b=none)∧W i n σ' H') ?_ m0 ⟨0,σ,H2,I2,st2,fun b hb=>(f2 b hb).1,w0⟩
 rintro n s3 ⟨i,σ3,H3,I3,st3,fr3,w3⟩
 rcases turn i n σ3 H3 w3 with⟨stop,qn⟩|⟨go,N,hN,step⟩
 ·refine wpAny_passesOwn hp (cC (T.done X rfl rfl rfl hc i pins s3 σ3 H3 X.xe I3 (stat fr3) st3 stop) fun r s4 zz=> ?_)
  obtain⟨hr,I4⟩:=zz
  subst hr
  exact wpAny_execs_nil ⟨σ3,H3,I4,qn⟩
 ·refine wpAny_passesOwn hp (cC (T.item X rfl rfl rfl hc i pins s3 σ3 H3 X.xe I3 (stat fr3) st3 go) fun r s4 zz=> ?_)
  obtain⟨u,hr,h4⟩:=zz
  subst hr
  refine wpAny_passesOwn hp (cC h4 fun _ s5 zz=> ?_)
  obtain⟨x,H5,I5,r5,y5,st5,fr5⟩:=zz
  have I5':=I5.pinned (stat fr5) (T.obj _ _ st5)
  refine wpAny_passesOwn hp (cC (hg _ s5 σ3 H5 x u _ I5' r5 (step x H5 y5)) fun _ s6 zz=> ?_)
  obtain⟨σ6,H6,I6,q6⟩:=zz
  refine wpAny_passesOwn hp (cC (hb _ s6 σ6 H6 _ I6 q6) fun f s7 q7=> ?_)
  have again:∀{σ7:St}{H7:Hp},Inv X (pins++Bl fp s5.heap) σ7 H7 s7→N σ7 H7→∃m,m<n∧∃i σ' H',Inv X pins σ' H' s7∧tn i s7.heap∧(∀b∈fp,H' b=none)∧W i m σ' H':=fun{σ7 H7} I7 n7=>by
   obtain⟨m',hm,w7⟩:=hN σ7 H7 n7
   refine⟨m',hm,i+1,σ7,H7,I7.xr,T.keep _ _ _ st5 fun b hb o e=>(I7.pin (b,o) (List.mem_append_right _ (List.mem_append_right _ (wQ hb e)))).1,fun b hb=> ?_,w7⟩
   obtain⟨o,e,d⟩:=T.obj _ _ st5 b hb
   exact(I7.pin (b,o) (List.mem_append_right _ (List.mem_append_right _ (wQ hb e)))).2.1
  cases f with
  |next=>obtain⟨σ7,H7,I7,n7⟩:=q7;exact again I7 n7
  |cont=>obtain⟨σ7,H7,I7,n7⟩:=q7;exact again I7 n7
  |brk=>obtain⟨σ7,H7,I7,q7⟩:=q7;exact⟨σ7,H7,I7.xr,q7⟩
  |ret v=>obtain⟨x7,σ7,H7,I7,r7,q7⟩:=q7;exact⟨x7,σ7,H7,I7.xr,r7,q7⟩
end
theorem u6{K:PySem.W.Frag}{a:Addr}{xs:List V}{g:TG}{tb:TS}{D:Ends}{σ:St}{H:Hp}(Pv:Nat→St→Hp→Prop)(h0:Pv 0 σ H)(hl:∀i σ H,i≤xs.length→Pv i σ H→bW K H a xs)
  (hs:∀i x σ H,xs[i]? =some x→Pv i σ H→g x σ H fun σ2 H2=>tb { D with nx:=Pv (i+1),ct:=Pv (i+1),bk:=D.nx } σ2 H2) (hd:∀σ H,Pv xs.length σ H→D.nx σ H):
  ∃W:Nat→Nat→St→Hp→Prop,(∃m,W 0 m σ H)∧∀i m σ H,W i m σ H→
   ((KN K a).stop i H∧D.nx σ H)∨((KN K a).go i H∧∃N:St→Hp→Prop,(∀σ' H',N σ' H'→∃m',m'<m∧W (i+1) m' σ' H')∧∀x H',(KN K a).OZ i H x H'→g x σ H' fun σ2 H2=>tb { D with nx:=N,ct:=N,bk:=D.nx } σ2 H2):=by
 refine⟨fun i m σ H=>m=xs.length - i∧i≤xs.length∧Pv i σ H,⟨xs.length,by simp,Nat.zero_le _,h0⟩,?_⟩
 rintro i m σ H ⟨rfl,hi,p⟩
 have q:=hl i σ H hi p
 by_cases hlt:i<xs.length
 ·refine .inr ⟨⟨xs,xs[i],q,by simp[hlt]⟩,Pv (i+1),fun σ' H' p'=>⟨xs.length - (i+1),by omega,rfl,hlt,p'⟩,fun x H' y=> ?_⟩
  obtain⟨e,y⟩:=y
  subst e
  exact hs i x σ _ (y xs q) p
 ·have e:i=xs.length:=by omega
  subst e
  exact .inl ⟨⟨xs,q,Nat.le_refl _⟩,hd σ H p⟩
theorem OG{K:PySem.W.Frag}{a:Addr}{xs:List V}{g:TG}{tb:TS}{D:Ends}{σ:St}{H:Hp}(Pv:Nat→St→Hp→Prop)(h0:Pv 0 σ H)(hl:∀i σ H,i≤xs.length→Pv i σ H→sE K H a xs)
  (hs:∀i x σ H,xs[i]? =some x→Pv i σ H→g x σ H fun σ2 H2=>tb { D with nx:=Pv (i+1),ct:=Pv (i+1),bk:=D.nx } σ2 H2) (hd:∀σ H,Pv xs.length σ H→D.nx σ H):
  ∃W:Nat→Nat→St→Hp→Prop,(∃m,W 0 m σ H)∧∀i m σ H,W i m σ H→
   ((OY K a).stop i H∧D.nx σ H)∨((OY K a).go i H∧∃N:St→Hp→Prop,(∀σ' H',N σ' H'→∃m',m'<m∧W (i+1) m' σ' H')∧∀x H',(OY K a).OZ i H x H'→g x σ H' fun σ2 H2=>tb { D with nx:=N,ct:=N,bk:=D.nx } σ2 H2):=by
 refine⟨fun i m σ H=>m=xs.length - i∧i≤xs.length∧Pv i σ H,⟨xs.length,by simp,Nat.zero_le _,h0⟩,?_⟩
 rintro i m σ H ⟨rfl,hi,p⟩
 have q:=hl i σ H hi p
 by_cases hlt:i<xs.length
 ·refine .inr ⟨⟨xs,xs[i],q,by simp[hlt]⟩,Pv (i+1),fun σ' H' p'=>⟨xs.length - (i+1),by omega,rfl,hlt,p'⟩,fun x H' y=> ?_⟩
  obtain⟨e,y⟩:=y
  subst e
  exact hs i x σ _ (y xs q) p
 ·have e:i=xs.length:=by omega
  subst e
  exact .inl ⟨⟨xs,q,Nat.le_refl _⟩,hd σ H p⟩
end L2
namespace L2
open PySem PySem.Spec PyProof.Rows
abbrev R2:=V→V→Hp→VK→Prop
def DK(X:Cx)(f:Value→Value→Sem Value)(r:R2):Prop:=
 ∀(pins:List (Addr×Obj))(s:Shared)(σ:St)(H:Hp)(x y:V)(v u:Value)(Q:VK),Inv X pins σ H s→RelV x v→RelV y u→r x y H Q→
  wpAny (model X.prog X.w) X.A (f v u) (EP X pins σ Q) X.xe s
def wu(X:Cx)(f:Value)(r:List V→Hp→VK→Prop):Prop:=
 ∀(pins:List (Addr×Obj))(s:Shared)(σ:St)(H:Hp)(xs:List V)(us:List Value)(Q:VK),Inv X pins σ H s→Vals xs us→r xs H Q→
  wpAny (model X.prog X.w) X.A (call f us) (EP X pins σ Q) X.xe s
def SE(X:Cx)(r:V→Hp→(Bool→Hp→Prop)→Prop):Prop:=
 ∀(pins:List (Addr×Obj))(s:Shared)(σ:St)(H:Hp)(x:V)(v:Value)(Q:Bool→Hp→Prop),Inv X pins σ H s→RelV x v→r x H Q→
  wpAny (model X.prog X.w) X.A (truthy v) (TP X pins σ Q) X.xe s
def Qb(r:R2)(ta tb:TE):TE:=fun σ H Q=>ta σ H fun x H1=>tb σ H1 fun y H2=>r x y H2 Q
def S4(r:V→Hp→VK→Prop)(ta:TE):TE:=fun σ H Q=>ta σ H fun x H1=>r x H1 Q
def rI(C:Int→Int→Prop)(g:Int→Int→V):R2:=fun x y H Q=>∃i j,x= .int i∧y= .int j∧C i j∧Q (g i j) H
def N6(g:Int→Int→V):R2:=fun x y H Q=>∃i j,x= .int i∧y= .int j∧Q (g i j) H
def rU(g:Int→V):V→Hp→VK→Prop:=fun x H Q=>∃i,x= .int i∧Q (g i) H
section
variable{X:Cx}{a b c:Expr}{ta tb tc:TE}{pos:Pos}
theorem QN(ha:PE X a ta)(hb:PE X b tb){pins:List (Addr×Obj)}{s:Shared}{σ:St}{H:Hp}{R:V→V→Hp→Prop}(I:Inv X pins σ H s)
  (h:ta σ H fun x H1=>tb σ H1 fun y H2=>R x y H2) {Q:Value→Shared→Prop} {f:Value→Value→Sem Value}
  (hf:∀v u s2 x y H2,Inv X pins σ H2 s2→RelV x v→RelV y u→R x y H2→wpAny (model X.prog X.w) X.A (f v u) Q X.xe s2):
  wpAny (model X.prog X.w) X.A (eval a X.env) (fun v s₁=>wpAny (model X.prog X.w) X.A (eval b X.env) (fun u s₂=>wpAny (model X.prog X.w) X.A (f v u) Q X.xe s₂) X.xe s₁) X.xe s:=by
 refine cC (ha pins s σ H _ I h) fun v s1 zz=> ?_
 obtain⟨x,H1,I1,r1,q1⟩:=zz
 refine cC (hb pins s1 σ H1 _ I1 q1) fun u s2 zz=> ?_
 obtain⟨y,H2,I2,r2,q2⟩:=zz
 exact hf v u s2 x y H2 I2 r1 r2 q2
theorem oQ{op:Operator}{r:R2}(ho:DK X (binaryOp op) r)(ha:PE X a ta)(hb:PE X b tb):PE X (.BinOp a op b pos) (Qb r ta tb):=by
 intro pins s σ H Q I h
 exact wpAny_BinOp (QN ha hb I h fun v u s2 x y H2 I2 rx ry q=>ho pins s2 σ H2 x y v u Q I2 rx ry q)
theorem Rv{f:Value→Value→Sem Value}{g:Int→Int→Int}
  (rule:∀(i j:Int)(t u:Tok)(s:Shared)(Q:Value→Shared→Prop)(E:Value→Shared→Prop),Q (.int (g i j) s.toks) { s with toks:=s.toks+1 }→wpAny (model X.prog X.w) X.A (f (.int i t) (.int j u)) Q E s):
  DK X f (N6 fun i j=>.int (g i j)):=by
 intro pins s σ H x y v u Q I rx ry h
 obtain⟨i,j,rfl,rfl,q⟩:=h
 obtain⟨t,rfl⟩:=rx
 obtain⟨t',rfl⟩:=ry
 exact rule i j t t' s _ _ ⟨.int (g i j),H,I.tok _,⟨_,rfl⟩,q⟩
theorem Oi{f:Value→Value→Sem Value}{g:Int→Int→Bool}
  (rule:∀(i j:Int)(t u:Tok)(s:Shared)(Q:Value→Shared→Prop)(E:Value→Shared→Prop),Q (.bool (g i j)) s→wpAny (model X.prog X.w) X.A (f (.int i t) (.int j u)) Q E s):
  DK X f (N6 fun i j=>.bl (g i j)):=by
 intro pins s σ H x y v u Q I rx ry h
 obtain⟨i,j,rfl,rfl,q⟩:=h
 obtain⟨t,rfl⟩:=rx
 obtain⟨t',rfl⟩:=ry
 exact rule i j t t' s _ _ ⟨.bl (g i j),H,I,rfl,q⟩
def RU(i j:Int):Prop:=(-(2 ^ 64)<i∧i<2 ^ 64)∨(-(2 ^ 64)<j∧j<2 ^ 64)
theorem RU.ok{i j:Int}(h:RU i j):IntMulOk i j:=by
 rcases h with⟨h1,h2⟩|⟨h1,h2⟩
 ·exact .of_left (intBits_le_64 h1 h2)
 ·exact .of_right (intBits_le_64 h1 h2)
theorem Bq:DK X (binaryOp .Add) (N6 fun i j=>.int (i+j)):=Rv fun _ _ _ _ _ _ _ q=>add_int q
theorem G8:DK X (binaryOp .Sub) (N6 fun i j=>.int (i - j)):=Rv fun _ _ _ _ _ _ _ q=>sub_int q
end
def GX:V→V→Bool
 | .non,.non=>true | .non,.int _=>true | .int _,.non=>true | .non,.bl _=>true | .bl _,.non=>true | .non,.str _=>true | .str _,.non=>true
 | .int _,.int _=>true | .bl _,.bl _=>true | .str _,.str _=>true | .Cp _,.Cp _=>true
 | .int _,.str _=>true | .str _,.int _=>true | .bl _,.str _=>true | .str _,.bl _=>true
 |_,_=>false
def RW:R2:=fun x y H Q=>GX x y=true∧Q (.bl (decide (x=y))) H
def SR:R2:=fun x y H Q=>GX x y=true∧Q (.bl (!decide (x=y))) H
theorem Jo{i j:Int}:decide (V.int i=V.int j)=(i==j):=by
 rw[Bool.eq_iff_iff]
 simp
theorem Nj{i j:Bool}:decide (V.bl i=V.bl j)=(i==j):=by
 rw[Bool.eq_iff_iff]
 simp
theorem Jn{i j:Str}:decide (V.str i=V.str j)=(i==j):=by
 rw[Bool.eq_iff_iff]
 simp
theorem Jp{i j:Array UInt8}:decide (V.Cp i=V.Cp j)=(i.toList==j.toList):=by
 rw[Bool.eq_iff_iff]
 cases i
 cases j
 simp
section
variable{X:Cx}{a b c:Expr}{ta tb tc:TE}{pos:Pos}
theorem bZ{pins:List (Addr×Obj)}{σ:St}{H:Hp}{s:Shared}{Q:VK}{k k':Bool}(I:Inv X pins σ H s)(q:Q (.bl k) H)(e:k=k'):EP X pins σ Q (.bool k') s:=by
 subst e
 exact⟨.bl k,H,I,rfl,q⟩
theorem f9:DK X (compareOp .Eq) RW:=by
 intro pins s σ H x y v u Q I rx ry h
 obtain⟨hs,q⟩:=h
 cases x with
 |non=>
  cases rx
  cases y with
  |non=>cases ry;exact PySem.EqNone.eq_none_none (bZ I q (by simp))
  |bl j=>cases ry;exact PySem.EqNone.eq_none_bool (bZ I q (by simp))
  |int j=>obtain⟨t',rfl⟩:=ry;exact PySem.EqNone.eq_none_int (bZ I q (by simp))
  |str j=>obtain⟨t',rfl⟩:=ry;exact PySem.EqNone.eq_none_str (bZ I q (by simp))
  |_=>exact absurd (show false=true from hs) Bool.false_ne_true
 |bl i=>
  cases rx
  cases y with
  |non=>cases ry;exact PySem.EqNone.eq_bool_none (bZ I q (by simp))
  |bl j=>cases ry;exact eq_bool (bZ I q Nj)
  |str j=>obtain⟨t',rfl⟩:=ry;exact PySem.EqMixed.eq_bool_str (bZ I q (by simp))
  |_=>exact absurd (show false=true from hs) Bool.false_ne_true
 |int i=>
  obtain⟨t,rfl⟩:=rx
  cases y with
  |non=>cases ry;exact PySem.EqNone.eq_int_none (bZ I q (by simp))
  |int j=>obtain⟨t',rfl⟩:=ry;exact eq_int (bZ I q Jo)
  |str j=>obtain⟨t',rfl⟩:=ry;exact PySem.EqMixed.eq_int_str (bZ I q (by simp))
  |_=>exact absurd (show false=true from hs) Bool.false_ne_true
 |str i=>
  obtain⟨t,rfl⟩:=rx
  cases y with
  |non=>cases ry;exact PySem.EqNone.eq_str_none (bZ I q (by simp))
  |bl j=>cases ry;exact PySem.EqMixed.eq_str_bool (bZ I q (by simp))
  |int j=>obtain⟨t',rfl⟩:=ry;exact PySem.EqMixed.eq_str_int (bZ I q (by simp))
  |str j=>obtain⟨t',rfl⟩:=ry;exact eq_str (bZ I q Jn)
  |_=>exact absurd (show false=true from hs) Bool.false_ne_true
 |Cp i=>
  obtain⟨t,rfl⟩:=rx
  cases y with
  |Cp j=>obtain⟨t',rfl⟩:=ry;exact PySem.W.eq_bytes (bZ I q Jp)
  |_=>exact absurd (show false=true from hs) Bool.false_ne_true
 |_=>cases y<;>exact absurd (show false=true from hs) Bool.false_ne_true
theorem MA:DK X (compareOp .NotEq) SR:=by
 intro pins s σ H x y v u Q I rx ry h
 obtain⟨hs,q⟩:=h
 cases x with
 |non=>
  cases rx
  cases y with
  |non=>cases ry;exact PySem.EqNone.ne_none_none (bZ I q (by simp))
  |bl j=>cases ry;exact PySem.EqNone.ne_none_bool (bZ I q (by simp))
  |int j=>obtain⟨t',rfl⟩:=ry;exact PySem.EqNone.ne_none_int (bZ I q (by simp))
  |str j=>obtain⟨t',rfl⟩:=ry;exact PySem.EqNone.ne_none_str (bZ I q (by simp))
  |_=>exact absurd (show false=true from hs) Bool.false_ne_true
 |bl i=>
  cases rx
  cases y with
  |non=>cases ry;exact PySem.EqNone.ne_bool_none (bZ I q (by simp))
  |bl j=>cases ry;exact ne_bool (bZ I q (congrArg not Nj))
  |str j=>obtain⟨t',rfl⟩:=ry;exact PySem.EqMixed.ne_bool_str (bZ I q (by simp))
  |_=>exact absurd (show false=true from hs) Bool.false_ne_true
 |int i=>
  obtain⟨t,rfl⟩:=rx
  cases y with
  |non=>cases ry;exact PySem.EqNone.ne_int_none (bZ I q (by simp))
  |int j=>obtain⟨t',rfl⟩:=ry;exact ne_int (bZ I q (congrArg not Jo))
  |str j=>obtain⟨t',rfl⟩:=ry;exact PySem.EqMixed.ne_int_str (bZ I q (by simp))
  |_=>exact absurd (show false=true from hs) Bool.false_ne_true
 |str i=>
  obtain⟨t,rfl⟩:=rx
  cases y with
  |non=>cases ry;exact PySem.EqNone.ne_str_none (bZ I q (by simp))
  |bl j=>cases ry;exact PySem.EqMixed.ne_str_bool (bZ I q (by simp))
  |int j=>obtain⟨t',rfl⟩:=ry;exact PySem.EqMixed.ne_str_int (bZ I q (by simp))
  |str j=>obtain⟨t',rfl⟩:=ry;exact ne_str (bZ I q (congrArg not Jn))
  |_=>exact absurd (show false=true from hs) Bool.false_ne_true
 |Cp i=>
  obtain⟨t,rfl⟩:=rx
  cases y with
  |Cp j=>obtain⟨t',rfl⟩:=ry;exact PySem.W.ne_bytes (bZ I q (congrArg not Jp))
  |_=>exact absurd (show false=true from hs) Bool.false_ne_true
 |_=>cases y<;>exact absurd (show false=true from hs) Bool.false_ne_true
theorem PX:DK X (compareOp .Lt) (N6 fun i j=>.bl (decide (i<j))):=Oi fun _ _ _ _ _ _ _ q=>lt_int q
theorem kF:DK X (compareOp .LtE) (N6 fun i j=>.bl (decide (i≤j))):=Oi fun _ _ _ _ _ _ _ q=>le_int q
theorem v8:DK X (compareOp .Gt) (N6 fun i j=>.bl (decide (j<i))):=Oi fun _ _ _ _ _ _ _ q=>gt_int q
theorem MB:DK X (compareOp .GtE) (N6 fun i j=>.bl (decide (j≤i))):=Oi fun _ _ _ _ _ _ _ q=>ge_int q
theorem aY(b:Expr){op:CmpOp}(h:op≠.In:=by decide)(h2:op≠.NotIn:=by decide):behindInMarks op b=false:=by
 have e1:(op==CmpOp.In)=false:=by cases op<;>first |rfl |exact absurd rfl h
 have e2:(op==CmpOp.NotIn)=false:=by cases op<;>first |rfl |exact absurd rfl h2
 cases b<;>simp[behindInMarks,e1,e2]
theorem nN{op:CmpOp}{r:R2}(ho:DK X (compareOp op) r)(ha:PE X a ta)(hb:PE X b tb)(hm:behindInMarks op b=false):PE X (.Compare a [op] [b] pos) (Qb r ta tb):=by
 intro pins s σ H Q I h
 exact wpAny_Compare1 (QN ha hb I h fun v u s2 x y H2 I2 rx ry q=>ho pins s2 σ H2 x y v u Q I2 rx ry q) hm
def Fd(t:TE):TT:=fun σ H Q=>t σ H fun x H'=>∃k,x= .bl k∧Q k H'
theorem aV{op:CmpOp}{r:R2}(ho:DK X (compareOp op) r)(ha:PE X a ta)(hb:PE X b tb)(hm:behindInMarks op b=false):PT X (.Compare a [op] [b] pos) (Fd (Qb r ta tb)):=by
 intro pins s σ H Q I h
 refine wpAny_isTrue_Compare1 (cC (ha pins s σ H _ I h) fun v s1 ⟨x,H1,I1,r1,q1⟩=>cC (hb pins s1 σ H1 _ I1 q1) fun u s2 ⟨y,H2,I2,r2,q2⟩=>
  cC (ho pins s2 σ H2 x y v u _ I2 r1 r2 q2) fun c s3 ⟨z,H3,I3,r3,k,e,q3⟩=> ?_) hm
 subst e
 cases r3
 exact wpAny_truthy_bool ⟨H3,I3,q3⟩
def GN(r r':R2)(ta tb tc:TE):TE:=fun σ H Q=>ta σ H fun x H1=>tb σ H1 fun y H2=>r x y H2 fun z H3=>∃k,z= .bl k∧
 (if k=true then tc σ H3 fun w' H4=>r' y w' H4 Q else Q (.bl false) H3)
theorem Bo{op op':CmpOp}{r r':R2}(ho:DK X (compareOp op) r)(ho':DK X (compareOp op') r')(ha:PE X a ta)(hb:PE X b tb)(hc:PE X c tc)
  (hm:lastMarks [op,op'] [b,c]=false:=by with_unfolding_all rfl):PE X (.Compare a [op,op'] [b,c] pos) (GN r r' ta tb tc):=by
 intro pins s σ H Q I h
 refine Compare_chain (cC (ha pins s σ H _ I h) fun v s1 ⟨x,H1,I1,r1,q1⟩=>chain_link (cC (hb pins s1 σ H1 _ I1 q1) fun u s2 ⟨y,H2,I2,r2,q2⟩=>
  cC (ho pins s2 σ H2 x y v u _ I2 r1 r2 q2) fun d s3 ⟨z,H3,I3,r3,k,e,q3⟩=> ?_)) hm
 subst e
 cases r3
 refine wpAny_truthy_bool ?_
 cases k with
 |false=>exact ite_ff ⟨.bl false,H3,I3,rfl,q3⟩
 |true=>exact ite_tt (chain_last (cC (hc pins s3 σ H3 _ I3 q3) fun w' s4 ⟨z',H4,I4,r4,q4⟩=>ho' pins s4 σ H4 y z' u w' Q I4 r2 r4 q4))
theorem uL{op op':CmpOp}{r r':R2}(ho:DK X (compareOp op) r)(ho':DK X (compareOp op') r')(ha:PE X a ta)(hb:PE X b tb)(hc:PE X c tc)
  (hm:lastMarks [op,op'] [b,c]=false:=by with_unfolding_all rfl):PT X (.Compare a [op,op'] [b,c] pos) (Fd (GN r r' ta tb tc)):=by
 intro pins s σ H Q I h
 refine isTrue_chain (cC (ha pins s σ H _ I h) fun v s1 ⟨x,H1,I1,r1,q1⟩=>test_link (cC (hb pins s1 σ H1 _ I1 q1) fun u s2 ⟨y,H2,I2,r2,q2⟩=>
  cC (ho pins s2 σ H2 x y v u _ I2 r1 r2 q2) fun d s3 ⟨z,H3,I3,r3,k,e,q3⟩=> ?_)) hm
 subst e
 cases r3
 refine wpAny_truthy_bool ?_
 cases k with
 |false=>
  obtain⟨k',e',q'⟩:=q3
  cases e'
  exact ite_ff ⟨H3,I3,q'⟩
 |true=>
  refine ite_tt (test_last (cC (hc pins s3 σ H3 _ I3 q3) fun w' s4 ⟨z',H4,I4,r4,q4⟩=>cC (ho' pins s4 σ H4 y z' u w' _ I4 r2 r4 q4) fun d' s5 zz=> ?_))
  obtain⟨z2,H5,I5,r5,k2,e2,q5⟩:=zz
  subst e2
  cases r5
  exact wpAny_truthy_bool ⟨H5,I5,q5⟩
def ND(K:PySem.W.Frag)(x:V)(H:Hp)(k:Bool):Prop:=
 match x with
 | .non=>k=false
 | .bl b=>k=b
 | .int i=>k=(i != 0)
 | .str y=>y.length≤sizeLine∧k=((y.length:Int) != 0)
 | .Cp y=>y.size≤sizeLine∧k=((y.size:Int) != 0)
 | .ref p=>(∃xs,bW K H p xs∧k= !xs.isEmpty)∨(∃xs,sE K H p xs∧k= !xs.isEmpty)∨∃kvs,H p=some (.dK kvs)∧k= !kvs.isEmpty
 |_=>False
theorem Hq{κ:Type}{kvs:List (κ×V)}{vs:List (κ×Value)}(r:KV kvs vs):(!vs.isEmpty)= !kvs.isEmpty:=by
 cases r<;>rfl
theorem BQ{xs:List V}{its:List Value}(r:Vals xs its):(!its.toArray.isEmpty)= !xs.isEmpty:=by
 cases r<;>simp
theorem Ex:(sizeLine:Nat)<2 ^ 63:=by rw[sizeLine_eq];decide
theorem KY:SE X (fun x H Q=>∃k,ND X.K x H k∧Q k H):=by
 intro pins s σ H x v Q I rx h
 obtain⟨k,e,q⟩:=h
 have hl:=Ex
 have hs:sizeLine=16777216:=sizeLine_eq
 cases x with
 |non=>
  cases rx
  have e':k=false:=e
  subst e'
  exact truthy_none ⟨H,I,q⟩
 |bl b=>
  cases rx
  have e':k=b:=e
  subst e'
  exact wpAny_truthy_bool ⟨H,I,q⟩
 |int i=>
  obtain⟨t,rfl⟩:=rx
  have e':k=(i != 0):=e
  subst e'
  exact PySem.P.truthy_int ⟨H,I,q⟩
 |str y=>
  obtain⟨t,rfl⟩:=rx
  obtain⟨hy,e'⟩:y.length≤sizeLine∧k=((y.length:Int) != 0):=e
  subst e'
  exact PySem.P.truthy_str (by omega) ⟨H,I.tok _,q⟩
 |Cp y=>
  obtain⟨t,rfl⟩:=rx
  obtain⟨hy,e'⟩:y.size≤sizeLine∧k=((y.size:Int) != 0):=e
  subst e'
  exact PySem.W.truthy_bytes (by omega) ⟨H,I.tok _,q⟩
 |ref p=>
  cases rx
  have e':(∃xs,bW X.K H p xs∧k= !xs.isEmpty)∨(∃xs,sE X.K H p xs∧k= !xs.isEmpty)∨∃kvs,H p=some (.dK kvs)∧k= !kvs.isEmpty:=e
  rcases e' with⟨xs,hx,e'⟩|⟨xs,hx,e'⟩|⟨kvs,hx,e'⟩
  ·subst e'
   obtain⟨its,r,pl,hz⟩:=I.list hx
   have hlen:=r.length
   exact wpAny_truthy_list pl.isList (by simp only[List.size_toArray];omega) ⟨H,I.tok _,by rw[BQ r];exact q⟩
  ·subst e'
   obtain⟨its,r,pl,hz⟩:=I.tuple hx
   have hlen:=r.length
   exact truthy_tuple pl (by simp only[List.size_toArray];omega) ⟨H,I.tok _,by rw[BQ r];exact q⟩
  ·subst e'
   obtain⟨hz,hS,vs,r,m⟩:kvs.length≤sizeLine∧(p==sysModules)=false∧∃vs,KV kvs vs∧s.heap.DictOf (dE X.prog X.w) p vs:=I.hok p _ hx
   have hlen:kvs.length=vs.length:=Paired.length r
   exact wpAny_truthy_dict hS m (by omega) ⟨H,I.tok _,by rw[Hq r];exact q⟩
 |_=>exact(show False from e).elim
theorem rJ(ha:PE X a ta)(he:∀whole,isTrue a X.env whole=(do let v ←whole;standAt a.pos;holding [v] (truthy v))):
  PT X a (fun σ H Q=>ta σ H fun x H'=>∃k,ND X.K x H' k∧Q k H'):=by
 intro pins s σ H Q I h
 exact isTrue_plain (cC (ha pins s σ H _ I h) fun v s1 ⟨x,H1,I1,r1,q1⟩=>KY pins s1 σ H1 x v Q I1 r1 q1) (he _)
theorem F7:DK X (inplaceOp .Add) (fun x y H Q=>∃i j,x= .str i∧y= .str j∧i.length+j.length≤sizeLine∧Q (.str (i++j)) H):=by
 intro pins s σ H x y v u Q I rx ry h
 obtain⟨i,j,rfl,rfl,hz,q⟩:=h
 obtain⟨t,rfl⟩:=rx
 obtain⟨t',rfl⟩:=ry
 exact iadd_str (fun t' tk=>⟨.str (i++j),H,I.tok _,⟨_,rfl⟩,q⟩) hz
theorem vals1{x:V}{us:List Value}(r:Vals [x] us):∃u,us=[u]∧RelV x u:=by
 cases r with
 |cons r1 r2=>cases r2;exact⟨_,rfl,r1⟩
theorem EJ:wu X (.type "str") (fun xs H Q=>∃i,xs=[.int i]∧i.natAbs.log2<1920∧Q (.str (toString i)) H):=by
 intro pins s σ H xs us Q I r h
 obtain⟨i,rfl,hz,q⟩:=h
 obtain⟨u,rfl,t,rfl⟩:=vals1 r
 exact PySem.P.str_of_int hz ⟨.str _,H,I.tok _,⟨_,rfl⟩,q⟩
def pJ(K:PySem.W.Frag)(x:V)(H:Hp)(n:Nat):Prop:=
 match x with
 | .str y=>y.length≤sizeLine∧n=y.length
 | .Cp y=>y.size≤sizeLine∧n=y.size
 | .ref p=>(∃xs,bW K H p xs∧n=xs.length)∨∃xs,sE K H p xs∧n=xs.length
 |_=>False
theorem Np:wu X (.builtin "len") (fun xs H Q=>∃x n,xs=[x]∧pJ X.K x H n∧Q (.int n) H):=by
 intro pins s σ H xs us Q I r h
 obtain⟨x,n,rfl,e,q⟩:=h
 obtain⟨u,rfl,rx⟩:=vals1 r
 have hl:=Ex
 have hs:sizeLine=16777216:=sizeLine_eq
 cases x with
 |str y=>
  obtain⟨t,rfl⟩:=rx
  obtain⟨hy,e'⟩:y.length≤sizeLine∧n=y.length:=e
  subst e'
  exact len_str (by omega) ⟨.int _,H,I.tok _,⟨_,rfl⟩,q⟩
 |Cp y=>
  obtain⟨t,rfl⟩:=rx
  obtain⟨hy,e'⟩:y.size≤sizeLine∧n=y.size:=e
  subst e'
  exact PySem.W.len_bytes (by omega) ⟨.int _,H,I.tok _,⟨_,rfl⟩,q⟩
 |ref p=>
  cases rx
  have e':(∃xs,bW X.K H p xs∧n=xs.length)∨∃xs,sE X.K H p xs∧n=xs.length:=e
  rcases e' with⟨xs,hx,e'⟩|⟨xs,hx,e'⟩
  ·subst e'
   obtain⟨its,r',pl,hz⟩:=I.list hx
   have hlen:=r'.length
   exact Calls.call_len_list pl.isList (by simp only[List.size_toArray];omega) ⟨.int xs.length,H,I.tok _,⟨_,by simp only[List.size_toArray];rw[hlen]⟩,q⟩
  ·subst e'
   obtain⟨its,r',pl,hz⟩:=I.tuple hx
   have hlen:=r'.length
   exact len_tuple pl (by simp only[List.size_toArray];omega) ⟨.int xs.length,H,I.tok _,⟨_,by simp only[List.size_toArray];rw[hlen]⟩,q⟩
 |_=>exact(show False from e).elim
end
end L2
namespace L2
open PySem PySem.Spec PyProof.Rows
structure HK(h:Heap)(x dx C:Addr)(mA:Str→Option Value):Prop where
 obj:h.get? x=some (PySem.W.instObj C dx)
 ns:h.Ns1 dx mA
 ne:dx≠x
theorem Kg{h:Heap}{dx:Addr}{mA:Str→Option Value}(n:h.Ns1 dx mA):∃od,h.get? dx=some od∧∀name,PySem.W.lookIn name od=some (mA name):=by
 obtain⟨o,es,ep,ho,hd,hk,_,hm⟩:=n
 refine⟨o,ho,fun name=> ?_⟩
 have e:=hm name
 unfold nsFind findBy at e
 rw[←Array.find?_toList]at e
 unfold PySem.W.lookIn
 rw[hd]
 dsimp only
 split
 ·rename_i y q
  rw[q]at e
  exact congrArg some e
 ·rename_i q
  rw[q]at e
  have a:es.toList.any (·.refKey)=false:=by
   rw[List.any_eq_false]
   intro y hy
   obtain⟨z,t,hkey⟩:=hk y (Array.mem_toList_iff.mp hy)
   simp[DictEntry.refKey,hkey]
  have a':¬es.toList.any (·.refKey)=true:=by rw[a];exact Bool.false_ne_true
  rw[if_neg a']
  exact congrArg some e
theorem HK.look{h:Heap}{x dx C:Addr}{mA:Str→Option Value}(I:HK h x dx C mA):∃od,PySem.W.InstAt h x (PySem.W.instObj C dx) C (some od)∧∀name,PySem.W.lookIn name od=some (mA name):=
 let ⟨od,ho,hl⟩:=Kg I.ns
 ⟨od,⟨I.obj,rfl,rfl,ho⟩,hl⟩
section
variable{prog:Program}{w:World}{A:Around}{E:Value→Shared→Prop}{s:Shared}{K:PySem.W.Frag}{x dx C f:Addr}{mA:Str→Option Value}{name:Str}{v:Value}
theorem get_map{expr:Bool}{Q:Value→Shared→Prop}(X:K.In s.heap)(I:HK s.heap x dx C mA)(hg:PySem.W.plainGet K C name=true)(hh:PySem.W.hasDictIn K C=true)
  (ha:PySem.W.findIn K (.ref C) name=some none) (hv:mA name=some v) (hv':PySem.W.handedIn v=true) (h:Q v { s with toks:=s.toks+1 }):
  wpAny (model prog w) A (getAttr (.ref x) name expr) Q E s:=by
 obtain⟨od,J,hl⟩:=I.look
 exact PySem.W.get_value X J (PySem.W.plainGet_of hg).1 (PySem.W.findObj_own hh ha rfl (by rw[hl,hv])) hv' h
theorem M4{pl:Sem Bool}{Q:Value×List Value→Shared→Prop}(X:K.In s.heap)(I:HK s.heap x dx C mA)(hg:PySem.W.plainGet K C name=true)
  (hf:PySem.W.findIn K (.ref C) name=some (some (.ref f))) (ht:PySem.W.isFn K (.ref f)=true) (hv:mA name=none) (h:Q (.ref f,[.ref x]) s):
  wpAny (model prog w) A (getMethod (.ref x) name pl) Q E s:=by
 obtain⟨od,J,hl⟩:=I.look
 exact PySem.W.method_fn X J (PySem.W.plainGet_of hg).1 (PySem.W.plainGet_of hg).2 hf (beq_iff_eq.mp ht) (by show(PySem.W.lookIn name od).map (·.isSome)=some false;rw[hl,hv];rfl) h
theorem NZ{ns:List Str}{Q:Unit→Shared→Prop}(X:K.In s.heap)(I:HK s.heap x dx C mA)
  (hs:PySem.W.findIn K (.ref C) "__setattr__"=some (some (.builtin "object.__setattr__"))) (hp:PySem.W.plainOver K C=true) (ht:PySem.W.takerIn K C name=some none) (hh:PySem.W.hasDictIn K C=true)
  (hw:PySem.Within mA ns) (hsz:ns.length≤sizeLine)
  (h:∀h',HK h' x dx C (fun y=>if y=name then some v else mA y)→Heap.SameBut dx s.heap h'→Q () { s with heap:=h',toks:=s.toks+2 }):
  wpAny (model prog w) A (setAttr (.ref x) name v) Q E s:=by
 obtain⟨od,J,hl⟩:=I.look
 refine PySem.W.set_plain X J hs (PySem.W.osa_open (s:={ s with toks:=s.toks+1 }) (r:=none) X J hp ht fun b=> ?_)
 obtain⟨cd,hc,hd'⟩:=PySem.W.any_some hh
 have hx:s.heap.get? x=some ⟨.ref C,some dx,.plain,#[]⟩:=I.obj
 refine wpAny_bind (wpAny_pure (wpAny_bind (wpAny_bind (wpAny_loadPart hx (wpAny_bind (PySem.W.Looks.here (s:={ s with toks:=s.toks+1 }) (PySem.W.looks_clsIn X hc) ?_))))))
 rw[hd']
 refine wpAny_pure (a:=some dx) (wpAny_bind (wpAny_pure (wpAny_bind ?_)))
 refine wpAny_nsSet1 (s:={ s with toks:=s.toks+1 }) I.ns fun h' hn2 hs2=> ?_
 obtain⟨oD,esD,epD,hoD,hdD,hcD⟩:=hn2.count (PySem.Within.cons name v hw)
 refine wpAny_bind (wpAny_lookBehind hoD (by rw[hdD];exact pastItsLine_dict (Nat.le_trans hcD (by rw[List.length_cons];omega))) ?_)
 exact wpAny_pure (h _ ⟨(hs2.2 _ (Ne.symm I.ne)).trans I.obj,hn2,I.ne⟩ hs2)
theorem ML{R:Result→Shared→Prop}{vs:List Value}{kw:List (Str×Value)}(X:K.In s.heap)(hm:PySem.W.makesIn K C=true)
  (hi:PySem.W.findIn K (.ref C) "__init__"=some (some (.ref f))) (hf:PySem.W.typeIn K (.ref f)=some (.type "function"))
  (h:codeAny (model prog w) (A.under (.builtin "type.__call__" ⟨.ref C::vs,kw⟩)) (.call (.ref f) ⟨.ref (s.heap.objs.size+1)::vs,kw⟩) (PySem.W.InitBack (s.heap.objs.size+1) R)
   { s with heap:=(s.heap.push PySem.W.emptyDict).push (PySem.W.instObj C s.heap.objs.size) }):
  codeAny (model prog w) A (.call (.ref C) ⟨vs,kw⟩) R s:=by
 obtain⟨hh,g,d,t,os⟩:=s
 exact PySem.W.make_core (PySem.W.makes_of X hm) (PySem.W.looks_findIn X hi) (fun self=>PySem.W.bind_fn X self hf) (.inl rfl) h
end
def eU(f:Str)(v:V):List (Str×V)→List (Str×V)
 |[]=>[(f,v)]
 |(g,x)::r=>if g=f then(g,v)::r else(g,x)::eU f v r
theorem uZ(f g:Str)(v:V):∀fs:List (Str×V),(eU f v fs).lookup g=if g=f then some v else fs.lookup g
 |[]=>by
  show List.lookup g [(f,v)]=_
  by_cases h:g=f
  ·have hb:(g==f)=true:=beq_iff_eq.mpr h
   simp only[List.lookup,hb,if_pos h]
  ·have hb:(g==f)=false:=beq_eq_false_iff_ne.mpr h
   simp only[List.lookup,hb,if_neg h]
 |(k,x)::r=>by
  have ih:=uZ f g v r
  rw[show eU f v ((k,x)::r)=(if k=f then(k,v)::r else(k,x)::eU f v r)from rfl]
  by_cases hk:k=f
  ·rw[if_pos hk]
   by_cases h:g=k
   ·have hb:(g==k)=true:=beq_iff_eq.mpr h
    simp only[List.lookup,hb,if_pos (h.trans hk)]
   ·have hb:(g==k)=false:=beq_eq_false_iff_ne.mpr h
    simp only[List.lookup,hb,if_neg (fun e:g=f=>h (e.trans hk.symm))]
  ·rw[if_neg hk]
   by_cases h:g=k
   ·have hb:(g==k)=true:=beq_iff_eq.mpr h
    simp only[List.lookup,hb,if_neg (fun e:g=f=>hk (h.symm.trans e))]
   ·have hb:(g==k)=false:=beq_eq_false_iff_ne.mpr h
    simp only[List.lookup,hb]
    exact ih
theorem rT(f:Str)(v:V):∀fs:List (Str×V),f∈(eU f v fs).map (·.1)∧∀g,g∈fs.map (·.1)→g∈(eU f v fs).map (·.1)
 |[]=>⟨by simp[eU],fun g h=>by simp at h⟩
 |(k,x)::r=>by
  obtain⟨i1,i2⟩:=rT f v r
  rw[show eU f v ((k,x)::r)=(if k=f then(k,v)::r else(k,x)::eU f v r)from rfl]
  by_cases hk:k=f
  ·rw[if_pos hk]
   subst hk
   exact⟨by simp,fun g h=>by simpa using h⟩
  ·rw[if_neg hk]
   refine⟨?_,fun g h=> ?_⟩
   ·rw[List.map_cons]
    exact List.mem_cons_of_mem _ i1
   ·rw[List.map_cons]at h ⊢
    rcases List.mem_cons.mp h with e |e
    ·exact List.mem_cons.mpr (.inl e)
    ·exact List.mem_cons_of_mem _ (i2 g e)
theorem zU(f:Str)(v:V):∀fs:List (Str×V),(eU f v fs).length≤fs.length+1
 |[]=>by simp[eU]
 |(k,x)::r=>by
  have ih:=zU f v r
  rw[show eU f v ((k,x)::r)=(if k=f then(k,v)::r else(k,x)::eU f v r)from rfl]
  by_cases hk:k=f
  ·rw[if_pos hk,List.length_cons,List.length_cons];omega
  ·rw[if_neg hk,List.length_cons,List.length_cons];omega
theorem m9.some_of{v:V}{o:Option Value}(r:m9 (some v) o):∃u,o=some u∧RelV v u:=by
 cases o with
 |none=>exact(show False from r).elim
 |some u=>exact⟨u,rfl,r⟩
theorem m9.none_of{o:Option Value}(r:m9 none o):o=none:=by
 cases o with
 |none=>rfl
 |some u=>exact(show False from r).elim
theorem Kr{v:V}{u:Value}(r:RelV v u):PySem.W.handedIn u=true:=by
 cases v with
 |non=>cases (show u=Value.none from r);rfl
 |bl b=>cases (show u=Value.bool b from r);rfl
 |int i=>obtain⟨t,e⟩:=(show ∃t,u=Value.int i t from r);cases e;rfl
 |str x=>obtain⟨t,e⟩:=(show ∃t,u=Value.str x t from r);cases e;rfl
 |Cp b=>obtain⟨t,e⟩:=(show ∃t,u=Value.bytes b t from r);cases e;rfl
 |flt b=>obtain⟨t,e⟩:=(show ∃t,u=Value.float b t from r);cases e;rfl
 |ref a=>cases (show u=Value.ref a from r);rfl
 |ty n=>cases (show u=Value.type n from r);rfl
section
variable{P:Program}{w:World}{H H':Hp}{h h':Heap}{a C dx:Addr}{fs fs':List (Str×V)}
theorem Ez(hok:tL P w H h)(e:H a=some (.ins C dx fs)):∃mA,HK h a dx C mA∧(∀f,m9 (fs.lookup f) (mA f))∧PySem.Within mA (fs.map (·.1))∧fs.length≤1000∧H dx=some (.own a):=by
 obtain⟨d,z,ne,ob,mA,n,r,q⟩:=(show cM P w H h a (.ins C dx fs)from hok a _ e)
 exact⟨mA,⟨ob,n,ne⟩,r,q,z,d⟩
end
structure Cls(K:PySem.W.Frag)(C:Addr):Prop where
 pg:PySem.W.plainGet K C Str.empty=true
 hd:PySem.W.hasDictIn K C=true
 po:PySem.W.plainOver K C=true
 sa:PySem.W.findIn K (.ref C) "__setattr__"=some (some (.builtin "object.__setattr__"))
theorem Cls.get{K:PySem.W.Frag}{C:Addr}(c:Cls K C)(f:Str):PySem.W.plainGet K C f=true:=c.pg
def bf(K:PySem.W.Frag)(C:Addr)(f:Str):Prop:=PySem.W.findIn K (.ref C) f=some none
theorem bf.taker{K:PySem.W.Frag}{C:Addr}{f:Str}(n:bf K C f):PySem.W.takerIn K C f=some none:=by
 unfold PySem.W.takerIn
 rw[show PySem.W.findIn K (.ref C) f=some none from n]
 rfl
structure S1(K:PySem.W.Frag)(C:Addr)(f:Str)(v:V)(u:Value):Prop where
 at_:PySem.W.findIn K (.ref C) f=some (some u)
 rel:RelV v u
 get:PySem.W.specialIn K u "__get__"=some none
 cp:PySem.W.copiedNames.contains f=false
structure Meth(K:PySem.W.Frag)(C:Addr)(m:Str)(f:Addr):Prop where
 at_:PySem.W.findIn K (.ref C) m=some (some (.ref f))
 fn:PySem.W.isFn K (.ref f)=true
 kp:PySem.W.keepIn K (.ref f)=true
section
variable{X:Cx}{pins:List (Addr×Obj)}{σ:St}{H:Hp}{s:Shared}{a C dx:Addr}{fs:List (Str×V)}{f:Str}{v:V}{A:Around}{E:Value→Shared→Prop}
theorem BU{b:Bool}{Q:Value→Shared→Prop}(I:Inv X pins σ H s)(e:H a=some (.ins C dx fs))(c:Cls X.K C)(n:bf X.K C f)(l:fs.lookup f=some v)
  (h:∀u s',Inv X pins σ H s'→RelV v u→Q u s'):wpAny (model X.prog X.w) A (getAttr (.ref a) f b) Q E s:=by
 obtain⟨mA,O,r,_,_,_⟩:=Ez I.hok e
 obtain⟨u,hu,ru⟩:=m9.some_of (v:=v) (o:=mA f) (by rw[←l];exact r f)
 exact get_map I.vZ O (c.get f) c.hd n hu (Kr ru) (h u _ (I.tok _) ru)
theorem sW{m:Str}{g:Addr}{pl:Sem Bool}{Q:Value×List Value→Shared→Prop}(I:Inv X pins σ H s)(e:H a=some (.ins C dx fs))(c:Cls X.K C)(k:Meth X.K C m g)(l:fs.lookup m=none)
  (h:Q (.ref g,[.ref a]) s):wpAny (model X.prog X.w) A (getMethod (.ref a) m pl) Q E s:=by
 obtain⟨mA,O,r,_,_,_⟩:=Ez I.hok e
 have hn:mA m=none:=m9.none_of (by rw[←l];exact r m)
 exact M4 I.vZ O (c.get m) k.at_ k.fn hn h
theorem A6{y:V}{u:Value}{Q:Unit→Shared→Prop}(I:Inv X pins σ H s)(e:H a=some (.ins C dx fs))(c:Cls X.K C)(n:bf X.K C f)(hl:fs.length<1000)(ry:RelV y u)
  (h:∀s',Inv X pins σ (upd H a (.ins C dx (eU f y fs))) s'→Q () s'):wpAny (model X.prog X.w) A (setAttr (.ref a) f u) Q E s:=by
 obtain⟨mA,O,r,wi,_,ho⟩:=Ez I.hok e
 have hz:(fs.map (·.1)).length≤sizeLine:=by rw[List.length_map,sizeLine_eq];omega
 refine NZ I.vZ O c.sa c.po n.taker c.hd wi hz fun h' O' sb=>h _ ?_
 have hd:∃o,h'.get? dx=some o:=let ⟨o,_,_,e',_⟩:=O'.ns;⟨o,e'⟩
 refine I.write (x:=a) (e:=dx) (by rw[e];exact True.intro) (.inr ho) (fun b q hb z=>(sb.2 b hb).trans z) hd ?_
 refine⟨by rw[aq O.ne];exact ho,?_,O.ne,O'.obj,_,O'.ns,fun g=> ?_,fun g hg=> ?_⟩
 ·have:=zU f y fs;omega
 ·show m9 ((eU f y fs).lookup g) (if g=f then some u else mA g)
  rw[uZ]
  by_cases q:g=f
  ·rw[if_pos q,if_pos q];exact ry
  ·rw[if_neg q,if_neg q];exact r g
 ·by_cases q:g=f
  ·rw[q];exact(rT f y fs).1
  ·refine(rT f y fs).2 g (wi g fun z=>hg ?_)
   show(if g=f then some u else mA g)=none
   rw[if_neg q];exact z
theorem Inv.made(I:Inv X pins σ H s):Inv X pins σ (upd (upd H s.heap.objs.size (.own (s.heap.objs.size+1))) (s.heap.objs.size+1) (.ins C s.heap.objs.size []))
  { s with heap:=(s.heap.push PySem.W.emptyDict).push (PySem.W.instObj C s.heap.objs.size) }:=by
 have e1:(s.heap.push PySem.W.emptyDict).get? s.heap.objs.size=some PySem.W.emptyDict:=Heap.get?_push_size s.heap rfl
 have e2:((s.heap.push PySem.W.emptyDict).push (PySem.W.instObj C s.heap.objs.size)).get? (s.heap.objs.size+1)=some (PySem.W.instObj C s.heap.objs.size):=by
  have:=Heap.get?_push_size (s.heap.push PySem.W.emptyDict) (o:=PySem.W.instObj C s.heap.objs.size) rfl
  rwa [Heap.size_push]at this
 have e3:(s.heap.push PySem.W.emptyDict).Ns s.heap.objs.size (fun _=>none):=⟨PySem.W.emptyDict,#[],_,e1,rfl,(fun e he=>absurd he (by simp)),fun _=>rfl⟩
 have I1:=I.laid (a:=s.heap.objs.size) (o:=.own (s.heap.objs.size+1)) (h':=s.heap.push PySem.W.emptyDict) (t':=s.toks) (fun b u q=>Heap.get?_push_of_some _ q) (Nat.le_refl _) ⟨_,e1⟩
 refine I1.laid (a:=s.heap.objs.size+1) (o:=.ins C s.heap.objs.size []) (t':=s.toks) (fun b u q=>Heap.get?_push_of_some _ q) (Nat.le_of_eq (Heap.size_push _ _)) ?_
 have ne:s.heap.objs.size≠s.heap.objs.size+1:=Nat.ne_of_lt (Nat.lt_succ_self _)
 refine⟨by rw[aq ne,aj],Nat.zero_le _,ne,e2,fun _=>none,(Heap.Ns1.of_empty e3).at fun o q=>Heap.get?_push_of_some _ q,fun _=>True.intro,fun y hy=>absurd rfl hy⟩
theorem Jz{prog:Program}{w:World}{env:Env}{e:Expr}{f:Str}{pos:Pos}{s:Shared}{Q:Value→Shared→Prop}(hb:attributeBase e f env (eval e env)=eval e env)
  (h:wpAny (model prog w) A (eval e env) (fun o s₁=>wpAny (model prog w) A (getAttr o f true) Q E s₁) E s):wpAny (model prog w) A (eval (.Attribute e f pos) env) Q E s:=
 Attribute_any_ h (by rw[arm_eval_Attribute,hb])
end
def LA(K:PySem.W.Frag)(ta:TE)(f:Str):TE:=fun σ H Q=>ta σ H fun x H1=>∃a C dx fs v,x= .ref a∧H1 a=some (.ins C dx fs)∧Cls K C∧bf K C f∧fs.lookup f=some v∧Q v H1
def R7(K:PySem.W.Frag)(ta:TE)(f:Str):TE:=fun σ H Q=>ta σ H fun x H1=>∃a C dx fs v u,x= .ref a∧H1 a=some (.ins C dx fs)∧Cls K C∧S1 K C f v u∧fs.lookup f=none∧Q v H1
def Rc(K:PySem.W.Frag)(ta tv:TE)(f:Str):TS:=fun D σ H=>tv σ H fun y H1=>ta σ H1 fun x H2=>∃a C dx fs,x= .ref a∧H2 a=some (.ins C dx fs)∧Cls K C∧bf K C f∧fs.length<1000∧
 D.nx σ (upd H2 a (.ins C dx (eU f y fs)))
def RT(X:Cx)(op:Operator)(rd:V→V→Hp→VK→Prop):Prop:=
 ∀(pins:List (Addr×Obj))(s:Shared)(σ:St)(H:Hp)(x y:V)(u v:Value)(Q:VK),Inv X pins σ H s→RelV x u→RelV y v→rd x y H Q→wpAny (model X.prog X.w) X.A (inplaceOp op u v) (EP X pins σ Q) X.xe s
def Iu(K:PySem.W.Frag)(ta tv:TE)(rd:V→V→Hp→VK→Prop)(f:Str):TS:=fun D σ H=>ta σ H fun x H1=>∃a C dx fs v,x= .ref a∧H1 a=some (.ins C dx fs)∧Cls K C∧bf K C f∧fs.lookup f=some v∧
 tv σ H1 fun y H2=>rd v y H2 fun z H3=>∃dx' fs',H3 a=some (.ins C dx' fs')∧fs'.length<1000∧D.nx σ (upd H3 a (.ins C dx' (eU f z fs')))
section
variable{X:Cx}{o e value:Expr}{f:Str}{pos pos' tpos:Pos}{ta tv:TE}
theorem aM(he:PE X e ta)(hb:attributeBase e f X.env (eval e X.env)=eval e X.env):PE X (.Attribute e f pos) (LA X.K ta f):=by
 intro pins s σ H Q I h
 refine Jz hb (cC (he pins s σ H _ I h) fun u s1 zz=> ?_)
 obtain⟨x,H1,I1,rx,a,C,dx,fs,v,ex,ea,c,n,l,q⟩:=zz
 subst ex
 obtain rfl:u=Value.ref a:=rx
 exact BU I1 ea c n l fun u' s2 I2 ru=>⟨v,H1,I2,ru,q⟩
theorem bR(ha:PE X o ta)(hv:PE X value tv)(hs:swapsWith value (some (.Attribute o f pos')) pos.line X.env=pure false):PS X (.Assign [.Attribute o f pos'] value pos) (Rc X.K ta tv f):=by
 intro pins s σ H D I h
 refine plainObj_wpAny_Assign_Attribute (cC (hv pins s σ H _ I h) fun u s1 ⟨y,H1,I1,ry,q⟩=>cC (ha pins s1 σ H1 _ I1 q) fun ov s2 zz=> ?_) hs
 obtain⟨x,H2,I2,rx,a,C,dx,fs,ex,ea,c,n,l,q2⟩:=zz
 subst ex
 obtain rfl:ov=Value.ref a:=rx
 exact A6 I2 ea c n l ry fun s3 I3=>⟨σ,_,I3,q2⟩
theorem vG{op:Operator}{rd:V→V→Hp→VK→Prop}(ha:PE X o ta)(hv:PE X value tv)(hop:RT X op rd):PS X (.AugAssign (.Attribute o f tpos) op value pos) (Iu X.K ta tv rd f):=by
 intro pins s σ H D I h
 refine wpAny_AugAssign_AttributeAny (cC (ha pins s σ H _ I h) fun ov s1 zz=> ?_)
 obtain⟨x,H1,I1,rx,a,C,dx,fs,v,ex,ea,c,n,l,q⟩:=zz
 subst ex
 obtain rfl:ov=Value.ref a:=rx
 refine BU I1 ea c n l fun u s2 I2 ru=>cC (hv pins s2 σ H1 _ I2 q) fun w3 s3 ⟨y,H2,I3,ry,q3⟩=>cC (hop pins s3 σ H2 v y u w3 _ I3 ru ry q3) fun w4 s4 zz=> ?_
 obtain⟨z,H3,I4,rz,dx',fs',ea',l',q4⟩:=zz
 exact A6 I4 ea' c n l' rz fun s5 I5=>⟨σ,_,I5,q4⟩
def Rr:V→V→Hp→VK→Prop:=fun x y H Q=>∃i j,x= .int i∧y= .int j∧Q (.int (i+j)) H
def Se:V→V→Hp→VK→Prop:=fun x y H Q=>∃i j,x= .int i∧y= .int j∧Q (.int (i - j)) H
theorem EA:RT X .Add Rr:=by
 rintro pins s σ H x y u v Q I rx ry ⟨i,j,rfl,rfl,q⟩
 obtain⟨t,rfl⟩:=(show ∃t,u=Value.int i t from rx)
 obtain⟨t',rfl⟩:=(show ∃t',v=Value.int j t' from ry)
 exact PyProof.Rows.iadd_int ⟨.int (i+j),H,I.tok _,⟨_,rfl⟩,q⟩
end
end L2
namespace L2
open PySem PySem.Spec PyProof.Rows
structure f7(k:Nat)(A:Around):Prop where
 hd:A.handled=none
 dp:A.depth+3*k+5<recursionLimit
 un:A.units+16*k+200<cLine
theorem f7.mono{j k:Nat}{A:Around}(r:f7 k A)(h:j≤k):f7 j A:=⟨r.hd,by have:=r.dp;omega,by have:=r.un;omega⟩
theorem f7.deeper{k:Nat}{A:Around}(r:f7 (k+1) A)(env:Env):f7 k (A.deeper env):=
 ⟨r.hd,by have:=r.dp;show A.depth+1+3*k+5<_;omega,by have:=r.un;show A.units+3+16*k+200<_;omega⟩
theorem f7.in1{k:Nat}{A:Around}(r:f7 (k+1) A):f7 k A.in1:=
 ⟨r.hd,by have:=r.dp;show A.depth+3*k+5<_;omega,by have:=r.un;show A.units+1+16*k+200<_;omega⟩
theorem BG{A:Around}{C:Addr}{us:List Value}{kw:List (Str×Value)}:(A.under (.builtin "type.__call__" ⟨.ref C::us,kw⟩)).depth=A.depth+1:=by
 first |rfl |simp[Around.under,Code.weight,Code.isCreation,Code.isGuard,Code.isCaller,Code.frames,Code.isFrame,guardIds]
theorem BF{A:Around}{C:Addr}{us:List Value}{kw:List (Str×Value)}:(A.under (.builtin "type.__call__" ⟨.ref C::us,kw⟩)).units=A.units+1:=by
 first |rfl |simp[Around.under,Code.cUnits,Code.frames,Code.isFrame]
theorem f7.make{k:Nat}{A:Around}(r:f7 (k+1) A)(C:Addr)(us:List Value)(kw:List (Str×Value)):f7 k (A.under (.builtin "type.__call__" ⟨.ref C::us,kw⟩)):=
 ⟨r.hd,by have:=r.dp;rw[BG];omega,by have:=r.un;rw[BF];omega⟩
theorem f7.depth{k:Nat}{A:Around}(r:f7 k A):A.depth<recursionLimit:=by have:=r.dp;omega
theorem f7.units{k:Nat}{A:Around}(r:f7 k A):A.units+64<cLine:=by have:=r.un;omega
def AI:TA:=fun _ H Q=>Q [] H
def oB(ta:TE)(tr:TA):TA:=fun σ H Q=>ta σ H fun x H1=>tr σ H1 fun xs H2=>Q (x::xs) H2
section
variable{X:Cx}{e:Expr}{es:List Expr}{te:TE}{t:TA}{pos:Pos}
theorem aA:PA X [] AI:=fun _ _ _ _ H Q I h=>Calls.spliced_nil ⟨[],H,I,.nil,h⟩
theorem ak(ha:PE X e te)(hr:PA X es t)(hs:starEach (e::es) X.env=(false,eval e X.env)::starEach es X.env:=by rfl):PA X (e::es) (oB te t):=by
 intro pos pins s σ H Q I h
 rw[hs]
 show wpAny _ _ (spliced ((false,eval e X.env)::backTo pos (starEach es X.env))) _ _ s
 refine Calls.spliced_cons (cC (ha pins s σ H _ I h) fun u s1 zz=> ?_)
 obtain⟨x,H1,I1,r1,q1⟩:=zz
 exact cC (hr pos pins s1 σ H1 _ I1 q1) fun us s2 ⟨xs,H2,I2,r2,q2⟩=>⟨x::xs,H2,I2,.cons r1 r2,q2⟩
def QZ(t:TA):TE:=fun σ H Q=>t σ H fun xs H1=>xs.length≤sizeLine∧∀p,H1 p=none→Q (.ref p) (upd H1 p (.tup xs))
def NV(t:TA):TE:=fun σ H Q=>t σ H fun xs H1=>xs.length≤sizeLine∧∀p,H1 p=none→Q (.ref p) (upd H1 p (.lst xs))
theorem yZ{x1}(h:PA X es t):PE X (.Tuple es x1 pos) (QZ t):=by
 intro pins s σ H Q I hq
 refine wpAny_Tuple_spliced (cC (h pos pins s σ H _ I hq) fun us s1 ⟨xs,H1,I1,r,z,q⟩=>⟨by rw[←r.length];exact z,?_⟩)
 have hf:H1 s1.heap.objs.size=none:=I1.hok.fresh (Nat.le_refl _)
 refine⟨.ref s1.heap.objs.size,upd H1 s1.heap.objs.size (.tup xs),I1.laid (t':=s1.toks) (fun b u e=>Heap.get?_push_of_some _ e) (Nat.le_refl _) ?_,rfl,q _ hf⟩
 exact⟨z,us,r,⟨_,Heap.get?_push_size _ rfl,rfl,_,rfl⟩⟩
theorem bK(h:PA X es t):PE X (.List es pos) (NV t):=by
 intro pins s σ H Q I hq
 refine wpAny_List_spliced (cC (h pos pins s σ H _ I hq) fun us s1 ⟨xs,H1,I1,r,z,q⟩=>⟨by rw[←r.length];exact z,?_⟩)
 have hf:H1 s1.heap.objs.size=none:=I1.hok.fresh (Nat.le_refl _)
 refine⟨.ref s1.heap.objs.size,upd H1 s1.heap.objs.size (.lst xs),I1.laid (t':=s1.toks) (fun b u e=>Heap.get?_push_of_some _ e) (Nat.le_refl _) ?_,rfl,q _ hf⟩
 exact⟨z,us,0,r,Heap.get?_push_size _ rfl⟩
end
abbrev Sp:=List V→Hp→VK→XK→Prop
abbrev DL:=List Env→Hp→Shared→XK→Value→Shared→Prop
structure CK(P:Program)(w:World)(K:PySem.W.Frag)(mg:Str→Option Value)(base:Heap)(A:Around)(outer:List Env)(s:Shared)(H:Hp):Prop where
 frames:A.frames=some outer
 mod:Mod K mg base
 bs:∀b o,base.get? b=some o→s.heap.get? b=some o∧H b=none
 EZ:base.objs.size≤s.heap.objs.size
 qU:s.heap.FunFrames base outer
 Gy:∀b∈frs outer,H b=none
 hok:tL P w H s.heap
 bare:AllBare s.gens
def CE(outer:List Env)(P:Program)(w:World)(H:Hp)(s:Shared)(Q:VK)(u:Value)(s':Shared):Prop:=
 ∃v H',s'.os=s.os∧AllBare s'.gens∧Un (frs outer) [] H H' s.heap s'.heap∧tL P w H' s'.heap∧RelV v u∧Q v H'
def CR(CX:DL)(outer:List Env)(P:Program)(w:World)(H:Hp)(s:Shared)(Q:VK)(E:XK)(r:Result)(s':Shared):Prop:=
 match r with
 | .ok (.ret u)=>CE outer P w H s Q u s'
 | .ok _=>False
 | .error e=>CX outer H s E e s'
structure bA(P:Program)(w:World)(K:PySem.W.Frag)(mg:Str→Option Value)(base:Heap)(CX:DL)(k:Nat)(f:Addr)(fd:FuncData)(ps:List Str)(sp:Sp):Prop where
 len:∀vs H Q E,sp vs H Q E→vs.length=ps.length
 run:∀(A:Around)(outer:List Env)(s:Shared)(H:Hp)(args:Args)(us:List Value)(vs:List V)(Q:VK)(E:XK),f7 k A→CK P w K mg base A outer s H→BindsTo s fd args (ps.zip us)→Vals vs us→sp vs H Q E→
  codeAny (model P w) A (.call (.ref f) args) (CR CX outer P w H s Q E) s
theorem CK.make{P:Program}{w:World}{K:PySem.W.Frag}{mg:Str→Option Value}{base:Heap}{A:Around}{outer:List Env}{s:Shared}{H:Hp}(e:CK P w K mg base A outer s H)(C:Addr)(us:List Value)(kw:List (Str×Value)):
  CK P w K mg base (A.under (.builtin "type.__call__" ⟨.ref C::us,kw⟩)) outer s H:=⟨by first |exact e.frames |(simpa[Around.under,Code.envs,Code.isFrame,pushEnvs]using e.frames),e.mod,e.bs,e.EZ,e.qU,e.Gy,e.hok,e.bare⟩
section
variable{X:Cx}{pins:List (Addr×Obj)}{σ:St}{H:Hp}{s s':Shared}
theorem Inv.env0(I:Inv X pins σ H s):CK X.prog X.w X.K X.mg X.base X.A X.stack s H:=
 ⟨I.ok.frames,I.ok.mod,I.bs,Nat.le_trans I.ok.EZ I.sz,I.stack,I.DU,I.hok,I.bare⟩
theorem Inv.after{Q:VK}{u:Value}(I:Inv X pins σ H s)(h:CE X.stack X.prog X.w H s Q u s'):EP X pins σ Q u s':=by
 obtain⟨v,H',os,bare,un,hok,r,q⟩:=h
 obtain⟨hh,g,d,t,os'⟩:=s'
 obtain rfl:os'=s.os:=os
 exact⟨v,H',I.call (h':=hh) (g':=g) (d':=d) (t':=t) (ch:=[]) un hok bare (fun b z=>absurd z (by simp)),r,q⟩
end
def LO(sp:Sp)(dvs:List V)(E:XK)(t:TA):TE:=fun σ H Q=>t σ H fun vs H1=>sp (vs++dvs) H1 Q E
def Lq(C:Addr)(m:Str)(sp:Sp)(dvs:List V)(E:XK)(ta:TE)(t:TA):TE:=fun σ H Q=>ta σ H fun x H1=>∃a dx fs,x= .ref a∧H1 a=some (.ins C dx fs)∧fs.lookup m=none∧
 t σ H1 fun vs H2=>sp (x::(vs++dvs)) H2 Q E
def Lr(C:Addr)(sp:Sp)(dvs:List V)(E:XK)(t:TA):TE:=fun σ H Q=>t σ H fun vs H1=>∀x dx,H1 x=none→H1 dx=none→dx≠x→
 sp (.ref x::(vs++dvs)) (upd (upd H1 dx (.own x)) x (.ins C dx [])) (fun v H2=>v= .non∧Q (.ref x) H2) E
def Binds(K:PySem.W.Frag)(fd:FuncData)(ps:List Str)(ds:List Value):Prop:=
 ∀(s:Shared)(us:List Value),K.In s.heap→(us++ds).length=ps.length→BindsTo s fd ⟨us,[]⟩ (ps.zip (us++ds))
theorem Binds.all{K:PySem.W.Frag}{fd:FuncData}{ps:List Str}(h:∀us:List Value,us.length=ps.length→bindArgs fd ⟨us,[]⟩=pure (ps.zip us)):Binds K fd ps []:=fun s us _ hl=>by
 rw[List.append_nil]at hl ⊢
 exact .of_eq (h us hl)
def Passes(CX:DL)(X:Cx)(E:XK):Prop:=∀(pins:List (Addr×Obj))(σ:St)(H:Hp)(s:Shared)(e:Value)(s':Shared),Inv X pins σ H s→CX X.stack H s E e s'→X.xe e s'
section
variable{X:Cx}{CX:DL}{k:Nat}{f C:Addr}{fd:FuncData}{ps:List Str}{sp:Sp}{dvs:List V}{ds:List Value}{E:XK}{x m:Str}{p pos apos:Pos}{e o:Expr}{es:List Expr}{ta:TE}{t:TA}
theorem GZ{pins:List (Addr×Obj)}{σ:St}{H:Hp}{s:Shared}{Q:VK}{us:List Value}{vs:List V}(F:bA X.prog X.w X.K X.mg X.base CX k f fd ps sp)(hr:f7 k X.A)(hb:Binds X.K fd ps ds)(hd:Vals dvs ds)(hx:Passes CX X E)
  (I:Inv X pins σ H s) (r:Vals vs us) (h:sp (vs++dvs) H Q E):wpAny (model X.prog X.w) X.A (call (.ref f) us) (EP X pins σ Q) X.xe s:=by
 have r2:Vals (vs++dvs) (us++ds):=r.append hd
 have hl:(us++ds).length=ps.length:=by rw[←r2.length];exact F.len _ _ _ _ h
 refine wpAny_call (codeAny_mono (F.run X.A X.stack s H ⟨us,[]⟩ (us++ds) (vs++dvs) Q E hr I.env0 (hb s us I.vZ hl) r2 h) fun r s' hq=> ?_)
 cases r with
 |error e=>exact hx pins σ H s e s' I hq
 |ok fl=>
  cases fl with
  |ret u=>exact I.after hq
  |next=>exact False.elim hq
  |brk=>exact False.elim hq
  |cont=>exact False.elim hq
theorem eW(F:bA X.prog X.w X.K X.mg X.base CX k f fd ps sp)(hr:f7 k X.A)(hg:Gl X x)(hm:X.mg x=some (.ref f))(hk:PySem.W.keepIn X.K (.ref f)=true)(hb:Binds X.K fd ps ds)(hd:Vals dvs ds)(hx:Passes CX X E)
  (ha:PA X (e::es) t) (hdb:(x==("__debug__":Str))=false:=by decide) (he:starEach (e::es) X.env=(false,eval e X.env)::starEach es X.env:=by rfl) (hpl:(backTo pos (starEach es X.env)).any (·.1)=false:=by rfl):
  PE X (.Call (.Name x p) (e::es) [] pos) (LO sp dvs E t):=by
 intro pins s σ H Q I h
 refine wpAny_Call_Name_kw (k7 I hg hm ?_ hdb)
 refine PySem.W.callWith_K (h₀:=X.base) I.ok.mod.MQ hk (cC (ha pos pins s σ H _ I h) fun us s1 ⟨vs,H1,I1,r,q⟩=>⟨I1.vZ,?_⟩) he hpl
 exact GZ F hr hb hd hx I1 r q
theorem nM{pl:Sem Bool}(he:PE X o ta)(c:Cls X.K C)(hm:Meth X.K C m f)(F:bA X.prog X.w X.K X.mg X.base CX k f fd ps sp)(hr:f7 k X.A)(hb:Binds X.K fd ps ds)(hd:Vals dvs ds)(hx:Passes CX X E)(ha:PA X (e::es) t)
  (hst:starEach (e::es) X.env=(false,eval e X.env)::starEach es X.env:=by rfl) (hpl:(backTo pos (starEach es X.env)).any (·.1)=false:=by rfl)
  (ht:eval (.Call (.Attribute o m apos) (e::es) [] pos) X.env=(do
   let ov ←eval o X.env
   standAt apos.atName
   let (f,first)←holding [ov] (getMethod ov m pl)
   callWith pos f first (backTo pos (starEach (e::es) X.env)) (backToKw pos (keywordEach [] X.env))):=by rfl):
  PE X (.Call (.Attribute o m apos) (e::es) [] pos) (Lq C m sp dvs E ta t):=by
 intro pins s σ H Q I h
 refine PySem.W.methodCall_KW (pl:=pl) (cC (he pins s σ H _ I h) fun u s1 ⟨x,H1,I1,rx,a,dx,fs,ex,ea,l,q⟩=> ?_) ht
 subst ex
 obtain rfl:u=Value.ref a:=rx
 refine sW I1 ea c hm l ?_
 refine PySem.W.callWith_K (first:=[.ref a]) (h₀:=X.base) I.ok.mod.MQ hm.kp (cC (ha pos pins s1 σ H1 _ I1 q) fun us s2 ⟨vs,H2,I2,r,q2⟩=>⟨I2.vZ,?_⟩) hst hpl
 exact GZ (us:=.ref a::us) (vs:=.ref a::vs) F hr hb hd hx I2 (.cons rfl r) q2
theorem bI{pl:Sem Bool}(he:PE X o ta)(c:Cls X.K C)(hm:Meth X.K C m f)(F:bA X.prog X.w X.K X.mg X.base CX k f fd ps sp)(hr:f7 k X.A)(hb:Binds X.K fd ps ds)(hd:Vals dvs ds)(hx:Passes CX X E)
  (ht:eval (.Call (.Attribute o m apos) [] [] pos) X.env=(do
   let ov ←eval o X.env
   standAt apos.atName
   let (f,first)←holding [ov] (getMethod ov m pl)
   callWith pos f first (backTo pos (starEach [] X.env)) (backToKw pos (keywordEach [] X.env))):=by rfl):
  PE X (.Call (.Attribute o m apos) [] [] pos) (Lq C m sp dvs E ta AI):=by
 intro pins s σ H Q I h
 refine PySem.W.methodCall_KW (pl:=pl) (cC (he pins s σ H _ I h) fun u s1 ⟨x,H1,I1,rx,a,dx,fs,ex,ea,l,q⟩=> ?_) ht
 subst ex
 obtain rfl:u=Value.ref a:=rx
 refine sW I1 ea c hm l ?_
 exact PySem.W.callWith_K0 (first:=[.ref a]) I1.vZ hm.kp (GZ (us:=[.ref a]) (vs:=[.ref a]) F hr hb hd hx I1 (.cons rfl .nil) q)
structure Mk(K:PySem.W.Frag)(C f:Addr):Prop where
 makes:PySem.W.makesIn K C=true
 init:PySem.W.findIn K (.ref C) "__init__"=some (some (.ref f))
 fn:PySem.W.isFn K (.ref f)=true
 kp:PySem.W.keepIn K (.ref C)=true
theorem Fw{pins:List (Addr×Obj)}{σ:St}{H:Hp}{s:Shared}{Q:VK}{us:List Value}{vs:List V}(M:Mk X.K C f)(F:bA X.prog X.w X.K X.mg X.base CX k f fd ps sp)(hr:f7 (k+1) X.A)(hb:Binds X.K fd ps ds)(hd:Vals dvs ds)
  (hx:Passes CX X E) (I:Inv X pins σ H s) (r:Vals vs us)
  (h:∀x dx,H x=none→H dx=none→dx≠x→sp (.ref x::(vs++dvs)) (upd (upd H dx (.own x)) x (.ins C dx [])) (fun v H2=>v= .non∧Q (.ref x) H2) E):
  wpAny (model X.prog X.w) X.A (call (.ref C) us) (EP X pins σ Q) X.xe s:=by
 have hq:=h (s.heap.objs.size+1) s.heap.objs.size (I.hok.fresh (Nat.le_succ _)) (I.hok.fresh (Nat.le_refl _)) (Nat.ne_of_lt (Nat.lt_succ_self _))
 have I2:=Inv.made (C:=C) I
 have r2:Vals (V.ref (s.heap.objs.size+1)::(vs++dvs)) (Value.ref (s.heap.objs.size+1)::(us++ds)):=.cons rfl (r.append hd)
 have hl:(Value.ref (s.heap.objs.size+1)::us++ds).length=ps.length:=by
  have e:=r2.length
  rw[F.len _ _ _ _ hq]at e
  exact e.symm
 refine wpAny_call (ML (f:=f) I.vZ M.makes M.init (beq_iff_eq.mp M.fn) (codeAny_mono (F.run _ X.stack _ _ ⟨Value.ref (s.heap.objs.size+1)::us,[]⟩ (Value.ref (s.heap.objs.size+1)::(us++ds)) _ _ E (hr.make C us [])
  (I2.env0.make C us []) (hb _ (Value.ref (s.heap.objs.size+1)::us) I2.vZ hl) r2 hq) fun r s' hq'=> ?_))
 cases r with
 |error e=>exact hx pins σ _ _ e s' I2 hq'
 |ok fl=>
  cases fl with
  |ret u=>
   obtain⟨v,H',I3,rv,ev,q3⟩:=I2.after hq'
   subst ev
   exact⟨rv,⟨V.ref (s.heap.objs.size+1),H',I3,rfl,q3⟩⟩
  |next=>exact False.elim hq'
  |brk=>exact False.elim hq'
  |cont=>exact False.elim hq'
theorem vH(M:Mk X.K C f)(F:bA X.prog X.w X.K X.mg X.base CX k f fd ps sp)(hr:f7 (k+1) X.A)(hg:Gl X x)(hm:X.mg x=some (.ref C))(hb:Binds X.K fd ps ds)(hd:Vals dvs ds)(hx:Passes CX X E)
  (ha:PA X (e::es) t) (hdb:(x==("__debug__":Str))=false:=by decide) (he:starEach (e::es) X.env=(false,eval e X.env)::starEach es X.env:=by rfl) (hpl:(backTo pos (starEach es X.env)).any (·.1)=false:=by rfl):
  PE X (.Call (.Name x p) (e::es) [] pos) (Lr C sp dvs E t):=by
 intro pins s σ H Q I h
 refine wpAny_Call_Name_kw (k7 I hg hm ?_ hdb)
 refine PySem.W.callWith_K (h₀:=X.base) I.ok.mod.MQ M.kp (cC (ha pos pins s σ H _ I h) fun us s1 ⟨vs,H1,I1,r,q⟩=>⟨I1.vZ,?_⟩) he hpl
 exact Fw M F hr hb hd hx I1 r q
theorem Mv(M:Mk X.K C f)(F:bA X.prog X.w X.K X.mg X.base CX k f fd ps sp)(hr:f7 (k+1) X.A)(hg:Gl X x)(hm:X.mg x=some (.ref C))(hb:Binds X.K fd ps ds)(hd:Vals dvs ds)(hx:Passes CX X E)
  (hdb:(x==("__debug__":Str))=false:=by decide):PE X (.Call (.Name x p) [] [] pos) (Lr C sp dvs E AI):=by
 intro pins s σ H Q I h
 refine wpAny_Call_Name_kw (k7 I hg hm ?_ hdb)
 exact PySem.W.callWith_K0 I.vZ M.kp (Fw (us:=[]) M F hr hb hd hx I .nil h)
end
def PK(X:Cx)(kws:List Keyword)(t:TA):Prop:=
 ∀(pos:Pos)(pins:List (Addr×Obj))(s:Shared)(σ:St)(H:Hp)(Q:List V→Hp→Prop),Inv X pins σ H s→t σ H Q→wpAny (model X.prog X.w) X.A (evalAll ((backToKw pos (keywordEach kws X.env)).map (·.2))) (AP X pins σ Q) X.xe s
section
variable{X:Cx}{CX:DL}{k:Nat}{f C:Addr}{fd:FuncData}{ps ks:List Str}{sp:Sp}{E:XK}{x m:Str}{p pos apos kpos:Pos}{e o:Expr}{es:List Expr}{kws:List Keyword}{te ta:TE}{t tk:TA}{nm:Option Str}
theorem Qm:PK X [] AI:=fun _ _ _ _ H Q I h=>wpAny_evalAll_nil ⟨[],H,I,.nil,h⟩
theorem IG(ha:PE X e te)(hr:PK X kws t):PK X (⟨nm,e,kpos⟩::kws) (oB te t):=by
 intro pos pins s σ H Q I h
 show wpAny _ _ (evalAll ((do let v ←eval e X.env;standAt pos;pure v)::(backToKw pos (keywordEach kws X.env)).map (·.2))) _ _ s
 refine wpAny_evalAll_cons (wpAny_bind (cC (ha pins s σ H _ I h) fun u s1 ⟨x,H1,I1,r1,q1⟩=>wpAny_bind (wpAny_standAt (wpAny_pure ?_))))
 exact cC (hr pos pins s1 σ H1 _ I1 q1) fun us s2 ⟨xs,H2,I2,r2,q2⟩=>⟨x::xs,H2,I2,.cons r1 r2,q2⟩
variable{g:List Value→List Value→List Value}{gV:List V→List V→List V}
end
structure aF(N P:List Str)(sc:Scope):Prop where
 kind:sc.kind= .function
 co:sc.isCoroutine=false
 gen:sc.isGenerator=false
 nd:N.Nodup
 pre:N.take P.length=P
 par:∀x∈P,sc.names.lookup x=some .local∨sc.names.lookup x=some .cell
 Qs:∀y∈sc.names,y.2≠.free
theorem DF{kindOf:Str→Option NameKind}{x:Str}:∀{binds:List (Str×Value)}{m:Str→Option Value},(∀v,(x,v)∉binds)→bindL kindOf binds m x=m x
 |[],_,_=>rfl
 |(n,v)::r,m,h=>by
  unfold bindL
  rw[DF fun w hw=>h w (List.mem_cons_of_mem _ hw)]
  split
  ·have:x≠n:=by rintro rfl;exact h v List.mem_cons_self
   simp[this]
  ·rfl
theorem DH{kindOf:Str→Option NameKind}{x:Str}:∀{binds:List (Str×Value)}{m:Str→Option Value},(∀v,(x,v)∉binds)→bindC kindOf binds m x=m x
 |[],_,_=>rfl
 |(n,v)::r,m,h=>by
  unfold bindC
  rw[DH fun w hw=>h w (List.mem_cons_of_mem _ hw)]
  split
  ·rfl
  ·have:x≠n:=by rintro rfl;exact h v List.mem_cons_self
   simp[this]
theorem DG{kindOf:Str→Option NameKind}{x:Str}{v:Value}:∀{P:List Str}{vs:List Value}{i:Nat}{m:Str→Option Value},P.Nodup→P[i]? =some x→vs[i]? =some v→kindOf x=some .local→
  bindL kindOf (P.zip vs) m x=some v
 |[],_,_,_,_,h,_,_=>by simp at h
 |_::_,[],_,_,_,_,h,_=>by simp at h
 |p::P,w::vs,0,m,nd,h1,h2,hk=>by
  simp at h1 h2;subst h1;subst h2
  show bindL kindOf ((p,w)::P.zip vs) m p=_
  unfold bindL
  rw[DF fun v hv=>(List.nodup_cons.mp nd).1 (List.of_mem_zip hv).1,if_pos hk]
  simp
 |p::P,w::vs,i+1,m,nd,h1,h2,hk=>by
  show bindL kindOf ((p,w)::P.zip vs) m x=_
  unfold bindL
  exact DG (i:=i) (List.nodup_cons.mp nd).2 (by simpa using h1) (by simpa using h2) hk
theorem DI{kindOf:Str→Option NameKind}{x:Str}{v:Value}:∀{P:List Str}{vs:List Value}{i:Nat}{m:Str→Option Value},P.Nodup→P[i]? =some x→vs[i]? =some v→kindOf x≠some .local→
  bindC kindOf (P.zip vs) m x=some v
 |[],_,_,_,_,h,_,_=>by simp at h
 |_::_,[],_,_,_,_,h,_=>by simp at h
 |p::P,w::vs,0,m,nd,h1,h2,hk=>by
  simp at h1 h2;subst h1;subst h2
  show bindC kindOf ((p,w)::P.zip vs) m p=_
  unfold bindC
  rw[DH fun v hv=>(List.nodup_cons.mp nd).1 (List.of_mem_zip hv).1,if_neg hk]
  simp
 |p::P,w::vs,i+1,m,nd,h1,h2,hk=>by
  show bindC kindOf ((p,w)::P.zip vs) m x=_
  unfold bindC
  exact DI (i:=i) (List.nodup_cons.mp nd).2 (by simpa using h1) (by simpa using h2) hk
def start(N:List Str)(vs:List V):St:=vs.map some++List.replicate (N.length - vs.length) none
def zC(CX:DL)(P:Program)(w:World)(K:PySem.W.Frag)(mg:Str→Option Value)(base:Heap)(N:List Str)(qual:Str)(scope:Scope)(f:Addr)(cd:Value)(A:Around)(outer:List Env)(s:Shared)(H:Hp)(E:XK):Cx where
 prog:=P
 w:=w
 K:=K
 mg:=mg
 base:=base
 A:=A.deeper (envOfC qual scope s.heap.objs.size f cd)
 N:=N
 s_0:=s
 QQ:=H
 env:=envOfC qual scope s.heap.objs.size f cd
 outer:=outer
 stack:=envOfC qual scope s.heap.objs.size f cd::outer
 ex:=[]
 calm:=true
 fn:=fun _=>true
 pn:=[]
 xe:=fun e s'=>wpAny (model P w) (A.deeper (envOfC qual scope s.heap.objs.size f cd)) (leaving (envOfC qual scope s.heap.objs.size f cd) e) (fun _ s''=>CX outer H s E e s'') (fun e' s''=>CX outer H s E e' s'') s'
theorem Gi{sc:Scope}{n:Nat}{x:Str}(h:sc.names.lookup x=some .cell):∃c,(cellsFrom n sc.names []).lookup x=some c:=by
 have q:=PySem.W.cellsFrom_some sc.names n [] (.inl h)
 exact Option.isSome_iff_exists.mp q
theorem Du{CX:DL}{P:Program}{w:World}{K:PySem.W.Frag}{mg:Str→Option Value}{base:Heap}{N ps:List Str}{qual:Str}{scope:Scope}{f:Addr}{cd:Value}{A:Around}{outer:List Env}{s s1:Shared}{H:Hp}{E:XK}{us:List Value}{vs:List V}
  (S:aF N ps scope) (hd:A.handled=none) (e0:CK P w K mg base A outer s H) (hl:vs.length=ps.length) (r:Vals vs us)
  (x:InCallC s s.heap.objs.size (bindL (envOfC qual scope s.heap.objs.size f cd).kindOf (ps.zip us) fun _=>none) (cellsFrom (s.heap.objs.size+1) scope.names []) (bindC (envOfC qual scope s.heap.objs.size f cd).kindOf (ps.zip us) fun _=>none) s1):
  Inv (zC CX P w K mg base N qual scope f cd A outer s H E) [] (start N vs) H s1:=by
 have hpl:ps.length≤N.length:=by have:=congrArg List.length S.pre;rw[List.length_take]at this;omega
 obtain⟨h1,tk,rfl,hk⟩:=x.done
 have noA:∀b:Addr,b∉(zC CX P w K mg base N qual scope f cd A outer s H E).ex:=fun b z=>absurd (show b∈([]:List Addr)from z) (by simp)
 refine⟨⟨e0.mod,S.kind,rfl,rfl,Nat.le_refl _,fun y z c h1 h2=> ?_,fun y hy=> ?_,fun y c _ h=> ?_,fun _=>hd,Around.frames_deeper e0.frames,.inr ⟨rfl,rfl⟩,fun b z=>absurd z (noA b),e0.bs,e0.EZ,fun b _ _=>noA b,fun b z=>absurd z (noA b),e0.qU,e0.Gy⟩,
  rfl,e0.bare,Un.kept hk,⟨_,x.toInCall.ns,fun i y v h1 h2 h3=> ?_⟩,fun y c h=>⟨_,x.cell y c h⟩,e0.hok.fresh (Nat.le_refl _),fun y c h=> ?_,fun p hp=>absurd (show p∈([]:List (Addr×Obj))from hp) (by simp),e0.hok.kept hk,?_⟩
 ·exact name_of_addr x.apart (PySem.mem_of_lookup h1) (PySem.mem_of_lookup h2)
 ·have hy:scope.names.lookup y=some .cell∨scope.names.lookup y=some .free:=hy
  rcases hy with hy |hy
  ·exact Gi hy
  ·exact absurd rfl (S.Qs _ (PySem.mem_of_lookup hy))
 ·exact Nat.le_of_lt (x.above y c (PySem.mem_of_lookup h))
 ·have hi:i<vs.length:=by
   unfold start at h2
   by_cases hi:i<vs.length
   ·exact hi
   ·rw[List.getElem?_append_right (by simpa using hi)]at h2
    rw[List.getElem?_replicate]at h2
    split at h2<;>cases h2
  have ha:vs[i]? =some v:=by
   unfold start at h2
   rw[List.getElem?_append_left (by simpa using hi),List.getElem?_map]at h2
   cases e:vs[i]? with
   |none=>rw[e]at h2;cases h2
   |some a=>rw[e]at h2;cases h2;rfl
  obtain⟨u,hu,rv⟩:=r.get ha
  have hp:ps[i]? =some y:=by
   rw[←S.pre,List.getElem?_take_of_lt (by omega)];exact h1
  have ndP:ps.Nodup:=by rw[←S.pre];exact S.nd.sublist (List.take_sublist _ _)
  refine⟨u,rv,?_⟩
  rcases S.par y (List.mem_of_getElem? hp)with k |k
  ·exact .inl ⟨k,DG ndP hp hu k⟩
  ·obtain⟨c,e⟩:=Gi (n:=s.heap.objs.size+1) k
   refine .inr ⟨.inl k,c,e,?_⟩
   have q:=x.cell y c e
   rw[DI ndP hp hu (by show scope.names.lookup y≠_;rw[k];decide)]at q
   exact q
 ·exact e0.hok.fresh (Nat.le_of_lt (x.above y c (PySem.mem_of_lookup h)))
 ·unfold start
  show _=N.length
  rw[List.length_append,List.length_map,List.length_replicate]
  omega
theorem P6{CX:DL}{P:Program}{w:World}{K:PySem.W.Frag}{mg:Str→Option Value}{base:Heap}{k:Nat}{f:Addr}{name qual:Str}{params:Arguments}{body:List Stmt}{scope:Scope}{dV kV doc pm cdv ct oc:Value}{an od:Option Addr}
  {osl:Array (Option Value)} {N ps:List Str} {sp:Sp} (lk:K.lookup f=some ⟨oc,od,.func (PySem.W.fnOf name qual params body scope dV kV doc pm an cdv ct),osl⟩) (hcd:PySem.W.codeIn K cdv qual=true) (S:aF N ps scope)
  (len:∀vs H Q E,sp vs H Q E→vs.length=ps.length)
  (hbody:∀(A:Around)(outer:List Env)(s:Shared)(H:Hp)(vs:List V)(Q:VK)(E:XK),f7 k (A.deeper (envOfC qual scope s.heap.objs.size f cdv))→sp vs H Q E→
   ∃t,CI (zC CX P w K mg base N qual scope f cdv A outer s H E) body t∧t { nx:=fun _ H'=>Q .non H',rt:=Q } (start N vs) H):
  bA P w K mg base CX (k+1) f (PySem.W.fnOf name qual params body scope dV kV doc pm an cdv ct) ps sp:=by
 refine⟨len,fun A outer s H args us vs Q E hr e0 hb r hsp=> ?_⟩
 have hl:=len _ _ _ _ hsp
 have KX:K.In s.heap:=e0.mod.MQ.keeps fun b o e=>(e0.bs b o e).1
 have lim:s.heap.NoLimit:=e0.mod.nolimit.keeps fun b o e=>(e0.bs b o e).1
 have hkind:∀y∈ps.zip us,scope.names.lookup y.1=some .local∨(scope.names.lookup y.1=some .cell∧((cellsFrom (s.heap.objs.size+1) scope.names []).lookup y.1).isSome=true):=fun⟨n,v⟩ hy=>by
  rcases S.par n (List.of_mem_zip hy).1 with q |q
  ·exact .inl q
  ·exact .inr ⟨q,PySem.W.cellsFrom_some _ _ _ (.inl q)⟩
 refine codeAny_call_function hr.depth (KX _ _ lk) rfl S.co S.gen rfl (PySem.W.codeRec_of KX hcd) (hb _ _ _ _ ?_)
 refine wpAny_newFunctionEnv_cells S.kind hkind fun env he s1 x=> ?_
 subst he
 refine⟨lim.keeps x.toInCall.keep,codeAny_func ?_⟩
 obtain⟨t,ht,hq⟩:=hbody A outer s H vs Q E (hr.deeper _) hsp
 have I:Inv (zC CX P w K mg base N qual scope f cdv A outer s H E) [] (start N vs) H s1:=Du S hr.hd e0 hl r x
 refine wpAny_mono (ht [] s1 (start N vs) H _ I hq) (fun fl s' hs=> ?_) fun e s' hs=>hs
 have fin:∀{σ':St}{H':Hp}{v:V}{u:Value},Inv (zC CX P w K mg base N qual scope f cdv A outer s H E) [] σ' H' s'→RelV v u→Q v H'→CE outer P w H s Q u s':=
  fun{σ' H' v u} J rv q=>⟨v,H',J.os,J.bare,J.base,J.hok,rv,q⟩
 cases fl with
 |ret u=>
  obtain⟨v,σ',H',J,rv,q⟩:=hs
  exact fin J rv q
 |next=>
  obtain⟨σ',H',J,q⟩:=hs
  exact fin (v:=V.non) (u:=Value.none) J rfl q
 |brk=>
  obtain⟨_,_,_,q⟩:=hs
  exact False.elim q
 |cont=>
  obtain⟨_,_,_,q⟩:=hs
  exact False.elim q
end L2
namespace L2
open PySem PySem.Spec PyProof.Rows
section
variable{X:Cx}{x:Str}{p pos:Pos}{e:Expr}{es:List Expr}{t:TA}{id T:String}{r:List V→Hp→VK→Prop}
def R8(r:List V→Hp→VK→Prop)(t:TA):TE:=fun σ H Q=>t σ H fun vs H1=>r vs H1 Q
theorem a9(hc:wu X (.builtin id) r)(hg:Gl X x)(hm:X.mg x=none)(hv:bootBuiltins x=some (.builtin id))(ha:PA X (e::es) t)(hn:x≠"__name__":=by decide)(hdb:(x==("__debug__":Str))=false:=by decide)
  (he:starEach (e::es) X.env=(false,eval e X.env)::starEach es X.env:=by rfl) (hpl:(backTo pos (starEach es X.env)).any (·.1)=false:=by rfl):PE X (.Call (.Name x p) (e::es) [] pos) (R8 r t):=by
 intro pins s σ H Q I h
 refine wpAny_Call_Name_kw (Ey I hg hm hv ?_ hn hdb)
 exact PyProof.Rows.callWith_builtin1 (cC (ha pos pins s σ H _ I h) fun us s1 ⟨vs,H1,I1,r1,q1⟩=>hc pins s1 σ H1 vs us Q I1 r1 q1) he hpl
theorem rL(hc:wu X (.type T) r)(hg:Gl X x)(hm:X.mg x=none)(hv:bootBuiltins x=some (.type T))(ha:PA X (e::es) t)(hn:x≠"__name__":=by decide)(hdb:(x==("__debug__":Str))=false:=by decide)
  (he:starEach (e::es) X.env=(false,eval e X.env)::starEach es X.env:=by rfl) (hpl:(backTo pos (starEach es X.env)).any (·.1)=false:=by rfl):PE X (.Call (.Name x p) (e::es) [] pos) (R8 r t):=by
 intro pins s σ H Q I h
 refine wpAny_Call_Name_kw (Ey I hg hm hv ?_ hn hdb)
 exact PyProof.Rows.callWith_type1 (cC (ha pos pins s σ H _ I h) fun us s1 ⟨vs,H1,I1,r1,q1⟩=>hc pins s1 σ H1 vs us Q I1 r1 q1) he hpl
end
end L2
namespace HT
open PySem PyProof.Rows
section
variable{prog:Program}{w:World}{A:Around}{E:Value→Shared→Prop}{s:Shared}
def Fv(n d:Nat):Option Int→Nat
 |none=>d
 |some v=>if v<0 then(v+(n:Int)).toNat else min v.toNat n
theorem L3(n d:Nat):Fv n d none=d:=rfl
theorem D8(n d k:Nat):Fv n d (some (k:Int))=min k n:=by
 show(if(k:Int)<0 then((k:Int)+(n:Int)).toNat else min (k:Int).toNat n)=min k n
 rw[if_neg (by omega),Int.toNat_natCast]
end
end HT
namespace L2
open PySem PySem.Spec PyProof.Rows
abbrev TO:=St→Hp→(Option Int→Hp→Prop)→Prop
def PO(X:Cx)(e:Option Expr)(t:TO):Prop:=
 ∀(pins:List (Addr×Obj))(s:Shared)(σ:St)(H:Hp)(Q:Option Int→Hp→Prop),Inv X pins σ H s→t σ H Q→
  wpAny (model X.prog X.w) X.A (evalPart e X.env) (fun u s'=>∃o H',Inv X pins σ H' s'∧IsPart u o∧Q o H') X.xe s
def HY:TO:=fun _ H Q=>Q none H
def Pb(t:TE):TO:=fun σ H Q=>t σ H fun x H1=>∃i,x= .int i∧Q (some i) H1
section
variable{X:Cx}{e:Expr}{te:TE}{lo hi:Option Expr}{tl th:TO}{pos p2:Pos}
theorem Ob:PO X none HY:=by
 intro pins s σ H Q I h
 rw[evalPart_none]
 exact wpAny_pure ⟨none,H,I,.none,h⟩
theorem Ef(h:PE X e te):PO X (some e) (Pb te):=by
 intro pins s σ H Q I hw
 rw[evalPart_some]
 refine cC (h pins s σ H _ I hw) fun u s1 zz=> ?_
 obtain⟨x,H1,I1,r1,q1⟩:=zz
 obtain⟨i,rfl,q⟩:=q1
 obtain⟨t,rfl⟩:=r1
 exact⟨some i,H1,I1,.int i t,q⟩
def SX(X:Cx)(r:V→Option Int→Option Int→Hp→VK→Prop):Prop:=
 ∀(pins:List (Addr×Obj))(s:Shared)(σ:St)(H:Hp)(x:V)(v vl vu:Value)(lo hi:Option Int)(sl:Addr)(Q:VK),Inv X pins σ H s→RelV x v→s.heap.IsSliceOf sl vl vu .none→IsPart vl lo→IsPart vu hi→r x lo hi H Q→
  ∃T id,typeLookup (.type T) "__getitem__"=pure (some (.builtin id))∧s.TypeIs v T∧wpAny (model X.prog X.w) X.A (getItem v (.ref sl)) (EP X pins σ Q) X.xe s
def SL(r:V→Option Int→Option Int→Hp→VK→Prop)(te:TE)(tl th:TO):TE:=fun σ H Q=>te σ H fun x H1=>tl σ H1 fun l H2=>th σ H2 fun u H3=>r x l u H3 Q
theorem FL{r:V→Option Int→Option Int→Hp→VK→Prop}(hr:SX X r)(he:PE X e te)(hl:PO X lo tl)(hu:PO X hi th):PE X (.Subscript e (.Slice lo hi none p2) pos) (SL r te tl th):=by
 intro pins s σ H Q I h
 refine Subscript_ (cC (he pins s σ H _ I h) fun v s1 zz=> ?_)
 obtain⟨x,H1,I1,r1,q1⟩:=zz
 refine wpAny_Slice (cC (hl pins s1 σ H1 _ I1 q1) fun vl s2 ⟨l,H2,I2,pl,q2⟩=>cC (hu pins s2 σ H2 _ I2 q2) fun vu s3 zz=> ?_)
 obtain⟨u,H3,I3,pu,q3⟩:=zz
 rw[evalPart_none]
 refine wpAny_pure ?_
 have I4:Inv X pins σ H3 { s3 with heap:=s3.heap.push { cls:=.type "slice",data:=.fields #[vl,vu,.none] } }:=I3.kept (t':=s3.toks) fun b ob q=>Heap.get?_push_of_some _ q
 obtain⟨T,id,hT,ht,hg⟩:=hr pins { s3 with heap:=s3.heap.push { cls:=.type "slice",data:=.fields #[vl,vu,.none] } } σ H3 x v vl vu l u s3.heap.objs.size Q I4 r1 (Heap.IsSliceOf.new ..) pl pu q3
 show wpAny (model X.prog X.w) X.A (subscriptTail e (.Slice lo hi none p2) v (.ref s3.heap.objs.size)) (EP X pins σ Q) X.xe { s3 with heap:=s3.heap.push { cls:=.type "slice",data:=.fields #[vl,vu,.none] } }
 exact tail_any (ops:=[.ref s3.heap.objs.size,v]) ht hT hg (by with_unfolding_all rfl)
def CG(xs:List V)(lo hi:Option Int):List V:=(xs.drop (HT.Fv xs.length 0 lo)).take (HT.Fv xs.length xs.length hi - HT.Fv xs.length 0 lo)
theorem Gf(xs:List V)(lo hi:Option Int):(CG xs lo hi).length≤xs.length:=by
 unfold CG
 rw[List.length_take,List.length_drop]
 omega
end
end L2
namespace L2
open PySem PySem.Spec PyProof.Rows
def QU(n:Nat)(i:Int):Option Nat:=if 0≤i then(if i<n then some i.toNat else none)else if -(n:Int)≤i then some (i+n).toNat else none
def KQ{α:Type}(xs:List α)(i:Int):Option α:=(QU xs.length i).bind fun j=>xs[j]?
theorem Ox{n:Nat}{i:Int}{j:Nat}(h:QU n i=some j):seqIndex? i n=some j∧j<n∧-(n:Int)≤i∧i<n:=by
 unfold QU at h
 by_cases h0:0≤i
 ·rw[if_pos h0]at h
  by_cases h1:i<n
  ·rw[if_pos h1]at h
   have e:i.toNat=j:=Option.some.inj h
   exact⟨by rw[seqIndex_of h0 h1,e],by omega,by omega,h1⟩
  ·rw[if_neg h1]at h;cases h
 ·rw[if_neg h0]at h
  by_cases h1: -(n:Int)≤i
  ·rw[if_pos h1]at h
   have e:(i+n).toNat=j:=Option.some.inj h
   exact⟨by rw[seqIndex_neg (by omega) h1,e],by omega,h1,by omega⟩
  ·rw[if_neg h1]at h;cases h
theorem JA{α:Type}{xs:List α}{i:Int}{v:α}(h:KQ xs i=some v):∃j,seqIndex? i xs.length=some j∧xs[j]? =some v∧j<xs.length∧-(xs.length:Int)≤i∧i<xs.length:=by
 unfold KQ at h
 cases e:QU xs.length i with
 |none=>rw[e]at h;cases h
 |some j=>
  rw[e]at h
  obtain⟨h1,h2,h3,h4⟩:=Ox e
  exact⟨j,h1,h,h2,h3,h4⟩
theorem vR{α:Type}{xs:List α}{j:Nat}{v:α}(h:xs[j]? =some v):KQ xs (j:Int)=some v:=by
 have hj:j<xs.length:=(List.getElem?_eq_some_iff.mp h).1
 have e:QU xs.length (j:Int)=some j:=by
  unfold QU
  rw[if_pos (by omega),if_pos (by omega)];simp
 unfold KQ;rw[e];exact h
def OW(b:Expr):Prop:=∀o i,subscripted b false o i=operate [o,i] (getItem o i)
def SJ(X:Cx)(r:R2):Prop:=
 ∀(value slice:Expr)(pins:List (Addr×Obj))(s:Shared)(σ:St)(H:Hp)(x y:V)(v u:Value)(Q:VK),Inv X pins σ H s→RelV x v→RelV y u→r x y H Q→
  subscripted slice false v u=operate [v,u] (getItem v u)→wpAny (model X.prog X.w) X.A (subscriptTail value slice v u) (EP X pins σ Q) X.xe s
def OX(X:Cx)(id:String)(r:V→List V→Hp→VK→Prop):Prop:=
 ∀(pins:List (Addr×Obj))(s:Shared)(σ:St)(H:Hp)(x:V)(xs:List V)(v:Value)(us:List Value)(Q:VK),Inv X pins σ H s→RelV x v→Vals xs us→r x xs H Q→
  wpAny (model X.prog X.w) X.A (call (.builtin id) (v::us)) (EP X pins σ Q) X.xe s
section
variable{X:Cx}{a b:Expr}{ta tb:TE}{pos:Pos}
theorem Dd{r:R2}(hr:SJ X r)(ha:PE X a ta)(hb:PE X b tb)(hs:OW b):PE X (.Subscript a b pos) (Qb r ta tb):=by
 intro pins s σ H Q I h
 exact Subscript_ (QN ha hb I h fun v u s2 x y H2 I2 rx ry q=>hr a b pins s2 σ H2 x y v u Q I2 rx ry q (hs _ _))
def Rn(K:PySem.W.Frag):R2:=fun x y H Q=>∃p xs i v,x= .ref p∧y= .int i∧bW K H p xs∧KQ xs i=some v∧Q v H
def Sg(K:PySem.W.Frag):R2:=fun x y H Q=>∃p xs i v,x= .ref p∧y= .int i∧sE K H p xs∧KQ xs i=some v∧Q v H
def Rm:R2:=fun x y H Q=>∃z i c,x= .str z∧y= .int i∧z.length≤sizeLine∧KQ z.cps.toList i=some c∧Q (.str ⟨#[c]⟩) H
theorem Ar:SJ X (Rn X.K):=by
 intro value slice pins s σ H x y v u Q I rx ry h hs
 obtain⟨p,xs,i,z,rfl,rfl,hq,he,q⟩:=h
 cases rx
 obtain⟨t,rfl⟩:=ry
 obtain⟨its,r,pl,hz⟩:=I.list hq
 obtain⟨j,h1,h2,h3,h4,h5⟩:=JA he
 obtain⟨w,ew,rw'⟩:=r.get h2
 have hl:=r.length
 have hn:=Ex
 have fin:EP X pins σ Q w s:=⟨z,H,I,rw',q⟩
 by_cases h0:0≤i
 ·have hj:i.toNat=j:=by
   rw[seqIndex_of h0 h5]at h1
   exact Option.some.inj h1
  exact item_listR pl.isList h0 (by omega) (by rw[hj];simpa using ew) fin hs
 ·have hj:(i+(its.toArray.size:Int)).toNat=j:=by
   rw[seqIndex_neg (by omega) h4]at h1
   rw[List.size_toArray,←hl]
   exact Option.some.inj h1
  exact subscriptTail_builtinR (x:=w) pl.isList.typeIs slot_list_getitem.lookup
   (wpAny_getItem_list_neg (Q:=fun r s'=>r=w∧EP X pins σ Q r s') pl.isList (by omega) (by rw[List.size_toArray]<;>omega) (by omega) (by rw[hj];simpa using ew) ⟨rfl,fin⟩) hs
theorem MS:SJ X Rm:=by
 intro value slice pins s σ H x y v u Q I rx ry h hs
 obtain⟨z,i,c,rfl,rfl,hz,he,q⟩:=h
 obtain⟨t,rfl⟩:=rx
 obtain⟨t',rfl⟩:=ry
 obtain⟨j,h1,h2,h3,h4,h5⟩:=JA he
 have hl:z.cps.toList.length=z.length:=by simp[Str.length]
 rw[hl]at h1 h4 h5
 have hn:=Ex
 exact tail_any (typeIs_str s z t) slot_str_getitem.lookup (getItem_str (c:=c) (by
  have e1:decide (i< -(2 ^ 63:Int))=false:=decide_eq_false (by omega)
  have e2:decide (i≥2 ^ 63)=false:=decide_eq_false (by omega)
  rw[e1,e2,Bool.or_false]) (by rw[h1];simpa using h2) ⟨.str ⟨#[c]⟩,H,I.tok _,⟨_,rfl⟩,q⟩) hs
theorem Inv.lst{pins:List (Addr×Obj)}{σ:St}{H:Hp}{s:Shared}{p:Addr}{xs:List V}(I:Inv X pins σ H s)(h:H p=some (.lst xs)):
  ∃(its:List Value)(n:Nat),Vals xs its∧s.heap.get? p=some { cls:=.type "list",data:=.seq its.toArray n }∧xs.length≤sizeLine:=by
 obtain⟨z,its,n,r,e⟩:=I.hok p _ h
 exact⟨its,n,r,e,z⟩
theorem D5(lo hi:Option Int)(n:Nat):(sliceBounds lo hi none n).1=((HT.Fv n 0 lo:Nat):Int)∧(sliceBounds lo hi none n).2.1=((HT.Fv n n hi:Nat):Int)∧(sliceBounds lo hi none n).2.2=1:=by
 refine⟨?_,?_,rfl⟩
 ·cases lo with
  |none=>simp[sliceBounds,HT.Fv]
  |some i=>
   simp only[sliceBounds,HT.Fv,Option.getD_none,show(1:Int)>0 by decide,if_true]
   by_cases h:i<0
   ·simp only[h,if_true]<;>omega
   ·simp only[h,if_false]<;>omega
 ·cases hi with
  |none=>simp[sliceBounds,HT.Fv]
  |some i=>
   simp only[sliceBounds,HT.Fv,Option.getD_none,show(1:Int)>0 by decide,if_true]
   by_cases h:i<0
   ·simp only[h,if_true]<;>omega
   ·simp only[h,if_false]<;>omega
theorem Cu(its:List Value)(lo hi:Option Int):slicePick its.toArray lo hi none=((its.drop (HT.Fv its.length 0 lo)).take (HT.Fv its.length its.length hi - HT.Fv its.length 0 lo)).toArray:=by
 obtain⟨h1,h2,h3⟩:=D5 lo hi its.toArray.size
 unfold slicePick
 rw[h1,h2,h3]
 simp only[sliceRange_one,pick_run,List.size_toArray]<;>rfl
def Ri(K:PySem.W.Frag):V→Option Int→Option Int→Hp→VK→Prop:=fun x lo hi H Q=>∃a xs,x= .ref a∧bW K H a xs∧∀p,H p=none→Q (.ref p) (upd H p (.lst (CG xs lo hi)))
theorem Io:SX X (Ri X.K):=by
 intro pins s σ H x v vl vu lo hi sl Q I rx hs pl pu h
 obtain⟨a,xs,rfl,hx,q⟩:=h
 cases rx
 obtain⟨its,r,ht,hz⟩:=I.list hx
 have hlen:=r.length
 refine⟨"list",_,slot_list_getitem.lookup,ht.isList.typeIs,?_⟩
 refine wpAny_getItem_list_slice ht.isList hs pl pu .none (by simp) ?_ (by rw[List.size_toArray]<;>omega)
 rw[Cu,←hlen]
 refine⟨.ref s.heap.objs.size,_,I.laid (t':=s.toks) (o:=.lst (CG xs lo hi)) (fun b ob q=>Heap.get?_push_of_some _ q) (Nat.le_refl _) ?_,rfl,q _ (I.hok.fresh (Nat.le_refl _))⟩
 exact⟨Nat.le_trans (Gf xs lo hi) hz,_,0,(r.drop (HT.Fv xs.length 0 lo)).take (HT.Fv xs.length xs.length hi - HT.Fv xs.length 0 lo),Heap.get?_push_size _ rfl⟩
def mK:V→Bool
 | .non=>true
 | .bl _=>true
 | .int _=>true
 | .str _=>true
 |_=>false
def Jk:V→V→Bool
 | .non,.non=>true
 | .bl a,.bl b=>a==b
 | .bl a,.int b=>(if a then 1 else 0)==b
 | .int a,.bl b=>a==(if b then 1 else 0)
 | .int a,.int b=>a==b
 | .str a,.str b=>a==b
 |_,_=>false
theorem QG{A:Around}{s:Shared}{y x:V}{u v:Value}(ry:RelV y u)(rx:RelV x v)(fy:mK y=true)(fx:mK x=true):SeqAt.EqAt A s u v (Jk y x):=by
 cases y with
 |non=>
  cases ry
  cases x with
  |non=>cases rx;exact SeqAt.EqAt.same _
  |bl b=>cases rx;exact SeqAt.EqAt.none_bool b
  |int b=>obtain⟨t,rfl⟩:=rx;exact SeqAt.EqAt.none_int b t
  |str b=>obtain⟨t,rfl⟩:=rx;exact SeqAt.EqAt.none_str b t
  |_=>exact absurd (show false=true from fx) Bool.false_ne_true
 |bl a=>
  cases ry
  cases x with
  |non=>cases rx;exact SeqAt.EqAt.bool_none a
  |bl b=>cases rx;exact SeqAt.EqAt.bool_bool a b
  |int b=>obtain⟨t,rfl⟩:=rx;exact SeqAt.EqAt.bool_int a b t
  |str b=>obtain⟨t,rfl⟩:=rx;exact SeqAt.EqAt.bool_str a b t
  |_=>exact absurd (show false=true from fx) Bool.false_ne_true
 |int a=>
  obtain⟨t',rfl⟩:=ry
  cases x with
  |non=>cases rx;exact SeqAt.EqAt.int_none a t'
  |bl b=>cases rx;exact SeqAt.EqAt.int_bool a t' b
  |int b=>obtain⟨t,rfl⟩:=rx;exact SeqAt.EqAt.int_int a t' b t
  |str b=>obtain⟨t,rfl⟩:=rx;exact SeqAt.EqAt.int_str a t' b t
  |_=>exact absurd (show false=true from fx) Bool.false_ne_true
 |str a=>
  obtain⟨t',rfl⟩:=ry
  cases x with
  |non=>cases rx;exact SeqAt.EqAt.str_none a t'
  |bl b=>cases rx;exact SeqAt.EqAt.str_bool a t' b
  |int b=>obtain⟨t,rfl⟩:=rx;exact SeqAt.EqAt.str_int a t' b t
  |str b=>obtain⟨t,rfl⟩:=rx;exact SeqAt.EqAt.str_str a t' b t
  |_=>exact absurd (show false=true from fx) Bool.false_ne_true
 |_=>exact absurd (show false=true from fy) Bool.false_ne_true
def KP(x:V)(u:Value):Bool:=match u with
 | .none=>Jk .non x
 | .bool b=>Jk (.bl b) x
 | .int i _=>Jk (.int i) x
 | .str z _=>Jk (.str z) x
 |_=>false
theorem Ht{x y:V}{u:Value}(r:RelV y u)(f:mK y=true):KP x u=Jk y x:=by
 cases y with
 |non=>cases r;rfl
 |bl b=>cases r;rfl
 |int i=>obtain⟨t,rfl⟩:=r;rfl
 |str z=>obtain⟨t,rfl⟩:=r;rfl
 |_=>exact absurd (show false=true from f) Bool.false_ne_true
theorem EV{x:V}:∀{xs:List V}{us:List Value},Vals xs us→xs.all mK=true→us.any (KP x)=xs.any fun y=>Jk y x
 |_,_,.nil,_=>rfl
 |y::xs,u::us,.cons r t,f=>by
  rw[List.all_cons,Bool.and_eq_true]at f
  rw[List.any_cons,List.any_cons,Ht r f.1,EV t f.2]
theorem x6{A:Around}{s:Shared}{x:V}{v:Value}(rx:RelV x v)(fx:mK x=true):∀{xs:List V}{us:List Value},Vals xs us→xs.all mK=true→∀u∈us,SeqAt.EqAt A s u v (KP x u)
 |_,_,.nil,_=>fun u hu=>by cases hu
 |y::xs,u::us,.cons r t,f=>fun u' hu=>by
  rw[List.all_cons,Bool.and_eq_true]at f
  rcases List.mem_cons.mp hu with rfl |hu
  ·rw[Ht r f.1];exact QG r rx f.1 fx
  ·exact x6 rx fx t f.2 u' hu
def inV(x:V)(xs:List V):Bool:=xs.any fun y=>Jk y x
def SU(K:PySem.W.Frag)(neg:Bool):R2:=fun x y H Q=>∃p xs,y= .ref p∧(bW K H p xs∨sE K H p xs)∧mK x=true∧xs.all mK=true∧Q (.bl (if neg then !inV x xs else inV x xs)) H
theorem Ej:DK X (compareOp .NotIn) (SU X.K true):=by
 intro pins s σ H x y v u Q I rx ry h
 obtain⟨p,xs,rfl,hq,fx,fs,q⟩:=h
 cases ry
 rcases hq with hq |hq
 ·obtain⟨its,r,pl,hz⟩:=I.list hq
  refine SeqAt.notIn_listAt (KP x) pl.isList (fun w hw=>x6 rx fx r fs w (by simpa using hw)) ⟨.bl _,H,I,rfl,?_⟩
  rw[show its.toArray.any (KP x)=its.any (KP x) by simp,EV r fs]
  exact q
 ·obtain⟨its,r,pl,hz⟩:=I.tuple hq
  refine SeqAt.notIn_tupleAt (KP x) pl (fun w hw=>x6 rx fx r fs w (by simpa using hw)) ⟨.bl _,H,I,rfl,?_⟩
  rw[show its.toArray.any (KP x)=its.any (KP x) by simp,EV r fs]
  exact q
def O6(K:PySem.W.Frag)(T:String)(x:V)(H:Hp):Prop:=match x with
 | .str _=>T="str"
 | .int _=>T="int"
 | .ref p=>(T="list"∧∃xs,bW K H p xs)∨(T="tuple"∧∃o,K.lookup p=some o∧o.cls= .type "tuple"∧o.dict=none)∨
   (T="dict"∧((∃kvs,H p=some (.dK kvs))∨∃kvs,H p=some (.dT kvs)))∨(T="set"∧∃S n,H p=some (.set S n))
 |_=>False
theorem P9{pins:List (Addr×Obj)}{σ:St}{H:Hp}{s:Shared}{T:String}{x:V}{v:Value}(I:Inv X pins σ H s)(r:RelV x v)(ty:O6 X.K T x H):
  s.TypeIs v T∧∀a,v= .ref a→∃ob,s.heap.get? a=some ob∧ob.dict=none:=by
 cases x with
 |str z=>
  obtain⟨t,rfl⟩:=r
  cases (show T="str" from ty)
  exact⟨typeIs_str s z t,fun _ e=>nomatch e⟩
 |int i=>
  obtain⟨t,rfl⟩:=r
  cases (show T="int" from ty)
  exact⟨typeIs_int s i t,fun _ e=>nomatch e⟩
 |ref p=>
  cases r
  rcases ty with⟨rfl,xs,hq⟩|⟨rfl,o,hk,hc,hd⟩|⟨rfl,hk⟩|⟨rfl,S,n,hk⟩
  ·obtain⟨its,_,pl,_⟩:=I.list hq
   refine⟨pl.isList.typeIs,fun a e=> ?_⟩
   cases e
   obtain⟨o,n,e,c,hd,_⟩:=pl
   exact⟨o,e,hd⟩
  ·refine⟨⟨o,I.vZ p o hk,hc⟩,fun a e=> ?_⟩
   cases e
   exact⟨o,I.vZ _ o hk,hd⟩
  ·have z:∃o,s.heap.get? p=some o∧o.ExactDict:=by
    rcases hk with⟨kvs,hk⟩|⟨kvs,hk⟩
    ·obtain⟨_,_,_,_,o,_,_,e,ex,_⟩:=I.hok p _ hk
     exact⟨o,e,ex⟩
    ·obtain⟨_,_,_,_,o,_,_,e,ex,_⟩:=I.hok p _ hk
     exact⟨o,e,ex⟩
   obtain⟨o,e,ex⟩:=z
   refine⟨⟨o,e,ex.1⟩,fun a e2=> ?_⟩
   cases e2
   exact⟨o,e,ex.2.1⟩
  ·obtain⟨o,_,_,_,e,ex,_⟩:=I.hok p _ hk
   refine⟨⟨o,e,ex.1⟩,fun a e2=> ?_⟩
   cases e2
   exact⟨o,e,ex.2.1⟩
 |_=>exact False.elim ty
def R9(K:PySem.W.Frag)(T:String)(r:V→List V→Hp→VK→Prop)(to:TE):TE:=fun σ H Q=>to σ H fun x H1=>O6 K T x H1∧r x [] H1 Q
def Sb(K:PySem.W.Frag)(T:String)(r:V→List V→Hp→VK→Prop)(to:TE)(t:TA):TE:=fun σ H Q=>to σ H fun x H1=>O6 K T x H1∧t σ H1 fun xs H2=>r x xs H2 Q
variable{o e:Expr}{es:List Expr}{to:TE}{t:TA}{name:Str}{apos cpos:Pos}{T id:String}{r:V→List V→Hp→VK→Prop}
theorem mG(pa:PlainAttrs T)(slot:Slot T name id)(hty:typeOf (.builtin id)=pure (.type "method_descriptor"))(hm:OX X id r)(ho:PE X o to)(ha:PA X (e::es) t)
  (hbase:attributeBase o name X.env (eval o X.env)=eval o X.env:=by rfl)
  (hfew:((backTo cpos (starEach (e::es) X.env)).all (fun x=> !x.1)&&(backToKw cpos (keywordEach [] X.env)).all (fun x=>x.1.isSome)
   &&decide ((e::es).length+([]:List Keyword).length+(if([]:List Keyword).isEmpty then 0 else 1)<30))=true:=by rfl)
  (hline:(apos.endLine==cpos.line)=true:=by rfl) (hs:starEach (e::es) X.env=(false,eval e X.env)::starEach es X.env:=by rfl) (hplain:(backTo cpos (starEach es X.env)).any (·.1)=false:=by rfl):
  PE X (.Call (.Attribute o name apos) (e::es) [] cpos) (Sb X.K T r to t):=by
 intro pins s σ H Q I h
 refine wpAny_Call_method_late hbase hfew hline rfl (cC (ho pins s σ H _ I h) fun v s1 zz=> ?_)
 obtain⟨x,H1,I1,r1,ty,q1⟩:=zz
 obtain⟨h1,h2⟩:=P9 I1 r1 ty
 refine⟨T,id,pa,slot,hty,h1,h2,?_⟩
 have hA:=ha cpos pins s1 σ H1 _ I1 q1
 rw[hs]at hA ⊢
 refine Calls.callWith_builtin (by show(false||(backTo cpos (starEach es X.env)).any (·.1))=false;rw[hplain]<;>rfl) (Calls.evalArgs_plain ?_)
 exact cC hA fun us s2 ⟨vs,H2,I2,r2,q2⟩=>hm pins s2 σ H2 x vs v us Q I2 r1 r2 q2
end
end L2
namespace L2
open PySem PySem.Spec PyProof.Rows
def SZ(X:Cx)(id:String)(r:V→List V→Hp→VK→Prop):Prop:=
 ∀(pins:List (Addr×Obj))(s:Shared)(σ:St)(H:Hp)(x:V)(xs:List V)(v:Value)(us:List Value)(Q:VK),Inv X pins σ H s→RelV x v→Vals xs us→r x xs H Q→
  wpAny (model X.prog X.w) X.A (call (.builtin id) (v::us)) (EP X pins σ Q) X.xe s
theorem Vals.one:∀{x:V}{us:List Value},Vals [x] us→∃u,us=[u]∧RelV x u
 |_,_,.cons r .nil=>⟨_,rfl,r⟩
theorem Vals.reverse{xs:List V}{us:List Value}(h:Vals xs us):Vals xs.reverse us.reverse:=by
 induction h with
 |nil=>exact .nil
 |cons r t ih=>rw[List.reverse_cons,List.reverse_cons];exact Vals.append ih (.cons r .nil)
section
variable{X:Cx}{pins:List (Addr×Obj)}{σ:St}{H:Hp}{s:Shared}{l b:Addr}{xs ys zs:List V}
theorem Inv.Ry{its its':List Value}{n:Nat}{f:Array Value→Array Value}{t':Nat}(I:Inv X pins σ H s)(hH:H l=some (.lst xs))
  (e:s.heap.get? l=some { cls:=.type "list",data:=.seq its.toArray n }) (hf:f its.toArray=its'.toArray) (hv:Vals ys its') (hz:ys.length≤sizeLine):
  Inv X pins σ (upd H l (.lst ys)) { s with heap:=s.heap.update l (Obj.mapSeq f),toks:=t' }:=by
 have q:=PySem.IsL.update e f
 rw[hf]at q
 refine I.write (x:=l) (e:=l) (by rw[hH];exact trivial) (.inl rfl) (fun b' u hb hu=>(Heap.get?_update_other s.heap (Obj.mapSeq f) (Ne.symm hb)).trans hu) ⟨_,q⟩ ?_
 exact⟨hz,its',_,hv,q⟩
theorem Inv.Ss{its:List Value}{t':Nat}(I:Inv X pins σ H s)(hv:Vals ys its)(hz:ys.length≤sizeLine):
  Inv X pins σ (upd H s.heap.objs.size (.lst ys)) { s with heap:=s.heap.push { cls:=.type "list",data:=.seq its.toArray },toks:=t' }:=
 I.laid (fun _ _ q=>Heap.get?_push_of_some _ q) (Nat.le_refl _) ⟨hz,its,0,hv,Heap.get?_push_size _ rfl⟩
theorem Inv.fresh(I:Inv X pins σ H s):H s.heap.objs.size=none:=I.hok.fresh (Nat.le_refl _)
theorem Inv.MN(I:Inv X pins σ H s)(hH:H l=some (.lst xs)):xs.length≤sizeLine∧∃(its:List Value)(n:Nat),Vals xs its∧xs.length=its.length∧s.heap.get? l=some { cls:=.type "list",data:=.seq its.toArray n }:=by
 obtain⟨z,its,n,r,e⟩:=I.hok l _ hH
 exact⟨z,its,n,r,r.length,e⟩
theorem MD{n:Nat}(h:n≤sizeLine):Builtin.List.listTooLong n=false:=by
 unfold Builtin.List.listTooLong
 exact decide_eq_false (by omega)
end
section
variable{X:Cx}
def Ec:V→List V→Hp→VK→Prop:=fun x vs H Q=>∃l xs y,x= .ref l∧vs=[y]∧H l=some (.lst xs)∧xs.length<sizeLine∧Q .non (upd H l (.lst (xs++[y])))
theorem eD:SZ X "list.append" Ec:=by
 intro pins s σ H x vs v us Q I rx rv h
 obtain⟨l,xs,y,rfl,rfl,hH,hz,q⟩:=h
 cases rx
 obtain⟨u,rfl,ru⟩:=rv.one
 obtain⟨z,its,n,r,hl,e⟩:=I.MN hH
 refine call_meets F.slot_list_append ⟨_,e,rfl⟩ F.entry_list_append (F.args_list_append_2 _ _) (PySem.list_append l its.toArray n u (by rw[List.size_toArray];omega)) ⟨e,?_⟩
 refine⟨.non,_,I.Ry (its':=its++[u]) hH e (by simp) (r.append (.cons ru .nil)) ?_,rfl,q⟩
 rw[List.length_append,List.length_singleton]
 omega
def IA:V→List V→Hp→VK→Prop:=fun x vs H Q=>∃l b xs zs,x= .ref l∧vs=[.ref b]∧H l=some (.lst xs)∧H b=some (.lst zs)∧xs.length+zs.length≤sizeLine∧Q .non (upd H l (.lst (xs++zs)))
theorem Di:SZ X "list.extend" IA:=by
 intro pins s σ H x vs v us Q I rx rv h
 obtain⟨l,b,xs,zs,rfl,rfl,hH,hB,hz,q⟩:=h
 cases rx
 obtain⟨u,rfl,ru⟩:=rv.one
 cases ru
 obtain⟨z,its,n,r,hl,e⟩:=I.MN hH
 obtain⟨z2,its2,n2,r2,hl2,e2⟩:=I.MN hB
 have hsz:its.toArray.size+its2.toArray.size≤sizeLine:=by rw[List.size_toArray,List.size_toArray];omega
 have hlong:¬(!its.toArray.isEmpty&&Builtin.List.listTooLong (its.toArray.size+its2.toArray.size))=true:=by
  rw[MD hsz,Bool.and_false]
  exact Bool.false_ne_true
 refine call_meets F.slot_list_extend ⟨_,e,rfl⟩ F.entry_list_extend (F.args_list_extend_2 _ _)
  (AutoSeq1.list_extend_list_list_0 l its.toArray n b its2.toArray n2 hlong (by rw[List.size_toArray];omega) (by omega)) ⟨e,e2,?_⟩
 refine⟨.non,_,I.Ry (its':=its++its2) hH e (by simp) (r.append r2) ?_,rfl,q⟩
 rw[List.length_append]
 omega
def Sf:V→List V→Hp→VK→Prop:=fun x vs H Q=>∃l xs y,x= .ref l∧vs=[]∧H l=some (.lst xs)∧xs[xs.length - 1]? =some y∧Q y (upd H l (.lst xs.dropLast))
def Rp:R2:=fun x y H Q=>∃l b xs zs,x= .ref l∧y= .ref b∧H l=some (.lst xs)∧H b=some (.lst zs)∧xs.length+zs.length≤sizeLine∧∀p,H p=none→Q (.ref p) (upd H p (.lst (xs++zs)))
theorem wK:DK X (binaryOp .Add) Rp:=by
 intro pins s σ H x y v u Q I rx ry h
 obtain⟨l,b,xs,zs,rfl,rfl,hH,hB,hz,q⟩:=h
 cases rx
 cases ry
 obtain⟨z,its,n,r,hl,e⟩:=I.MN hH
 obtain⟨z2,its2,n2,r2,hl2,e2⟩:=I.MN hB
 refine PySem.P.add_list e e2 ?_ (by rw[List.size_toArray,List.size_toArray];omega)
 have ea:its.toArray++its2.toArray=(its++its2).toArray:=by simp
 rw[ea]
 exact⟨.ref _,_,I.Ss (t':=s.toks) (r.append r2) (by rw[List.length_append];omega),rfl,q _ I.fresh⟩
end
end L2
namespace L2
open PySem PySem.Spec PyProof.Rows
theorem Vals.ints:∀{ns:List Int}{us:List Value},Vals (ns.map V.int) us→IntsAre us ns
 |[],us,h=>by
  rw[List.map_nil]at h
  cases h
  exact IntsAre.nil
 |n::ns,us,h=>by
  rw[List.map_cons]at h
  cases h with
  |cons r t=>
   obtain⟨k,rfl⟩:=r
   exact IntsAre.cons n k (Vals.ints t)
theorem xq:∀{us:List Value}{ns:List Int},IntsAre us ns→Vals (ns.map V.int) us
 |_,_,.nil=>by rw[List.map_nil];exact Paired.nil
 |_,_,.cons n t h=>by rw[List.map_cons];exact Paired.cons (show RelV (V.int n) (Value.int n t)from⟨t,rfl⟩) (xq h)
theorem Vals.SW:∀{bs:List Bool}{us:List Value},Vals (bs.map V.bl) us→us=bs.map Value.bool
 |[],us,h=>by
  rw[List.map_nil]at h
  cases h
  rfl
 |b::bs,us,h=>by
  rw[List.map_cons]at h
  cases h with
  |cons r t=>
   cases r
   rw[Vals.SW t,List.map_cons]
theorem Vals.L7{a:Addr}{us:List Value}(r:Vals [V.ref a] us):us=[Value.ref a]:=by
 cases r with
 |cons r t=>
  cases t
  cases r
  rfl
theorem MT{prog:Program}{w:World}{A:Around}{E:Value→Shared→Prop}{s:Shared}{l:Addr}{items:Array Value}{Q:Value→Shared→Prop}(hl:s.heap.IsList l items)
  (h:∀s₂:Shared,s₂={ s with heap:=s.heap.push { cls:=.type "list_iterator",data:=.fields #[.ref l,.int 0 0] } }→
   (s₂.heap.IsListIter s.heap.objs.size l 0∧s₂.heap.IsList l items)→l≠s.heap.objs.size→Q (.ref s.heap.objs.size) s₂):wpAny (model prog w) A (pyIter (.ref l)) Q E s:=by
 have hlt:l<s.heap.objs.size:=by obtain⟨_,e,_⟩:=hl;exact Heap.lt_size e
 exact wpAny_pyIter_list hl (h _ rfl ⟨⟨_,Heap.get?_push_size _ rfl,rfl,rfl⟩,hl.push _⟩ (Nat.ne_of_lt hlt))
theorem E8{prog:Program}{w:World}{A:Around}{bs:List Bool}{its:List Value}(e:its=bs.map Value.bool):
  TruthOf prog w A (fun i v=>its.toArray[i]? =some v) (fun i=>bs.getD i false):=fun i v s Q E hv hq=>by
 have hv':its[i]? =some v:=by simpa using hv
 rw[e,List.getElem?_map]at hv'
 obtain⟨b,hb,rfl⟩:=Option.map_eq_some_iff.mp hv'
 have hg:bs.getD i false=b:=by rw[List.getD_eq_getElem?_getD,hb]<;>rfl
 have hq':Q (bs.getD i false) s:=hq
 rw[hg]at hq'
 exact wpAny_truthy_bool hq'
theorem any_range:∀bs:List Bool,(List.range bs.length).any (fun i=>bs.getD i false)=bs.any id
 |[]=>rfl
 |b::bs=>by
  rw[List.length_cons,List.range_succ_eq_map,List.any_cons,List.any_map,List.any_cons,←any_range bs]
  all_goals rfl
section
variable{X:Cx}
def Rq(K:PySem.W.Frag):List V→Hp→VK→Prop:=fun vs H Q=>∃(a:Addr)(bs:List Bool),vs=[V.ref a]∧bW K H a (bs.map V.bl)∧Q (.bl (bs.any id)) H
def Sh(K:PySem.W.Frag):List V→Hp→VK→Prop:=fun vs H Q=>∃(a:Addr)(bs:List Bool),vs=[V.ref a]∧bW K H a (bs.map V.bl)∧Q (.bl (bs.all id)) H
theorem Hw(hc:X.calm=true):wu X (.builtin "any") (Rq X.K):=by
 intro pins s σ H vs us Q I r h
 obtain⟨a,bs,rfl,hs,q⟩:=h
 obtain⟨its,rv,hl,_⟩:=I.list hs
 rw[Vals.L7 r]
 have hb:=rv.SW
 refine call_any_walk (MT hl.isList fun s₂ e2 st hne=> ?_)
 subst e2
 refine⟨_,_,_,_,_,_,_,rfl,Walks.list (A:=X.A.in1) (I.ok.hd hc) _ a hne its.toArray,st,E8 hb,fun h' tk hk=> ?_⟩
 refine⟨.bl _,H,I.kept fun b o eo=>hk b o (fun hmem=> ?_) (Heap.get?_push_of_some _ eo),?_,q⟩
 ·rcases List.mem_cons.mp hmem with e1 |hmem
  ·exact absurd (e1▸Heap.lt_size eo) (Nat.lt_irrefl _)
  ·cases hmem
 ·show Value.bool _=Value.bool _
  rw[←any_range,hb,List.size_toArray,List.length_map]
end
end L2
namespace L2
open PySem PySem.Spec PyProof.Rows
abbrev NF(h:Heap)(c:Addr)(v:Option Value):Prop:=h.IsCell c v
def Sd(scope sc:Scope):Scope:=
 { scope with names:=scope.names.map fun(n,k)=>if(k== .free&&sc.kind== .function&&sc.names.lookup n==some .cell)then(n,.cell)else(n,k) }
def cN(cells:List (Str×Addr)):List (Str×NameKind)→List (Str×Addr)→List (Str×Addr)
 |[],acc=>acc
 |(n,k)::r,acc=>if k== .free then cN cells r ((n,(cells.lookup n).getD 0)::acc)else cN cells r acc
theorem yr(env:Env)(f:Str×NameKind→List (Str×Addr)→Sem (ForInStep (List (Str×Addr))))
  (hf:∀n k c,f (n,k) c=if k== .free then(do let a ←cellOf env n;pure (.yield ((n,a)::c)))else pure (.yield c)):
  ∀(names:List (Str×NameKind))(acc:List (Str×Addr)),(∀y∈names,y.2= .free→∃c,env.cells.lookup y.1=some c)→forIn names acc f=pure (cN env.cells names acc)
 |[],acc,_=>by rw[List.forIn_nil];rfl
 |(n,k)::r,acc,h=>by
  rw[List.forIn_cons,hf]
  have ih:=fun acc=>yr env f hf r acc fun y hy=>h y (List.mem_cons_of_mem _ hy)
  unfold cN
  by_cases hk:(k==NameKind.free)=true
  ·rw[if_pos hk,if_pos hk]
   obtain⟨c,hc⟩:=h (n,k) List.mem_cons_self (by simpa using hk)
   have e:cellOf env n=pure c:=by unfold cellOf;rw[hc]
   rw[e]
   have e2:(env.cells.lookup n).getD 0=c:=by rw[hc];rfl
   rw[e2]
   exact ih _
  ·rw[if_neg hk,if_neg hk]
   exact ih _
theorem Hx{scope:Scope}{env:Env}(h:∀y∈scope.names,y.2= .free→∃c,env.cells.lookup y.1=some c):closureFor scope env=pure (cN env.cells scope.names []):=by
 simp only[closureFor]
 rw[yr env _ (fun n k c=>rfl) scope.names [] h]
 rfl
theorem mem_lookup{α:Type}:∀{l:List (Str×α)}{n:Str}{c:α},(n,c)∈l→∃c',l.lookup n=some c'
 |(k,v)::r,n,c,h=>by
  rw[List.lookup_cons]
  cases hb:n==k with
  |true=>exact⟨_,rfl⟩
  |false=>
   rcases List.mem_cons.mp h with e |h
   ·cases e;simp at hb
   ·exact mem_lookup h
theorem qe{cells:List (Str×Addr)}:∀{names:List (Str×NameKind)}{acc:List (Str×Addr)}{n:Str}{c:Addr},(n,c)∈cN cells names acc→(n,c)∈acc∨((n,.free)∈names∧c=(cells.lookup n).getD 0)
 |[],_,_,_,h=>.inl h
 |(m,k)::r,acc,n,c,h=>by
  unfold cN at h
  split at h
  ·rename_i hk
   have hk:k= .free:=by simpa using hk
   rcases qe h with h |⟨h1,h2⟩
   ·rcases List.mem_cons.mp h with e |h
    ·cases e;exact .inr ⟨hk▸List.mem_cons_self,rfl⟩
    ·exact .inl h
   ·exact .inr ⟨List.mem_cons_of_mem _ h1,h2⟩
  ·rcases qe h with h |⟨h1,h2⟩
   ·exact .inl h
   ·exact .inr ⟨List.mem_cons_of_mem _ h1,h2⟩
theorem vg{cells:List (Str×Addr)}:∀{names:List (Str×NameKind)}{acc:List (Str×Addr)}{p:Str×Addr},p∈acc→p∈cN cells names acc
 |[],_,_,h=>h
 |(m,k)::r,acc,p,h=>by
  unfold cN
  split
  ·exact vg (List.mem_cons_of_mem _ h)
  ·exact vg h
theorem vf{cells:List (Str×Addr)}:∀{names:List (Str×NameKind)}{acc:List (Str×Addr)}{n:Str},(n,.free)∈names→(n,(cells.lookup n).getD 0)∈cN cells names acc
 |(m,k)::r,acc,n,h=>by
  unfold cN
  rcases List.mem_cons.mp h with e |h
  ·cases e
   exact vg List.mem_cons_self
  ·split
   ·exact vf h
   ·exact vf h
theorem rX:∀{names:List (Str×NameKind)}{h:Heap}{acc:List (Str×Addr)}{x:Str}{c:Addr},(x,c)∈cellsFrom h.objs.size names acc→
  (x,c)∈acc∨((x,.cell)∈names∧h.objs.size≤c∧NF (pushCells h names) c none)
 |[],_,_,_,_,h=>.inl h
 |(n,k)::r,h,acc,x,c,hm=>by
  unfold cellsFrom at hm
  unfold pushCells
  split at hm
  ·rename_i hk
   rw[if_pos hk]
   have hk:k= .cell:=by simpa using hk
   rw[←Heap.size_push h { cls:=.type "cell",data:=.cell none }]at hm
   rcases rX hm with hm |⟨h1,h2,h3⟩
   ·rcases List.mem_cons.mp hm with e |hm
    ·cases e
     exact .inr ⟨hk▸List.mem_cons_self,Nat.le_refl _,_,pushCells_keeps r _ _ _ (Heap.get?_push_size _ rfl),rfl⟩
    ·exact .inl hm
   ·rw[Heap.size_push]at h2
    exact .inr ⟨List.mem_cons_of_mem _ h1,Nat.le_of_succ_le h2,h3⟩
  ·rename_i hk
   rw[if_neg hk]
   rcases rX hm with hm |⟨h1,h2,h3⟩
   ·exact .inl hm
   ·exact .inr ⟨List.mem_cons_of_mem _ h1,h2,h3⟩
theorem vO:∀{names:List (Str×NameKind)}{n:Nat}{acc:List (Str×Addr)}{p:Str×Addr},p∈acc→p∈cellsFrom n names acc
 |[],_,_,_,h=>h
 |(m,k)::r,n,acc,p,h=>by
  unfold cellsFrom
  split
  ·exact vO (List.mem_cons_of_mem _ h)
  ·exact vO h
theorem zF:∀{names:List (Str×NameKind)}{n:Nat}{acc:List (Str×Addr)}{x:Str},(x,.cell)∈names→∃c,(x,c)∈cellsFrom n names acc
 |(m,k)::r,n,acc,x,h=>by
  unfold cellsFrom
  rcases List.mem_cons.mp h with e |h
  ·cases e
   exact⟨n,vO List.mem_cons_self⟩
  ·split
   ·exact zF h
   ·exact zF h
theorem zE:∀{names:List (Str×NameKind)}{h:Heap}{acc:List (Str×Addr)}{x y:Str}{c:Addr},(∀p∈acc,p.2<h.objs.size)→(∀x y c,(x,c)∈acc→(y,c)∈acc→x=y)→
  (x,c)∈cellsFrom h.objs.size names acc→(y,c)∈cellsFrom h.objs.size names acc→x=y
 |[],_,_,_,_,_,_,hi,h1,h2=>hi _ _ _ h1 h2
 |(n,k)::r,h,acc,x,y,c,hl,hi,h1,h2=>by
  unfold cellsFrom at h1 h2
  split at h1
  ·rename_i hk
   rw[if_pos hk]at h2
   rw[←Heap.size_push h { cls:=.type "cell",data:=.cell none }]at h1 h2
   refine zE (h:=h.push _) (fun p hp=> ?_) (fun x y c a b=> ?_) h1 h2
   ·rw[Heap.size_push]
    rcases List.mem_cons.mp hp with rfl |hp
    ·exact Nat.lt_succ_self _
    ·exact Nat.lt_succ_of_lt (hl p hp)
   ·rcases List.mem_cons.mp a with e |a<;>rcases List.mem_cons.mp b with e' |b
    ·cases e;cases e';rfl
    ·cases e;exact absurd (hl _ b) (Nat.lt_irrefl _)
    ·cases e';exact absurd (hl _ a) (Nat.lt_irrefl _)
    ·exact hi _ _ _ a b
  ·rename_i hk
   rw[if_neg hk]at h2
   exact zE hl hi h1 h2
theorem FX{M:Model}{A:Around}{E:Value→Shared→Prop}{s:Shared}{scope:Scope}{globals:Addr}{closure:List (Str×Addr)}{qual:Str}{func:Option Addr}{code:Value}{around:Env}{builtins:Addr}{Q:Env→Shared→Prop}
  (h:Q (newEnv scope s.heap.objs.size globals (cellsFrom (s.heap.objs.size+1) scope.names closure) qual func code (some around) builtins)
   { s with heap:=pushCells (s.heap.push { cls:=.type "dict",data:=.dict #[] }) scope.names }):
  wpAny M A (newFunctionEnv scope globals closure [] qual func code (some around) builtins) Q E s:=by
 simp only[newFunctionEnv,Option.isSome_some,if_true]
 refine wpAny_bind (wpAny_alloc ?_)
 refine wpAny_bind (wpAny_layCells _ (fun n k c=>rfl) scope.names closure _ _ ?_)
 rw[show({ s with heap:=s.heap.push { cls:=.type "dict",data:=.dict #[] } }:Shared).heap.objs.size=s.heap.objs.size+1 from Heap.size_push ..]
 rw[List.forIn_nil]
 exact wpAny_bind (wpAny_pure (wpAny_pure h))
theorem uY{sc:Scope}:∀{names:List (Str×NameKind)}{x:Str}{k:NameKind},
  (names.map fun(n,k)=>if(k==NameKind.free&&sc.kind== .function&&sc.names.lookup n==some .cell)then(n,NameKind.cell)else(n,k)).lookup x=some k→
  ∃k',names.lookup x=some k'∧(k=k'∨(k'= .free∧k= .cell))
 |[],_,_,h=>by simp at h
 |(n,k₀)::r,x,k,h=>by
  have ih:= @uY sc r x k
  have h':List.lookup x ((if(k₀==NameKind.free&&sc.kind== .function&&sc.names.lookup n==some .cell)=true then(n,NameKind.cell)else(n,k₀))::(r.map _))=some k:=h
  cases hx:x==n with
  |true=>
   simp only[List.lookup_cons,hx]
   by_cases hc:(k₀==NameKind.free&&sc.kind== .function&&sc.names.lookup n==some .cell)=true
   ·rw[if_pos hc]at h'
    simp only[List.lookup_cons,hx]at h'
    cases h'
    simp only[Bool.and_eq_true,beq_iff_eq]at hc
    exact⟨k₀,rfl,.inr ⟨hc.1.1,rfl⟩⟩
   ·rw[if_neg hc]at h'
    simp only[List.lookup_cons,hx]at h'
    cases h'
    exact⟨_,rfl,.inl rfl⟩
  |false=>
   simp only[List.lookup_cons,hx]
   by_cases hc:(k₀==NameKind.free&&sc.kind== .function&&sc.names.lookup n==some .cell)=true
   ·rw[if_pos hc]at h'
    simp only[List.lookup_cons,hx]at h'
    exact ih h'
   ·rw[if_neg hc]at h'
    simp only[List.lookup_cons,hx]at h'
    exact ih h'
structure DM(N:List Str)(sc scope:Scope)(own:List (Str×Nat)):Prop where
 kind:scope.kind= .function
 uniq:∀y∈scope.names,scope.names.lookup y.1=some y.2
 ix:∀p∈own,N[p.2]? =some p.1
 free:∀y∈scope.names,y.2= .free→sc.names.lookup y.1=some .cell∨sc.names.lookup y.1=some .free
 own:∀y∈scope.names,y.2= .local∨y.2= .cell→y.1∈own.map (·.1)∨y.1∉N
def wipe(σ:St):List Nat→St
 |[]=>σ
 |v::vs=>(wipe σ vs).set v none
theorem t8(σ:St):∀vs:List Nat,(wipe σ vs).length=σ.length
 |[]=>rfl
 |v::vs=>by unfold wipe;rw[List.length_set,t8 σ vs]
theorem yK{σ:St}{i:Nat}{x:V}:∀{vs:List Nat},(wipe σ vs)[i]? =some (some x)→σ[i]? =some (some x)∧i∉vs
 |[],h=>⟨h,by simp⟩
 |v::vs,h=>by
  unfold wipe at h
  by_cases hi:v=i
  ·subst hi
   by_cases hv:v<(wipe σ vs).length
   ·rw[List.getElem?_set_self hv]at h;cases h
   ·rw[List.getElem?_eq_none (by simpa using hv)]at h;cases h
  ·rw[List.getElem?_set_ne hi]at h
   obtain⟨h1,h2⟩:=yK h
   exact⟨h1,by simp only[List.mem_cons,not_or];exact⟨fun e=>hi e.symm,h2⟩⟩
abbrev Cx.blk(X:Cx)(s:Shared)(H:Hp)(scope:Scope)(cenv:Env)(fp:List Addr):Cx:={ X with s_0:=s,QQ:=H,env:=cenv,outer:=X.stack,ex:=fp,fn:=fun x=>scope.names.lookup x==some .cell,pn:=[],xe:=fun _ _=>False }
section
variable{X:Cx}{pins:List (Addr×Obj)}{σ:St}{H:Hp}{s:Shared}
theorem Gn{scope:Scope}{own:List (Str×Nat)}{fp:List Addr}(I:Inv X pins σ H s)(ok:DM X.N X.env.scope scope own)(hN:X.N.Nodup)(hfp:∀b∈fp,Cj X pins H b∧b<s.heap.objs.size):
  Inv (X.blk s H scope (compEnvC scope (cellsFrom (s.heap.objs.size+1) scope.names (cN X.env.cells scope.names [])) s.heap.objs.size X.env) fp) [] (wipe σ (own.map (·.2))) H { s with heap:=pushCells (s.heap.push { cls:=.type "dict",data:=.dict #[] }) scope.names }:=by
 have hfree:∀y∈scope.names,y.2= .free→∃c,X.env.cells.lookup y.1=some c:=fun y hy e=>by
  rcases ok.free y hy e with k |k
  ·exact I.ok.has _ (.inl k)
  ·exact I.ok.has _ (.inr k)
 generalize hcenv:compEnvC scope (cellsFrom (s.heap.objs.size+1) scope.names (cN X.env.cells scope.names [])) s.heap.objs.size X.env=cenv
 have kp:∀b o,s.heap.get? b=some o→(pushCells (s.heap.push { cls:=.type "dict",data:=.dict #[] }) scope.names).get? b=some o:=fun b o e=>pushCells_keeps _ _ _ _ (Heap.get?_push_of_some _ e)
 have hL:cenv.locals=s.heap.objs.size:=by rw[←hcenv];rfl
 have hcl:cenv.cells=cellsFrom (s.heap.objs.size+1) scope.names (cN X.env.cells scope.names []):=by rw[←hcenv];rfl
 have hsc:cenv.scope=Sd scope X.env.scope:=by rw[←hcenv];rfl
 rw[←Heap.size_push s.heap { cls:=.type "dict",data:=.dict #[] }]at hcl
 have cm:∀{y c},(y,c)∈cN X.env.cells scope.names []→X.env.cells.lookup y=some c∧c<s.heap.objs.size:=fun{y c} hm=>by
  rcases qe hm with hm |⟨h1,rfl⟩
  ·cases hm
  ·obtain⟨c,hc⟩:=hfree _ h1 rfl
   rw[hc]
   obtain⟨w,z⟩:=I.cell _ _ hc
   exact⟨rfl,z.lt⟩
 have mem:∀{y c},cenv.cells.lookup y=some c→(X.env.cells.lookup y=some c∧c<s.heap.objs.size)∨(s.heap.objs.size+1≤c∧NF (pushCells (s.heap.push { cls:=.type "dict",data:=.dict #[] }) scope.names) c none):=fun{y c} e=>by
  rw[hcl]at e
  rcases rX (PySem.mem_of_lookup e)with hm |⟨_,h2,h3⟩
  ·exact .inl (cm hm)
  ·rw[Heap.size_push]at h2;exact .inr ⟨h2,h3⟩
 have look:∀{y},scope.names.lookup y=some .free→∃c,cenv.cells.lookup y=some c∧X.env.cells.lookup y=some c:=fun{y} hl=>by
  have hy:(y,NameKind.free)∈scope.names:=PySem.mem_of_lookup hl
  obtain⟨c',e'⟩:=mem_lookup (vO (names:=scope.names) (n:=(s.heap.push { cls:=.type "dict",data:=.dict #[] }).objs.size) (vf (cells:=X.env.cells) (acc:=[]) hy))
  rw[←hcl]at e'
  refine⟨c',e',?_⟩
  rw[hcl]at e'
  rcases rX (PySem.mem_of_lookup e')with hm |⟨h1,_,_⟩
  ·exact(cm hm).1
  ·have:=ok.uniq _ h1
   rw[hl]at this;cases this
 have okB:(X.blk s H scope cenv fp).Ok:=by
  refine⟨I.ok.mod,by show cenv.scope.kind=_;rw[hsc];exact ok.kind,by show cenv.globals=_;rw[←hcenv];exact I.ok.glob,by show cenv.builtins=_;rw[←hcenv];exact I.ok.blt,by show s.heap.objs.size≤cenv.locals;rw[hL];exact Nat.le_refl _,
   fun y z c e1 e2=> ?_,fun y hy=> ?_,fun y c z e=> ?_,I.ok.hd,I.ok.frames,.inl rfl,fun b hb=>⟨?_,fun y c e z=> ?_⟩,I.bs,Nat.le_trans I.ok.EZ I.sz,fun b o e hb=> ?_,fun b hb z=> ?_,I.stack,I.DU⟩
  ·have e1:cenv.cells.lookup y=some c:=e1
   have e2:cenv.cells.lookup z=some c:=e2
   rw[hcl]at e1 e2
   refine zE (fun p hp=> ?_) (fun y z c a b=>I.ok.inj y z c (cm a).1 (cm b).1) (PySem.mem_of_lookup e1) (PySem.mem_of_lookup e2)
   rw[Heap.size_push]
   exact Nat.lt_succ_of_lt (cm (y:=p.1) (c:=p.2) hp).2
  ·show ∃c,cenv.cells.lookup y=some c
   have key:∀k,cenv.kindOf y=some k→(k= .cell∨k= .free)→∃c,cenv.cells.lookup y=some c:=fun k hk hk'=>by
    unfold Env.kindOf at hk
    rw[hsc]at hk
    obtain⟨k',e,r⟩:=uY hk
    have:k'= .cell∨k'= .free:=by
     rcases r with rfl |⟨rfl,_⟩
     ·exact hk'
     ·exact .inr rfl
    rcases this with rfl |rfl
    ·obtain⟨c,hm⟩:=zF (n:=(s.heap.push { cls:=.type "dict",data:=.dict #[] }).objs.size) (acc:=cN X.env.cells scope.names []) (PySem.mem_of_lookup e)
     obtain⟨c',e'⟩:=mem_lookup hm
     exact⟨c',by rw[hcl];exact e'⟩
    ·obtain⟨c,h1,_⟩:=look e
     exact⟨c,h1⟩
   rcases hy with hy |hy
   ·exact key _ hy (.inl rfl)
   ·exact key _ hy (.inr rfl)
  ·have z:(scope.names.lookup y==some NameKind.cell)=true:=z
   have z:scope.names.lookup y=some .cell:=by simpa using z
   have e:cenv.cells.lookup y=some c:=e
   rw[hcl]at e
   rcases rX (PySem.mem_of_lookup e)with hm |⟨_,h2,_⟩
   ·rcases qe hm with hm |⟨h1,_⟩
    ·cases hm
    ·have q:=ok.uniq _ h1
     rw[z]at q;cases q
   ·rw[Heap.size_push]at h2
    exact Nat.le_of_succ_le h2
  ·show b≠cenv.locals
   rw[hL];exact Nat.ne_of_lt (hfp b hb).2
  ·have e:cenv.cells.lookup y=some c:=e
   rcases mem e with⟨h1,_⟩|⟨h1,_⟩
   ·exact(hfp b hb).1.2.2.2.2.1 y c h1 z
   ·have h2:s.heap.objs.size+1≤b:=by rw[←z];exact h1
    exact absurd (Nat.lt_of_lt_of_le (hfp b hb).2 (Nat.le_of_succ_le h2)) (Nat.lt_irrefl _)
  ·rcases(hfp b hb).1.2.2.2.1 with z |z
   ·exact I.ok.Cz b o e z
   ·exact absurd (Nat.lt_of_lt_of_le (Heap.lt_size e) (Nat.le_trans I.ok.EZ z)) (Nat.lt_irrefl _)
  ·rcases List.mem_cons.mp (I.AJ b z)with z |z
   ·exact(hfp b hb).1.2.1 z
   ·exact(hfp b hb).1.2.2.1 z
 refine⟨okB,rfl,I.bare,Un.kept kp,⟨fun _=>none,?_,fun i y av e1 e2 e3=> ?_⟩,fun y c e=> ?_,?_,fun y c e=> ?_,fun p hp=> ?_,I.hok.kept kp,by rw[t8];exact I.len⟩
 ·show Heap.Ns _ cenv.locals _
  rw[hL]
  exact Heap.Ns.keeps (Heap.Ns.new ..) fun b o e=>pushCells_keeps _ _ _ _ e
 ·obtain⟨e2,hne⟩:=yK e2
  have hfr:scope.names.lookup y=some .free∧(cenv.kindOf y=some .cell∨cenv.kindOf y=some .free):=by
   have key:∀k,cenv.scope.names.lookup y=some k→k= .local∨k= .cell∨k= .free→scope.names.lookup y=some .free∧(cenv.kindOf y=some .cell∨cenv.kindOf y=some .free):=fun k hk hk'=>by
    have hk0:=hk
    rw[hsc]at hk
    obtain⟨k',e,r⟩:=uY hk
    have no:¬(k'= .local∨k'= .cell):=fun hh=>by
     rcases ok.own _ (PySem.mem_of_lookup e) hh with e' |e'
     ·obtain⟨p,hp,hpy⟩:=List.mem_map.mp e'
      have e3:=ok.ix p hp
      have:p.1=y:=hpy
      rw[this]at e3
      exact hne (List.mem_map.mpr ⟨p,hp,BD hN e3 e1⟩)
     ·exact e' (List.mem_of_getElem? e1)
    rcases r with rfl |⟨rfl,rfl⟩
    ·rcases hk' with rfl |rfl |rfl
     ·exact absurd (.inl rfl) no
     ·exact absurd (.inr rfl) no
     ·exact⟨e,.inr hk0⟩
    ·exact⟨e,.inl hk0⟩
   have e3:QW cenv.scope y:=e3
   rcases e3 with e3 |e3 |e3
   ·exact key _ e3 (.inl rfl)
   ·exact key _ e3 (.inr (.inl rfl))
   ·exact key _ e3 (.inr (.inr rfl))
  obtain⟨m,hn,hl⟩:=I.loc
  have hvis:QW X.env.scope y:=(ok.free _ (PySem.mem_of_lookup hfr.1) rfl).elim (fun k=>.inr (.inl k)) (fun k=>.inr (.inr k))
  obtain⟨w,r,q⟩:=hl i y av e1 e2 hvis
  refine⟨w,r,.inr ⟨hfr.2,?_⟩⟩
  obtain⟨c,h1,h2⟩:=look hfr.1
  rcases q with⟨k,_⟩|⟨_,c',e',z⟩
  ·have k:X.env.scope.names.lookup y=some .local:=k
   rcases ok.free _ (PySem.mem_of_lookup hfr.1) rfl with k' |k'<;>rw[show X.env.scope.names.lookup y=_ from k']at k<;>cases k
  ·rw[h2]at e';cases e'
   exact⟨c,h1,z.keeps kp⟩
 ·have e:cenv.cells.lookup y=some c:=e
  rcases mem e with⟨h1,_⟩|⟨_,z⟩
  ·obtain⟨w,z⟩:=I.cell y c h1
   exact⟨w,z.keeps kp⟩
  ·exact⟨_,z⟩
 ·show H cenv.locals=none
  rw[hL];exact I.hok.fresh (Nat.le_refl _)
 ·have e:cenv.cells.lookup y=some c:=e
  rcases mem e with⟨h1,_⟩|⟨h1,_⟩
  ·exact I.jU y c h1
  ·exact I.hok.fresh (Nat.le_of_succ_le h1)
 ·exact absurd (show p∈([]:List (Addr×Obj))++[]from hp) (by simp)
theorem QO{E:Value→Shared→Prop}{D:Addr}{xs:List V}{y:V}{v:Value}{Q:Value→Shared→Prop}(I:Inv X pins σ H s)(hD:H D=some (.lst xs))(hz:xs.length<sizeLine)(r:RelV y v)
  (h:∀s',Inv X pins σ (upd H D (.lst (xs++[y]))) s'→Q .none s'):wpAny (model X.prog X.w) X.A (call (.builtin "list.append") [.ref D,v]) Q E s:=by
 obtain⟨hz',its,n,ri,e⟩:=I.hok D _ hD
 have hl:=ri.length
 refine append_at (hsz:=by rw[List.size_toArray];omega) e fun h' sb ho'=> ?_
 refine h { s with heap:=h' } (I.write (t':=s.toks) (by rw[hD];trivial) (.inl rfl) (fun b u hb q=>(sb.2 b hb).trans q) ⟨_,ho'⟩ ⟨by rw[List.length_append];exact hz,its++[v],n+1,ri.append (.cons r .nil),?_⟩)
 rw[ho']
 simp
def RN(X:Cx)(ifs:List Expr)(t:TT):Prop:=
 ∀(pins:List (Addr×Obj))(s:Shared)(σ:St)(H:Hp)(Q:Bool→Hp→Prop),Inv X pins σ H s→t σ H Q→
  wpAny (model X.prog X.w) X.A (forIn ifs true fun c r=>if r=true then do let ok ←isTrue c X.env (eval c X.env);pure (ForInStep.yield ok)else pure (ForInStep.yield r)) (TP X pins σ Q) X.xe s
def QY:TT:=fun _ H Q=>Q true H
theorem xQ:RN X [] QY:=fun _ _ _ H _ I h=>wpAny_tests_nil ⟨H,I,h⟩
theorem IC{c:Expr}{t:TT}(h:PT X c t):RN X [c] t:=fun pins s σ H Q I hw=>wpAny_tests_one (h pins s σ H Q I hw)
end
theorem JK{α:Type}{t:Sem α}{Q Q':α→Shared→Prop}{M:Model}{A:Around}{E:Value→Shared→Prop}{s:Shared}(h:wpAny M A t Q (fun _ _=>False) s)(hQ:∀a s,Q a s→Q' a s):wpAny M A t Q' E s:=wpAny_mono h hQ fun _ _ z=>False.elim z
theorem EH{prog:Program}{w:World}{A:Around}{R:Result→Shared→Prop}{s:Shared}{elt target iter:Expr}{ifs:List Expr}{scope:Scope}{pos:Pos}{it acc:Value}{env:Env}(I:Nat→Shared→Prop)
  (turn:∀n s,I n s→wpAny (model prog w) A (pyNext it) (fun r s₁=>match r with
   |none=>R (.ok .next) s₁
   |some v=>wpAny (model prog w) A (letOwnedTupleGo target it v) (fun _ s₁'=>wpAny (model prog w) A (assign target env v) (fun _ s₂=>
     wpAny (model prog w) A (forIn ifs true fun c r=>if r=true then do let ok ←isTrue c env (eval c env);pure (ForInStep.yield ok)else pure (ForInStep.yield r)) (fun ok s₃=>
      if ok=true then wpAny (model prog w) A (eval elt env) (fun x s₄=>
       wpAny (model prog w) A (call (.builtin "list.append") [acc,x]) (fun _ s₅=>∃m,m<n∧I m s₅) (notedBy (model prog w) A env fun e s'=>R (.error e) s') s₄) (notedBy (model prog w) A env fun e s'=>R (.error e) s') s₃
      else ∃m,m<n∧I m s₃) (notedBy (model prog w) A env fun e s'=>R (.error e) s') s₂) (notedBy (model prog w) A env fun e s'=>R (.error e) s') s₁') (notedBy (model prog w) A env fun e s'=>R (.error e) s') s₁) (notedBy (model prog w) A env fun e s'=>R (.error e) s') s)
  (n:Nat) (h:I n s):
  codeAny (model prog w) A (.compLoop (.ListComp elt [⟨target,iter,ifs,0⟩] scope pos) 0 it acc env) R s:=by
 refine codeAny_loop rfl I (fun n s hI=> ?_) n h
 show wpAny _ A ((compTurn (.ListComp elt [⟨target,iter,ifs,0⟩] scope pos) 0 it acc env).onRaise (fun x=>do noteFrame x env;theTreesLotGoes x)) _ _ s
 refine wpAny_noted ?_
 rw[compTurn_list]
 refine wpAny_bind (wpAny_standAt (wpAny_bind (wpAny_mono (turn n s hI) (fun r s₁ h₁=> ?_) fun _ _ h'=>h')))
 cases r with
 |none=>exact wpAny_pure h₁
 |some v=>
  refine wpAny_bind (wpAny_mono h₁ (fun _ s₁' h₁'=> ?_) fun _ _ h'=>h')
  refine wpAny_bind (wpAny_mono h₁' (fun _ s₂ h₂=>wpAny_bind (wpAny_mono h₂ (fun ok s₃ h₃=> ?_) fun _ _ h'=>h')) fun _ _ h'=>h')
  cases ok with
  |false=>exact wpAny_pure ⟨rfl,h₃⟩
  |true=>
   exact wpAny_bind (wpAny_bind (wpAny_mono h₃ (fun x s₄ h₄=>wpAny_bind (wpAny_mono h₄ (fun _ s₅ h₅=>wpAny_pure (wpAny_pure ⟨rfl,h₅⟩)) fun _ _ h'=>h')) fun _ _ h'=>h'))
section
variable{X:Cx}
def QS(wi:TI)(g:TG)(tt:TT)(te:TE)(vs:List Nat):TE:=fun σ H Q=>wi σ H fun J H1=>∀D,H1 D=none→∃W:Nat→Nat→Hp→Prop,(∃m,W 0 m (upd H1 D (.lst [])))∧∀i m H,W i m H→
 (J.stop i H∧Q (.ref D) H)∨(J.go i H∧∃Nx:Hp→Prop,(∀H',Nx H'→∃m',m'<m∧W (i+1) m' H')∧∀x H',J.OZ i H x H'→g x (wipe σ vs) H' fun σ2 H2=>wipe σ2 vs=wipe σ vs∧tt σ2 H2 fun b H3=>
  if b=true then te σ2 H3 fun y H4=>∃acc,H4 D=some (.lst acc)∧acc.length<sizeLine∧Nx (upd H4 D (.lst (acc++[y])))else Nx H3)
theorem IX{pins:List (Addr×Obj)}{s:Shared}{σ:St}{H:Hp}{Q:VK}{elt tg iter:Expr}{ifs:List Expr}{scope:Scope}{own:List (Str×Nat)}{pos pos':Pos}{wi:TI}{g:TG}{tt:TT}{te:TE}{use:Option (Value→Sem Unit)}{Qf:Value→Shared→Prop}
  (hc:X.calm=true) (hN:X.N.Nodup) (I:Inv X pins σ H s) (hi:PI X tg iter wi) (ok:DM X.N X.env.scope scope own)
  (hg:∀(s:Shared)(H:Hp)(C:Addr)(cl:List (Str×Addr))(fp:List Addr),PG (X.blk s H scope (compEnvC scope cl C X.env) fp) tg g) (ht:∀(s:Shared)(H:Hp)(C:Addr)(cl:List (Str×Addr))(fp:List Addr),RN (X.blk s H scope (compEnvC scope cl C X.env) fp) ifs tt)
  (he:∀(s:Shared)(H:Hp)(C:Addr)(cl:List (Str×Addr))(fp:List Addr),PE (X.blk s H scope (compEnvC scope cl C X.env) fp) elt te) (hs:∀x,foldedSetIterable iter X.env x=pure x)
  (h:QS wi g tt te (own.map (·.2)) σ H Q)
  (hRR:∀D C s' m H',Inv X pins σ H' s'→Q (.ref D) H'→s'.heap.Ns C m→Cj X pins H' C→compPost (model X.prog X.w) X.A X.xe use Qf (.ref D) C (.ok .next) s'):
  wpAny (model X.prog X.w) X.A (comprehension (.ListComp elt [⟨tg,iter,ifs,0⟩] scope pos) scope X.env pos' (newList []) false (eval iter X.env) use) Qf X.xe s:=by
 have hfree:∀y∈scope.names,y.2= .free→∃c,X.env.cells.lookup y.1=some c:=fun y hy e=>by
  rcases ok.free y hy e with k |k
  ·exact I.ok.has _ (.inl k)
  ·exact I.ok.has _ (.inr k)
 refine wpAny_comprehension_free (use:=use) rfl hs (Hx hfree) ok.kind (fun y hy e=>by rw[ok.uniq y hy,e])
  (cC (hi pins s σ H _ I h) fun xv s1 hx=>cC hx fun itv s2 h2=> ?_)
 obtain⟨it,fp,tn,J,H2,e,I2,T,st2,f2,q⟩:=h2
 subst e
 refine wpAny_newObj_type (FX ?_) (by show 0≤sizeLine;decide)
 generalize hD:s2.heap.objs.size=D
 have hDn:H2 D=none:=I2.hok.fresh (Nat.le_of_eq hD)
 obtain⟨W,⟨m0,w0⟩,turn⟩:=q D hDn
 generalize hs3:({ s2 with heap:=s2.heap.push { cls:=.type "list",data:=.seq ([]:List Value).toArray } }:Shared)=s3
 have I3:Inv X pins σ (upd H2 D (.lst [])) s3:=by
  rw[←hs3]
  refine I2.laid (t':=s2.toks) (fun b o e=>Heap.get?_push_of_some _ e) (Nat.le_of_eq hD) ⟨Nat.zero_le _,[],0,.nil,?_⟩
  rw[←hD]
  exact Heap.get?_push_size _ rfl
 have h3:s3.heap=s2.heap.push { cls:=.type "list",data:=.seq ([]:List Value).toArray }:=by rw[←hs3]
 have sz:∀b∈fp,b<s2.heap.objs.size:=fun b hb=>by
  obtain⟨o,e,_⟩:=T.obj _ _ st2 b hb
  exact Heap.lt_size e
 have f3:∀b∈fp,Cj X pins (upd H2 D (.lst [])) b∧b<s3.heap.objs.size:=fun b hb=>by
  have hlt:=sz b hb
  refine⟨⟨?_,(f2 b hb).2⟩,by rw[h3,Heap.size_push];exact Nat.lt_succ_of_lt hlt⟩
  rw[aq (by rw[←hD];exact Nat.ne_of_lt hlt)]
  exact(f2 b hb).1
 have st3:tn 0 s3.heap:=T.keep _ _ _ st2 fun b _ o e=>by rw[h3];exact Heap.get?_push_of_some _ e
 have I4:=Gn I3 ok hN f3
 have pg:=hg s3 (upd H2 D (.lst [])) s3.heap.objs.size (cellsFrom (s3.heap.objs.size+1) scope.names (cN X.env.cells scope.names [])) fp
 have pt:=ht s3 (upd H2 D (.lst [])) s3.heap.objs.size (cellsFrom (s3.heap.objs.size+1) scope.names (cN X.env.cells scope.names [])) fp
 have pe:=he s3 (upd H2 D (.lst [])) s3.heap.objs.size (cellsFrom (s3.heap.objs.size+1) scope.names (cN X.env.cells scope.names [])) fp
 show codeAny _ _ (.compStart (.ListComp elt [⟨tg,iter,ifs,0⟩] scope pos) 0 (.ref it) (.ref D) (compEnvC scope (cellsFrom (s3.heap.objs.size+1) scope.names (cN X.env.cells scope.names [])) s3.heap.objs.size X.env)) (compPost (model X.prog X.w) X.A X.xe use Qf (.ref D) s3.heap.objs.size) { s3 with heap:=pushCells (s3.heap.push { cls:=.type "dict",data:=.dict #[] }) scope.names }
 have nfp:∀b∈fp,(upd H2 D (.lst [])) b=none:=fun b hb=>(f3 b hb).1.1
 generalize hce:compEnvC scope (cellsFrom (s3.heap.objs.size+1) scope.names (cN X.env.cells scope.names [])) s3.heap.objs.size X.env=ce at I4 pg pt pe ⊢
 have cL:ce.locals=s3.heap.objs.size:=by subst hce;rfl
 generalize hH3:upd H2 D (.lst [])=H3 at I3 I4 pg pt pe w0 nfp f3
 generalize hs4:({ s3 with heap:=pushCells (s3.heap.push { cls:=.type "dict",data:=.dict #[] }) scope.names }:Shared)=s4 at I4 ⊢
 have st4:tn 0 s4.heap:=T.keep _ _ _ st3 fun b _ o e=>by rw[←hs4];exact pushCells_keeps _ _ _ _ (Heap.get?_push_of_some _ e)
 have stat:∀{σ':St}{H':Hp}{s':Shared},Inv (X.blk s3 H3 scope ce fp) [] σ' H' s'→(∀b∈fp,H' b=none)→∀b∈fp,Cj (X.blk s3 H3 scope ce fp) [] H' b:=fun{σ' H' s'} I' hn b hb=>
  ⟨hn b hb,(I'.ok.OH b hb).1,I'.ok.CD b hb,.inl hb,fun x c e=>(I'.ok.OH b hb).2 x c e,fun p hp=>absurd (show p∈([]:List (Addr×Obj))++[]from hp) (by simp)⟩
 have loop:codeAny (model X.prog X.w) X.A (.compLoop (.ListComp elt [⟨tg,iter,ifs,0⟩] scope pos) 0 (.ref it) (.ref D) ce) (compPost (model X.prog X.w) X.A X.xe use Qf (.ref D) s3.heap.objs.size) s4:=by
  refine EH (fun n s'=>∃i H',Inv (X.blk s3 H3 scope ce fp) [] (wipe σ (own.map (·.2))) H' s'∧tn i s'.heap∧(∀b∈fp,H' b=none)∧W i n H') ?_ m0 ⟨0,H3,I4,st4,nfp,w0⟩
  rintro n s5 ⟨i,H5,I5,st5,n5,w5⟩
  rcases turn i n H5 w5 with⟨stop,qq⟩|⟨go,Nx,hNx,step⟩
  ·have td:=T.done (X.blk s3 H3 scope ce fp) rfl rfl rfl hc i [] s5 _ H5 (fun _ _=>False) I5 (stat I5 n5) st5 stop
   refine JK td fun r s6 zz=> ?_
   obtain⟨hr,I6⟩:=zz
   subst hr
   have I7:Inv X pins σ H5 s6:=I3.call' (ch:=fp) I6.os I6.base I6.hok I6.bare fun b hb=>⟨(f3 b hb).1.2.2.2.1,(f3 b hb).1.2.1,(f3 b hb).1.2.2.2.2.1,(f3 b hb).1.2.2.2.2.2⟩
   have nC:H5 s3.heap.objs.size=none:=by
    have z:H5 ce.locals=none:=I6.free
    rw[cL]at z
    exact z
   obtain⟨m,hn,_⟩:=I6.loc
   have hn:s6.heap.Ns ce.locals m:=hn
   rw[cL]at hn
   exact hRR D s3.heap.objs.size s6 m H5 I7 qq hn (I3.OD (Nat.le_refl _) nC)
  ·have ti:=T.item (X.blk s3 H3 scope ce fp) rfl rfl rfl hc i [] s5 _ H5 (fun _ _=>False) I5 (stat I5 n5) st5 go
   refine JK ti fun r s6 zz=> ?_
   obtain⟨u,hr,h6⟩:=zz
   subst hr
   refine JK h6 fun _ s7 zz=> ?_
   obtain⟨x,H7,I7,r7,y7,st7,n7⟩:=zz
   have I7':=I7.pinned (stat I7 n7) (T.obj _ _ st7)
   refine JK (pg _ s7 _ H7 x u _ I7' r7 (step x H7 y7)) fun _ s8 zz=> ?_
   obtain⟨σ8,H8,I8,hw8,q8⟩:=zz
   refine JK (pt _ s8 σ8 H8 _ I8 q8) fun b s9 zz=> ?_
   obtain⟨H9,I9,q9⟩:=zz
   have fin:∀{s':Shared}{H':Hp},Inv (X.blk s3 H3 scope ce fp) ([]++Bl fp s7.heap) σ8 H' s'→Nx H'→∃m,m<n∧∃i H',Inv (X.blk s3 H3 scope ce fp) [] (wipe σ (own.map (·.2))) H' s'∧tn i s'.heap∧(∀b∈fp,H' b=none)∧W i m H':=fun{s' H'} I' nx=>by
    obtain⟨m',hm,w'⟩:=hNx H' nx
    have pin':∀b∈fp,∀o,s7.heap.get? b=some o→s'.heap.get? b=some o∧H' b=none:=fun b hb o e=>
     let z:=I'.pin (b,o) (List.mem_append_right _ (List.mem_append_right _ (wQ hb e)))
     ⟨z.1,z.2.1⟩
    have hl:(wipe σ (own.map (·.2))).length=σ8.length:=by rw[←hw8,t8]
    refine⟨m',hm,i+1,H',(I'.xr (pins:=[])).weak hl (fun j v e=> ?_),T.keep _ _ _ st7 fun b hb o e=>(pin' b hb o e).1,fun b hb=> ?_,w'⟩
    ·rw[←hw8]at e
     exact(yK e).1
    ·obtain⟨o,e,_⟩:=T.obj _ _ st7 b hb
     exact(pin' b hb o e).2
   cases b with
   |false=>
    simp only[Bool.false_eq_true,if_false]at q9 ⊢
    exact fin I9 q9
   |true=>
    simp only[if_true]at q9 ⊢
    refine JK (pe _ s9 σ8 H9 _ I9 q9) fun z s10 zz=> ?_
    obtain⟨yv,H10,I10,r10,acc,hD10,hz10,nx⟩:=zz
    exact QO (X:=X.blk s3 H3 scope ce fp) I10 hD10 hz10 r10 fun s11 I11=>fin I11 nx
 exact codeAny_compStart_list loop (T.self X.A 0 _ _ _ st4 loop)
theorem II{elt tg iter:Expr}{ifs:List Expr}{scope:Scope}{own:List (Str×Nat)}{pos:Pos}{wi:TI}{g:TG}{tt:TT}{te:TE}(hc:X.calm=true)(hN:X.N.Nodup)(hi:PI X tg iter wi)(ok:DM X.N X.env.scope scope own)
  (hg:∀(s:Shared)(H:Hp)(C:Addr)(cl:List (Str×Addr))(fp:List Addr),PG (X.blk s H scope (compEnvC scope cl C X.env) fp) tg g) (ht:∀(s:Shared)(H:Hp)(C:Addr)(cl:List (Str×Addr))(fp:List Addr),RN (X.blk s H scope (compEnvC scope cl C X.env) fp) ifs tt)
  (he:∀(s:Shared)(H:Hp)(C:Addr)(cl:List (Str×Addr))(fp:List Addr),PE (X.blk s H scope (compEnvC scope cl C X.env) fp) elt te) (hs:∀x,foldedSetIterable iter X.env x=pure x:=by intro _;rfl):
  PE X (.ListComp elt [⟨tg,iter,ifs,0⟩] scope pos) (QS wi g tt te (own.map (·.2))):=by
 intro pins s σ H Q I h
 rw[eval_ListComp]
 refine IX hc hN I hi ok hg ht he hs h fun D C s' m H' I' q hn f=>⟨m,hn,fun h'' sb=> ?_⟩
 obtain⟨f0,f1,f2,f3,f4,f5⟩:=f
 exact⟨.ref D,H',I'.turned (t':=s'.toks) (fun b o hb e=>(sb.2 b hb).trans e) f0 f1 f3 f4 f5,rfl,q⟩
theorem Bk{i:Nat}{y:Str}{py:Pos}{elt tg iter:Expr}{ifs:List Expr}{scope:Scope}{own:List (Str×Nat)}{pos spos:Pos}{wi:TI}{g:TG}{tt:TT}{te:TE}(hc:X.calm=true)(hN:X.N.Nodup)(hy:X.N[i]? =some y)(hyl:X.env.scope.names.lookup y=some .local)
  (hsw:swapsWith (.ListComp elt [⟨tg,iter,ifs,0⟩] scope pos) (some (.Name y py)) spos.line X.env=pure true) (hi:PI X tg iter wi) (ok:DM X.N X.env.scope scope own)
  (hg:∀(s:Shared)(H:Hp)(C:Addr)(cl:List (Str×Addr))(fp:List Addr),PG (X.blk s H scope (compEnvC scope cl C X.env) fp) tg g) (ht:∀(s:Shared)(H:Hp)(C:Addr)(cl:List (Str×Addr))(fp:List Addr),RN (X.blk s H scope (compEnvC scope cl C X.env) fp) ifs tt)
  (he:∀(s:Shared)(H:Hp)(C:Addr)(cl:List (Str×Addr))(fp:List Addr),PE (X.blk s H scope (compEnvC scope cl C X.env) fp) elt te) (hs:∀x,foldedSetIterable iter X.env x=pure x:=by intro _;rfl):
  PS X (.Assign [.Name y py] (.ListComp elt [⟨tg,iter,ifs,0⟩] scope pos) spos) (NW (QS wi g tt te (own.map (·.2))) (BV i)):=by
 intro pins s σ H D I h
 rw[exec_Assign_Name_used _ _ _ _ hsw]
 refine wpAny_bind (wpAny_standAt (wpAny_bind ?_))
 show wpAny _ X.A (do let _ ←comprehension (.ListComp elt [⟨tg,iter,ifs,0⟩] scope pos) scope X.env (firstIterPos [⟨tg,iter,ifs,0⟩] pos) (newList []) false (eval iter X.env) (some (assign (.Name y py) X.env))) _ _ s
 have h:QS wi g tt te (own.map (·.2)) σ H (fun x H1=>BV i x σ H1 D.nx):=h
 refine wpAny_bind (cC (IX (Qf:=fun _ s'=>SP X pins D .next s') hc hN I hi ok hg ht he hs h fun L C s' m H' I' q hn f=> ?_) fun _ s' hq=>wpAny_pure (wpAny_pure hq))
 show wpAny _ _ (assign (.Name y py) X.env (.ref L)) _ _ _
 refine wpAny_assign_Name (CW (v:=V.ref L) I' hN hy (.inl hyl) rfl (fun s2 I2 ⟨a,sb,ha⟩=> ?_) (.inr hyl))
 obtain⟨f0,f1,f2,f3,f4,f5⟩:=f
 have haC:C≠a:=by
  rcases ha with z |z
  ·rw[z];exact f1
  ·exact fun e=>f4 y a z e.symm
 refine⟨m,hn.sameBut sb haC,fun h3 sb3=> ?_⟩
 exact⟨_,H',I2.turned (t':=s2.toks) (fun b o hb e=>(sb3.2 b hb).trans e) f0 f1 f3 f4 f5,q⟩
theorem DT{elt:Expr}{gs:List Comprehension}{scope:Scope}{pos py:Pos}{y:Str}{l:Nat}{env:Env}(hk:env.scope.kind= .function)(hy:env.scope.names.lookup y=some .local)(hl:(py.line==pos.line)=true)
  (ha:(scope.names.any fun(n,k)=>n==y&&(k== .local||k== .cell))=false):swapsWith (.ListComp elt gs scope pos) (some (.Name y py)) l env=pure true:=by
 have ky:env.kindOf y=some .local:=hy
 have hb:env.blockKind= .function:=by unfold Env.blockKind;rw[hk];rfl
 unfold swapsWith
 simp only[hb,ky,ha,Expr.pos,hl]
 rfl
end
theorem IV{K:PySem.W.Frag}{a:Addr}{xs:List V}{g:TG}{tt:TT}{te:TE}{vs:List Nat}{σ:St}{H1:Hp}{D:Addr}{Qd:Hp→Prop}(Pv:Nat→Hp→Prop)(h0:Pv 0 (upd H1 D (.lst [])))(hl:∀i H,i≤xs.length→Pv i H→bW K H a xs)
  (hs:∀i x H,xs[i]? =some x→Pv i H→g x (wipe σ vs) H fun σ2 H2=>wipe σ2 vs=wipe σ vs∧tt σ2 H2 fun b H3=>
   if b=true then te σ2 H3 fun y H4=>∃acc,H4 D=some (.lst acc)∧acc.length<sizeLine∧Pv (i+1) (upd H4 D (.lst (acc++[y])))else Pv (i+1) H3) (hd:∀H,Pv xs.length H→Qd H):
  ∃W:Nat→Nat→Hp→Prop,(∃m,W 0 m (upd H1 D (.lst [])))∧∀i m H,W i m H→
   ((KN K a).stop i H∧Qd H)∨((KN K a).go i H∧∃Nx:Hp→Prop,(∀H',Nx H'→∃m',m'<m∧W (i+1) m' H')∧∀x H',(KN K a).OZ i H x H'→g x (wipe σ vs) H' fun σ2 H2=>wipe σ2 vs=wipe σ vs∧tt σ2 H2 fun b H3=>
     if b=true then te σ2 H3 fun y H4=>∃acc,H4 D=some (.lst acc)∧acc.length<sizeLine∧Nx (upd H4 D (.lst (acc++[y])))else Nx H3):=by
 refine⟨fun i m H=>m=xs.length - i∧i≤xs.length∧Pv i H,⟨xs.length,by simp,Nat.zero_le _,h0⟩,?_⟩
 rintro i m H ⟨rfl,hi,p⟩
 have q:=hl i H hi p
 by_cases hlt:i<xs.length
 ·refine .inr ⟨⟨xs,xs[i],q,by simp[hlt]⟩,Pv (i+1),fun H' p'=>⟨xs.length - (i+1),by omega,rfl,hlt,p'⟩,fun x H' y=> ?_⟩
  obtain⟨e,y⟩:=y
  subst e
  exact hs i x _ (y xs q) p
 ·have e:i=xs.length:=by omega
  subst e
  exact .inl ⟨⟨xs,q,Nat.le_refl _⟩,hd H p⟩
theorem Qv{K:PySem.W.Frag}{a:Addr}{xs:List V}{g:TG}{tt:TT}{te:TE}{vs:List Nat}{σ:St}{H1:Hp}{D:Addr}{Qd:Hp→Prop}(Pv:Nat→Hp→Prop)(h0:Pv 0 (upd H1 D (.lst [])))(hl:∀i H,i≤xs.length→Pv i H→sE K H a xs)
  (hs:∀i x H,xs[i]? =some x→Pv i H→g x (wipe σ vs) H fun σ2 H2=>wipe σ2 vs=wipe σ vs∧tt σ2 H2 fun b H3=>
   if b=true then te σ2 H3 fun y H4=>∃acc,H4 D=some (.lst acc)∧acc.length<sizeLine∧Pv (i+1) (upd H4 D (.lst (acc++[y])))else Pv (i+1) H3) (hd:∀H,Pv xs.length H→Qd H):
  ∃W:Nat→Nat→Hp→Prop,(∃m,W 0 m (upd H1 D (.lst [])))∧∀i m H,W i m H→
   ((OY K a).stop i H∧Qd H)∨((OY K a).go i H∧∃Nx:Hp→Prop,(∀H',Nx H'→∃m',m'<m∧W (i+1) m' H')∧∀x H',(OY K a).OZ i H x H'→g x (wipe σ vs) H' fun σ2 H2=>wipe σ2 vs=wipe σ vs∧tt σ2 H2 fun b H3=>
     if b=true then te σ2 H3 fun y H4=>∃acc,H4 D=some (.lst acc)∧acc.length<sizeLine∧Nx (upd H4 D (.lst (acc++[y])))else Nx H3):=by
 refine⟨fun i m H=>m=xs.length - i∧i≤xs.length∧Pv i H,⟨xs.length,by simp,Nat.zero_le _,h0⟩,?_⟩
 rintro i m H ⟨rfl,hi,p⟩
 have q:=hl i H hi p
 by_cases hlt:i<xs.length
 ·refine .inr ⟨⟨xs,xs[i],q,by simp[hlt]⟩,Pv (i+1),fun H' p'=>⟨xs.length - (i+1),by omega,rfl,hlt,p'⟩,fun x H' y=> ?_⟩
  obtain⟨e,y⟩:=y
  subst e
  exact hs i x _ (y xs q) p
 ·have e:i=xs.length:=by omega
  subst e
  exact .inl ⟨⟨xs,q,Nat.le_refl _⟩,hd H p⟩
def QM(N:List Str)(sc scope:Scope)(own:List (Str×Nat)):Bool:=
 (match scope.kind with | .function=>true |_=>false)&&(scope.names.all fun y=>decide (scope.names.lookup y.1=some y.2))&&(own.all fun p=>decide (N[p.2]? =some p.1))&&
  (scope.names.all fun y=>match y.2 with
   | .free=>(match sc.names.lookup y.1 with |some .cell=>true |some .free=>true |_=>false)
   | .local=>decide (y.1∈own.map (·.1))||decide (y.1∉N)
   | .cell=>decide (y.1∈own.map (·.1))||decide (y.1∉N)
   |_=>true)
theorem Ny{N:List Str}{sc scope:Scope}{own:List (Str×Nat)}(h:QM N sc scope own=true):DM N sc scope own:=by
 unfold QM at h
 simp only[Bool.and_eq_true,List.all_eq_true,decide_eq_true_eq]at h
 obtain⟨⟨⟨h1,h2⟩,h3⟩,h4⟩:=h
 refine⟨?_,h2,h3,fun y hy e=> ?_,fun y hy e=> ?_⟩
 ·split at h1
  ·assumption
  ·cases h1
 ·have q:=h4 y hy
  simp only[e]at q
  split at q<;>first |exact .inl (by assumption)|exact .inr (by assumption)|cases q
 ·have q:=h4 y hy
  rcases e with e |e<;>(simp only[e,Bool.or_eq_true,decide_eq_true_eq]at q;exact q)
end L2
namespace L2
open PySem PySem.Spec PyProof.Rows
section
variable{κ:Type}[DecidableEq κ]
def dj(kvs:List (κ×V))(k:κ):Option V:=(kvs.find? fun kv=>decide (kv.1=k)).map (·.2)
def putK(kvs:List (κ×V))(k:κ)(v:V):List (κ×V):=
 if(kvs.any fun kv=>decide (kv.1=k))=true then kvs.map (fun kv=>if kv.1=k then(kv.1,v)else kv)else kvs++[(k,v)]
theorem g0{p:κ×V}{r:List (κ×V)}{k:κ}(e:p.1=k):dj (p::r) k=some p.2:=by simp[dj,List.find?_cons,e]
theorem g8{p:κ×V}{r:List (κ×V)}{k:κ}(e:¬p.1=k):dj (p::r) k=dj r k:=by simp[dj,List.find?_cons,e]
theorem t9(k:κ):∀kvs:List (κ×V),(kvs.any fun kv=>decide (kv.1=k))=(dj kvs k).isSome
 |[]=>rfl
 |p::r=>by
  rw[List.any_cons]
  by_cases e:p.1=k
  ·simp only[g0 e,decide_eq_true e,Bool.true_or,Option.isSome_some]
  ·rw[g8 e,decide_eq_false e,Bool.false_or];exact t9 k r
theorem E7(k j:κ)(y:V):∀kvs:List (κ×V),dj (kvs.map fun kv=>if kv.1=k then(kv.1,y)else kv) j=(dj kvs j).map fun x=>if j=k then y else x
 |[]=>rfl
 |p::r=>by
  have ih:=E7 k j y r
  rw[List.map_cons]
  by_cases h:p.1=k
  ·rw[if_pos h]
   by_cases e:p.1=j
   ·rw[g0 (p:=(p.1,y)) e,g0 e,Option.map_some,if_pos (e.symm.trans h)]
   ·rw[g8 (p:=(p.1,y)) e,g8 e,ih]
  ·rw[if_neg h]
   by_cases e:p.1=j
   ·rw[g0 (p:=p) e,g0 e,Option.map_some,if_neg (fun z=>h (e.trans z))]
   ·rw[g8 (p:=p) e,g8 e,ih]
theorem CP(k j:κ)(y:V):∀kvs:List (κ×V),dj kvs k=none→dj (kvs++[(k,y)]) j=if j=k then some y else dj kvs j
 |[],_=>by
  by_cases e:k=j
  ·rw[if_pos e.symm];exact g0 (p:=(k,y)) e
  ·rw[if_neg (fun z=>e z.symm)];exact g8 (p:=(k,y)) e
 |p::r,hn=>by
  rw[List.cons_append]
  have hk:¬p.1=k:=fun z=>by rw[g0 z]at hn;cases hn
  rw[g8 hk]at hn
  have ih:=CP k j y r hn
  by_cases e:p.1=j
  ·rw[g0 e,g0 e,if_neg (fun z=>hk (e.trans z))]
  ·rw[g8 e,g8 e,ih]
theorem rA(kvs:List (κ×V))(k j:κ)(y:V):dj (putK kvs k y) j=if j=k then some y else dj kvs j:=by
 unfold putK
 by_cases a:(kvs.any fun kv=>decide (kv.1=k))=true
 ·rw[if_pos a,E7]
  rw[t9]at a
  by_cases e:j=k
  ·obtain⟨x,hx⟩:=Option.isSome_iff_exists.mp a
   rw[if_pos e,e,hx,Option.map_some,if_pos rfl]
  ·rw[if_neg e]
   cases dj kvs j with
   |none=>rfl
   |some x=>rw[Option.map_some,if_neg e]
 ·rw[if_neg a]
  refine CP k j y kvs ?_
  rw[t9]at a
  cases q:dj kvs k with
  |none=>rfl
  |some x=>rw[q]at a;exact(a rfl).elim
theorem iz(kvs:List (κ×V))(k:κ)(v:V):(putK kvs k v).length≤kvs.length+1:=by
 unfold putK
 split
 ·rw[List.length_map];omega
 ·rw[List.length_append,List.length_cons,List.length_nil];omega
theorem Bj{kvs:List (κ×V)}{k:κ}(v:V)(h:dj kvs k=none):putK kvs k v=kvs++[(k,v)]:=by
 unfold putK
 rw[t9,h]
 exact if_neg (by decide)
theorem m9.rV{o:Option V}{u:Option Value}(r:m9 o u):o.isSome=u.isSome:=by
 cases o with
 |none=>cases u with
  |none=>rfl
  |some _=>exact(show False from r).elim
 |some _=>cases u with
  |none=>exact(show False from r).elim
  |some _=>rfl
theorem m9.getD{o:Option V}{u:Option Value}{d:V}{d':Value}(r:m9 o u)(rd:RelV d d'):RelV (o.getD d) (u.getD d'):=by
 cases o with
 |none=>cases u with
  |none=>exact rd
  |some _=>exact(show False from r).elim
 |some _=>cases u with
  |none=>exact(show False from r).elim
  |some _=>exact r
theorem KV.val{kvs:List (κ×V)}{vs:List (κ×Value)}(r:KV kvs vs)(k:κ):m9 (dj kvs k) (valueAt vs k):=by
 unfold KV at r
 induction r with
 |nil=>exact True.intro
 | @cons p q ps qs h t ih=>
  obtain⟨h1,h2⟩:=h
  by_cases e:p.1=k
  ·have e':q.1=k:=h1.symm.trans e
   have b:valueAt (q::qs) k=some q.2:=by simp[valueAt,List.find?_cons,e']
   rw[g0 e,b];exact h2
  ·have e':¬q.1=k:=fun z=>e (h1.trans z)
   have b:valueAt (q::qs) k=valueAt qs k:=by simp[valueAt,List.find?_cons,e']
   rw[g8 e,b];exact ih
theorem KV.any{kvs:List (κ×V)}{vs:List (κ×Value)}(r:KV kvs vs)(k:κ):(kvs.any fun kv=>decide (kv.1=k))=vs.any fun kv=>decide (kv.1=k):=by
 unfold KV at r
 induction r with
 |nil=>rfl
 |cons h t ih=>rw[List.any_cons,List.any_cons,ih,h.1]
theorem KV.repl{kvs:List (κ×V)}{vs:List (κ×Value)}(r:KV kvs vs)(k:κ){y:V}{u:Value}(ry:RelV y u):
  KV (kvs.map fun kv=>if kv.1=k then(kv.1,y)else kv) (vs.map fun kv=>if kv.1=k then(kv.1,u)else kv):=by
 unfold KV at r ⊢
 induction r with
 |nil=>exact .nil
 | @cons p q ps qs h t ih=>
  rw[List.map_cons,List.map_cons]
  refine .cons ?_ ih
  obtain⟨h1,h2⟩:=h
  by_cases e:p.1=k
  ·rw[if_pos e,if_pos (h1.symm.trans e)];exact⟨h1,ry⟩
  ·rw[if_neg e,if_neg (fun z=>e (h1.trans z))];exact⟨h1,h2⟩
theorem KV.put{kvs:List (κ×V)}{vs:List (κ×Value)}(r:KV kvs vs)(k:κ){y:V}{u:Value}(ry:RelV y u):KV (putK kvs k y) (stored vs k u):=by
 unfold putK stored
 rw[r.any k]
 by_cases e:(vs.any fun kv=>decide (kv.1=k))=true
 ·rw[if_pos e,if_pos e];exact r.repl k ry
 ·rw[if_neg e,if_neg e];exact Paired.snoc r ⟨rfl,ry⟩
theorem KV.length{kvs:List (κ×V)}{vs:List (κ×Value)}(r:KV kvs vs):kvs.length=vs.length:=Paired.length r
end
theorem BP{P:Program}{w:World}{k:Key}{u:Value}(r:RelV (kV k) u):(dE P w).is k u=true:=by
 cases k with
 |inl i=>obtain⟨t,e⟩:=(show ∃t,u=Value.int i t from r);subst e;exact FZ P w i t
 |inr x=>obtain⟨t,e⟩:=(show ∃t,u=Value.str x t from r);subst e;exact FY P w x t
theorem Dt{P:Program}{w:World}:∀{ks:List Key}{us:List Value},Vals (ks.map kV) us→ItemsAre (dE P w) ks us
 |[],_,r=>by rw[List.map_nil]at r;cases r;exact .nil
 |k::ks,_,r=>by
  rw[List.map_cons]at r
  cases r with
  |cons h t=>exact .cons (BP h) (Dt t)
abbrev KT(H:Hp):List (List Key×V)→List (List Key×Addr×Value)→Prop:=Paired fun p q=>p.1=q.1∧H q.2.1=some (.tup (p.1.map kV))∧RelV p.2 q.2.2
theorem KT.val{H:Hp}{kvs:List (List Key×V)}{xs:List (List Key×Addr×Value)}(r:KT H kvs xs)(k:List Key):m9 (dj kvs k) ((atKey xs k).map (·.2)):=by
 induction r with
 |nil=>exact True.intro
 | @cons p q ps qs h t ih=>
  obtain⟨h1,_,h2⟩:=h
  by_cases e:p.1=k
  ·have e':q.1=k:=h1.symm.trans e
   have b:atKey (q::qs) k=some q.2:=by simp[atKey,List.find?_cons,e']
   rw[g0 e,b];exact h2
  ·have e':¬q.1=k:=fun z=>e (h1.trans z)
   have b:atKey (q::qs) k=atKey qs k:=by simp[atKey,List.find?_cons,e']
   rw[g8 e,b];exact ih
theorem KT.repl{H:Hp}{kvs:List (List Key×V)}{xs:List (List Key×Addr×Value)}(r:KT H kvs xs)(k:List Key){y:V}{u:Value}(ry:RelV y u):
  KT H (kvs.map fun kv=>if kv.1=k then(kv.1,y)else kv) (xs.map (putAt k u)):=by
 induction r with
 |nil=>exact .nil
 | @cons p q ps qs h t ih=>
  rw[List.map_cons,List.map_cons]
  refine .cons ?_ ih
  obtain⟨h1,h2,h3⟩:=h
  unfold putAt
  by_cases e:p.1=k
  ·rw[if_pos e,if_pos (h1.symm.trans e)];exact⟨h1,h2,ry⟩
  ·rw[if_neg e,if_neg (fun z=>e (h1.trans z))];exact⟨h1,h2,h3⟩
theorem KT.put{H:Hp}{kvs:List (List Key×V)}{xs:List (List Key×Addr×Value)}(r:KT H kvs xs)(k:List Key){b:Addr}{y:V}{u:Value}(hb:H b=some (.tup (k.map kV)))(ry:RelV y u):
  KT H (putK kvs k y) (storedH xs k b u):=by
 have e:(kvs.any fun kv=>decide (kv.1=k))=(atKey xs k).isSome:=by
  rw[t9,(r.val k).rV,Option.isSome_map]
 unfold putK storedH
 rw[e]
 by_cases q:(atKey xs k).isSome=true
 ·rw[if_pos q,if_pos q];exact r.repl k ry
 ·rw[if_neg q,if_neg q];exact Paired.snoc r ⟨rfl,hb,ry⟩
theorem KT.keeps{H H':Hp}{kvs:List (List Key×V)}{xs:List (List Key×Addr×Value)}(r:KT H kvs xs)(ht:∀b ys,H b=some (.tup ys)→H' b=some (.tup ys)):KT H' kvs xs:=
 Paired.Qt r fun _ _ z=>⟨z.1,ht _ _ z.2.1,z.2.2⟩
section
variable{P:Program}{w:World}{H:Hp}{h:Heap}{a:Addr}
theorem PB{u:HO}(ok:tL P w H h)(e:Rd H a u):cM P w H h a u:=e.ok ok
theorem B4{kvs:List (Key×V)}(ok:tL P w H h)(e:Rd H a (.dK kvs)):kvs.length≤sizeLine∧(a==sysModules)=false∧∃vs,KV kvs vs∧h.DictOf (dE P w) a vs:=
 show cM P w H h a (.dK kvs)from PB ok e
theorem Nf{kvs:List (Key×V)}(ok:tL P w H h)(e:H a=some (.dK kvs)):kvs.length≤sizeLine∧(a==sysModules)=false∧∃vs,KV kvs vs∧h.DictOf (dE P w) a vs:=B4 ok (.inl e)
theorem zy{ks:List Key}(ok:tL P w H h)(e:H a=some (.tup (ks.map kV))):(tupleKind (dE P w)).is h ks a:=by
 obtain⟨_,its,r,o,h1,h2,n,h3⟩:=(show cM P w H h a (.tup (ks.map kV))from ok a _ e)
 exact⟨o,its.toArray,n,h1,h2,h3,by simpa using Dt r⟩
theorem B3{kvs:List (List Key×V)}(ok:tL P w H h)(e:Rd H a (.dT kvs)):kvs.length≤sizeLine∧(a==sysModules)=false∧
  ∃xs,KT H kvs xs∧h.DictOfH (tupleKind (dE P w)) a xs:=by
 obtain⟨z,y,xs,r,o,es,ep,h1,h2,h3,h4,h5⟩:=(show cM P w H h a (.dT kvs)from PB ok e)
 refine⟨z,y,xs,r,o,es,ep,h1,h2,h3,h4,fun x hx=> ?_,h5⟩
 have all:∀{l:List (List Key×V)}{m:List (List Key×Addr×Value)},KT H l m→∀x∈m,(tupleKind (dE P w)).is h x.1 x.2.1:=by
  intro l m q
  induction q with
  |nil=>intro x hx;exact nomatch hx
  | @cons p q ps qs hq t ih=>
   intro x hx
   rcases List.mem_cons.mp hx with e |hx
   ·subst e
    exact zy ok (by rw[←hq.1];exact hq.2.1)
   ·exact ih x hx
 exact all r x hx
theorem RH{kvs:List (List Key×V)}(ok:tL P w H h)(e:H a=some (.dT kvs)):kvs.length≤sizeLine∧(a==sysModules)=false∧
  ∃xs,KT H kvs xs∧h.DictOfH (tupleKind (dE P w)) a xs:=B3 ok (.inl e)
end
def kW(H:Hp)(a:Addr)(y:V)(r:Option V):Prop:=
 (∃kvs k,Rd H a (.dK kvs)∧y=kV k∧r=dj kvs k)∨∃kvs k b,Rd H a (.dT kvs)∧y= .ref b∧H b=some (.tup (k.map kV))∧r=dj kvs k
def CL(H:Hp)(a:Addr)(y v:V)(H':Hp):Prop:=
 (∃kvs k,H a=some (.dK kvs)∧y=kV k∧kvs.length<sizeLine∧H'=upd H a (.dK (putK kvs k v)))∨
 ∃kvs k b,H a=some (.dT kvs)∧y= .ref b∧H b=some (.tup (k.map kV))∧kvs.length<sizeLine∧H'=upd H a (.dT (putK kvs k v))
theorem kW.k{H:Hp}{a:Addr}{kvs:List (Key×V)}{k:Key}(e:H a=some (.dK kvs)):kW H a (kV k) (dj kvs k):=.inl ⟨kvs,k,.inl e,rfl,rfl⟩
theorem kW.t{H:Hp}{a b:Addr}{kvs:List (List Key×V)}{k:List Key}(e:H a=some (.dT kvs))(eb:H b=some (.tup (k.map kV))):kW H a (.ref b) (dj kvs k):=.inr ⟨kvs,k,b,.inl e,rfl,eb,rfl⟩
theorem CL.k{H:Hp}{a:Addr}{kvs:List (Key×V)}{k:Key}{v:V}(e:H a=some (.dK kvs))(hl:kvs.length<sizeLine):CL H a (kV k) v (upd H a (.dK (putK kvs k v))):=.inl ⟨kvs,k,e,rfl,hl,rfl⟩
theorem CL.t{H:Hp}{a b:Addr}{kvs:List (List Key×V)}{k:List Key}{v:V}(e:H a=some (.dT kvs))(eb:H b=some (.tup (k.map kV)))(hl:kvs.length<sizeLine):
  CL H a (.ref b) v (upd H a (.dT (putK kvs k v))):=.inr ⟨kvs,k,b,e,rfl,eb,hl,rfl⟩
section
variable{X:Cx}{pins:List (Addr×Obj)}{σ:St}{H:Hp}{s:Shared}{a:Addr}{y v:V}{u r:Value}{o:Option V}{A:Around}{E:Value→Shared→Prop}
theorem Inv.big(I:Inv X pins σ H s):sysModules<s.heap.objs.size:=by
 have h:mainGlobals<s.heap.objs.size:=(I.mod.glob.keeps I.bk).lt
 exact Nat.lt_trans (by decide) h
theorem Kz{Q:Value→Shared→Prop}(hu:A.units+1<cLine)(I:Inv X pins σ H s)(g:kW H a y (some v))(ry:RelV y u)(h:∀w' s',Inv X pins σ H s'→RelV v w'→Q w' s'):
  wpAny (model X.prog X.w) A (getItem (.ref a) u) Q E s:=by
 rcases g with⟨kvs,k,e,ey,l⟩|⟨kvs,k,b,e,ey,eb,l⟩
 ·subst ey
  obtain⟨z,hd,vs,rel,dd⟩:=B4 I.hok e
  obtain⟨w',hw,rw'⟩:=m9.some_of (v:=v) (o:=valueAt vs k) (by rw[l];exact rel.val k)
  exact wpAny_getItem_of (BP ry) dd.mapOf hw (h w' _ (I.tok _) rw')
 ·subst ey
  cases (show u=Value.ref b from ry)
  obtain⟨z,hd,xs,rel,dd⟩:=B3 I.hok e
  obtain⟨w',hw,rw'⟩:=m9.some_of (v:=v) (o:=(atKey xs k).map (·.2)) (by rw[l];exact rel.val k)
  obtain⟨p,hp,hp2⟩:=Option.map_eq_some_iff.mp hw
  refine wpAny_getItem_heap (tupleKind_room_in1 hu) (zy I.hok eb) dd hp ?_
  rw[hp2]
  exact h w' _ (I.tok _) rw'
theorem Sw{Q:Value→Shared→Prop}(hu:A.units+1<cLine)(I:Inv X pins σ H s)(g:kW H a y o)(ry:RelV y u)(h:∀s',Inv X pins σ H s'→Q (.bool o.isSome) s'):
  wpAny (model X.prog X.w) A (compareOp .In u (.ref a)) Q E s:=by
 rcases g with⟨kvs,k,e,ey,l⟩|⟨kvs,k,b,e,ey,eb,l⟩
 ·subst ey
  obtain⟨z,hd,vs,rel,dd⟩:=B4 I.hok e
  refine wpAny_in_of (BP ry) hd dd.mapOf ?_
  rw[←(rel.val k).rV,←l]
  exact h _ (I.tok _)
 ·subst ey
  cases (show u=Value.ref b from ry)
  obtain⟨z,hd,xs,rel,dd⟩:=B3 I.hok e
  refine wpAny_in_heap (tupleKind_room_in1 hu) (zy I.hok eb) hd dd ?_
  have q:=(rel.val k).rV
  rw[Option.isSome_map]at q
  rw[←q,←l]
  exact h _ (I.tok _)
theorem OJ{Q:Value→Shared→Prop}(hu:A.units+1<cLine)(I:Inv X pins σ H s)(g:kW H a y o)(ry:RelV y u)(h:∀s',Inv X pins σ H s'→Q (.bool (!o.isSome)) s'):
  wpAny (model X.prog X.w) A (compareOp .NotIn u (.ref a)) Q E s:=by
 rcases g with⟨kvs,k,e,ey,l⟩|⟨kvs,k,b,e,ey,eb,l⟩
 ·subst ey
  obtain⟨z,hd,vs,rel,dd⟩:=B4 I.hok e
  refine wpAny_notIn_of (BP ry) hd dd.mapOf ?_
  rw[←(rel.val k).rV,←l]
  exact h _ (I.tok _)
 ·subst ey
  cases (show u=Value.ref b from ry)
  obtain⟨z,hd,xs,rel,dd⟩:=B3 I.hok e
  refine wpAny_notIn_heap (tupleKind_room_in1 hu) (zy I.hok eb) hd dd ?_
  have q:=(rel.val k).rV
  rw[Option.isSome_map]at q
  rw[←q,←l]
  exact h _ (I.tok _)
theorem EG{h':Heap}{t':Nat}{ob:HO}(I:Inv X pins σ H s)(mu:RQ (H a))(hs:Heap.SameBut a s.heap h')(he:∃q,h'.get? a=some q)(new:cM X.prog X.w (upd H a ob) h' a ob):
  Inv X pins σ (upd H a ob) { s with heap:=h',toks:=t' }:=
 I.write (x:=a) (e:=a) mu (.inl rfl) (fun b q hb z=>(hs.2 b hb).trans z) he new
theorem Ng{P:Program}{w:World}{H':Hp}{h':Heap}{kvs:List (Key×V)}{vs:List (Key×Value)}(z:kvs.length≤sizeLine)(hd:(a==sysModules)=false)(rel:KV kvs vs)(dd:h'.DictOf (dE P w) a vs):
  cM P w H' h' a (.dK kvs):=⟨z,hd,vs,rel,dd⟩
theorem Ky{H':Hp}{Q:Unit→Shared→Prop}(hu:A.units+1<cLine)(I:Inv X pins σ H s)(g:CL H a y v H')(ry:RelV y u)(rv:RelV v r)(h:∀s',Inv X pins σ H' s'→Q () s'):
  wpAny (model X.prog X.w) A (setItem (.ref a) u r) Q E s:=by
 rcases g with⟨kvs,k,e,ey,l,eH⟩|⟨kvs,k,b,e,ey,eb,l,eH⟩
 ·subst ey eH
  obtain⟨z,hd,vs,rel,dd⟩:=Nf I.hok e
  have hz:vs.length≤sizeLine:=by rw[←rel.length];exact z
  have hl:(putK kvs k v).length≤sizeLine:=by have:=iz kvs k v;omega
  refine wpAny_setItem_pairs (hsz:=hz) (BP ry) dd fun h' dd' hs=>h _ ?_
  have he:∃q,h'.get? a=some q:=let ⟨q,_,_,hq,_⟩:=dd';⟨q,hq⟩
  exact EG I (by rw[e];exact True.intro) hs he (Ng hl hd (rel.put k rv) dd')
 ·subst ey eH
  cases (show u=Value.ref b from ry)
  obtain⟨z,hd,xs,rel,dd⟩:=RH I.hok e
  have hz:xs.length≤sizeLine:=by rw[←Paired.length rel];exact z
  have hl:(putK kvs k v).length≤sizeLine:=by have:=iz kvs k v;omega
  refine wpAny_setItem_heap (hsz:=hz) (tupleKind_room_in1 hu) (zy I.hok eb) dd fun h' dd' hs=>h _ ?_
  obtain⟨q,es,ep,hq,h2,h3,h4,_,h5⟩:=dd'
  refine EG I (by rw[e];exact True.intro) hs ⟨q,hq⟩ ⟨hl,hd,_,(rel.put k eb rv).keeps fun c ys ec=> ?_,q,es,ep,hq,h2,h3,h4,h5⟩
  rw[aq (cO ec e (fun z=>nomatch z))]
  exact ec
end
def RP(i:Expr):Prop:=∀ov iv,subscripted i false ov iv=operate [ov,iv] (getItem ov iv)
theorem NX{prog:Program}{w:World}{A:Around}{E:Value→Shared→Prop}{s:Shared}{env:Env}{value slice:Expr}{pos:Pos}{T id:String}{Q:Value→Shared→Prop}
  (hl:typeLookup (.type T) "__getitem__"=pure (some (.builtin id))) (hs:RP slice)
  (h:wpAny (model prog w) A (eval value env) (fun o s₁=>wpAny (model prog w) A (eval slice env) (fun i s₂=>s₂.TypeIs o T∧wpAny (model prog w) A (getItem o i) Q E s₂) E s₁) E s):
  wpAny (model prog w) A (eval (.Subscript value slice pos) env) Q E s:=by
 refine Subscript_ (wpAny_mono h (fun o s₁ h₁=>wpAny_mono h₁ (fun i s₂ h₂=> ?_) fun _ _ x=>x) fun _ _ x=>x)
 obtain⟨hT,h₂⟩:=h₂
 unfold subscriptTail
 refine wpAny_bind ?_
 rw[getitemInPython_of_ne hT.not_modules]
 refine wpAny_bind (wpAny_specialOf hT hl ?_)
 have fin:wpAny (model prog w) A (subscripted slice false o i) (fun r s₃=>wpAny (model prog w) A (letTemporaryGo value o r>>= fun _=>pure r) Q E s₃) E s₂:=by
  rw[hs o i]
  exact wpAny_operating (wpAny_mono h₂ (fun r s₃ h₃=>wpAny_bind (wpAny_letTemporaryGo (wpAny_pure h₃))) fun _ _ x=>x)
 first
  |exact wpAny_pure (wpAny_bind fin)
  |exact wpAny_bind (wpAny_pure (wpAny_bind fin))
  |exact wpAny_bind fin
theorem Gb{X:Cx}{pins:List (Addr×Obj)}{σ:St}{H:Hp}{s:Shared}{a:Addr}{y:V}{o:Option V}(I:Inv X pins σ H s)(g:kW H a y o):s.TypeIs (.ref a) "dict":=by
 rcases g with⟨kvs,k,e,_,_⟩|⟨kvs,k,b,e,_,_,_⟩
 ·obtain⟨_,_,vs,_,dd⟩:=B4 I.hok e
  exact dd.typeIs
 ·obtain⟨_,_,xs,_,dd⟩:=B3 I.hok e
  exact dd.typeIs
def Pr(td ty:TE):TE:=fun σ H Q=>td σ H fun x H1=>ty σ H1 fun y H2=>∃a v,x= .ref a∧kW H2 a y (some v)∧Q v H2
def Q8(ty td:TE):TE:=fun σ H Q=>ty σ H fun y H1=>td σ H1 fun x H2=>∃a o,x= .ref a∧kW H2 a y o∧Q (.bl o.isSome) H2
def Ie(ty td:TE):TE:=fun σ H Q=>ty σ H fun y H1=>td σ H1 fun x H2=>∃a o,x= .ref a∧kW H2 a y o∧Q (.bl (!o.isSome)) H2
def Pz(td ty tv:TE):TS:=fun D σ H=>tv σ H fun v H1=>td σ H1 fun x H2=>ty σ H2 fun y H3=>∃a H4,x= .ref a∧CL H3 a y v H4∧D.nx σ H4
section
variable{X:Cx}{o i e value:Expr}{pos pos' tpos:Pos}{td ty tv:TE}
theorem IJ(hu:X.A.units+1<cLine)(ho:PE X o td)(hi:PE X i ty)(hs:RP i):PE X (.Subscript o i pos) (Pr td ty):=by
 intro pins s σ H Q I h
 refine NX PySem.F.slot_dict_getitem.lookup hs (cC (ho pins s σ H _ I h) fun u s1 ⟨x,H1,I1,rx,q1⟩=>cC (hi pins s1 σ H1 _ I1 q1) fun iv s2 zz=> ?_)
 obtain⟨y,H2,I2,ry,a,v,ex,g,q2⟩:=zz
 subst ex
 obtain rfl:u=Value.ref a:=rx
 exact⟨Gb I2 g,Kz hu I2 g ry fun w' s3 I3 rw'=>⟨v,H2,I3,rw',q2⟩⟩
theorem Qq(hu:X.A.units+1<cLine)(hi:PE X i ty)(ho:PE X o td):PC X .In i o (Q8 ty td):=by
 intro pins s σ H Q I h
 refine cC (hi pins s σ H _ I h) fun iv s1 ⟨y,H1,I1,ry,q1⟩=>cC (ho pins s1 σ H1 _ I1 q1) fun u s2 zz=> ?_
 obtain⟨x,H2,I2,rx,a,ov,ex,g,q2⟩:=zz
 subst ex
 obtain rfl:u=Value.ref a:=rx
 exact Sw hu I2 g ry fun s3 I3=>⟨.bl ov.isSome,H2,I3,rfl,q2⟩
theorem De(hu:X.A.units+1<cLine)(hi:PE X i ty)(ho:PE X o td):PC X .NotIn i o (Ie ty td):=by
 intro pins s σ H Q I h
 refine cC (hi pins s σ H _ I h) fun iv s1 ⟨y,H1,I1,ry,q1⟩=>cC (ho pins s1 σ H1 _ I1 q1) fun u s2 zz=> ?_
 obtain⟨x,H2,I2,rx,a,ov,ex,g,q2⟩:=zz
 subst ex
 obtain rfl:u=Value.ref a:=rx
 exact OJ hu I2 g ry fun s3 I3=>⟨.bl (!ov.isSome),H2,I3,rfl,q2⟩
theorem Ee(hu:X.A.units+1<cLine)(ho:PE X o td)(hi:PE X i ty)(hv:PE X value tv)(hs:swapsWith value (some (.Subscript o i pos')) pos.line X.env=pure false):
  PS X (.Assign [.Subscript o i pos'] value pos) (Pz td ty tv):=by
 intro pins s σ H D I h
 refine wpAny_Assign_Subscript (cC (hv pins s σ H _ I h) fun r s1 ⟨v,H1,I1,rv,q1⟩=>cC (ho pins s1 σ H1 _ I1 q1) fun u s2 ⟨x,H2,I2,rx,q2⟩=>cC (hi pins s2 σ H2 _ I2 q2) fun iv s3 zz=> ?_) hs
 obtain⟨y,H3,I3,ry,a,H4,ex,g,q3⟩:=zz
 subst ex
 obtain rfl:u=Value.ref a:=rx
 exact Ky hu I3 g ry rv fun s4 I4=>⟨σ,H4,I4,q3⟩
end
theorem Nh{P:Program}{w:World}{H:Hp}(h:Heap)(hb:sysModules<h.objs.size):cM P w H (h.push { cls:=.type "dict",data:=.dict #[] }) h.objs.size (.dK []):=
 ⟨Nat.zero_le _,beq_eq_false_iff_ne.mpr (Ne.symm (Nat.ne_of_lt hb)),[],.nil,Heap.DictOf.new h⟩
theorem Nb{P:Program}{w:World}{H:Hp}(h:Heap)(hb:sysModules<h.objs.size):cM P w H (h.push { cls:=.type "dict",data:=.dict #[] }) h.objs.size (.dT []):=
 ⟨Nat.zero_le _,beq_eq_false_iff_ne.mpr (Ne.symm (Nat.ne_of_lt hb)),[],.nil,_,#[],0,Heap.get?_push_size _ rfl,⟨rfl,rfl,rfl⟩,rfl,rfl,List.nodup_nil⟩
def LI:TE:=fun _ H Q=>∀p,H p=none→Q (.ref p) (upd H p (.dK []))
def GL:TE:=fun _ H Q=>∀p,H p=none→Q (.ref p) (upd H p (.dT []))
section
variable{X:Cx}{pos:Pos}
theorem FO:PE X (.Dict [] [] pos) LI:=fun pins s σ H Q I h=>
 wpAny_Dict_empty ⟨.ref s.heap.objs.size,_,I.laid (a:=s.heap.objs.size) (o:=.dK []) (t':=s.toks) (fun _ _ q=>Heap.get?_push_of_some _ q) (Nat.le_refl _) (Nh s.heap I.big),rfl,h _ (I.hok.fresh (Nat.le_refl _))⟩
theorem FN:PE X (.Dict [] [] pos) GL:=fun pins s σ H Q I h=>
 wpAny_Dict_empty ⟨.ref s.heap.objs.size,_,I.laid (a:=s.heap.objs.size) (o:=.dT []) (t':=s.toks) (fun _ _ q=>Heap.get?_push_of_some _ q) (Nat.le_refl _) (Nb s.heap I.big),rfl,h _ (I.hok.fresh (Nat.le_refl _))⟩
end
structure M2(X:Cx)(o:Expr)(m:Str)(apos:Pos)(e f:Expr)(cpos:Pos):Prop where
 base:attributeBase o m X.env (eval o X.env)=eval o X.env
 few:((backTo cpos (starEach [e,f] X.env)).all (fun x=> !x.1)&&(backToKw cpos (keywordEach [] X.env)).all (fun x=>x.1.isSome)
  &&decide (([e,f]:List Expr).length+([]:List Keyword).length+(if([]:List Keyword).isEmpty then 0 else 1)<30))=true
 line:(apos.endLine==cpos.line)=true
 trees:backTo cpos (starEach [e,f] X.env)=[(false,eval e X.env),(false,eval f X.env)]
def QP(H:Hp)(a:Addr):Prop:=(∃kvs,Rd H a (.dK kvs))∨∃kvs,Rd H a (.dT kvs)
theorem MU{X:Cx}{pins:List (Addr×Obj)}{σ:St}{H:Hp}{s:Shared}{a:Addr}(I:Inv X pins σ H s)(d:QP H a):
  s.TypeIs (.ref a) "dict"∧(∀b,Value.ref a= .ref b→∃ob,s.heap.get? b=some ob∧ob.dict=none)∧(a==sysModules)=false:=by
 rcases d with⟨kvs,e⟩|⟨kvs,e⟩
 ·obtain⟨_,hd,vs,_,dd⟩:=B4 I.hok e
  refine⟨dd.typeIs,fun b q=> ?_,hd⟩
  cases q
  obtain⟨ob,_,_,h1,h2,_⟩:=dd
  exact⟨ob,h1,h2.2.1⟩
 ·obtain⟨_,hd,xs,_,dd⟩:=B3 I.hok e
  refine⟨dd.typeIs,fun b q=> ?_,hd⟩
  cases q
  obtain⟨ob,_,_,h1,h2,_⟩:=dd
  exact⟨ob,h1,h2.2.1⟩
section
variable{X:Cx}{pins:List (Addr×Obj)}{σ:St}{H:Hp}{s:Shared}{a:Addr}{y d:V}{u r:Value}{o:Option V}{A:Around}{E:Value→Shared→Prop}
theorem QK{Q:Value→Shared→Prop}(hu:A.units+1<cLine)(I:Inv X pins σ H s)(g:kW H a y o)(ry:RelV y u)(rd:RelV d r)(h:∀w' s',Inv X pins σ H s'→RelV (o.getD d) w'→Q w' s'):
  wpAny (model X.prog X.w) A (call (.builtin "dict.get") [.ref a,u,r]) Q E s:=by
 rcases g with⟨kvs,k,e,ey,l⟩|⟨kvs,k,b,e,ey,eb,l⟩
 ·subst ey
  obtain⟨z,hd,vs,rel,dd⟩:=B4 I.hok e
  refine call_meetsIn PySem.F.slot_dict_get dd.typeIs PySem.F.entry_dict_get (PySem.F.args_dict_get_3 _ _ _) (meets_dict_get_default (dE X.prog X.w) a (BP ry) hd r) ⟨_,dd.mapOf,h _ _ (I.tok _) ?_⟩
  rw[l]
  exact(rel.val k).getD rd
 ·subst ey
  cases (show u=Value.ref b from ry)
  obtain⟨z,hd,xs,rel,dd⟩:=B3 I.hok e
  refine call_meetsIn PySem.F.slot_dict_get dd.typeIs PySem.F.entry_dict_get (PySem.F.args_dict_get_3 _ _ _) (meetsH_dict_get_default (tupleKind (dE X.prog X.w)) a b hd r) ⟨tupleKind_room_in1 hu,k,xs,zy I.hok eb,dd,h _ _ (I.tok _) ?_⟩
  rw[l]
  exact(rel.val k).getD rd
end
def Qe(td ty:TE):TE:=fun σ H Q=>td σ H fun x H1=>∃a,x= .ref a∧QP H1 a∧ty σ H1 fun y H2=>∃o,kW H2 a y o∧Q (o.getD .non) H2
def LK(td ty tx:TE):TE:=fun σ H Q=>td σ H fun x H1=>∃a,x= .ref a∧QP H1 a∧ty σ H1 fun y H2=>tx σ H2 fun z H3=>∃o,kW H3 a y o∧Q (o.getD z) H3
section
variable{X:Cx}{o e f:Expr}{apos cpos:Pos}{td ty tx:TE}
theorem Mx(hu:X.A.units+1<cLine)(ho:PE X o td)(he:PE X e ty)(hf:PE X f tx)(m:M2 X o "get" apos e f cpos):PE X (.Call (.Attribute o "get" apos) [e,f] [] cpos) (LK td ty tx):=by
 intro pins s σ H Q I h
 refine wpAny_Call_method m.base m.few m.line PySem.F.plainAttrs_dict PySem.F.slot_dict_get PySem.F.type_dict_get (cC (ho pins s σ H _ I h) fun u s1 zz=> ?_)
 obtain⟨x,H1,I1,rx,a,ex,d,q1⟩:=zz
 subst ex
 obtain rfl:u=Value.ref a:=rx
 obtain⟨t1,t2,_⟩:=MU I1 d
 refine⟨t1,t2,?_⟩
 rw[m.trees]
 refine Calls.callWith_builtin rfl (Calls.evalArgs_plain (Calls.spliced_cons (cC (he pins s1 σ H1 _ I1 q1) fun iv s2 ⟨y,H2,I2,ry,q2⟩=>
  Calls.spliced_cons (cC (hf pins s2 σ H2 _ I2 q2) fun fv s3 ⟨z,H3,I3,rz,ov,g,q3⟩=>Calls.spliced_nil ?_))))
 exact QK hu I3 g ry rz fun w' s4 I4 rw'=>⟨_,H3,I4,rw',q3⟩
end
end L2
namespace L2
open PySem PySem.Spec PyProof.Rows
section
variable{X:Cx}{pins:List (Addr×Obj)}{σ:St}{H:Hp}{s:Shared}{h':Heap}
theorem Inv.JF{t':Nat}{ch:List Addr}{T:Addr}{ob:HO}(I:Inv X pins σ H s)(k:∀b o,b∉ch→s.heap.get? b=some o→h'.get? b=some o)(hf:∀b∈ch,Cj X pins H b)(hT:s.heap.objs.size≤T)
  (new:cM X.prog X.w (upd H T ob) h' T ob):Inv X pins σ (upd H T ob) { s with heap:=h',toks:=t' }:=by
 have hn:H T=none:=I.hok.fresh hT
 have nit:∀b u,H b=some u→b∉ch:=fun b u e z=>by
  have q:=(hf b z).1
  rw[q]at e;cases e
 refine I.step (g':=s.gens) (d':=s.drawn) (ch:=ch) (fun b hb=>⟨(hf b hb).2.2.2.1,(hf b hb).2.1,(hf b hb).2.2.2.2.1,(hf b hb).2.2.2.2.2⟩) (fun b o _ _ hc e _=>k b o hc e) (fun b o _ _ hc e _=>⟨o.slots,k b o hc e⟩)
  (fun b o _ e n=> ?_) (fun b o hc e=>⟨o,k b o hc e⟩) (fun b xs e=> ?_) (fun b o u e=> ?_) (fun b ps e=>⟨#[],?_⟩) (fun m hm=> ?_) (fun b u e=> ?_) I.bare
 ·rw[aq (Nat.ne_of_lt (Nat.lt_of_lt_of_le (Heap.lt_size e) hT))];exact n
 ·rw[aq (aD e hn)];exact e
 ·rw[aq (aD e hn)];exact e
 ·rw[aq (aD e hn),e];simp
 ·obtain⟨o,es,ep,ho,r⟩:=hm
  exact⟨o,es,ep,k _ o (fun z=>(hf _ z).2.1 rfl) ho,r⟩
 ·by_cases hb:b=T
  ·subst hb
   rw[aj]at e
   cases e
   exact new
  ·rw[aq hb]at e
   refine(I.hok b u e).stay (fun c v hc q=>k c v ?_ q) (fun c q=>by rw[aq (aD q hn)];exact q) fun c xs q=>by rw[aq (aD q hn)];exact q
   rcases hc with z |z
   ·rw[z];exact nit b u e
   ·exact nit c _ z
end
theorem Bp{α β:Type}{G:α→β→Prop}{l₁:List α}{l₂:List β}(h:Paired G l₁ l₂):∀{i:Nat}{a:α},l₁[i]? =some a→∃b,l₂[i]? =some b∧G a b:=by
 induction h with
 |nil=>intro i a e;simp at e
 | @cons a b l₁ l₂ r t ih=>
  intro i a' e
  cases i with
  |zero=>
   simp only[List.getElem?_cons_zero,Option.some.injEq]at e
   subst e
   exact⟨b,rfl,r⟩
  |succ j=>
   simp only[List.getElem?_cons_succ]at e ⊢
   exact ih e
def Ite(K:PySem.W.Frag)(a:Addr):It:=
 ⟨fun i H=>∃(xs:List V)(x:V),bW K H a xs∧xs[i]? =some x,fun i H v H'=>∃T x,v= .ref T∧H T=none∧H'=upd H T (.tup [.int (i:Nat),x])∧∀xs,bW K H a xs→xs[i]? =some x,fun i H=>∃xs:List V,bW K H a xs∧xs.length≤i⟩
theorem JH{P:Program}{w:World}{K:PySem.W.Frag}{elts:List Expr}{kk:Nat}{tpos:Pos}(a e it:Addr):
  Turn P w K (.Tuple elts kk tpos) (Ite K a) [e,it] e (fun i h=>(∃old,IsEnum h e it ((i:Nat):Int) old)∧h.IsListIter it a i∧e≠it) where
 mem:=by simp
 obj:=fun i h st b hb=>by
  obtain⟨⟨old,he⟩,⟨o,ho,hc,hd⟩,_⟩:=st
  have e':b=e∨b=it:=by simpa using hb
  rcases e' with z |z
  ·rw[z];exact⟨_,he,fun v q=>nomatch q⟩
  ·rw[z];exact⟨o,ho,fun v q=>by rw[hd]at q;cases q⟩
 keep:=fun i h h' st k=>let ⟨⟨old,he⟩,hi,hne⟩:=st;⟨⟨old,k e (by simp) _ he⟩,hi.at fun o q=>k it (by simp) o q,hne⟩
 item:=by
  intro X hP hw hK hc i pins s σ H E I hf st hg
  subst hP hw hK
  obtain⟨⟨old,he⟩,hit,hne⟩:=st
  obtain⟨xs,x,hq,hx⟩:=hg
  obtain⟨its,rv,p,hz⟩:=I.list hq
  obtain⟨u,hu,ru⟩:=rv.get hx
  have hel:e<s.heap.objs.size:=Heap.lt_size he
  have hil:it<s.heap.objs.size:=by obtain⟨_,q,_⟩:=hit;exact Heap.lt_size q
  refine wpAny_pyNext_enum_item he hit p.isList (x:=u) (by simpa using hu) hne fun h' ho hit' hT hsz hk=> ?_
  refine⟨_,rfl,wpAny_letOwnedTupleGo_enum (s:={ s with heap:=h',toks:=s.toks+1 }) ho fun h'' he' sb=> ?_⟩
  have hT2:h''.get? s.heap.objs.size=some { cls:=.type "tuple",data:=.seq #[.int i s.toks,u] }:=(sb.2 _ (Nat.ne_of_gt hel)).trans hT
  have new:cM X.prog X.w (upd H s.heap.objs.size (.tup [.int (i:Nat),x])) h'' s.heap.objs.size (.tup [.int (i:Nat),x]):=
   ⟨by show 2≤sizeLine;decide,[.int i s.toks,u],.cons ⟨_,rfl⟩ (.cons ru .nil),⟨_,hT2,rfl,_,rfl⟩⟩
  have I1:Inv X pins σ (upd H s.heap.objs.size (.tup [.int (i:Nat),x])) { s with heap:=h'',toks:=s.toks+1 }:=
   I.JF (ch:=[e,it]) (fun b ob hb q=>(sb.2 b (fun z=>hb (by simp[z]))).trans (hk b ob (fun z=>hb (by simp[z])) (fun z=>hb (by simp[z])) q)) hf (Nat.le_refl _) new
  refine⟨.ref s.heap.objs.size,_,I1,rfl,⟨_,x,rfl,I.hok.fresh (Nat.le_refl _),rfl,fun ys hy=>by rw[I.F4 hy hq];exact hx⟩,⟨⟨u,?_⟩,hit'.at fun o q=>(sb.2 it (Ne.symm hne)).trans q,hne⟩,fun b hb=> ?_⟩
  ·have e1:((i+1:Nat):Int)=(i:Int)+1:=by omega
   rw[e1];exact he'
  ·have hb':b<s.heap.objs.size:=by
    have e':b=e∨b=it:=by simpa using hb
    rcases e' with z |z
    ·rw[z];exact hel
    ·rw[z];exact hil
   rw[aq (Nat.ne_of_lt hb')]
   exact(hf b hb).1
 done:=by
  intro X hP hw hK hc i pins s σ H E I hf st hg
  subst hP hw hK
  obtain⟨⟨old,he⟩,hit,hne⟩:=st
  obtain⟨xs,hq,hx⟩:=hg
  obtain⟨its,rv,p,hz⟩:=I.list hq
  obtain⟨f0,f1,f2,f3,f4,f5⟩:=hf it (by simp)
  have hl:=rv.length
  exact wpAny_pyNext_enum_end (I.ok.hd hc) he hit p.isList (by simp;omega) fun h' eb=>⟨rfl,I.turned (t':=s.toks) (fun b o hb q=>eb b o hb q) f0 f1 f3 f4 f5⟩
 self:=fun A i s Q E st h=>let ⟨⟨_,he⟩,_⟩:=st;wpAny_pyIter_enum he h
def P2(K:PySem.W.Frag)(ta:TA):TI:=fun σ H R=>ta σ H fun vs H1=>∃a xs,vs=[.ref a]∧bW K H1 a xs∧R (Ite K a) H1
theorem Od{X:Cx}{e:Expr}{ta:TA}{p pos tpos:Pos}{elts:List Expr}{kk:Nat}(hg:Gl X "enumerate")(hm:X.mg "enumerate"=none)(ha:PA X [e] ta)(hs:starEach [e] X.env=[(false,eval e X.env)]:=by rfl):
  PI X (.Tuple elts kk tpos) (.Call (.Name "enumerate" p) [e] [] pos) (P2 X.K ta):=by
 intro pins s σ H R I h
 refine Call_ (Ey I hg hm boot_enumerate (PyProof.Rows.callWith_type1 (cC (ha pos pins s σ H _ I h) fun us s1 ⟨vs,H1,I1,r1,q1⟩=> ?_) hs rfl))
 obtain⟨a,xs,ex,hq,q⟩:=q1
 subst ex
 cases r1 with
 |cons r rr=>
  cases rr
  cases r
  obtain⟨its,rv,p',hz⟩:=I1.list hq
  refine call_enumerate_list p'.isList fun h' he hit hsz hk=>wpAny_pyIter_enum he ?_
  have I2:Inv X pins σ H1 { s1 with heap:=h' }:=I1.kept (t':=s1.toks) hk
  refine⟨s1.heap.objs.size+1,[s1.heap.objs.size+1,s1.heap.objs.size],_,_,H1,rfl,I2,JH a (s1.heap.objs.size+1) s1.heap.objs.size,⟨⟨.none,he⟩,hit,Nat.succ_ne_self _⟩,fun b hb=> ?_,q⟩
  have e':b=s1.heap.objs.size+1∨b=s1.heap.objs.size:=by simpa using hb
  have hle:s1.heap.objs.size≤b:=by
   rcases e' with z |z
   ·rw[z];exact Nat.le_add_right _ _
   ·rw[z];exact Nat.le_refl _
  exact I1.OD hle (I1.hok.fresh hle)
end L2
section
namespace TL
open PySem PySem.Builtin PySem.Builtin.Str PySem.StrLaws
abbrev tl(x:Str):List Nat:=x.cps.toList
theorem MP(x:Str):x.length=(tl x).length:=by simp[tl,Str.length]
theorem Hs{x y:Str}(h:tl x=tl y):x=y:=Str.ext' (Array.toList_inj.mp h)
theorem yO(x y:Str):tl (x++y)=tl x++tl y:=by
 show(x++y).cps.toList=_
 rw[Str.cps_append,Array.toList_append]
theorem zJ(s:String):tl (Str.ofString s)=s.toList.map Char.toNat:=PyProof.Rows.signs_ofString s
def F6(S:List Nat):List (List Nat)→List Nat
 |[]=>[]
 |[p]=>p
 |p::q::r=>p++(S++F6 S (q::r))
theorem HP(y:Str):∀parts:List Str,tl (Str.join y parts)=F6 (tl y) (parts.map tl)
 |[]=>rfl
 |[_]=>rfl
 |x::z::r=>by
  show tl (x++y++Str.join y (z::r))=tl x++(tl y++F6 (tl y) ((z::r).map tl))
  rw[yO,yO,HP y (z::r),List.append_assoc]
theorem join_eq(y:Str)(parts:List Str):Txt.join y parts=Str.join y parts:=glued_eq_join y parts
def xY(n:Nat):List Nat:=(Nat.toDigits 10 n).map Char.toNat
theorem yN(n:Nat):tl (Str.ofString (toString ((n:Nat):Int)))=xY n:=PySem.W.KIN.signs_num n
theorem wk:∀d:Nat,d<10→(Nat.digitChar d).toNat=48+d:=by decide
theorem IM{n:Nat}(h:n<10):xY n=[48+n]:=by
 unfold xY
 rw[Nat.toDigits_of_lt_base h]
 show[(Nat.digitChar n).toNat]=_
 rw[wk n h]
theorem Df{n:Nat}(h:10≤n):xY n=xY (n / 10)++[48+n % 10]:=by
 have hm:n % 10<10:=Nat.mod_lt n (by decide)
 have t:Nat.toDigits 10 (n / 10)++Nat.toDigits 10 (n % 10)=Nat.toDigits 10 (10*(n / 10)+n % 10):=Nat.toDigits_append_toDigits (by decide) (by omega) hm
 rw[Nat.div_add_mod]at t
 show(Nat.toDigits 10 n).map Char.toNat=_
 rw[←t,List.map_append,Nat.toDigits_of_lt_base hm]
 show(Nat.toDigits 10 (n / 10)).map Char.toNat++[(Nat.digitChar (n % 10)).toNat]=_
 rw[wk _ hm]<;>rfl
theorem FT(n:Nat):NumText.AllDigits (xY n):=by
 induction n using Nat.strongRecOn with
 |_ n ih=>
  by_cases h:n<10
  ·rw[IM h]
   intro c hc
   rw[List.mem_singleton.mp hc]
   omega
  ·rw[Df (by omega)]
   intro c hc
   rcases List.mem_append.mp hc with hc |hc
   ·exact ih (n / 10) (by omega) c hc
   ·have hm:n % 10<10:=Nat.mod_lt n (by decide)
    rw[List.mem_singleton.mp hc]
    omega
theorem Oo(n:Nat):xY n≠[]:=by
 by_cases h:n<10
 ·rw[IM h]
  simp
 ·rw[Df (by omega)]
  simp
theorem MC(n:Nat):NumText.digitsVal (xY n)=n:=PySem.W.KIN.val_back n
theorem Oz{n:Nat}(h:(xY n).length≤4300):intText? (Str.ofString (toString ((n:Nat):Int)))=some (n:Int):=by
 have e:=intText_digits (x:=Str.ofString (toString ((n:Nat):Int))) (by rw[show(Str.ofString (toString ((n:Nat):Int))).cps.toList=xY n from yN n];exact FT n)
  (by rw[show(Str.ofString (toString ((n:Nat):Int))).cps.toList=xY n from yN n];exact Oo n) (by rw[MP,yN];exact h)
 rw[show(Str.ofString (toString ((n:Nat):Int))).cps.toList=xY n from yN n,MC]at e
 exact e
end TL
end
namespace L2
open PySem PySem.Spec PyProof.Rows
theorem sI:∀{ys:List Str}{us:List Value},Vals (ys.map V.str) us→StrsAre us ys
 |[],_,.nil=>.nil
 |y::ys,_,.cons r t=>by
  obtain⟨k,rfl⟩:=r
  exact .cons y k (sI t)
section
variable{X:Cx}
theorem Oq:OX X "str.join" (fun x xs H Q=>∃a p,∃ys:List Str,x= .str a∧xs=[.ref p]∧(bW X.K H p (ys.map V.str)∨sE X.K H p (ys.map V.str))∧
  (ys.map (·.length)).sum+ys.length*a.length≤16777216∧Q (.str (Txt.join a ys)) H):=by
 intro pins s σ H x xs v us Q I rx rs h
 obtain⟨a,p,ys,rfl,rfl,hp,hz,h⟩:=h
 obtain⟨t,rfl⟩:=rx
 cases rs with
 |cons r1 rs=>
  cases rs
  cases r1
  rcases hp with hp |hp
  ·obtain⟨its,r,⟨o,n,ho,hc,_,hd⟩,_⟩:=I.list hp
   exact PyProof.Rows.join_list (items:=its.toArray) ⟨o,ho,hc,n,hd⟩ (by rw[List.toList_toArray];exact sI r) hz fun t' k=>⟨.str _,H,I.tok k,⟨t',rfl⟩,h⟩
  ·obtain⟨its,r,ht,_⟩:=I.tuple hp
   exact PyProof.Rows.join_tuple (items:=its.toArray) ht (by rw[List.toList_toArray];exact sI r) hz fun t' k=>⟨.str _,H,I.tok k,⟨t',rfl⟩,h⟩
theorem S7{id:String}{C:Str→Prop}{g:Str→V}(rule:∀(a:Str)(t:Tok)(s:Shared)(Q:Value→Shared→Prop),C a→(∀(u:Value)(k:Nat),RelV (g a) u→Q u { s with toks:=k })→
  wpAny (model X.prog X.w) X.A (call (.builtin id) [.str a t]) Q X.xe s):OX X id (fun x xs H Q=>∃a,x= .str a∧xs=[]∧C a∧Q (g a) H):=by
 intro pins s σ H x xs v us Q I rx rs h
 obtain⟨a,rfl,rfl,hc,h⟩:=h
 obtain⟨t,rfl⟩:=rx
 cases rs
 exact rule a t s _ hc fun u k r=>⟨g a,H,I.tok k,r,h⟩
theorem Hk:OX X "str.isdigit" (fun x xs H Q=>∃a,x= .str a∧xs=[]∧True∧Q (.bl (Txt.isdigit a)) H):=
 S7 (C:=fun _=>True) (g:=fun a=>.bl (Txt.isdigit a)) fun _ _ s _ _ h=>PySem.SC.isdigit (h _ s.toks rfl)
theorem S6{id:String}{g:Str→Str→V}(rule:∀(a b:Str)(t u:Tok)(s:Shared)(Q:Value→Shared→Prop),(∀(v:Value)(k:Nat),RelV (g a b) v→Q v { s with toks:=k })→
  wpAny (model X.prog X.w) X.A (call (.builtin id) [.str a t,.str b u]) Q X.xe s):OX X id (fun x xs H Q=>∃a b,x= .str a∧xs=[.str b]∧Q (g a b) H):=by
 intro pins s σ H x xs v us Q I rx rs h
 obtain⟨a,b,rfl,rfl,h⟩:=h
 obtain⟨t,rfl⟩:=rx
 cases rs with
 |cons r1 rs=>
  cases rs
  obtain⟨u,rfl⟩:=r1
  exact rule a b t u s _ fun v k r=>⟨g a b,H,I.tok k,r,h⟩
theorem CA:OX X "str.startswith" (fun x xs H Q=>∃a b,x= .str a∧xs=[.str b]∧Q (.bl (Txt.startswith a b)) H):=
 S6 (g:=fun a b=>.bl (Txt.startswith a b)) fun _ _ _ _ s _ h=>PySem.SC.startswith (h _ s.toks rfl)
theorem yt:wu X (.type "int") (fun xs H Q=>∃a n,xs=[.str a]∧PySem.intText? a=some n∧a.length≤640∧Q (.int n) H):=by
 intro pins s σ H xs us Q I rs h
 obtain⟨a,n,rfl,hn,hl,h⟩:=h
 cases rs with
 |cons r1 rs=>
  cases rs
  obtain⟨t,rfl⟩:=r1
  exact PySem.W.KIN.call_text hn hl ⟨.int n,H,I.tok _,⟨_,rfl⟩,h⟩
end
section
variable{X:Cx}{o e:Expr}{to te:TE}
def SN(r:V→List V→Hp→VK→Prop)(to:TE):TE:=fun σ H Q=>to σ H fun x H1=>(∃a,x= .str a)∧r x [] H1 Q
def R6(r:V→List V→Hp→VK→Prop)(to te:TE):TE:=fun σ H Q=>to σ H fun x H1=>(∃a,x= .str a)∧te σ H1 fun y H2=>r x [y] H2 Q
theorem Ru{id:String}{name:Str}{apos pos:Pos}{r:V→List V→Hp→VK→Prop}(slot:Slot "str" name id)(ty:typeOf (.builtin id)=pure (.type "method_descriptor"))(rule:OX X id r)(ho:PE X o to)
  (hbase:attributeBase o name X.env (eval o X.env)=eval o X.env:=by rfl) (hline:(apos.endLine==pos.line)=true:=by rfl):PE X (.Call (.Attribute o name apos) [] [] pos) (SN r to):=by
 intro pins s σ H Q I h
 refine PySem.Call_method0 hbase hline (cC (ho pins s σ H _ I h) fun v s1 zz=> ?_)
 obtain⟨x,H1,I1,r1,q1⟩:=zz
 obtain⟨⟨a,rfl⟩,q1⟩:=q1
 obtain⟨t,rfl⟩:=_root_.id r1
 exact⟨"str",_,F.plainAttrs_str,slot,ty,typeIs_str _ _ _,(fun _ e=>nomatch e),Calls.callWith_builtin rfl (PySem.evalArgs_none (rule pins s1 σ H1 _ [] _ [] Q I1 r1 .nil q1))⟩
theorem PU{id:String}{name:Str}{apos pos:Pos}{r:V→List V→Hp→VK→Prop}(slot:Slot "str" name id)(ty:typeOf (.builtin id)=pure (.type "method_descriptor"))(rule:OX X id r)(ho:PE X o to)(he:PE X e te)
  (hs:starEach [e] X.env=[(false,eval e X.env)]:=by rfl) (hbase:attributeBase o name X.env (eval o X.env)=eval o X.env:=by rfl) (hline:(apos.endLine==pos.line)=true:=by rfl):
  PE X (.Call (.Attribute o name apos) [e] [] pos) (R6 r to te):=by
 intro pins s σ H Q I h
 refine PySem.Call_method1 hbase hs hline (cC (ho pins s σ H _ I h) fun v s1 zz=> ?_)
 obtain⟨x,H1,I1,r1,q1⟩:=zz
 obtain⟨⟨a,rfl⟩,q1⟩:=q1
 obtain⟨t,rfl⟩:=_root_.id r1
 refine⟨"str",_,F.plainAttrs_str,slot,ty,typeIs_str _ _ _,(fun _ e=>nomatch e),Calls.callWith_builtin rfl (Calls.evalArgs_plain (Calls.spliced_cons ?_))⟩
 exact cC (he pins s1 σ H1 _ I1 q1) fun u s2 ⟨y,H2,I2,r2,q2⟩=>Calls.spliced_nil (rule pins s2 σ H2 _ [y] _ [u] Q I2 r1 (.cons r2 .nil) q2)
theorem Oh{apos pos:Pos}(ho:PE X o to)(he:PE X e te)(hs:starEach [e] X.env=[(false,eval e X.env)]:=by rfl)(hbase:attributeBase o "join" X.env (eval o X.env)=eval o X.env:=by rfl)(hline:(apos.endLine==pos.line)=true:=by rfl):
  PE X (.Call (.Attribute o "join" apos) [e] [] pos) (R6 (fun x xs H Q=>∃a p,∃ys:List Str,x= .str a∧xs=[.ref p]∧(bW X.K H p (ys.map V.str)∨sE X.K H p (ys.map V.str))∧
   (ys.map (·.length)).sum+ys.length*a.length≤16777216∧Q (.str (Txt.join a ys)) H) to te):=
 PU F.slot_str_join F.type_str_join Oq ho he hs hbase hline
end
end L2
namespace L2
open PySem PySem.Spec PyProof.Rows
def inClass(s:Stmt)(j:Nat):Stmt:=match s with
 | .ClassDef _ _ _ body _ _ _ _ _ _ _=>body.getD j (.Pass ⟨0,0,0,0⟩)
 |_=>.Pass ⟨0,0,0,0⟩
def vN(s:Stmt):Arguments:=match s with
 | .FunctionDef _ a _ _ _ _ _ _ _ _=>a
 |_=>{ posonlyargs:=[],args:=[],vararg:=none,kwonlyargs:=[],kw_defaults:=[],kwarg:=none,defaults:=[] }
def nS(s:Stmt):List Stmt:=match s with
 | .FunctionDef _ _ b _ _ _ _ _ _ _=>b
 |_=>[]
def aC(s:Stmt):Scope:=match s with
 | .FunctionDef _ _ _ _ _ _ sc _ _ _=>sc
 |_=>{ kind:=.function,names:=[],isGenerator:=false,isCoroutine:=false }
abbrev nj:DL:=fun _ _ _ _ _ _=>False
abbrev E0:XK:=fun _ _ _=>False
theorem bh{X:Cx}:Passes nj X E0:=fun _ _ _ _ _ _ _ h=>h.elim
structure iF(K:PySem.W.Frag)(x qual:Str)(st:Stmt)(f:Addr)(fd:FuncData):Prop where
 ex:∃(oc:Value)(od:Option Addr)(kV doc pm:Value)(an:Option Addr)(cdv ct:Value)(osl:Array (Option Value)),
  fd=PySem.W.fnOf x qual (vN st) (nS st) (aC st) .none kV doc pm an cdv ct∧K.lookup f=some ⟨oc,od,.func fd,osl⟩∧PySem.W.codeIn K cdv qual=true
 kp:PySem.W.keepIn K (.ref f)=true
section
variable{P:Program}{w:World}{K:PySem.W.Frag}{mg:Str→Option Value}{base:Heap}
theorem iF.ok{x qual:Str}{st:Stmt}{f:Addr}{fd:FuncData}{N ps:List Str}{k:Nat}{sp:Sp}(F:iF K x qual st f fd)(S:aF N ps (aC st))(len:∀vs H Q E,sp vs H Q E→vs.length=ps.length)
  (hbody:∀(cdv:Value)(A:Around)(outer:List Env)(s:Shared)(H:Hp)(vs:List V)(Q:VK)(E:XK),f7 k (A.deeper (envOfC qual (aC st) s.heap.objs.size f cdv))→sp vs H Q E→
   ∃t,CI (zC nj P w K mg base N qual (aC st) f cdv A outer s H E).PY (nS st) t∧t { nx:=fun _ H'=>Q .non H',rt:=Q } (start N vs) H):bA P w K mg base nj (k+1) f fd ps sp:=by
 obtain⟨oc,od,kV,doc,pm,an,cdv,ct,osl,rfl,lk,hcd⟩:=F.ex
 refine P6 lk hcd S len fun A outer s H vs Q E hr hsp=> ?_
 obtain⟨t,h,q⟩:=hbody cdv A outer s H vs Q E hr hsp
 exact⟨t,h.PY,q⟩
theorem iF.binds{x qual:Str}{st:Stmt}{f:Addr}{fd:FuncData}{ps:List Str}(F:iF K x qual st f fd)
  (h:∀(kV doc pm:Value)(an:Option Addr)(cdv ct:Value)(us:List Value),us.length=ps.length→bindArgs (PySem.W.fnOf x qual (vN st) (nS st) (aC st) .none kV doc pm an cdv ct) ⟨us,[]⟩=pure (ps.zip us)):Binds K fd ps []:=by
 obtain⟨oc,od,kV,doc,pm,an,cdv,ct,osl,rfl,lk,hcd⟩:=F.ex
 exact .all (h kV doc pm an cdv ct)
theorem M8{x qual:Str}{st:Stmt}{f:Addr}{oc:Value}{od an:Option Addr}{osl:Array (Option Value)}{kV doc pm cdv ct:Value}(l:K.lookup f=some ⟨oc,od,.func (PySem.W.fnOf x qual (vN st) (nS st) (aC st) .none kV doc pm an cdv ct),osl⟩)
  (c:PySem.W.codeIn K cdv qual=true) (k:PySem.W.keepIn K (.ref f)=true):iF K x qual st f (PySem.W.fnOf x qual (vN st) (nS st) (aC st) .none kV doc pm an cdv ct):=⟨⟨oc,od,kV,doc,pm,an,cdv,ct,osl,rfl,l,c⟩,k⟩
end
theorem a7{A:Around}{k:Nat}(hr:f7 k A):A.units+1<cLine:=Nat.lt_of_le_of_lt (Nat.add_le_add_left (by decide:1≤64) _) hr.units
section
variable{X:Cx}
theorem pv(i:Nat){x:Str}{pos:Pos}(hN:X.N[i]? =some x:=by rfl)(hv:QW X.env.scope x:=by first |exact Or.inl rfl |exact Or.inr (Or.inl rfl)|exact Or.inr (Or.inr rfl))(hd:(x==("__debug__":Str))=false:=by decide)
  (hcd:(x==("__classdict__":Str))=false:=by decide):PE X (.Name x pos) (vT i):=Qo hN hv hd hcd
end
def Same(H H':Hp):Prop:=∀b o,H b=some o→H' b=some o
theorem Same.refl(H:Hp):Same H H:=fun _ _ h=>h
theorem Same.trans{H H1 H2:Hp}(a:Same H H1)(b:Same H1 H2):Same H H2:=fun c o h=>b c o (a c o h)
theorem Same.free{H H':Hp}(e:Same H H'){l:Addr}(h:H' l=Option.none):H l=Option.none:=by
 cases q:H l with
 |none=>rfl
 |some o=>
  rw[e l o q]at h
  cases h
theorem Same.seq{K:PySem.W.Frag}{H H':Hp}{a:Addr}{xs:List V}(e:Same H H')(h:bW K H a xs):bW K H' a xs:=by
 rcases h with(h |⟨o,h⟩)|h
 ·exact .inl (.inl (e _ _ h))
 ·exact .inl (.inr ⟨o,e _ _ h⟩)
 ·exact .inr h
def Exc(h:Heap)(a:Addr)(C:Value)(od:Option Addr)(cx:Value)(tb:Option Addr):Prop:=
 ∃(oe:Obj)(vs:Array Value),h.get? a=some oe∧oe.cls=C∧oe.dict=od∧oe.data= .fields vs∧vs[2]? =some cx∧
  match tb with
  |none=>vs[1]? =some .none
  |some T=>vs[1]? =some (.ref T)∧T≠a∧∃(oT:Obj)(ts:Array Value),h.get? T=some oT∧oT.data= .fields ts∧ts[3]? =some .none
theorem Kf(f:Array Value→Array Value)(o:Obj):(Obj.mapFields f o).dict=o.dict:=by
 obtain⟨c,d,dt,sl⟩:=o
 cases dt<;>rfl
theorem MK(f:Array Value→Array Value)(o:Obj):(Obj.mapFields f o).cls=o.cls:=by
 obtain⟨c,d,dt,sl⟩:=o
 cases dt<;>rfl
section
variable{M:Model}{A:Around}{E:Value→Shared→Prop}{s:Shared}
theorem Jl{base:Heap}{env:Env}{outer:List Env}{L a:Addr}{oe:Obj}{vs:Array Value}{hd0 cx:Value}{nx:Bool}{Q:Unit→Shared→Prop}
  (h1:A.frames=some (env::outer)) (h2:s.heap.FunFrames base (env::outer)) (h3:env.frame=some L) (h4:s.heap.get? a=some oe) (h5:oe.data= .fields vs) (h6:1<vs.size) (h7:vs[2]? =some cx)
  (k:∀h' T,Exc h' a oe.cls oe.dict cx (some T)→s.heap.objs.size≤T→(∀b o,b∉frs (env::outer)→b≠a→s.heap.get? b=some o→h'.get? b=some o)→
   (∀b o,b∈frs (env::outer)→s.heap.get? b=some o→∃sl,h'.get? b=some { o with slots:=sl })→Q () { s with heap:=h' }):
  wpAny M A (do let fr ←frameOf env;let pl ←entryPlaceOf L nx;let b ←EntryCells.newEntry hd0 fr .none (rawInt L) .none pl;setField (.ref a) 1 b)
   (fun _ s1=>wpAny M A (setFlight (.ref a) none) Q E s1) E s:=by
 have nfr:a∉(env::outer).filterMap (·.frame):=fun z=>by
  obtain⟨_,o,q1,q2⟩:=h2.mem z
  rw[h4]at q1
  cases q1
  exact q2 vs h5
 refine wpAny_bind (wpAny_frameOf_fun h1 h2 h3 fun g1 so=> ?_)
 refine wpAny_bind (wpAny_entryPlaceOf fun pl ip=> ?_)
 unfold EntryCells.newEntry newFields
 refine wpAny_bind (wpAny_newObj_type ?_ (ip.sizeOk5 _ _ _ _ _))
 have a1:g1.get? a=some oe:=(so.2.1 a nfr).trans h4
 have sz1:g1.objs.size=s.heap.objs.size:=so.1
 generalize ho:({ cls:=.type "traceback",dict:=none,data:=.fields ([hd0,.ref L,.none,rawInt L,.none]++(if pl.isEmpty then List.replicate 6 Value.none else pl)).toArray }:Obj)=oT
 have dT:oT.data= .fields ([hd0,.ref L,.none,rawInt L,.none]++(if pl.isEmpty then List.replicate 6 Value.none else pl)).toArray:=by rw[←ho]
 have a2:(g1.push oT).get? a=some oe:=Heap.get?_push_of_some (h:=g1) oT a1
 refine wpAny_setField a2 h5 h6 ?_
 have naT:g1.objs.size≠a:=Nat.ne_of_gt (Heap.lt_size a1)
 have d3:=Obj.data_mapFields h5 (·.setIfInBounds 1 (Value.ref g1.objs.size))
 have a3:=Heap.get?_update_self (Obj.mapFields (·.setIfInBounds 1 (Value.ref g1.objs.size))) a2 (Obj.isFreed_of_fields d3)
 have nfT:oT.isFreed=false:=Obj.isFreed_of_fields dT
 have t3:((g1.push oT).update a (Obj.mapFields (·.setIfInBounds 1 (Value.ref g1.objs.size)))).get? g1.objs.size=some oT:=
  (Heap.get?_update_other _ _ (Ne.symm naT)).trans (Heap.get?_push_size g1 nfT)
 unfold setFlight
 refine wpAny_bind (wpAny_field a3 d3 (x:=.ref g1.objs.size) (by simp[h6]) ?_)
 rw[if_pos (show(Value.ref g1.objs.size != Value.none)=true from by simp)]
 refine wpAny_setField t3 dT (by simp only[List.size_toArray,List.length_append,List.length_cons,List.length_nil]<;>omega) ?_
 have kp:∀b o,b≠a→g1.get? b=some o→
   (((g1.push oT).update a (Obj.mapFields (·.setIfInBounds 1 (Value.ref g1.objs.size)))).update g1.objs.size (Obj.mapFields (·.setIfInBounds 3 ((none:Option Addr).elim Value.none fun f=>rawInt f)))).get? b=some o:=fun b o nb q=>by
  have nT:g1.objs.size≠b:=Nat.ne_of_gt (Heap.lt_size q)
  rw[Heap.get?_update_other _ _ nT,Heap.get?_update_other _ _ (Ne.symm nb)]
  exact Heap.get?_push_of_some _ q
 refine k _ g1.objs.size ?_ (by rw[sz1];exact Nat.le_refl _) (fun b o nb na q=>kp b o na ((so.2.1 b nb).trans q)) (fun b o hb q=> ?_)
 ·refine⟨_,_,by rw[Heap.get?_update_other _ _ naT];exact a3,MK _ _,Kf _ _,d3,by rw[Array.getElem?_setIfInBounds_ne (by decide)];exact h7,by simp[h6],naT,_,_,
   Heap.get?_update_self _ t3 (Obj.isFreed_of_fields (Obj.data_mapFields dT _)),Obj.data_mapFields dT _,?_⟩
  first
   |(simp;done)
   |(rcases ip with rfl |⟨_,_,_,_,_,_,_,rfl⟩<;>simp)
 ·obtain⟨sl,e⟩:=so.2.2 b o q
  refine⟨sl,kp b _ (fun z=> ?_) e⟩
  subst z
  exact nfr hb
theorem noted{base:Heap}{env:Env}{outer:List Env}{L a:Addr}{C cx:Value}{od tb:Option Addr}{Q:Unit→Shared→Prop}
  (h1:A.frames=some (env::outer)) (h2:s.heap.FunFrames base (env::outer)) (h3:env.frame=some L) (x:Exc s.heap a C od cx tb)
  (k:∀h' T,Exc h' a C od cx (some T)→s.heap.objs.size≤T→(∀b o,b∉frs (env::outer)→b≠a→s.heap.get? b=some o→h'.get? b=some o)→
   (∀b o,b∈frs (env::outer)→s.heap.get? b=some o→∃sl,h'.get? b=some { o with slots:=sl })→Q () { s with heap:=h' }):
  wpAny M A (noteFrame (.ref a) env) (fun _ s1=>wpAny M A (setFlight (.ref a) none) Q E s1) E s:=by
 obtain⟨oe,vs,e1,rfl,rfl,e4,e5,e6⟩:=x
 unfold noteFrame
 simp only[h3]
 cases tb with
 |none=>
  refine wpAny_bind (wpAny_field e1 e4 e6 ?_)
  rw[if_neg (by decide)]
  exact Jl h1 h2 h3 e1 e4 (Array.getElem?_eq_some_iff.mp e6).1 e5 k
 |some T0=>
  obtain⟨e6,e7,oT,ts,e8,e9,e10⟩:=e6
  refine wpAny_bind (wpAny_field e1 e4 e6 ?_)
  rw[if_pos (show(Value.ref T0 != Value.none)=true from by simp)]
  refine wpAny_bind (wpAny_field e8 e9 e10 ?_)
  rw[if_neg (show ¬((Value.none==rawInt L)=true)from by simp[rawInt])]
  refine wpAny_bind (wpAny_setField e8 e9 (Array.getElem?_eq_some_iff.mp e10).1 ?_)
  rw[Heap.update_setField_same s.heap T0 oT ts 3 .none e8 e9 e10]
  exact Jl h1 h2 h3 e1 e4 (Array.getElem?_eq_some_iff.mp e6).1 e5 k
theorem leaves{base:Heap}{env:Env}{outer:List Env}{L a:Addr}{C cx:Value}{od tb:Option Addr}{Q:Unit→Shared→Prop}
  (h1:A.frames=some (env::outer)) (h2:s.heap.FunFrames base (env::outer)) (h3:env.frame=some L) (x:Exc s.heap a C od cx tb)
  (k:∀h' T,Exc h' a C od cx (some T)→s.heap.objs.size≤T→(∀b o,b∉frs (env::outer)→b≠a→s.heap.get? b=some o→h'.get? b=some o)→
   (∀b o,b∈frs (env::outer)→s.heap.get? b=some o→∃sl,h'.get? b=some { o with slots:=sl })→Q () { s with heap:=h' }):
  wpAny M A (leaving env (.ref a)) Q E s:=by
 unfold leaving
 exact wpAny_bind (noted h1 h2 h3 x k)
theorem landed{a:Addr}{C cx:Value}{od:Option Addr}{T:Addr}{Q:Unit→Shared→Prop}(x:Exc s.heap a C od cx (some T))(k:Q () s):wpAny M A (setFlight (.ref a) none) Q E s:=by
 obtain⟨oe,vs,e1,rfl,rfl,e4,e5,e6,e7,oT,ts,e8,e9,e10⟩:=x
 unfold setFlight
 refine wpAny_bind (wpAny_field e1 e4 e6 ?_)
 rw[if_pos (show(Value.ref T != Value.none)=true from by simp)]
 refine wpAny_setField e8 e9 (Array.getElem?_eq_some_iff.mp e10).1 ?_
 show Q () { s with heap:=s.heap.update T (Obj.mapFields (·.setIfInBounds 3 .none)) }
 rw[Heap.update_setField_same s.heap T oT ts 3 .none e8 e9 e10]
 exact k
end
theorem cM.there{P:Program}{w:World}{H:Hp}{h:Heap}{a:Addr}{o:HO}(x:cM P w H h a o):∃u,h.get? a=some u:=by
 cases o with
 |lst xs=>obtain⟨_,_,_,_,e⟩:=x;exact⟨_,e⟩
 |tup xs=>obtain⟨_,_,_,o,e,_⟩:=x;exact⟨_,e⟩
 |dK kvs=>obtain⟨_,_,_,_,o,_,_,e,_⟩:=x;exact⟨_,e⟩
 |dT kvs=>obtain⟨_,_,_,_,o,_,_,e,_⟩:=x;exact⟨_,e⟩
 |set S n=>obtain⟨o,_,_,_,e,_⟩:=x;exact⟨_,e⟩
 |ins C dx fs=>obtain⟨_,_,_,e,_⟩:=x;exact⟨_,e⟩
 |own y=>obtain⟨_,e⟩:=x;exact⟨_,e⟩
 |xd fs=>obtain⟨_,⟨_,_,_,e,_⟩,_⟩:=x;exact⟨_,e⟩
 |rng lo hi=>obtain⟨_,_,_,e⟩:=x;exact⟨_,e⟩
 |Dv ob u=>obtain⟨e,_⟩:=x;exact⟨_,e⟩
 |O8 ps=>exact⟨_,(show h.get? a=some _ from x)⟩
 |met f y=>exact⟨_,(show h.get? a=some _ from x)⟩
 |ext φ=>obtain⟨_,⟨o,e⟩,_⟩:=x;exact⟨o,e⟩
theorem tL.gone{P:Program}{w:World}{H:Hp}{h:Heap}{a:Addr}(x:tL P w H h)(n:h.get? a=none):H a=none:=by
 cases e:H a with
 |none=>rfl
 |some o=>
  obtain⟨u,q⟩:=(x a o e).there
  rw[n]at q
  cases q
def wz(P:Program)(w:World)(Nc:Addr→Prop):DL:=fun outer H s E e s'=>
 ∃(a T C:Addr)(od:Option Addr)(cx:Value)(H':Hp),e= .ref a∧s'.os=s.os∧AllBare s'.gens∧Un (frs outer) [] H H' s.heap s'.heap∧tL P w H' s'.heap∧
  Exc s'.heap a (.ref C) od cx (some T)∧H' a=none∧s.heap.get? a=none∧(Nc C→cx= .none)∧E (.ref C) od H'
abbrev XS:=Value→Option Addr→St→Hp→Prop
structure RZ(X:Cx)(pins:List (Addr×Obj))(Nc:Addr→Prop)(H:Hp)(s:Shared)(a C:Addr)(od:Option Addr)(cx:Value)(tb:Option Addr):Prop where
 ex:Exc s.heap a (.ref C) od cx tb
 na:H a=none
 ab:X.s_0.heap.get? a=none
 Sx:Nc C→cx= .none
 pin:∀p∈X.pn++pins,p.1≠a
def b9(X:Cx)(Nc:Addr→Prop)(Es:XS):Prop:=
 ∀(pins:List (Addr×Obj))(σ:St)(H:Hp)(s:Shared)(a C:Addr)(od:Option Addr)(cx:Value)(tb:Option Addr),Inv X pins σ H s→RZ X pins Nc H s a C od cx tb→Es (.ref C) od σ H→X.xe (.ref a) s
def yI(CX:DL)(X:Cx)(Es:XS):Prop:=∀(pins:List (Addr×Obj))(σ:St)(H:Hp)(s:Shared)(e:Value)(s':Shared),Inv X pins σ H s→CX X.stack H s (fun C od H'=>Es C od σ H') e s'→X.xe e s'
section
variable{X:Cx}{Nc:Addr→Prop}{Es:XS}
theorem Inv.old{pins:List (Addr×Obj)}{σ:St}{H:Hp}{s:Shared}{a:Addr}(I:Inv X pins σ H s)(hex:X.ex=[])(n:s.heap.get? a=none):X.s_0.heap.get? a=none:=by
 cases e:X.s_0.heap.get? a with
 |none=>rfl
 |some o=>
  obtain⟨o',e'⟩:=I.base.there a o e (by rw[hex];simp)
  rw[n]at e'
  cases e'
theorem Inv.apart{pins:List (Addr×Obj)}{σ:St}{H:Hp}{s:Shared}{a:Addr}(I:Inv X pins σ H s)(n:s.heap.get? a=none):∀p∈X.pn++pins,p.1≠a:=fun p hp z=>by
 have e:=(I.pin p hp).1
 rw[z,n]at e
 cases e
theorem b9.passes(f:b9 X Nc Es)(hex:X.ex=[]):yI (wz X.prog X.w Nc) X Es:=by
 rintro pins σ H s e s' I ⟨a,T,C,od,cx,H',rfl,os,bare,un,hok,x,na,sa,cn,q⟩
 have I':Inv X pins σ H' s':=I.call' os un hok bare (fun b z=>absurd z (by simp))
 exact f pins σ H' s' a C od cx (some T) I' ⟨x,na,I.old hex sa,cn,I.apart sa⟩ q
theorem RZ.hok{pins:List (Addr×Obj)}{σ:St}{H:Hp}{s:Shared}{a C:Addr}{od:Option Addr}{cx:Value}{tb:Option Addr}{h':Heap}(I:Inv X pins σ H s)(na:H a=none)
  (kp:∀b o,b∉frs X.stack→b≠a→s.heap.get? b=some o→h'.get? b=some o):tL X.prog X.w H h':=fun b u e=>by
 have tr:∀c v,H c=some v→c∉frs X.stack∧c≠a:=fun c v q=>⟨fun z=>(by rw[I.DU c z]at q;cases q),aD q na⟩
 refine(I.hok b u e).stay (fun c v hc q=> ?_) (fun _ q=>q) fun _ _ q=>q
 rcases hc with rfl |hc
 ·exact kp c v (tr c _ e).1 (tr c _ e).2 q
 ·exact kp c v (tr c _ hc).1 (tr c _ hc).2 q
theorem Hr{E:XK}(hxe:X.xe=fun e s'=>wpAny (model X.prog X.w) X.A (leaving X.env e) (fun _ s''=>wz X.prog X.w Nc X.outer X.QQ X.s_0 E e s'') (fun e' s''=>wz X.prog X.w Nc X.outer X.QQ X.s_0 E e' s'') s')
  (hst:X.stack=X.env::X.outer) (hfr:X.env.frame=some X.env.locals) (hex:X.ex=[]):b9 X Nc (fun C od _ H=>E C od H):=by
 intro pins σ H s a C od cx tb I y q
 rw[hxe]
 have fr:X.A.frames=some (X.env::X.outer):=by rw[←hst];exact I.ok.frames
 have ff:s.heap.FunFrames X.base (X.env::X.outer):=by rw[←hst];exact I.stack
 refine leaves fr ff hfr y.ex fun h' T x' sT kp sl=> ?_
 rw[←hst]at kp sl
 have hs:∀b o,X.s_0.heap.get? b=some o→b≠a∧b≠X.env.locals:=fun b o e=>
  ⟨(fun z=>by rw[z,y.ab]at e;cases e),Nat.ne_of_lt (Nat.lt_of_lt_of_le (Heap.lt_size e) I.ok.above)⟩
 have nx:∀b,b∉X.ex:=fun b=>by rw[hex];simp
 have st:∀b,b∉X.fs→b≠X.env.locals→b∉frs X.stack:=fun b h1 h2 z=>(List.mem_cons.mp (I.AJ b z)).elim h2 h1
 refine⟨a,T,C,od,cx,H,rfl,I.os,I.bare,⟨fun b o e n hb _=> ?_,fun b o e n hb _=> ?_,fun b o e n _=>I.base.free b o e n (nx b),fun b o e _=> ?_,I.base.tups,I.base.u5,I.base.vS⟩,RZ.hok (C:=C) (od:=od) (cx:=cx) (tb:=tb) I y.na kp,x',y.na,y.ab,y.Sx,q⟩
 ·exact kp b o (st b hb (hs b o e).2) (hs b o e).1 (I.base.keep b o e n hb (nx b))
 ·obtain⟨s1,e1⟩:=I.base.slot b o e n hb (nx b)
  have hm:b∈frs X.stack:=by
   rw[hst]
   unfold frs
   rw[List.filterMap_cons,hfr]
   exact List.mem_cons_of_mem _ hb
  obtain⟨s2,e2⟩:=sl b _ hm e1
  exact⟨s2,e2⟩
 ·obtain⟨o1,e1⟩:=I.base.there b o e (nx b)
  by_cases hm:b∈frs X.stack
  ·obtain⟨s2,e2⟩:=sl b _ hm e1
   exact⟨_,e2⟩
  ·exact⟨o1,kp b o1 hm (hs b o e).1 e1⟩
end
section
variable{X:Cx}{CX:DL}{k:Nat}{f C:Addr}{fd:FuncData}{ps:List Str}{sp:Sp}{dvs:List V}{ds:List Value}{Es:XS}{x m:Str}{p pos apos:Pos}{e o:Expr}{es:List Expr}{ta:TE}{t:TA}
theorem D9{pins:List (Addr×Obj)}{σ:St}{H:Hp}{s:Shared}{Q:VK}{us:List Value}{vs:List V}(F:bA X.prog X.w X.K X.mg X.base CX k f fd ps sp)(hr:f7 k X.A)(hb:Binds X.K fd ps ds)(hd:Vals dvs ds)(hx:yI CX X Es)
  (I:Inv X pins σ H s) (r:Vals vs us) (h:sp (vs++dvs) H Q (fun C od H'=>Es C od σ H')):wpAny (model X.prog X.w) X.A (call (.ref f) us) (EP X pins σ Q) X.xe s:=by
 have r2:Vals (vs++dvs) (us++ds):=r.append hd
 have hl:(us++ds).length=ps.length:=by rw[←r2.length];exact F.len _ _ _ _ h
 refine wpAny_call (codeAny_mono (F.run X.A X.stack s H ⟨us,[]⟩ (us++ds) (vs++dvs) Q _ hr I.env0 (hb s us I.vZ hl) r2 h) fun r s' hq=> ?_)
 cases r with
 |error e=>exact hx pins σ H s e s' I hq
 |ok fl=>
  cases fl with
  |ret u=>exact I.after hq
  |next=>exact False.elim hq
  |brk=>exact False.elim hq
  |cont=>exact False.elim hq
def LN(sp:Sp)(dvs:List V)(Es:XS)(t:TA):TE:=fun σ H Q=>t σ H fun vs H1=>sp (vs++dvs) H1 Q (fun C od H'=>Es C od σ H')
def GK(C:Addr)(m:Str)(sp:Sp)(dvs:List V)(Es:XS)(ta:TE)(t:TA):TE:=fun σ H Q=>ta σ H fun x H1=>∃a dx fs,x= .ref a∧H1 a=some (.ins C dx fs)∧fs.lookup m=none∧
 t σ H1 fun vs H2=>sp (x::(vs++dvs)) H2 Q (fun C od H'=>Es C od σ H')
theorem bT(F:bA X.prog X.w X.K X.mg X.base CX k f fd ps sp)(hr:f7 k X.A)(hg:Gl X x)(hm:X.mg x=some (.ref f))(hk:PySem.W.keepIn X.K (.ref f)=true)(hb:Binds X.K fd ps ds)(hd:Vals dvs ds)(hx:yI CX X Es)
  (ha:PA X (e::es) t) (hdb:(x==("__debug__":Str))=false:=by decide) (he:starEach (e::es) X.env=(false,eval e X.env)::starEach es X.env:=by rfl) (hpl:(backTo pos (starEach es X.env)).any (·.1)=false:=by rfl):
  PE X (.Call (.Name x p) (e::es) [] pos) (LN sp dvs Es t):=by
 intro pins s σ H Q I h
 refine wpAny_Call_Name_kw (k7 I hg hm ?_ hdb)
 refine PySem.W.callWith_K (h₀:=X.base) I.ok.mod.MQ hk (cC (ha pos pins s σ H _ I h) fun us s1 ⟨vs,H1,I1,r,q⟩=>⟨I1.vZ,?_⟩) he hpl
 exact D9 F hr hb hd hx I1 r q
theorem iu{pl:Sem Bool}(he:PE X o ta)(c:Cls X.K C)(hm:Meth X.K C m f)(F:bA X.prog X.w X.K X.mg X.base CX k f fd ps sp)(hr:f7 k X.A)(hb:Binds X.K fd ps ds)(hd:Vals dvs ds)(hx:yI CX X Es)(ha:PA X (e::es) t)
  (hst:starEach (e::es) X.env=(false,eval e X.env)::starEach es X.env:=by rfl) (hpl:(backTo pos (starEach es X.env)).any (·.1)=false:=by rfl)
  (ht:eval (.Call (.Attribute o m apos) (e::es) [] pos) X.env=(do
   let ov ←eval o X.env
   standAt apos.atName
   let (f,first)←holding [ov] (getMethod ov m pl)
   callWith pos f first (backTo pos (starEach (e::es) X.env)) (backToKw pos (keywordEach [] X.env))):=by rfl):
  PE X (.Call (.Attribute o m apos) (e::es) [] pos) (GK C m sp dvs Es ta t):=by
 intro pins s σ H Q I h
 refine PySem.W.methodCall_KW (pl:=pl) (cC (he pins s σ H _ I h) fun u s1 ⟨x,H1,I1,rx,a,dx,fs,ex,ea,l,q⟩=> ?_) ht
 subst ex
 obtain rfl:u=Value.ref a:=rx
 refine sW I1 ea c hm l ?_
 refine PySem.W.callWith_K (first:=[.ref a]) (h₀:=X.base) I.ok.mod.MQ hm.kp (cC (ha pos pins s1 σ H1 _ I1 q) fun us s2 ⟨vs,H2,I2,r,q2⟩=>⟨I2.vZ,?_⟩) hst hpl
 exact D9 (us:=.ref a::us) (vs:=.ref a::vs) F hr hb hd hx I2 (.cons rfl r) q2
theorem rK{pl:Sem Bool}(he:PE X o ta)(c:Cls X.K C)(hm:Meth X.K C m f)(F:bA X.prog X.w X.K X.mg X.base CX k f fd ps sp)(hr:f7 k X.A)(hb:Binds X.K fd ps ds)(hd:Vals dvs ds)(hx:yI CX X Es)
  (ht:eval (.Call (.Attribute o m apos) [] [] pos) X.env=(do
   let ov ←eval o X.env
   standAt apos.atName
   let (f,first)←holding [ov] (getMethod ov m pl)
   callWith pos f first (backTo pos (starEach [] X.env)) (backToKw pos (keywordEach [] X.env))):=by rfl):
  PE X (.Call (.Attribute o m apos) [] [] pos) (GK C m sp dvs Es ta AI):=by
 intro pins s σ H Q I h
 refine PySem.W.methodCall_KW (pl:=pl) (cC (he pins s σ H _ I h) fun u s1 ⟨x,H1,I1,rx,a,dx,fs,ex,ea,l,q⟩=> ?_) ht
 subst ex
 obtain rfl:u=Value.ref a:=rx
 refine sW I1 ea c hm l ?_
 exact PySem.W.callWith_K0 (first:=[.ref a]) I1.vZ hm.kp (D9 (us:=[.ref a]) (vs:=[.ref a]) F hr hb hd hx I1 (.cons rfl .nil) q)
end
section
variable{P:Program}{w:World}{K:PySem.W.Frag}{mg:Str→Option Value}{base:Heap}{Nc:Addr→Prop}
theorem iF.Ap{x qual:Str}{st:Stmt}{f:Addr}{fd:FuncData}{N ps:List Str}{k:Nat}{sp:Sp}(F:iF K x qual st f fd)(S:aF N ps (aC st))(len:∀vs H Q E,sp vs H Q E→vs.length=ps.length)
  (hbody:∀(cdv:Value)(A:Around)(outer:List Env)(s:Shared)(H:Hp)(vs:List V)(Q:VK)(E:XK),f7 k (A.deeper (envOfC qual (aC st) s.heap.objs.size f cdv))→sp vs H Q E→
   ∀X,X=zC (wz P w Nc) P w K mg base N qual (aC st) f cdv A outer s H E→b9 X Nc (fun C od _ H=>E C od H)→PassesOwn (model P w) X.A X.env X.xe→
   ∃t,CI (zC (wz P w Nc) P w K mg base N qual (aC st) f cdv A outer s H E) (nS st) t∧t { nx:=fun _ H'=>Q .non H',rt:=Q } (start N vs) H):bA P w K mg base (wz P w Nc) (k+1) f fd ps sp:=by
 obtain⟨oc,od,kV,doc,pm,an,cdv,ct,osl,rfl,lk,hcd⟩:=F.ex
 refine P6 lk hcd S len fun A outer s H vs Q E hr hsp=> ?_
 exact hbody cdv A outer s H vs Q E hr hsp _ rfl (Hr rfl rfl rfl rfl) PassesOwn.leaving
end
abbrev Nw:List Value:=[.type "Exception",.type "BaseException",.type "object"]
def DN(K:PySem.W.Frag)(C N:Addr):Bool:=match K.lookup C with
 |some ⟨.type "type",_,.cls cd,sl⟩=>(match cd.mro,sl.toList with
  | .ref C'::bm,[_,_,_,_,some (.builtin n),_]=>C'==C&&n=="Exception.__new__"&& !cd.hasDel&&bm==Nw&&cd.ns==N&&PySem.W.nsOkIn K N&&cd.hasDict
  |_,_=>false)
 |_=>false
structure KI(h:Heap)(C N:Addr)(mN:Str→Option Value):Prop where
 at_:∃nm q bs sn sub ab col dd k0 k1 k2 k3 k5,h.get? C=some (excClassObj nm q C N bs Nw true sn sub ab col dd k0 k1 k2 k3 k5 "Exception.__new__")
 ns:h.Ns N mN
theorem Hh{K:PySem.W.Frag}{h:Heap}{N:Addr}{mN:Str→Option Value}{n:Str}{v:Value}(X:K.In h)(G:h.Ns N mN)(e:PySem.W.nsIn K N n=some (some v)):mN n=some v:=by
 obtain⟨o,es,ep,ho,hd,_,hf⟩:=G
 unfold PySem.W.nsIn at e
 split at e
 ·rename_i c d es' n' sl q
  have z:=X _ _ q
  rw[ho]at z
  cases z
  cases hd
  split at e
  ·rename_i en he
   cases e
   rw[←hf]
   unfold nsFind findBy
   rw[←Array.find?_toList,he]
   rfl
  ·split at e<;>cases e
 ·cases e
theorem kX{K:PySem.W.Frag}{h:Heap}{C N:Addr}(X:K.In h)(q:DN K C N=true):∃mN,KI h C N mN∧(∀n,PySem.W.nsIn K N n=some none→mN n=none)∧(∀n v,PySem.W.nsIn K N n=some (some v)→mN n=some v):=by
 unfold DN at q
 split at q
 ·rename_i dd cd sl ho
  split at q
  ·rename_i C' bm k0 k1 k2 k3 n k5 hm hs
   simp only[Bool.and_eq_true,beq_iff_eq,Bool.not_eq_true']at q
   obtain⟨⟨⟨⟨⟨⟨rfl,rfl⟩,hdel⟩,rfl⟩,hN⟩,hok⟩,hdc⟩:=q
   obtain⟨nm,bs,mro,ns,qn,hd,sn,sub,ab,col,del⟩:=cd
   dsimp only at hm hdel hN hdc
   subst hm hdel hN hdc
   have hsl:sl= #[k0,k1,k2,k3,some (.builtin "Exception.__new__"),k5]:=by
    obtain⟨l⟩:=sl
    simp only at hs
    rw[hs]
   subst hsl
   have G:h.Ns ns (h.nsMap ns):=.of_isNs (PySem.W.isNs_of_in X hok)
   exact⟨_,⟨⟨nm,qn,bs,sn,sub,ab,col,dd,k0,k1,k2,k3,k5,X _ _ ho⟩,G⟩,fun n e=>PySem.W.ns_none_of X G e,fun n v e=>Hh X G e⟩
  ·cases q
 ·cases q
theorem KI.keeps{h h':Heap}{C N:Addr}{mN:Str→Option Value}(x:KI h C N mN)(k:∀b o,h.get? b=some o→h'.get? b=some o):KI h' C N mN:=by
 obtain⟨⟨nm,q,bs,sn,sub,ab,col,dd,k0,k1,k2,k3,k5,e⟩,o,es,ep,e2,r⟩:=x
 exact⟨⟨nm,q,bs,sn,sub,ab,col,dd,k0,k1,k2,k3,k5,k _ _ e⟩,o,es,ep,k _ _ e2,r⟩
structure XC(K:PySem.W.Frag)(mg:Str→Option Value)(x:Str)(C N:Addr):Prop where
 mg:mg x=some (.ref C)
 cls:DN K C N=true
section
variable{X:Cx}{Nc:Addr→Prop}{Es:XS}{C N:Addr}{x:Str}{np cpos pos:Pos}
theorem raised{pins:List (Addr×Obj)}{σ:St}{H:Hp}{s:Shared}{h':Heap}{e:Addr}{args:List Value}(f:b9 X Nc Es)(hex:X.ex=[])(I:Inv X pins σ H s)(m:Heap.MadeExcOf s.heap h' e (.ref C) args)(h:Es (.ref C) none σ H):
  X.xe (.ref e) { s with heap:=h' }:=by
 have I':Inv X pins σ H { s with heap:=h' }:=I.kept m.keeps
 obtain⟨t,he,_,_⟩:=m.there
 exact f pins σ H _ e C none .none none I' ⟨⟨_,_,he,rfl,rfl,rfl,rfl,rfl⟩,I.hok.gone m.new,I.old hex m.new,fun _=>rfl,I.apart m.new⟩ h
def Ir(Es:XS)(C:Addr):TS:=fun _ σ H=>Es (.ref C) none σ H
theorem bG(f:b9 X Nc Es)(hex:X.ex=[])(hc:X.calm=true)(c:XC X.K X.mg x C N)(hi:PySem.W.nsIn X.K N "__init__"=some none)(hg:Gl X x)(hdb:(x==("__debug__":Str))=false:=by decide):
  PS X (.Raise (some (.Call (.Name x np) [] [] cpos)) none pos) (Ir Es C):=by
 intro pins s σ H D I h
 obtain⟨mN,⟨⟨nm,q,bs,sn,sub,ab,col,dd,k0,k1,k2,k3,k5,hC⟩,hN⟩,hno,_⟩:=kX I.vZ c.cls
 refine wpAny_Raise_call_sub (C:=C) (nm:=nm) (q:=q) (N:=N) (bs:=bs) (hdct:=true) (sn:=sn) (sub:=sub) (ab:=ab) (col:=col) (dd:=dd) (k0:=k0) (k1:=k1) (k2:=k2) (k3:=k3) (k5:=k5) (mN:=mN)
  PySem.F.excBase_Exception (I.ok.hd hc) rfl (hno _ hi) (k7 I hg c.mg ⟨rfl,?_⟩ hdb)
 refine evalArgs_empty ⟨rfl,Nat.zero_le _,hC,hN,fun h' e m=> ?_⟩
 exact raised f hex I m h
end
end L2
namespace L2
open PySem PySem.Spec PyProof.Rows
open PySem.Builtin PySem.Builtin.ObjectAttr
def IL(K:PySem.W.Frag)(C:Addr):Bool:=(PySem.W.clsIn K C).any fun cd=>cd.mro== .ref C::Nw
section
variable{prog:Program}{w:World}{A:Around}{E:Value→Shared→Prop}{s:Shared}{K:PySem.W.Frag}{x C:Addr}{R:Result→Shared→Prop}
theorem PV{ox:Obj}{od:Option Obj}{name:Str}{tk:Tok}{v:Value}(X:K.In s.heap)(I:PySem.W.InstAt s.heap x ox C od)(hp:IL K C=true)(hn:PySem.W.findIn K (.ref C) name=some none)
  (h:wpAny (model prog w) A.in1 (storeInOwnDict (.ref x) (.ref C) (.str name tk) name v false)
   (fun fin s'=>match fin with | .done f=>R (.ok f) s' | .again c'=>c'.quiet=true∧codeAny (model prog w) A c' R s') (fun e s'=>R (.error e) s') s):
  codeAny (model prog w) A (.call (.builtin "object.__setattr__") ⟨[.ref x,.str name tk,v],[]⟩) R s:=by
 have SF:=PySem.F.store_Exception
 obtain⟨cd,hc,ho⟩:=PySem.W.any_some hp
 have em:cd.mro= .ref C::Nw:=beq_iff_eq.mp ho
 have sub:PySem.W.Looks (model prog w) s.heap (isInstance (.ref x) (.type "object")) true:=I.type.andThen (PySem.W.looks_mroIn X (by unfold PySem.W.mroIn;rw[hc,Option.bind_some,em];rfl))
 refine codeAny_call_builtin SF.slot.plain SF.entry (@PySem.W.check_slot (model prog w) _ _ s "object.__setattr__" "object" "__setattr__" (.ref x) [.str name tk,v] [] _ SF.kind SF.split sub (SF.args (.ref x) (.str name tk) v) ?_)
 have hm:PySem.W.Looks (model prog w) s.heap (mroOf (.ref C)) cd.mro:=(PySem.W.looks_clsIn X hc).andThen .now
 rw[PySem.W.osa_eq,refuse_eq]
 refine wpAny_bind (wpAny_bind (I.type.here (wpAny_bind (hm.here ?_))))
 rw[em,refuseLoop_ref,SF.passes]
 refine wpAny_pure (wpAny_bind (I.type.here (wpAny_bind ((PySem.W.looks_findIn X hn).here (wpAny_bind ?_)))))
 exact wpAny_pure h
structure CJ(h:Heap)(x C:Addr)(od:Option Addr):Prop where
 ex:∃t,h.get? x=some { cls:=.ref C,dict:=od,data:=.fields #[.ref t,.none,.none,.none,.bool false,.none] }
theorem GA{name:Str}{v:Value}{Q:Unit→Shared→Prop}(X:K.In s.heap)(I:CJ s.heap x C none)(hs:PySem.W.findIn K (.ref C) "__setattr__"=some (some (.builtin "object.__setattr__")))(hp:IL K C=true)
  (hn:PySem.W.findIn K (.ref C) name=some none) (hh:PySem.W.hasDictIn K C=true)
  (h:∀h',CJ h' x C (some s.heap.objs.size)→h'.Ns1 s.heap.objs.size (fun y=>if y=name then some v else none)→(∀b o,b≠x→s.heap.get? b=some o→h'.get? b=some o)→Q () { s with heap:=h',toks:=s.toks+2 }):
  wpAny (model prog w) A (setAttr (.ref x) name v) Q E s:=by
 obtain⟨t,hx⟩:=I.ex
 have J:PySem.W.InstAt s.heap x { cls:=.ref C,dict:=none,data:=.fields #[.ref t,.none,.none,.none,.bool false,.none] } C none:=⟨hx,rfl,rfl,True.intro⟩
 refine PySem.W.set_plain X J hs (PV (s:={ s with toks:=s.toks+1 }) X J hp hn ?_)
 obtain⟨cd,hc,hd'⟩:=PySem.W.any_some hh
 refine wpAny_bind (wpAny_pure (wpAny_bind (wpAny_bind (wpAny_loadPart hx (wpAny_bind (PySem.W.Looks.here (s:={ s with toks:=s.toks+1 }) (PySem.W.looks_clsIn X hc) ?_))))))
 rw[hd']
 show wpAny (model prog w) A.in1 (do let d ←alloc { cls:=.type "dict",data:=.dict #[] };update x (fun o=>{ o with dict:=some d });dictMade (.ref C) x d) _ _ _
 refine wpAny_bind (wpAny_alloc (wpAny_bind ?_))
 have hx1:(s.heap.push PySem.W.emptyDict).get? x=some { cls:=.ref C,dict:=none,data:=.fields #[.ref t,.none,.none,.none,.bool false,.none] }:=Heap.get?_push_of_some _ hx
 refine wpAny_update hx1 ?_
 refine wpAny_pure (a:=some s.heap.objs.size) (wpAny_bind (wpAny_pure (wpAny_bind ?_)))
 have ne:x≠s.heap.objs.size:=Nat.ne_of_lt (Heap.lt_size hx)
 have e1:(s.heap.push PySem.W.emptyDict).get? s.heap.objs.size=some PySem.W.emptyDict:=Heap.get?_push_size s.heap rfl
 have e2:((s.heap.push PySem.W.emptyDict).update x (fun o=>{ o with dict:=some s.heap.objs.size })).get? s.heap.objs.size=some PySem.W.emptyDict:=(Heap.get?_update_other _ _ ne).trans e1
 have e3:((s.heap.push PySem.W.emptyDict).update x (fun o=>{ o with dict:=some s.heap.objs.size })).Ns s.heap.objs.size (fun _=>none):=⟨PySem.W.emptyDict,#[],_,e2,rfl,(fun e he=>absurd he (by simp)),fun _=>rfl⟩
 have hx2:=Heap.get?_update_self (fun o=>{ o with dict:=some s.heap.objs.size }) hx1 rfl
 refine wpAny_nsSet1 (Heap.Ns1.of_empty e3) fun h' hn2 hs2=> ?_
 obtain⟨oD,esD,epD,hoD,hdD,hcD⟩:=hn2.count (PySem.Within.cons name v (ns:=[]) (fun y hy=>absurd rfl hy))
 refine wpAny_bind (wpAny_lookBehind hoD (by rw[hdD];exact pastItsLine_dict (Nat.le_trans hcD (by show 1≤_;omega))) ?_)
 refine wpAny_pure (h _ ⟨t,(hs2.2 _ ne).trans hx2⟩ hn2 fun b o hb q=> ?_)
 have nb:b≠s.heap.objs.size:=Nat.ne_of_lt (Heap.lt_size q)
 exact(hs2.2 b nb).trans ((Heap.get?_update_other _ _ (Ne.symm hb)).trans (Heap.get?_push_of_some _ q))
theorem JB{name:Str}{v:Value}{dx:Addr}{mA:Str→Option Value}{ns:List Str}{Q:Unit→Shared→Prop}(X:K.In s.heap)(I:CJ s.heap x C (some dx))(hA:s.heap.Ns1 dx mA)(hw:PySem.Within mA ns)(hsz:ns.length≤1000)
  (hs:PySem.W.findIn K (.ref C) "__setattr__"=some (some (.builtin "object.__setattr__"))) (hp:IL K C=true)
  (hn:PySem.W.findIn K (.ref C) name=some none) (hh:PySem.W.hasDictIn K C=true)
  (h:∀h',h'.Ns1 dx (fun y=>if y=name then some v else mA y)→Heap.SameBut dx s.heap h'→Q () { s with heap:=h',toks:=s.toks+2 }):
  wpAny (model prog w) A (setAttr (.ref x) name v) Q E s:=by
 obtain⟨t,hx⟩:=I.ex
 obtain⟨od,es0,ep0,ho0,r0⟩:=id hA
 have J:PySem.W.InstAt s.heap x { cls:=.ref C,dict:=some dx,data:=.fields #[.ref t,.none,.none,.none,.bool false,.none] } C (some od):=⟨hx,rfl,rfl,ho0⟩
 refine PySem.W.set_plain X J hs (PV (s:={ s with toks:=s.toks+1 }) X J hp hn ?_)
 obtain⟨cd,hc,hd'⟩:=PySem.W.any_some hh
 refine wpAny_bind (wpAny_pure (wpAny_bind (wpAny_bind (wpAny_loadPart hx (wpAny_bind (PySem.W.Looks.here (s:={ s with toks:=s.toks+1 }) (PySem.W.looks_clsIn X hc) ?_))))))
 rw[hd']
 refine wpAny_pure (a:=some dx) (wpAny_bind (wpAny_pure (wpAny_bind ?_)))
 refine wpAny_nsSet1 (s:={ s with toks:=s.toks+1 }) hA fun h' hn2 hs2=> ?_
 obtain⟨oD,esD,epD,hoD,hdD,hcD⟩:=hn2.count (PySem.Within.cons name v hw)
 refine wpAny_bind (wpAny_lookBehind hoD (by rw[hdD];exact pastItsLine_dict (Nat.le_trans hcD (by rw[List.length_cons,sizeLine_eq];omega))) ?_)
 exact wpAny_pure (h _ hn2 hs2)
end
section
variable{prog:Program}{w:World}{A:Around}{E:Value→Shared→Prop}{h:Heap}{g:Array GenState}{d:Drawn}{t:Nat}{os:OsState}
variable{nm q:Str}{C N x dx:Addr}{bs:List Value}{sn:List Str}{sub:List Value}{ab:Bool}{col:Option Bool}{dd:Option Addr}{k0 k1 k2 k3 k5:Option Value}{newId:String}
 {mN mA:Str→Option Value} {name:Str} {v:Value} {o:Obj} {vs:Array Value}
theorem GB{tk:Tok}{Q:Fin→Shared→Prop}(hC:h.get? C=some (excClassObj nm q C N bs Nw true sn sub ab col dd k0 k1 k2 k3 k5 newId))(hn:h.Ns N mN)(hna:mN name=none)
  (hB:typeLookup (.type "Exception") name=pure none) (hx:h.get? x=some o) (hc:o.cls= .ref C) (hd:o.data= .fields vs) (hdx:o.dict=some dx) (hA:h.Ns1 dx mA) (hv:mA name=some v) (hq:Q (.done (.ret v)) ⟨h,g,d,t,os⟩):
  wpAny (model prog w) A (Builtin.«object.__getattribute__» ⟨[.ref x,.str name tk],[]⟩) Q E ⟨h,g,d,t,os⟩:=by
 have FB:=PySem.F.attrBase_Exception
 unfold Builtin.«object.__getattribute__»
 repeat (first |(with_reducible refine wpAny_loadPart_at hx ?_;rw[hc])|(with_reducible refine wpAny_typeLookup_exc hC hn FB.mro hB ?_;rw[hna])|wp_step)
 rw[hd]
 dsimp only
 unfold instanceDict
 repeat (first |(with_reducible refine wpAny_loadPart_at hx ?_;rw[hc])|with_reducible refine wpAny_loadPart_at hC ?_ |wp_step)
 rw[hdx]
 repeat (first |(with_reducible refine wpAny_nsGet hA.ns ?_;rw[hv])|wp_step)
 exact hq
theorem NM{tk:Tok}{fill expr:Bool}{Q:Value→Shared→Prop}(hC:h.get? C=some (excClassObj nm q C N bs Nw true sn sub ab col dd k0 k1 k2 k3 k5 newId))(hn:h.Ns N mN)(hga:mN "__getattribute__"=none)
  (hgt:mN "__getattr__"=none) (hna:mN name=none)
  (hB:typeLookup (.type "Exception") name=pure none) (hx:h.get? x=some o) (hc:o.cls= .ref C) (hd:o.data= .fields vs) (hdx:o.dict=some dx) (hA:h.Ns1 dx mA) (hv:mA name=some v) (hb:∀id,v≠.builtin id) (hq:Q v ⟨h,g,d,t,os⟩):
  wpAny (model prog w) A (getAttrBy (.ref x) (.str name tk) fill expr) Q E ⟨h,g,d,t,os⟩:=by
 have FB:=PySem.F.attrBase_Exception
 have f3:=FB.ga.bind (.ref x)
 have y0:(expr&&onTheHeap (Value.builtin "BaseException.__getattribute__"))=false:=by cases expr<;>rfl
 have y2:(Value.builtin "BaseException.__getattribute__"==Value.builtin "object.__getattribute__")=false:=by decide +kernel
 have y1:(onTheHeap (Value.ref C)&&Value.builtin "BaseException.__getattribute__"==Value.builtin "object.__getattribute__")=false:=by rw[y2];rfl
 repeat (any_goals (first |assumption |(with_reducible refine wpAny_loadPart_at hx ?_;rw[hc])|(with_reducible refine wpAny_typeLookup_exc hC hn FB.mro FB.ga.lookup ?_;rw[hga])|(with_reducible refine wpAny_typeLookup_exc hC hn FB.mro FB.noGetattr ?_;rw[hgt])|wp_step))
 have hk:builtinKind "BaseException.__getattribute__"=some .slot:=by decide +kernel
 have hsp:splitId "BaseException.__getattribute__"=some ("BaseException","__getattribute__"):=by decide +kernel
 have hcB:(Value.ref C::Nw).contains (.type "BaseException")=true:=by rw[List.contains_cons,FB.hasBase];rfl
 have ck:∀{Q':Unit→Shared→Prop}{A':Around}{E':Value→Shared→Prop},Q' () ⟨h,g,d,t,os⟩→wpAny (model prog w) A' (checkBuiltinCall "BaseException.__getattribute__" ⟨[.ref x,.str name tk],[]⟩) Q' E' ⟨h,g,d,t,os⟩:=by
  intro Q' A' E' z
  have ha:=PySem.F.args_bexc_ga (.ref x) (.str name tk)
  simp only[checkBuiltinCall,hk,hsp]
  refine wpAny_bind ?_
  unfold isInstance
  repeat (first |(with_reducible refine wpAny_loadPart_at hx ?_;rw[hc])|(with_reducible refine wpAny_isSubtype_exc hC ?_;rw[hcB])|wp_step)
  exact z
 refine codeAny_call_builtin FB.ga.plain PySem.F.entry_bexc_ga (ck (GB hC hn hna hB hx hc hd hdx hA hv ?_))
 repeat (any_goals (first |assumption |wp_step))
 cases v<;>first |exact wpAny_pure hq |exact absurd rfl (hb _)
theorem R1{expr:Bool}{Q:Value→Shared→Prop}(hC:h.get? C=some (excClassObj nm q C N bs Nw true sn sub ab col dd k0 k1 k2 k3 k5 newId))(hn:h.Ns N mN)(hga:mN "__getattribute__"=none)
  (hgt:mN "__getattr__"=none) (hna:mN name=none)
  (hB:typeLookup (.type "Exception") name=pure none) (hx:h.get? x=some o) (hc:o.cls= .ref C) (hd:o.data= .fields vs) (hdx:o.dict=some dx) (hA:h.Ns1 dx mA) (hv:mA name=some v) (hb:∀id,v≠.builtin id) (hq:Q v ⟨h,g,d,t+1,os⟩):
  wpAny (model prog w) A (getAttr (.ref x) name expr) Q E ⟨h,g,d,t,os⟩:=by
 unfold getAttr
 repeat (any_goals (first |assumption |with_reducible apply NM hC hn hga hgt hna hB hx hc hd hdx hA hv hb |wp_step))
end
end L2
namespace L2
open PySem PySem.Spec PyProof.Rows
def xO(a C:Addr)(od:Option Addr):HO:=.ext fun h=>CJ h a C od
def xD(dx:Addr)(fs:List (Str×V)):HO:=.ext fun h=>∃mA,h.Ns1 dx mA∧(∀f,m9 (fs.lookup f) (mA f))∧PySem.Within mA (fs.map (·.1))
section
variable{P:Program}{w:World}{H:Hp}{h:Heap}{a C dx:Addr}{od:Option Addr}{fs:List (Str×V)}
theorem O3(x:CJ h a C od):cM P w H h a (xO a C od):=by
 refine⟨x,?_,fun h1 h2 y k=> ?_⟩
 ·obtain⟨t,e⟩:=x.ex
  exact⟨_,e⟩
 ·obtain⟨t,e⟩:=y.ex
  exact⟨t,k _ e⟩
theorem KR(x:cM P w H h a (xO a C od)):CJ h a C od:=x.1
theorem O4{mA:Str→Option Value}(n:h.Ns1 dx mA)(r:∀f,m9 (fs.lookup f) (mA f))(wi:PySem.Within mA (fs.map (·.1))):cM P w H h dx (xD dx fs):=by
 refine⟨⟨mA,n,r,wi⟩,?_,fun h1 h2 y k=> ?_⟩
 ·obtain⟨o,_,_,e,_⟩:=n
  exact⟨_,e⟩
 ·obtain⟨m,⟨o,es,ep,e,q⟩,r,wi⟩:=y
  exact⟨m,⟨o,es,ep,k _ e,q⟩,r,wi⟩
theorem O5(x:cM P w H h dx (xD dx fs)):∃mA,h.Ns1 dx mA∧(∀f,m9 (fs.lookup f) (mA f))∧PySem.Within mA (fs.map (·.1)):=x.1
end
theorem Inv.wl{X:Cx}{pins:List (Addr×Obj)}{σ:St}{H:Hp}{s:Shared}{h':Heap}{t':Nat}{a d:Addr}{φ ψ χ:Heap→Prop}(I:Inv X pins σ H s)(ha:H a=some (.ext φ))(hd:s.heap.objs.size≤d)
  (k:∀b u,b≠a→s.heap.get? b=some u→h'.get? b=some u) (oa:∀H',cM X.prog X.w H' h' a (.ext ψ)) (ob:∀H',cM X.prog X.w H' h' d (.ext χ)):
  Inv X pins σ (upd (upd H a (.ext ψ)) d (.ext χ)) { s with heap:=h',toks:=t' }:=by
 have nd:H d=none:=I.hok.fresh hd
 have ad:a≠d:=aD ha nd
 have oth:∀b o,H b=some o→o≠.ext φ→upd (upd H a (.ext ψ)) d (.ext χ) b=some o:=fun b o e n=>by
  rw[aq (aD e nd),aq (cO e ha n)]
  exact e
 have free:∀b o,s.heap.get? b=some o→H b=none→upd (upd H a (.ext ψ)) d (.ext χ) b=none:=fun b o e n=>by
  rw[aq (Nat.ne_of_lt (Nat.lt_of_lt_of_le (Heap.lt_size e) hd)),aq (fun z=>(by rw[z,ha]at n;cases n))]
  exact n
 have na:∀b,H b=none→b≠a:=fun b n z=>by rw[z,ha]at n;cases n
 refine I.un ⟨fun b o e n _ _=>k b o (na b n) e,fun b o e n _ _=>⟨o.slots,k b o (na b n) e⟩,fun b o e n _=>free b o e n,fun b o e _=> ?_,fun b xs e=>oth b _ e (by intro z;cases z),fun b o u e=>oth b _ e (by intro z;cases z),fun b ps e=>⟨#[],by rw[oth b _ e (by intro z;cases z)];simp⟩⟩ (fun b u e=> ?_)
 ·by_cases z:b=a
  ·rw[z]
   exact(oa H).there
  ·exact⟨o,k b o z e⟩
 ·by_cases zd:b=d
  ·subst zd
   rw[aj]at e
   cases e
   exact ob _
  ·rw[aq zd]at e
   by_cases za:b=a
   ·subst za
    rw[aj]at e
    cases e
    exact oa _
   ·rw[aq za]at e
    refine(I.hok b u e).stay (fun c v hc q=>k c v ?_ q) (fun c q=>oth c _ q (by intro z;cases z)) fun c xs q=>oth c _ q (by intro z;cases z)
    rcases hc with rfl |hc
    ·exact za
    ·exact cO hc ha (by intro z;cases z)
structure QV(K:PySem.W.Frag)(C:Addr):Prop where
 sa:PySem.W.findIn K (.ref C) "__setattr__"=some (some (.builtin "object.__setattr__"))
 ov:IL K C=true
 hd:PySem.W.hasDictIn K C=true
def L1(K:PySem.W.Frag)(ta tv:TE)(f:Str):TS:=fun D σ H=>tv σ H fun y H1=>ta σ H1 fun x H2=>∃a C,x= .ref a∧H2 a=some (xO a C none)∧QV K C∧bf K C f∧
 ∀dx,H2 dx=none→D.nx σ (upd (upd H2 a (xO a C (some dx))) dx (xD dx [(f,y)]))
def Py(K:PySem.W.Frag)(ta tv:TE)(f:Str):TS:=fun D σ H=>tv σ H fun y H1=>ta σ H1 fun x H2=>∃a C dx fs,x= .ref a∧H2 a=some (xO a C (some dx))∧H2 dx=some (xD dx fs)∧QV K C∧bf K C f∧fs.length≤1000∧
 D.nx σ (upd H2 dx (xD dx (eU f y fs)))
section
variable{X:Cx}{o value:Expr}{f:Str}{pos pos':Pos}{ta tv:TE}
theorem FD(ha:PE X o ta)(hv:PE X value tv)(hs:swapsWith value (some (.Attribute o f pos')) pos.line X.env=pure false):PS X (.Assign [.Attribute o f pos'] value pos) (L1 X.K ta tv f):=by
 intro pins s σ H D I h
 refine plainObj_wpAny_Assign_Attribute (cC (hv pins s σ H _ I h) fun u s1 ⟨y,H1,I1,ry,q⟩=>cC (ha pins s1 σ H1 _ I1 q) fun ov s2 zz=> ?_) hs
 obtain⟨x,H2,I2,rx,a,C,ex,ea,c,n,q2⟩:=zz
 subst ex
 obtain rfl:ov=Value.ref a:=rx
 refine GA I2.vZ (KR (I2.hok a _ ea)) c.sa c.ov n c.hd fun h' x' n' k=> ?_
 refine⟨σ,_,I2.wl ea (Nat.le_refl _) k (fun H'=>O3 x') (fun H'=>O4 n' (fun g=> ?_) fun g hg=> ?_),q2 _ (I2.hok.fresh (Nat.le_refl _))⟩
 ·by_cases z:g=f
  ·subst z
   show m9 (List.lookup g [(g,y)]) (if g=g then some u else none)
   rw[if_pos rfl,List.lookup_cons_self]
   exact ry
  ·have hb:(g==f)=false:=beq_eq_false_iff_ne.mpr z
   show m9 (List.lookup g [(f,y)]) (if g=f then some u else none)
   rw[if_neg z]
   simp only[List.lookup,hb]
   exact True.intro
 ·by_cases z:g=f
  ·rw[z]
   exact List.mem_cons_self
  ·exact absurd (show(if g=f then some u else none)=none by rw[if_neg z]) hg
theorem N8(ha:PE X o ta)(hv:PE X value tv)(hs:swapsWith value (some (.Attribute o f pos')) pos.line X.env=pure false):PS X (.Assign [.Attribute o f pos'] value pos) (Py X.K ta tv f):=by
 intro pins s σ H D I h
 refine plainObj_wpAny_Assign_Attribute (cC (hv pins s σ H _ I h) fun u s1 ⟨y,H1,I1,ry,q⟩=>cC (ha pins s1 σ H1 _ I1 q) fun ov s2 zz=> ?_) hs
 obtain⟨x,H2,I2,rx,a,C,dx,fs,ex,ea,ed,c,n,l,q2⟩:=zz
 subst ex
 obtain rfl:ov=Value.ref a:=rx
 obtain⟨mA,hA,r,wi⟩:=O5 (I2.hok dx _ ed)
 refine JB I2.vZ (KR (I2.hok a _ ea)) hA wi (by rw[List.length_map];exact l) c.sa c.ov n c.hd fun h' n' sb=> ?_
 have hd:∃o,h'.get? dx=some o:=let ⟨o,_,_,e',_⟩:=n';⟨o,e'⟩
 refine⟨σ,_,I2.write (x:=dx) (e:=dx) (by rw[ed];exact True.intro) (.inl rfl) (fun b q hb z=>(sb.2 b hb).trans z) hd (O4 n' (fun g=> ?_) fun g hg=> ?_),q2⟩
 ·show m9 ((eU f y fs).lookup g) (if g=f then some u else mA g)
  rw[uZ]
  by_cases q:g=f
  ·rw[if_pos q,if_pos q]
   exact ry
  ·rw[if_neg q,if_neg q]
   exact r g
 ·by_cases q:g=f
  ·rw[q]
   exact(rT f y fs).1
  ·refine(rT f y fs).2 g (wi g fun z=>hg ?_)
   show(if g=f then some u else mA g)=none
   rw[if_neg q]
   exact z
end
structure mR(k:Nat)(A:Around):Prop where
 dp:A.depth+3*k+5<recursionLimit
 un:A.units+16*k+200<cLine
theorem f7.h{k:Nat}{A:Around}(r:f7 k A):mR k A:=⟨r.dp,r.un⟩
theorem mR.mark{k:Nat}{A:Around}(r:mR k A)(v:Option Value):mR k (A.mark v):=⟨r.dp,r.un⟩
theorem mR.deeper{k:Nat}{A:Around}(r:mR (k+1) A)(env:Env):mR k (A.deeper env):=
 ⟨by have:=r.dp;show A.depth+1+3*k+5<_;omega,by have:=r.un;show A.units+3+16*k+200<_;omega⟩
theorem mR.make{k:Nat}{A:Around}(r:mR (k+1) A)(C:Addr)(us:List Value)(kw:List (Str×Value)):mR k (A.under (.builtin "type.__call__" ⟨.ref C::us,kw⟩)):=
 ⟨by have:=r.dp;rw[BG];omega,by have:=r.un;rw[BF];omega⟩
structure Ck(P:Program)(w:World)(K:PySem.W.Frag)(mg:Str→Option Value)(base:Heap)(CX:DL)(k:Nat)(f:Addr)(fd:FuncData)(ps:List Str)(sp:Sp):Prop where
 len:∀vs H Q E,sp vs H Q E→vs.length=ps.length
 run:∀(A:Around)(outer:List Env)(s:Shared)(H:Hp)(args:Args)(us:List Value)(vs:List V)(Q:VK)(E:XK),mR k A→CK P w K mg base A outer s H→BindsTo s fd args (ps.zip us)→Vals vs us→sp vs H Q E→
  codeAny (model P w) A (.call (.ref f) args) (CR CX outer P w H s Q E) s
def Gd(CX:DL)(P:Program)(w:World)(K:PySem.W.Frag)(mg:Str→Option Value)(base:Heap)(N:List Str)(qual:Str)(scope:Scope)(f:Addr)(cd:Value)(A:Around)(outer:List Env)(s:Shared)(H:Hp)(E:XK):Cx:=
 { zC CX P w K mg base N qual scope f cd A outer s H E with calm:=false }
theorem QE{CX:DL}{P:Program}{w:World}{K:PySem.W.Frag}{mg:Str→Option Value}{base:Heap}{k:Nat}{f:Addr}{name qual:Str}{params:Arguments}{body:List Stmt}{scope:Scope}{dV kV doc pm cdv ct oc:Value}{an od:Option Addr}
  {osl:Array (Option Value)} {N ps:List Str} {sp:Sp} (lk:K.lookup f=some ⟨oc,od,.func (PySem.W.fnOf name qual params body scope dV kV doc pm an cdv ct),osl⟩) (hcd:PySem.W.codeIn K cdv qual=true) (S:aF N ps scope)
  (len:∀vs H Q E,sp vs H Q E→vs.length=ps.length)
  (hbody:∀(A:Around)(outer:List Env)(s:Shared)(H:Hp)(vs:List V)(Q:VK)(E:XK),mR k (A.deeper (envOfC qual scope s.heap.objs.size f cdv))→sp vs H Q E→
   ∃t,CI (Gd CX P w K mg base N qual scope f cdv A outer s H E) body t∧t { nx:=fun _ H'=>Q .non H',rt:=Q } (start N vs) H):
  Ck P w K mg base CX (k+1) f (PySem.W.fnOf name qual params body scope dV kV doc pm an cdv ct) ps sp:=by
 refine⟨len,fun A outer s H args us vs Q E hr e0 hb r hsp=> ?_⟩
 have hl:=len _ _ _ _ hsp
 have KX:K.In s.heap:=e0.mod.MQ.keeps fun b o e=>(e0.bs b o e).1
 have lim:s.heap.NoLimit:=e0.mod.nolimit.keeps fun b o e=>(e0.bs b o e).1
 have hkind:∀y∈ps.zip us,scope.names.lookup y.1=some .local∨(scope.names.lookup y.1=some .cell∧((cellsFrom (s.heap.objs.size+1) scope.names []).lookup y.1).isSome=true):=fun⟨n,v⟩ hy=>by
  rcases S.par n (List.of_mem_zip hy).1 with q |q
  ·exact .inl q
  ·exact .inr ⟨q,PySem.W.cellsFrom_some _ _ _ (.inl q)⟩
 refine codeAny_call_function (by have:=hr.dp;omega) (KX _ _ lk) rfl S.co S.gen rfl (PySem.W.codeRec_of KX hcd) (hb _ _ _ _ ?_)
 refine wpAny_newFunctionEnv_cells S.kind hkind fun env he s1 x=> ?_
 subst he
 refine⟨lim.keeps x.toInCall.keep,codeAny_func ?_⟩
 obtain⟨t,ht,hq⟩:=hbody A outer s H vs Q E (hr.deeper _) hsp
 have I0:Inv (zC CX P w K mg base N qual scope f cdv { A with handled:=none } outer s H E) [] (start N vs) H s1:=Du S rfl ⟨e0.frames,e0.mod,e0.bs,e0.EZ,e0.qU,e0.Gy,e0.hok,e0.bare⟩ hl r x
 have I:Inv (Gd CX P w K mg base N qual scope f cdv A outer s H E) [] (start N vs) H s1:=
  ⟨⟨I0.ok.mod,I0.ok.kind,I0.ok.glob,I0.ok.blt,I0.ok.above,I0.ok.inj,I0.ok.has,I0.ok.cab,(fun z=>nomatch z),Around.frames_deeper e0.frames,I0.ok.stk,I0.ok.OH,I0.ok.bs,I0.ok.EZ,I0.ok.Cz,I0.ok.CD,I0.ok.qU,I0.ok.Gy⟩,I0.os,I0.bare,I0.base,I0.loc,I0.cell,I0.free,I0.jU,I0.pin,I0.hok,I0.len⟩
 refine wpAny_mono (ht [] s1 (start N vs) H _ I hq) (fun fl s' hs=> ?_) fun e s' hs=>hs
 have fin:∀{σ':St}{H':Hp}{v:V}{u:Value},Inv (Gd CX P w K mg base N qual scope f cdv A outer s H E) [] σ' H' s'→RelV v u→Q v H'→CE outer P w H s Q u s':=
  fun{σ' H' v u} J rv q=>⟨v,H',J.os,J.bare,J.base,J.hok,rv,q⟩
 cases fl with
 |ret u=>
  obtain⟨v,σ',H',J,rv,q⟩:=hs
  exact fin J rv q
 |next=>
  obtain⟨σ',H',J,q⟩:=hs
  exact fin (v:=V.non) (u:=Value.none) J rfl q
 |brk=>
  obtain⟨_,_,_,q⟩:=hs
  exact False.elim q
 |cont=>
  obtain⟨_,_,_,q⟩:=hs
  exact False.elim q
theorem iF.SV{P:Program}{w:World}{K:PySem.W.Frag}{mg:Str→Option Value}{base:Heap}{x qual:Str}{st:Stmt}{f:Addr}{fd:FuncData}{N ps:List Str}{k:Nat}{sp:Sp}(F:iF K x qual st f fd)(S:aF N ps (aC st))(len:∀vs H Q E,sp vs H Q E→vs.length=ps.length)
  (hbody:∀(cdv:Value)(A:Around)(outer:List Env)(s:Shared)(H:Hp)(vs:List V)(Q:VK)(E:XK),mR k (A.deeper (envOfC qual (aC st) s.heap.objs.size f cdv))→sp vs H Q E→
   ∃t,CI (Gd nj P w K mg base N qual (aC st) f cdv A outer s H E).PY (nS st) t∧t { nx:=fun _ H'=>Q .non H',rt:=Q } (start N vs) H):Ck P w K mg base nj (k+1) f fd ps sp:=by
 obtain⟨oc,od,kV,doc,pm,an,cdv,ct,osl,rfl,lk,hcd⟩:=F.ex
 refine QE lk hcd S len fun A outer s H vs Q E hr hsp=> ?_
 obtain⟨t,h,q⟩:=hbody cdv A outer s H vs Q E hr hsp
 exact⟨t,h.PY,q⟩
def del(H:Hp)(a:Addr):Hp:=fun b=>if b=a then none else H b
theorem mL{H:Hp}{a:Addr}:del H a a=none:=by unfold del;rw[if_pos rfl]
theorem kR{H:Hp}{a b:Addr}(h:b≠a):del H a b=H b:=by unfold del;rw[if_neg h]
section
variable{X:Cx}{pins:List (Addr×Obj)}{σ:St}{H:Hp}{s:Shared}{h':Heap}{a:Addr}{φ:Heap→Prop}
theorem Inv.laidN{t':Nat}(I:Inv X pins σ H s)(k:∀b u,s.heap.get? b=some u→h'.get? b=some u)(hn:s.heap.get? a=none)(oa:∀H',cM X.prog X.w H' h' a (.ext φ)):
  Inv X pins σ (upd H a (.ext φ)) { s with heap:=h',toks:=t' }:=by
 have na:H a=none:=I.hok.gone hn
 have oth:∀b o,H b=some o→upd H a (.ext φ) b=some o:=fun b o e=>by rw[aq (aD e na)];exact e
 refine I.un ⟨fun b o e _ _ _=>k b o e,fun b o e _ _ _=>⟨o.slots,k b o e⟩,fun b o e n _=> ?_,fun b o e _=>⟨o,k b o e⟩,fun b xs e=>oth b _ e,fun b o u e=>oth b _ e,fun b ps e=>⟨#[],by rw[oth b _ e];simp⟩⟩ (fun b u e=> ?_)
 ·rw[aq (fun z=>(by rw[z,hn]at e;cases e))]
  exact n
 ·by_cases z:b=a
  ·subst z
   rw[aj]at e
   cases e
   exact oa _
  ·rw[aq z]at e
   exact(I.hok b u e).stay (fun c v _ q=>k c v q) (fun c q=>oth c _ q) fun c xs q=>oth c _ q
theorem Inv.NP(I:Inv X pins σ H s)(ha:H a=some (.ext φ)):Inv X pins σ (del H a) s:=by
 have oth:∀b o,H b=some o→o≠.ext φ→del H a b=some o:=fun b o e n=>by rw[kR (cO e ha n)];exact e
 have fr:∀b,H b=none→del H a b=none:=fun b n=>by
  by_cases z:b=a
  ·rw[z]
   exact mL
  ·rw[kR z]
   exact n
 refine⟨I.ok,I.os,I.bare,⟨I.base.keep,I.base.slot,fun b o e n x=>fr b (I.base.free b o e n x),I.base.there,fun b xs e=>oth b _ (I.base.tups b xs e) (by intro z;cases z),fun b o u e=>oth b _ (I.base.u5 b o u e) (by intro z;cases z),fun b ps e=> ?_⟩,I.loc,I.cell,fr _ I.free,fun x c e=>fr c (I.jU x c e),fun p hp=> ?_,fun b u e=> ?_,I.len⟩
 ·obtain⟨m,q⟩:=I.base.vS b ps e
  exact⟨m,oth b _ q (by intro z;cases z)⟩
 ·obtain⟨e,n,r⟩:=I.pin p hp
  exact⟨e,fr _ n,r⟩
 ·by_cases z:b=a
  ·rw[z,mL]at e
   cases e
  ·rw[kR z]at e
   exact(I.hok b u e).stay (fun c v _ q=>q) (fun c q=>oth c _ q (by intro z;cases z)) fun c xs q=>oth c _ q (by intro z;cases z)
end
structure RL(K:PySem.W.Frag)(C N fI:Addr):Prop where
 cls:DN K C N=true
 init:PySem.W.nsIn K N "__init__"=some (some (.ref fI))
 kp:PySem.W.keepIn K (.ref C)=true
 fn:∃o,K.lookup fI=some o∧o.cls= .type "function"
def AF(C:Addr)(sp:Sp)(Es:XS)(t:TA)(σ:St)(H:Hp):Prop:=t σ H fun vs H1=>∀a,H1 a=none→sp (.ref a::vs) (upd H1 a (xO a C none)) (fun v H2=>v= .non∧∃dx,H2 a=some (xO a C (some dx))∧Es (.ref C) (some dx) σ (del H2 a)) (fun _ _ _=>False)
section
variable{X:Cx}{Nc:Addr→Prop}{Es:XS}{C N fI:Addr}{x:Str}{p np cpos pos:Pos}{k:Nat}{fd:FuncData}{ps:List Str}{sp:Sp}{e:Expr}{es:List Expr}{t:TA}
theorem O1{pins:List (Addr×Obj)}{σ:St}{H:Hp}{s:Shared}(hex:X.ex=[])(M:RL X.K C N fI)(F:Ck X.prog X.w X.K X.mg X.base nj k fI fd ps sp)(hr:mR (k+1) X.A)(hg:Gl X x)(hm:X.mg x=some (.ref C))(hb:Binds X.K fd ps [])(hps:ps.length≤1000)
  (ha:PA X (e::es) t) (I:Inv X pins σ H s) (h:AF C sp Es t σ H) (hdb:(x==("__debug__":Str))=false:=by decide) (he:starEach (e::es) X.env=(false,eval e X.env)::starEach es X.env:=by rfl) (hpl:(backTo pos (starEach es X.env)).any (·.1)=false:=by rfl):
  wpAny (model X.prog X.w) X.A (eval (.Call (.Name x p) (e::es) [] pos) X.env)
   (fun v s'=>∃a dx H',v= .ref a∧Inv X pins σ H' s'∧CJ s'.heap a C (some dx)∧H' a=none∧X.s_0.heap.get? a=none∧(∀p∈X.pn++pins,p.1≠a)∧Es (.ref C) (some dx) σ H') X.xe s:=by
 refine wpAny_Call_Name_kw (k7 I hg hm ?_ hdb)
 refine PySem.W.callWith_K (h₀:=X.base) I.ok.mod.MQ M.kp (cC (ha pos pins s σ H _ I h) fun us s1 ⟨vs,H1,I1,r,q⟩=>⟨I1.vZ,?_⟩) he hpl
 obtain⟨mN,⟨⟨nm,q',bs,sn,sub,ab,col,dd,k0,k1,k2,k3,k5,hC⟩,hN⟩,_,hsome⟩:=kX I1.vZ M.cls
 obtain⟨oI,lI,cI⟩:=M.fn
 have hfI:=I1.vZ _ _ lI
 have hl0:us.length+1=ps.length:=by
  have z:=F.len _ _ _ _ (q (s1.heap.objs.size) (I1.hok.fresh (Nat.le_refl _)))
  rw[List.length_cons,r.length]at z
  exact z
 obtain⟨hp,g,d,tk,os⟩:=s1
 refine wpAny_call_exc_init (C:=C) (nm:=nm) (q:=q') (N:=N) (bs:=bs) (hdct:=true) (sn:=sn) (sub:=sub) (ab:=ab) (col:=col) (dd:=dd) (k0:=k0) (k1:=k1) (k2:=k2) (k3:=k3) (k5:=k5) (mN:=mN)
  PySem.F.excBase_Exception hC hN (hsome _ _ M.init) hfI cI (hrest:=by show us.length≤sizeLine;rw[sizeLine_eq];omega) fun h' a m=> ?_
 obtain⟨t0,ht0,_,_⟩:=m.there
 have xm:CJ h' a C none:=⟨t0,ht0⟩
 have I2:Inv X pins σ (upd H1 a (xO a C none)) ⟨h',g,d,tk,os⟩:=I1.laidN m.keeps m.new fun _=>O3 xm
 have q2:=q a (I1.hok.gone m.new)
 have r2:Vals (V.ref a::vs) (Value.ref a::us):=.cons rfl r
 have hl:(Value.ref a::us++[]).length=ps.length:=by rw[List.append_nil,List.length_cons];exact hl0
 have bd:=hb ⟨h',g,d,tk,os⟩ (Value.ref a::us) I2.vZ hl
 rw[List.append_nil]at bd
 refine wpAny_call (codeAny_mono (F.run _ X.stack _ _ ⟨Value.ref a::us,[]⟩ (Value.ref a::us) _ _ _ (hr.make C us []) (I2.env0.make C us []) bd r2 q2) fun rs s' hq=> ?_)
 cases rs with
 |error y=>exact hq.elim
 |ok fl=>
  cases fl with
  |ret u=>
   obtain⟨v,H',I3,rv,ev,dx,ea,q3⟩:=I2.after hq
   subst ev
   exact⟨rv,a,dx,_,rfl,I3.NP ea,KR (I3.hok a _ ea),mL,I1.old hex m.new,I1.apart m.new,q3⟩
  |next=>exact False.elim hq
  |brk=>exact False.elim hq
  |cont=>exact False.elim hq
end
theorem CF:entryFor table "proto.unchain"=some Builtin.«proto.unchain»:=entryFor_of_tree (by kernel_rfl)
section
variable{prog:Program}{w:World}{A:Around}{E:Value→Shared→Prop}{s:Shared}{env:Env}{Q:Flow→Shared→Prop}{C N:Addr}{mN:Str→Option Value}
theorem G1{x:Sem Value}(hh:A.handled=none)(h:wpAny (model prog w) A x (fun v s1=>∃e od,v= .ref e∧CJ s1.heap e C od∧KI s1.heap C N mN∧E (.ref e) s1) E s):
  wpAny (model prog w) A (raiseStmt env (some x) none) Q E s:=by
 unfold raiseStmt
 refine wpAny_bind (wpAny_mono h (fun v s1 q=> ?_) fun _ _ y=>y)
 obtain⟨e,od,rfl,⟨t,he⟩,⟨⟨nm,q',bs,sn,sub,ab,col,dd,k0,k1,k2,k3,k5,hC⟩,hN⟩,hE⟩:=q
 have hcB:(Value.ref C::Nw).contains (.type "BaseException")=true:=rfl
 obtain⟨hp,g,d,tk,os⟩:=s1
 repeat (first |with_reducible refine wpAny_loadPart_at he ?_ |with_reducible refine wpAny_loadPart_at hC ?_ |(with_reducible refine wpAny_isSubtype_exc hC ?_;rw[hcB])|wp_step)
 exact wpAny_raiseNew_none hh hE
theorem G0{x c:Sem Value}{hd:Addr}(hh:A.handled=some (.ref hd))(hcn:∀{Q':Value→Shared→Prop}{s':Shared},Q' .none s'→wpAny (model prog w) A c Q' E s')
  (h:wpAny (model prog w) A x (fun v s1=>∃e od oh ws,v= .ref e∧CJ s1.heap e C od∧KI s1.heap C N mN∧s1.heap.get? hd=some oh∧oh.data= .fields ws∧ws[2]? =some .none∧hd≠e∧
   ∀h',Exc h' e (.ref C) od (.ref hd) none→(∀b o,b≠e→s1.heap.get? b=some o→h'.get? b=some o)→E (.ref e) { s1 with heap:=h' }) E s):
  wpAny (model prog w) A (raiseStmt env (some x) (some c)) Q E s:=by
 unfold raiseStmt
 refine wpAny_bind (wpAny_mono h (fun v s1 q=> ?_) fun _ _ y=>y)
 obtain⟨e,od,oh,ws,rfl,⟨t,he⟩,⟨⟨nm,q',bs,sn,sub,ab,col,dd,k0,k1,k2,k3,k5,hC⟩,hN⟩,h1,h2,h3,h4,hE⟩:=q
 have hcB:(Value.ref C::Nw).contains (.type "BaseException")=true:=rfl
 refine wpAny_bind (wpAny_holding (hcn (wpAny_bind (wpAny_pure ?_))))
 obtain⟨hp,g,d,tk,os⟩:=s1
 dsimp only
 repeat (first |with_reducible refine wpAny_loadPart_at he ?_ |with_reducible refine wpAny_loadPart_at hC ?_ |(with_reducible refine wpAny_isSubtype_exc hC ?_;rw[hcB])|wp_step)
 have eC:e≠C:=by
  intro z
  subst z
  rw[he]at hC
  cases hC
 generalize hh2:(hp.update e (Obj.mapFields fun x=>x.setIfInBounds 3 Value.none)).update e (Obj.mapFields fun x=>x.setIfInBounds 4 (Value.bool true))=hp2
 have u1:=Heap.get?_update_self (Obj.mapFields fun x=>x.setIfInBounds 3 Value.none) (show hp.get? e=_ from he) rfl
 have he2:hp2.get? e=some { cls:=.ref C,dict:=od,data:=.fields #[.ref t,.none,.none,.none,.bool true,.none] }:=by
  rw[←hh2]
  exact Heap.get?_update_self (Obj.mapFields fun x=>x.setIfInBounds 4 (Value.bool true)) u1 rfl
 have oth:∀b o,b≠e→hp.get? b=some o→hp2.get? b=some o:=fun b o nb q=>by
  rw[←hh2,Heap.get?_update_other _ _ (Ne.symm nb),Heap.get?_update_other _ _ (Ne.symm nb)]
  exact q
 have hC2:=oth C _ (Ne.symm eC) hC
 have hh1:=oth hd _ h4 h1
 refine wpAny_loadPart_at hC2 (wpAny_pure ?_)
 show wpAny _ _ (if(Value.type "type"==Value.type "type")=true then _ else _) _ _ _
 rw[if_pos (by decide)]
 refine wpAny_pure (wpAny_bind ?_)
 unfold setFlight
 refine wpAny_bind (wpAny_field he2 rfl (x:=.none) rfl ?_)
 rw[if_neg (by decide)]
 refine wpAny_pure ?_
 unfold raiseNew
 refine wpAny_bind (wpAny_handled ?_)
 rw[hh]
 dsimp only
 rw[if_pos (show(Value.ref hd != Value.ref e)=true from by simp[h4])]
 refine wpAny_bind (wpAny_holding (wpAny_runValue (codeAny_builtin CF ?_)))
 unfold Builtin.«proto.unchain»
 refine wpAny_bind (wpAny_field hh1 h2 h3 ?_)
 rw[if_pos (by decide)]
 refine wpAny_pure ?_
 unfold updateField
 refine wpAny_bind (wpAny_bind (wpAny_load he2 ?_))
 dsimp only
 rw[if_pos (by show 2<6;decide)]
 refine wpAny_update he2 ?_
 refine wpAny_throw (hE _ ⟨_,_,Heap.get?_update_self _ he2 rfl,rfl,rfl,rfl,rfl,rfl⟩ fun b o nb q=> ?_)
 rw[Heap.get?_update_other _ _ (Ne.symm nb)]
 exact oth b o nb q
end
def Cx.hdl(X:Cx)(eh:Addr)(oh:Obj):Cx:={ X with A:=X.A.mark (some (.ref eh)),calm:=false,pn:=(eh,oh)::X.pn }
def Cx.tr(X:Cx)(pl:List (Addr×Obj))(E:Value→Shared→Prop):Cx:={ X with pn:=X.pn++pl,xe:=E }
section
variable{X:Cx}{pins pl pins':List (Addr×Obj)}{σ:St}{H:Hp}{s:Shared}{eh:Addr}{oh:Obj}{E:Value→Shared→Prop}
theorem Inv.tr(I:Inv X pins σ H s)(E:Value→Shared→Prop):Inv (X.tr pins E) pins σ H s:=
 ⟨⟨I.ok.mod,I.ok.kind,I.ok.glob,I.ok.blt,I.ok.above,I.ok.inj,I.ok.has,I.ok.cab,I.ok.hd,I.ok.frames,I.ok.stk,I.ok.OH,I.ok.bs,I.ok.EZ,I.ok.Cz,I.ok.CD,I.ok.qU,I.ok.Gy⟩,I.os,I.bare,I.base,I.loc,I.cell,I.free,I.jU,
  fun p hp=>I.pin p ((List.mem_append.mp (show p∈(X.pn++pins)++pins from hp)).elim id fun z=>List.mem_append_right _ z),I.hok,I.len⟩
theorem Inv.DQ(I:Inv (X.tr pl E) pins' σ H s):Inv X pl σ H s:=
 ⟨⟨I.ok.mod,I.ok.kind,I.ok.glob,I.ok.blt,I.ok.above,I.ok.inj,I.ok.has,I.ok.cab,I.ok.hd,I.ok.frames,I.ok.stk,I.ok.OH,I.ok.bs,I.ok.EZ,I.ok.Cz,I.ok.CD,I.ok.qU,I.ok.Gy⟩,I.os,I.bare,I.base,I.loc,I.cell,I.free,I.jU,
  fun p hp=>I.pin p (show p∈(X.pn++pl)++pins' from List.mem_append_left _ hp),I.hok,I.len⟩
theorem SP.DQ{D:Ends}{f:Flow}{s':Shared}(h:SP (X.tr pl E) pins' D f s'):SP X pl D f s':=by
 cases f with
 |next=>obtain⟨σ',H',I,q⟩:=h;exact⟨σ',H',I.DQ,q⟩
 |brk=>obtain⟨σ',H',I,q⟩:=h;exact⟨σ',H',I.DQ,q⟩
 |cont=>obtain⟨σ',H',I,q⟩:=h;exact⟨σ',H',I.DQ,q⟩
 |ret u=>obtain⟨v,σ',H',I,r,q⟩:=h;exact⟨v,σ',H',I.DQ,r,q⟩
theorem Inv.hdl(I:Inv X pins σ H s)(e:s.heap.get? eh=some oh)(n:H eh=none){ws:Array Value}(d:oh.data= .fields ws):Inv (X.hdl eh oh) pins σ H s:=
 ⟨⟨I.ok.mod,I.ok.kind,I.ok.glob,I.ok.blt,I.ok.above,I.ok.inj,I.ok.has,I.ok.cab,(fun z=>nomatch z),I.ok.frames,I.ok.stk,I.ok.OH,I.ok.bs,I.ok.EZ,I.ok.Cz,I.ok.CD,I.ok.qU,I.ok.Gy⟩,I.os,I.bare,I.base,I.loc,I.cell,I.free,I.jU,
  fun p hp=>by
   rcases List.mem_cons.mp (show p∈(eh,oh)::(X.pn++pins)from hp)with z |z
   ·subst z
    refine⟨e,n,fun z=> ?_,fun z=> ?_,fun v q=> ?_⟩
    ·obtain⟨m,⟨o,es,ep,ho,hd,_⟩,_⟩:=I.loc
     have z':eh=X.env.locals:=z
     rw[←z',e]at ho
     cases ho
     rw[d]at hd
     cases hd
    ·obtain⟨_,o,ho,hd⟩:=I.qU.mem z
     rw[show s.heap.get? eh=_ from e]at ho
     cases ho
     exact hd ws d
    ·rw[show oh.data= .fields ws from d]at q
     cases q
   ·exact I.pin p z,I.hok,I.len⟩
theorem Inv.xu(I:Inv (X.hdl eh oh) pins σ H s)(hc:X.calm=true→X.A.handled=none):Inv X pins σ H s:=
 ⟨⟨I.ok.mod,I.ok.kind,I.ok.glob,I.ok.blt,I.ok.above,I.ok.inj,I.ok.has,I.ok.cab,hc,I.ok.frames,I.ok.stk,I.ok.OH,I.ok.bs,I.ok.EZ,I.ok.Cz,I.ok.CD,I.ok.qU,I.ok.Gy⟩,I.os,I.bare,I.base,I.loc,I.cell,I.free,I.jU,
  fun p hp=>I.pin p (List.mem_cons_of_mem _ hp),I.hok,I.len⟩
theorem SP.xu{D:Ends}{f:Flow}{s':Shared}(hc:X.calm=true→X.A.handled=none)(h:SP (X.hdl eh oh) pins D f s'):SP X pins D f s':=by
 cases f with
 |next=>obtain⟨σ',H',I,q⟩:=h;exact⟨σ',H',I.xu hc,q⟩
 |brk=>obtain⟨σ',H',I,q⟩:=h;exact⟨σ',H',I.xu hc,q⟩
 |cont=>obtain⟨σ',H',I,q⟩:=h;exact⟨σ',H',I.xu hc,q⟩
 |ret u=>obtain⟨v,σ',H',I,r,q⟩:=h;exact⟨v,σ',H',I.xu hc,r,q⟩
theorem b9.hdl{Nc:Addr→Prop}{Es:XS}(f:b9 X Nc Es)(hc:X.calm=true→X.A.handled=none):b9 (X.hdl eh oh) Nc Es:=fun pins σ H s a C od cx tb I y q=>
 f pins σ H s a C od cx tb (I.xu hc) ⟨y.ex,y.na,y.ab,y.Sx,fun p hp=>y.pin p (List.mem_cons_of_mem _ hp)⟩ q
theorem Inv.looked{a:Addr}{h':Heap}(I:Inv X pins σ H s)(hst:X.stack=X.env::X.outer)(hfr:X.env.frame=some X.env.locals)(hex:X.ex=[])(na:H a=none)(ab:X.s_0.heap.get? a=none)(pa:∀p∈X.pn++pins,p.1≠a){oe:Obj}{ws:Array Value}
  (ea:s.heap.get? a=some oe) (da:oe.data= .fields ws)
  (kp:∀b o,b∉frs X.stack→b≠a→s.heap.get? b=some o→h'.get? b=some o) (sl:∀b o,b∈frs X.stack→s.heap.get? b=some o→∃sl,h'.get? b=some { o with slots:=sl }):Inv X pins σ H { s with heap:=h' }:=by
 have nl:X.env.locals≠a:=fun z=>by
  obtain⟨m,⟨o,es,ep,ho,hd,_⟩,_⟩:=I.loc
  rw[z,ea]at ho
  cases ho
  rw[da]at hd
  cases hd
 have ncl:∀x c,X.env.cells.lookup x=some c→c≠a:=fun x c e z=>by
  obtain⟨v,o,ho,hd⟩:=I.cell x c e
  rw[z,ea]at ho
  cases ho
  rw[da]at hd
  cases hd
 have up:∀b o,b≠a→s.heap.get? b=some o→∃s1,h'.get? b=some { o with slots:=s1 }:=fun b o nb e=>by
  by_cases hm:b∈frs X.stack
  ·exact sl b o hm e
  ·exact⟨o.slots,kp b o hm nb e⟩
 have hs:∀b o,X.s_0.heap.get? b=some o→b≠a∧b≠X.env.locals:=fun b o e=>
  ⟨(fun z=>by rw[z,ab]at e;cases e),Nat.ne_of_lt (Nat.lt_of_lt_of_le (Heap.lt_size e) I.ok.above)⟩
 have nx:∀b,b∉X.ex:=fun b=>by rw[hex];simp
 have st:∀b,b∉X.fs→b≠X.env.locals→b∉frs X.stack:=fun b h1 h2 z=>(List.mem_cons.mp (I.AJ b z)).elim h2 h1
 have cellK:∀x c,X.env.cells.lookup x=some c→∀v,s.heap.IsCell c v→h'.IsCell c v:=fun x c e v ⟨o,ho,hd⟩=>by
  obtain⟨s1,q⟩:=up c o (ncl x c e) ho
  exact⟨_,q,hd⟩
 refine⟨I.ok,I.os,I.bare,⟨fun b o e n hb hx=> ?_,fun b o e n hb hx=> ?_,I.base.free,fun b o e hx=> ?_,I.base.tups,I.base.u5,I.base.vS⟩,?_,fun x c e=> ?_,I.free,I.jU,fun p hp=> ?_,RZ.hok (C:=a) (od:=none) (cx:=.none) (tb:=none) I na kp,I.len⟩
 ·exact kp b o (st b hb (hs b o e).2) (hs b o e).1 (I.base.keep b o e n hb (nx b))
 ·obtain⟨s1,e1⟩:=I.base.slot b o e n hb (nx b)
  obtain⟨s2,e2⟩:=up b _ (hs b o e).1 e1
  exact⟨s2,e2⟩
 ·obtain⟨o1,e1⟩:=I.base.there b o e (nx b)
  obtain⟨s2,e2⟩:=up b _ (hs b o e).1 e1
  exact⟨_,e2⟩
 ·obtain⟨m,⟨o,es,ep,ho,r⟩,hl⟩:=I.loc
  obtain⟨s1,q⟩:=up _ o nl ho
  refine⟨m,⟨_,es,ep,q,r⟩,fun i x v e1 e2 e3=> ?_⟩
  obtain⟨u,ru,l⟩:=hl i x v e1 e2 e3
  refine⟨u,ru,?_⟩
  rcases l with l |⟨k,c,e,z⟩
  ·exact .inl l
  ·exact .inr ⟨k,c,e,cellK x c e _ z⟩
 ·obtain⟨v,z⟩:=I.cell x c e
  exact⟨v,cellK x c e v z⟩
 ·obtain⟨e,n,ne,nf,d⟩:=I.pin p hp
  exact⟨kp p.1 p.2 (st p.1 nf ne) (pa p hp) e,n,ne,nf,d⟩
end
section
variable{X:Cx}{Nc:Addr→Prop}{Es:XS}{C N fI:Addr}{x:Str}{p np cpos pos hpos:Pos}{k:Nat}{fd:FuncData}{ps:List Str}{sp:Sp}{e:Expr}{es:List Expr}{t:TA}
theorem yY(f:b9 X Nc Es)(hex:X.ex=[])(hc:X.calm=true)(M:RL X.K C N fI)(F:Ck X.prog X.w X.K X.mg X.base nj k fI fd ps sp)(hr:mR (k+1) X.A)(hg:Gl X x)(hm:X.mg x=some (.ref C))(hb:Binds X.K fd ps [])(hps:ps.length≤1000)
  (ha:PA X (e::es) t) (hdb:(x==("__debug__":Str))=false:=by decide) (he:starEach (e::es) X.env=(false,eval e X.env)::starEach es X.env:=by rfl) (hpl:(backTo cpos (starEach es X.env)).any (·.1)=false:=by rfl):
  PS X (.Raise (some (.Call (.Name x np) (e::es) [] cpos)) none pos) (fun _ σ H=>AF C sp Es t σ H):=by
 intro pins s σ H D I h
 rw[arm_exec_Raise]
 refine wpAny_bind (wpAny_standAt ?_)
 obtain⟨mN,XO,_⟩:=kX (h:=X.base) I.ok.mod.MQ M.cls
 show wpAny _ _ (raiseStmt X.env (some (do let v ←eval (.Call (.Name x np) (e::es) [] cpos) X.env;standAt pos;pure v)) none) _ _ s
 refine G1 (C:=C) (N:=N) (mN:=mN) (I.ok.hd hc) (wpAny_bind (cC (O1 hex M F hr hg hm hb hps ha I h hdb he hpl) fun v s1 ⟨a,dx,H',ev,I',xm,na,ab,pa,q⟩=>wpAny_bind (wpAny_standAt (wpAny_pure ?_))))
 obtain⟨t0,e0⟩:=xm.ex
 exact⟨a,some dx,ev,xm,XO.keeps I'.bk,f pins σ H' s1 a C (some dx) .none none I' ⟨⟨_,_,e0,rfl,rfl,rfl,rfl,rfl⟩,na,ab,fun _=>rfl,pa⟩ q⟩
theorem Ed{hd:Addr}{oh:Obj}{ws:Array Value}{j:Nat}{p2:Pos}(f:b9 X Nc Es)(hst:X.stack=X.env::X.outer)(hfr:X.env.frame=some X.env.locals)(hex:X.ex=[])(hh:X.A.handled=some (.ref hd))(hpn:(hd,oh)∈X.pn)(hdt:oh.data= .fields ws)(hcx:ws[2]? =some .none)(hnc:¬Nc C)(M:RL X.K C N fI)(F:Ck X.prog X.w X.K X.mg X.base nj k fI fd ps sp)(hr:mR (k+1) X.A)
  (hg:Gl X x) (hm:X.mg x=some (.ref C)) (hb:Binds X.K fd ps []) (hps:ps.length≤1000)
  (ha:PA X (e::es) t) (hdb:(x==("__debug__":Str))=false:=by decide) (he:starEach (e::es) X.env=(false,eval e X.env)::starEach es X.env:=by rfl) (hpl:(backTo cpos (starEach es X.env)).any (·.1)=false:=by rfl):
  PS X (.Raise (some (.Call (.Name x np) (e::es) [] cpos)) (some (.Constant .none j p2)) pos) (fun _ σ H=>AF C sp Es t σ H):=by
 intro pins s σ H D I h
 rw[arm_exec_Raise]
 refine wpAny_bind (wpAny_standAt ?_)
 obtain⟨mN,XO,_⟩:=kX (h:=X.base) I.ok.mod.MQ M.cls
 show wpAny _ _ (raiseStmt X.env (some (do let v ←eval (.Call (.Name x np) (e::es) [] cpos) X.env;standAt pos;pure v)) (some (do let v ←eval (.Constant .none j p2) X.env;standAt pos;pure v))) _ _ s
 refine G0 (C:=C) (N:=N) (mN:=mN) hh (fun{Q' s'} z=>wpAny_bind (Constant_none (wpAny_bind (wpAny_standAt (wpAny_pure z))))) (wpAny_bind (cC (O1 hex M F hr hg hm hb hps ha I h hdb he hpl) fun v s1 ⟨a,dx,H',ev,I',xm,na,ab,pa,q⟩=>wpAny_bind (wpAny_standAt (wpAny_pure ?_))))
 have ph:=I'.pin (hd,oh) (List.mem_append_left _ hpn)
 have ne:hd≠a:=pa (hd,oh) (List.mem_append_left _ hpn)
 obtain⟨t0,e0⟩:=xm.ex
 refine⟨a,some dx,oh,ws,ev,xm,XO.keeps I'.bk,ph.1,hdt,hcx,ne,fun h' x' kp=> ?_⟩
 have I2:Inv X pins σ H' { s1 with heap:=h' }:=I'.looked hst hfr hex na ab pa e0 rfl (fun b o _ nb z=>kp b o nb z) fun b o hm z=>⟨o.slots,kp b o (fun w=>by
  obtain⟨_,o',ho,hd'⟩:=I'.stack.mem hm
  rw[w,e0]at ho
  cases ho
  exact hd' _ rfl) z⟩
 exact f pins σ H' _ a C (some dx) (.ref hd) none I2 ⟨x',na,ab,fun z=>absurd z hnc,pa⟩ q
def Lc(tb:Ends→TS):TS:=fun D σ H=>tb D D σ H
def S0(C:Addr)(ts:TS)(D:Ends):XS:=fun C' _ σ H=>C'= .ref C∧ts D σ H
theorem Oa{body:List Stmt}{b0:Stmt}{suite:List Stmt}{tb:Ends→TS}{ts:TS}(hst:X.stack=X.env::X.outer)(hfr:X.env.frame=some X.env.locals)(hex:X.ex=[])(hcm:X.calm=true→X.A.handled=none)(hx:DN X.K C N=true)(hg:Gl X x)(hm:X.mg x=some (.ref C))
  (hb:∀D pl xe,PassesOwn (model X.prog X.w) X.A X.env xe→b9 (X.tr pl xe) Nc (S0 C ts D)→CI (X.tr pl xe) body (tb D))
  (hs:∀eh oh ws,oh.data= .fields ws→(Nc C→ws[2]? =some .none)→CI (X.hdl eh oh) (b0::suite) ts)
  (hpo:∀eh,PassesOwnAt (model X.prog X.w) (X.A.mark (some (.ref eh))) X.A X.env X.xe) (hdb:(x==("__debug__":Str))=false:=by decide):
  PS X (.Try body [.ExceptHandler (some (.Name x np)) none (b0::suite) hpos] [] [] pos) (Lc tb):=by
 intro pins s σ H D I h
 refine wpAny_Try_except (wpAny_mono (hb D pins (fun e s1=>wpAny (model X.prog X.w) X.A (noteFrame e X.env) (fun _ s2=>wpAny (model X.prog X.w) X.A (setFlight e none) (fun _ s3=>
  wpAny (model X.prog X.w) X.A (handleBy e X.env [.ExceptHandler (some (.Name x np)) none (b0::suite) hpos]) (SP X pins D) X.xe s3) X.xe s2) X.xe s1) PassesOwn.looking ?_ pins s σ H D (I.tr _) h) (fun fl s1 q=> ?_) fun _ _ z=>z)
 ·intro pins' σ' H' s' a C' od cx tb' J y q
  obtain⟨eC,q⟩:=q
  cases eC
  have J1:Inv X pins σ' H' s':=J.DQ
  have pa:∀p∈X.pn++pins,p.1≠a:=fun p hp=>y.pin p (List.mem_append_left _ hp)
  have fr:X.A.frames=some (X.env::X.outer):=by rw[←hst];exact J1.ok.frames
  have ff:s'.heap.FunFrames X.base (X.env::X.outer):=by rw[←hst];exact J1.stack
  obtain⟨oe0,ws0,e0,_,_,d0,_⟩:=id y.ex
  refine noted fr ff hfr y.ex fun h' T x' sT kp sl=> ?_
  rw[←hst]at kp sl
  have J2:Inv X pins σ' H' { s' with heap:=h' }:=J1.looked hst hfr hex y.na y.ab pa e0 d0 kp sl
  obtain⟨oe,ws,e1,ec,_,d1,c1,_⟩:=id x'
  have J3:Inv (X.hdl a oe) pins σ' H' { s' with heap:=h' }:=J2.hdl e1 y.na d1
  obtain⟨mN,⟨⟨nm,q',bs,sn,sub,ab,col,dd,k0,k1,k2,k3,k5,hC⟩,hN⟩,_⟩:=kX (h:=h') J2.vZ hx
  refine wpAny_handleBy_cons (codeAny_handlers_test ?_) (by intro z;cases z)
  refine k7 (X:=X.hdl a oe) J3 hg hm ?_ hdb
  refine wpAny_excMatches_sub_self hC e1 ec rfl (codeAny_handlers_suite ?_)
  refine landed x' ?_
  refine wpAny_passesOwnAt (hpo a) (cC (hs a oe ws d1 (fun z=>by rw[c1,y.Sx z]) pins _ σ' H' D J3 q) fun fl s2 z=> ?_)
  exact SP.xu hcm z
 ·have q':=SP.DQ q
  cases fl with
  |next=>exact wpAny_execs_nil q'
  |ret v=>exact q'
  |brk=>exact q'
  |cont=>exact q'
end
section
variable{X:Cx}{Nc:Addr→Prop}{Es:XS}{C N fI:Addr}{x n:Str}{p np cpos pos hpos:Pos}{pins:List (Addr×Obj)}{σ:St}{H:Hp}{s:Shared}
theorem Inv.forget{h':Heap}{m':Str→Option Value}{t':Nat}(I:Inv X pins σ H s)(hn:h'.Ns X.env.locals m')(sb:Heap.SameBut X.env.locals s.heap h'):Inv X pins (List.replicate σ.length none) H { s with heap:=h',toks:=t' }:=by
 have neL:∀b o,X.s_0.heap.get? b=some o→b≠X.env.locals:=fun b o e=>Nat.ne_of_lt (Nat.lt_of_lt_of_le (Heap.lt_size e) I.ok.above)
 refine⟨I.ok,I.os,I.bare,⟨fun b o e n hb hx=> ?_,fun b o e n hb hx=> ?_,I.base.free,fun b o e hx=> ?_,I.base.tups,I.base.u5,I.base.vS⟩,⟨m',hn,fun i x v e1 e2 e3=> ?_⟩,fun x c e=> ?_,I.free,I.jU,fun p hp=> ?_,fun b u e=> ?_,?_⟩
 ·exact(sb.2 b (neL b o e)).trans (I.base.keep b o e n hb hx)
 ·obtain⟨sl,e1⟩:=I.base.slot b o e n hb hx
  exact⟨sl,(sb.2 b (neL b o e)).trans e1⟩
 ·obtain⟨o1,e1⟩:=I.base.there b o e hx
  exact⟨o1,(sb.2 b (neL b o e)).trans e1⟩
 ·rw[List.getElem?_replicate]at e2
  split at e2<;>cases e2
 ·obtain⟨v,z⟩:=I.cell x c e
  exact⟨v,z.sameBut sb (I.P7 x c e)⟩
 ·obtain⟨e,n,ne,nf,d⟩:=I.pin p hp
  exact⟨(sb.2 p.1 ne).trans e,n,ne,nf,d⟩
 ·refine(I.hok b u e).stay (fun c v hc q=>(sb.2 c ?_).trans q) (fun _ q=>q) fun _ _ q=>q
  rcases hc with rfl |hc
  ·exact aD e I.free
  ·exact aD hc I.free
 ·rw[List.length_replicate]
  exact I.len
def An(D:Ends):Ends:={ nx:=fun _ _=>False,rt:=D.rt }
end
section
variable{X:Cx}{C N dx eh:Addr}{oh:Obj}{ws:Array Value}{e:Expr}{f:Str}{pos:Pos}{te:TE}
def AG(te:TE)(eh dx:Addr)(f:Str):TE:=fun σ H Q=>te σ H fun v H1=>v= .ref eh∧∃fs y,H1 dx=some (xD dx fs)∧fs.lookup f=some y∧Q y H1
theorem Bn(he:PE X e te)(hpn:(eh,oh)∈X.pn)(hc:oh.cls= .ref C)(hd:oh.data= .fields ws)(hdx:oh.dict=some dx)(hx:DN X.K C N=true)(g1:PySem.W.nsIn X.K N "__getattribute__"=some none)(g2:PySem.W.nsIn X.K N "__getattr__"=some none)
  (g3:PySem.W.nsIn X.K N f=some none) (hB:typeLookup (.type "Exception") f=pure none) (hb:attributeBase e f X.env (eval e X.env)=eval e X.env):PE X (.Attribute e f pos) (AG te eh dx f):=by
 intro pins s σ H Q I h
 refine Jz hb (cC (he pins s σ H _ I h) fun u s1 zz=> ?_)
 obtain⟨v,H1,I1,rv,ev,fs,y,ed,l,q⟩:=zz
 subst ev
 obtain rfl:u=Value.ref eh:=rv
 obtain⟨mA,hA,r,_⟩:=O5 (I1.hok dx _ ed)
 obtain⟨u',hu,ru⟩:=m9.some_of (v:=y) (o:=mA f) (by rw[←l];exact r f)
 obtain⟨mN,⟨⟨nm,q',bs,sn,sub,ab,col,dd,k0,k1,k2,k3,k5,hC⟩,hN⟩,hno,_⟩:=kX I1.vZ hx
 have hp:=(I1.pin (eh,oh) (List.mem_append_left _ hpn)).1
 obtain⟨hh,g,d,tk,os⟩:=s1
 refine R1 hC hN (hno _ g1) (hno _ g2) (hno _ g3) hB hp hc hd hdx hA hu (fun id z=> ?_) ⟨y,H1,I1.tok _,ru,q⟩
 subst z
 cases y with
 |int i=>obtain⟨t,w⟩:=(show ∃t,Value.builtin id=Value.int i t from ru);cases w
 |str i=>obtain⟨t,w⟩:=(show ∃t,Value.builtin id=Value.str i t from ru);cases w
 |Cp i=>obtain⟨t,w⟩:=(show ∃t,Value.builtin id=Value.bytes i t from ru);cases w
 |flt i=>obtain⟨t,w⟩:=(show ∃t,Value.builtin id=Value.float i t from ru);cases w
 |non=>cases (show Value.builtin id=Value.none from ru)
 |bl b=>cases (show Value.builtin id=Value.bool b from ru)
 |ref a=>cases (show Value.builtin id=Value.ref a from ru)
 |ty n=>cases (show Value.builtin id=Value.type n from ru)
end
@[simp] theorem La(i:Nat)(σ:St)(H:Hp)(Q:VK):(vT i σ H Q)=(∃v,σ[i]? =some (some v)∧Q v H):=rfl
@[simp] theorem Q9(v:V)(u0:St)(H:Hp)(Q:VK):(tC v u0 H Q)=(Q v H):=rfl
@[simp] theorem Lv(ta:TE)(σ:St)(H:Hp)(Q:VK):(Q7 ta σ H Q)=(ta σ H fun x H1=>Q (.bl (decide (x= .non))) H1):=rfl
@[simp] theorem HW(ta:TE)(σ:St)(H:Hp)(Q:VK):(Pk ta σ H Q)=(ta σ H fun x H1=>Q (.bl (!decide (x= .non))) H1):=rfl
@[simp] theorem Ra(t:TE)(σ:St)(H:Hp)(Q:Bool→Hp→Prop):(tB t σ H Q)=(t σ H fun x H1=>∃c,x= .bl c∧Q c H1):=rfl
@[simp] theorem LV(t u:TT)(σ:St)(H:Hp)(Q:Bool→Hp→Prop):(Qh t u σ H Q)=(t σ H fun c H1=>if c=true then u σ H1 Q else Q false H1):=rfl
@[simp] theorem Pg(t u:TT)(σ:St)(H:Hp)(Q:Bool→Hp→Prop):(SM t u σ H Q)=(t σ H fun c H1=>if c=true then Q true H1 else u σ H1 Q):=rfl
@[simp] theorem Lj(t:TT)(σ:St)(H:Hp)(Q:Bool→Hp→Prop):(Q6 t σ H Q)=(t σ H fun c H1=>Q (!c) H1):=rfl
@[simp] theorem Ik(ta tb:TE)(σ:St)(H:Hp)(Q:VK):(Px ta tb σ H Q)=(ta σ H fun x H1=>∃c,x= .bl c∧if c=true then tb σ H1 Q else Q (.bl false) H1):=rfl
@[simp] theorem Li(ta tb:TE)(σ:St)(H:Hp)(Q:VK):(Q5 ta tb σ H Q)=(ta σ H fun x H1=>∃c,x= .bl c∧if c=true then Q (.bl true) H1 else tb σ H1 Q):=rfl
@[simp] theorem HV(ta:TE)(σ:St)(H:Hp)(Q:VK):(Pj ta σ H Q)=(ta σ H fun x H1=>∃c,x= .bl c∧Q (.bl (!c)) H1):=rfl
@[simp] theorem Pq(t:TT)(ta tb:TE)(σ:St)(H:Hp)(Q:VK):(S5 t ta tb σ H Q)=(t σ H fun c H1=>if c=true then ta σ H1 Q else tb σ H1 Q):=rfl
@[simp] theorem HZ(D:Ends)(σ:St)(H:Hp):(Ln D σ H)=(D.nx σ H):=rfl
@[simp] theorem Le(t u:TS)(D:Ends)(σ:St)(H:Hp):(NU t u D σ H)=(t { D with nx:=u D } σ H):=rfl
@[simp] theorem Fm(D:Ends)(σ:St)(H:Hp):(Qg D σ H)=(D.bk σ H):=rfl
@[simp] theorem Ih(D:Ends)(σ:St)(H:Hp):(Pt D σ H)=(D.ct σ H):=rfl
@[simp] theorem Ic(te:TE)(D:Ends)(σ:St)(H:Hp):(LC te D σ H)=(te σ H fun _ H1=>D.nx σ H1):=rfl
@[simp] theorem Lf(te:TE)(D:Ends)(σ:St)(H:Hp):(Lg te D σ H)=(te σ H D.rt):=rfl
@[simp] theorem HS(D:Ends)(u1:St)(H:Hp):(Q0 D u1 H)=(D.rt .non H):=rfl
@[simp] theorem Lw(c:TT)(t u:TS)(D:Ends)(σ:St)(H:Hp):(Qc c t u D σ H)=(c σ H fun b H1=>if b=true then t D σ H1 else u D σ H1):=rfl
@[simp] theorem Fe(u0:Ends)(u1:St)(u2:Hp):(Lp u0 u1 u2)=(False):=rfl
@[simp] theorem Jh(i:Nat)(v:V)(σ:St)(H:Hp)(Q:St→Hp→Prop):(BV i v σ H Q)=(Q (σ.set i (some v)) H):=rfl
@[simp] theorem M7(vs:List V)(σ:St)(H:Hp)(Q:St→Hp→Prop):(RG vs σ H Q)=(vs=[]∧Q σ H):=rfl
@[simp] theorem Ji(t:TG)(u:KJ)(vs:List V)(σ:St)(H:Hp)(Q:St→Hp→Prop):(P5 t u vs σ H Q)=(∃v r,vs=v::r∧t v σ H fun σ' H'=>u r σ' H' Q):=rfl
@[simp] theorem M6(K:PySem.W.Frag)(n:Nat)(t:KJ)(v:V)(σ:St)(H:Hp)(Q:St→Hp→Prop):(Ku K n t v σ H Q)=(∃a xs,v= .ref a∧sE K H a xs∧xs.length=n∧t xs σ H Q):=rfl
@[simp] theorem LU(te:TE)(g:TG)(D:Ends)(σ:St)(H:Hp):(NW te g D σ H)=(te σ H fun x H1=>g x σ H1 D.nx):=rfl
@[simp] theorem Lh(i j:Nat)(ta:TA)(D:Ends)(σ:St)(H:Hp):(R5 i j ta D σ H)=(ta σ H fun vs H1=>∃v w,vs=[v,w]∧D.nx ((σ.set i (some v)).set j (some w)) H1):=rfl
@[simp] theorem LR(i:Nat)(te:TE)(ti:RM)(D:Ends)(σ:St)(H:Hp):(Rb i te ti D σ H)=(∃x,σ[i]? =some (some x)∧te σ H fun y H1=>ti x y H1 fun z H2=>D.nx (σ.set i (some z)) H2):=rfl
@[simp] theorem Jd(K:PySem.W.Frag)(tl:TE)(σ:St)(H:Hp)(R:It→Hp→Prop):(Je K tl σ H R)=(tl σ H fun x H1=>∃a,x= .ref a∧(∃xs,bW K H1 a xs)∧R (KN K a) H1):=rfl
@[simp] theorem MY(K:PySem.W.Frag)(tl:TE)(σ:St)(H:Hp)(R:It→Hp→Prop):(OA K tl σ H R)=(tl σ H fun x H1=>∃a,x= .ref a∧(∃xs,sE K H1 a xs)∧R (OY K a) H1):=rfl
@[simp] theorem Jc(ta:TA)(σ:St)(H:Hp)(R:It→Hp→Prop):(RD ta σ H R)=(ta σ H fun vs H1=>∃j:Int,vs=[.int j]∧-(2 ^ 62)≤j∧j<2 ^ 62∧R (RY 0 j.toNat) H1):=rfl
@[simp] theorem Jb(ta:TA)(σ:St)(H:Hp)(R:It→Hp→Prop):(RC ta σ H R)=(ta σ H fun vs H1=>∃i j:Int,vs=[.int i,.int j]∧(-(2 ^ 62)≤i∧i<2 ^ 62∧-(2 ^ 62)≤j∧j<2 ^ 62)∧R (RY i (j - i).toNat) H1):=rfl
@[simp] theorem Ph(r:R2)(ta tb:TE)(σ:St)(H:Hp)(Q:VK):(Qb r ta tb σ H Q)=(ta σ H fun x H1=>tb σ H1 fun y H2=>r x y H2 Q):=rfl
@[simp] theorem O9(r:V→Hp→VK→Prop)(ta:TE)(σ:St)(H:Hp)(Q:VK):(S4 r ta σ H Q)=(ta σ H fun x H1=>r x H1 Q):=rfl
@[simp] theorem Ro(C:Int→Int→Prop)(g:Int→Int→V)(x:V)(y:V)(H:Hp)(Q:VK):(rI C g x y H Q)=(∃i j,x= .int i∧y= .int j∧C i j∧Q (g i j) H):=rfl
@[simp] theorem PN(g:Int→Int→V)(x:V)(y:V)(H:Hp)(Q:VK):(N6 g x y H Q)=(∃i j,x= .int i∧y= .int j∧Q (g i j) H):=rfl
@[simp] theorem Rh(g:Int→V)(x:V)(H:Hp)(Q:VK):(rU g x H Q)=(∃i,x= .int i∧Q (g i) H):=rfl
@[simp] theorem PQ(x:V)(y:V)(H:Hp)(Q:VK):(RW x y H Q)=(GX x y=true∧Q (.bl (decide (x=y))) H):=rfl
@[simp] theorem PF(x:V)(y:V)(H:Hp)(Q:VK):(SR x y H Q)=(GX x y=true∧Q (.bl (!decide (x=y))) H):=rfl
@[simp] theorem HR(t:TE)(σ:St)(H:Hp)(Q:Bool→Hp→Prop):(Fd t σ H Q)=(t σ H fun x H'=>∃k,x= .bl k∧Q k H'):=rfl
@[simp] theorem Fk(r r':R2)(ta tb tc:TE)(σ:St)(H:Hp)(Q:VK):(GN r r' ta tb tc σ H Q)=(ta σ H fun x H1=>tb σ H1 fun y H2=>r x y H2 fun z H3=>∃k,z= .bl k∧
 (if k=true then tc σ H3 fun w' H4=>r' y w' H4 Q else Q (.bl false) H3)):=rfl
@[simp] theorem Lz(K:PySem.W.Frag)(ta:TE)(f:Str)(σ:St)(H:Hp)(Q:VK):(LA K ta f σ H Q)=(ta σ H fun x H1=>∃a C dx fs v,x= .ref a∧H1 a=some (.ins C dx fs)∧Cls K C∧bf K C f∧fs.lookup f=some v∧Q v H1):=rfl
@[simp] theorem LL(K:PySem.W.Frag)(ta:TE)(f:Str)(σ:St)(H:Hp)(Q:VK):(R7 K ta f σ H Q)=(ta σ H fun x H1=>∃a C dx fs v u,x= .ref a∧H1 a=some (.ins C dx fs)∧Cls K C∧S1 K C f v u∧fs.lookup f=none∧Q v H1):=rfl
@[simp] theorem L4(K:PySem.W.Frag)(ta tv:TE)(f:Str)(D:Ends)(σ:St)(H:Hp):(Rc K ta tv f D σ H)=(tv σ H fun y H1=>ta σ H1 fun x H2=>∃a C dx fs,x= .ref a∧H2 a=some (.ins C dx fs)∧Cls K C∧bf K C f∧fs.length<1000∧
 D.nx σ (upd H2 a (.ins C dx (eU f y fs)))):=rfl
@[simp] theorem C6(K:PySem.W.Frag)(ta tv:TE)(rd:V→V→Hp→VK→Prop)(f:Str)(D:Ends)(σ:St)(H:Hp):(Iu K ta tv rd f D σ H)=(ta σ H fun x H1=>∃a C dx fs v,x= .ref a∧H1 a=some (.ins C dx fs)∧Cls K C∧bf K C f∧fs.lookup f=some v∧
 tv σ H1 fun y H2=>rd v y H2 fun z H3=>∃dx' fs',H3 a=some (.ins C dx' fs')∧fs'.length<1000∧D.nx σ (upd H3 a (.ins C dx' (eU f z fs')))):=rfl
@[simp] theorem Mq(x:V)(y:V)(H:Hp)(Q:VK):(Rr x y H Q)=(∃i j,x= .int i∧y= .int j∧Q (.int (i+j)) H):=rfl
@[simp] theorem L8(x:V)(y:V)(H:Hp)(Q:VK):(Se x y H Q)=(∃i j,x= .int i∧y= .int j∧Q (.int (i - j)) H):=rfl
@[simp] theorem Lk(u0:St)(H:Hp)(Q:List V→Hp→Prop):(AI u0 H Q)=(Q [] H):=rfl
@[simp] theorem Ii(ta:TE)(tr:TA)(σ:St)(H:Hp)(Q:List V→Hp→Prop):(oB ta tr σ H Q)=(ta σ H fun x H1=>tr σ H1 fun xs H2=>Q (x::xs) H2):=rfl
@[simp] theorem Lb(t:TA)(σ:St)(H:Hp)(Q:VK):(QZ t σ H Q)=(t σ H fun xs H1=>xs.length≤sizeLine∧∀p,H1 p=none→Q (.ref p) (upd H1 p (.tup xs))):=rfl
@[simp] theorem Ls(t:TA)(σ:St)(H:Hp)(Q:VK):(NV t σ H Q)=(t σ H fun xs H1=>xs.length≤sizeLine∧∀p,H1 p=none→Q (.ref p) (upd H1 p (.lst xs))):=rfl
@[simp] theorem Ij(sp:Sp)(dvs:List V)(E:XK)(t:TA)(σ:St)(H:Hp)(Q:VK):(LO sp dvs E t σ H Q)=(t σ H fun vs H1=>sp (vs++dvs) H1 Q E):=rfl
@[simp] theorem Ia(C:Addr)(m:Str)(sp:Sp)(dvs:List V)(E:XK)(ta:TE)(t:TA)(σ:St)(H:Hp)(Q:VK):(Lq C m sp dvs E ta t σ H Q)=(ta σ H fun x H1=>∃a dx fs,x= .ref a∧H1 a=some (.ins C dx fs)∧fs.lookup m=none∧
 t σ H1 fun vs H2=>sp (x::(vs++dvs)) H2 Q E):=rfl
@[simp] theorem Ib(C:Addr)(sp:Sp)(dvs:List V)(E:XK)(t:TA)(σ:St)(H:Hp)(Q:VK):(Lr C sp dvs E t σ H Q)=(t σ H fun vs H1=>∀x dx,H1 x=none→H1 dx=none→dx≠x→
 sp (.ref x::(vs++dvs)) (upd (upd H1 dx (.own x)) x (.ins C dx [])) (fun v H2=>v= .non∧Q (.ref x) H2) E):=rfl
@[simp] theorem Pu(r:List V→Hp→VK→Prop)(t:TA)(σ:St)(H:Hp)(Q:VK):(R8 r t σ H Q)=(t σ H fun vs H1=>r vs H1 Q):=rfl
@[simp] theorem CU(u0:St)(H:Hp)(Q:Option Int→Hp→Prop):(HY u0 H Q)=(Q none H):=rfl
@[simp] theorem HU(t:TE)(σ:St)(H:Hp)(Q:Option Int→Hp→Prop):(Pb t σ H Q)=(t σ H fun x H1=>∃i,x= .int i∧Q (some i) H1):=rfl
@[simp] theorem Pa(r:V→Option Int→Option Int→Hp→VK→Prop)(te:TE)(tl th:TO)(σ:St)(H:Hp)(Q:VK):(SL r te tl th σ H Q)=(te σ H fun x H1=>tl σ H1 fun l H2=>th σ H2 fun u H3=>r x l u H3 Q):=rfl
@[simp] theorem Mh(K:PySem.W.Frag)(x:V)(y:V)(H:Hp)(Q:VK):(Rn K x y H Q)=(∃p xs i v,x= .ref p∧y= .int i∧bW K H p xs∧KQ xs i=some v∧Q v H):=rfl
@[simp] theorem Mf(K:PySem.W.Frag)(x:V)(y:V)(H:Hp)(Q:VK):(Sg K x y H Q)=(∃p xs i v,x= .ref p∧y= .int i∧sE K H p xs∧KQ xs i=some v∧Q v H):=rfl
@[simp] theorem Mg(x:V)(y:V)(H:Hp)(Q:VK):(Rm x y H Q)=(∃z i c,x= .str z∧y= .int i∧z.length≤sizeLine∧KQ z.cps.toList i=some c∧Q (.str ⟨#[c]⟩) H):=rfl
@[simp] theorem L9(K:PySem.W.Frag)(x:V)(lo:Option Int)(hi:Option Int)(H:Hp)(Q:VK):(Ri K x lo hi H Q)=(∃a xs,x= .ref a∧bW K H a xs∧∀p,H p=none→Q (.ref p) (upd H p (.lst (CG xs lo hi)))):=rfl
@[simp] theorem PJ(K:PySem.W.Frag)(neg:Bool)(x:V)(y:V)(H:Hp)(Q:VK):(SU K neg x y H Q)=(∃p xs,y= .ref p∧(bW K H p xs∨sE K H p xs)∧mK x=true∧xs.all mK=true∧Q (.bl (if neg then !inV x xs else inV x xs)) H):=rfl
@[simp] theorem LQ(K:PySem.W.Frag)(T:String)(r:V→List V→Hp→VK→Prop)(to:TE)(σ:St)(H:Hp)(Q:VK):(R9 K T r to σ H Q)=(to σ H fun x H1=>O6 K T x H1∧r x [] H1 Q):=rfl
@[simp] theorem Pw(K:PySem.W.Frag)(T:String)(r:V→List V→Hp→VK→Prop)(to:TE)(t:TA)(σ:St)(H:Hp)(Q:VK):(Sb K T r to t σ H Q)=(to σ H fun x H1=>O6 K T x H1∧t σ H1 fun xs H2=>r x xs H2 Q):=rfl
@[simp] theorem C8(x:V)(vs:List V)(H:Hp)(Q:VK):(Ec x vs H Q)=(∃l xs y,x= .ref l∧vs=[y]∧H l=some (.lst xs)∧xs.length<sizeLine∧Q .non (upd H l (.lst (xs++[y])))):=rfl
@[simp] theorem C7(x:V)(vs:List V)(H:Hp)(Q:VK):(IA x vs H Q)=(∃l b xs zs,x= .ref l∧vs=[.ref b]∧H l=some (.lst xs)∧H b=some (.lst zs)∧xs.length+zs.length≤sizeLine∧Q .non (upd H l (.lst (xs++zs)))):=rfl
@[simp] theorem Ma(x:V)(vs:List V)(H:Hp)(Q:VK):(Sf x vs H Q)=(∃l xs y,x= .ref l∧vs=[]∧H l=some (.lst xs)∧xs[xs.length - 1]? =some y∧Q y (upd H l (.lst xs.dropLast))):=rfl
@[simp] theorem Mj(x:V)(y:V)(H:Hp)(Q:VK):(Rp x y H Q)=(∃l b xs zs,x= .ref l∧y= .ref b∧H l=some (.lst xs)∧H b=some (.lst zs)∧xs.length+zs.length≤sizeLine∧∀p,H p=none→Q (.ref p) (upd H p (.lst (xs++zs)))):=rfl
@[simp] theorem Ml(K:PySem.W.Frag)(vs:List V)(H:Hp)(Q:VK):(Rq K vs H Q)=(∃(a:Addr)(bs:List Bool),vs=[V.ref a]∧bW K H a (bs.map V.bl)∧Q (.bl (bs.any id)) H):=rfl
@[simp] theorem Mp(K:PySem.W.Frag)(vs:List V)(H:Hp)(Q:VK):(Sh K vs H Q)=(∃(a:Addr)(bs:List Bool),vs=[V.ref a]∧bW K H a (bs.map V.bl)∧Q (.bl (bs.all id)) H):=rfl
@[simp] theorem K9(u0:St)(H:Hp)(Q:Bool→Hp→Prop):(QY u0 H Q)=(Q true H):=rfl
@[simp] theorem Ig(td ty:TE)(σ:St)(H:Hp)(Q:VK):(Pr td ty σ H Q)=(td σ H fun x H1=>ty σ H1 fun y H2=>∃a v,x= .ref a∧kW H2 a y (some v)∧Q v H2):=rfl
@[simp] theorem LJ(ty td:TE)(σ:St)(H:Hp)(Q:VK):(Q8 ty td σ H Q)=(ty σ H fun y H1=>td σ H1 fun x H2=>∃a o,x= .ref a∧kW H2 a y o∧Q (.bl o.isSome) H2):=rfl
@[simp] theorem CV(ty td:TE)(σ:St)(H:Hp)(Q:VK):(Ie ty td σ H Q)=(ty σ H fun y H1=>td σ H1 fun x H2=>∃a o,x= .ref a∧kW H2 a y o∧Q (.bl (!o.isSome)) H2):=rfl
@[simp] theorem Iv(td ty tv:TE)(D:Ends)(σ:St)(H:Hp):(Pz td ty tv D σ H)=(tv σ H fun v H1=>td σ H1 fun x H2=>ty σ H2 fun y H3=>∃a H4,x= .ref a∧CL H3 a y v H4∧D.nx σ H4):=rfl
@[simp] theorem Fh(u0:St)(H:Hp)(Q:VK):(LI u0 H Q)=(∀p,H p=none→Q (.ref p) (upd H p (.dK []))):=rfl
@[simp] theorem Fj(td ty:TE)(σ:St)(H:Hp)(Q:VK):(Qe td ty σ H Q)=(td σ H fun x H1=>∃a,x= .ref a∧QP H1 a∧ty σ H1 fun y H2=>∃o,kW H2 a y o∧Q (o.getD .non) H2):=rfl
@[simp] theorem Fi(td ty tx:TE)(σ:St)(H:Hp)(Q:VK):(LK td ty tx σ H Q)=(td σ H fun x H1=>∃a,x= .ref a∧QP H1 a∧ty σ H1 fun y H2=>tx σ H2 fun z H3=>∃o,kW H3 a y o∧Q (o.getD z) H3):=rfl
@[simp] theorem Pp(r:V→List V→Hp→VK→Prop)(to:TE)(σ:St)(H:Hp)(Q:VK):(SN r to σ H Q)=(to σ H fun x H1=>(∃a,x= .str a)∧r x [] H1 Q):=rfl
@[simp] theorem Pn(r:V→List V→Hp→VK→Prop)(to te:TE)(σ:St)(H:Hp)(Q:VK):(R6 r to te σ H Q)=(to σ H fun x H1=>(∃a,x= .str a)∧te σ H1 fun y H2=>r x [y] H2 Q):=rfl
@[simp] theorem Fl(sp:Sp)(dvs:List V)(Es:XS)(t:TA)(σ:St)(H:Hp)(Q:VK):(LN sp dvs Es t σ H Q)=(t σ H fun vs H1=>sp (vs++dvs) H1 Q (fun C od H'=>Es C od σ H')):=rfl
@[simp] theorem Ff(C:Addr)(m:Str)(sp:Sp)(dvs:List V)(Es:XS)(ta:TE)(t:TA)(σ:St)(H:Hp)(Q:VK):(GK C m sp dvs Es ta t σ H Q)=(ta σ H fun x H1=>∃a dx fs,x= .ref a∧H1 a=some (.ins C dx fs)∧fs.lookup m=none∧
 t σ H1 fun vs H2=>sp (x::(vs++dvs)) H2 Q (fun C od H'=>Es C od σ H')):=rfl
@[simp] theorem C5(Es:XS)(C:Addr)(u0:Ends)(σ:St)(H:Hp):(Ir Es C u0 σ H)=(Es (.ref C) none σ H):=rfl
@[simp] theorem Fu(K:PySem.W.Frag)(ta tv:TE)(f:Str)(D:Ends)(σ:St)(H:Hp):(L1 K ta tv f D σ H)=(tv σ H fun y H1=>ta σ H1 fun x H2=>∃a C,x= .ref a∧H2 a=some (xO a C none)∧QV K C∧bf K C f∧
 ∀dx,H2 dx=none→D.nx σ (upd (upd H2 a (xO a C (some dx))) dx (xD dx [(f,y)]))):=rfl
@[simp] theorem Iq(K:PySem.W.Frag)(ta tv:TE)(f:Str)(D:Ends)(σ:St)(H:Hp):(Py K ta tv f D σ H)=(tv σ H fun y H1=>ta σ H1 fun x H2=>∃a C dx fs,x= .ref a∧H2 a=some (xO a C (some dx))∧H2 dx=some (xD dx fs)∧QV K C∧bf K C f∧fs.length≤1000∧
 D.nx σ (upd H2 dx (xD dx (eU f y fs)))):=rfl
@[simp] theorem HQ(tb:Ends→TS)(D:Ends)(σ:St)(H:Hp):(Lc tb D σ H)=(tb D D σ H):=rfl
@[simp] theorem Fc(te:TE)(eh dx:Addr)(f:Str)(σ:St)(H:Hp)(Q:VK):(AG te eh dx f σ H Q)=(te σ H fun v H1=>v= .ref eh∧∃fs y,H1 dx=some (xD dx fs)∧fs.lookup f=some y∧Q y H1):=rfl
@[simp] theorem Im(N:List Str)(vs:List V):L2.start N vs=vs.map some++List.replicate (N.length - vs.length) none:=rfl
section
variable{X:Cx}{a:Expr}{ta:TE}{pos:Pos}
def Pl(K:PySem.W.Frag)(ta:TE):TE:=fun σ H Q=>ta σ H fun x H1=>∃k,ND K x H1 k∧Q (.bl (!k)) H1
theorem Og(ha:PE X a ta):PE X (.UnaryOp .Not a pos) (Pl X.K ta):=by
 intro pins s σ H Q I h
 refine UnaryOp_ (cC (ha pins s σ H _ I h) fun v s1 zz=> ?_)
 obtain⟨x,H1,I1,r1,k,tk,q1⟩:=zz
 refine not_of (cC (KY pins s1 σ H1 x v (fun b H'=>b=k∧H'=H1) I1 r1 ⟨k,tk,rfl,rfl⟩) fun b s2 zz=> ?_)
 obtain⟨H2,I2,e1,e2⟩:=zz
 subst e1 e2
 exact⟨.bl (!b),H2,I2,rfl,q1⟩
def Mi(K:PySem.W.Frag):V→List V→Hp→VK→Prop:=fun x xs H Q=>∃(a:Addr)(ys:List V)(y:V),x=V.ref a∧xs=[y]∧bW K H a ys∧mK y=true∧ys.all mK=true∧Q (.int ((ys.countP fun z=>Jk z y:Nat))) H
theorem DB{x:V}:∀{xs:List V}{us:List Value},Vals xs us→xs.all mK=true→us.countP (KP x)=xs.countP fun y=>Jk y x
 |_,_,.nil,_=>rfl
 |_,_,.cons r rs,h=>by
  rw[List.all_cons,Bool.and_eq_true]at h
  rw[List.countP_cons,List.countP_cons,DB rs h.2,Ht r h.1]
theorem zq:OX X "list.count" (Mi X.K):=by
 intro pins s σ H x xs v us Q I rx rxs h
 obtain⟨a,ys,y,rfl,rfl,hs,fy,fys,q⟩:=h
 cases rx
 cases rxs with
 |cons ry rt=>
  rename_i uy ut
  cases rt
  obtain⟨its,rv,⟨⟨cls,dd,data,sl⟩,n,ho,hc,hdn,hd⟩,hlen⟩:=I.list hs
  simp only at hc hd
  subst hc hd
  refine call_meets PySem.F.slot_list_count ⟨_,ho,rfl⟩ PySem.F.entry_list_count (PySem.F.args_list_count_2 _ _)
   (SeqAt.list_countAt a its.toArray n dd sl uy (KP y)) ⟨ho,fun u' hu'=>x6 ry fy rv fys u' (by simpa using hu'),?_⟩
  refine⟨.int ((its.countP (KP y):Nat)),H,I.tok _,⟨_,rfl⟩,?_⟩
  rw[DB rv fys]
  exact q
end
section
variable{X:Cx}{pins:List (Addr×Obj)}{σ:St}{H:Hp}{s:Shared}{a:Addr}{A:Around}{E:Value→Shared→Prop}
theorem Nk{kvs:List (Key×V)}{k:Key}{d:V}{u r:Value}{Q:Value→Shared→Prop}(I:Inv X pins σ H s)(e:H a=some (.dK kvs))(hl:kvs.length<sizeLine)(ry:RelV (kV k) u)(rd:RelV d r)
  (h1:∀v w' s',dj kvs k=some v→Inv X pins σ H s'→RelV v w'→Q w' s') (h2:∀s',dj kvs k=none→Inv X pins σ (upd H a (.dK (putK kvs k d))) s'→Q r s'):
  wpAny (model X.prog X.w) A (call (.builtin "dict.setdefault") [.ref a,u,r]) Q E s:=by
 obtain⟨z,hd,vs,rel,dd⟩:=Nf I.hok e
 refine call_meetsIn PySem.F.slot_dict_setdefault dd.typeIs PySem.F.entry_dict_setdefault (PySem.F.args_dict_setdefault_3 _ _ _) (kt_meets_setdefault (dE X.prog X.w) a (BP ry) hd r) ⟨vs,dd,by rw[←rel.length];exact z,fun v hv=> ?_,fun hn h' dd' hs=> ?_⟩
 ·have rv:=rel.val k
  rw[hv]at rv
  cases e2:dj kvs k with
  |none=>rw[e2]at rv;exact False.elim rv
  |some x=>rw[e2]at rv;exact h1 x v _ e2 (I.tok _) rv
 ·have rv:=rel.val k
  rw[hn]at rv
  have e2:dj kvs k=none:=by
   cases e2:dj kvs k with
   |none=>rfl
   |some x=>rw[e2]at rv;exact False.elim rv
  have hl:(putK kvs k d).length≤sizeLine:=by have:=iz kvs k d;omega
  have he:∃q,h'.get? a=some q:=let ⟨q,_,_,hq,_⟩:=dd';⟨q,hq⟩
  exact h2 _ e2 (EG I (by rw[e];exact True.intro) hs he (Ng hl hd (rel.put k rd) dd'))
end
def LD(td ty tx:TE):TE:=fun σ H Q=>td σ H fun x H1=>∃a,x= .ref a∧QP H1 a∧ty σ H1 fun y H2=>tx σ H2 fun z H3=>∃kvs k,H3 a=some (.dK kvs)∧y=kV k∧kvs.length<sizeLine∧
 (∀v,dj kvs k=some v→Q v H3)∧(dj kvs k=none→Q z (upd H3 a (.dK (putK kvs k z))))
theorem Mw{X:Cx}{o e f:Expr}{apos cpos:Pos}{td ty tx:TE}(ho:PE X o td)(he:PE X e ty)(hf:PE X f tx)(m:M2 X o "setdefault" apos e f cpos):PE X (.Call (.Attribute o "setdefault" apos) [e,f] [] cpos) (LD td ty tx):=by
 intro pins s σ H Q I h
 refine wpAny_Call_method m.base m.few m.line PySem.F.plainAttrs_dict PySem.F.slot_dict_setdefault PySem.F.type_dict_setdefault (cC (ho pins s σ H _ I h) fun u s1 zz=> ?_)
 obtain⟨x,H1,I1,rx,a,ex,d,q1⟩:=zz
 subst ex
 obtain rfl:u=Value.ref a:=rx
 obtain⟨t1,t2,_⟩:=MU I1 d
 refine⟨t1,t2,?_⟩
 rw[m.trees]
 refine Calls.callWith_builtin rfl (Calls.evalArgs_plain (Calls.spliced_cons (cC (he pins s1 σ H1 _ I1 q1) fun iv s2 ⟨y,H2,I2,ry,q2⟩=>
  Calls.spliced_cons (cC (hf pins s2 σ H2 _ I2 q2) fun fv s3 ⟨z,H3,I3,rz,kvs,k,e3,ey,hl,qa,qb⟩=>Calls.spliced_nil ?_))))
 subst ey
 exact Nk I3 e3 hl ry rz (fun v w' s' hv I' rw'=>⟨v,H3,I',rw',qa v hv⟩) (fun s' hn I'=>⟨z,_,I',rz,qb hn⟩)
section
variable{X:Cx}{K:PySem.W.Frag}
def Rk(K:PySem.W.Frag):List V→Hp→VK→Prop:=fun xs H Q=>∃x n,xs=[x]∧pJ K x H n∧Q (.int n) H
theorem a8(h:X.K=K):wu X (.builtin "len") (Rk K):=by subst h;exact Np
theorem xR{e:Expr}{f:Str}{pos:Pos}{ta:TE}(h:X.K=K)(he:PE X e ta)(hb:attributeBase e f X.env (eval e X.env)=eval e X.env):PE X (.Attribute e f pos) (LA K ta f):=by subst h;exact aM he hb
theorem Oe{es:List Expr}{k:Nat}{t:KJ}{n:Nat}{pos:Pos}(h:X.K=K)(hc:X.calm=true)(hp:RO X es t)
  (hn:(assignEach es X.env).length=n:=by rfl) (hst:(assignEach es X.env).findIdx? (·.1)=none:=by rfl):PG X (.Tuple es k pos) (Ku K n t):=by subst h;exact Eg hc hp hn hst
theorem pE(N:List Str)(sc:Scope)(own:List (Str×Nat)){scope:Scope}(h:QM N sc scope own=true):DM N sc scope own:=Ny h
end
@[simp] theorem Md(K:PySem.W.Frag)(xs:List V)(H:Hp)(Q:VK):(Rk K xs H Q)=(∃x n,xs=[x]∧pJ K x H n∧Q (.int n) H):=rfl
@[simp] theorem HX(K:PySem.W.Frag)(ta:TE)(σ:St)(H:Hp)(Q:VK):(Pl K ta σ H Q)=(ta σ H fun x H1=>∃k,ND K x H1 k∧Q (.bl (!k)) H1):=rfl
@[simp] theorem FA(K:PySem.W.Frag)(x:V)(xs:List V)(H:Hp)(Q:VK):(Mi K x xs H Q)=(∃(a:Addr)(ys:List V)(y:V),x=V.ref a∧xs=[y]∧bW K H a ys∧mK y=true∧ys.all mK=true∧Q (.int ((ys.countP fun z=>Jk z y:Nat))) H):=rfl
@[simp] theorem Fg(td ty tx:TE)(σ:St)(H:Hp)(Q:VK):(LD td ty tx σ H Q)=(td σ H fun x H1=>∃a,x= .ref a∧QP H1 a∧ty σ H1 fun y H2=>tx σ H2 fun z H3=>∃kvs k,H3 a=some (.dK kvs)∧y=kV k∧kvs.length<sizeLine∧
 (∀v,dj kvs k=some v→Q v H3)∧(dj kvs k=none→Q z (upd H3 a (.dK (putK kvs k z))))):=rfl
section
variable{M:Model}{A:Around}{E:Value→Shared→Prop}
theorem zA{h:Heap}{g:Array GenState}{d:Drawn}{t:Nat}{os:OsState}{e C C2 N N2:Addr}{oe:Obj}{Q:Bool→Shared→Prop}{nm q:Str}{bs bm:List Value}{hdct:Bool}{sn:List Str}{sub:List Value}{ab:Bool}{col:Option Bool}{dd:Option Addr}{k0 k1 k2 k3 k5:Option Value}{newId:String}
  {nm' q':Str} {bs' bm':List Value} {hdct':Bool} {sn':List Str} {sub':List Value} {ab':Bool} {col':Option Bool} {dd':Option Addr} {k0' k1' k2' k3' k5':Option Value} {newId':String}
  (hC:h.get? C=some (excClassObj nm q C N bs bm hdct sn sub ab col dd k0 k1 k2 k3 k5 newId)) (hC2:h.get? C2=some (excClassObj nm' q' C2 N2 bs' bm' hdct' sn' sub' ab' col' dd' k0' k1' k2' k3' k5' newId'))
  (he:h.get? e=some oe) (hcls:oe.cls= .ref C) (hbase:bm'.contains (.type "BaseException")=true) (hn:(Value.ref C::bm).contains (.ref C2)=false)
  (hq:Q false ⟨h,g,d,t,os⟩):wpAny M A (excMatches (.ref e) (.ref C2)) Q E ⟨h,g,d,t,os⟩:=by
 have hcB:(Value.ref C2::bm').contains (.type "BaseException")=true:=by rw[List.contains_cons,hbase,Bool.or_true]
 have f:=tc_notTuple
 unfold excMatches
 repeat (first |(with_reducible refine wpAny_loadPart_at he ?_;rw[hcls])|with_reducible refine wpAny_loadPart_at hC2 ?_ |(with_reducible refine wpAny_isSubtype_exc hC2 ?_;rw[hcB])|(with_reducible refine wpAny_isSubtype_exc hC ?_;rw[hn])|wp_step)
 exact hq
end
abbrev TH:=Ends→Addr→Addr→Option Addr→L2.St→Hp→Prop
def PH(X:Cx)(hs:List ExceptHandler)(th:TH):Prop:=
 ∀(pins:List (Addr×Obj))(σ:L2.St)(H:Hp)(s:Shared)(D:Ends)(a C N:Addr)(od:Option Addr)(cx:Value)(T:Addr),Inv X pins σ H s→Exc s.heap a (.ref C) od cx (some T)→H a=none→DN X.K C N=true→th D a C od σ H→
  wpAny (model X.prog X.w) X.A (handleBy (.ref a) X.env hs) (SP X pins D) X.xe s
section
variable{X:Cx}{Nc:Addr→Prop}{C N:Addr}{x n:Str}{np pos hpos:Pos}{rest:List ExceptHandler}{thr:TH}{b0:Stmt}{suite:List Stmt}
theorem Qn:PH X [] (fun _ _ _ _ _ _=>False):=fun _ _ _ _ _ _ _ _ _ _ _ _ _ _ _ z=>False.elim z
theorem FJ{pins:List (Addr×Obj)}{σ:L2.St}{H:Hp}{s:Shared}{a C' N':Addr}{od:Option Addr}{cx:Value}{T:Addr}{Q:Bool→Shared→Prop}{E:Value→Shared→Prop}{A:Around}(I:Inv X pins σ H s)(x':Exc s.heap a (.ref C') od cx (some T))(hx:DN X.K C N=true)(hx':DN X.K C' N'=true)(hne:C'≠C)(hq:Q false s):
  wpAny (model X.prog X.w) A (excMatches (.ref a) (.ref C)) Q E s:=by
 obtain⟨oe,ws,e1,ec,_⟩:=x'
 obtain⟨mN,⟨⟨nm,q',bs,sn,sub,ab,col,dd,k0,k1,k2,k3,k5,hC⟩,hN⟩,_⟩:=kX I.vZ hx
 obtain⟨mN',⟨⟨nm',q'',bs',sn',sub',ab',col',dd',k0',k1',k2',k3',k5',hC'⟩,hN'⟩,_⟩:=kX I.vZ hx'
 obtain⟨h,g,d,t,os⟩:=s
 refine zA hC' hC e1 ec rfl ?_ hq
 have:¬(Value.ref C'=Value.ref C):=fun z=>hne (by injection z)
 simp[List.contains_cons,Nw,hne.symm]
theorem Bm{ts:TS}(hcm:X.calm=true→X.A.handled=none)(hx:DN X.K C N=true)(hg:Gl X x)(hm:X.mg x=some (.ref C))(hs:∀eh oh ws,oh.data= .fields ws→CI (X.hdl eh oh).PY (b0::suite) ts)(hr:PH X rest thr)(hdb:(x==("__debug__":Str))=false:=by decide):
  PH X (.ExceptHandler (some (.Name x np)) none (b0::suite) hpos::rest) (fun D a C' od σ H=>(C'=C→ts (An D) σ H)∧(C'≠C→thr D a C' od σ H)):=by
 intro pins σ H s D a C' N' od cx T I x' na hx' q
 obtain⟨oe,ws,e1,ec,eo,d1,c1,_⟩:=id x'
 have J3:Inv (X.hdl a oe) pins σ H s:=I.hdl e1 na d1
 refine wpAny_handleBy_cons (codeAny_handlers_test ?_) (by intro z;cases z)
 refine k7 (X:=X.hdl a oe) J3 hg hm ?_ hdb
 by_cases c:C'=C
 ·subst c
  obtain⟨mN,⟨⟨nm,q',bs,sn,sub,ab,col,dd,k0,k1,k2,k3,k5,hC⟩,hN⟩,_⟩:=kX I.vZ hx
  obtain⟨h,g,d,t,os⟩:=s
  refine wpAny_excMatches_sub_self hC e1 ec rfl (codeAny_handlers_suite ?_)
  refine landed x' ?_
  refine wpAny_mono (hs a oe ws d1 pins _ σ H (An D) (J3.wish _) (q.1 rfl)) (fun fl s5 z=> ?_) fun _ _ z=>False.elim z
  have z':=SP.xu hcm (SP.qC z)
  cases fl with
  |next=>obtain⟨_,_,_,z⟩:=z';exact False.elim z
  |brk=>obtain⟨_,_,_,z⟩:=z';exact False.elim z
  |cont=>obtain⟨_,_,_,z⟩:=z';exact False.elim z
  |ret u=>exact z'
 ·exact FJ I x' hx hx' c (hr pins σ H s D a C' N' od cx T I x' na hx' (q.2 c))
theorem FK{i:Nat}{ts:Addr→Option Addr→TS}(hcm:X.calm=true→X.A.handled=none)(hx:DN X.K C N=true)(hg:Gl X x)(hm:X.mg x=some (.ref C))(hNd:X.N.Nodup)(hi:X.N[i]? =some n)(hl:X.env.scope.names.lookup n=some .local)
  (hs:∀eh oh ws,oh.data= .fields ws→oh.cls= .ref C→CI (X.hdl eh oh).PY (b0::suite) (ts eh oh.dict)) (hr:PH X rest thr) (hdb:(x==("__debug__":Str))=false:=by decide):
  PH X (.ExceptHandler (some (.Name x np)) (some n) (b0::suite) hpos::rest) (fun D a C' od σ H=>(C'=C→ts a od (An D) (σ.set i (some (.ref a))) H)∧(C'≠C→thr D a C' od σ H)):=by
 intro pins σ H s D a C' N' od cx T I x' na hx' q
 obtain⟨oe,ws,e1,ec,eo,d1,c1,_⟩:=id x'
 have J3:Inv (X.hdl a oe) pins σ H s:=I.hdl e1 na d1
 refine wpAny_handleBy_cons (codeAny_handlers_test ?_) (by intro z;cases z)
 refine k7 (X:=X.hdl a oe) J3 hg hm ?_ hdb
 by_cases c:C'=C
 ·subst c
  obtain⟨mN,⟨⟨nm,q',bs,sn,sub,ab,col,dd,k0,k1,k2,k3,k5,hC⟩,hN⟩,_⟩:=kX I.vZ hx
  obtain⟨h,g,d,t,os⟩:=s
  refine wpAny_excMatches_sub_self hC e1 ec rfl (codeAny_handlers_suite_as ?_)
  refine landed x' ?_
  refine xB (X:=X.hdl a oe) J3 hNd hi (.inl hl) (v:=.ref a) rfl (fun s4 J4=> ?_) (.inr hl)
  have qa:=q.1 rfl
  rw[←eo]at qa
  refine wpAny_mono (hs a oe ws d1 ec pins s4 _ H (An D) (J4.wish _) qa) (fun fl s5 z=> ?_) fun _ _ z=>False.elim z
  have z':=SP.xu hcm (SP.qC z)
  cases fl with
  |next=>obtain⟨_,_,_,z⟩:=z';exact False.elim z
  |brk=>obtain⟨_,_,_,z⟩:=z';exact False.elim z
  |cont=>obtain⟨_,_,_,z⟩:=z';exact False.elim z
  |ret u=>
   obtain⟨v,σ5,H5,J5,r5,q5⟩:=z'
   obtain⟨m5,n5,_⟩:=id J5.loc
   refine wpAny_nameGoes hl n5 (by rw[J5.ok.kind];rfl) fun h6 m6 n6 sb6=> ?_
   exact⟨v,_,H5,J5.forget n6 sb6,r5,q5⟩
 ·exact FJ I x' hx hx' c (hr pins σ H s D a C' N' od cx T I x' na hx' (q.2 c))
def Tp(K:PySem.W.Frag)(th:TH)(D:Ends):XS:=fun C' od σ H=>∃C N,C'= .ref C∧DN K C N=true∧∀eh,th D eh C od σ H
theorem N9{body:List Stmt}{hs:List ExceptHandler}{tb:Ends→TS}{th:TH}(hst:X.stack=X.env::X.outer)(hfr:X.env.frame=some X.env.locals)(hex:X.ex=[])
  (hb:∀D pl xe,PassesOwn (model X.prog X.w) X.A X.env xe→b9 (X.tr pl xe) Nc (Tp X.K th D)→CI (X.tr pl xe) body (tb D)) (hh:PH X hs th) (hne:hs≠[]):
  PS X (.Try body hs [] [] pos) (Lc tb):=by
 obtain⟨h0,hr,rfl⟩:∃h0 hr,hs=h0::hr:=by
  cases hs with
  |nil=>exact absurd rfl hne
  |cons a b=>exact⟨a,b,rfl⟩
 intro pins s σ H D I h
 refine wpAny_Try_except (wpAny_mono (hb D pins (fun e s1=>wpAny (model X.prog X.w) X.A (noteFrame e X.env) (fun _ s2=>wpAny (model X.prog X.w) X.A (setFlight e none) (fun _ s3=>
  wpAny (model X.prog X.w) X.A (handleBy e X.env (h0::hr)) (SP X pins D) X.xe s3) X.xe s2) X.xe s1) PassesOwn.looking ?_ pins s σ H D (I.tr _) h) (fun fl s1 q=> ?_) fun _ _ z=>z)
 ·intro pins' σ' H' s' a C' od cx tb' J y q
  obtain⟨C2,N2,eC,hx2,q⟩:=q
  cases eC
  have J1:Inv X pins σ' H' s':=J.DQ
  have pa:∀p∈X.pn++pins,p.1≠a:=fun p hp=>y.pin p (List.mem_append_left _ hp)
  have fr:X.A.frames=some (X.env::X.outer):=by rw[←hst];exact J1.ok.frames
  have ff:s'.heap.FunFrames X.base (X.env::X.outer):=by rw[←hst];exact J1.stack
  obtain⟨oe0,ws0,e0,_,_,d0,_⟩:=id y.ex
  refine noted fr ff hfr y.ex fun h' T x' sT kp sl=> ?_
  rw[←hst]at kp sl
  have J2:Inv X pins σ' H' { s' with heap:=h' }:=J1.looked hst hfr hex y.na y.ab pa e0 d0 kp sl
  exact hh pins σ' H' _ D a _ N2 od cx T J2 x' y.na hx2 (q a)
 ·have q':=SP.DQ q
  cases fl with
  |next=>exact wpAny_execs_nil q'
  |ret v=>exact q'
  |brk=>exact q'
  |cont=>exact q'
end
abbrev OV:=Bool×Int×Int
def b2i(b:Bool):Int:=if b then 1 else 0
def AA(k:OV):List (Int ⊕ List Nat):=[.inl (b2i k.1),.inl k.2.1,.inl k.2.2]
def z0(k:OV):List V:=[.bl k.1,.int k.2.1,.int k.2.2]
def E9(x y:OV):Bool:=lexLt itemOrd (AA x) (AA y)
def HN:List Value→Option (List (Int ⊕ List Nat))
 |[.bool b,.int n _,.int m _]=>some (AA (b,n,m))
 |_=>none
theorem Az{l:List Value}{r:List (Int ⊕ List Nat)}(h:HN l=some r):∃b n t m u,l=[.bool b,.int n t,.int m u]∧r=AA (b,n,m):=by
 unfold HN at h
 split at h
 ·exact⟨_,_,_,_,_,rfl,(Option.some.inj h).symm⟩
 ·cases h
def wB(h:Heap):Value→Option (List (Int ⊕ List Nat))
 | .ref a=>match h.get? a with
  |some o=>match o.data with
   | .seq xs _=>HN xs.toList
   |_=>none
  |none=>none
 |_=>none
@[reducible] def vD(h:Heap):KeyKind where
 toKeyOrd:=listOrd itemOrd
 keyOf:=wB h
 dflt:=[]
theorem zI{h:Heap}{v:Value}{l:List (Int ⊕ List Nat)}(hv:wB h v=some l):∃a o xs n,v= .ref a∧h.get? a=some o∧o.data= .seq xs n∧HN xs.toList=some l:=by
 cases v with
 |ref a=>
  simp only[wB]at hv
  cases ho:h.get? a with
  |none=>rw[ho]at hv;exact absurd hv (by simp)
  |some o=>
   rw[ho]at hv
   cases hd:o.data with
   |seq xs n=>
    simp only[hd]at hv
    exact⟨a,o,xs,n,rfl,ho,hd,hv⟩
   |_=>simp[hd]at hv
 |_=>simp[wB]at hv
section
variable{prog:Program}{w:World}{A:Around}{E:Value→Shared→Prop}{s:Shared}
theorem G9{a b:Bool}{Q:Bool→Shared→Prop}(h:Q (decide (b2i a<b2i b)) s):wpAny (model prog w) A (oneLt' true (.bool a) (.bool b)) Q E s:=by
 rw[oneLt'_eq]
 simp only[if_true]
 refine wpAny_bind (wpAny_cRoomFor_byValue rfl ?_)
 refine wpAny_bind (wpAny_callSpecialIfBound?_slot (PySem.typeIs_bool s a) PySem.F.slot_bool_lt ?_)
 refine wpAny_call_entry PySem.F.slot_bool_lt (PySem.typeIs_bool s a) entry_int_lt ?_ (args_int_lt _ _)
 have e:Builtin.«int.__lt__» ⟨[.bool a,.bool b],[]⟩=ret (.bool (decide (b2i a<b2i b))):=by
  cases a<;>cases b<;>rfl
 rw[e]
 exact wpAny_pure ⟨_,rfl,wpAny_truthy_bool h⟩
theorem KZ:PyProof.Rows.G.LtAt prog w s (vD s.heap) (tuples' true):=by
 intro A E x y as bs Q hx hy hq
 obtain⟨a₁,o₁,xs,n,rfl,ho₁,hd₁,hi₁⟩:=zI hx
 obtain⟨a₂,o₂,ys,k,rfl,ho₂,hd₂,hi₂⟩:=zI hy
 obtain⟨b,n1,t1,m1,u1,ex,rfl⟩:=Az hi₁
 obtain⟨c,n2,t2,m2,u2,ey,rfl⟩:=Az hi₂
 have z1:xs.size=3:=by rw[←Array.length_toList,ex];rfl
 have z2:ys.size=3:=by rw[←Array.length_toList,ey];rfl
 have hq:Q (lexLt itemOrd (AA (b,n1,m1)) (AA (c,n2,m2))) s:=hq
 refine PySem.W.kat_lt ho₁ hd₁ ho₂ hd₂ ?_
 rw[ex,ey,z1,z2]
 refine PySem.W.kat_cons (PySem.SeqAt.EqAt.bool_bool b c prog w _ _ ?_)
 refine PySem.W.kat_go (fun e=>PySem.W.kat_yes ?_) (fun e=>PySem.W.kat_no ?_)
 ·have hb:b=c:=by simpa using e
  subst hb
  unfold AA at hq
  rw[lex_self]at hq
  refine PySem.W.kat_cons (wpAny_eqBool_int ?_)
  refine PySem.W.kat_go (fun e=>PySem.W.kat_yes ?_) (fun e=>PySem.W.kat_no ?_)
  ·have hnm:n1=n2:=by simpa using e
   subst hnm
   rw[lex_self]at hq
   refine PySem.W.kat_cons (wpAny_eqBool_int ?_)
   refine PySem.W.kat_go (fun e=>PySem.W.kat_yes ?_) (fun e=>PySem.W.kat_no ?_)
   ·have hnm:m1=m2:=by simpa using e
    subst hnm
    rw[lex_self]at hq
    exact PySem.W.kat_nil hq
   ·have hnm:¬m1=m2:=by simpa using e
    rw[lex_diff (fun x=>hnm (Sum.inl.inj x))]at hq
    exact oneLt_any_int hq
  ·have hnm:¬n1=n2:=by simpa using e
   rw[lex_diff (fun x=>hnm (Sum.inl.inj x))]at hq
   exact oneLt_any_int hq
 ·have hb:¬b=c:=by simpa using e
  unfold AA at hq
  rw[lex_diff (fun x=>hb (by have:=Sum.inl.inj x;revert this;cases b<;>cases c<;>simp[b2i]))]at hq
  exact G9 hq
theorem Dc{α β:Type}{f:α→β}:∀{l m:List β},l.Perm m→∀Z:List α,m=Z.map f→∃Z':List α,Z'.Perm Z∧l=Z'.map f:=by
 intro l m h
 induction h with
 |nil=>intro Z e;refine⟨[],?_,rfl⟩;cases Z with |nil=>exact .refl _ |cons _ _=>cases e
 |cons x h ih=>
  intro Z e
  cases Z with
  |nil=>cases e
  |cons z Z=>
   rw[List.map_cons]at e
   obtain⟨e1,e2⟩:=List.cons.inj e
   obtain⟨Z',p,q⟩:=ih Z e2
   exact⟨z::Z',p.cons z,by rw[List.map_cons,←q,e1]⟩
 |swap x y l=>
  intro Z e
  cases Z with
  |nil=>cases e
  |cons z Z=>
   cases Z with
   |nil=>cases e
   |cons z2 Z=>
    rw[List.map_cons,List.map_cons]at e
    obtain⟨e1,e2⟩:=List.cons.inj e
    obtain⟨e3,e4⟩:=List.cons.inj e2
    exact⟨z2::z::Z,.swap z z2 Z,by rw[List.map_cons,List.map_cons,←e1,←e3,←e4]⟩
 |trans h1 h2 ih1 ih2=>
  intro Z e
  obtain⟨Z2,p2,q2⟩:=ih2 Z e
  obtain⟨Z1,p1,q1⟩:=ih1 Z2 q2
  exact⟨Z1,p1.trans p2,q1⟩
end
section
variable{X:Cx}{pins:List (Addr×Obj)}{σ:St}{H:Hp}{s:Shared}{k:Nat}{f:Addr}{fd:FuncData}{ps:List Str}{sp:Sp}{l:Addr}{Q:VK}
abbrev Kept(H H':Hp):Prop:=∀b o,H b=some o→H' b=some o
abbrev P8(a:Addr)(e:Nat):HO:=.ext fun h=>h.get? a=some (seqObj "list" #[] e)
def RR(X:Cx)(pins:List (Addr×Obj))(σ:St)(H:Hp)(a kS:Addr)(e1:Nat)(xs:List V)(g:V→OV)(i:Nat)(s':Shared):Prop:=
 ∃(H':Hp)(ts:List Addr),Inv X pins σ H' s'∧Kept H H'∧H' a=some (P8 a e1)∧H' kS=some (.lst (ts.map V.ref))∧ts.length=i∧∀(j:Nat)(t:Addr)(x:V),ts[j]? =some t→xs[j]? =some x→H' t=some (.tup (z0 (g x)))
theorem Iy:∀{ts:List Addr}{its:List Value},Vals (ts.map V.ref) its→its=ts.map Value.ref
 |[],_,r=>by cases r;rfl
 |t::ts,_,r=>by
  cases r with
  |cons h r=>
   rw[Iy r]
   have h:_=Value.ref t:=h
   rw[h]
   rfl
theorem E6{α:Type}{p:α→V}{q:α→Value}:∀{Z:List α},(∀z∈Z,RelV (p z) (q z))→Vals (Z.map p) (Z.map q)
 |[],_=>.nil
 |z::Z,h=>.cons (h z (.head _)) (E6 fun y hy=>h y (.tail _ hy))
theorem GU{H':Hp}{A:Around}{E:Value→Shared→Prop}{P:PySem.Fin→Shared→Prop}{a kS:Addr}{e1:Nat}{ts:List Addr}{ys:List V}{st:SortSt}(I:Inv X pins σ H' s)(hk:Kept H H')(ha:H' a=some (P8 a e1))(hS:H' kS=some (.lst (ts.map V.ref)))(hfl:failedOf st=none)
  {out:Array Value} (hO:((arrOf st).map (·.2)).reverse=out) (hv:Vals ys out.toList) (hz:ys.length≤sizeLine) (hka:kS≠a) (h0:H kS=none) (h1:H a=none)
  (h:∀H2 s2,Inv X pins σ H2 s2→Kept H H2→H2 a=some (.lst ys)→P (.done (.ret .none)) s2):wpAny (model X.prog X.w) A (ksk_tail a true e1 (.ref kS) st) P E s:=by
 obtain⟨za,_,_⟩:=I.hok a _ ha
 obtain⟨zk,its,n,rv,hob⟩:=I.hok kS _ hS
 have hob:s.heap.get? kS=some (seqObj "list" its.toArray n):=hob
 have za:s.heap.get? a=some (seqObj "list" #[] e1):=za
 have hl:=rv.length
 have s1:=Heap.SameBut.update s.heap kS (Obj.mapSeq fun _=>(#[]:Array Value))
 obtain⟨ck,hck⟩:∃ck,(s.heap.update kS (Obj.mapSeq fun _=>(#[]:Array Value))).get? kS=some (seqObj "list" #[] ck):=⟨_,get?_update_seq hob fun _=> #[]⟩
 have I1:Inv X pins σ (upd H' kS (.lst [])) { s with heap:=s.heap.update kS (Obj.mapSeq fun _=>(#[]:Array Value)) }:=
  I.write (t':=s.toks) (by rw[hS];trivial) (.inl rfl) (fun b u hb q=>(s1.2 b hb).trans q) ⟨_,hck⟩ ⟨Nat.zero_le _,[],ck,.nil,hck⟩
 have ha1:(s.heap.update kS (Obj.mapSeq fun _=>(#[]:Array Value))).get? a=some (seqObj "list" #[] e1):=(s1.2 a hka.symm).trans za
 have s2:=Heap.SameBut.update (s.heap.update kS (Obj.mapSeq fun _=>(#[]:Array Value))) a (Obj.mapSeq fun _=>out)
 obtain⟨c2,hc2⟩:∃c2,((s.heap.update kS (Obj.mapSeq fun _=>(#[]:Array Value))).update a (Obj.mapSeq fun _=>out)).get? a=some (seqObj "list" out c2):=
  ⟨_,get?_update_seq ha1 (fun _=>out)⟩
 have hout:out.size≤sizeLine:=by rw[←Array.length_toList,←hv.length];exact hz
 have et:ksk_tail a true e1 (.ref kS) st=(do
   Builtin.List.listUpdate (.ref kS) fun _=> #[]
   letGo ((arrOf st).map (·.1)).toList (failedOf st).toList
   let touched:=(←seqEpoch a) != e1
   Builtin.List.listUpdate (.ref a) fun _=>out
   if let some e:=failedOf st then rule "list.sort.comparison-raised";throw e
   if touched then rule "list.sort.modified";raiseError "ValueError" "list modified during sort"
   ret .none):=by rw[←hO];rfl
 rw[et]
 refine wpAny_bind (listUpdate_at hob rfl ?_ (by rw[List.size_toArray,←hl];exact zk) (Nat.zero_le _))
 refine wpAny_bind (wpAny_letGo ?_)
 refine wpAny_bind (seqEpoch_at ha1 rfl ?_)
 refine wpAny_bind (listUpdate_at ha1 rfl ?_ (Nat.zero_le _) (Nat.le_trans hout (Nat.le_succ _)))
 rw[hfl]
 simp only[bne_self_eq_false,Bool.false_eq_true,if_false,if_true]
 have I2:Inv X pins σ (upd (upd H' kS (.lst [])) a (.lst ys)) { s with heap:=(s.heap.update kS (Obj.mapSeq fun _=>(#[]:Array Value))).update a (Obj.mapSeq fun _=>out) }:=
  I1.write (t':=s.toks) (by rw[aq hka.symm,ha];trivial) (.inl rfl) (fun b u hb q=>(s2.2 b hb).trans q) ⟨_,hc2⟩ ⟨hz,out.toList,c2,hv,by rw[Array.toArray_toList];exact hc2⟩
 refine wpAny_pure (h _ _ I2 (fun b o e=> ?_) aj)
 rw[aq (fun z=>by rw[z,h1]at e;cases e),aq (fun z=>by rw[z,h0]at e;cases e)]
 exact hk b o e
theorem yL{H':Hp}(I:Inv X pins σ H' s){t:Addr}{q:OV}(h:H' t=some (.tup (z0 q))):wB s.heap (.ref t)=some (AA q)∧∃o xs n f,s.heap.get? t=some o∧o.cls= .type "tuple"∧o.data= .seq xs n∧xs[0]? =some (.bool f):=by
 obtain⟨z,us,r,o,ho,hc,n,hd⟩:=I.hok t _ h
 obtain⟨b,i,j⟩:=q
 cases r with
 |cons h1 r=>
  cases r with
  |cons h2 r=>
   cases r with
   |cons h3 r=>
    cases r
    obtain⟨t2,rfl⟩:=h2
    obtain⟨t3,rfl⟩:=h3
    have h1:_=Value.bool b:=h1
    subst h1
    refine⟨?_,o,_,n,b,ho,hc,hd,rfl⟩
    simp only[wB,ho,hd]
    rfl
theorem BO{H':Hp}(I:Inv X pins σ H' s):∀{ts:List Addr},(∀t∈ts,∃q,H' t=some (.tup (z0 q)))→∃fs,PySem.W.KatTups s.heap (ts.map Value.ref) fs∧fs.length=ts.length∧∀v∈fs,∃b,v=Value.bool b
 |[],_=>⟨[],PySem.W.KatTups.nil,rfl,fun _ h=>by cases h⟩
 |t::ts,h=>by
  obtain⟨q,hq⟩:=h t (.head _)
  obtain⟨_,o,xs,n,f,ho,hc,hd,hf⟩:=yL I hq
  obtain⟨fs,h1,h2,h3⟩:=BO I (ts:=ts) fun u hu=>h u (.tail _ hu)
  refine⟨.bool f::fs,PySem.W.KatTups.cons ho hc hd hf h1,by simp[h2],fun v hv=> ?_⟩
  rcases List.mem_cons.mp hv with rfl |hv
  ·exact⟨f,rfl⟩
  ·exact h3 v hv
theorem JU{A:Around}{E:Value→Shared→Prop}{P:PySem.Fin→Shared→Prop}{a kS:Addr}{e1:Nat}{xs:List V}{vs:List Value}{g:V→OV}{H':Hp}{ts:List Addr}(I:Inv X pins σ H' s)(hk:Kept H H')(ha:H' a=some (P8 a e1))(hS:H' kS=some (.lst (ts.map V.ref)))
  (hl:ts.length=xs.length) (ht:∀(j:Nat)(t:Addr)(x:V),ts[j]? =some t→xs[j]? =some x→H' t=some (.tup (z0 (g x)))) (rv:Vals xs vs) (hz:xs.length≤sizeLine) (hka:kS≠a) (h0:H kS=none) (h1:H a=none)
  (h:∀H2 s2 ys,Inv X pins σ H2 s2→Kept H H2→H2 a=some (.lst ys)→ys.Perm xs→ys.Pairwise (fun x y=>E9 (g x) (g y)=false)→P (.done (.ret .none)) s2):
  wpAny (model X.prog X.w) A (ksk_end a true vs.toArray e1 (.ref kS) (ts.map Value.ref).toArray) P E s:=by
 have hxv:=rv.length
 have htu:∀t∈ts,∃q,H' t=some (.tup (z0 q)):=fun t hm=>by
  obtain⟨j,hj⟩:=List.getElem?_of_mem hm
  have hj2:j<xs.length:=by rw[←hl];exact(List.getElem?_eq_some_iff.mp hj).1
  exact⟨_,ht j t xs[j] hj (List.getElem?_eq_getElem hj2)⟩
 let Z:List (Addr×V×Value):=ts.zip (xs.zip vs)
 have hZg:∀z∈Z,RelV z.2.1 z.2.2∧H' z.1=some (.tup (z0 (g z.2.1))):=fun z hz=>by
  obtain⟨j,hj⟩:=List.getElem?_of_mem hz
  rw[List.getElem?_zip_eq_some]at hj
  obtain⟨j1,j2⟩:=hj
  rw[List.getElem?_zip_eq_some]at j2
  obtain⟨u,hu,hr⟩:=rv.get j2.1
  rw[j2.2]at hu
  cases hu
  exact⟨hr,ht j _ _ j1 j2.1⟩
 have hZx:Z.map (·.2.1)=xs:=by
  show(ts.zip (xs.zip vs)).map (fun z=>z.2.1)=xs
  have:(fun z:Addr×V×Value=>z.2.1)=Prod.fst∘Prod.snd:=rfl
  rw[this,←List.map_map,List.map_snd_zip (by rw[List.length_zip];omega),List.map_fst_zip (by omega)]
 have hZp:((ts.map Value.ref).toArray.zip vs.toArray).toList=Z.map fun z=>(Value.ref z.1,z.2.2):=by
  rw[ksk_zip]
  show(ts.map Value.ref).zip vs=_
  apply List.ext_getElem?
  intro j
  show _=((ts.zip (xs.zip vs)).map _)[j]?
  rw[List.getElem?_map]
  by_cases c:j<xs.length
  ·have c1:j<ts.length:=by omega
   have c2:j<vs.length:=by omega
   have e1:((ts.map Value.ref).zip vs)[j]? =some (Value.ref ts[j],vs[j]):=by rw[List.getElem?_zip_eq_some];simp[c1,c2]
   have e2:(ts.zip (xs.zip vs))[j]? =some (ts[j],xs[j],vs[j]):=by rw[List.getElem?_zip_eq_some];refine⟨by simp[c1],?_⟩;rw[List.getElem?_zip_eq_some];simp[c,c2]
   rw[e1,e2]
   rfl
  ·have e1:((ts.map Value.ref).zip vs)[j]? =none:=by rw[List.getElem?_eq_none_iff,List.length_zip,List.length_map];omega
   have e2:(ts.zip (xs.zip vs))[j]? =none:=by rw[List.getElem?_eq_none_iff,List.length_zip,List.length_zip];omega
   rw[e1,e2]
   rfl
 have hzs:((ts.map Value.ref).toArray.zip vs.toArray).size=xs.length:=by rw[Array.size_zip,List.size_toArray,List.size_toArray,List.length_map];omega
 have fin:∀st:SortSt,(arrOf st).Perm ((ts.map Value.ref).toArray.zip vs.toArray)→failedOf st=none→SortedToK (vD s.heap) (arrOf st) (arrOf st).size→wpAny (model X.prog X.w) A (ksk_tail a true e1 (.ref kS) st) P E s:=by
  intro st hp hf hs
  have hp':=Array.perm_iff_toList_perm.mp hp
  obtain⟨Z',pz,ez⟩:=Dc hp' Z hZp
  have hg':∀z∈Z',RelV z.2.1 z.2.2∧H' z.1=some (.tup (z0 (g z.2.1))):=fun z hz=>hZg z (pz.mem_iff.mp hz)
  have pys:(Z'.map (·.2.1)).reverse.Perm xs:=(List.reverse_perm _).trans (by rw[←hZx];exact pz.map _)
  refine GU (out:=((Z'.map (·.2.2)).reverse).toArray) (ys:=(Z'.map (·.2.1)).reverse) I hk ha hS hf ?_ ?_ (by rw[pys.length_eq];exact hz) hka h0 h1 fun H2 s2 I2 k2 e2=>h H2 s2 _ I2 k2 e2 pys ?_
  ·apply Array.toList_inj.mp
   rw[Array.toList_reverse,Array.toList_map,ez,List.map_map]
   rfl
  ·show Vals _ (Z'.map (·.2.2)).reverse
   rw[←List.map_reverse,←List.map_reverse]
   exact E6 fun z hz=>(hg' z (List.mem_reverse.mp hz)).1
  ·rw[List.pairwise_reverse,List.pairwise_map,List.pairwise_iff_getElem]
   intro i j hi hj hij
   have hn:(arrOf st).size=Z'.length:=by rw[←Array.length_toList,ez,List.length_map]
   have hkk:∀i (hi:i<Z'.length),KK (vD s.heap) (arrOf st) i=AA (g Z'[i].2.1):=fun i hi=>by
    unfold KK
    have e:(arrOf st)[i]? =some (Value.ref Z'[i].1,Z'[i].2.2):=by rw[←Array.getElem?_toList,ez,List.getElem?_map,List.getElem?_eq_getElem hi];rfl
    rw[e]
    show(wB s.heap (Value.ref Z'[i].1)).getD []=_
    rw[(yL I (hg' _ (List.getElem_mem hi)).2).1]
    rfl
   have q:=hs i j (Nat.le_of_lt hij) (by rw[hn];exact hj)
   rw[hkk i hi,hkk j hj]at q
   exact q
 unfold ksk_end
 try dsimp only
 rw[if_pos rfl,if_pos rfl]
 refine wpAny_bind (wpAny_rule ?_)
 have hstart:((ts.map Value.ref).toArray.zip vs.toArray).reverse.Perm ((ts.map Value.ref).toArray.zip vs.toArray):=Array.perm_iff_toList_perm.mpr (by rw[Array.toList_reverse];exact List.reverse_perm _)
 by_cases h2:vs.toArray.size<2
 ·rw[if_pos h2,if_pos h2]
  refine wpAny_bind (wpAny_pure ?_)
  rw[StateT.run_pure]
  refine wpAny_bind (wpAny_pure ?_)
  try dsimp only
  refine fin _ hstart rfl ?_
  intro i j hij hj
  have hj2:j<((ts.map Value.ref).toArray.zip vs.toArray).reverse.size:=hj
  rw[hstart.size_eq,hzs]at hj2
  rw[List.size_toArray]at h2
  have:i=j:=by omega
  subst this
  exact KeyOrd.kle_refl _
 ·rw[if_neg h2,if_neg h2]
  rw[List.size_toArray]at h2
  obtain⟨fs,f1,f2,f3⟩:=BO I htu
  refine wpAny_bind (PySem.W.kat_kind (T:=Value.type "bool") f1 (by rw[f2];omega) (fun v hv=> ?_) rfl ?_)
  ·obtain⟨b,rfl⟩:=f3 v hv
   exact PySem.W.Looks.of_pure rfl
  have e:(Value.type "bool" != Value.type "tuple")=true:=by first |rfl |decide
  rw[e]
  have hss:((ts.map Value.ref).toArray.zip vs.toArray).reverse.size=xs.length:=by rw[hstart.size_eq,hzs]
  have hko:KeysOf (vD s.heap) ((ts.map Value.ref).toArray.zip vs.toArray).reverse:=fun p hp=>by
   rw[Array.toList_reverse,List.mem_reverse,hZp]at hp
   obtain⟨z,hz,rfl⟩:=List.mem_map.mp hp
   exact⟨_,(yL I (hZg z hz).2).1⟩
  refine wpAny_bind (wpAny_mono (PyProof.Rows.G.wpS_sortRunsSt (κ:=vD s.heap) (kd:=tuples' true) (a₀:=((ts.map Value.ref).toArray.zip vs.toArray).reverse)
   (st:=SortSt.mk' (tuples' true) ((ts.map Value.ref).toArray.zip vs.toArray).reverse #[] 7 none)
   (Q:=fun _ st'=>(arrOf st').Perm ((ts.map Value.ref).toArray.zip vs.toArray)∧failedOf st'=none∧SortedToK (vD s.heap) (arrOf st') (arrOf st').size)
   KZ hko ⟨Array.Perm.refl _,rfl,rfl⟩ rfl (Stable.refl _) (by rw[hss];omega)
   fun st' a1 a2 a3 a4=>⟨a1.trans hstart,a2,by rw[a1.size_eq];exact a3⟩) ?_ fun _ _ e=>e)
  rintro⟨⟨⟩,st'⟩ s' ⟨rfl,hp,hf,hs⟩
  try dsimp only
  exact fin st' hp hf hs
theorem QF{P:Program}{w:World}{H:Hp}{h:Heap}{a:Addr}{e:Nat}(ho:h.get? a=some (seqObj "list" #[] e)):cM P w H h a (P8 a e):=⟨ho,⟨_,ho⟩,fun h1 h2 q k=>k _ q⟩
def Eb(K:PySem.W.Frag)(sp:Sp):V→Hp→VK→Prop:=fun x H Q=>∃(l:Addr)(xs:List V)(g:V→OV),x= .ref l∧bW K H l xs∧xs.length<sizeLine∧
 (∀x∈xs,∀H' Q',Kept H H'→(∀p,H' p=none→Q' (.ref p) (upd H' p (.tup (z0 (g x)))))→sp [x] H' Q' E0)∧
 ∀ys D H',ys.Perm xs→ys.Pairwise (fun x y=>E9 (g x) (g y)=false)→H D=none→H' D=some (.lst ys)→Kept H H'→Q (.ref D) H'
theorem GV{H0:Hp}{A:Around}{P:PySem.Fin→Shared→Prop}{E:Value→Shared→Prop}{a kS:Addr}{e1:Nat}{xs:List V}{vs:List Value}{g:V→OV}(F:bA X.prog X.w X.K X.mg X.base nj k f fd ps sp)(hA:A.frames=X.A.frames)(hr:f7 k A)(hb:Binds X.K fd ps [])
  (I:Inv X pins σ H0 s) (hk0:Kept H H0) (ha:H0 a=some (P8 a e1)) (hS:H0 kS=some (.lst [])) (rv:Vals xs vs) (hz:xs.length<sizeLine) (hka:kS≠a) (h0:H kS=none) (h1:H a=none)
  (turn:∀x∈xs,∀H' Q',Kept H H'→(∀p,H' p=none→Q' (.ref p) (upd H' p (.tup (z0 (g x)))))→sp [x] H' Q' E0)
  (h:∀H2 s2 ys,Inv X pins σ H2 s2→Kept H H2→H2 a=some (.lst ys)→ys.Perm xs→ys.Pairwise (fun x y=>E9 (g x) (g y)=false)→P (.done (.ret .none)) s2):
  wpAny (model X.prog X.w) A (ksk_rest a (.ref f) true vs.toArray e1 (.ref kS)) P E s:=by
 have hxv:=rv.length
 unfold ksk_rest
 refine wpAny_bind (wpAny_rule ?_)
 rw[List.forIn_toArray]
 refine wpAny_bind (ksk_fold (fun i s'=>RR X pins σ H a kS e1 xs g i s') vs 0 s ⟨H0,[],I,hk0,ha,hS,rfl,by simp⟩ ?step ?done)
 case step=>
  rintro j v s' hv ⟨H',ts,I',hk,ha',hS',hl,ht⟩
  rw[Nat.zero_add]at hl ⊢
  have hj:j<vs.length:=(List.getElem?_eq_some_iff.mp hv).1
  have hjx:j<xs.length:=by omega
  obtain⟨u,hu,hr'⟩:=rv.get (List.getElem?_eq_getElem hjx)
  rw[hv]at hu
  cases hu
  have hsp:=turn xs[j] (List.getElem_mem hjx) H' (fun y H2=>∃p,y= .ref p∧H' p=none∧H2=upd H' p (.tup (z0 (g xs[j])))) hk fun p hp=>⟨p,rfl,hp,rfl⟩
  have hps:([v]++[]).length=ps.length:=by rw[List.append_nil];have:=F.len _ _ _ _ hsp;simpa using this
  have e0:CK X.prog X.w X.K X.mg X.base A X.stack s' H':=by
   have:=I'.env0
   exact⟨hA.trans this.frames,this.mod,this.bs,this.EZ,this.qU,this.Gy,this.hok,this.bare⟩
  have rvs:Vals [xs[j]] ([v]++[]):=.cons hr' .nil
  have run:=F.run A X.stack s' H' ⟨[v],[]⟩ ([v]++[]) [xs[j]] _ E0 hr e0 (hb s' [v] I'.vZ hps) rvs hsp
  refine wpAny_bind (wpAny_attempt (wpAny_call (codeAny_mono run fun r s'' hq=> ?_)))
  cases r with
  |error e=>exact False.elim hq
  |ok fl=>
   cases fl with
   |next=>exact False.elim hq
   |brk=>exact False.elim hq
   |cont=>exact False.elim hq
   |ret u=>
    obtain⟨y,H2,I2,ry,p,rfl,hp,rfl⟩:=I'.after hq
    have ry:u=Value.ref p:=ry
    subst ry
    have npk:p≠kS:=fun z=>by rw[z,hS']at hp;cases hp
    have npa:p≠a:=fun z=>by rw[z,ha']at hp;cases hp
    have hS2:(upd H' p (.tup (z0 (g xs[j])))) kS=some (.lst (ts.map V.ref)):=by rw[aq npk.symm];exact hS'
    obtain⟨zk,its,n,rvk,hob⟩:=I2.hok kS _ hS2
    have hob:s''.heap.get? kS=some (seqObj "list" its.toArray n):=hob
    have hlk:=rvk.length
    rw[List.length_map]at hlk
    have s1:=Heap.SameBut.update s''.heap kS (Obj.mapSeq (·.push (Value.ref p)))
    obtain⟨c2,hc2⟩:∃c2,(s''.heap.update kS (Obj.mapSeq (·.push (Value.ref p)))).get? kS=some (seqObj "list" (its.toArray.push (Value.ref p)) c2):=⟨_,get?_update_seq hob (·.push (Value.ref p))⟩
    show wpAny _ _ (do let _ ←Builtin.List.listUpdate (.ref kS) (·.push (Value.ref p));pure (ForInStep.yield PUnit.unit)) _ _ _
    refine wpAny_bind (listUpdate_at hob rfl ?_ (by rw[List.size_toArray];omega) (by rw[Array.size_push,List.size_toArray];omega))
    have I3:Inv X pins σ (upd (upd H' p (.tup (z0 (g xs[j])))) kS (.lst ((ts++[p]).map V.ref))) { s'' with heap:=s''.heap.update kS (Obj.mapSeq (·.push (Value.ref p))) }:=
     I2.write (t':=s''.toks) (by rw[hS2];trivial) (.inl rfl) (fun b u hb q=>(s1.2 b hb).trans q) ⟨_,hc2⟩ ⟨by simp;omega,its++[Value.ref p],c2,by rw[List.map_append];exact rvk.append (.cons rfl .nil),by rw[hc2,←List.push_toArray]⟩
    refine wpAny_pure ⟨rfl,_,ts++[p],I3,fun b o e=> ?_,?_,aj,by simp[hl],fun i t x hi hx=> ?_⟩
    ·rw[aq (fun z=>by rw[z,h0]at e;cases e),aq (fun z=>by have:=hk b o e;rw[z,hp]at this;cases this)]
     exact hk b o e
    ·rw[aq hka.symm,aq npa.symm]
     exact ha'
    ·by_cases c:i<ts.length
     ·rw[List.getElem?_append_left c]at hi
      have:=ht i t x hi hx
      rw[aq (fun z=>by rw[z,hS']at this;cases this),aq (fun z=>by rw[z,hp]at this;cases this)]
      exact this
     ·have hi':i=ts.length:=by
       have:=(List.getElem?_eq_some_iff.mp hi).1
       simp at this
       omega
      rw[hi',List.getElem?_append_right (Nat.le_refl _),Nat.sub_self]at hi
      cases hi
      rw[hi',hl,List.getElem?_eq_getElem hjx]at hx
      cases hx
      rw[aq npk,aj]
 case done=>
  rintro s' ⟨H',ts,I',hk,ha',hS',hl,ht⟩
  rw[Nat.zero_add]at hl
  obtain⟨zk,its,n,rvk,hob⟩:=I'.hok kS _ hS'
  have hob:s'.heap.get? kS=some (seqObj "list" its.toArray n):=hob
  rw[Iy rvk]at hob
  try dsimp only
  refine wpAny_bind (listItems_at hob rfl ?_)
  exact JU I' hk ha' hS' (by omega) ht rv (by omega) hka h0 h1 h
theorem JT(F:bA X.prog X.w X.K X.mg X.base nj k f fd ps sp)(hr:f7 (k+2) X.A)(hb:Binds X.K fd ps [])(I:Inv X pins σ H s)(h:Eb X.K sp (.ref l) H Q):
  wpAny (model X.prog X.w) X.A (call (.builtin "sorted") [.ref l] [(Str.ofString "key",.ref f),(Str.ofString "reverse",.bool true)]) (EP X pins σ Q) X.xe s:=by
 obtain⟨_,xs,g,e,hx,hz,turn,k⟩:=h
 cases e
 obtain⟨vs,rv,hl,_⟩:=I.list hx
 have hxv:=rv.length
 refine call_function_entry_kw kind_sorted plain_sorted entry_sorted (ksk_s2 _ _ _) ?_
 unfold Builtin.«sorted»
 refine wpAny_bind (m:=checkCount "sorted" 1 1 _) (wpAny_pure ?_)
 refine wpAny_bind (collect_list hl.isList ?_ (by omega))
 refine wpAny_bind (wpAny_newList ?_ (by omega))
 have hsz:((s.heap.push (seqObj "list" #[] 0)).update s.heap.objs.size (Obj.mapSeq (·++vs.toArray))).objs.size=s.heap.objs.size+1:=by
  rw[Heap.size_update,size_push']
 have hoL:(((s.heap.push (seqObj "list" #[] 0)).update s.heap.objs.size (Obj.mapSeq (·++vs.toArray))).push (seqObj "list" vs.toArray 0)).get? (s.heap.objs.size+1)=some (seqObj "list" vs.toArray 0):=by
  rw[←hsz];exact Heap.get?_push_size _ rfl
 have keep:∀b o,s.heap.get? b=some o→(((s.heap.push (seqObj "list" #[] 0)).update s.heap.objs.size (Obj.mapSeq (·++vs.toArray))).push (seqObj "list" vs.toArray 0)).get? b=some o:=fun b o q=>by
  have hlt:b<s.heap.objs.size:=Heap.lt_size q
  rw[Heap.get?_push_ne _ _ _ (by rw[hsz];exact Nat.ne_of_lt (Nat.lt_succ_of_lt hlt)),Heap.get?_update_ne _ _ _ _ (Nat.ne_of_lt hlt),Heap.get?_push_ne _ _ _ (Nat.ne_of_lt hlt)]
  exact q
 show wpAny _ _ _ _ _ { s with heap:=((s.heap.push (seqObj "list" #[] 0)).update s.heap.objs.size (Obj.mapSeq (·++vs.toArray))).push (seqObj "list" vs.toArray 0) }
 rw[hsz]
 have I1:Inv X pins σ (upd H (s.heap.objs.size+1) (.lst xs)) { s with heap:=((s.heap.push (seqObj "list" #[] 0)).update s.heap.objs.size (Obj.mapSeq (·++vs.toArray))).push (seqObj "list" vs.toArray 0) }:=
  I.laid (t':=s.toks) keep (Nat.le_succ _) ⟨by omega,vs,0,rv,hoL⟩
 have hHa:H (s.heap.objs.size+1)=none:=I.hok.fresh (Nat.le_succ _)
 generalize s.heap.objs.size+1=a at*
 generalize ((s.heap.push (seqObj "list" #[] 0)).update s.heap.objs.size (Obj.mapSeq (·++vs.toArray))).push (seqObj "list" vs.toArray 0)=hp1 at*
 refine wpAny_bind (wpAny_holding (wpAny_call_entry_kw slot_list_sort ⟨_,hoL,rfl⟩ entry_list_sort ?body (ksk_l2 _ _ _)))
 show wpAny (model X.prog X.w) X.A.in1.in1 (Builtin.«list.sort» ⟨[.ref a],[(Str.ofString "key",.ref f),(Str.ofString "reverse",.bool true)]⟩) _ _ _
 rw[ksk_t2]
 have alt:a<hp1.objs.size:=Heap.lt_size hoL
 have s1:=Heap.SameBut.update hp1 a (Obj.mapSeq fun _=>(#[]:Array Value))
 obtain⟨e1,ho1⟩:∃e1,(hp1.update a (Obj.mapSeq fun _=>(#[]:Array Value))).get? a=some (seqObj "list" #[] e1):=⟨_,get?_update_seq hoL fun _=> #[]⟩
 have I2:Inv X pins σ (upd (upd H a (.lst xs)) a (P8 a e1)) { s with heap:=hp1.update a (Obj.mapSeq fun _=>(#[]:Array Value)) }:=
  I1.write (t':=s.toks) (by rw[aj];trivial) (.inl rfl) (fun b u hb q=>(s1.2 b hb).trans q) ⟨_,ho1⟩ (QF ho1)
 rw[aG]at I2
 have esz:(hp1.update a (Obj.mapSeq fun _=>(#[]:Array Value))).objs.size=hp1.objs.size:=Heap.size_update _ _ _
 unfold ksk_tree
 refine wpAny_bind (listItems_at hoL rfl ?_)
 refine wpAny_bind (listUpdate_at hoL rfl ?_ (by rw[List.size_toArray];omega) (Nat.zero_le _))
 generalize hp1.update a (Obj.mapSeq fun _=>(#[]:Array Value))=hp2 at*
 refine wpAny_bind (seqEpoch_at ho1 rfl ?_)
 refine wpAny_bind (wpAny_newTuple ?_ (by show vs.length≤_;omega))
 refine wpAny_bind (wpAny_newList ?_ (Nat.zero_le _))
 refine wpAny_holding ?_
 have hkS:(hp2.push (seqObj "tuple" vs.toArray 0)).objs.size=hp2.objs.size+1:=size_push' ..
 have I3:Inv X pins σ (upd (upd H a (P8 a e1)) (hp2.objs.size+1) (.lst [])) { s with heap:=(hp2.push (seqObj "tuple" vs.toArray 0)).push (seqObj "list" #[] 0) }:=
  I2.laid (t':=s.toks) (fun b u q=>Heap.get?_push_of_some _ (Heap.get?_push_of_some _ q)) (Nat.le_succ _) ⟨Nat.zero_le _,[],0,.nil,by rw[←hkS];exact Heap.get?_push_size _ rfl⟩
 have nka:hp2.objs.size+1≠a:=by omega
 have hk0:(upd H a (P8 a e1)) (hp2.objs.size+1)=none:=I2.hok.fresh (Nat.le_succ _)
 rw[aq nka]at hk0
 show wpAny (model X.prog X.w) X.A.in1.in1 (ksk_rest a (.ref f) true vs.toArray e1 (.ref (hp2.push (seqObj "tuple" vs.toArray 0)).objs.size)) _ _ { s with heap:=(hp2.push (seqObj "tuple" vs.toArray 0)).push (seqObj "list" #[] 0) }
 rw[hkS]
 refine GV (H:=H) F rfl hr.in1.in1 hb I3 (fun b o e=> ?_) (by rw[aq nka.symm,aj]) aj rv hz nka hk0 hHa turn fun H2 s2 ys J1 J2 J3 J4 J5=>⟨_,rfl,wpAny_pure ⟨_,rfl,V.ref a,H2,J1,rfl,k ys a H2 J4 J5 hHa J3 J2⟩⟩
 rw[aq (fun z=>by rw[z,hk0]at e;cases e),aq (fun z=>by rw[z,hHa]at e;cases e)]
 exact e
end
section
variable{X:Cx}{k:Nat}{f:Addr}{fd:FuncData}{ps:List Str}{sp:Sp}{x:Str}{p p2 p3 kp1 kp2 pos:Pos}{e:Expr}{te:TE}
def Ld(K:PySem.W.Frag)(sp:Sp)(te:TE):TE:=fun σ H Q=>te σ H fun x H1=>Eb K sp x H1 Q
theorem AH{K:PySem.W.Frag}{sp:Sp}{te:TE}{σ:St}{H:Hp}{Q:VK}:Ld K sp te σ H Q=te σ H fun x H1=>Eb K sp x H1 Q:=rfl
theorem G4{j}(F:bA X.prog X.w X.K X.mg X.base nj k f fd ps sp)(hr:f7 (k+2) X.A)(hg:Gl X "sorted")(hgf:Gl X x)(hnb:X.mg "sorted"=none)(hm:X.mg x=some (.ref f))(hb:Binds X.K fd ps [])(he:PE X e te)
  (hdb:(x==("__debug__":Str))=false:=by decide)
  (hs:starEach [e] X.env=[(false,eval e X.env)]:=by rfl):PE X (.Call (.Name "sorted" p) [e] [⟨some "key",.Name x p2,kp1⟩,⟨some "reverse",.Constant (.bool true) j p3,kp2⟩] pos) (Ld X.K sp te):=by
 intro pins s σ H Q I h
 refine wpAny_Call_Name_kw (Ey I hg hnb boot_sorted ?_ (by decide) (by decide))
 refine callWith_kw (cC ((ak he aA hs) pos pins s σ H (fun vs H1=>match vs with |[x]=>Eb X.K sp x H1 Q |_=>False) I h) fun us s1 ⟨vs,H1,I1,r,q⟩=> ?_) (by rw[hs];rfl) (by rw[hs];rfl)
 match vs,r,q with
 |[y],r,q=>
  obtain⟨l,xs,g,rfl,hq⟩:=id q
  have er:us=[Value.ref l]:=Vals.L7 r
  subst er
  refine cC ((IG (aE (v:=.ref f) hgf hm rfl hdb) (IG xS Qm):PK X [⟨some "key",.Name x p2,kp1⟩,⟨some "reverse",.Constant (.bool true) j p3,kp2⟩] _) pos pins s1 σ H1 (fun ws H2=>ws=[V.ref f,V.bl true]∧H2=H1) I1 ⟨rfl,rfl⟩) fun ws s2 zz=> ?_
  obtain⟨zs,H2,I2,rz,e2,e3⟩:=zz
  subst e2
  subst e3
  cases rz with
  |cons h1 rz=>
   cases rz with
   |cons h2 rz=>
    cases rz
    have h1:_=Value.ref f:=h1
    have h2:_=Value.bool true:=h2
    subst h1
    subst h2
    exact JT F hr hb I2 q
 |[],_,q=>exact q.elim
 |_::_::_,_,q=>exact q.elim
end
theorem Am{xs:Array Nat}(hr:xs.toList.Pairwise (·< ·)){i j u v:Nat}(hi:xs[i]? =some u)(hj:xs[j]? =some v)(h:i<j):u<v:=by
 rw[←Array.getElem?_toList]at hi hj
 obtain⟨i1,i2⟩:=List.getElem?_eq_some_iff.mp hi
 obtain⟨j1,j2⟩:=List.getElem?_eq_some_iff.mp hj
 have:=List.pairwise_iff_getElem.mp hr i j i1 j1 h
 omega
theorem Nz{xs:Array Nat}{j:Nat}(hr:xs.toList.Pairwise (·< ·)):∀(fuel lo hi:Nat),hi - lo≤fuel→lo≤hi→hi≤xs.size→(∀i v,i<lo→xs[i]? =some v→v<j)→(∀i v,hi≤i→xs[i]? =some v→j≤v)→
  SetTable.below.go xs j fuel lo hi≤xs.size∧(∀i v,i<SetTable.below.go xs j fuel lo hi→xs[i]? =some v→v<j)∧(∀i v,SetTable.below.go xs j fuel lo hi≤i→xs[i]? =some v→j≤v):=by
 intro fuel
 induction fuel with
 |zero=>
  intro lo hi h1 h2 h3 h4 h5
  have:lo=hi:=by omega
  subst this
  exact⟨h3,h4,h5⟩
 |succ n ih=>
  intro lo hi h1 h2 h3 h4 h5
  unfold SetTable.below.go
  by_cases c:lo<hi
  ·rw[if_pos c]
   dsimp only
   have hm:(lo+hi) / 2<xs.size:=by omega
   have hg:xs[(lo+hi) / 2]? =some xs[(lo+hi) / 2]:=Array.getElem?_eq_getElem hm
   have e:xs.getD ((lo+hi) / 2) j=xs[(lo+hi) / 2]:=by simp[Array.getD,hm]
   rw[e]
   by_cases d:xs[(lo+hi) / 2]<j
   ·rw[if_pos d]
    refine ih _ _ (by omega) (by omega) h3 (fun i v hi' hv=> ?_) h5
    by_cases q:i=(lo+hi) / 2
    ·rw[q,hg]at hv;cases hv;exact d
    ·exact Nat.lt_trans (Am hr hv hg (by omega)) d
   ·rw[if_neg d]
    refine ih _ _ (by omega) (by omega) (by omega) h4 (fun i v hi' hv=> ?_)
    by_cases q:i=(lo+hi) / 2
    ·rw[q,hg]at hv;cases hv;omega
    ·have:=Am hr hg hv (by omega);omega
  ·rw[if_neg c]
   have:lo=hi:=by omega
   subst this
   exact⟨h3,h4,h5⟩
theorem below_at{xs:Array Nat}(hr:xs.toList.Pairwise (·< ·))(j:Nat):SetTable.below xs j≤xs.size∧(∀i v,i<SetTable.below xs j→xs[i]? =some v→v<j)∧(∀i v,SetTable.below xs j≤i→xs[i]? =some v→j≤v):=
 Nz hr _ _ _ (by omega) (Nat.zero_le _) (Nat.le_refl _) (fun i v h=>absurd h (Nat.not_lt_zero _)) fun i v h hv=>by
  have:=(Array.getElem?_eq_some_iff.mp hv).1
  omega
structure Cg(L:Bool)(t:SetTable):Prop where
 led:t.led=L
 RX:t.dummies= #[]
 rise:t.place.toList.Pairwise (·< ·)
theorem Cg.fresh(L:Bool):Cg L (.fresh 0 0 L):=⟨rfl,rfl,.nil⟩
theorem Cg.standIn{L:Bool}{t:SetTable}(h:Cg L t)(n:Nat):Cg L (t.standIn n):=⟨h.led,rfl,by
 show(Array.range n).toList.Pairwise _
 rw[Array.toList_range]
 exact List.pairwise_lt_range⟩
theorem Cg.Mu{L:Bool}{t:SetTable}(h:Cg L t):Cg L { t with plain:=false }:=⟨h.led,h.RX,h.rise⟩
theorem Cg.put{L:Bool}{t:SetTable}(h:Cg L t){j:Nat}(he:t.slot j= .empty):Cg L (t.put j).1:=by
 have hn:t.place[SetTable.below t.place j]?≠some j:=fun z=>by
  unfold SetTable.slot at he
  dsimp only at he
  rw[if_pos (by rw[z];simp)]at he
  cases he
 obtain⟨b1,b2,b3⟩:=below_at h.rise j
 have hd:SetTable.has t.dummies j=false:=by rw[h.RX];simp[SetTable.has]
 refine⟨h.led,?_,?_⟩
 ·show(if SetTable.has t.dummies j=true then _ else t.dummies)= #[]
  rw[hd,if_neg Bool.false_ne_true,h.RX]
 ·show(SetTable.insertAt t.place (SetTable.below t.place j) j).toList.Pairwise _
  rw[SetTable.toList_insertAt,List.pairwise_append]
  refine⟨h.rise.take,?_,?_⟩
  ·rw[List.pairwise_cons]
   refine⟨fun v hv=> ?_,h.rise.drop⟩
   obtain⟨i,hi⟩:=List.getElem?_of_mem hv
   rw[List.getElem?_drop,Array.getElem?_toList]at hi
   have:=b3 _ _ (Nat.le_add_right _ _) hi
   by_cases q:v=j
   ·subst q
    rcases Nat.eq_zero_or_pos i with z |z
    ·subst z;exact absurd hi hn
    ·cases hp:t.place[SetTable.below t.place v]? with
     |none=>
      have h1:=Array.getElem?_eq_none_iff.mp hp
      have h2:=(Array.getElem?_eq_some_iff.mp hi).1
      omega
     |some u=>
      have h1:=b3 _ _ (Nat.le_refl _) hp
      have h2:=Am h.rise hp hi (by omega)
      omega
   ·show j<v
    omega
  ·intro u hu v hv
   obtain⟨i,hi⟩:=List.getElem?_of_mem hu
   rw[List.getElem?_take]at hi
   split at hi
   ·rename_i hlt
    rw[Array.getElem?_toList]at hi
    have h1:=b2 i u hlt hi
    rcases List.mem_cons.mp hv with rfl |hv
    ·exact h1
    ·obtain⟨k,hk⟩:=List.getElem?_of_mem hv
     rw[List.getElem?_drop,Array.getElem?_toList]at hk
     have:=b3 _ _ (Nat.le_add_right _ _) hk
     show u<v
     omega
   ·cases hi
theorem Mt{t:SetTable}(hd:t.dummies= #[]){h:Int}:∀(fuel:Nat)(p:SetTable.Probe)(j:Nat)(d:Option Nat),p.dummy=none→SetTable.probe.go t (fun _=>h+1) h fuel p=some (.empty j d)→t.slot j= .empty∧d=none:=by
 intro fuel
 induction fuel with
 |zero=>intro p j d _ e;cases e
 |succ n ih=>
  intro p j d hp e
  unfold SetTable.probe.go at e
  cases hs:t.slot p.j with
  |empty=>
   rw[hs]at e
   cases e
   exact⟨hs,hp⟩
  |dummy=>
   unfold SetTable.slot at hs
   dsimp only at hs
   split at hs
   ·cases hs
   ·split at hs
    ·rename_i q
     rw[hd]at q
     simp[SetTable.has]at q
    ·cases hs
  |live i=>
   rw[hs]at e
   dsimp only at e
   rw[if_neg (by simp;omega)]at e
   refine ih _ j d ?_ e
   unfold SetTable.advance
   split
   ·exact hp
   ·exact hp
theorem OC{L:Bool}{t:SetTable}(ht:Cg L t){h:Int}{j:Nat}{b:Bool}(e:t.freeSlot h=some (j,b)):t.slot j= .empty:=by
 unfold SetTable.freeSlot SetTable.probe at e
 split at e
 ·rename_i j' d q
  obtain⟨h1,h2⟩:=Mt ht.RX _ _ j' d rfl q
  subst h2
  cases e
  exact h1
 ·cases e
theorem Cg.layNew{L:Bool}{t:SetTable}(ht:Cg L t)(es:Array (Int×Value))(h:Int)(x:Value):Cg L (layNew t es h x).2.1:=by
 unfold PySem.layNew
 split
 ·rename_i slot b e
  have:=ht.put (OC ht e)
  show Cg L ((t.put slot).1.orStandIn _)
  unfold SetTable.orStandIn
  split
  ·exact this
  ·exact this.standIn _
 ·exact ht.standIn _
theorem Cg.relayAll{L:Bool}{t:SetTable}(ht:Cg L t)(es:Array (Int×Value))(n:Nat):Cg L (relayAll t es n).2.1:=by
 unfold PySem.relayAll
 split
 ·rename_i t' order e
  dsimp only
  split
  ·unfold SetTable.relaid SetTable.laid at e
   cases hc:SetTable.layClean (SetTable.sizeAbove n - 1) (es.map (·.1))with
   |none=>rw[hc]at e;cases e
   |some owner=>
    rw[hc]at e
    cases e
    refine⟨ht.led,rfl,?_⟩
    show(List.map _ _).Pairwise _
    rw[List.pairwise_map,List.pairwise_filterMap]
    refine List.pairwise_lt_range.imp ?_
    intro a b hab y hy z hz
    cases h1:owner.getD a none with
    |none=>rw[h1]at hy;cases hy
    |some u=>
     rw[h1]at hy
     cases h2:owner.getD b none with
     |none=>rw[h2]at hz;cases hz
     |some v=>
      rw[h2]at hz
      cases hy
      cases hz
      exact hab
  ·exact ht.standIn _
 ·exact ht.standIn _
abbrev pU(w:World):Bool:= !w.params.followText "set-order"
structure Ak(prog:Program)(w:World)(o:Obj)(es:Array (Int×Value))(ep:Nat)(t:SetTable)(L:List Int):Prop where
 ex:o.ExactSet
 data:o.data= .set es ep t
 el:ElemsOf (intKind prog w) es.toList
 pm:(es.toList.map fun e=>numOf e.2).Perm L
 sz:es.size<scanBound
 ft:t.fits es.size=true
 tb:Cg (pU w) t
def CH(prog:Program)(w:World)(h:Heap)(a:Addr)(L:List Int):Prop:=∃o es ep t,h.get? a=some o∧Ak prog w o es ep t L
section
variable{prog:Program}{w:World}{A:Around}{E:Value→Shared→Prop}{s:Shared}{a:Addr}{L:List Int}
theorem Ak.size{o:Obj}{es:Array (Int×Value)}{ep:Nat}{t:SetTable}(h:Ak prog w o es ep t L):es.size=L.length:=by
 have:=h.pm.length_eq
 rwa [List.length_map,Array.length_toList]at this
theorem Hf{k:Int}{v:Value}(h:(intKind prog w).is k v=true):numOf v=k:=by
 have h:Value.isInt k v=true:=h
 cases v<;>simp[Value.isInt]at h
 subst h
 rfl
theorem Ak.mem{o:Obj}{es:Array (Int×Value)}{ep:Nat}{t:SetTable}(h:Ak prog w o es ep t L)(k:Int):k∈L↔∃e∈es.toList,(intKind prog w).is k e.2=true:=by
 rw[←h.pm.mem_iff,List.mem_map]
 constructor
 ·rintro⟨e,he,rfl⟩
  obtain⟨⟨k',hk,_⟩,_⟩:=h.el e he
  exact⟨e,he,by rw[Hf hk];exact hk⟩
 ·rintro⟨e,he,hk⟩
  exact⟨e,he,Hf hk⟩
theorem A8{h:Heap}{o:Obj}{es:Array (Int×Value)}{ep:Nat}{t:SetTable}{L':List Int}(ho:h.get? a=some o)(hex:o.ExactSet)(hd:o.data= .set es ep t)
  {es':Array (Int×Value)} {t':SetTable} (hel:ElemsOf (intKind prog w) es'.toList) (hp:(es'.toList.map fun e=>numOf e.2).Perm L') (hb:es'.size<scanBound) (hf:t'.fits es'.size=true) (ht:Cg (pU w) t'):
  (h.update a (Obj.putSet es' t')).get? a=some { o with data:=.set es' (ep+1) t' }∧Ak prog w { o with data:=.set es' (ep+1) t' } es' (ep+1) t' L':=by
 have hg:(h.update a (Obj.putSet es' t')).get? a=some { o with data:=.set es' (ep+1) t' }:=by
  have:=Heap.get?_update_self (Obj.putSet es' t') ho (by rw[putSet_of es' t' hd];rfl)
  rw[putSet_of es' t' hd]at this;exact this
 exact⟨hg,hex,rfl,hel,hp,hb,hf,ht⟩
theorem Gq{g:Bool→Sem Unit}(hg:∀(b:Bool)(s₁:Shared)(Q':Unit→Shared→Prop),Q' () s₁→wpAny (model prog w) A (g b) Q' E s₁)
  {o:Obj} {es:Array (Int×Value)} {ep:Nat} {t:SetTable} (ho:s.heap.get? a=some o) (hex:o.ExactSet) (hd:o.data= .set es ep t)
  {es1:Array (Int×Value)} {t2:SetTable} (hel1:ElemsOf (intKind prog w) es1.toList) (hp1:(es1.toList.map fun e=>numOf e.2).Perm L)
  (hb1:es1.size<scanBound) (hf2:t2.fits es1.size=true) (ht2:Cg (pU w) t2) {wasDummy:Bool} {R:Option Bool→Shared→Prop}
  (h:∀h',Heap.SameBut a s.heap h'→CH prog w h' a L→R (some true) { s with heap:=h' }):
  wpAny (model prog w) A (do
    storeSet a es1 t2
    if(!wasDummy&&t2.tooFull)=true then do
       g (relayAll t2 es1 (SetTable.grown es1.size)).2.2
       storeSet a (relayAll t2 es1 (SetTable.grown es1.size)).1 (relayAll t2 es1 (SetTable.grown es1.size)).2.1
       pure (some true)
     else pure (some true)) R E s:=by
 refine wpAny_bind (wpAny_storeSet_of ho hd ?_ (fits_of_scanBound hb1))
 obtain⟨ho1,hS1⟩:=A8 (prog:=prog) (w:=w) ho hex hd hel1 hp1 hb1 hf2 ht2
 have hsb1:=Heap.SameBut.update s.heap a (Obj.putSet es1 t2)
 split
 ·have hp:=relayAll_perm t2 es1 (SetTable.grown es1.size)
  have hfr:=relayAll_fits t2 es1 (SetTable.grown es1.size)
  have htr:=ht2.relayAll es1 (SetTable.grown es1.size)
  generalize hRl:relayAll t2 es1 (SetTable.grown es1.size)=Rl at hp hfr htr ⊢
  obtain⟨es2,t3,gave2⟩:=Rl
  dsimp only at hp hfr htr ⊢
  have hel2:ElemsOf (intKind prog w) es2.toList:=hel1.perm hp
  have hsz:es2.size=es1.size:=by rw[←Array.length_toList,hp.length_eq,Array.length_toList]
  have hb2:es2.size<scanBound:=by rw[hsz];exact hb1
  refine wpAny_bind (hg _ _ _ ?_)
  refine wpAny_bind (wpAny_storeSet_of ho1 rfl ?_ (fits_of_scanBound hb2))
  obtain⟨ho2,hS2⟩:=A8 (prog:=prog) (w:=w) ho1 hex rfl hel2 ((hp.map _).trans hp1) hb2 hfr htr
  exact wpAny_pure (h _ (hsb1.trans (Heap.SameBut.update _ a _)) ⟨_,_,_,_,ho2,hS2⟩)
 ·exact wpAny_pure (h _ hsb1 ⟨_,_,_,_,ho1,hS1⟩)
theorem N3{k:Int}{x:Value}{Q:Bool→Shared→Prop}(hkey:(intKind prog w).is k x=true)(hsc:x.scannable=true)(hS:CH prog w s.heap a L)
  (hroom:L.length+1<scanBound) (h:∀h' b,Heap.SameBut a s.heap h'→CH prog w h' a (step_dedup L k)→Q b { s with heap:=h' }):
  wpAny (model prog w) A (setAddHashed a x ((intKind prog w).hash k)) Q E s:=by
 obtain⟨o,es,ep,t,ho,hD⟩:=hS
 have hb1:es.size+1<scanBound:=by rw[hD.size];exact hroom
 unfold setAddHashed setAddHashedIn
 refine wpAny_holding (wpAny_bind (wpAny_setState_of ho hD.data hD.ft ?_))
 dsimp only
 rw[byScan_of hsc hD.sz hD.el]
 simp only[↓reduceIte]
 unfold setAddByScan
 refine wpAny_bind ?_
 refine wpAny_bind (wpAny_rule ?_)
 refine wpAny_bind (wpAny_setScan_of hkey ho hD.data hD.ft hD.el ?_)
 cases hr:List.findIdx? (fun e=>(intKind prog w).is k e.2) es.toList with
 |some j=>
  dsimp only
  obtain⟨hj,hpj,_⟩:=List.findIdx?_eq_some_iff_getElem.mp hr
  have hm:k∈L:=(hD.mem k).mpr ⟨es.toList[j],List.getElem_mem hj,hpj⟩
  have hst:step_dedup L k=L:=by unfold step_dedup;rw[if_pos (by rw[List.any_eq_true];exact⟨k,hm,by simp⟩)]
  refine wpAny_pure (wpAny_pure ?_)
  have e:s={ s with heap:=s.heap }:=by cases s;rfl
  rw[e]
  exact h s.heap false (Heap.SameBut.refl a s.heap) (by rw[hst];exact⟨o,es,ep,t,ho,hD⟩)
 |none=>
  dsimp only
  have hm:k∉L:=fun z=>by
   obtain⟨e,he,hp⟩:=(hD.mem k).mp z
   have:=List.findIdx?_eq_none_iff.mp hr e he
   rw[hp]at this
   exact Bool.noConfusion this
  have hst:step_dedup L k=L++[k]:=by
   unfold step_dedup
   rw[if_neg]
   rw[List.any_eq_true]
   rintro⟨y,hy,e⟩
   exact hm (by have:y=k:=by simpa using e
                rw[←this];exact hy)
  have hgw:∀(b:Bool){s₁:Shared}{Q':Unit→Shared→Prop},Q' () s₁→wpAny (model prog w) A (match b with |true=>rule "set.scan.the-table-gave-way" |false=>pure ()) Q' E s₁:=
   fun b s₁ Q' hq=>by cases b<;>first |exact wpAny_pure hq |exact wpAny_rule hq
  have hperm:=layNew_perm t es ((intKind prog w).hash k) x
  have hfits:=layNew_fits t es ((intKind prog w).hash k) x
  have htab:=hD.tb.layNew es ((intKind prog w).hash k) x
  generalize hL:layNew t es ((intKind prog w).hash k) x=Ly at hperm hfits htab ⊢
  obtain⟨es1,t1,wasDummy,gave⟩:=Ly
  dsimp only at hperm hfits htab ⊢
  rw[Array.toList_push]at hperm
  have hel1:ElemsOf (intKind prog w) es1.toList:=(hD.el.push hkey hsc).perm hperm
  have hp1:(es1.toList.map fun e=>numOf e.2).Perm (step_dedup L k):=by
   rw[hst]
   refine(hperm.map _).trans ?_
   rw[List.map_append,List.map_cons,List.map_nil,Hf hkey]
   exact hD.pm.append_right _
  have hb1':es1.size<scanBound:=by rw[←Array.length_toList,hperm.length_eq,List.length_append,Array.length_toList];simpa using hb1
  refine wpAny_bind (hgw _ ?_)
  split
  ·refine wpAny_bind ?_
   rw[hashByValue_scannable 8 hsc]
   refine wpAny_pure ?_
   refine Gq ?_ ho hD.ex hD.data hel1 hp1 hb1' ?_ ?_ ?_
   ·intro b s₁ Q' hq;cases b<;>first |exact wpAny_pure hq |exact wpAny_rule hq
   ·split
    ·exact hfits
    ·exact SetTable.fits_plain_off hfits
   ·split
    ·exact htab
    ·exact htab.Mu
   ·intro h' hsb hS';dsimp only;exact wpAny_pure (h h' true hsb hS')
  ·refine wpAny_bind (wpAny_pure ?_)
   simp only[↓reduceIte]
   refine Gq ?_ ho hD.ex hD.data hel1 hp1 hb1' hfits htab ?_
   ·intro b s₁ Q' hq;cases b<;>first |exact wpAny_pure hq |exact wpAny_rule hq
   ·intro h' hsb hS';dsimp only;exact wpAny_pure (h h' true hsb hS')
end
section
variable{prog:Program}{w:World}{A:Around}{R:Result→Shared→Prop}{I:Addr}{fp wr:List Addr}{G:Array GenState→Array GenState→Prop}{n:Nat}{P:Nat→Value→Prop}{St:Nat→Shared→Prop}
theorem JV(W:WalksS prog w A.in1 I fp wr G n P St)(S:Addr)(hSf:S∉fp)
  (val:Nat→Int) (hval:∀i v,P i v→∃t,v= .int (val i) t) (hb:n+1<scanBound):
  ∀(k i:Nat)(s:Shared),n - i=k→i≤n→St i s→CH prog w s.heap S (firstMet val i)→
   (∀s',Moved (S::wr) G s s'→CH prog w s'.heap S (firstMet val n)→R (.ok (.ret .none)) s')→
   codeAny (model prog w) A (.builtin "set.update.loop" ⟨[.ref S,.ref I],[]⟩) R s:=by
 have hSw:S∉wr:=fun h=>hSf (W.sub _ h)
 have hsub:∀b∈wr,b∈S::wr:=fun b hb=>List.mem_cons_of_mem _ hb
 intro k
 induction k with
 |zero=>
  intro i s hk hi hst hS hR
  have hin:i=n:=by omega
  subst hin
  refine codeAny_builtin PyProof.Rows.F.entry_set_update_loop ?_
  rw[Around.under_plainId PyProof.Rows.F.plain_set_update_loop _]
  show wpAny _ A.in1 (pyNext (.ref I)>>= _) _ _ s
  refine wpAny_bind (W.done s _ _ hst fun s' hm=> ?_)
  show wpAny _ A.in1 (ret Value.none) _ _ s'
  exact wpAny_pure (hR s' (hm.mono hsub) (by
   obtain⟨o,es,ep,t,ho,rest⟩:=hS
   exact⟨o,es,ep,t,hm.heap S _ hSw ho,rest⟩))
 |succ k ih=>
  intro i s hk hi hst hS hR
  have hlt:i<n:=by omega
  refine codeAny_builtin PyProof.Rows.F.entry_set_update_loop ?_
  rw[Around.under_plainId PyProof.Rows.F.plain_set_update_loop _]
  show wpAny _ A.in1 (pyNext (.ref I)>>= _) _ _ s
  refine wpAny_bind (W.item i s _ _ hlt hst fun v s' hP hst' hm=> ?_)
  obtain⟨t,rfl⟩:=hval i v hP
  have hS':CH prog w s'.heap S (firstMet val i):=by
   obtain⟨o,es,ep,tb,ho,rest⟩:=hS
   exact⟨o,es,ep,tb,hm.heap S _ hSw ho,rest⟩
  show wpAny _ A.in1 (holding [Value.int (val i) t] (setAdd S (.int (val i) t))>>= _) _ _ s'
  refine wpAny_bind (wpAny_holding ?_)
  unfold setAdd
  refine wpAny_holding ?_
  refine wpAny_bind ((intKind prog w).pyHash (k:=val i) (intKind_is _ _ _ _) ?_)
  have hroom:(firstMet val i).length+1<scanBound:=by have:=firstMet_length_le val i;omega
  refine N3 (s:={ s' with toks:=s'.toks+1 }) (intKind_is _ _ _ _) rfl hS' hroom fun h' bb hsb hS2=> ?_
  rw[←firstMet_succ]at hS2
  refine wpAny_pure ⟨plainId_quiet PyProof.Rows.F.plain_set_update_loop _,ih (i+1) _ (by omega) hlt (W.frame _ s' _ _ hst' (Nat.le_succ _) fun b hb o e=> ?_) hS2 fun s'' hm'' hS''=> ?_⟩
  ·rw[hsb.2 b (fun h:b=S=>hSf (by rw[←h];exact hb))];exact e
  ·refine hR s'' (Moved.trans W.gtrans ((hm.mono hsub).then_heap (Nat.le_succ _) fun b o hb e=> ?_) hm'') hS''
   rw[hsb.2 b (fun h:b=S=>hb (by rw[h];exact List.mem_cons_self))];exact e
end
section
variable{prog:Program}{w:World}{A:Around}{E:Value→Shared→Prop}{s:Shared}
theorem L0(a:Value){Q₁:Value→Shared→Prop}
  (h:Q₁ (.ref s.heap.objs.size) { s with heap:=s.heap.push { cls:=.type "set",dict:=none,data:=.set #[] 0 (.fresh 0 0 (pU w)) } }):
  codeAny (model prog w) A (.call (.builtin "set.__new__") ⟨[.type "set",a],[]⟩) (wants Q₁ E) s:=by
 refine codeAny_of_tree ?_
 show wpAny _ A.in1 (do checkBuiltinCall "set.__new__" ⟨[.type "set",a],[]⟩;again (.builtin "set.__new__" ⟨[.type "set",a],[]⟩)) _ _ s
 refine wpAny_bind (wpAny_of_eq (PySem.F.newCall_set_1 a) (wpAny_pure ⟨plainId_quiet PySem.F.plain_set_new _,codeAny_builtin PySem.F.entry_set_new ?_⟩))
 rw[Around.under_plainId PySem.F.plain_set_new _]
 unfold Builtin.«set.__new__» Builtin.Frozenset.newClass
 have hsub:=sub_set_self
 obtain⟨hp,g,d,tk,os⟩:=s
 dsimp only
 wp_walk
 refine wpAny_askSetting (wpAny_pure ?_)
 dsimp only
 simp only[newObj]
 refine wpAny_bind (wpAny_alloc (wpAny_pure ?_))
 exact wpAny_pure h
theorem JW{l:Addr}{items:Array Value}{ns:List Int}{Q:Value→Shared→Prop}
  (hh:A.handled=none) (hl:s.heap.IsList l items) (hi:IntsAre items.toList ns) (hb:items.size+1<scanBound)
  (h:∀(h':Heap)(tk:Nat),CH prog w h' s.heap.objs.size (firstMet (fun i=>ns.getD i 0) items.size)→
   (∀b o,b<s.heap.objs.size→s.heap.get? b=some o→h'.get? b=some o)→Q (.ref s.heap.objs.size) { s with heap:=h',toks:=tk }):
  wpAny (model prog w) A (call (.type "set") [.ref l]) Q E s:=by
 obtain⟨c,tl,hmro⟩:=PySem.F.called_set.mro
 have hmade:=PySem.F.called_set.made
 have hsub:=PySem.F.called_set.sub
 refine wpAny_call (codeAny_of_tree ?_)
 show wpAny _ _ (callAny (.type "set") _) _ _ _
 refine wpAny_pure ⟨Code.quiet_builtin _ (by decide +kernel),codeAny_builtin PySem.F.entry_type_call ?_⟩
 rw[Around.under_plain (weight_type_call_type "set" [.ref l] []) rfl]
 have h1:=PySem.F.called_set.notType
 have h2:=PySem.F.called_set.canCreate
 have hct:=PySem.F.typeCall_set_1 (.ref l)
 repeat (any_goals (first |assumption |wp_step))
 refine codeAny_mono (L0 (.ref l) (E:=E) (Q₁:=fun obj s₁=>obj= .ref s.heap.objs.size∧s₁={ s with heap:=s.heap.push { cls:=.type "set",dict:=none,data:=.set #[] 0 (.fresh 0 0 (pU w)) } }) ⟨rfl,rfl⟩) fun r s₁ hr=> ?_
 cases r with
 |error e=>exact hr
 |ok fl=>
  cases fl with
  |ret obj=>
   obtain⟨rfl,rfl⟩:=hr
   have hS:(s.heap.push { cls:=.type "set",dict:=none,data:=.set #[] 0 (.fresh 0 0 (pU w)) }).get? s.heap.objs.size=some { cls:=.type "set",dict:=none,data:=.set #[] 0 (.fresh 0 0 (pU w)) }:=Heap.get?_push_size _ rfl
   have hT:Shared.TypeIs { s with heap:=s.heap.push { cls:=.type "set",dict:=none,data:=.set #[] 0 (.fresh 0 0 (pU w)) } } (.ref s.heap.objs.size) "set":=⟨_,hS,rfl⟩
   have hli:=PySem.F.called_set.init.lookup
   have hbi:=PySem.F.called_set.init.bind (.ref s.heap.objs.size)
   repeat (any_goals (first |assumption |wp_step))
   refine codeAny_mono (codeAny_call_builtin (R:=wants (fun r s₂=>r= .none∧∃h' tk,s₂={ s with heap:=h',toks:=tk }∧
     CH prog w h' s.heap.objs.size (firstMet (fun i=>ns.getD i 0) items.size)∧
     (∀b o,b<s.heap.objs.size→s.heap.get? b=some o→h'.get? b=some o)) E) PySem.F.called_set.init.plain PySem.F.entry_set_init (check_set_init_1 hT ?_)) fun r₂ s₂ hr₂=> ?_
   ·obtain⟨ol,hol,hcl,nl,hdl⟩:=hl
    obtain⟨ocls,odict,odata,oslots⟩:=ol
    simp only at hcl hdl
    subst hcl;subst hdl
    have hol':(s.heap.push { cls:=.type "set",dict:=none,data:=.set #[] 0 (.fresh 0 0 (pU w)) }).get? l=some { cls:=.type "list",dict:=odict,data:=.seq items nl,slots:=oslots }:=Heap.get?_push_of_some _ hol
    have hsls:=PySem.F.sub_list_set
    have hslf:=PySem.F.sub_list_frozenset
    have hne:(Value.type "list"==Value.type "dict")=false:=by decide
    have hl1:(s.heap.push { cls:=.type "set",dict:=none,data:=.set #[] 0 (.fresh 0 0 (pU w)) }).IsList l items:=⟨_,hol',rfl,nl,rfl⟩
    unfold Builtin.«set.__init__» noKeywords Builtin.Frozenset.updateFrom
    generalize hPI:pyIter=PI
    wp_walk
    subst hPI
    refine wpAny_pyIter_list hl1 ?_
    refine wpAny_bind (wpAny_runValue ?_)
    have hlS:l<s.heap.objs.size:=Heap.lt_size hol
    have hh3:A.in1.in1.in1.handled=none:=by simp[hh]
    have hneI:l≠(s.heap.push { cls:=.type "set",dict:=none,data:=.set #[] 0 (.fresh 0 0 (pU w)) }).objs.size:=by
     rw[Heap.size_push];exact Nat.ne_of_lt (Nat.lt_succ_of_lt hlS)
    have hSf:s.heap.objs.size∉[(s.heap.push { cls:=.type "set",dict:=none,data:=.set #[] 0 (.fresh 0 0 (pU w)) }).objs.size,l]:=by
     rw[Heap.size_push];simp only[List.mem_cons,List.mem_singleton,List.not_mem_nil,or_false,not_or]
     exact⟨Nat.ne_of_lt (Nat.lt_succ_self _),Nat.ne_of_gt hlS⟩
    have hval:∀(i:Nat)(v:Value),items[i]? =some v→∃t,v= .int ((fun i=>ns.getD i 0) i) t:=fun i v hv=>
     IntsAre.int_at hi i v (by rw[Array.getElem?_toList];exact hv)
    refine JV ((Walks.list hh3 _ l hneI items).toS) s.heap.objs.size
     hSf (fun i=>ns.getD i 0) hval hb (items.size - 0) 0 _ (by omega) (Nat.zero_le _)
     ⟨⟨_,Heap.get?_push_size _ rfl,rfl,rfl⟩,(hl1.push _)⟩ ?hS0 ?hR
    case hS0=>
     exact⟨_,#[],0,_,Heap.get?_push_of_some _ hS,⟨rfl,rfl,rfl⟩,rfl,fun e he=>by simp at he,by exact List.Perm.refl [],by decide,rfl,Cg.fresh _⟩
    case hR=>
     intro s' hm hS'
     obtain⟨h',g',d',tk',os'⟩:=s'
     have eg:g'=s.gens:=hm.gens
     have ed:d'=s.drawn:=hm.drawn
     have eo:os'=s.os:=hm.os
     subst eg;subst ed;subst eo
     show wpAny _ _ _ _ _ _
     refine wpAny_pure ?_
     show wpAny _ _ (ret Value.none) _ _ _
     refine wpAny_pure ⟨rfl,h',tk',rfl,hS',fun b o hb e=> ?_⟩
     have hb1:b≠s.heap.objs.size:=Nat.ne_of_lt hb
     have hb2:b≠(s.heap.push { cls:=.type "set",dict:=none,data:=.set #[] 0 (.fresh 0 0 (pU w)) }).objs.size:=by
      rw[Heap.size_push];exact Nat.ne_of_lt (Nat.lt_succ_of_lt hb)
     exact hm.heap b o (by simp only[List.mem_cons,List.mem_singleton,List.not_mem_nil,or_false,not_or];exact⟨hb1,hb2⟩) (Heap.get?_push_of_some _ (Heap.get?_push_of_some _ e))
   ·cases r₂ with
    |error e=>exact hr₂
    |ok fl₂=>
     cases fl₂ with
     |ret r=>
      obtain⟨rfl,h',tk,rfl,hS',hk'⟩:=hr₂
      repeat (any_goals (first |assumption |wp_step))
      exact h _ _ hS' hk'
     |_=>exact hr₂.elim
  |_=>exact hr.elim
end
theorem cT:Slot "set_iterator" "__next__" "set_iterator.__next__":=
 .of (owner:="set_iterator") (n:="__next__") (by rw[typeLookup_type,builtinLookup_eq_fast];kernel_rfl) (by decide +kernel) (by decide +kernel) (by decide +kernel)
  (by first |exact .inl (by decide +kernel)|exact .inr (by decide +kernel)) (by rw[isSubtype_type];kernel_rfl)
theorem pN:Slot "set_iterator" "__iter__" "set_iterator.__iter__":=
 .of (owner:="set_iterator") (n:="__iter__") (by rw[typeLookup_type,builtinLookup_eq_fast];kernel_rfl) (by decide +kernel) (by decide +kernel) (by decide +kernel)
  (by first |exact .inl (by decide +kernel)|exact .inr (by decide +kernel)) (by rw[isSubtype_type];kernel_rfl)
theorem o9:entryFor table "set_iterator.__next__"=some Builtin.«set_iterator.__next__»:=entryFor_of_fast (by kernel_rfl)
theorem wX:entryFor table "set_iterator.__iter__"=some Builtin.«dict_keyiterator.__iter__»:=
 entryFor_alias (id':="dict_keyiterator.__iter__") (by kernel_rfl) rfl (by decide +kernel) (by kernel_rfl)
theorem BX:entryFor table "set.__iter__"=some Builtin.«frozenset.__iter__»:=
 entryFor_alias (id':="frozenset.__iter__") (by kernel_rfl) rfl (by decide +kernel) (by kernel_rfl)
theorem v7:Manifest.owners.lookup (String.ofList ['r','o','t','a','r','e','t','i','_','t','e','s'].reverse)=some Manifest.sig_set_iterator:=by kernel_rfl
theorem qx(a:Value):argsOk "set_iterator.__next__" ⟨[a],[]⟩:=by
 unfold argsOk;rw[signature?_of (id:="set_iterator.__next__") (n:=['_','_','t','x','e','n','_','_']) (o:=['r','o','t','a','r','e','t','i','_','t','e','s']) (by kernel_rfl) v7];kernel_rfl
theorem yF(a:Value):argsOk "set_iterator.__iter__" ⟨[a],[]⟩:=by
 unfold argsOk;rw[signature?_of (id:="set_iterator.__iter__") (n:=['_','_','r','e','t','i','_','_']) (o:=['r','o','t','a','r','e','t','i','_','t','e','s']) (by kernel_rfl) v7];kernel_rfl
theorem wW{α:Type}:∀{l:List α}{i:Nat}(h:i<l.length),(l[i]::l.eraseIdx i).Perm l
 |[],_,h=>absurd h (Nat.not_lt_zero _)
 |x::l,0,h=>.refl _
 |x::l,i+1,h=>by
  have ih:=wW (l:=l) (i:=i) (by simpa using h)
  rw[List.getElem_cons_succ,List.eraseIdx_cons_succ]
  exact(List.Perm.swap _ _ _).trans (List.Perm.cons x ih)
theorem Oc{α:Type}(next:Nat→Nat):∀(fuel k:Nat)(left:List α)(out:Array α),left.length=fuel→(pickOrder.go next fuel k left out).toList.Perm (out.toList++left):=by
 intro fuel
 induction fuel with
 |zero=>
  intro k left out h
  rw[List.length_eq_zero_iff.mp h]
  unfold pickOrder.go
  rw[List.append_nil]
 |succ n ih=>
  intro k left out h
  unfold pickOrder.go
  have hlt:next k % left.length<left.length:=Nat.mod_lt _ (by omega)
  rw[List.getElem?_eq_getElem hlt]
  dsimp only
  refine(ih _ _ _ (by rw[List.length_eraseIdx_of_lt hlt];omega)).trans ?_
  rw[Array.toList_push,List.append_assoc]
  refine List.Perm.append_left _ ?_
  exact wW hlt
theorem JY{α:Type}(next:Nat→Nat)(xs:Array α):(pickOrder next xs).toList.Perm xs.toList:=by
 have:=Oc next xs.size 0 xs.toList #[] (Array.length_toList ..)
 simpa[pickOrder]using this
section
variable{prog:Program}{w:World}{A:Around}{E:Value→Shared→Prop}{s:Shared}
theorem wp_choose{M:Model}{src:Source}{n:Nat}{Q:Nat→Shared→Prop}(hn:n≠0)(h:∀i d,i<n→Q i { s with drawn:=d }):wpAny M A (choose src n) Q E s:=fun Γ p hΓ=>⟨hn,h _ _ (Nat.mod_lt _ (Nat.pos_of_ne_zero hn))⟩
theorem DP{α:Type}{M:Model}:∀(n:Nat)(xs:List α)(s:Shared)(Q:List α→Shared→Prop),xs.length=n→(∀ys d,ys.Perm xs→Q ys { s with drawn:=d })→wpAny M A (drawOrder n xs) Q E s:=by
 intro n
 induction n with
 |zero=>
  intro xs s Q hl h
  rw[List.length_eq_zero_iff.mp hl]at h ⊢
  unfold drawOrder
  exact wpAny_pure (h [] s.drawn (.refl _))
 |succ n ih=>
  intro xs s Q hl h
  cases xs with
  |nil=>cases hl
  |cons x xs=>
   unfold drawOrder
   refine wpAny_bind (wp_choose (by simp) fun i d hi=> ?_)
   rw[List.getElem?_eq_getElem hi]
   dsimp only
   refine wpAny_bind (ih _ _ _ (by rw[List.length_eraseIdx_of_lt hi];simpa using hl) fun ys d' hp=>wpAny_pure (h _ d' ?_))
   exact(List.Perm.cons _ hp).trans (wW hi)
end
def slotAt(t:SetTable)(i:Nat):Nat:=if i=0 then 0 else t.place.getD (i - 1) 0+1
def vp(w:World)(a tp:Addr)(es:Array (Int×Value))(ep:Nat)(t:SetTable)(first:Value)(i:Nat)(xs:List Value)(h:Heap):Prop:=
 (w.params.followText "set-order"=true∧(∃k u,first= .int k u)∧xs=(pickOrder (w.params.setOrder a ep) es).toList.map (·.2))∨
 (w.params.followText "set-order"=false∧(!t.plain&&decide (es.size>1))=true∧first= .ref tp∧∃(ps:List Nat)(ot:Obj)(n:Nat),h.get? tp=some ot∧ot.data= .seq (ps.map fun(p:Nat)=>rawInt p).toArray n∧xs=ps.map (fun p=>(es[p]?.map (·.2)).getD .none)∧(∀p∈ps,p<es.size))∨
 (w.params.followText "set-order"=false∧(!t.plain&&decide (es.size>1))=false∧first= .int (slotAt t i:Nat) 0∧xs=es.toList.map (·.2))
structure Gs(w:World)(a tp it:Addr)(o:Obj)(es:Array (Int×Value))(ep:Nat)(t:SetTable)(xs:List Value)(i:Nat)(h:Heap):Prop where
 set:h.get? a=some o
 Tq:∃oi first,h.get? it=some oi∧oi.cls= .type "set_iterator"∧oi.data= .fields #[first,.int (i:Nat) 0,.ref a,.int (es.size:Nat) 0,.int (ep:Nat) 0]∧vp w a tp es ep t first i xs h
section
variable{prog:Program}{w:World}{A:Around}{E:Value→Shared→Prop}{s:Shared}{a tp it:Addr}{o:Obj}{es:Array (Int×Value)}{ep:Nat}{t:SetTable}{L:List Int}{xs:List Value}
theorem yJ{M:Model}{Q:Bool→Shared→Prop}(h:Q (M.w.params.followText "set-order") s):wpAny M A setsByText Q E s:=wpAny_bind (wpAny_askSetting (wpAny_pure h))
theorem HD(hr:t.place.toList.Pairwise (·< ·)){i:Nat}(hi:i≤t.place.size):SetTable.below t.place (slotAt t i)=i:=by
 obtain⟨b1,b2,b3⟩:=below_at hr (slotAt t i)
 have lo:i≤SetTable.below t.place (slotAt t i):=by
  rcases Nat.eq_zero_or_pos i with z |z
  ·omega
  ·apply Decidable.byContradiction
   intro c
   have hk:i - 1<t.place.size:=by omega
   have hg:t.place[i - 1]? =some t.place[i - 1]:=Array.getElem?_eq_getElem hk
   have:=b3 (i - 1) _ (by omega) hg
   have e:slotAt t i=t.place[i - 1]+1:=by unfold slotAt;rw[if_neg (by omega)];simp[Array.getD,hk]
   omega
 have hi2:SetTable.below t.place (slotAt t i)≤i:=by
  apply Decidable.byContradiction
  intro c
  have hk:i<t.place.size:=by omega
  have hg:t.place[i]? =some t.place[i]:=Array.getElem?_eq_getElem hk
  have h1:=b2 i _ (by omega) hg
  unfold slotAt at h1
  rcases Nat.eq_zero_or_pos i with z |z
  ·rw[if_pos z]at h1;omega
  ·rw[if_neg (by omega)]at h1
   have hk':i - 1<t.place.size:=by omega
   have h2:=Am hr (Array.getElem?_eq_getElem hk') hg (by omega)
   simp[Array.getD,hk']at h1
   omega
 omega
theorem A7(hD:Ak prog w o es ep t L)(hs:s.heap.get? a=some o){i:Nat}{k:Int}{u:Tok}{Q:Option (Value×Nat)→Shared→Prop}(hf:vp w a tp es ep t (.int k u) i xs s.heap)(hi:i≤xs.length)(hz:xs.length=es.size)
  (h1:∀x n,xs[i]? =some x→(w.params.followText "set-order"=false→n=slotAt t (i+1))→Q (some (x,n)) s) (h2:xs[i]? =none→Q none s):
  wpAny (model prog w) A (setNext a k.toNat i ep) Q E s:=by
 unfold setNext
 refine wpAny_bind (wpAny_setState_of hs hD.data hD.ft ?_)
 dsimp only
 refine wpAny_bind (yJ ?_)
 rcases hf with⟨b,_,ex⟩|⟨b,_,ex,_⟩|⟨b,dr,ef,ex⟩
 ·have b:(model prog w).w.params.followText "set-order"=true:=b
  rw[b]
  simp only[bne_self_eq_false,Bool.false_eq_true,if_false,if_true]
  refine wpAny_bind ?_
  unfold setWalk
  refine wpAny_bind (wpAny_setState_of hs hD.data hD.ft ?_)
  dsimp only
  refine wpAny_bind (yJ ?_)
  rw[b]
  simp only[if_true]
  refine wpAny_bind (wpAny_askSetting (wpAny_pure (wpAny_pure ?_)))
  have e:(pickOrder ((model prog w).w.params.setOrder a ep) es)[i]?.map (·.2)=xs[i]? :=by rw[ex,List.getElem?_map,Array.getElem?_toList];rfl
  cases hp:(pickOrder ((model prog w).w.params.setOrder a ep) es)[i]? with
  |none=>rw[hp]at e;exact h2 e.symm
  |some y=>rw[hp]at e;exact h1 y.2 _ e.symm (fun z=>by rw[show w.params.followText "set-order"=true from b]at z;cases z)
 ·cases ex
 ·have b':(model prog w).w.params.followText "set-order"=false:=b
  rw[b']
  simp only[Bool.false_eq_true,if_false]
  show wpAny _ _ (do if(!t.plain&&decide (es.size>1))=true then _ else _) _ _ _
  rw[dr]
  simp only[Bool.false_eq_true,if_false]
  have hled:t.led=true:=by rw[hD.tb.led];unfold pU;rw[b];rfl
  have hfit:=hD.ft
  simp only[SetTable.fits,Bool.and_eq_true,beq_iff_eq,decide_eq_true_eq]at hfit
  have hil:i≤t.place.size:=by omega
  cases ef
  refine wpAny_bind ?_
  show wpAny _ _ (if(!t.led&& !es.isEmpty)=true then _ else _) _ _ _
  rw[hled]
  simp only[Bool.not_true,Bool.false_and,Bool.false_eq_true,if_false]
  refine wpAny_pure ?_
  have e0:(((slotAt t i:Nat):Int)).toNat=slotAt t i:=Int.toNat_natCast _
  rw[e0,HD hD.tb.rise hil]
  refine wpAny_pure ?_
  by_cases c:i<es.size
  ·have c1:i<t.place.size:=by omega
   have g1:es[i]? =some es[i]:=Array.getElem?_eq_getElem c
   have g2:t.place[i]? =some t.place[i]:=Array.getElem?_eq_getElem c1
   rw[g1,g2]
   refine h1 es[i].2 _ (by rw[ex,List.getElem?_map,Array.getElem?_toList,g1];rfl) fun _=> ?_
   unfold slotAt
   rw[if_neg (by omega)]
   simp[Array.getD,c1]
  ·have g1:es[i]? =none:=Array.getElem?_eq_none (by omega)
   rw[g1]
   exact h2 (by rw[ex,List.getElem?_map,Array.getElem?_toList,g1];rfl)
theorem vp.keep{first:Value}{i:Nat}{h h':Heap}(hf:vp w a tp es ep t first i xs h)(hk:∀o,h.get? tp=some o→h'.get? tp=some o):vp w a tp es ep t first i xs h':=by
 rcases hf with h |⟨b,dr,ef,ps,ot,n,e1,r⟩|h
 ·exact .inl h
 ·exact .inr (.inl ⟨b,dr,ef,ps,ot,n,hk _ e1,r⟩)
 ·exact .inr (.inr h)
theorem Il{h0:Heap}{Q:Option Value→Shared→Prop}(hh:A.handled=none)(hQ:∀h',Heap.ExtBut it h0 h'→Q none { s with heap:=h' })(he:Heap.ExtBut it h0 s.heap):
  wpAny (model prog w) A.in1 (do let e ←newExc (.type "StopIteration") [];raiseNew e) (fun(fin:PySem.Fin) s'=>∃v,fin= .done (.ret v)∧wpAny (model prog w) A (pure (some v)) Q E s')
   (fun e s'=>wpAny (model prog w) A (do let b ←isInstance e (.type "StopIteration");if b=true then pure none else throw e) Q E s') s:=by
 refine wpAny_bind ?_
 simp only[newExc,newTuple]
 refine wpAny_bind (wpAny_newObj_type ?_ (by size_fits))
 refine wpAny_bind (m:=firstArgMember _ _) (wpAny_of_eq (a:=Value.none) (by first |rfl |(simp only[firstArgMember];rfl)) ?_)
 refine wpAny_newObj_type ?_ (by size_fits)
 simp only[raiseNew]
 refine wpAny_bind (wpAny_handled ?_)
 rw[show A.in1.handled=none from hh]
 refine wpAny_bind (wpAny_pure (wpAny_throw ?_))
 refine wpAny_bind (wpAny_isInstance (T:="StopIteration") (b:=true) ⟨_,Heap.get?_push_size _ rfl,rfl⟩ isSubtype_stop ?_)
 exact wpAny_pure (hQ _ ((he.push _).push _))
theorem D6(hD:Ak prog w o es ep t L)(hz:xs.length=es.size)(hne:it≠a)(hnt:it≠tp){i:Nat}{x:Value}{Q:Option Value→Shared→Prop}(st:Gs w a tp it o es ep t xs i s.heap)(hx:xs[i]? =some x)
  (hQ:∀h',Gs w a tp it o es ep t xs (i+1) h'→Heap.SameBut it s.heap h'→Q (some x) { s with heap:=h' }):wpAny (model prog w) A (pyNext (.ref it)) Q E s:=by
 obtain⟨hs,oi,first,ho,hc,hd,hf⟩:=id st
 have hT:s.TypeIs (.ref it) "set_iterator":=⟨oi,ho,hc⟩
 have hil:i<xs.length:=(List.getElem?_eq_some_iff.mp hx).1
 unfold pyNext
 refine wpAny_bind (wpAny_attempt (wpAny_callSpecial?_slot (name:=Str.ofString "__next__") hT cT
  (wpAny_call_entry cT hT o9 ?_ (qx _))))
 show wpAny _ _ (fieldsOf (.ref it)>>= _) _ _ s
 refine wpAny_bind (wpAny_fieldsOf ho hd ?_)
 show wpAny _ _ (do if(((←setEntries a).size:Int) != ((es.size:Nat):Int))=true then _ else _) _ _ s
 refine wpAny_bind ?_
 unfold setEntries
 refine wpAny_bind (wpAny_setState_of hs hD.data hD.ft (wpAny_pure ?_))
 simp only[bne_self_eq_false,Bool.false_eq_true,if_false]
 have ei:((i:Nat):Int).toNat=i:=Int.toNat_natCast _
 have ee:((ep:Nat):Int).toNat=ep:=Int.toNat_natCast _
 rw[ei,ee]
 have s1:∀(v:Value),(s.heap.update it (Obj.mapFields (·.setIfInBounds 0 v))).get? it=some (Obj.mapFields (·.setIfInBounds 0 v) oi):=fun v=>Heap.get?_update_self _ ho (Obj.isFreed_of_fields (Obj.data_mapFields hd _))
 have hkt:∀{h':Heap},Heap.SameBut it s.heap h'→∀o,s.heap.get? tp=some o→h'.get? tp=some o:=fun sb o e=>(sb.2 tp hnt.symm).trans e
 cases first with
 |int k u=>
  dsimp only
  refine wpAny_bind (A7 hD hs hf (by omega) hz (fun y n hy hn=> ?_) (fun hno=>by rw[hx]at hno;cases hno))
  rw[hx]at hy
  cases hy
  dsimp only
  refine wpAny_bind (wpAny_setField ho hd (by simp) ?_)
  have d1:(Obj.mapFields (·.setIfInBounds 0 (rawInt (n:Nat))) oi).data= .fields (#[Value.int k u,.int (i:Nat) 0,.ref a,.int (es.size:Nat) 0,.int (ep:Nat) 0].setIfInBounds 0 (rawInt (n:Nat))):=Obj.data_mapFields hd _
  refine wpAny_bind (wpAny_setField (s1 _) d1 (by simp) (wpAny_pure ⟨x,rfl,wpAny_pure ?_⟩))
  have sb:=(Heap.SameBut.update s.heap it (Obj.mapFields (·.setIfInBounds 0 (rawInt (n:Nat))))).trans (Heap.SameBut.update _ it (Obj.mapFields (·.setIfInBounds 1 (rawInt ((i:Nat)+1)))))
  refine hQ _ ⟨(sb.2 a hne.symm).trans hs,_,rawInt (n:Nat),Heap.get?_update_self _ (s1 _) (Obj.isFreed_of_fields (Obj.data_mapFields d1 _)),?_,?_,?_⟩ sb
  ·exact(Obj.cls_mapFields ..).trans ((Obj.cls_mapFields ..).trans hc)
  ·rw[Obj.data_mapFields d1];simp[rawInt]
  ·refine vp.keep (h:=s.heap) ?_ (hkt sb)
   rcases hf with⟨b,_,ex⟩|⟨b,_,ex,_⟩|⟨b,dr,ef,ex⟩
   ·exact .inl ⟨b,⟨_,_,rfl⟩,ex⟩
   ·cases ex
   ·exact .inr (.inr ⟨b,dr,by rw[hn b];rfl,ex⟩)
 |ref q=>
  dsimp only
  rcases hf with⟨b,⟨_,_,e⟩,ex⟩|⟨b,dr,ef,ps,ot,n,e1,e2,ex,hps⟩|⟨b,dr,ef,ex⟩
  ·cases e
  ·cases ef
   refine wpAny_bind (wpAny_seqItems e1 e2 ?_)
   have hpl:i<ps.length:=by rw[ex,List.length_map]at hil;exact hil
   have g1:((ps.map fun(p:Nat)=>rawInt p).toArray)[i]? =some (rawInt ps[i]):=by simp[hpl]
   dsimp only
   rw[g1]
   show wpAny _ _ (setNextDrawn a (((ps[i]:Nat):Int)).toNat ep>>= _) _ _ _
   have hp:=hps _ (List.getElem_mem hpl)
   have g2:es[ps[i]]? =some es[ps[i]]:=Array.getElem?_eq_getElem hp
   have ev:es[ps[i]].2=x:=by
    rw[ex,List.getElem?_map,List.getElem?_eq_getElem hpl]at hx
    simp only[Option.map_some,Option.some.injEq]at hx
    rw[g2]at hx
    exact hx
   refine wpAny_bind ?_
   unfold setNextDrawn
   refine wpAny_bind (wpAny_setState_of hs hD.data hD.ft ?_)
   dsimp only
   rw[Int.toNat_natCast]
   simp only[bne_self_eq_false,Bool.false_eq_true,if_false]
   rw[g2]
   refine wpAny_pure ?_
   have ev':(es.toList.get ⟨ps[i],hp⟩).2=x:=ev
   rw[ev']
   refine wpAny_bind (wpAny_setField ho hd (by simp) (wpAny_pure ⟨x,rfl,wpAny_pure ?_⟩))
   have sb:=Heap.SameBut.update s.heap it (Obj.mapFields (·.setIfInBounds 1 (rawInt ((i:Nat)+1))))
   refine hQ _ ⟨(sb.2 a hne.symm).trans hs,_,.ref tp,Heap.get?_update_self _ ho (Obj.isFreed_of_fields (Obj.data_mapFields hd _)),?_,?_,?_⟩ sb
   ·exact(Obj.cls_mapFields ..).trans hc
   ·rw[Obj.data_mapFields hd];simp[rawInt]
   ·exact vp.keep (h:=s.heap) (.inr (.inl ⟨b,dr,rfl,ps,ot,n,e1,e2,ex,hps⟩)) (hkt sb)
  ·cases ef
 |_=>
  rcases hf with⟨b,⟨_,_,e⟩,ex⟩|⟨b,dr,ef,_⟩|⟨b,dr,ef,ex⟩
  ·cases e
  ·cases ef
  ·cases ef
theorem Ft(hh:A.handled=none)(hD:Ak prog w o es ep t L)(hz:xs.length=es.size)(hne:it≠a){Q:Option Value→Shared→Prop}(st:Gs w a tp it o es ep t xs xs.length s.heap)
  (hQ:∀h',Heap.ExtBut it s.heap h'→Q none { s with heap:=h' }):wpAny (model prog w) A (pyNext (.ref it)) Q E s:=by
 obtain⟨hs,oi,first,ho,hc,hd,hf⟩:=id st
 have hT:s.TypeIs (.ref it) "set_iterator":=⟨oi,ho,hc⟩
 have hx:xs[xs.length]? =none:=List.getElem?_eq_none (Nat.le_refl _)
 unfold pyNext
 refine wpAny_bind (wpAny_attempt (wpAny_callSpecial?_slot (name:=Str.ofString "__next__") hT cT
  (wpAny_call_entry cT hT o9 ?_ (qx _))))
 show wpAny _ _ (fieldsOf (.ref it)>>= _) _ _ s
 refine wpAny_bind (wpAny_fieldsOf ho hd ?_)
 show wpAny _ _ (do if(((←setEntries a).size:Int) != ((es.size:Nat):Int))=true then _ else _) _ _ s
 refine wpAny_bind ?_
 unfold setEntries
 refine wpAny_bind (wpAny_setState_of hs hD.data hD.ft (wpAny_pure ?_))
 simp only[bne_self_eq_false,Bool.false_eq_true,if_false]
 have ei:((xs.length:Nat):Int).toNat=xs.length:=Int.toNat_natCast _
 have ee:((ep:Nat):Int).toNat=ep:=Int.toNat_natCast _
 rw[ei,ee]
 cases first with
 |int k u=>
  dsimp only
  refine wpAny_bind (A7 hD hs hf (Nat.le_refl _) hz (fun y n hy hn=>by rw[hx]at hy;cases hy) (fun hno=> ?_))
  dsimp only
  refine wpAny_bind (wpAny_setField ho hd (by simp) ?_)
  exact Il (s:={ s with heap:=s.heap.update it (Obj.mapFields (·.setIfInBounds 2 Value.none)) }) hh hQ (Heap.SameBut.update ..).extBut
 |ref q=>
  dsimp only
  rcases hf with⟨b,⟨_,_,e⟩,ex⟩|⟨b,dr,ef,ps,ot,n,e1,e2,ex,hps⟩|⟨b,dr,ef,ex⟩
  ·cases e
  ·cases ef
   refine wpAny_bind (wpAny_seqItems e1 e2 ?_)
   have hpl:xs.length=ps.length:=by rw[ex,List.length_map]
   have g1:((ps.map fun(p:Nat)=>rawInt p).toArray)[xs.length]? =none:=by simp[hpl]
   dsimp only
   rw[g1]
   dsimp only
   refine wpAny_bind (wpAny_setField ho hd (by simp) ?_)
   have s1:(s.heap.update it (Obj.mapFields (·.setIfInBounds 0 (rawInt 0)))).get? it=some (Obj.mapFields (·.setIfInBounds 0 (rawInt 0)) oi):=Heap.get?_update_self _ ho (Obj.isFreed_of_fields (Obj.data_mapFields hd _))
   refine wpAny_bind (wpAny_setField s1 (Obj.data_mapFields hd _) (by simp) ?_)
   exact Il (s:={ s with heap:=(s.heap.update it (Obj.mapFields (·.setIfInBounds 0 (rawInt 0)))).update it (Obj.mapFields (·.setIfInBounds 2 Value.none)) }) hh hQ ((Heap.SameBut.update ..).trans (Heap.SameBut.update ..)).extBut
  ·cases ef
 |_=>
  rcases hf with⟨b,⟨_,_,e⟩,ex⟩|⟨b,dr,ef,_⟩|⟨b,dr,ef,ex⟩
  ·cases e
  ·cases ef
  ·cases ef
end
section
variable{prog:Program}{w:World}{A:Around}{E:Value→Shared→Prop}{s:Shared}{a:Addr}{o:Obj}{es:Array (Int×Value)}{ep:Nat}{t:SetTable}{L:List Int}
theorem GW(hD:Ak prog w o es ep t L)(hs:s.heap.get? a=some o){Q:Value→Shared→Prop}
  (h:∀it tp xs h' d,(∀b o,s.heap.get? b=some o→h'.get? b=some o)→s.heap.objs.size≤it→it≠tp→(tp=a∨s.heap.objs.size≤tp)→xs.Perm (es.toList.map (·.2))→Gs w a tp it o es ep t xs 0 h'→Q (.ref it) { s with heap:=h',drawn:=d }):
  wpAny (model prog w) A (pyIter (.ref a)) Q E s:=by
 have hT:s.TypeIs (.ref a) "set":=⟨o,hs,hD.ex.1⟩
 have alt:a<s.heap.objs.size:=Heap.lt_size hs
 refine wpAny_pyIter_slot hT PySem.F.slot_set_iter (wpAny_call_entry PySem.F.slot_set_iter hT BX ?_ (PySem.F.args_set_iter_1 _))
 unfold Builtin.«frozenset.__iter__»
 refine wpAny_bind (m:=Builtin.Frozenset.slot0 _ _) (wpAny_of_eq (a:=a) rfl ?_)
 refine wpAny_bind ?_
 unfold Builtin.Frozenset.sizeOf setEntries
 refine wpAny_bind (wpAny_bind (wpAny_setState_of hs hD.data hD.ft (wpAny_pure (wpAny_pure ?_))))
 refine wpAny_bind ?_
 unfold setDrawn
 refine wpAny_bind (wpAny_setState_of hs hD.data hD.ft ?_)
 dsimp only
 refine wpAny_bind (yJ (wpAny_pure ?_))
 have eF:(model prog w).w.params.followText "set-order"=w.params.followText "set-order":=rfl
 show wpAny _ _ (if(!(model prog w).w.params.followText "set-order"&&(!t.plain&&decide (es.size>1)))=true then _ else _) _ _ _
 rw[eF]
 have fin:∀(s1:Shared)(first:Value)(tp:Addr)(xs:List Value)(d:Drawn),s1={ s with heap:=s1.heap,drawn:=d }→(∀b o,s.heap.get? b=some o→s1.heap.get? b=some o)→s.heap.objs.size≤s1.heap.objs.size→tp<s1.heap.objs.size→(tp=a∨s.heap.objs.size≤tp)→xs.Perm (es.toList.map (·.2))→(∀h',(∀b o,s1.heap.get? b=some o→h'.get? b=some o)→vp w a tp es ep t first 0 xs h')→
   wpAny (model prog w) A.in1 (do let e ←setEpoch a;let v ←newFields "set_iterator" [first,rawInt 0,.ref a,rawInt (es.size:Nat),rawInt (e:Nat)];ret v) (fun(fin:PySem.Fin) s'=>∃v,fin= .done (.ret v)∧∃T' r,s'.TypeIs v T'∧typeLookup (.type T') "__next__"=pure (some r)∧Q v s') E s1:=by
  intro s1 first tp xs d e1 hk hsz htp htq hp hF
  refine wpAny_bind (wpAny_setEpoch_of (hk _ _ hs) hD.data hD.ft ?_)
  refine wpAny_bind (wpAny_newObj_type (wpAny_pure ⟨_,rfl,"set_iterator",_,⟨_,Heap.get?_push_size _ rfl,rfl⟩,cT.lookup,?_⟩))
  have hps:(s1.heap.push { cls:=.type "set_iterator",data:=.fields [first,rawInt 0,.ref a,rawInt (es.size:Nat),rawInt (ep:Nat)].toArray }).objs.size=s1.heap.objs.size+1:=size_push' ..
  have hk2:∀b o,s1.heap.get? b=some o→(s1.heap.push { cls:=.type "set_iterator",data:=.fields [first,rawInt 0,.ref a,rawInt (es.size:Nat),rawInt (ep:Nat)].toArray }).get? b=some o:=fun b o e=>Heap.get?_push_of_some _ e
  have:=h s1.heap.objs.size tp xs (s1.heap.push { cls:=.type "set_iterator",data:=.fields [first,rawInt 0,.ref a,rawInt (es.size:Nat),rawInt (ep:Nat)].toArray }) d (fun b o e=>hk2 _ _ (hk _ _ e)) hsz (Nat.ne_of_gt htp) htq hp
   ⟨hk2 _ _ (hk _ _ hs),_,first,Heap.get?_push_size _ rfl,rfl,rfl,hF _ hk2⟩
  rw[e1]
  exact this
 by_cases c:(!w.params.followText "set-order"&&(!t.plain&&decide (es.size>1)))=true
 ·rw[if_pos c]
  simp only[Bool.and_eq_true,Bool.not_eq_true']at c
  refine wpAny_bind (DP es.size (List.range es.size) _ _ (by simp) fun ys d hp=> ?_)
  have hyl:ys.length=es.size:=by rw[hp.length_eq];simp
  have hb:es.size≤sizeLine:=fits_of_scanBound hD.sz
  refine wpAny_bind (wpAny_newTuple ?_ (by rw[List.length_map];omega))
  have hps:(s.heap.push { cls:=.type "tuple",data:=.seq (ys.map fun(i:Nat)=>rawInt i).toArray }).objs.size=s.heap.objs.size+1:=size_push' ..
  refine fin { s with heap:=s.heap.push { cls:=.type "tuple",data:=.seq (ys.map fun(i:Nat)=>rawInt i).toArray },drawn:=d } (.ref s.heap.objs.size) s.heap.objs.size (ys.map fun p=>(es[p]?.map (·.2)).getD .none) d rfl (fun b o e=>Heap.get?_push_of_some _ e) (by show s.heap.objs.size≤(s.heap.push _).objs.size;omega) (by show s.heap.objs.size<(s.heap.push _).objs.size;omega) (.inr (Nat.le_refl _)) ?_ fun h' hk=> ?_
  ·have e:es.toList.map (·.2)=(List.range es.size).map fun p=>(es[p]?.map (·.2)).getD .none:=by
    apply List.ext_getElem?
    intro i
    rw[List.getElem?_map,List.getElem?_map,Array.getElem?_toList]
    by_cases ci:i<es.size
    ·rw[List.getElem?_range ci,Array.getElem?_eq_getElem ci]
     simp[ci]
    ·rw[Array.getElem?_eq_none (by omega),List.getElem?_eq_none (by simp;omega)]
     rfl
   rw[e]
   exact hp.map _
  ·exact .inr (.inl ⟨c.1,by rw[c.2.1,c.2.2];rfl,rfl,ys,_,0,hk _ _ (Heap.get?_push_size _ rfl),rfl,rfl,fun p hm=>by simpa using hp.mem_iff.mp hm⟩)
 ·rw[if_neg c]
  refine wpAny_bind (wpAny_pure ?_)
  cases b:w.params.followText "set-order" with
  |true=>
   refine fin s (rawInt 0) a ((pickOrder (w.params.setOrder a ep) es).toList.map (·.2)) s.drawn (by cases s;rfl) (fun b o e=>e) (Nat.le_refl _) alt (.inl rfl) ((JY _ _).map _) fun h' hk=>.inl ⟨b,⟨_,_,rfl⟩,rfl⟩
  |false=>
   rw[b]at c
   refine fin s (rawInt 0) a (es.toList.map (·.2)) s.drawn (by cases s;rfl) (fun b o e=>e) (Nat.le_refl _) alt (.inl rfl) (.refl _) fun h' hk=>.inr (.inr ⟨b,by simpa using c,rfl,rfl⟩)
theorem LZ(hh:A.handled=none)(hD:Ak prog w o es ep t L){it tp:Addr}{xs:List Value}(hne:it≠a)(hnt:it≠tp)(hz:xs.length=es.size):
  Walks prog w A it [it,a,tp] [it] xs.length (fun i v=>xs[i]? =some v) (Gs w a tp it o es ep t xs) where
 sub:=fun b hb=>by simp at hb;simp[hb]
 frame:=fun i h h' st hk=>by
  obtain⟨hs,oi,first,ho,hc,hd,hf⟩:=st
  exact⟨hk a (by simp) _ hs,oi,first,hk it (by simp) _ ho,hc,hd,hf.keep fun o e=>hk tp (by simp) o e⟩
 item:=fun i s Q E hi st hQ=>by
  obtain⟨x,hx⟩:∃x,xs[i]? =some x:=⟨_,List.getElem?_eq_getElem hi⟩
  refine D6 hD hz hne hnt st hx fun h' st' sb=> ?_
  exact hQ x h' s.toks hx st' fun b o hb e=>(sb.2 b (by simpa using hb)).trans e
 done:=fun s Q E st hQ=>Ft hh hD hz hne st fun h' eb=>hQ h' s.toks fun b o hb e=>eb b o (by simpa using hb) e
 self:=fun i s Q E st hQ=>by
  obtain⟨hs,oi,first,ho,hc,hd,hf⟩:=st
  have hT:s.TypeIs (.ref it) "set_iterator":=⟨oi,ho,hc⟩
  refine wpAny_pyIter_slot hT pN (wpAny_call_entry pN hT wX ?_ (yF _))
  exact wpAny_pure ⟨_,rfl,"set_iterator",_,hT,cT.lookup,hQ⟩
theorem MZ(hT:s.TypeIs (.ref a) "set"){Q:Bool→Shared→Prop}(h:Q false s):wpAny (model prog w) A (Builtin.List.listLengthHint (.ref a)) Q E s:=by
 unfold Builtin.List.listLengthHint
 refine wpAny_bind (wpAny_specialOf hT PySem.F.slot_set_len.lookup ?_)
 generalize hid:("set.__len__":String)=id0
 wp_delta
 rw[show splitId id0=some ("set","__len__")from by subst hid;decide +kernel]
 subst hid
 refine wpAny_bind (wpAny_isInstance (T:="set") (b:=true) hT (by rw[isSubtype_type];kernel_rfl) ?_)
 refine wpAny_ite_split (fun hab=>absurd hab (by decide)) (fun _=> ?_)
 refine wpAny_ite_split (fun _=> ?_) (fun hab=>absurd (by decide +kernel) hab)
 refine wpAny_bind (wpAny_typeOf hT ?_)
 exact wpAny_pure h
end
section
variable{prog:Program}{w:World}{A:Around}{E:Value→Shared→Prop}{s:Shared}{a:Addr}{o:Obj}{es:Array (Int×Value)}{ep:Nat}{t:SetTable}{L:List Int}
theorem Fq(hh:A.handled=none)(hD:Ak prog w o es ep t L)(hs:s.heap.get? a=some o){Q:List Value→Shared→Prop}
  (h:∀vs h' tk d,(∀b o,s.heap.get? b=some o→h'.get? b=some o)→vs.Perm (es.toList.map (·.2))→Q vs { s with heap:=h',toks:=tk,drawn:=d }):wpAny (model prog w) A (collect (.ref a)) Q E s:=by
 have alt:(a:Nat)<s.heap.objs.size:=Heap.lt_size hs
 have hSa:s.heap.objs.size≠a:=Nat.ne_of_gt alt
 have hb:es.size≤sizeLine:=fits_of_scanBound hD.sz
 unfold collect
 refine wpAny_bind (wpAny_runValue (codeAny_builtin PySem.F.entry_proto_collect ?_))
 rw[Around.under_plainId PySem.F.plain_proto_collect _]
 show wpAny _ A.in1 (newList []>>= fun l=>again (.builtin "list.__iadd__" ⟨[l,.ref a],[]⟩)) _ _ s
 refine wpAny_bind (wpAny_newObj_type ?_)
 refine wpAny_pure ⟨plainId_quiet PySem.F.plain_list_iadd _,codeAny_builtin PySem.F.entry_list_iadd ?_⟩
 rw[Around.under_plainId PySem.F.plain_list_iadd _]
 show wpAny _ A.in1 (Builtin.List.listExtendWith (.ref s.heap.objs.size) (.ref a) (.ref s.heap.objs.size)) _ _ _
 have hs1:(s.heap.push { cls:=.type "list",data:=.seq ([]:List Value).toArray }).get? a=some o:=Heap.get?_push_of_some _ hs
 have hS₁:(s.heap.push { cls:=.type "list",data:=.seq ([]:List Value).toArray }).get? s.heap.objs.size=some { cls:=.type "list",data:=.seq ([]:List Value).toArray }:=Heap.get?_push_size _ rfl
 have hT:Shared.TypeIs { s with heap:=s.heap.push { cls:=.type "list",data:=.seq ([]:List Value).toArray } } (.ref a) "set":=⟨o,hs1,hD.ex.1⟩
 have hsz1:(s.heap.push { cls:=.type "list",data:=.seq ([]:List Value).toArray }).objs.size=s.heap.objs.size+1:=size_push' ..
 unfold Builtin.List.listExtendWith
 refine wpAny_bind (wpAny_typeOf hT ?_)
 have h1:Builtin.List.listSameRef (.ref s.heap.objs.size) (.ref a)=false:=by simp[Builtin.List.listSameRef,hSa]
 have h2:(Value.type "set"==Value.type "list")=false:=by decide
 have h3:(Value.type "set"==Value.type "tuple")=false:=by decide
 simp only[h1,h2,h3,Bool.or_false,Bool.false_eq_true,if_false]
 refine wpAny_bind (GW (s:={ s with heap:=s.heap.push { cls:=.type "list",data:=.seq ([]:List Value).toArray } }) hD hs1 fun it tp xs h' d hk hit hitp htq hp st=> ?_)
 have hxz:xs.length=es.size:=by rw[hp.length_eq,List.length_map,Array.length_toList]
 have hit':s.heap.objs.size+1≤it:=by rw[←hsz1];exact hit
 have hne:it≠a:=fun z=>by rw[z]at hit';exact Nat.lt_irrefl _ (Nat.lt_trans alt hit')
 have hSit:s.heap.objs.size≠it:=Nat.ne_of_lt hit'
 have hStp:s.heap.objs.size≠tp:=by
  rcases htq with z |z
  ·rw[z];exact hSa
  ·have z:s.heap.objs.size+1≤tp:=by rw[←hsz1];exact z
   exact Nat.ne_of_lt z
 have W:=(LZ (A:=A.in1) (by simpa using hh) hD (it:=it) (tp:=tp) (xs:=xs) hne hitp hxz)
 have hS':=hk _ _ hS₁
 have hSf:s.heap.objs.size∉[it,a,tp]:=by
  simp only[List.mem_cons,List.not_mem_nil,or_false,not_or]
  exact⟨hSit,hSa,hStp⟩
 have kk:∀b o,s.heap.get? b=some o→h'.get? b=some o:=fun b o e=>hk _ _ (Heap.get?_push_of_some _ e)
 have fin:∀(hp1:Heap)(c tk:Nat),(∀b o,b≠s.heap.objs.size→h'.get? b=some o→hp1.get? b=some o)→hp1.get? s.heap.objs.size=some { cls:=.type "list",data:=.seq #[] c }→
   codeAny (model prog w) A (.builtin "list.extend.loop" ⟨[.ref s.heap.objs.size,.ref it,.ref s.heap.objs.size],[]⟩)
    (fun r s'=>match r with | .ok (.ret v)=>wpAny (model prog w) A (match v with | .ref a=>do(match(←load a).data with | .seq xs _=>pure xs.toList |_=>unsupported "internal:collect")|_=>unsupported "internal:collect") Q E s' | .ok _=>False | .error e=>E e s') { s with heap:=hp1,toks:=tk,drawn:=d }:=by
  intro hp1 c tk hk1 hSc
  refine codeAny_extend_loopS W.toS (by rw[hxz];exact hb) s.heap.objs.size hSf _ xs.length 0 _ #[] c rfl (Nat.zero_le _) (W.frame 0 _ _ st fun b hb o e=>hk1 b o (fun z=>hSf (z▸hb)) e) hSc (ItemsOf.nil _) fun s' acc' c' hm hS2 hacc=> ?_
  rw[Moved.eq_with hm]
  show wpAny _ A (load s.heap.objs.size>>= _) _ _ _
  refine wpAny_bind (wpAny_load hS2 (wpAny_pure ?_))
  refine h acc'.toList s'.heap s'.toks d (fun b o e=>hm.heap b o (fun hmem=> ?_) (hk1 b o (Nat.ne_of_lt (Heap.lt_size e)) (kk b o e))) ?_
  ·rcases List.mem_cons.mp hmem with z |hmem
   ·exact absurd (Heap.lt_size e) (by rw[z];exact Nat.lt_irrefl _)
   ·have hlt:=Heap.lt_size e
    rw[List.mem_singleton.mp hmem]at hlt
    exact Nat.lt_irrefl _ (Nat.lt_trans hlt hit')
  ·have:acc'.toList=xs:=by
    apply List.ext_getElem?
    intro i
    rw[Array.getElem?_toList]
    cases hi:acc'[i]? with
    |some v=>exact(hacc.2 i v hi).symm
    |none=>
     have:=Array.getElem?_eq_none_iff.mp hi
     rw[hacc.1]at this
     exact(List.getElem?_eq_none this).symm
   rw[this]
   exact hp
 refine wpAny_bind (wpAny_holding (MZ (s:={ s with heap:=h',drawn:=d }) ⟨o,kk _ _ hs,hD.ex.1⟩ ?_))
 refine wpAny_ite_split (fun _=> ?_) (fun _=>wpAny_pure ⟨plainId_quiet PySem.F.plain_extend_loop _,fin h' 0 s.toks (fun b o _ e=>e) hS'⟩)
 refine wpAny_bind (wpAny_rule ?_)
 refine wpAny_bind ?_
 show wpAny _ _ (updateSeq s.heap.objs.size (·.push .none)>>= fun _=>updateSeq s.heap.objs.size (·.pop)) _ _ _
 refine wpAny_bind (wpAny_updateSeq hS' rfl ?_)
 have hS₂:=Heap.get?_update_self (Obj.mapSeq (·.push Value.none)) hS' rfl
 refine wpAny_updateSeq (hz:=by seq_fits) hS₂ rfl ?_
 have hS₃:=Heap.get?_update_self (Obj.mapSeq (·.pop)) hS₂ rfl
 exact wpAny_pure ⟨plainId_quiet PySem.F.plain_extend_loop _,fin _ _ s.toks (fun b o hb e=>(Heap.get?_update_other _ _ (Ne.symm hb)).trans ((Heap.get?_update_other _ _ (Ne.symm hb)).trans e)) hS₃⟩
end
theorem vd(val:Nat→Int):∀i,(firstMet val i).Nodup
 |0=>by rw[firstMet_zero];exact List.nodup_nil
 |i+1=>by
  have ih:=vd val i
  rw[firstMet_succ]
  unfold step_dedup
  split
  ·exact ih
  ·rename_i h
   rw[List.nodup_append]
   refine⟨ih,by simp,?_⟩
   intro x hx y hy e
   simp at hy
   exact h (by rw[List.any_eq_true];exact⟨x,hx,by simp[e,hy]⟩)
theorem EC(ns:List Int)(x:Int):x∈firstMet (fun i=>ns.getD i 0) ns.length↔x∈ns:=by
 have e:=firstMet_any (fun i=>ns.getD i 0) ns.length x
 have e2:(List.range ns.length).map (fun i=>ns.getD i 0)=ns:=by
  apply List.ext_getElem?
  intro i
  rw[List.getElem?_map]
  by_cases c:i<ns.length
  ·rw[List.getElem?_range c,List.getElem?_eq_getElem c]
   simp[List.getD_eq_getElem?_getD,List.getElem?_eq_getElem c]
  ·rw[List.getElem?_eq_none (by simp;omega),List.getElem?_eq_none (by omega)]
   rfl
 rw[e2]at e
 constructor
 ·intro h
  have:(firstMet (fun i=>ns.getD i 0) ns.length).any (·==x)=true:=by rw[List.any_eq_true];exact⟨x,h,by simp⟩
  rw[e,List.any_eq_true]at this
  obtain⟨y,hy,q⟩:=this
  simp at q
  rw[←q];exact hy
 ·intro h
  have:ns.any (·==x)=true:=by rw[List.any_eq_true];exact⟨x,h,by simp⟩
  rw[←e,List.any_eq_true]at this
  obtain⟨y,hy,q⟩:=this
  simp at q
  rw[←q];exact hy
section
variable{X:Cx}{pins:List (Addr×Obj)}{σ:St}{H:Hp}{s:Shared}{h':Heap}
theorem Inv.Rz{t':Nat}{d':Drawn}(I:Inv X pins σ H s)(k:∀b u,s.heap.get? b=some u→h'.get? b=some u):Inv X pins σ H { s with heap:=h',toks:=t',drawn:=d' }:=
 I.call (g':=s.gens) (ch:=[]) (Un.kept k) (I.hok.kept k) I.bare (fun b z=>absurd z (by simp))
abbrev Fs(P:Program)(w:World)(a:Addr)(L:List Int):HO:=.ext fun h=>CH P w h a L
theorem N0{P:Program}{w:World}{H:Hp}{h:Heap}{a:Addr}{L:List Int}(hS:CH P w h a L):cM P w H h a (Fs P w a L):=
 ⟨hS,(let ⟨o,_,_,_,ho,_⟩:=hS;⟨o,ho⟩),fun h1 h2 ⟨o,es,ep,t,ho,r⟩ k=>⟨o,es,ep,t,k _ ho,r⟩⟩
def PD(P:Program)(w:World)(K:PySem.W.Frag):List V→Hp→VK→Prop:=fun vs H Q=>∃(l:Addr)(ns:List Int),vs=[.ref l]∧bW K H l (ns.map V.int)∧ns.length+1<scanBound∧
 ∀L p,L.Nodup→(∀x,x∈L↔x∈ns)→H p=none→Q (.ref p) (upd H p (Fs P w p L))
theorem OL(hc:X.calm=true):wu X (.type "set") (PD X.prog X.w X.K):=by
 intro pins s σ H vs us Q I r h
 obtain⟨l,ns,rfl,hs,hz,q⟩:=h
 obtain⟨its,rv,hl,_⟩:=I.list hs
 rw[Vals.L7 r]
 have hlen:=rv.length
 rw[List.length_map]at hlen
 refine JW (I.ok.hd hc) hl.isList (by simpa using rv.ints) (by rw[List.size_toArray,←hlen];exact hz) fun h' tk hS hk=> ?_
 have ez:its.toArray.size=ns.length:=by rw[List.size_toArray,hlen]
 rw[ez]at hS
 have hk':∀b u,s.heap.get? b=some u→h'.get? b=some u:=fun b u e=>hk b u (Heap.lt_size e) e
 exact⟨.ref _,upd H s.heap.objs.size (Fs X.prog X.w s.heap.objs.size _),I.laid hk' (Nat.le_refl _) (N0 hS),rfl,q _ _ (vd _ _) (EC ns) (I.hok.fresh (Nat.le_refl _))⟩
def Fy(P:Program)(w:World):List V→Hp→VK→Prop:=fun vs H Q=>∃(a:Addr)(L:List Int),vs=[.ref a]∧H a=some (Fs P w a L)∧
 ∀(ks:List Int)(p:Addr),ks.Pairwise (·≤·)→ks.Perm L→H p=none→Q (.ref p) (upd H p (.lst (ks.map V.int)))
theorem RB{prog:Program}{w:World}{s:Shared}:PyProof.Rows.G.LtAt prog w s PyProof.Rows.intKind oneType':=by
 intro A E x y a b Q ha hb h
 exact intKind_oneLt prog w A E s x y a b ha hb h
theorem Ko{es:List (Int×Value)}{P:Program}{w:World}(h:ElemsOf (PySem.intKind P w) es):IntsAre (es.map (·.2)) (es.map fun e=>numOf e.2):=by
 induction es with
 |nil=>exact .nil
 |cons e es ih=>
  obtain⟨⟨k,hk,_⟩,_⟩:=h e (.head _)
  obtain⟨t,ht⟩:=Value.isInt_shape hk
  rw[List.map_cons,List.map_cons,ht]
  exact .cons k t (ih fun x hx=>h x (.tail _ hx))
theorem IntsAre.PR{vs vs':List Value}{ns:List Int}(h:IntsAre vs ns)(p:vs'.Perm vs):IntsAre vs' (vs'.map numOf)∧(vs'.map numOf).Perm ns:=by
 have e:ns=vs.map numOf:=h.nums.symm
 refine⟨?_,by rw[e];exact p.map _⟩
 have all:∀v∈vs',∃n t,v=Value.int n t:=fun v hv=>h.all v (p.mem_iff.mp hv)
 clear h e p
 induction vs' with
 |nil=>exact .nil
 |cons v vs' ih=>
  obtain⟨n,t,rfl⟩:=all v (.head _)
  exact .cons n t (ih fun u hu=>all u (.tail _ hu))
theorem Hv(hc:X.calm=true):wu X (.builtin "sorted") (Fy X.prog X.w):=by
 intro pins s σ H vs us Q I r h
 obtain⟨a,L,rfl,ha,q⟩:=h
 rw[Vals.L7 r]
 obtain⟨⟨o,es,ep,t,ho,hD⟩,_,_⟩:=I.hok a _ ha
 refine Calls.call_function_entry kind_sorted plain_sorted entry_sorted (args_sorted1 _) ?_
 unfold Builtin.«sorted»
 refine wpAny_bind (m:=checkCount "sorted" 1 1 _) (wpAny_pure ?_)
 refine wpAny_bind (Fq (by simpa using I.ok.hd hc) hD ho fun vs h1 tk d hk hp=> ?_)
 have hvl:vs.length=es.size:=by rw[hp.length_eq,List.length_map,Array.length_toList]
 have hb:vs.length≤sizeLine:=by rw[hvl];exact fits_of_scanBound hD.sz
 refine wpAny_bind (wpAny_newList ?_ hb)
 obtain⟨hi,hpn⟩:=IntsAre.PR (Ko hD.el) hp
 have hoL:(h1.push (seqObj "list" vs.toArray 0)).get? h1.objs.size=some (seqObj "list" vs.toArray 0):=Heap.get?_push_size _ rfl
 have hk1:∀b u,s.heap.get? b=some u→(h1.push (seqObj "list" vs.toArray 0)).get? b=some u:=fun b u e=>Heap.get?_push_of_some _ (hk b u e)
 have I0:Inv X pins σ H { s with heap:=h1,toks:=tk,drawn:=d }:=I.Rz hk
 show wpAny _ _ _ _ _ { s with heap:=h1.push (seqObj "list" vs.toArray 0),toks:=tk,drawn:=d }
 refine wpAny_bind (wpAny_holding (wpAny_call_entry slot_list_sort ⟨_,hoL,rfl⟩ entry_list_sort
  (PyProof.Rows.G.list_sort_treeG (s:={ s with heap:=h1.push (seqObj "list" vs.toArray 0),toks:=tk,drawn:=d }) (κ:=PyProof.Rows.intKind) (kd:=oneType') hoL (ksk_keysOfInt hi.intKeys) RB ?kk hb fun st' a1 a2 a3=>⟨_,rfl,?ret⟩) (args_list_sort _)))
 case kk=>
  intro h2 R hq
  obtain⟨v₁,v₂,rest,e⟩:∃v₁ v₂ rest,vs=v₁::v₂::rest:=by
   match vs,h2 with
   |[],h2=>simp at h2
   |[_],h2=>simp at h2
   |v₁::v₂::rest,_=>exact⟨v₁,v₂,rest,rfl⟩
  rw[e]at hi ⊢
  rw[keyKind_ints hi]
  rw[e]at hq
  exact wpAny_pure hq
 case ret=>
  have pl:=Array.perm_iff_toList_perm.mp a1
  rw[pairsOf_toList]at pl
  have hself:∀p∈(arrOf st').toList,p.1=p.2:=fun p hp=>(mem_zip_self (pl.mem_iff.mp hp)).1
  have hout:((arrOf st').map (·.2)).toList.Perm vs:=by
   rw[Array.toList_map]
   have:=pl.map (·.2)
   rwa [List.map_snd_zip (Nat.le_refl _)]at this
  obtain⟨oi,op⟩:=IntsAre.PR hi hout
  obtain⟨e2,he2⟩:=sortedHeap_at (out:=(arrOf st').map (·.2)) hoL
  have hsort:(((arrOf st').map (·.2)).toList.map numOf).Pairwise (·≤·):=by
   rw[Array.toList_map,List.map_map,List.pairwise_map,List.pairwise_iff_getElem]
   intro i j hi' hj' hij
   have hi2:i<(arrOf st').size:=by simpa using hi'
   have hj2:j<(arrOf st').size:=by simpa using hj'
   have qq:=(sortedTo_of_int a2) i j (Nat.le_of_lt hij) (by rw[←a1.size_eq];exact hj2)
   rw[K_eq hi2,K_eq hj2]at qq
   have x1:=hself _ (List.getElem_mem hi')
   have x2:=hself _ (List.getElem_mem hj')
   simp only[Array.getElem_toList]at x1 x2
   rw[x1,x2]at qq
   simpa using qq
  refine wpAny_pure ⟨_,rfl,.ref h1.objs.size,upd H h1.objs.size (.lst ((((arrOf st').map (·.2)).toList.map numOf).map V.int)),?_,rfl,q _ _ hsort (op.trans (hpn.trans hD.pm)) (I0.hok.fresh (Nat.le_refl _))⟩
  refine I0.laid (t':=tk) (fun b u e=> ?_) (Nat.le_refl _) ⟨by rw[List.length_map,op.length_eq,List.length_map];exact hb,((arrOf st').map (·.2)).toList,e2,xq oi,by rw[Array.toArray_toList];exact he2⟩
  have hlt:b<h1.objs.size:=Heap.lt_size e
  rw[sortedHeap_old (Nat.ne_of_lt hlt) (by rw[size_push'];exact Nat.lt_succ_of_lt hlt)]
  exact Heap.get?_push_of_some _ e
theorem Paired.at_{α β:Type}{F:α→β→Prop}:∀{l:List α}{m:List β}{i:Nat}{x:α},Paired F l m→l[i]? =some x→∃y,m[i]? =some y∧F x y
 |_,_,0,_,.cons h _,e=>by cases e;exact⟨_,rfl,h⟩
 |_,_,i+1,x,.cons h r,e=>by
  rw[List.getElem?_cons_succ]at e ⊢
  exact Paired.at_ r e
theorem HL:∀{xs:List V}{us:List Value},xs.length=us.length→(∀(i:Nat)(x:V)(u:Value),xs[i]? =some x→us[i]? =some u→RelV x u)→Vals xs us
 |[],[],_,_=>.nil
 |x::xs,u::us,hl,h=>.cons (h 0 x u rfl rfl) (HL (by simpa using hl) fun i y v hy hv=>h (i+1) y v (by simpa using hy) (by simpa using hv))
theorem RA{P:Program}{w:World}{k:Key}{u:Value}(h:(dE P w).is k u=true):RelV (kV k) u:=by
 cases k with
 |inl i=>exact Value.isInt_shape h
 |inr x=>exact Value.isStrOf_shape h
def Mb:List V→Hp→VK→Prop:=fun vs H Q=>∃(a:Addr)(kvs:List (Key×V)),vs=[.ref a]∧H a=some (.dK kvs)∧∀p,H p=none→Q (.ref p) (upd H p (.lst (kvs.map fun kv=>kV kv.1)))
theorem Nn(hc:X.calm=true):wu X (.type "list") Mb:=by
 intro pins s σ H vs us Q I r h
 obtain⟨a,kvs,rfl,ha,q⟩:=h
 rw[Vals.L7 r]
 obtain⟨z,hd,ws,rel,dd⟩:=Nf I.hok ha
 obtain⟨ep,hat⟩:=dd.dictAt
 have hl:=rel.length
 refine PySem.W.kdl_call (PySem.W.kdl_dict (knd:=dE X.prog X.w) (kvs:=ws) (ep:=ep) hd) (I.ok.hd hc) hat (by rw[←hl];exact z) fun h' tk acc c hk hS hacc=> ?_
 refine⟨.ref s.heap.objs.size,upd H s.heap.objs.size (.lst (kvs.map fun kv=>kV kv.1)),I.laid hk (Nat.le_refl _) ⟨by rw[List.length_map];exact z,acc.toList,c,?_,by rw[Array.toArray_toList];exact hS⟩,rfl,q _ (I.hok.fresh (Nat.le_refl _))⟩
 refine HL ((List.length_map ..).trans (hl.trans (hacc.1.symm.trans (Array.length_toList ..).symm))) fun i x u hx hu=> ?_
 rw[Array.getElem?_toList]at hu
 obtain⟨k,y,hk1,hk2⟩:=hacc.2 i u hu
 rw[List.getElem?_map]at hx
 cases hkv:kvs[i]? with
 |none=>rw[hkv]at hx;cases hx
 |some kv=>
  rw[hkv]at hx
  cases hx
  have e:kv.1=k:=by
   obtain⟨q,hq,r1,r2⟩:=Paired.at_ rel hkv
   rw[hk1]at hq
   cases hq
   exact r1
  show RelV (kV kv.1) u
  rw[e]
  exact RA hk2
end
@[simp] theorem Iz(P:Program)(w:World)(K:PySem.W.Frag)(vs:List V)(H:Hp)(Q:VK):PD P w K vs H Q=(∃(l:Addr)(ns:List Int),vs=[.ref l]∧bW K H l (ns.map V.int)∧ns.length+1<scanBound∧
 ∀L p,L.Nodup→(∀x,x∈L↔x∈ns)→H p=none→Q (.ref p) (upd H p (Fs P w p L))):=rfl
@[simp] theorem Bh(P:Program)(w:World)(vs:List V)(H:Hp)(Q:VK):Fy P w vs H Q=(∃(a:Addr)(L:List Int),vs=[.ref a]∧H a=some (Fs P w a L)∧
 ∀(ks:List Int)(p:Addr),ks.Pairwise (·≤·)→ks.Perm L→H p=none→Q (.ref p) (upd H p (.lst (ks.map V.int)))):=rfl
@[simp] theorem Fz(vs:List V)(H:Hp)(Q:VK):Mb vs H Q=(∃(a:Addr)(kvs:List (Key×V)),vs=[.ref a]∧H a=some (.dK kvs)∧∀p,H p=none→Q (.ref p) (upd H p (.lst (kvs.map fun kv=>kV kv.1)))):=rfl
theorem OI{H:Hp}{t:Addr}{o:HO}(h:H t=none):del (upd H t o) t=H:=by
 funext b
 by_cases c:b=t
 ·subst c;rw[mL,h]
 ·rw[kR c,aq c]
def framed(sp:Sp):Sp:=fun vs H Q E=>∃t xs,H t=some (.lst xs)∧sp vs (del H t) (fun v H'=>H' t=none→Q v (upd H' t (.lst xs))) E
theorem bA.framed{P:Program}{w:World}{K:PySem.W.Frag}{mg:Str→Option Value}{base:Heap}{k:Nat}{f:Addr}{fd:FuncData}{ps:List Str}{sp:Sp}(F:bA P w K mg base nj k f fd ps sp):bA P w K mg base nj k f fd ps (framed sp):=by
 refine⟨fun vs H Q E ⟨t,xs,e,h⟩=>F.len _ _ _ _ h,fun A outer s H args us vs Q E hr e0 hb hv ⟨t,xs,ht,h⟩=> ?_⟩
 have nown:∀b a,H b=some (.own a)→b≠t:=fun b a q z=>by rw[z,ht]at q;cases q
 have ntup:∀b xs,H b=some (.tup xs)→b≠t:=fun b a q z=>by rw[z,ht]at q;cases q
 have sub:∀{b:Addr}{o:HO},del H t b=some o→H b=some o∧b≠t:=fun{b o} e=>by
  by_cases c:b=t
  ·subst c;rw[mL]at e;cases e
  ·rw[kR c]at e;exact⟨e,c⟩
 have non:∀{b:Addr},H b=none→del H t b=none:=fun{b} e=>by
  by_cases c:b=t
  ·subst c;exact mL
  ·rw[kR c];exact e
 obtain⟨z,its,n,rv,hob⟩:=e0.hok t _ ht
 have e0':CK P w K mg base A outer s (del H t):=⟨e0.frames,e0.mod,fun b o e=>⟨(e0.bs b o e).1,non (e0.bs b o e).2⟩,e0.EZ,e0.qU,fun b hb=>non (e0.Gy b hb),fun b o e=>(e0.hok b o (sub e).1).stay (fun _ _ _ q=>q) (fun c q=>by rw[kR (nown c _ q)];exact q) (fun c xs q=>by rw[kR (ntup c _ q)];exact q),e0.bare⟩
 have htf:t∉frs outer:=fun hm=>by rw[e0.Gy t hm]at ht;cases ht
 refine codeAny_mono (F.run A outer s (del H t) args us vs _ E hr e0' hb hv h) fun r s' hq=> ?_
 cases r with
 |error e=>exact hq
 |ok fl=>
  cases fl with
  |next=>exact hq
  |brk=>exact hq
  |cont=>exact hq
  |ret u=>
   obtain⟨v,H',os,bare,un,hok,r,q⟩:=hq
   have h1:s'.heap.get? t=some { cls:=.type "list",data:=.seq its.toArray n }:=un.keep t _ hob mL htf (by simp)
   have h2:H' t=none:=un.free t _ hob mL (by simp)
   have hn:∀{b:Addr},H b=none→b≠t:=fun{b} e z=>by rw[z,ht]at e;cases e
   refine⟨v,upd H' t (.lst xs),os,bare,⟨fun b o e n hb hx=>un.keep b o e (non n) hb hx,fun b o e n hb hx=>un.slot b o e (non n) hb hx,fun b o e n hx=>by rw[aq (hn n)];exact un.free b o e (non n) hx,un.there,fun b ys e=> ?_,fun b o y e=> ?_,fun b ps e=> ?_⟩,fun b o e=> ?_,r,q h2⟩
   ·have hb:b≠t:=ntup b _ e
    rw[aq hb]
    exact un.tups b ys (by rw[kR hb];exact e)
   ·have hb:b≠t:=fun z=>by rw[z,ht]at e;cases e
    rw[aq hb]
    exact un.u5 b o y (by rw[kR hb];exact e)
   ·have hb:b≠t:=fun z=>by rw[z,ht]at e;cases e
    rw[aq hb]
    exact un.vS b ps (by rw[kR hb];exact e)
   ·by_cases c:b=t
    ·subst c
     rw[aj]at e
     cases e
     exact⟨z,its,n,rv,h1⟩
    ·rw[aq c]at e
     exact(hok b o e).stay (fun _ _ _ q=>q) (fun c' q=>by rw[aq (aD q h2)];exact q) (fun c' xs q=>by rw[aq (aD q h2)];exact q)
end L2
namespace Mm
open Po PoMoves
theorem zD(c:UInt8):∀b:Bytes,cutAt c b≠[]
 |[]=>by simp[cutAt]
 |x::r=>by
  unfold cutAt
  split
  ·simp
  ·split<;>simp
theorem pL{w:Bytes}{l:List Bytes}(h:l≠[]):spaced (w::l)=w++(32::spaced l):=by
 cases l with
 |nil=>exact absurd rfl h
 |cons a r=>rfl
theorem AO:∀b:Bytes,spaced (cutAt 32 b)=b
 |[]=>rfl
 |x::r=>by
  have ih:=AO r
  unfold cutAt
  split
  ·rename_i e
   rw[pL (zD 32 r),ih,e]
   rfl
  ·split
   ·rename_i q
    exact absurd q (zD 32 r)
   ·rename_i w l q
    rw[q]at ih
    cases l with
    |nil=>
     have ih':w=r:=ih
     show x::w=x::r
     rw[ih']
    |cons a t=>
     rw[pL (by simp)]at ih ⊢
     rw[←ih]
     rfl
theorem Jr{c:UInt8}:∀w:Bytes,c∉w→cutAt c w=[w]
 |[],_=>rfl
 |x::r,h=>by
  have hx:¬x=c:=fun e=>h (by simp[e])
  have hr:c∉r:=fun e=>h (by simp[e])
  unfold cutAt
  rw[if_neg hx,Jr r hr]
theorem Js{c:UInt8}:∀(w b:Bytes),c∉w→cutAt c (w++c::b)=w::cutAt c b
 |[],b,_=>by
  show cutAt c (c::b)=_
  rw[cutAt,if_pos rfl]
 |x::r,b,h=>by
  have hx:¬x=c:=fun e=>h (by simp[e])
  have hr:c∉r:=fun e=>h (by simp[e])
  show cutAt c (x::(r++c::b))=_
  rw[cutAt,if_neg hx,Js r b hr]
theorem B7:∀l:List Bytes,l≠[]→(∀w∈l,(32:UInt8)∉w)→cutAt 32 (spaced l)=l
 |[],h,_=>absurd rfl h
 |[w],_,hw=>Jr w (hw w (by simp))
 |w::a::r,_,hw=>by
  rw[pL (by simp),Js w _ (hw w (by simp)),B7 (a::r) (by simp) fun v hv=>hw v (by simp[hv])]
def goodW(w:Bytes):Bool:= !w.isEmpty&&w.all isLetter
def scan(ps:List Bytes)(cur:Bytes):Bytes→Option (List Bytes)
 |[]=>if cur.isEmpty then none else some (ps++[cur])
 |c::r=>if c=32 then(if cur.isEmpty then none else scan (ps++[cur]) [] r)else if isLetter c=true then scan ps (cur++[c]) r else none
def piecesOf(b:Bytes):Option (List Bytes):=if(cutAt 32 b).all goodW=true then some (cutAt 32 b)else none
theorem A9:∀(b cur:Bytes)(ps:List Bytes),cur.all isLetter=true→scan ps cur b=match cutAt 32 b with
  |[]=>none
  |w::l=>if(goodW (cur++w)&&l.all goodW)=true then some (ps++(cur++w)::l)else none
 |[],cur,ps,h=>by
  simp only[scan,cutAt,List.append_nil,List.all_nil,Bool.and_true,goodW,h]
  cases cur<;>simp
 |c::r,cur,ps,h=>by
  unfold scan cutAt
  by_cases hc:c=32
  ·rw[if_pos hc,if_pos hc]
   by_cases he:cur.isEmpty=true
   ·rw[if_pos he]
    simp[goodW,he]
   ·rw[if_neg he,A9 r [] (ps++[cur]) rfl]
    cases q:cutAt 32 r with
    |nil=>exact absurd q (zD 32 r)
    |cons w l=>
     have he':cur.isEmpty=false:=by simpa using he
     simp[goodW,he',h]
  ·rw[if_neg hc,if_neg hc]
   by_cases hl:isLetter c=true
   ·rw[if_pos hl,A9 r (cur++[c]) ps (by simp[h,hl])]
    cases q:cutAt 32 r with
    |nil=>exact absurd q (zD 32 r)
    |cons w l=>simp
   ·rw[if_neg hl]
    cases q:cutAt 32 r with
    |nil=>exact absurd q (zD 32 r)
    |cons w l=>
     have hl':isLetter c=false:=by simpa using hl
     simp[goodW,hl']
theorem D7(b:Bytes):scan [] [] b=piecesOf b:=by
 rw[A9 b [] [] rfl]
 unfold piecesOf
 cases q:cutAt 32 b with
 |nil=>exact absurd q (zD 32 b)
 |cons w l=>simp[List.all_cons]
theorem dec_lt{n:Nat}(h:n<10):decimal n=[UInt8.ofNat (48+n)]:=by
 unfold decimal
 rw[Nat.toDigits_of_lt_base h]
 match n,h with
 |0,_=>rfl
 |1,_=>rfl
 |2,_=>rfl
 |3,_=>rfl
 |4,_=>rfl
 |5,_=>rfl
 |6,_=>rfl
 |7,_=>rfl
 |8,_=>rfl
 |9,_=>rfl
theorem pq{n:Nat}(h:10≤n):decimal n=decimal (n / 10)++[UInt8.ofNat (48+n % 10)]:=by
 have t:Nat.toDigits 10 (n / 10)++Nat.toDigits 10 (n % 10)=Nat.toDigits 10 (10*(n / 10)+n % 10):=Nat.toDigits_append_toDigits (by decide) (by omega) (Nat.mod_lt n (by decide))
 rw[Nat.div_add_mod]at t
 have e:=dec_lt (n:=n % 10) (Nat.mod_lt n (by decide))
 unfold decimal at e ⊢
 rw[←t,List.map_append,e]
theorem zB(c:UInt8):isDigit c=true↔48≤c.toNat∧c.toNat≤57:=by
 unfold isDigit
 simp[UInt8.le_iff_toNat_le]
theorem digit_of{d:Nat}(h:d<10):isDigit (UInt8.ofNat (48+d))=true∧(UInt8.ofNat (48+d)).toNat=48+d:=by
 have e:(UInt8.ofNat (48+d)).toNat=48+d:=by
  rw[UInt8.toNat_ofNat']
  omega
 exact⟨(zB _).mpr (by omega),e⟩
theorem wN(w:Bytes)(c:UInt8):natIn (w++[c])=10*natIn w+(c.toNat - 48):=by
 unfold natIn
 rw[List.foldl_append]
 rfl
theorem gJ(n:Nat):natIn (decimal n)=n:=by
 induction n using Nat.strongRecOn with
 |_ n ih=>
  by_cases h:n<10
  ·rw[dec_lt h]
   show 10*0+((UInt8.ofNat (48+n)).toNat - 48)=n
   rw[(digit_of h).2]
   omega
  ·rw[pq (by omega),wN,ih (n / 10) (by omega),(digit_of (Nat.mod_lt n (by decide))).2]
   omega
theorem B6(n:Nat):(decimal n).all isDigit=true:=by
 induction n using Nat.strongRecOn with
 |_ n ih=>
  by_cases h:n<10
  ·rw[dec_lt h]
   show(isDigit _&&true)=true
   rw[(digit_of h).1]
   rfl
  ·rw[pq (by omega),List.all_append,ih (n / 10) (by omega)]
   show(true&&(isDigit _&&true))=true
   rw[(digit_of (Nat.mod_lt n (by decide))).1]
   rfl
theorem B5(n:Nat):decimal n≠[]:=by
 by_cases h:n<10
 ·rw[dec_lt h];simp
 ·rw[pq (by omega)];simp
def eV(w:Bytes):Bool:= !w.isEmpty&&(w.all isDigit&&(decide (w.head?≠some 48)||decide (w=[48])))
theorem Ni{n:Nat}(h:0<n):(decimal n).head?≠some 48:=by
 induction n using Nat.strongRecOn with
 |_ n ih=>
  by_cases h1:n<10
  ·rw[dec_lt h1]
   intro e
   have e':=congrArg UInt8.toNat (Option.some.inj e)
   rw[(digit_of h1).2]at e'
   have:(48:UInt8).toNat=48:=rfl
   omega
  ·rw[pq (by omega)]
   have z:=ih (n / 10) (by omega) (by omega)
   cases q:decimal (n / 10)with
   |nil=>exact absurd q (B5 _)
   |cons a r=>
    rw[q]at z
    exact z
theorem Kx(n:Nat):eV (decimal n)=true:=by
 unfold eV
 rw[B6]
 have h1:(decimal n).isEmpty=false:=by
  have:=B5 n
  cases q:decimal n with
  |nil=>exact absurd q this
  |cons _ _=>rfl
 rw[h1]
 rcases Nat.eq_zero_or_pos n with h |h
 ·subst h
  rfl
 ·simp[Ni h]
theorem snoc_ind{α:Type}{P:List α→Prop}(h0:P [])(h1:∀l c,P l→P (l++[c]))(l:List α):P l:=by
 have z:∀r:List α,P r.reverse:=by
  intro r
  induction r with
  |nil=>exact h0
  |cons c r ih=>
   rw[List.reverse_cons]
   exact h1 _ c ih
 have q:=z l.reverse
 rw[List.reverse_reverse]at q
 exact q
theorem Kd:∀(w:Bytes),w≠[]→w.all isDigit=true→w.head?≠some 48→0<natIn w:=by
 intro w
 induction w using snoc_ind with
 |h0=>intro h;exact absurd rfl h
 |h1 l c ih=>
  intro _ hd hh
  rw[wN]
  rw[List.all_append,Bool.and_eq_true]at hd
  cases l with
  |nil=>
   have hc:=(zB c).mp (by simpa using hd.2)
   have:c.toNat≠48:=fun e=>hh (by
    have:c=48:=UInt8.toNat_inj.mp e
    rw[this]
    rfl)
   omega
  |cons a r=>
   have:=ih (by simp) hd.1 (by simpa using hh)
   omega
theorem Dz:∀(w:Bytes),eV w=true→decimal (natIn w)=w:=by
 intro w
 induction w using snoc_ind with
 |h0=>intro h;simp[eV]at h
 |h1 l c ih=>
  intro h
  rw[wN]
  unfold eV at h
  simp only[Bool.and_eq_true,Bool.or_eq_true,decide_eq_true_eq,List.all_append]at h
  obtain⟨_,⟨hl,hc⟩,hh⟩:=h
  have hc':=(zB c).mp (by simpa using hc)
  cases l with
  |nil=>
   have e:10*natIn []+(c.toNat - 48)=c.toNat - 48:=by
    show 10*0+_=_
    omega
   rw[e,dec_lt (by omega)]
   show[UInt8.ofNat (48+(c.toNat - 48))]=[c]
   rw[show 48+(c.toNat - 48)=c.toNat by omega,UInt8.ofNat_toNat]
  |cons a r=>
   have hh':(a::r).head?≠some 48:=by
    rcases hh with hh |hh
    ·simpa using hh
    ·exfalso
     have:=congrArg List.length hh
     simp at this
   have pos:=Kd (a::r) (by simp) hl hh'
   have pl:eV (a::r)=true:=by
    unfold eV
    rw[hl]
    simp only[List.isEmpty_cons,Bool.not_false,Bool.true_and,Bool.or_eq_true,decide_eq_true_eq]
    exact .inl hh'
   rw[pq (by omega),show(10*natIn (a::r)+(c.toNat - 48)) / 10=natIn (a::r) by omega,show(10*natIn (a::r)+(c.toNat - 48)) % 10=c.toNat - 48 by omega,ih pl,show 48+(c.toNat - 48)=c.toNat by omega,UInt8.ofNat_toNat]
def tU(w:Bytes)(m:Nat):Option Nat:=if(eV w&&decide (natIn w≤m))=true then some (natIn w)else none
theorem Hg{w:Bytes}{m n:Nat}(h:tU w m=some n):w=decimal n∧n≤m:=by
 unfold tU at h
 split at h
 ·rename_i q
  rw[Bool.and_eq_true,decide_eq_true_eq]at q
  cases h
  exact⟨(Dz w q.1).symm,q.2⟩
 ·cases h
theorem Kc{n m:Nat}(h:n≤m):tU (decimal n) m=some n:=by
 unfold tU
 rw[Kx,gJ,decide_eq_true h]
 rfl
theorem Aj{c:UInt8}(h:isDigit c=true):isLetter c=true:=by
 unfold isLetter
 rw[h]
 rfl
theorem Kh{c:UInt8}(h:isLetter c=true):c≠32:=by
 rintro rfl
 exact absurd h (by decide)
theorem Ks{w:Bytes}(h:goodW w=true):(32:UInt8)∉w:=fun z=>by
 unfold goodW at h
 rw[Bool.and_eq_true,List.all_eq_true]at h
 exact Kh (h.2 _ z) rfl
theorem mM(n:Nat):goodW (decimal n)=true:=by
 have h1:=B6 n
 have h2:=B5 n
 unfold goodW
 rw[Bool.and_eq_true]
 constructor
 ·cases q:decimal n with
  |nil=>exact absurd q h2
  |cons _ _=>rfl
 ·rw[List.all_eq_true]at h1 ⊢
  exact fun c hc=>Aj (h1 c hc)
theorem Kv{w:Word}(h:fullWord w=true):goodW w=true:=by
 unfold fullWord wordOk at h
 unfold goodW
 simp only[Bool.and_eq_true]at h ⊢
 exact⟨h.2,h.1.2⟩
abbrev dY:Bytes:=ascii "move"
abbrev iY:Bytes:=ascii "hold"
abbrev mJ:Bytes:=ascii "stop"
abbrev m7:Bytes:=ascii "until"
abbrev o8:Bytes:=ascii "open"
abbrev kFor:Bytes:=ascii "for"
def pNum(m:Nat):List Bytes→Option (Nat×List Bytes)
 |[]=>none
 |w::r=>(tU w m).map fun n=>(n,r)
def pEnd(isHold:Bool)(fr:Nat):List Bytes→Option (Option Nat×List Bytes)
 |[]=>if isHold=true then none else some (none,[])
 |w::r=>if w=m7 then(pNum DAY r).bind fun x=>if x.1≤fr then none else some (some x.1,x.2)
  else if isHold=true then none else some (none,w::r)
def fE(isMove:Bool):List Bytes→Bool×List Bytes
 |[]=>(false,[])
 |w::r=>if isMove=true∧w=o8 then(true,r)else(false,w::r)
def y8:List Bytes→Option (Option (List Word))
 |[]=>some none
 |w::r=>if w=kFor then(if 1≤r.length∧r.length≤8∧r.all (fun v=>decide (v.length≤32))=true then some (some r)else none)else none
def xT(isHold isMove:Bool)(fr:Nat)(r:List Bytes):Option (Option Nat×Bool×Option (List Word)):=
 (pEnd isHold fr r).bind fun x=>(y8 (fE isMove x.2).2).map fun f=>(x.1,(fE isMove x.2).1,f)
def parse:List Bytes→Option Line
 |[]=>none
 |k::r=>
  if k=dY then(pNum POINT r).bind fun x=>(pNum POINT x.2).bind fun y=>if y.1=x.1 then none else(pNum DAY y.2).bind fun z=>(xT false true z.1 z.2).map fun t=>⟨.move y.1 t.2.1,x.1,z.1,t.1,t.2.2⟩
  else if k=iY then(pNum POINT r).bind fun x=>(pNum DAY x.2).bind fun z=>(xT true false z.1 z.2).map fun t=>⟨.hold,x.1,z.1,t.1,t.2.2⟩
  else if k=mJ then(pNum POINT r).bind fun x=>(pNum DAY x.2).bind fun z=>(xT false false z.1 z.2).map fun t=>⟨.halt_,x.1,z.1,t.1,t.2.2⟩
  else none
def GD:Option Nat→List Bytes
 |some d=>[m7,decimal d]
 |none=>[]
def CB:Option (List Word)→List Bytes
 |some w=>kFor::w
 |none=>[]
def gR(u:Option Nat)(o:Bool)(f:Option (List Word)):List Bytes:=GD u++((if o=true then[o8]else[])++CB f)
def toks(l:Line):List Bytes:=match l.what with
 | .move b o=>dY::decimal l.at_::decimal b::decimal l.from_::gR l.until_ o l.for_
 | .hold=>iY::decimal l.at_::decimal l.from_::gR l.until_ false l.for_
 | .halt_=>mJ::decimal l.at_::decimal l.from_::gR l.until_ false l.for_
theorem yP(l:Line):l.text=spaced (toks l):=by
 obtain⟨what,a,fr,u,f⟩:=l
 cases what with
 |move b o=>
  cases o<;>cases u<;>cases f<;>rfl
 |hold=>cases u<;>cases f<;>rfl
 |halt_=>cases u<;>cases f<;>rfl
theorem eB{m:Nat}{r:List Bytes}{x:Nat×List Bytes}(h:pNum m r=some x):r=decimal x.1::x.2∧x.1≤m:=by
 cases r with
 |nil=>cases h
 |cons w r=>
  obtain⟨n,hn,rfl⟩:=Option.map_eq_some_iff.mp h
  obtain⟨e,l⟩:=Hg hn
  exact⟨by rw[e],l⟩
theorem mH{m n:Nat}{r:List Bytes}(h:n≤m):pNum m (decimal n::r)=some (n,r):=by
 rw[pNum]
 rw[Kc h]
 rfl
def rN(f:Option (List Word)):Bool:=match f with
 |some w=>decide (1≤w.length)&&(decide (w.length≤8)&&w.all fullWord)
 |none=>true
def pS(fr:Nat)(u:Option Nat):Bool:=match u with
 |some d=>decide (fr<d)&&decide (d≤DAY)
 |none=>true
theorem J7{r:List Bytes}{f:Option (List Word)}(g:r.all goodW=true)(h:y8 r=some f):CB f=r∧rN f=true:=by
 cases r with
 |nil=>cases h;exact⟨rfl,rfl⟩
 |cons w r=>
  rw[y8]at h
  split at h
  ·rename_i e
   split at h
   ·rename_i q
    cases h
    refine⟨by rw[e];rfl,?_⟩
    show(decide (1≤r.length)&&(decide (r.length≤8)&&r.all fullWord))=true
    rw[decide_eq_true q.1,decide_eq_true q.2.1]
    rw[Bool.true_and,Bool.true_and,List.all_eq_true]
    intro v hv
    have g1:=List.all_eq_true.mp g v (List.mem_cons_of_mem _ hv)
    have g2:=List.all_eq_true.mp q.2.2 v hv
    unfold goodW at g1
    unfold fullWord wordOk LONG
    rw[Bool.and_eq_true]at g1
    rw[g1.1,g1.2,g2]
    rfl
   ·cases h
  ·cases h
theorem My{f:Option (List Word)}(h:rN f=true):y8 (CB f)=some f:=by
 cases f with
 |none=>rfl
 |some w=>
  unfold rN at h
  simp only[Bool.and_eq_true,decide_eq_true_eq]at h
  show y8 (kFor::w)=_
  have z:w.all (fun v=>decide (v.length≤32))=true:=by
   rw[List.all_eq_true]
   intro v hv
   have g:=List.all_eq_true.mp h.2.2 v hv
   unfold fullWord wordOk LONG at g
   simp only[Bool.and_eq_true]at g
   exact g.1.1
  rw[y8,if_pos rfl,if_pos ⟨h.1,h.2.1,z⟩]
theorem wJ{ih im:Bool}{fr:Nat}{r:List Bytes}{t:Option Nat×Bool×Option (List Word)}(g:r.all goodW=true)(h:xT ih im fr r=some t):
  gR t.1 t.2.1 t.2.2=r∧pS fr t.1=true∧rN t.2.2=true∧(ih=true→t.1.isSome=true)∧(im=false→t.2.1=false):=by
 obtain⟨⟨u,r1⟩,hu,h⟩:=Option.bind_eq_some_iff.mp h
 obtain⟨f,hf,rfl⟩:=Option.map_eq_some_iff.mp h
 dsimp only at hf ⊢
 have e1:GD u++r1=r∧pS fr u=true∧(ih=true→u.isSome=true):=by
  cases r with
  |nil=>
   rw[pEnd]at hu
   split at hu
   ·cases hu
   ·rename_i q
    cases hu
    exact⟨rfl,rfl,fun z=>absurd z q⟩
  |cons w r=>
   rw[pEnd]at hu
   split at hu
   ·rename_i q
    obtain⟨⟨d,r2⟩,hd,hu⟩:=Option.bind_eq_some_iff.mp hu
    obtain⟨er,hl⟩:=eB hd
    split at hu
    ·cases hu
    ·rename_i q2
     cases hu
     dsimp only at er hl q2
     refine⟨by rw[q,er];rfl,?_,fun _=>rfl⟩
     show(decide (fr<d)&&decide (d≤DAY))=true
     rw[decide_eq_true (by omega),decide_eq_true hl]
     rfl
   ·split at hu
    ·cases hu
    ·rename_i q
     cases hu
     exact⟨rfl,rfl,fun z=>absurd z q⟩
 obtain⟨e1,e2,e3⟩:=e1
 have g1:r1.all goodW=true:=by
  rw[←e1,List.all_append,Bool.and_eq_true]at g
  exact g.2
 have e4:(if(fE im r1).1=true then[o8]else[])++(fE im r1).2=r1∧(im=false→(fE im r1).1=false):=by
  cases r1 with
  |nil=>exact⟨rfl,fun _=>rfl⟩
  |cons w r=>
   rw[fE]
   split
   ·rename_i q
    exact⟨by rw[q.2];rfl,fun z=>(by rw[z]at q;cases q.1)⟩
   ·exact⟨rfl,fun _=>rfl⟩
 have g2:(fE im r1).2.all goodW=true:=by
  have z:=g1
  rw[←e4.1,List.all_append,Bool.and_eq_true]at z
  exact z.2
 obtain⟨e5,e6⟩:=J7 g2 hf
 refine⟨?_,e2,e6,e3,e4.2⟩
 unfold gR
 rw[e5,e4.1,e1]
theorem tH{n:Nat}{r:List Bytes}(g:(decimal n::r).all goodW=true):r.all goodW=true:=by
 rw[List.all_cons,Bool.and_eq_true]at g
 exact g.2
theorem G7{ws:List Bytes}{l:Line}(g:ws.all goodW=true)(h:parse ws=some l):l.ok=true∧toks l=ws:=by
 cases ws with
 |nil=>cases h
 |cons k r=>
  rw[List.all_cons,Bool.and_eq_true]at g
  have g:=g.2
  rw[parse]at h
  split at h
  ·rename_i q
   obtain⟨⟨a,r1⟩,h1,h⟩:=Option.bind_eq_some_iff.mp h
   obtain⟨⟨b,r2⟩,h2,h⟩:=Option.bind_eq_some_iff.mp h
   split at h
   ·cases h
   rename_i nb
   obtain⟨⟨fr,r3⟩,h3,h⟩:=Option.bind_eq_some_iff.mp h
   obtain⟨⟨u,o,f⟩,h4,rfl⟩:=Option.map_eq_some_iff.mp h
   obtain⟨e1,l1⟩:=eB h1
   obtain⟨e2,l2⟩:=eB h2
   obtain⟨e3,l3⟩:=eB h3
   dsimp only at e1 l1 e2 l2 e3 l3 nb h4
   subst e3 e2 e1
   obtain⟨e5,o1,o2,_,_⟩:=wJ (tH (tH (tH g))) h4
   dsimp only at e5 o1 o2
   constructor
   ·unfold Line.ok
    dsimp only
    rw[decide_eq_true l1,decide_eq_true l3,decide_eq_true l2]
    show(true&&(true&&(pS fr u&&((true&&(b != a))&&rN f))))=true
    rw[o1,o2,show(b != a)=true by simpa using nb]
    rfl
   ·unfold toks
    dsimp only
    rw[e5,q]
  ·split at h
   ·rename_i q
    obtain⟨⟨a,r1⟩,h1,h⟩:=Option.bind_eq_some_iff.mp h
    obtain⟨⟨fr,r3⟩,h3,h⟩:=Option.bind_eq_some_iff.mp h
    obtain⟨⟨u,o,f⟩,h4,rfl⟩:=Option.map_eq_some_iff.mp h
    obtain⟨e1,l1⟩:=eB h1
    obtain⟨e3,l3⟩:=eB h3
    dsimp only at e1 l1 e3 l3 h4
    subst e3 e1
    obtain⟨e5,o1,o2,o3,o4⟩:=wJ (tH (tH g)) h4
    dsimp only at e5 o1 o2 o3 o4
    rw[o4 rfl]at e5
    constructor
    ·unfold Line.ok
     dsimp only
     rw[decide_eq_true l1,decide_eq_true l3]
     show(true&&(true&&(pS fr u&&(u.isSome&&rN f))))=true
     rw[o1,o2,o3 rfl]
     rfl
    ·unfold toks
     dsimp only
     rw[e5,q]
   ·split at h
    ·rename_i q
     obtain⟨⟨a,r1⟩,h1,h⟩:=Option.bind_eq_some_iff.mp h
     obtain⟨⟨fr,r3⟩,h3,h⟩:=Option.bind_eq_some_iff.mp h
     obtain⟨⟨u,o,f⟩,h4,rfl⟩:=Option.map_eq_some_iff.mp h
     obtain⟨e1,l1⟩:=eB h1
     obtain⟨e3,l3⟩:=eB h3
     dsimp only at e1 l1 e3 l3 h4
     subst e3 e1
     obtain⟨e5,o1,o2,_,o4⟩:=wJ (tH (tH g)) h4
     dsimp only at e5 o1 o2 o4
     rw[o4 rfl]at e5
     constructor
     ·unfold Line.ok
      dsimp only
      rw[decide_eq_true l1,decide_eq_true l3]
      show(true&&(true&&(pS fr u&&(true&&rN f))))=true
      rw[o1,o2]
      rfl
     ·unfold toks
      dsimp only
      rw[e5,q]
    ·cases h
theorem Sn:¬o8=m7:=by decide
theorem Sq:¬kFor=m7:=by decide
theorem Sr:¬kFor=o8:=by decide
theorem J0(im o:Bool)(f:Option (List Word))(h:im=false→o=false):fE im ((if o=true then[o8]else[])++CB f)=(o,CB f):=by
 cases o with
 |true=>
  have hi:im=true:=by
   cases im with
   |true=>rfl
   |false=>exact(h rfl).symm
  show fE im (o8::CB f)=_
  rw[fE,if_pos ⟨hi,rfl⟩]
 |false=>
  cases f with
  |none=>rfl
  |some w=>
   show fE im (kFor::w)=_
   rw[fE,if_neg fun z=>Sr z.2]
   rfl
theorem y6{ih im:Bool}{fr:Nat}{u:Option Nat}{o:Bool}{f:Option (List Word)}(h1:pS fr u=true)(h2:rN f=true)(h3:ih=true→u.isSome=true)(h4:im=false→o=false):
  xT ih im fr (gR u o f)=some (u,o,f):=by
 have e:pEnd ih fr (gR u o f)=some (u,(if o=true then[o8]else[])++CB f):=by
  cases u with
  |some d=>
   unfold pS at h1
   simp only[Bool.and_eq_true,decide_eq_true_eq]at h1
   show pEnd ih fr (m7::decimal d::((if o=true then[o8]else[])++CB f))=_
   rw[pEnd,if_pos rfl,mH h1.2]
   show(if d≤fr then none else _)=_
   rw[if_neg (by omega)]
  |none=>
   have hh:¬ih=true:=fun z=>nomatch h3 z
   cases o with
   |true=>
    show pEnd ih fr (o8::CB f)=_
    rw[pEnd,if_neg Sn,if_neg hh]
    rfl
   |false=>
    cases f with
    |none=>
     show pEnd ih fr []=_
     rw[pEnd,if_neg hh]
     rfl
    |some w=>
     show pEnd ih fr (kFor::w)=_
     rw[pEnd,if_neg Sq,if_neg hh]
     rfl
 unfold xT
 rw[e,Option.bind_some]
 dsimp only
 rw[J0 im o f h4]
 dsimp only
 rw[My h2]
 rfl
theorem zf(l:Line):l.ok=(decide (l.at_≤POINT)&&(decide (l.from_≤DAY)&&(pS l.from_ l.until_&&((match l.what with
  | .move b _=>decide (b≤POINT)&&b != l.at_
  | .hold=>l.until_.isSome
  | .halt_=>true)&&rN l.for_)))):=by
 obtain⟨what,a,fr,u,f⟩:=l
 cases what<;>cases u<;>cases f<;>rfl
theorem JZ{l:Line}(h:l.ok=true):parse (toks l)=some l:=by
 rw[zf]at h
 obtain⟨what,a,fr,u,f⟩:=l
 simp only[Bool.and_eq_true,decide_eq_true_eq]at h
 obtain⟨h1,h2,h3,h4,h5⟩:=h
 cases what with
 |move b o=>
  dsimp only at h4
  rw[Bool.and_eq_true,decide_eq_true_eq]at h4
  show parse (dY::decimal a::decimal b::decimal fr::gR u o f)=_
  rw[parse,if_pos rfl,mH h1,Option.bind_some]
  dsimp only
  rw[mH h4.1,Option.bind_some]
  dsimp only
  rw[if_neg (by simpa using h4.2),mH h2,Option.bind_some]
  dsimp only
  rw[y6 (ih:=false) (im:=true) h3 h5 (fun z=>nomatch z) (fun z=>nomatch z)]
  rfl
 |hold=>
  show parse (iY::decimal a::decimal fr::gR u false f)=_
  rw[parse,if_neg (by decide),if_pos rfl,mH h1,Option.bind_some]
  dsimp only
  rw[mH h2,Option.bind_some]
  dsimp only
  rw[y6 h3 h5 (fun _=>h4) (fun _=>rfl)]
  rfl
 |halt_=>
  show parse (mJ::decimal a::decimal fr::gR u false f)=_
  rw[parse,if_neg (by decide),if_neg (by decide),if_pos rfl,mH h1,Option.bind_some]
  dsimp only
  rw[mH h2,Option.bind_some]
  dsimp only
  rw[y6 (ih:=false) (im:=false) h3 h5 (fun z=>nomatch z) (fun _=>rfl)]
  rfl
theorem JM{u:Option Nat}{o:Bool}{f:Option (List Word)}(h2:rN f=true):(gR u o f).all goodW=true:=by
 unfold gR
 rw[List.all_append,List.all_append,Bool.and_eq_true,Bool.and_eq_true]
 refine⟨?_,?_,?_⟩
 ·cases u with
  |none=>rfl
  |some d=>
   show(goodW m7&&(goodW (decimal d)&&true))=true
   rw[mM]
   rfl
 ·cases o<;>rfl
 ·cases f with
  |none=>rfl
  |some w=>
   unfold rN at h2
   simp only[Bool.and_eq_true]at h2
   show(goodW kFor&&w.all goodW)=true
   rw[Bool.and_eq_true,List.all_eq_true]
   exact⟨by decide,fun v hv=>Kv (List.all_eq_true.mp h2.2.2 v hv)⟩
theorem yM{l:Line}(h:l.ok=true):(toks l).all goodW=true:=by
 rw[zf]at h
 obtain⟨what,a,fr,u,f⟩:=l
 simp only[Bool.and_eq_true]at h
 have t:=fun o=>JM (u:=u) (o:=o) h.2.2.2.2
 cases what with
 |move b o=>
  show(goodW dY&&(goodW (decimal a)&&(goodW (decimal b)&&(goodW (decimal fr)&&(gR u o f).all goodW))))=true
  rw[mM,mM,mM,t]
  rfl
 |hold=>
  show(goodW iY&&(goodW (decimal a)&&(goodW (decimal fr)&&(gR u false f).all goodW)))=true
  rw[mM,mM,t]
  rfl
 |halt_=>
  show(goodW mJ&&(goodW (decimal a)&&(goodW (decimal fr)&&(gR u false f).all goodW)))=true
  rw[mM,mM,t]
  rfl
theorem NR(l:Line):toks l≠[]:=by
 obtain⟨what,a,fr,u,f⟩:=l
 cases what<;>simp[toks]
theorem Ge{l:Line}(h:l.ok=true):cutAt 32 l.text=toks l:=by
 rw[yP]
 exact B7 _ (NR l) fun w hw=>Ks (List.all_eq_true.mp (yM h) w hw)
theorem wC{u:Option Nat}{o:Bool}{f:Option (List Word)}(h2:rN f=true):tailIn (gR u o f)=(u,o,f):=by
 have hf:∀w,f=some w→w≠[]:=fun w e z=>by
  subst e z
  cases h2
 have a1:kFor≠m7:=by decide
 have a2:o8≠m7:=by decide
 have a3:kFor≠o8:=by decide
 have a4:([]:Bytes)≠m7:=by decide
 have a5:([]:Bytes)≠o8:=by decide
 cases u<;>cases o<;>cases f<;>simp[tailIn,gR,GD,CB,gJ,a1,a2,a3,a4,a5]
theorem Ke{l:Line}{b:Bytes}(h:l.ok=true)(hb:cutAt 32 b=toks l):lineMaybe b=some l:=by
 have h':=h
 rw[zf]at h'
 simp only[Bool.and_eq_true]at h'
 have hf:=h'.2.2.2.2
 obtain⟨what,a,fr,u,f⟩:=l
 unfold lineMaybe
 rw[hb]
 cases what with
 |move c o=>
  show(if dY=dY then some (Line.mk (.move (natIn (decimal c)) (tailIn (gR u o f)).2.1) (natIn (decimal a)) (natIn (decimal fr)) (tailIn (gR u o f)).1 (tailIn (gR u o f)).2.2)else _)=_
  rw[if_pos rfl,wC hf,gJ,gJ,gJ]
 |hold=>
  show(if iY=dY then _ else if iY=iY then some (Line.mk .hold (natIn (decimal a)) (natIn (decimal fr)) (tailIn (gR u false f)).1 (tailIn (gR u false f)).2.2)else _)=_
  rw[if_neg (by decide),if_pos rfl,wC hf,gJ,gJ]
 |halt_=>
  show(if mJ=dY then _ else if mJ=iY then _ else if mJ=mJ then some (Line.mk .halt_ (natIn (decimal a)) (natIn (decimal fr)) (tailIn (gR u false f)).1 (tailIn (gR u false f)).2.2)else _)=_
  rw[if_neg (by decide),if_neg (by decide),if_pos rfl,wC hf,gJ,gJ]
theorem sV(b:Bytes)(l:Line):lineIn b=some l↔l.ok=true∧l.text=b:=by
 constructor
 ·intro h
  obtain⟨x,hx,h⟩:=Option.bind_eq_some_iff.mp h
  split at h
  ·rename_i q
   cases h
   exact q
  ·cases h
 ·rintro⟨h1,h2⟩
  unfold lineIn
  rw[Ke h1 (by rw[←h2];exact Ge h1),Option.bind_some,if_pos ⟨h1,h2⟩]
theorem Dr(b:Bytes):lineIn b=(piecesOf b).bind parse:=by
 apply Option.ext
 intro l
 rw[sV]
 constructor
 ·rintro⟨h1,h2⟩
  subst h2
  unfold piecesOf
  rw[Ge h1,if_pos (yM h1),Option.bind_some,JZ h1]
 ·intro h
  obtain⟨ws,hw,h⟩:=Option.bind_eq_some_iff.mp h
  unfold piecesOf at hw
  split at hw
  ·rename_i g
   cases hw
   obtain⟨o,t⟩:=G7 g h
   refine⟨o,?_⟩
   rw[yP,t,AO]
  ·cases hw
def bare(b:Bytes):Bool:= !b.isEmpty&&b.getLast? != some 10
theorem split_free:∀row:Bytes,(10:UInt8)∉row→row≠[]→splitLines row=[row]
 |[],_,h=>absurd rfl h
 |c::r,hn,_=>by
  have hc:¬c=10:=fun e=>hn (by simp[e])
  have hr:(10:UInt8)∉r:=fun e=>hn (by simp[e])
  rw[splitLines,if_neg hc]
  cases r with
  |nil=>rfl
  |cons d t=>rw[split_free (d::t) hr (by simp)]
theorem CY:∀(row b:Bytes),(10:UInt8)∉row→splitLines (row++10::b)=row::splitLines b
 |[],b,_=>by
  show splitLines (10::b)=_
  rw[splitLines,if_pos rfl]
 |c::r,b,hn=>by
  have hc:¬c=10:=fun e=>hn (by simp[e])
  have hr:(10:UInt8)∉r:=fun e=>hn (by simp[e])
  show splitLines (c::(r++10::b))=_
  rw[splitLines,if_neg hc,CY r b hr]
theorem JO{b:Bytes}:splitLines b=[]↔b=[]:=by
 cases b with
 |nil=>simp[splitLines]
 |cons c r=>
  constructor
  ·intro h
   rw[splitLines]at h
   split at h
   ·cases h
   ·split at h<;>cases h
  ·intro h
   cases h
theorem NA(row b:Bytes)(h:b≠[]):bare (row++10::b)=bare b:=by
 unfold bare
 have h1:(row++10::b).isEmpty=false:=by cases row<;>rfl
 have h2:b.isEmpty=false:=by
  cases b with
  |nil=>exact absurd rfl h
  |cons _ _=>rfl
 have h3:(row++10::b).getLast? =b.getLast? :=by
  cases b with
  |nil=>exact absurd rfl h
  |cons a t=>
   rw[List.getLast?_append,List.getLast?_cons_cons]
   cases q:(a::t).getLast? with
   |none=>simp at q
   |some z=>rfl
 rw[h1,h2,h3]
theorem OO(row:Bytes):bare (row++[10])=false:=by
 unfold bare
 rw[List.getLast?_concat]
 simp
theorem BW{row b:Bytes}{k:Nat}(hn:(10:UInt8)∉row):linesFrom (bare (row++10::b)) k (splitLines (row++10::b))=match lineIn row with
  |none=>.error (k,1)
  |some x=>if PoMoves.LINES≤k then .error (k,2)else(linesFrom (bare b) (k+1) (splitLines b)).map fun l=>x::l:=by
 rw[CY row b hn,linesFrom]
 by_cases hb:b=[]
 ·subst hb
  rw[OO]
  show(match lineIn row with |none=>_ |some x=>_)=_
  cases lineIn row with
  |none=>rfl
  |some x=>rfl
 ·have h1:(splitLines b).isEmpty=false:=by
   cases q:splitLines b with
   |nil=>exact absurd (JO.mp q) hb
   |cons _ _=>rfl
  rw[h1,Bool.and_false,NA row b hb]
  cases lineIn row with
  |none=>rfl
  |some x=>rfl
def jQ(ahead:Nat)(ls:Lines)(row:Bytes):Bytes→Except (Nat×Nat) Lines
 |[]=>if row.isEmpty=true then .ok ls else .error (ahead+ls.length,1)
 |c::r=>if c=10 then(match lineIn row with
   |none=>.error (ahead+ls.length,1)
   |some l=>if PoMoves.LINES≤ahead+ls.length then .error (ahead+ls.length,2)else jQ ahead (ls++[l]) [] r)
  else jQ ahead ls (row++[c]) r
theorem map_map{α β γ ε:Type}(f:α→β)(g:β→γ)(x:Except ε α):(x.map f).map g=x.map fun a=>g (f a):=by
 cases x<;>rfl
theorem yV(ahead:Nat):∀(b row:Bytes)(ls:Lines),(10:UInt8)∉row→jQ ahead ls row b=(linesFrom (bare (row++b)) (ahead+ls.length) (splitLines (row++b))).map fun l=>ls++l
 |[],row,ls,hn=>by
  rw[List.append_nil,jQ]
  by_cases he:row=[]
  ·subst he
   show Except.ok ls=Except.ok (ls++[])
   rw[List.append_nil]
  ·have h1:row.isEmpty=false:=by
    cases row with
    |nil=>exact absurd rfl he
    |cons _ _=>rfl
   have hb:bare row=true:=by
    unfold bare
    rw[h1]
    have:row.getLast?≠some 10:=fun e=>hn (List.mem_of_getLast? e)
    simpa using this
   rw[split_free row hn he,linesFrom,hb,if_neg (by rw[h1];simp)]
   rfl
 |c::r,row,ls,hn=>by
  rw[jQ]
  by_cases hc:c=10
  ·subst hc
   rw[if_pos rfl,BW hn]
   cases lineIn row with
   |none=>rfl
   |some x=>
    dsimp only
    by_cases hk:PoMoves.LINES≤ahead+ls.length
    ·rw[if_pos hk,if_pos hk]
     rfl
    ·rw[if_neg hk,if_neg hk,yV ahead r [] (ls++[x]) (by simp),map_map,List.nil_append,List.length_append]
     show Except.map _ (linesFrom _ (ahead+(ls.length+1)) _)=Except.map _ (linesFrom _ (ahead+ls.length+1) _)
     rw[Nat.add_assoc]
     congr 1
     funext l
     rw[List.append_assoc]
     rfl
  ·rw[if_neg hc,yV ahead r (row++[c]) ls (by simp[hn,Ne.symm hc]),List.append_assoc]
   rfl
theorem JL{l:Line}(h:l.ok=true):(10:UInt8)∉l.text:=by
 have g:=yM h
 rw[yP]
 have all:∀ws:List Bytes,ws.all goodW=true→(10:UInt8)∉spaced ws:=by
  intro ws
  induction ws with
  |nil=>intro _ z;cases z
  |cons w r ih=>
   intro g z
   rw[List.all_cons,Bool.and_eq_true]at g
   have hw:(10:UInt8)∉w:=fun q=>by
    have g1:=g.1
    unfold goodW at g1
    rw[Bool.and_eq_true,List.all_eq_true]at g1
    exact absurd (g1.2 _ q) (by decide)
   by_cases hr:r=[]
   ·subst hr
    exact hw z
   ·rw[pL hr]at z
    rcases List.mem_append.mp z with z |z
    ·exact hw z
    ·rcases List.mem_cons.mp z with z |z
     ·exact absurd z (by decide)
     ·exact ih g.2 z
 exact all _ g
theorem Dy:∀(ls:Lines)(k:Nat)(t:Bytes),(∀l∈ls,l.ok=true)→k+ls.length≤PoMoves.LINES→
  linesFrom (bare (linesText ls++t)) k (splitLines (linesText ls++t))=(linesFrom (bare t) (k+ls.length) (splitLines t)).map fun l=>ls++l
 |[],k,t,_,_=>by
  show linesFrom (bare t) k (splitLines t)=(linesFrom (bare t) k (splitLines t)).map fun l=>l
  cases linesFrom (bare t) k (splitLines t)<;>rfl
 |x::ls,k,t,hok,hk=>by
  have hx:=hok x (by simp)
  have e:linesText (x::ls)++t=x.text++10::(linesText ls++t):=by
   unfold linesText
   rw[List.flatMap_cons]
   simp
  rw[List.length_cons]at hk
  rw[e,BW (JL hx),(sV _ _).mpr ⟨hx,rfl⟩]
  dsimp only
  rw[if_neg (by omega),Dy ls (k+1) t (fun l hl=>hok l (by simp[hl])) (by omega),map_map,List.length_cons,show k+1+ls.length=k+(ls.length+1) by omega]
  rfl
theorem Jj{B:Bool}:∀(bs:List Bytes)(k:Nat)(ls:Lines),linesFrom B k bs= .ok ls→(∀l∈ls,l.ok=true)∧k+ls.length≤max k PoMoves.LINES∧ls.length=bs.length
 |[],k,ls,h=>by
  cases h
  exact⟨(fun l hl=>nomatch hl),Nat.le_max_left _ _,rfl⟩
 |b::r,k,ls,h=>by
  rw[linesFrom]at h
  split at h
  ·cases h
  ·rename_i x hx
   split at h
   ·cases h
   ·rename_i hk
    cases q:linesFrom B (k+1) r with
    |error e=>
     rw[q]at h
     cases h
    |ok ls2=>
     rw[q]at h
     cases h
     obtain⟨i1,i2,i3⟩:=Jj r (k+1) ls2 q
     refine⟨fun l hl=> ?_,?_,by simp[i3]⟩
     ·rcases List.mem_cons.mp hl with z |z
      ·subst z
       split at hx
       ·cases hx
       ·exact((sV _ _).mp hx).1
      ·exact i1 l z
     ·rw[List.length_cons]
      omega
theorem Dx:∀(b:Bytes)(ls:Lines)(k:Nat),linesFrom (bare b) k (splitLines b)= .ok ls→linesText ls=b:=by
 intro b
 generalize hn:b.length=n
 induction n using Nat.strongRecOn generalizing b with
 |_ n ih=>
  intro ls k h
  by_cases h10:(10:UInt8)∈b
  ·obtain⟨row,r,e,hr⟩:∃row r,b=row++10::r∧(10:UInt8)∉row:=by
    obtain⟨s,t,e,hs⟩:=List.eq_append_cons_of_mem h10
    exact⟨s,t,e,hs⟩
   subst e
   rw[BW hr]at h
   cases q:lineIn row with
   |none=>
    rw[q]at h
    cases h
   |some x=>
    rw[q]at h
    dsimp only at h
    split at h
    ·cases h
    ·cases q2:linesFrom (bare r) (k+1) (splitLines r)with
     |error e=>
      rw[q2]at h
      cases h
     |ok ls2=>
      rw[q2]at h
      cases h
      have z:=ih r.length (by rw[←hn];simp;omega) r rfl ls2 (k+1) q2
      unfold linesText at z ⊢
      rw[List.flatMap_cons,z,((sV _ _).mp q).2]
      simp
  ·by_cases he:b=[]
   ·subst he
    cases h
    rfl
   ·rw[split_free b h10 he,linesFrom]at h
    have hb:bare b=true:=by
     unfold bare
     have h1:b.isEmpty=false:=by
      cases b with
      |nil=>exact absurd rfl he
      |cons _ _=>rfl
     rw[h1]
     have:b.getLast?≠some 10:=fun e=>h10 (List.mem_of_getLast? e)
     simpa using this
    rw[hb]at h
    cases h
end Mm
namespace Pm
open Po PoMoves
def alike:List (Nat×Nat×Nat):=[(65,90,97),(224,246,192),(248,254,216),(8304,8304,48),(8308,8313,52),(8320,8329,48),(65296,65305,48),(65313,65338,97),(65345,65370,97)]
def same:List (Nat×Nat×String):=[(170,170,"a"),(186,186,"o"),(185,185,"1"),(178,178,"2"),(179,179,"3"),(192,197,"a"),(198,198,"ae"),(199,199,"c"),(200,203,"e"),(204,207,"i"),(208,208,"d"),(209,209,"n"),(210,214,"o"),(216,216,"o"),(217,220,"u"),(221,221,"y"),(222,222,"th"),(223,223,"ss"),(255,255,"y"),(256,261,"a"),(262,269,"c"),(270,273,"d"),(274,283,"e"),(284,291,"g"),(292,295,"h"),(296,305,"i"),(306,307,"ij"),(308,309,"j"),(310,312,"k"),(313,322,"l"),(323,329,"n"),(330,331,"ng"),(332,337,"o"),(338,339,"oe"),(340,345,"r"),(346,353,"s"),(354,359,"t"),(360,371,"u"),(372,373,"w"),(374,376,"y"),(377,382,"z"),(383,383,"s"),(536,537,"s"),(538,539,"t"),(7838,7838,"ss"),(8470,8470,"no"),(64256,64256,"ff"),(64257,64257,"fi"),(64258,64258,"fl"),(64259,64259,"ffi"),(64260,64260,"ffl"),(64261,64262,"st")]
def gone:List (Nat×Nat):=[(39,39),(96,96),(173,173),(180,180),(700,700),(768,879),(8203,8205),(8216,8217),(8288,8288),(65279,65279)]
def fellow(c:Nat):Nat:=match alike.find? fun x=>decide (x.1≤c)&&decide (c≤x.2.1)with
 |some x=>x.2.2+c - x.1
 |none=>c
def zx(c:Nat):Bytes:=if(decide (48≤c)&&decide (c≤57))=true then[UInt8.ofNat c]else if(decide (97≤c)&&decide (c≤122))=true then[UInt8.ofNat c]else[]
def lets(c:Nat):Bytes:=match same.find? fun x=>decide (x.1≤fellow c)&&decide (fellow c≤x.2.1)with
 |some x=>ascii x.2.2
 |none=>zx (fellow c)
def van(c:Nat):Bool:=gone.any fun x=>decide (x.1≤c)&&decide (c≤x.2)
def agree(c:Nat):Bool:=match sortOf c with
 | .stands l=>decide (lets c=l)&& !l.isEmpty&&l.all isLetter&&decide (l.length≤3)
 | .vanishes=>(lets c).isEmpty&&van c&&c != 10
 | .ends=>(lets c).isEmpty&& !van c&&c==10
 | .parts=>(lets c).isEmpty&& !van c&&c != 10
def n8(a n:Nat):Bool:=(List.range n).all fun i=>agree (a+i)
theorem vo{a n:Nat}(h:n8 a n=true){c:Nat}(h1:a≤c)(h2:c<a+n):agree c=true:=by
 have:=List.all_eq_true.mp h (c - a) (List.mem_range.mpr (by omega))
 rwa [show a+(c - a)=c by omega]at this
theorem Tn:n8 0 1024=true:=by decide +kernel
theorem Tj:n8 7680 256=true:=by decide +kernel
theorem Ti:n8 8192 512=true:=by decide +kernel
theorem Tg:n8 64256 16=true:=by decide +kernel
theorem Tf:n8 65024 512=true:=by decide +kernel
def gap(lo hi:Nat):Bool:=(alike.all fun x=>decide (hi<x.1)||decide (x.2.1<lo))&&(same.all fun x=>decide (hi<x.1)||decide (x.2.1<lo))&&(gone.all fun x=>decide (hi<x.1)||decide (x.2<lo))&&
 (ROWS.all fun x=>decide (hi<x.1)||decide (x.2.1<lo))&&(SPANS.all fun x=>decide (hi<x.1)||decide (x.2.1<lo))&&(GONE.all fun x=>decide (hi<x.1)||decide (x.2<lo))&&decide (255<lo)
theorem find3{α:Type}{l:List (Nat×Nat×α)}{lo hi c:Nat}(h:(l.all fun x=>decide (hi<x.1)||decide (x.2.1<lo))=true)(h1:lo≤c)(h2:c≤hi):(l.find? fun x=>decide (x.1≤c)&&decide (c≤x.2.1))=none:=by
 rw[List.find?_eq_none]
 intro x hx
 have:=List.all_eq_true.mp h x hx
 simp only[Bool.or_eq_true,decide_eq_true_eq,Bool.and_eq_true,not_and]at this ⊢
 omega
theorem RK{l:List (Nat×Nat)}{lo hi c:Nat}(h:(l.all fun x=>decide (hi<x.1)||decide (x.2<lo))=true)(h1:lo≤c)(h2:c≤hi):(l.any fun x=>decide (x.1≤c)&&decide (c≤x.2))=false:=by
 rw[List.any_eq_false]
 intro x hx
 have:=List.all_eq_true.mp h x hx
 simp only[Bool.or_eq_true,decide_eq_true_eq,Bool.and_eq_true,not_and]at this ⊢
 omega
theorem su{lo hi c:Nat}(g:gap lo hi=true)(h1:lo≤c)(h2:c≤hi):agree c=true:=by
 unfold gap at g
 simp only[Bool.and_eq_true]at g
 obtain⟨⟨⟨⟨⟨⟨g1,g2⟩,g3⟩,g4⟩,g5⟩,g6⟩,g7⟩:=g
 have g7:=of_decide_eq_true g7
 have e1:sortOf c= .parts:=by
  unfold sortOf
  rw[if_neg (show ¬c=10 by omega),find3 g4 h1 h2]
  show(if GONE.any _=true then _ else _)=_
  rw[RK g6 h1 h2,if_neg (by simp),if_neg (by omega)]
  unfold spanAt
  rw[find3 g5 h1 h2]
  rfl
 have e2:fellow c=c:=by unfold fellow;rw[find3 g1 h1 h2]
 have e3:lets c=[]:=by
  unfold lets
  rw[e2,find3 g2 h1 h2]
  show zx c=[]
  unfold zx
  rw[if_neg (by simp only[Bool.and_eq_true,decide_eq_true_eq];omega),if_neg (by simp only[Bool.and_eq_true,decide_eq_true_eq];omega)]
 have e4:van c=false:=RK g3 h1 h2
 unfold agree
 rw[e1,e3,e4]
 simp
 omega
theorem Td:gap 1024 7679=true:=by decide +kernel
theorem Tc:gap 7936 8191=true:=by decide +kernel
theorem Tb:gap 8704 64255=true:=by decide +kernel
theorem Ta:gap 64272 65023=true:=by decide +kernel
theorem S9:gap 65536 4294967296=true:=by decide +kernel
theorem DJ{c:Nat}(h:c≤4294967296):agree c=true:=by
 by_cases h1:c<1024
 ·exact vo Tn (by omega) (by omega)
 by_cases h2:c<7680
 ·exact su Td (by omega) (by omega)
 by_cases h3:c<7936
 ·exact vo Tj (by omega) (by omega)
 by_cases h4:c<8192
 ·exact su Tc (by omega) (by omega)
 by_cases h5:c<8704
 ·exact vo Ti (by omega) (by omega)
 by_cases h6:c<64256
 ·exact su Tb (by omega) (by omega)
 by_cases h7:c<64272
 ·exact vo Tg (by omega) (by omega)
 by_cases h8:c<65024
 ·exact su Ta (by omega) (by omega)
 by_cases h9:c<65536
 ·exact vo Tf (by omega) (by omega)
 ·exact su S9 (by omega) (by omega)
def gw(L:List (List Bytes))(W:List Bytes)(w:Bytes):List Nat→List (List Bytes)
 |[]=>L
 |c::r=>if(!(lets c).isEmpty||van c)=true then gw L W (w++lets c) r
  else if(c==10&& !(if w.isEmpty=true then W else W++[w]).isEmpty)=true then gw (L++[if w.isEmpty=true then W else W++[w]]) [] [] r
  else gw L (if w.isEmpty=true then W else W++[w]) [] r
def gQ(t:List Nat):List (List Bytes):=gw [] [] [] (t++[10])
theorem sU(l:List Told)(x:Told):linesIn (l++[x])=x.line+1:=by
 unfold linesIn
 rw[List.getLast?_append]
 rfl
theorem sS:∀(t:List Nat)(i:Nat)(L:List (List Bytes))(W:List Bytes)(w:Bytes)(pre:List Told)(o:Option Open),(∀c∈t,c≤4294967296)→
  (match o with |some x=>x.word=w∧w≠[]|none=>w=[])→pre.map (·.word)=L.flatten++W→linesIn pre=L.length+(if W.isEmpty=true then 0 else 1)→
  (pre++wordsFrom i L.length (!W.isEmpty) o t).map (·.word)=(gw L W w (t++[10])).flatten∧linesIn (pre++wordsFrom i L.length (!W.isEmpty) o t)=(gw L W w (t++[10])).length
 |[],i,L,W,w,pre,o,_,ho,hp,hl=>by
  have e10:(!(lets 10).isEmpty||van 10)=false:=by decide +kernel
  have eR:gw L W w ([]++[10])=if(!(if w.isEmpty=true then W else W++[w]).isEmpty)=true then L++[if w.isEmpty=true then W else W++[w]]else L:=by
   show gw L W w [10]=_
   unfold gw
   rw[e10,if_neg (by simp)]
   simp only[beq_self_eq_true,Bool.true_and]
   split<;>rfl
  rw[eR]
  unfold wordsFrom closed
  cases o with
  |none=>
   have ew:w=[]:=ho
   subst ew
   simp only[List.isEmpty_nil,if_true,List.append_nil]
   cases hW:W.isEmpty with
   |true=>
    have:W=[]:=List.isEmpty_iff.mp hW
    subst this
    simp at hp hl ⊢
    exact⟨hp,hl⟩
   |false=>
    simp only[hW,Bool.false_eq_true,if_false]at hl
    simp[hp,hl]
  |some x=>
   obtain⟨ex,hw⟩:=ho
   have hw':w.isEmpty=false:=by cases w with |nil=>exact absurd rfl hw |cons=>rfl
   rw[hw',sU]
   have hW:(W++[w]).isEmpty=false:=by cases W<;>rfl
   simp[hp,ex,hW]
 |c::t,i,L,W,w,pre,o,hc,ho,hp,hl=>by
  have ag:=DJ (hc c (List.mem_cons_self ..))
  have hc':∀c∈t,c≤4294967296:=fun d hd=>hc d (List.mem_cons_of_mem _ hd)
  unfold agree at ag
  cases es:sortOf c with
  |stands l=>
   rw[es]at ag
   simp only[Bool.and_eq_true,decide_eq_true_eq]at ag
   obtain⟨⟨⟨el,hne⟩,_⟩,_⟩:=ag
   have e1:gw L W w (c::t++[10])=gw L W (w++l) (t++[10]):=by
    show gw L W w (c::(t++[10]))=_
    rw[gw,if_pos (by rw[el,hne];rfl),el]
   have hl':l≠[]:=by intro q;rw[q]at hne;simp at hne
   rw[e1]
   cases o with
   |none=>
    have ew:w=[]:=ho
    subst ew
    rw[wordsFrom,es]
    exact sS t (i+1) L W ([]++l) pre _ hc' ⟨rfl,by simpa using hl'⟩ hp hl
   |some x=>
    obtain⟨ex,_⟩:=ho
    rw[wordsFrom,es]
    exact sS t (i+1) L W (w++l) pre _ hc' ⟨by show x.word++l=_;rw[ex],by simp[hl']⟩ hp hl
  |vanishes=>
   rw[es]at ag
   simp only[Bool.and_eq_true]at ag
   obtain⟨⟨el,hv⟩,_⟩:=ag
   have el':lets c=[]:=List.isEmpty_iff.mp el
   have e1:gw L W w (c::t++[10])=gw L W w (t++[10]):=by
    show gw L W w (c::(t++[10]))=_
    rw[gw,if_pos (by rw[hv];simp),el',List.append_nil]
   have e2:wordsFrom i L.length (!W.isEmpty) o (c::t)=wordsFrom (i+1) L.length (!W.isEmpty) o t:=by rw[wordsFrom,es]
   rw[e1,e2]
   exact sS t (i+1) L W w pre o hc' ho hp hl
  |parts=>
   rw[es]at ag
   simp only[Bool.and_eq_true,Bool.not_eq_true']at ag
   obtain⟨⟨el,hv⟩,h10⟩:=ag
   have h10':(c==10)=false:=by simpa using h10
   have e1:gw L W w (c::t++[10])=gw L (if w.isEmpty=true then W else W++[w]) [] (t++[10]):=by
    show gw L W w (c::(t++[10]))=_
    rw[gw,if_neg (by rw[el,hv];simp),h10',if_neg (by simp)]
   have e2:wordsFrom i L.length (!W.isEmpty) o (c::t)=closed L.length o++wordsFrom (i+1) L.length (!W.isEmpty||o.isSome) none t:=by rw[wordsFrom,es]
   rw[e1,e2,←List.append_assoc]
   cases o with
   |none=>
    have ew:w=[]:=ho
    subst ew
    have:=sS t (i+1) L W [] pre none hc' rfl hp hl
    simpa[closed]using this
   |some x=>
    obtain⟨ex,hw⟩:=ho
    have hw':w.isEmpty=false:=by cases w with |nil=>exact absurd rfl hw |cons=>rfl
    have hW:(W++[w]).isEmpty=false:=by cases W<;>rfl
    have:=sS t (i+1) L (W++[w]) [] (pre++closed L.length (some x)) none hc' rfl (by simp[closed,hp,ex]) (by unfold closed;rw[sU,hW];simp)
    rw[hW]at this
    rw[hw']
    simpa using this
  |ends=>
   rw[es]at ag
   simp only[Bool.and_eq_true,Bool.not_eq_true']at ag
   obtain⟨⟨el,hv⟩,h10⟩:=ag
   have e1:gw L W w (c::t++[10])=if(!(if w.isEmpty=true then W else W++[w]).isEmpty)=true then gw (L++[if w.isEmpty=true then W else W++[w]]) [] [] (t++[10])else gw L (if w.isEmpty=true then W else W++[w]) [] (t++[10]):=by
    show gw L W w (c::(t++[10]))=_
    rw[gw,if_neg (by rw[el,hv];simp),h10,Bool.true_and]
   have e2:wordsFrom i L.length (!W.isEmpty) o (c::t)=closed L.length o++wordsFrom (i+1) (if(!W.isEmpty)=true∨o.isSome=true then L.length+1 else L.length) false none t:=by rw[wordsFrom,es]
   rw[e1,e2,←List.append_assoc]
   cases o with
   |none=>
    have ew:w=[]:=ho
    subst ew
    simp only[List.isEmpty_nil,if_true]
    cases hW:W.isEmpty with
    |true=>
     have:W=[]:=List.isEmpty_iff.mp hW
     subst this
     have:=sS t (i+1) L [] [] pre none hc' rfl hp hl
     simpa[closed]using this
    |false=>
     have:=sS t (i+1) (L++[W]) [] [] pre none hc' rfl (by simp[hp]) (by rw[hl,hW];simp)
     simpa[closed]using this
   |some x=>
    obtain⟨ex,hw⟩:=ho
    have hw':w.isEmpty=false:=by cases w with |nil=>exact absurd rfl hw |cons=>rfl
    have hW:(W++[w]).isEmpty=false:=by cases W<;>rfl
    have:=sS t (i+1) (L++[W++[w]]) [] [] (pre++closed L.length (some x)) none hc' rfl (by simp[closed,hp,ex]) (by unfold closed;rw[sU];simp)
    simp only[hw',Bool.false_eq_true,if_false,hW,Bool.not_false,if_true]
    simpa using this
theorem E4{t:List Nat}(h:∀c∈t,c≤4294967296):(wordsOf t).map (·.word)=(gQ t).flatten∧linesIn (wordsOf t)=(gQ t).length:=by
 have:=sS t 0 [] [] [] [] none h rfl rfl rfl
 simpa[wordsOf,gQ]using this
theorem GI{t:List Nat}(h:∀c∈t,c≤4294967296):tooMuch (wordsOf t)=(decide (8<(gQ t).length)||(decide (128<(gQ t).flatten.length)||(gQ t).flatten.any fun w=>decide (32<w.length))):=by
 obtain⟨h1,h2⟩:=E4 h
 unfold tooMuch
 rw[h2,←h1,List.length_map,List.any_map]
 rfl
abbrev NL:=Line×Nat
def before(x y:NL):Bool:=outranks x.2 x.1 y.2 y.1
theorem kT(x y:NL):before x y=true↔(x.1.for_.isSome=true∧y.1.for_.isSome=false)∨(x.1.for_.isSome=y.1.for_.isSome∧(y.1.from_<x.1.from_∨(y.1.from_=x.1.from_∧y.2<x.2))):=by
 unfold before outranks
 cases h1:x.1.for_.isSome<;>cases h2:y.1.for_.isSome<;>simp
theorem yB{x y z:NL}(h1:before x y=true)(h2:before y z=true):before x z=true:=by
 rw[kT]at*
 cases e1:x.1.for_.isSome<;>cases e2:y.1.for_.isSome<;>cases e3:z.1.for_.isSome<;>simp[e1,e2,e3]at* <;>omega
theorem HF(x:NL):before x x=false:=by
 cases h:before x x with
 |false=>rfl
 |true=>
  rw[kT]at h
  cases e:x.1.for_.isSome<;>simp[e]at h
theorem HE{x y:NL}(h:before x y=false)(h':before y x=false):x.2=y.2:=by
 have a:¬before x y=true:=by rw[h];simp
 have b:¬before y x=true:=by rw[h'];simp
 rw[kT]at a b
 cases e1:x.1.for_.isSome<;>cases e2:y.1.for_.isSome<;>simp[e1,e2]at a b<;>omega
def cQ(P:NL→Bool)(o:Option NL)(x:NL):Option NL:=if P x=true then(match o with
  |none=>some x
  |some y=>if before x y=true then some x else some y)else o
theorem rW(P:NL→Bool):∀(T:List NL)(o:Option NL),(∀y,o=some y→P y=true)→
  (T.foldl (cQ P) o=none→o=none∧∀x∈T,P x=false)∧
  ∀m,T.foldl (cQ P) o=some m→P m=true∧(m∈T∨o=some m)∧∀y,(y∈T∧P y=true)∨o=some y→before y m=false
 |[],o,ho=>by
  refine⟨fun h=>⟨h,by simp⟩,fun m h=>⟨ho m h,.inr h,fun y hy=> ?_⟩⟩
  rcases hy with⟨hy,_⟩|hy
  ·cases hy
  ·have h:o=some m:=h
   rw[hy]at h
   cases h
   exact HF _
 |x::T,o,ho=>by
  rw[List.foldl_cons]
  cases hP:P x with
  |false=>
   have e:cQ P o x=o:=by unfold cQ;rw[hP];simp
   rw[e]
   obtain⟨h1,h2⟩:=rW P T o ho
   refine⟨fun h=>⟨(h1 h).1,fun y hy=> ?_⟩,fun m h=> ?_⟩
   ·rcases List.mem_cons.mp hy with rfl |hy
    ·exact hP
    ·exact(h1 h).2 y hy
   ·obtain⟨a,b,c⟩:=h2 m h
    refine⟨a,b.imp (List.mem_cons_of_mem _) id,fun y hy=>c y ?_⟩
    rcases hy with⟨hy,hp⟩|hy
    ·rcases List.mem_cons.mp hy with rfl |hy
     ·rw[hP]at hp;cases hp
     ·exact .inl ⟨hy,hp⟩
    ·exact .inr hy
  |true=>
   cases o with
   |none=>
    have e:cQ P none x=some x:=by unfold cQ;rw[hP];rfl
    rw[e]
    obtain⟨h1,h2⟩:=rW P T (some x) (fun y hy=>by cases hy;exact hP)
    refine⟨fun h=>absurd (h1 h).1 (by simp),fun m h=> ?_⟩
    obtain⟨a,b,c⟩:=h2 m h
    refine⟨a,?_,fun y hy=>c y ?_⟩
    ·rcases b with b |b
     ·exact .inl (List.mem_cons_of_mem _ b)
     ·cases b;exact .inl (List.mem_cons_self ..)
    ·rcases hy with⟨hy,hp⟩|hy
     ·rcases List.mem_cons.mp hy with rfl |hy
      ·exact .inr rfl
      ·exact .inl ⟨hy,hp⟩
     ·cases hy
   |some z=>
    have hz:=ho z rfl
    cases hb:before x z with
    |true=>
     have e:cQ P (some z) x=some x:=by unfold cQ;rw[hP];simp[hb]
     rw[e]
     obtain⟨h1,h2⟩:=rW P T (some x) (fun y hy=>by cases hy;exact hP)
     refine⟨fun h=>absurd (h1 h).1 (by simp),fun m h=> ?_⟩
     obtain⟨a,b,c⟩:=h2 m h
     have cx:=c x (.inr rfl)
     refine⟨a,?_,fun y hy=> ?_⟩
     ·rcases b with b |b
      ·exact .inl (List.mem_cons_of_mem _ b)
      ·cases b;exact .inl (List.mem_cons_self ..)
     ·rcases hy with⟨hy,hp⟩|hy
      ·rcases List.mem_cons.mp hy with rfl |hy
       ·exact cx
       ·exact c y (.inl ⟨hy,hp⟩)
      ·cases hy
       cases q:before z m with
       |false=>rfl
       |true=>rw[yB hb q]at cx;cases cx
    |false=>
     have e:cQ P (some z) x=some z:=by unfold cQ;rw[hP];simp[hb]
     rw[e]
     obtain⟨h1,h2⟩:=rW P T (some z) ho
     refine⟨fun h=>absurd (h1 h).1 (by simp),fun m h=> ?_⟩
     obtain⟨a,b,c⟩:=h2 m h
     have cz:=c z (.inr rfl)
     refine⟨a,b.imp (List.mem_cons_of_mem _) id,fun y hy=> ?_⟩
     rcases hy with⟨hy,hp⟩|hy
     ·rcases List.mem_cons.mp hy with rfl |hy
      ·cases q:before y m with
       |false=>rfl
       |true=>
        rcases b with b |b
        ·cases q2:before m z with
         |true=>rw[yB q q2]at hb;cases hb
         |false=>
          have t:=HE cz q2
          rw[kT]at q
          have nb:¬before y z=true:=by rw[hb];simp
          have nc:¬before z m=true:=by rw[cz];simp
          have nd:¬before m z=true:=by rw[q2];simp
          rw[kT]at nb nc nd
          cases e1:y.1.for_.isSome<;>cases e2:z.1.for_.isSome<;>cases e3:m.1.for_.isSome<;>simp[e1,e2,e3]at q nb nc nd<;>omega
        ·cases b;rw[hb]at q;cases q
      ·exact c y (.inl ⟨hy,hp⟩)
     ·exact c y (.inr hy)
theorem Kw(P:NL→Bool){ls:Lines}{S:List NL}(hp:S.Perm ls.zipIdx)(hs:S.Pairwise fun x y=>before x y=true):S.find? P=ls.zipIdx.foldl (cQ P) none:=by
 obtain⟨h1,h2⟩:=rW P ls.zipIdx none (fun y hy=>by cases hy)
 cases e:ls.zipIdx.foldl (cQ P) none with
 |none=>
  rw[List.find?_eq_none]
  intro x hx
  rw[(h1 e).2 x (hp.mem_iff.mp hx)]
  simp
 |some m=>
  obtain⟨a,b,c⟩:=h2 m e
  have hm:m∈S:=by
   rcases b with b |b
   ·exact hp.mem_iff.mpr b
   ·cases b
  cases f:S.find? P with
  |none=>exact absurd a (List.find?_eq_none.mp f m hm)
  |some n=>
   obtain⟨hn,as,bs,eS,hno⟩:=List.find?_eq_some_iff_append.mp f
   have hnS:n∈S:=by rw[eS];simp
   have nm:before n m=false:=c n (.inl ⟨hp.mem_iff.mp hnS,hn⟩)
   rw[eS]at hs hm
   rcases List.mem_append.mp hm with q |q
   ·have:=hno m q;rw[a]at this;simp at this
   ·rcases List.mem_cons.mp q with rfl |q
    ·rfl
    ·have:=(List.pairwise_cons.mp (List.pairwise_append.mp hs).2.1).1 m q
     rw[nm]at this
     cases this
theorem u9(ls:Lines)(p:Person)(a d:Nat):∀(T:List NL)(o:Option NL),
  (T.foldl (fun(o:Option (Nat×Line))(x:Line×Nat)=>if(x.1.at_==a&&(x.1.inForce d&&x.1.isFor p))=true then(match o with
  |none=>some (x.2,x.1)
  |some y=>if outranks x.2 x.1 y.1 y.2=true then some (x.2,x.1)else some y)else o) (o.map fun x=>(x.2,x.1)))=(T.foldl (cQ fun x=>x.1.at_==a&&(x.1.inForce d&&x.1.isFor p)) o).map fun x=>(x.2,x.1)
 |[],o=>rfl
 |x::T,o=>by
  rw[List.foldl_cons,List.foldl_cons,←u9 ls p a d T]
  congr 1
  unfold cQ
  show _=Option.map _ (if(x.1.at_==a&&(x.1.inForce d&&x.1.isFor p))=true then _ else _)
  cases h:(x.1.at_==a&&(x.1.inForce d&&x.1.isFor p))with
  |false=>rfl
  |true=>
   cases o with
   |none=>rfl
   |some y=>
    show(if outranks x.2 x.1 y.2 y.1=true then _ else _)=Option.map _ (if before x y=true then some x else some y)
    unfold before
    split<;>rfl
theorem DA{ls:Lines}{S:List NL}(hp:S.Perm ls.zipIdx)(hs:S.Pairwise fun x y=>before x y=true)(p:Person)(a d:Nat):
  countsAt ls p a d=(((S.filter fun x=>x.1.at_==a).filter fun x=>x.1.isFor p).find? fun x=>x.1.inForce d).map fun x=>(x.2,x.1):=by
 rw[List.find?_filter,List.find?_filter]
 have:=u9 ls p a d ls.zipIdx none
 unfold countsAt
 refine Eq.trans this ?_
 rw[←Kw _ hp hs]
 congr 2
 funext x
 cases x.1.at_==a<;>cases x.1.inForce d<;>cases x.1.isFor p<;>rfl
def endAt(l:Option Line)(may been full:Bool):Option Nat:=match l with
 |none=>some 0
 |some l=>match l.what with
  | .halt_=>some 1
  | .move _ _=>if may=false then some 4 else if been=true then some 2 else if full=true then some 3 else none
  | .hold=>if been=true then some 2 else if full=true then some 3 else none
def Dg(l:Line)(a:Nat):Nat:=match l.what with
 | .move b _=>b
 |_=>a
def Dh(l:Line)(d:Nat):Nat:=match l.what with
 | .hold=>l.until_.getD d
 |_=>d
theorem M3{ls:Lines}{p:Person}{may:Bool}{n:Nat}{been:List (Nat×Nat)}{by_:List Nat}{a d h:Nat}(e:endAt ((countsAt ls p a d).map (·.2)) may (been.contains (a,d)) (n==0)=some h):
  goFrom ls p may n been by_ a d=⟨h,a,d,by_++(match countsAt ls p a d with |none=>[]|some x=>[x.1])⟩∧(h=0↔countsAt ls p a d=none):=by
 cases hc:countsAt ls p a d with
 |none=>
  rw[hc]at e
  cases e
  cases n<;>simp[goFrom,nextOf,hc]
 |some x=>
  obtain⟨i,l⟩:=x
  rw[hc]at e
  simp only[Option.map_some,endAt]at e
  cases hw:l.what with
  |halt_=>
   rw[hw]at e
   cases e
   cases n<;>simp[goFrom,nextOf,hc,hw]
  |move b o=>
   rw[hw]at e
   simp only at e
   split at e
   ·cases e
    rename_i q
    cases n<;>simp[goFrom,nextOf,hc,hw,q]
   ·rename_i q
    split at e
    ·cases e
     rename_i q2
     simp only[List.contains_eq_mem,decide_eq_true_eq]at q2
     cases n<;>simp[goFrom,nextOf,hc,hw,q,q2]
    ·rename_i q2
     split at e
     ·cases e
      rename_i q3
      have:n=0:=by simpa using q3
      subst this
      simp only[List.contains_eq_mem,decide_eq_true_eq]at q2
      simp[goFrom,nextOf,hc,hw,q,q2]
     ·cases e
  |hold=>
   rw[hw]at e
   simp only at e
   split at e
   ·cases e
    rename_i q2
    simp only[List.contains_eq_mem,decide_eq_true_eq]at q2
    cases n<;>simp[goFrom,nextOf,hc,hw,q2]
   ·rename_i q2
    split at e
    ·cases e
     rename_i q3
     have:n=0:=by simpa using q3
     subst this
     simp only[List.contains_eq_mem,decide_eq_true_eq]at q2
     simp[goFrom,nextOf,hc,hw,q2]
    ·cases e
theorem RE{ls:Lines}{p:Person}{may:Bool}{n:Nat}{been:List (Nat×Nat)}{by_:List Nat}{a d:Nat}(e:endAt ((countsAt ls p a d).map (·.2)) may (been.contains (a,d)) (n==0)=none):
  ∃i l n',countsAt ls p a d=some (i,l)∧n=n'+1∧l.what≠.halt_∧goFrom ls p may n been by_ a d=goFrom ls p may n' ((a,d)::been) (by_++[i]) (Dg l a) (Dh l d):=by
 cases hc:countsAt ls p a d with
 |none=>
  rw[hc]at e
  cases e
 |some x=>
  obtain⟨i,l⟩:=x
  rw[hc]at e
  simp only[Option.map_some,endAt]at e
  cases n with
  |zero=>
   exfalso
   cases hw:l.what with
   |halt_=>rw[hw]at e;cases e
   |move b o=>rw[hw]at e;simp only at e;(repeat' split at e)<;>simp_all
   |hold=>rw[hw]at e;simp only at e;(repeat' split at e)<;>simp_all
  |succ n'=>
   refine⟨i,l,n',rfl,rfl,?_,?_⟩
   ·intro q;rw[q]at e;cases e
   ·cases hw:l.what with
    |halt_=>rw[hw]at e;cases e
    |move b o=>
     rw[hw]at e
     simp only at e
     split at e
     ·cases e
     ·rename_i q
      split at e
      ·cases e
      ·rename_i q2
       simp only[List.contains_eq_mem,decide_eq_true_eq]at q2
       simp[goFrom,nextOf,hc,hw,q,q2,Dg,Dh]
    |hold=>
     rw[hw]at e
     simp only at e
     split at e
     ·cases e
     ·rename_i q2
      simp only[List.contains_eq_mem,decide_eq_true_eq]at q2
      simp[goFrom,nextOf,hc,hw,q2,Dg,Dh]
end Pm
namespace Pm
open Po PoMoves Wqatco
def N7(x:NL)(t:Array (List NL)):Array (List NL):=t.modify x.1.at_ fun l=>x::l
theorem IB:∀T:List NL,(T.foldr N7 (Array.replicate 4096 [])).size=4096∧∀a,a<4096→(T.foldr N7 (Array.replicate 4096 []))[a]? =some (T.filter fun x=>x.1.at_==a)
 |[]=>by
  refine⟨Array.size_replicate ..,fun a h=> ?_⟩
  show(Array.replicate 4096 ([]:List NL))[a]? =_
  rw[Array.getElem?_replicate,if_pos h]
  rfl
 |x::T=>by
  obtain⟨h1,h2⟩:=IB T
  refine⟨by show(Array.modify _ _ _).size=_;rw[Array.size_modify];exact h1,fun a h=> ?_⟩
  show(Array.modify (T.foldr N7 (Array.replicate 4096 [])) _ _)[a]? =_
  rw[Array.getElem?_modify,h2 a h,List.filter_cons]
  by_cases e:x.1.at_=a
  ·rw[if_pos e,if_pos (by simp[e])];rfl
  ·rw[if_neg e,if_neg (by simp[e])]
theorem Gm{ls:Lines}(h:∀l∈ls,l.at_≤4095)(a:Nat):(byPoint ls).getD a []=ls.zipIdx.filter fun x=>x.1.at_==a:=by
 have e:byPoint ls=ls.zipIdx.foldr N7 (Array.replicate 4096 []):=rfl
 obtain⟨h1,h2⟩:=IB ls.zipIdx
 rw[e,Array.getD_eq_getD_getElem?]
 by_cases q:a<4096
 ·rw[h2 a q];rfl
 ·rw[Array.getElem?_eq_none (by rw[h1];omega)]
  symm
  rw[Option.getD_none,List.filter_eq_nil_iff]
  intro x hx
  have hm:x.1∈ls:=by
   obtain⟨l,i⟩:=x
   have hx:ls[i]? =some l:=by rw[List.mem_zipIdx_iff_getElem?]at hx;exact hx
   exact List.mem_of_getElem? hx
  have:=h _ hm
  simp
  omega
theorem zX{ls:Lines}(h:∀l∈ls,l.at_≤4095)(a d:Nat):countsIn ((byPoint ls).getD a []) d=countsAt ls [] a d:=by
 rw[Gm h]
 unfold countsIn countsAt
 rw[List.foldl_filter]
 congr 1
 funext o x
 cases q:x.1.at_==a with
 |false=>rfl
 |true=>rfl
theorem BZ{ls:Lines}(h:∀l∈ls,l.at_≤4095):∀(n:Nat)(been:List (Nat×Nat))(by_:List Nat)(a d:Nat),endIn (byPoint ls) n been a d=((goFrom ls [] true n been by_ a d).how,(goFrom ls [] true n been by_ a d).point)
 |0,been,by_,a,d=>by
  simp only[endIn,goFrom,stepIn,nextOf,zX h]
  cases hc:countsAt ls [] a d with
  |none=>rfl
  |some x=>
   obtain⟨i,l⟩:=x
   cases hw:l.what with
   |halt_=>simp[hw]
   |move b o=>by_cases q:(a,d)∈been<;>simp[hw,q]
   |hold=>by_cases q:(a,d)∈been<;>simp[hw,q]
 |n+1,been,by_,a,d=>by
  simp only[endIn,goFrom,stepIn,nextOf,zX h]
  cases hc:countsAt ls [] a d with
  |none=>rfl
  |some x=>
   obtain⟨i,l⟩:=x
   cases hw:l.what with
   |halt_=>simp[hw]
   |move b o=>
    by_cases q:(a,d)∈been
    ·simp[hw,q]
    ·simp[hw,q]
     exact BZ h n _ _ _ _
   |hold=>
    by_cases q:(a,d)∈been
    ·simp[hw,q]
    ·simp[hw,q]
     exact BZ h n _ _ _ _
theorem Iw:∀{l m:List Nat},l.Pairwise (·< ·)→m.Pairwise (·< ·)→(∀x,x∈l↔x∈m)→l=m
 |[],[],_,_,_=>rfl
 |[],y::m,_,_,h=>absurd ((h y).mpr (List.mem_cons_self ..)) (by simp)
 |x::l,[],_,_,h=>absurd ((h x).mp (List.mem_cons_self ..)) (by simp)
 |x::l,y::m,hl,hm,h=>by
  obtain⟨h1,h2⟩:=List.pairwise_cons.mp hl
  obtain⟨h3,h4⟩:=List.pairwise_cons.mp hm
  have e:x=y:=by
   rcases List.mem_cons.mp ((h x).mp (List.mem_cons_self ..))with q |q
   ·exact q
   ·rcases List.mem_cons.mp ((h y).mpr (List.mem_cons_self ..))with q2 |q2
    ·exact q2.symm
    ·have:=h1 y q2
     have:=h3 x q
     omega
  subst e
  rw[Iw h2 h4 fun z=> ?_]
  constructor
  ·intro hz
   rcases List.mem_cons.mp ((h z).mp (List.mem_cons_of_mem _ hz))with q |q
   ·subst q;exact absurd (h1 z hz) (by omega)
   ·exact q
  ·intro hz
   rcases List.mem_cons.mp ((h z).mpr (List.mem_cons_of_mem _ hz))with q |q
   ·subst q;exact absurd (h3 z hz) (by omega)
   ·exact q
theorem Gg{ls:Lines}{p:Person}{a d:Nat}(h:∀l∈ls,l.at_≠a):countsAt ls p a d=none:=by
 have:∀T:List NL,(∀x∈T,x.1.at_≠a)→(T.foldl (cQ fun x=>x.1.at_==a&&(x.1.inForce d&&x.1.isFor p)) none)=none:=by
  intro T hT
  induction T with
  |nil=>rfl
  |cons x T ih=>
   rw[List.foldl_cons]
   have:cQ (fun x=>x.1.at_==a&&(x.1.inForce d&&x.1.isFor p)) none x=none:=by
    unfold cQ
    rw[if_neg]
    simp[hT x (List.mem_cons_self ..)]
   rw[this]
   exact ih fun y hy=>hT y (List.mem_cons_of_mem _ hy)
 have e:=u9 ls p a d ls.zipIdx none
 unfold countsAt
 refine Eq.trans e ?_
 rw[this _ fun x hx=> ?_]
 ·rfl
 ·obtain⟨l,i⟩:=x
  have hx:ls[i]? =some l:=by rw[List.mem_zipIdx_iff_getElem?]at hx;exact hx
  exact h l (List.mem_of_getElem? hx)
theorem Oy{ls:Lines}(h:∀l∈ls,l.at_≤4095){a d:Nat}(ha:a≤4095){ks:List Nat}(hk:ks.Pairwise (·< ·))(hm:∀x,x∈ks↔x=a∨∃l∈ls,l.at_=x):
  intoOf ls a d=ks.filter fun x=>(endOf ls [] true x d).how==0&&(endOf ls [] true x d).point==a:=by
 have e:intoOf ls a d=(List.range 4096).filter fun x=>(endOf ls [] true x d).how==0&&(endOf ls [] true x d).point==a:=by
  unfold intoOf
  show(List.range 4096).filter _=_
  congr 1
  funext x
  show(endIn (byPoint ls) STEPS [] x d==(0,a))=_
  rw[BZ h STEPS [] [] x d]
  rfl
 rw[e]
 refine Iw (List.Pairwise.sublist (List.filter_sublist) List.pairwise_lt_range) (List.Pairwise.sublist (List.filter_sublist) hk) fun x=> ?_
 rw[List.mem_filter,List.mem_filter,List.mem_range,hm]
 constructor
 ·rintro⟨h1,h2⟩
  refine⟨?_,h2⟩
  by_cases q:∃l∈ls,l.at_=x
  ·exact .inr q
  ·have hn:countsAt ls [] x d=none:=Gg fun l hl e=>q ⟨l,hl,e⟩
   have:=(M3 (ls:=ls) (p:=[]) (may:=true) (n:=STEPS) (been:=[]) (by_:=[]) (a:=x) (d:=d) (h:=0) (by rw[hn];rfl)).1
   unfold endOf at h2
   rw[this]at h2
   simp at h2
   exact .inl h2
 ·rintro⟨h1,h2⟩
  refine⟨?_,h2⟩
  rcases h1 with rfl |⟨l,hl,rfl⟩
  ·omega
  ·have:=h l hl;omega
end Pm
namespace Pm
open Po PoMoves Mm
theorem wF(w:Bytes)(r:List Bytes)(h:r≠[]):(spaced (w::r)).length=w.length+1+(spaced r).length:=by
 cases r with
 |nil=>exact absurd rfl h
 |cons a b=>simp[spaced];omega
theorem RF(ls:Lines)(p:Person)(may_:Bool):∀(n:Nat)(been:List (Nat×Nat))(by_:List Nat)(a d:Nat),(goFrom ls p may_ n been by_ a d).by_.length≤by_.length+n+1:=by
 intro n
 have nx:∀(full:Bool)(been:List (Nat×Nat))(by_:List Nat)(a d:Nat)(e:End),nextOf ls p may_ full been by_ a d= .error e→e.by_.length≤by_.length+1:=by
  intro full been by_ a d e h
  unfold nextOf at h
  split at h
  ·cases h;simp
  ·dsimp only at h
   split at h
   ·cases h;simp
   ·split at h
    ·cases h;simp
    ·split at h
     ·cases h;simp
     ·split at h
      ·cases h;simp
      ·cases h
   ·split at h
    ·cases h;simp
    ·split at h
     ·cases h;simp
     ·cases h
 induction n with
 |zero=>
  intro been by_ a d
  unfold goFrom
  cases h:nextOf ls p may_ true been by_ a d with
  |error e=>have:=nx _ _ _ _ _ _ h;show e.by_.length≤_;omega
  |ok x=>show by_.length≤_;omega
 |succ n ih=>
  intro been by_ a d
  unfold goFrom
  cases h:nextOf ls p may_ false been by_ a d with
  |error e=>have:=nx _ _ _ _ _ _ h;show e.by_.length≤_;omega
  |ok x=>
   have:=ih ((a,d)::been) (by_++[x.1]) x.2.1 x.2.2
   show(goFrom ls p may_ n ((a,d)::been) (by_++[x.1]) x.2.1 x.2.2).by_.length≤_
   simp at this
   omega
theorem QH(ls:Lines)(p:Person)(may_:Bool)(a d:Nat):(endOf ls p may_ a d).by_.length≤33:=by
 have:=RF ls p may_ 32 [] [] a d
 simpa[endOf,STEPS]using this
theorem DV(c:Bytes)(r:List Bytes):c.length≤(spaced (c::r)).length:=by
 cases r with
 |nil=>simp[spaced]
 |cons a b=>rw[wF c _ (by simp)];omega
theorem DW(a b c:Bytes)(r:List Bytes):a.length+b.length+c.length+2≤(spaced (a::b::c::r)).length:=by
 rw[wF a _ (by simp),wF b _ (by simp)]
 have:=DV c r
 omega
theorem EF(n:Nat):1≤(decimal n).length:=by
 have:=B5 n
 cases h:decimal n with
 |nil=>exact absurd h this
 |cons a b=>simp
theorem NS(l:Line):8≤l.text.length:=by
 obtain⟨what,a,fr,u,f⟩:=l
 unfold Line.text
 have h1:=EF a
 have h2:=EF fr
 cases what with
 |move b o=>
  have h3:=EF b
  refine Nat.le_trans ?_ (DW (ascii "move") (decimal a) (decimal b) _)
  have:(ascii "move").length=4:=rfl
  omega
 |hold=>
  refine Nat.le_trans ?_ (DW (ascii "hold") (decimal a) (decimal fr) _)
  have:(ascii "hold").length=4:=rfl
  omega
 |halt_=>
  refine Nat.le_trans ?_ (DW (ascii "stop") (decimal a) (decimal fr) _)
  have:(ascii "stop").length=4:=rfl
  omega
theorem MO:∀ls:Lines,9*ls.length≤(linesText ls).length
 |[]=>Nat.zero_le _
 |l::ls=>by
  have h1:=NS l
  have h2:=MO ls
  have e:linesText (l::ls)=(l.text++[10])++linesText ls:=by unfold linesText;rw[List.flatMap_cons]
  rw[e]
  simp
  omega
theorem wR{a d B:Nat}{n:List Int}{f:Person→Wqatco.Ans}(hB:1≤B)(h:∀p,(f p).nums.length≤B):(Wqatco.ofLetter a d n f).nums.length≤B:=by
 unfold Wqatco.ofLetter
 split
 ·exact Nat.zero_le _
 ·split
  ·exact hB
  ·dsimp only
   split
   ·exact Nat.zero_le _
   ·split
    ·exact Nat.zero_le _
    ·exact h _
theorem K8(ls:Lines)(c:Wqatco.Call):(Wqatco.told ls c).nums.length≤(linesText ls).length+4200:=by
 cases c with
 |take t=>exact Nat.zero_le _
 |more t=>exact Nat.zero_le _
 |text=>show((linesText ls).map _).length≤_;simp
 |sizes=>show 4≤_;omega
 |at_ a d n=>
  refine wR (by omega) fun p=> ?_
  split
  ·exact Nat.zero_le _
  ·exact Nat.zero_le _
 |follow a d m n=>
  refine wR (by omega) fun p=> ?_
  have:=QH ls p (m==1) a d
  show([_,_,_,_]++(endOf ls p (m==1) a d).by_).length≤_
  simp
  omega
 |where_ a d n=>
  refine wR (by omega) fun p=> ?_
  dsimp only
  split
  ·exact Nat.zero_le _
  ·exact Nat.zero_le _
 |into a d=>
  show(if POINT<a∨DAY<d then Wqatco.BAD else Wqatco.rowAns (Wqatco.intoOf ls a d)).nums.length≤_
  split
  ·exact Nat.zero_le _
  ·show(Wqatco.intoOf ls a d).length≤_
   unfold Wqatco.intoOf
   refine Nat.le_trans (List.length_filter_le _ _) ?_
   have:POINT=4095:=rfl
   simp[this]
theorem CT(ls:Lines)(t:Bytes):(Wqatco.taken ls t).2.nums.length≤2:=by
 unfold Wqatco.taken
 split
 ·exact Nat.zero_le _
 ·split
  ·exact Nat.zero_le _
  ·exact Nat.le_refl _
theorem LX(ls:Lines)(cc:List (List Int)):(WqatcoNeutral.step ls cc).2.length≤(linesText ls).length+4201:=by
 unfold WqatcoNeutral.step
 split
 ·rename_i x _
  show(List.length _)≤_
  rw[List.length_cons,List.length_map]
  cases x with
  |take t=>have:=CT ls t;show(Wqatco.taken ls t).2.nums.length+1≤_;omega
  |more t=>have:=CT ls (linesText ls++t);show(Wqatco.taken ls (linesText ls++t)).2.nums.length+1≤_;omega
  |_=>exact Nat.succ_le_succ (K8 ls _)
 ·exact Nat.zero_le _
def oN(cc:List (List Int)):Nat:=(cc.map fun r=>r.length).sum
theorem Cv{t:Bytes}{ls:Lines}(h:readLines t= .ok ls):linesText ls=t:=Dx _ _ _ (show linesFrom (bare t) 0 (splitLines t)= .ok ls from h)
theorem AB(ls:Lines)(t:Bytes):(linesText (Wqatco.taken ls t).1).length≤max (linesText ls).length t.length:=by
 unfold Wqatco.taken
 split
 ·exact Nat.le_max_left _ _
 ·split
  ·rename_i l h
   rw[Cv h]
   exact Nat.le_max_right _ _
  ·exact Nat.le_max_left _ _
theorem Er(c:List (List Int))(cs:List (List (List Int))):WqatcoNeutral.numbers (c::cs)=oN c+WqatcoNeutral.numbers cs:=by
 simp[WqatcoNeutral.numbers,oN]
theorem EI(c:List (List Int))(cs:List (List (List Int))):WqatcoNeutral.callsOf 7 (c::cs)=(if((c.headD []).headD (-1)==7)=true then 1 else 0)+WqatcoNeutral.callsOf 7 cs:=by
 unfold WqatcoNeutral.callsOf
 rw[List.filter_cons]
 split
 ·simp;omega
 ·simp
theorem Hz(cs:List (List (List Int))):WqatcoNeutral.callsOf 7 cs≤cs.length:=List.length_filter_le _ _
theorem Gp{N M k:Nat}(hk:k≤N)(h:N*(M+1000)+4200*k≤1000000):66*((M / 9+1)*k)≤7400000:=by
 have h1:k*(M+1000)≤N*(M+1000):=Nat.mul_le_mul_right _ hk
 have h2:k*(9*(M / 9+1))≤k*(M+1000):=Nat.mul_le_mul_left _ (by omega)
 have h3:k*(9*(M / 9+1))=9*((M / 9+1)*k):=by
  rw[Nat.mul_comm k,Nat.mul_assoc]
 omega
end Pm
section
namespace L2
open PySem PySem.Spec PyProof.Rows
open PySem.W (WData Codec OpenSpec Well WellAll ReadsW ReadsAllW)
mutual
inductive Dw(K:PySem.W.Frag)(H:Hp):V→WData→Prop
 |non:Dw K H .non .none
 |bl (b:Bool):Dw K H (.bl b) (.bool b)
 |int (i:Int):Dw K H (.int i) (.int i)
 |str (x:Str):Dw K H (.str x) (.str x)
 |Cp (b:Array UInt8):Dw K H (.Cp b) (.bytes b.toList)
 |lst {a:Addr} {xs:List V} {ds:List WData}:bW K H a xs→tZ K H xs ds→Dw K H (.ref a) (.list ds)
 |tup {a:Addr} {xs:List V} {ds:List WData}:sE K H a xs→tZ K H xs ds→Dw K H (.ref a) (.tuple ds)
inductive tZ(K:PySem.W.Frag)(H:Hp):List V→List WData→Prop
 |nil:tZ K H [] []
 |cons {v:V} {vs:List V} {d:WData} {ds:List WData}:Dw K H v d→tZ K H vs ds→tZ K H (v::vs) (d::ds)
end
theorem Jm{K:PySem.W.Frag}{H:Hp}:∀ns:List Int,tZ K H (ns.map V.int) (ns.map WData.int)
 |[]=>.nil
 |n::r=>.cons (.int n) (Jm r)
theorem IY{K:PySem.W.Frag}{H:Hp}:∀(ns:List Int)(xs:List V),tZ K H xs (ns.map WData.int)→xs=ns.map V.int
 |[],xs,h=>by
  cases h
  rfl
 |n::r,xs,h=>by
  cases h with
  |cons h1 h2=>
   cases h1
   rw[IY r _ h2]<;>rfl
section
variable{P:Program}{w:World}{K:PySem.W.Frag}{H:Hp}{h:Heap}{R:PySem.W.WRecords}{cl:Str→Option Addr}
theorem Qj{a:Addr}{xs:List V}(hok:tL P w H h)(KX:K.In h)(q:bW K H a xs):∃(its:List Value)(o:Obj)(n:Nat),Vals xs its∧h.get? a=some o∧o.cls= .type "list"∧o.data= .seq its.toArray n:=by
 rcases q with q |⟨o,its,n,e,hc,_,hd,_,hv⟩
 ·obtain⟨_,its,n,hv,e⟩:=(show cM P w H h a (.lst xs)from q.ok hok)
  exact⟨its,_,n,hv,e,rfl,rfl⟩
 ·exact⟨its.toList,o,n,hv,KX _ _ e,hc,by simp[hd]⟩
theorem Qi{a:Addr}{xs:List V}(hok:tL P w H h)(KX:K.In h)(q:sE K H a xs):∃(its:List Value)(o:Obj)(n:Nat),Vals xs its∧h.get? a=some o∧o.cls= .type "tuple"∧o.data= .seq its.toArray n:=by
 rcases q with q |⟨o,its,n,e,hc,hd,_,hv⟩
 ·obtain⟨_,its,hv,o,e,hc,n,hd⟩:=(show cM P w H h a (.tup xs)from q.ok hok)
  exact⟨its,o,n,hv,e,hc,hd⟩
 ·exact⟨its.toList,o,n,hv,KX _ _ e,hc,by simp[hd]⟩
mutual
theorem Dw.reads(hok:tL P w H h)(KX:K.In h):∀(d:WData)(v:V)(u:Value),Dw K H v d→RelV v u→∃as,ReadsW R cl h u d as
 | .none,_,_,x,r=>by
  cases x
  cases r
  exact⟨_,ReadsW.none⟩
 | .bool b,_,_,x,r=>by
  cases x
  cases r
  exact⟨_,ReadsW.bool b⟩
 | .int i,_,_,x,r=>by
  cases x
  obtain⟨t,rfl⟩:=r
  exact⟨_,ReadsW.int i t⟩
 | .str s,_,_,x,r=>by
  cases x
  obtain⟨t,rfl⟩:=r
  exact⟨_,ReadsW.str s t⟩
 | .bytes b,_,_,x,r=>by
  cases x
  obtain⟨t,rfl⟩:=r
  exact⟨_,ReadsW.bytes _ t⟩
 | .list ds,_,_,x,r=>by
  cases x with
  |lst hs ha=>
   cases r
   obtain⟨its,o,n,rv,ho,hc,hd⟩:=Qj hok KX hs
   obtain⟨as,hr⟩:=Dw.readsAll hok KX ds _ its ha rv
   exact⟨_,ReadsW.list ho hc hd hr⟩
 | .tuple ds,_,_,x,r=>by
  cases x with
  |tup hs ha=>
   cases r
   obtain⟨its,o,n,rv,ho,hc,hd⟩:=Qi hok KX hs
   obtain⟨as,hr⟩:=Dw.readsAll hok KX ds _ its ha rv
   exact⟨_,ReadsW.tuple ho hc hd hr⟩
 | .float _,_,_,x,_=>by cases x
 | .dict _,_,_,x,_=>by cases x
 | .bytearray _,_,_,x,_=>by cases x
 | .set _,_,_,x,_=>by cases x
 | .frozenset _,_,_,x,_=>by cases x
 | .obj _ _,_,_,x,_=>by cases x
theorem Dw.readsAll(hok:tL P w H h)(KX:K.In h):∀(ds:List WData)(vs:List V)(us:List Value),tZ K H vs ds→Vals vs us→∃as,ReadsAllW R cl h us ds as
 |[],_,_,x,r=>by
  cases x
  cases r
  exact⟨_,ReadsAllW.nil⟩
 |d::ds,_,_,x,r=>by
  cases x with
  |cons h1 h2=>
   cases r with
   |cons r1 r2=>
    obtain⟨as,q1⟩:=Dw.reads hok KX d _ _ h1 r1
    obtain⟨bs,q2⟩:=Dw.readsAll hok KX ds _ _ h2 r2
    exact⟨_,ReadsAllW.cons q1 q2⟩
end
end
mutual
def IE:WData→Bool
 | .none=>true
 | .bool _=>true
 | .int _=>true
 | .str _=>true
 | .bytes _=>true
 | .list xs=>Ab xs
 | .tuple xs=>Ab xs
 |_=>false
def Ab:List WData→Bool
 |[]=>true
 |x::r=>IE x&&Ab r
end
theorem FH{α:Type}{f:α→WData}(h:∀a,IE (f a)=true):∀l:List α,Ab (l.map f)=true
 |[]=>rfl
 |x::r=>by
  show(IE (f x)&&Ab (r.map f))=true
  rw[h x,FH h r]<;>rfl
theorem uM:∀(c:Codec)(a:c.denote),IE (c.enc a)=true
 | .unit,_=>rfl
 | .bool,_=>rfl
 | .int _ _,_=>rfl
 | .nat _ _,_=>rfl
 | .u8,_=>rfl
 | .bytes _ _,_=>rfl
 | .text _ _ _ _,_=>rfl
 | .list _ _ c,a=>FH (fun x=>uM c x) a
 | .pair c d,a=>by
  show(IE (c.enc a.1)&&(IE (d.enc a.2)&&true))=true
  rw[uM c a.1,uM d a.2]<;>rfl
 | .triple c d e,a=>by
  show(IE (c.enc a.1)&&(IE (d.enc a.2.1)&&(IE (e.enc a.2.2)&&true)))=true
  rw[uM c a.1,uM d a.2.1,uM e a.2.2]<;>rfl
 | .option c,none=>rfl
 | .option c,some x=>uM c x
theorem C9:∀(cs:List Codec)(a:Codec.denoteAll cs),Ab (Codec.encAll cs a)=true
 |[],_=>rfl
 |c::cs,a=>by
  show(IE (c.enc a.1)&&Ab (Codec.encAll cs a.2))=true
  rw[uM c a.1,C9 cs a.2]<;>rfl
theorem wA:∀{xs:List WData}{d:WData},d∈xs→d.weight≤WData.weightAll xs
 |[],d,h=>absurd h (by simp)
 |x::r,d,h=>by
  show d.weight≤x.weight+1+WData.weightAll r
  rcases List.mem_cons.mp h with e |m
  ·rw[e]
   omega
  ·have z:=wA m
   omega
def toV:Value→V
 | .none=>.non
 | .bool b=>.bl b
 | .int i _=>.int i
 | .str x _=>.str x
 | .bytes b _=>.Cp b
 | .ref a=>.ref a
 |_=>.non
def KL(A:List Addr):Value→Prop
 | .none=>True
 | .bool _=>True
 | .int _ _=>True
 | .str _ _=>True
 | .bytes _ _=>True
 | .ref a=>a∈A
 |_=>False
theorem KL.mono{A B:List Addr}(h:∀a∈A,a∈B):∀{u:Value},KL A u→KL B u:=fun{u} x=>by
 cases u with
 |ref a=>exact h a x
 |none=>trivial
 |bool b=>trivial
 |int i t=>trivial
 |str s t=>trivial
 |bytes b t=>trivial
 |_=>exact False.elim x
theorem L6{A:List Addr}{u:Value}(x:KL A u):RelV (toV u) u:=by
 cases u with
 |ref a=>rfl
 |none=>rfl
 |bool b=>rfl
 |int i t=>exact⟨t,rfl⟩
 |str s t=>exact⟨t,rfl⟩
 |bytes b t=>exact⟨t,rfl⟩
 |_=>exact False.elim x
theorem rm{A:List Addr}:∀{vs:List Value},(∀u∈vs,KL A u)→Vals (vs.map toV) vs
 |[],_=>.nil
 |u::r,h=>.cons (L6 (h u (List.mem_cons_self ..))) (rm fun x hx=>h x (List.mem_cons_of_mem _ hx))
def t4(h:Heap)(A:List Addr)(a:Addr):Prop:=∃vs:List Value,vs.length≤sizeLine∧(∀u∈vs,KL A u)∧
 (h.get? a=some { cls:=.type "list",data:=.seq vs.toArray }∨h.get? a=some { cls:=.type "tuple",data:=.seq vs.toArray })
theorem t4.mono{h:Heap}{A B:List Addr}{a:Addr}(k:∀a∈A,a∈B)(x:t4 h A a):t4 h B a:=by
 obtain⟨vs,h1,h2,h3⟩:=x
 exact⟨vs,h1,fun u hu=>(h2 u hu).mono k,h3⟩
theorem pK{P:Params}{h:Heap}:∀{vs:List Value}{ds:List WData},WellAll P h vs ds→vs.length=ds.length
 |_,_,.nil=>rfl
 |_,_,.cons _ b=>by
  show _+1=_+1
  rw[pK b]
theorem CN{P:Params}{h:Heap}{v:Value}{ds:List WData}(x:Well P h v (.list ds)):∃(a:Addr)(vs:List Value),v= .ref a∧h.get? a=some { cls:=.type "list",data:=.seq vs.toArray }∧WellAll P h vs ds:=by
 cases x with
 |list ho hall=>exact⟨_,_,rfl,ho,hall⟩
theorem Ay{P:Params}{h:Heap}{v:Value}{ds:List WData}(x:Well P h v (.tuple ds)):∃(a:Addr)(vs:List Value),v= .ref a∧h.get? a=some { cls:=.type "tuple",data:=.seq vs.toArray }∧WellAll P h vs ds:=by
 cases x with
 |tuple ho hall=>exact⟨_,_,rfl,ho,hall⟩
theorem CO{P:Params}{h:Heap}{us:List Value}{d:WData}{ds:List WData}(x:WellAll P h us (d::ds)):∃(v:Value)(vs:List Value),us=v::vs∧Well P h v d∧WellAll P h vs ds:=by
 cases x with
 |cons a b=>exact⟨_,_,rfl,a,b⟩
theorem IU{n:Nat}(h:n≤1048576):n≤sizeLine:=Nat.le_trans h (by decide)
section
variable{P:Params}{h:Heap}
mutual
theorem NC:∀(d:WData)(v:Value),Well P h v d→IE d=true→d.weight≤1048576→∃A:List Addr,KL A v∧∀a∈A,t4 h A a
 | .none,_,x,_,_=>by
  cases x
  exact⟨[],trivial,fun a m=>absurd m (by simp)⟩
 | .bool b,_,x,_,_=>by
  cases x
  exact⟨[],trivial,fun a m=>absurd m (by simp)⟩
 | .int i,_,x,_,_=>by
  cases x
  exact⟨[],trivial,fun a m=>absurd m (by simp)⟩
 | .str s,_,x,_,_=>by
  cases x
  exact⟨[],trivial,fun a m=>absurd m (by simp)⟩
 | .bytes b,_,x,_,_=>by
  cases x
  exact⟨[],trivial,fun a m=>absurd m (by simp)⟩
 | .list ds,_,x,p,z=>by
  obtain⟨a,vs,rfl,ho,hall⟩:=CN x
  have z2:WData.weightAll ds≤1048576:=z
  obtain⟨A,h1,h2⟩:=yG ds _ hall p fun d hd=>Nat.le_trans (wA hd) z2
  have k:∀b∈A,b∈a::A:=fun b hb=>List.mem_cons_of_mem _ hb
  refine⟨a::A,List.mem_cons_self ..,fun b hb=> ?_⟩
  rcases List.mem_cons.mp hb with e |m
  ·rw[e]
   exact⟨vs,IU (by rw[pK hall];exact Nat.le_trans (PySem.W.length_le_weightAllW ds) z2),fun u hu=>(h1 u hu).mono k,.inl ho⟩
  ·exact(h2 b m).mono k
 | .tuple ds,_,x,p,z=>by
  obtain⟨a,vs,rfl,ho,hall⟩:=Ay x
  have z2:WData.weightAll ds≤1048576:=z
  obtain⟨A,h1,h2⟩:=yG ds _ hall p fun d hd=>Nat.le_trans (wA hd) z2
  have k:∀b∈A,b∈a::A:=fun b hb=>List.mem_cons_of_mem _ hb
  refine⟨a::A,List.mem_cons_self ..,fun b hb=> ?_⟩
  rcases List.mem_cons.mp hb with e |m
  ·rw[e]
   exact⟨vs,IU (by rw[pK hall];exact Nat.le_trans (PySem.W.length_le_weightAllW ds) z2),fun u hu=>(h1 u hu).mono k,.inr ho⟩
  ·exact(h2 b m).mono k
 | .float _,_,_,p,_=>Bool.noConfusion (show false=true from p)
 | .dict _,_,_,p,_=>Bool.noConfusion (show false=true from p)
 | .bytearray _,_,_,p,_=>Bool.noConfusion (show false=true from p)
 | .set _,_,_,p,_=>Bool.noConfusion (show false=true from p)
 | .frozenset _,_,_,p,_=>Bool.noConfusion (show false=true from p)
 | .obj _ _,_,_,p,_=>Bool.noConfusion (show false=true from p)
theorem yG:∀(ds:List WData)(vs:List Value),WellAll P h vs ds→Ab ds=true→(∀d∈ds,d.weight≤1048576)→∃A:List Addr,(∀u∈vs,KL A u)∧∀a∈A,t4 h A a
 |[],_,x,_,_=>by
  cases x
  exact⟨[],fun u m=>absurd m (by simp),fun a m=>absurd m (by simp)⟩
 |d::ds,_,x,p,z=>by
  obtain⟨v,vs,rfl,x1,x2⟩:=CO x
  have q:IE d=true∧Ab ds=true:=Bool.and_eq_true_iff.mp p
  obtain⟨A,a1,a2⟩:=NC d v x1 q.1 (z d (List.mem_cons_self ..))
  obtain⟨B,b1,b2⟩:=yG ds vs x2 q.2 fun e he=>z e (List.mem_cons_of_mem _ he)
  have kA:∀b∈A,b∈A++B:=fun b hb=>List.mem_append.mpr (.inl hb)
  have kB:∀b∈B,b∈A++B:=fun b hb=>List.mem_append.mpr (.inr hb)
  refine⟨A++B,fun u hu=> ?_,fun b hb=> ?_⟩
  ·rcases List.mem_cons.mp hu with e |m
   ·rw[e]
    exact a1.mono kA
   ·exact(b1 u m).mono kB
  ·rcases List.mem_append.mp hb with m |m
   ·exact(a2 b m).mono kA
   ·exact(b2 b m).mono kB
end
end
def OB(o:Obj):Option HO:=match o.data with
 | .seq vs _=>if(o.cls==Value.type "list")=true then some (.Dv o (.lst (vs.toList.map toV)))else some (.Dv o (.tup (vs.toList.map toV)))
 |_=>none
def tG(K:PySem.W.Frag)(h:Heap)(A:List Addr):Hp:=fun b=>if b∈A then(if(K.lookup b).isNone=true then(h.get? b).bind OB else none)else none
def Gu(H:Hp):Prop:=∀b,H b=none∨∃o u,H b=some (.Dv o u)
theorem F9(vs:List Value):OB { cls:=.type "list",data:=.seq vs.toArray }=some (.Dv { cls:=.type "list",data:=.seq vs.toArray } (.lst (vs.map toV))):=by
 show(if(Value.type "list"==Value.type "list")=true then some (HO.Dv { cls:=.type "list",data:=.seq vs.toArray } (.lst (vs.toArray.toList.map toV)))else some (HO.Dv { cls:=.type "list",data:=.seq vs.toArray } (.tup (vs.toArray.toList.map toV))))=_
 rw[if_pos (beq_self_eq_true _)]
theorem F8(vs:List Value):OB { cls:=.type "tuple",data:=.seq vs.toArray }=some (.Dv { cls:=.type "tuple",data:=.seq vs.toArray } (.tup (vs.map toV))):=by
 show(if(Value.type "tuple"==Value.type "list")=true then some (HO.Dv { cls:=.type "tuple",data:=.seq vs.toArray } (.lst (vs.toArray.toList.map toV)))else some (HO.Dv { cls:=.type "tuple",data:=.seq vs.toArray } (.tup (vs.toArray.toList.map toV))))=_
 rw[if_neg (by decide)]
section
variable{P:Program}{w:World}{K:PySem.W.Frag}{h:Heap}{A:List Addr}
theorem Au{b:Addr}{o:Obj}(hb:b∈A)(hk:K.lookup b=none)(e:h.get? b=some o):tG K h A b=OB o:=by
 unfold tG
 rw[if_pos hb,hk,if_pos (show(none:Option Obj).isNone=true from rfl),e]<;>rfl
theorem Om{b:Addr}{u:HO}(q:tG K h A b=some u):b∈A∧K.lookup b=none:=by
 unfold tG at q
 by_cases hb:b∈A
 ·rw[if_pos hb]at q
  cases hk:K.lookup b with
  |none=>exact⟨hb,rfl⟩
  |some o=>
   rw[hk,if_neg (by simp)]at q
   cases q
 ·rw[if_neg hb]at q
  cases q
theorem As(ar:∀a∈A,t4 h A a){b:Addr}{u:HO}(q:tG K h A b=some u):K.lookup b=none∧∃vs:List Value,vs.length≤sizeLine∧(∀u∈vs,KL A u)∧
  ((h.get? b=some { cls:=.type "list",data:=.seq vs.toArray }∧u= .Dv { cls:=.type "list",data:=.seq vs.toArray } (.lst (vs.map toV)))∨
   (h.get? b=some { cls:=.type "tuple",data:=.seq vs.toArray }∧u= .Dv { cls:=.type "tuple",data:=.seq vs.toArray } (.tup (vs.map toV)))):=by
 obtain⟨hb,hk⟩:=Om q
 obtain⟨vs,h1,h2,h3⟩:=ar b hb
 refine⟨hk,vs,h1,h2,?_⟩
 rcases h3 with e |e
 ·rw[Au hb hk e,F9]at q
  exact .inl ⟨e,(Option.some.inj q).symm⟩
 ·rw[Au hb hk e,F8]at q
  exact .inr ⟨e,(Option.some.inj q).symm⟩
theorem KE(ar:∀a∈A,t4 h A a):Gu (tG K h A):=fun b=>by
 cases q:tG K h A b with
 |none=>exact .inl rfl
 |some u=>
  obtain⟨_,vs,_,_,⟨_,e⟩|⟨_,e⟩⟩:=As ar q
  ·exact .inr ⟨_,_,by rw[e]⟩
  ·exact .inr ⟨_,_,by rw[e]⟩
theorem OQ(ar:∀a∈A,t4 h A a):tL P w (tG K h A) h:=fun b u q=>by
 obtain⟨_,vs,h1,h2,⟨e,rfl⟩|⟨e,rfl⟩⟩:=As ar q
 ·exact⟨e,by rw[List.length_map];exact h1,vs,_,rm h2,e⟩
 ·exact⟨e,by rw[List.length_map];exact h1,vs,rm h2,_,e,rfl,_,rfl⟩
theorem Al{c c':Value}{vs us:List Value}(e:(some { cls:=c,data:=.seq vs.toArray }:Option Obj)=some { cls:=c',data:=.seq us.toArray }):c=c'∧vs=us:=by
 have e1:=Option.some.inj e
 have e2:c=c':=congrArg Obj.cls e1
 have e3:Data.seq vs.toArray=Data.seq us.toArray:=congrArg Obj.data e1
 injection e3 with e4
 refine⟨e2,?_⟩
 have e5:=congrArg Array.toList e4
 simpa using e5
theorem SA(KX:K.In h)(ar:∀a∈A,t4 h A a){a:Addr}{vs:List Value}(ha:a∈A)(e:h.get? a=some { cls:=.type "list",data:=.seq vs.toArray }):(∀u∈vs,KL A u)∧bW K (tG K h A) a (vs.map toV):=by
 obtain⟨us,h1,h2,h3⟩:=ar a ha
 have hu:us=vs:=by
  rcases h3 with q |q
  ·rw[e]at q
   exact(Al q).2.symm
  ·rw[e]at q
   exact absurd (Value.type.inj (Al q).1) (by decide)
 subst hu
 refine⟨h2,?_⟩
 cases hk:K.lookup a with
 |none=>exact .inl (.inr ⟨_,by rw[Au ha hk e,F9]⟩)
 |some o=>
  have e2:=KX a o hk
  rw[e]at e2
  obtain rfl:=Option.some.inj e2
  exact .inr ⟨_,us.toArray,_,hk,rfl,rfl,rfl,by rw[List.size_toArray];exact h1,by simpa using rm h2⟩
theorem Sz(KX:K.In h)(ar:∀a∈A,t4 h A a){a:Addr}{vs:List Value}(ha:a∈A)(e:h.get? a=some { cls:=.type "tuple",data:=.seq vs.toArray }):(∀u∈vs,KL A u)∧sE K (tG K h A) a (vs.map toV):=by
 obtain⟨us,h1,h2,h3⟩:=ar a ha
 have hu:us=vs:=by
  rcases h3 with q |q
  ·rw[e]at q
   exact absurd (Value.type.inj (Al q).1) (by decide)
  ·rw[e]at q
   exact(Al q).2.symm
 subst hu
 refine⟨h2,?_⟩
 cases hk:K.lookup a with
 |none=>exact .inl (.inr ⟨_,by rw[Au ha hk e,F8]⟩)
 |some o=>
  have e2:=KX a o hk
  rw[e]at e2
  obtain rfl:=Option.some.inj e2
  exact .inr ⟨_,us.toArray,_,hk,rfl,rfl,by rw[List.size_toArray];exact h1,by simpa using rm h2⟩
mutual
theorem QI{Pm:Params}(KX:K.In h)(ar:∀a∈A,t4 h A a):∀(d:WData)(v:Value),Well Pm h v d→IE d=true→KL A v→Dw K (tG K h A) (toV v) d
 | .none,_,x,_,_=>by
  cases x
  exact .non
 | .bool b,_,x,_,_=>by
  cases x
  exact .bl b
 | .int i,_,x,_,_=>by
  cases x
  exact .int i
 | .str s,_,x,_,_=>by
  cases x
  exact .str s
 | .bytes b,_,x,_,_=>by
  cases x
  have z:=Dw.Cp (K:=K) (H:=tG K h A) b.toArray
  exact z
 | .list ds,_,x,p,hu=>by
  obtain⟨a,vs,rfl,ho,hall⟩:=CN x
  obtain⟨h2,hs⟩:=SA KX ar hu ho
  exact .lst hs (EE KX ar ds _ hall p h2)
 | .tuple ds,_,x,p,hu=>by
  obtain⟨a,vs,rfl,ho,hall⟩:=Ay x
  obtain⟨h2,hs⟩:=Sz KX ar hu ho
  exact .tup hs (EE KX ar ds _ hall p h2)
 | .float _,_,_,p,_=>Bool.noConfusion (show false=true from p)
 | .dict _,_,_,p,_=>Bool.noConfusion (show false=true from p)
 | .bytearray _,_,_,p,_=>Bool.noConfusion (show false=true from p)
 | .set _,_,_,p,_=>Bool.noConfusion (show false=true from p)
 | .frozenset _,_,_,p,_=>Bool.noConfusion (show false=true from p)
 | .obj _ _,_,_,p,_=>Bool.noConfusion (show false=true from p)
theorem EE{Pm:Params}(KX:K.In h)(ar:∀a∈A,t4 h A a):∀(ds:List WData)(vs:List Value),WellAll Pm h vs ds→Ab ds=true→(∀u∈vs,KL A u)→tZ K (tG K h A) (vs.map toV) ds
 |[],_,x,_,_=>by
  cases x
  exact .nil
 |d::ds,_,x,p,hu=>by
  obtain⟨v,vs,rfl,x1,x2⟩:=CO x
  have q:IE d=true∧Ab ds=true:=Bool.and_eq_true_iff.mp p
  exact .cons (QI KX ar d v x1 q.1 (hu _ (List.mem_cons_self ..))) (EE KX ar ds vs x2 q.2 fun u m=>hu u (List.mem_cons_of_mem _ m))
end
end
theorem JP{P:Program}{w:World}{K:PySem.W.Frag}{mg mb:Str→Option Value}{CX:DL}{k:Nat}{fa:Addr}{fd:FuncData}{ps:List Str}{sp:Sp}{s₁:Shared}{vals:List Value}{ds:List WData}{R:PySem.W.WRecords}{cl:Str→Option Addr}{d0:WData}
  (KX:K.In s₁.heap) (hns:s₁.heap.Ns mainGlobals mg) (hb:s₁.heap.Ns builtinsNs mb) (hbb:∀x:Str,x≠"__name__"→mb x=bootBuiltins x) (hlim:s₁.heap.NoLimit) (hg:s₁.gens= #[])
  (hwl:WellAll w.params s₁.heap vals ds) (hpl:Ab ds=true) (hwt:∀d∈ds,d.weight≤1048576) (hr:f7 k callerA)
  (F:∀base:Heap,K.In base→base.Ns mainGlobals mg→bA P w K mg base CX k fa fd ps sp) (hbind:∀(s:Shared)(us:List Value),us.length=ps.length→BindsTo s fd ⟨us,[]⟩ (ps.zip us)) (hlen:ds.length=ps.length)
  (hsp:∀(H:Hp)(xs:List V),Gu H→tZ K H xs ds→sp xs H (fun v H'=>Dw K H' v d0) fun _ _ _=>False)
  (hCX:∀H e s',CX [] H s₁ (fun _ _ _=>False) e s'→False):
  codeAny (model P w) callerA (.call (.ref fa) ⟨vals,[]⟩) (fun r s'=>∃u as,r= .ok (.ret u)∧ReadsW R cl s'.heap u d0 as∧OldK s₁.heap s'.heap∧s'.os=s₁.os∧AllBare s'.gens) s₁:=by
 obtain⟨A,ho,ar⟩:=yG ds vals hwl hpl hwt
 have hO:Gu (tG K s₁.heap A):=KE ar
 have hok:tL P w (tG K s₁.heap A) s₁.heap:=OQ ar
 have hS:=EE KX ar ds vals hwl hpl ho
 have hV:=rm ho
 have hK:∀b u,tG K s₁.heap A b=some u→K.lookup b=none:=fun b u q=>(As ar q).1
 have noA:∀{b:Addr}{o:Obj}{es:Array DictEntry}{ep:Nat},s₁.heap.get? b=some o→o.data= .dict es ep→tG K s₁.heap A b=none:=fun{b o es ep} e d=>by
  cases q:tG K s₁.heap A b with
  |none=>rfl
  |some u=>
   obtain⟨_,vs,_,_,⟨e2,_⟩|⟨e2,_⟩⟩:=As ar q
   ·rw[e2]at e
    cases e
    have d':Data.seq vs.toArray _=Data.dict es ep:=d
    cases d'
   ·rw[e2]at e
    cases e
    have d':Data.seq vs.toArray _=Data.dict es ep:=d
    cases d'
 generalize tG K s₁.heap A=H at hO hok hS hK noA
 have base_of:∀{b:Addr}{o:Obj},s₁.heap.get? b=some o→H b=none→(EB s₁.heap H).get? b=some o:=fun e n=>M0 e n
 have nsK:∀{b:Addr}{m:Str→Option Value},s₁.heap.Ns b m→(EB s₁.heap H).Ns b m:=fun{b m} ⟨o,es,ep,e,d,r⟩=>⟨o,es,ep,base_of e (noA e d),d,r⟩
 have nK:∀b o,K.lookup b=some o→H b=none:=fun b o e=>by
  cases q:H b with
  |none=>rfl
  |some u=>
   rw[hK b u q]at e
   cases e
 have hKb:K.In (EB s₁.heap H):=fun b o e=>base_of (KX b o e) (nK b o e)
 have hM:Mod K mg (EB s₁.heap H):=⟨hKb,nsK hns,⟨mb,nsK hb,hbb⟩,let ⟨mc,h1,h2⟩:=hlim;⟨mc,nsK h1,h2⟩⟩
 have e0:CK P w K mg (EB s₁.heap H) callerA [] s₁ H:=⟨rfl,hM,fun b o e=>Ol e,Nat.le_of_eq (Kq _ _),trivial,fun b hb=>absurd (show b∈([]:List Addr)from hb) (by simp),hok,.of_eq hg⟩
 have hl:vals.length=ps.length:=by rw[pK hwl];exact hlen
 refine codeAny_mono ((F _ hKb (nsK hns)).run callerA [] s₁ H ⟨vals,[]⟩ vals (vals.map toV) _ _ hr e0 (hbind s₁ vals hl) hV (hsp H _ hO hS)) fun r s' x=> ?_
 cases r with
 |error e=>exact(hCX H e s' x).elim
 |ok fl=>
  cases fl with
  |next=>exact False.elim x
  |brk=>exact False.elim x
  |cont=>exact False.elim x
  |ret u=>
   obtain⟨v,H',os,bare,un,hok',r',q⟩:=x
   have kept:∀b o,s₁.heap.get? b=some o→s'.heap.get? b=some o:=fun b o e=>by
    cases q2:H b with
    |none=>exact un.keep b o e q2 (by intro z;exact absurd (show b∈([]:List Addr)from z) (by simp)) (by simp)
    |some u2=>
     rcases hO b with z |⟨ob,u3,z⟩
     ·rw[q2]at z
      cases z
     ·have z2:=un.u5 b ob _ z
      obtain⟨e1,_⟩:=hok b _ z
      obtain⟨e2,_⟩:=hok' b _ z2
      rw[e]at e1
      cases e1
      exact e2
   have KX':K.In s'.heap:=fun b o e=>kept b o (KX b o e)
   obtain⟨as,hrd⟩:=Dw.reads (R:=R) (cl:=cl) hok' KX' d0 v u q r'
   exact⟨u,as,rfl,hrd,OldK.of_keep kept,os,bare⟩
theorem BJ{ds:List WData}(h:WData.layableAll ds=true):∀d∈ds,d.weight≤1048576:=fun d hd=>
 (PySem.W.layableW_iff.mp (List.all_eq_true.mp h d hd)).2.2
theorem B2:∀(cs:List Codec)(a:Codec.denoteAll cs),(Codec.encAll cs a).length=cs.length
 |[],_=>rfl
 |c::cs,a=>by
  show(Codec.encAll cs a.2).length+1=cs.length+1
  rw[B2 cs a.2]
theorem JD{r:OpenSpec}{k:Nat}{q:Program}{loose:List Str}{XP:(Str→Option Value)→Heap→Prop}{YP:World→Heap→Prop}{d:DefRec}{K:Params→PySem.W.Frag}{CX:World→DL}{ps:List Str}{sp:World→Sp}
  (hwell:r.wellSaid=true) (hdf:d.params.defaults=[]) (hlen:r.args.length=ps.length) (hr:f7 k callerA)
  (hY:∀(w:World)(h:Heap),YP w h→(K w.params).In h)
  (F:∀(w:World)(mg:Str→Option Value)(fa:Addr)(h:Heap),YP w h→(K w.params).In h→h.Ns mainGlobals mg→mg d.name=some (.ref fa)→
   ∃fd:FuncData,(∀(s:Shared)(us:List Value),us.length=ps.length→BindsTo s fd ⟨us,[]⟩ (ps.zip us))∧
    ∀base:Heap,(K w.params).In base→base.Ns mainGlobals mg→bA r.prog w (K w.params) mg base (CX w) k fa fd ps (sp w))
  (hsp:∀(w:World)(H:Hp)(xs:List V)(a:Codec.denoteAll r.args),Gu H→Codec.withinAll r.args a=true→Codec.app r.args r.asked a=true→tZ (K w.params) H xs (Codec.encAll r.args a)→
   sp w xs H (fun v H'=>Dw (K w.params) H' v (r.ret.enc (Codec.app r.args r.f a))) fun _ _ _=>False)
  (hCX:∀(w:World)(H:Hp)(s:Shared)(e:Value)(s':Shared),CX w [] H s (fun _ _ _=>False) e s'→False):
  PySem.W.WalkOS q loose XP YP r d [] (fun f vs=>PySem.call f vs):=by
 intro w s_0 s₁ mg mb G Y fa o pm cd doc dV kV ho hd hcd hD hmg hg args vals as hpre hlay hrd hwl hlo
 obtain⟨a,e1,e2⟩:=PySem.W.os_pre_some hpre
 obtain⟨e3,hwi⟩:=Codec.encAll_of_decAll r.args args a e1
 subst e3
 have KX:=hY w _ Y
 obtain⟨fd,hb,hF⟩:=F w mg fa _ Y KX G.T.g hmg
 refine PySem.W.enter_call (codeAny_mono (JP (R:=[]) (cl:=classAt s_0.heap) (d0:=r.ret.enc (Codec.app r.args r.f a)) KX G.T.g G.T.b G.T.builtins G.T.nolimit hg hwl (C9 _ _) (BJ hlay) hr hF hb (by rw[B2];exact hlen)
  (fun H xs hO hS=>hsp w H xs a hO hwi e2 hS) fun H e s'=>hCX w H s₁ e s') fun r' s' hq=> ?_)
 obtain⟨u,as',rfl,h1,h2,h3,h4⟩:=hq
 exact⟨.inl ⟨u,_,as',rfl,fun _=>rfl,h1,(OpenSpec.post_iff hwell hwi _ _).mpr rfl,fun z=>Bool.noConfusion (show false=true from z)⟩,h2,h3,h4⟩
theorem GC{r:OpenSpec}{k:Nat}{q:Program}{loose:List Str}{XP:(Str→Option Value)→Heap→Prop}{YP:World→Heap→Prop}{d:DefRec}{K:Params→PySem.W.Frag}{CX:DL}{ps:List Str}{sp:PySem.W.Frag→Sp}
  (hwell:r.wellSaid=true) (hdf:d.params.defaults=[]) (hlen:r.args.length=ps.length) (hr:f7 k callerA)
  (hY:∀(w:World)(h:Heap),YP w h→(K w.params).In h)
  (F:∀(w:World)(mg:Str→Option Value)(fa:Addr)(h:Heap),YP w h→(K w.params).In h→h.Ns mainGlobals mg→mg d.name=some (.ref fa)→
   ∃fd:FuncData,(∀(s:Shared)(us:List Value),us.length=ps.length→BindsTo s fd ⟨us,[]⟩ (ps.zip us))∧
    ∀base:Heap,(K w.params).In base→base.Ns mainGlobals mg→bA r.prog w (K w.params) mg base CX k fa fd ps (sp (K w.params)))
  (hsp:∀(K:PySem.W.Frag)(H:Hp)(xs:List V)(a:Codec.denoteAll r.args),Gu H→Codec.withinAll r.args a=true→Codec.app r.args r.asked a=true→tZ K H xs (Codec.encAll r.args a)→
   sp K xs H (fun v H'=>Dw K H' v (r.ret.enc (Codec.app r.args r.f a))) fun _ _ _=>False)
  (hCX:∀(H:Hp)(s:Shared)(e:Value)(s':Shared),CX [] H s (fun _ _ _=>False) e s'→False):
  PySem.W.WalkOS q loose XP YP r d [] (fun f vs=>PySem.call f vs):=
 JD (K:=K) (CX:=fun _=>CX) (sp:=fun w=>sp (K w.params)) hwell hdf hlen hr hY F (fun w H xs a h1 h2 h3 h4=>hsp (K w.params) H xs a h1 h2 h3 h4) fun _ H s e s'=>hCX H s e s'
end L2
end
namespace Tx
open PySem PySem.Spec PyProof.Rows L2
def top(i:Nat):Stmt:=PySem.Challenge.pw_mailmoves_s01_answers.main.body.getD i (.Pass ⟨0,0,0,0⟩)
abbrev uH:Stmt:=top 7
abbrev uJ:Stmt:=inClass (top 19) 0
abbrev qL:Stmt:=inClass (top 20) 0
abbrev mY:Stmt:=inClass (top 20) 1
abbrev qI:Stmt:=inClass (top 20) 2
abbrev qJ:Stmt:=inClass (top 20) 3
abbrev qK:Stmt:=inClass (top 20) 4
abbrev kL:Stmt:=top 21
abbrev oH:Stmt:=top 22
abbrev uF:Stmt:=top 23
abbrev uG:Stmt:=top 24
abbrev qG:Stmt:=top 25
abbrev oG:Stmt:=top 26
abbrev nL:Stmt:=top 27
abbrev uE:Stmt:=top 28
def Ea:List (List V):=[[.int 65,.int 90,.int 97],[.int 224,.int 246,.int 192],[.int 248,.int 254,.int 216],[.int 8304,.int 8304,.int 48],[.int 8308,.int 8313,.int 52],[.int 8320,.int 8329,.int 48],[.int 65296,.int 65305,.int 48],[.int 65313,.int 65338,.int 97],[.int 65345,.int 65370,.int 97]]
def G2:List (List V):=[[.int 170,.int 170,.str "a"],[.int 186,.int 186,.str "o"],[.int 185,.int 185,.str "1"],[.int 178,.int 178,.str "2"],[.int 179,.int 179,.str "3"],[.int 192,.int 197,.str "a"],[.int 198,.int 198,.str "ae"],[.int 199,.int 199,.str "c"],[.int 200,.int 203,.str "e"],[.int 204,.int 207,.str "i"],[.int 208,.int 208,.str "d"],[.int 209,.int 209,.str "n"],[.int 210,.int 214,.str "o"],[.int 216,.int 216,.str "o"],[.int 217,.int 220,.str "u"],[.int 221,.int 221,.str "y"],[.int 222,.int 222,.str "th"],[.int 223,.int 223,.str "ss"],[.int 255,.int 255,.str "y"],[.int 256,.int 261,.str "a"],[.int 262,.int 269,.str "c"],[.int 270,.int 273,.str "d"],[.int 274,.int 283,.str "e"],[.int 284,.int 291,.str "g"],[.int 292,.int 295,.str "h"],[.int 296,.int 305,.str "i"],[.int 306,.int 307,.str "ij"],[.int 308,.int 309,.str "j"],[.int 310,.int 312,.str "k"],[.int 313,.int 322,.str "l"],[.int 323,.int 329,.str "n"],[.int 330,.int 331,.str "ng"],[.int 332,.int 337,.str "o"],[.int 338,.int 339,.str "oe"],[.int 340,.int 345,.str "r"],[.int 346,.int 353,.str "s"],[.int 354,.int 359,.str "t"],[.int 360,.int 371,.str "u"],[.int 372,.int 373,.str "w"],[.int 374,.int 376,.str "y"],[.int 377,.int 382,.str "z"],[.int 383,.int 383,.str "s"],[.int 536,.int 537,.str "s"],[.int 538,.int 539,.str "t"],[.int 7838,.int 7838,.str "ss"],[.int 8470,.int 8470,.str "no"],[.int 64256,.int 64256,.str "ff"],[.int 64257,.int 64257,.str "fi"],[.int 64258,.int 64258,.str "fl"],[.int 64259,.int 64259,.str "ffi"],[.int 64260,.int 64260,.str "ffl"],[.int 64261,.int 64262,.str "st"]]
def zN:List (List V):=[[.int 39,.int 39],[.int 96,.int 96],[.int 173,.int 173],[.int 180,.int 180],[.int 700,.int 700],[.int 768,.int 879],[.int 8203,.int 8205],[.int 8216,.int 8217],[.int 8288,.int 8288],[.int 65279,.int 65279]]
abbrev yT:Stmt:=top 37
abbrev uI:Stmt:=top 38
abbrev sN:Stmt:=top 39
abbrev sM:Stmt:=top 40
abbrev kK:Stmt:=top 41
abbrev oJ:Stmt:=inClass (top 44) 0
abbrev jB:Stmt:=top 51
abbrev sL:Stmt:=top 52
abbrev gN:Stmt:=top 53
abbrev jA:Stmt:=top 54
abbrev Be:Stmt:=top 55
abbrev kM:Stmt:=inClass (top 61) 0
abbrev gG:Stmt:=top 62
abbrev uD:Stmt:=top 63
abbrev GY:Stmt:=top 71
abbrev jN:Stmt:=top 72
abbrev qH:Stmt:=top 73
abbrev jC:Stmt:=inClass (top 74) 0
abbrev cU:Stmt:=inClass (top 74) 1
abbrev hZ:Stmt:=inClass (top 74) 2
abbrev gj:Stmt:=inClass (top 74) 3
abbrev wI:Stmt:=inClass (top 75) 0
abbrev Bf:Stmt:=top 76
abbrev Bd:Stmt:=top 77
abbrev vE:Stmt:=top 78
abbrev qF:Stmt:=top 79
abbrev qQ:Stmt:=inClass (top 83) 0
abbrev qR:Stmt:=inClass (top 83) 1
abbrev ig:Stmt:=inClass (top 83) 2
abbrev qN:Stmt:=inClass (top 83) 3
abbrev qO:Stmt:=inClass (top 83) 4
abbrev qM:Stmt:=inClass (top 83) 5
abbrev jO:Stmt:=inClass (top 83) 6
abbrev eA:Stmt:=inClass (top 83) 7
abbrev uK:Stmt:=inClass (top 83) 8
abbrev jk:Stmt:=inClass (top 83) 9
abbrev oK:Stmt:=inClass (top 83) 10
abbrev qP:Stmt:=inClass (top 83) 11
abbrev m4:Stmt:=inClass (top 98) 0
abbrev jP:Stmt:=inClass (top 98) 1
abbrev mZ:Stmt:=inClass (top 98) 2
abbrev oM:Stmt:=inClass (top 98) 3
abbrev Bg:Stmt:=top 99
abbrev iZ:Stmt:=top 100
abbrev yU:Stmt:=top 101
set_option genInjectivity false in
set_option genSizeOf false in
structure Ad where
 pZ:Addr
 iN:FuncData
 sG:Addr
 bF:Addr
 tI:Addr
 b6:Addr
 p9:Addr
 iP:FuncData
 dC:Addr
 lC:Addr
 fR:FuncData
 jl:Addr
 dN:FuncData
 lu:Addr
 fO:FuncData
 lA:Addr
 fP:FuncData
 lB:Addr
 fQ:FuncData
 iS:Addr
 cY:FuncData
 jW:Addr
 eJ:FuncData
 pX:Addr
 iL:FuncData
 pY:Addr
 iM:FuncData
 k9:Addr
 fM:FuncData
 jV:Addr
 eI:FuncData
 nQ:Addr
 gK:FuncData
 pW:Addr
 iK:FuncData
 sH:Addr
 DR:List Addr
 wD:Addr
 GF:List Addr
 g9:Addr
 uc:List Addr
 vK:Addr
 kP:FuncData
 p8:Addr
 iO:FuncData
 nR:Addr
 gL:FuncData
 sY:Addr
 jI:FuncData
 iR:Addr
 cX:FuncData
 bX:Addr
 zH:Addr
 dS:Addr
 jX:Addr
 eK:FuncData
 n9:Addr
 iE:Addr
 Ci:Addr
 iX:Addr
 tJ:Addr
 gB:Addr
 cA:FuncData
 sX:Addr
 jH:FuncData
 d8:Addr
 bL:FuncData
 gA:Addr
 cu:FuncData
 yj:Addr
 nZ:FuncData
 bw:Addr
 iT:Addr
 cZ:FuncData
 iC:Addr
 eQ:Addr
 dM:FuncData
 pV:Addr
 iJ:FuncData
 ED:Addr
 vJ:FuncData
 gT:Addr
 cJ:FuncData
 lg:Addr
 fN:FuncData
 aR:Addr
 gC:Addr
 cB:FuncData
 c5:Addr
 bE:FuncData
 eZ:Addr
 bO:FuncData
 dG:Addr
 bH:FuncData
 qA:Addr
 sZ:Addr
 jJ:FuncData
 yp:Addr
 n0:FuncData
 yh:Addr
 nY:FuncData
 vL:Addr
 kQ:FuncData
 k8:Addr
 fL:FuncData
 aP:Addr
 lH:Addr
 fW:FuncData
 lJ:Addr
 fX:FuncData
 fj:Addr
 bP:FuncData
 lE:Addr
 fT:FuncData
 lF:Addr
 fU:FuncData
 lD:Addr
 fS:FuncData
 jZ:Addr
 eO:FuncData
 cD:Addr
 bx:FuncData
 qd:Addr
 iQ:FuncData
 jm:Addr
 dO:FuncData
 jY:Addr
 eN:FuncData
 lG:Addr
 fV:FuncData
 mD:Addr
 qX:Addr
 aK:Addr
 jq:Addr
 dQ:FuncData
 gU:Addr
 cK:FuncData
 jo:Addr
 dP:FuncData
 j0:Addr
 eP:FuncData
 yq:Addr
 n4:FuncData
 fF:Addr
 bV:FuncData
 vM:Addr
 jD:FuncData
structure Txt(K:PySem.W.Frag)(mg:Str→Option Value)(a:Ad):Prop where
 qW:∃t,mg "FIRST_DIGIT"=some (.int 48 t)
 yA:∃t,mg "LAST_DIGIT"=some (.int 57 t)
 qV:∃t,mg "FIRST_SMALL"=some (.int 97 t)
 yx:∃t,mg "LAST_SMALL"=some (.int 122 t)
 Gk:∃t,mg "DIGITS"=some (.str "0123456789" t)
 Ju:∃t,mg "SMALL"=some (.str "abcdefghijklmnopqrstuvwxyz" t)
 jK:iF K "letter_of" "letter_of" uH a.pZ a.iN
 uX:mg "letter_of"=some (.ref a.pZ)
 mQ:Binds K a.iN ["byte"] []
 wZ:∃t,mg "MOVE"=some (.str "move" t)
 HB:∃t,mg "HOLD"=some (.str "hold" t)
 HA:∃t,mg "STOP"=some (.str "stop" t)
 Jf:mg "KINDS"=some (.ref a.sG)
 sG:∀H:Hp,sE K H a.sG [.str "move",.str "hold",.str "stop"]
 nU:∃t,mg "LAST_POINT"=some (.int 4095 t)
 tu:∃t,mg "LAST_DAY"=some (.int 1000000 t)
 pB:∃t,mg "MOST_WORDS_lines"=some (.int 8 t)
 pD:∃t,mg "MOST_LETTERS"=some (.int 32 t)
 Jy:∃t,mg "BLANK"=some (.int 32 t)
 bJ:mg "NotALine"=some (.ref a.bF)
 bS:DN K a.bF a.tI=true
 bN:PySem.W.nsIn K a.tI "__init__"=some none
 IT:mg "Line"=some (.ref a.b6)
 qy:iF K "__init__" "Line.__init__" uJ a.p9 a.iP
 qu:Binds K a.iP ["self","kind","point"] []
 bD:Cls K a.b6
 IQ:Mk K a.b6 a.p9
 gH:bf K a.b6 "end_day"
 cV:bf K a.b6 "first_day"
 eX:bf K a.b6 "kind"
 dW:bf K a.b6 "number"
 kY:bf K a.b6 "point"
 iy:bf K a.b6 "target"
 dw:bf K a.b6 "told_to_all"
 dI:bf K a.b6 "words"
 Dl:mg "Pieces"=some (.ref a.dC)
 lY:iF K "__init__" "Pieces.__init__" qL a.lC a.fR
 lO:Binds K a.fR ["self","pieces"] []
 jw:iF K "at_end" "Pieces.at_end" mY a.jl a.dN
 eT:Binds K a.dN ["self"] []
 iI:Meth K a.dC "at_end" a.jl
 lV:iF K "step" "Pieces.step" qI a.lu a.fO
 dJ:Binds K a.fO ["self"] []
 fJ:Meth K a.dC "step" a.lu
 lW:iF K "skip" "Pieces.skip" qJ a.lA a.fP
 gM:Binds K a.fP ["self","word"] []
 jT:Meth K a.dC "skip" a.lA
 lX:iF K "rest" "Pieces.rest" qK a.lB a.fQ
 lN:Binds K a.fQ ["self"] []
 uR:Meth K a.dC "rest" a.lB
 bM:Cls K a.dC
 Dj:Mk K a.dC a.lC
 cG:bf K a.dC "pieces"
 dg:bf K a.dC "place"
 f6:iF K "checked_letter" "checked_letter" kL a.iS a.cY
 rS:mg "checked_letter"=some (.ref a.iS)
 iV:Binds K a.cY ["byte"] []
 fZ:iF K "closed_piece" "closed_piece" oH a.jW a.eJ
 oZ:mg "closed_piece"=some (.ref a.jW)
 iB:Binds K a.eJ ["letters"] []
 mV:iF K "pieces_of" "pieces_of" uF a.pX a.iL
 zS:mg "pieces_of"=some (.ref a.pX)
 qm:Binds K a.iL ["row"] []
 gb:iF K "number_of" "number_of" uG a.pY a.iM
 mI:mg "number_of"=some (.ref a.pY)
 iA:Binds K a.iM ["piece","most"] []
 ji:iF K "read_target" "read_target" qG a.k9 a.fM
 wg:mg "read_target"=some (.ref a.k9)
 lL:Binds K a.fM ["pieces","point"] []
 iD:iF K "read_end_day" "read_end_day" oG a.jV a.eI
 uW:mg "read_end_day"=some (.ref a.jV)
 j3:Binds K a.eI ["pieces","kind","first_day"] []
 j7:iF K "read_words" "read_words" nL a.nQ a.gK
 yc:mg "read_words"=some (.ref a.nQ)
 nW:Binds K a.gK ["pieces"] []
 mU:iF K "read_line" "read_line" uE a.pW a.iK
 zR:mg "read_line"=some (.ref a.pW)
 ql:Binds K a.iK ["row"] []
 zZ:∃t,mg "LAST_WIDE"=some (.int 1114111 t)
 rY:∃t,mg "FIRST_NOT_WIDE"=some (.int 55296 t)
 tY:∃t,mg "LAST_NOT_WIDE"=some (.int 57343 t)
 w6:∃t,mg "LINE_END"=some (.int 10 t)
 Jg:mg "ALIKE"=some (.ref a.sH)
 sH:∀H:Hp,sE K H a.sH (a.DR.map V.ref)
 Ja:Paired (fun q r=>∀H:Hp,sE K H q r) a.DR Ea
 M5:mg "SAME"=some (.ref a.wD)
 wD:∀H:Hp,sE K H a.wD (a.GF.map V.ref)
 MX:Paired (fun q r=>∀H:Hp,sE K H q r) a.GF G2
 zW:mg "VANISHING"=some (.ref a.g9)
 g9:∀H:Hp,sE K H a.g9 (a.uc.map V.ref)
 zV:Paired (fun q r=>∀H:Hp,sE K H q r) a.uc zN
 sA:iF K "is_wide" "is_wide" yT a.vK a.kP
 Dn:mg "is_wide"=some (.ref a.vK)
 vP:Binds K a.kP ["number"] []
 mW:iF K "fellow_of" "fellow_of" uI a.p8 a.iO
 zT:mg "fellow_of"=some (.ref a.p8)
 qt:Binds K a.iO ["character"] []
 j8:iF K "letters_of" "letters_of" sN a.nR a.gL
 yd:mg "letters_of"=some (.ref a.nR)
 nX:Binds K a.gL ["character"] []
 pH:iF K "vanishes" "vanishes" sM a.sY a.jI
 BI:mg "vanishes"=some (.ref a.sY)
 tE:Binds K a.jI ["character"] []
 fY:iF K "lines_of_words" "lines_of_words" kK a.iR a.cX
 rR:mg "lines_of_words"=some (.ref a.iR)
 iU:Binds K a.cX ["characters"] []
 kO:mg "TooMuch"=some (.ref a.bX)
 kI:DN K a.bX a.zH=true
 oA:PySem.W.nsIn K a.zH "__init__"=some none
 wO:mg "NotWide"=some (.ref a.dS)
 j9:iF K "__init__" "NotWide.__init__" oJ a.jX a.eK
 j4:Binds K a.eK ["self","place"] []
 vC:DN K a.dS a.n9=true
 Av:RL K a.dS a.n9 a.jX
 Ax:QV K a.dS
 jE:PySem.W.nsIn K a.n9 "__getattribute__"=some none
 ou:PySem.W.nsIn K a.n9 "__getattr__"=some none
 q0:PySem.W.nsIn K a.n9 "place"=some none
 rP:bf K a.dS "place"
 zu:mg "TooFar"=some (.ref a.iE)
 xg:DN K a.iE a.Ci=true
 CM:PySem.W.nsIn K a.Ci "__init__"=some none
 kZ:mg "NoneToTell"=some (.ref a.iX)
 jL:DN K a.iX a.tJ=true
 qB:PySem.W.nsIn K a.tJ "__init__"=some none
 qg:∃t,mg "MOST_CHARACTERS"=some (.int 512 t)
 mP:∃t,mg "MOST_LINES_persons"=some (.int 8 t)
 mO:∃t,mg "MOST_WORDS_persons"=some (.int 128 t)
 d6:iF K "check_characters" "check_characters" jB a.gB a.cA
 o7:mg "check_characters"=some (.ref a.gB)
 gE:Binds K a.cA ["name"] []
 pF:iF K "words_of" "words_of" sL a.sX a.jH
 BH:mg "words_of"=some (.ref a.sX)
 tD:Binds K a.jH ["name"] []
 bQ:iF K "check_point_and_day" "check_point_and_day" gN a.d8 a.bL
 gP:mg "check_point_and_day"=some (.ref a.d8)
 cF:Binds K a.bL ["point","day"] []
 d4:iF K "person_of_letter" "person_of_letter" jA a.gA a.cu
 oY:mg "person_of_letter"=some (.ref a.gA)
 gD:Binds K a.cu ["point","day","name"] []
 vq:iF K "is_for" "is_for" Be a.yj a.nZ
 F1:mg "is_for"=some (.ref a.yj)
 yC:Binds K a.nZ ["line","person"] []
 pC:∃t,mg "MOST_LINES_texts"=some (.int 4096 t)
 zY:∃t,mg "LINE_FEED"=some (.int 10 t)
 Cb:∃t,mg "NOT_SO"=some (.int 1 t)
 B9:∃t,mg "TOO_MANY"=some (.int 2 t)
 jS:mg "TextFault"=some (.ref a.bw)
 iW:iF K "__init__" "TextFault.__init__" kM a.iT a.cZ
 dR:Binds K a.cZ ["self","line_number","why"] []
 mE:DN K a.bw a.iC=true
 nI:RL K a.bw a.iC a.iT
 sF:QV K a.bw
 d9:PySem.W.nsIn K a.iC "__getattribute__"=some none
 gZ:PySem.W.nsIn K a.iC "__getattr__"=some none
 i6:PySem.W.nsIn K a.iC "line_number"=some none
 qZ:PySem.W.nsIn K a.iC "why"=some none
 jc:bf K a.bw "line_number"
 rO:bf K a.bw "why"
 gI:iF K "read_numbered" "read_numbered" gG a.eQ a.dM
 tX:mg "read_numbered"=some (.ref a.eQ)
 jr:Binds K a.dM ["row","line_number"] []
 mS:iF K "read_text" "read_text" uD a.pV a.iJ
 zQ:mg "read_text"=some (.ref a.pV)
 qj:Binds K a.iJ ["text","lines_ahead"] []
 yu:∃t,mg "MOST_STEPS"=some (.int 32 t)
 je:∃t,mg "HANDED_OVER"=some (.int 0 t)
 DE:∃t,mg "STOPPED"=some (.int 1 t)
 Jw:∃t,mg "ROUND"=some (.int 2 t)
 Ca:∃t,mg "TOO_LONG"=some (.int 3 t)
 Jx:∃t,mg "MOVED"=some (.int 4 t)
 EY:iF K "rank" "rank" GY a.ED a.vJ
 MM:mg "rank"=some (.ref a.ED)
 EL:Binds K a.vJ ["line"] []
 fA:iF K "ranked_by_point" "ranked_by_point" jN a.gT a.cJ
 pT:mg "ranked_by_point"=some (.ref a.gT)
 gW:Binds K a.cJ ["lines"] []
 jj:iF K "is_in_force" "is_in_force" qH a.lg a.fN
 wj:mg "is_in_force"=some (.ref a.lg)
 lM:Binds K a.fN ["line","day"] []
 oV:mg "PersonLines"=some (.ref a.aR)
 gF:iF K "__init__" "PersonLines.__init__" jC a.gC a.cB
 dZ:Binds K a.cB ["self","by_point","person"] []
 c7:iF K "own_lines" "PersonLines.own_lines" cU a.c5 a.bE
 c6:Binds K a.bE ["self","point"] []
 jd:Meth K a.aR "own_lines" a.c5
 fB:iF K "search" "PersonLines.search" hZ a.eZ a.bO
 fu:Binds K a.bO ["self","point","day"] []
 kH:Meth K a.aR "search" a.eZ
 dH:iF K "counting" "PersonLines.counting" gj a.dG a.bH
 b8:Binds K a.bH ["self","point","day"] []
 fK:Meth K a.aR "counting" a.dG
 aQ:Cls K a.aR
 oU:Mk K a.aR a.gC
 bU:bf K a.aR "by_point"
 bB:bf K a.aR "found"
 cH:bf K a.aR "own"
 d7:bf K a.aR "person"
 MH:mg "Way"=some (.ref a.qA)
 tM:iF K "__init__" "Way.__init__" wI a.sZ a.jJ
 tF:Binds K a.jJ ["self","how","point","day","lines","last"] []
 m8:Cls K a.qA
 MG:Mk K a.qA a.sZ
 sR:bf K a.qA "day"
 iw:bf K a.qA "how"
 uQ:bf K a.qA "last"
 gq:bf K a.qA "lines"
 iH:bf K a.qA "point"
 vA:iF K "end_at" "end_at" Bf a.yp a.n0
 F2:mg "end_at"=some (.ref a.yp)
 yD:Binds K a.n0 ["line","may","been_there","steps"] []
 pG:iF K "way_of" "way_of" Bd a.yh a.nY
 x9:mg "way_of"=some (.ref a.yh)
 rZ:Binds K a.nY ["person_lines","point","day","may"] []
 sC:iF K "is_told" "is_told" vE a.vL a.kQ
 Dp:mg "is_told"=some (.ref a.vL)
 vQ:Binds K a.kQ ["way"] []
 jh:iF K "starts_into" "starts_into" qF a.k8 a.fL
 v9:mg "starts_into"=some (.ref a.k8)
 lK:Binds K a.fL ["person_lines","point","day"] []
 yw:∃t,mg "MOST_BYTES"=some (.int 65536 t)
 EK:∃t,mg "DONE"=some (.int 0 t)
 Dm:mg "Holder"=some (.ref a.aP)
 mB:iF K "__init__" "Holder.__init__" qQ a.lH a.fW
 lU:Binds K a.fW ["self"] []
 mC:iF K "hold" "Holder.hold" qR a.lJ a.fX
 jf:Binds K a.fX ["self","lines","lines_text"] []
 oW:Meth K a.aP "hold" a.lJ
 fC:iF K "hold_behind" "Holder.hold_behind" ig a.fj a.bP
 cR:Binds K a.bP ["self","lines","lines_text","text"] []
 gO:Meth K a.aP "hold_behind" a.fj
 mj:iF K "take" "Holder.take" qN a.lE a.fT
 lQ:Binds K a.fT ["self","text"] []
 uT:Meth K a.aP "take" a.lE
 mq:iF K "more" "Holder.more" qO a.lF a.fU
 lR:Binds K a.fU ["self","text"] []
 uU:Meth K a.aP "more" a.lF
 lZ:iF K "text" "Holder.text" qM a.lD a.fS
 lP:Binds K a.fS ["self"] []
 uS:Meth K a.aP "text" a.lD
 kj:iF K "sizes" "Holder.sizes" jO a.jZ a.eO
 j6:Binds K a.eO ["self"] []
 tW:Meth K a.aP "sizes" a.jZ
 cE:iF K "lines_for_letter" "Holder.lines_for_letter" eA a.cD a.bx
 bC:Binds K a.bx ["self","point","day","name"] []
 b7:Meth K a.aP "lines_for_letter" a.cD
 qz:iF K "at" "Holder.at" uK a.qd a.iQ
 qw:Binds K a.iQ ["self","point","day","name"] []
 x8:Meth K a.aP "at" a.qd
 jx:iF K "follow" "Holder.follow" jk a.jm a.dO
 jt:Binds K a.dO ["self","point","day","may","name"] []
 rQ:Meth K a.aP "follow" a.jm
 kh:iF K "where" "Holder.where" oK a.jY a.eN
 j5:Binds K a.eN ["self","point","day","name"] []
 tV:Meth K a.aP "where" a.jY
 mz:iF K "into" "Holder.into" qP a.lG a.fV
 lT:Binds K a.fV ["self","point","day"] []
 uV:Meth K a.aP "into" a.lG
 aT:Cls K a.aP
 Dk:Mk K a.aP a.lH
 dX:bf K a.aP "by_point"
 cP:bf K a.aP "held_lines"
 dz:bf K a.aP "held_text"
 fH:bf K a.aP "nobody"
 Nr:∃t,mg "TAKE"=some (.int 0 t)
 Nt:∃t,mg "MORE"=some (.int 1 t)
 Nq:∃t,mg "TEXT"=some (.int 2 t)
 Jv:∃t,mg "SIZES"=some (.int 3 t)
 RJ:∃t,mg "AT"=some (.int 4 t)
 Gj:∃t,mg "FOLLOW"=some (.int 5 t)
 Jt:∃t,mg "WHERE"=some (.int 6 t)
 Nu:∃t,mg "INTO"=some (.int 7 t)
 DC:∃t,mg "TOO_FAR"=some (.int (-1) t)
 B8:∃t,mg "TOO_MUCH"=some (.int (-2) t)
 vh:∃t,mg "NONE_TO_TELL"=some (.int (-3) t)
 Cd:∃t,mg "FAULTY"=some (.int (-6) t)
 BE:mg "UnknownCall"=some (.ref a.mD)
 Cq:DN K a.mD a.qX=true
 Aw:PySem.W.nsIn K a.qX "__init__"=some none
 zP:mg "CallList"=some (.ref a.aK)
 jz:iF K "__init__" "CallList.__init__" m4 a.jq a.dQ
 ju:Binds K a.dQ ["self","numbers"] []
 gY:iF K "at_end" "CallList.at_end" jP a.gU a.cK
 gX:Binds K a.cK ["self"] []
 oX:Meth K a.aK "at_end" a.gU
 jy:iF K "step" "CallList.step" mZ a.jo a.dP
 aW:Binds K a.dP ["self"] []
 aZ:Meth K a.aK "step" a.jo
 kC:iF K "row" "CallList.row" oM a.j0 a.eP
 cS:Binds K a.eP ["self"] []
 eG:Meth K a.aK "row" a.j0
 aS:Cls K a.aK
 zO:Mk K a.aK a.jq
 dA:bf K a.aK "numbers"
 cW:bf K a.aK "place"
 vB:iF K "answer" "answer" Bg a.yq a.n4
 F3:mg "answer"=some (.ref a.yq)
 yE:Binds K a.n4 ["holder","calls"] []
 dB:iF K "answer_or_refusal" "answer_or_refusal" iZ a.fF a.bV
 nG:mg "answer_or_refusal"=some (.ref a.fF)
 fG:Binds K a.bV ["holder","calls"] []
 sD:iF K "answers" "answers" yU a.vM a.jD
 Dq:mg "answers"=some (.ref a.vM)
 zG:Binds K a.jD ["calls"] []
 Eu:mg "any"=none
 x3:mg "enumerate"=none
 Hi:mg "int"=none
 c9:mg "len"=none
 IP:mg "list"=none
 MF:mg "set"=none
 zp:mg "sorted"=none
 ME:mg "str"=none
 R0:[a.bF,a.bX,a.dS,a.iE,a.iX,a.bw,a.mD].Nodup
 Sy:[a.b6,a.dC,a.aR,a.qA,a.aP,a.aK].Nodup
end Tx
namespace Tx
open PySem PySem.Spec PyProof.Rows L2
def bs(b:Po.Bytes):Str:=⟨(b.map UInt8.toNat).toArray⟩
def Nc(ad:Ad)(C:Addr):Prop:=C=ad.bF
theorem gn{a b:String}:(Str.ofString a=Str.ofString b)=(a=b):=by
 refine propext ⟨fun h=> ?_,fun h=>by rw[h]⟩
 have h1:=congrArg TL.tl h
 rw[TL.zJ,TL.zJ]at h1
 have h2:a.toList=b.toList:=by
  have inj:∀(l m:List Char),l.map Char.toNat=m.map Char.toNat→l=m:=by
   intro l
   induction l with
   |nil=>intro m h;cases m with |nil=>rfl |cons c m=>simp at h
   |cons c l ih=>
    intro m h
    cases m with
    |nil=>simp at h
    |cons d m=>
     simp only[List.map_cons,List.cons.injEq]at h
     rw[ih m h.2,Char.toNat_inj.mp h.1]
  exact inj _ _ h1
 exact String.toList_inj.mp h2
theorem aB(a b:String)(v:V)(r:List (Str×V)):List.lookup (Str.ofString a) ((Str.ofString b,v)::r)=if a=b then some v else List.lookup (Str.ofString a) r:=by
 by_cases h:a=b
 ·subst h
  rw[if_pos rfl,List.lookup_cons_self]
 ·rw[if_neg h,List.lookup_cons]
  have:(Str.ofString a==Str.ofString b)=false:=by
   cases q:(Str.ofString a==Str.ofString b)with
   |false=>rfl
   |true=>exact absurd (gn.mp (eq_of_beq q)) h
  rw[this]
theorem aH(a b:String)(v x:V)(r:List (Str×V)):eU (Str.ofString a) v ((Str.ofString b,x)::r)=if b=a then(Str.ofString b,v)::r else(Str.ofString b,x)::eU (Str.ofString a) v r:=by
 show(if Str.ofString b=Str.ofString a then _ else _)=_
 by_cases h:b=a
 ·rw[if_pos h,if_pos (by rw[h])]
 ·rw[if_neg h,if_neg (by rw[gn];exact h)]
theorem aO(a:Str)(v:V):eU a v []=[(a,v)]:=rfl
theorem dF{K:PySem.W.Frag}{H:Hp}{l:Addr}{xs:List V}(h:H l=some (.lst xs)):pJ K (.ref l) H xs.length:=.inl ⟨xs,bW.of h,rfl⟩
theorem Ou{K:PySem.W.Frag}{H:Hp}{l:Addr}{xs:List V}(h:bW K H l xs):pJ K (.ref l) H xs.length:=.inl ⟨xs,h,rfl⟩
theorem Nm(CX:DL)(P:Program)(w:World)(K:PySem.W.Frag)(mg:Str→Option Value)(base:Heap)(N:List Str)(qual:Str)(scope:Scope)(f:Addr)(cd:Value)(A:Around)(outer:List Env)(s:Shared)(H:Hp)(E:XK):
  (zC CX P w K mg base N qual scope f cd A outer s H E).K=K:=rfl
theorem Jq(CX:DL)(P:Program)(w:World)(K:PySem.W.Frag)(mg:Str→Option Value)(base:Heap)(N:List Str)(qual:Str)(scope:Scope)(f:Addr)(cd:Value)(A:Around)(outer:List Env)(s:Shared)(H:Hp)(E:XK):
  (Gd CX P w K mg base N qual scope f cd A outer s H E).K=K:=rfl
theorem xK:aF ["byte"] ["byte"] (aC uH):=⟨rfl,rfl,rfl,by decide +kernel,rfl,by decide +kernel,by decide +kernel⟩
theorem xN:aF ["self","kind","point"] ["self","kind","point"] (aC uJ):=⟨rfl,rfl,rfl,by decide +kernel,rfl,by decide +kernel,by decide +kernel⟩
theorem ur:aF ["self","pieces"] ["self","pieces"] (aC qL):=⟨rfl,rfl,rfl,by decide +kernel,rfl,by decide +kernel,by decide +kernel⟩
theorem rE:aF ["self"] ["self"] (aC mY):=⟨rfl,rfl,rfl,by decide +kernel,rfl,by decide +kernel,by decide +kernel⟩
theorem um:aF ["self","piece"] ["self"] (aC qI):=⟨rfl,rfl,rfl,by decide +kernel,rfl,by decide +kernel,by decide +kernel⟩
theorem uo:aF ["self","word"] ["self","word"] (aC qJ):=⟨rfl,rfl,rfl,by decide +kernel,rfl,by decide +kernel,by decide +kernel⟩
theorem uq:aF ["self","left"] ["self"] (aC qK):=⟨rfl,rfl,rfl,by decide +kernel,rfl,by decide +kernel,by decide +kernel⟩
theorem pP:aF ["byte","letter"] ["byte"] (aC kL):=⟨rfl,rfl,rfl,by decide +kernel,rfl,by decide +kernel,by decide +kernel⟩
theorem tP:aF ["letters"] ["letters"] (aC oH):=⟨rfl,rfl,rfl,by decide +kernel,rfl,by decide +kernel,by decide +kernel⟩
theorem xI:aF ["row","pieces","letters","byte"] ["row"] (aC uF):=⟨rfl,rfl,rfl,by decide +kernel,rfl,by decide +kernel,by decide +kernel⟩
theorem xJ:aF ["piece","most"] ["piece","most"] (aC uG):=⟨rfl,rfl,rfl,by decide +kernel,rfl,by decide +kernel,by decide +kernel⟩
theorem ug:aF ["pieces","point","target"] ["pieces","point"] (aC qG):=⟨rfl,rfl,rfl,by decide +kernel,rfl,by decide +kernel,by decide +kernel⟩
theorem tO:aF ["pieces","kind","first_day","end_day"] ["pieces","kind","first_day"] (aC oG):=⟨rfl,rfl,rfl,by decide +kernel,rfl,by decide +kernel,by decide +kernel⟩
theorem v3:aF ["pieces","words","word"] ["pieces"] (aC nL):=⟨rfl,rfl,rfl,by decide +kernel,rfl,by decide +kernel,by decide +kernel⟩
theorem xH:aF ["row","pieces","kind","line"] ["row"] (aC uE):=⟨rfl,rfl,rfl,by decide +kernel,rfl,by decide +kernel,by decide +kernel⟩
theorem Ba:aF ["number"] ["number"] (aC yT):=⟨rfl,rfl,rfl,by decide +kernel,rfl,by decide +kernel,by decide +kernel⟩
theorem xM:aF ["character","first","last","fellow"] ["character"] (aC uI):=⟨rfl,rfl,rfl,by decide +kernel,rfl,by decide +kernel,by decide +kernel⟩
theorem v5:aF ["character","fellow","first","last","letters"] ["character"] (aC sN):=⟨rfl,rfl,rfl,by decide +kernel,rfl,by decide +kernel,by decide +kernel⟩
theorem zL:aF ["character","first","last"] ["character"] (aC sM):=⟨rfl,rfl,rfl,by decide +kernel,rfl,by decide +kernel,by decide +kernel⟩
theorem pO:aF ["characters","lines","words","word","character","letters"] ["characters"] (aC kK):=⟨rfl,rfl,rfl,by decide +kernel,rfl,by decide +kernel,by decide +kernel⟩
theorem tQ:aF ["self","place"] ["self","place"] (aC oJ):=⟨rfl,rfl,rfl,by decide +kernel,rfl,by decide +kernel,by decide +kernel⟩
theorem nB:aF ["name","place","number"] ["name"] (aC jB):=⟨rfl,rfl,rfl,by decide +kernel,rfl,by decide +kernel,by decide +kernel⟩
theorem zK:aF ["name","lines","words","line","word"] ["name"] (aC sL):=⟨rfl,rfl,rfl,by decide +kernel,rfl,by decide +kernel,by decide +kernel⟩
theorem jM:aF ["point","day"] ["point","day"] (aC gN):=⟨rfl,rfl,rfl,by decide +kernel,rfl,by decide +kernel,by decide +kernel⟩
theorem nA:aF ["point","day","name","words"] ["point","day","name"] (aC jA):=⟨rfl,rfl,rfl,by decide +kernel,rfl,by decide +kernel,by decide +kernel⟩
theorem C1:aF ["line","person","found","word"] ["line","person"] (aC Be):=⟨rfl,rfl,rfl,by decide +kernel,rfl,by decide +kernel,by decide +kernel⟩
theorem pQ:aF ["self","line_number","why"] ["self","line_number","why"] (aC kM):=⟨rfl,rfl,rfl,by decide +kernel,rfl,by decide +kernel,by decide +kernel⟩
theorem rD:aF ["row","line_number","line"] ["row","line_number"] (aC gG):=⟨rfl,rfl,rfl,by decide +kernel,rfl,by decide +kernel,by decide +kernel⟩
theorem xG:aF ["text","lines_ahead","lines","row","byte"] ["text","lines_ahead"] (aC uD):=⟨rfl,rfl,rfl,by decide +kernel,rfl,by decide +kernel,by decide +kernel⟩
theorem Ip:aF ["line"] ["line"] (aC GY):=⟨rfl,rfl,rfl,by decide +kernel,rfl,by decide +kernel,by decide +kernel⟩
theorem oE:aF ["lines","by_point","line"] ["lines"] (aC jN):=⟨rfl,rfl,rfl,by decide +kernel,rfl,by decide +kernel,by decide +kernel⟩
theorem uh:aF ["line","day"] ["line","day"] (aC qH):=⟨rfl,rfl,rfl,by decide +kernel,rfl,by decide +kernel,by decide +kernel⟩
theorem nD:aF ["self","by_point","person"] ["self","by_point","person"] (aC jC):=⟨rfl,rfl,rfl,by decide +kernel,rfl,by decide +kernel,by decide +kernel⟩
theorem i7:aF ["self","point","line"] ["self","point"] (aC cU):=⟨rfl,rfl,rfl,by decide +kernel,rfl,by decide +kernel,by decide +kernel⟩
theorem kD:aF ["self","point","day","line"] ["self","point","day"] (aC hZ):=⟨rfl,rfl,rfl,by decide +kernel,rfl,by decide +kernel,by decide +kernel⟩
theorem jF:aF ["self","point","day"] ["self","point","day"] (aC gj):=⟨rfl,rfl,rfl,by decide +kernel,rfl,by decide +kernel,by decide +kernel⟩
theorem zM:aF ["self","how","point","day","lines","last"] ["self","how","point","day","lines","last"] (aC wI):=⟨rfl,rfl,rfl,by decide +kernel,rfl,by decide +kernel,by decide +kernel⟩
theorem C3:aF ["line","may","been_there","steps"] ["line","may","been_there","steps"] (aC Bf):=⟨rfl,rfl,rfl,by decide +kernel,rfl,by decide +kernel,by decide +kernel⟩
theorem C0:aF ["person_lines","point","day","may","been","gone","line","how"] ["person_lines","point","day","may"] (aC Bd):=⟨rfl,rfl,rfl,by decide +kernel,rfl,by decide +kernel,by decide +kernel⟩
theorem Bb:aF ["way","closed","line"] ["way"] (aC vE):=⟨rfl,rfl,rfl,by decide +kernel,rfl,by decide +kernel,by decide +kernel⟩
theorem uf:aF ["person_lines","point","day","starts","start","way"] ["person_lines","point","day"] (aC qF):=⟨rfl,rfl,rfl,by decide +kernel,rfl,by decide +kernel,by decide +kernel⟩
theorem uB:aF ["self"] ["self"] (aC qQ):=⟨rfl,rfl,rfl,by decide +kernel,rfl,by decide +kernel,by decide +kernel⟩
theorem uC:aF ["self","lines","lines_text"] ["self","lines","lines_text"] (aC qR):=⟨rfl,rfl,rfl,by decide +kernel,rfl,by decide +kernel,by decide +kernel⟩
theorem kE:aF ["self","lines","lines_text","text"] ["self","lines","lines_text","text"] (aC ig):=⟨rfl,rfl,rfl,by decide +kernel,rfl,by decide +kernel,by decide +kernel⟩
theorem ux:aF ["self","text"] ["self","text"] (aC qN):=⟨rfl,rfl,rfl,by decide +kernel,rfl,by decide +kernel,by decide +kernel⟩
theorem uz:aF ["self","text"] ["self","text"] (aC qO):=⟨rfl,rfl,rfl,by decide +kernel,rfl,by decide +kernel,by decide +kernel⟩
theorem uw:aF ["self"] ["self"] (aC qM):=⟨rfl,rfl,rfl,by decide +kernel,rfl,by decide +kernel,by decide +kernel⟩
theorem tS:aF ["self","kinds","line"] ["self"] (aC jO):=⟨rfl,rfl,rfl,by decide +kernel,rfl,by decide +kernel,by decide +kernel⟩
theorem hJ:aF ["self","point","day","name"] ["self","point","day","name"] (aC eA):=⟨rfl,rfl,rfl,by decide +kernel,rfl,by decide +kernel,by decide +kernel⟩
theorem xP:aF ["self","point","day","name","line"] ["self","point","day","name"] (aC uK):=⟨rfl,rfl,rfl,by decide +kernel,rfl,by decide +kernel,by decide +kernel⟩
theorem rF:aF ["self","point","day","may","name","way","numbers","line"] ["self","point","day","may","name"] (aC jk):=⟨rfl,rfl,rfl,by decide +kernel,rfl,by decide +kernel,by decide +kernel⟩
theorem tR:aF ["self","point","day","name","way"] ["self","point","day","name"] (aC oK):=⟨rfl,rfl,rfl,by decide +kernel,rfl,by decide +kernel,by decide +kernel⟩
theorem uA:aF ["self","point","day","starts"] ["self","point","day"] (aC qP):=⟨rfl,rfl,rfl,by decide +kernel,rfl,by decide +kernel,by decide +kernel⟩
theorem rH:aF ["self","numbers"] ["self","numbers"] (aC m4):=⟨rfl,rfl,rfl,by decide +kernel,rfl,by decide +kernel,by decide +kernel⟩
theorem oF:aF ["self"] ["self"] (aC jP):=⟨rfl,rfl,rfl,by decide +kernel,rfl,by decide +kernel,by decide +kernel⟩
theorem rG:aF ["self","number"] ["self"] (aC mZ):=⟨rfl,rfl,rfl,by decide +kernel,rfl,by decide +kernel,by decide +kernel⟩
theorem tT:aF ["self","size","row"] ["self"] (aC oM):=⟨rfl,rfl,rfl,by decide +kernel,rfl,by decide +kernel,by decide +kernel⟩
theorem C4:aF ["holder","calls","number"] ["holder","calls"] (aC Bg):=⟨rfl,rfl,rfl,by decide +kernel,rfl,by decide +kernel,by decide +kernel⟩
theorem mF:aF ["holder","calls","fault","refused"] ["holder","calls"] (aC iZ):=⟨rfl,rfl,rfl,by decide +kernel,rfl,by decide +kernel,by decide +kernel⟩
theorem Bc:aF ["calls","holder","call_list","told","numbers"] ["calls"] (aC yU):=⟨rfl,rfl,rfl,by decide +kernel,rfl,by decide +kernel,by decide +kernel⟩
local macro_rules | `(tactic|walk_at "r1")=>`(tactic|simp only[La,Q9,Lv,HW,Ra,LV,Pg,Lj,Ik,Li,HV,Pq,HZ,Le,Fm,Ih,Ic,Lf,HS,Lw,Fe,Jh,M7,Ji,M6,LU,Lh,LR,Jd,MY,Jc,Jb,Ph,O9,Ro,PN,Rh,PQ,PF,HR,Fk,Lz,LL,L4,C6,Mq,L8,Lk,Ii,Lb,Ls,Ij,Ia,Ib,Pu,CU,HU,Pa,Mh,Mf,Mg,L9,PJ,LQ,Pw,C8,C7,Ma,Mj,Ml,Mp,K9,Ig,LJ,CV,Iv,Fh,Fj,Fi,Pp,Pn,Fl,Ff,C5,Fu,Iq,HQ,Fc,Im,Md,HX,FA,Fg,Nm,Jq,AH,Iz,Bh,Fz])
local macro_rules | `(tactic|walk_at "r2")=>`(tactic|simp[and_assoc,aB,aH,aO,List.lookup_nil,-List.lookup_eq_none_iff,-Bool.exists_bool,-Bool.not_eq_eq_eq_not,L2.wipe,aj,aG])
def Kp(S:List Addr)(H H':Hp):Prop:=∀b o,H b=some o→b∉S→H' b=some o
section
variable{P:Program}{w:World}{K:PySem.W.Frag}{mg:Str→Option Value}{base:Heap}{ad:Ad}
theorem QJ:∀k:Nat,k<10→(Str.ofString "0123456789").cps.toList[k]? =some (48+k):=by decide +kernel
theorem Qu:∀k:Nat,k<26→(Str.ofString "abcdefghijklmnopqrstuvwxyz").cps.toList[k]? =some (97+k):=by decide +kernel
theorem Nv{n:Nat}(h:n<256):(⟨#[n]⟩:Str)=bs [UInt8.ofNat n]:=by
 unfold bs
 simp
 omega
def xE:Sp:=fun vs H Q _=>∃n:Nat,vs=[.int n]∧Q (.str (bs (Pm.zx n))) H
theorem xV(T:Txt K mg ad):bA P w K mg base nj 1 ad.pZ ad.iN ["byte"] xE:=by
 refine T.jK.ok xK (fun vs H Q E h=> ?_) (fun cdv A outer s H vs Q E hr h=> ?_)
 ·obtain⟨n,rfl,_⟩:=h
  rfl
 ·obtain⟨n,rfl,k⟩:=h
  have nd:=xK.nd
  have hu:=a7 hr
  refine⟨_,(ao (a6 (uL kF kF (aE (v:=.int 48) rfl T.qW.choose_spec ⟨_,rfl⟩) (pv 0) (aE (v:=.int 57) rfl T.yA.choose_spec ⟨_,rfl⟩))
   (au (aJ (Dd MS (aE (v:=.str "0123456789") rfl T.Gk.choose_spec ⟨_,rfl⟩) (oQ G8 (pv 0) (aE (v:=.int 48) rfl T.qW.choose_spec ⟨_,rfl⟩)) (fun _ _=>rfl))))
   aL)
   (ao (a6 (uL kF kF (aE (v:=.int 97) rfl T.qV.choose_spec ⟨_,rfl⟩) (pv 0) (aE (v:=.int 122) rfl T.yx.choose_spec ⟨_,rfl⟩))
   (au (aJ (Dd MS (aE (v:=.str "abcdefghijklmnopqrstuvwxyz") rfl T.Ju.choose_spec ⟨_,rfl⟩) (oQ G8 (pv 0) (aE (v:=.int 97) rfl T.qV.choose_spec ⟨_,rfl⟩)) (fun _ _=>rfl))))
   aL)
   (au (aJ sO)))),?_⟩
  have e1:48≤n→n≤57→Pm.zx n=[UInt8.ofNat n]:=fun h1 h2=>by unfold Pm.zx;rw[if_pos (by simp[h1,h2])]
  have e2:97≤n→n≤122→Pm.zx n=[UInt8.ofNat n]:=fun h1 h2=>by unfold Pm.zx;rw[if_neg (by simp;omega),if_pos (by simp[h1,h2])]
  have e3:(n<48∨57<n)→(n<97∨122<n)→Pm.zx n=[]:=fun h1 h2=>by unfold Pm.zx;rw[if_neg (by simp;omega),if_neg (by simp;omega)]
  have e0:(Str.ofString "":Str)=bs []:=rfl
  have d1:48≤n→n≤57→∃x,KQ (Str.ofString "0123456789").cps.toList ((n:Int) - 48)=some x∧Q (V.str { cps:= #[x] }) H:=fun h1 h2=>⟨n,by
   have:=vR (QJ (n - 48) (by omega))
   rwa [show((n - 48:Nat):Int)=(n:Int) - 48 by omega,show 48+(n - 48)=n by omega]at this,by rw[Nv (by omega),←e1 h1 h2];exact k⟩
  have d2:97≤n→n≤122→∃x,KQ (Str.ofString "abcdefghijklmnopqrstuvwxyz").cps.toList ((n:Int) - 97)=some x∧Q (V.str { cps:= #[x] }) H:=fun h1 h2=>⟨n,by
   have:=vR (Qu (n - 97) (by omega))
   rwa [show((n - 97:Nat):Int)=(n:Int) - 97 by omega,show 97+(n - 97)=n by omega]at this,by rw[Nv (by omega),←e2 h1 h2];exact k⟩
  have d3:(n<48∨57<n)→(n<97∨122<n)→Q (V.str (Str.ofString "")) H:=fun h1 h2=>by rw[e0,←e3 h1 h2];exact k
  have l1:(Str.ofString "0123456789").length≤sizeLine:=by decide +kernel
  have l2:(Str.ofString "abcdefghijklmnopqrstuvwxyz").length≤sizeLine:=by decide +kernel
  walk_at "r1"
  simp
  (repeat' split)<;>first |exact⟨l1,d1 (by omega) (by omega)⟩|exact⟨l2,d2 (by omega) (by omega)⟩|exact d3 (by omega) (by omega)
def pI(num kd pt tg fd ed ta ws:V):List (Str×V):=[("number",num),("kind",kd),("point",pt),("target",tg),("first_day",fd),("end_day",ed),("told_to_all",ta),("words",ws)]
def D3(ad:Ad):Sp:=fun vs H Q _=>∃(p dx:Addr)(kd:Str)(pt:Int),vs=[.ref p,.str kd,.int pt]∧H p=some (.ins ad.b6 dx [])∧Q .non (upd H p (.ins ad.b6 dx (pI .non (.str kd) (.int pt) .non .non .non (.bl false) .non)))
theorem Eo(T:Txt K mg ad):bA P w K mg base nj 1 ad.p9 ad.iP ["self","kind","point"] (D3 ad):=by
 refine T.qy.ok xN (fun vs H Q E h=> ?_) (fun cdv A outer s H vs Q E hr h=> ?_)
 ·obtain⟨p,dx,kd,pt,rfl,_⟩:=h
  rfl
 ·obtain⟨p,dx,kd,pt,rfl,hp,k⟩:=h
  have nd:=xN.nd
  have hu:=a7 hr
  refine⟨_,(ao (bR (pv 0) sP rfl)
   (ao (bR (pv 0) (pv 1) rfl)
   (ao (bR (pv 0) (pv 2) rfl)
   (ao (bR (pv 0) sP rfl)
   (ao (bR (pv 0) sP rfl)
   (ao (bR (pv 0) sP rfl)
   (ao (bR (pv 0) xS rfl)
   (au (bR (pv 0) sP rfl))))))))),?_⟩
  walk_at "r1"
  simp[and_assoc,hp,T.bD,T.dW,T.eX,T.kY,T.iy,T.cV,T.gH,T.dw,T.dI,aj,aG,aO,aH]
  exact k
def piF(l:Addr)(i:Nat):List (Str×V):=[("pieces",.ref l),("place",.int i)]
def AZ(ad:Ad):Sp:=fun vs H Q _=>∃(p dx l:Addr),vs=[.ref p,.ref l]∧H p=some (.ins ad.dC dx [])∧Q .non (upd H p (.ins ad.dC dx (piF l 0)))
theorem Bv(T:Txt K mg ad):bA P w K mg base nj 1 ad.lC ad.fR ["self","pieces"] (AZ ad):=by
 refine T.lY.ok ur (fun vs H Q E h=> ?_) (fun cdv A outer s H vs Q E hr h=> ?_)
 ·obtain⟨p,dx,l,rfl,_⟩:=h
  rfl
 ·obtain⟨p,dx,l,rfl,hp,k⟩:=h
  have nd:=ur.nd
  have hu:=a7 hr
  refine⟨_,(ao (bR (pv 0) (pv 1) rfl)
   (au (bR (pv 0) qS rfl))),?_⟩
  walk_at "r1"
  simp[and_assoc,hp,T.bM,T.cG,T.dg,aj,aG,aO,aH]
  exact k
def tx(ws:List Po.Bytes):List V:=ws.map fun w=>.str (bs w)
def jg(ad:Ad)(H:Hp)(p:Addr)(ws:List Po.Bytes):Prop:=∃dx l all i,H p=some (.ins ad.dC dx (piF l i))∧H l=some (.lst (tx all))∧i≤all.length∧all.drop i=ws
def kJ(ad:Ad):Sp:=fun vs H Q _=>∃(p:Addr)(ws:List Po.Bytes),vs=[.ref p]∧jg ad H p ws∧Q (.bl ws.isEmpty) H
theorem kN(T:Txt K mg ad):bA P w K mg base nj 1 ad.jl ad.dN ["self"] (kJ ad):=by
 refine T.jw.ok rE (fun vs H Q E h=> ?_) (fun cdv A outer s H vs Q E hr h=> ?_)
 ·obtain⟨p,ws,rfl,_⟩:=h
  rfl
 ·obtain⟨p,ws,rfl,⟨dx,l,all,i,hp,hl,hi,hw⟩,k⟩:=h
  have nd:=rE.nd
  have hu:=a7 hr
  refine⟨_,(au (aJ (nN f9 (aM (pv 0) rfl) (a9 (a8 (K:=K) rfl) (by rfl) T.c9 PySem.boot_len (ak (aM (pv 0) rfl) aA)) (aY _)))),?_⟩
  walk_at "r1"
  simp[and_assoc,hp,T.bM,T.cG,T.dg,piF,aB]
  refine⟨_,dF hl,rfl,?_⟩
  have e:decide (i=(tx all).length)=ws.isEmpty:=by
   subst hw
   rw[tx,List.length_map]
   by_cases c:i=all.length
   ·simp[c]
   ·have:List.drop i all≠[]:=by simp;omega
    simp[c,this]
  simp only[V.int.injEq,Int.natCast_inj,e]
  exact k
theorem jg.next{H:Hp}{p:Addr}{w:Po.Bytes}{ws:List Po.Bytes}{dx l:Addr}{all:List Po.Bytes}{i:Nat}(hp:H p=some (.ins ad.dC dx (piF l i)))(hl:H l=some (.lst (tx all)))(hw:all.drop i=w::ws):
  jg ad (upd H p (.ins ad.dC dx (piF l (i+1)))) p ws∧i<all.length∧all[i]? =some w:=by
 have hi:i<all.length:=by
  apply Nat.lt_of_not_le
  intro c
  rw[List.drop_of_length_le c]at hw
  cases hw
 rw[List.drop_eq_getElem_cons hi]at hw
 injection hw with h1 h2
 exact⟨⟨dx,l,all,i+1,aj,by rw[aq (cO hl hp (by intro z;cases z))];exact hl,hi,h2⟩,hi,by rw[List.getElem?_eq_getElem hi,h1]⟩
theorem Kp.put1{H:Hp}{p:Addr}{o:HO}:Kp [p] H (upd H p o):=fun b o' e hb=>by rw[aq (by simpa using hb)];exact e
def AW(ad:Ad):Sp:=fun vs H Q E=>∃(p:Addr)(ws:List Po.Bytes),vs=[.ref p]∧jg ad H p ws∧(ws=[]→E (.ref ad.bF) none H)∧∀w r H',ws=w::r→jg ad H' p r→Kp [p] H H'→Q (.str (bs w)) H'
theorem oR(T:Txt K mg ad):bA P w K mg base (wz P w (Nc ad)) 2 ad.lu ad.fO ["self"] (AW ad):=by
 have G_Pieces_at_end:=kN (P:=P) (w:=w) (base:=base) T
 refine T.lV.Ap um (fun vs H Q E h=> ?_) (fun cdv A outer s H vs Q E hr h X hX fl po=> ?_)
 ·obtain⟨p,ws,rfl,_⟩:=h
  rfl
 ·obtain⟨p,ws,rfl,⟨dx,l,all,i,hp,hl,hi,hw⟩,k1,k2⟩:=h
  have nd:=um.nd
  have hu:=a7 hr
  subst hX
  have ps:=b9.passes fl rfl
  refine⟨_,(ao (a6 (gk (bI (pv 0) T.bM T.iI G_Pieces_at_end (hr.mono (by decide)) T.eT .nil bh))
   (au (bG fl rfl rfl ⟨T.bJ,T.bS⟩ T.bN rfl))
   aL)
   (ao (aU (i:=1) nd rfl (Or.inl rfl) (Dd Ar (aM (pv 0) rfl) (aM (pv 0) rfl) (fun _ _=>rfl)))
   (ao (vG (pv 0) qS EA)
   (au (aJ (pv 1)))))),?_⟩
  walk_at "r1"
  simp[and_assoc,aB,aH,aO,List.lookup_nil,-List.lookup_eq_none_iff,-Bool.exists_bool,-Bool.not_eq_eq_eq_not,L2.wipe,aj,aG,hp,T.bM,T.cG,T.dg,piF,kJ]
  refine⟨ws,⟨dx,l,all,i,hp,hl,hi,hw⟩,?_⟩
  cases ws with
  |nil=>simpa using k1 rfl
  |cons w r=>
   obtain⟨h1,h2,h3⟩:=jg.next hp hl hw
   simp
   exact⟨_,bW.of hl,_,vR (by rw[tx,List.getElem?_map,h3];rfl),k2 w r _ rfl h1 Kp.put1⟩
def AX(ad:Ad):Sp:=fun vs H Q _=>∃(p:Addr)(ws:List Po.Bytes)(x:Po.Bytes),vs=[.ref p,.str (bs x)]∧jg ad H p ws∧(ws.head?≠some x→Q (.bl false) H)∧∀r H',ws=x::r→jg ad H' p r→Kp [p] H H'→Q (.bl true) H'
theorem w8{a b:Po.Bytes}:bs a=bs b↔a=b:=by
 refine⟨fun h=> ?_,fun h=>by rw[h]⟩
 have h1:=congrArg TL.tl h
 have h2:a.map UInt8.toNat=b.map UInt8.toNat:=by simpa[bs,TL.tl]using h1
 have inj:∀(l m:List UInt8),l.map UInt8.toNat=m.map UInt8.toNat→l=m:=by
  intro l
  induction l with
  |nil=>intro m h;cases m with |nil=>rfl |cons c m=>simp at h
  |cons c l ih=>
   intro m h
   cases m with
   |nil=>simp at h
   |cons d m=>
    simp only[List.map_cons,List.cons.injEq]at h
    rw[ih m h.2,UInt8.toNat_inj.mp h.1]
 exact inj _ _ h2
theorem oS(T:Txt K mg ad):bA P w K mg base nj 2 ad.lA ad.fP ["self","word"] (AX ad):=by
 have G_Pieces_at_end:=kN (P:=P) (w:=w) (base:=base) T
 refine T.lW.ok uo (fun vs H Q E h=> ?_) (fun cdv A outer s H vs Q E hr h=> ?_)
 ·obtain⟨p,ws,x,rfl,_⟩:=h
  rfl
 ·obtain⟨p,ws,x,rfl,⟨dx,l,all,i,hp,hl,hi,hw⟩,k1,k2⟩:=h
  have nd:=uo.nd
  have hu:=a7 hr
  refine⟨_,(ao (a6 (PW.pt (FC (gk (bI (pv 0) T.bM T.iI G_Pieces_at_end (hr.mono (by decide)) T.eT .nil bh)) (Bi (aV MA (Dd Ar (aM (pv 0) rfl) (aM (pv 0) rfl) (fun _ _=>rfl)) (pv 1) (aY _)))))
   (au (aJ xS))
   aL)
   (ao (vG (pv 0) qS EA)
   (au (aJ xS)))),?_⟩
  walk_at "r1"
  simp[and_assoc,aB,aH,aO,List.lookup_nil,-List.lookup_eq_none_iff,-Bool.exists_bool,-Bool.not_eq_eq_eq_not,L2.wipe,aj,aG,hp,T.bM,T.cG,T.dg,piF,kJ]
  refine⟨ws,⟨dx,l,all,i,hp,hl,hi,hw⟩,?_⟩
  cases ws with
  |nil=>simpa using k1 (by simp)
  |cons w r=>
   obtain⟨h1,h2,h3⟩:=jg.next hp hl hw
   simp
   refine⟨_,bW.of hl,_,vR (by rw[tx,List.getElem?_map,h3];rfl),rfl,?_⟩
   simp[w8]
   by_cases c:w=x
   ·subst c
    simp
    exact k2 r _ rfl h1 Kp.put1
   ·simp[c]
    exact k1 (by simp[c])
def AY(ad:Ad):Sp:=fun vs H Q _=>∃(p:Addr)(ws:List Po.Bytes),vs=[.ref p]∧jg ad H p ws∧∀l H',jg ad H' p []→H l=none→H' l=some (.lst (tx ws))→Kp [p] H H'→Q (.ref l) H'
theorem KC(xs:List V)(i:Nat):CG xs (some (i:Int)) none=xs.drop i:=by
 unfold CG
 rw[HT.D8,HT.L3]
 by_cases c:i≤xs.length
 ·rw[Nat.min_eq_left c,List.take_of_length_le (by simp)]
 ·rw[Nat.min_eq_right (by omega)]
  simp
  omega
theorem NQ(ws:List Po.Bytes)(i:Nat):(tx ws).drop i=tx (ws.drop i):=by unfold tx;rw[List.map_drop]
theorem Bu(T:Txt K mg ad):bA P w K mg base nj 1 ad.lB ad.fQ ["self"] (AY ad):=by
 refine T.lX.ok uq (fun vs H Q E h=> ?_) (fun cdv A outer s H vs Q E hr h=> ?_)
 ·obtain⟨p,ws,rfl,_⟩:=h
  rfl
 ·obtain⟨p,ws,rfl,⟨dx,l,all,i,hp,hl,hi,hw⟩,k⟩:=h
  have nd:=uq.nd
  have hu:=a7 hr
  refine⟨_,(ao (aU (i:=1) nd rfl (Or.inl rfl) (FL Io (aM (pv 0) rfl) (Ef (aM (pv 0) rfl)) Ob))
   (ao (bR (pv 0) (a9 (a8 (K:=K) rfl) (by rfl) T.c9 PySem.boot_len (ak (aM (pv 0) rfl) aA)) rfl)
   (au (aJ (pv 1))))),?_⟩
  walk_at "r1"
  simp[and_assoc,aB,aH,aO,List.lookup_nil,-List.lookup_eq_none_iff,-Bool.exists_bool,-Bool.not_eq_eq_eq_not,L2.wipe,aj,aG,hp,T.bM,T.cG,T.dg,piF,KC]
  refine⟨_,bW.of hl,fun q hq=> ?_⟩
  have n1:p≠q:=aD hp hq
  have n2:l≠q:=aD hl hq
  have n3:l≠p:=cO hl hp (by intro z;cases z)
  simp[and_assoc,aq n1,aq n2,hp,T.bM,T.cG,T.dg,piF,aB,aH]
  refine⟨_,dF (xs:=tx all) (by rw[aq n2];exact hl),?_⟩
  refine k q _ ⟨dx,l,all,all.length,?_,?_,Nat.le_refl _,by simp⟩ hq ?_ fun b o e hb=> ?_
  ·rw[aj];simp[piF,tx]
  ·rw[aq n3,aq n2];exact hl
  ·rw[aq n1.symm,aj,NQ,hw]
  ·rw[aq (by simpa using hb),aq (aD e hq)];exact e
end
end Tx
namespace Tx
open PySem PySem.Spec PyProof.Rows L2
open Po PoMoves Mm
local macro_rules | `(tactic|walk_at "r1")=>`(tactic|simp only[La,Q9,Lv,HW,Ra,LV,Pg,Lj,Ik,Li,HV,Pq,HZ,Le,Fm,Ih,Ic,Lf,HS,Lw,Fe,Jh,M7,Ji,M6,LU,Lh,LR,Jd,MY,Jc,Jb,Ph,O9,Ro,PN,Rh,PQ,PF,HR,Fk,Lz,LL,L4,C6,Mq,L8,Lk,Ii,Lb,Ls,Ij,Ia,Ib,Pu,CU,HU,Pa,Mh,Mf,Mg,L9,PJ,LQ,Pw,C8,C7,Ma,Mj,Ml,Mp,K9,Ig,LJ,CV,Iv,Fh,Fj,Fi,Pp,Pn,Fl,Ff,C5,Fu,Iq,HQ,Fc,Im,Md,HX,FA,Fg,Nm,Jq,AH,Iz,Bh,Fz])
local macro_rules | `(tactic|walk_at "r2")=>`(tactic|simp[and_assoc,aB,aH,aO,List.lookup_nil,-List.lookup_eq_none_iff,-Bool.exists_bool,-Bool.not_eq_eq_eq_not,L2.wipe,aj,aG])
theorem xA(w:Bytes):TL.tl (bs w)=w.map UInt8.toNat:=by simp[bs,TL.tl]
theorem fD(w:Bytes):(bs w).length=w.length:=by rw[TL.MP,xA,List.length_map]
theorem HC(n:Nat):bs (decimal n)=Str.ofString (toString ((n:Nat):Int)):=by
 apply TL.Hs
 rw[TL.yN,xA]
 unfold decimal TL.xY
 rw[List.map_map]
 apply List.map_congr_left
 intro c hc
 have:c.toNat<256:=by
  have h:=Nat.isDigit_of_mem_toDigits (b:=10) (by decide) (by decide) hc
  have h2:48≤c.val∧c.val≤57:=by simpa[Char.isDigit]using h
  have h3:c.toNat≤57:=h2.2
  omega
 show(UInt8.ofNat c.toNat).toNat=c.toNat
 simp
 omega
theorem JE:∀n:Nat,n<128→Unicode.isDigit n=(decide (48≤n)&&decide (n≤57)):=by decide +kernel
theorem Ki{c:UInt8}(h:isLetter c=true):c.toNat<128:=by
 unfold isLetter isDigit at h
 simp at h
 rcases h with⟨_,h⟩|⟨_,h⟩
 ·have:c.toNat≤57:=h
  omega
 ·have:c.toNat≤122:=h
  omega
theorem Ho{w:Bytes}(h:w.all isLetter=true):Txt.isdigit (bs w)=(!w.isEmpty&&w.all isDigit):=by
 unfold Txt.isdigit
 have e:(bs w).cps.all Unicode.isDigit=w.all isDigit:=by
  rw[←Array.all_toList]
  show(TL.tl (bs w)).all Unicode.isDigit=_
  rw[xA,List.all_map]
  have:∀c∈w,(Unicode.isDigit∘UInt8.toNat) c=isDigit c:=by
   intro c hc
   have hl:=List.all_eq_true.mp h c hc
   show Unicode.isDigit c.toNat=_
   rw[JE _ (Ki hl)]
   unfold isDigit
   rfl
  clear h
  induction w with
  |nil=>rfl
  |cons c w ih=>rw[List.all_cons,List.all_cons,this c (List.mem_cons_self ..),ih fun d hd=>this d (List.mem_cons_of_mem _ hd)]
 rw[e,fD]
 cases w<;>simp
theorem JN(w:Bytes):Txt.startswith (bs w) (Str.ofString "0")=decide (w.head? =some 48):=by
 have e:Str.ofString "0"=bs [48]:=rfl
 rw[e]
 cases w with
 |nil=>rfl
 |cons c r=>
  unfold Txt.startswith
  rw[fD,fD]
  have hs:Builtin.Str.subAt (bs (c::r)) (bs [48]) 0=decide (c=48):=by
   unfold Builtin.Str.subAt
   simp[bs,Str.length]
   by_cases q:c=48
   ·subst q;rfl
   ·have:¬c.toNat=48:=fun z=>q (UInt8.toNat_inj.mp z)
    simp[q,this]
  rw[hs]
  simp
theorem Gc:∀(m n:Nat),n≤m→(decimal n).length≤(decimal m).length:=by
 intro m
 induction m using Nat.strongRecOn with
 |ind m ih=>
  intro n h
  by_cases hn:n<10
  ·rw[dec_lt hn]
   have:=B5 m
   cases q:decimal m with
   |nil=>exact absurd q this
   |cons a r=>simp
  ·rw[pq (by omega:10≤n),pq (by omega:10≤m)]
   simp only[List.length_append,List.length_singleton]
   have:=ih (m / 10) (by omega) (n / 10) (by omega)
   omega
theorem Kj(c:UInt8):Pm.zx c.toNat=if isLetter c=true then[c]else[]:=by
 unfold Pm.zx isLetter isDigit
 have e:UInt8.ofNat c.toNat=c:=by simp
 have h1:decide (48≤c.toNat)=decide (48≤c):=rfl
 have h2:decide (c.toNat≤57)=decide (c≤57):=rfl
 have h3:decide (97≤c.toNat)=decide (97≤c):=rfl
 have h4:decide (c.toNat≤122)=decide (c≤122):=rfl
 rw[e,h1,h2,h3,h4]
 cases decide (48≤c)<;>cases decide (c≤57)<;>cases decide (97≤c)<;>cases decide (c≤122)<;>rfl
section
variable{P:Program}{w:World}{K:PySem.W.Frag}{mg:Str→Option Value}{base:Heap}{ad:Ad}
def xF(ad:Ad):Sp:=fun vs H Q E=>∃c:UInt8,vs=[.int c.toNat]∧(isLetter c=true→Q (.str (bs [c])) H)∧(isLetter c=false→E (.ref ad.bF) none H)
theorem xW(T:Txt K mg ad):bA P w K mg base (wz P w (Nc ad)) 2 ad.iS ad.cY ["byte"] (xF ad):=by
 have G_letter_of:=xV (P:=P) (w:=w) (base:=base) T
 refine T.f6.Ap pP (fun vs H Q E h=> ?_) (fun cdv A outer s H vs Q E hr h X hX fl po=> ?_)
 ·obtain⟨c,rfl,_⟩:=h
  rfl
 ·obtain⟨c,rfl,k1,k2⟩:=h
  have nd:=pP.nd
  have hu:=a7 hr
  subst hX
  have ps:=b9.passes fl rfl
  refine⟨_,(ao (aU (i:=1) nd rfl (Or.inl rfl) (eW G_letter_of (hr.mono (by decide)) rfl T.uX T.jK.kp T.mQ .nil bh (ak (pv 0) aA)))
   (ao (a6 (oO (rJ (pv 1) (fun _=>rfl)))
   (au (bG fl rfl rfl ⟨T.bJ,T.bS⟩ T.bN rfl))
   aL)
   (au (aJ (pv 1))))),?_⟩
  walk_at "r1"
  simp[and_assoc,aB,aH,aO,List.lookup_nil,-List.lookup_eq_none_iff,-Bool.exists_bool,-Bool.not_eq_eq_eq_not,L2.wipe,aj,aG,xE]
  refine⟨c.toNat,rfl,?_⟩
  rw[Kj]
  cases hc:isLetter c with
  |true=>exact⟨true,⟨by rw[fD];exact(by decide:1≤2 ^ 24),by simp[fD]⟩,by simpa using k1 hc⟩
  |false=>exact⟨false,⟨by rw[fD];exact(by decide:0≤2 ^ 24),by simp[fD]⟩,by simpa using k2 hc⟩
def lt(w:Bytes):List V:=w.map fun c=>.str (bs [c])
theorem Ot(w:Bytes):lt w=(w.map fun c=>bs [c]).map V.str:=by unfold lt;rw[List.map_map];rfl
theorem Ow(w:Bytes):Txt.join (Str.ofString "") (w.map fun c=>bs [c])=bs w:=by
 rw[TL.join_eq]
 apply TL.Hs
 rw[TL.HP,xA]
 have e0:TL.tl (Str.ofString "")=[]:=rfl
 rw[e0,List.map_map]
 have:∀w:Bytes,TL.F6 [] (w.map (TL.tl∘fun c=>bs [c]))=w.map UInt8.toNat:=by
  intro w
  induction w with
  |nil=>rfl
  |cons c r ih=>
   cases r with
   |nil=>rfl
   |cons d r=>
    show(TL.tl (bs [c]))++([]++TL.F6 [] (((d::r):Bytes).map (TL.tl∘fun c=>bs [c])))=_
    rw[ih,xA]
    rfl
 exact this w
def z7(ad:Ad):Sp:=fun vs H Q E=>∃(l:Addr)(w:Bytes),vs=[.ref l]∧H l=some (.lst (lt w))∧w.length≤100000∧(w≠[]→Q (.str (bs w)) H)∧(w=[]→E (.ref ad.bF) none H)
theorem LW(w:Bytes):((w.map fun c=>bs [c]).map (·.length)).sum=w.length:=by
 induction w with
 |nil=>rfl
 |cons c r ih=>rw[List.map_cons,List.map_cons,List.sum_cons,ih,fD];simp;omega
theorem Ae(T:Txt K mg ad):bA P w K mg base (wz P w (Nc ad)) 1 ad.jW ad.eJ ["letters"] (z7 ad):=by
 refine T.fZ.Ap tP (fun vs H Q E h=> ?_) (fun cdv A outer s H vs Q E hr h X hX fl po=> ?_)
 ·obtain⟨l,w,rfl,_⟩:=h
  rfl
 ·obtain⟨l,w,rfl,hl,hz,k1,k2⟩:=h
  have nd:=tP.nd
  have hu:=a7 hr
  subst hX
  have ps:=b9.passes fl rfl
  refine⟨_,(ao (a6 (oO (rJ (pv 0) (fun _=>rfl)))
   (au (bG fl rfl rfl ⟨T.bJ,T.bS⟩ T.bN rfl))
   aL)
   (au (aJ (Oh sO (pv 0))))),?_⟩
  walk_at "r1"
  walk_at "r2"
  refine⟨!w.isEmpty,.inl ⟨_,bW.of hl,by simp[lt]⟩,?_⟩
  cases w with
  |nil=>simpa using k2 rfl
  |cons c r=>
   simp only[List.isEmpty_cons,Bool.not_false]
   simp
   refine⟨(c::r).map fun c=>bs [c],.inl (bW.of (by rw[hl,Ot])),?_,?_⟩
   ·rw[LW,List.length_map]
    have:(Str.ofString "").length=0:=rfl
    rw[this]
    omega
   ·rw[Ow];exact k1 (by simp)
def D1(ad:Ad):Sp:=fun vs H Q E=>∃(w:Bytes)(m:Nat),vs=[.str (bs w),.int m]∧w.all isLetter=true∧w.length≤100000∧m≤1000000∧(∀n,tU w m=some n→Q (.int n) H)∧(tU w m=none→E (.ref ad.bF) none H)
theorem sQ(T:Txt K mg ad):bA P w K mg base (wz P w (Nc ad)) 1 ad.pY ad.iM ["piece","most"] (D1 ad):=by
 refine T.gb.Ap xJ (fun vs H Q E h=> ?_) (fun cdv A outer s H vs Q E hr h X hX fl po=> ?_)
 ·obtain⟨x,m,rfl,_⟩:=h
  rfl
 ·obtain⟨x,m,rfl,hx,hz,hm,k1,k2⟩:=h
  have nd:=xJ.nd
  have hu:=a7 hr
  subst hX
  have ps:=b9.passes fl rfl
  refine⟨_,(ao (a6 (oO (gk (Ru PySem.F.slot_str_isdigit PySem.F.type_str_isdigit Hk (pv 0))))
   (au (bG fl rfl rfl ⟨T.bJ,T.bS⟩ T.bN rfl))
   aL)
   (ao (a6 (PW.pt (yW (gk (PU PySem.F.slot_str_startswith PySem.F.type_str_startswith CA (pv 0) sO)) (vF (aV MA (pv 0) sO (aY _)))))
   (au (bG fl rfl rfl ⟨T.bJ,T.bS⟩ T.bN rfl))
   aL)
   (ao (a6 (PW.pt (FC (aV v8 (a9 (a8 (K:=K) rfl) (by rfl) T.c9 PySem.boot_len (ak (pv 0) aA)) (a9 (a8 (K:=K) rfl) (by rfl) T.c9 PySem.boot_len (ak (rL EJ (by rfl) T.ME PyProof.Rows.boot_str (ak (pv 1) aA)) aA)) (aY _)) (Bi (aV v8 (rL yt (by rfl) T.Hi PyProof.Rows.boot_int (ak (pv 0) aA)) (pv 1) (aY _)))))
   (au (bG fl rfl rfl ⟨T.bJ,T.bS⟩ T.bN rfl))
   aL)
   (au (aJ (rL yt (by rfl) T.Hi PyProof.Rows.boot_int (ak (pv 0) aA))))))),?_⟩
  have eR:(Str.ofString ((m:Int)).repr).length=(decimal m).length:=by rw[←fD,HC];rfl
  have hlog:m.log2<1920:=by
   by_cases q:m=0
   ·subst q;decide
   ·exact(Nat.log2_lt q).mpr (Nat.lt_of_le_of_lt hm (by decide))
  have hlR:(decimal m).length≤7:=Nat.le_trans (Gc 1000000 m hm) (by decide +kernel)
  have hsz:sizeLine=16777216:=rfl
  have tail:eV x=true→∃x_1,pJ K (V.str (bs x)) H x_1∧m.log2<1920∧∃x_2,pJ K (V.str (Str.ofString ((m:Int)).repr)) H x_2∧
    if x_2<x_1 then E (Value.ref ad.bF) none H else ∃x_3,intText? (bs x)=some x_3∧(bs x).length≤640∧if(m:Int)<x_3 then E (Value.ref ad.bF) none H else ∃x_4,intText? (bs x)=some x_4∧(bs x).length≤640∧Q (V.int x_4) H:=by
   intro hp
   have ex:=Dz x hp
   refine⟨_,⟨by rw[fD];omega,rfl⟩,hlog,_,⟨by rw[eR];omega,rfl⟩,?_⟩
   rw[eR,fD]
   have hnum:tU x m=if natIn x≤m then some (natIn x)else none:=by unfold tU;rw[hp];simp
   split
   ·rename_i hl
    refine k2 ?_
    rw[hnum,if_neg]
    intro q
    have:=Gc m _ q
    rw[ex]at this
    omega
   ·rename_i hl
    have hi:intText? (bs x)=some ((natIn x:Nat):Int):=by
     rw[←ex,HC,gJ]
     refine TL.Oz ?_
     have:(TL.xY (natIn x)).length=x.length:=by
      rw[←TL.yN,←HC,ex,xA,List.length_map]
     omega
    have hl6:(bs x).length≤640:=by rw[fD];omega
    refine⟨_,hi,by omega,?_⟩
    split
    ·rename_i h3
     refine k2 ?_
     rw[hnum,if_neg (by omega)]
    ·rename_i h3
     exact⟨_,hi,by omega,k1 _ (by rw[hnum,if_pos (by omega)])⟩
  have noP:eV x=false→tU x m=none:=fun q=>by unfold tU;rw[q];rfl
  have hdg:=Ho hx
  have e0:Str.ofString "0"=bs [48]:=rfl
  cases hq:(!x.isEmpty&&x.all isDigit)with
  |false=>
   rw[hq]at hdg
   walk_at "r1"
   simp[and_assoc,aB,aH,aO,List.lookup_nil,-List.lookup_eq_none_iff,-Bool.exists_bool,-Bool.not_eq_eq_eq_not,L2.wipe,aj,aG,hdg]
   refine k2 (noP ?_)
   unfold eV
   cases q1:x.isEmpty<;>cases q2:x.all isDigit<;>simp_all
  |true=>
   rw[hq]at hdg
   rw[Bool.and_eq_true,Bool.not_eq_true']at hq
   obtain⟨he,hd⟩:=hq
   have hst:=JN x
   rw[e0]at hst
   walk_at "r1"
   simp[and_assoc,aB,aH,aO,List.lookup_nil,-List.lookup_eq_none_iff,-Bool.exists_bool,-Bool.not_eq_eq_eq_not,L2.wipe,aj,aG,hdg,hst,e0,w8]
   by_cases h2:x.head? =some 48
   ·rw[if_pos h2]
    refine⟨rfl,?_⟩
    by_cases h3:x=[48]
    ·simpa[h3]using tail (by unfold eV;rw[he,hd];simp[h3])
    ·simpa[h3]using k2 (noP (by unfold eV;rw[he,hd,h2];simpa using h3))
   ·rw[if_neg h2]
    exact tail (by unfold eV;rw[he,hd];simp[h2])
end
section
variable{P:Program}{w:World}{K:PySem.W.Frag}{mg:Str→Option Value}{base:Heap}{ad:Ad}
def iv(b:Bytes):List V:=b.map fun c=>.int c.toNat
theorem Kp.refl(S:List Addr)(H:Hp):Kp S H H:=fun b o e _=>e
theorem Kp.trans{S:List Addr}{H H1 H2:Hp}(a:Kp S H H1)(b:Kp S H1 H2):Kp S H H2:=fun c o e hc=>b c o (a c o e hc) hc
theorem Kp.mono{S S':List Addr}{H H1:Hp}(a:Kp S H H1)(h:∀x∈S,x∈S'):Kp S' H H1:=fun c o e hc=>a c o e fun z=>hc (h c z)
theorem Kp.new{S:List Addr}{H:Hp}{p:Addr}{o:HO}(h:H p=none):Kp S H (upd H p o):=fun b o' e _=>by rw[aq (aD e h)];exact e
theorem Kp.set{S:List Addr}{H:Hp}{p:Addr}{o:HO}(h:p∈S):Kp S H (upd H p o):=fun b o' e hb=>by rw[aq (fun q=>hb (by rw[q];exact h))];exact e
theorem Kp.aX{S:List Addr}{H H1:Hp}{p:Addr}{o:HO}(a:Kp S H H1)(h:H p=none):Kp S H (upd H1 p o):=fun b o' e hb=>by rw[aq (aD e h)];exact a b o' e hb
theorem Kp.free{S:List Addr}{H H1:Hp}{p:Addr}(a:Kp S H H1)(hp:p∉S)(h:H1 p=none):H p=none:=by
 cases e:H p with
 |none=>rfl
 |some o=>rw[a p o e hp]at h;cases h
theorem P1{b:Bytes}{i:Nat}{x:V}(h:(iv b)[i]? =some x):∃c,b[i]? =some c∧x= .int c.toNat:=by
 unfold iv at h
 rw[List.getElem?_map]at h
 cases e:b[i]? with
 |none=>rw[e]at h;cases h
 |some c=>rw[e]at h;exact⟨c,rfl,(Option.some.inj h).symm⟩
theorem for_in{K:PySem.W.Frag}{tl:TE}{a:Addr}{xs:List V}{g:TG}{tb:TS}{D:Ends}{σ:L2.St}{H:Hp}(h:∀Q:VK,Q (.ref a) H→tl σ H Q)(hx:bW K H a xs)(Pv:Nat→L2.St→Hp→Prop)(h0:Pv 0 σ H)(hl:∀i σ H,i≤xs.length→Pv i σ H→bW K H a xs)
  (hs:∀i x σ H,xs[i]? =some x→Pv i σ H→g x σ H fun σ2 H2=>tb { D with nx:=Pv (i+1),ct:=Pv (i+1),bk:=D.nx } σ2 H2) (hd:∀σ H,Pv xs.length σ H→D.nx σ H):Lx (Je K tl) g tb D σ H:=
 h _ ⟨a,rfl,⟨xs,hx⟩,u6 Pv h0 hl hs hd⟩
def DZ(ad:Ad):Sp:=fun vs H Q E=>∃(l:Addr)(row:Bytes),vs=[.ref l]∧H l=some (.lst (iv row))∧row.length≤100000∧(∀ws p H',scan [] [] row=some ws→H p=none→H' p=some (.lst (tx ws))→Kp [] H H'→Q (.ref p) H')∧(∀H',scan [] [] row=none→Kp [] H H'→E (.ref ad.bF) none H')
theorem Em(T:Txt K mg ad):bA P w K mg base (wz P w (Nc ad)) 3 ad.pX ad.iL ["row"] (DZ ad):=by
 have G_closed_piece:=Ae (P:=P) (w:=w) (base:=base) T
 have G_checked_letter:=xW (P:=P) (w:=w) (base:=base) T
 refine T.mV.Ap xI (fun vs H Q E h=> ?_) (fun cdv A outer s H vs Q E hr h X hX fl po=> ?_)
 ·obtain⟨l,row,rfl,_⟩:=h
  rfl
 ·obtain⟨l,row,rfl,hl,hz,k1,k2⟩:=h
  have nd:=xI.nd
  have hu:=a7 hr
  subst hX
  have ps:=b9.passes fl rfl
  refine⟨_,(ao (aU (i:=1) nd rfl (Or.inl rfl) (bK aA))
   (ao (aU (i:=2) nd rfl (Or.inl rfl) (bK aA))
   (ao (oP po rfl (gS (pv 0)) (bY (i:=3) nd rfl (Or.inl rfl))
   (au (a6 (aV f9 (pv 3) (aE (v:=.int 32) rfl T.Jy.choose_spec ⟨_,rfl⟩) (aY _))
   (ao (dD (mG PySem.F.plainAttrs_list PySem.F.slot_list_append PySem.F.type_list_append eD (pv 1) (ak (bT G_closed_piece (hr.mono (by decide)) rfl T.oZ T.fZ.kp T.iB .nil ps (ak (pv 2) aA)) aA)))
   (au (aU (i:=2) nd rfl (Or.inl rfl) (bK aA))))
   (au (dD (mG PySem.F.plainAttrs_list PySem.F.slot_list_append PySem.F.type_list_append eD (pv 2) (ak (bT G_checked_letter (hr.mono (by decide)) rfl T.rS T.f6.kp T.iV .nil ps (ak (pv 3) aA)) aA)))))))
   (ao (dD (mG PySem.F.plainAttrs_list PySem.F.slot_list_append PySem.F.type_list_append eD (pv 1) (ak (bT G_closed_piece (hr.mono (by decide)) rfl T.oZ T.fZ.kp T.iB .nil ps (ak (pv 2) aA)) aA)))
   (au (aJ (pv 1))))))),?_⟩
  walk_at "r1"
  walk_at "r2"
  intro p hp q hq
  have xZ:p≠q:=by intro z;rw[z,aj]at hq;cases hq
  have hqH:H q=none:=by rwa [aq xZ.symm]at hq
  have K0:Kp [] H (upd (upd H p (.lst [])) q (.lst [])):=(Kp.new hp).aX hqH
  refine for_in (a:=l) (xs:=iv row) (fun Q q=>⟨_,rfl,q⟩) (bW.of (K0 _ _ hl (by simp))) (fun i σ H'=>∃(v:Option V)(ws:List Bytes)(cur:Bytes)(q:Addr),σ=[some (.ref l),some (.ref p),some (.ref q),v]∧H' p=some (.lst (tx ws))∧H' q=some (.lst (lt cur))∧p≠q∧H q=none∧Kp [] H H'∧cur.length≤i∧ws.length≤i∧scan [] [] row=scan ws cur (row.drop i))
   ⟨none,[],[],q,rfl,by rw[aq xZ,aj];rfl,aj,xZ,hqH,K0,Nat.le_refl _,Nat.le_refl _,by rw[List.drop_zero]⟩ (fun i σ H' _ zz=>by obtain⟨_,_,_,_,_,_,_,_,_,k,_⟩:=zz;exact bW.of (k _ _ hl (by simp))) ?_ ?_
  ·rintro i x σ H' hx ⟨v,ws,cur,q,rfl,h1,h2,xZ,hqH,KK,hc,hw,hs⟩
   obtain⟨c,hc2,rfl⟩:=P1 hx
   have hi:i<row.length:=(List.getElem?_eq_some_iff.mp hc2).1
   have hd:row.drop i=c::row.drop (i+1):=by rw[List.drop_eq_getElem_cons hi,(List.getElem?_eq_some_iff.mp hc2).2]
   rw[hd]at hs
   walk_at "r1"
   walk_at "r2"
   refine⟨rfl,?_⟩
   have hsz:sizeLine=16777216:=rfl
   have ty:∀{a:Addr}{xs:List V},H' a=some (.lst xs)→O6 K "list" (V.ref a) H':=fun h=>.inl ⟨rfl,_,bW.of h⟩
   by_cases q32:c=32
   ·subst q32
    simp
    refine⟨ty h1,q,cur,rfl,h2,by omega,fun hne=> ?_,fun he=> ?_⟩
    ·refine⟨_,h1,by simp[tx];omega,fun q' hq'=> ?_⟩
     have n1:q'≠p:=by intro z;rw[z,aj]at hq';cases hq'
     have hq'':H' q'=none:=by rwa [aq n1]at hq'
     refine⟨ws++[cur],by rw[aq n1.symm,aj];simp[tx],[],rfl,n1.symm,KK.free (by simp) hq'',(KK.aX hp).aX (KK.free (by simp) hq''),by simp,by simp;omega,?_⟩
     rw[hs]
     cases cur with
     |nil=>exact absurd rfl hne
     |cons a r=>simp[Mm.scan]
    ·refine k2 _ ?_ KK
     rw[hs,he]
     simp[Mm.scan]
   ·have:¬(c.toNat:Int)=32:=fun z=>q32 (UInt8.toNat_inj.mp (Int.ofNat_inj.mp z))
    simp[this]
    refine⟨ty h2,c,rfl,fun hlet=> ?_,fun hlet=> ?_⟩
    ·refine⟨_,h2,by simp[lt];omega,ws,by rw[aq xZ];exact h1,cur++[c],by simp[lt],xZ,hqH,KK.aX hqH,by simp;omega,by omega,?_⟩
     rw[hs]
     simp[Mm.scan,q32,hlet]
    ·refine k2 _ ?_ KK
     rw[hs]
     simp[Mm.scan,q32,hlet]
  ·rintro σ H' ⟨v,ws,cur,q,rfl,h1,h2,xZ,hqH,KK,hc,hw,hs⟩
   have hsz:sizeLine=16777216:=rfl
   have hlen:(iv row).length=row.length:=by simp[iv]
   rw[hlen]at hc hw hs
   rw[List.drop_length]at hs
   walk_at "r1"
   walk_at "r2"
   refine⟨.inl ⟨rfl,_,bW.of h1⟩,q,cur,rfl,h2,by omega,fun hne=> ?_,fun he=> ?_⟩
   ·refine⟨_,h1,by simp[tx];omega,k1 (ws++[cur]) p _ ?_ hp (by rw[aj];simp[tx]) (KK.aX hp)⟩
    rw[hs]
    cases cur with
    |nil=>exact absurd rfl hne
    |cons a r=>simp[Mm.scan]
   ·refine k2 _ ?_ KK
    rw[hs,he]
    simp[Mm.scan]
def AU(ad:Ad):Sp:=fun vs H Q E=>∃(p:Addr)(ws:List Bytes)(a:Nat),vs=[.ref p,.int a]∧jg ad H p ws∧(∀w∈ws,w.all isLetter=true∧w.length≤100000)∧
 (∀n r H',pNum POINT ws=some (n,r)→n≠a→jg ad H' p r→Kp [p] H H'→Q (.int n) H')∧(∀H',(pNum POINT ws=none∨∃r,pNum POINT ws=some (a,r))→Kp [p] H H'→E (.ref ad.bF) none H')
theorem iG(m:Nat)(w:Bytes)(r:List Bytes):pNum m (w::r)=(tU w m).map fun n=>(n,r):=rfl
theorem Bs(T:Txt K mg ad):bA P w K mg base (wz P w (Nc ad)) 3 ad.k9 ad.fM ["pieces","point"] (AU ad):=by
 have G_number_of:=sQ (P:=P) (w:=w) (base:=base) T
 have G_Pieces_step:=oR (P:=P) (w:=w) (base:=base) T
 refine T.ji.Ap ug (fun vs H Q E h=> ?_) (fun cdv A outer s H vs Q E hr h X hX fl po=> ?_)
 ·obtain⟨p,ws,a,rfl,_⟩:=h
  rfl
 ·obtain⟨p,ws,a,rfl,hp,hg,k1,k2⟩:=h
  have nd:=ug.nd
  have hu:=a7 hr
  subst hX
  have ps:=b9.passes fl rfl
  refine⟨_,(ao (aU (i:=2) nd rfl (Or.inl rfl) (bT G_number_of (hr.mono (by decide)) rfl T.mI T.gb.kp T.iA .nil ps (ak (rK (pv 0) T.bM T.fJ G_Pieces_step (hr.mono (by decide)) T.dJ .nil ps) (ak (aE (v:=.int 4095) rfl T.nU.choose_spec ⟨_,rfl⟩) aA))))
   (ao (a6 (aV f9 (pv 2) (pv 1) (aY _))
   (au (bG fl rfl rfl ⟨T.bJ,T.bS⟩ T.bN rfl))
   aL)
   (au (aJ (pv 2))))),?_⟩
  obtain⟨dx,l,all,i,h1,h2,h3,h4⟩:=id hp
  walk_at "r1"
  simp[and_assoc,aB,aH,aO,List.lookup_nil,-List.lookup_eq_none_iff,-Bool.exists_bool,-Bool.not_eq_eq_eq_not,L2.wipe,aj,aG,h1,piF]
  refine⟨p,ws,rfl,hp,fun he=> ?_,fun x r H' hx hp' KK=> ?_⟩
  ·exact k2 _ (.inl (by rw[he];rfl)) (Kp.refl _ _)
  ·subst hx
   obtain⟨g1,g2⟩:=hg x (List.mem_cons_self ..)
   refine⟨x,4095,rfl,g1,g2,by decide,fun n hn=> ?_,fun hn=> ?_⟩
   ·simp
    refine⟨rfl,?_⟩
    by_cases q:n=a
    ·subst q
     simp
     exact k2 _ (.inr ⟨r,by rw[iG];unfold POINT;rw[hn];rfl⟩) KK
    ·have:¬(n:Int)=a:=by omega
     simp[this]
     exact k1 n r _ (by rw[iG];unfold POINT;rw[hn];rfl) q hp' KK
   ·exact k2 _ (.inl (by rw[iG];unfold POINT;rw[hn];rfl)) KK
end
theorem P0{K:PySem.W.Frag}{tl:TE}{a:Addr}{xs:List V}{g:TG}{tt:TT}{te:TE}{vs:List Nat}{σ:L2.St}{H:Hp}{Q:VK}(f:V→Option V)(h:∀Q:VK,Q (.ref a) H→tl σ H Q)(hx:bW K H a xs)(hz:xs.length≤sizeLine)
  (hs:∀(D:Addr)(i:Nat)(x:V)(H':Hp)(acc:List V)(Nx:Hp→Prop),xs[i]? =some x→H D=none→H'=upd H D (.lst acc)→(f x=none→Nx H')→(∀y,f x=some y→acc.length<sizeLine∧Nx (upd H D (.lst (acc++[y]))))→
   g x (wipe σ vs) H' fun σ2 H2=>wipe σ2 vs=wipe σ vs∧tt σ2 H2 fun b H3=>if b=true then te σ2 H3 fun y H4=>∃acc,H4 D=some (.lst acc)∧acc.length<sizeLine∧Nx (upd H4 D (.lst (acc++[y])))else Nx H3)
  (hd:∀D,H D=none→Q (.ref D) (upd H D (.lst (xs.filterMap f)))):QS (Je K tl) g tt te vs σ H Q:=by
 refine h _ ⟨a,rfl,⟨xs,hx⟩,fun D hD=>IV (K:=K) (a:=a) (xs:=xs) (fun i H'=>H'=upd H D (.lst ((xs.take i).filterMap f))) ?_ (fun i H' _ e=> ?_) (fun i x H' hi e=> ?_) fun H' e=> ?_⟩
 ·simp
 ·rw[e]
  have:∀{u:HO},Rd H a u→Rd (upd H D (.lst ((xs.take i).filterMap f))) a u:=fun r=>by
   rcases r with r |⟨o,r⟩
   ·exact .inl (by rw[aq (aD r hD)];exact r)
   ·exact .inr ⟨o,by rw[aq (aD r hD)];exact r⟩
  exact hx.imp this id
 ·have hil:i<xs.length:=(List.getElem?_eq_some_iff.mp hi).1
  have et:xs.take (i+1)=xs.take i++[x]:=by rw[List.take_add_one,hi];rfl
  refine hs D i x H' _ _ hi hD e (fun hf=> ?_) (fun y hf=>⟨?_,?_⟩)
  ·rw[e,et,List.filterMap_append]
   simp[hf]
  ·refine Nat.lt_of_le_of_lt (List.length_filterMap_le _ _) ?_
   rw[List.length_take]
   omega
  ·rw[et,List.filterMap_append]
   simp[hf]
 ·rw[e,List.take_length]
  exact hd D hD
section
variable{P:Program}{w:World}{K:PySem.W.Frag}{mg:Str→Option Value}{base:Heap}{ad:Ad}
def z6(ad:Ad):Sp:=fun vs H Q E=>∃(p:Addr)(ws:List Bytes)(isHold:Bool)(kd:Str)(fr:Nat),vs=[.ref p,.str kd,.int fr]∧(kd=Str.ofString "hold"↔isHold=true)∧jg ad H p ws∧(∀w∈ws,w.all isLetter=true∧w.length≤100000)∧
 (∀u r H',pEnd isHold fr ws=some (u,r)→jg ad H' p r→Kp [p] H H'→Q (match u with |some d=>.int (d:Nat)|none=>.non) H')∧(∀H',pEnd isHold fr ws=none→Kp [p] H H'→E (.ref ad.bF) none H')
theorem Ac(T:Txt K mg ad):bA P w K mg base (wz P w (Nc ad)) 3 ad.jV ad.eI ["pieces","kind","first_day"] (z6 ad):=by
 have G_number_of:=sQ (P:=P) (w:=w) (base:=base) T
 have G_Pieces_step:=oR (P:=P) (w:=w) (base:=base) T
 have G_Pieces_skip:=oS (P:=P) (w:=w) (base:=base) T
 refine T.iD.Ap tO (fun vs H Q E h=> ?_) (fun cdv A outer s H vs Q E hr h X hX fl po=> ?_)
 ·obtain⟨p,ws,ih,kd,fr,rfl,_⟩:=h
  rfl
 ·obtain⟨p,ws,ih,kd,fr,rfl,hk,hp,hg,k1,k2⟩:=h
  have nd:=tO.nd
  have hu:=a7 hr
  subst hX
  have ps:=b9.passes fl rfl
  refine⟨_,(ao (a6 (gk (nM (pv 0) T.bM T.jT G_Pieces_skip (hr.mono (by decide)) T.gM .nil bh (ak sO aA)))
   (ao (aU (i:=3) nd rfl (Or.inl rfl) (bT G_number_of (hr.mono (by decide)) rfl T.mI T.gb.kp T.iA .nil ps (ak (rK (pv 0) T.bM T.fJ G_Pieces_step (hr.mono (by decide)) T.dJ .nil ps) (ak (aE (v:=.int 1000000) rfl T.tu.choose_spec ⟨_,rfl⟩) aA))))
   (ao (a6 (aV kF (pv 3) (pv 2) (aY _))
   (au (bG fl rfl rfl ⟨T.bJ,T.bS⟩ T.bN rfl))
   aL)
   (au (aJ (pv 3)))))
   aL)
   (ao (a6 (aV f9 (pv 1) (aE (v:=.str "hold") rfl T.HB.choose_spec ⟨_,rfl⟩) (aY _))
   (au (bG fl rfl rfl ⟨T.bJ,T.bS⟩ T.bN rfl))
   aL)
   (au (aJ sP)))),?_⟩
  obtain⟨dx,l,all,i,h1,h2,h3,h4⟩:=id hp
  walk_at "r1"
  simp[and_assoc,aB,aH,aO,List.lookup_nil,-List.lookup_eq_none_iff,-Bool.exists_bool,-Bool.not_eq_eq_eq_not,L2.wipe,aj,aG,h1,piF]
  refine⟨p,ws,m7,rfl,hp,fun hne=> ?_,fun r H' hr hp' KK=> ?_⟩
  ·simp
   have e:pEnd ih fr ws=if ih=true then none else some (none,ws):=by
    cases ws with
    |nil=>rfl
    |cons x r=>
     have:¬x=m7:=fun z=>hne (by rw[z];rfl)
     simp[pEnd,this]
   refine⟨rfl,?_⟩
   by_cases q:kd=Str.ofString "hold"
   ·simp[q]
    exact k2 _ (by rw[e,if_pos (hk.mp q)]) (Kp.refl _ _)
   ·simp[q]
    exact k1 none ws H (by rw[e,if_neg (fun z=>q (hk.mpr z))]) hp (Kp.refl _ _)
  ·subst hr
   have e:pEnd ih fr (m7::r)=(pNum DAY r).bind fun x=>if x.1≤fr then none else some (some x.1,x.2):=by simp[pEnd]
   obtain⟨dx',l',all',i',h1',_⟩:=id hp'
   simp[and_assoc,aB,aH,aO,List.lookup_nil,-List.lookup_eq_none_iff,-Bool.exists_bool,-Bool.not_eq_eq_eq_not,L2.wipe,aj,aG,h1',piF]
   refine⟨p,r,rfl,hp',fun he=> ?_,fun x r2 H2 hx hp2 KK2=> ?_⟩
   ·exact k2 _ (by rw[e,he];rfl) KK
   ·subst hx
    obtain⟨g1,g2⟩:=hg x (by simp)
    refine⟨x,1000000,rfl,g1,g2,Nat.le_refl _,fun n hn=> ?_,fun hn=> ?_⟩
    ·have en:pNum DAY (x::r2)=some (n,r2):=by rw[iG];unfold DAY;rw[hn];rfl
     simp
     by_cases q:n≤fr
     ·rw[if_pos q]
      exact k2 _ (by rw[e,en];simp[q]) (KK.trans KK2)
     ·rw[if_neg q]
      exact k1 (some n) r2 _ (by rw[e,en];simp[q]) hp2 (KK.trans KK2)
    ·exact k2 _ (by rw[e,iG];unfold DAY;rw[hn];rfl) (KK.trans KK2)
def wU:V→Option V
 | .str y=>some (.bl (decide (32<y.length)))
 |_=>none
theorem KW{b:List Bytes}{i:Nat}{x:V}(h:(tx b)[i]? =some x):∃c,b[i]? =some c∧x= .str (bs c):=by
 unfold tx at h
 rw[List.getElem?_map]at h
 cases e:b[i]? with
 |none=>rw[e]at h;cases h
 |some c=>rw[e]at h;exact⟨c,rfl,(Option.some.inj h).symm⟩
theorem jg.keep{H:Hp}{p D:Addr}{ws:List Bytes}{o:HO}(h:jg ad H p ws)(hD:H D=none):jg ad (upd H D o) p ws:=by
 obtain⟨dx,l,all,i,h1,h2,h3,h4⟩:=h
 exact⟨dx,l,all,i,by rw[aq (aD h1 hD)];exact h1,by rw[aq (aD h2 hD)];exact h2,h3,h4⟩
def Cr(ad:Ad):Sp:=fun vs H Q E=>∃(p:Addr)(ws:List Bytes),vs=[.ref p]∧jg ad H p ws∧(∀w∈ws,w.length≤100000)∧
 (ws.head?≠some kFor→Q .non H)∧
 (∀r l H',ws=kFor::r→1≤r.length→r.length≤8→r.all (fun v=>decide (v.length≤32))=true→jg ad H' p []→H l=none→H' l=some (.lst (tx r))→Kp [p] H H'→Q (.ref l) H')∧
 (∀r H',ws=kFor::r→¬(1≤r.length∧r.length≤8∧r.all (fun v=>decide (v.length≤32))=true)→Kp [p] H H'→E (.ref ad.bF) none H')
theorem Cw(T:Txt K mg ad):bA P w K mg base (wz P w (Nc ad)) 3 ad.nQ ad.gK ["pieces"] (Cr ad):=by
 have G_Pieces_rest:=Bu (P:=P) (w:=w) (base:=base) T
 have G_Pieces_skip:=oS (P:=P) (w:=w) (base:=base) T
 refine T.j7.Ap v3 (fun vs H Q E h=> ?_) (fun cdv A outer s H vs Q E hr h X hX fl po=> ?_)
 ·obtain⟨p,ws,rfl,_⟩:=h
  rfl
 ·obtain⟨p,ws,rfl,hp,hg,k0,k1,k2⟩:=h
  have nd:=v3.nd
  have hu:=a7 hr
  subst hX
  have ps:=b9.passes fl rfl
  refine⟨_,(ao (a6 (oO (gk (nM (pv 0) T.bM T.jT G_Pieces_skip (hr.mono (by decide)) T.gM .nil bh (ak sO aA))))
   (au (aJ sP))
   aL)
   (ao (aU (i:=1) nd rfl (Or.inl rfl) (bI (pv 0) T.bM T.uR G_Pieces_rest (hr.mono (by decide)) T.lN .nil bh))
   (ao (a6 (oO (uL kF kF qS (a9 (a8 (K:=K) rfl) (by rfl) T.c9 PySem.boot_len (ak (pv 1) aA)) (aE (v:=.int 8) rfl T.pB.choose_spec ⟨_,rfl⟩)))
   (au (bG fl rfl rfl ⟨T.bJ,T.bS⟩ T.bN rfl))
   aL)
   (ao (a6 (gk (a9 (Hw rfl) (by rfl) T.Eu PyProof.Rows.boot_any (ak (II rfl nd (gS (pv 1)) (pE ["pieces","words","word"] (aC nL) [("word",2)] (by decide +kernel)) (fun _ _ _ _ _=>(bY (i:=2) nd rfl (Or.inl rfl))) (fun _ _ _ _ _=>xQ) (fun _ _ _ _ _=>(nN v8 (a9 (a8 (K:=K) rfl) (by rfl) T.c9 PySem.boot_len (ak (pv 2) aA)) (aE (v:=.int 32) rfl T.pD.choose_spec ⟨_,rfl⟩) (aY _)))) aA)))
   (au (bG fl rfl rfl ⟨T.bJ,T.bS⟩ T.bN rfl))
   aL)
   (au (aJ (pv 1))))))),?_⟩
  obtain⟨dx,l,all,i,h1,h2,h3,h4⟩:=id hp
  walk_at "r1"
  simp[and_assoc,aB,aH,aO,List.lookup_nil,-List.lookup_eq_none_iff,-Bool.exists_bool,-Bool.not_eq_eq_eq_not,L2.wipe,aj,aG,h1,piF]
  refine⟨p,ws,kFor,rfl,hp,fun hne=> ?_,fun r H' hr hp' KK=> ?_⟩
  ·simpa using k0 hne
  ·subst hr
   obtain⟨dx',l',all',i',h1',_⟩:=id hp'
   simp[and_assoc,aB,aH,aO,List.lookup_nil,-List.lookup_eq_none_iff,-Bool.exists_bool,-Bool.not_eq_eq_eq_not,L2.wipe,aj,aG,h1',piF]
   refine⟨p,r,rfl,hp',fun q H2 hp2 hq hq2 KK2=> ?_⟩
   have KK3:=KK.trans KK2
   have hlen:pJ K (.ref q) H2 r.length:=by have:=dF (K:=K) hq2;simpa[tx]using this
   refine⟨_,hlen,?_⟩
   have hsz:sizeLine=16777216:=rfl
   by_cases c1:1≤r.length
   ·rw[if_pos (by omega)]
    by_cases c8:r.length≤8
    ·have e8:(!decide ((r.length:Int)≤8))=false:=by simp;omega
     rw[e8,if_neg (by simp)]
     refine P0 (a:=q) (xs:=tx r) wU (fun Q q=>⟨_,rfl,q⟩) (bW.of hq2) (by simp[tx];omega) (fun D j x H3 acc Nx hj hD e kn ky=> ?_) fun D hD=> ?_
     ·obtain⟨y,hy,rfl⟩:=KW hj
      obtain⟨ka,kb⟩:=ky (.bl (decide (32<(bs y).length))) rfl
      have hy':=hg y (List.mem_cons_of_mem _ (List.mem_of_getElem? hy))
      subst e
      walk_at "r1"
      walk_at "r2"
      refine⟨_,⟨by rw[fD];omega,rfl⟩,ka,?_⟩
      have e:decide ((32:Int)<((bs y).length:Nat))=decide (32<(bs y).length):=by simp;omega
      rw[e]
      exact kb
     ·have ef:(tx r).filterMap wU=(r.map fun w=>decide (32<w.length)).map V.bl:=by
       unfold tx
       rw[List.filterMap_map,List.map_map]
       rw[←List.filterMap_eq_map]
       congr 1
       funext y
       simp[wU,fD]
      refine⟨D,rfl,_,bW.of (by rw[aj,ef]),?_⟩
      have KK4:Kp [p] H (upd H2 D (.lst ((tx r).filterMap wU))):=KK3.trans (Kp.new hD)
      by_cases ca:true∈r.map fun w=>decide (32<w.length)
      ·rw[if_pos ca]
       refine k2 r _ rfl (fun z=> ?_) KK4
       simp at ca
       obtain⟨y,hy,hy2⟩:=ca
       have:=List.all_eq_true.mp z.2.2 y hy
       simp at this
       omega
      ·rw[if_neg ca]
       have nq:q≠D:=aD hq2 hD
       have hqH:H q=none:=by
        cases eq:H q with
        |none=>rfl
        |some o=>
         by_cases qp:q=p
         ·subst qp;rw[h1']at hq;cases hq
         ·rw[KK q o eq (by simpa using qp)]at hq;cases hq
       refine k1 r q _ rfl c1 c8 ?_ (hp2.keep hD) hqH (by rw[aq nq];exact hq2) KK4
       rw[List.all_eq_true]
       intro y hy
       simp
       simp at ca
       have:=ca y hy
       omega
    ·have e8:(!decide ((r.length:Int)≤8))=true:=by simp;omega
     rw[e8,if_pos rfl]
     exact k2 r _ rfl (fun z=>c8 z.2.1) KK3
   ·rw[if_neg (by omega)]
    exact k2 r _ rfl (fun z=>c1 z.1) KK3
end
def kdS:What→Str
 | .move _ _=>Str.ofString "move"
 | .hold=>Str.ofString "hold"
 | .halt_=>Str.ofString "stop"
def QR:What→V
 | .move b _=>.int (b:Nat)
 |_=>.non
def NT:What→V
 | .move _ o=>.bl o
 |_=>.bl false
def NK:Option Nat→V
 |some d=>.int (d:Nat)
 |none=>.non
def Gr(H:Hp)(f:Option (List Word))(v:V):Prop:=match f with
 |none=>v= .non
 |some ws=>∃l,v= .ref l∧H l=some (.lst (tx ws))
def tK(ad:Ad)(H:Hp)(a:Addr)(x:Line)(num:V):Prop:=∃dx wv,H a=some (.ins ad.b6 dx (pI num (.str (kdS x.what)) (.int x.at_) (QR x.what) (.int x.from_) (NK x.until_) (NT x.what) wv))∧Gr H x.for_ wv
theorem nJ{t u:TS}{D:Ends}{σ:L2.St}{H:Hp}(M:L2.St→Hp→Prop)(h1:∀R:L2.St→Hp→Prop,(∀σ H,M σ H→R σ H)→t { D with nx:=R } σ H)(h2:∀σ H,M σ H→u D σ H):NU t u D σ H:=h1 _ h2
def New(H H':Hp):Hp:=fun b=>if(H b).isSome=true then none else H' b
theorem Aq{H H':Hp}{b:Addr}{o:HO}(h:New H H' b=some o):H b=none∧H' b=some o:=by
 unfold New at h
 cases e:H b with
 |none=>rw[e]at h;exact⟨rfl,h⟩
 |some u=>rw[e]at h;cases h
theorem Et{H H':Hp}{b:Addr}{o:HO}(h:H b=none)(h':H' b=some o):New H H' b=some o:=by
 unfold New
 rw[h]
 exact h'
theorem Gr.same{H H':Hp}{f:Option (List Word)}{v:V}(h:Gr H f v)(s:Same H H'):Gr H' f v:=by
 cases f with
 |none=>exact h
 |some ws=>
  obtain⟨l,e1,e2⟩:=h
  exact⟨l,e1,s l _ e2⟩
theorem tK.same{ad:Ad}{H H':Hp}{a:Addr}{x:Line}{num:V}(h:tK ad H a x num)(s:Same H H'):tK ad H' a x num:=by
 obtain⟨dx,wv,h1,h2⟩:=h
 exact⟨dx,wv,s a _ h1,h2.same s⟩
theorem Kp.qD{H H1 H2:Hp}{p:Addr}(a:Kp [] H H1)(hp:H p=none)(b:Kp [p] H1 H2):Kp [] H H2:=fun c o e _=>b c o (a c o e (by simp)) (by
 intro z
 rw[List.mem_singleton.mp z,hp]at e
 cases e)
theorem scan_len:∀(b:Bytes)(ps:List Bytes)(cur:Bytes)(ws:List Bytes),Mm.scan ps cur b=some ws→(∀y∈ps,y.length≤100000)→cur.length+b.length≤100000→∀y∈ws,y.length≤100000
 |[],ps,cur,ws,h,hp,hc=>by
  unfold Mm.scan at h
  split at h
  ·cases h
  ·cases h
   intro y hy
   rcases List.mem_append.mp hy with hy |hy
   ·exact hp y hy
   ·rw[List.mem_singleton.mp hy];simp at hc;omega
 |c::r,ps,cur,ws,h,hp,hc=>by
  unfold Mm.scan at h
  split at h
  ·split at h
   ·cases h
   ·refine scan_len r _ [] ws h (fun y hy=> ?_) (by simp at hc ⊢;omega)
    rcases List.mem_append.mp hy with hy |hy
    ·exact hp y hy
    ·rw[List.mem_singleton.mp hy];simp at hc;omega
  ·split at h
   ·exact scan_len r ps _ ws h hp (by simp at hc ⊢;omega)
   ·cases h
theorem JX{row:Bytes}{ws:List Bytes}(h:Mm.scan [] [] row=some ws)(hz:row.length≤100000):∀y∈ws,y.all isLetter=true∧y.length≤100000:=by
 intro y hy
 refine⟨?_,scan_len row [] [] ws h (by simp) (by simpa using hz) y hy⟩
 rw[D7]at h
 unfold piecesOf at h
 split at h
 ·rename_i hg
  cases h
  have:=List.all_eq_true.mp hg y hy
  unfold goodW at this
  rw[Bool.and_eq_true]at this
  exact this.2
 ·cases h
theorem jg.line{ad:Ad}{H:Hp}{p a dx:Addr}{ws:List Bytes}{fs:List (Str×V)}{o:HO}(h:jg ad H p ws)(ha:H a=some (.ins ad.b6 dx fs))(n:a≠p):jg ad (upd H a o) p ws:=by
 obtain⟨dx,l,all,i,h1,h2,h3,h4⟩:=h
 exact⟨dx,l,all,i,by rw[aq n.symm];exact h1,by rw[aq (cO h2 ha (by intro z;cases z))];exact h2,h3,h4⟩
theorem Mz{b:Bool}{fr:Nat}{r r':List Bytes}{u:Option Nat}(h:pEnd b fr r=some (u,r')):∀y∈r',y∈r:=by
 cases r with
 |nil=>
  simp only[pEnd]at h
  split at h
  ·cases h
  ·cases h;intro y hy;exact hy
 |cons x r=>
  simp only[pEnd]at h
  split at h
  ·cases hp:pNum DAY r with
   |none=>rw[hp]at h;cases h
   |some z=>
    rw[hp]at h
    simp only[Option.bind_some]at h
    split at h
    ·cases h
    ·cases h
     intro y hy
     rw[(eB hp).1]
     simp[hy]
  ·split at h
   ·cases h
   ·cases h;intro y hy;exact hy
theorem J6{b:Bool}{r:List Bytes}:∀y∈(fE b r).2,y∈r:=by
 intro y hy
 cases r with
 |nil=>exact hy
 |cons x r=>
  simp only[fE]at hy
  split at hy
  ·exact List.mem_cons_of_mem _ hy
  ·exact hy
section
variable{P:Program}{w:World}{K:PySem.W.Frag}{mg:Str→Option Value}{base:Heap}{ad:Ad}
def DY(ad:Ad):Sp:=fun vs H Q E=>∃(l:Addr)(row:Bytes),vs=[.ref l]∧H l=some (.lst (iv row))∧row.length≤100000∧
 (∀x a H',lineIn row=some x→tK ad (New H H') a x .non→Kp [] H H'→Q (.ref a) H')∧(∀H',lineIn row=none→Kp [] H H'→E (.ref ad.bF) none H')
theorem El(T:Txt K mg ad):bA P w K mg base (wz P w (Nc ad)) 4 ad.pW ad.iK ["row"] (DY ad):=by
 have G_pieces_of:=Em (P:=P) (w:=w) (base:=base) T
 have G_Pieces_init:=Bv (P:=P) (w:=w) (base:=base) T
 have G_Pieces_step:=oR (P:=P) (w:=w) (base:=base) T
 have G_Pieces_skip:=oS (P:=P) (w:=w) (base:=base) T
 have G_Pieces_at_end:=kN (P:=P) (w:=w) (base:=base) T
 have G_Line_init:=Eo (P:=P) (w:=w) (base:=base) T
 have G_number_of:=sQ (P:=P) (w:=w) (base:=base) T
 have G_read_target:=Bs (P:=P) (w:=w) (base:=base) T
 have G_read_end_day:=Ac (P:=P) (w:=w) (base:=base) T
 have G_read_words:=Cw (P:=P) (w:=w) (base:=base) T
 refine T.mU.Ap xH (fun vs H Q E h=> ?_) (fun cdv A outer s H vs Q E hr h X hX fl po=> ?_)
 ·obtain⟨l,row,rfl,_⟩:=h
  rfl
 ·obtain⟨l,row,rfl,hl,hz,k1,k2⟩:=h
  have nd:=xH.nd
  have hu:=a7 hr
  subst hX
  have ps:=b9.passes fl rfl
  refine⟨_,(ao (aU (i:=1) nd rfl (Or.inl rfl) (vH T.Dj G_Pieces_init (hr.mono (by decide)) rfl T.Dl T.lO .nil bh (ak (bT G_pieces_of (hr.mono (by decide)) rfl T.zS T.mV.kp T.qm .nil ps (ak (pv 0) aA)) aA)))
   (ao (aU (i:=2) nd rfl (Or.inl rfl) (rK (pv 1) T.bM T.fJ G_Pieces_step (hr.mono (by decide)) T.dJ .nil ps))
   (ao (a6 (aV Ej (pv 2) (aE (v:=.ref ad.sG) rfl T.Jf rfl) (by with_unfolding_all rfl))
   (au (bG fl rfl rfl ⟨T.bJ,T.bS⟩ T.bN rfl))
   aL)
   (ao (aU (i:=3) nd rfl (Or.inl rfl) (vH T.IQ G_Line_init (hr.mono (by decide)) rfl T.IT T.qu .nil bh (ak (pv 2) (ak (bT G_number_of (hr.mono (by decide)) rfl T.mI T.gb.kp T.iA .nil ps (ak (rK (pv 1) T.bM T.fJ G_Pieces_step (hr.mono (by decide)) T.dJ .nil ps) (ak (aE (v:=.int 4095) rfl T.nU.choose_spec ⟨_,rfl⟩) aA))) aA))))
   (ao (a6 (aV f9 (pv 2) (aE (v:=.str "move") rfl T.wZ.choose_spec ⟨_,rfl⟩) (aY _))
   (au (bR (pv 3) (bT G_read_target (hr.mono (by decide)) rfl T.wg T.ji.kp T.lL .nil ps (ak (pv 1) (ak (aM (pv 3) rfl) aA))) rfl))
   aL)
   (ao (bR (pv 3) (bT G_number_of (hr.mono (by decide)) rfl T.mI T.gb.kp T.iA .nil ps (ak (rK (pv 1) T.bM T.fJ G_Pieces_step (hr.mono (by decide)) T.dJ .nil ps) (ak (aE (v:=.int 1000000) rfl T.tu.choose_spec ⟨_,rfl⟩) aA))) rfl)
   (ao (bR (pv 3) (bT G_read_end_day (hr.mono (by decide)) rfl T.uW T.iD.kp T.j3 .nil ps (ak (pv 1) (ak (pv 2) (ak (aM (pv 3) rfl) aA)))) rfl)
   (ao (a6 (aV f9 (pv 2) (aE (v:=.str "move") rfl T.wZ.choose_spec ⟨_,rfl⟩) (aY _))
   (au (bR (pv 3) (nM (pv 1) T.bM T.jT G_Pieces_skip (hr.mono (by decide)) T.gM .nil bh (ak sO aA)) rfl))
   aL)
   (ao (bR (pv 3) (bT G_read_words (hr.mono (by decide)) rfl T.yc T.j7.kp T.nW .nil ps (ak (pv 1) aA)) rfl)
   (ao (a6 (oO (gk (bI (pv 1) T.bM T.iI G_Pieces_at_end (hr.mono (by decide)) T.eT .nil bh)))
   (au (bG fl rfl rfl ⟨T.bJ,T.bS⟩ T.bN rfl))
   aL)
   (au (aJ (pv 3))))))))))))),?_⟩
  refine nJ (fun σ H1=>∃p ws,σ=[some (.ref l),some (.ref p),none,none]∧scan [] [] row=some ws∧jg ad H1 p ws∧H p=none∧Kp [] H H1) (fun R hR=> ?_) ?_
  ·
   walk_at "r1"
   walk_at "r2"
   refine⟨l,row,rfl,hl,hz,fun ws q H1 hs hq hq1 KK=> ?_,fun H1 hs KK=>k2 _ (by rw[Dr,←D7,hs];rfl) KK⟩
   intro x dx hx hdx nd2
   have hxH:=KK.free (by simp) hx
   have hdxH:=KK.free (by simp) hdx
   refine⟨x,dx,q,rfl,by simp[aj],rfl,?_⟩
   rw[aG]
   refine hR _ _ ⟨x,ws,rfl,hs,⟨dx,q,ws,0,aj,?_,Nat.zero_le _,rfl⟩,hxH,(KK.aX hdxH).aX hxH⟩
   rw[aq (aD hq1 hx),aq (aD hq1 hdx)]
   exact hq1
  rintro σ H1 ⟨p,ws,rfl,hs,hp,hpH,KK1⟩
  have hgood:∀y∈ws,y.all isLetter=true∧y.length≤100000:=JX hs hz
  have hlin:lineIn row=parse ws:=by rw[Dr,←D7,hs];rfl
  refine nJ (fun σ H2=>∃k r,σ=[some (.ref l),some (.ref p),some (.str (bs k)),none]∧ws=k::r∧jg ad H2 p r∧Kp [] H H2) (fun R hR=> ?_) ?_
  ·
   obtain⟨dx,q,all,i,h1,h2,h3,h4⟩:=id hp
   walk_at "r1"
   simp[and_assoc,aB,aH,aO,List.lookup_nil,-List.lookup_eq_none_iff,-Bool.exists_bool,-Bool.not_eq_eq_eq_not,L2.wipe,aj,aG,h1,piF]
   refine⟨p,ws,rfl,hp,fun he=>k2 _ (by rw[hlin,he];rfl) KK1,fun k r H2 hk hp2 KK2=> ?_⟩
   exact hR _ _ ⟨k,r,rfl,hk,hp2,KK1.qD hpH KK2⟩
  rintro σ H2 ⟨k,r,rfl,rfl,hpB,KK2⟩
  clear hp
  refine nJ (fun σ H3=>σ=[some (.ref l),some (.ref p),some (.str (bs k)),none]∧H3=H2∧(k=dY∨k=iY∨k=mJ)) (fun R hR=> ?_) ?_
  ·
   walk_at "r1"
   walk_at "r2"
   refine⟨_,.inr (T.sG _),rfl,by simp[mK],?_⟩
   have e1:Str.ofString "move"=bs dY:=rfl
   have e2:Str.ofString "hold"=bs iY:=rfl
   have e3:Str.ofString "stop"=bs mJ:=rfl
   by_cases c:k=dY∨k=iY∨k=mJ
   ·have:inV (.str (bs k)) [V.str (Str.ofString "move"),V.str (Str.ofString "hold"),V.str (Str.ofString "stop")]=true:=by
     rcases c with rfl |rfl |rfl<;>decide +kernel
    rw[this]
    exact hR _ _ ⟨rfl,rfl,c⟩
   ·have:inV (.str (bs k)) [V.str (Str.ofString "move"),V.str (Str.ofString "hold"),V.str (Str.ofString "stop")]=false:=by
     unfold inV
     simp only[List.any_cons,List.any_nil,Jk,e1,e2,e3,Bool.or_false,Bool.or_eq_false_iff,beq_eq_false_iff_ne,ne_eq,w8]
     exact⟨fun z=>c (.inl z.symm),fun z=>c (.inr (.inl z.symm)),fun z=>c (.inr (.inr z.symm))⟩
    rw[this]
    refine k2 _ ?_ KK2
    rw[hlin]
    have c1:¬k=dY:=fun z=>c (.inl z)
    have c2:¬k=iY:=fun z=>c (.inr (.inl z))
    have c3:¬k=mJ:=fun z=>c (.inr (.inr z))
    simp[parse,c1,c2,c3]
  rintro σ H3 ⟨rfl,rfl,hk⟩
  refine nJ (fun σ H4=>∃a dx n r1,σ=[some (.ref l),some (.ref p),some (.str (bs k)),some (.ref a)]∧pNum POINT r=some (n,r1)∧H4 a=some (.ins ad.b6 dx (pI .non (.str (bs k)) (.int (n:Nat)) .non .non .non (.bl false) .non))∧jg ad H4 p r1∧H a=none∧a≠p∧Kp [] H H4) (fun R hR=> ?_) ?_
  ·obtain⟨dx,q,all,i,h1,h2,h3,h4⟩:=id hpB
   walk_at "r1"
   simp[and_assoc,aB,aH,aO,List.lookup_nil,-List.lookup_eq_none_iff,-Bool.exists_bool,-Bool.not_eq_eq_eq_not,L2.wipe,aj,aG,h1,piF]
   have nop:pNum POINT r=none→lineIn row=none:=fun z=>by
    rw[hlin]
    rcases hk with rfl |rfl |rfl
    ·simp[parse,z]
    ·have:¬iY=dY:=by decide
     simp[parse,z,this]
    ·have h1:¬mJ=dY:=by decide
     have h2:¬mJ=iY:=by decide
     simp[parse,z,h1,h2]
   refine⟨p,r,rfl,hpB,fun he=>k2 _ (nop (by rw[he];rfl)) KK2,fun x r1 H4 hx hp4 KK4=> ?_⟩
   subst hx
   obtain⟨g1,g2⟩:=hgood x (by simp)
   have KK5:=KK2.qD hpH KK4
   refine⟨x,4095,rfl,g1,g2,by decide,fun n hn=> ?_,fun hn=>k2 _ (nop (by rw[iG];unfold POINT;rw[hn];rfl)) KK5⟩
   intro a dx' ha hdx' nad
   have haH:=KK5.free (by simp) ha
   have hdH:=KK5.free (by simp) hdx'
   refine⟨a,dx',bs k,n,rfl,aj,rfl,?_⟩
   rw[aG]
   have nap:a≠p:=fun z=>by obtain⟨_,_,_,_,y,_⟩:=hp4;rw[z,y]at ha;cases ha
   refine hR _ _ ⟨a,dx',n,r1,rfl,by rw[iG];unfold POINT;rw[hn];rfl,aj,jg.keep (hp4.keep hdx') ?_,haH,nap,(KK5.aX hdH).aX haH⟩
   rw[aq (fun z=>nad z.symm)]
   exact ha
  rintro σ H4 ⟨a,dx,n,r1,rfl,hn,ha,hpC,haH,nap,KK4⟩
  clear hpB
  have ne1:¬iY=dY:=by decide
  have ne1':¬dY=iY:=by decide
  have ne2:¬mJ=dY:=by decide
  have ne3:¬mJ=iY:=by decide
  have eM:Str.ofString "move"=bs dY:=rfl
  have eH:Str.ofString "hold"=bs iY:=rfl
  have hgr:∀y∈r1,y.all isLetter=true∧y.length≤100000:=fun y hy=>hgood y (by
   have:=(eB hn).1
   rw[this]
   simp[hy])
  refine nJ (fun σ H5=>∃(mk:Bool→What)(tg:V)(r2:List Bytes),σ=[some (.ref l),some (.ref p),some (.str (bs k)),some (.ref a)]∧H5 a=some (.ins ad.b6 dx (pI .non (.str (bs k)) (.int (n:Nat)) tg .non .non (.bl false) .non))∧jg ad H5 p r2∧Kp [] H H5∧(∀y∈r2,y∈r1)∧
    (∀o,kdS (mk o)=bs k∧QR (mk o)=tg)∧(k=dY→∀o,NT (mk o)= .bl o)∧(k≠dY→∀o,NT (mk o)= .bl false)∧
    parse (k::r)=(pNum DAY r2).bind fun z=>(xT (decide (k=iY)) (decide (k=dY)) z.1 z.2).map fun t=>⟨mk t.2.1,n,z.1,t.1,t.2.2⟩) (fun R hR=> ?_) ?_
  ·skip
   walk_at "r1"
   simp[and_assoc,aB,aH,aO,List.lookup_nil,-List.lookup_eq_none_iff,-Bool.exists_bool,-Bool.not_eq_eq_eq_not,L2.wipe,aj,aG,ha,T.bD,T.kY,T.iy,pI,eM,w8]
   refine⟨rfl,?_⟩
   by_cases c:k=dY
   ·subst c
    rw[if_pos rfl]
    refine⟨p,r1,n,rfl,hpC,hgr,fun b r2 H5 hb hbn hp5 KK5=> ?_,fun H5 hno KK5=> ?_⟩
    ·have ha5:=KK5 a _ ha (by simpa using nap)
     simp[and_assoc,aB,aH,aO,List.lookup_nil,-List.lookup_eq_none_iff,-Bool.exists_bool,-Bool.not_eq_eq_eq_not,L2.wipe,aj,aG,ha5,T.bD,T.iy,pI]
     refine hR _ _ ⟨fun o=>.move b o,.int (b:Nat),r2,rfl,aj,?_,(KK4.qD hpH KK5).aX haH,fun y hy=> ?_,fun o=>⟨rfl,rfl⟩,fun _ o=>rfl,fun z=>absurd rfl z,?_⟩
     ·obtain⟨dx',q',all',i',h1,h2,h3,h4⟩:=hp5
      refine⟨dx',q',all',i',by rw[aq nap.symm];exact h1,?_,h3,h4⟩
      rw[aq (cO h2 ha5 (by intro z;cases z))]
      exact h2
     ·rw[(eB hb).1];simp[hy]
     ·simp[parse,hn,hb,hbn,ne1']
    ·refine k2 _ ?_ (KK4.qD hpH KK5)
     rw[hlin]
     rcases hno with hno |⟨r2,hno⟩
     ·simp[parse,hn,hno]
     ·simp[parse,hn,hno]
   ·rw[if_neg c]
    have hk2:k=iY∨k=mJ:=hk.resolve_left c
    rcases hk2 with rfl |rfl
    ·exact hR _ _ ⟨fun _=>.hold,.non,r1,rfl,ha,hpC,KK4,fun y hy=>hy,fun o=>⟨rfl,rfl⟩,fun z=>absurd z c,fun _ o=>rfl,by simp[parse,hn,ne1]⟩
    ·exact hR _ _ ⟨fun _=>.halt_,.non,r1,rfl,ha,hpC,KK4,fun y hy=>hy,fun o=>⟨rfl,rfl⟩,fun z=>absurd z c,fun _ o=>rfl,by simp[parse,hn,ne2,ne3]⟩
  rintro σ H5 ⟨mk,tg,r2,rfl,ha,hpD,KK5,hr2,hmk,htm,htn,hpar⟩
  clear hpC
  have hgr2:∀y∈r2,y.all isLetter=true∧y.length≤100000:=fun y hy=>hgr y (hr2 y hy)
  refine nJ (fun σ H6=>∃(fr:Nat)(r3:List Bytes),σ=[some (.ref l),some (.ref p),some (.str (bs k)),some (.ref a)]∧H6 a=some (.ins ad.b6 dx (pI .non (.str (bs k)) (.int (n:Nat)) tg (.int (fr:Nat)) .non (.bl false) .non))∧jg ad H6 p r3∧Kp [] H H6∧pNum DAY r2=some (fr,r3)) (fun R hR=> ?_) ?_
  ·
   obtain⟨dx',q,all,i,h1,h2,h3,h4⟩:=id hpD
   have nop:pNum DAY r2=none→lineIn row=none:=fun z=>by rw[hlin,hpar,z];rfl
   walk_at "r1"
   simp[and_assoc,aB,aH,aO,List.lookup_nil,-List.lookup_eq_none_iff,-Bool.exists_bool,-Bool.not_eq_eq_eq_not,L2.wipe,aj,aG,h1,piF]
   refine⟨p,r2,rfl,hpD,fun he=>k2 _ (nop (by rw[he];rfl)) KK5,fun x r3 H6 hx hp6 KK6=> ?_⟩
   subst hx
   obtain⟨g1,g2⟩:=hgr2 x (by simp)
   have KK7:=KK5.qD hpH KK6
   refine⟨x,1000000,rfl,g1,g2,Nat.le_refl _,fun fr hfr=> ?_,fun hn=>k2 _ (nop (by rw[iG];unfold DAY;rw[hn];rfl)) KK7⟩
   have ha6:=KK6 a _ ha (by simpa using nap)
   simp[and_assoc,aB,aH,aO,List.lookup_nil,-List.lookup_eq_none_iff,-Bool.exists_bool,-Bool.not_eq_eq_eq_not,L2.wipe,aj,aG,ha6,T.bD,T.cV,pI]
   exact hR _ _ ⟨fr,r3,rfl,aj,hp6.line ha6 nap,KK7.aX haH,by rw[iG];unfold DAY;rw[hfr];rfl⟩
  rintro σ H6 ⟨fr,r3,rfl,ha,hpE,KK6,hfr⟩
  clear hpD
  rw[hfr]at hpar
  have hgr3:∀y∈r3,y.all isLetter=true∧y.length≤100000:=fun y hy=>hgr2 y (by rw[(eB hfr).1];simp[hy])
  refine nJ (fun σ H7=>∃(u:Option Nat)(r4:List Bytes),σ=[some (.ref l),some (.ref p),some (.str (bs k)),some (.ref a)]∧H7 a=some (.ins ad.b6 dx (pI .non (.str (bs k)) (.int (n:Nat)) tg (.int (fr:Nat)) (NK u) (.bl false) .non))∧jg ad H7 p r4∧Kp [] H H7∧pEnd (decide (k=iY)) fr r3=some (u,r4)) (fun R hR=> ?_) ?_
  ·
   walk_at "r1"
   simp[and_assoc,aB,aH,aO,List.lookup_nil,-List.lookup_eq_none_iff,-Bool.exists_bool,-Bool.not_eq_eq_eq_not,L2.wipe,aj,aG,ha,T.bD,T.cV,pI]
   refine⟨p,r3,decide (k=iY),bs k,fr,rfl,by rw[eH,w8];simp,hpE,hgr3,fun u r4 H7 hu hp7 KK7=> ?_,fun H7 hno KK7=>k2 _ ?_ (KK6.qD hpH KK7)⟩
   ·have ha7:=KK7 a _ ha (by simpa using nap)
    simp[and_assoc,aB,aH,aO,List.lookup_nil,-List.lookup_eq_none_iff,-Bool.exists_bool,-Bool.not_eq_eq_eq_not,L2.wipe,aj,aG,ha7,T.bD,T.gH,pI]
    exact hR _ _ ⟨u,r4,rfl,by rw[aj];rfl,hp7.line ha7 nap,(KK6.qD hpH KK7).aX haH,hu⟩
   ·rw[hlin,hpar];simp[xT,hno]
  rintro σ H7 ⟨u,r4,rfl,ha,hpF,KK7,hu⟩
  clear hpE
  have epar:parse (k::r)=(y8 (fE (decide (k=dY)) r4).2).map fun f=>⟨mk (fE (decide (k=dY)) r4).1,n,fr,u,f⟩:=by
   rw[hpar]
   simp only[Option.bind_some,xT,hu,Option.map_map]
   rfl
  have hgr4:∀y∈r4,y.length≤100000:=fun y hy=>(hgr3 y (Mz hu y hy)).2
  refine nJ (fun σ H8=>σ=[some (.ref l),some (.ref p),some (.str (bs k)),some (.ref a)]∧H8 a=some (.ins ad.b6 dx (pI .non (.str (bs k)) (.int (n:Nat)) tg (.int (fr:Nat)) (NK u) (NT (mk (fE (decide (k=dY)) r4).1)) .non))∧jg ad H8 p (fE (decide (k=dY)) r4).2∧Kp [] H H8) (fun R hR=> ?_) ?_
  ·
   obtain⟨dx',q,all,i,h1,h2,h3,h4⟩:=id hpF
   walk_at "r1"
   simp[and_assoc,aB,aH,aO,List.lookup_nil,-List.lookup_eq_none_iff,-Bool.exists_bool,-Bool.not_eq_eq_eq_not,L2.wipe,aj,aG,h1,piF,eM,w8]
   refine⟨rfl,?_⟩
   by_cases c:k=dY
   ·rw[if_pos c]
    refine⟨p,r4,o8,rfl,hpF,fun hne=> ?_,fun r5 H8 hr5 hp8 KK8=> ?_⟩
    ·skip
     simp[and_assoc,aB,aH,aO,List.lookup_nil,-List.lookup_eq_none_iff,-Bool.exists_bool,-Bool.not_eq_eq_eq_not,L2.wipe,aj,aG,ha,T.bD,T.dw,pI]
     have e:fE true r4=(false,r4):=by
      cases r4 with
      |nil=>rfl
      |cons y r5=>
       have:¬y=o8:=fun z=>hne (by rw[z];rfl)
       simp[fE,this]
     refine hR _ _ ⟨rfl,?_,?_,KK7.aX haH⟩
     ·rw[aj];simp[c,e,htm c,pI]
     ·simp only[c,decide_true,e];exact hpF.line ha nap
    ·have ha8:=KK8 a _ ha (by simpa using nap)
     simp[and_assoc,aB,aH,aO,List.lookup_nil,-List.lookup_eq_none_iff,-Bool.exists_bool,-Bool.not_eq_eq_eq_not,L2.wipe,aj,aG,ha8,T.bD,T.dw,pI]
     have e:fE true r4=(true,r5):=by rw[hr5];simp[fE]
     refine hR _ _ ⟨rfl,?_,?_,(KK7.qD hpH KK8).aX haH⟩
     ·rw[aj];simp[c,e,htm c,pI]
     ·simp only[c,decide_true,e];exact hp8.line ha8 nap
   ·rw[if_neg c]
    have e:fE false r4=(false,r4):=by cases r4<;>simp[fE]
    refine hR _ _ ⟨rfl,?_,?_,KK7⟩
    ·simp only[c,decide_false,htn c];exact ha
    ·simp only[c,decide_false,e];exact hpF
  rintro σ H8 ⟨rfl,ha,hpG,KK8⟩
  clear hpF
  have hgr5:∀y∈(fE (decide (k=dY)) r4).2,y.length≤100000:=fun y hy=>hgr4 y (J6 y hy)
  have epar2:lineIn row=(y8 (fE (decide (k=dY)) r4).2).map fun f=>⟨mk (fE (decide (k=dY)) r4).1,n,fr,u,f⟩:=by rw[hlin,epar]
  clear epar hgr4 hpar hu
  generalize fE (decide (k=dY)) r4=o5 at*
  refine nJ (fun σ H9=>∃wv f r6,σ=[some (.ref l),some (.ref p),some (.str (bs k)),some (.ref a)]∧H9 a=some (.ins ad.b6 dx (pI .non (.str (bs k)) (.int (n:Nat)) tg (.int (fr:Nat)) (NK u) (NT (mk o5.1)) wv))∧Gr (New H H9) f wv∧jg ad H9 p r6∧Kp [] H H9∧(r6=[]→y8 o5.2=some f)∧(r6≠[]→y8 o5.2=none)) (fun R hR=> ?_) ?_
  ·
   walk_at "r1"
   walk_at "r2"
   refine⟨p,o5.2,rfl,hpG,hgr5,fun hne=> ?_,fun r6 q H9 hr6 c1 c8 call hp9 hq hq9 KK9=> ?_,fun r6 H9 hr6 hno KK9=>k2 _ ?_ (KK8.qD hpH KK9)⟩
   ·skip
    simp[and_assoc,aB,aH,aO,List.lookup_nil,-List.lookup_eq_none_iff,-Bool.exists_bool,-Bool.not_eq_eq_eq_not,L2.wipe,aj,aG,ha,T.bD,T.dI,pI]
    refine hR _ _ ⟨.non,none,o5.2,rfl,aj,rfl,hpG.line ha nap,KK8.aX haH,fun z=>by rw[z];rfl,fun z=> ?_⟩
    cases h:o5.2 with
    |nil=>exact absurd h z
    |cons y r6=>
     have:¬y=kFor:=fun z=>hne (by rw[h,z];rfl)
     simp[y8,this]
   ·have ha9:=KK9 a _ ha (by simpa using nap)
    simp[and_assoc,aB,aH,aO,List.lookup_nil,-List.lookup_eq_none_iff,-Bool.exists_bool,-Bool.not_eq_eq_eq_not,L2.wipe,aj,aG,ha9,T.bD,T.dI,pI]
    refine hR _ _ ⟨.ref q,some r6,[],rfl,aj,⟨q,rfl,Et (KK8.free (by simp) hq) ?_⟩,hp9.line ha9 nap,(KK8.qD hpH KK9).aX haH,fun _=> ?_,fun z=>absurd rfl z⟩
    ·rw[aq (cO hq9 ha9 (by intro z;cases z))];exact hq9
    ·rw[hr6];simp only[y8];rw[if_pos trivial,if_pos ⟨c1,c8,call⟩]
   ·rw[epar2,hr6];simp only[y8];rw[if_pos trivial,if_neg hno];rfl
  rintro σ H9 ⟨wv,f,r6,rfl,ha,hws,hpI,KK9,hy,hn2⟩
  obtain⟨dx',q,all,i,h1,h2,h3,h4⟩:=id hpI
  walk_at "r1"
  simp[and_assoc,aB,aH,aO,List.lookup_nil,-List.lookup_eq_none_iff,-Bool.exists_bool,-Bool.not_eq_eq_eq_not,L2.wipe,aj,aG,h1,piF]
  refine⟨p,r6,rfl,hpI,?_⟩
  cases r6 with
  |nil=>
   simp
   refine k1 ⟨mk o5.1,n,fr,u,f⟩ a H9 (by rw[epar2,hy rfl];rfl) ⟨dx,wv,Et haH ?_,hws⟩ KK9
   rw[ha,(hmk o5.1).1,(hmk o5.1).2]
  |cons y r7=>
   simp
   exact k2 _ (by rw[epar2,hn2 (by simp)];rfl) KK9
end
section
variable{P:Program}{w:World}{K:PySem.W.Frag}{mg:Str→Option Value}{base:Heap}{ad:Ad}
def O7(n y:Int):List (Str×V):=[("line_number",.int n),("why",.int y)]
def pM(ad:Ad):Sp:=fun vs H Q _=>∃(a:Addr)(n y:Int),vs=[.ref a,.int n,.int y]∧H a=some (xO a ad.bw none)∧∀dx,H dx=none→Q .non (upd (upd H a (xO a ad.bw (some dx))) dx (xD dx (O7 n y)))
theorem pR(T:Txt K mg ad):Ck P w K mg base nj 1 ad.iT ad.cZ ["self","line_number","why"] (pM ad):=by
 refine T.iW.SV pQ (fun vs H Q E h=> ?_) (fun cdv A outer s H vs Q E hr h=> ?_)
 ·obtain⟨a,n,y,rfl,_⟩:=h
  rfl
 ·obtain⟨a,n,y,rfl,ha,k⟩:=h
  have nd:=pQ.nd
  refine⟨_,(ao (FD (pv 0) (pv 1) rfl)
   (au (N8 (pv 0) (pv 2) rfl))),?_⟩
  walk_at "r1"
  walk_at "r2"
  refine⟨_,ha,T.sF,T.jc,fun dx hdx=> ?_⟩
  have n1:a≠dx:=aD ha hdx
  refine⟨_,dx,by rw[aq n1,aj],_,aj,T.sF,T.rO,by simp,?_⟩
  rw[aG]
  have:=k dx hdx
  simpa[O7,aH,aO]using this
def z8(ad:Ad):Sp:=fun vs H Q _=>∃(a:Addr)(n:Int),vs=[.ref a,.int n]∧H a=some (xO a ad.dS none)∧∀dx,H dx=none→Q .non (upd (upd H a (xO a ad.dS (some dx))) dx (xD dx [("place",.int n)]))
theorem Af(T:Txt K mg ad):Ck P w K mg base nj 1 ad.jX ad.eK ["self","place"] (z8 ad):=by
 refine T.j9.SV tQ (fun vs H Q E h=> ?_) (fun cdv A outer s H vs Q E hr h=> ?_)
 ·obtain⟨a,n,rfl,_⟩:=h
  rfl
 ·obtain⟨a,n,rfl,ha,k⟩:=h
  have nd:=tQ.nd
  refine⟨_,(au (FD (pv 0) (pv 1) rfl)),?_⟩
  walk_at "r1"
  walk_at "r2"
  exact⟨_,ha,T.Ax,T.rP,k⟩
def kU(ad:Ad)(H:Hp)(E:XK)(n y:Nat):Prop:=∀dx H',H' dx=some (xD dx (O7 n y))→Kp [] H H'→E (.ref ad.bw) (some dx) H'
theorem Rx(T:Txt K mg ad):ad.bw≠ad.bF:=by
 have:=T.R0
 simp at this
 intro z
 simp_all
theorem Ew{H H1:Hp}{a dx:Addr}{o1 o2 o3:HO}(KK:Kp [] H H1)(ha:H1 a=none)(hdx:upd H1 a o1 dx=none):Kp [] H (del (upd (upd (upd H1 a o1) a o2) dx o3) a)∧(del (upd (upd (upd H1 a o1) a o2) dx o3) a) dx=some o3∧(upd (upd (upd H1 a o1) a o2) dx o3) a=some o2:=by
 have n1:dx≠a:=by intro z;rw[z,aj]at hdx;cases hdx
 have h2:H1 dx=none:=by rwa [aq n1]at hdx
 refine⟨fun b o e _=> ?_,by rw[kR n1,aj],by rw[aq n1.symm,aj]⟩
 have e1:=KK b o e (by simp)
 rw[kR (aD e1 ha),aq (aD e1 h2),aq (aD e1 ha),aq (aD e1 ha)]
 exact e1
def yQ(ad:Ad):Sp:=fun vs H Q E=>∃(l:Addr)(row:Bytes)(k:Nat),vs=[.ref l,.int k]∧H l=some (.lst (iv row))∧row.length≤100000∧
 (∀x a H',lineIn row=some x→k<4096→tK ad (New H H') a x (.int k)→Kp [] H H'→Q (.ref a) H')∧(lineIn row=none→kU ad H E k 1)∧(∀x,lineIn row=some x→4096≤k→kU ad H E k 2)
theorem zc(T:Txt K mg ad):bA P w K mg base (wz P w (Nc ad)) 5 ad.eQ ad.dM ["row","line_number"] (yQ ad):=by
 have G_read_line:=El (P:=P) (w:=w) (base:=base) T
 have G_TextFault_init:=pR (P:=P) (w:=w) (base:=base) T
 refine T.gI.Ap rD (fun vs H Q E h=> ?_) (fun cdv A outer s H vs Q E hr h X hX fl po=> ?_)
 ·obtain⟨l,row,k,rfl,_⟩:=h
  rfl
 ·obtain⟨l,row,k,rfl,hl,hz,k1,k2,k3⟩:=h
  have nd:=rD.nd
  have hu:=a7 hr
  subst hX
  have hcm:(zC (wz P w (Nc ad)) P w K mg base ["row","line_number","line"] "read_numbered" (aC gG) ad.eQ cdv A outer s H E).calm=true→(zC (wz P w (Nc ad)) P w K mg base ["row","line_number","line"] "read_numbered" (aC gG) ad.eQ cdv A outer s H E).A.handled=none:=fun _=>hr.hd
  refine⟨_,ao (Oa (N:=ad.tI) (C:=ad.bF) (Nc:=Nc ad) rfl rfl rfl hcm T.bS rfl T.bJ
    (fun D pl xe po' fl'=>au (aU (i:=2) nd rfl (Or.inl rfl) (bT G_read_line (hr.mono (by decide)) rfl T.zR T.mU.kp T.ql .nil (b9.passes fl' rfl) (ak (pv 0) aA))))
    (fun eh oh ws hdt hcx=>au (Ed (b9.hdl fl hcm) rfl rfl rfl rfl (List.mem_cons_self ..) hdt (hcx rfl) (fun z=>Rx T z) T.nI G_TextFault_init (mR.mark (hr.mono (by decide)).h _) rfl T.jS T.dR (by decide) (ak (pv 1) (ak (aE (v:=.int 1) rfl T.Cb.choose_spec ⟨_,rfl⟩) aA))))
    (fun eh=>PassesOwnAt.leaving))
   (ao (a6 (aV MB (pv 1) (aE (v:=.int 4096) rfl T.pC.choose_spec ⟨_,rfl⟩) (aY _))
    (au (yY fl rfl rfl T.nI G_TextFault_init (hr.mono (by decide)).h rfl T.jS T.dR (by decide) (ak (pv 1) (ak (aE (v:=.int 2) rfl T.B9.choose_spec ⟨_,rfl⟩) aA)))) aL)
   (ao (bR (pv 2) (pv 1) rfl) (au (aJ (pv 2))))),?_⟩
  simp only[La,Q9,Lv,HW,Ra,LV,Pg,Lj,Ik,Li,HV,Pq,HZ,Le,Fm,Ih,Ic,Lf,HS,Lw,Fe,Jh,M7,Ji,M6,LU,Lh,LR,Jd,MY,Jc,Jb,Ph,O9,Ro,PN,Rh,PQ,PF,HR,Fk,Lz,LL,L4,C6,Mq,L8,Lk,Ii,Lb,Ls,Ij,Ia,Ib,Pu,CU,HU,Pa,Mh,Mf,Mg,L9,PJ,LQ,Pw,C8,C7,Ma,Mj,Ml,Mp,K9,Ig,LJ,CV,Iv,Fh,Fj,Fi,Pp,Pn,Fl,Ff,C5,Fu,Iq,HQ,Fc,Im,Md,HX,FA,Fg,Nm,Jq,AH,Iz,Bh,Fz,S0]
  walk_at "r2"
  have raise:∀(y:Nat)(H1:Hp)(σ:L2.St),Kp [] H H1→kU ad H E k y→σ[1]? =some (some (V.int (k:Nat)))→AF ad.bw (pM ad) (fun C od x H=>E C od H) (oB (vT 1) (oB (tC (V.int (y:Nat))) AI)) σ H1:=by
   intro y H1 σ KK hF hσ
   refine⟨_,hσ,fun a ha=>⟨a,k,y,rfl,aj,fun dx hdx=>⟨rfl,dx,?_⟩⟩⟩
   obtain⟨m1,m2,m3⟩:=Ew (o1:=xO a ad.bw none) (o2:=xO a ad.bw (some dx)) (o3:=xD dx (O7 k y)) KK ha hdx
   exact⟨m3,hF dx _ m2 m1⟩
  refine⟨l,row,rfl,hl,hz,fun x a H1 hx hln KK=> ?_,fun H1 hno KK=>⟨rfl,raise 1 H1 _ KK (k2 hno) rfl⟩⟩
  show if(4096:Int)≤(k:Nat)then _ else _
  by_cases c:4096≤k
  ·rw[if_pos (by omega)]
   exact raise 2 H1 _ KK (k3 x hx c) rfl
  ·rw[if_neg (by omega)]
   obtain⟨dx,wv,h1,h2⟩:=hln
   obtain⟨haH,h1⟩:=Aq h1
   refine⟨a,rfl,_,_,_,h1,T.bD,T.dW,by simp[pI],?_⟩
   refine k1 x a _ hx (by omega) ⟨dx,wv,Et haH (by rw[aj];simp[pI,aH]),?_⟩ (KK.aX haH)
   cases hf:x.for_ with
   |none=>rw[hf]at h2;exact h2
   |some ws=>
    rw[hf]at h2
    obtain⟨q,e1,e2⟩:=h2
    obtain⟨e2,e3⟩:=Aq e2
    exact⟨q,e1,Et e2 (by rw[aq (cO e3 h1 (by intro z;cases z))];exact e3)⟩
def ni(ad:Ad)(H:Hp)(as:List Addr)(ls:Lines)(k:Nat):Prop:=as.length=ls.length∧∀i a x,as[i]? =some a→ls[i]? =some x→tK ad H a x (.int (k+i:Nat))
theorem Gr.keep{S:List Addr}{H H':Hp}{f:Option (List Word)}{v:V}(h:Gr H f v)(KK:Kp S H H')(hS:∀a∈S,∀xs,H a≠some (.lst xs)):Gr H' f v:=by
 cases f with
 |none=>exact h
 |some ws=>
  obtain⟨l,e1,e2⟩:=h
  exact⟨l,e1,KK l _ e2 fun z=>hS l z _ e2⟩
def Loose(ad:Ad)(S:List Addr)(H:Hp):Prop:=∀a∈S,(∀xs,H a≠some (.lst xs))∧∀dx fs,H a≠some (.ins ad.b6 dx fs)
theorem tK.keep{S:List Addr}{H H':Hp}{a:Addr}{x:Line}{num:V}(h:tK ad H a x num)(KK:Kp S H H')(hS:Loose ad S H):tK ad H' a x num:=by
 obtain⟨dx,wv,h1,h2⟩:=h
 exact⟨dx,wv,KK a _ h1 fun z=>(hS a z).2 _ _ h1,h2.keep KK fun b hb=>(hS b hb).1⟩
theorem ni.keep{S:List Addr}{H H':Hp}{as:List Addr}{ls:Lines}{k:Nat}(h:ni ad H as ls k)(KK:Kp S H H')(hS:Loose ad S H):ni ad H' as ls k:=⟨h.1,fun i a x ha hx=>(h.2 i a x ha hx).keep KK hS⟩
theorem ni.same{H H':Hp}{as:List Addr}{ls:Lines}{k:Nat}(h:ni ad H as ls k)(s:Same H H'):ni ad H' as ls k:=⟨h.1,fun i a x ha hx=>(h.2 i a x ha hx).same s⟩
def join(G G':Hp):Hp:=fun b=>match G b with
 |some o=>some o
 |none=>G' b
theorem Kn(G G':Hp):Same G (join G G'):=fun b o e=>by unfold join;rw[e]
theorem Hl{G G':Hp}{H:Hp}(h:∀b,H b=none→G b=none):Same (New H G') (join G (New H G')):=fun b o e=>by
 unfold join
 rw[h b (Aq e).1]
 exact e
theorem Hn{G G':Hp}{b:Addr}{o:HO}(h:join G G' b=some o):G b=some o∨G' b=some o:=by
 unfold join at h
 cases e:G b with
 |some u=>rw[e]at h;exact .inl h
 |none=>rw[e]at h;exact .inr h
theorem join_none{G G':Hp}{b:Addr}(h:G b=none)(h':G' b=none):join G G' b=none:=by
 unfold join
 rw[h]
 exact h'
theorem kU.imp{H H1:Hp}{E:XK}{n y n':Nat}(h:kU ad H E n y)(KK:Kp [] H H1)(e:n'=n):kU ad H1 E n' y:=fun dx H' hd K2=>h dx H' (by rw[←e];exact hd) (KK.trans K2)
theorem Loose.nil(H:Hp):Loose ad [] H:=fun a h=>by cases h
theorem ni.snoc{H:Hp}{as:List Addr}{ls:Lines}{k:Nat}{a:Addr}{x:Line}(h:ni ad H as ls k)(hx:tK ad H a x (.int (k+ls.length:Nat))):ni ad H (as++[a]) (ls++[x]) k:=by
 refine⟨by simp[h.1],fun i b y hb hy=> ?_⟩
 by_cases c:i<as.length
 ·rw[List.getElem?_append_left c]at hb
  rw[List.getElem?_append_left (by rw[←h.1];exact c)]at hy
  exact h.2 i b y hb hy
 ·have hi:i=as.length:=by
   have:=(List.getElem?_eq_some_iff.mp hb).1
   simp at this
   omega
  subst hi
  rw[List.getElem?_append_right (Nat.le_refl _)]at hb
  rw[h.1,List.getElem?_append_right (Nat.le_refl _)]at hy
  simp at hb hy
  subst hb hy
  rw[h.1]
  exact hx
def DX(ad:Ad):Sp:=fun vs H Q E=>∃(l:Addr)(t:Bytes)(k:Nat),vs=[.ref l,.int k]∧H l=some (.lst (iv t))∧t.length≤100000∧k≤100000∧
 (∀ls as p H',jQ k [] [] t= .ok ls→H p=none→H' p=some (.lst (as.map V.ref))→ni ad H' as ls k→Kp [] H H'→Q (.ref p) H')∧(∀e,jQ k [] [] t= .error e→kU ad H E e.1 e.2)
theorem Ek(T:Txt K mg ad):bA P w K mg base (wz P w (Nc ad)) 6 ad.pV ad.iJ ["text","lines_ahead"] (DX ad):=by
 have G_read_numbered:=zc (P:=P) (w:=w) (base:=base) T
 have G_TextFault_init:=pR (P:=P) (w:=w) (base:=base) T
 refine T.mS.Ap xG (fun vs H Q E h=> ?_) (fun cdv A outer s H vs Q E hr h X hX fl po=> ?_)
 ·obtain⟨l,t,k,rfl,_⟩:=h
  rfl
 ·obtain⟨l,t,k,rfl,hl,hz,hkz,k1,k2⟩:=h
  have nd:=xG.nd
  have hu:=a7 hr
  subst hX
  have ps:=b9.passes fl rfl
  refine⟨_,(ao (aU (i:=2) nd rfl (Or.inl rfl) (bK aA))
   (ao (aU (i:=3) nd rfl (Or.inl rfl) (bK aA))
   (ao (oP po rfl (gS (pv 0)) (bY (i:=4) nd rfl (Or.inl rfl))
   (au (a6 (aV f9 (pv 4) (aE (v:=.int 10) rfl T.zY.choose_spec ⟨_,rfl⟩) (aY _))
   (ao (dD (mG PySem.F.plainAttrs_list PySem.F.slot_list_append PySem.F.type_list_append eD (pv 2) (ak (bT G_read_numbered (hr.mono (by decide)) rfl T.tX T.gI.kp T.jr .nil ps (ak (pv 3) (ak (oQ Bq (pv 1) (a9 (a8 (K:=K) rfl) (by rfl) T.c9 PySem.boot_len (ak (pv 2) aA))) aA))) aA)))
   (au (aU (i:=3) nd rfl (Or.inl rfl) (bK aA))))
   (au (dD (mG PySem.F.plainAttrs_list PySem.F.slot_list_append PySem.F.type_list_append eD (pv 3) (ak (pv 4) aA)))))))
   (ao (a6 (rJ (pv 3) (fun _=>rfl))
   (au (yY fl rfl rfl T.nI G_TextFault_init (hr.mono (by decide)).h rfl T.jS T.dR (by decide) (ak (oQ Bq (pv 1) (a9 (a8 (K:=K) rfl) (by rfl) T.c9 PySem.boot_len (ak (pv 2) aA))) (ak (aE (v:=.int 1) rfl T.Cb.choose_spec ⟨_,rfl⟩) aA))))
   aL)
   (au (aJ (pv 2))))))),?_⟩
  walk_at "r1"
  walk_at "r2"
  intro p hp q hq
  have xZ:p≠q:=by intro z;rw[z,aj]at hq;cases hq
  have hqH:H q=none:=by rwa [aq xZ.symm]at hq
  have K0:Kp [] H (upd (upd H p (.lst [])) q (.lst [])):=(Kp.new hp).aX hqH
  have hsz:sizeLine=16777216:=rfl
  refine for_in (a:=l) (xs:=iv t) (fun Q q=>⟨_,rfl,q⟩) (bW.of (K0 _ _ hl (by simp))) (fun i σ H'=>∃(v:Option V)(ls:Lines)(as:List Addr)(row:Bytes)(q:Addr),σ=[some (.ref l),some (.int k),some (.ref p),some (.ref q),v]∧H' p=some (.lst (as.map V.ref))∧H' q=some (.lst (iv row))∧p≠q∧H q=none∧(∃G:Hp,Same G H'∧G p=none∧G q=none∧ni ad G as ls k)∧Kp [] H H'∧row.length≤i∧ls.length≤i∧jQ k [] [] t=jQ k ls row (t.drop i))
   ⟨none,[],[],[],q,rfl,by rw[aq xZ,aj];rfl,aj,xZ,hqH,⟨fun _=>none,(fun b o e=>by cases e),rfl,rfl,rfl,(fun i a x h=>by simp at h)⟩,K0,Nat.le_refl _,Nat.le_refl _,by rw[List.drop_zero]⟩ (fun i σ H' _ zz=>by obtain⟨_,_,_,_,_,_,_,_,_,_,_,k,_⟩:=zz;exact bW.of (k _ _ hl (by simp))) ?_ ?_
  ·rintro i x σ H' hx ⟨v,ls,as,row,q,rfl,h1,h2,xZ,hqH,⟨G,hG,hGp,hGq,hls⟩,KK,hc,hw,hs⟩
   obtain⟨c,hc2,rfl⟩:=P1 hx
   have hi:i<t.length:=(List.getElem?_eq_some_iff.mp hc2).1
   have hd:t.drop i=c::t.drop (i+1):=by rw[List.drop_eq_getElem_cons hi,(List.getElem?_eq_some_iff.mp hc2).2]
   rw[hd]at hs
   have hlen:=hls.1
   walk_at "r1"
   walk_at "r2"
   refine⟨rfl,?_⟩
   have ty:∀{a:Addr}{xs:List V},H' a=some (.lst xs)→O6 K "list" (V.ref a) H':=fun h=>.inl ⟨rfl,_,bW.of h⟩
   by_cases q10:c=10
   ·subst q10
    have e10:((UInt8.toNat 10:Nat):Int)=10:=rfl
    simp
    refine⟨ty h1,_,dF h1,q,row,k+as.length,by simp,h2,by omega,fun x a H2 hx hk hln KK2=> ?_,fun hno=> ?_,fun x hx hk=> ?_⟩
    ·have KK3:=KK.trans KK2
     refine⟨_,KK2 _ _ h1 (by simp),by simp;omega,fun q' hq'=> ?_⟩
     have n1:q'≠p:=by intro z;rw[z,aj]at hq';cases hq'
     have hq'':H2 q'=none:=by rwa [aq n1]at hq'
     have hqH':=KK3.free (by simp) hq''
     have hle:k+ls.length<4096:=by omega
     refine⟨ls++[x],as++[a],by rw[aq n1.symm,aj];simp,[],rfl,n1.symm,hqH',⟨join G (New H' H2),?_,?_,?_,ni.snoc (hls.same (Kn _ _)) ?_⟩,(KK3.aX hp).aX hqH',by simp,by simp;omega,?_⟩
     ·intro b o e
      rcases Hn e with e |e
      ·have e1:=KK2 b o (hG b o e) (by simp)
       rw[aq (aD e1 hq''),aq (fun z=>by rw[z,hGp]at e;cases e)]
       exact e1
      ·obtain⟨e0,e1⟩:=Aq e
       rw[aq (aD e1 hq''),aq (fun z=>by rw[z,h1]at e0;cases e0)]
       exact e1
     ·exact join_none hGp (by unfold New;rw[h1];rfl)
     ·refine join_none ?_ ?_
      ·cases e:G q' with
       |none=>rfl
       |some o=>have:=KK2 q' o (hG q' o e) (by simp);rw[this]at hq'';cases hq''
      ·unfold New;split
       ·rfl
       ·exact hq''
     ·rw[←hls.1]
      exact hln.same (Hl fun b e=>by
       cases e2:G b with
       |none=>rfl
       |some u=>rw[hG b u e2]at e;cases e)
     ·have hL:¬PoMoves.LINES≤k+ls.length:=by unfold PoMoves.LINES;omega
      rw[hs]
      simp[jQ,hx,hL]
    ·refine k2 (k+ls.length,1) ?_ |>.imp KK (by rw[hlen])
     rw[hs]
     simp[jQ,hno]
    ·refine k2 (k+ls.length,2) ?_ |>.imp KK (by rw[hlen])
     have hL:PoMoves.LINES≤k+ls.length:=by unfold PoMoves.LINES;omega
     rw[hs]
     simp[jQ,hx,hL]
   ·have:¬(c.toNat:Int)=10:=fun z=>q10 (UInt8.toNat_inj.mp (Int.ofNat_inj.mp z))
    simp[this]
    refine⟨ty h2,_,h2,by simp[iv];omega,ls,as,by rw[aq xZ];exact h1,row++[c],by simp[iv],xZ,hqH,⟨G,fun b o e=> ?_,hGp,hGq,hls⟩,KK.aX hqH,by simp;omega,by omega,?_⟩
    ·rw[aq (fun z=>by rw[z,hGq]at e;cases e)];exact hG b o e
    ·rw[hs];simp[jQ,q10]
  ·rintro σ H' ⟨v,ls,as,row,q,rfl,h1,h2,xZ,hqH,⟨G,hG,hGp,hGq,hls⟩,KK,hc,hw,hs⟩
   have hlen:(iv t).length=t.length:=by simp[iv]
   rw[hlen]at hc hw hs
   rw[List.drop_length]at hs
   walk_at "r1"
   walk_at "r2"
   refine⟨!row.isEmpty,.inl ⟨_,bW.of h2,by simp[iv]⟩,?_⟩
   cases row with
   |nil=>
    simp
    exact k1 ls as p H' (by rw[hs];rfl) hp h1 (hls.same hG) KK
   |cons c r=>
    simp
    unfold AF
    walk_at "r1"
    walk_at "r2"
    refine⟨_,dF h1,fun a ha=> ?_⟩
    refine⟨a,(k:Int)+(as.map V.ref).length,1,rfl,aj,fun dx hdx=>⟨rfl,dx,?_⟩⟩
    obtain⟨m1,m2,m3⟩:=Ew (o1:=xO a ad.bw none) (o2:=xO a ad.bw (some dx)) (o3:=xD dx (O7 ((k:Int)+(as.map V.ref).length) 1)) KK ha hdx
    refine⟨m3,k2 (k+ls.length,1) (by rw[hs];rfl) dx _ ?_ m1⟩
    rw[m2]
    have:((k:Int)+((as.map V.ref).length:Nat))=((k+ls.length:Nat):Int):=by rw[←hls.1];simp
    rw[this]
    rfl
end
theorem Ga{K:PySem.W.Frag}{tl:TE}{a:Addr}{us:List Addr}{rows:List (List V)}{n:Nat}{t:KJ}{tb:TS}{D:Ends}{σ:L2.St}{H:Hp}(h:∀Q:VK,Q (.ref a) H→tl σ H Q)(hx:∀H:Hp,sE K H a (us.map V.ref))(hp:Paired (fun q r=>∀H:Hp,sE K H q r) us rows)(hn:∀r∈rows,r.length=n)
  (Pv:Nat→L2.St→Hp→Prop) (h0:Pv 0 σ H) (hs:∀i r σ H,rows[i]? =some r→Pv i σ H→t r σ H fun σ2 H2=>tb { D with nx:=Pv (i+1),ct:=Pv (i+1),bk:=D.nx } σ2 H2) (hd:∀σ H,Pv rows.length σ H→D.nx σ H):Lx (OA K tl) (Ku K n t) tb D σ H:=by
 have hl:us.length=rows.length:=Paired.length hp
 refine h _ ⟨a,rfl,⟨_,hx H⟩,OG (K:=K) (a:=a) (xs:=us.map V.ref) Pv h0 (fun i σ H _ _=>hx H) (fun i x σ H hi hv=> ?_) (fun σ H hv=>hd σ H (by rw[List.length_map,hl]at hv;exact hv))⟩
 rw[List.getElem?_map]at hi
 cases e:us[i]? with
 |none=>rw[e]at hi;cases hi
 |some q=>
  rw[e]at hi
  cases hi
  obtain⟨r,hr,hq⟩:=Bp hp e
  exact⟨q,r,rfl,hq H,hn r (List.mem_of_getElem? hr),hs i r σ H hr hv⟩
theorem Ov{K:PySem.W.Frag}{tl:TE}{a:Addr}{us:List Addr}{rows:List (List V)}{n:Nat}{t:KJ}{tt:TT}{te:TE}{vs:List Nat}{σ:L2.St}{H:Hp}{Q:VK}(f:List V→Option V)(h:∀Q:VK,Q (.ref a) H→tl σ H Q)(hx:∀H:Hp,sE K H a (us.map V.ref))(hp:Paired (fun q r=>∀H:Hp,sE K H q r) us rows)(hn:∀r∈rows,r.length=n)(hz:rows.length≤sizeLine)
  (hs:∀(D:Addr)(i:Nat)(r:List V)(H':Hp)(acc:List V)(Nx:Hp→Prop),rows[i]? =some r→H D=none→H'=upd H D (.lst acc)→(f r=none→Nx H')→(∀y,f r=some y→acc.length<sizeLine∧Nx (upd H D (.lst (acc++[y]))))→
   t r (wipe σ vs) H' fun σ2 H2=>wipe σ2 vs=wipe σ vs∧tt σ2 H2 fun b H3=>if b=true then te σ2 H3 fun y H4=>∃acc,H4 D=some (.lst acc)∧acc.length<sizeLine∧Nx (upd H4 D (.lst (acc++[y])))else Nx H3)
  (hd:∀D,H D=none→Q (.ref D) (upd H D (.lst (rows.filterMap f)))):QS (OA K tl) (Ku K n t) tt te vs σ H Q:=by
 have hl:us.length=rows.length:=Paired.length hp
 refine h _ ⟨a,rfl,⟨_,hx H⟩,fun D hD=>Qv (K:=K) (a:=a) (xs:=us.map V.ref) (fun i H'=>H'=upd H D (.lst ((rows.take i).filterMap f))) ?_ (fun i H' _ e=>hx H') (fun i x H' hi e=> ?_) fun H' e=> ?_⟩
 ·simp
 ·rw[List.getElem?_map]at hi
  cases eu:us[i]? with
  |none=>rw[eu]at hi;cases hi
  |some q=>
   rw[eu]at hi
   cases hi
   obtain⟨r,hr,hq⟩:=Bp hp eu
   have hil:i<rows.length:=(List.getElem?_eq_some_iff.mp hr).1
   have et:rows.take (i+1)=rows.take i++[r]:=by rw[List.take_add_one,hr];rfl
   refine⟨q,r,rfl,hq H',hn r (List.mem_of_getElem? hr),hs D i r H' _ _ hr hD e (fun hf=> ?_) (fun y hf=>⟨?_,?_⟩)⟩
   ·rw[e,et,List.filterMap_append]
    simp[hf]
   ·refine Nat.lt_of_le_of_lt (List.length_filterMap_le _ _) ?_
    rw[List.length_take]
    omega
   ·rw[et,List.filterMap_append]
    simp[hf]
 ·rw[e,List.length_map,hl,List.take_length]
  exact hd D hD
theorem Ql:Ea=Pm.alike.map fun x=>[.int x.1,.int x.2.1,.int x.2.2]:=rfl
theorem Rj:G2=Pm.same.map fun x=>[.int x.1,.int x.2.1,.str (bs (ascii x.2.2))]:=by decide +kernel
theorem Rg:zN=Pm.gone.map fun x=>[.int x.1,.int x.2]:=rfl
theorem HG{α:Type}{l:List α}{f:α→List V}{i:Nat}{r:List V}(h:(l.map f)[i]? =some r):∃x,l[i]? =some x∧r=f x:=by
 rw[List.getElem?_map]at h
 cases e:l[i]? with
 |none=>rw[e]at h;cases h
 |some x=>rw[e]at h;exact⟨x,rfl,(Option.some.inj h).symm⟩
theorem vI{α:Type}{l:List α}{p:α→Bool}{i:Nat}{x:α}(hi:l[i]? =some x)(h:(l.take i).find? p=none):(p x=true→l.find? p=some x)∧(p x=false→(l.take (i+1)).find? p=none):=by
 have hil:i<l.length:=(List.getElem?_eq_some_iff.mp hi).1
 have et:l.take (i+1)=l.take i++[x]:=by rw[List.take_add_one,hi];rfl
 constructor
 ·intro hp
  have e:l=l.take i++x::l.drop (i+1):=by
   have:=List.take_append_drop i l
   rw[List.drop_eq_getElem_cons hil,(List.getElem?_eq_some_iff.mp hi).2]at this
   exact this.symm
  rw[e,List.find?_append,h]
  simp[hp]
 ·intro hp
  rw[et,List.find?_append,h]
  simp[hp]
section
variable{P:Program}{w:World}{K:PySem.W.Frag}{mg:Str→Option Value}{base:Heap}{ad:Ad}
def GP:Sp:=fun vs H Q _=>∃z:Int,vs=[.int z]∧Q (.bl (Wqatco.wide z)) H
theorem Hc(T:Txt K mg ad):bA P w K mg base nj 1 ad.vK ad.kP ["number"] GP:=by
 refine T.sA.ok Ba (fun vs H Q E h=> ?_) (fun cdv A outer s H vs Q E hr h=> ?_)
 ·obtain⟨z,rfl,_⟩:=h
  rfl
 ·obtain⟨z,rfl,k⟩:=h
  have nd:=Ba.nd
  have hu:=a7 hr
  refine⟨_,(au (aJ (G6 (Bo kF kF qS (pv 0) (aE (v:=.int 1114111) rfl T.zZ.choose_spec ⟨_,rfl⟩)) (Eh (Qp (Bo kF kF (aE (v:=.int 55296) rfl T.rY.choose_spec ⟨_,rfl⟩) (pv 0) (aE (v:=.int 57343) rfl T.tY.choose_spec ⟨_,rfl⟩))))))),?_⟩
  walk_at "r1"
  walk_at "r2"
  have e1:0<z→Wqatco.wide z=(decide (z≤1114111)&&(decide (z<55296)||decide (57343<z))):=by
   intro h0
   unfold Wqatco.wide isWide
   have a1:decide (0<z)=true:=decide_eq_true h0
   have a2:decide (1≤z.toNat)=true:=decide_eq_true (by omega)
   have a3:decide (z.toNat≤1114111)=decide (z≤1114111):=decide_eq_decide.mpr (by omega)
   have a4:decide (z.toNat<55296)=decide (z<55296):=decide_eq_decide.mpr (by omega)
   have a5:decide (57343<z.toNat)=decide (57343<z):=decide_eq_decide.mpr (by omega)
   rw[a1,a2,a3,a4,a5]
   rfl
  have e2:¬0<z→Wqatco.wide z=false:=by
   intro h0
   unfold Wqatco.wide
   rw[decide_eq_false h0]
   rfl
  by_cases c0:1≤z
  ·rw[if_pos c0]
   rw[e1 (by omega)]at k
   by_cases c1:z≤1114111
   ·rw[if_pos c1]
    rw[decide_eq_true c1,Bool.true_and]at k
    by_cases c2:55296≤z
    ·rw[if_pos c2]
     rw[decide_eq_false (show ¬z<55296 by omega),Bool.false_or]at k
     have:(!decide (z≤57343))=decide (57343<z):=by rw[←decide_not];exact decide_eq_decide.mpr (by omega)
     rw[this]
     exact k
    ·rw[if_neg c2]
     rw[decide_eq_true (show z<55296 by omega),Bool.true_or]at k
     exact k
   ·rw[if_neg c1]
    rw[decide_eq_false c1,Bool.false_and]at k
    exact k
  ·rw[if_neg c0]
   rw[e2 (by omega)]at k
   exact k
def Gv{α:Type}(l:List α)(p:α→Bool)(i:Nat):Prop:=(l.take i).find? p=none
def inR(n:Nat)(a b:Nat):Bool:=decide (a≤n)&&decide (n≤b)
theorem IZ{n a b:Nat}{A B:Prop}(h1:inR n a b=true→A)(h2:inR n a b=false→B):if a≤n then(if n≤b then A else B)else B:=by
 unfold inR at h1 h2
 by_cases c1:a≤n
 ·by_cases c2:n≤b
  ·simp[c1,c2]at h1 h2 ⊢;exact h1
  ·simp[c1,c2]at h1 h2 ⊢;exact h2
 ·simp[c1]at h1 h2 ⊢;exact h2
def D2:Sp:=fun vs H Q _=>∃n:Nat,vs=[.int n]∧Q (.int (Pm.fellow n)) H
theorem En(T:Txt K mg ad):bA P w K mg base nj 1 ad.p8 ad.iO ["character"] D2:=by
 refine T.mW.ok xM (fun vs H Q E h=> ?_) (fun cdv A outer s H vs Q E hr h=> ?_)
 ·obtain⟨n,rfl,_⟩:=h
  rfl
 ·obtain⟨n,rfl,k⟩:=h
  have nd:=xM.nd
  have hu:=a7 hr
  refine⟨_,(ao (oP PassesOwn.never rfl (G3 (aE (v:=.ref ad.sH) rfl T.Jg rfl)) (Eg (n:=3) rfl (i9 (bY (i:=1) nd rfl (Or.inl rfl)) (i9 (bY (i:=2) nd rfl (Or.inl rfl)) (i9 (bY (i:=3) nd rfl (Or.inl rfl)) Ao))))
   (au (a6 (uL kF kF (pv 1) (pv 0) (pv 2))
   (au (aJ (oQ G8 (oQ Bq (pv 3) (pv 0)) (pv 1))))
   aL)))
   (au (aJ (pv 0)))),?_⟩
  walk_at "r1"
  walk_at "r2"
  have ef:Pm.fellow n=match Pm.alike.find? (fun x=>inR n x.1 x.2.1)with |some x=>x.2.2+n - x.1 |none=>n:=rfl
  refine Ga (fun Q q=>q) T.sH T.Ja (by decide) (fun i σ H'=>H'=H∧(∃a b c,σ=[some (.int n),a,b,c])∧Gv Pm.alike (fun x=>inR n x.1 x.2.1) i) ⟨rfl,⟨none,none,none,rfl⟩,rfl⟩ ?_ ?_
  ·rintro i r σ H' hr ⟨rfl,⟨a,b,c,rfl⟩,hf⟩
   rw[Ql]at hr
   obtain⟨x,hx,rfl⟩:=HG hr
   obtain⟨f1,f2⟩:=vI hx hf
   walk_at "r1"
   walk_at "r2"
   refine IZ (fun h=> ?_) (fun h=> ?_)
   ·rw[ef,f1 h]at k
    have hle:x.1≤n:=by unfold inR at h;simp at h;exact h.1
    have:((x.2.2:Int)+n - x.1)=((x.2.2+n - x.1:Nat):Int):=by omega
    rw[this]
    exact k
   ·exact f2 h
  ·rintro σ H' ⟨rfl,⟨a,b,c,rfl⟩,hf⟩
   walk_at "r1"
   walk_at "r2"
   have hf:Pm.alike.find? (fun x=>inR n x.1 x.2.1)=none:=by
    have e:(Pm.alike.take Ea.length)=Pm.alike:=rfl
    unfold Gv at hf
    rwa [e]at hf
   rw[ef,hf]at k
   exact k
def Ct:Sp:=fun vs H Q _=>∃n:Nat,vs=[.int n]∧Q (.str (bs (Pm.lets n))) H
theorem Cy(T:Txt K mg ad):bA P w K mg base nj 2 ad.nR ad.gL ["character"] Ct:=by
 have G_fellow_of:=En (P:=P) (w:=w) (base:=base) T
 have G_letter_of:=xV (P:=P) (w:=w) (base:=base) T
 refine T.j8.ok v5 (fun vs H Q E h=> ?_) (fun cdv A outer s H vs Q E hr h=> ?_)
 ·obtain⟨n,rfl,_⟩:=h
  rfl
 ·obtain⟨n,rfl,k⟩:=h
  have nd:=v5.nd
  have hu:=a7 hr
  refine⟨_,(ao (aU (i:=1) nd rfl (Or.inl rfl) (eW G_fellow_of (hr.mono (by decide)) rfl T.zT T.mW.kp T.qt .nil bh (ak (pv 0) aA)))
   (ao (oP PassesOwn.never rfl (G3 (aE (v:=.ref ad.wD) rfl T.M5 rfl)) (Eg (n:=3) rfl (i9 (bY (i:=2) nd rfl (Or.inl rfl)) (i9 (bY (i:=3) nd rfl (Or.inl rfl)) (i9 (bY (i:=4) nd rfl (Or.inl rfl)) Ao))))
   (au (a6 (uL kF kF (pv 2) (pv 1) (pv 3))
   (au (aJ (pv 4)))
   aL)))
   (au (aJ (eW G_letter_of (hr.mono (by decide)) rfl T.uX T.jK.kp T.mQ .nil bh (ak (pv 1) aA)))))),?_⟩
  walk_at "r1"
  walk_at "r2"
  refine⟨n,rfl,?_⟩
  have ef:Pm.lets n=match Pm.same.find? (fun x=>inR (Pm.fellow n) x.1 x.2.1)with |some x=>ascii x.2.2 |none=>Pm.zx (Pm.fellow n):=rfl
  generalize Pm.fellow n=m at ef
  refine Ga (fun Q q=>q) T.wD T.MX (by decide) (fun i σ H'=>H'=H∧(∃a b c,σ=[some (.int n),some (.int m),a,b,c])∧Gv Pm.same (fun x=>inR m x.1 x.2.1) i) ⟨rfl,⟨none,none,none,rfl⟩,rfl⟩ ?_ ?_
  ·rintro i r σ H' hr ⟨rfl,⟨a,b,c,rfl⟩,hf⟩
   rw[Rj]at hr
   obtain⟨x,hx,rfl⟩:=HG hr
   obtain⟨f1,f2⟩:=vI hx hf
   walk_at "r1"
   walk_at "r2"
   refine IZ (fun h=> ?_) (fun h=> ?_)
   ·rw[ef,f1 h]at k
    exact k
   ·exact f2 h
  ·rintro σ H' ⟨rfl,⟨a,b,c,rfl⟩,hf⟩
   walk_at "r1"
   walk_at "r2"
   have hf:Pm.same.find? (fun x=>inR m x.1 x.2.1)=none:=by
    have e:(Pm.same.take G2.length)=Pm.same:=rfl
    unfold Gv at hf
    rwa [e]at hf
   rw[ef,hf]at k
   exact⟨m,rfl,k⟩
def Fo:Sp:=fun vs H Q _=>∃n:Nat,vs=[.int n]∧∀D xs,H D=none→Q (.bl (Pm.van n)) (upd H D (.lst xs))
theorem FQ(T:Txt K mg ad):bA P w K mg base nj 1 ad.sY ad.jI ["character"] Fo:=by
 refine T.pH.ok zL (fun vs H Q E h=> ?_) (fun cdv A outer s H vs Q E hr h=> ?_)
 ·obtain⟨n,rfl,_⟩:=h
  rfl
 ·obtain⟨n,rfl,k⟩:=h
  have nd:=zL.nd
  have hu:=a7 hr
  refine⟨_,(au (aJ (a9 (Hw rfl) (by rfl) T.Eu PyProof.Rows.boot_any (ak (II rfl nd (G3 (aE (v:=.ref ad.g9) rfl T.zW rfl)) (pE ["character","first","last"] (aC sM) [("first",1),("last",2)] (by decide +kernel)) (fun _ _ _ _ _=>(Oe (K:=K) (n:=2) rfl rfl (i9 (bY (i:=1) nd rfl (Or.inl rfl)) (i9 (bY (i:=2) nd rfl (Or.inl rfl)) Ao)))) (fun _ _ _ _ _=>xQ) (fun _ _ _ _ _=>(Bo kF kF (pv 1) (pv 0) (pv 2)))) aA)))),?_⟩
  walk_at "r1"
  walk_at "r2"
  refine Ov (fun r=>match r with |[.int a,.int b]=>some (.bl (inR n a.toNat b.toNat))|_=>none) (fun Q q=>q) T.g9 T.zV (by decide) (by decide) (fun D j r H3 acc Nx hj hD e kn ky=> ?_) fun D hD=> ?_
  ·rw[Rg]at hj
   obtain⟨x,hx,rfl⟩:=HG hj
   obtain⟨ka,kb⟩:=ky (.bl (inR n x.1 x.2)) rfl
   subst e
   walk_at "r1"
   walk_at "r2"
   by_cases c1:x.1≤n
   ·rw[if_pos c1]
    unfold inR at kb
    rw[decide_eq_true c1,Bool.true_and]at kb
    exact⟨ka,kb⟩
   ·rw[if_neg c1]
    unfold inR at kb
    rw[decide_eq_false c1,Bool.false_and]at kb
    exact⟨ka,kb⟩
  ·refine⟨D,rfl,Pm.gone.map fun x=>inR n x.1 x.2,bW.of ?_,?_⟩
   ·rw[aj,Rg,List.filterMap_map,List.map_map,←List.filterMap_eq_map]
    rfl
   ·have:(Pm.gone.map fun x=>inR n x.1 x.2).any id=Pm.van n:=by rw[List.any_map];rfl
    rw[this]
    exact k D _ hD
def EX(H:Hp)(as:List Addr)(L:List (List Bytes)):Prop:=as.length=L.length∧∀(i:Nat)(a:Addr)(ws:List Bytes),as[i]? =some a→L[i]? =some ws→H a=some (.lst (tx ws))
theorem EX.same{H H':Hp}{as:List Addr}{L:List (List Bytes)}(h:EX H as L)(s:Same H H'):EX H' as L:=⟨h.1,fun i a x ha hx=>s _ _ (h.2 i a x ha hx)⟩
theorem EX.snoc{H:Hp}{as:List Addr}{L:List (List Bytes)}{a:Addr}{ws:List Bytes}(h:EX H as L)(hx:H a=some (.lst (tx ws))):EX H (as++[a]) (L++[ws]):=by
 refine⟨by simp[h.1],fun i b y hb hy=> ?_⟩
 by_cases c:i<as.length
 ·rw[List.getElem?_append_left c]at hb
  rw[List.getElem?_append_left (by rw[←h.1];exact c)]at hy
  exact h.2 i b y hb hy
 ·have hi:i=as.length:=by
   have:=(List.getElem?_eq_some_iff.mp hb).1
   simp at this
   omega
  subst hi
  rw[List.getElem?_append_right (Nat.le_refl _)]at hb
  rw[h.1,List.getElem?_append_right (Nat.le_refl _)]at hy
  simp at hb hy
  subst hb hy
  exact hx
def nv(cs:List Nat):List V:=cs.map fun c=>.int (c:Nat)
theorem Rw{b:List Nat}{i:Nat}{x:V}(h:(nv b)[i]? =some x):∃c,b[i]? =some c∧x= .int (c:Nat):=by
 unfold nv at h
 rw[List.getElem?_map]at h
 cases e:b[i]? with
 |none=>rw[e]at h;cases h
 |some c=>rw[e]at h;exact⟨c,rfl,(Option.some.inj h).symm⟩
theorem QL(a b:Bytes):bs a++bs b=bs (a++b):=by
 apply TL.Hs
 rw[TL.yO,xA,xA,xA,List.map_append]
theorem F5{c:Nat}(h:c≤4294967296):(Pm.lets c).length≤3:=by
 have ag:=Pm.DJ h
 unfold Pm.agree at ag
 cases es:sortOf c with
 |stands l=>
  rw[es]at ag
  simp only[Bool.and_eq_true,decide_eq_true_eq]at ag
  rw[ag.1.1.1]
  exact ag.2
 |_=>
  rw[es]at ag
  simp only[Bool.and_eq_true]at ag
  rw[List.isEmpty_iff.mp ag.1.1]
  simp
theorem HM(w:Bytes):(!w.isEmpty)=(((bs w).length:Int) != 0):=by
 rw[fD]
 cases w with
 |nil=>rfl
 |cons c r=>
  have:¬(((c::r).length:Nat):Int)=0:=by simp;omega
  simp only[List.isEmpty_cons,Bool.not_false,bne,beq_eq_false_iff_ne,ne_eq,this,not_false_eq_true]
  symm
  rw[Bool.not_eq_true',beq_eq_false_iff_ne]
  exact this
structure LWI(H H':Hp)(p q e:Addr)(as:List Addr)(L:List (List Bytes))(W:List Bytes)(cs:List Nat):Prop where
 hp:H' p=some (.lst (as.map V.ref))
 hq:H' q=some (.lst (tx W))
 he:H' e=some (.lst (nv cs))
 xZ:p≠q
 QT:e≠p
 neq:e≠q
 nP:H p=none
 nH:H q=none
 kk:Kp [] H H'
 g:∃G,Same G H'∧G p=none∧G q=none∧EX G as L
section
variable{H H':Hp}{p q e:Addr}{as:List Addr}{L:List (List Bytes)}{W:List Bytes}{cs:List Nat}
theorem LWI.new(I:LWI H H' p q e as L W cs){D:Addr}{o:HO}(hD:H' D=none):LWI H (upd H' D o) p q e as L W cs:=by
 obtain⟨G,g1,g2,g3,g4⟩:=I.g
 have st:∀{b:Addr}{u:HO},H' b=some u→upd H' D o b=some u:=fun h=>by rw[aq (aD h hD)];exact h
 exact⟨st I.hp,st I.hq,st I.he,I.xZ,I.QT,I.neq,I.nP,I.nH,I.kk.trans (Kp.new hD),G,fun b u h=>st (g1 b u h),g2,g3,g4⟩
theorem LWI.word(I:LWI H H' p q e as L W cs)(w:Bytes):LWI H (upd H' q (.lst (tx W++[.str (bs w)]))) p q e as L (W++[w]) cs:=by
 obtain⟨G,g1,g2,g3,g4⟩:=I.g
 refine⟨by rw[aq I.xZ];exact I.hp,by rw[aj];simp[tx],by rw[aq I.neq];exact I.he,I.xZ,I.QT,I.neq,I.nP,I.nH,I.kk.aX I.nH,G,fun b u h=> ?_,g2,g3,g4⟩
 rw[aq (fun z=>by rw[z,g3]at h;cases h)]
 exact g1 b u h
theorem LWI.line(I:LWI H H' p q e as L W cs){q':Addr}(hq':upd H' p (.lst (as.map V.ref++[.ref q])) q'=none):LWI H (upd (upd H' p (.lst (as.map V.ref++[.ref q]))) q' (.lst [])) p q' e (as++[q]) (L++[W]) [] cs:=by
 obtain⟨G,g1,g2,g3,g4⟩:=I.g
 have n1:q'≠p:=by intro z;rw[z,aj]at hq';cases hq'
 have hn:H' q'=none:=by rwa [aq n1]at hq'
 have nHq:=I.kk.free (by simp) hn
 have nq:q≠q':=aD I.hq hn
 refine⟨by rw[aq n1.symm,aj];simp,by rw[aj];rfl,by rw[aq (aD I.he hn),aq I.QT];exact I.he,n1.symm,I.QT,aD I.he hn,I.nP,nHq,(I.kk.aX I.nP).aX nHq,upd G q (.lst (tx W)),fun b u h=> ?_,?_,?_,?_⟩
 ·by_cases c:b=q
  ·subst c
   rw[aj]at h
   rw[aq nq,aq (fun z=>I.xZ z.symm),I.hq]
   exact h
  ·rw[aq c]at h
   have h2:=g1 b u h
   rw[aq (aD h2 hn),aq (fun z=>by rw[z,g2]at h;cases h)]
   exact h2
 ·rw[aq I.xZ];exact g2
 ·rw[aq (fun z=>nq z.symm)]
  cases e2:G q' with
  |none=>rfl
  |some o=>rw[g1 q' o e2]at hn;cases hn
 ·refine EX.snoc (g4.same fun b u h=> ?_) aj
  rw[aq (fun z=>by rw[z,g3]at h;cases h)]
  exact h
end
def xC:Sp:=fun vs H Q _=>∃(l:Addr)(cs:List Nat),vs=[.ref l]∧H l=some (.lst (nv cs))∧cs.length≤100000∧(∀c∈cs,c≤4294967296)∧∀p as H',H p=none→H' p=some (.lst (as.map V.ref))→EX H' as (Pm.gQ cs)→Kp [] H H'→Q (.ref p) H'
theorem xU(T:Txt K mg ad):bA P w K mg base nj 3 ad.iR ad.cX ["characters"] xC:=by
 have G_letters_of:=Cy (P:=P) (w:=w) (base:=base) T
 have G_vanishes:=FQ (P:=P) (w:=w) (base:=base) T
 refine T.fY.ok pO (fun vs H Q E h=> ?_) (fun cdv A outer s H vs Q E hr h=> ?_)
 ·obtain⟨l,cs,rfl,_⟩:=h
  rfl
 ·obtain⟨l,cs,rfl,hl,hz,hc,k⟩:=h
  have nd:=pO.nd
  have hu:=a7 hr
  refine⟨_,(ao (aU (i:=1) nd rfl (Or.inl rfl) (bK aA))
   (ao (aU (i:=2) nd rfl (Or.inl rfl) (bK aA))
   (ao (aU (i:=3) nd rfl (Or.inl rfl) sO)
   (ao (oP PassesOwn.never rfl (gS (oQ wK (pv 0) (bK (ak (aE (v:=.int 10) rfl T.w6.choose_spec ⟨_,rfl⟩) aA)))) (bY (i:=4) nd rfl (Or.inl rfl))
   (ao (aU (i:=5) nd rfl (Or.inl rfl) (eW G_letters_of (hr.mono (by decide)) rfl T.yd T.j8.kp T.nX .nil bh (ak (pv 4) aA)))
   (ao (Ms (i:=3) nd rfl (Or.inl rfl) (pv 5) F7)
   (ao (a6 (PW.pt (FC (rJ (pv 5) (fun _=>rfl)) (Bi (gk (eW G_vanishes (hr.mono (by decide)) rfl T.BI T.pH.kp T.tE .nil bh (ak (pv 4) aA))))))
   (au FG)
   aL)
   (ao (a6 (rJ (pv 3) (fun _=>rfl))
   (ao (dD (mG PySem.F.plainAttrs_list PySem.F.slot_list_append PySem.F.type_list_append eD (pv 2) (ak (pv 3) aA)))
   (au (aU (i:=3) nd rfl (Or.inl rfl) sO)))
   aL)
   (au (a6 (PW.pt (yW (aV f9 (pv 4) (aE (v:=.int 10) rfl T.w6.choose_spec ⟨_,rfl⟩) (aY _)) (vF (rJ (pv 2) (fun _=>rfl)))))
   (ao (dD (mG PySem.F.plainAttrs_list PySem.F.slot_list_append PySem.F.type_list_append eD (pv 1) (ak (pv 2) aA)))
   (au (aU (i:=2) nd rfl (Or.inl rfl) (bK aA))))
   aL)))))))
   (au (aJ (pv 1))))))),?_⟩
  walk_at "r1"
  walk_at "r2"
  intro p hp q hq
  have xZ:p≠q:=by intro z;rw[z,aj]at hq;cases hq
  have hqH:H q=none:=by rwa [aq xZ.symm]at hq
  have K0:Kp [] H (upd (upd H p (.lst [])) q (.lst [])):=(Kp.new hp).aX hqH
  have hsz:sizeLine=16777216:=rfl
  have e10:nv cs++[V.int 10]=nv (cs++[10]):=by simp[nv]
  have hcs:∀c∈cs++[10],c≤4294967296:=fun c h=>by
   rcases List.mem_append.mp h with h |h
   ·exact hc c h
   ·rw[List.mem_singleton.mp h];decide
  refine⟨_,rfl,by show 1≤2 ^ 24;decide,fun d hd=>⟨l,d,_,_,rfl,rfl,by rw[aq (aD (K0 _ _ hl (by simp)) hd)];exact K0 _ _ hl (by simp),aj,by simp[nv];omega,fun e he=>⟨e,rfl,⟨_,bW.of aj⟩,?_⟩⟩⟩
  rw[e10]
  have hp0:(upd (upd H p (.lst [])) q (.lst [])) p=some (.lst []):=by rw[aq xZ,aj]
  have hq0:(upd (upd H p (.lst [])) q (.lst [])) q=some (.lst []):=aj
  have hd1:∀{b:Addr}{u:HO},(upd (upd H p (.lst [])) q (.lst [])) b=some u→(upd (upd (upd (upd H p (.lst [])) q (.lst [])) d (.lst [V.int 10])) e (.lst (nv (cs++[10])))) b=some u:=fun{b u} h=>by
   have h2:upd (upd (upd H p (.lst [])) q (.lst [])) d (.lst [V.int 10]) b=some u:=by rw[aq (aD h hd)];exact h
   rw[aq (aD h2 he)]
   exact h2
  have QT:e≠p:=by
   intro z
   have h2:upd (upd (upd H p (.lst [])) q (.lst [])) d (.lst [V.int 10]) p=some (.lst []):=by rw[aq (aD hp0 hd)];exact hp0
   rw[z,h2]at he;cases he
  have neq:e≠q:=by
   intro z
   have h2:upd (upd (upd H p (.lst [])) q (.lst [])) d (.lst [V.int 10]) q=some (.lst []):=by rw[aq (aD hq0 hd)];exact hq0
   rw[z,h2]at he;cases he
  refine u6 (K:=K) (a:=e) (xs:=nv (cs++[10])) (fun i σ H'=>∃(L:List (List Bytes))(W:List Bytes)(w:Bytes)(as:List Addr)(q:Addr)(u v:Option V),σ=[some (.ref l),some (.ref p),some (.ref q),some (.str (bs w)),u,v]∧LWI H H' p q e as L W (cs++[10])∧Pm.gw L W w ((cs++[10]).drop i)=Pm.gQ cs∧w.length≤3*i∧W.length≤i∧L.length≤i)
   ⟨[],[],[],[],q,none,none,rfl,⟨hd1 hp0,hd1 hq0,aj,xZ,QT,neq,hp,hqH,fun b o h _=>hd1 (K0 b o h (by simp)),fun _=>none,(fun b o h=>by cases h),rfl,rfl,rfl,(fun i a ws h=>by simp at h)⟩,rfl,by simp,by simp,by simp⟩ (fun i σ H' _ zz=>by obtain⟨_,_,_,_,_,_,_,_,I,_⟩:=zz;exact bW.of I.he) ?_ ?_
  ·rintro i x σ H' hx ⟨L,W,w,as,q,u,v,rfl,I,hs,l1,l2,l3⟩
   obtain⟨c,hc2,rfl⟩:=Rw hx
   have hi:i<(cs++[10]).length:=(List.getElem?_eq_some_iff.mp hc2).1
   have hi2:i<cs.length+1:=by simpa using hi
   have hcl:=hcs c (List.mem_of_getElem? hc2)
   have hdr:(cs++[10]).drop i=c::(cs++[10]).drop (i+1):=by rw[List.drop_eq_getElem_cons hi,(List.getElem?_eq_some_iff.mp hc2).2]
   rw[hdr,Pm.gw]at hs
   have hlen:=F5 hcl
   have hasL:as.length=L.length:=by obtain⟨G,_,_,_,g4⟩:=I.g;exact g4.1
   walk_at "r1"
   walk_at "r2"
   have tail:∀(H1:Hp)(W':List Bytes),LWI H H1 p q e as L W' (cs++[10])→(if(c==10&& !W'.isEmpty)=true then Pm.gw (L++[W']) [] [] ((cs++[10]).drop (i+1))else Pm.gw L W' [] ((cs++[10]).drop (i+1)))=Pm.gQ cs→W'.length≤i+1→
     GX (V.int (c:Nat)) (V.int 10)=true∧if((c:Nat):Int)=10 then ∃k,ND K (V.ref q) H1 k∧(if k=true then O6 K "list" (V.ref p) H1∧∃x_2,H1 p=some (HO.lst x_2)∧x_2.length<sizeLine∧∀p_1,upd H1 p (HO.lst (x_2++[V.ref q])) p_1=none→
      ∃L W w_1,Str.ofString ""=bs w_1∧(∃x,LWI H (upd (upd H1 p (.lst (x_2++[.ref q]))) p_1 (.lst [])) p p_1 e x L W (cs++[10]))∧Pm.gw L W w_1 (List.drop (i+1) (cs++[10]))=Pm.gQ cs∧List.length w_1≤3*(i+1)∧W.length≤i+1∧L.length≤i+1
      else ∃L W w_1,Str.ofString ""=bs w_1∧(∃x,LWI H H1 p q e x L W (cs++[10]))∧Pm.gw L W w_1 (List.drop (i+1) (cs++[10]))=Pm.gQ cs∧List.length w_1≤3*(i+1)∧W.length≤i+1∧L.length≤i+1)
      else ∃L W w_1,Str.ofString ""=bs w_1∧(∃x,LWI H H1 p q e x L W (cs++[10]))∧Pm.gw L W w_1 (List.drop (i+1) (cs++[10]))=Pm.gQ cs∧List.length w_1≤3*(i+1)∧W.length≤i+1∧L.length≤i+1:=by
    intro H1 W' J hs' hW'
    refine⟨rfl,?_⟩
    by_cases c10:c=10
    ·rw[if_pos (by omega)]
     have hc10:(c==10)=true:=by simp[c10]
     rw[hc10,Bool.true_and]at hs'
     refine⟨!W'.isEmpty,.inl ⟨_,bW.of J.hq,by simp[tx]⟩,?_⟩
     cases hW:W'.isEmpty with
     |true=>
      rw[hW]at hs'
      exact⟨L,W',[],rfl,⟨as,J⟩,hs',by simp,hW',by omega⟩
     |false=>
      rw[hW]at hs'
      refine⟨.inl ⟨rfl,_,bW.of J.hp⟩,_,J.hp,by simp;omega,fun q' hq'=>⟨L++[W'],[],[],rfl,⟨_,J.line hq'⟩,hs',by simp,by simp,by simp;omega⟩⟩
    ·rw[if_neg (by omega)]
     have hc10:(c==10)=false:=by simp[c10]
     rw[hc10,Bool.false_and]at hs'
     exact⟨L,W',[],rfl,⟨as,J⟩,hs',by simp,hW',by omega⟩
   refine⟨c,rfl,_,rfl,by rw[fD,fD];omega,!(Pm.lets c).isEmpty,⟨by rw[fD];omega,HM _⟩,?_⟩
   simp only[QL]
   cases hl:(Pm.lets c).isEmpty with
   |false=>
    rw[hl]at hs
    refine⟨L,W,w++Pm.lets c,rfl,⟨as,I⟩,by simpa using hs,by simp;omega,by omega,by omega⟩
   |true=>
    have hl0:Pm.lets c=[]:=List.isEmpty_iff.mp hl
    rw[hl0,List.append_nil]at hs ⊢
    refine⟨c,rfl,fun D xs hD=>⟨_,rfl,?_⟩⟩
    have I1:=I.new (o:=.lst xs) hD
    cases hv:Pm.van c with
    |true=>
     rw[hv]at hs
     exact⟨L,W,w,rfl,⟨as,I1⟩,by simpa using hs,by omega,by omega,by omega⟩
    |false=>
     rw[hv]at hs
     refine⟨!w.isEmpty,⟨by rw[fD];omega,HM _⟩,?_⟩
     cases hw:w.isEmpty with
     |true=>
      rw[hw]at hs
      have hw0:w=[]:=List.isEmpty_iff.mp hw
      subst hw0
      exact tail _ W I1 (by simpa using hs) (by omega)
     |false=>
      rw[hw]at hs
      exact⟨.inl ⟨rfl,_,bW.of I1.hq⟩,_,I1.hq,by simp[tx];omega,tail _ (W++[w]) (I1.word w) (by simpa using hs) (by simp;omega)⟩
  ·rintro σ H' ⟨L,W,w,as,q,u,v,rfl,I,hs,l1,l2,l3⟩
   walk_at "r1"
   walk_at "r2"
   obtain⟨G,g1,g2,g3,g4⟩:=I.g
   have:(cs++[10]).drop (nv (cs++[10])).length=[]:=by simp[nv]
   rw[this]at hs
   refine k p as H' hp I.hp ?_ I.kk
   rw[←hs]
   exact g4.same g1
end
theorem M9{K:PySem.W.Frag}{tl:TA}{a:Addr}{xs:List V}{t:KJ}{tb:TS}{D:Ends}{σ:L2.St}{H:Hp}(h:∀Q:List V→Hp→Prop,Q [.ref a] H→tl σ H Q)(hx:bW K H a xs)(Pv:Nat→L2.St→Hp→Prop)(h0:Pv 0 σ H)(hl:∀i σ H,i≤xs.length→Pv i σ H→bW K H a xs)
  (hs:∀i x σ H T,xs[i]? =some x→Pv i σ H→H T=none→t [.int (i:Nat),x] σ (upd H T (.tup [.int (i:Nat),x])) fun σ2 H2=>tb { D with nx:=Pv (i+1),ct:=Pv (i+1),bk:=D.nx } σ2 H2) (hd:∀σ H,Pv xs.length σ H→D.nx σ H):Lx (P2 K tl) (Ku K 2 t) tb D σ H:=by
 refine h _ ⟨a,xs,rfl,hx,fun i m σ H=>m=xs.length - i∧i≤xs.length∧Pv i σ H,⟨xs.length,by simp,Nat.zero_le _,h0⟩,?_⟩
 rintro i m σ H ⟨rfl,hi,hv⟩
 have hsq:=hl i σ H hi hv
 by_cases c:i=xs.length
 ·subst c
  exact .inl ⟨⟨xs,hsq,Nat.le_refl _⟩,hd σ H hv⟩
 ·have hlt:i<xs.length:=by omega
  refine .inr ⟨⟨xs,xs[i],hsq,List.getElem?_eq_getElem hlt⟩,fun σ' H'=>Pv (i+1) σ' H',fun σ' H' hN=>⟨xs.length - (i+1),by omega,rfl,by omega,hN⟩,?_⟩
  rintro x H' ⟨T,y,rfl,hT,rfl,hy⟩
  have hy':=hy xs hsq
  exact⟨T,_,rfl,sE.of aj,rfl,hs i y σ H T hy' hv hT⟩
theorem MJ{α:Type}(F:List α)(p:α→Bool):true∈F.map p↔F.any p=true:=by
 rw[List.any_eq_true,List.mem_map]
theorem MV{α:Type}{l:List α}{p:α→Bool}{i:Nat}{x:α}(h:(l.take i).find? p=none)(hi:l[i]? =some x)(hp:p x=true):l.findIdx? p=some i:=by
 obtain⟨hil,hx⟩:=List.getElem?_eq_some_iff.mp hi
 rw[List.findIdx?_eq_some_iff_getElem]
 refine⟨hil,by rw[hx];exact hp,fun j hj=> ?_⟩
 have hm:l[j]∈l.take i:=by
  rw[List.mem_take_iff_getElem]
  exact⟨j,by omega,rfl⟩
 exact List.find?_eq_none.mp h _ hm
section
variable{P:Program}{w:World}{K:PySem.W.Frag}{mg:Str→Option Value}{base:Heap}{ad:Ad}
def zv(cs:List Int):List V:=cs.map V.int
theorem QX{b:List Int}{i:Nat}{x:V}(h:(zv b)[i]? =some x):∃c,b[i]? =some c∧x= .int c:=by
 unfold zv at h
 rw[List.getElem?_map]at h
 cases e:b[i]? with
 |none=>rw[e]at h;cases h
 |some c=>rw[e]at h;exact⟨c,rfl,(Option.some.inj h).symm⟩
def Ce(ad:Ad)(H:Hp)(E:XK)(n:Nat):Prop:=∀dx H',H' dx=some (xD dx [("place",.int n)])→Kp [] H H'→E (.ref ad.dS) (some dx) H'
def vV(ad:Ad):Sp:=fun vs H Q E=>∃(l:Addr)(z:List Int),vs=[.ref l]∧H l=some (.lst (zv z))∧z.length≤100000∧
 (512<z.length→∀H',Kp [] H H'→E (.ref ad.bX) none H')∧(z.length≤512→∀k,z.findIdx? (fun c=> !Wqatco.wide c)=some k→Ce ad H E k)∧
 (z.length≤512→z.findIdx? (fun c=> !Wqatco.wide c)=none→∀H',Kp [] H H'→Q .non H')
theorem vY(T:Txt K mg ad):bA P w K mg base (wz P w (Nc ad)) 3 ad.gB ad.cA ["name"] (vV ad):=by
 have G_is_wide:=Hc (P:=P) (w:=w) (base:=base) T
 have G_NotWide_init:=Af (P:=P) (w:=w) (base:=base) T
 refine T.d6.Ap nB (fun vs H Q E h=> ?_) (fun cdv A outer s H vs Q E hr h X hX fl po=> ?_)
 ·obtain⟨l,z,rfl,_⟩:=h
  rfl
 ·obtain⟨l,z,rfl,hl,hz,k1,k2,k3⟩:=h
  have nd:=nB.nd
  have hu:=a7 hr
  subst hX
  have ps:=b9.passes fl rfl
  refine⟨_,(ao (a6 (aV v8 (a9 (a8 (K:=K) rfl) (by rfl) T.c9 PySem.boot_len (ak (pv 0) aA)) (aE (v:=.int 512) rfl T.qg.choose_spec ⟨_,rfl⟩) (aY _))
   (au (bG fl rfl rfl ⟨T.kO,T.kI⟩ T.oA rfl))
   aL)
   (au (oP po rfl (Od (by rfl) T.x3 (ak (pv 0) aA)) (Eg (n:=2) rfl (i9 (bY (i:=1) nd rfl (Or.inl rfl)) (i9 (bY (i:=2) nd rfl (Or.inl rfl)) Ao)))
   (au (a6 (oO (gk (eW G_is_wide (hr.mono (by decide)) rfl T.Dn T.sA.kp T.vP .nil bh (ak (pv 2) aA))))
   (au (yY fl rfl rfl T.Av G_NotWide_init (hr.mono (by decide)).h rfl T.wO T.j4 (by decide) (ak (pv 1) aA)))
   aL))))),?_⟩
  have hlen:(zv z).length=z.length:=by simp[zv]
  walk_at "r1"
  walk_at "r2"
  refine⟨_,dF hl,?_⟩
  rw[hlen]
  by_cases c:512<z.length
  ·rw[if_pos (by omega)]
   exact k1 c H (Kp.refl _ _)
  ·rw[if_neg (by omega)]
   refine M9 (a:=l) (xs:=zv z) (fun Q q=>⟨_,rfl,q⟩) (bW.of hl) (fun i σ H'=>(∃u v,σ=[some (.ref l),u,v])∧Kp [] H H'∧Gv z (fun c=> !Wqatco.wide c) i) ⟨⟨none,none,rfl⟩,Kp.refl _ _,rfl⟩ (fun i σ H' _ zz=>by obtain⟨_,KK,_⟩:=zz;exact bW.of (KK _ _ hl (by simp))) ?_ ?_
   ·rintro i x σ H' Tt hx ⟨⟨u,v,rfl⟩,KK,hf⟩ hT
    obtain⟨c,hc,rfl⟩:=QX hx
    obtain⟨f1,f2⟩:=vI hc hf
    walk_at "r1"
    walk_at "r2"
    refine⟨c,rfl,?_⟩
    have KK2:Kp [] H (upd H' Tt (.tup [.int (i:Nat),.int c])):=KK.trans (Kp.new hT)
    refine⟨_,rfl,?_⟩
    cases hw:Wqatco.wide c with
    |true=>exact⟨KK2,f2 (by rw[hw];rfl)⟩
    |false=>
     refine⟨_,rfl,fun a ha=>⟨a,i,rfl,aj,fun dx hdx=>⟨rfl,dx,?_⟩⟩⟩
     obtain⟨m1,m2,m3⟩:=Ew (o1:=xO a ad.dS none) (o2:=xO a ad.dS (some dx)) (o3:=xD dx [("place",.int (i:Nat))]) KK2 ha hdx
     exact⟨m3,k2 (by omega) i (MV hf hc (by rw[hw];rfl)) dx _ m2 m1⟩
   ·rintro σ H' ⟨⟨u,v,rfl⟩,KK,hf⟩
    refine k3 (by omega) ?_ H' KK
    unfold Gv at hf
    rw[hlen,List.take_length]at hf
    rw[List.findIdx?_eq_none_iff]
    intro x hx
    have:=List.find?_eq_none.mp hf x hx
    simpa using this
def Fn(ad:Ad):Sp:=fun vs H Q E=>∃(l:Addr)(cs:List Nat),vs=[.ref l]∧H l=some (.lst (nv cs))∧cs.length≤100000∧(∀c∈cs,c≤4294967296)∧
 (tooMuch (wordsOf cs)=true→∀H',Kp [] H H'→E (.ref ad.bX) none H')∧(tooMuch (wordsOf cs)=false→∀p H',H p=none→H' p=some (.lst (tx (Wqatco.personOf cs)))→Kp [] H H'→Q (.ref p) H')
theorem yg:∀(t:List Nat)(L:List (List Bytes))(W:List Bytes)(w:Bytes),(Pm.gw L W w t).flatten.length+(Pm.gw L W w t).length≤L.flatten.length+L.length+W.length+2*t.length+1∧∀n:Nat,w.length+3*t.length≤n→(∀c∈t,c≤4294967296)→(∀y∈W,y.length≤n)→(∀l∈L,∀y∈l,y.length≤n)→∀l∈Pm.gw L W w t,∀y∈l,y.length≤n
 |[],L,W,w=>by
  refine⟨by simp[Pm.gw];omega,fun n hn _ _ hL=>by rw[Pm.gw];exact hL⟩
 |c::t,L,W,w=>by
  have hW:(if w.isEmpty=true then W else W++[w]).length≤W.length+1:=by split<;>simp
  have hWn:∀n,w.length≤n→(∀y∈W,y.length≤n)→∀y∈(if w.isEmpty=true then W else W++[w]),y.length≤n:=by
   intro n hn h y hy
   split at hy
   ·exact h y hy
   ·rcases List.mem_append.mp hy with hy |hy
    ·exact h y hy
    ·rw[List.mem_singleton.mp hy];exact hn
  rw[Pm.gw]
  generalize (if w.isEmpty=true then W else W++[w])=W' at hW hWn ⊢
  split
  ·obtain⟨a,b⟩:=yg t L W (w++Pm.lets c)
   refine⟨by simp at a ⊢;omega,fun n hn hc h1 h2=>b n ?_ (fun d hd=>hc d (List.mem_cons_of_mem _ hd)) h1 h2⟩
   have:=F5 (hc c (List.mem_cons_self ..))
   simp at hn ⊢
   omega
  ·split
   ·obtain⟨a,b⟩:=yg t (L++[W']) [] []
    refine⟨?_,fun n hn hc h1 h2=>b n (by simp at hn ⊢;omega) (fun d hd=>hc d (List.mem_cons_of_mem _ hd)) (by simp) fun l hl=> ?_⟩
    ·rw[List.flatten_append,List.length_append,List.length_append]at a
     have e1:[W'].flatten.length=W'.length:=by simp
     rw[e1]at a
     simp only[List.length_singleton,List.length_nil,List.length_cons]at a ⊢
     omega
    ·rcases List.mem_append.mp hl with hl |hl
     ·exact h2 l hl
     ·rw[List.mem_singleton.mp hl]
      exact hWn n (by simp at hn;omega) h1
   ·obtain⟨a,b⟩:=yg t L W' []
    refine⟨by simp only[List.length_cons];omega,fun n hn hc h1 h2=>b n (by simp at hn ⊢;omega) (fun d hd=>hc d (List.mem_cons_of_mem _ hd)) (hWn n (by simp at hn;omega) h1) h2⟩
theorem FP(T:Txt K mg ad):bA P w K mg base (wz P w (Nc ad)) 4 ad.sX ad.jH ["name"] (Fn ad):=by
 have G_lines_of_words:=xU (P:=P) (w:=w) (base:=base) T
 refine T.pF.Ap zK (fun vs H Q E h=> ?_) (fun cdv A outer s H vs Q E hr h X hX fl po=> ?_)
 ·obtain⟨l,cs,rfl,_⟩:=h
  rfl
 ·obtain⟨l,cs,rfl,hl,hz,hc,k1,k2⟩:=h
  have nd:=zK.nd
  have hu:=a7 hr
  subst hX
  have ps:=b9.passes fl rfl
  refine⟨_,(ao (aU (i:=1) nd rfl (Or.inl rfl) (eW G_lines_of_words (hr.mono (by decide)) rfl T.rR T.fY.kp T.iU .nil bh (ak (pv 0) aA)))
   (ao (aU (i:=2) nd rfl (Or.inl rfl) (bK aA))
   (ao (oP po rfl (gS (pv 1)) (bY (i:=3) nd rfl (Or.inl rfl))
   (au (dD (mG PySem.F.plainAttrs_list PySem.F.slot_list_extend PySem.F.type_list_extend Di (pv 2) (ak (pv 3) aA)))))
   (ao (a6 (PW.pt (FC (aV v8 (a9 (a8 (K:=K) rfl) (by rfl) T.c9 PySem.boot_len (ak (pv 1) aA)) (aE (v:=.int 8) rfl T.mP.choose_spec ⟨_,rfl⟩) (aY _)) (Bi (aV v8 (a9 (a8 (K:=K) rfl) (by rfl) T.c9 PySem.boot_len (ak (pv 2) aA)) (aE (v:=.int 128) rfl T.mO.choose_spec ⟨_,rfl⟩) (aY _)))))
   (au (bG fl rfl rfl ⟨T.kO,T.kI⟩ T.oA rfl))
   aL)
   (ao (a6 (gk (a9 (Hw rfl) (by rfl) T.Eu PyProof.Rows.boot_any (ak (II rfl nd (gS (pv 2)) (pE ["name","lines","words","line","word"] (aC sL) [("word",4)] (by decide +kernel)) (fun _ _ _ _ _=>(bY (i:=4) nd rfl (Or.inl rfl))) (fun _ _ _ _ _=>xQ) (fun _ _ _ _ _=>(nN v8 (a9 (a8 (K:=K) rfl) (by rfl) T.c9 PySem.boot_len (ak (pv 4) aA)) (aE (v:=.int 32) rfl T.pD.choose_spec ⟨_,rfl⟩) (aY _)))) aA)))
   (au (bG fl rfl rfl ⟨T.kO,T.kI⟩ T.oA rfl))
   aL)
   (au (aJ (pv 2)))))))),?_⟩
  rw[Pm.GI hc]at k1 k2
  have ew:Wqatco.personOf cs=(Pm.gQ cs).flatten:=(Pm.E4 hc).1
  rw[ew]at k2
  have hsz:sizeLine=16777216:=rfl
  obtain⟨b1,b2⟩:=yg (cs++[10]) [] [] []
  have b1:(Pm.gQ cs).flatten.length+(Pm.gQ cs).length≤200003:=by
   have:=b1
   simp at this
   unfold Pm.gQ
   rw[List.length_flatten]
   omega
  have b2:∀l∈Pm.gQ cs,∀y∈l,y.length≤300003:=b2 300003 (by simp;omega) (fun c h=>by
   rcases List.mem_append.mp h with h |h
   ·exact hc c h
   ·rw[List.mem_singleton.mp h];decide) (by simp) (by simp)
  walk_at "r1"
  walk_at "r2"
  refine⟨l,cs,rfl,hl,hz,hc,fun p as H1 hp hp1 hL KK w hw=> ?_⟩
  generalize Pm.gQ cs=L at*
  have hpw:p≠w:=aD hp1 hw
  have hwH:=KK.free (by simp) hw
  have KK1:Kp [] H (upd H1 w (.lst [])):=KK.trans (Kp.new hw)
  have hasL:=hL.1
  have hL1:∀(i:Nat)(a:Addr)(ws:List Bytes),as[i]? =some a→L[i]? =some ws→a≠w∧H1 a=some (.lst (tx ws)):=fun i a ws ha hws=>⟨aD (hL.2 i a ws ha hws) hw,hL.2 i a ws ha hws⟩
  refine for_in (a:=p) (xs:=as.map V.ref) (fun Q q=>⟨_,rfl,q⟩) (bW.of (by rw[aq hpw];exact hp1)) (fun i σ H'=>(∃u,σ=[some (.ref l),some (.ref p),some (.ref w),u,none])∧H'=upd H1 w (.lst (tx (L.take i).flatten))) ⟨⟨none,rfl⟩,by simp[tx]⟩ (fun i σ H' _ zz=>by obtain⟨_,e⟩:=zz;exact bW.of (by rw[e,aq hpw];exact hp1)) ?_ ?_
  ·rintro i x σ H' hx ⟨⟨u,rfl⟩,rfl⟩
   rw[List.getElem?_map]at hx
   cases ea:as[i]? with
   |none=>rw[ea]at hx;cases hx
   |some a=>
    rw[ea]at hx
    cases hx
    have hi:i<L.length:=by rw[←hasL];exact(List.getElem?_eq_some_iff.mp ea).1
    have eL:L[i]? =some L[i]:=List.getElem?_eq_getElem hi
    obtain⟨n1,h1⟩:=hL1 i a _ ea eL
    have et:(L.take (i+1)).flatten=(L.take i).flatten++L[i]:=by rw[List.take_add_one,eL,List.flatten_append];simp
    have hle:(L.take i).flatten.length+L[i].length≤L.flatten.length:=by
     have e3:L=L.take (i+1)++L.drop (i+1):=(List.take_append_drop ..).symm
     have:L.flatten.length=(L.take (i+1)).flatten.length+(L.drop (i+1)).flatten.length:=by
      rw[←List.length_append,←List.flatten_append,←e3]
     rw[this,et,List.length_append]
     omega
    walk_at "r1"
    walk_at "r2"
    refine⟨.inl ⟨rfl,_,bW.of aj⟩,_,by rw[aq n1];exact h1,by simp only[tx,List.length_map];omega,?_⟩
    rw[et]
    simp[tx]
  ·rintro σ H' ⟨⟨u,rfl⟩,rfl⟩
   rw[List.length_map,hasL,List.take_length]
   have KK2:Kp [] H (upd H1 w (.lst (tx L.flatten))):=KK.trans (Kp.new hw)
   have ep:upd H1 w (.lst (tx L.flatten)) p=some (.lst (as.map V.ref)):=by rw[aq hpw];exact hp1
   have lp:pJ K (.ref p) (upd H1 w (.lst (tx L.flatten))) L.length:=by
    have:=dF (K:=K) ep
    rwa [List.length_map,hasL]at this
   have lw:pJ K (.ref w) (upd H1 w (.lst (tx L.flatten))) L.flatten.length:=by
    have:=dF (K:=K) (H:=upd H1 w (.lst (tx L.flatten))) (l:=w) aj
    rwa [tx,List.length_map]at this
   walk_at "r1"
   walk_at "r2"
   refine⟨_,lp,?_⟩
   by_cases c1:8<L.length
   ·rw[if_pos (by omega)]
    exact k1 (by rw[decide_eq_true c1];rfl) _ KK2
   ·rw[if_neg (by omega)]
    rw[decide_eq_false c1,Bool.false_or]at k1 k2
    refine⟨_,lw,?_⟩
    by_cases c2:128<L.flatten.length
    ·rw[if_pos (by omega)]
     exact k1 (by rw[decide_eq_true c2];rfl) _ KK2
    ·rw[if_neg (by omega)]
     rw[decide_eq_false c2,Bool.false_or]at k1 k2
     refine P0 (a:=w) (xs:=tx L.flatten) wU (fun Q q=>⟨_,rfl,q⟩) (bW.of aj) (by simp only[tx,List.length_map];omega) (fun D j x H3 acc Nx hj hD e kn ky=> ?_) fun D hD=> ?_
     ·obtain⟨y,hy,rfl⟩:=KW hj
      obtain⟨ka,kb⟩:=ky (.bl (decide (32<(bs y).length))) rfl
      obtain⟨ll,hll,hyl⟩:=List.mem_flatten.mp (List.mem_of_getElem? hy)
      have hy':=b2 ll hll y hyl
      subst e
      walk_at "r1"
      walk_at "r2"
      refine⟨_,⟨by rw[fD];omega,rfl⟩,ka,?_⟩
      have e:decide ((32:Int)<((bs y).length:Nat))=decide (32<(bs y).length):=by simp;omega
      rw[e]
      exact kb
     ·have ef:(tx L.flatten).filterMap wU=(L.flatten.map fun w=>decide (32<w.length)).map V.bl:=by
       unfold tx
       rw[List.filterMap_map,List.map_map,←List.filterMap_eq_map]
       congr 1
       funext y
       simp[wU,fD]
      refine⟨D,rfl,_,bW.of (by rw[aj,ef]),?_⟩
      have ea:(true∈L.flatten.map fun w=>decide (32<w.length))↔(L.flatten.any fun w=>decide (32<w.length))=true:=MJ _ _
      by_cases ca:true∈L.flatten.map fun w=>decide (32<w.length)
      ·rw[if_pos ca]
       exact k1 (ea.mp ca) _ (KK2.trans (Kp.new hD))
      ·rw[if_neg ca]
       have nq:w≠D:=aD (H:=upd H1 w (.lst (tx L.flatten))) aj hD
       refine k2 ?_ w _ hwH (by rw[aq nq,aj]) (KK2.trans (Kp.new hD))
       cases h:(L.flatten.any fun w=>decide (32<w.length))with
       |false=>rfl
       |true=>exact absurd (ea.mpr h) ca
def sJ(ad:Ad):Sp:=fun vs H Q E=>∃(a d:Nat),vs=[.int a,.int d]∧(POINT<a∨DAY<d→E (.ref ad.iE) none H)∧(¬(POINT<a∨DAY<d)→Q .non H)
theorem jR(T:Txt K mg ad):bA P w K mg base (wz P w (Nc ad)) 1 ad.d8 ad.bL ["point","day"] (sJ ad):=by
 refine T.bQ.Ap jM (fun vs H Q E h=> ?_) (fun cdv A outer s H vs Q E hr h X hX fl po=> ?_)
 ·obtain⟨a,d,rfl,_⟩:=h
  rfl
 ·obtain⟨a,d,rfl,k1,k2⟩:=h
  have nd:=jM.nd
  have hu:=a7 hr
  subst hX
  have ps:=b9.passes fl rfl
  refine⟨_,(au (a6 (PW.pt (FC (aV v8 (pv 0) (aE (v:=.int 4095) rfl T.nU.choose_spec ⟨_,rfl⟩) (aY _)) (Bi (aV v8 (pv 1) (aE (v:=.int 1000000) rfl T.tu.choose_spec ⟨_,rfl⟩) (aY _)))))
   (au (bG fl rfl rfl ⟨T.zu,T.xg⟩ T.CM rfl))
   aL)),?_⟩
  unfold POINT DAY at k1 k2
  walk_at "r1"
  walk_at "r2"
  by_cases c1:4095<a
  ·rw[if_pos (by omega)]
   exact k1 (.inl c1)
  ·rw[if_neg (by omega)]
   by_cases c2:1000000<d
   ·rw[if_pos (by omega)]
    exact k1 (.inr c2)
   ·rw[if_neg (by omega)]
    exact k2 (by omega)
def vU(ad:Ad):Sp:=fun vs H Q E=>∃(a d:Nat)(l:Addr)(z:List Int),vs=[.int a,.int d,.ref l]∧H l=some (.lst (zv z))∧z.length≤100000∧
 (512<z.length→∀H',Kp [] H H'→E (.ref ad.bX) none H')∧
 (z.length≤512→∀k,z.findIdx? (fun c=> !Wqatco.wide c)=some k→Ce ad H E k)∧
 (z.length≤512→z.findIdx? (fun c=> !Wqatco.wide c)=none→
  (tooMuch (wordsOf (z.map Int.toNat))=true→∀H',Kp [] H H'→E (.ref ad.bX) none H')∧
  (tooMuch (wordsOf (z.map Int.toNat))=false→POINT<a∨DAY<d→∀H',Kp [] H H'→E (.ref ad.iE) none H')∧
  (tooMuch (wordsOf (z.map Int.toNat))=false→¬(POINT<a∨DAY<d)→∀p H',H p=none→H' p=some (.lst (tx (Wqatco.personOf (z.map Int.toNat))))→Kp [] H H'→Q (.ref p) H'))
theorem KS{z:List Int}(h:z.findIdx? (fun c=> !Wqatco.wide c)=none):zv z=nv (z.map Int.toNat)∧∀c∈z.map Int.toNat,c≤4294967296:=by
 rw[List.findIdx?_eq_none_iff]at h
 have hw:∀c∈z,0<c∧c.toNat≤1114111:=by
  intro c hc
  have:=h c hc
  simp only[Bool.not_eq_false']at this
  unfold Wqatco.wide isWide at this
  simp at this
  exact⟨this.1,by omega⟩
 constructor
 ·unfold zv nv
  rw[List.map_map]
  apply List.map_congr_left
  intro c hc
  have:=(hw c hc).1
  show V.int c=V.int ((c.toNat:Nat):Int)
  congr 1
  omega
 ·intro c hc
  obtain⟨y,hy,rfl⟩:=List.mem_map.mp hc
  have:=(hw y hy).2
  omega
theorem vX(T:Txt K mg ad):bA P w K mg base (wz P w (Nc ad)) 5 ad.gA ad.cu ["point","day","name"] (vU ad):=by
 have G_check_characters:=vY (P:=P) (w:=w) (base:=base) T
 have G_words_of:=FP (P:=P) (w:=w) (base:=base) T
 have G_check_point_and_day:=jR (P:=P) (w:=w) (base:=base) T
 refine T.d4.Ap nA (fun vs H Q E h=> ?_) (fun cdv A outer s H vs Q E hr h X hX fl po=> ?_)
 ·obtain⟨a,d,l,z,rfl,_⟩:=h
  rfl
 ·obtain⟨a,d,l,z,rfl,hl,hz,k1,k2,k3⟩:=h
  have nd:=nA.nd
  have hu:=a7 hr
  subst hX
  have ps:=b9.passes fl rfl
  refine⟨_,(ao (dD (bT G_check_characters (hr.mono (by decide)) rfl T.o7 T.d6.kp T.gE .nil ps (ak (pv 2) aA)))
   (ao (aU (i:=3) nd rfl (Or.inl rfl) (bT G_words_of (hr.mono (by decide)) rfl T.BH T.pF.kp T.tD .nil ps (ak (pv 2) aA)))
   (ao (dD (bT G_check_point_and_day (hr.mono (by decide)) rfl T.gP T.bQ.kp T.cF .nil ps (ak (pv 0) (ak (pv 1) aA))))
   (au (aJ (pv 3)))))),?_⟩
  walk_at "r1"
  walk_at "r2"
  refine⟨l,z,rfl,hl,hz,k1,k2,fun h1 h2 H1 KK1=> ?_⟩
  obtain⟨k4,k5,k6⟩:=k3 h1 h2
  obtain⟨e1,e2⟩:=KS h2
  refine⟨l,z.map Int.toNat,rfl,by rw[KK1 _ _ hl (by simp),e1],by simpa using hz,e2,fun ht H2 KK2=>k4 ht H2 (KK1.trans KK2),fun ht p H2 hp hp2 KK2=> ?_⟩
  have KK3:=KK1.trans KK2
  exact⟨a,d,rfl,fun hf=>k5 ht hf H2 KK3,fun hf=>k6 ht hf p H2 (KK1.free (by simp) hp) hp2 KK3⟩
def JQ(ad:Ad):Sp:=fun vs H Q _=>∃(a p:Addr)(x:Line)(num:V)(ps:List Bytes),vs=[.ref a,.ref p]∧tK ad H a x num∧H p=some (.lst (tx ps))∧(∀ws,x.for_=some ws→ws.length≤100000)∧Q (.bl (x.isFor ps)) H
theorem J8(T:Txt K mg ad):bA P w K mg base nj 1 ad.yj ad.nZ ["line","person"] (JQ ad):=by
 refine T.vq.ok C1 (fun vs H Q E h=> ?_) (fun cdv A outer s H vs Q E hr h=> ?_)
 ·obtain⟨a,p,x,num,ps,rfl,_⟩:=h
  rfl
 ·obtain⟨a,p,x,num,ps,rfl,⟨dx,wv,h1,h2⟩,hp,hws,k⟩:=h
  have nd:=C1.nd
  have hu:=a7 hr
  refine⟨_,(ao (a6 (yX (Ei (aM (pv 0) rfl)))
   (au (aJ xS))
   aL)
   (ao (aU (i:=2) nd rfl (Or.inl rfl) qS)
   (ao (oP PassesOwn.never rfl (gS (pv 1)) (bY (i:=3) nd rfl (Or.inl rfl))
   (au (a6 (PW.pt (yW (aV PX (pv 2) (a9 (a8 (K:=K) rfl) (by rfl) T.c9 PySem.boot_len (ak (aM (pv 0) rfl) aA)) (aY _)) (vF (aV f9 (pv 3) (Dd Ar (aM (pv 0) rfl) (pv 2) (fun _ _=>rfl)) (aY _)))))
   (au (Ms (i:=2) nd rfl (Or.inl rfl) qS QC))
   aL)))
   (au (aJ (nN f9 (pv 2) (a9 (a8 (K:=K) rfl) (by rfl) T.c9 PySem.boot_len (ak (aM (pv 0) rfl) aA)) (aY _))))))),?_⟩
  walk_at "r1"
  simp[and_assoc,aB,aH,aO,List.lookup_nil,-List.lookup_eq_none_iff,-Bool.exists_bool,-Bool.not_eq_eq_eq_not,L2.wipe,aj,aG,h1,T.bD,T.dI,pI]
  unfold Line.isFor at k
  cases hf:x.for_ with
  |none=>
   rw[hf]at h2 k
   have h2:wv= .non:=h2
   subst h2
   simpa using k
  |some ws=>
   rw[hf]at h2 k
   obtain⟨l,rfl,hl⟩:=h2
   have hw:=hws ws hf
   simp
   refine for_in (a:=p) (xs:=tx ps) (fun Q q=>⟨_,rfl,q⟩) (bW.of hp) (fun i σ H'=>H'=H∧∃(n:Nat)(u:Option V),σ=[some (.ref a),some (.ref p),some (.int n),u]∧n≤ws.length∧(ws.drop n).isSublist (ps.drop i)=ws.isSublist ps) ⟨rfl,0,none,rfl,Nat.zero_le _,rfl⟩ (fun i σ H' _ zz=>by obtain⟨e,_⟩:=zz;exact bW.of (by rw[e];exact hp)) ?_ ?_
   ·rintro i y σ H' hy ⟨rfl,n,u,rfl,hn,hs⟩
    obtain⟨b,hb,rfl⟩:=KW hy
    have hi:i<ps.length:=(List.getElem?_eq_some_iff.mp hb).1
    have hd:ps.drop i=b::ps.drop (i+1):=by rw[List.drop_eq_getElem_cons hi,(List.getElem?_eq_some_iff.mp hb).2]
    rw[hd]at hs
    walk_at "r1"
    simp[and_assoc,aB,aH,aO,List.lookup_nil,-List.lookup_eq_none_iff,-Bool.exists_bool,-Bool.not_eq_eq_eq_not,L2.wipe,aj,aG,h1,T.bD,T.dI,pI]
    have hlen:pJ K (.ref l) H' ws.length:=by have:=dF (K:=K) hl;rwa [tx,List.length_map]at this
    refine⟨_,hlen,?_⟩
    by_cases c:n<ws.length
    ·rw[if_pos c]
     have ew:ws.drop n=ws[n]::ws.drop (n+1):=List.drop_eq_getElem_cons c
     rw[ew]at hs
     refine⟨_,bW.of hl,_,vR (by rw[tx,List.getElem?_map,List.getElem?_eq_getElem c];rfl),rfl,?_⟩
     by_cases q:b=ws[n]
     ·rw[if_pos (by rw[q])]
      refine⟨_,_,rfl,rfl,rfl,n+1,by simp,c,?_⟩
      rw[←hs,q]
      simp[List.isSublist]
     ·rw[if_neg (fun z=>q (w8.mp (V.str.inj z)))]
      refine⟨n,rfl,hn,?_⟩
      rw[ew,←hs]
      have:¬ws[n]=b:=fun z=>q z.symm
      simp[List.isSublist,this]
    ·rw[if_neg c]
     have e0:ws.drop n=[]:=List.drop_of_length_le (by omega)
     refine⟨n,rfl,hn,?_⟩
     rw[←hs,e0]
     simp[List.isSublist]
   ·rintro σ H' ⟨rfl,n,u,rfl,hn,hs⟩
    have hlen:pJ K (.ref l) H' ws.length:=by have:=dF (K:=K) hl;rwa [tx,List.length_map]at this
    walk_at "r1"
    simp[and_assoc,aB,aH,aO,List.lookup_nil,-List.lookup_eq_none_iff,-Bool.exists_bool,-Bool.not_eq_eq_eq_not,L2.wipe,aj,aG,h1,T.bD,T.dI,pI]
    refine⟨_,hlen,rfl,?_⟩
    have e:decide ((n:Int)=(ws.length:Nat))=ws.isSublist ps:=by
     rw[←hs]
     have:ps.drop (tx ps).length=[]:=by simp[tx]
     rw[this]
     by_cases c:n=ws.length
     ·subst c;simp[List.isSublist]
     ·have ew:ws.drop n=ws[n]'(by omega)::ws.drop (n+1):=List.drop_eq_getElem_cons (by omega)
      rw[ew]
      simp[List.isSublist]
      omega
    rw[e]
    exact k
end
section
variable{P:Program}{w:World}{K:PySem.W.Frag}{mg:Str→Option Value}{base:Heap}{ad:Ad}
def NY(ad:Ad):Sp:=fun vs H Q _=>∃(a:Addr)(x:Line)(n:Nat),vs=[.ref a]∧tK ad H a x (.int n)∧∀p,H p=none→Q (.ref p) (upd H p (.tup [.bl x.for_.isSome,.int x.from_,.int n]))
theorem Oj(T:Txt K mg ad):bA P w K mg base nj 1 ad.ED ad.vJ ["line"] (NY ad):=by
 refine T.EY.ok Ip (fun vs H Q E h=> ?_) (fun cdv A outer s H vs Q E hr h=> ?_)
 ·obtain⟨a,x,n,rfl,_⟩:=h
  rfl
 ·obtain⟨a,x,n,rfl,⟨dx,wv,h1,h2⟩,k⟩:=h
  have nd:=Ip.nd
  have hu:=a7 hr
  refine⟨_,(au (aJ (yZ (ak (G5 (IK (aM (pv 0) rfl))) (ak (aM (pv 0) rfl) (ak (aM (pv 0) rfl) aA)))))),?_⟩
  walk_at "r1"
  simp[and_assoc,aB,aH,aO,List.lookup_nil,-List.lookup_eq_none_iff,-Bool.exists_bool,-Bool.not_eq_eq_eq_not,L2.wipe,aj,aG,h1,T.bD,T.dI,T.dW,T.cV,pI]
  have e:(!decide (wv=V.non))=x.for_.isSome:=by
   cases hf:x.for_ with
   |none=>rw[hf]at h2;have h2:wv= .non:=h2;subst h2;rfl
   |some ws=>rw[hf]at h2;obtain⟨l,rfl,_⟩:=h2;rfl
  rw[e]
  exact⟨by decide,k⟩
def AV(ad:Ad):Sp:=fun vs H Q _=>∃(a:Addr)(x:Line)(num:V)(d:Nat),vs=[.ref a,.int d]∧tK ad H a x num∧Q (.bl (x.inForce d)) H
theorem Bt(T:Txt K mg ad):bA P w K mg base nj 1 ad.lg ad.fN ["line","day"] (AV ad):=by
 refine T.jj.ok uh (fun vs H Q E h=> ?_) (fun cdv A outer s H vs Q E hr h=> ?_)
 ·obtain⟨a,x,num,d,rfl,_⟩:=h
  rfl
 ·obtain⟨a,x,num,d,rfl,⟨dx,wv,h1,h2⟩,k⟩:=h
  have nd:=uh.nd
  have hu:=a7 hr
  refine⟨_,(au (aJ (G6 (nN kF (aM (pv 0) rfl) (pv 1) (aY _)) (Eh (Rt (G5 (Ei (aM (pv 0) rfl))) (Eh (nN PX (pv 1) (aM (pv 0) rfl) (aY _)))))))),?_⟩
  walk_at "r1"
  simp[and_assoc,aB,aH,aO,List.lookup_nil,-List.lookup_eq_none_iff,-Bool.exists_bool,-Bool.not_eq_eq_eq_not,L2.wipe,aj,aG,h1,T.bD,T.gH,T.cV,pI]
  unfold Line.inForce at k
  by_cases c:x.from_≤d
  ·rw[if_pos (by omega)]
   rw[decide_eq_true c,Bool.true_and]at k
   cases hu:x.until_ with
   |none=>rw[hu]at k;simpa[NK]using k
   |some e=>rw[hu]at k;simpa[NK]using k
  ·rw[if_neg (by omega)]
   rw[decide_eq_false c,Bool.false_and]at k
   exact k
def FI(B E O F:Addr):List (Str×V):=[("by_point",.ref B),("person",.ref E),("own",.ref O),("found",.ref F)]
def vW(ad:Ad):Sp:=fun vs H Q _=>∃(p dx B E:Addr),vs=[.ref p,.ref B,.ref E]∧H p=some (.ins ad.aR dx [])∧∀O F H',H O=none→H F=none→O≠F→H' p=some (.ins ad.aR dx (FI B E O F))→H' O=some (.dK [])→H' F=some (.dT [])→Kp [p] H H'→Q .non H'
theorem nE(T:Txt K mg ad):bA P w K mg base nj 1 ad.gC ad.cB ["self","by_point","person"] (vW ad):=by
 refine T.gF.ok nD (fun vs H Q E h=> ?_) (fun cdv A outer s H vs Q E hr h=> ?_)
 ·obtain⟨p,dx,B,E',rfl,_⟩:=h
  rfl
 ·obtain⟨p,dx,B,E',rfl,hp,k⟩:=h
  have nd:=nD.nd
  have hu:=a7 hr
  refine⟨_,(ao (bR (pv 0) (pv 1) rfl)
   (ao (bR (pv 0) (pv 2) rfl)
   (ao (bR (pv 0) FO rfl)
   (au (bR (pv 0) FN rfl))))),?_⟩
  walk_at "r1"
  simp[and_assoc,aB,aH,aO,List.lookup_nil,-List.lookup_eq_none_iff,-Bool.exists_bool,-Bool.not_eq_eq_eq_not,L2.wipe,aj,aG,hp,T.aQ,T.bU,T.d7,T.cH,T.bB]
  intro O hO
  have nO:O≠p:=by intro z;rw[z,aj]at hO;cases hO
  have hO':H O=none:=by rwa [aq nO]at hO
  simp[and_assoc,aB,aH,aO,List.lookup_nil,-List.lookup_eq_none_iff,-Bool.exists_bool,-Bool.not_eq_eq_eq_not,L2.wipe,aj,aG,aq nO.symm,T.aQ,T.cH,T.bB,GL]
  intro F hF
  have nF:F≠p:=by intro z;rw[z,aj]at hF;cases hF
  have nFO:F≠O:=by intro z;rw[z,aq nO,aj]at hF;cases hF
  have hF':H F=none:=by rwa [aq nF,aq nFO,aq nF]at hF
  simp[and_assoc,aB,aH,aO,List.lookup_nil,-List.lookup_eq_none_iff,-Bool.exists_bool,-Bool.not_eq_eq_eq_not,L2.wipe,aj,aG,aq nF.symm,T.aQ,T.bB]
  refine k O F _ hO' hF' nFO.symm (by rw[aj];rfl) ?_ ?_ ?_
  ·rw[aq nO,aq nFO.symm,aq nO,aj]
  ·rw[aq nF,aj]
  ·intro b o e hb
   have hb:b≠p:=by simpa using hb
   rw[aq hb,aq (aD e hF'),aq hb,aq (aD e hO'),aq hb]
   exact e
def JC(how a d:Int)(g:Addr)(last:V):List (Str×V):=[("how",.int how),("point",.int a),("day",.int d),("lines",.ref g),("last",last)]
def Fp(ad:Ad):Sp:=fun vs H Q _=>∃(p dx:Addr)(how a d:Int)(g:Addr)(last:V),vs=[.ref p,.int how,.int a,.int d,.ref g,last]∧H p=some (.ins ad.qA dx [])∧Q .non (upd H p (.ins ad.qA dx (JC how a d g last)))
theorem FR(T:Txt K mg ad):bA P w K mg base nj 1 ad.sZ ad.jJ ["self","how","point","day","lines","last"] (Fp ad):=by
 refine T.tM.ok zM (fun vs H Q E h=> ?_) (fun cdv A outer s H vs Q E hr h=> ?_)
 ·obtain⟨p,dx,how,a,d,g,last,rfl,_⟩:=h
  rfl
 ·obtain⟨p,dx,how,a,d,g,last,rfl,hp,k⟩:=h
  have nd:=zM.nd
  have hu:=a7 hr
  refine⟨_,(ao (bR (pv 0) (pv 1) rfl)
   (ao (bR (pv 0) (pv 2) rfl)
   (ao (bR (pv 0) (pv 3) rfl)
   (ao (bR (pv 0) (pv 4) rfl)
   (au (bR (pv 0) (pv 5) rfl)))))),?_⟩
  walk_at "r1"
  simp[and_assoc,aB,aH,aO,List.lookup_nil,-List.lookup_eq_none_iff,-Bool.exists_bool,-Bool.not_eq_eq_eq_not,L2.wipe,aj,aG,hp,T.m8,T.iw,T.iH,T.sR,T.gq,T.uQ]
  exact k
def JR(ad:Ad):Sp:=fun vs H Q _=>∃(lv:V)(l:Option Line)(may been:Bool)(n:Nat),vs=[lv,.bl may,.bl been,.int n]∧(match l with |none=>lv= .non |some x=>∃a num,lv= .ref a∧tK ad H a x num)∧
 Q (match Pm.endAt l may been (decide (32≤n))with |some h=>.int (h:Nat)|none=>.non) H
theorem J9(T:Txt K mg ad):bA P w K mg base nj 1 ad.yp ad.n0 ["line","may","been_there","steps"] (JR ad):=by
 refine T.vA.ok C3 (fun vs H Q E h=> ?_) (fun cdv A outer s H vs Q E hr h=> ?_)
 ·obtain⟨lv,l,may,been,n,rfl,_⟩:=h
  rfl
 ·obtain⟨lv,l,may,been,n,rfl,hl,k⟩:=h
  have nd:=C3.nd
  have hu:=a7 hr
  refine⟨_,(ao (a6 (yX (Ei (pv 0)))
   (au (aJ (aE (v:=.int 0) rfl T.je.choose_spec ⟨_,rfl⟩)))
   aL)
   (ao (a6 (aV f9 (aM (pv 0) rfl) (aE (v:=.str "stop") rfl T.HA.choose_spec ⟨_,rfl⟩) (aY _))
   (au (aJ (aE (v:=.int 1) rfl T.DE.choose_spec ⟨_,rfl⟩)))
   aL)
   (ao (a6 (PW.pt (yW (aV f9 (aM (pv 0) rfl) (aE (v:=.str "move") rfl T.wZ.choose_spec ⟨_,rfl⟩) (aY _)) (vF (oO (gk (pv 1))))))
   (au (aJ (aE (v:=.int 4) rfl T.Jx.choose_spec ⟨_,rfl⟩)))
   aL)
   (ao (a6 (gk (pv 2))
   (au (aJ (aE (v:=.int 2) rfl T.Jw.choose_spec ⟨_,rfl⟩)))
   aL)
   (ao (a6 (aV MB (pv 3) (aE (v:=.int 32) rfl T.yu.choose_spec ⟨_,rfl⟩) (aY _))
   (au (aJ (aE (v:=.int 3) rfl T.Ca.choose_spec ⟨_,rfl⟩)))
   aL)
   (au (aJ sP))))))),?_⟩
  cases l with
  |none=>
   have hl:lv= .non:=hl
   subst hl
   walk_at "r1"
   walk_at "r2"
   exact k
  |some x=>
   obtain⟨a,num,rfl,dx,wv,h1,h2⟩:=hl
   have s1:∀y:Str,GX (V.str y) (V.str (Str.ofString "stop"))=true:=fun _=>rfl
   have s2:∀y:Str,GX (V.str y) (V.str (Str.ofString "move"))=true:=fun _=>rfl
   have e32:((32:Int)≤(n:Nat))=(32≤n):=propext (by omega)
   cases hw:x.what with
   |halt_=>
    walk_at "r1"
    simp[and_assoc,aB,aH,aO,List.lookup_nil,-List.lookup_eq_none_iff,-Bool.exists_bool,-Bool.not_eq_eq_eq_not,L2.wipe,aj,aG,h1,T.bD,T.eX,pI,hw,kdS,s1]
    simpa[Pm.endAt,hw]using k
   |move b o=>
    walk_at "r1"
    simp[and_assoc,aB,aH,aO,List.lookup_nil,-List.lookup_eq_none_iff,-Bool.exists_bool,-Bool.not_eq_eq_eq_not,L2.wipe,aj,aG,h1,T.bD,T.eX,pI,hw,kdS,s1,s2,gn]
    simp only[Pm.endAt,hw]at k
    cases may<;>cases been<;>by_cases c:32≤n<;>simp[c,e32]at k ⊢<;>exact k
   |hold=>
    walk_at "r1"
    simp[and_assoc,aB,aH,aO,List.lookup_nil,-List.lookup_eq_none_iff,-Bool.exists_bool,-Bool.not_eq_eq_eq_not,L2.wipe,aj,aG,h1,T.bD,T.eX,pI,hw,kdS,s1,s2,gn]
    simp only[Pm.endAt,hw]at k
    cases been<;>by_cases c:32≤n<;>simp[c,e32]at k ⊢<;>exact k
def adr(as:List Addr)(n:Nat):Addr:=as.getD n 0
def rf(as:List Addr)(T:List Pm.NL):List V:=T.map fun x=>.ref (adr as x.2)
def mX(S:List Pm.NL)(a:Nat):List Pm.NL:=S.filter fun x=>x.1.at_==a
def NI(H:Hp)(B:Addr)(S:List Pm.NL)(as:List Addr):Prop:=∃kvs:List (Key×V),H B=some (.dK kvs)∧(kvs.map (·.1)).Nodup∧kvs.length≤S.length∧(∀k v,(k,v)∈kvs→∃a:Nat,k=Sum.inl (a:Int)∧mX S a≠[])∧
 ∀a:Nat,(dj kvs (Sum.inl (a:Int))=none∧mX S a=[])∨∃l,dj kvs (Sum.inl (a:Int))=some (.ref l)∧H l=some (.lst (rf as (mX S a)))
structure Held(ad:Ad)(H:Hp)(ls:Lines)(as:List Addr)(S:List Pm.NL)(B:Addr):Prop where
 ln:ni ad H as ls 0
 ok:∀l∈ls,l.ok=true
 pm:S.Perm ls.zipIdx
 so:S.Pairwise fun x y=>Pm.before x y=true
 bp:NI H B S as
def EW(ad:Ad)(S:List Addr)(H:Hp)(B:Addr):Prop:=Loose ad S H∧B∉S
theorem NI.keep{S':List Addr}{H H':Hp}{B:Addr}{S:List Pm.NL}{as:List Addr}(h:NI H B S as)(KK:Kp S' H H')(hS:EW ad S' H B):NI H' B S as:=by
 obtain⟨kvs,h1,h2,h3,h4,h5⟩:=h
 refine⟨kvs,KK _ _ h1 hS.2,h2,h3,h4,fun a=>(h5 a).imp id ?_⟩
 rintro⟨l,e1,e2⟩
 exact⟨l,e1,KK _ _ e2 fun z=>(hS.1 l z).1 _ e2⟩
theorem Held.keep{S':List Addr}{H H':Hp}{B:Addr}{S:List Pm.NL}{as:List Addr}{ls:Lines}(h:Held ad H ls as S B)(KK:Kp S' H H')(hS:EW ad S' H B):Held ad H' ls as S B:=
 ⟨h.ln.keep KK hS.1,h.ok,h.pm,h.so,h.bp.keep KK hS⟩
theorem Held.line{H:Hp}{B:Addr}{S:List Pm.NL}{as:List Addr}{ls:Lines}(h:Held ad H ls as S B){x:Pm.NL}(hx:x∈S):tK ad H (adr as x.2) x.1 (.int (x.2:Nat)):=by
 have hm:=h.pm.mem_iff.mp hx
 obtain⟨l,i⟩:=x
 rw[List.mem_zipIdx_iff_getElem?]at hm
 have hm:ls[i]? =some l:=hm
 have hi:i<as.length:=by rw[h.ln.1];exact(List.getElem?_eq_some_iff.mp hm).1
 have:=h.ln.2 i as[i] l (List.getElem?_eq_getElem hi) hm
 show tK ad H (as.getD i 0) l _
 rw[List.getD_eq_getElem?_getD,List.getElem?_eq_getElem hi]
 simpa using this
def pA(S:List Pm.NL)(as:List Addr)(ps:List Bytes)(a d:Nat):V:=match((mX S a).filter fun x=>x.1.isFor ps).find? fun x=>x.1.inForce d with
 |none=>.non
 |some x=>.ref (adr as x.2)
structure PL(ad:Ad)(G:List Addr)(H:Hp)(S:List Pm.NL)(as:List Addr)(B p O F:Addr)(ps:List Bytes)(n:Nat):Prop where
 at_:∃dx E,H p=some (.ins ad.aR dx (FI B E O F))∧H E=some (.lst (tx ps))∧E∉G
 own:∃kvs:List (Key×V),H O=some (.dK kvs)∧kvs.length≤n∧∀(a:Nat) v,dj kvs (Sum.inl (a:Int))=some v→∃l,v= .ref l∧H l=some (.lst (rf as ((mX S a).filter fun x=>x.1.isFor ps)))∧l∉G
 found:∃kvs:List (List Key×V),H F=some (.dT kvs)∧kvs.length≤n∧∀(a d:Nat) v,dj kvs [Sum.inl (a:Int),Sum.inl (d:Int)]=some v→v=pA S as ps a d
 Hj:O≠F
 KO:O≠B
theorem PL.loose{G:List Addr}{H:Hp}{S:List Pm.NL}{as:List Addr}{B p O F:Addr}{ps:List Bytes}{n:Nat}(h:PL ad G H S as B p O F ps n)(hB:∃kvs,H B=some (.dK kvs)):EW ad [O,F] H B:=by
 obtain⟨k1,e1,_⟩:=h.own
 obtain⟨k2,e2,_⟩:=h.found
 obtain⟨k3,e3⟩:=hB
 refine⟨fun a ha=> ?_,?_⟩
 ·simp at ha
  rcases ha with rfl |rfl
  ·exact⟨fun xs z=>(by rw[e1]at z;cases z),fun dx fs z=>(by rw[e1]at z;cases z)⟩
  ·exact⟨fun xs z=>(by rw[e2]at z;cases z),fun dx fs z=>(by rw[e2]at z;cases z)⟩
 ·simp
  exact⟨h.KO.symm,fun z=>(by rw[z,e2]at e3;cases e3)⟩
theorem PL.keep{G S':List Addr}{H H':Hp}{S:List Pm.NL}{as:List Addr}{B p O F:Addr}{ps:List Bytes}{n:Nat}(h:PL ad G H S as B p O F ps n)(KK:Kp S' H H')(hS:∀a∈S',((∀xs,H a≠some (.lst xs))∨a∈G)∧a≠p∧a≠O∧a≠F):PL ad G H' S as B p O F ps n:=by
 obtain⟨⟨dx,E,e1,e2,e3⟩,⟨k1,o1,o2,o3⟩,⟨k2,f1,f2,f3⟩,Hj,KO⟩:=h
 refine⟨⟨dx,E,KK _ _ e1 fun z=>(hS _ z).2.1 rfl,KK _ _ e2 fun z=>(hS _ z).1.elim (fun q=>q _ e2) e3,e3⟩,⟨k1,KK _ _ o1 fun z=>(hS _ z).2.2.1 rfl,o2,fun a v hv=> ?_⟩,⟨k2,KK _ _ f1 fun z=>(hS _ z).2.2.2 rfl,f2,f3⟩,Hj,KO⟩
 obtain⟨l,r1,r2,r3⟩:=o3 a v hv
 exact⟨l,r1,KK _ _ r2 fun z=>(hS _ z).1.elim (fun q=>q _ r2) r3,r3⟩
theorem IW{K:PySem.W.Frag}{a D:Addr}{xs:List V}{g:TG}{tt:TT}{te:TE}{vs:List Nat}{σ:L2.St}{H:Hp}{Qd:Hp→Prop}(hD:H D=none)(out:Nat→List V)(h0:out 0=[])(hx:bW K H a xs)
  (hs:∀(i:Nat)(x:V)(Nx:Hp→Prop),xs[i]? =some x→Nx (upd H D (.lst (out (i+1))))→
   g x (wipe σ vs) (upd H D (.lst (out i))) fun σ2 H2=>wipe σ2 vs=wipe σ vs∧tt σ2 H2 fun b H3=>if b=true then te σ2 H3 fun y H4=>∃acc,H4 D=some (.lst acc)∧acc.length<sizeLine∧Nx (upd H4 D (.lst (acc++[y])))else Nx H3)
  (hd:Qd (upd H D (.lst (out xs.length)))):∃W:Nat→Nat→Hp→Prop,(∃m,W 0 m (upd H D (.lst [])))∧∀i m H,W i m H→
   ((KN K a).stop i H∧Qd H)∨((KN K a).go i H∧∃Nx:Hp→Prop,(∀H',Nx H'→∃m',m'<m∧W (i+1) m' H')∧∀x H',(KN K a).OZ i H x H'→g x (wipe σ vs) H' fun σ2 H2=>wipe σ2 vs=wipe σ vs∧tt σ2 H2 fun b H3=>
     if b=true then te σ2 H3 fun y H4=>∃acc,H4 D=some (.lst acc)∧acc.length<sizeLine∧Nx (upd H4 D (.lst (acc++[y])))else Nx H3):=by
 refine IV (K:=K) (a:=a) (xs:=xs) (fun i H'=>H'=upd H D (.lst (out i))) (by rw[h0]) (fun i H' _ e=> ?_) (fun i x H' hi e=> ?_) fun H' e=> ?_
 ·rw[e]
  have:∀{u:HO},Rd H a u→Rd (upd H D (.lst (out i))) a u:=fun r=>by
   rcases r with r |⟨o,r⟩
   ·exact .inl (by rw[aq (aD r hD)];exact r)
   ·exact .inr ⟨o,by rw[aq (aD r hD)];exact r⟩
  exact hx.imp this id
 ·subst e
  exact hs i x _ hi rfl
 ·rw[e]
  exact hd
theorem L5{as:List Addr}{T:List Pm.NL}{i:Nat}{v:V}(h:(rf as T)[i]? =some v):∃x,T[i]? =some x∧v= .ref (adr as x.2):=by
 unfold rf at h
 rw[List.getElem?_map]at h
 cases e:T[i]? with
 |none=>rw[e]at h;cases h
 |some c=>rw[e]at h;exact⟨c,rfl,(Option.some.inj h).symm⟩
theorem Qr{ls:Lines}(h:∀l∈ls,l.ok=true){l:Line}(hl:l∈ls):∀ws,l.for_=some ws→ws.length≤100000:=by
 intro ws hw
 have:=h l hl
 rw[zf]at this
 simp only[Bool.and_eq_true]at this
 have h5:=this.2.2.2.2
 rw[hw]at h5
 unfold rN at h5
 simp at h5
 omega
theorem Held.mem{H:Hp}{B:Addr}{S:List Pm.NL}{as:List Addr}{ls:Lines}(h:Held ad H ls as S B){x:Pm.NL}(hx:x∈S):x.1∈ls:=by
 have hm:=h.pm.mem_iff.mp hx
 obtain⟨l,i⟩:=x
 rw[List.mem_zipIdx_iff_getElem?]at hm
 exact List.mem_of_getElem? (show ls[i]? =some l from hm)
theorem Held.len{H:Hp}{B:Addr}{S:List Pm.NL}{as:List Addr}{ls:Lines}(h:Held ad H ls as S B):S.length=ls.length:=by rw[h.pm.length_eq];simp
def qE(ad:Ad):Sp:=fun vs H Q _=>∃(G:List Addr)(p B O F:Addr)(S:List Pm.NL)(as:List Addr)(ls:Lines)(ps:List Bytes)(n a:Nat),vs=[.ref p,.int a]∧PL ad G H S as B p O F ps n∧Held ad H ls as S B∧n<10000000∧ls.length≤100000∧(∀g∈G,∃o,H g=some o)∧
 ∀l H',H' l=some (.lst (rf as ((mX S a).filter fun x=>x.1.isFor ps)))→PL ad G H' S as B p O F ps (n+1)→Kp [O,F] H H'→Q (.ref l) H'
theorem qT(T:Txt K mg ad):bA P w K mg base nj 2 ad.c5 ad.bE ["self","point"] (qE ad):=by
 have G_is_for:=J8 (P:=P) (w:=w) (base:=base) T
 refine T.c7.ok i7 (fun vs H Q E h=> ?_) (fun cdv A outer s H vs Q E hr h=> ?_)
 ·obtain⟨G,p,B,O,F,S,as,ls,ps,n,a,rfl,_⟩:=h
  rfl
 ·obtain⟨G,p,B,O,F,S,as,ls,ps,n,a,rfl,hP,hH,hn,hls,hG,k⟩:=h
  have nd:=i7.nd
  have hu:=a7 hr
  refine⟨_,(ao (a6 (yX (De hu (pv 1) (aM (pv 0) rfl)))
   (au (Ee hu (aM (pv 0) rfl) (pv 1) (II rfl nd (gS (Mx hu (aM (pv 0) rfl) (pv 1) (bK aA) ⟨rfl,rfl,rfl,rfl⟩)) (pE ["self","point","line"] (aC cU) [("line",2)] (by decide +kernel)) (fun _ _ _ _ _=>(bY (i:=2) nd rfl (Or.inl rfl))) (fun _ _ _ _ _=>(IC (gk (eW G_is_for (hr.mono (by decide)) rfl T.F1 T.vq.kp T.yC .nil bh (ak (pv 2) (ak (xR (K:=K) rfl (pv 0) rfl) aA)))))) (fun _ _ _ _ _=>(pv 2))) rfl))
   aL)
   (au (aJ (IJ hu (aM (pv 0) rfl) (pv 1) (fun _ _=>rfl))))),?_⟩
  obtain⟨⟨dx,E',e1,e2,e3⟩,⟨k1,o1,o2,o3⟩,⟨k2,f1,f2,f3⟩,Hj,KO⟩:=id hP
  walk_at "r1"
  simp[and_assoc,aB,aH,aO,List.lookup_nil,-List.lookup_eq_none_iff,-Bool.exists_bool,-Bool.not_eq_eq_eq_not,L2.wipe,aj,aG,e1,T.aQ,T.cH,T.bU,T.d7,FI]
  refine⟨_,kW.k (k:=Sum.inl (a:Int)) o1,?_⟩
  have hsz:sizeLine=16777216:=rfl
  by_cases c:dj k1 (Sum.inl (a:Int))=none
  ·rw[if_pos c]
   obtain⟨kb,b1,b2,b3,b4,b5⟩:=id hH.bp
   refine⟨_,rfl,p,_,_,_,_,rfl,e1,T.aQ,T.bU,by simp[FI,aB],B,rfl,.inl ⟨kb,.inl b1⟩,_,rfl,by decide,fun D0 hD0=>⟨_,kW.k (k:=Sum.inl (a:Int)) (by rw[aq (aD b1 hD0)];exact b1),?_⟩⟩
   have K0:Kp [] H (upd H D0 (.lst [])):=Kp.new hD0
   obtain⟨q,hq,hqv⟩:∃q,(upd H D0 (.lst [])) q=some (.lst (rf as (mX S a)))∧(dj kb (Sum.inl (a:Int))).getD (.ref D0)= .ref q:=by
    rcases b5 a with⟨v1,v2⟩|⟨l,v1,v2⟩
    ·exact⟨D0,by rw[aj,v2];rfl,by rw[v1];rfl⟩
    ·exact⟨l,K0 _ _ v2 (by simp),by rw[v1];rfl⟩
   rw[hqv]
   have hTl:(mX S a).length≤ls.length:=by
    rw[←hH.len]
    exact List.length_filter_le _ _
   refine⟨q,rfl,⟨_,bW.of hq⟩,fun D hD=>IW (a:=q) (xs:=rf as (mX S a)) hD (fun i=>rf as (((mX S a).take i).filter fun x=>x.1.isFor ps)) rfl (bW.of hq) (fun i v Nx hv hN=> ?_) ?_⟩
   ·obtain⟨x,hx,rfl⟩:=L5 hv
    have hxS:x∈S:=(List.mem_filter.mp (List.mem_of_getElem? hx)).1
    have hil:i<(mX S a).length:=(List.getElem?_eq_some_iff.mp hx).1
    have K1:Kp [] H (upd (upd H D0 (.lst [])) D (.lst (rf as (((mX S a).take i).filter fun x=>x.1.isFor ps)))):=K0.trans (Kp.new hD)
    have et:(mX S a).take (i+1)=(mX S a).take i++[x]:=by rw[List.take_add_one,hx];rfl
    have hln:=(hH.line hxS).keep K1 (Loose.nil H)
    walk_at "r1"
    simp[and_assoc,aB,aH,aO,List.lookup_nil,-List.lookup_eq_none_iff,-Bool.exists_bool,-Bool.not_eq_eq_eq_not,L2.wipe,aj,aG,K1 _ _ e1 (by simp),T.aQ,T.d7,FI]
    refine⟨_,E',x.1,_,ps,rfl,hln,K1 _ _ e2 (by simp),Qr hH.ok (hH.mem hxS),?_⟩
    rw[et,List.filter_append]at hN
    refine⟨_,rfl,?_⟩
    cases hfor:x.1.isFor ps with
    |true=>
     simp only[List.filter_cons,hfor,if_true,List.filter_nil,rf,List.map_append,List.map_cons,List.map_nil]at hN
     refine⟨_,aj,?_,?_⟩
     ·simp only[rf,List.length_map]
      have:=List.length_filter_le (fun x:Pm.NL=>x.1.isFor ps) ((mX S a).take i)
      rw[List.length_take]at this
      omega
     ·rw[aG]
      exact hN
    |false=>
     simpa[List.filter_cons,hfor,rf]using hN
   ·have elen:(rf as (mX S a)).length=(mX S a).length:=by simp[rf]
    rw[elen,List.take_length]
    have K1:Kp [] H (upd (upd H D0 (.lst [])) D (.lst (rf as ((mX S a).filter fun x=>x.1.isFor ps)))):=K0.trans (Kp.new hD)
    have st:∀{b:Addr}{o:HO},H b=some o→upd (upd H D0 (.lst [])) D (.lst (rf as ((mX S a).filter fun x=>x.1.isFor ps))) b=some o:=fun h=>K1 _ _ h (by simp)
    have nOp:p≠O:=cO e1 o1 (by intro z;cases z)
    have nDO:D≠O:=fun z=>by have:=K0 _ _ o1 (by simp);rw[←z,hD]at this;cases this
    refine⟨_,_,_,st e1,T.aQ,T.cH,_,by simp[FI,aB],O,rfl,_,CL.k (k:=Sum.inl (a:Int)) (st o1) (by omega),_,_,_,by rw[aq nOp];exact st e1,T.aQ,T.cH,_,by simp[FI,aB],O,rfl,.ref D,?_,?_⟩
    ·have:=kW.k (H:=upd (upd (upd H D0 (.lst [])) D (.lst (rf as ((mX S a).filter fun x=>x.1.isFor ps)))) O (.dK (putK k1 (Sum.inl (a:Int)) (.ref D)))) (a:=O) (k:=Sum.inl (a:Int)) aj
     rwa [rA,if_pos rfl]at this
    ·have KK:Kp [O,F] H (upd (upd (upd H D0 (.lst [])) D (.lst (rf as ((mX S a).filter fun x=>x.1.isFor ps)))) O (.dK (putK k1 (Sum.inl (a:Int)) (.ref D)))):=(K1.mono (by simp)).trans (Kp.set (by simp))
     have hD2:upd (upd (upd H D0 (.lst [])) D (.lst (rf as ((mX S a).filter fun x=>x.1.isFor ps)))) O (.dK (putK k1 (Sum.inl (a:Int)) (.ref D))) D=some (.lst (rf as ((mX S a).filter fun x=>x.1.isFor ps))):=by rw[aq nDO,aj]
     have st2:∀{b:Addr}{o:HO},b≠O→H b=some o→upd (upd (upd H D0 (.lst [])) D (.lst (rf as ((mX S a).filter fun x=>x.1.isFor ps)))) O (.dK (putK k1 (Sum.inl (a:Int)) (.ref D))) b=some o:=fun n h=>by rw[aq n];exact st h
     refine k D _ hD2 ⟨⟨dx,E',st2 nOp e1,st2 (cO e2 o1 (by intro z;cases z)) e2,e3⟩,⟨_,aj,?_,fun b v hv=> ?_⟩,⟨k2,st2 Hj.symm f1,by omega,f3⟩,Hj,KO⟩ KK
     ·have:=iz k1 (Sum.inl (a:Int):Key) (V.ref D)
      omega
     ·rw[rA]at hv
      by_cases cb:(b:Int)=a
      ·have:b=a:=by omega
       subst this
       rw[if_pos rfl]at hv
       cases hv
       exact⟨D,rfl,hD2,fun z=>by obtain⟨o,ho⟩:=hG D z;rw[K0 _ _ ho (by simp)]at hD;cases hD⟩
      ·rw[if_neg (fun z=>cb (Sum.inl.inj z))]at hv
       obtain⟨l,r1,r2,r3⟩:=o3 b v hv
       exact⟨l,r1,st2 (cO r2 o1 (by intro z;cases z)) r2,r3⟩
  ·rw[if_neg c]
   cases hv:dj k1 (Sum.inl (a:Int))with
   |none=>exact absurd hv c
   |some v=>
    obtain⟨l,rfl,hl,_⟩:=o3 a v hv
    refine⟨.ref l,by have:=kW.k (k:=Sum.inl (a:Int)) o1;rwa [hv]at this,?_⟩
    exact k l H hl ⟨hP.at_,⟨k1,o1,by omega,o3⟩,⟨k2,f1,by omega,f3⟩,Hj,KO⟩ (Kp.refl _ _)
def t5(ad:Ad):Sp:=fun vs H Q _=>∃(G:List Addr)(p B O F:Addr)(S:List Pm.NL)(as:List Addr)(ls:Lines)(ps:List Bytes)(n a d:Nat),vs=[.ref p,.int a,.int d]∧PL ad G H S as B p O F ps n∧Held ad H ls as S B∧n<10000000∧ls.length≤100000∧(∀g∈G,∃o,H g=some o)∧
 ∀H',PL ad G H' S as B p O F ps (n+1)→Kp [O,F] H H'→Q (pA S as ps a d) H'
theorem t7(T:Txt K mg ad):bA P w K mg base nj 3 ad.eZ ad.bO ["self","point","day"] (t5 ad):=by
 have G_PersonLines_own_lines:=qT (P:=P) (w:=w) (base:=base) T
 have G_is_in_force:=Bt (P:=P) (w:=w) (base:=base) T
 refine T.fB.ok kD (fun vs H Q E h=> ?_) (fun cdv A outer s H vs Q E hr h=> ?_)
 ·obtain⟨G,p,B,O,F,S,as,ls,ps,n,a,d,rfl,_⟩:=h
  rfl
 ·obtain⟨G,p,B,O,F,S,as,ls,ps,n,a,d,rfl,hP,hH,hn,hls,hG,k⟩:=h
  have nd:=kD.nd
  have hu:=a7 hr
  refine⟨_,(ao (oP PassesOwn.never rfl (gS (nM (pv 0) T.aQ T.jd G_PersonLines_own_lines (hr.mono (by decide)) T.c6 .nil bh (ak (pv 1) aA))) (bY (i:=3) nd rfl (Or.inl rfl))
   (au (a6 (gk (eW G_is_in_force (hr.mono (by decide)) rfl T.wj T.jj.kp T.lM .nil bh (ak (pv 3) (ak (pv 2) aA))))
   (au (aJ (pv 3)))
   aL)))
   (au (aJ sP))),?_⟩
  obtain⟨⟨dx,E',e1,e2,e3⟩,_⟩:=id hP
  walk_at "r1"
  walk_at "r2"
  have hB:∃kvs,H B=some (.dK kvs):=by obtain⟨kvs,h,_⟩:=hH.bp;exact⟨kvs,h⟩
  refine⟨_,rfl,p,dx,FI B E' O F,rfl,e1,(by simp[FI,aB]),_,rfl,G,p,B,O,F,S,as,ls,ps,n,a,rfl,hP,hH,hn,hls,hG,fun l H1 hl hP1 KK=> ?_⟩
  have hH1:=hH.keep KK (hP.loose hB)
  refine⟨l,rfl,⟨_,bW.of hl⟩,u6 (K:=K) (a:=l) (xs:=rf as ((mX S a).filter fun x=>x.1.isFor ps)) (fun i σ H'=>H'=H1∧(∃u,σ=[some (.ref p),some (.int a),some (.int d),u])∧Gv ((mX S a).filter fun x=>x.1.isFor ps) (fun x=>x.1.inForce d) i) ⟨rfl,⟨none,rfl⟩,rfl⟩ (fun i σ H' _ zz=>by obtain⟨e,_⟩:=zz;exact bW.of (by rw[e];exact hl)) ?_ ?_⟩
  ·rintro i v σ H' hv ⟨rfl,⟨u,rfl⟩,hf⟩
   obtain⟨x,hx,rfl⟩:=L5 hv
   have hxS:x∈S:=(List.mem_filter.mp (List.mem_filter.mp (List.mem_of_getElem? hx)).1).1
   obtain⟨f1,f2⟩:=vI hx hf
   walk_at "r1"
   walk_at "r2"
   refine⟨_,x.1,_,d,rfl,hH1.line hxS,_,rfl,?_⟩
   cases hfo:x.1.inForce d with
   |true=>
    have:=k _ hP1 KK
    unfold pA at this
    rw[f1 hfo]at this
    exact this
   |false=>exact⟨rfl,f2 hfo⟩
  ·rintro σ H' ⟨rfl,⟨u,rfl⟩,hf⟩
   have:=k _ hP1 KK
   unfold Gv at hf
   have e:((mX S a).filter fun x=>x.1.isFor ps).take (rf as ((mX S a).filter fun x=>x.1.isFor ps)).length=((mX S a).filter fun x=>x.1.isFor ps):=by simp[rf]
   rw[e]at hf
   unfold pA at this
   rw[hf]at this
   exact this
def rB(ad:Ad):Sp:=fun vs H Q _=>∃(G:List Addr)(p B O F:Addr)(S:List Pm.NL)(as:List Addr)(ls:Lines)(ps:List Bytes)(n a d:Nat),vs=[.ref p,.int a,.int d]∧PL ad G H S as B p O F ps n∧Held ad H ls as S B∧n<10000000∧ls.length≤100000∧(∀g∈G,∃o,H g=some o)∧
 ∀H',PL ad G H' S as B p O F ps (n+2)→Kp [O,F] H H'→Q (pA S as ps a d) H'
theorem jG(T:Txt K mg ad):bA P w K mg base nj 4 ad.dG ad.bH ["self","point","day"] (rB ad):=by
 have G_PersonLines_search:=t7 (P:=P) (w:=w) (base:=base) T
 refine T.dH.ok jF (fun vs H Q E h=> ?_) (fun cdv A outer s H vs Q E hr h=> ?_)
 ·obtain⟨G,p,B,O,F,S,as,ls,ps,n,a,d,rfl,_⟩:=h
  rfl
 ·obtain⟨G,p,B,O,F,S,as,ls,ps,n,a,d,rfl,hP,hH,hn,hls,hG,k⟩:=h
  have nd:=jF.nd
  have hu:=a7 hr
  refine⟨_,(ao (a6 (yX (De hu (yZ (ak (pv 1) (ak (pv 2) aA))) (aM (pv 0) rfl)))
   (au (Ee hu (aM (pv 0) rfl) (yZ (ak (pv 1) (ak (pv 2) aA))) (nM (pv 0) T.aQ T.kH G_PersonLines_search (hr.mono (by decide)) T.fu .nil bh (ak (pv 1) (ak (pv 2) aA))) rfl))
   aL)
   (au (aJ (IJ hu (aM (pv 0) rfl) (yZ (ak (pv 1) (ak (pv 2) aA))) (fun _ _=>rfl))))),?_⟩
  obtain⟨⟨dx,E',e1,e2,e3⟩,⟨k1,o1,o2,o3⟩,⟨k2,f1,f2,f3⟩,Hj,KO⟩:=id hP
  walk_at "r1"
  walk_at "r2"
  refine⟨by decide,fun t ht=> ?_⟩
  have K0:Kp [] H (upd H t (.tup [.int (a:Int),.int (d:Int)])):=Kp.new ht
  have hB:∃kvs,H B=some (.dK kvs):=by obtain⟨kvs,h,_⟩:=hH.bp;exact⟨kvs,h⟩
  have hP0:=hP.keep K0 (by simp)
  have hH0:=hH.keep K0 ⟨Loose.nil H,by simp⟩
  have ek:([V.int (a:Int),V.int (d:Int)]:List V)=([Sum.inl (a:Int),Sum.inl (d:Int)]:List Key).map kV:=rfl
  refine⟨_,_,_,K0 _ _ e1 (by simp),T.aQ,T.bB,_,by simp[FI,aB],F,rfl,_,kW.t (k:=[Sum.inl (a:Int),Sum.inl (d:Int)]) (K0 _ _ f1 (by simp)) (by rw[aj,ek]),?_⟩
  by_cases c:dj k2 [Sum.inl (a:Int),Sum.inl (d:Int)]=none
  ·rw[if_pos c]
   refine⟨_,_,K0 _ _ e1 (by simp),by simp[FI,aB],G,p,B,O,F,S,as,ls,ps,n,a,d,rfl,hP0,hH0,hn,hls,fun g hg=>(hG g hg).imp fun o ho=>K0 _ _ ho (by simp),fun H1 hP1 KK1=> ?_⟩
   obtain⟨⟨dx1,E1,g1,g2,g3⟩,own1,⟨k3,p1,p2,p3⟩,_,_⟩:=id hP1
   refine⟨_,_,_,g1,T.aQ,T.bB,_,by simp[FI,aB],by decide,fun t2 ht2=>⟨F,rfl,?_⟩⟩
   have K2:Kp [] H1 (upd H1 t2 (.tup [.int (a:Int),.int (d:Int)])):=Kp.new ht2
   have hP2:=hP1.keep K2 (by simp)
   have hsz:sizeLine=16777216:=rfl
   have hput:=CL.t (v:=pA S as ps a d) (k:=[Sum.inl (a:Int),Sum.inl (d:Int)]) (K2 _ _ p1 (by simp)) (by rw[aj,ek]:(upd H1 t2 (.tup [.int (a:Int),.int (d:Int)])) t2=some (.tup (([Sum.inl (a:Int),Sum.inl (d:Int)]:List Key).map kV))) (by omega)
   refine⟨_,hput,?_⟩
   have nFp:p≠F:=cO g1 p1 (by intro z;cases z)
   have hP3:PL ad G (upd (upd H1 t2 (.tup [.int (a:Int),.int (d:Int)])) F (.dT (putK k3 [Sum.inl (a:Int),Sum.inl (d:Int)] (pA S as ps a d)))) S as B p O F ps (n+2):=by
    obtain⟨⟨dx2,E2,q1,q2,q3⟩,⟨k4,o4,o5,o6⟩,⟨k5,p4,p5,p6⟩,_,_⟩:=id hP2
    have ek5:k5=k3:=by have:=K2 _ _ p1 (by simp);rw[p4]at this;cases this;rfl
    refine⟨⟨dx2,E2,by rw[aq nFp];exact q1,by rw[aq (cO q2 p4 (by intro z;cases z))];exact q2,q3⟩,⟨k4,by rw[aq Hj];exact o4,by omega,fun b v hv=> ?_⟩,⟨_,aj,?_,fun b e v hv=> ?_⟩,Hj,KO⟩
    ·obtain⟨l,r1,r2,r3⟩:=o6 b v hv
     exact⟨l,r1,by rw[aq (cO r2 p4 (by intro z;cases z))];exact r2,r3⟩
    ·have:=iz k3 [Sum.inl (a:Int),Sum.inl (d:Int)] (pA S as ps a d)
     omega
    ·rw[rA]at hv
     by_cases ce:([Sum.inl (b:Int),Sum.inl (e:Int)]:List Key)=[Sum.inl (a:Int),Sum.inl (d:Int)]
     ·rw[if_pos ce]at hv
      cases hv
      simp at ce
      have e1:b=a:=by omega
      have e2:e=d:=by omega
      rw[e1,e2]
     ·rw[if_neg ce]at hv
      exact p3 b e v hv
   refine⟨_,_,_,by rw[aq nFp];exact K2 _ _ g1 (by simp),T.aQ,T.bB,_,by simp[FI,aB],by decide,fun t3 ht3=>⟨F,rfl,?_⟩⟩
   have K3:Kp [] (upd (upd H1 t2 (.tup [.int (a:Int),.int (d:Int)])) F (.dT (putK k3 [Sum.inl (a:Int),Sum.inl (d:Int)] (pA S as ps a d)))) (upd (upd (upd H1 t2 (.tup [.int (a:Int),.int (d:Int)])) F (.dT (putK k3 [Sum.inl (a:Int),Sum.inl (d:Int)] (pA S as ps a d)))) t3 (.tup [.int (a:Int),.int (d:Int)])):=Kp.new ht3
   refine⟨pA S as ps a d,?_,k _ (hP3.keep K3 (by simp)) (((K0.mono (by simp)).trans KK1).trans (((K2.mono (by simp)).trans (Kp.set (by simp))).trans (K3.mono (by simp))))⟩
   have:=kW.t (k:=[Sum.inl (a:Int),Sum.inl (d:Int)]) (K3 _ _ aj (by simp)) (by rw[aj,ek]:(upd (upd (upd H1 t2 (.tup [.int (a:Int),.int (d:Int)])) F (.dT (putK k3 [Sum.inl (a:Int),Sum.inl (d:Int)] (pA S as ps a d)))) t3 (.tup [.int (a:Int),.int (d:Int)])) t3=some (.tup (([Sum.inl (a:Int),Sum.inl (d:Int)]:List Key).map kV)))
   rwa [rA,if_pos rfl]at this
  ·rw[if_neg c]
   cases hv:dj k2 [Sum.inl (a:Int),Sum.inl (d:Int)]with
   |none=>exact absurd hv c
   |some v=>
    have ev:=f3 a d v hv
    refine⟨_,_,_,K0 _ _ e1 (by simp),T.aQ,T.bB,_,by simp[FI,aB],by decide,fun t3 ht3=>⟨F,rfl,v,?_,?_⟩⟩
    ·have K3:Kp [] (upd H t (.tup [.int (a:Int),.int (d:Int)])) (upd (upd H t (.tup [.int (a:Int),.int (d:Int)])) t3 (.tup [.int (a:Int),.int (d:Int)])):=Kp.new ht3
     have:=kW.t (k:=[Sum.inl (a:Int),Sum.inl (d:Int)]) (K3 _ _ (K0 _ _ f1 (by simp)) (by simp)) (by rw[aj,ek]:(upd (upd H t (.tup [.int (a:Int),.int (d:Int)])) t3 (.tup [.int (a:Int),.int (d:Int)])) t3=some (.tup (([Sum.inl (a:Int),Sum.inl (d:Int)]:List Key).map kV)))
     rwa [hv]at this
    ·have K3:Kp [] (upd H t (.tup [.int (a:Int),.int (d:Int)])) (upd (upd H t (.tup [.int (a:Int),.int (d:Int)])) t3 (.tup [.int (a:Int),.int (d:Int)])):=Kp.new ht3
     rw[ev]
     have hP4:=hP0.keep K3 (by simp)
     obtain⟨x1,⟨y1,y2,y3,y4⟩,⟨z1,z2,z3,z4⟩,x4,x5⟩:=hP4
     exact k _ ⟨x1,⟨y1,y2,by omega,y4⟩,⟨z1,z2,by omega,z4⟩,x4,x5⟩ ((K0.mono (by simp)).trans (K3.mono (by simp)))
end
section
variable{P:Program}{w:World}{K:PySem.W.Frag}{mg:Str→Option Value}{base:Heap}{ad:Ad}
def gV(as:List Addr)(gone:List Nat):List V:=gone.map fun n=>.ref (adr as n)
structure OT(ad:Ad)(H:Hp)(ls:Lines)(as:List Addr)(y:Addr)(e:PoMoves.End)(gone:List Nat)(lv:V):Prop where
 at_:∃dx g,H y=some (.ins ad.qA dx (JC e.how e.point e.day g lv))∧H g=some (.lst (gV as gone))
 len:gone.length≤32
 zero:e.how=0→e.by_=gone
 back:e.how≠0→∃m,e.by_=gone++[m]∧lv= .ref (adr as m)∧m<ls.length
 lt:∀n∈gone,n<ls.length
def CZ(ad:Ad):Sp:=fun vs H Q _=>∃(G:List Addr)(p B O F:Addr)(S:List Pm.NL)(as:List Addr)(ls:Lines)(ps:List Bytes)(n a d:Nat)(may:Bool),vs=[.ref p,.int a,.int d,.bl may]∧PL ad G H S as B p O F ps n∧Held ad H ls as S B∧n<9000000∧ls.length≤100000∧(∀g∈G,∃o,H g=some o)∧
 ∀y gone lv H',OT ad H' ls as y (endOf ls ps may a d) gone lv→H y=none→PL ad G H' S as B p O F ps (n+66)→Kp [O,F] H H'→Q (.ref y) H'
structure OU(ad:Ad)(G:List Addr)(H H':Hp)(S:List Pm.NL)(as:List Addr)(ls:Lines)(ps:List Bytes)(B p O F bd g:Addr)(n:Nat)(e:PoMoves.End)(may:Bool)(a d:Nat)(been:List (Nat×Nat))(gone:List Nat):Prop where
 pl:PL ad (g::G) H' S as B p O F ps (n+2*gone.length)
 held:Held ad H' ls as S B
 kk:Kp [O,F] H H'
 nb:H bd=none
 ng:H g=none
 Ts:bd≠g
 Te:∃kvs:List (List Key×V),H' bd=some (.dT kvs)∧kvs.length≤gone.length∧∀x y:Nat,(dj kvs [Sum.inl (x:Int),Sum.inl (y:Int)]).isSome=been.contains (x,y)
 g_:H' g=some (.lst (gV as gone))
 len:gone.length≤32
 lt:∀n∈gone,n<ls.length
 go:goFrom ls ps may (32 - gone.length) been gone a d=e
theorem PL.mono{G G':List Addr}{H:Hp}{S:List Pm.NL}{as:List Addr}{B p O F:Addr}{ps:List Bytes}{n m:Nat}(h:PL ad G H S as B p O F ps n)(hm:n≤m)(hG:∀g∈G',g∈G):PL ad G' H S as B p O F ps m:=by
 obtain⟨⟨dx,E,e1,e2,e3⟩,⟨y1,y2,y3,y4⟩,⟨z1,z2,z3,z4⟩,x4,x5⟩:=h
 refine⟨⟨dx,E,e1,e2,fun z=>e3 (hG _ z)⟩,⟨y1,y2,by omega,fun a v hv=> ?_⟩,⟨z1,z2,by omega,z4⟩,x4,x5⟩
 obtain⟨l,r1,r2,r3⟩:=y4 a v hv
 exact⟨l,r1,r2,fun z=>r3 (hG _ z)⟩
theorem PL.more{G:List Addr}{H:Hp}{S:List Pm.NL}{as:List Addr}{B p O F:Addr}{ps:List Bytes}{n:Nat}{g:Addr}(h:PL ad G H S as B p O F ps n)(hg:H g=none):PL ad (g::G) H S as B p O F ps n:=by
 obtain⟨⟨dx,E,e1,e2,e3⟩,⟨y1,y2,y3,y4⟩,z,x4,x5⟩:=h
 have h0:∀{l:Addr}{o:HO},H l=some o→l∉G→l∉g::G:=fun{l o} hl hn z=>by
  rcases List.mem_cons.mp z with rfl |z
  ·rw[hg]at hl;cases hl
  ·exact hn z
 refine⟨⟨dx,E,e1,e2,h0 e2 e3⟩,⟨y1,y2,y3,fun a v hv=> ?_⟩,z,x4,x5⟩
 obtain⟨l,r1,r2,r3⟩:=y4 a v hv
 exact⟨l,r1,r2,h0 r2 r3⟩
theorem y9(T:Txt K mg ad):bA P w K mg base nj 5 ad.yh ad.nY ["person_lines","point","day","may"] (CZ ad):=by
 have G_PersonLines_counting:=jG (P:=P) (w:=w) (base:=base) T
 have G_end_at:=J9 (P:=P) (w:=w) (base:=base) T
 have G_Way_init:=FR (P:=P) (w:=w) (base:=base) T
 refine T.pG.ok C0 (fun vs H Q E h=> ?_) (fun cdv A outer s H vs Q E hr h=> ?_)
 ·obtain⟨G,p,B,O,F,S,as,ls,ps,n,a,d,may,rfl,_⟩:=h
  rfl
 ·obtain⟨G,p,B,O,F,S,as,ls,ps,n,a,d,may,rfl,hP,hH,hn,hls,hG,k⟩:=h
  have nd:=C0.nd
  have hu:=a7 hr
  refine⟨_,(ao (aU (i:=4) nd rfl (Or.inl rfl) FN)
   (ao (aU (i:=5) nd rfl (Or.inl rfl) (bK aA))
   (au (FE PassesOwn.never (gk xS)
   (ao (aU (i:=6) nd rfl (Or.inl rfl) (nM (pv 0) T.aQ T.fK G_PersonLines_counting (hr.mono (by decide)) T.b8 .nil bh (ak (pv 1) (ak (pv 2) aA))))
   (ao (aU (i:=7) nd rfl (Or.inl rfl) (eW G_end_at (hr.mono (by decide)) rfl T.F2 T.vA.kp T.yD .nil bh (ak (pv 6) (ak (pv 3) (ak (G5 (Qq hu (yZ (ak (pv 1) (ak (pv 2) aA))) (pv 4))) (ak (a9 (a8 (K:=K) rfl) (by rfl) T.c9 PySem.boot_len (ak (pv 5) aA)) aA))))))
   (ao (a6 (yX (IK (pv 7)))
   (au (aJ (vH T.MG G_Way_init (hr.mono (by decide)) rfl T.MH T.tF .nil bh (ak (pv 7) (ak (pv 1) (ak (pv 2) (ak (pv 5) (ak (pv 6) aA))))))))
   aL)
   (ao (Ee hu (pv 4) (yZ (ak (pv 1) (ak (pv 2) aA))) xS rfl)
   (ao (dD (mG PySem.F.plainAttrs_list PySem.F.slot_list_append PySem.F.type_list_append eD (pv 5) (ak (pv 6) aA)))
   (au (a6 (aV f9 (aM (pv 6) rfl) (aE (v:=.str "move") rfl T.wZ.choose_spec ⟨_,rfl⟩) (aY _))
   (au (aU (i:=1) nd rfl (Or.inl rfl) (aM (pv 6) rfl)))
   (au (aU (i:=2) nd rfl (Or.inl rfl) (aM (pv 6) rfl)))))))))))))),?_⟩
  walk_at "r1"
  simp[and_assoc,aB,aH,aO,List.lookup_nil,-List.lookup_eq_none_iff,-Bool.exists_bool,-Bool.not_eq_eq_eq_not,L2.wipe,aj,aG,GL]
  intro bd hbd g hg
  have nbg:bd≠g:=by intro z;rw[z,aj]at hg;cases hg
  have hg':H g=none:=by rwa [aq nbg.symm]at hg
  have K0:Kp [] H (upd (upd H bd (.dT [])) g (.lst [])):=(Kp.new hbd).aX hg'
  obtain⟨⟨dx,E',e1,e2,e3⟩,⟨k1,o1,o2,o3⟩,⟨k2,f1,f2,f3⟩,Hj,KO⟩:=id hP
  have hB:∃kvs,H B=some (.dK kvs):=by obtain⟨kvs,h,_⟩:=hH.bp;exact⟨kvs,h⟩
  have W0:OU ad G H (upd (upd H bd (.dT [])) g (.lst [])) S as ls ps B p O F bd g n (endOf ls ps may a d) may a d [] []:=
   ⟨(hP.more hg').keep K0 (by simp),hH.keep K0 ⟨Loose.nil H,by simp⟩,K0.mono (by simp),hbd,hg',nbg,⟨[],by rw[aq nbg,aj],by simp,fun x y=>rfl⟩,aj,by simp,by simp,rfl⟩
  refine⟨fun m σ H'=>∃(a' d':Nat)(been:List (Nat×Nat))(gone:List Nat)(u v:Option V),σ=[some (.ref p),some (.int a'),some (.int d'),some (.bl may),some (.ref bd),some (.ref g),u,v]∧m+gone.length=33∧OU ad G H H' S as ls ps B p O F bd g n (endOf ls ps may a d) may a' d' been gone,⟨33,a,d,[],[],none,none,rfl,rfl,W0⟩,?_⟩
  rintro m σ H' ⟨a',d',been,gone,u,v,rfl,hm,W⟩
  obtain⟨⟨dx',E2,e1',e2',e3'⟩,_⟩:=id W.pl
  have hB':∃kvs,H' B=some (.dK kvs):=by obtain⟨kvs,h,_⟩:=W.held.bp;exact⟨kvs,h⟩
  walk_at "r1"
  walk_at "r2"
  refine⟨fun σ' H''=>∃(a' d':Nat)(been:List (Nat×Nat))(gone':List Nat)(u v:Option V),σ'=[some (.ref p),some (.int a'),some (.int d'),some (.bl may),some (.ref bd),some (.ref g),u,v]∧gone'.length=gone.length+1∧OU ad G H H'' S as ls ps B p O F bd g n (endOf ls ps may a d) may a' d' been gone',?_,?_⟩
  ·rintro σ' H'' ⟨a2,d2,been2,gone2,u2,v2,rfl,hl,W2⟩
   have:=W2.len
   exact⟨33 - gone2.length,by omega,a2,d2,⟨u2,v2,rfl⟩,been2,gone2,by omega,W2⟩
  ·have hlen:=W.len
   have hG':∀x∈g::G,∃o,H' x=some o:=by
    intro x hx
    rcases List.mem_cons.mp hx with rfl |hx
    ·exact⟨_,W.g_⟩
    ·obtain⟨o,ho⟩:=hG x hx
     by_cases c:x∈[O,F]
     ·obtain⟨_,⟨_,c1,_⟩,⟨_,c2,_⟩,_⟩:=W.pl
      simp at c
      rcases c with rfl |rfl
      ·exact⟨_,c1⟩
      ·exact⟨_,c2⟩
     ·exact⟨o,W.kk _ _ ho c⟩
   have hcnt:=Pm.DA W.held.pm W.held.so ps a' d'
   have hcv:pA S as ps a' d'=match((mX S a').filter fun x=>x.1.isFor ps).find? fun x=>x.1.inForce d' with |none=>.non |some x=>.ref (adr as x.2):=rfl
   have hoS:∀x,(((mX S a').filter fun x=>x.1.isFor ps).find? fun x=>x.1.inForce d')=some x→x∈S:=fun x hx=>(List.mem_filter.mp (List.mem_filter.mp (List.mem_of_find?_eq_some hx)).1).1
   have hcnt:countsAt ls ps a' d'=(((mX S a').filter fun x=>x.1.isFor ps).find? fun x=>x.1.inForce d').map fun x=>(x.2,x.1):=hcnt
   generalize (((mX S a').filter fun x=>x.1.isFor ps).find? fun x=>x.1.inForce d')=o at hcnt hcv hoS
   refine⟨_,_,e1',by simp[FI,aB],g::G,p,B,O,F,S,as,ls,ps,n+2*gone.length,a',d',rfl,W.pl,W.held,by omega,hls,hG',fun H1 hP1 KK1=>⟨by decide,fun t ht=> ?_⟩⟩
   have hH1:=W.held.keep KK1 (W.pl.loose hB')
   have hsz:sizeLine=16777216:=rfl
   have nbO:bd≠O:=fun z=>by rw[z,o1]at hbd;cases hbd
   have nbF:bd≠F:=fun z=>by rw[z,f1]at hbd;cases hbd
   have ngO:g≠O:=fun z=>by rw[z,o1]at hg';cases hg'
   have ngF:g≠F:=fun z=>by rw[z,f1]at hg';cases hg'
   obtain⟨kvs,b1,b2,b3⟩:=W.Te
   have hb1:=KK1 bd _ b1 (by simp[nbO,nbF])
   have hg1:=KK1 g _ W.g_ (by simp[ngO,ngF])
   have ek:([V.int (a':Int),V.int (d':Int)]:List V)=([Sum.inl (a':Int),Sum.inl (d':Int)]:List Key).map kV:=rfl
   have K2:Kp [] H1 (upd H1 t (.tup [.int (a':Int),.int (d':Int)])):=Kp.new ht
   have hH2:=hH1.keep K2 ⟨Loose.nil H1,by simp⟩
   have hP2:=hP1.keep K2 (by simp)
   have hlenV:pJ K (.ref g) (upd H1 t (.tup [.int (a':Int),.int (d':Int)])) gone.length:=by
    have:=dF (K:=K) (K2 _ _ hg1 (by simp))
    rwa [gV,List.length_map]at this
   refine⟨_,kW.t (k:=[Sum.inl (a':Int),Sum.inl (d':Int)]) (K2 _ _ hb1 (by simp)) (by rw[aj,ek]),_,hlenV,pA S as ps a' d',o.map (·.1),may,(dj kvs [Sum.inl (a':Int),Sum.inl (d':Int)]).isSome,gone.length,rfl,?_,?_⟩
   ·rw[hcv]
    cases o with
    |none=>rfl
    |some x=>exact⟨_,_,rfl,hH2.line (hoS x rfl)⟩
   ·have K3:Kp [O,F] H (upd H1 t (.tup [.int (a':Int),.int (d':Int)])):=(W.kk.trans KK1).trans (K2.mono (by simp))
    have eE:Pm.endAt (o.map (·.1)) may (dj kvs [Sum.inl (a':Int),Sum.inl (d':Int)]).isSome (decide (32≤gone.length))=Pm.endAt ((countsAt ls ps a' d').map (·.2)) may (been.contains (a',d')) ((32 - gone.length)==0):=by
     rw[b3,hcnt,Option.map_map]
     have:decide (32≤gone.length)=((32 - gone.length)==0):=by
      by_cases c:32≤gone.length
      ·have e:32 - gone.length=0:=by omega
       simp[c,e]
      ·have e:¬32 - gone.length=0:=by omega
       simp[c,e]
     rw[this]
     rfl
    rw[eE]
    cases hE:Pm.endAt ((countsAt ls ps a' d').map (·.2)) may (been.contains (a',d')) ((32 - gone.length)==0)with
    |some h=>
     obtain⟨ge,gz⟩:=Pm.M3 (by_:=gone) hE
     rw[W.go]at ge
     show if(!decide (V.int (h:Nat)=V.non))=true then _ else _
     rw[if_pos (by simp)]
     intro y dxw hy hdxw nyd
     refine⟨y,dxw,h,a',d',g,pA S as ps a' d',rfl,aj,rfl,?_⟩
     rw[aG]
     have hyH:H y=none:=by
      cases e:H y with
      |none=>rfl
      |some u=>
       have hy':y∉[O,F]:=fun z=>by
        simp at z
        obtain⟨_,⟨c1,c2,_⟩,⟨c3,c4,_⟩,_⟩:=hP2
        rcases z with z |z
        ·rw[z,c2]at hy;cases hy
        ·rw[z,c4]at hy;cases hy
       rw[K3 y u e hy']at hy;cases hy
     have K4:Kp [] (upd H1 t (.tup [.int (a':Int),.int (d':Int)])) (upd (upd (upd H1 t (.tup [.int (a':Int),.int (d':Int)])) dxw (.own y)) y (.ins ad.qA dxw (JC h a' d' g (pA S as ps a' d')))):=(Kp.new hdxw).aX hy
     have hPk:=hP2.keep K4 (by simp)
     refine k y gone (pA S as ps a' d') _ ⟨⟨dxw,g,?_,?_⟩,hlen,?_,?_,W.lt⟩ hyH (hPk.mono (by omega) (by simp+contextual)) (K3.trans (K4.mono (by simp)))
     ·rw[aj,ge]
     ·exact K4 _ _ (K2 _ _ hg1 (by simp)) (by simp)
     ·intro hz
      rw[ge]at hz ⊢
      rw[gz.mp hz]
      simp
     ·intro hz
      rw[ge]at hz ⊢
      cases o with
      |none=>exact absurd (gz.mpr (by rw[hcnt];rfl)) hz
      |some x=>
       have hm:=W.held.pm.mem_iff.mp (hoS x rfl)
       refine⟨x.2,by rw[hcnt];rfl,by rw[hcv],?_⟩
       obtain⟨l,i⟩:=x
       rw[List.mem_zipIdx_iff_getElem?]at hm
       exact(List.getElem?_eq_some_iff.mp (show ls[i]? =some l from hm)).1
    |none=>
     obtain⟨i,l,n',hc,hn',hnh,hgo⟩:=Pm.RE (by_:=gone) hE
     rw[W.go]at hgo
     show if(!decide (V.non=V.non))=true then _ else _
     rw[if_neg (by simp)]
     cases o with
     |none=>rw[hcnt]at hc;cases hc
     |some x=>
      rw[hcnt]at hc
      cases hc
      have hxS:=hoS x rfl
      refine⟨by decide,fun t2 ht2=> ?_⟩
      have K5:Kp [] (upd H1 t (.tup [.int (a':Int),.int (d':Int)])) (upd (upd H1 t (.tup [.int (a':Int),.int (d':Int)])) t2 (.tup [.int (a':Int),.int (d':Int)])):=Kp.new ht2
      have hput:=CL.t (v:=.bl true) (k:=[Sum.inl (a':Int),Sum.inl (d':Int)]) (K5 _ _ (K2 _ _ hb1 (by simp)) (by simp)) (by rw[aj,ek]:(upd (upd H1 t (.tup [.int (a':Int),.int (d':Int)])) t2 (.tup [.int (a':Int),.int (d':Int)])) t2=some (.tup (([Sum.inl (a':Int),Sum.inl (d':Int)]:List Key).map kV))) (by omega)
      have hgg:∀{o:HO},(upd (upd (upd H1 t (.tup [.int (a':Int),.int (d':Int)])) t2 (.tup [.int (a':Int),.int (d':Int)])) bd o) g=some (.lst (gV as gone)):=fun{o}=>by rw[aq nbg.symm];exact K5 _ _ (K2 _ _ hg1 (by simp)) (by simp)
      refine⟨_,hput,.inl ⟨rfl,_,bW.of hgg⟩,_,hgg,by simp[gV];omega,?_⟩
      have hH5:=hH2.keep K5 ⟨Loose.nil _,by simp⟩
      have hP5:=hP2.keep K5 (by simp)
      generalize hHH:upd (upd H1 t (.tup [.int (a':Int),.int (d':Int)])) t2 (.tup [.int (a':Int),.int (d':Int)])=H5 at*
      have hb5:H5 bd=some (.dT kvs):=K5 _ _ (K2 _ _ hb1 (by simp)) (by simp)
      have hg5:H5 g=some (.lst (gV as gone)):=K5 _ _ (K2 _ _ hg1 (by simp)) (by simp)
      have K35:Kp [O,F] H H5:=K3.trans (K5.mono (by simp))
      have nbp:bd≠p:=fun z=>by rw[z,e1]at hbd;cases hbd
      have ngp:g≠p:=fun z=>by rw[z,e1]at hg';cases hg'
      have K6:Kp [O,F] H (upd (upd H5 bd (.dT (putK kvs [Sum.inl (a':Int),Sum.inl (d':Int)] (.bl true)))) g (.lst (gV as gone++[pA S as ps a' d']))):=(K35.aX hbd).aX hg'
      have hH6:=hH.keep K6 (hP.loose hB)
      have K56:Kp [bd,g] H5 (upd (upd H5 bd (.dT (putK kvs [Sum.inl (a':Int),Sum.inl (d':Int)] (.bl true)))) g (.lst (gV as gone++[pA S as ps a' d']))):=(Kp.set (by simp)).trans (Kp.set (by simp))
      have hP6:=hP5.keep K56 (by
       intro c hc
       simp at hc
       rcases hc with rfl |rfl
       ·exact⟨.inl fun xs z=>(by rw[hb5]at z;cases z),nbp,nbO,nbF⟩
       ·exact⟨.inr (by simp),ngp,ngO,ngF⟩)
      have hcv:pA S as ps a' d'= .ref (adr as x.2):=hcv
      have hgv:gV as gone++[pA S as ps a' d']=gV as (gone++[x.2]):=by rw[hcv];simp[gV]
      have hm:=hH.pm.mem_iff.mp hxS
      have hx2:x.2<ls.length:=by
       obtain⟨l,i⟩:=x
       rw[List.mem_zipIdx_iff_getElem?]at hm
       exact(List.getElem?_eq_some_iff.mp (show ls[i]? =some l from hm)).1
      have hW:∀a2 d2,Pm.Dg x.1 a'=a2→Pm.Dh x.1 d'=d2→OU ad G H (upd (upd H5 bd (.dT (putK kvs [Sum.inl (a':Int),Sum.inl (d':Int)] (.bl true)))) g (.lst (gV as gone++[pA S as ps a' d']))) S as ls ps B p O F bd g n (endOf ls ps may a d) may a2 d2 ((a',d')::been) (gone++[x.2]):=by
       rintro a2 d2 rfl rfl
       refine⟨hP6.mono (by simp;omega) (fun _ h=>h),hH6,K6,hbd,hg',nbg,⟨_,by rw[aq nbg,aj],?_,fun y z=> ?_⟩,by rw[aj,hgv],by simp;omega,fun m hm=> ?_,?_⟩
       ·have:=iz kvs [Sum.inl (a':Int),Sum.inl (d':Int)] (V.bl true)
        simp
        omega
       ·rw[rA]
        by_cases ce:([Sum.inl (y:Int),Sum.inl (z:Int)]:List Key)=[Sum.inl (a':Int),Sum.inl (d':Int)]
        ·rw[if_pos ce]
         simp at ce
         have e1:y=a':=by omega
         have e2:z=d':=by omega
         simp[e1,e2]
        ·rw[if_neg ce,b3]
         have:¬(y=a'∧z=d'):=fun q=>ce (by rw[q.1,q.2])
         simp only[List.contains_cons]
         have:((y,z)==(a',d'))=false:=by
          rw[beq_eq_false_iff_ne]
          intro q
          cases q
          exact this ⟨rfl,rfl⟩
         rw[this,Bool.false_or]
       ·rcases List.mem_append.mp hm with h |h
        ·exact W.lt m h
        ·simp at h
         rw[h]
         exact hx2
       ·rw[hgo]
        have:32 - (gone++[x.2]).length=n':=by simp;omega
        rw[this]
      obtain⟨dl,wv,l1,l2⟩:=hH6.line hxS
      refine⟨_,hcv,_,_,_,l1,T.bD,T.eX,.str (kdS x.1.what),by simp[pI,aB],by cases x.1.what<;>rfl,?_⟩
      cases hw:x.1.what with
      |halt_=>exact absurd hw hnh
      |move b o=>
       rw[if_pos (show V.str (kdS (What.move b o))=V.str (Str.ofString "move")from rfl)]
       refine⟨_,hcv,_,_,_,l1,T.bD,T.iy,.int (b:Nat),by simp[pI,aB,hw,QR],b,d',_,_,_,_,rfl,by simp,hW b d' (by simp[Pm.Dg,hw]) (by simp[Pm.Dh,hw])⟩
      |hold=>
       rw[if_neg (by simp[kdS,gn])]
       have hu:∃e,x.1.until_=some e:=by
        have:=hH.ok x.1 (hH.mem hxS)
        rw[zf]at this
        rw[hw]at this
        cases e:x.1.until_ with
        |some v=>exact⟨v,rfl⟩
        |none=>rw[e]at this;simp at this
       obtain⟨e,he⟩:=hu
       refine⟨_,hcv,_,_,_,l1,T.bD,T.gH,.int (e:Nat),by simp[pI,aB,he,NK],a',e,_,_,_,_,rfl,by simp,hW a' e (by simp[Pm.Dg,hw]) (by simp[Pm.Dh,hw,he])⟩
end
section
variable{P:Program}{w:World}{K:PySem.W.Frag}{mg:Str→Option Value}{base:Heap}{ad:Ad}
def shut(ls:Lines)(i:Nat):Bool:=match ls[i]?.map fun(l:Line)=>l.what with
 |some (.move _ o)=> !o
 |_=>false
theorem HI(ls:Lines)(g:List Nat):Wqatco.allOpen ls g=(g.filter (shut ls)).isEmpty:=by
 induction g with
 |nil=>rfl
 |cons a g ih=>
  have:Wqatco.allOpen ls (a::g)=(!shut ls a&&Wqatco.allOpen ls g):=by
   unfold Wqatco.allOpen shut
   rw[List.all_cons]
   congr 1
   cases h:ls[a]?.map fun(l:Line)=>l.what with
   |none=>rfl
   |some w=>cases w<;>simp
  rw[this,ih,List.filter_cons]
  cases shut ls a<;>simp
def GQ(ad:Ad):Sp:=fun vs H Q _=>∃(y:Addr)(e:PoMoves.End)(gone:List Nat)(lv:V)(ls:Lines)(as:List Addr),vs=[.ref y]∧OT ad H ls as y e gone lv∧ni ad H as ls 0∧∀D xs,H D=none→Q (.bl (decide (e.how=0)&&Wqatco.allOpen ls gone)) (upd H D (.lst xs))
theorem Hd(T:Txt K mg ad):bA P w K mg base nj 1 ad.vL ad.kQ ["way"] (GQ ad):=by
 refine T.sC.ok Bb (fun vs H Q E h=> ?_) (fun cdv A outer s H vs Q E hr h=> ?_)
 ·obtain⟨y,e,gone,lv,ls,as,rfl,_⟩:=h
  rfl
 ·obtain⟨y,e,gone,lv,ls,as,rfl,⟨⟨dx,g,h1,h2⟩,hlen,hz,hb,hlt⟩,hL,k⟩:=h
  have nd:=Bb.nd
  have hu:=a7 hr
  refine⟨_,(ao (Bk (i:=1) rfl nd rfl rfl (DT rfl rfl rfl rfl) (gS (aM (pv 0) rfl)) (pE ["way","closed","line"] (aC vE) [("line",2)] (by decide +kernel)) (fun _ _ _ _ _=>(bY (i:=2) nd rfl (Or.inl rfl))) (fun _ _ _ _ _=>(IC (PW.pt (yW (aV f9 (xR (K:=K) rfl (pv 2) rfl) (aE (v:=.str "move") rfl T.wZ.choose_spec ⟨_,rfl⟩) (aY _)) (vF (oO (gk (xR (K:=K) rfl (pv 2) rfl)))))))) (fun _ _ _ _ _=>(pv 2)))
   (au (aJ (G6 (nN f9 (aM (pv 0) rfl) (aE (v:=.int 0) rfl T.je.choose_spec ⟨_,rfl⟩) (aY _)) (Eh (Og (pv 1))))))),?_⟩
  walk_at "r1"
  simp[and_assoc,aB,aH,aO,List.lookup_nil,-List.lookup_eq_none_iff,-Bool.exists_bool,-Bool.not_eq_eq_eq_not,L2.wipe,aj,aG,h1,T.m8,T.gq,T.iw,JC]
  refine⟨_,rfl,y,_,_,_,_,rfl,h1,T.m8,T.gq,by simp[JC,aB],g,rfl,⟨_,bW.of h2⟩,fun D hD=>IW (a:=g) (xs:=gV as gone) hD (fun i=>gV as ((gone.take i).filter (shut ls))) rfl (bW.of h2) (fun i v Nx hv hN=> ?_) ?_⟩
  ·have hv:(gone.map fun n=>V.ref (adr as n))[i]? =some v:=hv
   rw[List.getElem?_map]at hv
   cases hm:gone[i]? with
   |none=>rw[hm]at hv;cases hv
   |some m=>
    rw[hm]at hv
    cases hv
    have hml:=hlt m (List.mem_of_getElem? hm)
    have hma:m<as.length:=by rw[hL.1];exact hml
    have hx:=hL.2 m as[m] ls[m] (List.getElem?_eq_getElem hma) (List.getElem?_eq_getElem hml)
    have ea:adr as m=as[m]:=by unfold adr;rw[List.getD_eq_getElem?_getD,List.getElem?_eq_getElem hma];rfl
    have K1:Kp [] H (upd H D (.lst (gV as ((gone.take i).filter (shut ls))))):=Kp.new hD
    obtain⟨dl,wv,l1,l2⟩:=hx.keep K1 (Loose.nil H)
    have et:gone.take (i+1)=gone.take i++[m]:=by rw[List.take_add_one,hm];rfl
    rw[et,List.filter_append]at hN
    have hs:shut ls m=(match ls[m].what with | .move _ o=> !o |_=>false):=by unfold shut;rw[List.getElem?_eq_getElem hml];show(match some ls[m].what with |some (.move _ o)=> !o |_=>false)=_;cases ls[m].what<;>rfl
    have hil:((gone.take i).filter (shut ls)).length≤32:=by
     have:=List.length_filter_le (shut ls) (gone.take i)
     rw[List.length_take]at this
     omega
    have hsz:sizeLine=16777216:=rfl
    walk_at "r1"
    walk_at "r2"
    rw[←ea]at l1
    refine⟨_,_,_,l1,T.bD,T.eX,.str (kdS ls[m].what),by simp[pI,aB],by cases ls[m].what<;>rfl,?_⟩
    have hN0:shut ls m=false→Nx (upd H D (.lst (gV as ((gone.take i).filter (shut ls))))):=fun h=>by
     rw[List.filter_cons,h]at hN
     simpa using hN
    cases hw:ls[m].what with
    |halt_=>
     rw[if_neg (by simp[kdS,gn])]
     exact hN0 (by rw[hs,hw])
    |hold=>
     rw[if_neg (by simp[kdS,gn])]
     exact hN0 (by rw[hs,hw])
    |move b o=>
     rw[if_pos (show V.str (kdS (What.move b o))=V.str (Str.ofString "move")from rfl)]
     refine⟨_,_,_,l1,T.bD,T.dw,.bl o,by simp[pI,aB,hw,NT],o,rfl,?_⟩
     have hs':shut ls m= !o:=by rw[hs,hw]
     cases o with
     |true=>exact hN0 (by rw[hs'];rfl)
     |false=>
      rw[List.filter_cons,hs']at hN
      refine⟨by simp[gV];omega,?_⟩
      simpa[gV]using hN
  ·have:(gV as gone).length=gone.length:=by simp[gV]
   rw[this,List.take_length]
   have K1:Kp [] H (upd H D (.lst (gV as (gone.filter (shut ls))))):=Kp.new hD
   have hk:=k D (gV as (gone.filter (shut ls))) hD
   rw[HI]at hk
   refine⟨_,_,_,K1 _ _ h1 (by simp),T.m8,T.iw,.int (e.how:Nat),by simp[JC,aB],rfl,?_⟩
   by_cases c:e.how=0
   ·rw[if_pos (by rw[c];rfl)]
    refine⟨_,.inl ⟨_,bW.of aj,rfl⟩,?_⟩
    rw[decide_eq_true c,Bool.true_and]at hk
    have:(!!(gV as (gone.filter (shut ls))).isEmpty)=(gone.filter (shut ls)).isEmpty:=by simp[gV]
    rw[this]
    exact hk
   ·rw[if_neg (by simp;omega)]
    rw[decide_eq_false c,Bool.false_and]at hk
    exact hk
end
section
variable{P:Program}{w:World}{K:PySem.W.Frag}{mg:Str→Option Value}{base:Heap}{ad:Ad}
def MR(H:Hp):V→OV
 | .ref a=>match H a with
  |some (.ins _ _ fs)=>(decide (fs.lookup (Str.ofString "words")≠some .non),(match fs.lookup (Str.ofString "first_day")with |some (.int i)=>i |_=>0),(match fs.lookup (Str.ofString "number")with |some (.int i)=>i |_=>0))
  |_=>(false,0,0)
 |_=>(false,0,0)
theorem BK{H:Hp}{a:Addr}{x:Line}{n:Nat}(h:tK ad H a x (.int n)):MR H (.ref a)=(x.for_.isSome,(x.from_:Int),(n:Int)):=by
 obtain⟨dx,wv,h1,h2⟩:=h
 have e:decide ((pI (.int (n:Nat)) (.str (kdS x.what)) (.int x.at_) (QR x.what) (.int x.from_) (NK x.until_) (NT x.what) wv).lookup (Str.ofString "words")≠some .non)=x.for_.isSome:=by
  have:(pI (.int (n:Nat)) (.str (kdS x.what)) (.int x.at_) (QR x.what) (.int x.from_) (NK x.until_) (NT x.what) wv).lookup (Str.ofString "words")=some wv:=by simp[pI,aB]
  rw[this]
  cases hf:x.for_ with
  |none=>rw[hf]at h2;have h2:wv= .non:=h2;subst h2;rfl
  |some ws=>rw[hf]at h2;obtain⟨l,rfl,_⟩:=h2;rfl
 simp only[MR,h1]
 rw[e]
 simp[pI,aB]
theorem DS{x y:Pm.NL}(h:E9 (x.1.for_.isSome,(x.1.from_:Int),(x.2:Int)) (y.1.for_.isSome,(y.1.from_:Int),(y.2:Int))=false)(hn:x.2≠y.2):Pm.before x y=true:=by
 rw[Pm.kT]
 unfold E9 AA at h
 simp only[PyProof.Rows.lexLt,itemLt,itemOrd,L2.b2i]at h
 cases hx:x.1.for_.isSome<;>cases hy:y.1.for_.isSome<;>simp[hx,hy]at h ⊢<;>omega
theorem NB{H:Hp}{as:List Addr}{ls:Lines}(hL:ni ad H as ls 0):as.map V.ref=ls.zipIdx.map fun x=>V.ref (adr as x.2):=by
 apply List.ext_getElem?
 intro i
 rw[List.getElem?_map,List.getElem?_map,List.getElem?_zipIdx]
 by_cases c:i<as.length
 ·have c2:i<ls.length:=by rw[←hL.1];exact c
  rw[List.getElem?_eq_getElem c,List.getElem?_eq_getElem c2]
  simp[adr,List.getD_eq_getElem?_getD,List.getElem?_eq_getElem c]
 ·have c2:¬i<ls.length:=by rw[←hL.1];exact c
  rw[List.getElem?_eq_none (by omega),List.getElem?_eq_none (by omega)]
  rfl
theorem ni.nl{H:Hp}{as:List Addr}{ls:Lines}(hL:ni ad H as ls 0){x:Pm.NL}(hm:x∈ls.zipIdx):tK ad H (adr as x.2) x.1 (.int (x.2:Nat)):=by
 obtain⟨l,i⟩:=x
 rw[List.mem_zipIdx_iff_getElem?]at hm
 have hm:ls[i]? =some l:=hm
 have hi:i<as.length:=by rw[hL.1];exact(List.getElem?_eq_some_iff.mp hm).1
 have:=hL.2 i as[i] l (List.getElem?_eq_getElem hi) hm
 show tK ad H (as.getD i 0) l _
 rw[List.getD_eq_getElem?_getD,List.getElem?_eq_getElem hi]
 simpa using this
structure To(H1 H':Hp)(B:Addr)(S:List Pm.NL)(as:List Addr):Prop where
 kk:Kp [B] H1 H'
 at_:∃kvs:List (Key×V),H' B=some (.dK kvs)∧(kvs.map (·.1)).Nodup∧kvs.length≤S.length∧(∀k v,(k,v)∈kvs→∃a:Nat,k=Sum.inl (a:Int)∧mX S a≠[])∧
  ∀a:Nat,(dj kvs (Sum.inl (a:Int))=none∧mX S a=[])∨∃l,dj kvs (Sum.inl (a:Int))=some (.ref l)∧H' l=some (.lst (rf as (mX S a)))∧H1 l=none∧mX S a≠[]
theorem CQ{kvs:List (Key×V)}{k:Key}(h:dj kvs k=none):∀kv∈kvs,kv.1≠k:=by
 intro kv hkv e
 unfold dj at h
 rw[Option.map_eq_none_iff,List.find?_eq_none]at h
 exact h kv hkv (by simp[e])
theorem Bj{kvs:List (Key×V)}{k:Key}{v:V}(h:dj kvs k=none):putK kvs k v=kvs++[(k,v)]:=by
 have hn:=CQ h
 unfold putK
 rw[if_neg]
 simp only[List.any_eq_true,not_exists,not_and,decide_eq_true_eq]
 exact fun kv hkv=>hn kv hkv
theorem vm(S:List Pm.NL)(x:Pm.NL)(a:Nat):mX (S++[x]) a=if x.1.at_=a then mX S a++[x]else mX S a:=by
 unfold mX
 rw[List.filter_append,List.filter_cons]
 by_cases c:x.1.at_=a
 ·rw[if_pos c,if_pos (by simp[c])]
  rfl
 ·rw[if_neg c,if_neg (by simp[c])]
  simp
theorem ER{S:List Pm.NL}{a:Nat}{x:Pm.NL}(h:x∈mX S a):x∈S∧x.1.at_=a:=by
 unfold mX at h
 have:=List.mem_filter.mp h
 exact⟨this.1,by simpa using this.2⟩
def wG(ad:Ad):Sp:=fun vs H Q _=>∃(l:Addr)(as:List Addr)(ls:Lines),vs=[.ref l]∧H l=some (.lst (as.map V.ref))∧ni ad H as ls 0∧ls.length≤100000∧
 ∀S B H',S.Perm ls.zipIdx→S.Pairwise (fun x y=>Pm.before x y=true)→NI H' B S as→H B=none→Kp [] H H'→Q (.ref B) H'
theorem wL(T:Txt K mg ad):bA P w K mg base nj 4 ad.gT ad.cJ ["lines"] (wG ad):=by
 have G_rank:=Oj (P:=P) (w:=w) (base:=base) T
 refine T.fA.ok oE (fun vs H Q E h=> ?_) (fun cdv A outer s H vs Q E hr h=> ?_)
 ·obtain⟨l,as,ls,rfl,_⟩:=h
  rfl
 ·obtain⟨l,as,ls,rfl,hl,hL,hz,k⟩:=h
  have nd:=oE.nd
  have hu:=a7 hr
  refine⟨_,(ao (aU (i:=1) nd rfl (Or.inl rfl) FO)
   (ao (oP PassesOwn.never rfl (gS (G4 G_rank (hr.mono (by decide)) rfl rfl T.zp T.MM T.EL (pv 0))) (bY (i:=2) nd rfl (Or.inl rfl))
   (au (dD (mG PySem.F.plainAttrs_list PySem.F.slot_list_append PySem.F.type_list_append eD (Mw (pv 1) (aM (pv 2) rfl) (bK aA) ⟨rfl,rfl,rfl,rfl⟩) (ak (pv 2) aA)))))
   (au (aJ (pv 1))))),?_⟩
  simp only[La,Q9,Lv,HW,Ra,LV,Pg,Lj,Ik,Li,HV,Pq,HZ,Le,Fm,Ih,Ic,Lf,HS,Lw,Fe,Jh,M7,Ji,M6,LU,Lh,LR,Jd,MY,Jc,Jb,Ph,O9,Ro,PN,Rh,PQ,PF,HR,Fk,Lz,LL,L4,C6,Mq,L8,Lk,Ii,Lb,Ls,Ij,Ia,Ib,Pu,CU,HU,Pa,Mh,Mf,Mg,L9,PJ,LQ,Pw,C8,C7,Ma,Mj,Ml,Mp,K9,Ig,LJ,CV,Iv,Fh,Fj,Fi,Pp,Pn,Fl,Ff,C5,Fu,Iq,HQ,Fc,Im,Md,HX,FA,Fg,Nm,Jq,AH,Iz,Bh,Fz,AH]
  walk_at "r2"
  intro B hB
  have K0:Kp [] H (upd H B (.dK [])):=Kp.new hB
  have hL0:=hL.keep K0 (Loose.nil H)
  have hlB:l≠B:=aD hl hB
  refine⟨_,rfl,l,as.map V.ref,MR (upd H B (.dK [])),rfl,bW.of (by rw[aq hlB];exact hl),by rw[List.length_map,hL.1];have:sizeLine=16777216:=rfl;omega,fun v hv H' Q' kept kq=> ?_,fun ys D H1 hperm hsort hD hD1 kept=> ?_⟩
  ·rw[NB hL]at hv
   obtain⟨x,hx,rfl⟩:=List.mem_map.mp hv
   have hln:=(hL0.nl hx)
   have hln':=hln.keep (H':=H') (S:=[]) (fun b o e _=>kept b o e) (Loose.nil _)
   refine⟨_,x.1,x.2,rfl,hln',fun p hp=> ?_⟩
   have:=kq p hp
   rw[BK hln]at this
   exact this
  ·rw[NB hL]at hperm
   obtain⟨S,hS,rfl⟩:=Dc hperm _ rfl
   have K1:Kp [] H H1:=fun b o e _=>kept b o (K0 b o e (by simp))
   have hL1:=hL.keep K1 (Loose.nil H)
   have hnd:S.Pairwise fun x y=>x.2≠y.2:=by
    have h1:(S.map (·.2)).Nodup:=(hS.map _).nodup_iff.mpr (by rw[List.zipIdx_map_snd];exact List.nodup_range')
    exact List.pairwise_map.mp h1
   have hso:S.Pairwise fun x y=>Pm.before x y=true:=by
    rw[List.pairwise_map]at hsort
    refine((hsort.and hnd).imp_of_mem ?_)
    intro x y hx hy h
    rw[BK (hL0.nl (hS.mem_iff.mp hx)),BK (hL0.nl (hS.mem_iff.mp hy))]at h
    exact DS h.1 h.2
   have nDB:D≠B:=fun z=>by rw[z,aj]at hD;cases hD
   have hB1:H1 B=some (.dK []):=kept _ _ aj
   have hSl:S.length≤100000:=by rw[hS.length_eq];simpa using hz
   refine⟨D,rfl,⟨_,bW.of hD1⟩,u6 (K:=K) (a:=D) (xs:=rf as S) (fun i σ H'=>To H1 H' B (S.take i) as∧∃u,σ=[some (.ref l),some (.ref B),u]) ⟨⟨Kp.refl _ _,[],hB1,by simp,by simp,by simp,fun a=>.inl ⟨rfl,rfl⟩⟩,none,rfl⟩ (fun i σ H' _ zz=>by obtain⟨e,_⟩:=zz;exact bW.of (e.kk D _ hD1 (by simp[nDB]))) ?_ ?_⟩
   ·rintro i v σ H' hv ⟨W,u,rfl⟩
    obtain⟨x,hx,rfl⟩:=L5 hv
    have hxm:=hS.mem_iff.mp (List.mem_of_getElem? hx)
    have hln1:=hL1.nl hxm
    obtain⟨kvs,b1,b2,b3,b4,b5⟩:=W.at_
    have et:S.take (i+1)=S.take i++[x]:=by rw[List.take_add_one,hx];rfl
    walk_at "r1"
    walk_at "r2"
    have hsz:sizeLine=16777216:=rfl
    have hil:i<S.length:=(List.getElem?_eq_some_iff.mp hx).1
    have htl:(S.take i).length=i:=by rw[List.length_take];omega
    have hln':∃dx wv,H' (adr as x.2)=some (.ins ad.b6 dx (pI (.int (x.2:Nat)) (.str (kdS x.1.what)) (.int x.1.at_) (QR x.1.what) (.int x.1.from_) (NK x.1.until_) (NT x.1.what) wv)):=by
     obtain⟨dx,wv,l1,l2⟩:=hln1
     exact⟨dx,wv,W.kk _ _ l1 (by simp;exact cO l1 hB1 (by intro z;cases z))⟩
    obtain⟨dl,wv,l1⟩:=hln'
    have hap:∀y∈S,∃dx fs,H1 (adr as y.2)=some (.ins ad.b6 dx fs)∧fs.lookup (Str.ofString "point")=some (.int y.1.at_):=fun y hy=>by
     obtain⟨dx,wv,q1,q2⟩:=hL1.nl (hS.mem_iff.mp hy)
     exact⟨dx,_,q1,by simp[pI,aB]⟩
    refine⟨.inl ⟨kvs,.inl b1⟩,_,_,_,l1,T.bD,T.kY,.int x.1.at_,by simp[pI,aB],fun p hp=> ?_⟩
    have nBp:B≠p:=aD b1 hp
    refine⟨kvs,by rw[aq nBp];exact b1,Sum.inl (x.1.at_:Int),rfl,by omega,fun v hv=> ?_,fun hn=> ?_⟩
    ·rcases b5 x.1.at_ with⟨h1,_⟩|⟨q,h1,h2,h3,h4⟩
     ·rw[h1]at hv;cases hv
     ·rw[h1]at hv
      cases hv
      have nqp:q≠p:=aD h2 hp
      have nqB:q≠B:=cO h2 b1 (by intro z;cases z)
      have hq:(upd H' p (.lst [])) q=some (.lst (rf as (mX (S.take i) x.1.at_))):=by rw[aq nqp];exact h2
      refine⟨.inl ⟨rfl,_,bW.of hq⟩,q,rfl,_,hq,?_,?_⟩
      ·have:(mX (S.take i) x.1.at_).length≤(S.take i).length:=List.length_filter_le _ _
       simp only[rf,List.length_map]
       omega
      ·rw[et]
       refine⟨fun b o e hb=> ?_,kvs,?_,b2,by simp;omega,fun kk v hkv=> ?_,fun b=> ?_⟩
       ·rw[aq (fun z=>by rw[z,h3]at e;cases e),aq (fun z=>by have:=W.kk b o e hb;rw[z,hp]at this;cases this)]
        exact W.kk b o e hb
       ·rw[aq nqB.symm,aq nBp]
        exact b1
       ·obtain⟨a,e1,e2⟩:=b4 kk v hkv
        refine⟨a,e1,?_⟩
        rw[vm]
        split
        ·simp
        ·exact e2
       ·rw[vm]
        by_cases c:x.1.at_=b
        ·subst c
         rw[if_pos rfl]
         exact .inr ⟨q,h1,by rw[aj];simp[rf],h3,by simp⟩
        ·rw[if_neg c]
         rcases b5 b with h |⟨q2,r1,r2,r3,r4⟩
         ·exact .inl h
         ·refine .inr ⟨q2,r1,?_,r3,r4⟩
          have nq:q2≠q:=fun z=>by
           subst z
           rw[h2]at r2
           have r2:=HO.lst.inj (Option.some.inj r2)
           obtain⟨y,Y,ey⟩:=List.exists_cons_of_ne_nil h4
           obtain⟨z,Z,ez⟩:=List.exists_cons_of_ne_nil r4
           rw[ey,ez]at r2
           simp only[rf,List.map_cons,List.cons.injEq,V.ref.injEq]at r2
           have hy:=ER (show y∈mX (S.take i) x.1.at_ by rw[ey];exact .head _)
           have hz':=ER (show z∈mX (S.take i) b by rw[ez];exact .head _)
           obtain⟨d1,f1,g1,g2⟩:=hap y (List.mem_of_mem_take hy.1)
           obtain⟨d2,f2,g3,g4⟩:=hap z (List.mem_of_mem_take hz'.1)
           rw[r2.1,g3]at g1
           cases g1
           rw[g4]at g2
           have:z.1.at_=y.1.at_:=by
            have:=V.int.inj (Option.some.inj g2)
            omega
           exact c (by rw[←hy.2,←this,hz'.2])
          rw[aq nq,aq (aD r2 hp)]
          exact r2
    ·have ha0:mX (S.take i) x.1.at_=[]:=by
      rcases b5 x.1.at_ with⟨_,h⟩|⟨q,h1,_⟩
      ·exact h
      ·rw[hn]at h1;cases h1
     have h1p:H1 p=none:=by
      cases e:H1 p with
      |none=>rfl
      |some o=>
       by_cases c:p∈[B]
       ·simp at c;exact absurd c.symm nBp
       ·rw[W.kk p o e c]at hp;cases hp
     have hpl:(upd (upd H' p (.lst [])) B (.dK (putK kvs (Sum.inl (x.1.at_:Int)) (.ref p)))) p=some (.lst []):=by rw[aq nBp.symm,aj]
     refine⟨.inl ⟨rfl,_,bW.of hpl⟩,_,hpl,by simp[hsz],?_⟩
     rw[et]
     refine⟨fun b o e hb=> ?_,putK kvs (Sum.inl (x.1.at_:Int)) (.ref p),?_,?_,?_,fun kk v hkv=> ?_,fun b=> ?_⟩
     ·have hbp:b≠p:=fun z=>by rw[z,h1p]at e;cases e
      rw[aq hbp,aq (by simpa using hb),aq hbp]
      exact W.kk b o e hb
     ·rw[aq nBp,aj]
     ·rw[Bj hn,List.map_append,List.nodup_append]
      refine⟨b2,by simp,?_⟩
      intro u hu v hv e
      obtain⟨kv,h1,rfl⟩:=List.mem_map.mp hu
      simp at hv
      exact CQ hn kv h1 (e.trans hv)
     ·have:=iz kvs (Sum.inl (x.1.at_:Int):Key) (V.ref p)
      simp
      omega
     ·rw[Bj hn]at hkv
      rcases List.mem_append.mp hkv with h |h
      ·obtain⟨a,e1,e2⟩:=b4 kk v h
       refine⟨a,e1,?_⟩
       rw[vm]
       split
       ·simp
       ·exact e2
      ·simp at h
       refine⟨x.1.at_,h.1,?_⟩
       rw[vm,if_pos rfl]
       simp
     ·rw[vm,rA]
      by_cases c:x.1.at_=b
      ·subst c
       rw[if_pos rfl,if_pos rfl,ha0]
       exact .inr ⟨p,rfl,by rw[aj];rfl,h1p,by simp⟩
      ·rw[if_neg c,if_neg (fun z=>c (by have:=Sum.inl.inj z;omega))]
       rcases b5 b with h |⟨q2,r1,r2,r3,r4⟩
       ·exact .inl h
       ·have n1:q2≠p:=aD r2 hp
        exact .inr ⟨q2,r1,by rw[aq n1,aq (cO r2 b1 (by intro z;cases z)),aq n1];exact r2,r3,r4⟩
   ·rintro σ H' ⟨W,u,rfl⟩
    have e:S.take (rf as S).length=S:=by simp[rf]
    rw[e]at W
    obtain⟨kvs,b1,b2,b3,b4,b5⟩:=W.at_
    have KK:Kp [] H H':=fun b o e _=>W.kk b o (K1 b o e (by simp)) (by simp;exact aD e hB)
    exact⟨_,rfl,k S B H' hS hso ⟨kvs,b1,b2,b3,b4,fun a=>(b5 a).imp id fun⟨l,h1,h2,_⟩=>⟨l,h1,h2⟩⟩ hB KK⟩
end
section
variable{P:Program}{w:World}{K:PySem.W.Frag}{mg:Str→Option Value}{base:Heap}{ad:Ad}
def nV(l:List Nat):List V:=l.map fun(x:Nat)=>.int (x:Nat)
def QA(kv:Key×V):Int:=match kv.1 with | .inl i=>i | .inr _=>0
theorem Kk{kvs:List (Key×V)}(h:∀k v,(k,v)∈kvs→∃a:Nat,k=Sum.inl (a:Int)):(kvs.map fun kv=>kV kv.1)=(kvs.map QA).map V.int:=by
 rw[List.map_map]
 refine List.map_congr_left fun kv hkv=> ?_
 obtain⟨k,v⟩:=kv
 obtain⟨a,rfl⟩:=h k v hkv
 rfl
theorem MI{kvs:List (Key×V)}{k:Key}{v:V}(h:dj kvs k=some v):(k,v)∈kvs:=by
 unfold dj at h
 cases hf:kvs.find? fun kv=>decide (kv.1=k)with
 |none=>rw[hf]at h;cases h
 |some kv=>
  rw[hf]at h
  cases h
  have h1:=List.find?_some hf
  have h2:=List.mem_of_find?_eq_some hf
  simp at h1
  rw[←h1]
  exact h2
theorem FV:∀{l m:List Int},l.Nodup→(∀x∈l,x∈m)→l.length≤m.length
 |[],_,_,_=>Nat.zero_le _
 |x::l,m,hn,h=>by
  rw[List.nodup_cons]at hn
  have hx:=h x (.head _)
  have ih:=FV (l:=l) (m:=m.erase x) hn.2 fun y hy=>(List.mem_erase_of_ne (fun e=>hn.1 (by rw[←e];exact hy))).mpr (h y (.tail _ hy))
  have:=List.length_erase_of_mem hx
  have:0<m.length:=List.length_pos_of_mem hx
  rw[List.length_cons]
  omega
structure SH(ad:Ad)(G:List Addr)(H H':Hp)(S:List Pm.NL)(as:List Addr)(ls:Lines)(B p O F g q:Addr)(n a d:Nat)(kn:List Nat)(i:Nat):Prop where
 pl:PL ad (g::G) H' S as B p O F [] (n+66*i)
 kk:Kp [O,F] H H'
 g_:H' g=some (.lst (nV ((kn.take i).filter fun x=>(endOf ls [] true x d).how==0&&(endOf ls [] true x d).point==a)))
 q_:H' q=some (.lst (nV kn))
def AQ(ad:Ad):Sp:=fun vs H Q _=>∃(G:List Addr)(p B O F:Addr)(S:List Pm.NL)(as:List Addr)(ls:Lines)(n a d:Nat),vs=[.ref p,.int a,.int d]∧PL ad G H S as B p O F [] n∧Held ad H ls as S B∧n+66*(ls.length+1)<9000000∧ls.length+2<4096∧a≤4095∧(∀g∈G,∃o,H g=some o)∧
 ∀q H',H' q=some (.lst (nV (Wqatco.intoOf ls a d)))→H q=none→PL ad G H' S as B p O F [] (n+66*(ls.length+1))→Kp [O,F] H H'→Q (.ref q) H'
theorem Br(T:Txt K mg ad):bA P w K mg base nj 6 ad.k8 ad.fL ["person_lines","point","day"] (AQ ad):=by
 have G_way_of:=y9 (P:=P) (w:=w) (base:=base) T
 refine T.jh.ok uf (fun vs H Q E h=> ?_) (fun cdv A outer s H vs Q E hr h=> ?_)
 ·obtain⟨G,p,B,O,F,S,as,ls,n,a,d,rfl,_⟩:=h
  rfl
 ·obtain⟨G,p,B,O,F,S,as,ls,n,a,d,rfl,hP,hH,hn,hls,ha,hG,k⟩:=h
  have nd:=uf.nd
  have hu:=a7 hr
  refine⟨_,(ao (aU (i:=3) nd rfl (Or.inl rfl) (bK aA))
   (ao (oP PassesOwn.never rfl (gS (a9 (Hv rfl) (by rfl) T.zp PyProof.Rows.boot_sorted (ak (rL (OL rfl) (by rfl) T.MF PyProof.Rows.boot_set (ak (oQ wK (rL (Nn rfl) (by rfl) T.IP PyProof.Rows.boot_list (ak (aM (pv 0) rfl) aA)) (bK (ak (pv 1) aA))) aA)) aA))) (bY (i:=4) nd rfl (Or.inl rfl))
   (ao (aU (i:=5) nd rfl (Or.inl rfl) (eW G_way_of (hr.mono (by decide)) rfl T.x9 T.pG.kp T.rZ .nil bh (ak (pv 0) (ak (pv 4) (ak (pv 2) (ak xS aA))))))
   (au (a6 (PW.pt (yW (aV f9 (aM (pv 5) rfl) (aE (v:=.int 0) rfl T.je.choose_spec ⟨_,rfl⟩) (aY _)) (vF (aV f9 (aM (pv 5) rfl) (pv 1) (aY _)))))
   (au (dD (mG PySem.F.plainAttrs_list PySem.F.slot_list_append PySem.F.type_list_append eD (pv 3) (ak (pv 4) aA))))
   aL))))
   (au (aJ (pv 3))))),?_⟩
  obtain⟨⟨dx,E',e1,e2,e3⟩,⟨k1,o1,o2,o3⟩,⟨k2,f1,f2,f3⟩,Hj,KO⟩:=id hP
  walk_at "r1"
  walk_at "r2"
  intro g hg
  obtain⟨kvs,b1,b2,b3,b4,b5⟩:=id hH.bp
  have hsz:sizeLine=16777216:=rfl
  have hSl:S.length=ls.length:=hH.len
  have K0:Kp [] H (upd H g (.lst [])):=Kp.new hg
  refine⟨_,rfl,p,_,_,_,_,rfl,K0 _ _ e1 (by simp),T.aQ,T.bU,by simp[FI,aB],B,kvs,rfl,K0 _ _ b1 (by simp),fun q1 hq1=>⟨_,rfl,by simp[hsz],fun q2 hq2=> ?_⟩⟩
  have n12:q1≠q2:=fun z=>by rw[←z,aj]at hq2;cases hq2
  have hck:∀k v,(k,v)∈kvs→∃a:Nat,k=Sum.inl (a:Int):=fun k v hkv=>let ⟨a,e,_⟩:=b4 k v hkv;⟨a,e⟩
  refine⟨q1,q2,_,_,rfl,rfl,by rw[aq n12,aj],by rw[aj],by simp;omega,fun q3 hq3=>⟨q3,kvs.map QA++[(a:Int)],rfl,bW.of (by rw[aj,Kk hck,List.map_append];rfl),?_,fun L q4 hnd hmem hq4=>⟨q4,L,rfl,aj,fun ks q5 hrise hperm hq5=> ?_⟩⟩⟩
  ·have:scanBound=4096:=rfl
   simp
   omega
  have hks:∀x,x∈ks↔x∈kvs.map QA++[(a:Int)]:=fun x=>(hperm.mem_iff).trans (hmem x)
  have hnat:∀x∈ks,((x.toNat:Nat):Int)=x:=fun x hx=>by
   rcases List.mem_append.mp ((hks x).mp hx)with h |h
   ·obtain⟨⟨kk,vv⟩,hkv,rfl⟩:=List.mem_map.mp h
    obtain⟨b,rfl⟩:=hck kk vv hkv
    rfl
   ·simp at h
    rw[h]
    rfl
  have hkn:ks=(ks.map Int.toNat).map fun(x:Nat)=>(x:Int):=by
   rw[List.map_map]
   conv=>lhs;rw[←List.map_id ks]
   exact List.map_congr_left fun x hx=>(hnat x hx).symm
  have hlt:(ks.map Int.toNat).Pairwise (·< ·):=by
   have hnd':ks.Nodup:=hperm.nodup_iff.mpr hnd
   rw[List.pairwise_map]
   refine(hrise.and hnd').imp_of_mem ?_
   intro x y hx hy h
   have:=hnat x hx
   have:=hnat y hy
   have h1:=h.1
   have h2:x≠y:=h.2
   omega
  have hmk:∀x,x∈ks.map Int.toNat↔x=a∨∃l∈ls,l.at_=x:=by
   intro x
   have e1:x∈ks.map Int.toNat↔(x:Int)∈ks:=by
    constructor
    ·intro h
     obtain⟨y,hy,rfl⟩:=List.mem_map.mp h
     rw[hnat y hy]
     exact hy
    ·intro h
     exact List.mem_map.mpr ⟨_,h,rfl⟩
   rw[e1,hks,List.mem_append]
   constructor
   ·rintro(h |h)
    ·obtain⟨⟨kk,vv⟩,hkv,e⟩:=List.mem_map.mp h
     obtain⟨b,rfl,hb⟩:=b4 kk vv hkv
     have e:(b:Int)=x:=e
     have e:b=x:=by omega
     subst e
     obtain⟨y,Y,ey⟩:=List.exists_cons_of_ne_nil hb
     have hy:=ER (show y∈mX S b by rw[ey];exact .head _)
     exact .inr ⟨y.1,hH.mem hy.1,hy.2⟩
    ·simp at h
     exact .inl (by omega)
   ·rintro(h |⟨l,hl,rfl⟩)
    ·exact .inr (by simp[h])
    ·left
     obtain⟨i,hi⟩:=List.getElem?_of_mem hl
     have hm:(l,i)∈S:=hH.pm.mem_iff.mpr (List.mem_zipIdx_iff_getElem?.mpr hi)
     have hat:(l,i)∈mX S l.at_:=List.mem_filter.mpr ⟨hm,by simp⟩
     rcases b5 l.at_ with⟨_,h0⟩|⟨q,h1,_⟩
     ·rw[h0]at hat;cases hat
     ·exact List.mem_map.mpr ⟨_,MI h1,rfl⟩
  have hlen:ks.length≤ls.length+1:=by
   have h1:(ks.map Int.toNat).length=ks.length:=List.length_map _
   have:=FV (hperm.nodup_iff.mpr hnd) fun x hx=>(hks x).mp hx
   simp at this
   omega
  generalize hkd:ks.map Int.toNat=kn at hkn hlt hmk
  have hat4:∀l∈ls,l.at_≤4095:=fun l hl=>by
   have:=hH.ok l hl
   rw[zf]at this
   simp at this
   exact this.1
  have hinto:=Pm.Oy hat4 ha (d:=d) hlt hmk
  have hB:∃kvs,H B=some (.dK kvs):=⟨kvs,b1⟩
  have hknl:kn.length=ks.length:=by rw[←hkd,List.length_map]
  have hnV:ks.map V.int=nV kn:=by rw[hkn,List.map_map];rfl
  rw[hnV]
  have K4:Kp [] (upd H g (.lst [])) (upd (upd (upd (upd (upd H g (.lst [])) q1 (.lst (kvs.map fun kv=>kV kv.1))) q2 (.lst [.int (a:Int)])) q3 (.lst ((kvs.map fun kv=>kV kv.1)++[.int (a:Int)]))) q4 (Fs P w q4 L)):=
   (((Kp.new hq1).trans (Kp.new hq2)).trans (Kp.new hq3)).trans (Kp.new hq4)
  have hq5:(upd (upd (upd (upd (upd H g (.lst [])) q1 (.lst (kvs.map fun kv=>kV kv.1))) q2 (.lst [.int (a:Int)])) q3 (.lst ((kvs.map fun kv=>kV kv.1)++[.int (a:Int)]))) q4 (Fs P w q4 L)) q5=none:=hq5
  suffices hmain:∀H4:Hp,Kp [] (upd H g (.lst [])) H4→H4 q5=none→Lx (fun σ H R=>R (KN K q5) H) (BV 4) (NU (NW (LO (CZ ad) [] E0 (oB (vT 0) (oB (vT 4) (oB (vT 2) (oB (tC (V.bl true)) AI))))) (BV 5))
    (Qc (Qh (Fd (Qb RW (LA K (vT 5) (Str.ofString "how")) (tC (V.int 0)))) (Fd (Qb RW (LA K (vT 5) (Str.ofString "point")) (vT 1)))) (LC (Sb K "list" Ec (vT 3) (oB (vT 4) AI))) Ln))
    { nx:=Lg (vT 3) { nx:=fun x H'=>Q V.non H',rt:=Q },rt:=Q } [some (V.ref p),some (V.int (a:Int)),some (V.int (d:Int)),some (V.ref g),none,none] (upd H4 q5 (.lst (nV kn))) by
   exact⟨q5,rfl,⟨_,bW.of aj⟩,hmain _ K4 hq5⟩
  intro H4 K4 hq5
  have K04:Kp [] H H4:=K0.trans K4
  have hg4:H4 g=some (.lst []):=K4 _ _ aj (by simp)
  have hgq:g≠q5:=fun z=>by rw[z,hq5]at hg4;cases hg4
  have hHq:H q5=none:=by
   cases e:H q5 with
   |none=>rfl
   |some u=>rw[K04 _ _ e (by simp)]at hq5;cases hq5
  have K5:Kp [] H4 (upd H4 q5 (.lst (nV kn))):=Kp.new hq5
  have ngp:g≠p:=fun z=>by rw[z,e1]at hg;cases hg
  have ngO:g≠O:=fun z=>by rw[z,o1]at hg;cases hg
  have ngF:g≠F:=fun z=>by rw[z,f1]at hg;cases hg
  have nqO:q5≠O:=fun z=>by rw[z,o1]at hHq;cases hHq
  have nqF:q5≠F:=fun z=>by rw[z,f1]at hHq;cases hHq
  have W0:SH ad G H (upd H4 q5 (.lst (nV kn))) S as ls B p O F g q5 n a d kn 0:=
   ⟨((hP.more hg).keep (K04.trans K5) (by simp)).mono (by omega) (fun _ h=>h),(K04.trans K5).mono (by simp),K5 _ _ hg4 (by simp),aj⟩
  refine u6 (K:=K) (a:=q5) (xs:=nV kn) (fun i σ H'=>SH ad G H H' S as ls B p O F g q5 n a d kn i∧∃u v,σ=[some (.ref p),some (.int (a:Int)),some (.int (d:Int)),some (.ref g),u,v]) ⟨W0,none,none,rfl⟩ (fun i σ H' _ zz=>by obtain⟨e,_⟩:=zz;exact bW.of e.q_) ?_ ?_
  ·rintro i v σ H' hv ⟨W,u,v',rfl⟩
   have hv:(kn.map fun(x:Nat)=>V.int (x:Nat))[i]? =some v:=hv
   rw[List.getElem?_map]at hv
   cases hx:kn[i]? with
   |none=>rw[hx]at hv;cases hv
   |some x=>
    rw[hx]at hv
    cases hv
    have hil:i<kn.length:=(List.getElem?_eq_some_iff.mp hx).1
    have et:kn.take (i+1)=kn.take i++[x]:=by rw[List.take_add_one,hx];rfl
    have hHk:=hH.keep W.kk (hP.loose hB)
    have hG':∀y∈g::G,∃o,H' y=some o:=by
     intro y hy
     rcases List.mem_cons.mp hy with rfl |hy
     ·exact⟨_,W.g_⟩
     ·obtain⟨o,ho⟩:=hG y hy
      by_cases c:y∈[O,F]
      ·obtain⟨_,⟨_,c1,_⟩,⟨_,c2,_⟩,_⟩:=W.pl
       simp at c
       rcases c with rfl |rfl
       ·exact⟨_,c1⟩
       ·exact⟨_,c2⟩
      ·exact⟨o,W.kk _ _ ho c⟩
    walk_at "r1"
    walk_at "r2"
    refine⟨g::G,p,B,O,F,S,as,ls,[],n+66*i,x,d,true,rfl,W.pl,hHk,by omega,by omega,hG',fun y gone lv H2 hWy hy hP2 KK2=> ?_⟩
    obtain⟨⟨dy,gy,y1,y2⟩,_⟩:=hWy
    have hgn:g∉[O,F]:=by simp[ngO,ngF]
    have hg2:=KK2 _ _ W.g_ hgn
    have hq2:=KK2 _ _ W.q_ (by simp[nqO,nqF])
    have KK:=W.kk.trans KK2
    have hno:((endOf ls [] true x d).how==0&&(endOf ls [] true x d).point==a)=false→SH ad G H H2 S as ls B p O F g q5 n a d kn (i+1):=fun hf=>by
     refine⟨hP2.mono (by omega) (fun _ h=>h),KK,?_,hq2⟩
     rw[et,List.filter_append,List.filter_cons,hf]
     simpa using hg2
    refine⟨y,rfl,_,_,_,y1,T.m8,T.iw,.int ((endOf ls [] true x d).how:Nat),by simp[JC,aB],rfl,?_⟩
    by_cases c1:(endOf ls [] true x d).how=0
    ·rw[if_pos (by rw[c1];rfl)]
     refine⟨y,rfl,_,_,_,y1,T.m8,T.iH,.int ((endOf ls [] true x d).point:Nat),by simp[JC,aB],rfl,?_⟩
     by_cases c2:(endOf ls [] true x d).point=a
     ·rw[if_pos (by rw[c2])]
      have hfl:((kn.take i).filter fun x=>(endOf ls [] true x d).how==0&&(endOf ls [] true x d).point==a).length≤i:=by
       have:=List.length_filter_le (fun x=>(endOf ls [] true x d).how==0&&(endOf ls [] true x d).point==a) (kn.take i)
       rw[List.length_take]at this
       omega
      refine⟨.inl ⟨rfl,_,bW.of hg2⟩,_,hg2,by simp only[nV,List.length_map];omega,?_⟩
      have K3:Kp [g] H2 (upd H2 g (.lst (nV ((kn.take i).filter fun x=>(endOf ls [] true x d).how==0&&(endOf ls [] true x d).point==a)++[.int (x:Int)]))):=Kp.set (by simp)
      refine⟨(hP2.keep K3 (by intro c hc;simp at hc;subst hc;exact⟨.inr (by simp),ngp,ngO,ngF⟩)).mono (by omega) (fun _ h=>h),KK.aX hg,?_,?_⟩
      ·rw[aj,et,List.filter_append,List.filter_cons]
       simp[c1,c2,nV]
      ·rw[aq hgq.symm]
       exact hq2
     ·rw[if_neg (by intro z;exact c2 (by have:=V.int.inj z;omega))]
      exact hno (by simp[c1,c2])
    ·rw[if_neg (by intro z;exact c1 (by have:=V.int.inj z;omega))]
     exact hno (by simp[c1])
  ·rintro σ H' ⟨W,u,v,rfl⟩
   have e:(nV kn).length=kn.length:=by simp[nV]
   rw[e]at W
   have hg':=W.g_
   rw[List.take_length]at hg'
   refine⟨_,rfl,k g H' ?_ hg (W.pl.mono (by omega) (by simp+contextual)) W.kk⟩
   rw[hinto]
   exact hg'
end
section
variable{P:Program}{w:World}{K:PySem.W.Frag}{mg:Str→Option Value}{base:Heap}{ad:Ad}
def wV(l t B p:Addr):List (Str×V):=[("held_lines",.ref l),("held_text",.ref t),("by_point",.ref B),("nobody",.ref p)]
structure i5(ad:Ad)(H:Hp)(h:Addr)(ls:Lines)(n:Nat):Prop where
 at_:∃dx l t B p O F S as,H h=some (.ins ad.aP dx (wV l t B p))∧H l=some (.lst (as.map V.ref))∧H t=some (.lst (iv (linesText ls)))∧Held ad H ls as S B∧PL ad [] H S as B p O F [] n
theorem i5.keep{S':List Addr}{H H':Hp}{h:Addr}{ls:Lines}{n:Nat}(x:i5 ad H h ls n)(KK:Kp S' H H')(hS:∀a∈S',(∀xs,H a≠some (.lst xs))∧(∀kvs,H a≠some (.dK kvs))∧(∀kvs,H a≠some (.dT kvs))∧∀dx fs,H a≠some (.ins ad.b6 dx fs)∧H a≠some (.ins ad.aP dx fs)∧H a≠some (.ins ad.aR dx fs)):i5 ad H' h ls n:=by
 obtain⟨dx,l,t,B,p,O,F,S,as,h1,h2,h3,h4,h5⟩:=x
 obtain⟨kvs,hB,_⟩:=id h4.bp
 obtain⟨⟨d5,E5,p1,p2,p3⟩,⟨k1,o1,o2,o3⟩,⟨k2,f1,f2,f3⟩,_,_⟩:=id h5
 refine⟨dx,l,t,B,p,O,F,S,as,KK _ _ h1 fun z=>((hS _ z).2.2.2 _ _).2.1 h1,KK _ _ h2 fun z=>(hS _ z).1 _ h2,KK _ _ h3 fun z=>(hS _ z).1 _ h3,h4.keep KK ⟨fun a ha=>⟨(hS a ha).1,fun dx fs=>((hS a ha).2.2.2 dx fs).1⟩,fun z=>(hS _ z).2.1 _ hB⟩,h5.keep KK fun a ha=>⟨.inl (hS a ha).1,?_,?_,?_⟩⟩
 ·intro z;subst z;exact((hS _ ha).2.2.2 _ _).2.2 p1
 ·intro z;subst z;exact(hS _ ha).2.1 _ o1
 ·intro z;subst z;exact(hS _ ha).2.2.1 _ f1
theorem i5.BL{H H':Hp}{h:Addr}{ls:Lines}{n:Nat}(x:i5 ad H h ls n)(KK:Kp [] H H'):i5 ad H' h ls n:=x.keep KK (by simp)
def A5(ad:Ad):Sp:=fun vs H Q _=>∃(h dx l t:Addr)(fs:List (Str×V))(as:List Addr)(ls:Lines),vs=[.ref h,.ref l,.ref t]∧H h=some (.ins ad.aP dx fs)∧(fs=[]∨∃l t B p,fs=wV l t B p)∧H l=some (.lst (as.map V.ref))∧H t=some (.lst (iv (linesText ls)))∧ni ad H as ls 0∧(∀x∈ls,x.ok=true)∧ls.length≤100000∧
 ∀H',i5 ad H' h ls 0→Kp [h] H H'→Q .non H'
theorem uO(T:Txt K mg ad):bA P w K mg base nj 5 ad.lJ ad.fX ["self","lines","lines_text"] (A5 ad):=by
 have G_ranked_by_point:=wL (P:=P) (w:=w) (base:=base) T
 have G_PersonLines_init:=nE (P:=P) (w:=w) (base:=base) T
 refine T.mC.ok uC (fun vs H Q E h=> ?_) (fun cdv A outer s H vs Q E hr h=> ?_)
 ·obtain⟨h,dx,l,t,fs,as,ls,rfl,_⟩:=h
  rfl
 ·obtain⟨h,dx,l,t,fs,as,ls,rfl,hh,hfs,hl,ht,hL,hok,hz,k⟩:=h
  have nd:=uC.nd
  have hu:=a7 hr
  refine⟨_,(ao (bR (pv 0) (pv 1) rfl)
   (ao (bR (pv 0) (pv 2) rfl)
   (ao (bR (pv 0) (eW G_ranked_by_point (hr.mono (by decide)) rfl T.pT T.fA.kp T.gW .nil bh (ak (pv 1) aA)) rfl)
   (au (bR (pv 0) (vH T.oU G_PersonLines_init (hr.mono (by decide)) rfl T.oV T.dZ .nil bh (ak (aM (pv 0) rfl) (ak (bK aA) aA))) rfl))))),?_⟩
  have hlen:fs.length<1000:=by rcases hfs with rfl |⟨_,_,_,_,rfl⟩<;>simp[wV]
  walk_at "r1"
  simp[and_assoc,aB,aH,aO,List.lookup_nil,-List.lookup_eq_none_iff,-Bool.exists_bool,-Bool.not_eq_eq_eq_not,L2.wipe,aj,aG,hh,T.aT,T.cP,T.dz,T.dX,T.fH]
  have hf2:∀B,(eU (Str.ofString "held_text") (V.ref t) (eU (Str.ofString "held_lines") (V.ref l) fs)).length<1000∧(eU (Str.ofString "by_point") (V.ref B) (eU (Str.ofString "held_text") (V.ref t) (eU (Str.ofString "held_lines") (V.ref l) fs))).length<1000∧(eU (Str.ofString "held_lines") (V.ref l) fs).length<1000∧
    List.lookup (Str.ofString "by_point") (eU (Str.ofString "by_point") (V.ref B) (eU (Str.ofString "held_text") (V.ref t) (eU (Str.ofString "held_lines") (V.ref l) fs)))=some (.ref B)∧
    ∀p,eU (Str.ofString "nobody") (V.ref p) (eU (Str.ofString "by_point") (V.ref B) (eU (Str.ofString "held_text") (V.ref t) (eU (Str.ofString "held_lines") (V.ref l) fs)))=wV l t B p:=by
   intro B
   rcases hfs with rfl |⟨_,_,_,_,rfl⟩<;>simp[wV,aH,aO,aB]
  have nhl:l≠h:=cO hl hh (by intro z;cases z)
  have nht:t≠h:=cO ht hh (by intro z;cases z)
  generalize hfsd:eU (Str.ofString "held_text") (V.ref t) (eU (Str.ofString "held_lines") (V.ref l) fs)=fs2 at hf2
  have KH:Kp [h] H (upd H h (.ins ad.aP dx fs2)):=Kp.set (by simp)
  have hC:ad.aP≠ad.b6:=by have:=T.Sy;simp at this;intro z;simp_all
  have hLo:Loose ad [h] H:=fun a ha=>by
   simp at ha
   subst ha
   exact⟨fun xs z=>(by rw[hh]at z;cases z),fun dx' fs' z=>(by rw[hh]at z;exact hC (by injection z with z;injection z))⟩
  have hL1:=hL.keep KH hLo
  refine⟨hlen,(hf2 0).2.2.1,l,as,ls,rfl,by rw[aq nhl];exact hl,hL1,hz,fun S B H1 hS hso hbp hB KK1=> ?_⟩
  have hh1:H1 h=some (.ins ad.aP dx fs2):=KK1 _ _ aj (by simp)
  obtain⟨z1,z2,z3,z4,z5⟩:=hf2 B
  refine⟨_,_,_,hh1,T.aT,T.dX,z1,T.aT,T.dX,.ref B,z4,fun q hq p dp hp hdp ndp=> ?_⟩
  have hBn:B≠h:=fun z=>by rw[z,aj]at hB;cases hB
  have K2:Kp [h] H1 (upd H1 h (.ins ad.aP dx (eU (Str.ofString "by_point") (V.ref B) fs2))):=Kp.set (by simp)
  have hqh:q≠h:=fun z=>by rw[z,aj]at hq;cases hq
  have hq1:H1 q=none:=by rwa [aq hqh]at hq
  have KK:Kp [h] H H1:=KH.trans (KK1.mono (by simp))
  refine⟨p,dp,B,q,rfl,aj,fun O F H2 hO hF Hj h1 h2 h3 KK2=>⟨rfl,?_⟩⟩
  generalize hHm:upd H1 h (.ins ad.aP dx (eU (Str.ofString "by_point") (V.ref B) fs2))=Hm at*
  have hhm:Hm h=some (.ins ad.aP dx (eU (Str.ofString "by_point") (V.ref B) fs2)):=by rw[←hHm,aj]
  have xZ:p≠q:=fun z=>by rw[z,aj]at hp;cases hp
  have ndq:dp≠q:=fun z=>by rw[z,aj]at hdp;cases hdp
  have hpm:Hm p=none:=by rwa [aq xZ]at hp
  have hdm:Hm dp=none:=by rwa [aq ndq]at hdp
  have K3:Kp [] Hm (upd (upd (upd Hm q (.lst [])) dp (.own p)) p (.ins ad.aR dp [])):=((Kp.new hq).aX hdm).aX hpm
  have K4:Kp [] Hm H2:=fun b o e _=>KK2 b o (K3 b o e (by simp)) (by simp;exact aD e hpm)
  have hh2:H2 h=some (.ins ad.aP dx (eU (Str.ofString "by_point") (V.ref B) fs2)):=K4 _ _ hhm (by simp)
  refine⟨_,_,_,hh2,T.aT,T.fH,z2,?_⟩
  rw[z5 p]
  have K5:Kp [h] H1 (upd H2 h (.ins ad.aP dx (wV l t B p))):=(K2.trans (K4.mono (by simp))).trans (Kp.set (by simp))
  have K6:Kp [h] H (upd H2 h (.ins ad.aP dx (wV l t B p))):=KK.trans K5
  have hLo1:EW ad [h] H1 B:=⟨fun a ha=>by
   simp at ha
   subst ha
   exact⟨fun xs z=>(by rw[hh1]at z;cases z),fun dx' fs' z=>(by rw[hh1]at z;exact hC (by injection z with z;injection z))⟩,by simp[hBn]⟩
  obtain⟨kb,hBd,_⟩:=id hbp
  have hBm:Hm B=some (.dK kb):=K2 _ _ hBd (by simp[hBn])
  have hO0:∀{b:Addr}{o:HO},Hm b=some o→O≠b:=fun{b o} e z=>by rw[z,K3 _ _ e (by simp)]at hO;cases hO
  have hF0:∀{b:Addr}{o:HO},Hm b=some o→F≠b:=fun{b o} e z=>by rw[z,K3 _ _ e (by simp)]at hF;cases hF
  have nph:p≠h:=fun z=>by rw[z,hhm]at hpm;cases hpm
  have hq2:H2 q=some (.lst []):=KK2 _ _ (by rw[aq xZ.symm,aq ndq.symm,aj]) (by simp;exact xZ.symm)
  refine k _ ⟨dx,l,t,B,p,O,F,S,as,aj,K6 _ _ hl (by simp[nhl]),K6 _ _ ht (by simp[nht]),⟨hL.keep K6 hLo,hok,hS,hso,hbp.keep K5 hLo1⟩,⟨⟨dp,q,by rw[aq nph];exact h1,by rw[aq hqh];exact hq2,by simp⟩,⟨[],by rw[aq (hO0 hhm)];exact h2,by simp,by intro a v hv;cases hv⟩,⟨[],by rw[aq (hF0 hhm)];exact h3,by simp,by intro a d v hv;cases hv⟩,Hj,hO0 hBm⟩⟩ K6
def A4(ad:Ad):Sp:=fun vs H Q _=>∃(h dx:Addr),vs=[.ref h]∧H h=some (.ins ad.aP dx [])∧∀H',i5 ad H' h [] 0→Kp [h] H H'→Q .non H'
theorem BA(T:Txt K mg ad):bA P w K mg base nj 6 ad.lH ad.fW ["self"] (A4 ad):=by
 have G_Holder_hold:=uO (P:=P) (w:=w) (base:=base) T
 refine T.mB.ok uB (fun vs H Q E h=> ?_) (fun cdv A outer s H vs Q E hr h=> ?_)
 ·obtain⟨h,dx,rfl,_⟩:=h
  rfl
 ·obtain⟨h,dx,rfl,hh,k⟩:=h
  have nd:=uB.nd
  have hu:=a7 hr
  refine⟨_,(au (dD (nM (pv 0) T.aT T.oW G_Holder_hold (hr.mono (by decide)) T.jf .nil bh (ak (bK aA) (ak (bK aA) aA))))),?_⟩
  walk_at "r1"
  walk_at "r2"
  refine⟨_,_,hh,rfl,fun l hl t ht=> ?_⟩
  have nlt:l≠t:=fun z=>by rw[z,aj]at ht;cases ht
  have ht':H t=none:=by rwa [aq nlt.symm]at ht
  have K0:Kp [] H (upd (upd H l (.lst [])) t (.lst [])):=(Kp.new hl).aX ht'
  exact⟨h,dx,l,t,[],[],[],rfl,K0 _ _ hh (by simp),.inl rfl,by rw[aq nlt,aj];rfl,by rw[aj];rfl,⟨rfl,fun i a x h=>by simp at h⟩,by simp,by simp,fun H' x KK=>k H' x ((K0.mono (by simp)).trans KK)⟩
theorem i5.hold{H:Hp}{h:Addr}{ls:Lines}{n:Nat}(x:i5 ad H h ls n):∃dx l t B p,H h=some (.ins ad.aP dx (wV l t B p)):=by
 obtain⟨dx,l,t,B,p,O,F,S,as,h1,_⟩:=x
 exact⟨dx,l,t,B,p,h1⟩
theorem QB(a b:Bytes):iv (a++b)=iv a++iv b:=List.map_append
theorem Fx{ls:Lines}(hok:∀l∈ls,l.ok=true)(hl:ls.length≤4096)(b:Bytes):readLines (linesText ls++b)=(jQ ls.length [] [] b).map fun l=>ls++l:=by
 have e1:=Dy ls 0 b hok (by show 0+ls.length≤4096;omega)
 have e2:=yV ls.length b [] [] (by simp)
 show linesFrom (bare (linesText ls++b)) 0 (splitLines (linesText ls++b))=_
 rw[e1,e2,map_map]
 simp
theorem N5{t:Bytes}{ls:Lines}(h:readLines t= .ok ls):linesText ls=t∧(∀l∈ls,l.ok=true)∧ls.length≤4096:=by
 have h:linesFrom (bare t) 0 (splitLines t)= .ok ls:=h
 obtain⟨h1,h2,h3⟩:=Jj _ _ _ h
 refine⟨Dx _ _ _ h,h1,?_⟩
 have:max 0 PoMoves.LINES=4096:=rfl
 omega
theorem ni.app{H:Hp}{as bs:List Addr}{ls ms:Lines}(h1:ni ad H as ls 0)(h2:ni ad H bs ms ls.length):ni ad H (as++bs) (ls++ms) 0:=by
 refine⟨by rw[List.length_append,List.length_append,h1.1,h2.1],fun i a x ha hx=> ?_⟩
 by_cases c:i<as.length
 ·rw[List.getElem?_append_left c]at ha
  rw[List.getElem?_append_left (by rw[←h1.1];exact c)]at hx
  exact h1.2 i a x ha hx
 ·rw[List.getElem?_append_right (by omega)]at ha
  rw[List.getElem?_append_right (by rw[←h1.1];omega)]at hx
  have e:=h1.1
  rw[←e]at hx
  have:=h2.2 (i - as.length) a x ha hx
  rw[←e]at this
  have e2:as.length+(i - as.length)=0+i:=by omega
  rwa [e2]at this
def t6(ad:Ad):Sp:=fun vs H Q E=>∃(h l t q:Addr)(lsH:Lines)(n:Nat)(as:List Addr)(ls:Lines)(b:Bytes),vs=[.ref h,.ref l,.ref t,.ref q]∧i5 ad H h lsH n∧H l=some (.lst (as.map V.ref))∧H t=some (.lst (iv (linesText ls)))∧ni ad H as ls 0∧(∀x∈ls,x.ok=true)∧ls.length≤4096∧H q=some (.lst (iv b))∧b.length≤50000∧(linesText ls).length≤100000∧
 (65536<(linesText ls++b).length→E (.ref ad.bX) none H)∧
 (¬65536<(linesText ls++b).length→(∀x,readLines (linesText ls++b)= .ok x→∀p H',H p=none→H' p=some (.lst [.int 0])→i5 ad H' h x 0→Kp [h] H H'→Q (.ref p) H')∧(∀e,readLines (linesText ls++b)= .error e→kU ad H E e.1 e.2))
theorem kG(T:Txt K mg ad):bA P w K mg base (wz P w (Nc ad)) 7 ad.fj ad.bP ["self","lines","lines_text","text"] (t6 ad):=by
 have G_Holder_hold:=uO (P:=P) (w:=w) (base:=base) T
 have G_read_text:=Ek (P:=P) (w:=w) (base:=base) T
 refine T.fC.Ap kE (fun vs H Q E h=> ?_) (fun cdv A outer s H vs Q E hr h X hX fl po=> ?_)
 ·obtain⟨h,l,t,q,lsH,n,as,ls,b,rfl,_⟩:=h
  rfl
 ·obtain⟨h,l,t,q,lsH,n,as,ls,b,rfl,hO,hl,ht,hL,hok,hz,hq,hbz,htz,k1,k2⟩:=h
  have nd:=kE.nd
  have hu:=a7 hr
  subst hX
  have ps:=b9.passes fl rfl
  refine⟨_,(ao (a6 (aV v8 (oQ Bq (a9 (a8 (K:=K) rfl) (by rfl) T.c9 PySem.boot_len (ak (pv 2) aA)) (a9 (a8 (K:=K) rfl) (by rfl) T.c9 PySem.boot_len (ak (pv 3) aA))) (aE (v:=.int 65536) rfl T.yw.choose_spec ⟨_,rfl⟩) (aY _))
   (au (bG fl rfl rfl ⟨T.kO,T.kI⟩ T.oA rfl))
   aL)
   (ao (dD (nM (pv 0) T.aT T.oW G_Holder_hold (hr.mono (by decide)) T.jf .nil bh (ak (oQ wK (pv 1) (bT G_read_text (hr.mono (by decide)) rfl T.zQ T.mS.kp T.qj .nil ps (ak (pv 3) (ak (a9 (a8 (K:=K) rfl) (by rfl) T.c9 PySem.boot_len (ak (pv 1) aA)) aA)))) (ak (oQ wK (pv 2) (pv 3)) aA))))
   (au (aJ (bK (ak (aE (v:=.int 0) rfl T.EK.choose_spec ⟨_,rfl⟩) aA)))))),?_⟩
  have hsz:sizeLine=16777216:=rfl
  have lt:pJ K (.ref t) H (linesText ls).length:=by have:=dF (K:=K) ht;rwa [iv,List.length_map]at this
  have lq:pJ K (.ref q) H b.length:=by have:=dF (K:=K) hq;rwa [iv,List.length_map]at this
  have ll:pJ K (.ref l) H ls.length:=by have:=dF (K:=K) hl;rwa [List.length_map,hL.1]at this
  walk_at "r1"
  walk_at "r2"
  refine⟨_,lt,_,lq,?_⟩
  have el:(linesText ls++b).length=(linesText ls).length+b.length:=List.length_append
  by_cases c:65536<(linesText ls++b).length
  ·rw[if_pos (by omega)]
   exact k1 c
  ·rw[if_neg (by omega)]
   obtain⟨k2,k3⟩:=k2 c
   obtain⟨dx,l0,t0,B0,p0,hh⟩:=hO.hold
   have hrb:=Fx hok hz b
   refine⟨_,_,hh,by simp[wV,aB],_,ll,q,b,ls.length,rfl,hq,by omega,by omega,fun ms bs r H2 hr hr0 hr2 hL2 KK=> ?_,fun e he=> ?_⟩
   ·rw[hr]at hrb
    have hrb:readLines (linesText ls++b)= .ok (ls++ms):=hrb
    obtain⟨r1,r2,r3⟩:=N5 hrb
    have hL2':=hL.keep KK (Loose.nil H)
    have hLa:=hL2'.app hL2
    have hbl:bs.length=ms.length:=hL2.1
    have hal:as.length=ls.length:=hL.1
    have hml:(ls++ms).length=ls.length+ms.length:=List.length_append
    refine⟨r,rfl,_,KK _ _ hl (by simp),_,hr2,by simp;omega,fun p hp=> ?_⟩
    have K2:Kp [] H2 (upd H2 p (.lst (as.map V.ref++bs.map V.ref))):=Kp.new hp
    refine⟨_,K2 _ _ (KK _ _ ht (by simp)) (by simp),_,K2 _ _ (KK _ _ hq (by simp)) (by simp),by simp[iv];omega,fun p2 hp2=> ?_⟩
    have K3:Kp [] H (upd (upd H2 p (.lst (as.map V.ref++bs.map V.ref))) p2 (.lst (iv (linesText ls)++iv b))):=(KK.trans K2).trans (Kp.new hp2)
    have np:p≠p2:=fun z=>by rw[z,aj]at hp2;cases hp2
    refine⟨h,dx,p,p2,_,as++bs,ls++ms,rfl,K3 _ _ hh (by simp),.inr ⟨_,_,_,_,rfl⟩,by rw[aq np,aj,List.map_append],by rw[aj,r1,QB],hLa.keep (K2.trans (Kp.new hp2)) (Loose.nil H2),r2,by omega,fun H4 hH4 K4=>⟨by omega,fun p5 hp5=> ?_⟩⟩
    have K5:Kp [] H4 (upd H4 p5 (.lst [.int 0])):=Kp.new hp5
    have KK5:Kp [h] H (upd H4 p5 (.lst [.int 0])):=((K3.mono (by simp)).trans K4).trans (K5.mono (by simp))
    refine k2 _ hrb p5 _ ?_ aj (hH4.BL K5) KK5
    cases e:H p5 with
    |none=>rfl
    |some o=>
     have hne:p5≠h:=fun z=>by
      obtain⟨_,_,_,_,_,hh4⟩:=hH4.hold
      rw[z,hh4]at hp5
      cases hp5
     have:=((K3.mono (by simp):Kp [h] H _).trans K4) p5 o e (by simp[hne])
     rw[this]at hp5
     cases hp5
   ·rw[he]at hrb
    exact k3 e hrb
def A1(ad:Ad):Sp:=fun vs H Q E=>∃(h q:Addr)(lsH:Lines)(n:Nat)(b:Bytes),vs=[.ref h,.ref q]∧i5 ad H h lsH n∧H q=some (.lst (iv b))∧b.length≤50000∧
 (65536<b.length→∀H',Kp [] H H'→E (.ref ad.bX) none H')∧
 (¬65536<b.length→(∀x,readLines b= .ok x→∀p H',H p=none→H' p=some (.lst [.int 0])→i5 ad H' h x 0→Kp [h] H H'→Q (.ref p) H')∧(∀e,readLines b= .error e→kU ad H E e.1 e.2))
theorem kU.mono{H H':Hp}{E:XK}{n y:Nat}(h:kU ad H E n y)(KK:Kp [] H H'):kU ad H' E n y:=fun dx H2 e K2=>h dx H2 e (KK.trans K2)
theorem Bx(T:Txt K mg ad):bA P w K mg base (wz P w (Nc ad)) 8 ad.lE ad.fT ["self","text"] (A1 ad):=by
 have G_Holder_hold_behind:=kG (P:=P) (w:=w) (base:=base) T
 refine T.mj.Ap ux (fun vs H Q E h=> ?_) (fun cdv A outer s H vs Q E hr h X hX fl po=> ?_)
 ·obtain⟨h,q,lsH,n,b,rfl,_⟩:=h
  rfl
 ·obtain⟨h,q,lsH,n,b,rfl,hO,hq,hbz,k1,k2⟩:=h
  have nd:=ux.nd
  have hu:=a7 hr
  subst hX
  have ps:=b9.passes fl rfl
  refine⟨_,(au (aJ (iu (pv 0) T.aT T.gO G_Holder_hold_behind (hr.mono (by decide)) T.cR .nil ps (ak (bK aA) (ak (bK aA) (ak (pv 1) aA)))))),?_⟩
  walk_at "r1"
  walk_at "r2"
  obtain⟨dx,l0,t0,B0,p0,hh⟩:=hO.hold
  refine⟨_,_,hh,by simp[wV,aB],fun l hl t ht=> ?_⟩
  have nlt:l≠t:=fun z=>by rw[z,aj]at ht;cases ht
  have ht':H t=none:=by rwa [aq nlt.symm]at ht
  have K0:Kp [] H (upd (upd H l (.lst [])) t (.lst [])):=(Kp.new hl).aX ht'
  refine⟨h,l,t,q,lsH,n,[],[],b,rfl,hO.BL K0,by rw[aq nlt,aj];rfl,by rw[aj];rfl,⟨rfl,fun i a x h=>by simp at h⟩,by simp,by simp,K0 _ _ hq (by simp),hbz,by show 0≤100000;omega,fun c=>k1 c _ K0,fun c=> ?_⟩
  obtain⟨k2,k3⟩:=k2 c
  refine⟨fun x hx p H' hp hp' hH' KK=>k2 x hx p H' ?_ hp' hH' ((K0.mono (by simp)).trans KK),fun e he=>(k3 e he).mono K0⟩
  cases e:H p with
  |none=>rfl
  |some o=>rw[K0 _ _ e (by simp)]at hp;cases hp
def A2(ad:Ad):Sp:=fun vs H Q E=>∃(h q:Addr)(ls:Lines)(n:Nat)(b:Bytes),vs=[.ref h,.ref q]∧i5 ad H h ls n∧ls.length≤4096∧H q=some (.lst (iv b))∧b.length≤50000∧(linesText ls).length≤100000∧
 (65536<(linesText ls++b).length→E (.ref ad.bX) none H)∧
 (¬65536<(linesText ls++b).length→(∀x,readLines (linesText ls++b)= .ok x→∀p H',H p=none→H' p=some (.lst [.int 0])→i5 ad H' h x 0→Kp [h] H H'→Q (.ref p) H')∧(∀e,readLines (linesText ls++b)= .error e→kU ad H E e.1 e.2))
theorem By(T:Txt K mg ad):bA P w K mg base (wz P w (Nc ad)) 8 ad.lF ad.fU ["self","text"] (A2 ad):=by
 have G_Holder_hold_behind:=kG (P:=P) (w:=w) (base:=base) T
 refine T.mq.Ap uz (fun vs H Q E h=> ?_) (fun cdv A outer s H vs Q E hr h X hX fl po=> ?_)
 ·obtain⟨h,q,ls,n,b,rfl,_⟩:=h
  rfl
 ·obtain⟨h,q,ls,n,b,rfl,hO,hz,hq,hbz,htz,k1,k2⟩:=h
  have nd:=uz.nd
  have hu:=a7 hr
  subst hX
  have ps:=b9.passes fl rfl
  refine⟨_,(au (aJ (iu (pv 0) T.aT T.gO G_Holder_hold_behind (hr.mono (by decide)) T.cR .nil ps (ak (aM (pv 0) rfl) (ak (aM (pv 0) rfl) (ak (pv 1) aA)))))),?_⟩
  obtain⟨dx,l,t,B,p,O,F,S,as,h1,h2,h3,h4,h5⟩:=id hO
  walk_at "r1"
  simp[and_assoc,aB,aH,aO,List.lookup_nil,-List.lookup_eq_none_iff,-Bool.exists_bool,-Bool.not_eq_eq_eq_not,L2.wipe,aj,aG,h1,T.aT,T.cP,T.dz,wV]
  exact⟨h,l,t,q,ls,n,as,ls,b,rfl,hO,h2,h3,h4.ln,h4.ok,hz,hq,hbz,htz,k1,k2⟩
end
section
variable{P:Program}{w:World}{K:PySem.W.Frag}{mg:Str→Option Value}{base:Heap}{ad:Ad}
def A0(ad:Ad):Sp:=fun vs H Q _=>∃(h:Addr)(ls:Lines)(n:Nat),vs=[.ref h]∧i5 ad H h ls n∧(linesText ls).length≤100000∧∀p H',H p=none→H' p=some (.lst (.int ((linesText ls).length:Nat)::iv (linesText ls)))→Kp [] H H'→Q (.ref p) H'
theorem Bw(T:Txt K mg ad):bA P w K mg base nj 1 ad.lD ad.fS ["self"] (A0 ad):=by
 refine T.lZ.ok uw (fun vs H Q E h=> ?_) (fun cdv A outer s H vs Q E hr h=> ?_)
 ·obtain⟨h,ls,n,rfl,_⟩:=h
  rfl
 ·obtain⟨h,ls,n,rfl,hO,hz,k⟩:=h
  have nd:=uw.nd
  have hu:=a7 hr
  refine⟨_,(au (aJ (oQ wK (bK (ak (a9 (a8 (K:=K) rfl) (by rfl) T.c9 PySem.boot_len (ak (aM (pv 0) rfl) aA)) aA)) (aM (pv 0) rfl)))),?_⟩
  obtain⟨dx,l,t,B,p,O,F,S,as,h1,h2,h3,h4,h5⟩:=id hO
  have hsz:sizeLine=16777216:=rfl
  have lt:pJ K (.ref t) H (linesText ls).length:=by have:=dF (K:=K) h3;rwa [iv,List.length_map]at this
  walk_at "r1"
  simp[and_assoc,aB,aH,aO,List.lookup_nil,-List.lookup_eq_none_iff,-Bool.exists_bool,-Bool.not_eq_eq_eq_not,L2.wipe,aj,aG,h1,T.aT,T.dz,wV]
  refine⟨_,lt,by omega,fun q hq=> ?_⟩
  have K0:Kp [] H (upd H q (.lst [.int ((linesText ls).length:Nat)])):=Kp.new hq
  refine⟨_,_,_,K0 _ _ h1 (by simp),T.aT,T.dz,.ref t,by simp[wV,aB],t,rfl,_,K0 _ _ h3 (by simp),by simp[iv];omega,fun p2 hp2=> ?_⟩
  refine k p2 _ ?_ aj (K0.trans (Kp.new hp2))
  cases e:H p2 with
  |none=>rfl
  |some o=>rw[K0 _ _ e (by simp)]at hp2;cases hp2
def Gx(ls:Lines):List V:=ls.map fun l=>.str (kdS l.what)
theorem BM{s:Str}{g:Line→Bool}{ls:Lines}(h:∀l:Line,Jk (.str (kdS l.what)) (.str s)=g l):(Gx ls).countP (fun z=>Jk z (.str s))=(ls.filter g).length:=by
 unfold Gx
 rw[List.countP_map,List.countP_eq_length_filter]
 congr 2
 funext l
 exact h l
def Aa(ad:Ad):Sp:=fun vs H Q _=>∃(h:Addr)(ls:Lines)(n:Nat),vs=[.ref h]∧i5 ad H h ls n∧ls.length≤100000∧∀p H',H p=none→
 H' p=some (.lst [.int 0,.int (ls.length:Nat),.int ((ls.filter Wqatco.isMove).length:Nat),.int ((ls.filter fun(l:Line)=>l.what== .hold).length:Nat),.int ((ls.filter fun(l:Line)=>l.what== .halt_).length:Nat)])→Kp [] H H'→Q (.ref p) H'
theorem Ah(T:Txt K mg ad):bA P w K mg base nj 1 ad.jZ ad.eO ["self"] (Aa ad):=by
 refine T.kj.ok tS (fun vs H Q E h=> ?_) (fun cdv A outer s H vs Q E hr h=> ?_)
 ·obtain⟨h,ls,n,rfl,_⟩:=h
  rfl
 ·obtain⟨h,ls,n,rfl,hO,hz,k⟩:=h
  have nd:=tS.nd
  have hu:=a7 hr
  refine⟨_,(ao (Bk (i:=1) rfl nd rfl rfl (DT rfl rfl rfl rfl) (gS (aM (pv 0) rfl)) (pE ["self","kinds","line"] (aC jO) [("line",2)] (by decide +kernel)) (fun _ _ _ _ _=>(bY (i:=2) nd rfl (Or.inl rfl))) (fun _ _ _ _ _=>xQ) (fun _ _ _ _ _=>(xR (K:=K) rfl (pv 2) rfl)))
   (au (aJ (bK (ak (aE (v:=.int 0) rfl T.EK.choose_spec ⟨_,rfl⟩) (ak (a9 (a8 (K:=K) rfl) (by rfl) T.c9 PySem.boot_len (ak (pv 1) aA)) (ak (mG PySem.F.plainAttrs_list PySem.F.slot_list_count PySem.F.type_list_count zq (pv 1) (ak (aE (v:=.str "move") rfl T.wZ.choose_spec ⟨_,rfl⟩) aA)) (ak (mG PySem.F.plainAttrs_list PySem.F.slot_list_count PySem.F.type_list_count zq (pv 1) (ak (aE (v:=.str "hold") rfl T.HB.choose_spec ⟨_,rfl⟩) aA)) (ak (mG PySem.F.plainAttrs_list PySem.F.slot_list_count PySem.F.type_list_count zq (pv 1) (ak (aE (v:=.str "stop") rfl T.HA.choose_spec ⟨_,rfl⟩) aA)) aA))))))))),?_⟩
  obtain⟨dx,l,t,B,p,O,F,S,as,h1,h2,h3,h4,h5⟩:=id hO
  have hsz:sizeLine=16777216:=rfl
  walk_at "r1"
  simp[and_assoc,aB,aH,aO,List.lookup_nil,-List.lookup_eq_none_iff,-Bool.exists_bool,-Bool.not_eq_eq_eq_not,L2.wipe,aj,aG,h1,T.aT,T.cP,wV]
  refine⟨_,rfl,h,_,_,_,_,rfl,h1,T.aT,T.cP,by simp[wV,aB],l,rfl,⟨_,bW.of h2⟩,fun D hD=>IW (a:=l) (xs:=as.map V.ref) hD (fun i=>Gx (ls.take i)) rfl (bW.of h2) (fun i v Nx hv hN=> ?_) ?_⟩
  ·rw[List.getElem?_map]at hv
   cases ha:as[i]? with
   |none=>rw[ha]at hv;cases hv
   |some a=>
    rw[ha]at hv
    cases hv
    have hil:i<ls.length:=by rw[←h4.ln.1];exact(List.getElem?_eq_some_iff.mp ha).1
    have hx:ls[i]? =some ls[i]:=List.getElem?_eq_getElem hil
    have K1:Kp [] H (upd H D (.lst (Gx (ls.take i)))):=Kp.new hD
    obtain⟨dl,wv,l1,l2⟩:=(h4.ln.2 i a _ ha hx).keep K1 (Loose.nil H)
    have et:ls.take (i+1)=ls.take i++[ls[i]]:=by rw[List.take_add_one,hx];rfl
    walk_at "r1"
    simp[and_assoc,aB,aH,aO,List.lookup_nil,-List.lookup_eq_none_iff,-Bool.exists_bool,-Bool.not_eq_eq_eq_not,L2.wipe,aj,aG,l1,T.bD,T.eX,pI]
    refine⟨by simp[Gx];omega,?_⟩
    have ek:Gx (ls.take (i+1))=Gx (ls.take i)++[.str (kdS ls[i].what)]:=by rw[et];simp only[Gx,List.map_append,List.map_cons,List.map_nil]
    rw[ek]at hN
    exact hN
  ·have elen:(as.map V.ref).length=ls.length:=by rw[List.length_map];exact h4.ln.1
   rw[elen,List.take_length]
   have ll:pJ K (.ref D) (upd H D (.lst (Gx ls))) ls.length:=by have:=dF (K:=K) (aj:(upd H D (.lst (Gx ls))) D=some (.lst (Gx ls)));rwa [Gx,List.length_map]at this
   have sq:bW K (upd H D (.lst (Gx ls))) D (Gx ls):=bW.of aj
   have fl:∀x,x∈Gx ls→mK x=true:=fun x hx=>by
    obtain⟨y,_,rfl⟩:=List.mem_map.mp hx
    rfl
   refine⟨_,ll,.inl ⟨rfl,_,sq⟩,D,rfl,_,sq,rfl,fl,.inl ⟨rfl,_,sq⟩,D,rfl,_,sq,rfl,fl,.inl ⟨rfl,_,sq⟩,D,rfl,_,sq,rfl,fl,by omega,fun p hp=> ?_⟩
   have K0:Kp [] H (upd H D (.lst (Gx ls))):=Kp.new hD
   rw[BM (g:=Wqatco.isMove) (by intro w;rcases w with⟨w,_⟩;cases w<;>rfl),BM (g:=fun l=>l.what== .hold) (by intro w;rcases w with⟨w,_⟩;cases w<;>rfl),BM (g:=fun l=>l.what== .halt_) (by intro w;rcases w with⟨w,_⟩;cases w<;>rfl)]
   refine k p _ ?_ aj (K0.trans (Kp.new hp))
   cases e:H p with
   |none=>rfl
   |some o=>rw[K0 _ _ e (by simp)]at hp;cases hp
end
section
variable{P:Program}{w:World}{K:PySem.W.Frag}{mg:Str→Option Value}{base:Heap}{ad:Ad}
theorem Kp.was{H H':Hp}{p:Addr}(KK:Kp [] H H')(h:H' p=none):H p=none:=by
 cases e:H p with
 |none=>rfl
 |some o=>rw[KK _ _ e (by simp)]at h;cases h
def oC(ad:Ad):Sp:=fun vs H Q E=>∃(h q:Addr)(ls:Lines)(n a d:Nat)(z:List Int),vs=[.ref h,.int a,.int d,.ref q]∧i5 ad H h ls n∧H q=some (.lst (zv z))∧z.length≤100000∧
 (512<z.length→∀H',Kp [] H H'→E (.ref ad.bX) none H')∧
 (z.length≤512→∀k,z.findIdx? (fun c=> !Wqatco.wide c)=some k→Ce ad H E k)∧
 (z.length≤512→z.findIdx? (fun c=> !Wqatco.wide c)=none→
  (tooMuch (wordsOf (z.map Int.toNat))=true→∀H',Kp [] H H'→E (.ref ad.bX) none H')∧
  (tooMuch (wordsOf (z.map Int.toNat))=false→POINT<a∨DAY<d→∀H',Kp [] H H'→E (.ref ad.iE) none H')∧
  (tooMuch (wordsOf (z.map Int.toNat))=false→¬(POINT<a∨DAY<d)→∀p O F S as B H',PL ad [] H' S as B p O F (Wqatco.personOf (z.map Int.toNat)) 0→Held ad H' ls as S B→H O=none→H F=none→Kp [] H H'→Q (.ref p) H'))
theorem dU(T:Txt K mg ad):bA P w K mg base (wz P w (Nc ad)) 6 ad.cD ad.bx ["self","point","day","name"] (oC ad):=by
 have G_person_of_letter:=vX (P:=P) (w:=w) (base:=base) T
 have G_PersonLines_init:=nE (P:=P) (w:=w) (base:=base) T
 refine T.cE.Ap hJ (fun vs H Q E h=> ?_) (fun cdv A outer s H vs Q E hr h X hX fl po=> ?_)
 ·obtain⟨h,q,ls,n,a,d,z,rfl,_⟩:=h
  rfl
 ·obtain⟨h,q,ls,n,a,d,z,rfl,hO,hq,hz,k1,k2,k3⟩:=h
  have nd:=hJ.nd
  have hu:=a7 hr
  subst hX
  have ps:=b9.passes fl rfl
  refine⟨_,(au (aJ (vH T.oU G_PersonLines_init (hr.mono (by decide)) rfl T.oV T.dZ .nil bh (ak (aM (pv 0) rfl) (ak (bT G_person_of_letter (hr.mono (by decide)) rfl T.oY T.d4.kp T.gD .nil ps (ak (pv 1) (ak (pv 2) (ak (pv 3) aA)))) aA))))),?_⟩
  obtain⟨dx,l,t,B,p0,O0,F0,S,as,h1,h2,h3,h4,h5⟩:=id hO
  walk_at "r1"
  simp[and_assoc,aB,aH,aO,List.lookup_nil,-List.lookup_eq_none_iff,-Bool.exists_bool,-Bool.not_eq_eq_eq_not,L2.wipe,aj,aG,h1,T.aT,T.dX,wV]
  refine⟨a,d,q,z,rfl,hq,hz,k1,k2,fun c1 c2=>⟨(k3 c1 c2).1,(k3 c1 c2).2.1,fun c3 c4 e H1 he he1 KK p dp hp hdp ndp=> ?_⟩⟩
  have K2:Kp [] H1 (upd (upd H1 dp (.own p)) p (.ins ad.aR dp [])):=(Kp.new hdp).aX hp
  have hk:=(k3 c1 c2).2.2 c3 c4
  refine⟨p,dp,B,e,rfl,aj,fun O F H2 hO' hF' Hj g1 g2 g3 KK2=>⟨rfl,?_⟩⟩
  have K3:Kp [] H1 H2:=fun b o eb _=>KK2 b o (K2 b o eb (by simp)) (by simp;exact aD eb hp)
  have K4:Kp [] H H2:=KK.trans K3
  have hO1:H1 O=none:=K2.was hO'
  have hF1:H1 F=none:=K2.was hF'
  obtain⟨kb,hBd,_⟩:=id h4.bp
  have KO:O≠B:=fun z=>by rw[z,KK _ _ hBd (by simp)]at hO1;cases hO1
  exact hk p O F S as B H2 ⟨⟨dp,e,g1,K3 _ _ he1 (by simp),by simp⟩,⟨[],g2,by simp,by intro a v hv;cases hv⟩,⟨[],g3,by simp,by intro a d v hv;cases hv⟩,Hj,KO⟩ (h4.keep K4 ⟨Loose.nil H,by simp⟩) (KK.was hO1) (KK.was hF1) K4
def KG(x:Wqatco.Ans):List V:=.int x.ret::x.nums.map fun(k:Nat)=>.int (k:Nat)
def Due(ad:Ad)(H:Hp)(Q:VK)(E:XK)(x:Wqatco.Ans):Prop:=
 (x=Wqatco.MUCH→∀H',Kp [] H H'→E (.ref ad.bX) none H')∧(x=Wqatco.BAD→∀H',Kp [] H H'→E (.ref ad.iE) none H')∧(x=Wqatco.MISSING→∀H',Kp [] H H'→E (.ref ad.iX) none H')∧
 (∀k,x=Wqatco.faultAt [k]→Ce ad H E k)∧(∀p H',H p=none→H' p=some (.lst (KG x))→Kp [] H H'→Q (.ref p) H')
theorem wY{ls:Lines}{H:Hp}{Q:VK}{E:XK}{a d:Nat}{z:List Int}{f:Person→Wqatco.Ans}(h:Due ad H Q E (Wqatco.ofLetter a d z f)):
  (512<z.length→∀H',Kp [] H H'→E (.ref ad.bX) none H')∧(z.length≤512→∀k,z.findIdx? (fun c=> !Wqatco.wide c)=some k→Ce ad H E k)∧
  (z.length≤512→z.findIdx? (fun c=> !Wqatco.wide c)=none→
   (tooMuch (wordsOf (z.map Int.toNat))=true→∀H',Kp [] H H'→E (.ref ad.bX) none H')∧
   (tooMuch (wordsOf (z.map Int.toNat))=false→POINT<a∨DAY<d→∀H',Kp [] H H'→E (.ref ad.iE) none H')∧
   (tooMuch (wordsOf (z.map Int.toNat))=false→¬(POINT<a∨DAY<d)→Due ad H Q E (f (Wqatco.personOf (z.map Int.toNat))))):=by
 unfold Wqatco.ofLetter at h
 have hC:CHARS=512:=rfl
 rw[hC]at h
 refine⟨fun c=> ?_,fun c k hk=> ?_,fun c hk=> ?_⟩
 ·rw[if_pos c]at h
  exact h.1 rfl
 ·rw[if_neg (by omega),hk]at h
  exact h.2.2.2.1 k rfl
 ·rw[if_neg (by omega),hk]at h
  refine⟨fun c2=> ?_,fun c2 c3=> ?_,fun c2 c3=> ?_⟩
  ·simp only[c2,if_true]at h
   exact h.1 rfl
  ·simp only[c2,if_pos c3]at h
   exact h.2.1 rfl
  ·simp only[c2,if_neg c3]at h
   exact h
def D4(ad:Ad):Sp:=fun vs H Q E=>∃(h q:Addr)(ls:Lines)(n a d:Nat)(z:List Int),vs=[.ref h,.int a,.int d,.ref q]∧i5 ad H h ls n∧ls.length≤100000∧H q=some (.lst (zv z))∧z.length≤100000∧Due ad H Q E (Wqatco.told ls (.at_ a d z))
theorem Ep(T:Txt K mg ad):bA P w K mg base (wz P w (Nc ad)) 7 ad.qd ad.iQ ["self","point","day","name"] (D4 ad):=by
 have G_Holder_lines_for_letter:=dU (P:=P) (w:=w) (base:=base) T
 have G_PersonLines_counting:=jG (P:=P) (w:=w) (base:=base) T
 refine T.qz.Ap xP (fun vs H Q E h=> ?_) (fun cdv A outer s H vs Q E hr h X hX fl po=> ?_)
 ·obtain⟨h,q,ls,n,a,d,z,rfl,_⟩:=h
  rfl
 ·obtain⟨h,q,ls,n,a,d,z,rfl,hO,hls,hq,hz,k⟩:=h
  have nd:=xP.nd
  have hu:=a7 hr
  subst hX
  have ps:=b9.passes fl rfl
  refine⟨_,(ao (aU (i:=4) nd rfl (Or.inl rfl) (nM (iu (pv 0) T.aT T.b7 G_Holder_lines_for_letter (hr.mono (by decide)) T.bC .nil ps (ak (pv 1) (ak (pv 2) (ak (pv 3) aA)))) T.aQ T.fK G_PersonLines_counting (hr.mono (by decide)) T.b8 .nil bh (ak (pv 1) (ak (pv 2) aA))))
   (ao (a6 (yX (Ei (pv 4)))
   (au (bG fl rfl rfl ⟨T.kZ,T.jL⟩ T.qB rfl))
   aL)
   (au (aJ (bK (ak (aM (pv 4) rfl) aA)))))),?_⟩
  obtain⟨dx,l,t,B0,p0,hh⟩:=hO.hold
  walk_at "r1"
  walk_at "r2"
  obtain⟨k1,k2,k3⟩:=wY (ls:=ls) (show Due ad H Q E (Wqatco.ofLetter a d z fun p=>match countsAt ls p a d with |some x=>Wqatco.says (x.1:Nat)|none=>Wqatco.MISSING)from k)
  refine⟨_,_,hh,by simp[wV,aB],h,q,ls,n,a,d,z,rfl,hO,hq,hz,k1,k2,fun c1 c2=>⟨(k3 c1 c2).1,(k3 c1 c2).2.1,fun c3 c4 p O F S as B H1 hP hH hO1 hF1 KK=> ?_⟩⟩
  have hk:=(k3 c1 c2).2.2 c3 c4
  obtain⟨⟨dp,E',e1,e2,e3⟩,⟨x1,o1,_⟩,⟨x2,f1,_⟩,_,_⟩:=id hP
  obtain⟨kb,hBd,_⟩:=id hH.bp
  refine⟨p,rfl,_,_,e1,by simp[FI,aB],[],p,B,O,F,S,as,ls,_,0,a,d,rfl,hP,hH,by omega,hls,by simp,fun H2 hP2 KK2=> ?_⟩
  have K3:Kp [] H H2:=fun b o e _=>KK2 b o (KK b o e (by simp)) (by simp;exact⟨fun z=>(by rw[z,hO1]at e;cases e),fun z=>(by rw[z,hF1]at e;cases e)⟩)
  have hH2:=hH.keep KK2 (hP.loose ⟨_,hBd⟩)
  have hcnt:=Pm.DA hH.pm hH.so (Wqatco.personOf (z.map Int.toNat)) a d
  have hcnt:countsAt ls (Wqatco.personOf (z.map Int.toNat)) a d=(((mX S a).filter fun x=>x.1.isFor (Wqatco.personOf (z.map Int.toNat))).find? fun x=>x.1.inForce d).map fun x=>(x.2,x.1):=hcnt
  unfold pA
  rw[hcnt]at hk
  cases ho:((mX S a).filter fun x=>x.1.isFor (Wqatco.personOf (z.map Int.toNat))).find? fun x=>x.1.inForce d with
  |none=>
   rw[ho]at hk
   show if V.non=V.non then _ else _
   rw[if_pos rfl]
   exact hk.2.2.1 rfl _ K3
  |some x=>
   rw[ho]at hk
   show if V.ref (adr as x.2)=V.non then _ else _
   rw[if_neg (by intro z;cases z)]
   have hxS:x∈S:=(List.mem_filter.mp (List.mem_filter.mp (List.mem_of_find?_eq_some ho)).1).1
   obtain⟨dl,wv,l1,l2⟩:=hH2.line hxS
   exact⟨_,rfl,_,_,_,l1,T.bD,T.dW,.int (x.2:Nat),by simp[pI,aB],by decide,fun p2 hp2=>hk.2.2.2.2 p2 _ (K3.was hp2) (by rw[aj];rfl) (K3.trans (Kp.new hp2))⟩
def xX(gone:List Nat):List V:=gone.map fun(n:Nat)=>.int (n:Nat)
theorem OT.num{H:Hp}{ls:Lines}{as:List Addr}{y:Addr}{e:PoMoves.End}{gone:List Nat}{lv:V}(h:OT ad H ls as y e gone lv)(hL:ni ad H as ls 0):∀m∈gone,∃dx fs,H (adr as m)=some (.ins ad.b6 dx fs)∧fs.lookup (Str.ofString "number")=some (.int (m:Nat)):=fun m hm=>by
 have hml:=h.lt m hm
 have hx:(ls[m],m)∈ls.zipIdx:=by rw[List.mem_zipIdx_iff_getElem?];exact List.getElem?_eq_getElem hml
 obtain⟨dl,wv,l1,l2⟩:=hL.nl hx
 exact⟨dl,_,l1,by simp[pI,aB]⟩
def yR(ad:Ad):Sp:=fun vs H Q E=>∃(h q:Addr)(ls:Lines)(n a d m:Nat)(z:List Int),vs=[.ref h,.int a,.int d,.int m,.ref q]∧i5 ad H h ls n∧ls.length≤100000∧H q=some (.lst (zv z))∧z.length≤100000∧Due ad H Q E (Wqatco.told ls (.follow a d m z))
theorem zj(T:Txt K mg ad):bA P w K mg base (wz P w (Nc ad)) 7 ad.jm ad.dO ["self","point","day","may","name"] (yR ad):=by
 have G_Holder_lines_for_letter:=dU (P:=P) (w:=w) (base:=base) T
 have G_way_of:=y9 (P:=P) (w:=w) (base:=base) T
 refine T.jx.Ap rF (fun vs H Q E h=> ?_) (fun cdv A outer s H vs Q E hr h X hX fl po=> ?_)
 ·obtain⟨h,q,ls,n,a,d,m,z,rfl,_⟩:=h
  rfl
 ·obtain⟨h,q,ls,n,a,d,m,z,rfl,hO,hls,hq,hz,k⟩:=h
  have nd:=rF.nd
  have hu:=a7 hr
  subst hX
  have ps:=b9.passes fl rfl
  refine⟨_,(ao (aU (i:=5) nd rfl (Or.inl rfl) (eW G_way_of (hr.mono (by decide)) rfl T.x9 T.pG.kp T.rZ .nil bh (ak (iu (pv 0) T.aT T.b7 G_Holder_lines_for_letter (hr.mono (by decide)) T.bC .nil ps (ak (pv 1) (ak (pv 2) (ak (pv 4) aA)))) (ak (pv 1) (ak (pv 2) (ak (nN f9 (pv 3) qS (aY _)) aA))))))
   (ao (Bk (i:=6) rfl nd rfl rfl (DT rfl rfl rfl rfl) (gS (aM (pv 5) rfl)) (pE ["self","point","day","may","name","way","numbers","line"] (aC jk) [("line",7)] (by decide +kernel)) (fun _ _ _ _ _=>(bY (i:=7) nd rfl (Or.inl rfl))) (fun _ _ _ _ _=>xQ) (fun _ _ _ _ _=>(xR (K:=K) rfl (pv 7) rfl)))
   (ao (a6 (aV MA (aM (pv 5) rfl) (aE (v:=.int 0) rfl T.je.choose_spec ⟨_,rfl⟩) (aY _))
   (au (dD (mG PySem.F.plainAttrs_list PySem.F.slot_list_append PySem.F.type_list_append eD (pv 6) (ak (aM (aM (pv 5) rfl) rfl) aA))))
   aL)
   (au (aJ (oQ wK (bK (ak (aE (v:=.int 0) rfl T.EK.choose_spec ⟨_,rfl⟩) (ak (aM (pv 5) rfl) (ak (aM (pv 5) rfl) (ak (aM (pv 5) rfl) (ak (a9 (a8 (K:=K) rfl) (by rfl) T.c9 PySem.boot_len (ak (aM (pv 5) rfl) aA)) aA)))))) (pv 6))))))),?_⟩
  obtain⟨dx,l,t,B0,p0,hh⟩:=hO.hold
  walk_at "r1"
  walk_at "r2"
  obtain⟨k1,k2,k3⟩:=wY (ls:=ls) (show Due ad H Q E (Wqatco.ofLetter a d z fun p=>Wqatco.tells ([(endOf ls p (m==1) a d).how,(endOf ls p (m==1) a d).point,(endOf ls p (m==1) a d).day,(endOf ls p (m==1) a d).steps]++(endOf ls p (m==1) a d).by_))from k)
  refine⟨_,_,hh,by simp[wV,aB],h,q,ls,n,a,d,z,rfl,hO,hq,hz,k1,k2,fun c1 c2=>⟨(k3 c1 c2).1,(k3 c1 c2).2.1,fun c3 c4 p O F S as B H1 hP hH hO1 hF1 KK=> ?_⟩⟩
  have hk:=(k3 c1 c2).2.2 c3 c4
  obtain⟨kb,hBd,_⟩:=id hH.bp
  have em:V.bl (decide ((m:Int)=1))=V.bl (m==1):=by
   have:decide ((m:Int)=1)=(m==1):=by
    by_cases c:m=1
    ·subst c;rfl
    ·have c':¬((m:Int)=1):=by omega
     simp[c,c']
   rw[this]
  refine⟨rfl,?_⟩
  rw[em]
  refine⟨[],p,B,O,F,S,as,ls,_,0,a,d,(m==1),rfl,hP,hH,by omega,hls,by simp,fun y gone lv H2 hW hy hP2 KK2=> ?_⟩
  have K3:Kp [] H H2:=fun b o e _=>KK2 b o (KK b o e (by simp)) (by simp;exact⟨fun z=>(by rw[z,hO1]at e;cases e),fun z=>(by rw[z,hF1]at e;cases e)⟩)
  have hH2:=hH.keep KK2 (hP.loose ⟨_,hBd⟩)
  generalize hee:endOf ls (Wqatco.personOf (z.map Int.toNat)) (m==1) a d=e at hW hk
  obtain⟨⟨dy,gy,y1,y2⟩,hgl,hgz,hgb,hglt⟩:=id hW
  have hsz:sizeLine=16777216:=rfl
  refine⟨_,rfl,y,_,_,_,_,rfl,y1,T.m8,T.gq,by simp[JC,aB],gy,rfl,⟨_,bW.of y2⟩,fun D hD=>IW (a:=gy) (xs:=gV as gone) hD (fun i=>xX (gone.take i)) rfl (bW.of y2) (fun i v Nx hv hN=> ?_) ?_⟩
  ·have hv:(gone.map fun n=>V.ref (adr as n))[i]? =some v:=hv
   rw[List.getElem?_map]at hv
   cases hm:gone[i]? with
   |none=>rw[hm]at hv;cases hv
   |some g=>
    rw[hm]at hv
    cases hv
    obtain⟨dl,fl,l1,l2⟩:=hW.num hH2.ln g (List.mem_of_getElem? hm)
    have K4:Kp [] H2 (upd H2 D (.lst (xX (gone.take i)))):=Kp.new hD
    have et:xX (gone.take (i+1))=xX (gone.take i)++[.int (g:Nat)]:=by rw[List.take_add_one,hm];simp only[xX,List.map_append];rfl
    rw[et]at hN
    walk_at "r1"
    walk_at "r2"
    refine⟨_,_,_,K4 _ _ l1 (by simp),T.bD,T.dW,_,l2,?_,hN⟩
    simp only[xX,List.length_map,List.length_take]
    omega
  ·have elen:(gV as gone).length=gone.length:=by simp[gV]
   rw[elen,List.take_length]
   have K4:Kp [] H2 (upd H2 D (.lst (xX gone))):=Kp.new hD
   have K5:Kp [] H (upd H2 D (.lst (xX gone))):=K3.trans K4
   have hy4:=K4 _ _ y1 (by simp)
   have fin:∀(nums:List Nat)(H4:Hp),nums.length≤100→Kp [] H H4→H4 gy=some (.lst (gV as gone))→H4 D=some (.lst (xX nums))→nums=e.by_→e.steps=gone.length→
     ∃x:Nat,pJ K (V.ref gy) H4 x∧5≤sizeLine∧∀p,H4 p=none→∃xs,upd H4 p (.lst [V.int 0,V.int (e.how:Int),V.int (e.point:Int),V.int (e.day:Int),V.int (x:Int)]) D=some (.lst xs)∧5+xs.length≤sizeLine∧
      ∀p1,upd H4 p (.lst [V.int 0,V.int (e.how:Int),V.int (e.point:Int),V.int (e.day:Int),V.int (x:Int)]) p1=none→Q (V.ref p1) (upd (upd H4 p (.lst [V.int 0,V.int (e.how:Int),V.int (e.point:Int),V.int (e.day:Int),V.int (x:Int)])) p1 (.lst (V.int 0::V.int (e.how:Int)::V.int (e.point:Int)::V.int (e.day:Int)::V.int (x:Int)::xs))):=by
    intro nums H4 hnl K6 hg4 hD4 hnum hst
    have ll:pJ K (.ref gy) H4 gone.length:=by have:=dF (K:=K) hg4;rwa [gV,List.length_map]at this
    refine⟨_,ll,by omega,fun p2 hp2=> ?_⟩
    have K7:Kp [] H4 (upd H4 p2 (.lst [.int 0,.int (e.how:Int),.int (e.point:Int),.int (e.day:Int),.int (gone.length:Int)])):=Kp.new hp2
    refine⟨_,K7 _ _ hD4 (by simp),by simp[xX];omega,fun p3 hp3=> ?_⟩
    refine hk.2.2.2.2 p3 _ ((K6.trans K7).was hp3) ?_ ((K6.trans K7).trans (Kp.new hp3))
    rw[aj,hnum]
    simp[KG,Wqatco.tells,xX,hst]
   refine⟨y,rfl,_,_,_,K4 _ _ y1 (by simp),T.m8,T.iw,.int (e.how:Nat),by simp[JC,aB],rfl,?_⟩
   by_cases c:e.how=0
   ·rw[if_neg (by simp[c])]
    simp[and_assoc,aB,aH,aO,List.lookup_nil,-List.lookup_eq_none_iff,-Bool.exists_bool,-Bool.not_eq_eq_eq_not,L2.wipe,aj,aG,hy4,T.m8,T.iw,T.iH,T.sR,T.gq,JC]
    refine fin gone _ (by omega) K5 (K4 _ _ y2 (by simp)) aj (hgz c).symm ?_
    unfold End.steps
    rw[if_pos c,hgz c]
   ·rw[if_pos (by simp;omega)]
    obtain⟨mm,b1,b2,b3⟩:=hgb c
    have hx:(ls[mm],mm)∈ls.zipIdx:=by rw[List.mem_zipIdx_iff_getElem?];exact List.getElem?_eq_getElem b3
    obtain⟨dl,wv,l1,l2⟩:=hH2.ln.nl hx
    have l14:=K4 _ _ l1 (by simp)
    have hDy:D≠y:=fun z=>by rw[z,y1]at hD;cases hD
    simp[and_assoc,aB,aH,aO,List.lookup_nil,-List.lookup_eq_none_iff,-Bool.exists_bool,-Bool.not_eq_eq_eq_not,L2.wipe,aj,aG,hy4,l14,b2,T.m8,T.iw,T.iH,T.sR,T.gq,T.uQ,T.bD,T.dW,JC,pI,aq hDy.symm]
    have K6:Kp [] H2 (upd H2 D (.lst (xX gone++[.int (mm:Nat)]))):=Kp.new hD
    refine⟨.inl ⟨rfl,_,bW.of aj⟩,by simp[xX];omega,fin (gone++[mm]) _ (by simp;omega) (K3.trans K6) (K6 _ _ y2 (by simp)) (by rw[aj];simp[xX]) b1.symm ?_⟩
    unfold End.steps
    rw[if_neg c,b1]
    simp
def z9(ad:Ad):Sp:=fun vs H Q E=>∃(h q:Addr)(ls:Lines)(n a d:Nat)(z:List Int),vs=[.ref h,.int a,.int d,.ref q]∧i5 ad H h ls n∧ls.length≤100000∧H q=some (.lst (zv z))∧z.length≤100000∧Due ad H Q E (Wqatco.told ls (.where_ a d z))
theorem Ag(T:Txt K mg ad):bA P w K mg base (wz P w (Nc ad)) 7 ad.jY ad.eN ["self","point","day","name"] (z9 ad):=by
 have G_Holder_lines_for_letter:=dU (P:=P) (w:=w) (base:=base) T
 have G_way_of:=y9 (P:=P) (w:=w) (base:=base) T
 have G_is_told:=Hd (P:=P) (w:=w) (base:=base) T
 refine T.kh.Ap tR (fun vs H Q E h=> ?_) (fun cdv A outer s H vs Q E hr h X hX fl po=> ?_)
 ·obtain⟨h,q,ls,n,a,d,z,rfl,_⟩:=h
  rfl
 ·obtain⟨h,q,ls,n,a,d,z,rfl,hO,hls,hq,hz,k⟩:=h
  have nd:=tR.nd
  have hu:=a7 hr
  subst hX
  have ps:=b9.passes fl rfl
  refine⟨_,(ao (aU (i:=4) nd rfl (Or.inl rfl) (eW G_way_of (hr.mono (by decide)) rfl T.x9 T.pG.kp T.rZ .nil bh (ak (iu (pv 0) T.aT T.b7 G_Holder_lines_for_letter (hr.mono (by decide)) T.bC .nil ps (ak (pv 1) (ak (pv 2) (ak (pv 3) aA)))) (ak (pv 1) (ak (pv 2) (ak xS aA))))))
   (ao (a6 (oO (gk (eW G_is_told (hr.mono (by decide)) rfl T.Dp T.sC.kp T.vQ .nil bh (ak (pv 4) aA))))
   (au (bG fl rfl rfl ⟨T.kZ,T.jL⟩ T.qB rfl))
   aL)
   (au (aJ (bK (ak (aM (pv 4) rfl) aA)))))),?_⟩
  obtain⟨dx,l,t,B0,p0,hh⟩:=hO.hold
  walk_at "r1"
  walk_at "r2"
  obtain⟨k1,k2,k3⟩:=wY (ls:=ls) (show Due ad H Q E (Wqatco.ofLetter a d z fun p=>if(endOf ls p true a d).how=0∧Wqatco.allOpen ls (endOf ls p true a d).by_=true then Wqatco.says ((endOf ls p true a d).point:Nat)else Wqatco.MISSING)from k)
  refine⟨_,_,hh,by simp[wV,aB],h,q,ls,n,a,d,z,rfl,hO,hq,hz,k1,k2,fun c1 c2=>⟨(k3 c1 c2).1,(k3 c1 c2).2.1,fun c3 c4 p O F S as B H1 hP hH hO1 hF1 KK=> ?_⟩⟩
  have hk:=(k3 c1 c2).2.2 c3 c4
  obtain⟨kb,hBd,_⟩:=id hH.bp
  refine⟨[],p,B,O,F,S,as,ls,_,0,a,d,true,rfl,hP,hH,by omega,hls,by simp,fun y gone lv H2 hW hy hP2 KK2=> ?_⟩
  have K3:Kp [] H H2:=fun b o e _=>KK2 b o (KK b o e (by simp)) (by simp;exact⟨fun z=>(by rw[z,hO1]at e;cases e),fun z=>(by rw[z,hF1]at e;cases e)⟩)
  have hH2:=hH.keep KK2 (hP.loose ⟨_,hBd⟩)
  generalize hee:endOf ls (Wqatco.personOf (z.map Int.toNat)) true a d=e at hW hk
  obtain⟨⟨dy,gy,y1,y2⟩,hgl,hgz,hgb,hglt⟩:=id hW
  refine⟨y,e,gone,lv,ls,as,rfl,hW,hH2.ln,fun D xs hD=>⟨_,rfl,?_⟩⟩
  have K4:Kp [] H2 (upd H2 D (.lst xs)):=Kp.new hD
  by_cases c:e.how=0∧Wqatco.allOpen ls e.by_=true
  ·rw[if_pos c]at hk
   have c2:=c.2
   rw[hgz c.1]at c2
   rw[if_neg (by simp[c.1,c2])]
   exact⟨y,rfl,_,_,_,K4 _ _ y1 (by simp),T.m8,T.iH,.int (e.point:Nat),by simp[JC,aB],by decide,fun p2 hp2=>hk.2.2.2.2 p2 _ ((K3.trans K4).was hp2) (by rw[aj];rfl) ((K3.trans K4).trans (Kp.new hp2))⟩
  ·rw[if_neg c]at hk
   rw[if_pos]
   ·exact hk.2.2.1 rfl _ (K3.trans K4)
   ·by_cases c1:e.how=0
    ·have c2:¬Wqatco.allOpen ls e.by_=true:=fun z=>c ⟨c1,z⟩
     rw[hgz c1]at c2
     simp[c1,c2]
    ·simp[c1]
def Gw(S:List Addr)(H H':Hp):Prop:=∀b o,H b=some o→b∉S→(∀kvs,o≠.dK kvs)→(∀kvs,o≠.dT kvs)→H' b=some o
theorem Kp.d{S:List Addr}{H H':Hp}(h:Kp S H H'):Gw S H H':=fun b o e hb _ _=>h b o e hb
theorem Gw.trans{S:List Addr}{H H1 H2:Hp}(a:Gw S H H1)(b:Gw S H1 H2):Gw S H H2:=fun c o e hc h1 h2=>b c o (a c o e hc h1 h2) hc h1 h2
theorem Gw.mono{S S':List Addr}{H H1:Hp}(a:Gw S H H1)(h:∀x∈S,x∈S'):Gw S' H H1:=fun c o e hc=>a c o e fun z=>hc (h c z)
def A3(ad:Ad):Sp:=fun vs H Q E=>∃(h:Addr)(ls:Lines)(n a d:Nat),vs=[.ref h,.int a,.int d]∧i5 ad H h ls n∧n+66*(ls.length+1)<9000000∧ls.length+2<4096∧(POINT<a∨DAY<d→E (.ref ad.iE) none H)∧
 (¬(POINT<a∨DAY<d)→∀p H',H p=none→H' p=some (.lst (KG (Wqatco.rowAns (Wqatco.intoOf ls a d))))→i5 ad H' h ls (n+66*(ls.length+1))→Gw [] H H'→Q (.ref p) H')
theorem Bz(T:Txt K mg ad):bA P w K mg base (wz P w (Nc ad)) 7 ad.lG ad.fV ["self","point","day"] (A3 ad):=by
 have G_check_point_and_day:=jR (P:=P) (w:=w) (base:=base) T
 have G_starts_into:=Br (P:=P) (w:=w) (base:=base) T
 refine T.mz.Ap uA (fun vs H Q E h=> ?_) (fun cdv A outer s H vs Q E hr h X hX fl po=> ?_)
 ·obtain⟨h,ls,n,a,d,rfl,_⟩:=h
  rfl
 ·obtain⟨h,ls,n,a,d,rfl,hO,hn,hls,k1,k2⟩:=h
  have nd:=uA.nd
  have hu:=a7 hr
  subst hX
  have ps:=b9.passes fl rfl
  refine⟨_,(ao (dD (bT G_check_point_and_day (hr.mono (by decide)) rfl T.gP T.bQ.kp T.cF .nil ps (ak (pv 1) (ak (pv 2) aA))))
   (ao (aU (i:=3) nd rfl (Or.inl rfl) (eW G_starts_into (hr.mono (by decide)) rfl T.v9 T.jh.kp T.lK .nil bh (ak (aM (pv 0) rfl) (ak (pv 1) (ak (pv 2) aA)))))
   (au (aJ (oQ wK (bK (ak (a9 (a8 (K:=K) rfl) (by rfl) T.c9 PySem.boot_len (ak (pv 3) aA)) aA)) (pv 3)))))),?_⟩
  obtain⟨dx,l,t,B,p,O,F,S,as,h1,h2,h3,h4,h5⟩:=id hO
  walk_at "r1"
  simp[and_assoc,aB,aH,aO,List.lookup_nil,-List.lookup_eq_none_iff,-Bool.exists_bool,-Bool.not_eq_eq_eq_not,L2.wipe,aj,aG,h1,T.aT,T.fH,wV]
  refine⟨a,d,rfl,k1,fun c=> ?_⟩
  have hk:=k2 c
  obtain⟨kb,hBd,_⟩:=id h4.bp
  obtain⟨⟨dp,E',e1,e2,e3⟩,⟨x1,o1,_⟩,⟨x2,f1,_⟩,_,_⟩:=id h5
  have hsz:sizeLine=16777216:=rfl
  have hP:POINT=4095:=rfl
  refine⟨_,_,_,h1,T.aT,T.fH,.ref p,by simp[wV,aB],[],p,B,O,F,S,as,ls,n,a,d,rfl,h5,h4,hn,hls,by omega,by simp,fun q H1 hq hq0 hP1 KK=> ?_⟩
  have hH1:=h4.keep KK (h5.loose ⟨_,hBd⟩)
  have nhOF:h∉[O,F]:=by simp;exact⟨cO h1 o1 (by intro z;cases z),cO h1 f1 (by intro z;cases z)⟩
  have nlOF:l∉[O,F]:=by simp;exact⟨cO h2 o1 (by intro z;cases z),cO h2 f1 (by intro z;cases z)⟩
  have ntOF:t∉[O,F]:=by simp;exact⟨cO h3 o1 (by intro z;cases z),cO h3 f1 (by intro z;cases z)⟩
  have hO1:i5 ad H1 h ls (n+66*(ls.length+1)):=⟨dx,l,t,B,p,O,F,S,as,KK _ _ h1 nhOF,KK _ _ h2 nlOF,KK _ _ h3 ntOF,hH1,hP1⟩
  have KD:Gw [] H H1:=fun b o e _ n1 n2=>KK b o e (by simp;exact⟨fun z=>by rw[z,o1]at e;exact n1 _ (Option.some.inj e).symm,fun z=>by rw[z,f1]at e;exact n2 _ (Option.some.inj e).symm⟩)
  have hfl:(Wqatco.intoOf ls a d).length≤4096:=by
   unfold Wqatco.intoOf
   refine Nat.le_trans (List.length_filter_le _ _) ?_
   simp[hP]
  have ll:pJ K (.ref q) H1 (Wqatco.intoOf ls a d).length:=by have:=dF (K:=K) hq;rwa [nV,List.length_map]at this
  refine⟨_,ll,by omega,fun p2 hp2=> ?_⟩
  have K2:Kp [] H1 (upd H1 p2 (.lst [.int ((Wqatco.intoOf ls a d).length:Nat)])):=Kp.new hp2
  refine⟨q,rfl,_,K2 _ _ hq (by simp),by simp[nV];omega,fun p3 hp3=> ?_⟩
  have K3:Kp [] H1 (upd (upd H1 p2 (.lst [.int ((Wqatco.intoOf ls a d).length:Nat)])) p3 (.lst (.int ((Wqatco.intoOf ls a d).length:Nat)::nV (Wqatco.intoOf ls a d)))):=K2.trans (Kp.new hp3)
  refine hk p3 _ ?_ (by rw[aj];rfl) (hO1.BL K3) (KD.trans (Kp.d K3))
  have hp31:H1 p3=none:=K2.was hp3
  cases e:H p3 with
  |none=>rfl
  |some o=>
   by_cases c:p3∈[O,F]
   ·obtain⟨_,⟨_,c1,_⟩,⟨_,c2,_⟩,_⟩:=hP1
    simp at c
    rcases c with c |c
    ·rw[c,c1]at hp31;cases hp31
    ·rw[c,c2]at hp31;cases hp31
   ·rw[KK _ _ e c]at hp31;cases hp31
end
section
variable{P:Program}{w:World}{K:PySem.W.Frag}{mg:Str→Option Value}{base:Heap}{ad:Ad}
def qY(L:Addr)(i:Nat):List (Str×V):=[("numbers",.ref L),("place",.int (i:Nat))]
def yS(ad:Ad):Sp:=fun vs H Q _=>∃(c dx L:Addr),vs=[.ref c,.ref L]∧H c=some (.ins ad.aK dx [])∧Q .non (upd H c (.ins ad.aK dx (qY L 0)))
theorem zm(T:Txt K mg ad):bA P w K mg base nj 1 ad.jq ad.dQ ["self","numbers"] (yS ad):=by
 refine T.jz.ok rH (fun vs H Q E h=> ?_) (fun cdv A outer s H vs Q E hr h=> ?_)
 ·obtain⟨c,dx,L,rfl,_⟩:=h
  rfl
 ·obtain⟨c,dx,L,rfl,hc,k⟩:=h
  have nd:=rH.nd
  have hu:=a7 hr
  refine⟨_,(ao (bR (pv 0) (pv 1) rfl)
   (au (bR (pv 0) qS rfl))),?_⟩
  walk_at "r1"
  simp[and_assoc,aB,aH,aO,List.lookup_nil,-List.lookup_eq_none_iff,-Bool.exists_bool,-Bool.not_eq_eq_eq_not,L2.wipe,aj,aG,hc,T.aS,T.dA,T.cW]
  exact k
theorem AK{H H':Hp}{a c C dx:Addr}{fs:List (Str×V)}{xs:List V}(h:bW K H a xs)(hc:H c=some (.ins C dx fs))(KK:Kp [c] H H'):bW K H' a xs:=by
 refine h.imp (fun r=> ?_) id
 rcases r with e |⟨o,e⟩
 ·exact .inl (KK _ _ e (by simp;exact cO e hc (by intro z;cases z)))
 ·exact .inr ⟨o,KK _ _ e (by simp;exact cO e hc (by intro z;cases z))⟩
theorem LY{H H':Hp}{a h c C C' dx dx':Addr}{fs fs':List (Str×V)}{xs:List V}(q:bW K H a xs)(hh:H h=some (.ins C' dx' fs'))(hc:H c=some (.ins C dx fs))(KK:Gw [h,c] H H'):bW K H' a xs:=by
 refine q.imp (fun r=> ?_) id
 rcases r with e |⟨o,e⟩
 ·exact .inl (KK _ _ e (by simp;exact⟨cO e hh (by intro z;cases z),cO e hc (by intro z;cases z)⟩) (by intro _ z;cases z) (by intro _ z;cases z))
 ·exact .inr ⟨o,KK _ _ e (by simp;exact⟨cO e hh (by intro z;cases z),cO e hc (by intro z;cases z)⟩) (by intro _ z;cases z) (by intro _ z;cases z)⟩
theorem KA(xs:List V)(i k:Nat)(h:i+k≤xs.length):CG xs (some (i:Int)) (some ((i:Int)+k))=(xs.drop i).take k:=by
 unfold CG
 have e:(i:Int)+k=((i+k:Nat):Int):=by omega
 have e1:min i xs.length=i:=Nat.min_eq_left (by omega)
 have e2:min (i+k) xs.length=i+k:=Nat.min_eq_left h
 rw[e,HT.D8,HT.D8,e1,e2]
 congr 1
 omega
def wH(K:PySem.W.Frag)(ad:Ad):Sp:=fun vs H Q _=>∃(c dx L:Addr)(i:Nat)(zs:List Int),vs=[.ref c]∧H c=some (.ins ad.aK dx (qY L i))∧bW K H L (zv zs)∧zs.length≤100000∧Q (.bl (decide (zs.length≤i))) H
theorem wM(T:Txt K mg ad):bA P w K mg base nj 1 ad.gU ad.cK ["self"] (wH K ad):=by
 refine T.gY.ok oF (fun vs H Q E h=> ?_) (fun cdv A outer s H vs Q E hr h=> ?_)
 ·obtain⟨c,dx,L,i,zs,rfl,_⟩:=h
  rfl
 ·obtain⟨c,dx,L,i,zs,rfl,hc,hL,hz,k⟩:=h
  have nd:=oF.nd
  have hu:=a7 hr
  refine⟨_,(au (aJ (nN MB (aM (pv 0) rfl) (a9 (a8 (K:=K) rfl) (by rfl) T.c9 PySem.boot_len (ak (aM (pv 0) rfl) aA)) (aY _)))),?_⟩
  walk_at "r1"
  simp[and_assoc,aB,aH,aO,List.lookup_nil,-List.lookup_eq_none_iff,-Bool.exists_bool,-Bool.not_eq_eq_eq_not,L2.wipe,aj,aG,hc,T.aS,T.dA,T.cW,qY]
  exact⟨_,by have:=Ou (K:=K) hL;rwa [zv,List.length_map]at this,k⟩
def rC(K:PySem.W.Frag)(ad:Ad):Sp:=fun vs H Q _=>∃(c dx L:Addr)(i:Nat)(zs:List Int)(z:Int),vs=[.ref c]∧H c=some (.ins ad.aK dx (qY L i))∧bW K H L (zv zs)∧zs[i]? =some z∧zs.length≤100000∧Q (.int z) (upd H c (.ins ad.aK dx (qY L (i+1))))
theorem rM(T:Txt K mg ad):bA P w K mg base nj 1 ad.jo ad.dP ["self"] (rC K ad):=by
 refine T.jy.ok rG (fun vs H Q E h=> ?_) (fun cdv A outer s H vs Q E hr h=> ?_)
 ·obtain⟨c,dx,L,i,zs,z,rfl,_⟩:=h
  rfl
 ·obtain⟨c,dx,L,i,zs,z,rfl,hc,hL,hi,hz,k⟩:=h
  have nd:=rG.nd
  have hu:=a7 hr
  refine⟨_,(ao (aU (i:=1) nd rfl (Or.inl rfl) (Dd Ar (aM (pv 0) rfl) (aM (pv 0) rfl) (fun _ _=>rfl)))
   (ao (vG (pv 0) qS EA)
   (au (aJ (pv 1))))),?_⟩
  walk_at "r1"
  simp[and_assoc,aB,aH,aO,List.lookup_nil,-List.lookup_eq_none_iff,-Bool.exists_bool,-Bool.not_eq_eq_eq_not,L2.wipe,aj,aG,hc,T.aS,T.dA,T.cW,qY]
  exact⟨_,hL,.int z,vR (by rw[zv,List.getElem?_map,hi];rfl),k⟩
def tN(K:PySem.W.Frag)(ad:Ad):Sp:=fun vs H Q _=>∃(c dx L:Addr)(i k:Nat)(zs:List Int),vs=[.ref c]∧H c=some (.ins ad.aK dx (qY L i))∧bW K H L (zv zs)∧zs[i]? =some (k:Int)∧i+1+k≤zs.length∧zs.length≤100000∧
 ∀p H',H p=none→H' p=some (.lst (zv ((zs.drop (i+1)).take k)))→H' c=some (.ins ad.aK dx (qY L (i+1+k)))→Kp [c] H H'→Q (.ref p) H'
theorem Ai(T:Txt K mg ad):bA P w K mg base nj 2 ad.j0 ad.eP ["self"] (tN K ad):=by
 have G_CallList_step:=rM (P:=P) (w:=w) (base:=base) T
 refine T.kC.ok tT (fun vs H Q E h=> ?_) (fun cdv A outer s H vs Q E hr h=> ?_)
 ·obtain⟨c,dx,L,i,k,zs,rfl,_⟩:=h
  rfl
 ·obtain⟨c,dx,L,i,k,zs,rfl,hc,hL,hi,hik,hz,kk⟩:=h
  have nd:=tT.nd
  have hu:=a7 hr
  refine⟨_,(ao (aU (i:=1) nd rfl (Or.inl rfl) (bI (pv 0) T.aS T.aZ G_CallList_step (hr.mono (by decide)) T.aW .nil bh))
   (ao (aU (i:=2) nd rfl (Or.inl rfl) (FL Io (aM (pv 0) rfl) (Ef (aM (pv 0) rfl)) (Ef (oQ Bq (aM (pv 0) rfl) (pv 1)))))
   (ao (vG (pv 0) (pv 1) EA)
   (au (aJ (pv 2)))))),?_⟩
  walk_at "r1"
  walk_at "r2"
  refine⟨_,_,hc,by simp[qY,aB],c,dx,L,i,zs,k,rfl,hc,hL,hi,hz,?_⟩
  have K1:Kp [c] H (upd H c (.ins ad.aK dx (qY L (i+1)))):=Kp.set (by simp)
  have hL1:=AK hL hc K1
  simp[and_assoc,aB,aH,aO,List.lookup_nil,-List.lookup_eq_none_iff,-Bool.exists_bool,-Bool.not_eq_eq_eq_not,L2.wipe,aj,aG,T.aS,T.dA,T.cW,qY]
  refine⟨_,hL1,fun p hp=> ?_⟩
  have ecut:CG (zv zs) (some ((i:Int)+1)) (some ((i:Int)+1+k))=zv ((zs.drop (i+1)).take k):=by
   have:=KA (zv zs) (i+1) k (by rw[zv,List.length_map];exact hik)
   have e:(((i+1:Nat):Int))=(i:Int)+1:=by omega
   rw[e]at this
   rw[this,zv,zv,←List.map_drop,←List.map_take]
  rw[ecut]
  have ncp:c≠p:=fun z=>by rw[←z,aj]at hp;cases hp
  have hc1:(upd (upd H c (.ins ad.aK dx [(Str.ofString "numbers",V.ref L),(Str.ofString "place",V.int ((i:Int)+1))])) p (.lst (zv ((zs.drop (i+1)).take k)))) c=some (.ins ad.aK dx [(Str.ofString "numbers",V.ref L),(Str.ofString "place",V.int ((i:Int)+1))]):=by rw[aq ncp,aj]
  refine⟨_,_,_,hc1,T.aS,T.cW,.int ((i:Int)+1),by simp[aB],_,rfl,_,_,hc1,by simp,?_⟩
  refine kk p _ (by rwa [aq ncp.symm]at hp) (by rw[aq ncp.symm,aj]) ?_ ?_
  ·rw[aj]
   simp[aH,qY]
  ·exact(K1.trans (Kp.new hp)).trans (Kp.set (by simp))
end
def yH(zs:List Int)(i:Nat)(r:List Int)(j:Nat):Prop:=∃k:Nat,zs[i]? =some (k:Int)∧r=(zs.drop (i+1)).take k∧r.length=k∧j=i+1+k∧j≤zs.length
inductive CallAt(zs:List Int)(i:Nat):List (List Int)→Nat→Prop
 |take {r:List Int} {j:Nat}:zs[i]? =some 0→yH zs (i+1) r j→CallAt zs i [[0],r] j
 |more {r:List Int} {j:Nat}:zs[i]? =some 1→yH zs (i+1) r j→CallAt zs i [[1],r] j
 |text:zs[i]? =some 2→CallAt zs i [[2]] (i+1)
 |sizes:zs[i]? =some 3→CallAt zs i [[3]] (i+1)
 |at_ {a d:Int} {r:List Int} {j:Nat}:zs[i]? =some 4→zs[i+1]? =some a→zs[i+2]? =some d→yH zs (i+3) r j→CallAt zs i [[4,a,d],r] j
 |follow {a d m:Int} {r:List Int} {j:Nat}:zs[i]? =some 5→zs[i+1]? =some a→zs[i+2]? =some d→zs[i+3]? =some m→yH zs (i+4) r j→CallAt zs i [[5,a,d,m],r] j
 |where_ {a d:Int} {r:List Int} {j:Nat}:zs[i]? =some 6→zs[i+1]? =some a→zs[i+2]? =some d→yH zs (i+3) r j→CallAt zs i [[6,a,d],r] j
 |into {a d:Int}:zs[i]? =some 7→zs[i+1]? =some a→zs[i+2]? =some d→CallAt zs i [[7,a,d]] (i+3)
theorem drop_cons{zs:List Int}{i:Nat}{z:Int}{r:List Int}(h:zs.drop i=z::r):zs[i]? =some z∧r=zs.drop (i+1):=by
 have h1:(zs.drop i)[0]? =some z:=by rw[h];rfl
 rw[List.getElem?_drop]at h1
 refine⟨h1,?_⟩
 have:(zs.drop i).drop 1=r:=by rw[h];rfl
 rw[List.drop_drop]at this
 exact this.symm
theorem Qk{zs:List Int}{i:Nat}{r t:List Int}(h:PyFlat.row (zs.drop i)=some (r,t)):∃j,yH zs i r j∧t=zs.drop j:=by
 cases hd:zs.drop i with
 |nil=>rw[hd]at h;cases h
 |cons n s=>
  rw[hd]at h
  obtain⟨h1,h2⟩:=drop_cons hd
  have h:(if 0≤n∧n.toNat≤s.length then some (s.take n.toNat,s.drop n.toNat)else none)=some (r,t):=h
  by_cases c:0≤n∧n.toNat≤s.length
  ·rw[if_pos c]at h
   cases h
   have hl:s.length+(i+1)=zs.length:=by
    have h3:=(List.getElem?_eq_some_iff.mp h1).1
    rw[h2,List.length_drop]
    omega
   refine⟨i+1+n.toNat,⟨n.toNat,by rw[h1];congr 1;omega,by rw[h2],by rw[List.length_take];omega,rfl,by omega⟩,?_⟩
   rw[h2,List.drop_drop]
  ·rw[if_neg c]at h
   cases h
theorem Rf{l:List Int}{xs:List (List Int)}{t:List Int}(h:PyFlat.rows 1 l=some (xs,t)):∃r,xs=[r]∧PyFlat.row l=some (r,t):=by
 unfold PyFlat.rows at h
 cases hr:PyFlat.row l with
 |none=>rw[hr]at h;cases h
 |some x=>
  rw[hr]at h
  obtain⟨r,s⟩:=x
  simp only[PyFlat.rows]at h
  cases h
  exact⟨r,rfl,rfl⟩
theorem Fb{r:List Int}{a d:Int}(x:r[0]? =some a)(y:r[1]? =some d):r.take 2=[a,d]:=by
 cases r with
 |nil=>simp at x
 |cons a0 r=>
  cases r with
  |nil=>simp at y
  |cons a1 r=>simp at x y;simp[x,y]
theorem GJ{r:List Int}{a d m:Int}(x:r[0]? =some a)(y:r[1]? =some d)(z:r[2]? =some m):r.take 3=[a,d,m]:=by
 cases r with
 |nil=>simp at x
 |cons a0 r=>
  rw[List.take_succ_cons,Fb (r:=r) (a:=d) (d:=m) (by simpa using y) (by simpa using z)]
  simp at x
  rw[x]
theorem OM{zs:List Int}{i:Nat}{c:List (List Int)}{t:List Int}(h:PyFlat.call PyWqatco.shape (zs.drop i)=some (c,t)):∃j,CallAt zs i c j∧t=zs.drop j∧i<j∧j≤zs.length:=by
 cases hd:zs.drop i with
 |nil=>rw[hd]at h;cases h
 |cons p r=>
  rw[hd]at h
  obtain⟨h1,h2⟩:=drop_cons hd
  have hil:=(List.getElem?_eq_some_iff.mp h1).1
  have h:(match PyWqatco.shape p with
   |none=>none
   |some (n,k)=>if r.length<n then none else match PyFlat.rows k (r.drop n)with
    |none=>none
    |some (xs,t)=>some ((p::r.take n)::xs,t))=some (c,t):=h
  have hsh:∀n k,PyWqatco.shape p=some (n,k)→¬r.length<n∧∃xs,PyFlat.rows k (r.drop n)=some (xs,t)∧c=(p::r.take n)::xs:=by
   intro n k e
   rw[e]at h
   dsimp only at h
   by_cases hn:r.length<n
   ·rw[if_pos hn]at h
    cases h
   ·rw[if_neg hn]at h
    refine⟨hn,?_⟩
    cases hr:PyFlat.rows k (r.drop n)with
    |none=>rw[hr]at h;cases h
    |some x=>
     rw[hr]at h
     cases h
     exact⟨_,rfl,rfl⟩
  have e0:∀m,r.drop m=zs.drop (i+1+m):=fun m=>by rw[h2,List.drop_drop]
  have g1:∀m,m<r.length→∃z,zs[i+1+m]? =some z∧r[m]? =some z:=fun m hm=>⟨r[m],by rw[←List.getElem?_drop,←h2];exact List.getElem?_eq_getElem hm,List.getElem?_eq_getElem hm⟩
  have row:∀n xs,PyFlat.rows 1 (r.drop n)=some (xs,t)→∃q j,xs=[q]∧yH zs (i+1+n) q j∧t=zs.drop j:=by
   intro n xs e
   obtain⟨q,rfl,e2⟩:=Rf e
   rw[e0]at e2
   obtain⟨j,h3,h4⟩:=Qk e2
   exact⟨q,j,rfl,h3,h4⟩
  have r0:∀{n xs},PyFlat.rows 0 (r.drop n)=some (xs,t)→xs=[]∧t=zs.drop (i+1+n):=fun{n xs} e=>by
   have e:some (([]:List (List Int)),r.drop n)=some (xs,t):=e
   rw[e0]at e
   cases e
   exact⟨rfl,rfl⟩
  have rlt:∀{m q j},yH zs (i+1+m) q j→i<j∧j≤zs.length:=fun{m q j} ⟨k,_,_,_,ej,hj⟩=>⟨by omega,hj⟩
  have tk2:∀{a d:Int},r[0]? =some a→r[1]? =some d→r.take 2=[a,d]:=Fb
  have tk3:∀{a d m:Int},r[0]? =some a→r[1]? =some d→r[2]? =some m→r.take 3=[a,d,m]:=GJ
  by_cases p0:p=0
  ·subst p0
   obtain⟨_,xs,e,rfl⟩:=hsh 0 1 rfl
   obtain⟨q,j,rfl,hR,ht⟩:=row 0 xs e
   exact⟨j,.take h1 hR,ht,rlt hR⟩
  by_cases p1:p=1
  ·subst p1
   obtain⟨_,xs,e,rfl⟩:=hsh 0 1 rfl
   obtain⟨q,j,rfl,hR,ht⟩:=row 0 xs e
   exact⟨j,.more h1 hR,ht,rlt hR⟩
  by_cases p2:p=2
  ·subst p2
   obtain⟨_,xs,e,rfl⟩:=hsh 0 0 rfl
   obtain⟨rfl,ht⟩:=r0 e
   exact⟨i+1,.text h1,ht,by omega,by omega⟩
  by_cases p3:p=3
  ·subst p3
   obtain⟨_,xs,e,rfl⟩:=hsh 0 0 rfl
   obtain⟨rfl,ht⟩:=r0 e
   exact⟨i+1,.sizes h1,ht,by omega,by omega⟩
  by_cases p4:p=4
  ·subst p4
   obtain⟨hn,xs,e,rfl⟩:=hsh 2 1 rfl
   obtain⟨a,a1,a2⟩:=g1 0 (by omega)
   obtain⟨d,d1,d2⟩:=g1 1 (by omega)
   obtain⟨q,j,rfl,hR,ht⟩:=row 2 xs e
   rw[tk2 a2 d2]
   exact⟨j,.at_ h1 a1 d1 hR,ht,rlt hR⟩
  by_cases p5:p=5
  ·subst p5
   obtain⟨hn,xs,e,rfl⟩:=hsh 3 1 rfl
   obtain⟨a,a1,a2⟩:=g1 0 (by omega)
   obtain⟨d,d1,d2⟩:=g1 1 (by omega)
   obtain⟨m,m1,m2⟩:=g1 2 (by omega)
   obtain⟨q,j,rfl,hR,ht⟩:=row 3 xs e
   rw[tk3 a2 d2 m2]
   exact⟨j,.follow h1 a1 d1 m1 hR,ht,rlt hR⟩
  by_cases p6:p=6
  ·subst p6
   obtain⟨hn,xs,e,rfl⟩:=hsh 2 1 rfl
   obtain⟨a,a1,a2⟩:=g1 0 (by omega)
   obtain⟨d,d1,d2⟩:=g1 1 (by omega)
   obtain⟨q,j,rfl,hR,ht⟩:=row 2 xs e
   rw[tk2 a2 d2]
   exact⟨j,.where_ h1 a1 d1 hR,ht,rlt hR⟩
  by_cases p7:p=7
  ·subst p7
   obtain⟨hn,xs,e,rfl⟩:=hsh 2 0 rfl
   obtain⟨a,a1,a2⟩:=g1 0 (by omega)
   obtain⟨d,d1,d2⟩:=g1 1 (by omega)
   obtain⟨rfl,ht⟩:=r0 e
   rw[tk2 a2 d2]
   have:=(List.getElem?_eq_some_iff.mp d1).1
   exact⟨i+3,.into h1 a1 d1,ht,by omega,by omega⟩
  have:PyWqatco.shape p=none:=by unfold PyWqatco.shape;simp[p0,p1,p2,p3,p4,p5,p6,p7]
  rw[this]at h
  cases h
section
variable{P:Program}{w:World}{K:PySem.W.Frag}{mg:Str→Option Value}{base:Heap}{ad:Ad}
def HJ(ad:Ad)(out:List Int)(C:Value)(od:Option Addr)(H:Hp):Prop:=
 (C= .ref ad.iE∧out=[-1])∨(C= .ref ad.bX∧out=[-2])∨(C= .ref ad.iX∧out=[-3])∨
 (∃(dx:Addr)(a b:Nat),C= .ref ad.bw∧od=some dx∧H dx=some (xD dx (O7 a b))∧out=[-6,(a:Int),(b:Int)])∨
 (∃(dx:Addr)(k:Nat),C= .ref ad.dS∧od=some dx∧H dx=some (xD dx [("place",.int k)])∧out=[-6,(k:Int)])
def cost(ls:Lines)(cc:List (List Int)):Nat:=if(cc.headD []).headD (-1)==7 then 66*(ls.length+1)else 0
def JS(K:PySem.W.Frag)(ad:Ad):Sp:=fun vs H Q E=>∃(h c dx L:Addr)(ls:Lines)(n:Nat)(zs:List Int)(i:Nat)(cc:List (List Int))(j:Nat),vs=[.ref h,.ref c]∧i5 ad H h ls n∧H c=some (.ins ad.aK dx (qY L i))∧bW K H L (zv zs)∧zs.length≤31000∧CallAt zs i cc j∧WqatcoNeutral.asked1 cc=true∧ls.length+2<4096∧(linesText ls).length≤31000∧n+66*(ls.length+1)<9000000∧
 (∀p H' n',(∀xs,H p≠some (.lst xs))→H' p=some (.lst (zv (WqatcoNeutral.step ls cc).2))→i5 ad H' h (WqatcoNeutral.step ls cc).1 n'→n'≤n+cost ls cc→H' c=some (.ins ad.aK dx (qY L j))→Gw [h,c] H H'→Q (.ref p) H')∧
 (∀C od H',HJ ad (WqatcoNeutral.step ls cc).2 C od H'→(WqatcoNeutral.step ls cc).1=ls→i5 ad H' h ls n→H' c=some (.ins ad.aK dx (qY L j))→Gw [h,c] H H'→E C od H')
structure Cm(K:PySem.W.Frag)(ad:Ad)(H H':Hp)(h c dx L:Addr)(ls:Lines)(n:Nat)(zs:List Int)(i:Nat):Prop where
 ho:i5 ad H' h ls n
 cl:H' c=some (.ins ad.aK dx (qY L i))
 nu:bW K H' L (zv zs)
 kk:Kp [c] H H'
theorem Gh(T:Txt K mg ad){H:Hp}{c dx:Addr}{fs:List (Str×V)}(hc:H c=some (.ins ad.aK dx fs)):∀a∈[c],(∀xs,H a≠some (.lst xs))∧(∀kvs,H a≠some (.dK kvs))∧(∀kvs,H a≠some (.dT kvs))∧∀dx fs,H a≠some (.ins ad.b6 dx fs)∧H a≠some (.ins ad.aP dx fs)∧H a≠some (.ins ad.aR dx fs):=by
 have hn:=T.Sy
 simp at hn
 intro a ha
 simp at ha
 subst ha
 refine⟨fun xs z=>(by rw[hc]at z;cases z),fun xs z=>(by rw[hc]at z;cases z),fun xs z=>(by rw[hc]at z;cases z),fun dx fs=>⟨fun z=> ?_,fun z=> ?_,fun z=> ?_⟩⟩<;>(rw[hc]at z;injection z with z;injection z with z1 z2 z3;simp_all)
theorem Cm.to(T:Txt K mg ad){H H1 H2:Hp}{h c dx L:Addr}{ls:Lines}{n:Nat}{zs:List Int}{i j:Nat}(W:Cm K ad H H1 h c dx L ls n zs i)(K2:Kp [c] H1 H2)(hc:H2 c=some (.ins ad.aK dx (qY L j))):Cm K ad H H2 h c dx L ls n zs j:=
 ⟨W.ho.keep K2 (Gh T W.cl),hc,AK W.nu W.cl K2,W.kk.trans K2⟩
theorem Cm.step(T:Txt K mg ad){H H1:Hp}{h c dx L:Addr}{ls:Lines}{n:Nat}{zs:List Int}{i:Nat}(W:Cm K ad H H1 h c dx L ls n zs i):Cm K ad H (upd H1 c (.ins ad.aK dx (qY L (i+1)))) h c dx L ls n zs (i+1):=
 W.to T (Kp.set (by simp)) aj
theorem Cm.was{H H1:Hp}{h c dx L:Addr}{ls:Lines}{n:Nat}{zs:List Int}{i:Nat}(W:Cm K ad H H1 h c dx L ls n zs i){p:Addr}(hp:H1 p=none):H p=none:=by
 cases e:H p with
 |none=>rfl
 |some o=>
  have hne:p≠c:=fun z=>by rw[z,W.cl]at hp;cases hp
  rw[W.kk _ _ e (by simp[hne])]at hp
  cases hp
theorem Cm.NN{H H1:Hp}{h c dx L:Addr}{ls:Lines}{n:Nat}{zs:List Int}{i:Nat}(W:Cm K ad H H1 h c dx L ls n zs i){p:Addr}(hp:H1 p=none):∀xs,H p≠some (.lst xs):=fun xs z=>by rw[W.was hp]at z;cases z
theorem Cm.PZ(T:Txt K mg ad){H H1:Hp}{h c dx L:Addr}{ls:Lines}{n:Nat}{zs:List Int}{i:Nat}(W:Cm K ad H H1 h c dx L ls n zs i):c≠h:=fun z=>by
 obtain⟨d0,l0,t0,B0,p0,hh⟩:=W.ho.hold
 exact((Gh T W.cl c (by simp)).2.2.2 d0 _).2.1 (by rw[z];exact hh)
abbrev SK(ad:Ad)(H:Hp)(Q:VK)(h c dx L:Addr)(ls:Lines)(n:Nat)(cc:List (List Int))(j:Nat):Prop:=∀p H' n',(∀xs,H p≠some (.lst xs))→H' p=some (.lst (zv (WqatcoNeutral.step ls cc).2))→i5 ad H' h (WqatcoNeutral.step ls cc).1 n'→n'≤n+cost ls cc→H' c=some (.ins ad.aK dx (qY L j))→Gw [h,c] H H'→Q (.ref p) H'
abbrev S2(ad:Ad)(H:Hp)(E:XK)(h c dx L:Addr)(ls:Lines)(n:Nat)(cc:List (List Int))(j:Nat):Prop:=∀C od H',HJ ad (WqatcoNeutral.step ls cc).2 C od H'→(WqatcoNeutral.step ls cc).1=ls→i5 ad H' h ls n→H' c=some (.ins ad.aK dx (qY L j))→Gw [h,c] H H'→E C od H'
section
variable{H H1:Hp}{Q:VK}{E:XK}{h c dx L:Addr}{ls:Lines}{n:Nat}{zs:List Int}{cc:List (List Int)}{j:Nat}
theorem Cm.kd(W:Cm K ad H H1 h c dx L ls n zs j){H':Hp}(K2:Gw [h,c] H1 H'):Gw [h,c] H H':=((Kp.d W.kk).mono (by simp+contextual)).trans K2
theorem HH(W:Cm K ad H H1 h c dx L ls n zs j)(k1:SK ad H Q h c dx L ls n cc j)(hs:(WqatcoNeutral.step ls cc).1=ls){p:Addr}{H':Hp}{xs:List V}(hp:H1 p=none)(hp':H' p=some (.lst xs))(hx:xs=zv (WqatcoNeutral.step ls cc).2)(K2:Kp [] H1 H'):Q (.ref p) H':=
 k1 p H' n (W.NN hp) (by rw[hp',hx]) (by rw[hs];exact W.ho.BL K2) (Nat.le_add_right _ _) (K2 _ _ W.cl (by simp)) (W.kd ((Kp.d K2).mono (by simp)))
theorem w9(W:Cm K ad H H1 h c dx L ls n zs j)(k2:S2 ad H E h c dx L ls n cc j)(hs:(WqatcoNeutral.step ls cc).1=ls){C:Value}{od:Option Addr}{H':Hp}(hst:HJ ad (WqatcoNeutral.step ls cc).2 C od H')(K2:Kp [] H1 H'):E C od H':=
 k2 C od H' hst hs (W.ho.BL K2) (K2 _ _ W.cl (by simp)) (W.kd ((Kp.d K2).mono (by simp)))
theorem Gz(x:Wqatco.Ans):zv (x.ret::x.nums.map WqatcoNeutral.int)=KG x:=by
 simp[zv,KG,WqatcoNeutral.int]
theorem Hu(W:Cm K ad H H1 h c dx L ls n zs j)(k1:SK ad H Q h c dx L ls n cc j)(k2:S2 ad H E h c dx L ls n cc j){x:Wqatco.Ans}(hs:WqatcoNeutral.step ls cc=(ls,x.ret::x.nums.map WqatcoNeutral.int)):Due ad H1 Q E x:=by
 have h1:(WqatcoNeutral.step ls cc).1=ls:=by rw[hs]
 have h2:(WqatcoNeutral.step ls cc).2=x.ret::x.nums.map WqatcoNeutral.int:=by rw[hs]
 refine⟨fun e H' K2=>w9 W k2 h1 ?_ K2,fun e H' K2=>w9 W k2 h1 ?_ K2,fun e H' K2=>w9 W k2 h1 ?_ K2,fun k e d H' hd K2=>w9 W k2 h1 ?_ K2,fun p H' hp hp' K2=>HH W k1 h1 hp hp' (by rw[h2,Gz]) K2⟩
 ·rw[h2,e];exact .inr (.inl ⟨rfl,rfl⟩)
 ·rw[h2,e];exact .inl ⟨rfl,rfl⟩
 ·rw[h2,e];exact .inr (.inr (.inl ⟨rfl,rfl⟩))
 ·rw[h2,e];exact .inr (.inr (.inr (.inr ⟨d,k,rfl,rfl,hd,rfl⟩)))
end
theorem E3{r:List Int}(h:r.all (fun z=>WqatcoNeutral.natural z 8)=true):zv r=iv (WqatcoNeutral.bytes r):=by
 unfold zv iv WqatcoNeutral.bytes
 rw[List.map_map]
 refine List.map_congr_left fun z hz=> ?_
 have:=List.all_eq_true.mp h z hz
 simp only[WqatcoNeutral.natural,Bool.and_eq_true,decide_eq_true_eq]at this
 show V.int z=V.int (((UInt8.ofNat z.toNat).toNat:Nat))
 rw[UInt8.toNat_ofNat']
 congr 1
 have:z<256:=this.2
 omega
theorem uP{z:Int}(h:WqatcoNeutral.natural z 32=true):V.int z=V.int ((z.toNat:Nat)):=by
 simp only[WqatcoNeutral.natural,Bool.and_eq_true,decide_eq_true_eq]at h
 congr 1
 omega
theorem Ka(T:Txt K mg ad):bA P w K mg base (wz P w (Nc ad)) 9 ad.yq ad.n4 ["holder","calls"] (JS K ad):=by
 have G_Holder_take:=Bx (P:=P) (w:=w) (base:=base) T
 have G_Holder_more:=By (P:=P) (w:=w) (base:=base) T
 have G_Holder_text:=Bw (P:=P) (w:=w) (base:=base) T
 have G_Holder_sizes:=Ah (P:=P) (w:=w) (base:=base) T
 have G_Holder_at:=Ep (P:=P) (w:=w) (base:=base) T
 have G_Holder_follow:=zj (P:=P) (w:=w) (base:=base) T
 have G_Holder_where:=Ag (P:=P) (w:=w) (base:=base) T
 have G_Holder_into:=Bz (P:=P) (w:=w) (base:=base) T
 have G_CallList_step:=rM (P:=P) (w:=w) (base:=base) T
 have G_CallList_row:=Ai (P:=P) (w:=w) (base:=base) T
 refine T.vB.Ap C4 (fun vs H Q E h=> ?_) (fun cdv A outer s H vs Q E hr h X hX fl po=> ?_)
 ·obtain⟨h,c,dx,L,ls,n,zs,i,cc,j,rfl,_⟩:=h
  rfl
 ·obtain⟨h,c,dx,L,ls,n,zs,i,cc,j,rfl,hO,hc,hL,hzl,hA,hask,hls,htx,hn,k1,k2⟩:=h
  have nd:=C4.nd
  have hu:=a7 hr
  subst hX
  have ps:=b9.passes fl rfl
  refine⟨_,(ao (aU (i:=2) nd rfl (Or.inl rfl) (bI (pv 1) T.aS T.aZ G_CallList_step (hr.mono (by decide)) T.aW .nil bh))
   (ao (a6 (aV f9 (pv 2) (aE (v:=.int 0) rfl T.Nr.choose_spec ⟨_,rfl⟩) (aY _))
   (au (aJ (iu (pv 0) T.aT T.uT G_Holder_take (hr.mono (by decide)) T.lQ .nil ps (ak (bI (pv 1) T.aS T.eG G_CallList_row (hr.mono (by decide)) T.cS .nil bh) aA))))
   aL)
   (ao (a6 (aV f9 (pv 2) (aE (v:=.int 1) rfl T.Nt.choose_spec ⟨_,rfl⟩) (aY _))
   (au (aJ (iu (pv 0) T.aT T.uU G_Holder_more (hr.mono (by decide)) T.lR .nil ps (ak (bI (pv 1) T.aS T.eG G_CallList_row (hr.mono (by decide)) T.cS .nil bh) aA))))
   aL)
   (ao (a6 (aV f9 (pv 2) (aE (v:=.int 2) rfl T.Nq.choose_spec ⟨_,rfl⟩) (aY _))
   (au (aJ (bI (pv 0) T.aT T.uS G_Holder_text (hr.mono (by decide)) T.lP .nil bh)))
   aL)
   (ao (a6 (aV f9 (pv 2) (aE (v:=.int 3) rfl T.Jv.choose_spec ⟨_,rfl⟩) (aY _))
   (au (aJ (bI (pv 0) T.aT T.tW G_Holder_sizes (hr.mono (by decide)) T.j6 .nil bh)))
   aL)
   (ao (a6 (aV f9 (pv 2) (aE (v:=.int 4) rfl T.RJ.choose_spec ⟨_,rfl⟩) (aY _))
   (au (aJ (iu (pv 0) T.aT T.x8 G_Holder_at (hr.mono (by decide)) T.qw .nil ps (ak (bI (pv 1) T.aS T.aZ G_CallList_step (hr.mono (by decide)) T.aW .nil bh) (ak (bI (pv 1) T.aS T.aZ G_CallList_step (hr.mono (by decide)) T.aW .nil bh) (ak (bI (pv 1) T.aS T.eG G_CallList_row (hr.mono (by decide)) T.cS .nil bh) aA))))))
   aL)
   (ao (a6 (aV f9 (pv 2) (aE (v:=.int 5) rfl T.Gj.choose_spec ⟨_,rfl⟩) (aY _))
   (au (aJ (iu (pv 0) T.aT T.rQ G_Holder_follow (hr.mono (by decide)) T.jt .nil ps (ak (bI (pv 1) T.aS T.aZ G_CallList_step (hr.mono (by decide)) T.aW .nil bh) (ak (bI (pv 1) T.aS T.aZ G_CallList_step (hr.mono (by decide)) T.aW .nil bh) (ak (bI (pv 1) T.aS T.aZ G_CallList_step (hr.mono (by decide)) T.aW .nil bh) (ak (bI (pv 1) T.aS T.eG G_CallList_row (hr.mono (by decide)) T.cS .nil bh) aA)))))))
   aL)
   (ao (a6 (aV f9 (pv 2) (aE (v:=.int 6) rfl T.Jt.choose_spec ⟨_,rfl⟩) (aY _))
   (au (aJ (iu (pv 0) T.aT T.tV G_Holder_where (hr.mono (by decide)) T.j5 .nil ps (ak (bI (pv 1) T.aS T.aZ G_CallList_step (hr.mono (by decide)) T.aW .nil bh) (ak (bI (pv 1) T.aS T.aZ G_CallList_step (hr.mono (by decide)) T.aW .nil bh) (ak (bI (pv 1) T.aS T.eG G_CallList_row (hr.mono (by decide)) T.cS .nil bh) aA))))))
   aL)
   (ao (a6 (aV f9 (pv 2) (aE (v:=.int 7) rfl T.Nu.choose_spec ⟨_,rfl⟩) (aY _))
   (au (aJ (iu (pv 0) T.aT T.uV G_Holder_into (hr.mono (by decide)) T.lT .nil ps (ak (bI (pv 1) T.aS T.aZ G_CallList_step (hr.mono (by decide)) T.aW .nil bh) (ak (bI (pv 1) T.aS T.aZ G_CallList_step (hr.mono (by decide)) T.aW .nil bh) aA)))))
   aL)
   (au Mr)))))))))),?_⟩
  walk_at "r1"
  walk_at "r2"
  have W0:Cm K ad H H h c dx L ls n zs i:=⟨hO,hc,hL,Kp.refl _ _⟩
  have W1:=W0.step T
  have hz0:zs.length≤100000:=by omega
  refine⟨_,_,hc,by simp[qY,aB],?_⟩
  obtain⟨d0,l0,t0,B0,p0,hh0⟩:=hO.hold
  have row:∀{i':Nat}{r:List Int}{j':Nat}{H':Hp}{Q':VK},Cm K ad H H' h c dx L ls n zs i'→yH zs i' r j'→(∀p H2,Cm K ad H H2 h c dx L ls n zs j'→H2 p=some (.lst (zv r))→r.length≤31000→Q' (.ref p) H2)→tN K ad [V.ref c] H' Q' E0:=by
   rintro i' r j' H' Q' W ⟨k,e1,e2,e3,rfl,e5⟩ kq
   refine⟨c,dx,L,i',k,zs,rfl,W.cl,W.nu,e1,e5,hz0,fun p H2 hp hp2 hc2 K2=>kq p H2 (W.to T K2 hc2) (by rw[hp2,e2]) (by omega)⟩
  have stp:∀{i':Nat}{z:Int}{H':Hp}{Q':VK},Cm K ad H H' h c dx L ls n zs i'→zs[i']? =some z→(∀H2,Cm K ad H H2 h c dx L ls n zs (i'+1)→Q' (.int z) H2)→rC K ad [V.ref c] H' Q' E0:=by
   intro i' z H' Q' W e kq
   exact⟨c,dx,L,i',zs,z,rfl,W.cl,W.nu,e,hz0,kq _ (W.step T)⟩
  have hld:∀{i':Nat}{H':Hp},Cm K ad H H' h c dx L ls n zs i'→∃x y,H' h=some (.ins ad.aP x y)∧∀m:Str,(wV 0 0 0 0).lookup m=none→y.lookup m=none:=by
   intro i' H' W
   obtain⟨d1,l1,t1,B1,p1,hh1⟩:=W.ho.hold
   refine⟨_,_,hh1,fun m hm=> ?_⟩
   simp only[wV,List.lookup]at hm ⊢
   split at hm<;>simp_all
   split at hm<;>simp_all
   split at hm<;>simp_all
   split at hm<;>simp_all
  cases hA with
  |take e0 eR=>
   refine stp W0 e0 fun H1 W1=>⟨rfl,?_⟩
   rw[if_pos rfl]
   obtain⟨x,y,hh,hlk⟩:=hld W1
   refine⟨x,y,hh,hlk _ (by simp[wV,aB]),_,_,W1.cl,by simp[qY,aB],row W1 eR fun p H2 W2 hp hrl=> ?_⟩
   rename_i r
   have hb:r.all (fun z=>WqatcoNeutral.natural z 8)=true:=hask
   rw[E3 hb]at hp
   have hbl:(WqatcoNeutral.bytes r).length=r.length:=List.length_map _
   have hst:WqatcoNeutral.step ls [[0],r]=((Wqatco.taken ls (WqatcoNeutral.bytes r)).1,(Wqatco.taken ls (WqatcoNeutral.bytes r)).2.ret::(Wqatco.taken ls (WqatcoNeutral.bytes r)).2.nums.map WqatcoNeutral.int):=rfl
   have hLO:Wqatco.LONGEST=65536:=rfl
   refine⟨h,p,ls,n,WqatcoNeutral.bytes r,rfl,W2.ho,hp,by omega,fun c1=>absurd c1 (by omega),fun c1=>⟨fun x hx q H3 hq hq3 hH3 K3=> ?_,fun e he=> ?_⟩⟩
   ·have et:Wqatco.taken ls (WqatcoNeutral.bytes r)=(x,Wqatco.says 0):=by unfold Wqatco.taken;rw[if_neg (by omega),hx]
    rw[et]at hst
    refine k1 q H3 0 (W2.NN hq) (by rw[hq3,hst];rfl) (by rw[hst];exact hH3) (Nat.zero_le _) (K3 _ _ W2.cl (by simp;exact W2.PZ T)) (W2.kd ((Kp.d K3).mono (by simp)))
   ·have et:Wqatco.taken ls (WqatcoNeutral.bytes r)=(ls,Wqatco.faultAt [e.1,e.2]):=by unfold Wqatco.taken;rw[if_neg (by omega),he]
    rw[et]at hst
    exact fun d H3 hd K3=>w9 W2 k2 (by rw[hst]) (by rw[hst];exact .inr (.inr (.inr (.inl ⟨d,e.1,e.2,rfl,rfl,hd,rfl⟩)))) K3
  |more e0 eR=>
   refine stp W0 e0 fun H1 W1=>⟨rfl,?_⟩
   rw[if_neg (by intro z;cases z)]
   refine⟨rfl,?_⟩
   rw[if_pos rfl]
   obtain⟨x,y,hh,hlk⟩:=hld W1
   refine⟨x,y,hh,hlk _ (by simp[wV,aB]),_,_,W1.cl,by simp[qY,aB],row W1 eR fun p H2 W2 hp hrl=> ?_⟩
   rename_i r
   have hb:r.all (fun z=>WqatcoNeutral.natural z 8)=true:=hask
   rw[E3 hb]at hp
   have hbl:(WqatcoNeutral.bytes r).length=r.length:=List.length_map _
   have hst:WqatcoNeutral.step ls [[1],r]=((Wqatco.taken ls (linesText ls++WqatcoNeutral.bytes r)).1,(Wqatco.taken ls (linesText ls++WqatcoNeutral.bytes r)).2.ret::(Wqatco.taken ls (linesText ls++WqatcoNeutral.bytes r)).2.nums.map WqatcoNeutral.int):=rfl
   have hLO:Wqatco.LONGEST=65536:=rfl
   have hal:(linesText ls++WqatcoNeutral.bytes r).length=(linesText ls).length+(WqatcoNeutral.bytes r).length:=List.length_append
   refine⟨h,p,ls,n,WqatcoNeutral.bytes r,rfl,W2.ho,by omega,hp,by omega,by omega,fun c1=>absurd c1 (by omega),fun c1=>⟨fun x hx q H3 hq hq3 hH3 K3=> ?_,fun e he=> ?_⟩⟩
   ·have et:Wqatco.taken ls (linesText ls++WqatcoNeutral.bytes r)=(x,Wqatco.says 0):=by unfold Wqatco.taken;rw[if_neg (by omega),hx]
    rw[et]at hst
    refine k1 q H3 0 (W2.NN hq) (by rw[hq3,hst];rfl) (by rw[hst];exact hH3) (Nat.zero_le _) (K3 _ _ W2.cl (by simp;exact W2.PZ T)) (W2.kd ((Kp.d K3).mono (by simp)))
   ·have et:Wqatco.taken ls (linesText ls++WqatcoNeutral.bytes r)=(ls,Wqatco.faultAt [e.1,e.2]):=by unfold Wqatco.taken;rw[if_neg (by omega),he]
    rw[et]at hst
    exact fun d H3 hd K3=>w9 W2 k2 (by rw[hst]) (by rw[hst];exact .inr (.inr (.inr (.inl ⟨d,e.1,e.2,rfl,rfl,hd,rfl⟩)))) K3
  |text e0=>
   refine stp W0 e0 fun H1 W1=>⟨rfl,?_⟩
   rw[if_neg (by intro z;cases z)]
   refine⟨rfl,?_⟩
   rw[if_neg (by intro z;cases z)]
   refine⟨rfl,?_⟩
   rw[if_pos rfl]
   obtain⟨x,y,hh,hlk⟩:=hld W1
   refine⟨x,y,hh,hlk _ (by simp[wV,aB]),h,ls,n,rfl,W1.ho,by omega,fun p H' hp hp' K2=>HH W1 k1 rfl hp hp' ?_ K2⟩
   have hst:(WqatcoNeutral.step ls [[2]]).2=(Wqatco.rowAns ((linesText ls).map fun(c:UInt8)=>c.toNat)).ret::(Wqatco.rowAns ((linesText ls).map fun(c:UInt8)=>c.toNat)).nums.map WqatcoNeutral.int:=rfl
   rw[hst,Gz]
   simp[KG,Wqatco.rowAns,iv]
  |sizes e0=>
   refine stp W0 e0 fun H1 W1=>⟨rfl,?_⟩
   rw[if_neg (by intro z;cases z)]
   refine⟨rfl,?_⟩
   rw[if_neg (by intro z;cases z)]
   refine⟨rfl,?_⟩
   rw[if_neg (by intro z;cases z)]
   refine⟨rfl,?_⟩
   rw[if_pos rfl]
   obtain⟨x,y,hh,hlk⟩:=hld W1
   refine⟨x,y,hh,hlk _ (by simp[wV,aB]),h,ls,n,rfl,W1.ho,by omega,fun p H' hp hp' K2=>HH W1 k1 rfl hp hp' ?_ K2⟩
   rfl
  |at_ e0 e1 e2 eR=>
   rename_i a d r
   have hask:(WqatcoNeutral.natural a 32&&WqatcoNeutral.natural d 32&&r.all (fun z=>WqatcoNeutral.whole32 z))=true:=hask
   simp only[Bool.and_eq_true]at hask
   refine stp W0 e0 fun H1 W1=>⟨rfl,?_⟩
   rw[if_neg (by intro z;cases z)]
   refine⟨rfl,?_⟩
   rw[if_neg (by intro z;cases z)]
   refine⟨rfl,?_⟩
   rw[if_neg (by intro z;cases z)]
   refine⟨rfl,?_⟩
   rw[if_neg (by intro z;cases z)]
   refine⟨rfl,?_⟩
   rw[if_pos rfl]
   obtain⟨x,y,hh,hlk⟩:=hld W1
   refine⟨x,y,hh,hlk _ (by simp[wV,aB]),_,_,W1.cl,by simp[qY,aB],stp W1 e1 fun H2 W2=>⟨_,_,W2.cl,by simp[qY,aB],stp W2 e2 fun H3 W3=>⟨_,_,W3.cl,by simp[qY,aB],row W3 eR fun p H4 W4 hp hrl=> ?_⟩⟩⟩
   rw[uP hask.1.1,uP hask.1.2]
   exact⟨h,p,ls,n,a.toNat,d.toNat,r,rfl,W4.ho,by omega,hp,by omega,Hu W4 k1 k2 rfl⟩
  |follow e0 e1 e2 e3 eR=>
   rename_i a d m r
   have hask:(WqatcoNeutral.natural a 32&&WqatcoNeutral.natural d 32&&WqatcoNeutral.natural m 1&&r.all (fun z=>WqatcoNeutral.whole32 z))=true:=hask
   simp only[Bool.and_eq_true]at hask
   have hm:V.int m=V.int ((m.toNat:Nat)):=by
    have:=hask.1.2
    simp only[WqatcoNeutral.natural,Bool.and_eq_true,decide_eq_true_eq]at this
    congr 1
    omega
   refine stp W0 e0 fun H1 W1=>⟨rfl,?_⟩
   rw[if_neg (by intro z;cases z)]
   refine⟨rfl,?_⟩
   rw[if_neg (by intro z;cases z)]
   refine⟨rfl,?_⟩
   rw[if_neg (by intro z;cases z)]
   refine⟨rfl,?_⟩
   rw[if_neg (by intro z;cases z)]
   refine⟨rfl,?_⟩
   rw[if_neg (by intro z;cases z)]
   refine⟨rfl,?_⟩
   rw[if_pos rfl]
   obtain⟨x,y,hh,hlk⟩:=hld W1
   refine⟨x,y,hh,hlk _ (by simp[wV,aB]),_,_,W1.cl,by simp[qY,aB],stp W1 e1 fun H2 W2=>⟨_,_,W2.cl,by simp[qY,aB],stp W2 e2 fun H3 W3=>⟨_,_,W3.cl,by simp[qY,aB],stp W3 e3 fun H5 W5=>⟨_,_,W5.cl,by simp[qY,aB],row W5 eR fun p H4 W4 hp hrl=> ?_⟩⟩⟩⟩
   rw[uP hask.1.1.1,uP hask.1.1.2,hm]
   exact⟨h,p,ls,n,a.toNat,d.toNat,m.toNat,r,rfl,W4.ho,by omega,hp,by omega,Hu W4 k1 k2 rfl⟩
  |where_ e0 e1 e2 eR=>
   rename_i a d r
   have hask:(WqatcoNeutral.natural a 32&&WqatcoNeutral.natural d 32&&r.all (fun z=>WqatcoNeutral.whole32 z))=true:=hask
   simp only[Bool.and_eq_true]at hask
   refine stp W0 e0 fun H1 W1=>⟨rfl,?_⟩
   rw[if_neg (by intro z;cases z)]
   refine⟨rfl,?_⟩
   rw[if_neg (by intro z;cases z)]
   refine⟨rfl,?_⟩
   rw[if_neg (by intro z;cases z)]
   refine⟨rfl,?_⟩
   rw[if_neg (by intro z;cases z)]
   refine⟨rfl,?_⟩
   rw[if_neg (by intro z;cases z)]
   refine⟨rfl,?_⟩
   rw[if_neg (by intro z;cases z)]
   refine⟨rfl,?_⟩
   rw[if_pos rfl]
   obtain⟨x,y,hh,hlk⟩:=hld W1
   refine⟨x,y,hh,hlk _ (by simp[wV,aB]),_,_,W1.cl,by simp[qY,aB],stp W1 e1 fun H2 W2=>⟨_,_,W2.cl,by simp[qY,aB],stp W2 e2 fun H3 W3=>⟨_,_,W3.cl,by simp[qY,aB],row W3 eR fun p H4 W4 hp hrl=> ?_⟩⟩⟩
   rw[uP hask.1.1,uP hask.1.2]
   exact⟨h,p,ls,n,a.toNat,d.toNat,r,rfl,W4.ho,by omega,hp,by omega,Hu W4 k1 k2 rfl⟩
  |into e0 e1 e2=>
   rename_i a d
   have hask:(WqatcoNeutral.natural a 32&&WqatcoNeutral.natural d 32)=true:=hask
   simp only[Bool.and_eq_true]at hask
   refine stp W0 e0 fun H1 W1=>⟨rfl,?_⟩
   rw[if_neg (by intro z;cases z)]
   refine⟨rfl,?_⟩
   rw[if_neg (by intro z;cases z)]
   refine⟨rfl,?_⟩
   rw[if_neg (by intro z;cases z)]
   refine⟨rfl,?_⟩
   rw[if_neg (by intro z;cases z)]
   refine⟨rfl,?_⟩
   rw[if_neg (by intro z;cases z)]
   refine⟨rfl,?_⟩
   rw[if_neg (by intro z;cases z)]
   refine⟨rfl,?_⟩
   rw[if_neg (by intro z;cases z)]
   refine⟨rfl,rfl,?_⟩
   obtain⟨x,y,hh,hlk⟩:=hld W1
   refine⟨x,y,hh,hlk _ (by simp[wV,aB]),_,_,W1.cl,by simp[qY,aB],stp W1 e1 fun H2 W2=>⟨_,_,W2.cl,by simp[qY,aB],stp W2 e2 fun H3 W3=> ?_⟩⟩
   rw[uP hask.1,uP hask.2]
   have hst:WqatcoNeutral.step ls [[7,a,d]]=(ls,(Wqatco.told ls (.into a.toNat d.toNat)).ret::(Wqatco.told ls (.into a.toNat d.toNat)).nums.map WqatcoNeutral.int):=rfl
   refine⟨h,ls,n,a.toNat,d.toNat,rfl,W3.ho,hn,hls,fun c1=> ?_,fun c1 p H' hp hp' hH' KD=> ?_⟩
   ·have et:Wqatco.told ls (.into a.toNat d.toNat)=Wqatco.BAD:=by show(if POINT<a.toNat∨DAY<d.toNat then Wqatco.BAD else Wqatco.rowAns (Wqatco.intoOf ls a.toNat d.toNat))=_;rw[if_pos c1]
    rw[et]at hst
    exact w9 W3 k2 (by rw[hst]) (by rw[hst];exact .inl ⟨rfl,rfl⟩) (Kp.refl _ _)
   ·have et:Wqatco.told ls (.into a.toNat d.toNat)=Wqatco.rowAns (Wqatco.intoOf ls a.toNat d.toNat):=by show(if POINT<a.toNat∨DAY<d.toNat then Wqatco.BAD else Wqatco.rowAns (Wqatco.intoOf ls a.toNat d.toNat))=_;rw[if_neg c1]
    rw[et]at hst
    exact k1 p H' _ (W3.NN hp) (by rw[hp',hst,Gz]) (by rw[hst];exact hH') (Nat.le_refl _) (KD _ _ W3.cl (by simp) (by intro _ z;cases z) (by intro _ z;cases z)) (W3.kd (KD.mono (by simp)))
end
theorem BR:typeLookup (.type "Exception") "line_number"=pure none:=by rw[typeLookup_type,builtinLookup_eq_fast];kernel_rfl
theorem QD:typeLookup (.type "Exception") "why"=pure none:=by rw[typeLookup_type,builtinLookup_eq_fast];kernel_rfl
theorem M1:typeLookup (.type "Exception") "place"=pure none:=by rw[typeLookup_type,builtinLookup_eq_fast];kernel_rfl
section
variable{P:Program}{w:World}{K:PySem.W.Frag}{mg:Str→Option Value}{base:Heap}{ad:Ad}
def ud(K:PySem.W.Frag)(ad:Ad):Sp:=fun vs H Q E=>∃(h c dx L:Addr)(ls:Lines)(n:Nat)(zs:List Int)(i:Nat)(cc:List (List Int))(j:Nat),vs=[.ref h,.ref c]∧i5 ad H h ls n∧H c=some (.ins ad.aK dx (qY L i))∧bW K H L (zv zs)∧zs.length≤31000∧CallAt zs i cc j∧WqatcoNeutral.asked1 cc=true∧ls.length+2<4096∧(linesText ls).length≤31000∧n+66*(ls.length+1)<9000000∧
 SK ad H Q h c dx L ls n cc j
def R3:Addr→Option Addr→TS:=fun eh od=>match od with
 |none=>fun _ _ _=>False
 |some dx=>Lg (NV (oB (tC (.int (-6))) (oB (AG (vT 2) eh dx "line_number") (oB (AG (vT 2) eh dx "why") AI))))
def R4:Addr→Option Addr→TS:=fun eh od=>match od with
 |none=>fun _ _ _=>False
 |some dx=>Lg (NV (oB (tC (.int (-6))) (oB (AG (vT 3) eh dx "place") AI)))
theorem uN(T:Txt K mg ad):bA P w K mg base nj 10 ad.fF ad.bV ["holder","calls"] (ud K ad):=by
 have G_answer:=Ka (P:=P) (w:=w) (base:=base) T
 refine T.dB.ok mF (fun vs H Q E h=> ?_) (fun cdv A outer s H vs Q E hr h=> ?_)
 ·obtain⟨h,c,dx,L,ls,n,zs,i,cc,j,rfl,_⟩:=h
  rfl
 ·obtain⟨h,c,dx,L,ls,n,zs,i,cc,j,rfl,hO,hc,hL,hzl,hA,hask,hls,htx,hn,k1⟩:=h
  have nd:=mF.nd
  have hu:=a7 hr
  refine⟨_,au (N9 (Nc:=Nc ad) (th:=_) (tb:=_) rfl rfl rfl
   (fun D pl xe po' fl'=>au (aJ (bT G_answer (hr.mono (by decide)) rfl T.F3 T.vB.kp T.yE .nil (b9.passes fl' rfl) (ak (pv 0) (ak (pv 1) aA)))))
   (Bm (fun _=>hr.hd) T.xg rfl T.zu (fun eh oh ws hdt=>au (aJ (bK (ak (aE (v:=.int (-1)) rfl T.DC.choose_spec ⟨_,rfl⟩) aA))))
    (Bm (fun _=>hr.hd) T.kI rfl T.kO (fun eh oh ws hdt=>au (aJ (bK (ak (aE (v:=.int (-2)) rfl T.B8.choose_spec ⟨_,rfl⟩) aA))))
     (Bm (fun _=>hr.hd) T.jL rfl T.kZ (fun eh oh ws hdt=>au (aJ (bK (ak (aE (v:=.int (-3)) rfl T.vh.choose_spec ⟨_,rfl⟩) aA))))
      (FK (i:=2) (ts:=R3) (fun _=>hr.hd) T.mE rfl T.jS nd rfl rfl (fun eh oh ws hdt hcl=>by
       cases hdx:oh.dict with
       |none=>exact fun _ _ _ _ _ _ z=>False.elim z
       |some dx=>exact au (aJ (bK (ak (aE (v:=.int (-6)) rfl T.Cd.choose_spec ⟨_,rfl⟩) (ak (Bn (pv 2) (List.mem_cons_self ..) hcl hdt hdx T.mE T.d9 T.gZ T.i6 BR rfl) (ak (Bn (pv 2) (List.mem_cons_self ..) hcl hdt hdx T.mE T.d9 T.gZ T.qZ QD rfl) aA))))))
       (FK (i:=3) (ts:=R4) (fun _=>hr.hd) T.vC rfl T.wO nd rfl rfl (fun eh oh ws hdt hcl=>by
        cases hdx:oh.dict with
        |none=>exact fun _ _ _ _ _ _ z=>False.elim z
        |some dx=>exact au (aJ (bK (ak (aE (v:=.int (-6)) rfl T.Cd.choose_spec ⟨_,rfl⟩) (ak (Bn (pv 3) (List.mem_cons_self ..) hcl hdt hdx T.vC T.jE T.ou T.q0 M1 rfl) aA)))))
        Qn))))) (by simp)),?_⟩
  refine⟨_,rfl,_,rfl,h,c,dx,L,ls,n,zs,i,cc,j,rfl,hO,hc,hL,hzl,hA,hask,hls,htx,hn,k1,fun C od H' hst hs hH' hc' KD=> ?_⟩
  have hx:=T.R0
  simp at hx
  obtain⟨d0,l0,t0,B0,p0,hh0⟩:=hO.hold
  have hp0:∀{p:Addr},H' p=none→∀xs,H p≠some (.lst xs):=fun{p} hp xs e=>by
   have h1:p≠h:=cO e hh0 (by intro z;cases z)
   have h2:p≠c:=cO e hc (by intro z;cases z)
   rw[KD p _ e (by simp[h1,h2]) (by intro _ z;cases z) (by intro _ z;cases z)]at hp
   cases hp
  have fin:∀(out:List Int),(WqatcoNeutral.step ls cc).2=out→∀p,H' p=none→Q (.ref p) (upd H' p (.lst (zv out))):=by
   intro out ho p hp
   have K2:Kp [] H' (upd H' p (.lst (zv out))):=Kp.new hp
   refine k1 p _ n (hp0 hp) (by rw[aj,ho]) (by rw[hs];exact hH'.BL K2) (Nat.le_add_right _ _) (K2 _ _ hc' (by simp)) (KD.trans ((Kp.d K2).mono (by simp)))
  rcases hst with⟨rfl,ho⟩|⟨rfl,ho⟩|⟨rfl,ho⟩|⟨d,a,b,rfl,rfl,hd,ho⟩|⟨d,k,rfl,rfl,hd,ho⟩
  ·refine⟨_,_,rfl,T.xg,fun eh=>⟨fun _=> ?_,fun z=>absurd rfl z⟩⟩
   exact⟨by decide,fun p hp=>fin _ ho p hp⟩
  ·refine⟨_,_,rfl,T.kI,fun eh=>⟨fun z=> ?_,fun _=>⟨fun _=> ?_,fun z=>absurd rfl z⟩⟩⟩
   ·simp_all
   ·exact⟨by decide,fun p hp=>fin _ ho p hp⟩
  ·refine⟨_,_,rfl,T.jL,fun eh=>⟨fun z=> ?_,fun _=>⟨fun z=> ?_,fun _=>⟨fun _=> ?_,fun z=>absurd rfl z⟩⟩⟩⟩
   ·simp_all
   ·simp_all
   ·exact⟨by decide,fun p hp=>fin _ ho p hp⟩
  ·refine⟨_,_,rfl,T.mE,fun eh=>⟨fun z=> ?_,fun _=>⟨fun z=> ?_,fun _=>⟨fun z=> ?_,fun _=>⟨fun _=> ?_,fun z=>absurd rfl z⟩⟩⟩⟩⟩
   ·simp_all
   ·simp_all
   ·simp_all
   ·exact⟨_,rfl,rfl,_,_,hd,by simp[O7,aB],_,rfl,rfl,_,_,hd,by simp[O7,aB],by show _≤16777216;simp,fun p hp=>fin _ ho p hp⟩
  ·refine⟨_,_,rfl,T.vC,fun eh=>⟨fun z=> ?_,fun _=>⟨fun z=> ?_,fun _=>⟨fun z=> ?_,fun _=>⟨fun z=> ?_,fun _=>⟨fun _=> ?_,fun z=>absurd rfl z⟩⟩⟩⟩⟩⟩
   ·simp_all
   ·simp_all
   ·simp_all
   ·simp_all
   ·exact⟨_,rfl,rfl,_,_,hd,by simp[aB],by show _≤16777216;simp,fun p hp=>fin _ ho p hp⟩
end
theorem KU{zs:List Int}{i j:Nat}{c:List (List Int)}(h:CallAt zs i c j):PyWqatco.whole c=c:=by
 cases h<;>rfl
theorem GO{zs:List Int}{i j:Nat}{cc:List (List Int)}(ls:Lines)(h:CallAt zs i cc j):(linesText (WqatcoNeutral.step ls cc).1).length≤(linesText ls).length+Pm.oN cc:=by
 have two:∀{p:Int}{t:List Int},Pm.oN [[p],t]=1+t.length:=by intro p t;simp[Pm.oN]
 cases h with
 | @take r j e hr=>
  have h1:=Pm.AB ls (WqatcoNeutral.bytes r)
  have hl:(WqatcoNeutral.bytes r).length=r.length:=List.length_map _
  show(linesText (Wqatco.taken ls (WqatcoNeutral.bytes r)).1).length≤_
  rw[two]
  omega
 | @more r j e hr=>
  have h1:=Pm.AB ls (linesText ls++WqatcoNeutral.bytes r)
  have hl:(WqatcoNeutral.bytes r).length=r.length:=List.length_map _
  have ha:(linesText ls++WqatcoNeutral.bytes r).length=(linesText ls).length+(WqatcoNeutral.bytes r).length:=List.length_append
  show(linesText (Wqatco.taken ls (linesText ls++WqatcoNeutral.bytes r)).1).length≤_
  rw[two]
  omega
 |_=>exact Nat.le_add_right _ _
theorem N4{zs:List Int}{i j:Nat}{c:List (List Int)}(h:CallAt zs i c j):Pm.oN c+i≤j:=by
 cases h with
 |take e r=>obtain⟨k,_,_,h3,h4,_⟩:=r;simp[Pm.oN];omega
 |more e r=>obtain⟨k,_,_,h3,h4,_⟩:=r;simp[Pm.oN];omega
 |text e=>simp[Pm.oN];omega
 |sizes e=>simp[Pm.oN];omega
 |at_ e e1 e2 r=>obtain⟨k,_,_,h3,h4,_⟩:=r;simp[Pm.oN];omega
 |follow e e1 e2 e3 r=>obtain⟨k,_,_,h3,h4,_⟩:=r;simp[Pm.oN];omega
 |where_ e e1 e2 r=>obtain⟨k,_,_,h3,h4,_⟩:=r;simp[Pm.oN];omega
 |into e e1 e2=>simp[Pm.oN];omega
theorem Hy{zs:List Int}{i f:Nat}{cs:List (List (List Int))}(hi:i<zs.length)(h:PyFlat.calls PyWqatco.shape f (zs.drop i)=some cs):
  ∃c j cs' f',CallAt zs i c j∧i<j∧j≤zs.length∧cs=c::cs'∧PyFlat.calls PyWqatco.shape f' (zs.drop j)=some cs':=by
 cases hd:zs.drop i with
 |nil=>
  have:=congrArg List.length hd
  rw[List.length_drop]at this
  simp at this
  omega
 |cons p r=>
  rw[hd]at h
  cases f with
  |zero=>cases h
  |succ f=>
   have h:(match PyFlat.call PyWqatco.shape (p::r)with
    |none=>none
    |some (c,t)=>match PyFlat.calls PyWqatco.shape f t with
     |none=>none
     |some cs=>some (c::cs))=some cs:=h
   cases hc:PyFlat.call PyWqatco.shape (p::r)with
   |none=>rw[hc]at h;cases h
   |some x=>
    obtain⟨c,t⟩:=x
    rw[hc]at h
    dsimp only at h
    rw[←hd]at hc
    obtain⟨j,h1,h2,h3,h4⟩:=OM hc
    cases hcs:PyFlat.calls PyWqatco.shape f t with
    |none=>rw[hcs]at h;cases h
    |some cs'=>
     rw[hcs]at h
     cases h
     exact⟨c,j,cs',f,h1,h3,h4,rfl,by rw[←h2];exact hcs⟩
section
variable{P:Program}{w:World}{K:PySem.W.Frag}{mg:Str→Option Value}{base:Heap}{ad:Ad}
structure SG(K:PySem.W.Frag)(ad:Ad)(G H':Hp)(h c t L dx:Addr)(zs:List Int)(M U:Nat)(res:List Int)(i:Nat)(ls:Lines)(n:Nat)(acc:List Int)(cs:List (List (List Int)))(f:Nat):Prop where
 ho:i5 ad G h ls n
 cl:G c=some (.ins ad.aK dx (qY L i))
 nu:bW K G L (zv zs)
 gt:G t=none
 td:H'=upd G t (.lst (zv acc))
 pa:PyFlat.calls PyWqatco.shape f (zs.drop i)=some cs
 re:acc++PyFlat.told (PyFlat.played WqatcoNeutral.step ls (cs.map PyWqatco.whole))=res
 ask:(cs.map PyWqatco.whole).all WqatcoNeutral.asked1=true
 num:(linesText ls).length+WqatcoNeutral.numbers (cs.map PyWqatco.whole)≤M
 co:n+66*((M / 9+1)*WqatcoNeutral.callsOf 7 (cs.map PyWqatco.whole))≤U
 len:acc.length+40000*cs.length≤16000000
 Tr:i≤zs.length
 S3:(linesText ls).length≤i
def GR(K:PySem.W.Frag)(ad:Ad):Sp:=fun vs H Q _=>∃(L:Addr)(zs:List Int),vs=[.ref L]∧bW K H L (zv zs)∧zs.length≤31000∧PyWqatco.answers_asked zs=true∧∀p H',H' p=some (.lst (zv (PyWqatco.answers zs)))→Q (.ref p) H'
theorem He(T:Txt K mg ad):bA P w K mg base nj 11 ad.vM ad.jD ["calls"] (GR K ad):=by
 have G_Holder_init:=BA (P:=P) (w:=w) (base:=base) T
 have G_CallList_init:=zm (P:=P) (w:=w) (base:=base) T
 have G_CallList_at_end:=wM (P:=P) (w:=w) (base:=base) T
 have G_answer_or_refusal:=(uN (P:=P) (w:=w) (base:=base) T).framed
 refine T.sD.ok Bc (fun vs H Q E h=> ?_) (fun cdv A outer s H vs Q E hr h=> ?_)
 ·obtain⟨L,zs,rfl,_⟩:=h
  rfl
 ·obtain⟨L,zs,rfl,hL,hz,hask,k⟩:=h
  have nd:=Bc.nd
  have hu:=a7 hr
  refine⟨_,(ao (aU (i:=1) nd rfl (Or.inl rfl) (Mv T.Dk G_Holder_init (hr.mono (by decide)) rfl T.Dm T.lU .nil bh))
   (ao (aU (i:=2) nd rfl (Or.inl rfl) (vH T.zO G_CallList_init (hr.mono (by decide)) rfl T.zP T.ju .nil bh (ak (pv 0) aA)))
   (ao (aU (i:=3) nd rfl (Or.inl rfl) (bK aA))
   (ao (FE PassesOwn.never (oO (gk (bI (pv 2) T.aS T.oX G_CallList_at_end (hr.mono (by decide)) T.gX .nil bh)))
   (ao (aU (i:=4) nd rfl (Or.inl rfl) (eW G_answer_or_refusal (hr.mono (by decide)) rfl T.nG T.dB.kp T.fG .nil bh (ak (pv 1) (ak (pv 2) aA))))
   (ao (dD (mG PySem.F.plainAttrs_list PySem.F.slot_list_append PySem.F.type_list_append eD (pv 3) (ak (a9 (a8 (K:=K) rfl) (by rfl) T.c9 PySem.boot_len (ak (pv 4) aA)) aA)))
   (au (dD (mG PySem.F.plainAttrs_list PySem.F.slot_list_extend PySem.F.type_list_extend Di (pv 3) (ak (pv 4) aA)))))))
   (au (aJ (pv 3))))))),?_⟩
  walk_at "r1"
  walk_at "r2"
  obtain⟨cs,hcs,hN,hak,hsum,hres⟩:∃cs,PyFlat.calls PyWqatco.shape zs.length zs=some cs∧cs.length≤400∧(cs.map PyWqatco.whole).all WqatcoNeutral.asked1=true∧
    (cs.map PyWqatco.whole).length*(WqatcoNeutral.numbers (cs.map PyWqatco.whole)+1000)+4200*WqatcoNeutral.callsOf 7 (cs.map PyWqatco.whole)≤1000000∧PyWqatco.answers zs=PyFlat.told (PyFlat.played WqatcoNeutral.step [] (cs.map PyWqatco.whole)):=by
   unfold PyWqatco.answers_asked PyWqatco.calls at hask
   cases hc:PyFlat.calls PyWqatco.shape zs.length zs with
   |none=>rw[hc]at hask;cases hask
   |some cs=>
    rw[hc]at hask
    have hask:(PyFlat.atMost 400 (cs.map PyWqatco.whole)&&WqatcoNeutral.asked (cs.map PyWqatco.whole))=true:=hask
    simp only[PyFlat.atMost,WqatcoNeutral.asked,Bool.and_eq_true,decide_eq_true_eq]at hask
    obtain⟨h1,⟨⟨h2,h3⟩,h4⟩,h5⟩:=hask
    refine⟨cs,rfl,by simpa using h1,h2,h5,?_⟩
    unfold PyWqatco.answers PyWqatco.calls
    rw[hc]
    rfl
  have hU:=Pm.Gp (Pm.Hz (cs.map PyWqatco.whole)) hsum
  intro h dh hh0 hdh ndh
  have K0:Kp [] H (upd (upd H dh (.own h)) h (.ins ad.aP dh [])):=(Kp.new hdh).aX hh0
  refine⟨h,dh,rfl,aj,fun H1 hO1 KK1=>⟨rfl,fun c dc hc0 hdc ndc=>⟨c,dc,L,rfl,aj,⟨rfl,fun t ht=> ?_⟩⟩⟩⟩
  rw[aG]at ht ⊢
  have sqK:∀{Ha Hb:Hp},bW K Ha L (zv zs)→Kp [] Ha Hb→bW K Hb L (zv zs):=fun q KK=>q.imp (fun r=>r.imp (fun e=>KK _ _ e (by simp)) fun⟨o,e⟩=>⟨o,KK _ _ e (by simp)⟩) id
  have hL1:bW K H1 L (zv zs):=AK (sqK hL K0) (C:=ad.aP) (dx:=dh) (fs:=[]) aj KK1
  have K2:Kp [] H1 (upd (upd H1 dc (.own c)) c (.ins ad.aK dc (qY L 0))):=(Kp.new hdc).aX hc0
  have K3:Kp [] H1 (upd (upd (upd H1 dc (.own c)) c (.ins ad.aK dc (qY L 0))) t (.lst [])):=K2.trans (Kp.new ht)
  have ntc:t≠c:=fun z=>by rw[z,aj]at ht;cases ht
  have W0:SG K ad (upd (upd H1 dc (.own c)) c (.ins ad.aK dc (qY L 0))) (upd (upd (upd H1 dc (.own c)) c (.ins ad.aK dc (qY L 0))) t (.lst [])) h c t L dc zs (WqatcoNeutral.numbers (cs.map PyWqatco.whole)) 7400000 (PyWqatco.answers zs) 0 [] 0 [] cs zs.length:=
   ⟨hO1.BL K2,aj,sqK hL1 K2,ht,rfl,by rw[List.drop_zero];exact hcs,by rw[hres];rfl,hak,by show 0+_≤_;omega,by omega,by simp;omega,Nat.zero_le _,Nat.le_refl _⟩
  generalize hM:WqatcoNeutral.numbers (cs.map PyWqatco.whole)=M at W0
  refine⟨fun m σ H'=>∃(i:Nat)(ls:Lines)(n:Nat)(acc:List Int)(cs:List (List (List Int)))(f:Nat)(G:Hp)(u:Option V),σ=[some (.ref L),some (.ref h),some (.ref c),some (.ref t),u]∧m+i=zs.length∧SG K ad G H' h c t L dc zs M 7400000 (PyWqatco.answers zs) i ls n acc cs f,⟨zs.length,0,[],0,[],cs,zs.length,_,none,rfl,rfl,W0⟩,?_⟩
  rintro m σ H' ⟨i,ls,n,acc,cs,f,G,u,rfl,hm,W⟩
  walk_at "r1"
  walk_at "r2"
  have Kt:Kp [] G H':=by rw[W.td];exact Kp.new W.gt
  have hct:=Kt _ _ W.cl (by simp)
  refine⟨_,_,hct,by simp[qY,aB],c,dc,L,i,zs,rfl,hct,sqK W.nu Kt,by omega,_,rfl,?_⟩
  have hsz:sizeLine=16777216:=rfl
  by_cases hi:i<zs.length
  ·rw[if_pos (by simp;exact hi)]
   obtain⟨cc,j,cs',f',hA,hij,hjl,rfl,hpa⟩:=Hy hi W.pa
   have hwh:=KU hA
   have h9:=Pm.MO ls
   have hnum:=W.num
   have hco:=W.co
   have hlen:=W.len
   have hask:=W.ask
   have hre:=W.re
   rw[List.map_cons,hwh]at hnum hco hask hre
   rw[Pm.Er]at hnum
   rw[Pm.EI]at hco
   rw[List.all_cons,Bool.and_eq_true]at hask
   rw[List.length_cons]at hlen
   have hst:=GO ls hA
   have hsl:=Pm.LX ls cc
   refine⟨fun σ' H''=>∃(ls:Lines)(n:Nat)(acc:List Int)(G:Hp)(u:Option V),σ'=[some (.ref L),some (.ref h),some (.ref c),some (.ref t),u]∧SG K ad G H'' h c t L dc zs M 7400000 (PyWqatco.answers zs) j ls n acc cs' f',?_,?_⟩
   ·rintro σ' H'' ⟨ls,n,acc,G,u,rfl,W2⟩
    exact⟨zs.length - j,by omega,⟨u,rfl⟩,j,by omega,ls,n,acc,cs',f',G,W2⟩
   ·refine⟨t,zv acc,by rw[W.td,aj],?_⟩
    rw[W.td,OI W.gt]
    have htex:=W.S3
    have hrow:=N4 hA
    refine⟨h,c,dc,L,ls,n,zs,i,cc,j,rfl,W.ho,W.cl,W.nu,hz,hA,hask.1,by omega,by omega,by omega,fun p H1 n' hp hp1 hH1 hn' hc1 KD ht1=> ?_⟩
    generalize hou:WqatcoNeutral.step ls cc=o at*
    obtain⟨ls',out⟩:=o
    have npt:p≠t:=fun z=>by rw[z,ht1]at hp1;cases hp1
    have ht2:(upd H1 t (.lst (zv acc))) t=some (.lst (zv acc)):=aj
    have hp2:(upd H1 t (.lst (zv acc))) p=some (.lst (zv out)):=by rw[aq npt];exact hp1
    have lp:pJ K (.ref p) (upd H1 t (.lst (zv acc))) out.length:=by have:=dF (K:=K) hp2;have e:(zv out).length=out.length:=List.length_map _;rwa [e]at this
    have hsl:out.length≤(linesText ls).length+4201:=hsl
    have hst:(linesText ls').length≤(linesText ls).length+Pm.oN cc:=hst
    refine⟨.inl ⟨rfl,_,bW.of ht2⟩,_,lp,_,ht2,by simp[zv];omega,.inl ⟨rfl,_,bW.of aj⟩,p,rfl,_,by rw[aq npt];exact hp2,by simp[zv];omega,ls',n',acc++((out.length:Int)::out),H1,some (.ref p),rfl,?_⟩
    obtain⟨d0,l0,t0,B0,p0,hh0⟩:=W.ho.hold
    refine⟨hH1,hc1,LY W.nu hh0 W.cl KD,ht1,by rw[aG];simp[zv],hpa,?_,hask.2,by omega,?_,by simp;omega,hjl,by omega⟩
    ·rw[←hre]
     simp[PyFlat.played,PyFlat.told,hou]
    ·have hcost:cost ls cc≤66*((M / 9+1)*(if((cc.headD []).headD (-1)==7)=true then 1 else 0)):=by
      unfold cost
      split
      ·rw[Nat.mul_one]
       have:ls.length≤M / 9:=by omega
       omega
      ·omega
     rw[Nat.mul_add]at hco
     omega
  ·rw[if_neg (by simp;omega)]
   have hd:zs.drop i=[]:=List.drop_eq_nil_of_le (by omega)
   have hcs':cs=[]:=by
    have:=W.pa
    rw[hd]at this
    unfold PyFlat.calls at this
    cases this
    rfl
   have hre:=W.re
   rw[hcs']at hre
   have hre:acc=PyWqatco.answers zs:=by simpa[PyFlat.told,PyFlat.played]using hre
   exact k t H' (by rw[W.td,aj,hre])
end
end Tx
namespace Tx
open PySem PySem.Spec PyProof.Rows L2
theorem aI{K:PySem.W.Frag}{a:Addr}{d:Option Addr}{its:Array Value}{n:Nat}{sl:Array (Option Value)}{xs:List V}(l:K.lookup a=some ⟨.type "tuple",d,.seq its n,sl⟩)(hz:its.size≤1000)(v:Vals xs its.toList):∀H:Hp,sE K H a xs:=fun H=>.inr ⟨_,its,n,l,rfl,rfl,Nat.le_trans hz (by decide),v⟩
theorem l0{C:List Value→Prop}(k:C []):∀us:List Value,us.length=0→C us:=fun us h=>by
 cases us with
 |nil=>exact k
 |cons a us=>cases h
theorem lS{n:Nat}{C:List Value→Prop}(k:∀a us,us.length=n→C (a::us)):∀us:List Value,us.length=n+1→C us:=fun us h=>by
 cases us with
 |nil=>cases h
 |cons a us=>exact k a us (Nat.succ.inj h)
theorem l1{C:List Value→Prop}(k:∀a,C [a]):∀us:List Value,us.length=1→C us:=lS fun a=>l0 (k a)
theorem l2{C:List Value→Prop}(k:∀a b,C [a,b]):∀us:List Value,us.length=2→C us:=lS fun a=>lS fun b=>l0 (k a b)
theorem l3{C:List Value→Prop}(k:∀a b c,C [a,b,c]):∀us:List Value,us.length=3→C us:=lS fun a=>lS fun b=>lS fun c=>l0 (k a b c)
theorem l4{C:List Value→Prop}(k:∀a b c d,C [a,b,c,d]):∀us:List Value,us.length=4→C us:=lS fun a=>lS fun b=>lS fun c=>lS fun d=>l0 (k a b c d)
theorem l5{C:List Value→Prop}(k:∀a b c d e,C [a,b,c,d,e]):∀us:List Value,us.length=5→C us:=lS fun a=>lS fun b=>lS fun c=>lS fun d=>lS fun e=>l0 (k a b c d e)
theorem l6{C:List Value→Prop}(k:∀a b c d e f,C [a,b,c,d,e,f]):∀us:List Value,us.length=6→C us:=lS fun a=>lS fun b=>lS fun c=>lS fun d=>lS fun e=>lS fun f=>l0 (k a b c d e f)
theorem O2{K:PySem.W.Frag}{f:Addr}{o:Obj}(l:K.lookup f=some o)(c:o.cls= .type "function"):∃o,K.lookup f=some o∧o.cls= .type "function":=⟨o,l,c⟩
theorem aN{K:PySem.W.Frag}{h:Heap}{G:Prop}{x qual:Str}{st:Stmt}{f:Addr}{ps:List Str}{oc:Value}{od an:Option Addr}{osl:Array (Option Value)}{kV doc pm cdv ct:Value}(KX:K.In h)
  (l:K.lookup f=some ⟨oc,od,.func (PySem.W.fnOf x qual (vN st) (nS st) (aC st) .none kV doc pm an cdv ct),osl⟩) (c:PySem.W.codeIn K cdv qual=true) (k:PySem.W.keepIn K (.ref f)=true)
  (b:∀(kV doc pm:Value)(an:Option Addr)(cdv ct:Value)(us:List Value),us.length=ps.length→bindArgs (PySem.W.fnOf x qual (vN st) (nS st) (aC st) .none kV doc pm an cdv ct) ⟨us,[]⟩=pure (ps.zip us))
  (go:∀fd,iF K x qual st f fd→Binds K fd ps []→G):G:=go _ (M8 l c k) ((M8 l c k).binds b)
def SQ(K:PySem.W.Frag):Sp:=fun vs H Q _=>∃(L:Addr)(zs:List Int),vs=[.ref L]∧bW K H L (zv zs)∧zs.length≤31000∧PyWqatco.answers_asked zs=true∧∀p H',H' p=some (.lst (zv (PyWqatco.answers zs)))→Q (.ref p) H'
theorem all_mk{P:Program}{w:World}{K:PySem.W.Frag}{mg:Str→Option Value}{ad:Ad}{fa:Addr}(T:Txt K mg ad)(hfa:mg "answers"=some (.ref fa)):
  ∃fd:FuncData,(∀(s:Shared)(us:List Value),us.length=(["calls"]:List Str).length→BindsTo s fd ⟨us,[]⟩ ((["calls"]:List Str).zip us))∧∀base:Heap,K.In base→base.Ns mainGlobals mg→bA P w K mg base nj 11 fa fd ["calls"] (SQ K):=by
 have e:=hfa.symm.trans T.Dq
 cases e
 refine⟨ad.jD,?_,fun base _ _=>He T⟩
 obtain⟨_,_,kV,doc,pm,an,cdv,ct,_,e,_,_⟩:=T.sD.ex
 rw[e]
 exact fun s=>l1 fun _=>.of_eq rfl
end Tx
namespace PySem.W.Fast
def tw10027547620126826867:=0
def tw10041001629807456212:=0
def tw10049618109633808803:=0
def tw10067512370541305865:=0
def tw10107632802285001463:=0
def tw10132921479807499056:=0
def tw10150339389692767816:=0
def tw10163444313847149136:=0
def tw10171294997393316283:=0
def tw10179491114604157605:=0
def tw10184805253603270061:=0
def tw10195727555195751047:=0
def tw10235906059792389335:=0
def tw10269488781033557825:=0
def tw10314968852408008810:=0
def tw10353320178880926339:=0
def tw10354236597485251587:=0
def tw10372177592684584926:=0
def tw10372719027348874749:=0
def tw1037483604332315075:=0
def tw1039597660891772502:=0
def tw10426806497901810428:=0
def tw10449956024767832970:=0
def tw10498199035647703891:=0
def tw10521114076081701893:=0
def tw10529518121268347691:=0
def tw10544921612447832930:=0
def tw10571510757056631965:=0
def tw10586538291123591659:=0
def tw106027859643918643:=0
def tw10603468758751890350:=0
def tw10656277988649625533:=0
def tw10685742962600681729:=0
def tw10692972601730300450:=0
def tw10700388163377165899:=0
def tw10731672072641167890:=0
def tw10804994409428423213:=0
def tw10808673427989276675:=0
def tw10829887413656626711:=0
def tw10847120427145191667:=0
def tw10853339136083504865:=0
def tw10863723564837353021:=0
def tw1087899737961084555:=0
def tw10882288535332461453:=0
def tw10902113123611973693:=0
def tw10902352942378406148:=0
def tw10944387215267551616:=0
def tw10987870231295236222:=0
def tw11012965442909567292:=0
def tw11013837917950138075:=0
def tw11018240257628580240:=0
def tw11044290556586774464:=0
def tw11060578802445967653:=0
def tw11076500527953881776:=0
def tw11097644768367439555:=0
def tw11131757341897532045:=0
def tw11133022559648718025:=0
def tw11166154366860824691:=0
def tw11201489762377587791:=0
def tw11241429018194277743:=0
def tw11266737358392977716:=0
def tw1126850325964049991:=0
def tw11278993827424765784:=0
def tw11279015456476997795:=0
def tw11295891546828955993:=0
def tw11307713528579520998:=0
def tw11332825812461985667:=0
def tw1134154648202099668:=0
def tw11362153237131412235:=0
def tw11388520886167422817:=0
def tw11395179331665952413:=0
def tw11399182229568257095:=0
def tw11408044583464687335:=0
def tw11423145884899705025:=0
def tw11458793428842770709:=0
def tw11465597049625038972:=0
def tw11497832005705118111:=0
def tw11519272374622759725:=0
def tw11534425253597162960:=0
def tw11570115206431319504:=0
def tw11586906899324684810:=0
def tw11619379016495444493:=0
def tw1163801880346683874:=0
def tw11741787170882625223:=0
def tw11780721564378039946:=0
def tw11826074816001450752:=0
def tw11843027326180091405:=0
def tw11902466588596610909:=0
def tw11935038516084450497:=0
def tw11947024618691553138:=0
def tw1199916890333747938:=0
def tw1200768541085208944:=0
def tw12131753532276700126:=0
def tw12145582872655045389:=0
def tw121462209848613934:=0
def tw12171134229556333483:=0
def tw1221928826056423787:=0
def tw12248372691153833646:=0
def tw12262591321828499770:=0
def tw1227105932720469527:=0
def tw12310488429268152930:=0
def tw12349408756223462844:=0
def tw12364043268733830778:=0
def tw12372720918827488506:=0
def tw12433841265384878705:=0
def tw12447372224463490229:=0
def tw12473351182193330848:=0
def tw12504366480669858330:=0
def tw12519618245679300186:=0
def tw12540246319971598846:=0
def tw12565638784878331383:=0
def tw12573486312676447308:=0
def tw12616950303555604840:=0
def tw12754266553377222627:=0
def tw12802493435707182404:=0
def tw12822276707843211630:=0
def tw12836228782316736201:=0
def tw12890580574372853582:=0
def tw1289848822222113209:=0
def tw12900769479983042204:=0
def tw12924169130308407582:=0
def tw12937071333640137848:=0
def tw13019343440410204492:=0
def tw13043375636875684440:=0
def tw13100133655940876340:=0
def tw13145705986885929824:=0
def tw13158095073514362614:=0
def tw13222871230288230376:=0
def tw13297294238003338087:=0
def tw13311133438945916998:=0
def tw13347099846963109561:=0
def tw13347960690244899572:=0
def tw13358822925759914141:=0
def tw13362036711411494937:=0
def tw13377245142680831732:=0
def tw13387730456317742712:=0
def tw13437806512416981143:=0
def tw13449534968132693641:=0
def tw13507496533235743741:=0
def tw13547060532736014611:=0
def tw1355299768852042058:=0
def tw13558714637560887988:=0
def tw13575613166535018153:=0
def tw13576937753452881347:=0
def tw1360792988969880281:=0
def tw13636381744360304843:=0
def tw13650065993039599344:=0
def tw13652425587031333608:=0
def tw13695953581051502428:=0
def tw13697252403805889563:=0
def tw13711206837197231996:=0
def tw13716048927645119314:=0
def tw13741083795113471317:=0
def tw13795220417063213102:=0
def tw13831874602355304502:=0
def tw13892305671340328433:=0
def tw13900112234527053073:=0
def tw13971344075989526569:=0
def tw14030314792286333101:=0
def tw14104176121116416256:=0
def tw14110792741507182012:=0
def tw14116198322874261965:=0
def tw14139838627012489042:=0
def tw14153182548080324386:=0
def tw14173585361318844026:=0
def tw14200046194931172855:=0
def tw14219770251444356723:=0
def tw14233468891902082738:=0
def tw14237479455806657941:=0
def tw1426669449500204549:=0
def tw14363531032901699336:=0
def tw14406015686957673866:=0
def tw14427884717686772796:=0
def tw14428878215978066652:=0
def tw14429848590100651212:=0
def tw14464419596652460474:=0
def tw14475588329928636836:=0
def tw14516567708524062344:=0
def tw14554753469147808786:=0
def tw14559039382814783040:=0
def tw14573877740428359802:=0
def tw14574824480847933362:=0
def tw14619101138822372780:=0
def tw14647998124822822101:=0
def tw14698141610665797733:=0
def tw14703820307255506263:=0
def tw14757994979712317884:=0
def tw14856693955338505250:=0
def tw148602503285939549:=0
def tw14892827328268618138:=0
def tw14915283891477781525:=0
def tw14984076100421401167:=0
def tw15003135491368146002:=0
def tw1502985866361686183:=0
def tw15040237981494506753:=0
def tw15045574657496107873:=0
def tw1514368826055883943:=0
def tw15168017696727242237:=0
def tw15170604890546791938:=0
def tw15177128623178269850:=0
def tw1520207718070561806:=0
def tw15212169875415568866:=0
def tw15248246482868830796:=0
def tw15261292536853724829:=0
def tw15281326696762953197:=0
def tw15282187698665322226:=0
def tw15331593768121443036:=0
def tw15395605924369174011:=0
def tw15453705470931745430:=0
def tw15482900259112491806:=0
def tw15490872624806843474:=0
def tw15558664784786988320:=0
def tw15569451334476364584:=0
def tw15572254705592487642:=0
def tw15606637935388818453:=0
def tw15673630757149356763:=0
def tw15689642735705407208:=0
def tw15700502097221046773:=0
def tw15746496439424123271:=0
def tw15755333754472473861:=0
def tw15762380661358316670:=0
def tw15767472214839018720:=0
def tw15771717519210824719:=0
def tw15828410452372923025:=0
def tw15858829390680146551:=0
def tw1585976384149868331:=0
def tw15874403528866866658:=0
def tw15876413632122583235:=0
def tw15945701587238231272:=0
def tw159653059080477681:=0
def tw16008078922549623965:=0
def tw16034659224556622579:=0
def tw16037467215836834684:=0
def tw16049944364740015873:=0
def tw16079562494990853336:=0
def tw16110613613712124638:=0
def tw16158643797590264165:=0
def tw16182221264101287877:=0
def tw16185518874733374332:=0
def tw16203635759455516757:=0
def tw16216165877170117545:=0
def tw16222420042190329099:=0
def tw16236540734779880167:=0
def tw16269417012129084073:=0
def tw16308024858485564301:=0
def tw16317024075640413164:=0
def tw16333439701071625731:=0
def tw16335264910171496354:=0
def tw16342868582300913809:=0
def tw16442615320629153469:=0
def tw16482926334059919633:=0
def tw16504194409372832160:=0
def tw16532533736407351276:=0
def tw16542919591827901481:=0
def tw16580348336500941972:=0
def tw16604672479961383729:=0
def tw16615176059068005639:=0
def tw16666958894779798623:=0
def tw1670055289907543495:=0
def tw16701237582676087736:=0
def tw16751531912072279274:=0
def tw1676798647868415717:=0
def tw16786217528572518667:=0
def tw16787398149130539636:=0
def tw1685375648180962304:=0
def tw16894453410009350735:=0
def tw1691933087501214775:=0
def tw16978273949835778152:=0
def tw17016057928905965345:=0
def tw17025450532348399499:=0
def tw1707876170736477559:=0
def tw17101683428538515830:=0
def tw17129811801656222376:=0
def tw17155198405305507765:=0
def tw1717157290623274889:=0
def tw17217452510814944818:=0
def tw17222696126337233395:=0
def tw17231534451187753645:=0
def tw17245819074268049582:=0
def tw17274969678249542416:=0
def tw17295672951441342427:=0
def tw1730062250593876017:=0
def tw17301872229135641360:=0
def tw17336379845282708818:=0
def tw17401533878600626226:=0
def tw17424898287326646019:=0
def tw17486367808890215808:=0
def tw17488653694966910518:=0
def tw17543447838915924206:=0
def tw17579114544850747219:=0
def tw17652888323796858995:=0
def tw17681771926121432239:=0
def tw17746707162753270522:=0
def tw17797714244179847889:=0
def tw17822553976868298127:=0
def tw17840548305260525200:=0
def tw17847163531306910500:=0
def tw17849085695771432881:=0
def tw17853550280614103772:=0
def tw17857777861359928614:=0
def tw17857815468683069845:=0
def tw17929650522702111330:=0
def tw17953547052583593854:=0
def tw17956873955888675730:=0
def tw17964593746254719343:=0
def tw17994502570281229236:=0
def tw17997334478294460483:=0
def tw18075330593222486613:=0
def tw18076245513501111841:=0
def tw18102980488120243443:=0
def tw18109775386319091612:=0
def tw1819519157063466343:=0
def tw18241466988189910297:=0
def tw18241566963988131836:=0
def tw18276018243196943368:=0
def tw18301013079697149736:=0
def tw18347605523032054925:=0
def tw1836874412298361130:=0
def tw1841369022119536115:=0
def tw1851730795930155596:=0
def tw189032199639100154:=0
def tw19767351584856984:=0
def tw2042051935155083365:=0
def tw2049058615898807793:=0
def tw2059327684210099964:=0
def tw2101465984561592616:=0
def tw2110539476421434360:=0
def tw2120873436544239044:=0
def tw2124107465571340791:=0
def tw2124900730411659909:=0
def tw2142497286591788134:=0
def tw216900254017357836:=0
def tw2169780693151385348:=0
def tw2176542205263598270:=0
def tw2237689723146151645:=0
def tw2307636184896481201:=0
def tw2315300486950352389:=0
def tw2357814639661277614:=0
def tw2390375905465123282:=0
def tw242539964146073798:=0
def tw2434748605975252032:=0
def tw246045975643332071:=0
def tw246989881686076665:=0
def tw2482815709818232868:=0
def tw254548936692822801:=0
def tw2554859946094950917:=0
def tw2593804788713430907:=0
def tw2596910250730338007:=0
def tw2599792196736281390:=0
def tw2608283011162156067:=0
def tw2609392211479266559:=0
def tw2651865223104471380:=0
def tw2672338050839034676:=0
def tw2706648898496807435:=0
def tw272055605539191122:=0
def tw2746102264943709013:=0
def tw2767136906628447761:=0
def tw2767542825354658313:=0
def tw2784317969911798048:=0
def tw2801994613464350444:=0
def tw2809923912309390696:=0
def tw2832952435734199863:=0
def tw2849281945551823955:=0
def tw2884567926866923276:=0
def tw2886836442183933652:=0
def tw2917897842531204600:=0
def tw2924231839010411819:=0
def tw2925915437740645548:=0
def tw2975026688479029854:=0
def tw2984726538749936831:=0
def tw2994776794614180420:=0
def tw3005332035614880337:=0
def tw3020867772494407160:=0
def tw3029865400140147246:=0
def tw3035407368156453762:=0
def tw3042875592430162037:=0
def tw3063318722303073053:=0
def tw3082646042750419793:=0
def tw3084120949913556848:=0
def tw3123966426440042382:=0
def tw3132216722573527993:=0
def tw3172790276064654038:=0
def tw3178952817744859415:=0
def tw3179305945165653660:=0
def tw3215781427769435208:=0
def tw323459324673482151:=0
def tw3249082795403980750:=0
def tw3255037372662740501:=0
def tw3286350639658336146:=0
def tw3319462830257682326:=0
def tw3327689888677597803:=0
def tw3346318132817706209:=0
def tw3365939460623800756:=0
def tw3370046963689221388:=0
def tw337177022064121366:=0
def tw3388385853314262146:=0
def tw3431548055854354701:=0
def tw3444397591406456646:=0
def tw3445065837633616794:=0
def tw3534633079538435044:=0
def tw3572076549270549000:=0
def tw3579530646130304513:=0
def tw3612113708164010592:=0
def tw3635359507682075785:=0
def tw3654405191423389328:=0
def tw3703850114446222670:=0
def tw3706894790016470481:=0
def tw3723036189043019844:=0
def tw3736366298282533451:=0
def tw3835004918183436030:=0
def tw3873069538843807632:=0
def tw3883308700019245988:=0
def tw3890931433838855975:=0
def tw3912501429319750970:=0
def tw3935855116083359970:=0
def tw395647154463281461:=0
def tw3958224234749540019:=0
def tw3970837242247919878:=0
def tw3979279303621945782:=0
def tw4016109107202325812:=0
def tw4018049425890445518:=0
def tw4042028987501974440:=0
def tw4079589928190571793:=0
def tw4112146908720995888:=0
def tw4122451990829028648:=0
def tw4139962051358139556:=0
def tw4165066534396040407:=0
def tw4193181520900653682:=0
def tw425507655488347394:=0
def tw4289162657446728271:=0
def tw4316348959242042004:=0
def tw432461353016610152:=0
def tw4380872714052087414:=0
def tw4382249825388362570:=0
def tw439746125942887160:=0
def tw4399097540094141697:=0
def tw4400686499918304157:=0
def tw4487681095625825215:=0
def tw451967602798756765:=0
def tw4648434660880605220:=0
def tw4650853759450387297:=0
def tw4657236808214518268:=0
def tw4664078577496087292:=0
def tw4691567179291034957:=0
def tw4692847010120893117:=0
def tw477252837820877183:=0
def tw4832903835823288044:=0
def tw4837598133589503767:=0
def tw4845793659608541739:=0
def tw4853115930493844510:=0
def tw4876442247241104509:=0
def tw4896482035590324636:=0
def tw4926524263844809733:=0
def tw4954526934465728012:=0
def tw4995176598580609654:=0
def tw5002832886928082703:=0
def tw5018241548185515346:=0
def tw5073061764837708527:=0
def tw5095667477250627843:=0
def tw5110104595391080168:=0
def tw5114237900228730795:=0
def tw5120355155265602524:=0
def tw5175224539175955651:=0
def tw5189329740197264437:=0
def tw519023816315055541:=0
def tw5204946234616314753:=0
def tw5218389610109305079:=0
def tw5224228917274304366:=0
def tw5244313928666629889:=0
def tw5290624543127812644:=0
def tw5308405555996075030:=0
def tw5320647991418006790:=0
def tw5398808075960336364:=0
def tw5443243491666194128:=0
def tw545731517406414317:=0
def tw5463752644765471617:=0
def tw5473682732414650047:=0
def tw548981082306527644:=0
def tw5494955419356666993:=0
def tw5540804531796079859:=0
def tw5584046873732664865:=0
def tw5599578438932815414:=0
def tw5600008986211989598:=0
def tw5600995006992579348:=0
def tw5627111760843660957:=0
def tw5647596982223425858:=0
def tw5653207580040524576:=0
def tw5662894605754755461:=0
def tw5683049939004802684:=0
def tw5701651181886401700:=0
def tw5751148618161991712:=0
def tw5763524882066853646:=0
def tw5815011143085267446:=0
def tw5841894251466554549:=0
def tw5872112663769029431:=0
def tw5894558013491375571:=0
def tw5936845233328082692:=0
def tw5954939262407998696:=0
def tw5970117424748047478:=0
def tw6013214460426822286:=0
def tw6013709031651267494:=0
def tw6028180715802370319:=0
def tw6038498176001742305:=0
def tw6039141004434611642:=0
def tw6042670875207551360:=0
def tw6048728445851937570:=0
def tw6075284016467330493:=0
def tw6108619483984727149:=0
def tw6139166246976653944:=0
def tw6216732930553736015:=0
def tw622474200830157033:=0
def tw6226213376610186027:=0
def tw622651122277215565:=0
def tw6228964103876869265:=0
def tw6248123912732906410:=0
def tw6298422217123011852:=0
def tw6306276388660481673:=0
def tw6358137967165095487:=0
def tw6383315424256154279:=0
def tw6391894583907436839:=0
def tw6402680512245508181:=0
def tw6483401478973324265:=0
def tw6486618127164095407:=0
def tw6517657879597815594:=0
def tw6559376243528673406:=0
def tw6566387455079920059:=0
def tw6568748649881247850:=0
def tw6575476623747914930:=0
def tw6610315944608048121:=0
def tw6661436630224120968:=0
def tw6663603566412467692:=0
def tw6682953614019864593:=0
def tw6685936612118476252:=0
def tw6716582341600656247:=0
def tw6730196060589335036:=0
def tw681071007774864208:=0
def tw6851922404839859130:=0
def tw6871352420874566576:=0
def tw6875455735905793062:=0
def tw6944005698945010799:=0
def tw6957456521310912547:=0
def tw6979048664838561750:=0
def tw7015966330550974898:=0
def tw7021244805071212315:=0
def tw7022126863466504556:=0
def tw7041665816760075529:=0
def tw707432953369767423:=0
def tw7075474436110201017:=0
def tw7102761321191039356:=0
def tw7105525835172783440:=0
def tw7140387551233177070:=0
def tw7152678402770945275:=0
def tw7168578509838854306:=0
def tw7217909972602718027:=0
def tw726478118344344051:=0
def tw7282718942066822172:=0
def tw7306032456527237091:=0
def tw7327022753973742919:=0
def tw7371262653571066518:=0
def tw7386918439651694849:=0
def tw7418796034460278542:=0
def tw745081538906557577:=0
def tw7460992517959618000:=0
def tw752410963449873482:=0
def tw7575183613351925755:=0
def tw7615055273384798427:=0
def tw7615741623062931631:=0
def tw7648750519154579796:=0
def tw7654436087653726110:=0
def tw7665211229709115373:=0
def tw7673160597431196489:=0
def tw7682607146980338309:=0
def tw7706988580853025412:=0
def tw7734218650446493747:=0
def tw7738439528136003812:=0
def tw7750886990431257733:=0
def tw7767990106545480221:=0
def tw7768951325399939923:=0
def tw7842488019246371278:=0
def tw7844896132794066959:=0
def tw7912412864659806965:=0
def tw7925891634148873574:=0
def tw7926830068178324458:=0
def tw7999647223822882850:=0
def tw8009775045936486241:=0
def tw8027774012390684913:=0
def tw8064319196103872504:=0
def tw8070388245711224762:=0
def tw8121150771390794936:=0
def tw8122533679035574831:=0
def tw814612454141385002:=0
def tw8160887142012640907:=0
def tw8164617396518777535:=0
def tw8235476326099056169:=0
def tw8238800566373270528:=0
def tw8380432406752950424:=0
def tw8433562156869425485:=0
def tw8519455867475938844:=0
def tw8573485901353923590:=0
def tw8583860298724103055:=0
def tw8596242138276992744:=0
def tw8676131827732835791:=0
def tw8757000886664149793:=0
def tw8760875263757737159:=0
def tw8807866282529896668:=0
def tw8826080620086350173:=0
def tw8855892214770398836:=0
def tw8882623179412730419:=0
def tw8910339854715486859:=0
def tw8981284539010957340:=0
def tw9021536045456138260:=0
def tw9039629388923369603:=0
def tw9046567530030080243:=0
def tw9055784048465641013:=0
def tw9069080509885057995:=0
def tw90777377195428202:=0
def tw9118540883323689568:=0
def tw9132374180012341883:=0
def tw917335386281007449:=0
def tw9177394701635219731:=0
def tw9185596716333548511:=0
def tw9194973047317556645:=0
def tw9239631605867199164:=0
def tw9276325765591104868:=0
def tw9297302649591651093:=0
def tw9311579887249594307:=0
def tw9343381453606551745:=0
def tw9346147638653030915:=0
def tw9346933223355745474:=0
def tw9380684734514740995:=0
def tw9425141583707002361:=0
def tw9450267982028612992:=0
def tw9473200389248999132:=0
def tw9487315004215686929:=0
def tw9577941180434333389:=0
def tw9621997429723624466:=0
def tw9669505279037993437:=0
def tw9687712028213048656:=0
def tw9771755195006523640:=0
def tw9812257118136581574:=0
def tw9831561021844684716:=0
def tw9831898838693381069:=0
def tw9837994267447855090:=0
def tw9857468914354181392:=0
def tw9886482366025888049:=0
def tw9913610782670935665:=0
def tw995700976750301722:=0
def tw9959229489507353391:=0
def tw9966376112987476263:=0
end PySem.W.Fast
open PySem PySem.W PyProof.Rows
local macro_rules | `(tactic|walk_at "r3")=>`(tactic|first |k_is |(dsimp only;k_is))
set_option maxRecDepth 100000 in
set_option maxHeartbeats 0 in
theorem PySem.Challenge.cw_mailmoves_s01_answers_holds : PySem.Challenge.rw_mailmoves_s01_answers.Holds := by
 w_on;k_headS;(case hw=>exact⟨[.list [.int 2]],by decide +kernel,by decide +kernel⟩)
 k_fillS
 refine L2.GC (r:=PySem.Challenge.rw_mailmoves_s01_answers) (k:=11) (CX:=L2.nj) (ps:=["calls"]) (sp:=Tx.SQ) (by decide +kernel) rfl rfl ⟨rfl,by decide,by decide⟩ (fun w h Y=>PySem.W.kIn_of Y) ?F ?S (fun _ _ _ _ z=>z)
 case F=>
  intro w mg fa h Y KX G hmg
  refine' Tx.aN (x:="letter_of") (qual:="letter_of") (st:=Tx.uH) (f:=21) (ps:=["byte"]) KX ?l ?c ?k ?b ?_;(case l=>k_is);(case c=>k_is);(case k=>k_is);(case b=>exact fun _ _ _ _ _ _=>Tx.l1 fun _=>rfl)
  intro iN jK mQ
  refine' Tx.aN (x:="__init__") (qual:="Line.__init__") (st:=Tx.uJ) (f:=49) (ps:=["self","kind","point"]) KX ?l ?c ?k ?b ?_;(case l=>k_is);(case c=>k_is);(case k=>k_is);(case b=>exact fun _ _ _ _ _ _=>Tx.l3 fun _ _ _=>rfl)
  intro iP qy qu
  refine' Tx.aN (x:="__init__") (qual:="Pieces.__init__") (st:=Tx.qL) (f:=70) (ps:=["self","pieces"]) KX ?l ?c ?k ?b ?_;(case l=>k_is);(case c=>k_is);(case k=>k_is);(case b=>exact fun _ _ _ _ _ _=>Tx.l2 fun _ _=>rfl)
  intro fR lY lO
  refine' Tx.aN (x:="at_end") (qual:="Pieces.at_end") (st:=Tx.mY) (f:=77) (ps:=["self"]) KX ?l ?c ?k ?b ?_;(case l=>k_is);(case c=>k_is);(case k=>k_is);(case b=>exact fun _ _ _ _ _ _=>Tx.l1 fun _=>rfl)
  intro dN jw eT
  refine' Tx.aN (x:="step") (qual:="Pieces.step") (st:=Tx.qI) (f:=84) (ps:=["self"]) KX ?l ?c ?k ?b ?_;(case l=>k_is);(case c=>k_is);(case k=>k_is);(case b=>exact fun _ _ _ _ _ _=>Tx.l1 fun _=>rfl)
  intro fO lV dJ
  refine' Tx.aN (x:="skip") (qual:="Pieces.skip") (st:=Tx.qJ) (f:=91) (ps:=["self","word"]) KX ?l ?c ?k ?b ?_;(case l=>k_is);(case c=>k_is);(case k=>k_is);(case b=>exact fun _ _ _ _ _ _=>Tx.l2 fun _ _=>rfl)
  intro fP lW gM
  refine' Tx.aN (x:="rest") (qual:="Pieces.rest") (st:=Tx.qK) (f:=98) (ps:=["self"]) KX ?l ?c ?k ?b ?_;(case l=>k_is);(case c=>k_is);(case k=>k_is);(case b=>exact fun _ _ _ _ _ _=>Tx.l1 fun _=>rfl)
  intro fQ lX lN
  refine' Tx.aN (x:="checked_letter") (qual:="checked_letter") (st:=Tx.kL) (f:=112) (ps:=["byte"]) KX ?l ?c ?k ?b ?_;(case l=>k_is);(case c=>k_is);(case k=>k_is);(case b=>exact fun _ _ _ _ _ _=>Tx.l1 fun _=>rfl)
  intro cY f6 iV
  refine' Tx.aN (x:="closed_piece") (qual:="closed_piece") (st:=Tx.oH) (f:=119) (ps:=["letters"]) KX ?l ?c ?k ?b ?_;(case l=>k_is);(case c=>k_is);(case k=>k_is);(case b=>exact fun _ _ _ _ _ _=>Tx.l1 fun _=>rfl)
  intro eJ fZ iB
  refine' Tx.aN (x:="pieces_of") (qual:="pieces_of") (st:=Tx.uF) (f:=126) (ps:=["row"]) KX ?l ?c ?k ?b ?_;(case l=>k_is);(case c=>k_is);(case k=>k_is);(case b=>exact fun _ _ _ _ _ _=>Tx.l1 fun _=>rfl)
  intro iL mV qm
  refine' Tx.aN (x:="number_of") (qual:="number_of") (st:=Tx.uG) (f:=133) (ps:=["piece","most"]) KX ?l ?c ?k ?b ?_;(case l=>k_is);(case c=>k_is);(case k=>k_is);(case b=>exact fun _ _ _ _ _ _=>Tx.l2 fun _ _=>rfl)
  intro iM gb iA
  refine' Tx.aN (x:="read_target") (qual:="read_target") (st:=Tx.qG) (f:=140) (ps:=["pieces","point"]) KX ?l ?c ?k ?b ?_;(case l=>k_is);(case c=>k_is);(case k=>k_is);(case b=>exact fun _ _ _ _ _ _=>Tx.l2 fun _ _=>rfl)
  intro fM ji lL
  refine' Tx.aN (x:="read_end_day") (qual:="read_end_day") (st:=Tx.oG) (f:=147) (ps:=["pieces","kind","first_day"]) KX ?l ?c ?k ?b ?_;(case l=>k_is);(case c=>k_is);(case k=>k_is);(case b=>exact fun _ _ _ _ _ _=>Tx.l3 fun _ _ _=>rfl)
  intro eI iD j3
  refine' Tx.aN (x:="read_words") (qual:="read_words") (st:=Tx.nL) (f:=152) (ps:=["pieces"]) KX ?l ?c ?k ?b ?_;(case l=>k_is);(case c=>k_is);(case k=>k_is);(case b=>exact fun _ _ _ _ _ _=>Tx.l1 fun _=>rfl)
  intro gK j7 nW
  refine' Tx.aN (x:="read_line") (qual:="read_line") (st:=Tx.uE) (f:=159) (ps:=["row"]) KX ?l ?c ?k ?b ?_;(case l=>k_is);(case c=>k_is);(case k=>k_is);(case b=>exact fun _ _ _ _ _ _=>Tx.l1 fun _=>rfl)
  intro iK mU ql
  refine' Tx.aN (x:="is_wide") (qual:="is_wide") (st:=Tx.yT) (f:=240) (ps:=["number"]) KX ?l ?c ?k ?b ?_;(case l=>k_is);(case c=>k_is);(case k=>k_is);(case b=>exact fun _ _ _ _ _ _=>Tx.l1 fun _=>rfl)
  intro kP sA vP
  refine' Tx.aN (x:="fellow_of") (qual:="fellow_of") (st:=Tx.uI) (f:=247) (ps:=["character"]) KX ?l ?c ?k ?b ?_;(case l=>k_is);(case c=>k_is);(case k=>k_is);(case b=>exact fun _ _ _ _ _ _=>Tx.l1 fun _=>rfl)
  intro iO mW qt
  refine' Tx.aN (x:="letters_of") (qual:="letters_of") (st:=Tx.sN) (f:=254) (ps:=["character"]) KX ?l ?c ?k ?b ?_;(case l=>k_is);(case c=>k_is);(case k=>k_is);(case b=>exact fun _ _ _ _ _ _=>Tx.l1 fun _=>rfl)
  intro gL j8 nX
  refine' Tx.aN (x:="vanishes") (qual:="vanishes") (st:=Tx.sM) (f:=259) (ps:=["character"]) KX ?l ?c ?k ?b ?_;(case l=>k_is);(case c=>k_is);(case k=>k_is);(case b=>exact fun _ _ _ _ _ _=>Tx.l1 fun _=>rfl)
  intro jI pH tE
  refine' Tx.aN (x:="lines_of_words") (qual:="lines_of_words") (st:=Tx.kK) (f:=266) (ps:=["characters"]) KX ?l ?c ?k ?b ?_;(case l=>k_is);(case c=>k_is);(case k=>k_is);(case b=>exact fun _ _ _ _ _ _=>Tx.l1 fun _=>rfl)
  intro cX fY iU
  refine' Tx.aN (x:="__init__") (qual:="NotWide.__init__") (st:=Tx.oJ) (f:=293) (ps:=["self","place"]) KX ?l ?c ?k ?b ?_;(case l=>k_is);(case c=>k_is);(case k=>k_is);(case b=>exact fun _ _ _ _ _ _=>Tx.l2 fun _ _=>rfl)
  intro eK j9 j4
  refine' Tx.aN (x:="check_characters") (qual:="check_characters") (st:=Tx.jB) (f:=332) (ps:=["name"]) KX ?l ?c ?k ?b ?_;(case l=>k_is);(case c=>k_is);(case k=>k_is);(case b=>exact fun _ _ _ _ _ _=>Tx.l1 fun _=>rfl)
  intro cA d6 gE
  refine' Tx.aN (x:="words_of") (qual:="words_of") (st:=Tx.sL) (f:=337) (ps:=["name"]) KX ?l ?c ?k ?b ?_;(case l=>k_is);(case c=>k_is);(case k=>k_is);(case b=>exact fun _ _ _ _ _ _=>Tx.l1 fun _=>rfl)
  intro jH pF tD
  refine' Tx.aN (x:="check_point_and_day") (qual:="check_point_and_day") (st:=Tx.gN) (f:=344) (ps:=["point","day"]) KX ?l ?c ?k ?b ?_;(case l=>k_is);(case c=>k_is);(case k=>k_is);(case b=>exact fun _ _ _ _ _ _=>Tx.l2 fun _ _=>rfl)
  intro bL bQ cF
  refine' Tx.aN (x:="person_of_letter") (qual:="person_of_letter") (st:=Tx.jA) (f:=351) (ps:=["point","day","name"]) KX ?l ?c ?k ?b ?_;(case l=>k_is);(case c=>k_is);(case k=>k_is);(case b=>exact fun _ _ _ _ _ _=>Tx.l3 fun _ _ _=>rfl)
  intro cu d4 gD
  refine' Tx.aN (x:="is_for") (qual:="is_for") (st:=Tx.Be) (f:=358) (ps:=["line","person"]) KX ?l ?c ?k ?b ?_;(case l=>k_is);(case c=>k_is);(case k=>k_is);(case b=>exact fun _ _ _ _ _ _=>Tx.l2 fun _ _=>rfl)
  intro nZ vq yC
  refine' Tx.aN (x:="__init__") (qual:="TextFault.__init__") (st:=Tx.kM) (f:=372) (ps:=["self","line_number","why"]) KX ?l ?c ?k ?b ?_;(case l=>k_is);(case c=>k_is);(case k=>k_is);(case b=>exact fun _ _ _ _ _ _=>Tx.l3 fun _ _ _=>rfl)
  intro cZ iW dR
  refine' Tx.aN (x:="read_numbered") (qual:="read_numbered") (st:=Tx.gG) (f:=385) (ps:=["row","line_number"]) KX ?l ?c ?k ?b ?_;(case l=>k_is);(case c=>k_is);(case k=>k_is);(case b=>exact fun _ _ _ _ _ _=>Tx.l2 fun _ _=>rfl)
  intro dM gI jr
  refine' Tx.aN (x:="read_text") (qual:="read_text") (st:=Tx.uD) (f:=392) (ps:=["text","lines_ahead"]) KX ?l ?c ?k ?b ?_;(case l=>k_is);(case c=>k_is);(case k=>k_is);(case b=>exact fun _ _ _ _ _ _=>Tx.l2 fun _ _=>rfl)
  intro iJ mS qj
  refine' Tx.aN (x:="rank") (qual:="rank") (st:=Tx.GY) (f:=399) (ps:=["line"]) KX ?l ?c ?k ?b ?_;(case l=>k_is);(case c=>k_is);(case k=>k_is);(case b=>exact fun _ _ _ _ _ _=>Tx.l1 fun _=>rfl)
  intro vJ EY EL
  refine' Tx.aN (x:="ranked_by_point") (qual:="ranked_by_point") (st:=Tx.jN) (f:=406) (ps:=["lines"]) KX ?l ?c ?k ?b ?_;(case l=>k_is);(case c=>k_is);(case k=>k_is);(case b=>exact fun _ _ _ _ _ _=>Tx.l1 fun _=>rfl)
  intro cJ fA gW
  refine' Tx.aN (x:="is_in_force") (qual:="is_in_force") (st:=Tx.qH) (f:=413) (ps:=["line","day"]) KX ?l ?c ?k ?b ?_;(case l=>k_is);(case c=>k_is);(case k=>k_is);(case b=>exact fun _ _ _ _ _ _=>Tx.l2 fun _ _=>rfl)
  intro fN jj lM
  refine' Tx.aN (x:="__init__") (qual:="PersonLines.__init__") (st:=Tx.jC) (f:=427) (ps:=["self","by_point","person"]) KX ?l ?c ?k ?b ?_;(case l=>k_is);(case c=>k_is);(case k=>k_is);(case b=>exact fun _ _ _ _ _ _=>Tx.l3 fun _ _ _=>rfl)
  intro cB gF dZ
  refine' Tx.aN (x:="own_lines") (qual:="PersonLines.own_lines") (st:=Tx.cU) (f:=432) (ps:=["self","point"]) KX ?l ?c ?k ?b ?_;(case l=>k_is);(case c=>k_is);(case k=>k_is);(case b=>exact fun _ _ _ _ _ _=>Tx.l2 fun _ _=>rfl)
  intro bE c7 c6
  refine' Tx.aN (x:="search") (qual:="PersonLines.search") (st:=Tx.hZ) (f:=439) (ps:=["self","point","day"]) KX ?l ?c ?k ?b ?_;(case l=>k_is);(case c=>k_is);(case k=>k_is);(case b=>exact fun _ _ _ _ _ _=>Tx.l3 fun _ _ _=>rfl)
  intro bO fB fu
  refine' Tx.aN (x:="counting") (qual:="PersonLines.counting") (st:=Tx.gj) (f:=446) (ps:=["self","point","day"]) KX ?l ?c ?k ?b ?_;(case l=>k_is);(case c=>k_is);(case k=>k_is);(case b=>exact fun _ _ _ _ _ _=>Tx.l3 fun _ _ _=>rfl)
  intro bH dH b8
  refine' Tx.aN (x:="__init__") (qual:="Way.__init__") (st:=Tx.wI) (f:=467) (ps:=["self","how","point","day","lines","last"]) KX ?l ?c ?k ?b ?_;(case l=>k_is);(case c=>k_is);(case k=>k_is);(case b=>exact fun _ _ _ _ _ _=>Tx.l6 fun _ _ _ _ _ _=>rfl)
  intro jJ tM tF
  refine' Tx.aN (x:="end_at") (qual:="end_at") (st:=Tx.Bf) (f:=481) (ps:=["line","may","been_there","steps"]) KX ?l ?c ?k ?b ?_;(case l=>k_is);(case c=>k_is);(case k=>k_is);(case b=>exact fun _ _ _ _ _ _=>Tx.l4 fun _ _ _ _=>rfl)
  intro n0 vA yD
  refine' Tx.aN (x:="way_of") (qual:="way_of") (st:=Tx.Bd) (f:=488) (ps:=["person_lines","point","day","may"]) KX ?l ?c ?k ?b ?_;(case l=>k_is);(case c=>k_is);(case k=>k_is);(case b=>exact fun _ _ _ _ _ _=>Tx.l4 fun _ _ _ _=>rfl)
  intro nY pG rZ
  refine' Tx.aN (x:="is_told") (qual:="is_told") (st:=Tx.vE) (f:=493) (ps:=["way"]) KX ?l ?c ?k ?b ?_;(case l=>k_is);(case c=>k_is);(case k=>k_is);(case b=>exact fun _ _ _ _ _ _=>Tx.l1 fun _=>rfl)
  intro kQ sC vQ
  refine' Tx.aN (x:="starts_into") (qual:="starts_into") (st:=Tx.qF) (f:=500) (ps:=["person_lines","point","day"]) KX ?l ?c ?k ?b ?_;(case l=>k_is);(case c=>k_is);(case k=>k_is);(case b=>exact fun _ _ _ _ _ _=>Tx.l3 fun _ _ _=>rfl)
  intro fL jh lK
  refine' Tx.aN (x:="__init__") (qual:="Holder.__init__") (st:=Tx.qQ) (f:=514) (ps:=["self"]) KX ?l ?c ?k ?b ?_;(case l=>k_is);(case c=>k_is);(case k=>k_is);(case b=>exact fun _ _ _ _ _ _=>Tx.l1 fun _=>rfl)
  intro fW mB lU
  refine' Tx.aN (x:="hold") (qual:="Holder.hold") (st:=Tx.qR) (f:=521) (ps:=["self","lines","lines_text"]) KX ?l ?c ?k ?b ?_;(case l=>k_is);(case c=>k_is);(case k=>k_is);(case b=>exact fun _ _ _ _ _ _=>Tx.l3 fun _ _ _=>rfl)
  intro fX mC jf
  refine' Tx.aN (x:="hold_behind") (qual:="Holder.hold_behind") (st:=Tx.ig) (f:=528) (ps:=["self","lines","lines_text","text"]) KX ?l ?c ?k ?b ?_;(case l=>k_is);(case c=>k_is);(case k=>k_is);(case b=>exact fun _ _ _ _ _ _=>Tx.l4 fun _ _ _ _=>rfl)
  intro bP fC cR
  refine' Tx.aN (x:="take") (qual:="Holder.take") (st:=Tx.qN) (f:=535) (ps:=["self","text"]) KX ?l ?c ?k ?b ?_;(case l=>k_is);(case c=>k_is);(case k=>k_is);(case b=>exact fun _ _ _ _ _ _=>Tx.l2 fun _ _=>rfl)
  intro fT mj lQ
  refine' Tx.aN (x:="more") (qual:="Holder.more") (st:=Tx.qO) (f:=542) (ps:=["self","text"]) KX ?l ?c ?k ?b ?_;(case l=>k_is);(case c=>k_is);(case k=>k_is);(case b=>exact fun _ _ _ _ _ _=>Tx.l2 fun _ _=>rfl)
  intro fU mq lR
  refine' Tx.aN (x:="text") (qual:="Holder.text") (st:=Tx.qM) (f:=549) (ps:=["self"]) KX ?l ?c ?k ?b ?_;(case l=>k_is);(case c=>k_is);(case k=>k_is);(case b=>exact fun _ _ _ _ _ _=>Tx.l1 fun _=>rfl)
  intro fS lZ lP
  refine' Tx.aN (x:="sizes") (qual:="Holder.sizes") (st:=Tx.jO) (f:=554) (ps:=["self"]) KX ?l ?c ?k ?b ?_;(case l=>k_is);(case c=>k_is);(case k=>k_is);(case b=>exact fun _ _ _ _ _ _=>Tx.l1 fun _=>rfl)
  intro eO kj j6
  refine' Tx.aN (x:="lines_for_letter") (qual:="Holder.lines_for_letter") (st:=Tx.eA) (f:=561) (ps:=["self","point","day","name"]) KX ?l ?c ?k ?b ?_;(case l=>k_is);(case c=>k_is);(case k=>k_is);(case b=>exact fun _ _ _ _ _ _=>Tx.l4 fun _ _ _ _=>rfl)
  intro bx cE bC
  refine' Tx.aN (x:="at") (qual:="Holder.at") (st:=Tx.uK) (f:=568) (ps:=["self","point","day","name"]) KX ?l ?c ?k ?b ?_;(case l=>k_is);(case c=>k_is);(case k=>k_is);(case b=>exact fun _ _ _ _ _ _=>Tx.l4 fun _ _ _ _=>rfl)
  intro iQ qz qw
  refine' Tx.aN (x:="follow") (qual:="Holder.follow") (st:=Tx.jk) (f:=573) (ps:=["self","point","day","may","name"]) KX ?l ?c ?k ?b ?_;(case l=>k_is);(case c=>k_is);(case k=>k_is);(case b=>exact fun _ _ _ _ _ _=>Tx.l5 fun _ _ _ _ _=>rfl)
  intro dO jx jt
  refine' Tx.aN (x:="where") (qual:="Holder.where") (st:=Tx.oK) (f:=580) (ps:=["self","point","day","name"]) KX ?l ?c ?k ?b ?_;(case l=>k_is);(case c=>k_is);(case k=>k_is);(case b=>exact fun _ _ _ _ _ _=>Tx.l4 fun _ _ _ _=>rfl)
  intro eN kh j5
  refine' Tx.aN (x:="into") (qual:="Holder.into") (st:=Tx.qP) (f:=587) (ps:=["self","point","day"]) KX ?l ?c ?k ?b ?_;(case l=>k_is);(case c=>k_is);(case k=>k_is);(case b=>exact fun _ _ _ _ _ _=>Tx.l3 fun _ _ _=>rfl)
  intro fV mz lT
  refine' Tx.aN (x:="__init__") (qual:="CallList.__init__") (st:=Tx.m4) (f:=621) (ps:=["self","numbers"]) KX ?l ?c ?k ?b ?_;(case l=>k_is);(case c=>k_is);(case k=>k_is);(case b=>exact fun _ _ _ _ _ _=>Tx.l2 fun _ _=>rfl)
  intro dQ jz ju
  refine' Tx.aN (x:="at_end") (qual:="CallList.at_end") (st:=Tx.jP) (f:=628) (ps:=["self"]) KX ?l ?c ?k ?b ?_;(case l=>k_is);(case c=>k_is);(case k=>k_is);(case b=>exact fun _ _ _ _ _ _=>Tx.l1 fun _=>rfl)
  intro cK gY gX
  refine' Tx.aN (x:="step") (qual:="CallList.step") (st:=Tx.mZ) (f:=635) (ps:=["self"]) KX ?l ?c ?k ?b ?_;(case l=>k_is);(case c=>k_is);(case k=>k_is);(case b=>exact fun _ _ _ _ _ _=>Tx.l1 fun _=>rfl)
  intro dP jy aW
  refine' Tx.aN (x:="row") (qual:="CallList.row") (st:=Tx.oM) (f:=642) (ps:=["self"]) KX ?l ?c ?k ?b ?_;(case l=>k_is);(case c=>k_is);(case k=>k_is);(case b=>exact fun _ _ _ _ _ _=>Tx.l1 fun _=>rfl)
  intro eP kC cS
  refine' Tx.aN (x:="answer") (qual:="answer") (st:=Tx.Bg) (f:=656) (ps:=["holder","calls"]) KX ?l ?c ?k ?b ?_;(case l=>k_is);(case c=>k_is);(case k=>k_is);(case b=>exact fun _ _ _ _ _ _=>Tx.l2 fun _ _=>rfl)
  intro n4 vB yE
  refine' Tx.aN (x:="answer_or_refusal") (qual:="answer_or_refusal") (st:=Tx.iZ) (f:=663) (ps:=["holder","calls"]) KX ?l ?c ?k ?b ?_;(case l=>k_is);(case c=>k_is);(case k=>k_is);(case b=>exact fun _ _ _ _ _ _=>Tx.l2 fun _ _=>rfl)
  intro bV dB fG
  refine' Tx.aN (x:="answers") (qual:="answers") (st:=Tx.yU) (f:=670) (ps:=["calls"]) KX ?l ?c ?k ?b ?_;(case l=>k_is);(case c=>k_is);(case k=>k_is);(case b=>exact fun _ _ _ _ _ _=>Tx.l1 fun _=>rfl)
  intro jD sD zG
  refine Tx.all_mk (ad:={ pZ:=21,iN:=iN,sG:=22,bF:=32,tI:=31,b6:=52,p9:=49,iP:=iP,dC:=101,lC:=70,fR:=fR,jl:=77,dN:=dN,lu:=84,fO:=fO,lA:=91,fP:=fP,lB:=98,fQ:=fQ,iS:=112,cY:=cY,jW:=119,eJ:=eJ,pX:=126,iL:=iL,pY:=133,iM:=iM,k9:=140,fM:=fM,jV:=147,eI:=eI,nQ:=152,gK:=gK,pW:=159,iK:=iK,sH:=169,DR:=[160,161,162,163,164,165,166,167,168],wD:=222,GF:=[170,171,172,173,174,175,176,177,178,179,180,181,182,183,184,185,186,187,188,189,190,191,192,193,194,195,196,197,198,199,200,201,202,203,204,205,206,207,208,209,210,211,212,213,214,215,216,217,218,219,220,221],g9:=233,uc:=[223,224,225,226,227,228,229,230,231,232],vK:=240,kP:=kP,p8:=247,iO:=iO,nR:=254,gL:=gL,sY:=259,jI:=jI,iR:=266,cX:=cX,bX:=276,zH:=275,dS:=296,jX:=293,eK:=eK,n9:=295,iE:=309,Ci:=308,iX:=322,tJ:=321,gB:=332,cA:=cA,sX:=337,jH:=jH,d8:=344,bL:=bL,gA:=351,cu:=cu,yj:=358,nZ:=nZ,bw:=375,iT:=372,cZ:=cZ,iC:=374,eQ:=385,dM:=dM,pV:=392,iJ:=iJ,ED:=399,vJ:=vJ,gT:=406,cJ:=cJ,lg:=413,fN:=fN,aR:=449,gC:=427,cB:=cB,c5:=432,bE:=bE,eZ:=439,bO:=bO,dG:=446,bH:=bH,qA:=470,sZ:=467,jJ:=jJ,yp:=481,n0:=n0,yh:=488,nY:=nY,vL:=493,kQ:=kQ,k8:=500,fL:=fL,aP:=590,lH:=514,fW:=fW,lJ:=521,fX:=fX,fj:=528,bP:=bP,lE:=535,fT:=fT,lF:=542,fU:=fU,lD:=549,fS:=fS,jZ:=554,eO:=eO,cD:=561,bx:=bx,qd:=568,iQ:=iQ,jm:=573,dO:=dO,jY:=580,eN:=eN,lG:=587,fV:=fV,mD:=604,qX:=603,aK:=645,jq:=621,dQ:=dQ,gU:=628,cK:=cK,jo:=635,dP:=dP,j0:=642,eP:=eP,yq:=656,n4:=n4,fF:=663,bV:=bV,vM:=670,jD:=jD }) ?T hmg
  exact {
   qW:=⟨_,PySem.W.mg_of KX G (by walk_at "r3")⟩
   yA:=⟨_,PySem.W.mg_of KX G (by walk_at "r3")⟩
   qV:=⟨_,PySem.W.mg_of KX G (by walk_at "r3")⟩
   yx:=⟨_,PySem.W.mg_of KX G (by walk_at "r3")⟩
   Gk:=⟨_,PySem.W.mg_of KX G (by walk_at "r3")⟩
   Ju:=⟨_,PySem.W.mg_of KX G (by walk_at "r3")⟩
   jK:=jK
   uX:=PySem.W.mg_of KX G (by walk_at "r3")
   mQ:=mQ
   wZ:=⟨_,PySem.W.mg_of KX G (by walk_at "r3")⟩
   HB:=⟨_,PySem.W.mg_of KX G (by walk_at "r3")⟩
   HA:=⟨_,PySem.W.mg_of KX G (by walk_at "r3")⟩
   Jf:=PySem.W.mg_of KX G (by walk_at "r3")
   sG:=(by refine' Tx.aI ?l ?z ?v;(case l=>walk_at "r3");(case z=>decide);(case v=>exact(.cons ⟨_,rfl⟩ (.cons ⟨_,rfl⟩ (.cons ⟨_,rfl⟩ .nil)))))
   nU:=⟨_,PySem.W.mg_of KX G (by walk_at "r3")⟩
   tu:=⟨_,PySem.W.mg_of KX G (by walk_at "r3")⟩
   pB:=⟨_,PySem.W.mg_of KX G (by walk_at "r3")⟩
   pD:=⟨_,PySem.W.mg_of KX G (by walk_at "r3")⟩
   Jy:=⟨_,PySem.W.mg_of KX G (by walk_at "r3")⟩
   bJ:=PySem.W.mg_of KX G (by walk_at "r3")
   bS:=by kernel_rfl
   bN:=by walk_at "r3"
   IT:=PySem.W.mg_of KX G (by walk_at "r3")
   qy:=qy
   qu:=qu
   bD:=⟨by walk_at "r3",by walk_at "r3",by walk_at "r3",by walk_at "r3"⟩
   IQ:=⟨by walk_at "r3",by walk_at "r3",by walk_at "r3",by walk_at "r3"⟩
   gH:=(by show PySem.W.findIn _ _ _=_;walk_at "r3")
   cV:=(by show PySem.W.findIn _ _ _=_;walk_at "r3")
   eX:=(by show PySem.W.findIn _ _ _=_;walk_at "r3")
   dW:=(by show PySem.W.findIn _ _ _=_;walk_at "r3")
   kY:=(by show PySem.W.findIn _ _ _=_;walk_at "r3")
   iy:=(by show PySem.W.findIn _ _ _=_;walk_at "r3")
   dw:=(by show PySem.W.findIn _ _ _=_;walk_at "r3")
   dI:=(by show PySem.W.findIn _ _ _=_;walk_at "r3")
   Dl:=PySem.W.mg_of KX G (by walk_at "r3")
   lY:=lY
   lO:=lO
   jw:=jw
   eT:=eT
   iI:=⟨by walk_at "r3",by walk_at "r3",by walk_at "r3"⟩
   lV:=lV
   dJ:=dJ
   fJ:=⟨by walk_at "r3",by walk_at "r3",by walk_at "r3"⟩
   lW:=lW
   gM:=gM
   jT:=⟨by walk_at "r3",by walk_at "r3",by walk_at "r3"⟩
   lX:=lX
   lN:=lN
   uR:=⟨by walk_at "r3",by walk_at "r3",by walk_at "r3"⟩
   bM:=⟨by walk_at "r3",by walk_at "r3",by walk_at "r3",by walk_at "r3"⟩
   Dj:=⟨by walk_at "r3",by walk_at "r3",by walk_at "r3",by walk_at "r3"⟩
   cG:=(by show PySem.W.findIn _ _ _=_;walk_at "r3")
   dg:=(by show PySem.W.findIn _ _ _=_;walk_at "r3")
   f6:=f6
   rS:=PySem.W.mg_of KX G (by walk_at "r3")
   iV:=iV
   fZ:=fZ
   oZ:=PySem.W.mg_of KX G (by walk_at "r3")
   iB:=iB
   mV:=mV
   zS:=PySem.W.mg_of KX G (by walk_at "r3")
   qm:=qm
   gb:=gb
   mI:=PySem.W.mg_of KX G (by walk_at "r3")
   iA:=iA
   ji:=ji
   wg:=PySem.W.mg_of KX G (by walk_at "r3")
   lL:=lL
   iD:=iD
   uW:=PySem.W.mg_of KX G (by walk_at "r3")
   j3:=j3
   j7:=j7
   yc:=PySem.W.mg_of KX G (by walk_at "r3")
   nW:=nW
   mU:=mU
   zR:=PySem.W.mg_of KX G (by walk_at "r3")
   ql:=ql
   zZ:=⟨_,PySem.W.mg_of KX G (by walk_at "r3")⟩
   rY:=⟨_,PySem.W.mg_of KX G (by walk_at "r3")⟩
   tY:=⟨_,PySem.W.mg_of KX G (by walk_at "r3")⟩
   w6:=⟨_,PySem.W.mg_of KX G (by walk_at "r3")⟩
   Jg:=PySem.W.mg_of KX G (by walk_at "r3")
   sH:=(by refine' Tx.aI ?l ?z ?v;(case l=>walk_at "r3");(case z=>decide);(case v=>exact(.cons rfl (.cons rfl (.cons rfl (.cons rfl (.cons rfl (.cons rfl (.cons rfl (.cons rfl (.cons rfl .nil)))))))))))
   Ja:=(.cons (by refine' Tx.aI ?l ?z ?v;(case l=>walk_at "r3");(case z=>decide);(case v=>exact(.cons ⟨_,rfl⟩ (.cons ⟨_,rfl⟩ (.cons ⟨_,rfl⟩ .nil))))) (.cons (by refine' Tx.aI ?l ?z ?v;(case l=>walk_at "r3");(case z=>decide);(case v=>exact(.cons ⟨_,rfl⟩ (.cons ⟨_,rfl⟩ (.cons ⟨_,rfl⟩ .nil))))) (.cons (by refine' Tx.aI ?l ?z ?v;(case l=>walk_at "r3");(case z=>decide);(case v=>exact(.cons ⟨_,rfl⟩ (.cons ⟨_,rfl⟩ (.cons ⟨_,rfl⟩ .nil))))) (.cons (by refine' Tx.aI ?l ?z ?v;(case l=>walk_at "r3");(case z=>decide);(case v=>exact(.cons ⟨_,rfl⟩ (.cons ⟨_,rfl⟩ (.cons ⟨_,rfl⟩ .nil))))) (.cons (by refine' Tx.aI ?l ?z ?v;(case l=>walk_at "r3");(case z=>decide);(case v=>exact(.cons ⟨_,rfl⟩ (.cons ⟨_,rfl⟩ (.cons ⟨_,rfl⟩ .nil))))) (.cons (by refine' Tx.aI ?l ?z ?v;(case l=>walk_at "r3");(case z=>decide);(case v=>exact(.cons ⟨_,rfl⟩ (.cons ⟨_,rfl⟩ (.cons ⟨_,rfl⟩ .nil))))) (.cons (by refine' Tx.aI ?l ?z ?v;(case l=>walk_at "r3");(case z=>decide);(case v=>exact(.cons ⟨_,rfl⟩ (.cons ⟨_,rfl⟩ (.cons ⟨_,rfl⟩ .nil))))) (.cons (by refine' Tx.aI ?l ?z ?v;(case l=>walk_at "r3");(case z=>decide);(case v=>exact(.cons ⟨_,rfl⟩ (.cons ⟨_,rfl⟩ (.cons ⟨_,rfl⟩ .nil))))) (.cons (by refine' Tx.aI ?l ?z ?v;(case l=>walk_at "r3");(case z=>decide);(case v=>exact(.cons ⟨_,rfl⟩ (.cons ⟨_,rfl⟩ (.cons ⟨_,rfl⟩ .nil))))) .nil)))))))))
   M5:=PySem.W.mg_of KX G (by walk_at "r3")
   wD:=(by refine' Tx.aI ?l ?z ?v;(case l=>walk_at "r3");(case z=>decide);(case v=>exact(.cons rfl (.cons rfl (.cons rfl (.cons rfl (.cons rfl (.cons rfl (.cons rfl (.cons rfl (.cons rfl (.cons rfl (.cons rfl (.cons rfl (.cons rfl (.cons rfl (.cons rfl (.cons rfl (.cons rfl (.cons rfl (.cons rfl (.cons rfl (.cons rfl (.cons rfl (.cons rfl (.cons rfl (.cons rfl (.cons rfl (.cons rfl (.cons rfl (.cons rfl (.cons rfl (.cons rfl (.cons rfl (.cons rfl (.cons rfl (.cons rfl (.cons rfl (.cons rfl (.cons rfl (.cons rfl (.cons rfl (.cons rfl (.cons rfl (.cons rfl (.cons rfl (.cons rfl (.cons rfl (.cons rfl (.cons rfl (.cons rfl (.cons rfl (.cons rfl (.cons rfl .nil))))))))))))))))))))))))))))))))))))))))))))))))))))))
   MX:=(.cons (by refine' Tx.aI ?l ?z ?v;(case l=>walk_at "r3");(case z=>decide);(case v=>exact(.cons ⟨_,rfl⟩ (.cons ⟨_,rfl⟩ (.cons ⟨_,rfl⟩ .nil))))) (.cons (by refine' Tx.aI ?l ?z ?v;(case l=>walk_at "r3");(case z=>decide);(case v=>exact(.cons ⟨_,rfl⟩ (.cons ⟨_,rfl⟩ (.cons ⟨_,rfl⟩ .nil))))) (.cons (by refine' Tx.aI ?l ?z ?v;(case l=>walk_at "r3");(case z=>decide);(case v=>exact(.cons ⟨_,rfl⟩ (.cons ⟨_,rfl⟩ (.cons ⟨_,rfl⟩ .nil))))) (.cons (by refine' Tx.aI ?l ?z ?v;(case l=>walk_at "r3");(case z=>decide);(case v=>exact(.cons ⟨_,rfl⟩ (.cons ⟨_,rfl⟩ (.cons ⟨_,rfl⟩ .nil))))) (.cons (by refine' Tx.aI ?l ?z ?v;(case l=>walk_at "r3");(case z=>decide);(case v=>exact(.cons ⟨_,rfl⟩ (.cons ⟨_,rfl⟩ (.cons ⟨_,rfl⟩ .nil))))) (.cons (by refine' Tx.aI ?l ?z ?v;(case l=>walk_at "r3");(case z=>decide);(case v=>exact(.cons ⟨_,rfl⟩ (.cons ⟨_,rfl⟩ (.cons ⟨_,rfl⟩ .nil))))) (.cons (by refine' Tx.aI ?l ?z ?v;(case l=>walk_at "r3");(case z=>decide);(case v=>exact(.cons ⟨_,rfl⟩ (.cons ⟨_,rfl⟩ (.cons ⟨_,rfl⟩ .nil))))) (.cons (by refine' Tx.aI ?l ?z ?v;(case l=>walk_at "r3");(case z=>decide);(case v=>exact(.cons ⟨_,rfl⟩ (.cons ⟨_,rfl⟩ (.cons ⟨_,rfl⟩ .nil))))) (.cons (by refine' Tx.aI ?l ?z ?v;(case l=>walk_at "r3");(case z=>decide);(case v=>exact(.cons ⟨_,rfl⟩ (.cons ⟨_,rfl⟩ (.cons ⟨_,rfl⟩ .nil))))) (.cons (by refine' Tx.aI ?l ?z ?v;(case l=>walk_at "r3");(case z=>decide);(case v=>exact(.cons ⟨_,rfl⟩ (.cons ⟨_,rfl⟩ (.cons ⟨_,rfl⟩ .nil))))) (.cons (by refine' Tx.aI ?l ?z ?v;(case l=>walk_at "r3");(case z=>decide);(case v=>exact(.cons ⟨_,rfl⟩ (.cons ⟨_,rfl⟩ (.cons ⟨_,rfl⟩ .nil))))) (.cons (by refine' Tx.aI ?l ?z ?v;(case l=>walk_at "r3");(case z=>decide);(case v=>exact(.cons ⟨_,rfl⟩ (.cons ⟨_,rfl⟩ (.cons ⟨_,rfl⟩ .nil))))) (.cons (by refine' Tx.aI ?l ?z ?v;(case l=>walk_at "r3");(case z=>decide);(case v=>exact(.cons ⟨_,rfl⟩ (.cons ⟨_,rfl⟩ (.cons ⟨_,rfl⟩ .nil))))) (.cons (by refine' Tx.aI ?l ?z ?v;(case l=>walk_at "r3");(case z=>decide);(case v=>exact(.cons ⟨_,rfl⟩ (.cons ⟨_,rfl⟩ (.cons ⟨_,rfl⟩ .nil))))) (.cons (by refine' Tx.aI ?l ?z ?v;(case l=>walk_at "r3");(case z=>decide);(case v=>exact(.cons ⟨_,rfl⟩ (.cons ⟨_,rfl⟩ (.cons ⟨_,rfl⟩ .nil))))) (.cons (by refine' Tx.aI ?l ?z ?v;(case l=>walk_at "r3");(case z=>decide);(case v=>exact(.cons ⟨_,rfl⟩ (.cons ⟨_,rfl⟩ (.cons ⟨_,rfl⟩ .nil))))) (.cons (by refine' Tx.aI ?l ?z ?v;(case l=>walk_at "r3");(case z=>decide);(case v=>exact(.cons ⟨_,rfl⟩ (.cons ⟨_,rfl⟩ (.cons ⟨_,rfl⟩ .nil))))) (.cons (by refine' Tx.aI ?l ?z ?v;(case l=>walk_at "r3");(case z=>decide);(case v=>exact(.cons ⟨_,rfl⟩ (.cons ⟨_,rfl⟩ (.cons ⟨_,rfl⟩ .nil))))) (.cons (by refine' Tx.aI ?l ?z ?v;(case l=>walk_at "r3");(case z=>decide);(case v=>exact(.cons ⟨_,rfl⟩ (.cons ⟨_,rfl⟩ (.cons ⟨_,rfl⟩ .nil))))) (.cons (by refine' Tx.aI ?l ?z ?v;(case l=>walk_at "r3");(case z=>decide);(case v=>exact(.cons ⟨_,rfl⟩ (.cons ⟨_,rfl⟩ (.cons ⟨_,rfl⟩ .nil))))) (.cons (by refine' Tx.aI ?l ?z ?v;(case l=>walk_at "r3");(case z=>decide);(case v=>exact(.cons ⟨_,rfl⟩ (.cons ⟨_,rfl⟩ (.cons ⟨_,rfl⟩ .nil))))) (.cons (by refine' Tx.aI ?l ?z ?v;(case l=>walk_at "r3");(case z=>decide);(case v=>exact(.cons ⟨_,rfl⟩ (.cons ⟨_,rfl⟩ (.cons ⟨_,rfl⟩ .nil))))) (.cons (by refine' Tx.aI ?l ?z ?v;(case l=>walk_at "r3");(case z=>decide);(case v=>exact(.cons ⟨_,rfl⟩ (.cons ⟨_,rfl⟩ (.cons ⟨_,rfl⟩ .nil))))) (.cons (by refine' Tx.aI ?l ?z ?v;(case l=>walk_at "r3");(case z=>decide);(case v=>exact(.cons ⟨_,rfl⟩ (.cons ⟨_,rfl⟩ (.cons ⟨_,rfl⟩ .nil))))) (.cons (by refine' Tx.aI ?l ?z ?v;(case l=>walk_at "r3");(case z=>decide);(case v=>exact(.cons ⟨_,rfl⟩ (.cons ⟨_,rfl⟩ (.cons ⟨_,rfl⟩ .nil))))) (.cons (by refine' Tx.aI ?l ?z ?v;(case l=>walk_at "r3");(case z=>decide);(case v=>exact(.cons ⟨_,rfl⟩ (.cons ⟨_,rfl⟩ (.cons ⟨_,rfl⟩ .nil))))) (.cons (by refine' Tx.aI ?l ?z ?v;(case l=>walk_at "r3");(case z=>decide);(case v=>exact(.cons ⟨_,rfl⟩ (.cons ⟨_,rfl⟩ (.cons ⟨_,rfl⟩ .nil))))) (.cons (by refine' Tx.aI ?l ?z ?v;(case l=>walk_at "r3");(case z=>decide);(case v=>exact(.cons ⟨_,rfl⟩ (.cons ⟨_,rfl⟩ (.cons ⟨_,rfl⟩ .nil))))) (.cons (by refine' Tx.aI ?l ?z ?v;(case l=>walk_at "r3");(case z=>decide);(case v=>exact(.cons ⟨_,rfl⟩ (.cons ⟨_,rfl⟩ (.cons ⟨_,rfl⟩ .nil))))) (.cons (by refine' Tx.aI ?l ?z ?v;(case l=>walk_at "r3");(case z=>decide);(case v=>exact(.cons ⟨_,rfl⟩ (.cons ⟨_,rfl⟩ (.cons ⟨_,rfl⟩ .nil))))) (.cons (by refine' Tx.aI ?l ?z ?v;(case l=>walk_at "r3");(case z=>decide);(case v=>exact(.cons ⟨_,rfl⟩ (.cons ⟨_,rfl⟩ (.cons ⟨_,rfl⟩ .nil))))) (.cons (by refine' Tx.aI ?l ?z ?v;(case l=>walk_at "r3");(case z=>decide);(case v=>exact(.cons ⟨_,rfl⟩ (.cons ⟨_,rfl⟩ (.cons ⟨_,rfl⟩ .nil))))) (.cons (by refine' Tx.aI ?l ?z ?v;(case l=>walk_at "r3");(case z=>decide);(case v=>exact(.cons ⟨_,rfl⟩ (.cons ⟨_,rfl⟩ (.cons ⟨_,rfl⟩ .nil))))) (.cons (by refine' Tx.aI ?l ?z ?v;(case l=>walk_at "r3");(case z=>decide);(case v=>exact(.cons ⟨_,rfl⟩ (.cons ⟨_,rfl⟩ (.cons ⟨_,rfl⟩ .nil))))) (.cons (by refine' Tx.aI ?l ?z ?v;(case l=>walk_at "r3");(case z=>decide);(case v=>exact(.cons ⟨_,rfl⟩ (.cons ⟨_,rfl⟩ (.cons ⟨_,rfl⟩ .nil))))) (.cons (by refine' Tx.aI ?l ?z ?v;(case l=>walk_at "r3");(case z=>decide);(case v=>exact(.cons ⟨_,rfl⟩ (.cons ⟨_,rfl⟩ (.cons ⟨_,rfl⟩ .nil))))) (.cons (by refine' Tx.aI ?l ?z ?v;(case l=>walk_at "r3");(case z=>decide);(case v=>exact(.cons ⟨_,rfl⟩ (.cons ⟨_,rfl⟩ (.cons ⟨_,rfl⟩ .nil))))) (.cons (by refine' Tx.aI ?l ?z ?v;(case l=>walk_at "r3");(case z=>decide);(case v=>exact(.cons ⟨_,rfl⟩ (.cons ⟨_,rfl⟩ (.cons ⟨_,rfl⟩ .nil))))) (.cons (by refine' Tx.aI ?l ?z ?v;(case l=>walk_at "r3");(case z=>decide);(case v=>exact(.cons ⟨_,rfl⟩ (.cons ⟨_,rfl⟩ (.cons ⟨_,rfl⟩ .nil))))) (.cons (by refine' Tx.aI ?l ?z ?v;(case l=>walk_at "r3");(case z=>decide);(case v=>exact(.cons ⟨_,rfl⟩ (.cons ⟨_,rfl⟩ (.cons ⟨_,rfl⟩ .nil))))) (.cons (by refine' Tx.aI ?l ?z ?v;(case l=>walk_at "r3");(case z=>decide);(case v=>exact(.cons ⟨_,rfl⟩ (.cons ⟨_,rfl⟩ (.cons ⟨_,rfl⟩ .nil))))) (.cons (by refine' Tx.aI ?l ?z ?v;(case l=>walk_at "r3");(case z=>decide);(case v=>exact(.cons ⟨_,rfl⟩ (.cons ⟨_,rfl⟩ (.cons ⟨_,rfl⟩ .nil))))) (.cons (by refine' Tx.aI ?l ?z ?v;(case l=>walk_at "r3");(case z=>decide);(case v=>exact(.cons ⟨_,rfl⟩ (.cons ⟨_,rfl⟩ (.cons ⟨_,rfl⟩ .nil))))) (.cons (by refine' Tx.aI ?l ?z ?v;(case l=>walk_at "r3");(case z=>decide);(case v=>exact(.cons ⟨_,rfl⟩ (.cons ⟨_,rfl⟩ (.cons ⟨_,rfl⟩ .nil))))) (.cons (by refine' Tx.aI ?l ?z ?v;(case l=>walk_at "r3");(case z=>decide);(case v=>exact(.cons ⟨_,rfl⟩ (.cons ⟨_,rfl⟩ (.cons ⟨_,rfl⟩ .nil))))) (.cons (by refine' Tx.aI ?l ?z ?v;(case l=>walk_at "r3");(case z=>decide);(case v=>exact(.cons ⟨_,rfl⟩ (.cons ⟨_,rfl⟩ (.cons ⟨_,rfl⟩ .nil))))) (.cons (by refine' Tx.aI ?l ?z ?v;(case l=>walk_at "r3");(case z=>decide);(case v=>exact(.cons ⟨_,rfl⟩ (.cons ⟨_,rfl⟩ (.cons ⟨_,rfl⟩ .nil))))) (.cons (by refine' Tx.aI ?l ?z ?v;(case l=>walk_at "r3");(case z=>decide);(case v=>exact(.cons ⟨_,rfl⟩ (.cons ⟨_,rfl⟩ (.cons ⟨_,rfl⟩ .nil))))) (.cons (by refine' Tx.aI ?l ?z ?v;(case l=>walk_at "r3");(case z=>decide);(case v=>exact(.cons ⟨_,rfl⟩ (.cons ⟨_,rfl⟩ (.cons ⟨_,rfl⟩ .nil))))) (.cons (by refine' Tx.aI ?l ?z ?v;(case l=>walk_at "r3");(case z=>decide);(case v=>exact(.cons ⟨_,rfl⟩ (.cons ⟨_,rfl⟩ (.cons ⟨_,rfl⟩ .nil))))) (.cons (by refine' Tx.aI ?l ?z ?v;(case l=>walk_at "r3");(case z=>decide);(case v=>exact(.cons ⟨_,rfl⟩ (.cons ⟨_,rfl⟩ (.cons ⟨_,rfl⟩ .nil))))) (.cons (by refine' Tx.aI ?l ?z ?v;(case l=>walk_at "r3");(case z=>decide);(case v=>exact(.cons ⟨_,rfl⟩ (.cons ⟨_,rfl⟩ (.cons ⟨_,rfl⟩ .nil))))) .nil))))))))))))))))))))))))))))))))))))))))))))))))))))
   zW:=PySem.W.mg_of KX G (by walk_at "r3")
   g9:=(by refine' Tx.aI ?l ?z ?v;(case l=>walk_at "r3");(case z=>decide);(case v=>exact(.cons rfl (.cons rfl (.cons rfl (.cons rfl (.cons rfl (.cons rfl (.cons rfl (.cons rfl (.cons rfl (.cons rfl .nil))))))))))))
   zV:=(.cons (by refine' Tx.aI ?l ?z ?v;(case l=>walk_at "r3");(case z=>decide);(case v=>exact(.cons ⟨_,rfl⟩ (.cons ⟨_,rfl⟩ .nil)))) (.cons (by refine' Tx.aI ?l ?z ?v;(case l=>walk_at "r3");(case z=>decide);(case v=>exact(.cons ⟨_,rfl⟩ (.cons ⟨_,rfl⟩ .nil)))) (.cons (by refine' Tx.aI ?l ?z ?v;(case l=>walk_at "r3");(case z=>decide);(case v=>exact(.cons ⟨_,rfl⟩ (.cons ⟨_,rfl⟩ .nil)))) (.cons (by refine' Tx.aI ?l ?z ?v;(case l=>walk_at "r3");(case z=>decide);(case v=>exact(.cons ⟨_,rfl⟩ (.cons ⟨_,rfl⟩ .nil)))) (.cons (by refine' Tx.aI ?l ?z ?v;(case l=>walk_at "r3");(case z=>decide);(case v=>exact(.cons ⟨_,rfl⟩ (.cons ⟨_,rfl⟩ .nil)))) (.cons (by refine' Tx.aI ?l ?z ?v;(case l=>walk_at "r3");(case z=>decide);(case v=>exact(.cons ⟨_,rfl⟩ (.cons ⟨_,rfl⟩ .nil)))) (.cons (by refine' Tx.aI ?l ?z ?v;(case l=>walk_at "r3");(case z=>decide);(case v=>exact(.cons ⟨_,rfl⟩ (.cons ⟨_,rfl⟩ .nil)))) (.cons (by refine' Tx.aI ?l ?z ?v;(case l=>walk_at "r3");(case z=>decide);(case v=>exact(.cons ⟨_,rfl⟩ (.cons ⟨_,rfl⟩ .nil)))) (.cons (by refine' Tx.aI ?l ?z ?v;(case l=>walk_at "r3");(case z=>decide);(case v=>exact(.cons ⟨_,rfl⟩ (.cons ⟨_,rfl⟩ .nil)))) (.cons (by refine' Tx.aI ?l ?z ?v;(case l=>walk_at "r3");(case z=>decide);(case v=>exact(.cons ⟨_,rfl⟩ (.cons ⟨_,rfl⟩ .nil)))) .nil))))))))))
   sA:=sA
   Dn:=PySem.W.mg_of KX G (by walk_at "r3")
   vP:=vP
   mW:=mW
   zT:=PySem.W.mg_of KX G (by walk_at "r3")
   qt:=qt
   j8:=j8
   yd:=PySem.W.mg_of KX G (by walk_at "r3")
   nX:=nX
   pH:=pH
   BI:=PySem.W.mg_of KX G (by walk_at "r3")
   tE:=tE
   fY:=fY
   rR:=PySem.W.mg_of KX G (by walk_at "r3")
   iU:=iU
   kO:=PySem.W.mg_of KX G (by walk_at "r3")
   kI:=by kernel_rfl
   oA:=by walk_at "r3"
   wO:=PySem.W.mg_of KX G (by walk_at "r3")
   j9:=j9
   j4:=j4
   vC:=by kernel_rfl
   Av:=⟨by kernel_rfl,by walk_at "r3",by walk_at "r3",by refine' Tx.O2 ?l ?c;(case l=>walk_at "r3");(case c=>rfl)⟩
   Ax:=⟨by walk_at "r3",by kernel_rfl,by walk_at "r3"⟩
   jE:=by walk_at "r3"
   ou:=by walk_at "r3"
   q0:=by walk_at "r3"
   rP:=(by show PySem.W.findIn _ _ _=_;walk_at "r3")
   zu:=PySem.W.mg_of KX G (by walk_at "r3")
   xg:=by kernel_rfl
   CM:=by walk_at "r3"
   kZ:=PySem.W.mg_of KX G (by walk_at "r3")
   jL:=by kernel_rfl
   qB:=by walk_at "r3"
   qg:=⟨_,PySem.W.mg_of KX G (by walk_at "r3")⟩
   mP:=⟨_,PySem.W.mg_of KX G (by walk_at "r3")⟩
   mO:=⟨_,PySem.W.mg_of KX G (by walk_at "r3")⟩
   d6:=d6
   o7:=PySem.W.mg_of KX G (by walk_at "r3")
   gE:=gE
   pF:=pF
   BH:=PySem.W.mg_of KX G (by walk_at "r3")
   tD:=tD
   bQ:=bQ
   gP:=PySem.W.mg_of KX G (by walk_at "r3")
   cF:=cF
   d4:=d4
   oY:=PySem.W.mg_of KX G (by walk_at "r3")
   gD:=gD
   vq:=vq
   F1:=PySem.W.mg_of KX G (by walk_at "r3")
   yC:=yC
   pC:=⟨_,PySem.W.mg_of KX G (by walk_at "r3")⟩
   zY:=⟨_,PySem.W.mg_of KX G (by walk_at "r3")⟩
   Cb:=⟨_,PySem.W.mg_of KX G (by walk_at "r3")⟩
   B9:=⟨_,PySem.W.mg_of KX G (by walk_at "r3")⟩
   jS:=PySem.W.mg_of KX G (by walk_at "r3")
   iW:=iW
   dR:=dR
   mE:=by kernel_rfl
   nI:=⟨by kernel_rfl,by walk_at "r3",by walk_at "r3",by refine' Tx.O2 ?l ?c;(case l=>walk_at "r3");(case c=>rfl)⟩
   sF:=⟨by walk_at "r3",by kernel_rfl,by walk_at "r3"⟩
   d9:=by walk_at "r3"
   gZ:=by walk_at "r3"
   i6:=by walk_at "r3"
   qZ:=by walk_at "r3"
   jc:=(by show PySem.W.findIn _ _ _=_;walk_at "r3")
   rO:=(by show PySem.W.findIn _ _ _=_;walk_at "r3")
   gI:=gI
   tX:=PySem.W.mg_of KX G (by walk_at "r3")
   jr:=jr
   mS:=mS
   zQ:=PySem.W.mg_of KX G (by walk_at "r3")
   qj:=qj
   yu:=⟨_,PySem.W.mg_of KX G (by walk_at "r3")⟩
   je:=⟨_,PySem.W.mg_of KX G (by walk_at "r3")⟩
   DE:=⟨_,PySem.W.mg_of KX G (by walk_at "r3")⟩
   Jw:=⟨_,PySem.W.mg_of KX G (by walk_at "r3")⟩
   Ca:=⟨_,PySem.W.mg_of KX G (by walk_at "r3")⟩
   Jx:=⟨_,PySem.W.mg_of KX G (by walk_at "r3")⟩
   EY:=EY
   MM:=PySem.W.mg_of KX G (by walk_at "r3")
   EL:=EL
   fA:=fA
   pT:=PySem.W.mg_of KX G (by walk_at "r3")
   gW:=gW
   jj:=jj
   wj:=PySem.W.mg_of KX G (by walk_at "r3")
   lM:=lM
   oV:=PySem.W.mg_of KX G (by walk_at "r3")
   gF:=gF
   dZ:=dZ
   c7:=c7
   c6:=c6
   jd:=⟨by walk_at "r3",by walk_at "r3",by walk_at "r3"⟩
   fB:=fB
   fu:=fu
   kH:=⟨by walk_at "r3",by walk_at "r3",by walk_at "r3"⟩
   dH:=dH
   b8:=b8
   fK:=⟨by walk_at "r3",by walk_at "r3",by walk_at "r3"⟩
   aQ:=⟨by walk_at "r3",by walk_at "r3",by walk_at "r3",by walk_at "r3"⟩
   oU:=⟨by walk_at "r3",by walk_at "r3",by walk_at "r3",by walk_at "r3"⟩
   bU:=(by show PySem.W.findIn _ _ _=_;walk_at "r3")
   bB:=(by show PySem.W.findIn _ _ _=_;walk_at "r3")
   cH:=(by show PySem.W.findIn _ _ _=_;walk_at "r3")
   d7:=(by show PySem.W.findIn _ _ _=_;walk_at "r3")
   MH:=PySem.W.mg_of KX G (by walk_at "r3")
   tM:=tM
   tF:=tF
   m8:=⟨by walk_at "r3",by walk_at "r3",by walk_at "r3",by walk_at "r3"⟩
   MG:=⟨by walk_at "r3",by walk_at "r3",by walk_at "r3",by walk_at "r3"⟩
   sR:=(by show PySem.W.findIn _ _ _=_;walk_at "r3")
   iw:=(by show PySem.W.findIn _ _ _=_;walk_at "r3")
   uQ:=(by show PySem.W.findIn _ _ _=_;walk_at "r3")
   gq:=(by show PySem.W.findIn _ _ _=_;walk_at "r3")
   iH:=(by show PySem.W.findIn _ _ _=_;walk_at "r3")
   vA:=vA
   F2:=PySem.W.mg_of KX G (by walk_at "r3")
   yD:=yD
   pG:=pG
   x9:=PySem.W.mg_of KX G (by walk_at "r3")
   rZ:=rZ
   sC:=sC
   Dp:=PySem.W.mg_of KX G (by walk_at "r3")
   vQ:=vQ
   jh:=jh
   v9:=PySem.W.mg_of KX G (by walk_at "r3")
   lK:=lK
   yw:=⟨_,PySem.W.mg_of KX G (by walk_at "r3")⟩
   EK:=⟨_,PySem.W.mg_of KX G (by walk_at "r3")⟩
   Dm:=PySem.W.mg_of KX G (by walk_at "r3")
   mB:=mB
   lU:=lU
   mC:=mC
   jf:=jf
   oW:=⟨by walk_at "r3",by walk_at "r3",by walk_at "r3"⟩
   fC:=fC
   cR:=cR
   gO:=⟨by walk_at "r3",by walk_at "r3",by walk_at "r3"⟩
   mj:=mj
   lQ:=lQ
   uT:=⟨by walk_at "r3",by walk_at "r3",by walk_at "r3"⟩
   mq:=mq
   lR:=lR
   uU:=⟨by walk_at "r3",by walk_at "r3",by walk_at "r3"⟩
   lZ:=lZ
   lP:=lP
   uS:=⟨by walk_at "r3",by walk_at "r3",by walk_at "r3"⟩
   kj:=kj
   j6:=j6
   tW:=⟨by walk_at "r3",by walk_at "r3",by walk_at "r3"⟩
   cE:=cE
   bC:=bC
   b7:=⟨by walk_at "r3",by walk_at "r3",by walk_at "r3"⟩
   qz:=qz
   qw:=qw
   x8:=⟨by walk_at "r3",by walk_at "r3",by walk_at "r3"⟩
   jx:=jx
   jt:=jt
   rQ:=⟨by walk_at "r3",by walk_at "r3",by walk_at "r3"⟩
   kh:=kh
   j5:=j5
   tV:=⟨by walk_at "r3",by walk_at "r3",by walk_at "r3"⟩
   mz:=mz
   lT:=lT
   uV:=⟨by walk_at "r3",by walk_at "r3",by walk_at "r3"⟩
   aT:=⟨by walk_at "r3",by walk_at "r3",by walk_at "r3",by walk_at "r3"⟩
   Dk:=⟨by walk_at "r3",by walk_at "r3",by walk_at "r3",by walk_at "r3"⟩
   dX:=(by show PySem.W.findIn _ _ _=_;walk_at "r3")
   cP:=(by show PySem.W.findIn _ _ _=_;walk_at "r3")
   dz:=(by show PySem.W.findIn _ _ _=_;walk_at "r3")
   fH:=(by show PySem.W.findIn _ _ _=_;walk_at "r3")
   Nr:=⟨_,PySem.W.mg_of KX G (by walk_at "r3")⟩
   Nt:=⟨_,PySem.W.mg_of KX G (by walk_at "r3")⟩
   Nq:=⟨_,PySem.W.mg_of KX G (by walk_at "r3")⟩
   Jv:=⟨_,PySem.W.mg_of KX G (by walk_at "r3")⟩
   RJ:=⟨_,PySem.W.mg_of KX G (by walk_at "r3")⟩
   Gj:=⟨_,PySem.W.mg_of KX G (by walk_at "r3")⟩
   Jt:=⟨_,PySem.W.mg_of KX G (by walk_at "r3")⟩
   Nu:=⟨_,PySem.W.mg_of KX G (by walk_at "r3")⟩
   DC:=⟨_,PySem.W.mg_of KX G (by walk_at "r3")⟩
   B8:=⟨_,PySem.W.mg_of KX G (by walk_at "r3")⟩
   vh:=⟨_,PySem.W.mg_of KX G (by walk_at "r3")⟩
   Cd:=⟨_,PySem.W.mg_of KX G (by walk_at "r3")⟩
   BE:=PySem.W.mg_of KX G (by walk_at "r3")
   Cq:=by kernel_rfl
   Aw:=by walk_at "r3"
   zP:=PySem.W.mg_of KX G (by walk_at "r3")
   jz:=jz
   ju:=ju
   gY:=gY
   gX:=gX
   oX:=⟨by walk_at "r3",by walk_at "r3",by walk_at "r3"⟩
   jy:=jy
   aW:=aW
   aZ:=⟨by walk_at "r3",by walk_at "r3",by walk_at "r3"⟩
   kC:=kC
   cS:=cS
   eG:=⟨by walk_at "r3",by walk_at "r3",by walk_at "r3"⟩
   aS:=⟨by walk_at "r3",by walk_at "r3",by walk_at "r3",by walk_at "r3"⟩
   zO:=⟨by walk_at "r3",by walk_at "r3",by walk_at "r3",by walk_at "r3"⟩
   dA:=(by show PySem.W.findIn _ _ _=_;walk_at "r3")
   cW:=(by show PySem.W.findIn _ _ _=_;walk_at "r3")
   vB:=vB
   F3:=PySem.W.mg_of KX G (by walk_at "r3")
   yE:=yE
   dB:=dB
   nG:=PySem.W.mg_of KX G (by walk_at "r3")
   fG:=fG
   sD:=sD
   Dq:=PySem.W.mg_of KX G (by walk_at "r3")
   zG:=zG
   Eu:=PySem.W.mg_none_of KX G (by walk_at "r3")
   x3:=PySem.W.mg_none_of KX G (by walk_at "r3")
   Hi:=PySem.W.mg_none_of KX G (by walk_at "r3")
   c9:=PySem.W.mg_none_of KX G (by walk_at "r3")
   IP:=PySem.W.mg_none_of KX G (by walk_at "r3")
   MF:=PySem.W.mg_none_of KX G (by walk_at "r3")
   zp:=PySem.W.mg_none_of KX G (by walk_at "r3")
   ME:=PySem.W.mg_none_of KX G (by walk_at "r3")
   R0:=by dsimp only;decide
   Sy:=by dsimp only;decide }
 case S=>
  intro K H xs a hO hwi hask hx
  cases hx with
  |cons h1 h2=>
   cases h2
   cases h1 with
   |lst hs ha=>
    have e:=L2.IY a.1 _ ha
    subst e
    have q:((Codec.inLen 0 31000 a.1&&a.1.all (Codec.inInt (Int.negSucc 2147483647) (Int.ofNat 4294967295)))&&true)=true:=hwi
    rw[Bool.and_eq_true,Bool.and_eq_true]at q
    exact⟨_,a.1,rfl,hs,(Codec.inNat_iff.mp q.1.1).2,hask,fun p H' hp=>.lst (L2.bW.of hp) (L2.Jm _)⟩
