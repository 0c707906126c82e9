import PyProof.Rows.All
import Wide.All
import OpenK.AllK
import Wide.FinOn
import Lean
import PyProof.EqAt
import PyProof.EqKinds
import PyProof.TupleCall
import PyProof.AttrMiss
import PyProof.IsiH_list
import PyProof.ZipIter
import PyProof.P3In
import PySem.Challenge.RW_everyrow_k34_ways_by_ranges
set_option compiler.extract_closed false
set_option Elab.async false
set_option linter.all false
set_option maxRecDepth 100000
noncomputable section
namespace L2
open PySem PySem.Spec PyProof.Rows
abbrev Key:=Sum Int Str
def pJ:Key->Value->Bool
 |.inl k,v=>Value.isInt k v
 |.inr x,v=>Value.isStrOf x v
def MX (w:World):Key->Int
 |.inl k=>hashInt k
 |.inr x=>hashStr w x
theorem cR:∀ {k:Key} {v:Value},pJ k v=true->(∃i t,k=Sum.inl i/\v=Value.int i t)\/(∃x t,k=Sum.inr x/\v=Value.str x t)
 |.inl i,v,h=>by
  obtain⟨t,e⟩:=Value.isInt_shape (k:=i) (v:=v) h
  exact .inl ⟨i,t,rfl,e⟩
 |.inr x,v,h=>by
  obtain⟨t,e⟩:=Value.isStrOf_shape (x:=x) (v:=v) h
  exact .inr ⟨x,t,rfl,e⟩
theorem yM(i:Int)(t:Tok):pJ (.inl i) (.int i t)=true:=by simp[pJ,Value.isInt]
theorem yN(x:Str)(t:Tok):pJ (.inr x) (.str x t)=true:=by simp[pJ,Value.isStrOf]
theorem Gk(a b:Int):decide ((Sum.inl a:Key)=Sum.inl b)=(a==b):=by
 by_cases e:a=b
 ·subst e;simp
 ·have h:¬(Sum.inl a:Key)=Sum.inl b:=fun q=>e (Sum.inl.inj q)
  rw[decide_eq_false h]
  exact(beq_eq_false_iff_ne.mpr e).symm
theorem Gm(a b:Str):decide ((Sum.inr a:Key)=Sum.inr b)=decide (a=b):=by
 by_cases e:a=b
 ·subst e;simp
 ·have h:¬(Sum.inr a:Key)=Sum.inr b:=fun q=>e (Sum.inr.inj q)
  rw[decide_eq_false h,decide_eq_false e]
theorem Gn(a:Int)(b:Str):decide ((Sum.inl a:Key)=Sum.inr b)=false:=decide_eq_false (fun q=>nomatch q)
theorem Gp(a:Str)(b:Int):decide ((Sum.inr a:Key)=Sum.inl b)=false:=decide_eq_false (fun q=>nomatch q)
def ck (prog:Program) (w:World):PySem.KeyKind prog w Key where
 is:=pJ
 hash:=MX w
 inj:=fun v a b ha hb=>by
  rcases cR ha with ⟨i,t,rfl,rfl⟩ |⟨x,t,rfl,rfl⟩
  ·rcases cR hb with ⟨j,u,rfl,e⟩ |⟨y,u,rfl,e⟩
   ·injection e with e1 _;rw[e1]
   ·exact nomatch e
  ·rcases cR hb with ⟨j,u,rfl,e⟩ |⟨y,u,rfl,e⟩
   ·exact nomatch e
   ·injection e with e1 _;rw[e1]
 byValue:=fun k v h=>by
  rcases cR h with ⟨i,t,rfl,rfl⟩ |⟨x,t,rfl,rfl⟩<;>rfl
 pyHash:=fun hv h=>by
  rcases cR hv with ⟨i,t,rfl,rfl⟩ |⟨x,t,rfl,rfl⟩
  ·exact wpAny_pyHash_int h
  ·exact wpAny_pyHash_str h
 eqBool:=fun hu hv h=>by
  rcases cR hu with ⟨i,t,rfl,rfl⟩ |⟨x,t,rfl,rfl⟩
  ·rcases cR hv with ⟨j,u,rfl,rfl⟩ |⟨y,u,rfl,rfl⟩
   ·rw[Gk] at h;exact wpAny_eqBool_int h
   ·rw[Gn] at h;exact SeqAt.EqAt.int_str i t y u _ _ _ _ h
  ·rcases cR hv with ⟨j,u,rfl,rfl⟩ |⟨y,u,rfl,rfl⟩
   ·rw[Gp] at h;exact SeqAt.EqAt.str_int x t j u _ _ _ _ h
   ·rw[Gm] at h;exact wpAny_eqBool_str h
 «strs»:=fun k x t v h=>by
  rcases cR h with ⟨i,u,rfl,e⟩ |⟨y,u,rfl,e⟩
  ·exact nomatch e
  ·injection e with e1 _
   subst e1
   cases v<;>rfl
theorem ug(prog:Program)(w:World)(i:Int)(t:Tok):(ck prog w).is (.inl i) (.int i t)=true:=yM i t
theorem uh(prog:Program)(w:World)(x:Str)(t:Tok):(ck prog w).is (.inr x) (.str x t)=true:=yN x t
end L2
namespace L2
open PySem PySem.Spec PyProof.Rows
inductive V where
 |c6 |bl (b:Bool) |int (i:Int) |str (x:Str) |xl (b:Array UInt8) |Gq (b:UInt64) |ref (a:Addr) |ty (n:String)
 deriving DecidableEq
def RelV:V->Value->Prop
 |.c6,u=>u=Value.none
 |.bl b,u=>u=Value.bool b
 |.int i,u=>∃t,u=Value.int i t
 |.str x,u=>∃t,u=Value.str x t
 |.xl b,u=>∃t,u=Value.bytes b t
 |.Gq b,u=>∃t,u=Value.float b t
 |.ref a,u=>u=Value.ref a
 |.ty n,u=>u=Value.type n
abbrev Vals:List V->List Value->Prop:=Paired RelV
theorem Vals.length{xs:List V}{us:List Value}(r:Vals xs us):xs.length=us.length:=Paired.length r
theorem Vals.get:∀ {xs:List V} {us:List Value} {i:Nat} {x:V},Vals xs us->xs[i]?=some x->∃u,us[i]?=some u/\RelV x u
 |_,_,_,_,.nil,e=>by simp at e
 |_,_,0,_,.cons r _,e=>by simp at e;subst e;exact⟨_,rfl,r⟩
 |_,_,i+1,x,.cons _ t,e=>by
  obtain⟨u,h1,h2⟩:=Vals.get (i:=i) (x:=x) t (by simpa using e)
  exact⟨u,by simpa using h1,h2⟩
theorem Vals.set{x:V}{u:Value}(r:RelV x u):∀ {xs:List V} {us:List Value} (i:Nat),Vals xs us->Vals (xs.set i x) (us.set i u)
 |_,_,_,.nil=>.nil
 |_,_,0,.cons _ t=>.cons r t
 |_,_,i+1,.cons q t=>.cons q (Vals.set r i t)
theorem Vals.append:∀ {xs ys:List V} {us ws:List Value},Vals xs us->Vals ys ws->Vals (xs++ys) (us++ws)
 |_,_,_,_,.nil,s=>s
 |_,_,_,_,.cons r t,s=>.cons r (Vals.append t s)
theorem Vals.take:∀ {xs:List V} {us:List Value} (n:Nat),Vals xs us->Vals (xs.take n) (us.take n)
 |_,_,0,_=>.nil
 |_,_,_+1,.nil=>.nil
 |_,_,n+1,.cons r t=>.cons r (Vals.take n t)
theorem Vals.drop:∀ {xs:List V} {us:List Value} (n:Nat),Vals xs us->Vals (xs.drop n) (us.drop n)
 |_,_,0,r=>r
 |_,_,_+1,.nil=>.nil
 |_,_,n+1,.cons _ t=>Vals.drop n t
def k8:Option V->Option Value->Prop
 |some v,some u=>RelV v u
 |none,none=>True
 |_,_=>False
def KV {κ:Type}:List (κ×V)->List (κ×Value)->Prop:=Paired fun (p:κ×V) (q:κ×Value)=>p.1=q.1/\RelV p.2 q.2
def kV:Key->V
 |.inl i=>.int i
 |.inr x=>.str x
inductive HO where
 |lst (xs:List V)
 |tup (xs:List V)
 |dK (aJ:List (Key×V)) |dT (aJ:List (List Key×V))
 |set (S:Int->Bool) (n:Nat)
 |ins (C dx:Addr) (fs:List (Str×V))
 |own (x:Addr)
 |xd (fs:List (Str×V))
 |met (f x:Addr)
 |LY (lo hi:Int)
 |vJ (o:Obj) (u:HO)
 |Fj (ps:Array Value)
 |ext (φ:Heap->Prop)
abbrev Hp:=Addr->Option HO
def upd (H:Hp) (a:Addr) (o:HO):Hp:=fun b=>if b=a then some o else H b
theorem aj{H:Hp}{a:Addr}{o:HO}:upd H a o a=some o:=by unfold upd;rw[if_pos rfl]
theorem aF{H:Hp}{a b:Addr}{o:HO}(h:b≠a):upd H a o b=H b:=by unfold upd;rw[if_neg h]
theorem bS{H:Hp}{a b:Addr}{o u:HO}(h:H a=some o)(h':H b=some u)(d:o≠u):a≠b:=by
 intro e;subst e;rw[h] at h';exact d (Option.some.inj h')
theorem aB{H:Hp}{a b:Addr}{o:HO}(h:H a=some o)(h':H b=none):a≠b:=by
 intro e;subst e;rw[h] at h';cases h'
section
variable(P:Program)(w:World)
def cS (H:Hp) (h:Heap) (a:Addr):HO->Prop
 |.lst xs=>xs.length<=sizeLine/\∃(bc:List Value) (n:Nat),Vals xs bc/\h.get? a=some {cls:=.type "list",data:=.seq bc.toArray n}
 |.tup xs=>xs.length<=sizeLine/\∃bc:List Value,Vals xs bc/\IsTup h a bc.toArray
 |.dK aJ=>aJ.length<=sizeLine/\(a==sysModules)=false/\∃vs,KV aJ vs/\h.DictOf (ck P w) a vs
 |.dT aJ=>aJ.length<=sizeLine/\(a==sysModules)=false/\∃xs:List (List Key×Addr×Value),
  Paired (fun (p:List Key×V) (q:List Key×Addr×Value)=>p.1=q.1/\H q.2.1=some (.tup (p.1.map kV))/\RelV p.2 q.2.2) aJ xs/\
  ∃o es ep,h.get? a=some o/\o.ExactDict/\o.data=.dict es ep/\es.toList=xs.map (entryOfKey (tupleKind (ck P w)))/\(xs.map (·.1)).Nodup
 |.set S n=>h.SetOf (intKind P w) a S n
 |.ins C dx fs=>H dx=some (.own a)/\fs.length<=1000/\dx≠a/\h.get? a=some (PySem.W.instObj C dx)/\
  ∃mA,h.Ns1 dx mA/\(∀f,k8 (fs.lookup f) (mA f))/\PySem.Within mA (fs.map (·.1))
 |.own _=>∃o,h.get? a=some o
 |.xd fs=>∃mA,h.Ns1 a mA/\∀f,k8 (fs.lookup f) (mA f)
 |.LY lo hi=>∃t u v,h.get? a=some {cls:=.type "range",data:=.fields #[.int lo t,.int hi u,.int 1 v]}
 |.vJ o u=>h.get? a=some o/\cS H h a u
 |.Fj ps=>h.get? a=some {cls:=.none,data:=.fields ps}
 |.met f x=>h.get? a=some (PySem.W.methodObj (.ref f) (.ref x))
 |.ext φ=>φ h/\(∃o,h.get? a=some o)/\∀h1 h2:Heap,φ h1->(∀o,h1.get? a=some o->h2.get? a=some o)->φ h2
def mq (H:Hp) (h:Heap):Prop:=∀a o,H a=some o->cS P w H h a o
end
section
variable{P:Program}{w:World}{H H':Hp}{h h':Heap}{a:Addr}{o:HO}
theorem cS.lt(x:cS P w H h a o):a<h.objs.size:=by
 cases o with
 |lst xs=>obtain⟨_,_,_,_,e⟩:=x;exact Heap.lt_size e
 |tup xs=>obtain⟨_,_,_,p⟩:=x;exact p.lt
 |dK aJ=>obtain⟨_,_,_,_,o,_,_,e,_⟩:=x;exact Heap.lt_size e
 |dT aJ=>obtain⟨_,_,_,_,o,_,_,e,_⟩:=x;exact Heap.lt_size e
 |set S n=>obtain⟨o,_,_,_,e,_⟩:=x;exact Heap.lt_size e
 |ins C dx fs=>obtain⟨_,_,_,e,_⟩:=x;exact Heap.lt_size e
 |own y=>obtain⟨_,e⟩:=x;exact Heap.lt_size e
 |xd fs=>obtain⟨_,⟨_,_,_,e,_⟩,_⟩:=x;exact Heap.lt_size e
 |LY lo hi=>obtain⟨_,_,_,e⟩:=x;exact Heap.lt_size e
 |vJ ob u=>obtain⟨e,_⟩:=x;exact Heap.lt_size e
 |Fj ps=>exact Heap.lt_size (show h.get? a=some _ from x)
 |met f y=>exact Heap.lt_size (show h.get? a=some _ from x)
 |ext φ=>obtain⟨_,⟨_,e⟩,_⟩:=x;exact Heap.lt_size e
theorem Paired.As{α β:Type}{F G:α->β->Prop}:∀ {l₁:List α} {l₂:List β},Paired F l₁ l₂->(∀a b,F a b->G a b)->Paired G l₁ l₂
 |_,_,.nil,_=>.nil
 |_,_,.cons r t,f=>.cons (f _ _ r) (Paired.As t f)
theorem cS.j6(x:cS P w H h a o)(k:∀b u,(b=a\/H b=some (.own a))->h.get? b=some u->h'.get? b=some u)
 (ho:∀b,H b=some (.own a)->H' b=some (.own a)) (ht:∀b xs,H b=some (.tup xs)->H' b=some (.tup xs)):cS P w H' h' a o:=by
 induction o with
 |lst xs=>obtain⟨z,bc,n,r,e⟩:=x;exact⟨z,bc,n,r,k _ _ (.inl rfl) e⟩
 |tup xs=>obtain⟨z,bc,r,ob,e,c⟩:=x;exact⟨z,bc,r,ob,k _ _ (.inl rfl) e,c⟩
 |dK aJ=>obtain⟨z,y,vs,r,ob,es,ep,e,c⟩:=x;exact⟨z,y,vs,r,ob,es,ep,k _ _ (.inl rfl) e,c⟩
 |dT aJ=>
  obtain⟨z,y,xs,r,ob,es,ep,e,c⟩:=x
  exact⟨z,y,xs,Paired.As r fun p q z=>⟨z.1,ht _ _ z.2.1,z.2.2⟩,ob,es,ep,k _ _ (.inl rfl) e,c⟩
 |set S n=>obtain⟨ob,es,ep,t,e,c⟩:=x;exact⟨ob,es,ep,t,k _ _ (.inl rfl) e,c⟩
 |ins C dx fs=>
  obtain⟨d,z,ne,e,mA,⟨od,es,ep,e2,c⟩,r⟩:=x
  exact⟨ho _ d,z,ne,k _ _ (.inl rfl) e,mA,⟨od,es,ep,k _ _ (.inr d) e2,c⟩,r⟩
 |own y=>obtain⟨ob,e⟩:=x;exact⟨ob,k _ _ (.inl rfl) e⟩
 |xd fs=>obtain⟨mA,⟨od,es,ep,e,c⟩,r⟩:=x;exact⟨mA,⟨od,es,ep,k _ _ (.inl rfl) e,c⟩,r⟩
 |LY lo hi=>obtain⟨t,u,v,e⟩:=x;exact⟨t,u,v,k _ _ (.inl rfl) e⟩
 |vJ ob u ih=>obtain⟨e,q⟩:=x;exact⟨k _ _ (.inl rfl) e,ih q⟩
 |Fj ps=>
  have e:h.get? a=some {cls:=.none,data:=.fields ps}:=x
  show h'.get? a=some {cls:=.none,data:=.fields ps}
  exact k a _ (.inl rfl) e
 |met f y=>
  have e:h.get? a=some (PySem.W.methodObj (.ref f) (.ref y)):=x
  show h'.get? a=some (PySem.W.methodObj (.ref f) (.ref y))
  exact k a _ (.inl rfl) e
 |ext φ=>obtain⟨p,⟨o,e⟩,st⟩:=x;exact⟨st _ _ p fun o q=>k _ _ (.inl rfl) q,⟨o,k _ _ (.inl rfl) e⟩,st⟩
theorem mq.lt(x:mq P w H h)(e:H a=some o):a<h.objs.size:=(x a o e).lt
theorem mq.fresh(x:mq P w H h)(e:h.objs.size<=a):H a=none:=by
 cases q:H a with
 |none=>rfl
 |some u=>exact absurd (Nat.lt_of_lt_of_le (x.lt q) e) (Nat.lt_irrefl _)
theorem mq.kept(x:mq P w H h)(k:∀b u,h.get? b=some u->h'.get? b=some u):mq P w H h':=fun a o e=>
 (x a o e).j6 (fun b u _ q=>k b u q) (fun _ q=>q) fun _ _ q=>q
theorem mq.laid(x:mq P w H h)(k:∀b u,h.get? b=some u->h'.get? b=some u)(hp:h.objs.size<=a)(new:cS P w (upd H a o) h' a o):mq P w (upd H a o) h':=fun b u e=>by
 have hn:=x.fresh hp
 by_cases hb:b=a
 ·subst hb;rw[aj] at e;cases e;exact new
 ·rw[aF hb] at e
  exact(x b u e).j6 (fun c v _ q=>k c v q) (fun c q=>by rw[aF (aB q hn)];exact q) fun c xs q=>by rw[aF (aB q hn)];exact q
end
def Rd (H:Hp) (a:Addr) (u:HO):Prop:=H a=some u\/∃o,H a=some (.vJ o u)
theorem Rd.of{H:Hp}{a:Addr}{u:HO}(h:H a=some u):Rd H a u:=.inl h
theorem Rd.ok{P:Program}{w:World}{H:Hp}{h:Heap}{a:Addr}{u:HO}(r:Rd H a u)(x:mq P w H h):cS P w H h a u:=by
 rcases r with r |⟨o,r⟩
 ·exact x a u r
 ·obtain⟨_,q⟩:=x a _ r
  exact q
def IU:Option HO->Prop
 |some (.lst _)=>True
 |some (.dK _)=>True
 |some (.dT _)=>True
 |some (.set _ _)=>True
 |some (.ins _ _ _)=>True
 |some (.ext _)=>True
 |_=>False
section
variable{P:Program}{w:World}{H:Hp}{h h':Heap}{x e:Addr}{o':HO}
theorem mq.write(ok:mq P w H h)(mu:IU (H x))(he:e=x\/H e=some (.own x))(k:∀b u,b≠e->h.get? b=some u->h'.get? b=some u)(Ij:∃u,h'.get? e=some u)
 (new:cS P w (upd H x o') h' x o'):mq P w (upd H x o') h':=fun b u q=>by
 have IV:∀c y,H c=some (.own y)->c≠x:=fun c y r z=>by subst z;rw[r] at mu;exact mu
 have MY:∀c xs,H c=some (.tup xs)->c≠x:=fun c xs r z=>by subst z;rw[r] at mu;exact mu
 by_cases hb:b=x
 ·subst hb;rw[aj] at q;cases q;exact new
 ·rw[aF hb] at q
  by_cases Gr:b=e
  ·have q':H b=some (.own x):=by
    rcases he with z |z
    ·exact absurd (Gr.trans z) hb
    ·rw[Gr];exact z
   rw[q] at q';cases q'
   obtain⟨v,hv⟩:=Ij
   exact⟨v,by rw[Gr];exact hv⟩
  ·refine(ok b u q).j6 (fun c v hc r=>k c v ?_ r) (fun c r=>by rw[aF (IV c b r)];exact r) fun c xs r=>by rw[aF (MY c xs r)];exact r
   rcases hc with rfl |hc
   ·exact Gr
   ·rintro rfl
    rcases he with z |z
    ·exact IV c b hc z
    ·rw[hc] at z;cases z;exact hb rfl
end
structure Un(fs ex:List Addr)(H H':Hp)(h h':Heap):Prop where
 keep:∀b o,h.get? b=some o->H b=none->b ∉ fs->b ∉ ex->h'.get? b=some o
 slot:∀b o,h.get? b=some o->H b=none->b∈fs->b ∉ ex->∃sl,h'.get? b=some {o with slots:=sl}
 free:∀b o,h.get? b=some o->H b=none->b ∉ ex->H' b=none
 there:∀b o,h.get? b=some o->b ∉ ex->∃o',h'.get? b=some o'
 nu:∀b xs,H b=some (.tup xs)->H' b=some (.tup xs)
 mw:∀b o u,H b=some (.vJ o u)->H' b=some (.vJ o u)
 ny:∀b ps,H b=some (.Fj ps)->∃more,H' b=some (.Fj (ps++more))
section
variable{fs Dt ex MZ:List Addr}{H H1 H2:Hp}{h h1 h2 h':Heap}{a x e:Addr}{o:HO}
theorem Un.any(u:Un fs ex H H1 h h1){b:Addr}{ob:Obj}(q:h.get? b=some ob)(n:H b=none)(hx:b ∉ ex):∃sl,h1.get? b=some {ob with slots:=sl}:=by
 by_cases hb:b∈fs
 ·exact u.slot b ob q n hb hx
 ·exact⟨ob.slots,u.keep b ob q n hb hx⟩
theorem Un.trans(a:Un fs ex H H1 h h1)(b:Un fs ex H1 H2 h1 h2):Un fs ex H H2 h h2 where
 keep:=fun c ob q n hc hx=>b.keep c ob (a.keep c ob q n hc hx) (a.free c ob q n hx) hc hx
 slot:=fun c ob q n hc hx=>by
  obtain⟨sl,e1⟩:=a.slot c ob q n hc hx
  obtain⟨M0,e2⟩:=b.slot c _ e1 (a.free c ob q n hx) hc hx
  exact⟨M0,e2⟩
 free:=fun c ob q n hx=>by
  obtain⟨o',e1⟩:=a.there c ob q hx
  exact b.free c o' e1 (a.free c ob q n hx) hx
 there:=fun c ob q hx=>by
  obtain⟨o',e1⟩:=a.there c ob q hx
  exact b.there c o' e1 hx
 nu:=fun c xs q=>b.nu c xs (a.nu c xs q)
 mw:=fun c ob xs q=>b.mw c ob xs (a.mw c ob xs q)
 ny:=fun c ps q=>by
  obtain⟨m1,e1⟩:=a.ny c ps q
  obtain⟨m2,e2⟩:=b.ny c _ e1
  exact⟨m1++m2,by rw[e2,Array.append_assoc]⟩
theorem Un.kept(k:∀b u,h.get? b=some u->h'.get? b=some u):Un fs ex H H h h':=
 ⟨fun b ob q _ _ _=>k b ob q,fun b ob q _ _ _=>⟨ob.slots,k b ob q⟩,fun _ _ _ n _=>n,fun b ob q _=>⟨ob,k b ob q⟩,fun _ _ q=>q,fun _ _ _ q=>q,fun _ ps q=>⟨#[],by rw[q];simp⟩⟩
theorem Un.refl:Un fs ex H H h h:=Un.kept fun _ _ q=>q
theorem Un.laid(k:∀b u,h.get? b=some u->h'.get? b=some u)(hp:h.objs.size<=a)(hn:H a=none):Un fs ex H (upd H a o) h h' where
 keep:=fun b u q _ _ _=>k b u q
 slot:=fun b u q _ _ _=>⟨u.slots,k b u q⟩
 free:=fun b u q n _=>by rw[aF (Nat.ne_of_lt (Nat.lt_of_lt_of_le (Heap.lt_size q) hp))];exact n
 there:=fun b u q _=>⟨u,k b u q⟩
 nu:=fun b xs q=>by rw[aF (aB q hn)];exact q
 mw:=fun b u xs q=>by rw[aF (aB q hn)];exact q
 ny:=fun b ps q=>⟨#[],by rw[aF (aB q hn),q];simp⟩
theorem Un.write(mu:IU (H x))(he:e=x\/H e=some (.own x))(k:∀b u,b≠e->h.get? b=some u->h'.get? b=some u)(Ij:∃u,h'.get? e=some u):Un fs ex H (upd H x o) h h':=by
 have hx:∀b,H b=none->b≠x:=fun b n z=>by subst z;rw[n] at mu;exact mu
 have hb:∀b,H b=none->b≠e:=fun b n z=>by
  subst z
  rcases he with r |r
  ·exact hx b n r
  ·rw[n] at r;cases r
 have hm:∀b u,H b=some u->¬IU (some u)->b≠x:=fun b u q nm z=>by subst z;rw[q] at mu;exact nm mu
 refine⟨fun b u q n _ _=>k b u (hb b n) q,fun b u q n _ _=>⟨u.slots,k b u (hb b n) q⟩,fun b u q n _=>by rw[aF (hx b n)];exact n,fun b u q _=>?_,
  fun b xs q=>by rw[aF (hm b _ q fun z=>z)];exact q,fun b u xs q=>by rw[aF (hm b _ q fun z=>z)];exact q,fun b ps q=>⟨#[],by rw[aF (hm b _ q fun z=>z),q];simp⟩⟩
 by_cases Gr:b=e
 ·subst Gr;exact Ij
 ·exact⟨u,k b u Gr q⟩
theorem Un.mono(u:Un fs ex H H1 h h1)(hs:∀b∈fs,b∈Dt)(hx:∀b∈ex,b∈MZ):Un Dt MZ H H1 h h1:=
 ⟨fun b ob q n hb he=>u.keep b ob q n (fun z=>hb (hs b z)) fun z=>he (hx b z),fun _ _ q n _ he=>u.any q n fun z=>he (hx _ z),fun b ob q n he=>u.free b ob q n fun z=>he (hx b z),fun b ob q he=>u.there b ob q fun z=>he (hx b z),u.nu,u.mw,u.ny⟩
end
def LZ (h:Heap) (H:Hp):List Addr:=(List.range h.objs.size).filter fun a=>(H a).isSome
def sI (h:Heap) (H:Hp):Heap:=PySem.W.hideAll h (LZ h H)
theorem yO(h:Heap)(H:Hp):(sI h H).objs.size=h.objs.size:=PySem.W.hideAll_size _ _
theorem Au{h:Heap}{H:Hp}{b:Addr}{o:Obj}(e:h.get? b=some o)(n:H b=none):(sI h H).get? b=some o:=
 PySem.W.hideAll_get _ e fun hm=>by
  have q:(H b).isSome=true:=(List.mem_filter.mp hm).2
  rw[n] at q;simp at q
theorem Du{h:Heap}{H:Hp}{b:Addr}{o:Obj}(e:(sI h H).get? b=some o):h.get? b=some o/\H b=none:=by
 have e':h.get? b=some o:=PySem.W.of_hideAll (LZ h H) e
 refine⟨e',?_⟩
 cases q:H b with
 |none=>rfl
 |some x=>
  have hm:b∈LZ h H:=List.mem_filter.mpr ⟨List.mem_range.mpr (Heap.lt_size e'),by simp[q]⟩
  have z:(sI h H).get? b=none:=PySem.W.hideAll_none (LZ h H) hm
  rw[z] at e;cases e
def Dv (g h:Heap) (L:Addr):List (Addr×Obj):=(List.range h.objs.size).filterMap fun a=>if a=L\/(g.get? a).isSome=true then none else (h.get? a).map fun o=>(a,o)
def rest (g h:Heap) (L d:Addr):List (Addr×Obj):=(Dv g h L).filter fun p=>decide (p.1≠d)
end L2
namespace L2
open PySem PySem.Spec PyProof.Rows
structure Mod(K:PySem.W.Frag)(mg:Str->Option Value)(base:Heap):Prop where
 L0:K.In base
 glob:base.Ns mainGlobals mg
 blt:∃mb,base.Ns builtinsNs mb/\∀x:Str,x≠"__name__"->mb x=bootBuiltins x
 nolimit:base.NoLimit
structure Cx where
 prog:Program
 w:World
 K:PySem.W.Frag
 mg:Str->Option Value
 base:Heap
 A:Around
 N:List Str
 s₀:Shared
 H₀:Hp
 env:Env
 outer:List Env
 stack:List Env
 ex:List Addr
 fn:Str->Bool
 calm:Bool
 pn:List (Addr×Obj)
 xe:Value->Shared->Prop
def fZ (l:List Env):List Addr:=l.filterMap (·.frame)
abbrev Cx.fs (X:Cx):List Addr:=fZ X.outer
def L4 (sc:Scope) (x:Str):Prop:=sc.names.lookup x=some .local\/sc.names.lookup x=some .cell\/sc.names.lookup x=some .free
def Loc (sc:Scope) (x:Str):Prop:=sc.names.lookup x=some .local\/sc.names.lookup x=some .cell
def Look (env:Env) (h:Heap) (m:Str->Option Value) (x:Str) (u:Value):Prop:=
 (env.kindOf x=some .local/\m x=some u)\/((env.kindOf x=some .cell\/env.kindOf x=some .free)/\∃c,env.cells.lookup x=some c/\h.IsCell c (some u))
structure Cx.Ok(X:Cx):Prop where
 mod:Mod X.K X.mg X.base
 kind:X.env.scope.kind=.function
 glob:X.env.globals=mainGlobals
 blt:X.env.builtins=builtinsNs
 above:X.s₀.heap.objs.size<=X.env.locals
 inj:∀x y c,X.env.cells.lookup x=some c->X.env.cells.lookup y=some c->x=y
 has:∀x,(X.env.kindOf x=some .cell\/X.env.kindOf x=some .free)->∃c,X.env.cells.lookup x=some c
 IW:∀x c,X.fn x=true->X.env.cells.lookup x=some c->X.s₀.heap.objs.size<=c
 hd:X.calm=true->X.A.handled=none
 frames:X.A.frames=some X.stack
 L5:X.stack=X.outer\/(X.stack=X.env::X.outer/\X.env.frame=some X.env.locals)
 Py:∀b∈X.ex,b≠X.env.locals/\∀x c,X.env.cells.lookup x=some c->c≠b
 bs:∀b o,X.base.get? b=some o->X.s₀.heap.get? b=some o/\X.H₀ b=none
 Av:X.base.objs.size<=X.s₀.heap.objs.size
 Aw:∀b o,X.base.get? b=some o->b ∉ X.ex
 Dw:∀b∈X.ex,b ∉ X.fs
 nA:X.s₀.heap.FunFrames X.base X.outer
 Fl:∀b∈X.fs,X.H₀ b=none
structure Inv(X:Cx)(pins:List (Addr×Obj))(σ:List (Option V))(H:Hp)(s:Shared):Prop where
 ok:X.Ok
 os:s.os=X.s₀.os
 bare:AllBare s.gens
 base:Un X.fs X.ex X.H₀ H X.s₀.heap s.heap
 loc:∃m,s.heap.Ns X.env.locals m/\∀(i:Nat) (x:Str) (v:V),X.N[i]?=some x->σ[i]?=some (some v)->L4 X.env.scope x->∃u,RelV v u/\Look X.env s.heap m x u
 cell:∀x c,X.env.cells.lookup x=some c->∃v,s.heap.IsCell c v
 free:H X.env.locals=none
 j7:∀x c,X.env.cells.lookup x=some c->H c=none
 pin:∀p∈X.pn++pins,s.heap.get? p.1=some p.2/\H p.1=none/\p.1≠X.env.locals/\p.1 ∉ X.fs/\∀v,p.2.data≠.cell v
 c7:mq X.prog X.w H s.heap
 len:σ.length=X.N.length
section
variable{X:Cx}{pins:List (Addr×Obj)}{σ:List (Option V)}{H H':Hp}{s:Shared}{h':Heap}
theorem Cx.Ok.M1(ok:X.Ok){b:Addr}{o:Obj}(e:X.base.get? b=some o):b ∉ X.fs:=fun hb=>by
 have:=(ok.nA.mem hb).1
 rw[e] at this;cases this
theorem Inv.bs(I:Inv X pins σ H s):∀b o,X.base.get? b=some o->s.heap.get? b=some o/\H b=none:=fun b o e=>
 ⟨I.base.keep b o (I.ok.bs b o e).1 (I.ok.bs b o e).2 (I.ok.M1 e) (I.ok.Aw b o e),I.base.free b o (I.ok.bs b o e).1 (I.ok.bs b o e).2 (I.ok.Aw b o e)⟩
theorem Inv.bk(I:Inv X pins σ H s):∀b o,X.base.get? b=some o->s.heap.get? b=some o:=fun b o e=>(I.bs b o e).1
theorem Inv.mod(I:Inv X pins σ H s):Mod X.K X.mg X.base:=I.ok.mod
theorem Inv.pz(I:Inv X pins σ H s):X.K.In s.heap:=I.ok.mod.L0.keeps I.bk
theorem Inv.nolimit(I:Inv X pins σ H s):s.heap.NoLimit:=I.ok.mod.nolimit.keeps I.bk
theorem Inv.fr(I:Inv X pins σ H s):∃m,Fr X.base X.env.locals s.heap m:=
 let ⟨m,hn,_⟩:=I.loc
 ⟨m,hn,I.bk,Nat.le_trans I.ok.Av I.ok.above⟩
theorem Inv.lt(I:Inv X pins σ H s):X.env.locals<s.heap.objs.size:=let ⟨_,hn,_⟩:=I.loc;hn.lt
theorem Inv.sz(I:Inv X pins σ H s):X.s₀.heap.objs.size<=s.heap.objs.size:=Nat.le_trans I.ok.above (Nat.le_of_lt I.lt)
theorem Inv.M3(I:Inv X pins σ H s){a:Addr}(h:s.heap.objs.size<=a):a ∉ X.fs:=fun hb=>by
 obtain⟨_,o,ho,_⟩:=I.ok.nA.mem hb
 exact absurd (Nat.lt_of_lt_of_le (Heap.lt_size ho) (Nat.le_trans I.sz h)) (Nat.lt_irrefl _)
theorem Inv.Gu(I:Inv X pins σ H s):∀x c,X.env.cells.lookup x=some c->c≠X.env.locals:=fun x c e z=>by
 obtain⟨v,o,ho,hd⟩:=I.cell x c e
 obtain⟨m,⟨o',es,ep,Gv,xm,_⟩,_⟩:=I.loc
 rw[z,Gv] at ho;cases ho;rw[xm] at hd;cases hd
theorem Inv.nA(I:Inv X pins σ H s):s.heap.FunFrames X.base X.outer:=by
 have all:∀(l:List Env),(∀b∈fZ l,b∈X.fs)->X.s₀.heap.FunFrames X.base l->s.heap.FunFrames X.base l:=by
  intro l
  induction l with
  |nil=>intro _ _;trivial
  |cons env r ih=>
   intro hs hl
   obtain⟨hk,⟨L,o,hf,hn,ho,hd⟩,hr⟩:=hl
   have hL:L∈X.fs:=hs L (by unfold fZ;rw[List.filterMap_cons,hf];exact List.mem_cons_self)
   obtain⟨sl,e⟩:=I.base.slot L o ho (I.ok.Fl L hL) hL fun z=>I.ok.Dw L z hL
   exact⟨hk,⟨L,_,hf,hn,e,hd⟩,ih (fun b hb=>hs b (by unfold fZ;rw[List.filterMap_cons,hf];exact List.mem_cons_of_mem _ hb)) hr⟩
 exact all X.outer (fun _ hb=>hb) I.ok.nA
theorem Inv.stack(I:Inv X pins σ H s):s.heap.FunFrames X.base X.stack:=by
 rcases I.ok.L5 with e |⟨e,hf⟩
 ·rw[e];exact I.nA
 ·rw[e]
  obtain⟨m,hn,_⟩:=I.loc
  refine .cons (by rw[I.ok.kind];decide) hf hn ?_ I.nA
  exact Heap.get?_none_of_le (Nat.le_trans I.ok.Av I.ok.above)
theorem Inv.sJ(I:Inv X pins σ H s):∀b∈fZ X.stack,b∈X.env.locals::X.fs:=fun b hb=>by
 rcases I.ok.L5 with e |⟨e,hf⟩
 ·rw[e] at hb;exact List.mem_cons_of_mem _ hb
 ·rw[e] at hb
  unfold fZ at hb
  rw[List.filterMap_cons,hf] at hb
  exact hb
theorem Inv.xn(I:Inv X pins σ H s):∀b∈fZ X.stack,H b=none:=fun b hb=>by
 rcases List.mem_cons.mp (I.sJ b hb) with e |hb
 ·rw[e];exact I.free
 ·obtain⟨_,o,ho,_⟩:=I.ok.nA.mem hb
  exact I.base.free b o ho (I.ok.Fl b hb) fun z=>I.ok.Dw b z hb
theorem Inv.step{g':Array GenState}{t':Nat}{d':Drawn}{ch:List Addr}(I:Inv X pins σ H s)
 (Df:∀b∈ch,(b∈X.ex\/X.s₀.heap.objs.size<=b)/\b≠X.env.locals/\(∀x c,X.env.cells.lookup x=some c->c≠b)/\∀p∈X.pn++pins,p.1≠b)
 (keep:∀b o,b≠X.env.locals->b ∉ X.fs->b ∉ ch->s.heap.get? b=some o->H b=none->h'.get? b=some o)
 (slot:∀b o,b≠X.env.locals->b∈X.fs->b ∉ ch->s.heap.get? b=some o->H b=none->∃sl,h'.get? b=some {o with slots:=sl}) (free:∀b o,b ∉ ch->s.heap.get? b=some o->H b=none->H' b=none)
 (there:∀b o,b ∉ ch->s.heap.get? b=some o->∃o',h'.get? b=some o')
 (nu:∀b xs,H b=some (.tup xs)->H' b=some (.tup xs)) (mw:∀b o u,H b=some (.vJ o u)->H' b=some (.vJ o u)) (ny:∀b ps,H b=some (.Fj ps)->∃more,H' b=some (.Fj (ps++more)))
 (ns:∀m,s.heap.Ns X.env.locals m->h'.Ns X.env.locals m) (c7:mq X.prog X.w H' h') (hg:AllBare g') :
 Inv X pins σ H' {s with heap:=h',gens:=g',drawn:=d',toks:=t' }:=by
 have Pz:∀b o,X.s₀.heap.get? b=some o->b≠X.env.locals:=fun b o e=>Nat.ne_of_lt (Nat.lt_of_lt_of_le (Heap.lt_size e) I.ok.above)
 have L6:∀b o,X.s₀.heap.get? b=some o->b ∉ X.ex->b ∉ ch:=fun b o e hx hb=>by
  rcases(Df b hb).1 with z |z
  ·exact hx z
  ·exact absurd (Nat.lt_of_lt_of_le (Heap.lt_size e) z) (Nat.lt_irrefl _)
 have cellK:∀x c,X.env.cells.lookup x=some c->∀v,s.heap.IsCell c v->h'.IsCell c v:=fun x c e v ⟨o,ho,hd⟩=>by
  have IX:c ∉ ch:=fun z=>(Df c z).2.2.1 x c e rfl
  by_cases hc:c∈X.fs
  ·obtain⟨sl,q⟩:=slot c o (I.Gu x c e) hc IX ho (I.j7 x c e)
   exact⟨_,q,hd⟩
  ·exact⟨o,keep c o (I.Gu x c e) hc IX ho (I.j7 x c e),hd⟩
 refine⟨I.ok,I.os,hg,⟨fun b o e n hb hx=>?_,fun b o e n hb hx=>?_,fun b o e n hx=>?_,fun b o e hx=>?_,fun b xs e=>nu b xs (I.base.nu b xs e),fun b o xs e=>mw b o xs (I.base.mw b o xs e),fun b ps e=>?_⟩,?_,fun x c e=>?_,?_,fun x c e=>?_,fun p hp=>?_,c7,I.len⟩
 ·exact keep b o (Pz b o e) hb (L6 b o e hx) (I.base.keep b o e n hb hx) (I.base.free b o e n hx)
 ·obtain⟨sl,e1⟩:=I.base.slot b o e n hb hx
  obtain⟨M0,e2⟩:=slot b _ (Pz b o e) hb (L6 b o e hx) e1 (I.base.free b o e n hx)
  exact⟨M0,e2⟩
 ·obtain⟨o',e1⟩:=I.base.there b o e hx
  exact free b o' (L6 b o e hx) e1 (I.base.free b o e n hx)
 ·obtain⟨o',e1⟩:=I.base.there b o e hx
  exact there b o' (L6 b o e hx) e1
 ·obtain⟨m1,e1⟩:=I.base.ny b ps e
  obtain⟨m2,e2⟩:=ny b _ e1
  exact⟨m1++m2,by rw[e2,Array.append_assoc]⟩
 ·obtain⟨m,hn,hl⟩:=I.loc
  refine⟨m,ns m hn,fun i x v e1 e2 e3=>?_⟩
  obtain⟨u,r,l⟩:=hl i x v e1 e2 e3
  refine⟨u,r,?_⟩
  rcases l with l |⟨k,c,e,z⟩
  ·exact .inl l
  ·exact .inr ⟨k,c,e,cellK x c e _ z⟩
 ·obtain⟨v,z⟩:=I.cell x c e
  exact⟨v,cellK x c e v z⟩
 ·obtain⟨m,⟨o,_,_,ho,_⟩,_⟩:=I.loc
  exact free _ o (fun z=>(Df _ z).2.1 rfl) ho I.free
 ·obtain⟨v,o,ho,hd⟩:=I.cell x c e
  exact free c o (fun z=>(Df c z).2.2.1 x c e rfl) ho (I.j7 x c e)
 ·obtain⟨e,n,ne,nf,d⟩:=I.pin p hp
  have IX:p.1 ∉ ch:=fun z=>(Df p.1 z).2.2.2 p hp rfl
  exact⟨keep p.1 p.2 ne nf IX e n,free p.1 p.2 IX e n,ne,nf,d⟩
theorem Inv.un{t':Nat}(I:Inv X pins σ H s)(u:Un X.fs [] H H' s.heap h')(c7:mq X.prog X.w H' h'):Inv X pins σ H' {s with heap:=h',toks:=t' }:=by
 obtain⟨m,⟨o,es,ep,ho,r⟩,_⟩:=id I.loc
 obtain⟨sl,hL⟩:=u.any ho I.free (by simp)
 exact I.step (g':=s.gens) (d':=s.drawn) (ch:=[]) (fun _ z=>nomatch z) (fun b o _ hb _ e n=>u.keep b o e n hb (by simp)) (fun b o _ hb _ e n=>u.slot b o e n hb (by simp)) (fun b o _ e n=>u.free b o e n (by simp)) (fun b o _ e=>u.there b o e (by simp)) u.nu u.mw u.ny (fun m' hm=>by
  obtain⟨o',M4,M5,Gv,r'⟩:=hm
  rw[ho] at Gv;cases Gv
  exact⟨_,M4,M5,hL,r'⟩) c7 I.bare
theorem Inv.call{g':Array GenState}{t':Nat}{d':Drawn}{ch:List Addr}(I:Inv X pins σ H s)(u:Un (fZ X.stack) ch H H' s.heap h')(c7:mq X.prog X.w H' h')(hg:AllBare g')
 (Df:∀b∈ch,(b∈X.ex\/X.s₀.heap.objs.size<=b)/\b≠X.env.locals/\(∀x c,X.env.cells.lookup x=some c->c≠b)/\∀p∈X.pn++pins,p.1≠b) :
 Inv X pins σ H' {s with heap:=h',gens:=g',drawn:=d',toks:=t' }:=by
 obtain⟨m,⟨o,es,ep,ho,r⟩,_⟩:=id I.loc
 obtain⟨sl,hL⟩:=u.any ho I.free fun z=>(Df _ z).2.1 rfl
 exact I.step (ch:=ch) Df (fun b o hL hb hc e n=>u.keep b o e n (fun z=>(List.mem_cons.mp (I.sJ b z)).elim hL hb) hc) (fun b o _ _ hc e n=>u.any e n hc) (fun b o hc e n=>u.free b o e n hc) (fun b o hc e=>u.there b o e hc) u.nu u.mw u.ny (fun m' hm=>by
  obtain⟨o',M4,M5,Gv,r'⟩:=hm
  rw[ho] at Gv;cases Gv
  exact⟨_,M4,M5,hL,r'⟩) c7 hg
theorem Inv.turned{t':Nat}{it:Addr}(I:Inv X pins σ H s)(k:∀b o,b≠it->s.heap.get? b=some o->h'.get? b=some o)(hn:H it=none)(hL:it≠X.env.locals)
 (h1:it∈X.ex\/X.s₀.heap.objs.size<=it) (h2:∀x c,X.env.cells.lookup x=some c->c≠it) (h3:∀p∈X.pn++pins,p.1≠it):Inv X pins σ H {s with heap:=h',toks:=t' }:=by
 have IY:∀b u,H b=some u->b≠it:=fun b u e z=>by rw[z,hn] at e;cases e
 refine I.step (g':=s.gens) (d':=s.drawn) (ch:=[it]) (fun b hb=>?_) (fun b o _ _ hc e _=>k b o (fun z=>hc (by simp[z])) e) (fun b o _ _ hc e _=>⟨o.slots,k b o (fun z=>hc (by simp[z])) e⟩) (fun _ _ _ _ n=>n)
  (fun b o hc e=>⟨o,k b o (fun z=>hc (by simp[z])) e⟩) (fun _ _ e=>e) (fun _ _ _ e=>e) (fun b ps e=>⟨#[],by rw[e];simp⟩) (fun m hm=>?_) (fun b u e=>?_) I.bare
 ·have e:b=it:=by simpa using hb
  subst e
  exact⟨h1,hL,h2,h3⟩
 ·obtain⟨o,es,ep,ho,r⟩:=hm
  exact⟨o,es,ep,k _ o (Ne.symm hL) ho,r⟩
 ·refine(I.c7 b u e).j6 (fun c v hc q=>k c v ?_ q) (fun _ q=>q) fun _ _ q=>q
  rcases hc with z |z
  ·rw[z];exact IY b u e
  ·exact IY c _ z
theorem Inv.tok(I:Inv X pins σ H s)(t:Nat):Inv X pins σ H {s with toks:=t}:=I.un (h':=s.heap) (t':=t) Un.refl I.c7
theorem Inv.kept{t':Nat}(I:Inv X pins σ H s)(k:∀b u,s.heap.get? b=some u->h'.get? b=some u):Inv X pins σ H {s with heap:=h',toks:=t' }:=I.un (Un.kept k) (I.c7.kept k)
theorem Inv.laid{a:Addr}{o:HO}{t':Nat}(I:Inv X pins σ H s)(k:∀b u,s.heap.get? b=some u->h'.get? b=some u)(hp:s.heap.objs.size<=a)(new:cS X.prog X.w (upd H a o) h' a o) :
 Inv X pins σ (upd H a o) {s with heap:=h',toks:=t' }:=I.un (Un.laid k hp (I.c7.fresh hp)) (I.c7.laid k hp new)
theorem Inv.write{x e:Addr}{o:HO}{t':Nat}(I:Inv X pins σ H s)(mu:IU (H x))(he:e=x\/H e=some (.own x))(k:∀b u,b≠e->s.heap.get? b=some u->h'.get? b=some u)(Ij:∃u,h'.get? e=some u)
 (new:cS X.prog X.w (upd H x o) h' x o):Inv X pins σ (upd H x o) {s with heap:=h',toks:=t' }:=I.un (Un.write mu he k Ij) (I.c7.write mu he k Ij new)
theorem Inv.xo{ui:List (Addr×Obj)}(I:Inv X pins σ H s)(h:∀p∈ui,s.heap.get? p.1=some p.2/\H p.1=none/\p.1≠X.env.locals/\p.1 ∉ X.fs/\∀v,p.2.data≠.cell v):Inv X ui σ H s:=
 ⟨I.ok,I.os,I.bare,I.base,I.loc,I.cell,I.free,I.j7,fun p hp=>(List.mem_append.mp hp).elim (fun z=>I.pin p (List.mem_append_left _ z)) (h p),I.c7,I.len⟩
theorem uj{N:List Str}(hN:N.Nodup){i j:Nat}{x:Str}(a:N[i]?=some x)(b:N[j]?=some x):i=j:=by
 obtain⟨h1,e1⟩:=List.getElem?_eq_some_iff.mp a
 obtain⟨h2,e2⟩:=List.getElem?_eq_some_iff.mp b
 exact(List.getElem_inj hN).mp (e1.trans e2.symm)
theorem rK{M:Model}{A:Around}{E:Value->Shared->Prop}{i:Nat}{x:Str}{v:V}{u:Value}{Q:Unit->Shared->Prop}(I:Inv X pins σ H s)(hN:X.N.Nodup)(hi:X.N[i]?=some x)(hx:Loc X.env.scope x)(r:RelV v u)
 (h:∀s',Inv X pins (σ.set i (some v)) H s'->(∃a,Heap.SameBut a s.heap s'.heap/\(a=X.env.locals\/X.env.cells.lookup x=some a))->Q () s') (hf:X.fn x=true\/X.env.scope.names.lookup x=some .local:=by first |exact .inl rfl |exact .inr rfl |assumption):wpAny M A (storeName X.env x u) Q E s:=by
 obtain⟨m,hn,hl⟩:=id I.loc
 have M6:(X.env.scope.kind==.class ||(X.env.scope.kind==.module&&X.env.locals != X.env.globals))=false:=by rw[I.ok.kind];rfl
 have IZ:i<σ.length:=by rw[I.len];exact(List.getElem?_eq_some_iff.mp hi).1
 have Gu:=I.Gu
 have tracked:∀ {a:Addr} {h':Heap},(∃o,s.heap.get? a=some o/\H a=none)->Heap.SameBut a s.heap h'->mq X.prog X.w H h':=fun {a h'} ha hs b ob e=>by
  obtain⟨_,_,mx⟩:=ha
  refine(I.c7 b ob e).j6 (fun c w' hc q=>(hs.2 c ?_).trans q) (fun _ q=>q) fun _ _ q=>q
  rintro rfl
  rcases hc with rfl |hc
  ·rw[mx] at e;cases e
  ·rw[mx] at hc;cases hc
 rcases hx with hk |hk
 ·refine wpAny_storeName_local hk hn (fun h' RK hs=>?_) M6
  obtain⟨oL,_,_,RL,_⟩:=id hn
  refine h _ ⟨I.ok,I.os,I.bare,⟨fun b o e n hb hx=>?_,fun b o e n hb hx=>?_,I.base.free,fun b o e hx=>?_,I.base.nu,I.base.mw,I.base.ny⟩,⟨_,RK,fun j y v' e1 e2 e3=>?_⟩,fun y c e=>?_,I.free,I.j7,fun p hp=>?_,tracked ⟨oL,RL,I.free⟩ hs,by simpa using I.len⟩ ⟨_,hs,.inl rfl⟩
  ·exact(hs.2 b (Nat.ne_of_lt (Nat.lt_of_lt_of_le (Heap.lt_size e) I.ok.above))).trans (I.base.keep b o e n hb hx)
  ·obtain⟨sl,e1⟩:=I.base.slot b o e n hb hx
   exact⟨sl,(hs.2 b (Nat.ne_of_lt (Nat.lt_of_lt_of_le (Heap.lt_size e) I.ok.above))).trans e1⟩
  ·obtain⟨o',e1⟩:=I.base.there b o e hx
   exact⟨o',(hs.2 b (Nat.ne_of_lt (Nat.lt_of_lt_of_le (Heap.lt_size e) I.ok.above))).trans e1⟩
  ·by_cases hj:j=i
   ·subst hj
    rw[hi] at e1;cases e1
    rw[List.getElem?_set_self IZ] at e2
    cases e2
    exact⟨u,r,.inl ⟨hk,by simp⟩⟩
   ·rw[List.getElem?_set_ne (Ne.symm hj)] at e2
    obtain⟨u',r',q⟩:=hl j y v' e1 e2 e3
    refine⟨u',r',?_⟩
    rcases q with ⟨k,e⟩ |⟨k,c,e,z⟩
    ·refine .inl ⟨k,?_⟩
     have:y≠x:=fun e=>hj (uj hN e1 (e▸hi))
     simp[this,e]
    ·exact .inr ⟨k,c,e,z.sameBut hs (Gu y c e)⟩
  ·obtain⟨w',z⟩:=I.cell y c e
   exact⟨w',z.sameBut hs (Gu y c e)⟩
  ·obtain⟨e,n,ne,nf,d⟩:=I.pin p hp
   exact⟨(hs.2 p.1 ne).trans e,n,ne,nf,d⟩
 ·have I0:X.fn x=true:=by
   rcases hf with z |z
   ·exact z
   ·rw[z] at hk;cases hk
  obtain⟨c,hc⟩:=I.ok.has x (.inl hk)
  obtain⟨w',z⟩:=I.cell x c hc
  refine wpAny_storeName_cell I.ok.kind hk hc z (fun h' Ja hs=>?_)
  obtain⟨oc,PB,M7⟩:=id z
  refine h {s with heap:=h' } ⟨I.ok,I.os,I.bare,⟨fun b o e n hb hx=>?_,fun b o e n hb hx=>?_,I.base.free,fun b o e hx=>?_,I.base.nu,I.base.mw,I.base.ny⟩,⟨m,hn.sameBut hs (Ne.symm (Gu x c hc)),fun j y v' e1 e2 e3=>?_⟩,fun y c' e=>?_,I.free,I.j7,fun p hp=>?_,tracked ⟨oc,PB,I.j7 x c hc⟩ hs,by simpa using I.len⟩ ⟨c,hs,.inr hc⟩
  ·exact(hs.2 b (Nat.ne_of_lt (Nat.lt_of_lt_of_le (Heap.lt_size e) (I.ok.IW x c I0 hc)))).trans (I.base.keep b o e n hb hx)
  ·obtain⟨sl,e1⟩:=I.base.slot b o e n hb hx
   exact⟨sl,(hs.2 b (Nat.ne_of_lt (Nat.lt_of_lt_of_le (Heap.lt_size e) (I.ok.IW x c I0 hc)))).trans e1⟩
  ·obtain⟨o',e1⟩:=I.base.there b o e hx
   exact⟨o',(hs.2 b (Nat.ne_of_lt (Nat.lt_of_lt_of_le (Heap.lt_size e) (I.ok.IW x c I0 hc)))).trans e1⟩
  ·by_cases hj:j=i
   ·subst hj
    rw[hi] at e1;cases e1
    rw[List.getElem?_set_self IZ] at e2
    cases e2
    exact⟨u,r,.inr ⟨.inl hk,c,hc,Ja⟩⟩
   ·rw[List.getElem?_set_ne (Ne.symm hj)] at e2
    obtain⟨u',r',q⟩:=hl j y v' e1 e2 e3
    refine⟨u',r',?_⟩
    rcases q with q |⟨k,c',e,z'⟩
    ·exact .inl q
    ·refine .inr ⟨k,c',e,z'.sameBut hs ?_⟩
     rintro rfl
     exact hj (uj hN e1 (I.ok.inj _ _ _ e hc▸hi))
  ·by_cases PC:c'=c
   ·subst PC;exact⟨_,Ja⟩
   ·obtain⟨w2,z2⟩:=I.cell y c' e
    exact⟨w2,z2.sameBut hs PC⟩
  ·obtain⟨e,n,ne,nf,d⟩:=I.pin p hp
   refine⟨(hs.2 p.1 ?_).trans e,n,ne,nf,d⟩
   intro q
   rw[q,PB] at e
   have q':oc=p.2:=Option.some.inj e
   exact d w' (by rw[<- q'];exact M7)
theorem uk{M:Model}{A:Around}{E:Value->Shared->Prop}{i:Nat}{x:Str}{v:V}{u:Value}{Q:Unit->Shared->Prop}(I:Inv X pins σ H s)(hN:X.N.Nodup)(hi:X.N[i]?=some x)(hx:Loc X.env.scope x)(r:RelV v u)
 (h:∀s',Inv X pins (σ.set i (some v)) H s'->Q () s') (hf:X.fn x=true\/X.env.scope.names.lookup x=some .local:=by first |exact .inl rfl |exact .inr rfl |assumption):wpAny M A (storeName X.env x u) Q E s:=
 rK I hN hi hx r (fun s' I' _=>h s' I') hf
theorem Inv.Jb{s':Shared}{ch:List Addr}(I:Inv X pins σ H s)(ho:s'.os=s.os)(u:Un (fZ X.stack) ch H H' s.heap s'.heap)(c7:mq X.prog X.w H' s'.heap)(hg:AllBare s'.gens)
 (Df:∀b∈ch,(b∈X.ex\/X.s₀.heap.objs.size<=b)/\b≠X.env.locals/\(∀x c,X.env.cells.lookup x=some c->c≠b)/\∀p∈X.pn++pins,p.1≠b):Inv X pins σ H' s':=by
 obtain⟨h',g',d',t',o'⟩:=s'
 have e:o'=s.os:=ho
 subst e
 exact I.call (g':=g') (t':=t') (d':=d') u c7 hg Df
end
abbrev XK:=Value->Option Addr->Hp->Prop
abbrev St:=List (Option V)
abbrev VK:=V->Hp->Prop
abbrev TE:=St->Hp->VK->Prop
abbrev TT:=St->Hp->(Bool->Hp->Prop)->Prop
abbrev TA:=St->Hp->(List V->Hp->Prop)->Prop
structure Ends where
 nx:St->Hp->Prop
 rt:VK
 bk:St->Hp->Prop:=fun _ _=>False
 ct:St->Hp->Prop:=fun _ _=>False
abbrev TS:=Ends->St->Hp->Prop
def EP (X:Cx) (pins:List (Addr×Obj)) (σ:St) (Q:VK) (u:Value) (s':Shared):Prop:=∃v H',Inv X pins σ H' s'/\RelV v u/\Q v H'
def TP (X:Cx) (pins:List (Addr×Obj)) (σ:St) (Q:Bool->Hp->Prop) (b:Bool) (s':Shared):Prop:=∃H',Inv X pins σ H' s'/\Q b H'
def AP (X:Cx) (pins:List (Addr×Obj)) (σ:St) (Q:List V->Hp->Prop) (us:List Value) (s':Shared):Prop:=∃vs H',Inv X pins σ H' s'/\Vals vs us/\Q vs H'
def SP (X:Cx) (pins:List (Addr×Obj)) (D:Ends) (f:Flow) (s':Shared):Prop:=
 match f with
 |.next=>∃σ' H',Inv X pins σ' H' s'/\D.nx σ' H'
 |.brk=>∃σ' H',Inv X pins σ' H' s'/\D.bk σ' H'
 |.cont=>∃σ' H',Inv X pins σ' H' s'/\D.ct σ' H'
 |.ret u=>∃v σ' H',Inv X pins σ' H' s'/\RelV v u/\D.rt v H'
def PE (X:Cx) (e:Expr) (t:TE):Prop:=
 ∀(pins:List (Addr×Obj)) (s:Shared) (σ:St) (H:Hp) (Q:VK),Inv X pins σ H s->t σ H Q->wpAny (model X.prog X.w) X.A (eval e X.env) (EP X pins σ Q) X.xe s
def PT (X:Cx) (e:Expr) (t:TT):Prop:=
 ∀(pins:List (Addr×Obj)) (s:Shared) (σ:St) (H:Hp) (Q:Bool->Hp->Prop),Inv X pins σ H s->t σ H Q->wpAny (model X.prog X.w) X.A (isTrue e X.env (eval e X.env)) (TP X pins σ Q) X.xe s
def PW (X:Cx) (e:Expr) (t:TT):Prop:=
 ∀(whole:Sem Value) (pins:List (Addr×Obj)) (s:Shared) (σ:St) (H:Hp) (Q:Bool->Hp->Prop),Inv X pins σ H s->t σ H Q->wpAny (model X.prog X.w) X.A (isTrue e X.env whole) (TP X pins σ Q) X.xe s
theorem PW.pt{X:Cx}{e:Expr}{t:TT}(h:PW X e t):PT X e t:=h _
def PA (X:Cx) (es:List Expr) (t:TA):Prop:=
 ∀(pos:Pos) (pins:List (Addr×Obj)) (s:Shared) (σ:St) (H:Hp) (Q:List V->Hp->Prop),Inv X pins σ H s->t σ H Q->wpAny (model X.prog X.w) X.A (spliced (backTo pos (starEach es X.env))) (AP X pins σ Q) X.xe s
def PS (X:Cx) (st:Stmt) (t:TS):Prop:=
 ∀(pins:List (Addr×Obj)) (s:Shared) (σ:St) (H:Hp) (D:Ends),Inv X pins σ H s->t D σ H->wpAny (model X.prog X.w) X.A (exec st X.env) (SP X pins D) X.xe s
def yP (X:Cx) (st:List Stmt) (t:TS):Prop:=
 ∀(pins:List (Addr×Obj)) (s:Shared) (σ:St) (H:Hp) (D:Ends),Inv X pins σ H s->t D σ H->wpAny (model X.prog X.w) X.A (execs st X.env) (SP X pins D) X.xe s
theorem eF{α:Type}{t:Sem α}{Q Q':α->Shared->Prop}{M:Model}{A:Around}{E:Value->Shared->Prop}{s:Shared}(h:wpAny M A t Q E s)(hQ:∀a s,Q a s->Q' a s):wpAny M A t Q' E s:=wpAny_mono h hQ fun _ _ x=>x
end L2
namespace L2
open PySem PySem.Spec PyProof.Rows
section
variable{X:Cx}
theorem bin{a b:Expr}{ta tb:TE}(ha:PE X a ta)(hb:PE X b tb){pins:List (Addr×Obj)}{s:Shared}{σ:St}{H:Hp}{R:V->V->Hp->Prop}(I:Inv X pins σ H s)(h:ta σ H fun x H1=>tb σ H1 fun y H2=>R x y H2)
 {α:Type} {Q:α->Shared->Prop} {f:Value->Value->Sem α}
 (hf:∀v u s2 x y H2,Inv X pins σ H2 s2->RelV x v->RelV y u->R x y H2->wpAny (model X.prog X.w) X.A (f v u) Q X.xe s2) :
 wpAny (model X.prog X.w) X.A (eval a X.env) (fun v s₁=>wpAny (model X.prog X.w) X.A (eval b X.env) (fun u s₂=>wpAny (model X.prog X.w) X.A (f v u) Q X.xe s₂) X.xe s₁) X.xe s:=by
 refine eF (ha pins s σ H _ I h) fun v s1 zqz=>?_
 obtain⟨x,H1,I1,r1,q1⟩:=zqz
 refine eF (hb pins s1 σ H1 _ I1 q1) fun u s2 zqz=>?_
 obtain⟨y,H2,I2,r2,q2⟩:=zqz
 exact hf v u s2 x y H2 I2 r1 r2 q2
def PD (Q:V->Prop):Option (Option V)->Prop
 |some (some v)=>Q v
 |_=>False
theorem Gw{Q:V->Prop}:∀ {o:Option (Option V)},PD Q o->∃v,o=some (some v)/\Q v
 |some (some v),h=>⟨v,rfl,h⟩
 |some none,h=>h.elim
 |none,h=>h.elim
def fo (i:Nat):TE:=fun σ H Q=>PD (fun v=>Q v H) σ[i]?
def tC (v:V):TE:=fun _ H Q=>Q v H
theorem Gx{i:Nat}{x:Str}{pos:Pos}(hN:X.N[i]?=some x)(hv:L4 X.env.scope x)(hd:(x==("__debug__":Str))=false:=by decide)(Ax:(x==("__classdict__":Str))=false:=by decide):PE X (.Name x pos) (fo i):=by
 intro pins s σ H Q I h
 obtain⟨v,e,h⟩:=Gw h
 obtain⟨m,hn,hl⟩:=I.loc
 obtain⟨u,r,l⟩:=hl i x v hN e hv
 have fin:EP X pins σ Q u s:=⟨v,H,I,r,h⟩
 rcases l with ⟨hk,hm⟩ |⟨hk,c,hc,xp⟩
 ·exact wpAny_Name (wpAny_loadName_local I.ok.kind hk hn hm fin) hd
 ·rcases hk with hk |hk
  ·exact wpAny_Name (wpAny_loadName_cell I.ok.kind hk hc xp fin) hd
  ·exact wpAny_Name (wpAny_loadName_free I.ok.kind hk hc xp fin Ax) hd
theorem ah{i j pos}:PE X (.Constant (.int i) j pos) (tC (.int i)):=fun _ _ _ H _ I h=>wpAny_Constant_int ⟨.int i,H,I.tok _,⟨_,rfl⟩,h⟩
theorem um{b j pos}:PE X (.Constant (.bool b) j pos) (tC (.bl b)):=fun _ _ _ H _ I h=>Constant_bool ⟨.bl b,H,I,rfl,h⟩
theorem nC{j pos}:PE X (.Constant .none j pos) (tC .c6):=fun _ _ _ H _ I h=>Constant_none ⟨.c6,H,I,rfl,h⟩
theorem bf{x j pos}:PE X (.Constant (.str x) j pos) (tC (.str x)):=fun _ _ _ H _ I h=>Calls.Constant_str ⟨.str x,H,I.tok _,⟨_,rfl⟩,h⟩
def Gl (X:Cx) (x:Str):Prop:=X.env.kindOf x=some .globalImplicit
theorem sM{E:Value->Shared->Prop}{pins:List (Addr×Obj)}{s:Shared}{σ:St}{H:Hp}{x:Str}{u:Value}{pos:Pos}{Q:Value->Shared->Prop}(I:Inv X pins σ H s)(hg:Gl X x)(hm:X.mg x=some u)(h:Q u s)
 (hd:(x==("__debug__":Str))=false:=by decide):wpAny (model X.prog X.w) X.A (eval (.Name x pos) X.env) Q E s:=
 Calls.Name_function_global I.ok.kind hg (Calls.loadGlobal_global (by rw[I.ok.glob];exact I.mod.glob.keeps I.bk) hm h) hd
theorem lQ{E:Value->Shared->Prop}{pins:List (Addr×Obj)}{s:Shared}{σ:St}{H:Hp}{x:Str}{u:Value}{pos:Pos}{Q:Value->Shared->Prop}(I:Inv X pins σ H s)(hg:Gl X x)(hm:X.mg x=none)(hv:bootBuiltins x=some u)(h:Q u s)
 (hn:x≠"__name__":=by decide) (hd:(x==("__debug__":Str))=false:=by decide):wpAny (model X.prog X.w) X.A (eval (.Name x pos) X.env) Q E s:=by
 obtain⟨mb,h1,h2⟩:=I.mod.blt
 exact Calls.Name_function_global I.ok.kind hg (Calls.loadGlobal_builtin (by rw[I.ok.glob];exact I.mod.glob.keeps I.bk) hm (by rw[I.ok.blt];exact h1.keeps I.bk) ((h2 x hn).trans hv) h) hd
theorem pA{x:Str}{v:V}{u:Value}{pos:Pos}(hg:Gl X x)(hm:X.mg x=some u)(r:RelV v u)(hd:(x==("__debug__":Str))=false:=by decide):PE X (.Name x pos) (tC v):=
 fun _ _ _ H _ I h=>sM I hg hm ⟨v,H,I,r,h⟩ hd
theorem xq{x:Str}{v:V}{u:Value}{pos:Pos}(hg:Gl X x)(hm:X.mg x=none)(hv:bootBuiltins x=some u)(r:RelV v u)(hn:x≠"__name__":=by decide)(hd:(x==("__debug__":Str))=false:=by decide):PE X (.Name x pos) (tC v):=
 fun _ _ _ H _ I h=>lQ I hg hm hv ⟨v,H,I,r,h⟩ hn hd
variable{a b:Expr}{ta tb:TE}{pos:Pos}
def tB (t:TE):TT:=fun σ H Q=>t σ H fun x H1=>∃c,x=.bl c/\Q c H1
theorem fq{e:Expr}{t:TE}(h:PE X e t)(he:∀whole,isTrue e X.env whole=(do let v <- whole;standAt e.pos;holding [v] (truthy v)):=by intro _;rfl):PT X e (tB t):=by
 intro pins s σ H Q I hw
 refine isTrue_plain (eF (h pins s σ H _ I hw) fun v s1 zqz=>?_) (he _)
 obtain⟨x,H1,I1,r1,q1⟩:=zqz
 obtain⟨d,rfl,q⟩:=q1
 cases r1
 exact wpAny_truthy_bool ⟨H1,I1,q⟩
variable{tA Jc:TT}{rest:List Expr}
def Gy (t u:TT):TT:=fun σ H Q=>t σ H fun c H1=>if c=true then u σ H1 Q else Q false H1
def M8 (t u:TT):TT:=fun σ H Q=>t σ H fun c H1=>if c=true then Q true H1 else u σ H1 Q
def Jd (t:TT):TT:=fun σ H Q=>t σ H fun c H1=>Q (!c) H1
theorem pw_and1(ha:PT X a tA):PW X (.BoolOp .And [a] pos) tA:=by
 intro wh pins s σ H Q I h
 refine isTrue_and (eF (ha pins s σ H Q I h) fun c s1 e=>?_)
 cases c with
 |true=>exact isTrue_and_nil e
 |false=>exact e
theorem pw_or1(ha:PT X a tA):PW X (.BoolOp .Or [a] pos) tA:=by
 intro wh pins s σ H Q I h
 refine isTrue_or (eF (ha pins s σ H Q I h) fun c s1 e=>?_)
 cases c with
 |false=>exact isTrue_or_nil e
 |true=>exact e
theorem pw_and(ha:PT X a tA)(hb:PW X (.BoolOp .And (b::rest) pos) Jc):PW X (.BoolOp .And (a::b::rest) pos) (Gy tA Jc):=by
 intro wh pins s σ H Q I h
 refine isTrue_and (eF (ha pins s σ H _ I h) fun c s1 zqz=>?_)
 obtain⟨H1,I1,q1⟩:=zqz
 cases c with
 |true=>exact hb wh pins s1 σ H1 Q I1 q1
 |false=>exact⟨H1,I1,q1⟩
theorem pw_or(ha:PT X a tA)(hb:PW X (.BoolOp .Or (b::rest) pos) Jc):PW X (.BoolOp .Or (a::b::rest) pos) (M8 tA Jc):=by
 intro wh pins s σ H Q I h
 refine isTrue_or (eF (ha pins s σ H _ I h) fun c s1 zqz=>?_)
 obtain⟨H1,I1,q1⟩:=zqz
 cases c with
 |true=>exact⟨H1,I1,q1⟩
 |false=>exact hb wh pins s1 σ H1 Q I1 q1
theorem vK(ha:PT X a tA):PT X (.UnaryOp .Not a pos) (Jd tA):=by
 intro pins s σ H Q I h
 exact isTrue_not (ha pins s σ H (fun c H1=>Q (!c) H1) I h)
def Fm (ta tb:TE):TE:=fun σ H Q=>ta σ H fun x H1=>∃c,x=.bl c/\if c=true then tb σ H1 Q else Q (.bl false) H1
def Je (ta tb:TE):TE:=fun σ H Q=>ta σ H fun x H1=>∃c,x=.bl c/\if c=true then Q (.bl true) H1 else tb σ H1 Q
def Ay (ta:TE):TE:=fun σ H Q=>ta σ H fun x H1=>∃c,x=.bl c/\Q (.bl (!c)) H1
theorem pK(ha:PE X a ta):PE X (.UnaryOp .Not a pos) (Ay ta):=by
 intro pins s σ H Q I h
 refine UnaryOp_ (eF (ha pins s σ H _ I h) fun v s1 zqz=>?_)
 obtain⟨x,H1,I1,r1,q1⟩:=zqz
 obtain⟨c,rfl,q1⟩:=q1
 cases r1
 exact not_of (wpAny_truthy_bool ⟨.bl (!c),H1,I1,rfl,q1⟩)
def M9 (t:TT) (ta tb:TE):TE:=fun σ H Q=>t σ H fun c H1=>if c=true then ta σ H1 Q else tb σ H1 Q
theorem uo{c:Expr}(hc:PT X c tA)(ha:PE X a ta)(hb:PE X b tb):PE X (.IfExp c a b pos) (M9 tA ta tb):=by
 intro pins s σ H Q I h
 refine wpAny_IfExp (eF (hc pins s σ H _ I h) fun d s1 zqz=>?_)
 obtain⟨H1,I1,q1⟩:=zqz
 cases d with
 |true=>exact ha pins s1 σ H1 Q I1 q1
 |false=>exact hb pins s1 σ H1 Q I1 q1
end
end L2
namespace L2
open PySem PySem.Spec PyProof.Rows
def eD (K:PySem.W.Frag) (H:Hp) (a:Addr) (xs:List V):Prop:=
 Rd H a (.lst xs)\/
  ∃(o:Obj) (bc:Array Value) (n:Nat),K.lookup a=some o/\o.cls=.type "list"/\o.dict=none/\o.data=.seq bc n/\bc.size<=sizeLine/\Vals xs bc.toList
def bR (K:PySem.W.Frag) (H:Hp) (a:Addr) (xs:List V):Prop:=
 Rd H a (.tup xs)\/
  ∃(o:Obj) (bc:Array Value) (n:Nat),K.lookup a=some o/\o.cls=.type "tuple"/\o.data=.seq bc n/\bc.size<=sizeLine/\Vals xs bc.toList
def Na:Value->Option V
 |.none=>some .c6
 |.bool b=>some (.bl b)
 |.int i _=>some (.int i)
 |.str x _=>some (.str x)
 |.bytes b _=>some (.xl b)
 |.float b _=>some (.Gq b)
 |.ref a=>some (.ref a)
 |.type n=>some (.ty n)
 |_=>none
theorem RelV.abs{x:V}{u:Value}(r:RelV x u):Na u=some x:=by
 cases x with
 |c6=>cases r;rfl
 |bl _=>cases r;rfl
 |int _=>obtain⟨t,rfl⟩:=r;rfl
 |str _=>obtain⟨t,rfl⟩:=r;rfl
 |xl _=>obtain⟨t,rfl⟩:=r;rfl
 |Gq _=>obtain⟨t,rfl⟩:=r;rfl
 |ref _=>cases r;rfl
 |ty _=>cases r;rfl
theorem RelV.inj{x y:V}{u:Value}(r:RelV x u)(q:RelV y u):x=y:=Option.some.inj (r.abs.symm.trans q.abs)
theorem Vals.inj:∀ {xs ys:List V} {us:List Value},Vals xs us->Vals ys us->xs=ys
 |_,_,_,.nil,.nil=>rfl
 |_,_,_,.cons r t,.cons r' t'=>by rw[r.inj r',Vals.inj t t']
section
variable{X:Cx}{pins:List (Addr×Obj)}{σ:St}{H:Hp}{s:Shared}{a:Addr}{xs ys:List V}
theorem eD.of{K:PySem.W.Frag}(h:H a=some (.lst xs)):eD K H a xs:=.inl (.inl h)
theorem bR.of{K:PySem.W.Frag}(h:H a=some (.tup xs)):bR K H a xs:=.inl (.inl h)
theorem Inv.list(I:Inv X pins σ H s)(h:eD X.K H a xs):∃bc:List Value,Vals xs bc/\PlainL s.heap a bc.toArray/\xs.length<=sizeLine:=by
 rcases h with h |⟨o,bc,n,hk,hc,hd,hs,hz,r⟩
 ·obtain⟨z,bc,n,r,e⟩:=h.ok I.c7
  exact⟨bc,r,⟨_,n,e,rfl,rfl,rfl⟩,z⟩
 ·refine⟨bc.toList,r,⟨o,n,I.pz a o hk,hc,hd,by simpa using hs⟩,?_⟩
  have e:=r.length
  simp only[Array.length_toList] at e
  lia
theorem Inv.tuple(I:Inv X pins σ H s)(h:bR X.K H a xs):∃bc:List Value,Vals xs bc/\IsTup s.heap a bc.toArray/\xs.length<=sizeLine:=by
 rcases h with h |⟨o,bc,n,hk,hc,hs,hz,r⟩
 ·obtain⟨z,bc,r,p⟩:=h.ok I.c7
  exact⟨bc,r,p,z⟩
 ·refine⟨bc.toList,r,⟨o,I.pz a o hk,hc,n,by simpa using hs⟩,?_⟩
  have e:=r.length
  simp only[Array.length_toList] at e
  lia
theorem Inv.uq(I:Inv X pins σ H s)(h:eD X.K H a xs)(h':eD X.K H a ys):xs=ys:=by
 obtain⟨bc,r,⟨o,n,e,_,_,d⟩,_⟩:=I.list h
 obtain⟨its',r',⟨o',n',e',_,_,d'⟩,_⟩:=I.list h'
 rw[e] at e';cases e'
 rw[d] at d'
 injection d' with d1 _
 have:bc=its':=by simpa using congrArg Array.toList d1
 subst this
 exact r.inj r'
theorem Inv.nE(I:Inv X pins σ H s)(h:bR X.K H a xs)(h':bR X.K H a ys):xs=ys:=by
 obtain⟨bc,r,⟨o,e,_,n,d⟩,_⟩:=I.tuple h
 obtain⟨its',r',⟨o',e',_,n',d'⟩,_⟩:=I.tuple h'
 rw[e] at e';cases e'
 rw[d] at d'
 injection d' with d1 _
 have:bc=its':=by simpa using congrArg Array.toList d1
 subst this
 exact r.inj r'
end
abbrev Cx.qO (X:Cx) (E:Value->Shared->Prop):Cx:={X with xe:=E}
abbrev Cx.Jf (X:Cx):Cx:=X.qO fun _ _=>False
theorem Cx.Ok.qO{X:Cx}(ok:X.Ok)(E:Value->Shared->Prop):(X.qO E).Ok:=
 ⟨ok.mod,ok.kind,ok.glob,ok.blt,ok.above,ok.inj,ok.has,ok.IW,ok.hd,ok.frames,ok.L5,ok.Py,ok.bs,ok.Av,ok.Aw,ok.Dw,ok.nA,ok.Fl⟩
theorem Cx.Ok.j8{X:Cx}{E:Value->Shared->Prop}(ok:(X.qO E).Ok):X.Ok:=
 ⟨ok.mod,ok.kind,ok.glob,ok.blt,ok.above,ok.inj,ok.has,ok.IW,ok.hd,ok.frames,ok.L5,ok.Py,ok.bs,ok.Av,ok.Aw,ok.Dw,ok.nA,ok.Fl⟩
section
variable{X:Cx}{pins:List (Addr×Obj)}{σ:St}{H:Hp}{s:Shared}{E:Value->Shared->Prop}
theorem Inv.qO(I:Inv X pins σ H s)(E:Value->Shared->Prop):Inv (X.qO E) pins σ H s:=⟨I.ok.qO E,I.os,I.bare,I.base,I.loc,I.cell,I.free,I.j7,I.pin,I.c7,I.len⟩
theorem Inv.j8(I:Inv (X.qO E) pins σ H s):Inv X pins σ H s:=⟨I.ok.j8,I.os,I.bare,I.base,I.loc,I.cell,I.free,I.j7,I.pin,I.c7,I.len⟩
theorem SP.j8{D:Ends}{f:Flow}{s':Shared}(h:SP (X.qO E) pins D f s'):SP X pins D f s':=by
 cases f with
 |next=>obtain⟨σ',H',I,q⟩:=h;exact⟨σ',H',I.j8,q⟩
 |brk=>obtain⟨σ',H',I,q⟩:=h;exact⟨σ',H',I.j8,q⟩
 |cont=>obtain⟨σ',H',I,q⟩:=h;exact⟨σ',H',I.j8,q⟩
 |ret u=>obtain⟨v,σ',H',I,r,q⟩:=h;exact⟨v,σ',H',I.j8,r,q⟩
theorem yP.Jf{st:List Stmt}{t:TS}(h:yP X.Jf st t):yP X st t:=fun pins s σ H D I hw=>
 wpAny_mono (h pins s σ H D (I.qO _) hw) (fun _ _ q=>q.j8) fun _ _ z=>False.elim z
end
section
variable{X:Cx}{st:Stmt}{rest:List Stmt}{t u:TS}{e:Expr}{te:TE}{pos:Pos}
def Az:TS:=fun D σ H=>D.nx σ H
def Dx (t u:TS):TS:=fun D σ H=>t {D with nx:=u D} σ H
theorem aN:yP X [] Az:=fun _ _ σ H _ I h=>wpAny_execs_nil ⟨σ,H,I,h⟩
theorem ak(h1:PS X st t)(h2:yP X rest u):yP X (st::rest) (Dx t u):=by
 intro pins s σ H D I h
 refine wpAny_execs_cons (eF (h1 pins s σ H {D with nx:=u D} I h) fun f s1 q=>?_)
 cases f with
 |next=>
  obtain⟨σ',H',I',q⟩:=q
  exact h2 pins s1 σ' H' D I' q
 |ret v=>exact q
 |brk=>exact q
 |cont=>exact q
theorem ar(h1:PS X st t):yP X [st] t:=by
 intro pins s σ H D I h
 refine wpAny_execs_cons (eF (h1 pins s σ H D I h) fun f s1 q=>?_)
 cases f with
 |next=>exact wpAny_execs_nil q
 |ret v=>exact q
 |brk=>exact q
 |cont=>exact q
def AA:TS:=fun D σ H=>D.bk σ H
def Fn:TS:=fun D σ H=>D.ct σ H
theorem Inv.quiet{pins:List (Addr×Obj)}{σ:St}{H:Hp}{s:Shared}(I:Inv X pins σ H s):interactive X.env=false:=by simp[interactive,I.ok.kind]
def AB (te:TE):TS:=fun D σ H=>te σ H fun _ H1=>D.nx σ H1
theorem gm(he:PE X e te)(hs:swapsWith e none pos.line X.env=pure false:=by rfl):PS X (.Expr e pos) (AB te):=by
 intro pins s σ H D I h
 exact wpAny_Expr_any (eF (he pins s σ H _ I h) fun v s1 ⟨x,H1,I1,r1,q1⟩=>⟨σ,H1,I1,q1⟩) I.quiet hs
def Gz (te:TE):TS:=fun D σ H=>te σ H D.rt
theorem aI(he:PE X e te):PS X (.Return (some e) pos) (Gz te):=by
 intro pins s σ H D I h
 exact wpAny_Return_some (eF (he pins s σ H _ I h) fun v s1 ⟨x,H1,I1,r1,q1⟩=>⟨x,σ,H1,I1,r1,q1⟩)
def Fo:TS:=fun D _ H=>D.rt .c6 H
def Dy (c:TT) (t u:TS):TS:=fun D σ H=>c σ H fun b H1=>if b=true then t D σ H1 else u D σ H1
theorem bw{c:Expr}{a b:List Stmt}{tc:TT}(hc:PT X c tc)(ha:yP X a t)(hb:yP X b u):PS X (.If c a b pos) (Dy tc t u):=by
 intro pins s σ H D I h
 refine wpAny_If (eF (hc pins s σ H _ I h) fun d s1 zqz=>?_)
 obtain⟨H1,I1,q1⟩:=zqz
 cases d with
 |true=>exact ha pins s1 σ H1 D I1 q1
 |false=>exact hb pins s1 σ H1 D I1 q1
end
abbrev TG:=V->St->Hp->(St->Hp->Prop)->Prop
abbrev Dg:=List V->St->Hp->(St->Hp->Prop)->Prop
def PG (X:Cx) (target:Expr) (t:TG):Prop:=
 ∀(pins:List (Addr×Obj)) (s:Shared) (σ:St) (H:Hp) (v:V) (u:Value) (Q:St->Hp->Prop),Inv X pins σ H s->RelV v u->t v σ H Q->
  wpAny (model X.prog X.w) X.A (assign target X.env u) (fun _ s'=>∃σ' H',Inv X pins σ' H' s'/\Q σ' H') X.xe s
def Ik (X:Cx) (ts:List Expr) (t:Dg):Prop:=
 ∀(pins:List (Addr×Obj)) (s:Shared) (σ:St) (H:Hp) (vs:List V) (us:List Value) (Q:St->Hp->Prop),Inv X pins σ H s->Vals vs us->t vs σ H Q->
  wpAny (model X.prog X.w) X.A (assignInOrder ((assignEach ts X.env).map (·.2)) us) (fun _ s'=>∃σ' H',Inv X pins σ' H' s'/\Q σ' H') X.xe s
abbrev GA:=V->V->V->Hp->(Hp->Prop)->Prop
def Jg (X:Cx) (t:GA):Prop:=
 ∀(pins:List (Addr×Obj)) (s:Shared) (σ:St) (H:Hp) (o i v:V) (ov iv u:Value) (Q:Hp->Prop),Inv X pins σ H s->RelV o ov->RelV i iv->RelV v u->t o i v H Q->
  wpAny (model X.prog X.w) X.A (setItem ov iv u) (fun _ s'=>∃H',Inv X pins σ H' s'/\Q H') X.xe s
abbrev RM:=V->V->Hp->VK->Prop
section
variable{X:Cx}{pos:Pos}
def il (i:Nat):TG:=fun v σ H Q=>Q (σ.set i (some v)) H
theorem aW{i:Nat}{x:Str}(hN:X.N.Nodup)(hi:X.N[i]?=some x)(hx:Loc X.env.scope x)(hf:X.fn x=true\/X.env.scope.names.lookup x=some .local:=by first |exact .inl rfl |exact .inr rfl |assumption):PG X (.Name x pos) (il i):=by
 intro pins s σ H v u Q I r h
 exact wpAny_assign_Name (uk I hN hi hx r (fun s' I'=>⟨_,H,I',h⟩) hf)
def GB:Dg:=fun vs σ H Q=>vs=[]/\Q σ H
def AD (t:TG) (u:Dg):Dg:=fun vs σ H Q=>∃v r,vs=v::r/\t v σ H fun σ' H'=>u r σ' H' Q
theorem eG:Ik X [] GB:=by
 intro pins s σ H vs us Q I r h
 obtain⟨e,h⟩:=h
 subst e
 cases r
 exact assignInOrder_nil ⟨σ,H,I,h⟩
theorem bA{e:Expr}{es:List Expr}{t:TG}{u:Dg}(h1:PG X e t)(h2:Ik X es u)
 (hs:(assignEach (e::es) X.env).map (·.2)=assign e X.env::(assignEach es X.env).map (·.2):=by rfl):Ik X (e::es) (AD t u):=by
 intro pins s σ H vs us Q I r h
 obtain⟨v,vr,e1,h⟩:=h
 subst e1
 cases r with
 |cons r rr=>
  rw[hs]
  refine assignInOrder_cons (eF (h1 pins s σ H _ _ _ I r h) fun _ s1 zqz=>?_)
  obtain⟨σ1,H1,I1,q1⟩:=zqz
  exact h2 pins s1 σ1 H1 _ _ Q I1 rr q1
def GC (K:PySem.W.Frag) (n:Nat) (t:Dg):TG:=fun v σ H Q=>∃a xs,v=.ref a/\bR K H a xs/\xs.length=n/\t xs σ H Q
theorem i4{es:List Expr}{k:Nat}{t:Dg}{n:Nat}(hc:X.calm=true)(h:Ik X es t)
 (hn:(assignEach es X.env).length=n:=by rfl) (pL:(assignEach es X.env).findIdx? (·.1)=none:=by rfl):PG X (.Tuple es k pos) (GC X.K n t):=by
 intro pins s σ H v u Q I r hw
 obtain⟨a,xs,e1,hq,hl,hw⟩:=hw
 subst e1
 cases r
 obtain⟨bc,rv,ht,hz⟩:=I.tuple hq
 refine assign_Tuple_tuple (I.ok.hd hc) ht (by simp[hn,<- hl,rv.length]) pL fun h' hx=>?_
 have I1:Inv X pins σ H {s with heap:=h' }:=I.kept (t':=s.toks) fun b o e=>hx b o (Nat.ne_of_lt (Heap.lt_size e)) e
 exact h pins _ σ H xs _ Q I1 (by simpa using rv) hw
def GD (to ti:TE) (t:GA):TG:=fun v σ H Q=>to σ H fun o H1=>ti σ H1 fun i H2=>t o i v H2 fun H3=>Q σ H3
theorem pM{o i:Expr}{to ti:TE}{t:GA}(ho:PE X o to)(hi:PE X i ti)(hs:Jg X t)
 (ha:∀v,assign (.Subscript o i pos) X.env v=(do
  let ov <- holding [v] (eval o X.env)
  let iv <- holding [v,ov] (eval i X.env)
  standAt pos
  holding [v,ov,iv] (setItem ov iv v)
  release [v,ov,iv] []):=by intro _;rfl):PG X (.Subscript o i pos) (GD to ti t):=by
 intro pins s σ H v u Q I r h
 rw[ha]
 refine wpAny_bind (wpAny_holding (eF (ho pins s σ H _ I h) fun ov s1 zqz=>?_))
 obtain⟨x,H1,I1,r1,q1⟩:=zqz
 refine wpAny_bind (wpAny_holding (eF (hi pins s1 σ H1 _ I1 q1) fun iv s2 zqz=>?_))
 obtain⟨y,H2,I2,r2,q2⟩:=zqz
 refine wpAny_bind (wpAny_standAt (wpAny_bind (wpAny_holding (eF (hs pins s2 σ H2 x y v ov iv u _ I2 r1 r2 r q2) fun _ s3 zqz=>?_))))
 obtain⟨H3,I3,q3⟩:=zqz
 exact wpAny_release ⟨σ,H3,I3,q3⟩
def AE (te:TE) (g:TG):TS:=fun D σ H=>te σ H fun x H1=>g x σ H1 D.nx
theorem gb{tg e:Expr}{te:TE}{g:TG}(he:PE X e te)(hg:PG X tg g)(hs:swapsWithSole [tg] e pos.line X.env=pure false:=by rfl)(hw:swappedStores [tg] e X.env=pure none:=by rfl)
 (h1:(assignEach [tg] X.env).map (·.2)=[assign tg X.env]:=by rfl):PS X (.Assign [tg] e pos) (AE te g):=by
 intro pins s σ H D I h
 refine wpAny_Assign_stores (eF (he pins s σ H _ I h) fun v s1 zqz=>?_) hs hw
 obtain⟨x,H1,I1,r1,q1⟩:=zqz
 rw[h1]
 exact eF (hg pins s1 σ H1 x v _ I1 r1 q1) fun _ s2 q=>q
theorem aP{i:Nat}{x:Str}{e:Expr}{te:TE}{pos':Pos}(hN:X.N.Nodup)(hi:X.N[i]?=some x)(hx:Loc X.env.scope x)(he:PE X e te)(hs:swapsWith e (some (.Name x pos')) pos.line X.env=pure false:=by rfl)(hf:X.fn x=true\/X.env.scope.names.lookup x=some .local:=by first |exact .inl rfl |exact .inr rfl |assumption) :
 PS X (.Assign [.Name x pos'] e pos) (AE te (il i)):=by
 intro pins s σ H D I h
 refine wpAny_Assign_Name (eF (he pins s σ H _ I h) fun v s1 zqz=>?_) hs
 obtain⟨y,H1,I1,r1,q1⟩:=zqz
 exact uk I1 hN hi hx r1 (fun s2 I2=>⟨_,H1,I2,q1⟩) hf
def Jh (i:Nat) (te:TE) (ti:RM):TS:=fun D σ H=>∃x,σ[i]?=some (some x)/\te σ H fun y H1=>ti x y H1 fun z H2=>D.nx (σ.set i (some z)) H2
end
section
variable{X:Cx}{pos:Pos}
end
structure It where
 go:Nat->Hp->Prop
 xr:Nat->Hp->V->Hp->Prop
 stop:Nat->Hp->Prop
def my (X:Cx) (pins:List (Addr×Obj)) (H:Hp) (b:Addr):Prop:=
 H b=none/\b≠X.env.locals/\b ∉ X.fs/\(b∈X.ex\/X.s₀.heap.objs.size<=b)/\(∀x c,X.env.cells.lookup x=some c->c≠b)/\∀p∈X.pn++pins,p.1≠b
theorem Inv.yQ{X:Cx}{pins:List (Addr×Obj)}{σ:St}{H H':Hp}{s:Shared}{b:Addr}(I:Inv X pins σ H s)(hb:s.heap.objs.size<=b)(hn:H' b=none):my X pins H' b:=by
 refine⟨hn,Nat.ne_of_gt (Nat.lt_of_lt_of_le I.lt hb),I.M3 hb,.inr (Nat.le_trans I.sz hb),fun x c e z=>?_,fun p hp z=>?_⟩
 ·obtain⟨v,q⟩:=I.cell x c e
  exact absurd (Nat.lt_of_lt_of_le q.lt (by rw[z];exact hb)) (Nat.lt_irrefl _)
 ·exact absurd (Nat.lt_of_lt_of_le (Heap.lt_size (I.pin p hp).1) (by rw[z];exact hb)) (Nat.lt_irrefl _)
structure Turn(P:Program)(w:World)(K:PySem.W.Frag)(tg:Expr)(J:It)(fp:List Addr)(it:Addr)(tn:Nat->Heap->Prop):Prop where
 mem:it∈fp
 obj:∀i h,tn i h->∀b∈fp,∃o,h.get? b=some o/\∀v,o.data≠.cell v
 keep:∀i h h',tn i h->(∀b∈fp,∀o,h.get? b=some o->h'.get? b=some o)->tn i h'
 item:∀(X:Cx),X.prog=P->X.w=w->X.K=K->X.calm=true->∀(i:Nat) (pins:List (Addr×Obj)) (s:Shared) (σ:St) (H:Hp) (E:Value->Shared->Prop),Inv X pins σ H s->(∀b∈fp,my X pins H b)->tn i s.heap->J.go i H->
  wpAny (model P w) X.A (pyNext (.ref it)) (fun r s1=>∃u,r=some u/\
   wpAny (model P w) X.A (letOwnedTupleGo tg (.ref it) u) (fun _ s2=>∃x H',Inv X pins σ H' s2/\RelV x u/\J.xr i H x H'/\tn (i+1) s2.heap/\∀b∈fp,H' b=none) E s1) E s
 done:∀(X:Cx),X.prog=P->X.w=w->X.K=K->X.calm=true->∀(i:Nat) (pins:List (Addr×Obj)) (s:Shared) (σ:St) (H:Hp) (E:Value->Shared->Prop),Inv X pins σ H s->(∀b∈fp,my X pins H b)->tn i s.heap->J.stop i H->
  wpAny (model P w) X.A (pyNext (.ref it)) (fun r s1=>r=none/\Inv X pins σ H s1) E s
 self:∀(A:Around) (i:Nat) (s:Shared) (Q:Value->Shared->Prop) (E:Value->Shared->Prop),tn i s.heap->Q (.ref it) s->wpAny (model P w) A (pyIter (.ref it)) Q E s
abbrev TI:=St->Hp->(It->Hp->Prop)->Prop
def RN (X:Cx) (pins:List (Addr×Obj)) (σ:St) (tg:Expr) (R:It->Hp->Prop) (Nb:Value) (s2:Shared):Prop:=
 ∃(it:Addr) (fp:List Addr) (tn:Nat->Heap->Prop) (J:It) (H':Hp),Nb=.ref it/\Inv X pins σ H' s2/\Turn X.prog X.w X.K tg J fp it tn/\tn 0 s2.heap/\(∀b∈fp,my X pins H' b)/\R J H'
def PI (X:Cx) (tg iter:Expr) (wi:TI):Prop:=
 ∀(pins:List (Addr×Obj)) (s:Shared) (σ:St) (H:Hp) (R:It->Hp->Prop),Inv X pins σ H s->wi σ H R->
  wpAny (model X.prog X.w) X.A (eval iter X.env) (fun v s1=>wpAny (model X.prog X.w) X.A (pyIter v) (RN X pins σ tg R) X.xe s1) X.xe s
theorem Fp{M:Model}{A:Around}{E:Value->Shared->Prop}{s:Shared}{tg:Expr}{it:Addr}{u:Value}{o:Obj}{n:String}{vs:Array Value}{Q:Unit->Shared->Prop}(ho:s.heap.get? it=some o)(hc:o.cls=.type n)(hd:o.data=.fields vs)
 (hn:["enumerate", "zip", "dict_itemiterator", "dict_reverseitemiterator", "odict_iterator", "itertools.zip_longest", "itertools.pairwise"].contains n=false) (hQ:Q () s):wpAny M A (letOwnedTupleGo tg (.ref it) u) Q E s:=by
 unfold letOwnedTupleGo
 cases tg<;>first
  |exact wpAny_pure hQ
  |(cases u<;>first
     |exact wpAny_pure hQ
     |(refine wpAny_bind (wpAny_load ho ?_)
       rw[hc,hd]
       show wpAny M A (if (["enumerate", "zip", "dict_itemiterator", "dict_reverseitemiterator", "odict_iterator", "itertools.zip_longest", "itertools.pairwise"].contains n&&vs[0]?==some (rawInt _))=true then _ else _) Q E s
       rw[if_neg (by intro h;rw[hn,Bool.false_and] at h;cases h)]
       exact wpAny_pure hQ))
def yR (K:PySem.W.Frag) (a:Addr):It:=
 ⟨fun i H=>∃xs x,eD K H a xs/\xs[i]?=some x,fun i H x H'=>H'=H/\∀xs,eD K H a xs->xs[i]?=some x,fun i H=>∃xs,eD K H a xs/\xs.length<=i⟩
def Dh (K:PySem.W.Frag) (a:Addr):It:=
 ⟨fun i H=>∃xs x,bR K H a xs/\xs[i]?=some x,fun i H x H'=>H'=H/\∀xs,bR K H a xs->xs[i]?=some x,fun i H=>∃xs,bR K H a xs/\xs.length<=i⟩
def PF (lo:Int) (n:Nat):It:=⟨fun i _=>i<n,fun i H x H'=>H'=H/\x=.int (lo+i),fun i _=>n<=i⟩
theorem yS{P:Program}{w:World}{K:PySem.W.Frag}{tg:Expr}(a it:Addr):Turn P w K tg (yR K a) [it] it (fun i h=>h.IsListIter it a i) where
 mem:=by simp
 obj:=fun i h st b hb=>by
  have e:b=it:=by simpa using hb
  subst e
  obtain⟨o,e,c,d⟩:=st
  exact⟨o,e,fun v z=>by rw[d] at z;cases z⟩
 keep:=fun i h h' st k=>st.at fun o e=>k it (by simp) o e
 item:=by
  intro X hP hw hK hc i pins s σ H E I hf st hg
  subst hP hw hK
  obtain⟨xs,x,hq,hx⟩:=hg
  obtain⟨bc,rv,p,hz⟩:=I.list hq
  obtain⟨u,hu,ru⟩:=rv.get hx
  obtain⟨f0,f1,f2,f3,f4,f5⟩:=hf it (by simp)
  refine wpAny_pyNext_list_item st p.isList (x:=u) (by simpa using hu) fun h' GF sb=>?_
  have I1:Inv X pins σ H {s with heap:=h' }:=I.turned (t':=s.toks) (fun b o hb e=>(sb.2 b hb).trans e) f0 f1 f3 f4 f5
  obtain⟨o,e,c,d⟩:=id GF
  exact⟨u,rfl,Fp (s:={s with heap:=h' }) e c d (by decide) ⟨x,H,I1,ru,⟨rfl,fun ys hy=>by rw[I.uq hy hq];exact hx⟩,GF,fun b hb=>(hf b hb).1⟩⟩
 done:=by
  intro X hP hw hK hc i pins s σ H E I hf st hg
  subst hP hw hK
  obtain⟨xs,hq,hx⟩:=hg
  obtain⟨bc,rv,p,hz⟩:=I.list hq
  obtain⟨f0,f1,f2,f3,f4,f5⟩:=hf it (by simp)
  have hl:=rv.length
  exact wpAny_pyNext_list_end (I.ok.hd hc) st p.isList (by simp;lia) fun h' eb=>⟨rfl,I.turned (t':=s.toks) (fun b o hb e=>eb b o hb e) f0 f1 f3 f4 f5⟩
 self:=fun _ _ _ _ _ st h=>wpAny_pyIter_listiter st h
theorem vL{P:Program}{w:World}{K:PySem.W.Frag}{tg:Expr}(a it:Addr):Turn P w K tg (Dh K a) [it] it (fun i h=>h.IsTupleIter it a i) where
 mem:=by simp
 obj:=fun i h st b hb=>by
  have e:b=it:=by simpa using hb
  subst e
  obtain⟨o,e,c,d⟩:=st
  exact⟨o,e,fun v z=>by rw[d] at z;cases z⟩
 keep:=fun i h h' st k=>st.at fun o e=>k it (by simp) o e
 item:=by
  intro X hP hw hK hc i pins s σ H E I hf st hg
  subst hP hw hK
  obtain⟨xs,x,hq,hx⟩:=hg
  obtain⟨bc,rv,p,hz⟩:=I.tuple hq
  obtain⟨u,hu,ru⟩:=rv.get hx
  obtain⟨f0,f1,f2,f3,f4,f5⟩:=hf it (by simp)
  refine wpAny_pyNext_tuple_item st (show s.heap.IsTuple a bc.toArray from p) (x:=u) (by simpa using hu) fun h' GF sb=>?_
  have I1:Inv X pins σ H {s with heap:=h' }:=I.turned (t':=s.toks) (fun b o hb e=>(sb.2 b hb).trans e) f0 f1 f3 f4 f5
  obtain⟨o,e,c,d⟩:=id GF
  exact⟨u,rfl,Fp (s:={s with heap:=h' }) e c d (by decide) ⟨x,H,I1,ru,⟨rfl,fun ys hy=>by rw[I.nE hy hq];exact hx⟩,GF,fun b hb=>(hf b hb).1⟩⟩
 done:=by
  intro X hP hw hK hc i pins s σ H E I hf st hg
  subst hP hw hK
  obtain⟨xs,hq,hx⟩:=hg
  obtain⟨bc,rv,p,hz⟩:=I.tuple hq
  obtain⟨f0,f1,f2,f3,f4,f5⟩:=hf it (by simp)
  have hl:=rv.length
  exact wpAny_pyNext_tuple_end (I.ok.hd hc) st (show s.heap.IsTuple a bc.toArray from p) (by simp;lia) fun h' eb=>⟨rfl,I.turned (t':=s.toks) (fun b o hb e=>eb b o hb e) f0 f1 f3 f4 f5⟩
 self:=fun _ _ _ _ _ st h=>wpAny_pyIter_tupleiter st h
end L2
namespace L2
open PySem PySem.Spec PyProof.Rows
section
variable{X:Cx}{tg:Expr}
def ur (K:PySem.W.Frag) (tl:TE):TI:=fun σ H R=>tl σ H fun x H1=>∃a,x=.ref a/\(∃xs,eD K H1 a xs)/\R (yR K a) H1
def Dz (K:PySem.W.Frag) (tl:TE):TI:=fun σ H R=>tl σ H fun x H1=>∃a,x=.ref a/\(∃xs,bR K H1 a xs)/\R (Dh K a) H1
theorem cw{l:Expr}{tl:TE}(hl:PE X l tl):PI X tg l (ur X.K tl):=by
 intro pins s σ H R I h
 refine eF (hl pins s σ H _ I h) fun v s1 zqz=>?_
 obtain⟨x,H1,I1,r1,q1⟩:=zqz
 obtain⟨a,e,⟨xs,hq⟩,q⟩:=q1
 subst e
 cases r1
 obtain⟨bc,rv,p,hz⟩:=I1.list hq
 refine wpAny_pyIter_list p.isList ?_
 refine⟨s1.heap.objs.size,[s1.heap.objs.size],_,_,H1,rfl,I1.kept (t':=s1.toks) fun b o e=>Heap.get?_push_of_some _ e,yS a _,⟨_,Heap.get?_push_size _ rfl,rfl,rfl⟩,fun b hb=>?_,q⟩
 have e:b=s1.heap.objs.size:=by simpa using hb
 subst e
 exact I1.yQ (Nat.le_refl _) (I1.c7.fresh (Nat.le_refl _))
theorem sN{l:Expr}{tl:TE}(hl:PE X l tl):PI X tg l (Dz X.K tl):=by
 intro pins s σ H R I h
 refine eF (hl pins s σ H _ I h) fun v s1 zqz=>?_
 obtain⟨x,H1,I1,r1,q1⟩:=zqz
 obtain⟨a,e,⟨xs,hq⟩,q⟩:=q1
 subst e
 cases r1
 obtain⟨bc,rv,p,hz⟩:=I1.tuple hq
 refine wpAny_pyIter_tuple (show s1.heap.IsTuple a bc.toArray from p) ?_
 refine⟨s1.heap.objs.size,[s1.heap.objs.size],_,_,H1,rfl,I1.kept (t':=s1.toks) fun b o e=>Heap.get?_push_of_some _ e,vL a _,⟨_,Heap.get?_push_size _ rfl,rfl,rfl⟩,fun b hb=>?_,q⟩
 have e:b=s1.heap.objs.size:=by simpa using hb
 subst e
 exact I1.yQ (Nat.le_refl _) (I1.c7.fresh (Nat.le_refl _))
def Fq (ta:TA):TI:=fun σ H R=>ta σ H fun vs H1=>∃j:Int,vs=[.int j]/\-(2 ^ 62)<=j/\j<2 ^ 62/\R (PF 0 j.toNat) H1
def Ft (ta:TA):TI:=fun σ H R=>ta σ H fun vs H1=>∃i j:Int,vs=[.int i,.int j]/\(-(2 ^ 62)<=i/\i<2 ^ 62/\-(2 ^ 62)<=j/\j<2 ^ 62)/\R (PF i (j-i).toNat) H1
def AF (wi:TI) (g:TG) (tb:TS):TS:=fun D σ H=>wi σ H fun J H1=>∃W:Nat->Nat->St->Hp->Prop,(∃m,W 0 m σ H1)/\∀i m σ H,W i m σ H->
 (J.stop i H/\D.nx σ H)\/(J.go i H/\∃N:St->Hp->Prop,(∀σ' H',N σ' H'->∃m',m'<m/\W (i+1) m' σ' H')/\∀x H',J.xr i H x H'->g x σ H' fun σ2 H2=>tb {D with nx:=N,ct:=N,bk:=D.nx} σ2 H2)
def pN (fp:List Addr) (h:Heap):List (Addr×Obj):=fp.filterMap fun b=>(h.get? b).map fun o=>(b,o)
theorem jw{fp:List Addr}{h:Heap}{b:Addr}{o:Obj}(hb:b∈fp)(e:h.get? b=some o):(b,o)∈pN fp h:=List.mem_filterMap.mpr ⟨b,hb,by rw[e];rfl⟩
theorem yT{fp:List Addr}{h:Heap}{p:Addr×Obj}(hp:p∈pN fp h):p.1∈fp/\h.get? p.1=some p.2:=by
 obtain⟨b,hb,e⟩:=List.mem_filterMap.mp hp
 cases q:h.get? b with
 |none=>rw[q] at e;cases e
 |some o=>
  rw[q] at e
  have e':(b,o)=p:=Option.some.inj e
  subst e'
  exact⟨hb,q⟩
theorem Inv.pinned{pins:List (Addr×Obj)}{σ:St}{H:Hp}{s:Shared}{fp:List Addr}(I:Inv X pins σ H s)(hf:∀b∈fp,my X pins H b)(ho:∀b∈fp,∃o,s.heap.get? b=some o/\∀v,o.data≠.cell v):Inv X (pins++pN fp s.heap) σ H s:=
 I.xo fun p hp=>(List.mem_append.mp hp).elim (fun z=>I.pin p (List.mem_append_right _ z)) fun z=>by
  obtain⟨hb,e⟩:=yT z
  obtain⟨f0,f1,f2,_⟩:=hf p.1 hb
  obtain⟨o,e',d⟩:=ho p.1 hb
  rw[e] at e';cases e'
  exact⟨e,f0,f1,f2,d⟩
theorem Inv.mz{pins pl:List (Addr×Obj)}{σ:St}{H:Hp}{s:Shared}(I:Inv X (pins++pl) σ H s):Inv X pins σ H s:=I.xo fun p hp=>I.pin p (List.mem_append_right _ (List.mem_append_left _ hp))
theorem gO{iter:Expr}{body:List Stmt}{wi:TI}{g:TG}{tb:TS}{pos:Pos}(hp:PassesOwn (model X.prog X.w) X.A X.env X.xe)(hc:X.calm=true)(hi:PI X tg iter wi)(hg:PG X tg g)(hb:yP X body tb)
 (hs:∀x,foldedSetIterable iter X.env x=pure x:=by intro _;rfl):PS X (.For tg iter body [] pos) (AF wi g tb):=by
 intro pins s σ H D I h
 refine wpAny_For (eF (hi pins s σ H _ I h) fun v s1 h1=>eF h1 fun Nb s2 h2=>?_) hs
 obtain⟨it,fp,tn,J,H2,e,I2,T,DA,f2,W,⟨m0,w0⟩,turn⟩:=h2
 subst e
 have stat:∀ {H':Hp},(∀b∈fp,H' b=none)->∀b∈fp,my X pins H' b:=fun hn b hb=>⟨hn b hb,(f2 b hb).2⟩
 refine codeAny_forLoop_any (fun n s'=>∃i σ' H',Inv X pins σ' H' s'/\tn i s'.heap/\(∀b∈fp,H' b=none)/\W i n σ' H') ?_ m0 ⟨0,σ,H2,I2,DA,fun b hb=>(f2 b hb).1,w0⟩
 rintro n s3 ⟨i,σ3,H3,I3,AG,Ji,w3⟩
 rcases turn i n σ3 H3 w3 with ⟨stop,qn⟩ |⟨go,N,hN,step⟩
 ·refine wpAny_passesOwn hp (eF (T.done X rfl rfl rfl hc i pins s3 σ3 H3 X.xe I3 (stat Ji) AG stop) fun r s4 zqz=>?_)
  obtain⟨hr,I4⟩:=zqz
  subst hr
  exact wpAny_execs_nil ⟨σ3,H3,I4,qn⟩
 ·refine wpAny_passesOwn hp (eF (T.item X rfl rfl rfl hc i pins s3 σ3 H3 X.xe I3 (stat Ji) AG go) fun r s4 zqz=>?_)
  obtain⟨u,hr,h4⟩:=zqz
  subst hr
  refine wpAny_passesOwn hp (eF h4 fun _ s5 zqz=>?_)
  obtain⟨x,H5,I5,r5,y5,GG,Nc⟩:=zqz
  have Nd:=I5.pinned (stat Nc) (T.obj _ _ GG)
  refine wpAny_passesOwn hp (eF (hg _ s5 σ3 H5 x u _ Nd r5 (step x H5 y5)) fun _ s6 zqz=>?_)
  obtain⟨σ6,H6,I6,q6⟩:=zqz
  refine wpAny_passesOwn hp (eF (hb _ s6 σ6 H6 _ I6 q6) fun f s7 q7=>?_)
  have again:∀ {σ7:St} {H7:Hp},Inv X (pins++pN fp s5.heap) σ7 H7 s7->N σ7 H7->∃m,m<n/\∃i σ' H',Inv X pins σ' H' s7/\tn i s7.heap/\(∀b∈fp,H' b=none)/\W i m σ' H':=fun {σ7 H7} I7 n7=>by
   obtain⟨m',hm,w7⟩:=hN σ7 H7 n7
   refine⟨m',hm,i+1,σ7,H7,I7.mz,T.keep _ _ _ GG fun b hb o e=>(I7.pin (b,o) (List.mem_append_right _ (List.mem_append_right _ (jw hb e)))).1,fun b hb=>?_,w7⟩
   obtain⟨o,e,d⟩:=T.obj _ _ GG b hb
   exact(I7.pin (b,o) (List.mem_append_right _ (List.mem_append_right _ (jw hb e)))).2.1
  cases f with
  |next=>obtain⟨σ7,H7,I7,n7⟩:=q7;exact again I7 n7
  |cont=>obtain⟨σ7,H7,I7,n7⟩:=q7;exact again I7 n7
  |brk=>obtain⟨σ7,H7,I7,q7⟩:=q7;exact⟨σ7,H7,I7.mz,q7⟩
  |ret v=>obtain⟨x7,σ7,H7,I7,r7,q7⟩:=q7;exact⟨x7,σ7,H7,I7.mz,r7,q7⟩
end
theorem gB{K:PySem.W.Frag}{a:Addr}{xs:List V}{g:TG}{tb:TS}{D:Ends}{σ:St}{H:Hp}(Pv:Nat->St->Hp->Prop)(h0:Pv 0 σ H)(hl:∀i σ H,i<=xs.length->Pv i σ H->eD K H a xs)
 (hs:∀i x σ H,xs[i]?=some x->Pv i σ H->g x σ H fun σ2 H2=>tb {D with nx:=Pv (i+1),ct:=Pv (i+1),bk:=D.nx} σ2 H2) (hd:∀σ H,Pv xs.length σ H->D.nx σ H) :
 ∃W:Nat->Nat->St->Hp->Prop,(∃m,W 0 m σ H)/\∀i m σ H,W i m σ H->
  ((yR K a).stop i H/\D.nx σ H)\/((yR K a).go i H/\∃N:St->Hp->Prop,(∀σ' H',N σ' H'->∃m',m'<m/\W (i+1) m' σ' H')/\∀x H',(yR K a).xr i H x H'->g x σ H' fun σ2 H2=>tb {D with nx:=N,ct:=N,bk:=D.nx} σ2 H2):=by
 refine⟨fun i m σ H=>m=xs.length-i/\i<=xs.length/\Pv i σ H,⟨xs.length,by simp,Nat.zero_le _,h0⟩,?_⟩
 rintro i m σ H ⟨rfl,hi,p⟩
 have q:=hl i σ H hi p
 by_cases lR:i<xs.length
 ·refine .inr ⟨⟨xs,xs[i],q,by simp[lR]⟩,Pv (i+1),fun σ' H' p'=>⟨xs.length-(i+1),by lia,rfl,lR,p'⟩,fun x H' y=>?_⟩
  obtain⟨e,y⟩:=y
  subst e
  exact hs i x σ _ (y xs q) p
 ·have e:i=xs.length:=by lia
  subst e
  exact .inl ⟨⟨xs,q,Nat.le_refl _⟩,hd σ H p⟩
theorem DB{K:PySem.W.Frag}{a:Addr}{xs:List V}{g:TG}{tb:TS}{D:Ends}{σ:St}{H:Hp}(Pv:Nat->St->Hp->Prop)(h0:Pv 0 σ H)(hl:∀i σ H,i<=xs.length->Pv i σ H->bR K H a xs)
 (hs:∀i x σ H,xs[i]?=some x->Pv i σ H->g x σ H fun σ2 H2=>tb {D with nx:=Pv (i+1),ct:=Pv (i+1),bk:=D.nx} σ2 H2) (hd:∀σ H,Pv xs.length σ H->D.nx σ H) :
 ∃W:Nat->Nat->St->Hp->Prop,(∃m,W 0 m σ H)/\∀i m σ H,W i m σ H->
  ((Dh K a).stop i H/\D.nx σ H)\/((Dh K a).go i H/\∃N:St->Hp->Prop,(∀σ' H',N σ' H'->∃m',m'<m/\W (i+1) m' σ' H')/\∀x H',(Dh K a).xr i H x H'->g x σ H' fun σ2 H2=>tb {D with nx:=N,ct:=N,bk:=D.nx} σ2 H2):=by
 refine⟨fun i m σ H=>m=xs.length-i/\i<=xs.length/\Pv i σ H,⟨xs.length,by simp,Nat.zero_le _,h0⟩,?_⟩
 rintro i m σ H ⟨rfl,hi,p⟩
 have q:=hl i σ H hi p
 by_cases lR:i<xs.length
 ·refine .inr ⟨⟨xs,xs[i],q,by simp[lR]⟩,Pv (i+1),fun σ' H' p'=>⟨xs.length-(i+1),by lia,rfl,lR,p'⟩,fun x H' y=>?_⟩
  obtain⟨e,y⟩:=y
  subst e
  exact hs i x σ _ (y xs q) p
 ·have e:i=xs.length:=by lia
  subst e
  exact .inl ⟨⟨xs,q,Nat.le_refl _⟩,hd σ H p⟩
end L2
namespace L2
open PySem PySem.Spec PyProof.Rows
abbrev R2:=V->V->Hp->VK->Prop
def nj (X:Cx) (f:Value->Value->Sem Value) (r:R2):Prop:=
 ∀(pins:List (Addr×Obj)) (s:Shared) (σ:St) (H:Hp) (x y:V) (v u:Value) (Q:VK),Inv X pins σ H s->RelV x v->RelV y u->r x y H Q->
  wpAny (model X.prog X.w) X.A (f v u) (EP X pins σ Q) X.xe s
def gW (X:Cx) (f:Value) (r:List V->Hp->VK->Prop):Prop:=
 ∀(pins:List (Addr×Obj)) (s:Shared) (σ:St) (H:Hp) (xs:List V) (us:List Value) (Q:VK),Inv X pins σ H s->Vals xs us->r xs H Q->
  wpAny (model X.prog X.w) X.A (call f us) (EP X pins σ Q) X.xe s
def Nf (X:Cx) (r:V->Hp->(Bool->Hp->Prop)->Prop):Prop:=
 ∀(pins:List (Addr×Obj)) (s:Shared) (σ:St) (H:Hp) (x:V) (v:Value) (Q:Bool->Hp->Prop),Inv X pins σ H s->RelV x v->r x H Q->
  wpAny (model X.prog X.w) X.A (truthy v) (TP X pins σ Q) X.xe s
def Jj (r:R2) (ta tb:TE):TE:=fun σ H Q=>ta σ H fun x H1=>tb σ H1 fun y H2=>r x y H2 Q
def PH (r:V->Hp->VK->Prop) (ta:TE):TE:=fun σ H Q=>ta σ H fun x H1=>r x H1 Q
def rI (C:Int->Int->Prop) (g:Int->Int->V):R2:=fun x y H Q=>∃i j,x=.int i/\y=.int j/\C i j/\Q (g i j) H
def DC (g:Int->Int->V):R2:=fun x y H Q=>∃i j,x=.int i/\y=.int j/\Q (g i j) H
def rU (g:Int->V):V->Hp->VK->Prop:=fun x H Q=>∃i,x=.int i/\Q (g i) H
section
variable{X:Cx}{a b c:Expr}{ta tb tc:TE}{pos:Pos}
theorem GH(ha:PE X a ta)(hb:PE X b tb){pins:List (Addr×Obj)}{s:Shared}{σ:St}{H:Hp}{R:V->V->Hp->Prop}(I:Inv X pins σ H s)
 (h:ta σ H fun x H1=>tb σ H1 fun y H2=>R x y H2) {Q:Value->Shared->Prop} {f:Value->Value->Sem Value}
 (hf:∀v u s2 x y H2,Inv X pins σ H2 s2->RelV x v->RelV y u->R x y H2->wpAny (model X.prog X.w) X.A (f v u) Q X.xe s2) :
 wpAny (model X.prog X.w) X.A (eval a X.env) (fun v s₁=>wpAny (model X.prog X.w) X.A (eval b X.env) (fun u s₂=>wpAny (model X.prog X.w) X.A (f v u) Q X.xe s₂) X.xe s₁) X.xe s:=by
 refine eF (ha pins s σ H _ I h) fun v s1 zqz=>?_
 obtain⟨x,H1,I1,r1,q1⟩:=zqz
 refine eF (hb pins s1 σ H1 _ I1 q1) fun u s2 zqz=>?_
 obtain⟨y,H2,I2,r2,q2⟩:=zqz
 exact hf v u s2 x y H2 I2 r1 r2 q2
theorem bg{op:Operator}{r:R2}(ho:nj X (binaryOp op) r)(ha:PE X a ta)(hb:PE X b tb):PE X (.BinOp a op b pos) (Jj r ta tb):=by
 intro pins s σ H Q I h
 exact wpAny_BinOp (GH ha hb I h fun v u s2 x y H2 I2 rx ry q=>ho pins s2 σ H2 x y v u Q I2 rx ry q)
theorem Jk{f:Value->Value->Sem Value}{C:Int->Int->Prop}{g:Int->Int->Int}
 (rule:∀(i j:Int) (t u:Tok) (s:Shared) (Q:Value->Shared->Prop) (E:Value->Shared->Prop),C i j->Q (.int (g i j) s.toks) {s with toks:=s.toks+1}->wpAny (model X.prog X.w) X.A (f (.int i t) (.int j u)) Q E s) :
 nj X f (rI C fun i j=>.int (g i j)):=by
 intro pins s σ H x y v u Q I rx ry h
 obtain⟨i,j,rfl,rfl,hc,q⟩:=h
 obtain⟨t,rfl⟩:=rx
 obtain⟨t',rfl⟩:=ry
 exact rule i j t t' s _ _ hc ⟨.int (g i j),H,I.tok _,⟨_,rfl⟩,q⟩
theorem Jl{f:Value->Value->Sem Value}{g:Int->Int->Int}
 (rule:∀(i j:Int) (t u:Tok) (s:Shared) (Q:Value->Shared->Prop) (E:Value->Shared->Prop),Q (.int (g i j) s.toks) {s with toks:=s.toks+1}->wpAny (model X.prog X.w) X.A (f (.int i t) (.int j u)) Q E s) :
 nj X f (DC fun i j=>.int (g i j)):=by
 intro pins s σ H x y v u Q I rx ry h
 obtain⟨i,j,rfl,rfl,q⟩:=h
 obtain⟨t,rfl⟩:=rx
 obtain⟨t',rfl⟩:=ry
 exact rule i j t t' s _ _ ⟨.int (g i j),H,I.tok _,⟨_,rfl⟩,q⟩
theorem DD{f:Value->Value->Sem Value}{g:Int->Int->Bool}
 (rule:∀(i j:Int) (t u:Tok) (s:Shared) (Q:Value->Shared->Prop) (E:Value->Shared->Prop),Q (.bool (g i j)) s->wpAny (model X.prog X.w) X.A (f (.int i t) (.int j u)) Q E s) :
 nj X f (DC fun i j=>.bl (g i j)):=by
 intro pins s σ H x y v u Q I rx ry h
 obtain⟨i,j,rfl,rfl,q⟩:=h
 obtain⟨t,rfl⟩:=rx
 obtain⟨t',rfl⟩:=ry
 exact rule i j t t' s _ _ ⟨.bl (g i j),H,I,rfl,q⟩
def Jm (i j:Int):Prop:=0<j/\j<1073741824
def Jn (i j:Int):Prop:=0<=j/\j<=1000000/\i.natAbs<2 ^ 64
def DE (i j:Int):Prop:=(-(2 ^ 64)<i/\i<2 ^ 64)\/(-(2 ^ 64)<j/\j<2 ^ 64)
theorem DE.ok{i j:Int}(h:DE i j):IntMulOk i j:=by
 rcases h with ⟨h1,h2⟩ |⟨h1,h2⟩
 ·exact .of_left (intBits_le_64 h1 h2)
 ·exact .of_right (intBits_le_64 h1 h2)
theorem dq:nj X (binaryOp .Add) (DC fun i j=>.int (i+j)):=Jl fun _ _ _ _ _ _ _ q=>add_int q
theorem dW:nj X (binaryOp .Sub) (DC fun i j=>.int (i-j)):=Jl fun _ _ _ _ _ _ _ q=>sub_int q
theorem vM:nj X (binaryOp .Mult) (rI DE fun i j=>.int (i*j)):=Jk fun _ _ _ _ _ _ _ hc q=>mul_int q hc.ok
theorem kU:nj X (binaryOp .FloorDiv) (rI Jm fun i j=>.int (i/j)):=Jk fun i j _ _ _ _ _ hc q=>by
 have h1:(0:Int)<j:=hc.1
 have h2:j<1073741824:=hc.2
 exact floordiv_int (by lia) (by rw[Int.fdiv_eq_ediv_of_nonneg i (by lia)];exact q) (.inl (PyProof.noPylong_small (by lia)))
theorem jx:nj X (binaryOp .Mod) (rI (fun _ j=>0<j) fun i j=>.int (i%j)):=Jk fun i j _ _ _ _ _ hc q=>by
 have h1:(0:Int)<j:=hc
 exact mod_int' (by lia) (by rw[Int.fmod_eq_emod_of_nonneg i (by lia)];exact q)
theorem GI:nj X (binaryOp .Pow) (rI Jn fun i j=>.int (i ^ j.toNat)):=Jk fun _ _ _ _ _ _ _ hc q=>pow_int_small hc.1 hc.2.1 hc.2.2 q
end
def yV:V->V->Bool
 |.c6,.c6=>true |.c6,.int _=>true |.int _,.c6=>true |.c6,.bl _=>true |.bl _,.c6=>true |.c6,.str _=>true |.str _,.c6=>true
 |.int _,.int _=>true |.bl _,.bl _=>true |.str _,.str _=>true |.xl _,.xl _=>true
 |.int _,.str _=>true |.str _,.int _=>true |.bl _,.str _=>true |.str _,.bl _=>true
 |_,_=>false
def PJ:R2:=fun x y H Q=>yV x y=true/\Q (.bl (decide (x=y))) H
def PK:R2:=fun x y H Q=>yV x y=true/\Q (.bl (!decide (x=y))) H
theorem xt{i j:Int}:decide (V.int i=V.int j)=(i==j):=by
 rw[Bool.eq_iff_iff]
 simp
theorem AH{i j:Bool}:decide (V.bl i=V.bl j)=(i==j):=by
 rw[Bool.eq_iff_iff]
 simp
theorem xu{i j:Str}:decide (V.str i=V.str j)=(i==j):=by
 rw[Bool.eq_iff_iff]
 simp
theorem xv{i j:Array UInt8}:decide (V.xl i=V.xl j)=(i.toList==j.toList):=by
 rw[Bool.eq_iff_iff]
 cases i
 cases j
 simp
section
variable{X:Cx}{a b c:Expr}{ta tb tc:TE}{pos:Pos}
theorem bQ{pins:List (Addr×Obj)}{σ:St}{H:Hp}{s:Shared}{Q:VK}{k k':Bool}(I:Inv X pins σ H s)(q:Q (.bl k) H)(e:k=k'):EP X pins σ Q (.bool k') s:=by
 subst e
 exact⟨.bl k,H,I,rfl,q⟩
theorem bC:nj X (compareOp .Eq) PJ:=by
 intro pins s σ H x y v u Q I rx ry h
 obtain⟨hs,q⟩:=h
 cases x with
 |c6=>
  cases rx
  cases y with
  |c6=>cases ry;exact PySem.EqNone.eq_none_none (bQ I q (by simp))
  |bl j=>cases ry;exact PySem.EqNone.eq_none_bool (bQ I q (by simp))
  |int j=>obtain⟨t',rfl⟩:=ry;exact PySem.EqNone.eq_none_int (bQ I q (by simp))
  |str j=>obtain⟨t',rfl⟩:=ry;exact PySem.EqNone.eq_none_str (bQ I q (by simp))
  |_=>exact absurd (show false=true from hs) Bool.false_ne_true
 |bl i=>
  cases rx
  cases y with
  |c6=>cases ry;exact PySem.EqNone.eq_bool_none (bQ I q (by simp))
  |bl j=>cases ry;exact eq_bool (bQ I q AH)
  |str j=>obtain⟨t',rfl⟩:=ry;exact PySem.EqMixed.eq_bool_str (bQ I q (by simp))
  |_=>exact absurd (show false=true from hs) Bool.false_ne_true
 |int i=>
  obtain⟨t,rfl⟩:=rx
  cases y with
  |c6=>cases ry;exact PySem.EqNone.eq_int_none (bQ I q (by simp))
  |int j=>obtain⟨t',rfl⟩:=ry;exact eq_int (bQ I q xt)
  |str j=>obtain⟨t',rfl⟩:=ry;exact PySem.EqMixed.eq_int_str (bQ I q (by simp))
  |_=>exact absurd (show false=true from hs) Bool.false_ne_true
 |str i=>
  obtain⟨t,rfl⟩:=rx
  cases y with
  |c6=>cases ry;exact PySem.EqNone.eq_str_none (bQ I q (by simp))
  |bl j=>cases ry;exact PySem.EqMixed.eq_str_bool (bQ I q (by simp))
  |int j=>obtain⟨t',rfl⟩:=ry;exact PySem.EqMixed.eq_str_int (bQ I q (by simp))
  |str j=>obtain⟨t',rfl⟩:=ry;exact eq_str (bQ I q xu)
  |_=>exact absurd (show false=true from hs) Bool.false_ne_true
 |xl i=>
  obtain⟨t,rfl⟩:=rx
  cases y with
  |xl j=>obtain⟨t',rfl⟩:=ry;exact PySem.W.eq_bytes (bQ I q xv)
  |_=>exact absurd (show false=true from hs) Bool.false_ne_true
 |_=>cases y<;>exact absurd (show false=true from hs) Bool.false_ne_true
theorem Jo:nj X (compareOp .NotEq) PK:=by
 intro pins s σ H x y v u Q I rx ry h
 obtain⟨hs,q⟩:=h
 cases x with
 |c6=>
  cases rx
  cases y with
  |c6=>cases ry;exact PySem.EqNone.ne_none_none (bQ I q (by simp))
  |bl j=>cases ry;exact PySem.EqNone.ne_none_bool (bQ I q (by simp))
  |int j=>obtain⟨t',rfl⟩:=ry;exact PySem.EqNone.ne_none_int (bQ I q (by simp))
  |str j=>obtain⟨t',rfl⟩:=ry;exact PySem.EqNone.ne_none_str (bQ I q (by simp))
  |_=>exact absurd (show false=true from hs) Bool.false_ne_true
 |bl i=>
  cases rx
  cases y with
  |c6=>cases ry;exact PySem.EqNone.ne_bool_none (bQ I q (by simp))
  |bl j=>cases ry;exact ne_bool (bQ I q (congrArg not AH))
  |str j=>obtain⟨t',rfl⟩:=ry;exact PySem.EqMixed.ne_bool_str (bQ I q (by simp))
  |_=>exact absurd (show false=true from hs) Bool.false_ne_true
 |int i=>
  obtain⟨t,rfl⟩:=rx
  cases y with
  |c6=>cases ry;exact PySem.EqNone.ne_int_none (bQ I q (by simp))
  |int j=>obtain⟨t',rfl⟩:=ry;exact ne_int (bQ I q (congrArg not xt))
  |str j=>obtain⟨t',rfl⟩:=ry;exact PySem.EqMixed.ne_int_str (bQ I q (by simp))
  |_=>exact absurd (show false=true from hs) Bool.false_ne_true
 |str i=>
  obtain⟨t,rfl⟩:=rx
  cases y with
  |c6=>cases ry;exact PySem.EqNone.ne_str_none (bQ I q (by simp))
  |bl j=>cases ry;exact PySem.EqMixed.ne_str_bool (bQ I q (by simp))
  |int j=>obtain⟨t',rfl⟩:=ry;exact PySem.EqMixed.ne_str_int (bQ I q (by simp))
  |str j=>obtain⟨t',rfl⟩:=ry;exact ne_str (bQ I q (congrArg not xu))
  |_=>exact absurd (show false=true from hs) Bool.false_ne_true
 |xl i=>
  obtain⟨t,rfl⟩:=rx
  cases y with
  |xl j=>obtain⟨t',rfl⟩:=ry;exact PySem.W.ne_bytes (bQ I q (congrArg not xv))
  |_=>exact absurd (show false=true from hs) Bool.false_ne_true
 |_=>cases y<;>exact absurd (show false=true from hs) Bool.false_ne_true
theorem pO:nj X (compareOp .Lt) (DC fun i j=>.bl (decide (i<j))):=DD fun _ _ _ _ _ _ _ q=>lt_int q
theorem Fu:nj X (compareOp .LtE) (DC fun i j=>.bl (decide (i<=j))):=DD fun _ _ _ _ _ _ _ q=>le_int q
theorem xw:nj X (compareOp .Gt) (DC fun i j=>.bl (decide (j<i))):=DD fun _ _ _ _ _ _ _ q=>gt_int q
theorem Fv:nj X (compareOp .GtE) (DC fun i j=>.bl (decide (j<=i))):=DD fun _ _ _ _ _ _ _ q=>ge_int q
theorem xx:nj X (compareOp .IsNot) (fun x y H Q=>y=.c6/\Q (.bl (!decide (x=.c6))) H):=by
 intro pins s σ H x y v u Q I rx ry h
 obtain⟨rfl,q⟩:=h
 cases ry
 refine isnot_none_gen (bQ I q ?_)
 cases x<;>first
  |(cases rx;rfl)
  |(obtain⟨t,rfl⟩:=rx;rfl)
theorem aH(b:Expr){op:CmpOp}(h:op≠.In:=by decide)(h2:op≠.NotIn:=by decide):behindInMarks op b=false:=by
 have e1:(op==CmpOp.In)=false:=by cases op<;>first |rfl |exact absurd rfl h
 have e2:(op==CmpOp.NotIn)=false:=by cases op<;>first |rfl |exact absurd rfl h2
 cases b<;>simp[behindInMarks,e1,e2]
theorem du{op:CmpOp}{r:R2}(ho:nj X (compareOp op) r)(ha:PE X a ta)(hb:PE X b tb)(hm:behindInMarks op b=false):PE X (.Compare a [op] [b] pos) (Jj r ta tb):=by
 intro pins s σ H Q I h
 exact wpAny_Compare1 (GH ha hb I h fun v u s2 x y H2 I2 rx ry q=>ho pins s2 σ H2 x y v u Q I2 rx ry q) hm
def xy (t:TE):TT:=fun σ H Q=>t σ H fun x H'=>∃k,x=.bl k/\Q k H'
theorem aE{op:CmpOp}{r:R2}(ho:nj X (compareOp op) r)(ha:PE X a ta)(hb:PE X b tb)(hm:behindInMarks op b=false):PT X (.Compare a [op] [b] pos) (xy (Jj r ta tb)):=by
 intro pins s σ H Q I h
 refine wpAny_isTrue_Compare1 (eF (ha pins s σ H _ I h) fun v s1 zqz=>?_) hm
 obtain⟨x,H1,I1,r1,q1⟩:=zqz
 refine eF (hb pins s1 σ H1 _ I1 q1) fun u s2 zqz=>?_
 obtain⟨y,H2,I2,r2,q2⟩:=zqz
 refine eF (ho pins s2 σ H2 x y v u _ I2 r1 r2 q2) fun c s3 zqz=>?_
 obtain⟨z,H3,I3,r3,k,e,q3⟩:=zqz
 subst e
 cases r3
 exact wpAny_truthy_bool ⟨H3,I3,q3⟩
def AI (r r':R2) (ta tb tc:TE):TE:=fun σ H Q=>ta σ H fun x H1=>tb σ H1 fun y H2=>r x y H2 fun z H3=>∃k,z=.bl k/\
 (if k=true then tc σ H3 fun w' H4=>r' y w' H4 Q else Q (.bl false) H3)
def Jp (K:PySem.W.Frag) (x:V) (H:Hp) (k:Bool):Prop:=
 match x with
 |.c6=>k=false
 |.bl b=>k=b
 |.int i=>k=(i != 0)
 |.str y=>y.length<=sizeLine/\k=((y.length:Int) != 0)
 |.xl y=>y.size<=sizeLine/\k=((y.size:Int) != 0)
 |.ref p=>(∃xs,eD K H p xs/\k = !xs.isEmpty)\/(∃xs,bR K H p xs/\k = !xs.isEmpty)\/∃aJ,H p=some (.dK aJ)/\k = !aJ.isEmpty
 |_=>False
theorem vN{κ:Type}{aJ:List (κ×V)}{vs:List (κ×Value)}(r:KV aJ vs):(!vs.isEmpty) = !aJ.isEmpty:=by
 cases r<;>rfl
theorem pP{xs:List V}{bc:List Value}(r:Vals xs bc):(!bc.toArray.isEmpty) = !xs.isEmpty:=by
 cases r<;>simp
theorem nG:(sizeLine:Nat)<2 ^ 63:=by rw[sizeLine_eq];decide
theorem GJ:Nf X (fun x H Q=>∃k,Jp X.K x H k/\Q k H):=by
 intro pins s σ H x v Q I rx h
 obtain⟨k,e,q⟩:=h
 have hl:=nG
 have hs:sizeLine=16777216:=sizeLine_eq
 cases x with
 |c6=>
  cases rx
  have e':k=false:=e
  subst e'
  exact truthy_none ⟨H,I,q⟩
 |bl b=>
  cases rx
  have e':k=b:=e
  subst e'
  exact wpAny_truthy_bool ⟨H,I,q⟩
 |int i=>
  obtain⟨t,rfl⟩:=rx
  have e':k=(i != 0):=e
  subst e'
  exact PySem.P.truthy_int ⟨H,I,q⟩
 |str y=>
  obtain⟨t,rfl⟩:=rx
  obtain⟨hy,e'⟩:y.length<=sizeLine/\k=((y.length:Int) != 0):=e
  subst e'
  exact PySem.P.truthy_str (by lia) ⟨H,I.tok _,q⟩
 |xl y=>
  obtain⟨t,rfl⟩:=rx
  obtain⟨hy,e'⟩:y.size<=sizeLine/\k=((y.size:Int) != 0):=e
  subst e'
  exact PySem.W.truthy_bytes (by lia) ⟨H,I.tok _,q⟩
 |ref p=>
  cases rx
  have e':(∃xs,eD X.K H p xs/\k = !xs.isEmpty)\/(∃xs,bR X.K H p xs/\k = !xs.isEmpty)\/∃aJ,H p=some (.dK aJ)/\k = !aJ.isEmpty:=e
  rcases e' with ⟨xs,hx,e'⟩ |⟨xs,hx,e'⟩ |⟨aJ,hx,e'⟩
  ·subst e'
   obtain⟨bc,r,pl,hz⟩:=I.list hx
   have hlen:=r.length
   exact wpAny_truthy_list pl.isList (by simp only[List.size_toArray];lia) ⟨H,I.tok _,by rw[pP r];exact q⟩
  ·subst e'
   obtain⟨bc,r,pl,hz⟩:=I.tuple hx
   have hlen:=r.length
   exact truthy_tuple pl (by simp only[List.size_toArray];lia) ⟨H,I.tok _,by rw[pP r];exact q⟩
  ·subst e'
   obtain⟨hz,hS,vs,r,m⟩:aJ.length<=sizeLine/\(p==sysModules)=false/\∃vs,KV aJ vs/\s.heap.DictOf (ck X.prog X.w) p vs:=I.c7 p _ hx
   have hlen:aJ.length=vs.length:=Paired.length r
   exact wpAny_truthy_dict hS m (by lia) ⟨H,I.tok _,by rw[vN r];exact q⟩
 |_=>exact(show False from e).elim
theorem AJ(ha:PE X a ta)(he:∀whole,isTrue a X.env whole=(do let v <- whole;standAt a.pos;holding [v] (truthy v))) :
 PT X a (fun σ H Q=>ta σ H fun x H'=>∃k,Jp X.K x H' k/\Q k H'):=by
 intro pins s σ H Q I h
 exact isTrue_plain (eF (ha pins s σ H _ I h) fun v s1 ⟨x,H1,I1,r1,q1⟩=>GJ pins s1 σ H1 x v Q I1 r1 q1) (he _)
theorem vals1{x:V}{us:List Value}(r:Vals [x] us):∃u,us=[u]/\RelV x u:=by
 cases r with
 |cons r1 r2=>cases r2;exact⟨_,rfl,r1⟩
theorem vals2{x y:V}{us:List Value}(r:Vals [x,y] us):∃u w',us=[u,w']/\RelV x u/\RelV y w':=by
 cases r with
 |cons r1 r2=>
  cases r2 with
  |cons r3 r4=>cases r4;exact⟨_,_,rfl,r1,r3⟩
theorem fz(hc:X.calm=true):gW X (.builtin "max") (fun xs H Q=>∃i j,xs=[.int i,.int j]/\Q (.int (if j>i then j else i)) H):=by
 intro pins s σ H xs us Q I r h
 obtain⟨i,j,rfl,q⟩:=h
 obtain⟨u,w',rfl,⟨t,rfl⟩,⟨t',rfl⟩⟩:=vals2 r
 refine max_two_ints (I.ok.hd hc) fun h' tk k=>⟨_,H,I.kept k,?_,q⟩
 by_cases hj:j>i
 ·rw[if_pos hj,if_pos hj];exact⟨_,rfl⟩
 ·rw[if_neg hj,if_neg hj];exact⟨_,rfl⟩
theorem fA(hc:X.calm=true):gW X (.builtin "min") (fun xs H Q=>∃i j,xs=[.int i,.int j]/\Q (.int (if j<i then j else i)) H):=by
 intro pins s σ H xs us Q I r h
 obtain⟨i,j,rfl,q⟩:=h
 obtain⟨u,w',rfl,⟨t,rfl⟩,⟨t',rfl⟩⟩:=vals2 r
 refine min_two_ints (I.ok.hd hc) fun h' tk k=>⟨_,H,I.kept k,?_,q⟩
 by_cases hj:j<i
 ·rw[if_pos hj,if_pos hj];exact⟨_,rfl⟩
 ·rw[if_neg hj,if_neg hj];exact⟨_,rfl⟩
end
end L2
namespace L2
open PySem PySem.Spec PyProof.Rows
structure yW(h:Heap)(x dx C:Addr)(mA:Str->Option Value):Prop where
 obj:h.get? x=some (PySem.W.instObj C dx)
 ns:h.Ns1 dx mA
 ne:dx≠x
theorem yX{h:Heap}{dx:Addr}{mA:Str->Option Value}(n:h.Ns1 dx mA):∃od,h.get? dx=some od/\∀name,PySem.W.lookIn name od=some (mA name):=by
 obtain⟨o,es,ep,ho,hd,hk,_,hm⟩:=n
 refine⟨o,ho,fun name=>?_⟩
 have e:=hm name
 unfold nsFind findBy at e
 rw[<- Array.find?_toList] at e
 unfold PySem.W.lookIn
 rw[hd]
 dsimp only
 split
 ·rename_i y q
  rw[q] at e
  exact congrArg some e
 ·rename_i q
  rw[q] at e
  have a:es.toList.any (·.refKey)=false:=by
   rw[List.any_eq_false]
   intro y hy
   obtain⟨z,t,Ng⟩:=hk y (Array.mem_toList_iff.mp hy)
   simp[DictEntry.refKey,Ng]
  have a':¬es.toList.any (·.refKey)=true:=by rw[a];exact Bool.false_ne_true
  rw[if_neg a']
  exact congrArg some e
theorem yW.look{h:Heap}{x dx C:Addr}{mA:Str->Option Value}(I:yW h x dx C mA):∃od,PySem.W.InstAt h x (PySem.W.instObj C dx) C (some od)/\∀name,PySem.W.lookIn name od=some (mA name):=
 let ⟨od,ho,hl⟩:=yX I.ns
 ⟨od,⟨I.obj,rfl,rfl,ho⟩,hl⟩
section
variable{prog:Program}{w:World}{A:Around}{E:Value->Shared->Prop}{s:Shared}{K:PySem.W.Frag}{x dx C f:Addr}{mA:Str->Option Value}{name:Str}{v:Value}
theorem get_map{expr:Bool}{Q:Value->Shared->Prop}(X:K.In s.heap)(I:yW s.heap x dx C mA)(hg:PySem.W.plainGet K C name=true)(hh:PySem.W.hasDictIn K C=true)
 (ha:PySem.W.findIn K (.ref C) name=some none) (hv:mA name=some v) (qJ:PySem.W.handedIn v=true) (h:Q v {s with toks:=s.toks+1}) :
 wpAny (model prog w) A (getAttr (.ref x) name expr) Q E s:=by
 obtain⟨od,J,hl⟩:=I.look
 exact PySem.W.get_value X J (PySem.W.plainGet_of hg).1 (PySem.W.findObj_own hh ha rfl (by rw[hl,hv])) qJ h
theorem xA{ns:List Str}{Q:Unit->Shared->Prop}(X:K.In s.heap)(I:yW s.heap x dx C mA)
 (hs:PySem.W.findIn K (.ref C) "__setattr__"=some (some (.builtin "object.__setattr__"))) (hp:PySem.W.plainOver K C=true) (ht:PySem.W.takerIn K C name=some none) (hh:PySem.W.hasDictIn K C=true)
 (hw:PySem.Within mA ns) (hsz:ns.length<=sizeLine)
 (h:∀h',yW h' x dx C (fun y=>if y=name then some v else mA y)->Heap.SameBut dx s.heap h'->Q () {s with heap:=h',toks:=s.toks+2}) :
 wpAny (model prog w) A (setAttr (.ref x) name v) Q E s:=by
 obtain⟨od,J,hl⟩:=I.look
 refine PySem.W.set_plain X J hs (PySem.W.osa_open (s:={s with toks:=s.toks+1}) (r:=none) X J hp ht fun b=>?_)
 obtain⟨cd,hc,xm⟩:=PySem.W.any_some hh
 have hx:s.heap.get? x=some ⟨.ref C,some dx,.plain, #[]⟩:=I.obj
 refine wpAny_bind (wpAny_pure (wpAny_bind (wpAny_bind (wpAny_loadPart hx (wpAny_bind (PySem.W.Looks.here (s:={s with toks:=s.toks+1}) (PySem.W.looks_clsIn X hc) ?_))))))
 rw[xm]
 refine wpAny_pure (a:=some dx) (wpAny_bind (wpAny_pure (wpAny_bind ?_)))
 refine wpAny_nsSet1 (s:={s with toks:=s.toks+1}) I.ns fun h' L7 pQ=>?_
 obtain⟨oD,UN,UO,RO,RQ,RR⟩:=L7.count (PySem.Within.cons name v hw)
 refine wpAny_bind (wpAny_lookBehind RO (by rw[RQ];exact pastItsLine_dict (Nat.le_trans RR (by rw[List.length_cons];lia))) ?_)
 exact wpAny_pure (h _ ⟨(pQ.2 _ (Ne.symm I.ne)).trans I.obj,L7,I.ne⟩ pQ)
theorem AK{R:Result->Shared->Prop}{vs:List Value}{kw:List (Str×Value)}(X:K.In s.heap)(hm:PySem.W.makesIn K C=true)
 (hi:PySem.W.findIn K (.ref C) "__init__"=some (some (.ref f))) (hf:PySem.W.typeIn K (.ref f)=some (.type "function"))
 (h:codeAny (model prog w) (A.under (.builtin "type.__call__" ⟨.ref C::vs,kw⟩)) (.call (.ref f) ⟨.ref (s.heap.objs.size+1)::vs,kw⟩) (PySem.W.InitBack (s.heap.objs.size+1) R)
  {s with heap:=(s.heap.push PySem.W.emptyDict).push (PySem.W.instObj C s.heap.objs.size)}) :
 codeAny (model prog w) A (.call (.ref C) ⟨vs,kw⟩) R s:=by
 obtain⟨hh,g,d,t,os⟩:=s
 exact PySem.W.make_core (PySem.W.makes_of X hm) (PySem.W.looks_findIn X hi) (fun self=>PySem.W.bind_fn X self hf) (.inl rfl) h
end
def iN (f:Str) (v:V):List (Str×V)->List (Str×V)
 |[]=>[(f,v)]
 |(g,x)::r=>if g=f then (g,v)::r else (g,x)::iN f v r
theorem oM(f g:Str)(v:V):∀fs:List (Str×V),(iN f v fs).lookup g=if g=f then some v else fs.lookup g
 |[]=>by
  show List.lookup g [(f,v)]=_
  by_cases h:g=f
  ·have hb:(g==f)=true:=beq_iff_eq.mpr h
   simp only[List.lookup,hb,if_pos h]
  ·have hb:(g==f)=false:=beq_eq_false_iff_ne.mpr h
   simp only[List.lookup,hb,if_neg h]
 |(k,x)::r=>by
  have ih:=oM f g v r
  rw[show iN f v ((k,x)::r)=(if k=f then (k,v)::r else (k,x)::iN f v r) from rfl]
  by_cases hk:k=f
  ·rw[if_pos hk]
   by_cases h:g=k
   ·have hb:(g==k)=true:=beq_iff_eq.mpr h
    simp only[List.lookup,hb,if_pos (h.trans hk)]
   ·have hb:(g==k)=false:=beq_eq_false_iff_ne.mpr h
    simp only[List.lookup,hb,if_neg (fun e:g=f=>h (e.trans hk.symm))]
  ·rw[if_neg hk]
   by_cases h:g=k
   ·have hb:(g==k)=true:=beq_iff_eq.mpr h
    simp only[List.lookup,hb,if_neg (fun e:g=f=>hk (h.symm.trans e))]
   ·have hb:(g==k)=false:=beq_eq_false_iff_ne.mpr h
    simp only[List.lookup,hb]
    exact ih
theorem nH(f:Str)(v:V):∀fs:List (Str×V),f∈(iN f v fs).map (·.1)/\∀g,g∈fs.map (·.1)->g∈(iN f v fs).map (·.1)
 |[]=>⟨by simp[iN],fun g h=>by simp at h⟩
 |(k,x)::r=>by
  obtain⟨i1,i2⟩:=nH f v r
  rw[show iN f v ((k,x)::r)=(if k=f then (k,v)::r else (k,x)::iN f v r) from rfl]
  by_cases hk:k=f
  ·rw[if_pos hk]
   subst hk
   exact⟨by simp,fun g h=>by simpa using h⟩
  ·rw[if_neg hk]
   refine⟨?_,fun g h=>?_⟩
   ·rw[List.map_cons]
    exact List.mem_cons_of_mem _ i1
   ·rw[List.map_cons] at h ⊢
    rcases List.mem_cons.mp h with e |e
    ·exact List.mem_cons.mpr (.inl e)
    ·exact List.mem_cons_of_mem _ (i2 g e)
theorem oN(f:Str)(v:V):∀fs:List (Str×V),(iN f v fs).length<=fs.length+1
 |[]=>by simp[iN]
 |(k,x)::r=>by
  have ih:=oN f v r
  rw[show iN f v ((k,x)::r)=(if k=f then (k,v)::r else (k,x)::iN f v r) from rfl]
  by_cases hk:k=f
  ·rw[if_pos hk,List.length_cons,List.length_cons];lia
  ·rw[if_neg hk,List.length_cons,List.length_cons];lia
theorem k8.some_of{v:V}{o:Option Value}(r:k8 (some v) o):∃u,o=some u/\RelV v u:=by
 cases o with
 |none=>exact(show False from r).elim
 |some u=>exact⟨u,rfl,r⟩
theorem yY{v:V}{u:Value}(r:RelV v u):PySem.W.handedIn u=true:=by
 cases v with
 |c6=>cases (show u=Value.none from r);rfl
 |bl b=>cases (show u=Value.bool b from r);rfl
 |int i=>obtain⟨t,e⟩:=(show ∃t,u=Value.int i t from r);cases e;rfl
 |str x=>obtain⟨t,e⟩:=(show ∃t,u=Value.str x t from r);cases e;rfl
 |xl b=>obtain⟨t,e⟩:=(show ∃t,u=Value.bytes b t from r);cases e;rfl
 |Gq b=>obtain⟨t,e⟩:=(show ∃t,u=Value.float b t from r);cases e;rfl
 |ref a=>cases (show u=Value.ref a from r);rfl
 |ty n=>cases (show u=Value.type n from r);rfl
section
variable{P:Program}{w:World}{H H':Hp}{h h':Heap}{a C dx:Addr}{fs Dt:List (Str×V)}
theorem sO(c7:mq P w H h)(e:H a=some (.ins C dx fs)):∃mA,yW h a dx C mA/\(∀f,k8 (fs.lookup f) (mA f))/\PySem.Within mA (fs.map (·.1))/\fs.length<=1000/\H dx=some (.own a):=by
 obtain⟨d,z,ne,ob,mA,n,r,q⟩:=(show cS P w H h a (.ins C dx fs) from c7 a _ e)
 exact⟨mA,⟨ob,n,ne⟩,r,q,z,d⟩
end
structure DF(K:PySem.W.Frag)(C:Addr):Prop where
 pg:PySem.W.plainGet K C Str.empty=true
 hd:PySem.W.hasDictIn K C=true
 po:PySem.W.plainOver K C=true
 sa:PySem.W.findIn K (.ref C) "__setattr__"=some (some (.builtin "object.__setattr__"))
theorem DF.get{K:PySem.W.Frag}{C:Addr}(c:DF K C)(f:Str):PySem.W.plainGet K C f=true:=c.pg
def gP (K:PySem.W.Frag) (C:Addr) (f:Str):Prop:=PySem.W.findIn K (.ref C) f=some none
theorem gP.Jq{K:PySem.W.Frag}{C:Addr}{f:Str}(n:gP K C f):PySem.W.takerIn K C f=some none:=by
 unfold PySem.W.takerIn
 rw[show PySem.W.findIn K (.ref C) f=some none from n]
 rfl
section
variable{X:Cx}{pins:List (Addr×Obj)}{σ:St}{H:Hp}{s:Shared}{a C dx:Addr}{fs:List (Str×V)}{f:Str}{v:V}{A:Around}{E:Value->Shared->Prop}
theorem vO{b:Bool}{Q:Value->Shared->Prop}(I:Inv X pins σ H s)(e:H a=some (.ins C dx fs))(c:DF X.K C)(n:gP X.K C f)(l:fs.lookup f=some v)
 (h:∀u s',Inv X pins σ H s'->RelV v u->Q u s'):wpAny (model X.prog X.w) A (getAttr (.ref a) f b) Q E s:=by
 obtain⟨mA,O,r,_,_,_⟩:=sO I.c7 e
 obtain⟨u,hu,ru⟩:=k8.some_of (v:=v) (o:=mA f) (by rw[<- l];exact r f)
 exact get_map I.pz O (c.get f) c.hd n hu (yY ru) (h u _ (I.tok _) ru)
theorem vP{y:V}{u:Value}{Q:Unit->Shared->Prop}(I:Inv X pins σ H s)(e:H a=some (.ins C dx fs))(c:DF X.K C)(n:gP X.K C f)(hl:fs.length<1000)(ry:RelV y u)
 (h:∀s',Inv X pins σ (upd H a (.ins C dx (iN f y fs))) s'->Q () s'):wpAny (model X.prog X.w) A (setAttr (.ref a) f u) Q E s:=by
 obtain⟨mA,O,r,wi,_,ho⟩:=sO I.c7 e
 have hz:(fs.map (·.1)).length<=sizeLine:=by rw[List.length_map,sizeLine_eq];lia
 refine xA I.pz O c.sa c.po n.Jq c.hd wi hz fun h' O' sb=>h _ ?_
 have hd:∃o,h'.get? dx=some o:=let ⟨o,_,_,e',_⟩:=O'.ns;⟨o,e'⟩
 refine I.write (x:=a) (e:=dx) (by rw[e];exact True.intro) (.inr ho) (fun b q hb z=>(sb.2 b hb).trans z) hd ?_
 refine⟨by rw[aF O.ne];exact ho,?_,O.ne,O'.obj,_,O'.ns,fun g=>?_,fun g hg=>?_⟩
 ·have:=oN f y fs;lia
 ·show k8 ((iN f y fs).lookup g) (if g=f then some u else mA g)
  rw[oM]
  by_cases q:g=f
  ·rw[if_pos q,if_pos q];exact ry
  ·rw[if_neg q,if_neg q];exact r g
 ·by_cases q:g=f
  ·rw[q];exact(nH f y fs).1
  ·refine(nH f y fs).2 g (wi g fun z=>hg ?_)
   show (if g=f then some u else mA g)=none
   rw[if_neg q];exact z
theorem Inv.made(I:Inv X pins σ H s):Inv X pins σ (upd (upd H s.heap.objs.size (.own (s.heap.objs.size+1))) (s.heap.objs.size+1) (.ins C s.heap.objs.size []))
 {s with heap:=(s.heap.push PySem.W.emptyDict).push (PySem.W.instObj C s.heap.objs.size)}:=by
 have e1:(s.heap.push PySem.W.emptyDict).get? s.heap.objs.size=some PySem.W.emptyDict:=Heap.get?_push_size s.heap rfl
 have e2:((s.heap.push PySem.W.emptyDict).push (PySem.W.instObj C s.heap.objs.size)).get? (s.heap.objs.size+1)=some (PySem.W.instObj C s.heap.objs.size):=by
  have:=Heap.get?_push_size (s.heap.push PySem.W.emptyDict) (o:=PySem.W.instObj C s.heap.objs.size) rfl
  rwa [Heap.size_push] at this
 have e3:(s.heap.push PySem.W.emptyDict).Ns s.heap.objs.size (fun _=>none):=⟨PySem.W.emptyDict, #[],_,e1,rfl,(fun e he=>absurd he (by simp)),fun _=>rfl⟩
 have I1:=I.laid (a:=s.heap.objs.size) (o:=.own (s.heap.objs.size+1)) (h':=s.heap.push PySem.W.emptyDict) (t':=s.toks) (fun b u q=>Heap.get?_push_of_some _ q) (Nat.le_refl _) ⟨_,e1⟩
 refine I1.laid (a:=s.heap.objs.size+1) (o:=.ins C s.heap.objs.size []) (t':=s.toks) (fun b u q=>Heap.get?_push_of_some _ q) (Nat.le_of_eq (Heap.size_push _ _)) ?_
 have ne:s.heap.objs.size≠s.heap.objs.size+1:=Nat.ne_of_lt (Nat.lt_succ_self _)
 refine⟨by rw[aF ne,aj],Nat.zero_le _,ne,e2,fun _=>none,(Heap.Ns1.of_empty e3).at fun o q=>Heap.get?_push_of_some _ q,fun _=>True.intro,fun y hy=>absurd rfl hy⟩
theorem DG{prog:Program}{w:World}{env:Env}{e:Expr}{f:Str}{pos:Pos}{s:Shared}{Q:Value->Shared->Prop}(hb:attributeBase e f env (eval e env)=eval e env)
 (h:wpAny (model prog w) A (eval e env) (fun o s₁=>wpAny (model prog w) A (getAttr o f true) Q E s₁) E s):wpAny (model prog w) A (eval (.Attribute e f pos) env) Q E s:=
 Attribute_any_ h (by rw[arm_eval_Attribute,hb])
end
def GK (K:PySem.W.Frag) (ta:TE) (f:Str):TE:=fun σ H Q=>ta σ H fun x H1=>∃a C dx fs v,x=.ref a/\H1 a=some (.ins C dx fs)/\DF K C/\gP K C f/\fs.lookup f=some v/\Q v H1
def uv (K:PySem.W.Frag) (ta tv:TE) (f:Str):TS:=fun D σ H=>tv σ H fun y H1=>ta σ H1 fun x H2=>∃a C dx fs,x=.ref a/\H2 a=some (.ins C dx fs)/\DF K C/\gP K C f/\fs.length<1000/\
 D.nx σ (upd H2 a (.ins C dx (iN f y fs)))
def xB (K:PySem.W.Frag) (ta tv:TE) (rd:V->V->Hp->VK->Prop) (f:Str):TS:=fun D σ H=>ta σ H fun x H1=>∃a C dx fs v,x=.ref a/\H1 a=some (.ins C dx fs)/\DF K C/\gP K C f/\fs.lookup f=some v/\
 tv σ H1 fun y H2=>rd v y H2 fun z H3=>∃PL Dt,H3 a=some (.ins C PL Dt)/\Dt.length<1000/\D.nx σ (upd H3 a (.ins C PL (iN f z Dt)))
section
variable{X:Cx}{o e value:Expr}{f:Str}{pos pos' DH:Pos}{ta tv:TE}
theorem jy(he:PE X e ta)(hb:attributeBase e f X.env (eval e X.env)=eval e X.env):PE X (.Attribute e f pos) (GK X.K ta f):=by
 intro pins s σ H Q I h
 refine DG hb (eF (he pins s σ H _ I h) fun u s1 zqz=>?_)
 obtain⟨x,H1,I1,rx,a,C,dx,fs,v,ex,ea,c,n,l,q⟩:=zqz
 subst ex
 obtain rfl:u=Value.ref a:=rx
 exact vO I1 ea c n l fun u' s2 I2 ru=>⟨v,H1,I2,ru,q⟩
theorem pS(ha:PE X o ta)(hv:PE X value tv)(hs:swapsWith value (some (.Attribute o f pos')) pos.line X.env=pure false):PS X (.Assign [.Attribute o f pos'] value pos) (uv X.K ta tv f):=by
 intro pins s σ H D I h
 refine plainObj_wpAny_Assign_Attribute (eF (hv pins s σ H _ I h) fun u s1 zqz=>?_) hs
 obtain⟨y,H1,I1,ry,q⟩:=zqz
 refine eF (ha pins s1 σ H1 _ I1 q) fun ov s2 zqz=>?_
 obtain⟨x,H2,I2,rx,a,C,dx,fs,ex,ea,c,n,l,q2⟩:=zqz
 subst ex
 obtain rfl:ov=Value.ref a:=rx
 exact vP I2 ea c n l ry fun s3 I3=>⟨σ,_,I3,q2⟩
end
section
variable{X:Cx}{pins:List (Addr×Obj)}{σ:St}{H:Hp}{s:Shared}{A:Around}{E:Value->Shared->Prop}{Q:Value->Shared->Prop}{c:Value}{b:Bool}
inductive nI(K:PySem.W.Frag)(H:Hp):V->Value->Prop where
 |c6:nI K H .c6 (.type "NoneType")
 |bl (x:Bool):nI K H (.bl x) (.type "bool")
 |int (i:Int):nI K H (.int i) (.type "int")
 |str (x:Str):nI K H (.str x) (.type "str")
 |Gq (x:UInt64):nI K H (.Gq x) (.type "float")
 |lst {a:Addr} {xs:List V} (e:H a=some (.lst xs)):nI K H (.ref a) (.type "list")
 |vJ {a:Addr} {o:Obj} {xs:List V} (e:H a=some (.vJ o (.lst xs))):nI K H (.ref a) (.type "list")
 |tup {a:Addr} {xs:List V} (e:H a=some (.tup xs)):nI K H (.ref a) (.type "tuple")
 |dK {a:Addr} {aJ:List (Key×V)} (e:H a=some (.dK aJ)):nI K H (.ref a) (.type "dict")
 |dT {a:Addr} {aJ:List (List Key×V)} (e:H a=some (.dT aJ)):nI K H (.ref a) (.type "dict")
 |ins {a C dx:Addr} {fs:List (Str×V)} (e:H a=some (.ins C dx fs)) (cl:DF K C) (ha:PySem.W.findIn K (.ref C) "__class__"=some (some (.builtin "object.__class__")))
  (hn:PySem.W.specialIn K (.builtin "object.__class__") "__get__"=some (some (.builtin "getset_descriptor.__get__"))) (PN:PySem.W.takesIn K (.builtin "object.__class__")=some true)
  (hm:PySem.W.mroIn K C (.type "object")=some true):nI K H (.ref a) (.ref C)
theorem yZ{x:V}{u t:Value}(I:Inv X pins σ H s)(rx:RelV x u)(ty:nI X.K H x t)(e:PySem.W.kitOne X.K t c=some b)(h:∀tk,Q (.bool b) {s with toks:=tk}) :
 wpAny (model X.prog X.w) A (call (.builtin "isinstance") [u,c]) Q E s:=by
 cases ty with
 |c6=>cases (show u=Value.none from rx);exact PySem.W.kia_one PySem.W.kitx_none I.pz True.intro e (fun z=>nomatch z) h
 |bl y=>cases (show u=Value.bool y from rx);exact PySem.W.kia_one PySem.W.kitx_bool I.pz True.intro e (fun z=>nomatch z) h
 |int i=>obtain⟨t,q⟩:=(show ∃t,u=Value.int i t from rx);cases q;exact PySem.W.kia_one PySem.W.kitx_int I.pz True.intro e (fun z=>nomatch z) h
 |str y=>obtain⟨t,q⟩:=(show ∃t,u=Value.str y t from rx);cases q;exact PySem.W.kia_one PySem.W.kitx_str I.pz True.intro e (fun z=>nomatch z) h
 |Gq y=>obtain⟨t,q⟩:=(show ∃t,u=Value.float y t from rx);cases q;exact PySem.W.kia_one PySem.W.kitx_float I.pz True.intro e (fun z=>nomatch z) h
 |@lst a xs ea=>
  cases (show u=Value.ref a from rx)
  obtain⟨_,_,n,_,h1⟩:=(show cS X.prog X.w H s.heap a (.lst xs) from I.c7 a _ ea)
  exact PySem.W.kia_one PySem.W.kitx_list I.pz ⟨_,h1,rfl⟩ e (fun z=>nomatch z) h
 |@vJ a ob xs ea=>
  cases (show u=Value.ref a from rx)
  obtain⟨_,_,_,n,_,h1⟩:=(show cS X.prog X.w H s.heap a (.vJ ob (.lst xs)) from I.c7 a _ ea)
  exact PySem.W.kia_one PySem.W.kitx_list I.pz ⟨_,h1,rfl⟩ e (fun z=>nomatch z) h
 |@tup a xs ea=>
  cases (show u=Value.ref a from rx)
  obtain⟨_,_,_,p⟩:=(show cS X.prog X.w H s.heap a (.tup xs) from I.c7 a _ ea)
  obtain⟨o,h1,h2,_⟩:=p
  exact PySem.W.kia_one PySem.W.kitx_tuple I.pz ⟨o,h1,h2⟩ e (fun z=>nomatch z) h
 |@dK a aJ ea=>
  cases (show u=Value.ref a from rx)
  obtain⟨_,_,vs,_,p⟩:=(show cS X.prog X.w H s.heap a (.dK aJ) from I.c7 a _ ea)
  obtain⟨o,es,ep,h1,h2,_⟩:=p
  exact PySem.W.kia_one PySem.W.kitx_dict I.pz ⟨o,h1,h2.1⟩ e (fun z=>nomatch z) h
 |@dT a aJ ea=>
  cases (show u=Value.ref a from rx)
  obtain⟨_,_,xs,_,o,es,ep,h1,h2,_⟩:=(show cS X.prog X.w H s.heap a (.dT aJ) from I.c7 a _ ea)
  exact PySem.W.kia_one PySem.W.kitx_dict I.pz ⟨o,h1,h2.1⟩ e (fun z=>nomatch z) h
 |@ins a C dx fs ea cl ha hn PN hm=>
  cases (show u=Value.ref a from rx)
  obtain⟨mA,O,_⟩:=sO I.c7 ea
  obtain⟨od,J,_⟩:=O.look
  exact PySem.W.kia_one (PySem.W.kitx_own (cl.get _) cl.hd ha hn PN hm) I.pz J e (fun z=>nomatch z) h
end
end L2
namespace L2
open PySem PySem.Spec PyProof.Rows
structure fW(k:Nat)(A:Around):Prop where
 hd:A.handled=none
 dp:A.depth+3*k+5<recursionLimit
 un:A.units+16*k+200<cLine
theorem fW.mono{j k:Nat}{A:Around}(r:fW k A)(h:j<=k):fW j A:=⟨r.hd,by have:=r.dp;lia,by have:=r.un;lia⟩
theorem fW.deeper{k:Nat}{A:Around}(r:fW (k+1) A)(env:Env):fW k (A.deeper env):=
 ⟨r.hd,by have:=r.dp;show A.depth+1+3*k+5<_;lia,by have:=r.un;show A.units+3+16*k+200<_;lia⟩
theorem fW.in1{k:Nat}{A:Around}(r:fW (k+1) A):fW k A.in1:=
 ⟨r.hd,by have:=r.dp;show A.depth+3*k+5<_;lia,by have:=r.un;show A.units+1+16*k+200<_;lia⟩
theorem vQ{A:Around}{C:Addr}{us:List Value}{kw:List (Str×Value)}:(A.under (.builtin "type.__call__" ⟨.ref C::us,kw⟩)).depth=A.depth+1:=by
 first |rfl |simp[Around.under,Code.weight,Code.isCreation,Code.isGuard,Code.isCaller,Code.frames,Code.isFrame,guardIds]
theorem vR{A:Around}{C:Addr}{us:List Value}{kw:List (Str×Value)}:(A.under (.builtin "type.__call__" ⟨.ref C::us,kw⟩)).units=A.units+1:=by
 first |rfl |simp[Around.under,Code.cUnits,Code.frames,Code.isFrame]
theorem fW.make{k:Nat}{A:Around}(r:fW (k+1) A)(C:Addr)(us:List Value)(kw:List (Str×Value)):fW k (A.under (.builtin "type.__call__" ⟨.ref C::us,kw⟩)):=
 ⟨r.hd,by have:=r.dp;rw[vQ];lia,by have:=r.un;rw[vR];lia⟩
theorem fW.depth{k:Nat}{A:Around}(r:fW k A):A.depth<recursionLimit:=by have:=r.dp;lia
theorem fW.units{k:Nat}{A:Around}(r:fW k A):A.units+64<cLine:=by have:=r.un;lia
def Jr:TA:=fun _ H Q=>Q [] H
def Fw (ta:TE) (tr:TA):TA:=fun σ H Q=>ta σ H fun x H1=>tr σ H1 fun xs H2=>Q (x::xs) H2
section
variable{X:Cx}{e:Expr}{es:List Expr}{te:TE}{t:TA}{pos:Pos}
theorem ag:PA X [] Jr:=fun _ _ _ _ H Q I h=>Calls.spliced_nil ⟨[],H,I,.nil,h⟩
theorem aa(ha:PE X e te)(hr:PA X es t)(hs:starEach (e::es) X.env=(false,eval e X.env)::starEach es X.env:=by rfl):PA X (e::es) (Fw te t):=by
 intro pos pins s σ H Q I h
 rw[hs]
 show wpAny _ _ (spliced ((false,eval e X.env)::backTo pos (starEach es X.env))) _ _ s
 refine Calls.spliced_cons (eF (ha pins s σ H _ I h) fun u s1 zqz=>?_)
 obtain⟨x,H1,I1,r1,q1⟩:=zqz
 exact eF (hr pos pins s1 σ H1 _ I1 q1) fun us s2 ⟨xs,H2,I2,r2,q2⟩=>⟨x::xs,H2,I2,.cons r1 r2,q2⟩
def Js (t:TA):TE:=fun σ H Q=>t σ H fun xs H1=>xs.length<=sizeLine/\∀p,H1 p=none->Q (.ref p) (upd H1 p (.tup xs))
def Jt (t:TA):TE:=fun σ H Q=>t σ H fun xs H1=>xs.length<=sizeLine/\∀p,H1 p=none->Q (.ref p) (upd H1 p (.lst xs))
theorem aZ{x1}(h:PA X es t):PE X (.Tuple es x1 pos) (Js t):=by
 intro pins s σ H Q I hq
 refine wpAny_Tuple_spliced (eF (h pos pins s σ H _ I hq) fun us s1 ⟨xs,H1,I1,r,z,q⟩=>⟨by rw[<- r.length];exact z,?_⟩)
 have hf:H1 s1.heap.objs.size=none:=I1.c7.fresh (Nat.le_refl _)
 refine⟨.ref s1.heap.objs.size,upd H1 s1.heap.objs.size (.tup xs),I1.laid (t':=s1.toks) (fun b u e=>Heap.get?_push_of_some _ e) (Nat.le_refl _) ?_,rfl,q _ hf⟩
 exact⟨z,us,r,⟨_,Heap.get?_push_size _ rfl,rfl,_,rfl⟩⟩
theorem bt(h:PA X es t):PE X (.List es pos) (Jt t):=by
 intro pins s σ H Q I hq
 refine wpAny_List_spliced (eF (h pos pins s σ H _ I hq) fun us s1 ⟨xs,H1,I1,r,z,q⟩=>⟨by rw[<- r.length];exact z,?_⟩)
 have hf:H1 s1.heap.objs.size=none:=I1.c7.fresh (Nat.le_refl _)
 refine⟨.ref s1.heap.objs.size,upd H1 s1.heap.objs.size (.lst xs),I1.laid (t':=s1.toks) (fun b u e=>Heap.get?_push_of_some _ e) (Nat.le_refl _) ?_,rfl,q _ hf⟩
 exact⟨z,us,0,r,Heap.get?_push_size _ rfl⟩
end
abbrev Sp:=List V->Hp->VK->XK->Prop
abbrev t9:=List Env->Hp->Shared->XK->Value->Shared->Prop
structure qP(P:Program)(w:World)(K:PySem.W.Frag)(mg:Str->Option Value)(base:Heap)(A:Around)(outer:List Env)(s:Shared)(H:Hp):Prop where
 frames:A.frames=some outer
 mod:Mod K mg base
 bs:∀b o,base.get? b=some o->s.heap.get? b=some o/\H b=none
 Av:base.objs.size<=s.heap.objs.size
 nA:s.heap.FunFrames base outer
 Fl:∀b∈fZ outer,H b=none
 c7:mq P w H s.heap
 bare:AllBare s.gens
def CE (outer:List Env) (P:Program) (w:World) (H:Hp) (s:Shared) (Q:VK) (u:Value) (s':Shared):Prop:=
 ∃v H',s'.os=s.os/\AllBare s'.gens/\Un (fZ outer) [] H H' s.heap s'.heap/\mq P w H' s'.heap/\RelV v u/\Q v H'
def CR (CX:t9) (outer:List Env) (P:Program) (w:World) (H:Hp) (s:Shared) (Q:VK) (E:XK) (r:Result) (s':Shared):Prop:=
 match r with
 |.ok (.ret u)=>CE outer P w H s Q u s'
 |.ok _=>False
 |.error e=>CX outer H s E e s'
structure bJ(P:Program)(w:World)(K:PySem.W.Frag)(mg:Str->Option Value)(base:Heap)(CX:t9)(k:Nat)(f:Addr)(fd:FuncData)(ps:List Str)(sp:Sp):Prop where
 len:∀vs H Q E,sp vs H Q E->vs.length=ps.length
 run:∀(A:Around) (outer:List Env) (s:Shared) (H:Hp) (args:Args) (us:List Value) (vs:List V) (Q:VK) (E:XK),fW k A->qP P w K mg base A outer s H->BindsTo s fd args (ps.zip us)->Vals vs us->sp vs H Q E->
  codeAny (model P w) A (.call (.ref f) args) (CR CX outer P w H s Q E) s
theorem bJ.mono{P:Program}{w:World}{K:PySem.W.Frag}{mg:Str->Option Value}{base:Heap}{CX:t9}{j k:Nat}{f:Addr}{fd:FuncData}{ps:List Str}{sp:Sp}(F:bJ P w K mg base CX j f fd ps sp)(h:j<=k) :
 bJ P w K mg base CX k f fd ps sp:=⟨F.len,fun A outer s H args us vs Q E hr=>F.run A outer s H args us vs Q E (hr.mono h)⟩
theorem bJ.imp{P:Program}{w:World}{K:PySem.W.Frag}{mg:Str->Option Value}{base:Heap}{CX:t9}{k:Nat}{f:Addr}{fd:FuncData}{ps:List Str}{sp PQ:Sp}(F:bJ P w K mg base CX k f fd ps sp)
 (h:∀vs H Q E,PQ vs H Q E->sp vs H Q E):bJ P w K mg base CX k f fd ps PQ:=
 ⟨fun vs H Q E q=>F.len vs H Q E (h _ _ _ _ q),fun A outer s H args us vs Q E hr he hb hv hs=>F.run A outer s H args us vs Q E hr he hb hv (h _ _ _ _ hs)⟩
theorem qP.make{P:Program}{w:World}{K:PySem.W.Frag}{mg:Str->Option Value}{base:Heap}{A:Around}{outer:List Env}{s:Shared}{H:Hp}(e:qP P w K mg base A outer s H)(C:Addr)(us:List Value)(kw:List (Str×Value)) :
 qP P w K mg base (A.under (.builtin "type.__call__" ⟨.ref C::us,kw⟩)) outer s H:=⟨by first |exact e.frames |(simpa[Around.under,Code.envs,Code.isFrame,pushEnvs] using e.frames),e.mod,e.bs,e.Av,e.nA,e.Fl,e.c7,e.bare⟩
theorem qP.in1{P:Program}{w:World}{K:PySem.W.Frag}{mg:Str->Option Value}{base:Heap}{A:Around}{outer:List Env}{s:Shared}{H:Hp}(e:qP P w K mg base A outer s H) :
 qP P w K mg base A.in1 outer s H:=⟨e.frames,e.mod,e.bs,e.Av,e.nA,e.Fl,e.c7,e.bare⟩
section
variable{X:Cx}{pins:List (Addr×Obj)}{σ:St}{H:Hp}{s s':Shared}
theorem Inv.Ju(I:Inv X pins σ H s):qP X.prog X.w X.K X.mg X.base X.A X.stack s H:=
 ⟨I.ok.frames,I.ok.mod,I.bs,Nat.le_trans I.ok.Av I.sz,I.stack,I.xn,I.c7,I.bare⟩
theorem Inv.after{Q:VK}{u:Value}(I:Inv X pins σ H s)(h:CE X.stack X.prog X.w H s Q u s'):EP X pins σ Q u s':=by
 obtain⟨v,H',os,bare,un,c7,r,q⟩:=h
 obtain⟨hh,g,d,t,RT⟩:=s'
 obtain rfl:RT=s.os:=os
 exact⟨v,H',I.call (h':=hh) (g':=g) (d':=d) (t':=t) (ch:=[]) un c7 bare (fun b z=>absurd z (by simp)),r,q⟩
end
def Fx (sp:Sp) (qQ:List V) (E:XK) (t:TA):TE:=fun σ H Q=>t σ H fun vs H1=>sp (vs++qQ) H1 Q E
def Fy (C:Addr) (m:Str) (sp:Sp) (qQ:List V) (E:XK) (ta:TE) (t:TA):TE:=fun σ H Q=>ta σ H fun x H1=>∃a dx fs,x=.ref a/\H1 a=some (.ins C dx fs)/\fs.lookup m=none/\
 t σ H1 fun vs H2=>sp (x::(vs++qQ)) H2 Q E
def AL (C:Addr) (sp:Sp) (qQ:List V) (E:XK) (t:TA):TE:=fun σ H Q=>t σ H fun vs H1=>∀x dx,H1 x=none->H1 dx=none->dx≠x->
 sp (.ref x::(vs++qQ)) (upd (upd H1 dx (.own x)) x (.ins C dx [])) (fun v H2=>v=.c6/\Q (.ref x) H2) E
def Binds (K:PySem.W.Frag) (fd:FuncData) (ps:List Str) (ds:List Value):Prop:=
 ∀(s:Shared) (us:List Value),K.In s.heap->(us++ds).length=ps.length->BindsTo s fd ⟨us,[]⟩ (ps.zip (us++ds))
theorem Binds.all{K:PySem.W.Frag}{fd:FuncData}{ps:List Str}(h:∀us:List Value,us.length=ps.length->bindArgs fd ⟨us,[]⟩=pure (ps.zip us)):Binds K fd ps []:=fun s us _ hl=>by
 rw[List.append_nil] at hl ⊢
 exact .of_eq (h us hl)
def Passes (CX:t9) (X:Cx) (E:XK):Prop:=∀(pins:List (Addr×Obj)) (σ:St) (H:Hp) (s:Shared) (e:Value) (s':Shared),Inv X pins σ H s->CX X.stack H s E e s'->X.xe e s'
section
variable{X:Cx}{CX:t9}{k:Nat}{f C:Addr}{fd:FuncData}{ps:List Str}{sp:Sp}{qQ:List V}{ds:List Value}{E:XK}{x m:Str}{p pos apos:Pos}{e o:Expr}{es:List Expr}{ta:TE}{t:TA}
theorem GL{pins:List (Addr×Obj)}{σ:St}{H:Hp}{s:Shared}{Q:VK}{us:List Value}{vs:List V}(F:bJ X.prog X.w X.K X.mg X.base CX k f fd ps sp)(hr:fW k X.A)(hb:Binds X.K fd ps ds)(hd:Vals qQ ds)(hx:Passes CX X E)
 (I:Inv X pins σ H s) (r:Vals vs us) (h:sp (vs++qQ) H Q E):wpAny (model X.prog X.w) X.A (call (.ref f) us) (EP X pins σ Q) X.xe s:=by
 have r2:Vals (vs++qQ) (us++ds):=r.append hd
 have hl:(us++ds).length=ps.length:=by rw[<- r2.length];exact F.len _ _ _ _ h
 refine wpAny_call (codeAny_mono (F.run X.A X.stack s H ⟨us,[]⟩ (us++ds) (vs++qQ) Q E hr I.Ju (hb s us I.pz hl) r2 h) fun r s' hq=>?_)
 cases r with
 |error e=>exact hx pins σ H s e s' I hq
 |ok fl=>
  cases fl with
  |ret u=>exact I.after hq
  |next=>exact False.elim hq
  |brk=>exact False.elim hq
  |cont=>exact False.elim hq
theorem ay(F:bJ X.prog X.w X.K X.mg X.base CX k f fd ps sp)(hr:fW k X.A)(hg:Gl X x)(hm:X.mg x=some (.ref f))(hk:PySem.W.keepIn X.K (.ref f)=true)(hb:Binds X.K fd ps ds)(hd:Vals qQ ds)(hx:Passes CX X E)
 (ha:PA X (e::es) t) (GN:(x==("__debug__":Str))=false:=by decide) (he:starEach (e::es) X.env=(false,eval e X.env)::starEach es X.env:=by rfl) (qR:(backTo pos (starEach es X.env)).any (·.1)=false:=by rfl) :
 PE X (.Call (.Name x p) (e::es) [] pos) (Fx sp qQ E t):=by
 intro pins s σ H Q I h
 refine wpAny_Call_Name_kw (sM I hg hm ?_ GN)
 refine PySem.W.callWith_K (h₀:=X.base) I.ok.mod.L0 hk (eF (ha pos pins s σ H _ I h) fun us s1 ⟨vs,H1,I1,r,q⟩=>⟨I1.pz,?_⟩) he qR
 exact GL F hr hb hd hx I1 r q
structure Mk(K:PySem.W.Frag)(C f:Addr):Prop where
 makes:PySem.W.makesIn K C=true
 init:PySem.W.findIn K (.ref C) "__init__"=some (some (.ref f))
 fn:PySem.W.isFn K (.ref f)=true
 kp:PySem.W.keepIn K (.ref C)=true
theorem AM{pins:List (Addr×Obj)}{σ:St}{H:Hp}{s:Shared}{Q:VK}{us:List Value}{vs:List V}(M:Mk X.K C f)(F:bJ X.prog X.w X.K X.mg X.base CX k f fd ps sp)(hr:fW (k+1) X.A)(hb:Binds X.K fd ps ds)(hd:Vals qQ ds)
 (hx:Passes CX X E) (I:Inv X pins σ H s) (r:Vals vs us)
 (h:∀x dx,H x=none->H dx=none->dx≠x->sp (.ref x::(vs++qQ)) (upd (upd H dx (.own x)) x (.ins C dx [])) (fun v H2=>v=.c6/\Q (.ref x) H2) E) :
 wpAny (model X.prog X.w) X.A (call (.ref C) us) (EP X pins σ Q) X.xe s:=by
 have hq:=h (s.heap.objs.size+1) s.heap.objs.size (I.c7.fresh (Nat.le_succ _)) (I.c7.fresh (Nat.le_refl _)) (Nat.ne_of_lt (Nat.lt_succ_self _))
 have I2:=Inv.made (C:=C) I
 have r2:Vals (V.ref (s.heap.objs.size+1)::(vs++qQ)) (Value.ref (s.heap.objs.size+1)::(us++ds)):=.cons rfl (r.append hd)
 have hl:(Value.ref (s.heap.objs.size+1)::us++ds).length=ps.length:=by
  have e:=r2.length
  rw[F.len _ _ _ _ hq] at e
  exact e.symm
 refine wpAny_call (AK (f:=f) I.pz M.makes M.init (beq_iff_eq.mp M.fn) (codeAny_mono (F.run _ X.stack _ _ ⟨Value.ref (s.heap.objs.size+1)::us,[]⟩ (Value.ref (s.heap.objs.size+1)::(us++ds)) _ _ E (hr.make C us [])
  (I2.Ju.make C us []) (hb _ (Value.ref (s.heap.objs.size+1)::us) I2.pz hl) r2 hq) fun r s' Ai=>?_))
 cases r with
 |error e=>exact hx pins σ _ _ e s' I2 Ai
 |ok fl=>
  cases fl with
  |ret u=>
   obtain⟨v,H',I3,rv,ev,q3⟩:=I2.after Ai
   subst ev
   exact⟨rv,⟨V.ref (s.heap.objs.size+1),H',I3,rfl,q3⟩⟩
  |next=>exact False.elim Ai
  |brk=>exact False.elim Ai
  |cont=>exact False.elim Ai
theorem xC(M:Mk X.K C f)(F:bJ X.prog X.w X.K X.mg X.base CX k f fd ps sp)(hr:fW (k+1) X.A)(hg:Gl X x)(hm:X.mg x=some (.ref C))(hb:Binds X.K fd ps ds)(hd:Vals qQ ds)(hx:Passes CX X E)
 (ha:PA X (e::es) t) (GN:(x==("__debug__":Str))=false:=by decide) (he:starEach (e::es) X.env=(false,eval e X.env)::starEach es X.env:=by rfl) (qR:(backTo pos (starEach es X.env)).any (·.1)=false:=by rfl) :
 PE X (.Call (.Name x p) (e::es) [] pos) (AL C sp qQ E t):=by
 intro pins s σ H Q I h
 refine wpAny_Call_Name_kw (sM I hg hm ?_ GN)
 refine PySem.W.callWith_K (h₀:=X.base) I.ok.mod.L0 M.kp (eF (ha pos pins s σ H _ I h) fun us s1 ⟨vs,H1,I1,r,q⟩=>⟨I1.pz,?_⟩) he qR
 exact AM M F hr hb hd hx I1 r q
end
section
variable{X:Cx}{CX:t9}{k:Nat}{f C:Addr}{fd:FuncData}{ps ks:List Str}{sp:Sp}{E:XK}{x m:Str}{p pos apos Nh:Pos}{e o:Expr}{es:List Expr}{RU:List Keyword}{te ta:TE}{t tk:TA}{nm:Option Str}
variable{g:List Value->List Value->List Value}{gV:List V->List V->List V}
end
structure bj(N P:List Str)(sc:Scope):Prop where
 kind:sc.kind=.function
 co:sc.isCoroutine=false
 gen:sc.isGenerator=false
 nd:N.Nodup
 pre:N.take P.length=P
 par:∀x∈P,sc.names.lookup x=some .local\/sc.names.lookup x=some .cell
 GO:∀y∈sc.names,y.2≠.free
theorem rM{kindOf:Str->Option NameKind}{x:Str}:∀ {binds:List (Str×Value)} {m:Str->Option Value},(∀v,(x,v) ∉ binds)->bindL kindOf binds m x=m x
 |[],_,_=>rfl
 |(n,v)::r,m,h=>by
  unfold bindL
  rw[rM fun w hw=>h w (List.mem_cons_of_mem _ hw)]
  split
  ·have:x≠n:=by rintro rfl;exact h v List.mem_cons_self
   simp[this]
  ·rfl
theorem rN{kindOf:Str->Option NameKind}{x:Str}:∀ {binds:List (Str×Value)} {m:Str->Option Value},(∀v,(x,v) ∉ binds)->bindC kindOf binds m x=m x
 |[],_,_=>rfl
 |(n,v)::r,m,h=>by
  unfold bindC
  rw[rN fun w hw=>h w (List.mem_cons_of_mem _ hw)]
  split
  ·rfl
  ·have:x≠n:=by rintro rfl;exact h v List.mem_cons_self
   simp[this]
theorem rO{kindOf:Str->Option NameKind}{x:Str}{v:Value}:∀ {P:List Str} {vs:List Value} {i:Nat} {m:Str->Option Value},P.Nodup->P[i]?=some x->vs[i]?=some v->kindOf x=some .local->
 bindL kindOf (P.zip vs) m x=some v
 |[],_,_,_,_,h,_,_=>by simp at h
 |_::_,[],_,_,_,_,h,_=>by simp at h
 |p::P,w::vs,0,m,nd,h1,h2,hk=>by
  simp at h1 h2;subst h1;subst h2
  show bindL kindOf ((p,w)::P.zip vs) m p=_
  unfold bindL
  rw[rM fun v hv=>(List.nodup_cons.mp nd).1 (List.of_mem_zip hv).1,if_pos hk]
  simp
 |p::P,w::vs,i+1,m,nd,h1,h2,hk=>by
  show bindL kindOf ((p,w)::P.zip vs) m x=_
  unfold bindL
  exact rO (i:=i) (List.nodup_cons.mp nd).2 (by simpa using h1) (by simpa using h2) hk
theorem rP{kindOf:Str->Option NameKind}{x:Str}{v:Value}:∀ {P:List Str} {vs:List Value} {i:Nat} {m:Str->Option Value},P.Nodup->P[i]?=some x->vs[i]?=some v->kindOf x≠some .local->
 bindC kindOf (P.zip vs) m x=some v
 |[],_,_,_,_,h,_,_=>by simp at h
 |_::_,[],_,_,_,_,h,_=>by simp at h
 |p::P,w::vs,0,m,nd,h1,h2,hk=>by
  simp at h1 h2;subst h1;subst h2
  show bindC kindOf ((p,w)::P.zip vs) m p=_
  unfold bindC
  rw[rN fun v hv=>(List.nodup_cons.mp nd).1 (List.of_mem_zip hv).1,if_neg hk]
  simp
 |p::P,w::vs,i+1,m,nd,h1,h2,hk=>by
  show bindC kindOf ((p,w)::P.zip vs) m x=_
  unfold bindC
  exact rP (i:=i) (List.nodup_cons.mp nd).2 (by simpa using h1) (by simpa using h2) hk
def start (N:List Str) (vs:List V):St:=vs.map some++List.replicate (N.length-vs.length) none
def qS (CX:t9) (P:Program) (w:World) (K:PySem.W.Frag) (mg:Str->Option Value) (base:Heap) (N:List Str) (qual:Str) (scope:Scope) (f:Addr) (cd:Value) (A:Around) (outer:List Env) (s:Shared) (H:Hp) (E:XK):Cx where
 prog:=P
 w:=w
 K:=K
 mg:=mg
 base:=base
 A:=A.deeper (envOfC qual scope s.heap.objs.size f cd)
 N:=N
 s₀:=s
 H₀:=H
 env:=envOfC qual scope s.heap.objs.size f cd
 outer:=outer
 stack:=envOfC qual scope s.heap.objs.size f cd::outer
 ex:=[]
 calm:=true
 fn:=fun _=>true
 pn:=[]
 xe:=fun e s'=>wpAny (model P w) (A.deeper (envOfC qual scope s.heap.objs.size f cd)) (leaving (envOfC qual scope s.heap.objs.size f cd) e) (fun _ Jv=>CX outer H s E e Jv) (fun e' Jv=>CX outer H s E e' Jv) s'
theorem uw{sc:Scope}{n:Nat}{x:Str}(h:sc.names.lookup x=some .cell):∃c,(cellsFrom n sc.names []).lookup x=some c:=by
 have q:=PySem.W.cellsFrom_some sc.names n [] (.inl h)
 exact Option.isSome_iff_exists.mp q
theorem za{CX:t9}{P:Program}{w:World}{K:PySem.W.Frag}{mg:Str->Option Value}{base:Heap}{N ps:List Str}{qual:Str}{scope:Scope}{f:Addr}{cd:Value}{A:Around}{outer:List Env}{s s1:Shared}{H:Hp}{E:XK}{us:List Value}{vs:List V}
 (S:bj N ps scope) (hd:A.handled=none) (e0:qP P w K mg base A outer s H) (hl:vs.length=ps.length) (r:Vals vs us)
 (x:InCallC s s.heap.objs.size (bindL (envOfC qual scope s.heap.objs.size f cd).kindOf (ps.zip us) fun _=>none) (cellsFrom (s.heap.objs.size+1) scope.names []) (bindC (envOfC qual scope s.heap.objs.size f cd).kindOf (ps.zip us) fun _=>none) s1) :
 Inv (qS CX P w K mg base N qual scope f cd A outer s H E) [] (start N vs) H s1:=by
 have qR:ps.length<=N.length:=by have:=congrArg List.length S.pre;rw[List.length_take] at this;lia
 obtain⟨h1,tk,rfl,hk⟩:=x.done
 have Jw:∀b:Addr,b ∉ (qS CX P w K mg base N qual scope f cd A outer s H E).ex:=fun b z=>absurd (show b∈([]:List Addr) from z) (by simp)
 refine⟨⟨e0.mod,S.kind,rfl,rfl,Nat.le_refl _,fun y z c h1 h2=>?_,fun y hy=>?_,fun y c _ h=>?_,fun _=>hd,Around.frames_deeper e0.frames,.inr ⟨rfl,rfl⟩,fun b z=>absurd z (Jw b),e0.bs,e0.Av,fun b _ _=>Jw b,fun b z=>absurd z (Jw b),e0.nA,e0.Fl⟩,
  rfl,e0.bare,Un.kept hk,⟨_,x.toInCall.ns,fun i y v h1 h2 h3=>?_⟩,fun y c h=>⟨_,x.cell y c h⟩,e0.c7.fresh (Nat.le_refl _),fun y c h=>?_,fun p hp=>absurd (show p∈([]:List (Addr×Obj)) from hp) (by simp),e0.c7.kept hk,?_⟩
 ·exact name_of_addr x.apart (PySem.mem_of_lookup h1) (PySem.mem_of_lookup h2)
 ·have hy:scope.names.lookup y=some .cell\/scope.names.lookup y=some .free:=hy
  rcases hy with hy |hy
  ·exact uw hy
  ·exact absurd rfl (S.GO _ (PySem.mem_of_lookup hy))
 ·exact Nat.le_of_lt (x.above y c (PySem.mem_of_lookup h))
 ·have hi:i<vs.length:=by
   unfold start at h2
   by_cases hi:i<vs.length
   ·exact hi
   ·rw[List.getElem?_append_right (by simpa using hi)] at h2
    rw[List.getElem?_replicate] at h2
    split at h2<;>cases h2
  have ha:vs[i]?=some v:=by
   unfold start at h2
   rw[List.getElem?_append_left (by simpa using hi),List.getElem?_map] at h2
   cases e:vs[i]? with
   |none=>rw[e] at h2;cases h2
   |some a=>rw[e] at h2;cases h2;rfl
  obtain⟨u,hu,rv⟩:=r.get ha
  have hp:ps[i]?=some y:=by
   rw[<- S.pre,List.getElem?_take_of_lt (by lia)];exact h1
  have PR:ps.Nodup:=by rw[<- S.pre];exact S.nd.sublist (List.take_sublist _ _)
  refine⟨u,rv,?_⟩
  rcases S.par y (List.mem_of_getElem? hp) with k |k
  ·exact .inl ⟨k,rO PR hp hu k⟩
  ·obtain⟨c,e⟩:=uw (n:=s.heap.objs.size+1) k
   refine .inr ⟨.inl k,c,e,?_⟩
   have q:=x.cell y c e
   rw[rP PR hp hu (by show scope.names.lookup y≠_;rw[k];decide)] at q
   exact q
 ·exact e0.c7.fresh (Nat.le_of_lt (x.above y c (PySem.mem_of_lookup h)))
 ·unfold start
  show _=N.length
  rw[List.length_append,List.length_map,List.length_replicate]
  lia
theorem Jx{CX:t9}{P:Program}{w:World}{K:PySem.W.Frag}{mg:Str->Option Value}{base:Heap}{k:Nat}{f:Addr}{name qual:Str}{params:Arguments}{body:List Stmt}{scope:Scope}{dV kV doc pm eE ct oc:Value}{an od:Option Addr}
 {Di:Array (Option Value)} {N ps:List Str} {sp:Sp} (lk:K.lookup f=some ⟨oc,od,.func (PySem.W.fnOf name qual params body scope dV kV doc pm an eE ct),Di⟩) (Ax:PySem.W.codeIn K eE qual=true) (S:bj N ps scope)
 (len:∀vs H Q E,sp vs H Q E->vs.length=ps.length)
 (ux:∀(A:Around) (outer:List Env) (s:Shared) (H:Hp) (vs:List V) (Q:VK) (E:XK),fW k (A.deeper (envOfC qual scope s.heap.objs.size f eE))->sp vs H Q E->
  ∃t,yP (qS CX P w K mg base N qual scope f eE A outer s H E) body t/\t {nx:=fun _ H'=>Q .c6 H',rt:=Q} (start N vs) H) :
 bJ P w K mg base CX (k+1) f (PySem.W.fnOf name qual params body scope dV kV doc pm an eE ct) ps sp:=by
 refine⟨len,fun A outer s H args us vs Q E hr e0 hb r Fz=>?_⟩
 have hl:=len _ _ _ _ Fz
 have KX:K.In s.heap:=e0.mod.L0.keeps fun b o e=>(e0.bs b o e).1
 have lim:s.heap.NoLimit:=e0.mod.nolimit.keeps fun b o e=>(e0.bs b o e).1
 have Jy:∀y∈ps.zip us,scope.names.lookup y.1=some .local\/(scope.names.lookup y.1=some .cell/\((cellsFrom (s.heap.objs.size+1) scope.names []).lookup y.1).isSome=true):=fun ⟨n,v⟩ hy=>by
  rcases S.par n (List.of_mem_zip hy).1 with q |q
  ·exact .inl q
  ·exact .inr ⟨q,PySem.W.cellsFrom_some _ _ _ (.inl q)⟩
 refine codeAny_call_function hr.depth (KX _ _ lk) rfl S.co S.gen rfl (PySem.W.codeRec_of KX Ax) (hb _ _ _ _ ?_)
 refine wpAny_newFunctionEnv_cells S.kind Jy fun env he s1 x=>?_
 subst he
 refine⟨lim.keeps x.toInCall.keep,codeAny_func ?_⟩
 obtain⟨t,ht,hq⟩:=ux A outer s H vs Q E (hr.deeper _) Fz
 have I:Inv (qS CX P w K mg base N qual scope f eE A outer s H E) [] (start N vs) H s1:=za S hr.hd e0 hl r x
 refine wpAny_mono (ht [] s1 (start N vs) H _ I hq) (fun fl s' hs=>?_) fun e s' hs=>hs
 have fin:∀ {σ':St} {H':Hp} {v:V} {u:Value},Inv (qS CX P w K mg base N qual scope f eE A outer s H E) [] σ' H' s'->RelV v u->Q v H'->CE outer P w H s Q u s':=
  fun {σ' H' v u} J rv q=>⟨v,H',J.os,J.bare,J.base,J.c7,rv,q⟩
 cases fl with
 |ret u=>
  obtain⟨v,σ',H',J,rv,q⟩:=hs
  exact fin J rv q
 |next=>
  obtain⟨σ',H',J,q⟩:=hs
  exact fin (v:=V.c6) (u:=Value.none) J rfl q
 |brk=>
  obtain⟨_,_,_,q⟩:=hs
  exact False.elim q
 |cont=>
  obtain⟨_,_,_,q⟩:=hs
  exact False.elim q
end L2
namespace L2
open PySem PySem.Spec PyProof.Rows
section
variable{X:Cx}{x:Str}{p pos:Pos}{e:Expr}{es:List Expr}{t:TA}{id T:String}{r:List V->Hp->VK->Prop}
def Ni (r:List V->Hp->VK->Prop) (t:TA):TE:=fun σ H Q=>t σ H fun vs H1=>r vs H1 Q
theorem bH(hc:gW X (.builtin id) r)(hg:Gl X x)(hm:X.mg x=none)(hv:bootBuiltins x=some (.builtin id))(ha:PA X (e::es) t)(hn:x≠"__name__":=by decide)(GN:(x==("__debug__":Str))=false:=by decide)
 (he:starEach (e::es) X.env=(false,eval e X.env)::starEach es X.env:=by rfl) (qR:(backTo pos (starEach es X.env)).any (·.1)=false:=by rfl):PE X (.Call (.Name x p) (e::es) [] pos) (Ni r t):=by
 intro pins s σ H Q I h
 refine wpAny_Call_Name_kw (lQ I hg hm hv ?_ hn GN)
 exact PyProof.Rows.callWith_builtin1 (eF (ha pos pins s σ H _ I h) fun us s1 ⟨vs,H1,I1,r1,q1⟩=>hc pins s1 σ H1 vs us Q I1 r1 q1) he qR
theorem bN(hc:gW X (.type T) r)(hg:Gl X x)(hm:X.mg x=none)(hv:bootBuiltins x=some (.type T))(ha:PA X (e::es) t)(hn:x≠"__name__":=by decide)(GN:(x==("__debug__":Str))=false:=by decide)
 (he:starEach (e::es) X.env=(false,eval e X.env)::starEach es X.env:=by rfl) (qR:(backTo pos (starEach es X.env)).any (·.1)=false:=by rfl):PE X (.Call (.Name x p) (e::es) [] pos) (Ni r t):=by
 intro pins s σ H Q I h
 refine wpAny_Call_Name_kw (lQ I hg hm hv ?_ hn GN)
 exact PyProof.Rows.callWith_type1 (eF (ha pos pins s σ H _ I h) fun us s1 ⟨vs,H1,I1,r1,q1⟩=>hc pins s1 σ H1 vs us Q I1 r1 q1) he qR
end
end L2
namespace HT
open PySem PyProof.Rows
section
open PySem.SeqAt
open PySem.AutoSeq1 (wpAny_loadPart')
open PySem.MeetsSeq PySem.MeetsSeq2 PySem.MeetsSeq3
end
section
variable{prog:Program}{w:World}{A:Around}{E:Value->Shared->Prop}{s:Shared}
theorem DI{t b:Addr}{vs ws:List Value}{Q:Value->Shared->Prop}(ht:IsTup s.heap t vs.toArray)(hb:IsTup s.heap b ws.toArray)(hv:vs≠[])
 (h1:ws=[]->Q (.ref t) s) (h2:ws≠[]->Q (.ref s.heap.objs.size) {s with heap:=s.heap.push {cls:=.type "tuple",data:=.seq (vs++ws).toArray} })
 (hsz:vs.length+ws.length<=sizeLine):wpAny (model prog w) A (binaryOp .Add (.ref t) (.ref b)) Q E s:=by
 obtain⟨⟨cls,dd,data,sl⟩,ho,hc,n,hd⟩:=id ht
 obtain⟨⟨Jz,JA,data2,Il⟩,GP,JB,n2,hd2⟩:=id hb
 simp only at hc hd JB hd2
 subst hc hd JB hd2
 have e:vs.toArray++ws.toArray=(vs++ws).toArray:=by simp
 by_cases hw:ws=[]
 ·exact concat_meets ⟨_,ho,rfl⟩ ⟨_,GP,rfl⟩ noFill_tuple_add seq_tuple_add PySem.F.slot_tuple_add PySem.F.entry_tuple_add (PySem.F.args_tuple_add_2 _ _)
   (tuple_addW1 t b vs.toArray ws.toArray n n2 dd JA sl Il (by simpa using hv) (by simp[hw])) ⟨ho,GP,h1 hw⟩
 ·refine concat_meets ⟨_,ho,rfl⟩ ⟨_,GP,rfl⟩ noFill_tuple_add seq_tuple_add PySem.F.slot_tuple_add PySem.F.entry_tuple_add (PySem.F.args_tuple_add_2 _ _)
   (tuple_addW2 t b vs.toArray ws.toArray n n2 dd JA sl Il (by simpa using hv) (by simpa using hw) (by rw[List.size_toArray,List.size_toArray];exact hsz)) ⟨ho,GP,?_⟩
  rw[e]
  exact h2 hw
def eI (n d:Nat):Option Int->Nat
 |none=>d
 |some v=>if v<0 then (v+(n:Int)).toNat else min v.toNat n
theorem pT(n d:Nat):eI n d none=d:=rfl
theorem mB(n d k:Nat):eI n d (some (k:Int))=min k n:=by
 show (if (k:Int)<0 then ((k:Int)+(n:Int)).toNat else min (k:Int).toNat n)=min k n
 rw[if_neg (by lia),Int.toNat_natCast]
theorem vS(n d:Nat)(hd:d<=n)(o:Option Int):eI n d o<=n:=by
 cases o with
 |none=>exact hd
 |some v=>
  show (if v<0 then (v+(n:Int)).toNat else min v.toNat n)<=n
  by_cases hv:v<0
  ·rw[if_pos hv];lia
  ·rw[if_neg hv];exact Nat.min_le_right _ _
theorem xD(v:Int)(n d:Nat):(if v<0 then max (v+(n:Int)) 0 else min v (n:Int))=((eI n d (some v):Nat):Int):=by
 show (if v<0 then max (v+(n:Int)) 0 else min v (n:Int))=(((if v<0 then (v+(n:Int)).toNat else min v.toNat n):Nat):Int)
 by_cases hv:v<0
 ·simp only[if_pos hv];lia
 ·simp only[if_neg hv];lia
theorem vT(lo hi:Option Int)(n:Nat):Builtin.Slice.sliceAdjust lo hi 1 (n:Int)=(((eI n 0 lo:Nat):Int),((eI n n hi:Nat):Int)):=by
 have h1:¬((1:Int)<0):=by lia
 unfold Builtin.Slice.sliceAdjust
 simp only[h1,if_false]
 refine Prod.ext ?_ ?_
 ·cases lo with
  |none=>rfl
  |some v=>exact xD v n 0
 ·cases hi with
  |none=>rfl
  |some v=>exact xD v n n
theorem vU(i j:Nat):Builtin.Slice.slicePlaces (i:Int) (j:Int) 1=j-i:=by
 unfold Builtin.Slice.slicePlaces
 have h1:(1:Int)>0:=by lia
 simp only[h1,if_true,Int.ediv_one]
 split<;>lia
theorem pU{v:Value}{o:Option Int}{Q:Option Int->Shared->Prop}(p:IsPart v o)(h:Q o s):wpAny (model prog w) A (Builtin.Slice.slicePartIndex v) Q E s:=by
 cases p with
 |none=>exact slicePart_none h
 |int i t=>exact slicePart_int h
theorem jj{sl:Addr}{vl vu:Value}{lo hi:Option Int}{n:Nat}{Q:Int×Int×Nat->Shared->Prop}(hs:s.heap.IsSliceOf sl vl vu .none)(pl:IsPart vl lo)(pu:IsPart vu hi)
 (h:Q (((eI n 0 lo:Nat):Int),1,eI n n hi-eI n 0 lo) s):wpAny (model prog w) A (Builtin.Slice.sliceApplied (.ref sl) (pure (n:Int))) Q E s:=by
 obtain⟨os,GQ,L8,JC⟩:=id hs
 unfold Builtin.Slice.sliceApplied Builtin.Slice.sliceFields
 refine wpAny_bind (wpAny_bind (wpAny_field GQ JC (x:=vl) rfl (wpAny_bind (wpAny_field GQ JC (x:=vu) rfl (wpAny_bind (wpAny_field GQ JC (x:=.none) rfl (wpAny_pure ?_)))))))
 refine wpAny_bind (slicePart_none ?_)
 show wpAny _ _ (if ((1:Int)==0)=true then _ else _) _ _ s
 rw[if_neg (by decide)]
 refine wpAny_bind (pU pl (wpAny_bind (pU pu (wpAny_bind (wpAny_pure ?_)))))
 show wpAny _ _ (match Builtin.Slice.sliceAdjust lo hi 1 (n:Int) with |(lo,hi)=>pure (lo,(1:Int),Builtin.Slice.slicePlaces lo hi 1)) _ _ s
 rw[vT lo hi n]
 show wpAny _ _ (pure (((eI n 0 lo:Nat):Int),(1:Int),Builtin.Slice.slicePlaces ((eI n 0 lo:Nat):Int) ((eI n n hi:Nat):Int) 1)) _ _ s
 rw[vU]
 exact wpAny_pure h
theorem AN(xs:Array Value)(i k:Nat):((List.range k).filterMap fun (m:Nat)=>xs[((i:Int)+(m:Int)*1).toNat]?).toArray=((xs.toList.drop i).take k).toArray:=by
 have e:(fun (m:Nat)=>xs[((i:Int)+(m:Int)*1).toNat]?)=fun m=>xs[i+m]?:=by
  funext m
  have:((i:Int)+(m:Int)*1).toNat=i+m:=by lia
  rw[this]
 rw[e]
 have:=pick_run xs i k
 rw[List.filterMap_map] at this
 have e2:((fun x=>xs[x]?) ∘ fun x=>i+x)=fun m=>xs[i+m]?:=rfl
 rw[e2] at this
 rw[this]
theorem mC{t sl:Addr}{items:Array Value}{vl vu:Value}{lo hi:Option Int}{Q:Value->Shared->Prop}(ht:IsTup s.heap t items)(hs:s.heap.IsSliceOf sl vl vu .none)(pl:IsPart vl lo)(pu:IsPart vu hi)
 (hw:¬(eI items.size 0 lo=0/\eI items.size items.size hi=items.size))
 (h:Q (.ref s.heap.objs.size) {s with heap:=s.heap.push {cls:=.type "tuple",data:=.seq ((items.toList.drop (eI items.size 0 lo)).take (eI items.size items.size hi-eI items.size 0 lo)).toArray} })
 (hsz:items.size<=sizeLine):wpAny (model prog w) A (getItem (.ref t) (.ref sl)) Q E s:=by
 have xE:sizeOk (.seq ((items.toList.drop (eI items.size 0 lo)).take (eI items.size items.size hi-eI items.size 0 lo)).toArray):=by
  show ((items.toList.drop (eI items.size 0 lo)).take (eI items.size items.size hi-eI items.size 0 lo)).toArray.size<=sizeLine
  rw[List.size_toArray,List.length_take,List.length_drop,Array.length_toList]
  lia
 have hj:eI items.size items.size hi<=items.size:=vS _ _ (Nat.le_refl _) hi
 obtain⟨os,GQ,L8,JC⟩:=id hs
 have Nj:s.TypeIs (.ref sl) "slice":=⟨os,GQ,L8⟩
 unfold getItem
 try with_reducible refine wpAny_holding ?_
 first |refine wpAny_bind (wpAny_pure ?_) |skip
 refine wpAny_bind (wpAny_sequenceKey ht.typeIs (by decide) ?_)
 refine wpAny_bind (wpAny_callSpecial?_slot (name:=Str.ofString "__getitem__") ht.typeIs PyProof.Rows.slot_tuple_getitem
  (wpAny_call_entry PyProof.Rows.slot_tuple_getitem ht.typeIs entry_tuple_getitem ?_ (args_tuple_getitem _ _)))
 show wpAny _ _ (Builtin.Tuple.tupleItemsOf (.ref t) >>= _) _ _ s
 refine wpAny_bind (tupleItemsOf_ ht ?_)
 refine wpAny_bind (wpAny_typeOf Nj ?_)
 rw[if_pos (by decide)]
 refine wpAny_bind (jj hs pl pu ?_)
 have Nk:¬((((eI items.size 0 lo:Nat):Int)==0&&(1:Int)==1&&(eI items.size items.size hi-eI items.size 0 lo)==items.size)=true):=by
  intro q
  rw[Bool.and_eq_true,Bool.and_eq_true] at q
  have q1:((eI items.size 0 lo:Nat):Int)=0:=eq_of_beq q.1.1
  have q2:eI items.size items.size hi-eI items.size 0 lo=items.size:=eq_of_beq q.2
  exact hw ⟨by lia,by lia⟩
 show wpAny _ _ (if (((eI items.size 0 lo:Nat):Int)==0&&(1:Int)==1&&(eI items.size items.size hi-eI items.size 0 lo)==items.size)=true then _ else _) _ _ s
 rw[if_neg Nk,AN]
 first
  |exact wpAny_bind (m:=Builtin.Tuple.tupleExact _) (wpAny_newObj_type (wpAny_pure ⟨_,rfl,wpAny_pure h⟩) xE)
  |exact wpAny_bind (m:=Builtin.Tuple.tupleExact _) (wpAny_newObj_type (wpAny_bind (wpAny_pure (wpAny_pure ⟨_,rfl,wpAny_pure h⟩))) xE)
  |exact wpAny_bind (wpAny_bind (m:=Builtin.Tuple.tupleExact _) (wpAny_newObj_type (wpAny_pure (wpAny_pure ⟨_,rfl,wpAny_pure h⟩)) xE))
  |exact wpAny_bind (wpAny_bind (m:=Builtin.Tuple.tupleExact _) (wpAny_newObj_type (wpAny_pure ⟨_,rfl,wpAny_pure h⟩) xE))
end
end HT
namespace L2
open PySem PySem.Spec PyProof.Rows
abbrev TO:=St->Hp->(Option Int->Hp->Prop)->Prop
def PO (X:Cx) (e:Option Expr) (t:TO):Prop:=
 ∀(pins:List (Addr×Obj)) (s:Shared) (σ:St) (H:Hp) (Q:Option Int->Hp->Prop),Inv X pins σ H s->t σ H Q->
  wpAny (model X.prog X.w) X.A (evalPart e X.env) (fun u s'=>∃o H',Inv X pins σ H' s'/\IsPart u o/\Q o H') X.xe s
def sP:TO:=fun _ H Q=>Q none H
def AO (t:TE):TO:=fun σ H Q=>t σ H fun x H1=>∃i,x=.int i/\Q (some i) H1
section
variable{X:Cx}{e:Expr}{te:TE}{lo hi:Option Expr}{tl th:TO}{pos p2:Pos}
theorem fH:PO X none sP:=by
 intro pins s σ H Q I h
 rw[evalPart_none]
 exact wpAny_pure ⟨none,H,I,.none,h⟩
theorem eJ(h:PE X e te):PO X (some e) (AO te):=by
 intro pins s σ H Q I hw
 rw[evalPart_some]
 refine eF (h pins s σ H _ I hw) fun u s1 zqz=>?_
 obtain⟨x,H1,I1,r1,q1⟩:=zqz
 obtain⟨i,rfl,q⟩:=q1
 obtain⟨t,rfl⟩:=r1
 exact⟨some i,H1,I1,.int i t,q⟩
def JD (X:Cx) (r:V->Option Int->Option Int->Hp->VK->Prop):Prop:=
 ∀(pins:List (Addr×Obj)) (s:Shared) (σ:St) (H:Hp) (x:V) (v vl vu:Value) (lo hi:Option Int) (sl:Addr) (Q:VK),Inv X pins σ H s->RelV x v->s.heap.IsSliceOf sl vl vu .none->IsPart vl lo->IsPart vu hi->r x lo hi H Q->
  ∃T id,typeLookup (.type T) "__getitem__"=pure (some (.builtin id))/\s.TypeIs v T/\wpAny (model X.prog X.w) X.A (getItem v (.ref sl)) (EP X pins σ Q) X.xe s
def Nl (r:V->Option Int->Option Int->Hp->VK->Prop) (te:TE) (tl th:TO):TE:=fun σ H Q=>te σ H fun x H1=>tl σ H1 fun l H2=>th σ H2 fun u H3=>r x l u H3 Q
theorem dD{r:V->Option Int->Option Int->Hp->VK->Prop}(hr:JD X r)(he:PE X e te)(hl:PO X lo tl)(hu:PO X hi th):PE X (.Subscript e (.Slice lo hi none p2) pos) (Nl r te tl th):=by
 intro pins s σ H Q I h
 refine Subscript_ (eF (he pins s σ H _ I h) fun v s1 zqz=>?_)
 obtain⟨x,H1,I1,r1,q1⟩:=zqz
 refine wpAny_Slice (eF (hl pins s1 σ H1 _ I1 q1) fun vl s2 zqz=>?_)
 obtain⟨l,H2,I2,pl,q2⟩:=zqz
 refine eF (hu pins s2 σ H2 _ I2 q2) fun vu s3 zqz=>?_
 obtain⟨u,H3,I3,pu,q3⟩:=zqz
 rw[evalPart_none]
 refine wpAny_pure ?_
 have I4:Inv X pins σ H3 {s3 with heap:=s3.heap.push {cls:=.type "slice",data:=.fields #[vl,vu,.none]} }:=I3.kept (t':=s3.toks) fun b ob q=>Heap.get?_push_of_some _ q
 obtain⟨T,id,hT,ht,hg⟩:=hr pins {s3 with heap:=s3.heap.push {cls:=.type "slice",data:=.fields #[vl,vu,.none]} } σ H3 x v vl vu l u s3.heap.objs.size Q I4 r1 (Heap.IsSliceOf.new ..) pl pu q3
 show wpAny (model X.prog X.w) X.A (subscriptTail e (.Slice lo hi none p2) v (.ref s3.heap.objs.size)) (EP X pins σ Q) X.xe {s3 with heap:=s3.heap.push {cls:=.type "slice",data:=.fields #[vl,vu,.none]} }
 exact tail_any (ops:=[.ref s3.heap.objs.size,v]) ht hT hg (by with_unfolding_all rfl)
def gC (xs:List V) (lo hi:Option Int):List V:=(xs.drop (HT.eI xs.length 0 lo)).take (HT.eI xs.length xs.length hi-HT.eI xs.length 0 lo)
theorem oO(xs:List V)(lo hi:Option Int):(gC xs lo hi).length<=xs.length:=by
 unfold gC
 rw[List.length_take,List.length_drop]
 lia
def Nm (K:PySem.W.Frag):V->Option Int->Option Int->Hp->VK->Prop:=fun x lo hi H Q=>∃a xs,x=.ref a/\bR K H a xs/\
 ¬(HT.eI xs.length 0 lo=0/\HT.eI xs.length xs.length hi=xs.length)/\∀p,H p=none->Q (.ref p) (upd H p (.tup (gC xs lo hi)))
theorem GR:JD X (Nm X.K):=by
 intro pins s σ H x v vl vu lo hi sl Q I rx hs pl pu h
 obtain⟨a,xs,rfl,hx,hw,q⟩:=h
 cases rx
 obtain⟨bc,r,ht,hz⟩:=I.tuple hx
 have hlen:bc.toArray.size=xs.length:=by rw[List.size_toArray];exact r.length.symm
 refine⟨"tuple",_,PyProof.Rows.slot_tuple_getitem.lookup,ht.typeIs,?_⟩
 refine HT.mC ht hs pl pu (by rw[hlen];exact hw) ?_ (by rw[hlen];exact hz)
 rw[hlen]
 refine⟨.ref s.heap.objs.size,_,I.laid (t':=s.toks) (o:=.tup (gC xs lo hi)) (fun b ob q=>Heap.get?_push_of_some _ q) (Nat.le_refl _) ?_,rfl,q _ (I.c7.fresh (Nat.le_refl _))⟩
 exact⟨Nat.le_trans (oO xs lo hi) hz,_,(r.drop (HT.eI xs.length 0 lo)).take (HT.eI xs.length xs.length hi-HT.eI xs.length 0 lo),IsTup.new _ _⟩
def JE (K:PySem.W.Frag):R2:=fun x y H Q=>∃a b xs ys,x=.ref a/\y=.ref b/\bR K H a xs/\bR K H b ys/\xs≠[]/\xs.length+ys.length<=sizeLine/\
 (ys=[]->Q (.ref a) H)/\(ys≠[]->∀p,H p=none->Q (.ref p) (upd H p (.tup (xs++ys))))
theorem Vals.aV{xs:List V}{us:List Value}(r:Vals xs us):us=[]↔xs=[]:=by
 cases r with
 |nil=>simp
 |cons _ _=>simp
theorem DJ:nj X (binaryOp .Add) (JE X.K):=by
 intro pins s σ H x y v u Q I rx ry h
 obtain⟨a,b,xs,ys,rfl,rfl,ha,hb,hx,hz,q1,q2⟩:=h
 cases rx
 cases ry
 obtain⟨bc,r1,p1,_⟩:=I.tuple ha
 obtain⟨j9,r2,p2,_⟩:=I.tuple hb
 refine HT.DI p1 p2 (fun z=>hx (r1.aV.mp z)) (fun z=>⟨.ref a,H,I,rfl,q1 (r2.aV.mp z)⟩) (fun z=>?_) (by rw[<- r1.length,<- r2.length];exact hz)
 refine⟨.ref s.heap.objs.size,_,I.laid (t':=s.toks) (o:=.tup (xs++ys)) (fun b ob q=>Heap.get?_push_of_some _ q) (Nat.le_refl _) ?_,rfl,q2 (fun w=>z (r2.aV.mpr w)) _ (I.c7.fresh (Nat.le_refl _))⟩
 exact⟨by rw[List.length_append];exact hz,_,r1.append r2,IsTup.new _ _⟩
end
end L2
namespace L2
open PySem PySem.Spec PyProof.Rows
def GS (n:Nat) (i:Int):Option Nat:=if 0<=i then (if i<n then some i.toNat else none) else if -(n:Int)<=i then some (i+n).toNat else none
def uy {α:Type} (xs:List α) (i:Int):Option α:=(GS xs.length i).bind fun j=>xs[j]?
theorem xF{n:Nat}{i:Int}{j:Nat}(h:GS n i=some j):seqIndex? i n=some j/\j<n/\-(n:Int)<=i/\i<n:=by
 unfold GS at h
 by_cases h0:0<=i
 ·rw[if_pos h0] at h
  by_cases h1:i<n
  ·rw[if_pos h1] at h
   have e:i.toNat=j:=Option.some.inj h
   exact⟨by rw[seqIndex_of h0 h1,e],by lia,by lia,h1⟩
  ·rw[if_neg h1] at h;cases h
 ·rw[if_neg h0] at h
  by_cases h1 : -(n:Int)<=i
  ·rw[if_pos h1] at h
   have e:(i+n).toNat=j:=Option.some.inj h
   exact⟨by rw[seqIndex_neg (by lia) h1,e],by lia,h1,by lia⟩
  ·rw[if_neg h1] at h;cases h
theorem sQ{α:Type}{xs:List α}{i:Int}{v:α}(h:uy xs i=some v):∃j,seqIndex? i xs.length=some j/\xs[j]?=some v/\j<xs.length/\-(xs.length:Int)<=i/\i<xs.length:=by
 unfold uy at h
 cases e:GS xs.length i with
 |none=>rw[e] at h;cases h
 |some j=>
  rw[e] at h
  obtain⟨h1,h2,h3,h4⟩:=xF e
  exact⟨j,h1,h,h2,h3,h4⟩
theorem aw{α:Type}{xs:List α}{j:Nat}{v:α}(h:xs[j]?=some v):uy xs (j:Int)=some v:=by
 have hj:j<xs.length:=(List.getElem?_eq_some_iff.mp h).1
 have e:GS xs.length (j:Int)=some j:=by
  unfold GS
  rw[if_pos (by lia),if_pos (by lia)];simp
 unfold uy;rw[e];exact h
def mD (b:Expr):Prop:=∀o i,subscripted b false o i=operate [o,i] (getItem o i)
def Im (X:Cx) (r:R2):Prop:=
 ∀(value slice:Expr) (pins:List (Addr×Obj)) (s:Shared) (σ:St) (H:Hp) (x y:V) (v u:Value) (Q:VK),Inv X pins σ H s->RelV x v->RelV y u->r x y H Q->
  subscripted slice false v u=operate [v,u] (getItem v u)->wpAny (model X.prog X.w) X.A (subscriptTail value slice v u) (EP X pins σ Q) X.xe s
def RV (X:Cx) (id:String) (r:V->List V->Hp->VK->Prop):Prop:=
 ∀(pins:List (Addr×Obj)) (s:Shared) (σ:St) (H:Hp) (x:V) (xs:List V) (v:Value) (us:List Value) (Q:VK),Inv X pins σ H s->RelV x v->Vals xs us->r x xs H Q->
  wpAny (model X.prog X.w) X.A (call (.builtin id) (v::us)) (EP X pins σ Q) X.xe s
section
variable{X:Cx}{a b:Expr}{ta tb:TE}{pos:Pos}
theorem av{r:R2}(hr:Im X r)(ha:PE X a ta)(hb:PE X b tb)(hs:mD b):PE X (.Subscript a b pos) (Jj r ta tb):=by
 intro pins s σ H Q I h
 exact Subscript_ (GH ha hb I h fun v u s2 x y H2 I2 rx ry q=>hr a b pins s2 σ H2 x y v u Q I2 rx ry q (hs _ _))
def AQ (K:PySem.W.Frag):R2:=fun x y H Q=>∃p xs i v,x=.ref p/\y=.int i/\eD K H p xs/\uy xs i=some v/\Q v H
def uz (K:PySem.W.Frag):R2:=fun x y H Q=>∃p xs i v,x=.ref p/\y=.int i/\bR K H p xs/\uy xs i=some v/\Q v H
def Nn:R2:=fun x y H Q=>∃z i c,x=.str z/\y=.int i/\z.length<=sizeLine/\uy z.cps.toList i=some c/\Q (.str ⟨#[c]⟩) H
theorem bK:Im X (AQ X.K):=by
 intro value slice pins s σ H x y v u Q I rx ry h hs
 obtain⟨p,xs,i,z,rfl,rfl,hq,he,q⟩:=h
 cases rx
 obtain⟨t,rfl⟩:=ry
 obtain⟨bc,r,pl,hz⟩:=I.list hq
 obtain⟨j,h1,h2,h3,h4,h5⟩:=sQ he
 obtain⟨w,ew,AR⟩:=r.get h2
 have hl:=r.length
 have hn:=nG
 have fin:EP X pins σ Q w s:=⟨z,H,I,AR,q⟩
 by_cases h0:0<=i
 ·have hj:i.toNat=j:=by
   rw[seqIndex_of h0 h5] at h1
   exact Option.some.inj h1
  exact item_listR pl.isList h0 (by lia) (by rw[hj];simpa using ew) fin hs
 ·have hj:(i+(bc.toArray.size:Int)).toNat=j:=by
   rw[seqIndex_neg (by lia) h4] at h1
   rw[List.size_toArray,<- hl]
   exact Option.some.inj h1
  exact subscriptTail_builtinR (x:=w) pl.isList.typeIs slot_list_getitem.lookup
   (wpAny_getItem_list_neg (Q:=fun r s'=>r=w/\EP X pins σ Q r s') pl.isList (by lia) (by rw[List.size_toArray]<;>lia) (by lia) (by rw[hj];simpa using ew) ⟨rfl,fin⟩) hs
theorem au:Im X (uz X.K):=by
 intro value slice pins s σ H x y v u Q I rx ry h hs
 obtain⟨p,xs,i,z,rfl,rfl,hq,he,q⟩:=h
 cases rx
 obtain⟨t,rfl⟩:=ry
 obtain⟨bc,r,pl,hz⟩:=I.tuple hq
 obtain⟨j,h1,h2,h3,h4,h5⟩:=sQ he
 obtain⟨w,ew,AR⟩:=r.get h2
 have hl:=r.length
 have hn:=nG
 have fin:EP X pins σ Q w s:=⟨z,H,I,AR,q⟩
 exact subscriptTail_builtinR (x:=w) pl.typeIs slot_tuple_getitem.lookup
  (getItem_tuple (j:=j) (Q:=fun r s'=>r=w/\EP X pins σ Q r s') pl (by lia) (by lia) (by rw[List.size_toArray,<- hl];exact h1) (by simpa using ew) ⟨rfl,fin⟩) hs
theorem AS:Im X Nn:=by
 intro value slice pins s σ H x y v u Q I rx ry h hs
 obtain⟨z,i,c,rfl,rfl,hz,he,q⟩:=h
 obtain⟨t,rfl⟩:=rx
 obtain⟨t',rfl⟩:=ry
 obtain⟨j,h1,h2,h3,h4,h5⟩:=sQ he
 have hl:z.cps.toList.length=z.length:=by simp[Str.length]
 rw[hl] at h1 h4 h5
 have hn:=nG
 exact tail_any (typeIs_str s z t) slot_str_getitem.lookup (getItem_str (c:=c) (by
  have e1:decide (i < -(2 ^ 63:Int))=false:=decide_eq_false (by lia)
  have e2:decide (i ≥ 2 ^ 63)=false:=decide_eq_false (by lia)
  rw[e1,e2,Bool.or_false]) (by rw[h1];simpa using h2) ⟨.str ⟨#[c]⟩,H,I.tok _,⟨_,rfl⟩,q⟩) hs
theorem vV(bc:List Value)(n j:Nat)(u:Value):Obj.mapSeq (·.setIfInBounds j u) {cls:=.type "list",data:=.seq bc.toArray n}={cls:=.type "list",data:=.seq (bc.set j u).toArray n}:=by
 simp[Obj.mapSeq]
theorem Inv.lst{pins:List (Addr×Obj)}{σ:St}{H:Hp}{s:Shared}{p:Addr}{xs:List V}(I:Inv X pins σ H s)(h:H p=some (.lst xs)) :
 ∃(bc:List Value) (n:Nat),Vals xs bc/\s.heap.get? p=some {cls:=.type "list",data:=.seq bc.toArray n}/\xs.length<=sizeLine:=by
 obtain⟨z,bc,n,r,e⟩:=I.c7 p _ h
 exact⟨bc,n,r,e,z⟩
theorem Inv.GU{pins:List (Addr×Obj)}{σ:St}{H:Hp}{s:Shared}{p:Addr}{xs ys:List V}{bc its':List Value}{n n':Nat}{f:Obj->Obj}(I:Inv X pins σ H s)(h:H p=some (.lst xs))
 (ho:s.heap.get? p=some {cls:=.type "list",data:=.seq bc.toArray n}) (hf:f {cls:=.type "list",data:=.seq bc.toArray n}={cls:=.type "list",data:=.seq its'.toArray n' }) (r:Vals ys its') (hz:ys.length<=sizeLine) (t:Nat) :
 Inv X pins σ (upd H p (.lst ys)) {s with heap:=s.heap.update p f,toks:=t}:=by
 have e:(s.heap.update p f).get? p=some {cls:=.type "list",data:=.seq its'.toArray n' }:=by
  rw[Heap.get?_update_self f ho (by rw[hf]<;>rfl),hf]
 refine I.write (x:=p) (e:=p) (by rw[h];trivial) (.inl rfl) (fun b u hb q=>(Heap.get?_update_other _ _ (Ne.symm hb)).trans q) ⟨_,e⟩ ?_
 exact⟨hz,its',n',r,e⟩
def JF:V->V->V->Hp->(Hp->Prop)->Prop:=fun o i v H Q=>∃p xs k j,o=.ref p/\i=.int k/\H p=some (.lst xs)/\GS xs.length k=some j/\Q (upd H p (.lst (xs.set j v)))
theorem set_list:Jg X JF:=by
 intro pins s σ H o i v ov iv u Q I ro ri rv h
 obtain⟨p,xs,k,j,rfl,rfl,hp,hj,q⟩:=h
 cases ro
 obtain⟨t,rfl⟩:=ri
 obtain⟨bc,n,r,ho,hz⟩:=I.lst hp
 obtain⟨h1,h2,h3,h4⟩:=xF hj
 have hl:=r.length
 have hn:=nG
 have I':Inv X pins σ (upd H p (.lst (xs.set j v))) {s with heap:=s.heap.update p (Obj.mapSeq (·.setIfInBounds j u))}:=
  I.GU hp ho (vV bc n j u) (r.set rv j) (by rw[List.length_set];exact hz) s.toks
 by_cases h0:0<=k
 ·have hk:k.toNat=j:=by
   rw[seqIndex_of h0 h4] at h1
   exact Option.some.inj h1
  exact PySem.W.ki_setAt ho h0 (by lia) (by rw[List.size_toArray,<- hl];exact h4) (by rw[hk];exact⟨_,I',q⟩)
 ·have hk:(k+(bc.toArray.size:Int)).toNat=j:=by
   rw[seqIndex_neg (by lia) h3] at h1
   rw[List.size_toArray,<- hl]
   exact Option.some.inj h1
  exact PySem.W.ki_setBack ho (by lia) (by rw[List.size_toArray,<- hl];exact h3) (by lia) (by rw[hk];exact⟨_,I',q⟩)
theorem sR(lo hi:Option Int)(n:Nat):(sliceBounds lo hi none n).1=((HT.eI n 0 lo:Nat):Int)/\(sliceBounds lo hi none n).2.1=((HT.eI n n hi:Nat):Int)/\(sliceBounds lo hi none n).2.2=1:=by
 refine⟨?_,?_,rfl⟩
 ·cases lo with
  |none=>simp[sliceBounds,HT.eI]
  |some i=>
   simp only[sliceBounds,HT.eI,Option.getD_none,show (1:Int)>0 by decide,if_true]
   by_cases h:i<0
   ·simp only[h,if_true]<;>lia
   ·simp only[h,if_false]<;>lia
 ·cases hi with
  |none=>simp[sliceBounds,HT.eI]
  |some i=>
   simp only[sliceBounds,HT.eI,Option.getD_none,show (1:Int)>0 by decide,if_true]
   by_cases h:i<0
   ·simp only[h,if_true]<;>lia
   ·simp only[h,if_false]<;>lia
theorem qT(bc:List Value)(lo hi:Option Int):slicePick bc.toArray lo hi none=((bc.drop (HT.eI bc.length 0 lo)).take (HT.eI bc.length bc.length hi-HT.eI bc.length 0 lo)).toArray:=by
 obtain⟨h1,h2,h3⟩:=sR lo hi bc.toArray.size
 unfold slicePick
 rw[h1,h2,h3]
 simp only[sliceRange_one,pick_run,List.size_toArray]<;>rfl
def Np (K:PySem.W.Frag):V->Option Int->Option Int->Hp->VK->Prop:=fun x lo hi H Q=>∃a xs,x=.ref a/\eD K H a xs/\∀p,H p=none->Q (.ref p) (upd H p (.lst (gC xs lo hi)))
theorem jz:JD X (Np X.K):=by
 intro pins s σ H x v vl vu lo hi sl Q I rx hs pl pu h
 obtain⟨a,xs,rfl,hx,q⟩:=h
 cases rx
 obtain⟨bc,r,ht,hz⟩:=I.list hx
 have hlen:=r.length
 refine⟨"list",_,slot_list_getitem.lookup,ht.isList.typeIs,?_⟩
 refine wpAny_getItem_list_slice ht.isList hs pl pu .none (by simp) ?_ (by rw[List.size_toArray]<;>lia)
 rw[qT,<- hlen]
 refine⟨.ref s.heap.objs.size,_,I.laid (t':=s.toks) (o:=.lst (gC xs lo hi)) (fun b ob q=>Heap.get?_push_of_some _ q) (Nat.le_refl _) ?_,rfl,q _ (I.c7.fresh (Nat.le_refl _))⟩
 exact⟨Nat.le_trans (oO xs lo hi) hz,_,0,(r.drop (HT.eI xs.length 0 lo)).take (HT.eI xs.length xs.length hi-HT.eI xs.length 0 lo),Heap.get?_push_size _ rfl⟩
def oP:V->Bool
 |.c6=>true
 |.bl _=>true
 |.int _=>true
 |.str _=>true
 |_=>false
def DK:V->V->Bool
 |.c6,.c6=>true
 |.bl a,.bl b=>a==b
 |.bl a,.int b=>(if a then 1 else 0)==b
 |.int a,.bl b=>a==(if b then 1 else 0)
 |.int a,.int b=>a==b
 |.str a,.str b=>a==b
 |_,_=>false
theorem GV{A:Around}{s:Shared}{y x:V}{u v:Value}(ry:RelV y u)(rx:RelV x v)(fy:oP y=true)(fx:oP x=true):SeqAt.EqAt A s u v (DK y x):=by
 cases y with
 |c6=>
  cases ry
  cases x with
  |c6=>cases rx;exact SeqAt.EqAt.same _
  |bl b=>cases rx;exact SeqAt.EqAt.none_bool b
  |int b=>obtain⟨t,rfl⟩:=rx;exact SeqAt.EqAt.none_int b t
  |str b=>obtain⟨t,rfl⟩:=rx;exact SeqAt.EqAt.none_str b t
  |_=>exact absurd (show false=true from fx) Bool.false_ne_true
 |bl a=>
  cases ry
  cases x with
  |c6=>cases rx;exact SeqAt.EqAt.bool_none a
  |bl b=>cases rx;exact SeqAt.EqAt.bool_bool a b
  |int b=>obtain⟨t,rfl⟩:=rx;exact SeqAt.EqAt.bool_int a b t
  |str b=>obtain⟨t,rfl⟩:=rx;exact SeqAt.EqAt.bool_str a b t
  |_=>exact absurd (show false=true from fx) Bool.false_ne_true
 |int a=>
  obtain⟨t',rfl⟩:=ry
  cases x with
  |c6=>cases rx;exact SeqAt.EqAt.int_none a t'
  |bl b=>cases rx;exact SeqAt.EqAt.int_bool a t' b
  |int b=>obtain⟨t,rfl⟩:=rx;exact SeqAt.EqAt.int_int a t' b t
  |str b=>obtain⟨t,rfl⟩:=rx;exact SeqAt.EqAt.int_str a t' b t
  |_=>exact absurd (show false=true from fx) Bool.false_ne_true
 |str a=>
  obtain⟨t',rfl⟩:=ry
  cases x with
  |c6=>cases rx;exact SeqAt.EqAt.str_none a t'
  |bl b=>cases rx;exact SeqAt.EqAt.str_bool a t' b
  |int b=>obtain⟨t,rfl⟩:=rx;exact SeqAt.EqAt.str_int a t' b t
  |str b=>obtain⟨t,rfl⟩:=rx;exact SeqAt.EqAt.str_str a t' b t
  |_=>exact absurd (show false=true from fx) Bool.false_ne_true
 |_=>exact absurd (show false=true from fy) Bool.false_ne_true
def DL (x:V) (u:Value):Bool:=match u with
 |.none=>DK .c6 x
 |.bool b=>DK (.bl b) x
 |.int i _=>DK (.int i) x
 |.str z _=>DK (.str z) x
 |_=>false
theorem AU{x y:V}{u:Value}(r:RelV y u)(f:oP y=true):DL x u=DK y x:=by
 cases y with
 |c6=>cases r;rfl
 |bl b=>cases r;rfl
 |int i=>obtain⟨t,rfl⟩:=r;rfl
 |str z=>obtain⟨t,rfl⟩:=r;rfl
 |_=>exact absurd (show false=true from f) Bool.false_ne_true
theorem sS{x:V}:∀ {xs:List V} {us:List Value},Vals xs us->xs.all oP=true->us.any (DL x)=xs.any fun y=>DK y x
 |_,_,.nil,_=>rfl
 |y::xs,u::us,.cons r t,f=>by
  rw[List.all_cons,Bool.and_eq_true] at f
  rw[List.any_cons,List.any_cons,AU r f.1,sS t f.2]
theorem pV{A:Around}{s:Shared}{x:V}{v:Value}(rx:RelV x v)(fx:oP x=true):∀ {xs:List V} {us:List Value},Vals xs us->xs.all oP=true->∀u∈us,SeqAt.EqAt A s u v (DL x u)
 |_,_,.nil,_=>fun u hu=>by cases hu
 |y::xs,u::us,.cons r t,f=>fun u' hu=>by
  rw[List.all_cons,Bool.and_eq_true] at f
  rcases List.mem_cons.mp hu with rfl |hu
  ·rw[AU r f.1];exact GV r rx f.1 fx
  ·exact pV rx fx t f.2 u' hu
def L9 (x:V) (xs:List V):Bool:=xs.any fun y=>DK y x
def PU (K:PySem.W.Frag) (neg:Bool):R2:=fun x y H Q=>∃p xs,y=.ref p/\(eD K H p xs\/bR K H p xs)/\oP x=true/\xs.all oP=true/\Q (.bl (if neg then !L9 x xs else L9 x xs)) H
theorem rQ:nj X (compareOp .In) (PU X.K false):=by
 intro pins s σ H x y v u Q I rx ry h
 obtain⟨p,xs,rfl,hq,fx,fs,q⟩:=h
 cases ry
 rcases hq with hq |hq
 ·obtain⟨bc,r,pl,hz⟩:=I.list hq
  refine SeqAt.in_listAt (DL x) pl.isList (fun w hw=>pV rx fx r fs w (by simpa using hw)) ⟨.bl _,H,I,rfl,?_⟩
  rw[show bc.toArray.any (DL x)=bc.any (DL x) by simp,sS r fs]
  exact q
 ·obtain⟨bc,r,pl,hz⟩:=I.tuple hq
  refine SeqAt.in_tupleAt (DL x) pl (fun w hw=>pV rx fx r fs w (by simpa using hw)) ⟨.bl _,H,I,rfl,?_⟩
  rw[show bc.toArray.any (DL x)=bc.any (DL x) by simp,sS r fs]
  exact q
theorem jA:gW X (.builtin "len") (fun xs H Q=>∃p ys,xs=[.ref p]/\(eD X.K H p ys\/bR X.K H p ys)/\Q (.int ys.length) H):=by
 intro pins s σ H xs us Q I r h
 obtain⟨p,ys,rfl,hq,q⟩:=h
 obtain⟨u,rfl,rx⟩:=vals1 r
 cases rx
 have hn:=nG
 rcases hq with hq |hq
 ·obtain⟨bc,r',pl,hz⟩:=I.list hq
  have hlen:=r'.length
  exact Calls.call_len_list pl.isList (by simp only[List.size_toArray]<;>lia) ⟨.int ys.length,H,I.tok _,⟨s.toks+1,by rw[List.size_toArray,hlen]⟩,q⟩
 ·obtain⟨bc,r',pl,hz⟩:=I.tuple hq
  have hlen:=r'.length
  exact len_tuple pl (by simp only[List.size_toArray]<;>lia) ⟨.int ys.length,H,I.tok _,⟨s.toks+1,by rw[List.size_toArray,hlen]⟩,q⟩
theorem jB:gW X (.type "list") (fun xs H Q=>∃p ys,xs=[.ref p]/\(eD X.K H p ys\/bR X.K H p ys)/\∀l,H l=none->Q (.ref l) (upd H l (.lst ys))):=by
 intro pins s σ H xs us Q I r h
 obtain⟨p,ys,rfl,hq,q⟩:=h
 obtain⟨u,rfl,rx⟩:=vals1 r
 cases rx
 have fin:∀(bc:List Value),Vals ys bc->ys.length<=sizeLine->∀(h':Heap) (c':Nat),(∀b o',s.heap.get? b=some o'->h'.get? b=some o')->
  h'.get? s.heap.objs.size=some {cls:=.type "list",dict:=none,data:=.seq bc.toArray c',slots:=#[]}->EP X pins σ Q (.ref s.heap.objs.size) {s with heap:=h' }:=fun bc r' hz h' c' kp e=>
  ⟨.ref s.heap.objs.size,_,I.laid (t':=s.toks) kp (Nat.le_refl _) (show cS X.prog X.w _ h' _ (.lst ys) from ⟨hz,bc,c',r',e⟩),rfl,q _ (I.c7.fresh (Nat.le_refl _))⟩
 rcases hq with hq |hq
 ·obtain⟨bc,r',pl,hz⟩:=I.list hq
  have hlen:=r'.length
  obtain⟨o,ho,hc,n,hd⟩:=pl.isList
  exact call_list_seq p (.inl rfl) ho hc hd (fun h' c' kp e=>fin bc r' hz h' c' kp e) (by simp only[List.size_toArray]<;>lia)
 ·obtain⟨bc,r',pl,hz⟩:=I.tuple hq
  have hlen:=r'.length
  obtain⟨o,ho,hc,n,hd⟩:=pl
  exact call_list_seq p (.inr rfl) ho hc hd (fun h' c' kp e=>fin bc r' hz h' c' kp e) (by simp only[List.size_toArray]<;>lia)
theorem gn:gW X (.type "tuple") (fun xs H Q=>∃p ys,xs=[.ref p]/\((eD X.K H p ys/\∀l,H l=none->Q (.ref l) (upd H l (.tup ys)))\/(bR X.K H p ys/\Q (.ref p) H))):=by
 intro pins s σ H xs us Q I r h
 obtain⟨p,ys,rfl,h⟩:=h
 obtain⟨u,rfl,rx⟩:=vals1 r
 cases rx
 rcases h with ⟨hq,q⟩ |⟨hq,q⟩
 ·obtain⟨bc,r',pl,hz⟩:=I.list hq
  have hlen:=r'.length
  refine call_tuple_list pl.isList (fun h' kp=>?_) (by simp only[List.size_toArray]<;>lia)
  have I1:Inv X pins σ H {s with heap:=h' }:=I.kept (t':=s.toks) kp
  have I2:Inv X pins σ (upd H h'.objs.size (.tup ys)) {s with heap:=h'.push {cls:=.type "tuple",data:=.seq bc.toArray} }:=
   I1.laid (t':=s.toks) (fun b o e=>Heap.get?_push_of_some _ e) (Nat.le_refl _) (show cS X.prog X.w _ _ _ (.tup ys) from ⟨hz,bc,r',IsTup.new _ _⟩)
  exact⟨.ref h'.objs.size,_,I2,rfl,q _ (I1.c7.fresh (Nat.le_refl _))⟩
 ·obtain⟨bc,r',pl,hz⟩:=I.tuple hq
  exact call_tuple_same pl ⟨.ref p,H,I,rfl,q⟩
def Nq (K:PySem.W.Frag) (T:String) (x:V) (H:Hp):Prop:=match x with
 |.str _=>T = "str"
 |.int _=>T = "int"
 |.ref p=>(T = "list"/\∃xs,eD K H p xs)\/(T = "tuple"/\∃o,K.lookup p=some o/\o.cls=.type "tuple"/\o.dict=none)\/
  (T = "dict"/\((∃aJ,H p=some (.dK aJ))\/∃aJ,H p=some (.dT aJ)))\/(T = "set"/\∃S n,H p=some (.set S n))
 |_=>False
theorem GW{pins:List (Addr×Obj)}{σ:St}{H:Hp}{s:Shared}{T:String}{x:V}{v:Value}(I:Inv X pins σ H s)(r:RelV x v)(ty:Nq X.K T x H) :
 s.TypeIs v T/\∀a,v=.ref a->∃ob,s.heap.get? a=some ob/\ob.dict=none:=by
 cases x with
 |str z=>
  obtain⟨t,rfl⟩:=r
  cases (show T = "str" from ty)
  exact⟨typeIs_str s z t,fun _ e=>nomatch e⟩
 |int i=>
  obtain⟨t,rfl⟩:=r
  cases (show T = "int" from ty)
  exact⟨typeIs_int s i t,fun _ e=>nomatch e⟩
 |ref p=>
  cases r
  rcases ty with ⟨rfl,xs,hq⟩ |⟨rfl,o,hk,hc,hd⟩ |⟨rfl,hk⟩ |⟨rfl,S,n,hk⟩
  ·obtain⟨bc,_,pl,_⟩:=I.list hq
   refine⟨pl.isList.typeIs,fun a e=>?_⟩
   cases e
   obtain⟨o,n,e,c,hd,_⟩:=pl
   exact⟨o,e,hd⟩
  ·refine⟨⟨o,I.pz p o hk,hc⟩,fun a e=>?_⟩
   cases e
   exact⟨o,I.pz _ o hk,hd⟩
  ·have z:∃o,s.heap.get? p=some o/\o.ExactDict:=by
    rcases hk with ⟨aJ,hk⟩ |⟨aJ,hk⟩
    ·obtain⟨_,_,_,_,o,_,_,e,ex,_⟩:=I.c7 p _ hk
     exact⟨o,e,ex⟩
    ·obtain⟨_,_,_,_,o,_,_,e,ex,_⟩:=I.c7 p _ hk
     exact⟨o,e,ex⟩
   obtain⟨o,e,ex⟩:=z
   refine⟨⟨o,e,ex.1⟩,fun a e2=>?_⟩
   cases e2
   exact⟨o,e,ex.2.1⟩
  ·obtain⟨o,_,_,_,e,ex,_⟩:=I.c7 p _ hk
   refine⟨⟨o,e,ex.1⟩,fun a e2=>?_⟩
   cases e2
   exact⟨o,e,ex.2.1⟩
 |_=>exact False.elim ty
def JG (K:PySem.W.Frag) (T:String) (r:V->List V->Hp->VK->Prop) (to:TE):TE:=fun σ H Q=>to σ H fun x H1=>Nq K T x H1/\r x [] H1 Q
def Nr (K:PySem.W.Frag) (T:String) (r:V->List V->Hp->VK->Prop) (to:TE) (t:TA):TE:=fun σ H Q=>to σ H fun x H1=>Nq K T x H1/\t σ H1 fun xs H2=>r x xs H2 Q
variable{o e:Expr}{es:List Expr}{to:TE}{t:TA}{name:Str}{apos sU:Pos}{T id:String}{r:V->List V->Hp->VK->Prop}
theorem jR(pa:PlainAttrs T)(slot:Slot T name id)(RW:typeOf (.builtin id)=pure (.type "method_descriptor"))(hm:RV X id r)(ho:PE X o to)(ha:PA X (e::es) t)
 (JH:attributeBase o name X.env (eval o X.env)=eval o X.env:=by rfl)
 (Nt:((backTo sU (starEach (e::es) X.env)).all (fun x=>!x.1)&&(backToKw sU (keywordEach [] X.env)).all (fun x=>x.1.isSome)
  && decide ((e::es).length+([]:List Keyword).length+(if ([]:List Keyword).isEmpty then 0 else 1)<30))=true:=by rfl)
 (JI:(apos.endLine==sU.line)=true:=by rfl) (hs:starEach (e::es) X.env=(false,eval e X.env)::starEach es X.env:=by rfl) (GX:(backTo sU (starEach es X.env)).any (·.1)=false:=by rfl) :
 PE X (.Call (.Attribute o name apos) (e::es) [] sU) (Nr X.K T r to t):=by
 intro pins s σ H Q I h
 refine wpAny_Call_method_late JH Nt JI rfl (eF (ho pins s σ H _ I h) fun v s1 zqz=>?_)
 obtain⟨x,H1,I1,r1,ty,q1⟩:=zqz
 obtain⟨h1,h2⟩:=GW I1 r1 ty
 refine⟨T,id,pa,slot,RW,h1,h2,?_⟩
 have hA:=ha sU pins s1 σ H1 _ I1 q1
 rw[hs] at hA ⊢
 refine Calls.callWith_builtin (by show (false ||(backTo sU (starEach es X.env)).any (·.1))=false;rw[GX]<;>rfl) (Calls.evalArgs_plain ?_)
 exact eF hA fun us s2 ⟨vs,H2,I2,r2,q2⟩=>hm pins s2 σ H2 x vs v us Q I2 r1 r2 q2
end
end L2
namespace L2
open PySem PySem.Spec PyProof.Rows
def Nu (X:Cx) (id:String) (r:V->List V->Hp->VK->Prop):Prop:=
 ∀(pins:List (Addr×Obj)) (s:Shared) (σ:St) (H:Hp) (x:V) (xs:List V) (v:Value) (us:List Value) (Q:VK),Inv X pins σ H s->RelV x v->Vals xs us->r x xs H Q->
  wpAny (model X.prog X.w) X.A (call (.builtin id) (v::us)) (EP X pins σ Q) X.xe s
theorem Vals.one:∀ {x:V} {us:List Value},Vals [x] us->∃u,us=[u]/\RelV x u
 |_,_,.cons r .nil=>⟨_,rfl,r⟩
theorem Vals.dropLast{xs:List V}{us:List Value}(h:Vals xs us):Vals xs.dropLast us.dropLast:=by
 induction h with
 |nil=>exact .nil
 |cons r t ih=>
  cases t with
  |nil=>exact .nil
  |cons q t'=>exact .cons r ih
theorem Vals.reverse{xs:List V}{us:List Value}(h:Vals xs us):Vals xs.reverse us.reverse:=by
 induction h with
 |nil=>exact .nil
 |cons r t ih=>rw[List.reverse_cons,List.reverse_cons];exact Vals.append ih (.cons r .nil)
section
variable{X:Cx}{pins:List (Addr×Obj)}{σ:St}{H:Hp}{s:Shared}{l b:Addr}{xs ys zs:List V}
theorem Inv.JJ{bc its':List Value}{n:Nat}{f:Array Value->Array Value}{t':Nat}(I:Inv X pins σ H s)(hH:H l=some (.lst xs))
 (e:s.heap.get? l=some {cls:=.type "list",data:=.seq bc.toArray n}) (hf:f bc.toArray=its'.toArray) (hv:Vals ys its') (hz:ys.length<=sizeLine) :
 Inv X pins σ (upd H l (.lst ys)) {s with heap:=s.heap.update l (Obj.mapSeq f),toks:=t' }:=by
 have q:=PySem.IsL.update e f
 rw[hf] at q
 refine I.write (x:=l) (e:=l) (by rw[hH];exact trivial) (.inl rfl) (fun b' u hb hu=>(Heap.get?_update_other s.heap (Obj.mapSeq f) (Ne.symm hb)).trans hu) ⟨_,q⟩ ?_
 exact⟨hz,its',_,hv,q⟩
theorem Inv.JK{bc:List Value}{t':Nat}(I:Inv X pins σ H s)(hv:Vals ys bc)(hz:ys.length<=sizeLine) :
 Inv X pins σ (upd H s.heap.objs.size (.lst ys)) {s with heap:=s.heap.push {cls:=.type "list",data:=.seq bc.toArray},toks:=t' }:=
 I.laid (fun _ _ q=>Heap.get?_push_of_some _ q) (Nat.le_refl _) ⟨hz,bc,0,hv,Heap.get?_push_size _ rfl⟩
theorem Inv.fresh(I:Inv X pins σ H s):H s.heap.objs.size=none:=I.c7.fresh (Nat.le_refl _)
theorem Inv.zb(I:Inv X pins σ H s)(hH:H l=some (.lst xs)):xs.length<=sizeLine/\∃(bc:List Value) (n:Nat),Vals xs bc/\xs.length=bc.length/\s.heap.get? l=some {cls:=.type "list",data:=.seq bc.toArray n}:=by
 obtain⟨z,bc,n,r,e⟩:=I.c7 l _ hH
 exact⟨z,bc,n,r,r.length,e⟩
theorem AV{n:Nat}(h:n<=sizeLine):Builtin.List.listTooLong n=false:=by
 unfold Builtin.List.listTooLong
 exact decide_eq_false (by lia)
end
section
variable{X:Cx}
def DM:V->List V->Hp->VK->Prop:=fun x vs H Q=>∃l xs y,x=.ref l/\vs=[y]/\H l=some (.lst xs)/\xs.length<sizeLine/\Q .c6 (upd H l (.lst (xs++[y])))
theorem fB:Nu X "list.append" DM:=by
 intro pins s σ H x vs v us Q I rx rv h
 obtain⟨l,xs,y,rfl,rfl,hH,hz,q⟩:=h
 cases rx
 obtain⟨u,rfl,ru⟩:=rv.one
 obtain⟨z,bc,n,r,hl,e⟩:=I.zb hH
 refine call_meets F.slot_list_append ⟨_,e,rfl⟩ F.entry_list_append (F.args_list_append_2 _ _) (PySem.list_append l bc.toArray n u (by rw[List.size_toArray];lia)) ⟨e,?_⟩
 refine⟨.c6,_,I.JJ (its':=bc++[u]) hH e (by simp) (r.append (.cons ru .nil)) ?_,rfl,q⟩
 rw[List.length_append,List.length_singleton]
 lia
def DN:V->List V->Hp->VK->Prop:=fun x vs H Q=>∃l b xs zs,x=.ref l/\vs=[.ref b]/\H l=some (.lst xs)/\H b=some (.lst zs)/\xs.length+zs.length<=sizeLine/\Q .c6 (upd H l (.lst (xs++zs)))
theorem rR:Nu X "list.extend" DN:=by
 intro pins s σ H x vs v us Q I rx rv h
 obtain⟨l,b,xs,zs,rfl,rfl,hH,hB,hz,q⟩:=h
 cases rx
 obtain⟨u,rfl,ru⟩:=rv.one
 cases ru
 obtain⟨z,bc,n,r,hl,e⟩:=I.zb hH
 obtain⟨z2,j9,n2,r2,GY,e2⟩:=I.zb hB
 have hsz:bc.toArray.size+j9.toArray.size<=sizeLine:=by rw[List.size_toArray,List.size_toArray];lia
 have JL:¬(!bc.toArray.isEmpty&&Builtin.List.listTooLong (bc.toArray.size+j9.toArray.size))=true:=by
  rw[AV hsz,Bool.and_false]
  exact Bool.false_ne_true
 refine call_meets F.slot_list_extend ⟨_,e,rfl⟩ F.entry_list_extend (F.args_list_extend_2 _ _)
  (AutoSeq1.list_extend_list_list_0 l bc.toArray n b j9.toArray n2 JL (by rw[List.size_toArray];lia) (by lia)) ⟨e,e2,?_⟩
 refine⟨.c6,_,I.JJ (its':=bc++j9) hH e (by simp) (r.append r2) ?_,rfl,q⟩
 rw[List.length_append]
 lia
def Nv:R2:=fun x y H Q=>∃l b xs zs,x=.ref l/\y=.ref b/\H l=some (.lst xs)/\H b=some (.lst zs)/\xs.length+zs.length<=sizeLine/\∀p,H p=none->Q (.ref p) (upd H p (.lst (xs++zs)))
theorem vW:nj X (binaryOp .Add) Nv:=by
 intro pins s σ H x y v u Q I rx ry h
 obtain⟨l,b,xs,zs,rfl,rfl,hH,hB,hz,q⟩:=h
 cases rx
 cases ry
 obtain⟨z,bc,n,r,hl,e⟩:=I.zb hH
 obtain⟨z2,j9,n2,r2,GY,e2⟩:=I.zb hB
 refine PySem.P.add_list e e2 ?_ (by rw[List.size_toArray,List.size_toArray];lia)
 have ea:bc.toArray++j9.toArray=(bc++j9).toArray:=by simp
 rw[ea]
 exact⟨.ref _,_,I.JK (t':=s.toks) (r.append r2) (by rw[List.length_append];lia),rfl,q _ I.fresh⟩
end
section
variable{prog:Program}{w:World}{A:Around}{E:Value->Shared->Prop}{s:Shared}
end
section
variable{X:Cx}
end
end L2
namespace Ma
open PySem PySem.W PySem.Calls PyProof.Rows
theorem o6{P:Params}{h:Heap}:∀(ns:List Int) (vs:List Value),WellAll P h vs (ns.map WData.int)->IntsAre vs ns:=by
 intro ns
 induction ns with
 |nil=>
  intro vs w
  rw[List.map_nil] at w
  cases w
  exact .nil
 |cons n ns ih=>
  intro vs w
  rw[List.map_cons] at w
  cases w with
  |cons a b=>
   cases a
   exact .cons _ _ (ih _ b)
theorem zc{l:OpenLaw}{n:Nat}(hn:l.most=some n){P:Params}{h:Heap}{args:List WData}{vals:List Value}
 (DO:l.row.toRowW.claim.pre args=true) (Nw:WellAll P h vals args) :
 ∃a vs ns,vals=[Value.ref a]/\args=[WData.list (ns.map WData.int)]/\h.get? a=some {cls:=.type "list",data:=.seq vs.toArray}/\IntsAre vs ns/\ns.length<=n:=by
 have RX:WShape.hasAll [] args [.list .int]=true:=(pre_splitW DO).1
 have hc:l.pre.holds [] {args:=args}=true:=(pre_splitW DO).2
 obtain⟨d,r,rfl,h1,h2⟩:=hasAllW_cons RX
 obtain rfl:=hasAllW_nil h2
 obtain⟨xs,rfl,h3⟩:=hasW_list h1
 obtain⟨ns,rfl⟩:=items_int h3
 have hlen:ns.length<=n:=by
  unfold OpenLaw.pre at hc
  have h4:(WTm.not (.lt (.lit (.int (n:Int))) (.len (.arg 0)))).holds [] {args:=[.list (ns.map .int)]}=true:=by
   have h4:=(holds_andW hc).1
   rw[hn] at h4
   exact h4
  have h5:=condW_of h4 (w_not (w_lt w_lit (w_len_list (w_arg rfl))))
  rw[List.length_map] at h5
  refine Nat.le_of_not_lt fun q=>?_
  have q':(n:Int)<((ns.length:Nat):Int):=by lia
  first
   |(rw[decide_eq_true q'] at h5;exact absurd h5 (by decide))
   |(simp at h5;lia)
 cases Nw with
 |cons w1 w2=>
  cases w2
  cases w1 with
  |list ho Nx=>exact⟨_,_,ns,rfl,rfl,ho,o6 ns _ Nx,hlen⟩
theorem zd(l:OpenLaw)(args:List WData):l.row.toRowW.claim.post args (.bool true) args=true:=
 postW_of (r:=l.row.toRowW) (X:=(true==true))
  (show WShape.has [] (.bool true) .bool=true by first |rfl |decide |simp[WShape.has,WShape.arms,WShape.armsAll])
  (show (WTm.eq .res (.lit (.bool true))).value [] {args:=args,res:=some (.bool true),after:=args}=some (.bool (true==true)) from w_eq_bool (w_res rfl) w_lit) rfl
theorem uB{l:OpenLaw}{n:Nat}{q:Program}{loose:List Str}{XP:(Str->Option Value)->Heap->Prop}{YP:World->Heap->Prop}{d:DefRec}
 (hn:l.most=some n) (JM:d.params.defaults=[])
 (call:∀(w:World) (s₀ s₁:Shared) (mg mb:Str->Option Value) (fa:Addr) (o:Obj) (pm cd doc:Value) (a:Addr) (vs:List Value) (ns:List Int),
  Ground q loose [] XP w s₀ mg mb s₁.heap->YP w s₁.heap->
  s₁.heap.get? fa=some o->o.data=.func (docDef d.name d.params d.body d.scope pm cd doc)->s₁.heap.CodeRec cd d.name->mg d.name=some (.ref fa)->
  s₁.heap.get? a=some {cls:=.type "list",data:=.seq vs.toArray}->IntsAre vs ns->ns.length<=n->s₁.gens = #[]->
  codeAny (model l.prog w) callerA (.call (.ref fa) ⟨[.ref a],[]⟩) (fun r s'=>r=.ok (.ret (.bool true))/\OldK s₁.heap s'.heap/\s'.os=s₁.os/\AllBare s'.gens) s₁) :
 WalkO q loose XP YP l.row.toRowW d [] (fun f vs=>PySem.call f vs):=by
 intro w s₀ s₁ mg mb G Y fa o pm cd doc dV kV ho hd Ax hD JN hg args vals as DO RY UP Nw UQ
 obtain rfl:dV=.none:=Dflts.none hD JM
 obtain rfl:kV=.none:=Dflts.noKw hD
 obtain⟨a,vs,ns,rfl,rfl,GZ,hints,hlen⟩:=zc hn DO Nw
 refine enter_call (codeAny_mono (call w s₀ s₁ mg mb fa o pm cd doc a vs ns G Y ho (fd_plain hd) Ax JN GZ hints hlen hg) fun r s' hq=>?_)
 obtain⟨rfl,h2,h3,h4⟩:=hq
 exact⟨.inl ⟨.bool true,.bool true,[],rfl,fun _=>rfl,.bool true,zd l _,fun _=>⟨List.Pairwise.nil,fun _ hm=>(nomatch hm)⟩⟩,h2,h3,h4⟩
section
variable{prog:Program}{w:World}{A:Around}{E:Value->Shared->Prop}{s:Shared}{K:Frag}
def ledger (h:Heap) (L d:Addr):List (Addr×Obj):=(List.range h.objs.size).filterMap fun a=>if a=L\/a=d then none else (h.get? a).map fun o=>(a,o)
end
end Ma
namespace L2
open PySem PySem.Spec PyProof.Rows
theorem rS:∀ {vs:List Value} {ns:List Int},IntsAre vs ns->Vals (ns.map V.int) vs
 |_,_,.nil=>.nil
 |_,_,.cons n t h=>.cons ⟨t,rfl⟩ (rS h)
def G0 (H:Hp):Prop:=∀b,H b=none\/∃o xs,H b=some (.vJ o (.lst xs))
theorem AW{P:Program}{w:World}{K:PySem.W.Frag}{mg mb:Str->Option Value}{CX:t9}{k:Nat}{fa a:Addr}{fd:FuncData}{x:Str}{sp:Sp}{s₁:Shared}{vs:List Value}{ns:List Int}
 (KX:K.In s₁.heap) (Mb:s₁.heap.Ns mainGlobals mg) (hb:s₁.heap.Ns builtinsNs mb) (Ny:∀x:Str,x≠"__name__"->mb x=bootBuiltins x) (Nz:s₁.heap.NoLimit) (hg:s₁.gens = #[])
 (ha:s₁.heap.get? a=some {cls:=.type "list",data:=.seq vs.toArray}) (hi:IntsAre vs ns) (hl:ns.length<=sizeLine) (hr:fW k callerA)
 (F:∀base:Heap,K.In base->base.Ns mainGlobals mg->bJ P w K mg base CX k fa fd [x] sp) (JO:∀(s:Shared) (u:Value),BindsTo s fd ⟨[u],[]⟩ [(x,u)])
 (Fz:∀H:Hp,G0 H->eD K H a (ns.map V.int)->sp [.ref a] H (fun v _=>v=.bl true) fun _ _ _=>False)
 (NA:∀H e s',CX [] H s₁ (fun _ _ _=>False) e s'->False) :
 codeAny (model P w) callerA (.call (.ref fa) ⟨[.ref a],[]⟩) (fun r s'=>r=.ok (.ret (.bool true))/\OldK s₁.heap s'.heap/\s'.os=s₁.os/\AllBare s'.gens) s₁:=by
 have rv:=rS hi
 have NB:=hi.length
 have core:∀H:Hp,G0 H->eD K H a (ns.map V.int)->mq P w H s₁.heap->(∀b,H b≠none->b=a)->(H a≠none->K.lookup a=none)->
  codeAny (model P w) callerA (.call (.ref fa) ⟨[.ref a],[]⟩) (fun r s'=>r=.ok (.ret (.bool true))/\OldK s₁.heap s'.heap/\s'.os=s₁.os/\AllBare s'.gens) s₁:=by
  intro H hO hS c7 hA hK
  have xG:∀ {b:Addr} {o:Obj},s₁.heap.get? b=some o->H b=none->(sI s₁.heap H).get? b=some o:=fun e n=>Au e n
  have Jw:∀ {b:Addr} {o:Obj} {es:Array DictEntry} {ep:Nat},s₁.heap.get? b=some o->o.data=.dict es ep->H b=none:=fun {b o es ep} e d=>by
   cases q:H b with
   |none=>rfl
   |some u=>
    have e':b=a:=hA b (by rw[q];simp)
    subst e'
    rw[ha] at e;cases e
    have d':Data.seq vs.toArray _=Data.dict es ep:=d
    cases d'
  have Mc:∀ {b:Addr} {m:Str->Option Value},s₁.heap.Ns b m->(sI s₁.heap H).Ns b m:=fun {b m} ⟨o,es,ep,e,d,r⟩=>⟨o,es,ep,xG e (Jw e d),d,r⟩
  have PV:K.In (sI s₁.heap H):=fun b o e=>xG (KX b o e) (by
   cases q:H b with
   |none=>rfl
   |some u=>
    have e':b=a:=hA b (by rw[q];simp)
    subst e'
    rw[hK (by rw[q];simp)] at e;cases e)
  have hM:Mod K mg (sI s₁.heap H):=⟨PV,Mc Mb,⟨mb,Mc hb,Ny⟩,let ⟨mc,h1,h2⟩:=Nz;⟨mc,Mc h1,h2⟩⟩
  have e0:qP P w K mg (sI s₁.heap H) callerA [] s₁ H:=⟨rfl,hM,fun b o e=>Du e,Nat.le_of_eq (yO _ _),trivial,fun b hb=>absurd (show b∈([]:List Addr) from hb) (by simp),c7,.of_eq hg⟩
  refine codeAny_mono ((F _ PV (Mc Mb)).run callerA [] s₁ H ⟨[.ref a],[]⟩ [.ref a] [.ref a] _ _ hr e0 (JO s₁ (.ref a)) (.cons rfl .nil) (Fz H hO hS)) fun r s' h=>?_
  cases r with
  |error e=>exact(NA H e s' h).elim
  |ok fl=>
   cases fl with
   |next=>exact False.elim h
   |brk=>exact False.elim h
   |cont=>exact False.elim h
   |ret u=>
    obtain⟨v,H',os,bare,un,NC,r',q⟩:=h
    have q':v=.bl true:=q
    subst q'
    obtain rfl:u=Value.bool true:=r'
    refine⟨rfl,OldK.of_keep fun b o e=>?_,os,bare⟩
    cases q:H b with
    |none=>exact un.keep b o e q (by intro z;exact absurd (show b∈([]:List Addr) from z) (by simp)) (by simp)
    |some u=>
     rcases hO b with z |⟨ob,xs,z⟩
     ·rw[q] at z;cases z
     ·have z2:=un.mw b ob _ z
      obtain⟨e1,_⟩:=c7 b _ z
      obtain⟨e2,_⟩:=NC b _ z2
      rw[e] at e1;cases e1
      exact e2
 cases hk:K.lookup a with
 |some o=>
  have e:=KX a o hk
  rw[ha] at e
  cases e
  refine core (fun _=>none) (fun _=>.inl rfl) (.inr ⟨_,vs.toArray,_,hk,rfl,rfl,rfl,by rw[List.size_toArray,NB];exact hl,by simpa using rv⟩) (fun b u z=>by have z':(none:Option HO)=some u:=z;cases z') (fun b z=>absurd rfl z) fun z=>absurd rfl z
 |none=>
  refine core (fun b=>if b=a then some (.vJ {cls:=.type "list",data:=.seq vs.toArray} (.lst (ns.map V.int))) else none) (fun b=>?_) (.inl (.inr ⟨{cls:=.type "list",data:=.seq vs.toArray},if_pos rfl⟩)) (fun b u z=>?_) (fun b z=>?_) fun _=>hk
  ·by_cases hb:b=a
   ·exact .inr ⟨_,_,if_pos hb⟩
   ·exact .inl (if_neg hb)
  ·by_cases hb:b=a
   ·have z':=(if_pos hb).symm.trans z
    cases z'
    subst hb
    exact⟨ha,by rw[List.length_map];exact hl,vs,_,rv,ha⟩
   ·have z':=(if_neg hb).symm.trans z
    cases z'
  ·by_cases hb:b=a
   ·exact hb
   ·exact absurd (if_neg hb) z
end L2
namespace L2
open PySem PySem.Spec PyProof.Rows
abbrev KOf {K:PySem.W.Frag} {h:Heap} (_:K.In h):PySem.W.Frag:=K
theorem DP{l:PySem.W.OpenLaw}{n k:Nat}{q:Program}{loose:List Str}{XP:(Str->Option Value)->Heap->Prop}{YP:World->Heap->Prop}{d:DefRec}{K:Params->PySem.W.Frag}{CX:World->t9}{sp:World->Sp}{x:Str}
 (hn:l.most=some n) (L7:n<=sizeLine) (JM:d.params.defaults=[]) (hr:fW k callerA)
 (hY:∀(w:World) (h:Heap),YP w h->(K w.params).In h)
 (F:∀(w:World) (mg:Str->Option Value) (fa:Addr) (h:Heap),(K w.params).In h->h.Ns mainGlobals mg->mg d.name=some (.ref fa)->
  ∃fd:FuncData,(∀(s:Shared) (u:Value),BindsTo s fd ⟨[u],[]⟩ [(x,u)])/\
   ∀base:Heap,(K w.params).In base->base.Ns mainGlobals mg->bJ l.prog w (K w.params) mg base (CX w) k fa fd [x] (sp w))
 (Fz:∀(w:World) (H:Hp) (a:Addr) (ns:List Int),ns.length<=n->G0 H->eD (K w.params) H a (ns.map V.int)->sp w [.ref a] H (fun v _=>v=.bl true) fun _ _ _=>False)
 (NA:∀(w:World) (H:Hp) (s:Shared) (e:Value) (s':Shared),CX w [] H s (fun _ _ _=>False) e s'->False) :
 PySem.W.WalkO q loose XP YP l.row.toRowW d [] (fun f vs=>PySem.call f vs):=by
 refine Ma.uB hn JM fun w s₀ s₁ mg mb fa o pm cd doc a vs ns G Y ho hd Ax JN GZ hints hlen hg=>?_
 have KX:=hY w _ Y
 obtain⟨fd,hb,hF⟩:=F w mg fa _ KX G.T.g JN
 exact AW KX G.T.g G.T.b G.T.builtins G.T.nolimit hg GZ hints (Nat.le_trans hlen L7) hr hF hb (fun H hO hS=>Fz w H a ns hlen hO hS) fun H e s'=>NA w H s₁ e s'
end L2
namespace L2
open PySem PySem.Spec PyProof.Rows
def inClass (s:Stmt) (j:Nat):Stmt:=match s with
 |.ClassDef _ _ _ body _ _ _ _ _ _ _=>body.getD j (.Pass ⟨0,0,0,0⟩)
 |_=>.Pass ⟨0,0,0,0⟩
def iP (s:Stmt):Arguments:=match s with
 |.FunctionDef _ a _ _ _ _ _ _ _ _=>a
 |_=>{posonlyargs:=[],args:=[],vararg:=none,kwonlyargs:=[],kw_defaults:=[],kwarg:=none,defaults:=[]}
def gu (s:Stmt):List Stmt:=match s with
 |.FunctionDef _ _ b _ _ _ _ _ _ _=>b
 |_=>[]
def aK (s:Stmt):Scope:=match s with
 |.FunctionDef _ _ _ _ _ _ sc _ _ _=>sc
 |_=>{kind:=.function,names:=[],isGenerator:=false,isCoroutine:=false}
abbrev eY:t9:=fun _ _ _ _ _ _=>False
abbrev E0:XK:=fun _ _ _=>False
theorem aT{X:Cx}:Passes eY X E0:=fun _ _ _ _ _ _ _ h=>h.elim
structure Dj(K:PySem.W.Frag)(x qual:Str)(st:Stmt)(f:Addr)(fd:FuncData):Prop where
 ex:∃(oc:Value) (od:Option Addr) (kV doc pm:Value) (an:Option Addr) (eE ct:Value) (Di:Array (Option Value)),
  fd=PySem.W.fnOf x qual (iP st) (gu st) (aK st) .none kV doc pm an eE ct/\K.lookup f=some ⟨oc,od,.func fd,Di⟩/\PySem.W.codeIn K eE qual=true
 kp:PySem.W.keepIn K (.ref f)=true
section
variable{P:Program}{w:World}{K:PySem.W.Frag}{mg:Str->Option Value}{base:Heap}
theorem Dj.ok{x qual:Str}{st:Stmt}{f:Addr}{fd:FuncData}{N ps:List Str}{k:Nat}{sp:Sp}(F:Dj K x qual st f fd)(S:bj N ps (aK st))(len:∀vs H Q E,sp vs H Q E->vs.length=ps.length)
 (ux:∀(eE:Value) (A:Around) (outer:List Env) (s:Shared) (H:Hp) (vs:List V) (Q:VK) (E:XK),fW k (A.deeper (envOfC qual (aK st) s.heap.objs.size f eE))->sp vs H Q E->
  ∃t,yP (qS eY P w K mg base N qual (aK st) f eE A outer s H E).Jf (gu st) t/\t {nx:=fun _ H'=>Q .c6 H',rt:=Q} (start N vs) H):bJ P w K mg base eY (k+1) f fd ps sp:=by
 obtain⟨oc,od,kV,doc,pm,an,eE,ct,Di,rfl,lk,Ax⟩:=F.ex
 refine Jx lk Ax S len fun A outer s H vs Q E hr Fz=>?_
 obtain⟨t,h,q⟩:=ux eE A outer s H vs Q E hr Fz
 exact⟨t,h.Jf,q⟩
theorem Dj.binds{x qual:Str}{st:Stmt}{f:Addr}{fd:FuncData}{ps:List Str}(F:Dj K x qual st f fd)
 (h:∀(kV doc pm:Value) (an:Option Addr) (eE ct:Value) (us:List Value),us.length=ps.length->bindArgs (PySem.W.fnOf x qual (iP st) (gu st) (aK st) .none kV doc pm an eE ct) ⟨us,[]⟩=pure (ps.zip us)):Binds K fd ps []:=by
 obtain⟨oc,od,kV,doc,pm,an,eE,ct,Di,rfl,lk,Ax⟩:=F.ex
 exact .all (h kV doc pm an eE ct)
theorem AX{x qual:Str}{st:Stmt}{f:Addr}{oc:Value}{od an:Option Addr}{Di:Array (Option Value)}{kV doc pm eE ct:Value}(l:K.lookup f=some ⟨oc,od,.func (PySem.W.fnOf x qual (iP st) (gu st) (aK st) .none kV doc pm an eE ct),Di⟩)
 (c:PySem.W.codeIn K eE qual=true) (k:PySem.W.keepIn K (.ref f)=true):Dj K x qual st f (PySem.W.fnOf x qual (iP st) (gu st) (aK st) .none kV doc pm an eE ct):=⟨⟨oc,od,kV,doc,pm,an,eE,ct,Di,rfl,l,c⟩,k⟩
end
theorem ka{A:Around}{k:Nat}(hr:fW k A):A.units+1<cLine:=Nat.lt_of_le_of_lt (Nat.add_le_add_left (by decide:1<=64) _) hr.units
theorem ze{n:Nat}(h:n<=1000):n<sizeLine:=Nat.lt_of_le_of_lt h (by decide)
section
variable{X:Cx}
theorem pv(i:Nat){x:Str}{pos:Pos}(hN:X.N[i]?=some x:=by rfl)(hv:L4 X.env.scope x:=by first |exact Or.inl rfl |exact Or.inr (Or.inl rfl) |exact Or.inr (Or.inr rfl))(hd:(x==("__debug__":Str))=false:=by decide)
 (Ax:(x==("__classdict__":Str))=false:=by decide):PE X (.Name x pos) (fo i):=Gx hN hv hd Ax
end
theorem fG{c A B:Prop}[Decidable c](h1:c->A)(h2:¬c->B):if c then A else B:=by
 by_cases h:c
 ·rw[if_pos h]
  exact h1 h
 ·rw[if_neg h]
  exact h2 h
def ao (H H':Hp):Prop:=∀b o,H b=some o->H' b=some o
theorem ao.refl(H:Hp):ao H H:=fun _ _ h=>h
theorem ao.trans{H H1 H2:Hp}(a:ao H H1)(b:ao H1 H2):ao H H2:=fun c o h=>b c o (a c o h)
theorem ao.free{H H':Hp}(e:ao H H'){l:Addr}(h:H' l=Option.none):H l=Option.none:=by
 cases q:H l with
 |none=>rfl
 |some o=>
  rw[e l o q] at h
  cases h
theorem ao.seq{K:PySem.W.Frag}{H H':Hp}{a:Addr}{xs:List V}(e:ao H H')(h:eD K H a xs):eD K H' a xs:=by
 rcases h with (h |⟨o,h⟩) |h
 ·exact .inl (.inl (e _ _ h))
 ·exact .inl (.inr ⟨o,e _ _ h⟩)
 ·exact .inr h
end L2
namespace L2
open PySem PySem.Spec PyProof.Rows
end L2
namespace L2
open PySem PySem.Spec PyProof.Rows
section
variable(P:Program)(w:World)
end
section
variable{P:Program}{w:World}{H H':Hp}{h h':Heap}{a:Addr}{o:HO}
end
section
variable{P:Program}{w:World}{H:Hp}{h h':Heap}{x e:Addr}{o':HO}
end
section
variable{fs Dt ex MZ:List Addr}{H H1 H2:Hp}{h h1 h2 h':Heap}{a x e:Addr}{o:HO}
end
end L2
namespace L2
open PySem PySem.Spec PyProof.Rows
section
variable{X:Cx}{pins:List (Addr×Obj)}{σ:List (Option V)}{H H':Hp}{s:Shared}{h':Heap}
end
end L2
namespace L2
open PySem PySem.Spec PyProof.Rows
section
variable{X:Cx}
variable{a b:Expr}{ta tb:TE}{pos:Pos}
variable{tA Jc:TT}{rest:List Expr}
end
end L2
namespace L2
open PySem PySem.Spec PyProof.Rows
section
variable{X:Cx}{pins:List (Addr×Obj)}{σ:St}{H:Hp}{s:Shared}{a:Addr}{xs ys:List V}
end
section
variable{X:Cx}{pins:List (Addr×Obj)}{σ:St}{H:Hp}{s:Shared}{E:Value->Shared->Prop}
end
section
variable{X:Cx}{st:Stmt}{rest:List Stmt}{t u:TS}{e:Expr}{te:TE}{pos:Pos}
end
section
variable{X:Cx}{pos:Pos}
end
section
variable{X:Cx}{pos:Pos}
end
end L2
namespace L2
open PySem PySem.Spec PyProof.Rows
section
variable{X:Cx}{tg:Expr}
end
end L2
namespace L2
open PySem PySem.Spec PyProof.Rows
section
variable{X:Cx}{a b c:Expr}{ta tb tc:TE}{pos:Pos}
end
section
variable{X:Cx}{a b c:Expr}{ta tb tc:TE}{pos:Pos}
end
end L2
namespace L2
open PySem PySem.Spec PyProof.Rows
section
variable{prog:Program}{w:World}{A:Around}{E:Value->Shared->Prop}{s:Shared}{K:PySem.W.Frag}{x dx C f:Addr}{mA:Str->Option Value}{name:Str}{v:Value}
end
section
variable{P:Program}{w:World}{H H':Hp}{h h':Heap}{a C dx:Addr}{fs Dt:List (Str×V)}
end
section
variable{X:Cx}{pins:List (Addr×Obj)}{σ:St}{H:Hp}{s:Shared}{a C dx:Addr}{fs:List (Str×V)}{f:Str}{v:V}{A:Around}{E:Value->Shared->Prop}
end
section
variable{X:Cx}{o e value:Expr}{f:Str}{pos pos' DH:Pos}{ta tv:TE}
end
section
variable{X:Cx}{pins:List (Addr×Obj)}{σ:St}{H:Hp}{s:Shared}{A:Around}{E:Value->Shared->Prop}{Q:Value->Shared->Prop}{c:Value}{b:Bool}
end
end L2
namespace L2
open PySem PySem.Spec PyProof.Rows
section
variable{X:Cx}{e:Expr}{es:List Expr}{te:TE}{t:TA}{pos:Pos}
end
section
variable{X:Cx}{pins:List (Addr×Obj)}{σ:St}{H:Hp}{s s':Shared}
end
section
variable{X:Cx}{CX:t9}{k:Nat}{f C:Addr}{fd:FuncData}{ps:List Str}{sp:Sp}{qQ:List V}{ds:List Value}{E:XK}{x m:Str}{p pos apos:Pos}{e o:Expr}{es:List Expr}{ta:TE}{t:TA}
end
section
variable{X:Cx}{CX:t9}{k:Nat}{f C:Addr}{fd:FuncData}{ps ks:List Str}{sp:Sp}{E:XK}{x m:Str}{p pos apos Nh:Pos}{e o:Expr}{es:List Expr}{RU:List Keyword}{te ta:TE}{t tk:TA}{nm:Option Str}
variable{g:List Value->List Value->List Value}{gV:List V->List V->List V}
end
end L2
namespace L2
open PySem PySem.Spec PyProof.Rows
section
variable{X:Cx}{x:Str}{p pos:Pos}{e:Expr}{es:List Expr}{t:TA}{id T:String}{r:List V->Hp->VK->Prop}
end
end L2
namespace L2
open PySem PySem.Spec PyProof.Rows
section
variable{κ:Type}[DecidableEq κ]
def cN (aJ:List (κ×V)) (k:κ):Option V:=(aJ.find? fun kv=>decide (kv.1=k)).map (·.2)
def putK (aJ:List (κ×V)) (k:κ) (v:V):List (κ×V):=
 if (aJ.any fun kv=>decide (kv.1=k))=true then aJ.map (fun kv=>if kv.1=k then (kv.1,v) else kv) else aJ++[(k,v)]
def FA (aJ:List (κ×V)) (k:κ):List (κ×V):=aJ.filter fun kv=>decide (kv.1≠k)
theorem cI{p:κ×V}{r:List (κ×V)}{k:κ}(e:p.1=k):cN (p::r) k=some p.2:=by simp[cN,List.find?_cons,e]
theorem cJ{p:κ×V}{r:List (κ×V)}{k:κ}(e:¬p.1=k):cN (p::r) k=cN r k:=by simp[cN,List.find?_cons,e]
theorem kb(k:κ):∀aJ:List (κ×V),(aJ.any fun kv=>decide (kv.1=k))=(cN aJ k).isSome
 |[]=>rfl
 |p::r=>by
  rw[List.any_cons]
  by_cases e:p.1=k
  ·simp only[cI e,decide_eq_true e,Bool.true_or,Option.isSome_some]
  ·rw[cJ e,decide_eq_false e,Bool.false_or];exact kb k r
theorem uC(k j:κ)(y:V):∀aJ:List (κ×V),cN (aJ.map fun kv=>if kv.1=k then (kv.1,y) else kv) j=(cN aJ j).map fun x=>if j=k then y else x
 |[]=>rfl
 |p::r=>by
  have ih:=uC k j y r
  rw[List.map_cons]
  by_cases h:p.1=k
  ·rw[if_pos h]
   by_cases e:p.1=j
   ·rw[cI (p:=(p.1,y)) e,cI e,Option.map_some,if_pos (e.symm.trans h)]
   ·rw[cJ (p:=(p.1,y)) e,cJ e,ih]
  ·rw[if_neg h]
   by_cases e:p.1=j
   ·rw[cI (p:=p) e,cI e,Option.map_some,if_neg (fun z=>h (e.trans z))]
   ·rw[cJ (p:=p) e,cJ e,ih]
theorem rT(k j:κ)(y:V):∀aJ:List (κ×V),cN aJ k=none->cN (aJ++[(k,y)]) j=if j=k then some y else cN aJ j
 |[],_=>by
  by_cases e:k=j
  ·rw[if_pos e.symm];exact cI (p:=(k,y)) e
  ·rw[if_neg (fun z=>e z.symm)];exact cJ (p:=(k,y)) e
 |p::r,hn=>by
  rw[List.cons_append]
  have hk:¬p.1=k:=fun z=>by rw[cI z] at hn;cases hn
  rw[cJ hk] at hn
  have ih:=rT k j y r hn
  by_cases e:p.1=j
  ·rw[cI e,cI e,if_neg (fun z=>hk (e.trans z))]
  ·rw[cJ e,cJ e,ih]
theorem pW(aJ:List (κ×V))(k j:κ)(y:V):cN (putK aJ k y) j=if j=k then some y else cN aJ j:=by
 unfold putK
 by_cases a:(aJ.any fun kv=>decide (kv.1=k))=true
 ·rw[if_pos a,uC]
  rw[kb] at a
  by_cases e:j=k
  ·obtain⟨x,hx⟩:=Option.isSome_iff_exists.mp a
   rw[if_pos e,e,hx,Option.map_some,if_pos rfl]
  ·rw[if_neg e]
   cases cN aJ j with
   |none=>rfl
   |some x=>rw[Option.map_some,if_neg e]
 ·rw[if_neg a]
  refine rT k j y aJ ?_
  rw[kb] at a
  cases q:cN aJ k with
  |none=>rfl
  |some x=>rw[q] at a;exact(a rfl).elim
theorem iQ(aJ:List (κ×V))(k:κ)(v:V):(putK aJ k v).length<=aJ.length+1:=by
 unfold putK
 split
 ·rw[List.length_map];lia
 ·rw[List.length_append,List.length_cons,List.length_nil];lia
theorem k8.rV{o:Option V}{u:Option Value}(r:k8 o u):o.isSome=u.isSome:=by
 cases o with
 |none=>cases u with
  |none=>rfl
  |some _=>exact(show False from r).elim
 |some _=>cases u with
  |none=>exact(show False from r).elim
  |some _=>rfl
theorem k8.getD{o:Option V}{u:Option Value}{d:V}{d':Value}(r:k8 o u)(rd:RelV d d'):RelV (o.getD d) (u.getD d'):=by
 cases o with
 |none=>cases u with
  |none=>exact rd
  |some _=>exact(show False from r).elim
 |some _=>cases u with
  |none=>exact(show False from r).elim
  |some _=>exact r
theorem KV.val{aJ:List (κ×V)}{vs:List (κ×Value)}(r:KV aJ vs)(k:κ):k8 (cN aJ k) (valueAt vs k):=by
 unfold KV at r
 induction r with
 |nil=>exact True.intro
 |@cons p q ps qs h t ih=>
  obtain⟨h1,h2⟩:=h
  by_cases e:p.1=k
  ·have e':q.1=k:=h1.symm.trans e
   have b:valueAt (q::qs) k=some q.2:=by simp[valueAt,List.find?_cons,e']
   rw[cI e,b];exact h2
  ·have e':¬q.1=k:=fun z=>e (h1.trans z)
   have b:valueAt (q::qs) k=valueAt qs k:=by simp[valueAt,List.find?_cons,e']
   rw[cJ e,b];exact ih
theorem KV.any{aJ:List (κ×V)}{vs:List (κ×Value)}(r:KV aJ vs)(k:κ):(aJ.any fun kv=>decide (kv.1=k))=vs.any fun kv=>decide (kv.1=k):=by
 unfold KV at r
 induction r with
 |nil=>rfl
 |cons h t ih=>rw[List.any_cons,List.any_cons,ih,h.1]
theorem KV.G1{aJ:List (κ×V)}{vs:List (κ×Value)}(r:KV aJ vs)(k:κ){y:V}{u:Value}(ry:RelV y u) :
 KV (aJ.map fun kv=>if kv.1=k then (kv.1,y) else kv) (vs.map fun kv=>if kv.1=k then (kv.1,u) else kv):=by
 unfold KV at r ⊢
 induction r with
 |nil=>exact .nil
 |@cons p q ps qs h t ih=>
  rw[List.map_cons,List.map_cons]
  refine .cons ?_ ih
  obtain⟨h1,h2⟩:=h
  by_cases e:p.1=k
  ·rw[if_pos e,if_pos (h1.symm.trans e)];exact⟨h1,ry⟩
  ·rw[if_neg e,if_neg (fun z=>e (h1.trans z))];exact⟨h1,h2⟩
theorem KV.put{aJ:List (κ×V)}{vs:List (κ×Value)}(r:KV aJ vs)(k:κ){y:V}{u:Value}(ry:RelV y u):KV (putK aJ k y) (stored vs k u):=by
 unfold putK stored
 rw[r.any k]
 by_cases e:(vs.any fun kv=>decide (kv.1=k))=true
 ·rw[if_pos e,if_pos e];exact r.G1 k ry
 ·rw[if_neg e,if_neg e];exact Paired.snoc r ⟨rfl,ry⟩
theorem KV.drop{aJ:List (κ×V)}{vs:List (κ×Value)}(r:KV aJ vs)(k:κ):KV (FA aJ k) (without vs k):=by
 unfold KV at r ⊢
 unfold FA without
 induction r with
 |nil=>exact .nil
 |@cons p q ps qs h t ih=>
  obtain⟨h1,h2⟩:=h
  rw[List.filter_cons,List.filter_cons]
  by_cases e:p.1=k
  ·have a:¬decide (p.1≠k)=true:=by simp[e]
   have b:¬decide (q.1≠k)=true:=by simp[h1.symm.trans e]
   rw[if_neg a,if_neg b];exact ih
  ·have e':¬q.1=k:=fun z=>e (h1.trans z)
   have a:decide (p.1≠k)=true:=by simp[e]
   have b:decide (q.1≠k)=true:=by simp[e']
   rw[if_pos a,if_pos b];exact .cons ⟨h1,h2⟩ ih
theorem KV.length{aJ:List (κ×V)}{vs:List (κ×Value)}(r:KV aJ vs):aJ.length=vs.length:=Paired.length r
end
theorem uD{P:Program}{w:World}{k:Key}{u:Value}(r:RelV (kV k) u):(ck P w).is k u=true:=by
 cases k with
 |inl i=>obtain⟨t,e⟩:=(show ∃t,u=Value.int i t from r);subst e;exact ug P w i t
 |inr x=>obtain⟨t,e⟩:=(show ∃t,u=Value.str x t from r);subst e;exact uh P w x t
theorem rW{P:Program}{w:World}:∀ {ks:List Key} {us:List Value},Vals (ks.map kV) us->ItemsAre (ck P w) ks us
 |[],_,r=>by rw[List.map_nil] at r;cases r;exact .nil
 |k::ks,_,r=>by
  rw[List.map_cons] at r
  cases r with
  |cons h t=>exact .cons (uD h) (rW t)
abbrev KT (H:Hp):List (List Key×V)->List (List Key×Addr×Value)->Prop:=Paired fun p q=>p.1=q.1/\H q.2.1=some (.tup (p.1.map kV))/\RelV p.2 q.2.2
theorem KT.val{H:Hp}{aJ:List (List Key×V)}{xs:List (List Key×Addr×Value)}(r:KT H aJ xs)(k:List Key):k8 (cN aJ k) ((atKey xs k).map (·.2)):=by
 induction r with
 |nil=>exact True.intro
 |@cons p q ps qs h t ih=>
  obtain⟨h1,_,h2⟩:=h
  by_cases e:p.1=k
  ·have e':q.1=k:=h1.symm.trans e
   have b:atKey (q::qs) k=some q.2:=by simp[atKey,List.find?_cons,e']
   rw[cI e,b];exact h2
  ·have e':¬q.1=k:=fun z=>e (h1.trans z)
   have b:atKey (q::qs) k=atKey qs k:=by simp[atKey,List.find?_cons,e']
   rw[cJ e,b];exact ih
theorem KT.G1{H:Hp}{aJ:List (List Key×V)}{xs:List (List Key×Addr×Value)}(r:KT H aJ xs)(k:List Key){y:V}{u:Value}(ry:RelV y u) :
 KT H (aJ.map fun kv=>if kv.1=k then (kv.1,y) else kv) (xs.map (putAt k u)):=by
 induction r with
 |nil=>exact .nil
 |@cons p q ps qs h t ih=>
  rw[List.map_cons,List.map_cons]
  refine .cons ?_ ih
  obtain⟨h1,h2,h3⟩:=h
  unfold putAt
  by_cases e:p.1=k
  ·rw[if_pos e,if_pos (h1.symm.trans e)];exact⟨h1,h2,ry⟩
  ·rw[if_neg e,if_neg (fun z=>e (h1.trans z))];exact⟨h1,h2,h3⟩
theorem KT.put{H:Hp}{aJ:List (List Key×V)}{xs:List (List Key×Addr×Value)}(r:KT H aJ xs)(k:List Key){b:Addr}{y:V}{u:Value}(hb:H b=some (.tup (k.map kV)))(ry:RelV y u) :
 KT H (putK aJ k y) (storedH xs k b u):=by
 have e:(aJ.any fun kv=>decide (kv.1=k))=(atKey xs k).isSome:=by
  rw[kb,(r.val k).rV,Option.isSome_map]
 unfold putK storedH
 rw[e]
 by_cases q:(atKey xs k).isSome=true
 ·rw[if_pos q,if_pos q];exact r.G1 k ry
 ·rw[if_neg q,if_neg q];exact Paired.snoc r ⟨rfl,hb,ry⟩
theorem KT.keeps{H H':Hp}{aJ:List (List Key×V)}{xs:List (List Key×Addr×Value)}(r:KT H aJ xs)(ht:∀b ys,H b=some (.tup ys)->H' b=some (.tup ys)):KT H' aJ xs:=
 Paired.As r fun _ _ z=>⟨z.1,ht _ _ z.2.1,z.2.2⟩
section
variable{P:Program}{w:World}{H:Hp}{h:Heap}{a:Addr}
theorem FC{u:HO}(ok:mq P w H h)(e:Rd H a u):cS P w H h a u:=e.ok ok
theorem AY{aJ:List (Key×V)}(ok:mq P w H h)(e:Rd H a (.dK aJ)):aJ.length<=sizeLine/\(a==sysModules)=false/\∃vs,KV aJ vs/\h.DictOf (ck P w) a vs:=
 show cS P w H h a (.dK aJ) from FC ok e
theorem JP{aJ:List (Key×V)}(ok:mq P w H h)(e:H a=some (.dK aJ)):aJ.length<=sizeLine/\(a==sysModules)=false/\∃vs,KV aJ vs/\h.DictOf (ck P w) a vs:=AY ok (.inl e)
theorem vX{ks:List Key}(ok:mq P w H h)(e:H a=some (.tup (ks.map kV))):(tupleKind (ck P w)).is h ks a:=by
 obtain⟨_,bc,r,o,h1,h2,n,h3⟩:=(show cS P w H h a (.tup (ks.map kV)) from ok a _ e)
 exact⟨o,bc.toArray,n,h1,h2,h3,by simpa using rW r⟩
theorem AZ{aJ:List (List Key×V)}(ok:mq P w H h)(e:Rd H a (.dT aJ)):aJ.length<=sizeLine/\(a==sysModules)=false/\
 ∃xs,KT H aJ xs/\h.DictOfH (tupleKind (ck P w)) a xs:=by
 obtain⟨z,y,xs,r,o,es,ep,h1,h2,h3,h4,h5⟩:=(show cS P w H h a (.dT aJ) from FC ok e)
 refine⟨z,y,xs,r,o,es,ep,h1,h2,h3,h4,fun x hx=>?_,h5⟩
 have all:∀ {l:List (List Key×V)} {m:List (List Key×Addr×Value)},KT H l m->∀x∈m,(tupleKind (ck P w)).is h x.1 x.2.1:=by
  intro l m q
  induction q with
  |nil=>intro x hx;exact nomatch hx
  |@cons p q ps qs hq t ih=>
   intro x hx
   rcases List.mem_cons.mp hx with e |hx
   ·subst e
    exact vX ok (by rw[<- hq.1];exact hq.2.1)
   ·exact ih x hx
 exact all r x hx
theorem JQ{aJ:List (List Key×V)}(ok:mq P w H h)(e:H a=some (.dT aJ)):aJ.length<=sizeLine/\(a==sysModules)=false/\
 ∃xs,KT H aJ xs/\h.DictOfH (tupleKind (ck P w)) a xs:=AZ ok (.inl e)
end
def mE (H:Hp) (a:Addr) (y:V) (r:Option V):Prop:=
 (∃aJ k,Rd H a (.dK aJ)/\y=kV k/\r=cN aJ k)\/∃aJ k b,Rd H a (.dT aJ)/\y=.ref b/\H b=some (.tup (k.map kV))/\r=cN aJ k
def sV (H:Hp) (a:Addr) (y v:V) (H':Hp):Prop:=
 (∃aJ k,H a=some (.dK aJ)/\y=kV k/\aJ.length<sizeLine/\H'=upd H a (.dK (putK aJ k v)))\/
 ∃aJ k b,H a=some (.dT aJ)/\y=.ref b/\H b=some (.tup (k.map kV))/\aJ.length<sizeLine/\H'=upd H a (.dT (putK aJ k v))
theorem mE.k{H:Hp}{a:Addr}{aJ:List (Key×V)}{k:Key}(e:H a=some (.dK aJ)):mE H a (kV k) (cN aJ k):=.inl ⟨aJ,k,.inl e,rfl,rfl⟩
theorem sV.k{H:Hp}{a:Addr}{aJ:List (Key×V)}{k:Key}{v:V}(e:H a=some (.dK aJ))(hl:aJ.length<sizeLine):sV H a (kV k) v (upd H a (.dK (putK aJ k v))):=.inl ⟨aJ,k,e,rfl,hl,rfl⟩
section
variable{X:Cx}{pins:List (Addr×Obj)}{σ:St}{H:Hp}{s:Shared}{a:Addr}{y v:V}{u r:Value}{o:Option V}{A:Around}{E:Value->Shared->Prop}
theorem Inv.big(I:Inv X pins σ H s):sysModules<s.heap.objs.size:=by
 have h:mainGlobals<s.heap.objs.size:=(I.mod.glob.keeps I.bk).lt
 exact Nat.lt_trans (by decide) h
theorem zf{Q:Value->Shared->Prop}(hu:A.units+1<cLine)(I:Inv X pins σ H s)(g:mE H a y (some v))(ry:RelV y u)(h:∀w' s',Inv X pins σ H s'->RelV v w'->Q w' s') :
 wpAny (model X.prog X.w) A (getItem (.ref a) u) Q E s:=by
 rcases g with ⟨aJ,k,e,ey,l⟩ |⟨aJ,k,b,e,ey,eb,l⟩
 ·subst ey
  obtain⟨z,hd,vs,rel,dd⟩:=AY I.c7 e
  obtain⟨w',hw,AR⟩:=k8.some_of (v:=v) (o:=valueAt vs k) (by rw[l];exact rel.val k)
  exact wpAny_getItem_of (uD ry) dd.mapOf hw (h w' _ (I.tok _) AR)
 ·subst ey
  cases (show u=Value.ref b from ry)
  obtain⟨z,hd,xs,rel,dd⟩:=AZ I.c7 e
  obtain⟨w',hw,AR⟩:=k8.some_of (v:=v) (o:=(atKey xs k).map (·.2)) (by rw[l];exact rel.val k)
  obtain⟨p,hp,oQ⟩:=Option.map_eq_some_iff.mp hw
  refine wpAny_getItem_heap (tupleKind_room_in1 hu) (vX I.c7 eb) dd hp ?_
  rw[oQ]
  exact h w' _ (I.tok _) AR
theorem xH{h':Heap}{t':Nat}{ob:HO}(I:Inv X pins σ H s)(mu:IU (H a))(hs:Heap.SameBut a s.heap h')(he:∃q,h'.get? a=some q)(new:cS X.prog X.w (upd H a ob) h' a ob) :
 Inv X pins σ (upd H a ob) {s with heap:=h',toks:=t' }:=
 I.write (x:=a) (e:=a) mu (.inl rfl) (fun b q hb z=>(hs.2 b hb).trans z) he new
theorem vY{P:Program}{w:World}{H':Hp}{h':Heap}{aJ:List (Key×V)}{vs:List (Key×Value)}(z:aJ.length<=sizeLine)(hd:(a==sysModules)=false)(rel:KV aJ vs)(dd:h'.DictOf (ck P w) a vs) :
 cS P w H' h' a (.dK aJ):=⟨z,hd,vs,rel,dd⟩
theorem zg{H':Hp}{Q:Unit->Shared->Prop}(hu:A.units+1<cLine)(I:Inv X pins σ H s)(g:sV H a y v H')(ry:RelV y u)(rv:RelV v r)(h:∀s',Inv X pins σ H' s'->Q () s') :
 wpAny (model X.prog X.w) A (setItem (.ref a) u r) Q E s:=by
 rcases g with ⟨aJ,k,e,ey,l,eH⟩ |⟨aJ,k,b,e,ey,eb,l,eH⟩
 ·subst ey eH
  obtain⟨z,hd,vs,rel,dd⟩:=JP I.c7 e
  have hz:vs.length<=sizeLine:=by rw[<- rel.length];exact z
  have hl:(putK aJ k v).length<=sizeLine:=by have:=iQ aJ k v;lia
  refine wpAny_setItem_pairs (hsz:=hz) (uD ry) dd fun h' Md hs=>h _ ?_
  have he:∃q,h'.get? a=some q:=let ⟨q,_,_,hq,_⟩:=Md;⟨q,hq⟩
  exact xH I (by rw[e];exact True.intro) hs he (vY hl hd (rel.put k rv) Md)
 ·subst ey eH
  cases (show u=Value.ref b from ry)
  obtain⟨z,hd,xs,rel,dd⟩:=JQ I.c7 e
  have hz:xs.length<=sizeLine:=by rw[<- Paired.length rel];exact z
  have hl:(putK aJ k v).length<=sizeLine:=by have:=iQ aJ k v;lia
  refine wpAny_setItem_heap (hsz:=hz) (tupleKind_room_in1 hu) (vX I.c7 eb) dd fun h' Md hs=>h _ ?_
  obtain⟨q,es,ep,hq,h2,h3,h4,_,h5⟩:=Md
  refine xH I (by rw[e];exact True.intro) hs ⟨q,hq⟩ ⟨hl,hd,_,(rel.put k eb rv).keeps fun c ys ec=>?_,q,es,ep,hq,h2,h3,h4,h5⟩
  rw[aF (bS ec e (fun z=>nomatch z))]
  exact ec
end
section
variable{X:Cx}{pins:List (Addr×Obj)}{σ:St}{H:Hp}{s:Shared}{a:Addr}{aJ:List (Key×V)}{k:Key}{u:Value}{A:Around}{E:Value->Shared->Prop}
end
def JR (i:Expr):Prop:=∀ov iv,subscripted i false ov iv=operate [ov,iv] (getItem ov iv)
theorem DQ{prog:Program}{w:World}{A:Around}{E:Value->Shared->Prop}{s:Shared}{env:Env}{value slice:Expr}{pos:Pos}{T id:String}{Q:Value->Shared->Prop}
 (hl:typeLookup (.type T) "__getitem__"=pure (some (.builtin id))) (hs:JR slice)
 (h:wpAny (model prog w) A (eval value env) (fun o s₁=>wpAny (model prog w) A (eval slice env) (fun i s₂=>s₂.TypeIs o T/\wpAny (model prog w) A (getItem o i) Q E s₂) E s₁) E s) :
 wpAny (model prog w) A (eval (.Subscript value slice pos) env) Q E s:=by
 refine Subscript_ (wpAny_mono h (fun o s₁ h₁=>wpAny_mono h₁ (fun i s₂ h₂=>?_) fun _ _ x=>x) fun _ _ x=>x)
 obtain⟨hT,h₂⟩:=h₂
 unfold subscriptTail
 refine wpAny_bind ?_
 rw[getitemInPython_of_ne hT.not_modules]
 refine wpAny_bind (wpAny_specialOf hT hl ?_)
 have fin:wpAny (model prog w) A (subscripted slice false o i) (fun r s₃=>wpAny (model prog w) A (letTemporaryGo value o r >>= fun _=>pure r) Q E s₃) E s₂:=by
  rw[hs o i]
  exact wpAny_operating (wpAny_mono h₂ (fun r s₃ h₃=>wpAny_bind (wpAny_letTemporaryGo (wpAny_pure h₃))) fun _ _ x=>x)
 first
  |exact wpAny_pure (wpAny_bind fin)
  |exact wpAny_bind (wpAny_pure (wpAny_bind fin))
  |exact wpAny_bind fin
theorem uF{X:Cx}{pins:List (Addr×Obj)}{σ:St}{H:Hp}{s:Shared}{a:Addr}{y:V}{o:Option V}(I:Inv X pins σ H s)(g:mE H a y o):s.TypeIs (.ref a) "dict":=by
 rcases g with ⟨aJ,k,e,_,_⟩ |⟨aJ,k,b,e,_,_,_⟩
 ·obtain⟨_,_,vs,_,dd⟩:=AY I.c7 e
  exact dd.typeIs
 ·obtain⟨_,_,xs,_,dd⟩:=AZ I.c7 e
  exact dd.typeIs
def FD (td ty:TE):TE:=fun σ H Q=>td σ H fun x H1=>ty σ H1 fun y H2=>∃a v,x=.ref a/\mE H2 a y (some v)/\Q v H2
def FE (td ty tv:TE):TS:=fun D σ H=>tv σ H fun v H1=>td σ H1 fun x H2=>ty σ H2 fun y H3=>∃a H4,x=.ref a/\sV H3 a y v H4/\D.nx σ H4
section
variable{X:Cx}{o i e value:Expr}{pos pos' DH:Pos}{td ty tv:TE}
theorem fI(hu:X.A.units+1<cLine)(ho:PE X o td)(hi:PE X i ty)(hs:JR i):PE X (.Subscript o i pos) (FD td ty):=by
 intro pins s σ H Q I h
 refine DQ PySem.F.slot_dict_getitem.lookup hs (eF (ho pins s σ H _ I h) fun u s1 zqz=>?_)
 obtain⟨x,H1,I1,rx,q1⟩:=zqz
 refine eF (hi pins s1 σ H1 _ I1 q1) fun iv s2 zqz=>?_
 obtain⟨y,H2,I2,ry,a,v,ex,g,q2⟩:=zqz
 subst ex
 obtain rfl:u=Value.ref a:=rx
 exact⟨uF I2 g,zf hu I2 g ry fun w' s3 I3 AR=>⟨v,H2,I3,AR,q2⟩⟩
theorem pB(hu:X.A.units+1<cLine)(ho:PE X o td)(hi:PE X i ty)(hv:PE X value tv)(hs:swapsWith value (some (.Subscript o i pos')) pos.line X.env=pure false) :
 PS X (.Assign [.Subscript o i pos'] value pos) (FE td ty tv):=by
 intro pins s σ H D I h
 refine wpAny_Assign_Subscript (eF (hv pins s σ H _ I h) fun r s1 zqz=>?_) hs
 obtain⟨v,H1,I1,rv,q1⟩:=zqz
 refine eF (ho pins s1 σ H1 _ I1 q1) fun u s2 zqz=>?_
 obtain⟨x,H2,I2,rx,q2⟩:=zqz
 refine eF (hi pins s2 σ H2 _ I2 q2) fun iv s3 zqz=>?_
 obtain⟨y,H3,I3,ry,a,H4,ex,g,q3⟩:=zqz
 subst ex
 obtain rfl:u=Value.ref a:=rx
 exact zg hu I3 g ry rv fun s4 I4=>⟨σ,H4,I4,q3⟩
end
def G2:TE:=fun _ H Q=>∀p,H p=none->Q (.ref p) (upd H p (.dK []))
section
variable{X:Cx}{pos:Pos}
end
def jC (aJ more:List (Key×V)):List (Key×V):=more.foldl (fun acc kv=>putK acc kv.1 kv.2) aJ
theorem KV.merge:∀ {more:List (Key×V)} {rs:List (Key×Value)} {aJ:List (Key×V)} {vs:List (Key×Value)},KV more rs->KV aJ vs->KV (jC aJ more) (merged vs rs):=by
 intro more rs aJ vs r
 unfold KV at r
 induction r generalizing aJ vs with
 |nil=>intro q;exact q
 |@cons p q ps qs h t ih=>
  intro r0
  have e:KV (putK aJ p.1 p.2) (stored vs q.1 q.2):=by
   have:=r0.put p.1 h.2
   rw[<- h.1];exact this
  exact ih e
theorem i5:∀(more aJ:List (Key×V)),(jC aJ more).length<=aJ.length+more.length
 |[],aJ=>by show aJ.length<=aJ.length+0;lia
 |p::r,aJ=>by
  have h1:=i5 r (putK aJ p.1 p.2)
  have h2:=iQ aJ p.1 p.2
  show (jC (putK aJ p.1 p.2) r).length<=_
  rw[List.length_cons];lia
section
variable{X:Cx}{pins:List (Addr×Obj)}{σ:St}{H:Hp}{s:Shared}{a:Addr}{y d:V}{u r:Value}{o:Option V}{A:Around}{E:Value->Shared->Prop}
end
section
variable{X:Cx}{o e f:Expr}{apos sU:Pos}{td ty tx:TE}
end
section
variable{X:Cx}{pins:List (Addr×Obj)}{σ:St}{H:Hp}{s:Shared}{a:Addr}{aJ:List (Key×V)}{A:Around}{E:Value->Shared->Prop}
end
section
variable{X:Cx}{pins:List (Addr×Obj)}{σ:St}{H:Hp}{s:Shared}{a:Addr}{y:V}{u:Value}{A:Around}{E:Value->Shared->Prop}
end
end L2
namespace Ma
open PySem PySem.W PySem.Calls PyProof.Rows
section
variable{prog:Program}{w:World}{A:Around}{E:Value->Shared->Prop}{s:Shared}{K:Frag}
end
end Ma
namespace L2
open PySem PySem.Spec PyProof.Rows
end L2
namespace L2
open PySem PySem.Spec PyProof.Rows
end L2
namespace L2
open PySem PySem.Spec PyProof.Rows
section
variable{P:Program}{w:World}{K:PySem.W.Frag}{mg:Str->Option Value}{base:Heap}
end
section
variable{X:Cx}
end
section
variable{κ:Type}[DecidableEq κ]
end
end L2
namespace L2
open PySem PySem.Spec PyProof.Rows
def nJ (env:Env):List (Str×NameKind)->List (Str×Addr)->List (Str×Addr)
 |[],cs=>cs
 |(n,k)::r,cs=>nJ env r (if k==.free then (n,(env.cells.lookup n).getD 0)::cs else cs)
theorem o7{scope:Scope}{env:Env}(h:∀p∈scope.names,p.2=.free->∃c,env.cells.lookup p.1=some c):closureFor scope env=pure (nJ env scope.names []):=by
 have all:∀(l:List (Str×NameKind)) (cs:List (Str×Addr)),(∀p∈l,p.2=.free->∃c,env.cells.lookup p.1=some c)->
  (forIn l cs fun (x:Str×NameKind) (r:List (Str×Addr))=>if (x.2==NameKind.free)=true then do let a <- cellOf env x.1;pure (ForInStep.yield ((x.1,a)::r)) else (pure (ForInStep.yield r):Sem _))=pure (nJ env l cs):=by
  intro l
  induction l with
  |nil=>intro cs _;rfl
  |cons p r ih=>
   intro cs hp
   obtain⟨n,k⟩:=p
   rw[List.forIn_cons]
   by_cases hk:k=.free
   ·subst hk
    obtain⟨c,e⟩:=hp (n,.free) List.mem_cons_self rfl
    have e1:cellOf env n=pure c:=by unfold cellOf;rw[e]
    simp only[beq_self_eq_true,if_true,e1,pure_bind]
    rw[ih _ fun p Io=>hp p (List.mem_cons_of_mem _ Io)]
    simp[nJ,e]
   ·have hb:(k==NameKind.free)=false:=by simpa using hk
    simp only[hb,Bool.false_eq_true,if_false,pure_bind]
    rw[ih _ fun p Io=>hp p (List.mem_cons_of_mem _ Io)]
    simp[nJ,hb]
 simp only[closureFor]
 rw[all scope.names [] h]
 simp
theorem mF{env:Env}{x:Str}{c:Addr}:∀ {l:List (Str×NameKind)} {cs:List (Str×Addr)},(∀p∈l,p.2=.free->∃c,env.cells.lookup p.1=some c)->(∀x c,cs.lookup x=some c->env.cells.lookup x=some c)->
 (nJ env l cs).lookup x=some c->env.cells.lookup x=some c
 |[],_,_,h,e=>h x c e
 |(n,k)::r,cs,hp,h,e=>by
  unfold nJ at e
  refine mF (fun p q=>hp p (List.mem_cons_of_mem _ q)) ?_ e
  intro y d q
  by_cases hk:k=.free
  ·subst hk
   obtain⟨c',e'⟩:=hp (n,.free) List.mem_cons_self rfl
   simp only[beq_self_eq_true,if_true] at q
   rw[List.lookup_cons] at q
   cases hy:y==n with
   |true=>
    rw[hy] at q
    have:y=n:=by simpa using hy
    subst this
    simp only at e'
    rw[e'] at q ⊢
    exact q
   |false=>rw[hy] at q;exact h y d q
  ·have hb:(k==NameKind.free)=false:=by simpa using hk
   simp only[hb,Bool.false_eq_true,if_false] at q
   exact h y d q
theorem pX{env:Env}{x:Str}:∀ {l:List (Str×NameKind)} {cs:List (Str×Addr)},((∃c,cs.lookup x=some c)\/(x,NameKind.free)∈l)->∃c,(nJ env l cs).lookup x=some c
 |[],_,h=>by
  rcases h with h |h
  ·exact h
  ·exact absurd h (by simp)
 |(n,k)::r,cs,h=>by
  unfold nJ
  apply pX
  rcases h with ⟨c,h⟩ |h
  ·left
   by_cases hk:k=.free
   ·subst hk
    simp only[beq_self_eq_true,if_true]
    rw[List.lookup_cons]
    cases hy:x==n with
    |true=>exact⟨_,rfl⟩
    |false=>exact⟨c,h⟩
   ·have hb:(k==NameKind.free)=false:=by simpa using hk
    simp only[hb,Bool.false_eq_true,if_false]
    exact⟨c,h⟩
  ·rcases List.mem_cons.mp h with e |h
   ·injection e with e1 e2
    subst e1;subst e2
    left
    simp only[beq_self_eq_true,if_true]
    rw[List.lookup_cons]
    simp
   ·exact .inr h
theorem kc{scope:Scope}{env:Env}{x:Str}:(relabel scope env).names.lookup x=(scope.names.lookup x).map fun k=>if (k==NameKind.free&&env.scope.kind==.function&&env.kindOf x==some .cell)=true then .cell else k:=by
 unfold relabel
 show List.lookup x (scope.names.map _)=_
 generalize scope.names=l
 induction l with
 |nil=>rfl
 |cons p r ih=>
  obtain⟨n,k⟩:=p
  rw[List.map_cons,List.lookup_cons (as:=r)]
  show List.lookup x ((if (k==NameKind.free&&env.scope.kind==.function&&env.kindOf n==some .cell)=true then (n,NameKind.cell) else (n,k))::_)=_
  cases hx:x==n with
  |true=>
   have e:x=n:=by simpa using hx
   subst e
   by_cases hc:(k==NameKind.free&&env.scope.kind==.function&&env.kindOf x==some .cell)=true
   ·rw[if_pos hc];simp only[List.lookup_cons,beq_self_eq_true,Option.map_some];rw[if_pos hc]
   ·rw[if_neg hc];simp only[List.lookup_cons,beq_self_eq_true,Option.map_some];rw[if_neg hc]
  |false=>
   by_cases hc:(k==NameKind.free&&env.scope.kind==.function&&env.kindOf n==some .cell)=true
   ·rw[if_pos hc];simp only[List.lookup_cons,hx];exact ih
   ·rw[if_neg hc];simp only[List.lookup_cons,hx];exact ih
theorem mem_of_lookup{x:Str}{k:NameKind}:∀ {l:List (Str×NameKind)},l.lookup x=some k->(x,k)∈l
 |[],h=>by simp at h
 |(n,j)::r,h=>by
  rw[List.lookup_cons] at h
  cases hx:x==n with
  |true=>
   rw[hx] at h
   have e:x=n:=by simpa using hx
   cases h;subst e
   exact List.mem_cons_self
  |false=>rw[hx] at h;exact List.mem_cons_of_mem _ (mem_of_lookup h)
def gY (sc out:Scope):Bool:=
 (sc.names.all fun p=>p.2 != .cell&&(p.2 != .free ||out.names.lookup p.1==some .cell ||out.names.lookup p.1==some .free)&&(p.2 != .local ||sc.names.lookup p.1==some .local))&&decide (sc.kind=.function)
def pC (sc out:Scope) (N:List Str) (ix:List Nat):Bool:=
 ix.all fun i=>sc.names.lookup (N.getD i "")==some .free&&(out.names.lookup (N.getD i "")==some .cell ||out.names.lookup (N.getD i "")==some .free)
def A0 (σ:St) (ix:List Nat):St:=ix.map fun i=>σ.getD i none
abbrev xI (N:List Str) (ix:List Nat):List Str:=ix.map fun i=>N.getD i ""
def ip (X:Cx) (scope:Scope) (own:List Str) (ix:List Nat) (C:Addr) (s₀:Shared) (H₀:Hp) (ex:List Addr):Cx where
 prog:=X.prog
 w:=X.w
 K:=X.K
 mg:=X.mg
 base:=X.base
 A:=X.A
 N:=own++xI X.N ix
 s₀:=s₀
 H₀:=H₀
 env:=compEnvC scope (nJ X.env scope.names []) C X.env
 outer:=X.stack
 stack:=X.stack
 ex:=ex
 fn:=fun _=>false
 calm:=X.calm
 pn:=[]
 xe:=fun _ _=>False
section
variable{X:Cx}{pins:List (Addr×Obj)}{σ:St}{H:Hp}{s:Shared}
theorem ke{sc out:Scope}(h:gY sc out=true):∀p∈sc.names,p.2≠.cell/\(p.2=.free->out.names.lookup p.1=some .cell\/out.names.lookup p.1=some .free)/\(p.2=.local->sc.names.lookup p.1=some .local):=by
 intro p hp
 unfold gY at h
 rw[Bool.and_eq_true] at h
 have:=List.all_eq_true.mp h.1 p hp
 simp only[Bool.and_eq_true,Bool.or_eq_true,bne_iff_ne,beq_iff_eq,ne_eq] at this
 obtain⟨⟨h1,h2⟩,h3⟩:=this
 refine⟨h1,fun e=>?_,fun e=>?_⟩
 ·rcases h2 with (h2 |h2) |h2
  ·exact absurd e h2
  ·exact .inl h2
  ·exact .inr h2
 ·rcases h3 with h3 |h3
  ·exact absurd e h3
  ·exact h3
theorem jD{sc out:Scope}(h:gY sc out=true):sc.kind=.function:=by
 unfold gY at h
 rw[Bool.and_eq_true] at h
 exact of_decide_eq_true h.2
theorem DR{scope:Scope}{own:List Str}{ix:List Nat}{ex:List Addr}(I:Inv X pins σ H s)(hf:gY scope X.env.scope=true)(hx:∀b∈ex,my X pins H b/\b<s.heap.objs.size):(ip X scope own ix s.heap.objs.size s H ex).Ok:=by
 have fits:=(ke hf)
 have mx:∀p∈scope.names,p.2=.free->∃c,X.env.cells.lookup p.1=some c:=fun p hp e=>I.ok.has p.1 ((fits p hp).2.1 e)
 have sub:∀ {x:Str} {c:Addr},(nJ X.env scope.names []).lookup x=some c->X.env.cells.lookup x=some c:=fun {x c} e=>mF mx (fun x c e=>by simp at e) e
 refine⟨I.ok.mod,(show scope.kind=.function from jD hf),I.ok.glob,I.ok.blt,Nat.le_refl _,fun x y c a b=>I.ok.inj x y c (sub a) (sub b),fun x hk=>?_,fun x c e=>(by cases e),I.ok.hd,I.ok.frames,.inl rfl,fun b hb=>⟨Nat.ne_of_lt (hx b hb).2,fun x c e=>(hx b hb).1.2.2.2.2.1 x c (sub e)⟩,I.bs,Nat.le_trans I.ok.Av I.sz,fun b o e hb=>?_,fun b hb hs=>?_,I.stack,I.xn⟩
 ·refine pX (.inr ?_)
  have Ip:(relabel scope X.env).names.lookup x=some .cell\/(relabel scope X.env).names.lookup x=some .free:=hk
  rw[kc] at Ip
  cases q:scope.names.lookup x with
  |none=>rw[q] at Ip;rcases Ip with z |z<;>cases z
  |some k=>
   have hm:=mem_of_lookup q
   by_cases ND:k=.free
   ·subst ND;exact hm
   ·rw[q] at Ip
    have hb:(k==NameKind.free)=false:=by simpa using ND
    simp only[Option.map_some,hb,Bool.false_and,Bool.false_eq_true,if_false,Option.some.injEq] at Ip
    rcases Ip with z |z
    ·exact absurd z (fits _ hm).1
    ·exact absurd z ND
 ·rcases(hx b hb).1.2.2.2.1 with z |z
  ·exact I.ok.Aw b o e z
  ·exact absurd (Nat.lt_of_lt_of_le (Heap.lt_size e) (Nat.le_trans I.ok.Av z)) (Nat.lt_irrefl _)
 ·rcases List.mem_cons.mp (I.sJ b hs) with z |z
  ·exact(hx b hb).1.2.1 z
  ·exact(hx b hb).1.2.2.1 z
theorem A1{scope:Scope}{own:List Str}{ix:List Nat}{ex:List Addr}{h':Heap}{tk:Nat}(I:Inv X pins σ H s)(hf:gY scope X.env.scope=true)(hc:pC scope X.env.scope X.N ix=true)(hx:∀b∈ex,my X pins H b/\b<s.heap.objs.size)
 (hn:h'.Ns s.heap.objs.size fun _=>none) (hk:∀b o,s.heap.get? b=some o->h'.get? b=some o):Inv (ip X scope own ix s.heap.objs.size s H ex) [] (List.replicate own.length none++A0 σ ix) H {s with heap:=h',toks:=tk}:=by
 have fits:=(ke hf)
 have mx:∀p∈scope.names,p.2=.free->∃c,X.env.cells.lookup p.1=some c:=fun p hp e=>I.ok.has p.1 ((fits p hp).2.1 e)
 have sub:∀ {x:Str} {c:Addr},(nJ X.env scope.names []).lookup x=some c->X.env.cells.lookup x=some c:=fun {x c} e=>mF mx (fun x c e=>by simp at e) e
 refine⟨DR I hf hx,rfl,I.bare,Un.kept hk,⟨_,hn,fun i x v e1 e2 e3=>?_⟩,fun x c e=>?_,I.c7.fresh (Nat.le_refl _),fun x c e=>I.j7 x c (sub e),fun p hp=>absurd (show p∈([]:List (Addr×Obj))++[] from hp) (by simp),I.c7.kept hk,?_⟩
 ·have e1:(own++xI X.N ix)[i]?=some x:=e1
  by_cases hi:i<own.length
  ·rw[List.getElem?_append_left (by simpa using hi),List.getElem?_replicate,if_pos hi] at e2
   cases e2
  ·have FF:own.length<=i:=Nat.le_of_not_lt hi
   rw[List.getElem?_append_right (by simpa using FF),List.length_replicate] at e2
   rw[List.getElem?_append_right FF] at e1
   unfold A0 at e2
   unfold xI at e1
   rw[List.getElem?_map] at e1 e2
   cases q:ix[i-own.length]? with
   |none=>rw[q] at e2;cases e2
   |some j=>
    rw[q] at e1 e2
    simp only[Option.map_some,Option.some.injEq] at e1 e2
    have hj:j∈ix:=List.mem_of_getElem? q
    have fit:=List.all_eq_true.mp hc j hj
    simp only[Bool.and_eq_true,Bool.or_eq_true,beq_iff_eq] at fit
    rw[e1] at fit
    have ej:σ[j]?=some (some v):=by
     rw[List.getD_eq_getElem?_getD] at e2
     cases r:σ[j]? with
     |none=>rw[r] at e2;cases e2
     |some z=>rw[r] at e2;simp only[Option.getD_some] at e2;rw[e2]
    have RZ:j<X.N.length:=by rw[<- I.len];exact(List.getElem?_eq_some_iff.mp ej).1
    have en:X.N[j]?=some x:=by
     rw[List.getD_eq_getElem?_getD] at e1
     rw[List.getElem?_eq_getElem RZ] at e1 ⊢
     simp only[Option.getD_some] at e1
     rw[e1]
    obtain⟨m,hm,hl⟩:=I.loc
    have hv:L4 X.env.scope x:=by
     rcases fit.2 with z |z
     ·exact .inr (.inl z)
     ·exact .inr (.inr z)
    obtain⟨u,r,l⟩:=hl j x v en ej hv
    refine⟨u,r,.inr ⟨?_,?_⟩⟩
    ·show (relabel scope X.env).names.lookup x=some .cell\/(relabel scope X.env).names.lookup x=some .free
     rw[kc,fit.1]
     simp only[Option.map_some]
     split
     ·exact .inl rfl
     ·exact .inr rfl
    ·rcases l with ⟨k1,_⟩ |⟨_,c,ec,xp⟩
     ·have k1:X.env.scope.names.lookup x=some .local:=k1
      rcases fit.2 with z |z<;>(rw[z] at k1;cases k1)
     ·obtain⟨c',e'⟩:∃c,(nJ X.env scope.names []).lookup x=some c:=pX (.inr (mem_of_lookup fit.1))
      have:=sub e'
      rw[ec] at this
      cases this
      exact⟨c,e',xp.keeps hk⟩
 ·obtain⟨v,z⟩:=I.cell x c (sub e)
  exact⟨v,z.keeps hk⟩
 ·show (List.replicate own.length none++A0 σ ix).length=(own++xI X.N ix).length
  simp[A0]
theorem comp_back{scope:Scope}{own:List Str}{ix:List Nat}{ex:List Addr}{τ:St}{H':Hp}{s':Shared}{ui:List (Addr×Obj)}(I:Inv X pins σ H s)(hx:∀b∈ex,my X pins H b/\b<s.heap.objs.size)
 (I':Inv (ip X scope own ix s.heap.objs.size s H ex) ui τ H' s'):Inv X pins σ H' s'/\H' s.heap.objs.size=none/\s.heap.objs.size≠X.env.locals/\X.s₀.heap.objs.size<=s.heap.objs.size/\(∀x c,X.env.cells.lookup x=some c->c≠s.heap.objs.size)/\∀p∈X.pn++pins,p.1≠s.heap.objs.size:=by
 refine⟨I.Jb (ch:=ex) I'.os I'.base I'.c7 I'.bare fun b hb=>?_,I'.free,Nat.ne_of_gt I.lt,I.sz,fun x c e z=>?_,fun p hp z=>?_⟩
 ·obtain⟨f0,f1,f2,f3,f4,f5⟩:=(hx b hb).1
  exact⟨f3,f1,f4,f5⟩
 ·obtain⟨v,q⟩:=I.cell x c e
  exact absurd q.lt (by rw[z];exact Nat.lt_irrefl _)
 ·exact absurd (Heap.lt_size (I.pin p hp).1) (by rw[z];exact Nat.lt_irrefl _)
end
def Iq (X:Cx) (ifs:List Expr) (t:TT):Prop:=
 ∀(pins:List (Addr×Obj)) (s:Shared) (σ:St) (H:Hp) (Q:Bool->Hp->Prop),Inv X pins σ H s->t σ H Q->
  wpAny (model X.prog X.w) X.A (forIn ifs true fun c r=>if r=true then do let ok <- isTrue c X.env (eval c X.env);pure (ForInStep.yield ok) else pure (ForInStep.yield r)) (TP X pins σ Q) X.xe s
def sW:TT:=fun _ H Q=>Q true H
theorem eK{X:Cx}:Iq X [] sW:=fun _ _ _ H _ I h=>wpAny_tests_nil ⟨H,I,h⟩
theorem DT{X:Cx}{c:Expr}{t:TT}(h:PT X c t):Iq X [c] t:=fun pins s σ H Q I q=>wpAny_tests_one (h pins s σ H Q I q)
def lp (J:It) (D:Addr) (g:TG) (tc:TT) (te:TE) (Q:VK) (τ:St) (H:Hp):Prop:=∃W:Nat->Nat->St->Hp->Prop,(∃m,W 0 m τ H)/\∀i m τ H,W i m τ H->
 (J.stop i H/\Q (.ref D) H)\/(J.go i H/\∃N:St->Hp->Prop,(∀τ' H',N τ' H'->∃m',m'<m/\W (i+1) m' τ' H')/\∀x H',J.xr i H x H'->g x τ H' fun τ2 H2=>tc τ2 H2 fun b H3=>if b=true then
  te τ2 H3 fun y H4=>∃ys,H4 D=some (.lst ys)/\ys.length<sizeLine/\N τ2 (upd H4 D (.lst (ys++[y]))) else N τ2 H3)
def gX (wi:TI) (k:Nat) (ix:List Nat) (g:TG) (tc:TT) (te:TE):TE:=fun σ H Q=>wi σ H fun J H1=>∀D,H1 D=none->lp J D g tc te Q (List.replicate k none++A0 σ ix) (upd H1 D (.lst []))
section
variable{X:Cx}{tg iter elt:Expr}{ifs:List Expr}{scope:Scope}{pos:Pos}{own:List Str}{ix:List Nat}{wi:TI}{g:TG}{tc:TT}{te:TE}
theorem zh{it D:Addr}{fp:List Addr}{tn:Nat->Heap->Prop}{J:It}{Q:VK}{R:Result->Shared->Prop}{s:Shared}{τ:St}{H:Hp}(oR:X.calm=true)(R0:X.xe=fun _ _=>False)(PX:X.pn=[])(T:Turn X.prog X.w X.K tg J fp it tn)
 (he:PE X elt te) (hg:PG X tg g) (ht:Iq X ifs tc) (I:Inv X [] τ H s) (PY:∀b∈fp,my X [] H b) (h0:tn 0 s.heap) (hW:lp J D g tc te Q τ H)
 (hR:∀τ' H' s',Inv X [] τ' H' s'->Q (.ref D) H'->R (.ok .next) s') :
 codeAny (model X.prog X.w) X.A (.compLoop (.ListComp elt [⟨tg,iter,ifs,0⟩] scope pos) 0 (.ref it) (.ref D) X.env) R s:=by
 obtain⟨W,⟨m0,w0⟩,turn⟩:=hW
 have no:∀ {E:Value->Shared->Prop} (e:Value) (s':Shared),X.xe e s'->E e s':=fun e s' z=>by rw[R0] at z;exact z.elim
 have stat:∀ {H':Hp},(∀b∈fp,H' b=none)->∀b∈fp,my X [] H' b:=fun hn b hb=>⟨hn b hb,(PY b hb).2⟩
 refine codeAny_loop rfl (fun n s'=>∃i τ' H',Inv X [] τ' H' s'/\tn i s'.heap/\(∀b∈fp,H' b=none)/\W i n τ' H') (fun n s3 hI=>?_) m0 ⟨0,τ,H,I,h0,fun b hb=>(PY b hb).1,w0⟩
 obtain⟨i,τ3,H3,I3,AG,Ji,w3⟩:=hI
 show wpAny _ X.A ((compTurn (.ListComp elt [⟨tg,iter,ifs,0⟩] scope pos) 0 (.ref it) (.ref D) X.env).onRaise (fun x=>do noteFrame x X.env;theTreesLotGoes x)) _ _ s3
 refine wpAny_noted ?_
 rw[compTurn_list]
 refine wpAny_bind (wpAny_standAt (wpAny_bind ?_))
 rcases turn i n τ3 H3 w3 with ⟨stop,q⟩ |⟨go,N,hN,step⟩
 ·refine wpAny_mono (T.done X rfl rfl rfl oR i [] s3 τ3 H3 X.xe I3 (stat Ji) AG stop) (fun r s4 zqz=>?_) no
  obtain⟨hr,I4⟩:=zqz
  subst hr
  exact wpAny_pure (hR τ3 H3 s4 I4 q)
 ·refine wpAny_mono (T.item X rfl rfl rfl oR i [] s3 τ3 H3 X.xe I3 (stat Ji) AG go) (fun r s4 zqz=>?_) no
  obtain⟨u,hr,h4⟩:=zqz
  subst hr
  refine wpAny_bind (wpAny_mono h4 (fun _ s5 zqz=>?_) no)
  obtain⟨x,H5,I5,r5,y5,GG,Nc⟩:=zqz
  have Nd:=I5.pinned (stat Nc) (T.obj _ _ GG)
  refine wpAny_bind (wpAny_mono (hg _ s5 τ3 H5 x u _ Nd r5 (step x H5 y5)) (fun _ s6 zqz=>?_) no)
  obtain⟨τ6,H6,I6,q6⟩:=zqz
  refine wpAny_bind (wpAny_mono (ht _ s6 τ6 H6 _ I6 q6) (fun b s7 zqz=>?_) no)
  obtain⟨H7,I7,q7⟩:=zqz
  have again:∀ {τ7:St} {H7:Hp} {s7:Shared},Inv X ([]++pN fp s5.heap) τ7 H7 s7->N τ7 H7->∃m,m<n/\∃i σ' H',Inv X [] σ' H' s7/\tn i s7.heap/\(∀b∈fp,H' b=none)/\W i m σ' H':=fun {τ7 H7 s7} I7 n7=>by
   obtain⟨m',hm,w7⟩:=hN τ7 H7 n7
   refine⟨m',hm,i+1,τ7,H7,I7.mz,T.keep _ _ _ GG fun b hb o e=>(I7.pin (b,o) (List.mem_append_right _ (List.mem_append_right _ (jw hb e)))).1,fun b hb=>?_,w7⟩
   obtain⟨o,e,d⟩:=T.obj _ _ GG b hb
   exact(I7.pin (b,o) (List.mem_append_right _ (List.mem_append_right _ (jw hb e)))).2.1
  cases b with
  |false=>exact wpAny_pure ⟨rfl,again I7 q7⟩
  |true=>
   refine wpAny_bind (wpAny_bind (wpAny_mono (he _ s7 τ6 H7 _ I7 q7) (fun v s8 ⟨y,H8,I8,r8,ys,hD,hl,q8⟩=>wpAny_bind ?_) no))
   refine wpAny_mono (fB _ s8 τ6 H8 (.ref D) [y] (.ref D) [v] (fun _ H'=>N τ6 H') I8 rfl (.cons r8 .nil) ⟨D,ys,y,rfl,rfl,hD,hl,q8⟩) (fun _ s9 zqz=>?_) no
   obtain⟨_,H9,I9,_,q9⟩:=zqz
   exact wpAny_pure (wpAny_pure ⟨rfl,again I9 q9⟩)
theorem uG{pins:List (Addr×Obj)}{s:Shared}{σ:St}{H:Hp}{Q:VK}{use:Option (Value->Sem Unit)}{Q':Value->Shared->Prop}(oR:X.calm=true)(hf:gY scope X.env.scope=true)(hc:pC scope X.env.scope X.N ix=true)
 (hi:PI X tg iter wi) (hg:∀C s₀ H₀ ex,PG (ip X scope own ix C s₀ H₀ ex) tg g) (ht:∀C s₀ H₀ ex,Iq (ip X scope own ix C s₀ H₀ ex) ifs tc) (he:∀C s₀ H₀ ex,PE (ip X scope own ix C s₀ H₀ ex) elt te)
 (I:Inv X pins σ H s) (h:gX wi own.length ix g tc te σ H Q)
 (hU:∀(D C:Addr) (H':Hp) (s':Shared) (m:Str->Option Value),Inv X pins σ H' s'->Q (.ref D) H'->s'.heap.Ns C m->H' C=none->C≠X.env.locals->X.s₀.heap.objs.size<=C->(∀x c,X.env.cells.lookup x=some c->c≠C)->(∀p∈X.pn++pins,p.1≠C)->compPost (model X.prog X.w) X.A X.xe use Q' (.ref D) C (.ok .next) s')
 (hs:∀x,foldedSetIterable iter X.env x=pure x) :
 wpAny (model X.prog X.w) X.A (comprehension (.ListComp elt [⟨tg,iter,ifs,0⟩] scope pos) scope X.env (firstIterPos [⟨tg,iter,ifs,0⟩] pos) (newList []) false (eval iter X.env) use) Q' X.xe s:=by
 have fits:=(ke hf)
 have mx:∀p∈scope.names,p.2=.free->∃c,X.env.cells.lookup p.1=some c:=fun p hp e=>I.ok.has p.1 ((fits p hp).2.1 e)
 refine wpAny_comprehension_free (use:=use) rfl hs (o7 mx) (jD hf) (fun x hx=>(fits x hx).2.2) ?_
 refine eF (hi pins s σ H _ I h) fun v s1 h1=>eF h1 fun Nb s2 h2=>?_
 obtain⟨it,fp,tn,J,H2,e,I2,T,DA,f2,hW⟩:=h2
 subst e
 refine wpAny_newObj_type (hd:=by size_fits) ?_
 have hD:H2 s2.heap.objs.size=none:=I2.c7.fresh (Nat.le_refl _)
 have I3:Inv X pins σ (upd H2 s2.heap.objs.size (.lst [])) {s2 with heap:=s2.heap.push {cls:=.type "list",dict:=none,data:=.seq ([]:List Value).toArray} }:=
  I2.laid (t':=s2.toks) (fun b u e=>Heap.get?_push_of_some _ e) (Nat.le_refl _) ⟨Nat.zero_le _,[],0,.nil,Heap.get?_push_size _ rfl⟩
 have W3:=hW s2.heap.objs.size hD
 have PZ:∀b∈fp,b<s2.heap.objs.size:=fun b hb=>let ⟨o,e,_⟩:=T.obj _ _ DA b hb;Heap.lt_size e
 have JS:∀b∈fp,my X pins (upd H2 s2.heap.objs.size (.lst [])) b/\b<(s2.heap.push {cls:=.type "list",dict:=none,data:=.seq ([]:List Value).toArray}).objs.size:=fun b hb=>
  ⟨⟨by rw[aF (Nat.ne_of_lt (PZ b hb))];exact(f2 b hb).1,(f2 b hb).2⟩,by rw[Heap.size_push];exact Nat.lt_succ_of_lt (PZ b hb)⟩
 have AG:tn 0 (s2.heap.push {cls:=.type "list",dict:=none,data:=.seq ([]:List Value).toArray}):=T.keep _ _ _ DA fun b _ o e=>Heap.get?_push_of_some _ e
 generalize qK:({s2 with heap:=s2.heap.push {cls:=.type "list",dict:=none,data:=.seq ([]:List Value).toArray} }:Shared)=s3 at I3
 generalize UR:upd H2 s2.heap.objs.size (.lst [])=H3 at I3 W3 JS
 have eh:s2.heap.push {cls:=.type "list",dict:=none,data:=.seq ([]:List Value).toArray}=s3.heap:=by rw[<- qK]
 rw[eh] at JS AG
 refine wpAny_newFunctionEnv (fun x hx=>(fits x hx).1) (by intro y hy;simp at hy) (fun h4 Mb R1=>?_) (jD hf)
 have kept:∀b o,s3.heap.get? b=some o->h4.get? b=some o:=fun b o e=>R1.extBut b o (Nat.ne_of_lt (Heap.lt_size e)) (Heap.get?_push_of_some _ e)
 have I4:=A1 (own:=own) (tk:=s3.toks+([]:List (Str×Value)).length) I3 hf hc JS Mb kept
 have R3:∀b∈fp,my (ip X scope own ix s3.heap.objs.size s3 H3 fp) [] H3 b:=fun b hb=>by
  obtain⟨⟨f0,f1,R4,f3,f4,f5⟩,lt⟩:=JS b hb
  refine⟨f0,Nat.ne_of_lt lt,fun z=>?_,.inl hb,fun x c e=>f4 x c (mF mx (fun x c e=>by simp at e) e),fun p hp=>absurd (show p∈([]:List (Addr×Obj))++[] from hp) (by simp)⟩
  rcases List.mem_cons.mp (I3.sJ b z) with z |z
  ·exact f1 z
  ·exact R4 z
 have Ir:tn 0 h4:=T.keep _ _ _ AG fun b _ o e=>kept b o e
 have loop:=zh (X:=ip X scope own ix s3.heap.objs.size s3 H3 fp) (iter:=iter) (scope:=scope) (pos:=pos) (R:=compPost (model X.prog X.w) X.A X.xe use Q' (.ref s2.heap.objs.size) s3.heap.objs.size) oR rfl rfl T (he _ _ _ _) (hg _ _ _ _) (ht _ _ _ _) I4 R3 Ir W3
  (fun τ' H' s' I' q=>by
   obtain⟨J1,J2,J3,J4,J5,J6⟩:=comp_back I3 JS I'
   obtain⟨m,hm,_⟩:=I'.loc
   exact hU _ _ H' s' m J1 q hm J2 J3 J4 J5 J6)
 exact codeAny_compStart_list loop (T.self X.A 0 _ _ _ Ir loop)
theorem gv(oR:X.calm=true)(hf:gY scope X.env.scope=true)(hc:pC scope X.env.scope X.N ix=true)
 (hi:PI X tg iter wi) (hg:∀C s₀ H₀ ex,PG (ip X scope own ix C s₀ H₀ ex) tg g) (ht:∀C s₀ H₀ ex,Iq (ip X scope own ix C s₀ H₀ ex) ifs tc) (he:∀C s₀ H₀ ex,PE (ip X scope own ix C s₀ H₀ ex) elt te)
 (hs:∀x,foldedSetIterable iter X.env x=pure x:=by intro _;rfl):PE X (.ListComp elt [⟨tg,iter,ifs,0⟩] scope pos) (gX wi own.length ix g tc te):=by
 intro pins s σ H Q I h
 rw[eval_ListComp]
 refine uG (use:=none) oR hf hc hi hg ht he I h (fun D C H' s' m I' q hm n1 n2 n3 n4 n5=>?_) hs
 refine⟨m,hm,fun h' sb=>⟨.ref D,H',?_,rfl,q⟩⟩
 exact I'.turned (t':=s'.toks) (it:=C) (fun b o hb e=>sb.extBut b o hb e) n1 (Ne.symm (Ne.symm n2)) (.inr n3) n4 n5
theorem pE{i:Nat}{y:Str}{py JT:Pos}(hN:X.N.Nodup)(R5:X.N[i]?=some y)(hy:Loc X.env.scope y)(oR:X.calm=true)(hf:gY scope X.env.scope=true)(hc:pC scope X.env.scope X.N ix=true)
 (hi:PI X tg iter wi) (hg:∀C s₀ H₀ ex,PG (ip X scope own ix C s₀ H₀ ex) tg g) (ht:∀C s₀ H₀ ex,Iq (ip X scope own ix C s₀ H₀ ex) ifs tc) (he:∀C s₀ H₀ ex,PE (ip X scope own ix C s₀ H₀ ex) elt te)
 (R6:swapsWith (.ListComp elt [⟨tg,iter,ifs,0⟩] scope pos) (some (.Name y py)) JT.line X.env=pure true:=by rfl)
 (hs:∀x,foldedSetIterable iter X.env x=pure x:=by intro _;rfl) (I0:X.fn y=true\/X.env.scope.names.lookup y=some .local:=by first |exact .inl rfl |exact .inr rfl |assumption) :
 PS X (.Assign [.Name y py] (.ListComp elt [⟨tg,iter,ifs,0⟩] scope pos) JT) (AE (gX wi own.length ix g tc te) (il i)):=by
 intro pins s σ H D I h
 rw[exec_Assign_Name_used _ _ _ _ R6]
 refine wpAny_bind (wpAny_standAt (wpAny_bind ?_))
 show wpAny _ _ (do let _ <- comprehension (.ListComp elt [⟨tg,iter,ifs,0⟩] scope pos) scope X.env _ (newList []) false (eval iter X.env) (some (assign (.Name y py) X.env))) _ _ s
 refine wpAny_bind (wpAny_mono (uG (use:=some (assign (.Name y py) X.env)) (Q':=fun _ s'=>SP X pins D .next s') oR hf hc hi hg ht he I h (fun L C H' s' m I' q hm n1 n2 n3 n4 n5=>?_) hs) (fun _ s' hq=>wpAny_pure (wpAny_pure hq)) fun _ _ e=>e)
 show wpAny _ _ (assign (.Name y py) X.env (.ref L)) _ _ _
 refine wpAny_assign_Name (rK I' hN R5 hy (v:=.ref L) rfl (fun s2 I2 zqz=>?_) I0)
 obtain⟨a,sb,ha⟩:=zqz
 have R7:C≠a:=by
  rcases ha with rfl |ha
  ·exact n2
  ·exact fun z=>n4 y a ha z.symm
 refine⟨m,hm.sameBut sb R7,fun h' R8=>⟨_,H',?_,q⟩⟩
 exact I2.turned (t':=s2.toks) (it:=C) (fun b o hb e=>R8.extBut b o hb e) n1 n2 (.inr n3) n4 n5
end
end L2
namespace L2
open PySem PySem.Spec PyProof.Rows
inductive Dp where
 |c6 |bl (b:Bool) |int (i:Int) |str (x:Str) |tup (l:List Dp) |lst (l:List Dp)
mutual
def Rep (K:PySem.W.Frag) (H:Hp):Dp->V->Prop
 |.c6,v=>v=.c6
 |.bl b,v=>v=.bl b
 |.int i,v=>v=.int i
 |.str x,v=>v=.str x
 |.tup l,v=>∃a xs,v=.ref a/\bR K H a xs/\aC K H l xs
 |.lst l,v=>∃a xs,v=.ref a/\eD K H a xs/\aC K H l xs
def aC (K:PySem.W.Frag) (H:Hp):List Dp->List V->Prop
 |[],vs=>vs=[]
 |d::ds,vs=>∃v r,vs=v::r/\Rep K H d v/\aC K H ds r
end
mutual
def Dp.deep:Dp->Nat
 |.tup l=>Dp.A2 l+1
 |.lst l=>Dp.A2 l+1
 |_=>0
def Dp.A2:List Dp->Nat
 |[]=>0
 |d::ds=>max d.deep (Dp.A2 ds)
end
theorem ao.bL{K:PySem.W.Frag}{H H':Hp}{a:Addr}{xs:List V}(e:ao H H')(h:bR K H a xs):bR K H' a xs:=by
 rcases h with (h |⟨o,h⟩) |h
 ·exact .inl (.inl (e _ _ h))
 ·exact .inl (.inr ⟨o,e _ _ h⟩)
 ·exact .inr h
mutual
theorem Rep.mono{K:PySem.W.Frag}{H H':Hp}(e:ao H H'):∀ {d:Dp} {v:V},Rep K H d v->Rep K H' d v
 |.c6,_,h=>h
 |.bl _,_,h=>h
 |.int _,_,h=>h
 |.str _,_,h=>h
 |.tup l,_,h=>by
  unfold Rep at h ⊢
  obtain⟨a,xs,e1,e2,e3⟩:=h
  exact⟨a,xs,e1,e.bL e2,aC.mono e e3⟩
 |.lst l,_,h=>by
  unfold Rep at h ⊢
  obtain⟨a,xs,e1,e2,e3⟩:=h
  exact⟨a,xs,e1,e.seq e2,aC.mono e e3⟩
theorem aC.mono{K:PySem.W.Frag}{H H':Hp}(e:ao H H'):∀ {ds:List Dp} {vs:List V},aC K H ds vs->aC K H' ds vs
 |[],_,h=>h
 |d::ds,_,h=>by
  unfold aC at h ⊢
  obtain⟨v,r,e1,e2,e3⟩:=h
  exact⟨v,r,e1,Rep.mono e e2,aC.mono e e3⟩
end
theorem aC.length{K:PySem.W.Frag}{H:Hp}:∀ {ds:List Dp} {vs:List V},aC K H ds vs->vs.length=ds.length
 |[],_,h=>by unfold aC at h;rw[h];rfl
 |d::ds,_,h=>by
  unfold aC at h
  obtain⟨v,r,e1,_,e3⟩:=h
  rw[e1,List.length_cons,List.length_cons,aC.length e3]
theorem aC.get{K:PySem.W.Frag}{H:Hp}:∀ {ds:List Dp} {vs:List V} {i:Nat} {d:Dp},aC K H ds vs->ds[i]?=some d->∃v,vs[i]?=some v/\Rep K H d v
 |[],_,_,_,_,e=>by simp at e
 |d::ds,_,0,_,h,e=>by
  unfold aC at h
  obtain⟨v,r,e1,e2,e3⟩:=h
  simp only[List.getElem?_cons_zero,Option.some.injEq] at e
  subst e
  exact⟨v,by rw[e1];rfl,e2⟩
 |d::ds,_,i+1,d',h,e=>by
  unfold aC at h
  obtain⟨v,r,e1,e2,e3⟩:=h
  rw[List.getElem?_cons_succ] at e
  obtain⟨v',h1,h2⟩:=aC.get e3 e
  exact⟨v',by rw[e1,List.getElem?_cons_succ];exact h1,h2⟩
theorem aC.append{K:PySem.W.Frag}{H:Hp}:∀ {ds es:List Dp} {vs us:List V},aC K H ds vs->aC K H es us->aC K H (ds++es) (vs++us)
 |[],_,_,_,h,h'=>by unfold aC at h;rw[h];exact h'
 |d::ds,_,_,_,h,h'=>by
  unfold aC at h
  obtain⟨v,r,e1,e2,e3⟩:=h
  rw[e1]
  show aC K H (d::(ds++_)) (v::(r++_))
  unfold aC
  exact⟨v,_,rfl,e2,aC.append e3 h'⟩
theorem aC.nil{K:PySem.W.Frag}{H:Hp}:aC K H [] []:=by unfold aC;rfl
theorem aC.cons{K:PySem.W.Frag}{H:Hp}{d:Dp}{ds:List Dp}{v:V}{vs:List V}(h:Rep K H d v)(h':aC K H ds vs):aC K H (d::ds) (v::vs):=by unfold aC;exact⟨v,vs,rfl,h,h'⟩
theorem Rep.aQ{K:PySem.W.Frag}{H:Hp}{l:List Dp}{v:V}:Rep K H (.tup l) v↔∃a xs,v=.ref a/\bR K H a xs/\aC K H l xs:=by unfold Rep;exact Iff.rfl
theorem Rep.bF{K:PySem.W.Frag}{H:Hp}{l:List Dp}{v:V}:Rep K H (.lst l) v↔∃a xs,v=.ref a/\eD K H a xs/\aC K H l xs:=by unfold Rep;exact Iff.rfl
theorem Rep.aY{K:PySem.W.Frag}{H:Hp}{i:Int}{v:V}:Rep K H (.int i) v↔v=.int i:=by unfold Rep;exact Iff.rfl
theorem Rep.bu{K:PySem.W.Frag}{H:Hp}{x:Str}{v:V}:Rep K H (.str x) v↔v=.str x:=by unfold Rep;exact Iff.rfl
theorem Rep.lS{K:PySem.W.Frag}{H:Hp}{b:Bool}{v:V}:Rep K H (.bl b) v↔v=.bl b:=by unfold Rep;exact Iff.rfl
theorem Rep.kW{K:PySem.W.Frag}{H:Hp}{v:V}:Rep K H .c6 v↔v=.c6:=by unfold Rep;exact Iff.rfl
theorem aC.aV{K:PySem.W.Frag}{H:Hp}{vs:List V}:aC K H [] vs↔vs=[]:=by unfold aC;exact Iff.rfl
theorem aC.az{K:PySem.W.Frag}{H:Hp}{d:Dp}{ds:List Dp}{vs:List V}:aC K H (d::ds) vs↔∃v r,vs=v::r/\Rep K H d v/\aC K H ds r:=by conv=>lhs;unfold aC
theorem ao.new{H:Hp}{p:Addr}(h:H p=none)(o:HO):ao H (upd H p o):=fun b u q=>by rw[aF (aB q h)];exact q
section
variable{X:Cx}{pins:List (Addr×Obj)}{σ:St}{H:Hp}{s:Shared}
end
section
variable{X:Cx}
def FG (K:PySem.W.Frag) (b:Bool):R2:=fun x y H Q=>∃d,Rep K H d x/\Rep K H d y/\d.deep<=150/\Q (.bl b) H
end
section
variable{X:Cx}
def JU (i j:Int):Prop:=i.natAbs<2 ^ 4000/\j.natAbs<2 ^ 4000
theorem bits_le{i:Int}(h:i.natAbs<2 ^ 4000):Builtin.Int.intBits i<=2 ^ 20:=Nat.le_trans (intBits_le h) (by decide)
theorem fh:nj X (binaryOp .Mult) (rI JU fun i j=>.int (i*j)):=Jk fun _ _ _ _ _ _ _ hc q=>mul_int q (IntMulOk.of_bits (bits_le hc.1) (bits_le hc.2))
theorem uH:gW X (.builtin "isinstance") (fun xs H Q=>∃x T t b,xs=[x,.ty T]/\nI X.K H x t/\PySem.W.kitOne X.K t (.type T)=some b/\Q (.bl b) H):=by
 intro pins s σ H xs us Q I r h
 obtain⟨x,T,t,b,rfl,ty,e,q⟩:=h
 obtain⟨u1,u2,rfl,r1,r2⟩:=vals2 r
 cases (show u2=Value.type T from r2)
 exact yZ I r1 ty e fun tk=>⟨.bl b,H,I.tok tk,rfl,q⟩
end
structure b8(K:PySem.W.Frag)(mg:Str->Option Value)(x:Str)(st:Stmt)(ps:List Str)(f:Addr)(fd:FuncData):Prop where
 F:Dj K x x st f fd
 b:Binds K fd ps []
 m:mg x=some (.ref f)
end L2
namespace L2
open PySem PySem.Spec PyProof.Rows
theorem JV{g:Int->Int->V}{i j:Int}{H:Hp}{Q:VK}:DC g (.int i) (.int j) H Q↔Q (g i j) H:=⟨fun ⟨_,_,e1,e2,q⟩=>by cases e1;cases e2;exact q,fun q=>⟨_,_,rfl,rfl,q⟩⟩
theorem NF{C:Int->Int->Prop}{g:Int->Int->V}{i j:Int}{H:Hp}{Q:VK}:rI C g (.int i) (.int j) H Q↔C i j/\Q (g i j) H:=⟨fun ⟨_,_,e1,e2,c,q⟩=>by cases e1;cases e2;exact⟨c,q⟩,fun q=>⟨_,_,rfl,rfl,q⟩⟩
theorem A3{a:V}{r:St}{H:Hp}{Q:VK}:(fo 0 (some a::r) H Q)=(Q a H):=rfl
theorem A4{a:Option V}{r:St}{H:Hp}{Q:VK}:(fo 1 (a::r) H Q)=(fo 0 r H Q):=rfl
theorem A5{a:Option V}{r:St}{H:Hp}{Q:VK}:(fo 2 (a::r) H Q)=(fo 1 r H Q):=rfl
theorem A6{a:Option V}{r:St}{H:Hp}{Q:VK}:(fo 3 (a::r) H Q)=(fo 2 r H Q):=rfl
theorem A7{a:Option V}{r:St}{H:Hp}{Q:VK}:(fo 4 (a::r) H Q)=(fo 3 r H Q):=rfl
theorem A8{a:Option V}{r:St}{H:Hp}{Q:VK}:(fo 5 (a::r) H Q)=(fo 4 r H Q):=rfl
theorem A9{a:Option V}{r:St}{H:Hp}{Q:VK}:(fo 6 (a::r) H Q)=(fo 5 r H Q):=rfl
theorem Ba{a:Option V}{r:St}{H:Hp}{Q:VK}:(fo 7 (a::r) H Q)=(fo 6 r H Q):=rfl
theorem Bb{a:Option V}{r:St}{H:Hp}{Q:VK}:(fo 8 (a::r) H Q)=(fo 7 r H Q):=rfl
theorem Bc{a:Option V}{r:St}{H:Hp}{Q:VK}:(fo 9 (a::r) H Q)=(fo 8 r H Q):=rfl
theorem JW{v:V}{σ:St}{H:Hp}{Q:VK}:(tC v σ H Q)=(Q v H):=rfl
theorem FI{r:R2}{ta tb:TE}{σ:St}{H:Hp}{Q:VK}:(Jj r ta tb σ H Q)=(ta σ H fun x H1=>tb σ H1 fun y H2=>r x y H2 Q):=rfl
theorem JX{b:Bool}{p:Bool->Prop}:(∃k,V.bl b=.bl k/\p k)↔p b:=⟨fun ⟨_,e,q⟩=>by cases e;exact q,fun q=>⟨_,rfl,q⟩⟩
theorem G3{b:Int}{p:Int->Prop}:(∃k,V.int b=.int k/\p k)↔p b:=⟨fun ⟨_,e,q⟩=>by cases e;exact q,fun q=>⟨_,rfl,q⟩⟩
theorem G4{b:Addr}{p:Addr->Prop}:(∃k,V.ref b=.ref k/\p k)↔p b:=⟨fun ⟨_,e,q⟩=>by cases e;exact q,fun q=>⟨_,rfl,q⟩⟩
theorem xJ{t:TE}{σ:St}{H:Hp}{Q:Bool->Hp->Prop}:(xy t σ H Q)=(t σ H fun x H'=>∃k,x=.bl k/\Q k H'):=rfl
theorem FJ{x y:V}{H:Hp}{Q:VK}:(PJ x y H Q)=(yV x y=true/\Q (.bl (decide (x=y))) H):=rfl
theorem FK{x y:V}{H:Hp}{Q:VK}:(PK x y H Q)=(yV x y=true/\Q (.bl (!decide (x=y))) H):=rfl
theorem G5{i j:Int}:(V.int i=V.int j)=(i=j):=by simp
theorem G6{i j:Str}:(V.str i=V.str j)=(i=j):=by simp
theorem DU{c:Prop}[Decidable c]{A B:Prop}:(if decide c=true then A else B)↔if c then A else B:=by simp
theorem Bd{c:Prop}[Decidable c]{A B:Prop}:(if (!decide c)=true then A else B)↔if c then B else A:=by by_cases h:c<;>simp[h]
theorem aG{K:PySem.W.Frag}{p:Addr}{i:Int}{H:Hp}{Q:VK}{xs:List V}{v:V}(h:bR K H p xs)(hv:uy xs i=some v)(q:Q v H):uz K (.ref p) (.int i) H Q:=⟨p,xs,i,v,rfl,rfl,h,hv,q⟩
theorem bI{K:PySem.W.Frag}{p:Addr}{i:Int}{H:Hp}{Q:VK}{xs:List V}{v:V}(h:eD K H p xs)(hv:uy xs i=some v)(q:Q v H):AQ K (.ref p) (.int i) H Q:=⟨p,xs,i,v,rfl,rfl,h,hv,q⟩
section
variable{P:Program}{w:World}{K:PySem.W.Frag}{mg:Str->Option Value}{base:Heap}
theorem Dj.j4{x qual:Str}{st:Stmt}{f:Addr}{fd:FuncData}{N ps:List Str}{k:Nat}{sp:Sp}(F:Dj K x qual st f fd)(S:bj N ps (aK st))(len:∀vs H Q E,sp vs H Q E->vs.length=ps.length)
 (ux:∀(eE:Value) (A:Around) (outer:List Env) (s:Shared) (H:Hp) (vs:List V) (Q:VK) (E:XK),fW k (A.deeper (envOfC qual (aK st) s.heap.objs.size f eE))->sp vs H Q E->
  ∃t σ,yP (qS eY P w K mg base N qual (aK st) f eE A outer s H E).Jf (gu st) t/\L2.start N vs=σ/\t {nx:=fun _ H'=>Q .c6 H',rt:=Q} σ H):bJ P w K mg base eY (k+1) f fd ps sp:=
 F.ok S len fun eE A outer s H vs Q E hr h=>let ⟨t,_,h1,h2,h3⟩:=ux eE A outer s H vs Q E hr h;⟨t,h1,by rw[h2];exact h3⟩
end
theorem xK{sp:Sp}{qQ:List V}{E:XK}{t:TA}{σ:St}{H:Hp}{Q:VK}:(Fx sp qQ E t σ H Q)=(t σ H fun vs H1=>sp (vs++qQ) H1 Q E):=rfl
theorem xM{ta:TE}{tr:TA}{σ:St}{H:Hp}{Q:List V->Hp->Prop}:(Fw ta tr σ H Q)=(ta σ H fun x H1=>tr σ H1 fun xs H2=>Q (x::xs) H2):=rfl
theorem Be{σ:St}{H:Hp}{Q:List V->Hp->Prop}:(Jr σ H Q)=(Q [] H):=rfl
theorem Bf{t:TA}{σ:St}{H:Hp}{Q:VK}:(Js t σ H Q)=(t σ H fun xs H1=>xs.length<=sizeLine/\∀p,H1 p=none->Q (.ref p) (upd H1 p (.tup xs))):=rfl
theorem Bg{t:TA}{σ:St}{H:Hp}{Q:VK}:(Jt t σ H Q)=(t σ H fun xs H1=>xs.length<=sizeLine/\∀p,H1 p=none->Q (.ref p) (upd H1 p (.lst xs))):=rfl
theorem DV{n:Nat}(h:n<=1000):n<=sizeLine:=Nat.le_of_lt (ze h)
theorem ao.NG{H H1:Hp}(s:ao H H1){p:Addr}(h:H1 p=none)(o:HO):ao H (upd H1 p o):=s.trans (ao.new h o)
theorem Rep.new{K:PySem.W.Frag}{H:Hp}{p:Addr}{vs:List V}{ds:List Dp}(h:H p=none)(r:aC K H ds vs):Rep K (upd H p (.tup vs)) (.tup ds) (.ref p):=Rep.aQ.mpr ⟨p,vs,rfl,.of aj,r.mono (ao.new h _)⟩
theorem DW{i j:Int}:yV (.int i) (.int j)=true:=rfl
theorem DX{i j:Str}:yV (.str i) (.str j)=true:=rfl
theorem DY{n:Nat}(h:n<=1000):(n<=sizeLine)=True:=eq_true (DV h)
theorem Bh{i j:Int}:(Jm i j)=(0<j/\j<1073741824):=rfl
theorem Bi{CX:t9}{P:Program}{w:World}{K:PySem.W.Frag}{mg:Str->Option Value}{base:Heap}{N:List Str}{qual:Str}{scope:Scope}{f:Addr}{cd:Value}{A:Around}{outer:List Env}{s:Shared}{H:Hp}{E:XK}:(qS CX P w K mg base N qual scope f cd A outer s H E).K=K:=rfl
theorem xN{X:Cx}{scope:Scope}{own:List Str}{ix:List Nat}{C:Addr}{s₀:Shared}{H₀:Hp}{ex:List Addr}:(ip X scope own ix C s₀ H₀ ex).K=X.K:=rfl
theorem mulR{z b:Int}(h1 : -18446744073709551616<b)(h2:b<18446744073709551616):DE z b:=.inr ⟨h1,h2⟩
theorem G7{a b:Expr}{op:Operator}{pos:Pos}:mD (.BinOp a op b pos):=fun _ _=>rfl
theorem sX{x:Str}{pos:Pos}:mD (.Name x pos):=fun _ _=>rfl
theorem ai{c:Const}{k:Nat}{pos:Pos}:mD (.Constant c k pos):=fun _ _=>rfl
theorem c9{f:Expr}{as:List Expr}{ks:List Keyword}{pos:Pos}:mD (.Call f as ks pos):=fun _ _=>rfl
theorem bG{a b:Expr}{op:Operator}{pos:Pos}{es:List Expr}{env:Env}:starEach (.BinOp a op b pos::es) env=(false,eval (.BinOp a op b pos) env)::starEach es env:=rfl
theorem ae{x:Str}{pos:Pos}{es:List Expr}{env:Env}:starEach (.Name x pos::es) env=(false,eval (.Name x pos) env)::starEach es env:=rfl
theorem aR{c:Const}{k:Nat}{pos:Pos}{es:List Expr}{env:Env}:starEach (.Constant c k pos::es) env=(false,eval (.Constant c k pos) env)::starEach es env:=rfl
theorem aO{a b:Expr}{pos:Pos}{es:List Expr}{env:Env}:starEach (.Subscript a b pos::es) env=(false,eval (.Subscript a b pos) env)::starEach es env:=rfl
theorem bo{f:Expr}{as:List Expr}{ks:List Keyword}{pos:Pos}{es:List Expr}{env:Env}:starEach (.Call f as ks pos::es) env=(false,eval (.Call f as ks pos) env)::starEach es env:=rfl
theorem xO{a:Expr}{op:UnaryOp}{pos:Pos}{es:List Expr}{env:Env}:starEach (.UnaryOp op a pos::es) env=(false,eval (.UnaryOp op a pos) env)::starEach es env:=rfl
theorem DZ{a:Expr}{x:Str}{pos:Pos}{es:List Expr}{env:Env}:starEach (.Attribute a x pos::es) env=(false,eval (.Attribute a x pos) env)::starEach es env:=rfl
theorem nK{as:List Expr}{pos:Pos}{es:List Expr}{env:Env}:starEach (.List as pos::es) env=(false,eval (.List as pos) env)::starEach es env:=rfl
theorem cy{as:List Expr}{k}{pos:Pos}{es:List Expr}{env:Env}:starEach (.Tuple as k pos::es) env=(false,eval (.Tuple as k pos) env)::starEach es env:=rfl
theorem iq{a:Expr}{ops:List CmpOp}{cs:List Expr}{pos:Pos}{es:List Expr}{env:Env}:starEach (.Compare a ops cs pos::es) env=(false,eval (.Compare a ops cs pos) env)::starEach es env:=rfl
theorem jE{a:Expr}{gs:List Comprehension}{sc:Scope}{pos:Pos}{es:List Expr}{env:Env}:starEach (.ListComp a gs sc pos::es) env=(false,eval (.ListComp a gs sc pos) env)::starEach es env:=rfl
def Bj:Expr->Option V
 |.Constant (.int i) _ _=>some (.int i)
 |.Constant (.str x) _ _=>some (.str x)
 |.Constant (.bool b) _ _=>some (.bl b)
 |.Constant .none _ _=>some .c6
 |_=>none
def Bk (vs:List V):TA:=fun _ H Q=>Q vs H
theorem fC{X:Cx}:∀ {es:List Expr} {vs:List V},es.map Bj=vs.map some->PA X es (Bk vs)
 |[],[],_=>ag
 |[],_::_,h=>by cases h
 |_::_,[],h=>by cases h
 |e::es,v::vs,h=>by
  rw[List.map_cons,List.map_cons] at h
  injection h with h1 h2
  have ih:=fC (X:=X) h2
  have one:∀ {e:Expr} {v:V},PE X e (tC v)->(starEach (e::es) X.env=(false,eval e X.env)::starEach es X.env)->PA X (e::es) (Bk (v::vs)):=fun he hs pos pins s σ H Q I q=>aa he ih hs pos pins s σ H Q I q
  unfold Bj at h1
  split at h1
  ·cases h1;exact one ah aR
  ·cases h1;exact one bf aR
  ·cases h1;exact one um aR
  ·cases h1;exact one nC aR
  ·cases h1
theorem xP{vs:List V}{σ:St}{H:Hp}{Q:List V->Hp->Prop}:(Bk vs σ H Q)=(Q vs H):=rfl
theorem xQ{td ty:TE}{σ:St}{H:Hp}{Q:VK}:(FD td ty σ H Q)=(td σ H fun x H1=>ty σ H1 fun y H2=>∃a v,x=.ref a/\mE H2 a y (some v)/\Q v H2):=rfl
theorem uI{σ:St}{H:Hp}{Q:VK}:(G2 σ H Q)=(∀p,H p=none->Q (.ref p) (upd H p (.dK []))):=rfl
theorem xR{td ty tv:TE}{D:Ends}{σ:St}{H:Hp}:(FE td ty tv D σ H)=(tv σ H fun v H1=>td σ H1 fun x H2=>ty σ H2 fun y H3=>∃a H4,x=.ref a/\sV H3 a y v H4/\D.nx σ H4):=rfl
theorem FL{r:List V->Hp->VK->Prop}{t:TA}{σ:St}{H:Hp}{Q:VK}:(Ni r t σ H Q)=(t σ H fun vs H1=>r vs H1 Q):=rfl
theorem JY{t:TE}{σ:St}{H:Hp}{Q:Bool->Hp->Prop}:(tB t σ H Q)=(t σ H fun x H1=>∃c,x=.bl c/\Q c H1):=rfl
theorem Bl{t:TT}{σ:St}{H:Hp}{Q:Bool->Hp->Prop}:(Jd t σ H Q)=(t σ H fun c H1=>Q (!c) H1):=rfl
theorem mE.s{H:Hp}{a:Addr}{aJ:List (Key×V)}{x:Str}{v:V}(e:H a=some (.dK aJ))(h:cN aJ (Sum.inr x)=some v):mE H a (.str x) (some v):=by
 have:=mE.k (k:=Sum.inr x) e
 rw[h] at this
 exact this
end L2
namespace PM
abbrev W:=List Nat
inductive Tr where
 |num (n:Int) |box (x:W) |bin (o:W) (l r:Tr)
 deriving DecidableEq
def isLetter (c:Nat):Bool:=decide (97<=c)&&decide (c<=122)
def uJ (c:Nat):Bool:=decide (48<=c)&&decide (c<=57)
def kind (c:Nat):Nat:=if isLetter c then 0 else if uJ c then 1 else 2
def pY (st:List W×Nat) (c:Nat):List W×Nat:=
 if kind c≠2/\kind c=st.2 then (st.1.dropLast++[st.1.getLastD []++[c]],kind c) else (st.1++[[c]],kind c)
def Bm (w:W):List W×Nat:=w.foldl pY ([],3)
def pieces (w:W):List W:=(Bm w).1
def D0:List W:=[[98,111,120],[97,115,107],[112,117,116],[115,97,121],[105,102],[101,108,115,101],[119,104,105,108,101],[109,117,115,116],[115,116,111,112],[101,110,100]]
def isName (p:W):Bool:=decide (1<=p.length)&&decide (p.length<=8)&&p.all isLetter && !D0.contains p
def isNumber (p:W):Bool:=decide (1<=p.length)&&decide (p.length<=3)&&p.all uJ&&(decide (p=[48]) || !decide (p.head?=some 48))
def nL (p:W):Int:=p.foldl (fun (a:Int) (c:Nat)=>a*10+((c:Int)-48)) 0
abbrev P:=List W->Option (Tr×List W)
def xS (sub:P):P
 |[]=>none
 |p::r=>if isNumber p then some (.num (nL p),r) else if isName p then some (.box p,r) else if p=[40] then
  (match sub r with
  |some (e,q::r')=>if q=[41] then some (e,r') else none
  |_=>none) else none
theorem vZ(sub:P)(p:W)(r:List W):xS sub (p::r)=if isNumber p then some (.num (nL p),r) else if isName p then some (.box p,r) else if p=[40] then
 (match sub r with
 |some (e,q::r')=>if q=[41] then some (e,r') else none
 |_=>none) else none:=rfl
def uK (ops:List W) (f:P):Nat->Tr->List W->Option (Tr×List W)
 |0,e,ps=>some (e,ps)
 |_+1,e,[]=>some (e,[])
 |k+1,e,p::r=>if p∈ops then (match f r with
  |none=>none
  |some (e2,r')=>uK ops f k (.bin p e e2) r') else some (e,p::r)
def pZ (f:P):P:=fun ps=>match f ps with
 |none=>none
 |some (e,r)=>uK [[42]] f r.length e r
def Ea (f:P):P:=fun ps=>match pZ f ps with
 |none=>none
 |some (e,r)=>uK [[43],[45]] (pZ f) r.length e r
def factor:Nat->P
 |0=>xS fun _=>none
 |n+1=>xS (Ea (factor n))
def expr (w:W):Option Tr:=if 60<w.length then none else match Ea (factor 5) (pieces w) with
 |some (e,[])=>some e
 |_=>none
def Short (f:P):Prop:=∀ps e r,f ps=some (e,r)->r.length<ps.length
def loop (ops:List W) (f:P) (e:Tr) (ps:List W):Option (Tr×List W):=uK ops f ps.length e ps
theorem zi{ops:List W}{f:P}{e:Tr}{p:W}{r:List W}(h:p ∉ ops):loop ops f e (p::r)=some (e,p::r):=by
 unfold loop
 rw[List.length_cons]
 unfold uK
 rw[if_neg h]
theorem Bn(f:P)(ps:List W):pZ f ps=match f ps with
 |none=>none
 |some (e,r)=>loop [[42]] f e r:=rfl
theorem Eb(f:P)(ps:List W):Ea f ps=match pZ f ps with
 |none=>none
 |some (e,r)=>loop [[43],[45]] (pZ f) e r:=rfl
def P0 (p:W):Bool:=isNumber p ||isName p
def v7:List W:=[[43],[45],[42]]
def step (p:W):Nat×Bool->Option (Nat×Bool)
 |(d,true)=>if p=[40] then (if d+1>5 then none else some (d+1,true)) else if P0 p then some (d,false) else none
 |(d,false)=>if p=[41] then (if d=0 then none else some (d-1,false)) else if p∈v7 then some (d,true) else none
def run:List W->Nat×Bool->Option (Nat×Bool)
 |[],s=>some s
 |p::r,s=>match step p s with
  |none=>none
  |some s'=>run r s'
def good (ps:List W):Prop:=run ps (0,true)=some (0,false)
instance (ps:List W):Decidable (good ps):=inferInstanceAs (Decidable (_=_))
structure Walk(d:Nat)(f:P)(nx:List W->Prop):Prop where
 yes:∀ps e r,f ps=some (e,r)->run ps (d,true)=run r (d,false)/\nx r
 no:∀ps,f ps=none->run ps (d,true)≠some (0,false)
def rX (_:List W):Prop:=True
def Qa (r:List W):Prop:=r=[]\/∃q t,r=q::t/\q≠[42]
def US (r:List W):Prop:=r=[]\/∃q t,r=q::t/\q ∉ v7
end PM
namespace PM
structure R9(st:List W×Nat)(w:W):Prop where
 flat:st.1.flatten=w
 Qb:∀p∈st.1,p≠[]
 last:st.2<2->st.1≠[]
 sort:∀p∈st.1,(∀c∈p,kind c=0)\/(∀c∈p,kind c=1)\/∃c,p=[c]/\kind c=2
 mark:st.1≠[]->∃p,st.1.getLast?=some p/\(st.2<2->∀c∈p,kind c=st.2)
theorem v8{α:Type}{l:List α}{p:α}(h:l.getLast?=some p):l=l.dropLast++[p]:=by
 have zj:l≠[]:=by rintro rfl;cases h
 rw[List.getLast?_eq_some_getLast zj] at h
 have e:=(List.dropLast_concat_getLast zj).symm
 cases h
 exact e
end PM
namespace PM
def RF (n:Nat) (t:Tr) (L:List W):Prop:=∀rest,factor n (L++rest)=some (t,rest)
def RP (n:Nat) (t:Tr) (L:List W):Prop:=∀rest,pZ (factor n) (L++rest)=loop [[42]] (factor n) t rest
def RS (n:Nat) (t:Tr) (L:List W):Prop:=∀rest,Qa rest->Ea (factor n) (L++rest)=loop [[43],[45]] (pZ (factor n)) t rest
theorem Ec{n:Nat}{t:Tr}{rest:List W}(h:Qa rest):loop [[42]] (factor n) t rest=some (t,rest):=by
 rcases h with rfl |⟨q,r,rfl,hq⟩
 ·rfl
 ·exact zi (by simpa using hq)
theorem RF.p{n:Nat}{t:Tr}{L:List W}(h:RF n t L):RP n t L:=fun rest=>by rw[Bn,h rest]
theorem RP.s{n:Nat}{t:Tr}{L:List W}(h:RP n t L):RS n t L:=fun rest hn=>by rw[Eb,h rest,Ec hn]
theorem oS(n:Nat)(p:W)(r:List W)(h:isNumber p=true\/isName p=true):factor n (p::r)=if isNumber p then some (.num (nL p),r) else some (.box p,r):=by
 have key:∀sub:P,xS sub (p::r)=if isNumber p then some (.num (nL p),r) else some (.box p,r):=fun sub=>by
  rw[vZ]
  by_cases h1:isNumber p=true
  ·rw[if_pos h1,if_pos h1]
  ·rw[if_neg h1,if_neg h1,if_pos (h.resolve_left h1)]
 cases n with
 |zero=>exact key _
 |succ n=>exact key _
theorem RF.num{n:Nat}{p:W}(h:isNumber p=true):RF n (.num (nL p)) [p]:=fun rest=>by
 show factor n (p::rest)=_
 rw[oS n p rest (.inl h),if_pos h]
theorem RF.box{n:Nat}{p:W}(h:isName p=true)(h':isNumber p=false):RF n (.box p) [p]:=fun rest=>by
 show factor n (p::rest)=_
 rw[oS n p rest (.inr h),if_neg (by rw[h'];simp)]
def FN:Tr->Bool
 |.bin o _ _=>decide (o=[43]) ||decide (o=[45])
 |_=>false
def isMul:Tr->Bool
 |.bin o _ _=>decide (o=[42])
 |_=>false
def Qc (o:W) (l:Tr) (m:Int):Bool:=(decide (o=[42])&&FN l) ||decide (m%5=1)
def Qd (o:W) (r:Tr) (m:Int):Bool:=(FN r ||(decide (o=[42])&&isMul r)) ||decide (m%7=1)
def dig (n:Nat):W:=(Nat.toDigits 10 n).map Char.toNat
def put (b:Bool) (w:W):W:=if b then [40]++w++[41] else w
def G8 (b:Bool) (w:List W):List W:=if b then [40]::w++[[41]] else w
def toks:Tr->Int->List W
 |.num n,_=>[dig n.toNat]
 |.box x,_=>[x]
 |.bin o l r,m=>G8 (Qc o l m) (toks l (m/2))++o::G8 (Qd o r m) (toks r (m/3))
def Qe (b:Bool):Nat:=if b then 1 else 0
def dep:Tr->Int->Nat
 |.bin o l r,m=>max (Qe (Qc o l m)+dep l (m/2)) (Qe (Qd o r m)+dep r (m/3))
 |_,_=>0
def around:Nat->W->W
 |0,w=>w
 |n+1,w=>put true (around n w)
def Ed:Nat->List W->List W
 |0,w=>w
 |n+1,w=>G8 true (Ed n w)
end PM
namespace PM
end PM
namespace PM
end PM
namespace PM
def strip:Nat->W->Nat×W
 |0,w=>(0,w)
 |n+1,w=>if w.head?=some 40/\w.getLast?=some 41 then ((strip n w.tail.dropLast).1+1,(strip n w.tail.dropLast).2) else (0,w)
def leaf (p:W):Option Tr:=if isName p then some (.box p) else if isNumber p then some (.num (nL p)) else none
def UT (w:W):Option Tr:=if 5<(strip 6 w).1 then none else leaf (strip 6 w).2
theorem shape{w:W}(h:w.head?=some 40/\w.getLast?=some 41):w=[40]++w.tail.dropLast++[41]:=by
 obtain⟨h1,h2⟩:=h
 cases w with
 |nil=>cases h1
 |cons c r=>
  cases h1
  cases r with
  |nil=>simp at h2
  |cons d r=>
   have:(d::r).getLast?=some 41:=by rw[List.getLast?_cons_cons] at h2;exact h2
   have e:=v8 this
   show 40::(d::r)=40::((d::r).dropLast++[41])
   rw[<- e]
def NH (w:W):Prop:=∀c∈w,c≠43/\c≠45/\c≠42
end PM
namespace L2
open PySem PySem.Spec PyProof.Rows
section
variable{P:Program}{w:World}{H H':Hp}{h h' B:Heap}{a:Addr}{o:HO}
theorem cS.there(x:cS P w H h a o):∃ob,h.get? a=some ob:=by
 induction o with
 |lst xs=>obtain⟨_,_,_,_,e⟩:=x;exact⟨_,e⟩
 |tup xs=>obtain⟨_,_,_,_,e,_⟩:=x;exact⟨_,e⟩
 |dK aJ=>obtain⟨_,_,_,_,o,_,_,e,_⟩:=x;exact⟨_,e⟩
 |dT aJ=>obtain⟨_,_,_,_,o,_,_,e,_⟩:=x;exact⟨_,e⟩
 |set S n=>obtain⟨o,_,_,_,e,_⟩:=x;exact⟨_,e⟩
 |ins C dx fs=>obtain⟨_,_,_,e,_⟩:=x;exact⟨_,e⟩
 |own y=>exact x
 |xd fs=>obtain⟨_,⟨_,_,_,e,_⟩,_⟩:=x;exact⟨_,e⟩
 |LY lo hi=>obtain⟨_,_,_,e⟩:=x;exact⟨_,e⟩
 |vJ ob u=>obtain⟨e,_⟩:=x;exact⟨_,e⟩
 |Fj ps=>exact⟨_,(show h.get? a=some _ from x)⟩
 |met f y=>exact⟨_,(show h.get? a=some _ from x)⟩
 |ext φ=>obtain⟨_,e,_⟩:=x;exact e
end
section
variable{X:Cx}{pins:List (Addr×Obj)}{σ:St}{H H':Hp}{s s':Shared}{h':Heap}{E:XK}{x:Addr}{cls a0:Value}{B:Heap}
end
section
variable{P:Program}{w:World}{K:PySem.W.Frag}{mg:Str->Option Value}{base:Heap}{N:List Str}{qual:Str}{scope:Scope}{f:Addr}{cd:Value}{A:Around}{outer:List Env}{s₀:Shared}{H₀:Hp}{E:XK}
end
structure JZ(K:PySem.W.Frag)(C:Addr):Prop where
 q:PySem.W.excIn K C [.type "ValueError",.type "Exception",.type "BaseException",.type "object"] "ValueError.__new__"=true
theorem JZ.obj{K:PySem.W.Frag}{C:Addr}{h:Heap}(c:JZ K C)(X:K.In h):∃bm N nm q bs NI sn sub ab col dd k0 k1 k2 k3 k5 mN,h.get? C=some (excClassObj nm q C N bs bm NI sn sub ab col dd k0 k1 k2 k3 k5 "ValueError.__new__")/\h.Ns N mN/\mN "__init__"=none/\
 OwnTail h [.type "ValueError",.type "Exception",.type "BaseException",.type "object"] bm:=by
 have q:=c.q
 unfold PySem.W.excIn at q
 split at q
 ·rename_i dd cd sl ho
  split at q
  ·rename_i C' bm k0 k1 k2 k3 n k5 hm hs
   simp only[Bool.and_eq_true,beq_iff_eq,Bool.not_eq_true'] at q
   obtain⟨⟨⟨⟨⟨rfl,rfl⟩,J0⟩,ht⟩,c7⟩,Qf⟩:=q
   obtain⟨nm,bs,mro,ns,qn,hd,sn,sub,ab,col,del⟩:=cd
   dsimp only at hm J0 c7 Qf
   subst hm J0
   have Sa:sl = #[k0,k1,k2,k3,some (.builtin "ValueError.__new__"),k5]:=by
    obtain⟨l⟩:=sl
    simp only at hs
    rw[hs]
   subst Sa
   exact⟨bm,ns,nm,qn,bs,hd,sn,sub,ab,col,dd,k0,k1,k2,k3,k5,_,X _ _ ho,.of_isNs (PySem.W.isNs_of_in X c7),PySem.W.nsMap_none_of_in X c7 Qf,PySem.W.tail_of_in X ht⟩
  ·cases q
 ·cases q
section
variable{X:Cx}{C:Addr}{E:XK}{x:Str}{np sU pos:Pos}{e:Expr}{es:List Expr}{ta:TA}
end
section
variable{X:Cx}{pins:List (Addr×Obj)}{σ:St}{H:Hp}{s:Shared}{x:Addr}
theorem Inv.told{o:HO}(I:Inv X pins σ H s)(n:H x=none)(h0:X.s₀.heap.objs.size<=x)(hL:x≠X.env.locals)(hc:∀y c,X.env.cells.lookup y=some c->c≠x)(hp:∀p∈X.pn++pins,p.1≠x)(ok:cS X.prog X.w (upd H x o) s.heap x o):Inv X pins σ (upd H x o) s:=by
 have nx:∀b u,X.s₀.heap.get? b=some u->b≠x:=fun b u e=>Nat.ne_of_lt (Nat.lt_of_lt_of_le (Heap.lt_size e) h0)
 refine⟨I.ok,I.os,I.bare,⟨I.base.keep,I.base.slot,fun b u e n' hx=>?_,I.base.there,fun b xs e=>?_,fun b ob u e=>?_,fun b ps e=>?_⟩,I.loc,I.cell,?_,fun y c e=>?_,fun p Io=>?_,fun b u e=>?_,I.len⟩
 ·rw[aF (nx b u e)];exact I.base.free b u e n' hx
 ·have:=I.base.nu b xs e
  rw[aF (aB this n)];exact this
 ·have:=I.base.mw b ob u e
  rw[aF (aB this n)];exact this
 ·obtain⟨m,e1⟩:=I.base.ny b ps e
  exact⟨m,by rw[aF (aB e1 n)];exact e1⟩
 ·rw[aF (Ne.symm hL)];exact I.free
 ·rw[aF (hc y c e)];exact I.j7 y c e
 ·obtain⟨a,b,c⟩:=I.pin p Io
  exact⟨a,by rw[aF (hp p Io)];exact b,c⟩
 ·by_cases hb:b=x
  ·subst hb
   rw[aj] at e
   cases e
   exact ok
  ·rw[aF hb] at e
   exact(I.c7 b u e).j6 (fun _ _ _ q=>q) (fun c q=>by rw[aF (aB q n)];exact q) fun c xs q=>by rw[aF (aB q n)];exact q
end
abbrev Cx.pinned (X:Cx) (pins:List (Addr×Obj)) (xe:Value->Shared->Prop):Cx:={X with pn:=X.pn++pins,xe:=xe}
section
variable{X:Cx}{pins ui:List (Addr×Obj)}{σ:St}{H:Hp}{s:Shared}{xe:Value->Shared->Prop}
end
section
variable{X:Cx}{k:Nat}{f CH:Addr}{fd:FuncData}{ps:List Str}{sp:Sp}{fx cx:Str}{p pos pos' np NJ DH:Pos}{e:Expr}{es:List Expr}{ta:TA}{ts:TS}{b0:Stmt}{J7:List Stmt}
end
end L2
namespace L2
open PySem PySem.Spec PySem.Calls PyProof.Rows Builtin Builtin.ObjectAttr Builtin.Getset_descriptor
def FO (x C:Addr) (h:Heap):Prop:=∃o,h.get? x=some o/\o.cls=.ref C
theorem FO.type{x C:Addr}{h:Heap}{M:Model}(p:FO x C h):PySem.W.Looks M h (typeOf (.ref x)) (.ref C):=by
 obtain⟨o,h1,h2⟩:=p
 exact h2▸(PySem.W.Looks.ld h1).andThen .now
section
variable{prog:Program}{w:World}{A:Around}{E:Value->Shared->Prop}{s:Shared}{K:PySem.W.Frag}{x C:Addr}
end
def Ends.drop (D:Ends) (i:Nat):Ends:={nx:=fun σ H=>D.nx (σ.set i none) H,rt:=D.rt,bk:=fun σ H=>D.bk (σ.set i none) H,ct:=fun σ H=>D.ct (σ.set i none) H}
section
variable{X:Cx}{pins:List (Addr×Obj)}{σ:St}{H:Hp}{s:Shared}{x:Addr}
end
section
variable{X:Cx}{k i:Nat}{f CH:Addr}{fd:FuncData}{ps:List Str}{sp:Sp}{fx cx n:Str}{p pos pos' np NJ DH:Pos}{e:Expr}{es:List Expr}{ta:TA}{ts:TS}{b0:Stmt}{J7:List Stmt}
end
end L2
namespace L2
open PySem PySem.Spec PyProof.Rows
def Sb (z:Str):It:=⟨fun i _=>i<z.cps.size,fun i H x H'=>H'=H/\∃c,z.cps[i]?=some c/\x=.str ⟨#[c]⟩,fun i _=>z.cps.size<=i⟩
section
variable{P:Program}{w:World}{K:PySem.W.Frag}{tg:Expr}
end
section
variable{X:Cx}{tg:Expr}
def J8 (tl:TE):TI:=fun σ H R=>tl σ H fun x H1=>∃z,x=.str z/\R (Sb z) H1
end
theorem vS{n d:Nat}(hd:d<=n)(o:Option Int):HT.eI n d o<=n:=by
 cases o with
 |none=>exact hd
 |some i=>
  show (if i<0 then (i+n).toNat else min i.toNat n)<=n
  split<;>lia
section
variable{X:Cx}
def Sd (z:Str) (n:Nat):Str:=⟨(List.replicate n z.cps).foldl (· ++ ·) #[]⟩
end
end L2
namespace L2
open PySem PySem.Spec PyProof.Rows
abbrev W:=PM.W
def S (w:W):Str:=⟨w.toArray⟩
def sv (w:W):V:=.str (S w)
theorem jS{a b:W}:S a=S b↔a=b:=⟨fun h=>by have:=congrArg (fun z:Str=>z.cps.toList) h;simpa[S] using this,fun h=>by rw[h]⟩
def eZ:PM.Tr->Dp
 |.num n=>.tup [.str "number",.int n]
 |.box x=>.tup [.str "box",.str (S x)]
 |.bin o l r=>.tup [.str (S o),eZ l,eZ r]
def bh (p:Addr) (H H':Hp):Prop:=∀b o,b≠p->H b=some o->H' b=some o
theorem bh.refl(p:Addr)(H:Hp):bh p H H:=fun _ _ _ h=>h
theorem bh.trans{p:Addr}{H H1 H2:Hp}(a:bh p H H1)(b:bh p H1 H2):bh p H H2:=fun c o n h=>b c o n (a c o n h)
theorem bh.of{p:Addr}{H H':Hp}(s:ao H H'):bh p H H':=fun b o _ h=>s b o h
theorem bh.put{p:Addr}{H H1:Hp}(a:bh p H H1)(o:HO):bh p H (upd H1 p o):=fun b u n h=>by rw[aF n];exact a b u n h
theorem bh.new{p q:Addr}{H H1:Hp}(a:bh p H H1)(h:H1 q=none)(o:HO):bh p H (upd H1 q o):=fun b u n e=>by rw[aF (aB (a b u n e) h)];exact a b u n e
theorem bh.same{p:Addr}{H H':Hp}(a:bh p H H')(h:H p=none):ao H H':=fun b o e=>a b o (aB e h) e
structure G9(CP:Addr)(H:Hp)(p l dx:Addr)(ps:List W)(k:Nat):Prop where
 ins:H p=some (.ins CP dx [("pieces",.ref l),("place",.int k)])
 own:H dx=some (.own p)
 lst:H l=some (.lst (ps.map sv))
 le:k<=ps.length
 pos:∀q∈ps,q≠[]
 len:∀q∈ps,q.length<=60
 many:ps.length<=60
theorem G9.nd{CP p l dx:Addr}{H:Hp}{ps:List W}{k:Nat}(o:G9 CP H p l dx ps k):dx≠p:=bS o.own o.ins (by intro z;cases z)
theorem G9.nl{CP p l dx:Addr}{H:Hp}{ps:List W}{k:Nat}(o:G9 CP H p l dx ps k):l≠p:=bS o.lst o.ins (by intro z;cases z)
theorem G9.at{CP p l dx:Addr}{H H':Hp}{ps:List W}{k j:Nat}(o:G9 CP H p l dx ps k)(u:bh p H H')(e:H' p=some (.ins CP dx [("pieces",.ref l),("place",.int j)]))(hj:j<=ps.length):G9 CP H' p l dx ps j:=
 ⟨e,u _ _ o.nd o.own,u _ _ o.nl o.lst,hj,o.pos,o.len,o.many⟩
theorem Rep.iO{K:PySem.W.Frag}{H H':Hp}{p C dx:Addr}{fs:List (Str×V)}(hp:H p=some (.ins C dx fs))(u:bh p H H'):(∀(d:Dp) (v:V),Rep K H d v->Rep K H' d v)/\∀(ds:List Dp) (vs:List V),aC K H ds vs->aC K H' ds vs:=by
 have st:∀a xs,bR K H a xs->bR K H' a xs:=fun a xs h=>by
  rcases h with (h |⟨o,h⟩) |h
  ·exact .inl (.inl (u _ _ (bS h hp (by intro z;cases z)) h))
  ·exact .inl (.inr ⟨o,u _ _ (bS h hp (by intro z;cases z)) h⟩)
  ·exact .inr h
 have sl:∀a xs,eD K H a xs->eD K H' a xs:=fun a xs h=>by
  rcases h with (h |⟨o,h⟩) |h
  ·exact .inl (.inl (u _ _ (bS h hp (by intro z;cases z)) h))
  ·exact .inl (.inr ⟨o,u _ _ (bS h hp (by intro z;cases z)) h⟩)
  ·exact .inr h
 refine⟨fun d=>?_,fun ds=>?_⟩
 ·exact Dp.rec (motive_1:=fun d=>∀v,Rep K H d v->Rep K H' d v) (motive_2:=fun ds=>∀vs,aC K H ds vs->aC K H' ds vs)
   (fun v h=>by rw[Rep.kW] at h ⊢;exact h) (fun b v h=>by rw[Rep.lS] at h ⊢;exact h) (fun i v h=>by rw[Rep.aY] at h ⊢;exact h) (fun x v h=>by rw[Rep.bu] at h ⊢;exact h)
   (fun l ih v h=>by rw[Rep.aQ] at h ⊢;obtain⟨a,xs,e,q,r⟩:=h;exact⟨a,xs,e,st a xs q,ih xs r⟩)
   (fun l ih v h=>by rw[Rep.bF] at h ⊢;obtain⟨a,xs,e,q,r⟩:=h;exact⟨a,xs,e,sl a xs q,ih xs r⟩)
   (fun vs h=>by rw[aC.aV] at h ⊢;exact h)
   (fun d ds i1 i2 vs h=>by rw[aC.az] at h ⊢;obtain⟨v,r,e,x,y⟩:=h;exact⟨v,r,e,i1 v x,i2 r y⟩) d
 ·exact Dp.rec_1 (motive_1:=fun d=>∀v,Rep K H d v->Rep K H' d v) (motive_2:=fun ds=>∀vs,aC K H ds vs->aC K H' ds vs)
   (fun v h=>by rw[Rep.kW] at h ⊢;exact h) (fun b v h=>by rw[Rep.lS] at h ⊢;exact h) (fun i v h=>by rw[Rep.aY] at h ⊢;exact h) (fun x v h=>by rw[Rep.bu] at h ⊢;exact h)
   (fun l ih v h=>by rw[Rep.aQ] at h ⊢;obtain⟨a,xs,e,q,r⟩:=h;exact⟨a,xs,e,st a xs q,ih xs r⟩)
   (fun l ih v h=>by rw[Rep.bF] at h ⊢;obtain⟨a,xs,e,q,r⟩:=h;exact⟨a,xs,e,sl a xs q,ih xs r⟩)
   (fun vs h=>by rw[aC.aV] at h ⊢;exact h)
   (fun d ds i1 i2 vs h=>by rw[aC.az] at h ⊢;obtain⟨v,r,e,x,y⟩:=h;exact⟨v,r,e,i1 v x,i2 r y⟩) ds
section
variable(K:PySem.W.Frag)(CP CN:Addr)
end
section
variable{P:Program}{w:World}{K:PySem.W.Frag}{mg:Str->Option Value}{base:Heap}
end
end L2
namespace L2
open PySem PySem.Spec PyProof.Rows
mutual
def Dp.py:Dp->PyData
 |.c6=>.none
 |.bl b=>.bool b
 |.int i=>.int i
 |.str x=>.str x
 |.tup l=>.tuple (Dp.jh l)
 |.lst l=>.list (Dp.jh l)
def Dp.jh:List Dp->List PyData
 |[]=>[]
 |d::r=>d.py::Dp.jh r
end
section
variable{X:Cx}{pins:List (Addr×Obj)}{σ:St}{H:Hp}{s:Shared}
mutual
theorem p0(I:Inv X pins σ H s):∀ {d:Dp} {v:V} {u:Value},Rep X.K H d v->RelV v u->∃as,Reads s.heap u d.py as
 |.c6,v,u,h,r=>by rw[Rep.kW] at h;subst h;cases (show u=Value.none from r);exact⟨_,.none⟩
 |.bl b,v,u,h,r=>by rw[Rep.lS] at h;subst h;cases (show u=Value.bool b from r);exact⟨_,.bool b⟩
 |.int i,v,u,h,r=>by rw[Rep.aY] at h;subst h;obtain⟨t,rfl⟩:=(show ∃t,u=Value.int i t from r);exact⟨_,.int i t⟩
 |.str x,v,u,h,r=>by rw[Rep.bu] at h;subst h;obtain⟨t,rfl⟩:=(show ∃t,u=Value.str x t from r);exact⟨_,.str x t⟩
 |.tup l,v,u,h,r=>by
  rw[Rep.aQ] at h
  obtain⟨p,xs,rfl,q,w⟩:=h
  cases (show u=Value.ref p from r)
  obtain⟨bc,v1,t1,_⟩:=I.tuple q
  obtain⟨as,ra⟩:=nM I w v1
  obtain⟨o,h1,h2,n,h3⟩:=t1
  unfold Dp.py
  exact⟨as,.tuple h1 h2 h3 (by simpa using ra)⟩
 |.lst l,v,u,h,r=>by
  rw[Rep.bF] at h
  obtain⟨p,xs,rfl,q,w⟩:=h
  cases (show u=Value.ref p from r)
  obtain⟨bc,v1,t1,_⟩:=I.list q
  obtain⟨as,ra⟩:=nM I w v1
  obtain⟨o,h1,h2,n,h3⟩:=t1.isList
  unfold Dp.py
  exact⟨_,.list h1 h2 h3 (by simpa using ra)⟩
theorem nM(I:Inv X pins σ H s):∀ {ds:List Dp} {vs:List V} {us:List Value},aC X.K H ds vs->Vals vs us->∃as,ReadsAll s.heap us (Dp.jh ds) as
 |[],_,_,h,r=>by rw[aC.aV] at h;subst h;cases r;unfold Dp.jh;exact⟨_,.nil⟩
 |d::ds,_,_,h,r=>by
  rw[aC.az] at h
  obtain⟨v,vs,rfl,x,y⟩:=h
  cases r with
  |cons r1 r2=>
   obtain⟨a,ra⟩:=p0 I x r1
   obtain⟨b,rb⟩:=nM I y r2
   unfold Dp.jh
   exact⟨_,.cons ra rb⟩
end
end
section
variable{X:Cx}
def NK (K:PySem.W.Frag) (neg:Bool):R2:=fun x y H Q=>∃d e,Rep K H d x/\Rep K H e y/\SeqAt.shaped d.py=true/\SeqAt.shaped e.py=true/\Q (.bl (if neg then !PyData.eqv d.py e.py else PyData.eqv d.py e.py)) H
theorem qa(hu:X.A.units+64<cLine):nj X (compareOp .NotEq) (NK X.K true):=by
 intro pins s σ H x y v u Q I rx ry h
 obtain⟨d,e,h1,h2,s1,s2,q⟩:=h
 obtain⟨as,ra⟩:=p0 I h1 rx
 obtain⟨bs,rb⟩:=p0 I h2 ry
 exact ne_dataH ra rb s1 s2 hu ⟨.bl (!PyData.eqv d.py e.py),H,I,rfl,q⟩
end
mutual
theorem eqv_refl:∀d:Dp,PyData.eqv d.py d.py=true
 |.c6=>rfl
 |.bl b=>by simp[Dp.py,PyData.eqv]
 |.int i=>by simp[Dp.py,PyData.eqv]
 |.str x=>by simp[Dp.py,PyData.eqv]
 |.tup l=>by simp only[Dp.py,PyData.eqv];exact nN l
 |.lst l=>by simp only[Dp.py,PyData.eqv];exact nN l
theorem nN:∀l:List Dp,PyData.eqvAll (Dp.jh l) (Dp.jh l)=true
 |[]=>rfl
 |d::r=>by simp only[Dp.jh,PyData.eqvAll,eqv_refl d,nN r,Bool.and_true]
end
theorem ax{t u:TS}{D:Ends}{σ:St}{H:Hp}(h:∀U:St->Hp->Prop,(∀σ' H',U σ' H'↔u D σ' H')->t {D with nx:=U} σ H):Dx t u D σ H:=h (u D) fun _ _=>Iff.rfl
theorem Bo{A:Around}{k:Nat}(hr:fW k A):A.units+64<cLine:=hr.units
end L2
namespace L2
open PySem
section
variable(K:PySem.W.Frag)
end
end L2
namespace L2
open PySem
section
variable(K:PySem.W.Frag)
end
end L2
namespace L2
open PySem
theorem Bp{X:Cx}:gW X (.builtin "isinstance") (fun xs H Q=>∃a T l b,xs=[.ref a,.ty T]/\bR X.K H a l/\PySem.W.kitOne X.K (.type "tuple") (.type T)=some b/\Q (.bl b) H):=by
 intro pins s σ H xs us Q I r h
 obtain⟨a,T,l,b,rfl,hS,e,q⟩:=h
 cases r with
 |cons r1 r2=>
  cases r2 with
  |cons r3 r4=>
   cases r4
   cases (show _=Value.ref a from r1)
   cases (show _=Value.type T from r3)
   obtain⟨bc,_,⟨o,h1,h2,_⟩,_⟩:=I.tuple hS
   exact PySem.W.kia_one PySem.W.kitx_tuple I.pz ⟨o,h1,h2⟩ e (fun z=>nomatch z) fun tk=>⟨.bl b,H,I.tok tk,rfl,q⟩
end L2
namespace L2
open PySem
end L2
namespace L2
open PySem
def xT (K:PySem.W.Frag):Sp:=fun vs H Q _=>∃(a:Addr) (ns:List Int),vs=[.ref a]/\eD K H a (ns.map .int)/\ns.length<=63/\∀H',Q (.bl true) H'
end L2
namespace L2
open PySem PySem.Spec PyProof.Rows
section
variable{X:Cx}{pins:List (Addr×Obj)}{σ:St}{H:Hp}{s:Shared}{h':Heap}
theorem Inv.kX{t':Nat}{fp:List Addr}(I:Inv X pins σ H s)(k:∀b o,b ∉ fp->s.heap.get? b=some o->h'.get? b=some o)(hf:∀b∈fp,my X pins H b):Inv X pins σ H {s with heap:=h',toks:=t' }:=by
 have IY:∀b u,H b=some u->b ∉ fp:=fun b u e z=>by rw[(hf b z).1] at e;cases e
 refine I.step (g':=s.gens) (d':=s.drawn) (ch:=fp) (fun b hb=>?_) (fun b o _ _ hc e _=>k b o hc e) (fun b o _ _ hc e _=>⟨o.slots,k b o hc e⟩) (fun _ _ _ _ n=>n)
  (fun b o hc e=>⟨o,k b o hc e⟩) (fun _ _ e=>e) (fun _ _ _ e=>e) (fun b ps e=>⟨#[],by rw[e];simp⟩) (fun m hm=>?_) (fun b u e=>?_) I.bare
 ·obtain⟨_,f1,_,f3,f4,f5⟩:=hf b hb
  exact⟨f3,f1,f4,f5⟩
 ·obtain⟨o,es,ep,ho,r⟩:=hm
  exact⟨o,es,ep,k _ o (fun z=>(hf _ z).2.1 rfl) ho,r⟩
 ·refine(I.c7 b u e).j6 (fun c v hc q=>k c v ?_ q) (fun _ q=>q) fun _ _ q=>q
  rcases hc with z |z
  ·rw[z];exact IY b u e
  ·exact IY c _ z
end
def FP (K:PySem.W.Frag) (a:Addr):It:=
 ⟨fun i H=>∃xs x,eD K H a xs/\xs[i]?=some x,fun i H x H'=>∃p y,x=.ref p/\H p=none/\H'=upd H p (.tup [.int i,y])/\∀xs,eD K H a xs->xs[i]?=some y,fun i H=>∃xs,eD K H a xs/\xs.length<=i⟩
theorem zk{P:Program}{w:World}{K:PySem.W.Frag}{elts:List Expr}{x1}{pos:Pos}(a e it:Addr)(zj:e≠it) :
 Turn P w K (.Tuple elts x1 pos) (FP K a) [e,it] e (fun i h=>(∃old,IsEnum h e it i old)/\h.IsListIter it a i) where
 mem:=by simp
 obj:=fun i h st b hb=>by
  obtain⟨⟨old,he⟩,o,eo,c,d⟩:=st
  rcases List.mem_cons.mp hb with rfl |hb
  ·exact⟨_,he,fun v z=>by cases (show Data.fields _=Data.cell v from z)⟩
  ·have z:b=it:=by simpa using hb
   subst z
   exact⟨o,eo,fun v z=>by rw[d] at z;cases z⟩
 keep:=fun i h h' st k=>⟨st.1.elim fun old he=>⟨old,k e (by simp) _ he⟩,st.2.at fun o x=>k it (by simp) o x⟩
 item:=by
  intro X hP hw hK hc i pins s σ H E I hf st hg
  subst hP hw hK
  obtain⟨xs,x,hq,hx⟩:=hg
  obtain⟨⟨old,he⟩,hit⟩:=st
  obtain⟨bc,rv,p,hz⟩:=I.list hq
  obtain⟨u,hu,ru⟩:=rv.get hx
  refine wpAny_pyNext_enum_item he hit p.isList (x:=u) (by simpa using hu) zj fun h' ho Hc hT hsz hk=>?_
  refine⟨_,rfl,?_⟩
  refine wpAny_letOwnedTupleGo_enum ho fun h2 Me sb=>?_
  have J9:e<s.heap.objs.size:=Heap.lt_size he
  have Ka:it<s.heap.objs.size:=by obtain⟨_,x,_⟩:=hit;exact Heap.lt_size x
  have I1:Inv X pins σ H {s with heap:=h2,toks:=s.toks+1}:=I.kX (t':=s.toks+1) (fun b o hb q=>(sb.2 b fun z=>hb (by simp[z])).trans (hk b o (fun z=>hb (by simp[z])) (fun z=>hb (by simp[z])) q)) hf
  have fr:H s.heap.objs.size=none:=I.c7.fresh (Nat.le_refl _)
  obtain⟨g0,g1,g2,g3,g4,g5⟩:=I.yQ (Nat.le_refl _) fr
  have Hd:h2.get? s.heap.objs.size=some {cls:=.type "tuple",data:=.seq #[.int i s.toks,u]}:=(sb.2 _ (Nat.ne_of_gt J9)).trans hT
  have I2:=I1.told (o:=.tup [.int i,x]) fr I.sz g1 g4 g5 ⟨(show (2:Nat)<=sizeLine by decide),[.int i s.toks,u],.cons ⟨_,rfl⟩ (.cons ru .nil),⟨_,Hd,rfl,_,rfl⟩⟩
  refine⟨.ref s.heap.objs.size,_,I2,rfl,⟨_,x,rfl,fr,rfl,fun ys hy=>by rw[I.uq hy hq];exact hx⟩,⟨⟨_,by exact_mod_cast Me⟩,Hc.at fun o q=>(sb.2 it (Ne.symm zj)).trans q⟩,fun b hb=>?_⟩
  rw[aF ?_]
  ·exact(hf b hb).1
  ·rcases List.mem_cons.mp hb with rfl |hb
   ·exact Nat.ne_of_lt J9
   ·have z:b=it:=by simpa using hb
    subst z
    exact Nat.ne_of_lt Ka
 done:=by
  intro X hP hw hK hc i pins s σ H E I hf st hg
  subst hP hw hK
  obtain⟨xs,hq,hx⟩:=hg
  obtain⟨⟨old,he⟩,hit⟩:=st
  obtain⟨bc,rv,p,hz⟩:=I.list hq
  have hl:=rv.length
  exact wpAny_pyNext_enum_end (I.ok.hd hc) he hit p.isList (by simp;lia) fun h' eb=>⟨rfl,I.kX (t':=s.toks) (fun b o hb q=>eb b o (fun z=>hb (by simp[z])) q) hf⟩
 self:=fun _ _ _ _ _ st h=>st.1.elim fun _ he=>wpAny_pyIter_enum he h
def FQ (K:PySem.W.Frag) (ta:TA):TI:=fun σ H R=>ta σ H fun vs H1=>∃a,vs=[.ref a]/\(∃xs,eD K H1 a xs)/\R (FP K a) H1
theorem xU{X:Cx}{elts:List Expr}{x1}{tp:Pos}{a:Expr}{ta:TA}{p pos:Pos}(hg:Gl X "enumerate")(hm:X.mg "enumerate"=none)(ha:PA X [a] ta)(hs:starEach [a] X.env=[(false,eval a X.env)]:=by rfl) :
 PI X (.Tuple elts x1 tp) (.Call (.Name "enumerate" p) [a] [] pos) (FQ X.K ta):=by
 intro pins s σ H R I h
 refine Call_ (lQ I hg hm PyProof.Rows.Boot.«enumerate» (PyProof.Rows.callWith_type1 (eF (ha pos pins s σ H _ I h) fun us s1 zqz=>?_) hs rfl))
 obtain⟨vs,H1,I1,r1,q1⟩:=zqz
 obtain⟨l,e,⟨xs,hq⟩,q⟩:=q1
 subst e
 cases r1 with
 |cons r rr=>
  cases rr
  cases (show _=Value.ref l from r)
  obtain⟨bc,rv,p,hz⟩:=I1.list hq
  refine call_enumerate_list p.isList fun h' he hit hsz hk=>?_
  refine wpAny_pyIter_enum he ?_
  have fr:∀b,s1.heap.objs.size<=b->H1 b=none:=fun b hb=>I1.c7.fresh hb
  refine⟨s1.heap.objs.size+1,[s1.heap.objs.size+1,s1.heap.objs.size],_,_,H1,rfl,I1.kept (t':=s1.toks) hk,zk l _ _ (Nat.succ_ne_self _),⟨⟨_,he⟩,hit⟩,fun b hb=>?_,q⟩
  have Kb:s1.heap.objs.size<=b:=by
   rcases List.mem_cons.mp hb with rfl |hb
   ·exact Nat.le_succ _
   ·have z:b=s1.heap.objs.size:=by simpa using hb
    rw[z];exact Nat.le_refl _
  exact I1.yQ Kb (fr b Kb)
theorem uL{K:PySem.W.Frag}{a:Addr}{xs:List V}{g:TG}{tb:TS}{D:Ends}{σ:St}{H:Hp}(Pv:Nat->St->Hp->Prop)(h0:Pv 0 σ H)(hl:∀i σ H,i<=xs.length->Pv i σ H->eD K H a xs)
 (hs:∀i x σ H p,xs[i]?=some x->Pv i σ H->H p=none->g (.ref p) σ (upd H p (.tup [.int i,x])) fun σ2 H2=>tb {D with nx:=Pv (i+1),ct:=Pv (i+1),bk:=D.nx} σ2 H2) (hd:∀σ H,Pv xs.length σ H->D.nx σ H) :
 ∃W:Nat->Nat->St->Hp->Prop,(∃m,W 0 m σ H)/\∀i m σ H,W i m σ H->
  ((FP K a).stop i H/\D.nx σ H)\/((FP K a).go i H/\∃N:St->Hp->Prop,(∀σ' H',N σ' H'->∃m',m'<m/\W (i+1) m' σ' H')/\∀x H',(FP K a).xr i H x H'->g x σ H' fun σ2 H2=>tb {D with nx:=N,ct:=N,bk:=D.nx} σ2 H2):=by
 refine⟨fun i m σ H=>m=xs.length-i/\i<=xs.length/\Pv i σ H,⟨xs.length,by simp,Nat.zero_le _,h0⟩,?_⟩
 rintro i m σ H ⟨rfl,hi,p⟩
 have q:=hl i σ H hi p
 by_cases lR:i<xs.length
 ·refine .inr ⟨⟨xs,xs[i],q,by simp[lR]⟩,Pv (i+1),fun σ' H' p'=>⟨xs.length-(i+1),by lia,rfl,lR,p'⟩,fun x H' y=>?_⟩
  obtain⟨pp,v,rfl,hn,rfl,y⟩:=y
  exact hs i v σ H pp (y xs q) p hn
 ·have e:i=xs.length:=by lia
  subst e
  exact .inl ⟨⟨xs,q,Nat.le_refl _⟩,hd σ H p⟩
end L2
namespace L2
open PySem
theorem cC{X:Cx}:gW X (.type "int") (fun xs H Q=>∃b:Bool,xs=[.bl b]/\Q (.int (if b then 1 else 0)) H):=by
 intro pins s σ H xs us Q I r h
 obtain⟨b,rfl,q⟩:=h
 obtain⟨u,rfl,ru⟩:=vals1 r
 cases (show u=Value.bool b from ru)
 exact PySem.call_int_bool ⟨.int (if b then 1 else 0),H,I.tok _,⟨_,rfl⟩,q⟩
end L2
namespace L2
open PySem PySem.Spec PyProof.Rows
section
variable{prog:Program}{w:World}{A:Around}{E:Value->Shared->Prop}{s:Shared}
theorem uM{it l:Addr}{bc:Array Value}(zj:l≠it):∀(n i:Nat) (s:Shared) (Q:List Value->Shared->Prop),s.heap.IsListIter it l i->s.heap.IsList l bc->i+n<=bc.size->
 (∀h',h'.IsListIter it l (i+n)->Heap.SameBut it s.heap h'->Q ((bc.toList.drop i).take n) {s with heap:=h' })->wpAny (model prog w) A (draw (.ref it) n) Q E s
 |0,i,s,Q,a,_,_,q=>by
  show wpAny _ _ (pure []) Q E s
  exact wpAny_pure (by simpa using q s.heap a (Heap.SameBut.refl ..))
 |n+1,i,s,Q,a,b,le,q=>by
  have lt:i<bc.size:=by lia
  show wpAny _ _ (pyNext (.ref it) >>= _) Q E s
  refine wpAny_bind (wpAny_pyNext_list_item a b (x:=bc[i]) (by simp[lt]) fun h1 a1 s1=>?_)
  have b1:h1.IsList l bc:=by
   obtain⟨o,ho,r⟩:=b
   exact⟨o,(s1.2 l zj).trans ho,r⟩
  refine wpAny_bind (wpAny_holding (uM zj n (i+1) _ _ a1 b1 (by lia) fun h2 a2 s2=>wpAny_pure ?_))
  have e:bc.toList.drop i=bc[i]::bc.toList.drop (i+1):=by simp[List.drop_eq_getElem_cons,lt]
  have z:=q h2 (by rw[show i+(n+1)=i+1+n by lia];exact a2) (s1.trans s2)
  rw[e,List.take_succ_cons] at z
  exact z
theorem v9{l:Addr}{bc:Array Value}{ts:List (Bool×(Value->Sem Unit))}{Q:Unit->Shared->Prop}(hh:A.handled=none)(b:s.heap.IsList l bc)(hn:ts.length=bc.size)(pL:ts.findIdx? (·.1)=none)
 (h:∀h',Heap.ExtBut s.heap.objs.size s.heap h'->wpAny (model prog w) A (assignInOrder (ts.map (·.2)) bc.toList) Q E {s with heap:=h' }):wpAny (model prog w) A (unpack (.ref l) ts) Q E s:=by
 have lt:l≠s.heap.objs.size:=by obtain⟨o,ho,_⟩:=b;exact Nat.ne_of_lt (Heap.lt_size ho)
 unfold unpack
 rw[hn,pL]
 refine wpAny_bind (wpAny_holding ?_)
 unfold unpackItems
 refine wpAny_bind ?_
 unfold notIterableAtAll
 refine wpAny_bind (wpAny_specialOf b.typeIs slot_list_iter.lookup ?_)
 refine wpAny_pure ?_
 simp only[Bool.false_eq_true,if_false]
 refine wpAny_bind (wpAny_holding (wpAny_pyIter_list b ?_))
 have j6:∀ {h1 h2:Heap},Heap.ExtBut s.heap.objs.size h1 h2->h1.IsList l bc->h2.IsList l bc:=fun {h1 h2} e x=>by
  obtain⟨o,ho,r⟩:=x
  exact⟨o,e l o lt ho,r⟩
 have b0:(s.heap.push {cls:=.type "list_iterator",data:=.fields #[.ref l,.int 0 0]}).IsList l bc:=by
  obtain⟨o,ho,r⟩:=b
  exact⟨o,Heap.get?_push_of_some _ ho,r⟩
 refine wpAny_bind (wpAny_holding (uM lt bc.size 0 _ _ ⟨_,Heap.get?_push_size _ rfl,rfl,rfl⟩ b0 (by lia) fun h1 a1 s1=>?_))
 have all:List.take bc.size (List.drop 0 bc.toList)=bc.toList:=by
  rw[List.drop_zero];exact List.take_of_length_le (by simp)
 rw[all,if_neg (by simp)]
 have b1:h1.IsList l bc:=j6 s1.extBut b0
 refine wpAny_bind (wpAny_holding (wpAny_pyNext_list_end hh a1 b1 (by simp) fun h2 e2=>?_))
 simp only[Option.isSome_none,Bool.false_eq_true,if_false]
 exact wpAny_pure (h h2 fun c o hc e=>e2 c o hc (s1.extBut c o hc (Heap.get?_push_of_some _ e)))
end
def Ee (K:PySem.W.Frag) (n:Nat) (t:Dg):TG:=fun v σ H Q=>∃a xs,v=.ref a/\eD K H a xs/\xs.length=n/\t xs σ H Q
theorem wa{X:Cx}{es:List Expr}{k}{pos:Pos}{t:Dg}{n:Nat}(hc:X.calm=true)(h:Ik X es t)
 (hn:(assignEach es X.env).length=n:=by rfl) (pL:(assignEach es X.env).findIdx? (·.1)=none:=by rfl):PG X (.Tuple es k pos) (Ee X.K n t):=by
 intro pins s σ H v u Q I r hw
 obtain⟨a,xs,rfl,hq,hl,hw⟩:=hw
 cases r
 obtain⟨bc,rv,hp,_⟩:=I.list hq
 rw[assign_Tuple]
 refine wpAny_bind (wpAny_standAt (v9 (I.ok.hd hc) hp.isList (by simp[hn,<- hl,rv.length]) pL fun h' hx=>?_))
 have I1:Inv X pins σ H {s with heap:=h' }:=I.kept (t':=s.toks) fun b o e=>hx b o (Nat.ne_of_lt (Heap.lt_size e)) e
 exact h pins _ σ H xs _ Q I1 (by simpa using rv) hw
end L2
namespace PM
end PM
namespace L2
open PySem
section
variable(K:PySem.W.Frag)
end
end L2
namespace L2
open PySem PySem.SeqAt
theorem nO{X:Cx}(hu:X.A.units+1<cLine):nj X (compareOp .NotEq) (fun x y H Q=>∃a b xs,x=.ref a/\y=.ref b/\eD X.K H a xs/\eD X.K H b []/\Q (.bl (!xs.isEmpty)) H):=by
 intro pins s σ H x y v u Q I rx ry h
 obtain⟨a,b,xs,rfl,rfl,h1,h2,q⟩:=h
 cases (show v=Value.ref a from rx)
 cases (show u=Value.ref b from ry)
 obtain⟨bc,v1,p1,_⟩:=I.list h1
 obtain⟨its',v2,p2,_⟩:=I.list h2
 cases v2
 cases xs with
 |nil=>
  cases v1
  exact(RcNeAt.lists (e:=fun _=>true) p1.isList p2.isList rfl (by lia) (fun j h1=>absurd h1 (by simp))) _ _ _ _ ⟨.bl false,H,I,rfl,q⟩
 |cons z zs=>
  cases v1
  exact(RcNeAt.lists_lengths p1.isList p2.isList (by simp) (by lia)) _ _ _ _ ⟨.bl true,H,I,rfl,q⟩
end L2
namespace PM
end PM
namespace L2
open PySem
end L2
namespace L2
open PySem
end L2
namespace L2
open PySem
end L2
namespace L2
open PySem
def lT (val:W->Int):PM.Tr->Int
 |.num n=>n
 |.box x=>val x
 |.bin o l r=>if o=[43] then lT val l+lT val r else if o=[45] then lT val l-lT val r else lT val l*lT val r
def names3:List W:=[[97],[98,98],[99]]
structure V3(aJ:List (Key×V))(val:W->Int):Prop where
 yes:∀x∈names3,cN aJ (Sum.inr (S x))=some (.int (val x))
 no:∀x,x ∉ names3->cN aJ (Sum.inr (S x))=none
 small:∀x,(val x).natAbs<=2 ^ 60
section
variable(K:PySem.W.Frag)
end
end L2
namespace L2
open PySem PySem.Spec PyProof.Rows
end L2
namespace L2
open PySem
end L2
namespace L2
open PySem
theorem gD{K:PySem.W.Frag}{tl:TE}{g:TG}{tb:TS}{D:Ends}{σ:St}{H:Hp} (h:∀U:Addr->Hp->Prop,(∀a H1,(∃W:Nat->Nat->St->Hp->Prop,(∃m,W 0 m σ H1)/\∀i m σ H,W i m σ H->
 ((yR K a).stop i H/\D.nx σ H)\/((yR K a).go i H/\∃N:St->Hp->Prop,(∀σ' H',N σ' H'->∃m',m'<m/\W (i+1) m' σ' H')/\∀x H',(yR K a).xr i H x H'->g x σ H' fun σ2 H2=>tb {D with nx:=N,ct:=N,bk:=D.nx} σ2 H2))->U a H1)->
 tl σ H fun x H1=>∃a,x=.ref a/\(∃xs,eD K H1 a xs)/\U a H1):AF (ur K tl) g tb D σ H:=h _ fun _ _ x=>x
end L2
namespace PM
end PM
namespace L2
open PySem
end L2
namespace L2
open PySem
def Tok (p:W):Prop:=p=[40]\/p=[41]\/p∈PM.v7\/(PM.P0 p=true/\(PM.isName p=true->p∈names3))
end L2
namespace L2
open PySem
theorem xV{a:Option V}{r:St}{H:Hp}{Q:VK}:(fo 10 (a::r) H Q)=(fo 9 r H Q):=rfl
theorem xW{a:Option V}{r:St}{H:Hp}{Q:VK}:(fo 11 (a::r) H Q)=(fo 10 r H Q):=rfl
theorem xX{a:Option V}{r:St}{H:Hp}{Q:VK}:(fo 12 (a::r) H Q)=(fo 11 r H Q):=rfl
def NL (z:Str):Prop:=PM.NH z.cps.toList
theorem NL.one{a:Str}(ha:NL a){c:Nat}(hc:c∈a.cps.toList):NL ⟨#[c]⟩:=fun x hx=>by
 have:x=c:=by simpa using hx
 rw[this]
 exact ha c hc
section
variable(K:PySem.W.Frag)
end
end L2
namespace L2
open PySem PySem.SeqAt
end L2
namespace L2
open PySem
end L2
namespace L2
open PySem
theorem Kc{K:PySem.W.Frag}:PySem.W.kitOne K (.type "tuple") (.type "tuple")=some true:=by unfold PySem.W.kitOne;rw[if_pos (beq_self_eq_true _)]
theorem Kd{K:PySem.W.Frag}:PySem.W.kitOne K (.type "list") (.type "list")=some true:=by unfold PySem.W.kitOne;rw[if_pos (beq_self_eq_true _)]
end L2
namespace PG
open PM (W Tr)
structure cD where
 name:W
 size:Int
 first:Int
inductive bM where
 |ask (k:Int) (b:W)
 |put (k:Int) (b:W) (e:Tr)
 |say (k:Int) (e:Tr)
 |cE (k:Int) (sg:W) (l r:Tr)
 |stop (k:Int)
 |ifs (k:Int) (sg:W) (l r:Tr) (a b:List bM)
 |gw (k:Int) (sg:W) (l r:Tr) (a:List bM)
def bM.row:bM->Int
 |.ask k _=>k |.put k _ _=>k |.say k _=>k |.cE k _ _ _=>k |.stop k=>k |.ifs k _ _ _ _ _=>k |.gw k _ _ _ _=>k
inductive Wd where
 |ask |put |say |cE |stop |ifs |gw |Ef |fin
 deriving DecidableEq
def bM.wd:bM->Wd
 |.ask _ _=>.ask |.put _ _ _=>.put |.say _ _=>.say |.cE _ _ _ _=>.cE |.stop _=>.stop |.ifs _ _ _ _ _ _=>.ifs |.gw _ _ _ _ _=>.gw
def Ke:Nat->Int->Int
 |0,c=>c
 |n+1,c=>Ke n (c/1000003)
def next (sc:List Int) (p:Nat):Int:=
 let many:=max 1 sc.length
 let cell:=if sc=[] then 0 else sc.getD (p%many) 0
 if cell ≥ 10 ^ 18 then Ke (min 60 (p/many)) cell%1000003 else
  let a:=(cell%2147483629+51437*((p:Int)+1)*((p:Int)+3)+1409)%2147483629
  let b:=a*a%2147483587
  let c:=(b*69621+401*(p:Int)+7)%2147483579
  c*c%2147483563/16
def pick {α:Type} (d:α) (l:List α) (n:Int):α:=l.getD n.toNat d
def qU (sc:List Int) (bs:List cD):Nat->Nat->Tr×Nat
 |0,p=>
  let kind:=next sc p%7
  if bs≠[]/\kind<5 then (.box (pick ⟨[],0,0⟩ bs (next sc (p+1)%bs.length)).name,p+2) else (.num (next sc (p+1)%pick 1 [3,12,1000] (next sc (p+2)%3)),p+3)
 |d+1,p=>
  let kind:=next sc p%7
  if kind<3 then
   let one:=qU sc bs d (p+1)
   let two:=qU sc bs d one.2
   (.bin (pick [] [[43],[45],[42]] kind) one.1 two.1,two.2)
  else if bs≠[]/\kind<5 then (.box (pick ⟨[],0,0⟩ bs (next sc (p+1)%bs.length)).name,p+2) else (.num (next sc (p+1)%pick 1 [3,12,1000] (next sc (p+2)%3)),p+3)
def Kf:List W:=[[60],[61]]
def Bq (sc:List Int) (bs:List cD) (k:Int) (p:Nat):bM×Nat:=
 let kind:=next sc p%10
 if bs≠[]/\kind<3 then (.ask k (pick ⟨[],0,0⟩ bs (next sc (p+1)%bs.length)).name,p+2)
 else if bs≠[]/\kind<6 then
  let e:=qU sc bs 2 (p+2)
  (.put k (pick ⟨[],0,0⟩ bs (next sc (p+1)%bs.length)).name e.1,e.2)
 else if kind=6 then
  let l:=qU sc bs 1 (p+2)
  let r:=qU sc bs 1 l.2
  (.cE k (pick [] Kf (next sc (p+1)%2)) l.1 r.1,r.2)
 else if kind=7 then
  if next sc (p+1)%3=0 then (.stop k,p+2) else
   let e:=qU sc bs 2 (p+2)
   (.say k e.1,e.2)
 else
  let e:=qU sc bs 2 (p+1)
  (.say k e.1,e.2)
structure Frame where
 kind:Nat
 body:List bM
 k:Int:=0
 sg:W:=[]
 l:Tr:=.num 0
 r:Tr:=.num 0
 first:List bM:=[]
def Frame.told (f:Frame):bM:=if f.kind=1 then .ifs f.k f.sg f.l f.r f.body [] else if f.kind=2 then .ifs f.k f.sg f.l f.r f.first f.body else .gw f.k f.sg f.l f.r f.body
def close:List Frame->List Frame
 |f::g::r=>{g with body:=g.body++[f.told]}::r
 |fs=>fs
abbrev Row:=Int×Wd
def number (n:Nat) (rows:List Row) (mode:Int):Int:=
 if mode=2 then n+1+20*rows.length else if mode=3 then n+1+(rows.filter fun r=>r.2≠.Ef/\r.2≠.fin).length else n+1+rows.length
structure Walk where
 p:Nat
 qb:List Frame
 rows:List Row
def turn (sc:List Int) (bs:List cD) (mode:Int) (w:Walk):Walk:=
 let k:=number bs.length w.rows mode
 let way:=next sc w.p%12
 if way<2/\w.qb.length>1 then ⟨w.p+1,close w.qb,w.rows++[(k,.fin)]⟩
 else match w.qb with
 |[]=>w
 |f::r=>
  if way=2/\f.kind=1 then ⟨w.p+1,{f with kind:=2,body:=[],first:=f.body}::r,w.rows++[(k,.Ef)]⟩
  else if way<6/\w.qb.length<4 then
   let l:=qU sc bs 1 (w.p+2)
   let e:=qU sc bs 1 l.2
   let kd:=pick 1 [1,1,3] (way%3)
   ⟨e.2,{kind:=kd,body:=[],k:=k,sg:=pick [] Kf (next sc (w.p+1)%2),l:=l.1,r:=e.1}::w.qb,w.rows++[(k,if kd=3 then .gw else .ifs)]⟩
  else
   let s:=Bq sc bs k (w.p+1)
   ⟨s.2,{f with body:=f.body++[s.1]}::r,w.rows++[(k,s.1.wd)]⟩
def ends (n:Nat) (mode:Int):Nat->Walk->Walk
 |0,w=>w
 |m+1,w=>if w.qb.length>1 then ends n mode m ⟨w.p,close w.qb,w.rows++[(number n w.rows mode,.fin)]⟩ else w
structure Prog where
 aA:List cD
 body:List bM
end PG
namespace PG
open PM (W Tr)
mutual
def jk:bM->List Row
 |.ifs k _ _ _ a b=>(k,.ifs)::(dE a++dE b)
 |.gw k _ _ _ a=>(k,.gw)::dE a
 |.ask k _=>[(k,.ask)]
 |.put k _ _=>[(k,.put)]
 |.say k _=>[(k,.say)]
 |.cE k _ _ _=>[(k,.cE)]
 |.stop k=>[(k,.stop)]
def dE:List bM->List Row
 |[]=>[]
 |s::r=>jk s++dE r
end
def Frame.flat (f:Frame):List Row:=(if f.kind=0 then [] else [(f.k,if f.kind=3 then Wd.gw else .ifs)])++(if f.kind=2 then dE f.first else [])++dE f.body
def plainRow (r:Row):Bool:=decide (r.2≠.Ef/\r.2≠.fin)
end PG
namespace PG
open PM (W Tr)
abbrev eM:=Int×Wd×List Int
def bz:List bM->Int->Int
 |[],x=>x
 |s::_,_=>s.row
mutual
def cM:bM->Int->List eM
 |.ifs k _ _ _ a b,x=>(k,.ifs,[bz a x,bz b x])::(aL a x++aL b x)
 |.gw k _ _ _ a,x=>(k,.gw,[bz a k,x])::aL a k
 |.ask k _,x=>[(k,.ask,[x])]
 |.put k _ _,x=>[(k,.put,[x])]
 |.say k _,x=>[(k,.say,[x])]
 |.cE k _ _ _,x=>[(k,.cE,[x])]
 |.stop k,_=>[(k,.stop,[0])]
def aL:List bM->Int->List eM
 |[],_=>[]
 |s::r,x=>cM s (bz r x)++aL r x
end
mutual
theorem zl:∀(s:bM) (x:Int),(cM s x).map (fun r=>(r.1,r.2.1))=jk s
 |.ifs k _ _ _ a b,x=>by simp[cM,jk,dH a x,dH b x]
 |.gw k _ _ _ a,x=>by simp[cM,jk,dH a k]
 |.ask k _,x=>rfl
 |.put k _ _,x=>rfl
 |.say k _,x=>rfl
 |.cE k _ _ _,x=>rfl
 |.stop k,_=>rfl
theorem dH:∀(b:List bM) (x:Int),(aL b x).map (fun r=>(r.1,r.2.1))=dE b
 |[],_=>rfl
 |s::r,x=>by simp[aL,dE,zl s _,dH r x]
end
inductive Tg where
 |row (k:Int) |side (k:Int) (b:Bool) |cE (k:Int) |fin
 deriving DecidableEq
end PG
namespace PG
open PM (W Tr)
mutual
def FR:bM->List Row->Prop
 |.ifs k _ _ _ a b,rs=>(∃ra n,gE a ra/\b=[]/\rs=(k,.ifs)::(ra++[(n,.fin)]))\/(∃ra rb n m,gE a ra/\gE b rb/\rs=(k,.ifs)::(ra++(n,.Ef)::(rb++[(m,.fin)])))
 |.gw k _ _ _ a,rs=>∃ra n,gE a ra/\rs=(k,.gw)::(ra++[(n,.fin)])
 |.ask k _,rs=>rs=[(k,.ask)]
 |.put k _ _,rs=>rs=[(k,.put)]
 |.say k _,rs=>rs=[(k,.say)]
 |.cE k _ _ _,rs=>rs=[(k,.cE)]
 |.stop k,rs=>rs=[(k,.stop)]
def gE:List bM->List Row->Prop
 |[],rs=>rs=[]
 |s::r,rs=>∃r1 r2,FR s r1/\gE r r2/\rs=r1++r2
end
theorem gE.one{s:bM}{rs:List Row}(h:FR s rs):gE [s] rs:=by
 rw[gE]
 exact⟨rs,[],h,by rw[gE],by simp⟩
theorem gE.nil:gE [] []:=by rw[gE]
def Iu (f:Frame) (rs:List Row):Prop:=
 (f.kind=0/\gE f.body rs)\/(f.kind=1/\∃rb,gE f.body rb/\rs=(f.k,.ifs)::rb)\/
 (f.kind=2/\∃rf rb n,gE f.first rf/\gE f.body rb/\rs=(f.k,.ifs)::(rf++(n,.Ef)::rb))\/(f.kind=3/\∃rb,gE f.body rb/\rs=(f.k,.gw)::rb)
mutual
def mG:bM->Nat
 |.ifs _ _ _ _ a b=>max (iu a) (iu b)+1
 |.gw _ _ _ _ a=>iu a+1
 |_=>0
def iu:List bM->Nat
 |[]=>0
 |s::r=>max (mG s) (iu r)
end
end PG
namespace PG
open PM (W Tr)
section
variable(nm:W->Prop)(ex:Tr->Prop)(sg:W->Prop)
mutual
def Eg:bM->Prop
 |.ask _ b=>nm b
 |.put _ b e=>nm b/\ex e
 |.say _ e=>ex e
 |.cE _ s l r=>sg s/\ex l/\ex r
 |.stop _=>True
 |.ifs _ s l r a b=>sg s/\ex l/\ex r/\He a/\He b
 |.gw _ s l r a=>sg s/\ex l/\ex r/\He a
def He:List bM->Prop
 |[]=>True
 |s::r=>Eg s/\He r
end
end
section
variable{nm:W->Prop}{ex:Tr->Prop}{sg:W->Prop}
section
variable{sc:List Int}{bs:List cD}(Se:bs≠[]->∀q,nm (pick ⟨[],0,0⟩ bs (next sc q%bs.length)).name)(hex:∀d q,d<=2->ex (qU sc bs d q).1)(Iv:∀q,sg (pick [] Kf (next sc q%2)))
include Se hex Iv
end
end
def c8:Tr->Nat
 |.bin _ l r=>max (c8 l) (c8 r)+1
 |_=>0
end PG
namespace PG
open PM (W Tr)
inductive Mt where
 |op (Ef fin:Option Nat)
 |back (i:Nat)
 deriving DecidableEq
abbrev Mm:=Nat->Option Mt
def Mm.set (m:Mm) (i:Nat) (x:Mt):Mm:=fun j=>if j=i then some x else m j
theorem Mm.set_same(m:Mm)(i:Nat)(x:Mt):(m.set i x) i=some x:=if_pos rfl
theorem Mm.Br(m:Mm){i j:Nat}(x:Mt)(h:j≠i):(m.set i x) j=m j:=if_neg h
mutual
def o8 (m:Mm):bM->Nat->List Row->Prop
 |.ifs k _ _ _ a b,i,rs=>(∃ra n,lU m a (i+1) ra/\b=[]/\rs=(k,.ifs)::(ra++[(n,.fin)])/\m i=some (.op none (some (i+1+ra.length)))/\m (i+1+ra.length)=some (.back i))\/
  (∃ra rb n x,lU m a (i+1) ra/\lU m b (i+2+ra.length) rb/\rs=(k,.ifs)::(ra++(n,.Ef)::(rb++[(x,.fin)]))/\m i=some (.op (some (i+1+ra.length)) (some (i+2+ra.length+rb.length)))/\
   m (i+1+ra.length)=some (.back i)/\m (i+2+ra.length+rb.length)=some (.back i))
 |.gw k _ _ _ a,i,rs=>∃ra n,lU m a (i+1) ra/\rs=(k,.gw)::(ra++[(n,.fin)])/\m i=some (.op none (some (i+1+ra.length)))/\m (i+1+ra.length)=some (.back i)
 |.ask k _,_,rs=>rs=[(k,.ask)]
 |.put k _ _,_,rs=>rs=[(k,.put)]
 |.say k _,_,rs=>rs=[(k,.say)]
 |.cE k _ _ _,_,rs=>rs=[(k,.cE)]
 |.stop k,_,rs=>rs=[(k,.stop)]
def lU (m:Mm):List bM->Nat->List Row->Prop
 |[],_,rs=>rs=[]
 |s::r,i,rs=>∃r1 r2,o8 m s i r1/\lU m r (i+r1.length) r2/\rs=r1++r2
end
mutual
theorem o8.j6{m m':Mm}:∀(s:bM) {i:Nat} {rs:List Row},o8 m s i rs->(∀j,i<=j->j<i+rs.length->m' j=m j)->o8 m' s i rs
 |.ifs k _ _ _ a b,i,rs,h,q=>by
  rw[o8] at h ⊢
  rcases h with ⟨ra,n,h1,h2,rfl,h3,h4⟩ |⟨ra,rb,n,x,h1,h2,rfl,h3,h4,h5⟩
  ·simp only[List.length_cons,List.length_append,List.length_nil] at q
   exact .inl ⟨ra,n,lU.j6 a h1 (fun j a b=>q j (by lia) (by lia)),h2,rfl,by rw[q i (by lia) (by lia)];exact h3,by rw[q _ (by lia) (by lia)];exact h4⟩
  ·simp only[List.length_cons,List.length_append,List.length_nil] at q
   exact .inr ⟨ra,rb,n,x,lU.j6 a h1 (fun j a b=>q j (by lia) (by lia)),lU.j6 b h2 (fun j a b=>q j (by lia) (by lia)),rfl,by rw[q i (by lia) (by lia)];exact h3,by rw[q _ (by lia) (by lia)];exact h4,by rw[q _ (by lia) (by lia)];exact h5⟩
 |.gw k _ _ _ a,i,rs,h,q=>by
  rw[o8] at h ⊢
  obtain⟨ra,n,h1,rfl,h3,h4⟩:=h
  simp only[List.length_cons,List.length_append,List.length_nil] at q
  exact⟨ra,n,lU.j6 a h1 (fun j a b=>q j (by lia) (by lia)),rfl,by rw[q i (by lia) (by lia)];exact h3,by rw[q _ (by lia) (by lia)];exact h4⟩
 |.ask k _,_,rs,h,_=>by rw[o8] at h ⊢;exact h
 |.put k _ _,_,rs,h,_=>by rw[o8] at h ⊢;exact h
 |.say k _,_,rs,h,_=>by rw[o8] at h ⊢;exact h
 |.cE k _ _ _,_,rs,h,_=>by rw[o8] at h ⊢;exact h
 |.stop k,_,rs,h,_=>by rw[o8] at h ⊢;exact h
theorem lU.j6{m m':Mm}:∀(b:List bM) {i:Nat} {rs:List Row},lU m b i rs->(∀j,i<=j->j<i+rs.length->m' j=m j)->lU m' b i rs
 |[],i,rs,h,_=>by rw[lU] at h ⊢;exact h
 |s::r,i,rs,h,q=>by
  rw[lU] at h ⊢
  obtain⟨r1,r2,h1,h2,rfl⟩:=h
  simp only[List.length_append] at q
  exact⟨r1,r2,o8.j6 s h1 (fun j a b=>q j (by lia) (by lia)),lU.j6 r h2 (fun j a b=>q j (by lia) (by lia)),rfl⟩
end
end PG
namespace PG
open PM (W Tr)
def to (R:List Row) (m:Mm) (p:Nat):Int:=
 if h:p<R.length then
  match (R[p]).2 with
  |.Ef=>match m p with
   |some (.back o)=>match m o with
    |some (.op _ (some e))=>if he:p<=e then to R m (e+1) else 0
    |_=>0
   |_=>0
  |.fin=>match m p with
   |some (.back o)=>match R[o]? with
    |some (k,.gw)=>k
    |_=>to R m (p+1)
   |_=>0
  |_=>(R[p]).1
 else 0
termination_by R.length-p
decreasing_by all_goals lia
def At (R:List Row) (i:Nat) (rs:List Row):Prop:=∀j,j<rs.length->R[i+j]?=rs[j]?
theorem At.right{R:List Row}{i:Nat}{a b:List Row}(h:At R i (a++b)):At R (i+a.length) b:=fun j hj=>by
 have:=h (a.length+j) (by rw[List.length_append];lia)
 rw[List.getElem?_append_right (by lia),show a.length+j-a.length=j by lia] at this
 rw[show i+a.length+j=i+(a.length+j) by lia]
 exact this
theorem At.head{R:List Row}{i:Nat}{x:Row}{b:List Row}(h:At R i (x::b)):R[i]?=some x:=by
 have:=h 0 (by simp)
 simpa using this
theorem At.tail{R:List Row}{i:Nat}{x:Row}{b:List Row}(h:At R i (x::b)):At R (i+1) b:=At.right (a:=[x]) h
end PG
namespace PG
open PM (W Tr)
def Qg (n:Nat) (mode:Int) (rows:List Row):Prop:=(rows.filter plainRow).Pairwise (fun a b=>a.1<b.1)/\∀r∈rows.filter plainRow,0<r.1/\r.1<number n rows mode
mutual
def fX:bM->List bM
 |.ifs k sg l r a b=>.ifs k sg l r a b::(aD a++aD b)
 |.gw k sg l r a=>.gw k sg l r a::aD a
 |s=>[s]
def aD:List bM->List bM
 |[]=>[]
 |s::r=>fX s++aD r
end
mutual
theorem zm:∀s:bM,(fX s).map (fun x=>(x.row,x.wd))=jk s
 |.ifs k sg l r a b=>by
  rw[fX,jk,List.map_cons,List.map_append,eN a,eN b]
  rfl
 |.gw k sg l r a=>by
  rw[fX,jk,List.map_cons,eN a]
  rfl
 |.ask k _=>rfl
 |.put k _ _=>rfl
 |.say k _=>rfl
 |.cE k _ _ _=>rfl
 |.stop k=>rfl
theorem eN:∀b:List bM,(aD b).map (fun x=>(x.row,x.wd))=dE b
 |[]=>rfl
 |s::r=>by simp[aD,dE,zm s,eN r]
end
end PG
namespace PG
open PM (W Tr)
end PG
namespace PG
open PM (W Tr)
theorem Bs{α:Type}(d:α){l:List α}{i:Int}(h0:0<=i)(h1:i<l.length):pick d l i∈l:=by
 unfold pick
 have lt:i.toNat<l.length:=by lia
 rw[List.getD_eq_getElem?_getD,List.getElem?_eq_getElem lt]
 exact List.getElem_mem lt
section
variable{nm:W->Prop}{ex:Tr->Prop}{sg:W->Prop}
mutual
theorem Eh:∀(s x:bM),Eg nm ex sg s->x∈fX s->Eg nm ex sg x
 |.ifs k s l r a b,x,h,m=>by
  rw[fX] at m
  rcases List.mem_cons.mp m with rfl |m
  ·exact h
  ·rw[Eg] at h
   rcases List.mem_append.mp m with m |m
   ·exact kY a x h.2.2.2.1 m
   ·exact kY b x h.2.2.2.2 m
 |.gw k s l r a,x,h,m=>by
  rw[fX] at m
  rcases List.mem_cons.mp m with rfl |m
  ·exact h
  ·rw[Eg] at h
   exact kY a x h.2.2.2 m
 |.ask k b,x,h,m=>by simp only[fX,List.mem_singleton] at m;subst m;exact h
 |.put k b e,x,h,m=>by simp only[fX,List.mem_singleton] at m;subst m;exact h
 |.say k e,x,h,m=>by simp only[fX,List.mem_singleton] at m;subst m;exact h
 |.cE k s l r,x,h,m=>by simp only[fX,List.mem_singleton] at m;subst m;exact h
 |.stop k,x,h,m=>by simp only[fX,List.mem_singleton] at m;subst m;exact h
theorem kY:∀(b:List bM) (x:bM),He nm ex sg b->x∈aD b->Eg nm ex sg x
 |[],x,_,m=>by simp[aD] at m
 |s::r,x,h,m=>by
  rw[aD] at m
  rw[He] at h
  rcases List.mem_append.mp m with m |m
  ·exact Eh s x h.1 m
  ·exact kY r x h.2 m
end
end
end PG
namespace PG
open PM (W Tr)
def xY (bs:List cD):Tr->Prop
 |.num n=>0<=n/\n<1000
 |.box x=>x∈bs.map (·.name)
 |.bin o l r=>o∈([[43],[45],[42]]:List W)/\xY bs l/\xY bs r
end PG
namespace PG
def jF (r:eM):Prop:=0<r.2.2.length/\(r.2.1=.ifs\/r.2.1=.gw->1<r.2.2.length)
mutual
theorem zo:∀(s:bM) (x:Int),∀r∈cM s x,jF r
 |.ifs k sg l r a b,x,y,h=>by
  rw[cM] at h
  simp only[List.mem_cons,List.mem_append] at h
  rcases h with rfl |h |h
  ·simp[jF]
  ·exact jl a x y h
  ·exact jl b x y h
 |.gw k sg l r a,x,y,h=>by
  rw[cM] at h
  simp only[List.mem_cons] at h
  rcases h with rfl |h
  ·simp[jF]
  ·exact jl a k y h
 |.ask k _,x,y,h=>by simp[cM] at h;subst h;simp[jF]
 |.put k _ _,x,y,h=>by simp[cM] at h;subst h;simp[jF]
 |.say k _,x,y,h=>by simp[cM] at h;subst h;simp[jF]
 |.cE k _ _ _,x,y,h=>by simp[cM] at h;subst h;simp[jF]
 |.stop k,x,y,h=>by simp[cM] at h;subst h;simp[jF]
theorem jl:∀(b:List bM) (x:Int),∀r∈aL b x,jF r
 |[],x,y,h=>by simp[aL] at h
 |s::r,x,y,h=>by
  rw[aL,List.mem_append] at h
  rcases h with h |h
  ·exact zo s _ y h
  ·exact jl r x y h
end
end PG
namespace PG
theorem kg:∀(b:List bM) (x:Int),bz b x=x\/∃t∈aD b,t.row=bz b x
 |[],x=>.inl rfl
 |s::r,x=>.inr ⟨s,by rw[aD];exact List.mem_append_left _ (by cases s<;>simp[fX]),rfl⟩
mutual
theorem Bt:∀(s:bM) (x:Int),∀r∈cM s x,∀w∈r.2.2,w=0\/w=x\/∃t∈fX s,t.row=w
 |.ifs k sg l r a b,x,y,h,w,hw=>by
  rw[cM] at h
  simp only[List.mem_cons,List.mem_append] at h
  rw[fX]
  rcases h with rfl |h |h
  ·simp only[List.mem_cons,List.mem_nil_iff,or_false] at hw
   rcases hw with rfl |rfl
   ·rcases kg a x with e |⟨t,ht,e⟩
    ·exact .inr (.inl e)
    ·exact .inr (.inr ⟨t,by simp[ht],e⟩)
   ·rcases kg b x with e |⟨t,ht,e⟩
    ·exact .inr (.inl e)
    ·exact .inr (.inr ⟨t,by simp[ht],e⟩)
  ·rcases kh a x y h w hw with e |e |⟨t,ht,e⟩
   ·exact .inl e
   ·exact .inr (.inl e)
   ·exact .inr (.inr ⟨t,by simp[ht],e⟩)
  ·rcases kh b x y h w hw with e |e |⟨t,ht,e⟩
   ·exact .inl e
   ·exact .inr (.inl e)
   ·exact .inr (.inr ⟨t,by simp[ht],e⟩)
 |.gw k sg l r a,x,y,h,w,hw=>by
  rw[cM] at h
  simp only[List.mem_cons] at h
  rw[fX]
  have self:w=k->∃t∈(bM.gw k sg l r a::aD a),t.row=w:=fun e=>⟨_,List.mem_cons_self ..,e.symm⟩
  rcases h with rfl |h
  ·simp only[List.mem_cons,List.mem_nil_iff,or_false] at hw
   rcases hw with rfl |rfl
   ·rcases kg a k with e |⟨t,ht,e⟩
    ·exact .inr (.inr (self e))
    ·exact .inr (.inr ⟨t,by simp[ht],e⟩)
   ·exact .inr (.inl rfl)
  ·rcases kh a k y h w hw with e |e |⟨t,ht,e⟩
   ·exact .inl e
   ·exact .inr (.inr (self e))
   ·exact .inr (.inr ⟨t,by simp[ht],e⟩)
 |.ask k _,x,y,h,w,hw=>by simp[cM] at h;subst h;simp at hw;exact .inr (.inl hw)
 |.put k _ _,x,y,h,w,hw=>by simp[cM] at h;subst h;simp at hw;exact .inr (.inl hw)
 |.say k _,x,y,h,w,hw=>by simp[cM] at h;subst h;simp at hw;exact .inr (.inl hw)
 |.cE k _ _ _,x,y,h,w,hw=>by simp[cM] at h;subst h;simp at hw;exact .inr (.inl hw)
 |.stop k,x,y,h,w,hw=>by simp[cM] at h;subst h;simp at hw;exact .inl hw
theorem kh:∀(b:List bM) (x:Int),∀r∈aL b x,∀w∈r.2.2,w=0\/w=x\/∃t∈aD b,t.row=w
 |[],x,y,h,_,_=>by simp[aL] at h
 |s::r,x,y,h,w,hw=>by
  rw[aL,List.mem_append] at h
  rw[aD]
  rcases h with h |h
  ·rcases Bt s _ y h w hw with e |e |⟨t,ht,e⟩
   ·exact .inl e
   ·rcases kg r x with e2 |⟨t,ht,e2⟩
    ·exact .inr (.inl (e.trans e2))
    ·exact .inr (.inr ⟨t,List.mem_append_right _ ht,e2.trans e.symm⟩)
   ·exact .inr (.inr ⟨t,List.mem_append_left _ ht,e⟩)
  ·rcases kh r x y h w hw with e |e |⟨t,ht,e⟩
   ·exact .inl e
   ·exact .inr (.inl e)
   ·exact .inr (.inr ⟨t,List.mem_append_right _ ht,e⟩)
end
def Ei (b:List bM) (row:Int):Nat:=(aD b).findIdx (fun s=>s.row==row)
theorem xZ{b:List bM}(pw:(aD b).Pairwise (fun a b=>a.row<b.row))(i:Nat)(hi:i<(aD b).length):Ei b (aD b)[i].row=i:=by
 unfold Ei
 rw[List.findIdx_eq hi]
 refine⟨by simp,fun j hj=>?_⟩
 have:=List.pairwise_iff_getElem.mp pw j i (by lia) hi hj
 simp only[beq_eq_false_iff_ne,ne_eq]
 lia
inductive fJ where
 |on |out |cE (row:Int) |fin
deriving DecidableEq
structure Kg where
 rows:List Int
 Ej:List Int
 fin:fJ
section
variable(ask:Int->Bool)(step:Int->List Int->Int->Option (Int×List Int)×Option Int)
def take1 (a:Bool) (dP:List Int):Option (Int×List Int):=if a then (match dP with |[]=>none |f::r=>some (f,r)) else some (0,dP)
def Bu:Nat->Int->List Int->List Int->Kg
 |0,row,_,_=>if row=0 then ⟨[],[],.fin⟩ else ⟨[],[],.on⟩
 |n+1,row,vals,dP=>if row=0 then ⟨[],[],.fin⟩ else
  match take1 (ask row) dP with
  |none=>⟨[row],[],.out⟩
  |some (f,r)=>match step row vals f with
   |(none,_)=>⟨[row],[],.cE row⟩
   |(some x,s)=>⟨row::(Bu n x.1 x.2 r).rows,s.toList++(Bu n x.1 x.2 r).Ej,(Bu n x.1 x.2 r).fin⟩
def endAt (row:Int):Option fJ:=if row=0 then some .fin else none
def ua (row:Int) (vals left:List Int):Option Int×List Int×Int×List Int×Option fJ:=match take1 (ask row) left with
 |none=>(none,left,row,vals,some .out)
 |some (f,r)=>match step row vals f with
  |(none,s)=>(s,r,row,vals,some (.cE row))
  |(some x,s)=>(s,r,x.1,x.2,endAt x.1)
theorem Bv(n:Nat)(vals left:List Int):Bu ask step n 0 vals left=⟨[],[],.fin⟩:=by
 cases n<;>simp[Bu]
theorem Hf(hs:∀row vals f,(step row vals f).1=none->(step row vals f).2=none){row:Int}(h:row≠0)(k:Nat)(vals left:List Int) :
 Bu ask step (k+1) row vals left=(match (ua ask step row vals left).2.2.2.2 with
  |some e=>⟨[row],(ua ask step row vals left).1.toList,e⟩
  |none=>⟨row::(Bu ask step k (ua ask step row vals left).2.2.1 (ua ask step row vals left).2.2.2.1 (ua ask step row vals left).2.1).rows,
   (ua ask step row vals left).1.toList++(Bu ask step k (ua ask step row vals left).2.2.1 (ua ask step row vals left).2.2.2.1 (ua ask step row vals left).2.1).Ej,
   (Bu ask step k (ua ask step row vals left).2.2.1 (ua ask step row vals left).2.2.2.1 (ua ask step row vals left).2.1).fin⟩):=by
 rw[Bu,if_neg h]
 unfold ua
 cases ht:take1 (ask row) left with
 |none=>rfl
 |some x=>
  obtain⟨f,r⟩:=x
  simp only
  have:=hs row vals f
  rcases pL:step row vals f with ⟨o,s⟩
  rw[pL] at this
  cases o with
  |none=>
   have e:s=none:=this rfl
   subst e
   rfl
  |some x=>
   simp only
   by_cases hx:x.1=0
   ·simp only[endAt,hx,if_true,Bv]
    simp
   ·simp only[endAt,hx,if_false]
theorem Hg{row:Int}{vals left:List Int}(h:(ua ask step row vals left).2.2.2.2=none):(ua ask step row vals left).2.2.1≠0:=by
 revert h
 unfold ua
 split
 ·intro h;cases h
 ·split
  ·intro h;cases h
  ·rename_i x s _
   simp only[endAt]
   intro h e
   rw[if_pos e] at h
   cases h
end
end PG
namespace L2
open PySem
def i6:PG.Wd->Str
 |.ask=>"ask" |.put=>"put" |.say=>"say" |.cE=>"must" |.stop=>"stop" |.ifs=>"if" |.gw=>"while" |.Ef=>"else" |.fin=>"end"
mutual
def cT:PG.bM->Dp
 |.ask k b=>.tup [.str "ask",.int k,.str (S b)]
 |.put k b e=>.tup [.str "put",.int k,.str (S b),eZ e]
 |.say k e=>.tup [.str "say",.int k,eZ e]
 |.cE k sg l r=>.tup [.str "must",.int k,.str (S sg),eZ l,eZ r]
 |.stop k=>.tup [.str "stop",.int k]
 |.ifs k sg l r a b=>.tup [.str "if",.int k,.str (S sg),eZ l,eZ r,.lst (ki a),.lst (ki b)]
 |.gw k sg l r a=>.tup [.str "while",.int k,.str (S sg),eZ l,eZ r,.lst (ki a)]
def ki:List PG.bM->List Dp
 |[]=>[]
 |s::r=>cT s::ki r
end
theorem gF:∀l:List PG.bM,ki l=l.map cT
 |[]=>rfl
 |s::r=>by rw[ki,gF r];rfl
def fK (b:PG.cD):Dp:=.tup [.str (S b.name),.int b.size,.int b.first]
def gQ (p:PG.Prog):Dp:=.tup [.lst (p.aA.map fK),.lst (p.body.map cT)]
def Kh (r:PG.Row):Dp:=.lst [.int r.1,.str (i6 r.2)]
def Ki:PG.Tg->Dp
 |.row k=>.tup [.str "row",.int k]
 |.side k b=>.tup [.str "side",.int k,.bl b]
 |.cE k=>.tup [.str "must",.int k]
 |.fin=>.tup [.str "end"]
def aX (O:Addr->Prop) (H H':Hp):Prop:=∀b o,¬O b->H b=some o->H' b=some o
def Fix (K:PySem.W.Frag) (O:Addr->Prop) (H:Hp) (d:Dp) (v:V):Prop:=∀H',aX O H H'->Rep K H' d v
def cb (K:PySem.W.Frag) (O:Addr->Prop) (H:Hp) (ds:List Dp) (vs:List V):Prop:=∀H',aX O H H'->aC K H' ds vs
section
variable{K:PySem.W.Frag}{O O':Addr->Prop}{H H1 H2:Hp}{d:Dp}{ds:List Dp}{v:V}{vs:List V}{p:Addr}{o:HO}
theorem aX.refl:aX O H H:=fun _ _ _ e=>e
theorem aX.trans(a:aX O H H1)(b:aX O H1 H2):aX O H H2:=fun c u n e=>b c u n (a c u n e)
theorem aX.of(s:ao H H1):aX O H H1:=fun b u _ e=>s b u e
theorem aX.mono(a:aX O H H1)(i:∀b,O b->O' b):aX O' H H1:=fun b u n e=>a b u (fun z=>n (i b z)) e
theorem aX.one(a:bh p H H1)(hp:O p):aX O H H1:=fun b u n e=>a b u (fun z=>n (by rw[z];exact hp)) e
theorem aX.put(a:aX O H H1)(hp:O p)(u:HO):aX O H (upd H1 p u):=fun b w n e=>by rw[aF (fun z=>n (by rw[z];exact hp))];exact a b w n e
theorem aX.new(a:aX O H H1)(hp:H1 p=none)(u:HO):aX O H (upd H1 p u):=fun b w n e=>by rw[aF (aB (a b w n e) hp)];exact a b w n e
theorem Fix.up(f:Fix K O H d v)(u:aX O H H1):Fix K O H1 d v:=fun H2 u2=>f H2 (u.trans u2)
theorem cb.up(f:cb K O H ds vs)(u:aX O H H1):cb K O H1 ds vs:=fun H2 u2=>f H2 (u.trans u2)
theorem Fix.rep(f:Fix K O H d v):Rep K H d v:=f H .refl
theorem cb.Hh(f:cb K O H ds vs):aC K H ds vs:=f H .refl
theorem Fix.sub(f:Fix K O H d v)(i:∀b,O' b->O b):Fix K O' H d v:=fun H2 u=>f H2 (u.mono i)
theorem cb.sub(f:cb K O H ds vs)(i:∀b,O' b->O b):cb K O' H ds vs:=fun H2 u=>f H2 (u.mono i)
theorem cb.apart(f:cb K O H ds vs)(hp:H p=none):cb K (fun b=>O b\/b=p) (upd H p o) ds vs:=fun H2 u=>f H2 fun b w n e=>by
 have np:b≠p:=aB e hp
 exact u b w (fun z=>z.elim n np) (by rw[aF np];exact e)
theorem cb.nil:cb K O H [] []:=fun _ _=>.nil
theorem cb.cons(a:Fix K O H d v)(b:cb K O H ds vs):cb K O H (d::ds) (v::vs):=fun H2 u=>.cons (a H2 u) (b H2 u)
theorem cb.snoc(b:cb K O H ds vs)(a:Fix K O H d v):cb K O H (ds++[d]) (vs++[v]):=fun H2 u=>(b H2 u).append (.cons (a H2 u) .nil)
theorem Fix.int{i:Int}:Fix K O H (.int i) (.int i):=fun _ _=>Rep.aY.mpr rfl
theorem Fix.str{x:Str}:Fix K O H (.str x) (.str x):=fun _ _=>Rep.bu.mpr rfl
theorem Fix.bl{x:Bool}:Fix K O H (.bl x) (.bl x):=fun _ _=>Rep.lS.mpr rfl
theorem Fix.tup(h:H p=some (.tup vs))(n:¬O p)(f:cb K O H ds vs):Fix K O H (.tup ds) (.ref p):=fun H2 u=>Rep.aQ.mpr ⟨p,vs,rfl,.of (u p _ n h),f H2 u⟩
theorem Fix.lst(h:H p=some (.lst vs))(n:¬O p)(f:cb K O H ds vs):Fix K O H (.lst ds) (.ref p):=fun H2 u=>Rep.bF.mpr ⟨p,vs,rfl,.of (u p _ n h),f H2 u⟩
end
structure Bw(K:PySem.W.Frag)(H:Hp)(D S:Addr)(sc:List Int)(p:Nat):Prop where
 lV:H D=some (.lst [.ref S,.int p])
 wb:H S=some (.lst (sc.map .int))
 ne:S≠D
 len:sc.length<=63
end L2
namespace L2
open PySem
section
variable(K:PySem.W.Frag)
end
theorem Bw.same{K:PySem.W.Frag}{H H':Hp}{D S:Addr}{sc:List Int}{p:Nat}(d:Bw K H D S sc p)(s:ao H H'):Bw K H' D S sc p:=⟨s _ _ d.lV,s _ _ d.wb,d.ne,d.len⟩
theorem eD.iO{K:PySem.W.Frag}{H H':Hp}{D a:Addr}{xs:List V}(h:eD K H a xs)(u:bh D H H')(n:a≠D):eD K H' a xs:=by
 rcases h with (h |⟨o,h⟩) |h
 ·exact .inl (.inl (u _ _ n h))
 ·exact .inl (.inr ⟨o,u _ _ n h⟩)
 ·exact .inr h
theorem x8{a:Option V}{r:St}{H:Hp}{Q:VK}:(fo 13 (a::r) H Q)=(fo 12 r H Q):=rfl
theorem yb{a:Option V}{r:St}{H:Hp}{Q:VK}:(fo 14 (a::r) H Q)=(fo 13 r H Q):=rfl
def gG (K:PySem.W.Frag) (O:Addr->Prop) (H:Hp) (B:Addr) (bs:List PG.cD):Prop:=Fix K O H (.lst (bs.map fK)) (.ref B)/\bs.length<=10
def Own (K:PySem.W.Frag) (H0 H:Hp) (d:Dp) (v:V):Prop:=∀O:Addr->Prop,(∀b,O b->H0 b≠none)->Fix K O H d v
section
variable(K:PySem.W.Frag)
end
section
variable{K:PySem.W.Frag}{O:Addr->Prop}{H0 H H1:Hp}{d:Dp}{v:V}{D B:Addr}{bs:List PG.cD}
theorem Own.up(f:Own K H0 H d v)(u:bh D H H1)(hD:H0 D≠none):Own K H0 H1 d v:=fun O hO=>by
 have:=f (fun b=>O b\/b=D) (fun b hb=>hb.elim (hO b) (fun e=>e▸hD))
 exact(this.up (aX.one u (.inr rfl))).sub fun b hb=>.inl hb
theorem Own.same(f:Own K H0 H d v)(s:ao H H1):Own K H0 H1 d v:=fun O hO=>(f O hO).up (.of s)
theorem Own.back{Qh:Hp}(f:Own K H0 H d v)(h:∀b,Qh b≠none->H0 b≠none):Own K Qh H d v:=fun O hO=>f O fun b hb=>h b (hO b hb)
theorem gG.up(f:gG K (·=D) H B bs)(u:bh D H H1):gG K (·=D) H1 B bs:=⟨f.1.up (aX.one u rfl),f.2⟩
theorem gG.same(f:gG K (·=D) H B bs)(s:ao H H1):gG K (·=D) H1 B bs:=⟨f.1.up (.of s),f.2⟩
theorem bh.Qi(u:bh D H H1)(hD:H1 D≠none):∀b,H b≠none->H1 b≠none:=fun b hb=>by
 by_cases e:b=D
 ·rw[e];exact hD
 ·cases z:H b with
  |none=>exact absurd z hb
  |some o=>rw[u b o e z];simp
theorem gG.list(f:gG K O H B bs):∃xs,eD K H B xs/\xs.length=bs.length/\∀(i:Nat) (b:PG.cD),bs[i]?=some b->∃a ys,xs[i]?=some (.ref a)/\bR K H a ys/\ys=[.str (S b.name),.int b.size,.int b.first]:=by
 have r:=f.1.rep
 rw[Rep.bF] at r
 obtain⟨a,xs,e,q,rs⟩:=r
 cases e
 refine⟨xs,q,by rw[rs.length,List.length_map],fun i b hb=>?_⟩
 obtain⟨v,hv,rv⟩:=rs.get (i:=i) (d:=fK b) (by rw[List.getElem?_map,hb];rfl)
 unfold fK at rv
 rw[Rep.aQ] at rv
 obtain⟨a2,ys,rfl,q2,r2⟩:=rv
 refine⟨a2,ys,hv,q2,?_⟩
 rw[aC.az] at r2
 obtain⟨v1,t1,rfl,e1,r2⟩:=r2
 rw[aC.az] at r2
 obtain⟨v2,t2,rfl,e2,r2⟩:=r2
 rw[aC.az] at r2
 obtain⟨v3,t3,rfl,e3,r2⟩:=r2
 rw[aC.aV] at r2
 subst r2
 rw[Rep.bu] at e1
 rw[Rep.aY] at e2 e3
 subst e1 e2 e3
 rfl
end
def mH (K:PySem.W.Frag) (H0 H:Hp) (ds:List Dp) (vs:List V):Prop:=∀O:Addr->Prop,(∀b,O b->H0 b≠none)->cb K O H ds vs
section
variable{K:PySem.W.Frag}{H0 H H1:Hp}{d:Dp}{v:V}{ds:List Dp}{vs:List V}{D p:Addr}
theorem mH.nil:mH K H0 H [] []:=fun _ _=>cb.nil
theorem mH.cons(a:Own K H0 H d v)(b:mH K H0 H ds vs):mH K H0 H (d::ds) (v::vs):=fun O h=>cb.cons (a O h) (b O h)
theorem Own.int{i:Int}:Own K H0 H (.int i) (.int i):=fun _ _=>Fix.int
theorem Own.str{x:Str}:Own K H0 H (.str x) (.str x):=fun _ _=>Fix.str
theorem Own.bl{x:Bool}:Own K H0 H (.bl x) (.bl x):=fun _ _=>Fix.bl
theorem mH.same(f:mH K H0 H ds vs)(s:ao H H1):mH K H0 H1 ds vs:=fun O hO=>(f O hO).up (.of s)
end
theorem gG.pick{K:PySem.W.Frag}{O:Addr->Prop}{H:Hp}{B:Addr}{bs:List PG.cD}(f:gG K O H B bs){i:Int}(h0:0<=i)(h1:i<bs.length){Q:VK}(q:Q (.str (S (PG.pick ⟨[],0,0⟩ bs i).name)) H) :
 AQ K (.ref B) (.int i) H (fun x H1=>uz K x (.int 0) H1 Q):=by
 obtain⟨xs,hx,_,get⟩:=f.list
 have lt:i.toNat<bs.length:=by lia
 have e:bs[i.toNat]?=some (PG.pick ⟨[],0,0⟩ bs i):=by
  unfold PG.pick
  rw[List.getD_eq_getElem?_getD,List.getElem?_eq_getElem lt]
  rfl
 obtain⟨a,ys,hy,q2,rfl⟩:=get _ _ e
 have ei:i=((i.toNat:Nat):Int):=by lia
 refine bI hx (v:=.ref a) (by rw[ei];exact aw hy) (aG q2 (v:=.str (S (PG.pick ⟨[],0,0⟩ bs i).name)) (aw (j:=0) rfl) q)
theorem mH.up{K:PySem.W.Frag}{H0 H H1:Hp}{ds:List Dp}{vs:List V}{D:Addr}(f:mH K H0 H ds vs)(u:bh D H H1)(hD:H0 D≠none):mH K H0 H1 ds vs:=fun O hO=>by
 have:=f (fun b=>O b\/b=D) (fun b hb=>hb.elim (hO b) (fun e=>e▸hD))
 exact(this.up (aX.one u (.inr rfl))).sub fun b hb=>.inl hb
theorem mH.snoc{K:PySem.W.Frag}{H0 H:Hp}{d:Dp}{v:V}{ds:List Dp}{vs:List V}(b:mH K H0 H ds vs)(a:Own K H0 H d v):mH K H0 H (ds++[d]) (vs++[v]):=fun O h=>cb.snoc (b O h) (a O h)
end L2
namespace L2
open PySem
def Sf:Nat->Str
 |0=>"all"
 |1=>"if"
 |2=>"else"
 |_=>"while"
structure iR(K:PySem.W.Frag)(Oo:Addr->Prop)(H:Hp)(f:PG.Frame)(a b:Addr)(hd fi:V)(xs:List V):Prop where
 fr:H a=some (.lst [.str (Sf f.kind),.ref b,hd,fi])
 bd:H b=some (.lst xs)
 ok:cb K Oo H (f.body.map cT) xs
 Kj:f.kind≠0->∃c ys,hd=.ref c/\H c=some (.tup ys)/\¬Oo c/\cb K Oo H [.str (if f.kind=3 then "while" else "if"),.int f.k,.str (S f.sg),eZ f.l,eZ f.r] ys
 Kk:f.kind=2->Fix K Oo H (.lst (f.first.map cT)) fi
 len:xs.length=f.body.length
abbrev Mf:=PG.Frame×Addr×Addr
def rY (D P R:Addr) (fZ:List Mf):List Addr:=D::P::R::fZ.flatMap fun x=>[x.2.1,x.2.2]
def O (D P R:Addr) (fZ:List Mf) (E:List Addr):Addr->Prop:=fun b=>b∈rY D P R fZ\/b∈E
structure ub(K:PySem.W.Frag)(H:Hp)(D S:Addr)(sc:List Int)(p:Nat)(B:Addr)(bs:List PG.cD)(P R:Addr)(fZ:List Mf)(rows:List PG.Row)(E:List Addr):Prop where
 lV:Bw K H D S sc p
 box:Fix K (O D P R fZ E) H (.lst (bs.map fK)) (.ref B)
 o9:bs.length<=10
 qb:H P=some (.lst (fZ.reverse.map fun x=>.ref x.2.1))
 frames:∀x∈fZ,∃hd fi xs,iR K (O D P R fZ E) H x.1 x.2.1 x.2.2 hd fi xs
 rows:∃Aj,H R=some (.lst Aj)/\cb K (O D P R fZ E) H (rows.map Kh) Aj/\Aj.length=rows.length
 nd:(rY D P R fZ).Nodup
 nS:S ∉ rY D P R fZ
section
variable{K:PySem.W.Frag}{H H':Hp}{D S B P R:Addr}{sc:List Int}{p p':Nat}{bs:List PG.cD}{fZ:List Mf}{rows:List PG.Row}{E E':List Addr}
theorem iR.up{Oo:Addr->Prop}{f:PG.Frame}{a b:Addr}{hd fi:V}{xs:List V}(x:iR K Oo H f a b hd fi xs)(u:aX Oo H H')(ha:H' a=H a)(hb:H' b=H b):iR K Oo H' f a b hd fi xs:=
 ⟨ha.trans x.fr,hb.trans x.bd,x.ok.up u,fun z=>let ⟨c,ys,e,h,n,g⟩:=x.Kj z;⟨c,ys,e,u _ _ n h,n,g.up u⟩,fun z=>(x.Kk z).up u,x.len⟩
theorem iR.sub{O1 O2:Addr->Prop}{f:PG.Frame}{a b:Addr}{hd fi:V}{xs:List V}(x:iR K O1 H f a b hd fi xs)(i:∀c,O2 c->O1 c):iR K O2 H f a b hd fi xs:=
 ⟨x.fr,x.bd,x.ok.sub i,fun z=>let ⟨c,ys,e,h,n,g⟩:=x.Kj z;⟨c,ys,e,h,fun w=>n (i c w),g.sub i⟩,fun z=>(x.Kk z).sub i,x.len⟩
theorem ub.ne(s:ub K H D S sc p B bs P R fZ rows E):D≠P/\D≠R/\P≠R/\∀x∈fZ,x.2.1≠D/\x.2.2≠D/\x.2.1≠P/\x.2.2≠P/\x.2.1≠R/\x.2.2≠R:=by
 have nd:=s.nd
 unfold rY at nd
 rw[List.nodup_cons,List.nodup_cons,List.nodup_cons] at nd
 obtain⟨h1,h2,h3,h4⟩:=nd
 simp only[List.mem_cons,not_or] at h1 h2
 refine⟨h1.1,h1.2.1,h2.1,fun x hx=>?_⟩
 have m1:x.2.1∈fZ.flatMap fun x=>[x.2.1,x.2.2]:=List.mem_flatMap.mpr ⟨x,hx,by simp⟩
 have m2:x.2.2∈fZ.flatMap fun x=>[x.2.1,x.2.2]:=List.mem_flatMap.mpr ⟨x,hx,by simp⟩
 exact⟨fun e=>h1.2.2 (e▸m1),fun e=>h1.2.2 (e▸m2),fun e=>h2.2 (e▸m1),fun e=>h2.2 (e▸m2),fun e=>h3 (e▸m1),fun e=>h3 (e▸m2)⟩
theorem ub.Qi(s:ub K H D S sc p B bs P R fZ rows E):∀b,b∈rY D P R fZ->H b≠none:=fun b hb=>by
 unfold rY at hb
 simp only[List.mem_cons,List.mem_flatMap] at hb
 rcases hb with rfl |rfl |rfl |⟨x,hx,hb⟩
 ·rw[s.lV.lV];simp
 ·rw[s.qb];simp
 ·obtain⟨Aj,h,_⟩:=s.rows
  rw[h];simp
 ·obtain⟨hd,fi,xs,fa⟩:=s.frames x hx
  simp only[List.not_mem_nil,or_false] at hb
  rcases hb with rfl |rfl
  ·rw[fa.fr];simp
  ·rw[fa.bd];simp
theorem ub.draw(s:ub K H D S sc p B bs P R fZ rows E)(u:bh D H H')(dk:Bw K H' D S sc p'):ub K H' D S sc p' B bs P R fZ rows E:=by
 obtain⟨n1,n2,n3,n4⟩:=s.ne
 have uS:aX (O D P R fZ E) H H':=aX.one u (.inl (by simp[rY]))
 refine⟨dk,s.box.up uS,s.o9,u _ _ n1.symm s.qb,fun x hx=>?_,?_,s.nd,s.nS⟩
 ·obtain⟨hd,fi,xs,fa⟩:=s.frames x hx
  obtain⟨m1,m2,_⟩:=n4 x hx
  exact⟨hd,fi,xs,fa.up uS ((u _ _ m1 fa.fr).trans fa.fr.symm) ((u _ _ m2 fa.bd).trans fa.bd.symm)⟩
 ·obtain⟨Aj,h,f,l⟩:=s.rows
  exact⟨Aj,u _ _ n2.symm h,f.up uS,l⟩
theorem ub.same(s:ub K H D S sc p B bs P R fZ rows E)(e:ao H H'):ub K H' D S sc p B bs P R fZ rows E:=s.draw (.of e) (s.lV.same e)
theorem ub.aA(s:ub K H D S sc p B bs P R fZ rows E):gG K (·=D) H B bs:=⟨s.box.sub fun b hb=>.inl (by rw[show b=D from hb];simp[rY]),s.o9⟩
theorem ub.row(s:ub K H D S sc p B bs P R fZ rows E){Aj:List V}(hR:H R=some (.lst Aj)){k:Int}{w:PG.Wd}{q:Addr}(hq:H q=some (.lst [.int k,.str (i6 w)]))(nq:¬O D P R fZ E q):ub K (upd H R (.lst (Aj++[.ref q]))) D S sc p B bs P R fZ (rows++[(k,w)]) E:=by
 obtain⟨n1,n2,n3,n4⟩:=s.ne
 have mR:R∈rY D P R fZ:=by simp[rY]
 have uS:aX (O D P R fZ E) H (upd H R (.lst (Aj++[.ref q]))):=aX.refl.put (.inl mR) _
 have Sg:S≠R:=fun e=>s.nS (by rw[e];exact mR)
 refine⟨⟨by rw[aF n2];exact s.lV.lV,by rw[aF Sg];exact s.lV.wb,s.lV.ne,s.lV.len⟩,s.box.up uS,s.o9,by rw[aF n3];exact s.qb,fun x hx=>?_,?_,s.nd,s.nS⟩
 ·obtain⟨hd,fi,xs,fa⟩:=s.frames x hx
  obtain⟨_,_,_,_,m1,m2⟩:=n4 x hx
  exact⟨hd,fi,xs,fa.up uS (aF m1) (aF m2)⟩
 ·obtain⟨Sh,h,f,l⟩:=s.rows
  rw[hR] at h
  cases h
  refine⟨_,aj,?_,by simp[l]⟩
  rw[List.map_append]
  exact(f.up uS).snoc (Fix.lst (by rw[aF (fun e=>nq (.inl (by rw[e];exact mR)))];exact hq) nq (.cons .int (.cons .str .nil)))
theorem ub.push(s:ub K H D S sc p B bs P R fZ rows E){f:PG.Frame}{a b:Addr}{hd fi:V}{xs:List V}(fa:iR K (O D P R fZ E) H f a b hd fi xs)(ha:a ∉ rY D P R fZ)(hb:b ∉ rY D P R fZ)(Si:a≠b)(Sj:S≠a)(Sk:S≠b)(ea:a∈E)(eb:b∈E) :
 ub K (upd H P (.lst ((fZ.reverse.map fun x=>.ref x.2.1)++[.ref a]))) D S sc p B bs P R ((f,a,b)::fZ) rows E:=by
 obtain⟨n1,n2,n3,n4⟩:=s.ne
 have mP:P∈rY D P R fZ:=by simp[rY]
 have uS:aX (O D P R fZ E) H (upd H P (.lst ((fZ.reverse.map fun x=>.ref x.2.1)++[.ref a]))):=aX.refl.put (.inl mP) _
 have j:∀c,O D P R ((f,a,b)::fZ) E c->O D P R fZ E c:=fun c hc=>by
  simp only[O,rY,List.mem_cons,List.flatMap_cons,List.cons_append,List.nil_append] at hc ⊢
  rcases hc with (h |h |h |h |h |h) |h
  ·exact .inl (.inl h)
  ·exact .inl (.inr (.inl h))
  ·exact .inl (.inr (.inr (.inl h)))
  ·exact .inr (by rw[h];exact ea)
  ·exact .inr (by rw[h];exact eb)
  ·exact .inl (.inr (.inr (.inr h)))
  ·exact .inr h
 have Sl:S≠P:=fun e=>s.nS (by rw[e];exact mP)
 unfold rY at ha hb
 simp only[List.mem_cons,not_or] at ha hb
 have nd:=s.nd
 unfold rY at nd
 simp only[List.nodup_cons,List.mem_cons,not_or] at nd
 obtain⟨⟨d1,d2,d5⟩,⟨p1,p4⟩,r3,fl⟩:=nd
 have nS:=s.nS
 unfold rY at nS
 simp only[List.mem_cons,not_or] at nS
 refine⟨⟨by rw[aF n1];exact s.lV.lV,by rw[aF Sl];exact s.lV.wb,s.lV.ne,s.lV.len⟩,(s.box.up uS).sub j,s.o9,by rw[aj,List.reverse_cons,List.map_append];rfl,fun x hx=>?_,?_,?_,?_⟩
 ·rcases List.mem_cons.mp hx with rfl |hx
  ·exact⟨hd,fi,xs,(fa.up uS (aF ha.2.1) (aF hb.2.1)).sub j⟩
  ·obtain⟨hd,fi,Sm,fa⟩:=s.frames x hx
   obtain⟨_,_,k3,k4,_,_⟩:=n4 x hx
   exact⟨hd,fi,Sm,(fa.up uS (aF k3) (aF k4)).sub j⟩
 ·obtain⟨Aj,h,g,l⟩:=s.rows
  exact⟨Aj,by rw[aF n3.symm];exact h,(g.up uS).sub j,l⟩
 ·unfold rY
  rw[List.flatMap_cons]
  simp only[List.cons_append,List.nil_append,List.nodup_cons,List.mem_cons,not_or]
  exact⟨⟨d1,d2,fun e=>ha.1 e.symm,fun e=>hb.1 e.symm,d5⟩,⟨p1,fun e=>ha.2.1 e.symm,fun e=>hb.2.1 e.symm,p4⟩,⟨fun e=>ha.2.2.1 e.symm,fun e=>hb.2.2.1 e.symm,r3⟩,⟨Si,ha.2.2.2⟩,hb.2.2.2,fl⟩
 ·unfold rY
  rw[List.flatMap_cons]
  simp only[List.cons_append,List.nil_append,List.mem_cons,not_or]
  exact⟨nS.1,nS.2.1,nS.2.2.1,Sj,Sk,nS.2.2.2⟩
end
end L2
namespace L2
open PySem
theorem wc{K:PySem.W.Frag}{a D:Addr}{xs:List V}{tc:TT}{te:TE}{Q:VK}{r:St}{H:Hp}(p:Nat->Bool)(f:Nat->V)(hS:eD K H a xs)(hl:xs.length<=16000000)(hD:H D=none)
 (test:∀i x,xs[i]?=some x->∀H2,ao H H2->∀R:Bool->Hp->Prop,(∀H3,ao H2 H3->R (p i) H3)->tc (some x::r) H2 R)
 (step:∀i x,xs[i]?=some x->p i=true->∀H2,ao H H2->∀R:VK,(∀H3,ao H2 H3->R (f i) H3)->te (some x::r) H2 R)
 (q:∀H2,ao H H2->H2 D=some (.lst (((List.range xs.length).filter p).map f))->Q (.ref D) H2):lp (yR K a) D (il 0) tc te Q (none::r) (upd H D (.lst [])):=by
 refine⟨fun i m τ H2=>m=xs.length-i/\i<=xs.length/\(∃x,τ=x::r)/\ao H H2/\H2 D=some (.lst (((List.range i).filter p).map f)),⟨xs.length,by simp,Nat.zero_le _,⟨none,rfl⟩,ao.new hD _,by rw[aj];simp⟩,?_⟩
 rintro i m τ H2 ⟨rfl,hi,⟨x,rfl⟩,s2,h2⟩
 by_cases lR:i<xs.length
 ·refine .inr ⟨⟨xs,xs[i],s2.seq hS,by simp[lR]⟩,fun τ' H'=>(∃x,τ'=x::r)/\ao H H'/\H' D=some (.lst (((List.range (i+1)).filter p).map f)),fun τ' H' ⟨h1,h3,h4⟩=>⟨xs.length-(i+1),by lia,rfl,lR,h1,h3,h4⟩,fun y H' hy=>?_⟩
  obtain⟨rfl,hy⟩:=hy
  have ey:=hy _ (s2.seq hS)
  simp only[il,List.set]
  refine test i y ey _ s2 _ fun H3 s3=>?_
  have qV:=s2.trans s3
  have h3:=s3 _ _ h2
  rw[List.range_succ,List.filter_append,List.map_append]
  cases hp:p i with
  |false=>
   rw[if_neg Bool.false_ne_true]
   exact⟨⟨_,rfl⟩,qV,by rw[h3];simp[hp]⟩
  |true=>
   rw[if_pos rfl]
   refine step i y ey hp _ qV _ fun H4 s4=>⟨_,s4 _ _ h3,?_,⟨_,rfl⟩,?_,?_⟩
   ·have h1:(((List.range i).filter p).map f).length<=i:=by
     rw[List.length_map]
     exact Nat.le_trans (List.length_filter_le _ _) (by rw[List.length_range];lia)
    have:sizeLine=2 ^ 24:=rfl
    lia
   ·intro b o e
    rw[aF (aB e hD)]
    exact s4 _ _ (qV _ _ e)
   ·rw[aj]
    simp[hp]
 ·have e:i=xs.length:=by lia
  subst e
  exact .inl ⟨⟨xs,s2.seq hS,Nat.le_refl _⟩,q H2 s2 h2⟩
section
variable(K:PySem.W.Frag)
end
theorem qc{X:Cx}{K:PySem.W.Frag}(h:X.K=K):Im X (AQ K):=h▸bK
theorem fj{X:Cx}{K:PySem.W.Frag}(h:X.K=K):Im X (uz K):=h▸au
end L2
namespace L2
open PySem
section
variable(K:PySem.W.Frag)
end
def Kept (D:Addr) (H H':Hp):Prop:=bh D H H'/\∀b,H b≠none->H' b≠none
theorem Kept.up{D:Addr}{H H1 H2:Hp}(k:Kept D H H1)(u:bh D H1 H2)(hD:H2 D≠none):Kept D H H2:=⟨k.1.trans u,fun b hb=>u.Qi hD b (k.2 b hb)⟩
theorem Kept.same{D:Addr}{H H1 H2:Hp}(k:Kept D H H1)(s:ao H1 H2):Kept D H H2:=⟨k.1.trans (.of s),fun b hb=>by
 have:=k.2 b hb
 cases z:H1 b with
 |none=>exact absurd z this
 |some o=>rw[s _ _ z];simp⟩
theorem Kept.put{D q:Addr}{H H1:Hp}(k:Kept D H H1)(hq:H q=none)(o:HO):Kept D H (upd H1 q o):=⟨fun b u n e=>by rw[aF (aB e hq)];exact k.1 b u n e,fun b hb=>by
 by_cases z:b=q
 ·rw[z,aj];simp
 ·rw[aF z];exact k.2 b hb⟩
def aM:PG.bM->List (List PG.bM)
 |.ifs _ _ _ _ a b=>[a,b]
 |.gw _ _ _ _ a=>[a]
 |_=>[]
def fL (s:PG.bM) (x:Int):Int:=match s with
 |.gw k _ _ _ _=>k
 |_=>x
def kj (s:PG.bM) (x:Int):List Int:=match s with
 |.stop _=>[0]
 |.ifs _ _ _ _ a b=>[PG.bz a x,PG.bz b x]
 |.gw k _ _ _ a=>[PG.bz a k,x]
 |_=>[x]
theorem Bx(s:PG.bM)(x:Int):PG.cM s x=(s.row,s.wd,kj s x)::((aM s).flatMap fun b=>PG.aL b (fL s x)):=by
 cases s<;>simp[PG.cM,PG.bM.row,PG.bM.wd,kj,aM,fL]
def fM (r:PG.eM):Dp:=.tup [.int r.1,.str (i6 r.2.1),.tup (r.2.2.map .int)]
section
variable(K:PySem.W.Frag)
def pF:Sp:=fun vs H Q _=>∃(b:Addr) (body:List PG.bM) (x:Int),vs=[.ref b,.int x]/\Rep K H (.lst (body.map cT)) (.ref b)/\body.length<=100000/\Q (.int (PG.bz body x)) H
def uN:Sp:=fun vs H Q _=>∃(v:V) (st:PG.bM) (x:Int),vs=[v,.int x]/\Rep K H (cT st) v/\Q (.int (fL st x)) H
def qd:Sp:=fun vs H Q _=>∃(v:V) (st:PG.bM) (H0:Hp),vs=[v]/\Rep K H0 (cT st) v/\ao H0 H/\∀l us H',ao H H'->H l=none->H' l=some (.lst us)->aC K H0 ((aM st).map fun b=>.lst (b.map cT)) us->Q (.ref l) H'
end
theorem fD{K:PySem.W.Frag}{H:Hp}:∀(s:PG.bM) {v:V},Rep K H (cT s) v->∃a ys,v=.ref a/\bR K H a (.str (i6 s.wd) :: .int s.row::ys):=by
 intro s v h
 have key:∃ds,cT s=.tup (.str (i6 s.wd) :: .int s.row::ds):=by
  cases s<;>exact⟨_,by rw[cT];rfl⟩
 obtain⟨ds,e⟩:=key
 rw[e,Rep.aQ] at h
 obtain⟨a,xs,rfl,q,r⟩:=h
 rw[aC.az] at r
 obtain⟨v1,t1,rfl,e1,r⟩:=r
 rw[aC.az] at r
 obtain⟨v2,t2,rfl,e2,_⟩:=r
 rw[Rep.bu] at e1
 rw[Rep.aY] at e2
 subst e1 e2
 exact⟨a,t2,rfl,q⟩
section
variable(K:PySem.W.Frag)
def By (st:PG.bM):Prop:=∀b∈aM st,b.length<=100000
def Bz:Sp:=fun vs H Q _=>∃(v:V) (st:PG.bM) (x:Int),vs=[v,.int x]/\Rep K H (cT st) v/\By st/\∀u H',ao H H'->Rep K H' (.tup ((kj st x).map .int)) u->Q u H'
end
mutual
def vC:Dp->Bool
 |.lst _=>false
 |.tup l=>kk l
 |_=>true
def kk:List Dp->Bool
 |[]=>true
 |d::r=>vC d&&kk r
end
section
variable{K:PySem.W.Frag}{H H':Hp}{tl:Addr}{xs:List V}
mutual
theorem uO(h:H tl=some (.lst xs))(u:aX (·=tl) H H'):∀(d:Dp) (v:V),vC d=true->Rep K H d v->Rep K H' d v
 |.c6,v,_,r=>by rw[Rep.kW] at r ⊢;exact r
 |.bl b,v,_,r=>by rw[Rep.lS] at r ⊢;exact r
 |.int b,v,_,r=>by rw[Rep.aY] at r ⊢;exact r
 |.str b,v,_,r=>by rw[Rep.bu] at r ⊢;exact r
 |.lst l,v,e,_=>by rw[vC] at e;cases e
 |.tup l,v,e,r=>by
  rw[vC] at e
  rw[Rep.aQ] at r ⊢
  obtain⟨a,ys,rfl,q,rs⟩:=r
  refine⟨a,ys,rfl,?_,nP h u l ys e rs⟩
  rcases q with (q |⟨o,q⟩) |q
  ·exact .inl (.inl (u _ _ (bS q h (by intro z;cases z)) q))
  ·exact .inl (.inr ⟨o,u _ _ (bS q h (by intro z;cases z)) q⟩)
  ·exact .inr q
theorem nP(h:H tl=some (.lst xs))(u:aX (·=tl) H H'):∀(ds:List Dp) (vs:List V),kk ds=true->aC K H ds vs->aC K H' ds vs
 |[],vs,_,r=>by rw[aC.aV] at r ⊢;exact r
 |d::ds,vs,e,r=>by
  rw[kk,Bool.and_eq_true] at e
  rw[aC.az] at r ⊢
  obtain⟨v,t,rfl,r1,r2⟩:=r
  exact⟨v,t,rfl,uO h u d v e.1 r1,nP h u ds t e.2 r2⟩
end
theorem Ek(h:H tl=some (.lst xs)){ds:List Dp}{vs:List V}(e:kk ds=true)(r:aC K H ds vs):cb K (·=tl) H ds vs:=fun _ u=>nP h u ds vs e r
theorem Hi(h:H tl=some (.lst xs)){d:Dp}{v:V}(e:vC d=true)(r:Rep K H d v):Fix K (·=tl) H d v:=fun _ u=>uO h u d v e r
end
theorem nQ:∀l:List Int,kk (l.map .int)=true
 |[]=>by simp[kk]
 |i::r=>by rw[List.map_cons,kk,nQ r];simp[vC]
theorem BA(r:PG.eM):vC (fM r)=true:=by simp[fM,vC,kk,nQ]
theorem rZ:∀l:List PG.eM,kk (l.map fM)=true
 |[]=>by simp[kk]
 |r::l=>by rw[List.map_cons,kk,BA,rZ l];rfl
section
variable(K:PySem.W.Frag)
def pG (n:Nat):Sp:=fun vs H Q _=>∃(b:Addr) (body:List PG.bM) (x:Int),vs=[.ref b,.int x]/\Rep K H (.lst (body.map cT)) (.ref b)/\PG.iu body<n/\(PG.dE body).length<=1000/\
 ∀l us H',ao H H'->H l=none->H' l=some (.lst us)->aC K H' ((PG.aL body x).map fM) us->Q (.ref l) H'
end
mutual
theorem jG:∀(s:PG.bM) (b:List PG.bM),b∈aM s->(PG.dE b).length+1<=(PG.jk s).length/\PG.iu b+1<=PG.mG s
 |.ifs k _ _ _ x y,b,h=>by
  simp only[aM,List.mem_cons,List.not_mem_nil,or_false] at h
  rw[PG.jk,PG.mG]
  simp only[List.length_cons,List.length_append]
  rcases h with rfl |rfl<;>lia
 |.gw k _ _ _ x,b,h=>by
  simp only[aM,List.mem_cons,List.not_mem_nil,or_false] at h
  rw[PG.jk,PG.mG]
  simp only[List.length_cons]
  subst h
  lia
 |.ask _ _,b,h=>by cases h
 |.put _ _ _,b,h=>by cases h
 |.say _ _,b,h=>by cases h
 |.cE _ _ _ _,b,h=>by cases h
 |.stop _,b,h=>by cases h
end
theorem nR:∀(l:List PG.bM) (s:PG.bM),s∈l->(PG.jk s).length<=(PG.dE l).length/\PG.mG s<=PG.iu l
 |[],s,h=>by cases h
 |a::r,s,h=>by
  rw[PG.dE,PG.iu,List.length_append]
  rcases List.mem_cons.mp h with rfl |h
  ·lia
  ·have:=nR r s h
   lia
theorem zp(s:PG.bM):1<=(PG.jk s).length:=by cases s<;>simp[PG.jk]
theorem jm:∀l:List PG.bM,l.length<=(PG.dE l).length
 |[]=>Nat.zero_le _
 |s::r=>by
  rw[PG.dE,List.length_append,List.length_cons]
  have:=zp s
  have:=jm r
  lia
section
variable(K:PySem.W.Frag)
def BB:Sp:=fun vs H Q _=>∃(v:V) (pr:PG.Prog),vs=[v]/\Rep K H (gQ pr) v/\PG.iu pr.body<=3/\(PG.dE pr.body).length<=1000/\
 ∀l us H',ao H H'->H l=none->H' l=some (.lst us)->aC K H' ((PG.aL pr.body 0).map fM) us->Q (.ref l) H'
end
end L2
namespace L2
open PySem
section
variable{X:Cx}
end
structure NM(K:PySem.W.Frag)(H H2:Hp)(tl:Addr)(H3:Hp)(us:List V)(pre:List PG.Tg):Prop where
 s:ao H H3
 u:aX (·=tl) H2 H3
 y:H3 tl=some (.lst us)
 f:cb K (·=tl) H3 (pre.map Ki) us
 l:us.length=pre.length
section
variable{K:PySem.W.Frag}{H H2 H3 H4:Hp}{tl p:Addr}{us vs:List V}{pre:List PG.Tg}{ds:List Dp}{g:PG.Tg}
theorem NM.same(a:NM K H H2 tl H3 us pre)(s:ao H3 H4):NM K H H2 tl H4 us pre:=⟨a.s.trans s,a.u.trans (.of s),s _ _ a.y,a.f.up (.of s),a.l⟩
end
section
variable(K:PySem.W.Frag)
end
theorem zq{K:PySem.W.Frag}{a D:Addr}{xs:List V}{tc:TT}{te:TE}{Q:VK}{r:St}{H:Hp}(p:Nat->Bool)(f:Nat->V)(hS:bR K H a xs)(hl:xs.length<=16000000)(hD:H D=none)
 (test:∀i x,xs[i]?=some x->∀H2,ao H H2->∀R:Bool->Hp->Prop,(∀H3,ao H2 H3->R (p i) H3)->tc (some x::r) H2 R)
 (step:∀i x,xs[i]?=some x->p i=true->∀H2,ao H H2->∀R:VK,(∀H3,ao H2 H3->R (f i) H3)->te (some x::r) H2 R)
 (q:∀H2,ao H H2->H2 D=some (.lst (((List.range xs.length).filter p).map f))->Q (.ref D) H2):lp (Dh K a) D (il 0) tc te Q (none::r) (upd H D (.lst [])):=by
 refine⟨fun i m τ H2=>m=xs.length-i/\i<=xs.length/\(∃x,τ=x::r)/\ao H H2/\H2 D=some (.lst (((List.range i).filter p).map f)),⟨xs.length,by simp,Nat.zero_le _,⟨none,rfl⟩,ao.new hD _,by rw[aj];simp⟩,?_⟩
 rintro i m τ H2 ⟨rfl,hi,⟨x,rfl⟩,s2,h2⟩
 by_cases lR:i<xs.length
 ·refine .inr ⟨⟨xs,xs[i],s2.bL hS,by simp[lR]⟩,fun τ' H'=>(∃x,τ'=x::r)/\ao H H'/\H' D=some (.lst (((List.range (i+1)).filter p).map f)),fun τ' H' ⟨h1,h3,h4⟩=>⟨xs.length-(i+1),by lia,rfl,lR,h1,h3,h4⟩,fun y H' hy=>?_⟩
  obtain⟨rfl,hy⟩:=hy
  have ey:=hy _ (s2.bL hS)
  simp only[il,List.set]
  refine test i y ey _ s2 _ fun H3 s3=>?_
  have qV:=s2.trans s3
  have h3:=s3 _ _ h2
  rw[List.range_succ,List.filter_append,List.map_append]
  cases hp:p i with
  |false=>
   rw[if_neg Bool.false_ne_true]
   exact⟨⟨_,rfl⟩,qV,by rw[h3];simp[hp]⟩
  |true=>
   rw[if_pos rfl]
   refine step i y ey hp _ qV _ fun H4 s4=>⟨_,s4 _ _ h3,?_,⟨_,rfl⟩,?_,?_⟩
   ·have h1:(((List.range i).filter p).map f).length<=i:=by
     rw[List.length_map]
     exact Nat.le_trans (List.length_filter_le _ _) (by rw[List.length_range];lia)
    have:sizeLine=2 ^ 24:=rfl
    lia
   ·intro b o e
    rw[aF (aB e hD)]
    exact s4 _ _ (qV _ _ e)
   ·rw[aj]
    simp[hp]
 ·have e:i=xs.length:=by lia
  subst e
  exact .inl ⟨⟨xs,s2.bL hS,Nat.le_refl _⟩,q H2 s2 h2⟩
end L2
namespace L2
open PySem
def Kl:Option Nat->V
 |none=>.c6
 |some e=>.int e
def Sn (A:Nat->Addr) (p:Nat):Option PG.Mt->Option V
 |none=>none
 |some (.back q)=>some (.int q)
 |some (.op _ _)=>some (.ref (A p))
structure BC(H:Hp)(d:Addr)(m:PG.Mm)(A:Nat->Addr)(Hx:Hp)(aJ:List (Key×V)):Prop where
 s:ao H Hx
 dn:H d=none
 dd:Hx d=some (.dK aJ)
 at_:∀p:Nat,cN aJ (.inl (p:Int))=Sn A p (m p)
 ls:∀p e f,m p=some (.op e f)->Hx (A p)=some (.lst [Kl e,Kl f])/\H (A p)=none
 inj:∀p q e f e' f',m p=some (.op e f)->m q=some (.op e' f')->A p=A q->p=q
section
variable{H Hx H':Hp}{d b:Addr}{m:PG.Mm}{A:Nat->Addr}{aJ:List (Key×V)}{o:HO}
theorem BC.ne(t:BC H d m A Hx aJ){p:Nat}{e f:Option Nat}(h:m p=some (.op e f)):A p≠d:=bS (t.ls p e f h).1 t.dd (by intro z;cases z)
theorem BC.same(t:BC H d m A Hx aJ)(s:ao Hx H'):BC H d m A H' aJ:=⟨t.s.trans s,t.dn,s _ _ t.dd,t.at_,fun p e f h=>⟨s _ _ (t.ls p e f h).1,(t.ls p e f h).2⟩,t.inj⟩
theorem BC.put(t:BC H d m A Hx aJ)(hb:H b=none)(nd:b≠d)(nl:∀p e f,m p=some (.op e f)->A p≠b)(o:HO):BC H d m A (upd Hx b o) aJ:=
 ⟨fun z u e=>by rw[aF (aB e hb)];exact t.s z u e,t.dn,by rw[aF nd.symm];exact t.dd,t.at_,fun p e f h=>⟨by rw[aF (nl p e f h)];exact(t.ls p e f h).1,(t.ls p e f h).2⟩,t.inj⟩
theorem BC.back(t:BC H d m A Hx aJ)(p q:Nat):BC H d (m.set p (.back q)) A (upd Hx d (.dK (putK aJ (.inl (p:Int)) (.int q)))) (putK aJ (.inl (p:Int)) (.int q)):=by
 have key:∀j e f,(m.set p (.back q)) j=some (.op e f)->j≠p/\m j=some (.op e f):=fun j e f h=>by
  by_cases z:j=p
  ·subst z
   rw[PG.Mm.set_same] at h
   cases h
  ·rw[PG.Mm.Br _ _ z] at h
   exact⟨z,h⟩
 refine⟨fun z u e=>by rw[aF (aB e t.dn)];exact t.s z u e,t.dn,aj,fun j=>?_,fun j e f h=>?_,fun a b e f e' f' h1 h2 z=>t.inj a b e f e' f' (key a e f h1).2 (key b e' f' h2).2 z⟩
 ·rw[pW]
  by_cases z:j=p
  ·subst z
   rw[if_pos rfl,PG.Mm.set_same]
   rfl
  ·rw[if_neg (fun e=>z (by injection e with e;lia)),PG.Mm.Br _ _ z,t.at_ j]
 ·have h:=(key j e f h).2
  exact⟨by rw[aF (t.ne h)];exact(t.ls j e f h).1,(t.ls j e f h).2⟩
end
section
variable(K:PySem.W.Frag)
end
end L2
namespace L2
open PySem
structure qe(K:PySem.W.Frag)(H:Hp)(tl:Addr)(H3:Hp)(us:List V)(ds:List Dp):Prop where
 s:ao H H3
 y:H3 tl=some (.lst us)
 f:cb K (·=tl) H3 ds us
 l:us.length=ds.length
section
variable{K:PySem.W.Frag}{H H3 H4:Hp}{tl p p1 p2:Addr}{us vs:List V}{ds es:List Dp}{d:Dp}{v:V}
theorem qe.new(h:H tl=none):qe K H tl (upd H tl (.lst [])) [] []:=⟨ao.new h _,aj,.nil,rfl⟩
theorem qe.same(a:qe K H tl H3 us ds)(s:ao H3 H4):qe K H tl H4 us ds:=⟨a.s.trans s,s _ _ a.y,a.f.up (.of s),a.l⟩
theorem qe.push(a:qe K H tl H3 us ds)(ht:H tl=none)(fv:Fix K (·=tl) H3 d v):qe K H tl (upd H3 tl (.lst (us++[v]))) (us++[v]) (ds++[d]):=by
 have uu:aX (·=tl) H3 (upd H3 tl (.lst (us++[v]))):=aX.refl.put (O:=(·=tl)) rfl _
 exact⟨fun z o e=>by rw[aF (aB e ht)];exact a.s z o e,aj,(a.f.snoc fv).up uu,by simp[a.l]⟩
theorem qe.row(a:qe K H tl H3 us ds)(ht:H tl=none){k:Int}{w:PG.Wd}{ws:List Int}(h1:H3 p1=none)(h2:(upd H3 p1 (.tup (ws.map V.int))) p2=none) :
 (upd (upd H3 p1 (.tup (ws.map V.int))) p2 (.tup [.int k,.str (i6 w),.ref p1])) tl=some (.lst us)/\
 qe K H tl (upd (upd (upd H3 p1 (.tup (ws.map V.int))) p2 (.tup [.int k,.str (i6 w),.ref p1])) tl (.lst (us++[.ref p2]))) (us++[.ref p2]) (ds++[fM (k,w,ws)]):=by
 have s1:=ao.new h1 (.tup (ws.map V.int))
 have a1:=a.same s1
 have t1:(upd H3 p1 (.tup (ws.map V.int))) p1=some (.tup (ws.map V.int)):=aj
 have n1:p1≠tl:=(aB a.y h1).symm
 generalize upd H3 p1 (.tup (ws.map V.int))=H5 at *
 have s2:=ao.new h2 (.tup [.int k,.str (i6 w),.ref p1])
 have a2:=a1.same s2
 have t2:(upd H5 p2 (.tup [.int k,.str (i6 w),.ref p1])) p2=some (.tup [.int k,.str (i6 w),.ref p1]):=aj
 have n2:p2≠tl:=(aB a1.y h2).symm
 have t1:=s2 _ _ t1
 generalize upd H5 p2 (.tup [.int k,.str (i6 w),.ref p1])=H6 at *
 refine⟨a2.y,a2.push ht (Fix.tup t2 n2 (.cons .int (.cons .str (.cons (Fix.tup t1 n1 ?_) .nil))))⟩
 have allI:∀l:List Int,cb K (·=tl) H6 (l.map Dp.int) (l.map V.int):=fun l=>by
  induction l with
  |nil=>exact .nil
  |cons i r ih=>exact .cons .int ih
 exact allI ws
end
end L2
namespace L2
open PySem
section
variable{X:Cx}
end
theorem we{aJ:List (Key×V)}{k:Key}{v:V}(h:k ∉ aJ.map (·.1)):putK aJ k v=aJ++[(k,v)]:=by
 unfold putK
 rw[if_neg]
 intro z
 rw[List.any_eq_true] at z
 obtain⟨x,hx,e⟩:=z
 exact h (List.mem_map.mpr ⟨x,hx,of_decide_eq_true e⟩)
theorem lW:∀(more aJ:List (Key×V)),((aJ++more).map (·.1)).Nodup->jC aJ more=aJ++more
 |[],aJ,_=>by simp[jC]
 |p::r,aJ,h=>by
  have hp:p.1 ∉ aJ.map (·.1):=fun z=>by
   rw[List.map_append,List.nodup_append] at h
   exact h.2.2 _ z _ (by simp) rfl
  show jC (putK aJ p.1 p.2) r=_
  rw[we hp,lW r _ (by rw[List.append_assoc];exact h),List.append_assoc]
  rfl
def fN (ss:List PG.bM) (vs:List V):List (Key×V):=List.zipWith (fun s v=>(Sum.inl s.row,v)) ss vs
theorem qf:∀(ss:List PG.bM) (vs:List V),vs.length=ss.length->(fN ss vs).map (·.1)=ss.map fun s=>(Sum.inl s.row:Key)
 |[],[],_=>rfl
 |[],_::_,h=>by simp at h
 |_::_,[],h=>by simp at h
 |s::ss,v::vs,h=>by
  show _::(fN ss vs).map (·.1)=_
  rw[qf ss vs (by simpa using h)]
  rfl
theorem qg{ss:List PG.bM}(h:ss.Pairwise fun a b=>a.row<b.row):(ss.map fun s=>(Sum.inl s.row:Key)).Nodup:=by
 refine List.pairwise_map.mpr (h.imp fun {a b} Mg e=>?_)
 have:=Sum.inl.inj e
 lia
theorem km:∀(ss:List PG.bM) (vs:List V),vs.length=ss.length->ss.Pairwise (fun a b=>a.row<b.row)->∀i (hi:i<ss.length) v,vs[i]?=some v->cN (fN ss vs) (.inl ss[i].row)=some v
 |[],_,_,_,i,hi,_,_=>by simp at hi
 |_::_,[],h,_,_,_,_,_=>by simp at h
 |s::ss,v::vs,h,hp,0,hi,u,hu=>by
  simp at hu
  subst hu
  show cN ((_,v)::fN ss vs) _=_
  exact cI rfl
 |s::ss,v::vs,h,hp,i+1,hi,u,hu=>by
  rw[List.pairwise_cons] at hp
  have lt:=hp.1 (ss[i]'(by simpa using hi)) (List.getElem_mem _)
  show cN ((.inl s.row,v)::fN ss vs) (.inl (ss[i]'(by simpa using hi)).row)=_
  rw[cJ (fun e=>by have e:=Sum.inl.inj e;lia)]
  exact km ss vs (by simpa using h) hp.2 i (by simpa using hi) u (by simpa using hu)
theorem El(s:PG.bM):PG.fX s=s::(aM s).flatMap PG.aD:=by
 cases s<;>simp[PG.fX,aM]
section
variable(K:PySem.W.Frag)
def mI (n:Nat):Sp:=fun vs H Q _=>∃(b:Addr) (body:List PG.bM) (H0:Hp),vs=[.ref b]/\ao H0 H/\Rep K H0 (.lst (body.map cT)) (.ref b)/\PG.iu body<n/\(PG.dE body).length<=1000/\
 ∀l us H',ao H H'->H l=none->H' l=some (.lst us)->aC K H0 ((PG.aD body).map cT) us->Q (.ref l) H'
end
theorem BD{K:PySem.W.Frag}{tl:TE}{g:TG}{tb:TS}{D:Ends}{σ:St}{H:Hp} (h:∀U:Addr->Hp->Prop,(∀a H1,(∃W:Nat->Nat->St->Hp->Prop,(∃m,W 0 m σ H1)/\∀i m σ H,W i m σ H->
 ((Dh K a).stop i H/\D.nx σ H)\/((Dh K a).go i H/\∃N:St->Hp->Prop,(∀σ' H',N σ' H'->∃m',m'<m/\W (i+1) m' σ' H')/\∀x H',(Dh K a).xr i H x H'->g x σ H' fun σ2 H2=>tb {D with nx:=N,ct:=N,bk:=D.nx} σ2 H2))->U a H1)->
 tl σ H fun x H1=>∃a,x=.ref a/\(∃xs,bR K H1 a xs)/\U a H1):AF (Dz K tl) g tb D σ H:=h _ fun _ _ x=>x
theorem qh:∀a b:List PG.bM,PG.aD (a++b)=PG.aD a++PG.aD b
 |[],b=>by simp[PG.aD]
 |s::r,b=>by
  show PG.aD (s::(r++b))=_
  rw[PG.aD,PG.aD,qh r b,List.append_assoc]
theorem BE(s:PG.bM):PG.aD [s]=PG.fX s:=by rw[PG.aD,PG.aD,List.append_nil]
theorem uP(b:List PG.bM):(PG.aD b).length=(PG.dE b).length:=by rw[<- PG.eN,List.length_map]
end L2
namespace HT
open PySem PySem.Spec PyProof.Rows
section
variable{prog:Program}{w:World}{A:Around}{E:Value->Shared->Prop}{s:Shared}
theorem lg{t sl:Addr}{items:Array Value}{vl vu:Value}{lo hi:Option Int}{Q:Value->Shared->Prop}(ht:IsTup s.heap t items)(hs:s.heap.IsSliceOf sl vl vu .none)(pl:IsPart vl lo)(pu:IsPart vu hi)
 (hw:eI items.size 0 lo=0/\eI items.size items.size hi=items.size) (h:Q (.ref t) s):wpAny (model prog w) A (getItem (.ref t) (.ref sl)) Q E s:=by
 have hj:eI items.size items.size hi<=items.size:=vS _ _ (Nat.le_refl _) hi
 obtain⟨os,GQ,L8,JC⟩:=id hs
 have Nj:s.TypeIs (.ref sl) "slice":=⟨os,GQ,L8⟩
 unfold getItem
 try with_reducible refine wpAny_holding ?_
 first |refine wpAny_bind (wpAny_pure ?_) |skip
 refine wpAny_bind (wpAny_sequenceKey ht.typeIs (by decide) ?_)
 refine wpAny_bind (wpAny_callSpecial?_slot (name:=Str.ofString "__getitem__") ht.typeIs PyProof.Rows.slot_tuple_getitem
  (wpAny_call_entry PyProof.Rows.slot_tuple_getitem ht.typeIs entry_tuple_getitem ?_ (args_tuple_getitem _ _)))
 show wpAny _ _ (Builtin.Tuple.tupleItemsOf (.ref t) >>= _) _ _ s
 refine wpAny_bind (tupleItemsOf_ ht ?_)
 refine wpAny_bind (wpAny_typeOf Nj ?_)
 rw[if_pos (by decide)]
 refine wpAny_bind (jj hs pl pu ?_)
 have NN:((((eI items.size 0 lo:Nat):Int)==0&&(1:Int)==1&&(eI items.size items.size hi-eI items.size 0 lo)==items.size)=true):=by
  rw[hw.1,hw.2]
  simp
 show wpAny _ _ (if (((eI items.size 0 lo:Nat):Int)==0&&(1:Int)==1&&(eI items.size items.size hi-eI items.size 0 lo)==items.size)=true then _ else _) _ _ s
 rw[if_pos NN]
 refine wpAny_bind (m:=Builtin.Tuple.tupleIsExact _) ?_
 unfold Builtin.Tuple.tupleIsExact
 refine wpAny_bind (wpAny_typeOf ht.typeIs (wpAny_pure ?_))
 rw[if_pos (by simp)]
 first
  |exact wpAny_bind (wpAny_rule (wpAny_pure ⟨_,rfl,wpAny_pure h⟩))
  |exact wpAny_bind (wpAny_pure (wpAny_pure ⟨_,rfl,wpAny_pure h⟩))
end
end HT
namespace L2
open PySem PySem.Spec PyProof.Rows
def Km (K:PySem.W.Frag):V->Option Int->Option Int->Hp->VK->Prop:=fun x lo hi H Q=>∃a xs,x=.ref a/\bR K H a xs/\
 ((HT.eI xs.length 0 lo=0/\HT.eI xs.length xs.length hi=xs.length)->Q (.ref a) H)/\
 (¬(HT.eI xs.length 0 lo=0/\HT.eI xs.length xs.length hi=xs.length)->∀p,H p=none->Q (.ref p) (upd H p (.tup (gC xs lo hi))))
theorem Em{X:Cx}:JD X (Km X.K):=by
 intro pins s σ H x v vl vu lo hi sl Q I rx hs pl pu h
 obtain⟨a,xs,rfl,hx,h1,h2⟩:=h
 by_cases hw:HT.eI xs.length 0 lo=0/\HT.eI xs.length xs.length hi=xs.length
 ·cases rx
  obtain⟨bc,r,ht,hz⟩:=I.tuple hx
  have hlen:bc.toArray.size=xs.length:=by rw[List.size_toArray];exact r.length.symm
  refine⟨"tuple",_,PyProof.Rows.slot_tuple_getitem.lookup,ht.typeIs,?_⟩
  exact HT.lg ht hs pl pu (by rw[hlen];exact hw) ⟨.ref a,H,I,rfl,h1 hw⟩
 ·exact GR pins s σ H (.ref a) v vl vu lo hi sl Q I rx hs pl pu ⟨a,xs,rfl,hx,hw,h2 hw⟩
end L2
namespace L2
open PySem
def da {α β γ:Type} (R:α->β->γ->Prop):List α->List β->List γ->Prop
 |[],[],[]=>True
 |a::as,b::bs,c::cs=>R a b c/\da R as bs cs
 |_,_,_=>False
section
variable{α β γ:Type}{R S:α->β->γ->Prop}
theorem da.aV{bs:List β}{cs:List γ}:da R [] bs cs↔bs=[]/\cs=[]:=by
 cases bs<;>cases cs<;>simp[da]
theorem da.az{a:α}{as:List α}{bs:List β}{cs:List γ}:da R (a::as) bs cs↔∃b Dk c Dl,bs=b::Dk/\cs=c::Dl/\R a b c/\da R as Dk Dl:=by
 constructor
 ·intro h
  cases bs with
  |nil=>simp[da] at h
  |cons b bs=>
   cases cs with
   |nil=>simp[da] at h
   |cons c cs=>exact⟨b,bs,c,cs,rfl,rfl,h.1,h.2⟩
 ·rintro ⟨b,Dk,c,Dl,rfl,rfl,h1,h2⟩
  exact⟨h1,h2⟩
theorem da.length:∀ {as:List α} {bs:List β} {cs:List γ},da R as bs cs->bs.length=as.length/\cs.length=as.length
 |[],_,_,h=>by obtain⟨rfl,rfl⟩:=da.aV.mp h;exact⟨rfl,rfl⟩
 |a::as,_,_,h=>by
  obtain⟨b,Dk,c,Dl,rfl,rfl,_,h2⟩:=da.az.mp h
  have:=da.length h2
  simp[this]
theorem da.imp:∀ {as:List α} {bs:List β} {cs:List γ},da R as bs cs->(∀a b c,a∈as->c∈cs->R a b c->S a b c)->da S as bs cs
 |[],_,_,h,_=>by obtain⟨rfl,rfl⟩:=da.aV.mp h;trivial
 |a::as,_,_,h,f=>by
  obtain⟨b,Dk,c,Dl,rfl,rfl,h1,h2⟩:=da.az.mp h
  exact⟨f a b c (List.mem_cons_self ..) (List.mem_cons_self ..) h1,h2.imp fun a' b' c' m1 m2=>f a' b' c' (List.mem_cons_of_mem _ m1) (List.mem_cons_of_mem _ m2)⟩
theorem da.snoc:∀ {as:List α} {bs:List β} {cs:List γ} {a:α} {b:β} {c:γ},da R as bs cs->R a b c->da R (as++[a]) (bs++[b]) (cs++[c])
 |[],_,_,a,b,c,h,r=>by obtain⟨rfl,rfl⟩:=da.aV.mp h;exact⟨r,trivial⟩
 |x::as,_,_,a,b,c,h,r=>by
  obtain⟨b',Dk,c',Dl,rfl,rfl,h1,h2⟩:=da.az.mp h
  exact⟨h1,da.snoc h2 r⟩
end
def Mh:PG.bM->List Dp
 |.ask k b=>[.str "ask",.int k,.str (S b)]
 |.put k b e=>[.str "put",.int k,.str (S b),eZ e]
 |.say k e=>[.str "say",.int k,eZ e]
 |.cE k sg l r=>[.str "must",.int k,.str (S sg),eZ l,eZ r]
 |.stop k=>[.str "stop",.int k]
 |.ifs k sg l r _ _=>[.str "if",.int k,.str (S sg),eZ l,eZ r]
 |.gw k sg l r _=>[.str "while",.int k,.str (S sg),eZ l,eZ r]
theorem Hj(s:PG.bM):cT s=.tup (Mh s++(aM s).map fun b=>.lst (b.map cT)):=by
 cases s<;>simp[cT,Mh,aM,gF]
mutual
theorem FT:∀t:PM.Tr,vC (eZ t)=true
 |.num n=>by simp[eZ,vC,kk]
 |.box n=>by simp[eZ,vC,kk]
 |.bin o l r=>by simp[eZ,vC,kk,FT l,FT r]
end
section
variable{K:PySem.W.Frag}{H H':Hp}{O:Addr->Prop}
theorem zr(hO:∀g,O g->∃ys,H g=some (.lst ys))(u:aX O H H'){a:Addr}{ys:List V}(q:bR K H a ys):bR K H' a ys:=by
 rcases q with (q |⟨o,q⟩) |q
 ·exact .inl (.inl (u _ _ (fun z=>by obtain⟨_,e⟩:=hO a z;rw[e] at q;cases q) q))
 ·exact .inl (.inr ⟨o,u _ _ (fun z=>by obtain⟨_,e⟩:=hO a z;rw[e] at q;cases q) q⟩)
 ·exact .inr q
mutual
theorem zt(hO:∀g,O g->∃ys,H g=some (.lst ys))(u:aX O H H'):∀(d:Dp) (v:V),vC d=true->Rep K H d v->Rep K H' d v
 |.c6,v,_,r=>by rw[Rep.kW] at r ⊢;exact r
 |.bl b,v,_,r=>by rw[Rep.lS] at r ⊢;exact r
 |.int b,v,_,r=>by rw[Rep.aY] at r ⊢;exact r
 |.str b,v,_,r=>by rw[Rep.bu] at r ⊢;exact r
 |.lst l,v,e,_=>by rw[vC] at e;cases e
 |.tup l,v,e,r=>by
  rw[vC] at e
  rw[Rep.aQ] at r ⊢
  obtain⟨a,ys,rfl,q,rs⟩:=r
  exact⟨a,ys,rfl,zr hO u q,qi hO u l ys e rs⟩
theorem qi(hO:∀g,O g->∃ys,H g=some (.lst ys))(u:aX O H H'):∀(ds:List Dp) (vs:List V),kk ds=true->aC K H ds vs->aC K H' ds vs
 |[],vs,_,r=>by rw[aC.aV] at r ⊢;exact r
 |d::ds,vs,e,r=>by
  rw[kk,Bool.and_eq_true] at e
  rw[aC.az] at r ⊢
  obtain⟨v,t,rfl,r1,r2⟩:=r
  exact⟨v,t,rfl,zt hO u d v e.1 r1,qi hO u ds t e.2 r2⟩
end
end
section
variable(K:PySem.W.Frag)(H:Hp)
def BF:Nat->List PG.bM->Addr->List Addr->Prop
 |0,_,_,_=>False
 |n+1,body,b,F=>∃vs Fs,H b=some (.lst vs)/\da (fun s v G=>∃a hs bs Gs,v=.ref a/\bR K H a (hs++bs.map V.ref)/\aC K H (Mh s) hs/\da (BF n) (aM s) bs Gs/\G=Gs.flatten) body vs Fs/\F=b::Fs.flatten
def NO (n:Nat) (s:PG.bM) (v:V) (G:List Addr):Prop:=∃a hs bs Gs,v=.ref a/\bR K H a (hs++bs.map V.ref)/\aC K H (Mh s) hs/\da (BF K H n) (aM s) bs Gs/\G=Gs.flatten
end
section
variable{K:PySem.W.Frag}{H H':Hp}{O:Addr->Prop}
theorem uQ{n:Nat}{body:List PG.bM}{b:Addr}{F:List Addr}:BF K H (n+1) body b F↔∃vs Fs,H b=some (.lst vs)/\da (NO K H n) body vs Fs/\F=b::Fs.flatten:=Iff.rfl
theorem BF.lists:∀(n:Nat) (body:List PG.bM) (b:Addr) (F:List Addr),BF K H n body b F->∀f∈F,∃ys,H f=some (.lst ys)
 |0,_,_,_,h=>h.elim
 |n+1,body,b,F,h=>by
  obtain⟨vs,Fs,hb,all,rfl⟩:=uQ.mp h
  intro f hf
  rcases List.mem_cons.mp hf with rfl |hf
  ·exact⟨vs,hb⟩
  ·have key:∀ {as:List PG.bM} {bs:List V} {cs:List (List Addr)},da (NO K H n) as bs cs->∀f∈cs.flatten,∃ys,H f=some (.lst ys):=by
    intro as
    induction as with
    |nil=>intro bs cs h f hf;obtain⟨rfl,rfl⟩:=da.aV.mp h;simp at hf
    |cons a as ih=>
     intro bs cs h f hf
     obtain⟨b',Dk,c,Dl,rfl,rfl,h1,h2⟩:=da.az.mp h
     rw[List.flatten_cons,List.mem_append] at hf
     rcases hf with hf |hf
     ·obtain⟨a',hs,bb,Gs,rfl,q,r,al,rfl⟩:=h1
      have Hl:∀ {as:List (List PG.bM)} {bs:List Addr} {cs:List (List Addr)},da (BF K H n) as bs cs->∀f∈cs.flatten,∃ys,H f=some (.lst ys):=by
       intro as
       induction as with
       |nil=>intro bs cs h f hf;obtain⟨rfl,rfl⟩:=da.aV.mp h;simp at hf
       |cons x as NP=>
        intro bs cs h f hf
        obtain⟨b',Dk,c,Dl,rfl,rfl,h1,h2⟩:=da.az.mp h
        rw[List.flatten_cons,List.mem_append] at hf
        rcases hf with hf |hf
        ·exact BF.lists n _ _ _ h1 f hf
        ·exact NP h2 f hf
      exact Hl al f hf
     ·exact ih h2 f hf
   exact key all f hf
mutual
theorem BF.rep:∀(n:Nat) (body:List PG.bM) (b:Addr) (F:List Addr),BF K H n body b F->Rep K H (.lst (body.map cT)) (.ref b)
 |0,_,_,_,h=>h.elim
 |n+1,body,b,F,h=>by
  obtain⟨vs,Fs,hb,all,rfl⟩:=uQ.mp h
  refine Rep.bF.mpr ⟨b,vs,rfl,.of hb,?_⟩
  have key:∀ {as:List PG.bM} {bs:List V} {cs:List (List Addr)},da (NO K H n) as bs cs->aC K H (as.map cT) bs:=by
   intro as
   induction as with
   |nil=>intro bs cs h;obtain⟨rfl,rfl⟩:=da.aV.mp h;exact .nil
   |cons a as ih=>
    intro bs cs h
    obtain⟨b',Dk,c,Dl,rfl,rfl,h1,h2⟩:=da.az.mp h
    refine .cons ?_ (ih h2)
    obtain⟨a',hs,bb,Gs,rfl,q,r,al,rfl⟩:=h1
    rw[Hj]
    refine Rep.aQ.mpr ⟨a',_,rfl,q,r.append ?_⟩
    have Hl:∀ {as:List (List PG.bM)} {bs:List Addr} {cs:List (List Addr)},da (BF K H n) as bs cs->aC K H (as.map fun b=>.lst (b.map cT)) (bs.map V.ref):=by
     intro as
     induction as with
     |nil=>intro bs cs h;obtain⟨rfl,rfl⟩:=da.aV.mp h;exact .nil
     |cons x as NP=>
      intro bs cs h
      obtain⟨b',Dk,c,Dl,rfl,rfl,h1,h2⟩:=da.az.mp h
      exact .cons (BF.rep n _ _ _ h1) (NP h2)
    exact Hl al
  exact key all
end
end
section
variable(K:PySem.W.Frag)
end
theorem qj{K:PySem.W.Frag}{a D:Addr}{xs:List V}{te:TE}{Q:VK}{r:St}{H:Hp}(Pv:Nat->List V->Hp->Prop)(hS:eD K H a xs)(hl:xs.length<=16000000)(hD:H D=none)(h0:Pv 0 [] (upd H D (.lst [])))
 (step:∀i x ys H2,xs[i]?=some x->ao H H2->H2 D=some (.lst ys)->ys.length=i->Pv i ys H2->∀R:VK,(∀v H3,ao H2 H3->Pv (i+1) (ys++[v]) (upd H3 D (.lst (ys++[v])))->R v H3)->te (some x::r) H2 R)
 (q:∀ys H2,ao H H2->H2 D=some (.lst ys)->Pv xs.length ys H2->Q (.ref D) H2):lp (yR K a) D (il 0) sW te Q (none::r) (upd H D (.lst [])):=by
 refine⟨fun i m τ H2=>m=xs.length-i/\i<=xs.length/\(∃x,τ=x::r)/\ao H H2/\∃ys,H2 D=some (.lst ys)/\ys.length=i/\Pv i ys H2,⟨xs.length,by simp,Nat.zero_le _,⟨none,rfl⟩,ao.new hD _,[],aj,rfl,h0⟩,?_⟩
 rintro i m τ H2 ⟨rfl,hi,⟨x,rfl⟩,s2,ys,h2,ly,p2⟩
 by_cases lR:i<xs.length
 ·refine .inr ⟨⟨xs,xs[i],s2.seq hS,by simp[lR]⟩,fun τ' H'=>(∃x,τ'=x::r)/\ao H H'/\∃ys,H' D=some (.lst ys)/\ys.length=i+1/\Pv (i+1) ys H',fun τ' H' ⟨h1,h3,h4⟩=>⟨xs.length-(i+1),by lia,rfl,lR,h1,h3,h4⟩,fun y H' hy=>?_⟩
  obtain⟨rfl,hy⟩:=hy
  have ey:=hy _ (s2.seq hS)
  simp only[il,List.set,sW]
  rw[if_pos trivial]
  refine step i y ys _ ey s2 h2 ly p2 _ fun v H3 s3 p3=>⟨ys,s3 _ _ h2,?_,⟨_,rfl⟩,?_,ys++[v],aj,by simp[ly],p3⟩
  ·have:sizeLine=2 ^ 24:=rfl
   lia
  ·intro b o e
   rw[aF (aB e hD)]
   exact s3 _ _ (s2 _ _ e)
 ·have e:i=xs.length:=by lia
  subst e
  exact .inl ⟨⟨xs,s2.seq hS,Nat.le_refl _⟩,q ys H2 s2 h2 p2⟩
end L2
namespace L2
open PySem
theorem Hm:∀b∈([[43],[45],[42]]:List PM.W),PyData.canLay0 (.str (S b))=true:=by decide +kernel
theorem BG(w:PG.Wd):PyData.canLay0 (.str (i6 w))=true:=by cases w<;>decide +kernel
section
variable(K:PySem.W.Frag)
end
theorem BH{K:PySem.W.Frag}{H:Hp}{fl:List PG.eM}{fv:List V}(g2:aC K H (fl.map fM) fv){i:Nat}{y:V}(hi:fv[i]?=some y)(li:i<fl.length) :
 ∃a p,y=.ref a/\bR K H a [.int fl[i].1,.str (i6 fl[i].2.1),.ref p]/\bR K H p (fl[i].2.2.map V.int):=by
 obtain⟨v',qJ,rv⟩:=g2.get (i:=i) (d:=fM fl[i]) (by rw[List.getElem?_map,List.getElem?_eq_getElem li];rfl)
 rw[hi] at qJ
 cases qJ
 unfold fM at rv
 rw[Rep.aQ] at rv
 obtain⟨a,xs,rfl,hx,rs⟩:=rv
 rw[aC.az] at rs
 obtain⟨v1,t1,rfl,r1,rs⟩:=rs
 rw[aC.az] at rs
 obtain⟨v2,t2,rfl,r2,rs⟩:=rs
 rw[aC.az] at rs
 obtain⟨v3,t3,rfl,r3,rs⟩:=rs
 rw[aC.aV] at rs
 rw[Rep.aY] at r1
 rw[Rep.bu] at r2
 obtain⟨p,ys,rfl,hp,ry⟩:=Rep.aQ.mp r3
 subst r1 r2 rs
 have key:∀ {l:List Int} {ys:List V},aC K H (l.map Dp.int) ys->ys=l.map V.int:=by
  intro l
  induction l with
  |nil=>intro ys h;rw[List.map_nil,aC.aV] at h;exact h
  |cons i r ih=>
   intro ys h
   rw[List.map_cons,aC.az] at h
   obtain⟨v,t,rfl,h1,h2⟩:=h
   rw[Rep.aY] at h1
   rw[h1,ih h2]
   rfl
 rw[key ry] at hp
 exact⟨a,p,rfl,hx,hp⟩
end L2
namespace L3
open PySem PyProof.Rows
theorem En:typeLookup (.type "list") "keys"=pure none:=by rw[typeLookup_type,builtinLookup_eq_fast];kernel_rfl
theorem Eo:typeLookup (.type "list") "__getattr__"=pure none:=by rw[typeLookup_type,builtinLookup_eq_fast];kernel_rfl
section
variable{prog:Program}{w:World}{A:Around}{E:Value->Shared->Prop}
theorem BI(a:Addr)(u:Tok){hp:Heap}{g:Array GenState}{d:Drawn}{tk:Nat}{os:OsState}{bc:Array Value}{n:Nat}{sl:Array (Option Value)}{Q:Fin->Shared->Prop}(hx:hp.get? a=some ⟨.type "list",none,.seq bc n,sl⟩)(hA:A.handled=none)
 (h:∀h' Ep e,Heap.NewAttrErr hp h' e (.ref a) "keys"->E (.ref e) ⟨h',g,d,Ep,os⟩) :
 wpAny (model prog w) A (Builtin.«object.__getattribute__» ⟨[.ref a,.str "keys" u],[]⟩) Q E ⟨hp,g,d,tk,os⟩:=by
 have hT:(⟨hp,g,d,tk,os⟩:Shared).TypeIs (.ref a) "list":=⟨_,hx,rfl⟩
 have f4:=En
 unfold Builtin.«object.__getattribute__»
 repeat (any_goals (first |assumption |wp_step))
 exact wpAny_raiseAttrError hA h (attrMsg_fits (by decide +kernel) (by size_fits))
theorem zu(a:Addr){s:Shared}{bc:Array Value}{n:Nat}{sl:Array (Option Value)}{Q:Option Value->Shared->Prop}(hx:s.heap.get? a=some ⟨.type "list",none,.seq bc n,sl⟩)(hA:A.handled=none)
 (h:∀h' tk,(∀b ob,s.heap.get? b=some ob->h'.get? b=some ob)->Q none {s with heap:=h',toks:=tk}):wpAny (model prog w) A (getAttr? (.ref a) "keys") Q E s:=by
 obtain⟨hp,g,d,tk,os⟩:=s
 have hT:∀Ep,(⟨hp,g,d,Ep,os⟩:Shared).TypeIs (.ref a) "list":=fun _=>⟨_,hx,rfl⟩
 have f1:=sub_AttributeError
 have f2:=F.slot_list_getattribute.lookup
 have f3:=F.slot_list_getattribute.bind (.ref a)
 have f5:=Eo
 unfold getAttr? getAttrBy? getAttrBy
 repeat (any_goals (first |assumption |exact hT _ |wp_step))
 all_goals
  refine codeAny_call_builtin F.slot_list_getattribute.plain F.entry_list_ga (F.slot_list_getattribute.check _ _ _ _ _ _ _ _ (show (⟨hp,g,d,tk+1,os⟩:Shared).TypeIs (.ref a) "list" from ⟨_,hx,rfl⟩) (F.args_list_getattribute_2 _ _) ?_)
 all_goals
  refine BI a tk hx hA fun h' Ep e ne=>?_
 all_goals
  obtain⟨t',u',he⟩:=ne.there
  show wpAny _ _ (getattributeRaised _ _ _ _ _ _ _) _ _ _
  unfold getattributeRaised
  repeat (any_goals (first |assumption |wp_step))
 all_goals exact h _ _ ne.keeps
theorem jH:entryFor table "dict.update.loop"=some Builtin.«dict.update.loop»:=entryFor_of_tree (by kernel_rfl)
theorem dX:plainId "dict.update.loop"=true:=by decide +kernel
theorem uR{κ:Type}[DecidableEq κ](knd:KeyKind prog w κ)(d it l:Addr)(items:Array Value)(res:Value)(hA:A.handled=none)(zj:it≠d){R:Result->Shared->Prop}:∀(r:List (Addr×κ×Value×Value)) (i:Nat) (j:Int) (u:Tok) (aJ:List (κ×Value)) (s:Shared),
 items.toList.drop i=r.map (fun q=>Value.ref q.1)->(∀q∈r,s.heap.IsTuple q.1 #[q.2.2.1,q.2.2.2]/\knd.is q.2.1 q.2.2.1=true)->s.heap.IsListIter it l i->s.heap.IsList l items->s.heap.DictOf knd d aJ->aJ.length+r.length<=sizeLine->
 (∀h' tk,h'.DictOf knd d (merged aJ (r.map fun q=>(q.2.1,q.2.2.2)))->(∀b o,b≠d->b≠it->s.heap.get? b=some o->h'.get? b=some o)->R (.ok (.ret res)) {s with heap:=h',toks:=tk})->
 codeAny (model prog w) A (.builtin "dict.update.loop" ⟨[.ref d,.ref it,.int j u,res],[]⟩) R s
 |[],i,j,u,aJ,s,hi,hp,hit,hl,hd,hz,hR=>by
  refine codeAny_builtin jH ?_
  rw[Around.under_plainId dX _]
  show wpAny _ A.in1 (pyNext (.ref it) >>= _) _ _ s
  refine wpAny_bind (wpAny_pyNext_list_end hA hit hl (by rw[<- Array.getElem?_toList];rw[List.map_nil] at hi;exact List.getElem?_eq_none (List.drop_eq_nil_iff.mp hi)) fun h' ext=>?_)
  show wpAny _ _ (Builtin.Dict.addKeywords d [] >>= _) _ _ _
  refine wpAny_bind (wpAny_pure (wpAny_pure (hR h' s.toks ?_ fun b o _ h2 e=>?_)))
  ·obtain⟨o,es,ep,ho,rest⟩:=hd
   exact⟨o,es,ep,ext d o zj.symm ho,rest⟩
  ·exact ext b o h2 e
 |q::r,i,j,u,aJ,s,hi,hp,hit,hl,hd,hz,hR=>by
  have hx:items[i]?=some (Value.ref q.1):=by
   rw[<- Array.getElem?_toList,<- List.head?_drop,hi]
   rfl
  refine codeAny_builtin jH ?_
  rw[Around.under_plainId dX _]
  show wpAny _ A.in1 (pyNext (.ref it) >>= _) _ _ s
  refine wpAny_bind (wpAny_pyNext_list_item hit hl hx fun h' Hc sb=>?_)
  obtain⟨⟨oq,NQ,NR,nq,So⟩,kq⟩:=hp q (List.mem_cons_self ..)
  have Sq:q.1≠it:=fun z=>by
   obtain⟨oi,Hn,Kn,_⟩:=hit
   rw[z,Hn] at NQ
   cases NQ
   rw[Kn] at NR
   exact absurd (Value.type.inj NR) (by decide)
  have Ko:h'.get? q.1=some oq:=(sb.2 _ Sq).trans NQ
  have xm:h'.DictOf knd d aJ:=by
   obtain⟨o,es,ep,ho,rest⟩:=hd
   exact⟨o,es,ep,(sb.2 d zj.symm).trans ho,rest⟩
  show wpAny _ A.in1 (holding [Value.ref q.1] _ >>= _) _ _ _
  refine wpAny_bind (wpAny_holding (wpAny_bind (wpAny_tryCatch ?_)))
  unfold Builtin.Dict.pairItems
  refine wpAny_bind (wpAny_typeOf (T:="tuple") ⟨oq,Ko,NR⟩ ?_)
  rw[if_pos (by decide)]
  refine wpAny_bind (wpAny_seqItems (s:={s with heap:=h' }) Ko So (wpAny_pure ?_))
  show wpAny _ A.in1 (holding [q.2.2.1,q.2.2.2] (dictSet d q.2.2.1 q.2.2.2)) _ _ _
  refine wpAny_holding (wpAny_dictSet_pairs (s:={s with heap:=h' }) kq xm (fun h2 hd2 Ho=>?_) (by simp only[List.length_cons] at hz;lia))
  refine wpAny_pure ⟨plainId_quiet dX _,?_⟩
  refine uR knd d it l items res hA zj r (i+1) (j+1) _ _ _ ?_ (fun p NS=>?_) ?_ ?_ hd2 ?_ fun h3 tk Mi keep=>hR h3 tk Mi fun b o n1 n2 e=>keep b o n1 n2 ?_
  ·rw[<- List.drop_drop,hi]
   rfl
  ·obtain⟨⟨op,Kp,NT,np,NU⟩,kp⟩:=hp p (List.mem_cons_of_mem _ NS)
   refine⟨⟨op,?_,NT,np,NU⟩,kp⟩
   have n1:p.1≠it:=fun z=>by
    obtain⟨oi,Hn,Kn,_⟩:=hit
    rw[z,Hn] at Kp
    cases Kp
    rw[Kn] at NT
    exact absurd (Value.type.inj NT) (by decide)
   have n2:p.1≠d:=fun z=>by
    obtain⟨od,_,_,NV,_,Er,_⟩:=hd
    rw[z,NV] at Kp
    cases Kp
    rw[Er] at NU
    cases NU
   exact(Ho.2 _ n2).trans ((sb.2 _ n1).trans Kp)
  ·obtain⟨oi,Hn,rest⟩:=Hc
   exact⟨oi,(Ho.2 _ zj).trans Hn,rest⟩
  ·obtain⟨ol,Kq,NW,nl,NX⟩:=hl
   have n1:l≠it:=fun z=>by
    obtain⟨oi,Hn,Kn,_⟩:=hit
    rw[z,Hn] at Kq
    cases Kq
    rw[Kn] at NW
    exact absurd (Value.type.inj NW) (by decide)
   have n2:l≠d:=fun z=>by
    obtain⟨od,_,_,NV,_,Er,_⟩:=hd
    rw[z,NV] at Kq
    cases Kq
    rw[Er] at NX
    cases NX
   exact⟨ol,(Ho.2 _ n2).trans ((sb.2 _ n1).trans Kq),NW,nl,NX⟩
  ·have:=stored_length_le aJ q.2.1 q.2.2.2
   simp only[List.length_cons] at hz
   lia
  ·exact(Ho.2 _ n1).trans ((sb.2 _ n2).trans e)
theorem dict_list{κ:Type}[DecidableEq κ](knd:KeyKind prog w κ)(l:Addr){s:Shared}{items:Array Value}{n:Nat}{sl:Array (Option Value)}{Q:Value->Shared->Prop}(hA:A.handled=none)(r:List (Addr×κ×Value×Value))(hx:s.heap.get? l=some ⟨.type "list",none,.seq items n,sl⟩)
 (hi:items.toList=r.map (fun q=>Value.ref q.1)) (hp:∀q∈r,s.heap.IsTuple q.1 #[q.2.2.1,q.2.2.2]/\knd.is q.2.1 q.2.2.1=true) (hz:r.length<=sizeLine)
 (h:∀h' tk,h'.DictOf knd s.heap.objs.size (merged [] (r.map fun q=>(q.2.1,q.2.2.2)))->(∀b o,s.heap.get? b=some o->h'.get? b=some o)->Q (.ref s.heap.objs.size) {s with heap:=h',toks:=tk}) :
 wpAny (model prog w) A (call (.type "dict") [.ref l]) Q E s:=by
 refine callType_codes (Q₁:=fun obj s₁=>obj=.ref s.heap.objs.size/\s₁={s with heap:=s.heap.push {cls:=.type "dict",data:=.dict #[]} }) F.kt_called_dict (F.kt_typeCall_dict_1 _) F.entry_dict_init (kt_code_dict_new _ ⟨rfl,rfl⟩) ?_
 rintro obj s₁ ⟨rfl,rfl⟩
 have wg:(s.heap.push {cls:=.type "dict",data:=.dict #[]}).DictOf knd s.heap.objs.size []:=Heap.DictOf.new s.heap
 have lq:∀b o,s.heap.get? b=some o->(s.heap.push {cls:=.type "dict",data:=.dict #[]}).get? b=some o:=fun b o e=>Heap.get?_push_of_some _ e
 refine⟨wg.typeIs,F.args_dict_init_2 _ _,?_⟩
 unfold Builtin.«dict.__init__»
 refine wpAny_bind ?_
 unfold Builtin.Dict.selfAndRest
 refine wpAny_bind (wpAny_notOrdered_dict wg.typeIs ?_)
 show wpAny _ _ (pure (s.heap.objs.size,[Value.ref l])) _ _ _
 refine wpAny_pure ?_
 show wpAny _ _ (Builtin.Dict.updateFrom "dict.__init__" s.heap.objs.size (.ref l) [] .none) _ _ _
 unfold Builtin.Dict.updateFrom
 refine wpAny_bind (wpAny_typeOf (T:="list") ⟨_,lq _ _ hx,rfl⟩ ?_)
 rw[if_pos (by decide)]
 refine wpAny_bind (zu (n:=n) (sl:=sl) l (lq _ _ hx) hA fun h2 NY lA=>?_)
 rw[if_pos (show (none:Option Value).isNone=true from rfl)]
 refine wpAny_bind (wpAny_rule ?_)
 have GY:h2.IsList l items:=⟨_,lA _ _ (lq _ _ hx),rfl,n,rfl⟩
 have hd2:h2.DictOf knd s.heap.objs.size []:=by
  obtain⟨o,es,ep,ho,rest⟩:=wg
  exact⟨o,es,ep,lA _ _ ho,rest⟩
 refine wpAny_bind (wpAny_pyIter_list (s:={s with heap:=h2,toks:=NY}) GY ?_)
 have yc:∀b o,h2.get? b=some o->(h2.push {cls:=.type "list_iterator",data:=.fields #[.ref l,.int 0 0]}).get? b=some o:=fun b o e=>Heap.get?_push_of_some _ e
 have nd:h2.objs.size≠s.heap.objs.size:=by
  obtain⟨o,es,ep,ho,_⟩:=hd2
  exact fun e=>absurd (Heap.lt_size ho) (by rw[e];exact Nat.lt_irrefl _)
 refine wpAny_pure ⟨plainId_quiet dX _,?_⟩
 refine uR (A:=A.in1) knd s.heap.objs.size h2.objs.size l items .none hA nd r 0 0 _ [] _ (by simpa using hi) (fun q hq=>?_) ⟨_,Heap.get?_push_size _ rfl,rfl,rfl⟩ ?_ ?_ (by simpa using hz) fun h4 NZ N0 BJ=>?_
 ·obtain⟨⟨o,ho,rest⟩,kq⟩:=hp q hq
  exact⟨⟨o,yc _ _ (lA _ _ (lq _ _ ho)),rest⟩,kq⟩
 ·obtain⟨o,ho,rest⟩:=GY
  exact⟨o,yc _ _ ho,rest⟩
 ·obtain⟨o,es,ep,ho,rest⟩:=hd2
  exact⟨o,es,ep,yc _ _ ho,rest⟩
 ·refine⟨rfl,h h4 NZ N0 fun b o e=>BJ b o (fun z=>?_) (fun z=>?_) (yc _ _ (lA _ _ (lq _ _ e)))⟩
  ·rw[z] at e
   exact absurd (Heap.lt_size e) (Nat.lt_irrefl _)
  ·have:=Heap.lt_size (lA _ _ (lq _ _ e))
   rw[z] at this
   exact absurd this (Nat.lt_irrefl _)
end
end L3
namespace L2
open PySem PyProof.Rows
theorem lX{X:Cx}(hc:X.calm=true):gW X (.type "dict") (fun xs H Q=>∃(a:Addr) (ps:List (Addr×Key×V)),xs=[.ref a]/\eD X.K H a (ps.map fun q=>V.ref q.1)/\(∀q∈ps,bR X.K H q.1 [kV q.2.1,q.2.2])/\ps.length<=sizeLine/\
 ∀p,H p=none->Q (.ref p) (upd H p (.dK (jC [] (ps.map fun q=>(q.2.1,q.2.2)))))):=by
 intro pins s σ H xs us Q I r h
 obtain⟨a,ps,rfl,ha,hp,hz,q⟩:=h
 obtain⟨u,rfl,ru⟩:=vals1 r
 cases (show u=Value.ref a from ru)
 obtain⟨bc,v1,t1,_⟩:=I.list ha
 obtain⟨⟨cls,UU,dat,sl⟩,n,e1,Qj,Qk,qL⟩:=t1
 simp only at Qj Qk qL
 subst Qj Qk qL
 have mk:∀(l:List (Addr×Key×V)) (us:List Value),Vals (l.map fun q=>V.ref q.1) us->(∀q∈l,bR X.K H q.1 [kV q.2.1,q.2.2])->∃r:List (Addr×Key×Value×Value),us=r.map (fun q=>Value.ref q.1)/\r.length=l.length/\
  (∀q∈r,s.heap.IsTuple q.1 #[q.2.2.1,q.2.2.2]/\(ck X.prog X.w).is q.2.1 q.2.2.1=true)/\KV (l.map fun q=>(q.2.1,q.2.2)) (r.map fun q=>(q.2.1,q.2.2.2)):=by
  intro l
  induction l with
  |nil=>intro us v _;cases v;exact⟨[],rfl,rfl,fun _ z=>(by cases z),.nil⟩
  |cons x l ih=>
   intro us v hp
   rw[List.map_cons] at v
   cases v with
   |cons v1 v2=>
    obtain⟨r,e,lr,hr,kv⟩:=ih _ v2 (fun q hq=>hp q (List.mem_cons_of_mem _ hq))
    obtain⟨j9,w1,tu,_⟩:=I.tuple (hp x (List.mem_cons_self ..))
    obtain⟨ku,vu,rfl,rk,rv⟩:=vals2 w1
    cases v1
    obtain⟨o,ho,Sr,no,Ss⟩:=tu
    refine⟨(x.1,x.2.1,ku,vu)::r,by rw[e];rfl,by simp[lr],fun q hq=>?_,.cons ⟨rfl,rv⟩ kv⟩
    rcases List.mem_cons.mp hq with rfl |hq
    ·exact⟨⟨o,ho,Sr,no,Ss⟩,uD rk⟩
    ·exact hr q hq
 obtain⟨r',er,lr,hr,kv⟩:=mk ps bc v1 hp
 refine L3.dict_list (ck X.prog X.w) a (I.ok.hd hc) r' e1 (by simpa using er) hr (by lia) fun h' tk dd keep=>?_
 have hn:=I.c7.fresh (Nat.le_refl s.heap.objs.size)
 have hb:(s.heap.objs.size==sysModules)=false:=beq_eq_false_iff_ne.mpr (Ne.symm (Nat.ne_of_lt I.big))
 refine⟨.ref s.heap.objs.size,_,I.laid keep (Nat.le_refl _) (vY ?_ hb (kv.merge .nil) dd),rfl,q _ hn⟩
 have h1:=i5 (ps.map fun q=>(q.2.1,q.2.2)) []
 rw[List.length_nil,List.length_map] at h1
 lia
end L2
namespace L3
open PySem PyProof.Rows
section
variable{prog:Program}{w:World}{A:Around}{E:Value->Shared->Prop}{s:Shared}
theorem iw{j tp:Addr}{k:Nat}{bc:Array Value}{v:Value}{Q:Value->Shared->Prop}(hj:s.heap.IsTupleIter j tp k)(ht:s.heap.IsTuple tp bc)(hv:bc[k]?=some v)
 (hQ:∀h',h'.IsTupleIter j tp (k+1)->Heap.SameBut j s.heap h'->Q v {s with heap:=h' }):wpAny (model prog w) A (Builtin.SmallTypes.nextOf (.ref j)) Q E s:=by
 obtain⟨oj,gj,cj,dj⟩:=id hj
 obtain⟨ot,gt,_,nt,dt⟩:=ht
 unfold Builtin.SmallTypes.nextOf
 refine wpAny_bind (wpAny_callSpecial?_slot (name:=Str.ofString "__next__") hj.typeIs F.slot_tuple_iterator_next (wpAny_call_entry F.slot_tuple_iterator_next hj.typeIs F.entry_tuple_iterator_next ?_ (F.args_tuple_iterator_next_1 _)))
 show wpAny _ _ (field (.ref j) 0 >>= _) _ _ s
 refine wpAny_bind (wpAny_field gj dj (x:=.ref tp) rfl ?_)
 show wpAny _ _ (if (Value.ref tp==Value.none)=true then _ else _) _ _ s
 rw[if_neg (show ¬((Value.ref tp==Value.none)=true) from Bool.false_ne_true)]
 show wpAny _ _ (field (.ref j) 1 >>= _) _ _ s
 refine wpAny_bind (wpAny_field gj dj (x:=.int k 0) rfl ?_)
 show wpAny _ _ (seqItems? (.ref tp) >>= _) _ _ s
 refine wpAny_bind (wpAny_seqItems gt dt ?_)
 simp only[Int.toNat_natCast,hv]
 refine wpAny_bind (wpAny_setField gj dj (by simp) (wpAny_pure ⟨v,rfl,wpAny_pure (hQ _ ?_ (Heap.SameBut.update ..))⟩))
 exact⟨_,Heap.get?_update_self _ gj (Obj.isFreed_of_fields (Obj.data_mapFields dj _)),(Obj.cls_mapFields ..).trans cj,by rw[Obj.data_mapFields dj];simp[rawInt]⟩
abbrev lB (h:Heap) (z ti to:Addr) (f g:Value):Prop:=h.get? z=some {cls:=.type "zip",dict:=none,data:=.fields #[f,g,.bool false,.ref ti,.ref to],slots:=#[]}
theorem uT{z ti to T:Addr}{u:Tok}{o:Obj}{g:Bool}{R:Bool->Shared->Prop}(hz:lB s.heap z ti to (.int T u) (.bool g))(hT:s.heap.get? T=some o)
 (h:∀h₀,lB h₀ z ti to (.int T u) (.bool true)->Heap.SameBut z s.heap h₀->R false {s with heap:=h₀}):wpAny (model prog w) A (Builtin.SmallTypes.ownedTupleIsFree (.ref z)) R E s:=by
 unfold Builtin.SmallTypes.ownedTupleIsFree
 refine wpAny_bind (wpAny_field hz rfl (x:=.int T u) rfl ?_)
 show wpAny _ _ (loadIfAlive (T:Int).toNat >>= _) _ _ _
 refine wpAny_bind ?_
 have alive:∀ {R:Option Obj->Shared->Prop},R (some o) s->wpAny (model prog w) A (loadIfAlive (T:Int).toNat) R E s:=fun h=>by
  rw[Int.toNat_natCast]
  intro Γ p hp
  unfold loadIfAlive
  rw[Sem.wp_loadIfAlive,hT]
  exact h
 refine alive ?_
 rw[if_neg (by simp)]
 refine wpAny_bind (wpAny_field hz rfl (x:=.bool g) rfl ?_)
 cases g with
 |false=>
  rw[if_pos (by decide)]
  exact wpAny_bind (wpAny_setField_rec hz (by simp) fun h₀ yd sb=>wpAny_pure (h h₀ yd sb))
 |true=>
  rw[if_neg (by decide)]
  exact wpAny_pure (h s.heap hz (Heap.SameBut.refl _ _))
theorem wj{z ti to j1 j2 l tp T:Addr}{xs ys:Array Value}{i:Nat}{u:Tok}{o:Obj}{g:Bool}{x y:Value}{Q:Value->Shared->Prop}(hz:lB s.heap z ti to (.int T u) (.bool g))(hT:s.heap.get? T=some o)(hI:IsPair s.heap ti (.ref j1) (.ref j2))
 (h1:s.heap.IsListIter j1 l i) (h2:s.heap.IsTupleIter j2 tp i) (hl:s.heap.IsList l xs) (ht:s.heap.IsTuple tp ys) (vD:z≠j1) (Es:z≠j2) (FU:j1≠j2) (hx:xs[i]?=some x) (hy:ys[i]?=some y)
 (hQ:∀h',lB h' z ti to (.int T u) (.bool true)->h'.IsListIter j1 l (i+1)->h'.IsTupleIter j2 tp (i+1)->IsPair h' s.heap.objs.size x y->h'.objs.size=s.heap.objs.size+1->
  (∀c o,c≠z->c≠j1->c≠j2->s.heap.get? c=some o->h'.get? c=some o)->Q (.ref s.heap.objs.size) {s with heap:=h' }) :
 wpAny (model prog w) A (Builtin.«zip.__next__» ⟨[.ref z],[]⟩) (fun fin s'=>∃v,fin=.done (.ret v)/\Q v s') E s:=by
 have lz:l≠z:=fun e=>by
  obtain⟨q,gq,cq,_⟩:=hl
  rw[e,hz] at gq
  cases gq
  exact absurd (Value.type.inj cq) (by decide)
 have UW:l≠j1:=fun e=>by
  obtain⟨q,gq,cq,_⟩:=hl
  obtain⟨r,gr,cr,_⟩:=h1
  rw[e,gr] at gq
  cases gq
  rw[cr] at cq
  exact absurd (Value.type.inj cq) (by decide)
 have tz:tp≠z:=fun e=>by
  obtain⟨q,gq,cq,_⟩:=ht
  rw[e,hz] at gq
  cases gq
  exact absurd (Value.type.inj cq) (by decide)
 have N1:tp≠j1:=fun e=>by
  obtain⟨q,gq,cq,_⟩:=ht
  obtain⟨r,gr,cr,_⟩:=h1
  rw[e,gr] at gq
  cases gq
  rw[cr] at cq
  exact absurd (Value.type.inj cq) (by decide)
 show wpAny _ _ (field (.ref z) 2 >>= _) _ _ _
 refine wpAny_bind (wpAny_field hz rfl (x:=.bool false) rfl ?_)
 show wpAny _ _ (field (.ref z) 3 >>= _) _ _ _
 refine wpAny_bind (wpAny_field hz rfl (x:=.ref ti) rfl ?_)
 refine wpAny_bind (wpAny_seqItems hI rfl ?_)
 show wpAny _ _ (Builtin.SmallTypes.ownedTupleIsFree (.ref z) >>= _) _ _ _
 refine wpAny_bind (uT hz hT fun h₀ yd lC=>?_)
 dsimp only
 rw[if_neg Bool.false_ne_true]
 refine wpAny_bind ?_
 simp only[List.forIn_toArray,List.forIn_cons,List.forIn_nil]
 refine wpAny_bind (wpAny_bind (wpAny_holding ?_))
 show wpAny _ _ (Builtin.SmallTypes.nextOf (.ref j1) >>= _) _ _ _
 refine wpAny_bind (wpAny_nextOf_list_item (s:={s with heap:=h₀}) (h1.extBut lC.extBut vD.symm) (hl.extBut lC.extBut lz) hx fun h₂ Kr cu=>wpAny_pure ?_)
 refine wpAny_pure ?_
 refine wpAny_bind (wpAny_bind (wpAny_holding ?_))
 show wpAny _ _ (Builtin.SmallTypes.nextOf (.ref j2) >>= _) _ _ _
 have N2:h₂.IsTupleIter j2 tp i:=by
  obtain⟨q,gq,rest⟩:=h2
  exact⟨q,cu.extBut _ _ FU.symm (lC.extBut _ _ Es.symm gq),rest⟩
 have N3:h₂.IsTuple tp ys:=(ht.extBut lC.extBut tz).extBut cu.extBut N1
 refine wpAny_bind (iw (s:={s with heap:=h₂}) N2 N3 hy fun h₃ Ks cU=>wpAny_pure ?_)
 refine wpAny_pure (wpAny_pure ?_)
 show wpAny _ _ (newTuple [x,y] >>= _) _ _ _
 have hsz:h₃.objs.size=s.heap.objs.size:=by rw[cU.1,cu.1,lC.1]
 refine wpAny_bind (wpAny_newTuple (s:={s with heap:=h₃}) ?_)
 refine wpAny_pure ⟨_,rfl,?_⟩
 show Q (.ref h₃.objs.size) _
 have hp:IsPair (h₃.push {cls:=.type "tuple",data:=.seq #[x,y]}) h₃.objs.size x y:=Heap.get?_push_size _ rfl
 have qL:(h₃.push {cls:=.type "tuple",data:=.seq #[x,y]}).objs.size=h₃.objs.size+1:=Heap.size_push ..
 rw[hsz] at hp qL ⊢
 have up:∀c o,h₃.get? c=some o->(h₃.push {cls:=.type "tuple",data:=.seq #[x,y]}).get? c=some o:=fun c o e=>Heap.get?_push_of_some _ e
 refine hQ _ (up _ _ (cU.extBut _ _ Es (cu.extBut _ _ vD yd))) ?_ ?_ hp qL fun c o c1 c2 c3 e=>up _ _ (cU.extBut _ _ c3 (cu.extBut _ _ c2 (lC.extBut _ _ c1 e)))
 ·obtain⟨q,gq,rest⟩:=Kr
  exact⟨q,up _ _ (cU.extBut _ _ FU gq),rest⟩
 ·obtain⟨q,gq,rest⟩:=Ks
  exact⟨q,up _ _ gq,rest⟩
theorem zv{z ti to j1 j2 l T:Addr}{xs:Array Value}{i:Nat}{u:Tok}{o:Obj}{g:Bool}{Q:Fin->Shared->Prop}(hA:A.handled=none)(hz:lB s.heap z ti to (.int T u) (.bool g))(hT:s.heap.get? T=some o)(hI:IsPair s.heap ti (.ref j1) (.ref j2))
 (h1:s.heap.IsListIter j1 l i) (hl:s.heap.IsList l xs) (vD:z≠j1) (hx:xs[i]?=none)
 (hE:∀h' e,(∀c o,c≠z->c≠j1->s.heap.get? c=some o->h'.get? c=some o)->(∃o,h'.get? e=some o/\o.cls=.type "StopIteration")->E (.ref e) {s with heap:=h' }) :
 wpAny (model prog w) A (Builtin.«zip.__next__» ⟨[.ref z],[]⟩) Q E s:=by
 have lz:l≠z:=fun e=>by
  obtain⟨q,gq,cq,_⟩:=hl
  rw[e,hz] at gq
  cases gq
  exact absurd (Value.type.inj cq) (by decide)
 show wpAny _ _ (field (.ref z) 2 >>= _) _ _ _
 refine wpAny_bind (wpAny_field hz rfl (x:=.bool false) rfl ?_)
 show wpAny _ _ (field (.ref z) 3 >>= _) _ _ _
 refine wpAny_bind (wpAny_field hz rfl (x:=.ref ti) rfl ?_)
 refine wpAny_bind (wpAny_seqItems hI rfl ?_)
 show wpAny _ _ (Builtin.SmallTypes.ownedTupleIsFree (.ref z) >>= _) _ _ _
 refine wpAny_bind (uT hz hT fun h₀ yd lC=>?_)
 dsimp only
 rw[if_neg Bool.false_ne_true]
 refine wpAny_bind ?_
 simp only[List.forIn_toArray,List.forIn_cons,List.forIn_nil]
 refine wpAny_bind (wpAny_bind (wpAny_holding ?_))
 show wpAny _ _ (Builtin.SmallTypes.nextOf (.ref j1) >>= _) _ _ _
 exact wpAny_bind (wpAny_nextOf_list_end (s:={s with heap:=h₀}) hA (h1.extBut lC.extBut vD.symm) (hl.extBut lC.extBut lz) hx fun h₂ e cu he=>hE h₂ e (fun c o c1 c2 q=>cu _ _ c2 (lC.extBut _ _ c1 q)) he)
theorem wm{z ti to j1 j2 l tp:Addr}{xs ys:Array Value}{i:Nat}{a b x y:Value}{Q:Value->Shared->Prop}(hz:lB s.heap z ti to .none (.bool false))(hO:IsPair s.heap to a b)(hI:IsPair s.heap ti (.ref j1) (.ref j2))
 (h1:s.heap.IsListIter j1 l i) (h2:s.heap.IsTupleIter j2 tp i) (hl:s.heap.IsList l xs) (ht:s.heap.IsTuple tp ys) (vD:z≠j1) (Es:z≠j2) (Kt:z≠to) (BK:to≠j1) (BL:to≠j2) (FU:j1≠j2) (Et:tp≠to) (hx:xs[i]?=some x) (hy:ys[i]?=some y)
 (hQ:∀h',lB h' z ti to (rawInt s.heap.objs.size) (.bool false)->h'.IsListIter j1 l (i+1)->h'.IsTupleIter j2 tp (i+1)->IsPair h' s.heap.objs.size x y->h'.objs.size=s.heap.objs.size+1->
  (∀c o,c≠z->c≠to->c≠j1->c≠j2->s.heap.get? c=some o->h'.get? c=some o)->Q (.ref s.heap.objs.size) {s with heap:=h' }) :
 wpAny (model prog w) A (Builtin.«zip.__next__» ⟨[.ref z],[]⟩) (fun fin s'=>∃v,fin=.done (.ret v)/\Q v s') E s:=by
 have lz:l≠z:=fun e=>by
  obtain⟨q,gq,cq,_⟩:=hl
  rw[e,hz] at gq
  cases gq
  exact absurd (Value.type.inj cq) (by decide)
 have tz:tp≠z:=fun e=>by
  obtain⟨q,gq,cq,_⟩:=ht
  rw[e,hz] at gq
  cases gq
  exact absurd (Value.type.inj cq) (by decide)
 have N1:tp≠j1:=fun e=>by
  obtain⟨q,gq,cq,_⟩:=ht
  obtain⟨r,gr,cr,_⟩:=h1
  rw[e,gr] at gq
  cases gq
  rw[cr] at cq
  exact absurd (Value.type.inj cq) (by decide)
 show wpAny _ _ (field (.ref z) 2 >>= _) _ _ _
 refine wpAny_bind (wpAny_field hz rfl (x:=.bool false) rfl ?_)
 show wpAny _ _ (field (.ref z) 3 >>= _) _ _ _
 refine wpAny_bind (wpAny_field hz rfl (x:=.ref ti) rfl ?_)
 refine wpAny_bind (wpAny_seqItems hI rfl ?_)
 show wpAny _ _ (Builtin.SmallTypes.ownedTupleIsFree (.ref z) >>= _) _ _ _
 refine wpAny_bind ?_
 unfold Builtin.SmallTypes.ownedTupleIsFree
 refine wpAny_bind (wpAny_field hz rfl (x:=.none) rfl (wpAny_pure ?_))
 simp only[if_true]
 refine wpAny_bind (wpAny_rule ?_)
 refine wpAny_bind (wpAny_field hz rfl (x:=.ref to) rfl ?_)
 refine wpAny_bind (wpAny_setField_rec hz (by simp) fun h₁ z₁ cV=>?_)
 replace z₁:lB h₁ z ti to .ellipsis (.bool false):=z₁
 refine wpAny_bind ?_
 simp only[List.zipIdx_cons,List.zipIdx_nil,List.forIn_cons,List.forIn_nil]
 refine wpAny_bind (wpAny_bind (wpAny_onRaise ?_))
 show wpAny _ _ (Builtin.SmallTypes.nextOf (.ref j1) >>= _) _ _ _
 refine wpAny_bind (wpAny_nextOf_list_item (h1.extBut cV.extBut vD.symm) (hl.extBut cV.extBut lz) hx fun h₂ k₂ cu=>wpAny_pure ?_)
 have o₂:IsPair h₂ to a b:=cu.extBut _ _ BK (cV.extBut _ _ Kt.symm hO)
 refine wpAny_bind (wpAny_seqItems o₂ rfl ?_)
 refine wpAny_bind (wpAny_updateSeq_pair o₂ fun h₃ o₃ cU=>?_)
 replace o₃:IsPair h₃ to x b:=o₃
 refine wpAny_bind (wpAny_letGo (wpAny_pure ?_))
 refine wpAny_bind (wpAny_bind (wpAny_onRaise ?_))
 show wpAny _ _ (Builtin.SmallTypes.nextOf (.ref j2) >>= _) _ _ _
 have N2:h₃.IsTupleIter j2 tp i:=by
  obtain⟨q,gq,rest⟩:=h2
  exact⟨q,cU.extBut _ _ BL.symm (cu.extBut _ _ FU.symm (cV.extBut _ _ Es.symm gq)),rest⟩
 have N3:h₃.IsTuple tp ys:=((ht.extBut cV.extBut tz).extBut cu.extBut N1).extBut cU.extBut Et
 refine wpAny_bind (iw N2 N3 hy fun h₄ k₄ iS=>wpAny_pure ?_)
 have o₄:IsPair h₄ to x b:=iS.extBut _ _ BL o₃
 refine wpAny_bind (wpAny_seqItems o₄ rfl ?_)
 refine wpAny_bind (wpAny_updateSeq_pair o₄ fun h₅ o₅ iT=>?_)
 replace o₅:IsPair h₅ to x y:=o₅
 refine wpAny_bind (wpAny_letGo (wpAny_pure (wpAny_pure ?_)))
 refine wpAny_bind (wpAny_seqItems o₅ rfl ?_)
 refine wpAny_bind (wpAny_newTuple ?_)
 have hsz:h₅.objs.size=s.heap.objs.size:=by rw[iT.1,iS.1,cU.1,cu.1,cV.1]
 have z₅:lB h₅ z ti to .ellipsis (.bool false):=iT.extBut _ _ Kt (iS.extBut _ _ Es (cU.extBut _ _ Kt (cu.extBut _ _ vD z₁)))
 have kp:∀c o,c≠z->c≠to->c≠j1->c≠j2->s.heap.get? c=some o->h₅.get? c=some o:=fun c o c1 c2 c3 c4 e=>iT.extBut _ _ c2 (iS.extBut _ _ c4 (cU.extBut _ _ c2 (cu.extBut _ _ c3 (cV.extBut _ _ c1 e))))
 have Ku:z<h₅.objs.size:=Heap.lt_size z₅
 show wpAny _ _ (Builtin.SmallTypes.ownedTupleHandOut (.ref z) (.ref h₅.objs.size) >>= _) _ _ _
 refine wpAny_bind ?_
 unfold Builtin.SmallTypes.ownedTupleHandOut
 have z₆:lB (h₅.push {cls:=.type "tuple",data:=.seq #[x,y]}) z ti to .ellipsis (.bool false):=Heap.get?_push_of_some _ z₅
 refine wpAny_bind (wpAny_setField_rec z₆ (by simp) fun h₇ z₇ qk=>?_)
 replace z₇:lB h₇ z ti to (rawInt h₅.objs.size) (.bool false):=z₇
 refine wpAny_setField_rec z₇ (by simp) fun h₈ z₈ ql=>?_
 replace z₈:lB h₈ z ti to (rawInt h₅.objs.size) (.bool false):=z₈
 have up:∀c o,c≠z->h₅.get? c=some o->h₈.get? c=some o:=fun c o c1 e=>ql.extBut _ _ c1 (qk.extBut _ _ c1 (Heap.get?_push_of_some _ e))
 have t₈:IsPair h₈ h₅.objs.size x y:=ql.extBut _ _ (Nat.ne_of_gt Ku) (qk.extBut _ _ (Nat.ne_of_gt Ku) (Heap.get?_push_size _ rfl))
 have n₈:h₈.objs.size=h₅.objs.size+1:=by rw[ql.1,qk.1,Heap.size_push]
 rw[hsz] at z₈ t₈ n₈
 refine wpAny_pure ⟨_,rfl,?_⟩
 show Q (.ref h₅.objs.size) _
 rw[hsz]
 refine hQ h₈ z₈ ?_ ?_ t₈ n₈ fun c o c1 c2 c3 c4 e=>up c o c1 (kp c o c1 c2 c3 c4 e)
 ·obtain⟨q,gq,rest⟩:=k₂
  exact⟨q,up _ _ vD.symm (iT.extBut _ _ BK.symm (iS.extBut _ _ FU (cU.extBut _ _ BK.symm gq))),rest⟩
 ·obtain⟨q,gq,rest⟩:=k₄
  exact⟨q,up _ _ Es.symm (iT.extBut _ _ BL.symm gq),rest⟩
theorem zw{z ti to j1 j2 l:Addr}{xs:Array Value}{i:Nat}{Q:Fin->Shared->Prop}(hA:A.handled=none)(hz:lB s.heap z ti to .none (.bool false))(hI:IsPair s.heap ti (.ref j1) (.ref j2))
 (h1:s.heap.IsListIter j1 l i) (hl:s.heap.IsList l xs) (vD:z≠j1) (hx:xs[i]?=none)
 (hE:∀h' e,(∀c o,c≠z->c≠j1->s.heap.get? c=some o->h'.get? c=some o)->(∃o,h'.get? e=some o/\o.cls=.type "StopIteration")->E (.ref e) {s with heap:=h' }) :
 wpAny (model prog w) A (Builtin.«zip.__next__» ⟨[.ref z],[]⟩) Q E s:=by
 have lz:l≠z:=fun e=>by
  obtain⟨q,gq,cq,_⟩:=hl
  rw[e,hz] at gq
  cases gq
  exact absurd (Value.type.inj cq) (by decide)
 show wpAny _ _ (field (.ref z) 2 >>= _) _ _ _
 refine wpAny_bind (wpAny_field hz rfl (x:=.bool false) rfl ?_)
 show wpAny _ _ (field (.ref z) 3 >>= _) _ _ _
 refine wpAny_bind (wpAny_field hz rfl (x:=.ref ti) rfl ?_)
 refine wpAny_bind (wpAny_seqItems hI rfl ?_)
 show wpAny _ _ (Builtin.SmallTypes.ownedTupleIsFree (.ref z) >>= _) _ _ _
 refine wpAny_bind ?_
 unfold Builtin.SmallTypes.ownedTupleIsFree
 refine wpAny_bind (wpAny_field hz rfl (x:=.none) rfl (wpAny_pure ?_))
 simp only[if_true]
 refine wpAny_bind (wpAny_rule ?_)
 refine wpAny_bind (wpAny_field hz rfl (x:=.ref to) rfl ?_)
 refine wpAny_bind (wpAny_setField_rec hz (by simp) fun h₁ z₁ cV=>?_)
 replace z₁:lB h₁ z ti to .ellipsis (.bool false):=z₁
 refine wpAny_bind ?_
 simp only[List.zipIdx_cons,List.zipIdx_nil,List.forIn_cons,List.forIn_nil]
 refine wpAny_bind (wpAny_bind (wpAny_onRaise ?_))
 show wpAny _ _ (Builtin.SmallTypes.nextOf (.ref j1) >>= _) _ _ _
 refine wpAny_bind (wpAny_nextOf_list_end hA (h1.extBut cV.extBut vD.symm) (hl.extBut cV.extBut lz) hx fun h₂ e cu he=>?_)
 obtain⟨oe,ge,ce⟩:=he
 have z₂:lB h₂ z ti to .ellipsis (.bool false):=cu _ _ vD z₁
 have ez:e≠z:=fun q=>by subst q;rw[z₂] at ge;cases ge;simp at ce
 exact wpAny_setField_rec z₂ (by simp) fun h₃ _ cU=>hE h₃ e (fun c o c1 c3 q=>cU.extBut _ _ c1 (cu _ _ c3 (cV.extBut _ _ c1 q))) ⟨oe,cU.extBut _ _ ez ge,ce⟩
structure Iw(z ti to j1 j2 l tp:Addr):Prop where
 Su:z≠ti
 Kt:z≠to
 vD:z≠j1
 Es:z≠j2
 N4:ti≠to
 N5:ti≠j1
 N6:ti≠j2
 BK:to≠j1
 BL:to≠j2
 FU:j1≠j2
 Mj:l≠to
 Et:tp≠to
structure Dm(h:Heap)(z ti to j1 j2 l tp:Addr)(xs ys:Array Value)(i:Nat):Prop where
 zip:(∃a b,lB h z ti to .none (.bool false)/\IsPair h to a b)\/∃(T:Addr) (u:Tok) (a b:Value) (g:Bool),lB h z ti to (.int T u) (.bool g)/\IsPair h T a b
 ins:IsPair h ti (.ref j1) (.ref j2)
 Ak:h.IsListIter j1 l i
 Eu:h.IsTupleIter j2 tp i
 ls:h.IsList l xs
 tu:h.IsTuple tp ys
theorem jI{h:Heap}{a b:Addr}{o o':Obj}{c c':String}(e:h.get? a=some o)(e':h.get? b=some o')(hc:o.cls=.type c)(Ja:o'.cls=.type c')(n:c≠c'):a≠b:=fun q=>by
 rw[q,e'] at e
 cases e
 rw[hc] at Ja
 exact n (Value.type.inj Ja)
theorem BM{z ti to j1 j2 l tp:Addr}{xs ys:Array Value}{i:Nat}{x y:Value}{Q:Option Value->Shared->Prop}(ap:Iw z ti to j1 j2 l tp)(st:Dm s.heap z ti to j1 j2 l tp xs ys i)(hx:xs[i]?=some x)(hy:ys[i]?=some y)
 (hQ:∀h',Dm h' z ti to j1 j2 l tp xs ys (i+1)->IsPair h' s.heap.objs.size x y->(∀c o,c≠z->c≠to->c≠j1->c≠j2->s.heap.get? c=some o->h'.get? c=some o)->Q (some (.ref s.heap.objs.size)) {s with heap:=h' }) :
 wpAny (model prog w) A (pyNext (.ref z)) Q E s:=by
 have zT:s.TypeIs (.ref z) "zip":=by
  rcases st.zip with ⟨a,b,hz,_⟩ |⟨T,u,a,b,g,hz,_⟩
  ·exact⟨_,hz,rfl⟩
  ·exact⟨_,hz,rfl⟩
 obtain⟨o1,g1,c1,_⟩:=st.Ak
 obtain⟨o2,g2,c2,_⟩:=st.Eu
 obtain⟨ol,gl,cl,_⟩:=st.ls
 obtain⟨ot,gt,ct,_⟩:=st.tu
 obtain⟨oz,gz,cz⟩:=zT
 have lk:∀h',(∀c o,c≠z->c≠to->c≠j1->c≠j2->s.heap.get? c=some o->h'.get? c=some o)->IsPair h' ti (.ref j1) (.ref j2)/\h'.IsList l xs/\h'.IsTuple tp ys:=fun h' k=>by
  refine⟨k _ _ ap.Su.symm ap.N4 ap.N5 ap.N6 st.ins,?_,?_⟩
  ·obtain⟨q,gq,rest⟩:=st.ls
   exact⟨q,k _ _ (jI gl gz cl cz (by decide)) ap.Mj (jI gl g1 cl c1 (by decide)) (jI gl g2 cl c2 (by decide)) gq,rest⟩
  ·obtain⟨q,gq,rest⟩:=st.tu
   exact⟨q,k _ _ (jI gt gz ct cz (by decide)) ap.Et (jI gt g1 ct c1 (by decide)) (jI gt g2 ct c2 (by decide)) gq,rest⟩
 unfold pyNext
 refine wpAny_bind (wpAny_attempt (wpAny_callSpecial?_slot (name:=Str.ofString "__next__") ⟨oz,gz,cz⟩ F.slot_zip_next (wpAny_call_entry F.slot_zip_next ⟨oz,gz,cz⟩ F.entry_zip_next ?_ (F.args_zip_next_1 _))))
 rcases st.zip with ⟨a,b,hz,hO⟩ |⟨T,u,a,b,g,hz,hT⟩
 ·refine wm hz hO st.ins st.Ak st.Eu st.ls st.tu ap.vD ap.Es ap.Kt ap.BK ap.BL ap.FU ap.Et hx hy fun h' q1 q2 q3 q4 q5 q6=>wpAny_pure ?_
  obtain⟨k1,k2,k3⟩:=lk h' q6
  exact hQ h' ⟨.inr ⟨_,_,x,y,false,q1,q4⟩,k1,q2,q3,k2,k3⟩ q4 q6
 ·refine wj hz hT st.ins st.Ak st.Eu st.ls st.tu ap.vD ap.Es ap.FU hx hy fun h' q1 q2 q3 q4 q5 q6=>wpAny_pure ?_
  have Ql:∀c o,c≠z->c≠to->c≠j1->c≠j2->s.heap.get? c=some o->h'.get? c=some o:=fun c o a1 _ a3 a4 e=>q6 c o a1 a3 a4 e
  obtain⟨k1,k2,k3⟩:=lk h' Ql
  exact hQ h' ⟨.inr ⟨T,u,a,b,true,q1,q6 _ _ (jI hT gz rfl cz (by decide)) (jI hT g1 rfl c1 (by decide)) (jI hT g2 rfl c2 (by decide)) hT⟩,k1,q2,q3,k2,k3⟩ q4 Ql
theorem Ew{z ti to j1 j2 l tp:Addr}{xs ys:Array Value}{i:Nat}{Q:Option Value->Shared->Prop}(hA:A.handled=none)(ap:Iw z ti to j1 j2 l tp)(st:Dm s.heap z ti to j1 j2 l tp xs ys i)(hx:xs[i]?=none)
 (hQ:∀h',(∀c o,c≠z->c≠j1->s.heap.get? c=some o->h'.get? c=some o)->Q none {s with heap:=h' }):wpAny (model prog w) A (pyNext (.ref z)) Q E s:=by
 have zT:s.TypeIs (.ref z) "zip":=by
  rcases st.zip with ⟨a,b,hz,_⟩ |⟨T,u,a,b,g,hz,_⟩
  ·exact⟨_,hz,rfl⟩
  ·exact⟨_,hz,rfl⟩
 unfold pyNext
 refine wpAny_bind (wpAny_attempt (wpAny_callSpecial?_slot (name:=Str.ofString "__next__") zT F.slot_zip_next (wpAny_call_entry F.slot_zip_next zT F.entry_zip_next ?_ (F.args_zip_next_1 _))))
 rcases st.zip with ⟨a,b,hz,hO⟩ |⟨T,u,a,b,g,hz,hT⟩
 ·refine zw hA hz st.ins st.Ak st.ls ap.vD hx fun h' e k he=>?_
  obtain⟨oe,ge,ce⟩:=he
  refine wpAny_bind (wpAny_isInstance (T:="StopIteration") (b:=true) ⟨oe,ge,ce⟩ isSubtype_stop ?_)
  exact wpAny_pure (hQ _ k)
 ·refine zv hA hz hT st.ins st.Ak st.ls ap.vD hx fun h' e k he=>?_
  obtain⟨oe,ge,ce⟩:=he
  refine wpAny_bind (wpAny_isInstance (T:="StopIteration") (b:=true) ⟨oe,ge,ce⟩ isSubtype_stop ?_)
  exact wpAny_pure (hQ _ k)
theorem Dm.but{h h':Heap}{z ti to j1 j2 l tp d:Addr}{xs ys:Array Value}{i:Nat}(st:Dm h z ti to j1 j2 l tp xs ys i)(sb:Heap.SameBut d h h')(dn:∀a o,h.get? a=some o->(∀es n,o.data≠.dict es n)->a≠d):Dm h' z ti to j1 j2 l tp xs ys i:=by
 have k:∀a o,h.get? a=some o->(∀es n,o.data≠.dict es n)->h'.get? a=some o:=fun a o e n=>sb.extBut _ _ (dn a o e n) e
 refine⟨?_,k _ _ st.ins (by intro es n q;cases q),?_,?_,?_,?_⟩
 ·rcases st.zip with ⟨a,b,hz,hO⟩ |⟨T,u,a,b,g,hz,hT⟩
  ·exact .inl ⟨a,b,k _ _ hz (by intro es n q;cases q),k _ _ hO (by intro es n q;cases q)⟩
  ·exact .inr ⟨T,u,a,b,g,k _ _ hz (by intro es n q;cases q),k _ _ hT (by intro es n q;cases q)⟩
 ·obtain⟨o,go,hc,hd⟩:=st.Ak
  exact⟨o,k _ _ go (by intro es n q;rw[hd] at q;cases q),hc,hd⟩
 ·obtain⟨o,go,hc,hd⟩:=st.Eu
  exact⟨o,k _ _ go (by intro es n q;rw[hd] at q;cases q),hc,hd⟩
 ·obtain⟨o,go,hc,n',hd⟩:=st.ls
  exact⟨o,k _ _ go (by intro es n q;rw[hd] at q;cases q),hc,n',hd⟩
 ·obtain⟨o,go,hc,n',hd⟩:=st.tu
  exact⟨o,k _ _ go (by intro es n q;rw[hd] at q;cases q),hc,n',hd⟩
theorem ye{κ:Type}[DecidableEq κ](knd:KeyKind prog w κ)(d z ti to j1 j2 l tp:Addr)(xs ys:Array Value)(res:Value)(hA:A.handled=none)(ap:Iw z ti to j1 j2 l tp)(Qm:d≠to){R:Result->Shared->Prop}:∀(r:List (κ×Value×Value)) (i:Nat) (j:Int) (u:Tok) (aJ:List (κ×Value)) (s:Shared),
 xs.toList.drop i=r.map (·.2.1)->ys.toList.drop i=r.map (·.2.2)->(∀q∈r,knd.is q.1 q.2.1=true)->Dm s.heap z ti to j1 j2 l tp xs ys i->s.heap.DictOf knd d aJ->aJ.length+r.length<=sizeLine->
 (∀h' tk,h'.DictOf knd d (merged aJ (r.map fun q=>(q.1,q.2.2)))->(∀b o,b≠d->b≠z->b≠to->b≠j1->b≠j2->s.heap.get? b=some o->h'.get? b=some o)->R (.ok (.ret res)) {s with heap:=h',toks:=tk})->
 codeAny (model prog w) A (.builtin "dict.update.loop" ⟨[.ref d,.ref z,.int j u,res],[]⟩) R s
 |[],i,j,u,aJ,s,hi,hk,hp,st,hd,hz,hR=>by
  refine codeAny_builtin jH ?_
  rw[Around.under_plainId dX _]
  show wpAny _ A.in1 (pyNext (.ref z) >>= _) _ _ s
  have dn:∀a o,s.heap.get? a=some o->(∀es n,o.data≠.dict es n)->a≠d:=fun a o e n q=>by
   obtain⟨od,_,_,Kv,_,Er,_⟩:=hd
   rw[q,Kv] at e
   cases e
   exact n _ _ Er
  refine wpAny_bind (Ew hA ap st (by rw[<- Array.getElem?_toList];rw[List.map_nil] at hi;exact List.getElem?_eq_none (List.drop_eq_nil_iff.mp hi)) fun h' kp=>?_)
  show wpAny _ _ (Builtin.Dict.addKeywords d [] >>= _) _ _ _
  refine wpAny_bind (wpAny_pure (wpAny_pure (hR h' s.toks ?_ fun b o _ c1 _ c3 _ e=>kp b o c1 c3 e)))
  have dz:d≠z:=by
   rcases st.zip with ⟨a,b,gz,_⟩ |⟨T,u,a,b,g,gz,_⟩
   ·exact(dn _ _ gz (by intro es n q;cases q)).symm
   ·exact(dn _ _ gz (by intro es n q;cases q)).symm
  have dj:d≠j1:=by
   obtain⟨o,go,hc,xm⟩:=st.Ak
   exact(dn _ _ go (by intro es n q;rw[xm] at q;cases q)).symm
  obtain⟨o,es,ep,ho,rest⟩:=hd
  exact⟨o,es,ep,kp d o dz dj ho,rest⟩
 |q::r,i,j,u,aJ,s,hi,hk,hp,st,hd,hz,hR=>by
  have hx:xs[i]?=some q.2.1:=by
   rw[<- Array.getElem?_toList,<- List.head?_drop,hi]
   rfl
  have hy:ys[i]?=some q.2.2:=by
   rw[<- Array.getElem?_toList,<- List.head?_drop,hk]
   rfl
  have dn:∀a o,s.heap.get? a=some o->(∀es n,o.data≠.dict es n)->a≠d:=fun a o e n q=>by
   obtain⟨od,_,_,Kv,_,Er,_⟩:=hd
   rw[q,Kv] at e
   cases e
   exact n _ _ Er
  have dz:d≠z:=by
   rcases st.zip with ⟨a,b,gz,_⟩ |⟨T,u,a,b,g,gz,_⟩
   ·exact(dn _ _ gz (by intro es n q;cases q)).symm
   ·exact(dn _ _ gz (by intro es n q;cases q)).symm
  have Sv:d≠j1:=by
   obtain⟨o,go,hc,xm⟩:=st.Ak
   exact(dn _ _ go (by intro es n q;rw[xm] at q;cases q)).symm
  have Sw:d≠j2:=by
   obtain⟨o,go,hc,xm⟩:=st.Eu
   exact(dn _ _ go (by intro es n q;rw[xm] at q;cases q)).symm
  refine codeAny_builtin jH ?_
  rw[Around.under_plainId dX _]
  show wpAny _ A.in1 (pyNext (.ref z) >>= _) _ _ s
  refine wpAny_bind (BM ap st hx hy fun h' GF pr kp=>?_)
  have xm:h'.DictOf knd d aJ:=by
   obtain⟨o,es,ep,ho,rest⟩:=hd
   exact⟨o,es,ep,kp d o dz Qm Sv Sw ho,rest⟩
  show wpAny _ A.in1 (holding [Value.ref s.heap.objs.size] _ >>= _) _ _ _
  refine wpAny_bind (wpAny_holding (wpAny_bind (wpAny_tryCatch ?_)))
  unfold Builtin.Dict.pairItems
  refine wpAny_bind (wpAny_typeOf (T:="tuple") ⟨_,pr,rfl⟩ ?_)
  rw[if_pos (by decide)]
  refine wpAny_bind (wpAny_seqItems (s:={s with heap:=h' }) pr rfl (wpAny_pure ?_))
  show wpAny _ A.in1 (holding [q.2.1,q.2.2] (dictSet d q.2.1 q.2.2)) _ _ _
  refine wpAny_holding (wpAny_dictSet_pairs (s:={s with heap:=h' }) (hp q (List.mem_cons_self ..)) xm (fun h2 hd2 Ho=>?_) (by simp only[List.length_cons] at hz;lia))
  refine wpAny_pure ⟨plainId_quiet dX _,?_⟩
  refine ye knd d z ti to j1 j2 l tp xs ys res hA ap Qm r (i+1) (j+1) _ _ _ ?_ ?_ (fun p NS=>hp p (List.mem_cons_of_mem _ NS)) (GF.but Ho fun a o e n w=>?_) hd2 ?_ fun h3 tk Mi keep=>hR h3 tk Mi fun b o n1 n2 n3 n4 n5 e=>keep b o n1 n2 n3 n4 n5 ?_
  ·rw[<- List.drop_drop,hi]
   rfl
  ·rw[<- List.drop_drop,hk]
   rfl
  ·obtain⟨od,_,_,Kv,_,Er,_⟩:=xm
   rw[w,Kv] at e
   cases e
   exact n _ _ Er
  ·have:=stored_length_le aJ q.1 q.2.2
   simp only[List.length_cons] at hz
   lia
  ·exact(Ho.2 _ n1).trans (kp b o n2 n3 n4 n5 e)
theorem BN:typeLookup (.type "zip") "keys"=pure none:=by rw[typeLookup_type,builtinLookup_eq_fast];kernel_rfl
theorem BO:typeLookup (.type "zip") "__getattr__"=pure none:=by rw[typeLookup_type,builtinLookup_eq_fast];kernel_rfl
theorem sY:entryFor table "zip.__getattribute__"=some Builtin.«object.__getattribute__»:=entryFor_alias (id':="object.__getattribute__") (by kernel_rfl) (by first |rfl |decide +kernel) (by decide +kernel) (by kernel_rfl)
theorem zx(a:Addr)(u:Tok){hp:Heap}{g:Array GenState}{d:Drawn}{tk:Nat}{os:OsState}{vs:Array Value}{Q:Fin->Shared->Prop}(hx:hp.get? a=some ⟨.type "zip",none,.fields vs, #[]⟩)(hA:A.handled=none)
 (h:∀h' Ep e,Heap.NewAttrErr hp h' e (.ref a) "keys"->E (.ref e) ⟨h',g,d,Ep,os⟩) :
 wpAny (model prog w) A (Builtin.«object.__getattribute__» ⟨[.ref a,.str "keys" u],[]⟩) Q E ⟨hp,g,d,tk,os⟩:=by
 have hT:(⟨hp,g,d,tk,os⟩:Shared).TypeIs (.ref a) "zip":=⟨_,hx,rfl⟩
 have f4:=BN
 unfold Builtin.«object.__getattribute__»
 repeat (any_goals (first |assumption |wp_step))
 exact wpAny_raiseAttrError hA h (attrMsg_fits (by decide +kernel) (by size_fits))
theorem wt(a:Addr){s:Shared}{vs:Array Value}{Q:Option Value->Shared->Prop}(hx:s.heap.get? a=some ⟨.type "zip",none,.fields vs, #[]⟩)(hA:A.handled=none)
 (h:∀h' tk,(∀b ob,s.heap.get? b=some ob->h'.get? b=some ob)->Q none {s with heap:=h',toks:=tk}):wpAny (model prog w) A (getAttr? (.ref a) "keys") Q E s:=by
 obtain⟨hp,g,d,tk,os⟩:=s
 have hT:∀Ep,(⟨hp,g,d,Ep,os⟩:Shared).TypeIs (.ref a) "zip":=fun _=>⟨_,hx,rfl⟩
 have f1:=sub_AttributeError
 have f2:=F.slot_zip_getattribute.lookup
 have f3:=F.slot_zip_getattribute.bind (.ref a)
 have f5:=BO
 unfold getAttr? getAttrBy? getAttrBy
 repeat (any_goals (first |assumption |exact hT _ |wp_step))
 all_goals
  refine codeAny_call_builtin F.slot_zip_getattribute.plain sY (F.slot_zip_getattribute.check _ _ _ _ _ _ _ _ (show (⟨hp,g,d,tk+1,os⟩:Shared).TypeIs (.ref a) "zip" from ⟨_,hx,rfl⟩) (F.args_zip_getattribute_2 _ _) ?_)
 all_goals
  refine zx a tk hx hA fun h' Ep e ne=>?_
 all_goals
  obtain⟨t',u',he⟩:=ne.there
  show wpAny _ _ (getattributeRaised _ _ _ _ _ _ _) _ _ _
  unfold getattributeRaised
  repeat (any_goals (first |assumption |wp_step))
 all_goals exact h _ _ ne.keeps
end
end L3
namespace L3
open PySem PyProof.Rows
abbrev zA (h:Heap) (l:Addr):Heap:=h.push {cls:=.type "list_iterator",data:=.fields #[.ref l,.int 0 0]}
abbrev zB (h:Heap) (l tp:Addr):Heap:=(zA h l).push {cls:=.type "tuple_iterator",data:=.fields #[.ref tp,.int 0 0]}
abbrev zC (h:Heap) (l tp:Addr):Heap:=(zB h l tp).push {cls:=.type "tuple",data:=.seq #[.ref h.objs.size,.ref (zA h l).objs.size]}
abbrev zD (h:Heap) (l tp:Addr):Heap:=(zC h l tp).push {cls:=.type "tuple",data:=.seq #[.none,.none]}
abbrev zE (h:Heap) (l tp:Addr):Heap:=(zD h l tp).push {cls:=.type "zip",data:=.fields #[.none,.bool false,.bool false,.ref (zB h l tp).objs.size,.ref (zC h l tp).objs.size]}
theorem BP(l tp:Addr)(xs ys:Array Value):Meets (Builtin.«zip.__new__» ⟨[.type "zip",.ref l,.ref tp],[]⟩) (fun _ R s=>s.heap.IsList l xs/\s.heap.IsTuple tp ys/\R (.ok (.ret (.ref (zD s.heap l tp).objs.size))) {s with heap:=zE s.heap l tp}):=
 .of_wp fun prog w A R s h=>by
  obtain⟨hp,g,d,tk,os⟩:=s
  obtain⟨g1,g2,h⟩:=h
  have N7:=sub_zip
  have k1:Heap.IsList (Shared.heap ⟨hp,g,d,tk,os⟩) l xs:=g1
  have k2:Heap.IsTuple (Shared.heap ⟨hp.push {cls:=.type "list_iterator",data:=.fields #[.ref l,.int 0 0]},g,d,tk,os⟩) tp ys:=by
   obtain⟨o,go,rest⟩:=g2
   exact⟨o,Heap.get?_push_of_some _ go,rest⟩
  wp_walk using wpAny_pyIter_list k1,wpAny_pyIter_tuple k2
  exact⟨_,rfl,h⟩
section
variable{prog:Program}{w:World}{A:Around}{E:Value->Shared->Prop}{s:Shared}
theorem Ex(n l tp:Nat)(h1:l<n)(h2:tp<n):Iw (n+4) (n+2) (n+3) n (n+1) l tp:=by
 constructor<;>(show (_:Nat)≠_;lia)
theorem wu{l tp:Addr}{xs ys:Array Value}{Q:Value->Shared->Prop}(hl:s.heap.IsList l xs)(ht:s.heap.IsTuple tp ys)
 (h:∀h',Iw (s.heap.objs.size+4) (s.heap.objs.size+2) (s.heap.objs.size+3) s.heap.objs.size (s.heap.objs.size+1) l tp->Dm h' (s.heap.objs.size+4) (s.heap.objs.size+2) (s.heap.objs.size+3) s.heap.objs.size (s.heap.objs.size+1) l tp xs ys 0->
  lB h' (s.heap.objs.size+4) (s.heap.objs.size+2) (s.heap.objs.size+3) .none (.bool false)->(∀c o,s.heap.get? c=some o->h'.get? c=some o)->Q (.ref (s.heap.objs.size+4)) {s with heap:=h' }) :
 wpAny (model prog w) A (call (.type "zip") [.ref l,.ref tp]) Q E s:=by
 refine callType_new F.called_zip (by decide) (F.typeCall_zip_2 _ _) (F.newCall_zip_2 _ _) (fun obj=>F.args_object_init_3 obj _ _) F.entry_zip_new (BP l tp xs ys) ⟨hl,ht,?_⟩
 have z1:(zA s.heap l).objs.size=s.heap.objs.size+1:=Heap.size_push ..
 have z2:(zB s.heap l tp).objs.size=s.heap.objs.size+2:=by rw[Heap.size_push,z1]
 have z3:(zC s.heap l tp).objs.size=s.heap.objs.size+3:=by rw[Heap.size_push,z2]
 have z4:(zD s.heap l tp).objs.size=s.heap.objs.size+4:=by rw[Heap.size_push,z3]
 have g5:(zE s.heap l tp).get? (zD s.heap l tp).objs.size=some _:=Heap.get?_push_size _ rfl
 have g4:(zE s.heap l tp).get? (zC s.heap l tp).objs.size=some _:=Heap.get?_push_of_some _ (Heap.get?_push_size _ rfl)
 have g3:(zE s.heap l tp).get? (zB s.heap l tp).objs.size=some _:=Heap.get?_push_of_some _ (Heap.get?_push_of_some _ (Heap.get?_push_size _ rfl))
 have g2:(zE s.heap l tp).get? (zA s.heap l).objs.size=some _:=Heap.get?_push_of_some _ (Heap.get?_push_of_some _ (Heap.get?_push_of_some _ (Heap.get?_push_size _ rfl)))
 have g1:(zE s.heap l tp).get? s.heap.objs.size=some _:=Heap.get?_push_of_some _ (Heap.get?_push_of_some _ (Heap.get?_push_of_some _ (Heap.get?_push_of_some _ (Heap.get?_push_size _ rfl))))
 have up:∀c o,s.heap.get? c=some o->(zE s.heap l tp).get? c=some o:=fun c o e=>Heap.get?_push_of_some _ (Heap.get?_push_of_some _ (Heap.get?_push_of_some _ (Heap.get?_push_of_some _ (Heap.get?_push_of_some _ e))))
 show _/\_
 rw[z2,z3,z4] at g5
 rw[z1,z2] at g3
 rw[z3] at g4
 rw[z1] at g2
 rw[z4]
 obtain⟨ol,gl,rl⟩:=id hl
 obtain⟨ot,gt,rt⟩:=id ht
 have ll:=Heap.lt_size gl
 have lt:=Heap.lt_size gt
 refine⟨⟨_,g5,rfl⟩,h _ (Ex _ _ _ ll lt) ⟨.inl ⟨_,_,g5,g4⟩,g3,⟨_,g1,rfl,rfl⟩,⟨_,g2,rfl,rfl⟩,⟨ol,up _ _ gl,rl⟩,⟨ot,up _ _ gt,rt⟩⟩ g5 up⟩
theorem BQ{κ:Type}[DecidableEq κ](knd:KeyKind prog w κ)(z ti to j1 j2 l tp:Addr){xs ys:Array Value}{Q:Value->Shared->Prop}(hA:A.handled=none)(ap:Iw z ti to j1 j2 l tp)(st:Dm s.heap z ti to j1 j2 l tp xs ys 0)(gz:lB s.heap z ti to .none (.bool false))(r:List (κ×Value×Value))
 (hi:xs.toList=r.map (·.2.1)) (hk:ys.toList=r.map (·.2.2)) (hp:∀q∈r,knd.is q.1 q.2.1=true) (hz:r.length<=sizeLine) (Mj:to<s.heap.objs.size)
 (h:∀h' tk,h'.DictOf knd s.heap.objs.size (merged [] (r.map fun q=>(q.1,q.2.2)))->(∀b o,b≠z->b≠to->b≠j1->b≠j2->s.heap.get? b=some o->h'.get? b=some o)->Q (.ref s.heap.objs.size) {s with heap:=h',toks:=tk}) :
 wpAny (model prog w) A (call (.type "dict") [.ref z]) Q E s:=by
 refine callType_codes (Q₁:=fun obj s₁=>obj=.ref s.heap.objs.size/\s₁={s with heap:=s.heap.push {cls:=.type "dict",data:=.dict #[]} }) F.kt_called_dict (F.kt_typeCall_dict_1 _) F.entry_dict_init (kt_code_dict_new _ ⟨rfl,rfl⟩) ?_
 rintro obj s₁ ⟨rfl,rfl⟩
 have wg:(s.heap.push {cls:=.type "dict",data:=.dict #[]}).DictOf knd s.heap.objs.size []:=Heap.DictOf.new s.heap
 have lq:∀b o,s.heap.get? b=some o->(s.heap.push {cls:=.type "dict",data:=.dict #[]}).get? b=some o:=fun b o e=>Heap.get?_push_of_some _ e
 refine⟨wg.typeIs,F.args_dict_init_2 _ _,?_⟩
 unfold Builtin.«dict.__init__»
 refine wpAny_bind ?_
 unfold Builtin.Dict.selfAndRest
 refine wpAny_bind (wpAny_notOrdered_dict wg.typeIs ?_)
 show wpAny _ _ (pure (s.heap.objs.size,[Value.ref z])) _ _ _
 refine wpAny_pure ?_
 show wpAny _ _ (Builtin.Dict.updateFrom "dict.__init__" s.heap.objs.size (.ref z) [] .none) _ _ _
 unfold Builtin.Dict.updateFrom
 refine wpAny_bind (wpAny_typeOf (T:="zip") ⟨_,lq _ _ gz,rfl⟩ ?_)
 rw[if_pos (by decide)]
 refine wpAny_bind (wt z (lq _ _ gz) hA fun h2 NY lA=>?_)
 rw[if_pos (show (none:Option Value).isNone=true from rfl)]
 refine wpAny_bind (wpAny_rule ?_)
 have up:∀b o,s.heap.get? b=some o->h2.get? b=some o:=fun b o e=>lA _ _ (lq _ _ e)
 have hd2:h2.DictOf knd s.heap.objs.size []:=by
  obtain⟨o,es,ep,ho,rest⟩:=wg
  exact⟨o,es,ep,lA _ _ ho,rest⟩
 refine wpAny_bind (wpAny_pyIter_zip (s:={s with heap:=h2,toks:=NY}) (up _ _ gz) ?_)
 refine wpAny_pure ⟨plainId_quiet dX _,?_⟩
 have DA:Dm h2 z ti to j1 j2 l tp xs ys 0:=by
  refine⟨?_,up _ _ st.ins,?_,?_,?_,?_⟩
  ·rcases st.zip with ⟨a,b,e1,e2⟩ |⟨T,u,a,b,g,e1,e2⟩
   ·exact .inl ⟨a,b,up _ _ e1,up _ _ e2⟩
   ·exact .inr ⟨T,u,a,b,g,up _ _ e1,up _ _ e2⟩
  ·obtain⟨o,go,rest⟩:=st.Ak;exact⟨o,up _ _ go,rest⟩
  ·obtain⟨o,go,rest⟩:=st.Eu;exact⟨o,up _ _ go,rest⟩
  ·obtain⟨o,go,rest⟩:=st.ls;exact⟨o,up _ _ go,rest⟩
  ·obtain⟨o,go,rest⟩:=st.tu;exact⟨o,up _ _ go,rest⟩
 refine ye (A:=A.in1) knd s.heap.objs.size z ti to j1 j2 l tp xs ys .none hA ap (Nat.ne_of_gt Mj) r 0 0 _ [] _ (by simpa using hi) (by simpa using hk) hp DA hd2 (by simpa using hz) fun h4 NZ N0 BJ=>?_
 refine⟨rfl,h h4 NZ N0 fun b o n1 n2 n3 n4 e=>BJ b o (fun w=>?_) n1 n2 n3 n4 (up _ _ e)⟩
 rw[w] at e
 exact absurd (Heap.lt_size e) (Nat.lt_irrefl _)
end
end L3
namespace L2
open PySem PyProof.Rows
theorem wx(c n k:Nat)(h:c<n):c≠n+k:=by lia
def Qn (K:PySem.W.Frag) (t:TA):TE:=fun σ H Q=>t σ H fun xs H1=>∃(a b:Addr) (ks:List Key) (vs:List V),xs=[.ref a,.ref b]/\eD K H1 a (ks.map kV)/\bR K H1 b vs/\vs.length=ks.length/\∀p,H1 p=none->Q (.ref p) (upd H1 p (.dK (jC [] (ks.zip vs))))
theorem wz{X:Cx}(hc:X.calm=true){ea eb:Expr}{p1 p2 Kw zy:Pos}{t:TA}(Sx:Gl X "dict")(Kx:X.mg "dict"=none)(Sy:Gl X "zip")(Ky:X.mg "zip"=none)(ha:PA X [ea,eb] t)
 (he:starEach [ea,eb] X.env=(false,eval ea X.env)::starEach [eb] X.env:=by rfl) (qR:(backTo zy (starEach [eb] X.env)).any (·.1)=false:=by rfl)
 (Me:starEach [.Call (.Name "zip" p2) [ea,eb] [] zy] X.env=(false,eval (.Call (.Name "zip" p2) [ea,eb] [] zy) X.env)::starEach [] X.env:=by rfl) :
 PE X (.Call (.Name "dict" p1) [.Call (.Name "zip" p2) [ea,eb] [] zy] [] Kw) (Qn X.K t):=by
 intro pins s σ H Q I h
 refine wpAny_Call_Name_kw (lQ I Sx Kx PyProof.Rows.Boot.«dict» ?_ (by decide) (by decide))
 refine PyProof.Rows.callWith_type1 ?_ Me rfl
 rw[Me]
 show wpAny _ _ (spliced ((false,eval (.Call (.Name "zip" p2) [ea,eb] [] zy) X.env)::backTo Kw (starEach [] X.env))) _ _ s
 refine Calls.spliced_cons ?_
 refine wpAny_Call_Name_kw (lQ I Sy Ky PyProof.Rows.Boot.«zip» ?_ (by decide) (by decide))
 refine PyProof.Rows.callWith_type1 (eF (ha zy pins s σ H _ I h) fun us s1 zqz=>?_) he qR
 obtain⟨xs,H1,I1,r1,q1⟩:=zqz
 obtain⟨a,b,ks,vs,rfl,Sz,Kz,lk,q⟩:=q1
 obtain⟨u1,u2,rfl,SA,SD⟩:=vals2 r1
 cases (show u1=Value.ref a from SA)
 cases (show u2=Value.ref b from SD)
 obtain⟨N8,v1,t1,z1⟩:=I1.list Sz
 obtain⟨j9,v2,t2,z2⟩:=I1.tuple Kz
 have mk:∀(ks:List Key) (vs:List V) (Dn Dq:List Value),Vals (ks.map kV) Dn->Vals vs Dq->vs.length=ks.length->∃r:List (Key×Value×Value),Dn=r.map (·.2.1)/\Dq=r.map (·.2.2)/\(∀q∈r,(ck X.prog X.w).is q.1 q.2.1=true)/\KV (ks.zip vs) (r.map fun q=>(q.1,q.2.2))/\r.length=ks.length:=by
  intro ks
  induction ks with
  |nil=>
   intro vs Dn Dq w1 w2 l
   have:vs=[]:=List.length_eq_zero_iff.mp l
   subst this
   cases w1
   cases w2
   exact⟨[],rfl,rfl,fun _ z=>(by cases z),.nil,rfl⟩
  |cons k ks ih=>
   intro vs Dn Dq w1 w2 l
   cases vs with
   |nil=>simp at l
   |cons v vs=>
    rw[List.map_cons] at w1
    cases w1 with
    |@cons _ ku _ SE N9 SF=>
     cases w2 with
     |@cons _ vu _ SG SH SI=>
      obtain⟨r,e1,e2,h3,h4,h5⟩:=ih vs SE SG SF SI (by simpa using l)
      refine⟨(k,ku,vu)::r,by rw[e1];rfl,by rw[e2];rfl,fun q hq=>?_,.cons ⟨rfl,SH⟩ h4,by simp[h5]⟩
      rcases List.mem_cons.mp hq with rfl |hq
      ·exact uD N9
      ·exact h3 q hq
 obtain⟨r,e1,e2,SJ,kv,lr⟩:=mk ks vs N8 j9 v1 v2 lk
 rw[List.length_map] at z1
 refine L3.wu t1.isList (show s1.heap.IsTuple b j9.toArray from t2) fun h' ap st gz keep=>?_
 refine Calls.spliced_nil ?_
 have big:(s1.heap.objs.size+4:Nat)<h'.objs.size:=Heap.lt_size gz
 have hle:s1.heap.objs.size<=h'.objs.size:=by lia
 refine L3.BQ (s:={s1 with heap:=h' }) (ck X.prog X.w) _ _ _ _ _ a b (I1.ok.hd hc) ap st gz r (by simpa using e1) (by simpa using e2) SJ (by lia) (show (s1.heap.objs.size+3:Nat)<h'.objs.size by lia) fun h2 tk dd lA=>?_
 have hn:=I1.c7.fresh hle
 have hb:(h'.objs.size==sysModules)=false:=beq_eq_false_iff_ne.mpr (Ne.symm (Nat.ne_of_lt (Nat.lt_of_lt_of_le I1.big hle)))
 refine⟨.ref h'.objs.size,_,I1.laid (fun c o e=>lA c o ?_ ?_ ?_ ?_ (keep c o e)) hle (vY ?_ hb (kv.merge .nil) dd),rfl,q _ hn⟩
 ·have lc:(c:Nat)<s1.heap.objs.size:=Heap.lt_size e
  exact wx _ _ _ lc
 ·have lc:(c:Nat)<s1.heap.objs.size:=Heap.lt_size e
  exact wx _ _ _ lc
 ·have lc:(c:Nat)<s1.heap.objs.size:=Heap.lt_size e
  exact Nat.ne_of_lt lc
 ·have lc:(c:Nat)<s1.heap.objs.size:=Heap.lt_size e
  exact wx _ _ _ lc
 ·have h1:=i5 (ks.zip vs) []
  rw[List.length_nil,List.length_zip] at h1
  lia
end L2
namespace L2
open PySem
section
variable{K:PySem.W.Frag}{H H':Hp}{p C dx:Addr}{fs:List (Str×V)}
mutual
theorem kZ(h:H p=some (.ins C dx fs))(u:aX (·=p) H H'):∀(d:Dp) (v:V),Rep K H d v->Rep K H' d v
 |.c6,v,r=>by rw[Rep.kW] at r ⊢;exact r
 |.bl b,v,r=>by rw[Rep.lS] at r ⊢;exact r
 |.int b,v,r=>by rw[Rep.aY] at r ⊢;exact r
 |.str b,v,r=>by rw[Rep.bu] at r ⊢;exact r
 |.lst l,v,r=>by
  rw[Rep.bF] at r ⊢
  obtain⟨a,ys,rfl,q,rs⟩:=r
  refine⟨a,ys,rfl,?_,jn h u l ys rs⟩
  rcases q with (q |⟨o,q⟩) |q
  ·exact .inl (.inl (u _ _ (bS q h (by intro z;cases z)) q))
  ·exact .inl (.inr ⟨o,u _ _ (bS q h (by intro z;cases z)) q⟩)
  ·exact .inr q
 |.tup l,v,r=>by
  rw[Rep.aQ] at r ⊢
  obtain⟨a,ys,rfl,q,rs⟩:=r
  refine⟨a,ys,rfl,?_,jn h u l ys rs⟩
  rcases q with (q |⟨o,q⟩) |q
  ·exact .inl (.inl (u _ _ (bS q h (by intro z;cases z)) q))
  ·exact .inl (.inr ⟨o,u _ _ (bS q h (by intro z;cases z)) q⟩)
  ·exact .inr q
theorem jn(h:H p=some (.ins C dx fs))(u:aX (·=p) H H'):∀(ds:List Dp) (vs:List V),aC K H ds vs->aC K H' ds vs
 |[],vs,r=>by rw[aC.aV] at r ⊢;exact r
 |d::ds,vs,r=>by
  rw[aC.az] at r ⊢
  obtain⟨v,t,rfl,r1,r2⟩:=r
  exact⟨v,t,rfl,kZ h u d v r1,jn h u ds t r2⟩
end
end
theorem lY{K:PySem.W.Frag}{a D:Addr}{xs:List V}{te:TE}{Q:VK}{r:St}{H:Hp}(kf:Nat->Key×V)(hS:eD K H a xs)(hl:xs.length<=16000000)(hD:H D=none)
 (step:∀i x H2,xs[i]?=some x->ao H H2->∀R:VK,(∀p,H2 p=none->R (.ref p) (upd H2 p (.tup [kV (kf i).1,(kf i).2])))->te (some x::r) H2 R)
 (q:∀(ps:List (Addr×Key×V)) H2,ao H H2->H2 D=some (.lst (ps.map fun q=>V.ref q.1))->(∀q∈ps,H2 q.1=some (.tup [kV q.2.1,q.2.2]))->ps.map (·.2)=(List.range xs.length).map kf->Q (.ref D) H2) :
 lp (yR K a) D (il 0) sW te Q (none::r) (upd H D (.lst [])):=by
 refine qj (K:=K) (fun i ys H2=>∃ps:List (Addr×Key×V),ys=ps.map (fun q=>V.ref q.1)/\(∀q∈ps,H2 q.1=some (.tup [kV q.2.1,q.2.2]))/\ps.map (·.2)=(List.range i).map kf) hS hl hD ⟨[],rfl,fun _ z=>(by cases z),rfl⟩ ?_ ?_
 ·rintro i x ys H2 hx s2 Hq ly ⟨ps,rfl,Ey,ep⟩ R hR
  refine step i x H2 hx s2 R fun p hp=>hR _ _ (ao.new hp _) ⟨ps++[(p,kf i)],by simp,fun q hq=>?_,by rw[List.map_append,ep,List.range_succ,List.map_append];rfl⟩
  have pD:D≠p:=aB Hq hp
  rcases List.mem_append.mp hq with hq |hq
  ·have e:=Ey q hq
   rw[aF (bS e Hq (by intro z;cases z))]
   exact ao.new hp _ _ _ e
  ·rw[List.mem_singleton.mp hq]
   show upd (upd H2 p _) D _ p=_
   rw[aF pD.symm,aj]
 ·rintro ys H2 s2 Hq ⟨ps,rfl,Ey,ep⟩
  exact q ps H2 s2 Hq Ey ep
theorem hZ{K:PySem.W.Frag}{a D:Addr}{xs:List V}{te:TE}{Q:VK}{r:St}{H:Hp}(f:Nat->V)(hS:eD K H a xs)(hl:xs.length<=16000000)(hD:H D=none)
 (step:∀i x H2,xs[i]?=some x->ao H H2->∀R:VK,R (f i) H2->te (some x::r) H2 R)
 (q:∀H2,ao H H2->H2 D=some (.lst ((List.range xs.length).map f))->Q (.ref D) H2):lp (yR K a) D (il 0) sW te Q (none::r) (upd H D (.lst [])):=by
 refine qj (K:=K) (fun i ys H2=>ys=(List.range i).map f) hS hl hD rfl ?_ ?_
 ·rintro i x ys H2 hx s2 Hq ly rfl R hR
  exact step i x H2 hx s2 R (hR _ _ (ao.refl _) (by rw[List.range_succ,List.map_append];rfl))
 ·rintro ys H2 s2 Hq rfl
  exact q H2 s2 Hq
structure uc(K:PySem.W.Frag)(C:Addr)(H:Hp)(p:Addr)(pr:PG.Prog):Prop where
 at_:∃(dx nl sd fa va st wy:Addr) (us ws:List V),H p=some (.ins C dx [("names",.ref nl),("sizes",.ref sd),("first",.ref fa),("statements",.ref st),("ways",.ref wy)])/\H dx=some (.own p)/\
  H nl=some (.lst (pr.aA.map fun b=>.str (S b.name)))/\H sd=some (.dK (pr.aA.map fun b=>(.inr (S b.name),.int b.size)))/\
  H fa=some (.tup [.int (PG.bz pr.body 0),.ref va])/\H va=some (.tup (pr.aA.map fun b=>.int b.first))/\
  us.length=(PG.aD pr.body).length/\H st=some (.dK (fN (PG.aD pr.body) us))/\aC K H ((PG.aD pr.body).map cT) us/\
  ws.length=(PG.aL pr.body 0).length/\H wy=some (.dK (List.zipWith (fun r v=>(Sum.inl r.1,v)) (PG.aL pr.body 0) ws))/\∀i (hi:i<(PG.aL pr.body 0).length),∃q,ws[i]?=some (.ref q)/\bR K H q ((PG.aL pr.body 0)[i].2.2.map V.int)
section
variable(K:PySem.W.Frag)(C:Addr)
def Ez:Sp:=fun vs H Q _=>∃(p dx:Addr) (v:V) (pr:PG.Prog),vs=[.ref p,v]/\H p=some (.ins C dx [])/\H dx=some (.own p)/\Rep K H (gQ pr) v/\PG.iu pr.body<=3/\(PG.dE pr.body).length<=1000/\(PG.aD pr.body).Pairwise (fun a b=>a.row<b.row)/\(pr.aA.map (·.name)).Nodup/\pr.aA.length<=10/\
 ∀H',bh p H H'->uc K C H' p pr->Q .c6 H'
end
end L2
namespace L2
open PySem
def SK (aJ:List (Key×V)) (x:W):Int:=match cN aJ (.inr (S x)) with
 |some (.int i)=>i
 |_=>0
theorem gx{a b:Int}{m n:Nat}(ha:a.natAbs<=2 ^ m)(hb:b.natAbs<=2 ^ n):(a*b).natAbs<=2 ^ (m+n):=by
 rw[Int.natAbs_mul,Nat.pow_add]
 exact Nat.mul_le_mul ha hb
theorem kn{a:Int}{d:Nat}(h:a.natAbs<=2 ^ (14*2 ^ d))(hd:d<=6):a.natAbs<2 ^ 4000:=by
 refine Nat.lt_of_le_of_lt h (Nat.pow_lt_pow_right (by decide) ?_)
 have:2 ^ d<=2 ^ 6:=Nat.pow_le_pow_right (by decide) hd
 lia
section
variable(K:PySem.W.Frag)
end
end L2
namespace L2
open PySem
theorem uc.mono{K:PySem.W.Frag}{C p:Addr}{H H':Hp}{pr:PG.Prog}(c:uc K C H p pr)(s:ao H H'):uc K C H' p pr:=by
 obtain⟨dx,nl,sd,fa,va,st,wy,us,ws,h1,h2,h3,h4,h5,h6,h7,h8,h9,BR,Dr,KA⟩:=c.at_
 exact⟨⟨dx,nl,sd,fa,va,st,wy,us,ws,s _ _ h1,s _ _ h2,s _ _ h3,s _ _ h4,s _ _ h5,s _ _ h6,h7,s _ _ h8,h9.mono s,BR,s _ _ Dr,fun i hi=>let ⟨q,e,r⟩:=KA i hi;⟨q,e,s.bL r⟩⟩⟩
theorem gc{α β:Type}(g:α->β)(d:α)(l:List α):(List.range l.length).map (fun i=>g (l.getD i d))=l.map g:=by
 apply List.ext_getElem
 ·simp
 ·intro i h1 h2
  simp at h1 h2
  simp[h2]
def c5 (bs:List PG.cD) (vs:List V):List (Key×V):=List.zipWith (fun b v=>(Sum.inr (S b.name),v)) bs vs
theorem qm:∀(bs:List PG.cD) (vs:List V),(bs.map fun b=>(Sum.inr (S b.name):Key)).zip vs=c5 bs vs
 |[],vs=>by simp[c5]
 |b::bs,[]=>by simp[c5]
 |b::bs,v::vs=>by
  show _::(bs.map fun b=>(Sum.inr (S b.name):Key)).zip vs=_::c5 bs vs
  rw[qm bs vs]
theorem oT:∀(bs:List PG.cD) (vs:List V),vs.length=bs.length->(c5 bs vs).map (·.1)=bs.map fun b=>(Sum.inr (S b.name):Key)
 |[],[],_=>rfl
 |[],_::_,h=>by simp at h
 |_::_,[],h=>by simp at h
 |b::bs,v::vs,h=>by
  show _::(c5 bs vs).map (·.1)=_
  rw[oT bs vs (by simpa using h)]
  rfl
theorem names_nodup{bs:List PG.cD}(nb:(bs.map (·.name)).Nodup):(bs.map fun b=>(Sum.inr (S b.name):Key)).Nodup:=by
 refine List.pairwise_map.mpr ((List.pairwise_map.mp nb).imp fun {a b} Mg e=>Mg ?_)
 exact jS.mp (Sum.inr.inj e)
theorem nT:∀(bs:List PG.cD) (vs:List V),vs.length=bs.length->(bs.map (·.name)).Nodup->∀i (hi:i<bs.length) v,vs[i]?=some v->cN (c5 bs vs) (.inr (S bs[i].name))=some v
 |[],_,_,_,i,hi,_,_=>by simp at hi
 |_::_,[],h,_,_,_,_,_=>by simp at h
 |b::bs,v::vs,h,nb,0,hi,u,hu=>by
  simp at hu
  subst hu
  show cN ((_,v)::c5 bs vs) _=_
  exact cI rfl
 |b::bs,v::vs,h,nb,i+1,hi,u,hu=>by
  rw[List.map_cons,List.nodup_cons] at nb
  have mem:(bs[i]'(by simpa using hi)).name∈bs.map (·.name):=List.mem_map.mpr ⟨_,List.getElem_mem _,rfl⟩
  show cN ((.inr (S b.name),v)::c5 bs vs) (.inr (S (bs[i]'(by simpa using hi)).name))=_
  rw[cJ (fun e=>by have e:=jS.mp (Sum.inr.inj e);exact nb.1 (e▸mem))]
  exact nT bs vs (by simpa using h) nb.2 i (by simpa using hi) u (by simpa using hu)
section
variable(K:PySem.W.Frag)(C:Addr)
def zz:Sp:=fun vs H Q _=>∃(p a:Addr) (pr:PG.Prog) (us:List V),vs=[.ref p,.ref a]/\uc K C H p pr/\bR K H a us/\us.length=pr.aA.length/\(pr.aA.map (·.name)).Nodup/\pr.aA.length<=10/\
 ∀d H',ao H H'->H d=none->H' d=some (.dK (c5 pr.aA us))->Q (.ref d) H'
def zF:Sp:=fun vs H Q _=>∃(p d:Addr) (pr:PG.Prog) (aJ:List (Key×V)) (us:List V),vs=[.ref p,.ref d]/\uc K C H p pr/\H d=some (.dK aJ)/\us.length=pr.aA.length/\(∀i (hi:i<pr.aA.length),cN aJ (.inr (S pr.aA[i].name))=us[i]?)/\pr.aA.length<=10/\
 ∀a H',ao H H'->bR K H' a us->Q (.ref a) H'
def BS:Sp:=fun vs H Q _=>∃(p:Addr) (pr:PG.Prog) (row:Int),vs=[.ref p,.int row]/\uc K C H p pr/\(PG.aD pr.body).Pairwise (fun a b=>a.row<b.row)/\
 ((row=0/\Q (.str "end") H)\/(row≠0/\∃i,∃hi:i<(PG.aD pr.body).length,(PG.aD pr.body)[i].row=row/\Q (.str (i6 (PG.aD pr.body)[i].wd)) H))
end
def jo:PG.bM->Option (W×PM.Tr×PM.Tr)
 |.cE _ sg l r=>some (sg,l,r)
 |.ifs _ sg l r _ _=>some (sg,l,r)
 |.gw _ sg l r _=>some (sg,l,r)
 |_=>none
def Hr (sg:W) (a b:Int):Bool:=if sg=[60] then decide (a<b) else decide (a=b)
def wv (bs:List PG.cD) (vals:List Int) (e:PM.Tr):Int:=lT (SK (c5 bs (vals.map V.int))) e
theorem wA{K:PySem.W.Frag}{H:Hp}{st:PG.bM}{v:V}{sg:W}{l r:PM.Tr}(h:Rep K H (cT st) v)(c:jo st=some (sg,l,r)):∃a w0 vl vr ys,v=.ref a/\bR K H a (w0 :: .int st.row :: .str (S sg)::vl::vr::ys)/\Rep K H (eZ l) vl/\Rep K H (eZ r) vr:=by
 have key:∃w ds,cT st=.tup (.str w :: .int st.row :: .str (S sg)::eZ l::eZ r::ds):=by
  cases st<;>simp only[jo,Option.some.injEq,Prod.mk.injEq,reduceCtorEq] at c<;>obtain⟨rfl,rfl,rfl⟩:=c<;>exact⟨_,_,by rw[cT];rfl⟩
 obtain⟨w0,ds,e⟩:=key
 rw[e,Rep.aQ] at h
 obtain⟨a,xs,rfl,q,rs⟩:=h
 rw[aC.az] at rs
 obtain⟨v0,t0,rfl,_,rs⟩:=rs
 rw[aC.az] at rs
 obtain⟨v1,t1,rfl,e1,rs⟩:=rs
 rw[aC.az] at rs
 obtain⟨v2,t2,rfl,e2,rs⟩:=rs
 rw[aC.az] at rs
 obtain⟨v3,t3,rfl,e3,rs⟩:=rs
 rw[aC.az] at rs
 obtain⟨v4,t4,rfl,e4,rs⟩:=rs
 rw[Rep.aY] at e1
 rw[Rep.bu] at e2
 subst e1 e2
 exact⟨a,v0,v3,v4,t4,rfl,q,e3,e4⟩
def fY (K:PySem.W.Frag) (H:Hp) (sa:Addr) (row:Int) (vals:List Int):Prop:=∃va,bR K H sa [.int row,.ref va]/\bR K H va (vals.map V.int)
theorem fY.mono{K:PySem.W.Frag}{H H':Hp}{sa:Addr}{row:Int}{vals:List Int}(h:fY K H sa row vals)(s:ao H H'):fY K H' sa row vals:=let ⟨va,h1,h2⟩:=h;⟨va,s.bL h1,s.bL h2⟩
structure sZ(pr:PG.Prog):Prop where
 pw:(PG.aD pr.body).Pairwise (fun a b=>a.row<b.row)
 nb:(pr.aA.map (·.name)).Nodup
 o9:pr.aA.length<=10
 pos:∀s∈PG.aD pr.body,0<s.row
section
variable(K:PySem.W.Frag)(C:Addr)
end
end L2
namespace L2
open PySem
theorem r9:∀(fl:List PG.eM) (vs:List V),vs.length=fl.length->fl.Pairwise (fun a b=>a.1<b.1)->∀i (hi:i<fl.length) v,vs[i]?=some v->cN (List.zipWith (fun r v=>((Sum.inl r.1:Key),v)) fl vs) (.inl fl[i].1)=some v
 |[],_,_,_,i,hi,_,_=>by simp at hi
 |_::_,[],h,_,_,_,_,_=>by simp at h
 |s::ss,v::vs,h,hp,0,hi,u,hu=>by
  simp at hu
  subst hu
  rw[List.zipWith_cons_cons]
  exact cI rfl
 |s::ss,v::vs,h,hp,i+1,hi,u,hu=>by
  rw[List.pairwise_cons] at hp
  have lt:=hp.1 (ss[i]'(by simpa using hi)) (List.getElem_mem _)
  rw[List.zipWith_cons_cons]
  show cN _ (Sum.inl (ss[i]'(by simpa using hi)).1:Key)=_
  rw[cJ (fun e=>by have e:=Sum.inl.inj e;lia)]
  exact r9 ss vs (by simpa using h) hp.2 i (by simpa using hi) u (by simpa using hu)
theorem mJ(b:List PG.bM)(i:Nat)(hi:i<(PG.aD b).length):∃hf:i<(PG.aL b 0).length,(PG.aL b 0)[i].1=(PG.aD b)[i].row/\(PG.aL b 0)[i].2.1=(PG.aD b)[i].wd:=by
 have e:((PG.aL b 0).map fun r=>(r.1,r.2.1))=(PG.aD b).map fun x=>(x.row,x.wd):=by rw[PG.dH,PG.eN]
 have l:=congrArg List.length e
 rw[List.length_map,List.length_map] at l
 have hf:i<(PG.aL b 0).length:=by lia
 refine⟨hf,?_⟩
 have h1:((PG.aL b 0).map fun r=>(r.1,r.2.1))[i]?=((PG.aD b).map fun x=>(x.row,x.wd))[i]?:=by rw[e]
 rw[List.getElem?_map,List.getElem?_map,List.getElem?_eq_getElem hf,List.getElem?_eq_getElem hi] at h1
 have h1:=Option.some.inj h1
 exact⟨congrArg Prod.fst h1,congrArg Prod.snd h1⟩
theorem zG{b:List PG.bM}(pw:(PG.aD b).Pairwise fun a b=>a.row<b.row):(PG.aL b 0).Pairwise fun a b=>a.1<b.1:=by
 have e:((PG.aL b 0).map fun r=>(r.1,r.2.1))=(PG.aD b).map fun x=>(x.row,x.wd):=by rw[PG.dH,PG.eN]
 have h:((PG.aD b).map fun x=>(x.row,x.wd)).Pairwise fun a b=>a.1<b.1:=List.pairwise_map.mpr pw
 rw[<- e,List.pairwise_map] at h
 exact h
theorem uc.way{K:PySem.W.Frag}{C p:Addr}{H:Hp}{pr:PG.Prog}(c:uc K C H p pr)(ok:sZ pr)(i:Nat)(hi:i<(PG.aD pr.body).length)(hf:i<(PG.aL pr.body 0).length):∃dx fs wy q,H p=some (.ins C dx fs)/\fs.lookup (Str.ofString "ways")=some (V.ref wy)/\mE H wy (.int (PG.aD pr.body)[i].row) (some (.ref q))/\bR K H q ((PG.aL pr.body 0)[i].2.2.map V.int):=by
 obtain⟨dx,nl,sd,fa,va,st,wy,us,ws,h1,h2,h3,h4,h5,h6,h7,h8,h9,BR,Dr,KA⟩:=c.at_
 obtain⟨q,e,hq⟩:=KA i hf
 obtain⟨Qo,e1,_⟩:=mJ pr.body i hi
 have g:=r9 _ _ BR (zG ok.pw) i hf _ e
 rw[e1] at g
 exact⟨dx,_,wy,q,h1,rfl,.inl ⟨_,.inl _,.inl Dr,rfl,g.symm⟩,hq⟩
def se (K:PySem.W.Frag) (H:Hp):Option (Int×List Int)->V->Prop
 |none,v=>v=.c6
 |some x,v=>∃a,v=.ref a/\fY K H a x.1 x.2
def ko (bs:List PG.cD) (st:PG.bM) (ws:List Int) (vals:List Int):Option (Int×List Int):=match jo st with
 |none=>none
 |some (sg,l,r)=>if Hr sg (wv bs vals l) (wv bs vals r) then some (ws.getD 0 0,vals) else if st.wd=.cE then none else some (ws.getD 1 0,vals)
section
variable(K:PySem.W.Frag)(C:Addr)
end
end L2
namespace L2
open PySem PyProof.Rows
def yf:V->List V->Hp->VK->Prop:=fun x vs H Q=>∃(l:Addr) (ss:List Str) (y:Str) (j:Nat),x=.ref l/\vs=[.str y]/\H l=some (.lst (ss.map V.str))/\ss[j]?=some y/\(∀m,m<j->ss[m]?≠some y)/\Q (.int j) H
theorem nU{X:Cx}:Nu X "list.index" yf:=by
 intro pins s σ H x vs v us Q I rx rv h
 obtain⟨l,ss,y,j,rfl,rfl,hH,hj,Nk,q⟩:=h
 cases rx
 obtain⟨u,rfl,ru⟩:=rv.one
 obtain⟨t,rfl⟩:=(show ∃t,u=Value.str y t from ru)
 obtain⟨z,bc,n,r,hl,e⟩:=I.zb hH
 rw[List.length_map] at z hl
 have line:sizeLine=2 ^ 24:=rfl
 have get:∀m (hm:m<bc.length),∃t',bc[m]=Value.str (ss[m]'(by lia)) t':=fun m hm=>by
  obtain⟨w',hw,AR⟩:=r.get (i:=m) (show (ss.map V.str)[m]?=some (V.str (ss[m]'(by lia))) by rw[List.getElem?_map,List.getElem?_eq_getElem (by lia)];rfl)
  rw[List.getElem?_eq_getElem hm] at hw
  cases hw
  exact AR
 have lj:j<ss.length:=(List.getElem?_eq_some_iff.mp hj).1
 have ej:ss[j]=y:=(List.getElem?_eq_some_iff.mp hj).2
 let e0:Value->Bool:=fun v=>match v with
  |.str a _=>a==y
  |_=>false
 refine call_meets F.slot_list_index ⟨_,e,rfl⟩ F.entry_list_index (F.args_list_index_2 _ _)
  (SeqAt.list_indexAt l bc.toArray n none #[] (.str y t) e0 j (by rw[List.size_toArray];lia) (by lia) ?_ ?_) ⟨e,?_,?_⟩
 ·obtain⟨t',et⟩:=get j (by lia)
  show e0 bc[j]=true
  rw[et,ej]
  simp[e0]
 ·intro m hm lt
  have Oa:m<bc.length:=by simpa using hm
  obtain⟨t',et⟩:=get m Oa
  show e0 bc[m]=false
  rw[et]
  have:=Nk m lt
  rw[List.getElem?_eq_getElem (by lia)] at this
  simp only[e0]
  exact beq_eq_false_iff_ne.mpr fun w=>this (by rw[w])
 ·intro v hv
  rw[List.mem_toArray] at hv
  obtain⟨m,hm,rfl⟩:=List.mem_iff_getElem.mp hv
  obtain⟨t',et⟩:=get m hm
  rw[et]
  exact SeqAt.EqAt.str_str _ _ _ _
 ·exact⟨.int j,H,I.tok _,⟨_,rfl⟩,q⟩
def lD (bs:List PG.cD) (x:W):Nat:=(bs.map (·.name)).idxOf x
def tf (bs:List PG.cD) (vals:List Int) (x:W) (v:Int):List Int:=vals.set (lD bs x) v
def cm (bs:List PG.cD) (x:W):Int:=((bs[lD bs x]?).map (·.size)).getD 1
def pY (bs:List PG.cD) (st:PG.bM) (ws vals:List Int) (SM:Int):Option (Int×List Int)×Option Int:=match st with
 |.ask _ b=>(some (ws.getD 0 0,tf bs vals b (SM%cm bs b)),none)
 |.put _ b e=>(some (ws.getD 0 0,tf bs vals b (wv bs vals e%cm bs b)),none)
 |.say _ e=>(some (ws.getD 0 0,vals),some (wv bs vals e))
 |.stop _=>(some (ws.getD 0 0,vals),none)
 |st=>(ko bs st ws vals,none)
theorem mK{bs:List PG.cD}{x:W}(h:x∈bs.map (·.name)):∃hi:lD bs x<bs.length,bs[lD bs x].name=x:=by
 have l:lD bs x<(bs.map (·.name)).length:=List.idxOf_lt_length_iff.mpr h
 have e:(bs.map (·.name))[lD bs x]=x:=List.getElem_idxOf l
 rw[List.length_map] at l
 rw[List.getElem_map] at e
 exact⟨l,e⟩
theorem uU{bs:List PG.cD}(nb:(bs.map (·.name)).Nodup){x:W}(h:x∈bs.map (·.name)):cN (bs.map fun b=>((Sum.inr (S b.name):Key),V.int b.size)) (.inr (S x))=some (.int (cm bs x)):=by
 obtain⟨hx,ex⟩:=mK h
 have e:(bs.map fun b=>((Sum.inr (S b.name):Key),V.int b.size))=c5 bs (bs.map fun b=>V.int b.size):=by
  unfold c5
  rw[List.zipWith_map_right,List.zipWith_self]
 rw[e]
 have:=nT bs (bs.map fun b=>V.int b.size) (by simp) nb (lD bs x) hx (.int bs[lD bs x].size) (by rw[List.getElem?_map,List.getElem?_eq_getElem hx];rfl)
 rw[ex] at this
 rw[this]
 unfold cm
 rw[List.getElem?_eq_getElem hx]
 rfl
section
variable(K:PySem.W.Frag)(C:Addr)
end
end L2
namespace L2
open PySem PySem.Spec PyProof.Rows
def KC (K:PySem.W.Frag):R2:=fun x y H Q=>∃a b xs ys,x=.ref a/\y=.ref b/\bR K H a xs/\bR K H b ys/\xs.length+ys.length<=sizeLine/\∀p H',ao H H'->bR K H' p (xs++ys)->Q (.ref p) H'
theorem yg{X:Cx}:nj X (binaryOp .Add) (KC X.K):=by
 intro pins s σ H x y v u Q I rx ry h
 by_cases hx:∃Ml,(∃a b ys,x=.ref a/\y=.ref b/\bR X.K H a Ml/\bR X.K H b ys/\Ml.length+ys.length<=sizeLine/\∀p H',ao H H'->bR X.K H' p (Ml++ys)->Q (.ref p) H')/\Ml=[]
 ·obtain⟨xs,⟨a,b,ys,rfl,rfl,ha,hb,hz,q⟩,rfl⟩:=hx
  cases rx
  cases ry
  obtain⟨bc,r1,p1,_⟩:=I.tuple ha
  obtain⟨j9,r2,p2,_⟩:=I.tuple hb
  obtain⟨⟨cls,dd,data,sl⟩,ho,hc,n,hd⟩:=id p1
  obtain⟨⟨Jz,JA,data2,Il⟩,GP,JB,n2,hd2⟩:=id p2
  simp only at hc hd JB hd2
  subst hc hd JB hd2
  cases r1
  exact concat_meets ⟨_,ho,rfl⟩ ⟨_,GP,rfl⟩ noFill_tuple_add seq_tuple_add PySem.F.slot_tuple_add PySem.F.entry_tuple_add (PySem.F.args_tuple_add_2 _ _)
   (tuple_addW0 a b _ j9.toArray n n2 dd JA sl Il rfl) ⟨ho,GP,⟨.ref b,H,I,rfl,q _ _ (ao.refl _) hb⟩⟩
 ·obtain⟨a,b,xs,ys,rfl,rfl,ha,hb,hz,q⟩:=h
  refine DJ pins s σ H _ _ v u Q I rx ry ⟨a,b,xs,ys,rfl,rfl,ha,hb,fun e=>hx ⟨xs,⟨a,b,ys,rfl,rfl,ha,hb,hz,q⟩,e⟩,hz,fun e=>q _ _ (ao.refl _) ?_,fun _ p hp=>q _ _ (ao.new hp _) (.of aj)⟩
  rw[e,List.append_nil]
  exact ha
def KD (K:PySem.W.Frag):V->Option Int->Option Int->Hp->VK->Prop:=fun x lo hi H Q=>∃a xs,x=.ref a/\bR K H a xs/\∀p H',ao H H'->bR K H' p (gC xs lo hi)->Q (.ref p) H'
theorem mL{X:Cx}:JD X (KD X.K):=by
 intro pins s σ H x v vl vu lo hi sl Q I rx hs pl pu h
 obtain⟨a,xs,rfl,hx,q⟩:=h
 refine Em pins s σ H _ v vl vu lo hi sl Q I rx hs pl pu ⟨a,xs,rfl,hx,fun e=>q _ _ (ao.refl _) ?_,fun _ p hp=>q _ _ (ao.new hp _) (.of aj)⟩
 have:gC xs lo hi=xs:=by
  unfold gC
  rw[e.1,e.2]
  simp
 rw[this]
 exact hx
section
variable(K:PySem.W.Frag)
end
end L2
namespace L2
open PySem
theorem bR.iO{K:PySem.W.Frag}{H H':Hp}{D a:Addr}{xs ys:List V}(h:bR K H a xs)(hD:H D=some (.lst ys))(u:bh D H H'):bR K H' a xs:=by
 rcases h with (q |⟨o,q⟩) |q
 ·exact .inl (.inl (u _ _ (bS q hD (by intro z;cases z)) q))
 ·exact .inl (.inr ⟨o,u _ _ (bS q hD (by intro z;cases z)) q⟩)
 ·exact .inr q
theorem se.keep{K:PySem.W.Frag}{H H':Hp}{o:Option (Int×List Int)}{v:V}(h:se K H o v)(s:ao H H'):se K H' o v:=by
 cases o with
 |none=>exact h
 |some x=>obtain⟨a,e,sa⟩:=h;exact⟨a,e,sa.mono s⟩
section
variable(K:PySem.W.Frag)
end
end L2
namespace L2
open PySem
section
variable{K:PySem.W.Frag}{H H':Hp}{p C dx a:Addr}{fs:List (Str×V)}{xs:List V}
theorem bR.ins(h:bR K H a xs)(hp:H p=some (.ins C dx fs))(u:bh p H H'):bR K H' a xs:=by
 rcases h with (q |⟨o,q⟩) |q
 ·exact .inl (.inl (u _ _ (bS q hp (by intro z;cases z)) q))
 ·exact .inl (.inr ⟨o,u _ _ (bS q hp (by intro z;cases z)) q⟩)
 ·exact .inr q
theorem eD.ins(h:eD K H a xs)(hp:H p=some (.ins C dx fs))(u:bh p H H'):eD K H' a xs:=by
 rcases h with (q |⟨o,q⟩) |q
 ·exact .inl (.inl (u _ _ (bS q hp (by intro z;cases z)) q))
 ·exact .inl (.inr ⟨o,u _ _ (bS q hp (by intro z;cases z)) q⟩)
 ·exact .inr q
theorem fY.ins{row:Int}{vals:List Int}(h:fY K H a row vals)(hp:H p=some (.ins C dx fs))(u:bh p H H'):fY K H' a row vals:=let ⟨va,h1,h2⟩:=h;⟨va,h1.ins hp u,h2.ins hp u⟩
theorem uc.ins{CC ch:Addr}{pr:PG.Prog}(c:uc K CC H ch pr)(hp:H p=some (.ins C dx fs))(n:ch≠p)(u:bh p H H'):uc K CC H' ch pr:=by
 obtain⟨dx,nl,sd,fa,va,st,wy,us,ws,h1,h2,h3,h4,h5,h6,h7,h8,h9,BR,Dr,KA⟩:=c.at_
 have k:∀ {b:Addr} {o:HO},H b=some o->(∀C dx fs,o≠.ins C dx fs)->H' b=some o:=fun e no=>u _ _ (bS e hp (no _ _ _)) e
 exact⟨⟨dx,nl,sd,fa,va,st,wy,us,ws,u _ _ n h1,k h2 (by intro _ _ _ z;cases z),k h3 (by intro _ _ _ z;cases z),k h4 (by intro _ _ _ z;cases z),k h5 (by intro _ _ _ z;cases z),k h6 (by intro _ _ _ z;cases z),h7,k h8 (by intro _ _ _ z;cases z),jn hp (aX.one u rfl) _ _ h9,BR,k Dr (by intro _ _ _ z;cases z),fun i hi=>let ⟨q,e,r⟩:=KA i hi;⟨q,e,r.ins hp u⟩⟩⟩
end
def KG:PG.fJ->List V
 |.on=>[.str "on"]
 |.out=>[.str "out"]
 |.cE r=>[.str "must",.int r]
 |.fin=>[.str "end"]
def qo (K:PySem.W.Frag) (H:Hp):Option PG.fJ->V->Prop
 |none,v=>v=.c6
 |some e,v=>∃a,v=.ref a/\bR K H a (KG e)
theorem qo.mono{K:PySem.W.Frag}{H H':Hp}{e:Option PG.fJ}{v:V}(h:qo K H e v)(s:ao H H'):qo K H' e v:=by
 cases e with
 |none=>exact h
 |some x=>obtain⟨a,e,q⟩:=h;exact⟨a,e,s.bL q⟩
theorem qo.ins{K:PySem.W.Frag}{H H':Hp}{p C dx:Addr}{fs:List (Str×V)}{e:Option PG.fJ}{v:V}(h:qo K H e v)(hp:H p=some (.ins C dx fs))(u:bh p H H'):qo K H' e v:=by
 cases e with
 |none=>exact h
 |some x=>obtain⟨a,e,q⟩:=h;exact⟨a,e,q.ins hp u⟩
def Mn (ch fl:Addr) (n:Nat) (sa:Addr) (ev:V):List (Str×V):=[("chart",.ref ch),("figures",.ref fl),("taken",.int n),("standing",.ref sa),("end",ev)]
structure Al(K:PySem.W.Frag)(CC CW:Addr)(H:Hp)(wk ch fl:Addr)(pr:PG.Prog)(dP:List Int)(n:Nat)(row:Int)(vals:List Int)(e:Option PG.fJ):Prop where
 at_:∃(dx sa:Addr) (ev:V),H wk=some (.ins CW dx (Mn ch fl n sa ev))/\fY K H sa row vals/\qo K H e ev
 Qp:uc K CC H ch pr
 Qq:eD K H fl (dP.map V.int)
 KI:ch≠wk
theorem Al.mono{K:PySem.W.Frag}{CC CW:Addr}{H H':Hp}{wk ch fl:Addr}{pr:PG.Prog}{dP:List Int}{n:Nat}{row:Int}{vals:List Int}{e:Option PG.fJ}(h:Al K CC CW H wk ch fl pr dP n row vals e)(s:ao H H'):Al K CC CW H' wk ch fl pr dP n row vals e:=
 let ⟨dx,sa,ev,h1,h2,h3⟩:=h.at_
 ⟨⟨dx,sa,ev,s _ _ h1,h2.mono s,h3.mono s⟩,h.Qp.mono s,s.seq h.Qq,h.KI⟩
theorem Al.put{K:PySem.W.Frag}{CC CW:Addr}{H:Hp}{wk ch fl dx sa Mo:Addr}{pr:PG.Prog}{dP:List Int}{n n':Nat}{row BU:Int}{vals uV:List Int}{e e':Option PG.fJ}{ev Mp:V}(h:Al K CC CW H wk ch fl pr dP n row vals e)(hw:H wk=some (.ins CW dx (Mn ch fl n sa ev)))
 (hs:fY K H Mo BU uV) (he:qo K H e' Mp):Al K CC CW (upd H wk (.ins CW dx (Mn ch fl n' Mo Mp))) wk ch fl pr dP n' BU uV e':=by
 have u:bh wk H (upd H wk (.ins CW dx (Mn ch fl n' Mo Mp))):=(bh.refl _ _).put _
 exact⟨⟨dx,Mo,Mp,aj,hs.ins hw u,he.ins hw u⟩,h.Qp.ins hw h.KI u,h.Qq.ins hw u,h.KI⟩
theorem Al.lst{K:PySem.W.Frag}{CC CW:Addr}{H H':Hp}{wk ch fl rl:Addr}{pr:PG.Prog}{dP:List Int}{n:Nat}{row:Int}{vals:List Int}{e:Option PG.fJ}{xs:List V}(h:Al K CC CW H wk ch fl pr dP n row vals e)(hr:H rl=some (.lst xs))(u:bh rl H H')(c:uc K CC H' ch pr)(f:eD K H' fl (dP.map V.int)):Al K CC CW H' wk ch fl pr dP n row vals e:=by
 obtain⟨dx,sa,ev,h1,⟨va,h2,h3⟩,h4⟩:=h.at_
 refine⟨⟨dx,sa,ev,u _ _ (bS h1 hr (by intro z;cases z)) h1,⟨va,h2.iO hr u,h3.iO hr u⟩,?_⟩,c,f,h.KI⟩
 cases e with
 |none=>exact h4
 |some x=>obtain⟨a,e,q⟩:=h4;exact⟨a,e,q.iO hr u⟩
def BV (b:List PG.bM) (row:Int):PG.bM:=((PG.aD b)[PG.Ei b row]?).getD (.stop 0)
def EA (b:List PG.bM) (row:Int):List Int:=(((PG.aL b 0)[PG.Ei b row]?).map (·.2.2)).getD []
def zH (b:List PG.bM) (row:Int):Bool:=decide ((BV b row).wd=.ask)
def jT (pr:PG.Prog) (row:Int) (vals:List Int) (f:Int):Option (Int×List Int)×Option Int:=pY pr.aA (BV pr.body row) (EA pr.body row) vals f
theorem EB{b:List PG.bM}(pw:(PG.aD b).Pairwise (fun a b=>a.row<b.row))(i:Nat)(hi:i<(PG.aD b).length):BV b (PG.aD b)[i].row=(PG.aD b)[i]:=by
 unfold BV
 rw[PG.xZ pw i hi,List.getElem?_eq_getElem hi]
 rfl
theorem EC{b:List PG.bM}(pw:(PG.aD b).Pairwise (fun a b=>a.row<b.row))(i:Nat)(hi:i<(PG.aD b).length)(hf:i<(PG.aL b 0).length):EA b (PG.aD b)[i].row=(PG.aL b 0)[i].2.2:=by
 unfold EA
 rw[PG.xZ pw i hi,List.getElem?_eq_getElem hf]
 rfl
theorem wB(pr:PG.Prog)(row:Int)(vals:List Int)(f:Int)(h:(jT pr row vals f).1=none):(jT pr row vals f).2=none:=by
 unfold jT at h ⊢
 generalize BV pr.body row=st at *
 generalize EA pr.body row=ws at *
 have no:∀y:Int×List Int,¬(some y=none):=fun y e=>by cases e
 cases st
 ·exact absurd h (no _)
 ·exact absurd h (no _)
 ·exact absurd h (no _)
 ·rfl
 ·rfl
 ·rfl
 ·rfl
structure qW(pr:PG.Prog)(row:Int)(vals:List Int):Prop where
 row:row=0\/∃i,∃hi:i<(PG.aD pr.body).length,(PG.aD pr.body)[i].row=row
 len:vals.length=pr.aA.length
 small:∀v∈vals,v.natAbs<=2 ^ 12
structure tj(pr:PG.Prog):Prop where
 ok:sZ pr
 dep:PG.iu pr.body<=3
 o9:(PG.dE pr.body).length<=1000
 own:PG.He (·∈pr.aA.map (·.name)) (fun e=>PG.xY pr.aA e/\PG.c8 e<=2) (·∈PG.Kf) pr.body
 size:∀b∈pr.aA,2<=b.size/\b.size<=10/\0<=b.first/\b.first<b.size
theorem yh{pr:PG.Prog}{w:Int}(h:w=0\/w=0\/∃t∈PG.aD pr.body,t.row=w):w=0\/∃i,∃hi:i<(PG.aD pr.body).length,(PG.aD pr.body)[i].row=w:=by
 rcases h with h |h |⟨t,ht,e⟩
 ·exact .inl h
 ·exact .inl h
 ·obtain⟨i,hi,e2⟩:=List.mem_iff_getElem.mp ht
  exact .inr ⟨i,hi,by rw[e2];exact e⟩
theorem tj.first{pr:PG.Prog}(d:tj pr):qW pr (PG.bz pr.body 0) (pr.aA.map (·.first)):=by
 refine⟨yh (.inr ?_),by simp,fun v hv=>?_⟩
 ·rcases PG.kg pr.body 0 with e |e
  ·exact .inl e
  ·exact .inr e
 ·obtain⟨b,hb,rfl⟩:=List.mem_map.mp hv
  have:=d.size b hb
  lia
theorem uW{pr:PG.Prog}(d:tj pr){x:W}(h:x∈pr.aA.map (·.name)):2<=cm pr.aA x/\cm pr.aA x<=10:=by
 obtain⟨hx,_⟩:=mK h
 unfold cm
 rw[List.getElem?_eq_getElem hx]
 have:=d.size _ (List.getElem_mem hx)
 exact⟨this.1,this.2.1⟩
theorem qW.step{pr:PG.Prog}(d:tj pr){i:Nat}(hi:i<(PG.aD pr.body).length)(hf:i<(PG.aL pr.body 0).length){vals:List Int}{f:Int}(lv:vals.length=pr.aA.length)(sm:∀v∈vals,v.natAbs<=2 ^ 12){x:Int×List Int}{s:Option Int}
 (h:pY pr.aA (PG.aD pr.body)[i] (PG.aL pr.body 0)[i].2.2 vals f=(some x,s)):qW pr x.1 x.2:=by
 have BW:=PG.kY pr.body _ d.own (List.getElem_mem hi)
 obtain⟨w0,w1⟩:=PG.jl pr.body 0 _ (List.getElem_mem hf)
 have SN:=PG.kh pr.body 0 _ (List.getElem_mem hf)
 obtain⟨_,_,ew⟩:=mJ pr.body i hi
 rw[ew] at w1
 generalize (PG.aL pr.body 0)[i].2.2=ws at *
 generalize (PG.aD pr.body)[i]=st at *
 have r0:∀j,j<ws.length->ws.getD j 0=0\/∃i,∃hi:i<(PG.aD pr.body).length,(PG.aD pr.body)[i].row=ws.getD j 0:=fun j hj=>by
  rw[List.getD_eq_getElem?_getD,List.getElem?_eq_getElem hj]
  exact yh (SN _ (List.getElem_mem hj))
 have set:∀(b:W) (z:Int),b∈pr.aA.map (·.name)->(tf pr.aA vals b (z%cm pr.aA b)).length=pr.aA.length/\∀v∈tf pr.aA vals b (z%cm pr.aA b),v.natAbs<=2 ^ 12:=fun b z hb=>by
  unfold tf
  refine⟨by rw[List.length_set];exact lv,fun v hv=>?_⟩
  rcases List.mem_or_eq_of_mem_set hv with hv |rfl
  ·exact sm v hv
  ·have:=uW d hb
   have m1:=Int.emod_nonneg z (b:=cm pr.aA b) (by lia)
   have m2:=Int.emod_lt_of_pos z (b:=cm pr.aA b) (by lia)
   lia
 have cs:ko pr.aA st ws vals=some x->(st.wd=.cE\/st.wd=.ifs\/st.wd=.gw)->qW pr x.1 x.2:=by
  intro e hw
  unfold ko at e
  split at e
  ·cases e
  ·split at e
   ·cases e;exact⟨r0 0 w0,lv,sm⟩
   ·split at e
    ·cases e
    ·rename_i nm
     cases e;exact⟨r0 1 (w1 (hw.resolve_left nm)),lv,sm⟩
 have Mq:∀(y:Int×List Int) (s':Option Int),(some y,s')=(some x,s)->qW pr y.1 y.2->qW pr x.1 x.2:=fun y s' e h=>by cases e;exact h
 cases st<;>rw[PG.Eg] at BW
 ·exact Mq _ _ h ⟨r0 0 w0,(set _ _ BW).1,(set _ _ BW).2⟩
 ·exact Mq _ _ h ⟨r0 0 w0,(set _ _ BW.1).1,(set _ _ BW.1).2⟩
 ·exact Mq _ _ h ⟨r0 0 w0,lv,sm⟩
 ·exact cs (congrArg Prod.fst h) (.inl rfl)
 ·exact Mq _ _ h ⟨r0 0 w0,lv,sm⟩
 ·exact cs (congrArg Prod.fst h) (.inr (.inl rfl))
 ·exact cs (congrArg Prod.fst h) (.inr (.inr rfl))
abbrev FV (pr:PG.Prog):=PG.ua (zH pr.body) (jT pr)
abbrev ED (pr:PG.Prog):=PG.Bu (zH pr.body) (jT pr)
def Hs (pr:PG.Prog) (dP:List Int) (Ht:PG.Kg) (m n:Nat) (row:Int) (vals r s:List Int):Option PG.fJ->Prop
 |none=>row≠0/\qW pr row vals/\Ht=⟨r++(ED pr m row vals (dP.drop n)).rows,s++(ED pr m row vals (dP.drop n)).Ej,(ED pr m row vals (dP.drop n)).fin⟩
 |some e=>Ht=⟨r,s,e⟩
theorem Hs.go{pr:PG.Prog}{dP:List Int}{Ht:PG.Kg}{m n n':Nat}{row:Int}{vals r s:List Int}(h:Hs pr dP Ht (m+1) n row vals r s none)(hd:dP.drop n'=(FV pr row vals (dP.drop n)).2.1)(ok:qW pr (FV pr row vals (dP.drop n)).2.2.1 (FV pr row vals (dP.drop n)).2.2.2.1) :
 Hs pr dP Ht m n' (FV pr row vals (dP.drop n)).2.2.1 (FV pr row vals (dP.drop n)).2.2.2.1 (r++[row]) (s++(FV pr row vals (dP.drop n)).1.toList) (FV pr row vals (dP.drop n)).2.2.2.2:=by
 obtain⟨h0,_,e⟩:=h
 simp only[FV,ED] at *
 rw[PG.Hf _ _ (wB pr) h0] at e
 have ne:=fun z=>PG.Hg (zH pr.body) (jT pr) (row:=row) (vals:=vals) (left:=dP.drop n) z
 generalize PG.ua (zH pr.body) (jT pr) row vals (dP.drop n)=g at *
 obtain⟨g1,g2,g3,g4,g5⟩:=g
 cases g5 with
 |none=>
  refine⟨ne rfl,ok,?_⟩
  simp only at e hd
  rw[e,hd]
  simp
 |some x=>
  show Ht=_
  rw[e]
section
variable(K:PySem.W.Frag)(CC CW:Addr)
def BX (H:Hp) (q:Addr) (o:PG.Kg):Prop:=∃(r s e:Addr),bR K H q [.ref r,.ref s,.ref e]/\H r=some (.lst (o.rows.map V.int))/\H s=some (.lst (o.Ej.map V.int))/\r≠s/\bR K H e (KG o.fin)
end
theorem bR.dk{K:PySem.W.Frag}{H H':Hp}{D a:Addr}{xs:List V}{aJ:List (Key×V)}(h:bR K H a xs)(hD:H D=some (.dK aJ))(u:bh D H H'):bR K H' a xs:=by
 rcases h with (q |⟨o,q⟩) |q
 ·exact .inl (.inl (u _ _ (bS q hD (by intro z;cases z)) q))
 ·exact .inl (.inr ⟨o,u _ _ (bS q hD (by intro z;cases z)) q⟩)
 ·exact .inr q
theorem fY.iO{K:PySem.W.Frag}{H H':Hp}{D a:Addr}{ys:List V}{row:Int}{vals:List Int}(h:fY K H a row vals)(hD:H D=some (.lst ys))(u:bh D H H'):fY K H' a row vals:=let ⟨va,h1,h2⟩:=h;⟨va,h1.iO hD u,h2.iO hD u⟩
theorem BX.mono{K:PySem.W.Frag}{H H':Hp}{q:Addr}{o:PG.Kg}(h:BX K H q o)(s:ao H H'):BX K H' q o:=let ⟨r,t,e,h1,h2,h3,h4,h5⟩:=h;⟨r,t,e,s.bL h1,s _ _ h2,s _ _ h3,h4,s.bL h5⟩
end L2
namespace L2
open PySem PyProof.Rows
inductive Path(pr:PG.Prog):Int->List Int->List Int->List Int->List Int->Int->List Int->List Int->Prop
 |nil {row:Int} {vals left:List Int}:Path pr row vals left [] [] row vals left
 |cons {row f:Int} {vals left r rs ss:List Int} {x:Int×List Int} {s:Option Int} {BU:Int} {uV FW:List Int} (h0:row≠0) (ht:PG.take1 (zH pr.body row) left=some (f,r)) (hs:jT pr row vals f=(some x,s))
  (h:Path pr x.1 x.2 r rs ss BU uV FW):Path pr row vals left (row::rs) (s.toList++ss) BU uV FW
section
variable{pr:PG.Prog}{a a' UX:Int}{b c b' c' UY UZ rs KJ ss U0:List Int}
end
end L2
namespace L2
open PySem
section
variable{s f m v g:Int}{l:List Int}
end
section
variable{s n a u m g:Int}{l:List Int}
end
section
variable{s v m g:Int}{l:List Int}
end
section
variable{sa sb sc:Int}{a b c g:Int}{l:List Int}
end
end L2
namespace L2
open PySem
section
variable{K:PySem.W.Frag}{H H1:Hp}{p:Addr}{vs:List V}{ds:List Dp}
end
end L2
namespace L2
open PySem
section
variable{prog:Program}{w:World}
def uX (prog:Program) (w:World) (h:Heap) (x:Key×List Key) (a:Addr):Prop:=∃(o:Obj) (n:Nat) (u:Value) (b:Addr),h.get? a=some o/\o.cls=.type "tuple"/\o.data=.seq #[u,.ref b] n/\pJ x.1 u=true/\IsTupleKey (ck prog w) h x.2 b
theorem uX.ty{s:Shared}{x:Key×List Key}{a:Addr}(h:uX prog w s.heap x a):s.TypeIs (.ref a) "tuple":=let ⟨o,_,_,_,e,c,_⟩:=h;⟨o,e,c⟩
theorem uX.one{h:Heap}{a:Addr}{x y:Key×List Key}(hx:uX prog w h x a)(hy:uX prog w h y a):x=y:=by
 obtain⟨o,n,u,b,e,_,d,i,t⟩:=hx
 obtain⟨o',n',u',b',e',_,d',i',t'⟩:=hy
 rw[e] at e'
 cases e'
 rw[d] at d'
 injection d' with d1 _
 have d1:=congrArg Array.toList d1
 simp only[List.cons.injEq,Value.ref.injEq,and_true] at d1
 obtain⟨rfl,rfl⟩:=d1
 exact Prod.ext ((ck prog w).inj _ _ _ i i') (t.inj t')
theorem uX.kp{h h':Heap}{x:Key×List Key}{a d:Addr}{o:Obj}{es ep}(hx:uX prog w h x a)(ho:h.get? d=some o)(hd:o.data=.dict es ep)(hs:Heap.SameBut d h h'):uX prog w h' x a:=by
 obtain⟨o',n,u,b,e,c,d',i,t⟩:=hx
 have ne:a≠d:=fun z=>by
  rw[z,ho] at e
  cases e
  rw[hd] at d'
  cases d'
 exact⟨o',n,u,b,(hs.2 a ne).trans e,c,d',i,t.keeps ho hd hs⟩
variable{A:Around}{E:Value->Shared->Prop}{s:Shared}
end
end L2
namespace L2
open PySem
end L2
namespace L2
open PySem
structure KH(κ:Type)[DecidableEq κ] where
 knd:∀(P:Program) (w:World),HeapKind P w κ
 on:PySem.W.Frag->Hp->κ->Addr->Prop
 up:∀ {K:PySem.W.Frag} {H H':Hp} {x:κ} {a:Addr},(∀b ys,bR K H b ys->bR K H' b ys)->on K H x a->on K H' x a
 of:∀ {X:Cx} {pins:List (Addr×Obj)} {σ:St} {H:Hp} {s:Shared} {x:κ} {a:Addr},Inv X pins σ H s->on X.K H x a->(knd X.prog X.w).is s.heap x a
 room:∀ {P:Program} {w:World} {A:Around},A.units+16<cLine->(knd P w).room A.in1
section
variable{κ:Type}[DecidableEq κ](J:KH κ)
def FX (P:Program) (w:World) (a:Addr) (xs:List (κ×Addr×Value)):Heap->Prop:=fun h=>∃o es ep,h.get? a=some o/\o.ExactDict/\o.data=.dict es ep/\es.toList=xs.map (entryOfKey (J.knd P w))
abbrev KS (K:PySem.W.Frag) (H:Hp):List (κ×V)->List (κ×Addr×Value)->Prop:=Paired fun p q=>p.1=q.1/\J.on K H p.1 q.2.1/\RelV p.2 q.2.2
structure DS(P:Program)(w:World)(K:PySem.W.Frag)(H:Hp)(a:Addr)(aJ:List (κ×V)):Prop where
 len:aJ.length<=sizeLine
 sys:(a==sysModules)=false
 at_:∃xs,H a=some (.ext (FX J P w a xs))/\KS J K H aJ xs/\(xs.map (·.1)).Nodup
variable{J}
section
variable{K:PySem.W.Frag}{H H':Hp}{aJ:List (κ×V)}{xs:List (κ×Addr×Value)}
theorem KS.val(r:KS J K H aJ xs)(k:κ):k8 (cN aJ k) ((atKey xs k).map (·.2)):=by
 induction r with
 |nil=>exact True.intro
 |@cons p q ps qs h t ih=>
  by_cases e:p.1=k
  ·rw[cI e,show atKey (q::qs) k=some q.2 by simp[atKey,h.1.symm.trans e]]
   exact h.2.2
  ·have e':¬q.1=k:=fun z=>e (h.1.trans z)
   rw[cJ e,show atKey (q::qs) k=atKey qs k by simp[atKey,e']]
   exact ih
theorem KS.put(r:KS J K H aJ xs)(k:κ){b:Addr}{y:V}{u:Value}(hb:J.on K H k b)(ry:RelV y u):KS J K H (putK aJ k y) (storedH xs k b u):=by
 have e:(aJ.any fun kv=>decide (kv.1=k))=(atKey xs k).isSome:=by rw[kb,(r.val k).rV,Option.isSome_map]
 unfold putK storedH
 rw[e]
 by_cases q:(atKey xs k).isSome=true
 ·rw[if_pos q,if_pos q]
  clear e q
  induction r with
  |nil=>exact .nil
  |@cons p q ps qs h t ih=>
   refine .cons ?_ ih
   dsimp only
   unfold putAt
   by_cases e:p.1=k
   ·rw[if_pos e]
    rw[if_pos (h.1.symm.trans e)]
    exact⟨h.1,h.2.1,ry⟩
   ·rw[if_neg e]
    rw[if_neg fun z=>e (h.1.trans z)]
    exact h
 ·rw[if_neg q,if_neg q]
  exact Paired.snoc r ⟨rfl,hb,ry⟩
theorem KS.up(r:KS J K H aJ xs)(t:∀b ys,bR K H b ys->bR K H' b ys):KS J K H' aJ xs:=Paired.As r fun _ _ z=>⟨z.1,J.up t z.2.1,z.2.2⟩
end
section
variable{X:Cx}{pins:List (Addr×Obj)}{σ:St}{H:Hp}{s:Shared}{a b:Addr}{v:V}{u r:Value}{A:Around}{E:Value->Shared->Prop}{aJ:List (κ×V)}{k:κ}
theorem bR.ext{K:PySem.W.Frag}{H:Hp}{a c:Addr}{φ:Heap->Prop}{o:HO}{ys:List V}(h:bR K H c ys)(e:H a=some (.ext φ)):bR K (upd H a o) c ys:=by
 rcases h with (q |⟨o',q⟩) |q
 ·exact .inl (.inl (by rw[aF (bS q e (by intro z;cases z))];exact q))
 ·exact .inl (.inr ⟨o',by rw[aF (bS q e (by intro z;cases z))];exact q⟩)
 ·exact .inr q
end
theorem DS.Ob{P:Program}{w:World}{K:PySem.W.Frag}{H H':Hp}{a:Addr}{aJ:List (κ×V)}(d:DS J P w K H a aJ)(e:∀o,H a=some o->H' a=some o)(t:∀b ys,bR K H b ys->bR K H' b ys):DS J P w K H' a aJ:=⟨d.len,d.sys,let ⟨xs,h,r,nd⟩:=d.at_;⟨xs,e _ h,r.up t,nd⟩⟩
theorem DS.mono{P:Program}{w:World}{K:PySem.W.Frag}{H H':Hp}{a:Addr}{aJ:List (κ×V)}(d:DS J P w K H a aJ)(s:ao H H'):DS J P w K H' a aJ:=d.Ob (fun o h=>s _ _ h) fun b ys q=>s.bL q
section
variable{X:Cx}{o i value:Expr}{pos pos':Pos}{td ty tv:TE}
def BY (J:KH κ) (P:Program) (w:World):TE:=fun _ H Q=>∀p,H p=none->(p==sysModules)=false->Q (.ref p) (upd H p (.ext (FX J P w p [])))
def BZ (J:KH κ) (P:Program) (w:World) (K:PySem.W.Frag) (td ty tv:TE):TS:=fun D σ H=>tv σ H fun v H1=>td σ H1 fun x H2=>ty σ H2 fun y H3=>∃(a b:Addr) (aJ:List (κ×V)) (k:κ),x=.ref a/\y=.ref b/\DS J P w K H3 a aJ/\J.on K H3 k b/\aJ.length<sizeLine/\
 ∀H4,DS J P w K H4 a (putK aJ k v)->(∃φ,H4=upd H3 a (.ext φ))->D.nx σ H4
def B0 (J:KH κ) (P:Program) (w:World) (K:PySem.W.Frag) (td ty:TE):TE:=fun σ H Q=>td σ H fun x H1=>ty σ H1 fun y H2=>∃(a b:Addr) (aJ:List (κ×V)) (k:κ) (v:V),x=.ref a/\y=.ref b/\DS J P w K H2 a aJ/\J.on K H2 k b/\cN aJ k=some v/\Q v H2
end
end
end L2
namespace L2
open PySem
end L2
namespace L2
open PySem
def uY (h:Heap) (d:Addr) (es:Array DictEntry) (ep:Nat):Prop:=∃o,h.get? d=some o/\o.ExactDict/\o.data=.dict es ep
section
variable{prog:Program}{w:World}{A:Around}{E:Value->Shared->Prop}{s:Shared}{d it:Addr}{es:Array DictEntry}{ep i:Nat}
theorem uY.ty(x:uY s.heap d es ep):s.TypeIs (.ref d) "dict":=let ⟨o,g,c,_⟩:=x;⟨o,g,c.1⟩
theorem uY.Ob{h h':Heap}(x:uY h d es ep)(e:∀o,h.get? d=some o->h'.get? d=some o):uY h' d es ep:=let ⟨o,g,r⟩:=x;⟨o,e _ g,r⟩
end
section
variable{κ:Type}[DecidableEq κ]{J:KH κ}{X:Cx}
end
end L2
namespace PG
section
variable{β:Type}(ask:Int->Bool)(step:Int->List Int->Int->Option (Int×List Int)×Option Int)(tg:Int×List Int->List β)
abbrev jJ:=Int×List Int
def rX (x:jJ×List Int):Option (jJ×List Int):=if x.1.1=0 then none else match take1 (ask x.1.1) x.2 with
 |none=>none
 |some (f,r)=>(step x.1.1 x.1.2 f).1.map fun y=>(y,r)
inductive Met:jJ×List Int->β->Prop
 |here {s t}:t∈tg s.1->Met s t
 |on {s s' t}:rX ask step s=some s'->Met s' t->Met s t
variable{ask step tg}
theorem k6{s:jJ}{l:List Int}(h0:s.1≠0)(ha:ask s.1=false):rX ask step (s,l)=(step s.1 s.2 0).1.map fun y=>(y,l):=by
 unfold rX
 rw[if_neg h0]
 simp only[take1,ha,Bool.false_eq_true,if_false]
theorem EE{s:jJ}{f:Int}{l:List Int}(h0:s.1≠0)(ha:ask s.1=true):rX ask step (s,f::l)=(step s.1 s.2 f).1.map fun y=>(y,l):=by
 unfold rX
 rw[if_neg h0]
 simp only[take1,ha,if_true]
theorem B1{s:jJ}{l:List Int}(h0:s.1=0):rX ask step (s,l)=none:=by
 unfold rX
 rw[if_pos h0]
structure MI(ask:Int->Bool)(step:Int->List Int->Int->Option (Int×List Int)×Option Int)(tg:Int×List Int->List β)(s0:jJ×List Int)(ms:List β)(seen:List jJ)(s:jJ×List Int):Prop where
 a:∀t,Met ask step tg s0 t->t∈ms\/Met ask step tg s t
 b:∀t∈ms,Met ask step tg s0 t
 c:∀t,Met ask step tg s t->Met ask step tg s0 t
 d:∀x∈seen,(∀t∈tg x,t∈ms)/\x.1≠0/\ask x.1=false/\∀y,(step x.1 x.2 0).1=some y->y∈seen\/y=s.1
variable{s0 s s':jJ×List Int}{ms EF:List β}{seen:List jJ}
theorem EG(h:rX ask step s=none){t:β}(m:Met ask step tg s t):t∈tg s.1:=by
 cases m with
 |here m=>exact m
 |on e _=>rw[h] at e;cases e
theorem MI.fin(h:MI ask step tg s0 ms seen s)(hm:∀t,t∈EF↔t∈ms\/t∈tg s.1)(he:rX ask step s=none\/s.1∈seen)(t:β):t∈EF↔Met ask step tg s0 t:=by
 rw[hm]
 refine⟨fun z=>z.elim (h.b t) fun z=>h.c t (.here z),fun z=>?_⟩
 rcases h.a t z with z |z
 ·exact .inl z
 rcases he with he |he
 ·exact .inr (EG he z)
 ·have key:∀s' t,Met ask step tg s' t->s'.1∈seen->t∈ms:=by
   intro s' t m
   induction m with
   |here m=>exact fun q=>(h.d _ q).1 _ m
   |@on a b t e _ ih=>
    intro q
    obtain⟨_,h0,ha,hs⟩:=h.d _ q
    obtain⟨a1,a2⟩:=a
    rw[k6 h0 ha] at e
    obtain⟨y,hy,rfl⟩:=Option.map_eq_some_iff.mp e
    rcases hs y hy with q2 |rfl
    ·exact ih q2
    ·exact ih he
  exact .inl (key _ _ z he)
theorem MI.next(h:MI ask step tg s0 ms seen s)(hm:∀t,t∈EF↔t∈ms\/t∈tg s.1)(hn:rX ask step s=some s'\/rX ask step s=none/\s'=s) :
 (∀t,Met ask step tg s0 t->t∈EF\/Met ask step tg s' t)/\(∀t∈EF,Met ask step tg s0 t)/\∀t,Met ask step tg s' t->Met ask step tg s0 t:=by
 refine⟨fun t m=>?_,fun t m=>?_,fun t m=>?_⟩
 ·rw[hm]
  rcases h.a t m with z |z
  ·exact .inl (.inl z)
  ·rcases hn with hn |⟨hn,rfl⟩
   ·cases z with
    |here z=>exact .inl (.inr z)
    |on e z=>rw[hn] at e;cases e;exact .inr z
   ·exact .inr z
 ·rcases(hm t).mp m with z |z
  ·exact h.b t z
  ·exact h.c t (.here z)
 ·rcases hn with hn |⟨hn,rfl⟩
  ·exact h.c t (.on hn m)
  ·exact h.c t m
theorem MI.go(h:MI ask step tg s0 ms seen s)(hm:∀t,t∈EF↔t∈ms\/t∈tg s.1)(hn:rX ask step s=some s'\/rX ask step s=none/\s'=s)(h0:s.1.1≠0)(ha:ask s.1.1=false):MI ask step tg s0 EF (seen++[s.1]) s':=by
 obtain⟨a,b,c⟩:=h.next hm hn
 refine⟨a,b,c,fun x q=>?_⟩
 rcases List.mem_append.mp q with q |q
 ·obtain⟨d1,d2,d3,d4⟩:=h.d x q
  refine⟨fun t m=>(hm t).mpr (.inl (d1 t m)),d2,d3,fun y hy=>.inl ?_⟩
  rcases d4 y hy with z |rfl
  ·exact List.mem_append_left _ z
  ·exact List.mem_append_right _ (List.mem_singleton.mpr rfl)
 ·cases List.mem_singleton.mp q
  refine⟨fun t m=>(hm t).mpr (.inr m),h0,ha,fun y hy=>.inr ?_⟩
  obtain⟨s1,s2⟩:=s
  rw[k6 h0 ha,hy] at hn
  rcases hn with hn |⟨hn,_⟩
  ·cases hn;rfl
  ·cases hn
structure Seg(ask:Int->Bool)(step:Int->List Int->Int->Option (Int×List Int)×Option Int)(s:jJ)(g:List jJ):Prop where
 head:g[0]?=some s
 mid:∀i (h:i+1<g.length),g[i].1≠0/\ask g[i].1=false/\(step g[i].1 g[i].2 0).1=some g[i+1]
 last:∀x,g.getLast?=some x->x.1=0\/ask x.1=true\/(step x.1 x.2 0).1=none\/∃y∈g,(step x.1 x.2 0).1=some y
section
variable{s:jJ}{g:List jJ}{l:List Int}
theorem Seg.nx(h:Seg ask step s g)(i:Nat)(hi:i+1<g.length):rX ask step (g[i],l)=some (g[i+1],l):=by
 obtain⟨h0,ha,e⟩:=h.mid i hi
 rw[k6 h0 ha,e]
 rfl
theorem Seg.up(h:Seg ask step s g):∀(i:Nat) (hi:i<g.length) (t:β),Met ask step tg (g[i],l) t->Met ask step tg (s,l) t
 |0,hi,t,m=>by
  have:=h.head
  rw[List.getElem?_eq_getElem hi] at this
  cases this
  exact m
 |i+1,hi,t,m=>h.up i (by lia) t (.on (h.nx i hi) m)
theorem Seg.met(h:Seg ask step s g){x:jJ}(hx:x∈g){t:β}(ht:t∈tg x):Met ask step tg (s,l) t:=by
 obtain⟨i,hi,rfl⟩:=List.mem_iff_getElem.mp hx
 exact h.up i hi t (.here ht)
theorem Seg.EH{x:jJ}(hx:g.getLast?=some x):∃hi:g.length-1<g.length,g[g.length-1]=x:=by
 rw[List.getLast?_eq_getElem?] at hx
 exact List.getElem?_eq_some_iff.mp hx
theorem Seg.all(h:Seg ask step s g){t:β}(m:Met ask step tg (s,l) t):(∃x∈g,t∈tg x)\/∃x s',g.getLast?=some x/\x.1≠0/\ask x.1=true/\rX ask step (x,l)=some s'/\Met ask step tg s' t:=by
 have key:∀s' t,Met ask step tg s' t->s'.2=l->s'.1∈g->(∃x∈g,t∈tg x)\/∃x s',g.getLast?=some x/\x.1≠0/\ask x.1=true/\rX ask step (x,l)=some s'/\Met ask step tg s' t:=by
  intro s' t m
  induction m with
  |here m=>exact fun _ q=>.inl ⟨_,q,m⟩
  |@on a b t e mm ih=>
   intro el q
   obtain⟨a1,a2⟩:=a
   simp only at el q
   subst el
   obtain⟨i,hi,rfl⟩:=List.mem_iff_getElem.mp q
   by_cases hl:i+1<g.length
   ·rw[h.nx i hl] at e
    cases e
    exact ih rfl (List.getElem_mem hl)
   ·have ei:g.length-1=i:=by lia
    have hx:g.getLast?=some g[i]:=by rw[List.getLast?_eq_getElem?,ei,List.getElem?_eq_getElem hi]
    by_cases h0:g[i].1=0
    ·rw[B1 h0] at e;cases e
    cases ha:ask g[i].1 with
    |true=>exact .inr ⟨_,_,hx,h0,ha,e,mm⟩
    |false=>
     rw[k6 h0 ha] at e
     rcases h.last _ hx with z |z |z |⟨y,hy,z⟩
     ·exact absurd z h0
     ·rw[ha] at z;cases z
     ·rw[z] at e;cases e
     ·rw[z] at e;cases e;exact ih rfl hy
 refine key _ _ m rfl ?_
 exact List.mem_iff_getElem?.mpr ⟨0,h.head⟩
end
structure LI(ask:Int->Bool)(step:Int->List Int->Int->Option (Int×List Int)×Option Int)(tg:Int×List Int->List β)(s0:jJ×List Int)(ms:List β)(o:Option jJ)(l:List Int):Prop where
 a:∀t,Met ask step tg s0 t->t∈ms\/∃s,o=some s/\Met ask step tg (s,l) t
 b:∀t∈ms,Met ask step tg s0 t
 c:∀s t,o=some s->Met ask step tg (s,l) t->Met ask step tg s0 t
theorem LI.fin{l:List Int}(h:LI ask step tg s0 ms none l)(t:β):t∈ms↔Met ask step tg s0 t:=⟨h.b t,fun z=>(h.a t z).elim (fun z=>z) fun ⟨_,e,_⟩=>by cases e⟩
section
variable{s x y:jJ}{g:List jJ}{l r:List Int}{f:Int}
theorem LI.on(h:LI ask step tg s0 ms (some s) l)(q:Seg ask step s g)(hm:∀t,t∈EF↔t∈ms\/∃x∈g,t∈tg x)(hx:g.getLast?=some x)(h0:x.1≠0)(ha:ask x.1=true)(hl:l=f::r)(hy:(step x.1 x.2 f).1=some y):LI ask step tg s0 EF (some y) r:=by
 subst hl
 have e:rX ask step (x,f::r)=some (y,r):=by rw[EE h0 ha,hy];rfl
 refine⟨fun t m=>?_,fun t m=>?_,fun s' t e' m=>?_⟩
 ·rw[hm]
  rcases h.a t m with z |⟨_,z,m⟩
  ·exact .inl (.inl z)
  ·cases z
   rcases q.all m with z |⟨x',s',Qr,_,_,e',m'⟩
   ·exact .inl (.inr z)
   ·rw[hx] at Qr
    cases Qr
    rw[e] at e'
    cases e'
    exact .inr ⟨y,rfl,m'⟩
 ·rcases(hm t).mp m with z |⟨x,hx,ht⟩
  ·exact h.b t z
  ·exact h.c _ t rfl (q.met hx ht)
 ·cases e'
  obtain⟨hi,e1⟩:=Seg.EH hx
  exact h.c _ t rfl (q.up _ hi t (by rw[e1];exact .on e m))
end
structure TI(ask:Int->Bool)(step:Int->List Int->Int->Option (Int×List Int)×Option Int)(s:jJ)(g:List jJ)(o:Option jJ):Prop where
 nil:g=[]->o=some s
 head:g≠[]->g[0]?=some s
 mid:∀i (h:i+1<g.length),g[i].1≠0/\ask g[i].1=false/\(step g[i].1 g[i].2 0).1=some g[i+1]
 last:∀x,g.getLast?=some x->x.1≠0/\ask x.1=false/\(step x.1 x.2 0).1=o
section
variable{s x:jJ}{g:List jJ}{o:Option jJ}
theorem TI.EI(h:TI ask step s g (some x)):(g++[x])[0]?=some s/\∀i (hi:i+1<(g++[x]).length),(g++[x])[i].1≠0/\ask (g++[x])[i].1=false/\(step (g++[x])[i].1 (g++[x])[i].2 0).1=some (g++[x])[i+1]:=by
 refine⟨?_,fun i hi=>?_⟩
 ·cases g with
  |nil=>exact h.nil rfl
  |cons a r=>exact h.head (by simp)
 ·simp only[List.length_append,List.length_singleton] at hi
  have l1:i<g.length:=by lia
  rw[List.getElem_append_left l1]
  by_cases hl:i+1<g.length
  ·rw[List.getElem_append_left hl]
   exact h.mid i hl
  ·have ei:g.length-1=i:=by lia
   have hx:g.getLast?=some g[i]:=by rw[List.getLast?_eq_getElem?,ei,List.getElem?_eq_getElem l1]
   obtain⟨a,b,c⟩:=h.last _ hx
   refine⟨a,b,?_⟩
   rw[c,List.getElem_append_right (by lia)]
   simp
theorem TI.push(h:TI ask step s g (some x))(h0:x.1≠0)(ha:ask x.1=false):TI ask step s (g++[x]) (step x.1 x.2 0).1:=
 ⟨fun e=>(by simp at e),fun _=>h.EI.1,h.EI.2,fun y hy=>by simp only[List.getLast?_append,List.getLast?_singleton,Option.some_or,Option.some.injEq] at hy;subst hy;exact⟨h0,ha,rfl⟩⟩
theorem TI.stop(h:TI ask step s g (some x))(hx:x.1=0\/ask x.1=true):Seg ask step s (g++[x]):=
 ⟨h.EI.1,h.EI.2,fun y hy=>by
  simp only[List.getLast?_append,List.getLast?_singleton,Option.some_or,Option.some.injEq] at hy
  subst hy
  rcases hx with z |z
  ·exact .inl z
  ·exact .inr (.inl z)⟩
theorem TI.fin(h:TI ask step s g o)(ho:o=Option.none\/∃x∈g,o=some x):Seg ask step s g:=by
 have ne:g≠[]:=fun e=>by
  have:=h.nil e
  subst e
  rcases ho with rfl |⟨x,hx,_⟩
  ·cases this
  ·cases hx
 refine⟨h.head ne,h.mid,fun y hy=>.inr (.inr ?_)⟩
 obtain⟨_,_,c⟩:=h.last y hy
 rcases ho with rfl |⟨x,hx,rfl⟩
 ·exact .inl c
 ·exact .inr ⟨x,hx,c⟩
end
end
def B2:List Int->List (List Int)
 |[]=>[[]]
 |s::r=>(List.range s.toNat).flatMap fun (v:Nat)=>(B2 r).map fun t=>((v:Int)::t)
def j0:List Int->List Int->Prop
 |[],[]=>True
 |s::r,v::t=>(0<=v/\v<s)/\j0 r t
 |[],_::_=>False
 |_::_,[]=>False
theorem j0.mem:∀ {ss vs:List Int},j0 ss vs->vs∈B2 ss
 |[],[],_=>by simp[B2]
 |s::r,v::t,h=>by
  rw[j0] at h
  simp only[B2,List.mem_flatMap,List.mem_range,List.mem_map]
  exact⟨v.toNat,by lia,t,h.2.mem,by rw[Int.toNat_of_nonneg h.1.1]⟩
 |[],v::t,h=>by rw[j0] at h;exact h.elim
 |s::r,[],h=>by rw[j0] at h;exact h.elim
theorem j0.len:∀ {ss vs:List Int},j0 ss vs->vs.length=ss.length
 |[],[],_=>rfl
 |s::r,v::t,h=>by
  rw[j0] at h
  simp[h.2.len]
 |[],v::t,h=>by rw[j0] at h;exact h.elim
 |s::r,[],h=>by rw[j0] at h;exact h.elim
theorem j0.set:∀ {ss vs:List Int} (i:Nat) (v:Int),j0 ss vs->(∀s,ss[i]?=some s->0<=v/\v<s)->j0 ss (vs.set i v)
 |[],[],i,v,h,_=>h
 |s::r,u::t,0,v,h,q=>by
  rw[j0] at h
  rw[List.set_cons_zero,j0]
  exact⟨q s rfl,h.2⟩
 |s::r,u::t,i+1,v,h,q=>by
  rw[j0] at h
  rw[List.set_cons_succ,j0]
  exact⟨h.1,h.2.set i v fun z hz=>q z (by simpa using hz)⟩
 |[],u::t,i,v,h,q=>by rw[j0] at h;exact h.elim
 |s::r,[],i,v,h,q=>by rw[j0] at h;exact h.elim
def univ (rows ss:List Int):List jJ:=(0::rows).flatMap fun r=>(B2 ss).map fun v=>(r,v)
theorem B3{rows ss:List Int}{s:jJ}(h:s.1=0\/s.1∈rows)(q:j0 ss s.2):s∈univ rows ss:=by
 simp only[univ,List.mem_flatMap,List.mem_map,List.mem_cons]
 exact⟨s.1,h,s.2,q.mem,rfl⟩
end PG
namespace L2
open PySem
def FH (K:PySem.W.Frag) (x:Str) (st:Stmt) (f:Addr):Prop:=PySem.W.nsIn K mainGlobals x=some (some (.ref f))/\∃fd,Dj K x x st f fd
theorem FH.of{K:PySem.W.Frag}{x:Str}{st:Stmt}{f:Addr}{oc:Value}{od an:Option Addr}{Di:Array (Option Value)}{kV doc pm eE ct:Value}(a:PySem.W.nsIn K mainGlobals x=some (some (.ref f)))(l:K.lookup f=some ⟨oc,od,.func (PySem.W.fnOf x x (iP st) (gu st) (aK st) .none kV doc pm an eE ct),Di⟩)
 (c:PySem.W.codeIn K eE x=true) (k:PySem.W.keepIn K (.ref f)=true):FH K x st f:=⟨a,_,AX l c k⟩
theorem Hu{α:Type}{P:List α->Prop}(h:∀a,P [a])(us:List α)(e:us.length=1):P us:=match us,e with |[a],_=>h a
theorem yi{α:Type}{P:List α->Prop}(h:∀a b,P [a,b])(us:List α)(e:us.length=2):P us:=match us,e with |[a,b],_=>h a b
theorem FY{α:Type}{P:List α->Prop}(h:∀a b c,P [a,b,c])(us:List α)(e:us.length=3):P us:=match us,e with |[a,b,c],_=>h a b c
theorem KL{α:Type}{P:List α->Prop}(h:∀a b c d,P [a,b,c,d])(us:List α)(e:us.length=4):P us:=match us,e with |[a,b,c,d],_=>h a b c d
theorem Qs{α:Type}{P:List α->Prop}(h:∀a b c d f,P [a,b,c,d,f])(us:List α)(e:us.length=5):P us:=match us,e with |[a,b,c,d,f],_=>h a b c d f
theorem kx{K:PySem.W.Frag}{mg:Str->Option Value}{h:Heap}{x:Str}{st:Stmt}{f:Addr}{ps:List Str}(X:K.In h)(G:h.Ns mainGlobals mg)(q:FH K x st f)
 (b:∀(kV doc pm:Value) (an:Option Addr) (eE ct:Value) (us:List Value),us.length=ps.length->bindArgs (PySem.W.fnOf x x (iP st) (gu st) (aK st) .none kV doc pm an eE ct) ⟨us,[]⟩=pure (ps.zip us)):∃fd,b8 K mg x st ps f fd:=
 let ⟨a,fd,F⟩:=q
 ⟨fd,F,F.binds b,PySem.W.mg_of X G a⟩
theorem B4{CX:t9}{P:Program}{w:World}{K:PySem.W.Frag}{mg:Str->Option Value}{base:Heap}{N:List Str}{qual:Str}{scope:Scope}{f:Addr}{cd:Value}{A:Around}{outer:List Env}{s:Shared}{H:Hp}{E:XK}:(qS CX P w K mg base N qual scope f cd A outer s H E).prog=P:=rfl
theorem B5{CX:t9}{P:Program}{w:World}{K:PySem.W.Frag}{mg:Str->Option Value}{base:Heap}{N:List Str}{qual:Str}{scope:Scope}{f:Addr}{cd:Value}{A:Around}{outer:List Env}{s:Shared}{H:Hp}{E:XK}:(qS CX P w K mg base N qual scope f cd A outer s H E).w=w:=rfl
theorem pH{tt:TT}{a b:TS}{D:Ends}{σ:St}{H:Hp}(h:∀U:St->Hp->Prop,(∀σ' H',U σ' H'↔a D σ' H')->tt σ H fun c H1=>if c=true then U σ H1 else b D σ H1):Dy tt a b D σ H:=h (a D) fun _ _=>Iff.rfl
section
variable{κ:Type}[DecidableEq κ]{J:KH κ}{P:Program}{w:World}{K:PySem.W.Frag}{H H':Hp}{a b p C dx:Addr}{aJ:List (κ×V)}{φ:Heap->Prop}{fs:List (Str×V)}{xs:List V}
theorem DS.Oc(d:DS J P w K H a aJ):∃φ,H a=some (.ext φ):=let ⟨xs,h,_⟩:=d.at_;⟨_,h⟩
theorem DS.ins(d:DS J P w K H a aJ)(hp:H p=some (.ins C dx fs))(u:bh p H H'):DS J P w K H' a aJ:=by
 obtain⟨φ,e⟩:=d.Oc
 exact d.Ob (fun o h=>u _ _ (bS e hp (by intro z;cases z)) h) fun b ys q=>q.ins hp u
theorem bR.Hv(h:bR K H a xs)(hb:H b=some (.ext φ))(u:bh b H H'):bR K H' a xs:=by
 rcases h with (q |⟨o',q⟩) |q
 ·exact .inl (.inl (u _ _ (bS q hb (by intro z;cases z)) q))
 ·exact .inl (.inr ⟨o',u _ _ (bS q hb (by intro z;cases z)) q⟩)
 ·exact .inr q
theorem fY.ext{row:Int}{vals:List Int}(h:fY K H a row vals)(hb:H b=some (.ext φ))(u:bh b H H'):fY K H' a row vals:=let ⟨va,h1,h2⟩:=h;⟨va,h1.Hv hb u,h2.Hv hb u⟩
theorem qo.ext{e:Option PG.fJ}{v:V}(h:qo K H e v)(hb:H b=some (.ext φ))(u:bh b H H'):qo K H' e v:=by
 cases e with
 |none=>exact h
 |some x=>obtain⟨a,e,q⟩:=h;exact⟨a,e,q.Hv hb u⟩
theorem Al.ext{CC CW wk ch fl:Addr}{pr:PG.Prog}{dP:List Int}{n:Nat}{row:Int}{vals:List Int}{e:Option PG.fJ}(h:Al K CC CW H wk ch fl pr dP n row vals e)(hb:H b=some (.ext φ))(u:bh b H H')(c:uc K CC H' ch pr)(f:eD K H' fl (dP.map V.int)):Al K CC CW H' wk ch fl pr dP n row vals e:=by
 obtain⟨dx,sa,ev,h1,h2,h3⟩:=h.at_
 exact⟨⟨dx,sa,ev,u _ _ (bS h1 hb (by intro z;cases z)) h1,h2.ext hb u,h3.ext hb u⟩,c,f,h.KI⟩
end
def ky (pr:PG.Prog):List Int:=pr.aA.map (·.size)
def KN (pr:PG.Prog):List Int:=(PG.aD pr.body).map (·.row)
structure qX(pr:PG.Prog)(s:PG.jJ):Prop where
 ok:qW pr s.1 s.2
 inv:PG.j0 (ky pr) s.2
theorem qX.mem{pr:PG.Prog}{s:PG.jJ}(h:qX pr s):s∈PG.univ (KN pr) (ky pr):=by
 refine PG.B3 ?_ h.inv
 rcases h.ok.row with e |⟨i,hi,e⟩
 ·exact .inl e
 ·exact .inr (List.mem_map.mpr ⟨_,List.getElem_mem hi,e⟩)
theorem j0.first:∀ {bs:List PG.cD},(∀b∈bs,2<=b.size/\b.size<=10/\0<=b.first/\b.first<b.size)->PG.j0 (bs.map (·.size)) (bs.map (·.first))
 |[],_=>trivial
 |b::r,h=>by
  simp only[List.map_cons,PG.j0]
  have:=h b (List.mem_cons_self ..)
  exact⟨⟨by lia,by lia⟩,j0.first fun x hx=>h x (List.mem_cons_of_mem _ hx)⟩
theorem qX.first{pr:PG.Prog}(d:tj pr):qX pr (PG.bz pr.body 0,pr.aA.map (·.first)):=⟨d.first,j0.first d.size⟩
theorem j0.tf{pr:PG.Prog}(d:tj pr){vals:List Int}(h:PG.j0 (ky pr) vals){b:W}(hb:b∈pr.aA.map (·.name))(z:Int):PG.j0 (ky pr) (tf pr.aA vals b (z%cm pr.aA b)):=by
 refine h.set _ _ fun s hs=>?_
 obtain⟨hx,_⟩:=mK hb
 have e:cm pr.aA b=s:=by
  unfold cm
  rw[ky,List.getElem?_map,List.getElem?_eq_getElem hx] at hs
  rw[List.getElem?_eq_getElem hx]
  exact Option.some.inj hs
 have:=uW d hb
 rw[e] at this ⊢
 exact⟨Int.emod_nonneg z (by lia),Int.emod_lt_of_pos z (by lia)⟩
theorem j0.step{pr:PG.Prog}(d:tj pr){st:PG.bM}(ok:PG.Eg (·∈pr.aA.map (·.name)) (fun e=>PG.xY pr.aA e/\PG.c8 e<=2) (·∈PG.Kf) st){ws vals:List Int}{f:Int}(h:PG.j0 (ky pr) vals){x:PG.jJ}(e:(pY pr.aA st ws vals f).1=some x):PG.j0 (ky pr) x.2:=by
 have cs:ko pr.aA st ws vals=some x->PG.j0 (ky pr) x.2:=by
  intro e
  unfold ko at e
  split at e
  ·cases e
  ·split at e
   ·cases e;exact h
   ·split at e
    ·cases e
    ·cases e;exact h
 cases st<;>rw[PG.Eg] at ok
 ·cases e;exact j0.tf d h ok _
 ·cases e;exact j0.tf d h ok.1 _
 ·cases e;exact h
 ·exact cs e
 ·cases e;exact h
 ·exact cs e
 ·exact cs e
theorem B6{pr:PG.Prog}(ok:sZ pr){i:Nat}(hi:i<(PG.aD pr.body).length)(hf:i<(PG.aL pr.body 0).length)(vals:List Int)(f:Int):jT pr (PG.aD pr.body)[i].row vals f=pY pr.aA (PG.aD pr.body)[i] (PG.aL pr.body 0)[i].2.2 vals f:=by
 unfold jT
 rw[EB ok.pw i hi,EC ok.pw i hi hf]
theorem qX.next{pr:PG.Prog}(d:tj pr){s x:PG.jJ}(h:qX pr s)(h0:s.1≠0){f:Int}(e:(jT pr s.1 s.2 f).1=some x):qX pr x:=by
 obtain⟨row,vals⟩:=s
 obtain⟨i,hi,rfl⟩:=h.ok.row.resolve_left h0
 obtain⟨hf,_,_⟩:=mJ pr.body i hi
 rw[B6 d.ok hi hf] at e
 refine⟨?_,j0.step d (PG.kY pr.body _ d.own (List.getElem_mem hi)) h.inv e⟩
 rcases hs:pY pr.aA (PG.aD pr.body)[i] (PG.aL pr.body 0)[i].2.2 vals f with ⟨o,sd⟩
 rw[hs] at e
 exact qW.step d hi hf h.ok.len h.ok.small (by rw[hs];exact congrArg (·,sd) e)
theorem qX.nx{pr:PG.Prog}(d:tj pr){s s':PG.jJ×List Int}(h:qX pr s.1)(e:PG.rX (zH pr.body) (jT pr) s=some s'):qX pr s'.1:=by
 unfold PG.rX at e
 split at e
 ·cases e
 ·rename_i h0
  split at e
  ·cases e
  ·obtain⟨y,hy,rfl⟩:=Option.map_eq_some_iff.mp e
   exact h.next d h0 hy
structure qp(K:PySem.W.Frag)(H:Hp)(md:Addr)(pr:PG.Prog):Prop where
 at_:∃(B d8 wy fa:Addr) (us:List V) (aJ:List (Key×V)),eD K H md [.ref B,.ref d8,.ref wy,.ref fa]/\Rep K H (.lst (pr.aA.map fK)) (.ref B)/\H d8=some (.dK (fN (PG.aD pr.body) us))/\us.length=(PG.aD pr.body).length/\aC K H ((PG.aD pr.body).map cT) us/\
  H wy=some (.dK aJ)/\(∀i (hi:i<(PG.aL pr.body 0).length),∃y,cN aJ (.inl (PG.aL pr.body 0)[i].1)=some (.ref y)/\bR K H y ((PG.aL pr.body 0)[i].2.2.map V.int))/\fY K H fa (PG.bz pr.body 0) (pr.aA.map (·.first))
theorem qp.mono{K:PySem.W.Frag}{H H':Hp}{md:Addr}{pr:PG.Prog}(m:qp K H md pr)(s:ao H H'):qp K H' md pr:=by
 obtain⟨B,d8,wy,fa,us,aJ,h1,h2,h3,h4,h5,h6,h7,h8⟩:=m.at_
 exact⟨⟨B,d8,wy,fa,us,aJ,s.seq h1,h2.mono s,s _ _ h3,h4,h5.mono s,s _ _ h6,fun i hi=>let ⟨y,e,k⟩:=h7 i hi;⟨y,e,s.bL k⟩,h8.mono s⟩⟩
theorem qp.row{K:PySem.W.Frag}{H:Hp}{md:Addr}{pr:PG.Prog}(m:qp K H md pr)(ok:sZ pr){i:Nat}(hi:i<(PG.aD pr.body).length)(hf:i<(PG.aL pr.body 0).length) :
 ∃(B d8 wy fa ta y:Addr) (us ys:List V) (aJ:List (Key×V)),eD K H md [.ref B,.ref d8,.ref wy,.ref fa]/\Rep K H (.lst (pr.aA.map fK)) (.ref B)/\H d8=some (.dK (fN (PG.aD pr.body) us))/\cN (fN (PG.aD pr.body) us) (.inl (PG.aD pr.body)[i].row)=some (.ref ta)/\Rep K H (cT (PG.aD pr.body)[i]) (.ref ta)/\bR K H ta (.str (i6 (PG.aD pr.body)[i].wd)::ys)/\
  H wy=some (.dK aJ)/\cN aJ (.inl (PG.aD pr.body)[i].row)=some (.ref y)/\bR K H y ((PG.aL pr.body 0)[i].2.2.map V.int):=by
 obtain⟨B,d8,wy,fa,us,aJ,h1,h2,h3,h4,h5,h6,h7,h8⟩:=m.at_
 obtain⟨v,hv,rv⟩:=h5.get (i:=i) (d:=cT (PG.aD pr.body)[i]) (by rw[List.getElem?_map,List.getElem?_eq_getElem hi];rfl)
 have g:=km _ _ h4 ok.pw i hi v hv
 obtain⟨ta,ys,rfl,SO⟩:=fD _ rv
 obtain⟨y,e,k⟩:=h7 i hf
 obtain⟨_,e1,_⟩:=mJ pr.body i hi
 rw[e1] at e
 exact⟨B,d8,wy,fa,ta,y,us,_,aJ,h1,h2,h3,g,rv,SO,h6,e,k⟩
section
variable(P:Program)(w:World)(K:PySem.W.Frag)(CC:Addr)
def B7 (H:Hp) (l:Addr) (us:List V) (ts:List PG.Tg):Prop:=H l=some (.lst us)/\aC K H (ts.map Ki) us
def sf (H:Hp) (g:List PG.jJ) (us:List V):Prop:=Paired (fun (s:PG.jJ) v=>∃a,v=.ref a/\fY K H a s.1 s.2) g us
end
theorem sf.at{K:PySem.W.Frag}{H:Hp}{g:List PG.jJ}{us:List V}(h:sf K H g us):us.length=g.length/\∀(i:Nat) (s:PG.jJ),g[i]?=some s->∃a,us[i]?=some (V.ref a)/\fY K H a s.1 s.2:=by
 unfold sf at h
 induction h with
 |nil=>exact⟨rfl,fun i s h=>by simp at h⟩
 |@cons x y l1 l2 z t ih=>
  obtain⟨a,e,q⟩:=z
  obtain⟨l,g⟩:=ih
  refine⟨by simp[l],fun i s h=>?_⟩
  cases i with
  |zero=>simp at h;subst h;exact⟨a,by simp[e],q⟩
  |succ i=>simp at h;obtain⟨b,hb,k⟩:=g i s h;exact⟨b,by simp[hb],k⟩
theorem sf.mono{K:PySem.W.Frag}{H H':Hp}{g:List PG.jJ}{us:List V}(h:sf K H g us)(s:ao H H'):sf K H' g us:=Paired.As h fun _ _ ⟨a,e,q⟩=>⟨a,e,q.mono s⟩
theorem B7.mono{K:PySem.W.Frag}{H H':Hp}{l:Addr}{us:List V}{ts:List PG.Tg}(h:B7 K H l us ts)(s:ao H H'):B7 K H' l us ts:=⟨s _ _ h.1,h.2.mono s⟩
end L2
namespace L2
open PySem PySem.Spec PyProof.Rows
section
variable{X:Cx}
theorem zI(hc:X.calm=true):gW X (.builtin "any") (fun xs H Q=>∃(p:Addr) (bs:List Bool),xs=[.ref p]/\eD X.K H p (bs.map V.bl)/\Q (.bl (bs.any id)) H):=by
 intro pins s σ H xs us Q I r h
 obtain⟨p,bs,rfl,hl,q⟩:=h
 obtain⟨u,rfl,ru⟩:=vals1 r
 cases (show u=Value.ref p from ru)
 obtain⟨bc,rv,pl,_⟩:=I.list hl
 have lR:p<s.heap.objs.size:=let ⟨_,_,e,_⟩:=pl;Heap.lt_size e
 have ln:bc.toArray.size=bs.length:=by rw[List.size_toArray,<- rv.length,List.length_map]
 refine call_any_walk (wpAny_pyIter_list pl.isList ?_)
 refine⟨s.heap.objs.size,_,_,_,_,_,fun i=>bs.getD i false,rfl,Walks.list (show X.A.in1.handled=none from I.ok.hd hc) _ p (Nat.ne_of_lt lR) bc.toArray,⟨⟨_,Heap.get?_push_size _ rfl,rfl,rfl⟩,pl.isList.push _⟩,fun i v s' Q' E' hv hq=>?_,fun h' tk hk=>?_⟩
 ·have qJ:bc[i]?=some v:=by simpa using hv
  have li:i<bs.length:=by
   have:=(List.getElem?_eq_some_iff.mp qJ).1
   rw[List.size_toArray] at ln
   lia
  obtain⟨u,hu,ru⟩:=rv.get (i:=i) (x:=.bl bs[i]) (by rw[List.getElem?_map,List.getElem?_eq_getElem li];rfl)
  rw[qJ] at hu
  cases hu
  cases (show v=Value.bool bs[i] from ru)
  have hq:Q' (bs.getD i false) s':=hq
  rw[List.getD_eq_getElem?_getD,List.getElem?_eq_getElem li] at hq
  exact wpAny_pure hq
 ·refine⟨.bl (bs.any id),H,I.kept (h':=h') (t':=tk) (fun b o e=>hk b o ?_ (Heap.get?_push_of_some _ e)),?_,q⟩
  ·simpa using Nat.ne_of_lt (Heap.lt_size e)
  ·show Value.bool ((List.range bc.toArray.size).any fun i=>bs.getD i false)=Value.bool (bs.any id)
   rw[ln]
   congr 1
   rw[Bool.eq_iff_iff,List.any_eq_true,List.any_eq_true]
   constructor
   ·rintro ⟨i,hi,h⟩
    have hi:=List.mem_range.mp hi
    rw[List.getD_eq_getElem?_getD,List.getElem?_eq_getElem hi] at h
    exact⟨_,List.getElem_mem hi,h⟩
   ·rintro ⟨x,hx,h⟩
    obtain⟨i,hi,rfl⟩:=List.getElem_of_mem hx
    exact⟨i,List.mem_range.mpr hi,by rw[List.getD_eq_getElem?_getD,List.getElem?_eq_getElem hi];exact h⟩
theorem pI{bc:List Value}{ns:List Int}(rv:Vals (ns.map V.int) bc){i:Nat}{v:Value}(hv:bc[i]?=some v):∃t,v=.int (ns.getD i 0) t:=by
 have li:i<ns.length:=by
  have:=(List.getElem?_eq_some_iff.mp hv).1
  have l1:=rv.length
  rw[List.length_map] at l1
  lia
 obtain⟨u,hu,t,rfl⟩:=rv.get (i:=i) (x:=.int ns[i]) (by rw[List.getElem?_map,List.getElem?_eq_getElem li];rfl)
 rw[hv] at hu
 cases hu
 exact⟨t,by rw[List.getD_eq_getElem?_getD,List.getElem?_eq_getElem li];rfl⟩
theorem si(hc:X.calm=true):gW X (.builtin "min") (fun xs H Q=>∃(p:Addr) (ns:List Int),xs=[.ref p]/\eD X.K H p (ns.map V.int)/\ns≠[]/\∀m,m∈ns->(∀x∈ns,m<=x)->Q (.int m) H):=by
 intro pins s σ H xs us Q I r h
 obtain⟨p,ns,rfl,hl,n0,q⟩:=h
 obtain⟨u,rfl,ru⟩:=vals1 r
 cases (show u=Value.ref p from ru)
 obtain⟨bc,rv,pl,_⟩:=I.list hl
 have lR:p<s.heap.objs.size:=let ⟨_,_,e,_⟩:=pl;Heap.lt_size e
 have ln:bc.toArray.size=ns.length:=by rw[List.size_toArray,<- rv.length,List.length_map]
 have np:=List.length_pos_iff.mpr n0
 refine call_min_walk (wpAny_pyIter_list pl.isList ?_)
 refine⟨s.heap.objs.size,_,_,_,_,_,_,rfl,Walks.list (show X.A.in1.handled=none from I.ok.hd hc) _ p (Nat.ne_of_lt lR) bc.toArray,⟨⟨_,Heap.get?_push_size _ rfl,rfl,rfl⟩,pl.isList.push _⟩,?_,by lia,CmpOf.ints_lt (fun i=>ns.getD i 0) fun i v hv=>pI rv (by simpa using hv),fun v h' tk hv hk=>?_⟩
 ·intro b hb
  simp only[List.mem_cons,List.not_mem_nil,or_false] at hb
  rcases hb with rfl |rfl
  ·exact Heap.lt_size (Heap.get?_push_size _ rfl)
  ·exact Nat.lt_of_lt_of_le lR (by rw[Heap.size_push];lia)
 ·obtain⟨b1,b2⟩:=argBest_lt (fun i=>ns.getD i 0) (bc.toArray.size-1)
  have hv:bc[argBest (fun i j=>decide (ns.getD i 0<ns.getD j 0)) (bc.toArray.size-1)]?=some v:=by simpa using hv
  obtain⟨t,rfl⟩:=pI rv hv
  refine⟨.int _,H,I.kept (h':=h') (t':=tk) (fun b o e=>hk b o ?_ (Heap.get?_push_of_some _ e)),(show ∃u,Value.int _ t=Value.int _ u from ⟨t,rfl⟩),q _ ?_ fun x hx=>?_⟩
  ·simpa using Nat.ne_of_lt (Heap.lt_size e)
  ·have li:argBest (fun i j=>decide (ns.getD i 0<ns.getD j 0)) (bc.toArray.size-1)<ns.length:=by lia
   rw[List.getD_eq_getElem?_getD,List.getElem?_eq_getElem li]
   exact List.getElem_mem li
  ·obtain⟨i,hi,rfl⟩:=List.getElem_of_mem hx
   have:=b2 i (by lia)
   rw[List.getD_eq_getElem?_getD (l:=ns) (i:=i),List.getElem?_eq_getElem hi] at this
   exact this
theorem sj(hc:X.calm=true):gW X (.builtin "max") (fun xs H Q=>∃(p:Addr) (ns:List Int),xs=[.ref p]/\eD X.K H p (ns.map V.int)/\ns≠[]/\∀m,m∈ns->(∀x∈ns,x<=m)->Q (.int m) H):=by
 intro pins s σ H xs us Q I r h
 obtain⟨p,ns,rfl,hl,n0,q⟩:=h
 obtain⟨u,rfl,ru⟩:=vals1 r
 cases (show u=Value.ref p from ru)
 obtain⟨bc,rv,pl,_⟩:=I.list hl
 have lR:p<s.heap.objs.size:=let ⟨_,_,e,_⟩:=pl;Heap.lt_size e
 have ln:bc.toArray.size=ns.length:=by rw[List.size_toArray,<- rv.length,List.length_map]
 have np:=List.length_pos_iff.mpr n0
 refine call_max_walk (wpAny_pyIter_list pl.isList ?_)
 refine⟨s.heap.objs.size,_,_,_,_,_,_,rfl,Walks.list (show X.A.in1.handled=none from I.ok.hd hc) _ p (Nat.ne_of_lt lR) bc.toArray,⟨⟨_,Heap.get?_push_size _ rfl,rfl,rfl⟩,pl.isList.push _⟩,?_,by lia,CmpOf.ints_gt (fun i=>ns.getD i 0) fun i v hv=>pI rv (by simpa using hv),fun v h' tk hv hk=>?_⟩
 ·intro b hb
  simp only[List.mem_cons,List.not_mem_nil,or_false] at hb
  rcases hb with rfl |rfl
  ·exact Heap.lt_size (Heap.get?_push_size _ rfl)
  ·exact Nat.lt_of_lt_of_le lR (by rw[Heap.size_push];lia)
 ·obtain⟨b1,b2⟩:=argBest_gt (fun i=>ns.getD i 0) (bc.toArray.size-1)
  have hv:bc[argBest (fun i j=>decide (ns.getD i 0>ns.getD j 0)) (bc.toArray.size-1)]?=some v:=by simpa using hv
  obtain⟨t,rfl⟩:=pI rv hv
  refine⟨.int _,H,I.kept (h':=h') (t':=tk) (fun b o e=>hk b o ?_ (Heap.get?_push_of_some _ e)),(show ∃u,Value.int _ t=Value.int _ u from ⟨t,rfl⟩),q _ ?_ fun x hx=>?_⟩
  ·simpa using Nat.ne_of_lt (Heap.lt_size e)
  ·have li:argBest (fun i j=>decide (ns.getD i 0>ns.getD j 0)) (bc.toArray.size-1)<ns.length:=by lia
   rw[List.getD_eq_getElem?_getD,List.getElem?_eq_getElem li]
   exact List.getElem_mem li
  ·obtain⟨i,hi,rfl⟩:=List.getElem_of_mem hx
   have:=b2 i (by lia)
   rw[List.getD_eq_getElem?_getD (l:=ns) (i:=i),List.getElem?_eq_getElem hi] at this
   exact this
def tm (r:R2) (ta tb tc td:TE):TE:=fun σ H Q=>ta σ H fun x H1=>tb σ H1 fun y H2=>r x y H2 fun z H3=>∃k,z=.bl k/\
 (if k=true then tc σ H3 fun y2 H4=>r y y2 H4 fun z2 H5=>∃k2,z2=.bl k2/\(if k2=true then td σ H5 fun y3 H6=>r y2 y3 H6 Q else Q (.bl false) H5) else Q (.bl false) H3)
theorem so{a b c d:Expr}{ta tb tc td:TE}{pos:Pos}{op:CmpOp}{r:R2}(ho:nj X (compareOp op) r)(ha:PE X a ta)(hb:PE X b tb)(hc:PE X c tc)(hd:PE X d td)
 (hm:lastMarks [op,op,op] [b,c,d]=false:=by with_unfolding_all rfl):PE X (.Compare a [op,op,op] [b,c,d] pos) (tm r ta tb tc td):=by
 intro pins s σ H Q I h
 refine Compare_chain (eF (ha pins s σ H _ I h) fun v s1 z1=>?_) hm
 obtain⟨x,H1,I1,r1,q1⟩:=z1
 refine chain_link (eF (hb pins s1 σ H1 _ I1 q1) fun u s2 z2=>?_)
 obtain⟨y,H2,I2,r2,q2⟩:=z2
 refine eF (ho pins s2 σ H2 x y v u _ I2 r1 r2 q2) fun f s3 z3=>?_
 obtain⟨z,H3,I3,r3,k,e,q3⟩:=z3
 subst e
 cases r3
 refine wpAny_truthy_bool ?_
 cases k with
 |false=>exact ite_ff ⟨.bl false,H3,I3,rfl,q3⟩
 |true=>
  refine ite_tt (chain_link (eF (hc pins s3 σ H3 _ I3 q3) fun u2 s4 z4=>?_))
  obtain⟨y2,H4,I4,r4,q4⟩:=z4
  refine eF (ho pins s4 σ H4 y y2 u u2 _ I4 r2 r4 q4) fun f2 s5 z5=>?_
  obtain⟨z',H5,I5,r5,k2,e2,q5⟩:=z5
  subst e2
  cases r5
  refine wpAny_truthy_bool ?_
  cases k2 with
  |false=>exact ite_ff ⟨.bl false,H5,I5,rfl,q5⟩
  |true=>exact ite_tt (chain_last (eF (hd pins s5 σ H5 _ I5 q5) fun u3 s6 ⟨y3,H6,I6,r6,q6⟩=>ho pins s6 σ H6 y2 y3 u2 u3 Q I6 r4 r6 q6))
end
end L2
namespace PG
open PM (W Tr)
abbrev Rg:=Int×Int
def tq (a b c d:Int):Int:=min (min a b) (min c d)
def tw (a b c d:Int):Int:=max (max a b) (max c d)
def EJ (o:W) (l r:Rg):Rg:=if o=[43] then (l.1+r.1,l.2+r.2) else if o=[45] then (l.1-r.2,l.2-r.1) else (tq (l.1*r.1) (l.1*r.2) (l.2*r.1) (l.2*r.2),tw (l.1*r.1) (l.1*r.2) (l.2*r.1) (l.2*r.2))
def dC (f:W->Rg):Tr->Rg
 |.num n=>(n,n)
 |.box b=>f b
 |.bin o l r=>EJ o (dC f l) (dC f r)
def qr (r:Rg) (size:Int):Rg:=if r.1/size=r.2/size then (r.1%size,r.2%size) else (0,size-1)
def kz (lt truth:Bool) (l r:Rg):Bool:=
 if lt then (if truth then decide (l.1<r.2) else decide (l.2 ≥ r.1)) else if truth then decide (max l.1 r.1<=min l.2 r.2) else !(decide (l.1=l.2)&&decide (l.2=r.1)&&decide (r.1=r.2))
def iy (lt truth left:Bool) (own bc:Rg):Rg:=
 if lt then (if truth then (if left then (own.1,min own.2 (bc.2-1)) else (max own.1 (bc.1+1),own.2)) else if left then (max own.1 bc.1,own.2) else (own.1,min own.2 bc.2))
 else if truth then (max own.1 bc.1,min own.2 bc.2)
 else if bc.1=bc.2 then (if own.1=bc.1 then own.1+1 else own.1,if own.2=bc.1 then own.2-1 else own.2) else own
theorem yj{a b c d m:Int}(h:m∈[a,b,c,d])(q:∀x∈[a,b,c,d],m<=x):m=tq a b c d:=by
 have h1:=q a (by simp)
 have h2:=q b (by simp)
 have h3:=q c (by simp)
 have h4:=q d (by simp)
 simp only[List.mem_cons,List.not_mem_nil,or_false] at h
 unfold tq
 rcases h with rfl |rfl |rfl |rfl<;>lia
theorem yk{a b c d m:Int}(h:m∈[a,b,c,d])(q:∀x∈[a,b,c,d],x<=m):m=tw a b c d:=by
 have h1:=q a (by simp)
 have h2:=q b (by simp)
 have h3:=q c (by simp)
 have h4:=q d (by simp)
 simp only[List.mem_cons,List.not_mem_nil,or_false] at h
 unfold tw
 rcases h with rfl |rfl |rfl |rfl<;>lia
end PG
namespace L2
open PySem
def cc (K:PySem.W.Frag) (H:Hp) (v:V) (r:PG.Rg):Prop:=∃a,v=.ref a/\bR K H a [.int r.1,.int r.2]
theorem cc.mono{K:PySem.W.Frag}{H H':Hp}{v:V}{r:PG.Rg}(h:cc K H v r)(s:ao H H'):cc K H' v r:=let ⟨a,e,q⟩:=h;⟨a,e,s.bL q⟩
theorem cc.new{K:PySem.W.Frag}{H H':Hp}{p:Addr}{r:PG.Rg}(e:upd H p (.tup [.int r.1,.int r.2])=H'):cc K H' (.ref p) r:=⟨p,rfl,.of (e▸aj)⟩
theorem jU{K:PySem.W.Frag}{H:Hp}{a:Addr}{x y:Int}{Q:VK}(h:bR K H a [.int x,.int y])(q:Q (.int x) H):uz K (.ref a) (.int 0) H Q:=aG h (v:=.int x) (aw (j:=0) rfl) q
theorem j5{K:PySem.W.Frag}{H:Hp}{a:Addr}{x y:Int}{Q:VK}(h:bR K H a [.int x,.int y])(q:Q (.int y) H):uz K (.ref a) (.int 1) H Q:=aG h (v:=.int y) (aw (j:=1) rfl) q
theorem max2(i j:Int):(if j>i then j else i)=max i j:=by split<;>lia
theorem min2(i j:Int):(if j<i then j else i)=min i j:=by split<;>lia
def B8 (truth:Bool) (own near Am:PG.Rg):PG.Rg:=if truth then (max near.1 Am.1,min near.2 Am.2) else PG.iy false false true own Am
def tF (lt truth:Bool) (own l r:PG.Rg):PG.Rg:=if lt then PG.iy true truth true own r else B8 truth own l r
def wC (lt truth:Bool) (own l r:PG.Rg):PG.Rg:=if lt then PG.iy true truth false own l else B8 truth own r l
section
variable(K:PySem.W.Frag)
def zJ:Sp:=fun vs H Q _=>∃size:Int,vs=[.int size]/\∀v H',ao H H'->cc K H' v (0,size-1)->Q v H'
def B9:Sp:=fun vs H Q _=>∃(v:V) (r:PG.Rg) (size:Int),vs=[v,.int size]/\cc K H v r/\0<size/\size<=1000/\∀v H',ao H H'->cc K H' v (PG.qr r size)->Q v H'
def KO:Sp:=fun vs H Q _=>∃(sg:W) (truth:Bool) (lv rv:V) (l r:PG.Rg),vs=[.str (S sg),.bl truth,lv,rv]/\cc K H lv l/\cc K H rv r/\Q (.bl (PG.kz (decide (sg=[60])) truth l r)) H
def Hw:Sp:=fun vs H Q _=>∃(truth:Bool) (ov nv fv:V) (own near Am:PG.Rg),vs=[.bl truth,ov,nv,fv]/\cc K H ov own/\cc K H nv near/\cc K H fv Am/\∀v H',ao H H'->cc K H' v (B8 truth own near Am)->Q v H'
def Hy:Sp:=fun vs H Q _=>∃(sg:W) (truth:Bool) (ov lv rv:V) (own l r:PG.Rg),vs=[.str (S sg),.bl truth,ov,lv,rv]/\cc K H ov own/\cc K H lv l/\cc K H rv r/\∀v H',ao H H'->cc K H' v (tF (decide (sg=[60])) truth own l r)->Q v H'
def Hz:Sp:=fun vs H Q _=>∃(sg:W) (truth:Bool) (ov lv rv:V) (own l r:PG.Rg),vs=[.str (S sg),.bl truth,ov,lv,rv]/\cc K H ov own/\cc K H lv l/\cc K H rv r/\∀v H',ao H H'->cc K H' v (wC (decide (sg=[60])) truth own l r)->Q v H'
end
end L2
namespace L2
open PySem
def KP (k:Nat) (r:PG.Rg):Prop:=r.1.natAbs<=k/\r.2.natAbs<=k
def yl (K:PySem.W.Frag) (H:Hp) (aJ:List (Key×V)) (f:W->PG.Rg):PM.Tr->Prop
 |.num n=>n.natAbs<=2 ^ 12
 |.box x=>(∃v,cN aJ (.inr (S x))=some v/\cc K H v (f x))/\KP (2 ^ 12) (f x)
 |.bin o l r=>(o=[43]\/o=[45]\/o=[42])/\yl K H aJ f l/\yl K H aJ f r
theorem yl.mono{K:PySem.W.Frag}{H H':Hp}{aJ:List (Key×V)}{f:W->PG.Rg}(s:ao H H'):∀ {t:PM.Tr},yl K H aJ f t->yl K H' aJ f t
 |.num n,h=>h
 |.box x,h=>let ⟨⟨v,e,r⟩,b⟩:=h;⟨⟨v,e,r.mono s⟩,b⟩
 |.bin o l r,h=>⟨h.1,yl.mono s h.2.1,yl.mono s h.2.2⟩
theorem EK(a b c d:Int):PG.tq a b c d=a\/PG.tq a b c d=b\/PG.tq a b c d=c\/PG.tq a b c d=d:=by unfold PG.tq;lia
theorem EL(a b c d:Int):PG.tw a b c d=a\/PG.tw a b c d=b\/PG.tw a b c d=c\/PG.tw a b c d=d:=by unfold PG.tw;lia
def FZ (f:W->PG.Rg):PM.Tr->Prop
 |.num n=>n.natAbs<=2 ^ 12
 |.box x=>KP (2 ^ 12) (f x)
 |.bin _ l r=>FZ f l/\FZ f r
theorem qt{f:W->PG.Rg}:∀ {t:PM.Tr},FZ f t->KP (2 ^ (14*2 ^ PG.c8 t)) (PG.dC f t)
 |.num n,h=>by
  rw[FZ] at h
  have:n.natAbs<=2 ^ (14*2 ^ PG.c8 (.num n)):=Nat.le_trans h (Nat.pow_le_pow_right (by decide) (by simp only[PG.c8];decide))
  exact⟨this,this⟩
 |.box x,h=>by
  rw[FZ] at h
  have k:2 ^ 12<=2 ^ (14*2 ^ PG.c8 (.box x)):=Nat.pow_le_pow_right (by decide) (by simp only[PG.c8];decide)
  exact⟨Nat.le_trans h.1 k,Nat.le_trans h.2 k⟩
 |.bin o l r,h=>by
  rw[FZ] at h
  have hl:=qt h.1
  have hr:=qt h.2
  have one:∀a b:Nat,1<=2 ^ max a b:=fun a b=>Nat.one_le_two_pow
  have kl:2 ^ (14*2 ^ PG.c8 l)<=2 ^ (14*2 ^ max (PG.c8 l) (PG.c8 r)):=Nat.pow_le_pow_right (by decide) (Nat.mul_le_mul_left _ (Nat.pow_le_pow_right (by decide) (Nat.le_max_left _ _)))
  have kr:2 ^ (14*2 ^ PG.c8 r)<=2 ^ (14*2 ^ max (PG.c8 l) (PG.c8 r)):=Nat.pow_le_pow_right (by decide) (Nat.mul_le_mul_left _ (Nat.pow_le_pow_right (by decide) (Nat.le_max_right _ _)))
  rw[PG.c8,show 14*2 ^ (max (PG.c8 l) (PG.c8 r)+1)=14*2 ^ max (PG.c8 l) (PG.c8 r)+14*2 ^ max (PG.c8 l) (PG.c8 r) by rw[Nat.pow_succ];lia]
  have Va:14<=14*2 ^ max (PG.c8 l) (PG.c8 r):=Nat.le_mul_of_pos_right _ (one _ _)
  have l1:=Nat.le_trans hl.1 kl
  have l2:=Nat.le_trans hl.2 kl
  have r1:=Nat.le_trans hr.1 kr
  have r2:=Nat.le_trans hr.2 kr
  clear kl kr hl hr
  generalize 14*2 ^ max (PG.c8 l) (PG.c8 r)=k at *
  have two:2<=2 ^ k:=Nat.le_trans (by decide:2<=2 ^ 1) (Nat.pow_le_pow_right (by decide) (by lia))
  have b2:2*2 ^ k<=2 ^ k*2 ^ k:=Nat.mul_le_mul_right _ two
  rw[<- Nat.pow_add] at b2
  rw[PG.dC,PG.EJ]
  have Vb:=gx l1 r1
  have Vc:=gx l1 r2
  have Vd:=gx l2 r1
  have Ve:=gx l2 r2
  split
  ·exact⟨by show (_+_:Int).natAbs<=_;lia,by show (_+_:Int).natAbs<=_;lia⟩
  ·split
   ·exact⟨by show (_-_:Int).natAbs<=_;lia,by show (_-_:Int).natAbs<=_;lia⟩
   ·refine⟨?_,?_⟩
    ·show (PG.tq _ _ _ _).natAbs<=_
     rcases EK ((PG.dC f l).1*(PG.dC f r).1) ((PG.dC f l).1*(PG.dC f r).2) ((PG.dC f l).2*(PG.dC f r).1) ((PG.dC f l).2*(PG.dC f r).2) with e |e |e |e<;>rw[e]<;>assumption
    ·show (PG.tw _ _ _ _).natAbs<=_
     rcases EL ((PG.dC f l).1*(PG.dC f r).1) ((PG.dC f l).1*(PG.dC f r).2) ((PG.dC f l).2*(PG.dC f r).1) ((PG.dC f l).2*(PG.dC f r).2) with e |e |e |e<;>rw[e]<;>assumption
theorem yl.u{K:PySem.W.Frag}{H:Hp}{aJ:List (Key×V)}{f:W->PG.Rg}:∀ {t:PM.Tr},yl K H aJ f t->FZ f t
 |.num n,h=>h
 |.box x,h=>h.2
 |.bin o l r,h=>⟨yl.u h.2.1,yl.u h.2.2⟩
theorem F0{K:PySem.W.Frag}{H:Hp}{aJ:List (Key×V)}{f:W->PG.Rg}{t:PM.Tr}(h:yl K H aJ f t):KP (2 ^ (14*2 ^ PG.c8 t)) (PG.dC f t):=qt h.u
section
variable(K:PySem.W.Frag)
def EM (n:Nat):Sp:=fun vs H Q _=>∃(v:V) (d:Addr) (tr:PM.Tr) (aJ:List (Key×V)) (f:W->PG.Rg),vs=[v,.ref d]/\Rep K H (eZ tr) v/\H d=some (.dK aJ)/\yl K H aJ f tr/\PG.c8 tr<n/\PG.c8 tr<=6/\∀u H',ao H H'->cc K H' u (PG.dC f tr)->Q u H'
end
end L2
namespace L3
open PySem PyProof.Rows
section
variable{prog:Program}{w:World}{A:Around}{E:Value->Shared->Prop}{s:Shared}
theorem kA{j tp:Addr}{k:Nat}{bc:Array Value}{Q:Value->Shared->Prop}(hh:A.handled=none)(hj:s.heap.IsTupleIter j tp k)(ht:s.heap.IsTuple tp bc)(hv:bc[k]?=none)
 (hE:∀h' e,Heap.ExtBut j s.heap h'->(∃o,h'.get? e=some o/\o.cls=.type "StopIteration")->E (.ref e) {s with heap:=h' }):wpAny (model prog w) A (Builtin.SmallTypes.nextOf (.ref j)) Q E s:=by
 obtain⟨oj,gj,cj,dj⟩:=id hj
 obtain⟨ot,gt,_,nt,dt⟩:=ht
 unfold Builtin.SmallTypes.nextOf
 refine wpAny_bind (wpAny_callSpecial?_slot (name:=Str.ofString "__next__") hj.typeIs F.slot_tuple_iterator_next (wpAny_call_entry F.slot_tuple_iterator_next hj.typeIs F.entry_tuple_iterator_next ?_ (F.args_tuple_iterator_next_1 _)))
 show wpAny _ _ (field (.ref j) 0 >>= _) _ _ s
 refine wpAny_bind (wpAny_field gj dj (x:=.ref tp) rfl ?_)
 show wpAny _ _ (if (Value.ref tp==Value.none)=true then _ else _) _ _ s
 rw[if_neg (show ¬((Value.ref tp==Value.none)=true) from Bool.false_ne_true)]
 show wpAny _ _ (field (.ref j) 1 >>= _) _ _ s
 refine wpAny_bind (wpAny_field gj dj (x:=.int k 0) rfl ?_)
 show wpAny _ _ (seqItems? (.ref tp) >>= _) _ _ s
 refine wpAny_bind (wpAny_seqItems gt dt ?_)
 simp only[Int.toNat_natCast,hv]
 refine wpAny_bind (wpAny_rule (wpAny_bind (wpAny_setField gj dj (by simp) ?_)))
 show wpAny _ _ (newExc (.type "StopIteration") [] >>= _) _ _ _
 refine wpAny_bind ?_
 simp only[newExc,newTuple]
 refine wpAny_bind (wpAny_newObj_type ?_ (by size_fits))
 refine wpAny_bind (m:=firstArgMember _ _) (wpAny_of_eq (a:=Value.none) (by first |rfl |(simp only[firstArgMember];rfl)) ?_)
 refine wpAny_newObj_type ?_ (by size_fits)
 simp only[raiseNew]
 refine wpAny_bind (wpAny_handled ?_)
 first |rw[show A.in1.handled=none from hh] |rw[hh]
 refine wpAny_bind (wpAny_pure (wpAny_throw ?_))
 exact hE _ _ (((Heap.SameBut.update ..).extBut.push _).push _) ⟨_,Heap.get?_push_size _ rfl,rfl⟩
theorem Ca{h h':Heap}{j tp:Addr}{k:Nat}(hj:h.IsTupleIter j tp k)(up:∀o,h.get? j=some o->h'.get? j=some o):h'.IsTupleIter j tp k:=by
 obtain⟨q,gq,rest⟩:=hj
 exact⟨q,up _ gq,rest⟩
theorem KQ{h h':Heap}{tp:Addr}{ys:Array Value}(hj:h.IsTuple tp ys)(up:∀o,h.get? tp=some o->h'.get? tp=some o):h'.IsTuple tp ys:=by
 obtain⟨q,gq,rest⟩:=hj
 exact⟨q,up _ gq,rest⟩
theorem EN{z ti to j1 j2 l tp:Addr}{xs ys:Array Value}{i:Nat}{a b x y:Value}{Q:Value->Shared->Prop}(D:ZipApart z ti to j1 j2 l tp)(hz:lB s.heap z ti to .none (.bool false))(hO:IsPair s.heap to a b)(hI:IsPair s.heap ti (.ref j1) (.ref j2))
 (h1:s.heap.IsTupleIter j1 l i) (h2:s.heap.IsTupleIter j2 tp i) (hl:s.heap.IsTuple l xs) (ht:s.heap.IsTuple tp ys) (hx:xs[i]?=some x) (hy:ys[i]?=some y)
 (hQ:∀h',lB h' z ti to (rawInt s.heap.objs.size) (.bool false)->IsPair h' to x y->h'.IsTupleIter j1 l (i+1)->h'.IsTupleIter j2 tp (i+1)->IsPair h' s.heap.objs.size x y->h'.objs.size=s.heap.objs.size+1->
  (∀c o,c≠z->c≠to->c≠j1->c≠j2->s.heap.get? c=some o->h'.get? c=some o)->Q (.ref s.heap.objs.size) {s with heap:=h' }) :
 wpAny (model prog w) A (Builtin.«zip.__next__» ⟨[.ref z],[]⟩) (fun fin s'=>∃v,fin=.done (.ret v)/\Q v s') E s:=by
 show wpAny _ _ (field (.ref z) 2 >>= _) _ _ _
 refine wpAny_bind (wpAny_field hz rfl (x:=.bool false) rfl ?_)
 show wpAny _ _ (field (.ref z) 3 >>= _) _ _ _
 refine wpAny_bind (wpAny_field hz rfl (x:=.ref ti) rfl ?_)
 refine wpAny_bind (wpAny_seqItems hI rfl ?_)
 show wpAny _ _ (Builtin.SmallTypes.ownedTupleIsFree (.ref z) >>= _) _ _ _
 refine wpAny_bind ?_
 unfold Builtin.SmallTypes.ownedTupleIsFree
 refine wpAny_bind (wpAny_field hz rfl (x:=.none) rfl (wpAny_pure ?_))
 simp only[if_true]
 refine wpAny_bind (wpAny_rule ?_)
 refine wpAny_bind (wpAny_field hz rfl (x:=.ref to) rfl ?_)
 refine wpAny_bind (wpAny_setField_rec hz (by simp) fun h₁ z₁ cV=>?_)
 replace z₁:lB h₁ z ti to .ellipsis (.bool false):=z₁
 refine wpAny_bind ?_
 simp only[List.zipIdx_cons,List.zipIdx_nil,List.forIn_cons,List.forIn_nil]
 refine wpAny_bind (wpAny_bind (wpAny_onRaise ?_))
 show wpAny _ _ (Builtin.SmallTypes.nextOf (.ref j1) >>= _) _ _ _
 refine wpAny_bind (iw (Ca h1 fun o e=>cV.extBut _ _ D.i1z e) (KQ hl fun o e=>cV.extBut _ _ D.l1z e) hx fun h₂ k₂ cu=>wpAny_pure ?_)
 have o₂:IsPair h₂ to a b:=cu.extBut _ _ D.TOi1 (cV.extBut _ _ D.TOz hO)
 refine wpAny_bind (wpAny_seqItems o₂ rfl ?_)
 refine wpAny_bind (wpAny_updateSeq_pair o₂ fun h₃ o₃ cU=>?_)
 replace o₃:IsPair h₃ to x b:=o₃
 refine wpAny_bind (wpAny_letGo (wpAny_pure ?_))
 refine wpAny_bind (wpAny_bind (wpAny_onRaise ?_))
 show wpAny _ _ (Builtin.SmallTypes.nextOf (.ref j2) >>= _) _ _ _
 refine wpAny_bind (iw (Ca h2 fun o e=>cU.extBut _ _ D.TOi2.symm (cu.extBut _ _ D.i12.symm (cV.extBut _ _ D.i2z e))) (KQ ht fun o e=>cU.extBut _ _ D.l2TO (cu.extBut _ _ D.l2i1 (cV.extBut _ _ D.l2z e))) hy fun h₄ k₄ iS=>wpAny_pure ?_)
 have o₄:IsPair h₄ to x b:=iS.extBut _ _ D.TOi2 o₃
 refine wpAny_bind (wpAny_seqItems o₄ rfl ?_)
 refine wpAny_bind (wpAny_updateSeq_pair o₄ fun h₅ o₅ iT=>?_)
 replace o₅:IsPair h₅ to x y:=o₅
 refine wpAny_bind (wpAny_letGo (wpAny_pure (wpAny_pure ?_)))
 refine wpAny_bind (wpAny_seqItems o₅ rfl ?_)
 refine wpAny_bind (wpAny_newTuple ?_)
 have hsz:h₅.objs.size=s.heap.objs.size:=by rw[iT.1,iS.1,cU.1,cu.1,cV.1]
 have z₅:lB h₅ z ti to .ellipsis (.bool false):=iT.extBut _ _ D.TOz.symm (iS.extBut _ _ D.i2z.symm (cU.extBut _ _ D.TOz.symm (cu.extBut _ _ D.i1z.symm z₁)))
 have kp:∀c o,c≠z->c≠to->c≠j1->c≠j2->s.heap.get? c=some o->h₅.get? c=some o:=fun c o c1 c2 c3 c4 e=>iT.extBut _ _ c2 (iS.extBut _ _ c4 (cU.extBut _ _ c2 (cu.extBut _ _ c3 (cV.extBut _ _ c1 e))))
 have Ku:z<h₅.objs.size:=Heap.lt_size z₅
 show wpAny _ _ (Builtin.SmallTypes.ownedTupleHandOut (.ref z) (.ref h₅.objs.size) >>= _) _ _ _
 refine wpAny_bind ?_
 unfold Builtin.SmallTypes.ownedTupleHandOut
 have z₆:lB (h₅.push {cls:=.type "tuple",data:=.seq #[x,y]}) z ti to .ellipsis (.bool false):=Heap.get?_push_of_some _ z₅
 refine wpAny_bind (wpAny_setField_rec z₆ (by simp) fun h₇ z₇ qk=>?_)
 replace z₇:lB h₇ z ti to (rawInt h₅.objs.size) (.bool false):=z₇
 refine wpAny_setField_rec z₇ (by simp) fun h₈ z₈ ql=>?_
 replace z₈:lB h₈ z ti to (rawInt h₅.objs.size) (.bool false):=z₈
 have up:∀c o,c≠z->h₅.get? c=some o->h₈.get? c=some o:=fun c o c1 e=>ql.extBut _ _ c1 (qk.extBut _ _ c1 (Heap.get?_push_of_some _ e))
 have t₈:IsPair h₈ h₅.objs.size x y:=ql.extBut _ _ (Nat.ne_of_gt Ku) (qk.extBut _ _ (Nat.ne_of_gt Ku) (Heap.get?_push_size _ rfl))
 have n₈:h₈.objs.size=h₅.objs.size+1:=by rw[ql.1,qk.1,Heap.size_push]
 rw[hsz] at z₈ t₈ n₈
 refine wpAny_pure ⟨_,rfl,?_⟩
 show Q (.ref h₅.objs.size) _
 rw[hsz]
 exact hQ h₈ z₈ (up _ _ D.TOz o₅) (Ca k₂ fun o e=>up _ _ D.i1z (iT.extBut _ _ D.TOi1.symm (iS.extBut _ _ D.i12 (cU.extBut _ _ D.TOi1.symm e)))) (Ca k₄ fun o e=>up _ _ D.i2z (iT.extBut _ _ D.TOi2.symm e)) t₈ n₈ fun c o c1 c2 c3 c4 e=>up c o c1 (kp c o c1 c2 c3 c4 e)
theorem HA{z ti to j1 j2 l tp:Addr}{xs ys:Array Value}{i:Nat}{a b:Value}{Q:Fin->Shared->Prop}(hh:A.handled=none)(D:ZipApart z ti to j1 j2 l tp)(hz:lB s.heap z ti to .none (.bool false))(hO:IsPair s.heap to a b)(hI:IsPair s.heap ti (.ref j1) (.ref j2))
 (h1:s.heap.IsTupleIter j1 l i) (h2:s.heap.IsTupleIter j2 tp i) (hl:s.heap.IsTuple l xs) (ht:s.heap.IsTuple tp ys) (HB:xs[i]?=none\/ys[i]?=none)
 (hE:∀h' e,(∀c o,c≠z->c≠to->c≠j1->c≠j2->s.heap.get? c=some o->h'.get? c=some o)->(∃o,h'.get? e=some o/\o.cls=.type "StopIteration")->E (.ref e) {s with heap:=h' }) :
 wpAny (model prog w) A (Builtin.«zip.__next__» ⟨[.ref z],[]⟩) Q E s:=by
 show wpAny _ _ (field (.ref z) 2 >>= _) _ _ _
 refine wpAny_bind (wpAny_field hz rfl (x:=.bool false) rfl ?_)
 show wpAny _ _ (field (.ref z) 3 >>= _) _ _ _
 refine wpAny_bind (wpAny_field hz rfl (x:=.ref ti) rfl ?_)
 refine wpAny_bind (wpAny_seqItems hI rfl ?_)
 show wpAny _ _ (Builtin.SmallTypes.ownedTupleIsFree (.ref z) >>= _) _ _ _
 refine wpAny_bind ?_
 unfold Builtin.SmallTypes.ownedTupleIsFree
 refine wpAny_bind (wpAny_field hz rfl (x:=.none) rfl (wpAny_pure ?_))
 simp only[if_true]
 refine wpAny_bind (wpAny_rule ?_)
 refine wpAny_bind (wpAny_field hz rfl (x:=.ref to) rfl ?_)
 refine wpAny_bind (wpAny_setField_rec hz (by simp) fun h₁ z₁ cV=>?_)
 replace z₁:lB h₁ z ti to .ellipsis (.bool false):=z₁
 refine wpAny_bind ?_
 simp only[List.zipIdx_cons,List.zipIdx_nil,List.forIn_cons,List.forIn_nil]
 refine wpAny_bind (wpAny_bind (wpAny_onRaise ?_))
 show wpAny _ _ (Builtin.SmallTypes.nextOf (.ref j1) >>= _) _ _ _
 cases hx:xs[i]? with
 |none=>
  refine wpAny_bind (kA hh (Ca h1 fun o e=>cV.extBut _ _ D.i1z e) (KQ hl fun o e=>cV.extBut _ _ D.l1z e) hx fun h₂ e cu he=>?_)
  obtain⟨oe,ge,ce⟩:=he
  have z₂:lB h₂ z ti to .ellipsis (.bool false):=cu _ _ D.i1z.symm z₁
  have ez:e≠z:=fun q=>by subst q;rw[z₂] at ge;cases ge;simp at ce
  exact wpAny_setField_rec z₂ (by simp) fun h₃ _ cU=>hE h₃ e (fun c o c1 _ c3 _ q=>cU.extBut _ _ c1 (cu _ _ c3 (cV.extBut _ _ c1 q))) ⟨oe,cU.extBut _ _ ez ge,ce⟩
 |some x=>
  have hy:ys[i]?=none:=by
   rcases HB with h |h
   ·rw[hx] at h;cases h
   ·exact h
  refine wpAny_bind (iw (Ca h1 fun o e=>cV.extBut _ _ D.i1z e) (KQ hl fun o e=>cV.extBut _ _ D.l1z e) hx fun h₂ k₂ cu=>wpAny_pure ?_)
  have o₂:IsPair h₂ to a b:=cu.extBut _ _ D.TOi1 (cV.extBut _ _ D.TOz hO)
  refine wpAny_bind (wpAny_seqItems o₂ rfl ?_)
  refine wpAny_bind (wpAny_updateSeq_pair o₂ fun h₃ o₃ cU=>?_)
  refine wpAny_bind (wpAny_letGo (wpAny_pure ?_))
  refine wpAny_bind (wpAny_bind (wpAny_onRaise ?_))
  show wpAny _ _ (Builtin.SmallTypes.nextOf (.ref j2) >>= _) _ _ _
  refine wpAny_bind (kA hh (Ca h2 fun o e=>cU.extBut _ _ D.TOi2.symm (cu.extBut _ _ D.i12.symm (cV.extBut _ _ D.i2z e))) (KQ ht fun o e=>cU.extBut _ _ D.l2TO (cu.extBut _ _ D.l2i1 (cV.extBut _ _ D.l2z e))) hy fun h₄ e iS he=>?_)
  obtain⟨oe,ge,ce⟩:=he
  have z₄:lB h₄ z ti to .ellipsis (.bool false):=iS _ _ D.i2z.symm (cU.extBut _ _ D.TOz.symm (cu.extBut _ _ D.i1z.symm z₁))
  have ez:e≠z:=fun q=>by subst q;rw[z₄] at ge;cases ge;simp at ce
  exact wpAny_setField_rec z₄ (by simp) fun h₅ _ iT=>hE h₅ e (fun c o c1 c2 c3 c4 q=>iT.extBut _ _ c1 (iS _ _ c4 (cU.extBut _ _ c2 (cu.extBut _ _ c3 (cV.extBut _ _ c1 q))))) ⟨oe,iT.extBut _ _ ez ge,ce⟩
structure Mr(h:Heap)(z ti to j1 j2 l tp:Addr)(i:Nat):Prop where
 zip:lB h z ti to .none (.bool false)
 out:∃a b,IsPair h to a b
 ins:IsPair h ti (.ref j1) (.ref j2)
 Ak:h.IsTupleIter j1 l i
 Eu:h.IsTupleIter j2 tp i
theorem Cb{z ti to j1 j2 l tp:Addr}{xs ys:Array Value}{i:Nat}{x y:Value}{Q:Option Value->Shared->Prop}(D:ZipApart z ti to j1 j2 l tp)(st:Mr s.heap z ti to j1 j2 l tp i)(hl:s.heap.IsTuple l xs)(ht:s.heap.IsTuple tp ys)(hx:xs[i]?=some x)(hy:ys[i]?=some y)
 (hQ:∀h',lB h' z ti to (rawInt s.heap.objs.size) (.bool false)->IsPair h' to x y->IsPair h' ti (.ref j1) (.ref j2)->h'.IsTupleIter j1 l (i+1)->h'.IsTupleIter j2 tp (i+1)->IsPair h' s.heap.objs.size x y->h'.objs.size=s.heap.objs.size+1->
  (∀c o,c≠z->c≠to->c≠j1->c≠j2->s.heap.get? c=some o->h'.get? c=some o)->Q (some (.ref s.heap.objs.size)) {s with heap:=h' }) :
 wpAny (model prog w) A (pyNext (.ref z)) Q E s:=by
 obtain⟨hz,⟨a,b,hO⟩,hI,h1,h2⟩:=st
 have hT:s.TypeIs (.ref z) "zip":=⟨_,hz,rfl⟩
 unfold pyNext
 exact wpAny_bind (wpAny_attempt (wpAny_callSpecial?_slot (name:=Str.ofString "__next__") hT F.slot_zip_next (wpAny_call_entry F.slot_zip_next hT F.entry_zip_next
  (EN D hz hO hI h1 h2 hl ht hx hy fun h' a1 a2 a3 a4 a5 a6 a7=>wpAny_pure (hQ h' a1 a2 (a7 _ _ D.TIz D.TITO D.TIi1 D.TIi2 hI) a3 a4 a5 a6 a7)) (F.args_zip_next_1 _))))
theorem EO{z ti to j1 j2 l tp:Addr}{xs ys:Array Value}{i:Nat}{Q:Option Value->Shared->Prop}(hh:A.handled=none)(D:ZipApart z ti to j1 j2 l tp)(st:Mr s.heap z ti to j1 j2 l tp i)(hl:s.heap.IsTuple l xs)(ht:s.heap.IsTuple tp ys)(HB:xs[i]?=none\/ys[i]?=none)
 (hQ:∀h',(∀c o,c≠z->c≠to->c≠j1->c≠j2->s.heap.get? c=some o->h'.get? c=some o)->Q none {s with heap:=h' }):wpAny (model prog w) A (pyNext (.ref z)) Q E s:=by
 obtain⟨hz,⟨a,b,hO⟩,hI,h1,h2⟩:=st
 have hT:s.TypeIs (.ref z) "zip":=⟨_,hz,rfl⟩
 unfold pyNext
 refine wpAny_bind (wpAny_attempt (wpAny_callSpecial?_slot (name:=Str.ofString "__next__") hT F.slot_zip_next (wpAny_call_entry F.slot_zip_next hT F.entry_zip_next (HA hh D hz hO hI h1 h2 hl ht HB fun h' e hk he=>?_) (F.args_zip_next_1 _))))
 obtain⟨o,ho,hc⟩:=he
 refine wpAny_bind (wpAny_isInstance (T:="StopIteration") (b:=true) ⟨o,ho,hc⟩ isSubtype_stop ?_)
 exact wpAny_pure (hQ _ hk)
end
abbrev tA (h:Heap) (l:Addr):Heap:=h.push {cls:=.type "tuple_iterator",data:=.fields #[.ref l,.int 0 0]}
abbrev tB (h:Heap) (l tp:Addr):Heap:=(tA h l).push {cls:=.type "tuple_iterator",data:=.fields #[.ref tp,.int 0 0]}
abbrev tC (h:Heap) (l tp:Addr):Heap:=(tB h l tp).push {cls:=.type "tuple",data:=.seq #[.ref h.objs.size,.ref (tA h l).objs.size]}
abbrev tD (h:Heap) (l tp:Addr):Heap:=(tC h l tp).push {cls:=.type "tuple",data:=.seq #[.none,.none]}
abbrev tE (h:Heap) (l tp:Addr):Heap:=(tD h l tp).push {cls:=.type "zip",data:=.fields #[.none,.bool false,.bool false,.ref (tB h l tp).objs.size,.ref (tC h l tp).objs.size]}
theorem zK(l tp:Addr)(xs ys:Array Value):Meets (Builtin.«zip.__new__» ⟨[.type "zip",.ref l,.ref tp],[]⟩) (fun _ R s=>s.heap.IsTuple l xs/\s.heap.IsTuple tp ys/\R (.ok (.ret (.ref (tD s.heap l tp).objs.size))) {s with heap:=tE s.heap l tp}):=
 .of_wp fun prog w A R s h=>by
  obtain⟨hp,g,d,tk,os⟩:=s
  obtain⟨g1,g2,h⟩:=h
  have N7:=sub_zip
  have k1:Heap.IsTuple (Shared.heap ⟨hp,g,d,tk,os⟩) l xs:=g1
  have k2:Heap.IsTuple (Shared.heap ⟨hp.push {cls:=.type "tuple_iterator",data:=.fields #[.ref l,.int 0 0]},g,d,tk,os⟩) tp ys:=by
   obtain⟨o,go,rest⟩:=g2
   exact⟨o,Heap.get?_push_of_some _ go,rest⟩
  wp_walk using wpAny_pyIter_tuple k1,wpAny_pyIter_tuple k2
  exact⟨_,rfl,h⟩
section
variable{prog:Program}{w:World}{A:Around}{E:Value->Shared->Prop}{s:Shared}
theorem wF(n l tp:Nat)(h1:l<n)(h2:tp<n):ZipApart (n+4) (n+2) (n+3) n (n+1) l tp:=by
 constructor<;>(show (_:Nat)≠_;lia)
theorem wG{l tp:Addr}{xs ys:Array Value}{Q:Value->Shared->Prop}(hl:s.heap.IsTuple l xs)(ht:s.heap.IsTuple tp ys)
 (h:∀h',ZipApart (s.heap.objs.size+4) (s.heap.objs.size+2) (s.heap.objs.size+3) s.heap.objs.size (s.heap.objs.size+1) l tp->Mr h' (s.heap.objs.size+4) (s.heap.objs.size+2) (s.heap.objs.size+3) s.heap.objs.size (s.heap.objs.size+1) l tp 0->
  (∀c o,s.heap.get? c=some o->h'.get? c=some o)->Q (.ref (s.heap.objs.size+4)) {s with heap:=h' }) :
 wpAny (model prog w) A (call (.type "zip") [.ref l,.ref tp]) Q E s:=by
 refine callType_new F.called_zip (by decide) (F.typeCall_zip_2 _ _) (F.newCall_zip_2 _ _) (fun obj=>F.args_object_init_3 obj _ _) F.entry_zip_new (zK l tp xs ys) ⟨hl,ht,?_⟩
 have z1:(tA s.heap l).objs.size=s.heap.objs.size+1:=Heap.size_push ..
 have z2:(tB s.heap l tp).objs.size=s.heap.objs.size+2:=by rw[Heap.size_push,z1]
 have z3:(tC s.heap l tp).objs.size=s.heap.objs.size+3:=by rw[Heap.size_push,z2]
 have z4:(tD s.heap l tp).objs.size=s.heap.objs.size+4:=by rw[Heap.size_push,z3]
 have g5:(tE s.heap l tp).get? (tD s.heap l tp).objs.size=some _:=Heap.get?_push_size _ rfl
 have g4:(tE s.heap l tp).get? (tC s.heap l tp).objs.size=some _:=Heap.get?_push_of_some _ (Heap.get?_push_size _ rfl)
 have g3:(tE s.heap l tp).get? (tB s.heap l tp).objs.size=some _:=Heap.get?_push_of_some _ (Heap.get?_push_of_some _ (Heap.get?_push_size _ rfl))
 have g2:(tE s.heap l tp).get? (tA s.heap l).objs.size=some _:=Heap.get?_push_of_some _ (Heap.get?_push_of_some _ (Heap.get?_push_of_some _ (Heap.get?_push_size _ rfl)))
 have g1:(tE s.heap l tp).get? s.heap.objs.size=some _:=Heap.get?_push_of_some _ (Heap.get?_push_of_some _ (Heap.get?_push_of_some _ (Heap.get?_push_of_some _ (Heap.get?_push_size _ rfl))))
 have up:∀c o,s.heap.get? c=some o->(tE s.heap l tp).get? c=some o:=fun c o e=>Heap.get?_push_of_some _ (Heap.get?_push_of_some _ (Heap.get?_push_of_some _ (Heap.get?_push_of_some _ (Heap.get?_push_of_some _ e))))
 show _/\_
 rw[z2,z3,z4] at g5
 rw[z1,z2] at g3
 rw[z3] at g4
 rw[z1] at g2
 rw[z4]
 obtain⟨ol,gl,rl⟩:=id hl
 obtain⟨ot,gt,rt⟩:=id ht
 exact⟨⟨_,g5,rfl⟩,h _ (wF _ _ _ (Heap.lt_size gl) (Heap.lt_size gt)) ⟨g5,⟨_,_,g4⟩,g3,⟨_,g1,rfl,rfl⟩,⟨_,g2,rfl,rfl⟩⟩ up⟩
end
end L3
namespace L2
open PySem PySem.Spec PyProof.Rows
def F1 (K:PySem.W.Frag) (a b:Addr):It:=
 ⟨fun i H=>∃xs ys x y,bR K H a xs/\bR K H b ys/\xs[i]?=some x/\ys[i]?=some y,
  fun i H x H'=>∃p u v,x=.ref p/\H p=none/\H'=upd H p (.tup [u,v])/\(∀xs,bR K H a xs->xs[i]?=some u)/\∀ys,bR K H b ys->ys[i]?=some v,
  fun i H=>∃xs ys,bR K H a xs/\bR K H b ys/\(xs.length<=i\/ys.length<=i)⟩
theorem Cc{P:Program}{w:World}{K:PySem.W.Frag}{elts:List Expr}{x1}{pos:Pos}(a b z ti to j1 j2:Addr)(D:ZipApart z ti to j1 j2 a b) :
 Turn P w K (.Tuple elts x1 pos) (F1 K a b) [z,ti,to,j1,j2] z (fun i h=>L3.Mr h z ti to j1 j2 a b i) where
 mem:=by simp
 obj:=fun i h st c hc=>by
  obtain⟨hz,⟨u,v,hO⟩,hI,⟨o1,e1,c1,d1⟩,⟨o2,e2,c2,d2⟩⟩:=st
  simp only[List.mem_cons,List.not_mem_nil,or_false] at hc
  rcases hc with rfl |rfl |rfl |rfl |rfl
  ·exact⟨_,hz,fun v z=>by cases (show Data.fields _=Data.cell v from z)⟩
  ·exact⟨_,hI,fun v z=>by cases (show Data.seq _=Data.cell v from z)⟩
  ·exact⟨_,hO,fun v z=>by cases (show Data.seq _=Data.cell v from z)⟩
  ·exact⟨o1,e1,fun v z=>by rw[d1] at z;cases z⟩
  ·exact⟨o2,e2,fun v z=>by rw[d2] at z;cases z⟩
 keep:=fun i h h' st k=>⟨k z (by simp) _ st.zip,st.out.elim fun u ⟨v,hO⟩=>⟨u,v,k to (by simp) _ hO⟩,k ti (by simp) _ st.ins,L3.Ca st.Ak fun o x=>k j1 (by simp) o x,L3.Ca st.Eu fun o x=>k j2 (by simp) o x⟩
 item:=by
  intro X hP hw hK hc i pins s σ H E I hf st hg
  subst hP hw hK
  obtain⟨xs,ys,x,y,hq,Ai,hx,hy⟩:=hg
  obtain⟨bc,rv,p,hz⟩:=I.tuple hq
  obtain⟨its',An,p',Qt⟩:=I.tuple Ai
  obtain⟨u,hu,ru⟩:=rv.get hx
  obtain⟨v,hv,Iy⟩:=An.get hy
  have lz:z<s.heap.objs.size:=Heap.lt_size st.zip
  have Vf:ti<s.heap.objs.size:=Heap.lt_size st.ins
  have Mj:to<s.heap.objs.size:=by obtain⟨_,_,e⟩:=st.out;exact Heap.lt_size e
  have l1:j1<s.heap.objs.size:=by obtain⟨_,e,_⟩:=st.Ak;exact Heap.lt_size e
  have l2:j2<s.heap.objs.size:=by obtain⟨_,e,_⟩:=st.Eu;exact Heap.lt_size e
  refine L3.Cb D st (show s.heap.IsTuple a bc.toArray from p) (show s.heap.IsTuple b its'.toArray from p') (x:=u) (y:=v) (by simpa using hu) (by simpa using hv) fun h' a1 a2 a3 a4 a5 a6 a7 a8=>?_
  refine⟨_,rfl,?_⟩
  refine wpAny_letOwnedTupleGo_zip (s:={s with heap:=h' }) a1 fun h2 SQ sb=>?_
  have I1:Inv X pins σ H {s with heap:=h2}:=I.kX (t':=s.toks) (fun c o hb q=>(sb.2 c fun e=>hb (by simp[e])).trans (a8 c o (fun e=>hb (by simp[e])) (fun e=>hb (by simp[e])) (fun e=>hb (by simp[e])) (fun e=>hb (by simp[e])) q)) hf
  have fr:H s.heap.objs.size=none:=I.c7.fresh (Nat.le_refl _)
  obtain⟨g0,g1,g2,g3,g4,g5⟩:=I.yQ (Nat.le_refl _) fr
  have Hd:h2.get? s.heap.objs.size=some {cls:=.type "tuple",data:=.seq #[u,v]}:=(sb.2 _ (Nat.ne_of_gt lz)).trans a6
  have I2:=I1.told (o:=.tup [x,y]) fr I.sz g1 g4 g5 ⟨(show (2:Nat)<=sizeLine by decide),[u,v],.cons ru (.cons Iy .nil),⟨_,Hd,rfl,_,rfl⟩⟩
  refine⟨.ref s.heap.objs.size,_,I2,rfl,⟨_,x,y,rfl,fr,rfl,fun zs Od=>by rw[I.nE Od hq];exact hx,fun zs Od=>by rw[I.nE Od Ai];exact hy⟩,⟨SQ,⟨u,v,(sb.2 to D.TOz).trans a2⟩,(sb.2 ti D.TIz).trans a3,L3.Ca a4 fun o q=>(sb.2 j1 D.i1z).trans q,L3.Ca a5 fun o q=>(sb.2 j2 D.i2z).trans q⟩,fun c hb=>?_⟩
  rw[aF ?_]
  ·exact(hf c hb).1
  ·simp only[List.mem_cons,List.not_mem_nil,or_false] at hb
   rcases hb with rfl |rfl |rfl |rfl |rfl<;>exact Nat.ne_of_lt (by assumption)
 done:=by
  intro X hP hw hK hc i pins s σ H E I hf st hg
  subst hP hw hK
  obtain⟨xs,ys,hq,Ai,hl⟩:=hg
  obtain⟨bc,rv,p,hz⟩:=I.tuple hq
  obtain⟨its',An,p',Qt⟩:=I.tuple Ai
  have e1:=rv.length
  have e2:=An.length
  exact L3.EO (I.ok.hd hc) D st (show s.heap.IsTuple a bc.toArray from p) (show s.heap.IsTuple b its'.toArray from p') (by simp;lia) fun h' eb=>⟨rfl,I.kX (t':=s.toks) (fun c o hb q=>eb c o (fun e=>hb (by simp[e])) (fun e=>hb (by simp[e])) (fun e=>hb (by simp[e])) (fun e=>hb (by simp[e])) q) hf⟩
 self:=fun _ _ _ _ _ st h=>wpAny_pyIter_zip st.zip h
def KR (K:PySem.W.Frag) (ta:TA):TI:=fun σ H R=>ta σ H fun vs H1=>∃a b,vs=[.ref a,.ref b]/\(∃xs,bR K H1 a xs)/\(∃ys,bR K H1 b ys)/\R (F1 K a b) H1
theorem HC{X:Cx}{elts:List Expr}{x1}{tp:Pos}{a b:Expr}{ta:TA}{p pos:Pos}(hg:Gl X "zip")(hm:X.mg "zip"=none)(ha:PA X [a,b] ta)(hs:starEach [a,b] X.env=(false,eval a X.env)::starEach [b] X.env:=by rfl)(hn:((backTo pos (starEach [b] X.env)).any fun x=>x.1)=false:=by rfl) :
 PI X (.Tuple elts x1 tp) (.Call (.Name "zip" p) [a,b] [] pos) (KR X.K ta):=by
 intro pins s σ H R I h
 refine Call_ (lQ I hg hm PyProof.Rows.Boot.«zip» (PyProof.Rows.callWith_type1 (eF (ha pos pins s σ H _ I h) fun us s1 zqz=>?_) hs hn))
 obtain⟨vs,H1,I1,r1,q1⟩:=zqz
 obtain⟨l,l',e,⟨xs,hq⟩,⟨ys,Ai⟩,q⟩:=q1
 subst e
 cases r1 with
 |cons r rr=>
  cases rr with
  |cons r' rr=>
   cases rr
   cases (show _=Value.ref l from r)
   cases (show _=Value.ref l' from r')
   obtain⟨bc,rv,p,hz⟩:=I1.tuple hq
   obtain⟨its',An,p',Qt⟩:=I1.tuple Ai
   refine L3.wG (show s1.heap.IsTuple l bc.toArray from p) (show s1.heap.IsTuple l' its'.toArray from p') fun h' D st hk=>?_
   refine wpAny_pyIter_zip (s:={s1 with heap:=h' }) st.zip ?_
   have fr:∀b,s1.heap.objs.size<=b->H1 b=none:=fun b hb=>I1.c7.fresh hb
   refine⟨s1.heap.objs.size+4,[s1.heap.objs.size+4,s1.heap.objs.size+2,s1.heap.objs.size+3,s1.heap.objs.size,s1.heap.objs.size+1],_,_,H1,rfl,I1.kept (t':=s1.toks) hk,Cc l l' _ _ _ _ _ D,st,fun b hb=>?_,q⟩
   have Kb:s1.heap.objs.size<=b:=by
    simp only[List.mem_cons,List.not_mem_nil,or_false] at hb
    rcases hb with rfl |rfl |rfl |rfl |rfl<;>first |exact Nat.le_refl _ |exact Nat.le_add_right _ _
   exact I1.yQ Kb (fr b Kb)
theorem ER{K:PySem.W.Frag}{a b:Addr}{xs ys:List V}{g:TG}{tb:TS}{D:Ends}{σ:St}{H:Hp}(Pv:Nat->St->Hp->Prop)(h0:Pv 0 σ H)(hl:∀i σ H,i<=min xs.length ys.length->Pv i σ H->bR K H a xs/\bR K H b ys)
 (hs:∀i x y σ H p,xs[i]?=some x->ys[i]?=some y->Pv i σ H->H p=none->g (.ref p) σ (upd H p (.tup [x,y])) fun σ2 H2=>tb {D with nx:=Pv (i+1),ct:=Pv (i+1),bk:=D.nx} σ2 H2) (hd:∀σ H,Pv (min xs.length ys.length) σ H->D.nx σ H) :
 ∃W:Nat->Nat->St->Hp->Prop,(∃m,W 0 m σ H)/\∀i m σ H,W i m σ H->
  ((F1 K a b).stop i H/\D.nx σ H)\/((F1 K a b).go i H/\∃N:St->Hp->Prop,(∀σ' H',N σ' H'->∃m',m'<m/\W (i+1) m' σ' H')/\∀x H',(F1 K a b).xr i H x H'->g x σ H' fun σ2 H2=>tb {D with nx:=N,ct:=N,bk:=D.nx} σ2 H2):=by
 refine⟨fun i m σ H=>m=min xs.length ys.length-i/\i<=min xs.length ys.length/\Pv i σ H,⟨_,rfl,Nat.zero_le _,h0⟩,?_⟩
 rintro i m σ H ⟨rfl,hi,p⟩
 obtain⟨q,q'⟩:=hl i σ H hi p
 by_cases lR:i<min xs.length ys.length
 ·have l1:i<xs.length:=by lia
  have l2:i<ys.length:=by lia
  refine .inr ⟨⟨xs,ys,xs[i],ys[i],q,q',by simp[l1],by simp[l2]⟩,Pv (i+1),fun σ' H' p'=>⟨min xs.length ys.length-(i+1),by lia,rfl,lR,p'⟩,fun x H' y=>?_⟩
  obtain⟨pp,u,v,rfl,hn,rfl,y1,y2⟩:=y
  exact hs i u v σ H pp (y1 xs q) (y2 ys q') p hn
 ·have e:i=min xs.length ys.length:=by lia
  subst e
  exact .inl ⟨⟨xs,ys,q,q',by lia⟩,hd σ H p⟩
end L2
namespace PG
open PM (W Tr)
def jv (bs:List cD) (x:W):Nat:=bs.findIdx fun b=>decide (b.name=x)
def bT (bs:List cD) (rs:List Rg) (x:W):Rg:=rs.getD (jv bs x) (0,0)
def iz (bs:List cD) (rs:List Rg) (x:W) (r:Rg):List Rg:=rs.set (jv bs x) r
theorem nV{bs:List cD}(nb:(bs.map (·.name)).Nodup){i:Nat}(hi:i<bs.length):jv bs bs[i].name=i:=by
 unfold jv
 rw[List.findIdx_eq (by simpa using hi)]
 refine⟨by simp,fun j hj=>?_⟩
 have h:=List.pairwise_iff_getElem.mp nb j i (by simp;lia) (by simp;lia) hj
 exact decide_eq_false (by simpa using h)
end PG
namespace L2
open PySem
def pb (K:PySem.W.Frag) (H:Hp) (bs:List PG.cD) (aJ:List (Key×V)) (rs:List PG.Rg):Prop:=rs.length=bs.length/\∀i (hi:i<bs.length),∃v,cN aJ (.inr (S bs[i].name))=some v/\∃r,rs[i]?=some r/\cc K H v r
theorem pb.mono{K:PySem.W.Frag}{H H':Hp}{bs:List PG.cD}{aJ:List (Key×V)}{rs:List PG.Rg}(h:pb K H bs aJ rs)(s:ao H H'):pb K H' bs aJ rs:=
 ⟨h.1,fun i hi=>let ⟨v,e,r,er,q⟩:=h.2 i hi;⟨v,e,r,er,q.mono s⟩⟩
def oU (bs:List PG.cD) (rs:List PG.Rg):PM.Tr->Prop
 |.num n=>n.natAbs<=2 ^ 12
 |.box x=>x∈bs.map (·.name)/\KP (2 ^ 12) (PG.bT bs rs x)
 |.bin o l r=>(o=[43]\/o=[45]\/o=[42])/\oU bs rs l/\oU bs rs r
theorem pb.at_{K:PySem.W.Frag}{H:Hp}{bs:List PG.cD}{aJ:List (Key×V)}{rs:List PG.Rg}(h:pb K H bs aJ rs)(nb:(bs.map (·.name)).Nodup){x:W}(hx:x∈bs.map (·.name)):∃v,cN aJ (.inr (S x))=some v/\cc K H v (PG.bT bs rs x):=by
 obtain⟨b,hb,rfl⟩:=List.mem_map.mp hx
 obtain⟨i,hi,rfl⟩:=List.getElem_of_mem hb
 obtain⟨v,e,r,er,q⟩:=h.2 i hi
 refine⟨v,e,?_⟩
 unfold PG.bT
 rw[PG.nV nb hi,List.getD_eq_getElem?_getD,er]
 exact q
theorem pb.Iz{K:PySem.W.Frag}{H:Hp}{bs:List PG.cD}{aJ:List (Key×V)}{rs:List PG.Rg}(h:pb K H bs aJ rs)(nb:(bs.map (·.name)).Nodup):∀ {t:PM.Tr},oU bs rs t->yl K H aJ (PG.bT bs rs) t
 |.num n,q=>q
 |.box x,q=>⟨h.at_ nb q.1,q.2⟩
 |.bin o l r,q=>⟨q.1,pb.Iz h nb q.2.1,pb.Iz h nb q.2.2⟩
theorem pb.put{K:PySem.W.Frag}{H:Hp}{bs:List PG.cD}{aJ:List (Key×V)}{rs:List PG.Rg}(h:pb K H bs aJ rs)(nb:(bs.map (·.name)).Nodup){x:W}(hx:x∈bs.map (·.name)){v:V}{r:PG.Rg}(hv:cc K H v r):pb K H bs (putK aJ (.inr (S x)) v) (PG.iz bs rs x r):=by
 obtain⟨b,hb,rfl⟩:=List.mem_map.mp hx
 obtain⟨j,hj,rfl⟩:=List.getElem_of_mem hb
 unfold PG.iz
 rw[PG.nV nb hj]
 refine⟨by rw[List.length_set];exact h.1,fun i hi=>?_⟩
 by_cases e:i=j
 ·subst e
  exact⟨v,by rw[pW,if_pos rfl],r,by rw[List.getElem?_set_self (by rw[h.1];exact hi)],hv⟩
 ·obtain⟨u,e1,r1,er,q⟩:=h.2 i hi
  refine⟨u,?_,r1,by rw[List.getElem?_set_ne (Ne.symm e)];exact er,q⟩
  rw[pW,if_neg fun z=>e ?_]
  ·exact e1
  ·have z:=jS.mp (Sum.inr.inj z)
   have l:i<(bs.map (·.name)).length:=by simpa using hi
   have:=PG.nV nb hi
   rw[<- PG.nV nb hi,<- PG.nV nb hj,z]
end L2
namespace PG
open PM (W Tr)
def F2 (bs:List cD) (rs:List Rg) (lt truth:Bool) (t:Tr) (a b:Rg):List Rg:=match t with
 |.box x=>iz bs rs x (L2.tF lt truth (bT bs rs x) a b)
 |_=>rs
def KU (bs:List cD) (rs:List Rg) (lt truth:Bool) (t:Tr) (a b:Rg):List Rg:=match t with
 |.box x=>iz bs rs x (L2.wC lt truth (bT bs rs x) a b)
 |_=>rs
def lE (rs:List Rg):Option (List Rg):=if (rs.map fun q=>decide (q.1>q.2)).any id then none else some rs
def cK (bs:List cD) (rs:List Rg) (sg:W) (l r:Tr) (truth:Bool):Option (List Rg):=
 if kz (decide (sg=[60])) truth (dC (bT bs rs) l) (dC (bT bs rs) r) then
  lE (KU bs (F2 bs rs (decide (sg=[60])) truth l (dC (bT bs rs) l) (dC (bT bs rs) r)) (decide (sg=[60])) truth r (dC (bT bs rs) l) (dC (bT bs rs) r))
 else none
end PG
namespace L2
open PySem
def tG (K:PySem.W.Frag) (H:Hp) (us:List V) (rs:List PG.Rg):Prop:=us.length=rs.length/\∀i (hi:i<us.length),∃r,rs[i]?=some r/\cc K H us[i] r
theorem tG.mono{K:PySem.W.Frag}{H H':Hp}{us:List V}{rs:List PG.Rg}(h:tG K H us rs)(s:ao H H'):tG K H' us rs:=⟨h.1,fun i hi=>let ⟨r,e,q⟩:=h.2 i hi;⟨r,e,q.mono s⟩⟩
def gH (K:PySem.W.Frag) (H:Hp) (v:V) (rs:List PG.Rg):Prop:=∃a us,v=.ref a/\bR K H a us/\tG K H us rs
theorem gH.mono{K:PySem.W.Frag}{H H':Hp}{v:V}{rs:List PG.Rg}(h:gH K H v rs)(s:ao H H'):gH K H' v rs:=let ⟨a,us,e,q,r⟩:=h;⟨a,us,e,s.bL q,r.mono s⟩
def oV (K:PySem.W.Frag) (H:Hp) (v:V):Option (List PG.Rg)->Prop
 |none=>v=.c6
 |some rs=>gH K H v rs
theorem oV.mono{K:PySem.W.Frag}{H H':Hp}{v:V}:∀ {o:Option (List PG.Rg)},oV K H v o->ao H H'->oV K H' v o
 |none,h,_=>h
 |some _,h,s=>gH.mono h s
theorem pb.of{K:PySem.W.Frag}{H:Hp}{bs:List PG.cD}{us:List V}{rs:List PG.Rg}(h:tG K H us rs)(lu:us.length=bs.length)(nb:(bs.map (·.name)).Nodup):pb K H bs (c5 bs us) rs:=
 ⟨by rw[<- h.1];exact lu,fun i hi=>by
  obtain⟨r,er,q⟩:=h.2 i (by lia)
  exact⟨us[i],nT bs us lu nb i hi _ (List.getElem?_eq_getElem (by lia)),r,er,q⟩⟩
theorem pb.list{K:PySem.W.Frag}{H:Hp}{bs:List PG.cD}{aJ:List (Key×V)}{rs:List PG.Rg}(h:pb K H bs aJ rs):∃us,us.length=bs.length/\(∀i (hi:i<bs.length),cN aJ (.inr (S bs[i].name))=us[i]?)/\tG K H us rs:=by
 refine⟨(List.range bs.length).map fun i=>(cN aJ (.inr (S (bs.getD i ⟨[],0,0⟩).name))).getD .c6,by simp,fun i hi=>?_,by simp[h.1],fun i hi=>?_⟩
 ·obtain⟨v,e,_⟩:=h.2 i hi
  rw[List.getElem?_map,List.getElem?_range hi]
  simp only[Option.map_some,List.getD_eq_getElem?_getD,List.getElem?_eq_getElem hi,Option.getD_some,e]
 ·have FF:i<bs.length:=by simpa using hi
  obtain⟨v,e,r,er,q⟩:=h.2 i FF
  refine⟨r,er,?_⟩
  simp only[List.getElem_map,List.getElem_range,List.getD_eq_getElem?_getD,List.getElem?_eq_getElem FF,Option.getD_some,e]
  exact q
end L2
namespace L2
open PySem
section
variable(K:PySem.W.Frag)(C:Addr)
def wH:Sp:=fun vs H Q _=>∃(p:Addr) (rv:V) (pr:PG.Prog) (i:Nat) (hi:i<(PG.aD pr.body).length) (truth:Bool) (rs:List PG.Rg) (sg:W) (l r:PM.Tr),vs=[.ref p,.int (PG.aD pr.body)[i].row,.bl truth,rv]/\uc K C H p pr/\(PG.aD pr.body).Pairwise (fun a b=>a.row<b.row)/\(pr.aA.map (·.name)).Nodup/\pr.aA.length<=10/\gH K H rv rs/\rs.length=pr.aA.length/\
 jo (PG.aD pr.body)[i]=some (sg,l,r)/\oU pr.aA rs l/\oU pr.aA rs r/\PG.c8 l<=4/\PG.c8 r<=4/\∀v H',ao H H'->oV K H' v (PG.cK pr.aA rs sg l r truth)->Q v H'
end
end L2
namespace L2
open PySem
theorem cc.dk{K:PySem.W.Frag}{H H':Hp}{D:Addr}{v:V}{r:PG.Rg}{aJ:List (Key×V)}(h:cc K H v r)(hD:H D=some (.dK aJ))(u:bh D H H'):cc K H' v r:=let ⟨a,e,q⟩:=h;⟨a,e,q.dk hD u⟩
theorem pb.dk{K:PySem.W.Frag}{H H':Hp}{D:Addr}{bs:List PG.cD}{kv aJ:List (Key×V)}{rs:List PG.Rg}(h:pb K H bs kv rs)(hD:H D=some (.dK aJ))(u:bh D H H'):pb K H' bs kv rs:=
 ⟨h.1,fun i hi=>let ⟨v,e,r,er,q⟩:=h.2 i hi;⟨v,e,r,er,q.dk hD u⟩⟩
theorem nW{K:PySem.W.Frag}{H:Hp}{t:PM.Tr}{v:V}(h:Rep K H (eZ t) v)(ok:∀o l r,t=.bin o l r->S o≠"box"):∃a w0 w1 ys,v=.ref a/\bR K H a (.str w0::w1::ys)/\(w0 = "box"↔∃x,t=.box x)/\∀x,t=.box x->w1=.str (S x):=by
 cases t with
 |num m=>
  unfold eZ at h
  simp only[Rep.aQ,aC.az,aC.aV,Rep.bu,Rep.aY] at h
  obtain⟨a,xs,rfl,hS,_,_,rfl,rfl,_,_,rfl,rfl,rfl⟩:=h
  exact⟨a,_,_,_,rfl,hS,⟨fun z=>absurd z (by decide +kernel),fun ⟨x,z⟩=>by cases z⟩,fun x z=>by cases z⟩
 |box x=>
  unfold eZ at h
  simp only[Rep.aQ,aC.az,aC.aV,Rep.bu,Rep.aY] at h
  obtain⟨a,xs,rfl,hS,_,_,rfl,rfl,_,_,rfl,rfl,rfl⟩:=h
  exact⟨a,_,_,_,rfl,hS,⟨fun _=>⟨x,rfl⟩,fun _=>rfl⟩,fun y z=>by cases z;rfl⟩
 |bin o l r=>
  unfold eZ at h
  simp only[Rep.aQ,aC.az,aC.aV,Rep.bu,Rep.aY] at h
  obtain⟨a,xs,rfl,hS,_,_,rfl,rfl,vl,_,rfl,hl,vr,_,rfl,nr,rfl⟩:=h
  exact⟨a,_,_,_,rfl,hS,⟨fun z=>absurd z (ok o l r rfl),fun ⟨x,z⟩=>by cases z⟩,fun x z=>by cases z⟩
theorem oU.Cd{bs:List PG.cD}{rs:List PG.Rg}{t:PM.Tr}(h:oU bs rs t)(o:W)(l r:PM.Tr)(e:t=.bin o l r):S o≠"box":=by
 subst e
 obtain⟨ho,_⟩:=h
 rcases ho with rfl |rfl |rfl<;>decide +kernel
end L2
namespace PG
def fO (f:Bool->Option (List Rg)) (ws:List (Int×Bool)):List (Int×List Rg):=ws.filterMap fun w=>(f w.2).map fun r=>(w.1,r)
theorem oW(f:Bool->Option (List Rg))(ws:List (Int×Bool))(w:Int×Bool):fO f (ws++[w])=fO f ws++((f w.2).map fun r=>(w.1,r)).toList:=by
 unfold fO
 rw[List.filterMap_append]
 cases h:f w.2<;>simp[h]
end PG
namespace L2
open PySem
theorem cc.iO{K:PySem.W.Frag}{H H':Hp}{D:Addr}{v:V}{r:PG.Rg}{ys:List V}(h:cc K H v r)(hD:H D=some (.lst ys))(u:bh D H H'):cc K H' v r:=let ⟨a,e,q⟩:=h;⟨a,e,q.iO hD u⟩
theorem gH.iO{K:PySem.W.Frag}{H H':Hp}{D:Addr}{v:V}{rs:List PG.Rg}{ys:List V}(h:gH K H v rs)(hD:H D=some (.lst ys))(u:bh D H H'):gH K H' v rs:=
 let ⟨a,us,e,q,l,r⟩:=h;⟨a,us,e,q.iO hD u,l,fun i hi=>let ⟨r1,e1,q1⟩:=r i hi;⟨r1,e1,q1.iO hD u⟩⟩
def pd (K:PySem.W.Frag) (H:Hp) (v:V) (w:Int×List PG.Rg):Prop:=∃a u,v=.ref a/\bR K H a [.int w.1,u]/\gH K H u w.2
theorem pd.mono{K:PySem.W.Frag}{H H':Hp}{v:V}{w:Int×List PG.Rg}(h:pd K H v w)(s:ao H H'):pd K H' v w:=let ⟨a,u,e,q,r⟩:=h;⟨a,u,e,s.bL q,r.mono s⟩
theorem pd.iO{K:PySem.W.Frag}{H H':Hp}{D:Addr}{v:V}{w:Int×List PG.Rg}{ys:List V}(h:pd K H v w)(hD:H D=some (.lst ys))(u:bh D H H'):pd K H' v w:=let ⟨a,x,e,q,r⟩:=h;⟨a,x,e,q.iO hD u,r.iO hD u⟩
inductive i7(K:PySem.W.Frag)(H:Hp):List V->List (Int×List PG.Rg)->Prop
 |nil:i7 K H [] []
 |cons {v w us ws}:pd K H v w->i7 K H us ws->i7 K H (v::us) (w::ws)
theorem i7.map{K:PySem.W.Frag}{H H':Hp}{us:List V}{ws:List (Int×List PG.Rg)}(h:i7 K H us ws)(f:∀v w,pd K H v w->pd K H' v w):i7 K H' us ws:=by
 induction h with
 |nil=>exact .nil
 |cons a _ ih=>exact .cons (f _ _ a) ih
theorem i7.snoc{K:PySem.W.Frag}{H:Hp}{us:List V}{ws:List (Int×List PG.Rg)}{v:V}{w:Int×List PG.Rg}(h:i7 K H us ws)(q:pd K H v w):i7 K H (us++[v]) (ws++[w]):=by
 induction h with
 |nil=>exact .cons q .nil
 |cons a _ ih=>exact .cons a ih
theorem i7.len{K:PySem.W.Frag}{H:Hp}{us:List V}{ws:List (Int×List PG.Rg)}(h:i7 K H us ws):us.length=ws.length:=by
 induction h with
 |nil=>rfl
 |cons a _ ih=>simp[ih]
section
variable(K:PySem.W.Frag)(C:Addr)
def Ce:Sp:=fun vs H Q _=>∃(p:Addr) (rv:V) (pr:PG.Prog) (i:Nat) (hi:i<(PG.aD pr.body).length) (hf:i<(PG.aL pr.body 0).length) (rs:List PG.Rg) (sg:W) (l r:PM.Tr),vs=[.ref p,.int (PG.aD pr.body)[i].row,rv]/\uc K C H p pr/\sZ pr/\gH K H rv rs/\rs.length=pr.aA.length/\
 jo (PG.aD pr.body)[i]=some (sg,l,r)/\oU pr.aA rs l/\oU pr.aA rs r/\PG.c8 l<=4/\PG.c8 r<=4/\∀L us H',ao H H'->H L=none->H' L=some (.lst us)->i7 K H' us (PG.fO (PG.cK pr.aA rs sg l r) ((PG.aL pr.body 0)[i].2.2.zip [true,false]))->Q (.ref L) H'
end
end L2
namespace PG
open PM (W Tr)
def eV (bs:List cD) (rs:List Rg) (ws:List Int):bM->List (Int×List Rg)
 |.ask _ b=>[(ws.getD 0 0,iz bs rs b (0,L2.cm bs b-1))]
 |.put _ b e=>[(ws.getD 0 0,iz bs rs b (qr (dC (bT bs rs) e) (L2.cm bs b)))]
 |.cE _ sg l r=>fO (cK bs rs sg l r) (ws.zip [true,false])
 |.ifs _ sg l r _ _=>fO (cK bs rs sg l r) (ws.zip [true,false])
 |.gw _ sg l r _=>fO (cK bs rs sg l r) (ws.zip [true,false])
 |_=>[(ws.getD 0 0,rs)]
end PG
namespace L2
open PySem
def Cf (bs:List PG.cD) (rs:List PG.Rg):PG.bM->Prop
 |.ask _ b=>b∈bs.map (·.name)
 |.put _ b e=>b∈bs.map (·.name)/\oU bs rs e/\PG.c8 e<=4
 |.cE _ _ l r=>oU bs rs l/\oU bs rs r/\PG.c8 l<=4/\PG.c8 r<=4
 |.ifs _ _ l r _ _=>oU bs rs l/\oU bs rs r/\PG.c8 l<=4/\PG.c8 r<=4
 |.gw _ _ l r _=>oU bs rs l/\oU bs rs r/\PG.c8 l<=4/\PG.c8 r<=4
 |_=>True
section
variable(K:PySem.W.Frag)(C:Addr)
def Cg:Sp:=fun vs H Q _=>∃(p:Addr) (rv:V) (pr:PG.Prog) (row:Int) (rs:List PG.Rg),vs=[.ref p,.int row,rv]/\uc K C H p pr/\sZ pr/\gH K H rv rs/\rs.length=pr.aA.length/\(∀b∈pr.aA,0<b.size/\b.size<=1000)/\
 ((row=0/\∀L H',ao H H'->H L=none->H' L=some (.lst [])->Q (.ref L) H')\/
  (row≠0/\∃(i:Nat) (hi:i<(PG.aD pr.body).length) (hf:i<(PG.aL pr.body 0).length),(PG.aD pr.body)[i].row=row/\Cf pr.aA rs (PG.aD pr.body)[i]/\0<(PG.aL pr.body 0)[i].2.2.length/\
   ∀L us H',ao H H'->H L=none->H' L=some (.lst us)->i7 K H' us (PG.eV pr.aA rs (PG.aL pr.body 0)[i].2.2 (PG.aD pr.body)[i])->Q (.ref L) H'))
end
end L2
namespace PG
open PM (W Tr)
def HD (bs:List cD) (rs:List Rg) (lt truth:Bool) (t:Tr) (b:Rg):List Rg:=match t with
 |.box x=>iz bs rs x (iy lt truth true (bT bs rs x) b)
 |_=>rs
def KW (bs:List cD) (rs:List Rg) (lt truth:Bool) (t:Tr) (a:Rg):List Rg:=match t with
 |.box x=>iz bs rs x (iy lt truth false (bT bs rs x) a)
 |_=>rs
def dY (bs:List cD) (rs:List Rg) (sg:W) (l r:Tr) (truth:Bool):Option (List Rg):=
 if kz (decide (sg=[60])) truth (dC (bT bs rs) l) (dC (bT bs rs) r) then
  lE (KW bs (HD bs rs (decide (sg=[60])) truth l (dC (bT bs rs) r)) (decide (sg=[60])) truth r (dC (bT bs rs) l))
 else none
theorem qY{bs:List cD}{rs:List Rg}(l:rs.length=bs.length){x:W}(hx:x∈bs.map (·.name))(q:Rg):bT bs (iz bs rs x q) x=q:=by
 unfold bT iz
 have:jv bs x<bs.length:=by
  unfold jv
  rw[List.findIdx_lt_length]
  obtain⟨b,hb,e⟩:=List.mem_map.mp hx
  exact⟨b,hb,by simp[e]⟩
 rw[List.getD_eq_getElem?_getD,List.getElem?_set_self (by lia)]
 rfl
theorem uZ{bs:List cD}{rs:List Rg}{x y:W}(hx:jv bs x≠jv bs y)(q:Rg):bT bs (iz bs rs x q) y=bT bs rs y:=by
 unfold bT iz
 rw[List.getD_eq_getElem?_getD,List.getElem?_set_ne hx,<- List.getD_eq_getElem?_getD]
theorem ES{bs:List cD}{x y:W}(hx:x∈bs.map (·.name))(e:jv bs x=jv bs y):x=y:=by
 unfold jv at e
 have h:bs.findIdx (fun b=>decide (b.name=x))<bs.length:=by
  rw[List.findIdx_lt_length]
  obtain⟨b,hb,e⟩:=List.mem_map.mp hx
  exact⟨b,hb,by simp[e]⟩
 have h1:=List.findIdx_getElem (w:=h)
 have h2:=List.findIdx_getElem (xs:=bs) (p:=fun b=>decide (b.name=y)) (w:=by rw[<- e];exact h)
 simp only[decide_eq_true_eq] at h1 h2
 rw[<- h1,<- h2]
 simp only[e]
theorem tH{bs:List cD}{rs:List Rg}(ln:rs.length=bs.length)(sg:W)(l r:Tr)(truth:Bool)(hl:∀x,l=.box x->x∈bs.map (·.name))(hr:∀x,r=.box x->x∈bs.map (·.name)):dY bs rs sg l r truth=cK bs rs sg l r truth:=by
 unfold dY cK
 have eL:HD bs rs (decide (sg=[60])) truth l (dC (bT bs rs) r)=F2 bs rs (decide (sg=[60])) truth l (dC (bT bs rs) l) (dC (bT bs rs) r):=by
  cases l with
  |box x=>
   simp only[HD,F2,L2.tF,dC]
   cases decide (sg=[60]) with
   |true=>rfl
   |false=>cases truth<;>rfl
  |_=>rfl
 rw[eL]
 have eR:KW bs (F2 bs rs (decide (sg=[60])) truth l (dC (bT bs rs) l) (dC (bT bs rs) r)) (decide (sg=[60])) truth r (dC (bT bs rs) l)=KU bs (F2 bs rs (decide (sg=[60])) truth l (dC (bT bs rs) l) (dC (bT bs rs) r)) (decide (sg=[60])) truth r (dC (bT bs rs) l) (dC (bT bs rs) r):=by
  cases r with
  |box y=>
   simp only[KW,KU,L2.wC]
   cases decide (sg=[60]) with
   |true=>rfl
   |false=>
    cases truth with
    |false=>rfl
    |true=>
     have e:bT bs (F2 bs rs false true l (dC (bT bs rs) l) (dC (bT bs rs) (.box y))) y=dC (bT bs rs) (.box y):=by
      cases l with
      |box x=>
       simp only[F2,dC]
       by_cases z:jv bs x=jv bs y
       ·have:=ES (hl x rfl) z
        subst this
        rw[qY ln (hl x rfl)]
        simp only[L2.tF,L2.B8,Bool.false_eq_true,if_false,if_true]
        rw[Int.max_self,Int.min_self]
       ·rw[uZ z]
      |_=>rfl
     rw[e]
     rfl
  |_=>rfl
 rw[eR]
end PG
namespace L2
open PySem
def mM (H:Hp) (s:Addr):Prop:=∃n m:Int,H s=some (.lst [.int n,.int m])
theorem mM.same{H H':Hp}{s:Addr}(h:mM H s)(e:ao H H'):mM H' s:=let ⟨n,m,q⟩:=h;⟨n,m,e _ _ q⟩
structure zL(bs:List PG.cD):Prop where
 nb:(bs.map (·.name)).Nodup
 o9:bs.length<=4
 sz:∀b∈bs,2<=b.size/\b.size<=10
 cl:∀x∈bs.map (·.name),PyData.canLay0 (.str (S x))=true
def pe (bs:List PG.cD):PM.Tr->Prop
 |.num n=>0<=n/\n<1000
 |.box x=>x∈bs.map (·.name)
 |.bin o l r=>(o=[43]\/o=[45]\/o=[42])/\pe bs l/\pe bs r
def KY (bs:List PG.cD) (rs:List PG.Rg):Prop:=rs.length=bs.length/\∀r∈rs,0<=r.1/\r.1<=10/\0<=r.2/\r.2<=10
def IA (bs:List PG.cD) (sg:W) (l r:PM.Tr):Prop:=(sg=[60]\/sg=[61])/\pe bs l/\pe bs r/\PG.c8 l<=2/\PG.c8 r<=2
def Ms (row:Int) (b:List PG.bM):Prop:=b=[]\/b=[.say (row+1) (.num 1)]
def Oe (row:Int) (b:List PG.bM):Prop:=b=[]\/b=[.stop (row+3)]
def nX (bs:List PG.cD) (row:Int):PG.bM->Prop
 |.ask k b=>k=row/\b∈bs.map (·.name)
 |.put k b e=>k=row/\b∈bs.map (·.name)/\pe bs e/\PG.c8 e<=2
 |.say k e=>k=row/\pe bs e/\PG.c8 e<=2
 |.stop k=>k=row
 |.cE k sg l r=>k=row/\IA bs sg l r
 |.gw k sg l r a=>k=row/\IA bs sg l r/\Ms row a
 |.ifs k sg l r a b=>k=row/\IA bs sg l r/\Ms row a/\Oe row b
theorem pe.g{bs:List PG.cD}{rs:List PG.Rg}(h:KY bs rs):∀ {t:PM.Tr},pe bs t->oU bs rs t
 |.num n,q=>by unfold pe at q;unfold oU;lia
 |.box x,q=>by
  refine⟨q,?_⟩
  unfold PG.bT
  rw[List.getD_eq_getElem?_getD]
  cases e:rs[PG.jv bs x]? with
  |none=>exact⟨by decide,by decide⟩
  |some r=>
   have:=h.2 r (List.mem_of_getElem? e)
   exact⟨by show r.1.natAbs<=_;lia,by show r.2.natAbs<=_;lia⟩
 |.bin o l r,q=>⟨q.1,pe.g h q.2.1,pe.g h q.2.2⟩
def ET (H:Hp) (l:Addr) (bs:List PG.cD):Prop:=H l=some (.lst (bs.map fun b=>.str (S b.name)))
theorem ET.index{H:Hp}{l:Addr}{bs:List PG.cD}(h:ET H l bs){x:W}(hx:x∈bs.map (·.name)){Q:VK}(q:Q (.int (PG.jv bs x)) H):yf (.ref l) [.str (S x)] H Q:=by
 have lt:PG.jv bs x<bs.length:=by
  unfold PG.jv
  rw[List.findIdx_lt_length]
  obtain⟨b,hb,e⟩:=List.mem_map.mp hx
  exact⟨b,hb,by simp[e]⟩
 refine⟨l,bs.map fun b=>S b.name,S x,PG.jv bs x,rfl,rfl,?_,?_,?_,q⟩
 ·rw[List.map_map];exact h
 ·rw[List.getElem?_map,List.getElem?_eq_getElem lt]
  have h1:=List.findIdx_getElem (w:=lt)
  simp only[decide_eq_true_eq] at h1
  show some (S bs[PG.jv bs x].name)=_
  rw[show bs[PG.jv bs x].name=x from h1]
 ·intro m hm
  have Oa:m<bs.length:=by lia
  rw[List.getElem?_map,List.getElem?_eq_getElem Oa]
  intro z
  have z:=jS.mp (Option.some.inj z)
  have:=List.not_of_lt_findIdx (xs:=bs) (p:=fun b=>decide (b.name=x)) hm
  simp[z] at this
def HE (K:PySem.W.Frag) (s:Addr) (H:Hp) (B:Addr) (bs:List PG.cD):Prop:=B≠s/\bs.length<=10/\∃xs,H B=some (.lst xs)/\cb K (·=s) H (bs.map fK) xs
theorem HE.aA{K:PySem.W.Frag}{s B:Addr}{H:Hp}{bs:List PG.cD}(h:HE K s H B bs):gG K (·=s) H B bs:=let ⟨n,l,xs,e,f⟩:=h;⟨Fix.lst e n f,l⟩
theorem HE.up{K:PySem.W.Frag}{s B:Addr}{H H1:Hp}{bs:List PG.cD}(h:HE K s H B bs)(u:bh s H H1):HE K s H1 B bs:=let ⟨n,l,xs,e,f⟩:=h;⟨n,l,xs,u _ _ n e,f.up (aX.one u rfl)⟩
section
variable(K:PySem.W.Frag)(C:Addr)
def Of:Sp:=fun vs H Q _=>∃(s:Addr) (many:Int),vs=[.ref s,.int many]/\mM H s/\0<many/\many<=1000/\∀x H',0<=x->x<many->bh s H H'->mM H' s->Q (.int x) H'
def zM:Sp:=fun vs H Q _=>∃s:Addr,vs=[.ref s]/\mM H s/\∀B bs H',bh s H H'->mM H' s->H B=none->HE K s H' B bs->zL bs->Q (.ref B) H'
def u0:Sp:=fun vs H Q _=>∃(s B:Addr) (bs:List PG.cD),vs=[.ref s,.ref B]/\mM H s/\gG K (·=s) H B bs/\∀v t H',bh s H H'->mM H' s->Fix K (·=s) H' (eZ t) v->pe bs t->PG.c8 t<=0->Q v H'
def ym (n:Nat):Sp:=fun vs H Q _=>∃(s B:Addr) (bs:List PG.cD) (d:Nat),vs=[.ref s,.ref B,.int d]/\d<n/\mM H s/\gG K (·=s) H B bs/\∀v t H',bh s H H'->mM H' s->Fix K (·=s) H' (eZ t) v->pe bs t->PG.c8 t<=d->Q v H'
def Ci:Sp:=fun vs H Q _=>∃(s B:Addr) (bs:List PG.cD),vs=[.ref s,.ref B]/\mM H s/\gG K (·=s) H B bs/\∀v t H',bh s H H'->mM H' s->Fix K (·=s) H' (eZ t) v->pe bs t->PG.c8 t<=2->Q v H'
def EU:Sp:=fun vs H Q _=>∃(s B:Addr) (bs:List PG.cD) (row:Int),vs=[.ref s,.ref B,.int row]/\mM H s/\gG K (·=s) H B bs/\∀v st H',bh s H H'->mM H' s->Fix K (·=s) H' (cT st) v->nX bs row st->Q v H'
def qu (r:PG.Rg):Dp:=.tup [.int r.1,.int r.2]
def zN (rs:List PG.Rg):Dp:=.tup (rs.map qu)
def wI:Sp:=fun vs H Q _=>∃(s B:Addr) (bs:List PG.cD),vs=[.ref s,.ref B]/\mM H s/\HE K s H B bs/\zL bs/\∀v rs H',bh s H H'->mM H' s->Fix K (·=s) H' (zN rs) v->KY bs rs->Q v H'
def tI (n:Nat):Sp:=fun vs H Q _=>∃(v rv:V) (l:Addr) (t:PM.Tr) (bs:List PG.cD) (rs:List PG.Rg),vs=[v,.ref l,rv]/\Rep K H (eZ t) v/\ET H l bs/\gH K H rv rs/\rs.length=bs.length/\oU bs rs t/\PG.c8 t<n/\PG.c8 t<=6/\∀u H',ao H H'->cc K H' u (PG.dC (PG.bT bs rs) t)->Q u H'
def HF:Sp:=fun vs H Q _=>∃(p wl:Addr) (iv:V) (own bc:PG.Rg) (sg:W) (truth left:Bool),vs=[.ref p,iv,.ref wl]/\H p=some (.lst [.int own.1,.int own.2])/\cc K H iv bc/\H wl=some (.lst [.str (S sg),.bl truth,.bl left])/\(sg=[60]\/sg=[61])/\∀H',bh p H H'->H' p=some (.lst [.int (PG.iy (decide (sg=[60])) truth left own bc).1,.int (PG.iy (decide (sg=[60])) truth left own bc).2])->Q .c6 H'
def zO:Sp:=fun vs H Q _=>∃(sv rv:V) (l:Addr) (truth:Bool) (st:PG.bM) (bs:List PG.cD) (rs:List PG.Rg) (sg:W) (tl tr:PM.Tr),vs=[sv,.ref l,rv,.bl truth]/\Rep K H (cT st) sv/\jo st=some (sg,tl,tr)/\IA bs sg tl tr/\ET H l bs/\zL bs/\gH K H rv rs/\KY bs rs/\∀v H',ao H H'->oV K H' v (PG.dY bs rs sg tl tr truth)->Q v H'
def Cj (st:PG.bM) (x:Int):List Int:=((PG.cM st x).headD (0,.stop,[])).2.2
def HG:Sp:=fun vs H Q _=>∃(sv rv:V) (B:Addr) (behind row:Int) (st:PG.bM) (bs:List PG.cD) (rs:List PG.Rg),vs=[sv,.ref B,rv,.int behind]/\Rep K H (cT st) sv/\nX bs row st/\Rep K H (.lst (bs.map fK)) (.ref B)/\zL bs/\gH K H rv rs/\KY bs rs/\∀L us H',ao H H'->H L=none->H' L=some (.lst us)->i7 K H' us (PG.eV bs rs (Cj st behind) st)->Q (.ref L) H'
def iA:PM.Tr->List PM.Tr
 |.bin o l r=>.bin o l r::(iA l++iA r)
 |t=>[t]
def mO (n:Nat):Sp:=fun vs H Q _=>∃(v:V) (t:PM.Tr),vs=[v]/\Rep K H (eZ t) v/\(∀x∈iA t,∀o l r,x=.bin o l r->S o≠"box"/\S o≠"number")/\PG.c8 t<n/\PG.c8 t<=6/\∀L us H',ao H H'->H L=none->H' L=some (.lst us)->aC K H' ((iA t).map eZ) us->Q (.ref L) H'
def qv:Sp:=fun vs H Q _=>∃(pv rv:V) (pr:PG.Prog) (row:Int) (rs:List PG.Rg),vs=[pv,.int row,rv]/\Rep K H (gQ pr) pv/\PG.iu pr.body<=3/\(PG.dE pr.body).length<=1000/\sZ pr/\gH K H rv rs/\rs.length=pr.aA.length/\(∀b∈pr.aA,0<b.size/\b.size<=1000)/\
 ((row=0/\∀L H',ao H H'->H L=none->H' L=some (.lst [])->Q (.ref L) H')\/
  (row≠0/\∃(i:Nat) (hi:i<(PG.aD pr.body).length) (hf:i<(PG.aL pr.body 0).length),(PG.aD pr.body)[i].row=row/\Cf pr.aA rs (PG.aD pr.body)[i]/\0<(PG.aL pr.body 0)[i].2.2.length/\
   ∀L us H',ao H H'->H L=none->H' L=some (.lst us)->i7 K H' us (PG.eV pr.aA rs (PG.aL pr.body 0)[i].2.2 (PG.aD pr.body)[i])->Q (.ref L) H'))
def zP:Sp:=fun vs H Q _=>∃(pv v rv:V) (pr:PG.Prog) (t:PM.Tr) (rs:List PG.Rg),vs=[pv,v,rv]/\Rep K H (gQ pr) pv/\PG.iu pr.body<=3/\(PG.dE pr.body).length<=1000/\sZ pr/\Rep K H (eZ t) v/\gH K H rv rs/\rs.length=pr.aA.length/\oU pr.aA rs t/\PG.c8 t<=4/\∀u H',ao H H'->cc K H' u (PG.dC (PG.bT pr.aA rs) t)->Q u H'
end
theorem gH.of{K:PySem.W.Frag}{H:Hp}{rs:List PG.Rg}{v:V}(h:Rep K H (zN rs) v):gH K H v rs:=by
 unfold zN at h
 rw[Rep.aQ] at h
 obtain⟨a,xs,rfl,hS,hr⟩:=h
 have lx:xs.length=rs.length:=by rw[hr.length,List.length_map]
 refine⟨a,xs,rfl,hS,lx,fun i hi=>?_⟩
 have FF:i<rs.length:=by lia
 obtain⟨v,hv,rv⟩:=hr.get (i:=i) (d:=qu rs[i]) (by rw[List.getElem?_map,List.getElem?_eq_getElem FF];rfl)
 rw[List.getElem?_eq_getElem hi] at hv
 cases hv
 refine⟨rs[i],List.getElem?_eq_getElem FF,?_⟩
 simp only[qu,Rep.aQ,aC.az,aC.aV,Rep.aY] at rv
 obtain⟨b,ys,e,hT,_,_,rfl,rfl,_,_,rfl,rfl,rfl⟩:=rv
 exact⟨b,e,hT⟩
theorem cc.rep{K:PySem.W.Frag}{H:Hp}{r:PG.Rg}{v:V}(h:cc K H v r):Rep K H (qu r) v:=by
 obtain⟨a,rfl,q⟩:=h
 exact Rep.aQ.mpr ⟨a,_,rfl,q,.cons (Rep.aY.mpr rfl) (.cons (Rep.aY.mpr rfl) .nil)⟩
theorem yn{K:PySem.W.Frag}{H:Hp}{α:Type}{f:α->Dp}:∀ {rs:List α} {us:List V},us.length=rs.length->(∀i (hi:i<us.length),∃r,rs[i]?=some r/\Rep K H (f r) us[i])->aC K H (rs.map f) us
 |[],[],_,_=>.nil
 |r::rs,u::us,l,h=>by
  refine .cons ?_ (yn (by simpa using l) fun i hi=>?_)
  ·obtain⟨q,e,p⟩:=h 0 (by simp)
   cases e
   exact p
  ·obtain⟨q,e,p⟩:=h (i+1) (by simp;lia)
   exact⟨q,by simpa using e,by simpa using p⟩
theorem gH.rep{K:PySem.W.Frag}{H:Hp}{rs:List PG.Rg}{v:V}(h:gH K H v rs):Rep K H (zN rs) v:=by
 obtain⟨a,us,rfl,q,l,r⟩:=h
 exact Rep.aQ.mpr ⟨a,_,rfl,q,yn l fun i hi=>let ⟨x,e,p⟩:=r i hi;⟨x,e,p.rep⟩⟩
def wJ (w:Int×List PG.Rg):Dp:=.tup [.int w.1,zN w.2]
theorem i7.rep{K:PySem.W.Frag}{H:Hp}{us:List V}{ws:List (Int×List PG.Rg)}(h:i7 K H us ws):aC K H (ws.map wJ) us:=by
 induction h with
 |nil=>exact .nil
 |cons a _ ih=>
  refine .cons ?_ ih
  obtain⟨p,u,rfl,q,r⟩:=a
  exact Rep.aQ.mpr ⟨p,_,rfl,q,.cons (Rep.aY.mpr rfl) (.cons r.rep .nil)⟩
end L2
namespace L2
open PySem PyProof.Rows
theorem EV{l b:Addr}{a1 a2:Array Value}{n n2:Nat}{u u2:Obj}(c1:u.cls=.type "list")(d1:u.data=.seq a1 n)(c2:u2.cls=.type "list")(d2:u2.data=.seq a2 n2)(hc:a1.size+a2.size<=sizeLine) :
 Meets (Builtin.«list.__add__» ⟨[.ref l,.ref b],[]⟩) (fun _ R s=>(s.heap.get? l=some u/\s.heap.get? b=some u2)/\R (.ok (.ret (Value.ref s.heap.objs.size))) {s with heap:=s.heap.push {cls:=Value.type "list",data:=Data.seq (a1++a2)},toks:=s.toks}):=by
 obtain⟨cls,dd,data,sl⟩:=u
 obtain⟨Jz,JA,data2,Il⟩:=u2
 simp only at c1 d1 c2 d2
 subst c1 d1 c2 d2
 refine .of_wp fun prog w A R s h=>?_
 obtain⟨hp,g,d,tk,os⟩:=s
 obtain⟨⟨hl,hb⟩,h⟩:=h
 have f1:=AutoSeq1.sub_list_list
 wp_walk using wpAny_loadPart' hl,wpAny_loadPart' hb
 exact⟨_,rfl,h⟩
def KZ (K:PySem.W.Frag):R2:=fun x y H Q=>∃l b xs zs,x=.ref l/\y=.ref b/\eD K H l xs/\eD K H b zs/\xs.length+zs.length<=1000/\∀p,H p=none->Q (.ref p) (upd H p (.lst (xs++zs)))
theorem EW{X:Cx}:nj X (binaryOp .Add) (KZ X.K):=by
 intro pins s σ H x y v u Q I rx ry h
 obtain⟨l,b,xs,zs,rfl,rfl,hH,hB,hz,q⟩:=h
 cases rx
 cases ry
 obtain⟨bc,r,⟨o,n,e,c1,_,d1⟩,_⟩:=I.list hH
 obtain⟨j9,r2,⟨o2,n2,e2,c2,_,d2⟩,_⟩:=I.list hB
 have hl:=r.length
 have GY:=r2.length
 have line:sizeLine=2 ^ 24:=rfl
 refine concat_meets ⟨_,e,c1⟩ ⟨_,e2,c2⟩ noFill_list_add seq_list_add F.slot_list_add F.entry_list_add (F.args_list_add_2 _ _) (EV c1 d1 c2 d2 (by rw[List.size_toArray,List.size_toArray];lia)) ⟨⟨e,e2⟩,?_⟩
 have ea:bc.toArray++j9.toArray=(bc++j9).toArray:=by simp
 rw[ea]
 exact⟨.ref _,_,I.JK (t':=s.toks) (r.append r2) (by rw[List.length_append];lia),rfl,q _ I.fresh⟩
theorem vc{J:It}{D:Addr}{g:TG}{te:TE}{Q:VK}{τ0:St}{H:Hp}(G:St->Prop)(xs:List V)(Pv:Nat->List V->Hp->Prop)
 (go:∀i H2,ao H H2->i<xs.length->J.go i H2) (stop:∀H2,ao H H2->J.stop xs.length H2) (xr:∀i H2 x H3,ao H H2->i<xs.length->J.xr i H2 x H3->H3=H2/\xs[i]?=some x)
 (hl:xs.length<=16000000) (hD:H D=none) (g0:G τ0) (h0:Pv 0 [] (upd H D (.lst [])))
 (step:∀i x ys τ H2,xs[i]?=some x->G τ->ao H H2->H2 D=some (.lst ys)->ys.length=i->Pv i ys H2->∀R:St->VK,(∀τ' v H3,G τ'->ao H2 H3->Pv (i+1) (ys++[v]) (upd H3 D (.lst (ys++[v])))->R τ' v H3)->g x τ H2 fun τ' H'=>te τ' H' (R τ'))
 (q:∀ys H2,ao H H2->H2 D=some (.lst ys)->ys.length=xs.length->Pv xs.length ys H2->Q (.ref D) H2):lp J D g sW te Q τ0 (upd H D (.lst [])):=by
 refine⟨fun i m τ H2=>m=xs.length-i/\i<=xs.length/\G τ/\ao H H2/\∃ys,H2 D=some (.lst ys)/\ys.length=i/\Pv i ys H2,⟨xs.length,by simp,Nat.zero_le _,g0,ao.new hD _,[],aj,rfl,h0⟩,?_⟩
 rintro i m τ H2 ⟨rfl,hi,gt,s2,ys,h2,ly,p2⟩
 by_cases lR:i<xs.length
 ·refine .inr ⟨go i H2 s2 lR,fun τ' H'=>G τ'/\ao H H'/\∃ys,H' D=some (.lst ys)/\ys.length=i+1/\Pv (i+1) ys H',fun τ' H' ⟨h1,h3,h4⟩=>⟨xs.length-(i+1),by lia,rfl,lR,h1,h3,h4⟩,fun y H' hy=>?_⟩
  obtain⟨rfl,ey⟩:=xr i H2 y H' s2 lR hy
  simp only[sW,if_true]
  refine step i y ys τ _ ey gt s2 h2 ly p2 (fun τ' v H4=>_) fun τ' v H3 SR s3 p3=>⟨ys,s3 _ _ h2,?_,SR,?_,ys++[v],aj,by simp[ly],p3⟩
  ·have:sizeLine=2 ^ 24:=rfl
   lia
  ·intro b o e
   rw[aF (aB e hD)]
   exact s3 _ _ (s2 _ _ e)
 ·have e:i=xs.length:=by lia
  subst e
  exact .inl ⟨stop H2 s2,q ys H2 s2 h2 ly p2⟩
theorem zQ{K:PySem.W.Frag}{a D:Addr}{xs:List V}{g:TG}{te:TE}{Q:VK}{τ0:St}{H:Hp}(G:St->Prop)(Pv:Nat->List V->Hp->Prop)(hS:eD K H a xs)
 (hl:xs.length<=16000000) (hD:H D=none) (g0:G τ0) (h0:Pv 0 [] (upd H D (.lst [])))
 (step:∀i x ys τ H2,xs[i]?=some x->G τ->ao H H2->H2 D=some (.lst ys)->ys.length=i->Pv i ys H2->∀R:St->VK,(∀τ' v H3,G τ'->ao H2 H3->Pv (i+1) (ys++[v]) (upd H3 D (.lst (ys++[v])))->R τ' v H3)->g x τ H2 fun τ' H'=>te τ' H' (R τ'))
 (q:∀ys H2,ao H H2->H2 D=some (.lst ys)->ys.length=xs.length->Pv xs.length ys H2->Q (.ref D) H2):lp (yR K a) D g sW te Q τ0 (upd H D (.lst [])):=
 vc G xs Pv (fun i H2 s2 h=>⟨xs,xs[i],s2.seq hS,by simp[h]⟩) (fun H2 s2=>⟨xs,s2.seq hS,Nat.le_refl _⟩) (fun i H2 x H3 s2 h y=>⟨y.1,y.2 _ (s2.seq hS)⟩) hl hD g0 h0 step q
theorem sr{K:PySem.W.Frag}{a D:Addr}{xs:List V}{g:TG}{te:TE}{Q:VK}{τ0:St}{H:Hp}(G:St->Prop)(Pv:Nat->List V->Hp->Prop)(hS:bR K H a xs)
 (hl:xs.length<=16000000) (hD:H D=none) (g0:G τ0) (h0:Pv 0 [] (upd H D (.lst [])))
 (step:∀i x ys τ H2,xs[i]?=some x->G τ->ao H H2->H2 D=some (.lst ys)->ys.length=i->Pv i ys H2->∀R:St->VK,(∀τ' v H3,G τ'->ao H2 H3->Pv (i+1) (ys++[v]) (upd H3 D (.lst (ys++[v])))->R τ' v H3)->g x τ H2 fun τ' H'=>te τ' H' (R τ'))
 (q:∀ys H2,ao H H2->H2 D=some (.lst ys)->ys.length=xs.length->Pv xs.length ys H2->Q (.ref D) H2):lp (Dh K a) D g sW te Q τ0 (upd H D (.lst [])):=
 vc G xs Pv (fun i H2 s2 h=>⟨xs,xs[i],s2.bL hS,by simp[h]⟩) (fun H2 s2=>⟨xs,s2.bL hS,Nat.le_refl _⟩) (fun i H2 x H3 s2 h y=>⟨y.1,y.2 _ (s2.bL hS)⟩) hl hD g0 h0 step q
end L2
namespace L2
open PySem PyProof.Rows
theorem mM.ne{H:Hp}{s p:Addr}(h:mM H s)(hp:H p=none):p≠s:=by
 obtain⟨n,m,e⟩:=h
 exact(aB e hp).symm
theorem mM.new{H:Hp}{s p:Addr}(h:mM H s)(hp:H p=none)(o:HO):mM (upd H p o) s:=h.same (ao.new hp o)
theorem fP{K:PySem.W.Frag}{H:Hp}{s p:Addr}{ds:List Dp}{vs:List V}(h:mM H s)(hp:H p=none)(f:cb K (·=s) H ds vs):Fix K (·=s) (upd H p (.tup vs)) (.tup ds) (.ref p):=Fix.tup aj (h.ne hp) (f.up (.of (ao.new hp _)))
theorem wK{K:PySem.W.Frag}{H:Hp}{s p:Addr}{ds:List Dp}{vs:List V}(h:mM H s)(hp:H p=none)(f:cb K (·=s) H ds vs):Fix K (·=s) (upd H p (.lst vs)) (.lst ds) (.ref p):=Fix.lst aj (h.ne hp) (f.up (.of (ao.new hp _)))
theorem dQ{K:PySem.W.Frag}{H H1:Hp}{s:Addr}{d:Dp}{v:V}(f:Fix K (·=s) H d v)(u:bh s H H1):Fix K (·=s) H1 d v:=f.up (aX.one u rfl)
theorem k7{K:PySem.W.Frag}{H:Hp}{O:Addr->Prop}{B:Addr}{bs:List PG.cD}(h:gG K O H B bs):∃xs,eD K H B xs/\xs.length=bs.length:=let ⟨xs,a,b,_⟩:=h.list;⟨xs,a,b⟩
theorem su{bs:List PG.cD}{i:Int}(h0:0<=i)(h1:i<bs.length):(PG.pick ⟨[],0,0⟩ bs i).name∈bs.map (·.name):=List.mem_map.mpr ⟨_,PG.Bs _ h0 h1,rfl⟩
theorem oU.u{bs:List PG.cD}{rs:List PG.Rg}:∀ {t:PM.Tr},oU bs rs t->FZ (PG.bT bs rs) t
 |.num n,h=>h
 |.box x,h=>h.2
 |.bin o l r,h=>⟨oU.u h.2.1,oU.u h.2.2⟩
theorem gH.get{K:PySem.W.Frag}{H:Hp}{bs:List PG.cD}{rs:List PG.Rg}{rv:V}(h:gH K H rv rs)(ll:rs.length=bs.length){x:W}(hx:x∈bs.map (·.name)){Q:VK}(q:∀u,cc K H u (PG.bT bs rs x)->Q u H):uz K rv (.int (PG.jv bs x)) H Q:=by
 obtain⟨a,us,rfl,hS,l,g⟩:=h
 have lt:PG.jv bs x<bs.length:=by
  unfold PG.jv
  rw[List.findIdx_lt_length]
  obtain⟨b,hb,e⟩:=List.mem_map.mp hx
  exact⟨b,hb,by simp[e]⟩
 obtain⟨r,er,hr⟩:=g (PG.jv bs x) (by lia)
 refine aG hS (v:=us[PG.jv bs x]) (aw (List.getElem?_eq_getElem (by lia))) (q _ ?_)
 unfold PG.bT
 rw[List.getD_eq_getElem?_getD,er]
 exact hr
theorem EX{X:Cx}{K:PySem.W.Frag}(e:X.K=K)(n:Nat){es:List Expr}{k:Nat}{pos:Pos}{t:Dg}(hc:X.calm=true)(h:Ik X es t)
 (hn:(assignEach es X.env).length=n:=by rfl) (pL:(assignEach es X.env).findIdx? (·.1)=none:=by rfl):PG X (.Tuple es k pos) (Ee K n t):=e▸wa hc h hn pL
theorem qZ{X:Cx}{K:PySem.W.Frag}(e:X.K=K):gW X (.type "list") (fun xs H Q=>∃p ys,xs=[.ref p]/\(eD K H p ys\/bR K H p ys)/\∀l,H l=none->Q (.ref l) (upd H l (.lst ys))):=e▸jB
theorem Ck{X:Cx}{tg l:Expr}{tl:TE}{K:PySem.W.Frag}(e:X.K=K)(hl:PE X l tl):PI X tg l (ur K tl):=e▸cw hl
theorem wM(xs:List V){x:Int}(h:0<=x):gC xs none (some x)=xs.take x.toNat:=by
 obtain⟨j,rfl⟩:∃j:Nat,x=j:=⟨x.toNat,by lia⟩
 unfold gC
 rw[HT.pT,HT.mB,List.drop_zero,Nat.sub_zero,Int.toNat_natCast]
 by_cases h:j<=xs.length
 ·rw[Nat.min_eq_left h]
 ·rw[Nat.min_eq_right (by lia),List.take_length,List.take_of_length_le (by lia)]
theorem vd(xs:List V)(j:Nat):gC xs (some (j:Int)) none=xs.drop j:=by
 unfold gC
 rw[HT.pT,HT.mB]
 by_cases h:j<=xs.length
 ·rw[Nat.min_eq_left h,List.take_of_length_le (by rw[List.length_drop];lia)]
 ·rw[Nat.min_eq_right (by lia),List.drop_of_length_le (by lia),List.drop_of_length_le (by lia),List.take_nil]
end L2
namespace L2
open PySem PyProof.Rows
structure lZ(H:Hp)(ps:List Addr)(rs:List PG.Rg):Prop where
 l:ps.length=rs.length
 nd:ps.Nodup
 at_:∀j (hj:j<ps.length),∃r,rs[j]?=some r/\H ps[j]=some (.lst [.int r.1,.int r.2])
theorem lZ.up{H H':Hp}{ps:List Addr}{rs:List PG.Rg}(h:lZ H ps rs)(u:∀p o,p∈ps->H p=some o->H' p=some o):lZ H' ps rs:=
 ⟨h.l,h.nd,fun j hj=>let ⟨r,e,q⟩:=h.at_ j hj;⟨r,e,u _ _ (List.getElem_mem hj) q⟩⟩
theorem lZ.put{H H':Hp}{ps:List Addr}{rs:List PG.Rg}(h:lZ H ps rs){j:Nat}(hj:j<ps.length){r:PG.Rg}(u:bh ps[j] H H')(e:H' ps[j]=some (.lst [.int r.1,.int r.2])):lZ H' ps (rs.set j r):=by
 refine⟨by rw[List.length_set];exact h.l,h.nd,fun i hi=>?_⟩
 have lj:j<rs.length:=by rw[<- h.l];exact hj
 by_cases z:i=j
 ·subst z
  exact⟨r,by rw[List.getElem?_set_self lj],e⟩
 ·obtain⟨r1,e1,q1⟩:=h.at_ i hi
  refine⟨r1,by rw[List.getElem?_set_ne (Ne.symm z)];exact e1,u _ _ (fun y=>z ?_) q1⟩
  exact(List.getElem_inj h.nd).mp y
theorem lZ.snoc{H:Hp}{ps:List Addr}{rs:List PG.Rg}(h:lZ H ps rs){p:Addr}{r:PG.Rg}(np:p ∉ ps)(e:H p=some (.lst [.int r.1,.int r.2])):lZ H (ps++[p]) (rs++[r]):=by
 refine⟨by simp[h.l],List.nodup_append.mpr ⟨h.nd,by simp,fun a ha b hb=>?_⟩,fun i hi=>?_⟩
 ·rw[List.mem_singleton.mp hb]
  exact fun z=>np (z▸ha)
 ·by_cases z:i<ps.length
  ·obtain⟨r1,e1,q1⟩:=h.at_ i z
   exact⟨r1,by rw[List.getElem?_append_left (by rw[<- h.l];exact z)];exact e1,by rw[List.getElem_append_left z];exact q1⟩
  ·have:i=ps.length:=by simp at hi;lia
   subst this
   exact⟨r,by rw[List.getElem?_append_right (by rw[h.l];exact Nat.le_refl _),h.l];simp,by rw[List.getElem_append_right (Nat.le_refl _)];simp only[Nat.sub_self,List.getElem_singleton];exact e⟩
theorem Cm{K:PySem.W.Frag}{ta:TA}{g:TG}{tb:TS}{D:Ends}{σ:St}{H:Hp} (h:∀U:Addr->Hp->Prop,(∀a H1,(∃W:Nat->Nat->St->Hp->Prop,(∃m,W 0 m σ H1)/\∀i m σ H,W i m σ H->
 ((FP K a).stop i H/\D.nx σ H)\/((FP K a).go i H/\∃N:St->Hp->Prop,(∀σ' H',N σ' H'->∃m',m'<m/\W (i+1) m' σ' H')/\∀x H',(FP K a).xr i H x H'->g x σ H' fun σ2 H2=>tb {D with nx:=N,ct:=N,bk:=D.nx} σ2 H2))->U a H1)->
 ta σ H fun vs H1=>∃a,vs=[.ref a]/\(∃xs,eD K H1 a xs)/\U a H1):AF (FQ K ta) g tb D σ H:=h _ fun _ _ x=>x
theorem tG.put{K:PySem.W.Frag}{H:Hp}{us:List V}{rs:List PG.Rg}(h:tG K H us rs){j:Nat}{v:V}{r:PG.Rg}(g:cc K H v r):tG K H (us.set j v) (rs.set j r):=by
 refine⟨by rw[List.length_set,List.length_set];exact h.1,fun i hi=>?_⟩
 rw[List.length_set] at hi
 by_cases z:j=i
 ·subst z
  exact⟨r,by rw[List.getElem?_set_self (by rw[<- h.1];exact hi)],by rw[List.getElem_set_self];exact g⟩
 ·obtain⟨r1,e1,q1⟩:=h.2 i hi
  exact⟨r1,by rw[List.getElem?_set_ne z];exact e1,by rw[List.getElem_set_ne z];exact q1⟩
theorem lZ.nil{H:Hp}:lZ H [] []:=⟨rfl,List.nodup_nil,fun j hj=>by simp at hj⟩
theorem Cn{a b c d e:V}{r:List V}:gC (a::b::c::d::e::r) (some 2) (some 5)=[c,d,e]:=by
 show gC (a::b::c::d::e::r) (some ((2:Nat):Int)) (some ((5:Nat):Int))=[c,d,e]
 unfold gC
 rw[HT.mB,HT.mB]
 have l:(a::b::c::d::e::r).length=r.length+5:=rfl
 rw[l,Nat.min_eq_left (by lia),Nat.min_eq_left (by lia)]
 rfl
theorem wN{rs:List PG.Rg}(h:∀(j:Nat) (r:PG.Rg),rs[j]?=some r->¬r.1>r.2):PG.lE rs=some rs:=by
 unfold PG.lE
 rw[if_neg]
 rw[List.any_map,List.any_eq_true]
 rintro ⟨r,hr,e⟩
 obtain⟨j,hj⟩:=List.getElem?_of_mem hr
 simp only[Function.comp,id,decide_eq_true_eq] at e
 exact h j r hj e
theorem wO{rs:List PG.Rg}{j:Nat}{r:PG.Rg}(h:rs[j]?=some r)(e:r.1>r.2):PG.lE rs=none:=by
 unfold PG.lE
 rw[if_pos]
 rw[List.any_map,List.any_eq_true]
 exact⟨r,List.mem_of_getElem? h,by simp only[Function.comp,id,decide_eq_true_eq];exact e⟩
end L2
namespace L2
open PySem PyProof.Rows
theorem K0{K:PySem.W.Frag}:PySem.W.kitOne K (.type "str") (.type "tuple")=some false:=by kernel_rfl
theorem K1{K:PySem.W.Frag}:PySem.W.kitOne K (.type "list") (.type "tuple")=some false:=by kernel_rfl
theorem zR{X:Cx}:gW X (.builtin "isinstance") (fun xs H Q=>∃x,xs=[x,.ty "tuple"]/\((∃z,x=.str z/\Q (.bl false) H)\/(∃a l,x=.ref a/\bR X.K H a l/\Q (.bl true) H)\/∃a l,x=.ref a/\eD X.K H a l/\Q (.bl false) H)):=by
 intro pins s σ H xs us Q I r h
 obtain⟨x,rfl,h⟩:=h
 rcases h with ⟨z,rfl,q⟩ |⟨a,l,rfl,hS,q⟩ |⟨a,l,rfl,hS,q⟩
 ·exact uH pins s σ H _ us Q I r ⟨_,_,_,_,rfl,.str z,K0,q⟩
 ·exact Bp pins s σ H _ us Q I r ⟨a,_,l,_,rfl,hS,Kc,q⟩
 ·cases r with
  |cons r1 r2=>
   cases r2 with
   |cons r3 r4=>
    cases r4
    cases (show _=Value.ref a from r1)
    cases (show _=Value.type "tuple" from r3)
    obtain⟨bc,_,⟨o,n,h1,h2,_⟩,_⟩:=I.list hS
    exact PySem.W.kia_one PySem.W.kitx_list I.pz ⟨o,h1,h2⟩ K1 (fun z=>nomatch z) fun tk=>⟨.bl false,H,I.tok tk,rfl,q⟩
theorem i8{bs:List PG.cD}(cl:∀x∈bs.map (·.name),PyData.canLay0 (.str (S x))=true):∀t:PM.Tr,pe bs t->(eZ t).py.canLay0=true/\(eZ t).py.depth<=PG.c8 t+1
 |.num n,h=>by
  simp only[eZ,Dp.py,Dp.jh,PyData.canLay0,PyData.canLayAll0,PyData.depth,PyData.depthAll]
  exact⟨by decide +kernel,by simp⟩
 |.box x,h=>by
  rw[pe] at h
  have e:=cl x h
  simp only[PyData.canLay0] at e
  simp only[eZ,Dp.py,Dp.jh,PyData.canLay0,PyData.canLayAll0,PyData.depth,PyData.depthAll,e]
  exact⟨by decide +kernel,by simp⟩
 |.bin o l r,h=>by
  rw[pe] at h
  have e:=Hm o (by simpa using h.1)
  simp only[PyData.canLay0] at e
  obtain⟨l1,l2⟩:=i8 cl l h.2.1
  obtain⟨r1,r2⟩:=i8 cl r h.2.2
  simp only[eZ,Dp.py,Dp.jh,PyData.canLay0,PyData.canLayAll0,PyData.depth,PyData.depthAll,e,l1,r1,PG.c8]
  exact⟨rfl,by lia⟩
theorem wQ{sg:W}(h:sg=[60]\/sg=[61]):PyData.canLay0 (.str (S sg))=true:=by rcases h with rfl |rfl<;>decide +kernel
theorem Co{row:Int}{b:List PG.bM}(h:Ms row b):PyData.canLayAll0 (Dp.jh (ki b))=true/\PyData.depthAll (Dp.jh (ki b))<=2:=by
 rcases h with rfl |rfl
 ·simp[ki,Dp.jh,PyData.canLayAll0,PyData.depthAll]
 ·simp only[ki,cT,eZ,Dp.py,Dp.jh,PyData.canLay0,PyData.canLayAll0,PyData.depth,PyData.depthAll]
  exact⟨by decide +kernel,by simp⟩
theorem HH{row:Int}{b:List PG.bM}(h:Oe row b):PyData.canLayAll0 (Dp.jh (ki b))=true/\PyData.depthAll (Dp.jh (ki b))<=2:=by
 rcases h with rfl |rfl
 ·simp[ki,Dp.jh,PyData.canLayAll0,PyData.depthAll]
 ·simp only[ki,cT,eZ,Dp.py,Dp.jh,PyData.canLay0,PyData.canLayAll0,PyData.depth,PyData.depthAll]
  exact⟨by decide +kernel,by simp⟩
theorem HI{bs:List PG.cD}{row:Int}(cl:∀x∈bs.map (·.name),PyData.canLay0 (.str (S x))=true):∀st:PG.bM,nX bs row st->(cT st).py.canLay0=true/\(cT st).py.depth<=5:=by
 intro st h
 have w0:=BG st.wd
 simp only[PyData.canLay0] at w0
 cases st with
 |ask k b=>
  have e:=cl b h.2
  simp only[PyData.canLay0] at e
  simp only[cT,Dp.py,Dp.jh,PyData.canLay0,PyData.canLayAll0,PyData.depth,PyData.depthAll,e]
  exact⟨by decide +kernel,by simp⟩
 |put k b t=>
  have e:=cl b h.2.1
  simp only[PyData.canLay0] at e
  obtain⟨a1,a2⟩:=i8 cl t h.2.2.1
  have a3:=h.2.2.2
  simp only[cT,Dp.py,Dp.jh,PyData.canLay0,PyData.canLayAll0,PyData.depth,PyData.depthAll,e,a1]
  exact⟨by decide +kernel,by lia⟩
 |say k t=>
  obtain⟨a1,a2⟩:=i8 cl t h.2.1
  have a3:=h.2.2
  simp only[cT,Dp.py,Dp.jh,PyData.canLay0,PyData.canLayAll0,PyData.depth,PyData.depthAll,a1]
  exact⟨by decide +kernel,by lia⟩
 |stop k=>
  simp only[cT,Dp.py,Dp.jh,PyData.canLay0,PyData.canLayAll0,PyData.depth,PyData.depthAll]
  exact⟨by decide +kernel,by simp⟩
 |cE k sg l r=>
  obtain⟨_,hs,hl,hr,dl,dr⟩:=h
  have e:=wQ hs
  simp only[PyData.canLay0] at e
  obtain⟨a1,a2⟩:=i8 cl l hl
  obtain⟨b1,b2⟩:=i8 cl r hr
  simp only[cT,Dp.py,Dp.jh,PyData.canLay0,PyData.canLayAll0,PyData.depth,PyData.depthAll,e,a1,b1]
  exact⟨by decide +kernel,by lia⟩
 |gw k sg l r a=>
  obtain⟨_,⟨hs,hl,hr,dl,dr⟩,hi⟩:=h
  have e:=wQ hs
  simp only[PyData.canLay0] at e
  obtain⟨a1,a2⟩:=i8 cl l hl
  obtain⟨b1,b2⟩:=i8 cl r hr
  obtain⟨c1,c2⟩:=Co hi
  simp only[cT,Dp.py,Dp.jh,PyData.canLay0,PyData.canLayAll0,PyData.depth,PyData.depthAll,e,a1,b1,c1]
  exact⟨by decide +kernel,by lia⟩
 |ifs k sg l r a b=>
  obtain⟨_,⟨hs,hl,hr,dl,dr⟩,hi,he⟩:=h
  have e:=wQ hs
  simp only[PyData.canLay0] at e
  obtain⟨a1,a2⟩:=i8 cl l hl
  obtain⟨b1,b2⟩:=i8 cl r hr
  obtain⟨c1,c2⟩:=Co hi
  obtain⟨d1,d2⟩:=HH he
  simp only[cT,Dp.py,Dp.jh,PyData.canLay0,PyData.canLayAll0,PyData.depth,PyData.depthAll,e,a1,b1,c1,d1]
  exact⟨by decide +kernel,by lia⟩
theorem Cp:∀ {bs:List PG.cD},(∀x∈bs.map (·.name),PyData.canLay0 (.str (S x))=true)->PyData.canLayAll0 (Dp.jh (bs.map fK))=true/\PyData.depthAll (Dp.jh (bs.map fK))<=1
 |[],_=>by simp[Dp.jh,PyData.canLayAll0,PyData.depthAll]
 |b::bs,h=>by
  obtain⟨h1,h2⟩:=Cp (bs:=bs) fun x hx=>h x (by simp only[List.map_cons,List.mem_cons];exact .inr hx)
  have e:=h b.name (by simp)
  simp only[PyData.canLay0] at e
  simp only[List.map_cons,fK,Dp.jh,Dp.py,PyData.canLayAll0,PyData.depthAll,PyData.canLay0,PyData.depth,e,h1]
  exact⟨rfl,by lia⟩
theorem Cq:∀rs:List PG.Rg,PyData.canLayAll0 (Dp.jh (rs.map qu))=true/\PyData.depthAll (Dp.jh (rs.map qu))<=1
 |[]=>by simp[Dp.jh,PyData.canLayAll0,PyData.depthAll]
 |r::rs=>by
  obtain⟨h1,h2⟩:=Cq rs
  simp only[List.map_cons,qu,Dp.jh,Dp.py,PyData.canLayAll0,PyData.depthAll,PyData.canLay0,PyData.depth,h1]
  exact⟨rfl,by lia⟩
theorem Cr:∀ws:List (Int×List PG.Rg),PyData.canLayAll0 (Dp.jh (ws.map wJ))=true/\PyData.depthAll (Dp.jh (ws.map wJ))<=3
 |[]=>by simp[Dp.jh,PyData.canLayAll0,PyData.depthAll]
 |w::ws=>by
  obtain⟨h1,h2⟩:=Cr ws
  obtain⟨r1,r2⟩:=Cq w.2
  simp only[List.map_cons,wJ,zN,Dp.jh,Dp.py,PyData.canLayAll0,PyData.depthAll,PyData.canLay0,PyData.depth,h1,r1]
  exact⟨rfl,by lia⟩
theorem yo(ws:List (Int×List PG.Rg)):SeqAt.shaped (Dp.lst (ws.map wJ)).py=true:=by
 obtain⟨h1,h2⟩:=Cr ws
 unfold SeqAt.shaped
 rw[Dp.py,PyData.canLay0,h1,Bool.true_and,decide_eq_true_iff,PyData.depth]
 lia
theorem F3(r:PG.Rg):SeqAt.shaped (qu r).py=true:=rfl
end L2
namespace L2
open PySem PyProof.Rows
theorem nX.K2{bs:List PG.cD}{row:Int}{st:PG.bM}(h:nX bs row st):st.row=row:=by
 cases st<;>first |exact h.1 |exact h
theorem nX.rg{bs:List PG.cD}{rs:List PG.Rg}{row:Int}{st:PG.bM}(h:nX bs row st)(r:KY bs rs):Cf bs rs st:=by
 cases st with
 |ask k b=>exact h.2
 |put k b e=>exact⟨h.2.1,h.2.2.1.g r,Nat.le_trans h.2.2.2 (by decide)⟩
 |say k e=>trivial
 |stop k=>trivial
 |cE k sg a b=>exact⟨h.2.2.1.g r,h.2.2.2.1.g r,Nat.le_trans h.2.2.2.2.1 (by decide),Nat.le_trans h.2.2.2.2.2 (by decide)⟩
 |gw k sg a b i=>exact⟨h.2.1.2.1.g r,h.2.1.2.2.1.g r,Nat.le_trans h.2.1.2.2.2.1 (by decide),Nat.le_trans h.2.1.2.2.2.2 (by decide)⟩
 |ifs k sg a b i e=>exact⟨h.2.1.2.1.g r,h.2.1.2.2.1.g r,Nat.le_trans h.2.1.2.2.2.1 (by decide),Nat.le_trans h.2.1.2.2.2.2 (by decide)⟩
theorem EY(st:PG.bM)(x:Int):0<(Cj st x).length:=by cases st<;>simp[Cj,PG.cM]
theorem nX.SS{bs:List PG.cD}{row:Int}{st:PG.bM}(h:nX bs row st):∃r,PG.fX st=st::r/\(∀s∈r,row<s.row/\s.row<=row+3)/\r.Pairwise (fun a b=>a.row<b.row)/\r.length<=2/\PG.mG st<=1:=by
 cases st with
 |gw k sg a b i=>
  obtain⟨rfl,_,hi⟩:=h
  rcases hi with rfl |rfl
  ·exact⟨[],by simp[PG.fX,PG.aD],by simp,by simp,by simp,by simp[PG.mG,PG.iu]⟩
  ·exact⟨_,by simp[PG.fX,PG.aD];rfl,by simp[PG.bM.row];lia,by simp,by simp,by simp[PG.mG,PG.iu]⟩
 |ifs k sg a b i e=>
  obtain⟨rfl,_,hi,he⟩:=h
  rcases hi with rfl |rfl<;>rcases he with rfl |rfl
  ·exact⟨[],by simp[PG.fX,PG.aD],by simp,by simp,by simp,by simp[PG.mG,PG.iu]⟩
  ·exact⟨_,by simp[PG.fX,PG.aD];rfl,by simp[PG.bM.row];lia,by simp,by simp,by simp[PG.mG,PG.iu]⟩
  ·exact⟨_,by simp[PG.fX,PG.aD];rfl,by simp[PG.bM.row];lia,by simp,by simp,by simp[PG.mG,PG.iu]⟩
  ·exact⟨[.say (k+1) (.num 1),.stop (k+3)],by simp[PG.fX,PG.aD],by simp[PG.bM.row];lia,by simp[PG.bM.row],by simp,by simp[PG.mG,PG.iu]⟩
 |_=>exact⟨[],by simp[PG.fX],by simp,by simp,by simp,by simp[PG.mG]⟩
theorem EZ{bs:List PG.cD}{row behind:Int}{st:PG.bM}{body:List PG.bM}(ok:zL bs)(h:nX bs row st)(h0:0<row)(hb:(behind=0/\body=[st])\/(behind=row+9/\body=[st,.stop (row+9)])) :
 sZ ⟨bs,body⟩/\PG.iu body<=3/\(PG.dE body).length<=1000/\∃(hi:0<(PG.aD body).length) (hf:0<(PG.aL body 0).length),(PG.aD body)[0]=st/\(PG.aL body 0)[0].2.2=Cj st behind:=by
 obtain⟨r,er,hr,pr,lr,dr⟩:=h.SS
 have e0:=h.K2
 have ef:∃rr,PG.cM st behind=(PG.cM st behind).headD (0,.stop,[])::rr:=by cases st<;>simp[PG.cM]
 obtain⟨rr,ef⟩:=ef
 have Qu:(st::r).Pairwise (fun a b=>a.row<b.row):=List.pairwise_cons.mpr ⟨fun s hs=>by have:=hr s hs;lia,pr⟩
 have lf:∀b:List PG.bM,(PG.dE b).length=(PG.aD b).length:=fun b=>by rw[<- PG.eN,List.length_map]
 have o9:=ok.o9
 rcases hb with ⟨rfl,rfl⟩ |⟨rfl,rfl⟩
 ·have es:PG.aD [st]=st::r:=by simp[PG.aD,er]
  have K3:PG.aL [st] 0=PG.cM st 0:=by simp[PG.aL,PG.bz]
  refine⟨⟨by show (PG.aD [st]).Pairwise _;rw[es];exact Qu,ok.nb,by show bs.length<=10;lia,fun s hs=>?_⟩,by simp[PG.iu];lia,by rw[lf,es];simp;lia,by rw[es];simp,by rw[K3,ef];simp,by simp[es],?_⟩
  ·have hs:s∈PG.aD [st]:=hs
   rw[es] at hs
   rcases List.mem_cons.mp hs with rfl |hs
   ·lia
   ·have:=hr s hs;lia
  ·simp only[K3]
   rw[List.getElem_of_eq ef]
   rfl
 ·have es:PG.aD [st,.stop (row+9)]=st::(r++[.stop (row+9)]):=by simp[PG.aD,er,PG.fX]
  have K3:PG.aL [st,.stop (row+9)] 0=PG.cM st (row+9)++[(row+9,.stop,[0])]:=by simp[PG.aL,PG.bz,PG.cM,PG.bM.row]
  refine⟨⟨?_,ok.nb,by show bs.length<=10;lia,fun s hs=>?_⟩,by simp[PG.iu,PG.mG];lia,by rw[lf,es];simp;lia,by rw[es];simp,by rw[K3];simp,by simp[es],?_⟩
  ·show (PG.aD [st,.stop (row+9)]).Pairwise _
   rw[es,<- List.cons_append]
   refine List.pairwise_append.mpr ⟨Qu,by simp,fun a ha b hb=>?_⟩
   rw[List.mem_singleton.mp hb]
   show a.row<row+9
   rcases List.mem_cons.mp ha with rfl |ha
   ·lia
   ·have:=hr a ha;lia
  ·have hs:s∈PG.aD [st,.stop (row+9)]:=hs
   rw[es] at hs
   rcases List.mem_cons.mp hs with rfl |hs
   ·lia
   ·rcases List.mem_append.mp hs with hs |hs
    ·have:=hr s hs;lia
    ·rw[List.mem_singleton.mp hs]
     show 0<row+9
     lia
  ·simp only[K3]
   rw[List.getElem_append_left (by rw[ef];simp),List.getElem_of_eq ef]
   rfl
def Cs (K:PySem.W.Frag) (H:Hp) (bs:List PG.cD) (x:V):Prop:=(∃z,x=.str z)\/(∃e,Rep K H (eZ e) x/\pe bs e/\PG.c8 e<=2)\/∃l xs,x=.ref l/\eD K H l xs
theorem nX.parts{K:PySem.W.Frag}{H:Hp}{bs:List PG.cD}{row:Int}{st:PG.bM}{v:V}(h:nX bs row st)(r:Rep K H (cT st) v):∃a w k xs,v=.ref a/\bR K H a (w::k::xs)/\xs.length<=5/\∀x∈xs,Cs K H bs x:=by
 have lst:∀ {ds:List Dp} {x:V},Rep K H (.lst ds) x->Cs K H bs x:=fun h=>by
  obtain⟨l,xs,rfl,hl,_⟩:=Rep.bF.mp h
  exact .inr (.inr ⟨l,xs,rfl,hl⟩)
 cases st with
 |ask k b=>
  simp only[cT,Rep.aQ,aC.az,aC.aV,Rep.bu,Rep.aY] at r
  obtain⟨a,ys,rfl,hS,_,_,rfl,rfl,_,_,rfl,rfl,_,_,rfl,rfl,rfl⟩:=r
  refine⟨a,_,_,_,rfl,hS,by simp,fun x hx=>?_⟩
  rw[List.mem_singleton.mp hx]
  exact .inl ⟨_,rfl⟩
 |put k b e=>
  simp only[cT,Rep.aQ,aC.az,aC.aV,Rep.bu,Rep.aY] at r
  obtain⟨a,ys,rfl,hS,_,_,rfl,rfl,_,_,rfl,rfl,_,_,rfl,rfl,u,_,rfl,ru,rfl⟩:=r
  refine⟨a,_,_,_,rfl,hS,by simp,fun x hx=>?_⟩
  rcases List.mem_cons.mp hx with rfl |hx
  ·exact .inl ⟨_,rfl⟩
  ·rw[List.mem_singleton.mp hx]
   exact .inr (.inl ⟨e,ru,h.2.2⟩)
 |say k e=>
  simp only[cT,Rep.aQ,aC.az,aC.aV,Rep.bu,Rep.aY] at r
  obtain⟨a,ys,rfl,hS,_,_,rfl,rfl,_,_,rfl,rfl,u,_,rfl,ru,rfl⟩:=r
  refine⟨a,_,_,_,rfl,hS,by simp,fun x hx=>?_⟩
  rw[List.mem_singleton.mp hx]
  exact .inr (.inl ⟨e,ru,h.2⟩)
 |stop k=>
  simp only[cT,Rep.aQ,aC.az,aC.aV,Rep.bu,Rep.aY] at r
  obtain⟨a,ys,rfl,hS,_,_,rfl,rfl,_,_,rfl,rfl,rfl⟩:=r
  exact⟨a,_,_,_,rfl,hS,by simp,fun x hx=>by cases hx⟩
 |cE k sg l m=>
  simp only[cT,Rep.aQ,aC.az,aC.aV,Rep.bu,Rep.aY] at r
  obtain⟨a,ys,rfl,hS,_,_,rfl,rfl,_,_,rfl,rfl,_,_,rfl,rfl,vl,_,rfl,rl,vm,_,rfl,rm,rfl⟩:=r
  refine⟨a,_,_,_,rfl,hS,by simp,fun x hx=>?_⟩
  obtain⟨_,_,hl,hm,dl,dm⟩:=h
  simp only[List.mem_cons,List.not_mem_nil,or_false] at hx
  rcases hx with rfl |rfl |rfl
  ·exact .inl ⟨_,rfl⟩
  ·exact .inr (.inl ⟨_,rl,hl,dl⟩)
  ·exact .inr (.inl ⟨_,rm,hm,dm⟩)
 |gw k sg l m i=>
  simp only[cT,Rep.aQ,aC.az,aC.aV,Rep.bu,Rep.aY] at r
  obtain⟨a,ys,rfl,hS,_,_,rfl,rfl,_,_,rfl,rfl,_,_,rfl,rfl,vl,_,rfl,rl,vm,_,rfl,rm,vi,_,rfl,ri,rfl⟩:=r
  refine⟨a,_,_,_,rfl,hS,by simp,fun x hx=>?_⟩
  obtain⟨_,⟨_,hl,hm,dl,dm⟩,_⟩:=h
  simp only[List.mem_cons,List.not_mem_nil,or_false] at hx
  rcases hx with rfl |rfl |rfl |rfl
  ·exact .inl ⟨_,rfl⟩
  ·exact .inr (.inl ⟨_,rl,hl,dl⟩)
  ·exact .inr (.inl ⟨_,rm,hm,dm⟩)
  ·exact lst ri
 |ifs k sg l m i e=>
  simp only[cT,Rep.aQ,aC.az,aC.aV,Rep.bu,Rep.aY] at r
  obtain⟨a,ys,rfl,hS,_,_,rfl,rfl,_,_,rfl,rfl,_,_,rfl,rfl,vl,_,rfl,rl,vm,_,rfl,rm,vi,_,rfl,ri,ve,_,rfl,re,rfl⟩:=r
  refine⟨a,_,_,_,rfl,hS,by simp,fun x hx=>?_⟩
  obtain⟨_,⟨_,hl,hm,dl,dm⟩,_⟩:=h
  simp only[List.mem_cons,List.not_mem_nil,or_false] at hx
  rcases hx with rfl |rfl |rfl |rfl |rfl
  ·exact .inl ⟨_,rfl⟩
  ·exact .inr (.inl ⟨_,rl,hl,dl⟩)
  ·exact .inr (.inl ⟨_,rm,hm,dm⟩)
  ·exact lst ri
  ·exact lst re
theorem Ct(bs:List PG.cD)(rs:List PG.Rg)(ws:List Int)(st:PG.bM):(PG.eV bs rs ws st).length<=2:=by
 have h:∀f,(PG.fO f (ws.zip [true,false])).length<=2:=fun f=>by
  unfold PG.fO
  refine Nat.le_trans (List.length_filterMap_le _ _) ?_
  rw[List.length_zip]
  exact Nat.min_le_right _ _
 cases st<;>first |exact h _ |simp[PG.eV]
theorem pe.sub{bs:List PG.cD}:∀ {t:PM.Tr},pe bs t->∀x∈iA t,pe bs x/\PG.c8 x<=PG.c8 t/\∀o l r,x=.bin o l r->S o≠"box"/\S o≠"number"
 |.num n,h,x,hx=>by
  rw[iA,List.mem_singleton] at hx
  ·subst hx
   exact⟨h,Nat.le_refl _,fun o l r e=>by cases e⟩
  ·intro o l r z;cases z
 |.box n,h,x,hx=>by
  rw[iA,List.mem_singleton] at hx
  ·subst hx
   exact⟨h,Nat.le_refl _,fun o l r e=>by cases e⟩
  ·intro o l r z;cases z
 |.bin o l r,h,x,hx=>by
  rw[iA,List.mem_cons,List.mem_append] at hx
  rcases hx with rfl |hx |hx
  ·refine⟨h,Nat.le_refl _,fun o' l' r' e=>?_⟩
   cases e
   rcases h.1 with rfl |rfl |rfl<;>exact⟨by decide +kernel,by decide +kernel⟩
  ·obtain⟨a,b,c⟩:=pe.sub h.2.1 x hx
   exact⟨a,by rw[PG.c8];lia,c⟩
  ·obtain⟨a,b,c⟩:=pe.sub h.2.2 x hx
   exact⟨a,by rw[PG.c8];lia,c⟩
theorem E1{bs:List PG.cD}{row behind:Int}{st:PG.bM}{body:List PG.bM}(ok:zL bs)(h:nX bs row st)(hb:(behind=0/\body=[st])\/(behind=row+9/\body=[st,.stop (row+9)])):SeqAt.shaped (gQ ⟨bs,body⟩).py=true:=by
 obtain⟨h1,h2⟩:=Cp ok.cl
 obtain⟨c1,c2⟩:=HI ok.cl st h
 have hd:(cT (.stop (row+9))).py.canLay0=true/\(cT (.stop (row+9))).py.depth<=1:=by
  simp only[cT,Dp.py,Dp.jh,PyData.canLay0,PyData.canLayAll0,PyData.depth,PyData.depthAll]
  exact⟨by decide +kernel,by simp⟩
 obtain⟨d1,d2⟩:=hd
 unfold SeqAt.shaped
 rcases hb with ⟨_,rfl⟩ |⟨_,rfl⟩
 ·simp only[gQ,Dp.py,Dp.jh,List.map_cons,List.map_nil,PyData.canLay0,PyData.canLayAll0,PyData.depth,PyData.depthAll,h1,c1]
  simp only[Bool.and_self,Bool.true_and,decide_eq_true_iff]
  lia
 ·simp only[gQ,Dp.py,Dp.jh,List.map_cons,List.map_nil,PyData.canLay0,PyData.canLayAll0,PyData.depth,PyData.depthAll,h1,c1,d1]
  simp only[Bool.and_self,Bool.true_and,decide_eq_true_iff]
  lia
end L2
section
set_option maxHeartbeats 4000000
namespace HJ
open PySem L2
def top (i:Nat):Stmt:=PySem.Challenge.pw_everyrow_k34_ways_by_ranges.main.body.getD i (.Pass ⟨0,0,0,0⟩)
abbrev wR:Stmt:=top 2
abbrev iB:Stmt:=top 3
abbrev kB:Stmt:=top 4
abbrev i9:Stmt:=top 5
abbrev nY:Stmt:=top 6
abbrev kC:Stmt:=top 7
abbrev gR:Stmt:=top 8
abbrev nZ:Stmt:=top 11
abbrev l3:Stmt:=top 12
abbrev l6:Stmt:=top 13
abbrev ma:Stmt:=top 15
abbrev kD:Stmt:=top 16
abbrev me:Stmt:=top 17
abbrev n9:Stmt:=top 18
abbrev ja:Stmt:=top 19
abbrev jK:Stmt:=top 20
abbrev gd:Stmt:=top 21
abbrev gS:Stmt:=top 22
abbrev jb:Stmt:=top 23
abbrev gT:Stmt:=top 24
abbrev gf:Stmt:=top 25
abbrev eW:Stmt:=top 26
abbrev kE:Stmt:=top 28
abbrev jL:Stmt:=top 29
abbrev kF:Stmt:=top 30
abbrev qw:Stmt:=top 31
abbrev jc:Stmt:=top 32
abbrev gg:Stmt:=top 33
abbrev jd:Stmt:=top 34
abbrev kG:Stmt:=top 35
abbrev iC:Stmt:=top 36
abbrev kH:Stmt:=top 37
abbrev mf:Stmt:=top 38
abbrev jM:Stmt:=top 39
abbrev Cu:Stmt:=top 40
abbrev cA:Stmt:=inClass (top 10) 0
theorem yq:bj ["program"] ["program"] (aK wR):=⟨rfl,rfl,rfl,by decide +kernel,rfl,by decide +kernel,by decide +kernel⟩
theorem jV:bj ["body", "behind", "told", "place", "statement", "after", "inner"] ["body", "behind"] (aK iB):=⟨rfl,rfl,rfl,by decide +kernel,rfl,by decide +kernel,by decide +kernel⟩
theorem mQ:bj ["body", "behind"] ["body", "behind"] (aK kB):=⟨rfl,rfl,rfl,by decide +kernel,rfl,by decide +kernel,by decide +kernel⟩
theorem kI:bj ["statement", "after"] ["statement", "after"] (aK i9):=⟨rfl,rfl,rfl,by decide +kernel,rfl,by decide +kernel,by decide +kernel⟩
theorem qx:bj ["statement", "after", "word"] ["statement", "after"] (aK nY):=⟨rfl,rfl,rfl,by decide +kernel,rfl,by decide +kernel,by decide +kernel⟩
theorem mS:bj ["statement"] ["statement"] (aK kC):=⟨rfl,rfl,rfl,by decide +kernel,rfl,by decide +kernel,by decide +kernel⟩
theorem jq:bj ["body", "found", "statement", "inner"] ["body"] (aK gR):=⟨rfl,rfl,rfl,by decide +kernel,rfl,by decide +kernel,by decide +kernel⟩
theorem qy:bj ["chart", "row"] ["chart", "row"] (aK nZ):=⟨rfl,rfl,rfl,by decide +kernel,rfl,by decide +kernel,by decide +kernel⟩
theorem oX:bj ["chart", "parts"] ["chart", "parts"] (aK l3):=⟨rfl,rfl,rfl,by decide +kernel,rfl,by decide +kernel,by decide +kernel⟩
theorem oY:bj ["chart", "named"] ["chart", "named"] (aK l6):=⟨rfl,rfl,rfl,by decide +kernel,rfl,by decide +kernel,by decide +kernel⟩
theorem oZ:bj ["program", "e", "ranges"] ["program", "e", "ranges"] (aK ma):=⟨rfl,rfl,rfl,by decide +kernel,rfl,by decide +kernel,by decide +kernel⟩
theorem mT:bj ["program", "row", "ranges"] ["program", "row", "ranges"] (aK kD):=⟨rfl,rfl,rfl,by decide +kernel,rfl,by decide +kernel,by decide +kernel⟩
theorem o3:bj ["e", "named", "kind", "left", "right", "products"] ["e", "named"] (aK me):=⟨rfl,rfl,rfl,by decide +kernel,rfl,by decide +kernel,by decide +kernel⟩
theorem qz:bj ["chart", "row", "ranges", "word", "statement", "named"] ["chart", "row", "ranges"] (aK n9):=⟨rfl,rfl,rfl,by decide +kernel,rfl,by decide +kernel,by decide +kernel⟩
theorem kJ:bj ["size"] ["size"] (aK ja):=⟨rfl,rfl,rfl,by decide +kernel,rfl,by decide +kernel,by decide +kernel⟩
theorem lF:bj ["worths", "size"] ["worths", "size"] (aK jK):=⟨rfl,rfl,rfl,by decide +kernel,rfl,by decide +kernel,by decide +kernel⟩
theorem iU:bj ["chart", "row", "ranges", "told", "way", "truth", "narrowed"] ["chart", "row", "ranges"] (aK gd):=⟨rfl,rfl,rfl,by decide +kernel,rfl,by decide +kernel,by decide +kernel⟩
theorem jr:bj ["chart", "row", "truth", "ranges", "statement", "sign", "named", "left", "right", "name", "narrowed"] ["chart", "row", "truth", "ranges"] (aK gS):=⟨rfl,rfl,rfl,by decide +kernel,rfl,by decide +kernel,by decide +kernel⟩
theorem kK:bj ["sign", "truth", "left", "right"] ["sign", "truth", "left", "right"] (aK jb):=⟨rfl,rfl,rfl,by decide +kernel,rfl,by decide +kernel,by decide +kernel⟩
theorem js:bj ["sign", "truth", "own", "left", "right"] ["sign", "truth", "own", "left", "right"] (aK gT):=⟨rfl,rfl,rfl,by decide +kernel,rfl,by decide +kernel,by decide +kernel⟩
theorem iV:bj ["sign", "truth", "own", "left", "right"] ["sign", "truth", "own", "left", "right"] (aK gf):=⟨rfl,rfl,rfl,by decide +kernel,rfl,by decide +kernel,by decide +kernel⟩
theorem gI:bj ["truth", "own", "near", "far", "low", "high"] ["truth", "own", "near", "far"] (aK eW):=⟨rfl,rfl,rfl,by decide +kernel,rfl,by decide +kernel,by decide +kernel⟩
theorem mU:bj ["state", "many", "found"] ["state", "many"] (aK kE):=⟨rfl,rfl,rfl,by decide +kernel,rfl,by decide +kernel,by decide +kernel⟩
theorem lG:bj ["state", "names", "boxes", "name", "size"] ["state"] (aK jL):=⟨rfl,rfl,rfl,by decide +kernel,rfl,by decide +kernel,by decide +kernel⟩
theorem mV:bj ["state", "boxes"] ["state", "boxes"] (aK kF):=⟨rfl,rfl,rfl,by decide +kernel,rfl,by decide +kernel,by decide +kernel⟩
theorem sx:bj ["state", "boxes", "deep", "kind", "sign"] ["state", "boxes", "deep"] (aK qw):=⟨rfl,rfl,rfl,by decide +kernel,rfl,by decide +kernel,by decide +kernel⟩
theorem kL:bj ["state", "boxes"] ["state", "boxes"] (aK jc):=⟨rfl,rfl,rfl,by decide +kernel,rfl,by decide +kernel,by decide +kernel⟩
theorem iW:bj ["state", "boxes", "row", "kind", "name", "sign", "one", "other", "inner"] ["state", "boxes", "row"] (aK gg):=⟨rfl,rfl,rfl,by decide +kernel,rfl,by decide +kernel,by decide +kernel⟩
theorem kM:bj ["state", "boxes", "found", "name", "size", "first", "low", "high"] ["state", "boxes"] (aK jd):=⟨rfl,rfl,rfl,by decide +kernel,rfl,by decide +kernel,by decide +kernel⟩
theorem mW:bj ["e", "names", "ranges", "a", "b", "c", "d"] ["e", "names", "ranges"] (aK kG):=⟨rfl,rfl,rfl,by decide +kernel,rfl,by decide +kernel,by decide +kernel⟩
theorem jW:bj ["statement", "names", "ranges", "truth", "sign", "one", "other", "a", "b", "c", "d", "may", "new", "at", "e"] ["statement", "names", "ranges", "truth"] (aK iC):=⟨rfl,rfl,rfl,by decide +kernel,rfl,by decide +kernel,by decide +kernel⟩
theorem mX:bj ["pair", "its", "way", "sign", "truth", "is_left", "low", "high"] ["pair", "its", "way"] (aK kH):=⟨rfl,rfl,rfl,by decide +kernel,rfl,by decide +kernel,by decide +kernel⟩
theorem o4:bj ["statement", "boxes", "ranges", "behind", "names", "word", "at", "size", "pair", "low", "high", "goals", "found", "truth", "trimmed"] ["statement", "boxes", "ranges", "behind"] (aK mf):=⟨rfl,rfl,rfl,by decide +kernel,rfl,by decide +kernel,by decide +kernel⟩
theorem lH:bj ["e"] ["e"] (aK jM):=⟨rfl,rfl,rfl,by decide +kernel,rfl,by decide +kernel,by decide +kernel⟩
theorem Cv:bj ["script", "cell", "state", "boxes", "row", "statement", "behind", "body", "ranges", "program", "due", "found", "names", "part", "e"] ["script"] (aK Cu):=⟨rfl,rfl,rfl,by decide +kernel,rfl,by decide +kernel,by decide +kernel⟩
theorem lI:bj ["self", "program", "boxes", "body"] ["self", "program"] (aK cA):=⟨rfl,rfl,rfl,by decide +kernel,rfl,by decide +kernel,by decide +kernel⟩
set_option genInjectivity false in
structure Ad where
 og:Addr
 mY:FuncData
 cL:Addr
 cO:FuncData
 di:Addr
 dv:FuncData
 dI:Addr
 dZ:FuncData
 ic:Addr
 iD:FuncData
 d7:Addr
 eO:FuncData
 bW:Addr
 bZ:FuncData
 jt:Addr
 jN:FuncData
 iE:Addr
 iX:FuncData
 iF:Addr
 iY:FuncData
 iG:Addr
 iZ:FuncData
 gJ:Addr
 gZ:FuncData
 fw:Addr
 fE:FuncData
 ju:Addr
 jO:FuncData
 e6:Addr
 fQ:FuncData
 fR:Addr
 gy:FuncData
 dc:Addr
 dR:FuncData
 dF:Addr
 eP:FuncData
 fc:Addr
 fS:FuncData
 dG:Addr
 eQ:FuncData
 df:Addr
 dS:FuncData
 cv:Addr
 cW:FuncData
 gK:Addr
 g7:FuncData
 fT:Addr
 gA:FuncData
 gL:Addr
 g8:FuncData
 iH:Addr
 ie:FuncData
 fe:Addr
 fU:FuncData
 dg:Addr
 dU:FuncData
 ff:Addr
 fV:FuncData
 d9:Addr
 eS:FuncData
 ee:Addr
 fk:FuncData
 gM:Addr
 g9:FuncData
 iI:Addr
 i0:FuncData
 dw:Addr
 dJ:FuncData
 yt:Addr
 oh:FuncData
 cB:Addr
 je:FuncData
 aS:Addr
set_option genInjectivity false in
structure Tx(K:PySem.W.Frag)(mg:Str->Option Value)(t:Ad):Prop where
 om:b8 K mg "flow" wR ["program"] t.og t.mY
 bU:b8 K mg "flow_of_body" iB ["body", "behind"] t.cL t.cO
 bD:b8 K mg "first_row" kB ["body", "behind"] t.di t.dv
 dM:b8 K mg "behind_body" i9 ["statement", "after"] t.dI t.dZ
 ig:b8 K mg "ways_of" nY ["statement", "after"] t.ic t.iD
 cX:b8 K mg "bodies_in" kC ["statement"] t.d7 t.eO
 bO:b8 K mg "statements_in" gR ["body"] t.bW t.bZ
 ij:b8 K mg "word_at" nZ ["chart", "row"] t.jt t.jN
 cn:b8 K mg "by_names" l3 ["chart", "parts"] t.iE t.iX
 dy:b8 K mg "in_order" l6 ["chart", "named"] t.iF t.iY
 gh:b8 K mg "range_of" ma ["program", "e", "ranges"] t.iG t.iZ
 bX:b8 K mg "ways_from" kD ["program", "row", "ranges"] t.gJ t.gZ
 bB:b8 K mg "range_by" me ["e", "named"] t.fw t.fE
 ik:b8 K mg "ways_by" n9 ["chart", "row", "ranges"] t.ju t.jO
 cf:b8 K mg "whole_range" ja ["size"] t.e6 t.fQ
 eT:b8 K mg "rest_range" jK ["worths", "size"] t.fR t.gy
 cF:b8 K mg "condition_ways" gd ["chart", "row", "ranges"] t.dc t.dR
 cP:b8 K mg "ranges_behind" gS ["chart", "row", "truth", "ranges"] t.dF t.eP
 dN:b8 K mg "may_be_gone" jb ["sign", "truth", "left", "right"] t.fc t.fS
 cQ:b8 K mg "narrowed_left" gT ["sign", "truth", "own", "left", "right"] t.dG t.eQ
 cG:b8 K mg "narrowed_right" gf ["sign", "truth", "own", "left", "right"] t.df t.dS
 bE:b8 K mg "narrowed_by_equal" eW ["truth", "own", "near", "far"] t.cv t.cW
 aq:b8 K mg "_law_take" kE ["state", "many"] t.gK t.g7
 eU:b8 K mg "_law_boxes" jL ["state"] t.fT t.gA
 cY:b8 K mg "_law_leaf" kF ["state", "boxes"] t.gL t.g8
 bY:b8 K mg "_law_e" qw ["state", "boxes", "deep"] t.iH t.ie
 cg:b8 K mg "_law_e_side" jc ["state", "boxes"] t.fe t.fU
 cH:b8 K mg "_law_statement" gg ["state", "boxes", "row"] t.dg t.dU
 dO:b8 K mg "_law_ranges" jd ["state", "boxes"] t.ff t.fV
 bq:b8 K mg "_law_span" kG ["e", "names", "ranges"] t.d9 t.eS
 dh:b8 K mg "_law_trimmed" iC ["statement", "names", "ranges", "truth"] t.ee t.fk
 fF:b8 K mg "_law_trim" kH ["pair", "its", "way"] t.gM t.g9
 gi:b8 K mg "_law_due" mf ["statement", "boxes", "ranges", "behind"] t.iI t.i0
 bP:b8 K mg "_law_parts" jM ["e"] t.dw t.dJ
 yu:b8 K mg "law" Cu ["script"] t.yt t.oh
 hC:Dj K "__init__" "Chart.__init__" cA t.cB t.je
 mZ:Binds K t.je ["self", "program"] []
 cZ:DF K t.aS
 vf:mg "Chart"=some (.ref t.aS)
 m3:Mk K t.aS t.cB
 eu:gP K t.aS "names"
 eA:gP K t.aS "sizes"
 iJ:gP K t.aS "first"
 bV:gP K t.aS "statements"
 fg:gP K t.aS "ways"
 tJ:∃u,mg "END"=some u/\RelV (.int 0) u
 vg:mg "len"=none
 jX:mg "int"=none
 oo:mg "dict"=none
 ou:mg "list"=none
 jP:mg "tuple"=none
 Cw:mg "any"=none
 jY:mg "max"=none
 jZ:mg "min"=none
 hG:mg "isinstance"=none
 i3:mg "enumerate"=none
 yv:mg "zip"=none
end HJ
end
section
set_option maxHeartbeats 4000000
namespace HJ
open PySem L2
local macro_rules | `(tactic|walk_at "rd")=>`(tactic|((try dsimp only[AI,AL,Fm,Je,Ay,M9,Gy,AB,Jh,Nr,JG,Nl,AO,sP,Fy,GK,uv,xB,xy,PH,rU,J8,ur,Fq,Ft,Fo,AA,Fn,GC,AD,GB,GD,FG,Dx,Dy,xJ,FI,A3,A4,A5,A6,A7,A8,A9,Ba,Bb,Bc,xV,xW,xX,x8,yb,Ee,JW,Gz,Az,AE,il,FJ,FK,List.set,xK,xM,Be,xP,xQ,uI,tm,BY,BZ,B0,xR,FL,JY,Bl,Bf,Bg,M8,List.nil_append,List.cons_append,List.length_cons,List.length_nil,Bh,Bi,B4,B5,xN]);(try simp only[AI,AL,Fm,Je,Ay,M9,Gy,AB,Jh,Nr,JG,Nl,AO,sP,Fy,GK,uv,xB,xy,PH,rU,J8,ur,Fq,Ft,Fo,AA,Fn,G3,G4,GC,AD,GB,GD,FG,Dx,Dy,xJ,FI,A3,A4,A5,A6,A7,A8,A9,Ba,Bb,Bc,xV,xW,xX,x8,yb,Ee,JW,Gz,Az,AE,il,JV,NF,FJ,FK,JX,DU,Bd,G5,G6,List.set,xK,xM,Be,xP,xQ,uI,tm,BY,BZ,B0,xR,FL,JY,Bl,Bf,Bg,M8,List.append_nil,List.nil_append,List.cons_append,DW,DX,true_and,and_true,List.length_cons,List.length_nil,DY,Bh,Bi,B4,B5,xN,Int.reduceLT,Int.reduceLE,Nat.reduceLeDiff,Nat.reduceAdd,and_self])))
section
variable{P:Program}{w:World}{K:PySem.W.Frag}{mg:Str->Option Value}{base:Heap}{t:Ad}
theorem kN(T:Tx K mg t):bJ P w K mg base eY 1 t.e6 t.fQ ["size"] (zJ K):=by
 refine T.cf.F.j4 kJ (fun vs H Q E h=>?_) (fun eE A outer s H vs Q E hr h=>?_)
 ·obtain⟨_,rfl,_⟩:=h
  rfl
 obtain⟨size,rfl,q⟩:=h
 have nd:=kJ.nd
 refine⟨_,[some (.int size)],(ar (aI (aZ (aa ah (aa (bg dW (pv 0) ah) ag bG) aR)))),rfl,?_⟩
 walk_at "rd"
 intro p hp
 exact q _ _ (ao.new hp _) (.new rfl)
theorem q0(T:Tx K mg t):bJ P w K mg base eY 2 t.fR t.gy ["worths", "size"] (B9 K):=by
 have jf:=kN (P:=P) (w:=w) (base:=base) T
 refine T.eT.F.j4 lF (fun vs H Q E h=>?_) (fun eE A outer s H vs Q E hr h=>?_)
 ·obtain⟨_,_,_,rfl,_⟩:=h
  rfl
 obtain⟨_,r,size,rfl,⟨a,rfl,ha⟩,h0,h1,q⟩:=h
 have nd:=lF.nd
 refine⟨_,[some (.ref a),some (.int size)],(ak (bw (aE bC (bg kU (av au (pv 0) ah ai) (pv 1)) (bg kU (av au (pv 0) ah ai) (pv 1)) (aH _))
 (ar (aI (aZ (aa (bg jx (av au (pv 0) ah ai) (pv 1)) (aa (bg jx (av au (pv 0) ah ai) (pv 1)) ag bG) bG))))
 aN)
 (ar (aI (ay jf (hr.mono (by first|decide|omega)) rfl T.cf.m T.cf.F.kp T.cf.b .nil aT (aa (pv 1) ag ae))))),rfl,?_⟩
 unfold PG.qr at q
 walk_at "rd"
 refine jU ha ⟨_,_,rfl,rfl,⟨h0,by lia⟩,j5 ha ⟨_,_,rfl,rfl,⟨h0,by lia⟩,rfl,fG (fun e=>?_) (fun e=>?_)⟩⟩
 ·rw[if_pos (V.int.inj e)] at q
  exact jU ha ⟨_,_,rfl,rfl,h0,j5 ha ⟨_,_,rfl,rfl,h0,fun p hp=>q _ _ (ao.new hp _) (.new rfl)⟩⟩
 ·rw[if_neg (fun z=>e (congrArg V.int z))] at q
  exact⟨size,rfl,q⟩
theorem qA(T:Tx K mg t):bJ P w K mg base eY 1 t.fc t.fS ["sign", "truth", "left", "right"] (KO K):=by
 refine T.dN.F.j4 kK (fun vs H Q E h=>?_) (fun eE A outer s H vs Q E hr h=>?_)
 ·obtain⟨_,_,_,_,_,_,rfl,_⟩:=h
  rfl
 obtain⟨sg,truth,_,_,l,r,rfl,⟨la,rfl,hl⟩,⟨ra,rfl,nr⟩,q⟩:=h
 have nd:=kK.nd
 refine⟨_,[some (.str (S sg)),some (.bl truth),some (.ref la),some (.ref ra)],(ak (bw (PW.pt (pw_and (aE bC (pv 0) bf (aH _)) (pw_and1 (fq (pv 1)))))
 (ar (aI (du pO (av au (pv 2) ah ai) (av au (pv 3) ah ai) (aH _))))
 aN)
 (ak (bw (aE bC (pv 0) bf (aH _))
 (ar (aI (du Fv (av au (pv 2) ah ai) (av au (pv 3) ah ai) (aH _))))
 aN)
 (ak (bw (fq (pv 1))
 (ar (aI (du Fu (bH (fz rfl) rfl T.jY PyProof.Rows.Boot.«max» (aa (av au (pv 2) ah ai) (aa (av au (pv 3) ah ai) ag aO) aO)) (bH (fA rfl) rfl T.jZ PyProof.Rows.Boot.«min» (aa (av au (pv 2) ah ai) (aa (av au (pv 3) ah ai) ag aO) aO)) (aH _))))
 aN)
 (ar (aI (pK (so bC (av au (pv 2) ah ai) (av au (pv 2) ah ai) (av au (pv 3) ah ai) (av au (pv 3) ah ai)))))))),rfl,?_⟩
 have l1:(S sg=Str.ofString "<")↔sg=[60]:=by rw[show (Str.ofString "<":Str)=S [60] from rfl,jS]
 walk_at "rd"
 by_cases e:sg=[60]
 ·rw[decide_eq_true e] at q
  cases truth with
  |true=>exact(if_pos (l1.mpr e)).mpr ((if_pos rfl).mpr (jU hl (j5 nr ⟨_,_,rfl,rfl,q⟩)))
  |false=>exact(if_pos (l1.mpr e)).mpr ((if_neg Bool.false_ne_true).mpr ((if_pos (l1.mpr e)).mpr (j5 hl (jU nr ⟨_,_,rfl,rfl,q⟩))))
 ·rw[decide_eq_false e] at q
  refine(if_neg (fun z=>e (l1.mp z))).mpr ((if_neg Bool.false_ne_true).mpr ((if_neg (fun z=>e (l1.mp z))).mpr ?_))
  cases truth with
  |true=>
   refine(if_pos rfl).mpr (jU hl (jU nr ⟨_,_,rfl,j5 hl (j5 nr ⟨_,_,rfl,?_⟩)⟩))
   rw[max2,min2]
   exact q
  |false=>
   refine(if_neg Bool.false_ne_true).mpr (jU hl (j5 hl ⟨rfl,?_⟩))
   replace q:Q (V.bl (!(decide (l.1=l.2)&&decide (l.2=r.1)&&decide (r.1=r.2)))) H:=q
   by_cases e1:l.1=l.2
   ·refine(if_pos (congrArg V.int e1)).mpr (jU nr ⟨rfl,?_⟩)
    rw[decide_eq_true e1,Bool.true_and] at q
    by_cases e2:l.2=r.1
    ·refine(if_pos (congrArg V.int e2)).mpr (j5 nr ⟨rfl,?_⟩)
     rw[decide_eq_true e2,Bool.true_and] at q
     rw[show decide (V.int r.1=V.int r.2)=decide (r.1=r.2) from decide_eq_decide.mpr ⟨V.int.inj,congrArg V.int⟩]
     exact q
    ·rw[decide_eq_false e2] at q
     exact(if_neg (fun z=>e2 (V.int.inj z))).mpr q
   ·rw[decide_eq_false e1] at q
    exact(if_neg (fun z=>e1 (V.int.inj z))).mpr q
theorem gN(T:Tx K mg t):bJ P w K mg base eY 1 t.cv t.cW ["truth", "own", "near", "far"] (Hw K):=by
 refine T.bE.F.j4 gI (fun vs H Q E h=>?_) (fun eE A outer s H vs Q E hr h=>?_)
 ·obtain⟨_,_,_,_,_,_,_,rfl,_⟩:=h
  rfl
 obtain⟨truth,_,_,_,own,near,Am,rfl,⟨oa,rfl,ho⟩,⟨na,rfl,hn⟩,⟨fa,rfl,hf⟩,q⟩:=h
 have nd:=gI.nd
 refine⟨_,[some (.bl truth),some (.ref oa),some (.ref na),some (.ref fa),none,none],(ak (bw (fq (pv 0))
 (ar (aI (aZ (aa (bH (fz rfl) rfl T.jY PyProof.Rows.Boot.«max» (aa (av au (pv 2) ah ai) (aa (av au (pv 3) ah ai) ag aO) aO)) (aa (bH (fA rfl) rfl T.jZ PyProof.Rows.Boot.«min» (aa (av au (pv 2) ah ai) (aa (av au (pv 3) ah ai) ag aO) aO)) ag bo) bo))))
 aN)
 (ak (bw (aE Jo (av au (pv 3) ah ai) (av au (pv 3) ah ai) (aH _))
 (ar (aI (pv 1)))
 aN)
 (ak (aP (i:=4) nd rfl (Or.inl rfl) (uo (aE bC (av au (pv 1) ah ai) (av au (pv 3) ah ai) (aH _)) (bg dq (av au (pv 1) ah ai) ah) (av au (pv 1) ah ai)))
 (ak (aP (i:=5) nd rfl (Or.inl rfl) (uo (aE bC (av au (pv 1) ah ai) (av au (pv 3) ah ai) (aH _)) (bg dW (av au (pv 1) ah ai) ah) (av au (pv 1) ah ai)))
 (ar (aI (aZ (aa (pv 4) (aa (pv 5) ag ae) ae)))))))),rfl,?_⟩
 refine ax fun U1 gk=>?_
 walk_at "rd"
 cases truth with
 |true=>
  refine(if_pos rfl).mpr (jU hn (jU hf ⟨_,_,rfl,j5 hn (j5 hf ⟨_,_,rfl,fun p hp=>?_⟩)⟩))
  rw[max2,min2]
  exact q _ _ (ao.new hp _) (.new rfl)
 |false=>
  refine(if_neg Bool.false_ne_true).mpr ((gk _ _).mpr ?_)
  unfold B8 PG.iy at q
  simp only[Bool.false_eq_true,if_false] at q
  walk_at "rd"
  refine jU hf (j5 hf ⟨rfl,?_⟩)
  by_cases e:Am.1=Am.2
  ·rw[if_pos e] at q
   refine(if_pos (congrArg V.int e)).mpr (jU ho (jU hf ⟨rfl,?_⟩))
   by_cases e1:own.1=Am.1
   ·rw[if_pos e1] at q
    refine(if_pos (congrArg V.int e1)).mpr (jU ho ⟨_,_,rfl,rfl,j5 ho (jU hf ⟨rfl,?_⟩)⟩)
    by_cases e2:own.2=Am.1
    ·rw[if_pos e2] at q
     exact(if_pos (congrArg V.int e2)).mpr (j5 ho ⟨_,_,rfl,rfl,fun p hp=>q _ _ (ao.new hp _) (.new rfl)⟩)
    ·rw[if_neg e2] at q
     exact(if_neg (fun z=>e2 (V.int.inj z))).mpr (j5 ho fun p hp=>q _ _ (ao.new hp _) (.new rfl))
   ·rw[if_neg e1] at q
    refine(if_neg (fun z=>e1 (V.int.inj z))).mpr (jU ho (j5 ho (jU hf ⟨rfl,?_⟩)))
    by_cases e2:own.2=Am.1
    ·rw[if_pos e2] at q
     exact(if_pos (congrArg V.int e2)).mpr (j5 ho ⟨_,_,rfl,rfl,fun p hp=>q _ _ (ao.new hp _) (.new rfl)⟩)
    ·rw[if_neg e2] at q
     exact(if_neg (fun z=>e2 (V.int.inj z))).mpr (j5 ho fun p hp=>q _ _ (ao.new hp _) (.new rfl))
  ·rw[if_neg e] at q
   exact(if_neg (fun z=>e (V.int.inj z))).mpr (q _ _ (ao.refl _) ⟨_,rfl,ho⟩)
theorem ow(T:Tx K mg t):bJ P w K mg base eY 2 t.dG t.eQ ["sign", "truth", "own", "left", "right"] (Hy K):=by
 have eX:=gN (P:=P) (w:=w) (base:=base) T
 refine T.cQ.F.j4 js (fun vs H Q E h=>?_) (fun eE A outer s H vs Q E hr h=>?_)
 ·obtain⟨_,_,_,_,_,_,_,_,rfl,_⟩:=h
  rfl
 obtain⟨sg,truth,_,_,_,own,l,r,rfl,⟨oa,rfl,ho⟩,⟨la,rfl,hl⟩,⟨ra,rfl,nr⟩,q⟩:=h
 have nd:=js.nd
 refine⟨_,[some (.str (S sg)),some (.bl truth),some (.ref oa),some (.ref la),some (.ref ra)],(ak (bw (PW.pt (pw_and (aE bC (pv 0) bf (aH _)) (pw_and1 (fq (pv 1)))))
 (ar (aI (aZ (aa (av au (pv 2) ah ai) (aa (bH (fA rfl) rfl T.jZ PyProof.Rows.Boot.«min» (aa (av au (pv 2) ah ai) (aa (bg dW (av au (pv 4) ah ai) ah) ag bG) aO)) ag bo) aO))))
 aN)
 (ak (bw (aE bC (pv 0) bf (aH _))
 (ar (aI (aZ (aa (bH (fz rfl) rfl T.jY PyProof.Rows.Boot.«max» (aa (av au (pv 2) ah ai) (aa (av au (pv 4) ah ai) ag aO) aO)) (aa (av au (pv 2) ah ai) ag aO) bo))))
 aN)
 (ar (aI (ay eX (hr.mono (by first|decide|omega)) rfl T.bE.m T.bE.F.kp T.bE.b .nil aT (aa (pv 1) (aa (pv 2) (aa (pv 3) (aa (pv 4) ag ae) ae) ae) ae)))))),rfl,?_⟩
 have l1:(S sg=Str.ofString "<")↔sg=[60]:=by rw[show (Str.ofString "<":Str)=S [60] from rfl,jS]
 walk_at "rd"
 by_cases e:sg=[60]
 ·rw[decide_eq_true e] at q
  cases truth with
  |true=>
   refine(if_pos (l1.mpr e)).mpr ((if_pos rfl).mpr (jU ho (j5 ho (j5 nr ⟨_,_,rfl,rfl,_,_,rfl,fun p hp=>?_⟩))))
   rw[min2]
   exact q _ _ (ao.new hp _) (.new rfl)
  |false=>
   refine(if_pos (l1.mpr e)).mpr ((if_neg Bool.false_ne_true).mpr ((if_pos (l1.mpr e)).mpr (jU ho (jU nr ⟨_,_,rfl,j5 ho fun p hp=>?_⟩))))
   rw[max2]
   exact q _ _ (ao.new hp _) (.new rfl)
 ·rw[decide_eq_false e] at q
  exact(if_neg (fun z=>e (l1.mp z))).mpr ((if_neg Bool.false_ne_true).mpr ((if_neg (fun z=>e (l1.mp z))).mpr ⟨truth,_,_,_,own,l,r,rfl,⟨_,rfl,ho⟩,⟨_,rfl,hl⟩,⟨_,rfl,nr⟩,q⟩))
theorem m4(T:Tx K mg t):bJ P w K mg base eY 2 t.df t.dS ["sign", "truth", "own", "left", "right"] (Hz K):=by
 have eX:=gN (P:=P) (w:=w) (base:=base) T
 refine T.cG.F.j4 iV (fun vs H Q E h=>?_) (fun eE A outer s H vs Q E hr h=>?_)
 ·obtain⟨_,_,_,_,_,_,_,_,rfl,_⟩:=h
  rfl
 obtain⟨sg,truth,_,_,_,own,l,r,rfl,⟨oa,rfl,ho⟩,⟨la,rfl,hl⟩,⟨ra,rfl,nr⟩,q⟩:=h
 have nd:=iV.nd
 refine⟨_,[some (.str (S sg)),some (.bl truth),some (.ref oa),some (.ref la),some (.ref ra)],(ak (bw (PW.pt (pw_and (aE bC (pv 0) bf (aH _)) (pw_and1 (fq (pv 1)))))
 (ar (aI (aZ (aa (bH (fz rfl) rfl T.jY PyProof.Rows.Boot.«max» (aa (av au (pv 2) ah ai) (aa (bg dq (av au (pv 3) ah ai) ah) ag bG) aO)) (aa (av au (pv 2) ah ai) ag aO) bo))))
 aN)
 (ak (bw (aE bC (pv 0) bf (aH _))
 (ar (aI (aZ (aa (av au (pv 2) ah ai) (aa (bH (fA rfl) rfl T.jZ PyProof.Rows.Boot.«min» (aa (av au (pv 2) ah ai) (aa (av au (pv 3) ah ai) ag aO) aO)) ag bo) aO))))
 aN)
 (ar (aI (ay eX (hr.mono (by first|decide|omega)) rfl T.bE.m T.bE.F.kp T.bE.b .nil aT (aa (pv 1) (aa (pv 2) (aa (pv 4) (aa (pv 3) ag ae) ae) ae) ae)))))),rfl,?_⟩
 have l1:(S sg=Str.ofString "<")↔sg=[60]:=by rw[show (Str.ofString "<":Str)=S [60] from rfl,jS]
 walk_at "rd"
 by_cases e:sg=[60]
 ·rw[decide_eq_true e] at q
  cases truth with
  |true=>
   refine(if_pos (l1.mpr e)).mpr ((if_pos rfl).mpr (jU ho (jU hl ⟨_,_,rfl,rfl,_,_,rfl,j5 ho fun p hp=>?_⟩)))
   rw[max2]
   exact q _ _ (ao.new hp _) (.new rfl)
  |false=>
   refine(if_pos (l1.mpr e)).mpr ((if_neg Bool.false_ne_true).mpr ((if_pos (l1.mpr e)).mpr (jU ho (j5 ho (j5 hl ⟨_,_,rfl,fun p hp=>?_⟩)))))
   rw[min2]
   exact q _ _ (ao.new hp _) (.new rfl)
 ·rw[decide_eq_false e] at q
  exact(if_neg (fun z=>e (l1.mp z))).mpr ((if_neg Bool.false_ne_true).mpr ((if_neg (fun z=>e (l1.mp z))).mpr ⟨truth,_,_,_,own,r,l,rfl,⟨_,rfl,ho⟩,⟨_,rfl,nr⟩,⟨_,rfl,hl⟩,q⟩))
theorem vh(T:Tx K mg t){n:Nat}(dA:bJ P w K mg base eY n t.fw t.fE ["e", "named"] (EM K n)) :
 bJ P w K mg base eY (n+1) t.fw t.fE ["e", "named"] (EM K (n+1)):=by
 refine T.bB.F.j4 o3 (fun vs H Q E h=>?_) (fun eE A outer s H vs Q E hr h=>?_)
 ·obtain⟨_,_,_,_,_,rfl,_⟩:=h
  rfl
 obtain⟨v,d,tr,kv,f,rfl,hv,hd,ok,ht,h6,q⟩:=h
 have nd:=o3.nd
 have hu:=ka hr
 refine⟨_,[some v,some (.ref d),none,none,none,none],(ak (aP (i:=2) nd rfl (Or.inl rfl) (av au (pv 0) ah ai))
 (ak (bw (aE bC (pv 2) bf (aH _))
 (ar (aI (aZ (aa (av au (pv 0) ah ai) (aa (av au (pv 0) ah ai) ag aO) aO))))
 aN)
 (ak (bw (aE bC (pv 2) bf (aH _))
 (ar (aI (fI hu (pv 1) (av au (pv 0) ah ai) (fun _ _=>rfl))))
 aN)
 (ak (aP (i:=3) nd rfl (Or.inl rfl) (ay dA (hr.mono (by first|decide|omega)) rfl T.bB.m T.bB.F.kp T.bB.b .nil aT (aa (av au (pv 0) ah ai) (aa (pv 1) ag ae) aO)))
 (ak (aP (i:=4) nd rfl (Or.inl rfl) (ay dA (hr.mono (by first|decide|omega)) rfl T.bB.m T.bB.F.kp T.bB.b .nil aT (aa (av au (pv 0) ah ai) (aa (pv 1) ag ae) aO)))
 (ak (bw (aE bC (pv 2) bf (aH _))
 (ar (aI (aZ (aa (bg dq (av au (pv 3) ah ai) (av au (pv 4) ah ai)) (aa (bg dq (av au (pv 3) ah ai) (av au (pv 4) ah ai)) ag bG) bG))))
 aN)
 (ak (bw (aE bC (pv 2) bf (aH _))
 (ar (aI (aZ (aa (bg dW (av au (pv 3) ah ai) (av au (pv 4) ah ai)) (aa (bg dW (av au (pv 3) ah ai) (av au (pv 4) ah ai)) ag bG) bG))))
 aN)
 (ak (aP (i:=5) nd rfl (Or.inl rfl) (bt (aa (bg fh (av au (pv 3) ah ai) (av au (pv 4) ah ai)) (aa (bg fh (av au (pv 3) ah ai) (av au (pv 4) ah ai)) (aa (bg fh (av au (pv 3) ah ai) (av au (pv 4) ah ai)) (aa (bg fh (av au (pv 3) ah ai) (av au (pv 4) ah ai)) ag bG) bG) bG) bG)))
 (ar (aI (aZ (aa (bH (si rfl) rfl T.jZ PyProof.Rows.Boot.«min» (aa (pv 5) ag ae)) (aa (bH (sj rfl) rfl T.jY PyProof.Rows.Boot.«max» (aa (pv 5) ag ae)) ag bo) bo)))))))))))),rfl,?_⟩
 have n1:¬("box":Str) = "number":=by decide +kernel
 cases tr with
 |num m=>
  unfold eZ at hv
  simp only[Rep.aQ,aC.az,aC.aV,Rep.bu,Rep.aY] at hv
  obtain⟨a,xs,rfl,hS,_,_,rfl,rfl,_,_,rfl,rfl,rfl⟩:=hv
  walk_at "rd"
  refine aG hS rfl ?_
  walk_at "rd"
  rw[if_pos trivial]
  exact aG hS rfl (aG hS rfl fun p hp=>q _ _ (ao.new hp _) (.new rfl))
 |box x=>
  unfold eZ at hv
  simp only[Rep.aQ,aC.az,aC.aV,Rep.bu,Rep.aY] at hv
  obtain⟨a,xs,rfl,hS,_,_,rfl,rfl,_,_,rfl,rfl,rfl⟩:=hv
  walk_at "rd"
  refine aG hS rfl ?_
  walk_at "rd"
  rw[if_neg n1,if_pos trivial]
  obtain⟨⟨u,e,hR⟩,_⟩:=ok
  exact aG hS rfl ⟨d,u,rfl,mE.s hd e,q _ _ (ao.refl _) hR⟩
 |bin o l r=>
  unfold eZ at hv
  simp only[Rep.aQ,aC.az,aC.aV,Rep.bu,Rep.aY] at hv
  obtain⟨a,xs,rfl,hS,_,_,rfl,rfl,vl,_,rfl,hl,vr,_,rfl,nr,rfl⟩:=hv
  obtain⟨ho,ol,or'⟩:=ok
  have n2:¬S o = "number":=by rcases ho with rfl |rfl |rfl<;>decide +kernel
  have n3:¬S o = "box":=by rcases ho with rfl |rfl |rfl<;>decide +kernel
  have e1:(S o = "+")↔o=[43]:=by rw[show ("+":Str)=S [43] from rfl,jS]
  have e2:(S o = "-")↔o=[45]:=by rw[show ("-":Str)=S [45] from rfl,jS]
  walk_at "rd"
  refine aG hS rfl ?_
  walk_at "rd"
  rw[if_neg n2,if_neg n3]
  have wl:=F0 ol
  have wr:=F0 or'
  rw[PG.c8] at ht h6
  refine aG hS rfl ⟨vl,d,l,kv,f,rfl,hl,hd,ol,by lia,by lia,fun lv H1 s1 hL=>?_⟩
  refine aG (s1.bL hS) rfl ⟨vr,d,r,kv,f,rfl,nr.mono s1,s1 _ _ hd,or'.mono s1,by lia,by lia,fun rv H2 s2 hR=>?_⟩
  replace hL:=hL.mono s2
  obtain⟨la,rfl,hL⟩:=hL
  obtain⟨ra,rfl,hR⟩:=hR
  walk_at "rd"
  have s3:=s1.trans s2
  rw[PG.dC,PG.EJ] at q
  refine fG (fun c=>?_) (fun c=>?_)
  ·rw[if_pos (e1.mp c)] at q
   exact jU hL (jU hR ⟨_,_,rfl,rfl,j5 hL (j5 hR ⟨_,_,rfl,rfl,fun p hp=>q _ _ (s3.trans (ao.new hp _)) (.new rfl)⟩)⟩)
  rw[if_neg (fun z=>c (e1.mpr z))] at q
  refine fG (fun c=>?_) (fun c=>?_)
  ·rw[if_pos (e2.mp c)] at q
   exact jU hL (j5 hR ⟨_,_,rfl,rfl,j5 hL (jU hR ⟨_,_,rfl,rfl,fun p hp=>q _ _ (s3.trans (ao.new hp _)) (.new rfl)⟩)⟩)
  rw[if_neg (fun z=>c (e2.mpr z))] at q
  have b1:=kn wl.1 (by lia)
  have b2:=kn wl.2 (by lia)
  have b3:=kn wr.1 (by lia)
  have b4:=kn wr.2 (by lia)
  refine jU hL (jU hR ⟨_,_,rfl,rfl,⟨b1,b3⟩,jU hL (j5 hR ⟨_,_,rfl,rfl,⟨b1,b4⟩,j5 hL (jU hR ⟨_,_,rfl,rfl,⟨b2,b3⟩,j5 hL (j5 hR ⟨_,_,rfl,rfl,⟨b2,b4⟩,fun p hp=>?_⟩)⟩)⟩)⟩)
  have sp:eD K (upd H2 p (.lst ([(PG.dC f l).1*(PG.dC f r).1,(PG.dC f l).1*(PG.dC f r).2,(PG.dC f l).2*(PG.dC f r).1,(PG.dC f l).2*(PG.dC f r).2].map V.int))) p ([(PG.dC f l).1*(PG.dC f r).1,(PG.dC f l).1*(PG.dC f r).2,(PG.dC f l).2*(PG.dC f r).1,(PG.dC f l).2*(PG.dC f r).2].map V.int):=.of aj
  refine⟨p,_,rfl,sp,List.cons_ne_nil _ _,fun m1 Kx Og=>⟨p,_,rfl,sp,List.cons_ne_nil _ _,fun m2 Ky Oh=>fun p2 oQ=>?_⟩⟩
  refine q _ _ ((s3.trans (ao.new hp _)).trans (ao.new oQ _)) ⟨_,rfl,?_⟩
  rw[<- PG.yj Kx Og,<- PG.yk Ky Oh]
  exact .of aj
theorem hJ(T:Tx K mg t):∀n,bJ P w K mg base eY n t.fw t.fE ["e", "named"] (EM K n)
 |0=>by
  have no:∀vs H Q E,¬EM K 0 vs H Q E:=fun vs H Q E h=>by obtain⟨_,_,_,_,_,_,_,_,_,h,_⟩:=h;lia
  exact⟨fun vs H Q E h=>absurd h (no vs H Q E),fun A outer s H args us vs Q E _ _ _ _ h=>absurd h (no vs H Q E)⟩
 |n+1=>vh T (hJ T n)
theorem kO(T:Tx K mg t):bJ P w K mg base eY 1 t.iE t.iX ["chart", "parts"] (zz K t.aS):=by
 refine T.cn.F.j4 oX (fun vs H Q E h=>?_) (fun eE A outer s H vs Q E hr h=>?_)
 ·obtain⟨_,_,_,_,rfl,_⟩:=h
  rfl
 obtain⟨p,a,pr,us,rfl,co,ha,lu,nb,lb,q⟩:=h
 have nd:=oX.nd
 refine⟨_,[some (.ref p),some (.ref a)],(ar (aI (wz rfl rfl T.oo rfl T.yv (aa (jy (pv 0) rfl) (aa (pv 1) ag ae) DZ)))),rfl,?_⟩
 obtain⟨dx,nl,sd,fa,va,st,wy,uu,ws,h1,h2,h3,_⟩:=co.at_
 walk_at "rd"
 simp only[Qn]
 walk_at "rd"
 refine⟨p,_,dx,_,.ref nl,rfl,h1,T.cZ,T.eu,rfl,?_⟩
 refine⟨nl,a,pr.aA.map fun b=>.inr (S b.name),us,rfl,?_,ha,by rw[List.length_map];exact lu,fun d hd=>?_⟩
 ·rw[List.map_map]
  exact .of h3
 ·rw[qm,lW _ [] (by rw[List.nil_append,oT _ _ lu];exact names_nodup nb),List.nil_append]
  exact q d _ (ao.new hd _) hd aj
theorem o5(T:Tx K mg t):bJ P w K mg base eY 1 t.iF t.iY ["chart", "named"] (zF K t.aS):=by
 refine T.dy.F.j4 oY (fun vs H Q E h=>?_) (fun eE A outer s H vs Q E hr h=>?_)
 ·obtain⟨_,_,_,_,_,rfl,_⟩:=h
  rfl
 obtain⟨p,d,pr,aJ,us,rfl,co,hd,lu,hv,lb,q⟩:=h
 have nd:=oY.nd
 have hu:=ka hr
 refine⟨_,[some (.ref p),some (.ref d)],(ar (aI (bN gn rfl T.jP PyProof.Rows.Boot.«tuple» (aa (gv (own:=["name"]) (ix:=[1]) rfl (by rfl) (by rfl) (cw (jy (pv 0) rfl)) (fun _ _ _ _=>(aW (i:=0) (by show List.Nodup (["name", "named"]:List Str);decide +kernel) rfl (Or.inl rfl))) (fun _ _ _ _=>eK) (fun _ _ _ _=>(fI hu (pv 1) (pv 0) (fun _ _=>rfl)))) ag jE)))),rfl,?_⟩
 obtain⟨dx,nl,sd,fa,va,st,wy,uu,ws,h1,h2,h3,_⟩:=co.at_
 walk_at "rd"
 simp only[gX]
 walk_at "rd"
 have ln:(pr.aA.map fun b=>V.str (S b.name)).length=pr.aA.length:=List.length_map ..
 refine⟨p,_,dx,_,.ref nl,rfl,h1,T.cZ,T.eu,rfl,nl,rfl,⟨_,.of h3⟩,fun D hD=>?_⟩
 refine hZ (K:=K) (r:=[some (V.ref d)]) (fun i=>us.getD i .c6) (.of h3) (by rw[ln];lia) hD (fun i x H2 hx s2 R hR=>?_) (fun H2 s2 h2=>⟨D,_,rfl,.inl ⟨.of h2,fun l hl=>?_⟩⟩)
 ·have li:i<pr.aA.length:=by have:=(List.getElem?_eq_some_iff.mp hx).1;rw[ln] at this;exact this
  rw[List.getElem?_map,List.getElem?_eq_getElem li] at hx
  cases hx
  have g:=hv i li
  have Qv:i<us.length:=by lia
  rw[List.getElem?_eq_getElem Qv] at g
  have e:us.getD i .c6=us[i]:=by rw[List.getD_eq_getElem?_getD,List.getElem?_eq_getElem Qv];rfl
  rw[e] at hR
  walk_at "rd"
  exact⟨d,us[i],rfl,mE.s (s2 _ _ hd) g,hR⟩
 ·have e:(List.range (pr.aA.map fun b=>V.str (S b.name)).length).map (fun i=>us.getD i .c6)=us:=by
   rw[ln,<- lu]
   have:=gc (fun v:V=>v) V.c6 us
   rw[List.map_id'] at this
   exact this
  rw[e]
  exact q l _ (s2.trans (ao.new hl _)) (.of aj)
theorem wU(T:Tx K mg t):bJ P w K mg base eY 1 t.jt t.jN ["chart", "row"] (BS K t.aS):=by
 refine T.ij.F.j4 qy (fun vs H Q E h=>?_) (fun eE A outer s H vs Q E hr h=>?_)
 ·obtain⟨_,_,_,rfl,_⟩:=h
  rfl
 obtain⟨p,pr,row,rfl,co,pw,q⟩:=h
 have nd:=qy.nd
 have hu:=ka hr
 obtain⟨Cy,qB,qC⟩:=T.tJ
 refine⟨_,[some (.ref p),some (.int row)],(ak (bw (aE bC (pv 1) (pA rfl qB qC) (aH _))
 (ar (aI bf))
 aN)
 (ar (aI (av au (fI hu (jy (pv 0) rfl) (pv 1) (fun _ _=>rfl)) ah ai)))),rfl,?_⟩
 obtain⟨dx,nl,sd,fa,va,st,wy,uu,ws,h1,h2,h3,h4,h5,h6,h7,h8,h9,_⟩:=co.at_
 walk_at "rd"
 rcases q with ⟨rfl,q⟩ |⟨n0,i,hi,er,q⟩
 ·exact(if_pos rfl).mpr q
 ·refine(if_neg n0).mpr ⟨p,_,dx,_,.ref st,rfl,h1,T.cZ,T.bV,rfl,?_⟩
  have li:i<uu.length:=by lia
  obtain⟨v,hv,rv⟩:=h9.get (i:=i) (d:=cT (PG.aD pr.body)[i]) (by rw[List.getElem?_map,List.getElem?_eq_getElem hi];rfl)
  have g:=km _ _ h7 pw i hi v hv
  obtain⟨sa,ys,rfl,hs⟩:=fD _ rv
  rw[er] at g
  exact⟨st,.ref sa,rfl,.inl ⟨_,.inl row,.inl h8,rfl,g.symm⟩,aG hs (v:=.str (i6 (PG.aD pr.body)[i].wd)) (aw (j:=0) rfl) q⟩
theorem ox(T:Tx K mg t):bJ P w K mg base eY 8 t.dF t.eP ["chart", "row", "truth", "ranges"] (wH K t.aS):=by
 have iK:=kO (P:=P) (w:=w) (base:=base) T
 have mh:=o5 (P:=P) (w:=w) (base:=base) T
 have dA:=hJ (P:=P) (w:=w) (base:=base) T 5
 have rh:=qA (P:=P) (w:=w) (base:=base) T
 have pf:=ow (P:=P) (w:=w) (base:=base) T
 have oy:=m4 (P:=P) (w:=w) (base:=base) T
 refine T.cP.F.j4 jr (fun vs H Q E h=>?_) (fun eE A outer s H vs Q E hr h=>?_)
 ·obtain⟨_,_,_,_,_,_,_,_,_,_,rfl,_⟩:=h
  rfl
 obtain⟨p,_,pr,i,hi,truth,rs,sg,l,r,rfl,co,pw,nb,o9,⟨ra,us,rfl,K4,qM⟩,IB,cp,tl,tr,dl,dr,q⟩:=h
 have nd:=jr.nd
 have hu:=ka hr
 refine⟨_,[some (.ref p),some (.int (PG.aD pr.body)[i].row),some (.bl truth),some (.ref ra),none,none,none,none,none,none,none],(ak (aP (i:=4) nd rfl (Or.inl rfl) (fI hu (jy (pv 0) rfl) (pv 1) (fun _ _=>rfl)))
 (ak (aP (i:=5) nd rfl (Or.inl rfl) (av au (pv 4) ah ai))
 (ak (aP (i:=6) nd rfl (Or.inl rfl) (ay iK (hr.mono (by first|decide|omega)) rfl T.cn.m T.cn.F.kp T.cn.b .nil aT (aa (pv 0) (aa (pv 3) ag ae) ae)))
 (ak (aP (i:=7) nd rfl (Or.inl rfl) (ay dA (hr.mono (by first|decide|omega)) rfl T.bB.m T.bB.F.kp T.bB.b .nil aT (aa (av au (pv 4) ah ai) (aa (pv 6) ag ae) aO)))
 (ak (aP (i:=8) nd rfl (Or.inl rfl) (ay dA (hr.mono (by first|decide|omega)) rfl T.bB.m T.bB.F.kp T.bB.b .nil aT (aa (av au (pv 4) ah ai) (aa (pv 6) ag ae) aO)))
 (ak (bw (vK (fq (ay rh (hr.mono (by first|decide|omega)) rfl T.dN.m T.dN.F.kp T.dN.b .nil aT (aa (pv 5) (aa (pv 2) (aa (pv 7) (aa (pv 8) ag ae) ae) ae) ae))))
 (ar (aI nC))
 aN)
 (ak (bw (aE bC (av au (av au (pv 4) ah ai) ah ai) bf (aH _))
 (ak (aP (i:=9) nd rfl (Or.inl rfl) (av au (av au (pv 4) ah ai) ah ai))
 (ar (pB hu (pv 6) (pv 9) (ay pf (hr.mono (by first|decide|omega)) rfl T.cQ.m T.cQ.F.kp T.cQ.b .nil aT (aa (pv 5) (aa (pv 2) (aa (fI hu (pv 6) (pv 9) (fun _ _=>rfl)) (aa (pv 7) (aa (pv 8) ag ae) ae) aO) ae) ae)) rfl)))
 aN)
 (ak (bw (aE bC (av au (av au (pv 4) ah ai) ah ai) bf (aH _))
 (ak (aP (i:=9) nd rfl (Or.inl rfl) (av au (av au (pv 4) ah ai) ah ai))
 (ar (pB hu (pv 6) (pv 9) (ay oy (hr.mono (by first|decide|omega)) rfl T.cG.m T.cG.F.kp T.cG.b .nil aT (aa (pv 5) (aa (pv 2) (aa (fI hu (pv 6) (pv 9) (fun _ _=>rfl)) (aa (pv 7) (aa (pv 8) ag ae) ae) aO) ae) ae)) rfl)))
 aN)
 (ak (aP (i:=10) nd rfl (Or.inl rfl) (ay mh (hr.mono (by first|decide|omega)) rfl T.dy.m T.dy.F.kp T.dy.b .nil aT (aa (pv 0) (aa (pv 6) ag ae) ae)))
 (ak (bw (fq (bH (zI rfl) rfl T.Cw PyProof.Rows.Boot.«any» (aa (gv (own:=["part"]) (ix:=[]) rfl (by rfl) (by rfl) (sN (pv 10)) (fun _ _ _ _=>(aW (i:=0) (by show List.Nodup (["part"]:List Str);decide +kernel) rfl (Or.inl rfl))) (fun _ _ _ _=>eK) (fun _ _ _ _=>(du xw (av (fj (K:=K) rfl) (pv 0) ah ai) (av (fj (K:=K) rfl) (pv 0) ah ai) (aH _)))) ag jE)))
 (ar (aI nC))
 aN)
 (ar (aI (pv 10))))))))))))),rfl,?_⟩
 obtain⟨dx,nl,sd,fa,SU,st,wy,uu,ws,h1,h2,h3,h4,h5,h6,h7,h8,h9,_⟩:=co.at_
 have li:i<uu.length:=by lia
 obtain⟨v,hv,rv⟩:=h9.get (i:=i) (d:=cT (PG.aD pr.body)[i]) (by rw[List.getElem?_map,List.getElem?_eq_getElem hi];rfl)
 have g:=km _ _ h7 pw i hi v hv
 obtain⟨ta,w0,vl,vr,ys,rfl,hs,hl,nr⟩:=wA rv cp
 refine ax fun U1 gk=>?_
 walk_at "rd"
 refine⟨p,_,dx,_,.ref st,rfl,h1,T.cZ,T.bV,rfl,⟨st,.ref ta,rfl,.inl ⟨_,.inl _,.inl h8,rfl,g.symm⟩,(gk _ _).mpr (ax fun U2 ji=>?_)⟩⟩
 clear gk
 walk_at "rd"
 refine aG hs (v:=.str (S sg)) (aw (j:=2) rfl) ((ji _ _).mpr (ax fun U3 j3=>?_))
 clear ji
 have vE:us.length=pr.aA.length:=by rw[qM.1];exact IB
 walk_at "rd"
 refine⟨p,ra,pr,us,rfl,co,K4,vE,nb,o9,fun d H2 s2 hd y2=>(j3 _ _).mpr (ax fun U4 m5=>?_)⟩
 clear j3
 have nm:=(pb.of qM vE nb).mono s2
 walk_at "rd"
 refine aG (s2.bL hs) (v:=vl) (aw (j:=3) rfl) ⟨vl,d,l,_,_,rfl,hl.mono s2,y2,nm.Iz nb tl,by lia,by lia,fun lv H3 s3 hL=>(m5 _ _).mpr (ax fun U5 sy=>?_)⟩
 clear m5
 walk_at "rd"
 have zS:=s2.trans s3
 refine aG (zS.bL hs) (v:=vr) (aw (j:=4) rfl) ⟨vr,d,r,_,_,rfl,nr.mono zS,s3 _ _ y2,(nm.mono s3).Iz nb tr,by lia,by lia,fun An H4 s4 hR=>(sy _ _).mpr (ax fun U6 sC=>?_)⟩
 clear sy
 walk_at "rd"
 refine⟨sg,truth,_,_,_,_,rfl,hL.mono s4,hR,?_⟩
 have wV:=zS.trans s4
 have Qw:∀ {H':Hp} (o:HO),ao H H'->ao H (upd H' d o):=fun o s=>((bh.of s:bh d H _).put o).same hd
 refine⟨_,rfl,fG (fun e=>?_) (fun e=>?_)⟩
 ·refine q _ _ wV ?_
  unfold PG.cK
  rw[if_neg (fun z=>by rw[z] at e;cases e)]
  rfl
 have e:PG.kz (decide (sg=[60])) truth (PG.dC (PG.bT pr.aA rs) l) (PG.dC (PG.bT pr.aA rs) r)=true:=by simpa using e
 unfold PG.cK at q
 rw[if_pos e] at q
 have pl:=nW (hl.mono wV) tl.Cd
 have pR:=nW (nr.mono wV) tr.Cd
 generalize PG.dC (PG.bT pr.aA rs) l=lr at *
 generalize PG.dC (PG.bT pr.aA rs) r=rr at *
 have HK:(c5 pr.aA us).length<=10:=by
  unfold c5
  rw[List.length_zipWith]
  lia
 have line:sizeLine=2 ^ 24:=rfl
 have Qx:∀x,l=.box x->x∈pr.aA.map (·.name):=fun x z=>by rw[z] at tl;exact tl.1
 have inR:∀x,r=.box x->x∈pr.aA.map (·.name):=fun x z=>by rw[z] at tr;exact tr.1
 refine(sC _ _).mpr (ax fun U7 F4=>?_)
 clear sC
 have y4:H4 d=some (.dK (c5 pr.aA us)):=s4 _ _ (s3 _ _ y2)
 have next:∀(H5:Hp) (Cz:List (Key×V)) (K5:List PG.Rg) (nv:Option V),ao H H5->bh d H4 H5->H5 d=some (.dK Cz)->Cz.length<=11->pb K H5 pr.aA Cz K5->cc K H5 lv lr->cc K H5 An rr->(∀v H',ao H H'->oV K H' v (PG.lE (PG.KU pr.aA K5 (decide (sg=[60])) truth r lr rr))->Q v H')->
  U7 [some (V.ref p),some (V.int (PG.aD pr.body)[i].row),some (V.bl truth),some (V.ref ra),some (V.ref ta),some (V.str (S sg)),some (V.ref d),some lv,some An,nv,none] H5:=by
  intro H5 Cz K5 nv s5 u5 y5 k5 n5 l5 r5 q5
  refine(F4 _ _).mpr (ax fun U8 yw=>?_)
  clear F4
  walk_at "rd"
  obtain⟨a,Mu,w1,Qy,rfl,hS,CA,K6⟩:=pR
  have Qz:bR K H5 a (.str Mu::w1::Qy):=hS.dk y4 u5
  have vF:bR K H5 ta _:=s5.bL hs
  have last:∀(H6:Hp) (E2:List (Key×V)) (oA:List PG.Rg) (nv:Option V),ao H H6->H6 d=some (.dK E2)->pb K H6 pr.aA E2 oA->(∀v H',ao H H'->oV K H' v (PG.lE oA)->Q v H')->
   U8 [some (V.ref p),some (V.int (PG.aD pr.body)[i].row),some (V.bl truth),some (V.ref ra),some (V.ref ta),some (V.str (S sg)),some (V.ref d),some lv,some An,nv,none] H6:=by
   intro H6 E2 oA Vg s6 y6 n6 q6
   refine(yw _ _).mpr (ax fun U9 Ds=>?_)
   clear yw
   walk_at "rd"
   obtain⟨ws,lw,look,Oi⟩:=n6.list
   refine⟨p,d,pr,E2,ws,rfl,co.mono s6,y6,lw,look,o9,fun na H7 s7 sq=>(Ds _ _).mpr ?_⟩
   clear Ds
   walk_at "rd"
   simp only[gX,Dz]
   walk_at "rd"
   have Oj:=Oi.mono s7
   have SV:ws.length=oA.length:=Oj.1
   refine⟨⟨_,sq⟩,fun D hD=>?_⟩
   refine zq (K:=K) (r:=[]) (fun _=>true) (fun j=>.bl (decide ((oA.getD j (0,0)).1>(oA.getD j (0,0)).2))) sq (by lia) hD (fun j x hx H8 s8 R hR=>?_) (fun j x hx _ H8 s8 R hR=>?_) (fun H8 s8 h8=>?_)
   ·exact hR _ (ao.refl _)
   ·obtain⟨lj,ex⟩:=List.getElem?_eq_some_iff.mp hx
    obtain⟨r2,er,K7⟩:=(Oj.mono s8).2 j lj
    rw[ex] at K7
    obtain⟨xa,rfl,Mv⟩:=K7
    have hR:=hR _ (ao.refl _)
    rw[List.getD_eq_getElem?_getD,er] at hR
    walk_at "rd"
    exact jU Mv (j5 Mv ⟨_,_,rfl,rfl,hR⟩)
   ·have e8:((List.range ws.length).filter fun _=>true).map (fun j=>V.bl (decide ((oA.getD j (0,0)).1>(oA.getD j (0,0)).2)))=(oA.map fun q=>decide (q.1>q.2)).map V.bl:=by
     rw[show (List.range ws.length).filter (fun _=>true)=List.range ws.length from List.filter_eq_self.mpr fun _ _=>rfl,SV,List.map_map]
     exact gc (fun q:PG.Rg=>V.bl (decide (q.1>q.2))) (0,0) oA
    rw[e8] at h8
    unfold PG.lE at q6
    refine⟨D,_,rfl,.of h8,fG (fun e=>?_) (fun e=>?_)⟩
    ·rw[if_pos e] at q6
     exact q6 _ _ (s6.trans (s7.trans s8)) rfl
    ·rw[if_neg e] at q6
     exact q6 _ _ (s6.trans (s7.trans s8)) ⟨na,ws,rfl,s8.bL sq,Oj.mono s8⟩
  refine aG vF (v:=.ref a) (aw (j:=4) rfl) (aG Qz (v:=.str Mu) (aw (j:=0) rfl) ⟨rfl,fG (fun e2=>?_) (fun e2=>?_)⟩)
  ·obtain⟨x,rfl⟩:=CA.mp (V.str.inj e2)
   obtain rfl:=K6 x rfl
   obtain⟨v0,e0,Ol⟩:=n5.at_ nb (inR x rfl)
   refine aG vF (v:=.ref a) (aw (j:=4) rfl) (aG Qz (v:=.str (S x)) (aw (j:=1) rfl) ⟨d,v0,rfl,mE.s y5 e0,?_⟩)
   refine⟨sg,truth,_,_,_,_,_,_,rfl,Ol,l5,r5,fun v6 H6 s6 h6=>⟨d,_,rfl,sV.k (k:=.inr (S x)) (s6 _ _ y5) (by lia),?_⟩⟩
   have u6:bh d H6 (upd H6 d (.dK (putK Cz (.inr (S x)) v6))):=(bh.of (ao.refl _)).put _
   exact last _ _ _ _ (Qw _ (s5.trans s6)) aj (((n5.mono s6).put nb (inR x rfl) h6).dk (s6 _ _ y5) u6) q5
  ·have el:PG.KU pr.aA K5 (decide (sg=[60])) truth r lr rr=K5:=by
    cases r with
    |box x=>exact absurd (congrArg V.str (CA.mpr ⟨x,rfl⟩)) e2
    |num _=>rfl
    |bin _ _ _=>rfl
   rw[el] at q5
   exact last _ _ _ _ s5 y5 n5 q5
 obtain⟨a,Mu,w1,Qy,rfl,hS,CA,K6⟩:=pl
 have Om:=nm.mono (s3.trans s4)
 have Oq:=hL.mono s4
 walk_at "rd"
 refine aG (wV.bL hs) (v:=.ref a) (aw (j:=3) rfl) (aG hS (v:=.str Mu) (aw (j:=0) rfl) ⟨rfl,fG (fun e2=>?_) (fun e2=>?_)⟩)
 ·obtain⟨x,rfl⟩:=CA.mp (V.str.inj e2)
  obtain rfl:=K6 x rfl
  obtain⟨v0,e0,Ol⟩:=Om.at_ nb (Qx x rfl)
  refine aG (wV.bL hs) (v:=.ref a) (aw (j:=3) rfl) (aG hS (v:=.str (S x)) (aw (j:=1) rfl) ⟨d,v0,rfl,mE.s y4 e0,?_⟩)
  refine⟨sg,truth,_,_,_,_,_,_,rfl,Ol,Oq,hR,fun v5 H5 s5 h5=>⟨d,_,rfl,sV.k (k:=.inr (S x)) (s5 _ _ y4) (by lia),?_⟩⟩
  have u5:bh d H5 (upd H5 d (.dK (putK (c5 pr.aA us) (.inr (S x)) v5))):=(bh.of (ao.refl _)).put _
  exact next _ _ _ _ (Qw _ (wV.trans s5)) ((bh.of s5:bh d H4 H5).put _) aj (by have:=iQ (c5 pr.aA us) (.inr (S x)) v5;lia) (((Om.mono s5).put nb (Qx x rfl) h5).dk (s5 _ _ y4) u5) ((Oq.mono s5).dk (s5 _ _ y4) u5) ((hR.mono s5).dk (s5 _ _ y4) u5) q
 ·have el:PG.F2 pr.aA rs (decide (sg=[60])) truth l lr rr=rs:=by
   cases l with
   |box x=>exact absurd (congrArg V.str (CA.mpr ⟨x,rfl⟩)) e2
   |num _=>rfl
   |bin _ _ _=>rfl
  rw[el] at q
  exact next _ _ _ _ wV (.of (ao.refl _)) y4 (by lia) Om Oq hR q
theorem CB{K:PySem.W.Frag}{ta:TA}{g:TG}{tb:TS}{D:Ends}{σ:St}{H:Hp} (h:∀U:Addr->Addr->Hp->Prop,(∀a b H1,(∃W:Nat->Nat->St->Hp->Prop,(∃m,W 0 m σ H1)/\∀i m σ H,W i m σ H->
 ((F1 K a b).stop i H/\D.nx σ H)\/((F1 K a b).go i H/\∃N:St->Hp->Prop,(∀σ' H',N σ' H'->∃m',m'<m/\W (i+1) m' σ' H')/\∀x H',(F1 K a b).xr i H x H'->g x σ H' fun σ2 H2=>tb {D with nx:=N,ct:=N,bk:=D.nx} σ2 H2))->U a b H1)->
 ta σ H fun vs H1=>∃a b,vs=[.ref a,.ref b]/\(∃xs,bR K H1 a xs)/\(∃ys,bR K H1 b ys)/\U a b H1):AF (KR K ta) g tb D σ H:=h _ fun _ _ _ x=>x
theorem m6(T:Tx K mg t):bJ P w K mg base eY 9 t.dc t.dR ["chart", "row", "ranges"] (Ce K t.aS):=by
 have ph:=ox (P:=P) (w:=w) (base:=base) T
 refine T.cF.F.j4 iU (fun vs H Q E h=>?_) (fun eE A outer s H vs Q E hr h=>?_)
 ·obtain⟨_,_,_,_,_,_,_,_,_,_,rfl,_⟩:=h
  rfl
 obtain⟨p,rv,pr,i,hi,hf,rs,sg,l,r,rfl,co,ok,qM,IB,cp,tl,tr,dl,dr,q⟩:=h
 have nd:=iU.nd
 have hu:=ka hr
 refine⟨_,[some (.ref p),some (.int (PG.aD pr.body)[i].row),some rv,none,none,none,none],(ak (aP (i:=3) nd rfl (Or.inl rfl) (bt ag))
 (ak (gO PassesOwn.never rfl (HC rfl T.yv (aa (fI hu (jy (pv 0) rfl) (pv 1) (fun _ _=>rfl)) (aa (aZ (fC (vs:=[.bl true,.bl false]) (by kernel_rfl))) ag cy) aO)) (i4 rfl (bA (aW (i:=4) nd rfl (Or.inl rfl)) (bA (aW (i:=5) nd rfl (Or.inl rfl)) eG)))
 (ak (aP (i:=6) nd rfl (Or.inl rfl) (ay ph (hr.mono (by first|decide|omega)) rfl T.cP.m T.cP.F.kp T.cP.b .nil aT (aa (pv 0) (aa (pv 1) (aa (pv 5) (aa (pv 2) ag ae) ae) ae) ae)))
 (ar (bw (aE xx (pv 6) nC (aH _))
 (ar (gm (jR PySem.F.plainAttrs_list PySem.F.slot_list_append PySem.F.type_list_append fB (pv 3) (aa (aZ (aa (pv 4) (aa (pv 6) ag ae) ae)) ag cy))))
 aN))))
 (ar (aI (pv 3))))),rfl,?_⟩
 refine ax fun U1 gk=>?_
 walk_at "rd"
 intro L hL
 have sL:=ao.new hL (.lst [])
 refine(gk _ _).mpr (ax fun U2 ji=>?_)
 clear gk
 refine CB fun U hU=>?_
 walk_at "rd"
 have SW:=co.mono sL
 obtain⟨dx,fs,wy,wq,g1,g2,g3,g4⟩:=SW.way ok i hi hf
 refine⟨p,_,dx,fs,.ref wy,rfl,g1,T.cZ,T.fg,g2,wy,.ref wq,rfl,g3,fun z hz=>?_⟩
 have sz:=ao.new hz (.tup [V.bl true,V.bl false])
 have s1:=sL.trans sz
 have yz:(upd (upd H L (.lst [])) z (.tup [V.bl true,V.bl false])) z=some (.tup [V.bl true,V.bl false]):=aj
 have yL:=sz _ _ (aj:(upd H L (.lst [])) L=some (.lst []))
 have g5:=sz.bL g4
 clear g1 g3 g4
 generalize upd (upd H L (HO.lst [])) z (HO.tup [V.bl true,V.bl false])=H1 at *
 generalize (PG.aL pr.body 0)[i].2.2=tK at *
 have QA:bR K H1 z [V.bl true,V.bl false]:=.of yz
 refine⟨wq,z,rfl,⟨_,g5⟩,⟨_,QA⟩,hU _ _ _ (ER (K:=K) (a:=wq) (b:=z) (xs:=tK.map V.int) (ys:=[.bl true,.bl false]) (fun j σ H2=>(∃x4 x5 x6,σ=[some (V.ref p),some (V.int (PG.aD pr.body)[i].row),some rv,some (V.ref L),x4,x5,x6])/\ao H H2/\bh L H1 H2/\∃us,H2 L=some (.lst us)/\us.length<=j/\i7 K H2 us (PG.fO (PG.cK pr.aA rs sg l r) ((tK.zip [true,false]).take j))) ⟨⟨_,_,_,rfl⟩,s1,.of (ao.refl _),[],yL,Nat.le_refl _,.nil⟩ (fun j σ H2 _ hv=>⟨g5.iO yL hv.2.2.1,QA.iO yL hv.2.2.1⟩) ?_ ?_)⟩
 ·rintro j x y σ H2 tp hx hy ⟨⟨x4,x5,x6,rfl⟩,s2,u2,us,yU,lu,wo⟩ F5
  have lj:j<2:=(List.getElem?_eq_some_iff.mp hy).1
  obtain⟨wv,ew,rfl⟩:∃wv,tK[j]?=some wv/\x=.int wv:=by
   rw[List.getElem?_map] at hx
   obtain⟨wv,ew,e⟩:=Option.map_eq_some_iff.mp hx
   exact⟨wv,ew,e.symm⟩
  obtain⟨b,eb,rfl⟩:∃b,[true,false][j]?=some b/\y=.bl b:=by
   rcases(by lia:j=0\/j=1) with rfl |rfl
   ·exact⟨true,rfl,(Option.some.inj hy).symm⟩
   ·exact⟨false,rfl,(Option.some.inj hy).symm⟩
  have s3:=s2.NG F5 (.tup [V.int wv,V.bl b])
  have u3:=u2.new F5 (.tup [V.int wv,V.bl b])
  have n3:=ao.new F5 (.tup [V.int wv,V.bl b])
  have y3:(upd H2 tp (.tup [V.int wv,V.bl b])) tp=some (.tup [V.int wv,V.bl b]):=aj
  replace yU:=n3 _ _ yU
  replace wo:=wo.map fun v w h=>h.mono n3
  clear n3
  generalize upd H2 tp (.tup [V.int wv,V.bl b])=H3 at *
  have tk:(tK.zip [true,false]).take (j+1)=(tK.zip [true,false]).take j++[(wv,b)]:=by
   rw[List.take_succ,List.getElem?_zip_eq_some (z:=(wv,b)) |>.mpr ⟨ew,eb⟩]
   rfl
  refine⟨tp,_,rfl,.of y3,rfl,_,_,rfl,_,_,rfl,rfl,?_⟩
  simp only[List.set]
  walk_at "rd"
  refine⟨p,rv,pr,i,hi,b,rs,sg,l,r,rfl,co.mono s3,ok.pw,ok.nb,ok.o9,qM.mono s3,IB,cp,tl,tr,dl,dr,fun v H4 s4 ho=>?_⟩
  have K8:=s3.trans s4
  have y4:=s4 _ _ yU
  replace wo:=wo.map fun v w h=>h.mono s4
  rw[tk,PG.oW]
  have line:sizeLine=2 ^ 24:=rfl
  cases hb:PG.cK pr.aA rs sg l r b with
  |none=>
   rw[hb] at ho
   cases (show v=.c6 from ho)
   refine(if_pos rfl).mpr ⟨⟨_,_,_,rfl⟩,K8,u3.trans (.of s4),us,y4,by lia,?_⟩
   rw[Option.map_none,Option.toList_none,List.append_nil]
   exact wo
  |some KJ=>
   rw[hb] at ho
   obtain⟨na,ws,rfl,h1,h2⟩:=ho
   refine(if_neg (by intro z;cases z)).mpr ⟨.inl ⟨rfl,_,.of y4⟩,fun p1 vG=>?_⟩
   have n5:=ao.new vG (.tup [V.int wv,V.ref na])
   have y5:=n5 _ _ y4
   have SX:pd K (upd H4 p1 (.tup [V.int wv,V.ref na])) (.ref p1) (wv,KJ):=⟨p1,_,rfl,.of aj,na,ws,rfl,n5.bL h1,h2.mono n5⟩
   have SY:=wo.map fun v w h=>h.mono n5
   have s5:=K8.trans n5
   have u5:=(u3.trans (.of s4)).trans (.of n5:bh L H4 _)
   generalize upd H4 p1 (.tup [V.int wv,V.ref na])=H5 at *
   refine⟨L,us,_,rfl,rfl,y5,by lia,⟨_,_,_,rfl⟩,((bh.of s5:bh L H H5).put _).same hL,u5.put _,_,aj,by rw[List.length_append];exact Nat.add_le_add_right lu 1,?_⟩
   have uu:bh L H5 (upd H5 L (.lst (us++[V.ref p1]))):=(bh.refl L H5).put _
   exact(SY.snoc SX).map fun v w h=>h.iO y5 uu
 ·rintro σ H2 ⟨⟨x4,x5,x6,rfl⟩,s2,u2,us,yU,lu,wo⟩
  refine(ji _ _).mpr ?_
  walk_at "rd"
  refine q _ us _ s2 hL yU ?_
  rw[List.take_of_length_le (by rw[List.length_zip,List.length_map];exact Nat.le_refl _)] at wo
  exact wo
theorem yx:∀w:PG.Wd,L9 (V.str (i6 w)) [V.str (Str.ofString "must"),V.str (Str.ofString "if"),V.str (Str.ofString "while")]=decide (w=.cE\/w=.ifs\/w=.gw):=by
 intro w
 cases w<;>decide +kernel
theorem E3:∀w:PG.Wd,(i6 w=Str.ofString "ask")↔w=.ask:=by
 intro w
 cases w<;>decide +kernel
theorem E4:∀w:PG.Wd,(i6 w=Str.ofString "put")↔w=.put:=by
 intro w
 cases w<;>decide +kernel
theorem K9:∀w:PG.Wd,(i6 w=Str.ofString "say")↔w=.say:=by
 intro w
 cases w<;>decide +kernel
theorem se.mono{H H':Hp}{o:Option (Int×List Int)}{v:V}(h:se K H o v)(s:ao H H'):se K H' o v:=by
 cases o with
 |none=>exact h
 |some x=>obtain⟨a,e,sa⟩:=h;exact⟨a,e,sa.mono s⟩
theorem CD{st:PG.bM}(h:st.wd=.ask):∃k b,st=.ask k b:=by
 cases st<;>first |exact⟨_,_,rfl⟩ |cases h
theorem CF{st:PG.bM}(h:st.wd=.put):∃k b e,st=.put k b e:=by
 cases st<;>first |exact⟨_,_,_,rfl⟩ |cases h
theorem HL{st:PG.bM}(h:st.wd=.say):∃k e,st=.say k e:=by
 cases st<;>first |exact⟨_,_,rfl⟩ |cases h
theorem sD{H:Hp}{k:Int}{b:W}{v:V}(h:Rep K H (cT (.ask k b)) v):∃a,v=.ref a/\bR K H a [.str "ask",.int k,.str (S b)]:=by
 simp only[cT,Rep.aQ,aC.az,aC.aV,Rep.bu,Rep.aY] at h
 obtain⟨a,ys,rfl,hS,_,_,rfl,rfl,_,_,rfl,rfl,_,_,rfl,rfl,rfl⟩:=h
 exact⟨a,rfl,hS⟩
theorem oB{H:Hp}{k:Int}{b:W}{e:PM.Tr}{v:V}(h:Rep K H (cT (.put k b e)) v):∃a u,v=.ref a/\bR K H a [.str "put",.int k,.str (S b),u]/\Rep K H (eZ e) u:=by
 simp only[cT,Rep.aQ,aC.az,aC.aV,Rep.bu,Rep.aY] at h
 obtain⟨a,ys,rfl,hS,_,_,rfl,rfl,_,_,rfl,rfl,_,_,rfl,rfl,u,_,rfl,ru,rfl⟩:=h
 exact⟨a,u,rfl,hS,ru⟩
theorem xA(vals:List Int)(j:Nat)(x:Int):(vals.map V.int).set j (.int x)=(vals.set j x).map V.int:=by
 rw[List.map_set]
theorem zU{bs:List PG.cD}(bp:∀b∈bs,0<b.size)(x:W):0<cm bs x:=by
 unfold cm
 cases e:bs[lD bs x]? with
 |none=>decide
 |some b=>exact bp b (List.mem_of_getElem? e)
theorem CG:∀sm:PG.bM,¬i6 sm.wd=Str.ofString "end":=fun sm=>by cases sm<;>(simp only[PG.bM.wd];decide +kernel)
theorem E5{bs:List PG.cD}{rs:List PG.Rg}{st:PG.bM}(h:st.wd=.cE\/st.wd=.ifs\/st.wd=.gw)(po:Cf bs rs st):∃sg l r,jo st=some (sg,l,r)/\oU bs rs l/\oU bs rs r/\PG.c8 l<=4/\PG.c8 r<=4/\∀ws,PG.eV bs rs ws st=PG.fO (PG.cK bs rs sg l r) (ws.zip [true,false]):=by
 cases st<;>simp only[PG.bM.wd,reduceCtorEq,or_self,or_false,false_or] at h<;>exact⟨_,_,_,rfl,po.1,po.2.1,po.2.2.1,po.2.2.2,fun _=>rfl⟩
theorem CI{bs:List PG.cD}(bp:∀b∈bs,b.size<=1000)(x:W):cm bs x<=1000:=by
 unfold cm
 cases e:bs[lD bs x]? with
 |none=>decide
 |some b=>exact bp b (List.mem_of_getElem? e)
theorem wW(T:Tx K mg t):bJ P w K mg base eY 10 t.ju t.jO ["chart", "row", "ranges"] (Cg K t.aS):=by
 have zV:=wU (P:=P) (w:=w) (base:=base) T
 have iK:=kO (P:=P) (w:=w) (base:=base) T
 have mh:=o5 (P:=P) (w:=w) (base:=base) T
 have oC:=m6 (P:=P) (w:=w) (base:=base) T
 have jf:=kN (P:=P) (w:=w) (base:=base) T
 have tL:=q0 (P:=P) (w:=w) (base:=base) T
 have dA:=hJ (P:=P) (w:=w) (base:=base) T 5
 refine T.ik.F.j4 qz (fun vs H Q E h=>?_) (fun eE A outer s H vs Q E hr h=>?_)
 ·obtain⟨_,_,_,_,_,rfl,_⟩:=h
  rfl
 obtain⟨p,rv,pr,row,rs,rfl,co,ok,qM,IB,bp,q⟩:=h
 have nd:=qz.nd
 have hu:=ka hr
 refine⟨_,[some (.ref p),some (.int row),some rv,none,none,none],(ak (aP (i:=3) nd rfl (Or.inl rfl) (ay zV (hr.mono (by first|decide|omega)) rfl T.ij.m T.ij.F.kp T.ij.b .nil aT (aa (pv 0) (aa (pv 1) ag ae) ae)))
 (ak (bw (aE bC (pv 3) bf (aH _))
 (ar (aI (bt ag)))
 aN)
 (ak (bw (aE rQ (pv 3) (aZ (fC (vs:=[.str "must",.str "if",.str "while"]) (by kernel_rfl))) rfl)
 (ar (aI (ay oC (hr.mono (by first|decide|omega)) rfl T.cF.m T.cF.F.kp T.cF.b .nil aT (aa (pv 0) (aa (pv 1) (aa (pv 2) ag ae) ae) ae))))
 aN)
 (ak (aP (i:=4) nd rfl (Or.inl rfl) (fI hu (jy (pv 0) rfl) (pv 1) (fun _ _=>rfl)))
 (ak (aP (i:=5) nd rfl (Or.inl rfl) (ay iK (hr.mono (by first|decide|omega)) rfl T.cn.m T.cn.F.kp T.cn.b .nil aT (aa (pv 0) (aa (pv 2) ag ae) ae)))
 (ak (bw (aE bC (pv 3) bf (aH _))
 (ar (pB hu (pv 5) (av au (pv 4) ah ai) (ay jf (hr.mono (by first|decide|omega)) rfl T.cf.m T.cf.F.kp T.cf.b .nil aT (aa (fI hu (jy (pv 0) rfl) (av au (pv 4) ah ai) (fun _ _=>rfl)) ag aO)) rfl))
 (ar (bw (aE bC (pv 3) bf (aH _))
 (ar (pB hu (pv 5) (av au (pv 4) ah ai) (ay tL (hr.mono (by first|decide|omega)) rfl T.eT.m T.eT.F.kp T.eT.b .nil aT (aa (ay dA (hr.mono (by first|decide|omega)) rfl T.bB.m T.bB.F.kp T.bB.b .nil aT (aa (av au (pv 4) ah ai) (aa (pv 5) ag ae) aO)) (aa (fI hu (jy (pv 0) rfl) (av au (pv 4) ah ai) (fun _ _=>rfl)) ag aO) bo)) rfl))
 aN)))
 (ar (aI (bt (aa (aZ (aa (av au (fI hu (jy (pv 0) rfl) (pv 1) (fun _ _=>rfl)) ah ai) (aa (ay mh (hr.mono (by first|decide|omega)) rfl T.dy.m T.dy.F.kp T.dy.b .nil aT (aa (pv 0) (aa (pv 5) ag ae) ae)) ag bo) aO)) ag cy)))))))))),rfl,?_⟩
 refine ax fun U1 gk=>?_
 walk_at "rd"
 rcases q with ⟨rfl,q⟩ |⟨n0,i,hi,hf,er,po,w0,q⟩
 ·refine⟨p,pr,0,rfl,co,ok.pw,.inl ⟨rfl,(gk _ _).mpr ?_⟩⟩
  refine ax fun U2 ji=>?_
  walk_at "rd"
  exact(if_pos trivial).mpr fun L hL=>q L _ (ao.new hL _) hL aj
 subst er
 refine⟨p,pr,_,rfl,co,ok.pw,.inr ⟨n0,i,hi,rfl,(gk _ _).mpr (ax fun U2 ji=>?_)⟩⟩
 clear gk
 walk_at "rd"
 refine(if_neg ?_).mpr ((ji _ _).mpr (ax fun U3 j3=>?_))
 ·exact CG _
 clear ji
 walk_at "rd"
 intro z hz
 have sz:=ao.new hz (HO.tup [V.str (Str.ofString "must"),V.str (Str.ofString "if"),V.str (Str.ofString "while")])
 refine⟨z,_,rfl,.inr (.of aj),rfl,rfl,_,rfl,fG (fun e=>?_) (fun e=>?_)⟩
 ·have e:=e
  simp only[Bool.false_eq_true,if_false,yx,decide_eq_true_eq] at e
  obtain⟨sg,l,r,cp,tl,tr,dl,dr,ew⟩:=E5 e po
  rw[ew] at q
  exact⟨p,rv,pr,i,hi,hf,rs,sg,l,r,rfl,co.mono sz,ok,qM.mono sz,IB,cp,tl,tr,dl,dr,fun L us H' s' S0 y w'=>q L us H' (sz.trans s') (sz.free S0) y w'⟩
 have e0:=e
 simp only[Bool.false_eq_true,if_false,yx,decide_eq_true_eq] at e0
 refine(j3 _ _).mpr (ax fun U4 m5=>?_)
 clear j3 e
 obtain⟨dx,nl,sd,fa,SU,st,wy,uu,ws,h1,h2,h3,h4,h5,h6,h7,h8,h9,_⟩:=co.at_
 have li:i<uu.length:=by lia
 obtain⟨v,hv,Mw⟩:=h9.get (i:=i) (d:=cT (PG.aD pr.body)[i]) (by rw[List.getElem?_map,List.getElem?_eq_getElem hi];rfl)
 have g:=km _ _ h7 ok.pw i hi v hv
 walk_at "rd"
 refine⟨p,_,dx,_,.ref st,rfl,sz _ _ h1,T.cZ,T.bV,rfl,⟨st,v,rfl,.inl ⟨_,.inl _,.inl (sz _ _ h8),rfl,g.symm⟩,(m5 _ _).mpr (ax fun U5 sy=>?_)⟩⟩
 clear m5
 obtain⟨ra,us,rfl,K4,F6⟩:=qM
 have vE:us.length=pr.aA.length:=by rw[F6.1];exact IB
 walk_at "rd"
 refine⟨p,ra,pr,us,rfl,co.mono sz,sz.bL K4,vE,ok.nb,ok.o9,fun d H2 Mx hd2 y2=>(sy _ _).mpr (ax fun U6 sC=>?_)⟩
 clear sy
 have s2:=sz.trans Mx
 have hd:=sz.free hd2
 have nm:=(pb.of F6 vE ok.nb).mono s2
 have fin:∀(H5:Hp) (aJ:List (Key×V)) (oA:List PG.Rg),ao H H5->H5 d=some (.dK aJ)->pb K H5 pr.aA aJ oA->PG.eV pr.aA rs (PG.aL pr.body 0)[i].2.2 (PG.aD pr.body)[i]=[((PG.aL pr.body 0)[i].2.2.getD 0 0,oA)]->
  U6 [some (V.ref p),some (V.int (PG.aD pr.body)[i].row),some (V.ref ra),some (V.str (i6 (PG.aD pr.body)[i].wd)),some v,some (V.ref d)] H5:=by
  intro H5 aJ oA s5 y5 n5 es
  rw[es] at q
  refine(sC _ _).mpr ?_
  clear sC
  walk_at "rd"
  obtain⟨dx,fs,wy,wq,g1,g2,g3,g4⟩:=(co.mono s5).way ok i hi hf
  have e0:(PG.aL pr.body 0)[i].2.2[0]?=some ((PG.aL pr.body 0)[i].2.2.getD 0 0):=by rw[List.getD_eq_getElem?_getD,List.getElem?_eq_getElem w0];rfl
  have qq:uy ((PG.aL pr.body 0)[i].2.2.map V.int) ((0:Nat):Int)=some (V.int ((PG.aL pr.body 0)[i].2.2.getD 0 0)):=aw (by rw[List.getElem?_map,e0];rfl)
  obtain⟨QB,lw,look,Oi⟩:=n5.list
  refine⟨p,_,dx,fs,.ref wy,rfl,g1,T.cZ,T.fg,g2,wy,.ref wq,rfl,g3,aG g4 (v:=.int ((PG.aL pr.body 0)[i].2.2.getD 0 0)) qq ?_⟩
  refine⟨p,d,pr,aJ,QB,rfl,co.mono s5,y5,lw,look,ok.o9,fun a H6 s6 sq p1 vG p2 oQ=>?_⟩
  have n1:=ao.new vG (HO.tup [V.int ((PG.aL pr.body 0)[i].2.2.getD 0 0),V.ref a])
  have n2:=ao.new oQ (HO.lst [V.ref p1])
  have h1:(upd H6 p1 (HO.tup [V.int ((PG.aL pr.body 0)[i].2.2.getD 0 0),V.ref a])) p1=some (HO.tup [V.int ((PG.aL pr.body 0)[i].2.2.getD 0 0),V.ref a]):=aj
  exact q p2 _ _ (((s5.trans s6).trans n1).trans n2) (((s5.trans s6).trans n1).free oQ) aj (.cons ⟨p1,_,rfl,.of (n2 _ _ h1),a,QB,rfl,n2.bL (n1.bL sq),(Oi.mono s6).mono (n1.trans n2)⟩ .nil)
 have HK:(c5 pr.aA us).length<sizeLine:=by
  have line:sizeLine=2 ^ 24:=rfl
  have:=ok.o9
  unfold c5
  rw[List.length_zipWith]
  lia
 have La:∀ {H3:Hp} (o:HO),ao H H3->ao H (upd H3 d o):=fun o s3=>((bh.of s3:bh d H _).put o).same hd
 walk_at "rd"
 refine fG (fun e=>?_) (fun e=>?_)
 ·obtain⟨k,b,vj⟩:=CD ((E3 _).mp e)
  rw[vj] at Mw po
  obtain⟨va,rfl,hT⟩:=sD Mw
  refine⟨p,_,dx,_,.ref sd,rfl,s2 _ _ h1,T.cZ,T.eA,rfl,aG (s2.bL hT) (v:=.str (S b)) (aw (j:=2) rfl) ⟨sd,.int (cm pr.aA b),rfl,.inl ⟨_,.inr (S b),.inl (s2 _ _ h4),rfl,(uU ok.nb po).symm⟩,?_⟩⟩
  refine⟨_,rfl,fun v3 H3 s3 h3=>aG ((s2.trans s3).bL hT) (v:=.str (S b)) (aw (j:=2) rfl) ⟨d,_,rfl,sV.k (k:=.inr (S b)) (s3 _ _ y2) HK,?_⟩⟩
  exact fin _ _ _ (La _ (s2.trans s3)) aj (((nm.mono s3).put ok.nb po h3).dk (s3 _ _ y2) ((bh.refl d H3).put _)) (by rw[vj];rfl)
 refine fG (fun e2=>?_) (fun e2=>?_)
 ·obtain⟨k,b,tr,vj⟩:=CF ((E4 _).mp e2)
  rw[vj] at Mw po
  obtain⟨va,u,rfl,hT,ru⟩:=oB Mw
  refine aG (s2.bL hT) (v:=u) (aw (j:=3) rfl) ⟨u,d,tr,_,_,rfl,ru.mono s2,y2,nm.Iz ok.nb po.2.1,by have:=po.2.2;lia,by have:=po.2.2;lia,fun x3 H3 s3 h3=>?_⟩
  have zS:=s2.trans s3
  refine⟨p,_,dx,_,.ref sd,rfl,zS _ _ h1,T.cZ,T.eA,rfl,aG (zS.bL hT) (v:=.str (S b)) (aw (j:=2) rfl) ⟨sd,.int (cm pr.aA b),rfl,.inl ⟨_,.inr (S b),.inl (zS _ _ h4),rfl,(uU ok.nb po.1).symm⟩,?_⟩⟩
  refine⟨_,_,_,rfl,h3,zU (fun b hb=>(bp b hb).1) b,CI (fun b hb=>(bp b hb).2) b,fun v4 H4 s4 S1=>aG ((zS.trans s4).bL hT) (v:=.str (S b)) (aw (j:=2) rfl) ⟨d,_,rfl,sV.k (k:=.inr (S b)) (s4 _ _ (s3 _ _ y2)) HK,?_⟩⟩
  exact fin _ _ _ (La _ (zS.trans s4)) aj ((((nm.mono s3).mono s4).put ok.nb po.1 S1).dk (s4 _ _ (s3 _ _ y2)) ((bh.refl d H4).put _)) (by rw[vj];rfl)
 have es:PG.eV pr.aA rs (PG.aL pr.body 0)[i].2.2 (PG.aD pr.body)[i]=[((PG.aL pr.body 0)[i].2.2.getD 0 0,rs)]:=by
  have a1:(PG.aD pr.body)[i].wd≠.ask:=fun z=>e ((E3 _).mpr z)
  have a2:(PG.aD pr.body)[i].wd≠.put:=fun z=>e2 ((E4 _).mpr z)
  generalize (PG.aD pr.body)[i]=sm at a1 a2 e0
  cases sm<;>first |rfl |(exact absurd rfl a1) |(exact absurd rfl a2) |(exact absurd (by simp[PG.bM.wd]) e0)
 exact fin _ _ _ s2 y2 nm es
theorem kP:∀s:PG.bM,(V.str (i6 s.wd)=V.str (Str.ofString "while"))↔s.wd=.gw:=by
 intro s
 cases s<;>simp only[PG.bM.wd]<;>decide +kernel
theorem oE:∀s:PG.bM,(V.str (i6 s.wd)=V.str (Str.ofString "if"))↔s.wd=.ifs:=by
 intro s
 cases s<;>simp only[PG.bM.wd]<;>decide +kernel
theorem tM:∀s:PG.bM,(V.str (i6 s.wd)=V.str (Str.ofString "stop"))↔s.wd=.stop:=by
 intro s
 cases s<;>simp only[PG.bM.wd]<;>decide +kernel
theorem yy{K:PySem.W.Frag}{H:Hp}{d0 d1 d2 d3 d4 d5:Dp}{xs:List V}{ds:List Dp}(h:aC K H (d0::d1::d2::d3::d4::d5::ds) xs):∃v0 v1 v2 v3 v4 v5 r,xs=v0::v1::v2::v3::v4::v5::r/\Rep K H d5 v5/\aC K H ds r:=by
 rw[aC.az] at h
 obtain⟨v0,t0,rfl,_,h⟩:=h
 rw[aC.az] at h
 obtain⟨v1,t1,rfl,_,h⟩:=h
 rw[aC.az] at h
 obtain⟨v2,t2,rfl,_,h⟩:=h
 rw[aC.az] at h
 obtain⟨v3,t3,rfl,_,h⟩:=h
 rw[aC.az] at h
 obtain⟨v4,t4,rfl,_,h⟩:=h
 rw[aC.az] at h
 obtain⟨v5,t5,rfl,e5,h⟩:=h
 exact⟨v0,v1,v2,v3,v4,v5,t5,rfl,e5,h⟩
theorem hV(T:Tx K mg t):bJ P w K mg base eY 1 t.di t.dv ["body", "behind"] (pF K):=by
 refine T.bD.F.j4 mQ (fun vs H Q E h=>?_) (fun eE A outer s H vs Q E hr h=>?_)
 ·obtain⟨_,_,_,rfl,_⟩:=h
  rfl
 obtain⟨b,body,x,rfl,rb,lb,q⟩:=h
 have nd:=mQ.nd
 refine⟨_,[some (V.ref b),some (V.int x)],(ak (bw (AJ (pv 0) (fun _=>rfl))
 (ar (aI (av au (av bK (pv 0) ah ai) ah ai)))
 aN)
 (ar (aI (pv 1)))),rfl,?_⟩
 walk_at "rd"
 rw[Rep.bF] at rb
 obtain⟨_,xs,e,hx,rs⟩:=rb
 cases e
 have line:sizeLine=2 ^ 24:=rfl
 cases body with
 |nil=>
  rw[List.map_nil,aC.aV] at rs
  subst rs
  exact⟨false,.inl ⟨_,hx,rfl⟩,q⟩
 |cons st r=>
  rw[List.map_cons,aC.az] at rs
  obtain⟨v,t,rfl,rv,rs⟩:=rs
  obtain⟨a,ys,rfl,hs⟩:=fD st rv
  refine⟨true,.inl ⟨_,hx,rfl⟩,?_⟩
  refine(if_pos rfl).mpr (bI (v:=.ref a) hx (aw (j:=0) rfl) ?_)
  exact aG hs (v:=.int st.row) (aw (j:=1) rfl) q
theorem qD(T:Tx K mg t):bJ P w K mg base eY 1 t.dI t.dZ ["statement", "after"] (uN K):=by
 refine T.dM.F.j4 kI (fun vs H Q E h=>?_) (fun eE A outer s H vs Q E hr h=>?_)
 ·obtain⟨_,_,_,rfl,_⟩:=h
  rfl
 obtain⟨v,st,x,rfl,rv,q⟩:=h
 have nd:=kI.nd
 refine⟨_,[some v,some (V.int x)],(ak (bw (aE bC (av au (pv 0) ah ai) bf (aH _))
 (ar (aI (av au (pv 0) ah ai)))
 aN)
 (ar (aI (pv 1)))),rfl,?_⟩
 obtain⟨a,ys,rfl,hs⟩:=fD st rv
 walk_at "rd"
 refine aG hs (aw (j:=0) rfl) ⟨rfl,fG (fun e=>?_) (fun e=>?_)⟩
 ·have ew:=(kP st).mp e
  refine aG hs (v:=.int st.row) (aw (j:=1) rfl) ?_
  cases st<;>first |exact q |cases ew
 ·have ew:st.wd≠.gw:=fun z=>e ((kP st).mpr z)
  cases st<;>first |exact q |exact absurd rfl ew
theorem m7(T:Tx K mg t):bJ P w K mg base eY 1 t.d7 t.eO ["statement"] (qd K):=by
 refine T.cX.F.j4 mS (fun vs H Q E h=>?_) (fun eE A outer s H vs Q E hr h=>?_)
 ·obtain⟨_,_,_,rfl,_⟩:=h
  rfl
 obtain⟨v,st,H0,rfl,rv,s0,q⟩:=h
 have nd:=mS.nd
 refine⟨_,[some v],(ak (bw (aE bC (av au (pv 0) ah ai) bf (aH _))
 (ar (aI (bt (aa (av au (pv 0) ah ai) (aa (av au (pv 0) ah ai) ag aO) aO))))
 aN)
 (ak (bw (aE bC (av au (pv 0) ah ai) bf (aH _))
 (ar (aI (bt (aa (av au (pv 0) ah ai) ag aO))))
 aN)
 (ar (aI (bt ag))))),rfl,?_⟩
 obtain⟨a,ys,rfl,hs⟩:=fD st rv
 have hs:=s0.bL hs
 walk_at "rd"
 refine aG hs (aw (j:=0) rfl) ⟨rfl,fG (fun e=>?_) (fun e=>aG hs (aw (j:=0) rfl) ⟨rfl,fG (fun e2=>?_) (fun e2=>?_)⟩)⟩
 ·have ew:=(oE st).mp e
  cases st<;>first |(exfalso;cases ew;done) |skip
  rename_i k sg l r x y
  rw[cT,Rep.aQ] at rv
  obtain⟨_,xs,e0,hx,rs⟩:=rv
  cases e0
  obtain⟨v0,v1,v2,v3,v4,v5,rr,rfl,r5,rs⟩:=yy rs
  rw[aC.az] at rs
  obtain⟨v6,t6,rfl,r6,_⟩:=rs
  refine aG (s0.bL hx) (v:=v5) (aw (j:=5) rfl) (aG (s0.bL hx) (v:=v6) (aw (j:=6) rfl) fun p hp=>?_)
  rw[gF] at r5 r6
  exact q p _ _ (ao.new hp _) hp aj (.cons r5 (.cons r6 .nil))
 ·have ew:=(kP st).mp e2
  cases st<;>first |(exfalso;cases ew;done) |skip
  rename_i k sg l r x
  rw[cT,Rep.aQ] at rv
  obtain⟨_,xs,e0,hx,rs⟩:=rv
  cases e0
  obtain⟨v0,v1,v2,v3,v4,v5,rr,rfl,r5,rs⟩:=yy rs
  refine aG (s0.bL hx) (v:=v5) (aw (j:=5) rfl) fun p hp=>?_
  rw[gF] at r5
  exact q p _ _ (ao.new hp _) hp aj (.cons r5 .nil)
 ·intro p hp
  have e1:st.wd≠.ifs:=fun z=>e ((oE st).mpr z)
  have S2:st.wd≠.gw:=fun z=>e2 ((kP st).mpr z)
  refine q p [] _ (ao.new hp _) hp aj ?_
  cases st<;>first |exact .nil |exact absurd rfl e1 |exact absurd rfl S2
theorem wX(T:Tx K mg t):bJ P w K mg base eY 2 t.ic t.iD ["statement", "after"] (Bz K):=by
 have eC:bJ P w K mg base eY 1 t.di t.dv ["body", "behind"] (pF K):=hV T
 refine T.ig.F.j4 qx (fun vs H Q E h=>?_) (fun eE A outer s H vs Q E hr h=>?_)
 ·obtain⟨_,_,_,rfl,_⟩:=h
  rfl
 obtain⟨v,st,x,rfl,rv,hl,q⟩:=h
 have nd:=qx.nd
 obtain⟨Cy,qB,qC⟩:=T.tJ
 refine⟨_,[some v,some (V.int x),none],(ak (aP (i:=2) nd rfl (Or.inl rfl) (av au (pv 0) ah ai))
 (ak (bw (aE bC (pv 2) bf (aH _))
 (ar (aI (aZ (aa (pA rfl qB qC) ag ae))))
 aN)
 (ak (bw (aE bC (pv 2) bf (aH _))
 (ar (aI (aZ (aa (ay eC (hr.mono (by first|decide|omega)) rfl T.bD.m T.bD.F.kp T.bD.b .nil aT (aa (av au (pv 0) ah ai) (aa (pv 1) ag ae) aO)) (aa (ay eC (hr.mono (by first|decide|omega)) rfl T.bD.m T.bD.F.kp T.bD.b .nil aT (aa (av au (pv 0) ah ai) (aa (pv 1) ag ae) aO)) ag bo) bo))))
 aN)
 (ak (bw (aE bC (pv 2) bf (aH _))
 (ar (aI (aZ (aa (ay eC (hr.mono (by first|decide|omega)) rfl T.bD.m T.bD.F.kp T.bD.b .nil aT (aa (av au (pv 0) ah ai) (aa (av au (pv 0) ah ai) ag aO) aO)) (aa (pv 1) ag ae) bo))))
 aN)
 (ar (aI (aZ (aa (pv 1) ag ae)))))))),rfl,?_⟩
 obtain⟨a,ys,rfl,hs⟩:=fD st rv
 refine ax fun U1 gk=>?_
 walk_at "rd"
 refine aG hs (aw (j:=0) rfl) ((gk _ _).mpr ?_)
 walk_at "rd"
 have CJ:∀b∈aM st,b.length<=100000:=hl
 refine fG (fun e=>?_) (fun e=>fG (fun e1=>?_) (fun e1=>fG (fun e2=>?_) (fun e2=>?_)))
 ·have ew:=(tM st).mp (by rw[e])
  cases st<;>first |(exfalso;cases ew;done) |skip
  intro p hp
  exact q _ _ (ao.new hp _) (Rep.new hp (.cons (Rep.aY.mpr rfl) .nil))
 ·have ew:=(oE st).mp (by rw[e1])
  cases st<;>first |(exfalso;cases ew;done) |skip
  rename_i k sg l r y z
  rw[cT,Rep.aQ] at rv
  obtain⟨_,xs,e0,hx,rs⟩:=rv
  cases e0
  obtain⟨v0,v1,v2,v3,v4,v5,rr,rfl,r5,rs⟩:=yy rs
  rw[aC.az] at rs
  obtain⟨v6,t6,rfl,r6,_⟩:=rs
  rw[gF] at r5 r6
  obtain⟨a5,_,rfl,_⟩:=Rep.bF.mp r5
  obtain⟨a6,_,rfl,_⟩:=Rep.bF.mp r6
  refine aG hx (v:=.ref a5) (aw (j:=5) rfl) ⟨a5,y,x,rfl,r5,CJ y (by simp[aM]),aG hx (v:=.ref a6) (aw (j:=6) rfl) ⟨a6,z,x,rfl,r6,CJ z (by simp[aM]),fun p hp=>?_⟩⟩
  exact q _ _ (ao.new hp _) (Rep.new hp (.cons (Rep.aY.mpr rfl) (.cons (Rep.aY.mpr rfl) .nil)))
 ·have ew:=(kP st).mp (by rw[e2])
  cases st<;>first |(exfalso;cases ew;done) |skip
  rename_i k sg l r y
  rw[cT,Rep.aQ] at rv
  obtain⟨_,xs,e0,hx,rs⟩:=rv
  cases e0
  obtain⟨v0,v1,v2,v3,v4,v5,rr,rfl,r5,rs⟩:=yy rs
  rw[gF] at r5
  obtain⟨a5,_,rfl,_⟩:=Rep.bF.mp r5
  refine aG hx (v:=.ref a5) (aw (j:=5) rfl) (aG hs (v:=.int k) (aw (j:=1) rfl) ⟨a5,y,k,rfl,r5,CJ y (by simp[aM]),fun p hp=>?_⟩)
  exact q _ _ (ao.new hp _) (Rep.new hp (.cons (Rep.aY.mpr rfl) (.cons (Rep.aY.mpr rfl) .nil)))
 ·intro p hp
  have n1:st.wd≠.stop:=fun z=>e (V.str.inj ((tM st).mpr z))
  have n2:st.wd≠.ifs:=fun z=>e1 (V.str.inj ((oE st).mpr z))
  have n3:st.wd≠.gw:=fun z=>e2 (V.str.inj ((kP st).mpr z))
  have ew:kj st x=[x]:=by
   cases st<;>first |rfl |exact absurd rfl n1 |exact absurd rfl n2 |exact absurd rfl n3
  rw[ew] at q
  exact q _ _ (ao.new hp _) (Rep.new hp (.cons (Rep.aY.mpr rfl) .nil))
theorem CK{K:PySem.W.Frag}{Oo:Addr->Prop}{H:Hp}{ds es:List Dp}{vs us:List V}(a:cb K Oo H ds vs)(b:cb K Oo H es us):cb K Oo H (ds++es) (vs++us):=fun H2 u=>(a H2 u).append (b H2 u)
theorem sE{K:PySem.W.Frag}{H:Hp}:∀(n:Nat) {ds:List PG.bM} {vs:List V},aC K H (ds.map cT) vs->aC K H ((ds.drop n).map cT) (vs.drop n)
 |0,_,_,h=>h
 |n+1,[],vs,h=>by
  rw[List.map_nil,aC.aV] at h
  subst h
  exact .nil
 |n+1,d::ds,vs,h=>by
  rw[List.map_cons,aC.az] at h
  obtain⟨v,t,rfl,_,h⟩:=h
  exact sE n h
theorem CL(T:Tx K mg t){n:Nat}(iL:bJ P w K mg base eY (n+2) t.cL t.cO ["body", "behind"] (pG K n)) :
 bJ P w K mg base eY (n+3) t.cL t.cO ["body", "behind"] (pG K (n+1)):=by
 have eC:bJ P w K mg base eY 1 t.di t.dv ["body", "behind"] (pF K):=hV T
 have zW:bJ P w K mg base eY 2 t.ic t.iD ["statement", "after"] (Bz K):=wX T
 have kQ:bJ P w K mg base eY 1 t.d7 t.eO ["statement"] (qd K):=m7 T
 have rj:bJ P w K mg base eY 1 t.dI t.dZ ["statement", "after"] (uN K):=qD T
 refine T.bU.F.j4 jV (fun vs H Q E h=>?_) (fun eE A outer s H vs Q E hr h=>?_)
 ·obtain⟨_,_,_,rfl,_⟩:=h
  rfl
 obtain⟨b,body,x,rfl,rb,hd,hf,q⟩:=h
 have nd:=jV.nd
 refine⟨_,[some (V.ref b),some (V.int x),none,none,none,none,none],(ak (aP (i:=2) nd rfl (Or.inl rfl) (bt ag))
 (ak (gO PassesOwn.never rfl (xU rfl T.i3 (aa (pv 0) ag ae)) (i4 rfl (bA (aW (i:=3) nd rfl (Or.inl rfl)) (bA (aW (i:=4) nd rfl (Or.inl rfl)) eG)))
 (ak (aP (i:=5) nd rfl (Or.inl rfl) (ay eC (hr.mono (by first|decide|omega)) rfl T.bD.m T.bD.F.kp T.bD.b .nil aT (aa (dD jz (pv 0) (eJ (bg dq (pv 3) ah)) fH) (aa (pv 1) ag ae) aO)))
 (ak (gm (jR PySem.F.plainAttrs_list PySem.F.slot_list_append PySem.F.type_list_append fB (pv 2) (aa (aZ (aa (av au (pv 4) ah ai) (aa (av au (pv 4) ah ai) (aa (ay zW (hr.mono (by first|decide|omega)) rfl T.ig.m T.ig.F.kp T.ig.b .nil aT (aa (pv 4) (aa (pv 5) ag ae) ae)) ag bo) aO) aO)) ag cy)))
 (ar (gO PassesOwn.never rfl (cw (ay kQ (hr.mono (by first|decide|omega)) rfl T.cX.m T.cX.F.kp T.cX.b .nil aT (aa (pv 4) ag ae))) (aW (i:=6) nd rfl (Or.inl rfl))
 (ar (gm (jR PySem.F.plainAttrs_list PySem.F.slot_list_extend PySem.F.type_list_extend rR (pv 2) (aa (ay iL (hr.mono (by first|decide|omega)) rfl T.bU.m T.bU.F.kp T.bU.b .nil aT (aa (pv 6) (aa (ay rj (hr.mono (by first|decide|omega)) rfl T.dM.m T.dM.F.kp T.dM.b .nil aT (aa (pv 4) (aa (pv 5) ag ae) ae)) ag bo) ae)) ag bo)))))))))
 (ar (aI (pv 2))))),rfl,?_⟩
 have line:sizeLine=2 ^ 24:=rfl
 rw[Rep.bF] at rb
 obtain⟨_,xs,e,hx,rs⟩:=rb
 cases e
 have lx:xs.length=body.length:=by rw[rs.length,List.length_map]
 have lb:=jm body
 refine ax fun U1 gk=>?_
 walk_at "rd"
 intro tl My
 have s1:=ao.new My (.lst [])
 have y1:(upd H tl (.lst [])) tl=some (.lst []):=aj
 generalize upd H tl (.lst [])=H1 at *
 refine(gk _ _).mpr (ax fun U2 ji=>?_)
 clear gk
 walk_at "rd"
 obtain⟨Pv,CM⟩:∃Pv:Nat->St->Hp->Prop,∀i σ H2,Pv i σ H2↔∃(z3 z4 z5 z6:Option V) (pre:List PG.eM) (us:List V),σ=[some (V.ref b),some (V.int x),some (V.ref tl),z3,z4,z5,z6]/\ao H H2/\H2 tl=some (.lst us)/\cb K (·=tl) H2 (pre.map fM) us/\us.length=pre.length/\pre++PG.aL (body.drop i) x=PG.aL body x:=⟨_,fun _ _ _=>Iff.rfl⟩
 refine⟨_,rfl,⟨xs,s1.seq hx⟩,uL (K:=K) (a:=b) (xs:=xs) Pv ((CM _ _ _).mpr ⟨none,none,none,none,[],[],rfl,s1,y1,.nil,rfl,rfl⟩) (fun i σ H2 _ hv=>?_) ?_ ?_⟩
 ·obtain⟨_,_,_,_,_,_,_,s2,_⟩:=(CM _ _ _).mp hv
  exact s2.seq hx
 ·intro i y σ H2 tp hi hv F5
  obtain⟨z3,z4,z5,z6,pre,us,rfl,s2,y2,f2,lu,ep⟩:=(CM _ _ _).mp hv
  clear hv
  have done:=fun σ H7=>(CM (i+1) σ H7).mpr
  have li:i<body.length:=by have:=(List.getElem?_eq_some_iff.mp hi).1;lia
  obtain⟨v,hv,rv⟩:=rs.get (i:=i) (d:=cT body[i]) (by rw[List.getElem?_map,List.getElem?_eq_getElem li];rfl)
  rw[hi] at hv
  cases hv
  have ed:body.drop i=body[i]::body.drop (i+1):=List.drop_eq_getElem_cons li
  rw[ed,PG.aL,Bx] at ep
  have mem:body[i]∈body:=List.getElem_mem li
  obtain⟨fm,dm⟩:=nR body _ mem
  generalize pL:body[i]=st at *
  have s3:=s2.trans (ao.new F5 (.tup [V.int i,y]))
  have n3:tl≠tp:=aB y2 F5
  have y3:=ao.new F5 (.tup [V.int i,y]) _ _ y2
  have f3:=f2.up (.of (ao.new F5 (.tup [V.int i,y])))
  have t3:(upd H2 tp (.tup [V.int i,y])) tp=some (.tup [V.int i,y]):=aj
  generalize upd H2 tp (.tup [V.int i,y])=H3 at *
  obtain⟨sa,ys,rfl,hs⟩:=fD st rv
  refine⟨tp,_,rfl,.of t3,rfl,_,_,rfl,_,_,rfl,rfl,?_⟩
  refine ax fun U3 j3=>?_
  walk_at "rd"
  refine⟨_,rfl,b,_,rfl,s3.seq hx,fun p4 oF=>?_⟩
  have ec:gC xs (some ((i:Int)+1)) none=xs.drop (i+1):=by
   unfold gC
   rw[HT.pT,show (i:Int)+1=((i+1:Nat):Int) by lia,HT.mB]
   rw[show min (i+1) xs.length=i+1 by lia]
   exact List.take_of_length_le (by rw[List.length_drop];lia)
  rw[ec]
  have s4:=s3.trans (ao.new oF (.lst (xs.drop (i+1))))
  have y4:=ao.new oF (.lst (xs.drop (i+1))) _ _ y3
  have f4:=f3.up (.of (ao.new oF (.lst (xs.drop (i+1)))))
  have l4:(upd H3 p4 (.lst (xs.drop (i+1)))) p4=some (.lst (xs.drop (i+1))):=aj
  generalize upd H3 p4 (.lst (xs.drop (i+1)))=H4 at *
  have S3:Rep K H4 (.lst ((body.drop (i+1)).map cT)) (.ref p4):=Rep.bF.mpr ⟨p4,_,rfl,.of l4,sE (i+1) (rs.mono s4)⟩
  refine⟨p4,body.drop (i+1),x,rfl,S3,by rw[List.length_drop];lia,(j3 _ _).mpr (ax fun U4 m5=>?_)⟩
  clear j3
  generalize PG.bz (body.drop (i+1)) x=af at *
  have wY:=(show bR K H4 sa _ from s4.bL hs)
  walk_at "rd"
  refine⟨.inl ⟨rfl,_,.of y4⟩,aG wY (v:=.int st.row) (aw (j:=1) rfl) (aG wY (v:=.str (i6 st.wd)) (aw (j:=0) rfl) ?_)⟩
  have sh:By st:=fun bb Ny=>by
   have:=(jG st bb Ny).1
   have:=jm bb
   lia
  refine⟨.ref sa,st,af,rfl,rv.mono s4,sh,fun u H5 s5 ru p6 mr=>?_⟩
  have y5:=s5 _ _ y4
  have f5:=f4.up (.of s5)
  have fu:Fix K (·=tl) H5 (.tup ((kj st af).map .int)) u:=Hi y5 (by rw[vC];exact nQ _) ru
  have n6:p6≠tl:=(aB y5 mr).symm
  have s6:=ao.new mr (.tup [V.int st.row,V.str (i6 st.wd),u])
  have ft:Fix K (·=tl) (upd H5 p6 (.tup [V.int st.row,V.str (i6 st.wd),u])) (fM (st.row,st.wd,kj st af)) (.ref p6):=Fix.tup aj n6 (.cons .int (.cons .str (.cons (fu.up (.of s6)) .nil)))
  have f6:=f5.up (.of s6)
  have y6:=s6 _ _ y5
  have Lb:=(s4.trans s5).trans s6
  generalize upd H5 p6 (.tup [V.int st.row,V.str (i6 st.wd),u])=H6 at *
  have S4:pre.length<=1000:=by
   have h1:=congrArg List.length ep
   have h2:=congrArg List.length (PG.dH body x)
   simp only[List.length_append,List.length_map,List.length_cons] at h1 h2
   lia
  refine⟨tl,us,_,rfl,rfl,y6,by lia,?_⟩
  have s7:ao H (upd H6 tl (.lst (us++[V.ref p6]))):=fun z o e=>by rw[aF (aB e My)];exact Lb z o e
  have f7:=(f6.snoc ft).up (aX.refl.put (O:=(·=tl)) rfl (.lst (us++[V.ref p6])))
  have y7:(upd H6 tl (.lst (us++[V.ref p6]))) tl=some (.lst (us++[V.ref p6])):=aj
  generalize upd H6 tl (.lst (us++[V.ref p6]))=H7 at *
  refine(m5 _ _).mpr ?_
  clear m5
  refine gD fun U hU=>?_
  walk_at "rd"
  refine⟨.ref sa,st,H,rfl,rv,s7,fun l8 bv H8 s8 QC y8 r8=>⟨l8,rfl,⟨bv,.of y8⟩,hU _ _ ?_⟩⟩
  have Ot:bv.length=(aM st).length:=by rw[r8.length,List.length_map]
  have S5:l8≠tl:=fun z=>by rw[z,y7] at QC;cases QC
  obtain⟨Pw,CO⟩:∃Pw:Nat->St->Hp->Prop,∀j σ H9,Pw j σ H9↔∃(z6:Option V) (us:List V) (vk:List PG.eM),σ=[some (V.ref b),some (V.int x),some (V.ref tl),some (V.int i),some (V.ref sa),some (V.int af),z6]/\ao H H9/\(∀z o,z≠tl->H8 z=some o->H9 z=some o)/\H9 tl=some (.lst us)/\cb K (·=tl) H9 (vk.map fM) us/\us.length=vk.length/\
   vk++((aM st).drop j).flatMap (fun bb=>PG.aL bb (fL st af))=pre++(st.row,st.wd,kj st af)::(aM st).flatMap (fun bb=>PG.aL bb (fL st af)):=⟨_,fun _ _ _=>Iff.rfl⟩
  refine gB (K:=K) (a:=l8) (xs:=bv) Pw ((CO _ _ _).mpr ⟨z6,_,pre++[(st.row,st.wd,kj st af)],rfl,s7.trans s8,fun z o _ e=>e,s8 _ _ y7,by rw[List.map_append];exact f7.up (.of s8),by simp[lu],by simp⟩) (fun j σ H9 _ hv=>?_) ?_ ?_
  ·obtain⟨_,_,_,_,_,k9,_⟩:=(CO _ _ _).mp hv
   exact .of (k9 _ _ S5 y8)
  ·intro j y σ H9 hj hv
   obtain⟨S6,Ao,vk,rfl,s9,k9,y9,f9,Ou,e9⟩:=(CO _ _ _).mp hv
   clear hv
   have lj:j<(aM st).length:=by have:=(List.getElem?_eq_some_iff.mp hj).1;lia
   obtain⟨v,hv,rb⟩:=r8.get (i:=j) (d:=.lst ((aM st)[j].map cT)) (by rw[List.getElem?_map,List.getElem?_eq_getElem lj];rfl)
   rw[hj] at hv
   cases hv
   have mj:(aM st)[j]∈aM st:=List.getElem_mem lj
   obtain⟨fb,db⟩:=jG st _ mj
   have ej:(aM st).drop j=(aM st)[j]::(aM st).drop (j+1):=List.drop_eq_getElem_cons lj
   rw[ej,List.flatMap_cons] at e9
   generalize (aM st)[j]=bb at *
   obtain⟨ab,_,rfl,_⟩:=Rep.bF.mp rb
   walk_at "rd"
   refine⟨.inl ⟨rfl,_,.of y9⟩,.ref sa,st,af,rfl,rv.mono s9,?_⟩
   refine⟨ab,bb,_,rfl,rb.mono s9,by lia,by lia,fun HM E6 mi ml Ov yA IC=>?_⟩
   have Lc:=ml _ _ y9
   have Ow:=f9.up (.of ml)
   have S7:cb K (·=tl) mi ((PG.aL bb (fL st af)).map fM) E6:=Ek Lc (rZ _) IC
   have HM:E6.length=(PG.aL bb (fL st af)).length:=by rw[IC.length,List.length_map]
   have Ht:vk.length+(PG.aL bb (fL st af)).length<=2000:=by
    have h1:=congrArg List.length e9
    have h2:=congrArg List.length ep
    have h3:=congrArg List.length (PG.dH body x)
    simp only[List.length_append,List.length_map,List.length_cons] at h1 h2 h3
    lia
   refine⟨tl,_,Ao,E6,rfl,rfl,Lc,yA,by lia,?_⟩
   refine(CO _ _ _).mpr ⟨_,Ao++E6,vk++PG.aL bb (fL st af),rfl,fun z o e=>?_,fun z o nz e=>?_,aj,?_,by simp[Ou,HM],by rw[<- e9];simp⟩
   ·rw[aF (aB e My)]
    exact ml _ _ (s9 _ _ e)
   ·rw[aF nz]
    exact ml _ _ (k9 z o nz e)
   ·rw[List.map_append]
    exact(CK Ow S7).up (aX.refl.put (O:=(·=tl)) rfl _)
  ·intro σ H9 hv
   obtain⟨S6,Ao,vk,rfl,s9,k9,y9,f9,Ou,e9⟩:=(CO _ _ _).mp hv
   rw[Ot,List.drop_length,List.flatMap_nil,List.append_nil] at e9
   refine done _ _ ⟨_,_,_,_,vk,Ao,rfl,s9,y9,f9,Ou,?_⟩
   rw[e9,<- ep]
   simp
 ·intro σ H2 hv
  obtain⟨z3,z4,z5,z6,pre,us,rfl,s2,y2,f2,lu,ep⟩:=(CM _ _ _).mp hv
  rw[lx,List.drop_length,PG.aL,List.append_nil] at ep
  refine(ji _ _).mpr ?_
  walk_at "rd"
  rw[ep] at f2
  exact q tl us H2 s2 My y2 f2.Hh
theorem sF(T:Tx K mg t):∀n,bJ P w K mg base eY (n+2) t.cL t.cO ["body", "behind"] (pG K n)
 |0=>by
  have no:∀vs H Q E,¬pG K 0 vs H Q E:=fun vs H Q E h=>by obtain⟨_,_,_,_,_,h,_⟩:=h;lia
  exact⟨fun vs H Q E h=>absurd h (no vs H Q E),fun A outer s H args us vs Q E _ _ _ _ h=>absurd h (no vs H Q E)⟩
 |n+1=>CL T (sF T n)
theorem yC(T:Tx K mg t):bJ P w K mg base eY 7 t.og t.mY ["program"] (BB K):=by
 have iL:=sF (P:=P) (w:=w) (base:=base) T 4
 refine T.om.F.j4 yq (fun vs H Q E h=>?_) (fun eE A outer s H vs Q E hr h=>?_)
 ·obtain⟨_,_,rfl,_⟩:=h
  rfl
 obtain⟨v,pr,rfl,rp,hd,hf,q⟩:=h
 have nd:=yq.nd
 obtain⟨Cy,qB,qC⟩:=T.tJ
 refine⟨_,[some v],(ar (aI (ay iL (hr.mono (by first|decide|omega)) rfl T.bU.m T.bU.F.kp T.bU.b .nil aT (aa (av au (pv 0) ah ai) (aa (pA rfl qB qC) ag ae) aO)))),rfl,?_⟩
 unfold gQ at rp
 rw[Rep.aQ] at rp
 obtain⟨a,xs,rfl,hx,rs⟩:=rp
 rw[aC.az] at rs
 obtain⟨v1,t1,rfl,r1,rs⟩:=rs
 rw[aC.az] at rs
 obtain⟨v2,t2,rfl,r2,rs⟩:=rs
 obtain⟨b,_,rfl,_⟩:=Rep.bF.mp r2
 walk_at "rd"
 refine aG hx (v:=.ref b) (aw (j:=1) rfl) ?_
 exact⟨b,pr.body,0,rfl,r2,by lia,hf,fun l us H' s' hl y r=>q l us H' s' hl y r⟩
theorem CQ(T:Tx K mg t){n:Nat}(gU:bJ P w K mg base eY (n+2) t.bW t.bZ ["body"] (mI K n)) :
 bJ P w K mg base eY (n+3) t.bW t.bZ ["body"] (mI K (n+1)):=by
 have kQ:bJ P w K mg base eY 1 t.d7 t.eO ["statement"] (qd K):=m7 T
 refine T.bO.F.j4 jq (fun vs H Q E h=>?_) (fun eE A outer s H vs Q E hr h=>?_)
 ·obtain⟨_,_,_,rfl,_⟩:=h
  rfl
 obtain⟨b,body,H0,rfl,s0,rb,hd,hf,q⟩:=h
 have nd:=jq.nd
 refine⟨_,[some (V.ref b),none,none,none],(ak (aP (i:=1) nd rfl (Or.inl rfl) (bt ag))
 (ak (gO PassesOwn.never rfl (cw (pv 0)) (aW (i:=2) nd rfl (Or.inl rfl))
 (ak (gm (jR PySem.F.plainAttrs_list PySem.F.slot_list_append PySem.F.type_list_append fB (pv 1) (aa (pv 2) ag ae)))
 (ar (gO PassesOwn.never rfl (cw (ay kQ (hr.mono (by first|decide|omega)) rfl T.cX.m T.cX.F.kp T.cX.b .nil aT (aa (pv 2) ag ae))) (aW (i:=3) nd rfl (Or.inl rfl))
 (ar (gm (jR PySem.F.plainAttrs_list PySem.F.slot_list_extend PySem.F.type_list_extend rR (pv 1) (aa (ay gU (hr.mono (by first|decide|omega)) rfl T.bO.m T.bO.F.kp T.bO.b .nil aT (aa (pv 3) ag ae)) ag bo))))))))
 (ar (aI (pv 1))))),rfl,?_⟩
 have line:sizeLine=2 ^ 24:=rfl
 rw[Rep.bF] at rb
 obtain⟨_,xs,e,hx,rs⟩:=rb
 cases e
 have lx:xs.length=body.length:=by rw[rs.length,List.length_map]
 have lb:=jm body
 have sl:=uP body
 refine ax fun U1 gk=>?_
 walk_at "rd"
 intro d Mz
 have s1:=ao.new Mz (.lst [])
 have y1:(upd H d (.lst [])) d=some (.lst []):=aj
 generalize upd H d (.lst [])=H1 at *
 refine(gk _ _).mpr (ax fun U2 ji=>?_)
 clear gk
 refine gD fun U hU=>?_
 walk_at "rd"
 refine⟨⟨xs,(s0.trans s1).seq hx⟩,hU _ _ ?_⟩
 clear hU
 obtain⟨Pv,CM⟩:∃Pv:Nat->St->Hp->Prop,∀i σ H3,Pv i σ H3↔∃(z2 z3:Option V) (us:List V),σ=[some (V.ref b),some (V.ref d),z2,z3]/\ao H H3/\us.length=(PG.aD (body.take i)).length/\H3 d=some (.lst us)/\aC K H0 ((PG.aD (body.take i)).map cT) us:=⟨_,fun _ _ _=>Iff.rfl⟩
 refine gB (K:=K) (a:=b) (xs:=xs) Pv ((CM _ _ _).mpr ⟨none,none,[],rfl,s1,rfl,y1,.nil⟩) (fun i σ H3 _ hv=>?_) ?_ ?_
 ·obtain⟨_,_,_,_,s3,_⟩:=(CM _ _ _).mp hv
  exact(s0.trans s3).seq hx
 ·intro i y σ H3 hi hv
  obtain⟨z2,z3,us,rfl,s3,lu,y3,r3⟩:=(CM _ _ _).mp hv
  clear hv
  have done:=fun σ H7=>(CM (i+1) σ H7).mpr
  have li:i<body.length:=by have:=(List.getElem?_eq_some_iff.mp hi).1;lia
  obtain⟨v,hv,rv⟩:=rs.get (i:=i) (d:=cT body[i]) (by rw[List.getElem?_map,List.getElem?_eq_getElem li];rfl)
  rw[hi] at hv
  cases hv
  have mem:body[i]∈body:=List.getElem_mem li
  obtain⟨fm,dm⟩:=nR body _ mem
  have et:PG.aD (body.take (i+1))=PG.aD (body.take i)++body[i]::(aM body[i]).flatMap PG.aD:=by
   rw[List.take_succ_eq_append_getElem li,qh,BE,El]
  rw[et] at done
  have eb:PG.aD body=(PG.aD (body.take i)++body[i]::(aM body[i]).flatMap PG.aD)++PG.aD (body.drop (i+1)):=by
   rw[<- et,<- qh,List.take_append_drop]
  rw[eb] at sl
  have sl:(PG.aD (body.take i)++body[i]::(aM body[i]).flatMap PG.aD).length<=1000:=by
   rw[List.length_append] at sl
   lia
  generalize body[i]=st at *
  generalize PG.aD (body.take i)=pre at *
  simp only[il,List.set]
  refine ax fun U3 j3=>?_
  walk_at "rd"
  refine⟨.inl ⟨rfl,_,.of y3⟩,d,us,y,rfl,rfl,y3,by simp only[List.length_append,List.length_cons] at sl;lia,(j3 _ _).mpr ?_⟩
  clear j3
  have y4:(upd H3 d (.lst (us++[y]))) d=some (.lst (us++[y])):=aj
  have s4:ao H (upd H3 d (.lst (us++[y]))):=fun z o e=>by rw[aF (aB e Mz)];exact s3 z o e
  generalize upd H3 d (.lst (us++[y]))=H4 at *
  refine gD fun U hU=>?_
  walk_at "rd"
  refine⟨y,st,H0,rfl,rv,s0.trans s4,fun p bv H5 QD hp h5 rc=>⟨p,rfl,⟨_,.of h5⟩,hU _ _ ?_⟩⟩
  clear hU
  have s5:=s4.trans QD
  have y5:=QD _ _ y4
  have S8:p≠d:=(aB y4 hp).symm
  have Ot:bv.length=(aM st).length:=by rw[rc.length,List.length_map]
  obtain⟨Pw,CO⟩:∃Pw:Nat->St->Hp->Prop,∀j σ H6,Pw j σ H6↔∃(z3:Option V) (Ao:List V),σ=[some (V.ref b),some (V.ref d),some y,z3]/\ao H H6/\H6 p=some (.lst bv)/\Ao.length=(pre++st::((aM st).take j).flatMap PG.aD).length/\H6 d=some (.lst Ao)/\aC K H0 ((pre++st::((aM st).take j).flatMap PG.aD).map cT) Ao:=⟨_,fun _ _ _=>Iff.rfl⟩
  refine gB (K:=K) (a:=p) (xs:=bv) Pw ((CO _ _ _).mpr ⟨z3,us++[y],rfl,s5,h5,by simp[lu],y5,?_⟩) (fun j σ H6 _ hv=>?_) ?_ ?_
  ·rw[List.take_zero,List.flatMap_nil,List.map_append]
   exact r3.append (.cons rv .nil)
  ·obtain⟨_,_,_,_,h6,_⟩:=(CO _ _ _).mp hv
   exact .of h6
  ·intro j y' σ H6 hj hv
   obtain⟨S9,Ao,rfl,s6,h6,Ox,y6,r6⟩:=(CO _ _ _).mp hv
   clear hv
   have F7:=fun σ H7=>(CO (j+1) σ H7).mpr
   have lj:j<(aM st).length:=by have:=(List.getElem?_eq_some_iff.mp hj).1;lia
   obtain⟨v,hv,QE⟩:=rc.get (i:=j) (d:=.lst ((aM st)[j].map cT)) (by rw[List.getElem?_map,List.getElem?_eq_getElem lj];rfl)
   rw[hj] at hv
   cases hv
   have mj:(aM st)[j]∈aM st:=List.getElem_mem lj
   obtain⟨fb,db⟩:=jG st _ mj
   have ej:((aM st).take (j+1)).flatMap PG.aD=((aM st).take j).flatMap PG.aD++PG.aD (aM st)[j]:=by
    rw[List.take_succ_eq_append_getElem lj,List.flatMap_append]
    simp
   have ea:(aM st).flatMap PG.aD=((aM st).take j).flatMap PG.aD++PG.aD (aM st)[j]++((aM st).drop (j+1)).flatMap PG.aD:=by
    rw[<- ej,<- List.flatMap_append,List.take_append_drop]
   rw[ej] at F7
   rw[ea] at sl
   generalize (aM st)[j]=bb at *
   generalize ((aM st).take j).flatMap PG.aD=mid at *
   generalize ((aM st).drop (j+1)).flatMap PG.aD=rest at *
   have Il:(pre++st::mid).length+(PG.aD bb).length<=1000:=by
    simp only[List.length_append,List.length_cons] at sl ⊢
    lia
   obtain⟨ab,_,rfl,_⟩:=Rep.bF.mp QE
   simp only[il,List.set]
   walk_at "rd"
   refine⟨.inl ⟨rfl,_,.of y6⟩,ab,bb,H0,rfl,s0.trans s6,QE,by lia,by lia,fun d2 Dq H7 s7 hd2 y7 r7=>?_⟩
   have l2:Dq.length=(PG.aD bb).length:=by rw[r7.length,List.length_map]
   refine⟨d,d2,_,_,rfl,rfl,s7 _ _ y6,y7,by lia,?_⟩
   refine F7 _ _ ⟨_,Ao++Dq,rfl,fun z o e=>by rw[aF (aB e Mz)];exact s7 _ _ (s6 z o e),by rw[aF S8];exact s7 _ _ h6,by simp only[List.length_append,List.length_cons] at *;lia,aj,?_⟩
   rw[show pre++st::(mid++PG.aD bb)=(pre++st::mid)++PG.aD bb by simp,List.map_append]
   exact r6.append r7
  ·intro σ H6 hv
   obtain⟨S9,Ao,rfl,s6,h6,Ox,y6,r6⟩:=(CO _ _ _).mp hv
   rw[Ot,List.take_length] at Ox r6
   exact done _ _ ⟨_,_,Ao,rfl,s6,Ox,y6,r6⟩
 ·intro σ H3 hv
  obtain⟨z2,z3,us,rfl,s3,lu,y3,r3⟩:=(CM _ _ _).mp hv
  rw[lx,List.take_length] at lu r3
  refine(ji _ _).mpr ?_
  walk_at "rd"
  exact q d us H3 s3 Mz y3 r3
theorem oG(T:Tx K mg t):∀n,bJ P w K mg base eY (n+2) t.bW t.bZ ["body"] (mI K n)
 |0=>by
  have no:∀vs H Q E,¬mI K 0 vs H Q E:=fun vs H Q E h=>by obtain⟨_,_,_,_,_,_,h,_⟩:=h;lia
  exact⟨fun vs H Q E h=>absurd h (no vs H Q E),fun A outer s H args us vs Q E _ _ _ _ h=>absurd h (no vs H Q E)⟩
 |n+1=>CQ T (oG T n)
theorem vn{ss:List PG.bM}{vs:List V}(l:vs.length=ss.length):(List.range ss.length).map (fun i=>((Sum.inl (ss.getD i (.stop 0)).row:Key),vs.getD i .c6))=fN ss vs:=by
 apply List.ext_getElem
 ·simp[fN,l]
 ·intro i h1 h2
  simp at h1
  simp[fN,h1,l]
theorem tN{fl:List PG.eM}{vs:List V}(l:vs.length=fl.length):(List.range fl.length).map (fun i=>((Sum.inl (fl.getD i (0,.stop,[])).1:Key),vs.getD i .c6))=List.zipWith (fun r v=>(Sum.inl r.1,v)) fl vs:=by
 apply List.ext_getElem
 ·simp[l]
 ·intro i h1 h2
  simp at h1
  simp[h1,l]
theorem vo{fl:List PG.eM}{vs:List V}(l:vs.length=fl.length):(List.zipWith (fun r v=>((Sum.inl r.1:Key),v)) fl vs).map (·.1)=fl.map fun r=>(Sum.inl r.1:Key):=by
 apply List.ext_getElem
 ·simp[l]
 ·intro i h1 h2
  simp
theorem yE{K:PySem.W.Frag}{H:Hp}:∀ {fl:List PG.eM} {us:List V},aC K H (fl.map fM) us->∃ws:List V,ws.length=fl.length/\∀i (hi:i<fl.length),∃a q,us[i]?=some (.ref a)/\ws[i]?=some (.ref q)/\bR K H a [.int fl[i].1,.str (i6 fl[i].2.1),.ref q]/\bR K H q (fl[i].2.2.map V.int)
 |[],us,_=>⟨[],rfl,fun i hi=>by simp at hi⟩
 |r::fl,us,h=>by
  have h0:=h
  rw[List.map_cons,aC.az] at h
  obtain⟨v,tl,rfl,h1,h2⟩:=h
  obtain⟨ws,l,hw⟩:=yE h2
  obtain⟨a,q,e,s1,s2⟩:=BH h0 (i:=0) (y:=v) rfl (by simp)
  refine⟨.ref q::ws,by simp[l],fun i hi=>?_⟩
  cases i with
  |zero=>exact⟨a,q,by rw[e];rfl,rfl,s1,s2⟩
  |succ i=>
   obtain⟨a',q',e1,e2,e3,e4⟩:=hw i (by simpa using hi)
   exact⟨a',q',by simpa using e1,by simpa using e2,by simpa using e3,by simpa using e4⟩
theorem wZ{b:List PG.bM}(pw:(PG.aD b).Pairwise fun a b=>a.row<b.row):((PG.aL b 0).map fun r=>(Sum.inl r.1:Key)).Nodup:=by
 have e:(PG.aL b 0).map (fun r=>(Sum.inl r.1:Key))=(PG.aD b).map fun s=>(Sum.inl s.row:Key):=by
  have h:((PG.aL b 0).map fun r=>(r.1,r.2.1))=(PG.aD b).map fun x=>(x.row,x.wd):=by rw[PG.dH,PG.eN]
  have h2:=congrArg (List.map fun r:Int×PG.Wd=>(Sum.inl r.1:Key)) h
  rw[List.map_map,List.map_map] at h2
  exact h2
 rw[e]
 exact qg pw
theorem kR{K:PySem.W.Frag}{H:Hp}{B:Addr}{bs:List PG.cD}(r:Rep K H (.lst (bs.map fK)) (.ref B)):∃xs,eD K H B xs/\xs.length=bs.length/\∀i x,xs[i]?=some x->∃a,x=.ref a/\bR K H a [.str (S (bs.getD i ⟨[],0,0⟩).name),.int (bs.getD i ⟨[],0,0⟩).size,.int (bs.getD i ⟨[],0,0⟩).first]:=by
 rw[Rep.bF] at r
 obtain⟨_,xs,e,q,rs⟩:=r
 cases e
 have lx:xs.length=bs.length:=by rw[rs.length,List.length_map]
 refine⟨xs,q,lx,fun i x hx=>?_⟩
 have li:i<bs.length:=by have:=(List.getElem?_eq_some_iff.mp hx).1;lia
 obtain⟨v,hv,rv⟩:=rs.get (i:=i) (d:=fK bs[i]) (by rw[List.getElem?_map,List.getElem?_eq_getElem li];rfl)
 rw[hx] at hv
 cases hv
 have eg:bs.getD i ⟨[],0,0⟩=bs[i]:=by rw[List.getD_eq_getElem?_getD,List.getElem?_eq_getElem li];rfl
 rw[eg]
 simp only[fK,Rep.aQ,aC.az,aC.aV,Rep.bu,Rep.aY] at rv
 obtain⟨a,ys,rfl,hS,_,_,rfl,rfl,_,_,rfl,rfl,_,_,rfl,rfl,rfl⟩:=rv
 exact⟨a,rfl,hS⟩
theorem mn{aJ:List (Key×V)}(h:(aJ.map (·.1)).Nodup):jC [] aJ=aJ:=by
 have:=lW aJ [] (by simpa using h)
 simpa using this
theorem lJ(T:Tx K mg t)(eC:bJ P w K mg base eY 1 t.di t.dv ["body", "behind"] (pF K))(gU:bJ P w K mg base eY 6 t.bW t.bZ ["body"] (mI K 4))(HN:bJ P w K mg base eY 7 t.og t.mY ["program"] (BB K)) :
 bJ P w K mg base eY 8 t.cB t.je ["self", "program"] (Ez K t.aS):=by
 refine T.hC.j4 lI (fun vs H Q E h=>?_) (fun eE A outer s H vs Q E hr h=>?_)
 ·obtain⟨_,_,_,_,rfl,_⟩:=h
  rfl
 obtain⟨p,dx,v,pr,rfl,hp,ID,rp,hd,hf,pw,nb,lb,q⟩:=h
 have nd:=lI.nd
 obtain⟨Cy,qB,qC⟩:=T.tJ
 refine⟨_,[some (.ref p),some v,none,none],(ak (aP (i:=2) nd rfl (Or.inl rfl) (av au (pv 1) ah ai))
 (ak (aP (i:=3) nd rfl (Or.inl rfl) (av au (pv 1) ah ai))
 (ak (pS (pv 0) (gv (own:=["box"]) (ix:=[]) rfl (by rfl) (by rfl) (cw (pv 2)) (fun _ _ _ _=>(aW (i:=0) (by show List.Nodup (["box"]:List Str);decide +kernel) rfl (Or.inl rfl))) (fun _ _ _ _=>eK) (fun _ _ _ _=>(av (fj (K:=K) rfl) (pv 0) ah ai))) rfl)
 (ak (pS (pv 0) (bN (lX rfl) rfl T.oo PyProof.Rows.Boot.«dict» (aa (gv (own:=["box"]) (ix:=[]) rfl (by rfl) (by rfl) (cw (pv 2)) (fun _ _ _ _=>(aW (i:=0) (by show List.Nodup (["box"]:List Str);decide +kernel) rfl (Or.inl rfl))) (fun _ _ _ _=>eK) (fun _ _ _ _=>(aZ (aa (av (fj (K:=K) rfl) (pv 0) ah ai) (aa (av (fj (K:=K) rfl) (pv 0) ah ai) ag aO) aO)))) ag jE)) rfl)
 (ak (pS (pv 0) (aZ (aa (ay eC (hr.mono (by first|decide|omega)) rfl T.bD.m T.bD.F.kp T.bD.b .nil aT (aa (pv 3) (aa (pA rfl qB qC) ag ae) ae)) (aa (bN gn rfl T.jP PyProof.Rows.Boot.«tuple» (aa (gv (own:=["box"]) (ix:=[]) rfl (by rfl) (by rfl) (cw (pv 2)) (fun _ _ _ _=>(aW (i:=0) (by show List.Nodup (["box"]:List Str);decide +kernel) rfl (Or.inl rfl))) (fun _ _ _ _=>eK) (fun _ _ _ _=>(av (fj (K:=K) rfl) (pv 0) ah ai))) ag jE)) ag bo) bo)) rfl)
 (ak (pS (pv 0) (bN (lX rfl) rfl T.oo PyProof.Rows.Boot.«dict» (aa (gv (own:=["statement"]) (ix:=[]) rfl (by rfl) (by rfl) (cw (ay gU (hr.mono (by first|decide|omega)) rfl T.bO.m T.bO.F.kp T.bO.b .nil aT (aa (pv 3) ag ae))) (fun _ _ _ _=>(aW (i:=0) (by show List.Nodup (["statement"]:List Str);decide +kernel) rfl (Or.inl rfl))) (fun _ _ _ _=>eK) (fun _ _ _ _=>(aZ (aa (av (fj (K:=K) rfl) (pv 0) ah ai) (aa (pv 0) ag ae) aO)))) ag jE)) rfl)
 (ar (pS (pv 0) (bN (lX rfl) rfl T.oo PyProof.Rows.Boot.«dict» (aa (gv (own:=["told"]) (ix:=[]) rfl (by rfl) (by rfl) (cw (ay HN (hr.mono (by first|decide|omega)) rfl T.om.m T.om.F.kp T.om.b .nil aT (aa (pv 1) ag ae))) (fun _ _ _ _=>(aW (i:=0) (by show List.Nodup (["told"]:List Str);decide +kernel) rfl (Or.inl rfl))) (fun _ _ _ _=>eK) (fun _ _ _ _=>(aZ (aa (av (fj (K:=K) rfl) (pv 0) ah ai) (aa (av (fj (K:=K) rfl) (pv 0) ah ai) ag aO) aO)))) ag jE)) rfl)))))))),rfl,?_⟩
 have line:sizeLine=2 ^ 24:=rfl
 have Oy:=rp
 unfold gQ at Oy
 rw[Rep.aQ] at Oy
 obtain⟨pa,Oz,rfl,MA,IE⟩:=Oy
 rw[aC.az] at IE
 obtain⟨v1,t1,rfl,MB,IE⟩:=IE
 rw[aC.az] at IE
 obtain⟨v2,t2,rfl,OA,IE⟩:=IE
 obtain⟨bb,_,rfl,_⟩:=Rep.bF.mp OA
 obtain⟨bx,_,rfl,_⟩:=Rep.bF.mp MB
 refine ax fun U1 gk=>?_
 walk_at "rd"
 refine aG MA (v:=.ref bx) (aw (j:=0) rfl) ((gk _ _).mpr (ax fun U2 ji=>?_))
 clear gk
 walk_at "rd"
 refine aG MA (v:=.ref bb) (aw (j:=1) rfl) ((ji _ _).mpr (ax fun U3 j3=>?_))
 clear ji
 walk_at "rd"
 simp only[uv,gX]
 walk_at "rd"
 obtain⟨OB,E7,Ld,g1⟩:=kR MB
 refine⟨⟨_,E7⟩,fun D1 IF=>hZ (K:=K) (r:=[]) (fun i=>.str (S (pr.aA.getD i ⟨[],0,0⟩).name)) E7 (by lia) IF (fun i x H2 hx s2 R hR=>?_) (fun H2 s2 h2=>⟨p,_,dx,[],rfl,s2 _ _ hp,T.cZ,T.eu,by decide,(j3 _ _).mpr (ax fun U4 m5=>?_)⟩)⟩
 ·obtain⟨a,rfl,ha⟩:=g1 i x hx
  walk_at "rd"
  exact aG (s2.bL ha) (v:=.str (S (pr.aA.getD i ⟨[],0,0⟩).name)) (aw (j:=0) rfl) hR
 clear j3
 rw[Ld,gc (fun b:PG.cD=>V.str (S b.name))] at h2
 have oQ:=s2 _ _ hp
 have n1:D1≠p:=(aB hp IF).symm
 have u3:aX (·=p) H (upd H2 p (.ins t.aS dx [("names",.ref D1)])):=(aX.of s2).trans (aX.refl.put (O:=(·=p)) rfl _)
 have ud:(upd H2 p (.ins t.aS dx [("names",.ref D1)])) p=some (.ins t.aS dx [("names",.ref D1)]):=aj
 have d1:(upd H2 p (.ins t.aS dx [("names",.ref D1)])) D1=some (.lst (pr.aA.map fun b=>.str (S b.name))):=by rw[aF n1];exact h2
 rw[show iN (Str.ofString "names") (V.ref D1) []=[(Str.ofString "names",V.ref D1)] from rfl]
 generalize upd H2 p (.ins t.aS dx [("names",.ref D1)])=H3 at *
 walk_at "rd"
 simp only[uv,gX]
 walk_at "rd"
 have Ta:=kZ hp u3 _ _ MB
 obtain⟨OC,MC,QF,g3⟩:=kR Ta
 refine⟨⟨_,MC⟩,fun D2 HP=>lY (K:=K) (r:=[]) (fun i=>(.inr (S (pr.aA.getD i ⟨[],0,0⟩).name),.int (pr.aA.getD i ⟨[],0,0⟩).size)) MC (by lia) HP (fun i x H2 hx s2 R hR=>?_) (fun ps H4 s4 h4 Ey ep=>⟨D2,ps,rfl,.of h4,fun q hq=>.of (Ey q hq),?_,fun D3 MD=>⟨p,_,dx,_,rfl,ao.new MD _ _ _ (s4 _ _ ud),T.cZ,T.eA,by simp,(m5 _ _).mpr (ax fun U5 sy=>?_)⟩⟩)⟩
 ·obtain⟨a,rfl,ha⟩:=g3 i x hx
  walk_at "rd"
  exact aG (s2.bL ha) (v:=.str (S (pr.aA.getD i ⟨[],0,0⟩).name)) (aw (j:=0) rfl) (aG (s2.bL ha) (v:=.int (pr.aA.getD i ⟨[],0,0⟩).size) (aw (j:=1) rfl) hR)
 ·have:=congrArg List.length ep
  simp only[List.length_map,List.length_range] at this
  lia
 clear m5
 have ek:ps.map (fun q=>(q.2.1,q.2.2))=pr.aA.map fun b=>(Sum.inr (S b.name),V.int b.size):=by
  rw[show (fun q:Addr×Key×V=>(q.2.1,q.2.2))=(·.2) from rfl,ep,QF,gc (fun b:PG.cD=>((Sum.inr (S b.name):Key),V.int b.size))]
 have nk:((pr.aA.map fun b=>((Sum.inr (S b.name):Key),V.int b.size)).map (·.1)).Nodup:=by
  rw[List.map_map]
  refine List.pairwise_map.mpr ((List.pairwise_map.mp nb).imp fun {a b} Mg e=>Mg ?_)
  exact jS.mp (Sum.inr.inj e)
 rw[ek,mn nk,show iN (Str.ofString "sizes") (V.ref D3) [(Str.ofString "names",V.ref D1)]=[(Str.ofString "names",V.ref D1),(Str.ofString "sizes",V.ref D3)] from rfl]
 have QG:=s4.trans (ao.new MD (.dK (pr.aA.map fun b=>(Sum.inr (S b.name),V.int b.size))))
 have d3:(upd H4 D3 (.dK (pr.aA.map fun b=>(Sum.inr (S b.name),V.int b.size)))) D3=some (.dK (pr.aA.map fun b=>(Sum.inr (S b.name),V.int b.size))):=aj
 generalize upd H4 D3 (.dK (pr.aA.map fun b=>(Sum.inr (S b.name),V.int b.size)))=H5 at *
 have n3:D3≠p:=bS d3 (QG _ _ ud) (by intro z;cases z)
 have u6:aX (·=p) H3 (upd H5 p (.ins t.aS dx [(Str.ofString "names",V.ref D1),(Str.ofString "sizes",V.ref D3)])):=(aX.of QG).trans (aX.refl.put (O:=(·=p)) rfl _)
 have mr:(upd H5 p (.ins t.aS dx [(Str.ofString "names",V.ref D1),(Str.ofString "sizes",V.ref D3)])) p=some (.ins t.aS dx [(Str.ofString "names",V.ref D1),(Str.ofString "sizes",V.ref D3)]):=aj
 have d3:(upd H5 p (.ins t.aS dx [(Str.ofString "names",V.ref D1),(Str.ofString "sizes",V.ref D3)])) D3=some (.dK (pr.aA.map fun b=>(Sum.inr (S b.name),V.int b.size))):=by rw[aF n3];exact d3
 generalize upd H5 p (.ins t.aS dx [(Str.ofString "names",V.ref D1),(Str.ofString "sizes",V.ref D3)])=H6 at *
 have d1:=u6 _ _ n1 d1
 have u6:=u3.trans u6
 have Tb:=kZ hp u6 _ _ MB
 have Tc:=kZ hp u6 _ _ OA
 walk_at "rd"
 simp only[uv,gX]
 walk_at "rd"
 have QH:=jm pr.body
 obtain⟨Vh,QI,Td,g6⟩:=kR Tb
 refine⟨bb,pr.body,0,rfl,Tc,by lia,⟨_,QI⟩,fun D4 Te=>hZ (K:=K) (r:=[]) (fun i=>.int (pr.aA.getD i ⟨[],0,0⟩).first) QI (by lia) Te (fun i x H2 hx s2 R hR=>?_) (fun H7 s7 h7=>⟨D4,_,rfl,.inl ⟨.of h7,fun D5 QJ D6 ME=>⟨p,_,dx,_,rfl,ao.new ME _ _ _ (ao.new QJ _ _ _ (s7 _ _ mr)),T.cZ,T.iJ,by simp,(sy _ _).mpr (ax fun U6 sC=>?_)⟩⟩⟩)⟩
 ·obtain⟨a,rfl,ha⟩:=g6 i x hx
  walk_at "rd"
  exact aG (s2.bL ha) (v:=.int (pr.aA.getD i ⟨[],0,0⟩).first) (aw (j:=2) rfl) hR
 clear sy
 rw[show iN (Str.ofString "first") (V.ref D6) [(Str.ofString "names",V.ref D1),(Str.ofString "sizes",V.ref D3)]=[(Str.ofString "names",V.ref D1),(Str.ofString "sizes",V.ref D3),(Str.ofString "first",V.ref D6)] from rfl]
 rw[Td,gc (fun b:PG.cD=>V.int b.first)] at ME ⊢
 have s8:=s7.trans ((ao.new QJ (.tup (pr.aA.map fun b=>V.int b.first))).trans (ao.new ME (.tup [V.int (PG.bz pr.body 0),V.ref D5])))
 have d5:(upd (upd H7 D5 (.tup (pr.aA.map fun b=>V.int b.first))) D6 (.tup [V.int (PG.bz pr.body 0),V.ref D5])) D5=some (.tup (pr.aA.map fun b=>V.int b.first)):=ao.new ME _ _ _ aj
 have d6:(upd (upd H7 D5 (.tup (pr.aA.map fun b=>V.int b.first))) D6 (.tup [V.int (PG.bz pr.body 0),V.ref D5])) D6=some (.tup [V.int (PG.bz pr.body 0),V.ref D5]):=aj
 generalize upd (upd H7 D5 (.tup (pr.aA.map fun b=>V.int b.first))) D6 (.tup [V.int (PG.bz pr.body 0),V.ref D5])=H8 at *
 have Ap:=s8 _ _ mr
 have n5:D5≠p:=bS d5 Ap (by intro z;cases z)
 have n6:D6≠p:=bS d6 Ap (by intro z;cases z)
 have u9:aX (·=p) H6 (upd H8 p (.ins t.aS dx [(Str.ofString "names",V.ref D1),(Str.ofString "sizes",V.ref D3),(Str.ofString "first",V.ref D6)])):=(aX.of s8).trans (aX.refl.put (O:=(·=p)) rfl _)
 have CS:(upd H8 p (.ins t.aS dx [(Str.ofString "names",V.ref D1),(Str.ofString "sizes",V.ref D3),(Str.ofString "first",V.ref D6)])) p=some (.ins t.aS dx [(Str.ofString "names",V.ref D1),(Str.ofString "sizes",V.ref D3),(Str.ofString "first",V.ref D6)]):=aj
 have d5:(upd H8 p (.ins t.aS dx [(Str.ofString "names",V.ref D1),(Str.ofString "sizes",V.ref D3),(Str.ofString "first",V.ref D6)])) D5=some (.tup (pr.aA.map fun b=>V.int b.first)):=by rw[aF n5];exact d5
 have d6:(upd H8 p (.ins t.aS dx [(Str.ofString "names",V.ref D1),(Str.ofString "sizes",V.ref D3),(Str.ofString "first",V.ref D6)])) D6=some (.tup [V.int (PG.bz pr.body 0),V.ref D5]):=by rw[aF n6];exact d6
 generalize upd H8 p (.ins t.aS dx [(Str.ofString "names",V.ref D1),(Str.ofString "sizes",V.ref D3),(Str.ofString "first",V.ref D6)])=H9 at *
 have d1:=u9 _ _ n1 d1
 have d3:=u9 _ _ n3 d3
 have u9:=u6.trans u9
 have Tf:=kZ hp u9 _ _ OA
 walk_at "rd"
 simp only[uv,gX]
 walk_at "rd"
 refine⟨bb,pr.body,H9,rfl,ao.refl _,Tf,by lia,hf,fun HM us mi ml Ov yA IC=>?_⟩
 have sl:=uP pr.body
 have vE:us.length=(PG.aD pr.body).length:=by rw[IC.length,List.length_map]
 refine⟨HM,rfl,⟨_,.of yA⟩,fun D7 OD=>lY (K:=K) (r:=[]) (fun i=>(.inl ((PG.aD pr.body).getD i (.stop 0)).row,us.getD i .c6)) (.of yA) (by lia) OD (fun i x H2 hx s2 R hR=>?_) (fun ps ue mv Dr Ey ep=>⟨D7,ps,rfl,.of Dr,fun q hq=>.of (Ey q hq),?_,fun D8 Le=>⟨p,_,dx,_,rfl,ao.new Le _ _ _ (mv _ _ (ml _ _ CS)),T.cZ,T.bV,by simp,(sC _ _).mpr ?_⟩⟩)⟩
 ·have li:i<(PG.aD pr.body).length:=by have:=(List.getElem?_eq_some_iff.mp hx).1;lia
  obtain⟨v',qJ,rv⟩:=IC.get (i:=i) (d:=cT (PG.aD pr.body)[i]) (by rw[List.getElem?_map,List.getElem?_eq_getElem li];rfl)
  rw[hx] at qJ
  cases qJ
  have e1:(PG.aD pr.body).getD i (.stop 0)=(PG.aD pr.body)[i]:=by rw[List.getD_eq_getElem?_getD,List.getElem?_eq_getElem li];rfl
  have e2:us.getD i .c6=x:=by rw[List.getD_eq_getElem?_getD,hx];rfl
  rw[e1,e2] at hR
  obtain⟨sa,ys,rfl,hs⟩:=fD _ rv
  walk_at "rd"
  exact aG ((ml.trans s2).bL hs) (v:=.int (PG.aD pr.body)[i].row) (aw (j:=1) rfl) hR
 ·have:=congrArg List.length ep
  simp only[List.length_map,List.length_range] at this
  lia
 clear sC
 have ek:ps.map (fun q=>(q.2.1,q.2.2))=fN (PG.aD pr.body) us:=by
  rw[show (fun q:Addr×Key×V=>(q.2.1,q.2.2))=(·.2) from rfl,ep,vE,vn vE]
 have nk:((fN (PG.aD pr.body) us).map (·.1)).Nodup:=by
  rw[qf _ _ vE]
  exact qg pw
 rw[ek,mn nk,show iN (Str.ofString "statements") (V.ref D8) [(Str.ofString "names",V.ref D1),(Str.ofString "sizes",V.ref D3),(Str.ofString "first",V.ref D6)]=[(Str.ofString "names",V.ref D1),(Str.ofString "sizes",V.ref D3),(Str.ofString "first",V.ref D6),(Str.ofString "statements",V.ref D8)] from rfl]
 have sG:=(ml.trans mv).trans (ao.new Le (.dK (fN (PG.aD pr.body) us)))
 have d8:(upd ue D8 (.dK (fN (PG.aD pr.body) us))) D8=some (.dK (fN (PG.aD pr.body) us)):=aj
 generalize upd ue D8 (.dK (fN (PG.aD pr.body) us))=uf at *
 have w4:=sG _ _ CS
 have n8:D8≠p:=bS d8 w4 (by intro z;cases z)
 have E8:aX (·=p) H9 (upd uf p (.ins t.aS dx [(Str.ofString "names",V.ref D1),(Str.ofString "sizes",V.ref D3),(Str.ofString "first",V.ref D6),(Str.ofString "statements",V.ref D8)])):=(aX.of sG).trans (aX.refl.put (O:=(·=p)) rfl _)
 have m8:(upd uf p (.ins t.aS dx [(Str.ofString "names",V.ref D1),(Str.ofString "sizes",V.ref D3),(Str.ofString "first",V.ref D6),(Str.ofString "statements",V.ref D8)])) p=some (.ins t.aS dx [(Str.ofString "names",V.ref D1),(Str.ofString "sizes",V.ref D3),(Str.ofString "first",V.ref D6),(Str.ofString "statements",V.ref D8)]):=aj
 have d8:(upd uf p (.ins t.aS dx [(Str.ofString "names",V.ref D1),(Str.ofString "sizes",V.ref D3),(Str.ofString "first",V.ref D6),(Str.ofString "statements",V.ref D8)])) D8=some (.dK (fN (PG.aD pr.body) us)):=by rw[aF n8];exact d8
 generalize upd uf p (.ins t.aS dx [(Str.ofString "names",V.ref D1),(Str.ofString "sizes",V.ref D3),(Str.ofString "first",V.ref D6),(Str.ofString "statements",V.ref D8)])=CT at *
 have d1:=E8 _ _ n1 d1
 have d3:=E8 _ _ n3 d3
 have d5:=E8 _ _ n5 d5
 have d6:=E8 _ _ n6 d6
 have Th:=jn CS E8 _ _ IC
 have E8:=u9.trans E8
 have OE:=kZ hp E8 _ _ rp
 walk_at "rd"
 simp only[uv,gX]
 walk_at "rd"
 refine⟨_,pr,rfl,OE,hd,hf,fun Ti fv IG vH Tj yH QK=>?_⟩
 obtain⟨ws,OF,QL⟩:=yE QK
 have Tn:fv.length=(PG.aL pr.body 0).length:=by rw[QK.length,List.length_map]
 have Vi:(PG.aL pr.body 0).length=(PG.aD pr.body).length:=by
  have h1:=congrArg List.length (PG.dH pr.body 0)
  rw[List.length_map] at h1
  lia
 refine⟨Ti,rfl,⟨_,.of yH⟩,fun D9 Lf=>lY (K:=K) (r:=[]) (fun i=>(.inl ((PG.aL pr.body 0).getD i (0,.stop,[])).1,ws.getD i .c6)) (.of yH) (by lia) Lf (fun i x H2 hx s2 R hR=>?_) (fun ps E9 OG To Ey ep=>⟨D9,ps,rfl,.of To,fun q hq=>.of (Ey q hq),?_,fun HQ CU=>⟨p,_,dx,_,rfl,ao.new CU _ _ _ (OG _ _ (vH _ _ m8)),T.cZ,T.fg,by simp,?_⟩⟩)⟩
 ·have li:i<(PG.aL pr.body 0).length:=by have:=(List.getElem?_eq_some_iff.mp hx).1;lia
  obtain⟨a,qq,e1,e2,q1,q2⟩:=QL i li
  rw[hx] at e1
  cases e1
  have g1:(PG.aL pr.body 0).getD i (0,.stop,[])=(PG.aL pr.body 0)[i]:=by rw[List.getD_eq_getElem?_getD,List.getElem?_eq_getElem li];rfl
  have g2:ws.getD i .c6=V.ref qq:=by rw[List.getD_eq_getElem?_getD,e2];rfl
  rw[g1,g2] at hR
  walk_at "rd"
  exact aG (s2.bL q1) (v:=.int (PG.aL pr.body 0)[i].1) (aw (j:=0) rfl) (aG (s2.bL q1) (v:=.ref qq) (aw (j:=2) rfl) hR)
 ·have:=congrArg List.length ep
  simp only[List.length_map,List.length_range] at this
  lia
 have ek:ps.map (fun q=>(q.2.1,q.2.2))=List.zipWith (fun r v=>(Sum.inl r.1,v)) (PG.aL pr.body 0) ws:=by
  rw[show (fun q:Addr×Key×V=>(q.2.1,q.2.2))=(·.2) from rfl,ep,Tn,tN OF]
 have nk:((List.zipWith (fun r v=>((Sum.inl r.1:Key),v)) (PG.aL pr.body 0) ws).map (·.1)).Nodup:=by
  rw[vo OF]
  exact wZ pw
 rw[ek,mn nk,show iN (Str.ofString "ways") (V.ref HQ) [(Str.ofString "names",V.ref D1),(Str.ofString "sizes",V.ref D3),(Str.ofString "first",V.ref D6),(Str.ofString "statements",V.ref D8)]=[(Str.ofString "names",V.ref D1),(Str.ofString "sizes",V.ref D3),(Str.ofString "first",V.ref D6),(Str.ofString "statements",V.ref D8),(Str.ofString "ways",V.ref HQ)] from rfl]
 have QM:=(vH.trans OG).trans (ao.new CU (.dK (List.zipWith (fun r v=>(Sum.inl r.1,v)) (PG.aL pr.body 0) ws)))
 have Lg:=OG.trans (ao.new CU (.dK (List.zipWith (fun r v=>(Sum.inl r.1,v)) (PG.aL pr.body 0) ws)))
 have QN:(upd E9 HQ (.dK (List.zipWith (fun r v=>(Sum.inl r.1,v)) (PG.aL pr.body 0) ws))) HQ=some (.dK (List.zipWith (fun r v=>(Sum.inl r.1,v)) (PG.aL pr.body 0) ws)):=aj
 generalize upd E9 HQ (.dK (List.zipWith (fun r v=>(Sum.inl r.1,v)) (PG.aL pr.body 0) ws))=IH at *
 have w5:=QM _ _ m8
 have OH:HQ≠p:=bS QN w5 (by intro z;cases z)
 have put:∀fs,aX (·=p) IH (upd IH p (.ins t.aS dx fs)):=fun fs=>aX.refl.put (O:=(·=p)) rfl _
 have uE:=fun fs=>(aX.of QM).trans (put fs)
 have uA:=fun fs=>E8.trans (uE fs)
 refine q _ (fun b o n e=>uA _ b o n e) ⟨⟨dx,D1,D3,D6,D5,D8,HQ,us,ws,aj,uA _ _ _ (bS ID hp (by intro z;cases z)) ID,uE _ _ _ n1 d1,uE _ _ _ n3 d3,uE _ _ _ n6 d6,uE _ _ _ n5 d5,vE,uE _ _ _ n8 d8,jn m8 (uE _) _ _ Th,OF,put _ _ _ OH QN,fun i hi=>?_⟩⟩
 obtain⟨a,qq,e1,e2,q1,q2⟩:=QL i hi
 refine⟨qq,e2,?_⟩
 have q2:=Lg.bL q2
 rcases q2 with (q2 |⟨o,q2⟩) |q2
 ·exact .inl (.inl (put _ _ _ (bS q2 w5 (by intro z;cases z)) q2))
 ·exact .inl (.inr ⟨o,put _ _ _ (bS q2 w5 (by intro z;cases z)) q2⟩)
 ·exact .inr q2
theorem dB(T:Tx K mg t):bJ P w K mg base eY 1 t.gK t.g7 ["state", "many"] (Of):=by
 refine T.aq.F.j4 mU (fun vs H Q E h=>?_) (fun eE A outer s H vs Q E hr h=>?_)
 ·obtain⟨_,_,rfl,_⟩:=h
  rfl
 obtain⟨s0,many,rfl,⟨n,m,hs⟩,h0,h1,q⟩:=h
 have nd:=mU.nd
 refine⟨_,[some (.ref s0),some (.int many),none],(ak (bw (aE bC (av bK (pv 0) ah ai) ah (aH _))
 (ak (gb (bg jx (bg vM (bg dq (av bK (pv 0) ah ai) ah) ah) ah) (pM (pv 0) ah set_list))
 (ak (gb (bg jx (bg vM (av bK (pv 0) ah ai) (av bK (pv 0) ah ai)) ah) (pM (pv 0) ah set_list))
 (ar (aI (bg jx (bg kU (bg jx (bg vM (av bK (pv 0) ah ai) ah) ah) ah) (pv 1))))))
 aN)
 (ak (aP (i:=2) nd rfl (Or.inl rfl) (bg jx (av bK (pv 0) ah ai) (pv 1)))
 (ak (gb (bg kU (av bK (pv 0) ah ai) (pv 1)) (pM (pv 0) ah set_list))
 (ar (aI (pv 2)))))),rfl,?_⟩
 refine ax fun U1 gk=>?_
 walk_at "rd"
 refine bI (.of hs) (v:=.int m) (aw (j:=1) rfl) ⟨rfl,fG (fun e=>?_) (fun e=>?_)⟩
 ·refine bI (.of hs) (v:=.int n) (aw (j:=0) rfl) ⟨_,_,rfl,rfl,_,_,rfl,rfl,mulR (by decide) (by decide),_,_,rfl,rfl,(by decide:(0:Int)<2147483647),s0,_,0,0,rfl,rfl,hs,rfl,?_⟩
  dsimp only
  have b1:=Int.emod_nonneg ((n+1)*48271) (show (2147483647:Int)≠0 by decide)
  have b2:=Int.emod_lt_of_pos ((n+1)*48271) (show (0:Int)<2147483647 by decide)
  generalize (n+1)*48271%2147483647=x at *
  have y1:(upd H s0 (.lst ([V.int n,V.int m].set 0 (V.int x)))) s0=some (.lst [V.int x,V.int m]):=aj
  refine bI (.of y1) (v:=.int x) (aw (j:=0) rfl) (bI (.of y1) (v:=.int x) (aw (j:=0) rfl) ⟨_,_,rfl,rfl,mulR (by lia) (by lia),_,_,rfl,rfl,(by decide:(0:Int)<2147483629),s0,_,0,0,rfl,rfl,y1,rfl,?_⟩)
  dsimp only
  have c1:=Int.emod_nonneg (x*x) (show (2147483629:Int)≠0 by decide)
  have c2:=Int.emod_lt_of_pos (x*x) (show (0:Int)<2147483629 by decide)
  generalize x*x%2147483629=y at *
  have y2:(upd (upd H s0 (.lst ([V.int n,V.int m].set 0 (V.int x)))) s0 (.lst ([V.int x,V.int m].set 0 (V.int y)))) s0=some (.lst [V.int y,V.int m]):=aj
  refine bI (.of y2) (v:=.int y) (aw (j:=0) rfl) ⟨_,_,rfl,rfl,mulR (by decide) (by decide),_,_,rfl,rfl,(by decide:(0:Int)<2147483587),_,_,rfl,rfl,⟨by decide,by decide⟩,_,_,rfl,rfl,h0,?_⟩
  exact q _ _ (Int.emod_nonneg _ (by lia)) (Int.emod_lt_of_pos _ h0) (((bh.refl s0 H).put _).put _) ⟨_,_,y2⟩
 ·refine(gk _ _).mpr ?_
  walk_at "rd"
  refine bI (.of hs) (v:=.int n) (aw (j:=0) rfl) ⟨_,_,rfl,rfl,h0,bI (.of hs) (v:=.int n) (aw (j:=0) rfl) ⟨_,_,rfl,rfl,⟨h0,by lia⟩,s0,_,0,0,rfl,rfl,hs,rfl,?_⟩⟩
  exact q _ _ (Int.emod_nonneg _ (by lia)) (Int.emod_lt_of_pos _ h0) ((bh.refl s0 H).put _) ⟨_,_,aj⟩
theorem m9(T:Tx K mg t):bJ P w K mg base eY 2 t.gL t.g8 ["state", "boxes"] (u0 K):=by
 have aU:=dB (P:=P) (w:=w) (K:=K) (base:=base) T
 refine T.cY.F.j4 mV (fun vs H Q E h=>?_) (fun eE A outer s H vs Q E hr h=>?_)
 ·obtain⟨_,_,_,rfl,_⟩:=h
  rfl
 obtain⟨s0,B,bs,rfl,hs,hB,q⟩:=h
 have nd:=mV.nd
 refine⟨_,[some (.ref s0),some (.ref B)],(ak (bw (PW.pt (pw_and (aE (nO (ka hr)) (pv 1) (bt ag) (aH _)) (pw_and1 (aE xw (ay aU (hr.mono (by first|decide|omega)) rfl T.aq.m T.aq.F.kp T.aq.b .nil aT (aa (pv 0) (aa ah ag aR) ae)) ah (aH _)))))
 (ar (aI (aZ (aa bf (aa (av au (av bK (pv 1) (ay aU (hr.mono (by first|decide|omega)) rfl T.aq.m T.aq.F.kp T.aq.b .nil aT (aa (pv 0) (aa (bH jA rfl T.vg PyProof.Rows.Boot.«len» (aa (pv 1) ag ae)) ag bo) ae)) c9) ah ai) ag aO) aR))))
 aN)
 (ar (aI (aZ (aa bf (aa (av bK (bt (aa (ay aU (hr.mono (by first|decide|omega)) rfl T.aq.m T.aq.F.kp T.aq.b .nil aT (aa (pv 0) (aa ah ag aR) ae)) (aa (ay aU (hr.mono (by first|decide|omega)) rfl T.aq.m T.aq.F.kp T.aq.b .nil aT (aa (pv 0) (aa ah ag aR) ae)) (aa (ay aU (hr.mono (by first|decide|omega)) rfl T.aq.m T.aq.F.kp T.aq.b .nil aT (aa (pv 0) (aa ah ag aR) ae)) ag bo) bo) bo)) (ay aU (hr.mono (by first|decide|omega)) rfl T.aq.m T.aq.F.kp T.aq.b .nil aT (aa (pv 0) (aa ah ag aR) ae)) c9) ag aO) aR))))),rfl,?_⟩
 refine ax fun U1 gk=>?_
 have num:∀H1,bh s0 H H1->mM H1 s0->U1 [some (.ref s0),some (.ref B)] H1:=by
  intro H1 u1 qL
  refine(gk _ _).mpr ?_
  clear gk
  walk_at "rd"
  refine⟨s0,4,rfl,qL,by decide,by decide,fun x2 H2 a2 b2 u2 pQ=>?_⟩
  refine⟨s0,12,rfl,pQ,by decide,by decide,fun x3 H3 a3 b3 u3 qK=>?_⟩
  refine⟨s0,1000,rfl,qK,by decide,by decide,fun x4 H4 a4 b4 u4 wY p hp=>?_⟩
  refine⟨s0,3,rfl,wY.new hp _,by decide,by decide,fun x5 H5 a5 b5 u5 vF=>?_⟩
  obtain⟨z,ez,z0,z1⟩:∃z:Int,uy [V.int x2,V.int x3,V.int x4] x5=some (V.int z)/\0<=z/\z<1000:=by
   obtain rfl |rfl |rfl:x5=0\/x5=1\/x5=2:=by lia
   ·exact⟨x2,aw (j:=0) rfl,a2,by lia⟩
   ·exact⟨x3,aw (j:=1) rfl,a3,by lia⟩
   ·exact⟨x4,aw (j:=2) rfl,a4,b4⟩
  refine bI (.of (u5 _ _ (wY.ne hp) aj)) ez fun p6 mr=>?_
  exact q _ (.num z) _ ((((((u1.trans u2).trans u3).trans u4).new hp _).trans u5).new mr _) (vF.new mr _) (fP vF mr (.cons .str (.cons .int .nil))) ⟨z0,z1⟩ (Nat.le_refl _)
 walk_at "rd"
 intro p1 vG
 obtain⟨xs,hx,lx⟩:=k7 hB
 have s1:=ao.new vG (.lst [])
 refine⟨B,p1,xs,rfl,rfl,s1.seq hx,.of aj,fG (fun e=>?_) (fun e=>?_)⟩
 ·have qL:=hs.same s1
  have Aq:=hB.same s1
  generalize upd H p1 (.lst [])=H1 at *
  refine⟨s0,3,rfl,qL,by decide,by decide,fun x2 H2 a2 b2 u2 pQ=>⟨_,_,rfl,rfl,_,rfl,fG (fun e2=>?_) (fun e2=>?_)⟩⟩
  ·have l0:0<bs.length:=by
    rw[<- lx]
    cases xs with
    |nil=>cases e
    |cons _ _=>simp
   obtain⟨ys,hy,ly⟩:=k7 (Aq.up u2)
   have HM:=hB.2
   refine⟨B,ys,rfl,.inl hy,s0,_,rfl,pQ,by lia,by lia,fun x3 H3 a3 b3 u3 qK=>((Aq.up u2).up u3).pick a3 (by lia) fun p4 oF=>?_⟩
   exact q _ (.box _) _ (((((bh.of s1).trans u2).trans u3)).new oF _) (qK.new oF _) (fP qK oF (.cons .str (.cons .str .nil))) (su a3 (by lia)) (Nat.le_refl _)
  ·exact num H2 ((bh.of s1).trans u2) pQ
 ·exact num _ (.of s1) (hs.same s1)
theorem zX(T:Tx K mg t){n:Nat}(iM:bJ P w K mg base eY (n+2) t.iH t.ie ["state", "boxes", "deep"] (ym K n)) :
 bJ P w K mg base eY (n+3) t.iH t.ie ["state", "boxes", "deep"] (ym K (n+1)):=by
 have aU:=dB (P:=P) (w:=w) (K:=K) (base:=base) T
 have kS:=m9 (P:=P) (w:=w) (K:=K) (base:=base) T
 refine T.bY.F.j4 sx (fun vs H Q E h=>?_) (fun eE A outer s H vs Q E hr h=>?_)
 ·obtain⟨_,_,_,_,rfl,_⟩:=h
  rfl
 obtain⟨s0,B,bs,d,rfl,hd,hs,hB,q⟩:=h
 have nd:=sx.nd
 refine⟨_,[some (.ref s0),some (.ref B),some (.int d),none,none],(ak (aP (i:=3) nd rfl (Or.inl rfl) (ay aU (hr.mono (by first|decide|omega)) rfl T.aq.m T.aq.F.kp T.aq.b .nil aT (aa (pv 0) (aa ah ag aR) ae)))
 (ak (bw (PW.pt (pw_or (aE bC (pv 2) ah (aH _)) (pw_or1 (aE pO (pv 3) ah (aH _)))))
 (ar (aI (ay kS (hr.mono (by first|decide|omega)) rfl T.cY.m T.cY.F.kp T.cY.b .nil aT (aa (pv 0) (aa (pv 1) ag ae) ae))))
 aN)
 (ak (aP (i:=4) nd rfl (Or.inl rfl) (av AS bf (bg dW (pv 3) ah) G7))
 (ar (aI (aZ (aa (pv 4) (aa (ay iM (hr.mono (by first|decide|omega)) rfl T.bY.m T.bY.F.kp T.bY.b .nil aT (aa (pv 0) (aa (pv 1) (aa (bg dW (pv 2) ah) ag bG) ae) ae)) (aa (ay iM (hr.mono (by first|decide|omega)) rfl T.bY.m T.bY.F.kp T.bY.b .nil aT (aa (pv 0) (aa (pv 1) (aa (bg dW (pv 2) ah) ag bG) ae) ae)) ag bo) bo) ae))))))),rfl,?_⟩
 refine ax fun U1 gk=>?_
 walk_at "rd"
 refine⟨s0,6,rfl,hs,by decide,by decide,fun x1 H1 a1 b1 u1 qL=>(gk _ _).mpr (ax fun U2 ji=>?_)⟩
 clear gk
 have Aq:=hB.up u1
 have leaf:u0 K [.ref s0,.ref B] H1 Q E0:=⟨s0,B,bs,rfl,qL,Aq,fun v tr H2 u2 pQ f td dp=>q v tr H2 (u1.trans u2) pQ f td (by lia)⟩
 walk_at "rd"
 refine fG (fun e=>leaf) (fun e=>fG (fun e2=>leaf) (fun e2=>?_))
 refine(ji _ _).mpr (ax fun U3 j3=>?_)
 clear ji leaf
 walk_at "rd"
 obtain⟨d,rfl⟩:∃d':Nat,d=d'+1:=⟨d-1,by lia⟩
 obtain⟨c,ec,oc⟩:∃c:Nat,uy (Str.ofString "+-*-").cps.toList (x1-2)=some c/\([c]=[43]\/[c]=[45]\/[c]=[42]):=by
  obtain rfl |rfl |rfl |rfl:x1=2\/x1=3\/x1=4\/x1=5:=by lia
  ·exact⟨43,by decide +kernel,.inl rfl⟩
  ·exact⟨45,by decide +kernel,.inr (.inl rfl)⟩
  ·exact⟨42,by decide +kernel,.inr (.inr rfl)⟩
  ·exact⟨45,by decide +kernel,.inr (.inl rfl)⟩
 refine⟨_,_,c,rfl,rfl,by decide +kernel,ec,(j3 _ _).mpr ?_⟩
 clear j3
 walk_at "rd"
 have ed:(((d+1:Nat):Int)-1)=(d:Int):=by lia
 rw[ed]
 refine⟨s0,B,bs,d,rfl,by lia,qL,Aq,fun v2 t2 H2 u2 pQ f2 OI QO=>?_⟩
 refine⟨s0,B,bs,d,rfl,by lia,pQ,Aq.up u2,fun v3 t3 H3 u3 qK f3 OJ QP p hp=>?_⟩
 refine q _ (.bin [c] t2 t3) _ (((u1.trans u2).trans u3).new hp _) (qK.new hp _) (fP qK hp (.cons .str (.cons (dQ f2 u3) (.cons f3 .nil)))) ⟨oc,OI,OJ⟩ ?_
 rw[PG.c8]
 lia
theorem CV(T:Tx K mg t):∀n,bJ P w K mg base eY (n+2) t.iH t.ie ["state", "boxes", "deep"] (ym K n)
 |0=>by
  have no:∀vs H Q E,¬ym K 0 vs H Q E:=fun vs H Q E h=>by obtain⟨_,_,_,_,_,h,_⟩:=h;lia
  exact⟨fun vs H Q E h=>absurd h (no vs H Q E),fun A outer s H args us vs Q E _ _ _ _ h=>absurd h (no vs H Q E)⟩
 |n+1=>zX T (CV T n)
theorem qE(T:Tx K mg t):bJ P w K mg base eY 6 t.fe t.fU ["state", "boxes"] (Ci K):=by
 have aU:=dB (P:=P) (w:=w) (K:=K) (base:=base) T
 have kS:=m9 (P:=P) (w:=w) (K:=K) (base:=base) T
 have iM:=CV (P:=P) (w:=w) (K:=K) (base:=base) T 3
 refine T.cg.F.j4 kL (fun vs H Q E h=>?_) (fun eE A outer s H vs Q E hr h=>?_)
 ·obtain⟨_,_,_,rfl,_⟩:=h
  rfl
 obtain⟨s0,B,bs,rfl,hs,hB,q⟩:=h
 have nd:=kL.nd
 refine⟨_,[some (.ref s0),some (.ref B)],(ar (aI (av bK (bt (aa (ay kS (hr.mono (by first|decide|omega)) rfl T.cY.m T.cY.F.kp T.cY.b .nil aT (aa (pv 0) (aa (pv 1) ag ae) ae)) (aa (ay iM (hr.mono (by first|decide|omega)) rfl T.bY.m T.bY.F.kp T.bY.b .nil aT (aa (pv 0) (aa (pv 1) (aa ah ag aR) ae) ae)) ag bo) bo)) (ay aU (hr.mono (by first|decide|omega)) rfl T.aq.m T.aq.F.kp T.aq.b .nil aT (aa (pv 0) (aa ah ag aR) ae)) c9))),rfl,?_⟩
 walk_at "rd"
 refine⟨s0,B,bs,rfl,hs,hB,fun v1 t1 H1 u1 qL f1 Tp Vj=>?_⟩
 have Aq:=hB.up u1
 refine⟨s0,B,bs,2,rfl,by decide,qL,Aq,fun v2 t2 H2 u2 pQ f2 OI QO p hp=>?_⟩
 refine⟨s0,2,rfl,pQ.new hp _,by decide,by decide,fun x3 H3 a3 b3 u3 qK=>?_⟩
 have u:=((u1.trans u2).new hp _).trans u3
 have h3:=u3 _ _ (pQ.ne hp) aj
 obtain rfl |rfl:x3=0\/x3=1:=by lia
 ·exact bI (.of h3) (v:=v1) (aw (j:=0) rfl) (q _ _ _ u qK (dQ f1 ((u2.new hp _).trans u3)) Tp (by lia))
 ·exact bI (.of h3) (v:=v2) (aw (j:=1) rfl) (q _ _ _ u qK (dQ f2 (((bh.refl s0 H2).new hp _).trans u3)) OI QO)
theorem rn(T:Tx K mg t):bJ P w K mg base eY 2 t.fT t.gA ["state"] (zM K):=by
 have aU:=dB (P:=P) (w:=w) (K:=K) (base:=base) T
 refine T.eU.F.j4 lG (fun vs H Q E h=>?_) (fun eE A outer s H vs Q E hr h=>?_)
 ·obtain⟨_,rfl,_⟩:=h
  rfl
 obtain⟨s0,rfl,hs,q⟩:=h
 have nd:=lG.nd
 refine⟨_,[some (.ref s0),none,none,none,none],(ak (aP (i:=1) nd rfl (Or.inl rfl) (av bK (bt (aa (bt (fC (vs:=[.str "a",.str "ab",.str "b",.str "aab"]) (by kernel_rfl))) (aa (bt (fC (vs:=[.str "xx",.str "x",.str "xyz",.str "boxes"]) (by kernel_rfl))) ag nK) nK)) (ay aU (hr.mono (by first|decide|omega)) rfl T.aq.m T.aq.F.kp T.aq.b .nil aT (aa (pv 0) (aa ah ag aR) ae)) c9))
 (ak (aP (i:=2) nd rfl (Or.inl rfl) (bt ag))
 (ak (gO PassesOwn.never rfl (cw (dD jz (pv 1) fH (eJ (ay aU (hr.mono (by first|decide|omega)) rfl T.aq.m T.aq.F.kp T.aq.b .nil aT (aa (pv 0) (aa ah ag aR) ae))))) (aW (i:=3) nd rfl (Or.inl rfl))
 (ak (aP (i:=4) nd rfl (Or.inl rfl) (bg dq ah (ay aU (hr.mono (by first|decide|omega)) rfl T.aq.m T.aq.F.kp T.aq.b .nil aT (aa (pv 0) (aa ah ag aR) ae))))
 (ar (gm (jR PySem.F.plainAttrs_list PySem.F.slot_list_append PySem.F.type_list_append fB (pv 2) (aa (aZ (aa (pv 3) (aa (pv 4) (aa (ay aU (hr.mono (by first|decide|omega)) rfl T.aq.m T.aq.F.kp T.aq.b .nil aT (aa (pv 0) (aa (pv 4) ag ae) ae)) ag bo) ae) ae)) ag cy))))))
 (ar (aI (pv 2)))))),rfl,?_⟩
 refine ax fun U1 gk=>?_
 walk_at "rd"
 intro p1 vG p2 oQ p3 ud
 have qL:=hs.new vG (.lst [V.str (Str.ofString "a"),V.str (Str.ofString "ab"),V.str (Str.ofString "b"),V.str (Str.ofString "aab")])
 have u1:=(bh.refl s0 H).new vG (.lst [V.str (Str.ofString "a"),V.str (Str.ofString "ab"),V.str (Str.ofString "b"),V.str (Str.ofString "aab")])
 have y1:(upd H p1 (.lst [V.str (Str.ofString "a"),V.str (Str.ofString "ab"),V.str (Str.ofString "b"),V.str (Str.ofString "aab")])) p1=_:=aj
 have n1:=hs.ne vG
 generalize upd H p1 (.lst [V.str (Str.ofString "a"),V.str (Str.ofString "ab"),V.str (Str.ofString "b"),V.str (Str.ofString "aab")])=H1 at *
 have pQ:=qL.new oQ (.lst [V.str (Str.ofString "xx"),V.str (Str.ofString "x"),V.str (Str.ofString "xyz"),V.str (Str.ofString "boxes")])
 have u2:=u1.new oQ (.lst [V.str (Str.ofString "xx"),V.str (Str.ofString "x"),V.str (Str.ofString "xyz"),V.str (Str.ofString "boxes")])
 have y2:(upd H1 p2 (.lst [V.str (Str.ofString "xx"),V.str (Str.ofString "x"),V.str (Str.ofString "xyz"),V.str (Str.ofString "boxes")])) p2=_:=aj
 have QQ:=ao.new oQ (.lst [V.str (Str.ofString "xx"),V.str (Str.ofString "x"),V.str (Str.ofString "xyz"),V.str (Str.ofString "boxes")]) _ _ y1
 have n2:=qL.ne oQ
 generalize upd H1 p2 (.lst [V.str (Str.ofString "xx"),V.str (Str.ofString "x"),V.str (Str.ofString "xyz"),V.str (Str.ofString "boxes")])=H2 at *
 have qK:=pQ.new ud (.lst [V.ref p1,V.ref p2])
 have u3:=u2.new ud (.lst [V.ref p1,V.ref p2])
 have y3:(upd H2 p3 (.lst [V.ref p1,V.ref p2])) p3=_:=aj
 have QR:=ao.new ud (.lst [V.ref p1,V.ref p2]) _ _ QQ
 have QS:=ao.new ud (.lst [V.ref p1,V.ref p2]) _ _ y2
 have n3:=pQ.ne ud
 generalize upd H2 p3 (.lst [V.ref p1,V.ref p2])=H3 at *
 refine⟨s0,2,rfl,qK,by decide,by decide,fun x4 H4 a4 b4 u4 wY=>?_⟩
 have QT:=u3.trans u4
 have main:∀(pn:Addr) (Fb:List W),Fb.length=4->Fb.Nodup->(∀x∈Fb,PyData.canLay0 (.str (S x))=true)->pn≠s0->H4 pn=some (.lst (Fb.map fun x=>V.str (S x)))->U1 [some (V.ref s0),some (V.ref pn),none,none,none] H4:=by
  intro pn Fb l4 Tq Ts Tt PX
  clear y1 y2 QQ y3 QR QS
  refine(gk _ _).mpr (ax fun U2 ji=>?_)
  clear gk
  walk_at "rd"
  intro B hB
  refine(ji _ _).mpr (ax fun U3 j3=>?_)
  clear ji
  have nB:=wY.ne hB
  have vF:=wY.new hB (.lst [])
  have s5:=ao.new hB (.lst [])
  have y5:(upd H4 B (.lst [])) B=some (.lst []):=aj
  generalize upd H4 B (.lst [])=H5 at *
  refine gD fun U hU=>?_
  walk_at "rd"
  refine⟨s0,5,rfl,vF,by decide,by decide,fun x6 H6 a6 b6 u6 Lh=>?_⟩
  refine⟨_,rfl,pn,_,rfl,.of (u6 _ _ Tt (s5 _ _ PX)),fun pl qR=>?_⟩
  refine⟨pl,rfl,⟨_,.of aj⟩,hU _ _ ?_⟩
  clear hU
  rw[wM _ a6,<- List.map_take]
  have Vk:(Fb.take x6.toNat).length<=4:=by rw[List.length_take];lia
  have OK:(Fb.take x6.toNat).Nodup:=List.Nodup.sublist (List.take_sublist _ _) Tq
  have OL:∀x∈Fb.take x6.toNat,PyData.canLay0 (.str (S x))=true:=fun x hx=>Ts x (List.mem_of_mem_take hx)
  generalize Fb.take x6.toNat=ns at *
  have MF:=Lh.ne qR
  have QU:=u6 _ _ nB y5
  have Tu:pl≠B:=(aB QU qR).symm
  have s7:=ao.new qR (.lst (ns.map fun x=>V.str (S x)))
  have Fc:=Lh.same s7
  have y7:(upd H6 pl (.lst (ns.map fun x=>V.str (S x)))) pl=_:=aj
  have yB:=s7 _ _ QU
  have u7:aX (fun b=>b=s0\/b=B) H4 (upd H6 pl (.lst (ns.map fun x=>V.str (S x)))):=((aX.of s5).trans (aX.one u6 (.inl rfl))).trans (.of s7)
  generalize upd H6 pl (.lst (ns.map fun x=>V.str (S x)))=H7 at *
  have line:sizeLine=2 ^ 24:=rfl
  refine gB (K:=K) (a:=pl) (xs:=ns.map fun x=>V.str (S x)) (fun i σ H8=>∃(z3 z4:Option V) (bs:List PG.cD) (xs:List V),σ=[some (V.ref s0),some (V.ref pn),some (V.ref B),z3,z4]/\aX (fun b=>b=s0\/b=B) H4 H8/\mM H8 s0/\H8 pl=some (.lst (ns.map fun x=>V.str (S x)))/\H8 B=some (.lst xs)/\cb K (fun b=>b=s0\/b=B) H8 (bs.map fK) xs/\xs.length=i/\bs.map (·.name)=ns.take i/\∀b∈bs,2<=b.size/\b.size<=10) ?_ ?_ ?_ ?_
  ·exact⟨none,none,[],[],rfl,u7,Fc,y7,yB,cb.nil,rfl,rfl,fun b hb=>by cases hb⟩
  ·rintro i σ H8 hi ⟨z3,z4,bs,xs,rfl,u8,zY,y8,MG,f8,lx,eb,sz⟩
   exact .of y8
  ·rintro i x σ H8 hx ⟨z3,z4,bs,xs,rfl,u8,zY,y8,MG,f8,lx,eb,sz⟩
   rw[List.getElem?_map] at hx
   cases hn:ns[i]? with
   |none=>rw[hn] at hx;cases hx
   |some nm=>
    rw[hn] at hx
    cases hx
    refine ax fun U4 m5=>?_
    walk_at "rd"
    refine⟨s0,9,rfl,zY,by decide,by decide,fun x9 H9 a9 b9 u9 II=>⟨_,_,rfl,rfl,(m5 _ _).mpr ?_⟩⟩
    clear m5
    walk_at "rd"
    have QV:=u9 _ _ nB MG
    have f9:=f8.up (aX.one u9 (.inl rfl))
    refine⟨.inl ⟨rfl,_,.of QV⟩,s0,_,rfl,II,by lia,by lia,fun MH mi Tv Tw rq w6 p hp=>?_⟩
    have Li:=rq _ _ nB QV
    have Ow:=f9.up (aX.one rq (.inl rfl))
    have mv:=ao.new hp (.tup [V.str (S nm),V.int (2+x9),V.int MH])
    have Tz:p≠B:=(aB Li hp).symm
    have li:i<ns.length:=(List.getElem?_eq_some_iff.mp hn).1
    have fp:Fix K (fun b=>b=s0\/b=B) (upd mi p (.tup [V.str (S nm),V.int (2+x9),V.int MH])) (fK ⟨nm,2+x9,MH⟩) (.ref p):=Fix.tup aj (fun z=>z.elim (w6.ne hp) Tz) (.cons .str (.cons .int (.cons .int .nil)))
    have TB:=(Ow.up (.of mv)).snoc fp
    refine⟨B,xs,_,rfl,rfl,mv _ _ Li,by lia,_,_,bs++[⟨nm,2+x9,MH⟩],xs++[.ref p],rfl,?_,?_,?_,aj,?_,by simp[lx],?_,?_⟩
    ·exact(((u8.trans (aX.one u9 (.inl rfl))).trans (aX.one rq (.inl rfl))).trans (.of mv)).put (.inr rfl) _
    ·obtain⟨n',m',e'⟩:=w6.same mv
     exact⟨n',m',by rw[aF nB.symm];exact e'⟩
    ·rw[aF Tu]
     exact mv _ _ (rq _ _ MF (u9 _ _ MF y8))
    ·rw[List.map_append]
     exact TB.up (aX.refl.put (.inr rfl) _)
    ·rw[List.map_append,eb,List.take_add_one,hn]
     rfl
    ·intro b hb
     rcases List.mem_append.mp hb with hb |hb
     ·exact sz b hb
     ·rw[List.mem_singleton.mp hb]
      exact⟨by show 2<=2+x9;lia,by show 2+x9<=10;lia⟩
  ·rintro σ H8 ⟨z3,z4,bs,xs,rfl,u8,zY,y8,MG,f8,lx,eb,sz⟩
   refine(j3 _ _).mpr ?_
   walk_at "rd"
   rw[List.length_map,List.take_length] at eb
   have TC:bs.length<=4:=by
    have:=congrArg List.length eb
    rw[List.length_map] at this
    lia
   refine q B bs H8 (fun b o nb e=>?_) zY ?_ ⟨nB,by lia,xs,MG,f8.sub fun b hb=>.inl hb⟩ ⟨by rw[eb];exact OK,TC,sz,by rw[eb];exact OL⟩
   ·have e4:=QT b o nb e
    exact u8 b o (fun z=>z.elim nb fun z=>aB e4 hB z) e4
   ·cases z:H B with
    |none=>rfl
    |some o=>exact absurd rfl (aB (QT B o nB z) hB)
 obtain rfl |rfl:x4=0\/x4=1:=by lia
 ·exact bI (.of (u4 _ _ n3 y3)) (v:=.ref p1) (aw (j:=0) rfl) (main p1 [[97],[97,98],[98],[97,97,98]] rfl (by decide) (by decide +kernel) n1 (u4 _ _ n1 QR))
 ·exact bI (.of (u4 _ _ n3 y3)) (v:=.ref p2) (aw (j:=1) rfl) (main p2 [[120,120],[120],[120,121,122],[98,111,120,101,115]] rfl (by decide) (by decide +kernel) n2 (u4 _ _ n2 QS))
theorem nc(T:Tx K mg t):bJ P w K mg base eY 7 t.dg t.dU ["state", "boxes", "row"] (EU K):=by
 have aU:=dB (P:=P) (w:=w) (K:=K) (base:=base) T
 have iM:=CV (P:=P) (w:=w) (K:=K) (base:=base) T 3
 have lK:=qE (P:=P) (w:=w) (K:=K) (base:=base) T
 refine T.cH.F.j4 iW (fun vs H Q E h=>?_) (fun eE A outer s H vs Q E hr h=>?_)
 ·obtain⟨_,_,_,_,rfl,_⟩:=h
  rfl
 obtain⟨s0,B,bs,row,rfl,hs,hB,q⟩:=h
 have nd:=iW.nd
 refine⟨_,[some (.ref s0),some (.ref B),some (.int row),none,none,none,none,none,none],(ak (aP (i:=3) nd rfl (Or.inl rfl) (ay aU (hr.mono (by first|decide|omega)) rfl T.aq.m T.aq.F.kp T.aq.b .nil aT (aa (pv 0) (aa ah ag aR) ae)))
 (ak (bw (PW.pt (pw_and (aE pO (pv 3) ah (aH _)) (pw_and1 (aE (nO (ka hr)) (pv 1) (bt ag) (aH _)))))
 (ak (aP (i:=4) nd rfl (Or.inl rfl) (av au (av bK (pv 1) (ay aU (hr.mono (by first|decide|omega)) rfl T.aq.m T.aq.F.kp T.aq.b .nil aT (aa (pv 0) (aa (bH jA rfl T.vg PyProof.Rows.Boot.«len» (aa (pv 1) ag ae)) ag bo) ae)) c9) ah ai))
 (ar (aI (av bK (bt (aa (aZ (aa bf (aa (pv 2) (aa (pv 4) ag ae) ae) aR)) (aa (aZ (aa bf (aa (pv 2) (aa (pv 4) (aa (ay iM (hr.mono (by first|decide|omega)) rfl T.bY.m T.bY.F.kp T.bY.b .nil aT (aa (pv 0) (aa (pv 1) (aa ah ag aR) ae) ae)) ag bo) ae) ae) aR)) ag cy) cy)) (pv 3) sX))))
 aN)
 (ak (bw (aE bC (pv 3) ah (aH _))
 (ar (aI (av bK (bt (aa (aZ (aa bf (aa (pv 2) (aa (ay iM (hr.mono (by first|decide|omega)) rfl T.bY.m T.bY.F.kp T.bY.b .nil aT (aa (pv 0) (aa (pv 1) (aa ah ag aR) ae) ae)) ag bo) ae) aR)) (aa (aZ (aa bf (aa (pv 2) ag ae) aR)) ag cy) cy)) (ay aU (hr.mono (by first|decide|omega)) rfl T.aq.m T.aq.F.kp T.aq.b .nil aT (aa (pv 0) (aa ah ag aR) ae)) c9)))
 aN)
 (ak (aP (i:=5) nd rfl (Or.inl rfl) (av AS bf (ay aU (hr.mono (by first|decide|omega)) rfl T.aq.m T.aq.F.kp T.aq.b .nil aT (aa (pv 0) (aa ah ag aR) ae)) c9))
 (ak (aP (i:=6) nd rfl (Or.inl rfl) (ay lK (hr.mono (by first|decide|omega)) rfl T.cg.m T.cg.F.kp T.cg.b .nil aT (aa (pv 0) (aa (pv 1) ag ae) ae)))
 (ak (aP (i:=7) nd rfl (Or.inl rfl) (av bK (bt (aa (ay lK (hr.mono (by first|decide|omega)) rfl T.cg.m T.cg.F.kp T.cg.b .nil aT (aa (pv 0) (aa (pv 1) ag ae) ae)) (aa (pv 6) ag ae) bo)) (bN cC rfl T.jX PyProof.Rows.Boot.«int» (aa (du bC (ay aU (hr.mono (by first|decide|omega)) rfl T.aq.m T.aq.F.kp T.aq.b .nil aT (aa (pv 0) (aa ah ag aR) ae)) ah (aH _)) ag iq)) c9))
 (ak (bw (aE pO (pv 3) ah (aH _))
 (ar (aI (aZ (aa bf (aa (pv 2) (aa (pv 5) (aa (pv 6) (aa (pv 7) ag ae) ae) ae) ae) aR))))
 aN)
 (ak (aP (i:=8) nd rfl (Or.inl rfl) (dD jz (bt (aa (aZ (aa bf (aa (bg dq (pv 2) ah) (aa (aZ (fC (vs:=[.str "number",.int 1]) (by kernel_rfl))) ag cy) bG) aR)) ag cy)) fH (eJ (ay aU (hr.mono (by first|decide|omega)) rfl T.aq.m T.aq.F.kp T.aq.b .nil aT (aa (pv 0) (aa ah ag aR) ae)))))
 (ak (bw (aE pO (pv 3) ah (aH _))
 (ar (aI (aZ (aa bf (aa (pv 2) (aa (pv 5) (aa (pv 6) (aa (pv 7) (aa (pv 8) ag ae) ae) ae) ae) ae) aR))))
 aN)
 (ar (aI (aZ (aa bf (aa (pv 2) (aa (pv 5) (aa (pv 6) (aa (pv 7) (aa (pv 8) (aa (dD jz (bt (aa (aZ (aa bf (aa (bg dq (pv 2) ah) ag bG) aR)) ag cy)) fH (eJ (ay aU (hr.mono (by first|decide|omega)) rfl T.aq.m T.aq.F.kp T.aq.b .nil aT (aa (pv 0) (aa ah ag aR) ae)))) ag aO) ae) ae) ae) ae) ae) aR))))))))))))),rfl,?_⟩
 refine ax fun U1 gk=>?_
 walk_at "rd"
 refine⟨s0,8,rfl,hs,by decide,by decide,fun x1 H1 a1 b1 u1 qL=>(gk _ _).mpr (ax fun U2 ji=>?_)⟩
 clear gk
 have Aq:=hB.up u1
 have rest:∀H2,bh s0 H1 H2->mM H2 s0->¬(x1<2/\bs≠[])->U2 [some (.ref s0),some (.ref B),some (.int row),some (.int x1),none,none,none,none,none] H2:=by
  intro H2 u2 pQ hx
  refine(ji _ _).mpr (ax fun U3 j3=>?_)
  clear ji
  have Lj:=Aq.up u2
  walk_at "rd"
  refine fG (fun e=>?_) (fun e=>(j3 _ _).mpr (ax fun U4 m5=>?_))
  ·refine⟨s0,B,bs,2,rfl,by decide,pQ,Lj,fun v3 t3 H3 u3 qK f3 OJ QP p4 oF p5 vI p6 mr=>?_⟩
   have f4:Fix K (·=s0) _ (cT (.say row t3)) (.ref p4):=fP qK oF (.cons .str (.cons .int (.cons f3 .nil)))
   have wY:=qK.new oF (.tup [V.str (Str.ofString "say"),V.int row,v3])
   have u4:=u3.new oF (.tup [V.str (Str.ofString "say"),V.int row,v3])
   generalize upd H3 p4 (.tup [V.str (Str.ofString "say"),V.int row,v3])=H4 at *
   have f5:Fix K (·=s0) _ (cT (.stop row)) (.ref p5):=fP wY vI (.cons .str (.cons .int .nil))
   have vF:=wY.new vI (.tup [V.str (Str.ofString "stop"),V.int row])
   have u5:=u4.new vI (.tup [V.str (Str.ofString "stop"),V.int row])
   have TF:=f4.up (.of (ao.new vI (.tup [V.str (Str.ofString "stop"),V.int row])))
   generalize upd H4 p5 (.tup [V.str (Str.ofString "stop"),V.int row])=H5 at *
   refine⟨s0,2,rfl,vF.new mr _,by decide,by decide,fun x7 H7 a7 b7 u7 Fc=>?_⟩
   have y7:=u7 _ _ (vF.ne mr) aj
   have u:=((u1.trans (u2.trans u5)).new mr _).trans u7
   have HR:=((bh.refl s0 H5).new mr _).trans u7
   obtain rfl |rfl:x7=0\/x7=1:=by lia
   ·exact bI (.of y7) (v:=.ref p4) (aw (j:=0) rfl) (q _ _ _ u Fc (dQ TF HR) ⟨rfl,OJ,QP⟩)
   ·exact bI (.of y7) (v:=.ref p5) (aw (j:=1) rfl) (q _ (.stop row) _ u Fc (dQ f5 HR) rfl)
  clear j3
  walk_at "rd"
  refine⟨s0,2,rfl,pQ,by decide,by decide,fun x3 H3 a3 b3 u3 qK=>?_⟩
  obtain⟨c,ec,oc⟩:∃c:Nat,uy (Str.ofString "<=").cps.toList x3=some c/\([c]=[60]\/[c]=[61]):=by
   obtain rfl |rfl:x3=0\/x3=1:=by lia
   ·exact⟨60,by decide +kernel,.inl rfl⟩
   ·exact⟨61,by decide +kernel,.inr rfl⟩
  refine⟨_,_,c,rfl,rfl,by decide +kernel,ec,(m5 _ _).mpr (ax fun U5 sy=>?_)⟩
  clear m5
  have Lk:=Lj.up u3
  walk_at "rd"
  refine⟨s0,B,bs,rfl,qK,Lk,fun vl tl H4 u4 wY fl Ll OM=>(sy _ _).mpr (ax fun U6 sC=>?_)⟩
  clear sy
  have TH:=Lk.up u4
  walk_at "rd"
  refine⟨s0,B,bs,rfl,wY,TH,fun v5 t5 H5 u5 vF f5 ON OO p6 mr=>?_⟩
  refine⟨s0,6,rfl,vF.new mr _,by decide,by decide,fun x7 H7 a7 b7 u7 Fc=>?_⟩
  have y7:=u7 _ _ (vF.ne mr) aj
  have HR:=((bh.refl s0 H5).new mr _).trans u7
  obtain⟨vr,tr,er,fr,MJ,QW⟩:∃(vr:V) (tr:PM.Tr),uy [v5,vl] (if decide (V.int x7=V.int 0)=true then 1 else 0)=some vr/\Fix K (·=s0) H7 (eZ tr) vr/\pe bs tr/\PG.c8 tr<=2:=by
   by_cases z:x7=0
   ·refine⟨vl,tl,?_,dQ fl (u5.trans HR),Ll,OM⟩
    rw[z,decide_eq_true rfl]
    rfl
   ·refine⟨v5,t5,?_,dQ f5 HR,ON,OO⟩
    rw[decide_eq_false fun y=>z (V.int.inj y)]
    rfl
  refine⟨rfl,_,rfl,bI (.of y7) er ((sC _ _).mpr (ax fun U8 yw=>?_))⟩
  clear sC er y7
  have uu:bh s0 H H7:=((((u1.trans u2).trans u3).trans u4).trans u5).trans HR
  have QX:=dQ fl (u5.trans HR)
  have zZ:IA bs [c] tl tr:=⟨oc,Ll,MJ,OM,QW⟩
  walk_at "rd"
  refine fG (fun e5=>fun p hp=>?_) (fun e5=>(yw _ _).mpr (ax fun U9 Ds=>?_))
  ·exact q _ (.cE row [c] tl tr) _ (uu.new hp _) (Fc.new hp _) (fP Fc hp (.cons .str (.cons .int (.cons .str (.cons QX (.cons fr .nil)))))) ⟨rfl,zZ⟩
  clear yw
  walk_at "rd"
  intro p8 Ap p9 CS IJ Lm
  have f8:Fix K (·=s0) _ (eZ (.num 1)) (.ref p8):=fP Fc Ap (.cons .str (.cons .int .nil))
  have zY:=Fc.new Ap (.tup [V.str (Str.ofString "number"),V.int 1])
  have s8:=ao.new Ap (.tup [V.str (Str.ofString "number"),V.int 1])
  generalize upd H7 p8 (.tup [V.str (Str.ofString "number"),V.int 1])=H8 at *
  have f9:Fix K (·=s0) _ (cT (.say (row+1) (.num 1))) (.ref p9):=fP zY CS (.cons .str (.cons .int (.cons f8 .nil)))
  have II:=zY.new CS (.tup [V.str (Str.ofString "say"),V.int (row+1),V.ref p8])
  have s9:=s8.trans (ao.new CS (.tup [V.str (Str.ofString "say"),V.int (row+1),V.ref p8]))
  generalize upd H8 p9 (.tup [V.str (Str.ofString "say"),V.int (row+1),V.ref p8])=H9 at *
  have ml:=ao.new Lm (.lst [V.ref p9])
  have OH:=II.ne Lm
  have yA:(upd H9 IJ (.lst [V.ref p9])) IJ=_:=aj
  have w6:=II.same ml
  generalize upd H9 IJ (.lst [V.ref p9])=mi at *
  refine⟨s0,2,rfl,w6,by decide,by decide,fun MK ue Vl Vm Ln Lo=>⟨_,rfl,IJ,_,rfl,.of (Ln _ _ OH yA),fun IK w4=>?_⟩⟩
  obtain⟨ib,QY,TJ⟩:∃b,Ms row b/\cb K (·=s0) ue (ki b) (gC [V.ref p9] none (some MK)):=by
   obtain rfl |rfl:MK=0\/MK=1:=by lia
   ·exact⟨[],.inl rfl,cb.nil⟩
   ·exact⟨_,.inr rfl,cb.cons (dQ f9 ((bh.of ml).trans Ln)) cb.nil⟩
  generalize gC [V.ref p9] none (some MK)=cs at *
  have QZ:=wK Lo w4 TJ
  have ML:bh s0 H7 _:=(((bh.of (s9.trans ml)).trans Ln)).new w4 (.lst cs)
  have Fd:=Lo.new w4 (.lst cs)
  refine(Ds _ _).mpr (ax fun TK CY=>?_)
  clear Ds
  generalize upd ue IK (.lst cs)=uf at *
  have Lq:=dQ QX ML
  have Lr:=dQ fr ML
  walk_at "rd"
  refine fG (fun e7=>fun p hp=>?_) (fun e7=>(CY _ _).mpr ?_)
  ·exact q _ (.gw row [c] tl tr ib) _ ((uu.trans ML).new hp _) (Fd.new hp _) (fP Fd hp (.cons .str (.cons .int (.cons .str (.cons Lq (.cons Lr (.cons QZ .nil))))))) ⟨rfl,zZ,QY⟩
  clear CY
  walk_at "rd"
  intro Ar m8 Fe Ff
  have TL:Fix K (·=s0) _ (cT (.stop (row+3))) (.ref Ar):=fP Fd m8 (.cons .str (.cons .int .nil))
  have Ls:=Fd.new m8 (.tup [V.str (Str.ofString "stop"),V.int (row+3)])
  have qV:=ao.new m8 (.tup [V.str (Str.ofString "stop"),V.int (row+3)])
  generalize upd uf Ar (.tup [V.str (Str.ofString "stop"),V.int (row+3)])=CT at *
  have vH:=ao.new Ff (.lst [V.ref Ar])
  have TM:=Ls.ne Ff
  have yH:(upd CT Fe (.lst [V.ref Ar])) Fe=_:=aj
  have OP:=Ls.same vH
  generalize upd CT Fe (.lst [V.ref Ar])=IG at *
  refine⟨s0,2,rfl,OP,by decide,by decide,fun MM E9 Vn Vo IL CZ=>⟨_,rfl,Fe,_,rfl,.of (IL _ _ TM yH),fun TN w5=>?_⟩⟩
  obtain⟨eb,TQ,TR⟩:∃b,Oe row b/\cb K (·=s0) E9 (ki b) (gC [V.ref Ar] none (some MM)):=by
   obtain rfl |rfl:MM=0\/MM=1:=by lia
   ·exact⟨[],.inl rfl,cb.nil⟩
   ·exact⟨_,.inr rfl,cb.cons (dQ TL ((bh.of vH).trans IL)) cb.nil⟩
  generalize gC [V.ref Ar] none (some MM)=OQ at *
  have TU:=wK CZ w5 TR
  have MN:bh s0 uf _:=(((bh.of (qV.trans vH)).trans IL)).new w5 (.lst OQ)
  have Lu:=CZ.new w5 (.lst OQ)
  generalize upd E9 TN (.lst OQ)=IH at *
  intro p hp
  exact q _ (.ifs row [c] tl tr ib eb) _ (((uu.trans ML).trans MN).new hp _) (Lu.new hp _) (fP Lu hp (.cons .str (.cons .int (.cons .str (.cons (dQ Lq MN) (.cons (dQ Lr MN) (.cons (dQ QZ MN) (.cons TU .nil)))))))) ⟨rfl,zZ,QY,TQ⟩
 walk_at "rd"
 refine fG (fun e=>fun p hp=>?_) (fun e=>rest H1 (bh.refl _ _) qL (fun z=>e z.1))
 obtain⟨xs,hx,lx⟩:=k7 Aq
 have s2:=ao.new hp (.lst [])
 have pQ:=qL.same s2
 have Lj:=Aq.same s2
 refine⟨B,p,xs,rfl,rfl,s2.seq hx,.of aj,fG (fun e2=>?_) (fun e2=>rest _ (.of s2) pQ fun z=>z.2 ?_)⟩
 ·have l0:0<bs.length:=by
   rw[<- lx]
   cases xs with
   |nil=>cases e2
   |cons _ _=>simp
  have HM:=hB.2
  have Mv:=s2.seq hx
  have u2:bh s0 H1 _:=.of s2
  generalize upd H1 p (.lst [])=H2 at *
  clear rest ji
  refine⟨B,xs,rfl,.inl Mv,s0,_,rfl,pQ,by lia,by lia,fun x3 H3 a3 b3 u3 qK=>(Lj.up u3).pick a3 (by lia) fun p4 oF=>?_⟩
  have nm:=su (bs:=bs) a3 (by lia)
  have Lk:=Lj.up u3
  generalize (PG.pick ⟨[],0,0⟩ bs x3).name=F8 at *
  have f4:Fix K (·=s0) _ (cT (.ask row F8)) (.ref p4):=fP qK oF (.cons .str (.cons .int (.cons .str .nil)))
  have wY:=qK.new oF (.tup [V.str (Str.ofString "ask"),V.int row,V.str (S F8)])
  have s4:=ao.new oF (.tup [V.str (Str.ofString "ask"),V.int row,V.str (S F8)])
  generalize upd H3 p4 (.tup [V.str (Str.ofString "ask"),V.int row,V.str (S F8)])=H4 at *
  refine⟨s0,B,bs,2,rfl,by decide,wY,Lk.same s4,fun v5 t5 H5 u5 vF f5 ON OO p6 mr p7 HS=>?_⟩
  have f6:Fix K (·=s0) _ (cT (.put row F8 t5)) (.ref p6):=fP vF mr (.cons .str (.cons .int (.cons .str (.cons f5 .nil))))
  have Lh:=vF.new mr (.tup [V.str (Str.ofString "put"),V.int row,V.str (S F8),v5])
  have s6:=ao.new mr (.tup [V.str (Str.ofString "put"),V.int row,V.str (S F8),v5])
  generalize upd H5 p6 (.tup [V.str (Str.ofString "put"),V.int row,V.str (S F8),v5])=H6 at *
  have s7:=ao.new HS (.lst [V.ref p4,V.ref p6])
  have u:=((((u1.trans u2).trans u3).trans (.of s4)).trans u5).trans (.of (s6.trans s7))
  obtain rfl |rfl:x1=0\/x1=1:=by lia
  ·exact bI (.of aj) (v:=.ref p4) (aw (j:=0) rfl) (q _ _ _ u (Lh.same s7) (dQ f4 (u5.trans (.of (s6.trans s7)))) ⟨rfl,nm⟩)
  ·exact bI (.of aj) (v:=.ref p6) (aw (j:=1) rfl) (q _ _ _ u (Lh.same s7) (dQ f6 (.of s7)) ⟨rfl,nm,ON,OO⟩)
 ·cases bs with
  |nil=>rfl
  |cons b r=>cases xs with
   |nil=>simp at lx
   |cons x y=>exact absurd rfl e2
theorem qF(T:Tx K mg t):bJ P w K mg base eY 2 t.ff t.fV ["state", "boxes"] (wI K):=by
 have aU:=dB (P:=P) (w:=w) (K:=K) (base:=base) T
 refine T.dO.F.j4 kM (fun vs H Q E h=>?_) (fun eE A outer s H vs Q E hr h=>?_)
 ·obtain⟨_,_,_,rfl,_⟩:=h
  rfl
 obtain⟨s0,B,bs,rfl,hs,hB,ok,q⟩:=h
 have nd:=kM.nd
 refine⟨_,[some (.ref s0),some (.ref B),none,none,none,none,none,none],(ak (aP (i:=2) nd rfl (Or.inl rfl) (bt ag))
 (ak (gO PassesOwn.never rfl (cw (pv 1)) (i4 rfl (bA (aW (i:=3) nd rfl (Or.inl rfl)) (bA (aW (i:=4) nd rfl (Or.inl rfl)) (bA (aW (i:=5) nd rfl (Or.inl rfl)) eG))))
 (ak (aP (i:=6) nd rfl (Or.inl rfl) (ay aU (hr.mono (by first|decide|omega)) rfl T.aq.m T.aq.F.kp T.aq.b .nil aT (aa (pv 0) (aa (pv 4) ag ae) ae)))
 (ak (aP (i:=7) nd rfl (Or.inl rfl) (bg dq (pv 6) (ay aU (hr.mono (by first|decide|omega)) rfl T.aq.m T.aq.F.kp T.aq.b .nil aT (aa (pv 0) (aa (bg dW (pv 4) (pv 6)) ag bG) ae))))
 (ar (gm (jR PySem.F.plainAttrs_list PySem.F.slot_list_append PySem.F.type_list_append fB (pv 2) (aa (av bK (bt (aa (aZ (aa (pv 6) (aa (pv 7) ag ae) ae)) (aa (aZ (aa (pv 6) (aa (pv 6) ag ae) ae)) (aa (aZ (aa ah (aa (bg dW (pv 4) ah) ag bG) aR)) (aa (aZ (aa ah (aa (pv 7) ag ae) aR)) (aa (aZ (aa (pv 6) (aa (bg dW (pv 4) ah) ag bG) ae)) ag cy) cy) cy) cy) cy)) (ay aU (hr.mono (by first|decide|omega)) rfl T.aq.m T.aq.F.kp T.aq.b .nil aT (aa (pv 0) (aa ah ag aR) ae)) c9) ag aO)))))))
 (ar (aI (bN gn rfl T.jP PyProof.Rows.Boot.«tuple» (aa (pv 2) ag ae)))))),rfl,?_⟩
 refine ax fun U1 gk=>?_
 walk_at "rd"
 intro F hF
 refine(gk _ _).mpr (ax fun U2 ji=>?_)
 clear gk
 have nF:=hs.ne hF
 have qL:=hs.new hF (.lst [])
 have s1:=ao.new hF (.lst [])
 have y1:(upd H F (.lst [])) F=some (.lst []):=aj
 obtain⟨Q0,HM,bx,HU,Q1⟩:=hB
 have Q2:B≠F:=aB HU hF
 have f1:=Q1.apart (o:=.lst []) hF
 have Kz:=s1 _ _ HU
 generalize upd H F (.lst [])=H1 at *
 have Vp:bx.length=bs.length:=by rw[Q1.Hh.length,List.length_map]
 have line:sizeLine=2 ^ 24:=rfl
 refine gD fun U hU=>?_
 walk_at "rd"
 refine⟨⟨_,.of Kz⟩,hU _ _ ?_⟩
 clear hU
 refine gB (K:=K) (a:=B) (xs:=bx) (fun i σ H8=>∃(z3 z4 z5 z6 z7:Option V) (rs:List PG.Rg) (xs:List V),σ=[some (V.ref s0),some (V.ref B),some (V.ref F),z3,z4,z5,z6,z7]/\aX (fun b=>b=s0\/b=F) H1 H8/\mM H8 s0/\H8 F=some (.lst xs)/\cb K (fun b=>b=s0\/b=F) H8 (rs.map qu) xs/\xs.length=i/\rs.length=i/\∀r∈rs,0<=r.1/\r.1<=10/\0<=r.2/\r.2<=10) ?_ ?_ ?_ ?_
 ·exact⟨none,none,none,none,none,[],[],rfl,.refl,qL,y1,cb.nil,rfl,rfl,fun r hr=>by cases hr⟩
 ·rintro i σ H8 hi ⟨z3,z4,z5,z6,z7,rs,xs,rfl,u8,zY,y8,f8,lx,lr,sz⟩
  exact .of (u8 _ _ (fun z=>z.elim Q0 Q2) Kz)
 ·rintro i x σ H8 hx ⟨z3,z4,z5,z6,z7,rs,xs,rfl,u8,zY,y8,f8,lx,lr,sz⟩
  have li:i<bs.length:=by have:=(List.getElem?_eq_some_iff.mp hx).1;lia
  obtain⟨v,hv,rv⟩:=(f1.up u8).Hh.get (i:=i) (d:=fK bs[i]) (by rw[List.getElem?_map,List.getElem?_eq_getElem li];rfl)
  rw[hx] at hv
  cases hv
  have sb:=ok.sz bs[i] (List.getElem_mem li)
  simp only[fK,Rep.aQ,aC.az,aC.aV,Rep.bu,Rep.aY] at rv
  obtain⟨a,ys,rfl,hS,_,_,rfl,rfl,_,_,rfl,rfl,_,_,rfl,rfl,rfl⟩:=rv
  generalize bs[i]=b at *
  refine⟨a,_,rfl,hS,rfl,?_⟩
  walk_at "rd"
  refine⟨_,_,rfl,_,_,rfl,_,_,rfl,rfl,s0,_,rfl,zY,by lia,by lia,fun lo H9 a9 b9 u9 II=>⟨_,_,rfl,rfl,s0,_,rfl,II,by lia,by lia,fun dx mi Tv Tw rq w6=>⟨_,_,rfl,rfl,?_⟩⟩⟩
  dsimp only
  obtain⟨hi,TV,h0,BR⟩:∃hi,lo+dx=hi/\0<=hi/\hi<=10:=⟨_,rfl,by lia,by lia⟩
  rw[TV]
  have yA:=rq _ _ nF (u9 _ _ nF y8)
  have Lv:∀(Hk:Hp) (p:Addr) (a b:Int),ao mi Hk->Hk p=none->Fix K (fun b=>b=s0\/b=F) (upd Hk p (.tup [V.int a,V.int b])) (qu (a,b)) (.ref p)/\ao mi (upd Hk p (.tup [V.int a,V.int b])):=by
   intro Hk p a b sk hp
   exact⟨Fix.tup aj (fun z=>z.elim ((w6.same sk).ne hp) (aB (sk _ _ yA) hp).symm) (.cons .int (.cons .int .nil)),sk.trans (ao.new hp _)⟩
  refine⟨.inl ⟨rfl,_,.of yA⟩,fun p1 vG p2 oQ=>⟨_,_,rfl,rfl,fun p3 ud p4 oF=>⟨_,_,rfl,rfl,fun p5 vI p6 mr=>?_⟩⟩⟩
  dsimp only at *
  obtain⟨g1,t1⟩:=Lv _ p1 lo hi (ao.refl _) vG
  generalize upd mi p1 (.tup [V.int lo,V.int hi])=ue at *
  obtain⟨g2,t2⟩:=Lv _ p2 lo lo t1 oQ
  have g1:=g1.up (.of (ao.new oQ (.tup [V.int lo,V.int lo])))
  generalize upd ue p2 (.tup [V.int lo,V.int lo])=uf at *
  obtain⟨g3,t3⟩:=Lv _ p3 0 (b.size-1) t2 ud
  have g1:=g1.up (.of (ao.new ud (.tup [V.int 0,V.int (b.size-1)])))
  have g2:=g2.up (.of (ao.new ud (.tup [V.int 0,V.int (b.size-1)])))
  generalize upd uf p3 (.tup [V.int 0,V.int (b.size-1)])=CT at *
  obtain⟨g4,t4⟩:=Lv _ p4 0 hi t3 oF
  have s4:=ao.new oF (.tup [V.int 0,V.int hi])
  generalize upd CT p4 (.tup [V.int 0,V.int hi])=IG at *
  obtain⟨g5,t5⟩:=Lv _ p5 lo (b.size-1) t4 vI
  have s5:=ao.new vI (.tup [V.int lo,V.int (b.size-1)])
  generalize upd IG p5 (.tup [V.int lo,V.int (b.size-1)])=E9 at *
  have s6:=ao.new mr (.lst [V.ref p1,V.ref p2,V.ref p3,V.ref p4,V.ref p5])
  have t6:=t5.trans s6
  have CZ:=w6.same t5
  have n6:=CZ.ne mr
  have y6:(upd E9 p6 (.lst [V.ref p1,V.ref p2,V.ref p3,V.ref p4,V.ref p5])) p6=_:=aj
  generalize upd E9 p6 (.lst [V.ref p1,V.ref p2,V.ref p3,V.ref p4,V.ref p5])=IH at *
  refine⟨s0,5,rfl,CZ.same s6,by decide,by decide,fun IM MO Vq Vr OR OS=>?_⟩
  have IP:aX (fun b=>b=s0\/b=F) IH MO:=aX.one OR (.inl rfl)
  obtain⟨v,r,ev,fv,br⟩:∃(v:V) (r:PG.Rg),uy [V.ref p1,V.ref p2,V.ref p3,V.ref p4,V.ref p5] IM=some v/\Fix K (fun b=>b=s0\/b=F) MO (qu r) v/\0<=r.1/\r.1<=10/\0<=r.2/\r.2<=10:=by
   have Q3:=s5.trans s6
   have Lb:=s4.trans Q3
   obtain rfl |rfl |rfl |rfl |rfl:IM=0\/IM=1\/IM=2\/IM=3\/IM=4:=by lia
   ·exact⟨_,(lo,hi),aw (j:=0) rfl,(g1.up (.of Lb)).up IP,by dsimp only;lia⟩
   ·exact⟨_,(lo,lo),aw (j:=1) rfl,(g2.up (.of Lb)).up IP,by dsimp only;lia⟩
   ·exact⟨_,(0,b.size-1),aw (j:=2) rfl,(g3.up (.of Lb)).up IP,by dsimp only;lia⟩
   ·exact⟨_,(0,hi),aw (j:=3) rfl,(g4.up (.of Q3)).up IP,by dsimp only;lia⟩
   ·exact⟨_,(lo,b.size-1),aw (j:=4) rfl,(g5.up (.of s6)).up IP,by dsimp only;lia⟩
  have w8:aX (fun b=>b=s0\/b=F) H8 MO:=(((aX.one u9 (.inl rfl)).trans (aX.one rq (.inl rfl))).trans (.of t6)).trans IP
  have TX:=OR _ _ nF (t6 _ _ yA)
  refine bI (.of (OR _ _ n6 y6)) ev ⟨F,xs,v,rfl,rfl,TX,by lia,_,_,_,_,_,rs++[r],xs++[v],rfl,?_,?_,aj,?_,by simp[lx],by simp[lr],?_⟩
  ·exact(u8.trans w8).put (.inr rfl) _
  ·obtain⟨n',m',e'⟩:=OS
   exact⟨n',m',by rw[aF nF.symm];exact e'⟩
  ·rw[List.map_append]
   exact((f8.up w8).snoc fv).up (aX.refl.put (.inr rfl) _)
  ·intro q hq
   rcases List.mem_append.mp hq with hq |hq
   ·exact sz q hq
   ·rw[List.mem_singleton.mp hq]
    exact br
 ·rintro σ H8 ⟨z3,z4,z5,z6,z7,rs,xs,rfl,u8,zY,y8,f8,lx,lr,sz⟩
  refine(ji _ _).mpr ?_
  walk_at "rd"
  refine⟨F,xs,rfl,.inl ⟨.of y8,fun l hl=>?_⟩⟩
  have Vs:=u8 _ _ (fun z=>z.elim Q0 Q2) Kz
  have n8:=zY.ne hl
  refine q _ rs _ (fun b o nb e=>?_) (zY.new hl _) (Fix.tup aj n8 ((f8.sub fun b hb=>.inl hb).up (.of (ao.new hl _)))) ⟨by lia,sz⟩
  have e1:=s1 b o e
  exact ao.new hl _ _ _ (u8 b o (fun z=>z.elim nb fun z=>aB e hF z) e1)
theorem tO(T:Tx K mg t){n:Nat}(c0:bJ P w K mg base eY n t.d9 t.eS ["e", "names", "ranges"] (tI K n)) :
 bJ P w K mg base eY (n+1) t.d9 t.eS ["e", "names", "ranges"] (tI K (n+1)):=by
 refine T.bq.F.j4 mW (fun vs H Q E h=>?_) (fun eE A outer s H vs Q E hr h=>?_)
 ·obtain⟨_,_,_,_,_,_,rfl,_⟩:=h
  rfl
 obtain⟨v,rv,nl,tr,bs,rs,rfl,hv,hn,qM,ll,ok,ht,h6,q⟩:=h
 have nd:=mW.nd
 have hu:=ka hr
 refine⟨_,[some v,some (.ref nl),some rv,none,none,none,none],(ak (bw (aE bC (av au (pv 0) ah ai) bf (aH _))
 (ar (aI (aZ (aa (av au (pv 0) ah ai) (aa (av au (pv 0) ah ai) ag aO) aO))))
 aN)
 (ak (bw (aE bC (av au (pv 0) ah ai) bf (aH _))
 (ar (aI (av au (pv 2) (jR PySem.F.plainAttrs_list PySem.F.slot_list_index PySem.F.type_list_index nU (pv 1) (aa (av au (pv 0) ah ai) ag aO)) c9)))
 aN)
 (ak (gb (ay c0 (hr.mono (by first|decide|omega)) rfl T.bq.m T.bq.F.kp T.bq.b .nil aT (aa (av au (pv 0) ah ai) (aa (pv 1) (aa (pv 2) ag ae) ae) aO)) (i4 rfl (bA (aW (i:=3) nd rfl (Or.inl rfl)) (bA (aW (i:=4) nd rfl (Or.inl rfl)) eG))))
 (ak (gb (ay c0 (hr.mono (by first|decide|omega)) rfl T.bq.m T.bq.F.kp T.bq.b .nil aT (aa (av au (pv 0) ah ai) (aa (pv 1) (aa (pv 2) ag ae) ae) aO)) (i4 rfl (bA (aW (i:=5) nd rfl (Or.inl rfl)) (bA (aW (i:=6) nd rfl (Or.inl rfl)) eG))))
 (ak (bw (aE bC (av au (pv 0) ah ai) bf (aH _))
 (ar (aI (aZ (aa (bg dq (pv 3) (pv 5)) (aa (bg dq (pv 4) (pv 6)) ag bG) bG))))
 aN)
 (ak (bw (aE bC (av au (pv 0) ah ai) bf (aH _))
 (ar (aI (aZ (aa (bg dW (pv 3) (pv 6)) (aa (bg dW (pv 4) (pv 5)) ag bG) bG))))
 aN)
 (ar (aI (aZ (aa (bH (si rfl) rfl T.jZ PyProof.Rows.Boot.«min» (aa (bt (aa (bg fh (pv 3) (pv 5)) (aa (bg fh (pv 3) (pv 6)) (aa (bg fh (pv 4) (pv 5)) (aa (bg fh (pv 4) (pv 6)) ag bG) bG) bG) bG)) ag nK)) (aa (bH (sj rfl) rfl T.jY PyProof.Rows.Boot.«max» (aa (bt (aa (bg fh (pv 3) (pv 5)) (aa (bg fh (pv 3) (pv 6)) (aa (bg fh (pv 4) (pv 5)) (aa (bg fh (pv 4) (pv 6)) ag bG) bG) bG) bG)) ag nK)) ag bo) bo)))))))))),rfl,?_⟩
 have n1:¬("box":Str) = "number":=by decide +kernel
 cases tr with
 |num m=>
  unfold eZ at hv
  simp only[Rep.aQ,aC.az,aC.aV,Rep.bu,Rep.aY] at hv
  obtain⟨a,xs,rfl,hS,_,_,rfl,rfl,_,_,rfl,rfl,rfl⟩:=hv
  walk_at "rd"
  refine aG hS rfl ?_
  walk_at "rd"
  rw[if_pos trivial]
  exact aG hS rfl (aG hS rfl fun p hp=>q _ _ (ao.new hp _) (.new rfl))
 |box x=>
  unfold eZ at hv
  simp only[Rep.aQ,aC.az,aC.aV,Rep.bu,Rep.aY] at hv
  obtain⟨a,xs,rfl,hS,_,_,rfl,rfl,_,_,rfl,rfl,rfl⟩:=hv
  walk_at "rd"
  refine aG hS rfl ?_
  walk_at "rd"
  rw[if_neg n1]
  refine aG hS rfl ?_
  walk_at "rd"
  rw[if_pos trivial]
  exact⟨.inl ⟨rfl,_,.of hn⟩,aG hS rfl (hn.index ok.1 (qM.get ll ok.1 fun u hu=>q _ _ (ao.refl _) hu))⟩
 |bin o l r=>
  unfold eZ at hv
  simp only[Rep.aQ,aC.az,aC.aV,Rep.bu,Rep.aY] at hv
  obtain⟨a,xs,rfl,hS,_,_,rfl,rfl,vl,_,rfl,hl,vr,_,rfl,nr,rfl⟩:=hv
  obtain⟨ho,ol,or'⟩:=ok
  have n2:¬S o = "number":=by rcases ho with rfl |rfl |rfl<;>decide +kernel
  have n3:¬S o = "box":=by rcases ho with rfl |rfl |rfl<;>decide +kernel
  have e1:(S o = "+")↔o=[43]:=by rw[show ("+":Str)=S [43] from rfl,jS]
  have e2:(S o = "-")↔o=[45]:=by rw[show ("-":Str)=S [45] from rfl,jS]
  refine ax fun U1 gk=>?_
  walk_at "rd"
  refine aG hS rfl ?_
  walk_at "rd"
  rw[if_neg n2]
  refine(gk _ _).mpr (ax fun U2 ji=>?_)
  clear gk
  walk_at "rd"
  refine aG hS rfl ?_
  walk_at "rd"
  rw[if_neg n3]
  refine(ji _ _).mpr (ax fun U3 j3=>?_)
  clear ji
  rw[PG.c8] at ht h6
  walk_at "rd"
  refine aG hS rfl ⟨vl,rv,nl,l,bs,rs,rfl,hl,hn,qM,ll,ol,by lia,by lia,fun lv H1 s1 hL=>?_⟩
  obtain⟨la,rfl,hL⟩:=hL
  refine⟨la,_,rfl,hL,rfl,_,_,rfl,_,_,rfl,rfl,(j3 _ _).mpr (ax fun U4 m5=>?_)⟩
  clear j3
  walk_at "rd"
  refine aG (s1.bL hS) rfl ⟨vr,rv,nl,r,bs,rs,rfl,nr.mono s1,s1 _ _ hn,qM.mono s1,ll,or',by lia,by lia,fun Iy H2 s2 hR=>?_⟩
  obtain⟨ra,rfl,hR⟩:=hR
  refine⟨ra,_,rfl,hR,rfl,_,_,rfl,_,_,rfl,rfl,(m5 _ _).mpr ?_⟩
  clear m5
  have s3:=s1.trans s2
  have wl:=qt ol.u
  have wr:=qt or'.u
  rw[PG.dC,PG.EJ] at q
  walk_at "rd"
  refine aG (s3.bL hS) rfl ?_
  walk_at "rd"
  refine fG (fun c=>?_) (fun c=>?_)
  ·rw[if_pos (e1.mp c)] at q
   exact fun p hp=>q _ _ (s3.trans (ao.new hp _)) (.new rfl)
  rw[if_neg (fun z=>c (e1.mpr z))] at q
  refine aG (s3.bL hS) rfl ?_
  walk_at "rd"
  refine fG (fun c=>?_) (fun c=>?_)
  ·rw[if_pos (e2.mp c)] at q
   exact fun p hp=>q _ _ (s3.trans (ao.new hp _)) (.new rfl)
  rw[if_neg (fun z=>c (e2.mpr z))] at q
  have b1:=kn wl.1 (by lia)
  have b2:=kn wl.2 (by lia)
  have b3:=kn wr.1 (by lia)
  have b4:=kn wr.2 (by lia)
  refine⟨⟨b1,b3⟩,⟨b1,b4⟩,⟨b2,b3⟩,⟨b2,b4⟩,fun p hp=>?_⟩
  generalize (PG.dC (PG.bT bs rs) l)=L at *
  generalize (PG.dC (PG.bT bs rs) r)=R at *
  refine⟨p,[L.1*R.1,L.1*R.2,L.2*R.1,L.2*R.2],rfl,.of aj,List.cons_ne_nil _ _,fun m1 Kx Og=>⟨⟨b1,b3⟩,⟨b1,b4⟩,⟨b2,b3⟩,⟨b2,b4⟩,fun p2 oQ=>⟨p2,[L.1*R.1,L.1*R.2,L.2*R.1,L.2*R.2],rfl,.of aj,List.cons_ne_nil _ _,fun m2 Ky Oh=>fun p3 ud=>?_⟩⟩⟩
  refine q _ _ (((s3.trans (ao.new hp _)).trans (ao.new oQ _)).trans (ao.new ud _)) ⟨_,rfl,?_⟩
  rw[<- PG.yj Kx Og,<- PG.yk Ky Oh]
  exact .of aj
theorem ng(T:Tx K mg t):∀n,bJ P w K mg base eY n t.d9 t.eS ["e", "names", "ranges"] (tI K n)
 |0=>by
  have no:∀vs H Q E,¬tI K 0 vs H Q E:=fun vs H Q E h=>by obtain⟨_,_,_,_,_,_,_,_,_,_,_,_,h,_⟩:=h;lia
  exact⟨fun vs H Q E h=>absurd h (no vs H Q E),fun A outer s H args us vs Q E _ _ _ _ h=>absurd h (no vs H Q E)⟩
 |n+1=>tO T (ng T n)
theorem tP(T:Tx K mg t):bJ P w K mg base eY 1 t.gM t.g9 ["pair", "its", "way"] (HF K):=by
 refine T.fF.F.j4 mX (fun vs H Q E h=>?_) (fun eE A outer s H vs Q E hr h=>?_)
 ·obtain⟨_,_,_,_,_,_,_,_,rfl,_⟩:=h
  rfl
 obtain⟨pp,wl,iv,own,bc,sg,truth,left,rfl,hp,⟨ia,rfl,hi⟩,hw,Iv,q⟩:=h
 have nd:=mX.nd
 refine⟨_,[some (.ref pp),some (.ref ia),some (.ref wl),none,none,none,none,none],(ak (gb (pv 2) (wa rfl (bA (aW (i:=3) nd rfl (Or.inl rfl)) (bA (aW (i:=4) nd rfl (Or.inl rfl)) (bA (aW (i:=5) nd rfl (Or.inl rfl)) eG)))))
 (ak (gb (pv 0) (wa rfl (bA (aW (i:=6) nd rfl (Or.inl rfl)) (bA (aW (i:=7) nd rfl (Or.inl rfl)) eG))))
 (ak (bw (PW.pt (pw_and (aE bC (pv 3) bf (aH _)) (pw_and1 (fq (pv 4)))))
 (ak (aP (i:=6) nd rfl (Or.inl rfl) (bH (fz rfl) rfl T.jY PyProof.Rows.Boot.«max» (aa (pv 6) (aa (av au (pv 1) ah ai) ag aO) ae)))
 (ar (aP (i:=7) nd rfl (Or.inl rfl) (bH (fA rfl) rfl T.jZ PyProof.Rows.Boot.«min» (aa (pv 7) (aa (av au (pv 1) ah ai) ag aO) ae)))))
 (ar (bw (PW.pt (pw_and (aE bC (pv 3) bf (aH _)) (pw_and1 (aE bC (av au (pv 1) ah ai) (av au (pv 1) ah ai) (aH _)))))
 (ak (aP (i:=6) nd rfl (Or.inl rfl) (bg dq (pv 6) (bN cC rfl T.jX PyProof.Rows.Boot.«int» (aa (du bC (av bK (pv 0) ah ai) (av au (pv 1) ah ai) (aH _)) ag iq))))
 (ar (aP (i:=7) nd rfl (Or.inl rfl) (bg dW (pv 7) (bN cC rfl T.jX PyProof.Rows.Boot.«int» (aa (du bC (av bK (pv 0) ah ai) (av au (pv 1) ah ai) (aH _)) ag iq))))))
 (ar (bw (PW.pt (pw_and (aE bC (pv 3) bf (aH _)) (pw_and (fq (pv 4)) (pw_and1 (fq (pv 5))))))
 (ar (aP (i:=7) nd rfl (Or.inl rfl) (bH (fA rfl) rfl T.jZ PyProof.Rows.Boot.«min» (aa (pv 7) (aa (bg dW (av au (pv 1) ah ai) ah) ag bG) ae))))
 (ar (bw (PW.pt (pw_and (aE bC (pv 3) bf (aH _)) (pw_and1 (fq (pv 4)))))
 (ar (aP (i:=6) nd rfl (Or.inl rfl) (bH (fz rfl) rfl T.jY PyProof.Rows.Boot.«max» (aa (pv 6) (aa (bg dq (av au (pv 1) ah ai) ah) ag bG) ae))))
 (ar (bw (PW.pt (pw_and (aE bC (pv 3) bf (aH _)) (pw_and1 (fq (pv 5)))))
 (ar (aP (i:=6) nd rfl (Or.inl rfl) (bH (fz rfl) rfl T.jY PyProof.Rows.Boot.«max» (aa (pv 6) (aa (av au (pv 1) ah ai) ag aO) ae))))
 (ar (bw (aE bC (pv 3) bf (aH _))
 (ar (aP (i:=7) nd rfl (Or.inl rfl) (bH (fA rfl) rfl T.jZ PyProof.Rows.Boot.«min» (aa (pv 7) (aa (av au (pv 1) ah ai) ag aO) ae))))
 aN)))))))))))
 (ak (gb (pv 6) (pM (pv 0) ah set_list))
 (ar (gb (pv 7) (pM (pv 0) ah set_list))))))),rfl,?_⟩
 refine ax fun U1 gk=>?_
 walk_at "rd"
 refine⟨wl,_,rfl,.of hw,rfl,_,_,rfl,_,_,rfl,_,_,rfl,rfl,(gk _ _).mpr (ax fun U2 ji=>?_)⟩
 clear gk
 walk_at "rd"
 refine⟨pp,_,rfl,.of hp,rfl,_,_,rfl,_,_,rfl,rfl,(ji _ _).mpr (ax fun U3 j3=>?_)⟩
 clear ji
 have fin:∀lo hi:Int,PG.iy (decide (sg=[60])) truth left own bc=(lo,hi)->U3 [some (.ref pp),some (.ref ia),some (.ref wl),some (.str (S sg)),some (.bl truth),some (.bl left),some (.int lo),some (.int hi)] H:=by
  intro lo hi e
  rw[e] at q
  refine(j3 _ _).mpr ?_
  walk_at "rd"
  exact⟨pp,_,0,0,rfl,rfl,hp,rfl,pp,_,1,1,rfl,rfl,aj,rfl,q _ (((bh.refl _ _).put _).put _) aj⟩
 clear j3 q
 walk_at "rd"
 rcases Iv with rfl |rfl
 ·have c1:(S [60]=Str.ofString "<")=True:=eq_true rfl
  have c2:(S [60]=Str.ofString "=")=False:=eq_false (by decide +kernel)
  simp only[c1,c2,if_true,if_false,Bool.false_eq_true]
  cases truth with
  |true=>
   simp only[if_true]
   cases left with
   |true=>
    simp only[if_true]
    refine j5 hi ⟨_,_,rfl,rfl,_,_,rfl,?_⟩
    rw[min2]
    exact fin _ _ rfl
   |false=>
    simp only[if_false,Bool.false_eq_true]
    refine jU hi ⟨_,_,rfl,rfl,_,_,rfl,?_⟩
    rw[max2]
    exact fin _ _ rfl
  |false=>
   simp only[if_false,Bool.false_eq_true]
   cases left with
   |true=>
    simp only[if_true]
    refine jU hi ⟨_,_,rfl,?_⟩
    rw[max2]
    exact fin _ _ rfl
   |false=>
    simp only[if_false,Bool.false_eq_true]
    refine j5 hi ⟨_,_,rfl,?_⟩
    rw[min2]
    exact fin _ _ rfl
 ·have c1:(S [61]=Str.ofString "<")=False:=eq_false (by decide +kernel)
  have c2:(S [61]=Str.ofString "=")=True:=eq_true rfl
  simp only[c1,c2,if_true,if_false,Bool.false_eq_true]
  cases truth with
  |true=>
   simp only[if_true]
   refine jU hi ⟨_,_,rfl,j5 hi ⟨_,_,rfl,?_⟩⟩
   rw[max2,min2]
   exact fin _ _ rfl
  |false=>
   simp only[if_false,Bool.false_eq_true]
   refine jU hi (j5 hi ⟨rfl,?_⟩)
   have ef:PG.iy (decide ([61]=[60])) false left own bc=if bc.1=bc.2 then (if own.1=bc.1 then own.1+1 else own.1,if own.2=bc.1 then own.2-1 else own.2) else own:=rfl
   by_cases e:bc.1=bc.2
   ·refine(if_pos (congrArg V.int e)).mpr (bI (.of hp) (v:=.int own.1) (aw (j:=0) rfl) (jU hi ⟨rfl,_,rfl,bI (.of hp) (v:=.int own.2) (aw (j:=1) rfl) (jU hi ⟨rfl,_,rfl,?_⟩)⟩))
    refine fin _ _ ?_
    rw[ef,if_pos e]
    simp only[decide_eq_true_eq,V.int.injEq]
    congr 1
    ·split<;>lia
    ·split<;>lia
   ·refine(if_neg fun z=>e (V.int.inj z)).mpr ?_
    exact fin _ _ (by rw[ef,if_neg e])
theorem pj(T:Tx K mg t):bJ P w K mg base eY 4 t.ee t.fk ["statement", "names", "ranges", "truth"] (zO K):=by
 have c0:=ng (P:=P) (w:=w) (base:=base) T 3
 have vp:=tP (P:=P) (w:=w) (base:=base) T
 refine T.dh.F.j4 jW (fun vs H Q E h=>?_) (fun eE A outer s H vs Q E hr h=>?_)
 ·obtain⟨_,_,_,_,_,_,_,_,_,_,rfl,_⟩:=h
  rfl
 obtain⟨sv,rv,nl,truth,st,bs,rs,sg,tl,tr,rfl,pL,hc,zZ,hn,ok,qM,qN,q⟩:=h
 have nd:=jW.nd
 refine⟨_,[some sv,some (.ref nl),some rv,some (.bl truth),none,none,none,none,none,none,none,none,none,none,none],(ak (gb (dD mL (pv 0) (eJ ah) (eJ ah)) (i4 rfl (bA (aW (i:=4) nd rfl (Or.inl rfl)) (bA (aW (i:=5) nd rfl (Or.inl rfl)) (bA (aW (i:=6) nd rfl (Or.inl rfl)) eG)))))
 (ak (gb (ay c0 (hr.mono (by first|decide|omega)) rfl T.bq.m T.bq.F.kp T.bq.b .nil aT (aa (pv 5) (aa (pv 1) (aa (pv 2) ag ae) ae) ae)) (i4 rfl (bA (aW (i:=7) nd rfl (Or.inl rfl)) (bA (aW (i:=8) nd rfl (Or.inl rfl)) eG))))
 (ak (gb (ay c0 (hr.mono (by first|decide|omega)) rfl T.bq.m T.bq.F.kp T.bq.b .nil aT (aa (pv 6) (aa (pv 1) (aa (pv 2) ag ae) ae) ae)) (i4 rfl (bA (aW (i:=9) nd rfl (Or.inl rfl)) (bA (aW (i:=10) nd rfl (Or.inl rfl)) eG))))
 (ak (aP (i:=11) nd rfl (Or.inl rfl) (av bK (bt (aa (du pO (pv 7) (pv 10) (aH _)) (aa (du Fv (pv 8) (pv 9) (aH _)) ag iq) iq)) (bN cC rfl T.jX PyProof.Rows.Boot.«int» (aa (pK (pv 3)) ag xO)) c9))
 (ak (bw (aE bC (pv 4) bf (aH _))
 (ar (aP (i:=11) nd rfl (Or.inl rfl) (av bK (bt (aa (du Fu (bH (fz rfl) rfl T.jY PyProof.Rows.Boot.«max» (aa (pv 7) (aa (pv 9) ag ae) ae)) (bH (fA rfl) rfl T.jZ PyProof.Rows.Boot.«min» (aa (pv 8) (aa (pv 10) ag ae) ae)) (aH _)) (aa (pK (so bC (pv 7) (pv 8) (pv 9) (pv 10))) ag xO) iq)) (bN cC rfl T.jX PyProof.Rows.Boot.«int» (aa (pK (pv 3)) ag xO)) c9)))
 aN)
 (ak (pE (i:=12) nd rfl (Or.inl rfl) (own:=["pair"]) (ix:=[]) rfl (by rfl) (by rfl) (sN (pv 2)) (fun _ _ _ _=>(aW (i:=0) (by show List.Nodup (["pair"]:List Str);decide +kernel) rfl (Or.inl rfl))) (fun _ _ _ _=>eK) (fun _ _ _ _=>(bN (qZ (K:=K) rfl) rfl T.ou PyProof.Rows.Boot.«list» (aa (pv 0) ag ae))))
 (ak (gO PassesOwn.never rfl (xU rfl T.i3 (aa (bt (aa (pv 5) (aa (pv 6) ag ae) ae)) ag nK)) (i4 rfl (bA (aW (i:=13) nd rfl (Or.inl rfl)) (bA (aW (i:=14) nd rfl (Or.inl rfl)) eG)))
 (ar (bw (aE bC (av au (pv 14) ah ai) bf (aH _))
 (ar (gm (ay vp (hr.mono (by first|decide|omega)) rfl T.fF.m T.fF.F.kp T.fF.b .nil aT (aa (av bK (pv 12) (jR PySem.F.plainAttrs_list PySem.F.slot_list_index PySem.F.type_list_index nU (pv 1) (aa (av au (pv 14) ah ai) ag aO)) c9) (aa (av bK (bt (aa (aZ (aa (pv 9) (aa (pv 10) ag ae) ae)) (aa (aZ (aa (pv 7) (aa (pv 8) ag ae) ae)) ag cy) cy)) (pv 13) sX) (aa (bt (aa (pv 4) (aa (pv 3) (aa (du bC (pv 13) ah (aH _)) ag iq) ae) ae)) ag nK) aO) aO))))
 aN)))
 (ak (bw (PW.pt (pw_or (vK (fq (pv 11))) (pw_or1 (aE (nO (ka hr)) (gv (own:=["pair"]) (ix:=[]) rfl (by rfl) (by rfl) (cw (pv 12)) (fun _ _ _ _=>(aW (i:=0) (by show List.Nodup (["pair"]:List Str);decide +kernel) rfl (Or.inl rfl))) (fun _ _ _ _=>(DT (aE xw (av (qc (K:=K) rfl) (pv 0) ah ai) (av (qc (K:=K) rfl) (pv 0) ah ai) (aH _)))) (fun _ _ _ _=>(pv 0))) (bt ag) (aH _)))))
 (ar (aI nC))
 aN)
 (ar (aI (bN gn rfl T.jP PyProof.Rows.Boot.«tuple» (aa (gv (own:=["low", "high"]) (ix:=[]) rfl (by rfl) (by rfl) (cw (pv 12)) (fun _ _ _ _=>(EX (K:=K) rfl 2 rfl (bA (aW (i:=0) (by show List.Nodup (["low", "high"]:List Str);decide +kernel) rfl (Or.inl rfl)) (bA (aW (i:=1) (by show List.Nodup (["low", "high"]:List Str);decide +kernel) rfl (Or.inl rfl)) eG)))) (fun _ _ _ _=>eK) (fun _ _ _ _=>(aZ (aa (pv 0) (aa (pv 1) ag ae) ae)))) ag jE)))))))))))),rfl,?_⟩
 obtain⟨sa,vl,vr,OT,rfl,Lw,rl,rr⟩:∃sa vl vr OT,sv=.ref sa/\bR K H sa (.str (i6 st.wd) :: .int st.row :: .str (S sg)::vl::vr::OT)/\Rep K H (eZ tl) vl/\Rep K H (eZ tr) vr:=by
  cases st<;>simp only[jo,Option.some.injEq,Prod.mk.injEq,reduceCtorEq] at hc<;>obtain⟨rfl,rfl,rfl⟩:=hc<;>simp only[cT,Rep.aQ,aC.az,aC.aV,Rep.bu,Rep.aY] at pL
  ·obtain⟨a,ys,rfl,hS,_,_,rfl,rfl,_,_,rfl,rfl,_,_,rfl,rfl,vl,_,rfl,hl,vr,_,rfl,nr,rfl⟩:=pL
   exact⟨a,vl,vr,_,rfl,hS,hl,nr⟩
  ·obtain⟨a,ys,rfl,hS,_,_,rfl,rfl,_,_,rfl,rfl,_,_,rfl,rfl,vl,_,rfl,hl,vr,_,rfl,nr,_⟩:=pL
   exact⟨a,vl,vr,_,rfl,hS,hl,nr⟩
  ·obtain⟨a,ys,rfl,hS,_,_,rfl,rfl,_,_,rfl,rfl,_,_,rfl,rfl,vl,_,rfl,hl,vr,_,rfl,nr,_⟩:=pL
   exact⟨a,vl,vr,_,rfl,hS,hl,nr⟩
 refine ax fun U1 gk=>?_
 walk_at "rd"
 refine⟨_,rfl,_,rfl,sa,_,rfl,Lw,fun pc H1 s1 F9=>?_⟩
 rw[Cn] at F9
 refine⟨pc,_,rfl,F9,rfl,_,_,rfl,_,_,rfl,_,_,rfl,rfl,(gk _ _).mpr (ax fun U2 ji=>?_)⟩
 clear gk
 obtain⟨Iv,Ll,MJ,OM,QW⟩:=zZ
 have gl:=Ll.g qN
 have gr:=MJ.g qN
 walk_at "rd"
 refine⟨vl,rv,nl,tl,bs,rs,rfl,rl.mono s1,s1 _ _ hn,qM.mono s1,qN.1,gl,by lia,by lia,fun lv H2 s2 hL=>?_⟩
 obtain⟨la,rfl,hL⟩:=hL
 refine⟨la,_,rfl,hL,rfl,_,_,rfl,_,_,rfl,rfl,(ji _ _).mpr (ax fun U3 j3=>?_)⟩
 clear ji
 have sG:=s1.trans s2
 walk_at "rd"
 refine⟨vr,rv,nl,tr,bs,rs,rfl,rr.mono sG,sG _ _ hn,qM.mono sG,qN.1,gr,by lia,by lia,fun Iy H3 s3 hR=>?_⟩
 obtain⟨ra,rfl,hR⟩:=hR
 refine⟨ra,_,rfl,hR,rfl,_,_,rfl,_,_,rfl,rfl,(j3 _ _).mpr (ax fun U4 m5=>?_)⟩
 clear j3
 have qV:=sG.trans s3
 unfold PG.dY at q
 generalize PG.dC (PG.bT bs rs) tl=L at *
 generalize PG.dC (PG.bT bs rs) tr=R at *
 have fin:∀H4,ao H3 H4->∀mb,(sg=[60]->mb=PG.kz (decide (sg=[60])) truth L R)->U4 [some (.ref sa),some (.ref nl),some rv,some (.bl truth),some (.str (S sg)),some vl,some vr,some (.int L.1),some (.int L.2),some (.int R.1),some (.int R.2),some (.bl mb),none,none,none] H4:=by
  intro H4 s4 mb TY
  refine(m5 _ _).mpr (ax fun U5 sy=>?_)
  clear m5
  have main:∀H5,ao H4 H5->U5 [some (.ref sa),some (.ref nl),some rv,some (.bl truth),some (.str (S sg)),some vl,some vr,some (.int L.1),some (.int L.2),some (.int R.1),some (.int R.2),some (.bl (PG.kz (decide (sg=[60])) truth L R)),none,none,none] H5:=by
   intro H5 s5
   refine(sy _ _).mpr (ax fun U6 sC=>?_)
   clear sy
   walk_at "rd"
   simp only[gX]
   walk_at "rd"
   have Ga:=qV.trans (s4.trans s5)
   obtain⟨Q4,us,rfl,Lx,vE,TZ⟩:=qM.mono Ga
   refine⟨Q4,rfl,⟨us,Lx⟩,fun D hD=>?_⟩
   have T1:=qN.1
   have o9:=ok.o9
   refine sr (K:=K) (fun τ=>∃x,τ=[x]) (fun i ys H2=>∃ps:List Addr,ys=ps.map V.ref/\lZ H2 ps (rs.take i)/\D ∉ ps/\∀p∈ps,H5 p=none) Lx (by lia) hD ⟨none,rfl⟩ ⟨[],rfl,.nil,by simp,fun p hp=>by cases hp⟩ ?_ ?_
   ·rintro i x ys τ H2 hx ⟨x0,rfl⟩ Mx HP ly ⟨ps,rfl,ls,nD,fr⟩ R hR
    walk_at "rd"
    have li:i<us.length:=(List.getElem?_eq_some_iff.mp hx).1
    obtain⟨r,er,K7⟩:=TZ i li
    have ex:us[i]=x:=(List.getElem?_eq_some_iff.mp hx).2
    rw[ex] at K7
    obtain⟨xa,rfl,T2⟩:=K7
    refine⟨xa,_,rfl,.inr (Mx.bL T2),fun l hl=>hR _ _ _ ⟨_,rfl⟩ (ao.new hl _) ?_⟩
    have Q5:l≠D:=(aB HP hl).symm
    have T3:l ∉ ps:=fun hm=>by
     obtain⟨j,hj,e⟩:=List.getElem_of_mem hm
     obtain⟨_,_,e2⟩:=ls.at_ j hj
     rw[e,hl] at e2
     cases e2
    refine⟨ps++[l],by simp,?_,?_,?_⟩
    ·rw[List.take_add_one,er]
     refine lZ.snoc (ls.up fun p o hp e=>?_) T3 ?_
     ·rw[aF (fun z=>nD (by rw[<- z];exact hp))]
      exact ao.new hl _ _ _ e
     ·rw[aF Q5]
      exact aj
    ·rw[List.mem_append,List.mem_singleton]
     exact fun z=>z.elim nD Q5.symm
    ·intro p hp
     rcases List.mem_append.mp hp with hp |hp
     ·exact fr p hp
     ·rw[List.mem_singleton.mp hp]
      exact Mx.free hl
   ·rintro ys H7 s7 OD ly ⟨ps,rfl,ls,nD,fr⟩
    rw[vE,List.take_length] at ls
    refine(sC _ _).mpr (ax fun U8 yw=>?_)
    clear sC
    have T4:ps.length=bs.length:=by rw[ls.l];exact T1
    have lt:PG.bT bs rs=PG.bT bs rs:=rfl
    refine Cm fun U hU=>?_
    walk_at "rd"
    intro pl qR
    refine⟨pl,rfl,⟨_,.of aj⟩,hU _ _ ?_⟩
    clear hU
    have s8:=ao.new qR (.lst [vl,vr])
    have y8:(upd H7 pl (.lst [vl,vr])) pl=some (.lst [vl,vr]):=aj
    have MF:pl ∉ ps:=fun hm=>by
     obtain⟨j,hj,e⟩:=List.getElem_of_mem hm
     obtain⟨_,_,e2⟩:=ls.at_ j hj
     rw[e,qR] at e2
     cases e2
    have T5:=ls.up (H':=upd H7 pl (.lst [vl,vr])) fun p o _ e=>s8 _ _ e
    generalize upd H7 pl (.lst [vl,vr])=H8 at *
    have Le:=s8 _ _ OD
    have Q6:ao H H8:=Ga.trans (s7.trans s8)
    obtain⟨tQ,OU⟩:∃f:Nat->List PG.Rg,f 0=rs/\f 1=PG.HD bs rs (decide (sg=[60])) truth tl R/\f 2=PG.KW bs (PG.HD bs rs (decide (sg=[60])) truth tl R) (decide (sg=[60])) truth tr L:=⟨fun i=>match i with |0=>rs |1=>PG.HD bs rs (decide (sg=[60])) truth tl R |_=>PG.KW bs (PG.HD bs rs (decide (sg=[60])) truth tl R) (decide (sg=[60])) truth tr L,rfl,rfl,rfl⟩
    obtain⟨f0,f1,f2⟩:=OU
    refine uL (K:=K) (a:=pl) (xs:=[vl,vr]) (fun i σ H9=>∃(Aa Ab:Option V),σ=[some (.ref sa),some (.ref nl),some (.ref Q4),some (.bl truth),some (.str (S sg)),some vl,some vr,some (.int L.1),some (.int L.2),some (.int R.1),some (.int R.2),some (.bl (PG.kz (decide (sg=[60])) truth L R)),some (.ref D),Aa,Ab]/\aX (·∈ps) H8 H9/\lZ H9 ps (tQ i)) ?_ ?_ ?_ ?_
    ·exact⟨none,none,rfl,.refl,by rw[f0];exact T5⟩
    ·rintro i σ H9 hi ⟨Aa,Ab,rfl,u9,Gb⟩
     exact .of (u9 _ _ MF y8)
    ·rintro i x σ H9 pp hx ⟨Aa,Ab,rfl,u9,Gb⟩ OV
     have ml:=ao.new OV (.tup [.int i,x])
     have T6:(upd H9 pp (.tup [.int i,x])) pp=_:=aj
     have HV:=Gb.up (H':=upd H9 pp (.tup [.int i,x])) fun p o _ e=>ml _ _ e
     have rq:=u9.trans (aX.of ml)
     generalize upd H9 pp (.tup [.int i,x])=mi at *
     refine⟨pp,_,rfl,.of T6,rfl,?_⟩
     obtain⟨te,left,bc,OW,T7,ei,OX,hb,T8⟩:∃(te:PM.Tr) (left:Bool) (bc:PG.Rg),pe bs te/\Rep K H (eZ te) x/\(i:Int)=(if left then 0 else 1)/\bc=(if left then R else L)/\(∀y,te=.box y->tQ (i+1)=PG.iz bs (tQ i) y (PG.iy (decide (sg=[60])) truth left (PG.bT bs (tQ i) y) bc))/\((∀y,te≠.box y)->tQ (i+1)=tQ i):=by
      rcases i with _ |_ |i
      ·cases hx
       refine⟨tl,true,R,Ll,rl,rfl,rfl,fun y e=>?_,fun hy=>?_⟩
       ·rw[f1,f0,e]
        rfl
       ·rw[f1,f0]
        cases tl with
        |box y=>exact absurd rfl (hy y)
        |_=>rfl
      ·cases hx
       refine⟨tr,false,L,MJ,rr,rfl,rfl,fun y e=>?_,fun hy=>?_⟩
       ·rw[f2,f1,e]
        rfl
       ·rw[f2,f1]
        cases tr with
        |box y=>exact absurd rfl (hy y)
        |_=>rfl
      ·simp at hx
     have Fg:ao H mi:=fun b o e=>rq b o (fun hb=>by rw[Ga.free (fr b hb)] at e;cases e) (Q6 b o e)
     have CU:=rq _ _ nD Le
     have Ly:ET mi nl bs:=Fg _ _ hn
     obtain⟨xa,w0,w1,Vt,rfl,hT,HU,K6⟩:=nW (T7.mono Fg) (fun o l r e=>(OW.g qN).Cd o l r e)
     walk_at "rd"
     refine⟨_,_,rfl,_,_,rfl,rfl,aG hT (v:=.str w0) (aw (j:=0) rfl) ⟨rfl,fG (fun e=>?_) (fun e=>?_)⟩⟩
     ·obtain⟨y,rfl⟩:=HU.mp (V.str.inj e)
      refine⟨.inl ⟨rfl,_,.of Ly⟩,aG hT (v:=w1) (aw (j:=1) rfl) ?_⟩
      rw[K6 y rfl]
      have HW:PG.jv bs y<ps.length:=by
       rw[T4]
       unfold PG.jv
       rw[List.findIdx_lt_length]
       obtain⟨b,hb,e⟩:=List.mem_map.mp (show y∈bs.map (·.name) from OW)
       exact⟨b,hb,by simp[e]⟩
      refine Ly.index OW (bI (.of CU) (v:=.ref ps[PG.jv bs y]) (aw (by rw[List.getElem?_map,List.getElem?_eq_getElem HW];rfl)) fun p1 vG p2 oQ p3 ud=>?_)
      have g1:cc K _ (.ref p1) R:=cc.new (H:=mi) rfl
      have mv:=ao.new vG (.tup [.int R.1,.int R.2])
      generalize upd mi p1 (.tup [.int R.1,.int R.2])=ue at *
      have g2:cc K _ (.ref p2) L:=cc.new (H:=ue) rfl
      have Ac:=ao.new oQ (.tup [.int L.1,.int L.2])
      generalize upd ue p2 (.tup [.int L.1,.int L.2])=uf at *
      have HX:=ao.new ud (.lst [.ref p1,.ref p2])
      have Lz:(upd uf p3 (.lst [.ref p1,.ref p2])) p3=_:=aj
      generalize upd uf p3 (.lst [.ref p1,.ref p2])=CT at *
      obtain⟨iv,T9,Ua⟩:∃iv,uy [V.ref p1,V.ref p2] (i:Int)=some iv/\cc K CT iv bc:=by
       rw[ei,OX]
       cases left with
       |true=>exact⟨_,aw (j:=0) rfl,(g1.mono Ac).mono HX⟩
       |false=>exact⟨_,aw (j:=1) rfl,g2.mono HX⟩
      refine bI (.of Lz) T9 ⟨rfl,fun p4 oF=>?_⟩
      have ed:decide (V.int (i:Int)=V.int 0)=left:=by
       rw[ei]
       cases left<;>rfl
      rw[ed]
      have C0:=(mv.trans Ac).trans HX
      have vH:=ao.new oF (.lst [.str (S sg),.bl truth,.bl left])
      obtain⟨r,er,yr⟩:=HV.at_ _ HW
      have eo:PG.bT bs (tQ i) y=r:=by
       unfold PG.bT
       rw[List.getD_eq_getElem?_getD,er]
       rfl
      refine⟨ps[PG.jv bs y],p4,iv,r,bc,sg,truth,left,rfl,vH _ _ (C0 _ _ yr),Ua.mono vH,aj,Iv,fun E9 IL Ub=>⟨_,_,rfl,?_,?_⟩⟩
      ·exact(rq.trans (aX.of (C0.trans vH))).trans (aX.one IL (List.getElem_mem HW))
      ·rw[hb y rfl,eo]
       exact(HV.up fun p o _ e=>vH _ _ (C0 _ _ e)).put HW IL Ub
     ·refine⟨_,_,rfl,rq,?_⟩
      rw[T8 fun y ey=>e (congrArg V.str (HU.mpr ⟨y,ey⟩))]
      exact HV
    ·rintro σ H9 ⟨Aa,Ab,rfl,u9,Gb⟩
     refine(yw _ _).mpr ?_
     clear yw
     have LA:ao H H9:=fun b o e=>u9 b o (fun hb=>by rw[Ga.free (fr b hb)] at e;cases e) (Q6 b o e)
     have Lf:=u9 _ _ nD Le
     replace Gb:lZ H9 ps (tQ 2):=Gb
     rw[<- f2] at q
     generalize tQ 2=oA at *
     walk_at "rd"
     cases hm:PG.kz (decide (sg=[60])) truth L R with
     |false=>
      rw[hm] at q
      exact(if_pos rfl).mpr ((if_pos trivial).mpr (q _ _ LA rfl))
     |true=>
      rw[hm] at q
      replace q:∀(v:V) (H':Hp),ao H H'->oV K H' v (PG.lE oA)->Q v H':=q
      refine(if_neg (by decide)).mpr ?_
      simp only[gX]
      walk_at "rd"
      refine⟨⟨_,.of Lf⟩,fun D2 HP=>?_⟩
      refine wc (K:=K) (r:=[]) (fun j=>decide ((oA.getD j (0,0)).1>(oA.getD j (0,0)).2)) (fun j=>(ps.map V.ref).getD j .c6) (.of Lf) (by rw[List.length_map];lia) HP (fun j x hx mi ml R hR=>?_) (fun j x hx _ mi ml R hR=>?_) (fun mi ml BR p hp=>?_)
      ·have lj:j<ps.length:=by have:=(List.getElem?_eq_some_iff.mp hx).1;rwa [List.length_map] at this
       rw[List.getElem?_map,List.getElem?_eq_getElem lj] at hx
       cases hx
       obtain⟨r,er,yr⟩:=Gb.at_ j lj
       have hR:=hR _ (ao.refl _)
       simp only[List.getD_eq_getElem?_getD,er,Option.getD_some] at hR
       walk_at "rd"
       exact bI (.of (ml _ _ yr)) (v:=.int r.1) (aw (j:=0) rfl) (bI (.of (ml _ _ yr)) (v:=.int r.2) (aw (j:=1) rfl) ⟨_,_,rfl,rfl,_,rfl,hR⟩)
      ·have hR:=hR _ (ao.refl _)
       simp only[List.getD_eq_getElem?_getD,hx,Option.getD_some] at hR
       exact hR
      ·have mv:=ao.new hp (.lst [])
       have LB:=LA.trans (ml.trans mv)
       refine⟨D2,p,_,rfl,rfl,.of (mv _ _ BR),.of aj,fG (fun e=>?_) (fun e=>?_)⟩
       ·refine q _ _ LB ?_
        obtain⟨j,hj⟩:∃j,j∈(List.range (ps.map V.ref).length).filter fun j=>decide ((oA.getD j (0,0)).1>(oA.getD j (0,0)).2):=by
         cases z:(List.range (ps.map V.ref).length).filter fun j=>decide ((oA.getD j (0,0)).1>(oA.getD j (0,0)).2) with
         |nil=>rw[z] at e;cases e
         |cons a b=>exact⟨a,by simp⟩
        rw[List.mem_filter,List.mem_range,List.length_map,decide_eq_true_eq] at hj
        obtain⟨r,er,_⟩:=Gb.at_ j hj.1
        have h2:=hj.2
        simp only[List.getD_eq_getElem?_getD,er,Option.getD_some] at h2
        rw[wO er h2]
        rfl
       ·have LC:=mv _ _ (ml _ _ Lf)
        have HY:=Gb.up (H':=upd mi p (.lst [])) fun p o _ e=>mv _ _ (ml _ _ e)
        generalize upd mi p (.lst [])=ue at *
        refine⟨⟨_,.of LC⟩,fun D3 MD=>?_⟩
        refine zQ (K:=K) (fun τ=>∃x y,τ=[x,y]) (fun i ys H2=>∀j (hj:j<ys.length),∃r,oA[j]?=some r/\cc K H2 ys[j] r) (.of LC) (by rw[List.length_map];lia) MD ⟨none,none,rfl⟩ (fun j hj=>by simp at hj) ?_ ?_
        ·rintro i x ys τ uf hx ⟨x0,y0,rfl⟩ Ac HZ ly pv R hR
         have lj:i<ps.length:=by have:=(List.getElem?_eq_some_iff.mp hx).1;rwa [List.length_map] at this
         rw[List.getElem?_map,List.getElem?_eq_getElem lj] at hx
         cases hx
         obtain⟨r,er,yr⟩:=HY.at_ i lj
         refine⟨ps[i],_,rfl,.of (Ac _ _ yr),rfl,?_⟩
         walk_at "rd"
         refine⟨_,_,rfl,_,_,rfl,rfl,fun Ar m8=>hR _ _ _ ⟨_,_,rfl⟩ (ao.new m8 _) fun j hj=>?_⟩
         have LD:=ao.new m8 (.tup [.int r.1,.int r.2]) _ _ HZ
         have Uc:cc K (upd uf Ar (.tup [.int r.1,.int r.2])) (.ref Ar) r:=cc.new rfl
         by_cases z:j<ys.length
         ·obtain⟨r1,e1,g1⟩:=pv j z
          refine⟨r1,e1,?_⟩
          rw[List.getElem_append_left z]
          exact(g1.mono (ao.new m8 _)).iO LD ((bh.refl _ _).put _)
         ·have:j=ys.length:=by simp at hj;lia
          subst this
          refine⟨r,by rw[ly];exact er,?_⟩
          rw[List.getElem_append_right (Nat.le_refl _)]
          simp only[Nat.sub_self,List.getElem_singleton]
          exact Uc.iO LD ((bh.refl _ _).put _)
        ·intro ys uf Ac HZ ly pv
         rw[List.length_map] at ly
         refine⟨D3,ys,rfl,.inl ⟨.of HZ,fun l hl=>q _ _ (LB.trans (Ac.trans (ao.new hl _))) ?_⟩⟩
         rw[wN fun j r er gt=>?_]
         ·exact⟨l,ys,rfl,.of aj,by rw[ly,HY.l],fun j hj=>let ⟨r,er,g⟩:=pv j hj;⟨r,er,g.mono (ao.new hl _)⟩⟩
         ·refine e ?_
          have lj:j<ps.length:=by rw[HY.l];exact(List.getElem?_eq_some_iff.mp er).1
          have hm:j∈(List.range (ps.map V.ref).length).filter fun j=>decide ((oA.getD j (0,0)).1>(oA.getD j (0,0)).2):=by
           rw[List.mem_filter,List.mem_range,List.length_map,decide_eq_true_eq]
           refine⟨lj,?_⟩
           simp only[List.getD_eq_getElem?_getD,er,Option.getD_some]
           exact gt
          cases z:(List.range (ps.map V.ref).length).filter fun j=>decide ((oA.getD j (0,0)).1>(oA.getD j (0,0)).2) with
          |nil=>rw[z] at hm;cases hm
          |cons a b=>rfl
  walk_at "rd"
  rcases Iv with rfl |rfl
  ·refine(if_neg (by decide +kernel)).mpr ?_
   rw[TY rfl]
   exact main H4 (ao.refl _)
  ·refine(if_pos rfl).mpr ⟨_,_,rfl,_,_,rfl,?_⟩
   rw[max2,min2]
   have fin2:∀c:Bool,(truth=false->c=PG.kz (decide (([61]:W)=[60])) truth L R)->∀p,H4 p=none->∃b,[V.bl !truth]=[V.bl b]/\AQ K (.ref p) (.int (if b=true then 1 else 0)) (upd H4 p (.lst [.bl (decide (max L.1 R.1<=min L.2 R.2)),.bl c])) fun x H1=>U5 [some (.ref sa),some (.ref nl),some rv,some (.bl truth),some (.str (S [61])),some vl,some vr,some (.int L.1),some (.int L.2),some (.int R.1),some (.int R.2),some x,none,none,none] H1:=by
    intro c hc p hp
    refine⟨_,rfl,?_⟩
    cases truth with
    |true=>exact bI (.of aj) (v:=.bl (decide (max L.1 R.1<=min L.2 R.2))) (aw (j:=0) rfl) (main _ (ao.new hp _))
    |false=>
     rw[hc rfl]
     exact bI (.of aj) (v:=.bl (PG.kz (decide (([61]:W)=[60])) false L R)) (aw (j:=1) rfl) (main _ (ao.new hp _))
   have ef:PG.kz (decide (([61]:W)=[60])) false L R = !(decide (L.1=L.2)&&decide (L.2=R.1)&&decide (R.1=R.2)):=rfl
   by_cases e1:L.1=L.2
   ·refine(if_pos e1).mpr ?_
    by_cases e2:L.2=R.1
    ·refine(if_pos e2).mpr (fin2 _ fun et=>?_)
     rw[et,ef,decide_eq_true e1,decide_eq_true e2]
     rfl
    ·refine(if_neg e2).mpr (fin2 _ fun et=>?_)
     rw[et,ef,decide_eq_true e1,decide_eq_false e2]
     rfl
   ·refine(if_neg e1).mpr (fin2 _ fun et=>?_)
    rw[et,ef,decide_eq_false e1]
    rfl
 walk_at "rd"
 intro p hp
 refine⟨_,rfl,?_⟩
 cases truth with
 |true=>exact bI (.of aj) (v:=.bl (decide (L.1<R.2))) (aw (j:=0) rfl) (fin _ (ao.new hp _) _ fun e=>by rw[decide_eq_true e];rfl)
 |false=>exact bI (.of aj) (v:=.bl (decide (R.1<=L.2))) (aw (j:=1) rfl) (fin _ (ao.new hp _) _ fun e=>by rw[decide_eq_true e];rfl)
theorem Gd:∀w:PG.Wd,(i6 w=Str.ofString "must")↔w=.cE:=by
 intro w
 cases w<;>decide +kernel
theorem xb{H:Hp}{st:PG.bM}{v:V}(h:Rep K H (cT st) v):∃a xs,v=.ref a/\bR K H a (.str (i6 st.wd) :: .int st.row::xs):=by
 cases st<;>simp only[cT,Rep.aQ,aC.az,Rep.bu,Rep.aY] at h<;>(obtain⟨a,ys,rfl,hS,_,_,rfl,rfl,_,_,rfl,rfl,_⟩:=h;exact⟨a,_,rfl,hS⟩)
theorem vq(T:Tx K mg t):bJ P w K mg base eY 5 t.iI t.i0 ["statement", "boxes", "ranges", "behind"] (HG K):=by
 have c0:=ng (P:=P) (w:=w) (base:=base) T 3
 have qG:=pj (P:=P) (w:=w) (base:=base) T
 refine T.gi.F.j4 o4 (fun vs H Q E h=>?_) (fun eE A outer s H vs Q E hr h=>?_)
 ·obtain⟨_,_,_,_,_,_,_,_,rfl,_⟩:=h
  rfl
 obtain⟨sv,rv,B,behind,row,st,bs,rs,rfl,pL,C1,hB,ok,qM,qN,q⟩:=h
 have nd:=o4.nd
 refine⟨_,[some sv,some (.ref B),some rv,some (.int behind),none,none,none,none,none,none,none,none,none,none,none],(ak (pE (i:=4) nd rfl (Or.inl rfl) (own:=["box"]) (ix:=[]) rfl (by rfl) (by rfl) (cw (pv 1)) (fun _ _ _ _=>(aW (i:=0) (by show List.Nodup (["box"]:List Str);decide +kernel) rfl (Or.inl rfl))) (fun _ _ _ _=>eK) (fun _ _ _ _=>(av (fj (K:=K) rfl) (pv 0) ah ai)))
 (ak (aP (i:=5) nd rfl (Or.inl rfl) (av au (pv 0) ah ai))
 (ak (bw (PW.pt (pw_or (aE bC (pv 5) bf (aH _)) (pw_or1 (aE bC (pv 5) bf (aH _)))))
 (ar (aI (bt (aa (aZ (aa (av bK (bt (aa (pv 3) (aa ah ag aR) ae)) (bN cC rfl T.jX PyProof.Rows.Boot.«int» (aa (du bC (pv 5) bf (aH _)) ag iq)) c9) (aa (pv 2) ag ae) aO)) ag cy))))
 aN)
 (ak (bw (PW.pt (pw_or (aE bC (pv 5) bf (aH _)) (pw_or1 (aE bC (pv 5) bf (aH _)))))
 (ak (aP (i:=6) nd rfl (Or.inl rfl) (jR PySem.F.plainAttrs_list PySem.F.slot_list_index PySem.F.type_list_index nU (pv 4) (aa (av au (pv 0) ah ai) ag aO)))
 (ak (aP (i:=7) nd rfl (Or.inl rfl) (av au (av bK (pv 1) (pv 6) sX) ah ai))
 (ak (aP (i:=8) nd rfl (Or.inl rfl) (aZ (aa ah (aa (bg dW (pv 7) ah) ag bG) aR)))
 (ak (bw (aE bC (pv 5) bf (aH _))
 (ak (gb (ay c0 (hr.mono (by first|decide|omega)) rfl T.bq.m T.bq.F.kp T.bq.b .nil aT (aa (av au (pv 0) ah ai) (aa (pv 4) (aa (pv 2) ag ae) ae) aO)) (i4 rfl (bA (aW (i:=9) nd rfl (Or.inl rfl)) (bA (aW (i:=10) nd rfl (Or.inl rfl)) eG))))
 (ar (bw (aE bC (bg kU (pv 9) (pv 7)) (bg kU (pv 10) (pv 7)) (aH _))
 (ar (aP (i:=8) nd rfl (Or.inl rfl) (aZ (aa (bg jx (pv 9) (pv 7)) (aa (bg jx (pv 10) (pv 7)) ag bG) bG))))
 aN)))
 aN)
 (ar (aI (bt (aa (aZ (aa (pv 3) (aa (bg yg (bg yg (dD mL (pv 2) fH (eJ (pv 6))) (aZ (aa (pv 8) ag ae))) (dD mL (pv 2) (eJ (bg dq (pv 6) ah)) fH)) ag bG) ae)) ag cy))))))))
 aN)
 (ak (aP (i:=11) nd rfl (Or.inl rfl) (bt (aa (pv 3) (aa (pv 3) ag ae) ae)))
 (ak (bw (aE bC (pv 5) bf (aH _))
 (ar (aP (i:=11) nd rfl (Or.inl rfl) (bt (aa (av au (av bK (bg EW (av au (pv 0) ah ai) (bt (aa (pv 0) ag ae))) ah ai) ah ai) (aa (pv 3) ag ae) aO))))
 aN)
 (ak (bw (aE bC (pv 5) bf (aH _))
 (ar (pE (i:=11) nd rfl (Or.inl rfl) (own:=["body"]) (ix:=[3]) rfl (by rfl) (by rfl) (sN (dD mL (pv 0) (eJ ah) fH)) (fun _ _ _ _=>(aW (i:=0) (by show List.Nodup (["body", "behind"]:List Str);decide +kernel) rfl (Or.inl rfl))) (fun _ _ _ _=>eK) (fun _ _ _ _=>(av (qc (K:=K) rfl) (bg vW (gv (own:=["one"]) (ix:=[]) rfl (by rfl) (by rfl) (Ck (K:=K) rfl (pv 0)) (fun _ _ _ _=>(aW (i:=0) (by show List.Nodup (["one"]:List Str);decide +kernel) rfl (Or.inl rfl))) (fun _ _ _ _=>eK) (fun _ _ _ _=>(av (fj (K:=K) rfl) (pv 0) ah ai))) (bt (aa (pv 1) ag ae))) ah ai))))
 aN)
 (ak (aP (i:=12) nd rfl (Or.inl rfl) (bt ag))
 (ak (gO PassesOwn.never rfl (cw (dD jz (bt (fC (vs:=[.bl true,.bl false]) (by kernel_rfl))) fH (eJ (bg dW ah (bN cC rfl T.jX PyProof.Rows.Boot.«int» (aa (du bC (pv 5) bf (aH _)) ag iq)))))) (aW (i:=13) nd rfl (Or.inl rfl))
 (ak (aP (i:=14) nd rfl (Or.inl rfl) (ay qG (hr.mono (by first|decide|omega)) rfl T.dh.m T.dh.F.kp T.dh.b .nil aT (aa (pv 0) (aa (pv 4) (aa (pv 2) (aa (pv 13) ag ae) ae) ae) ae)))
 (ar (bw (aE xx (pv 14) nC (aH _))
 (ar (gm (jR PySem.F.plainAttrs_list PySem.F.slot_list_append PySem.F.type_list_append fB (pv 12) (aa (aZ (aa (av bK (pv 11) (bN cC rfl T.jX PyProof.Rows.Boot.«int» (aa (pK (pv 13)) ag xO)) c9) (aa (pv 14) ag ae) aO)) ag cy))))
 aN))))
 (ar (aI (pv 12)))))))))))),rfl,?_⟩
 obtain⟨sa,OT,rfl,Lw⟩:=xb pL
 refine ax fun U1 gk=>?_
 walk_at "rd"
 simp only[gX]
 walk_at "rd"
 obtain⟨OB,E7,Ld,g1⟩:=kR hB
 have o9:=ok.o9
 refine⟨⟨_,E7⟩,fun nl IF=>hZ (K:=K) (r:=[]) (fun i=>.str (S (bs.getD i ⟨[],0,0⟩).name)) E7 (by lia) IF (fun i x H2 hx s2 R hR=>?_) (fun H1 s1 hn=>(gk _ _).mpr (ax fun U2 ji=>?_))⟩
 ·obtain⟨a,rfl,ha⟩:=g1 i x hx
  walk_at "rd"
  exact aG (s2.bL ha) (v:=.str (S (bs.getD i ⟨[],0,0⟩).name)) (aw (j:=0) rfl) hR
 clear gk
 rw[Ld,gc (fun b:PG.cD=>V.str (S b.name))] at hn
 replace hn:ET H1 nl bs:=hn
 walk_at "rd"
 refine aG (s1.bL Lw) (v:=.str (i6 st.wd)) (aw (j:=0) rfl) ((ji _ _).mpr (ax fun U3 j3=>?_))
 clear ji
 have Ia:=qM.mono s1
 have rest:st.wd≠.say->st.wd≠.stop->U3 [some (.ref sa),some (.ref B),some rv,some (.int behind),some (.ref nl),some (.str (i6 st.wd)),none,none,none,none,none,none,none,none,none] H1:=by
  intro n1 n2
  refine(j3 _ _).mpr (ax fun U4 m5=>?_)
  clear j3
  have cond:st.wd≠.ask->st.wd≠.put->U4 [some (.ref sa),some (.ref B),some rv,some (.int behind),some (.ref nl),some (.str (i6 st.wd)),none,none,none,none,none,none,none,none,none] H1:=by
   intro n3 n4
   refine(m5 _ _).mpr (ax fun U5 sy=>?_)
   clear m5
   walk_at "rd"
   intro p hp
   have s2:=ao.new hp (.lst [.int behind,.int behind])
   have y2:(upd H1 p (.lst [.int behind,.int behind])) p=_:=aj
   generalize upd H1 p (.lst [.int behind,.int behind])=H2 at *
   obtain⟨sg,tl,tr,hc⟩:∃sg tl tr,jo st=some (sg,tl,tr):=by
    cases st<;>first |exact⟨_,_,_,rfl⟩ |(exact absurd rfl n1) |(exact absurd rfl n2) |(exact absurd rfl n3) |(exact absurd rfl n4)
   have zZ:IA bs sg tl tr:=by
    cases st<;>simp only[jo,Option.some.injEq,Prod.mk.injEq,reduceCtorEq] at hc<;>(obtain⟨rfl,rfl,rfl⟩:=hc;first |exact C1.2 |exact C1.2.1)
   refine(sy _ _).mpr (ax fun U6 sC=>?_)
   clear sy
   have u6:∀(G:Addr) (g0 g1:Int) (H3:Hp),ao H2 H3->H3 G=some (.lst [.int g0,.int g1])->(st.wd≠.ifs->PG.eV bs rs (Cj st behind) st=PG.fO (PG.dY bs rs sg tl tr) (if st.wd=.cE then [(g0,true)] else [(g0,true),(g1,false)]))->U6 [some (.ref sa),some (.ref B),some rv,some (.int behind),some (.ref nl),some (.str (i6 st.wd)),none,none,none,none,none,some (.ref G),none,none,none] H3:=by
    intro G g0 g1 H3 s3 yG ew
    refine(sC _ _).mpr (ax fun U7 F4=>?_)
    clear sC
    have loop:∀(G:Addr) (g0 g1:Int) (H3:Hp),ao H2 H3->H3 G=some (.lst [.int g0,.int g1])->PG.eV bs rs (Cj st behind) st=PG.fO (PG.dY bs rs sg tl tr) (if st.wd=.cE then [(g0,true)] else [(g0,true),(g1,false)])->U7 [some (.ref sa),some (.ref B),some rv,some (.int behind),some (.ref nl),some (.str (i6 st.wd)),none,none,none,none,none,some (.ref G),none,none,none] H3:=by
     intro G g0 g1 H3 s3 yG ew
     refine(F4 _ _).mpr (ax fun U8 yw=>?_)
     clear F4
     walk_at "rd"
     intro F hF
     refine(yw _ _).mpr (ax fun U9 Ds=>?_)
     clear yw
     have s4:=ao.new hF (.lst [])
     have yF:(upd H3 F (.lst [])) F=some (.lst []):=aj
     generalize upd H3 F (.lst [])=H4 at *
     refine gD fun U hU=>?_
     walk_at "rd"
     intro p5 vI
     refine⟨_,rfl,_,rfl,p5,_,rfl,.of aj,fun pl qR=>⟨pl,rfl,⟨_,.of aj⟩,hU _ _ ?_⟩⟩
     clear hU
     obtain⟨gs,OY,Ud⟩:∃gs:List (Int×Bool),gs=(if st.wd=.cE then [(g0,true)] else [(g0,true),(g1,false)])/\gC [V.bl true,V.bl false] none (some (2-if decide (i6 st.wd=Str.ofString "must")=true then 1 else 0))=gs.map fun g=>V.bl g.2:=by
      by_cases em:st.wd=.cE
      ·refine⟨_,rfl,?_⟩
       rw[if_pos em,decide_eq_true ((Gd _).mpr em)]
       rfl
      ·refine⟨_,rfl,?_⟩
       rw[if_neg em,decide_eq_false fun z=>em ((Gd _).mp z)]
       rfl
     have Ue:∀(i:Nat) (g:Int×Bool),gs[i]?=some g->g.1=if g.2 then g0 else g1:=by
      intro i g hg
      rw[OY] at hg
      split at hg
      ·rcases i with _ |i
       ·cases hg;rfl
       ·simp at hg
      ·rcases i with _ |_ |i
       ·cases hg;rfl
       ·cases hg;rfl
       ·simp at hg
     have Vu:gs.length<=2:=by rw[OY];split<;>simp
     rw[Ud]
     rw[<- OY] at ew
     have s5:=(ao.new vI (.lst [V.bl true,V.bl false])).trans (ao.new qR (.lst (gs.map fun g=>V.bl g.2)))
     have Ug:pl≠F:=(aB (ao.new vI (.lst [V.bl true,V.bl false]) _ _ yF) qR).symm
     have OZ:(upd (upd H4 p5 (.lst [V.bl true,V.bl false])) pl (.lst (gs.map fun g=>V.bl g.2))) pl=_:=aj
     generalize upd (upd H4 p5 (.lst [V.bl true,V.bl false])) pl (.lst (gs.map fun g=>V.bl g.2))=H5 at *
     have Uh:=s5 _ _ yF
     have Ui:G≠F:=aB yG hF
     have Uj:=s5 _ _ (s4 _ _ yG)
     have Ga:ao H3 H5:=s4.trans s5
     have Ge:=s3.trans Ga
     have fr:H F=none:=((s1.trans s2).trans s3).free hF
     have line:sizeLine=2 ^ 24:=rfl
     refine gB (K:=K) (a:=pl) (xs:=gs.map fun g=>V.bl g.2) (fun i σ H9=>∃(Aa Ab:Option V) (us:List V),σ=[some (.ref sa),some (.ref B),some rv,some (.int behind),some (.ref nl),some (.str (i6 st.wd)),none,none,none,none,none,some (.ref G),some (.ref F),Aa,Ab]/\bh F H5 H9/\H9 F=some (.lst us)/\i7 K H9 us (PG.fO (PG.dY bs rs sg tl tr) (gs.take i))/\us.length<=i) ?_ ?_ ?_ ?_
     ·exact⟨none,none,[],rfl,.refl _ _,Uh,.nil,Nat.le_refl _⟩
     ·rintro i σ H9 hi ⟨Aa,Ab,us,rfl,u9,y9,w9,l9⟩
      exact .of (u9 _ _ Ug OZ)
     ·rintro i x σ H9 hx ⟨Aa,Ab,us,rfl,u9,y9,w9,l9⟩
      rw[List.getElem?_map] at hx
      cases hg:gs[i]? with
      |none=>rw[hg] at hx;cases hx
      |some g=>
       rw[hg] at hx
       cases hx
       have eg:=Ue i g hg
       have li:i<gs.length:=(List.getElem?_eq_some_iff.mp hg).1
       have LA:ao H H9:=fun b o e=>by
        have e5:=Ge _ _ (s2 _ _ (s1 _ _ e))
        exact u9 b o (aB e fr) e5
       have Uk:ET H9 nl bs:=u9 _ _ (aB (s3 _ _ (s2 _ _ hn)) hF) (Ge _ _ (s2 _ _ hn))
       refine ax fun V1 LF=>?_
       walk_at "rd"
       refine⟨.ref sa,rv,nl,g.2,st,bs,rs,sg,tl,tr,rfl,pL.mono LA,hc,zZ,Uk,ok,qM.mono LA,qN,fun v mi ml ov=>(LF _ _).mpr ?_⟩
       clear LF
       have rq:=u9.trans (.of ml)
       have yA:=ml _ _ y9
       have Q7:=w9.map fun v w h=>h.mono ml
       have et:gs.take (i+1)=gs.take i++[g]:=by rw[List.take_add_one,hg];rfl
       rw[et,PG.oW]
       walk_at "rd"
       cases ho:PG.dY bs rs sg tl tr g.2 with
       |none=>
        rw[ho] at ov
        refine(if_pos ov).mpr ⟨_,_,us,rfl,rq,yA,?_,by lia⟩
        simpa using Q7
       |some KJ=>
        rw[ho] at ov
        replace ov:gH K mi v KJ:=ov
        have nv:¬v=V.c6:=by
         obtain⟨_,_,rfl,_⟩:=ov
         intro z
         cases z
        refine(if_neg nv).mpr ⟨.inl ⟨rfl,_,.of yA⟩,_,rfl,?_⟩
        refine bI (.of (ml _ _ (u9 _ _ Ui Uj))) (v:=.int g.1) ?_ fun p hp=>?_
        ·rw[eg]
         cases g.2<;>rfl
        ·have mv:=ao.new hp (.tup [.int g.1,v])
         have yp:(upd mi p (.tup [.int g.1,v])) p=_:=aj
         have Q8:=mv _ _ yA
         have wp:pd K (upd mi p (.tup [.int g.1,v])) (.ref p) (g.1,KJ):=⟨p,v,rfl,.of yp,ov.mono mv⟩
         have N9:=Q7.map fun v w h=>h.mono mv
         have Ln:=rq.trans (.of mv)
         generalize upd mi p (.tup [.int g.1,v])=ue at *
         refine⟨F,us,_,rfl,rfl,Q8,by lia,_,_,us++[.ref p],rfl,Ln.put _,aj,?_,by simp;lia⟩
         exact(N9.snoc wp).map fun v w h=>h.iO Q8 ((bh.refl F ue).put _)
     ·rintro σ H9 ⟨Aa,Ab,us,rfl,u9,y9,w9,l9⟩
      refine(Ds _ _).mpr ?_
      walk_at "rd"
      rw[List.length_map,List.take_length] at w9
      refine q F us H9 (fun b o e=>?_) fr y9 (by rw[ew];exact w9)
      exact u9 b o (aB e fr) (Ge _ _ (s2 _ _ (s1 _ _ e)))
    refine pH fun UI Q9=>?_
    walk_at "rd"
    by_cases ei:st.wd=.ifs
    ·refine(if_pos (V.str.inj ((oE st).mpr ei))).mpr ((Q9 _ _).mpr ?_)
     clear Q9
     walk_at "rd"
     simp only[gX,Dz]
     walk_at "rd"
     obtain⟨k,ia,ib,rfl⟩:∃k ia ib,st=.ifs k sg tl tr ia ib:=by
      cases st<;>simp only[jo,Option.some.injEq,Prod.mk.injEq,reduceCtorEq] at hc<;>first |(obtain⟨rfl,rfl,rfl⟩:=hc;exact⟨_,_,_,rfl⟩) |cases ei
     have C2:=pL
     simp only[cT,Rep.aQ,aC.az,aC.aV,Rep.bu,Rep.aY] at C2
     obtain⟨_,ys,ea,hS,_,_,rfl,rfl,_,_,rfl,rfl,_,_,rfl,rfl,vl,_,rfl,_,vr,_,rfl,_,va,_,rfl,ra,vb,_,rfl,rb,rfl⟩:=C2
     cases ea
     have O0:ia.length<=1:=by rcases C1.2.2.1 with e |e<;>rw[e]<;>simp
     have lib1:ib.length<=1:=by rcases C1.2.2.2 with e |e<;>rw[e]<;>simp
     have Ra:=(s1.trans s2).trans s3
     refine⟨_,rfl,sa,_,rfl,Ra.bL hS,fun pc H4 s4 h4=>⟨pc,rfl,⟨_,h4⟩,fun D hD=>?_⟩⟩
     replace h4:bR K H4 pc [va,vb]:=h4
     have Ul:=Ra.trans s4
     refine sr (K:=K) (fun τ=>∃x,τ=[x,some (.int behind)]) (fun i ys H2=>ys=(([ia,ib].take i).map fun b=>V.int (PG.bz b behind))) h4 (by simp) hD ⟨none,rfl⟩ rfl ?_ ?_
     ·rintro i x ys τ H5 hx ⟨x0,rfl⟩ s5 yD ly rfl R hR
      obtain⟨bd,Um,QH,Uo⟩:∃bd,[ia,ib][i]?=some bd/\bd.length<=1/\Rep K H (.lst (ki bd)) x:=by
       rcases i with _ |_ |i
       ·cases hx;exact⟨ia,rfl,O0,ra⟩
       ·cases hx;exact⟨ib,rfl,lib1,rb⟩
       ·simp at hx
      have Ga:=Ul.trans s5
      obtain⟨l,xs,rfl,hl,Fh⟩:=Rep.bF.mp (Uo.mono Ga)
      rw[gF] at Fh
      have Up:xs.length=bd.length:=by rw[Fh.length,List.length_map]
      walk_at "rd"
      simp only[gX]
      walk_at "rd"
      refine⟨⟨_,hl⟩,fun D2 HP=>hZ (K:=K) (r:=[]) (fun j=>.int (bd.getD j (.stop 0)).row) hl (by lia) HP (fun j y H6 hy s6 R2 Rb=>?_) (fun H6 s6 h6 p7 HS=>?_)⟩
      ·have lj:j<bd.length:=by have:=(List.getElem?_eq_some_iff.mp hy).1;lia
       obtain⟨v,hv,An⟩:=Fh.get (i:=j) (d:=cT bd[j]) (by rw[List.getElem?_map,List.getElem?_eq_getElem lj];rfl)
       rw[hy] at hv
       cases hv
       obtain⟨ya,Uq,rfl,O3⟩:=xb An
       simp only[List.getD_eq_getElem?_getD,List.getElem?_eq_getElem lj,Option.getD_some] at Rb
       walk_at "rd"
       exact aG (s6.bL O3) (v:=.int bd[j].row) (aw (j:=1) rfl) Rb
      ·have s7:=ao.new HS (.lst [.int behind])
       have line:sizeLine=2 ^ 24:=rfl
       refine⟨D2,p7,_,_,rfl,rfl,s7 _ _ h6,aj,by simp only[List.length_map,List.length_range,List.length_singleton];lia,fun p8 Ap=>bI (.of aj) (v:=.int (PG.bz bd behind)) ?_ (hR _ _ _ ⟨_,rfl⟩ ((s6.trans s7).trans (ao.new Ap _)) ?_)⟩
       ·rw[Up]
        cases bd with
        |nil=>rfl
        |cons s0 r=>
         cases r with
         |nil=>rfl
         |cons _ _=>simp at QH
       ·rw[List.take_add_one,Um,List.map_append]
        rfl
     ·rintro ys H5 s5 yD ly rfl
      refine loop D (PG.bz ia behind) (PG.bz ib behind) H5 (s3.trans (s4.trans s5)) yD ?_
      rw[show PG.dY bs rs sg tl tr=PG.cK bs rs sg tl tr from funext fun b=>PG.tH qN.1 sg tl tr b (fun x e=>by have:=zZ.2.1;rw[e] at this;exact this) (fun x e=>by have:=zZ.2.2.1;rw[e] at this;exact this)]
      rfl
    ·exact(if_neg fun z=>ei ((oE st).mp (congrArg V.str z))).mpr (loop G g0 g1 H3 s3 yG (ew ei))
   walk_at "rd"
   by_cases ew:st.wd=.gw
   ·refine(if_pos (V.str.inj ((kP st).mpr ew))).mpr ?_
    obtain⟨k,ia,rfl⟩:∃k ia,st=.gw k sg tl tr ia:=by
     cases st<;>simp only[jo,Option.some.injEq,Prod.mk.injEq,reduceCtorEq] at hc<;>first |(obtain⟨rfl,rfl,rfl⟩:=hc;exact⟨_,_,rfl⟩) |cases ew
    have C2:=pL
    simp only[cT,Rep.aQ,aC.az,aC.aV,Rep.bu,Rep.aY] at C2
    obtain⟨_,ys,ea,hS,_,_,rfl,rfl,_,_,rfl,rfl,_,_,rfl,rfl,vl,_,rfl,_,vr,_,rfl,_,va,_,rfl,ra,rfl⟩:=C2
    cases ea
    have O4:=s1.trans s2
    obtain⟨l,xs,rfl,hl,Fh⟩:=Rep.bF.mp (ra.mono O4)
    rw[gF] at Fh
    refine aG (O4.bL hS) (v:=.ref l) (aw (j:=5) rfl) fun p3 ud=>?_
    have s3:=ao.new ud (.lst [.ref sa])
    obtain⟨hv,h0,Rc,eh,hT,lx⟩:∃hv h0 Rc,(xs++[V.ref sa])[0]?=some (.ref hv)/\bR K H2 hv (h0 :: .int (PG.bz ia k)::Rc)/\xs.length<=1:=by
     rcases C1.2.2 with e |e
     ·subst e
      rw[List.map_nil,aC.aV] at Fh
      subst Fh
      exact⟨sa,_,_,rfl,O4.bL hS,by simp⟩
     ·subst e
      rw[List.map_cons,List.map_nil,aC.az] at Fh
      obtain⟨v,Vv,rfl,An,r2⟩:=Fh
      rw[aC.aV] at r2
      subst r2
      obtain⟨ya,Uq,rfl,O3⟩:=xb An
      exact⟨ya,_,_,rfl,O3,by simp⟩
    refine⟨l,p3,xs,[.ref sa],rfl,rfl,s3.seq hl,.of aj,by simp only[List.length_singleton];lia,fun p4 oF=>bI (.of aj) (v:=.ref hv) (aw eh) (aG ((s3.trans (ao.new oF _)).bL hT) (v:=.int (PG.bz ia k)) (aw (j:=1) rfl) fun p5 vI=>u6 p5 (PG.bz ia k) behind _ ((s3.trans (ao.new oF _)).trans (ao.new vI _)) aj fun _=>?_)⟩
    rw[show PG.dY bs rs sg tl tr=PG.cK bs rs sg tl tr from funext fun b=>PG.tH qN.1 sg tl tr b (fun x e=>by have:=zZ.2.1;rw[e] at this;exact this) (fun x e=>by have:=zZ.2.2.1;rw[e] at this;exact this)]
    rfl
   ·refine(if_neg fun z=>ew ((kP st).mp (congrArg V.str z))).mpr (u6 p behind behind H2 (ao.refl _) y2 fun ni=>?_)
    obtain⟨k,rfl⟩:∃k,st=.cE k sg tl tr:=by
     cases st<;>simp only[jo,Option.some.injEq,Prod.mk.injEq,reduceCtorEq] at hc<;>first |(exact absurd rfl ni) |(exact absurd rfl ew) |(obtain⟨rfl,rfl,rfl⟩:=hc;exact⟨_,rfl⟩)
    rw[show PG.dY bs rs sg tl tr=PG.cK bs rs sg tl tr from funext fun b=>PG.tH qN.1 sg tl tr b (fun x e=>by have:=zZ.2.1;rw[e] at this;exact this) (fun x e=>by have:=zZ.2.2.1;rw[e] at this;exact this)]
    rfl
  refine pH fun UB LG=>?_
  have body:∀b,b∈bs.map (·.name)->(∃k,st=.ask k b)\/(∃k e,st=.put k b e)->UB [some (.ref sa),some (.ref B),some rv,some (.int behind),some (.ref nl),some (.str (i6 st.wd)),none,none,none,none,none,none,none,none,none] H1:=by
   intro b hb hk
   refine(LG _ _).mpr (ax fun V1 LF=>?_)
   clear LG
   obtain⟨sys,O5⟩:∃sys,bR K H sa (.str (i6 st.wd) :: .int st.row :: .str (S b)::sys):=by
    rcases hk with ⟨k,rfl⟩ |⟨k,e,rfl⟩
    ·obtain⟨a,ea,hT⟩:=sD pL
     cases ea
     exact⟨_,hT⟩
    ·obtain⟨a,u,ea,hT,_⟩:=oB pL
     cases ea
     exact⟨_,hT⟩
   walk_at "rd"
   refine⟨.inl ⟨rfl,_,.of hn⟩,aG (s1.bL O5) (v:=.str (S b)) (aw (j:=2) rfl) (hn.index hb ((LF _ _).mpr (ax fun V2 Rf=>?_)))⟩
   clear LF
   have HW:PG.jv bs b<bs.length:=by
    unfold PG.jv
    rw[List.findIdx_lt_length]
    obtain⟨y,hy,e⟩:=List.mem_map.mp hb
    exact⟨y,hy,by simp[e]⟩
   obtain⟨ba,Ur,Rh⟩:=g1 (PG.jv bs b) OB[PG.jv bs b] (List.getElem?_eq_getElem (by lia))
   have Ri:(bs.getD (PG.jv bs b) ⟨[],0,0⟩).size=cm bs b:=by
    obtain⟨hi,en⟩:=mK hb
    have ei:=PG.nV ok.nb hi
    rw[en] at ei
    unfold cm
    rw[ei,List.getD_eq_getElem?_getD,List.getElem?_eq_getElem hi]
    rfl
   rw[Ri] at Rh
   have Vw:2<=cm bs b/\cm bs b<=10:=by
    rw[<- Ri,List.getD_eq_getElem?_getD,List.getElem?_eq_getElem HW]
    exact ok.sz _ (List.getElem_mem HW)
   walk_at "rd"
   refine bI (s1.seq E7) (v:=.ref ba) (aw (by rw[List.getElem?_eq_getElem (by lia),Ur])) (aG (s1.bL Rh) (v:=.int (cm bs b)) (aw (j:=1) rfl) ((Rf _ _).mpr (ax fun V3 Rj=>?_)))
   clear Rf
   walk_at "rd"
   intro p2 oQ
   refine(Rj _ _).mpr (ax fun V4 O6=>?_)
   clear Rj
   have gp:cc K (upd H1 p2 (.tup [.int 0,.int (cm bs b-1)])) (.ref p2) (0,cm bs b-1):=cc.new rfl
   have s2:=ao.new oQ (.tup [.int 0,.int (cm bs b-1)])
   generalize upd H1 p2 (.tup [.int 0,.int (cm bs b-1)])=H2 at *
   have fin:∀(H6:Hp) (pv:Addr) (r:PG.Rg) (z9 IQ:Option V),ao H2 H6->cc K H6 (.ref pv) r->PG.eV bs rs (Cj st behind) st=[(behind,PG.iz bs rs b r)]->V4 [some (.ref sa),some (.ref B),some rv,some (.int behind),some (.ref nl),some (.str (i6 st.wd)),some (.int (PG.jv bs b)),some (.int (cm bs b)),some (.ref pv),z9,IQ,none,none,none,none] H6:=by
    intro H6 pv r z9 IQ s6 gr ew
    refine(O6 _ _).mpr ?_
    clear O6
    obtain⟨ra,us,rfl,Lx,F6⟩:=Ia.mono (s2.trans s6)
    have vE:us.length=bs.length:=by rw[F6.1];exact qN.1
    have line:sizeLine=2 ^ 24:=rfl
    walk_at "rd"
    refine⟨_,rfl,ra,_,rfl,Lx,fun p7 H7 s7 h7 p8 Ap=>?_⟩
    have y8:(upd H7 p8 (.tup [.ref pv])) p8=_:=aj
    have s8:=ao.new Ap (.tup [.ref pv])
    generalize upd H7 p8 (.tup [.ref pv])=H8 at *
    rw[wM _ (by lia),Int.toNat_natCast] at h7
    refine⟨p7,p8,_,_,rfl,rfl,s8.bL h7,.of y8,by rw[List.length_take];simp only[List.length_singleton];lia,fun p9 H9 s9 h9=>⟨_,rfl,ra,_,rfl,s9.bL (s8.bL (s7.bL Lx)),fun IJ mi ml BR=>?_⟩⟩
    rw[show ((PG.jv bs b:Int)+1)=((PG.jv bs b+1:Nat):Int) by lia,vd] at BR
    refine⟨p9,IJ,_,_,rfl,rfl,ml.bL h9,BR,by rw[List.length_append,List.length_take,List.length_drop];simp only[List.length_singleton];lia,fun MP ue mv Dr IK w4 Ar m8=>?_⟩
    have O7:us.take (PG.jv bs b)++[V.ref pv]++us.drop (PG.jv bs b+1)=us.set (PG.jv bs b) (.ref pv):=by
     rw[List.set_eq_take_append_cons_drop,if_pos (by lia),List.append_assoc]
     rfl
    rw[O7] at Dr
    have sA:=((s7.trans s8).trans s9).trans (ml.trans mv)
    have sG:=ao.new w4 (.tup [.int behind,.ref MP])
    have qV:=ao.new m8 (.lst [.ref IK])
    have Us:(upd ue IK (.tup [.int behind,.ref MP])) IK=_:=aj
    have sT:=(s1.trans s2).trans (s6.trans sA)
    refine q Ar _ _ (sT.trans (sG.trans qV)) ((sT.trans sG).free m8) aj ?_
    rw[ew]
    refine .cons ⟨IK,.ref MP,rfl,.of (qV _ _ Us),MP,_,rfl,qV.bL (sG.bL Dr),?_⟩ .nil
    exact((F6.mono sA).put (gr.mono sA)).mono (sG.trans qV)
   rcases hk with ⟨k,rfl⟩ |⟨k,tr,rfl⟩
   ·walk_at "rd"
    exact(if_neg (by simp only[PG.bM.wd];decide +kernel)).mpr (fin H2 p2 _ none none (ao.refl _) gp rfl)
   ·obtain⟨a,u,ea,hT,ru⟩:=oB pL
    cases ea
    have sG:=s1.trans s2
    have Ut:=C1.2.2.1.g qN
    have Vx:=C1.2.2.2
    refine pH fun UC Rk=>?_
    walk_at "rd"
    refine(if_pos rfl).mpr ((Rk _ _).mpr (ax fun V5 Rl=>?_))
    clear Rk O6
    walk_at "rd"
    refine aG (sG.bL hT) (v:=u) (aw (j:=3) rfl) ⟨u,rv,nl,tr,bs,rs,rfl,ru.mono sG,s2 _ _ hn,Ia.mono s2,qN.1,Ut,by lia,by lia,fun lv H3 s3 hL=>?_⟩
    obtain⟨la,rfl,hL⟩:=hL
    refine⟨la,_,rfl,hL,rfl,_,_,rfl,_,_,rfl,rfl,(Rl _ _).mpr ?_⟩
    clear Rl
    have ew:PG.eV bs rs (Cj (.put k b tr) behind) (.put k b tr)=[(behind,PG.iz bs rs b (PG.qr (PG.dC (PG.bT bs rs) tr) (cm bs b)))]:=rfl
    unfold PG.qr at ew
    generalize PG.dC (PG.bT bs rs) tr=L at *
    generalize cm bs b=sz at *
    walk_at "rd"
    refine⟨⟨by lia,by lia⟩,⟨by lia,by lia⟩,?_⟩
    by_cases e:L.1/sz=L.2/sz
    ·rw[if_pos e] at ew
     refine(if_pos e).mpr ⟨by lia,by lia,fun p4 oF=>fin _ p4 _ _ _ (s3.trans (ao.new oF _)) (.new rfl) ew⟩
    ·rw[if_neg e] at ew
     exact(if_neg e).mpr (fin H3 p2 _ _ _ s3 (gp.mono s3) ew)
  walk_at "rd"
  by_cases e1:st.wd=.ask
  ·obtain⟨k,b,vj⟩:=CD e1
   refine(if_pos ((E3 _).mpr e1)).mpr ((if_pos trivial).mpr (body b ?_ (.inl ⟨k,vj⟩)))
   rw[vj] at C1
   exact C1.2
  refine(if_neg (fun z=>e1 ((E3 _).mp z))).mpr ?_
  by_cases e2:st.wd=.put
  ·obtain⟨k,b,tr,vj⟩:=CF e2
   refine(if_pos ((E4 _).mpr e2)).mpr (body b ?_ (.inr ⟨k,tr,vj⟩))
   rw[vj] at C1
   exact C1.2.1
  exact(if_neg (fun z=>e2 ((E4 _).mp z))).mpr (cond e1 e2)
 have LH:∀(x:Int),PG.eV bs rs (Cj st behind) st=[(x,rs)]->∀H2,ao H1 H2->∀p,H2 p=none->∀p1,upd H2 p (.tup [.int x,rv]) p1=none->Q (.ref p1) (upd (upd H2 p (.tup [.int x,rv])) p1 (.lst [.ref p])):=by
  intro x ew H2 s2 p hp p1 vG
  have sp:=ao.new hp (.tup [.int x,rv])
  have O8:=ao.new vG (.lst [.ref p])
  have yp:(upd H2 p (.tup [.int x,rv])) p=_:=aj
  refine q p1 _ _ ((s1.trans s2).trans (sp.trans O8)) (((s1.trans s2).trans sp).free vG) aj ?_
  rw[ew]
  exact .cons ⟨p,rv,rfl,.of (O8 _ _ yp),(Ia.mono s2).mono (sp.trans O8)⟩ .nil
 walk_at "rd"
 by_cases e1:st.wd=.say
 ·obtain⟨k,e,vj⟩:=HL e1
  refine(if_pos ((K9 _).mpr e1)).mpr ((if_pos trivial).mpr fun p hp=>⟨_,rfl,?_⟩)
  rw[e1]
  exact bI (.of aj) (v:=.int behind) (aw (j:=0) rfl) (LH behind (by rw[vj];rfl) _ (ao.new hp _))
 refine(if_neg (fun z=>e1 ((K9 _).mp z))).mpr ?_
 by_cases e2:st.wd=.stop
 ·have vj:∃k,st=.stop k:=by cases st<;>first |exact⟨_,rfl⟩ |cases e2
  obtain⟨k,vj⟩:=vj
  rw[e2]
  refine(if_pos rfl).mpr fun p hp=>⟨_,rfl,?_⟩
  exact bI (.of aj) (v:=.int 0) (aw (j:=1) rfl) (LH 0 (by rw[vj];rfl) _ (ao.new hp _))
 refine(if_neg (fun z=>e2 ?_)).mpr (rest e1 e2)
 exact(tM st).mp (congrArg V.str z)
theorem nh:∀t:PM.Tr,(iA t).length+1<=2 ^ (PG.c8 t+1)
 |.num _=>by simp[iA,PG.c8]
 |.box _=>by simp[iA,PG.c8]
 |.bin o l r=>by
  have a:=nh l
  have b:=nh r
  have c:2 ^ (PG.c8 l+1)<=2 ^ (max (PG.c8 l) (PG.c8 r)+1):=Nat.pow_le_pow_right (by decide) (by lia)
  have d:2 ^ (PG.c8 r+1)<=2 ^ (max (PG.c8 l) (PG.c8 r)+1):=Nat.pow_le_pow_right (by decide) (by lia)
  have e:2 ^ (PG.c8 (.bin o l r)+1)=2*2 ^ (max (PG.c8 l) (PG.c8 r)+1):=by rw[PG.c8,Nat.pow_succ,Nat.mul_comm]
  rw[e,iA,List.length_cons,List.length_append]
  generalize 2 ^ (max (PG.c8 l) (PG.c8 r)+1)=m at *
  lia
theorem rz(T:Tx K mg t){n:Nat}(hX:bJ P w K mg base eY n t.dw t.dJ ["e"] (mO K n)) :
 bJ P w K mg base eY (n+1) t.dw t.dJ ["e"] (mO K (n+1)):=by
 refine T.bP.F.j4 lH (fun vs H Q E h=>?_) (fun eE A outer s H vs Q E hr h=>?_)
 ·obtain⟨_,_,rfl,_⟩:=h
  rfl
 obtain⟨v,tr,rfl,hv,nb,ht,h6,q⟩:=h
 have nd:=lH.nd
 refine⟨_,[some v],(ak (bw (aE rQ (av au (pv 0) ah ai) (bt (fC (vs:=[.str "number",.str "box"]) (by kernel_rfl))) rfl)
 (ar (aI (bt (aa (pv 0) ag ae))))
 aN)
 (ar (aI (bg vW (bg vW (bt (aa (pv 0) ag ae)) (ay hX (hr.mono (by first|decide|omega)) rfl T.bP.m T.bP.F.kp T.bP.b .nil aT (aa (av au (pv 0) ah ai) ag aO))) (ay hX (hr.mono (by first|decide|omega)) rfl T.bP.m T.bP.F.kp T.bP.b .nil aT (aa (av au (pv 0) ah ai) ag aO)))))),rfl,?_⟩
 refine ax fun U1 gk=>?_
 walk_at "rd"
 have leaf:∀(w0:Str) (a:Addr) (ys:List V),v=.ref a->bR K H a (.str w0::ys)->(w0 = "number"\/w0 = "box")->iA tr=[tr]->uz K v (V.int 0) H fun x H1=>∀(p:Addr),H1 p=none->PU K false x (V.ref p) (upd H1 p (.lst [.str "number",.str "box"])) fun x H'=>∃k,x=V.bl k/\if k=true then ∀(p:Addr),H' p=none->Q (V.ref p) (upd H' p (.lst [v])) else U1 [some v] H':=by
  intro w0 a ys e hS hw es
  subst e
  refine aG hS (v:=.str w0) (aw (j:=0) rfl) fun p hp=>⟨p,_,rfl,.inl (.of aj),rfl,rfl,_,rfl,(if_pos ?_).mpr fun p2 oQ=>?_⟩
  ·rcases hw with rfl |rfl<;>decide +kernel
  ·have s1:=(ao.new hp (.lst [.str "number",.str "box"])).trans (ao.new oQ (.lst [.ref a]))
   refine q p2 _ _ s1 ((ao.new hp _).free oQ) aj ?_
   rw[es]
   exact .cons (hv.mono s1) .nil
 cases tr with
 |num m=>
  have qJ:=hv
  unfold eZ at qJ
  simp only[Rep.aQ,aC.az,aC.aV,Rep.bu,Rep.aY] at qJ
  obtain⟨a,xs,rfl,hS,_,_,rfl,rfl,_,_,rfl,rfl,rfl⟩:=qJ
  exact leaf _ a _ rfl hS (.inl rfl) rfl
 |box x=>
  have qJ:=hv
  unfold eZ at qJ
  simp only[Rep.aQ,aC.az,aC.aV,Rep.bu,Rep.aY] at qJ
  obtain⟨a,xs,rfl,hS,_,_,rfl,rfl,_,_,rfl,rfl,rfl⟩:=qJ
  exact leaf _ a _ rfl hS (.inr rfl) rfl
 |bin o l r=>
  have qJ:=hv
  unfold eZ at qJ
  simp only[Rep.aQ,aC.az,aC.aV,Rep.bu,Rep.aY] at qJ
  obtain⟨a,xs,rfl,hS,_,_,rfl,rfl,vl,_,rfl,hl,vr,_,rfl,nr,rfl⟩:=qJ
  have nn:=nb (.bin o l r) (by unfold iA;simp) o l r rfl
  refine aG hS (v:=.str (S o)) (aw (j:=0) rfl) fun p hp=>⟨p,_,rfl,.inl (.of aj),rfl,rfl,_,rfl,(if_neg ?_).mpr ((gk _ _).mpr ?_)⟩
  ·intro z
   simp[L9,DK] at z
   rcases z with z |z
   ·exact nn.2 z.symm
   ·exact nn.1 z.symm
  have s1:=ao.new hp (.lst [.str "number",.str "box"])
  generalize upd H p (.lst [.str "number",.str "box"])=H1 at *
  have l7:2 ^ (PG.c8 l+1)<=2 ^ 7:=by rw[PG.c8] at h6;exact Nat.pow_le_pow_right (by decide) (by lia)
  have r7:2 ^ (PG.c8 r+1)<=2 ^ 7:=by rw[PG.c8] at h6;exact Nat.pow_le_pow_right (by decide) (by lia)
  have ll:=nh l
  have lr:=nh r
  have line:sizeLine=2 ^ 24:=rfl
  rw[PG.c8] at ht h6
  walk_at "rd"
  intro p2 oQ
  have y2:(upd H1 p2 (.lst [.ref a])) p2=_:=aj
  have s2:=s1.trans (ao.new oQ (.lst [.ref a]))
  generalize upd H1 p2 (.lst [.ref a])=H2 at *
  refine aG (s2.bL hS) (v:=vl) (aw (j:=1) rfl) ⟨vl,l,rfl,hl.mono s2,fun x hx=>nb x (by unfold iA;simp[hx]),by lia,by lia,fun L1 Dn H3 s3 Vy y3 r3=>?_⟩
  have e1:Dn.length=(iA l).length:=by rw[r3.length,List.length_map]
  refine⟨p2,L1,_,_,rfl,rfl,s3 _ _ y2,y3,by simp only[List.length_singleton];lia,fun p4 oF=>?_⟩
  have y4:(upd H3 p4 (.lst ([.ref a]++Dn))) p4=_:=aj
  have K8:=ao.new oF (.lst ([.ref a]++Dn))
  have s4:=(s2.trans s3).trans K8
  generalize upd H3 p4 (.lst ([.ref a]++Dn))=H4 at *
  refine aG (s4.bL hS) (v:=vr) (aw (j:=2) rfl) ⟨vr,r,rfl,nr.mono s4,fun x hx=>nb x (by unfold iA;simp[hx]),by lia,by lia,fun L2 Dq H5 s5 Uu y5 r5=>?_⟩
  have e2:Dq.length=(iA r).length:=by rw[r5.length,List.length_map]
  refine⟨p4,L2,_,_,rfl,rfl,s5 _ _ y4,y5,by simp only[List.length_append,List.length_singleton];lia,fun p6 mr=>?_⟩
  have s6:=(s4.trans s5).trans (ao.new mr (.lst ([.ref a]++Dn++Dq)))
  refine q p6 _ _ s6 ((s4.trans s5).free mr) aj ?_
  unfold iA
  rw[List.map_cons,List.map_append,List.append_assoc]
  exact .cons (hv.mono s6) ((r3.mono ((K8.trans s5).trans (ao.new mr _))).append (r5.mono (ao.new mr _)))
theorem sH(T:Tx K mg t):∀n,bJ P w K mg base eY n t.dw t.dJ ["e"] (mO K n)
 |0=>by
  have no:∀vs H Q E,¬mO K 0 vs H Q E:=fun vs H Q E h=>by obtain⟨_,_,_,_,_,h,_⟩:=h;lia
  exact⟨fun vs H Q E h=>absurd h (no vs H Q E),fun A outer s H args us vs Q E _ _ _ _ h=>absurd h (no vs H Q E)⟩
 |n+1=>rz T (sH T n)
theorem vt(T:Tx K mg t):bJ P w K mg base eY 10 t.iG t.iZ ["program", "e", "ranges"] (zP K):=by
 have g1:=hV (P:=P) (w:=w) (base:=base) T
 have g2:=oG (P:=P) (w:=w) (base:=base) T 4
 have g3:=yC (P:=P) (w:=w) (base:=base) T
 have jQ:=lJ (P:=P) (w:=w) (base:=base) T g1 g2 g3
 have iK:=kO (P:=P) (w:=w) (base:=base) T
 have dA:=hJ (P:=P) (w:=w) (base:=base) T 5
 refine T.gh.F.j4 oZ (fun vs H Q E h=>?_) (fun eE A outer s H vs Q E hr h=>?_)
 ·obtain⟨_,_,_,_,_,_,rfl,_⟩:=h
  rfl
 obtain⟨LJ,v,rv,pr,tr,rs,rfl,hp,hd,hf,ok,hv,qM,ll,gt,dt,q⟩:=h
 have nd:=oZ.nd
 refine⟨_,[some LJ,some v,some rv],(ar (aI (ay dA (hr.mono (by first|decide|omega)) rfl T.bB.m T.bB.F.kp T.bB.b .nil aT (aa (pv 1) (aa (ay iK (hr.mono (by first|decide|omega)) rfl T.cn.m T.cn.F.kp T.cn.b .nil aT (aa (xC T.m3 jQ (hr.mono (by first|decide|omega)) rfl T.vf T.mZ .nil aT (aa (pv 0) ag ae)) (aa (pv 2) ag ae) bo)) ag bo) ae)))),rfl,?_⟩
 walk_at "rd"
 intro p dx LK ID ne
 have s1:ao H (upd (upd H dx (.own p)) p (.ins t.aS dx [])):=(ao.new ID _).trans (ao.new (by rw[aF ne.symm];exact LK) _)
 refine⟨p,dx,LJ,pr,rfl,aj,by rw[aF ne];exact aj,hp.mono s1,hd,hf,ok.pw,ok.nb,ok.o9,fun H2 u2 co=>⟨rfl,?_⟩⟩
 have s2:ao H H2:=((bh.of s1).trans u2).same LK
 obtain⟨ra,us,rfl,K4,F6⟩:=qM.mono s2
 have vE:us.length=pr.aA.length:=by rw[F6.1];exact ll
 refine⟨p,ra,pr,us,rfl,co,K4,vE,ok.nb,ok.o9,fun d H3 s3 Mi y3=>?_⟩
 have nm:=(pb.of F6 vE ok.nb).mono s3
 exact⟨v,d,tr,_,_,rfl,hv.mono (s2.trans s3),y3,nm.Iz ok.nb gt,by lia,by lia,fun u H4 s4 hu=>q u H4 ((s2.trans s3).trans s4) hu⟩
theorem tR(T:Tx K mg t):bJ P w K mg base eY 11 t.gJ t.gZ ["program", "row", "ranges"] (qv K):=by
 have g1:=hV (P:=P) (w:=w) (base:=base) T
 have g2:=oG (P:=P) (w:=w) (base:=base) T 4
 have g3:=yC (P:=P) (w:=w) (base:=base) T
 have jQ:=lJ (P:=P) (w:=w) (base:=base) T g1 g2 g3
 have Ae:=wW (P:=P) (w:=w) (base:=base) T
 refine T.bX.F.j4 mT (fun vs H Q E h=>?_) (fun eE A outer s H vs Q E hr h=>?_)
 ·obtain⟨_,_,_,_,_,rfl,_⟩:=h
  rfl
 obtain⟨LJ,rv,pr,row,rs,rfl,hp,hd,hf,ok,qM,ll,bp,q⟩:=h
 have nd:=mT.nd
 refine⟨_,[some LJ,some (.int row),some rv],(ar (aI (ay Ae (hr.mono (by first|decide|omega)) rfl T.ik.m T.ik.F.kp T.ik.b .nil aT (aa (xC T.m3 jQ (hr.mono (by first|decide|omega)) rfl T.vf T.mZ .nil aT (aa (pv 0) ag ae)) (aa (pv 1) (aa (pv 2) ag ae) ae) bo)))),rfl,?_⟩
 walk_at "rd"
 intro p dx LK ID ne
 have s1:ao H (upd (upd H dx (.own p)) p (.ins t.aS dx [])):=(ao.new ID _).trans (ao.new (by rw[aF ne.symm];exact LK) _)
 refine⟨p,dx,LJ,pr,rfl,aj,by rw[aF ne];exact aj,hp.mono s1,hd,hf,ok.pw,ok.nb,ok.o9,fun H2 u2 co=>⟨rfl,?_⟩⟩
 have s2:ao H H2:=((bh.of s1).trans u2).same LK
 refine⟨p,rv,pr,row,rs,rfl,co,ok,qM.mono s2,ll,bp,?_⟩
 rcases q with ⟨e,q⟩ |⟨n0,i,hi,Qo,er,po,w0,q⟩
 ·exact .inl ⟨e,fun L H3 s3 h3 y3=>q L H3 (s2.trans s3) (s2.free h3) y3⟩
 ·exact .inr ⟨n0,i,hi,Qo,er,po,w0,fun L us H3 s3 h3 y3 w3=>q L us H3 (s2.trans s3) (s2.free h3) y3 w3⟩
theorem Ib(T:Tx K mg t):bJ P w K mg base eY 30 t.yt t.oh ["script"] (xT K):=by
 have aU:=dB (P:=P) (w:=w) (K:=K) (base:=base) T
 have tS:=rn (P:=P) (w:=w) (K:=K) (base:=base) T
 have oH:=nc (P:=P) (w:=w) (K:=K) (base:=base) T
 have rA:=qF (P:=P) (w:=w) (K:=K) (base:=base) T
 have xc:=vq (P:=P) (w:=w) (base:=base) T
 have kT:=tR (P:=P) (w:=w) (base:=base) T
 have xf:=vt (P:=P) (w:=w) (base:=base) T
 have hX:=sH (P:=P) (w:=w) (base:=base) T 3
 have c0:=ng (P:=P) (w:=w) (base:=base) T 3
 refine T.yu.F.j4 Cv (fun vs H Q E h=>?_) (fun eE A outer s H vs Q E hr h=>?_)
 ·obtain⟨_,_,rfl,_⟩:=h
  rfl
 obtain⟨a,ns,rfl,hS,Vz,q⟩:=h
 have nd:=Cv.nd
 have hu:=ka hr
 refine⟨_,[some (V.ref a),none,none,none,none,none,none,none,none,none,none,none,none,none,none],(ak (gO PassesOwn.never rfl (cw (dD jz (pv 0) fH (eJ ah))) (aW (i:=1) nd rfl (Or.inl rfl))
 (ak (aP (i:=2) nd rfl (Or.inl rfl) (bt (aa (pv 1) (aa (bN cC rfl T.jX PyProof.Rows.Boot.«int» (aa (du pO (pv 1) (bg GI ah ah) (aH _)) ag iq)) ag bo) ae)))
 (ak (aP (i:=3) nd rfl (Or.inl rfl) (ay tS (hr.mono (by first|decide|omega)) rfl T.eU.m T.eU.F.kp T.eU.b .nil aT (aa (pv 2) ag ae)))
 (ak (aP (i:=4) nd rfl (Or.inl rfl) (bg dq (bH jA rfl T.vg PyProof.Rows.Boot.«len» (aa (pv 3) ag ae)) ah))
 (ak (aP (i:=5) nd rfl (Or.inl rfl) (ay oH (hr.mono (by first|decide|omega)) rfl T.cH.m T.cH.F.kp T.cH.b .nil aT (aa (pv 2) (aa (pv 3) (aa (pv 4) ag ae) ae) ae)))
 (ak (aP (i:=6) nd rfl (Or.inl rfl) (av bK (bt (aa ah (aa (bg dq (pv 4) ah) ag bG) aR)) (ay aU (hr.mono (by first|decide|omega)) rfl T.aq.m T.aq.F.kp T.aq.b .nil aT (aa (pv 2) (aa ah ag aR) ae)) c9))
 (ak (aP (i:=7) nd rfl (Or.inl rfl) (dD jz (bt (aa (pv 5) (aa (aZ (aa bf (aa (bg dq (pv 4) ah) ag bG) aR)) ag cy) ae)) fH (eJ (bg dq ah (bN cC rfl T.jX PyProof.Rows.Boot.«int» (aa (du xw (pv 6) ah (aH _)) ag iq))))))
 (ak (aP (i:=8) nd rfl (Or.inl rfl) (ay rA (hr.mono (by first|decide|omega)) rfl T.dO.m T.dO.F.kp T.dO.b .nil aT (aa (pv 2) (aa (pv 3) ag ae) ae)))
 (ak (aP (i:=9) nd rfl (Or.inl rfl) (aZ (aa (bN jB rfl T.ou PyProof.Rows.Boot.«list» (aa (pv 3) ag ae)) (aa (bN jB rfl T.ou PyProof.Rows.Boot.«list» (aa (pv 7) ag ae)) ag bo) bo)))
 (ak (aP (i:=10) nd rfl (Or.inl rfl) (ay xc (hr.mono (by first|decide|omega)) rfl T.gi.m T.gi.F.kp T.gi.b .nil aT (aa (pv 5) (aa (pv 3) (aa (pv 8) (aa (pv 6) ag ae) ae) ae) ae)))
 (ak (aP (i:=11) nd rfl (Or.inl rfl) (ay kT (hr.mono (by first|decide|omega)) rfl T.bX.m T.bX.F.kp T.bX.b .nil aT (aa (pv 9) (aa (pv 4) (aa (pv 8) ag ae) ae) ae)))
 (ak (bw (PW.pt (pw_or (vK (fq (bH uH rfl T.hG PyProof.Rows.Boot.«isinstance» (aa (pv 11) (aa (xq (v:=.ty "list") rfl T.ou PyProof.Rows.Boot.«list» rfl) ag ae) ae)))) (pw_or (aE (qa (Bo hr)) (pv 11) (pv 10) (aH _)) (pw_or1 (aE (qa (Bo hr)) (pv 9) (aZ (aa (pv 3) (aa (pv 7) ag ae) ae)) (aH _))))))
 (ar (aI um))
 aN)
 (ak (gm (jR PySem.F.plainAttrs_list PySem.F.slot_list_append PySem.F.type_list_append fB (pv 11) (aa (aZ (aa ah (aa (pv 8) ag ae) aR)) ag cy)))
 (ak (bw (PW.pt (pw_or (aE (qa (Bo hr)) (ay kT (hr.mono (by first|decide|omega)) rfl T.bX.m T.bX.F.kp T.bX.b .nil aT (aa (pv 9) (aa (pv 4) (aa (pv 8) ag ae) ae) ae)) (pv 10) (aH _)) (pw_or1 (aE (qa (Bo hr)) (ay kT (hr.mono (by first|decide|omega)) rfl T.bX.m T.bX.F.kp T.bX.b .nil aT (aa (pv 9) (aa ah (aa (pv 8) ag ae) aR) ae)) (bt ag) (aH _)))))
 (ar (aI um))
 aN)
 (ak (pE (i:=12) nd rfl (Or.inl rfl) (own:=["box"]) (ix:=[]) rfl (by rfl) (by rfl) (cw (pv 3)) (fun _ _ _ _=>(aW (i:=0) (by show List.Nodup (["box"]:List Str);decide +kernel) rfl (Or.inl rfl))) (fun _ _ _ _=>eK) (fun _ _ _ _=>(av (fj (K:=K) rfl) (pv 0) ah ai)))
 (ar (gO PassesOwn.never rfl (sN (dD mL (pv 5) (eJ ah) fH)) (aW (i:=13) nd rfl (Or.inl rfl))
 (ar (bw (fq (bH zR rfl T.hG PyProof.Rows.Boot.«isinstance» (aa (pv 13) (aa (xq (v:=.ty "tuple") rfl T.jP PyProof.Rows.Boot.«tuple» rfl) ag ae) ae)))
 (ar (gO PassesOwn.never rfl (cw (ay hX (hr.mono (by first|decide|omega)) rfl T.bP.m T.bP.F.kp T.bP.b .nil aT (aa (pv 13) ag ae))) (aW (i:=14) nd rfl (Or.inl rfl))
 (ar (bw (aE (qa (Bo hr)) (ay xf (hr.mono (by first|decide|omega)) rfl T.gh.m T.gh.F.kp T.gh.b .nil aT (aa (pv 9) (aa (pv 14) (aa (pv 8) ag ae) ae) ae)) (ay c0 (hr.mono (by first|decide|omega)) rfl T.bq.m T.bq.F.kp T.bq.b .nil aT (aa (pv 14) (aa (pv 12) (aa (pv 8) ag ae) ae) ae)) (aH _))
 (ar (aI um))
 aN))))
 aN)))))))))))))))))))
 (ar (aI um))),rfl,?_⟩
 have line:sizeLine=2 ^ 24:=rfl
 refine ax fun U1 gk=>?_
 refine gD fun U hU=>?_
 walk_at "rd"
 refine⟨_,rfl,a,_,rfl,hS,fun pl qR=>⟨pl,rfl,⟨_,.of aj⟩,hU _ _ ?_⟩⟩
 clear hU
 rw[wM _ (by decide),<- List.map_take]
 generalize ns.take _=cs at *
 have OZ:(upd H pl (.lst (cs.map V.int))) pl=_:=aj
 generalize upd H pl (.lst (cs.map V.int))=H0 at *
 refine gB (K:=K) (a:=pl) (xs:=cs.map V.int) (fun i σ H9=>(∃z1 z2 z3 z4 z5 z6 z7 z8 z9 IQ O9 Pa Aa Ab,σ=[some (V.ref a),z1,z2,z3,z4,z5,z6,z7,z8,z9,IQ,O9,Pa,Aa,Ab])/\ao H0 H9) ⟨⟨_,_,_,_,_,_,_,_,_,_,_,_,_,_,rfl⟩,ao.refl _⟩ ?_ ?_ ?_
 ·rintro i σ H9 hi ⟨_,s9⟩
  exact .of (s9 _ _ OZ)
 ·rintro i x σ H1 hx ⟨⟨z1,z2,z3,z4,z5,z6,z7,z8,z9,IQ,O9,Pa,Aa,Ab,rfl⟩,s1⟩
  rw[List.getElem?_map] at hx
  cases hc:cs[i]? with
  |none=>rw[hc] at hx;cases hx
  |some cell=>
   rw[hc] at hx
   cases hx
   refine ax fun U2 ji=>?_
   walk_at "rd"
   have VA:(10:Int) ^ Int.toNat 18=10 ^ 18:=rfl
   have Uv:Jn 10 18:=⟨by decide,by decide,by decide⟩
   refine⟨Uv,_,rfl,fun s0 Rm=>(ji _ _).mpr (ax fun U3 j3=>?_)⟩
   clear ji
   obtain⟨m,hm⟩:∃m:Int,m=(if decide (cell<10 ^ Int.toNat 18)=true then 1 else 0):=⟨_,rfl⟩
   rw[<- hm]
   have DA:mM (upd H1 s0 (.lst [.int cell,.int m])) s0:=⟨_,_,aj⟩
   have s2:=ao.new Rm (.lst [.int cell,.int m])
   generalize upd H1 s0 (.lst [.int cell,.int m])=H2 at *
   walk_at "rd"
   refine⟨s0,rfl,DA,fun B bs H3 u3 AG Lk MQ ok=>(j3 _ _).mpr (ax fun U4 m5=>?_)⟩
   clear j3
   have o9:=ok.o9
   obtain⟨OC,MC,QF⟩:=k7 MQ.aA
   walk_at "rd"
   refine⟨B,OC,rfl,.inl MC,(m5 _ _).mpr (ax fun U5 sy=>?_)⟩
   clear m5
   obtain⟨row,Pb,Pc,Uw⟩:∃row:Int,(OC.length:Int)+1=row/\0<row/\row<=5:=⟨_,rfl,by lia,by lia⟩
   rw[Pb]
   walk_at "rd"
   refine⟨s0,B,bs,row,rfl,AG,MQ.aA,fun v st H4 u4 Ir f4 sd=>(sy _ _).mpr (ax fun U6 sC=>?_)⟩
   clear sy
   have Rn:=MQ.up u4
   walk_at "rd"
   intro p5 vI
   have y5:(upd H4 p5 (.lst [.int 0,.int (row+9)])) p5=_:=aj
   have n5:=Ir.ne vI
   refine⟨s0,2,rfl,Ir.new vI _,by decide,by decide,fun x6 H6 a6 b6 u6 Pd=>?_⟩
   have MR:=((bh.refl s0 H4).new vI _).trans u6
   have f6:=dQ f4 MR
   have Ro:=Rn.up MR
   obtain⟨behind,eb,hb⟩:∃behind:Int,uy [V.int 0,V.int (row+9)] x6=some (.int behind)/\(behind=0\/behind=row+9):=by
    obtain rfl |rfl:x6=0\/x6=1:=by lia
    ·exact⟨0,rfl,.inl rfl⟩
    ·exact⟨row+9,rfl,.inr rfl⟩
   refine bI (.of (u6 _ _ n5 y5)) eb ((sC _ _).mpr (ax fun U7 F4=>?_))
   clear sC y5 eb
   walk_at "rd"
   intro p7 HS p8 Ap
   have f7:Fix K (·=s0) _ (cT (.stop (row+9))) (.ref p7):=fP Pd HS (.cons .str (.cons .int .nil))
   have Rp:=Pd.new HS (.tup [.str "stop",.int (row+9)])
   have s7:=ao.new HS (.tup [.str "stop",.int (row+9)])
   generalize upd H6 p7 (.tup [.str "stop",.int (row+9)])=H7 at *
   have s8:=ao.new Ap (.lst [v,.ref p7])
   have y8:(upd H7 p8 (.lst [v,.ref p7])) p8=_:=aj
   have Pe:=Rp.same s8
   generalize upd H7 p8 (.lst [v,.ref p7])=H8 at *
   refine⟨_,rfl,_,rfl,p8,_,rfl,.of y8,fun p9 CS=>(F4 _ _).mpr (ax fun U8 yw=>?_)⟩
   clear F4
   have IS:=s7.trans s8
   obtain⟨body,Rq,Rr⟩:∃body,((behind=0/\body=[st])\/(behind=row+9/\body=[st,.stop (row+9)]))/\cb K (·=s0) H8 (body.map cT) (gC [v,.ref p7] none (some (1+if decide (0<behind)=true then 1 else 0))):=by
    rcases hb with e |e
    ·refine⟨[st],.inl ⟨e,rfl⟩,?_⟩
     rw[e]
     exact .cons (dQ f6 (.of IS)) .nil
    ·refine⟨[st,.stop (row+9)],.inr ⟨e,rfl⟩,?_⟩
     rw[decide_eq_true (by lia:0<behind)]
     exact .cons (dQ f6 (.of IS)) (.cons (dQ f7 (.of s8)) .nil)
   generalize gC [v,V.ref p7] none (some (1+if decide (0<behind)=true then 1 else 0))=Pf at *
   have f9:=wK Pe CS Rr
   have Rt:=Pe.new CS (.lst Pf)
   have s9:=ao.new CS (.lst Pf)
   generalize upd H8 p9 (.lst Pf)=H9 at *
   have Pg:=Ro.up (.of (IS.trans s9))
   have Ru:=dQ f6 (.of (IS.trans s9))
   walk_at "rd"
   refine⟨s0,B,bs,rfl,Rt,Pg,ok,fun rv rs mi rq Ph fZ qN=>(yw _ _).mpr (ax fun U9 Ds=>?_)⟩
   clear yw
   have MS:=(dQ Ru rq).rep
   have MT:=(dQ f9 rq).rep
   have IT:=(Pg.up rq).aA.1.rep
   have Ic:gH K mi rv rs:=gH.of fZ.rep
   have Fg:ao H1 mi:=by
    have u:bh s0 H1 mi:=(((((bh.of s2).trans u3).trans u4).trans MR).trans (.of (IS.trans s9))).trans rq
    exact u.same Rm
   clear Ru f9 Pg fZ Rr f7 f6 Ro Rn f4 MQ Ph Rt Pe Rp Pd Ir AG DA rq u6 MR u4 u3 s2 s7 s8 s9 IS
   walk_at "rd"
   obtain⟨_,LL,eB,HU,Pj⟩:=Rep.bF.mp IT
   cases eB
   obtain⟨_,LM,eB,Ux,Pk⟩:=Rep.bF.mp MT
   cases eB
   refine⟨B,LL,rfl,.inl HU,fun l1 Rv=>⟨p9,LM,rfl,.inl ((ao.new Rv _).seq Ux),fun l2 GY pp OV=>(Ds _ _).mpr (ax fun VB LN=>?_)⟩⟩
   clear Ds
   have e1:=ao.new Rv (.lst LL)
   have q1:(upd mi l1 (.lst LL)) l1=some (.lst LL):=aj
   generalize upd mi l1 (.lst LL)=Ha at *
   have e2:=ao.new GY (.lst LM)
   have q2:(upd Ha l2 (.lst LM)) l2=some (.lst LM):=aj
   generalize upd Ha l2 (.lst LM)=Hb at *
   have e3:=ao.new OV (.tup [.ref l1,.ref l2])
   have q3:(upd Hb pp (.tup [.ref l1,.ref l2])) pp=_:=aj
   generalize upd Hb pp (.tup [.ref l1,.ref l2])=ue at *
   have mv:=(e1.trans e2).trans e3
   have MU:Rep K ue (gQ ⟨bs,body⟩) (.ref pp):=Rep.aQ.mpr ⟨pp,_,rfl,.of q3,.cons (Rep.bF.mpr ⟨l1,_,rfl,.of (e3 _ _ (e2 _ _ q1)),Pj.mono mv⟩) (.cons (Rep.bF.mpr ⟨l2,_,rfl,.of (e3 _ _ q2),Pk.mono mv⟩) .nil)⟩
   replace MS:=MS.mono mv
   replace IT:=IT.mono mv
   replace MT:=MT.mono mv
   replace Ic:=Ic.mono mv
   have Pl:=Fg.trans mv
   obtain⟨Pm,Pn,Po,Rw,Rx,MV,Pp⟩:=EZ ok sd Pc Rq
   have yI:∀(H':Hp) (Q':VK) (E':XK),ao ue H'->(∀L us Ie,ao H' Ie->H' L=none->Ie L=some (.lst us)->i7 K Ie us (PG.eV bs rs (Cj st behind) st)->Q' (.ref L) Ie)->qv K [.ref pp,.int row,rv] H' Q' E':=by
    intro H' Q' E' s' k'
    refine⟨.ref pp,rv,⟨bs,body⟩,row,rs,rfl,MU.mono s',Pn,Po,Pm,Ic.mono s',qN.1,fun b hb=>?_,.inr ⟨by lia,0,Rw,Rx,?_,?_,?_,fun L us Ie Jv hL yL wL=>?_⟩⟩
    ·have:=ok.sz b hb
     lia
    ·show ((PG.aD body)[0]).row=row
     rw[MV]
     exact sd.K2
    ·show Cf bs rs (PG.aD body)[0]
     rw[MV]
     exact sd.rg qN
    ·show 0<(PG.aL body 0)[0].2.2.length
     rw[Pp]
     exact EY st behind
    ·replace wL:i7 K Ie us (PG.eV bs rs (PG.aL body 0)[0].2.2 (PG.aD body)[0]):=wL
     rw[MV,Pp] at wL
     exact k' L us Ie Jv hL yL wL
   clear Rw Rx MV Pp
   obtain⟨tK,C3⟩:∃w,PG.eV bs rs (Cj st behind) st=w:=⟨_,rfl⟩
   have lw:tK.length<=2:=by rw[<- C3];exact Ct _ _ _ _
   rw[C3] at yI
   walk_at "rd"
   refine⟨v,rv,B,behind,row,st,bs,rs,rfl,MS,sd,IT,ok,Ic,qN,fun D us uf sG hD yD wD=>(LN _ _).mpr (ax fun VC LO=>?_)⟩
   clear LN
   walk_at "rd"
   refine yI _ _ _ sG fun L ls CT qV hL yL wL=>(LO _ _).mpr (ax fun VD LP=>?_)
   clear LO
   walk_at "rd"
   rw[C3] at wD
   have Pq:=E1 ok sd Rq
   have rL:Rep K CT (.lst (tK.map wJ)) (.ref L):=Rep.bF.mpr ⟨L,ls,rfl,.of yL,wL.rep⟩
   have Ig:Rep K uf (.lst (tK.map wJ)) (.ref D):=Rep.bF.mpr ⟨D,us,rfl,.of yD,wD.rep⟩
   refine⟨_,_,_,_,rfl,.lst yL,Kd,(if_neg (by decide)).mpr ⟨_,_,rL,Ig.mono qV,yo _,yo _,?_⟩⟩
   rw[eqv_refl]
   refine⟨_,rfl,(if_neg (by decide)).mpr fun Fe Ff=>?_⟩
   have vH:=ao.new Ff (.tup [.ref B,.ref p9])
   have yH:(upd CT Fe (.tup [.ref B,.ref p9])) Fe=_:=aj
   generalize upd CT Fe (.tup [.ref B,.ref p9])=IG at *
   have yJ:=(sG.trans qV).trans vH
   refine⟨gQ ⟨bs,body⟩,gQ ⟨bs,body⟩,MU.mono yJ,Rep.aQ.mpr ⟨Fe,_,rfl,.of yH,.cons (IT.mono yJ) (.cons (MT.mono yJ) .nil)⟩,Pq,Pq,?_⟩
   rw[eqv_refl]
   refine⟨_,rfl,(if_neg (by decide)).mpr ((LP _ _).mpr (ax fun TK CY=>?_))⟩
   clear LP
   have LQ:=vH _ _ yL
   walk_at "rd"
   refine⟨.inl ⟨rfl,_,.of LQ⟩,fun MW LR=>⟨L,ls,_,rfl,rfl,ao.new LR _ _ _ LQ,?_,?_⟩⟩
   ·have:=wL.len
    lia
   have C4:ao uf (upd (upd IG MW (.tup [.int 0,rv])) L (.lst (ls++[.ref MW]))):=(((bh.of (qV.trans vH)).new LR _).put _).same hL
   refine(CY _ _).mpr (ax fun VE LS=>?_)
   clear CY
   generalize upd (upd IG MW (.tup [.int 0,rv])) L (.lst (ls++[.ref MW]))=IH at *
   have Gf:=sG.trans C4
   walk_at "rd"
   refine yI _ _ _ Gf fun L2 Uy MO Pr Uu Uz Ry=>?_
   refine⟨_,_,Rep.bF.mpr ⟨L2,Uy,rfl,.of Uz,Ry.rep⟩,(Ig.mono C4).mono Pr,yo _,yo _,?_⟩
   rw[eqv_refl]
   refine⟨_,rfl,(if_neg (by decide)).mpr ?_⟩
   have C5:=Gf.trans Pr
   refine⟨.ref pp,rv,⟨bs,body⟩,0,rs,rfl,MU.mono C5,Pn,Po,Pm,Ic.mono C5,qN.1,fun b hb=>?_,.inl ⟨rfl,fun L3 UA Rz VF UD RA Pt=>?_⟩⟩
   ·have:=ok.sz b hb
    lia
   have Pu:=ao.new Pt (.lst [])
   refine⟨.lst [],.lst [],Rep.bF.mpr ⟨L3,[],rfl,.of (Pu _ _ UD),.nil⟩,Rep.bF.mpr ⟨RA,[],rfl,.of aj,.nil⟩,rfl,rfl,?_⟩
   rw[eqv_refl]
   refine⟨_,rfl,(if_neg (by decide)).mpr ((LS _ _).mpr (ax fun VG LU=>?_))⟩
   clear LS yI rL Ig wL Ry wD Pq
   have Gg:=C5.trans (Rz.trans Pu)
   generalize upd UA RA (.lst [])=VH at *
   clear qV vH yJ C4 Pr Rz Pu sG
   walk_at "rd"
   simp only[gX]
   walk_at "rd"
   obtain⟨OB,E7,Ld,g1⟩:=kR (IT.mono Gg)
   refine⟨⟨_,E7⟩,fun nl IF=>hZ (K:=K) (r:=[]) (fun i=>.str (S (bs.getD i ⟨[],0,0⟩).name)) E7 (by lia) IF (fun i x H2 hx s2 R hR=>?_) (fun UE UG hn=>(LU _ _).mpr ?_)⟩
   ·obtain⟨ba,rfl,ha⟩:=g1 i x hx
    walk_at "rd"
    exact aG (s2.bL ha) (v:=.str (S (bs.getD i ⟨[],0,0⟩).name)) (aw (j:=0) rfl) hR
   clear LU
   rw[Ld,gc (fun b:PG.cD=>V.str (S b.name))] at hn
   replace hn:ET UE nl bs:=hn
   have Gh:=Gg.trans UG
   refine BD fun U hU=>?_
   walk_at "rd"
   obtain⟨sa,w0,k0,Oz,rfl,Lw,VI,MA⟩:=sd.parts MS
   refine⟨_,rfl,sa,_,rfl,Gh.bL Lw,fun pc RB RC F9=>⟨pc,rfl,⟨_,F9⟩,hU _ _ ?_⟩⟩
   clear hU
   rw[show (2:Int)=((2:Nat):Int) from rfl,vd] at F9
   replace F9:bR K RB pc Oz:=F9
   have Gi:=Gh.trans RC
   refine DB (K:=K) (a:=pc) (xs:=Oz) (fun i σ H9=>(∃Lz yH,σ=[some (.ref a),some (.int cell),some (.ref s0),some (.ref B),some (.int row),some (.ref sa),some (.int behind),some (.ref p9),some rv,some (.ref pp),some (.ref D),some (.ref L),some (.ref nl),Lz,yH])/\ao RB H9) ⟨⟨_,_,rfl⟩,ao.refl _⟩ ?_ ?_ ?_
   ·rintro j σ H9 hj ⟨_,s9⟩
    exact s9.bL F9
   ·rintro j x σ RD hx ⟨⟨Lz,yH,rfl⟩,Ih⟩
    have yK:=Gi.trans Ih
    have UH:=MA x (List.mem_of_getElem? hx)
    refine pH fun UB LG=>?_
    walk_at "rd"
    refine⟨_,rfl,?_⟩
    rcases UH with ⟨z,rfl⟩ |⟨e,re,te,de⟩ |⟨l,xs,rfl,hl⟩
    ·exact .inl ⟨z,rfl,(if_neg (by decide)).mpr ⟨⟨_,_,rfl⟩,Ih⟩⟩
    ·have hT:∃ta tx,x=.ref ta/\bR K RD ta tx:=by
      cases e<;>(unfold eZ at re;obtain⟨ta,tx,rfl,hT,_⟩:=Rep.aQ.mp (re.mono yK);exact⟨ta,tx,rfl,hT⟩)
     obtain⟨ta,tx,rfl,hT⟩:=hT
     refine .inr (.inl ⟨ta,tx,rfl,hT,(if_pos trivial).mpr ((LG _ _).mpr ?_)⟩)
     clear LG
     refine gD fun U hU=>?_
     walk_at "rd"
     have sub:=te.sub
     refine⟨.ref ta,e,rfl,re.mono yK,fun x hx=>(sub x hx).2.2,by lia,by lia,fun Lp ups RE zS VJ RG RH=>⟨Lp,rfl,⟨_,.of RG⟩,hU _ _ ?_⟩⟩
     clear hU
     have VL:ups.length=(iA e).length:=by rw[RH.length,List.length_map]
     have LV:=yK.trans zS
     have Px:ET RE nl bs:=zS _ _ (Ih _ _ (RC _ _ hn))
     refine gB (K:=K) (a:=Lp) (xs:=ups) (fun i σ H9=>(∃yH,σ=[some (.ref a),some (.int cell),some (.ref s0),some (.ref B),some (.int row),some (.ref sa),some (.int behind),some (.ref p9),some rv,some (.ref pp),some (.ref D),some (.ref L),some (.ref nl),some (.ref ta),yH])/\ao RE H9) ⟨⟨_,rfl⟩,ao.refl _⟩ ?_ ?_ ?_
     ·rintro k σ H9 hk ⟨_,s9⟩
      exact .of (s9 _ _ RG)
     ·rintro k y σ UJ hy ⟨⟨yH,rfl⟩,wV⟩
      have lk:k<(iA e).length:=by have:=(List.getElem?_eq_some_iff.mp hy).1;lia
      obtain⟨v2,RI,Iy⟩:=RH.get (i:=k) (d:=eZ (iA e)[k]) (by rw[List.getElem?_map,List.getElem?_eq_getElem lk];rfl)
      rw[hy] at RI
      cases RI
      obtain⟨tk,dk,_⟩:=sub _ (List.getElem_mem lk)
      generalize (iA e)[k]=e2 at *
      have C6:=LV.trans wV
      have g2:=tk.g qN
      walk_at "rd"
      refine⟨.ref pp,y,rv,⟨bs,body⟩,e2,rs,rfl,MU.mono C6,Pn,Po,Pm,Iy.mono wV,Ic.mono C6,qN.1,g2,by lia,fun u1 VM Ge UK=>?_⟩
      refine⟨y,rv,nl,e2,bs,rs,rfl,(Iy.mono wV).mono Ge,Ge _ _ (wV _ _ Px),Ic.mono (C6.trans Ge),qN.1,g2,by lia,by lia,fun u2 VN RJ UL=>?_⟩
      refine⟨_,_,(UK.mono RJ).rep,UL.rep,F3 _,F3 _,?_⟩
      rw[eqv_refl]
      exact⟨_,rfl,(if_neg (by decide)).mpr ⟨⟨_,rfl⟩,wV.trans (Ge.trans RJ)⟩⟩
     ·rintro σ UJ ⟨⟨yH,rfl⟩,wV⟩
      exact⟨⟨_,_,rfl⟩,Ih.trans (zS.trans wV)⟩
    ·exact .inr (.inr ⟨l,xs,rfl,yK.seq hl,(if_neg (by decide)).mpr ⟨⟨_,_,rfl⟩,Ih⟩⟩)
   ·rintro σ RD ⟨⟨Lz,yH,rfl⟩,Ih⟩
    exact⟨⟨_,_,_,_,_,_,_,_,_,_,_,_,_,_,rfl⟩,s1.trans (Pl.trans (Gi.trans Ih))⟩
 ·rintro σ H9 ⟨⟨z1,z2,z3,z4,z5,z6,z7,z8,z9,IQ,O9,Pa,Aa,Ab,rfl⟩,s9⟩
  refine(gk _ _).mpr ?_
  walk_at "rd"
  exact q H9
end
end HJ
end
section
set_option maxHeartbeats 4000000
namespace HJ
open PySem L2
section
variable{P:Program}{w:World}{K:PySem.W.Frag}{mg:Str->Option Value}{base:Heap}
theorem all_mk{l:PySem.W.OpenLaw}{h:Heap}{fa:Addr}(X:K.In h)(G:h.Ns mainGlobals mg)(UM:mg "law"=some (.ref fa))
 {og cL di dI ic d7 bW jt iE iF iG gJ fw ju e6 fR dc dF fc dG df cv gK fT gL iH fe dg ff d9 ee gM iI dw yt:Addr}
 {aS:Addr}
 {cB:Addr} {rB lL:Option Addr} {rC:Array (Option Value)} {rD lM lN lO jg lP:Value}
 {LW:_}
 (Ii:FH K "flow" wR og)
 (qH:FH K "flow_of_body" iB cL)
 (vv:FH K "first_row" kB di)
 (rE:FH K "behind_body" i9 dI)
 (Af:FH K "ways_of" nY ic)
 (vw:FH K "bodies_in" kC d7)
 (pk:FH K "statements_in" gR bW)
 (Ag:FH K "word_at" nZ jt)
 (xg:FH K "by_names" l3 iE)
 (xh:FH K "in_order" l6 iF)
 (xi:FH K "range_of" ma iG)
 (vx:FH K "ways_from" kD gJ)
 (xj:FH K "range_by" me fw)
 (Ah:FH K "ways_by" n9 ju)
 (rF:FH K "whole_range" ja e6)
 (tT:FH K "rest_range" jK fR)
 (oI:FH K "condition_ways" gd dc)
 (pq:FH K "ranges_behind" gS dF)
 (rG:FH K "may_be_gone" jb fc)
 (px:FH K "narrowed_left" gT dG)
 (oJ:FH K "narrowed_right" gf df)
 (lh:FH K "narrowed_by_equal" eW cv)
 (vy:FH K "_law_take" kE gK)
 (tU:FH K "_law_boxes" jL fT)
 (vz:FH K "_law_leaf" kF gL)
 (C7:FH K "_law_e" qw iH)
 (rH:FH K "_law_e_side" jc fe)
 (oK:FH K "_law_statement" gg dg)
 (rJ:FH K "_law_ranges" jd ff)
 (vA:FH K "_law_span" kG d9)
 (qI:FH K "_law_trimmed" iC ee)
 (vB:FH K "_law_trim" kH gM)
 (xk:FH K "_law_due" mf iI)
 (tV:FH K "_law_parts" jM dw)
 (Gj:FH K "law" Cu yt)
 (Fi:PySem.W.nsIn K mainGlobals "Chart"=some (some (.ref aS)))
 (C8:PySem.W.plainGet K aS Str.empty=true)
 (C9:PySem.W.hasDictIn K aS=true)
 (Dc:PySem.W.plainOver K aS=true)
 (Dd:PySem.W.findIn K (.ref aS) "__setattr__"=some (some (.builtin "object.__setattr__")))
 (tW:PySem.W.findIn K (.ref aS) "__init__"=some (some (.ref cB)))
 (tX:K.lookup cB=some ⟨rD,rB,.func (PySem.W.fnOf "__init__" "Chart.__init__" (iP cA) (gu cA) (aK cA) .none lM lN lO lL jg lP),rC⟩)
 (tY:PySem.W.codeIn K jg "Chart.__init__"=true)
 (tZ:PySem.W.keepIn K (.ref cB)=true)
 (t7:PySem.W.isFn K (.ref cB)=true)
 (m3:PySem.W.makesIn K aS=true)
 (De:PySem.W.keepIn K (.ref aS)=true)
 (eu:PySem.W.findIn K (.ref aS) "names"=some none)
 (eA:PySem.W.findIn K (.ref aS) "sizes"=some none)
 (iJ:PySem.W.findIn K (.ref aS) "first"=some none)
 (bV:PySem.W.findIn K (.ref aS) "statements"=some none)
 (fg:PySem.W.findIn K (.ref aS) "ways"=some none)
 (LX:PySem.W.nsIn K mainGlobals "END"=some (some (.int 0 LW)))
 (vg:PySem.W.nsIn K mainGlobals "len"=some none)
 (jX:PySem.W.nsIn K mainGlobals "int"=some none)
 (oo:PySem.W.nsIn K mainGlobals "dict"=some none)
 (ou:PySem.W.nsIn K mainGlobals "list"=some none)
 (jP:PySem.W.nsIn K mainGlobals "tuple"=some none)
 (Cw:PySem.W.nsIn K mainGlobals "any"=some none)
 (jY:PySem.W.nsIn K mainGlobals "max"=some none)
 (jZ:PySem.W.nsIn K mainGlobals "min"=some none)
 (hG:PySem.W.nsIn K mainGlobals "isinstance"=some none)
 (i3:PySem.W.nsIn K mainGlobals "enumerate"=some none)
 (yv:PySem.W.nsIn K mainGlobals "zip"=some none)
 : ∃fd:FuncData,(∀(s:Shared) (v:Value),BindsTo s fd ⟨[v],[]⟩ [("script",v)])/\∀base:Heap,K.In base->base.Ns mainGlobals mg->bJ l.prog w K mg base eY 30 fa fd ["script"] (xT K):=by
 have e:=UM.symm.trans (PySem.W.mg_of X G Gj.1)
 cases e
 obtain⟨mY,om⟩:=kx X G Ii (ps:=["program"]) fun _ _ _ _ _ _=>Hu fun _=>rfl
 obtain⟨cO,bU⟩:=kx X G qH (ps:=["body", "behind"]) fun _ _ _ _ _ _=>yi fun _ _=>rfl
 obtain⟨dv,bD⟩:=kx X G vv (ps:=["body", "behind"]) fun _ _ _ _ _ _=>yi fun _ _=>rfl
 obtain⟨dZ,dM⟩:=kx X G rE (ps:=["statement", "after"]) fun _ _ _ _ _ _=>yi fun _ _=>rfl
 obtain⟨iD,ig⟩:=kx X G Af (ps:=["statement", "after"]) fun _ _ _ _ _ _=>yi fun _ _=>rfl
 obtain⟨eO,cX⟩:=kx X G vw (ps:=["statement"]) fun _ _ _ _ _ _=>Hu fun _=>rfl
 obtain⟨bZ,bO⟩:=kx X G pk (ps:=["body"]) fun _ _ _ _ _ _=>Hu fun _=>rfl
 obtain⟨jN,ij⟩:=kx X G Ag (ps:=["chart", "row"]) fun _ _ _ _ _ _=>yi fun _ _=>rfl
 obtain⟨iX,cn⟩:=kx X G xg (ps:=["chart", "parts"]) fun _ _ _ _ _ _=>yi fun _ _=>rfl
 obtain⟨iY,dy⟩:=kx X G xh (ps:=["chart", "named"]) fun _ _ _ _ _ _=>yi fun _ _=>rfl
 obtain⟨iZ,gh⟩:=kx X G xi (ps:=["program", "e", "ranges"]) fun _ _ _ _ _ _=>FY fun _ _ _=>rfl
 obtain⟨gZ,bX⟩:=kx X G vx (ps:=["program", "row", "ranges"]) fun _ _ _ _ _ _=>FY fun _ _ _=>rfl
 obtain⟨fE,bB⟩:=kx X G xj (ps:=["e", "named"]) fun _ _ _ _ _ _=>yi fun _ _=>rfl
 obtain⟨jO,ik⟩:=kx X G Ah (ps:=["chart", "row", "ranges"]) fun _ _ _ _ _ _=>FY fun _ _ _=>rfl
 obtain⟨fQ,cf⟩:=kx X G rF (ps:=["size"]) fun _ _ _ _ _ _=>Hu fun _=>rfl
 obtain⟨gy,eT⟩:=kx X G tT (ps:=["worths", "size"]) fun _ _ _ _ _ _=>yi fun _ _=>rfl
 obtain⟨dR,cF⟩:=kx X G oI (ps:=["chart", "row", "ranges"]) fun _ _ _ _ _ _=>FY fun _ _ _=>rfl
 obtain⟨eP,cP⟩:=kx X G pq (ps:=["chart", "row", "truth", "ranges"]) fun _ _ _ _ _ _=>KL fun _ _ _ _=>rfl
 obtain⟨fS,dN⟩:=kx X G rG (ps:=["sign", "truth", "left", "right"]) fun _ _ _ _ _ _=>KL fun _ _ _ _=>rfl
 obtain⟨eQ,cQ⟩:=kx X G px (ps:=["sign", "truth", "own", "left", "right"]) fun _ _ _ _ _ _=>Qs fun _ _ _ _ _=>rfl
 obtain⟨dS,cG⟩:=kx X G oJ (ps:=["sign", "truth", "own", "left", "right"]) fun _ _ _ _ _ _=>Qs fun _ _ _ _ _=>rfl
 obtain⟨cW,bE⟩:=kx X G lh (ps:=["truth", "own", "near", "far"]) fun _ _ _ _ _ _=>KL fun _ _ _ _=>rfl
 obtain⟨g7,aq⟩:=kx X G vy (ps:=["state", "many"]) fun _ _ _ _ _ _=>yi fun _ _=>rfl
 obtain⟨gA,eU⟩:=kx X G tU (ps:=["state"]) fun _ _ _ _ _ _=>Hu fun _=>rfl
 obtain⟨g8,cY⟩:=kx X G vz (ps:=["state", "boxes"]) fun _ _ _ _ _ _=>yi fun _ _=>rfl
 obtain⟨ie,bY⟩:=kx X G C7 (ps:=["state", "boxes", "deep"]) fun _ _ _ _ _ _=>FY fun _ _ _=>rfl
 obtain⟨fU,cg⟩:=kx X G rH (ps:=["state", "boxes"]) fun _ _ _ _ _ _=>yi fun _ _=>rfl
 obtain⟨dU,cH⟩:=kx X G oK (ps:=["state", "boxes", "row"]) fun _ _ _ _ _ _=>FY fun _ _ _=>rfl
 obtain⟨fV,dO⟩:=kx X G rJ (ps:=["state", "boxes"]) fun _ _ _ _ _ _=>yi fun _ _=>rfl
 obtain⟨eS,bq⟩:=kx X G vA (ps:=["e", "names", "ranges"]) fun _ _ _ _ _ _=>FY fun _ _ _=>rfl
 obtain⟨fk,dh⟩:=kx X G qI (ps:=["statement", "names", "ranges", "truth"]) fun _ _ _ _ _ _=>KL fun _ _ _ _=>rfl
 obtain⟨g9,fF⟩:=kx X G vB (ps:=["pair", "its", "way"]) fun _ _ _ _ _ _=>FY fun _ _ _=>rfl
 obtain⟨i0,gi⟩:=kx X G xk (ps:=["statement", "boxes", "ranges", "behind"]) fun _ _ _ _ _ _=>KL fun _ _ _ _=>rfl
 obtain⟨dJ,bP⟩:=kx X G tV (ps:=["e"]) fun _ _ _ _ _ _=>Hu fun _=>rfl
 obtain⟨oh,yu⟩:=kx X G Gj (ps:=["script"]) fun _ _ _ _ _ _=>Hu fun _=>rfl
 have hC:=AX (st:=cA) tX tY tZ
 have t8:=hC.binds (ps:=["self", "program"]) fun _ _ _ _ _ _=>yi fun _ _=>rfl
 let t:Ad:=⟨og,
  mY,
  cL,
  cO,
  di,
  dv,
  dI,
  dZ,
  ic,
  iD,
  d7,
  eO,
  bW,
  bZ,
  jt,
  jN,
  iE,
  iX,
  iF,
  iY,
  iG,
  iZ,
  gJ,
  gZ,
  fw,
  fE,
  ju,
  jO,
  e6,
  fQ,
  fR,
  gy,
  dc,
  dR,
  dF,
  eP,
  fc,
  fS,
  dG,
  eQ,
  df,
  dS,
  cv,
  cW,
  gK,
  g7,
  fT,
  gA,
  gL,
  g8,
  iH,
  ie,
  fe,
  fU,
  dg,
  dU,
  ff,
  fV,
  d9,
  eS,
  ee,
  fk,
  gM,
  g9,
  iI,
  i0,
  dw,
  dJ,
  fa,
  oh,
  cB,
  PySem.W.fnOf "__init__" "Chart.__init__" (iP cA) (gu cA) (aK cA) .none lM lN lO lL jg lP,
  aS⟩
 have T:Tx K mg t:=⟨om,
  bU,
  bD,
  dM,
  ig,
  cX,
  bO,
  ij,
  cn,
  dy,
  gh,
  bX,
  bB,
  ik,
  cf,
  eT,
  cF,
  cP,
  dN,
  cQ,
  cG,
  bE,
  aq,
  eU,
  cY,
  bY,
  cg,
  cH,
  dO,
  bq,
  dh,
  fF,
  gi,
  bP,
  yu,
  hC,
  t8,
  ⟨C8,C9,Dc,Dd⟩,
  PySem.W.mg_of X G Fi,
  ⟨m3,tW,t7,De⟩,
  eu,
  eA,
  iJ,
  bV,
  fg,
  ⟨_,PySem.W.mg_of X G LX,_,rfl⟩,
  PySem.W.mg_none_of X G vg,
  PySem.W.mg_none_of X G jX,
  PySem.W.mg_none_of X G oo,
  PySem.W.mg_none_of X G ou,
  PySem.W.mg_none_of X G jP,
  PySem.W.mg_none_of X G Cw,
  PySem.W.mg_none_of X G jY,
  PySem.W.mg_none_of X G jZ,
  PySem.W.mg_none_of X G hG,
  PySem.W.mg_none_of X G i3,
  PySem.W.mg_none_of X G yv⟩
 obtain⟨_,_,_,_,_,_,_,_,_,z,_⟩:=yu.F.ex
 exact⟨t.oh,fun s v=>by rw[show t.oh=_ from z];exact .of_eq rfl,fun base _ _=>Ib T⟩
theorem walk{l:PySem.W.OpenLaw}{q:Program}{loose:List Str}{XP:(Str->Option Value)->Heap->Prop}{YP:World->Heap->Prop}{d:DefRec}{K:Params->PySem.W.Frag}(hn:l.most=some 63)(JM:d.params.defaults=[])
 (hY:∀(w:World) (h:Heap),YP w h->(K w.params).In h)
 (F:∀(w:World) (mg:Str->Option Value) (fa:Addr) (h:Heap),(K w.params).In h->h.Ns mainGlobals mg->mg d.name=some (.ref fa)->
  ∃fd:FuncData,(∀(s:Shared) (u:Value),BindsTo s fd ⟨[u],[]⟩ [("script",u)])/\∀base:Heap,(K w.params).In base->base.Ns mainGlobals mg->bJ l.prog w (K w.params) mg base eY 30 fa fd ["script"] (xT (K w.params))) :
 PySem.W.WalkO q loose XP YP l.row.toRowW d [] (fun f vs=>PySem.call f vs):=
 L2.DP (n:=63) (k:=30) (x:="script") (CX:=fun _=>eY) (sp:=fun w=>xT (K w.params)) hn (by decide) JM ⟨rfl,by decide,by decide⟩ hY F (fun _ _ a ns hl _ hS=>⟨a,ns,rfl,hS,hl,fun _=>rfl⟩) fun _ _ _ _ _ z=>z
end
end HJ
end
namespace PySem.W.Fast
theorem tw4426543793163599846:True:=trivial
theorem tw4579198252973614015:True:=trivial
theorem tw15635894088703825003:True:=trivial
theorem tw11480169854949785372:True:=trivial
theorem tw16416533175472116906:True:=trivial
theorem tw15227709150856385790:True:=trivial
theorem tw1614971229507594893:True:=trivial
theorem tw257533474593329101:True:=trivial
theorem tw7652562383338505672:True:=trivial
theorem tw12487651923656842107:True:=trivial
theorem tw415997416697150099:True:=trivial
theorem tw10019081967813626236:True:=trivial
theorem tw5738698694231141711:True:=trivial
theorem tw12450413007941343685:True:=trivial
theorem tw5108200799650187945:True:=trivial
theorem tw16730322807678119586:True:=trivial
theorem tw3408655082326903547:True:=trivial
theorem tw3287652036276229159:True:=trivial
theorem tw10021479510913339481:True:=trivial
theorem tw4749985705127720699:True:=trivial
theorem tw6537999960004234433:True:=trivial
theorem tw10935794878034528277:True:=trivial
theorem tw9506367896002046420:True:=trivial
theorem tw4742140736906551929:True:=trivial
theorem tw17217566709272766741:True:=trivial
theorem tw14876605259014941586:True:=trivial
theorem tw16736368627055574762:True:=trivial
theorem tw17501122953201523848:True:=trivial
theorem tw8271177497411519158:True:=trivial
theorem tw12874984527672050703:True:=trivial
theorem tw13689160910694989229:True:=trivial
theorem tw5992791074620387706:True:=trivial
theorem tw2233067563683252637:True:=trivial
theorem tw8154338848383968909:True:=trivial
theorem tw10851053908292654430:True:=trivial
end PySem.W.Fast
end
open PySem PySem.W PyProof.Rows
set_option maxRecDepth 100000 in
set_option maxHeartbeats 0 in
theorem PySem.Challenge.cw_everyrow_k34_ways_by_ranges_holds : PySem.Challenge.rw_everyrow_k34_ways_by_ranges.Holds := by
 w_on; o_law; k_head; (case hw=>w_witness2)
 k_fill
 refine HJ.walk (l:=PySem.Challenge.rw_everyrow_k34_ways_by_ranges) rfl rfl (fun w h Y=>PySem.W.kIn_of Y) ?F
 case F=>
   intro w mg fa h KX G JN
   refine' HJ.all_mk KX G JN ?_ ?_ ?_ ?_ ?_ ?_ ?_ ?_ ?_ ?_ ?_ ?_ ?_ ?_ ?_ ?_ ?_ ?_ ?_ ?_ ?_ ?_ ?_ ?_ ?_ ?_ ?_ ?_ ?_ ?_ ?_ ?_ ?_ ?_ ?_ ?_ ?_ ?_ ?_ ?_ ?_ ?_ ?_ ?_ ?_ ?_ ?_ ?_ ?_ ?_ ?_ ?_ ?_ ?_ ?_ ?_ ?_ ?_ ?_ ?_ ?_ ?_ ?_ ?_
   rotate_left 47
   iterate 35 (refine' L2.FH.of ?a ?l ?c ?k; (case a=>k_is); (case l=>k_is); (case c=>k_is); (case k=>k_is))
   iterate 29 (k_is)
