import PyProof.Rows.All
import Wide.All
import OpenK.AllK
import Wide.FinOn
import Lean
import PyProof.EqAt
import PyProof.EqKinds
import PyProof.TupleCall
import PyProof.AttrMiss
import PyProof.IsiH_list
import PyProof.ZipIter
import PyProof.P3In
import PySem.Challenge.RW_everyrow_k26_whole_targets_met
set_option compiler.extract_closed false
set_option Elab.async false
set_option linter.all false
set_option maxRecDepth 100000
noncomputable section
namespace L2
open PySem PySem.Spec PyProof.Rows
abbrev Key:=Sum Int Str
def rF:Key->Value->Bool
 |.inl k,v=>Value.isInt k v
 |.inr x,v=>Value.isStrOf x v
def K8 (w:World):Key->Int
 |.inl k=>hashInt k
 |.inr x=>hashStr w x
theorem dE:∀ {k:Key} {v:Value},rF k v=true->(∃i t,k=Sum.inl i/\v=Value.int i t)\/(∃x t,k=Sum.inr x/\v=Value.str x t)
 |.inl i,v,h=>by
  obtain⟨t,e⟩:=Value.isInt_shape (k:=i) (v:=v) h
  exact .inl ⟨i,t,rfl,e⟩
 |.inr x,v,h=>by
  obtain⟨t,e⟩:=Value.isStrOf_shape (x:=x) (v:=v) h
  exact .inr ⟨x,t,rfl,e⟩
theorem xR(i:Int)(t:Tok):rF (.inl i) (.int i t)=true:=by simp[rF,Value.isInt]
theorem xS(x:Str)(t:Tok):rF (.inr x) (.str x t)=true:=by simp[rF,Value.isStrOf]
theorem vH(a b:Int):decide ((Sum.inl a:Key)=Sum.inl b)=(a==b):=by
 by_cases e:a=b
 ·subst e;simp
 ·have h:¬(Sum.inl a:Key)=Sum.inl b:=fun q=>e (Sum.inl.inj q)
  rw[decide_eq_false h]
  exact(beq_eq_false_iff_ne.mpr e).symm
theorem G2(a b:Str):decide ((Sum.inr a:Key)=Sum.inr b)=decide (a=b):=by
 by_cases e:a=b
 ·subst e;simp
 ·have h:¬(Sum.inr a:Key)=Sum.inr b:=fun q=>e (Sum.inr.inj q)
  rw[decide_eq_false h,decide_eq_false e]
theorem Ca(a:Int)(b:Str):decide ((Sum.inl a:Key)=Sum.inr b)=false:=decide_eq_false (fun q=>nomatch q)
theorem Cb(a:Str)(b:Int):decide ((Sum.inr a:Key)=Sum.inl b)=false:=decide_eq_false (fun q=>nomatch q)
def b3 (prog:Program) (w:World):PySem.KeyKind prog w Key where
 is:=rF
 hash:=K8 w
 inj:=fun v a b ha hb=>by
  rcases dE ha with ⟨i,t,rfl,rfl⟩ |⟨x,t,rfl,rfl⟩
  ·rcases dE hb with ⟨j,u,rfl,e⟩ |⟨y,u,rfl,e⟩
   ·injection e with e1 _;rw[e1]
   ·exact nomatch e
  ·rcases dE hb with ⟨j,u,rfl,e⟩ |⟨y,u,rfl,e⟩
   ·exact nomatch e
   ·injection e with e1 _;rw[e1]
 byValue:=fun k v h=>by
  rcases dE h with ⟨i,t,rfl,rfl⟩ |⟨x,t,rfl,rfl⟩<;>rfl
 pyHash:=fun hv h=>by
  rcases dE hv with ⟨i,t,rfl,rfl⟩ |⟨x,t,rfl,rfl⟩
  ·exact wpAny_pyHash_int h
  ·exact wpAny_pyHash_str h
 eqBool:=fun hu hv h=>by
  rcases dE hu with ⟨i,t,rfl,rfl⟩ |⟨x,t,rfl,rfl⟩
  ·rcases dE hv with ⟨j,u,rfl,rfl⟩ |⟨y,u,rfl,rfl⟩
   ·rw[vH] at h;exact wpAny_eqBool_int h
   ·rw[Ca] at h;exact SeqAt.EqAt.int_str i t y u _ _ _ _ h
  ·rcases dE hv with ⟨j,u,rfl,rfl⟩ |⟨y,u,rfl,rfl⟩
   ·rw[Cb] at h;exact SeqAt.EqAt.str_int x t j u _ _ _ _ h
   ·rw[G2] at h;exact wpAny_eqBool_str h
 «strs»:=fun k x t v h=>by
  rcases dE h with ⟨i,u,rfl,e⟩ |⟨y,u,rfl,e⟩
  ·exact nomatch e
  ·injection e with e1 _
   subst e1
   cases v<;>rfl
theorem Az(prog:Program)(w:World)(i:Int)(t:Tok):(b3 prog w).is (.inl i) (.int i t)=true:=xR i t
theorem AA(prog:Program)(w:World)(x:Str)(t:Tok):(b3 prog w).is (.inr x) (.str x t)=true:=xS x t
end L2
namespace L2
open PySem PySem.Spec PyProof.Rows
inductive V where
 |ck |bl (b:Bool) |int (i:Int) |str (x:Str) |DL (b:Array UInt8) |N9 (b:UInt64) |ref (a:Addr) |ty (n:String)
 deriving DecidableEq
def RelV:V->Value->Prop
 |.ck,u=>u=Value.none
 |.bl b,u=>u=Value.bool b
 |.int i,u=>∃t,u=Value.int i t
 |.str x,u=>∃t,u=Value.str x t
 |.DL b,u=>∃t,u=Value.bytes b t
 |.N9 b,u=>∃t,u=Value.float b t
 |.ref a,u=>u=Value.ref a
 |.ty n,u=>u=Value.type n
abbrev Vals:List V->List Value->Prop:=Paired RelV
theorem Vals.length{xs:List V}{us:List Value}(r:Vals xs us):xs.length=us.length:=Paired.length r
theorem Vals.get:∀ {xs:List V} {us:List Value} {i:Nat} {x:V},Vals xs us->xs[i]?=some x->∃u,us[i]?=some u/\RelV x u
 |_,_,_,_,.nil,e=>by simp at e
 |_,_,0,_,.cons r _,e=>by simp at e;subst e;exact⟨_,rfl,r⟩
 |_,_,i+1,x,.cons _ t,e=>by
  obtain⟨u,h1,h2⟩:=Vals.get (i:=i) (x:=x) t (by simpa using e)
  exact⟨u,by simpa using h1,h2⟩
theorem Vals.set{x:V}{u:Value}(r:RelV x u):∀ {xs:List V} {us:List Value} (i:Nat),Vals xs us->Vals (xs.set i x) (us.set i u)
 |_,_,_,.nil=>.nil
 |_,_,0,.cons _ t=>.cons r t
 |_,_,i+1,.cons q t=>.cons q (Vals.set r i t)
theorem Vals.append:∀ {xs ys:List V} {us ws:List Value},Vals xs us->Vals ys ws->Vals (xs++ys) (us++ws)
 |_,_,_,_,.nil,s=>s
 |_,_,_,_,.cons r t,s=>.cons r (Vals.append t s)
theorem Vals.take:∀ {xs:List V} {us:List Value} (n:Nat),Vals xs us->Vals (xs.take n) (us.take n)
 |_,_,0,_=>.nil
 |_,_,_+1,.nil=>.nil
 |_,_,n+1,.cons r t=>.cons r (Vals.take n t)
theorem Vals.drop:∀ {xs:List V} {us:List Value} (n:Nat),Vals xs us->Vals (xs.drop n) (us.drop n)
 |_,_,0,r=>r
 |_,_,_+1,.nil=>.nil
 |_,_,n+1,.cons _ t=>Vals.drop n t
def mv:Option V->Option Value->Prop
 |some v,some u=>RelV v u
 |none,none=>True
 |_,_=>False
def KV {κ:Type}:List (κ×V)->List (κ×Value)->Prop:=Paired fun (p:κ×V) (q:κ×Value)=>p.1=q.1/\RelV p.2 q.2
def kV:Key->V
 |.inl i=>.int i
 |.inr x=>.str x
inductive HO where
 |lst (xs:List V)
 |tup (xs:List V)
 |dK (aP:List (Key×V)) |dT (aP:List (List Key×V))
 |set (S:Int->Bool) (n:Nat)
 |ins (C dx:Addr) (fs:List (Str×V))
 |own (x:Addr)
 |xd (fs:List (Str×V))
 |met (f x:Addr)
 |T8 (lo hi:Int)
 |Cc (o:Obj) (u:HO)
 |M3 (ps:Array Value)
 |ext (φ:Heap->Prop)
abbrev Hp:=Addr->Option HO
def upd (H:Hp) (a:Addr) (o:HO):Hp:=fun b=>if b=a then some o else H b
theorem ai{H:Hp}{a:Addr}{o:HO}:upd H a o a=some o:=by unfold upd;rw[if_pos rfl]
theorem ay{H:Hp}{a b:Addr}{o:HO}(h:b≠a):upd H a o b=H b:=by unfold upd;rw[if_neg h]
theorem K9{H:Hp}{a:Addr}{o u:HO}:upd (upd H a o) a u=upd H a u:=by
 funext b;unfold upd;split<;>rfl
theorem cR{H:Hp}{a b:Addr}{o u:HO}(h:H a=some o)(h':H b=some u)(d:o≠u):a≠b:=by
 intro e;subst e;rw[h] at h';exact d (Option.some.inj h')
theorem ao{H:Hp}{a b:Addr}{o:HO}(h:H a=some o)(h':H b=none):a≠b:=by
 intro e;subst e;rw[h] at h';cases h'
section
variable(P:Program)(w:World)
def dF (H:Hp) (h:Heap) (a:Addr):HO->Prop
 |.lst xs=>xs.length<=sizeLine/\∃(bA:List Value) (n:Nat),Vals xs bA/\h.get? a=some {cls:=.type "list",data:=.seq bA.toArray n}
 |.tup xs=>xs.length<=sizeLine/\∃bA:List Value,Vals xs bA/\IsTup h a bA.toArray
 |.dK aP=>aP.length<=sizeLine/\(a==sysModules)=false/\∃vs,KV aP vs/\h.DictOf (b3 P w) a vs
 |.dT aP=>aP.length<=sizeLine/\(a==sysModules)=false/\∃xs:List (List Key×Addr×Value),
  Paired (fun (p:List Key×V) (q:List Key×Addr×Value)=>p.1=q.1/\H q.2.1=some (.tup (p.1.map kV))/\RelV p.2 q.2.2) aP xs/\
  ∃o es ep,h.get? a=some o/\o.ExactDict/\o.data=.dict es ep/\es.toList=xs.map (entryOfKey (tupleKind (b3 P w)))/\(xs.map (·.1)).Nodup
 |.set S n=>h.SetOf (intKind P w) a S n
 |.ins C dx fs=>H dx=some (.own a)/\fs.length<=1000/\dx≠a/\h.get? a=some (PySem.W.instObj C dx)/\
  ∃mA,h.Ns1 dx mA/\(∀f,mv (fs.lookup f) (mA f))/\PySem.Within mA (fs.map (·.1))
 |.own _=>∃o,h.get? a=some o
 |.xd fs=>∃mA,h.Ns1 a mA/\∀f,mv (fs.lookup f) (mA f)
 |.T8 lo hi=>∃t u v,h.get? a=some {cls:=.type "range",data:=.fields #[.int lo t,.int hi u,.int 1 v]}
 |.Cc o u=>h.get? a=some o/\dF H h a u
 |.M3 ps=>h.get? a=some {cls:=.none,data:=.fields ps}
 |.met f x=>h.get? a=some (PySem.W.methodObj (.ref f) (.ref x))
 |.ext φ=>φ h/\(∃o,h.get? a=some o)/\∀h1 h2:Heap,φ h1->(∀o,h1.get? a=some o->h2.get? a=some o)->φ h2
def rq (H:Hp) (h:Heap):Prop:=∀a o,H a=some o->dF P w H h a o
end
section
variable{P:Program}{w:World}{H H':Hp}{h h':Heap}{a:Addr}{o:HO}
theorem dF.lt(x:dF P w H h a o):a<h.objs.size:=by
 cases o with
 |lst xs=>obtain⟨_,_,_,_,e⟩:=x;exact Heap.lt_size e
 |tup xs=>obtain⟨_,_,_,p⟩:=x;exact p.lt
 |dK aP=>obtain⟨_,_,_,_,o,_,_,e,_⟩:=x;exact Heap.lt_size e
 |dT aP=>obtain⟨_,_,_,_,o,_,_,e,_⟩:=x;exact Heap.lt_size e
 |set S n=>obtain⟨o,_,_,_,e,_⟩:=x;exact Heap.lt_size e
 |ins C dx fs=>obtain⟨_,_,_,e,_⟩:=x;exact Heap.lt_size e
 |own y=>obtain⟨_,e⟩:=x;exact Heap.lt_size e
 |xd fs=>obtain⟨_,⟨_,_,_,e,_⟩,_⟩:=x;exact Heap.lt_size e
 |T8 lo hi=>obtain⟨_,_,_,e⟩:=x;exact Heap.lt_size e
 |Cc ob u=>obtain⟨e,_⟩:=x;exact Heap.lt_size e
 |M3 ps=>exact Heap.lt_size (show h.get? a=some _ from x)
 |met f y=>exact Heap.lt_size (show h.get? a=some _ from x)
 |ext φ=>obtain⟨_,⟨_,e⟩,_⟩:=x;exact Heap.lt_size e
theorem Paired.G3{α β:Type}{F G:α->β->Prop}:∀ {l₁:List α} {l₂:List β},Paired F l₁ l₂->(∀a b,F a b->G a b)->Paired G l₁ l₂
 |_,_,.nil,_=>.nil
 |_,_,.cons r t,f=>.cons (f _ _ r) (Paired.G3 t f)
theorem dF.ky(x:dF P w H h a o)(k:∀b u,(b=a\/H b=some (.own a))->h.get? b=some u->h'.get? b=some u)
 (ho:∀b,H b=some (.own a)->H' b=some (.own a)) (ht:∀b xs,H b=some (.tup xs)->H' b=some (.tup xs)):dF P w H' h' a o:=by
 induction o with
 |lst xs=>obtain⟨z,bA,n,r,e⟩:=x;exact⟨z,bA,n,r,k _ _ (.inl rfl) e⟩
 |tup xs=>obtain⟨z,bA,r,ob,e,c⟩:=x;exact⟨z,bA,r,ob,k _ _ (.inl rfl) e,c⟩
 |dK aP=>obtain⟨z,y,vs,r,ob,es,ep,e,c⟩:=x;exact⟨z,y,vs,r,ob,es,ep,k _ _ (.inl rfl) e,c⟩
 |dT aP=>
  obtain⟨z,y,xs,r,ob,es,ep,e,c⟩:=x
  exact⟨z,y,xs,Paired.G3 r fun p q z=>⟨z.1,ht _ _ z.2.1,z.2.2⟩,ob,es,ep,k _ _ (.inl rfl) e,c⟩
 |set S n=>obtain⟨ob,es,ep,t,e,c⟩:=x;exact⟨ob,es,ep,t,k _ _ (.inl rfl) e,c⟩
 |ins C dx fs=>
  obtain⟨d,z,ne,e,mA,⟨od,es,ep,e2,c⟩,r⟩:=x
  exact⟨ho _ d,z,ne,k _ _ (.inl rfl) e,mA,⟨od,es,ep,k _ _ (.inr d) e2,c⟩,r⟩
 |own y=>obtain⟨ob,e⟩:=x;exact⟨ob,k _ _ (.inl rfl) e⟩
 |xd fs=>obtain⟨mA,⟨od,es,ep,e,c⟩,r⟩:=x;exact⟨mA,⟨od,es,ep,k _ _ (.inl rfl) e,c⟩,r⟩
 |T8 lo hi=>obtain⟨t,u,v,e⟩:=x;exact⟨t,u,v,k _ _ (.inl rfl) e⟩
 |Cc ob u ih=>obtain⟨e,q⟩:=x;exact⟨k _ _ (.inl rfl) e,ih q⟩
 |M3 ps=>
  have e:h.get? a=some {cls:=.none,data:=.fields ps}:=x
  show h'.get? a=some {cls:=.none,data:=.fields ps}
  exact k a _ (.inl rfl) e
 |met f y=>
  have e:h.get? a=some (PySem.W.methodObj (.ref f) (.ref y)):=x
  show h'.get? a=some (PySem.W.methodObj (.ref f) (.ref y))
  exact k a _ (.inl rfl) e
 |ext φ=>obtain⟨p,⟨o,e⟩,st⟩:=x;exact⟨st _ _ p fun o q=>k _ _ (.inl rfl) q,⟨o,k _ _ (.inl rfl) e⟩,st⟩
theorem rq.lt(x:rq P w H h)(e:H a=some o):a<h.objs.size:=(x a o e).lt
theorem rq.fresh(x:rq P w H h)(e:h.objs.size<=a):H a=none:=by
 cases q:H a with
 |none=>rfl
 |some u=>exact absurd (Nat.lt_of_lt_of_le (x.lt q) e) (Nat.lt_irrefl _)
theorem rq.kept(x:rq P w H h)(k:∀b u,h.get? b=some u->h'.get? b=some u):rq P w H h':=fun a o e=>
 (x a o e).ky (fun b u _ q=>k b u q) (fun _ q=>q) fun _ _ q=>q
theorem rq.laid(x:rq P w H h)(k:∀b u,h.get? b=some u->h'.get? b=some u)(hp:h.objs.size<=a)(new:dF P w (upd H a o) h' a o):rq P w (upd H a o) h':=fun b u e=>by
 have hn:=x.fresh hp
 by_cases hb:b=a
 ·subst hb;rw[ai] at e;cases e;exact new
 ·rw[ay hb] at e
  exact(x b u e).ky (fun c v _ q=>k c v q) (fun c q=>by rw[ay (ao q hn)];exact q) fun c xs q=>by rw[ay (ao q hn)];exact q
end
def Rd (H:Hp) (a:Addr) (u:HO):Prop:=H a=some u\/∃o,H a=some (.Cc o u)
theorem Rd.ok{P:Program}{w:World}{H:Hp}{h:Heap}{a:Addr}{u:HO}(r:Rd H a u)(x:rq P w H h):dF P w H h a u:=by
 rcases r with r |⟨o,r⟩
 ·exact x a u r
 ·obtain⟨_,q⟩:=x a _ r
  exact q
def Q9:Option HO->Prop
 |some (.lst _)=>True
 |some (.dK _)=>True
 |some (.dT _)=>True
 |some (.set _ _)=>True
 |some (.ins _ _ _)=>True
 |some (.ext _)=>True
 |_=>False
section
variable{P:Program}{w:World}{H:Hp}{h h':Heap}{x e:Addr}{o':HO}
theorem rq.write(ok:rq P w H h)(mu:Q9 (H x))(he:e=x\/H e=some (.own x))(k:∀b u,b≠e->h.get? b=some u->h'.get? b=some u)(QE:∃u,h'.get? e=some u)
 (new:dF P w (upd H x o') h' x o'):rq P w (upd H x o') h':=fun b u q=>by
 have Ra:∀c y,H c=some (.own y)->c≠x:=fun c y r z=>by subst z;rw[r] at mu;exact mu
 have Vf:∀c xs,H c=some (.tup xs)->c≠x:=fun c xs r z=>by subst z;rw[r] at mu;exact mu
 by_cases hb:b=x
 ·subst hb;rw[ai] at q;cases q;exact new
 ·rw[ay hb] at q
  by_cases Oa:b=e
  ·have q':H b=some (.own x):=by
    rcases he with z |z
    ·exact absurd (Oa.trans z) hb
    ·rw[Oa];exact z
   rw[q] at q';cases q'
   obtain⟨v,hv⟩:=QE
   exact⟨v,by rw[Oa];exact hv⟩
  ·refine(ok b u q).ky (fun c v hc r=>k c v ?_ r) (fun c r=>by rw[ay (Ra c b r)];exact r) fun c xs r=>by rw[ay (Vf c xs r)];exact r
   rcases hc with rfl |hc
   ·exact Oa
   ·rintro rfl
    rcases he with z |z
    ·exact Ra c b hc z
    ·rw[hc] at z;cases z;exact hb rfl
end
structure Un(fs ex:List Addr)(H H':Hp)(h h':Heap):Prop where
 keep:∀b o,h.get? b=some o->H b=none->b ∉ fs->b ∉ ex->h'.get? b=some o
 slot:∀b o,h.get? b=some o->H b=none->b∈fs->b ∉ ex->∃sl,h'.get? b=some {o with slots:=sl}
 free:∀b o,h.get? b=some o->H b=none->b ∉ ex->H' b=none
 there:∀b o,h.get? b=some o->b ∉ ex->∃o',h'.get? b=some o'
 yO:∀b xs,H b=some (.tup xs)->H' b=some (.tup xs)
 xo:∀b o u,H b=some (.Cc o u)->H' b=some (.Cc o u)
 yP:∀b ps,H b=some (.M3 ps)->∃more,H' b=some (.M3 (ps++more))
section
variable{fs M4 ex Z5:List Addr}{H H1 H2:Hp}{h h1 h2 h':Heap}{a x e:Addr}{o:HO}
theorem Un.any(u:Un fs ex H H1 h h1){b:Addr}{ob:Obj}(q:h.get? b=some ob)(n:H b=none)(hx:b ∉ ex):∃sl,h1.get? b=some {ob with slots:=sl}:=by
 by_cases hb:b∈fs
 ·exact u.slot b ob q n hb hx
 ·exact⟨ob.slots,u.keep b ob q n hb hx⟩
theorem Un.kept(k:∀b u,h.get? b=some u->h'.get? b=some u):Un fs ex H H h h':=
 ⟨fun b ob q _ _ _=>k b ob q,fun b ob q _ _ _=>⟨ob.slots,k b ob q⟩,fun _ _ _ n _=>n,fun b ob q _=>⟨ob,k b ob q⟩,fun _ _ q=>q,fun _ _ _ q=>q,fun _ ps q=>⟨#[],by rw[q];simp⟩⟩
theorem Un.refl:Un fs ex H H h h:=Un.kept fun _ _ q=>q
theorem Un.laid(k:∀b u,h.get? b=some u->h'.get? b=some u)(hp:h.objs.size<=a)(hn:H a=none):Un fs ex H (upd H a o) h h' where
 keep:=fun b u q _ _ _=>k b u q
 slot:=fun b u q _ _ _=>⟨u.slots,k b u q⟩
 free:=fun b u q n _=>by rw[ay (Nat.ne_of_lt (Nat.lt_of_lt_of_le (Heap.lt_size q) hp))];exact n
 there:=fun b u q _=>⟨u,k b u q⟩
 yO:=fun b xs q=>by rw[ay (ao q hn)];exact q
 xo:=fun b u xs q=>by rw[ay (ao q hn)];exact q
 yP:=fun b ps q=>⟨#[],by rw[ay (ao q hn),q];simp⟩
theorem Un.write(mu:Q9 (H x))(he:e=x\/H e=some (.own x))(k:∀b u,b≠e->h.get? b=some u->h'.get? b=some u)(QE:∃u,h'.get? e=some u):Un fs ex H (upd H x o) h h':=by
 have hx:∀b,H b=none->b≠x:=fun b n z=>by subst z;rw[n] at mu;exact mu
 have hb:∀b,H b=none->b≠e:=fun b n z=>by
  subst z
  rcases he with r |r
  ·exact hx b n r
  ·rw[n] at r;cases r
 have hm:∀b u,H b=some u->¬Q9 (some u)->b≠x:=fun b u q nm z=>by subst z;rw[q] at mu;exact nm mu
 refine⟨fun b u q n _ _=>k b u (hb b n) q,fun b u q n _ _=>⟨u.slots,k b u (hb b n) q⟩,fun b u q n _=>by rw[ay (hx b n)];exact n,fun b u q _=>?_,
  fun b xs q=>by rw[ay (hm b _ q fun z=>z)];exact q,fun b u xs q=>by rw[ay (hm b _ q fun z=>z)];exact q,fun b ps q=>⟨#[],by rw[ay (hm b _ q fun z=>z),q];simp⟩⟩
 by_cases Oa:b=e
 ·subst Oa;exact QE
 ·exact⟨u,k b u Oa q⟩
end
def T9 (h:Heap) (H:Hp):List Addr:=(List.range h.objs.size).filter fun a=>(H a).isSome
def yQ (h:Heap) (H:Hp):Heap:=PySem.W.hideAll h (T9 h H)
theorem Fj(h:Heap)(H:Hp):(yQ h H).objs.size=h.objs.size:=PySem.W.hideAll_size _ _
theorem G4{h:Heap}{H:Hp}{b:Addr}{o:Obj}(e:h.get? b=some o)(n:H b=none):(yQ h H).get? b=some o:=
 PySem.W.hideAll_get _ e fun hm=>by
  have q:(H b).isSome=true:=(List.mem_filter.mp hm).2
  rw[n] at q;simp at q
theorem La{h:Heap}{H:Hp}{b:Addr}{o:Obj}(e:(yQ h H).get? b=some o):h.get? b=some o/\H b=none:=by
 have e':h.get? b=some o:=PySem.W.of_hideAll (T9 h H) e
 refine⟨e',?_⟩
 cases q:H b with
 |none=>rfl
 |some x=>
  have hm:b∈T9 h H:=List.mem_filter.mpr ⟨List.mem_range.mpr (Heap.lt_size e'),by simp[q]⟩
  have z:(yQ h H).get? b=none:=PySem.W.hideAll_none (T9 h H) hm
  rw[z] at e;cases e
def Lb (g h:Heap) (L:Addr):List (Addr×Obj):=(List.range h.objs.size).filterMap fun a=>if a=L\/(g.get? a).isSome=true then none else (h.get? a).map fun o=>(a,o)
def rest (g h:Heap) (L d:Addr):List (Addr×Obj):=(Lb g h L).filter fun p=>decide (p.1≠d)
end L2
namespace L2
open PySem PySem.Spec PyProof.Rows
structure Mod(K:PySem.W.Frag)(mg:Str->Option Value)(base:Heap):Prop where
 Ua:K.In base
 glob:base.Ns mainGlobals mg
 blt:∃mb,base.Ns builtinsNs mb/\∀x:Str,x≠"__name__"->mb x=bootBuiltins x
 nolimit:base.NoLimit
structure Cx where
 prog:Program
 w:World
 K:PySem.W.Frag
 mg:Str->Option Value
 base:Heap
 A:Around
 N:List Str
 s₀:Shared
 H₀:Hp
 env:Env
 outer:List Env
 stack:List Env
 ex:List Addr
 fn:Str->Bool
 calm:Bool
 pn:List (Addr×Obj)
 xe:Value->Shared->Prop
def dO (l:List Env):List Addr:=l.filterMap (·.frame)
abbrev Cx.fs (X:Cx):List Addr:=dO X.outer
def Ub (sc:Scope) (x:Str):Prop:=sc.names.lookup x=some .local\/sc.names.lookup x=some .cell\/sc.names.lookup x=some .free
def Loc (sc:Scope) (x:Str):Prop:=sc.names.lookup x=some .local\/sc.names.lookup x=some .cell
def Look (env:Env) (h:Heap) (m:Str->Option Value) (x:Str) (u:Value):Prop:=
 (env.kindOf x=some .local/\m x=some u)\/((env.kindOf x=some .cell\/env.kindOf x=some .free)/\∃c,env.cells.lookup x=some c/\h.IsCell c (some u))
structure Cx.Ok(X:Cx):Prop where
 mod:Mod X.K X.mg X.base
 kind:X.env.scope.kind=.function
 glob:X.env.globals=mainGlobals
 blt:X.env.builtins=builtinsNs
 above:X.s₀.heap.objs.size<=X.env.locals
 inj:∀x y c,X.env.cells.lookup x=some c->X.env.cells.lookup y=some c->x=y
 has:∀x,(X.env.kindOf x=some .cell\/X.env.kindOf x=some .free)->∃c,X.env.cells.lookup x=some c
 Rb:∀x c,X.fn x=true->X.env.cells.lookup x=some c->X.s₀.heap.objs.size<=c
 hd:X.calm=true->X.A.handled=none
 frames:X.A.frames=some X.stack
 Uc:X.stack=X.outer\/(X.stack=X.env::X.outer/\X.env.frame=some X.env.locals)
 Yk:∀b∈X.ex,b≠X.env.locals/\∀x c,X.env.cells.lookup x=some c->c≠b
 bs:∀b o,X.base.get? b=some o->X.s₀.heap.get? b=some o/\X.H₀ b=none
 Cd:X.base.objs.size<=X.s₀.heap.objs.size
 G5:∀b o,X.base.get? b=some o->b ∉ X.ex
 Lc:∀b∈X.ex,b ∉ X.fs
 vd:X.s₀.heap.FunFrames X.base X.outer
 Ob:∀b∈X.fs,X.H₀ b=none
structure Inv(X:Cx)(pins:List (Addr×Obj))(σ:List (Option V))(H:Hp)(s:Shared):Prop where
 ok:X.Ok
 os:s.os=X.s₀.os
 bare:AllBare s.gens
 base:Un X.fs X.ex X.H₀ H X.s₀.heap s.heap
 loc:∃m,s.heap.Ns X.env.locals m/\∀(i:Nat) (x:Str) (v:V),X.N[i]?=some x->σ[i]?=some (some v)->Ub X.env.scope x->∃u,RelV v u/\Look X.env s.heap m x u
 cell:∀x c,X.env.cells.lookup x=some c->∃v,s.heap.IsCell c v
 free:H X.env.locals=none
 nO:∀x c,X.env.cells.lookup x=some c->H c=none
 pin:∀p∈X.pn++pins,s.heap.get? p.1=some p.2/\H p.1=none/\p.1≠X.env.locals/\p.1 ∉ X.fs/\∀v,p.2.data≠.cell v
 dU:rq X.prog X.w H s.heap
 len:σ.length=X.N.length
section
variable{X:Cx}{pins:List (Addr×Obj)}{σ:List (Option V)}{H H':Hp}{s:Shared}{h':Heap}
theorem Cx.Ok.Vg(ok:X.Ok){b:Addr}{o:Obj}(e:X.base.get? b=some o):b ∉ X.fs:=fun hb=>by
 have:=(ok.vd.mem hb).1
 rw[e] at this;cases this
theorem Inv.bs(I:Inv X pins σ H s):∀b o,X.base.get? b=some o->s.heap.get? b=some o/\H b=none:=fun b o e=>
 ⟨I.base.keep b o (I.ok.bs b o e).1 (I.ok.bs b o e).2 (I.ok.Vg e) (I.ok.G5 b o e),I.base.free b o (I.ok.bs b o e).1 (I.ok.bs b o e).2 (I.ok.G5 b o e)⟩
theorem Inv.bk(I:Inv X pins σ H s):∀b o,X.base.get? b=some o->s.heap.get? b=some o:=fun b o e=>(I.bs b o e).1
theorem Inv.mod(I:Inv X pins σ H s):Mod X.K X.mg X.base:=I.ok.mod
theorem Inv.vw(I:Inv X pins σ H s):X.K.In s.heap:=I.ok.mod.Ua.keeps I.bk
theorem Inv.nolimit(I:Inv X pins σ H s):s.heap.NoLimit:=I.ok.mod.nolimit.keeps I.bk
theorem Inv.fr(I:Inv X pins σ H s):∃m,Fr X.base X.env.locals s.heap m:=
 let ⟨m,hn,_⟩:=I.loc
 ⟨m,hn,I.bk,Nat.le_trans I.ok.Cd I.ok.above⟩
theorem Inv.lt(I:Inv X pins σ H s):X.env.locals<s.heap.objs.size:=let ⟨_,hn,_⟩:=I.loc;hn.lt
theorem Inv.sz(I:Inv X pins σ H s):X.s₀.heap.objs.size<=s.heap.objs.size:=Nat.le_trans I.ok.above (Nat.le_of_lt I.lt)
theorem Inv.Vh(I:Inv X pins σ H s){a:Addr}(h:s.heap.objs.size<=a):a ∉ X.fs:=fun hb=>by
 obtain⟨_,o,ho,_⟩:=I.ok.vd.mem hb
 exact absurd (Nat.lt_of_lt_of_le (Heap.lt_size ho) (Nat.le_trans I.sz h)) (Nat.lt_irrefl _)
theorem Inv.Oc(I:Inv X pins σ H s):∀x c,X.env.cells.lookup x=some c->c≠X.env.locals:=fun x c e z=>by
 obtain⟨v,o,ho,hd⟩:=I.cell x c e
 obtain⟨m,⟨o',es,ep,Od,Ce,_⟩,_⟩:=I.loc
 rw[z,Od] at ho;cases ho;rw[Ce] at hd;cases hd
theorem Inv.vd(I:Inv X pins σ H s):s.heap.FunFrames X.base X.outer:=by
 have all:∀(l:List Env),(∀b∈dO l,b∈X.fs)->X.s₀.heap.FunFrames X.base l->s.heap.FunFrames X.base l:=by
  intro l
  induction l with
  |nil=>intro _ _;trivial
  |cons env r ih=>
   intro hs hl
   obtain⟨hk,⟨L,o,hf,hn,ho,hd⟩,hr⟩:=hl
   have hL:L∈X.fs:=hs L (by unfold dO;rw[List.filterMap_cons,hf];exact List.mem_cons_self)
   obtain⟨sl,e⟩:=I.base.slot L o ho (I.ok.Ob L hL) hL fun z=>I.ok.Lc L z hL
   exact⟨hk,⟨L,_,hf,hn,e,hd⟩,ih (fun b hb=>hs b (by unfold dO;rw[List.filterMap_cons,hf];exact List.mem_cons_of_mem _ hb)) hr⟩
 exact all X.outer (fun _ hb=>hb) I.ok.vd
theorem Inv.stack(I:Inv X pins σ H s):s.heap.FunFrames X.base X.stack:=by
 rcases I.ok.Uc with e |⟨e,hf⟩
 ·rw[e];exact I.vd
 ·rw[e]
  obtain⟨m,hn,_⟩:=I.loc
  refine .cons (by rw[I.ok.kind];decide) hf hn ?_ I.vd
  exact Heap.get?_none_of_le (Nat.le_trans I.ok.Cd I.ok.above)
theorem Inv.yR(I:Inv X pins σ H s):∀b∈dO X.stack,b∈X.env.locals::X.fs:=fun b hb=>by
 rcases I.ok.Uc with e |⟨e,hf⟩
 ·rw[e] at hb;exact List.mem_cons_of_mem _ hb
 ·rw[e] at hb
  unfold dO at hb
  rw[List.filterMap_cons,hf] at hb
  exact hb
theorem Inv.DM(I:Inv X pins σ H s):∀b∈dO X.stack,H b=none:=fun b hb=>by
 rcases List.mem_cons.mp (I.yR b hb) with e |hb
 ·rw[e];exact I.free
 ·obtain⟨_,o,ho,_⟩:=I.ok.vd.mem hb
  exact I.base.free b o ho (I.ok.Ob b hb) fun z=>I.ok.Lc b z hb
theorem Inv.step{g':Array GenState}{t':Nat}{d':Drawn}{ch:List Addr}(I:Inv X pins σ H s)
 (KD:∀b∈ch,(b∈X.ex\/X.s₀.heap.objs.size<=b)/\b≠X.env.locals/\(∀x c,X.env.cells.lookup x=some c->c≠b)/\∀p∈X.pn++pins,p.1≠b)
 (keep:∀b o,b≠X.env.locals->b ∉ X.fs->b ∉ ch->s.heap.get? b=some o->H b=none->h'.get? b=some o)
 (slot:∀b o,b≠X.env.locals->b∈X.fs->b ∉ ch->s.heap.get? b=some o->H b=none->∃sl,h'.get? b=some {o with slots:=sl}) (free:∀b o,b ∉ ch->s.heap.get? b=some o->H b=none->H' b=none)
 (there:∀b o,b ∉ ch->s.heap.get? b=some o->∃o',h'.get? b=some o')
 (yO:∀b xs,H b=some (.tup xs)->H' b=some (.tup xs)) (xo:∀b o u,H b=some (.Cc o u)->H' b=some (.Cc o u)) (yP:∀b ps,H b=some (.M3 ps)->∃more,H' b=some (.M3 (ps++more)))
 (ns:∀m,s.heap.Ns X.env.locals m->h'.Ns X.env.locals m) (dU:rq X.prog X.w H' h') (hg:AllBare g') :
 Inv X pins σ H' {s with heap:=h',gens:=g',drawn:=d',toks:=t' }:=by
 have Yl:∀b o,X.s₀.heap.get? b=some o->b≠X.env.locals:=fun b o e=>Nat.ne_of_lt (Nat.lt_of_lt_of_le (Heap.lt_size e) I.ok.above)
 have Ud:∀b o,X.s₀.heap.get? b=some o->b ∉ X.ex->b ∉ ch:=fun b o e hx hb=>by
  rcases(KD b hb).1 with z |z
  ·exact hx z
  ·exact absurd (Nat.lt_of_lt_of_le (Heap.lt_size e) z) (Nat.lt_irrefl _)
 have cellK:∀x c,X.env.cells.lookup x=some c->∀v,s.heap.IsCell c v->h'.IsCell c v:=fun x c e v ⟨o,ho,hd⟩=>by
  have Rc:c ∉ ch:=fun z=>(KD c z).2.2.1 x c e rfl
  by_cases hc:c∈X.fs
  ·obtain⟨sl,q⟩:=slot c o (I.Oc x c e) hc Rc ho (I.nO x c e)
   exact⟨_,q,hd⟩
  ·exact⟨o,keep c o (I.Oc x c e) hc Rc ho (I.nO x c e),hd⟩
 refine⟨I.ok,I.os,hg,⟨fun b o e n hb hx=>?_,fun b o e n hb hx=>?_,fun b o e n hx=>?_,fun b o e hx=>?_,fun b xs e=>yO b xs (I.base.yO b xs e),fun b o xs e=>xo b o xs (I.base.xo b o xs e),fun b ps e=>?_⟩,?_,fun x c e=>?_,?_,fun x c e=>?_,fun p hp=>?_,dU,I.len⟩
 ·exact keep b o (Yl b o e) hb (Ud b o e hx) (I.base.keep b o e n hb hx) (I.base.free b o e n hx)
 ·obtain⟨sl,e1⟩:=I.base.slot b o e n hb hx
  obtain⟨Z6,e2⟩:=slot b _ (Yl b o e) hb (Ud b o e hx) e1 (I.base.free b o e n hx)
  exact⟨Z6,e2⟩
 ·obtain⟨o',e1⟩:=I.base.there b o e hx
  exact free b o' (Ud b o e hx) e1 (I.base.free b o e n hx)
 ·obtain⟨o',e1⟩:=I.base.there b o e hx
  exact there b o' (Ud b o e hx) e1
 ·obtain⟨m1,e1⟩:=I.base.yP b ps e
  obtain⟨m2,e2⟩:=yP b _ e1
  exact⟨m1++m2,by rw[e2,Array.append_assoc]⟩
 ·obtain⟨m,hn,hl⟩:=I.loc
  refine⟨m,ns m hn,fun i x v e1 e2 e3=>?_⟩
  obtain⟨u,r,l⟩:=hl i x v e1 e2 e3
  refine⟨u,r,?_⟩
  rcases l with l |⟨k,c,e,z⟩
  ·exact .inl l
  ·exact .inr ⟨k,c,e,cellK x c e _ z⟩
 ·obtain⟨v,z⟩:=I.cell x c e
  exact⟨v,cellK x c e v z⟩
 ·obtain⟨m,⟨o,_,_,ho,_⟩,_⟩:=I.loc
  exact free _ o (fun z=>(KD _ z).2.1 rfl) ho I.free
 ·obtain⟨v,o,ho,hd⟩:=I.cell x c e
  exact free c o (fun z=>(KD c z).2.2.1 x c e rfl) ho (I.nO x c e)
 ·obtain⟨e,n,ne,nf,d⟩:=I.pin p hp
  have Rc:p.1 ∉ ch:=fun z=>(KD p.1 z).2.2.2 p hp rfl
  exact⟨keep p.1 p.2 ne nf Rc e n,free p.1 p.2 Rc e n,ne,nf,d⟩
theorem Inv.un{t':Nat}(I:Inv X pins σ H s)(u:Un X.fs [] H H' s.heap h')(dU:rq X.prog X.w H' h'):Inv X pins σ H' {s with heap:=h',toks:=t' }:=by
 obtain⟨m,⟨o,es,ep,ho,r⟩,_⟩:=id I.loc
 obtain⟨sl,hL⟩:=u.any ho I.free (by simp)
 exact I.step (g':=s.gens) (d':=s.drawn) (ch:=[]) (fun _ z=>nomatch z) (fun b o _ hb _ e n=>u.keep b o e n hb (by simp)) (fun b o _ hb _ e n=>u.slot b o e n hb (by simp)) (fun b o _ e n=>u.free b o e n (by simp)) (fun b o _ e=>u.there b o e (by simp)) u.yO u.xo u.yP (fun m' hm=>by
  obtain⟨o',Vi,Vj,Od,r'⟩:=hm
  rw[ho] at Od;cases Od
  exact⟨_,Vi,Vj,hL,r'⟩) dU I.bare
theorem Inv.call{g':Array GenState}{t':Nat}{d':Drawn}{ch:List Addr}(I:Inv X pins σ H s)(u:Un (dO X.stack) ch H H' s.heap h')(dU:rq X.prog X.w H' h')(hg:AllBare g')
 (KD:∀b∈ch,(b∈X.ex\/X.s₀.heap.objs.size<=b)/\b≠X.env.locals/\(∀x c,X.env.cells.lookup x=some c->c≠b)/\∀p∈X.pn++pins,p.1≠b) :
 Inv X pins σ H' {s with heap:=h',gens:=g',drawn:=d',toks:=t' }:=by
 obtain⟨m,⟨o,es,ep,ho,r⟩,_⟩:=id I.loc
 obtain⟨sl,hL⟩:=u.any ho I.free fun z=>(KD _ z).2.1 rfl
 exact I.step (ch:=ch) KD (fun b o hL hb hc e n=>u.keep b o e n (fun z=>(List.mem_cons.mp (I.yR b z)).elim hL hb) hc) (fun b o _ _ hc e n=>u.any e n hc) (fun b o hc e n=>u.free b o e n hc) (fun b o hc e=>u.there b o e hc) u.yO u.xo u.yP (fun m' hm=>by
  obtain⟨o',Vi,Vj,Od,r'⟩:=hm
  rw[ho] at Od;cases Od
  exact⟨_,Vi,Vj,hL,r'⟩) dU hg
theorem Inv.turned{t':Nat}{it:Addr}(I:Inv X pins σ H s)(k:∀b o,b≠it->s.heap.get? b=some o->h'.get? b=some o)(hn:H it=none)(hL:it≠X.env.locals)
 (h1:it∈X.ex\/X.s₀.heap.objs.size<=it) (h2:∀x c,X.env.cells.lookup x=some c->c≠it) (h3:∀p∈X.pn++pins,p.1≠it):Inv X pins σ H {s with heap:=h',toks:=t' }:=by
 have Rf:∀b u,H b=some u->b≠it:=fun b u e z=>by rw[z,hn] at e;cases e
 refine I.step (g':=s.gens) (d':=s.drawn) (ch:=[it]) (fun b hb=>?_) (fun b o _ _ hc e _=>k b o (fun z=>hc (by simp[z])) e) (fun b o _ _ hc e _=>⟨o.slots,k b o (fun z=>hc (by simp[z])) e⟩) (fun _ _ _ _ n=>n)
  (fun b o hc e=>⟨o,k b o (fun z=>hc (by simp[z])) e⟩) (fun _ _ e=>e) (fun _ _ _ e=>e) (fun b ps e=>⟨#[],by rw[e];simp⟩) (fun m hm=>?_) (fun b u e=>?_) I.bare
 ·have e:b=it:=by simpa using hb
  subst e
  exact⟨h1,hL,h2,h3⟩
 ·obtain⟨o,es,ep,ho,r⟩:=hm
  exact⟨o,es,ep,k _ o (Ne.symm hL) ho,r⟩
 ·refine(I.dU b u e).ky (fun c v hc q=>k c v ?_ q) (fun _ q=>q) fun _ _ q=>q
  rcases hc with z |z
  ·rw[z];exact Rf b u e
  ·exact Rf c _ z
theorem Inv.tok(I:Inv X pins σ H s)(t:Nat):Inv X pins σ H {s with toks:=t}:=I.un (h':=s.heap) (t':=t) Un.refl I.dU
theorem Inv.kept{t':Nat}(I:Inv X pins σ H s)(k:∀b u,s.heap.get? b=some u->h'.get? b=some u):Inv X pins σ H {s with heap:=h',toks:=t' }:=I.un (Un.kept k) (I.dU.kept k)
theorem Inv.laid{a:Addr}{o:HO}{t':Nat}(I:Inv X pins σ H s)(k:∀b u,s.heap.get? b=some u->h'.get? b=some u)(hp:s.heap.objs.size<=a)(new:dF X.prog X.w (upd H a o) h' a o) :
 Inv X pins σ (upd H a o) {s with heap:=h',toks:=t' }:=I.un (Un.laid k hp (I.dU.fresh hp)) (I.dU.laid k hp new)
theorem Inv.write{x e:Addr}{o:HO}{t':Nat}(I:Inv X pins σ H s)(mu:Q9 (H x))(he:e=x\/H e=some (.own x))(k:∀b u,b≠e->s.heap.get? b=some u->h'.get? b=some u)(QE:∃u,h'.get? e=some u)
 (new:dF X.prog X.w (upd H x o) h' x o):Inv X pins σ (upd H x o) {s with heap:=h',toks:=t' }:=I.un (Un.write mu he k QE) (I.dU.write mu he k QE new)
theorem Inv.DN{AB:List (Addr×Obj)}(I:Inv X pins σ H s)(h:∀p∈AB,s.heap.get? p.1=some p.2/\H p.1=none/\p.1≠X.env.locals/\p.1 ∉ X.fs/\∀v,p.2.data≠.cell v):Inv X AB σ H s:=
 ⟨I.ok,I.os,I.bare,I.base,I.loc,I.cell,I.free,I.nO,fun p hp=>(List.mem_append.mp hp).elim (fun z=>I.pin p (List.mem_append_left _ z)) (h p),I.dU,I.len⟩
theorem AD{N:List Str}(hN:N.Nodup){i j:Nat}{x:Str}(a:N[i]?=some x)(b:N[j]?=some x):i=j:=by
 obtain⟨h1,e1⟩:=List.getElem?_eq_some_iff.mp a
 obtain⟨h2,e2⟩:=List.getElem?_eq_some_iff.mp b
 exact(List.getElem_inj hN).mp (e1.trans e2.symm)
theorem xT{M:Model}{A:Around}{E:Value->Shared->Prop}{i:Nat}{x:Str}{v:V}{u:Value}{Q:Unit->Shared->Prop}(I:Inv X pins σ H s)(hN:X.N.Nodup)(hi:X.N[i]?=some x)(hx:Loc X.env.scope x)(r:RelV v u)
 (h:∀s',Inv X pins (σ.set i (some v)) H s'->(∃a,Heap.SameBut a s.heap s'.heap/\(a=X.env.locals\/X.env.cells.lookup x=some a))->Q () s') (hf:X.fn x=true\/X.env.scope.names.lookup x=some .local:=by first |exact .inl rfl |exact .inr rfl |assumption):wpAny M A (storeName X.env x u) Q E s:=by
 obtain⟨m,hn,hl⟩:=id I.loc
 have Vk:(X.env.scope.kind==.class ||(X.env.scope.kind==.module&&X.env.locals != X.env.globals))=false:=by rw[I.ok.kind];rfl
 have Rg:i<σ.length:=by rw[I.len];exact(List.getElem?_eq_some_iff.mp hi).1
 have Oc:=I.Oc
 have tracked:∀ {a:Addr} {h':Heap},(∃o,s.heap.get? a=some o/\H a=none)->Heap.SameBut a s.heap h'->rq X.prog X.w H h':=fun {a h'} ha hs b ob e=>by
  obtain⟨_,_,rG⟩:=ha
  refine(I.dU b ob e).ky (fun c w' hc q=>(hs.2 c ?_).trans q) (fun _ q=>q) fun _ _ q=>q
  rintro rfl
  rcases hc with rfl |hc
  ·rw[rG] at e;cases e
  ·rw[rG] at hc;cases hc
 rcases hx with hk |hk
 ·refine wpAny_storeName_local hk hn (fun h' Oe hs=>?_) Vk
  obtain⟨oL,_,_,Z7,_⟩:=id hn
  refine h _ ⟨I.ok,I.os,I.bare,⟨fun b o e n hb hx=>?_,fun b o e n hb hx=>?_,I.base.free,fun b o e hx=>?_,I.base.yO,I.base.xo,I.base.yP⟩,⟨_,Oe,fun j y v' e1 e2 e3=>?_⟩,fun y c e=>?_,I.free,I.nO,fun p hp=>?_,tracked ⟨oL,Z7,I.free⟩ hs,by simpa using I.len⟩ ⟨_,hs,.inl rfl⟩
  ·exact(hs.2 b (Nat.ne_of_lt (Nat.lt_of_lt_of_le (Heap.lt_size e) I.ok.above))).trans (I.base.keep b o e n hb hx)
  ·obtain⟨sl,e1⟩:=I.base.slot b o e n hb hx
   exact⟨sl,(hs.2 b (Nat.ne_of_lt (Nat.lt_of_lt_of_le (Heap.lt_size e) I.ok.above))).trans e1⟩
  ·obtain⟨o',e1⟩:=I.base.there b o e hx
   exact⟨o',(hs.2 b (Nat.ne_of_lt (Nat.lt_of_lt_of_le (Heap.lt_size e) I.ok.above))).trans e1⟩
  ·by_cases hj:j=i
   ·subst hj
    rw[hi] at e1;cases e1
    rw[List.getElem?_set_self Rg] at e2
    cases e2
    exact⟨u,r,.inl ⟨hk,by simp⟩⟩
   ·rw[List.getElem?_set_ne (Ne.symm hj)] at e2
    obtain⟨u',r',q⟩:=hl j y v' e1 e2 e3
    refine⟨u',r',?_⟩
    rcases q with ⟨k,e⟩ |⟨k,c,e,z⟩
    ·refine .inl ⟨k,?_⟩
     have:y≠x:=fun e=>hj (AD hN e1 (e▸hi))
     simp[this,e]
    ·exact .inr ⟨k,c,e,z.sameBut hs (Oc y c e)⟩
  ·obtain⟨w',z⟩:=I.cell y c e
   exact⟨w',z.sameBut hs (Oc y c e)⟩
  ·obtain⟨e,n,ne,nf,d⟩:=I.pin p hp
   exact⟨(hs.2 p.1 ne).trans e,n,ne,nf,d⟩
 ·have Rh:X.fn x=true:=by
   rcases hf with z |z
   ·exact z
   ·rw[z] at hk;cases hk
  obtain⟨c,hc⟩:=I.ok.has x (.inl hk)
  obtain⟨w',z⟩:=I.cell x c hc
  refine wpAny_storeName_cell I.ok.kind hk hc z (fun h' Ri hs=>?_)
  obtain⟨oc,Ym,Vl⟩:=id z
  refine h {s with heap:=h' } ⟨I.ok,I.os,I.bare,⟨fun b o e n hb hx=>?_,fun b o e n hb hx=>?_,I.base.free,fun b o e hx=>?_,I.base.yO,I.base.xo,I.base.yP⟩,⟨m,hn.sameBut hs (Ne.symm (Oc x c hc)),fun j y v' e1 e2 e3=>?_⟩,fun y c' e=>?_,I.free,I.nO,fun p hp=>?_,tracked ⟨oc,Ym,I.nO x c hc⟩ hs,by simpa using I.len⟩ ⟨c,hs,.inr hc⟩
  ·exact(hs.2 b (Nat.ne_of_lt (Nat.lt_of_lt_of_le (Heap.lt_size e) (I.ok.Rb x c Rh hc)))).trans (I.base.keep b o e n hb hx)
  ·obtain⟨sl,e1⟩:=I.base.slot b o e n hb hx
   exact⟨sl,(hs.2 b (Nat.ne_of_lt (Nat.lt_of_lt_of_le (Heap.lt_size e) (I.ok.Rb x c Rh hc)))).trans e1⟩
  ·obtain⟨o',e1⟩:=I.base.there b o e hx
   exact⟨o',(hs.2 b (Nat.ne_of_lt (Nat.lt_of_lt_of_le (Heap.lt_size e) (I.ok.Rb x c Rh hc)))).trans e1⟩
  ·by_cases hj:j=i
   ·subst hj
    rw[hi] at e1;cases e1
    rw[List.getElem?_set_self Rg] at e2
    cases e2
    exact⟨u,r,.inr ⟨.inl hk,c,hc,Ri⟩⟩
   ·rw[List.getElem?_set_ne (Ne.symm hj)] at e2
    obtain⟨u',r',q⟩:=hl j y v' e1 e2 e3
    refine⟨u',r',?_⟩
    rcases q with q |⟨k,c',e,z'⟩
    ·exact .inl q
    ·refine .inr ⟨k,c',e,z'.sameBut hs ?_⟩
     rintro rfl
     exact hj (AD hN e1 (I.ok.inj _ _ _ e hc▸hi))
  ·by_cases KG:c'=c
   ·subst KG;exact⟨_,Ri⟩
   ·obtain⟨w2,z2⟩:=I.cell y c' e
    exact⟨w2,z2.sameBut hs KG⟩
  ·obtain⟨e,n,ne,nf,d⟩:=I.pin p hp
   refine⟨(hs.2 p.1 ?_).trans e,n,ne,nf,d⟩
   intro q
   rw[q,Ym] at e
   have q':oc=p.2:=Option.some.inj e
   exact d w' (by rw[<- q'];exact Vl)
theorem AE{M:Model}{A:Around}{E:Value->Shared->Prop}{i:Nat}{x:Str}{v:V}{u:Value}{Q:Unit->Shared->Prop}(I:Inv X pins σ H s)(hN:X.N.Nodup)(hi:X.N[i]?=some x)(hx:Loc X.env.scope x)(r:RelV v u)
 (h:∀s',Inv X pins (σ.set i (some v)) H s'->Q () s') (hf:X.fn x=true\/X.env.scope.names.lookup x=some .local:=by first |exact .inl rfl |exact .inr rfl |assumption):wpAny M A (storeName X.env x u) Q E s:=
 xT I hN hi hx r (fun s' I' _=>h s' I') hf
theorem Inv.Rj{s':Shared}{ch:List Addr}(I:Inv X pins σ H s)(ho:s'.os=s.os)(u:Un (dO X.stack) ch H H' s.heap s'.heap)(dU:rq X.prog X.w H' s'.heap)(hg:AllBare s'.gens)
 (KD:∀b∈ch,(b∈X.ex\/X.s₀.heap.objs.size<=b)/\b≠X.env.locals/\(∀x c,X.env.cells.lookup x=some c->c≠b)/\∀p∈X.pn++pins,p.1≠b):Inv X pins σ H' s':=by
 obtain⟨h',g',d',t',o'⟩:=s'
 have e:o'=s.os:=ho
 subst e
 exact I.call (g':=g') (t':=t') (d':=d') u dU hg KD
end
abbrev XK:=Value->Option Addr->Hp->Prop
abbrev St:=List (Option V)
abbrev VK:=V->Hp->Prop
abbrev TE:=St->Hp->VK->Prop
abbrev TT:=St->Hp->(Bool->Hp->Prop)->Prop
abbrev TA:=St->Hp->(List V->Hp->Prop)->Prop
structure Ends where
 nx:St->Hp->Prop
 rt:VK
 bk:St->Hp->Prop:=fun _ _=>False
 ct:St->Hp->Prop:=fun _ _=>False
abbrev TS:=Ends->St->Hp->Prop
def EP (X:Cx) (pins:List (Addr×Obj)) (σ:St) (Q:VK) (u:Value) (s':Shared):Prop:=∃v H',Inv X pins σ H' s'/\RelV v u/\Q v H'
def TP (X:Cx) (pins:List (Addr×Obj)) (σ:St) (Q:Bool->Hp->Prop) (b:Bool) (s':Shared):Prop:=∃H',Inv X pins σ H' s'/\Q b H'
def AP (X:Cx) (pins:List (Addr×Obj)) (σ:St) (Q:List V->Hp->Prop) (us:List Value) (s':Shared):Prop:=∃vs H',Inv X pins σ H' s'/\Vals vs us/\Q vs H'
def SP (X:Cx) (pins:List (Addr×Obj)) (D:Ends) (f:Flow) (s':Shared):Prop:=
 match f with
 |.next=>∃σ' H',Inv X pins σ' H' s'/\D.nx σ' H'
 |.brk=>∃σ' H',Inv X pins σ' H' s'/\D.bk σ' H'
 |.cont=>∃σ' H',Inv X pins σ' H' s'/\D.ct σ' H'
 |.ret u=>∃v σ' H',Inv X pins σ' H' s'/\RelV v u/\D.rt v H'
def PE (X:Cx) (e:Expr) (t:TE):Prop:=
 ∀(pins:List (Addr×Obj)) (s:Shared) (σ:St) (H:Hp) (Q:VK),Inv X pins σ H s->t σ H Q->wpAny (model X.prog X.w) X.A (eval e X.env) (EP X pins σ Q) X.xe s
def PT (X:Cx) (e:Expr) (t:TT):Prop:=
 ∀(pins:List (Addr×Obj)) (s:Shared) (σ:St) (H:Hp) (Q:Bool->Hp->Prop),Inv X pins σ H s->t σ H Q->wpAny (model X.prog X.w) X.A (isTrue e X.env (eval e X.env)) (TP X pins σ Q) X.xe s
def PW (X:Cx) (e:Expr) (t:TT):Prop:=
 ∀(whole:Sem Value) (pins:List (Addr×Obj)) (s:Shared) (σ:St) (H:Hp) (Q:Bool->Hp->Prop),Inv X pins σ H s->t σ H Q->wpAny (model X.prog X.w) X.A (isTrue e X.env whole) (TP X pins σ Q) X.xe s
theorem PW.pt{X:Cx}{e:Expr}{t:TT}(h:PW X e t):PT X e t:=h _
def PA (X:Cx) (es:List Expr) (t:TA):Prop:=
 ∀(pos:Pos) (pins:List (Addr×Obj)) (s:Shared) (σ:St) (H:Hp) (Q:List V->Hp->Prop),Inv X pins σ H s->t σ H Q->wpAny (model X.prog X.w) X.A (spliced (backTo pos (starEach es X.env))) (AP X pins σ Q) X.xe s
def PS (X:Cx) (st:Stmt) (t:TS):Prop:=
 ∀(pins:List (Addr×Obj)) (s:Shared) (σ:St) (H:Hp) (D:Ends),Inv X pins σ H s->t D σ H->wpAny (model X.prog X.w) X.A (exec st X.env) (SP X pins D) X.xe s
def DO (X:Cx) (st:List Stmt) (t:TS):Prop:=
 ∀(pins:List (Addr×Obj)) (s:Shared) (σ:St) (H:Hp) (D:Ends),Inv X pins σ H s->t D σ H->wpAny (model X.prog X.w) X.A (execs st X.env) (SP X pins D) X.xe s
theorem fA{α:Type}{t:Sem α}{Q Q':α->Shared->Prop}{M:Model}{A:Around}{E:Value->Shared->Prop}{s:Shared}(h:wpAny M A t Q E s)(hQ:∀a s,Q a s->Q' a s):wpAny M A t Q' E s:=wpAny_mono h hQ fun _ _ x=>x
end L2
namespace L2
open PySem PySem.Spec PyProof.Rows
section
variable{X:Cx}
theorem bin{a b:Expr}{ta tb:TE}(ha:PE X a ta)(hb:PE X b tb){pins:List (Addr×Obj)}{s:Shared}{σ:St}{H:Hp}{R:V->V->Hp->Prop}(I:Inv X pins σ H s)(h:ta σ H fun x H1=>tb σ H1 fun y H2=>R x y H2)
 {α:Type} {Q:α->Shared->Prop} {f:Value->Value->Sem α}
 (hf:∀v u s2 x y H2,Inv X pins σ H2 s2->RelV x v->RelV y u->R x y H2->wpAny (model X.prog X.w) X.A (f v u) Q X.xe s2) :
 wpAny (model X.prog X.w) X.A (eval a X.env) (fun v s₁=>wpAny (model X.prog X.w) X.A (eval b X.env) (fun u s₂=>wpAny (model X.prog X.w) X.A (f v u) Q X.xe s₂) X.xe s₁) X.xe s:=by
 refine fA (ha pins s σ H _ I h) fun v s1 zqz=>?_
 obtain⟨x,H1,I1,r1,q1⟩:=zqz
 refine fA (hb pins s1 σ H1 _ I1 q1) fun u s2 zqz=>?_
 obtain⟨y,H2,I2,r2,q2⟩:=zqz
 exact hf v u s2 x y H2 I2 r1 r2 q2
def Yn (Q:V->Prop):Option (Option V)->Prop
 |some (some v)=>Q v
 |_=>False
theorem Of{Q:V->Prop}:∀ {o:Option (Option V)},Yn Q o->∃v,o=some (some v)/\Q v
 |some (some v),h=>⟨v,rfl,h⟩
 |some none,h=>h.elim
 |none,h=>h.elim
def g9 (i:Nat):TE:=fun σ H Q=>Yn (fun v=>Q v H) σ[i]?
def tC (v:V):TE:=fun _ H Q=>Q v H
theorem Og{i:Nat}{x:Str}{pos:Pos}(hN:X.N[i]?=some x)(hv:Ub X.env.scope x)(hd:(x==("__debug__":Str))=false:=by decide)(G6:(x==("__classdict__":Str))=false:=by decide):PE X (.Name x pos) (g9 i):=by
 intro pins s σ H Q I h
 obtain⟨v,e,h⟩:=Of h
 obtain⟨m,hn,hl⟩:=I.loc
 obtain⟨u,r,l⟩:=hl i x v hN e hv
 have fin:EP X pins σ Q u s:=⟨v,H,I,r,h⟩
 rcases l with ⟨hk,hm⟩ |⟨hk,c,hc,DP⟩
 ·exact wpAny_Name (wpAny_loadName_local I.ok.kind hk hn hm fin) hd
 ·rcases hk with hk |hk
  ·exact wpAny_Name (wpAny_loadName_cell I.ok.kind hk hc DP fin) hd
  ·exact wpAny_Name (wpAny_loadName_free I.ok.kind hk hc DP fin G6) hd
theorem aj{i j pos}:PE X (.Constant (.int i) j pos) (tC (.int i)):=fun _ _ _ H _ I h=>wpAny_Constant_int ⟨.int i,H,I.tok _,⟨_,rfl⟩,h⟩
theorem uN{b j pos}:PE X (.Constant (.bool b) j pos) (tC (.bl b)):=fun _ _ _ H _ I h=>Constant_bool ⟨.bl b,H,I,rfl,h⟩
theorem eM{j pos}:PE X (.Constant .none j pos) (tC .ck):=fun _ _ _ H _ I h=>Constant_none ⟨.ck,H,I,rfl,h⟩
theorem aV{x j pos}:PE X (.Constant (.str x) j pos) (tC (.str x)):=fun _ _ _ H _ I h=>Calls.Constant_str ⟨.str x,H,I.tok _,⟨_,rfl⟩,h⟩
def Gl (X:Cx) (x:Str):Prop:=X.env.kindOf x=some .globalImplicit
theorem yS{E:Value->Shared->Prop}{pins:List (Addr×Obj)}{s:Shared}{σ:St}{H:Hp}{x:Str}{u:Value}{pos:Pos}{Q:Value->Shared->Prop}(I:Inv X pins σ H s)(hg:Gl X x)(hm:X.mg x=some u)(h:Q u s)
 (hd:(x==("__debug__":Str))=false:=by decide):wpAny (model X.prog X.w) X.A (eval (.Name x pos) X.env) Q E s:=
 Calls.Name_function_global I.ok.kind hg (Calls.loadGlobal_global (by rw[I.ok.glob];exact I.mod.glob.keeps I.bk) hm h) hd
theorem qG{E:Value->Shared->Prop}{pins:List (Addr×Obj)}{s:Shared}{σ:St}{H:Hp}{x:Str}{u:Value}{pos:Pos}{Q:Value->Shared->Prop}(I:Inv X pins σ H s)(hg:Gl X x)(hm:X.mg x=none)(hv:bootBuiltins x=some u)(h:Q u s)
 (hn:x≠"__name__":=by decide) (hd:(x==("__debug__":Str))=false:=by decide):wpAny (model X.prog X.w) X.A (eval (.Name x pos) X.env) Q E s:=by
 obtain⟨mb,h1,h2⟩:=I.mod.blt
 exact Calls.Name_function_global I.ok.kind hg (Calls.loadGlobal_builtin (by rw[I.ok.glob];exact I.mod.glob.keeps I.bk) hm (by rw[I.ok.blt];exact h1.keeps I.bk) ((h2 x hn).trans hv) h) hd
theorem rH{x:Str}{v:V}{u:Value}{pos:Pos}(hg:Gl X x)(hm:X.mg x=some u)(r:RelV v u)(hd:(x==("__debug__":Str))=false:=by decide):PE X (.Name x pos) (tC v):=
 fun _ _ _ H _ I h=>yS I hg hm ⟨v,H,I,r,h⟩ hd
theorem Ld{x:Str}{v:V}{u:Value}{pos:Pos}(hg:Gl X x)(hm:X.mg x=none)(hv:bootBuiltins x=some u)(r:RelV v u)(hn:x≠"__name__":=by decide)(hd:(x==("__debug__":Str))=false:=by decide):PE X (.Name x pos) (tC v):=
 fun _ _ _ H _ I h=>qG I hg hm hv ⟨v,H,I,r,h⟩ hn hd
variable{a b:Expr}{ta tb:TE}{pos:Pos}
def tB (t:TE):TT:=fun σ H Q=>t σ H fun x H1=>∃c,x=.bl c/\Q c H1
theorem mw{e:Expr}{t:TE}(h:PE X e t)(he:∀whole,isTrue e X.env whole=(do let v <- whole;standAt e.pos;holding [v] (truthy v)):=by intro _;rfl):PT X e (tB t):=by
 intro pins s σ H Q I hw
 refine isTrue_plain (fA (h pins s σ H _ I hw) fun v s1 zqz=>?_) (he _)
 obtain⟨x,H1,I1,r1,q1⟩:=zqz
 obtain⟨d,rfl,q⟩:=q1
 cases r1
 exact wpAny_truthy_bool ⟨H1,I1,q⟩
variable{tA Rk:TT}{rest:List Expr}
def Oh (t u:TT):TT:=fun σ H Q=>t σ H fun c H1=>if c=true then u σ H1 Q else Q false H1
def Vm (t u:TT):TT:=fun σ H Q=>t σ H fun c H1=>if c=true then Q true H1 else u σ H1 Q
def Rl (t:TT):TT:=fun σ H Q=>t σ H fun c H1=>Q (!c) H1
theorem pw_and1(ha:PT X a tA):PW X (.BoolOp .And [a] pos) tA:=by
 intro wh pins s σ H Q I h
 refine isTrue_and (fA (ha pins s σ H Q I h) fun c s1 e=>?_)
 cases c with
 |true=>exact isTrue_and_nil e
 |false=>exact e
theorem pw_or1(ha:PT X a tA):PW X (.BoolOp .Or [a] pos) tA:=by
 intro wh pins s σ H Q I h
 refine isTrue_or (fA (ha pins s σ H Q I h) fun c s1 e=>?_)
 cases c with
 |false=>exact isTrue_or_nil e
 |true=>exact e
theorem pw_and(ha:PT X a tA)(hb:PW X (.BoolOp .And (b::rest) pos) Rk):PW X (.BoolOp .And (a::b::rest) pos) (Oh tA Rk):=by
 intro wh pins s σ H Q I h
 refine isTrue_and (fA (ha pins s σ H _ I h) fun c s1 zqz=>?_)
 obtain⟨H1,I1,q1⟩:=zqz
 cases c with
 |true=>exact hb wh pins s1 σ H1 Q I1 q1
 |false=>exact⟨H1,I1,q1⟩
theorem pw_or(ha:PT X a tA)(hb:PW X (.BoolOp .Or (b::rest) pos) Rk):PW X (.BoolOp .Or (a::b::rest) pos) (Vm tA Rk):=by
 intro wh pins s σ H Q I h
 refine isTrue_or (fA (ha pins s σ H _ I h) fun c s1 zqz=>?_)
 obtain⟨H1,I1,q1⟩:=zqz
 cases c with
 |true=>exact⟨H1,I1,q1⟩
 |false=>exact hb wh pins s1 σ H1 Q I1 q1
theorem Cf(ha:PT X a tA):PT X (.UnaryOp .Not a pos) (Rl tA):=by
 intro pins s σ H Q I h
 exact isTrue_not (ha pins s σ H (fun c H1=>Q (!c) H1) I h)
def G7 (ta tb:TE):TE:=fun σ H Q=>ta σ H fun x H1=>∃c,x=.bl c/\if c=true then tb σ H1 Q else Q (.bl false) H1
def Oi (ta tb:TE):TE:=fun σ H Q=>ta σ H fun x H1=>∃c,x=.bl c/\if c=true then Q (.bl true) H1 else tb σ H1 Q
def M5 (ta:TE):TE:=fun σ H Q=>ta σ H fun x H1=>∃c,x=.bl c/\Q (.bl (!c)) H1
theorem yT{op}{t:TE}(h:PE X a t):PE X (.BoolOp op [a] pos) t:=fun pins s σ H Q I hw=>BoolOp_one (h pins s σ H Q I hw)
theorem Cg(ha:PE X a ta)(hb:PE X (.BoolOp .And (b::rest) pos) tb):PE X (.BoolOp .And (a::b::rest) pos) (G7 ta tb):=by
 intro pins s σ H Q I h
 refine BoolOp_and (fA (ha pins s σ H _ I h) fun v s1 zqz=>?_)
 obtain⟨x,H1,I1,r1,q1⟩:=zqz
 obtain⟨c,rfl,q1⟩:=q1
 cases r1
 refine wpAny_truthy_bool ?_
 cases c with
 |true=>exact hb pins s1 σ H1 Q I1 q1
 |false=>exact⟨.bl false,H1,I1,rfl,q1⟩
theorem Rm(ha:PE X a ta)(hb:PE X (.BoolOp .Or (b::rest) pos) tb):PE X (.BoolOp .Or (a::b::rest) pos) (Oi ta tb):=by
 intro pins s σ H Q I h
 refine BoolOp_or (fA (ha pins s σ H _ I h) fun v s1 zqz=>?_)
 obtain⟨x,H1,I1,r1,q1⟩:=zqz
 obtain⟨c,rfl,q1⟩:=q1
 cases r1
 refine wpAny_truthy_bool ?_
 cases c with
 |false=>exact hb pins s1 σ H1 Q I1 q1
 |true=>exact⟨.bl true,H1,I1,rfl,q1⟩
def Yo (t:TT) (ta tb:TE):TE:=fun σ H Q=>t σ H fun c H1=>if c=true then ta σ H1 Q else tb σ H1 Q
end
end L2
namespace L2
open PySem PySem.Spec PyProof.Rows
def il (K:PySem.W.Frag) (H:Hp) (a:Addr) (xs:List V):Prop:=
 Rd H a (.lst xs)\/
  ∃(o:Obj) (bA:Array Value) (n:Nat),K.lookup a=some o/\o.cls=.type "list"/\o.dict=none/\o.data=.seq bA n/\bA.size<=sizeLine/\Vals xs bA.toList
def c5 (K:PySem.W.Frag) (H:Hp) (a:Addr) (xs:List V):Prop:=
 Rd H a (.tup xs)\/
  ∃(o:Obj) (bA:Array Value) (n:Nat),K.lookup a=some o/\o.cls=.type "tuple"/\o.data=.seq bA n/\bA.size<=sizeLine/\Vals xs bA.toList
def Vn:Value->Option V
 |.none=>some .ck
 |.bool b=>some (.bl b)
 |.int i _=>some (.int i)
 |.str x _=>some (.str x)
 |.bytes b _=>some (.DL b)
 |.float b _=>some (.N9 b)
 |.ref a=>some (.ref a)
 |.type n=>some (.ty n)
 |_=>none
theorem RelV.abs{x:V}{u:Value}(r:RelV x u):Vn u=some x:=by
 cases x with
 |ck=>cases r;rfl
 |bl _=>cases r;rfl
 |int _=>obtain⟨t,rfl⟩:=r;rfl
 |str _=>obtain⟨t,rfl⟩:=r;rfl
 |DL _=>obtain⟨t,rfl⟩:=r;rfl
 |N9 _=>obtain⟨t,rfl⟩:=r;rfl
 |ref _=>cases r;rfl
 |ty _=>cases r;rfl
theorem RelV.inj{x y:V}{u:Value}(r:RelV x u)(q:RelV y u):x=y:=Option.some.inj (r.abs.symm.trans q.abs)
theorem Vals.inj:∀ {xs ys:List V} {us:List Value},Vals xs us->Vals ys us->xs=ys
 |_,_,_,.nil,.nil=>rfl
 |_,_,_,.cons r t,.cons r' t'=>by rw[r.inj r',Vals.inj t t']
section
variable{X:Cx}{pins:List (Addr×Obj)}{σ:St}{H:Hp}{s:Shared}{a:Addr}{xs ys:List V}
theorem il.of{K:PySem.W.Frag}(h:H a=some (.lst xs)):il K H a xs:=.inl (.inl h)
theorem c5.of{K:PySem.W.Frag}(h:H a=some (.tup xs)):c5 K H a xs:=.inl (.inl h)
theorem Inv.list(I:Inv X pins σ H s)(h:il X.K H a xs):∃bA:List Value,Vals xs bA/\PlainL s.heap a bA.toArray/\xs.length<=sizeLine:=by
 rcases h with h |⟨o,bA,n,hk,hc,hd,hs,hz,r⟩
 ·obtain⟨z,bA,n,r,e⟩:=h.ok I.dU
  exact⟨bA,r,⟨_,n,e,rfl,rfl,rfl⟩,z⟩
 ·refine⟨bA.toList,r,⟨o,n,I.vw a o hk,hc,hd,by simpa using hs⟩,?_⟩
  have e:=r.length
  simp only[Array.length_toList] at e
  lia
theorem Inv.tuple(I:Inv X pins σ H s)(h:c5 X.K H a xs):∃bA:List Value,Vals xs bA/\IsTup s.heap a bA.toArray/\xs.length<=sizeLine:=by
 rcases h with h |⟨o,bA,n,hk,hc,hs,hz,r⟩
 ·obtain⟨z,bA,r,p⟩:=h.ok I.dU
  exact⟨bA,r,p,z⟩
 ·refine⟨bA.toList,r,⟨o,I.vw a o hk,hc,n,by simpa using hs⟩,?_⟩
  have e:=r.length
  simp only[Array.length_toList] at e
  lia
theorem Inv.AF(I:Inv X pins σ H s)(h:il X.K H a xs)(h':il X.K H a ys):xs=ys:=by
 obtain⟨bA,r,⟨o,n,e,_,_,d⟩,_⟩:=I.list h
 obtain⟨its',r',⟨o',n',e',_,_,d'⟩,_⟩:=I.list h'
 rw[e] at e';cases e'
 rw[d] at d'
 injection d' with d1 _
 have:bA=its':=by simpa using congrArg Array.toList d1
 subst this
 exact r.inj r'
theorem Inv.Fl(I:Inv X pins σ H s)(h:c5 X.K H a xs)(h':c5 X.K H a ys):xs=ys:=by
 obtain⟨bA,r,⟨o,e,_,n,d⟩,_⟩:=I.tuple h
 obtain⟨its',r',⟨o',e',_,n',d'⟩,_⟩:=I.tuple h'
 rw[e] at e';cases e'
 rw[d] at d'
 injection d' with d1 _
 have:bA=its':=by simpa using congrArg Array.toList d1
 subst this
 exact r.inj r'
end
abbrev Cx.xp (X:Cx) (E:Value->Shared->Prop):Cx:={X with xe:=E}
abbrev Cx.Rn (X:Cx):Cx:=X.xp fun _ _=>False
theorem Cx.Ok.xp{X:Cx}(ok:X.Ok)(E:Value->Shared->Prop):(X.xp E).Ok:=
 ⟨ok.mod,ok.kind,ok.glob,ok.blt,ok.above,ok.inj,ok.has,ok.Rb,ok.hd,ok.frames,ok.Uc,ok.Yk,ok.bs,ok.Cd,ok.G5,ok.Lc,ok.vd,ok.Ob⟩
theorem Cx.Ok.nP{X:Cx}{E:Value->Shared->Prop}(ok:(X.xp E).Ok):X.Ok:=
 ⟨ok.mod,ok.kind,ok.glob,ok.blt,ok.above,ok.inj,ok.has,ok.Rb,ok.hd,ok.frames,ok.Uc,ok.Yk,ok.bs,ok.Cd,ok.G5,ok.Lc,ok.vd,ok.Ob⟩
section
variable{X:Cx}{pins:List (Addr×Obj)}{σ:St}{H:Hp}{s:Shared}{E:Value->Shared->Prop}
theorem Inv.xp(I:Inv X pins σ H s)(E:Value->Shared->Prop):Inv (X.xp E) pins σ H s:=⟨I.ok.xp E,I.os,I.bare,I.base,I.loc,I.cell,I.free,I.nO,I.pin,I.dU,I.len⟩
theorem Inv.nP(I:Inv (X.xp E) pins σ H s):Inv X pins σ H s:=⟨I.ok.nP,I.os,I.bare,I.base,I.loc,I.cell,I.free,I.nO,I.pin,I.dU,I.len⟩
theorem SP.nP{D:Ends}{f:Flow}{s':Shared}(h:SP (X.xp E) pins D f s'):SP X pins D f s':=by
 cases f with
 |next=>obtain⟨σ',H',I,q⟩:=h;exact⟨σ',H',I.nP,q⟩
 |brk=>obtain⟨σ',H',I,q⟩:=h;exact⟨σ',H',I.nP,q⟩
 |cont=>obtain⟨σ',H',I,q⟩:=h;exact⟨σ',H',I.nP,q⟩
 |ret u=>obtain⟨v,σ',H',I,r,q⟩:=h;exact⟨v,σ',H',I.nP,r,q⟩
theorem DO.Rn{st:List Stmt}{t:TS}(h:DO X.Rn st t):DO X st t:=fun pins s σ H D I hw=>
 wpAny_mono (h pins s σ H D (I.xp _) hw) (fun _ _ q=>q.nP) fun _ _ z=>False.elim z
end
section
variable{X:Cx}{st:Stmt}{rest:List Stmt}{t u:TS}{e:Expr}{te:TE}{pos:Pos}
def G8:TS:=fun D σ H=>D.nx σ H
def Le (t u:TS):TS:=fun D σ H=>t {D with nx:=u D} σ H
theorem a9:DO X [] G8:=fun _ _ σ H _ I h=>wpAny_execs_nil ⟨σ,H,I,h⟩
theorem ae(h1:PS X st t)(h2:DO X rest u):DO X (st::rest) (Le t u):=by
 intro pins s σ H D I h
 refine wpAny_execs_cons (fA (h1 pins s σ H {D with nx:=u D} I h) fun f s1 q=>?_)
 cases f with
 |next=>
  obtain⟨σ',H',I',q⟩:=q
  exact h2 pins s1 σ' H' D I' q
 |ret v=>exact q
 |brk=>exact q
 |cont=>exact q
theorem aq(h1:PS X st t):DO X [st] t:=by
 intro pins s σ H D I h
 refine wpAny_execs_cons (fA (h1 pins s σ H D I h) fun f s1 q=>?_)
 cases f with
 |next=>exact wpAny_execs_nil q
 |ret v=>exact q
 |brk=>exact q
 |cont=>exact q
def G9:TS:=fun D σ H=>D.bk σ H
def M6:TS:=fun D σ H=>D.ct σ H
theorem Inv.quiet{pins:List (Addr×Obj)}{σ:St}{H:Hp}{s:Shared}(I:Inv X pins σ H s):interactive X.env=false:=by simp[interactive,I.ok.kind]
def Ha (te:TE):TS:=fun D σ H=>te σ H fun _ H1=>D.nx σ H1
theorem bX(he:PE X e te)(hs:swapsWith e none pos.line X.env=pure false:=by rfl):PS X (.Expr e pos) (Ha te):=by
 intro pins s σ H D I h
 refine wpAny_Expr_any (fA (he pins s σ H _ I h) fun v s1 zqz=>?_) I.quiet hs
 obtain⟨x,H1,I1,r1,q1⟩:=zqz
 exact ⟨σ,H1,I1,q1⟩
def Oj (te:TE):TS:=fun D σ H=>te σ H D.rt
theorem aU(he:PE X e te):PS X (.Return (some e) pos) (Oj te):=by
 intro pins s σ H D I h
 refine wpAny_Return_some (fA (he pins s σ H _ I h) fun v s1 zqz=>?_)
 obtain⟨x,H1,I1,r1,q1⟩:=zqz
 exact ⟨x,σ,H1,I1,r1,q1⟩
def M7:TS:=fun D _ H=>D.rt .ck H
def Fm (c:TT) (t u:TS):TS:=fun D σ H=>c σ H fun b H1=>if b=true then t D σ H1 else u D σ H1
theorem bw{c:Expr}{a b:List Stmt}{tc:TT}(hc:PT X c tc)(ha:DO X a t)(hb:DO X b u):PS X (.If c a b pos) (Fm tc t u):=by
 intro pins s σ H D I h
 refine wpAny_If (fA (hc pins s σ H _ I h) fun d s1 zqz=>?_)
 obtain⟨H1,I1,q1⟩:=zqz
 cases d with
 |true=>exact ha pins s1 σ H1 D I1 q1
 |false=>exact hb pins s1 σ H1 D I1 q1
end
abbrev TG:=V->St->Hp->(St->Hp->Prop)->Prop
abbrev Lf:=List V->St->Hp->(St->Hp->Prop)->Prop
def PG (X:Cx) (target:Expr) (t:TG):Prop:=
 ∀(pins:List (Addr×Obj)) (s:Shared) (σ:St) (H:Hp) (v:V) (u:Value) (Q:St->Hp->Prop),Inv X pins σ H s->RelV v u->t v σ H Q->
  wpAny (model X.prog X.w) X.A (assign target X.env u) (fun _ s'=>∃σ' H',Inv X pins σ' H' s'/\Q σ' H') X.xe s
def Ro (X:Cx) (ts:List Expr) (t:Lf):Prop:=
 ∀(pins:List (Addr×Obj)) (s:Shared) (σ:St) (H:Hp) (vs:List V) (us:List Value) (Q:St->Hp->Prop),Inv X pins σ H s->Vals vs us->t vs σ H Q->
  wpAny (model X.prog X.w) X.A (assignInOrder ((assignEach ts X.env).map (·.2)) us) (fun _ s'=>∃σ' H',Inv X pins σ' H' s'/\Q σ' H') X.xe s
abbrev Ol:=V->V->V->Hp->(Hp->Prop)->Prop
def Rp (X:Cx) (t:Ol):Prop:=
 ∀(pins:List (Addr×Obj)) (s:Shared) (σ:St) (H:Hp) (o i v:V) (ov iv u:Value) (Q:Hp->Prop),Inv X pins σ H s->RelV o ov->RelV i iv->RelV v u->t o i v H Q->
  wpAny (model X.prog X.w) X.A (setItem ov iv u) (fun _ s'=>∃H',Inv X pins σ H' s'/\Q H') X.xe s
abbrev Z8:=V->V->Hp->VK->Prop
section
variable{X:Cx}{pos:Pos}
def fC (i:Nat):TG:=fun v σ H Q=>Q (σ.set i (some v)) H
theorem bu{i:Nat}{x:Str}(hN:X.N.Nodup)(hi:X.N[i]?=some x)(hx:Loc X.env.scope x)(hf:X.fn x=true\/X.env.scope.names.lookup x=some .local:=by first |exact .inl rfl |exact .inr rfl |assumption):PG X (.Name x pos) (fC i):=by
 intro pins s σ H v u Q I r h
 exact wpAny_assign_Name (AE I hN hi hx r (fun s' I'=>⟨_,H,I',h⟩) hf)
def Om:Lf:=fun vs σ H Q=>vs=[]/\Q σ H
def Hb (t:TG) (u:Lf):Lf:=fun vs σ H Q=>∃v r,vs=v::r/\t v σ H fun σ' H'=>u r σ' H' Q
theorem pz:Ro X [] Om:=by
 intro pins s σ H vs us Q I r h
 obtain⟨e,h⟩:=h
 subst e
 cases r
 exact assignInOrder_nil ⟨σ,H,I,h⟩
theorem c6{e:Expr}{es:List Expr}{t:TG}{u:Lf}(h1:PG X e t)(h2:Ro X es u)
 (hs:(assignEach (e::es) X.env).map (·.2)=assign e X.env::(assignEach es X.env).map (·.2):=by rfl):Ro X (e::es) (Hb t u):=by
 intro pins s σ H vs us Q I r h
 obtain⟨v,vr,e1,h⟩:=h
 subst e1
 cases r with
 |cons r rr=>
  rw[hs]
  refine assignInOrder_cons (fA (h1 pins s σ H _ _ _ I r h) fun _ s1 zqz=>?_)
  obtain⟨σ1,H1,I1,q1⟩:=zqz
  exact h2 pins s1 σ1 H1 _ _ Q I1 rr q1
def Oq (K:PySem.W.Frag) (n:Nat) (t:Lf):TG:=fun v σ H Q=>∃a xs,v=.ref a/\c5 K H a xs/\xs.length=n/\t xs σ H Q
theorem Hc{es:List Expr}{k:Nat}{t:Lf}{n:Nat}(hc:X.calm=true)(h:Ro X es t)
 (hn:(assignEach es X.env).length=n:=by rfl) (KI:(assignEach es X.env).findIdx? (·.1)=none:=by rfl):PG X (.Tuple es k pos) (Oq X.K n t):=by
 intro pins s σ H v u Q I r hw
 obtain⟨a,xs,e1,hq,hl,hw⟩:=hw
 subst e1
 cases r
 obtain⟨bA,rv,ht,hz⟩:=I.tuple hq
 refine assign_Tuple_tuple (I.ok.hd hc) ht (by simp[hn,<- hl,rv.length]) KI fun h' hx=>?_
 have I1:Inv X pins σ H {s with heap:=h' }:=I.kept (t':=s.toks) fun b o e=>hx b o (Nat.ne_of_lt (Heap.lt_size e)) e
 exact h pins _ σ H xs _ Q I1 (by simpa using rv) hw
def Ot (to ti:TE) (t:Ol):TG:=fun v σ H Q=>to σ H fun o H1=>ti σ H1 fun i H2=>t o i v H2 fun H3=>Q σ H3
theorem Ci{o i:Expr}{to ti:TE}{t:Ol}(ho:PE X o to)(hi:PE X i ti)(hs:Rp X t)
 (ha:∀v,assign (.Subscript o i pos) X.env v=(do
  let ov <- holding [v] (eval o X.env)
  let iv <- holding [v,ov] (eval i X.env)
  standAt pos
  holding [v,ov,iv] (setItem ov iv v)
  release [v,ov,iv] []):=by intro _;rfl):PG X (.Subscript o i pos) (Ot to ti t):=by
 intro pins s σ H v u Q I r h
 rw[ha]
 refine wpAny_bind (wpAny_holding (fA (ho pins s σ H _ I h) fun ov s1 zqz=>?_))
 obtain⟨x,H1,I1,r1,q1⟩:=zqz
 refine wpAny_bind (wpAny_holding (fA (hi pins s1 σ H1 _ I1 q1) fun iv s2 zqz=>?_))
 obtain⟨y,H2,I2,r2,q2⟩:=zqz
 refine wpAny_bind (wpAny_standAt (wpAny_bind (wpAny_holding (fA (hs pins s2 σ H2 x y v ov iv u _ I2 r1 r2 r q2) fun _ s3 zqz=>?_))))
 obtain⟨H3,I3,q3⟩:=zqz
 exact wpAny_release ⟨σ,H3,I3,q3⟩
def Hd (te:TE) (g:TG):TS:=fun D σ H=>te σ H fun x H1=>g x σ H1 D.nx
theorem qH{tg e:Expr}{te:TE}{g:TG}(he:PE X e te)(hg:PG X tg g)(hs:swapsWithSole [tg] e pos.line X.env=pure false:=by rfl)(hw:swappedStores [tg] e X.env=pure none:=by rfl)
 (h1:(assignEach [tg] X.env).map (·.2)=[assign tg X.env]:=by rfl):PS X (.Assign [tg] e pos) (Hd te g):=by
 intro pins s σ H D I h
 refine wpAny_Assign_stores (fA (he pins s σ H _ I h) fun v s1 zqz=>?_) hs hw
 obtain⟨x,H1,I1,r1,q1⟩:=zqz
 rw[h1]
 exact fA (hg pins s1 σ H1 x v _ I1 r1 q1) fun _ s2 q=>q
theorem aL{i:Nat}{x:Str}{e:Expr}{te:TE}{pos':Pos}(hN:X.N.Nodup)(hi:X.N[i]?=some x)(hx:Loc X.env.scope x)(he:PE X e te)(hs:swapsWith e (some (.Name x pos')) pos.line X.env=pure false:=by rfl)(hf:X.fn x=true\/X.env.scope.names.lookup x=some .local:=by first |exact .inl rfl |exact .inr rfl |assumption) :
 PS X (.Assign [.Name x pos'] e pos) (Hd te (fC i)):=by
 intro pins s σ H D I h
 refine wpAny_Assign_Name (fA (he pins s σ H _ I h) fun v s1 zqz=>?_) hs
 obtain⟨y,H1,I1,r1,q1⟩:=zqz
 exact AE I1 hN hi hx r1 (fun s2 I2=>⟨_,H1,I2,q1⟩) hf
def Rq (i:Nat) (te:TE) (ti:Z8):TS:=fun D σ H=>∃x,σ[i]?=some (some x)/\te σ H fun y H1=>ti x y H1 fun z H2=>D.nx (σ.set i (some z)) H2
end
section
variable{X:Cx}{pos:Pos}
def Cj (c:TT) (tb:TS):TS:=fun D σ H=>∃W:Nat->St->Hp->Prop,(∃m,W m σ H)/\∀m σ H,W m σ H->
 c σ H fun b H1=>if b=true then ∃N:St->Hp->Prop,(∀σ' H',N σ' H'->∃m',m'<m/\W m' σ' H')/\tb {D with nx:=N,ct:=N,bk:=D.nx} σ H1 else D.nx σ H1
theorem nQ{c:Expr}{body:List Stmt}{tc:TT}{tb:TS}(hp:PassesOwn (model X.prog X.w) X.A X.env X.xe)(hc:PT X c tc)(hb:DO X body tb):PS X (.While c body [] pos) (Cj tc tb):=by
 intro pins s σ H D I h
 obtain⟨W,⟨m0,w0⟩,turn⟩:=h
 refine wpAny_While (codeAny_whileLoop (fun n s'=>∃σ' H',Inv X pins σ' H' s'/\W n σ' H') ?_ m0 ⟨σ,H,I,w0⟩)
 rintro n s1 ⟨σ1,H1,I1,w1⟩
 refine wpAny_passesOwn hp (fA (hc pins s1 σ1 H1 _ I1 (turn n σ1 H1 w1)) fun b s2 zqz=>?_)
 obtain⟨H2,I2,q2⟩:=zqz
 cases b with
 |true=>
  obtain⟨N,hN,q2⟩:=q2
  rw[if_pos rfl]
  refine wpAny_passesOwn hp (fA (hb pins s2 σ1 H2 _ I2 q2) fun f s3 q3=>?_)
  cases f with
  |next=>
   obtain⟨σ3,H3,I3,n3⟩:=q3
   obtain⟨m',hm,w3⟩:=hN σ3 H3 n3
   exact⟨m',hm,σ3,H3,I3,w3⟩
  |cont=>
   obtain⟨σ3,H3,I3,n3⟩:=q3
   obtain⟨m',hm,w3⟩:=hN σ3 H3 n3
   exact⟨m',hm,σ3,H3,I3,w3⟩
  |brk=>exact q3
  |ret v=>exact q3
 |false=>
  rw[if_neg Bool.false_ne_true]
  exact wpAny_execs_nil ⟨σ1,H2,I2,q2⟩
end
structure It where
 go:Nat->Hp->Prop
 KJ:Nat->Hp->V->Hp->Prop
 stop:Nat->Hp->Prop
def rJ (X:Cx) (pins:List (Addr×Obj)) (H:Hp) (b:Addr):Prop:=
 H b=none/\b≠X.env.locals/\b ∉ X.fs/\(b∈X.ex\/X.s₀.heap.objs.size<=b)/\(∀x c,X.env.cells.lookup x=some c->c≠b)/\∀p∈X.pn++pins,p.1≠b
theorem Inv.He{X:Cx}{pins:List (Addr×Obj)}{σ:St}{H H':Hp}{s:Shared}{b:Addr}(I:Inv X pins σ H s)(hb:s.heap.objs.size<=b)(hn:H' b=none):rJ X pins H' b:=by
 refine⟨hn,Nat.ne_of_gt (Nat.lt_of_lt_of_le I.lt hb),I.Vh hb,.inr (Nat.le_trans I.sz hb),fun x c e z=>?_,fun p hp z=>?_⟩
 ·obtain⟨v,q⟩:=I.cell x c e
  exact absurd (Nat.lt_of_lt_of_le q.lt (by rw[z];exact hb)) (Nat.lt_irrefl _)
 ·exact absurd (Nat.lt_of_lt_of_le (Heap.lt_size (I.pin p hp).1) (by rw[z];exact hb)) (Nat.lt_irrefl _)
structure Turn(P:Program)(w:World)(K:PySem.W.Frag)(tg:Expr)(J:It)(fp:List Addr)(it:Addr)(tn:Nat->Heap->Prop):Prop where
 mem:it∈fp
 obj:∀i h,tn i h->∀b∈fp,∃o,h.get? b=some o/\∀v,o.data≠.cell v
 keep:∀i h h',tn i h->(∀b∈fp,∀o,h.get? b=some o->h'.get? b=some o)->tn i h'
 item:∀(X:Cx),X.prog=P->X.w=w->X.K=K->X.calm=true->∀(i:Nat) (pins:List (Addr×Obj)) (s:Shared) (σ:St) (H:Hp) (E:Value->Shared->Prop),Inv X pins σ H s->(∀b∈fp,rJ X pins H b)->tn i s.heap->J.go i H->
  wpAny (model P w) X.A (pyNext (.ref it)) (fun r s1=>∃u,r=some u/\
   wpAny (model P w) X.A (letOwnedTupleGo tg (.ref it) u) (fun _ s2=>∃x H',Inv X pins σ H' s2/\RelV x u/\J.KJ i H x H'/\tn (i+1) s2.heap/\∀b∈fp,H' b=none) E s1) E s
 done:∀(X:Cx),X.prog=P->X.w=w->X.K=K->X.calm=true->∀(i:Nat) (pins:List (Addr×Obj)) (s:Shared) (σ:St) (H:Hp) (E:Value->Shared->Prop),Inv X pins σ H s->(∀b∈fp,rJ X pins H b)->tn i s.heap->J.stop i H->
  wpAny (model P w) X.A (pyNext (.ref it)) (fun r s1=>r=none/\Inv X pins σ H s1) E s
 self:∀(A:Around) (i:Nat) (s:Shared) (Q:Value->Shared->Prop) (E:Value->Shared->Prop),tn i s.heap->Q (.ref it) s->wpAny (model P w) A (pyIter (.ref it)) Q E s
abbrev TI:=St->Hp->(It->Hp->Prop)->Prop
def Yp (X:Cx) (pins:List (Addr×Obj)) (σ:St) (tg:Expr) (R:It->Hp->Prop) (Vo:Value) (s2:Shared):Prop:=
 ∃(it:Addr) (fp:List Addr) (tn:Nat->Heap->Prop) (J:It) (H':Hp),Vo=.ref it/\Inv X pins σ H' s2/\Turn X.prog X.w X.K tg J fp it tn/\tn 0 s2.heap/\(∀b∈fp,rJ X pins H' b)/\R J H'
def PI (X:Cx) (tg iter:Expr) (wi:TI):Prop:=
 ∀(pins:List (Addr×Obj)) (s:Shared) (σ:St) (H:Hp) (R:It->Hp->Prop),Inv X pins σ H s->wi σ H R->
  wpAny (model X.prog X.w) X.A (eval iter X.env) (fun v s1=>wpAny (model X.prog X.w) X.A (pyIter v) (Yp X pins σ tg R) X.xe s1) X.xe s
theorem Hf{M:Model}{A:Around}{E:Value->Shared->Prop}{s:Shared}{tg:Expr}{it:Addr}{u:Value}{o:Obj}{n:String}{vs:Array Value}{Q:Unit->Shared->Prop}(ho:s.heap.get? it=some o)(hc:o.cls=.type n)(hd:o.data=.fields vs)
 (hn:["enumerate", "zip", "dict_itemiterator", "dict_reverseitemiterator", "odict_iterator", "itertools.zip_longest", "itertools.pairwise"].contains n=false) (hQ:Q () s):wpAny M A (letOwnedTupleGo tg (.ref it) u) Q E s:=by
 unfold letOwnedTupleGo
 cases tg<;>first
  |exact wpAny_pure hQ
  |(cases u<;>first
     |exact wpAny_pure hQ
     |(refine wpAny_bind (wpAny_load ho ?_)
       rw[hc,hd]
       show wpAny M A (if (["enumerate", "zip", "dict_itemiterator", "dict_reverseitemiterator", "odict_iterator", "itertools.zip_longest", "itertools.pairwise"].contains n&&vs[0]?==some (rawInt _))=true then _ else _) Q E s
       rw[if_neg (by intro h;rw[hn,Bool.false_and] at h;cases h)]
       exact wpAny_pure hQ))
def GR (K:PySem.W.Frag) (a:Addr):It:=
 ⟨fun i H=>∃xs x,il K H a xs/\xs[i]?=some x,fun i H x H'=>H'=H/\∀xs,il K H a xs->xs[i]?=some x,fun i H=>∃xs,il K H a xs/\xs.length<=i⟩
def M8 (K:PySem.W.Frag) (a:Addr):It:=
 ⟨fun i H=>∃xs x,c5 K H a xs/\xs[i]?=some x,fun i H x H'=>H'=H/\∀xs,c5 K H a xs->xs[i]?=some x,fun i H=>∃xs,c5 K H a xs/\xs.length<=i⟩
def Hg (lo:Int) (n:Nat):It:=⟨fun i _=>i<n,fun i H x H'=>H'=H/\x=.int (lo+i),fun i _=>n<=i⟩
theorem Fn{P:Program}{w:World}{K:PySem.W.Frag}{tg:Expr}(a it:Addr):Turn P w K tg (GR K a) [it] it (fun i h=>h.IsListIter it a i) where
 mem:=by simp
 obj:=fun i h st b hb=>by
  have e:b=it:=by simpa using hb
  subst e
  obtain⟨o,e,c,d⟩:=st
  exact⟨o,e,fun v z=>by rw[d] at z;cases z⟩
 keep:=fun i h h' st k=>st.at fun o e=>k it (by simp) o e
 item:=by
  intro X hP hw hK hc i pins s σ H E I hf st hg
  subst hP hw hK
  obtain⟨xs,x,hq,hx⟩:=hg
  obtain⟨bA,rv,p,hz⟩:=I.list hq
  obtain⟨u,hu,ru⟩:=rv.get hx
  obtain⟨f0,f1,f2,f3,f4,f5⟩:=hf it (by simp)
  refine wpAny_pyNext_list_item st p.isList (x:=u) (by simpa using hu) fun h' KL sb=>?_
  have I1:Inv X pins σ H {s with heap:=h' }:=I.turned (t':=s.toks) (fun b o hb e=>(sb.2 b hb).trans e) f0 f1 f3 f4 f5
  obtain⟨o,e,c,d⟩:=id KL
  exact⟨u,rfl,Hf (s:={s with heap:=h' }) e c d (by decide) ⟨x,H,I1,ru,⟨rfl,fun ys hy=>by rw[I.AF hy hq];exact hx⟩,KL,fun b hb=>(hf b hb).1⟩⟩
 done:=by
  intro X hP hw hK hc i pins s σ H E I hf st hg
  subst hP hw hK
  obtain⟨xs,hq,hx⟩:=hg
  obtain⟨bA,rv,p,hz⟩:=I.list hq
  obtain⟨f0,f1,f2,f3,f4,f5⟩:=hf it (by simp)
  have hl:=rv.length
  exact wpAny_pyNext_list_end (I.ok.hd hc) st p.isList (by simp;lia) fun h' eb=>⟨rfl,I.turned (t':=s.toks) (fun b o hb e=>eb b o hb e) f0 f1 f3 f4 f5⟩
 self:=fun _ _ _ _ _ st h=>wpAny_pyIter_listiter st h
theorem Ck{P:Program}{w:World}{K:PySem.W.Frag}{tg:Expr}(a it:Addr):Turn P w K tg (M8 K a) [it] it (fun i h=>h.IsTupleIter it a i) where
 mem:=by simp
 obj:=fun i h st b hb=>by
  have e:b=it:=by simpa using hb
  subst e
  obtain⟨o,e,c,d⟩:=st
  exact⟨o,e,fun v z=>by rw[d] at z;cases z⟩
 keep:=fun i h h' st k=>st.at fun o e=>k it (by simp) o e
 item:=by
  intro X hP hw hK hc i pins s σ H E I hf st hg
  subst hP hw hK
  obtain⟨xs,x,hq,hx⟩:=hg
  obtain⟨bA,rv,p,hz⟩:=I.tuple hq
  obtain⟨u,hu,ru⟩:=rv.get hx
  obtain⟨f0,f1,f2,f3,f4,f5⟩:=hf it (by simp)
  refine wpAny_pyNext_tuple_item st (show s.heap.IsTuple a bA.toArray from p) (x:=u) (by simpa using hu) fun h' KL sb=>?_
  have I1:Inv X pins σ H {s with heap:=h' }:=I.turned (t':=s.toks) (fun b o hb e=>(sb.2 b hb).trans e) f0 f1 f3 f4 f5
  obtain⟨o,e,c,d⟩:=id KL
  exact⟨u,rfl,Hf (s:={s with heap:=h' }) e c d (by decide) ⟨x,H,I1,ru,⟨rfl,fun ys hy=>by rw[I.Fl hy hq];exact hx⟩,KL,fun b hb=>(hf b hb).1⟩⟩
 done:=by
  intro X hP hw hK hc i pins s σ H E I hf st hg
  subst hP hw hK
  obtain⟨xs,hq,hx⟩:=hg
  obtain⟨bA,rv,p,hz⟩:=I.tuple hq
  obtain⟨f0,f1,f2,f3,f4,f5⟩:=hf it (by simp)
  have hl:=rv.length
  exact wpAny_pyNext_tuple_end (I.ok.hd hc) st (show s.heap.IsTuple a bA.toArray from p) (by simp;lia) fun h' eb=>⟨rfl,I.turned (t':=s.toks) (fun b o hb e=>eb b o hb e) f0 f1 f3 f4 f5⟩
 self:=fun _ _ _ _ _ st h=>wpAny_pyIter_tupleiter st h
theorem Cm{P:Program}{w:World}{K:PySem.W.Frag}{tg:Expr}(it:Addr)(lo:Int)(n:Nat):Turn P w K tg (Hg lo n) [it] it (fun i h=>IsRangeIter h it (lo+(i:Nat)*1) ((n:Int)-(i:Nat)) 1) where
 mem:=by simp
 obj:=fun i h st b hb=>by
  have e:b=it:=by simpa using hb
  subst e
  exact⟨_,st,fun v z=>by
   have z':Data.fields _=Data.cell v:=z
   cases z'⟩
 keep:=fun i h h' st k=>k it (by simp) _ st
 item:=by
  intro X hP hw hK hc i pins s σ H E I hf st hg
  subst hP hw hK
  obtain⟨f0,f1,f2,f3,f4,f5⟩:=hf it (by simp)
  have W:=Walks.range (prog:=X.prog) (w:=X.w) (I.ok.hd hc) it lo 1 n
  refine W.item i s _ _ hg st fun v h' tk hv KL kk=>?_
  obtain⟨t,rfl⟩:=hv
  have I1:Inv X pins σ H {s with heap:=h',toks:=tk}:=I.turned (fun b o hb e=>kk b o (by simpa using hb) e) f0 f1 f3 f4 f5
  refine⟨_,rfl,Hf (s:={s with heap:=h',toks:=tk}) (n:="range_iterator") KL rfl rfl (by decide) ⟨.int (lo+i),H,I1,⟨t,?_⟩,⟨rfl,rfl⟩,KL,fun b hb=>(hf b hb).1⟩⟩
  rw[Int.mul_one]
 done:=by
  intro X hP hw hK hc i pins s σ H E I hf st hg
  subst hP hw hK
  obtain⟨f0,f1,f2,f3,f4,f5⟩:=hf it (by simp)
  exact wpAny_pyNext_range_end (I.ok.hd hc) st (by have:n<=i:=hg;lia) fun h' eb=>⟨rfl,I.turned (t':=s.toks) (fun b o hb e=>eb b o hb e) f0 f1 f3 f4 f5⟩
 self:=fun _ _ _ _ _ st h=>wpAny_pyIter_rangeiter st h
end L2
namespace L2
open PySem PySem.Spec PyProof.Rows
section
variable{X:Cx}{tg:Expr}
def DQ (K:PySem.W.Frag) (tl:TE):TI:=fun σ H R=>tl σ H fun x H1=>∃a,x=.ref a/\(∃xs,il K H1 a xs)/\R (GR K a) H1
def Rr (K:PySem.W.Frag) (tl:TE):TI:=fun σ H R=>tl σ H fun x H1=>∃a,x=.ref a/\(∃xs,c5 K H1 a xs)/\R (M8 K a) H1
theorem dq{l:Expr}{tl:TE}(hl:PE X l tl):PI X tg l (DQ X.K tl):=by
 intro pins s σ H R I h
 refine fA (hl pins s σ H _ I h) fun v s1 zqz=>?_
 obtain⟨x,H1,I1,r1,q1⟩:=zqz
 obtain⟨a,e,⟨xs,hq⟩,q⟩:=q1
 subst e
 cases r1
 obtain⟨bA,rv,p,hz⟩:=I1.list hq
 refine wpAny_pyIter_list p.isList ?_
 refine⟨s1.heap.objs.size,[s1.heap.objs.size],_,_,H1,rfl,I1.kept (t':=s1.toks) fun b o e=>Heap.get?_push_of_some _ e,Fn a _,⟨_,Heap.get?_push_size _ rfl,rfl,rfl⟩,fun b hb=>?_,q⟩
 have e:b=s1.heap.objs.size:=by simpa using hb
 subst e
 exact I1.He (Nat.le_refl _) (I1.dU.fresh (Nat.le_refl _))
theorem Ou{l:Expr}{tl:TE}(hl:PE X l tl):PI X tg l (Rr X.K tl):=by
 intro pins s σ H R I h
 refine fA (hl pins s σ H _ I h) fun v s1 zqz=>?_
 obtain⟨x,H1,I1,r1,q1⟩:=zqz
 obtain⟨a,e,⟨xs,hq⟩,q⟩:=q1
 subst e
 cases r1
 obtain⟨bA,rv,p,hz⟩:=I1.tuple hq
 refine wpAny_pyIter_tuple (show s1.heap.IsTuple a bA.toArray from p) ?_
 refine⟨s1.heap.objs.size,[s1.heap.objs.size],_,_,H1,rfl,I1.kept (t':=s1.toks) fun b o e=>Heap.get?_push_of_some _ e,Ck a _,⟨_,Heap.get?_push_size _ rfl,rfl,rfl⟩,fun b hb=>?_,q⟩
 have e:b=s1.heap.objs.size:=by simpa using hb
 subst e
 exact I1.He (Nat.le_refl _) (I1.dU.fresh (Nat.le_refl _))
theorem Hh{pins:List (Addr×Obj)}{σ:St}{H:Hp}{s:Shared}{R:It->Hp->Prop}{E:Value->Shared->Prop}{lo hi:Int}{t u v:Tok}{tk:Nat}(I:Inv X pins σ H s)(h1 : -(2 ^ 62)<=lo)(h2:lo<2 ^ 62)(h3 : -(2 ^ 62)<=hi)(h4:hi<2 ^ 62)
 (q:R (Hg lo (hi-lo).toNat) H):wpAny (model X.prog X.w) X.A (pyIter (.ref s.heap.objs.size)) (Yp X pins σ tg R) E {s with heap:=s.heap.push {cls:=.type "range",data:=.fields #[.int lo t,.int hi u,.int 1 v]},toks:=tk}:=by
 refine wpAny_pyIter_range (IsRange.new ..) (small_one h1 h2 h3 h4) ?_
 have I1:Inv X pins σ H {s with heap:=s.heap.push {cls:=.type "range",data:=.fields #[.int lo t,.int hi u,.int 1 v]},toks:=tk}:=I.kept fun b o e=>Heap.get?_push_of_some _ e
 refine⟨(s.heap.push {cls:=.type "range",data:=.fields #[.int lo t,.int hi u,.int 1 v]}).objs.size,[(s.heap.push {cls:=.type "range",data:=.fields #[.int lo t,.int hi u,.int 1 v]}).objs.size],_,_,H,rfl,
  I1.kept (t':=tk) fun b o e=>Heap.get?_push_of_some _ e,Cm _ lo (hi-lo).toNat,?_,fun b hb=>?_,q⟩
 ·have e1:lo+((0:Nat):Int)*1=lo:=by simp
  have e2:(((hi-lo).toNat:Nat):Int)-((0:Nat):Int)=Builtin.Range.rangeSize lo hi 1:=by rw[rangeSize_one];split<;>lia
  show IsRangeIter _ _ (lo+((0:Nat):Int)*1) ((((hi-lo).toNat:Nat):Int)-((0:Nat):Int)) 1
  rw[e1,e2]
  exact Heap.get?_push_size _ rfl
 ·have e:b=(s.heap.push {cls:=.type "range",data:=.fields #[.int lo t,.int hi u,.int 1 v]}).objs.size:=by simpa using hb
  subst e
  exact I1.He (Nat.le_refl _) (I1.dU.fresh (Nat.le_refl _))
def DR (ta:TA):TI:=fun σ H R=>ta σ H fun vs H1=>∃j:Int,vs=[.int j]/\-(2 ^ 62)<=j/\j<2 ^ 62/\R (Hg 0 j.toNat) H1
def M9 (ta:TA):TI:=fun σ H R=>ta σ H fun vs H1=>∃i j:Int,vs=[.int i,.int j]/\(-(2 ^ 62)<=i/\i<2 ^ 62/\-(2 ^ 62)<=j/\j<2 ^ 62)/\R (Hg i (j-i).toNat) H1
theorem iT{a:Expr}{ta:TA}{p pos:Pos}(hg:Gl X "range")(hm:X.mg "range"=none)(ha:PA X [a] ta)(hs:starEach [a] X.env=[(false,eval a X.env)]:=by rfl):PI X tg (.Call (.Name "range" p) [a] [] pos) (DR ta):=by
 intro pins s σ H R I h
 refine Call_ (qG I hg hm boot_range (PyProof.Rows.callWith_type1 (fA (ha pos pins s σ H _ I h) fun us s1 zqz=>?_) hs rfl))
 obtain⟨vs,H1,I1,r1,q1⟩:=zqz
 obtain⟨j,e,q1,q2,q⟩:=q1
 subst e
 cases r1 with
 |cons r rr=>
  cases rr
  obtain⟨t,rfl⟩:=r
  exact call_range_1 (Hh I1 (by lia) (by lia) q1 q2 (by simpa using q))
def Lg (wi:TI) (g:TG) (tb:TS):TS:=fun D σ H=>wi σ H fun J H1=>∃W:Nat->Nat->St->Hp->Prop,(∃m,W 0 m σ H1)/\∀i m σ H,W i m σ H->
 (J.stop i H/\D.nx σ H)\/(J.go i H/\∃N:St->Hp->Prop,(∀σ' H',N σ' H'->∃m',m'<m/\W (i+1) m' σ' H')/\∀x H',J.KJ i H x H'->g x σ H' fun σ2 H2=>tb {D with nx:=N,ct:=N,bk:=D.nx} σ2 H2)
def vI (fp:List Addr) (h:Heap):List (Addr×Obj):=fp.filterMap fun b=>(h.get? b).map fun o=>(b,o)
theorem mx{fp:List Addr}{h:Heap}{b:Addr}{o:Obj}(hb:b∈fp)(e:h.get? b=some o):(b,o)∈vI fp h:=List.mem_filterMap.mpr ⟨b,hb,by rw[e];rfl⟩
theorem Fo{fp:List Addr}{h:Heap}{p:Addr×Obj}(hp:p∈vI fp h):p.1∈fp/\h.get? p.1=some p.2:=by
 obtain⟨b,hb,e⟩:=List.mem_filterMap.mp hp
 cases q:h.get? b with
 |none=>rw[q] at e;cases e
 |some o=>
  rw[q] at e
  have e':(b,o)=p:=Option.some.inj e
  subst e'
  exact⟨hb,q⟩
theorem Inv.pinned{pins:List (Addr×Obj)}{σ:St}{H:Hp}{s:Shared}{fp:List Addr}(I:Inv X pins σ H s)(hf:∀b∈fp,rJ X pins H b)(ho:∀b∈fp,∃o,s.heap.get? b=some o/\∀v,o.data≠.cell v):Inv X (pins++vI fp s.heap) σ H s:=
 I.DN fun p hp=>(List.mem_append.mp hp).elim (fun z=>I.pin p (List.mem_append_right _ z)) fun z=>by
  obtain⟨hb,e⟩:=Fo z
  obtain⟨f0,f1,f2,_⟩:=hf p.1 hb
  obtain⟨o,e',d⟩:=ho p.1 hb
  rw[e] at e';cases e'
  exact⟨e,f0,f1,f2,d⟩
theorem Inv.rK{pins pl:List (Addr×Obj)}{σ:St}{H:Hp}{s:Shared}(I:Inv X (pins++pl) σ H s):Inv X pins σ H s:=I.DN fun p hp=>I.pin p (List.mem_append_right _ (List.mem_append_left _ hp))
theorem fZ{iter:Expr}{body:List Stmt}{wi:TI}{g:TG}{tb:TS}{pos:Pos}(hp:PassesOwn (model X.prog X.w) X.A X.env X.xe)(hc:X.calm=true)(hi:PI X tg iter wi)(hg:PG X tg g)(hb:DO X body tb)
 (hs:∀x,foldedSetIterable iter X.env x=pure x:=by intro _;rfl):PS X (.For tg iter body [] pos) (Lg wi g tb):=by
 intro pins s σ H D I h
 refine wpAny_For (fA (hi pins s σ H _ I h) fun v s1 h1=>fA h1 fun Vo s2 h2=>?_) hs
 obtain⟨it,fp,tn,J,H2,e,I2,T,xi,f2,W,⟨m0,w0⟩,turn⟩:=h2
 subst e
 have stat:∀ {H':Hp},(∀b∈fp,H' b=none)->∀b∈fp,rJ X pins H' b:=fun hn b hb=>⟨hn b hb,(f2 b hb).2⟩
 refine codeAny_forLoop_any (fun n s'=>∃i σ' H',Inv X pins σ' H' s'/\tn i s'.heap/\(∀b∈fp,H' b=none)/\W i n σ' H') ?_ m0 ⟨0,σ,H2,I2,xi,fun b hb=>(f2 b hb).1,w0⟩
 rintro n s3 ⟨i,σ3,H3,I3,Na,Rt,w3⟩
 rcases turn i n σ3 H3 w3 with ⟨stop,qn⟩ |⟨go,N,hN,step⟩
 ·refine wpAny_passesOwn hp (fA (T.done X rfl rfl rfl hc i pins s3 σ3 H3 X.xe I3 (stat Rt) Na stop) fun r s4 zqz=>?_)
  obtain⟨hr,I4⟩:=zqz
  subst hr
  exact wpAny_execs_nil ⟨σ3,H3,I4,qn⟩
 ·refine wpAny_passesOwn hp (fA (T.item X rfl rfl rfl hc i pins s3 σ3 H3 X.xe I3 (stat Rt) Na go) fun r s4 zqz=>?_)
  obtain⟨u,hr,h4⟩:=zqz
  subst hr
  refine wpAny_passesOwn hp (fA h4 fun _ s5 zqz=>?_)
  obtain⟨x,H5,I5,r5,y5,Hi,Vp⟩:=zqz
  have Vq:=I5.pinned (stat Vp) (T.obj _ _ Hi)
  refine wpAny_passesOwn hp (fA (hg _ s5 σ3 H5 x u _ Vq r5 (step x H5 y5)) fun _ s6 zqz=>?_)
  obtain⟨σ6,H6,I6,q6⟩:=zqz
  refine wpAny_passesOwn hp (fA (hb _ s6 σ6 H6 _ I6 q6) fun f s7 q7=>?_)
  have again:∀ {σ7:St} {H7:Hp},Inv X (pins++vI fp s5.heap) σ7 H7 s7->N σ7 H7->∃m,m<n/\∃i σ' H',Inv X pins σ' H' s7/\tn i s7.heap/\(∀b∈fp,H' b=none)/\W i m σ' H':=fun {σ7 H7} I7 n7=>by
   obtain⟨m',hm,w7⟩:=hN σ7 H7 n7
   refine⟨m',hm,i+1,σ7,H7,I7.rK,T.keep _ _ _ Hi fun b hb o e=>(I7.pin (b,o) (List.mem_append_right _ (List.mem_append_right _ (mx hb e)))).1,fun b hb=>?_,w7⟩
   obtain⟨o,e,d⟩:=T.obj _ _ Hi b hb
   exact(I7.pin (b,o) (List.mem_append_right _ (List.mem_append_right _ (mx hb e)))).2.1
  cases f with
  |next=>obtain⟨σ7,H7,I7,n7⟩:=q7;exact again I7 n7
  |cont=>obtain⟨σ7,H7,I7,n7⟩:=q7;exact again I7 n7
  |brk=>obtain⟨σ7,H7,I7,q7⟩:=q7;exact⟨σ7,H7,I7.rK,q7⟩
  |ret v=>obtain⟨x7,σ7,H7,I7,r7,q7⟩:=q7;exact⟨x7,σ7,H7,I7.rK,r7,q7⟩
end
theorem ip{K:PySem.W.Frag}{a:Addr}{xs:List V}{g:TG}{tb:TS}{D:Ends}{σ:St}{H:Hp}(Pv:Nat->St->Hp->Prop)(h0:Pv 0 σ H)(hl:∀i σ H,i<=xs.length->Pv i σ H->il K H a xs)
 (hs:∀i x σ H,xs[i]?=some x->Pv i σ H->g x σ H fun σ2 H2=>tb {D with nx:=Pv (i+1),ct:=Pv (i+1),bk:=D.nx} σ2 H2) (hd:∀σ H,Pv xs.length σ H->D.nx σ H) :
 ∃W:Nat->Nat->St->Hp->Prop,(∃m,W 0 m σ H)/\∀i m σ H,W i m σ H->
  ((GR K a).stop i H/\D.nx σ H)\/((GR K a).go i H/\∃N:St->Hp->Prop,(∀σ' H',N σ' H'->∃m',m'<m/\W (i+1) m' σ' H')/\∀x H',(GR K a).KJ i H x H'->g x σ H' fun σ2 H2=>tb {D with nx:=N,ct:=N,bk:=D.nx} σ2 H2):=by
 refine⟨fun i m σ H=>m=xs.length-i/\i<=xs.length/\Pv i σ H,⟨xs.length,by simp,Nat.zero_le _,h0⟩,?_⟩
 rintro i m σ H ⟨rfl,hi,p⟩
 have q:=hl i σ H hi p
 by_cases ve:i<xs.length
 ·refine .inr ⟨⟨xs,xs[i],q,by simp[ve]⟩,Pv (i+1),fun σ' H' p'=>⟨xs.length-(i+1),by lia,rfl,ve,p'⟩,fun x H' y=>?_⟩
  obtain⟨e,y⟩:=y
  subst e
  exact hs i x σ _ (y xs q) p
 ·have e:i=xs.length:=by lia
  subst e
  exact .inl ⟨⟨xs,q,Nat.le_refl _⟩,hd σ H p⟩
theorem Lh{K:PySem.W.Frag}{a:Addr}{xs:List V}{g:TG}{tb:TS}{D:Ends}{σ:St}{H:Hp}(Pv:Nat->St->Hp->Prop)(h0:Pv 0 σ H)(hl:∀i σ H,i<=xs.length->Pv i σ H->c5 K H a xs)
 (hs:∀i x σ H,xs[i]?=some x->Pv i σ H->g x σ H fun σ2 H2=>tb {D with nx:=Pv (i+1),ct:=Pv (i+1),bk:=D.nx} σ2 H2) (hd:∀σ H,Pv xs.length σ H->D.nx σ H) :
 ∃W:Nat->Nat->St->Hp->Prop,(∃m,W 0 m σ H)/\∀i m σ H,W i m σ H->
  ((M8 K a).stop i H/\D.nx σ H)\/((M8 K a).go i H/\∃N:St->Hp->Prop,(∀σ' H',N σ' H'->∃m',m'<m/\W (i+1) m' σ' H')/\∀x H',(M8 K a).KJ i H x H'->g x σ H' fun σ2 H2=>tb {D with nx:=N,ct:=N,bk:=D.nx} σ2 H2):=by
 refine⟨fun i m σ H=>m=xs.length-i/\i<=xs.length/\Pv i σ H,⟨xs.length,by simp,Nat.zero_le _,h0⟩,?_⟩
 rintro i m σ H ⟨rfl,hi,p⟩
 have q:=hl i σ H hi p
 by_cases ve:i<xs.length
 ·refine .inr ⟨⟨xs,xs[i],q,by simp[ve]⟩,Pv (i+1),fun σ' H' p'=>⟨xs.length-(i+1),by lia,rfl,ve,p'⟩,fun x H' y=>?_⟩
  obtain⟨e,y⟩:=y
  subst e
  exact hs i x σ _ (y xs q) p
 ·have e:i=xs.length:=by lia
  subst e
  exact .inl ⟨⟨xs,q,Nat.le_refl _⟩,hd σ H p⟩
theorem jY{lo:Int}{n:Nat}{g:TG}{tb:TS}{D:Ends}{σ:St}{H:Hp}(Pv:Nat->St->Hp->Prop)(h0:Pv 0 σ H)
 (hs:∀i σ H,i<n->Pv i σ H->g (.int (lo+i)) σ H fun σ2 H2=>tb {D with nx:=Pv (i+1),ct:=Pv (i+1),bk:=D.nx} σ2 H2) (hd:∀σ H,Pv n σ H->D.nx σ H) :
 ∃W:Nat->Nat->St->Hp->Prop,(∃m,W 0 m σ H)/\∀i m σ H,W i m σ H->
  ((Hg lo n).stop i H/\D.nx σ H)\/((Hg lo n).go i H/\∃N:St->Hp->Prop,(∀σ' H',N σ' H'->∃m',m'<m/\W (i+1) m' σ' H')/\∀x H',(Hg lo n).KJ i H x H'->g x σ H' fun σ2 H2=>tb {D with nx:=N,ct:=N,bk:=D.nx} σ2 H2):=by
 refine⟨fun i m σ H=>m=n-i/\i<=n/\Pv i σ H,⟨n,by simp,Nat.zero_le _,h0⟩,?_⟩
 rintro i m σ H ⟨rfl,hi,p⟩
 by_cases ve:i<n
 ·refine .inr ⟨ve,Pv (i+1),fun σ' H' p'=>⟨n-(i+1),by lia,rfl,ve,p'⟩,fun x H' y=>?_⟩
  obtain⟨e,y⟩:=y
  subst e y
  exact hs i σ _ ve p
 ·have e:i=n:=by lia
  subst e
  exact .inl ⟨Nat.le_refl _,hd σ H p⟩
end L2
namespace L2
open PySem PySem.Spec PyProof.Rows
abbrev R2:=V->V->Hp->VK->Prop
def qd (X:Cx) (f:Value->Value->Sem Value) (r:R2):Prop:=
 ∀(pins:List (Addr×Obj)) (s:Shared) (σ:St) (H:Hp) (x y:V) (v u:Value) (Q:VK),Inv X pins σ H s->RelV x v->RelV y u->r x y H Q->
  wpAny (model X.prog X.w) X.A (f v u) (EP X pins σ Q) X.xe s
def Vr (X:Cx) (f:Value->Sem Value) (r:V->Hp->VK->Prop):Prop:=
 ∀(pins:List (Addr×Obj)) (s:Shared) (σ:St) (H:Hp) (x:V) (v:Value) (Q:VK),Inv X pins σ H s->RelV x v->r x H Q->
  wpAny (model X.prog X.w) X.A (f v) (EP X pins σ Q) X.xe s
def qe (X:Cx) (f:Value) (r:List V->Hp->VK->Prop):Prop:=
 ∀(pins:List (Addr×Obj)) (s:Shared) (σ:St) (H:Hp) (xs:List V) (us:List Value) (Q:VK),Inv X pins σ H s->Vals xs us->r xs H Q->
  wpAny (model X.prog X.w) X.A (call f us) (EP X pins σ Q) X.xe s
def Vs (X:Cx) (r:V->Hp->(Bool->Hp->Prop)->Prop):Prop:=
 ∀(pins:List (Addr×Obj)) (s:Shared) (σ:St) (H:Hp) (x:V) (v:Value) (Q:Bool->Hp->Prop),Inv X pins σ H s->RelV x v->r x H Q->
  wpAny (model X.prog X.w) X.A (truthy v) (TP X pins σ Q) X.xe s
def Ru (r:R2) (ta tb:TE):TE:=fun σ H Q=>ta σ H fun x H1=>tb σ H1 fun y H2=>r x y H2 Q
def Vt (r:V->Hp->VK->Prop) (ta:TE):TE:=fun σ H Q=>ta σ H fun x H1=>r x H1 Q
def rI (C:Int->Int->Prop) (g:Int->Int->V):R2:=fun x y H Q=>∃i j,x=.int i/\y=.int j/\C i j/\Q (g i j) H
def Nb (g:Int->Int->V):R2:=fun x y H Q=>∃i j,x=.int i/\y=.int j/\Q (g i j) H
def rU (g:Int->V):V->Hp->VK->Prop:=fun x H Q=>∃i,x=.int i/\Q (g i) H
section
variable{X:Cx}{a b c:Expr}{ta tb tc:TE}{pos:Pos}
theorem Ov(ha:PE X a ta)(hb:PE X b tb){pins:List (Addr×Obj)}{s:Shared}{σ:St}{H:Hp}{R:V->V->Hp->Prop}(I:Inv X pins σ H s)
 (h:ta σ H fun x H1=>tb σ H1 fun y H2=>R x y H2) {Q:Value->Shared->Prop} {f:Value->Value->Sem Value}
 (hf:∀v u s2 x y H2,Inv X pins σ H2 s2->RelV x v->RelV y u->R x y H2->wpAny (model X.prog X.w) X.A (f v u) Q X.xe s2) :
 wpAny (model X.prog X.w) X.A (eval a X.env) (fun v s₁=>wpAny (model X.prog X.w) X.A (eval b X.env) (fun u s₂=>wpAny (model X.prog X.w) X.A (f v u) Q X.xe s₂) X.xe s₁) X.xe s:=by
 refine fA (ha pins s σ H _ I h) fun v s1 zqz=>?_
 obtain⟨x,H1,I1,r1,q1⟩:=zqz
 refine fA (hb pins s1 σ H1 _ I1 q1) fun u s2 zqz=>?_
 obtain⟨y,H2,I2,r2,q2⟩:=zqz
 exact hf v u s2 x y H2 I2 r1 r2 q2
theorem bh{op:Operator}{r:R2}(ho:qd X (binaryOp op) r)(ha:PE X a ta)(hb:PE X b tb):PE X (.BinOp a op b pos) (Ru r ta tb):=by
 intro pins s σ H Q I h
 exact wpAny_BinOp (Ov ha hb I h fun v u s2 x y H2 I2 rx ry q=>ho pins s2 σ H2 x y v u Q I2 rx ry q)
theorem rL{op:UnaryOp}{r:V->Hp->VK->Prop}(ho:Vr X (unaryOp op) r)(ha:PE X a ta):PE X (.UnaryOp op a pos) (Vt r ta):=by
 intro pins s σ H Q I h
 refine UnaryOp_ (fA (ha pins s σ H _ I h) fun v s1 zqz=>?_)
 obtain⟨x,H1,I1,r1,q1⟩:=zqz
 exact ho pins s1 σ H1 x v Q I1 r1 q1
theorem Rv{f:Value->Value->Sem Value}{C:Int->Int->Prop}{g:Int->Int->Int}
 (rule:∀(i j:Int) (t u:Tok) (s:Shared) (Q:Value->Shared->Prop) (E:Value->Shared->Prop),C i j->Q (.int (g i j) s.toks) {s with toks:=s.toks+1}->wpAny (model X.prog X.w) X.A (f (.int i t) (.int j u)) Q E s) :
 qd X f (rI C fun i j=>.int (g i j)):=by
 intro pins s σ H x y v u Q I rx ry h
 obtain⟨i,j,rfl,rfl,hc,q⟩:=h
 obtain⟨t,rfl⟩:=rx
 obtain⟨t',rfl⟩:=ry
 exact rule i j t t' s _ _ hc ⟨.int (g i j),H,I.tok _,⟨_,rfl⟩,q⟩
theorem Rw{f:Value->Value->Sem Value}{g:Int->Int->Int}
 (rule:∀(i j:Int) (t u:Tok) (s:Shared) (Q:Value->Shared->Prop) (E:Value->Shared->Prop),Q (.int (g i j) s.toks) {s with toks:=s.toks+1}->wpAny (model X.prog X.w) X.A (f (.int i t) (.int j u)) Q E s) :
 qd X f (Nb fun i j=>.int (g i j)):=by
 intro pins s σ H x y v u Q I rx ry h
 obtain⟨i,j,rfl,rfl,q⟩:=h
 obtain⟨t,rfl⟩:=rx
 obtain⟨t',rfl⟩:=ry
 exact rule i j t t' s _ _ ⟨.int (g i j),H,I.tok _,⟨_,rfl⟩,q⟩
theorem Ow{f:Value->Value->Sem Value}{g:Int->Int->Bool}
 (rule:∀(i j:Int) (t u:Tok) (s:Shared) (Q:Value->Shared->Prop) (E:Value->Shared->Prop),Q (.bool (g i j)) s->wpAny (model X.prog X.w) X.A (f (.int i t) (.int j u)) Q E s) :
 qd X f (Nb fun i j=>.bl (g i j)):=by
 intro pins s σ H x y v u Q I rx ry h
 obtain⟨i,j,rfl,rfl,q⟩:=h
 obtain⟨t,rfl⟩:=rx
 obtain⟨t',rfl⟩:=ry
 exact rule i j t t' s _ _ ⟨.bl (g i j),H,I,rfl,q⟩
def Rx (i j:Int):Prop:=0<j/\j<1073741824
def Ry (i j:Int):Prop:=0<=j/\j<=1000000/\i.natAbs<2 ^ 64
def Hj (i j:Int):Prop:=(-(2 ^ 64)<i/\i<2 ^ 64)\/(-(2 ^ 64)<j/\j<2 ^ 64)
theorem Hj.ok{i j:Int}(h:Hj i j):IntMulOk i j:=by
 rcases h with ⟨h1,h2⟩ |⟨h1,h2⟩
 ·exact .of_left (intBits_le_64 h1 h2)
 ·exact .of_right (intBits_le_64 h1 h2)
theorem dW:qd X (binaryOp .Add) (Nb fun i j=>.int (i+j)):=Rw fun _ _ _ _ _ _ _ q=>add_int q
theorem vJ:qd X (binaryOp .Sub) (Nb fun i j=>.int (i-j)):=Rw fun _ _ _ _ _ _ _ q=>sub_int q
theorem qI:qd X (binaryOp .Mult) (rI Hj fun i j=>.int (i*j)):=Rv fun _ _ _ _ _ _ _ hc q=>mul_int q hc.ok
theorem yU:qd X (binaryOp .FloorDiv) (rI Rx fun i j=>.int (i/j)):=Rv fun i j _ _ _ _ _ hc q=>by
 have h1:(0:Int)<j:=hc.1
 have h2:j<1073741824:=hc.2
 exact floordiv_int (by lia) (by rw[Int.fdiv_eq_ediv_of_nonneg i (by lia)];exact q) (.inl (PyProof.noPylong_small (by lia)))
theorem cu:qd X (binaryOp .Mod) (rI (fun _ j=>0<j) fun i j=>.int (i%j)):=Rv fun i j _ _ _ _ _ hc q=>by
 have h1:(0:Int)<j:=hc
 exact mod_int' (by lia) (by rw[Int.fmod_eq_emod_of_nonneg i (by lia)];exact q)
theorem Ox:qd X (binaryOp .Pow) (rI Ry fun i j=>.int (i ^ j.toNat)):=Rv fun _ _ _ _ _ _ _ hc q=>pow_int_small hc.1 hc.2.1 hc.2.2 q
theorem Z9{f:Value->Sem Value}{g:Int->Int}
 (rule:∀(i:Int) (t:Tok) (s:Shared) (Q:Value->Shared->Prop) (E:Value->Shared->Prop),Q (.int (g i) s.toks) {s with toks:=s.toks+1}->wpAny (model X.prog X.w) X.A (f (.int i t)) Q E s) :
 Vr X f (rU fun i=>.int (g i)):=by
 intro pins s σ H x v Q I rx h
 obtain⟨i,rfl,q⟩:=h
 obtain⟨t,rfl⟩:=rx
 exact rule i t s _ _ ⟨.int (g i),H,I.tok _,⟨_,rfl⟩,q⟩
theorem my:Vr X (unaryOp .USub) (rU fun i=>.int (-i)):=Z9 fun _ _ _ _ _ q=>neg_int q
end
def Fp:V->V->Bool
 |.ck,.ck=>true |.ck,.int _=>true |.int _,.ck=>true |.ck,.bl _=>true |.bl _,.ck=>true |.ck,.str _=>true |.str _,.ck=>true
 |.int _,.int _=>true |.bl _,.bl _=>true |.str _,.str _=>true |.DL _,.DL _=>true
 |.int _,.str _=>true |.str _,.int _=>true |.bl _,.str _=>true |.str _,.bl _=>true
 |_,_=>false
def Yq:R2:=fun x y H Q=>Fp x y=true/\Q (.bl (decide (x=y))) H
def Yr:R2:=fun x y H Q=>Fp x y=true/\Q (.bl (!decide (x=y))) H
theorem DT{i j:Int}:decide (V.int i=V.int j)=(i==j):=by
 rw[Bool.eq_iff_iff]
 simp
theorem Hk{i j:Bool}:decide (V.bl i=V.bl j)=(i==j):=by
 rw[Bool.eq_iff_iff]
 simp
theorem DU{i j:Str}:decide (V.str i=V.str j)=(i==j):=by
 rw[Bool.eq_iff_iff]
 simp
theorem DV{i j:Array UInt8}:decide (V.DL i=V.DL j)=(i.toList==j.toList):=by
 rw[Bool.eq_iff_iff]
 cases i
 cases j
 simp
section
variable{X:Cx}{a b c:Expr}{ta tb tc:TE}{pos:Pos}
theorem cv{pins:List (Addr×Obj)}{σ:St}{H:Hp}{s:Shared}{Q:VK}{k k':Bool}(I:Inv X pins σ H s)(q:Q (.bl k) H)(e:k=k'):EP X pins σ Q (.bool k') s:=by
 subst e
 exact⟨.bl k,H,I,rfl,q⟩
theorem bT:qd X (compareOp .Eq) Yq:=by
 intro pins s σ H x y v u Q I rx ry h
 obtain⟨hs,q⟩:=h
 cases x with
 |ck=>
  cases rx
  cases y with
  |ck=>cases ry;exact PySem.EqNone.eq_none_none (cv I q (by simp))
  |bl j=>cases ry;exact PySem.EqNone.eq_none_bool (cv I q (by simp))
  |int j=>obtain⟨t',rfl⟩:=ry;exact PySem.EqNone.eq_none_int (cv I q (by simp))
  |str j=>obtain⟨t',rfl⟩:=ry;exact PySem.EqNone.eq_none_str (cv I q (by simp))
  |_=>exact absurd (show false=true from hs) Bool.false_ne_true
 |bl i=>
  cases rx
  cases y with
  |ck=>cases ry;exact PySem.EqNone.eq_bool_none (cv I q (by simp))
  |bl j=>cases ry;exact eq_bool (cv I q Hk)
  |str j=>obtain⟨t',rfl⟩:=ry;exact PySem.EqMixed.eq_bool_str (cv I q (by simp))
  |_=>exact absurd (show false=true from hs) Bool.false_ne_true
 |int i=>
  obtain⟨t,rfl⟩:=rx
  cases y with
  |ck=>cases ry;exact PySem.EqNone.eq_int_none (cv I q (by simp))
  |int j=>obtain⟨t',rfl⟩:=ry;exact eq_int (cv I q DT)
  |str j=>obtain⟨t',rfl⟩:=ry;exact PySem.EqMixed.eq_int_str (cv I q (by simp))
  |_=>exact absurd (show false=true from hs) Bool.false_ne_true
 |str i=>
  obtain⟨t,rfl⟩:=rx
  cases y with
  |ck=>cases ry;exact PySem.EqNone.eq_str_none (cv I q (by simp))
  |bl j=>cases ry;exact PySem.EqMixed.eq_str_bool (cv I q (by simp))
  |int j=>obtain⟨t',rfl⟩:=ry;exact PySem.EqMixed.eq_str_int (cv I q (by simp))
  |str j=>obtain⟨t',rfl⟩:=ry;exact eq_str (cv I q DU)
  |_=>exact absurd (show false=true from hs) Bool.false_ne_true
 |DL i=>
  obtain⟨t,rfl⟩:=rx
  cases y with
  |DL j=>obtain⟨t',rfl⟩:=ry;exact PySem.W.eq_bytes (cv I q DV)
  |_=>exact absurd (show false=true from hs) Bool.false_ne_true
 |_=>cases y<;>exact absurd (show false=true from hs) Bool.false_ne_true
theorem Hl:qd X (compareOp .NotEq) Yr:=by
 intro pins s σ H x y v u Q I rx ry h
 obtain⟨hs,q⟩:=h
 cases x with
 |ck=>
  cases rx
  cases y with
  |ck=>cases ry;exact PySem.EqNone.ne_none_none (cv I q (by simp))
  |bl j=>cases ry;exact PySem.EqNone.ne_none_bool (cv I q (by simp))
  |int j=>obtain⟨t',rfl⟩:=ry;exact PySem.EqNone.ne_none_int (cv I q (by simp))
  |str j=>obtain⟨t',rfl⟩:=ry;exact PySem.EqNone.ne_none_str (cv I q (by simp))
  |_=>exact absurd (show false=true from hs) Bool.false_ne_true
 |bl i=>
  cases rx
  cases y with
  |ck=>cases ry;exact PySem.EqNone.ne_bool_none (cv I q (by simp))
  |bl j=>cases ry;exact ne_bool (cv I q (congrArg not Hk))
  |str j=>obtain⟨t',rfl⟩:=ry;exact PySem.EqMixed.ne_bool_str (cv I q (by simp))
  |_=>exact absurd (show false=true from hs) Bool.false_ne_true
 |int i=>
  obtain⟨t,rfl⟩:=rx
  cases y with
  |ck=>cases ry;exact PySem.EqNone.ne_int_none (cv I q (by simp))
  |int j=>obtain⟨t',rfl⟩:=ry;exact ne_int (cv I q (congrArg not DT))
  |str j=>obtain⟨t',rfl⟩:=ry;exact PySem.EqMixed.ne_int_str (cv I q (by simp))
  |_=>exact absurd (show false=true from hs) Bool.false_ne_true
 |str i=>
  obtain⟨t,rfl⟩:=rx
  cases y with
  |ck=>cases ry;exact PySem.EqNone.ne_str_none (cv I q (by simp))
  |bl j=>cases ry;exact PySem.EqMixed.ne_str_bool (cv I q (by simp))
  |int j=>obtain⟨t',rfl⟩:=ry;exact PySem.EqMixed.ne_str_int (cv I q (by simp))
  |str j=>obtain⟨t',rfl⟩:=ry;exact ne_str (cv I q (congrArg not DU))
  |_=>exact absurd (show false=true from hs) Bool.false_ne_true
 |DL i=>
  obtain⟨t,rfl⟩:=rx
  cases y with
  |DL j=>obtain⟨t',rfl⟩:=ry;exact PySem.W.ne_bytes (cv I q (congrArg not DV))
  |_=>exact absurd (show false=true from hs) Bool.false_ne_true
 |_=>cases y<;>exact absurd (show false=true from hs) Bool.false_ne_true
theorem nT:qd X (compareOp .Lt) (Nb fun i j=>.bl (decide (i<j))):=Ow fun _ _ _ _ _ _ _ q=>lt_int q
theorem Hm:qd X (compareOp .Gt) (Nb fun i j=>.bl (decide (j<i))):=Ow fun _ _ _ _ _ _ _ q=>gt_int q
theorem Rz:qd X (compareOp .GtE) (Nb fun i j=>.bl (decide (j<=i))):=Ow fun _ _ _ _ _ _ _ q=>ge_int q
theorem Oy:qd X (compareOp .Is) (fun x y H Q=>y=.ck/\Q (.bl (decide (x=.ck))) H):=by
 intro pins s σ H x y v u Q I rx ry h
 obtain⟨rfl,q⟩:=h
 cases ry
 refine is_none_gen (cv I q ?_)
 cases x<;>first
  |(cases rx;rfl)
  |(obtain⟨t,rfl⟩:=rx;rfl)
theorem vx:qd X (compareOp .IsNot) (fun x y H Q=>y=.ck/\Q (.bl (!decide (x=.ck))) H):=by
 intro pins s σ H x y v u Q I rx ry h
 obtain⟨rfl,q⟩:=h
 cases ry
 refine isnot_none_gen (cv I q ?_)
 cases x<;>first
  |(cases rx;rfl)
  |(obtain⟨t,rfl⟩:=rx;rfl)
theorem aT(b:Expr){op:CmpOp}(h:op≠.In:=by decide)(h2:op≠.NotIn:=by decide):behindInMarks op b=false:=by
 have e1:(op==CmpOp.In)=false:=by cases op<;>first |rfl |exact absurd rfl h
 have e2:(op==CmpOp.NotIn)=false:=by cases op<;>first |rfl |exact absurd rfl h2
 cases b<;>simp[behindInMarks,e1,e2]
theorem gX{op:CmpOp}{r:R2}(ho:qd X (compareOp op) r)(ha:PE X a ta)(hb:PE X b tb)(hm:behindInMarks op b=false):PE X (.Compare a [op] [b] pos) (Ru r ta tb):=by
 intro pins s σ H Q I h
 exact wpAny_Compare1 (Ov ha hb I h fun v u s2 x y H2 I2 rx ry q=>ho pins s2 σ H2 x y v u Q I2 rx ry q) hm
def DW (t:TE):TT:=fun σ H Q=>t σ H fun x H'=>∃k,x=.bl k/\Q k H'
theorem aK{op:CmpOp}{r:R2}(ho:qd X (compareOp op) r)(ha:PE X a ta)(hb:PE X b tb)(hm:behindInMarks op b=false):PT X (.Compare a [op] [b] pos) (DW (Ru r ta tb)):=by
 intro pins s σ H Q I h
 refine wpAny_isTrue_Compare1 (fA (ha pins s σ H _ I h) fun v s1 zqz=>?_) hm
 obtain⟨x,H1,I1,r1,q1⟩:=zqz
 refine fA (hb pins s1 σ H1 _ I1 q1) fun u s2 zqz=>?_
 obtain⟨y,H2,I2,r2,q2⟩:=zqz
 refine fA (ho pins s2 σ H2 x y v u _ I2 r1 r2 q2) fun c s3 zqz=>?_
 obtain⟨z,H3,I3,r3,k,e,q3⟩:=zqz
 subst e
 cases r3
 exact wpAny_truthy_bool ⟨H3,I3,q3⟩
def Hn (r r':R2) (ta tb tc:TE):TE:=fun σ H Q=>ta σ H fun x H1=>tb σ H1 fun y H2=>r x y H2 fun z H3=>∃k,z=.bl k/\
 (if k=true then tc σ H3 fun w' H4=>r' y w' H4 Q else Q (.bl false) H3)
def RA (K:PySem.W.Frag) (x:V) (H:Hp) (k:Bool):Prop:=
 match x with
 |.ck=>k=false
 |.bl b=>k=b
 |.int i=>k=(i != 0)
 |.str y=>y.length<=sizeLine/\k=((y.length:Int) != 0)
 |.DL y=>y.size<=sizeLine/\k=((y.size:Int) != 0)
 |.ref p=>(∃xs,il K H p xs/\k = !xs.isEmpty)\/(∃xs,c5 K H p xs/\k = !xs.isEmpty)\/∃aP,H p=some (.dK aP)/\k = !aP.isEmpty
 |_=>False
theorem Cn{κ:Type}{aP:List (κ×V)}{vs:List (κ×Value)}(r:KV aP vs):(!vs.isEmpty) = !aP.isEmpty:=by
 cases r<;>rfl
theorem vK{xs:List V}{bA:List Value}(r:Vals xs bA):(!bA.toArray.isEmpty) = !xs.isEmpty:=by
 cases r<;>simp
theorem tU:(sizeLine:Nat)<2 ^ 63:=by rw[sizeLine_eq];decide
theorem Oz:Vs X (fun x H Q=>∃k,RA X.K x H k/\Q k H):=by
 intro pins s σ H x v Q I rx h
 obtain⟨k,e,q⟩:=h
 have hl:=tU
 have hs:sizeLine=16777216:=sizeLine_eq
 cases x with
 |ck=>
  cases rx
  have e':k=false:=e
  subst e'
  exact truthy_none ⟨H,I,q⟩
 |bl b=>
  cases rx
  have e':k=b:=e
  subst e'
  exact wpAny_truthy_bool ⟨H,I,q⟩
 |int i=>
  obtain⟨t,rfl⟩:=rx
  have e':k=(i != 0):=e
  subst e'
  exact PySem.P.truthy_int ⟨H,I,q⟩
 |str y=>
  obtain⟨t,rfl⟩:=rx
  obtain⟨hy,e'⟩:y.length<=sizeLine/\k=((y.length:Int) != 0):=e
  subst e'
  exact PySem.P.truthy_str (by lia) ⟨H,I.tok _,q⟩
 |DL y=>
  obtain⟨t,rfl⟩:=rx
  obtain⟨hy,e'⟩:y.size<=sizeLine/\k=((y.size:Int) != 0):=e
  subst e'
  exact PySem.W.truthy_bytes (by lia) ⟨H,I.tok _,q⟩
 |ref p=>
  cases rx
  have e':(∃xs,il X.K H p xs/\k = !xs.isEmpty)\/(∃xs,c5 X.K H p xs/\k = !xs.isEmpty)\/∃aP,H p=some (.dK aP)/\k = !aP.isEmpty:=e
  rcases e' with ⟨xs,hx,e'⟩ |⟨xs,hx,e'⟩ |⟨aP,hx,e'⟩
  ·subst e'
   obtain⟨bA,r,pl,hz⟩:=I.list hx
   have hlen:=r.length
   exact wpAny_truthy_list pl.isList (by simp only[List.size_toArray];lia) ⟨H,I.tok _,by rw[vK r];exact q⟩
  ·subst e'
   obtain⟨bA,r,pl,hz⟩:=I.tuple hx
   have hlen:=r.length
   exact truthy_tuple pl (by simp only[List.size_toArray];lia) ⟨H,I.tok _,by rw[vK r];exact q⟩
  ·subst e'
   obtain⟨hz,hS,vs,r,m⟩:aP.length<=sizeLine/\(p==sysModules)=false/\∃vs,KV aP vs/\s.heap.DictOf (b3 X.prog X.w) p vs:=I.dU p _ hx
   have hlen:aP.length=vs.length:=Paired.length r
   exact wpAny_truthy_dict hS m (by lia) ⟨H,I.tok _,by rw[Cn r];exact q⟩
 |_=>exact(show False from e).elim
theorem Ho(ha:PE X a ta)(he:∀whole,isTrue a X.env whole=(do let v <- whole;standAt a.pos;holding [v] (truthy v))) :
 PT X a (fun σ H Q=>ta σ H fun x H'=>∃k,RA X.K x H' k/\Q k H'):=by
 intro pins s σ H Q I h
 refine isTrue_plain (fA (ha pins s σ H _ I h) fun v s1 zqz=>?_) (he _)
 obtain⟨x,H1,I1,r1,q1⟩:=zqz
 exact Oz pins s1 σ H1 x v Q I1 r1 q1
theorem vals1{x:V}{us:List Value}(r:Vals [x] us):∃u,us=[u]/\RelV x u:=by
 cases r with
 |cons r1 r2=>cases r2;exact⟨_,rfl,r1⟩
theorem vals2{x y:V}{us:List Value}(r:Vals [x,y] us):∃u w',us=[u,w']/\RelV x u/\RelV y w':=by
 cases r with
 |cons r1 r2=>
  cases r2 with
  |cons r3 r4=>cases r4;exact⟨_,_,rfl,r1,r3⟩
theorem Fq(hc:X.calm=true):qe X (.builtin "max") (fun xs H Q=>∃i j,xs=[.int i,.int j]/\Q (.int (if j>i then j else i)) H):=by
 intro pins s σ H xs us Q I r h
 obtain⟨i,j,rfl,q⟩:=h
 obtain⟨u,w',rfl,⟨t,rfl⟩,⟨t',rfl⟩⟩:=vals2 r
 refine max_two_ints (I.ok.hd hc) fun h' tk k=>⟨_,H,I.kept k,?_,q⟩
 by_cases hj:j>i
 ·rw[if_pos hj,if_pos hj];exact⟨_,rfl⟩
 ·rw[if_neg hj,if_neg hj];exact⟨_,rfl⟩
theorem Ft(hc:X.calm=true):qe X (.builtin "min") (fun xs H Q=>∃i j,xs=[.int i,.int j]/\Q (.int (if j<i then j else i)) H):=by
 intro pins s σ H xs us Q I r h
 obtain⟨i,j,rfl,q⟩:=h
 obtain⟨u,w',rfl,⟨t,rfl⟩,⟨t',rfl⟩⟩:=vals2 r
 refine min_two_ints (I.ok.hd hc) fun h' tk k=>⟨_,H,I.kept k,?_,q⟩
 by_cases hj:j<i
 ·rw[if_pos hj,if_pos hj];exact⟨_,rfl⟩
 ·rw[if_neg hj,if_neg hj];exact⟨_,rfl⟩
end
end L2
namespace L2
open PySem PySem.Spec PyProof.Rows
structure Co(h:Heap)(x dx C:Addr)(mA:Str->Option Value):Prop where
 obj:h.get? x=some (PySem.W.instObj C dx)
 ns:h.Ns1 dx mA
 ne:dx≠x
theorem Fu{h:Heap}{dx:Addr}{mA:Str->Option Value}(n:h.Ns1 dx mA):∃od,h.get? dx=some od/\∀name,PySem.W.lookIn name od=some (mA name):=by
 obtain⟨o,es,ep,ho,hd,hk,_,hm⟩:=n
 refine⟨o,ho,fun name=>?_⟩
 have e:=hm name
 unfold nsFind findBy at e
 rw[<- Array.find?_toList] at e
 unfold PySem.W.lookIn
 rw[hd]
 dsimp only
 split
 ·rename_i y q
  rw[q] at e
  exact congrArg some e
 ·rename_i q
  rw[q] at e
  have a:es.toList.any (·.refKey)=false:=by
   rw[List.any_eq_false]
   intro y hy
   obtain⟨z,t,Vu⟩:=hk y (Array.mem_toList_iff.mp hy)
   simp[DictEntry.refKey,Vu]
  have a':¬es.toList.any (·.refKey)=true:=by rw[a];exact Bool.false_ne_true
  rw[if_neg a']
  exact congrArg some e
theorem Co.look{h:Heap}{x dx C:Addr}{mA:Str->Option Value}(I:Co h x dx C mA):∃od,PySem.W.InstAt h x (PySem.W.instObj C dx) C (some od)/\∀name,PySem.W.lookIn name od=some (mA name):=
 let ⟨od,ho,hl⟩:=Fu I.ns
 ⟨od,⟨I.obj,rfl,rfl,ho⟩,hl⟩
section
variable{prog:Program}{w:World}{A:Around}{E:Value->Shared->Prop}{s:Shared}{K:PySem.W.Frag}{x dx C f:Addr}{mA:Str->Option Value}{name:Str}{v:Value}
theorem get_map{expr:Bool}{Q:Value->Shared->Prop}(X:K.In s.heap)(I:Co s.heap x dx C mA)(hg:PySem.W.plainGet K C name=true)(hh:PySem.W.hasDictIn K C=true)
 (ha:PySem.W.findIn K (.ref C) name=some none) (hv:mA name=some v) (B5:PySem.W.handedIn v=true) (h:Q v {s with toks:=s.toks+1}) :
 wpAny (model prog w) A (getAttr (.ref x) name expr) Q E s:=by
 obtain⟨od,J,hl⟩:=I.look
 exact PySem.W.get_value X J (PySem.W.plainGet_of hg).1 (PySem.W.findObj_own hh ha rfl (by rw[hl,hv])) B5 h
theorem Hq{pl:Sem Bool}{Q:Value×List Value->Shared->Prop}(X:K.In s.heap)(I:Co s.heap x dx C mA)(hg:PySem.W.plainGet K C name=true)
 (hf:PySem.W.findIn K (.ref C) name=some (some (.ref f))) (ht:PySem.W.isFn K (.ref f)=true) (hv:mA name=none) (h:Q (.ref f,[.ref x]) s) :
 wpAny (model prog w) A (getMethod (.ref x) name pl) Q E s:=by
 obtain⟨od,J,hl⟩:=I.look
 exact PySem.W.method_fn X J (PySem.W.plainGet_of hg).1 (PySem.W.plainGet_of hg).2 hf (beq_iff_eq.mp ht) (by show (PySem.W.lookIn name od).map (·.isSome)=some false;rw[hl,hv];rfl) h
theorem yV{ns:List Str}{Q:Unit->Shared->Prop}(X:K.In s.heap)(I:Co s.heap x dx C mA)
 (hs:PySem.W.findIn K (.ref C) "__setattr__"=some (some (.builtin "object.__setattr__"))) (hp:PySem.W.plainOver K C=true) (ht:PySem.W.takerIn K C name=some none) (hh:PySem.W.hasDictIn K C=true)
 (hw:PySem.Within mA ns) (hsz:ns.length<=sizeLine)
 (h:∀h',Co h' x dx C (fun y=>if y=name then some v else mA y)->Heap.SameBut dx s.heap h'->Q () {s with heap:=h',toks:=s.toks+2}) :
 wpAny (model prog w) A (setAttr (.ref x) name v) Q E s:=by
 obtain⟨od,J,hl⟩:=I.look
 refine PySem.W.set_plain X J hs (PySem.W.osa_open (s:={s with toks:=s.toks+1}) (r:=none) X J hp ht fun b=>?_)
 obtain⟨cd,hc,Ce⟩:=PySem.W.any_some hh
 have hx:s.heap.get? x=some ⟨.ref C,some dx,.plain, #[]⟩:=I.obj
 refine wpAny_bind (wpAny_pure (wpAny_bind (wpAny_bind (wpAny_loadPart hx (wpAny_bind (PySem.W.Looks.here (s:={s with toks:=s.toks+1}) (PySem.W.looks_clsIn X hc) ?_))))))
 rw[Ce]
 refine wpAny_pure (a:=some dx) (wpAny_bind (wpAny_pure (wpAny_bind ?_)))
 refine wpAny_nsSet1 (s:={s with toks:=s.toks+1}) I.ns fun h' OA Ys=>?_
 obtain⟨oD,esD,epD,hoD,hdD,hcD⟩:=OA.count (PySem.Within.cons name v hw)
 refine wpAny_bind (wpAny_lookBehind hoD (by rw[hdD];exact pastItsLine_dict (Nat.le_trans hcD (by rw[List.length_cons];lia))) ?_)
 exact wpAny_pure (h _ ⟨(Ys.2 _ (Ne.symm I.ne)).trans I.obj,OA,I.ne⟩ Ys)
theorem Hr{R:Result->Shared->Prop}{vs:List Value}{kw:List (Str×Value)}(X:K.In s.heap)(hm:PySem.W.makesIn K C=true)
 (hi:PySem.W.findIn K (.ref C) "__init__"=some (some (.ref f))) (hf:PySem.W.typeIn K (.ref f)=some (.type "function"))
 (h:codeAny (model prog w) (A.under (.builtin "type.__call__" ⟨.ref C::vs,kw⟩)) (.call (.ref f) ⟨.ref (s.heap.objs.size+1)::vs,kw⟩) (PySem.W.InitBack (s.heap.objs.size+1) R)
  {s with heap:=(s.heap.push PySem.W.emptyDict).push (PySem.W.instObj C s.heap.objs.size)}) :
 codeAny (model prog w) A (.call (.ref C) ⟨vs,kw⟩) R s:=by
 obtain⟨hh,g,d,t,os⟩:=s
 exact PySem.W.make_core (PySem.W.makes_of X hm) (PySem.W.looks_findIn X hi) (fun self=>PySem.W.bind_fn X self hf) (.inl rfl) h
end
def jz (f:Str) (v:V):List (Str×V)->List (Str×V)
 |[]=>[(f,v)]
 |(g,x)::r=>if g=f then (g,v)::r else (g,x)::jz f v r
theorem uO(f g:Str)(v:V):∀fs:List (Str×V),(jz f v fs).lookup g=if g=f then some v else fs.lookup g
 |[]=>by
  show List.lookup g [(f,v)]=_
  by_cases h:g=f
  ·have hb:(g==f)=true:=beq_iff_eq.mpr h
   simp only[List.lookup,hb,if_pos h]
  ·have hb:(g==f)=false:=beq_eq_false_iff_ne.mpr h
   simp only[List.lookup,hb,if_neg h]
 |(k,x)::r=>by
  have ih:=uO f g v r
  rw[show jz f v ((k,x)::r)=(if k=f then (k,v)::r else (k,x)::jz f v r) from rfl]
  by_cases hk:k=f
  ·rw[if_pos hk]
   by_cases h:g=k
   ·have hb:(g==k)=true:=beq_iff_eq.mpr h
    simp only[List.lookup,hb,if_pos (h.trans hk)]
   ·have hb:(g==k)=false:=beq_eq_false_iff_ne.mpr h
    simp only[List.lookup,hb,if_neg (fun e:g=f=>h (e.trans hk.symm))]
  ·rw[if_neg hk]
   by_cases h:g=k
   ·have hb:(g==k)=true:=beq_iff_eq.mpr h
    simp only[List.lookup,hb,if_neg (fun e:g=f=>hk (h.symm.trans e))]
   ·have hb:(g==k)=false:=beq_eq_false_iff_ne.mpr h
    simp only[List.lookup,hb]
    exact ih
theorem tV(f:Str)(v:V):∀fs:List (Str×V),f∈(jz f v fs).map (·.1)/\∀g,g∈fs.map (·.1)->g∈(jz f v fs).map (·.1)
 |[]=>⟨by simp[jz],fun g h=>by simp at h⟩
 |(k,x)::r=>by
  obtain⟨i1,i2⟩:=tV f v r
  rw[show jz f v ((k,x)::r)=(if k=f then (k,v)::r else (k,x)::jz f v r) from rfl]
  by_cases hk:k=f
  ·rw[if_pos hk]
   subst hk
   exact⟨by simp,fun g h=>by simpa using h⟩
  ·rw[if_neg hk]
   refine⟨?_,fun g h=>?_⟩
   ·rw[List.map_cons]
    exact List.mem_cons_of_mem _ i1
   ·rw[List.map_cons] at h ⊢
    rcases List.mem_cons.mp h with e |e
    ·exact List.mem_cons.mpr (.inl e)
    ·exact List.mem_cons_of_mem _ (i2 g e)
theorem uP(f:Str)(v:V):∀fs:List (Str×V),(jz f v fs).length<=fs.length+1
 |[]=>by simp[jz]
 |(k,x)::r=>by
  have ih:=uP f v r
  rw[show jz f v ((k,x)::r)=(if k=f then (k,v)::r else (k,x)::jz f v r) from rfl]
  by_cases hk:k=f
  ·rw[if_pos hk,List.length_cons,List.length_cons];lia
  ·rw[if_neg hk,List.length_cons,List.length_cons];lia
theorem mv.some_of{v:V}{o:Option Value}(r:mv (some v) o):∃u,o=some u/\RelV v u:=by
 cases o with
 |none=>exact(show False from r).elim
 |some u=>exact⟨u,rfl,r⟩
theorem mv.none_of{o:Option Value}(r:mv none o):o=none:=by
 cases o with
 |none=>rfl
 |some u=>exact(show False from r).elim
theorem Fv{v:V}{u:Value}(r:RelV v u):PySem.W.handedIn u=true:=by
 cases v with
 |ck=>cases (show u=Value.none from r);rfl
 |bl b=>cases (show u=Value.bool b from r);rfl
 |int i=>obtain⟨t,e⟩:=(show ∃t,u=Value.int i t from r);cases e;rfl
 |str x=>obtain⟨t,e⟩:=(show ∃t,u=Value.str x t from r);cases e;rfl
 |DL b=>obtain⟨t,e⟩:=(show ∃t,u=Value.bytes b t from r);cases e;rfl
 |N9 b=>obtain⟨t,e⟩:=(show ∃t,u=Value.float b t from r);cases e;rfl
 |ref a=>cases (show u=Value.ref a from r);rfl
 |ty n=>cases (show u=Value.type n from r);rfl
section
variable{P:Program}{w:World}{H H':Hp}{h h':Heap}{a C dx:Addr}{fs M4:List (Str×V)}
theorem vy(dU:rq P w H h)(e:H a=some (.ins C dx fs)):∃mA,Co h a dx C mA/\(∀f,mv (fs.lookup f) (mA f))/\PySem.Within mA (fs.map (·.1))/\fs.length<=1000/\H dx=some (.own a):=by
 obtain⟨d,z,ne,ob,mA,n,r,q⟩:=(show dF P w H h a (.ins C dx fs) from dU a _ e)
 exact⟨mA,⟨ob,n,ne⟩,r,q,z,d⟩
end
structure GS(K:PySem.W.Frag)(C:Addr):Prop where
 pg:PySem.W.plainGet K C Str.empty=true
 hd:PySem.W.hasDictIn K C=true
 po:PySem.W.plainOver K C=true
 sa:PySem.W.findIn K (.ref C) "__setattr__"=some (some (.builtin "object.__setattr__"))
theorem GS.get{K:PySem.W.Frag}{C:Addr}(c:GS K C)(f:Str):PySem.W.plainGet K C f=true:=c.pg
def gb (K:PySem.W.Frag) (C:Addr) (f:Str):Prop:=PySem.W.findIn K (.ref C) f=some none
theorem gb.RB{K:PySem.W.Frag}{C:Addr}{f:Str}(n:gb K C f):PySem.W.takerIn K C f=some none:=by
 unfold PySem.W.takerIn
 rw[show PySem.W.findIn K (.ref C) f=some none from n]
 rfl
structure Meth(K:PySem.W.Frag)(C:Addr)(m:Str)(f:Addr):Prop where
 at_:PySem.W.findIn K (.ref C) m=some (some (.ref f))
 fn:PySem.W.isFn K (.ref f)=true
 kp:PySem.W.keepIn K (.ref f)=true
section
variable{X:Cx}{pins:List (Addr×Obj)}{σ:St}{H:Hp}{s:Shared}{a C dx:Addr}{fs:List (Str×V)}{f:Str}{v:V}{A:Around}{E:Value->Shared->Prop}
theorem vL{b:Bool}{Q:Value->Shared->Prop}(I:Inv X pins σ H s)(e:H a=some (.ins C dx fs))(c:GS X.K C)(n:gb X.K C f)(l:fs.lookup f=some v)
 (h:∀u s',Inv X pins σ H s'->RelV v u->Q u s'):wpAny (model X.prog X.w) A (getAttr (.ref a) f b) Q E s:=by
 obtain⟨mA,O,r,_,_,_⟩:=vy I.dU e
 obtain⟨u,hu,ru⟩:=mv.some_of (v:=v) (o:=mA f) (by rw[<- l];exact r f)
 exact get_map I.vw O (c.get f) c.hd n hu (Fv ru) (h u _ (I.tok _) ru)
theorem Cp{m:Str}{g:Addr}{pl:Sem Bool}{Q:Value×List Value->Shared->Prop}(I:Inv X pins σ H s)(e:H a=some (.ins C dx fs))(c:GS X.K C)(k:Meth X.K C m g)(l:fs.lookup m=none)
 (h:Q (.ref g,[.ref a]) s):wpAny (model X.prog X.w) A (getMethod (.ref a) m pl) Q E s:=by
 obtain⟨mA,O,r,_,_,_⟩:=vy I.dU e
 have hn:mA m=none:=mv.none_of (by rw[<- l];exact r m)
 exact Hq I.vw O (c.get m) k.at_ k.fn hn h
theorem vM{y:V}{u:Value}{Q:Unit->Shared->Prop}(I:Inv X pins σ H s)(e:H a=some (.ins C dx fs))(c:GS X.K C)(n:gb X.K C f)(hl:fs.length<1000)(ry:RelV y u)
 (h:∀s',Inv X pins σ (upd H a (.ins C dx (jz f y fs))) s'->Q () s'):wpAny (model X.prog X.w) A (setAttr (.ref a) f u) Q E s:=by
 obtain⟨mA,O,r,wi,_,ho⟩:=vy I.dU e
 have hz:(fs.map (·.1)).length<=sizeLine:=by rw[List.length_map,sizeLine_eq];lia
 refine yV I.vw O c.sa c.po n.RB c.hd wi hz fun h' O' sb=>h _ ?_
 have hd:∃o,h'.get? dx=some o:=let ⟨o,_,_,e',_⟩:=O'.ns;⟨o,e'⟩
 refine I.write (x:=a) (e:=dx) (by rw[e];exact True.intro) (.inr ho) (fun b q hb z=>(sb.2 b hb).trans z) hd ?_
 refine⟨by rw[ay O.ne];exact ho,?_,O.ne,O'.obj,_,O'.ns,fun g=>?_,fun g hg=>?_⟩
 ·have:=uP f y fs;lia
 ·show mv ((jz f y fs).lookup g) (if g=f then some u else mA g)
  rw[uO]
  by_cases q:g=f
  ·rw[if_pos q,if_pos q];exact ry
  ·rw[if_neg q,if_neg q];exact r g
 ·by_cases q:g=f
  ·rw[q];exact(tV f y fs).1
  ·refine(tV f y fs).2 g (wi g fun z=>hg ?_)
   show (if g=f then some u else mA g)=none
   rw[if_neg q];exact z
theorem Inv.made(I:Inv X pins σ H s):Inv X pins σ (upd (upd H s.heap.objs.size (.own (s.heap.objs.size+1))) (s.heap.objs.size+1) (.ins C s.heap.objs.size []))
 {s with heap:=(s.heap.push PySem.W.emptyDict).push (PySem.W.instObj C s.heap.objs.size)}:=by
 have e1:(s.heap.push PySem.W.emptyDict).get? s.heap.objs.size=some PySem.W.emptyDict:=Heap.get?_push_size s.heap rfl
 have e2:((s.heap.push PySem.W.emptyDict).push (PySem.W.instObj C s.heap.objs.size)).get? (s.heap.objs.size+1)=some (PySem.W.instObj C s.heap.objs.size):=by
  have:=Heap.get?_push_size (s.heap.push PySem.W.emptyDict) (o:=PySem.W.instObj C s.heap.objs.size) rfl
  rwa [Heap.size_push] at this
 have e3:(s.heap.push PySem.W.emptyDict).Ns s.heap.objs.size (fun _=>none):=⟨PySem.W.emptyDict, #[],_,e1,rfl,(fun e he=>absurd he (by simp)),fun _=>rfl⟩
 have I1:=I.laid (a:=s.heap.objs.size) (o:=.own (s.heap.objs.size+1)) (h':=s.heap.push PySem.W.emptyDict) (t':=s.toks) (fun b u q=>Heap.get?_push_of_some _ q) (Nat.le_refl _) ⟨_,e1⟩
 refine I1.laid (a:=s.heap.objs.size+1) (o:=.ins C s.heap.objs.size []) (t':=s.toks) (fun b u q=>Heap.get?_push_of_some _ q) (Nat.le_of_eq (Heap.size_push _ _)) ?_
 have ne:s.heap.objs.size≠s.heap.objs.size+1:=Nat.ne_of_lt (Nat.lt_succ_self _)
 refine⟨by rw[ay ne,ai],Nat.zero_le _,ne,e2,fun _=>none,(Heap.Ns1.of_empty e3).at fun o q=>Heap.get?_push_of_some _ q,fun _=>True.intro,fun y hy=>absurd rfl hy⟩
theorem Li{prog:Program}{w:World}{env:Env}{e:Expr}{f:Str}{pos:Pos}{s:Shared}{Q:Value->Shared->Prop}(hb:attributeBase e f env (eval e env)=eval e env)
 (h:wpAny (model prog w) A (eval e env) (fun o s₁=>wpAny (model prog w) A (getAttr o f true) Q E s₁) E s):wpAny (model prog w) A (eval (.Attribute e f pos) env) Q E s:=
 Attribute_any_ h (by rw[arm_eval_Attribute,hb])
end
def OB (K:PySem.W.Frag) (ta:TE) (f:Str):TE:=fun σ H Q=>ta σ H fun x H1=>∃a C dx fs v,x=.ref a/\H1 a=some (.ins C dx fs)/\GS K C/\gb K C f/\fs.lookup f=some v/\Q v H1
def AG (K:PySem.W.Frag) (ta tv:TE) (f:Str):TS:=fun D σ H=>tv σ H fun y H1=>ta σ H1 fun x H2=>∃a C dx fs,x=.ref a/\H2 a=some (.ins C dx fs)/\GS K C/\gb K C f/\fs.length<1000/\
 D.nx σ (upd H2 a (.ins C dx (jz f y fs)))
def RC (X:Cx) (op:Operator) (rd:V->V->Hp->VK->Prop):Prop:=
 ∀(pins:List (Addr×Obj)) (s:Shared) (σ:St) (H:Hp) (x y:V) (u v:Value) (Q:VK),Inv X pins σ H s->RelV x u->RelV y v->rd x y H Q->wpAny (model X.prog X.w) X.A (inplaceOp op u v) (EP X pins σ Q) X.xe s
def yW (K:PySem.W.Frag) (ta tv:TE) (rd:V->V->Hp->VK->Prop) (f:Str):TS:=fun D σ H=>ta σ H fun x H1=>∃a C dx fs v,x=.ref a/\H1 a=some (.ins C dx fs)/\GS K C/\gb K C f/\fs.lookup f=some v/\
 tv σ H1 fun y H2=>rd v y H2 fun z H3=>∃Vv M4,H3 a=some (.ins C Vv M4)/\M4.length<1000/\D.nx σ (upd H3 a (.ins C Vv (jz f z M4)))
section
variable{X:Cx}{o e value:Expr}{f:Str}{pos pos' Hs:Pos}{ta tv:TE}
theorem da(he:PE X e ta)(hb:attributeBase e f X.env (eval e X.env)=eval e X.env):PE X (.Attribute e f pos) (OB X.K ta f):=by
 intro pins s σ H Q I h
 refine Li hb (fA (he pins s σ H _ I h) fun u s1 zqz=>?_)
 obtain⟨x,H1,I1,rx,a,C,dx,fs,v,ex,ea,c,n,l,q⟩:=zqz
 subst ex
 obtain rfl:u=Value.ref a:=rx
 exact vL I1 ea c n l fun u' s2 I2 ru=>⟨v,H1,I2,ru,q⟩
theorem iq(ha:PE X o ta)(hv:PE X value tv)(hs:swapsWith value (some (.Attribute o f pos')) pos.line X.env=pure false):PS X (.Assign [.Attribute o f pos'] value pos) (AG X.K ta tv f):=by
 intro pins s σ H D I h
 refine plainObj_wpAny_Assign_Attribute (fA (hv pins s σ H _ I h) fun u s1 zqz=>?_) hs
 obtain⟨y,H1,I1,ry,q⟩:=zqz
 refine fA (ha pins s1 σ H1 _ I1 q) fun ov s2 zqz=>?_
 obtain⟨x,H2,I2,rx,a,C,dx,fs,ex,ea,c,n,l,q2⟩:=zqz
 subst ex
 obtain rfl:ov=Value.ref a:=rx
 exact vM I2 ea c n l ry fun s3 I3=>⟨σ,_,I3,q2⟩
theorem Fw{op:Operator}{rd:V->V->Hp->VK->Prop}(ha:PE X o ta)(hv:PE X value tv)(OC:RC X op rd):PS X (.AugAssign (.Attribute o f Hs) op value pos) (yW X.K ta tv rd f):=by
 intro pins s σ H D I h
 refine wpAny_AugAssign_AttributeAny (fA (ha pins s σ H _ I h) fun ov s1 zqz=>?_)
 obtain⟨x,H1,I1,rx,a,C,dx,fs,v,ex,ea,c,n,l,q⟩:=zqz
 subst ex
 obtain rfl:ov=Value.ref a:=rx
 refine vL I1 ea c n l fun u s2 I2 ru=>fA (hv pins s2 σ H1 _ I2 q) fun w3 s3 zqz=>?_
 obtain⟨y,H2,I3,ry,q3⟩:=zqz
 refine fA (OC pins s3 σ H2 v y u w3 _ I3 ru ry q3) fun w4 s4 zqz=>?_
 obtain⟨z,H3,I4,rz,Vv,M4,ea',l',q4⟩:=zqz
 exact vM I4 ea' c n l' rz fun s5 I5=>⟨σ,_,I5,q4⟩
def Vw:V->V->Hp->VK->Prop:=fun x y H Q=>∃i j,x=.int i/\y=.int j/\Q (.int (i+j)) H
theorem OD:RC X .Add Vw:=by
 rintro pins s σ H x y u v Q I rx ry ⟨i,j,rfl,rfl,q⟩
 obtain⟨t,rfl⟩:=(show ∃t,u=Value.int i t from rx)
 obtain⟨t',rfl⟩:=(show ∃t',v=Value.int j t' from ry)
 exact PyProof.Rows.iadd_int ⟨.int (i+j),H,I.tok _,⟨_,rfl⟩,q⟩
end
section
variable{X:Cx}{pins:List (Addr×Obj)}{σ:St}{H:Hp}{s:Shared}{A:Around}{E:Value->Shared->Prop}{Q:Value->Shared->Prop}{c:Value}{b:Bool}
inductive tW(K:PySem.W.Frag)(H:Hp):V->Value->Prop where
 |ck:tW K H .ck (.type "NoneType")
 |bl (x:Bool):tW K H (.bl x) (.type "bool")
 |int (i:Int):tW K H (.int i) (.type "int")
 |str (x:Str):tW K H (.str x) (.type "str")
 |N9 (x:UInt64):tW K H (.N9 x) (.type "float")
 |lst {a:Addr} {xs:List V} (e:H a=some (.lst xs)):tW K H (.ref a) (.type "list")
 |Cc {a:Addr} {o:Obj} {xs:List V} (e:H a=some (.Cc o (.lst xs))):tW K H (.ref a) (.type "list")
 |tup {a:Addr} {xs:List V} (e:H a=some (.tup xs)):tW K H (.ref a) (.type "tuple")
 |dK {a:Addr} {aP:List (Key×V)} (e:H a=some (.dK aP)):tW K H (.ref a) (.type "dict")
 |dT {a:Addr} {aP:List (List Key×V)} (e:H a=some (.dT aP)):tW K H (.ref a) (.type "dict")
 |ins {a C dx:Addr} {fs:List (Str×V)} (e:H a=some (.ins C dx fs)) (cl:GS K C) (ha:PySem.W.findIn K (.ref C) "__class__"=some (some (.builtin "object.__class__")))
  (hn:PySem.W.specialIn K (.builtin "object.__class__") "__get__"=some (some (.builtin "getset_descriptor.__get__"))) (Yt:PySem.W.takesIn K (.builtin "object.__class__")=some true)
  (hm:PySem.W.mroIn K C (.type "object")=some true):tW K H (.ref a) (.ref C)
theorem Fx{x:V}{u t:Value}(I:Inv X pins σ H s)(rx:RelV x u)(ty:tW X.K H x t)(e:PySem.W.kitOne X.K t c=some b)(h:∀tk,Q (.bool b) {s with toks:=tk}) :
 wpAny (model X.prog X.w) A (call (.builtin "isinstance") [u,c]) Q E s:=by
 cases ty with
 |ck=>cases (show u=Value.none from rx);exact PySem.W.kia_one PySem.W.kitx_none I.vw True.intro e (fun z=>nomatch z) h
 |bl y=>cases (show u=Value.bool y from rx);exact PySem.W.kia_one PySem.W.kitx_bool I.vw True.intro e (fun z=>nomatch z) h
 |int i=>obtain⟨t,q⟩:=(show ∃t,u=Value.int i t from rx);cases q;exact PySem.W.kia_one PySem.W.kitx_int I.vw True.intro e (fun z=>nomatch z) h
 |str y=>obtain⟨t,q⟩:=(show ∃t,u=Value.str y t from rx);cases q;exact PySem.W.kia_one PySem.W.kitx_str I.vw True.intro e (fun z=>nomatch z) h
 |N9 y=>obtain⟨t,q⟩:=(show ∃t,u=Value.float y t from rx);cases q;exact PySem.W.kia_one PySem.W.kitx_float I.vw True.intro e (fun z=>nomatch z) h
 |@lst a xs ea=>
  cases (show u=Value.ref a from rx)
  obtain⟨_,_,n,_,h1⟩:=(show dF X.prog X.w H s.heap a (.lst xs) from I.dU a _ ea)
  exact PySem.W.kia_one PySem.W.kitx_list I.vw ⟨_,h1,rfl⟩ e (fun z=>nomatch z) h
 |@Cc a ob xs ea=>
  cases (show u=Value.ref a from rx)
  obtain⟨_,_,_,n,_,h1⟩:=(show dF X.prog X.w H s.heap a (.Cc ob (.lst xs)) from I.dU a _ ea)
  exact PySem.W.kia_one PySem.W.kitx_list I.vw ⟨_,h1,rfl⟩ e (fun z=>nomatch z) h
 |@tup a xs ea=>
  cases (show u=Value.ref a from rx)
  obtain⟨_,_,_,p⟩:=(show dF X.prog X.w H s.heap a (.tup xs) from I.dU a _ ea)
  obtain⟨o,h1,h2,_⟩:=p
  exact PySem.W.kia_one PySem.W.kitx_tuple I.vw ⟨o,h1,h2⟩ e (fun z=>nomatch z) h
 |@dK a aP ea=>
  cases (show u=Value.ref a from rx)
  obtain⟨_,_,vs,_,p⟩:=(show dF X.prog X.w H s.heap a (.dK aP) from I.dU a _ ea)
  obtain⟨o,es,ep,h1,h2,_⟩:=p
  exact PySem.W.kia_one PySem.W.kitx_dict I.vw ⟨o,h1,h2.1⟩ e (fun z=>nomatch z) h
 |@dT a aP ea=>
  cases (show u=Value.ref a from rx)
  obtain⟨_,_,xs,_,o,es,ep,h1,h2,_⟩:=(show dF X.prog X.w H s.heap a (.dT aP) from I.dU a _ ea)
  exact PySem.W.kia_one PySem.W.kitx_dict I.vw ⟨o,h1,h2.1⟩ e (fun z=>nomatch z) h
 |@ins a C dx fs ea cl ha hn Yt hm=>
  cases (show u=Value.ref a from rx)
  obtain⟨mA,O,_⟩:=vy I.dU ea
  obtain⟨od,J,_⟩:=O.look
  exact PySem.W.kia_one (PySem.W.kitx_own (cl.get _) cl.hd ha hn Yt hm) I.vw J e (fun z=>nomatch z) h
end
end L2
namespace L2
open PySem PySem.Spec PyProof.Rows
structure ie(k:Nat)(A:Around):Prop where
 hd:A.handled=none
 dp:A.depth+3*k+5<recursionLimit
 un:A.units+16*k+200<cLine
theorem ie.mono{j k:Nat}{A:Around}(r:ie k A)(h:j<=k):ie j A:=⟨r.hd,by have:=r.dp;lia,by have:=r.un;lia⟩
theorem ie.deeper{k:Nat}{A:Around}(r:ie (k+1) A)(env:Env):ie k (A.deeper env):=
 ⟨r.hd,by have:=r.dp;show A.depth+1+3*k+5<_;lia,by have:=r.un;show A.units+3+16*k+200<_;lia⟩
theorem ie.in1{k:Nat}{A:Around}(r:ie (k+1) A):ie k A.in1:=
 ⟨r.hd,by have:=r.dp;show A.depth+3*k+5<_;lia,by have:=r.un;show A.units+1+16*k+200<_;lia⟩
theorem Cq{A:Around}{C:Addr}{us:List Value}{kw:List (Str×Value)}:(A.under (.builtin "type.__call__" ⟨.ref C::us,kw⟩)).depth=A.depth+1:=by
 first |rfl |simp[Around.under,Code.weight,Code.isCreation,Code.isGuard,Code.isCaller,Code.frames,Code.isFrame,guardIds]
theorem Cr{A:Around}{C:Addr}{us:List Value}{kw:List (Str×Value)}:(A.under (.builtin "type.__call__" ⟨.ref C::us,kw⟩)).units=A.units+1:=by
 first |rfl |simp[Around.under,Code.cUnits,Code.frames,Code.isFrame]
theorem ie.make{k:Nat}{A:Around}(r:ie (k+1) A)(C:Addr)(us:List Value)(kw:List (Str×Value)):ie k (A.under (.builtin "type.__call__" ⟨.ref C::us,kw⟩)):=
 ⟨r.hd,by have:=r.dp;rw[Cq];lia,by have:=r.un;rw[Cr];lia⟩
theorem ie.depth{k:Nat}{A:Around}(r:ie k A):A.depth<recursionLimit:=by have:=r.dp;lia
theorem ie.units{k:Nat}{A:Around}(r:ie k A):A.units+64<cLine:=by have:=r.un;lia
def OE:TA:=fun _ H Q=>Q [] H
def Nc (ta:TE) (tr:TA):TA:=fun σ H Q=>ta σ H fun x H1=>tr σ H1 fun xs H2=>Q (x::xs) H2
section
variable{X:Cx}{e:Expr}{es:List Expr}{te:TE}{t:TA}{pos:Pos}
theorem ah:PA X [] OE:=fun _ _ _ _ H Q I h=>Calls.spliced_nil ⟨[],H,I,.nil,h⟩
theorem aa(ha:PE X e te)(hr:PA X es t)(hs:starEach (e::es) X.env=(false,eval e X.env)::starEach es X.env:=by rfl):PA X (e::es) (Nc te t):=by
 intro pos pins s σ H Q I h
 rw[hs]
 show wpAny _ _ (spliced ((false,eval e X.env)::backTo pos (starEach es X.env))) _ _ s
 refine Calls.spliced_cons (fA (ha pins s σ H _ I h) fun u s1 zqz=>?_)
 obtain⟨x,H1,I1,r1,q1⟩:=zqz
 refine fA (hr pos pins s1 σ H1 _ I1 q1) fun us s2 zqz=>?_
 obtain⟨xs,H2,I2,r2,q2⟩:=zqz
 exact ⟨x::xs,H2,I2,.cons r1 r2,q2⟩
def RD (t:TA):TE:=fun σ H Q=>t σ H fun xs H1=>xs.length<=sizeLine/\∀p,H1 p=none->Q (.ref p) (upd H1 p (.tup xs))
def RE (t:TA):TE:=fun σ H Q=>t σ H fun xs H1=>xs.length<=sizeLine/\∀p,H1 p=none->Q (.ref p) (upd H1 p (.lst xs))
theorem aZ{x1}(h:PA X es t):PE X (.Tuple es x1 pos) (RD t):=by
 intro pins s σ H Q I hq
 refine wpAny_Tuple_spliced (fA (h pos pins s σ H _ I hq) fun us s1 ⟨xs,H1,I1,r,z,q⟩=>⟨by rw[<- r.length];exact z,?_⟩)
 have hf:H1 s1.heap.objs.size=none:=I1.dU.fresh (Nat.le_refl _)
 refine⟨.ref s1.heap.objs.size,upd H1 s1.heap.objs.size (.tup xs),I1.laid (t':=s1.toks) (fun b u e=>Heap.get?_push_of_some _ e) (Nat.le_refl _) ?_,rfl,q _ hf⟩
 exact⟨z,us,r,⟨_,Heap.get?_push_size _ rfl,rfl,_,rfl⟩⟩
theorem bJ(h:PA X es t):PE X (.List es pos) (RE t):=by
 intro pins s σ H Q I hq
 refine wpAny_List_spliced (fA (h pos pins s σ H _ I hq) fun us s1 ⟨xs,H1,I1,r,z,q⟩=>⟨by rw[<- r.length];exact z,?_⟩)
 have hf:H1 s1.heap.objs.size=none:=I1.dU.fresh (Nat.le_refl _)
 refine⟨.ref s1.heap.objs.size,upd H1 s1.heap.objs.size (.lst xs),I1.laid (t':=s1.toks) (fun b u e=>Heap.get?_push_of_some _ e) (Nat.le_refl _) ?_,rfl,q _ hf⟩
 exact⟨z,us,0,r,Heap.get?_push_size _ rfl⟩
end
abbrev Sp:=List V->Hp->VK->XK->Prop
abbrev B6:=List Env->Hp->Shared->XK->Value->Shared->Prop
structure Cs(P:Program)(w:World)(K:PySem.W.Frag)(mg:Str->Option Value)(base:Heap)(A:Around)(outer:List Env)(s:Shared)(H:Hp):Prop where
 frames:A.frames=some outer
 mod:Mod K mg base
 bs:∀b o,base.get? b=some o->s.heap.get? b=some o/\H b=none
 Cd:base.objs.size<=s.heap.objs.size
 vd:s.heap.FunFrames base outer
 Ob:∀b∈dO outer,H b=none
 dU:rq P w H s.heap
 bare:AllBare s.gens
def CE (outer:List Env) (P:Program) (w:World) (H:Hp) (s:Shared) (Q:VK) (u:Value) (s':Shared):Prop:=
 ∃v H',s'.os=s.os/\AllBare s'.gens/\Un (dO outer) [] H H' s.heap s'.heap/\rq P w H' s'.heap/\RelV v u/\Q v H'
def CR (CX:B6) (outer:List Env) (P:Program) (w:World) (H:Hp) (s:Shared) (Q:VK) (E:XK) (r:Result) (s':Shared):Prop:=
 match r with
 |.ok (.ret u)=>CE outer P w H s Q u s'
 |.ok _=>False
 |.error e=>CX outer H s E e s'
structure bQ(P:Program)(w:World)(K:PySem.W.Frag)(mg:Str->Option Value)(base:Heap)(CX:B6)(k:Nat)(f:Addr)(fd:FuncData)(ps:List Str)(sp:Sp):Prop where
 len:∀vs H Q E,sp vs H Q E->vs.length=ps.length
 run:∀(A:Around) (outer:List Env) (s:Shared) (H:Hp) (args:Args) (us:List Value) (vs:List V) (Q:VK) (E:XK),ie k A->Cs P w K mg base A outer s H->BindsTo s fd args (ps.zip us)->Vals vs us->sp vs H Q E->
  codeAny (model P w) A (.call (.ref f) args) (CR CX outer P w H s Q E) s
theorem Cs.make{P:Program}{w:World}{K:PySem.W.Frag}{mg:Str->Option Value}{base:Heap}{A:Around}{outer:List Env}{s:Shared}{H:Hp}(e:Cs P w K mg base A outer s H)(C:Addr)(us:List Value)(kw:List (Str×Value)) :
 Cs P w K mg base (A.under (.builtin "type.__call__" ⟨.ref C::us,kw⟩)) outer s H:=⟨by first |exact e.frames |(simpa[Around.under,Code.envs,Code.isFrame,pushEnvs] using e.frames),e.mod,e.bs,e.Cd,e.vd,e.Ob,e.dU,e.bare⟩
section
variable{X:Cx}{pins:List (Addr×Obj)}{σ:St}{H:Hp}{s s':Shared}
theorem Inv.RG(I:Inv X pins σ H s):Cs X.prog X.w X.K X.mg X.base X.A X.stack s H:=
 ⟨I.ok.frames,I.ok.mod,I.bs,Nat.le_trans I.ok.Cd I.sz,I.stack,I.DM,I.dU,I.bare⟩
theorem Inv.after{Q:VK}{u:Value}(I:Inv X pins σ H s)(h:CE X.stack X.prog X.w H s Q u s'):EP X pins σ Q u s':=by
 obtain⟨v,H',os,bare,un,dU,r,q⟩:=h
 obtain⟨hh,g,d,t,os'⟩:=s'
 obtain rfl:os'=s.os:=os
 exact⟨v,H',I.call (h':=hh) (g':=g) (d':=d) (t':=t) (ch:=[]) un dU bare (fun b z=>absurd z (by simp)),r,q⟩
end
def Nd (sp:Sp) (vN:List V) (E:XK) (t:TA):TE:=fun σ H Q=>t σ H fun vs H1=>sp (vs++vN) H1 Q E
def Ht (C:Addr) (m:Str) (sp:Sp) (vN:List V) (E:XK) (ta:TE) (t:TA):TE:=fun σ H Q=>ta σ H fun x H1=>∃a dx fs,x=.ref a/\H1 a=some (.ins C dx fs)/\fs.lookup m=none/\
 t σ H1 fun vs H2=>sp (x::(vs++vN)) H2 Q E
def Hu (C:Addr) (sp:Sp) (vN:List V) (E:XK) (t:TA):TE:=fun σ H Q=>t σ H fun vs H1=>∀x dx,H1 x=none->H1 dx=none->dx≠x->
 sp (.ref x::(vs++vN)) (upd (upd H1 dx (.own x)) x (.ins C dx [])) (fun v H2=>v=.ck/\Q (.ref x) H2) E
def Binds (K:PySem.W.Frag) (fd:FuncData) (ps:List Str) (ds:List Value):Prop:=
 ∀(s:Shared) (us:List Value),K.In s.heap->(us++ds).length=ps.length->BindsTo s fd ⟨us,[]⟩ (ps.zip (us++ds))
theorem Binds.all{K:PySem.W.Frag}{fd:FuncData}{ps:List Str}(h:∀us:List Value,us.length=ps.length->bindArgs fd ⟨us,[]⟩=pure (ps.zip us)):Binds K fd ps []:=fun s us _ hl=>by
 rw[List.append_nil] at hl ⊢
 exact .of_eq (h us hl)
def Passes (CX:B6) (X:Cx) (E:XK):Prop:=∀(pins:List (Addr×Obj)) (σ:St) (H:Hp) (s:Shared) (e:Value) (s':Shared),Inv X pins σ H s->CX X.stack H s E e s'->X.xe e s'
section
variable{X:Cx}{CX:B6}{k:Nat}{f C:Addr}{fd:FuncData}{ps:List Str}{sp:Sp}{vN:List V}{ds:List Value}{E:XK}{x m:Str}{p pos apos:Pos}{e o:Expr}{es:List Expr}{ta:TE}{t:TA}
theorem Hv{pins:List (Addr×Obj)}{σ:St}{H:Hp}{s:Shared}{Q:VK}{us:List Value}{vs:List V}(F:bQ X.prog X.w X.K X.mg X.base CX k f fd ps sp)(hr:ie k X.A)(hb:Binds X.K fd ps ds)(hd:Vals vN ds)(hx:Passes CX X E)
 (I:Inv X pins σ H s) (r:Vals vs us) (h:sp (vs++vN) H Q E):wpAny (model X.prog X.w) X.A (call (.ref f) us) (EP X pins σ Q) X.xe s:=by
 have r2:Vals (vs++vN) (us++ds):=r.append hd
 have hl:(us++ds).length=ps.length:=by rw[<- r2.length];exact F.len _ _ _ _ h
 refine wpAny_call (codeAny_mono (F.run X.A X.stack s H ⟨us,[]⟩ (us++ds) (vs++vN) Q E hr I.RG (hb s us I.vw hl) r2 h) fun r s' hq=>?_)
 cases r with
 |error e=>exact hx pins σ H s e s' I hq
 |ok fl=>
  cases fl with
  |ret u=>exact I.after hq
  |next=>exact False.elim hq
  |brk=>exact False.elim hq
  |cont=>exact False.elim hq
theorem aG(F:bQ X.prog X.w X.K X.mg X.base CX k f fd ps sp)(hr:ie k X.A)(hg:Gl X x)(hm:X.mg x=some (.ref f))(hk:PySem.W.keepIn X.K (.ref f)=true)(hb:Binds X.K fd ps ds)(hd:Vals vN ds)(hx:Passes CX X E)
 (ha:PA X (e::es) t) (OF:(x==("__debug__":Str))=false:=by decide) (he:starEach (e::es) X.env=(false,eval e X.env)::starEach es X.env:=by rfl) (KN:(backTo pos (starEach es X.env)).any (·.1)=false:=by rfl) :
 PE X (.Call (.Name x p) (e::es) [] pos) (Nd sp vN E t):=by
 intro pins s σ H Q I h
 refine wpAny_Call_Name_kw (yS I hg hm ?_ OF)
 refine PySem.W.callWith_K (h₀:=X.base) I.ok.mod.Ua hk (fA (ha pos pins s σ H _ I h) fun us s1 ⟨vs,H1,I1,r,q⟩=>⟨I1.vw,?_⟩) he KN
 exact Hv F hr hb hd hx I1 r q
theorem nU{pl:Sem Bool}(he:PE X o ta)(c:GS X.K C)(hm:Meth X.K C m f)(F:bQ X.prog X.w X.K X.mg X.base CX k f fd ps sp)(hr:ie k X.A)(hb:Binds X.K fd ps ds)(hd:Vals vN ds)(hx:Passes CX X E)
 (ht:eval (.Call (.Attribute o m apos) [] [] pos) X.env=(do
  let ov <- eval o X.env
  standAt apos.atName
  let (f,first) <- holding [ov] (getMethod ov m pl)
  callWith pos f first (backTo pos (starEach [] X.env)) (backToKw pos (keywordEach [] X.env))):=by rfl) :
 PE X (.Call (.Attribute o m apos) [] [] pos) (Ht C m sp vN E ta OE):=by
 intro pins s σ H Q I h
 refine PySem.W.methodCall_KW (pl:=pl) (fA (he pins s σ H _ I h) fun u s1 zqz=>?_) ht
 obtain⟨x,H1,I1,rx,a,dx,fs,ex,ea,l,q⟩:=zqz
 subst ex
 obtain rfl:u=Value.ref a:=rx
 refine Cp I1 ea c hm l ?_
 exact PySem.W.callWith_K0 (first:=[.ref a]) I1.vw hm.kp (Hv (us:=[.ref a]) (vs:=[.ref a]) F hr hb hd hx I1 (.cons rfl .nil) q)
structure Mk(K:PySem.W.Frag)(C f:Addr):Prop where
 makes:PySem.W.makesIn K C=true
 init:PySem.W.findIn K (.ref C) "__init__"=some (some (.ref f))
 fn:PySem.W.isFn K (.ref f)=true
 kp:PySem.W.keepIn K (.ref C)=true
theorem Hw{pins:List (Addr×Obj)}{σ:St}{H:Hp}{s:Shared}{Q:VK}{us:List Value}{vs:List V}(M:Mk X.K C f)(F:bQ X.prog X.w X.K X.mg X.base CX k f fd ps sp)(hr:ie (k+1) X.A)(hb:Binds X.K fd ps ds)(hd:Vals vN ds)
 (hx:Passes CX X E) (I:Inv X pins σ H s) (r:Vals vs us)
 (h:∀x dx,H x=none->H dx=none->dx≠x->sp (.ref x::(vs++vN)) (upd (upd H dx (.own x)) x (.ins C dx [])) (fun v H2=>v=.ck/\Q (.ref x) H2) E) :
 wpAny (model X.prog X.w) X.A (call (.ref C) us) (EP X pins σ Q) X.xe s:=by
 have hq:=h (s.heap.objs.size+1) s.heap.objs.size (I.dU.fresh (Nat.le_succ _)) (I.dU.fresh (Nat.le_refl _)) (Nat.ne_of_lt (Nat.lt_succ_self _))
 have I2:=Inv.made (C:=C) I
 have r2:Vals (V.ref (s.heap.objs.size+1)::(vs++vN)) (Value.ref (s.heap.objs.size+1)::(us++ds)):=.cons rfl (r.append hd)
 have hl:(Value.ref (s.heap.objs.size+1)::us++ds).length=ps.length:=by
  have e:=r2.length
  rw[F.len _ _ _ _ hq] at e
  exact e.symm
 refine wpAny_call (Hr (f:=f) I.vw M.makes M.init (beq_iff_eq.mp M.fn) (codeAny_mono (F.run _ X.stack _ _ ⟨Value.ref (s.heap.objs.size+1)::us,[]⟩ (Value.ref (s.heap.objs.size+1)::(us++ds)) _ _ E (hr.make C us [])
  (I2.RG.make C us []) (hb _ (Value.ref (s.heap.objs.size+1)::us) I2.vw hl) r2 hq) fun r s' RH=>?_))
 cases r with
 |error e=>exact hx pins σ _ _ e s' I2 RH
 |ok fl=>
  cases fl with
  |ret u=>
   obtain⟨v,H',I3,rv,ev,q3⟩:=I2.after RH
   subst ev
   exact⟨rv,⟨V.ref (s.heap.objs.size+1),H',I3,rfl,q3⟩⟩
  |next=>exact False.elim RH
  |brk=>exact False.elim RH
  |cont=>exact False.elim RH
theorem DX(M:Mk X.K C f)(F:bQ X.prog X.w X.K X.mg X.base CX k f fd ps sp)(hr:ie (k+1) X.A)(hg:Gl X x)(hm:X.mg x=some (.ref C))(hb:Binds X.K fd ps ds)(hd:Vals vN ds)(hx:Passes CX X E)
 (ha:PA X (e::es) t) (OF:(x==("__debug__":Str))=false:=by decide) (he:starEach (e::es) X.env=(false,eval e X.env)::starEach es X.env:=by rfl) (KN:(backTo pos (starEach es X.env)).any (·.1)=false:=by rfl) :
 PE X (.Call (.Name x p) (e::es) [] pos) (Hu C sp vN E t):=by
 intro pins s σ H Q I h
 refine wpAny_Call_Name_kw (yS I hg hm ?_ OF)
 refine PySem.W.callWith_K (h₀:=X.base) I.ok.mod.Ua M.kp (fA (ha pos pins s σ H _ I h) fun us s1 ⟨vs,H1,I1,r,q⟩=>⟨I1.vw,?_⟩) he KN
 exact Hw M F hr hb hd hx I1 r q
end
section
variable{X:Cx}{CX:B6}{k:Nat}{f C:Addr}{fd:FuncData}{ps ks:List Str}{sp:Sp}{E:XK}{x m:Str}{p pos apos Vx:Pos}{e o:Expr}{es:List Expr}{kws:List Keyword}{te ta:TE}{t tk:TA}{nm:Option Str}
variable{g:List Value->List Value->List Value}{gV:List V->List V->List V}
end
structure bj(N P:List Str)(sc:Scope):Prop where
 kind:sc.kind=.function
 co:sc.isCoroutine=false
 gen:sc.isGenerator=false
 nd:N.Nodup
 pre:N.take P.length=P
 par:∀x∈P,sc.names.lookup x=some .local\/sc.names.lookup x=some .cell
 OG:∀y∈sc.names,y.2≠.free
theorem xU{kindOf:Str->Option NameKind}{x:Str}:∀ {binds:List (Str×Value)} {m:Str->Option Value},(∀v,(x,v) ∉ binds)->bindL kindOf binds m x=m x
 |[],_,_=>rfl
 |(n,v)::r,m,h=>by
  unfold bindL
  rw[xU fun w hw=>h w (List.mem_cons_of_mem _ hw)]
  split
  ·have:x≠n:=by rintro rfl;exact h v List.mem_cons_self
   simp[this]
  ·rfl
theorem xV{kindOf:Str->Option NameKind}{x:Str}:∀ {binds:List (Str×Value)} {m:Str->Option Value},(∀v,(x,v) ∉ binds)->bindC kindOf binds m x=m x
 |[],_,_=>rfl
 |(n,v)::r,m,h=>by
  unfold bindC
  rw[xV fun w hw=>h w (List.mem_cons_of_mem _ hw)]
  split
  ·rfl
  ·have:x≠n:=by rintro rfl;exact h v List.mem_cons_self
   simp[this]
theorem xW{kindOf:Str->Option NameKind}{x:Str}{v:Value}:∀ {P:List Str} {vs:List Value} {i:Nat} {m:Str->Option Value},P.Nodup->P[i]?=some x->vs[i]?=some v->kindOf x=some .local->
 bindL kindOf (P.zip vs) m x=some v
 |[],_,_,_,_,h,_,_=>by simp at h
 |_::_,[],_,_,_,_,h,_=>by simp at h
 |p::P,w::vs,0,m,nd,h1,h2,hk=>by
  simp at h1 h2;subst h1;subst h2
  show bindL kindOf ((p,w)::P.zip vs) m p=_
  unfold bindL
  rw[xU fun v hv=>(List.nodup_cons.mp nd).1 (List.of_mem_zip hv).1,if_pos hk]
  simp
 |p::P,w::vs,i+1,m,nd,h1,h2,hk=>by
  show bindL kindOf ((p,w)::P.zip vs) m x=_
  unfold bindL
  exact xW (i:=i) (List.nodup_cons.mp nd).2 (by simpa using h1) (by simpa using h2) hk
theorem xX{kindOf:Str->Option NameKind}{x:Str}{v:Value}:∀ {P:List Str} {vs:List Value} {i:Nat} {m:Str->Option Value},P.Nodup->P[i]?=some x->vs[i]?=some v->kindOf x≠some .local->
 bindC kindOf (P.zip vs) m x=some v
 |[],_,_,_,_,h,_,_=>by simp at h
 |_::_,[],_,_,_,_,h,_=>by simp at h
 |p::P,w::vs,0,m,nd,h1,h2,hk=>by
  simp at h1 h2;subst h1;subst h2
  show bindC kindOf ((p,w)::P.zip vs) m p=_
  unfold bindC
  rw[xV fun v hv=>(List.nodup_cons.mp nd).1 (List.of_mem_zip hv).1,if_neg hk]
  simp
 |p::P,w::vs,i+1,m,nd,h1,h2,hk=>by
  show bindC kindOf ((p,w)::P.zip vs) m x=_
  unfold bindC
  exact xX (i:=i) (List.nodup_cons.mp nd).2 (by simpa using h1) (by simpa using h2) hk
def start (N:List Str) (vs:List V):St:=vs.map some++List.replicate (N.length-vs.length) none
def xq (CX:B6) (P:Program) (w:World) (K:PySem.W.Frag) (mg:Str->Option Value) (base:Heap) (N:List Str) (qual:Str) (scope:Scope) (f:Addr) (cd:Value) (A:Around) (outer:List Env) (s:Shared) (H:Hp) (E:XK):Cx where
 prog:=P
 w:=w
 K:=K
 mg:=mg
 base:=base
 A:=A.deeper (envOfC qual scope s.heap.objs.size f cd)
 N:=N
 s₀:=s
 H₀:=H
 env:=envOfC qual scope s.heap.objs.size f cd
 outer:=outer
 stack:=envOfC qual scope s.heap.objs.size f cd::outer
 ex:=[]
 calm:=true
 fn:=fun _=>true
 pn:=[]
 xe:=fun e s'=>wpAny (model P w) (A.deeper (envOfC qual scope s.heap.objs.size f cd)) (leaving (envOfC qual scope s.heap.objs.size f cd) e) (fun _ Vy=>CX outer H s E e Vy) (fun e' Vy=>CX outer H s E e' Vy) s'
theorem AH{sc:Scope}{n:Nat}{x:Str}(h:sc.names.lookup x=some .cell):∃c,(cellsFrom n sc.names []).lookup x=some c:=by
 have q:=PySem.W.cellsFrom_some sc.names n [] (.inl h)
 exact Option.isSome_iff_exists.mp q
theorem Fy{CX:B6}{P:Program}{w:World}{K:PySem.W.Frag}{mg:Str->Option Value}{base:Heap}{N ps:List Str}{qual:Str}{scope:Scope}{f:Addr}{cd:Value}{A:Around}{outer:List Env}{s s1:Shared}{H:Hp}{E:XK}{us:List Value}{vs:List V}
 (S:bj N ps scope) (hd:A.handled=none) (e0:Cs P w K mg base A outer s H) (hl:vs.length=ps.length) (r:Vals vs us)
 (x:InCallC s s.heap.objs.size (bindL (envOfC qual scope s.heap.objs.size f cd).kindOf (ps.zip us) fun _=>none) (cellsFrom (s.heap.objs.size+1) scope.names []) (bindC (envOfC qual scope s.heap.objs.size f cd).kindOf (ps.zip us) fun _=>none) s1) :
 Inv (xq CX P w K mg base N qual scope f cd A outer s H E) [] (start N vs) H s1:=by
 have KN:ps.length<=N.length:=by have:=congrArg List.length S.pre;rw[List.length_take] at this;lia
 obtain⟨h1,tk,rfl,hk⟩:=x.done
 have RI:∀b:Addr,b ∉ (xq CX P w K mg base N qual scope f cd A outer s H E).ex:=fun b z=>absurd (show b∈([]:List Addr) from z) (by simp)
 refine⟨⟨e0.mod,S.kind,rfl,rfl,Nat.le_refl _,fun y z c h1 h2=>?_,fun y hy=>?_,fun y c _ h=>?_,fun _=>hd,Around.frames_deeper e0.frames,.inr ⟨rfl,rfl⟩,fun b z=>absurd z (RI b),e0.bs,e0.Cd,fun b _ _=>RI b,fun b z=>absurd z (RI b),e0.vd,e0.Ob⟩,
  rfl,e0.bare,Un.kept hk,⟨_,x.toInCall.ns,fun i y v h1 h2 h3=>?_⟩,fun y c h=>⟨_,x.cell y c h⟩,e0.dU.fresh (Nat.le_refl _),fun y c h=>?_,fun p hp=>absurd (show p∈([]:List (Addr×Obj)) from hp) (by simp),e0.dU.kept hk,?_⟩
 ·exact name_of_addr x.apart (PySem.mem_of_lookup h1) (PySem.mem_of_lookup h2)
 ·have hy:scope.names.lookup y=some .cell\/scope.names.lookup y=some .free:=hy
  rcases hy with hy |hy
  ·exact AH hy
  ·exact absurd rfl (S.OG _ (PySem.mem_of_lookup hy))
 ·exact Nat.le_of_lt (x.above y c (PySem.mem_of_lookup h))
 ·have hi:i<vs.length:=by
   unfold start at h2
   by_cases hi:i<vs.length
   ·exact hi
   ·rw[List.getElem?_append_right (by simpa using hi)] at h2
    rw[List.getElem?_replicate] at h2
    split at h2<;>cases h2
  have ha:vs[i]?=some v:=by
   unfold start at h2
   rw[List.getElem?_append_left (by simpa using hi),List.getElem?_map] at h2
   cases e:vs[i]? with
   |none=>rw[e] at h2;cases h2
   |some a=>rw[e] at h2;cases h2;rfl
  obtain⟨u,hu,rv⟩:=r.get ha
  have hp:ps[i]?=some y:=by
   rw[<- S.pre,List.getElem?_take_of_lt (by lia)];exact h1
  have Yu:ps.Nodup:=by rw[<- S.pre];exact S.nd.sublist (List.take_sublist _ _)
  refine⟨u,rv,?_⟩
  rcases S.par y (List.mem_of_getElem? hp) with k |k
  ·exact .inl ⟨k,xW Yu hp hu k⟩
  ·obtain⟨c,e⟩:=AH (n:=s.heap.objs.size+1) k
   refine .inr ⟨.inl k,c,e,?_⟩
   have q:=x.cell y c e
   rw[xX Yu hp hu (by show scope.names.lookup y≠_;rw[k];decide)] at q
   exact q
 ·exact e0.dU.fresh (Nat.le_of_lt (x.above y c (PySem.mem_of_lookup h)))
 ·unfold start
  show _=N.length
  rw[List.length_append,List.length_map,List.length_replicate]
  lia
theorem RJ{CX:B6}{P:Program}{w:World}{K:PySem.W.Frag}{mg:Str->Option Value}{base:Heap}{k:Nat}{f:Addr}{name qual:Str}{params:Arguments}{body:List Stmt}{scope:Scope}{dV kV doc pm fD ct oc:Value}{an od:Option Addr}
 {KO:Array (Option Value)} {N ps:List Str} {sp:Sp} (lk:K.lookup f=some ⟨oc,od,.func (PySem.W.fnOf name qual params body scope dV kV doc pm an fD ct),KO⟩) (G6:PySem.W.codeIn K fD qual=true) (S:bj N ps scope)
 (len:∀vs H Q E,sp vs H Q E->vs.length=ps.length)
 (AI:∀(A:Around) (outer:List Env) (s:Shared) (H:Hp) (vs:List V) (Q:VK) (E:XK),ie k (A.deeper (envOfC qual scope s.heap.objs.size f fD))->sp vs H Q E->
  ∃t,DO (xq CX P w K mg base N qual scope f fD A outer s H E) body t/\t {nx:=fun _ H'=>Q .ck H',rt:=Q} (start N vs) H) :
 bQ P w K mg base CX (k+1) f (PySem.W.fnOf name qual params body scope dV kV doc pm an fD ct) ps sp:=by
 refine⟨len,fun A outer s H args us vs Q E hr e0 hb r Nf=>?_⟩
 have hl:=len _ _ _ _ Nf
 have KX:K.In s.heap:=e0.mod.Ua.keeps fun b o e=>(e0.bs b o e).1
 have lim:s.heap.NoLimit:=e0.mod.nolimit.keeps fun b o e=>(e0.bs b o e).1
 have RK:∀y∈ps.zip us,scope.names.lookup y.1=some .local\/(scope.names.lookup y.1=some .cell/\((cellsFrom (s.heap.objs.size+1) scope.names []).lookup y.1).isSome=true):=fun ⟨n,v⟩ hy=>by
  rcases S.par n (List.of_mem_zip hy).1 with q |q
  ·exact .inl q
  ·exact .inr ⟨q,PySem.W.cellsFrom_some _ _ _ (.inl q)⟩
 refine codeAny_call_function hr.depth (KX _ _ lk) rfl S.co S.gen rfl (PySem.W.codeRec_of KX G6) (hb _ _ _ _ ?_)
 refine wpAny_newFunctionEnv_cells S.kind RK fun env he s1 x=>?_
 subst he
 refine⟨lim.keeps x.toInCall.keep,codeAny_func ?_⟩
 obtain⟨t,ht,hq⟩:=AI A outer s H vs Q E (hr.deeper _) Nf
 have I:Inv (xq CX P w K mg base N qual scope f fD A outer s H E) [] (start N vs) H s1:=Fy S hr.hd e0 hl r x
 refine wpAny_mono (ht [] s1 (start N vs) H _ I hq) (fun fl s' hs=>?_) fun e s' hs=>hs
 have fin:∀ {σ':St} {H':Hp} {v:V} {u:Value},Inv (xq CX P w K mg base N qual scope f fD A outer s H E) [] σ' H' s'->RelV v u->Q v H'->CE outer P w H s Q u s':=
  fun {σ' H' v u} J rv q=>⟨v,H',J.os,J.bare,J.base,J.dU,rv,q⟩
 cases fl with
 |ret u=>
  obtain⟨v,σ',H',J,rv,q⟩:=hs
  exact fin J rv q
 |next=>
  obtain⟨σ',H',J,q⟩:=hs
  exact fin (v:=V.ck) (u:=Value.none) J rfl q
 |brk=>
  obtain⟨_,_,_,q⟩:=hs
  exact False.elim q
 |cont=>
  obtain⟨_,_,_,q⟩:=hs
  exact False.elim q
end L2
namespace L2
open PySem PySem.Spec PyProof.Rows
section
variable{X:Cx}{x:Str}{p pos:Pos}{e:Expr}{es:List Expr}{t:TA}{id T:String}{r:List V->Hp->VK->Prop}
def Vz (r:List V->Hp->VK->Prop) (t:TA):TE:=fun σ H Q=>t σ H fun vs H1=>r vs H1 Q
theorem cw(hc:qe X (.builtin id) r)(hg:Gl X x)(hm:X.mg x=none)(hv:bootBuiltins x=some (.builtin id))(ha:PA X (e::es) t)(hn:x≠"__name__":=by decide)(OF:(x==("__debug__":Str))=false:=by decide)
 (he:starEach (e::es) X.env=(false,eval e X.env)::starEach es X.env:=by rfl) (KN:(backTo pos (starEach es X.env)).any (·.1)=false:=by rfl):PE X (.Call (.Name x p) (e::es) [] pos) (Vz r t):=by
 intro pins s σ H Q I h
 refine wpAny_Call_Name_kw (qG I hg hm hv ?_ hn OF)
 refine PyProof.Rows.callWith_builtin1 (fA (ha pos pins s σ H _ I h) fun us s1 zqz=>?_) he KN
 obtain⟨vs,H1,I1,r1,q1⟩:=zqz
 exact hc pins s1 σ H1 vs us Q I1 r1 q1
theorem fK(hc:qe X (.type T) r)(hg:Gl X x)(hm:X.mg x=none)(hv:bootBuiltins x=some (.type T))(ha:PA X (e::es) t)(hn:x≠"__name__":=by decide)(OF:(x==("__debug__":Str))=false:=by decide)
 (he:starEach (e::es) X.env=(false,eval e X.env)::starEach es X.env:=by rfl) (KN:(backTo pos (starEach es X.env)).any (·.1)=false:=by rfl):PE X (.Call (.Name x p) (e::es) [] pos) (Vz r t):=by
 intro pins s σ H Q I h
 refine wpAny_Call_Name_kw (qG I hg hm hv ?_ hn OF)
 refine PyProof.Rows.callWith_type1 (fA (ha pos pins s σ H _ I h) fun us s1 zqz=>?_) he KN
 obtain⟨vs,H1,I1,r1,q1⟩:=zqz
 exact hc pins s1 σ H1 vs us Q I1 r1 q1
end
end L2
namespace HT
open PySem PyProof.Rows
section
open PySem.SeqAt
open PySem.AutoSeq1 (wpAny_loadPart')
open PySem.MeetsSeq PySem.MeetsSeq2 PySem.MeetsSeq3
end
section
variable{prog:Program}{w:World}{A:Around}{E:Value->Shared->Prop}{s:Shared}
theorem Lj{t b:Addr}{vs ws:List Value}{Q:Value->Shared->Prop}(ht:IsTup s.heap t vs.toArray)(hb:IsTup s.heap b ws.toArray)(hv:vs≠[])
 (h1:ws=[]->Q (.ref t) s) (h2:ws≠[]->Q (.ref s.heap.objs.size) {s with heap:=s.heap.push {cls:=.type "tuple",data:=.seq (vs++ws).toArray} })
 (hsz:vs.length+ws.length<=sizeLine):wpAny (model prog w) A (binaryOp .Add (.ref t) (.ref b)) Q E s:=by
 obtain⟨⟨cls,dd,data,sl⟩,ho,hc,n,hd⟩:=id ht
 obtain⟨⟨VA,QF,data2,QG⟩,OH,RL,n2,hd2⟩:=id hb
 simp only at hc hd RL hd2
 subst hc hd RL hd2
 have e:vs.toArray++ws.toArray=(vs++ws).toArray:=by simp
 by_cases hw:ws=[]
 ·exact concat_meets ⟨_,ho,rfl⟩ ⟨_,OH,rfl⟩ noFill_tuple_add seq_tuple_add PySem.F.slot_tuple_add PySem.F.entry_tuple_add (PySem.F.args_tuple_add_2 _ _)
   (tuple_addW1 t b vs.toArray ws.toArray n n2 dd QF sl QG (by simpa using hv) (by simp[hw])) ⟨ho,OH,h1 hw⟩
 ·refine concat_meets ⟨_,ho,rfl⟩ ⟨_,OH,rfl⟩ noFill_tuple_add seq_tuple_add PySem.F.slot_tuple_add PySem.F.entry_tuple_add (PySem.F.args_tuple_add_2 _ _)
   (tuple_addW2 t b vs.toArray ws.toArray n n2 dd QF sl QG (by simpa using hv) (by simpa using hw) (by rw[List.size_toArray,List.size_toArray];exact hsz)) ⟨ho,OH,?_⟩
  rw[e]
  exact h2 hw
def fY (n d:Nat):Option Int->Nat
 |none=>d
 |some v=>if v<0 then (v+(n:Int)).toNat else min v.toNat n
theorem nV(n d:Nat):fY n d none=d:=rfl
theorem pA(n d k:Nat):fY n d (some (k:Int))=min k n:=by
 show (if (k:Int)<0 then ((k:Int)+(n:Int)).toNat else min (k:Int).toNat n)=min k n
 rw[if_neg (by lia),Int.toNat_natCast]
theorem Ct(n d:Nat)(hd:d<=n)(o:Option Int):fY n d o<=n:=by
 cases o with
 |none=>exact hd
 |some v=>
  show (if v<0 then (v+(n:Int)).toNat else min v.toNat n)<=n
  by_cases hv:v<0
  ·rw[if_pos hv];lia
  ·rw[if_neg hv];exact Nat.min_le_right _ _
theorem DY(v:Int)(n d:Nat):(if v<0 then max (v+(n:Int)) 0 else min v (n:Int))=((fY n d (some v):Nat):Int):=by
 show (if v<0 then max (v+(n:Int)) 0 else min v (n:Int))=(((if v<0 then (v+(n:Int)).toNat else min v.toNat n):Nat):Int)
 by_cases hv:v<0
 ·simp only[if_pos hv];lia
 ·simp only[if_neg hv];lia
theorem Cu(lo hi:Option Int)(n:Nat):Builtin.Slice.sliceAdjust lo hi 1 (n:Int)=(((fY n 0 lo:Nat):Int),((fY n n hi:Nat):Int)):=by
 have h1:¬((1:Int)<0):=by lia
 unfold Builtin.Slice.sliceAdjust
 simp only[h1,if_false]
 refine Prod.ext ?_ ?_
 ·cases lo with
  |none=>rfl
  |some v=>exact DY v n 0
 ·cases hi with
  |none=>rfl
  |some v=>exact DY v n n
theorem Cv(i j:Nat):Builtin.Slice.slicePlaces (i:Int) (j:Int) 1=j-i:=by
 unfold Builtin.Slice.slicePlaces
 have h1:(1:Int)>0:=by lia
 simp only[h1,if_true,Int.ediv_one]
 split<;>lia
theorem vO{v:Value}{o:Option Int}{Q:Option Int->Shared->Prop}(p:IsPart v o)(h:Q o s):wpAny (model prog w) A (Builtin.Slice.slicePartIndex v) Q E s:=by
 cases p with
 |none=>exact slicePart_none h
 |int i t=>exact slicePart_int h
theorem lq{sl:Addr}{vl vu:Value}{lo hi:Option Int}{n:Nat}{Q:Int×Int×Nat->Shared->Prop}(hs:s.heap.IsSliceOf sl vl vu .none)(pl:IsPart vl lo)(pu:IsPart vu hi)
 (h:Q (((fY n 0 lo:Nat):Int),1,fY n n hi-fY n 0 lo) s):wpAny (model prog w) A (Builtin.Slice.sliceApplied (.ref sl) (pure (n:Int))) Q E s:=by
 obtain⟨os,OI,Ue,RM⟩:=id hs
 unfold Builtin.Slice.sliceApplied Builtin.Slice.sliceFields
 refine wpAny_bind (wpAny_bind (wpAny_field OI RM (x:=vl) rfl (wpAny_bind (wpAny_field OI RM (x:=vu) rfl (wpAny_bind (wpAny_field OI RM (x:=.none) rfl (wpAny_pure ?_)))))))
 refine wpAny_bind (slicePart_none ?_)
 show wpAny _ _ (if ((1:Int)==0)=true then _ else _) _ _ s
 rw[if_neg (by decide)]
 refine wpAny_bind (vO pl (wpAny_bind (vO pu (wpAny_bind (wpAny_pure ?_)))))
 show wpAny _ _ (match Builtin.Slice.sliceAdjust lo hi 1 (n:Int) with |(lo,hi)=>pure (lo,(1:Int),Builtin.Slice.slicePlaces lo hi 1)) _ _ s
 rw[Cu lo hi n]
 show wpAny _ _ (pure (((fY n 0 lo:Nat):Int),(1:Int),Builtin.Slice.slicePlaces ((fY n 0 lo:Nat):Int) ((fY n n hi:Nat):Int) 1)) _ _ s
 rw[Cv]
 exact wpAny_pure h
theorem Hz(xs:Array Value)(i k:Nat):((List.range k).filterMap fun (m:Nat)=>xs[((i:Int)+(m:Int)*1).toNat]?).toArray=((xs.toList.drop i).take k).toArray:=by
 have e:(fun (m:Nat)=>xs[((i:Int)+(m:Int)*1).toNat]?)=fun m=>xs[i+m]?:=by
  funext m
  have:((i:Int)+(m:Int)*1).toNat=i+m:=by lia
  rw[this]
 rw[e]
 have:=pick_run xs i k
 rw[List.filterMap_map] at this
 have e2:((fun x=>xs[x]?) ∘ fun x=>i+x)=fun m=>xs[i+m]?:=rfl
 rw[e2] at this
 rw[this]
theorem rM{t sl:Addr}{items:Array Value}{vl vu:Value}{lo hi:Option Int}{Q:Value->Shared->Prop}(ht:IsTup s.heap t items)(hs:s.heap.IsSliceOf sl vl vu .none)(pl:IsPart vl lo)(pu:IsPart vu hi)
 (hw:¬(fY items.size 0 lo=0/\fY items.size items.size hi=items.size))
 (h:Q (.ref s.heap.objs.size) {s with heap:=s.heap.push {cls:=.type "tuple",data:=.seq ((items.toList.drop (fY items.size 0 lo)).take (fY items.size items.size hi-fY items.size 0 lo)).toArray} })
 (hsz:items.size<=sizeLine):wpAny (model prog w) A (getItem (.ref t) (.ref sl)) Q E s:=by
 have DZ:sizeOk (.seq ((items.toList.drop (fY items.size 0 lo)).take (fY items.size items.size hi-fY items.size 0 lo)).toArray):=by
  show ((items.toList.drop (fY items.size 0 lo)).take (fY items.size items.size hi-fY items.size 0 lo)).toArray.size<=sizeLine
  rw[List.size_toArray,List.length_take,List.length_drop,Array.length_toList]
  lia
 have hj:fY items.size items.size hi<=items.size:=Ct _ _ (Nat.le_refl _) hi
 obtain⟨os,OI,Ue,RM⟩:=id hs
 have VB:s.TypeIs (.ref sl) "slice":=⟨os,OI,Ue⟩
 unfold getItem
 try with_reducible refine wpAny_holding ?_
 first |refine wpAny_bind (wpAny_pure ?_) |skip
 refine wpAny_bind (wpAny_sequenceKey ht.typeIs (by decide) ?_)
 refine wpAny_bind (wpAny_callSpecial?_slot (name:=Str.ofString "__getitem__") ht.typeIs PyProof.Rows.slot_tuple_getitem
  (wpAny_call_entry PyProof.Rows.slot_tuple_getitem ht.typeIs entry_tuple_getitem ?_ (args_tuple_getitem _ _)))
 show wpAny _ _ (Builtin.Tuple.tupleItemsOf (.ref t) >>= _) _ _ s
 refine wpAny_bind (tupleItemsOf_ ht ?_)
 refine wpAny_bind (wpAny_typeOf VB ?_)
 rw[if_pos (by decide)]
 refine wpAny_bind (lq hs pl pu ?_)
 have VC:¬((((fY items.size 0 lo:Nat):Int)==0&&(1:Int)==1&&(fY items.size items.size hi-fY items.size 0 lo)==items.size)=true):=by
  intro q
  rw[Bool.and_eq_true,Bool.and_eq_true] at q
  have q1:((fY items.size 0 lo:Nat):Int)=0:=eq_of_beq q.1.1
  have q2:fY items.size items.size hi-fY items.size 0 lo=items.size:=eq_of_beq q.2
  exact hw ⟨by lia,by lia⟩
 show wpAny _ _ (if (((fY items.size 0 lo:Nat):Int)==0&&(1:Int)==1&&(fY items.size items.size hi-fY items.size 0 lo)==items.size)=true then _ else _) _ _ s
 rw[if_neg VC,Hz]
 first
  |exact wpAny_bind (m:=Builtin.Tuple.tupleExact _) (wpAny_newObj_type (wpAny_pure ⟨_,rfl,wpAny_pure h⟩) DZ)
  |exact wpAny_bind (m:=Builtin.Tuple.tupleExact _) (wpAny_newObj_type (wpAny_bind (wpAny_pure (wpAny_pure ⟨_,rfl,wpAny_pure h⟩))) DZ)
  |exact wpAny_bind (wpAny_bind (m:=Builtin.Tuple.tupleExact _) (wpAny_newObj_type (wpAny_pure (wpAny_pure ⟨_,rfl,wpAny_pure h⟩)) DZ))
  |exact wpAny_bind (wpAny_bind (m:=Builtin.Tuple.tupleExact _) (wpAny_newObj_type (wpAny_pure ⟨_,rfl,wpAny_pure h⟩) DZ))
end
end HT
namespace L2
open PySem PySem.Spec PyProof.Rows
abbrev TO:=St->Hp->(Option Int->Hp->Prop)->Prop
def PO (X:Cx) (e:Option Expr) (t:TO):Prop:=
 ∀(pins:List (Addr×Obj)) (s:Shared) (σ:St) (H:Hp) (Q:Option Int->Hp->Prop),Inv X pins σ H s->t σ H Q->
  wpAny (model X.prog X.w) X.A (evalPart e X.env) (fun u s'=>∃o H',Inv X pins σ H' s'/\IsPart u o/\Q o H') X.xe s
def yX:TO:=fun _ H Q=>Q none H
def HE (t:TE):TO:=fun σ H Q=>t σ H fun x H1=>∃i,x=.int i/\Q (some i) H1
section
variable{X:Cx}{e:Expr}{te:TE}{lo hi:Option Expr}{tl th:TO}{pos p2:Pos}
theorem jL:PO X none yX:=by
 intro pins s σ H Q I h
 rw[evalPart_none]
 exact wpAny_pure ⟨none,H,I,.none,h⟩
theorem jM(h:PE X e te):PO X (some e) (HE te):=by
 intro pins s σ H Q I hw
 rw[evalPart_some]
 refine fA (h pins s σ H _ I hw) fun u s1 zqz=>?_
 obtain⟨x,H1,I1,r1,q1⟩:=zqz
 obtain⟨i,rfl,q⟩:=q1
 obtain⟨t,rfl⟩:=r1
 exact⟨some i,H1,I1,.int i t,q⟩
def RN (X:Cx) (r:V->Option Int->Option Int->Hp->VK->Prop):Prop:=
 ∀(pins:List (Addr×Obj)) (s:Shared) (σ:St) (H:Hp) (x:V) (v vl vu:Value) (lo hi:Option Int) (sl:Addr) (Q:VK),Inv X pins σ H s->RelV x v->s.heap.IsSliceOf sl vl vu .none->IsPart vl lo->IsPart vu hi->r x lo hi H Q->
  ∃T id,typeLookup (.type T) "__getitem__"=pure (some (.builtin id))/\s.TypeIs v T/\wpAny (model X.prog X.w) X.A (getItem v (.ref sl)) (EP X pins σ Q) X.xe s
def Ug (r:V->Option Int->Option Int->Hp->VK->Prop) (te:TE) (tl th:TO):TE:=fun σ H Q=>te σ H fun x H1=>tl σ H1 fun l H2=>th σ H2 fun u H3=>r x l u H3 Q
theorem iu{r:V->Option Int->Option Int->Hp->VK->Prop}(hr:RN X r)(he:PE X e te)(hl:PO X lo tl)(hu:PO X hi th):PE X (.Subscript e (.Slice lo hi none p2) pos) (Ug r te tl th):=by
 intro pins s σ H Q I h
 refine Subscript_ (fA (he pins s σ H _ I h) fun v s1 zqz=>?_)
 obtain⟨x,H1,I1,r1,q1⟩:=zqz
 refine wpAny_Slice (fA (hl pins s1 σ H1 _ I1 q1) fun vl s2 zqz=>?_)
 obtain⟨l,H2,I2,pl,q2⟩:=zqz
 refine fA (hu pins s2 σ H2 _ I2 q2) fun vu s3 zqz=>?_
 obtain⟨u,H3,I3,pu,q3⟩:=zqz
 rw[evalPart_none]
 refine wpAny_pure ?_
 have I4:Inv X pins σ H3 {s3 with heap:=s3.heap.push {cls:=.type "slice",data:=.fields #[vl,vu,.none]} }:=I3.kept (t':=s3.toks) fun b ob q=>Heap.get?_push_of_some _ q
 obtain⟨T,id,hT,ht,hg⟩:=hr pins {s3 with heap:=s3.heap.push {cls:=.type "slice",data:=.fields #[vl,vu,.none]} } σ H3 x v vl vu l u s3.heap.objs.size Q I4 r1 (Heap.IsSliceOf.new ..) pl pu q3
 show wpAny (model X.prog X.w) X.A (subscriptTail e (.Slice lo hi none p2) v (.ref s3.heap.objs.size)) (EP X pins σ Q) X.xe {s3 with heap:=s3.heap.push {cls:=.type "slice",data:=.fields #[vl,vu,.none]} }
 exact tail_any (ops:=[.ref s3.heap.objs.size,v]) ht hT hg (by with_unfolding_all rfl)
def cQ (xs:List V) (lo hi:Option Int):List V:=(xs.drop (HT.fY xs.length 0 lo)).take (HT.fY xs.length xs.length hi-HT.fY xs.length 0 lo)
theorem dG(xs:List V)(lo hi:Option Int):(cQ xs lo hi).length<=xs.length:=by
 unfold cQ
 rw[List.length_take,List.length_drop]
 lia
def VD (K:PySem.W.Frag):V->Option Int->Option Int->Hp->VK->Prop:=fun x lo hi H Q=>∃a xs,x=.ref a/\c5 K H a xs/\
 ¬(HT.fY xs.length 0 lo=0/\HT.fY xs.length xs.length hi=xs.length)/\∀p,H p=none->Q (.ref p) (upd H p (.tup (cQ xs lo hi)))
theorem HF:RN X (VD X.K):=by
 intro pins s σ H x v vl vu lo hi sl Q I rx hs pl pu h
 obtain⟨a,xs,rfl,hx,hw,q⟩:=h
 cases rx
 obtain⟨bA,r,ht,hz⟩:=I.tuple hx
 have hlen:bA.toArray.size=xs.length:=by rw[List.size_toArray];exact r.length.symm
 refine⟨"tuple",_,PyProof.Rows.slot_tuple_getitem.lookup,ht.typeIs,?_⟩
 refine HT.rM ht hs pl pu (by rw[hlen];exact hw) ?_ (by rw[hlen];exact hz)
 rw[hlen]
 refine⟨.ref s.heap.objs.size,_,I.laid (t':=s.toks) (o:=.tup (cQ xs lo hi)) (fun b ob q=>Heap.get?_push_of_some _ q) (Nat.le_refl _) ?_,rfl,q _ (I.dU.fresh (Nat.le_refl _))⟩
 exact⟨Nat.le_trans (dG xs lo hi) hz,_,(r.drop (HT.fY xs.length 0 lo)).take (HT.fY xs.length xs.length hi-HT.fY xs.length 0 lo),IsTup.new _ _⟩
def Ng (K:PySem.W.Frag):R2:=fun x y H Q=>∃a b xs ys,x=.ref a/\y=.ref b/\c5 K H a xs/\c5 K H b ys/\xs≠[]/\xs.length+ys.length<=sizeLine/\
 (ys=[]->Q (.ref a) H)/\(ys≠[]->∀p,H p=none->Q (.ref p) (upd H p (.tup (xs++ys))))
theorem Vals.br{xs:List V}{us:List Value}(r:Vals xs us):us=[]↔xs=[]:=by
 cases r with
 |nil=>simp
 |cons _ _=>simp
theorem rN:qd X (binaryOp .Add) (Ng X.K):=by
 intro pins s σ H x y v u Q I rx ry h
 obtain⟨a,b,xs,ys,rfl,rfl,ha,hb,hx,hz,q1,q2⟩:=h
 cases rx
 cases ry
 obtain⟨bA,r1,p1,_⟩:=I.tuple ha
 obtain⟨rO,r2,p2,_⟩:=I.tuple hb
 refine HT.Lj p1 p2 (fun z=>hx (r1.br.mp z)) (fun z=>⟨.ref a,H,I,rfl,q1 (r2.br.mp z)⟩) (fun z=>?_) (by rw[<- r1.length,<- r2.length];exact hz)
 refine⟨.ref s.heap.objs.size,_,I.laid (t':=s.toks) (o:=.tup (xs++ys)) (fun b ob q=>Heap.get?_push_of_some _ q) (Nat.le_refl _) ?_,rfl,q2 (fun w=>z (r2.br.mpr w)) _ (I.dU.fresh (Nat.le_refl _))⟩
 exact⟨by rw[List.length_append];exact hz,_,r1.append r2,IsTup.new _ _⟩
end
end L2
namespace L2
open PySem PySem.Spec PyProof.Rows
def HG (n:Nat) (i:Int):Option Nat:=if 0<=i then (if i<n then some i.toNat else none) else if -(n:Int)<=i then some (i+n).toNat else none
def qJ {α:Type} (xs:List α) (i:Int):Option α:=(HG xs.length i).bind fun j=>xs[j]?
theorem D0{n:Nat}{i:Int}{j:Nat}(h:HG n i=some j):seqIndex? i n=some j/\j<n/\-(n:Int)<=i/\i<n:=by
 unfold HG at h
 by_cases h0:0<=i
 ·rw[if_pos h0] at h
  by_cases h1:i<n
  ·rw[if_pos h1] at h
   have e:i.toNat=j:=Option.some.inj h
   exact⟨by rw[seqIndex_of h0 h1,e],by lia,by lia,h1⟩
  ·rw[if_neg h1] at h;cases h
 ·rw[if_neg h0] at h
  by_cases h1 : -(n:Int)<=i
  ·rw[if_pos h1] at h
   have e:(i+n).toNat=j:=Option.some.inj h
   exact⟨by rw[seqIndex_neg (by lia) h1,e],by lia,h1,by lia⟩
  ·rw[if_neg h1] at h;cases h
theorem yY{α:Type}{xs:List α}{i:Int}{v:α}(h:qJ xs i=some v):∃j,seqIndex? i xs.length=some j/\xs[j]?=some v/\j<xs.length/\-(xs.length:Int)<=i/\i<xs.length:=by
 unfold qJ at h
 cases e:HG xs.length i with
 |none=>rw[e] at h;cases h
 |some j=>
  rw[e] at h
  obtain⟨h1,h2,h3,h4⟩:=D0 e
  exact⟨j,h1,h,h2,h3,h4⟩
theorem au{α:Type}{xs:List α}{j:Nat}{v:α}(h:xs[j]?=some v):qJ xs (j:Int)=some v:=by
 have hj:j<xs.length:=(List.getElem?_eq_some_iff.mp h).1
 have e:HG xs.length (j:Int)=some j:=by
  unfold HG
  rw[if_pos (by lia),if_pos (by lia)];simp
 unfold qJ;rw[e];exact h
theorem jg{α:Type}(xs:List α)(v:α):qJ (xs++[v]) (-1)=some v:=by
 have hl:(xs++[v]).length=xs.length+1:=by simp
 have e:HG (xs++[v]).length (-1)=some xs.length:=by
  unfold HG
  rw[hl,if_neg (by decide),if_pos (by lia)]
  congr 1
  lia
 unfold qJ
 rw[e]
 show (xs++[v])[xs.length]?=some v
 simp
def mz (b:Expr):Prop:=∀o i,subscripted b false o i=operate [o,i] (getItem o i)
def HH (X:Cx) (r:R2):Prop:=
 ∀(value slice:Expr) (pins:List (Addr×Obj)) (s:Shared) (σ:St) (H:Hp) (x y:V) (v u:Value) (Q:VK),Inv X pins σ H s->RelV x v->RelV y u->r x y H Q->
  subscripted slice false v u=operate [v,u] (getItem v u)->wpAny (model X.prog X.w) X.A (subscriptTail value slice v u) (EP X pins σ Q) X.xe s
def Yv (X:Cx) (id:String) (r:V->List V->Hp->VK->Prop):Prop:=
 ∀(pins:List (Addr×Obj)) (s:Shared) (σ:St) (H:Hp) (x:V) (xs:List V) (v:Value) (us:List Value) (Q:VK),Inv X pins σ H s->RelV x v->Vals xs us->r x xs H Q->
  wpAny (model X.prog X.w) X.A (call (.builtin id) (v::us)) (EP X pins σ Q) X.xe s
section
variable{X:Cx}{a b:Expr}{ta tb:TE}{pos:Pos}
theorem HH.or{r r':R2}(h:HH X r)(h':HH X r'):HH X (fun x y H Q=>r x y H Q\/r' x y H Q):=by
 intro value slice pins s σ H x y v u Q I rx ry q hs
 rcases q with q |q
 ·exact h value slice pins s σ H x y v u Q I rx ry q hs
 ·exact h' value slice pins s σ H x y v u Q I rx ry q hs
theorem aD{r:R2}(hr:HH X r)(ha:PE X a ta)(hb:PE X b tb)(hs:mz b):PE X (.Subscript a b pos) (Ru r ta tb):=by
 intro pins s σ H Q I h
 exact Subscript_ (Ov ha hb I h fun v u s2 x y H2 I2 rx ry q=>hr a b pins s2 σ H2 x y v u Q I2 rx ry q (hs _ _))
def AJ (K:PySem.W.Frag):R2:=fun x y H Q=>∃p xs i v,x=.ref p/\y=.int i/\il K H p xs/\qJ xs i=some v/\Q v H
def Cw (K:PySem.W.Frag):R2:=fun x y H Q=>∃p xs i v,x=.ref p/\y=.int i/\c5 K H p xs/\qJ xs i=some v/\Q v H
def RO:R2:=fun x y H Q=>∃z i c,x=.str z/\y=.int i/\z.length<=sizeLine/\qJ z.cps.toList i=some c/\Q (.str ⟨#[c]⟩) H
theorem bf:HH X (AJ X.K):=by
 intro value slice pins s σ H x y v u Q I rx ry h hs
 obtain⟨p,xs,i,z,rfl,rfl,hq,he,q⟩:=h
 cases rx
 obtain⟨t,rfl⟩:=ry
 obtain⟨bA,r,pl,hz⟩:=I.list hq
 obtain⟨j,h1,h2,h3,h4,h5⟩:=yY he
 obtain⟨w,ew,Fz⟩:=r.get h2
 have hl:=r.length
 have hn:=tU
 have fin:EP X pins σ Q w s:=⟨z,H,I,Fz,q⟩
 by_cases h0:0<=i
 ·have hj:i.toNat=j:=by
   rw[seqIndex_of h0 h5] at h1
   exact Option.some.inj h1
  exact item_listR pl.isList h0 (by lia) (by rw[hj];simpa using ew) fin hs
 ·have hj:(i+(bA.toArray.size:Int)).toNat=j:=by
   rw[seqIndex_neg (by lia) h4] at h1
   rw[List.size_toArray,<- hl]
   exact Option.some.inj h1
  exact subscriptTail_builtinR (x:=w) pl.isList.typeIs slot_list_getitem.lookup
   (wpAny_getItem_list_neg (Q:=fun r s'=>r=w/\EP X pins σ Q r s') pl.isList (by lia) (by rw[List.size_toArray]<;>lia) (by lia) (by rw[hj];simpa using ew) ⟨rfl,fin⟩) hs
theorem aN:HH X (Cw X.K):=by
 intro value slice pins s σ H x y v u Q I rx ry h hs
 obtain⟨p,xs,i,z,rfl,rfl,hq,he,q⟩:=h
 cases rx
 obtain⟨t,rfl⟩:=ry
 obtain⟨bA,r,pl,hz⟩:=I.tuple hq
 obtain⟨j,h1,h2,h3,h4,h5⟩:=yY he
 obtain⟨w,ew,Fz⟩:=r.get h2
 have hl:=r.length
 have hn:=tU
 have fin:EP X pins σ Q w s:=⟨z,H,I,Fz,q⟩
 exact subscriptTail_builtinR (x:=w) pl.typeIs slot_tuple_getitem.lookup
  (getItem_tuple (j:=j) (Q:=fun r s'=>r=w/\EP X pins σ Q r s') pl (by lia) (by lia) (by rw[List.size_toArray,<- hl];exact h1) (by simpa using ew) ⟨rfl,fin⟩) hs
theorem yZ:HH X RO:=by
 intro value slice pins s σ H x y v u Q I rx ry h hs
 obtain⟨z,i,c,rfl,rfl,hz,he,q⟩:=h
 obtain⟨t,rfl⟩:=rx
 obtain⟨t',rfl⟩:=ry
 obtain⟨j,h1,h2,h3,h4,h5⟩:=yY he
 have hl:z.cps.toList.length=z.length:=by simp[Str.length]
 rw[hl] at h1 h4 h5
 have hn:=tU
 exact tail_any (typeIs_str s z t) slot_str_getitem.lookup (getItem_str (c:=c) (by
  have e1:decide (i < -(2 ^ 63:Int))=false:=decide_eq_false (by lia)
  have e2:decide (i ≥ 2 ^ 63)=false:=decide_eq_false (by lia)
  rw[e1,e2,Bool.or_false]) (by rw[h1];simpa using h2) ⟨.str ⟨#[c]⟩,H,I.tok _,⟨_,rfl⟩,q⟩) hs
def rIx (K:PySem.W.Frag):R2:=fun x y H Q=>AJ K x y H Q\/Cw K x y H Q\/RO x y H Q
theorem y0:HH X (rIx X.K):=bf.or (aN.or yZ)
theorem Cy(bA:List Value)(n j:Nat)(u:Value):Obj.mapSeq (·.setIfInBounds j u) {cls:=.type "list",data:=.seq bA.toArray n}={cls:=.type "list",data:=.seq (bA.set j u).toArray n}:=by
 simp[Obj.mapSeq]
theorem Inv.lst{pins:List (Addr×Obj)}{σ:St}{H:Hp}{s:Shared}{p:Addr}{xs:List V}(I:Inv X pins σ H s)(h:H p=some (.lst xs)) :
 ∃(bA:List Value) (n:Nat),Vals xs bA/\s.heap.get? p=some {cls:=.type "list",data:=.seq bA.toArray n}/\xs.length<=sizeLine:=by
 obtain⟨z,bA,n,r,e⟩:=I.dU p _ h
 exact⟨bA,n,r,e,z⟩
theorem Inv.OJ{pins:List (Addr×Obj)}{σ:St}{H:Hp}{s:Shared}{p:Addr}{xs ys:List V}{bA its':List Value}{n n':Nat}{f:Obj->Obj}(I:Inv X pins σ H s)(h:H p=some (.lst xs))
 (ho:s.heap.get? p=some {cls:=.type "list",data:=.seq bA.toArray n}) (hf:f {cls:=.type "list",data:=.seq bA.toArray n}={cls:=.type "list",data:=.seq its'.toArray n' }) (r:Vals ys its') (hz:ys.length<=sizeLine) (t:Nat) :
 Inv X pins σ (upd H p (.lst ys)) {s with heap:=s.heap.update p f,toks:=t}:=by
 have e:(s.heap.update p f).get? p=some {cls:=.type "list",data:=.seq its'.toArray n' }:=by
  rw[Heap.get?_update_self f ho (by rw[hf]<;>rfl),hf]
 refine I.write (x:=p) (e:=p) (by rw[h];trivial) (.inl rfl) (fun b u hb q=>(Heap.get?_update_other _ _ (Ne.symm hb)).trans q) ⟨_,e⟩ ?_
 exact⟨hz,its',n',r,e⟩
def RQ:V->V->V->Hp->(Hp->Prop)->Prop:=fun o i v H Q=>∃p xs k j,o=.ref p/\i=.int k/\H p=some (.lst xs)/\HG xs.length k=some j/\Q (upd H p (.lst (xs.set j v)))
theorem set_list:Rp X RQ:=by
 intro pins s σ H o i v ov iv u Q I ro ri rv h
 obtain⟨p,xs,k,j,rfl,rfl,hp,hj,q⟩:=h
 cases ro
 obtain⟨t,rfl⟩:=ri
 obtain⟨bA,n,r,ho,hz⟩:=I.lst hp
 obtain⟨h1,h2,h3,h4⟩:=D0 hj
 have hl:=r.length
 have hn:=tU
 have I':Inv X pins σ (upd H p (.lst (xs.set j v))) {s with heap:=s.heap.update p (Obj.mapSeq (·.setIfInBounds j u))}:=
  I.OJ hp ho (Cy bA n j u) (r.set rv j) (by rw[List.length_set];exact hz) s.toks
 by_cases h0:0<=k
 ·have hk:k.toNat=j:=by
   rw[seqIndex_of h0 h4] at h1
   exact Option.some.inj h1
  exact PySem.W.ki_setAt ho h0 (by lia) (by rw[List.size_toArray,<- hl];exact h4) (by rw[hk];exact⟨_,I',q⟩)
 ·have hk:(k+(bA.toArray.size:Int)).toNat=j:=by
   rw[seqIndex_neg (by lia) h3] at h1
   rw[List.size_toArray,<- hl]
   exact Option.some.inj h1
  exact PySem.W.ki_setBack ho (by lia) (by rw[List.size_toArray,<- hl];exact h3) (by lia) (by rw[hk];exact⟨_,I',q⟩)
theorem za(lo hi:Option Int)(n:Nat):(sliceBounds lo hi none n).1=((HT.fY n 0 lo:Nat):Int)/\(sliceBounds lo hi none n).2.1=((HT.fY n n hi:Nat):Int)/\(sliceBounds lo hi none n).2.2=1:=by
 refine⟨?_,?_,rfl⟩
 ·cases lo with
  |none=>simp[sliceBounds,HT.fY]
  |some i=>
   simp only[sliceBounds,HT.fY,Option.getD_none,show (1:Int)>0 by decide,if_true]
   by_cases h:i<0
   ·simp only[h,if_true]<;>lia
   ·simp only[h,if_false]<;>lia
 ·cases hi with
  |none=>simp[sliceBounds,HT.fY]
  |some i=>
   simp only[sliceBounds,HT.fY,Option.getD_none,show (1:Int)>0 by decide,if_true]
   by_cases h:i<0
   ·simp only[h,if_true]<;>lia
   ·simp only[h,if_false]<;>lia
theorem xr(bA:List Value)(lo hi:Option Int):slicePick bA.toArray lo hi none=((bA.drop (HT.fY bA.length 0 lo)).take (HT.fY bA.length bA.length hi-HT.fY bA.length 0 lo)).toArray:=by
 obtain⟨h1,h2,h3⟩:=za lo hi bA.toArray.size
 unfold slicePick
 rw[h1,h2,h3]
 simp only[sliceRange_one,pick_run,List.size_toArray]<;>rfl
def VE (K:PySem.W.Frag):V->Option Int->Option Int->Hp->VK->Prop:=fun x lo hi H Q=>∃a xs,x=.ref a/\il K H a xs/\∀p,H p=none->Q (.ref p) (upd H p (.lst (cQ xs lo hi)))
theorem pB:RN X (VE X.K):=by
 intro pins s σ H x v vl vu lo hi sl Q I rx hs pl pu h
 obtain⟨a,xs,rfl,hx,q⟩:=h
 cases rx
 obtain⟨bA,r,ht,hz⟩:=I.list hx
 have hlen:=r.length
 refine⟨"list",_,slot_list_getitem.lookup,ht.isList.typeIs,?_⟩
 refine wpAny_getItem_list_slice ht.isList hs pl pu .none (by simp) ?_ (by rw[List.size_toArray]<;>lia)
 rw[xr,<- hlen]
 refine⟨.ref s.heap.objs.size,_,I.laid (t':=s.toks) (o:=.lst (cQ xs lo hi)) (fun b ob q=>Heap.get?_push_of_some _ q) (Nat.le_refl _) ?_,rfl,q _ (I.dU.fresh (Nat.le_refl _))⟩
 exact⟨Nat.le_trans (dG xs lo hi) hz,_,0,(r.drop (HT.fY xs.length 0 lo)).take (HT.fY xs.length xs.length hi-HT.fY xs.length 0 lo),Heap.get?_push_size _ rfl⟩
def uQ:V->Bool
 |.ck=>true
 |.bl _=>true
 |.int _=>true
 |.str _=>true
 |_=>false
def Nh:V->V->Bool
 |.ck,.ck=>true
 |.bl a,.bl b=>a==b
 |.bl a,.int b=>(if a then 1 else 0)==b
 |.int a,.bl b=>a==(if b then 1 else 0)
 |.int a,.int b=>a==b
 |.str a,.str b=>a==b
 |_,_=>false
theorem OK{A:Around}{s:Shared}{y x:V}{u v:Value}(ry:RelV y u)(rx:RelV x v)(fy:uQ y=true)(fx:uQ x=true):SeqAt.EqAt A s u v (Nh y x):=by
 cases y with
 |ck=>
  cases ry
  cases x with
  |ck=>cases rx;exact SeqAt.EqAt.same _
  |bl b=>cases rx;exact SeqAt.EqAt.none_bool b
  |int b=>obtain⟨t,rfl⟩:=rx;exact SeqAt.EqAt.none_int b t
  |str b=>obtain⟨t,rfl⟩:=rx;exact SeqAt.EqAt.none_str b t
  |_=>exact absurd (show false=true from fx) Bool.false_ne_true
 |bl a=>
  cases ry
  cases x with
  |ck=>cases rx;exact SeqAt.EqAt.bool_none a
  |bl b=>cases rx;exact SeqAt.EqAt.bool_bool a b
  |int b=>obtain⟨t,rfl⟩:=rx;exact SeqAt.EqAt.bool_int a b t
  |str b=>obtain⟨t,rfl⟩:=rx;exact SeqAt.EqAt.bool_str a b t
  |_=>exact absurd (show false=true from fx) Bool.false_ne_true
 |int a=>
  obtain⟨t',rfl⟩:=ry
  cases x with
  |ck=>cases rx;exact SeqAt.EqAt.int_none a t'
  |bl b=>cases rx;exact SeqAt.EqAt.int_bool a t' b
  |int b=>obtain⟨t,rfl⟩:=rx;exact SeqAt.EqAt.int_int a t' b t
  |str b=>obtain⟨t,rfl⟩:=rx;exact SeqAt.EqAt.int_str a t' b t
  |_=>exact absurd (show false=true from fx) Bool.false_ne_true
 |str a=>
  obtain⟨t',rfl⟩:=ry
  cases x with
  |ck=>cases rx;exact SeqAt.EqAt.str_none a t'
  |bl b=>cases rx;exact SeqAt.EqAt.str_bool a t' b
  |int b=>obtain⟨t,rfl⟩:=rx;exact SeqAt.EqAt.str_int a t' b t
  |str b=>obtain⟨t,rfl⟩:=rx;exact SeqAt.EqAt.str_str a t' b t
  |_=>exact absurd (show false=true from fx) Bool.false_ne_true
 |_=>exact absurd (show false=true from fy) Bool.false_ne_true
def Cz (x:V) (u:Value):Bool:=match u with
 |.none=>Nh .ck x
 |.bool b=>Nh (.bl b) x
 |.int i _=>Nh (.int i) x
 |.str z _=>Nh (.str z) x
 |_=>false
theorem HI{x y:V}{u:Value}(r:RelV y u)(f:uQ y=true):Cz x u=Nh y x:=by
 cases y with
 |ck=>cases r;rfl
 |bl b=>cases r;rfl
 |int i=>obtain⟨t,rfl⟩:=r;rfl
 |str z=>obtain⟨t,rfl⟩:=r;rfl
 |_=>exact absurd (show false=true from f) Bool.false_ne_true
theorem rP{x:V}:∀ {xs:List V} {us:List Value},Vals xs us->xs.all uQ=true->us.any (Cz x)=xs.any fun y=>Nh y x
 |_,_,.nil,_=>rfl
 |y::xs,u::us,.cons r t,f=>by
  rw[List.all_cons,Bool.and_eq_true] at f
  rw[List.any_cons,List.any_cons,HI r f.1,rP t f.2]
theorem nW{A:Around}{s:Shared}{x:V}{v:Value}(rx:RelV x v)(fx:uQ x=true):∀ {xs:List V} {us:List Value},Vals xs us->xs.all uQ=true->∀u∈us,SeqAt.EqAt A s u v (Cz x u)
 |_,_,.nil,_=>fun u hu=>by cases hu
 |y::xs,u::us,.cons r t,f=>fun u' hu=>by
  rw[List.all_cons,Bool.and_eq_true] at f
  rcases List.mem_cons.mp hu with rfl |hu
  ·rw[HI r f.1];exact OK r rx f.1 fx
  ·exact nW rx fx t f.2 u' hu
def Lk (x:V) (xs:List V):Bool:=xs.any fun y=>Nh y x
def VF (K:PySem.W.Frag) (neg:Bool):R2:=fun x y H Q=>∃p xs,y=.ref p/\(il K H p xs\/c5 K H p xs)/\uQ x=true/\xs.all uQ=true/\Q (.bl (if neg then !Lk x xs else Lk x xs)) H
theorem iU:qd X (compareOp .In) (VF X.K false):=by
 intro pins s σ H x y v u Q I rx ry h
 obtain⟨p,xs,rfl,hq,fx,fs,q⟩:=h
 cases ry
 rcases hq with hq |hq
 ·obtain⟨bA,r,pl,hz⟩:=I.list hq
  refine SeqAt.in_listAt (Cz x) pl.isList (fun w hw=>nW rx fx r fs w (by simpa using hw)) ⟨.bl _,H,I,rfl,?_⟩
  rw[show bA.toArray.any (Cz x)=bA.any (Cz x) by simp,rP r fs]
  exact q
 ·obtain⟨bA,r,pl,hz⟩:=I.tuple hq
  refine SeqAt.in_tupleAt (Cz x) pl (fun w hw=>nW rx fx r fs w (by simpa using hw)) ⟨.bl _,H,I,rfl,?_⟩
  rw[show bA.toArray.any (Cz x)=bA.any (Cz x) by simp,rP r fs]
  exact q
theorem rQ:qd X (compareOp .NotIn) (VF X.K true):=by
 intro pins s σ H x y v u Q I rx ry h
 obtain⟨p,xs,rfl,hq,fx,fs,q⟩:=h
 cases ry
 rcases hq with hq |hq
 ·obtain⟨bA,r,pl,hz⟩:=I.list hq
  refine SeqAt.notIn_listAt (Cz x) pl.isList (fun w hw=>nW rx fx r fs w (by simpa using hw)) ⟨.bl _,H,I,rfl,?_⟩
  rw[show bA.toArray.any (Cz x)=bA.any (Cz x) by simp,rP r fs]
  exact q
 ·obtain⟨bA,r,pl,hz⟩:=I.tuple hq
  refine SeqAt.notIn_tupleAt (Cz x) pl (fun w hw=>nW rx fx r fs w (by simpa using hw)) ⟨.bl _,H,I,rfl,?_⟩
  rw[show bA.toArray.any (Cz x)=bA.any (Cz x) by simp,rP r fs]
  exact q
theorem bG:qe X (.builtin "len") (fun xs H Q=>∃p ys,xs=[.ref p]/\(il X.K H p ys\/c5 X.K H p ys)/\Q (.int ys.length) H):=by
 intro pins s σ H xs us Q I r h
 obtain⟨p,ys,rfl,hq,q⟩:=h
 obtain⟨u,rfl,rx⟩:=vals1 r
 cases rx
 have hn:=tU
 rcases hq with hq |hq
 ·obtain⟨bA,r',pl,hz⟩:=I.list hq
  have hlen:=r'.length
  exact Calls.call_len_list pl.isList (by simp only[List.size_toArray]<;>lia) ⟨.int ys.length,H,I.tok _,⟨s.toks+1,by rw[List.size_toArray,hlen]⟩,q⟩
 ·obtain⟨bA,r',pl,hz⟩:=I.tuple hq
  have hlen:=r'.length
  exact len_tuple pl (by simp only[List.size_toArray]<;>lia) ⟨.int ys.length,H,I.tok _,⟨s.toks+1,by rw[List.size_toArray,hlen]⟩,q⟩
theorem rR:qe X (.type "list") (fun xs H Q=>∃p ys,xs=[.ref p]/\(il X.K H p ys\/c5 X.K H p ys)/\∀l,H l=none->Q (.ref l) (upd H l (.lst ys))):=by
 intro pins s σ H xs us Q I r h
 obtain⟨p,ys,rfl,hq,q⟩:=h
 obtain⟨u,rfl,rx⟩:=vals1 r
 cases rx
 have fin:∀(bA:List Value),Vals ys bA->ys.length<=sizeLine->∀(h':Heap) (c':Nat),(∀b o',s.heap.get? b=some o'->h'.get? b=some o')->
  h'.get? s.heap.objs.size=some {cls:=.type "list",dict:=none,data:=.seq bA.toArray c',slots:=#[]}->EP X pins σ Q (.ref s.heap.objs.size) {s with heap:=h' }:=fun bA r' hz h' c' kp e=>
  ⟨.ref s.heap.objs.size,_,I.laid (t':=s.toks) kp (Nat.le_refl _) (show dF X.prog X.w _ h' _ (.lst ys) from ⟨hz,bA,c',r',e⟩),rfl,q _ (I.dU.fresh (Nat.le_refl _))⟩
 rcases hq with hq |hq
 ·obtain⟨bA,r',pl,hz⟩:=I.list hq
  have hlen:=r'.length
  obtain⟨o,ho,hc,n,hd⟩:=pl.isList
  exact call_list_seq p (.inl rfl) ho hc hd (fun h' c' kp e=>fin bA r' hz h' c' kp e) (by simp only[List.size_toArray]<;>lia)
 ·obtain⟨bA,r',pl,hz⟩:=I.tuple hq
  have hlen:=r'.length
  obtain⟨o,ho,hc,n,hd⟩:=pl
  exact call_list_seq p (.inr rfl) ho hc hd (fun h' c' kp e=>fin bA r' hz h' c' kp e) (by simp only[List.size_toArray]<;>lia)
theorem kR:qe X (.type "tuple") (fun xs H Q=>∃p ys,xs=[.ref p]/\((il X.K H p ys/\∀l,H l=none->Q (.ref l) (upd H l (.tup ys)))\/(c5 X.K H p ys/\Q (.ref p) H))):=by
 intro pins s σ H xs us Q I r h
 obtain⟨p,ys,rfl,h⟩:=h
 obtain⟨u,rfl,rx⟩:=vals1 r
 cases rx
 rcases h with ⟨hq,q⟩ |⟨hq,q⟩
 ·obtain⟨bA,r',pl,hz⟩:=I.list hq
  have hlen:=r'.length
  refine call_tuple_list pl.isList (fun h' kp=>?_) (by simp only[List.size_toArray]<;>lia)
  have I1:Inv X pins σ H {s with heap:=h' }:=I.kept (t':=s.toks) kp
  have I2:Inv X pins σ (upd H h'.objs.size (.tup ys)) {s with heap:=h'.push {cls:=.type "tuple",data:=.seq bA.toArray} }:=
   I1.laid (t':=s.toks) (fun b o e=>Heap.get?_push_of_some _ e) (Nat.le_refl _) (show dF X.prog X.w _ _ _ (.tup ys) from ⟨hz,bA,r',IsTup.new _ _⟩)
  exact⟨.ref h'.objs.size,_,I2,rfl,q _ (I1.dU.fresh (Nat.le_refl _))⟩
 ·obtain⟨bA,r',pl,hz⟩:=I.tuple hq
  exact call_tuple_same pl ⟨.ref p,H,I,rfl,q⟩
def Uh (K:PySem.W.Frag) (T:String) (x:V) (H:Hp):Prop:=match x with
 |.str _=>T = "str"
 |.int _=>T = "int"
 |.ref p=>(T = "list"/\∃xs,il K H p xs)\/(T = "tuple"/\∃o,K.lookup p=some o/\o.cls=.type "tuple"/\o.dict=none)\/
  (T = "dict"/\((∃aP,H p=some (.dK aP))\/∃aP,H p=some (.dT aP)))\/(T = "set"/\∃S n,H p=some (.set S n))
 |_=>False
theorem HJ{pins:List (Addr×Obj)}{σ:St}{H:Hp}{s:Shared}{T:String}{x:V}{v:Value}(I:Inv X pins σ H s)(r:RelV x v)(ty:Uh X.K T x H) :
 s.TypeIs v T/\∀a,v=.ref a->∃ob,s.heap.get? a=some ob/\ob.dict=none:=by
 cases x with
 |str z=>
  obtain⟨t,rfl⟩:=r
  cases (show T = "str" from ty)
  exact⟨typeIs_str s z t,fun _ e=>nomatch e⟩
 |int i=>
  obtain⟨t,rfl⟩:=r
  cases (show T = "int" from ty)
  exact⟨typeIs_int s i t,fun _ e=>nomatch e⟩
 |ref p=>
  cases r
  rcases ty with ⟨rfl,xs,hq⟩ |⟨rfl,o,hk,hc,hd⟩ |⟨rfl,hk⟩ |⟨rfl,S,n,hk⟩
  ·obtain⟨bA,_,pl,_⟩:=I.list hq
   refine⟨pl.isList.typeIs,fun a e=>?_⟩
   cases e
   obtain⟨o,n,e,c,hd,_⟩:=pl
   exact⟨o,e,hd⟩
  ·refine⟨⟨o,I.vw p o hk,hc⟩,fun a e=>?_⟩
   cases e
   exact⟨o,I.vw _ o hk,hd⟩
  ·have z:∃o,s.heap.get? p=some o/\o.ExactDict:=by
    rcases hk with ⟨aP,hk⟩ |⟨aP,hk⟩
    ·obtain⟨_,_,_,_,o,_,_,e,ex,_⟩:=I.dU p _ hk
     exact⟨o,e,ex⟩
    ·obtain⟨_,_,_,_,o,_,_,e,ex,_⟩:=I.dU p _ hk
     exact⟨o,e,ex⟩
   obtain⟨o,e,ex⟩:=z
   refine⟨⟨o,e,ex.1⟩,fun a e2=>?_⟩
   cases e2
   exact⟨o,e,ex.2.1⟩
  ·obtain⟨o,_,_,_,e,ex,_⟩:=I.dU p _ hk
   refine⟨⟨o,e,ex.1⟩,fun a e2=>?_⟩
   cases e2
   exact⟨o,e,ex.2.1⟩
 |_=>exact False.elim ty
def OL (K:PySem.W.Frag) (T:String) (r:V->List V->Hp->VK->Prop) (to:TE):TE:=fun σ H Q=>to σ H fun x H1=>Uh K T x H1/\r x [] H1 Q
def VG (K:PySem.W.Frag) (T:String) (r:V->List V->Hp->VK->Prop) (to:TE) (t:TA):TE:=fun σ H Q=>to σ H fun x H1=>Uh K T x H1/\t σ H1 fun xs H2=>r x xs H2 Q
variable{o e:Expr}{es:List Expr}{to:TE}{t:TA}{name:Str}{apos vP:Pos}{T id:String}{r:V->List V->Hp->VK->Prop}
theorem CA(pa:PlainAttrs T)(slot:Slot T name id)(VH:typeOf (.builtin id)=pure (.type "method_descriptor"))(hm:Yv X id r)(ho:PE X o to)
 (HK:attributeBase o name X.env (eval o X.env)=eval o X.env:=by rfl) (HL:(apos.endLine==vP.line)=true:=by rfl):PE X (.Call (.Attribute o name apos) [] [] vP) (OL X.K T r to):=by
 intro pins s σ H Q I h
 refine wpAny_Call_method0_late HK HL (fA (ho pins s σ H _ I h) fun v s1 zqz=>?_)
 obtain⟨x,H1,I1,r1,ty,q1⟩:=zqz
 obtain⟨h1,h2⟩:=HJ I1 r1 ty
 exact⟨T,id,pa,slot,VH,h1,h2,Calls.callWith_builtin rfl (PySem.evalArgs_none (hm pins s1 σ H1 x [] v [] Q I1 r1 .nil q1))⟩
theorem eR(pa:PlainAttrs T)(slot:Slot T name id)(VH:typeOf (.builtin id)=pure (.type "method_descriptor"))(hm:Yv X id r)(ho:PE X o to)(ha:PA X (e::es) t)
 (HK:attributeBase o name X.env (eval o X.env)=eval o X.env:=by rfl)
 (VI:((backTo vP (starEach (e::es) X.env)).all (fun x=>!x.1)&&(backToKw vP (keywordEach [] X.env)).all (fun x=>x.1.isSome)
  && decide ((e::es).length+([]:List Keyword).length+(if ([]:List Keyword).isEmpty then 0 else 1)<30))=true:=by rfl)
 (HL:(apos.endLine==vP.line)=true:=by rfl) (hs:starEach (e::es) X.env=(false,eval e X.env)::starEach es X.env:=by rfl) (OM:(backTo vP (starEach es X.env)).any (·.1)=false:=by rfl) :
 PE X (.Call (.Attribute o name apos) (e::es) [] vP) (VG X.K T r to t):=by
 intro pins s σ H Q I h
 refine wpAny_Call_method_late HK VI HL rfl (fA (ho pins s σ H _ I h) fun v s1 zqz=>?_)
 obtain⟨x,H1,I1,r1,ty,q1⟩:=zqz
 obtain⟨h1,h2⟩:=HJ I1 r1 ty
 refine⟨T,id,pa,slot,VH,h1,h2,?_⟩
 have hA:=ha vP pins s1 σ H1 _ I1 q1
 rw[hs] at hA ⊢
 refine Calls.callWith_builtin (by show (false ||(backTo vP (starEach es X.env)).any (·.1))=false;rw[OM]<;>rfl) (Calls.evalArgs_plain ?_)
 refine fA hA fun us s2 zqz=>?_
 obtain⟨vs,H2,I2,r2,q2⟩:=zqz
 exact hm pins s2 σ H2 x vs v us Q I2 r1 r2 q2
end
end L2
namespace L2
open PySem PySem.Spec PyProof.Rows
def QH (X:Cx) (id:String) (r:V->List V->Hp->VK->Prop):Prop:=
 ∀(pins:List (Addr×Obj)) (s:Shared) (σ:St) (H:Hp) (x:V) (xs:List V) (v:Value) (us:List Value) (Q:VK),Inv X pins σ H s->RelV x v->Vals xs us->r x xs H Q->
  wpAny (model X.prog X.w) X.A (call (.builtin id) (v::us)) (EP X pins σ Q) X.xe s
theorem Vals.one:∀ {x:V} {us:List Value},Vals [x] us->∃u,us=[u]/\RelV x u
 |_,_,.cons r .nil=>⟨_,rfl,r⟩
theorem Vals.zero:∀ {us:List Value},Vals [] us->us=[]
 |_,.nil=>rfl
theorem Vals.dropLast{xs:List V}{us:List Value}(h:Vals xs us):Vals xs.dropLast us.dropLast:=by
 induction h with
 |nil=>exact .nil
 |cons r t ih=>
  cases t with
  |nil=>exact .nil
  |cons q t'=>exact .cons r ih
theorem Vals.eraseIdx:∀ {xs:List V} {us:List Value} (i:Nat),Vals xs us->Vals (xs.eraseIdx i) (us.eraseIdx i)
 |_,_,_,.nil=>.nil
 |_,_,0,.cons _ t=>t
 |_,_,i+1,.cons r t=>.cons r (Vals.eraseIdx i t)
theorem Vals.reverse{xs:List V}{us:List Value}(h:Vals xs us):Vals xs.reverse us.reverse:=by
 induction h with
 |nil=>exact .nil
 |cons r t ih=>rw[List.reverse_cons,List.reverse_cons];exact Vals.append ih (.cons r .nil)
theorem CB{α:Type}(l:List α):l.eraseIdx (l.length-1)=l.dropLast:=by
 induction l with
 |nil=>rfl
 |cons a r ih=>
  cases r with
  |nil=>rfl
  |cons b r=>
   have e:(a::b::r).length-1=((b::r).length-1)+1:=by
    have h1:(a::b::r).length=r.length+2:=rfl
    have h2:(b::r).length=r.length+1:=rfl
    lia
   rw[e,List.eraseIdx_cons_succ,ih]
   all_goals rfl
theorem xY{α:Type}:∀(l:List α) (i:Nat),(l.eraseIdx i).length<=l.length
 |[],_=>Nat.le_refl _
 |_::_,0=>Nat.le_succ _
 |_::r,i+1=>Nat.succ_le_succ (xY r i)
section
variable{X:Cx}{pins:List (Addr×Obj)}{σ:St}{H:Hp}{s:Shared}{l b:Addr}{xs ys zs:List V}
theorem Inv.Ll{bA its':List Value}{n:Nat}{f:Array Value->Array Value}{t':Nat}(I:Inv X pins σ H s)(hH:H l=some (.lst xs))
 (e:s.heap.get? l=some {cls:=.type "list",data:=.seq bA.toArray n}) (hf:f bA.toArray=its'.toArray) (hv:Vals ys its') (hz:ys.length<=sizeLine) :
 Inv X pins σ (upd H l (.lst ys)) {s with heap:=s.heap.update l (Obj.mapSeq f),toks:=t' }:=by
 have q:=PySem.IsL.update e f
 rw[hf] at q
 refine I.write (x:=l) (e:=l) (by rw[hH];exact trivial) (.inl rfl) (fun b' u hb hu=>(Heap.get?_update_other s.heap (Obj.mapSeq f) (Ne.symm hb)).trans hu) ⟨_,q⟩ ?_
 exact⟨hz,its',_,hv,q⟩
theorem Inv.VJ{bA:List Value}{t':Nat}(I:Inv X pins σ H s)(hv:Vals ys bA)(hz:ys.length<=sizeLine) :
 Inv X pins σ (upd H s.heap.objs.size (.lst ys)) {s with heap:=s.heap.push {cls:=.type "list",data:=.seq bA.toArray},toks:=t' }:=
 I.laid (fun _ _ q=>Heap.get?_push_of_some _ q) (Nat.le_refl _) ⟨hz,bA,0,hv,Heap.get?_push_size _ rfl⟩
theorem Inv.fresh(I:Inv X pins σ H s):H s.heap.objs.size=none:=I.dU.fresh (Nat.le_refl _)
theorem Inv.AK(I:Inv X pins σ H s)(hH:H l=some (.lst xs)):xs.length<=sizeLine/\∃(bA:List Value) (n:Nat),Vals xs bA/\xs.length=bA.length/\s.heap.get? l=some {cls:=.type "list",data:=.seq bA.toArray n}:=by
 obtain⟨z,bA,n,r,e⟩:=I.dU l _ hH
 exact⟨z,bA,n,r,r.length,e⟩
theorem HM{n:Nat}(h:n<=sizeLine):Builtin.List.listTooLong n=false:=by
 unfold Builtin.List.listTooLong
 exact decide_eq_false (by lia)
end
section
variable{X:Cx}
def zb:V->List V->Hp->VK->Prop:=fun x vs H Q=>∃l xs y,x=.ref l/\vs=[y]/\H l=some (.lst xs)/\xs.length<sizeLine/\Q .ck (upd H l (.lst (xs++[y])))
theorem bL:QH X "list.append" zb:=by
 intro pins s σ H x vs v us Q I rx rv h
 obtain⟨l,xs,y,rfl,rfl,hH,hz,q⟩:=h
 cases rx
 obtain⟨u,rfl,ru⟩:=rv.one
 obtain⟨z,bA,n,r,hl,e⟩:=I.AK hH
 refine call_meets F.slot_list_append ⟨_,e,rfl⟩ F.entry_list_append (F.args_list_append_2 _ _) (PySem.list_append l bA.toArray n u (by rw[List.size_toArray];lia)) ⟨e,?_⟩
 refine⟨.ck,_,I.Ll (its':=bA++[u]) hH e (by simp) (r.append (.cons ru .nil)) ?_,rfl,q⟩
 rw[List.length_append,List.length_singleton]
 lia
def Lm:V->List V->Hp->VK->Prop:=fun x vs H Q=>∃l b xs zs,x=.ref l/\vs=[.ref b]/\H l=some (.lst xs)/\H b=some (.lst zs)/\xs.length+zs.length<=sizeLine/\Q .ck (upd H l (.lst (xs++zs)))
theorem xZ:QH X "list.extend" Lm:=by
 intro pins s σ H x vs v us Q I rx rv h
 obtain⟨l,b,xs,zs,rfl,rfl,hH,hB,hz,q⟩:=h
 cases rx
 obtain⟨u,rfl,ru⟩:=rv.one
 cases ru
 obtain⟨z,bA,n,r,hl,e⟩:=I.AK hH
 obtain⟨z2,rO,n2,r2,CD,e2⟩:=I.AK hB
 have hsz:bA.toArray.size+rO.toArray.size<=sizeLine:=by rw[List.size_toArray,List.size_toArray];lia
 have RR:¬(!bA.toArray.isEmpty&&Builtin.List.listTooLong (bA.toArray.size+rO.toArray.size))=true:=by
  rw[HM hsz,Bool.and_false]
  exact Bool.false_ne_true
 refine call_meets F.slot_list_extend ⟨_,e,rfl⟩ F.entry_list_extend (F.args_list_extend_2 _ _)
  (AutoSeq1.list_extend_list_list_0 l bA.toArray n b rO.toArray n2 RR (by rw[List.size_toArray];lia) (by lia)) ⟨e,e2,?_⟩
 refine⟨.ck,_,I.Ll (its':=bA++rO) hH e (by simp) (r.append r2) ?_,rfl,q⟩
 rw[List.length_append]
 lia
def VL:V->List V->Hp->VK->Prop:=fun x vs H Q=>∃l xs y,x=.ref l/\vs=[]/\H l=some (.lst xs)/\xs[xs.length-1]?=some y/\Q y (upd H l (.lst xs.dropLast))
theorem CF:QH X "list.pop" VL:=by
 intro pins s σ H x vs v us Q I rx rv h
 obtain⟨l,xs,y,rfl,rfl,hH,hy,q⟩:=h
 cases rx
 have hus:=rv.zero
 subst hus
 obtain⟨z,bA,n,r,hl,e⟩:=I.AK hH
 obtain⟨u,hu,ru⟩:=r.get hy
 have Ui:bA.toArray[bA.toArray.size-1]?=some u:=by
  show bA.toArray[bA.length-1]?=some u
  rw[<- Array.getElem?_toList,<- hl]
  exact hu
 refine call_meets F.slot_list_pop ⟨_,e,rfl⟩ F.entry_list_pop (F.args_list_pop_1 _) (MeetsSeq.list_pop_last l bA.toArray n u Ui (by rw[List.size_toArray];lia)) ⟨e,?_⟩
 refine⟨y,_,I.Ll (its':=bA.dropLast) hH e ?_ r.dropLast ?_,ru,q⟩
 ·show bA.toArray.eraseIdxIfInBounds (bA.toArray.size-1)=bA.dropLast.toArray
  rw[List.size_toArray,List.eraseIdxIfInBounds_toArray,CB]
 ·rw[List.length_dropLast]
  lia
def ON:V->List V->Hp->VK->Prop:=fun x vs H Q=>∃l xs i k y,x=.ref l/\vs=[.int i]/\H l=some (.lst xs)/\-(2 ^ 63)<=i/\i<2 ^ 63/\seqIndex? i xs.length=some k/\xs[k]?=some y/\Q y (upd H l (.lst (xs.eraseIdx k)))
theorem HN:QH X "list.pop" ON:=by
 intro pins s σ H x vs v us Q I rx rv h
 obtain⟨l,xs,i,k,y,rfl,rfl,hH,h1,h2,hk,hy,q⟩:=h
 cases rx
 obtain⟨u,rfl,ru⟩:=rv.one
 obtain⟨t,rfl⟩:=ru
 obtain⟨z,bA,n,r,hl,e⟩:=I.AK hH
 obtain⟨w,hw,Fz⟩:=r.get hy
 refine call_meets F.slot_list_pop ⟨_,e,rfl⟩ F.entry_list_pop (F.args_list_pop_2 _ _)
  (MeetsSeq.list_pop_at l bA.toArray n i t k w (fitsIndex_both h1 h2) (by rw[List.size_toArray,<- hl];exact hk) (by rw[<- Array.getElem?_toList];exact hw) (by rw[List.size_toArray];lia)) ⟨e,?_⟩
 refine⟨y,_,I.Ll (its':=bA.eraseIdx k) hH e ?_ (r.eraseIdx k) ?_,Fz,q⟩
 ·show bA.toArray.eraseIdxIfInBounds k=(bA.eraseIdx k).toArray
  rw[List.eraseIdxIfInBounds_toArray]
 ·have:=xY xs k
  lia
def VM:R2:=fun x y H Q=>∃l b xs zs,x=.ref l/\y=.ref b/\H l=some (.lst xs)/\H b=some (.lst zs)/\xs.length+zs.length<=sizeLine/\∀p,H p=none->Q (.ref p) (upd H p (.lst (xs++zs)))
theorem HP:qd X (binaryOp .Add) VM:=by
 intro pins s σ H x y v u Q I rx ry h
 obtain⟨l,b,xs,zs,rfl,rfl,hH,hB,hz,q⟩:=h
 cases rx
 cases ry
 obtain⟨z,bA,n,r,hl,e⟩:=I.AK hH
 obtain⟨z2,rO,n2,r2,CD,e2⟩:=I.AK hB
 refine PySem.P.add_list e e2 ?_ (by rw[List.size_toArray,List.size_toArray];lia)
 have ea:bA.toArray++rO.toArray=(bA++rO).toArray:=by simp
 rw[ea]
 exact⟨.ref _,_,I.VJ (t':=s.toks) (r.append r2) (by rw[List.length_append];lia),rfl,q _ I.fresh⟩
end
section
variable{prog:Program}{w:World}{A:Around}{E:Value->Shared->Prop}{s:Shared}
end
section
variable{X:Cx}
end
end L2
namespace Uj
open PySem PySem.W PySem.Calls PyProof.Rows
theorem vf{P:Params}{h:Heap}:∀(ns:List Int) (vs:List Value),WellAll P h vs (ns.map WData.int)->IntsAre vs ns:=by
 intro ns
 induction ns with
 |nil=>
  intro vs w
  rw[List.map_nil] at w
  cases w
  exact .nil
 |cons n ns ih=>
  intro vs w
  rw[List.map_cons] at w
  cases w with
  |cons a b=>
   cases a
   exact .cons _ _ (ih _ b)
theorem FA{l:OpenLaw}{n:Nat}(hn:l.most=some n){P:Params}{h:Heap}{args:List WData}{vals:List Value}
 (Ln:l.row.toRowW.claim.pre args=true) (VN:WellAll P h vals args) :
 ∃a vs ns,vals=[Value.ref a]/\args=[WData.list (ns.map WData.int)]/\h.get? a=some {cls:=.type "list",data:=.seq vs.toArray}/\IntsAre vs ns/\ns.length<=n:=by
 have hsh:WShape.hasAll [] args [.list .int]=true:=(pre_splitW Ln).1
 have hc:l.pre.holds [] {args:=args}=true:=(pre_splitW Ln).2
 obtain⟨d,r,rfl,h1,h2⟩:=hasAllW_cons hsh
 obtain rfl:=hasAllW_nil h2
 obtain⟨xs,rfl,h3⟩:=hasW_list h1
 obtain⟨ns,rfl⟩:=items_int h3
 have hlen:ns.length<=n:=by
  unfold OpenLaw.pre at hc
  have h4:(WTm.not (.lt (.lit (.int (n:Int))) (.len (.arg 0)))).holds [] {args:=[.list (ns.map .int)]}=true:=by
   have h4:=(holds_andW hc).1
   rw[hn] at h4
   exact h4
  have h5:=condW_of h4 (w_not (w_lt w_lit (w_len_list (w_arg rfl))))
  rw[List.length_map] at h5
  refine Nat.le_of_not_lt fun q=>?_
  have q':(n:Int)<((ns.length:Nat):Int):=by lia
  first
   |(rw[decide_eq_true q'] at h5;exact absurd h5 (by decide))
   |(simp at h5;lia)
 cases VN with
 |cons w1 w2=>
  cases w2
  cases w1 with
  |list ho OO=>exact⟨_,_,ns,rfl,rfl,ho,vf ns _ OO,hlen⟩
theorem FC(l:OpenLaw)(args:List WData):l.row.toRowW.claim.post args (.bool true) args=true:=
 postW_of (r:=l.row.toRowW) (X:=(true==true))
  (show WShape.has [] (.bool true) .bool=true by first |rfl |decide |simp[WShape.has,WShape.arms,WShape.armsAll])
  (show (WTm.eq .res (.lit (.bool true))).value [] {args:=args,res:=some (.bool true),after:=args}=some (.bool (true==true)) from w_eq_bool (w_res rfl) w_lit) rfl
theorem AL{l:OpenLaw}{n:Nat}{q:Program}{loose:List Str}{XP:(Str->Option Value)->Heap->Prop}{YP:World->Heap->Prop}{d:DefRec}
 (hn:l.most=some n) (RT:d.params.defaults=[])
 (call:∀(w:World) (s₀ s₁:Shared) (mg mb:Str->Option Value) (fa:Addr) (o:Obj) (pm cd doc:Value) (a:Addr) (vs:List Value) (ns:List Int),
  Ground q loose [] XP w s₀ mg mb s₁.heap->YP w s₁.heap->
  s₁.heap.get? fa=some o->o.data=.func (docDef d.name d.params d.body d.scope pm cd doc)->s₁.heap.CodeRec cd d.name->mg d.name=some (.ref fa)->
  s₁.heap.get? a=some {cls:=.type "list",data:=.seq vs.toArray}->IntsAre vs ns->ns.length<=n->s₁.gens = #[]->
  codeAny (model l.prog w) callerA (.call (.ref fa) ⟨[.ref a],[]⟩) (fun r s'=>r=.ok (.ret (.bool true))/\OldK s₁.heap s'.heap/\s'.os=s₁.os/\AllBare s'.gens) s₁) :
 WalkO q loose XP YP l.row.toRowW d [] (fun f vs=>PySem.call f vs):=by
 intro w s₀ s₁ mg mb G Y fa o pm cd doc dV kV ho hd G6 hD RU hg args vals as Ln aaj hrd VN hlo
 obtain rfl:dV=.none:=Dflts.none hD RT
 obtain rfl:kV=.none:=Dflts.noKw hD
 obtain⟨a,vs,ns,rfl,rfl,OP,hints,hlen⟩:=FA hn Ln VN
 refine enter_call (codeAny_mono (call w s₀ s₁ mg mb fa o pm cd doc a vs ns G Y ho (fd_plain hd) G6 RU OP hints hlen hg) fun r s' hq=>?_)
 obtain⟨rfl,h2,h3,h4⟩:=hq
 exact⟨.inl ⟨.bool true,.bool true,[],rfl,fun _=>rfl,.bool true,FC l _,fun _=>⟨List.Pairwise.nil,fun _ hm=>(nomatch hm)⟩⟩,h2,h3,h4⟩
section
variable{prog:Program}{w:World}{A:Around}{E:Value->Shared->Prop}{s:Shared}{K:Frag}
def ledger (h:Heap) (L d:Addr):List (Addr×Obj):=(List.range h.objs.size).filterMap fun a=>if a=L\/a=d then none else (h.get? a).map fun o=>(a,o)
end
end Uj
namespace L2
open PySem PySem.Spec PyProof.Rows
theorem x5:∀ {vs:List Value} {ns:List Int},IntsAre vs ns->Vals (ns.map V.int) vs
 |_,_,.nil=>.nil
 |_,_,.cons n t h=>.cons ⟨t,rfl⟩ (x5 h)
def OQ (H:Hp):Prop:=∀b,H b=none\/∃o xs,H b=some (.Cc o (.lst xs))
theorem HQ{P:Program}{w:World}{K:PySem.W.Frag}{mg mb:Str->Option Value}{CX:B6}{k:Nat}{fa a:Addr}{fd:FuncData}{x:Str}{sp:Sp}{s₁:Shared}{vs:List Value}{ns:List Int}
 (KX:K.In s₁.heap) (Uk:s₁.heap.Ns mainGlobals mg) (hb:s₁.heap.Ns builtinsNs mb) (VO:∀x:Str,x≠"__name__"->mb x=bootBuiltins x) (VP:s₁.heap.NoLimit) (hg:s₁.gens = #[])
 (ha:s₁.heap.get? a=some {cls:=.type "list",data:=.seq vs.toArray}) (hi:IntsAre vs ns) (hl:ns.length<=sizeLine) (hr:ie k callerA)
 (F:∀base:Heap,K.In base->base.Ns mainGlobals mg->bQ P w K mg base CX k fa fd [x] sp) (RV:∀(s:Shared) (u:Value),BindsTo s fd ⟨[u],[]⟩ [(x,u)])
 (Nf:∀H:Hp,OQ H->il K H a (ns.map V.int)->sp [.ref a] H (fun v _=>v=.bl true) fun _ _ _=>False)
 (VQ:∀H e s',CX [] H s₁ (fun _ _ _=>False) e s'->False) :
 codeAny (model P w) callerA (.call (.ref fa) ⟨[.ref a],[]⟩) (fun r s'=>r=.ok (.ret (.bool true))/\OldK s₁.heap s'.heap/\s'.os=s₁.os/\AllBare s'.gens) s₁:=by
 have rv:=x5 hi
 have VR:=hi.length
 have core:∀H:Hp,OQ H->il K H a (ns.map V.int)->rq P w H s₁.heap->(∀b,H b≠none->b=a)->(H a≠none->K.lookup a=none)->
  codeAny (model P w) callerA (.call (.ref fa) ⟨[.ref a],[]⟩) (fun r s'=>r=.ok (.ret (.bool true))/\OldK s₁.heap s'.heap/\s'.os=s₁.os/\AllBare s'.gens) s₁:=by
  intro H hO hS dU hA hK
  have Ea:∀ {b:Addr} {o:Obj},s₁.heap.get? b=some o->H b=none->(yQ s₁.heap H).get? b=some o:=fun e n=>G4 e n
  have RI:∀ {b:Addr} {o:Obj} {es:Array DictEntry} {ep:Nat},s₁.heap.get? b=some o->o.data=.dict es ep->H b=none:=fun {b o es ep} e d=>by
   cases q:H b with
   |none=>rfl
   |some u=>
    have e':b=a:=hA b (by rw[q];simp)
    subst e'
    rw[ha] at e;cases e
    have d':Data.seq vs.toArray _=Data.dict es ep:=d
    cases d'
  have Ul:∀ {b:Addr} {m:Str->Option Value},s₁.heap.Ns b m->(yQ s₁.heap H).Ns b m:=fun {b m} ⟨o,es,ep,e,d,r⟩=>⟨o,es,ep,Ea e (RI e d),d,r⟩
  have Yw:K.In (yQ s₁.heap H):=fun b o e=>Ea (KX b o e) (by
   cases q:H b with
   |none=>rfl
   |some u=>
    have e':b=a:=hA b (by rw[q];simp)
    subst e'
    rw[hK (by rw[q];simp)] at e;cases e)
  have hM:Mod K mg (yQ s₁.heap H):=⟨Yw,Ul Uk,⟨mb,Ul hb,VO⟩,let ⟨mc,h1,h2⟩:=VP;⟨mc,Ul h1,h2⟩⟩
  have e0:Cs P w K mg (yQ s₁.heap H) callerA [] s₁ H:=⟨rfl,hM,fun b o e=>La e,Nat.le_of_eq (Fj _ _),trivial,fun b hb=>absurd (show b∈([]:List Addr) from hb) (by simp),dU,.of_eq hg⟩
  refine codeAny_mono ((F _ Yw (Ul Uk)).run callerA [] s₁ H ⟨[.ref a],[]⟩ [.ref a] [.ref a] _ _ hr e0 (RV s₁ (.ref a)) (.cons rfl .nil) (Nf H hO hS)) fun r s' h=>?_
  cases r with
  |error e=>exact(VQ H e s' h).elim
  |ok fl=>
   cases fl with
   |next=>exact False.elim h
   |brk=>exact False.elim h
   |cont=>exact False.elim h
   |ret u=>
    obtain⟨v,H',os,bare,un,VS,r',q⟩:=h
    have q':v=.bl true:=q
    subst q'
    obtain rfl:u=Value.bool true:=r'
    refine⟨rfl,OldK.of_keep fun b o e=>?_,os,bare⟩
    cases q:H b with
    |none=>exact un.keep b o e q (by intro z;exact absurd (show b∈([]:List Addr) from z) (by simp)) (by simp)
    |some u=>
     rcases hO b with z |⟨ob,xs,z⟩
     ·rw[q] at z;cases z
     ·have z2:=un.xo b ob _ z
      obtain⟨e1,_⟩:=dU b _ z
      obtain⟨e2,_⟩:=VS b _ z2
      rw[e] at e1;cases e1
      exact e2
 cases hk:K.lookup a with
 |some o=>
  have e:=KX a o hk
  rw[ha] at e
  cases e
  refine core (fun _=>none) (fun _=>.inl rfl) (.inr ⟨_,vs.toArray,_,hk,rfl,rfl,rfl,by rw[List.size_toArray,VR];exact hl,by simpa using rv⟩) (fun b u z=>by have z':(none:Option HO)=some u:=z;cases z') (fun b z=>absurd rfl z) fun z=>absurd rfl z
 |none=>
  refine core (fun b=>if b=a then some (.Cc {cls:=.type "list",data:=.seq vs.toArray} (.lst (ns.map V.int))) else none) (fun b=>?_) (.inl (.inr ⟨{cls:=.type "list",data:=.seq vs.toArray},if_pos rfl⟩)) (fun b u z=>?_) (fun b z=>?_) fun _=>hk
  ·by_cases hb:b=a
   ·exact .inr ⟨_,_,if_pos hb⟩
   ·exact .inl (if_neg hb)
  ·by_cases hb:b=a
   ·have z':=(if_pos hb).symm.trans z
    cases z'
    subst hb
    exact⟨ha,by rw[List.length_map];exact hl,vs,_,rv,ha⟩
   ·have z':=(if_neg hb).symm.trans z
    cases z'
  ·by_cases hb:b=a
   ·exact hb
   ·exact absurd (if_neg hb) z
end L2
namespace L2
open PySem PySem.Spec PyProof.Rows
abbrev KOf {K:PySem.W.Frag} {h:Heap} (_:K.In h):PySem.W.Frag:=K
theorem Lo{l:PySem.W.OpenLaw}{n k:Nat}{q:Program}{loose:List Str}{XP:(Str->Option Value)->Heap->Prop}{YP:World->Heap->Prop}{d:DefRec}{K:Params->PySem.W.Frag}{CX:World->B6}{sp:World->Sp}{x:Str}
 (hn:l.most=some n) (OA:n<=sizeLine) (RT:d.params.defaults=[]) (hr:ie k callerA)
 (hY:∀(w:World) (h:Heap),YP w h->(K w.params).In h)
 (F:∀(w:World) (mg:Str->Option Value) (fa:Addr) (h:Heap),(K w.params).In h->h.Ns mainGlobals mg->mg d.name=some (.ref fa)->
  ∃fd:FuncData,(∀(s:Shared) (u:Value),BindsTo s fd ⟨[u],[]⟩ [(x,u)])/\
   ∀base:Heap,(K w.params).In base->base.Ns mainGlobals mg->bQ l.prog w (K w.params) mg base (CX w) k fa fd [x] (sp w))
 (Nf:∀(w:World) (H:Hp) (a:Addr) (ns:List Int),ns.length<=n->OQ H->il (K w.params) H a (ns.map V.int)->sp w [.ref a] H (fun v _=>v=.bl true) fun _ _ _=>False)
 (VQ:∀(w:World) (H:Hp) (s:Shared) (e:Value) (s':Shared),CX w [] H s (fun _ _ _=>False) e s'->False) :
 PySem.W.WalkO q loose XP YP l.row.toRowW d [] (fun f vs=>PySem.call f vs):=by
 refine Uj.AL hn RT fun w s₀ s₁ mg mb fa o pm cd doc a vs ns G Y ho hd G6 RU OP hints hlen hg=>?_
 have KX:=hY w _ Y
 obtain⟨fd,hb,hF⟩:=F w mg fa _ KX G.T.g RU
 exact HQ KX G.T.g G.T.b G.T.builtins G.T.nolimit hg OP hints (Nat.le_trans hlen OA) hr hF hb (fun H hO hS=>Nf w H a ns hlen hO hS) fun H e s'=>VQ w H s₁ e s'
end L2
namespace L2
open PySem PySem.Spec PyProof.Rows
def inClass (s:Stmt) (j:Nat):Stmt:=match s with
 |.ClassDef _ _ _ body _ _ _ _ _ _ _=>body.getD j (.Pass ⟨0,0,0,0⟩)
 |_=>.Pass ⟨0,0,0,0⟩
def eU (s:Stmt):Arguments:=match s with
 |.FunctionDef _ a _ _ _ _ _ _ _ _=>a
 |_=>{posonlyargs:=[],args:=[],vararg:=none,kwonlyargs:=[],kw_defaults:=[],kwarg:=none,defaults:=[]}
def dP (s:Stmt):List Stmt:=match s with
 |.FunctionDef _ _ b _ _ _ _ _ _ _=>b
 |_=>[]
def aO (s:Stmt):Scope:=match s with
 |.FunctionDef _ _ _ _ _ _ sc _ _ _=>sc
 |_=>{kind:=.function,names:=[],isGenerator:=false,isCoroutine:=false}
abbrev fh:B6:=fun _ _ _ _ _ _=>False
abbrev E0:XK:=fun _ _ _=>False
theorem aX{X:Cx}:Passes fh X E0:=fun _ _ _ _ _ _ _ h=>h.elim
structure Eb(K:PySem.W.Frag)(x qual:Str)(st:Stmt)(f:Addr)(fd:FuncData):Prop where
 ex:∃(oc:Value) (od:Option Addr) (kV doc pm:Value) (an:Option Addr) (fD ct:Value) (KO:Array (Option Value)),
  fd=PySem.W.fnOf x qual (eU st) (dP st) (aO st) .none kV doc pm an fD ct/\K.lookup f=some ⟨oc,od,.func fd,KO⟩/\PySem.W.codeIn K fD qual=true
 kp:PySem.W.keepIn K (.ref f)=true
section
variable{P:Program}{w:World}{K:PySem.W.Frag}{mg:Str->Option Value}{base:Heap}
theorem Eb.ok{x qual:Str}{st:Stmt}{f:Addr}{fd:FuncData}{N ps:List Str}{k:Nat}{sp:Sp}(F:Eb K x qual st f fd)(S:bj N ps (aO st))(len:∀vs H Q E,sp vs H Q E->vs.length=ps.length)
 (AI:∀(fD:Value) (A:Around) (outer:List Env) (s:Shared) (H:Hp) (vs:List V) (Q:VK) (E:XK),ie k (A.deeper (envOfC qual (aO st) s.heap.objs.size f fD))->sp vs H Q E->
  ∃t,DO (xq fh P w K mg base N qual (aO st) f fD A outer s H E).Rn (dP st) t/\t {nx:=fun _ H'=>Q .ck H',rt:=Q} (start N vs) H):bQ P w K mg base fh (k+1) f fd ps sp:=by
 obtain⟨oc,od,kV,doc,pm,an,fD,ct,KO,rfl,lk,G6⟩:=F.ex
 refine RJ lk G6 S len fun A outer s H vs Q E hr Nf=>?_
 obtain⟨t,h,q⟩:=AI fD A outer s H vs Q E hr Nf
 exact⟨t,h.Rn,q⟩
theorem Eb.binds{x qual:Str}{st:Stmt}{f:Addr}{fd:FuncData}{ps:List Str}(F:Eb K x qual st f fd)
 (h:∀(kV doc pm:Value) (an:Option Addr) (fD ct:Value) (us:List Value),us.length=ps.length->bindArgs (PySem.W.fnOf x qual (eU st) (dP st) (aO st) .none kV doc pm an fD ct) ⟨us,[]⟩=pure (ps.zip us)):Binds K fd ps []:=by
 obtain⟨oc,od,kV,doc,pm,an,fD,ct,KO,rfl,lk,G6⟩:=F.ex
 exact .all (h kV doc pm an fD ct)
theorem tY{x qual:Str}{st:Stmt}{f:Addr}{oc:Value}{od an:Option Addr}{KO:Array (Option Value)}{kV doc pm fD ct:Value}(l:K.lookup f=some ⟨oc,od,.func (PySem.W.fnOf x qual (eU st) (dP st) (aO st) .none kV doc pm an fD ct),KO⟩)
 (c:PySem.W.codeIn K fD qual=true) (k:PySem.W.keepIn K (.ref f)=true):Eb K x qual st f (PySem.W.fnOf x qual (eU st) (dP st) (aO st) .none kV doc pm an fD ct):=⟨⟨oc,od,kV,doc,pm,an,fD,ct,KO,rfl,l,c⟩,k⟩
end
theorem fE{A:Around}{k:Nat}(hr:ie k A):A.units+1<cLine:=Nat.lt_of_le_of_lt (Nat.add_le_add_left (by decide:1<=64) _) hr.units
theorem FD{n:Nat}(h:n<=1000):n<sizeLine:=Nat.lt_of_le_of_lt h (by decide)
section
variable{X:Cx}
theorem pv(i:Nat){x:Str}{pos:Pos}(hN:X.N[i]?=some x:=by rfl)(hv:Ub X.env.scope x:=by first |exact Or.inl rfl |exact Or.inr (Or.inl rfl) |exact Or.inr (Or.inr rfl))(hd:(x==("__debug__":Str))=false:=by decide)
 (G6:(x==("__classdict__":Str))=false:=by decide):PE X (.Name x pos) (g9 i):=Og hN hv hd G6
end
theorem b4{c A B:Prop}[Decidable c](h1:c->A)(h2:¬c->B):if c then A else B:=by
 by_cases h:c
 ·rw[if_pos h]
  exact h1 h
 ·rw[if_neg h]
  exact h2 h
def av (H H':Hp):Prop:=∀b o,H b=some o->H' b=some o
theorem av.refl(H:Hp):av H H:=fun _ _ h=>h
theorem av.trans{H H1 H2:Hp}(a:av H H1)(b:av H1 H2):av H H2:=fun c o h=>b c o (a c o h)
theorem av.free{H H':Hp}(e:av H H'){l:Addr}(h:H' l=Option.none):H l=Option.none:=by
 cases q:H l with
 |none=>rfl
 |some o=>
  rw[e l o q] at h
  cases h
theorem av.seq{K:PySem.W.Frag}{H H':Hp}{a:Addr}{xs:List V}(e:av H H')(h:il K H a xs):il K H' a xs:=by
 rcases h with (h |⟨o,h⟩) |h
 ·exact .inl (.inl (e _ _ h))
 ·exact .inl (.inr ⟨o,e _ _ h⟩)
 ·exact .inr h
end L2
namespace L2
open PySem PySem.Spec PyProof.Rows
end L2
namespace L2
open PySem PySem.Spec PyProof.Rows
section
variable(P:Program)(w:World)
end
section
variable{P:Program}{w:World}{H H':Hp}{h h':Heap}{a:Addr}{o:HO}
end
section
variable{P:Program}{w:World}{H:Hp}{h h':Heap}{x e:Addr}{o':HO}
end
section
variable{fs M4 ex Z5:List Addr}{H H1 H2:Hp}{h h1 h2 h':Heap}{a x e:Addr}{o:HO}
end
end L2
namespace L2
open PySem PySem.Spec PyProof.Rows
section
variable{X:Cx}{pins:List (Addr×Obj)}{σ:List (Option V)}{H H':Hp}{s:Shared}{h':Heap}
end
end L2
namespace L2
open PySem PySem.Spec PyProof.Rows
section
variable{X:Cx}
variable{a b:Expr}{ta tb:TE}{pos:Pos}
variable{tA Rk:TT}{rest:List Expr}
end
end L2
namespace L2
open PySem PySem.Spec PyProof.Rows
section
variable{X:Cx}{pins:List (Addr×Obj)}{σ:St}{H:Hp}{s:Shared}{a:Addr}{xs ys:List V}
end
section
variable{X:Cx}{pins:List (Addr×Obj)}{σ:St}{H:Hp}{s:Shared}{E:Value->Shared->Prop}
end
section
variable{X:Cx}{st:Stmt}{rest:List Stmt}{t u:TS}{e:Expr}{te:TE}{pos:Pos}
end
section
variable{X:Cx}{pos:Pos}
end
section
variable{X:Cx}{pos:Pos}
end
end L2
namespace L2
open PySem PySem.Spec PyProof.Rows
section
variable{X:Cx}{tg:Expr}
end
end L2
namespace L2
open PySem PySem.Spec PyProof.Rows
section
variable{X:Cx}{a b c:Expr}{ta tb tc:TE}{pos:Pos}
end
section
variable{X:Cx}{a b c:Expr}{ta tb tc:TE}{pos:Pos}
end
end L2
namespace L2
open PySem PySem.Spec PyProof.Rows
section
variable{prog:Program}{w:World}{A:Around}{E:Value->Shared->Prop}{s:Shared}{K:PySem.W.Frag}{x dx C f:Addr}{mA:Str->Option Value}{name:Str}{v:Value}
end
section
variable{P:Program}{w:World}{H H':Hp}{h h':Heap}{a C dx:Addr}{fs M4:List (Str×V)}
end
section
variable{X:Cx}{pins:List (Addr×Obj)}{σ:St}{H:Hp}{s:Shared}{a C dx:Addr}{fs:List (Str×V)}{f:Str}{v:V}{A:Around}{E:Value->Shared->Prop}
end
section
variable{X:Cx}{o e value:Expr}{f:Str}{pos pos' Hs:Pos}{ta tv:TE}
end
section
variable{X:Cx}{pins:List (Addr×Obj)}{σ:St}{H:Hp}{s:Shared}{A:Around}{E:Value->Shared->Prop}{Q:Value->Shared->Prop}{c:Value}{b:Bool}
end
end L2
namespace L2
open PySem PySem.Spec PyProof.Rows
section
variable{X:Cx}{e:Expr}{es:List Expr}{te:TE}{t:TA}{pos:Pos}
end
section
variable{X:Cx}{pins:List (Addr×Obj)}{σ:St}{H:Hp}{s s':Shared}
end
section
variable{X:Cx}{CX:B6}{k:Nat}{f C:Addr}{fd:FuncData}{ps:List Str}{sp:Sp}{vN:List V}{ds:List Value}{E:XK}{x m:Str}{p pos apos:Pos}{e o:Expr}{es:List Expr}{ta:TE}{t:TA}
end
section
variable{X:Cx}{CX:B6}{k:Nat}{f C:Addr}{fd:FuncData}{ps ks:List Str}{sp:Sp}{E:XK}{x m:Str}{p pos apos Vx:Pos}{e o:Expr}{es:List Expr}{kws:List Keyword}{te ta:TE}{t tk:TA}{nm:Option Str}
variable{g:List Value->List Value->List Value}{gV:List V->List V->List V}
end
end L2
namespace L2
open PySem PySem.Spec PyProof.Rows
section
variable{X:Cx}{x:Str}{p pos:Pos}{e:Expr}{es:List Expr}{t:TA}{id T:String}{r:List V->Hp->VK->Prop}
end
end L2
namespace L2
open PySem PySem.Spec PyProof.Rows
section
variable{κ:Type}[DecidableEq κ]
def cH (aP:List (κ×V)) (k:κ):Option V:=(aP.find? fun kv=>decide (kv.1=k)).map (·.2)
def putK (aP:List (κ×V)) (k:κ) (v:V):List (κ×V):=
 if (aP.any fun kv=>decide (kv.1=k))=true then aP.map (fun kv=>if kv.1=k then (kv.1,v) else kv) else aP++[(k,v)]
def Yx (aP:List (κ×V)) (k:κ):List (κ×V):=aP.filter fun kv=>decide (kv.1≠k)
theorem cI{p:κ×V}{r:List (κ×V)}{k:κ}(e:p.1=k):cH (p::r) k=some p.2:=by simp[cH,List.find?_cons,e]
theorem cJ{p:κ×V}{r:List (κ×V)}{k:κ}(e:¬p.1=k):cH (p::r) k=cH r k:=by simp[cH,List.find?_cons,e]
theorem lA(k:κ):∀aP:List (κ×V),(aP.any fun kv=>decide (kv.1=k))=(cH aP k).isSome
 |[]=>rfl
 |p::r=>by
  rw[List.any_cons]
  by_cases e:p.1=k
  ·simp only[cI e,decide_eq_true e,Bool.true_or,Option.isSome_some]
  ·rw[cJ e,decide_eq_false e,Bool.false_or];exact lA k r
theorem AM(k j:κ)(y:V):∀aP:List (κ×V),cH (aP.map fun kv=>if kv.1=k then (kv.1,y) else kv) j=(cH aP j).map fun x=>if j=k then y else x
 |[]=>rfl
 |p::r=>by
  have ih:=AM k j y r
  rw[List.map_cons]
  by_cases h:p.1=k
  ·rw[if_pos h]
   by_cases e:p.1=j
   ·rw[cI (p:=(p.1,y)) e,cI e,Option.map_some,if_pos (e.symm.trans h)]
   ·rw[cJ (p:=(p.1,y)) e,cJ e,ih]
  ·rw[if_neg h]
   by_cases e:p.1=j
   ·rw[cI (p:=p) e,cI e,Option.map_some,if_neg (fun z=>h (e.trans z))]
   ·rw[cJ (p:=p) e,cJ e,ih]
theorem x6(k j:κ)(y:V):∀aP:List (κ×V),cH aP k=none->cH (aP++[(k,y)]) j=if j=k then some y else cH aP j
 |[],_=>by
  by_cases e:k=j
  ·rw[if_pos e.symm];exact cI (p:=(k,y)) e
  ·rw[if_neg (fun z=>e z.symm)];exact cJ (p:=(k,y)) e
 |p::r,hn=>by
  rw[List.cons_append]
  have hk:¬p.1=k:=fun z=>by rw[cI z] at hn;cases hn
  rw[cJ hk] at hn
  have ih:=x6 k j y r hn
  by_cases e:p.1=j
  ·rw[cI e,cI e,if_neg (fun z=>hk (e.trans z))]
  ·rw[cJ e,cJ e,ih]
theorem nX(aP:List (κ×V))(k j:κ)(y:V):cH (putK aP k y) j=if j=k then some y else cH aP j:=by
 unfold putK
 by_cases a:(aP.any fun kv=>decide (kv.1=k))=true
 ·rw[if_pos a,AM]
  rw[lA] at a
  by_cases e:j=k
  ·obtain⟨x,hx⟩:=Option.isSome_iff_exists.mp a
   rw[if_pos e,e,hx,Option.map_some,if_pos rfl]
  ·rw[if_neg e]
   cases cH aP j with
   |none=>rfl
   |some x=>rw[Option.map_some,if_neg e]
 ·rw[if_neg a]
  refine x6 k j y aP ?_
  rw[lA] at a
  cases q:cH aP k with
  |none=>rfl
  |some x=>rw[q] at a;exact(a rfl).elim
theorem jh(aP:List (κ×V))(k:κ)(v:V):(putK aP k v).length<=aP.length+1:=by
 unfold putK
 split
 ·rw[List.length_map];lia
 ·rw[List.length_append,List.length_cons,List.length_nil];lia
theorem mv.pC{o:Option V}{u:Option Value}(r:mv o u):o.isSome=u.isSome:=by
 cases o with
 |none=>cases u with
  |none=>rfl
  |some _=>exact(show False from r).elim
 |some _=>cases u with
  |none=>exact(show False from r).elim
  |some _=>rfl
theorem mv.getD{o:Option V}{u:Option Value}{d:V}{d':Value}(r:mv o u)(rd:RelV d d'):RelV (o.getD d) (u.getD d'):=by
 cases o with
 |none=>cases u with
  |none=>exact rd
  |some _=>exact(show False from r).elim
 |some _=>cases u with
  |none=>exact(show False from r).elim
  |some _=>exact r
theorem KV.val{aP:List (κ×V)}{vs:List (κ×Value)}(r:KV aP vs)(k:κ):mv (cH aP k) (valueAt vs k):=by
 unfold KV at r
 induction r with
 |nil=>exact True.intro
 |@cons p q ps qs h t ih=>
  obtain⟨h1,h2⟩:=h
  by_cases e:p.1=k
  ·have e':q.1=k:=h1.symm.trans e
   have b:valueAt (q::qs) k=some q.2:=by simp[valueAt,List.find?_cons,e']
   rw[cI e,b];exact h2
  ·have e':¬q.1=k:=fun z=>e (h1.trans z)
   have b:valueAt (q::qs) k=valueAt qs k:=by simp[valueAt,List.find?_cons,e']
   rw[cJ e,b];exact ih
theorem KV.any{aP:List (κ×V)}{vs:List (κ×Value)}(r:KV aP vs)(k:κ):(aP.any fun kv=>decide (kv.1=k))=vs.any fun kv=>decide (kv.1=k):=by
 unfold KV at r
 induction r with
 |nil=>rfl
 |cons h t ih=>rw[List.any_cons,List.any_cons,ih,h.1]
theorem KV.OR{aP:List (κ×V)}{vs:List (κ×Value)}(r:KV aP vs)(k:κ){y:V}{u:Value}(ry:RelV y u) :
 KV (aP.map fun kv=>if kv.1=k then (kv.1,y) else kv) (vs.map fun kv=>if kv.1=k then (kv.1,u) else kv):=by
 unfold KV at r ⊢
 induction r with
 |nil=>exact .nil
 |@cons p q ps qs h t ih=>
  rw[List.map_cons,List.map_cons]
  refine .cons ?_ ih
  obtain⟨h1,h2⟩:=h
  by_cases e:p.1=k
  ·rw[if_pos e,if_pos (h1.symm.trans e)];exact⟨h1,ry⟩
  ·rw[if_neg e,if_neg (fun z=>e (h1.trans z))];exact⟨h1,h2⟩
theorem KV.put{aP:List (κ×V)}{vs:List (κ×Value)}(r:KV aP vs)(k:κ){y:V}{u:Value}(ry:RelV y u):KV (putK aP k y) (stored vs k u):=by
 unfold putK stored
 rw[r.any k]
 by_cases e:(vs.any fun kv=>decide (kv.1=k))=true
 ·rw[if_pos e,if_pos e];exact r.OR k ry
 ·rw[if_neg e,if_neg e];exact Paired.snoc r ⟨rfl,ry⟩
theorem KV.length{aP:List (κ×V)}{vs:List (κ×Value)}(r:KV aP vs):aP.length=vs.length:=Paired.length r
end
theorem vQ{P:Program}{w:World}{k:Key}{u:Value}(r:RelV (kV k) u):(b3 P w).is k u=true:=by
 cases k with
 |inl i=>obtain⟨t,e⟩:=(show ∃t,u=Value.int i t from r);subst e;exact Az P w i t
 |inr x=>obtain⟨t,e⟩:=(show ∃t,u=Value.str x t from r);subst e;exact AA P w x t
theorem tZ{P:Program}{w:World}:∀ {ks:List Key} {us:List Value},Vals (ks.map kV) us->ItemsAre (b3 P w) ks us
 |[],_,r=>by rw[List.map_nil] at r;cases r;exact .nil
 |k::ks,_,r=>by
  rw[List.map_cons] at r
  cases r with
  |cons h t=>exact .cons (vQ h) (tZ t)
abbrev KT (H:Hp):List (List Key×V)->List (List Key×Addr×Value)->Prop:=Paired fun p q=>p.1=q.1/\H q.2.1=some (.tup (p.1.map kV))/\RelV p.2 q.2.2
theorem KT.val{H:Hp}{aP:List (List Key×V)}{xs:List (List Key×Addr×Value)}(r:KT H aP xs)(k:List Key):mv (cH aP k) ((atKey xs k).map (·.2)):=by
 induction r with
 |nil=>exact True.intro
 |@cons p q ps qs h t ih=>
  obtain⟨h1,_,h2⟩:=h
  by_cases e:p.1=k
  ·have e':q.1=k:=h1.symm.trans e
   have b:atKey (q::qs) k=some q.2:=by simp[atKey,List.find?_cons,e']
   rw[cI e,b];exact h2
  ·have e':¬q.1=k:=fun z=>e (h1.trans z)
   have b:atKey (q::qs) k=atKey qs k:=by simp[atKey,List.find?_cons,e']
   rw[cJ e,b];exact ih
theorem KT.OR{H:Hp}{aP:List (List Key×V)}{xs:List (List Key×Addr×Value)}(r:KT H aP xs)(k:List Key){y:V}{u:Value}(ry:RelV y u) :
 KT H (aP.map fun kv=>if kv.1=k then (kv.1,y) else kv) (xs.map (putAt k u)):=by
 induction r with
 |nil=>exact .nil
 |@cons p q ps qs h t ih=>
  rw[List.map_cons,List.map_cons]
  refine .cons ?_ ih
  obtain⟨h1,h2,h3⟩:=h
  unfold putAt
  by_cases e:p.1=k
  ·rw[if_pos e,if_pos (h1.symm.trans e)];exact⟨h1,h2,ry⟩
  ·rw[if_neg e,if_neg (fun z=>e (h1.trans z))];exact⟨h1,h2,h3⟩
theorem KT.put{H:Hp}{aP:List (List Key×V)}{xs:List (List Key×Addr×Value)}(r:KT H aP xs)(k:List Key){b:Addr}{y:V}{u:Value}(hb:H b=some (.tup (k.map kV)))(ry:RelV y u) :
 KT H (putK aP k y) (storedH xs k b u):=by
 have e:(aP.any fun kv=>decide (kv.1=k))=(atKey xs k).isSome:=by
  rw[lA,(r.val k).pC,Option.isSome_map]
 unfold putK storedH
 rw[e]
 by_cases q:(atKey xs k).isSome=true
 ·rw[if_pos q,if_pos q];exact r.OR k ry
 ·rw[if_neg q,if_neg q];exact Paired.snoc r ⟨rfl,hb,ry⟩
theorem KT.keeps{H H':Hp}{aP:List (List Key×V)}{xs:List (List Key×Addr×Value)}(r:KT H aP xs)(ht:∀b ys,H b=some (.tup ys)->H' b=some (.tup ys)):KT H' aP xs:=
 Paired.G3 r fun _ _ z=>⟨z.1,ht _ _ z.2.1,z.2.2⟩
section
variable{P:Program}{w:World}{H:Hp}{h:Heap}{a:Addr}
theorem Ni{u:HO}(ok:rq P w H h)(e:Rd H a u):dF P w H h a u:=e.ok ok
theorem HR{aP:List (Key×V)}(ok:rq P w H h)(e:Rd H a (.dK aP)):aP.length<=sizeLine/\(a==sysModules)=false/\∃vs,KV aP vs/\h.DictOf (b3 P w) a vs:=
 show dF P w H h a (.dK aP) from Ni ok e
theorem Ec{aP:List (Key×V)}(ok:rq P w H h)(e:H a=some (.dK aP)):aP.length<=sizeLine/\(a==sysModules)=false/\∃vs,KV aP vs/\h.DictOf (b3 P w) a vs:=HR ok (.inl e)
theorem CG{ks:List Key}(ok:rq P w H h)(e:H a=some (.tup (ks.map kV))):(tupleKind (b3 P w)).is h ks a:=by
 obtain⟨_,bA,r,o,h1,h2,n,h3⟩:=(show dF P w H h a (.tup (ks.map kV)) from ok a _ e)
 exact⟨o,bA.toArray,n,h1,h2,h3,by simpa using tZ r⟩
theorem HS{aP:List (List Key×V)}(ok:rq P w H h)(e:Rd H a (.dT aP)):aP.length<=sizeLine/\(a==sysModules)=false/\
 ∃xs,KT H aP xs/\h.DictOfH (tupleKind (b3 P w)) a xs:=by
 obtain⟨z,y,xs,r,o,es,ep,h1,h2,h3,h4,h5⟩:=(show dF P w H h a (.dT aP) from Ni ok e)
 refine⟨z,y,xs,r,o,es,ep,h1,h2,h3,h4,fun x hx=>?_,h5⟩
 have all:∀ {l:List (List Key×V)} {m:List (List Key×Addr×Value)},KT H l m->∀x∈m,(tupleKind (b3 P w)).is h x.1 x.2.1:=by
  intro l m q
  induction q with
  |nil=>intro x hx;exact nomatch hx
  |@cons p q ps qs hq t ih=>
   intro x hx
   rcases List.mem_cons.mp hx with e |hx
   ·subst e
    exact CG ok (by rw[<- hq.1];exact hq.2.1)
   ·exact ih x hx
 exact all r x hx
theorem RW{aP:List (List Key×V)}(ok:rq P w H h)(e:H a=some (.dT aP)):aP.length<=sizeLine/\(a==sysModules)=false/\
 ∃xs,KT H aP xs/\h.DictOfH (tupleKind (b3 P w)) a xs:=HS ok (.inl e)
end
def pT (H:Hp) (a:Addr) (y:V) (r:Option V):Prop:=
 (∃aP k,Rd H a (.dK aP)/\y=kV k/\r=cH aP k)\/∃aP k b,Rd H a (.dT aP)/\y=.ref b/\H b=some (.tup (k.map kV))/\r=cH aP k
def OS (H:Hp) (a:Addr) (y v:V) (H':Hp):Prop:=
 (∃aP k,H a=some (.dK aP)/\y=kV k/\aP.length<sizeLine/\H'=upd H a (.dK (putK aP k v)))\/
 ∃aP k b,H a=some (.dT aP)/\y=.ref b/\H b=some (.tup (k.map kV))/\aP.length<sizeLine/\H'=upd H a (.dT (putK aP k v))
theorem pT.k{H:Hp}{a:Addr}{aP:List (Key×V)}{k:Key}(e:H a=some (.dK aP)):pT H a (kV k) (cH aP k):=.inl ⟨aP,k,.inl e,rfl,rfl⟩
section
variable{X:Cx}{pins:List (Addr×Obj)}{σ:St}{H:Hp}{s:Shared}{a:Addr}{y v:V}{u r:Value}{o:Option V}{A:Around}{E:Value->Shared->Prop}
theorem Inv.big(I:Inv X pins σ H s):sysModules<s.heap.objs.size:=by
 have h:mainGlobals<s.heap.objs.size:=(I.mod.glob.keeps I.bk).lt
 exact Nat.lt_trans (by decide) h
theorem FE{Q:Value->Shared->Prop}(hu:A.units+1<cLine)(I:Inv X pins σ H s)(g:pT H a y (some v))(ry:RelV y u)(h:∀w' s',Inv X pins σ H s'->RelV v w'->Q w' s') :
 wpAny (model X.prog X.w) A (getItem (.ref a) u) Q E s:=by
 rcases g with ⟨aP,k,e,ey,l⟩ |⟨aP,k,b,e,ey,eb,l⟩
 ·subst ey
  obtain⟨z,hd,vs,rel,dd⟩:=HR I.dU e
  obtain⟨w',hw,Fz⟩:=mv.some_of (v:=v) (o:=valueAt vs k) (by rw[l];exact rel.val k)
  exact wpAny_getItem_of (vQ ry) dd.mapOf hw (h w' _ (I.tok _) Fz)
 ·subst ey
  cases (show u=Value.ref b from ry)
  obtain⟨z,hd,xs,rel,dd⟩:=HS I.dU e
  obtain⟨w',hw,Fz⟩:=mv.some_of (v:=v) (o:=(atKey xs k).map (·.2)) (by rw[l];exact rel.val k)
  obtain⟨p,hp,xt⟩:=Option.map_eq_some_iff.mp hw
  refine wpAny_getItem_heap (tupleKind_room_in1 hu) (CG I.dU eb) dd hp ?_
  rw[xt]
  exact h w' _ (I.tok _) Fz
theorem rT{h':Heap}{t':Nat}{ob:HO}(I:Inv X pins σ H s)(mu:Q9 (H a))(hs:Heap.SameBut a s.heap h')(he:∃q,h'.get? a=some q)(new:dF X.prog X.w (upd H a ob) h' a ob) :
 Inv X pins σ (upd H a ob) {s with heap:=h',toks:=t' }:=
 I.write (x:=a) (e:=a) mu (.inl rfl) (fun b q hb z=>(hs.2 b hb).trans z) he new
theorem vR{P:Program}{w:World}{H':Hp}{h':Heap}{aP:List (Key×V)}{vs:List (Key×Value)}(z:aP.length<=sizeLine)(hd:(a==sysModules)=false)(rel:KV aP vs)(dd:h'.DictOf (b3 P w) a vs) :
 dF P w H' h' a (.dK aP):=⟨z,hd,vs,rel,dd⟩
theorem FF{H':Hp}{Q:Unit->Shared->Prop}(hu:A.units+1<cLine)(I:Inv X pins σ H s)(g:OS H a y v H')(ry:RelV y u)(rv:RelV v r)(h:∀s',Inv X pins σ H' s'->Q () s') :
 wpAny (model X.prog X.w) A (setItem (.ref a) u r) Q E s:=by
 rcases g with ⟨aP,k,e,ey,l,eH⟩ |⟨aP,k,b,e,ey,eb,l,eH⟩
 ·subst ey eH
  obtain⟨z,hd,vs,rel,dd⟩:=Ec I.dU e
  have hz:vs.length<=sizeLine:=by rw[<- rel.length];exact z
  have hl:(putK aP k v).length<=sizeLine:=by have:=jh aP k v;lia
  refine wpAny_setItem_pairs (hsz:=hz) (vQ ry) dd fun h' GU hs=>h _ ?_
  have he:∃q,h'.get? a=some q:=let ⟨q,_,_,hq,_⟩:=GU;⟨q,hq⟩
  exact rT I (by rw[e];exact True.intro) hs he (vR hl hd (rel.put k rv) GU)
 ·subst ey eH
  cases (show u=Value.ref b from ry)
  obtain⟨z,hd,xs,rel,dd⟩:=RW I.dU e
  have hz:xs.length<=sizeLine:=by rw[<- Paired.length rel];exact z
  have hl:(putK aP k v).length<=sizeLine:=by have:=jh aP k v;lia
  refine wpAny_setItem_heap (hsz:=hz) (tupleKind_room_in1 hu) (CG I.dU eb) dd fun h' GU hs=>h _ ?_
  obtain⟨q,es,ep,hq,h2,h3,h4,_,h5⟩:=GU
  refine rT I (by rw[e];exact True.intro) hs ⟨q,hq⟩ ⟨hl,hd,_,(rel.put k eb rv).keeps fun c ys ec=>?_,q,es,ep,hq,h2,h3,h4,h5⟩
  rw[ay (cR ec e (fun z=>nomatch z))]
  exact ec
end
section
variable{X:Cx}{pins:List (Addr×Obj)}{σ:St}{H:Hp}{s:Shared}{a:Addr}{aP:List (Key×V)}{k:Key}{u:Value}{A:Around}{E:Value->Shared->Prop}
end
def RX (i:Expr):Prop:=∀ov iv,subscripted i false ov iv=operate [ov,iv] (getItem ov iv)
theorem Lp{prog:Program}{w:World}{A:Around}{E:Value->Shared->Prop}{s:Shared}{env:Env}{value slice:Expr}{pos:Pos}{T id:String}{Q:Value->Shared->Prop}
 (hl:typeLookup (.type T) "__getitem__"=pure (some (.builtin id))) (hs:RX slice)
 (h:wpAny (model prog w) A (eval value env) (fun o s₁=>wpAny (model prog w) A (eval slice env) (fun i s₂=>s₂.TypeIs o T/\wpAny (model prog w) A (getItem o i) Q E s₂) E s₁) E s) :
 wpAny (model prog w) A (eval (.Subscript value slice pos) env) Q E s:=by
 refine Subscript_ (wpAny_mono h (fun o s₁ h₁=>wpAny_mono h₁ (fun i s₂ h₂=>?_) fun _ _ x=>x) fun _ _ x=>x)
 obtain⟨hT,h₂⟩:=h₂
 unfold subscriptTail
 refine wpAny_bind ?_
 rw[getitemInPython_of_ne hT.not_modules]
 refine wpAny_bind (wpAny_specialOf hT hl ?_)
 have fin:wpAny (model prog w) A (subscripted slice false o i) (fun r s₃=>wpAny (model prog w) A (letTemporaryGo value o r >>= fun _=>pure r) Q E s₃) E s₂:=by
  rw[hs o i]
  exact wpAny_operating (wpAny_mono h₂ (fun r s₃ h₃=>wpAny_bind (wpAny_letTemporaryGo (wpAny_pure h₃))) fun _ _ x=>x)
 first
  |exact wpAny_pure (wpAny_bind fin)
  |exact wpAny_bind (wpAny_pure (wpAny_bind fin))
  |exact wpAny_bind fin
theorem AN{X:Cx}{pins:List (Addr×Obj)}{σ:St}{H:Hp}{s:Shared}{a:Addr}{y:V}{o:Option V}(I:Inv X pins σ H s)(g:pT H a y o):s.TypeIs (.ref a) "dict":=by
 rcases g with ⟨aP,k,e,_,_⟩ |⟨aP,k,b,e,_,_,_⟩
 ·obtain⟨_,_,vs,_,dd⟩:=HR I.dU e
  exact dd.typeIs
 ·obtain⟨_,_,xs,_,dd⟩:=HS I.dU e
  exact dd.typeIs
def Nj (td ty:TE):TE:=fun σ H Q=>td σ H fun x H1=>ty σ H1 fun y H2=>∃a v,x=.ref a/\pT H2 a y (some v)/\Q v H2
def Nk (td ty tv:TE):TS:=fun D σ H=>tv σ H fun v H1=>td σ H1 fun x H2=>ty σ H2 fun y H3=>∃a H4,x=.ref a/\OS H3 a y v H4/\D.nx σ H4
section
variable{X:Cx}{o i e value:Expr}{pos pos' Hs:Pos}{td ty tv:TE}
theorem cm(hu:X.A.units+1<cLine)(ho:PE X o td)(hi:PE X i ty)(hs:RX i):PE X (.Subscript o i pos) (Nj td ty):=by
 intro pins s σ H Q I h
 refine Lp PySem.F.slot_dict_getitem.lookup hs (fA (ho pins s σ H _ I h) fun u s1 zqz=>?_)
 obtain⟨x,H1,I1,rx,q1⟩:=zqz
 refine fA (hi pins s1 σ H1 _ I1 q1) fun iv s2 zqz=>?_
 obtain⟨y,H2,I2,ry,a,v,ex,g,q2⟩:=zqz
 subst ex
 obtain rfl:u=Value.ref a:=rx
 exact⟨AN I2 g,FE hu I2 g ry fun w' s3 I3 Fz=>⟨v,H2,I3,Fz,q2⟩⟩
theorem mB(hu:X.A.units+1<cLine)(ho:PE X o td)(hi:PE X i ty)(hv:PE X value tv)(hs:swapsWith value (some (.Subscript o i pos')) pos.line X.env=pure false) :
 PS X (.Assign [.Subscript o i pos'] value pos) (Nk td ty tv):=by
 intro pins s σ H D I h
 refine wpAny_Assign_Subscript (fA (hv pins s σ H _ I h) fun r s1 zqz=>?_) hs
 obtain⟨v,H1,I1,rv,q1⟩:=zqz
 refine fA (ho pins s1 σ H1 _ I1 q1) fun u s2 zqz=>?_
 obtain⟨x,H2,I2,rx,q2⟩:=zqz
 refine fA (hi pins s2 σ H2 _ I2 q2) fun iv s3 zqz=>?_
 obtain⟨y,H3,I3,ry,a,H4,ex,g,q3⟩:=zqz
 subst ex
 obtain rfl:u=Value.ref a:=rx
 exact FF hu I3 g ry rv fun s4 I4=>⟨σ,H4,I4,q3⟩
end
theorem AO{P:Program}{w:World}{H:Hp}(h:Heap)(hb:sysModules<h.objs.size):dF P w H (h.push {cls:=.type "dict",data:=.dict #[]}) h.objs.size (.dK []):=
 ⟨Nat.zero_le _,beq_eq_false_iff_ne.mpr (Ne.symm (Nat.ne_of_lt hb)),[],.nil,Heap.DictOf.new h⟩
def HU:TE:=fun _ H Q=>∀p,H p=none->Q (.ref p) (upd H p (.dK []))
section
variable{X:Cx}{pos:Pos}
theorem vS:PE X (.Dict [] [] pos) HU:=fun pins s σ H Q I h=>
 wpAny_Dict_empty ⟨.ref s.heap.objs.size,_,I.laid (a:=s.heap.objs.size) (o:=.dK []) (t':=s.toks) (fun _ _ q=>Heap.get?_push_of_some _ q) (Nat.le_refl _) (AO s.heap I.big),rfl,h _ (I.dU.fresh (Nat.le_refl _))⟩
end
def zc:List (TE×TE)->St->Hp->(List (V×V)->Hp->Prop)->Prop
 |[],_,H,Q=>Q [] H
 |(tk,tv)::r,σ,H,Q=>tk σ H fun x H1=>tv σ H1 fun y H2=>zc r σ H2 fun ps H3=>Q ((x,y)::ps) H3
abbrev VV:List (V×V)->List (Value×Value)->Prop:=Paired fun p q=>RelV p.1 q.1/\RelV p.2 q.2
def Um (X:Cx) (pos:Pos) (keys:List (Option Expr)) (values:List Expr) (Lq:List (TE×TE)):Prop:=
 ∀(pins:List (Addr×Obj)) (s:Shared) (σ:St) (H:Hp) (Q:List (V×V)->Hp->Prop),Inv X pins σ H s->zc Lq σ H Q->
  wpAny (model X.prog X.w) X.A (evalPairs (pairTrees keys values X.env pos)) (fun vs s'=>∃ps H',Inv X pins σ H' s'/\VV ps vs/\Q ps H') X.xe s
theorem Lr{X:Cx}{pos:Pos}:Um X pos [] [] []:=fun pins s σ H Q I h=>pairTrees_nil_walk ⟨[],H,I,.nil,h⟩
theorem vT{X:Cx}{pos:Pos}{k v:Expr}{ks:List (Option Expr)}{vs:List Expr}{tk tv:TE}{Lq:List (TE×TE)}(hk:PE X k tk)(hv:PE X v tv)(hr:Um X pos ks vs Lq) :
 Um X pos (some k::ks) (v::vs) ((tk,tv)::Lq):=fun pins s σ H Q I h=>
 pairTrees_cons_walk (fA (hk pins s σ H _ I h) fun u s1 ⟨x,H1,I1,rx,q1⟩=>fA (hv pins s1 σ H1 _ I1 q1) fun w2 s2 ⟨y,H2,I2,ry,q2⟩=>
  fA (hr pins s2 σ H2 _ I2 q2) fun ws s3 ⟨ps,H3,I3,rel,q3⟩=>⟨(x,y)::ps,H3,I3,.cons ⟨rx,ry⟩ rel,q3⟩)
def iw (aP more:List (Key×V)):List (Key×V):=more.foldl (fun acc kv=>putK acc kv.1 kv.2) aP
theorem KV.merge:∀ {more:List (Key×V)} {rs:List (Key×Value)} {aP:List (Key×V)} {vs:List (Key×Value)},KV more rs->KV aP vs->KV (iw aP more) (merged vs rs):=by
 intro more rs aP vs r
 unfold KV at r
 induction r generalizing aP vs with
 |nil=>intro q;exact q
 |@cons p q ps qs h t ih=>
  intro r0
  have e:KV (putK aP p.1 p.2) (stored vs q.1 q.2):=by
   have:=r0.put p.1 h.2
   rw[<- h.1];exact this
  exact ih e
theorem gM:∀(more aP:List (Key×V)),(iw aP more).length<=aP.length+more.length
 |[],aP=>by show aP.length<=aP.length+0;lia
 |p::r,aP=>by
  have h1:=gM r (putK aP p.1 p.2)
  have h2:=jh aP p.1 p.2
  show (iw (putK aP p.1 p.2) r).length<=_
  rw[List.length_cons];lia
theorem vU{P:Program}{w:World}:∀ {aP:List (Key×V)} {ws:List (Value×Value)},VV (aP.map fun kv=>(kV kv.1,kv.2)) ws->∃rs,Carries (b3 P w) ws rs/\KV aP rs
 |[],_,r=>by rw[List.map_nil] at r;cases r;exact⟨[],True.intro,.nil⟩
 |p::aP,_,r=>by
  rw[List.map_cons] at r
  cases r with
  |@cons a b as bs h t=>
   obtain⟨rs,c,q⟩:=vU (P:=P) (w:=w) t
   obtain⟨b1,b2⟩:=b
   exact⟨(p.1,b2)::rs,⟨vQ h.1,rfl,c⟩,.cons ⟨rfl,h.2⟩ q⟩
def Nl (Lq:List (TE×TE)):TE:=fun σ H Q=>∀p,H p=none->zc Lq σ (upd H p (.dK [])) fun ps H2=>H2 p=some (.dK [])/\∃aP:List (Key×V),ps=aP.map (fun kv=>(kV kv.1,kv.2))/\aP.length<=15/\Q (.ref p) (upd H2 p (.dK (iw [] aP)))
theorem Ls{X:Cx}{pos:Pos}{keys:List (Option Expr)}{values:List Expr}{Lq:List (TE×TE)}(h:Um X pos keys values Lq)(OO:keys.all (·.isSome)=true)(hl:keys.length=values.length)(h0:keys≠[])
 (VT:keys.length<=15):PE X (.Dict keys values pos) (Nl Lq):=by
 intro pins s σ H Q I q
 have hn:=I.dU.fresh (Nat.le_refl s.heap.objs.size)
 have I1:=I.laid (a:=s.heap.objs.size) (o:=.dK []) (h':=s.heap.push {cls:=.type "dict",data:=.dict #[]}) (t':=s.toks) (fun _ _ q=>Heap.get?_push_of_some _ q) (Nat.le_refl _) (AO s.heap I.big)
 refine wpAny_Dict_walk (knd:=b3 X.prog X.w) OO hl h0 VT (fA (h pins _ σ _ _ I1 (q _ hn)) fun ws s2 zqz=>?_)
 obtain⟨ps,H2,I2,rel,e,aP,ep,lk,q2⟩:=zqz
 subst ep
 obtain⟨rs,c,rk⟩:=vU (P:=X.prog) (w:=X.w) rel
 obtain⟨z,hd,vs0,r0,dd⟩:=Ec I2.dU e
 cases r0
 refine⟨rs,c,dd,fun h' GU hs=>⟨.ref s.heap.objs.size,_,?_,rfl,q2⟩⟩
 have hz:(iw [] aP).length<=sizeLine:=by
  have h1:=gM aP []
  rw[List.length_nil] at h1
  rw[sizeLine_eq];lia
 have he:∃q,h'.get? s.heap.objs.size=some q:=let ⟨q,_,_,hq,_⟩:=GU;⟨q,hq⟩
 exact rT I2 (by rw[e];exact True.intro) hs he (vR hz hd (rk.merge .nil) GU)
section
variable{X:Cx}{pins:List (Addr×Obj)}{σ:St}{H:Hp}{s:Shared}{a:Addr}{y d:V}{u r:Value}{o:Option V}{A:Around}{E:Value->Shared->Prop}
end
section
variable{X:Cx}{o e f:Expr}{apos vP:Pos}{td ty tx:TE}
end
section
variable{X:Cx}{pins:List (Addr×Obj)}{σ:St}{H:Hp}{s:Shared}{a:Addr}{aP:List (Key×V)}{A:Around}{E:Value->Shared->Prop}
end
section
variable{X:Cx}{pins:List (Addr×Obj)}{σ:St}{H:Hp}{s:Shared}{a:Addr}{y:V}{u:Value}{A:Around}{E:Value->Shared->Prop}
end
end L2
namespace Uj
open PySem PySem.W PySem.Calls PyProof.Rows
section
variable{prog:Program}{w:World}{A:Around}{E:Value->Shared->Prop}{s:Shared}{K:Frag}
end
end Uj
namespace L2
open PySem PySem.Spec PyProof.Rows
end L2
namespace L2
open PySem PySem.Spec PyProof.Rows
end L2
namespace L2
open PySem PySem.Spec PyProof.Rows
section
variable{P:Program}{w:World}{K:PySem.W.Frag}{mg:Str->Option Value}{base:Heap}
end
section
variable{X:Cx}
end
section
variable{κ:Type}[DecidableEq κ]
end
end L2
namespace L2
open PySem PySem.Spec PyProof.Rows
def t8 (env:Env):List (Str×NameKind)->List (Str×Addr)->List (Str×Addr)
 |[],cs=>cs
 |(n,k)::r,cs=>t8 env r (if k==.free then (n,(env.cells.lookup n).getD 0)::cs else cs)
theorem vg{scope:Scope}{env:Env}(h:∀p∈scope.names,p.2=.free->∃c,env.cells.lookup p.1=some c):closureFor scope env=pure (t8 env scope.names []):=by
 have all:∀(l:List (Str×NameKind)) (cs:List (Str×Addr)),(∀p∈l,p.2=.free->∃c,env.cells.lookup p.1=some c)->
  (forIn l cs fun (x:Str×NameKind) (r:List (Str×Addr))=>if (x.2==NameKind.free)=true then do let a <- cellOf env x.1;pure (ForInStep.yield ((x.1,a)::r)) else (pure (ForInStep.yield r):Sem _))=pure (t8 env l cs):=by
  intro l
  induction l with
  |nil=>intro cs _;rfl
  |cons p r ih=>
   intro cs hp
   obtain⟨n,k⟩:=p
   rw[List.forIn_cons]
   by_cases hk:k=.free
   ·subst hk
    obtain⟨c,e⟩:=hp (n,.free) List.mem_cons_self rfl
    have e1:cellOf env n=pure c:=by unfold cellOf;rw[e]
    simp only[beq_self_eq_true,if_true,e1,pure_bind]
    rw[ih _ fun p QI=>hp p (List.mem_cons_of_mem _ QI)]
    simp[t8,e]
   ·have hb:(k==NameKind.free)=false:=by simpa using hk
    simp only[hb,Bool.false_eq_true,if_false,pure_bind]
    rw[ih _ fun p QI=>hp p (List.mem_cons_of_mem _ QI)]
    simp[t8,hb]
 simp only[closureFor]
 rw[all scope.names [] h]
 simp
theorem rV{env:Env}{x:Str}{c:Addr}:∀ {l:List (Str×NameKind)} {cs:List (Str×Addr)},(∀p∈l,p.2=.free->∃c,env.cells.lookup p.1=some c)->(∀x c,cs.lookup x=some c->env.cells.lookup x=some c)->
 (t8 env l cs).lookup x=some c->env.cells.lookup x=some c
 |[],_,_,h,e=>h x c e
 |(n,k)::r,cs,hp,h,e=>by
  unfold t8 at e
  refine rV (fun p q=>hp p (List.mem_cons_of_mem _ q)) ?_ e
  intro y d q
  by_cases hk:k=.free
  ·subst hk
   obtain⟨c',e'⟩:=hp (n,.free) List.mem_cons_self rfl
   simp only[beq_self_eq_true,if_true] at q
   rw[List.lookup_cons] at q
   cases hy:y==n with
   |true=>
    rw[hy] at q
    have:y=n:=by simpa using hy
    subst this
    simp only at e'
    rw[e'] at q ⊢
    exact q
   |false=>rw[hy] at q;exact h y d q
  ·have hb:(k==NameKind.free)=false:=by simpa using hk
   simp only[hb,Bool.false_eq_true,if_false] at q
   exact h y d q
theorem vV{env:Env}{x:Str}:∀ {l:List (Str×NameKind)} {cs:List (Str×Addr)},((∃c,cs.lookup x=some c)\/(x,NameKind.free)∈l)->∃c,(t8 env l cs).lookup x=some c
 |[],_,h=>by
  rcases h with h |h
  ·exact h
  ·exact absurd h (by simp)
 |(n,k)::r,cs,h=>by
  unfold t8
  apply vV
  rcases h with ⟨c,h⟩ |h
  ·left
   by_cases hk:k=.free
   ·subst hk
    simp only[beq_self_eq_true,if_true]
    rw[List.lookup_cons]
    cases hy:x==n with
    |true=>exact⟨_,rfl⟩
    |false=>exact⟨c,h⟩
   ·have hb:(k==NameKind.free)=false:=by simpa using hk
    simp only[hb,Bool.false_eq_true,if_false]
    exact⟨c,h⟩
  ·rcases List.mem_cons.mp h with e |h
   ·injection e with e1 e2
    subst e1;subst e2
    left
    simp only[beq_self_eq_true,if_true]
    rw[List.lookup_cons]
    simp
   ·exact .inr h
theorem nY{scope:Scope}{env:Env}{x:Str}:(relabel scope env).names.lookup x=(scope.names.lookup x).map fun k=>if (k==NameKind.free&&env.scope.kind==.function&&env.kindOf x==some .cell)=true then .cell else k:=by
 unfold relabel
 show List.lookup x (scope.names.map _)=_
 generalize scope.names=l
 induction l with
 |nil=>rfl
 |cons p r ih=>
  obtain⟨n,k⟩:=p
  rw[List.map_cons,List.lookup_cons (as:=r)]
  show List.lookup x ((if (k==NameKind.free&&env.scope.kind==.function&&env.kindOf n==some .cell)=true then (n,NameKind.cell) else (n,k))::_)=_
  cases hx:x==n with
  |true=>
   have e:x=n:=by simpa using hx
   subst e
   by_cases hc:(k==NameKind.free&&env.scope.kind==.function&&env.kindOf x==some .cell)=true
   ·rw[if_pos hc];simp only[List.lookup_cons,beq_self_eq_true,Option.map_some];rw[if_pos hc]
   ·rw[if_neg hc];simp only[List.lookup_cons,beq_self_eq_true,Option.map_some];rw[if_neg hc]
  |false=>
   by_cases hc:(k==NameKind.free&&env.scope.kind==.function&&env.kindOf n==some .cell)=true
   ·rw[if_pos hc];simp only[List.lookup_cons,hx];exact ih
   ·rw[if_neg hc];simp only[List.lookup_cons,hx];exact ih
theorem mem_of_lookup{x:Str}{k:NameKind}:∀ {l:List (Str×NameKind)},l.lookup x=some k->(x,k)∈l
 |[],h=>by simp at h
 |(n,j)::r,h=>by
  rw[List.lookup_cons] at h
  cases hx:x==n with
  |true=>
   rw[hx] at h
   have e:x=n:=by simpa using hx
   cases h;subst e
   exact List.mem_cons_self
  |false=>rw[hx] at h;exact List.mem_cons_of_mem _ (mem_of_lookup h)
def jN (sc out:Scope):Bool:=
 (sc.names.all fun p=>p.2 != .cell&&(p.2 != .free ||out.names.lookup p.1==some .cell ||out.names.lookup p.1==some .free)&&(p.2 != .local ||sc.names.lookup p.1==some .local))&&decide (sc.kind=.function)
def vz (sc out:Scope) (N:List Str) (ix:List Nat):Bool:=
 ix.all fun i=>sc.names.lookup (N.getD i "")==some .free&&(out.names.lookup (N.getD i "")==some .cell ||out.names.lookup (N.getD i "")==some .free)
def HV (σ:St) (ix:List Nat):St:=ix.map fun i=>σ.getD i none
abbrev Ed (N:List Str) (ix:List Nat):List Str:=ix.map fun i=>N.getD i ""
def j9 (X:Cx) (scope:Scope) (own:List Str) (ix:List Nat) (C:Addr) (s₀:Shared) (H₀:Hp) (ex:List Addr):Cx where
 prog:=X.prog
 w:=X.w
 K:=X.K
 mg:=X.mg
 base:=X.base
 A:=X.A
 N:=own++Ed X.N ix
 s₀:=s₀
 H₀:=H₀
 env:=compEnvC scope (t8 X.env scope.names []) C X.env
 outer:=X.stack
 stack:=X.stack
 ex:=ex
 fn:=fun _=>false
 calm:=X.calm
 pn:=[]
 xe:=fun _ _=>False
section
variable{X:Cx}{pins:List (Addr×Obj)}{σ:St}{H:Hp}{s:Shared}
theorem nZ{sc out:Scope}(h:jN sc out=true):∀p∈sc.names,p.2≠.cell/\(p.2=.free->out.names.lookup p.1=some .cell\/out.names.lookup p.1=some .free)/\(p.2=.local->sc.names.lookup p.1=some .local):=by
 intro p hp
 unfold jN at h
 rw[Bool.and_eq_true] at h
 have:=List.all_eq_true.mp h.1 p hp
 simp only[Bool.and_eq_true,Bool.or_eq_true,bne_iff_ne,beq_iff_eq,ne_eq] at this
 obtain⟨⟨h1,h2⟩,h3⟩:=this
 refine⟨h1,fun e=>?_,fun e=>?_⟩
 ·rcases h2 with (h2 |h2) |h2
  ·exact absurd e h2
  ·exact .inl h2
  ·exact .inr h2
 ·rcases h3 with h3 |h3
  ·exact absurd e h3
  ·exact h3
theorem mC{sc out:Scope}(h:jN sc out=true):sc.kind=.function:=by
 unfold jN at h
 rw[Bool.and_eq_true] at h
 exact of_decide_eq_true h.2
theorem Lu{scope:Scope}{own:List Str}{ix:List Nat}{ex:List Addr}(I:Inv X pins σ H s)(hf:jN scope X.env.scope=true)(hx:∀b∈ex,rJ X pins H b/\b<s.heap.objs.size):(j9 X scope own ix s.heap.objs.size s H ex).Ok:=by
 have fits:=(nZ hf)
 have rG:∀p∈scope.names,p.2=.free->∃c,X.env.cells.lookup p.1=some c:=fun p hp e=>I.ok.has p.1 ((fits p hp).2.1 e)
 have sub:∀ {x:Str} {c:Addr},(t8 X.env scope.names []).lookup x=some c->X.env.cells.lookup x=some c:=fun {x c} e=>rV rG (fun x c e=>by simp at e) e
 refine⟨I.ok.mod,(show scope.kind=.function from mC hf),I.ok.glob,I.ok.blt,Nat.le_refl _,fun x y c a b=>I.ok.inj x y c (sub a) (sub b),fun x hk=>?_,fun x c e=>(by cases e),I.ok.hd,I.ok.frames,.inl rfl,fun b hb=>⟨Nat.ne_of_lt (hx b hb).2,fun x c e=>(hx b hb).1.2.2.2.2.1 x c (sub e)⟩,I.bs,Nat.le_trans I.ok.Cd I.sz,fun b o e hb=>?_,fun b hb hs=>?_,I.stack,I.DM⟩
 ·refine vV (.inr ?_)
  have QJ:(relabel scope X.env).names.lookup x=some .cell\/(relabel scope X.env).names.lookup x=some .free:=hk
  rw[nY] at QJ
  cases q:scope.names.lookup x with
  |none=>rw[q] at QJ;rcases QJ with z |z<;>cases z
  |some k=>
   have hm:=mem_of_lookup q
   by_cases VU:k=.free
   ·subst VU;exact hm
   ·rw[q] at QJ
    have hb:(k==NameKind.free)=false:=by simpa using VU
    simp only[Option.map_some,hb,Bool.false_and,Bool.false_eq_true,if_false,Option.some.injEq] at QJ
    rcases QJ with z |z
    ·exact absurd z (fits _ hm).1
    ·exact absurd z VU
 ·rcases(hx b hb).1.2.2.2.1 with z |z
  ·exact I.ok.G5 b o e z
  ·exact absurd (Nat.lt_of_lt_of_le (Heap.lt_size e) (Nat.le_trans I.ok.Cd z)) (Nat.lt_irrefl _)
 ·rcases List.mem_cons.mp (I.yR b hs) with z |z
  ·exact(hx b hb).1.2.1 z
  ·exact(hx b hb).1.2.2.1 z
theorem HW{scope:Scope}{own:List Str}{ix:List Nat}{ex:List Addr}{h':Heap}{tk:Nat}(I:Inv X pins σ H s)(hf:jN scope X.env.scope=true)(hc:vz scope X.env.scope X.N ix=true)(hx:∀b∈ex,rJ X pins H b/\b<s.heap.objs.size)
 (hn:h'.Ns s.heap.objs.size fun _=>none) (hk:∀b o,s.heap.get? b=some o->h'.get? b=some o):Inv (j9 X scope own ix s.heap.objs.size s H ex) [] (List.replicate own.length none++HV σ ix) H {s with heap:=h',toks:=tk}:=by
 have fits:=(nZ hf)
 have rG:∀p∈scope.names,p.2=.free->∃c,X.env.cells.lookup p.1=some c:=fun p hp e=>I.ok.has p.1 ((fits p hp).2.1 e)
 have sub:∀ {x:Str} {c:Addr},(t8 X.env scope.names []).lookup x=some c->X.env.cells.lookup x=some c:=fun {x c} e=>rV rG (fun x c e=>by simp at e) e
 refine⟨Lu I hf hx,rfl,I.bare,Un.kept hk,⟨_,hn,fun i x v e1 e2 e3=>?_⟩,fun x c e=>?_,I.dU.fresh (Nat.le_refl _),fun x c e=>I.nO x c (sub e),fun p hp=>absurd (show p∈([]:List (Addr×Obj))++[] from hp) (by simp),I.dU.kept hk,?_⟩
 ·have e1:(own++Ed X.N ix)[i]?=some x:=e1
  by_cases hi:i<own.length
  ·rw[List.getElem?_append_left (by simpa using hi),List.getElem?_replicate,if_pos hi] at e2
   cases e2
  ·have Yy:own.length<=i:=Nat.le_of_not_lt hi
   rw[List.getElem?_append_right (by simpa using Yy),List.length_replicate] at e2
   rw[List.getElem?_append_right Yy] at e1
   unfold HV at e2
   unfold Ed at e1
   rw[List.getElem?_map] at e1 e2
   cases q:ix[i-own.length]? with
   |none=>rw[q] at e2;cases e2
   |some j=>
    rw[q] at e1 e2
    simp only[Option.map_some,Option.some.injEq] at e1 e2
    have hj:j∈ix:=List.mem_of_getElem? q
    have fit:=List.all_eq_true.mp hc j hj
    simp only[Bool.and_eq_true,Bool.or_eq_true,beq_iff_eq] at fit
    rw[e1] at fit
    have ej:σ[j]?=some (some v):=by
     rw[List.getD_eq_getElem?_getD] at e2
     cases r:σ[j]? with
     |none=>rw[r] at e2;cases e2
     |some z=>rw[r] at e2;simp only[Option.getD_some] at e2;rw[e2]
    have hjl:j<X.N.length:=by rw[<- I.len];exact(List.getElem?_eq_some_iff.mp ej).1
    have en:X.N[j]?=some x:=by
     rw[List.getD_eq_getElem?_getD] at e1
     rw[List.getElem?_eq_getElem hjl] at e1 ⊢
     simp only[Option.getD_some] at e1
     rw[e1]
    obtain⟨m,hm,hl⟩:=I.loc
    have hv:Ub X.env.scope x:=by
     rcases fit.2 with z |z
     ·exact .inr (.inl z)
     ·exact .inr (.inr z)
    obtain⟨u,r,l⟩:=hl j x v en ej hv
    refine⟨u,r,.inr ⟨?_,?_⟩⟩
    ·show (relabel scope X.env).names.lookup x=some .cell\/(relabel scope X.env).names.lookup x=some .free
     rw[nY,fit.1]
     simp only[Option.map_some]
     split
     ·exact .inl rfl
     ·exact .inr rfl
    ·rcases l with ⟨k1,_⟩ |⟨_,c,ec,DP⟩
     ·have k1:X.env.scope.names.lookup x=some .local:=k1
      rcases fit.2 with z |z<;>(rw[z] at k1;cases k1)
     ·obtain⟨c',e'⟩:∃c,(t8 X.env scope.names []).lookup x=some c:=vV (.inr (mem_of_lookup fit.1))
      have:=sub e'
      rw[ec] at this
      cases this
      exact⟨c,e',DP.keeps hk⟩
 ·obtain⟨v,z⟩:=I.cell x c (sub e)
  exact⟨v,z.keeps hk⟩
 ·show (List.replicate own.length none++HV σ ix).length=(own++Ed X.N ix).length
  simp[HV]
theorem comp_back{scope:Scope}{own:List Str}{ix:List Nat}{ex:List Addr}{τ:St}{H':Hp}{s':Shared}{AB:List (Addr×Obj)}(I:Inv X pins σ H s)(hx:∀b∈ex,rJ X pins H b/\b<s.heap.objs.size)
 (I':Inv (j9 X scope own ix s.heap.objs.size s H ex) AB τ H' s'):Inv X pins σ H' s'/\H' s.heap.objs.size=none/\s.heap.objs.size≠X.env.locals/\X.s₀.heap.objs.size<=s.heap.objs.size/\(∀x c,X.env.cells.lookup x=some c->c≠s.heap.objs.size)/\∀p∈X.pn++pins,p.1≠s.heap.objs.size:=by
 refine⟨I.Rj (ch:=ex) I'.os I'.base I'.dU I'.bare fun b hb=>?_,I'.free,Nat.ne_of_gt I.lt,I.sz,fun x c e z=>?_,fun p hp z=>?_⟩
 ·obtain⟨f0,f1,f2,f3,f4,f5⟩:=(hx b hb).1
  exact⟨f3,f1,f4,f5⟩
 ·obtain⟨v,q⟩:=I.cell x c e
  exact absurd q.lt (by rw[z];exact Nat.lt_irrefl _)
 ·exact absurd (Heap.lt_size (I.pin p hp).1) (by rw[z];exact Nat.lt_irrefl _)
end
def QK (X:Cx) (ifs:List Expr) (t:TT):Prop:=
 ∀(pins:List (Addr×Obj)) (s:Shared) (σ:St) (H:Hp) (Q:Bool->Hp->Prop),Inv X pins σ H s->t σ H Q->
  wpAny (model X.prog X.w) X.A (forIn ifs true fun c r=>if r=true then do let ok <- isTrue c X.env (eval c X.env);pure (ForInStep.yield ok) else pure (ForInStep.yield r)) (TP X pins σ Q) X.xe s
def CI:TT:=fun _ H Q=>Q true H
theorem i9{X:Cx}:QK X [] CI:=fun _ _ _ H _ I h=>wpAny_tests_nil ⟨H,I,h⟩
theorem Lv{X:Cx}{c:Expr}{t:TT}(h:PT X c t):QK X [c] t:=fun pins s σ H Q I q=>wpAny_tests_one (h pins s σ H Q I q)
def vW (J:It) (D:Addr) (g:TG) (tc:TT) (te:TE) (Q:VK) (τ:St) (H:Hp):Prop:=∃W:Nat->Nat->St->Hp->Prop,(∃m,W 0 m τ H)/\∀i m τ H,W i m τ H->
 (J.stop i H/\Q (.ref D) H)\/(J.go i H/\∃N:St->Hp->Prop,(∀τ' H',N τ' H'->∃m',m'<m/\W (i+1) m' τ' H')/\∀x H',J.KJ i H x H'->g x τ H' fun τ2 H2=>tc τ2 H2 fun b H3=>if b=true then
  te τ2 H3 fun y H4=>∃ys,H4 D=some (.lst ys)/\ys.length<sizeLine/\N τ2 (upd H4 D (.lst (ys++[y]))) else N τ2 H3)
def kA (wi:TI) (k:Nat) (ix:List Nat) (g:TG) (tc:TT) (te:TE):TE:=fun σ H Q=>wi σ H fun J H1=>∀D,H1 D=none->vW J D g tc te Q (List.replicate k none++HV σ ix) (upd H1 D (.lst []))
section
variable{X:Cx}{tg iter elt:Expr}{ifs:List Expr}{scope:Scope}{pos:Pos}{own:List Str}{ix:List Nat}{wi:TI}{g:TG}{tc:TT}{te:TE}
theorem FG{it D:Addr}{fp:List Addr}{tn:Nat->Heap->Prop}{J:It}{Q:VK}{R:Result->Shared->Prop}{s:Shared}{τ:St}{H:Hp}(uR:X.calm=true)(hxe:X.xe=fun _ _=>False)(hpn:X.pn=[])(T:Turn X.prog X.w X.K tg J fp it tn)
 (he:PE X elt te) (hg:PG X tg g) (ht:QK X ifs tc) (I:Inv X [] τ H s) (Yz:∀b∈fp,rJ X [] H b) (h0:tn 0 s.heap) (hW:vW J D g tc te Q τ H)
 (hR:∀τ' H' s',Inv X [] τ' H' s'->Q (.ref D) H'->R (.ok .next) s') :
 codeAny (model X.prog X.w) X.A (.compLoop (.ListComp elt [⟨tg,iter,ifs,0⟩] scope pos) 0 (.ref it) (.ref D) X.env) R s:=by
 obtain⟨W,⟨m0,w0⟩,turn⟩:=hW
 have no:∀ {E:Value->Shared->Prop} (e:Value) (s':Shared),X.xe e s'->E e s':=fun e s' z=>by rw[hxe] at z;exact z.elim
 have stat:∀ {H':Hp},(∀b∈fp,H' b=none)->∀b∈fp,rJ X [] H' b:=fun hn b hb=>⟨hn b hb,(Yz b hb).2⟩
 refine codeAny_loop rfl (fun n s'=>∃i τ' H',Inv X [] τ' H' s'/\tn i s'.heap/\(∀b∈fp,H' b=none)/\W i n τ' H') (fun n s3 hI=>?_) m0 ⟨0,τ,H,I,h0,fun b hb=>(Yz b hb).1,w0⟩
 obtain⟨i,τ3,H3,I3,Na,Rt,w3⟩:=hI
 show wpAny _ X.A ((compTurn (.ListComp elt [⟨tg,iter,ifs,0⟩] scope pos) 0 (.ref it) (.ref D) X.env).onRaise (fun x=>do noteFrame x X.env;theTreesLotGoes x)) _ _ s3
 refine wpAny_noted ?_
 rw[compTurn_list]
 refine wpAny_bind (wpAny_standAt (wpAny_bind ?_))
 rcases turn i n τ3 H3 w3 with ⟨stop,q⟩ |⟨go,N,hN,step⟩
 ·refine wpAny_mono (T.done X rfl rfl rfl uR i [] s3 τ3 H3 X.xe I3 (stat Rt) Na stop) (fun r s4 zqz=>?_) no
  obtain⟨hr,I4⟩:=zqz
  subst hr
  exact wpAny_pure (hR τ3 H3 s4 I4 q)
 ·refine wpAny_mono (T.item X rfl rfl rfl uR i [] s3 τ3 H3 X.xe I3 (stat Rt) Na go) (fun r s4 zqz=>?_) no
  obtain⟨u,hr,h4⟩:=zqz
  subst hr
  refine wpAny_bind (wpAny_mono h4 (fun _ s5 zqz=>?_) no)
  obtain⟨x,H5,I5,r5,y5,Hi,Vp⟩:=zqz
  have Vq:=I5.pinned (stat Vp) (T.obj _ _ Hi)
  refine wpAny_bind (wpAny_mono (hg _ s5 τ3 H5 x u _ Vq r5 (step x H5 y5)) (fun _ s6 zqz=>?_) no)
  obtain⟨τ6,H6,I6,q6⟩:=zqz
  refine wpAny_bind (wpAny_mono (ht _ s6 τ6 H6 _ I6 q6) (fun b s7 zqz=>?_) no)
  obtain⟨H7,I7,q7⟩:=zqz
  have again:∀ {τ7:St} {H7:Hp} {s7:Shared},Inv X ([]++vI fp s5.heap) τ7 H7 s7->N τ7 H7->∃m,m<n/\∃i σ' H',Inv X [] σ' H' s7/\tn i s7.heap/\(∀b∈fp,H' b=none)/\W i m σ' H':=fun {τ7 H7 s7} I7 n7=>by
   obtain⟨m',hm,w7⟩:=hN τ7 H7 n7
   refine⟨m',hm,i+1,τ7,H7,I7.rK,T.keep _ _ _ Hi fun b hb o e=>(I7.pin (b,o) (List.mem_append_right _ (List.mem_append_right _ (mx hb e)))).1,fun b hb=>?_,w7⟩
   obtain⟨o,e,d⟩:=T.obj _ _ Hi b hb
   exact(I7.pin (b,o) (List.mem_append_right _ (List.mem_append_right _ (mx hb e)))).2.1
  cases b with
  |false=>exact wpAny_pure ⟨rfl,again I7 q7⟩
  |true=>
   refine wpAny_bind (wpAny_bind (wpAny_mono (he _ s7 τ6 H7 _ I7 q7) (fun v s8 ⟨y,H8,I8,r8,ys,hD,hl,q8⟩=>wpAny_bind ?_) no))
   refine wpAny_mono (bL _ s8 τ6 H8 (.ref D) [y] (.ref D) [v] (fun _ H'=>N τ6 H') I8 rfl (.cons r8 .nil) ⟨D,ys,y,rfl,rfl,hD,hl,q8⟩) (fun _ s9 zqz=>?_) no
   obtain⟨_,H9,I9,_,q9⟩:=zqz
   exact wpAny_pure (wpAny_pure ⟨rfl,again I9 q9⟩)
theorem AQ{pins:List (Addr×Obj)}{s:Shared}{σ:St}{H:Hp}{Q:VK}{use:Option (Value->Sem Unit)}{Q':Value->Shared->Prop}(uR:X.calm=true)(hf:jN scope X.env.scope=true)(hc:vz scope X.env.scope X.N ix=true)
 (hi:PI X tg iter wi) (hg:∀C s₀ H₀ ex,PG (j9 X scope own ix C s₀ H₀ ex) tg g) (ht:∀C s₀ H₀ ex,QK (j9 X scope own ix C s₀ H₀ ex) ifs tc) (he:∀C s₀ H₀ ex,PE (j9 X scope own ix C s₀ H₀ ex) elt te)
 (I:Inv X pins σ H s) (h:kA wi own.length ix g tc te σ H Q)
 (hU:∀(D C:Addr) (H':Hp) (s':Shared) (m:Str->Option Value),Inv X pins σ H' s'->Q (.ref D) H'->s'.heap.Ns C m->H' C=none->C≠X.env.locals->X.s₀.heap.objs.size<=C->(∀x c,X.env.cells.lookup x=some c->c≠C)->(∀p∈X.pn++pins,p.1≠C)->compPost (model X.prog X.w) X.A X.xe use Q' (.ref D) C (.ok .next) s')
 (hs:∀x,foldedSetIterable iter X.env x=pure x) :
 wpAny (model X.prog X.w) X.A (comprehension (.ListComp elt [⟨tg,iter,ifs,0⟩] scope pos) scope X.env (firstIterPos [⟨tg,iter,ifs,0⟩] pos) (newList []) false (eval iter X.env) use) Q' X.xe s:=by
 have fits:=(nZ hf)
 have rG:∀p∈scope.names,p.2=.free->∃c,X.env.cells.lookup p.1=some c:=fun p hp e=>I.ok.has p.1 ((fits p hp).2.1 e)
 refine wpAny_comprehension_free (use:=use) rfl hs (vg rG) (mC hf) (fun x hx=>(fits x hx).2.2) ?_
 refine fA (hi pins s σ H _ I h) fun v s1 h1=>fA h1 fun Vo s2 h2=>?_
 obtain⟨it,fp,tn,J,H2,e,I2,T,xi,f2,hW⟩:=h2
 subst e
 refine wpAny_newObj_type (hd:=by size_fits) ?_
 have hD:H2 s2.heap.objs.size=none:=I2.dU.fresh (Nat.le_refl _)
 have I3:Inv X pins σ (upd H2 s2.heap.objs.size (.lst [])) {s2 with heap:=s2.heap.push {cls:=.type "list",dict:=none,data:=.seq ([]:List Value).toArray} }:=
  I2.laid (t':=s2.toks) (fun b u e=>Heap.get?_push_of_some _ e) (Nat.le_refl _) ⟨Nat.zero_le _,[],0,.nil,Heap.get?_push_size _ rfl⟩
 have W3:=hW s2.heap.objs.size hD
 have YA:∀b∈fp,b<s2.heap.objs.size:=fun b hb=>let ⟨o,e,_⟩:=T.obj _ _ xi b hb;Heap.lt_size e
 have RY:∀b∈fp,rJ X pins (upd H2 s2.heap.objs.size (.lst [])) b/\b<(s2.heap.push {cls:=.type "list",dict:=none,data:=.seq ([]:List Value).toArray}).objs.size:=fun b hb=>
  ⟨⟨by rw[ay (Nat.ne_of_lt (YA b hb))];exact(f2 b hb).1,(f2 b hb).2⟩,by rw[Heap.size_push];exact Nat.lt_succ_of_lt (YA b hb)⟩
 have Na:tn 0 (s2.heap.push {cls:=.type "list",dict:=none,data:=.seq ([]:List Value).toArray}):=T.keep _ _ _ xi fun b _ o e=>Heap.get?_push_of_some _ e
 generalize hs3:({s2 with heap:=s2.heap.push {cls:=.type "list",dict:=none,data:=.seq ([]:List Value).toArray} }:Shared)=s3 at I3
 generalize hH3:upd H2 s2.heap.objs.size (.lst [])=H3 at I3 W3 RY
 have eh:s2.heap.push {cls:=.type "list",dict:=none,data:=.seq ([]:List Value).toArray}=s3.heap:=by rw[<- hs3]
 rw[eh] at RY Na
 refine wpAny_newFunctionEnv (fun x hx=>(fits x hx).1) (by intro y hy;simp at hy) (fun h4 Uk hsb=>?_) (mC hf)
 have kept:∀b o,s3.heap.get? b=some o->h4.get? b=some o:=fun b o e=>hsb.extBut b o (Nat.ne_of_lt (Heap.lt_size e)) (Heap.get?_push_of_some _ e)
 have I4:=HW (own:=own) (tk:=s3.toks+([]:List (Str×Value)).length) I3 hf hc RY Uk kept
 have fp4:∀b∈fp,rJ (j9 X scope own ix s3.heap.objs.size s3 H3 fp) [] H3 b:=fun b hb=>by
  obtain⟨⟨f0,f1,f2',f3,f4,f5⟩,lt⟩:=RY b hb
  refine⟨f0,Nat.ne_of_lt lt,fun z=>?_,.inl hb,fun x c e=>f4 x c (rV rG (fun x c e=>by simp at e) e),fun p hp=>absurd (show p∈([]:List (Addr×Obj))++[] from hp) (by simp)⟩
  rcases List.mem_cons.mp (I3.yR b z) with z |z
  ·exact f1 z
  ·exact f2' z
 have YB:tn 0 h4:=T.keep _ _ _ Na fun b _ o e=>kept b o e
 have loop:=FG (X:=j9 X scope own ix s3.heap.objs.size s3 H3 fp) (iter:=iter) (scope:=scope) (pos:=pos) (R:=compPost (model X.prog X.w) X.A X.xe use Q' (.ref s2.heap.objs.size) s3.heap.objs.size) uR rfl rfl T (he _ _ _ _) (hg _ _ _ _) (ht _ _ _ _) I4 fp4 YB W3
  (fun τ' H' s' I' q=>by
   obtain⟨J1,J2,J3,J4,J5,J6⟩:=comp_back I3 RY I'
   obtain⟨m,hm,_⟩:=I'.loc
   exact hU _ _ H' s' m J1 q hm J2 J3 J4 J5 J6)
 exact codeAny_compStart_list loop (T.self X.A 0 _ _ _ YB loop)
theorem jO(uR:X.calm=true)(hf:jN scope X.env.scope=true)(hc:vz scope X.env.scope X.N ix=true)
 (hi:PI X tg iter wi) (hg:∀C s₀ H₀ ex,PG (j9 X scope own ix C s₀ H₀ ex) tg g) (ht:∀C s₀ H₀ ex,QK (j9 X scope own ix C s₀ H₀ ex) ifs tc) (he:∀C s₀ H₀ ex,PE (j9 X scope own ix C s₀ H₀ ex) elt te)
 (hs:∀x,foldedSetIterable iter X.env x=pure x:=by intro _;rfl):PE X (.ListComp elt [⟨tg,iter,ifs,0⟩] scope pos) (kA wi own.length ix g tc te):=by
 intro pins s σ H Q I h
 rw[eval_ListComp]
 refine AQ (use:=none) uR hf hc hi hg ht he I h (fun D C H' s' m I' q hm n1 n2 n3 n4 n5=>?_) hs
 refine⟨m,hm,fun h' sb=>⟨.ref D,H',?_,rfl,q⟩⟩
 exact I'.turned (t':=s'.toks) (it:=C) (fun b o hb e=>sb.extBut b o hb e) n1 (Ne.symm (Ne.symm n2)) (.inr n3) n4 n5
theorem Ee{i:Nat}{y:Str}{py RZ:Pos}(hN:X.N.Nodup)(hiy:X.N[i]?=some y)(hy:Loc X.env.scope y)(uR:X.calm=true)(hf:jN scope X.env.scope=true)(hc:vz scope X.env.scope X.N ix=true)
 (hi:PI X tg iter wi) (hg:∀C s₀ H₀ ex,PG (j9 X scope own ix C s₀ H₀ ex) tg g) (ht:∀C s₀ H₀ ex,QK (j9 X scope own ix C s₀ H₀ ex) ifs tc) (he:∀C s₀ H₀ ex,PE (j9 X scope own ix C s₀ H₀ ex) elt te)
 (hsw:swapsWith (.ListComp elt [⟨tg,iter,ifs,0⟩] scope pos) (some (.Name y py)) RZ.line X.env=pure true:=by rfl)
 (hs:∀x,foldedSetIterable iter X.env x=pure x:=by intro _;rfl) (Rh:X.fn y=true\/X.env.scope.names.lookup y=some .local:=by first |exact .inl rfl |exact .inr rfl |assumption) :
 PS X (.Assign [.Name y py] (.ListComp elt [⟨tg,iter,ifs,0⟩] scope pos) RZ) (Hd (kA wi own.length ix g tc te) (fC i)):=by
 intro pins s σ H D I h
 rw[exec_Assign_Name_used _ _ _ _ hsw]
 refine wpAny_bind (wpAny_standAt (wpAny_bind ?_))
 show wpAny _ _ (do let _ <- comprehension (.ListComp elt [⟨tg,iter,ifs,0⟩] scope pos) scope X.env _ (newList []) false (eval iter X.env) (some (assign (.Name y py) X.env))) _ _ s
 refine wpAny_bind (wpAny_mono (AQ (use:=some (assign (.Name y py) X.env)) (Q':=fun _ s'=>SP X pins D .next s') uR hf hc hi hg ht he I h (fun L C H' s' m I' q hm n1 n2 n3 n4 n5=>?_) hs) (fun _ s' hq=>wpAny_pure (wpAny_pure hq)) fun _ _ e=>e)
 show wpAny _ _ (assign (.Name y py) X.env (.ref L)) _ _ _
 refine wpAny_assign_Name (xT I' hN hiy hy (v:=.ref L) rfl (fun s2 I2 zqz=>?_) Rh)
 obtain⟨a,sb,ha⟩:=zqz
 have hCa:C≠a:=by
  rcases ha with rfl |ha
  ·exact n2
  ·exact fun z=>n4 y a ha z.symm
 refine⟨m,hm.sameBut sb hCa,fun h' sb'=>⟨_,H',?_,q⟩⟩
 exact I2.turned (t':=s2.toks) (it:=C) (fun b o hb e=>sb'.extBut b o hb e) n1 n2 (.inr n3) n4 n5
end
end L2
namespace L2
open PySem PySem.Spec PyProof.Rows
inductive Dp where
 |ck |bl (b:Bool) |int (i:Int) |str (x:Str) |tup (l:List Dp) |lst (l:List Dp)
mutual
def Rep (K:PySem.W.Frag) (H:Hp):Dp->V->Prop
 |.ck,v=>v=.ck
 |.bl b,v=>v=.bl b
 |.int i,v=>v=.int i
 |.str x,v=>v=.str x
 |.tup l,v=>∃a xs,v=.ref a/\c5 K H a xs/\aQ K H l xs
 |.lst l,v=>∃a xs,v=.ref a/\il K H a xs/\aQ K H l xs
def aQ (K:PySem.W.Frag) (H:Hp):List Dp->List V->Prop
 |[],vs=>vs=[]
 |d::ds,vs=>∃v r,vs=v::r/\Rep K H d v/\aQ K H ds r
end
mutual
def Dp.deep:Dp->Nat
 |.tup l=>Dp.fF l+1
 |.lst l=>Dp.fF l+1
 |_=>0
def Dp.fF:List Dp->Nat
 |[]=>0
 |d::ds=>max d.deep (Dp.fF ds)
end
theorem av.bD{K:PySem.W.Frag}{H H':Hp}{a:Addr}{xs:List V}(e:av H H')(h:c5 K H a xs):c5 K H' a xs:=by
 rcases h with (h |⟨o,h⟩) |h
 ·exact .inl (.inl (e _ _ h))
 ·exact .inl (.inr ⟨o,e _ _ h⟩)
 ·exact .inr h
mutual
theorem Rep.mono{K:PySem.W.Frag}{H H':Hp}(e:av H H'):∀ {d:Dp} {v:V},Rep K H d v->Rep K H' d v
 |.ck,_,h=>h
 |.bl _,_,h=>h
 |.int _,_,h=>h
 |.str _,_,h=>h
 |.tup l,_,h=>by
  unfold Rep at h ⊢
  obtain⟨a,xs,e1,e2,e3⟩:=h
  exact⟨a,xs,e1,e.bD e2,aQ.mono e e3⟩
 |.lst l,_,h=>by
  unfold Rep at h ⊢
  obtain⟨a,xs,e1,e2,e3⟩:=h
  exact⟨a,xs,e1,e.seq e2,aQ.mono e e3⟩
theorem aQ.mono{K:PySem.W.Frag}{H H':Hp}(e:av H H'):∀ {ds:List Dp} {vs:List V},aQ K H ds vs->aQ K H' ds vs
 |[],_,h=>h
 |d::ds,_,h=>by
  unfold aQ at h ⊢
  obtain⟨v,r,e1,e2,e3⟩:=h
  exact⟨v,r,e1,Rep.mono e e2,aQ.mono e e3⟩
end
theorem aQ.length{K:PySem.W.Frag}{H:Hp}:∀ {ds:List Dp} {vs:List V},aQ K H ds vs->vs.length=ds.length
 |[],_,h=>by unfold aQ at h;rw[h];rfl
 |d::ds,_,h=>by
  unfold aQ at h
  obtain⟨v,r,e1,_,e3⟩:=h
  rw[e1,List.length_cons,List.length_cons,aQ.length e3]
theorem aQ.get{K:PySem.W.Frag}{H:Hp}:∀ {ds:List Dp} {vs:List V} {i:Nat} {d:Dp},aQ K H ds vs->ds[i]?=some d->∃v,vs[i]?=some v/\Rep K H d v
 |[],_,_,_,_,e=>by simp at e
 |d::ds,_,0,_,h,e=>by
  unfold aQ at h
  obtain⟨v,r,e1,e2,e3⟩:=h
  simp only[List.getElem?_cons_zero,Option.some.injEq] at e
  subst e
  exact⟨v,by rw[e1];rfl,e2⟩
 |d::ds,_,i+1,d',h,e=>by
  unfold aQ at h
  obtain⟨v,r,e1,e2,e3⟩:=h
  rw[List.getElem?_cons_succ] at e
  obtain⟨v',h1,h2⟩:=aQ.get e3 e
  exact⟨v',by rw[e1,List.getElem?_cons_succ];exact h1,h2⟩
theorem aQ.append{K:PySem.W.Frag}{H:Hp}:∀ {ds es:List Dp} {vs us:List V},aQ K H ds vs->aQ K H es us->aQ K H (ds++es) (vs++us)
 |[],_,_,_,h,h'=>by unfold aQ at h;rw[h];exact h'
 |d::ds,_,_,_,h,h'=>by
  unfold aQ at h
  obtain⟨v,r,e1,e2,e3⟩:=h
  rw[e1]
  show aQ K H (d::(ds++_)) (v::(r++_))
  unfold aQ
  exact⟨v,_,rfl,e2,aQ.append e3 h'⟩
theorem aQ.nil{K:PySem.W.Frag}{H:Hp}:aQ K H [] []:=by unfold aQ;rfl
theorem aQ.cons{K:PySem.W.Frag}{H:Hp}{d:Dp}{ds:List Dp}{v:V}{vs:List V}(h:Rep K H d v)(h':aQ K H ds vs):aQ K H (d::ds) (v::vs):=by unfold aQ;exact⟨v,vs,rfl,h,h'⟩
theorem Rep.bq{K:PySem.W.Frag}{H:Hp}{l:List Dp}{v:V}:Rep K H (.tup l) v↔∃a xs,v=.ref a/\c5 K H a xs/\aQ K H l xs:=by unfold Rep;exact Iff.rfl
theorem Rep.bI{K:PySem.W.Frag}{H:Hp}{l:List Dp}{v:V}:Rep K H (.lst l) v↔∃a xs,v=.ref a/\il K H a xs/\aQ K H l xs:=by unfold Rep;exact Iff.rfl
theorem Rep.bB{K:PySem.W.Frag}{H:Hp}{i:Int}{v:V}:Rep K H (.int i) v↔v=.int i:=by unfold Rep;exact Iff.rfl
theorem Rep.bE{K:PySem.W.Frag}{H:Hp}{x:Str}{v:V}:Rep K H (.str x) v↔v=.str x:=by unfold Rep;exact Iff.rfl
theorem Rep.mD{K:PySem.W.Frag}{H:Hp}{b:Bool}{v:V}:Rep K H (.bl b) v↔v=.bl b:=by unfold Rep;exact Iff.rfl
theorem Rep.rW{K:PySem.W.Frag}{H:Hp}{v:V}:Rep K H .ck v↔v=.ck:=by unfold Rep;exact Iff.rfl
theorem aQ.br{K:PySem.W.Frag}{H:Hp}{vs:List V}:aQ K H [] vs↔vs=[]:=by unfold aQ;exact Iff.rfl
theorem aQ.aJ{K:PySem.W.Frag}{H:Hp}{d:Dp}{ds:List Dp}{vs:List V}:aQ K H (d::ds) vs↔∃v r,vs=v::r/\Rep K H d v/\aQ K H ds r:=by conv=>lhs;unfold aQ
theorem av.new{H:Hp}{p:Addr}(h:H p=none)(o:HO):av H (upd H p o):=fun b u q=>by rw[ay (ao q h)];exact q
section
variable{X:Cx}{pins:List (Addr×Obj)}{σ:St}{H:Hp}{s:Shared}
theorem all_true(n:Nat):(List.range n).all (fun _=>true)=true:=by simp
mutual
theorem Lw(I:Inv X pins σ H s):∀ {d:Dp} {v u:V} {a b:Value} {A:Around},Rep X.K H d v->Rep X.K H d u->RelV v a->RelV u b->A.units+d.deep<cLine->SeqAt.EqAt A s a b true
 |.ck,v,u,a,b,A,h1,h2,r1,r2,_=>by
  rw[Rep.rW] at h1 h2
  subst h1;subst h2
  cases (show a=Value.none from r1)
  cases (show b=Value.none from r2)
  exact .same _
 |.bl c,v,u,a,b,A,h1,h2,r1,r2,_=>by
  rw[Rep.mD] at h1 h2
  subst h1;subst h2
  cases (show a=Value.bool c from r1)
  cases (show b=Value.bool c from r2)
  exact .same _
 |.int i,v,u,a,b,A,h1,h2,r1,r2,_=>by
  rw[Rep.bB] at h1 h2
  subst h1;subst h2
  obtain⟨t,rfl⟩:=(show ∃t,a=Value.int i t from r1)
  obtain⟨t',rfl⟩:=(show ∃t,b=Value.int i t from r2)
  have:=SeqAt.EqAt.int_int (A:=A) (s:=s) i t i t'
  rw[beq_self_eq_true] at this
  exact this
 |.str x,v,u,a,b,A,h1,h2,r1,r2,_=>by
  rw[Rep.bE] at h1 h2
  subst h1;subst h2
  obtain⟨t,rfl⟩:=(show ∃t,a=Value.str x t from r1)
  obtain⟨t',rfl⟩:=(show ∃t,b=Value.str x t from r2)
  have:=SeqAt.EqAt.str_str (A:=A) (s:=s) x t x t'
  rw[beq_self_eq_true] at this
  exact this
 |.tup l,v,u,a,b,A,h1,h2,r1,r2,hu=>by
  rw[Rep.bq] at h1 h2
  obtain⟨p,xs,rfl,q1,w1⟩:=h1
  obtain⟨p',Ef,rfl,q2,w2⟩:=h2
  cases (show a=Value.ref p from r1)
  cases (show b=Value.ref p' from r2)
  by_cases e:p=p'
  ·subst e;exact .same _
  ·obtain⟨bA,v1,t1,_⟩:=I.tuple q1
   obtain⟨its',v2,t2,_⟩:=I.tuple q2
   unfold Dp.deep at hu
   have items:=rX I w1 w2 v1 v2 (A:=A.in1) (by show A.units+1+_<_;lia)
   have n1:bA.length=its'.length:=by rw[<- v1.length,<- v2.length,w1.length,w2.length]
   have q:=SeqAt.RcAt.tuples (A:=A) (s:=s) (e:=fun _=>true) t1 t2 (by lia) (fun j h1 h2=>items j bA[j] its'[j] (by simp at h1;simp[h1]) (by simp at h2;simp[h2]))
   rw[all_true] at q
   refine .of_refs e ?_
   simpa[n1] using q
 |.lst l,v,u,a,b,A,h1,h2,r1,r2,hu=>by
  rw[Rep.bI] at h1 h2
  obtain⟨p,xs,rfl,q1,w1⟩:=h1
  obtain⟨p',Ef,rfl,q2,w2⟩:=h2
  cases (show a=Value.ref p from r1)
  cases (show b=Value.ref p' from r2)
  by_cases e:p=p'
  ·subst e;exact .same _
  ·obtain⟨bA,v1,t1,_⟩:=I.list q1
   obtain⟨its',v2,t2,_⟩:=I.list q2
   unfold Dp.deep at hu
   have items:=rX I w1 w2 v1 v2 (A:=A.in1) (by show A.units+1+_<_;lia)
   have n1:bA.length=its'.length:=by rw[<- v1.length,<- v2.length,w1.length,w2.length]
   have q:=SeqAt.RcAt.lists (A:=A) (s:=s) (e:=fun _=>true) t1.isList t2.isList (by simpa using n1) (by lia) (fun j h1 h2=>items j bA[j] its'[j] (by simp at h1;simp[h1]) (by simp at h2;simp[h2]))
   rw[all_true] at q
   exact .of_refs e q
theorem rX(I:Inv X pins σ H s):∀ {ds:List Dp} {vs us:List V} {as bs:List Value} {A:Around},aQ X.K H ds vs->aQ X.K H ds us->Vals vs as->Vals us bs->A.units+Dp.fF ds<cLine->
 ∀(j:Nat) (a b:Value),as[j]?=some a->bs[j]?=some b->SeqAt.EqAt A s a b true
 |[],_,_,_,_,A,h1,h2,r1,r2,_,j,a,b,e1,e2=>by
  rw[aQ.br] at h1
  subst h1
  cases r1
  simp at e1
 |d::ds,_,_,_,_,A,h1,h2,r1,r2,hu,j,a,b,e1,e2=>by
  rw[aQ.aJ] at h1 h2
  obtain⟨v,r,rfl,x1,y1⟩:=h1
  obtain⟨v',r',rfl,x2,y2⟩:=h2
  unfold Dp.fF at hu
  cases r1 with
  |cons z1 t1=>
   cases r2 with
   |cons z2 t2=>
    cases j with
    |zero=>
     simp only[List.getElem?_cons_zero,Option.some.injEq] at e1 e2
     subst e1;subst e2
     exact Lw I x1 x2 z1 z2 (by lia)
    |succ j=>
     rw[List.getElem?_cons_succ] at e1 e2
     exact rX I y1 y2 t1 t2 (by lia) j a b e1 e2
end
end
section
variable{X:Cx}
def Nm (K:PySem.W.Frag) (b:Bool):R2:=fun x y H Q=>∃d,Rep K H d x/\Rep K H d y/\d.deep<=150/\Q (.bl b) H
end
section
variable{X:Cx}
def R0 (i j:Int):Prop:=i.natAbs<2 ^ 4000/\j.natAbs<2 ^ 4000
theorem bits_le{i:Int}(h:i.natAbs<2 ^ 4000):Builtin.Int.intBits i<=2 ^ 20:=Nat.le_trans (intBits_le h) (by decide)
theorem Eg:qd X (binaryOp .Mult) (rI R0 fun i j=>.int (i*j)):=Rv fun _ _ _ _ _ _ _ hc q=>mul_int q (IntMulOk.of_bits (bits_le hc.1) (bits_le hc.2))
theorem HX:qe X (.builtin "isinstance") (fun xs H Q=>∃x T t b,xs=[x,.ty T]/\tW X.K H x t/\PySem.W.kitOne X.K t (.type T)=some b/\Q (.bl b) H):=by
 intro pins s σ H xs us Q I r h
 obtain⟨x,T,t,b,rfl,ty,e,q⟩:=h
 obtain⟨u1,u2,rfl,r1,r2⟩:=vals2 r
 cases (show u2=Value.type T from r2)
 exact Fx I r1 ty e fun tk=>⟨.bl b,H,I.tok tk,rfl,q⟩
end
structure cK(K:PySem.W.Frag)(mg:Str->Option Value)(x:Str)(st:Stmt)(ps:List Str)(f:Addr)(fd:FuncData):Prop where
 F:Eb K x x st f fd
 b:Binds K fd ps []
 m:mg x=some (.ref f)
end L2
namespace L2
open PySem PySem.Spec PyProof.Rows
theorem HY{g:Int->Int->V}{i j:Int}{H:Hp}{Q:VK}:Nb g (.int i) (.int j) H Q↔Q (g i j) H:=⟨fun ⟨_,_,e1,e2,q⟩=>by cases e1;cases e2;exact q,fun q=>⟨_,_,rfl,rfl,q⟩⟩
theorem VW{C:Int->Int->Prop}{g:Int->Int->V}{i j:Int}{H:Hp}{Q:VK}:rI C g (.int i) (.int j) H Q↔C i j/\Q (g i j) H:=⟨fun ⟨_,_,e1,e2,c,q⟩=>by cases e1;cases e2;exact⟨c,q⟩,fun q=>⟨_,_,rfl,rfl,q⟩⟩
theorem HZ{a:V}{r:St}{H:Hp}{Q:VK}:(g9 0 (some a::r) H Q)=(Q a H):=rfl
theorem Ia{a:Option V}{r:St}{H:Hp}{Q:VK}:(g9 1 (a::r) H Q)=(g9 0 r H Q):=rfl
theorem Ib{a:Option V}{r:St}{H:Hp}{Q:VK}:(g9 2 (a::r) H Q)=(g9 1 r H Q):=rfl
theorem Ic{a:Option V}{r:St}{H:Hp}{Q:VK}:(g9 3 (a::r) H Q)=(g9 2 r H Q):=rfl
theorem Ie{a:Option V}{r:St}{H:Hp}{Q:VK}:(g9 4 (a::r) H Q)=(g9 3 r H Q):=rfl
theorem Ig{a:Option V}{r:St}{H:Hp}{Q:VK}:(g9 5 (a::r) H Q)=(g9 4 r H Q):=rfl
theorem Ih{a:Option V}{r:St}{H:Hp}{Q:VK}:(g9 6 (a::r) H Q)=(g9 5 r H Q):=rfl
theorem Ii{a:Option V}{r:St}{H:Hp}{Q:VK}:(g9 7 (a::r) H Q)=(g9 6 r H Q):=rfl
theorem Ij{a:Option V}{r:St}{H:Hp}{Q:VK}:(g9 8 (a::r) H Q)=(g9 7 r H Q):=rfl
theorem Ik{a:Option V}{r:St}{H:Hp}{Q:VK}:(g9 9 (a::r) H Q)=(g9 8 r H Q):=rfl
theorem R1{v:V}{σ:St}{H:Hp}{Q:VK}:(tC v σ H Q)=(Q v H):=rfl
theorem Nn{r:R2}{ta tb:TE}{σ:St}{H:Hp}{Q:VK}:(Ru r ta tb σ H Q)=(ta σ H fun x H1=>tb σ H1 fun y H2=>r x y H2 Q):=rfl
theorem R3{b:Bool}{p:Bool->Prop}:(∃k,V.bl b=.bl k/\p k)↔p b:=⟨fun ⟨_,e,q⟩=>by cases e;exact q,fun q=>⟨_,rfl,q⟩⟩
theorem OT{b:Int}{p:Int->Prop}:(∃k,V.int b=.int k/\p k)↔p b:=⟨fun ⟨_,e,q⟩=>by cases e;exact q,fun q=>⟨_,rfl,q⟩⟩
theorem OU{b:Addr}{p:Addr->Prop}:(∃k,V.ref b=.ref k/\p k)↔p b:=⟨fun ⟨_,e,q⟩=>by cases e;exact q,fun q=>⟨_,rfl,q⟩⟩
theorem Eh{t:TE}{σ:St}{H:Hp}{Q:Bool->Hp->Prop}:(DW t σ H Q)=(t σ H fun x H'=>∃k,x=.bl k/\Q k H'):=rfl
theorem Np{x y:V}{H:Hp}{Q:VK}:(Yq x y H Q)=(Fp x y=true/\Q (.bl (decide (x=y))) H):=rfl
theorem Nq{x y:V}{H:Hp}{Q:VK}:(Yr x y H Q)=(Fp x y=true/\Q (.bl (!decide (x=y))) H):=rfl
theorem OV{i j:Int}:(V.int i=V.int j)=(i=j):=by simp
theorem OW{i j:Str}:(V.str i=V.str j)=(i=j):=by simp
theorem Lx{c:Prop}[Decidable c]{A B:Prop}:(if decide c=true then A else B)↔if c then A else B:=by simp
theorem Il{c:Prop}[Decidable c]{A B:Prop}:(if (!decide c)=true then A else B)↔if c then B else A:=by by_cases h:c<;>simp[h]
theorem aI{K:PySem.W.Frag}{p:Addr}{i:Int}{H:Hp}{Q:VK}{xs:List V}{v:V}(h:c5 K H p xs)(hv:qJ xs i=some v)(q:Q v H):Cw K (.ref p) (.int i) H Q:=⟨p,xs,i,v,rfl,rfl,h,hv,q⟩
theorem bC{K:PySem.W.Frag}{p:Addr}{i:Int}{H:Hp}{Q:VK}{xs:List V}{v:V}(h:il K H p xs)(hv:qJ xs i=some v)(q:Q v H):AJ K (.ref p) (.int i) H Q:=⟨p,xs,i,v,rfl,rfl,h,hv,q⟩
section
variable{P:Program}{w:World}{K:PySem.W.Frag}{mg:Str->Option Value}{base:Heap}
theorem Eb.kS{x qual:Str}{st:Stmt}{f:Addr}{fd:FuncData}{N ps:List Str}{k:Nat}{sp:Sp}(F:Eb K x qual st f fd)(S:bj N ps (aO st))(len:∀vs H Q E,sp vs H Q E->vs.length=ps.length)
 (AI:∀(fD:Value) (A:Around) (outer:List Env) (s:Shared) (H:Hp) (vs:List V) (Q:VK) (E:XK),ie k (A.deeper (envOfC qual (aO st) s.heap.objs.size f fD))->sp vs H Q E->
  ∃t σ,DO (xq fh P w K mg base N qual (aO st) f fD A outer s H E).Rn (dP st) t/\L2.start N vs=σ/\t {nx:=fun _ H'=>Q .ck H',rt:=Q} σ H):bQ P w K mg base fh (k+1) f fd ps sp:=
 F.ok S len fun fD A outer s H vs Q E hr h=>let ⟨t,_,h1,h2,h3⟩:=AI fD A outer s H vs Q E hr h;⟨t,h1,by rw[h2];exact h3⟩
end
theorem Ly{α β:Type}{f:α->β}{xs:List α}{i:Int}(d:α)(h0:0<=i)(h1:i<xs.length):qJ (xs.map f) i=some (f (xs.getD i.toNat d)):=by
 have e:i=((i.toNat:Nat):Int):=by lia
 have h2:i.toNat<xs.length:=by lia
 conv=>lhs;rw[e]
 refine au ?_
 rw[List.getElem?_map,List.getD_eq_getElem?_getD,List.getElem?_eq_getElem h2]
 rfl
theorem Ei{sp:Sp}{vN:List V}{E:XK}{t:TA}{σ:St}{H:Hp}{Q:VK}:(Nd sp vN E t σ H Q)=(t σ H fun vs H1=>sp (vs++vN) H1 Q E):=rfl
theorem Ej{ta:TE}{tr:TA}{σ:St}{H:Hp}{Q:List V->Hp->Prop}:(Nc ta tr σ H Q)=(ta σ H fun x H1=>tr σ H1 fun xs H2=>Q (x::xs) H2):=rfl
theorem Im{σ:St}{H:Hp}{Q:List V->Hp->Prop}:(OE σ H Q)=(Q [] H):=rfl
theorem Io{t:TA}{σ:St}{H:Hp}{Q:VK}:(RD t σ H Q)=(t σ H fun xs H1=>xs.length<=sizeLine/\∀p,H1 p=none->Q (.ref p) (upd H1 p (.tup xs))):=rfl
theorem Ip{t:TA}{σ:St}{H:Hp}{Q:VK}:(RE t σ H Q)=(t σ H fun xs H1=>xs.length<=sizeLine/\∀p,H1 p=none->Q (.ref p) (upd H1 p (.lst xs))):=rfl
theorem Lz{n:Nat}(h:n<=1000):n<=sizeLine:=Nat.le_of_lt (FD h)
theorem AR{K:PySem.W.Frag}{p:Addr}{i:Int}{H:Hp}{Q:VK}{xs:List V}{v:V}(hv:qJ xs i=some v)(q:Q v (upd H p (.lst xs))):AJ K (.ref p) (.int i) (upd H p (.lst xs)) Q:=⟨p,xs,i,v,rfl,rfl,.of ai,hv,q⟩
theorem Rep.new{K:PySem.W.Frag}{H:Hp}{p:Addr}{vs:List V}{ds:List Dp}(h:H p=none)(r:aQ K H ds vs):Rep K (upd H p (.tup vs)) (.tup ds) (.ref p):=Rep.bq.mpr ⟨p,vs,rfl,.of ai,r.mono (av.new h _)⟩
theorem LA{i j:Int}:Fp (.int i) (.int j)=true:=rfl
theorem LB{i j:Str}:Fp (.str i) (.str j)=true:=rfl
theorem LC{n:Nat}(h:n<=1000):(n<=sizeLine)=True:=eq_true (Lz h)
theorem Iq{i j:Int}:(Rx i j)=(0<j/\j<1073741824):=rfl
theorem Ir{CX:B6}{P:Program}{w:World}{K:PySem.W.Frag}{mg:Str->Option Value}{base:Heap}{N:List Str}{qual:Str}{scope:Scope}{f:Addr}{cd:Value}{A:Around}{outer:List Env}{s:Shared}{H:Hp}{E:XK}:(xq CX P w K mg base N qual scope f cd A outer s H E).K=K:=rfl
theorem Ek{X:Cx}{scope:Scope}{own:List Str}{ix:List Nat}{C:Addr}{s₀:Shared}{H₀:Hp}{ex:List Addr}:(j9 X scope own ix C s₀ H₀ ex).K=X.K:=rfl
theorem mulR{z b:Int}(h1 : -18446744073709551616<b)(h2:b<18446744073709551616):Hj z b:=.inr ⟨h1,h2⟩
theorem mulL{z b:Int}(h1 : -18446744073709551616<z)(h2:z<18446744073709551616):Hj z b:=.inl ⟨h1,h2⟩
theorem kT{a b:Expr}{op:Operator}{pos:Pos}:mz (.BinOp a op b pos):=fun _ _=>rfl
theorem pE{x:Str}{pos:Pos}:mz (.Name x pos):=fun _ _=>rfl
theorem ak{c:Const}{k:Nat}{pos:Pos}:mz (.Constant c k pos):=fun _ _=>rfl
theorem Iu{a b:Expr}{pos:Pos}:mz (.Subscript a b pos):=fun _ _=>rfl
theorem rY{a:Expr}{op:UnaryOp}{pos:Pos}:mz (.UnaryOp op a pos):=fun _ _=>rfl
theorem LD{a:Expr}{x:Str}{pos:Pos}:mz (.Attribute a x pos):=fun _ _=>rfl
theorem ka{a b:Expr}{op:Operator}{pos:Pos}{es:List Expr}{env:Env}:starEach (.BinOp a op b pos::es) env=(false,eval (.BinOp a op b pos) env)::starEach es env:=rfl
theorem ag{x:Str}{pos:Pos}{es:List Expr}{env:Env}:starEach (.Name x pos::es) env=(false,eval (.Name x pos) env)::starEach es env:=rfl
theorem aR{c:Const}{k:Nat}{pos:Pos}{es:List Expr}{env:Env}:starEach (.Constant c k pos::es) env=(false,eval (.Constant c k pos) env)::starEach es env:=rfl
theorem ba{a b:Expr}{pos:Pos}{es:List Expr}{env:Env}:starEach (.Subscript a b pos::es) env=(false,eval (.Subscript a b pos) env)::starEach es env:=rfl
theorem bM{f:Expr}{as:List Expr}{ks:List Keyword}{pos:Pos}{es:List Expr}{env:Env}:starEach (.Call f as ks pos::es) env=(false,eval (.Call f as ks pos) env)::starEach es env:=rfl
theorem pF{a:Expr}{x:Str}{pos:Pos}{es:List Expr}{env:Env}:starEach (.Attribute a x pos::es) env=(false,eval (.Attribute a x pos) env)::starEach es env:=rfl
theorem iV{as:List Expr}{pos:Pos}{es:List Expr}{env:Env}:starEach (.List as pos::es) env=(false,eval (.List as pos) env)::starEach es env:=rfl
theorem cE{as:List Expr}{k}{pos:Pos}{es:List Expr}{env:Env}:starEach (.Tuple as k pos::es) env=(false,eval (.Tuple as k pos) env)::starEach es env:=rfl
theorem kB{a:Expr}{gs:List Comprehension}{sc:Scope}{pos:Pos}{es:List Expr}{env:Env}:starEach (.ListComp a gs sc pos::es) env=(false,eval (.ListComp a gs sc pos) env)::starEach es env:=rfl
def Iw:Expr->Option V
 |.Constant (.int i) _ _=>some (.int i)
 |.Constant (.str x) _ _=>some (.str x)
 |.Constant (.bool b) _ _=>some (.bl b)
 |.Constant .none _ _=>some .ck
 |_=>none
def Iy (vs:List V):TA:=fun _ H Q=>Q vs H
theorem cO{X:Cx}:∀ {es:List Expr} {vs:List V},es.map Iw=vs.map some->PA X es (Iy vs)
 |[],[],_=>ah
 |[],_::_,h=>by cases h
 |_::_,[],h=>by cases h
 |e::es,v::vs,h=>by
  rw[List.map_cons,List.map_cons] at h
  injection h with h1 h2
  have ih:=cO (X:=X) h2
  have one:∀ {e:Expr} {v:V},PE X e (tC v)->(starEach (e::es) X.env=(false,eval e X.env)::starEach es X.env)->PA X (e::es) (Iy (v::vs)):=fun he hs pos pins s σ H Q I q=>aa he ih hs pos pins s σ H Q I q
  unfold Iw at h1
  split at h1
  ·cases h1;exact one aj aR
  ·cases h1;exact one aV aR
  ·cases h1;exact one uN aR
  ·cases h1;exact one eM aR
  ·cases h1
theorem El{vs:List V}{σ:St}{H:Hp}{Q:List V->Hp->Prop}:(Iy vs σ H Q)=(Q vs H):=rfl
theorem Em{td ty:TE}{σ:St}{H:Hp}{Q:VK}:(Nj td ty σ H Q)=(td σ H fun x H1=>ty σ H1 fun y H2=>∃a v,x=.ref a/\pT H2 a y (some v)/\Q v H2):=rfl
theorem AS{σ:St}{H:Hp}{Q:VK}:(HU σ H Q)=(∀p,H p=none->Q (.ref p) (upd H p (.dK []))):=rfl
theorem En{td ty tv:TE}{D:Ends}{σ:St}{H:Hp}:(Nk td ty tv D σ H)=(tv σ H fun v H1=>td σ H1 fun x H2=>ty σ H2 fun y H3=>∃a H4,x=.ref a/\OS H3 a y v H4/\D.nx σ H4):=rfl
theorem Nr{r:List V->Hp->VK->Prop}{t:TA}{σ:St}{H:Hp}{Q:VK}:(Vz r t σ H Q)=(t σ H fun vs H1=>r vs H1 Q):=rfl
theorem R4{t:TE}{σ:St}{H:Hp}{Q:Bool->Hp->Prop}:(tB t σ H Q)=(t σ H fun x H1=>∃c,x=.bl c/\Q c H1):=rfl
theorem Iz{t:TT}{σ:St}{H:Hp}{Q:Bool->Hp->Prop}:(Rl t σ H Q)=(t σ H fun c H1=>Q (!c) H1):=rfl
theorem pT.s{H:Hp}{a:Addr}{aP:List (Key×V)}{x:Str}{v:V}(e:H a=some (.dK aP))(h:cH aP (Sum.inr x)=some v):pT H a (.str x) (some v):=by
 have:=pT.k (k:=Sum.inr x) e
 rw[h] at this
 exact this
end L2
namespace PM
abbrev W:=List Nat
inductive Tr where
 |num (n:Int) |box (x:W) |bin (o:W) (l r:Tr)
 deriving DecidableEq
def isLetter (c:Nat):Bool:=decide (97<=c)&&decide (c<=122)
def AU (c:Nat):Bool:=decide (48<=c)&&decide (c<=57)
def kind (c:Nat):Nat:=if isLetter c then 0 else if AU c then 1 else 2
def ji (st:List W×Nat) (c:Nat):List W×Nat:=
 if kind c≠2/\kind c=st.2 then (st.1.dropLast++[st.1.getLastD []++[c]],kind c) else (st.1++[[c]],kind c)
def IA (w:W):List W×Nat:=w.foldl ji ([],3)
def pieces (w:W):List W:=(IA w).1
def LF:List W:=[[98,111,120],[97,115,107],[112,117,116],[115,97,121],[105,102],[101,108,115,101],[119,104,105,108,101],[109,117,115,116],[115,116,111,112],[101,110,100]]
def isName (p:W):Bool:=decide (1<=p.length)&&decide (p.length<=8)&&p.all isLetter && !LF.contains p
def isNumber (p:W):Bool:=decide (1<=p.length)&&decide (p.length<=3)&&p.all AU&&(decide (p=[48]) || !decide (p.head?=some 48))
def qK (p:W):Int:=p.foldl (fun (a:Int) (c:Nat)=>a*10+((c:Int)-48)) 0
abbrev P:=List W->Option (Tr×List W)
def Eo (sub:P):P
 |[]=>none
 |p::r=>if isNumber p then some (.num (qK p),r) else if isName p then some (.box p,r) else if p=[40] then
  (match sub r with
  |some (e,q::r')=>if q=[41] then some (e,r') else none
  |_=>none) else none
theorem CJ(sub:P)(p:W)(r:List W):Eo sub (p::r)=if isNumber p then some (.num (qK p),r) else if isName p then some (.box p,r) else if p=[40] then
 (match sub r with
 |some (e,q::r')=>if q=[41] then some (e,r') else none
 |_=>none) else none:=rfl
def Ep (ops:List W) (f:P):Nat->Tr->List W->Option (Tr×List W)
 |0,e,ps=>some (e,ps)
 |_+1,e,[]=>some (e,[])
 |k+1,e,p::r=>if p∈ops then (match f r with
  |none=>none
  |some (e2,r')=>Ep ops f k (.bin p e e2) r') else some (e,p::r)
def AV (f:P):P:=fun ps=>match f ps with
 |none=>none
 |some (e,r)=>Ep [[42]] f r.length e r
def OX (f:P):P:=fun ps=>match AV f ps with
 |none=>none
 |some (e,r)=>Ep [[43],[45]] (AV f) r.length e r
def factor:Nat->P
 |0=>Eo fun _=>none
 |n+1=>Eo (OX (factor n))
def expr (w:W):Option Tr:=if 60<w.length then none else match OX (factor 5) (pieces w) with
 |some (e,[])=>some e
 |_=>none
def Short (f:P):Prop:=∀ps e r,f ps=some (e,r)->r.length<ps.length
def loop (ops:List W) (f:P) (e:Tr) (ps:List W):Option (Tr×List W):=Ep ops f ps.length e ps
theorem IB(f:P)(ps:List W):AV f ps=match f ps with
 |none=>none
 |some (e,r)=>loop [[42]] f e r:=rfl
def VX (p:W):Bool:=isNumber p ||isName p
def CK:List W:=[[43],[45],[42]]
def step (p:W):Nat×Bool->Option (Nat×Bool)
 |(d,true)=>if p=[40] then (if d+1>5 then none else some (d+1,true)) else if VX p then some (d,false) else none
 |(d,false)=>if p=[41] then (if d=0 then none else some (d-1,false)) else if p∈CK then some (d,true) else none
def run:List W->Nat×Bool->Option (Nat×Bool)
 |[],s=>some s
 |p::r,s=>match step p s with
  |none=>none
  |some s'=>run r s'
def good (ps:List W):Prop:=run ps (0,true)=some (0,false)
instance (ps:List W):Decidable (good ps):=inferInstanceAs (Decidable (_=_))
structure Walk(d:Nat)(f:P)(nx:List W->Prop):Prop where
 yes:∀ps e r,f ps=some (e,r)->run ps (d,true)=run r (d,false)/\nx r
 no:∀ps,f ps=none->run ps (d,true)≠some (0,false)
def rA (_:List W):Prop:=True
def nxP (r:List W):Prop:=r=[]\/∃q t,r=q::t/\q≠[42]
def nxS (r:List W):Prop:=r=[]\/∃q t,r=q::t/\q ∉ CK
end PM
namespace PM
structure aav(st:List W×Nat)(w:W):Prop where
 flat:st.1.flatten=w
 YC:∀p∈st.1,p≠[]
 last:st.2<2->st.1≠[]
 sort:∀p∈st.1,(∀c∈p,kind c=0)\/(∀c∈p,kind c=1)\/∃c,p=[c]/\kind c=2
 mark:st.1≠[]->∃p,st.1.getLast?=some p/\(st.2<2->∀c∈p,kind c=st.2)
theorem CL{α:Type}{l:List α}{p:α}(h:l.getLast?=some p):l=l.dropLast++[p]:=by
 have B7:l≠[]:=by rintro rfl;cases h
 rw[List.getLast?_eq_some_getLast B7] at h
 have e:=(List.dropLast_concat_getLast B7).symm
 cases h
 exact e
end PM
namespace PM
def RF (n:Nat) (t:Tr) (L:List W):Prop:=∀rest,factor n (L++rest)=some (t,rest)
def RP (n:Nat) (t:Tr) (L:List W):Prop:=∀rest,AV (factor n) (L++rest)=loop [[42]] (factor n) t rest
def RS (n:Nat) (t:Tr) (L:List W):Prop:=∀rest,nxP rest->OX (factor n) (L++rest)=loop [[43],[45]] (AV (factor n)) t rest
theorem RF.p{n:Nat}{t:Tr}{L:List W}(h:RF n t L):RP n t L:=fun rest=>by rw[IB,h rest]
theorem uT(n:Nat)(p:W)(r:List W)(h:isNumber p=true\/isName p=true):factor n (p::r)=if isNumber p then some (.num (qK p),r) else some (.box p,r):=by
 have key:∀sub:P,Eo sub (p::r)=if isNumber p then some (.num (qK p),r) else some (.box p,r):=fun sub=>by
  rw[CJ]
  by_cases h1:isNumber p=true
  ·rw[if_pos h1,if_pos h1]
  ·rw[if_neg h1,if_neg h1,if_pos (h.resolve_left h1)]
 cases n with
 |zero=>exact key _
 |succ n=>exact key _
theorem RF.num{n:Nat}{p:W}(h:isNumber p=true):RF n (.num (qK p)) [p]:=fun rest=>by
 show factor n (p::rest)=_
 rw[uT n p rest (.inl h),if_pos h]
theorem RF.box{n:Nat}{p:W}(h:isName p=true)(h':isNumber p=false):RF n (.box p) [p]:=fun rest=>by
 show factor n (p::rest)=_
 rw[uT n p rest (.inr h),if_neg (by rw[h'];simp)]
def Nt:Tr->Bool
 |.bin o _ _=>decide (o=[43]) ||decide (o=[45])
 |_=>false
def isMul:Tr->Bool
 |.bin o _ _=>decide (o=[42])
 |_=>false
def YD (o:W) (l:Tr) (m:Int):Bool:=(decide (o=[42])&&Nt l) ||decide (m%5=1)
def YE (o:W) (r:Tr) (m:Int):Bool:=(Nt r ||(decide (o=[42])&&isMul r)) ||decide (m%7=1)
def dig (n:Nat):W:=(Nat.toDigits 10 n).map Char.toNat
def put (b:Bool) (w:W):W:=if b then [40]++w++[41] else w
def OY (b:Bool) (w:List W):List W:=if b then [40]::w++[[41]] else w
def toks:Tr->Int->List W
 |.num n,_=>[dig n.toNat]
 |.box x,_=>[x]
 |.bin o l r,m=>OY (YD o l m) (toks l (m/2))++o::OY (YE o r m) (toks r (m/3))
def YF (b:Bool):Nat:=if b then 1 else 0
def dep:Tr->Int->Nat
 |.bin o l r,m=>max (YF (YD o l m)+dep l (m/2)) (YF (YE o r m)+dep r (m/3))
 |_,_=>0
def FI:Tr->Prop
 |.num n=>0<=n/\n<=999
 |.box x=>isName x=true
 |.bin o l r=>(o=[43]\/o=[45]\/o=[42])/\FI l/\FI r
def around:Nat->W->W
 |0,w=>w
 |n+1,w=>put true (around n w)
def LG:Nat->List W->List W
 |0,w=>w
 |n+1,w=>OY true (LG n w)
end PM
namespace PM
def mkB (s:W):List Tr->List Tr
 |r::l::N=>.bin s l r::N
 |N=>N
def red (c:W):List Tr->List W->List Tr×List W
 |N,[]=>(N,[])
 |N,s::S=>if s≠[40]/\(c≠[42]\/s=[42]) then red c (mkB s N) S else (N,s::S)
def leafOf (p:W):Tr:=if isNumber p then .num (qK p) else .box p
def OZ (p:W) (st:List Tr×List W):List Tr×List W:=
 if p=[40] then (st.1,p::st.2) else if VX p then (leafOf p::st.1,st.2) else
  if p=[41] then ((red p st.1 st.2).1,(red p st.1 st.2).2.tail) else ((red p st.1 st.2).1,p::(red p st.1 st.2).2)
def sy (L:List W) (st:List Tr×List W):List Tr×List W:=L.foldl (fun st p=>OZ p st) st
def Bot (S:List W):Prop:=S=[]\/∃r,S=[40]::r
def YG (S:List W):Prop:=S=[]\/∃s r,S=s::r/\s≠[42]
end PM
namespace PM
end PM
namespace PM
def strip:Nat->W->Nat×W
 |0,w=>(0,w)
 |n+1,w=>if w.head?=some 40/\w.getLast?=some 41 then ((strip n w.tail.dropLast).1+1,(strip n w.tail.dropLast).2) else (0,w)
def leaf (p:W):Option Tr:=if isName p then some (.box p) else if isNumber p then some (.num (qK p)) else none
def due (w:W):Option Tr:=if 5<(strip 6 w).1 then none else leaf (strip 6 w).2
theorem shape{w:W}(h:w.head?=some 40/\w.getLast?=some 41):w=[40]++w.tail.dropLast++[41]:=by
 obtain⟨h1,h2⟩:=h
 cases w with
 |nil=>cases h1
 |cons c r=>
  cases h1
  cases r with
  |nil=>simp at h2
  |cons d r=>
   have:(d::r).getLast?=some 41:=by rw[List.getLast?_cons_cons] at h2;exact h2
   have e:=CL this
   show 40::(d::r)=40::((d::r).dropLast++[41])
   rw[<- e]
def VY (w:W):Prop:=∀c∈w,c≠43/\c≠45/\c≠42
end PM
namespace L2
open PySem PySem.Spec PyProof.Rows
section
variable{P:Program}{w:World}{H H':Hp}{h h' B:Heap}{a:Addr}{o:HO}
theorem dF.there(x:dF P w H h a o):∃ob,h.get? a=some ob:=by
 induction o with
 |lst xs=>obtain⟨_,_,_,_,e⟩:=x;exact⟨_,e⟩
 |tup xs=>obtain⟨_,_,_,_,e,_⟩:=x;exact⟨_,e⟩
 |dK aP=>obtain⟨_,_,_,_,o,_,_,e,_⟩:=x;exact⟨_,e⟩
 |dT aP=>obtain⟨_,_,_,_,o,_,_,e,_⟩:=x;exact⟨_,e⟩
 |set S n=>obtain⟨o,_,_,_,e,_⟩:=x;exact⟨_,e⟩
 |ins C dx fs=>obtain⟨_,_,_,e,_⟩:=x;exact⟨_,e⟩
 |own y=>exact x
 |xd fs=>obtain⟨_,⟨_,_,_,e,_⟩,_⟩:=x;exact⟨_,e⟩
 |T8 lo hi=>obtain⟨_,_,_,e⟩:=x;exact⟨_,e⟩
 |Cc ob u=>obtain⟨e,_⟩:=x;exact⟨_,e⟩
 |M3 ps=>exact⟨_,(show h.get? a=some _ from x)⟩
 |met f y=>exact⟨_,(show h.get? a=some _ from x)⟩
 |ext φ=>obtain⟨_,e,_⟩:=x;exact e
end
section
variable{X:Cx}{pins:List (Addr×Obj)}{σ:St}{H H':Hp}{s s':Shared}{h':Heap}{E:XK}{x:Addr}{cls a0:Value}{B:Heap}
end
section
variable{P:Program}{w:World}{K:PySem.W.Frag}{mg:Str->Option Value}{base:Heap}{N:List Str}{qual:Str}{scope:Scope}{f:Addr}{cd:Value}{A:Around}{outer:List Env}{s₀:Shared}{H₀:Hp}{E:XK}
end
structure R5(K:PySem.W.Frag)(C:Addr):Prop where
 q:PySem.W.excIn K C [.type "ValueError",.type "Exception",.type "BaseException",.type "object"] "ValueError.__new__"=true
theorem R5.obj{K:PySem.W.Frag}{C:Addr}{h:Heap}(c:R5 K C)(X:K.In h):∃bm N nm q bs VZ sn sub ab col dd k0 k1 k2 k3 k5 mN,h.get? C=some (excClassObj nm q C N bs bm VZ sn sub ab col dd k0 k1 k2 k3 k5 "ValueError.__new__")/\h.Ns N mN/\mN "__init__"=none/\
 OwnTail h [.type "ValueError",.type "Exception",.type "BaseException",.type "object"] bm:=by
 have q:=c.q
 unfold PySem.W.excIn at q
 split at q
 ·rename_i dd cd sl ho
  split at q
  ·rename_i C' bm k0 k1 k2 k3 n k5 hm hs
   simp only[Bool.and_eq_true,beq_iff_eq,Bool.not_eq_true'] at q
   obtain⟨⟨⟨⟨⟨rfl,rfl⟩,R6⟩,ht⟩,dU⟩,YH⟩:=q
   obtain⟨nm,bs,mro,ns,qn,hd,sn,sub,ab,col,del⟩:=cd
   dsimp only at hm R6 dU YH
   subst hm R6
   have hsl:sl = #[k0,k1,k2,k3,some (.builtin "ValueError.__new__"),k5]:=by
    obtain⟨l⟩:=sl
    simp only at hs
    rw[hs]
   subst hsl
   exact⟨bm,ns,nm,qn,bs,hd,sn,sub,ab,col,dd,k0,k1,k2,k3,k5,_,X _ _ ho,.of_isNs (PySem.W.isNs_of_in X dU),PySem.W.nsMap_none_of_in X dU YH,PySem.W.tail_of_in X ht⟩
  ·cases q
 ·cases q
section
variable{X:Cx}{C:Addr}{E:XK}{x:Str}{np vP pos:Pos}{e:Expr}{es:List Expr}{ta:TA}
end
section
variable{X:Cx}{pins:List (Addr×Obj)}{σ:St}{H:Hp}{s:Shared}{x:Addr}
theorem Inv.told{o:HO}(I:Inv X pins σ H s)(n:H x=none)(h0:X.s₀.heap.objs.size<=x)(hL:x≠X.env.locals)(hc:∀y c,X.env.cells.lookup y=some c->c≠x)(hp:∀p∈X.pn++pins,p.1≠x)(ok:dF X.prog X.w (upd H x o) s.heap x o):Inv X pins σ (upd H x o) s:=by
 have nx:∀b u,X.s₀.heap.get? b=some u->b≠x:=fun b u e=>Nat.ne_of_lt (Nat.lt_of_lt_of_le (Heap.lt_size e) h0)
 refine⟨I.ok,I.os,I.bare,⟨I.base.keep,I.base.slot,fun b u e n' hx=>?_,I.base.there,fun b xs e=>?_,fun b ob u e=>?_,fun b ps e=>?_⟩,I.loc,I.cell,?_,fun y c e=>?_,fun p QI=>?_,fun b u e=>?_,I.len⟩
 ·rw[ay (nx b u e)];exact I.base.free b u e n' hx
 ·have:=I.base.yO b xs e
  rw[ay (ao this n)];exact this
 ·have:=I.base.xo b ob u e
  rw[ay (ao this n)];exact this
 ·obtain⟨m,e1⟩:=I.base.yP b ps e
  exact⟨m,by rw[ay (ao e1 n)];exact e1⟩
 ·rw[ay (Ne.symm hL)];exact I.free
 ·rw[ay (hc y c e)];exact I.nO y c e
 ·obtain⟨a,b,c⟩:=I.pin p QI
  exact⟨a,by rw[ay (hp p QI)];exact b,c⟩
 ·by_cases hb:b=x
  ·subst hb
   rw[ai] at e
   cases e
   exact ok
  ·rw[ay hb] at e
   exact(I.dU b u e).ky (fun _ _ _ q=>q) (fun c q=>by rw[ay (ao q n)];exact q) fun c xs q=>by rw[ay (ao q n)];exact q
end
abbrev Cx.pinned (X:Cx) (pins:List (Addr×Obj)) (xe:Value->Shared->Prop):Cx:={X with pn:=X.pn++pins,xe:=xe}
section
variable{X:Cx}{pins AB:List (Addr×Obj)}{σ:St}{H:Hp}{s:Shared}{xe:Value->Shared->Prop}
end
section
variable{X:Cx}{k:Nat}{f CH:Addr}{fd:FuncData}{ps:List Str}{sp:Sp}{fx cx:Str}{p pos pos' np V0 Hs:Pos}{e:Expr}{es:List Expr}{ta:TA}{ts:TS}{b0:Stmt}{R7:List Stmt}
end
end L2
namespace L2
open PySem PySem.Spec PySem.Calls PyProof.Rows Builtin Builtin.ObjectAttr Builtin.Getset_descriptor
def Nu (x C:Addr) (h:Heap):Prop:=∃o,h.get? x=some o/\o.cls=.ref C
theorem Nu.type{x C:Addr}{h:Heap}{M:Model}(p:Nu x C h):PySem.W.Looks M h (typeOf (.ref x)) (.ref C):=by
 obtain⟨o,h1,h2⟩:=p
 exact h2▸(PySem.W.Looks.ld h1).andThen .now
section
variable{prog:Program}{w:World}{A:Around}{E:Value->Shared->Prop}{s:Shared}{K:PySem.W.Frag}{x C:Addr}
end
def Ends.drop (D:Ends) (i:Nat):Ends:={nx:=fun σ H=>D.nx (σ.set i none) H,rt:=D.rt,bk:=fun σ H=>D.bk (σ.set i none) H,ct:=fun σ H=>D.ct (σ.set i none) H}
section
variable{X:Cx}{pins:List (Addr×Obj)}{σ:St}{H:Hp}{s:Shared}{x:Addr}
end
section
variable{X:Cx}{k i:Nat}{f CH:Addr}{fd:FuncData}{ps:List Str}{sp:Sp}{fx cx n:Str}{p pos pos' np V0 Hs:Pos}{e:Expr}{es:List Expr}{ta:TA}{ts:TS}{b0:Stmt}{R7:List Stmt}
end
end L2
namespace L2
open PySem PySem.Spec PyProof.Rows
def Its (z:Str):It:=⟨fun i _=>i<z.cps.size,fun i H x H'=>H'=H/\∃c,z.cps[i]?=some c/\x=.str ⟨#[c]⟩,fun i _=>z.cps.size<=i⟩
section
variable{P:Program}{w:World}{K:PySem.W.Frag}{tg:Expr}
end
section
variable{X:Cx}{tg:Expr}
def R8 (tl:TE):TI:=fun σ H R=>tl σ H fun x H1=>∃z,x=.str z/\R (Its z) H1
end
def aaz (z:Str) (lo hi:Option Int):Str:=⟨((z.cps.toList.drop (HT.fY z.length 0 lo)).take (HT.fY z.length z.length hi-HT.fY z.length 0 lo)).toArray⟩
theorem Ct{n d:Nat}(hd:d<=n)(o:Option Int):HT.fY n d o<=n:=by
 cases o with
 |none=>exact hd
 |some i=>
  show (if i<0 then (i+n).toNat else min i.toNat n)<=n
  split<;>lia
section
variable{X:Cx}
def aaA (z:Str) (n:Nat):Str:=⟨(List.replicate n z.cps).foldl (· ++ ·) #[]⟩
end
end L2
namespace L2
open PySem PySem.Spec PyProof.Rows
abbrev W:=PM.W
def S (w:W):Str:=⟨w.toArray⟩
def sv (w:W):V:=.str (S w)
theorem lC{a b:W}:S a=S b↔a=b:=⟨fun h=>by have:=congrArg (fun z:Str=>z.cps.toList) h;simpa[S] using this,fun h=>by rw[h]⟩
def jk:PM.Tr->Dp
 |.num n=>.tup [.str "number",.int n]
 |.box x=>.tup [.str "box",.str (S x)]
 |.bin o l r=>.tup [.str (S o),jk l,jk r]
def bz (p:Addr) (H H':Hp):Prop:=∀b o,b≠p->H b=some o->H' b=some o
theorem bz.refl(p:Addr)(H:Hp):bz p H H:=fun _ _ _ h=>h
theorem bz.trans{p:Addr}{H H1 H2:Hp}(a:bz p H H1)(b:bz p H1 H2):bz p H H2:=fun c o n h=>b c o n (a c o n h)
theorem bz.of{p:Addr}{H H':Hp}(s:av H H'):bz p H H':=fun b o _ h=>s b o h
theorem bz.put{p:Addr}{H H1:Hp}(a:bz p H H1)(o:HO):bz p H (upd H1 p o):=fun b u n h=>by rw[ay n];exact a b u n h
theorem bz.new{p q:Addr}{H H1:Hp}(a:bz p H H1)(h:H1 q=none)(o:HO):bz p H (upd H1 q o):=fun b u n e=>by rw[ay (ao (a b u n e) h)];exact a b u n e
theorem bz.same{p:Addr}{H H':Hp}(a:bz p H H')(h:H p=none):av H H':=fun b o e=>a b o (ao e h) e
structure YI(CP:Addr)(H:Hp)(p l dx:Addr)(ps:List W)(k:Nat):Prop where
 ins:H p=some (.ins CP dx [("pieces",.ref l),("place",.int k)])
 own:H dx=some (.own p)
 lst:H l=some (.lst (ps.map sv))
 le:k<=ps.length
 pos:∀q∈ps,q≠[]
 len:∀q∈ps,q.length<=60
 many:ps.length<=60
theorem YI.nd{CP p l dx:Addr}{H:Hp}{ps:List W}{k:Nat}(o:YI CP H p l dx ps k):dx≠p:=cR o.own o.ins (by intro z;cases z)
section
variable(K:PySem.W.Frag)(CP CN:Addr)
end
section
variable{P:Program}{w:World}{K:PySem.W.Frag}{mg:Str->Option Value}{base:Heap}
end
end L2
namespace L2
open PySem PySem.Spec PyProof.Rows
mutual
def Dp.py:Dp->PyData
 |.ck=>.none
 |.bl b=>.bool b
 |.int i=>.int i
 |.str x=>.str x
 |.tup l=>.tuple (Dp.t9 l)
 |.lst l=>.list (Dp.t9 l)
def Dp.t9:List Dp->List PyData
 |[]=>[]
 |d::r=>d.py::Dp.t9 r
end
section
variable{X:Cx}{pins:List (Addr×Obj)}{σ:St}{H:Hp}{s:Shared}
mutual
theorem og(I:Inv X pins σ H s):∀ {d:Dp} {v:V} {u:Value},Rep X.K H d v->RelV v u->∃as,Reads s.heap u d.py as
 |.ck,v,u,h,r=>by rw[Rep.rW] at h;subst h;cases (show u=Value.none from r);exact⟨_,.none⟩
 |.bl b,v,u,h,r=>by rw[Rep.mD] at h;subst h;cases (show u=Value.bool b from r);exact⟨_,.bool b⟩
 |.int i,v,u,h,r=>by rw[Rep.bB] at h;subst h;obtain⟨t,rfl⟩:=(show ∃t,u=Value.int i t from r);exact⟨_,.int i t⟩
 |.str x,v,u,h,r=>by rw[Rep.bE] at h;subst h;obtain⟨t,rfl⟩:=(show ∃t,u=Value.str x t from r);exact⟨_,.str x t⟩
 |.tup l,v,u,h,r=>by
  rw[Rep.bq] at h
  obtain⟨p,xs,rfl,q,w⟩:=h
  cases (show u=Value.ref p from r)
  obtain⟨bA,v1,t1,_⟩:=I.tuple q
  obtain⟨as,ra⟩:=ua I w v1
  obtain⟨o,h1,h2,n,h3⟩:=t1
  unfold Dp.py
  exact⟨as,.tuple h1 h2 h3 (by simpa using ra)⟩
 |.lst l,v,u,h,r=>by
  rw[Rep.bI] at h
  obtain⟨p,xs,rfl,q,w⟩:=h
  cases (show u=Value.ref p from r)
  obtain⟨bA,v1,t1,_⟩:=I.list q
  obtain⟨as,ra⟩:=ua I w v1
  obtain⟨o,h1,h2,n,h3⟩:=t1.isList
  unfold Dp.py
  exact⟨_,.list h1 h2 h3 (by simpa using ra)⟩
theorem ua(I:Inv X pins σ H s):∀ {ds:List Dp} {vs:List V} {us:List Value},aQ X.K H ds vs->Vals vs us->∃as,ReadsAll s.heap us (Dp.t9 ds) as
 |[],_,_,h,r=>by rw[aQ.br] at h;subst h;cases r;unfold Dp.t9;exact⟨_,.nil⟩
 |d::ds,_,_,h,r=>by
  rw[aQ.aJ] at h
  obtain⟨v,vs,rfl,x,y⟩:=h
  cases r with
  |cons r1 r2=>
   obtain⟨a,ra⟩:=og I x r1
   obtain⟨b,rb⟩:=ua I y r2
   unfold Dp.t9
   exact⟨_,.cons ra rb⟩
end
end
section
variable{X:Cx}
def V4 (K:PySem.W.Frag) (neg:Bool):R2:=fun x y H Q=>∃d e,Rep K H d x/\Rep K H e y/\SeqAt.shaped d.py=true/\SeqAt.shaped e.py=true/\Q (.bl (if neg then !PyData.eqv d.py e.py else PyData.eqv d.py e.py)) H
theorem O0(hu:X.A.units+64<cLine):qd X (compareOp .NotEq) (V4 X.K true):=by
 intro pins s σ H x y v u Q I rx ry h
 obtain⟨d,e,h1,h2,s1,s2,q⟩:=h
 obtain⟨as,ra⟩:=og I h1 rx
 obtain⟨bs,rb⟩:=og I h2 ry
 exact ne_dataH ra rb s1 s2 hu ⟨.bl (!PyData.eqv d.py e.py),H,I,rfl,q⟩
end
mutual
theorem eqv_refl:∀d:Dp,PyData.eqv d.py d.py=true
 |.ck=>rfl
 |.bl b=>by simp[Dp.py,PyData.eqv]
 |.int i=>by simp[Dp.py,PyData.eqv]
 |.str x=>by simp[Dp.py,PyData.eqv]
 |.tup l=>by simp only[Dp.py,PyData.eqv];exact ub l
 |.lst l=>by simp only[Dp.py,PyData.eqv];exact ub l
theorem ub:∀l:List Dp,PyData.eqvAll (Dp.t9 l) (Dp.t9 l)=true
 |[]=>rfl
 |d::r=>by simp only[Dp.t9,PyData.eqvAll,eqv_refl d,ub r,Bool.and_true]
end
theorem aw{t u:TS}{D:Ends}{σ:St}{H:Hp}(h:∀U:St->Hp->Prop,(∀σ' H',U σ' H'↔u D σ' H')->t {D with nx:=U} σ H):Le t u D σ H:=h (u D) fun _ _=>Iff.rfl
theorem LH{A:Around}{k:Nat}(hr:ie k A):A.units+64<cLine:=hr.units
end L2
namespace L2
open PySem
section
variable(K:PySem.W.Frag)
end
end L2
namespace L2
open PySem
section
variable(K:PySem.W.Frag)
end
end L2
namespace L2
open PySem
end L2
namespace L2
open PySem
theorem lD{ta:TA}{g:TG}{tb:TS}{D:Ends}{σ:St}{H:Hp} (h:∀U:Int->Hp->Prop,(∀j H1,(∃W:Nat->Nat->St->Hp->Prop,(∃m,W 0 m σ H1)/\∀i m σ H,W i m σ H->
 ((Hg 0 j.toNat).stop i H/\D.nx σ H)\/((Hg 0 j.toNat).go i H/\∃N:St->Hp->Prop,(∀σ' H',N σ' H'->∃m',m'<m/\W (i+1) m' σ' H')/\∀x H',(Hg 0 j.toNat).KJ i H x H'->g x σ H' fun σ2 H2=>tb {D with nx:=N,ct:=N,bk:=D.nx} σ2 H2))->U j H1)->
 ta σ H fun vs H1=>∃j:Int,vs=[.int j]/\-(2 ^ 62)<=j/\j<2 ^ 62/\U j H1):Lg (DR ta) g tb D σ H:=h _ fun _ _ x=>x
end L2
namespace L2
open PySem
def Er (K:PySem.W.Frag):Sp:=fun vs H Q _=>∃(a:Addr) (ns:List Int),vs=[.ref a]/\il K H a (ns.map .int)/\ns.length<=63/\∀H',Q (.bl true) H'
theorem Nv(ns:List Int)(h:ns.length<=63):cQ (ns.map V.int) none (some 63)=ns.map V.int:=by
 unfold cQ
 rw[HT.nV,show (63:Int)=((63:Nat):Int) from rfl,HT.pA,List.length_map,List.drop_zero,Nat.sub_zero]
 exact List.take_of_length_le (by rw[List.length_map];lia)
end L2
namespace L2
open PySem PySem.Spec PyProof.Rows
section
variable{X:Cx}{pins:List (Addr×Obj)}{σ:St}{H:Hp}{s:Shared}{h':Heap}
theorem Inv.x8{t':Nat}{fp:List Addr}(I:Inv X pins σ H s)(k:∀b o,b ∉ fp->s.heap.get? b=some o->h'.get? b=some o)(hf:∀b∈fp,rJ X pins H b):Inv X pins σ H {s with heap:=h',toks:=t' }:=by
 have Rf:∀b u,H b=some u->b ∉ fp:=fun b u e z=>by rw[(hf b z).1] at e;cases e
 refine I.step (g':=s.gens) (d':=s.drawn) (ch:=fp) (fun b hb=>?_) (fun b o _ _ hc e _=>k b o hc e) (fun b o _ _ hc e _=>⟨o.slots,k b o hc e⟩) (fun _ _ _ _ n=>n)
  (fun b o hc e=>⟨o,k b o hc e⟩) (fun _ _ e=>e) (fun _ _ _ e=>e) (fun b ps e=>⟨#[],by rw[e];simp⟩) (fun m hm=>?_) (fun b u e=>?_) I.bare
 ·obtain⟨_,f1,_,f3,f4,f5⟩:=hf b hb
  exact⟨f3,f1,f4,f5⟩
 ·obtain⟨o,es,ep,ho,r⟩:=hm
  exact⟨o,es,ep,k _ o (fun z=>(hf _ z).2.1 rfl) ho,r⟩
 ·refine(I.dU b u e).ky (fun c v hc q=>k c v ?_ q) (fun _ q=>q) fun _ _ q=>q
  rcases hc with z |z
  ·rw[z];exact Rf b u e
  ·exact Rf c _ z
end
def R9 (K:PySem.W.Frag) (a:Addr):It:=
 ⟨fun i H=>∃xs x,il K H a xs/\xs[i]?=some x,fun i H x H'=>∃p y,x=.ref p/\H p=none/\H'=upd H p (.tup [.int i,y])/\∀xs,il K H a xs->xs[i]?=some y,fun i H=>∃xs,il K H a xs/\xs.length<=i⟩
theorem FJ{P:Program}{w:World}{K:PySem.W.Frag}{elts:List Expr}{x1}{pos:Pos}(a e it:Addr)(B7:e≠it) :
 Turn P w K (.Tuple elts x1 pos) (R9 K a) [e,it] e (fun i h=>(∃old,IsEnum h e it i old)/\h.IsListIter it a i) where
 mem:=by simp
 obj:=fun i h st b hb=>by
  obtain⟨⟨old,he⟩,o,eo,c,d⟩:=st
  rcases List.mem_cons.mp hb with rfl |hb
  ·exact⟨_,he,fun v z=>by cases (show Data.fields _=Data.cell v from z)⟩
  ·have z:b=it:=by simpa using hb
   subst z
   exact⟨o,eo,fun v z=>by rw[d] at z;cases z⟩
 keep:=fun i h h' st k=>⟨st.1.elim fun old he=>⟨old,k e (by simp) _ he⟩,st.2.at fun o x=>k it (by simp) o x⟩
 item:=by
  intro X hP hw hK hc i pins s σ H E I hf st hg
  subst hP hw hK
  obtain⟨xs,x,hq,hx⟩:=hg
  obtain⟨⟨old,he⟩,hit⟩:=st
  obtain⟨bA,rv,p,hz⟩:=I.list hq
  obtain⟨u,hu,ru⟩:=rv.get hx
  refine wpAny_pyNext_enum_item he hit p.isList (x:=u) (by simpa using hu) B7 fun h' ho O3 hT hsz hk=>?_
  refine⟨_,rfl,?_⟩
  refine wpAny_letOwnedTupleGo_enum ho fun h2 Nw sb=>?_
  have Sa:e<s.heap.objs.size:=Heap.lt_size he
  have Sb:it<s.heap.objs.size:=by obtain⟨_,x,_⟩:=hit;exact Heap.lt_size x
  have I1:Inv X pins σ H {s with heap:=h2,toks:=s.toks+1}:=I.x8 (t':=s.toks+1) (fun b o hb q=>(sb.2 b fun z=>hb (by simp[z])).trans (hk b o (fun z=>hb (by simp[z])) (fun z=>hb (by simp[z])) q)) hf
  have fr:H s.heap.objs.size=none:=I.dU.fresh (Nat.le_refl _)
  obtain⟨g0,g1,g2,g3,g4,g5⟩:=I.He (Nat.le_refl _) fr
  have V5:h2.get? s.heap.objs.size=some {cls:=.type "tuple",data:=.seq #[.int i s.toks,u]}:=(sb.2 _ (Nat.ne_of_gt Sa)).trans hT
  have I2:=I1.told (o:=.tup [.int i,x]) fr I.sz g1 g4 g5 ⟨(show (2:Nat)<=sizeLine by decide),[.int i s.toks,u],.cons ⟨_,rfl⟩ (.cons ru .nil),⟨_,V5,rfl,_,rfl⟩⟩
  refine⟨.ref s.heap.objs.size,_,I2,rfl,⟨_,x,rfl,fr,rfl,fun ys hy=>by rw[I.AF hy hq];exact hx⟩,⟨⟨_,by exact_mod_cast Nw⟩,O3.at fun o q=>(sb.2 it (Ne.symm B7)).trans q⟩,fun b hb=>?_⟩
  rw[ay ?_]
  ·exact(hf b hb).1
  ·rcases List.mem_cons.mp hb with rfl |hb
   ·exact Nat.ne_of_lt Sa
   ·have z:b=it:=by simpa using hb
    subst z
    exact Nat.ne_of_lt Sb
 done:=by
  intro X hP hw hK hc i pins s σ H E I hf st hg
  subst hP hw hK
  obtain⟨xs,hq,hx⟩:=hg
  obtain⟨⟨old,he⟩,hit⟩:=st
  obtain⟨bA,rv,p,hz⟩:=I.list hq
  have hl:=rv.length
  exact wpAny_pyNext_enum_end (I.ok.hd hc) he hit p.isList (by simp;lia) fun h' eb=>⟨rfl,I.x8 (t':=s.toks) (fun b o hb q=>eb b o (fun z=>hb (by simp[z])) q) hf⟩
 self:=fun _ _ _ _ _ st h=>st.1.elim fun _ he=>wpAny_pyIter_enum he h
def Sd (K:PySem.W.Frag) (ta:TA):TI:=fun σ H R=>ta σ H fun vs H1=>∃a,vs=[.ref a]/\(∃xs,il K H1 a xs)/\R (R9 K a) H1
theorem LJ{X:Cx}{elts:List Expr}{x1}{tp:Pos}{a:Expr}{ta:TA}{p pos:Pos}(hg:Gl X "enumerate")(hm:X.mg "enumerate"=none)(ha:PA X [a] ta)(hs:starEach [a] X.env=[(false,eval a X.env)]:=by rfl) :
 PI X (.Tuple elts x1 tp) (.Call (.Name "enumerate" p) [a] [] pos) (Sd X.K ta):=by
 intro pins s σ H R I h
 refine Call_ (qG I hg hm PyProof.Rows.Boot.«enumerate» (PyProof.Rows.callWith_type1 (fA (ha pos pins s σ H _ I h) fun us s1 zqz=>?_) hs rfl))
 obtain⟨vs,H1,I1,r1,q1⟩:=zqz
 obtain⟨l,e,⟨xs,hq⟩,q⟩:=q1
 subst e
 cases r1 with
 |cons r rr=>
  cases rr
  cases (show _=Value.ref l from r)
  obtain⟨bA,rv,p,hz⟩:=I1.list hq
  refine call_enumerate_list p.isList fun h' he hit hsz hk=>?_
  refine wpAny_pyIter_enum he ?_
  have fr:∀b,s1.heap.objs.size<=b->H1 b=none:=fun b hb=>I1.dU.fresh hb
  refine⟨s1.heap.objs.size+1,[s1.heap.objs.size+1,s1.heap.objs.size],_,_,H1,rfl,I1.kept (t':=s1.toks) hk,FJ l _ _ (Nat.succ_ne_self _),⟨⟨_,he⟩,hit⟩,fun b hb=>?_,q⟩
  have Uo:s1.heap.objs.size<=b:=by
   rcases List.mem_cons.mp hb with rfl |hb
   ·exact Nat.le_succ _
   ·have z:b=s1.heap.objs.size:=by simpa using hb
    rw[z];exact Nat.le_refl _
  exact I1.He Uo (fr b Uo)
theorem IC{K:PySem.W.Frag}{a:Addr}{xs:List V}{g:TG}{tb:TS}{D:Ends}{σ:St}{H:Hp}(Pv:Nat->St->Hp->Prop)(h0:Pv 0 σ H)(hl:∀i σ H,i<=xs.length->Pv i σ H->il K H a xs)
 (hs:∀i x σ H p,xs[i]?=some x->Pv i σ H->H p=none->g (.ref p) σ (upd H p (.tup [.int i,x])) fun σ2 H2=>tb {D with nx:=Pv (i+1),ct:=Pv (i+1),bk:=D.nx} σ2 H2) (hd:∀σ H,Pv xs.length σ H->D.nx σ H) :
 ∃W:Nat->Nat->St->Hp->Prop,(∃m,W 0 m σ H)/\∀i m σ H,W i m σ H->
  ((R9 K a).stop i H/\D.nx σ H)\/((R9 K a).go i H/\∃N:St->Hp->Prop,(∀σ' H',N σ' H'->∃m',m'<m/\W (i+1) m' σ' H')/\∀x H',(R9 K a).KJ i H x H'->g x σ H' fun σ2 H2=>tb {D with nx:=N,ct:=N,bk:=D.nx} σ2 H2):=by
 refine⟨fun i m σ H=>m=xs.length-i/\i<=xs.length/\Pv i σ H,⟨xs.length,by simp,Nat.zero_le _,h0⟩,?_⟩
 rintro i m σ H ⟨rfl,hi,p⟩
 have q:=hl i σ H hi p
 by_cases ve:i<xs.length
 ·refine .inr ⟨⟨xs,xs[i],q,by simp[ve]⟩,Pv (i+1),fun σ' H' p'=>⟨xs.length-(i+1),by lia,rfl,ve,p'⟩,fun x H' y=>?_⟩
  obtain⟨pp,v,rfl,hn,rfl,y⟩:=y
  exact hs i v σ H pp (y xs q) p hn
 ·have e:i=xs.length:=by lia
  subst e
  exact .inl ⟨⟨xs,q,Nat.le_refl _⟩,hd σ H p⟩
end L2
namespace L2
open PySem
end L2
namespace L2
open PySem PySem.Spec PyProof.Rows
section
variable{prog:Program}{w:World}{A:Around}{E:Value->Shared->Prop}{s:Shared}
theorem AW{it l:Addr}{bA:Array Value}(B7:l≠it):∀(n i:Nat) (s:Shared) (Q:List Value->Shared->Prop),s.heap.IsListIter it l i->s.heap.IsList l bA->i+n<=bA.size->
 (∀h',h'.IsListIter it l (i+n)->Heap.SameBut it s.heap h'->Q ((bA.toList.drop i).take n) {s with heap:=h' })->wpAny (model prog w) A (draw (.ref it) n) Q E s
 |0,i,s,Q,a,_,_,q=>by
  show wpAny _ _ (pure []) Q E s
  exact wpAny_pure (by simpa using q s.heap a (Heap.SameBut.refl ..))
 |n+1,i,s,Q,a,b,le,q=>by
  have lt:i<bA.size:=by lia
  show wpAny _ _ (pyNext (.ref it) >>= _) Q E s
  refine wpAny_bind (wpAny_pyNext_list_item a b (x:=bA[i]) (by simp[lt]) fun h1 a1 s1=>?_)
  have b1:h1.IsList l bA:=by
   obtain⟨o,ho,r⟩:=b
   exact⟨o,(s1.2 l B7).trans ho,r⟩
  refine wpAny_bind (wpAny_holding (AW B7 n (i+1) _ _ a1 b1 (by lia) fun h2 a2 s2=>wpAny_pure ?_))
  have e:bA.toList.drop i=bA[i]::bA.toList.drop (i+1):=by simp[List.drop_eq_getElem_cons,lt]
  have z:=q h2 (by rw[show i+(n+1)=i+1+n by lia];exact a2) (s1.trans s2)
  rw[e,List.take_succ_cons] at z
  exact z
theorem CM{l:Addr}{bA:Array Value}{ts:List (Bool×(Value->Sem Unit))}{Q:Unit->Shared->Prop}(hh:A.handled=none)(b:s.heap.IsList l bA)(hn:ts.length=bA.size)(KI:ts.findIdx? (·.1)=none)
 (h:∀h',Heap.ExtBut s.heap.objs.size s.heap h'->wpAny (model prog w) A (assignInOrder (ts.map (·.2)) bA.toList) Q E {s with heap:=h' }):wpAny (model prog w) A (unpack (.ref l) ts) Q E s:=by
 have lt:l≠s.heap.objs.size:=by obtain⟨o,ho,_⟩:=b;exact Nat.ne_of_lt (Heap.lt_size ho)
 unfold unpack
 rw[hn,KI]
 refine wpAny_bind (wpAny_holding ?_)
 unfold unpackItems
 refine wpAny_bind ?_
 unfold notIterableAtAll
 refine wpAny_bind (wpAny_specialOf b.typeIs slot_list_iter.lookup ?_)
 refine wpAny_pure ?_
 simp only[Bool.false_eq_true,if_false]
 refine wpAny_bind (wpAny_holding (wpAny_pyIter_list b ?_))
 have ky:∀ {h1 h2:Heap},Heap.ExtBut s.heap.objs.size h1 h2->h1.IsList l bA->h2.IsList l bA:=fun {h1 h2} e x=>by
  obtain⟨o,ho,r⟩:=x
  exact⟨o,e l o lt ho,r⟩
 have b0:(s.heap.push {cls:=.type "list_iterator",data:=.fields #[.ref l,.int 0 0]}).IsList l bA:=by
  obtain⟨o,ho,r⟩:=b
  exact⟨o,Heap.get?_push_of_some _ ho,r⟩
 refine wpAny_bind (wpAny_holding (AW lt bA.size 0 _ _ ⟨_,Heap.get?_push_size _ rfl,rfl,rfl⟩ b0 (by lia) fun h1 a1 s1=>?_))
 have all:List.take bA.size (List.drop 0 bA.toList)=bA.toList:=by
  rw[List.drop_zero];exact List.take_of_length_le (by simp)
 rw[all,if_neg (by simp)]
 have b1:h1.IsList l bA:=ky s1.extBut b0
 refine wpAny_bind (wpAny_holding (wpAny_pyNext_list_end hh a1 b1 (by simp) fun h2 e2=>?_))
 simp only[Option.isSome_none,Bool.false_eq_true,if_false]
 exact wpAny_pure (h h2 fun c o hc e=>e2 c o hc (s1.extBut c o hc (Heap.get?_push_of_some _ e)))
end
def O4 (K:PySem.W.Frag) (n:Nat) (t:Lf):TG:=fun v σ H Q=>∃a xs,v=.ref a/\il K H a xs/\xs.length=n/\t xs σ H Q
theorem zd{X:Cx}{es:List Expr}{k}{pos:Pos}{t:Lf}{n:Nat}(hc:X.calm=true)(h:Ro X es t)
 (hn:(assignEach es X.env).length=n:=by rfl) (KI:(assignEach es X.env).findIdx? (·.1)=none:=by rfl):PG X (.Tuple es k pos) (O4 X.K n t):=by
 intro pins s σ H v u Q I r hw
 obtain⟨a,xs,rfl,hq,hl,hw⟩:=hw
 cases r
 obtain⟨bA,rv,hp,_⟩:=I.list hq
 rw[assign_Tuple]
 refine wpAny_bind (wpAny_standAt (CM (I.ok.hd hc) hp.isList (by simp[hn,<- hl,rv.length]) KI fun h' hx=>?_))
 have I1:Inv X pins σ H {s with heap:=h' }:=I.kept (t':=s.toks) fun b o e=>hx b o (Nat.ne_of_lt (Heap.lt_size e)) e
 exact h pins _ σ H xs _ Q I1 (by simpa using rv) hw
end L2
namespace PM
end PM
namespace L2
open PySem
section
variable(K:PySem.W.Frag)
end
end L2
namespace L2
open PySem PySem.SeqAt
theorem lE{X:Cx}(hu:X.A.units+1<cLine):qd X (compareOp .NotEq) (fun x y H Q=>∃a b xs,x=.ref a/\y=.ref b/\il X.K H a xs/\il X.K H b []/\Q (.bl (!xs.isEmpty)) H):=by
 intro pins s σ H x y v u Q I rx ry h
 obtain⟨a,b,xs,rfl,rfl,h1,h2,q⟩:=h
 cases (show v=Value.ref a from rx)
 cases (show u=Value.ref b from ry)
 obtain⟨bA,v1,p1,_⟩:=I.list h1
 obtain⟨its',v2,p2,_⟩:=I.list h2
 cases v2
 cases xs with
 |nil=>
  cases v1
  exact(RcNeAt.lists (e:=fun _=>true) p1.isList p2.isList rfl (by lia) (fun j h1=>absurd h1 (by simp))) _ _ _ _ ⟨.bl false,H,I,rfl,q⟩
 |cons z zs=>
  cases v1
  exact(RcNeAt.lists_lengths p1.isList p2.isList (by simp) (by lia)) _ _ _ _ ⟨.bl true,H,I,rfl,q⟩
end L2
namespace PM
end PM
namespace L2
open PySem
end L2
namespace L2
open PySem
end L2
namespace L2
open PySem
end L2
namespace L2
open PySem
def cy (val:W->Int):PM.Tr->Int
 |.num n=>n
 |.box x=>val x
 |.bin o l r=>if o=[43] then cy val l+cy val r else if o=[45] then cy val l-cy val r else cy val l*cy val r
def names3:List W:=[[97],[98,98],[99]]
structure V3(aP:List (Key×V))(val:W->Int):Prop where
 yes:∀x∈names3,cH aP (Sum.inr (S x))=some (.int (val x))
 no:∀x,x ∉ names3->cH aP (Sum.inr (S x))=none
 small:∀x,(val x).natAbs<=2 ^ 60
section
variable(K:PySem.W.Frag)
end
end L2
namespace L2
open PySem PySem.Spec PyProof.Rows
end L2
namespace L2
open PySem
end L2
namespace L2
open PySem
theorem iy{K:PySem.W.Frag}{tl:TE}{g:TG}{tb:TS}{D:Ends}{σ:St}{H:Hp} (h:∀U:Addr->Hp->Prop,(∀a H1,(∃W:Nat->Nat->St->Hp->Prop,(∃m,W 0 m σ H1)/\∀i m σ H,W i m σ H->
 ((GR K a).stop i H/\D.nx σ H)\/((GR K a).go i H/\∃N:St->Hp->Prop,(∀σ' H',N σ' H'->∃m',m'<m/\W (i+1) m' σ' H')/\∀x H',(GR K a).KJ i H x H'->g x σ H' fun σ2 H2=>tb {D with nx:=N,ct:=N,bk:=D.nx} σ2 H2))->U a H1)->
 tl σ H fun x H1=>∃a,x=.ref a/\(∃xs,il K H1 a xs)/\U a H1):Lg (DQ K tl) g tb D σ H:=h _ fun _ _ x=>x
end L2
namespace PM
end PM
namespace L2
open PySem
end L2
namespace L2
open PySem
def Tok (p:W):Prop:=p=[40]\/p=[41]\/p∈PM.CK\/(PM.VX p=true/\(PM.isName p=true->p∈names3))
end L2
namespace L2
open PySem
theorem Es{a:Option V}{r:St}{H:Hp}{Q:VK}:(g9 10 (a::r) H Q)=(g9 9 r H Q):=rfl
theorem Et{a:Option V}{r:St}{H:Hp}{Q:VK}:(g9 11 (a::r) H Q)=(g9 10 r H Q):=rfl
theorem Eu{a:Option V}{r:St}{H:Hp}{Q:VK}:(g9 12 (a::r) H Q)=(g9 11 r H Q):=rfl
def NoS (z:Str):Prop:=PM.VY z.cps.toList
section
variable(K:PySem.W.Frag)
end
end L2
namespace L2
open PySem PySem.SeqAt
end L2
namespace L2
open PySem
end L2
namespace L2
open PySem
end L2
namespace PG
open PM (W Tr)
structure fV where
 name:W
 size:Int
 first:Int
inductive bF where
 |ask (k:Int) (b:W)
 |put (k:Int) (b:W) (e:Tr)
 |say (k:Int) (e:Tr)
 |b8 (k:Int) (sg:W) (l r:Tr)
 |stop (k:Int)
 |ifs (k:Int) (sg:W) (l r:Tr) (a b:List bF)
 |fe (k:Int) (sg:W) (l r:Tr) (a:List bF)
def bF.row:bF->Int
 |.ask k _=>k |.put k _ _=>k |.say k _=>k |.b8 k _ _ _=>k |.stop k=>k |.ifs k _ _ _ _ _=>k |.fe k _ _ _ _=>k
inductive Wd where
 |ask |put |say |b8 |stop |ifs |fe |nN |fin
 deriving DecidableEq
def bF.wd:bF->Wd
 |.ask _ _=>.ask |.put _ _ _=>.put |.say _ _=>.say |.b8 _ _ _ _=>.b8 |.stop _=>.stop |.ifs _ _ _ _ _ _=>.ifs |.fe _ _ _ _ _=>.fe
def AX:Nat->Int->Int
 |0,c=>c
 |n+1,c=>AX n (c/1000003)
def next (sc:List Int) (p:Nat):Int:=
 let many:=max 1 sc.length
 let cell:=if sc=[] then 0 else sc.getD (p%many) 0
 if cell ≥ 10 ^ 18 then AX (min 60 (p/many)) cell%1000003 else
  let a:=(cell%2147483629+51437*((p:Int)+1)*((p:Int)+3)+1409)%2147483629
  let b:=a*a%2147483587
  let c:=(b*69621+401*(p:Int)+7)%2147483579
  c*c%2147483563/16
def pick {α:Type} (d:α) (l:List α) (n:Int):α:=l.getD n.toNat d
def cC (sc:List Int) (bs:List fV):Nat->Nat->Tr×Nat
 |0,p=>
  let kind:=next sc p%7
  if bs≠[]/\kind<5 then (.box (pick ⟨[],0,0⟩ bs (next sc (p+1)%bs.length)).name,p+2) else (.num (next sc (p+1)%pick 1 [3,12,1000] (next sc (p+2)%3)),p+3)
 |d+1,p=>
  let kind:=next sc p%7
  if kind<3 then
   let one:=cC sc bs d (p+1)
   let two:=cC sc bs d one.2
   (.bin (pick [] [[43],[45],[42]] kind) one.1 two.1,two.2)
  else if bs≠[]/\kind<5 then (.box (pick ⟨[],0,0⟩ bs (next sc (p+1)%bs.length)).name,p+2) else (.num (next sc (p+1)%pick 1 [3,12,1000] (next sc (p+2)%3)),p+3)
def c7:List W:=[[99],[98,98],[97,97,97],[98,111,120,101,115]]
def bV (sc:List Int) (nJ:Int):Nat->Nat->Nat->List fV×Nat
 |0,_,p=>([],p)
 |n+1,k,p=>
  let size:=2+next sc p%3
  let r:=bV sc nJ n (k+1) (p+2)
  (⟨pick [] c7 (((k:Int)-nJ)%4),size,next sc (p+1)%size⟩::r.1,r.2)
def ze:List W:=[[60],[61]]
def bY (sc:List Int) (bs:List fV) (k:Int) (p:Nat):bF×Nat:=
 let kind:=next sc p%10
 if bs≠[]/\kind<3 then (.ask k (pick ⟨[],0,0⟩ bs (next sc (p+1)%bs.length)).name,p+2)
 else if bs≠[]/\kind<6 then
  let e:=cC sc bs 2 (p+2)
  (.put k (pick ⟨[],0,0⟩ bs (next sc (p+1)%bs.length)).name e.1,e.2)
 else if kind=6 then
  let l:=cC sc bs 1 (p+2)
  let r:=cC sc bs 1 l.2
  (.b8 k (pick [] ze (next sc (p+1)%2)) l.1 r.1,r.2)
 else if kind=7 then
  if next sc (p+1)%3=0 then (.stop k,p+2) else
   let e:=cC sc bs 2 (p+2)
   (.say k e.1,e.2)
 else
  let e:=cC sc bs 2 (p+1)
  (.say k e.1,e.2)
structure Frame where
 kind:Nat
 body:List bF
 k:Int:=0
 sg:W:=[]
 l:Tr:=.num 0
 r:Tr:=.num 0
 first:List bF:=[]
def Frame.told (f:Frame):bF:=if f.kind=1 then .ifs f.k f.sg f.l f.r f.body [] else if f.kind=2 then .ifs f.k f.sg f.l f.r f.first f.body else .fe f.k f.sg f.l f.r f.body
def close:List Frame->List Frame
 |f::g::r=>{g with body:=g.body++[f.told]}::r
 |fs=>fs
abbrev Row:=Int×Wd
def number (n:Nat) (rows:List Row) (mode:Int):Int:=
 if mode=2 then n+1+20*rows.length else if mode=3 then n+1+(rows.filter fun r=>r.2≠.nN/\r.2≠.fin).length else n+1+rows.length
structure Walk where
 p:Nat
 a8:List Frame
 rows:List Row
def turn (sc:List Int) (bs:List fV) (mode:Int) (w:Walk):Walk:=
 let k:=number bs.length w.rows mode
 let way:=next sc w.p%12
 if way<2/\w.a8.length>1 then ⟨w.p+1,close w.a8,w.rows++[(k,.fin)]⟩
 else match w.a8 with
 |[]=>w
 |f::r=>
  if way=2/\f.kind=1 then ⟨w.p+1,{f with kind:=2,body:=[],first:=f.body}::r,w.rows++[(k,.nN)]⟩
  else if way<6/\w.a8.length<4 then
   let l:=cC sc bs 1 (w.p+2)
   let e:=cC sc bs 1 l.2
   let kd:=pick 1 [1,1,3] (way%3)
   ⟨e.2,{kind:=kd,body:=[],k:=k,sg:=pick [] ze (next sc (w.p+1)%2),l:=l.1,r:=e.1}::w.a8,w.rows++[(k,if kd=3 then .fe else .ifs)]⟩
  else
   let s:=bY sc bs k (w.p+1)
   ⟨s.2,{f with body:=f.body++[s.1]}::r,w.rows++[(k,s.1.wd)]⟩
def turns (sc:List Int) (bs:List fV) (mode:Int):Nat->Walk->Walk
 |0,w=>w
 |n+1,w=>turns sc bs mode n (turn sc bs mode w)
def ends (n:Nat) (mode:Int):Nat->Walk->Walk
 |0,w=>w
 |m+1,w=>if w.a8.length>1 then ends n mode m ⟨w.p,close w.a8,w.rows++[(number n w.rows mode,.fin)]⟩ else w
structure Prog where
 aC:List fV
 body:List bF
def cb (sc:List Int) (many:Nat) (p:Nat):Prog×List Row:=
 let bs:=bV sc (next sc p%4) (next sc (p+1)%4).toNat 0 (p+2)
 let w:=ends bs.1.length (next sc bs.2%4) 4 (turns sc bs.1 (next sc bs.2%4) many ⟨bs.2+1,[{kind:=0,body:=[]}],[]⟩)
 (⟨bs.1,(w.a8.head?.map (·.body)).getD []⟩,w.rows)
end PG
namespace PG
open PM (W Tr)
mutual
def d9:bF->List Row
 |.ifs k _ _ _ a b=>(k,.ifs)::(b7 a++b7 b)
 |.fe k _ _ _ a=>(k,.fe)::b7 a
 |.ask k _=>[(k,.ask)]
 |.put k _ _=>[(k,.put)]
 |.say k _=>[(k,.say)]
 |.b8 k _ _ _=>[(k,.b8)]
 |.stop k=>[(k,.stop)]
def b7:List bF->List Row
 |[]=>[]
 |s::r=>d9 s++b7 r
end
theorem uc:∀a b:List bF,b7 (a++b)=b7 a++b7 b
 |[],b=>by simp[b7]
 |s::r,b=>by
  show b7 (s::(r++b))=_
  rw[b7,b7,uc r b,List.append_assoc]
def Frame.flat (f:Frame):List Row:=(if f.kind=0 then [] else [(f.k,if f.kind=3 then Wd.fe else .ifs)])++(if f.kind=2 then b7 f.first else [])++b7 f.body
def dc:List Frame->List Row
 |[]=>[]
 |f::r=>dc r++f.flat
def plainRow (r:Row):Bool:=decide (r.2≠.nN/\r.2≠.fin)
def oh:List Frame->Prop
 |[]=>False
 |[f]=>f.kind=0
 |f::g::r=>(f.kind=1\/f.kind=2\/f.kind=3)/\oh (g::r)
theorem FK{f:Frame}(h:f.kind=1\/f.kind=2\/f.kind=3):d9 f.told=f.flat:=by
 rcases h with h |h |h<;>simp[Frame.told,Frame.flat,h,d9,b7]
theorem mE:∀ {l:List Frame},oh l->dc (close l)=dc l
 |[],h=>h.elim
 |[f],_=>rfl
 |f::g::r,h=>by
  have e:=FK h.1
  show dc r++Frame.flat _=dc r++g.flat++f.flat
  simp only[Frame.flat,uc,b7,e,List.append_nil]
  simp[Frame.flat]
theorem om:∀ {l:List Frame},oh l->oh (close l)/\(close l).length=max 1 (l.length-1)
 |[],h=>h.elim
 |[f],h=>⟨h,rfl⟩
 |[f,g],h=>⟨h.2,rfl⟩
 |f::g::x::r,h=>⟨⟨h.2.1,h.2.2⟩,by simp[close]⟩
theorem ID(sc:List Int)(bs:List fV)(k:Int)(p:Nat):d9 (bY sc bs k p).1=[(k,(bY sc bs k p).1.wd)]/\(bY sc bs k p).1.wd≠.nN/\(bY sc bs k p).1.wd≠.fin:=by
 unfold bY
 simp only
 split
 ·simp[d9,bF.wd]
 ·split
  ·simp[d9,bF.wd]
  ·split
   ·simp[d9,bF.wd]
   ·split
    ·split<;>simp[d9,bF.wd]
    ·simp[d9,bF.wd]
structure dH(w:Walk):Prop where
 a8:oh w.a8
 flat:dc w.a8=w.rows.filter plainRow
 most:w.a8.length<=4
theorem rZ(sc:List Int)(bs:List fV)(mode:Int){w:Walk}(h:dH w):dH (turn sc bs mode w):=by
 obtain⟨p,a8,rows⟩:=w
 obtain⟨h1,h2,h3⟩:=h
 simp only at h1 h2 h3
 unfold turn
 simp only
 split
 ·obtain⟨a,b⟩:=om h1
  refine⟨a,?_,?_⟩
  ·show dc (close a8)=_
   rw[mE h1,h2,List.filter_append]
   simp[plainRow]
  ·show (close a8).length<=4
   lia
 ·cases a8 with
  |nil=>exact h1.elim
  |cons f r=>
   simp only
   split
   ·rename_i hc
    obtain⟨_,hk⟩:=hc
    refine⟨?_,?_,h3⟩
    ·cases r with
     |nil=>rw[oh] at h1;lia
     |cons g r=>exact⟨.inr (.inl rfl),h1.2⟩
    ·show dc r++_=_
     rw[List.filter_append,<- h2]
     simp[dc,Frame.flat,plainRow,b7,hk]
   ·split
    ·rename_i hc
     have kk:∀n:Int,pick 1 [1,1,3] n=1\/pick 1 [1,1,3] n=3:=fun n=>by
      unfold pick
      rcases n.toNat with _ |_ |_ |m<;>simp
     have Se:=kk (next sc p%12%3)
     generalize pick 1 [1,1,3] (next sc p%12%3)=kd at Se ⊢
     refine⟨⟨?_,h1⟩,?_,?_⟩
     ·simp only;lia
     ·show dc (f::r)++_=_
      rw[List.filter_append,h2]
      rcases Se with rfl |rfl<;>simp[Frame.flat,plainRow,b7]
     ·simp only[List.length_cons] at hc ⊢
      lia
    ·obtain⟨a,b,c⟩:=ID sc bs (number bs.length rows mode) (p+1)
     refine⟨?_,?_,h3⟩
     ·cases r with
      |nil=>exact h1
      |cons g r=>exact⟨h1.1,h1.2⟩
     ·show dc r++_=_
      rw[List.filter_append,<- h2]
      simp[dc,Frame.flat,uc,b7,a,plainRow,b,c]
theorem r9(sc:List Int)(bs:List fV)(mode:Int):∀(n:Nat) {w:Walk},dH w->dH (turns sc bs mode n w)
 |0,_,h=>h
 |n+1,_,h=>r9 sc bs mode n (rZ sc bs mode h)
theorem zf(n:Nat)(mode:Int):∀(m:Nat) {w:Walk},dH w->w.a8.length<=m+1->dH (ends n mode m w)/\(ends n mode m w).a8.length=1
 |0,w,h,hl=>by
  have:w.a8≠[]:=fun e=>by have:=h.a8;rw[e] at this;exact this
  have:0<w.a8.length:=List.length_pos_iff.mpr this
  exact⟨h,by show w.a8.length=1;lia⟩
 |m+1,w,h,hl=>by
  unfold ends
  split
  ·obtain⟨a,b⟩:=om h.a8
   refine zf n mode m ⟨a,?_,?_⟩ ?_
   ·show dc (close w.a8)=_
    rw[mE h.a8,h.flat,List.filter_append]
    simp[plainRow]
   ·show (close w.a8).length<=4
    have:=h.most
    lia
   ·show (close w.a8).length<=_
    lia
  ·have:w.a8≠[]:=fun e=>by have:=h.a8;rw[e] at this;exact this
   have:0<w.a8.length:=List.length_pos_iff.mpr this
   exact⟨h,by lia⟩
theorem x9(sc:List Int)(many p:Nat):b7 (cb sc many p).1.body=(cb sc many p).2.filter plainRow:=by
 unfold cb
 simp only
 generalize bV sc (next sc p%4) (next sc (p+1)%4).toNat 0 (p+2)=bs
 have h0:dH ⟨bs.2+1,[{kind:=0,body:=[]}],[]⟩:=⟨rfl,rfl,by simp⟩
 have h1:=r9 sc bs.1 (next sc bs.2%4) many h0
 obtain⟨h2,h3⟩:=zf bs.1.length (next sc bs.2%4) 4 h1 (by have:=h1.most;lia)
 generalize ends bs.1.length (next sc bs.2%4) 4 (turns sc bs.1 (next sc bs.2%4) many ⟨bs.2+1,[{kind:=0,body:=[]}],[]⟩)=w at h2 h3
 obtain⟨pp,a8,rows⟩:=w
 obtain⟨f,rfl⟩:∃f,a8=[f]:=List.length_eq_one_iff.mp h3
 have hk:f.kind=0:=h2.a8
 have:=h2.flat
 simp[dc,Frame.flat,hk] at this
 simpa using this
end PG
namespace PG
open PM (W Tr)
abbrev dQ:=Int×Wd×List Int
def bg:List bF->Int->Int
 |[],x=>x
 |s::_,_=>s.row
mutual
def dI:bF->Int->List dQ
 |.ifs k _ _ _ a b,x=>(k,.ifs,[bg a x,bg b x])::(aS a x++aS b x)
 |.fe k _ _ _ a,x=>(k,.fe,[bg a k,x])::aS a k
 |.ask k _,x=>[(k,.ask,[x])]
 |.put k _ _,x=>[(k,.put,[x])]
 |.say k _,x=>[(k,.say,[x])]
 |.b8 k _ _ _,x=>[(k,.b8,[x])]
 |.stop k,_=>[(k,.stop,[0])]
def aS:List bF->Int->List dQ
 |[],_=>[]
 |s::r,x=>dI s (bg r x)++aS r x
end
mutual
theorem FN:∀(s:bF) (x:Int),(dI s x).map (fun r=>(r.1,r.2.1))=d9 s
 |.ifs k _ _ _ a b,x=>by simp[dI,d9,c9 a x,c9 b x]
 |.fe k _ _ _ a,x=>by simp[dI,d9,c9 a k]
 |.ask k _,x=>rfl
 |.put k _ _,x=>rfl
 |.say k _,x=>rfl
 |.b8 k _ _ _,x=>rfl
 |.stop k,_=>rfl
theorem c9:∀(b:List bF) (x:Int),(aS b x).map (fun r=>(r.1,r.2.1))=b7 b
 |[],_=>rfl
 |s::r,x=>by simp[aS,b7,FN s _,c9 r x]
end
inductive Tg where
 |row (k:Int) |side (k:Int) (b:Bool) |b8 (k:Int) |fin
 deriving DecidableEq
def QL (r:Row):List Tg:=(if plainRow r then [.row r.1] else [])++(if r.2=.ifs\/r.2=.fe then [.side r.1 true,.side r.1 false] else [])++(if r.2=.b8 then [.b8 r.1] else [])
def IE (rows:List Row):List Tg:=rows.flatMap QL++[.fin]
theorem jA(sc:List Int)(bs:List fV):∀(d p:Nat),p<=(cC sc bs d p).2/\(cC sc bs d p).2+1<=p+4*2 ^ d
 |0,p=>by
  unfold cC
  simp only
  split<;>simp only<;>lia
 |d+1,p=>by
  have e:(2:Nat) ^ (d+1)=2*2 ^ d:=by rw[Nat.pow_succ];lia
  have one:1<=2 ^ d:=Nat.one_le_two_pow
  unfold cC
  simp only
  rw[e]
  split
  ·obtain⟨a1,a2⟩:=jA sc bs d (p+1)
   obtain⟨b1,b2⟩:=jA sc bs d (cC sc bs d (p+1)).2
   simp only
   lia
  ·split<;>simp only<;>lia
theorem CO(sc:List Int)(bs:List fV)(k:Int)(p:Nat):p<=(bY sc bs k p).2/\(bY sc bs k p).2<=p+18:=by
 have e1:=fun q=>jA sc bs 1 q
 have e2:=fun q=>jA sc bs 2 q
 unfold bY
 simp only
 split
 ·simp only;lia
 ·split
  ·have:=e2 (p+2);simp only;lia
  ·split
   ·have h1:=e1 (p+2)
    have h2:=e1 (cC sc bs 1 (p+2)).2
    simp only;lia
   ·split
    ·split
     ·simp only;lia
     ·have:=e2 (p+2);simp only;lia
    ·have:=e2 (p+1);simp only;lia
theorem O5(sc:List Int)(bs:List fV)(mode:Int)(w:Walk):w.p<=(turn sc bs mode w).p/\(turn sc bs mode w).p<=w.p+20:=by
 have e1:=fun q=>jA sc bs 1 q
 have e2:=fun k q=>CO sc bs k q
 obtain⟨p,a8,rows⟩:=w
 unfold turn
 simp only
 split
 ·simp only;lia
 ·cases a8 with
  |nil=>simp only;lia
  |cons f r=>
   simp only
   split
   ·simp only;lia
   ·split
    ·have h1:=e1 (p+2)
     have h2:=e1 (cC sc bs 1 (p+2)).2
     simp only;lia
    ·have:=e2 (number bs.length rows mode) (p+1)
     simp only;lia
theorem iW(sc:List Int)(p:Nat):0<=next sc p/\next sc p<2 ^ 28:=by
 unfold next
 simp only
 split
 ·have a:=Int.emod_nonneg (AX (min 60 (p/max 1 sc.length)) (if sc=[] then 0 else sc.getD (p%max 1 sc.length) 0)) (show (1000003:Int)≠0 by decide)
  have b:=Int.emod_lt_of_pos (AX (min 60 (p/max 1 sc.length)) (if sc=[] then 0 else sc.getD (p%max 1 sc.length) 0)) (show (0:Int)<1000003 by decide)
  lia
 ·generalize (((((if sc=[] then 0 else sc.getD (p%max 1 sc.length) 0)%2147483629+51437*((p:Int)+1)*((p:Int)+3)+1409)%2147483629)*(((if sc=[] then 0 else sc.getD (p%max 1 sc.length) 0)%2147483629+51437*((p:Int)+1)*((p:Int)+3)+1409)%2147483629)%2147483587*69621+401*(p:Int)+7)%2147483579)=c
  have a:=Int.emod_nonneg (c*c) (show (2147483563:Int)≠0 by decide)
  have b:=Int.emod_lt_of_pos (c*c) (show (0:Int)<2147483563 by decide)
  lia
theorem oo(sc:List Int)(bs:List fV)(k:Int)(p:Nat):PG.bY sc bs k p =
 if bs≠[]/\next sc p%10<3 then (.ask k (pick ⟨[],0,0⟩ bs (next sc (p+1)%bs.length)).name,p+2)
 else if bs≠[]/\next sc p%10<6 then (.put k (pick ⟨[],0,0⟩ bs (next sc (p+1)%bs.length)).name (cC sc bs 2 (p+2)).1,(cC sc bs 2 (p+2)).2)
 else if next sc p%10=6 then (.b8 k (pick [] ze (next sc (p+1)%2)) (cC sc bs 1 (p+2)).1 (cC sc bs 1 (cC sc bs 1 (p+2)).2).1,(cC sc bs 1 (cC sc bs 1 (p+2)).2).2)
 else if next sc p%10=7 then (if next sc (p+1)%3=0 then (.stop k,p+2) else (.say k (cC sc bs 2 (p+2)).1,(cC sc bs 2 (p+2)).2))
 else (.say k (cC sc bs 2 (p+1)).1,(cC sc bs 2 (p+1)).2):=rfl
end PG
namespace PG
open PM (W Tr)
mutual
def eS:bF->List Row->Prop
 |.ifs k _ _ _ a b,rs=>(∃ra n,cG a ra/\b=[]/\rs=(k,.ifs)::(ra++[(n,.fin)]))\/(∃ra rb n m,cG a ra/\cG b rb/\rs=(k,.ifs)::(ra++(n,.nN)::(rb++[(m,.fin)])))
 |.fe k _ _ _ a,rs=>∃ra n,cG a ra/\rs=(k,.fe)::(ra++[(n,.fin)])
 |.ask k _,rs=>rs=[(k,.ask)]
 |.put k _ _,rs=>rs=[(k,.put)]
 |.say k _,rs=>rs=[(k,.say)]
 |.b8 k _ _ _,rs=>rs=[(k,.b8)]
 |.stop k,rs=>rs=[(k,.stop)]
def cG:List bF->List Row->Prop
 |[],rs=>rs=[]
 |s::r,rs=>∃r1 r2,eS s r1/\cG r r2/\rs=r1++r2
end
theorem cG.app:∀ {a b:List bF} {ra rb:List Row},cG a ra->cG b rb->cG (a++b) (ra++rb)
 |[],b,ra,rb,h,h'=>by
  rw[cG] at h
  subst h
  exact h'
 |s::r,b,ra,rb,h,h'=>by
  rw[cG] at h
  obtain⟨r1,r2,h1,h2,rfl⟩:=h
  rw[List.cons_append,cG]
  exact⟨r1,r2++rb,h1,cG.app h2 h',by rw[List.append_assoc]⟩
theorem cG.one{s:bF}{rs:List Row}(h:eS s rs):cG [s] rs:=by
 rw[cG]
 exact⟨rs,[],h,by rw[cG],by simp⟩
theorem cG.nil:cG [] []:=by rw[cG]
def lF (f:Frame) (rs:List Row):Prop:=
 (f.kind=0/\cG f.body rs)\/(f.kind=1/\∃rb,cG f.body rb/\rs=(f.k,.ifs)::rb)\/
 (f.kind=2/\∃rf rb n,cG f.first rf/\cG f.body rb/\rs=(f.k,.ifs)::(rf++(n,.nN)::rb))\/(f.kind=3/\∃rb,cG f.body rb/\rs=(f.k,.fe)::rb)
def bW:List Frame->List Row->Prop
 |[],rs=>rs=[]
 |f::r,rs=>∃r1 r2,bW r r1/\lF f r2/\rs=r1++r2
theorem FO{f:Frame}{rs:List Row}(hk:f.kind=1\/f.kind=2\/f.kind=3)(h:lF f rs)(n:Int):eS f.told (rs++[(n,.fin)]):=by
 rcases h with ⟨h0,_⟩ |⟨h1,rb,t,rfl⟩ |⟨h2,rf,rb,m,t1,t2,rfl⟩ |⟨h3,rb,t,rfl⟩
 ·lia
 ·unfold Frame.told
  rw[if_pos h1,eS]
  exact .inl ⟨rb,n,t,rfl,rfl⟩
 ·unfold Frame.told
  rw[if_neg (by lia),if_pos h2,eS]
  exact .inr ⟨rf,rb,m,n,t1,t2,by simp⟩
 ·unfold Frame.told
  rw[if_neg (by lia),if_neg (by lia),eS]
  exact⟨rb,n,t,rfl⟩
theorem lF.more{f:Frame}{rs t:List Row}{b:List bF}(h:lF f rs)(ht:cG b t):lF {f with body:=f.body++b} (rs++t):=by
 rcases h with ⟨h0,x⟩ |⟨h1,rb,x,rfl⟩ |⟨h2,rf,rb,m,t1,x,rfl⟩ |⟨h3,rb,x,rfl⟩
 ·exact .inl ⟨h0,x.app ht⟩
 ·exact .inr (.inl ⟨h1,rb++t,x.app ht,rfl⟩)
 ·exact .inr (.inr (.inl ⟨h2,rf,rb++t,m,t1,x.app ht,by simp⟩))
 ·exact .inr (.inr (.inr ⟨h3,rb++t,x.app ht,rfl⟩))
theorem vX{l:List Frame}{rs:List Row}(hp:oh l)(hl:1<l.length)(h:bW l rs)(n:Int):bW (close l) (rs++[(n,.fin)]):=by
 match l,hp,hl,h with
 |f::g::r,hp,_,h=>
  rw[bW] at h
  obtain⟨r1,r2,h1,h2,rfl⟩:=h
  rw[bW] at h1
  obtain⟨r3,r4,h3,h4,rfl⟩:=h1
  show bW ({g with body:=g.body++[f.told]}::r) _
  rw[bW]
  exact⟨r3,r4++(r2++[(n,.fin)]),h3,h4.more (.one (FO hp.1 h2 n)),by simp⟩
theorem plain_text(sc:List Int)(bs:List fV)(k:Int)(p:Nat):eS (bY sc bs k p).1 [(k,(bY sc bs k p).1.wd)]:=by
 unfold bY
 simp only
 split
 ·simp[eS,bF.wd]
 ·split
  ·simp[eS,bF.wd]
  ·split
   ·simp[eS,bF.wd]
   ·split
    ·split<;>simp[eS,bF.wd]
    ·simp[eS,bF.wd]
theorem FP(sc:List Int)(bs:List fV)(mode:Int){w:Walk}(ok:dH w)(h:bW w.a8 w.rows):bW (turn sc bs mode w).a8 (turn sc bs mode w).rows:=by
 obtain⟨p,a8,rows⟩:=w
 have h1:=ok.a8
 simp only at h h1
 unfold turn
 simp only
 split
 ·rename_i hc
  exact vX h1 hc.2 h _
 ·cases a8 with
  |nil=>exact h1.elim
  |cons f r=>
   simp only
   split
   ·rename_i hc
    rw[bW] at h
    obtain⟨r1,r2,x1,x2,rfl⟩:=h
    show bW ({f with kind:=2,body:=[],first:=f.body}::r) _
    rw[bW]
    rcases x2 with ⟨z,_⟩ |⟨_,rb,t,rfl⟩ |⟨z,_⟩ |⟨z,_⟩
    ·lia
    ·exact⟨r1,_,x1,.inr (.inr (.inl ⟨rfl,rb,[],number bs.length (r1++(f.k,.ifs)::rb) mode,t,.nil,rfl⟩)),by simp⟩
    ·lia
    ·lia
   ·split
    ·have kk:∀n:Int,pick 1 [1,1,3] n=1\/pick 1 [1,1,3] n=3:=fun n=>by
      unfold pick
      rcases n.toNat with _ |_ |_ |m<;>simp
     have Se:=kk (next sc p%12%3)
     generalize pick 1 [1,1,3] (next sc p%12%3)=kd at Se ⊢
     show bW ({kind:=kd,body:=[],k:=number bs.length rows mode,sg:=_,l:=_,r:=_}::f::r) _
     rw[bW]
     rcases Se with rfl |rfl
     ·exact⟨rows,_,h,.inr (.inl ⟨rfl,[],.nil,rfl⟩),rfl⟩
     ·exact⟨rows,_,h,.inr (.inr (.inr ⟨rfl,[],.nil,rfl⟩)),rfl⟩
    ·rw[bW] at h
     obtain⟨r1,r2,x1,x2,rfl⟩:=h
     show bW ({f with body:=f.body++[_]}::r) _
     rw[bW]
     exact⟨r1,_,x1,x2.more (.one (plain_text sc bs _ (p+1))),by simp⟩
theorem vY(sc:List Int)(bs:List fV)(mode:Int):∀(n:Nat) {w:Walk},dH w->bW w.a8 w.rows->bW (turns sc bs mode n w).a8 (turns sc bs mode n w).rows
 |0,_,_,h=>h
 |n+1,_,ok,h=>vY sc bs mode n (rZ sc bs mode ok) (FP sc bs mode ok h)
theorem yb(n:Nat)(mode:Int):∀(m:Nat) {w:Walk},dH w->bW w.a8 w.rows->bW (ends n mode m w).a8 (ends n mode m w).rows
 |0,_,_,h=>h
 |m+1,w,ok,h=>by
  unfold ends
  split
  ·rename_i hl
   obtain⟨a,b⟩:=om ok.a8
   refine yb n mode m ⟨a,?_,?_⟩ (vX ok.a8 hl h _)
   ·show dc (close w.a8)=_
    rw[mE ok.a8,ok.flat,List.filter_append]
    simp[plainRow]
   ·show (close w.a8).length<=4
    have:=ok.most
    lia
  ·exact h
theorem FQ(sc:List Int)(many p:Nat):cG (cb sc many p).1.body (cb sc many p).2:=by
 unfold cb
 simp only
 generalize bV sc (next sc p%4) (next sc (p+1)%4).toNat 0 (p+2)=bs
 have h0:dH ⟨bs.2+1,[{kind:=0,body:=[]}],[]⟩:=⟨rfl,rfl,by simp⟩
 have t0:bW [{kind:=0,body:=[]}] []:=by
  rw[bW]
  exact⟨[],[],by rw[bW],.inl ⟨rfl,.nil⟩,rfl⟩
 have h1:=r9 sc bs.1 (next sc bs.2%4) many h0
 have t1:=vY sc bs.1 (next sc bs.2%4) many h0 t0
 obtain⟨h2,h3⟩:=zf bs.1.length (next sc bs.2%4) 4 h1 (by have:=h1.most;lia)
 have t2:=yb bs.1.length (next sc bs.2%4) 4 h1 t1
 generalize ends bs.1.length (next sc bs.2%4) 4 (turns sc bs.1 (next sc bs.2%4) many ⟨bs.2+1,[{kind:=0,body:=[]}],[]⟩)=w at h2 h3 t2
 obtain⟨pp,a8,rows⟩:=w
 obtain⟨f,rfl⟩:∃f,a8=[f]:=List.length_eq_one_iff.mp h3
 have hk:f.kind=0:=h2.a8
 simp only at t2
 rw[bW] at t2
 obtain⟨r1,r2,x1,x2,rfl⟩:=t2
 rw[bW] at x1
 subst x1
 rcases x2 with ⟨_,t⟩ |⟨z,_⟩ |⟨z,_⟩ |⟨z,_⟩
 ·simpa using t
 ·lia
 ·lia
 ·lia
def ou (n:Nat) (w:Walk):Prop:=(∀f∈w.a8,f.body.length<=n)/\w.rows.length<=n
theorem AY(sc:List Int)(bs:List fV)(mode:Int){n:Nat}{w:Walk}(h:ou n w):ou (n+1) (turn sc bs mode w):=by
 obtain⟨p,a8,rows⟩:=w
 obtain⟨h1,h2⟩:=h
 simp only at h1 h2
 have up:∀f∈a8,f.body.length<=n+1:=fun f hf=>Nat.le_succ_of_le (h1 f hf)
 have cl:∀l:List Frame,(∀f∈l,f.body.length<=n)->∀f∈close l,f.body.length<=n+1:=by
  intro l hl f hf
  match l,hl,hf with
  |[],_,hf=>cases hf
  |[x],hl,hf=>exact Nat.le_succ_of_le (hl f hf)
  |x::y::r,hl,hf=>
   rcases List.mem_cons.mp hf with rfl |hf
   ·simp
    have:=hl y (by simp)
    lia
   ·exact Nat.le_succ_of_le (hl f (by simp[hf]))
 unfold turn
 simp only
 split
 ·exact⟨cl a8 h1,by simp;lia⟩
 ·cases a8 with
  |nil=>exact⟨up,by simp only;lia⟩
  |cons f r=>
   simp only
   split
   ·refine⟨fun x hx=>?_,by simp;lia⟩
    rcases List.mem_cons.mp hx with rfl |hx
    ·simp
    ·exact up x (by simp[hx])
   ·split
    ·refine⟨fun x hx=>?_,by simp;lia⟩
     rcases List.mem_cons.mp hx with rfl |hx
     ·simp
     ·exact up x hx
    ·refine⟨fun x hx=>?_,by simp;lia⟩
     rcases List.mem_cons.mp hx with rfl |hx
     ·have:=h1 f (by simp)
      simp
      lia
     ·exact up x (by simp[hx])
theorem vZ(sc:List Int)(bs:List fV)(mode:Int):∀(n:Nat) (w:Walk),turns sc bs mode (n+1) w=turn sc bs mode (turns sc bs mode n w)
 |0,_=>rfl
 |n+1,w=>vZ sc bs mode n (turn sc bs mode w)
theorem zg(sc:List Int)(bs:List fV)(mode:Int)(p:Nat)(f:Frame)(r:List Frame)(rows:List Row):turn sc bs mode ⟨p,f::r,rows⟩ =
 if next sc p%12<2/\(f::r).length>1 then ⟨p+1,close (f::r),rows++[(number bs.length rows mode,.fin)]⟩
 else if next sc p%12=2/\f.kind=1 then ⟨p+1,{f with kind:=2,body:=[],first:=f.body}::r,rows++[(number bs.length rows mode,.nN)]⟩
 else if next sc p%12<6/\(f::r).length<4 then
  ⟨(cC sc bs 1 (cC sc bs 1 (p+2)).2).2,{kind:=pick 1 [1,1,3] (next sc p%12%3),body:=[],k:=number bs.length rows mode,sg:=pick [] ze (next sc (p+1)%2),l:=(cC sc bs 1 (p+2)).1,r:=(cC sc bs 1 (cC sc bs 1 (p+2)).2).1}::f::r,rows++[(number bs.length rows mode,if pick 1 [1,1,3] (next sc p%12%3)=3 then .fe else .ifs)]⟩
 else ⟨(bY sc bs (number bs.length rows mode) (p+1)).2,{f with body:=f.body++[(bY sc bs (number bs.length rows mode) (p+1)).1]}::r,rows++[(number bs.length rows mode,(bY sc bs (number bs.length rows mode) (p+1)).1.wd)]⟩:=rfl
theorem jP(sc:List Int)(nJ:Int):∀(n k p:Nat),(bV sc nJ n k p).1.length=n/\(bV sc nJ n k p).2=p+2*n
 |0,_,p=>⟨rfl,rfl⟩
 |n+1,k,p=>by
  obtain⟨a,b⟩:=jP sc nJ n (k+1) (p+2)
  unfold bV
  simp only[List.length_cons]
  exact⟨by rw[a],by rw[b];lia⟩
theorem v9{w:Walk}(ok:dH w)(k:Int):dH ⟨w.p,close w.a8,w.rows++[(k,.fin)]⟩:=by
 obtain⟨a,b⟩:=om ok.a8
 refine⟨a,?_,?_⟩
 ·show dc (close w.a8)=_
  rw[mE ok.a8,ok.flat,List.filter_append]
  simp[plainRow]
 ·show (close w.a8).length<=4
  have:=ok.most
  lia
theorem yc{n:Nat}{w:Walk}(h:ou n w)(k:Int):ou (n+1) ⟨w.p,close w.a8,w.rows++[(k,.fin)]⟩:=by
 obtain⟨h1,h2⟩:=h
 refine⟨?_,by simp;lia⟩
 intro f hf
 obtain⟨p,a8,rows⟩:=w
 simp only at h1 hf
 match a8,h1,hf with
 |[],_,hf=>cases hf
 |[x],hl,hf=>exact Nat.le_succ_of_le (hl f hf)
 |x::y::r,hl,hf=>
  rcases List.mem_cons.mp hf with rfl |hf
  ·have:=hl y (by simp)
   simp
   lia
  ·exact Nat.le_succ_of_le (hl f (by simp[hf]))
mutual
def kz:bF->Nat
 |.ifs _ _ _ _ a b=>max (fS a) (fS b)+1
 |.fe _ _ _ _ a=>fS a+1
 |_=>0
def fS:List bF->Nat
 |[]=>0
 |s::r=>max (kz s) (fS r)
end
theorem wb:∀a b:List bF,fS (a++b)=max (fS a) (fS b)
 |[],b=>by simp[fS]
 |s::r,b=>by
  show fS (s::(r++b))=_
  rw[fS,fS,wb r b,Nat.max_assoc]
theorem AZ(s:bF):fS [s]=kz s:=by rw[fS,fS];simp
def qf:List Frame->Prop
 |[]=>True
 |f::r=>fS f.body+r.length<=3/\(f.kind=2->fS f.first+r.length<=3)/\qf r
theorem IF{f:Frame}{n:Nat}(h1:fS f.body+n<=3)(h2:f.kind=2->fS f.first+n<=3):kz f.told+n<=4:=by
 unfold Frame.told
 split
 ·rw[kz,fS];simp;lia
 ·split
  ·rename_i h
   rw[kz]
   have:=h2 h
   lia
  ·rw[kz];lia
theorem yd:∀ {l:List Frame},qf l->qf (close l)
 |[],h=>h
 |[f],h=>h
 |f::g::r,h=>by
  obtain⟨h1,h2,h3,h4,h5⟩:=h
  have:=IF h1 h2
  refine⟨?_,h4,h5⟩
  rw[wb,AZ]
  simp only[List.length_cons] at this ⊢
  lia
theorem FR(sc:List Int)(bs:List fV)(k:Int)(p:Nat):kz (bY sc bs k p).1=0:=by
 rw[oo]
 split
 ·simp[kz]
 ·split
  ·simp[kz]
  ·split
   ·simp[kz]
   ·split
    ·split<;>simp[kz]
    ·simp[kz]
theorem IG(sc:List Int)(bs:List fV)(mode:Int){w:Walk}(ok:dH w)(h:qf w.a8):qf (turn sc bs mode w).a8:=by
 obtain⟨p,a8,rows⟩:=w
 simp only at h
 cases a8 with
 |nil=>exact ok.a8.elim
 |cons f r=>
  rw[zg]
  split
  ·exact yd h
  ·obtain⟨h1,h2,h3⟩:=h
   split
   ·exact⟨by rw[fS];lia,fun _=>h1,h3⟩
   ·split
    ·rename_i hc
     refine⟨?_,fun z=>?_,h1,h2,h3⟩
     ·rw[fS]
      have:=hc.2
      simp only[List.length_cons] at this ⊢
      lia
     ·rw[fS]
      have:=hc.2
      simp only[List.length_cons] at this ⊢
      lia
    ·refine⟨?_,h2,h3⟩
     rw[wb,AZ,FR]
     lia
theorem yf(sc:List Int)(bs:List fV)(mode:Int):∀(n:Nat) {w:Walk},dH w->qf w.a8->qf (turns sc bs mode n w).a8
 |0,_,_,h=>h
 |n+1,_,ok,h=>yf sc bs mode n (rZ sc bs mode ok) (IG sc bs mode ok h)
theorem A0(n:Nat)(mode:Int):∀(m:Nat) {w:Walk},qf w.a8->qf (ends n mode m w).a8
 |0,_,h=>h
 |m+1,w,h=>by
  unfold ends
  split
  ·exact A0 n mode m (yd h)
  ·exact h
theorem A1(sc:List Int)(many p:Nat):fS (cb sc many p).1.body<=3:=by
 unfold cb
 simp only
 generalize bV sc (next sc p%4) (next sc (p+1)%4).toNat 0 (p+2)=bs
 have h0:dH ⟨bs.2+1,[{kind:=0,body:=[]}],[]⟩:=⟨rfl,rfl,by simp⟩
 have d0:qf [{kind:=0,body:=[]}]:=⟨by simp[fS],(fun z=>absurd z (show ¬(0=2) by decide)),trivial⟩
 have d2:=A0 bs.1.length (next sc bs.2%4) 4 (yf sc bs.1 (next sc bs.2%4) many h0 d0)
 generalize ends bs.1.length (next sc bs.2%4) 4 (turns sc bs.1 (next sc bs.2%4) many ⟨bs.2+1,[{kind:=0,body:=[]}],[]⟩)=w at d2
 obtain⟨pp,a8,rows⟩:=w
 cases a8 with
 |nil=>simp[fS]
 |cons f r=>
  have:=d2.1
  simp
  lia
end PG
namespace PG
open PM (W Tr)
section
variable(nm:W->Prop)(ex:Tr->Prop)(sg:W->Prop)
mutual
def rE:bF->Prop
 |.ask _ b=>nm b
 |.put _ b e=>nm b/\ex e
 |.say _ e=>ex e
 |.b8 _ s l r=>sg s/\ex l/\ex r
 |.stop _=>True
 |.ifs _ s l r a b=>sg s/\ex l/\ex r/\wc a/\wc b
 |.fe _ s l r a=>sg s/\ex l/\ex r/\wc a
def wc:List bF->Prop
 |[]=>True
 |s::r=>rE s/\wc r
end
def YJ (f:Frame):Prop:=wc nm ex sg f.body/\(f.kind≠0->sg f.sg/\ex f.l/\ex f.r)/\(f.kind=2->wc nm ex sg f.first)
def IH:List Frame->Prop
 |[]=>True
 |f::r=>YJ nm ex sg f/\IH r
end
section
variable{nm:W->Prop}{ex:Tr->Prop}{sg:W->Prop}
theorem zh:∀ {a b:List bF},wc nm ex sg a->wc nm ex sg b->wc nm ex sg (a++b)
 |[],b,_,h=>h
 |s::r,b,h1,h2=>by
  rw[wc] at h1
  show wc nm ex sg (s::(r++b))
  rw[wc]
  exact⟨h1.1,zh h1.2 h2⟩
theorem mF:wc nm ex sg []:=by rw[wc];trivial
theorem Ew{s:bF}(h:rE nm ex sg s):wc nm ex sg [s]:=by rw[wc];exact⟨h,mF⟩
theorem CQ{f:Frame}(h:YJ nm ex sg f)(k:f.kind=1\/f.kind=2\/f.kind=3):rE nm ex sg f.told:=by
 obtain⟨h1,h2,h3⟩:=h
 have h2:=h2 (by lia)
 unfold Frame.told
 split
 ·rw[rE];exact⟨h2.1,h2.2.1,h2.2.2,h1,mF⟩
 ·split
  ·rename_i z
   rw[rE];exact⟨h2.1,h2.2.1,h2.2.2,h3 z,h1⟩
  ·rw[rE];exact⟨h2.1,h2.2.1,h2.2.2,h1⟩
theorem uU:∀ {l:List Frame},oh l->IH nm ex sg l->IH nm ex sg (close l)
 |[],_,h=>h
 |[f],_,h=>h
 |f::g::r,ok,h=>by
  obtain⟨h1,⟨h2,h3,h4⟩,h5⟩:=h
  refine⟨⟨zh h2 (Ew (CQ h1 ?_)),h3,h4⟩,h5⟩
  exact ok.1
section
variable{sc:List Int}{bs:List fV}(Nx:bs≠[]->∀q,nm (pick ⟨[],0,0⟩ bs (next sc q%bs.length)).name)(hex:∀d q,d<=2->ex (cC sc bs d q).1)(II:∀q,sg (pick [] ze (next sc q%2)))
include Nx hex II
theorem A2(k:Int)(p:Nat):rE nm ex sg (bY sc bs k p).1:=by
 rw[oo]
 split
 ·rename_i h;rw[rE];exact Nx h.1 _
 ·split
  ·rename_i h;rw[rE];exact⟨Nx h.1 _,hex _ _ (by decide)⟩
  ·split
   ·rw[rE];exact⟨II _,hex _ _ (by decide),hex _ _ (by decide)⟩
   ·split
    ·split
     ·rw[rE];trivial
     ·rw[rE];exact hex _ _ (by decide)
    ·rw[rE];exact hex _ _ (by decide)
theorem CS(mode:Int){w:Walk}(ok:dH w)(h:IH nm ex sg w.a8):IH nm ex sg (turn sc bs mode w).a8:=by
 obtain⟨p,a8,rows⟩:=w
 simp only at h
 cases a8 with
 |nil=>exact ok.a8.elim
 |cons f r=>
  rw[zg]
  split
  ·exact uU ok.a8 h
  ·obtain⟨⟨h1,h2,h3⟩,h4⟩:=h
   split
   ·rename_i z
    exact⟨⟨mF,fun _=>h2 (by rw[z.2];decide),fun _=>h1⟩,h4⟩
   ·split
    ·exact⟨⟨mF,fun _=>⟨II _,hex _ _ (by decide),hex _ _ (by decide)⟩,fun _=>mF⟩,⟨h1,h2,h3⟩,h4⟩
    ·exact⟨⟨zh h1 (Ew (A2 Nx hex II _ _)),h2,h3⟩,h4⟩
theorem uV(mode:Int):∀(n:Nat) {w:Walk},dH w->IH nm ex sg w.a8->IH nm ex sg (turns sc bs mode n w).a8
 |0,_,_,h=>h
 |n+1,_,ok,h=>uV mode n (rZ sc bs mode ok) (CS Nx hex II mode ok h)
end
theorem we(n:Nat)(mode:Int):∀(m:Nat) {w:Walk},dH w->IH nm ex sg w.a8->IH nm ex sg (ends n mode m w).a8
 |0,_,_,h=>h
 |m+1,w,ok,h=>by
  unfold ends
  split
  ·exact we n mode m (v9 ok _) (uU ok.a8 h)
  ·exact h
end
def fW (sc:List Int) (p:Nat):List fV:=(bV sc (next sc p%4) (next sc (p+1)%4).toNat 0 (p+2)).1
theorem CT(sc:List Int)(many p:Nat):(cb sc many p).1.aC=fW sc p:=rfl
theorem wg(sc:List Int)(many p:Nat){nm:W->Prop}{ex:Tr->Prop}{sg:W->Prop}(Nx:fW sc p≠[]->∀q,nm (pick ⟨[],0,0⟩ (fW sc p) (next sc q%(fW sc p).length)).name)(hex:∀d q,d<=2->ex (cC sc (fW sc p) d q).1)(II:∀q,sg (pick [] ze (next sc q%2))):wc nm ex sg (cb sc many p).1.body:=by
 unfold fW at Nx hex
 unfold cb
 simp only
 generalize bV sc (next sc p%4) (next sc (p+1)%4).toNat 0 (p+2)=bs at *
 have h0:dH ⟨bs.2+1,[{kind:=0,body:=[]}],[]⟩:=⟨rfl,rfl,by simp⟩
 have d0:IH nm ex sg [{kind:=0,body:=[]}]:=⟨⟨mF,fun z=>absurd rfl z,fun z=>absurd z (show ¬(0=2) by decide)⟩,trivial⟩
 have d2:=we bs.1.length (next sc bs.2%4) 4 (r9 sc bs.1 (next sc bs.2%4) many h0) (uV Nx hex II (next sc bs.2%4) many h0 d0)
 generalize ends bs.1.length (next sc bs.2%4) 4 (turns sc bs.1 (next sc bs.2%4) many ⟨bs.2+1,[{kind:=0,body:=[]}],[]⟩)=w at d2
 obtain⟨pp,a8,rows⟩:=w
 cases a8 with
 |nil=>exact mF
 |cons f r=>exact d2.1.1
def mG:Tr->Nat
 |.bin _ l r=>max (mG l) (mG r)+1
 |_=>0
theorem se(sc:List Int)(bs:List fV):∀(d p:Nat),mG (cC sc bs d p).1<=d
 |0,p=>by
  unfold cC
  simp only
  split<;>simp[mG]
 |d+1,p=>by
  unfold cC
  simp only
  split
  ·rw[mG]
   have:=se sc bs d (p+1)
   have:=se sc bs d (cC sc bs d (p+1)).2
   lia
  ·split<;>simp[mG]
mutual
theorem A3:∀(s:bF) (r:Row),r∈d9 s->r.2≠.nN/\r.2≠.fin
 |.ifs k _ _ _ a b,r,h=>by
  rw[d9] at h
  simp only[List.mem_cons,List.mem_append] at h
  rcases h with rfl |h |h
  ·simp
  ·exact jl a r h
  ·exact jl b r h
 |.fe k _ _ _ a,r,h=>by
  rw[d9] at h
  simp only[List.mem_cons] at h
  rcases h with rfl |h
  ·simp
  ·exact jl a r h
 |.ask k _,r,h=>by simp[d9] at h;subst h;simp
 |.put k _ _,r,h=>by simp[d9] at h;subst h;simp
 |.say k _,r,h=>by simp[d9] at h;subst h;simp
 |.b8 k _ _ _,r,h=>by simp[d9] at h;subst h;simp
 |.stop k,r,h=>by simp[d9] at h;subst h;simp
theorem jl:∀(b:List bF) (r:Row),r∈b7 b->r.2≠.nN/\r.2≠.fin
 |[],r,h=>by simp[b7] at h
 |s::t,r,h=>by
  rw[b7,List.mem_append] at h
  rcases h with h |h
  ·exact A3 s r h
  ·exact jl t r h
end
def IJ (r:dQ):List Tg:=QL (r.1,r.2.1)
theorem LK(b:List bF)(x:Int):(aS b x).flatMap IJ=(b7 b).flatMap QL:=by
 rw[<- c9 b x,List.flatMap_map]
 rfl
theorem A4(b:List bF)(x:Int)(r:dQ)(h:r∈aS b x):r.2.1≠.nN/\r.2.1≠.fin:=by
 have:=jl b (r.1,r.2.1) (by rw[<- c9 b x];exact List.mem_map.mpr ⟨r,h,rfl⟩)
 exact this
theorem Ex(r:Row):(QL r).length<=3:=by
 obtain⟨k,w⟩:=r
 cases w<;>simp[QL,plainRow]
theorem yh(sc:List Int)(bs:List fV)(mode:Int):∀(n m:Nat) {w:Walk},ou m w->ou (m+n) (turns sc bs mode n w)
 |0,m,_,h=>h
 |n+1,m,_,h=>by
  have:=yh sc bs mode n (m+1) (AY sc bs mode h)
  rw[show m+(n+1)=m+1+n by lia]
  exact this
theorem A5(n:Nat)(mode:Int):∀(k m:Nat) {w:Walk},ou m w->(ends n mode k w).rows.length<=m+k
 |0,m,w,h=>h.2
 |k+1,m,w,h=>by
  unfold ends
  split
  ·have:=A5 n mode k (m+1) (yc h (number n w.rows mode))
   lia
  ·have:=h.2
   lia
theorem IK(sc:List Int)(many p:Nat):(cb sc many p).2.length<=many+4:=by
 unfold cb
 simp only
 generalize bV sc (next sc p%4) (next sc (p+1)%4).toNat 0 (p+2)=bs
 have h0:ou 0 ⟨bs.2+1,[{kind:=0,body:=[]}],[]⟩:=⟨fun f hf=>by rw[List.mem_singleton.mp hf];exact Nat.le_refl _,Nat.le_refl _⟩
 have:=A5 bs.1.length (next sc bs.2%4) 4 _ (yh sc bs.1 (next sc bs.2%4) many 0 h0)
 lia
end PG
namespace PG
open PM (W Tr)
inductive Mt where
 |op (nN fin:Option Nat)
 |back (i:Nat)
 deriving DecidableEq
abbrev Mm:=Nat->Option Mt
def Mm.set (m:Mm) (i:Nat) (x:Mt):Mm:=fun j=>if j=i then some x else m j
theorem Mm.set_same(m:Mm)(i:Nat)(x:Mt):(m.set i x) i=some x:=if_pos rfl
theorem Mm.bU(m:Mm){i j:Nat}(x:Mt)(h:j≠i):(m.set i x) j=m j:=if_neg h
def pG (x:Option Mt) (p:Nat):Mt:=match x with
 |some (.op _ f)=>.op (some p) f
 |some y=>y
 |none=>.op (some p) none
def sf (x:Option Mt) (p:Nat):Mt:=match x with
 |some (.op e _)=>.op e (some p)
 |some y=>y
 |none=>.op none (some p)
def sj (st:Mm×List Nat) (p:Nat):Wd->Mm×List Nat
 |.ifs=>(st.1.set p (.op none none),p::st.2)
 |.fe=>(st.1.set p (.op none none),p::st.2)
 |.nN=>match st.2 with
  |o::_=>((st.1.set o (pG (st.1 o) p)).set p (.back o),st.2)
  |[]=>st
 |.fin=>match st.2 with
  |o::r=>((st.1.set p (.back o)).set o (sf (st.1 o) p),r)
  |[]=>st
 |_=>st
def foldM:Nat->List Row->Mm×List Nat->Mm×List Nat
 |_,[],st=>st
 |i,r::l,st=>foldM (i+1) l (sj st i r.2)
theorem iX:∀(a b:List Row) (i:Nat) (st:Mm×List Nat),foldM i (a++b) st=foldM (i+a.length) b (foldM i a st)
 |[],b,i,st=>rfl
 |r::a,b,i,st=>by
  rw[List.cons_append,foldM,foldM,iX a b (i+1),List.length_cons,show i+1+a.length=i+(a.length+1) by lia]
mutual
def dS (m:Mm):bF->Nat->List Row->Prop
 |.ifs k _ _ _ a b,i,rs=>(∃ra n,hC m a (i+1) ra/\b=[]/\rs=(k,.ifs)::(ra++[(n,.fin)])/\m i=some (.op none (some (i+1+ra.length)))/\m (i+1+ra.length)=some (.back i))\/
  (∃ra rb n x,hC m a (i+1) ra/\hC m b (i+2+ra.length) rb/\rs=(k,.ifs)::(ra++(n,.nN)::(rb++[(x,.fin)]))/\m i=some (.op (some (i+1+ra.length)) (some (i+2+ra.length+rb.length)))/\
   m (i+1+ra.length)=some (.back i)/\m (i+2+ra.length+rb.length)=some (.back i))
 |.fe k _ _ _ a,i,rs=>∃ra n,hC m a (i+1) ra/\rs=(k,.fe)::(ra++[(n,.fin)])/\m i=some (.op none (some (i+1+ra.length)))/\m (i+1+ra.length)=some (.back i)
 |.ask k _,_,rs=>rs=[(k,.ask)]
 |.put k _ _,_,rs=>rs=[(k,.put)]
 |.say k _,_,rs=>rs=[(k,.say)]
 |.b8 k _ _ _,_,rs=>rs=[(k,.b8)]
 |.stop k,_,rs=>rs=[(k,.stop)]
def hC (m:Mm):List bF->Nat->List Row->Prop
 |[],_,rs=>rs=[]
 |s::r,i,rs=>∃r1 r2,dS m s i r1/\hC m r (i+r1.length) r2/\rs=r1++r2
end
mutual
theorem dS.ky{m m':Mm}:∀(s:bF) {i:Nat} {rs:List Row},dS m s i rs->(∀j,i<=j->j<i+rs.length->m' j=m j)->dS m' s i rs
 |.ifs k _ _ _ a b,i,rs,h,q=>by
  rw[dS] at h ⊢
  rcases h with ⟨ra,n,h1,h2,rfl,h3,h4⟩ |⟨ra,rb,n,x,h1,h2,rfl,h3,h4,h5⟩
  ·simp only[List.length_cons,List.length_append,List.length_nil] at q
   exact .inl ⟨ra,n,hC.ky a h1 (fun j a b=>q j (by lia) (by lia)),h2,rfl,by rw[q i (by lia) (by lia)];exact h3,by rw[q _ (by lia) (by lia)];exact h4⟩
  ·simp only[List.length_cons,List.length_append,List.length_nil] at q
   exact .inr ⟨ra,rb,n,x,hC.ky a h1 (fun j a b=>q j (by lia) (by lia)),hC.ky b h2 (fun j a b=>q j (by lia) (by lia)),rfl,by rw[q i (by lia) (by lia)];exact h3,by rw[q _ (by lia) (by lia)];exact h4,by rw[q _ (by lia) (by lia)];exact h5⟩
 |.fe k _ _ _ a,i,rs,h,q=>by
  rw[dS] at h ⊢
  obtain⟨ra,n,h1,rfl,h3,h4⟩:=h
  simp only[List.length_cons,List.length_append,List.length_nil] at q
  exact⟨ra,n,hC.ky a h1 (fun j a b=>q j (by lia) (by lia)),rfl,by rw[q i (by lia) (by lia)];exact h3,by rw[q _ (by lia) (by lia)];exact h4⟩
 |.ask k _,_,rs,h,_=>by rw[dS] at h ⊢;exact h
 |.put k _ _,_,rs,h,_=>by rw[dS] at h ⊢;exact h
 |.say k _,_,rs,h,_=>by rw[dS] at h ⊢;exact h
 |.b8 k _ _ _,_,rs,h,_=>by rw[dS] at h ⊢;exact h
 |.stop k,_,rs,h,_=>by rw[dS] at h ⊢;exact h
theorem hC.ky{m m':Mm}:∀(b:List bF) {i:Nat} {rs:List Row},hC m b i rs->(∀j,i<=j->j<i+rs.length->m' j=m j)->hC m' b i rs
 |[],i,rs,h,_=>by rw[hC] at h ⊢;exact h
 |s::r,i,rs,h,q=>by
  rw[hC] at h ⊢
  obtain⟨r1,r2,h1,h2,rfl⟩:=h
  simp only[List.length_append] at q
  exact⟨r1,r2,dS.ky s h1 (fun j a b=>q j (by lia) (by lia)),hC.ky r h2 (fun j a b=>q j (by lia) (by lia)),rfl⟩
end
theorem fG{op:List Nat}{i j:Nat}(h:∀o∈op,o<i)(hj:i<j):∀o∈i::op,o<j:=fun o hx=>by
 rcases List.mem_cons.mp hx with rfl |hx
 ·exact hj
 ·have:=h o hx
  lia
mutual
theorem Ny:∀(s:bF) (rs:List Row),eS s rs->∀(i:Nat) (m:Mm) (op:List Nat),(∀o∈op,o<i)->∃m1,foldM i rs (m,op)=(m1,op)/\dS m1 s i rs/\∀j,(j<i\/i+rs.length<=j)->m1 j=m j
 |.ifs k sg l r a b,rs,h,i,m,op,ho=>by
  rw[eS] at h
  rcases h with ⟨ra,n,h1,rfl,rfl⟩ |⟨ra,rb,n,x,h1,h2,rfl⟩
  ·obtain⟨m1,e1,s1,k1⟩:=nA a ra h1 (i+1) (m.set i (.op none none)) (i::op) (fG ho (by lia))
   have mi:m1 i=some (.op none none):=by rw[k1 i (by lia),Mm.set_same]
   refine⟨(m1.set (i+1+ra.length) (.back i)).set i (sf (m1 i) (i+1+ra.length)),?_,?_,?_⟩
   ·show foldM (i+1) (ra++[(n,.fin)]) (m.set i (.op none none),i::op)=_
    rw[iX,e1]
    rfl
   ·rw[dS]
    refine .inl ⟨ra,n,hC.ky a s1 (fun j a b=>by rw[Mm.bU _ _ (by lia),Mm.bU _ _ (by lia)]),rfl,rfl,?_,?_⟩
    ·rw[Mm.set_same,mi];rfl
    ·rw[Mm.bU _ _ (by lia),Mm.set_same]
   ·intro j hj
    simp only[List.length_cons,List.length_append,List.length_nil] at hj
    rw[Mm.bU _ _ (by lia),Mm.bU _ _ (by lia),k1 j (by lia),Mm.bU _ _ (by lia)]
  ·obtain⟨m1,e1,s1,k1⟩:=nA a ra h1 (i+1) (m.set i (.op none none)) (i::op) (fG ho (by lia))
   have mi:m1 i=some (.op none none):=by rw[k1 i (by lia),Mm.set_same]
   obtain⟨m2,e2,s2,k2⟩:=nA b rb h2 (i+2+ra.length) ((m1.set i (pG (m1 i) (i+1+ra.length))).set (i+1+ra.length) (.back i)) (i::op) (fG ho (by lia))
   have V6:m2 i=some (.op (some (i+1+ra.length)) none):=by rw[k2 i (by lia),Mm.bU _ _ (by lia),Mm.set_same,mi];rfl
   refine⟨(m2.set (i+2+ra.length+rb.length) (.back i)).set i (sf (m2 i) (i+2+ra.length+rb.length)),?_,?_,?_⟩
   ·show foldM (i+1) (ra++(n,.nN)::(rb++[(x,.fin)])) (m.set i (.op none none),i::op)=_
    rw[iX,e1]
    show foldM (i+1+ra.length+1) (rb++[(x,.fin)]) ((m1.set i (pG (m1 i) (i+1+ra.length))).set (i+1+ra.length) (.back i),i::op)=_
    rw[show i+1+ra.length+1=i+2+ra.length by lia,iX,e2]
    rfl
   ·rw[dS]
    refine .inr ⟨ra,rb,n,x,hC.ky a s1 (fun j a b=>?_),hC.ky b s2 (fun j a b=>?_),rfl,?_,?_,?_⟩
    ·rw[Mm.bU _ _ (by lia),Mm.bU _ _ (by lia),k2 j (by lia),Mm.bU _ _ (by lia),Mm.bU _ _ (by lia)]
    ·rw[Mm.bU _ _ (by lia),Mm.bU _ _ (by lia)]
    ·rw[Mm.set_same,V6];rfl
    ·rw[Mm.bU _ _ (by lia),Mm.bU _ _ (by lia),k2 _ (by lia),Mm.set_same]
    ·rw[Mm.bU _ _ (by lia),Mm.set_same]
   ·intro j hj
    simp only[List.length_cons,List.length_append,List.length_nil] at hj
    rw[Mm.bU _ _ (by lia),Mm.bU _ _ (by lia),k2 j (by lia),Mm.bU _ _ (by lia),Mm.bU _ _ (by lia),k1 j (by lia),Mm.bU _ _ (by lia)]
 |.fe k sg l r a,rs,h,i,m,op,ho=>by
  rw[eS] at h
  obtain⟨ra,n,h1,rfl⟩:=h
  obtain⟨m1,e1,s1,k1⟩:=nA a ra h1 (i+1) (m.set i (.op none none)) (i::op) (fG ho (by lia))
  have mi:m1 i=some (.op none none):=by rw[k1 i (by lia),Mm.set_same]
  refine⟨(m1.set (i+1+ra.length) (.back i)).set i (sf (m1 i) (i+1+ra.length)),?_,?_,?_⟩
  ·show foldM (i+1) (ra++[(n,.fin)]) (m.set i (.op none none),i::op)=_
   rw[iX,e1]
   rfl
  ·rw[dS]
   refine⟨ra,n,hC.ky a s1 (fun j a b=>by rw[Mm.bU _ _ (by lia),Mm.bU _ _ (by lia)]),rfl,?_,?_⟩
   ·rw[Mm.set_same,mi];rfl
   ·rw[Mm.bU _ _ (by lia),Mm.set_same]
  ·intro j hj
   simp only[List.length_cons,List.length_append,List.length_nil] at hj
   rw[Mm.bU _ _ (by lia),Mm.bU _ _ (by lia),k1 j (by lia),Mm.bU _ _ (by lia)]
 |.ask k _,rs,h,i,m,op,_=>by rw[eS] at h;subst h;exact⟨m,rfl,by rw[dS],fun _ _=>rfl⟩
 |.put k _ _,rs,h,i,m,op,_=>by rw[eS] at h;subst h;exact⟨m,rfl,by rw[dS],fun _ _=>rfl⟩
 |.say k _,rs,h,i,m,op,_=>by rw[eS] at h;subst h;exact⟨m,rfl,by rw[dS],fun _ _=>rfl⟩
 |.b8 k _ _ _,rs,h,i,m,op,_=>by rw[eS] at h;subst h;exact⟨m,rfl,by rw[dS],fun _ _=>rfl⟩
 |.stop k,rs,h,i,m,op,_=>by rw[eS] at h;subst h;exact⟨m,rfl,by rw[dS],fun _ _=>rfl⟩
theorem nA:∀(b:List bF) (rs:List Row),cG b rs->∀(i:Nat) (m:Mm) (op:List Nat),(∀o∈op,o<i)->∃m1,foldM i rs (m,op)=(m1,op)/\hC m1 b i rs/\∀j,(j<i\/i+rs.length<=j)->m1 j=m j
 |[],rs,h,i,m,op,_=>by rw[cG] at h;subst h;exact⟨m,rfl,by rw[hC],fun _ _=>rfl⟩
 |s::r,rs,h,i,m,op,ho=>by
  rw[cG] at h
  obtain⟨r1,r2,h1,h2,rfl⟩:=h
  obtain⟨m1,e1,s1,k1⟩:=Ny s r1 h1 i m op ho
  obtain⟨m2,e2,s2,k2⟩:=nA r r2 h2 (i+r1.length) m1 op (fun o hx=>by have:=ho o hx;lia)
  refine⟨m2,?_,?_,?_⟩
  ·rw[iX,e1,e2]
  ·rw[hC]
   exact⟨r1,r2,dS.ky s s1 (fun j a b=>k2 j (by lia)),s2,rfl⟩
  ·intro j hj
   rw[List.length_append] at hj
   rw[k2 j (by lia),k1 j (by lia)]
end
end PG
namespace PG
open PM (W Tr)
def to (R:List Row) (m:Mm) (p:Nat):Int:=
 if h:p<R.length then
  match (R[p]).2 with
  |.nN=>match m p with
   |some (.back o)=>match m o with
    |some (.op _ (some e))=>if he:p<=e then to R m (e+1) else 0
    |_=>0
   |_=>0
  |.fin=>match m p with
   |some (.back o)=>match R[o]? with
    |some (k,.fe)=>k
    |_=>to R m (p+1)
   |_=>0
  |_=>(R[p]).1
 else 0
termination_by R.length-p
decreasing_by all_goals lia
theorem CU{R:List Row}{m:Mm}{p:Nat}(h:R.length<=p):to R m p=0:=by
 rw[to,dif_neg (by lia)]
theorem mH{R:List Row}{p:Nat}{r:Row}(h:R[p]?=some r):∃hp:p<R.length,R[p]=r:=List.getElem?_eq_some_iff.mp h
theorem A6{R:List Row}{m:Mm}{p:Nat}{k:Int}{w:Wd}(h:R[p]?=some (k,w))(h1:w≠.nN)(h2:w≠.fin):to R m p=k:=by
 obtain⟨hp,e⟩:=mH h
 rw[to,dif_pos hp,e]
 cases w<;>first |rfl |exact absurd rfl h1 |exact absurd rfl h2
theorem IL{R:List Row}{m:Mm}{p o e:Nat}{k:Int}{x:Option Nat}(h:R[p]?=some (k,.nN))(h1:m p=some (.back o))(h2:m o=some (.op x (some e)))(h3:p<=e):to R m p=to R m (e+1):=by
 obtain⟨hp,q⟩:=mH h
 rw[to,dif_pos hp,q]
 simp only[h1,h2]
 rw[dif_pos h3]
theorem IM{R:List Row}{m:Mm}{p o:Nat}{k k':Int}(h:R[p]?=some (k,.fin))(h1:m p=some (.back o))(h2:R[o]?=some (k',.fe)):to R m p=k':=by
 obtain⟨hp,q⟩:=mH h
 rw[to,dif_pos hp,q]
 simp only[h1,h2]
theorem CV{R:List Row}{m:Mm}{p o:Nat}{k k':Int}(h:R[p]?=some (k,.fin))(h1:m p=some (.back o))(h2:R[o]?=some (k',.ifs)):to R m p=to R m (p+1):=by
 obtain⟨hp,q⟩:=mH h
 rw[to,dif_pos hp,q]
 simp only[h1,h2]
def eO (R:List Row) (m:Mm) (p:Nat):List dQ:=match R[p]? with
 |none=>[]
 |some (k,.stop)=>[(k,.stop,[0])]
 |some (_,.nN)=>[]
 |some (_,.fin)=>[]
 |some (k,.ifs)=>match m p with
  |some (.op x (some e))=>[(k,.ifs,[to R m (p+1),to R m (x.getD e+1)])]
  |_=>[]
 |some (k,.fe)=>match m p with
  |some (.op x (some e))=>[(k,.fe,[to R m (p+1),to R m (x.getD e+1)])]
  |_=>[]
 |some (k,w)=>[(k,w,[to R m (p+1)])]
def b9 (R:List Row) (m:Mm):Nat->Nat->List dQ
 |_,0=>[]
 |i,n+1=>eO R m i++b9 R m (i+1) n
theorem dJ(R:List Row)(m:Mm):∀(a b i:Nat),b9 R m i (a+b)=b9 R m i a++b9 R m (i+a) b
 |0,b,i=>by simp[b9]
 |a+1,b,i=>by
  rw[show a+1+b=(a+b)+1 by lia,b9,b9,dJ R m a b (i+1),List.append_assoc,show i+1+a=i+(a+1) by lia]
def At (R:List Row) (i:Nat) (rs:List Row):Prop:=∀j,j<rs.length->R[i+j]?=rs[j]?
theorem At.left{R:List Row}{i:Nat}{a b:List Row}(h:At R i (a++b)):At R i a:=fun j hj=>by
 rw[h j (by rw[List.length_append];lia),List.getElem?_append_left hj]
theorem At.right{R:List Row}{i:Nat}{a b:List Row}(h:At R i (a++b)):At R (i+a.length) b:=fun j hj=>by
 have:=h (a.length+j) (by rw[List.length_append];lia)
 rw[List.getElem?_append_right (by lia),show a.length+j-a.length=j by lia] at this
 rw[show i+a.length+j=i+(a.length+j) by lia]
 exact this
theorem At.head{R:List Row}{i:Nat}{x:Row}{b:List Row}(h:At R i (x::b)):R[i]?=some x:=by
 have:=h 0 (by simp)
 simpa using this
theorem At.tail{R:List Row}{i:Nat}{x:Row}{b:List Row}(h:At R i (x::b)):At R (i+1) b:=At.right (a:=[x]) h
theorem FT{m:Mm}:∀(s:bF) {i:Nat} {rs:List Row},dS m s i rs->∃t,rs=(s.row,s.wd)::t/\s.wd≠.nN/\s.wd≠.fin
 |.ifs k _ _ _ a b,i,rs,h=>by
  rw[dS] at h
  rcases h with ⟨ra,n,_,_,rfl,_⟩ |⟨ra,rb,n,x,_,_,rfl,_⟩
  ·exact⟨_,rfl,by simp[bF.wd],by simp[bF.wd]⟩
  ·exact⟨_,rfl,by simp[bF.wd],by simp[bF.wd]⟩
 |.fe k _ _ _ a,i,rs,h=>by
  rw[dS] at h
  obtain⟨ra,n,_,rfl,_⟩:=h
  exact⟨_,rfl,by simp[bF.wd],by simp[bF.wd]⟩
 |.ask k _,_,rs,h=>by rw[dS] at h;exact⟨[],h,by simp[bF.wd],by simp[bF.wd]⟩
 |.put k _ _,_,rs,h=>by rw[dS] at h;exact⟨[],h,by simp[bF.wd],by simp[bF.wd]⟩
 |.say k _,_,rs,h=>by rw[dS] at h;exact⟨[],h,by simp[bF.wd],by simp[bF.wd]⟩
 |.b8 k _ _ _,_,rs,h=>by rw[dS] at h;exact⟨[],h,by simp[bF.wd],by simp[bF.wd]⟩
 |.stop k,_,rs,h=>by rw[dS] at h;exact⟨[],h,by simp[bF.wd],by simp[bF.wd]⟩
theorem pH{R:List Row}{m:Mm}:∀(b:List bF) {i:Nat} {rs:List Row},hC m b i rs->At R i rs->to R m i=bg b (to R m (i+rs.length))
 |[],i,rs,h,_=>by rw[hC] at h;subst h;rfl
 |s::r,i,rs,h,ha=>by
  rw[hC] at h
  obtain⟨r1,r2,h1,h2,rfl⟩:=h
  obtain⟨t,rfl,n1,n2⟩:=FT s h1
  rw[A6 (At.head ha.left) n1 n2]
  rfl
mutual
theorem O6{R:List Row}{m:Mm}:∀(s:bF) {i:Nat} {rs:List Row},dS m s i rs->At R i rs->b9 R m i rs.length=dI s (to R m (i+rs.length))
 |.ifs k sg l r a b,i,rs,h,ha=>by
  rw[dS] at h
  rcases h with ⟨ra,n,h1,rfl,rfl,h3,h4⟩ |⟨ra,rb,n,x,h1,h2,rfl,h3,h4,h5⟩
  ·have aH:=ha.head
   have aA:=ha.tail.left
   have aF:=ha.tail.right.head
   have tF:to R m (i+1+ra.length)=to R m (i+1+ra.length+1):=CV aF h4 aH
   have tA:=pH a h1 aA
   have e:((k,Wd.ifs)::(ra++[(n,Wd.fin)])).length=1+(ra.length+1):=by simp;lia
   rw[e,dJ,dJ,ud a h1 aA,dI,tF,show i+(1+(ra.length+1))=i+1+ra.length+1 by lia]
   have w1:b9 R m i 1=[(k,.ifs,[bg a (to R m (i+1+ra.length+1)),to R m (i+1+ra.length+1)])]:=by
    simp only[b9,eO,aH,h3,List.append_nil,Option.getD_none]
    rw[tA,tF]
   have w2:b9 R m (i+1+ra.length) 1=[]:=by simp only[b9,eO,aF,List.append_nil]
   rw[w1,w2]
   simp[aS,bg]
  ·have aH:=ha.head
   have aA:=ha.tail.left
   have aE:=ha.tail.right.head
   have aB:=ha.tail.right.tail.left
   have aF:=ha.tail.right.tail.right.head
   rw[show i+1+ra.length+1=i+2+ra.length by lia] at aB aF
   have tF:to R m (i+2+ra.length+rb.length)=to R m (i+2+ra.length+rb.length+1):=CV aF h5 aH
   have tE:to R m (i+1+ra.length)=to R m (i+2+ra.length+rb.length+1):=IL aE h4 h3 (by lia)
   have tA:=pH a h1 aA
   have tB:=pH b h2 aB
   have e:((k,Wd.ifs)::(ra++(n,Wd.nN)::(rb++[(x,Wd.fin)]))).length=1+(ra.length+(1+(rb.length+1))):=by simp;lia
   rw[e,dJ,dJ,dJ,dJ,ud a h1 aA,dI,show i+(1+(ra.length+(1+(rb.length+1))))=i+2+ra.length+rb.length+1 by lia,tE,show i+1+ra.length+1=i+2+ra.length by lia,ud b h2 aB,tF]
   have w1:b9 R m i 1=[(k,.ifs,[bg a (to R m (i+2+ra.length+rb.length+1)),bg b (to R m (i+2+ra.length+rb.length+1))])]:=by
    simp only[b9,eO,aH,h3,List.append_nil,Option.getD_some]
    rw[tA,tE,show i+1+ra.length+1=i+2+ra.length by lia,tB,tF]
   have w2:b9 R m (i+1+ra.length) 1=[]:=by simp only[b9,eO,aE,List.append_nil]
   have w3:b9 R m (i+2+ra.length+rb.length) 1=[]:=by simp only[b9,eO,aF,List.append_nil]
   rw[w1,w2,w3]
   simp
 |.fe k sg l r a,i,rs,h,ha=>by
  rw[dS] at h
  obtain⟨ra,n,h1,rfl,h3,h4⟩:=h
  have aH:=ha.head
  have aA:=ha.tail.left
  have aF:=ha.tail.right.head
  have tF:to R m (i+1+ra.length)=k:=IM aF h4 aH
  have tA:=pH a h1 aA
  have e:((k,Wd.fe)::(ra++[(n,Wd.fin)])).length=1+(ra.length+1):=by simp;lia
  rw[e,dJ,dJ,ud a h1 aA,dI,tF,show i+(1+(ra.length+1))=i+1+ra.length+1 by lia]
  have w1:b9 R m i 1=[(k,.fe,[bg a k,to R m (i+1+ra.length+1)])]:=by
   simp only[b9,eO,aH,h3,List.append_nil,Option.getD_none]
   rw[tA,tF]
  have w2:b9 R m (i+1+ra.length) 1=[]:=by simp only[b9,eO,aF,List.append_nil]
  rw[w1,w2]
  simp
 |.ask k _,i,rs,h,ha=>by rw[dS] at h;subst h;have:=ha.head;simp[b9,eO,this,dI]
 |.put k _ _,i,rs,h,ha=>by rw[dS] at h;subst h;have:=ha.head;simp[b9,eO,this,dI]
 |.say k _,i,rs,h,ha=>by rw[dS] at h;subst h;have:=ha.head;simp[b9,eO,this,dI]
 |.b8 k _ _ _,i,rs,h,ha=>by rw[dS] at h;subst h;have:=ha.head;simp[b9,eO,this,dI]
 |.stop k,i,rs,h,ha=>by rw[dS] at h;subst h;have:=ha.head;simp[b9,eO,this,dI]
theorem ud{R:List Row}{m:Mm}:∀(b:List bF) {i:Nat} {rs:List Row},hC m b i rs->At R i rs->b9 R m i rs.length=aS b (to R m (i+rs.length))
 |[],i,rs,h,_=>by rw[hC] at h;subst h;rfl
 |s::r,i,rs,h,ha=>by
  rw[hC] at h
  obtain⟨r1,r2,h1,h2,rfl⟩:=h
  rw[List.length_append,dJ,O6 s h1 ha.left,ud r h2 ha.right,aS,pH r h2 ha.right,show i+r1.length+r2.length=i+(r1.length+r2.length) by lia]
end
def nK (R:List Row):Mm:=(foldM 0 R (fun _=>none,[])).1
theorem FU{b:List bF}{R:List Row}(h:cG b R):b9 R (nK R) 0 R.length=aS b 0:=by
 obtain⟨m1,e,s,_⟩:=nA b R h 0 (fun _=>none) [] (by simp)
 have em:nK R=m1:=by unfold nK;rw[e]
 rw[em,ud b s (fun j _=>by rw[Nat.zero_add]),Nat.zero_add,CU (Nat.le_refl _)]
end PG
namespace PG
open PM (W Tr)
def ox (n:Nat) (mode:Int) (rows:List Row):Prop:=(rows.filter plainRow).Pairwise (fun a b=>a.1<b.1)/\∀r∈rows.filter plainRow,0<r.1/\r.1<number n rows mode
theorem CY(n:Nat)(rows:List Row)(mode:Int):0<number n rows mode:=by
 unfold number
 split
 ·lia
 ·split<;>lia
theorem A7(n:Nat)(rows:List Row)(mode:Int)(r:Row):number n rows mode<=number n (rows++[r]) mode/\(plainRow r=true->number n rows mode<number n (rows++[r]) mode):=by
 unfold number
 simp only[List.length_append,List.length_singleton,List.filter_append]
 split
 ·exact⟨by lia,fun _=>by lia⟩
 ·split
  ·refine⟨by lia,fun h=>?_⟩
   have:(List.filter (fun r:Row=>decide (r.2≠.nN/\r.2≠.fin)) [r]).length=1:=by
    unfold plainRow at h
    rw[List.filter_cons,if_pos h]
    rfl
   lia
  ·exact⟨by lia,fun _=>by lia⟩
theorem ox.more{n:Nat}{mode:Int}{rows:List Row}(h:ox n mode rows)(w:Wd):ox n mode (rows++[(number n rows mode,w)]):=by
 obtain⟨h1,h2⟩:=h
 obtain⟨m1,m2⟩:=A7 n rows mode (number n rows mode,w)
 unfold ox
 rw[List.filter_append]
 by_cases hp:plainRow (number n rows mode,w)=true
 ·rw[show [(number n rows mode,w)].filter plainRow=[(number n rows mode,w)] by rw[List.filter_cons,if_pos hp];rfl]
  refine⟨List.pairwise_append.mpr ⟨h1,List.pairwise_singleton _ _,fun a ha b hb=>?_⟩,fun r hr=>?_⟩
  ·rw[List.mem_singleton.mp hb]
   exact(h2 a ha).2
  ·rcases List.mem_append.mp hr with hr |hr
   ·have:=h2 r hr
    lia
   ·rw[List.mem_singleton.mp hr]
    exact⟨CY _ _ _,m2 hp⟩
 ·rw[show [(number n rows mode,w)].filter plainRow=[] by rw[List.filter_cons,if_neg hp];rfl,List.append_nil]
  refine⟨h1,fun r hr=>?_⟩
  have:=h2 r hr
  lia
theorem IP(sc:List Int)(bs:List fV)(mode:Int){w:Walk}(h:ox bs.length mode w.rows):ox bs.length mode (turn sc bs mode w).rows:=by
 obtain⟨p,a8,rows⟩:=w
 unfold turn
 simp only at h ⊢
 split
 ·exact h.more _
 ·cases a8 with
  |nil=>exact h
  |cons f r=>
   simp only
   split
   ·exact h.more _
   ·split
    ·exact h.more _
    ·exact h.more _
theorem yi(sc:List Int)(bs:List fV)(mode:Int):∀(n:Nat) {w:Walk},ox bs.length mode w.rows->ox bs.length mode (turns sc bs mode n w).rows
 |0,_,h=>h
 |n+1,_,h=>yi sc bs mode n (IP sc bs mode h)
theorem A8(n:Nat)(mode:Int):∀(m:Nat) {w:Walk},ox n mode w.rows->ox n mode (ends n mode m w).rows
 |0,_,h=>h
 |m+1,w,h=>by
  unfold ends
  split
  ·exact A8 n mode m (h.more _)
  ·exact h
theorem yj(sc:List Int)(many p:Nat):(b7 (cb sc many p).1.body).Pairwise (fun a b=>a.1<b.1)/\∀r∈b7 (cb sc many p).1.body,0<r.1:=by
 rw[x9]
 have key:∃n mode,ox n mode (cb sc many p).2:=by
  unfold cb
  simp only
  generalize bV sc (next sc p%4) (next sc (p+1)%4).toNat 0 (p+2)=bs
  refine⟨bs.1.length,next sc bs.2%4,A8 _ _ _ (yi _ _ _ _ ?_)⟩
  exact⟨List.Pairwise.nil,fun r hr=>by cases hr⟩
 obtain⟨n,mode,h1,h2⟩:=key
 exact⟨h1,fun r hr=>(h2 r hr).1⟩
mutual
def mI:bF->List bF
 |.ifs k sg l r a b=>.ifs k sg l r a b::(az a++az b)
 |.fe k sg l r a=>.fe k sg l r a::az a
 |s=>[s]
def az:List bF->List bF
 |[]=>[]
 |s::r=>mI s++az r
end
mutual
theorem FV:∀s:bF,(mI s).map (fun x=>(x.row,x.wd))=d9 s
 |.ifs k sg l r a b=>by
  rw[mI,d9,List.map_cons,List.map_append,fL a,fL b]
  rfl
 |.fe k sg l r a=>by
  rw[mI,d9,List.map_cons,fL a]
  rfl
 |.ask k _=>rfl
 |.put k _ _=>rfl
 |.say k _=>rfl
 |.b8 k _ _ _=>rfl
 |.stop k=>rfl
theorem fL:∀b:List bF,(az b).map (fun x=>(x.row,x.wd))=b7 b
 |[]=>rfl
 |s::r=>by simp[az,b7,FV s,fL r]
end
theorem IQ{b:List bF}(h:(b7 b).Pairwise (fun a b=>a.1<b.1)):(az b).Pairwise (fun a b=>a.row<b.row):=by
 rw[<- fL,List.pairwise_map] at h
 exact h
theorem sk(sc:List Int)(nJ:Int):∀(n k p:Nat),k+n<=4->((bV sc nJ n k p).1.map (·.name))=(List.range n).map (fun (i:Nat)=>pick [] c7 (((k:Int)+i-nJ)%4))
 |0,k,p,_=>rfl
 |n+1,k,p,h=>by
  rw[bV,List.range_succ_eq_map]
  simp only[List.map_cons,List.map_map]
  rw[sk sc nJ n (k+1) (p+2) (by lia)]
  congr 1
  simp
  intro i _
  rw[show (k:Int)+1+(i:Int)=(k:Int)+((i:Int)+1) by lia]
theorem A9(a b:Nat)(ha:a<4)(hb:b<4)(e:pick [] c7 (a:Int)=pick [] c7 (b:Int)):a=b:=by
 have key:∀(a b:Fin 4),pick [] c7 ((a:Nat):Int)=pick [] c7 ((b:Nat):Int)->a=b:=by decide
 exact congrArg Fin.val (key ⟨a,ha⟩ ⟨b,hb⟩ e)
theorem zi(sc:List Int)(p:Nat):((fW sc p).map (·.name)).Nodup/\(fW sc p).length<=4:=by
 unfold fW
 have b:=iW sc (p+1)
 have l:=(jP sc (next sc p%4) (next sc (p+1)%4).toNat 0 (p+2)).1
 rw[sk sc _ _ 0 _ (by lia),l]
 refine⟨?_,by lia⟩
 have hn:(next sc (p+1)%4).toNat<=4:=by lia
 generalize (next sc (p+1)%4).toNat=n at *
 generalize next sc p%4=nJ at *
 refine List.pairwise_map.mpr (List.Pairwise.imp_of_mem ?_ (List.nodup_range (n:=n)))
 intro i j hi hj B7 e
 rw[List.mem_range] at hi hj
 have e1:((((0:Nat):Int)+i-nJ)%4)=(((((0:Nat):Int)+i-nJ)%4).toNat:Int):=by lia
 have e2:((((0:Nat):Int)+j-nJ)%4)=(((((0:Nat):Int)+j-nJ)%4).toNat:Int):=by lia
 rw[e1,e2] at e
 have:=A9 _ _ (by lia) (by lia) e
 lia
end PG
namespace PG
open PM (W Tr)
def cU:Nat->List Row->Mm×List Nat->Prop
 |_,[],_=>True
 |i,r::l,st=>(r.2=.nN\/r.2=.fin->∃o t e f,st.2=o::t/\st.1 o=some (.op e f))/\cU (i+1) l (sj st i r.2)
theorem jZ:∀(a b:List Row) (i:Nat) (st:Mm×List Nat),cU i a st->cU (i+a.length) b (foldM i a st)->cU i (a++b) st
 |[],b,i,st,_,h=>h
 |r::a,b,i,st,h1,h2=>by
  rw[List.cons_append,cU]
  rw[cU] at h1
  refine⟨h1.1,jZ a b (i+1) _ h1.2 ?_⟩
  rw[foldM,List.length_cons,show i+(a.length+1)=i+1+a.length by lia] at h2
  exact h2
theorem Ba:∀(a:List Row) (i:Nat) (st:Mm×List Nat),cU i a st->∀j r,a[j]?=some r->(r.2=.nN\/r.2=.fin)->∃o t e f,(foldM i (a.take j) st).2=o::t/\(foldM i (a.take j) st).1 o=some (.op e f)
 |[],i,st,_,j,r,hj,_=>by simp at hj
 |x::a,i,st,h,0,r,hj,hr=>by
  rw[cU] at h
  simp at hj
  subst hj
  exact h.1 hr
 |x::a,i,st,h,j+1,r,hj,hr=>by
  rw[cU] at h
  rw[List.take_succ_cons,foldM]
  exact Ba a (i+1) _ h.2 j r (by simpa using hj) hr
mutual
theorem Sf:∀(s:bF) (rs:List Row),eS s rs->∀(i:Nat) (m:Mm) (op:List Nat),(∀o∈op,o<i)->cU i rs (m,op)
 |.ifs k sg l r a b,rs,h,i,m,op,ho=>by
  rw[eS] at h
  rcases h with ⟨ra,n,h1,rfl,rfl⟩ |⟨ra,rb,n,x,h1,h2,rfl⟩
  ·obtain⟨m1,e1,s1,k1⟩:=nA a ra h1 (i+1) (m.set i (.op none none)) (i::op) (fG ho (by lia))
   have mi:m1 i=some (.op none none):=by rw[k1 i (by lia),Mm.set_same]
   rw[cU]
   refine⟨fun z=>by simp at z,jZ ra _ (i+1) _ (yk a ra h1 (i+1) _ _ (fG ho (by lia))) ?_⟩
   show cU _ _ (foldM (i+1) ra (m.set i (.op none none),i::op))
   rw[e1,cU,cU]
   exact⟨fun _=>⟨i,op,_,_,rfl,mi⟩,trivial⟩
  ·obtain⟨m1,e1,s1,k1⟩:=nA a ra h1 (i+1) (m.set i (.op none none)) (i::op) (fG ho (by lia))
   have mi:m1 i=some (.op none none):=by rw[k1 i (by lia),Mm.set_same]
   obtain⟨m2,e2,s2,k2⟩:=nA b rb h2 (i+1+ra.length+1) ((m1.set i (pG (m1 i) (i+1+ra.length))).set (i+1+ra.length) (.back i)) (i::op) (fG ho (by lia))
   have V6:m2 i=some (.op (some (i+1+ra.length)) none):=by rw[k2 i (by lia),Mm.bU _ _ (by lia),Mm.set_same,mi];rfl
   rw[cU]
   refine⟨fun z=>by simp at z,jZ ra _ (i+1) _ (yk a ra h1 (i+1) _ _ (fG ho (by lia))) ?_⟩
   show cU _ _ (foldM (i+1) ra (m.set i (.op none none),i::op))
   rw[e1,cU]
   refine⟨fun _=>⟨i,op,_,_,rfl,mi⟩,?_⟩
   show cU _ (rb++[(x,.fin)]) ((m1.set i (pG (m1 i) (i+1+ra.length))).set (i+1+ra.length) (.back i),i::op)
   refine jZ rb _ _ _ (yk b rb h2 _ _ _ (fG ho (by lia))) ?_
   rw[e2,cU,cU]
   exact⟨fun _=>⟨i,op,_,_,rfl,V6⟩,trivial⟩
 |.fe k sg l r a,rs,h,i,m,op,ho=>by
  rw[eS] at h
  obtain⟨ra,n,h1,rfl⟩:=h
  obtain⟨m1,e1,s1,k1⟩:=nA a ra h1 (i+1) (m.set i (.op none none)) (i::op) (fG ho (by lia))
  have mi:m1 i=some (.op none none):=by rw[k1 i (by lia),Mm.set_same]
  rw[cU]
  refine⟨fun z=>by simp at z,jZ ra _ (i+1) _ (yk a ra h1 (i+1) _ _ (fG ho (by lia))) ?_⟩
  show cU _ _ (foldM (i+1) ra (m.set i (.op none none),i::op))
  rw[e1,cU,cU]
  exact⟨fun _=>⟨i,op,_,_,rfl,mi⟩,trivial⟩
 |.ask k _,rs,h,i,m,op,_=>by rw[eS] at h;subst h;rw[cU,cU];exact⟨fun z=>by simp at z,trivial⟩
 |.put k _ _,rs,h,i,m,op,_=>by rw[eS] at h;subst h;rw[cU,cU];exact⟨fun z=>by simp at z,trivial⟩
 |.say k _,rs,h,i,m,op,_=>by rw[eS] at h;subst h;rw[cU,cU];exact⟨fun z=>by simp at z,trivial⟩
 |.b8 k _ _ _,rs,h,i,m,op,_=>by rw[eS] at h;subst h;rw[cU,cU];exact⟨fun z=>by simp at z,trivial⟩
 |.stop k,rs,h,i,m,op,_=>by rw[eS] at h;subst h;rw[cU,cU];exact⟨fun z=>by simp at z,trivial⟩
theorem yk:∀(b:List bF) (rs:List Row),cG b rs->∀(i:Nat) (m:Mm) (op:List Nat),(∀o∈op,o<i)->cU i rs (m,op)
 |[],rs,h,i,m,op,_=>by rw[cG] at h;subst h;rw[cU];trivial
 |s::r,rs,h,i,m,op,ho=>by
  rw[cG] at h
  obtain⟨r1,r2,h1,h2,rfl⟩:=h
  obtain⟨m1,e1,s1,k1⟩:=Ny s r1 h1 i m op ho
  refine jZ r1 r2 i _ (Sf s r1 h1 i m op ho) ?_
  rw[e1]
  exact yk r r2 h2 _ _ _ (fun o hx=>by have:=ho o hx;lia)
end
def V7 (R:List Row) (m:Mm) (p:Nat):Prop:=∃x e,m p=some (.op x (some e))/\p<=e/\e<R.length/\∀y,x=some y->y<R.length
def wj (R:List Row) (m:Mm) (p:Nat):Prop:=∀k w,R[p]?=some (k,w)->
 (w=.nN->∃o x e,m p=some (.back o)/\m o=some (.op x (some e))/\p<=e/\e<R.length)/\
 (w=.fin->∃o k' w',m p=some (.back o)/\R[o]?=some (k',w')/\(w'=.ifs\/w'=.fe))/\
 (w=.ifs\/w=.fe->V7 R m p)
theorem jm{R:List Row}{m:Mm}{p:Nat}{k:Int}{w:Wd}(h:R[p]?=some (k,w))(h1:w≠.nN)(h2:w≠.fin)(h3:w≠.ifs)(h4:w≠.fe):wj R m p:=fun k' w' e=>by
 rw[h] at e
 cases e
 exact⟨fun z=>absurd z h1,fun z=>absurd z h2,fun z=>z.elim (fun z=>absurd z h3) (fun z=>absurd z h4)⟩
theorem qL{R:List Row}{m:Mm}{p e:Nat}{x:Option Nat}{k:Int}{w:Wd}(h:R[p]?=some (k,w))(hw:w=.ifs\/w=.fe)(hm:m p=some (.op x (some e)))(he:p<=e)(le:e<R.length)(lx:∀y,x=some y->y<R.length):wj R m p:=fun k' w' q=>by
 rw[h] at q
 cases q
 exact⟨fun z=>(by rcases hw with rfl |rfl<;>cases z),fun z=>(by rcases hw with rfl |rfl<;>cases z),fun _=>⟨x,e,hm,he,le,lx⟩⟩
theorem ue{R:List Row}{m:Mm}{p o:Nat}{k k':Int}{w':Wd}(h:R[p]?=some (k,.fin))(hm:m p=some (.back o))(ho:R[o]?=some (k',w'))(hw:w'=.ifs\/w'=.fe):wj R m p:=fun k2 w2 q=>by
 rw[h] at q
 cases q
 exact⟨fun z=>(by cases z),fun _=>⟨o,k',w',hm,ho,hw⟩,fun z=>(by rcases z with z |z<;>cases z)⟩
theorem FW{R:List Row}{m:Mm}{p o e:Nat}{x:Option Nat}{k:Int}(h:R[p]?=some (k,.nN))(hm:m p=some (.back o))(ho:m o=some (.op x (some e)))(h1:p<=e)(h2:e<R.length):wj R m p:=fun k2 w2 q=>by
 rw[h] at q
 cases q
 exact⟨fun _=>⟨o,x,e,hm,ho,h1,h2⟩,fun z=>(by cases z),fun z=>(by rcases z with z |z<;>cases z)⟩
mutual
theorem LL{R:List Row}{m:Mm}:∀(s:bF) {i:Nat} {rs:List Row},dS m s i rs->At R i rs->∀j,j<rs.length->wj R m (i+j)
 |.ifs k sg l r a b,i,rs,h,ha,j,hj=>by
  rw[dS] at h
  rcases h with ⟨ra,n,h1,rfl,rfl,m1,m2⟩ |⟨ra,rb,n,x,h1,h2,rfl,m1,m2,m3⟩
  ·have r0:=ha.head
   have Sg:=ha.tail.left
   have r2:=ha.tail.right.head
   have l2:=(mH r2).1
   simp only[List.length_cons,List.length_append,List.length_nil] at hj
   rcases Nat.eq_zero_or_pos j with rfl |jp
   ·exact qL r0 (.inl rfl) m1 (by lia) l2 (fun _ z=>by cases z)
   ·by_cases hz:j<ra.length+1
    ·have:=pI a h1 Sg (j-1) (by lia)
     rw[show i+1+(j-1)=i+j by lia] at this
     exact this
    ·rw[show i+j=i+1+ra.length by lia]
     exact ue r2 m2 r0 (.inl rfl)
  ·have r0:=ha.head
   have Sg:=ha.tail.left
   have r2:=ha.tail.right.head
   have YK:=ha.tail.right.tail.left
   have r3:=ha.tail.right.tail.right.head
   rw[show i+1+ra.length+1+rb.length=i+2+ra.length+rb.length by lia] at r3
   rw[show i+1+ra.length+1=i+2+ra.length by lia] at YK
   have l2:=(mH r2).1
   have l3:=(mH r3).1
   simp only[List.length_cons,List.length_append,List.length_nil] at hj
   rcases Nat.eq_zero_or_pos j with rfl |jp
   ·exact qL r0 (.inl rfl) m1 (by lia) l3 (fun _ z=>by cases z;exact l2)
   ·by_cases hz:j<ra.length+1
    ·have:=pI a h1 Sg (j-1) (by lia)
     rw[show i+1+(j-1)=i+j by lia] at this
     exact this
    ·by_cases hy:j=ra.length+1
     ·rw[show i+j=i+1+ra.length by lia]
      exact FW r2 m2 m1 (by lia) l3
     ·by_cases hx:j<ra.length+2+rb.length
      ·have:=pI b h2 YK (j-2-ra.length) (by lia)
       rw[show i+2+ra.length+(j-2-ra.length)=i+j by lia] at this
       exact this
      ·rw[show i+j=i+2+ra.length+rb.length by lia]
       exact ue r3 m3 r0 (.inl rfl)
 |.fe k sg l r a,i,rs,h,ha,j,hj=>by
  rw[dS] at h
  obtain⟨ra,n,h1,rfl,m1,m2⟩:=h
  have r0:=ha.head
  have Sg:=ha.tail.left
  have r2:=ha.tail.right.head
  have l2:=(mH r2).1
  simp only[List.length_cons,List.length_append,List.length_nil] at hj
  rcases Nat.eq_zero_or_pos j with rfl |jp
  ·exact qL r0 (.inr rfl) m1 (by lia) l2 (fun _ z=>by cases z)
  ·by_cases hz:j<ra.length+1
   ·have:=pI a h1 Sg (j-1) (by lia)
    rw[show i+1+(j-1)=i+j by lia] at this
    exact this
   ·rw[show i+j=i+1+ra.length by lia]
    exact ue r2 m2 r0 (.inr rfl)
 |.ask k _,i,rs,h,ha,j,hj=>by rw[dS] at h;subst h;have:=ha.head;simp at hj;subst hj;exact jm this (by simp) (by simp) (by simp) (by simp)
 |.put k _ _,i,rs,h,ha,j,hj=>by rw[dS] at h;subst h;have:=ha.head;simp at hj;subst hj;exact jm this (by simp) (by simp) (by simp) (by simp)
 |.say k _,i,rs,h,ha,j,hj=>by rw[dS] at h;subst h;have:=ha.head;simp at hj;subst hj;exact jm this (by simp) (by simp) (by simp) (by simp)
 |.b8 k _ _ _,i,rs,h,ha,j,hj=>by rw[dS] at h;subst h;have:=ha.head;simp at hj;subst hj;exact jm this (by simp) (by simp) (by simp) (by simp)
 |.stop k,i,rs,h,ha,j,hj=>by rw[dS] at h;subst h;have:=ha.head;simp at hj;subst hj;exact jm this (by simp) (by simp) (by simp) (by simp)
theorem pI{R:List Row}{m:Mm}:∀(b:List bF) {i:Nat} {rs:List Row},hC m b i rs->At R i rs->∀j,j<rs.length->wj R m (i+j)
 |[],i,rs,h,ha,j,hj=>by rw[hC] at h;subst h;simp at hj
 |s::r,i,rs,h,ha,j,hj=>by
  rw[hC] at h
  obtain⟨r1,r2,h1,h2,rfl⟩:=h
  rw[List.length_append] at hj
  by_cases hz:j<r1.length
  ·exact LL s h1 ha.left j hz
  ·have:=pI r h2 ha.right (j-r1.length) (by lia)
   rw[show i+r1.length+(j-r1.length)=i+j by lia] at this
   exact this
end
theorem ym{b:List bF}{R:List Row}(h:cG b R)(p:Nat)(hp:p<R.length):wj R (nK R) p:=by
 obtain⟨m1,e,s,_⟩:=nA b R h 0 (fun _=>none) [] (by simp)
 have em:nK R=m1:=by unfold nK;rw[e]
 rw[em]
 have:=pI b s (R:=R) (fun j _=>by rw[Nat.zero_add]) p hp
 rw[Nat.zero_add] at this
 exact this
end PG
namespace PG
open PM (W Tr)
theorem sr{α:Type}(d:α){l:List α}{i:Int}(h0:0<=i)(h1:i<l.length):pick d l i∈l:=by
 unfold pick
 have lt:i.toNat<l.length:=by lia
 rw[List.getD_eq_getElem?_getD,List.getElem?_eq_getElem lt]
 exact List.getElem_mem lt
def FI:Tr->Prop
 |.num _=>True
 |.box x=>x∈c7
 |.bin o l r=>o∈([[43],[45],[42]]:List W)/\FI l/\FI r
section
variable{nm:W->Prop}{ex:Tr->Prop}{sg:W->Prop}
mutual
theorem LM:∀(s x:bF),rE nm ex sg s->x∈mI s->rE nm ex sg x
 |.ifs k s l r a b,x,h,m=>by
  rw[mI] at m
  rcases List.mem_cons.mp m with rfl |m
  ·exact h
  ·rw[rE] at h
   rcases List.mem_append.mp m with m |m
   ·exact ja a x h.2.2.2.1 m
   ·exact ja b x h.2.2.2.2 m
 |.fe k s l r a,x,h,m=>by
  rw[mI] at m
  rcases List.mem_cons.mp m with rfl |m
  ·exact h
  ·rw[rE] at h
   exact ja a x h.2.2.2 m
 |.ask k b,x,h,m=>by simp only[mI,List.mem_singleton] at m;subst m;exact h
 |.put k b e,x,h,m=>by simp only[mI,List.mem_singleton] at m;subst m;exact h
 |.say k e,x,h,m=>by simp only[mI,List.mem_singleton] at m;subst m;exact h
 |.b8 k s l r,x,h,m=>by simp only[mI,List.mem_singleton] at m;subst m;exact h
 |.stop k,x,h,m=>by simp only[mI,List.mem_singleton] at m;subst m;exact h
theorem ja:∀(b:List bF) (x:bF),wc nm ex sg b->x∈az b->rE nm ex sg x
 |[],x,_,m=>by simp[az] at m
 |s::r,x,h,m=>by
  rw[az] at m
  rw[wc] at h
  rcases List.mem_append.mp m with m |m
  ·exact LM s x h.1 m
  ·exact ja r x h.2 m
end
end
end PG
namespace PG
open PM (W Tr)
def jn (bs:List fV):Tr->Prop
 |.num n=>0<=n/\n<1000
 |.box x=>x∈bs.map (·.name)
 |.bin o l r=>o∈([[43],[45],[42]]:List W)/\jn bs l/\jn bs r
theorem wm{bs:List fV}(sc:List Int)(q:Nat)(h:bs≠[]):(pick ⟨[],0,0⟩ bs (next sc q%bs.length)).name∈bs.map (·.name):=by
 have hp:0<bs.length:=List.length_pos_iff.mpr h
 exact List.mem_map.mpr ⟨_,sr _ (Int.emod_nonneg _ (by lia)) (Int.emod_lt_of_pos _ (by lia)),rfl⟩
theorem Ey(sc:List Int)(p q:Nat):0<=next sc p%pick 1 [3,12,1000] (next sc q%3)/\next sc p%pick 1 [3,12,1000] (next sc q%3)<1000:=by
 have m:=sr (1:Int) (l:=[3,12,1000]) (i:=next sc q%3) (Int.emod_nonneg _ (by decide)) (Int.emod_lt_of_pos _ (by decide))
 generalize pick (1:Int) [3,12,1000] (next sc q%3)=z at m
 have hz:0<z/\z<=1000:=by
  simp only[List.mem_cons,List.mem_nil_iff,or_false] at m
  rcases m with rfl |rfl |rfl<;>decide
 have h1:=Int.emod_nonneg (next sc p) (b:=z) (by lia)
 have h2:=Int.emod_lt_of_pos (next sc p) (b:=z) hz.1
 lia
theorem wt(sc:List Int)(bs:List fV):∀(d p:Nat),jn bs (cC sc bs d p).1
 |0,p=>by
  unfold cC
  simp only
  split
  ·rename_i h;rw[jn];exact wm sc _ h.1
  ·rw[jn];exact Ey sc _ _
 |d+1,p=>by
  unfold cC
  simp only
  split
  ·rename_i h
   rw[jn]
   have b:=iW sc p
   refine⟨sr _ (Int.emod_nonneg _ (by decide)) (by show next sc p%7<3;exact h),wt sc bs d _,wt sc bs d _⟩
  ·split
   ·rename_i h;rw[jn];exact wm sc _ h.1
   ·rw[jn];exact Ey sc _ _
theorem IS(sc:List Int)(many p:Nat):wc (·∈(fW sc p).map (·.name)) (fun e=>jn (fW sc p) e/\mG e<=2) (·∈ze) (cb sc many p).1.body:=
 wg sc many p (fun h q=>wm sc q h) (fun d q hd=>⟨wt sc _ d q,Nat.le_trans (se _ _ _ _) hd⟩) (fun q=>sr _ (Int.emod_nonneg _ (by decide)) (Int.emod_lt_of_pos _ (by decide)))
theorem yn(sc:List Int)(nJ:Int):∀(n k p:Nat),∀x∈(bV sc nJ n k p).1,2<=x.size/\x.size<=10/\0<=x.first/\x.first<x.size
 |0,k,p,x,h=>by simp[bV] at h
 |n+1,k,p,x,h=>by
  rw[bV] at h
  simp only[List.mem_cons] at h
  rcases h with rfl |h
  ·simp only
   have h3:=Int.emod_nonneg (next sc (p+1)) (b:=2+next sc p%3) (by lia)
   have h4:=Int.emod_lt_of_pos (next sc (p+1)) (b:=2+next sc p%3) (by lia)
   lia
  ·exact yn sc nJ n (k+1) (p+2) x h
theorem xu(sc:List Int)(p:Nat):∀x∈fW sc p,2<=x.size/\x.size<=10/\0<=x.first/\x.first<x.size:=yn sc _ _ _ _
theorem FX(sc:List Int)(p:Nat):(fW sc p).length<=3:=by
 unfold fW
 have b:=iW sc (p+1)
 rw[(jP sc (next sc p%4) (next sc (p+1)%4).toNat 0 (p+2)).1]
 lia
end PG
namespace PG
theorem IT{R:List Row}{b:List bF}(h:cG b R):to R (nK R) 0=bg b 0:=by
 obtain⟨m1,e,s,_⟩:=nA b R h 0 (fun _=>none) [] (by simp)
 have em:nK R=m1:=by unfold nK;rw[e]
 rw[em,pH b s (fun j _=>by rw[Nat.zero_add]),Nat.zero_add,CU (Nat.le_refl _)]
def mJ (r:dQ):Prop:=0<r.2.2.length/\(r.2.1=.ifs\/r.2.1=.fe->1<r.2.2.length)
mutual
theorem FY:∀(s:bF) (x:Int),∀r∈dI s x,mJ r
 |.ifs k sg l r a b,x,y,h=>by
  rw[dI] at h
  simp only[List.mem_cons,List.mem_append] at h
  rcases h with rfl |h |h
  ·simp[mJ]
  ·exact iY a x y h
  ·exact iY b x y h
 |.fe k sg l r a,x,y,h=>by
  rw[dI] at h
  simp only[List.mem_cons] at h
  rcases h with rfl |h
  ·simp[mJ]
  ·exact iY a k y h
 |.ask k _,x,y,h=>by simp[dI] at h;subst h;simp[mJ]
 |.put k _ _,x,y,h=>by simp[dI] at h;subst h;simp[mJ]
 |.say k _,x,y,h=>by simp[dI] at h;subst h;simp[mJ]
 |.b8 k _ _ _,x,y,h=>by simp[dI] at h;subst h;simp[mJ]
 |.stop k,x,y,h=>by simp[dI] at h;subst h;simp[mJ]
theorem iY:∀(b:List bF) (x:Int),∀r∈aS b x,mJ r
 |[],x,y,h=>by simp[aS] at h
 |s::r,x,y,h=>by
  rw[aS,List.mem_append] at h
  rcases h with h |h
  ·exact FY s _ y h
  ·exact iY r x y h
end
end PG
namespace PG
theorem oy:∀(b:List bF) (x:Int),bg b x=x\/∃t∈az b,t.row=bg b x
 |[],x=>.inl rfl
 |s::r,x=>.inr ⟨s,by rw[az];exact List.mem_append_left _ (by cases s<;>simp[mI]),rfl⟩
mutual
theorem IU:∀(s:bF) (x:Int),∀r∈dI s x,∀w∈r.2.2,w=0\/w=x\/∃t∈mI s,t.row=w
 |.ifs k sg l r a b,x,y,h,w,hw=>by
  rw[dI] at h
  simp only[List.mem_cons,List.mem_append] at h
  rw[mI]
  rcases h with rfl |h |h
  ·simp only[List.mem_cons,List.mem_nil_iff,or_false] at hw
   rcases hw with rfl |rfl
   ·rcases oy a x with e |⟨t,ht,e⟩
    ·exact .inr (.inl e)
    ·exact .inr (.inr ⟨t,by simp[ht],e⟩)
   ·rcases oy b x with e |⟨t,ht,e⟩
    ·exact .inr (.inl e)
    ·exact .inr (.inr ⟨t,by simp[ht],e⟩)
  ·rcases oA a x y h w hw with e |e |⟨t,ht,e⟩
   ·exact .inl e
   ·exact .inr (.inl e)
   ·exact .inr (.inr ⟨t,by simp[ht],e⟩)
  ·rcases oA b x y h w hw with e |e |⟨t,ht,e⟩
   ·exact .inl e
   ·exact .inr (.inl e)
   ·exact .inr (.inr ⟨t,by simp[ht],e⟩)
 |.fe k sg l r a,x,y,h,w,hw=>by
  rw[dI] at h
  simp only[List.mem_cons] at h
  rw[mI]
  have self:w=k->∃t∈(bF.fe k sg l r a::az a),t.row=w:=fun e=>⟨_,List.mem_cons_self ..,e.symm⟩
  rcases h with rfl |h
  ·simp only[List.mem_cons,List.mem_nil_iff,or_false] at hw
   rcases hw with rfl |rfl
   ·rcases oy a k with e |⟨t,ht,e⟩
    ·exact .inr (.inr (self e))
    ·exact .inr (.inr ⟨t,by simp[ht],e⟩)
   ·exact .inr (.inl rfl)
  ·rcases oA a k y h w hw with e |e |⟨t,ht,e⟩
   ·exact .inl e
   ·exact .inr (.inr (self e))
   ·exact .inr (.inr ⟨t,by simp[ht],e⟩)
 |.ask k _,x,y,h,w,hw=>by simp[dI] at h;subst h;simp at hw;exact .inr (.inl hw)
 |.put k _ _,x,y,h,w,hw=>by simp[dI] at h;subst h;simp at hw;exact .inr (.inl hw)
 |.say k _,x,y,h,w,hw=>by simp[dI] at h;subst h;simp at hw;exact .inr (.inl hw)
 |.b8 k _ _ _,x,y,h,w,hw=>by simp[dI] at h;subst h;simp at hw;exact .inr (.inl hw)
 |.stop k,x,y,h,w,hw=>by simp[dI] at h;subst h;simp at hw;exact .inl hw
theorem oA:∀(b:List bF) (x:Int),∀r∈aS b x,∀w∈r.2.2,w=0\/w=x\/∃t∈az b,t.row=w
 |[],x,y,h,_,_=>by simp[aS] at h
 |s::r,x,y,h,w,hw=>by
  rw[aS,List.mem_append] at h
  rw[az]
  rcases h with h |h
  ·rcases IU s _ y h w hw with e |e |⟨t,ht,e⟩
   ·exact .inl e
   ·rcases oy r x with e2 |⟨t,ht,e2⟩
    ·exact .inr (.inl (e.trans e2))
    ·exact .inr (.inr ⟨t,List.mem_append_right _ ht,e2.trans e.symm⟩)
   ·exact .inr (.inr ⟨t,List.mem_append_left _ ht,e⟩)
  ·rcases oA r x y h w hw with e |e |⟨t,ht,e⟩
   ·exact .inl e
   ·exact .inr (.inl e)
   ·exact .inr (.inr ⟨t,List.mem_append_right _ ht,e⟩)
end
def IV (b:List bF) (row:Int):Nat:=(az b).findIdx (fun s=>s.row==row)
theorem Ez{b:List bF}(pw:(az b).Pairwise (fun a b=>a.row<b.row))(i:Nat)(hi:i<(az b).length):IV b (az b)[i].row=i:=by
 unfold IV
 rw[List.findIdx_eq hi]
 refine⟨by simp,fun j hj=>?_⟩
 have:=List.pairwise_iff_getElem.mp pw j i (by lia) hi hj
 simp only[beq_eq_false_iff_ne,ne_eq]
 lia
inductive fT where
 |on |out |b8 (row:Int) |fin
deriving DecidableEq
structure V8 where
 rows:List Int
 O7:List Int
 fin:fT
section
variable(ask:Int->Bool)(step:Int->List Int->Int->Option (Int×List Int)×Option Int)
def take1 (a:Bool) (aW:List Int):Option (Int×List Int):=if a then (match aW with |[]=>none |f::r=>some (f,r)) else some (0,aW)
def Up:Nat->Int->List Int->List Int->V8
 |0,row,_,_=>if row=0 then ⟨[],[],.fin⟩ else ⟨[],[],.on⟩
 |n+1,row,vals,aW=>if row=0 then ⟨[],[],.fin⟩ else
  match take1 (ask row) aW with
  |none=>⟨[row],[],.out⟩
  |some (f,r)=>match step row vals f with
   |(none,_)=>⟨[row],[],.b8 row⟩
   |(some x,s)=>⟨row::(Up n x.1 x.2 r).rows,s.toList++(Up n x.1 x.2 r).O7,(Up n x.1 x.2 r).fin⟩
def endAt (row:Int):Option fT:=if row=0 then some .fin else none
def xv (row:Int) (vals left:List Int):Option Int×List Int×Int×List Int×Option fT:=match take1 (ask row) left with
 |none=>(none,left,row,vals,some .out)
 |some (f,r)=>match step row vals f with
  |(none,s)=>(s,r,row,vals,some (.b8 row))
  |(some x,s)=>(s,r,x.1,x.2,endAt x.1)
end
end PG
namespace L2
open PySem
def fX:PG.Wd->Str
 |.ask=>"ask" |.put=>"put" |.say=>"say" |.b8=>"must" |.stop=>"stop" |.ifs=>"if" |.fe=>"while" |.nN=>"else" |.fin=>"end"
mutual
def de:PG.bF->Dp
 |.ask k b=>.tup [.str "ask",.int k,.str (S b)]
 |.put k b e=>.tup [.str "put",.int k,.str (S b),jk e]
 |.say k e=>.tup [.str "say",.int k,jk e]
 |.b8 k sg l r=>.tup [.str "must",.int k,.str (S sg),jk l,jk r]
 |.stop k=>.tup [.str "stop",.int k]
 |.ifs k sg l r a b=>.tup [.str "if",.int k,.str (S sg),jk l,jk r,.lst (zj a),.lst (zj b)]
 |.fe k sg l r a=>.tup [.str "while",.int k,.str (S sg),jk l,jk r,.lst (zj a)]
def zj:List PG.bF->List Dp
 |[]=>[]
 |s::r=>de s::zj r
end
theorem eX:∀l:List PG.bF,zj l=l.map de
 |[]=>rfl
 |s::r=>by rw[zj,eX r];rfl
def iz (b:PG.fV):Dp:=.tup [.str (S b.name),.int b.size,.int b.first]
def iZ (p:PG.Prog):Dp:=.tup [.lst (p.aC.map iz),.lst (p.body.map de)]
def jF (r:PG.Row):Dp:=.lst [.int r.1,.str (fX r.2)]
def fj:PG.Tg->Dp
 |.row k=>.tup [.str "row",.int k]
 |.side k b=>.tup [.str "side",.int k,.bl b]
 |.b8 k=>.tup [.str "must",.int k]
 |.fin=>.tup [.str "end"]
def bc (O:Addr->Prop) (H H':Hp):Prop:=∀b o,¬O b->H b=some o->H' b=some o
def Fix (K:PySem.W.Frag) (O:Addr->Prop) (H:Hp) (d:Dp) (v:V):Prop:=∀H',bc O H H'->Rep K H' d v
def eP (K:PySem.W.Frag) (O:Addr->Prop) (H:Hp) (ds:List Dp) (vs:List V):Prop:=∀H',bc O H H'->aQ K H' ds vs
section
variable{K:PySem.W.Frag}{O O':Addr->Prop}{H H1 H2:Hp}{d:Dp}{ds:List Dp}{v:V}{vs:List V}{p:Addr}{o:HO}
theorem bc.refl:bc O H H:=fun _ _ _ e=>e
theorem bc.trans(a:bc O H H1)(b:bc O H1 H2):bc O H H2:=fun c u n e=>b c u n (a c u n e)
theorem bc.of(s:av H H1):bc O H H1:=fun b u _ e=>s b u e
theorem bc.mono(a:bc O H H1)(i:∀b,O b->O' b):bc O' H H1:=fun b u n e=>a b u (fun z=>n (i b z)) e
theorem bc.one(a:bz p H H1)(hp:O p):bc O H H1:=fun b u n e=>a b u (fun z=>n (by rw[z];exact hp)) e
theorem bc.put(a:bc O H H1)(hp:O p)(u:HO):bc O H (upd H1 p u):=fun b w n e=>by rw[ay (fun z=>n (by rw[z];exact hp))];exact a b w n e
theorem Fix.up(f:Fix K O H d v)(u:bc O H H1):Fix K O H1 d v:=fun H2 u2=>f H2 (u.trans u2)
theorem eP.up(f:eP K O H ds vs)(u:bc O H H1):eP K O H1 ds vs:=fun H2 u2=>f H2 (u.trans u2)
theorem Fix.rep(f:Fix K O H d v):Rep K H d v:=f H .refl
theorem eP.FZ(f:eP K O H ds vs):aQ K H ds vs:=f H .refl
theorem Fix.sub(f:Fix K O H d v)(i:∀b,O' b->O b):Fix K O' H d v:=fun H2 u=>f H2 (u.mono i)
theorem eP.sub(f:eP K O H ds vs)(i:∀b,O' b->O b):eP K O' H ds vs:=fun H2 u=>f H2 (u.mono i)
theorem Fix.apart(f:Fix K O H d v)(hp:H p=none):Fix K (fun b=>O b\/b=p) (upd H p o) d v:=fun H2 u=>f H2 fun b w n e=>by
 have np:b≠p:=ao e hp
 exact u b w (fun z=>z.elim n np) (by rw[ay np];exact e)
theorem eP.apart(f:eP K O H ds vs)(hp:H p=none):eP K (fun b=>O b\/b=p) (upd H p o) ds vs:=fun H2 u=>f H2 fun b w n e=>by
 have np:b≠p:=ao e hp
 exact u b w (fun z=>z.elim n np) (by rw[ay np];exact e)
theorem eP.nil:eP K O H [] []:=fun _ _=>.nil
theorem eP.cons(a:Fix K O H d v)(b:eP K O H ds vs):eP K O H (d::ds) (v::vs):=fun H2 u=>.cons (a H2 u) (b H2 u)
theorem eP.snoc(b:eP K O H ds vs)(a:Fix K O H d v):eP K O H (ds++[d]) (vs++[v]):=fun H2 u=>(b H2 u).append (.cons (a H2 u) .nil)
theorem Fix.int{i:Int}:Fix K O H (.int i) (.int i):=fun _ _=>Rep.bB.mpr rfl
theorem Fix.str{x:Str}:Fix K O H (.str x) (.str x):=fun _ _=>Rep.bE.mpr rfl
theorem Fix.bl{x:Bool}:Fix K O H (.bl x) (.bl x):=fun _ _=>Rep.mD.mpr rfl
theorem Fix.tup(h:H p=some (.tup vs))(n:¬O p)(f:eP K O H ds vs):Fix K O H (.tup ds) (.ref p):=fun H2 u=>Rep.bq.mpr ⟨p,vs,rfl,.of (u p _ n h),f H2 u⟩
theorem Fix.lst(h:H p=some (.lst vs))(n:¬O p)(f:eP K O H ds vs):Fix K O H (.lst ds) (.ref p):=fun H2 u=>Rep.bI.mpr ⟨p,vs,rfl,.of (u p _ n h),f H2 u⟩
end
structure ig(K:PySem.W.Frag)(H:Hp)(D S:Addr)(sc:List Int)(p:Nat):Prop where
 bH:H D=some (.lst [.ref S,.int p])
 fU:H S=some (.lst (sc.map .int))
 ne:S≠D
 len:sc.length<=63
end L2
namespace L2
open PySem
section
variable(K:PySem.W.Frag)
def uf:Sp:=fun vs H Q _=>∃(D S:Addr) (sc:List Int) (p:Nat),vs=[.ref D]/\ig K H D S sc p/\p<=100000/\∀H',bz D H H'->ig K H' D S sc (p+1)->Q (.int (PG.next sc p)) H'
end
theorem ig.same{K:PySem.W.Frag}{H H':Hp}{D S:Addr}{sc:List Int}{p:Nat}(d:ig K H D S sc p)(s:av H H'):ig K H' D S sc p:=⟨s _ _ d.bH,s _ _ d.fU,d.ne,d.len⟩
theorem EA{a:Option V}{r:St}{H:Hp}{Q:VK}:(g9 13 (a::r) H Q)=(g9 12 r H Q):=rfl
theorem EB{a:Option V}{r:St}{H:Hp}{Q:VK}:(g9 14 (a::r) H Q)=(g9 13 r H Q):=rfl
def jG (K:PySem.W.Frag) (O:Addr->Prop) (H:Hp) (B:Addr) (bs:List PG.fV):Prop:=Fix K O H (.lst (bs.map iz)) (.ref B)/\bs.length<=10
def Own (K:PySem.W.Frag) (H0 H:Hp) (d:Dp) (v:V):Prop:=∀O:Addr->Prop,(∀b,O b->H0 b≠none)->Fix K O H d v
section
variable(K:PySem.W.Frag)
def wu (n:Nat):Sp:=fun vs H Q _=>∃(D S B:Addr) (sc:List Int) (p d:Nat) (bs:List PG.fV),vs=[.ref D,.ref B,.int d]/\d<n/\ig K H D S sc p/\p+4*2 ^ d<=100000/\jG K (·=D) H B bs/\
 ∀v H',bz D H H'->ig K H' D S sc (PG.cC sc bs d p).2->Own K H H' (jk (PG.cC sc bs d p).1) v->Q v H'
def CZ:Sp:=fun vs H Q _=>∃(D S:Addr) (sc:List Int) (p:Nat),vs=[.ref D]/\ig K H D S sc p/\p<=90000/\
 ∀B H',bz D H H'->ig K H' D S sc (PG.bV sc (PG.next sc p%4) (PG.next sc (p+1)%4).toNat 0 (p+2)).2->H B=none->
  Own K H H' (.lst ((PG.bV sc (PG.next sc p%4) (PG.next sc (p+1)%4).toNat 0 (p+2)).1.map iz)) (.ref B)->Q (.ref B) H'
def C0:Sp:=fun vs H Q _=>∃(D S B:Addr) (sc:List Int) (p:Nat) (k:Int) (bs:List PG.fV),vs=[.ref D,.ref B,.int k]/\ig K H D S sc p/\p<=90000/\jG K (·=D) H B bs/\
 ∀v H',bz D H H'->ig K H' D S sc (PG.bY sc bs k p).2->Own K H H' (de (PG.bY sc bs k p).1) v->Q v H'
end
section
variable{K:PySem.W.Frag}{O:Addr->Prop}{H0 H H1:Hp}{d:Dp}{v:V}{D B:Addr}{bs:List PG.fV}
theorem Own.up(f:Own K H0 H d v)(u:bz D H H1)(hD:H0 D≠none):Own K H0 H1 d v:=fun O hO=>by
 have:=f (fun b=>O b\/b=D) (fun b hb=>hb.elim (hO b) (fun e=>e▸hD))
 exact(this.up (bc.one u (.inr rfl))).sub fun b hb=>.inl hb
theorem Own.back{YL:Hp}(f:Own K H0 H d v)(h:∀b,YL b≠none->H0 b≠none):Own K YL H d v:=fun O hO=>f O fun b hb=>h b (hO b hb)
theorem jG.up(f:jG K (·=D) H B bs)(u:bz D H H1):jG K (·=D) H1 B bs:=⟨f.1.up (bc.one u rfl),f.2⟩
theorem jG.same(f:jG K (·=D) H B bs)(s:av H H1):jG K (·=D) H1 B bs:=⟨f.1.up (.of s),f.2⟩
theorem bz.pU(u:bz D H H1)(hD:H1 D≠none):∀b,H b≠none->H1 b≠none:=fun b hb=>by
 by_cases e:b=D
 ·rw[e];exact hD
 ·cases z:H b with
  |none=>exact absurd z hb
  |some o=>rw[u b o e z];simp
theorem jG.list(f:jG K O H B bs):∃xs,il K H B xs/\xs.length=bs.length/\∀(i:Nat) (b:PG.fV),bs[i]?=some b->∃a ys,xs[i]?=some (.ref a)/\c5 K H a ys/\ys=[.str (S b.name),.int b.size,.int b.first]:=by
 have r:=f.1.rep
 rw[Rep.bI] at r
 obtain⟨a,xs,e,q,rs⟩:=r
 cases e
 refine⟨xs,q,by rw[rs.length,List.length_map],fun i b hb=>?_⟩
 obtain⟨v,hv,rv⟩:=rs.get (i:=i) (d:=iz b) (by rw[List.getElem?_map,hb];rfl)
 unfold iz at rv
 rw[Rep.bq] at rv
 obtain⟨a2,ys,rfl,q2,r2⟩:=rv
 refine⟨a2,ys,hv,q2,?_⟩
 rw[aQ.aJ] at r2
 obtain⟨v1,t1,rfl,e1,r2⟩:=r2
 rw[aQ.aJ] at r2
 obtain⟨v2,t2,rfl,e2,r2⟩:=r2
 rw[aQ.aJ] at r2
 obtain⟨v3,t3,rfl,e3,r2⟩:=r2
 rw[aQ.br] at r2
 subst r2
 rw[Rep.bE] at e1
 rw[Rep.bB] at e2 e3
 subst e1 e2 e3
 rfl
end
def lG (K:PySem.W.Frag) (H0 H:Hp) (ds:List Dp) (vs:List V):Prop:=∀O:Addr->Prop,(∀b,O b->H0 b≠none)->eP K O H ds vs
section
variable{K:PySem.W.Frag}{H0 H H1:Hp}{d:Dp}{v:V}{ds:List Dp}{vs:List V}{D p:Addr}
theorem lG.nil:lG K H0 H [] []:=fun _ _=>eP.nil
theorem lG.cons(a:Own K H0 H d v)(b:lG K H0 H ds vs):lG K H0 H (d::ds) (v::vs):=fun O h=>eP.cons (a O h) (b O h)
theorem Own.int{i:Int}:Own K H0 H (.int i) (.int i):=fun _ _=>Fix.int
theorem Own.str{x:Str}:Own K H0 H (.str x) (.str x):=fun _ _=>Fix.str
theorem lG.same(f:lG K H0 H ds vs)(s:av H H1):lG K H0 H1 ds vs:=fun O hO=>(f O hO).up (.of s)
theorem jQ(hp:H p=none)(pU:∀b,H0 b≠none->H b≠none)(f:lG K H0 H ds vs):Own K H0 (upd H p (.tup vs)) (.tup ds) (.ref p):=fun O hO=>by
 have np:¬O p:=fun z=>pU p (hO p z) hp
 exact Fix.tup ai np ((f.same (av.new hp _)) O hO)
end
theorem jG.pick{K:PySem.W.Frag}{O:Addr->Prop}{H:Hp}{B:Addr}{bs:List PG.fV}(f:jG K O H B bs){i:Int}(h0:0<=i)(h1:i<bs.length){Q:VK}(q:Q (.str (S (PG.pick ⟨[],0,0⟩ bs i).name)) H) :
 AJ K (.ref B) (.int i) H (fun x H1=>Cw K x (.int 0) H1 Q):=by
 obtain⟨xs,hx,_,get⟩:=f.list
 have lt:i.toNat<bs.length:=by lia
 have e:bs[i.toNat]?=some (PG.pick ⟨[],0,0⟩ bs i):=by
  unfold PG.pick
  rw[List.getD_eq_getElem?_getD,List.getElem?_eq_getElem lt]
  rfl
 obtain⟨a,ys,hy,q2,rfl⟩:=get _ _ e
 have ei:i=((i.toNat:Nat):Int):=by lia
 refine bC hx (v:=.ref a) (by rw[ei];exact au hy) (aI q2 (v:=.str (S (PG.pick ⟨[],0,0⟩ bs i).name)) (au (j:=0) rfl) q)
theorem lG.up{K:PySem.W.Frag}{H0 H H1:Hp}{ds:List Dp}{vs:List V}{D:Addr}(f:lG K H0 H ds vs)(u:bz D H H1)(hD:H0 D≠none):lG K H0 H1 ds vs:=fun O hO=>by
 have:=f (fun b=>O b\/b=D) (fun b hb=>hb.elim (hO b) (fun e=>e▸hD))
 exact(this.up (bc.one u (.inr rfl))).sub fun b hb=>.inl hb
theorem lG.snoc{K:PySem.W.Frag}{H0 H:Hp}{d:Dp}{v:V}{ds:List Dp}{vs:List V}(b:lG K H0 H ds vs)(a:Own K H0 H d v):lG K H0 H (ds++[d]) (vs++[v]):=fun O h=>eP.snoc (b O h) (a O h)
theorem O8{K:PySem.W.Frag}{H0 H:Hp}{ds:List Dp}{vs xs ys:List V}{B:Addr}(h:H B=some (.lst xs))(f:lG K H0 H ds vs)(hB:H0 B≠none):lG K H0 (upd H B (.lst ys)) ds vs:=f.up ((bz.refl B H).put _) hB
end L2
namespace L2
open PySem
def su:Nat->Str
 |0=>"all"
 |1=>"if"
 |2=>"else"
 |_=>"while"
structure fk(K:PySem.W.Frag)(Oo:Addr->Prop)(H:Hp)(f:PG.Frame)(a b:Addr)(hd fi:V)(xs:List V):Prop where
 fr:H a=some (.lst [.str (su f.kind),.ref b,hd,fi])
 bd:H b=some (.lst xs)
 ok:eP K Oo H (f.body.map de) xs
 F0:f.kind≠0->∃c ys,hd=.ref c/\H c=some (.tup ys)/\¬Oo c/\eP K Oo H [.str (if f.kind=3 then "while" else "if"),.int f.k,.str (S f.sg),jk f.l,jk f.r] ys
 IW:f.kind=2->Fix K Oo H (.lst (f.first.map de)) fi
 len:xs.length=f.body.length
abbrev xj:=PG.Frame×Addr×Addr
def iA (D P R:Addr) (dO:List xj):List Addr:=D::P::R::dO.flatMap fun x=>[x.2.1,x.2.2]
def O (D P R:Addr) (dO:List xj) (E:List Addr):Addr->Prop:=fun b=>b∈iA D P R dO\/b∈E
structure lH(K:PySem.W.Frag)(H:Hp)(D S:Addr)(sc:List Int)(p:Nat)(B:Addr)(bs:List PG.fV)(P R:Addr)(dO:List xj)(rows:List PG.Row)(E:List Addr):Prop where
 bH:ig K H D S sc p
 box:Fix K (O D P R dO E) H (.lst (bs.map iz)) (.ref B)
 tS:bs.length<=10
 a8:H P=some (.lst (dO.reverse.map fun x=>.ref x.2.1))
 frames:∀x∈dO,∃hd fi xs,fk K (O D P R dO E) H x.1 x.2.1 x.2.2 hd fi xs
 rows:∃xk,H R=some (.lst xk)/\eP K (O D P R dO E) H (rows.map jF) xk/\xk.length=rows.length
 nd:(iA D P R dO).Nodup
 nS:S ∉ iA D P R dO
section
variable{K:PySem.W.Frag}{H H':Hp}{D S B P R:Addr}{sc:List Int}{p p':Nat}{bs:List PG.fV}{dO:List xj}{rows:List PG.Row}{E E':List Addr}
theorem fk.up{Oo:Addr->Prop}{f:PG.Frame}{a b:Addr}{hd fi:V}{xs:List V}(x:fk K Oo H f a b hd fi xs)(u:bc Oo H H')(ha:H' a=H a)(hb:H' b=H b):fk K Oo H' f a b hd fi xs:=
 ⟨ha.trans x.fr,hb.trans x.bd,x.ok.up u,fun z=>let ⟨c,ys,e,h,n,g⟩:=x.F0 z;⟨c,ys,e,u _ _ n h,n,g.up u⟩,fun z=>(x.IW z).up u,x.len⟩
theorem fk.sub{O1 O2:Addr->Prop}{f:PG.Frame}{a b:Addr}{hd fi:V}{xs:List V}(x:fk K O1 H f a b hd fi xs)(i:∀c,O2 c->O1 c):fk K O2 H f a b hd fi xs:=
 ⟨x.fr,x.bd,x.ok.sub i,fun z=>let ⟨c,ys,e,h,n,g⟩:=x.F0 z;⟨c,ys,e,h,fun w=>n (i c w),g.sub i⟩,fun z=>(x.IW z).sub i,x.len⟩
theorem fk.apart{O1:Addr->Prop}{f:PG.Frame}{a b q:Addr}{hd fi:V}{xs:List V}{o:HO}(x:fk K O1 H f a b hd fi xs)(hq:H q=none):fk K (fun c=>O1 c\/c=q) (upd H q o) f a b hd fi xs:=
 ⟨by rw[ay (ao x.fr hq)];exact x.fr,by rw[ay (ao x.bd hq)];exact x.bd,x.ok.apart hq,fun z=>let ⟨c,ys,e,h,n,g⟩:=x.F0 z;⟨c,ys,e,by rw[ay (ao h hq)];exact h,fun w=>w.elim n (ao h hq),g.apart hq⟩,fun z=>(x.IW z).apart hq,x.len⟩
theorem lH.ne(s:lH K H D S sc p B bs P R dO rows E):D≠P/\D≠R/\P≠R/\∀x∈dO,x.2.1≠D/\x.2.2≠D/\x.2.1≠P/\x.2.2≠P/\x.2.1≠R/\x.2.2≠R:=by
 have nd:=s.nd
 unfold iA at nd
 rw[List.nodup_cons,List.nodup_cons,List.nodup_cons] at nd
 obtain⟨h1,h2,h3,h4⟩:=nd
 simp only[List.mem_cons,not_or] at h1 h2
 refine⟨h1.1,h1.2.1,h2.1,fun x hx=>?_⟩
 have m1:x.2.1∈dO.flatMap fun x=>[x.2.1,x.2.2]:=List.mem_flatMap.mpr ⟨x,hx,by simp⟩
 have m2:x.2.2∈dO.flatMap fun x=>[x.2.1,x.2.2]:=List.mem_flatMap.mpr ⟨x,hx,by simp⟩
 exact⟨fun e=>h1.2.2 (e▸m1),fun e=>h1.2.2 (e▸m2),fun e=>h2.2 (e▸m1),fun e=>h2.2 (e▸m2),fun e=>h3 (e▸m1),fun e=>h3 (e▸m2)⟩
theorem lH.pU(s:lH K H D S sc p B bs P R dO rows E):∀b,b∈iA D P R dO->H b≠none:=fun b hb=>by
 unfold iA at hb
 simp only[List.mem_cons,List.mem_flatMap] at hb
 rcases hb with rfl |rfl |rfl |⟨x,hx,hb⟩
 ·rw[s.bH.bH];simp
 ·rw[s.a8];simp
 ·obtain⟨xk,h,_⟩:=s.rows
  rw[h];simp
 ·obtain⟨hd,fi,xs,fa⟩:=s.frames x hx
  simp only[List.not_mem_nil,or_false] at hb
  rcases hb with rfl |rfl
  ·rw[fa.fr];simp
  ·rw[fa.bd];simp
theorem lH.fresh(s:lH K H D S sc p B bs P R dO rows E){q:Addr}(hq:H q=none):q ∉ iA D P R dO:=fun z=>s.pU q z hq
theorem lH.draw(s:lH K H D S sc p B bs P R dO rows E)(u:bz D H H')(dk:ig K H' D S sc p'):lH K H' D S sc p' B bs P R dO rows E:=by
 obtain⟨n1,n2,n3,n4⟩:=s.ne
 have uS:bc (O D P R dO E) H H':=bc.one u (.inl (by simp[iA]))
 refine⟨dk,s.box.up uS,s.tS,u _ _ n1.symm s.a8,fun x hx=>?_,?_,s.nd,s.nS⟩
 ·obtain⟨hd,fi,xs,fa⟩:=s.frames x hx
  obtain⟨m1,m2,_⟩:=n4 x hx
  exact⟨hd,fi,xs,fa.up uS ((u _ _ m1 fa.fr).trans fa.fr.symm) ((u _ _ m2 fa.bd).trans fa.bd.symm)⟩
 ·obtain⟨xk,h,f,l⟩:=s.rows
  exact⟨xk,u _ _ n2.symm h,f.up uS,l⟩
theorem lH.same(s:lH K H D S sc p B bs P R dO rows E)(e:av H H'):lH K H' D S sc p B bs P R dO rows E:=s.draw (.of e) (s.bH.same e)
theorem lH.aC(s:lH K H D S sc p B bs P R dO rows E):jG K (·=D) H B bs:=⟨s.box.sub fun b hb=>.inl (by rw[show b=D from hb];simp[iA]),s.tS⟩
theorem lH.less(s:lH K H D S sc p B bs P R dO rows E)(i:∀b,b∈E'->b∈E):lH K H D S sc p B bs P R dO rows E':=by
 have j:∀b,O D P R dO E' b->O D P R dO E b:=fun b hb=>hb.elim .inl fun z=>.inr (i b z)
 exact⟨s.bH,s.box.sub j,s.tS,s.a8,fun x hx=>let ⟨hd,fi,xs,fa⟩:=s.frames x hx;⟨hd,fi,xs,fa.sub j⟩,let ⟨xk,h,f,l⟩:=s.rows;⟨xk,h,f.sub j,l⟩,s.nd,s.nS⟩
theorem lH.more(s:lH K H D S sc p B bs P R dO rows E){q:Addr}(hq:H q=none)(o:HO):lH K (upd H q o) D S sc p B bs P R dO rows (q::E):=by
 have j:∀b,O D P R dO (q::E) b->(O D P R dO E b\/b=q):=fun b hb=>by
  rcases hb with h |h
  ·exact .inl (.inl h)
  ·rcases List.mem_cons.mp h with h |h
   ·exact .inr h
   ·exact .inl (.inr h)
 have sm:=av.new hq o
 exact⟨s.bH.same sm,(s.box.apart hq).sub j,s.tS,sm _ _ s.a8,fun x hx=>let ⟨hd,fi,xs,fa⟩:=s.frames x hx;⟨hd,fi,xs,(fa.apart hq).sub j⟩,let ⟨xk,h,f,l⟩:=s.rows;⟨xk,sm _ _ h,(f.apart hq).sub j,l⟩,s.nd,s.nS⟩
theorem lH.row(s:lH K H D S sc p B bs P R dO rows E){xk:List V}(hR:H R=some (.lst xk)){k:Int}{w:PG.Wd}{q:Addr}(hq:H q=some (.lst [.int k,.str (fX w)]))(nq:¬O D P R dO E q):lH K (upd H R (.lst (xk++[.ref q]))) D S sc p B bs P R dO (rows++[(k,w)]) E:=by
 obtain⟨n1,n2,n3,n4⟩:=s.ne
 have mR:R∈iA D P R dO:=by simp[iA]
 have uS:bc (O D P R dO E) H (upd H R (.lst (xk++[.ref q]))):=bc.refl.put (.inl mR) _
 have nSR:S≠R:=fun e=>s.nS (by rw[e];exact mR)
 refine⟨⟨by rw[ay n2];exact s.bH.bH,by rw[ay nSR];exact s.bH.fU,s.bH.ne,s.bH.len⟩,s.box.up uS,s.tS,by rw[ay n3];exact s.a8,fun x hx=>?_,?_,s.nd,s.nS⟩
 ·obtain⟨hd,fi,xs,fa⟩:=s.frames x hx
  obtain⟨_,_,_,_,m1,m2⟩:=n4 x hx
  exact⟨hd,fi,xs,fa.up uS (ay m1) (ay m2)⟩
 ·obtain⟨aaC,h,f,l⟩:=s.rows
  rw[hR] at h
  cases h
  refine⟨_,ai,?_,by simp[l]⟩
  rw[List.map_append]
  exact(f.up uS).snoc (Fix.lst (by rw[ay (fun e=>nq (.inl (by rw[e];exact mR)))];exact hq) nq (.cons .int (.cons .str .nil)))
theorem lH.YM{f:PG.Frame}{a b:Addr}{r:List xj}(s:lH K H D S sc p B bs P R ((f,a,b)::r) rows E){xs:List V}(hb:H b=some (.lst xs)){st:PG.bF}{v:V}(hv:Fix K (O D P R ((f,a,b)::r) E) H (de st) v) :
 lH K (upd H b (.lst (xs++[v]))) D S sc p B bs P R (({f with body:=f.body++[st]},a,b)::r) rows E:=by
 obtain⟨n1,n2,n3,n4⟩:=s.ne
 have mb:b∈iA D P R ((f,a,b)::r):=by simp[iA]
 have uS:bc (O D P R ((f,a,b)::r) E) H (upd H b (.lst (xs++[v]))):=bc.refl.put (.inl mb) _
 obtain⟨m1,m2,m3,m4,m5,m6⟩:=n4 _ (List.mem_cons_self ..)
 have Sh:S≠b:=fun e=>s.nS (by rw[e];exact mb)
 have nd:=s.nd
 have V9:a≠b/\∀x∈r,x.2.1≠b/\x.2.2≠b:=by
  unfold iA at nd
  rw[List.nodup_cons,List.nodup_cons,List.nodup_cons,List.flatMap_cons] at nd
  obtain⟨_,_,_,h4⟩:=nd
  simp only[List.cons_append,List.nil_append,List.nodup_cons,List.mem_cons,not_or] at h4
  exact⟨h4.1.1,fun x hx=>⟨fun e=>h4.2.1 (List.mem_flatMap.mpr ⟨x,hx,by simp[e]⟩),fun e=>h4.2.1 (List.mem_flatMap.mpr ⟨x,hx,by simp[e]⟩)⟩⟩
 refine⟨⟨by rw[ay m2.symm];exact s.bH.bH,by rw[ay Sh];exact s.bH.fU,s.bH.ne,s.bH.len⟩,s.box.up uS,s.tS,by rw[ay m4.symm,s.a8,List.reverse_cons,List.reverse_cons,List.map_append,List.map_append];rfl,fun x hx=>?_,?_,s.nd,s.nS⟩
 ·rcases List.mem_cons.mp hx with rfl |hx
  ·obtain⟨hd,fi,Ef,fa⟩:=s.frames _ (List.mem_cons_self ..)
   have e:=fa.bd
   rw[hb] at e
   cases e
   have fu:=(show fk K (O D P R ((f,a,b)::r) E) H f a b hd fi xs from fa)
   refine⟨hd,fi,_,⟨by rw[ay V9.1];exact fa.fr,ai,?_,fun z=>let ⟨c,ys,e,h,n,g⟩:=fu.F0 z;⟨c,ys,e,uS _ _ n h,n,g.up uS⟩,fun z=>(fu.IW z).up uS,by simp[fu.len]⟩⟩
   show eP K _ _ ((f.body++[st]).map de) _
   rw[List.map_append]
   exact(fu.ok.up uS).snoc (hv.up uS)
  ·obtain⟨hd,fi,Ef,fa⟩:=s.frames x (List.mem_cons_of_mem _ hx)
   exact⟨hd,fi,Ef,fa.up uS (ay (V9.2 x hx).1) (ay (V9.2 x hx).2)⟩
 ·obtain⟨xk,h,g,l⟩:=s.rows
  exact⟨xk,by rw[ay m6.symm];exact h,g.up uS,l⟩
theorem lH.pop{f:PG.Frame}{a b:Addr}{r:List xj}(s:lH K H D S sc p B bs P R ((f,a,b)::r) rows E) :
 lH K (upd H P (.lst (r.reverse.map fun x=>.ref x.2.1))) D S sc p B bs P R r rows (a::b::E)/\(∃hd fi xs,fk K (O D P R r (a::b::E)) (upd H P (.lst (r.reverse.map fun x=>.ref x.2.1))) f a b hd fi xs)/\a ∉ iA D P R r/\b ∉ iA D P R r/\a≠b:=by
 obtain⟨n1,n2,n3,n4⟩:=s.ne
 have mP:P∈iA D P R ((f,a,b)::r):=by simp[iA]
 have uS:bc (O D P R ((f,a,b)::r) E) H (upd H P (.lst (r.reverse.map fun x=>.ref x.2.1))):=bc.refl.put (.inl mP) _
 have j:∀c,O D P R r (a::b::E) c->O D P R ((f,a,b)::r) E c:=fun c hc=>by
  simp only[O,iA,List.mem_cons,List.flatMap_cons,List.cons_append,List.nil_append] at hc ⊢
  rcases hc with (h |h |h |h) |h |h |h
  ·exact .inl (.inl h)
  ·exact .inl (.inr (.inl h))
  ·exact .inl (.inr (.inr (.inl h)))
  ·exact .inl (.inr (.inr (.inr (.inr (.inr h)))))
  ·exact .inl (.inr (.inr (.inr (.inl h))))
  ·exact .inl (.inr (.inr (.inr (.inr (.inl h)))))
  ·exact .inr h
 have sub:∀c,c∈iA D P R r->c∈iA D P R ((f,a,b)::r):=fun c hc=>by
  simp only[iA,List.mem_cons,List.flatMap_cons,List.cons_append,List.nil_append] at hc ⊢
  rcases hc with h |h |h |h
  ·exact .inl h
  ·exact .inr (.inl h)
  ·exact .inr (.inr (.inl h))
  ·exact .inr (.inr (.inr (.inr (.inr h))))
 have nd:=s.nd
 unfold iA at nd
 rw[List.flatMap_cons] at nd
 simp only[List.cons_append,List.nil_append,List.nodup_cons,List.mem_cons,not_or] at nd
 obtain⟨⟨d1,d2,d3,d4,d5⟩,⟨p1,p2,p3,p4⟩,⟨r1,r2,r3⟩,⟨a1,a2⟩,b1,fl⟩:=nd
 have Wa:S≠P:=fun e=>s.nS (by rw[e];exact mP)
 obtain⟨m1,m2,m3,m4,m5,m6⟩:=n4 _ (List.mem_cons_self ..)
 refine⟨⟨⟨by rw[ay n1];exact s.bH.bH,by rw[ay Wa];exact s.bH.fU,s.bH.ne,s.bH.len⟩,(s.box.up uS).sub j,s.tS,ai,fun x hx=>?_,?_,?_,fun z=>s.nS (sub _ z)⟩,?_,?_,?_,a1⟩
 ·obtain⟨hd,fi,Ef,fa⟩:=s.frames x (List.mem_cons_of_mem _ hx)
  obtain⟨_,_,k3,k4,_,_⟩:=n4 x (List.mem_cons_of_mem _ hx)
  exact⟨hd,fi,Ef,(fa.up uS (ay k3) (ay k4)).sub j⟩
 ·obtain⟨xk,h,g,l⟩:=s.rows
  exact⟨xk,by rw[ay n3.symm];exact h,(g.up uS).sub j,l⟩
 ·unfold iA
  simp only[List.nodup_cons,List.mem_cons,not_or]
  exact⟨⟨d1,d2,d5⟩,⟨p1,p4⟩,r3,fl⟩
 ·obtain⟨hd,fi,Ef,fa⟩:=s.frames _ (List.mem_cons_self ..)
  exact⟨hd,fi,Ef,(fa.up uS (ay m3) (ay m4)).sub j⟩
 ·unfold iA
  simp only[List.mem_cons,not_or]
  exact⟨m1,m3,m5,a2⟩
 ·unfold iA
  simp only[List.mem_cons,not_or]
  exact⟨m2,m4,m6,b1⟩
theorem lH.push(s:lH K H D S sc p B bs P R dO rows E){f:PG.Frame}{a b:Addr}{hd fi:V}{xs:List V}(fa:fk K (O D P R dO E) H f a b hd fi xs)(ha:a ∉ iA D P R dO)(hb:b ∉ iA D P R dO)(Si:a≠b)(Wb:S≠a)(Sh:S≠b)(ea:a∈E)(eb:b∈E) :
 lH K (upd H P (.lst ((dO.reverse.map fun x=>.ref x.2.1)++[.ref a]))) D S sc p B bs P R ((f,a,b)::dO) rows E:=by
 obtain⟨n1,n2,n3,n4⟩:=s.ne
 have mP:P∈iA D P R dO:=by simp[iA]
 have uS:bc (O D P R dO E) H (upd H P (.lst ((dO.reverse.map fun x=>.ref x.2.1)++[.ref a]))):=bc.refl.put (.inl mP) _
 have j:∀c,O D P R ((f,a,b)::dO) E c->O D P R dO E c:=fun c hc=>by
  simp only[O,iA,List.mem_cons,List.flatMap_cons,List.cons_append,List.nil_append] at hc ⊢
  rcases hc with (h |h |h |h |h |h) |h
  ·exact .inl (.inl h)
  ·exact .inl (.inr (.inl h))
  ·exact .inl (.inr (.inr (.inl h)))
  ·exact .inr (by rw[h];exact ea)
  ·exact .inr (by rw[h];exact eb)
  ·exact .inl (.inr (.inr (.inr h)))
  ·exact .inr h
 have Wa:S≠P:=fun e=>s.nS (by rw[e];exact mP)
 unfold iA at ha hb
 simp only[List.mem_cons,not_or] at ha hb
 have nd:=s.nd
 unfold iA at nd
 simp only[List.nodup_cons,List.mem_cons,not_or] at nd
 obtain⟨⟨d1,d2,d5⟩,⟨p1,p4⟩,r3,fl⟩:=nd
 have nS:=s.nS
 unfold iA at nS
 simp only[List.mem_cons,not_or] at nS
 refine⟨⟨by rw[ay n1];exact s.bH.bH,by rw[ay Wa];exact s.bH.fU,s.bH.ne,s.bH.len⟩,(s.box.up uS).sub j,s.tS,by rw[ai,List.reverse_cons,List.map_append];rfl,fun x hx=>?_,?_,?_,?_⟩
 ·rcases List.mem_cons.mp hx with rfl |hx
  ·exact⟨hd,fi,xs,(fa.up uS (ay ha.2.1) (ay hb.2.1)).sub j⟩
  ·obtain⟨hd,fi,Ef,fa⟩:=s.frames x hx
   obtain⟨_,_,k3,k4,_,_⟩:=n4 x hx
   exact⟨hd,fi,Ef,(fa.up uS (ay k3) (ay k4)).sub j⟩
 ·obtain⟨xk,h,g,l⟩:=s.rows
  exact⟨xk,by rw[ay n3.symm];exact h,(g.up uS).sub j,l⟩
 ·unfold iA
  rw[List.flatMap_cons]
  simp only[List.cons_append,List.nil_append,List.nodup_cons,List.mem_cons,not_or]
  exact⟨⟨d1,d2,fun e=>ha.1 e.symm,fun e=>hb.1 e.symm,d5⟩,⟨p1,fun e=>ha.2.1 e.symm,fun e=>hb.2.1 e.symm,p4⟩,⟨fun e=>ha.2.2.1 e.symm,fun e=>hb.2.2.1 e.symm,r3⟩,⟨Si,ha.2.2.2⟩,hb.2.2.2,fl⟩
 ·unfold iA
  rw[List.flatMap_cons]
  simp only[List.cons_append,List.nil_append,List.mem_cons,not_or]
  exact⟨nS.1,nS.2.1,nS.2.2.1,Wb,Sh,nS.2.2.2⟩
end
end L2
namespace L2
open PySem
theorem C1{K:PySem.W.Frag}{a D:Addr}{xs:List V}{tc:TT}{te:TE}{Q:VK}{r:St}{H:Hp}(p:Nat->Bool)(f:Nat->V)(hS:il K H a xs)(hl:xs.length<=16000000)(hD:H D=none)
 (test:∀i x,xs[i]?=some x->∀H2,av H H2->∀R:Bool->Hp->Prop,(∀H3,av H2 H3->R (p i) H3)->tc (some x::r) H2 R)
 (step:∀i x,xs[i]?=some x->p i=true->∀H2,av H H2->∀R:VK,(∀H3,av H2 H3->R (f i) H3)->te (some x::r) H2 R)
 (q:∀H2,av H H2->H2 D=some (.lst (((List.range xs.length).filter p).map f))->Q (.ref D) H2):vW (GR K a) D (fC 0) tc te Q (none::r) (upd H D (.lst [])):=by
 refine⟨fun i m τ H2=>m=xs.length-i/\i<=xs.length/\(∃x,τ=x::r)/\av H H2/\H2 D=some (.lst (((List.range i).filter p).map f)),⟨xs.length,by simp,Nat.zero_le _,⟨none,rfl⟩,av.new hD _,by rw[ai];simp⟩,?_⟩
 rintro i m τ H2 ⟨rfl,hi,⟨x,rfl⟩,s2,h2⟩
 by_cases ve:i<xs.length
 ·refine .inr ⟨⟨xs,xs[i],s2.seq hS,by simp[ve]⟩,fun τ' H'=>(∃x,τ'=x::r)/\av H H'/\H' D=some (.lst (((List.range (i+1)).filter p).map f)),fun τ' H' ⟨h1,h3,h4⟩=>⟨xs.length-(i+1),by lia,rfl,ve,h1,h3,h4⟩,fun y H' hy=>?_⟩
  obtain⟨rfl,hy⟩:=hy
  have ey:=hy _ (s2.seq hS)
  simp only[fC,List.set]
  refine test i y ey _ s2 _ fun H3 s3=>?_
  have QM:=s2.trans s3
  have h3:=s3 _ _ h2
  rw[List.range_succ,List.filter_append,List.map_append]
  cases hp:p i with
  |false=>
   rw[if_neg Bool.false_ne_true]
   exact⟨⟨_,rfl⟩,QM,by rw[h3];simp[hp]⟩
  |true=>
   rw[if_pos rfl]
   refine step i y ey hp _ QM _ fun H4 s4=>⟨_,s4 _ _ h3,?_,⟨_,rfl⟩,?_,?_⟩
   ·have h1:(((List.range i).filter p).map f).length<=i:=by
     rw[List.length_map]
     exact Nat.le_trans (List.length_filter_le _ _) (by rw[List.length_range];lia)
    have:sizeLine=2 ^ 24:=rfl
    lia
   ·intro b o e
    rw[ay (ao e hD)]
    exact s4 _ _ (QM _ _ e)
   ·rw[ai]
    simp[hp]
 ·have e:i=xs.length:=by lia
  subst e
  exact .inl ⟨⟨xs,s2.seq hS,Nat.le_refl _⟩,q H2 s2 h2⟩
theorem Bb{α:Type}(p:α->Bool)(d:α):∀l:List α,((List.range l.length).filter fun i=>p (l.getD i d)).length=(l.filter p).length:=by
 intro l
 have e:l=(List.range l.length).map fun i=>l.getD i d:=by
  apply List.ext_getElem
  ·simp
  ·intro i h1 h2
   simp[h1]
 conv=>rhs;rw[e]
 rw[List.filter_map,List.length_map]
 rfl
section
variable(K:PySem.W.Frag)
def IX:Sp:=fun vs H Q _=>∃(B R:Addr) (bs:List PG.fV) (rows:List PG.Row) (mode:Int),vs=[.ref B,.ref R,.int mode]/\Rep K H (.lst (bs.map iz)) (.ref B)/\Rep K H (.lst (rows.map jF)) (.ref R)/\bs.length<=10/\rows.length<=1000/\
 ∀H',av H H'->Q (.int (PG.number bs.length rows mode)) H'
def LN:Sp:=fun vs H Q _=>∃(D S:Addr) (sc:List Int) (p:Nat) (B:Addr) (bs:List PG.fV) (P R:Addr) (f g:PG.Frame) (a b a' b':Addr) (r:List xj) (rows:List PG.Row),vs=[.ref P]/\
 lH K H D S sc p B bs P R ((f,a,b)::(g,a',b')::r) rows []/\(f.kind=1\/f.kind=2\/f.kind=3)/\g.body.length<=1000/\r.length<=10/\
 ∀H',(∀c,H c≠none->H' c≠none)->(∀c o,c ∉ iA D P R ((f,a,b)::(g,a',b')::r)->H c=some o->H' c=some o)->lH K H' D S sc p B bs P R (({g with body:=g.body++[f.told]},a',b')::r) rows []->Q .ck H'
end
theorem IY{X:Cx}{K:PySem.W.Frag}(h:X.K=K):HH X (AJ K):=h▸bf
theorem jb{X:Cx}{K:PySem.W.Frag}(h:X.K=K):HH X (Cw K):=h▸aN
theorem F1{X:Cx}{K:PySem.W.Frag}(h:X.K=K):qd X (compareOp .NotIn) (VF K true):=h▸rQ
end L2
namespace L2
open PySem
section
variable(K:PySem.W.Frag)
def F2 (x:PG.Prog×List PG.Row):Dp:=.lst [iZ x.1,.lst (x.2.map jF)]
end
def Kept (D:Addr) (H H':Hp):Prop:=bz D H H'/\∀b,H b≠none->H' b≠none
theorem Kept.up{D:Addr}{H H1 H2:Hp}(k:Kept D H H1)(u:bz D H1 H2)(hD:H2 D≠none):Kept D H H2:=⟨k.1.trans u,fun b hb=>u.pU hD b (k.2 b hb)⟩
theorem Kept.same{D:Addr}{H H1 H2:Hp}(k:Kept D H H1)(s:av H1 H2):Kept D H H2:=⟨k.1.trans (.of s),fun b hb=>by
 have:=k.2 b hb
 cases z:H1 b with
 |none=>exact absurd z this
 |some o=>rw[s _ _ z];simp⟩
theorem Kept.put{D q:Addr}{H H1:Hp}(k:Kept D H H1)(hq:H q=none)(o:HO):Kept D H (upd H1 q o):=⟨fun b u n e=>by rw[ay (ao e hq)];exact k.1 b u n e,fun b hb=>by
 by_cases z:b=q
 ·rw[z,ai];simp
 ·rw[ay z];exact k.2 b hb⟩
theorem zk{c:TT}{ta tb:TS}{D:Ends}{σ:St}{H:Hp}(h:∀U:St->Hp->Prop,(∀σ' H',tb D σ' H'->U σ' H')->Fm c ta (fun _ σ H=>U σ H) D σ H):Fm c ta tb D σ H:=h (tb D) fun _ _ x=>x
theorem IZ{K:PySem.W.Frag}{H:Hp}:∀(s:PG.bF) {v:V},Rep K H (de s) v->∃a ys,v=.ref a/\c5 K H a (.str (fX s.wd)::ys):=by
 intro s v h
 have key:∃ds,de s=.tup (.str (fX s.wd)::ds):=by
  cases s<;>exact⟨_,by rw[de];rfl⟩
 obtain⟨ds,e⟩:=key
 rw[e,Rep.bq] at h
 obtain⟨a,xs,rfl,q,r⟩:=h
 rw[aQ.aJ] at r
 obtain⟨v1,t1,rfl,e1,_⟩:=r
 rw[Rep.bE] at e1
 subst e1
 exact⟨a,t1,rfl,q⟩
def aM:PG.bF->List (List PG.bF)
 |.ifs _ _ _ _ a b=>[a,b]
 |.fe _ _ _ _ a=>[a]
 |_=>[]
def iB (s:PG.bF) (x:Int):Int:=match s with
 |.fe k _ _ _ _=>k
 |_=>x
def oB (s:PG.bF) (x:Int):List Int:=match s with
 |.stop _=>[0]
 |.ifs _ _ _ _ a b=>[PG.bg a x,PG.bg b x]
 |.fe k _ _ _ a=>[PG.bg a k,x]
 |_=>[x]
theorem I0(s:PG.bF)(x:Int):PG.dI s x=(s.row,s.wd,oB s x)::((aM s).flatMap fun b=>PG.aS b (iB s x)):=by
 cases s<;>simp[PG.dI,PG.bF.row,PG.bF.wd,oB,aM,iB]
def eQ (r:PG.dQ):Dp:=.tup [.int r.1,.str (fX r.2.1),.tup (r.2.2.map .int)]
section
variable(K:PySem.W.Frag)
def sF:Sp:=fun vs H Q _=>∃(b:Addr) (body:List PG.bF) (x:Int),vs=[.ref b,.int x]/\Rep K H (.lst (body.map de)) (.ref b)/\body.length<=100000/\Q (.int (PG.bg body x)) H
def Bc:Sp:=fun vs H Q _=>∃(v:V) (st:PG.bF) (x:Int),vs=[v,.int x]/\Rep K H (de st) v/\Q (.int (iB st x)) H
def wx:Sp:=fun vs H Q _=>∃(v:V) (st:PG.bF) (H0:Hp),vs=[v]/\Rep K H0 (de st) v/\av H0 H/\∀l us H',av H H'->H l=none->H' l=some (.lst us)->aQ K H0 ((aM st).map fun b=>.lst (b.map de)) us->Q (.ref l) H'
end
theorem hZ{K:PySem.W.Frag}{H:Hp}:∀(s:PG.bF) {v:V},Rep K H (de s) v->∃a ys,v=.ref a/\c5 K H a (.str (fX s.wd) :: .int s.row::ys):=by
 intro s v h
 have key:∃ds,de s=.tup (.str (fX s.wd) :: .int s.row::ds):=by
  cases s<;>exact⟨_,by rw[de];rfl⟩
 obtain⟨ds,e⟩:=key
 rw[e,Rep.bq] at h
 obtain⟨a,xs,rfl,q,r⟩:=h
 rw[aQ.aJ] at r
 obtain⟨v1,t1,rfl,e1,r⟩:=r
 rw[aQ.aJ] at r
 obtain⟨v2,t2,rfl,e2,_⟩:=r
 rw[Rep.bE] at e1
 rw[Rep.bB] at e2
 subst e1 e2
 exact⟨a,t2,rfl,q⟩
section
variable(K:PySem.W.Frag)
def Ja (st:PG.bF):Prop:=∀b∈aM st,b.length<=100000
def Jb:Sp:=fun vs H Q _=>∃(v:V) (st:PG.bF) (x:Int),vs=[v,.int x]/\Rep K H (de st) v/\Ja st/\∀u H',av H H'->Rep K H' (.tup ((oB st x).map .int)) u->Q u H'
end
mutual
def Be:Dp->Bool
 |.lst _=>false
 |.tup l=>lI l
 |_=>true
def lI:List Dp->Bool
 |[]=>true
 |d::r=>Be d&&lI r
end
section
variable{K:PySem.W.Frag}{H H':Hp}{tl:Addr}{xs:List V}
mutual
theorem Bf(h:H tl=some (.lst xs))(u:bc (·=tl) H H'):∀(d:Dp) (v:V),Be d=true->Rep K H d v->Rep K H' d v
 |.ck,v,_,r=>by rw[Rep.rW] at r ⊢;exact r
 |.bl b,v,_,r=>by rw[Rep.mD] at r ⊢;exact r
 |.int b,v,_,r=>by rw[Rep.bB] at r ⊢;exact r
 |.str b,v,_,r=>by rw[Rep.bE] at r ⊢;exact r
 |.lst l,v,e,_=>by rw[Be] at e;cases e
 |.tup l,v,e,r=>by
  rw[Be] at e
  rw[Rep.bq] at r ⊢
  obtain⟨a,ys,rfl,q,rs⟩:=r
  refine⟨a,ys,rfl,?_,ug h u l ys e rs⟩
  rcases q with (q |⟨o,q⟩) |q
  ·exact .inl (.inl (u _ _ (cR q h (by intro z;cases z)) q))
  ·exact .inl (.inr ⟨o,u _ _ (cR q h (by intro z;cases z)) q⟩)
  ·exact .inr q
theorem ug(h:H tl=some (.lst xs))(u:bc (·=tl) H H'):∀(ds:List Dp) (vs:List V),lI ds=true->aQ K H ds vs->aQ K H' ds vs
 |[],vs,_,r=>by rw[aQ.br] at r ⊢;exact r
 |d::ds,vs,e,r=>by
  rw[lI,Bool.and_eq_true] at e
  rw[aQ.aJ] at r ⊢
  obtain⟨v,t,rfl,r1,r2⟩:=r
  exact⟨v,t,rfl,Bf h u d v e.1 r1,ug h u ds t e.2 r2⟩
end
theorem EC(h:H tl=some (.lst xs)){ds:List Dp}{vs:List V}(e:lI ds=true)(r:aQ K H ds vs):eP K (·=tl) H ds vs:=fun _ u=>ug h u ds vs e r
theorem O9(h:H tl=some (.lst xs)){d:Dp}{v:V}(e:Be d=true)(r:Rep K H d v):Fix K (·=tl) H d v:=fun _ u=>Bf h u d v e r
end
theorem uh:∀l:List Int,lI (l.map .int)=true
 |[]=>by simp[lI]
 |i::r=>by rw[List.map_cons,lI,uh r];simp[Be]
theorem Jc(r:PG.dQ):Be (eQ r)=true:=by simp[eQ,Be,lI,uh]
theorem ui:∀l:List PG.dQ,lI (l.map eQ)=true
 |[]=>by simp[lI]
 |r::l=>by rw[List.map_cons,lI,Jc,ui l];rfl
section
variable(K:PySem.W.Frag)
def vA (n:Nat):Sp:=fun vs H Q _=>∃(b:Addr) (body:List PG.bF) (x:Int),vs=[.ref b,.int x]/\Rep K H (.lst (body.map de)) (.ref b)/\PG.fS body<n/\(PG.b7 body).length<=1000/\
 ∀l us H',av H H'->H l=none->H' l=some (.lst us)->aQ K H' ((PG.aS body x).map eQ) us->Q (.ref l) H'
end
mutual
theorem jR:∀(s:PG.bF) (b:List PG.bF),b∈aM s->(PG.b7 b).length+1<=(PG.d9 s).length/\PG.fS b+1<=PG.kz s
 |.ifs k _ _ _ x y,b,h=>by
  simp only[aM,List.mem_cons,List.not_mem_nil,or_false] at h
  rw[PG.d9,PG.kz]
  simp only[List.length_cons,List.length_append]
  rcases h with rfl |rfl<;>lia
 |.fe k _ _ _ x,b,h=>by
  simp only[aM,List.mem_cons,List.not_mem_nil,or_false] at h
  rw[PG.d9,PG.kz]
  simp only[List.length_cons]
  subst h
  lia
 |.ask _ _,b,h=>by cases h
 |.put _ _ _,b,h=>by cases h
 |.say _ _,b,h=>by cases h
 |.b8 _ _ _ _,b,h=>by cases h
 |.stop _,b,h=>by cases h
end
theorem pJ:∀(l:List PG.bF) (s:PG.bF),s∈l->(PG.d9 s).length<=(PG.b7 l).length/\PG.kz s<=PG.fS l
 |[],s,h=>by cases h
 |a::r,s,h=>by
  rw[PG.b7,PG.fS,List.length_append]
  rcases List.mem_cons.mp h with rfl |h
  ·lia
  ·have:=pJ r s h
   lia
theorem F3(s:PG.bF):1<=(PG.d9 s).length:=by cases s<;>simp[PG.d9]
theorem j0:∀l:List PG.bF,l.length<=(PG.b7 l).length
 |[]=>Nat.zero_le _
 |s::r=>by
  rw[PG.b7,List.length_append,List.length_cons]
  have:=F3 s
  have:=j0 r
  lia
section
variable(K:PySem.W.Frag)
def C2:Sp:=fun vs H Q _=>∃(v:V) (pr:PG.Prog),vs=[v]/\Rep K H (iZ pr) v/\PG.fS pr.body<=3/\(PG.b7 pr.body).length<=1000/\
 ∀l us H',av H H'->H l=none->H' l=some (.lst us)->aQ K H' ((PG.aS pr.body 0).map eQ) us->Q (.ref l) H'
def F4:Sp:=fun vs H Q _=>∃(v:V) (pr:PG.Prog),vs=[v]/\Rep K H (iZ pr) v/\PG.fS pr.body<=3/\(PG.b7 pr.body).length<=1000/\
 ∀l us H',av H H'->H l=none->H' l=some (.lst us)->aQ K H' ((PG.IE (PG.b7 pr.body)).map fj) us->Q (.ref l) H'
end
end L2
namespace L2
open PySem
section
variable{X:Cx}
def Pa (K:PySem.W.Frag):R2:=fun x y H Q=>∃d,Rep K H d x/\Rep K H d y/\(∃l,d=.lst l)/\d.deep<=60/\Q (.bl true) H
theorem LO(hu:X.A.units+64<cLine):qd X (compareOp .Eq) (Pa X.K):=by
 intro pins s σ H x y v u Q I rx ry h
 obtain⟨d,h1,h2,⟨l,rfl⟩,hd,q⟩:=h
 rw[Rep.bI] at h1 h2
 obtain⟨p,xs,rfl,q1,w1⟩:=h1
 obtain⟨p',Ef,rfl,q2,w2⟩:=h2
 cases (show v=Value.ref p from rx)
 cases (show u=Value.ref p' from ry)
 obtain⟨bA,v1,t1,_⟩:=I.list q1
 obtain⟨its',v2,t2,_⟩:=I.list q2
 unfold Dp.deep at hd
 have items:=rX I w1 w2 v1 v2 (A:=X.A.in1) (by show X.A.units+1+_<_;lia)
 have n1:bA.length=its'.length:=by rw[<- v1.length,<- v2.length,w1.length,w2.length]
 refine SeqAt.eq_listAt (e:=fun _=>true) t1.isList t2.isList (by simpa using n1) (by lia) (fun j h1 h2=>items j bA[j] its'[j] (by simp at h1;simp[h1]) (by simp at h2;simp[h2])) ?_
 rw[all_true]
 exact⟨.bl true,H,I,rfl,q⟩
end
theorem gN:∀t:PM.Tr,(jk t).deep<=PG.mG t+1
 |.num n=>by simp[jk,Dp.deep,Dp.fF]
 |.box n=>by simp[jk,Dp.deep,Dp.fF]
 |.bin o l r=>by
  have:=gN l
  have:=gN r
  simp only[jk,Dp.deep,Dp.fF,PG.mG]
  lia
abbrev OkE:PG.bF->Prop:=PG.rE (fun _=>True) (fun e=>PG.mG e<=2) (fun _=>True)
abbrev Sj:List PG.bF->Prop:=PG.wc (fun _=>True) (fun e=>PG.mG e<=2) (fun _=>True)
mutual
theorem Jd:∀s:PG.bF,OkE s->(de s).deep<=2*PG.kz s+4
 |.ask k b,h=>by simp[de,Dp.deep,Dp.fF]
 |.put k b e,h=>by
  simp only[PG.rE] at h
  have:=gN e
  simp only[de,Dp.deep,Dp.fF,PG.kz]
  lia
 |.say k e,h=>by
  simp only[PG.rE] at h
  have:=gN e
  simp only[de,Dp.deep,Dp.fF,PG.kz]
  lia
 |.b8 k sg l r,h=>by
  simp only[PG.rE] at h
  have:=gN l
  have:=gN r
  simp only[de,Dp.deep,Dp.fF,PG.kz]
  lia
 |.stop k,h=>by simp[de,Dp.deep,Dp.fF]
 |.ifs k sg l r a b,h=>by
  simp only[PG.rE] at h
  have:=gN l
  have:=gN r
  have:=lJ a h.2.2.2.1
  have:=lJ b h.2.2.2.2
  simp only[de,Dp.deep,Dp.fF,PG.kz]
  lia
 |.fe k sg l r a,h=>by
  simp only[PG.rE] at h
  have:=gN l
  have:=gN r
  have:=lJ a h.2.2.2
  simp only[de,Dp.deep,Dp.fF,PG.kz]
  lia
theorem lJ:∀b:List PG.bF,Sj b->Dp.fF (zj b)<=2*PG.fS b+4
 |[],h=>by simp[zj,Dp.fF]
 |s::r,h=>by
  simp only[PG.wc] at h
  have:=Jd s h.1
  have:=lJ r h.2
  simp only[zj,Dp.fF,PG.fS]
  lia
end
theorem wz:∀b:List PG.fV,Dp.fF (b.map iz)<=1
 |[]=>by simp[Dp.fF]
 |s::r=>by
  have:=wz r
  simp only[List.map_cons,Dp.fF,iz,Dp.deep]
  lia
theorem yq:∀b:List PG.Row,Dp.fF (b.map jF)<=1
 |[]=>by simp[Dp.fF]
 |s::r=>by
  have:=yq r
  simp only[List.map_cons,Dp.fF,jF,Dp.deep]
  lia
theorem LP(sc:List Int)(many p:Nat):(F2 (PG.cb sc many p)).deep<=60:=by
 have ok:Sj (PG.cb sc many p).1.body:=PG.wg sc many p (fun _ _=>trivial) (fun d q hd=>Nat.le_trans (PG.se _ _ _ _) hd) (fun _=>trivial)
 have h1:=lJ _ ok
 have h2:=PG.A1 sc many p
 have h3:=wz (PG.cb sc many p).1.aC
 have h4:=yq (PG.cb sc many p).2
 rw[eX] at h1
 simp only[F2,iZ,Dp.deep,Dp.fF]
 lia
structure LQ(K:PySem.W.Frag)(H H2:Hp)(tl:Addr)(H3:Hp)(us:List V)(pre:List PG.Tg):Prop where
 s:av H H3
 u:bc (·=tl) H2 H3
 y:H3 tl=some (.lst us)
 f:eP K (·=tl) H3 (pre.map fj) us
 l:us.length=pre.length
section
variable{K:PySem.W.Frag}{H H2 H3 H4:Hp}{tl p:Addr}{us vs:List V}{pre:List PG.Tg}{ds:List Dp}{g:PG.Tg}
theorem LQ.same(a:LQ K H H2 tl H3 us pre)(s:av H3 H4):LQ K H H2 tl H4 us pre:=⟨a.s.trans s,a.u.trans (.of s),s _ _ a.y,a.f.up (.of s),a.l⟩
theorem LQ.app(a:LQ K H H2 tl H3 us pre)(ht:H tl=none)(hp:H3 p=none)(hg:fj g=.tup ds)(hv:∀Hx,eP K (·=tl) Hx ds vs) :
 LQ K H H2 tl (upd (upd H3 p (.tup vs)) tl (.lst (us++[.ref p]))) (us++[.ref p]) (pre++[g]):=by
 have b:=a.same (av.new hp (.tup vs))
 have np:p≠tl:=(ao a.y hp).symm
 have t:(upd H3 p (.tup vs)) p=some (.tup vs):=ai
 generalize upd H3 p (.tup vs)=H5 at *
 have uu:bc (·=tl) H5 (upd H5 tl (.lst (us++[.ref p]))):=bc.refl.put (O:=(·=tl)) rfl _
 refine⟨fun z o e=>by rw[ay (ao e ht)];exact b.s z o e,b.u.trans uu,ai,?_,by simp[a.l]⟩
 rw[List.map_append]
 refine(b.f.snoc (d:=fj g) (v:=.ref p) ?_).up uu
 rw[hg]
 exact Fix.tup t np (hv _)
end
theorem LR{K:PySem.W.Frag}{O:Addr->Prop}{H2:Hp}{fl:List PG.dQ}{fv:List V}(g2:eP K O H2 (fl.map eQ) fv){i:Nat}{y:V}(hi:fv[i]?=some y)(li:i<fl.length) :
 ∃a,y=.ref a/\∀H',bc O H2 H'->∃t,c5 K H' a (.int fl[i].1 :: .str (fX fl[i].2.1)::t):=by
 have key:∀H',bc O H2 H'->∃a t,y=.ref a/\c5 K H' a (.int fl[i].1 :: .str (fX fl[i].2.1)::t):=fun H' u=>by
  obtain⟨v',B5,rv⟩:=(g2 H' u).get (i:=i) (d:=eQ fl[i]) (by rw[List.getElem?_map,List.getElem?_eq_getElem li];rfl)
  rw[hi] at B5
  cases B5
  unfold eQ at rv
  rw[Rep.bq] at rv
  obtain⟨a,xs,rfl,hx,rs⟩:=rv
  rw[aQ.aJ] at rs
  obtain⟨v1,t1,rfl,r1,rs⟩:=rs
  rw[aQ.aJ] at rs
  obtain⟨v2,t2,rfl,r2,rs⟩:=rs
  rw[Rep.bB] at r1
  rw[Rep.bE] at r2
  subst r1 r2
  exact⟨a,t2,rfl,hx⟩
 obtain⟨a,_,rfl,_⟩:=key H2 .refl
 refine⟨a,rfl,fun H' u=>?_⟩
 obtain⟨a',t,e,h⟩:=key H' u
 cases e
 exact⟨t,h⟩
theorem zl{K:PySem.W.Frag}{H:Hp}{rows:List PG.Row}{rv:List V}(rr:aQ K H (rows.map jF) rv){i:Nat}{y:V}(hi:rv[i]?=some y)(li:i<rows.length):∃a,y=.ref a/\il K H a [.int rows[i].1,.str (fX rows[i].2)]:=by
 obtain⟨v',B5,rw_⟩:=rr.get (i:=i) (d:=jF rows[i]) (by rw[List.getElem?_map,List.getElem?_eq_getElem li];rfl)
 rw[hi] at B5
 cases B5
 unfold jF at rw_
 rw[Rep.bI] at rw_
 obtain⟨a,ys,rfl,hy,ry⟩:=rw_
 rw[aQ.aJ] at ry
 obtain⟨v1,t1,rfl,e1,ry⟩:=ry
 rw[aQ.aJ] at ry
 obtain⟨v2,t2,rfl,e2,ry⟩:=ry
 rw[aQ.br] at ry
 subst ry
 rw[Rep.bE] at e2
 rw[Rep.bB] at e1
 subst e1 e2
 exact⟨a,rfl,hy⟩
theorem vB:∀w:PG.Wd,Lk (V.str (fX w)) [V.str (Str.ofString "if"),V.str (Str.ofString "while")]=decide (w=.ifs\/w=.fe):=by
 intro w
 cases w<;>decide +kernel
theorem Pb:∀w:PG.Wd,Lk (V.str (fX w)) [V.str (Str.ofString "else"),V.str (Str.ofString "end")]=decide (w=.nN\/w=.fin):=by
 intro w
 cases w<;>decide +kernel
theorem oC:∀w:PG.Wd,(V.str (fX w)=V.str (Str.ofString "must"))↔w=.b8:=by
 intro w
 cases w<;>decide +kernel
section
variable(K:PySem.W.Frag)
end
theorem C3:∀l:List PG.Tg,PyData.canLayAll0 (Dp.t9 (l.map fj))=true/\PyData.depthAll (Dp.t9 (l.map fj))<=1
 |[]=>by simp[Dp.t9,PyData.canLayAll0,PyData.depthAll]
 |g::r=>by
  obtain⟨h1,h2⟩:=C3 r
  have k:(fj g).py.canLay0=true/\(fj g).py.depth<=1:=by
   cases g<;>simp only[fj,Dp.py,Dp.t9,PyData.canLay0,PyData.canLayAll0,PyData.depth,PyData.depthAll]<;>decide +kernel
  rw[List.map_cons,Dp.t9,PyData.canLayAll0,PyData.depthAll,h1,k.1]
  refine⟨rfl,?_⟩
  have:=k.2
  lia
end L2
namespace L2
open PySem
def wA:Option Nat->V
 |none=>.ck
 |some e=>.int e
def Uq (A:Nat->Addr) (p:Nat):Option PG.Mt->Option V
 |none=>none
 |some (.back q)=>some (.int q)
 |some (.op _ _)=>some (.ref (A p))
structure yr(H:Hp)(d:Addr)(m:PG.Mm)(A:Nat->Addr)(Hx:Hp)(aP:List (Key×V)):Prop where
 s:av H Hx
 dn:H d=none
 dd:Hx d=some (.dK aP)
 at_:∀p:Nat,cH aP (.inl (p:Int))=Uq A p (m p)
 ls:∀p e f,m p=some (.op e f)->Hx (A p)=some (.lst [wA e,wA f])/\H (A p)=none
 inj:∀p q e f e' f',m p=some (.op e f)->m q=some (.op e' f')->A p=A q->p=q
section
variable{H Hx H':Hp}{d b:Addr}{m:PG.Mm}{A:Nat->Addr}{aP:List (Key×V)}{o:HO}
theorem yr.ne(t:yr H d m A Hx aP){p:Nat}{e f:Option Nat}(h:m p=some (.op e f)):A p≠d:=cR (t.ls p e f h).1 t.dd (by intro z;cases z)
theorem yr.same(t:yr H d m A Hx aP)(s:av Hx H'):yr H d m A H' aP:=⟨t.s.trans s,t.dn,s _ _ t.dd,t.at_,fun p e f h=>⟨s _ _ (t.ls p e f h).1,(t.ls p e f h).2⟩,t.inj⟩
theorem yr.put(t:yr H d m A Hx aP)(hb:H b=none)(nd:b≠d)(nl:∀p e f,m p=some (.op e f)->A p≠b)(o:HO):yr H d m A (upd Hx b o) aP:=
 ⟨fun z u e=>by rw[ay (ao e hb)];exact t.s z u e,t.dn,by rw[ay nd.symm];exact t.dd,t.at_,fun p e f h=>⟨by rw[ay (nl p e f h)];exact(t.ls p e f h).1,(t.ls p e f h).2⟩,t.inj⟩
theorem sG{κ:Type}[DecidableEq κ](aP:List (κ×V))(k:κ)(v:V):(putK aP k v).length<=aP.length+1:=by
 unfold putK
 split
 ·rw[List.length_map];lia
 ·rw[List.length_append];simp
theorem yr.back(t:yr H d m A Hx aP)(p q:Nat):yr H d (m.set p (.back q)) A (upd Hx d (.dK (putK aP (.inl (p:Int)) (.int q)))) (putK aP (.inl (p:Int)) (.int q)):=by
 have key:∀j e f,(m.set p (.back q)) j=some (.op e f)->j≠p/\m j=some (.op e f):=fun j e f h=>by
  by_cases z:j=p
  ·subst z
   rw[PG.Mm.set_same] at h
   cases h
  ·rw[PG.Mm.bU _ _ z] at h
   exact⟨z,h⟩
 refine⟨fun z u e=>by rw[ay (ao e t.dn)];exact t.s z u e,t.dn,ai,fun j=>?_,fun j e f h=>?_,fun a b e f e' f' h1 h2 z=>t.inj a b e f e' f' (key a e f h1).2 (key b e' f' h2).2 z⟩
 ·rw[nX]
  by_cases z:j=p
  ·subst z
   rw[if_pos rfl,PG.Mm.set_same]
   rfl
  ·rw[if_neg (fun e=>z (by injection e with e;lia)),PG.Mm.bU _ _ z,t.at_ j]
 ·have h:=(key j e f h).2
  exact⟨by rw[ay (t.ne h)];exact(t.ls j e f h).1,(t.ls j e f h).2⟩
theorem yr.Sk(t:yr H d m A Hx aP)(p:Nat)(hb:Hx b=none):yr H d (m.set p (.op none none)) (fun j=>if j=p then b else A j) (upd (upd Hx b (.lst [.ck,.ck])) d (.dK (putK aP (.inl (p:Int)) (.ref b)))) (putK aP (.inl (p:Int)) (.ref b)):=by
 have nb:b≠d:=(ao t.dd hb).symm
 have LS:H b=none:=by
  cases z:H b with
  |none=>rfl
  |some o=>rw[t.s _ _ z] at hb;cases hb
 have key:∀j e f,(m.set p (.op none none)) j=some (.op e f)->(j=p/\e=none/\f=none)\/(j≠p/\m j=some (.op e f)):=fun j e f h=>by
  by_cases z:j=p
  ·subst z
   rw[PG.Mm.set_same] at h
   cases h
   exact .inl ⟨rfl,rfl,rfl⟩
  ·rw[PG.Mm.bU _ _ z] at h
   exact .inr ⟨z,h⟩
 have old:∀j e f,m j=some (.op e f)->A j≠b:=fun j e f h=>ao (t.ls j e f h).1 hb
 refine⟨fun z u e=>by rw[ay (ao e t.dn),ay (ao e LS)];exact t.s z u e,t.dn,ai,fun j=>?_,fun j e f h=>?_,fun a c e f e' f' h1 h2 z=>?_⟩
 ·rw[nX]
  by_cases z:j=p
  ·subst z
   rw[if_pos rfl,PG.Mm.set_same]
   simp[Uq]
  ·rw[if_neg (fun e=>z (by injection e with e;lia)),PG.Mm.bU _ _ z,t.at_ j]
   unfold Uq
   cases m j with
   |none=>rfl
   |some x=>cases x<;>simp[z]
 ·rcases key j e f h with ⟨rfl,rfl,rfl⟩ |⟨z,h⟩
  ·rw[if_pos rfl]
   exact⟨by rw[ay nb,ai];rfl,LS⟩
  ·rw[if_neg z]
   exact⟨by rw[ay (t.ne h),ay (old j e f h)];exact(t.ls j e f h).1,(t.ls j e f h).2⟩
 ·rcases key a e f h1 with ⟨rfl,_,_⟩ |⟨z1,g1⟩<;>rcases key c e' f' h2 with ⟨rfl,_,_⟩ |⟨z2,g2⟩
  ·rfl
  ·rw[if_pos rfl,if_neg z2] at z
   exact absurd z.symm (old c _ _ g2)
  ·rw[if_neg z1,if_pos rfl] at z
   exact absurd z (old a _ _ g1)
  ·rw[if_neg z1,if_neg z2] at z
   exact t.inj a c e f e' f' g1 g2 z
theorem yr.list(t:yr H d m A Hx aP){p:Nat}{e f:Option Nat}(h:m p=some (.op e f))(e' f':Option Nat):yr H d (m.set p (.op e' f')) A (upd Hx (A p) (.lst [wA e',wA f'])) aP:=by
 have key:∀j x y,(m.set p (.op e' f')) j=some (.op x y)->(j=p/\x=e'/\y=f')\/(j≠p/\m j=some (.op x y)):=fun j x y h=>by
  by_cases z:j=p
  ·subst z
   rw[PG.Mm.set_same] at h
   cases h
   exact .inl ⟨rfl,rfl,rfl⟩
  ·rw[PG.Mm.bU _ _ z] at h
   exact .inr ⟨z,h⟩
 have op:∀j x y,(m.set p (.op e' f')) j=some (.op x y)->∃x y,m j=some (.op x y):=fun j x y hj=>by
  rcases key j x y hj with ⟨rfl,_,_⟩ |⟨_,h'⟩
  ·exact⟨_,_,h⟩
  ·exact⟨_,_,h'⟩
 refine⟨fun z u q=>by rw[ay (ao q (t.ls p e f h).2)];exact t.s z u q,t.dn,by rw[ay (t.ne h).symm];exact t.dd,fun j=>?_,fun j x y hj=>?_,fun a c x y x' y' h1 h2 z=>?_⟩
 ·rw[t.at_ j]
  by_cases z:j=p
  ·subst z
   rw[PG.Mm.set_same,h]
   rfl
  ·rw[PG.Mm.bU _ _ z]
 ·rcases key j x y hj with ⟨rfl,rfl,rfl⟩ |⟨z,hj⟩
  ·exact⟨ai,(t.ls _ _ _ h).2⟩
  ·exact⟨by rw[ay (fun q=>z (t.inj j p _ _ _ _ hj h q))];exact(t.ls j x y hj).1,(t.ls j x y hj).2⟩
 ·obtain⟨_,_,h1⟩:=op a x y h1
  obtain⟨_,_,h2⟩:=op c x' y' h2
  exact t.inj a c _ _ _ _ h1 h2 z
end
section
variable(K:PySem.W.Frag)
def Sl (H Hx:Hp) (d:Addr) (R:List PG.Row):Prop:=∃A aP,yr H d (PG.nK R) A Hx aP
def Pc:Sp:=fun vs H Q _=>∃(R:Addr) (rows:List PG.Row) (b:List PG.bF),vs=[.ref R]/\Rep K H (.lst (rows.map jF)) (.ref R)/\rows.length<=1000/\PG.cG b rows/\∀d H',Sl H H' d rows->Q (.ref d) H'
def Wc:Sp:=fun vs H Q _=>∃(R d:Addr) (rows:List PG.Row) (b:List PG.bF) (H0:Hp) (p:Nat),vs=[.ref R,.ref d,.int p]/\Rep K H (.lst (rows.map jF)) (.ref R)/\rows.length<=1000/\PG.cG b rows/\Sl H0 H d rows/\Q (.int (PG.to rows (PG.nK rows) p)) H
def LU:Sp:=fun vs H Q _=>∃(R:Addr) (rows:List PG.Row) (b:List PG.bF),vs=[.ref R]/\Rep K H (.lst (rows.map jF)) (.ref R)/\rows.length<=1000/\PG.cG b rows/\
 ∀l us H',av H H'->H l=none->H' l=some (.lst us)->aQ K H' ((PG.aS b 0).map eQ) us->Q (.ref l) H'
end
end L2
namespace L2
open PySem
structure qM(K:PySem.W.Frag)(H:Hp)(tl:Addr)(H3:Hp)(us:List V)(ds:List Dp):Prop where
 s:av H H3
 y:H3 tl=some (.lst us)
 f:eP K (·=tl) H3 ds us
 l:us.length=ds.length
section
variable{K:PySem.W.Frag}{H H3 H4:Hp}{tl p p1 p2:Addr}{us vs:List V}{ds es:List Dp}{d:Dp}{v:V}
theorem qM.new(h:H tl=none):qM K H tl (upd H tl (.lst [])) [] []:=⟨av.new h _,ai,.nil,rfl⟩
theorem qM.same(a:qM K H tl H3 us ds)(s:av H3 H4):qM K H tl H4 us ds:=⟨a.s.trans s,s _ _ a.y,a.f.up (.of s),a.l⟩
theorem qM.push(a:qM K H tl H3 us ds)(ht:H tl=none)(fv:Fix K (·=tl) H3 d v):qM K H tl (upd H3 tl (.lst (us++[v]))) (us++[v]) (ds++[d]):=by
 have uu:bc (·=tl) H3 (upd H3 tl (.lst (us++[v]))):=bc.refl.put (O:=(·=tl)) rfl _
 exact⟨fun z o e=>by rw[ay (ao e ht)];exact a.s z o e,ai,(a.f.snoc fv).up uu,by simp[a.l]⟩
theorem qM.row(a:qM K H tl H3 us ds)(ht:H tl=none){k:Int}{w:PG.Wd}{ws:List Int}(h1:H3 p1=none)(h2:(upd H3 p1 (.tup (ws.map V.int))) p2=none) :
 (upd (upd H3 p1 (.tup (ws.map V.int))) p2 (.tup [.int k,.str (fX w),.ref p1])) tl=some (.lst us)/\
 qM K H tl (upd (upd (upd H3 p1 (.tup (ws.map V.int))) p2 (.tup [.int k,.str (fX w),.ref p1])) tl (.lst (us++[.ref p2]))) (us++[.ref p2]) (ds++[eQ (k,w,ws)]):=by
 have s1:=av.new h1 (.tup (ws.map V.int))
 have a1:=a.same s1
 have t1:(upd H3 p1 (.tup (ws.map V.int))) p1=some (.tup (ws.map V.int)):=ai
 have n1:p1≠tl:=(ao a.y h1).symm
 generalize upd H3 p1 (.tup (ws.map V.int))=H5 at *
 have s2:=av.new h2 (.tup [.int k,.str (fX w),.ref p1])
 have a2:=a1.same s2
 have t2:(upd H5 p2 (.tup [.int k,.str (fX w),.ref p1])) p2=some (.tup [.int k,.str (fX w),.ref p1]):=ai
 have n2:p2≠tl:=(ao a1.y h2).symm
 have t1:=s2 _ _ t1
 generalize upd H5 p2 (.tup [.int k,.str (fX w),.ref p1])=H6 at *
 refine⟨a2.y,a2.push ht (Fix.tup t2 n2 (.cons .int (.cons .str (.cons (Fix.tup t1 n1 ?_) .nil))))⟩
 have allI:∀l:List Int,eP K (·=tl) H6 (l.map Dp.int) (l.map V.int):=fun l=>by
  induction l with
  |nil=>exact .nil
  |cons i r ih=>exact .cons .int ih
 exact allI ws
end
end L2
namespace L2
open PySem
section
variable{X:Cx}
def LV:V->List V->Hp->VK->Prop:=fun x vs H Q=>∃a b aP more,x=.ref a/\vs=[.ref b]/\a≠b/\H a=some (.dK aP)/\H b=some (.dK more)/\aP.length+more.length<=sizeLine/\Q .ck (upd H a (.dK (iw aP more)))
theorem F5:QH X "dict.update" LV:=by
 intro pins s σ H x vs v us Q I rx rv h
 obtain⟨a,b,aP,more,rfl,rfl,ED,ha,hb,hz,q⟩:=h
 cases rx
 obtain⟨u,rfl,ru⟩:=rv.one
 cases ru
 obtain⟨z,hd,vs,rel,dd⟩:=Ec I.dU ha
 obtain⟨z2,hd2,vs2,Sm,QF⟩:=Ec I.dU hb
 refine call_meetsIn PySem.F.slot_dict_update dd.typeIs PySem.F.entry_dict_update (PySem.F.args_dict_update_2 _ _) (meets_dict_update (b3 X.prog X.w) a b ED hd2) ⟨vs,vs2,dd,QF,by rw[<- rel.length,<- Sm.length];exact hz,fun h' GU _ hs=>?_⟩
 have he:∃q,h'.get? a=some q:=let ⟨q,_,_,hq,_⟩:=GU;⟨q,hq⟩
 exact⟨.ck,_,rT (t':=s.toks) I (by rw[ha];exact True.intro) hs he (vR (Nat.le_trans (gM more aP) hz) hd (Sm.merge rel) GU),rfl,q⟩
end
theorem wB{aP:List (Key×V)}{k:Key}{v:V}(h:k ∉ aP.map (·.1)):putK aP k v=aP++[(k,v)]:=by
 unfold putK
 rw[if_neg]
 intro z
 rw[List.any_eq_true] at z
 obtain⟨x,hx,e⟩:=z
 exact h (List.mem_map.mpr ⟨x,hx,of_decide_eq_true e⟩)
theorem hG:∀(more aP:List (Key×V)),((aP++more).map (·.1)).Nodup->iw aP more=aP++more
 |[],aP,_=>by simp[iw]
 |p::r,aP,h=>by
  have hp:p.1 ∉ aP.map (·.1):=fun z=>by
   rw[List.map_append,List.nodup_append] at h
   exact h.2.2 _ z _ (by simp) rfl
  show iw (putK aP p.1 p.2) r=_
  rw[wB hp,hG r _ (by rw[List.append_assoc];exact h),List.append_assoc]
  rfl
def cV (ss:List PG.bF) (vs:List V):List (Key×V):=List.zipWith (fun s v=>(Sum.inl s.row,v)) ss vs
theorem hJ:∀(ss:List PG.bF) (vs:List V),vs.length=ss.length->(cV ss vs).map (·.1)=ss.map fun s=>(Sum.inl s.row:Key)
 |[],[],_=>rfl
 |[],_::_,h=>by simp at h
 |_::_,[],h=>by simp at h
 |s::ss,v::vs,h=>by
  show _::(cV ss vs).map (·.1)=_
  rw[hJ ss vs (by simpa using h)]
  rfl
theorem pK:∀(ss tt:List PG.bF) (vs us:List V),vs.length=ss.length->cV (ss++tt) (vs++us)=cV ss vs++cV tt us
 |[],tt,[],us,_=>rfl
 |[],_,_::_,_,h=>by simp at h
 |_::_,_,[],_,h=>by simp at h
 |s::ss,tt,v::vs,us,h=>by
  show _::cV (ss++tt) (vs++us)=_::(cV ss vs++cV tt us)
  rw[pK ss tt vs us (by simpa using h)]
theorem qN{ss:List PG.bF}(h:ss.Pairwise fun a b=>a.row<b.row):(ss.map fun s=>(Sum.inl s.row:Key)).Nodup:=by
 refine List.pairwise_map.mpr (h.imp fun {a b} ED e=>?_)
 have:=Sum.inl.inj e
 lia
theorem oE:∀(ss:List PG.bF) (vs:List V),vs.length=ss.length->ss.Pairwise (fun a b=>a.row<b.row)->∀i (hi:i<ss.length) v,vs[i]?=some v->cH (cV ss vs) (.inl ss[i].row)=some v
 |[],_,_,_,i,hi,_,_=>by simp at hi
 |_::_,[],h,_,_,_,_,_=>by simp at h
 |s::ss,v::vs,h,hp,0,hi,u,hu=>by
  simp at hu
  subst hu
  show cH ((_,v)::cV ss vs) _=_
  exact cI rfl
 |s::ss,v::vs,h,hp,i+1,hi,u,hu=>by
  rw[List.pairwise_cons] at hp
  have lt:=hp.1 (ss[i]'(by simpa using hi)) (List.getElem_mem _)
  show cH ((.inl s.row,v)::cV ss vs) (.inl (ss[i]'(by simpa using hi)).row)=_
  rw[cJ (fun e=>by have e:=Sum.inl.inj e;lia)]
  exact oE ss vs (by simpa using h) hp.2 i (by simpa using hi) u (by simpa using hu)
theorem EE(s:PG.bF):PG.mI s=s::(aM s).flatMap PG.az:=by
 cases s<;>simp[PG.mI,aM]
section
variable(K:PySem.W.Frag)
def zm (n:Nat):Sp:=fun vs H Q _=>∃(b:Addr) (body:List PG.bF) (H0:Hp),vs=[.ref b]/\av H0 H/\Rep K H0 (.lst (body.map de)) (.ref b)/\PG.fS body<n/\(PG.b7 body).length<=1000/\(PG.az body).Pairwise (fun a b=>a.row<b.row)/\
 ∀d us H',av H H'->H d=none->us.length=(PG.az body).length->H' d=some (.dK (cV (PG.az body) us))->aQ K H0 ((PG.az body).map de) us->Q (.ref d) H'
def pL (n:Nat):Sp:=fun vs H Q _=>∃(b:Addr) (body:List PG.bF) (H0:Hp),vs=[.ref b]/\av H0 H/\Rep K H0 (.lst (body.map de)) (.ref b)/\PG.fS body<n/\(PG.b7 body).length<=1000/\
 ∀l us H',av H H'->H l=none->H' l=some (.lst us)->aQ K H0 ((PG.az body).map de) us->Q (.ref l) H'
end
theorem LW{K:PySem.W.Frag}{H:Hp}:∀(s:PG.bF) {v:V},Rep K H (de s) v->∃a xs,v=.ref a/\c5 K H a xs/\2<=xs.length/\xs.length<=7/\xs[1]?=some (.int s.row)/\aQ K H ((aM s).map fun b=>.lst (b.map de)) (cQ xs (some 5) none):=by
 intro s v h
 have cut:∀xs:List V,cQ xs (some 5) none=xs.drop 5:=fun xs=>by
  unfold cQ
  rw[HT.nV,show (5:Int)=((5:Nat):Int) from rfl,HT.pA]
  by_cases h:5<=xs.length
  ·rw[Nat.min_eq_left h]
   exact List.take_of_length_le (by rw[List.length_drop];lia)
  ·rw[Nat.min_eq_right (by lia),List.drop_eq_nil_of_le (Nat.le_refl _),List.drop_eq_nil_of_le (by lia),List.take_nil]
 cases s with
 |ask k b=>
  simp only[de,Rep.bq,aQ.aJ,aQ.br,Rep.bE,Rep.bB] at h
  obtain⟨a,xs,rfl,hS,_,_,rfl,rfl,_,_,rfl,rfl,_,_,rfl,rfl,rfl⟩:=h
  exact⟨a,_,rfl,hS,by simp,by simp,rfl,by rw[cut];exact .nil⟩
 |put k b e=>
  simp only[de,Rep.bq,aQ.aJ,aQ.br,Rep.bE,Rep.bB] at h
  obtain⟨a,xs,rfl,hS,_,_,rfl,rfl,_,_,rfl,rfl,_,_,rfl,_,_,_,rfl,_,rfl⟩:=h
  exact⟨a,_,rfl,hS,by simp,by simp,rfl,by rw[cut];exact .nil⟩
 |say k e=>
  simp only[de,Rep.bq,aQ.aJ,aQ.br,Rep.bE,Rep.bB] at h
  obtain⟨a,xs,rfl,hS,_,_,rfl,rfl,_,_,rfl,rfl,_,_,rfl,_,rfl⟩:=h
  exact⟨a,_,rfl,hS,by simp,by simp,rfl,by rw[cut];exact .nil⟩
 |b8 k sg l r=>
  simp only[de,Rep.bq,aQ.aJ,aQ.br,Rep.bE,Rep.bB] at h
  obtain⟨a,xs,rfl,hS,_,_,rfl,rfl,_,_,rfl,rfl,_,_,rfl,_,_,_,rfl,_,_,_,rfl,_,rfl⟩:=h
  exact⟨a,_,rfl,hS,by simp,by simp,rfl,by rw[cut];exact .nil⟩
 |stop k=>
  simp only[de,Rep.bq,aQ.aJ,aQ.br,Rep.bE,Rep.bB] at h
  obtain⟨a,xs,rfl,hS,_,_,rfl,rfl,_,_,rfl,rfl,rfl⟩:=h
  exact⟨a,_,rfl,hS,by simp,by simp,rfl,by rw[cut];exact .nil⟩
 |ifs k sg l r x y=>
  simp only[de,Rep.bq,aQ.aJ,aQ.br,Rep.bE,Rep.bB] at h
  obtain⟨a,xs,rfl,hS,_,_,rfl,rfl,_,_,rfl,rfl,_,_,rfl,_,_,_,rfl,_,_,_,rfl,_,_,_,rfl,h5,_,_,rfl,h6,rfl⟩:=h
  rw[eX] at h5 h6
  exact⟨a,_,rfl,hS,by simp,by simp,rfl,by rw[cut];exact .cons h5 (.cons h6 .nil)⟩
 |fe k sg l r x=>
  simp only[de,Rep.bq,aQ.aJ,aQ.br,Rep.bE,Rep.bB] at h
  obtain⟨a,xs,rfl,hS,_,_,rfl,rfl,_,_,rfl,rfl,_,_,rfl,_,_,_,rfl,_,_,_,rfl,_,_,_,rfl,h5,rfl⟩:=h
  rw[eX] at h5
  exact⟨a,_,rfl,hS,by simp,by simp,rfl,by rw[cut];exact .cons h5 .nil⟩
theorem Je{K:PySem.W.Frag}{tl:TE}{g:TG}{tb:TS}{D:Ends}{σ:St}{H:Hp} (h:∀U:Addr->Hp->Prop,(∀a H1,(∃W:Nat->Nat->St->Hp->Prop,(∃m,W 0 m σ H1)/\∀i m σ H,W i m σ H->
 ((M8 K a).stop i H/\D.nx σ H)\/((M8 K a).go i H/\∃N:St->Hp->Prop,(∀σ' H',N σ' H'->∃m',m'<m/\W (i+1) m' σ' H')/\∀x H',(M8 K a).KJ i H x H'->g x σ H' fun σ2 H2=>tb {D with nx:=N,ct:=N,bk:=D.nx} σ2 H2))->U a H1)->
 tl σ H fun x H1=>∃a,x=.ref a/\(∃xs,c5 K H1 a xs)/\U a H1):Lg (Rr K tl) g tb D σ H:=h _ fun _ _ x=>x
theorem oF:∀a b:List PG.bF,PG.az (a++b)=PG.az a++PG.az b
 |[],b=>by simp[PG.az]
 |s::r,b=>by
  show PG.az (s::(r++b))=_
  rw[PG.az,PG.az,oF r b,List.append_assoc]
theorem Bg(s:PG.bF):PG.az [s]=PG.mI s:=by rw[PG.az,PG.az,List.append_nil]
theorem lK(b:List PG.bF):(PG.az b).length=(PG.b7 b).length:=by rw[<- PG.fL,List.length_map]
end L2
namespace HT
open PySem PySem.Spec PyProof.Rows
section
variable{prog:Program}{w:World}{A:Around}{E:Value->Shared->Prop}{s:Shared}
theorem pV{t sl:Addr}{items:Array Value}{vl vu:Value}{lo hi:Option Int}{Q:Value->Shared->Prop}(ht:IsTup s.heap t items)(hs:s.heap.IsSliceOf sl vl vu .none)(pl:IsPart vl lo)(pu:IsPart vu hi)
 (hw:fY items.size 0 lo=0/\fY items.size items.size hi=items.size) (h:Q (.ref t) s):wpAny (model prog w) A (getItem (.ref t) (.ref sl)) Q E s:=by
 have hj:fY items.size items.size hi<=items.size:=Ct _ _ (Nat.le_refl _) hi
 obtain⟨os,OI,Ue,RM⟩:=id hs
 have VB:s.TypeIs (.ref sl) "slice":=⟨os,OI,Ue⟩
 unfold getItem
 try with_reducible refine wpAny_holding ?_
 first |refine wpAny_bind (wpAny_pure ?_) |skip
 refine wpAny_bind (wpAny_sequenceKey ht.typeIs (by decide) ?_)
 refine wpAny_bind (wpAny_callSpecial?_slot (name:=Str.ofString "__getitem__") ht.typeIs PyProof.Rows.slot_tuple_getitem
  (wpAny_call_entry PyProof.Rows.slot_tuple_getitem ht.typeIs entry_tuple_getitem ?_ (args_tuple_getitem _ _)))
 show wpAny _ _ (Builtin.Tuple.tupleItemsOf (.ref t) >>= _) _ _ s
 refine wpAny_bind (tupleItemsOf_ ht ?_)
 refine wpAny_bind (wpAny_typeOf VB ?_)
 rw[if_pos (by decide)]
 refine wpAny_bind (lq hs pl pu ?_)
 have We:((((fY items.size 0 lo:Nat):Int)==0&&(1:Int)==1&&(fY items.size items.size hi-fY items.size 0 lo)==items.size)=true):=by
  rw[hw.1,hw.2]
  simp
 show wpAny _ _ (if (((fY items.size 0 lo:Nat):Int)==0&&(1:Int)==1&&(fY items.size items.size hi-fY items.size 0 lo)==items.size)=true then _ else _) _ _ s
 rw[if_pos We]
 refine wpAny_bind (m:=Builtin.Tuple.tupleIsExact _) ?_
 unfold Builtin.Tuple.tupleIsExact
 refine wpAny_bind (wpAny_typeOf ht.typeIs (wpAny_pure ?_))
 rw[if_pos (by simp)]
 first
  |exact wpAny_bind (wpAny_rule (wpAny_pure ⟨_,rfl,wpAny_pure h⟩))
  |exact wpAny_bind (wpAny_pure (wpAny_pure ⟨_,rfl,wpAny_pure h⟩))
end
end HT
namespace L2
open PySem PySem.Spec PyProof.Rows
def Sn (K:PySem.W.Frag):V->Option Int->Option Int->Hp->VK->Prop:=fun x lo hi H Q=>∃a xs,x=.ref a/\c5 K H a xs/\
 ((HT.fY xs.length 0 lo=0/\HT.fY xs.length xs.length hi=xs.length)->Q (.ref a) H)/\
 (¬(HT.fY xs.length 0 lo=0/\HT.fY xs.length xs.length hi=xs.length)->∀p,H p=none->Q (.ref p) (upd H p (.tup (cQ xs lo hi))))
theorem LX{X:Cx}:RN X (Sn X.K):=by
 intro pins s σ H x v vl vu lo hi sl Q I rx hs pl pu h
 obtain⟨a,xs,rfl,hx,h1,h2⟩:=h
 by_cases hw:HT.fY xs.length 0 lo=0/\HT.fY xs.length xs.length hi=xs.length
 ·cases rx
  obtain⟨bA,r,ht,hz⟩:=I.tuple hx
  have hlen:bA.toArray.size=xs.length:=by rw[List.size_toArray];exact r.length.symm
  refine⟨"tuple",_,PyProof.Rows.slot_tuple_getitem.lookup,ht.typeIs,?_⟩
  exact HT.pV ht hs pl pu (by rw[hlen];exact hw) ⟨.ref a,H,I,rfl,h1 hw⟩
 ·exact HF pins s σ H (.ref a) v vl vu lo hi sl Q I rx hs pl pu ⟨a,xs,rfl,hx,hw,h2 hw⟩
end L2
namespace L2
open PySem
def ij {α β γ:Type} (R:α->β->γ->Prop):List α->List β->List γ->Prop
 |[],[],[]=>True
 |a::as,b::bs,c::cs=>R a b c/\ij R as bs cs
 |_,_,_=>False
section
variable{α β γ:Type}{R S:α->β->γ->Prop}
theorem ij.br{bs:List β}{cs:List γ}:ij R [] bs cs↔bs=[]/\cs=[]:=by
 cases bs<;>cases cs<;>simp[ij]
theorem ij.aJ{a:α}{as:List α}{bs:List β}{cs:List γ}:ij R (a::as) bs cs↔∃b Nz c NA,bs=b::Nz/\cs=c::NA/\R a b c/\ij R as Nz NA:=by
 constructor
 ·intro h
  cases bs with
  |nil=>simp[ij] at h
  |cons b bs=>
   cases cs with
   |nil=>simp[ij] at h
   |cons c cs=>exact⟨b,bs,c,cs,rfl,rfl,h.1,h.2⟩
 ·rintro ⟨b,Nz,c,NA,rfl,rfl,h1,h2⟩
  exact⟨h1,h2⟩
theorem ij.imp:∀ {as:List α} {bs:List β} {cs:List γ},ij R as bs cs->(∀a b c,a∈as->c∈cs->R a b c->S a b c)->ij S as bs cs
 |[],_,_,h,_=>by obtain⟨rfl,rfl⟩:=ij.br.mp h;trivial
 |a::as,_,_,h,f=>by
  obtain⟨b,Nz,c,NA,rfl,rfl,h1,h2⟩:=ij.aJ.mp h
  exact⟨f a b c (List.mem_cons_self ..) (List.mem_cons_self ..) h1,h2.imp fun a' b' c' m1 m2=>f a' b' c' (List.mem_cons_of_mem _ m1) (List.mem_cons_of_mem _ m2)⟩
end
def Ur:PG.bF->List Dp
 |.ask k b=>[.str "ask",.int k,.str (S b)]
 |.put k b e=>[.str "put",.int k,.str (S b),jk e]
 |.say k e=>[.str "say",.int k,jk e]
 |.b8 k sg l r=>[.str "must",.int k,.str (S sg),jk l,jk r]
 |.stop k=>[.str "stop",.int k]
 |.ifs k sg l r _ _=>[.str "if",.int k,.str (S sg),jk l,jk r]
 |.fe k sg l r _=>[.str "while",.int k,.str (S sg),jk l,jk r]
theorem Pd(s:PG.bF):de s=.tup (Ur s++(aM s).map fun b=>.lst (b.map de)):=by
 cases s<;>simp[de,Ur,aM,eX]
mutual
theorem NB:∀t:PM.Tr,Be (jk t)=true
 |.num n=>by simp[jk,Be,lI]
 |.box n=>by simp[jk,Be,lI]
 |.bin o l r=>by simp[jk,Be,lI,NB l,NB r]
end
section
variable{K:PySem.W.Frag}{H H':Hp}{O:Addr->Prop}
theorem F6(hO:∀g,O g->∃ys,H g=some (.lst ys))(u:bc O H H'){a:Addr}{ys:List V}(q:c5 K H a ys):c5 K H' a ys:=by
 rcases q with (q |⟨o,q⟩) |q
 ·exact .inl (.inl (u _ _ (fun z=>by obtain⟨_,e⟩:=hO a z;rw[e] at q;cases q) q))
 ·exact .inl (.inr ⟨o,u _ _ (fun z=>by obtain⟨_,e⟩:=hO a z;rw[e] at q;cases q) q⟩)
 ·exact .inr q
mutual
theorem yt(hO:∀g,O g->∃ys,H g=some (.lst ys))(u:bc O H H'):∀(d:Dp) (v:V),Be d=true->Rep K H d v->Rep K H' d v
 |.ck,v,_,r=>by rw[Rep.rW] at r ⊢;exact r
 |.bl b,v,_,r=>by rw[Rep.mD] at r ⊢;exact r
 |.int b,v,_,r=>by rw[Rep.bB] at r ⊢;exact r
 |.str b,v,_,r=>by rw[Rep.bE] at r ⊢;exact r
 |.lst l,v,e,_=>by rw[Be] at e;cases e
 |.tup l,v,e,r=>by
  rw[Be] at e
  rw[Rep.bq] at r ⊢
  obtain⟨a,ys,rfl,q,rs⟩:=r
  exact⟨a,ys,rfl,F6 hO u q,qO hO u l ys e rs⟩
theorem qO(hO:∀g,O g->∃ys,H g=some (.lst ys))(u:bc O H H'):∀(ds:List Dp) (vs:List V),lI ds=true->aQ K H ds vs->aQ K H' ds vs
 |[],vs,_,r=>by rw[aQ.br] at r ⊢;exact r
 |d::ds,vs,e,r=>by
  rw[lI,Bool.and_eq_true] at e
  rw[aQ.aJ] at r ⊢
  obtain⟨v,t,rfl,r1,r2⟩:=r
  exact⟨v,t,rfl,yt hO u d v e.1 r1,qO hO u ds t e.2 r2⟩
end
end
section
variable(K:PySem.W.Frag)(H:Hp)
def Jf:Nat->List PG.bF->Addr->List Addr->Prop
 |0,_,_,_=>False
 |n+1,body,b,F=>∃vs Fs,H b=some (.lst vs)/\ij (fun s v G=>∃a hs bs Gs,v=.ref a/\c5 K H a (hs++bs.map V.ref)/\aQ K H (Ur s) hs/\ij (Jf n) (aM s) bs Gs/\G=Gs.flatten) body vs Fs/\F=b::Fs.flatten
def Wf (n:Nat) (s:PG.bF) (v:V) (G:List Addr):Prop:=∃a hs bs Gs,v=.ref a/\c5 K H a (hs++bs.map V.ref)/\aQ K H (Ur s) hs/\ij (Jf K H n) (aM s) bs Gs/\G=Gs.flatten
end
section
variable{K:PySem.W.Frag}{H H':Hp}{O:Addr->Prop}
theorem Bh{n:Nat}{body:List PG.bF}{b:Addr}{F:List Addr}:Jf K H (n+1) body b F↔∃vs Fs,H b=some (.lst vs)/\ij (Wf K H n) body vs Fs/\F=b::Fs.flatten:=Iff.rfl
theorem Jf.lists:∀(n:Nat) (body:List PG.bF) (b:Addr) (F:List Addr),Jf K H n body b F->∀f∈F,∃ys,H f=some (.lst ys)
 |0,_,_,_,h=>h.elim
 |n+1,body,b,F,h=>by
  obtain⟨vs,Fs,hb,all,rfl⟩:=Bh.mp h
  intro f hf
  rcases List.mem_cons.mp hf with rfl |hf
  ·exact⟨vs,hb⟩
  ·have key:∀ {as:List PG.bF} {bs:List V} {cs:List (List Addr)},ij (Wf K H n) as bs cs->∀f∈cs.flatten,∃ys,H f=some (.lst ys):=by
    intro as
    induction as with
    |nil=>intro bs cs h f hf;obtain⟨rfl,rfl⟩:=ij.br.mp h;simp at hf
    |cons a as ih=>
     intro bs cs h f hf
     obtain⟨b',Nz,c,NA,rfl,rfl,h1,h2⟩:=ij.aJ.mp h
     rw[List.flatten_cons,List.mem_append] at hf
     rcases hf with hf |hf
     ·obtain⟨a',hs,bb,Gs,rfl,q,r,al,rfl⟩:=h1
      have Pe:∀ {as:List (List PG.bF)} {bs:List Addr} {cs:List (List Addr)},ij (Jf K H n) as bs cs->∀f∈cs.flatten,∃ys,H f=some (.lst ys):=by
       intro as
       induction as with
       |nil=>intro bs cs h f hf;obtain⟨rfl,rfl⟩:=ij.br.mp h;simp at hf
       |cons x as Wg=>
        intro bs cs h f hf
        obtain⟨b',Nz,c,NA,rfl,rfl,h1,h2⟩:=ij.aJ.mp h
        rw[List.flatten_cons,List.mem_append] at hf
        rcases hf with hf |hf
        ·exact Jf.lists n _ _ _ h1 f hf
        ·exact Wg h2 f hf
      exact Pe al f hf
     ·exact ih h2 f hf
   exact key all f hf
mutual
theorem Jf.rep:∀(n:Nat) (body:List PG.bF) (b:Addr) (F:List Addr),Jf K H n body b F->Rep K H (.lst (body.map de)) (.ref b)
 |0,_,_,_,h=>h.elim
 |n+1,body,b,F,h=>by
  obtain⟨vs,Fs,hb,all,rfl⟩:=Bh.mp h
  refine Rep.bI.mpr ⟨b,vs,rfl,.of hb,?_⟩
  have key:∀ {as:List PG.bF} {bs:List V} {cs:List (List Addr)},ij (Wf K H n) as bs cs->aQ K H (as.map de) bs:=by
   intro as
   induction as with
   |nil=>intro bs cs h;obtain⟨rfl,rfl⟩:=ij.br.mp h;exact .nil
   |cons a as ih=>
    intro bs cs h
    obtain⟨b',Nz,c,NA,rfl,rfl,h1,h2⟩:=ij.aJ.mp h
    refine .cons ?_ (ih h2)
    obtain⟨a',hs,bb,Gs,rfl,q,r,al,rfl⟩:=h1
    rw[Pd]
    refine Rep.bq.mpr ⟨a',_,rfl,q,r.append ?_⟩
    have Pe:∀ {as:List (List PG.bF)} {bs:List Addr} {cs:List (List Addr)},ij (Jf K H n) as bs cs->aQ K H (as.map fun b=>.lst (b.map de)) (bs.map V.ref):=by
     intro as
     induction as with
     |nil=>intro bs cs h;obtain⟨rfl,rfl⟩:=ij.br.mp h;exact .nil
     |cons x as Wg=>
      intro bs cs h
      obtain⟨b',Nz,c,NA,rfl,rfl,h1,h2⟩:=ij.aJ.mp h
      exact .cons (Jf.rep n _ _ _ h1) (Wg h2)
    exact Pe al
  exact key all
end
end
section
variable(K:PySem.W.Frag)
end
theorem wC{K:PySem.W.Frag}{a D:Addr}{xs:List V}{te:TE}{Q:VK}{r:St}{H:Hp}(Pv:Nat->List V->Hp->Prop)(hS:il K H a xs)(hl:xs.length<=16000000)(hD:H D=none)(h0:Pv 0 [] (upd H D (.lst [])))
 (step:∀i x ys H2,xs[i]?=some x->av H H2->H2 D=some (.lst ys)->ys.length=i->Pv i ys H2->∀R:VK,(∀v H3,av H2 H3->Pv (i+1) (ys++[v]) (upd H3 D (.lst (ys++[v])))->R v H3)->te (some x::r) H2 R)
 (q:∀ys H2,av H H2->H2 D=some (.lst ys)->Pv xs.length ys H2->Q (.ref D) H2):vW (GR K a) D (fC 0) CI te Q (none::r) (upd H D (.lst [])):=by
 refine⟨fun i m τ H2=>m=xs.length-i/\i<=xs.length/\(∃x,τ=x::r)/\av H H2/\∃ys,H2 D=some (.lst ys)/\ys.length=i/\Pv i ys H2,⟨xs.length,by simp,Nat.zero_le _,⟨none,rfl⟩,av.new hD _,[],ai,rfl,h0⟩,?_⟩
 rintro i m τ H2 ⟨rfl,hi,⟨x,rfl⟩,s2,ys,h2,ly,p2⟩
 by_cases ve:i<xs.length
 ·refine .inr ⟨⟨xs,xs[i],s2.seq hS,by simp[ve]⟩,fun τ' H'=>(∃x,τ'=x::r)/\av H H'/\∃ys,H' D=some (.lst ys)/\ys.length=i+1/\Pv (i+1) ys H',fun τ' H' ⟨h1,h3,h4⟩=>⟨xs.length-(i+1),by lia,rfl,ve,h1,h3,h4⟩,fun y H' hy=>?_⟩
  obtain⟨rfl,hy⟩:=hy
  have ey:=hy _ (s2.seq hS)
  simp only[fC,List.set,CI]
  rw[if_pos trivial]
  refine step i y ys _ ey s2 h2 ly p2 _ fun v H3 s3 p3=>⟨ys,s3 _ _ h2,?_,⟨_,rfl⟩,?_,ys++[v],ai,by simp[ly],p3⟩
  ·have:sizeLine=2 ^ 24:=rfl
   lia
  ·intro b o e
   rw[ay (ao e hD)]
   exact s3 _ _ (s2 _ _ e)
 ·have e:i=xs.length:=by lia
  subst e
  exact .inl ⟨⟨xs,s2.seq hS,Nat.le_refl _⟩,q ys H2 s2 h2 p2⟩
end L2
namespace L2
open PySem
abbrev IH:PG.bF->Prop:=PG.rE (·∈PG.c7) (fun e=>PG.FI e/\PG.mG e<=2) (·∈PG.ze)
theorem EF:∀l:List Int,PyData.canLayAll0 (Dp.t9 (l.map Dp.int))=true/\PyData.depthAll (Dp.t9 (l.map Dp.int))=0
 |[]=>by simp[Dp.t9,PyData.canLayAll0,PyData.depthAll]
 |i::r=>by
  obtain⟨h1,h2⟩:=EF r
  simp[Dp.t9,Dp.py,PyData.canLayAll0,PyData.depthAll,PyData.canLay0,PyData.depth,h1,h2]
section
variable(K:PySem.W.Frag)
end
theorem Bi{K:PySem.W.Frag}{H:Hp}{fl:List PG.dQ}{fv:List V}(g2:aQ K H (fl.map eQ) fv){i:Nat}{y:V}(hi:fv[i]?=some y)(li:i<fl.length) :
 ∃a p,y=.ref a/\c5 K H a [.int fl[i].1,.str (fX fl[i].2.1),.ref p]/\c5 K H p (fl[i].2.2.map V.int):=by
 obtain⟨v',B5,rv⟩:=g2.get (i:=i) (d:=eQ fl[i]) (by rw[List.getElem?_map,List.getElem?_eq_getElem li];rfl)
 rw[hi] at B5
 cases B5
 unfold eQ at rv
 rw[Rep.bq] at rv
 obtain⟨a,xs,rfl,hx,rs⟩:=rv
 rw[aQ.aJ] at rs
 obtain⟨v1,t1,rfl,r1,rs⟩:=rs
 rw[aQ.aJ] at rs
 obtain⟨v2,t2,rfl,r2,rs⟩:=rs
 rw[aQ.aJ] at rs
 obtain⟨v3,t3,rfl,r3,rs⟩:=rs
 rw[aQ.br] at rs
 rw[Rep.bB] at r1
 rw[Rep.bE] at r2
 obtain⟨p,ys,rfl,hp,ry⟩:=Rep.bq.mp r3
 subst r1 r2 rs
 have key:∀ {l:List Int} {ys:List V},aQ K H (l.map Dp.int) ys->ys=l.map V.int:=by
  intro l
  induction l with
  |nil=>intro ys h;rw[List.map_nil,aQ.br] at h;exact h
  |cons i r ih=>
   intro ys h
   rw[List.map_cons,aQ.aJ] at h
   obtain⟨v,t,rfl,h1,h2⟩:=h
   rw[Rep.bB] at h1
   rw[h1,ih h2]
   rfl
 rw[key ry] at hp
 exact⟨a,p,rfl,hx,hp⟩
end L2
namespace L3
open PySem PyProof.Rows
theorem LY:typeLookup (.type "list") "keys"=pure none:=by rw[typeLookup_type,builtinLookup_eq_fast];kernel_rfl
theorem LZ:typeLookup (.type "list") "__getattr__"=pure none:=by rw[typeLookup_type,builtinLookup_eq_fast];kernel_rfl
section
variable{prog:Program}{w:World}{A:Around}{E:Value->Shared->Prop}
theorem Jg(a:Addr)(u:Tok){hp:Heap}{g:Array GenState}{d:Drawn}{tk:Nat}{os:OsState}{bA:Array Value}{n:Nat}{sl:Array (Option Value)}{Q:Fin->Shared->Prop}(hx:hp.get? a=some ⟨.type "list",none,.seq bA n,sl⟩)(hA:A.handled=none)
 (h:∀h' L0 e,Heap.NewAttrErr hp h' e (.ref a) "keys"->E (.ref e) ⟨h',g,d,L0,os⟩) :
 wpAny (model prog w) A (Builtin.«object.__getattribute__» ⟨[.ref a,.str "keys" u],[]⟩) Q E ⟨hp,g,d,tk,os⟩:=by
 have hT:(⟨hp,g,d,tk,os⟩:Shared).TypeIs (.ref a) "list":=⟨_,hx,rfl⟩
 have f4:=LY
 unfold Builtin.«object.__getattribute__»
 repeat (any_goals (first |assumption |wp_step))
 exact wpAny_raiseAttrError hA h (attrMsg_fits (by decide +kernel) (by size_fits))
theorem F7(a:Addr){s:Shared}{bA:Array Value}{n:Nat}{sl:Array (Option Value)}{Q:Option Value->Shared->Prop}(hx:s.heap.get? a=some ⟨.type "list",none,.seq bA n,sl⟩)(hA:A.handled=none)
 (h:∀h' tk,(∀b ob,s.heap.get? b=some ob->h'.get? b=some ob)->Q none {s with heap:=h',toks:=tk}):wpAny (model prog w) A (getAttr? (.ref a) "keys") Q E s:=by
 obtain⟨hp,g,d,tk,os⟩:=s
 have hT:∀L0,(⟨hp,g,d,L0,os⟩:Shared).TypeIs (.ref a) "list":=fun _=>⟨_,hx,rfl⟩
 have f1:=sub_AttributeError
 have f2:=F.slot_list_getattribute.lookup
 have f3:=F.slot_list_getattribute.bind (.ref a)
 have f5:=LZ
 unfold getAttr? getAttrBy? getAttrBy
 repeat (any_goals (first |assumption |exact hT _ |wp_step))
 all_goals
  refine codeAny_call_builtin F.slot_list_getattribute.plain F.entry_list_ga (F.slot_list_getattribute.check _ _ _ _ _ _ _ _ (show (⟨hp,g,d,tk+1,os⟩:Shared).TypeIs (.ref a) "list" from ⟨_,hx,rfl⟩) (F.args_list_getattribute_2 _ _) ?_)
 all_goals
  refine Jg a tk hx hA fun h' L0 e ne=>?_
 all_goals
  obtain⟨t',u',he⟩:=ne.there
  show wpAny _ _ (getattributeRaised _ _ _ _ _ _ _) _ _ _
  unfold getattributeRaised
  repeat (any_goals (first |assumption |wp_step))
 all_goals exact h _ _ ne.keeps
theorem mK:entryFor table "dict.update.loop"=some Builtin.«dict.update.loop»:=entryFor_of_tree (by kernel_rfl)
theorem gc:plainId "dict.update.loop"=true:=by decide +kernel
theorem Bj{κ:Type}[DecidableEq κ](knd:KeyKind prog w κ)(d it l:Addr)(items:Array Value)(res:Value)(hA:A.handled=none)(B7:it≠d){R:Result->Shared->Prop}:∀(r:List (Addr×κ×Value×Value)) (i:Nat) (j:Int) (u:Tok) (aP:List (κ×Value)) (s:Shared),
 items.toList.drop i=r.map (fun q=>Value.ref q.1)->(∀q∈r,s.heap.IsTuple q.1 #[q.2.2.1,q.2.2.2]/\knd.is q.2.1 q.2.2.1=true)->s.heap.IsListIter it l i->s.heap.IsList l items->s.heap.DictOf knd d aP->aP.length+r.length<=sizeLine->
 (∀h' tk,h'.DictOf knd d (merged aP (r.map fun q=>(q.2.1,q.2.2.2)))->(∀b o,b≠d->b≠it->s.heap.get? b=some o->h'.get? b=some o)->R (.ok (.ret res)) {s with heap:=h',toks:=tk})->
 codeAny (model prog w) A (.builtin "dict.update.loop" ⟨[.ref d,.ref it,.int j u,res],[]⟩) R s
 |[],i,j,u,aP,s,hi,hp,hit,hl,hd,hz,hR=>by
  refine codeAny_builtin mK ?_
  rw[Around.under_plainId gc _]
  show wpAny _ A.in1 (pyNext (.ref it) >>= _) _ _ s
  refine wpAny_bind (wpAny_pyNext_list_end hA hit hl (by rw[<- Array.getElem?_toList];rw[List.map_nil] at hi;exact List.getElem?_eq_none (List.drop_eq_nil_iff.mp hi)) fun h' ext=>?_)
  show wpAny _ _ (Builtin.Dict.addKeywords d [] >>= _) _ _ _
  refine wpAny_bind (wpAny_pure (wpAny_pure (hR h' s.toks ?_ fun b o _ h2 e=>?_)))
  ·obtain⟨o,es,ep,ho,rest⟩:=hd
   exact⟨o,es,ep,ext d o B7.symm ho,rest⟩
  ·exact ext b o h2 e
 |q::r,i,j,u,aP,s,hi,hp,hit,hl,hd,hz,hR=>by
  have hx:items[i]?=some (Value.ref q.1):=by
   rw[<- Array.getElem?_toList,<- List.head?_drop,hi]
   rfl
  refine codeAny_builtin mK ?_
  rw[Around.under_plainId gc _]
  show wpAny _ A.in1 (pyNext (.ref it) >>= _) _ _ s
  refine wpAny_bind (wpAny_pyNext_list_item hit hl hx fun h' O3 sb=>?_)
  obtain⟨⟨oq,Wh,Wi,nq,hdq⟩,kq⟩:=hp q (List.mem_cons_self ..)
  have niq:q.1≠it:=fun z=>by
   obtain⟨oi,Pf,So,_⟩:=hit
   rw[z,Pf] at Wh
   cases Wh
   rw[So] at Wi
   exact absurd (Value.type.inj Wi) (by decide)
  have Sq:h'.get? q.1=some oq:=(sb.2 _ niq).trans Wh
  have Ce:h'.DictOf knd d aP:=by
   obtain⟨o,es,ep,ho,rest⟩:=hd
   exact⟨o,es,ep,(sb.2 d B7.symm).trans ho,rest⟩
  show wpAny _ A.in1 (holding [Value.ref q.1] _ >>= _) _ _ _
  refine wpAny_bind (wpAny_holding (wpAny_bind (wpAny_tryCatch ?_)))
  unfold Builtin.Dict.pairItems
  refine wpAny_bind (wpAny_typeOf (T:="tuple") ⟨oq,Sq,Wi⟩ ?_)
  rw[if_pos (by decide)]
  refine wpAny_bind (wpAny_seqItems (s:={s with heap:=h' }) Sq hdq (wpAny_pure ?_))
  show wpAny _ A.in1 (holding [q.2.2.1,q.2.2.2] (dictSet d q.2.2.1 q.2.2.2)) _ _ _
  refine wpAny_holding (wpAny_dictSet_pairs (s:={s with heap:=h' }) kq Ce (fun h2 hd2 Pg=>?_) (by simp only[List.length_cons] at hz;lia))
  refine wpAny_pure ⟨plainId_quiet gc _,?_⟩
  refine Bj knd d it l items res hA B7 r (i+1) (j+1) _ _ _ ?_ (fun p Sr=>?_) ?_ ?_ hd2 ?_ fun h3 tk KP keep=>hR h3 tk KP fun b o n1 n2 e=>keep b o n1 n2 ?_
  ·rw[<- List.drop_drop,hi]
   rfl
  ·obtain⟨⟨op,OC,Wj,np,Wk⟩,kp⟩:=hp p (List.mem_cons_of_mem _ Sr)
   refine⟨⟨op,?_,Wj,np,Wk⟩,kp⟩
   have n1:p.1≠it:=fun z=>by
    obtain⟨oi,Pf,So,_⟩:=hit
    rw[z,Pf] at OC
    cases OC
    rw[So] at Wj
    exact absurd (Value.type.inj Wj) (by decide)
   have n2:p.1≠d:=fun z=>by
    obtain⟨od,_,_,Wl,_,L1,_⟩:=hd
    rw[z,Wl] at OC
    cases OC
    rw[L1] at Wk
    cases Wk
   exact(Pg.2 _ n2).trans ((sb.2 _ n1).trans OC)
  ·obtain⟨oi,Pf,rest⟩:=O3
   exact⟨oi,(Pg.2 _ B7).trans Pf,rest⟩
  ·obtain⟨ol,KQ,Wm,nl,Ss⟩:=hl
   have n1:l≠it:=fun z=>by
    obtain⟨oi,Pf,So,_⟩:=hit
    rw[z,Pf] at KQ
    cases KQ
    rw[So] at Wm
    exact absurd (Value.type.inj Wm) (by decide)
   have n2:l≠d:=fun z=>by
    obtain⟨od,_,_,Wl,_,L1,_⟩:=hd
    rw[z,Wl] at KQ
    cases KQ
    rw[L1] at Ss
    cases Ss
   exact⟨ol,(Pg.2 _ n2).trans ((sb.2 _ n1).trans KQ),Wm,nl,Ss⟩
  ·have:=stored_length_le aP q.2.1 q.2.2.2
   simp only[List.length_cons] at hz
   lia
  ·exact(Pg.2 _ n1).trans ((sb.2 _ n2).trans e)
theorem dict_list{κ:Type}[DecidableEq κ](knd:KeyKind prog w κ)(l:Addr){s:Shared}{items:Array Value}{n:Nat}{sl:Array (Option Value)}{Q:Value->Shared->Prop}(hA:A.handled=none)(r:List (Addr×κ×Value×Value))(hx:s.heap.get? l=some ⟨.type "list",none,.seq items n,sl⟩)
 (hi:items.toList=r.map (fun q=>Value.ref q.1)) (hp:∀q∈r,s.heap.IsTuple q.1 #[q.2.2.1,q.2.2.2]/\knd.is q.2.1 q.2.2.1=true) (hz:r.length<=sizeLine)
 (h:∀h' tk,h'.DictOf knd s.heap.objs.size (merged [] (r.map fun q=>(q.2.1,q.2.2.2)))->(∀b o,s.heap.get? b=some o->h'.get? b=some o)->Q (.ref s.heap.objs.size) {s with heap:=h',toks:=tk}) :
 wpAny (model prog w) A (call (.type "dict") [.ref l]) Q E s:=by
 refine callType_codes (Q₁:=fun obj s₁=>obj=.ref s.heap.objs.size/\s₁={s with heap:=s.heap.push {cls:=.type "dict",data:=.dict #[]} }) F.kt_called_dict (F.kt_typeCall_dict_1 _) F.entry_dict_init (kt_code_dict_new _ ⟨rfl,rfl⟩) ?_
 rintro obj s₁ ⟨rfl,rfl⟩
 have C4:(s.heap.push {cls:=.type "dict",data:=.dict #[]}).DictOf knd s.heap.objs.size []:=Heap.DictOf.new s.heap
 have qg:∀b o,s.heap.get? b=some o->(s.heap.push {cls:=.type "dict",data:=.dict #[]}).get? b=some o:=fun b o e=>Heap.get?_push_of_some _ e
 refine⟨C4.typeIs,F.args_dict_init_2 _ _,?_⟩
 unfold Builtin.«dict.__init__»
 refine wpAny_bind ?_
 unfold Builtin.Dict.selfAndRest
 refine wpAny_bind (wpAny_notOrdered_dict C4.typeIs ?_)
 show wpAny _ _ (pure (s.heap.objs.size,[Value.ref l])) _ _ _
 refine wpAny_pure ?_
 show wpAny _ _ (Builtin.Dict.updateFrom "dict.__init__" s.heap.objs.size (.ref l) [] .none) _ _ _
 unfold Builtin.Dict.updateFrom
 refine wpAny_bind (wpAny_typeOf (T:="list") ⟨_,qg _ _ hx,rfl⟩ ?_)
 rw[if_pos (by decide)]
 refine wpAny_bind (F7 (n:=n) (sl:=sl) l (qg _ _ hx) hA fun h2 Wn qh=>?_)
 rw[if_pos (show (none:Option Value).isNone=true from rfl)]
 refine wpAny_bind (wpAny_rule ?_)
 have CD:h2.IsList l items:=⟨_,qh _ _ (qg _ _ hx),rfl,n,rfl⟩
 have hd2:h2.DictOf knd s.heap.objs.size []:=by
  obtain⟨o,es,ep,ho,rest⟩:=C4
  exact⟨o,es,ep,qh _ _ ho,rest⟩
 refine wpAny_bind (wpAny_pyIter_list (s:={s with heap:=h2,toks:=Wn}) CD ?_)
 have EG:∀b o,h2.get? b=some o->(h2.push {cls:=.type "list_iterator",data:=.fields #[.ref l,.int 0 0]}).get? b=some o:=fun b o e=>Heap.get?_push_of_some _ e
 have nd:h2.objs.size≠s.heap.objs.size:=by
  obtain⟨o,es,ep,ho,_⟩:=hd2
  exact fun e=>absurd (Heap.lt_size ho) (by rw[e];exact Nat.lt_irrefl _)
 refine wpAny_pure ⟨plainId_quiet gc _,?_⟩
 refine Bj (A:=A.in1) knd s.heap.objs.size h2.objs.size l items .none hA nd r 0 0 _ [] _ (by simpa using hi) (fun q hq=>?_) ⟨_,Heap.get?_push_size _ rfl,rfl,rfl⟩ ?_ ?_ (by simpa using hz) fun h4 Wo Wq Jh=>?_
 ·obtain⟨⟨o,ho,rest⟩,kq⟩:=hp q hq
  exact⟨⟨o,EG _ _ (qh _ _ (qg _ _ ho)),rest⟩,kq⟩
 ·obtain⟨o,ho,rest⟩:=CD
  exact⟨o,EG _ _ ho,rest⟩
 ·obtain⟨o,es,ep,ho,rest⟩:=hd2
  exact⟨o,es,ep,EG _ _ ho,rest⟩
 ·refine⟨rfl,h h4 Wo Wq fun b o e=>Jh b o (fun z=>?_) (fun z=>?_) (EG _ _ (qh _ _ (qg _ _ e)))⟩
  ·rw[z] at e
   exact absurd (Heap.lt_size e) (Nat.lt_irrefl _)
  ·have:=Heap.lt_size (qh _ _ (qg _ _ e))
   rw[z] at this
   exact absurd this (Nat.lt_irrefl _)
end
end L3
namespace L2
open PySem PyProof.Rows
theorem qP{X:Cx}(hc:X.calm=true):qe X (.type "dict") (fun xs H Q=>∃(a:Addr) (ps:List (Addr×Key×V)),xs=[.ref a]/\il X.K H a (ps.map fun q=>V.ref q.1)/\(∀q∈ps,c5 X.K H q.1 [kV q.2.1,q.2.2])/\ps.length<=sizeLine/\
 ∀p,H p=none->Q (.ref p) (upd H p (.dK (iw [] (ps.map fun q=>(q.2.1,q.2.2)))))):=by
 intro pins s σ H xs us Q I r h
 obtain⟨a,ps,rfl,ha,hp,hz,q⟩:=h
 obtain⟨u,rfl,ru⟩:=vals1 r
 cases (show u=Value.ref a from ru)
 obtain⟨bA,v1,t1,_⟩:=I.list ha
 obtain⟨⟨cls,dct,dat,sl⟩,n,e1,YN,YO,Su⟩:=t1
 simp only at YN YO Su
 subst YN YO Su
 have mk:∀(l:List (Addr×Key×V)) (us:List Value),Vals (l.map fun q=>V.ref q.1) us->(∀q∈l,c5 X.K H q.1 [kV q.2.1,q.2.2])->∃r:List (Addr×Key×Value×Value),us=r.map (fun q=>Value.ref q.1)/\r.length=l.length/\
  (∀q∈r,s.heap.IsTuple q.1 #[q.2.2.1,q.2.2.2]/\(b3 X.prog X.w).is q.2.1 q.2.2.1=true)/\KV (l.map fun q=>(q.2.1,q.2.2)) (r.map fun q=>(q.2.1,q.2.2.2)):=by
  intro l
  induction l with
  |nil=>intro us v _;cases v;exact⟨[],rfl,rfl,fun _ z=>(by cases z),.nil⟩
  |cons x l ih=>
   intro us v hp
   rw[List.map_cons] at v
   cases v with
   |cons v1 v2=>
    obtain⟨r,e,lr,hr,kv⟩:=ih _ v2 (fun q hq=>hp q (List.mem_cons_of_mem _ hq))
    obtain⟨rO,w1,tu,_⟩:=I.tuple (hp x (List.mem_cons_self ..))
    obtain⟨ku,vu,rfl,rk,rv⟩:=vals2 w1
    cases v1
    obtain⟨o,ho,hco,no,hdo⟩:=tu
    refine⟨(x.1,x.2.1,ku,vu)::r,by rw[e];rfl,by simp[lr],fun q hq=>?_,.cons ⟨rfl,rv⟩ kv⟩
    rcases List.mem_cons.mp hq with rfl |hq
    ·exact⟨⟨o,ho,hco,no,hdo⟩,vQ rk⟩
    ·exact hr q hq
 obtain⟨r',er,lr,hr,kv⟩:=mk ps bA v1 hp
 refine L3.dict_list (b3 X.prog X.w) a (I.ok.hd hc) r' e1 (by simpa using er) hr (by lia) fun h' tk dd keep=>?_
 have hn:=I.dU.fresh (Nat.le_refl s.heap.objs.size)
 have hb:(s.heap.objs.size==sysModules)=false:=beq_eq_false_iff_ne.mpr (Ne.symm (Nat.ne_of_lt I.big))
 refine⟨.ref s.heap.objs.size,_,I.laid keep (Nat.le_refl _) (vR ?_ hb (kv.merge .nil) dd),rfl,q _ hn⟩
 have h1:=gM (ps.map fun q=>(q.2.1,q.2.2)) []
 rw[List.length_nil,List.length_map] at h1
 lia
end L2
namespace L3
open PySem PyProof.Rows
section
variable{prog:Program}{w:World}{A:Around}{E:Value->Shared->Prop}{s:Shared}
theorem wD{j tp:Addr}{k:Nat}{bA:Array Value}{v:Value}{Q:Value->Shared->Prop}(hj:s.heap.IsTupleIter j tp k)(ht:s.heap.IsTuple tp bA)(hv:bA[k]?=some v)
 (hQ:∀h',h'.IsTupleIter j tp (k+1)->Heap.SameBut j s.heap h'->Q v {s with heap:=h' }):wpAny (model prog w) A (Builtin.SmallTypes.nextOf (.ref j)) Q E s:=by
 obtain⟨oj,gj,cj,dj⟩:=id hj
 obtain⟨ot,gt,_,nt,dt⟩:=ht
 unfold Builtin.SmallTypes.nextOf
 refine wpAny_bind (wpAny_callSpecial?_slot (name:=Str.ofString "__next__") hj.typeIs F.slot_tuple_iterator_next (wpAny_call_entry F.slot_tuple_iterator_next hj.typeIs F.entry_tuple_iterator_next ?_ (F.args_tuple_iterator_next_1 _)))
 show wpAny _ _ (field (.ref j) 0 >>= _) _ _ s
 refine wpAny_bind (wpAny_field gj dj (x:=.ref tp) rfl ?_)
 show wpAny _ _ (if (Value.ref tp==Value.none)=true then _ else _) _ _ s
 rw[if_neg (show ¬((Value.ref tp==Value.none)=true) from Bool.false_ne_true)]
 show wpAny _ _ (field (.ref j) 1 >>= _) _ _ s
 refine wpAny_bind (wpAny_field gj dj (x:=.int k 0) rfl ?_)
 show wpAny _ _ (seqItems? (.ref tp) >>= _) _ _ s
 refine wpAny_bind (wpAny_seqItems gt dt ?_)
 simp only[Int.toNat_natCast,hv]
 refine wpAny_bind (wpAny_setField gj dj (by simp) (wpAny_pure ⟨v,rfl,wpAny_pure (hQ _ ?_ (Heap.SameBut.update ..))⟩))
 exact⟨_,Heap.get?_update_self _ gj (Obj.isFreed_of_fields (Obj.data_mapFields dj _)),(Obj.cls_mapFields ..).trans cj,by rw[Obj.data_mapFields dj];simp[rawInt]⟩
abbrev zo (h:Heap) (z ti to:Addr) (f g:Value):Prop:=h.get? z=some {cls:=.type "zip",dict:=none,data:=.fields #[f,g,.bool false,.ref ti,.ref to],slots:=#[]}
theorem Bk{z ti to T:Addr}{u:Tok}{o:Obj}{g:Bool}{R:Bool->Shared->Prop}(hz:zo s.heap z ti to (.int T u) (.bool g))(hT:s.heap.get? T=some o)
 (h:∀h₀,zo h₀ z ti to (.int T u) (.bool true)->Heap.SameBut z s.heap h₀->R false {s with heap:=h₀}):wpAny (model prog w) A (Builtin.SmallTypes.ownedTupleIsFree (.ref z)) R E s:=by
 unfold Builtin.SmallTypes.ownedTupleIsFree
 refine wpAny_bind (wpAny_field hz rfl (x:=.int T u) rfl ?_)
 show wpAny _ _ (loadIfAlive (T:Int).toNat >>= _) _ _ _
 refine wpAny_bind ?_
 have alive:∀ {R:Option Obj->Shared->Prop},R (some o) s->wpAny (model prog w) A (loadIfAlive (T:Int).toNat) R E s:=fun h=>by
  rw[Int.toNat_natCast]
  intro Γ p hp
  unfold loadIfAlive
  rw[Sem.wp_loadIfAlive,hT]
  exact h
 refine alive ?_
 rw[if_neg (by simp)]
 refine wpAny_bind (wpAny_field hz rfl (x:=.bool g) rfl ?_)
 cases g with
 |false=>
  rw[if_pos (by decide)]
  exact wpAny_bind (wpAny_setField_rec hz (by simp) fun h₀ EH sb=>wpAny_pure (h h₀ EH sb))
 |true=>
  rw[if_neg (by decide)]
  exact wpAny_pure (h s.heap hz (Heap.SameBut.refl _ _))
theorem C5{z ti to j1 j2 l tp T:Addr}{xs ys:Array Value}{i:Nat}{u:Tok}{o:Obj}{g:Bool}{x y:Value}{Q:Value->Shared->Prop}(hz:zo s.heap z ti to (.int T u) (.bool g))(hT:s.heap.get? T=some o)(hI:IsPair s.heap ti (.ref j1) (.ref j2))
 (h1:s.heap.IsListIter j1 l i) (h2:s.heap.IsTupleIter j2 tp i) (hl:s.heap.IsList l xs) (ht:s.heap.IsTuple tp ys) (B8:z≠j1) (L4:z≠j2) (NC:j1≠j2) (hx:xs[i]?=some x) (hy:ys[i]?=some y)
 (hQ:∀h',zo h' z ti to (.int T u) (.bool true)->h'.IsListIter j1 l (i+1)->h'.IsTupleIter j2 tp (i+1)->IsPair h' s.heap.objs.size x y->h'.objs.size=s.heap.objs.size+1->
  (∀c o,c≠z->c≠j1->c≠j2->s.heap.get? c=some o->h'.get? c=some o)->Q (.ref s.heap.objs.size) {s with heap:=h' }) :
 wpAny (model prog w) A (Builtin.«zip.__next__» ⟨[.ref z],[]⟩) (fun fin s'=>∃v,fin=.done (.ret v)/\Q v s') E s:=by
 have lz:l≠z:=fun e=>by
  obtain⟨q,gq,cq,_⟩:=hl
  rw[e,hz] at gq
  cases gq
  exact absurd (Value.type.inj cq) (by decide)
 have lj1:l≠j1:=fun e=>by
  obtain⟨q,gq,cq,_⟩:=hl
  obtain⟨r,gr,cr,_⟩:=h1
  rw[e,gr] at gq
  cases gq
  rw[cr] at cq
  exact absurd (Value.type.inj cq) (by decide)
 have tz:tp≠z:=fun e=>by
  obtain⟨q,gq,cq,_⟩:=ht
  rw[e,hz] at gq
  cases gq
  exact absurd (Value.type.inj cq) (by decide)
 have Wr:tp≠j1:=fun e=>by
  obtain⟨q,gq,cq,_⟩:=ht
  obtain⟨r,gr,cr,_⟩:=h1
  rw[e,gr] at gq
  cases gq
  rw[cr] at cq
  exact absurd (Value.type.inj cq) (by decide)
 show wpAny _ _ (field (.ref z) 2 >>= _) _ _ _
 refine wpAny_bind (wpAny_field hz rfl (x:=.bool false) rfl ?_)
 show wpAny _ _ (field (.ref z) 3 >>= _) _ _ _
 refine wpAny_bind (wpAny_field hz rfl (x:=.ref ti) rfl ?_)
 refine wpAny_bind (wpAny_seqItems hI rfl ?_)
 show wpAny _ _ (Builtin.SmallTypes.ownedTupleIsFree (.ref z) >>= _) _ _ _
 refine wpAny_bind (Bk hz hT fun h₀ EH qi=>?_)
 dsimp only
 rw[if_neg Bool.false_ne_true]
 refine wpAny_bind ?_
 simp only[List.forIn_toArray,List.forIn_cons,List.forIn_nil]
 refine wpAny_bind (wpAny_bind (wpAny_holding ?_))
 show wpAny _ _ (Builtin.SmallTypes.nextOf (.ref j1) >>= _) _ _ _
 refine wpAny_bind (wpAny_nextOf_list_item (s:={s with heap:=h₀}) (h1.extBut qi.extBut B8.symm) (hl.extBut qi.extBut lz) hx fun h₂ Sv jo=>wpAny_pure ?_)
 refine wpAny_pure ?_
 refine wpAny_bind (wpAny_bind (wpAny_holding ?_))
 show wpAny _ _ (Builtin.SmallTypes.nextOf (.ref j2) >>= _) _ _ _
 have Ws:h₂.IsTupleIter j2 tp i:=by
  obtain⟨q,gq,rest⟩:=h2
  exact⟨q,jo.extBut _ _ NC.symm (qi.extBut _ _ L4.symm gq),rest⟩
 have Wt:h₂.IsTuple tp ys:=(ht.extBut qi.extBut tz).extBut jo.extBut Wr
 refine wpAny_bind (wD (s:={s with heap:=h₂}) Ws Wt hy fun h₃ Sw kC=>wpAny_pure ?_)
 refine wpAny_pure (wpAny_pure ?_)
 show wpAny _ _ (newTuple [x,y] >>= _) _ _ _
 have hsz:h₃.objs.size=s.heap.objs.size:=by rw[kC.1,jo.1,qi.1]
 refine wpAny_bind (wpAny_newTuple (s:={s with heap:=h₃}) ?_)
 refine wpAny_pure ⟨_,rfl,?_⟩
 show Q (.ref h₃.objs.size) _
 have hp:IsPair (h₃.push {cls:=.type "tuple",data:=.seq #[x,y]}) h₃.objs.size x y:=Heap.get?_push_size _ rfl
 have Su:(h₃.push {cls:=.type "tuple",data:=.seq #[x,y]}).objs.size=h₃.objs.size+1:=Heap.size_push ..
 rw[hsz] at hp Su ⊢
 have up:∀c o,h₃.get? c=some o->(h₃.push {cls:=.type "tuple",data:=.seq #[x,y]}).get? c=some o:=fun c o e=>Heap.get?_push_of_some _ e
 refine hQ _ (up _ _ (kC.extBut _ _ L4 (jo.extBut _ _ B8 EH))) ?_ ?_ hp Su fun c o c1 c2 c3 e=>up _ _ (kC.extBut _ _ c3 (jo.extBut _ _ c2 (qi.extBut _ _ c1 e)))
 ·obtain⟨q,gq,rest⟩:=Sv
  exact⟨q,up _ _ (kC.extBut _ _ NC gq),rest⟩
 ·obtain⟨q,gq,rest⟩:=Sw
  exact⟨q,up _ _ gq,rest⟩
theorem F8{z ti to j1 j2 l T:Addr}{xs:Array Value}{i:Nat}{u:Tok}{o:Obj}{g:Bool}{Q:Fin->Shared->Prop}(hA:A.handled=none)(hz:zo s.heap z ti to (.int T u) (.bool g))(hT:s.heap.get? T=some o)(hI:IsPair s.heap ti (.ref j1) (.ref j2))
 (h1:s.heap.IsListIter j1 l i) (hl:s.heap.IsList l xs) (B8:z≠j1) (hx:xs[i]?=none)
 (hE:∀h' e,(∀c o,c≠z->c≠j1->s.heap.get? c=some o->h'.get? c=some o)->(∃o,h'.get? e=some o/\o.cls=.type "StopIteration")->E (.ref e) {s with heap:=h' }) :
 wpAny (model prog w) A (Builtin.«zip.__next__» ⟨[.ref z],[]⟩) Q E s:=by
 have lz:l≠z:=fun e=>by
  obtain⟨q,gq,cq,_⟩:=hl
  rw[e,hz] at gq
  cases gq
  exact absurd (Value.type.inj cq) (by decide)
 show wpAny _ _ (field (.ref z) 2 >>= _) _ _ _
 refine wpAny_bind (wpAny_field hz rfl (x:=.bool false) rfl ?_)
 show wpAny _ _ (field (.ref z) 3 >>= _) _ _ _
 refine wpAny_bind (wpAny_field hz rfl (x:=.ref ti) rfl ?_)
 refine wpAny_bind (wpAny_seqItems hI rfl ?_)
 show wpAny _ _ (Builtin.SmallTypes.ownedTupleIsFree (.ref z) >>= _) _ _ _
 refine wpAny_bind (Bk hz hT fun h₀ EH qi=>?_)
 dsimp only
 rw[if_neg Bool.false_ne_true]
 refine wpAny_bind ?_
 simp only[List.forIn_toArray,List.forIn_cons,List.forIn_nil]
 refine wpAny_bind (wpAny_bind (wpAny_holding ?_))
 show wpAny _ _ (Builtin.SmallTypes.nextOf (.ref j1) >>= _) _ _ _
 exact wpAny_bind (wpAny_nextOf_list_end (s:={s with heap:=h₀}) hA (h1.extBut qi.extBut B8.symm) (hl.extBut qi.extBut lz) hx fun h₂ e jo he=>hE h₂ e (fun c o c1 c2 q=>jo _ _ c2 (qi.extBut _ _ c1 q)) he)
theorem C6{z ti to j1 j2 l tp:Addr}{xs ys:Array Value}{i:Nat}{a b x y:Value}{Q:Value->Shared->Prop}(hz:zo s.heap z ti to .none (.bool false))(hO:IsPair s.heap to a b)(hI:IsPair s.heap ti (.ref j1) (.ref j2))
 (h1:s.heap.IsListIter j1 l i) (h2:s.heap.IsTupleIter j2 tp i) (hl:s.heap.IsList l xs) (ht:s.heap.IsTuple tp ys) (B8:z≠j1) (L4:z≠j2) (Sx:z≠to) (Ji:to≠j1) (Jj:to≠j2) (NC:j1≠j2) (L5:tp≠to) (hx:xs[i]?=some x) (hy:ys[i]?=some y)
 (hQ:∀h',zo h' z ti to (rawInt s.heap.objs.size) (.bool false)->h'.IsListIter j1 l (i+1)->h'.IsTupleIter j2 tp (i+1)->IsPair h' s.heap.objs.size x y->h'.objs.size=s.heap.objs.size+1->
  (∀c o,c≠z->c≠to->c≠j1->c≠j2->s.heap.get? c=some o->h'.get? c=some o)->Q (.ref s.heap.objs.size) {s with heap:=h' }) :
 wpAny (model prog w) A (Builtin.«zip.__next__» ⟨[.ref z],[]⟩) (fun fin s'=>∃v,fin=.done (.ret v)/\Q v s') E s:=by
 have lz:l≠z:=fun e=>by
  obtain⟨q,gq,cq,_⟩:=hl
  rw[e,hz] at gq
  cases gq
  exact absurd (Value.type.inj cq) (by decide)
 have tz:tp≠z:=fun e=>by
  obtain⟨q,gq,cq,_⟩:=ht
  rw[e,hz] at gq
  cases gq
  exact absurd (Value.type.inj cq) (by decide)
 have Wr:tp≠j1:=fun e=>by
  obtain⟨q,gq,cq,_⟩:=ht
  obtain⟨r,gr,cr,_⟩:=h1
  rw[e,gr] at gq
  cases gq
  rw[cr] at cq
  exact absurd (Value.type.inj cq) (by decide)
 show wpAny _ _ (field (.ref z) 2 >>= _) _ _ _
 refine wpAny_bind (wpAny_field hz rfl (x:=.bool false) rfl ?_)
 show wpAny _ _ (field (.ref z) 3 >>= _) _ _ _
 refine wpAny_bind (wpAny_field hz rfl (x:=.ref ti) rfl ?_)
 refine wpAny_bind (wpAny_seqItems hI rfl ?_)
 show wpAny _ _ (Builtin.SmallTypes.ownedTupleIsFree (.ref z) >>= _) _ _ _
 refine wpAny_bind ?_
 unfold Builtin.SmallTypes.ownedTupleIsFree
 refine wpAny_bind (wpAny_field hz rfl (x:=.none) rfl (wpAny_pure ?_))
 simp only[if_true]
 refine wpAny_bind (wpAny_rule ?_)
 refine wpAny_bind (wpAny_field hz rfl (x:=.ref to) rfl ?_)
 refine wpAny_bind (wpAny_setField_rec hz (by simp) fun h₁ z₁ oG=>?_)
 replace z₁:zo h₁ z ti to .ellipsis (.bool false):=z₁
 refine wpAny_bind ?_
 simp only[List.zipIdx_cons,List.zipIdx_nil,List.forIn_cons,List.forIn_nil]
 refine wpAny_bind (wpAny_bind (wpAny_onRaise ?_))
 show wpAny _ _ (Builtin.SmallTypes.nextOf (.ref j1) >>= _) _ _ _
 refine wpAny_bind (wpAny_nextOf_list_item (h1.extBut oG.extBut B8.symm) (hl.extBut oG.extBut lz) hx fun h₂ k₂ jo=>wpAny_pure ?_)
 have o₂:IsPair h₂ to a b:=jo.extBut _ _ Ji (oG.extBut _ _ Sx.symm hO)
 refine wpAny_bind (wpAny_seqItems o₂ rfl ?_)
 refine wpAny_bind (wpAny_updateSeq_pair o₂ fun h₃ o₃ kC=>?_)
 replace o₃:IsPair h₃ to x b:=o₃
 refine wpAny_bind (wpAny_letGo (wpAny_pure ?_))
 refine wpAny_bind (wpAny_bind (wpAny_onRaise ?_))
 show wpAny _ _ (Builtin.SmallTypes.nextOf (.ref j2) >>= _) _ _ _
 have Ws:h₃.IsTupleIter j2 tp i:=by
  obtain⟨q,gq,rest⟩:=h2
  exact⟨q,kC.extBut _ _ Jj.symm (jo.extBut _ _ NC.symm (oG.extBut _ _ L4.symm gq)),rest⟩
 have Wt:h₃.IsTuple tp ys:=((ht.extBut oG.extBut tz).extBut jo.extBut Wr).extBut kC.extBut L5
 refine wpAny_bind (wD Ws Wt hy fun h₄ k₄ Bl=>wpAny_pure ?_)
 have o₄:IsPair h₄ to x b:=Bl.extBut _ _ Jj o₃
 refine wpAny_bind (wpAny_seqItems o₄ rfl ?_)
 refine wpAny_bind (wpAny_updateSeq_pair o₄ fun h₅ o₅ Bm=>?_)
 replace o₅:IsPair h₅ to x y:=o₅
 refine wpAny_bind (wpAny_letGo (wpAny_pure (wpAny_pure ?_)))
 refine wpAny_bind (wpAny_seqItems o₅ rfl ?_)
 refine wpAny_bind (wpAny_newTuple ?_)
 have hsz:h₅.objs.size=s.heap.objs.size:=by rw[Bm.1,Bl.1,kC.1,jo.1,oG.1]
 have z₅:zo h₅ z ti to .ellipsis (.bool false):=Bm.extBut _ _ Sx (Bl.extBut _ _ L4 (kC.extBut _ _ Sx (jo.extBut _ _ B8 z₁)))
 have kp:∀c o,c≠z->c≠to->c≠j1->c≠j2->s.heap.get? c=some o->h₅.get? c=some o:=fun c o c1 c2 c3 c4 e=>Bm.extBut _ _ c2 (Bl.extBut _ _ c4 (kC.extBut _ _ c2 (jo.extBut _ _ c3 (oG.extBut _ _ c1 e))))
 have YQ:z<h₅.objs.size:=Heap.lt_size z₅
 show wpAny _ _ (Builtin.SmallTypes.ownedTupleHandOut (.ref z) (.ref h₅.objs.size) >>= _) _ _ _
 refine wpAny_bind ?_
 unfold Builtin.SmallTypes.ownedTupleHandOut
 have z₆:zo (h₅.push {cls:=.type "tuple",data:=.seq #[x,y]}) z ti to .ellipsis (.bool false):=Heap.get?_push_of_some _ z₅
 refine wpAny_bind (wpAny_setField_rec z₆ (by simp) fun h₇ z₇ Jk=>?_)
 replace z₇:zo h₇ z ti to (rawInt h₅.objs.size) (.bool false):=z₇
 refine wpAny_setField_rec z₇ (by simp) fun h₈ z₈ Jl=>?_
 replace z₈:zo h₈ z ti to (rawInt h₅.objs.size) (.bool false):=z₈
 have up:∀c o,c≠z->h₅.get? c=some o->h₈.get? c=some o:=fun c o c1 e=>Jl.extBut _ _ c1 (Jk.extBut _ _ c1 (Heap.get?_push_of_some _ e))
 have t₈:IsPair h₈ h₅.objs.size x y:=Jl.extBut _ _ (Nat.ne_of_gt YQ) (Jk.extBut _ _ (Nat.ne_of_gt YQ) (Heap.get?_push_size _ rfl))
 have n₈:h₈.objs.size=h₅.objs.size+1:=by rw[Jl.1,Jk.1,Heap.size_push]
 rw[hsz] at z₈ t₈ n₈
 refine wpAny_pure ⟨_,rfl,?_⟩
 show Q (.ref h₅.objs.size) _
 rw[hsz]
 refine hQ h₈ z₈ ?_ ?_ t₈ n₈ fun c o c1 c2 c3 c4 e=>up c o c1 (kp c o c1 c2 c3 c4 e)
 ·obtain⟨q,gq,rest⟩:=k₂
  exact⟨q,up _ _ B8.symm (Bm.extBut _ _ Ji.symm (Bl.extBut _ _ NC (kC.extBut _ _ Ji.symm gq))),rest⟩
 ·obtain⟨q,gq,rest⟩:=k₄
  exact⟨q,up _ _ L4.symm (Bm.extBut _ _ Jj.symm gq),rest⟩
theorem F9{z ti to j1 j2 l:Addr}{xs:Array Value}{i:Nat}{Q:Fin->Shared->Prop}(hA:A.handled=none)(hz:zo s.heap z ti to .none (.bool false))(hI:IsPair s.heap ti (.ref j1) (.ref j2))
 (h1:s.heap.IsListIter j1 l i) (hl:s.heap.IsList l xs) (B8:z≠j1) (hx:xs[i]?=none)
 (hE:∀h' e,(∀c o,c≠z->c≠j1->s.heap.get? c=some o->h'.get? c=some o)->(∃o,h'.get? e=some o/\o.cls=.type "StopIteration")->E (.ref e) {s with heap:=h' }) :
 wpAny (model prog w) A (Builtin.«zip.__next__» ⟨[.ref z],[]⟩) Q E s:=by
 have lz:l≠z:=fun e=>by
  obtain⟨q,gq,cq,_⟩:=hl
  rw[e,hz] at gq
  cases gq
  exact absurd (Value.type.inj cq) (by decide)
 show wpAny _ _ (field (.ref z) 2 >>= _) _ _ _
 refine wpAny_bind (wpAny_field hz rfl (x:=.bool false) rfl ?_)
 show wpAny _ _ (field (.ref z) 3 >>= _) _ _ _
 refine wpAny_bind (wpAny_field hz rfl (x:=.ref ti) rfl ?_)
 refine wpAny_bind (wpAny_seqItems hI rfl ?_)
 show wpAny _ _ (Builtin.SmallTypes.ownedTupleIsFree (.ref z) >>= _) _ _ _
 refine wpAny_bind ?_
 unfold Builtin.SmallTypes.ownedTupleIsFree
 refine wpAny_bind (wpAny_field hz rfl (x:=.none) rfl (wpAny_pure ?_))
 simp only[if_true]
 refine wpAny_bind (wpAny_rule ?_)
 refine wpAny_bind (wpAny_field hz rfl (x:=.ref to) rfl ?_)
 refine wpAny_bind (wpAny_setField_rec hz (by simp) fun h₁ z₁ oG=>?_)
 replace z₁:zo h₁ z ti to .ellipsis (.bool false):=z₁
 refine wpAny_bind ?_
 simp only[List.zipIdx_cons,List.zipIdx_nil,List.forIn_cons,List.forIn_nil]
 refine wpAny_bind (wpAny_bind (wpAny_onRaise ?_))
 show wpAny _ _ (Builtin.SmallTypes.nextOf (.ref j1) >>= _) _ _ _
 refine wpAny_bind (wpAny_nextOf_list_end hA (h1.extBut oG.extBut B8.symm) (hl.extBut oG.extBut lz) hx fun h₂ e jo he=>?_)
 obtain⟨oe,ge,ce⟩:=he
 have z₂:zo h₂ z ti to .ellipsis (.bool false):=jo _ _ B8 z₁
 have ez:e≠z:=fun q=>by subst q;rw[z₂] at ge;cases ge;simp at ce
 exact wpAny_setField_rec z₂ (by simp) fun h₃ _ kC=>hE h₃ e (fun c o c1 c3 q=>kC.extBut _ _ c1 (jo _ _ c3 (oG.extBut _ _ c1 q))) ⟨oe,kC.extBut _ _ ez ge,ce⟩
structure QN(z ti to j1 j2 l tp:Addr):Prop where
 zti:z≠ti
 Sx:z≠to
 B8:z≠j1
 L4:z≠j2
 Wu:ti≠to
 Wv:ti≠j1
 Ww:ti≠j2
 Ji:to≠j1
 Jj:to≠j2
 NC:j1≠j2
 Wx:l≠to
 L5:tp≠to
structure KR(h:Heap)(z ti to j1 j2 l tp:Addr)(xs ys:Array Value)(i:Nat):Prop where
 zip:(∃a b,zo h z ti to .none (.bool false)/\IsPair h to a b)\/∃(T:Addr) (u:Tok) (a b:Value) (g:Bool),zo h z ti to (.int T u) (.bool g)/\IsPair h T a b
 ins:IsPair h ti (.ref j1) (.ref j2)
 L6:h.IsListIter j1 l i
 QO:h.IsTupleIter j2 tp i
 ls:h.IsList l xs
 tu:h.IsTuple tp ys
theorem mL{h:Heap}{a b:Addr}{o o':Obj}{c c':String}(e:h.get? a=some o)(e':h.get? b=some o')(hc:o.cls=.type c)(Ri:o'.cls=.type c')(n:c≠c'):a≠b:=fun q=>by
 rw[q,e'] at e
 cases e
 rw[hc] at Ri
 exact n (Value.type.inj Ri)
theorem Jm{z ti to j1 j2 l tp:Addr}{xs ys:Array Value}{i:Nat}{x y:Value}{Q:Option Value->Shared->Prop}(ap:QN z ti to j1 j2 l tp)(st:KR s.heap z ti to j1 j2 l tp xs ys i)(hx:xs[i]?=some x)(hy:ys[i]?=some y)
 (hQ:∀h',KR h' z ti to j1 j2 l tp xs ys (i+1)->IsPair h' s.heap.objs.size x y->(∀c o,c≠z->c≠to->c≠j1->c≠j2->s.heap.get? c=some o->h'.get? c=some o)->Q (some (.ref s.heap.objs.size)) {s with heap:=h' }) :
 wpAny (model prog w) A (pyNext (.ref z)) Q E s:=by
 have zT:s.TypeIs (.ref z) "zip":=by
  rcases st.zip with ⟨a,b,hz,_⟩ |⟨T,u,a,b,g,hz,_⟩
  ·exact⟨_,hz,rfl⟩
  ·exact⟨_,hz,rfl⟩
 obtain⟨o1,g1,c1,_⟩:=st.L6
 obtain⟨o2,g2,c2,_⟩:=st.QO
 obtain⟨ol,gl,cl,_⟩:=st.ls
 obtain⟨ot,gt,ct,_⟩:=st.tu
 obtain⟨oz,gz,cz⟩:=zT
 have lk:∀h',(∀c o,c≠z->c≠to->c≠j1->c≠j2->s.heap.get? c=some o->h'.get? c=some o)->IsPair h' ti (.ref j1) (.ref j2)/\h'.IsList l xs/\h'.IsTuple tp ys:=fun h' k=>by
  refine⟨k _ _ ap.zti.symm ap.Wu ap.Wv ap.Ww st.ins,?_,?_⟩
  ·obtain⟨q,gq,rest⟩:=st.ls
   exact⟨q,k _ _ (mL gl gz cl cz (by decide)) ap.Wx (mL gl g1 cl c1 (by decide)) (mL gl g2 cl c2 (by decide)) gq,rest⟩
  ·obtain⟨q,gq,rest⟩:=st.tu
   exact⟨q,k _ _ (mL gt gz ct cz (by decide)) ap.L5 (mL gt g1 ct c1 (by decide)) (mL gt g2 ct c2 (by decide)) gq,rest⟩
 unfold pyNext
 refine wpAny_bind (wpAny_attempt (wpAny_callSpecial?_slot (name:=Str.ofString "__next__") ⟨oz,gz,cz⟩ F.slot_zip_next (wpAny_call_entry F.slot_zip_next ⟨oz,gz,cz⟩ F.entry_zip_next ?_ (F.args_zip_next_1 _))))
 rcases st.zip with ⟨a,b,hz,hO⟩ |⟨T,u,a,b,g,hz,hT⟩
 ·refine C6 hz hO st.ins st.L6 st.QO st.ls st.tu ap.B8 ap.L4 ap.Sx ap.Ji ap.Jj ap.NC ap.L5 hx hy fun h' q1 q2 q3 q4 q5 q6=>wpAny_pure ?_
  obtain⟨k1,k2,k3⟩:=lk h' q6
  exact hQ h' ⟨.inr ⟨_,_,x,y,false,q1,q4⟩,k1,q2,q3,k2,k3⟩ q4 q6
 ·refine C5 hz hT st.ins st.L6 st.QO st.ls st.tu ap.B8 ap.L4 ap.NC hx hy fun h' q1 q2 q3 q4 q5 q6=>wpAny_pure ?_
  have YR:∀c o,c≠z->c≠to->c≠j1->c≠j2->s.heap.get? c=some o->h'.get? c=some o:=fun c o a1 _ a3 a4 e=>q6 c o a1 a3 a4 e
  obtain⟨k1,k2,k3⟩:=lk h' YR
  exact hQ h' ⟨.inr ⟨T,u,a,b,true,q1,q6 _ _ (mL hT gz rfl cz (by decide)) (mL hT g1 rfl c1 (by decide)) (mL hT g2 rfl c2 (by decide)) hT⟩,k1,q2,q3,k2,k3⟩ q4 YR
theorem L7{z ti to j1 j2 l tp:Addr}{xs ys:Array Value}{i:Nat}{Q:Option Value->Shared->Prop}(hA:A.handled=none)(ap:QN z ti to j1 j2 l tp)(st:KR s.heap z ti to j1 j2 l tp xs ys i)(hx:xs[i]?=none)
 (hQ:∀h',(∀c o,c≠z->c≠j1->s.heap.get? c=some o->h'.get? c=some o)->Q none {s with heap:=h' }):wpAny (model prog w) A (pyNext (.ref z)) Q E s:=by
 have zT:s.TypeIs (.ref z) "zip":=by
  rcases st.zip with ⟨a,b,hz,_⟩ |⟨T,u,a,b,g,hz,_⟩
  ·exact⟨_,hz,rfl⟩
  ·exact⟨_,hz,rfl⟩
 unfold pyNext
 refine wpAny_bind (wpAny_attempt (wpAny_callSpecial?_slot (name:=Str.ofString "__next__") zT F.slot_zip_next (wpAny_call_entry F.slot_zip_next zT F.entry_zip_next ?_ (F.args_zip_next_1 _))))
 rcases st.zip with ⟨a,b,hz,hO⟩ |⟨T,u,a,b,g,hz,hT⟩
 ·refine F9 hA hz st.ins st.L6 st.ls ap.B8 hx fun h' e k he=>?_
  obtain⟨oe,ge,ce⟩:=he
  refine wpAny_bind (wpAny_isInstance (T:="StopIteration") (b:=true) ⟨oe,ge,ce⟩ isSubtype_stop ?_)
  exact wpAny_pure (hQ _ k)
 ·refine F8 hA hz hT st.ins st.L6 st.ls ap.B8 hx fun h' e k he=>?_
  obtain⟨oe,ge,ce⟩:=he
  refine wpAny_bind (wpAny_isInstance (T:="StopIteration") (b:=true) ⟨oe,ge,ce⟩ isSubtype_stop ?_)
  exact wpAny_pure (hQ _ k)
theorem KR.but{h h':Heap}{z ti to j1 j2 l tp d:Addr}{xs ys:Array Value}{i:Nat}(st:KR h z ti to j1 j2 l tp xs ys i)(sb:Heap.SameBut d h h')(dn:∀a o,h.get? a=some o->(∀es n,o.data≠.dict es n)->a≠d):KR h' z ti to j1 j2 l tp xs ys i:=by
 have k:∀a o,h.get? a=some o->(∀es n,o.data≠.dict es n)->h'.get? a=some o:=fun a o e n=>sb.extBut _ _ (dn a o e n) e
 refine⟨?_,k _ _ st.ins (by intro es n q;cases q),?_,?_,?_,?_⟩
 ·rcases st.zip with ⟨a,b,hz,hO⟩ |⟨T,u,a,b,g,hz,hT⟩
  ·exact .inl ⟨a,b,k _ _ hz (by intro es n q;cases q),k _ _ hO (by intro es n q;cases q)⟩
  ·exact .inr ⟨T,u,a,b,g,k _ _ hz (by intro es n q;cases q),k _ _ hT (by intro es n q;cases q)⟩
 ·obtain⟨o,go,hc,hd⟩:=st.L6
  exact⟨o,k _ _ go (by intro es n q;rw[hd] at q;cases q),hc,hd⟩
 ·obtain⟨o,go,hc,hd⟩:=st.QO
  exact⟨o,k _ _ go (by intro es n q;rw[hd] at q;cases q),hc,hd⟩
 ·obtain⟨o,go,hc,n',hd⟩:=st.ls
  exact⟨o,k _ _ go (by intro es n q;rw[hd] at q;cases q),hc,n',hd⟩
 ·obtain⟨o,go,hc,n',hd⟩:=st.tu
  exact⟨o,k _ _ go (by intro es n q;rw[hd] at q;cases q),hc,n',hd⟩
theorem EI{κ:Type}[DecidableEq κ](knd:KeyKind prog w κ)(d z ti to j1 j2 l tp:Addr)(xs ys:Array Value)(res:Value)(hA:A.handled=none)(ap:QN z ti to j1 j2 l tp)(YS:d≠to){R:Result->Shared->Prop}:∀(r:List (κ×Value×Value)) (i:Nat) (j:Int) (u:Tok) (aP:List (κ×Value)) (s:Shared),
 xs.toList.drop i=r.map (·.2.1)->ys.toList.drop i=r.map (·.2.2)->(∀q∈r,knd.is q.1 q.2.1=true)->KR s.heap z ti to j1 j2 l tp xs ys i->s.heap.DictOf knd d aP->aP.length+r.length<=sizeLine->
 (∀h' tk,h'.DictOf knd d (merged aP (r.map fun q=>(q.1,q.2.2)))->(∀b o,b≠d->b≠z->b≠to->b≠j1->b≠j2->s.heap.get? b=some o->h'.get? b=some o)->R (.ok (.ret res)) {s with heap:=h',toks:=tk})->
 codeAny (model prog w) A (.builtin "dict.update.loop" ⟨[.ref d,.ref z,.int j u,res],[]⟩) R s
 |[],i,j,u,aP,s,hi,hk,hp,st,hd,hz,hR=>by
  refine codeAny_builtin mK ?_
  rw[Around.under_plainId gc _]
  show wpAny _ A.in1 (pyNext (.ref z) >>= _) _ _ s
  have dn:∀a o,s.heap.get? a=some o->(∀es n,o.data≠.dict es n)->a≠d:=fun a o e n q=>by
   obtain⟨od,_,_,Sy,_,L1,_⟩:=hd
   rw[q,Sy] at e
   cases e
   exact n _ _ L1
  refine wpAny_bind (L7 hA ap st (by rw[<- Array.getElem?_toList];rw[List.map_nil] at hi;exact List.getElem?_eq_none (List.drop_eq_nil_iff.mp hi)) fun h' kp=>?_)
  show wpAny _ _ (Builtin.Dict.addKeywords d [] >>= _) _ _ _
  refine wpAny_bind (wpAny_pure (wpAny_pure (hR h' s.toks ?_ fun b o _ c1 _ c3 _ e=>kp b o c1 c3 e)))
  have dz:d≠z:=by
   rcases st.zip with ⟨a,b,gz,_⟩ |⟨T,u,a,b,g,gz,_⟩
   ·exact(dn _ _ gz (by intro es n q;cases q)).symm
   ·exact(dn _ _ gz (by intro es n q;cases q)).symm
  have dj:d≠j1:=by
   obtain⟨o,go,hc,Ce⟩:=st.L6
   exact(dn _ _ go (by intro es n q;rw[Ce] at q;cases q)).symm
  obtain⟨o,es,ep,ho,rest⟩:=hd
  exact⟨o,es,ep,kp d o dz dj ho,rest⟩
 |q::r,i,j,u,aP,s,hi,hk,hp,st,hd,hz,hR=>by
  have hx:xs[i]?=some q.2.1:=by
   rw[<- Array.getElem?_toList,<- List.head?_drop,hi]
   rfl
  have hy:ys[i]?=some q.2.2:=by
   rw[<- Array.getElem?_toList,<- List.head?_drop,hk]
   rfl
  have dn:∀a o,s.heap.get? a=some o->(∀es n,o.data≠.dict es n)->a≠d:=fun a o e n q=>by
   obtain⟨od,_,_,Sy,_,L1,_⟩:=hd
   rw[q,Sy] at e
   cases e
   exact n _ _ L1
  have dz:d≠z:=by
   rcases st.zip with ⟨a,b,gz,_⟩ |⟨T,u,a,b,g,gz,_⟩
   ·exact(dn _ _ gz (by intro es n q;cases q)).symm
   ·exact(dn _ _ gz (by intro es n q;cases q)).symm
  have dj1:d≠j1:=by
   obtain⟨o,go,hc,Ce⟩:=st.L6
   exact(dn _ _ go (by intro es n q;rw[Ce] at q;cases q)).symm
  have dj2:d≠j2:=by
   obtain⟨o,go,hc,Ce⟩:=st.QO
   exact(dn _ _ go (by intro es n q;rw[Ce] at q;cases q)).symm
  refine codeAny_builtin mK ?_
  rw[Around.under_plainId gc _]
  show wpAny _ A.in1 (pyNext (.ref z) >>= _) _ _ s
  refine wpAny_bind (Jm ap st hx hy fun h' KL pr kp=>?_)
  have Ce:h'.DictOf knd d aP:=by
   obtain⟨o,es,ep,ho,rest⟩:=hd
   exact⟨o,es,ep,kp d o dz YS dj1 dj2 ho,rest⟩
  show wpAny _ A.in1 (holding [Value.ref s.heap.objs.size] _ >>= _) _ _ _
  refine wpAny_bind (wpAny_holding (wpAny_bind (wpAny_tryCatch ?_)))
  unfold Builtin.Dict.pairItems
  refine wpAny_bind (wpAny_typeOf (T:="tuple") ⟨_,pr,rfl⟩ ?_)
  rw[if_pos (by decide)]
  refine wpAny_bind (wpAny_seqItems (s:={s with heap:=h' }) pr rfl (wpAny_pure ?_))
  show wpAny _ A.in1 (holding [q.2.1,q.2.2] (dictSet d q.2.1 q.2.2)) _ _ _
  refine wpAny_holding (wpAny_dictSet_pairs (s:={s with heap:=h' }) (hp q (List.mem_cons_self ..)) Ce (fun h2 hd2 Pg=>?_) (by simp only[List.length_cons] at hz;lia))
  refine wpAny_pure ⟨plainId_quiet gc _,?_⟩
  refine EI knd d z ti to j1 j2 l tp xs ys res hA ap YS r (i+1) (j+1) _ _ _ ?_ ?_ (fun p Sr=>hp p (List.mem_cons_of_mem _ Sr)) (KL.but Pg fun a o e n w=>?_) hd2 ?_ fun h3 tk KP keep=>hR h3 tk KP fun b o n1 n2 n3 n4 n5 e=>keep b o n1 n2 n3 n4 n5 ?_
  ·rw[<- List.drop_drop,hi]
   rfl
  ·rw[<- List.drop_drop,hk]
   rfl
  ·obtain⟨od,_,_,Sy,_,L1,_⟩:=Ce
   rw[w,Sy] at e
   cases e
   exact n _ _ L1
  ·have:=stored_length_le aP q.1 q.2.2
   simp only[List.length_cons] at hz
   lia
  ·exact(Pg.2 _ n1).trans (kp b o n2 n3 n4 n5 e)
theorem Jn:typeLookup (.type "zip") "keys"=pure none:=by rw[typeLookup_type,builtinLookup_eq_fast];kernel_rfl
theorem Jo:typeLookup (.type "zip") "__getattr__"=pure none:=by rw[typeLookup_type,builtinLookup_eq_fast];kernel_rfl
theorem zp:entryFor table "zip.__getattribute__"=some Builtin.«object.__getattribute__»:=entryFor_alias (id':="object.__getattribute__") (by kernel_rfl) (by first |rfl |decide +kernel) (by decide +kernel) (by kernel_rfl)
theorem Ga(a:Addr)(u:Tok){hp:Heap}{g:Array GenState}{d:Drawn}{tk:Nat}{os:OsState}{vs:Array Value}{Q:Fin->Shared->Prop}(hx:hp.get? a=some ⟨.type "zip",none,.fields vs, #[]⟩)(hA:A.handled=none)
 (h:∀h' L0 e,Heap.NewAttrErr hp h' e (.ref a) "keys"->E (.ref e) ⟨h',g,d,L0,os⟩) :
 wpAny (model prog w) A (Builtin.«object.__getattribute__» ⟨[.ref a,.str "keys" u],[]⟩) Q E ⟨hp,g,d,tk,os⟩:=by
 have hT:(⟨hp,g,d,tk,os⟩:Shared).TypeIs (.ref a) "zip":=⟨_,hx,rfl⟩
 have f4:=Jn
 unfold Builtin.«object.__getattribute__»
 repeat (any_goals (first |assumption |wp_step))
 exact wpAny_raiseAttrError hA h (attrMsg_fits (by decide +kernel) (by size_fits))
theorem C7(a:Addr){s:Shared}{vs:Array Value}{Q:Option Value->Shared->Prop}(hx:s.heap.get? a=some ⟨.type "zip",none,.fields vs, #[]⟩)(hA:A.handled=none)
 (h:∀h' tk,(∀b ob,s.heap.get? b=some ob->h'.get? b=some ob)->Q none {s with heap:=h',toks:=tk}):wpAny (model prog w) A (getAttr? (.ref a) "keys") Q E s:=by
 obtain⟨hp,g,d,tk,os⟩:=s
 have hT:∀L0,(⟨hp,g,d,L0,os⟩:Shared).TypeIs (.ref a) "zip":=fun _=>⟨_,hx,rfl⟩
 have f1:=sub_AttributeError
 have f2:=F.slot_zip_getattribute.lookup
 have f3:=F.slot_zip_getattribute.bind (.ref a)
 have f5:=Jo
 unfold getAttr? getAttrBy? getAttrBy
 repeat (any_goals (first |assumption |exact hT _ |wp_step))
 all_goals
  refine codeAny_call_builtin F.slot_zip_getattribute.plain zp (F.slot_zip_getattribute.check _ _ _ _ _ _ _ _ (show (⟨hp,g,d,tk+1,os⟩:Shared).TypeIs (.ref a) "zip" from ⟨_,hx,rfl⟩) (F.args_zip_getattribute_2 _ _) ?_)
 all_goals
  refine Ga a tk hx hA fun h' L0 e ne=>?_
 all_goals
  obtain⟨t',u',he⟩:=ne.there
  show wpAny _ _ (getattributeRaised _ _ _ _ _ _ _) _ _ _
  unfold getattributeRaised
  repeat (any_goals (first |assumption |wp_step))
 all_goals exact h _ _ ne.keeps
end
end L3
namespace L3
open PySem PyProof.Rows
abbrev zA (h:Heap) (l:Addr):Heap:=h.push {cls:=.type "list_iterator",data:=.fields #[.ref l,.int 0 0]}
abbrev zB (h:Heap) (l tp:Addr):Heap:=(zA h l).push {cls:=.type "tuple_iterator",data:=.fields #[.ref tp,.int 0 0]}
abbrev zC (h:Heap) (l tp:Addr):Heap:=(zB h l tp).push {cls:=.type "tuple",data:=.seq #[.ref h.objs.size,.ref (zA h l).objs.size]}
abbrev zD (h:Heap) (l tp:Addr):Heap:=(zC h l tp).push {cls:=.type "tuple",data:=.seq #[.none,.none]}
abbrev zE (h:Heap) (l tp:Addr):Heap:=(zD h l tp).push {cls:=.type "zip",data:=.fields #[.none,.bool false,.bool false,.ref (zB h l tp).objs.size,.ref (zC h l tp).objs.size]}
theorem Jp(l tp:Addr)(xs ys:Array Value):Meets (Builtin.«zip.__new__» ⟨[.type "zip",.ref l,.ref tp],[]⟩) (fun _ R s=>s.heap.IsList l xs/\s.heap.IsTuple tp ys/\R (.ok (.ret (.ref (zD s.heap l tp).objs.size))) {s with heap:=zE s.heap l tp}):=
 .of_wp fun prog w A R s h=>by
  obtain⟨hp,g,d,tk,os⟩:=s
  obtain⟨g1,g2,h⟩:=h
  have aaM:=sub_zip
  have k1:Heap.IsList (Shared.heap ⟨hp,g,d,tk,os⟩) l xs:=g1
  have k2:Heap.IsTuple (Shared.heap ⟨hp.push {cls:=.type "list_iterator",data:=.fields #[.ref l,.int 0 0]},g,d,tk,os⟩) tp ys:=by
   obtain⟨o,go,rest⟩:=g2
   exact⟨o,Heap.get?_push_of_some _ go,rest⟩
  wp_walk using wpAny_pyIter_list k1,wpAny_pyIter_tuple k2
  exact⟨_,rfl,h⟩
section
variable{prog:Program}{w:World}{A:Around}{E:Value->Shared->Prop}{s:Shared}
theorem L8(n l tp:Nat)(h1:l<n)(h2:tp<n):QN (n+4) (n+2) (n+3) n (n+1) l tp:=by
 constructor<;>(show (_:Nat)≠_;lia)
theorem C8{l tp:Addr}{xs ys:Array Value}{Q:Value->Shared->Prop}(hl:s.heap.IsList l xs)(ht:s.heap.IsTuple tp ys)
 (h:∀h',QN (s.heap.objs.size+4) (s.heap.objs.size+2) (s.heap.objs.size+3) s.heap.objs.size (s.heap.objs.size+1) l tp->KR h' (s.heap.objs.size+4) (s.heap.objs.size+2) (s.heap.objs.size+3) s.heap.objs.size (s.heap.objs.size+1) l tp xs ys 0->
  zo h' (s.heap.objs.size+4) (s.heap.objs.size+2) (s.heap.objs.size+3) .none (.bool false)->(∀c o,s.heap.get? c=some o->h'.get? c=some o)->Q (.ref (s.heap.objs.size+4)) {s with heap:=h' }) :
 wpAny (model prog w) A (call (.type "zip") [.ref l,.ref tp]) Q E s:=by
 refine callType_new F.called_zip (by decide) (F.typeCall_zip_2 _ _) (F.newCall_zip_2 _ _) (fun obj=>F.args_object_init_3 obj _ _) F.entry_zip_new (Jp l tp xs ys) ⟨hl,ht,?_⟩
 have z1:(zA s.heap l).objs.size=s.heap.objs.size+1:=Heap.size_push ..
 have z2:(zB s.heap l tp).objs.size=s.heap.objs.size+2:=by rw[Heap.size_push,z1]
 have z3:(zC s.heap l tp).objs.size=s.heap.objs.size+3:=by rw[Heap.size_push,z2]
 have z4:(zD s.heap l tp).objs.size=s.heap.objs.size+4:=by rw[Heap.size_push,z3]
 have g5:(zE s.heap l tp).get? (zD s.heap l tp).objs.size=some _:=Heap.get?_push_size _ rfl
 have g4:(zE s.heap l tp).get? (zC s.heap l tp).objs.size=some _:=Heap.get?_push_of_some _ (Heap.get?_push_size _ rfl)
 have g3:(zE s.heap l tp).get? (zB s.heap l tp).objs.size=some _:=Heap.get?_push_of_some _ (Heap.get?_push_of_some _ (Heap.get?_push_size _ rfl))
 have g2:(zE s.heap l tp).get? (zA s.heap l).objs.size=some _:=Heap.get?_push_of_some _ (Heap.get?_push_of_some _ (Heap.get?_push_of_some _ (Heap.get?_push_size _ rfl)))
 have g1:(zE s.heap l tp).get? s.heap.objs.size=some _:=Heap.get?_push_of_some _ (Heap.get?_push_of_some _ (Heap.get?_push_of_some _ (Heap.get?_push_of_some _ (Heap.get?_push_size _ rfl))))
 have up:∀c o,s.heap.get? c=some o->(zE s.heap l tp).get? c=some o:=fun c o e=>Heap.get?_push_of_some _ (Heap.get?_push_of_some _ (Heap.get?_push_of_some _ (Heap.get?_push_of_some _ (Heap.get?_push_of_some _ e))))
 show _/\_
 rw[z2,z3,z4] at g5
 rw[z1,z2] at g3
 rw[z3] at g4
 rw[z1] at g2
 rw[z4]
 obtain⟨ol,gl,rl⟩:=id hl
 obtain⟨ot,gt,rt⟩:=id ht
 have ll:=Heap.lt_size gl
 have lt:=Heap.lt_size gt
 refine⟨⟨_,g5,rfl⟩,h _ (L8 _ _ _ ll lt) ⟨.inl ⟨_,_,g5,g4⟩,g3,⟨_,g1,rfl,rfl⟩,⟨_,g2,rfl,rfl⟩,⟨ol,up _ _ gl,rl⟩,⟨ot,up _ _ gt,rt⟩⟩ g5 up⟩
theorem Jq{κ:Type}[DecidableEq κ](knd:KeyKind prog w κ)(z ti to j1 j2 l tp:Addr){xs ys:Array Value}{Q:Value->Shared->Prop}(hA:A.handled=none)(ap:QN z ti to j1 j2 l tp)(st:KR s.heap z ti to j1 j2 l tp xs ys 0)(gz:zo s.heap z ti to .none (.bool false))(r:List (κ×Value×Value))
 (hi:xs.toList=r.map (·.2.1)) (hk:ys.toList=r.map (·.2.2)) (hp:∀q∈r,knd.is q.1 q.2.1=true) (hz:r.length<=sizeLine) (Wx:to<s.heap.objs.size)
 (h:∀h' tk,h'.DictOf knd s.heap.objs.size (merged [] (r.map fun q=>(q.1,q.2.2)))->(∀b o,b≠z->b≠to->b≠j1->b≠j2->s.heap.get? b=some o->h'.get? b=some o)->Q (.ref s.heap.objs.size) {s with heap:=h',toks:=tk}) :
 wpAny (model prog w) A (call (.type "dict") [.ref z]) Q E s:=by
 refine callType_codes (Q₁:=fun obj s₁=>obj=.ref s.heap.objs.size/\s₁={s with heap:=s.heap.push {cls:=.type "dict",data:=.dict #[]} }) F.kt_called_dict (F.kt_typeCall_dict_1 _) F.entry_dict_init (kt_code_dict_new _ ⟨rfl,rfl⟩) ?_
 rintro obj s₁ ⟨rfl,rfl⟩
 have C4:(s.heap.push {cls:=.type "dict",data:=.dict #[]}).DictOf knd s.heap.objs.size []:=Heap.DictOf.new s.heap
 have qg:∀b o,s.heap.get? b=some o->(s.heap.push {cls:=.type "dict",data:=.dict #[]}).get? b=some o:=fun b o e=>Heap.get?_push_of_some _ e
 refine⟨C4.typeIs,F.args_dict_init_2 _ _,?_⟩
 unfold Builtin.«dict.__init__»
 refine wpAny_bind ?_
 unfold Builtin.Dict.selfAndRest
 refine wpAny_bind (wpAny_notOrdered_dict C4.typeIs ?_)
 show wpAny _ _ (pure (s.heap.objs.size,[Value.ref z])) _ _ _
 refine wpAny_pure ?_
 show wpAny _ _ (Builtin.Dict.updateFrom "dict.__init__" s.heap.objs.size (.ref z) [] .none) _ _ _
 unfold Builtin.Dict.updateFrom
 refine wpAny_bind (wpAny_typeOf (T:="zip") ⟨_,qg _ _ gz,rfl⟩ ?_)
 rw[if_pos (by decide)]
 refine wpAny_bind (C7 z (qg _ _ gz) hA fun h2 Wn qh=>?_)
 rw[if_pos (show (none:Option Value).isNone=true from rfl)]
 refine wpAny_bind (wpAny_rule ?_)
 have up:∀b o,s.heap.get? b=some o->h2.get? b=some o:=fun b o e=>qh _ _ (qg _ _ e)
 have hd2:h2.DictOf knd s.heap.objs.size []:=by
  obtain⟨o,es,ep,ho,rest⟩:=C4
  exact⟨o,es,ep,qh _ _ ho,rest⟩
 refine wpAny_bind (wpAny_pyIter_zip (s:={s with heap:=h2,toks:=Wn}) (up _ _ gz) ?_)
 refine wpAny_pure ⟨plainId_quiet gc _,?_⟩
 have xi:KR h2 z ti to j1 j2 l tp xs ys 0:=by
  refine⟨?_,up _ _ st.ins,?_,?_,?_,?_⟩
  ·rcases st.zip with ⟨a,b,e1,e2⟩ |⟨T,u,a,b,g,e1,e2⟩
   ·exact .inl ⟨a,b,up _ _ e1,up _ _ e2⟩
   ·exact .inr ⟨T,u,a,b,g,up _ _ e1,up _ _ e2⟩
  ·obtain⟨o,go,rest⟩:=st.L6;exact⟨o,up _ _ go,rest⟩
  ·obtain⟨o,go,rest⟩:=st.QO;exact⟨o,up _ _ go,rest⟩
  ·obtain⟨o,go,rest⟩:=st.ls;exact⟨o,up _ _ go,rest⟩
  ·obtain⟨o,go,rest⟩:=st.tu;exact⟨o,up _ _ go,rest⟩
 refine EI (A:=A.in1) knd s.heap.objs.size z ti to j1 j2 l tp xs ys .none hA ap (Nat.ne_of_gt Wx) r 0 0 _ [] _ (by simpa using hi) (by simpa using hk) hp xi hd2 (by simpa using hz) fun h4 Wo Wq Jh=>?_
 refine⟨rfl,h h4 Wo Wq fun b o n1 n2 n3 n4 e=>Jh b o (fun w=>?_) n1 n2 n3 n4 (up _ _ e)⟩
 rw[w] at e
 exact absurd (Heap.lt_size e) (Nat.lt_irrefl _)
end
end L3
namespace L2
open PySem PyProof.Rows
theorem C9(c n k:Nat)(h:c<n):c≠n+k:=by lia
def Us (K:PySem.W.Frag) (t:TA):TE:=fun σ H Q=>t σ H fun xs H1=>∃(a b:Addr) (ks:List Key) (vs:List V),xs=[.ref a,.ref b]/\il K H1 a (ks.map kV)/\c5 K H1 b vs/\vs.length=ks.length/\∀p,H1 p=none->Q (.ref p) (upd H1 p (.dK (iw [] (ks.zip vs))))
theorem qQ{X:Cx}(hc:X.calm=true){ea eb:Expr}{p1 p2 Sz Gb:Pos}{t:TA}(hg1:Gl X "dict")(hm1:X.mg "dict"=none)(hg2:Gl X "zip")(hm2:X.mg "zip"=none)(ha:PA X [ea,eb] t)
 (he:starEach [ea,eb] X.env=(false,eval ea X.env)::starEach [eb] X.env:=by rfl) (KN:(backTo Gb (starEach [eb] X.env)).any (·.1)=false:=by rfl)
 (Nw:starEach [.Call (.Name "zip" p2) [ea,eb] [] Gb] X.env=(false,eval (.Call (.Name "zip" p2) [ea,eb] [] Gb) X.env)::starEach [] X.env:=by rfl) :
 PE X (.Call (.Name "dict" p1) [.Call (.Name "zip" p2) [ea,eb] [] Gb] [] Sz) (Us X.K t):=by
 intro pins s σ H Q I h
 refine wpAny_Call_Name_kw (qG I hg1 hm1 PyProof.Rows.Boot.«dict» ?_ (by decide) (by decide))
 refine PyProof.Rows.callWith_type1 ?_ Nw rfl
 rw[Nw]
 show wpAny _ _ (spliced ((false,eval (.Call (.Name "zip" p2) [ea,eb] [] Gb) X.env)::backTo Sz (starEach [] X.env))) _ _ s
 refine Calls.spliced_cons ?_
 refine wpAny_Call_Name_kw (qG I hg2 hm2 PyProof.Rows.Boot.«zip» ?_ (by decide) (by decide))
 refine PyProof.Rows.callWith_type1 (fA (ha Gb pins s σ H _ I h) fun us s1 zqz=>?_) he KN
 obtain⟨xs,H1,I1,r1,q1⟩:=zqz
 obtain⟨a,b,ks,vs,rfl,ha1,ND,lk,q⟩:=q1
 obtain⟨u1,u2,rfl,ru1,ru2⟩:=vals2 r1
 cases (show u1=Value.ref a from ru1)
 cases (show u2=Value.ref b from ru2)
 obtain⟨Wy,v1,t1,z1⟩:=I1.list ha1
 obtain⟨rO,v2,t2,z2⟩:=I1.tuple ND
 have mk:∀(ks:List Key) (vs:List V) (Ut EJ:List Value),Vals (ks.map kV) Ut->Vals vs EJ->vs.length=ks.length->∃r:List (Key×Value×Value),Ut=r.map (·.2.1)/\EJ=r.map (·.2.2)/\(∀q∈r,(b3 X.prog X.w).is q.1 q.2.1=true)/\KV (ks.zip vs) (r.map fun q=>(q.1,q.2.2))/\r.length=ks.length:=by
  intro ks
  induction ks with
  |nil=>
   intro vs Ut EJ w1 w2 l
   have:vs=[]:=List.length_eq_zero_iff.mp l
   subst this
   cases w1
   cases w2
   exact⟨[],rfl,rfl,fun _ z=>(by cases z),.nil,rfl⟩
  |cons k ks ih=>
   intro vs Ut EJ w1 w2 l
   cases vs with
   |nil=>simp at l
   |cons v vs=>
    rw[List.map_cons] at w1
    cases w1 with
    |@cons _ ku _ kus w11 w12=>
     cases w2 with
     |@cons _ vu _ vus w21 w22=>
      obtain⟨r,e1,e2,h3,h4,h5⟩:=ih vs kus vus w12 w22 (by simpa using l)
      refine⟨(k,ku,vu)::r,by rw[e1];rfl,by rw[e2];rfl,fun q hq=>?_,.cons ⟨rfl,w21⟩ h4,by simp[h5]⟩
      rcases List.mem_cons.mp hq with rfl |hq
      ·exact vQ w11
      ·exact h3 q hq
 obtain⟨r,e1,e2,kis,kv,lr⟩:=mk ks vs Wy rO v1 v2 lk
 rw[List.length_map] at z1
 refine L3.C8 t1.isList (show s1.heap.IsTuple b rO.toArray from t2) fun h' ap st gz keep=>?_
 refine Calls.spliced_nil ?_
 have big:(s1.heap.objs.size+4:Nat)<h'.objs.size:=Heap.lt_size gz
 have hle:s1.heap.objs.size<=h'.objs.size:=by lia
 refine L3.Jq (s:={s1 with heap:=h' }) (b3 X.prog X.w) _ _ _ _ _ a b (I1.ok.hd hc) ap st gz r (by simpa using e1) (by simpa using e2) kis (by lia) (show (s1.heap.objs.size+3:Nat)<h'.objs.size by lia) fun h2 tk dd qh=>?_
 have hn:=I1.dU.fresh hle
 have hb:(h'.objs.size==sysModules)=false:=beq_eq_false_iff_ne.mpr (Ne.symm (Nat.ne_of_lt (Nat.lt_of_lt_of_le I1.big hle)))
 refine⟨.ref h'.objs.size,_,I1.laid (fun c o e=>qh c o ?_ ?_ ?_ ?_ (keep c o e)) hle (vR ?_ hb (kv.merge .nil) dd),rfl,q _ hn⟩
 ·have lc:(c:Nat)<s1.heap.objs.size:=Heap.lt_size e
  exact C9 _ _ _ lc
 ·have lc:(c:Nat)<s1.heap.objs.size:=Heap.lt_size e
  exact C9 _ _ _ lc
 ·have lc:(c:Nat)<s1.heap.objs.size:=Heap.lt_size e
  exact Nat.ne_of_lt lc
 ·have lc:(c:Nat)<s1.heap.objs.size:=Heap.lt_size e
  exact C9 _ _ _ lc
 ·have h1:=gM (ks.zip vs) []
  rw[List.length_nil,List.length_zip] at h1
  lia
end L2
namespace L2
open PySem
section
variable{K:PySem.W.Frag}{H H':Hp}{p C dx:Addr}{fs:List (Str×V)}
mutual
theorem pM(h:H p=some (.ins C dx fs))(u:bc (·=p) H H'):∀(d:Dp) (v:V),Rep K H d v->Rep K H' d v
 |.ck,v,r=>by rw[Rep.rW] at r ⊢;exact r
 |.bl b,v,r=>by rw[Rep.mD] at r ⊢;exact r
 |.int b,v,r=>by rw[Rep.bB] at r ⊢;exact r
 |.str b,v,r=>by rw[Rep.bE] at r ⊢;exact r
 |.lst l,v,r=>by
  rw[Rep.bI] at r ⊢
  obtain⟨a,ys,rfl,q,rs⟩:=r
  refine⟨a,ys,rfl,?_,lL h u l ys rs⟩
  rcases q with (q |⟨o,q⟩) |q
  ·exact .inl (.inl (u _ _ (cR q h (by intro z;cases z)) q))
  ·exact .inl (.inr ⟨o,u _ _ (cR q h (by intro z;cases z)) q⟩)
  ·exact .inr q
 |.tup l,v,r=>by
  rw[Rep.bq] at r ⊢
  obtain⟨a,ys,rfl,q,rs⟩:=r
  refine⟨a,ys,rfl,?_,lL h u l ys rs⟩
  rcases q with (q |⟨o,q⟩) |q
  ·exact .inl (.inl (u _ _ (cR q h (by intro z;cases z)) q))
  ·exact .inl (.inr ⟨o,u _ _ (cR q h (by intro z;cases z)) q⟩)
  ·exact .inr q
theorem lL(h:H p=some (.ins C dx fs))(u:bc (·=p) H H'):∀(ds:List Dp) (vs:List V),aQ K H ds vs->aQ K H' ds vs
 |[],vs,r=>by rw[aQ.br] at r ⊢;exact r
 |d::ds,vs,r=>by
  rw[aQ.aJ] at r ⊢
  obtain⟨v,t,rfl,r1,r2⟩:=r
  exact⟨v,t,rfl,pM h u d v r1,lL h u ds t r2⟩
end
end
theorem qR{K:PySem.W.Frag}{a D:Addr}{xs:List V}{te:TE}{Q:VK}{r:St}{H:Hp}(kf:Nat->Key×V)(hS:il K H a xs)(hl:xs.length<=16000000)(hD:H D=none)
 (step:∀i x H2,xs[i]?=some x->av H H2->∀R:VK,(∀p,H2 p=none->R (.ref p) (upd H2 p (.tup [kV (kf i).1,(kf i).2])))->te (some x::r) H2 R)
 (q:∀(ps:List (Addr×Key×V)) H2,av H H2->H2 D=some (.lst (ps.map fun q=>V.ref q.1))->(∀q∈ps,H2 q.1=some (.tup [kV q.2.1,q.2.2]))->ps.map (·.2)=(List.range xs.length).map kf->Q (.ref D) H2) :
 vW (GR K a) D (fC 0) CI te Q (none::r) (upd H D (.lst [])):=by
 refine wC (K:=K) (fun i ys H2=>∃ps:List (Addr×Key×V),ys=ps.map (fun q=>V.ref q.1)/\(∀q∈ps,H2 q.1=some (.tup [kV q.2.1,q.2.2]))/\ps.map (·.2)=(List.range i).map kf) hS hl hD ⟨[],rfl,fun _ z=>(by cases z),rfl⟩ ?_ ?_
 ·rintro i x ys H2 hx s2 Ph ly ⟨ps,rfl,L9,ep⟩ R hR
  refine step i x H2 hx s2 R fun p hp=>hR _ _ (av.new hp _) ⟨ps++[(p,kf i)],by simp,fun q hq=>?_,by rw[List.map_append,ep,List.range_succ,List.map_append];rfl⟩
  have pD:D≠p:=ao Ph hp
  rcases List.mem_append.mp hq with hq |hq
  ·have e:=L9 q hq
   rw[ay (cR e Ph (by intro z;cases z))]
   exact av.new hp _ _ _ e
  ·rw[List.mem_singleton.mp hq]
   show upd (upd H2 p _) D _ p=_
   rw[ay pD.symm,ai]
 ·rintro ys H2 s2 Ph ⟨ps,rfl,L9,ep⟩
  exact q ps H2 s2 Ph L9 ep
theorem j3{K:PySem.W.Frag}{a D:Addr}{xs:List V}{te:TE}{Q:VK}{r:St}{H:Hp}(f:Nat->V)(hS:il K H a xs)(hl:xs.length<=16000000)(hD:H D=none)
 (step:∀i x H2,xs[i]?=some x->av H H2->∀R:VK,R (f i) H2->te (some x::r) H2 R)
 (q:∀H2,av H H2->H2 D=some (.lst ((List.range xs.length).map f))->Q (.ref D) H2):vW (GR K a) D (fC 0) CI te Q (none::r) (upd H D (.lst [])):=by
 refine wC (K:=K) (fun i ys H2=>ys=(List.range i).map f) hS hl hD rfl ?_ ?_
 ·rintro i x ys H2 hx s2 Ph ly rfl R hR
  exact step i x H2 hx s2 R (hR _ _ (av.refl _) (by rw[List.range_succ,List.map_append];rfl))
 ·rintro ys H2 s2 Ph rfl
  exact q H2 s2 Ph
structure yu(K:PySem.W.Frag)(C:Addr)(H:Hp)(p:Addr)(pr:PG.Prog):Prop where
 at_:∃(dx nl sd fa va st wy:Addr) (us ws:List V),H p=some (.ins C dx [("names",.ref nl),("sizes",.ref sd),("first",.ref fa),("statements",.ref st),("ways",.ref wy)])/\H dx=some (.own p)/\
  H nl=some (.lst (pr.aC.map fun b=>.str (S b.name)))/\H sd=some (.dK (pr.aC.map fun b=>(.inr (S b.name),.int b.size)))/\
  H fa=some (.tup [.int (PG.bg pr.body 0),.ref va])/\H va=some (.tup (pr.aC.map fun b=>.int b.first))/\
  us.length=(PG.az pr.body).length/\H st=some (.dK (cV (PG.az pr.body) us))/\aQ K H ((PG.az pr.body).map de) us/\
  ws.length=(PG.aS pr.body 0).length/\H wy=some (.dK (List.zipWith (fun r v=>(Sum.inl r.1,v)) (PG.aS pr.body 0) ws))/\∀i (hi:i<(PG.aS pr.body 0).length),∃q,ws[i]?=some (.ref q)/\c5 K H q ((PG.aS pr.body 0)[i].2.2.map V.int)
section
variable(K:PySem.W.Frag)(C:Addr)
def Ma:Sp:=fun vs H Q _=>∃(p dx:Addr) (v:V) (pr:PG.Prog),vs=[.ref p,v]/\H p=some (.ins C dx [])/\H dx=some (.own p)/\Rep K H (iZ pr) v/\PG.fS pr.body<=3/\(PG.b7 pr.body).length<=1000/\(PG.az pr.body).Pairwise (fun a b=>a.row<b.row)/\(pr.aC.map (·.name)).Nodup/\pr.aC.length<=10/\
 ∀H',bz p H H'->yu K C H' p pr->Q .ck H'
end
end L2
namespace L2
open PySem
def xw (aP:List (Key×V)) (x:W):Int:=match cH aP (.inr (S x)) with
 |some (.int i)=>i
 |_=>0
def GV (aP:List (Key×V)):PM.Tr->Prop
 |.num n=>n.natAbs<=2 ^ 12
 |.box x=>∃i:Int,cH aP (.inr (S x))=some (.int i)/\i.natAbs<=2 ^ 12
 |.bin o l r=>(o=[43]\/o=[45]\/o=[42])/\GV aP l/\GV aP r
theorem Dc{aP:List (Key×V)}{x:W}{i:Int}(h:cH aP (.inr (S x))=some (.int i)):xw aP x=i:=by
 unfold xw
 rw[h]
theorem lM{aP:List (Key×V)}:∀ {t:PM.Tr},GV aP t->(cy (xw aP) t).natAbs<=2 ^ (14*2 ^ PG.mG t)
 |.num n,h=>by
  rw[GV] at h
  rw[cy]
  simp only[PG.mG]
  exact Nat.le_trans h (Nat.pow_le_pow_right (by decide) (by decide))
 |.box x,h=>by
  rw[GV] at h
  obtain⟨i,e,hi⟩:=h
  rw[cy,Dc e]
  simp only[PG.mG]
  exact Nat.le_trans hi (Nat.pow_le_pow_right (by decide) (by decide))
 |.bin o l r,h=>by
  rw[GV] at h
  have hl:=lM h.2.1
  have hr:=lM h.2.2
  have one:∀a b:Nat,1<=2 ^ max a b:=fun a b=>Nat.one_le_two_pow
  have ml:(cy (xw aP) l).natAbs<=2 ^ (14*2 ^ max (PG.mG l) (PG.mG r)):=Nat.le_trans hl (Nat.pow_le_pow_right (by decide) (Nat.mul_le_mul_left _ (Nat.pow_le_pow_right (by decide) (Nat.le_max_left _ _))))
  have mr:(cy (xw aP) r).natAbs<=2 ^ (14*2 ^ max (PG.mG l) (PG.mG r)):=Nat.le_trans hr (Nat.pow_le_pow_right (by decide) (Nat.mul_le_mul_left _ (Nat.pow_le_pow_right (by decide) (Nat.le_max_right _ _))))
  rw[PG.mG,show 14*2 ^ (max (PG.mG l) (PG.mG r)+1)=14*2 ^ max (PG.mG l) (PG.mG r)+14*2 ^ max (PG.mG l) (PG.mG r) by rw[Nat.pow_succ];lia]
  have Wz:14<=14*2 ^ max (PG.mG l) (PG.mG r):=Nat.le_mul_of_pos_right _ (one _ _)
  generalize 14*2 ^ max (PG.mG l) (PG.mG r)=k at *
  have two:2<=2 ^ k:=Nat.le_trans (by decide:2<=2 ^ 1) (Nat.pow_le_pow_right (by decide) (by lia))
  rw[Nat.pow_add]
  have b2:2*2 ^ k<=2 ^ k*2 ^ k:=Nat.mul_le_mul_right _ two
  rw[cy]
  split
  ·lia
  ·split
   ·lia
   ·rw[Int.natAbs_mul]
    exact Nat.mul_le_mul ml mr
theorem zq{a:Int}{d:Nat}(h:a.natAbs<=2 ^ (14*2 ^ d))(hd:d<=6):a.natAbs<2 ^ 4000:=by
 refine Nat.lt_of_le_of_lt h (Nat.pow_lt_pow_right (by decide) ?_)
 have:2 ^ d<=2 ^ 6:=Nat.pow_le_pow_right (by decide) hd
 lia
section
variable(K:PySem.W.Frag)
def NF (n:Nat):Sp:=fun vs H Q _=>∃(v:V) (d:Addr) (tr:PM.Tr) (aP:List (Key×V)),vs=[v,.ref d]/\Rep K H (jk tr) v/\H d=some (.dK aP)/\GV aP tr/\PG.mG tr<n/\PG.mG tr<=6/\∀H',av H H'->Q (.int (cy (xw aP) tr)) H'
end
end L2
namespace L2
open PySem
theorem yu.mono{K:PySem.W.Frag}{C p:Addr}{H H':Hp}{pr:PG.Prog}(c:yu K C H p pr)(s:av H H'):yu K C H' p pr:=by
 obtain⟨dx,nl,sd,fa,va,st,wy,us,ws,h1,h2,h3,h4,h5,h6,h7,h8,h9,NG,Pj,SA⟩:=c.at_
 exact⟨⟨dx,nl,sd,fa,va,st,wy,us,ws,s _ _ h1,s _ _ h2,s _ _ h3,s _ _ h4,s _ _ h5,s _ _ h6,h7,s _ _ h8,h9.mono s,NG,s _ _ Pj,fun i hi=>let ⟨q,e,r⟩:=SA i hi;⟨q,e,s.bD r⟩⟩⟩
theorem i0{α β:Type}(g:α->β)(d:α)(l:List α):(List.range l.length).map (fun i=>g (l.getD i d))=l.map g:=by
 apply List.ext_getElem
 ·simp
 ·intro i h1 h2
  simp at h1 h2
  simp[h2]
def cF (bs:List PG.fV) (vs:List V):List (Key×V):=List.zipWith (fun b v=>(Sum.inr (S b.name),v)) bs vs
theorem mM:∀(bs:List PG.fV) (vs:List V),(bs.map fun b=>(Sum.inr (S b.name):Key)).zip vs=cF bs vs
 |[],vs=>by simp[cF]
 |b::bs,[]=>by simp[cF]
 |b::bs,v::vs=>by
  show _::(bs.map fun b=>(Sum.inr (S b.name):Key)).zip vs=_::cF bs vs
  rw[mM bs vs]
theorem kD:∀(bs:List PG.fV) (vs:List V),vs.length=bs.length->(cF bs vs).map (·.1)=bs.map fun b=>(Sum.inr (S b.name):Key)
 |[],[],_=>rfl
 |[],_::_,h=>by simp at h
 |_::_,[],h=>by simp at h
 |b::bs,v::vs,h=>by
  show _::(cF bs vs).map (·.1)=_
  rw[kD bs vs (by simpa using h)]
  rfl
theorem names_nodup{bs:List PG.fV}(nb:(bs.map (·.name)).Nodup):(bs.map fun b=>(Sum.inr (S b.name):Key)).Nodup:=by
 refine List.pairwise_map.mpr ((List.pairwise_map.mp nb).imp fun {a b} ED e=>ED ?_)
 exact lC.mp (Sum.inr.inj e)
theorem lN:∀(bs:List PG.fV) (vs:List V),vs.length=bs.length->(bs.map (·.name)).Nodup->∀i (hi:i<bs.length) v,vs[i]?=some v->cH (cF bs vs) (.inr (S bs[i].name))=some v
 |[],_,_,_,i,hi,_,_=>by simp at hi
 |_::_,[],h,_,_,_,_,_=>by simp at h
 |b::bs,v::vs,h,nb,0,hi,u,hu=>by
  simp at hu
  subst hu
  show cH ((_,v)::cF bs vs) _=_
  exact cI rfl
 |b::bs,v::vs,h,nb,i+1,hi,u,hu=>by
  rw[List.map_cons,List.nodup_cons] at nb
  have mem:(bs[i]'(by simpa using hi)).name∈bs.map (·.name):=List.mem_map.mpr ⟨_,List.getElem_mem _,rfl⟩
  show cH ((.inr (S b.name),v)::cF bs vs) (.inr (S (bs[i]'(by simpa using hi)).name))=_
  rw[cJ (fun e=>by have e:=lC.mp (Sum.inr.inj e);exact nb.1 (e▸mem))]
  exact lN bs vs (by simpa using h) nb.2 i (by simpa using hi) u (by simpa using hu)
section
variable(K:PySem.W.Frag)(C:Addr)
def Gd:Sp:=fun vs H Q _=>∃(p a:Addr) (pr:PG.Prog) (us:List V),vs=[.ref p,.ref a]/\yu K C H p pr/\c5 K H a us/\us.length=pr.aC.length/\(pr.aC.map (·.name)).Nodup/\pr.aC.length<=10/\
 ∀d H',av H H'->H d=none->H' d=some (.dK (cF pr.aC us))->Q (.ref d) H'
def Ge:Sp:=fun vs H Q _=>∃(p d:Addr) (pr:PG.Prog) (aP:List (Key×V)) (us:List V),vs=[.ref p,.ref d]/\yu K C H p pr/\H d=some (.dK aP)/\us.length=pr.aC.length/\(∀i (hi:i<pr.aC.length),cH aP (.inr (S pr.aC[i].name))=us[i]?)/\pr.aC.length<=10/\
 ∀a H',av H H'->c5 K H' a us->Q (.ref a) H'
def Jr:Sp:=fun vs H Q _=>∃(p:Addr) (pr:PG.Prog) (row:Int),vs=[.ref p,.int row]/\yu K C H p pr/\(PG.az pr.body).Pairwise (fun a b=>a.row<b.row)/\
 ((row=0/\Q (.str "end") H)\/(row≠0/\∃i,∃hi:i<(PG.az pr.body).length,(PG.az pr.body)[i].row=row/\Q (.str (fX (PG.az pr.body)[i].wd)) H))
end
def oH:PG.bF->Option (W×PM.Tr×PM.Tr)
 |.b8 _ sg l r=>some (sg,l,r)
 |.ifs _ sg l r _ _=>some (sg,l,r)
 |.fe _ sg l r _=>some (sg,l,r)
 |_=>none
def gH (sg:W) (a b:Int):Bool:=if sg=[60] then decide (a<b) else decide (a=b)
def wv (bs:List PG.fV) (vals:List Int) (e:PM.Tr):Int:=cy (xw (cF bs (vals.map V.int))) e
abbrev B9 (bs:List PG.fV) (vals:List Int) (e:PM.Tr):Prop:=GV (cF bs (vals.map V.int)) e/\PG.mG e<=2
theorem qS{K:PySem.W.Frag}{H:Hp}{st:PG.bF}{v:V}{sg:W}{l r:PM.Tr}(h:Rep K H (de st) v)(c:oH st=some (sg,l,r)):∃a w0 vl vr ys,v=.ref a/\c5 K H a (w0 :: .int st.row :: .str (S sg)::vl::vr::ys)/\Rep K H (jk l) vl/\Rep K H (jk r) vr:=by
 have key:∃w ds,de st=.tup (.str w :: .int st.row :: .str (S sg)::jk l::jk r::ds):=by
  cases st<;>simp only[oH,Option.some.injEq,Prod.mk.injEq,reduceCtorEq] at c<;>obtain⟨rfl,rfl,rfl⟩:=c<;>exact⟨_,_,by rw[de];rfl⟩
 obtain⟨w0,ds,e⟩:=key
 rw[e,Rep.bq] at h
 obtain⟨a,xs,rfl,q,rs⟩:=h
 rw[aQ.aJ] at rs
 obtain⟨v0,t0,rfl,_,rs⟩:=rs
 rw[aQ.aJ] at rs
 obtain⟨v1,t1,rfl,e1,rs⟩:=rs
 rw[aQ.aJ] at rs
 obtain⟨v2,t2,rfl,e2,rs⟩:=rs
 rw[aQ.aJ] at rs
 obtain⟨v3,t3,rfl,e3,rs⟩:=rs
 rw[aQ.aJ] at rs
 obtain⟨v4,t4,rfl,e4,rs⟩:=rs
 rw[Rep.bB] at e1
 rw[Rep.bE] at e2
 subst e1 e2
 exact⟨a,v0,v3,v4,t4,rfl,q,e3,e4⟩
def df (K:PySem.W.Frag) (H:Hp) (sa:Addr) (row:Int) (vals:List Int):Prop:=∃va,c5 K H sa [.int row,.ref va]/\c5 K H va (vals.map V.int)
theorem df.mono{K:PySem.W.Frag}{H H':Hp}{sa:Addr}{row:Int}{vals:List Int}(h:df K H sa row vals)(s:av H H'):df K H' sa row vals:=let ⟨va,h1,h2⟩:=h;⟨va,s.bD h1,s.bD h2⟩
structure zr(pr:PG.Prog):Prop where
 pw:(PG.az pr.body).Pairwise (fun a b=>a.row<b.row)
 nb:(pr.aC.map (·.name)).Nodup
 tS:pr.aC.length<=10
 pos:∀s∈PG.az pr.body,0<s.row
section
variable(K:PySem.W.Frag)(C:Addr)
def Mb:Sp:=fun vs H Q _=>∃(p sa:Addr) (pr:PG.Prog) (vals:List Int) (i:Nat) (hi:i<(PG.az pr.body).length) (sg:W) (l r:PM.Tr),vs=[.ref p,.ref sa]/\yu K C H p pr/\zr pr/\df K H sa (PG.az pr.body)[i].row vals/\vals.length=pr.aC.length/\oH (PG.az pr.body)[i]=some (sg,l,r)/\B9 pr.aC vals l/\B9 pr.aC vals r/\
 ∀H',av H H'->Q (.bl (gH sg (wv pr.aC vals l) (wv pr.aC vals r))) H'
end
end L2
namespace L2
open PySem
theorem yv:∀(fl:List PG.dQ) (vs:List V),vs.length=fl.length->fl.Pairwise (fun a b=>a.1<b.1)->∀i (hi:i<fl.length) v,vs[i]?=some v->cH (List.zipWith (fun r v=>((Sum.inl r.1:Key),v)) fl vs) (.inl fl[i].1)=some v
 |[],_,_,_,i,hi,_,_=>by simp at hi
 |_::_,[],h,_,_,_,_,_=>by simp at h
 |s::ss,v::vs,h,hp,0,hi,u,hu=>by
  simp at hu
  subst hu
  rw[List.zipWith_cons_cons]
  exact cI rfl
 |s::ss,v::vs,h,hp,i+1,hi,u,hu=>by
  rw[List.pairwise_cons] at hp
  have lt:=hp.1 (ss[i]'(by simpa using hi)) (List.getElem_mem _)
  rw[List.zipWith_cons_cons]
  show cH _ (Sum.inl (ss[i]'(by simpa using hi)).1:Key)=_
  rw[cJ (fun e=>by have e:=Sum.inl.inj e;lia)]
  exact yv ss vs (by simpa using h) hp.2 i (by simpa using hi) u (by simpa using hu)
theorem gO(b:List PG.bF)(i:Nat)(hi:i<(PG.az b).length):∃hf:i<(PG.aS b 0).length,(PG.aS b 0)[i].1=(PG.az b)[i].row/\(PG.aS b 0)[i].2.1=(PG.az b)[i].wd:=by
 have e:((PG.aS b 0).map fun r=>(r.1,r.2.1))=(PG.az b).map fun x=>(x.row,x.wd):=by rw[PG.c9,PG.fL]
 have l:=congrArg List.length e
 rw[List.length_map,List.length_map] at l
 have hf:i<(PG.aS b 0).length:=by lia
 refine⟨hf,?_⟩
 have h1:((PG.aS b 0).map fun r=>(r.1,r.2.1))[i]?=((PG.az b).map fun x=>(x.row,x.wd))[i]?:=by rw[e]
 rw[List.getElem?_map,List.getElem?_map,List.getElem?_eq_getElem hf,List.getElem?_eq_getElem hi] at h1
 have h1:=Option.some.inj h1
 exact⟨congrArg Prod.fst h1,congrArg Prod.snd h1⟩
theorem Gf{b:List PG.bF}(pw:(PG.az b).Pairwise fun a b=>a.row<b.row):(PG.aS b 0).Pairwise fun a b=>a.1<b.1:=by
 have e:((PG.aS b 0).map fun r=>(r.1,r.2.1))=(PG.az b).map fun x=>(x.row,x.wd):=by rw[PG.c9,PG.fL]
 have h:((PG.az b).map fun x=>(x.row,x.wd)).Pairwise fun a b=>a.1<b.1:=List.pairwise_map.mpr pw
 rw[<- e,List.pairwise_map] at h
 exact h
theorem yu.way{K:PySem.W.Frag}{C p:Addr}{H:Hp}{pr:PG.Prog}(c:yu K C H p pr)(ok:zr pr)(i:Nat)(hi:i<(PG.az pr.body).length)(hf:i<(PG.aS pr.body 0).length):∃dx fs wy q,H p=some (.ins C dx fs)/\fs.lookup (Str.ofString "ways")=some (V.ref wy)/\pT H wy (.int (PG.az pr.body)[i].row) (some (.ref q))/\c5 K H q ((PG.aS pr.body 0)[i].2.2.map V.int):=by
 obtain⟨dx,nl,sd,fa,va,st,wy,us,ws,h1,h2,h3,h4,h5,h6,h7,h8,h9,NG,Pj,SA⟩:=c.at_
 obtain⟨q,e,hq⟩:=SA i hf
 obtain⟨hf',e1,_⟩:=gO pr.body i hi
 have g:=yv _ _ NG (Gf ok.pw) i hf _ e
 rw[e1] at g
 exact⟨dx,_,wy,q,h1,rfl,.inl ⟨_,.inl _,.inl Pj,rfl,g.symm⟩,hq⟩
def kE (K:PySem.W.Frag) (H:Hp):Option (Int×List Int)->V->Prop
 |none,v=>v=.ck
 |some x,v=>∃a,v=.ref a/\df K H a x.1 x.2
def iC (bs:List PG.fV) (st:PG.bF) (ws:List Int) (vals:List Int):Option (Int×List Int):=match oH st with
 |none=>none
 |some (sg,l,r)=>if gH sg (wv bs vals l) (wv bs vals r) then some (ws.getD 0 0,vals) else if st.wd=.b8 then none else some (ws.getD 1 0,vals)
section
variable(K:PySem.W.Frag)(C:Addr)
def Gg:Sp:=fun vs H Q _=>∃(p sa:Addr) (pr:PG.Prog) (vals:List Int) (i:Nat) (hi:i<(PG.az pr.body).length) (hf:i<(PG.aS pr.body 0).length) (sg:W) (l r:PM.Tr),vs=[.ref p,.ref sa]/\yu K C H p pr/\zr pr/\df K H sa (PG.az pr.body)[i].row vals/\vals.length=pr.aC.length/\oH (PG.az pr.body)[i]=some (sg,l,r)/\B9 pr.aC vals l/\B9 pr.aC vals r/\
 0<(PG.aS pr.body 0)[i].2.2.length/\((PG.az pr.body)[i].wd≠.b8->1<(PG.aS pr.body 0)[i].2.2.length)/\
 ∀v H',av H H'->kE K H' (iC pr.aC (PG.az pr.body)[i] (PG.aS pr.body 0)[i].2.2 vals) v->Q v H'
end
end L2
namespace L2
open PySem PyProof.Rows
def Mc:V->List V->Hp->VK->Prop:=fun x vs H Q=>∃(l:Addr) (ss:List Str) (y:Str) (j:Nat),x=.ref l/\vs=[.str y]/\H l=some (.lst (ss.map V.str))/\ss[j]?=some y/\(∀m,m<j->ss[m]?≠some y)/\Q (.int j) H
theorem Gh{X:Cx}:QH X "list.index" Mc:=by
 intro pins s σ H x vs v us Q I rx rv h
 obtain⟨l,ss,y,j,rfl,rfl,hH,hj,VC,q⟩:=h
 cases rx
 obtain⟨u,rfl,ru⟩:=rv.one
 obtain⟨t,rfl⟩:=(show ∃t,u=Value.str y t from ru)
 obtain⟨z,bA,n,r,hl,e⟩:=I.AK hH
 rw[List.length_map] at z hl
 have line:sizeLine=2 ^ 24:=rfl
 have get:∀m (hm:m<bA.length),∃t',bA[m]=Value.str (ss[m]'(by lia)) t':=fun m hm=>by
  obtain⟨w',hw,Fz⟩:=r.get (i:=m) (show (ss.map V.str)[m]?=some (V.str (ss[m]'(by lia))) by rw[List.getElem?_map,List.getElem?_eq_getElem (by lia)];rfl)
  rw[List.getElem?_eq_getElem hm] at hw
  cases hw
  exact Fz
 have lj:j<ss.length:=(List.getElem?_eq_some_iff.mp hj).1
 have ej:ss[j]=y:=(List.getElem?_eq_some_iff.mp hj).2
 let e0:Value->Bool:=fun v=>match v with
  |.str a _=>a==y
  |_=>false
 refine call_meets F.slot_list_index ⟨_,e,rfl⟩ F.entry_list_index (F.args_list_index_2 _ _)
  (SeqAt.list_indexAt l bA.toArray n none #[] (.str y t) e0 j (by rw[List.size_toArray];lia) (by lia) ?_ ?_) ⟨e,?_,?_⟩
 ·obtain⟨t',et⟩:=get j (by lia)
  show e0 bA[j]=true
  rw[et,ej]
  simp[e0]
 ·intro m hm lt
  have hm':m<bA.length:=by simpa using hm
  obtain⟨t',et⟩:=get m hm'
  show e0 bA[m]=false
  rw[et]
  have:=VC m lt
  rw[List.getElem?_eq_getElem (by lia)] at this
  simp only[e0]
  exact beq_eq_false_iff_ne.mpr fun w=>this (by rw[w])
 ·intro v hv
  rw[List.mem_toArray] at hv
  obtain⟨m,hm,rfl⟩:=List.mem_iff_getElem.mp hv
  obtain⟨t',et⟩:=get m hm
  rw[et]
  exact SeqAt.EqAt.str_str _ _ _ _
 ·exact⟨.int j,H,I.tok _,⟨_,rfl⟩,q⟩
def dg (bs:List PG.fV) (x:W):Nat:=(bs.map (·.name)).idxOf x
def sH (bs:List PG.fV) (vals:List Int) (x:W) (v:Int):List Int:=vals.set (dg bs x) v
def eT (bs:List PG.fV) (x:W):Int:=((bs[dg bs x]?).map (·.size)).getD 1
def ji (bs:List PG.fV) (st:PG.bF) (ws vals:List Int) (zt:Int):Option (Int×List Int)×Option Int:=match st with
 |.ask _ b=>(some (ws.getD 0 0,sH bs vals b (zt%eT bs b)),none)
 |.put _ b e=>(some (ws.getD 0 0,sH bs vals b (wv bs vals e%eT bs b)),none)
 |.say _ e=>(some (ws.getD 0 0,vals),some (wv bs vals e))
 |.stop _=>(some (ws.getD 0 0,vals),none)
 |st=>(iC bs st ws vals,none)
def EK (bs:List PG.fV) (vals:List Int):PG.bF->Prop
 |.ask _ b=>b∈bs.map (·.name)
 |.put _ b e=>b∈bs.map (·.name)/\B9 bs vals e
 |.say _ e=>B9 bs vals e
 |.b8 _ _ l r=>B9 bs vals l/\B9 bs vals r
 |.ifs _ _ l r _ _=>B9 bs vals l/\B9 bs vals r
 |.fe _ _ l r _=>B9 bs vals l/\B9 bs vals r
 |.stop _=>True
def yw:Option Int->V
 |none=>.ck
 |some n=>.int n
theorem kb{bs:List PG.fV}{x:W}(h:x∈bs.map (·.name)):∃hi:dg bs x<bs.length,bs[dg bs x].name=x:=by
 have l:dg bs x<(bs.map (·.name)).length:=List.idxOf_lt_length_iff.mpr h
 have e:(bs.map (·.name))[dg bs x]=x:=List.getElem_idxOf l
 rw[List.length_map] at l
 rw[List.getElem_map] at e
 exact⟨l,e⟩
theorem Dd{bs:List PG.fV}{vs:List V}(l:vs.length=bs.length)(nb:(bs.map (·.name)).Nodup){x:W}(h:x∈bs.map (·.name))(v:V)(i:Nat)(hi:i<bs.length) :
 cH (putK (cF bs vs) (.inr (S x)) v) (.inr (S bs[i].name))=(vs.set (dg bs x) v)[i]?:=by
 obtain⟨hx,ex⟩:=kb h
 rw[nX]
 by_cases e:i=dg bs x
 ·subst e
  rw[if_pos (by rw[ex]),List.getElem?_set_self (by lia)]
 ·have ne:bs[i].name≠x:=fun z=>e (by
   have p1:=List.pairwise_iff_getElem.mp nb
   rw[<- ex] at z
   rcases Nat.lt_trichotomy i (dg bs x) with lt |eq |gt
   ·exact absurd (by rw[List.getElem_map,List.getElem_map];exact z) (p1 i (dg bs x) (by simpa using hi) (by simpa using hx) lt)
   ·exact eq
   ·exact absurd (by rw[List.getElem_map,List.getElem_map];exact z.symm) (p1 (dg bs x) i (by simpa using hx) (by simpa using hi) gt))
  rw[if_neg (fun z=>ne (lC.mp (Sum.inr.inj z))),List.getElem?_set_ne (fun z=>e z.symm)]
  have li:i<vs.length:=by lia
  rw[lN bs vs l nb i hi vs[i] (List.getElem?_eq_getElem li),List.getElem?_eq_getElem li]
theorem Bn{bs:List PG.fV}(nb:(bs.map (·.name)).Nodup){x:W}(h:x∈bs.map (·.name)):cH (bs.map fun b=>((Sum.inr (S b.name):Key),V.int b.size)) (.inr (S x))=some (.int (eT bs x)):=by
 obtain⟨hx,ex⟩:=kb h
 have e:(bs.map fun b=>((Sum.inr (S b.name):Key),V.int b.size))=cF bs (bs.map fun b=>V.int b.size):=by
  unfold cF
  rw[List.zipWith_map_right,List.zipWith_self]
 rw[e]
 have:=lN bs (bs.map fun b=>V.int b.size) (by simp) nb (dg bs x) hx (.int bs[dg bs x].size) (by rw[List.getElem?_map,List.getElem?_eq_getElem hx];rfl)
 rw[ex] at this
 rw[this]
 unfold eT
 rw[List.getElem?_eq_getElem hx]
 rfl
section
variable(K:PySem.W.Frag)(C:Addr)
def Js:Sp:=fun vs H Q _=>∃(p sa:Addr) (fv:V) (pr:PG.Prog) (vals:List Int) (zt:Int) (i:Nat) (hi:i<(PG.az pr.body).length) (hf:i<(PG.aS pr.body 0).length),vs=[.ref p,.ref sa,fv]/\yu K C H p pr/\zr pr/\(∀b∈pr.aC,0<b.size)/\df K H sa (PG.az pr.body)[i].row vals/\vals.length=pr.aC.length/\
 ((PG.az pr.body)[i].wd=.ask->fv=.int zt)/\EK pr.aC vals (PG.az pr.body)[i]/\0<(PG.aS pr.body 0)[i].2.2.length/\((PG.az pr.body)[i].wd=.ifs\/(PG.az pr.body)[i].wd=.fe->1<(PG.aS pr.body 0)[i].2.2.length)/\
 ∀q sv H',av H H'->c5 K H' q [sv,yw (ji pr.aC (PG.az pr.body)[i] (PG.aS pr.body 0)[i].2.2 vals zt).2]->kE K H' (ji pr.aC (PG.az pr.body)[i] (PG.aS pr.body 0)[i].2.2 vals zt).1 sv->Q (.ref q) H'
end
end L2
namespace L2
open PySem PySem.Spec PyProof.Rows
def SD (K:PySem.W.Frag):R2:=fun x y H Q=>∃a b xs ys,x=.ref a/\y=.ref b/\c5 K H a xs/\c5 K H b ys/\xs.length+ys.length<=sizeLine/\∀p H',av H H'->c5 K H' p (xs++ys)->Q (.ref p) H'
theorem EL{X:Cx}:qd X (binaryOp .Add) (SD X.K):=by
 intro pins s σ H x y v u Q I rx ry h
 by_cases hx:∃SE,(∃a b ys,x=.ref a/\y=.ref b/\c5 X.K H a SE/\c5 X.K H b ys/\SE.length+ys.length<=sizeLine/\∀p H',av H H'->c5 X.K H' p (SE++ys)->Q (.ref p) H')/\SE=[]
 ·obtain⟨xs,⟨a,b,ys,rfl,rfl,ha,hb,hz,q⟩,rfl⟩:=hx
  cases rx
  cases ry
  obtain⟨bA,r1,p1,_⟩:=I.tuple ha
  obtain⟨rO,r2,p2,_⟩:=I.tuple hb
  obtain⟨⟨cls,dd,data,sl⟩,ho,hc,n,hd⟩:=id p1
  obtain⟨⟨VA,QF,data2,QG⟩,OH,RL,n2,hd2⟩:=id p2
  simp only at hc hd RL hd2
  subst hc hd RL hd2
  cases r1
  exact concat_meets ⟨_,ho,rfl⟩ ⟨_,OH,rfl⟩ noFill_tuple_add seq_tuple_add PySem.F.slot_tuple_add PySem.F.entry_tuple_add (PySem.F.args_tuple_add_2 _ _)
   (tuple_addW0 a b _ rO.toArray n n2 dd QF sl QG rfl) ⟨ho,OH,⟨.ref b,H,I,rfl,q _ _ (av.refl _) hb⟩⟩
 ·obtain⟨a,b,xs,ys,rfl,rfl,ha,hb,hz,q⟩:=h
  refine rN pins s σ H _ _ v u Q I rx ry ⟨a,b,xs,ys,rfl,rfl,ha,hb,fun e=>hx ⟨xs,⟨a,b,ys,rfl,rfl,ha,hb,hz,q⟩,e⟩,hz,fun e=>q _ _ (av.refl _) ?_,fun _ p hp=>q _ _ (av.new hp _) (.of ai)⟩
  rw[e,List.append_nil]
  exact ha
def SF (K:PySem.W.Frag):V->Option Int->Option Int->Hp->VK->Prop:=fun x lo hi H Q=>∃a xs,x=.ref a/\c5 K H a xs/\∀p H',av H H'->c5 K H' p (cQ xs lo hi)->Q (.ref p) H'
theorem EM{X:Cx}:RN X (SF X.K):=by
 intro pins s σ H x v vl vu lo hi sl Q I rx hs pl pu h
 obtain⟨a,xs,rfl,hx,q⟩:=h
 refine LX pins s σ H _ v vl vu lo hi sl Q I rx hs pl pu ⟨a,xs,rfl,hx,fun e=>q _ _ (av.refl _) ?_,fun _ p hp=>q _ _ (av.new hp _) (.of ai)⟩
 have:cQ xs lo hi=xs:=by
  unfold cQ
  rw[e.1,e.2]
  simp
 rw[this]
 exact hx
theorem yx{K:PySem.W.Frag}{H:Hp}:∀l:List Int,aQ K H (l.map Dp.int) (l.map V.int)
 |[]=>by rw[List.map_nil,List.map_nil,aQ.br]
 |x::r=>by rw[List.map_cons,List.map_cons,aQ.aJ];exact⟨_,_,rfl,by rw[Rep.bB],yx r⟩
def Pk:PG.bF->Prop
 |.b8 _ sg _ _=>sg∈PG.ze
 |.ifs _ sg _ _ _ _=>sg∈PG.ze
 |.fe _ sg _ _ _=>sg∈PG.ze
 |_=>True
section
variable(K:PySem.W.Frag)
def De:Sp:=fun vs H Q _=>∃(B ta wa va:Addr) (fv:V) (bs:List PG.fV) (st:PG.bF) (ws vals:List Int) (zt:Int),vs=[.ref B,.ref ta,.ref wa,.ref va,fv]/\Rep K H (.lst (bs.map iz)) (.ref B)/\Rep K H (de st) (.ref ta)/\c5 K H wa (ws.map V.int)/\c5 K H va (vals.map V.int)/\(bs.map (·.name)).Nodup/\bs.length<=10/\(∀b∈bs,0<b.size)/\vals.length=bs.length/\
 (st.wd=.ask->fv=.int zt)/\EK bs vals st/\Pk st/\0<ws.length/\(st.wd=.ifs\/st.wd=.fe->1<ws.length)/\
 ∀q sv H',av H H'->c5 K H' q [sv,yw (ji bs st ws vals zt).2]->kE K H' (ji bs st ws vals zt).1 sv->Q (.ref q) H'
end
end L2
namespace L2
open PySem
theorem yy{H H':Hp}{b:Addr}(s:av H H')(h:H' b=none):H b=none:=by
 cases z:H b with
 |none=>rfl
 |some o=>rw[s _ _ z] at h;cases h
def nL (D:Addr) (H:Hp):Hp:=fun b=>if b=D then none else H b
theorem mO{D b:Addr}{H:Hp}(n:b≠D):nL D H b=H b:=if_neg n
theorem vC{D b:Addr}{H:Hp}{o:HO}(h:nL D H b=some o):b≠D/\H b=some o:=by
 unfold nL at h
 by_cases e:b=D
 ·rw[if_pos e] at h;cases h
 ·rw[if_neg e] at h;exact⟨e,h⟩
theorem uj{D:Addr}{H:Hp}:av (nL D H) H:=fun b o h=>(vC h).2
theorem Gi{D:Addr}{H H':Hp}(u:bz D H H'):av (nL D H) H':=fun b o h=>u b o (vC h).1 (vC h).2
theorem c5.Md{K:PySem.W.Frag}{H H':Hp}{D a:Addr}{xs ys:List V}(h:c5 K H a xs)(hD:H D=some (.lst ys))(u:bz D H H'):c5 K H' a xs:=by
 rcases h with (q |⟨o,q⟩) |q
 ·exact .inl (.inl (u _ _ (cR q hD (by intro z;cases z)) q))
 ·exact .inl (.inr ⟨o,u _ _ (cR q hD (by intro z;cases z)) q⟩)
 ·exact .inr q
theorem zu{bs:List PG.fV}{vals:List Int}(lv:vals.length=bs.length)(nb:(bs.map (·.name)).Nodup)(hv:∀v∈vals,v.natAbs<=2 ^ 12):∀e:PM.Tr,PG.jn bs e->GV (cF bs (vals.map V.int)) e
 |.num n,h=>by rw[PG.jn] at h;rw[GV];lia
 |.box x,h=>by
  rw[PG.jn] at h
  rw[GV]
  obtain⟨hx,ex⟩:=kb h
  have li:dg bs x<vals.length:=by lia
  refine⟨vals[dg bs x],?_,hv _ (List.getElem_mem li)⟩
  have:=lN bs (vals.map V.int) (by simpa using lv) nb (dg bs x) hx (.int vals[dg bs x]) (by rw[List.getElem?_map,List.getElem?_eq_getElem li];rfl)
  rw[ex] at this
  exact this
 |.bin o l r,h=>by
  rw[PG.jn] at h
  rw[GV]
  exact⟨by simpa using h.1,zu lv nb hv l h.2.1,zu lv nb hv r h.2.2⟩
theorem zv{bs:List PG.fV}{vals:List Int}(lv:vals.length=bs.length)(nb:(bs.map (·.name)).Nodup)(hv:∀v∈vals,v.natAbs<=2 ^ 12){st:PG.bF}(h:PG.rE (·∈bs.map (·.name)) (fun e=>PG.jn bs e/\PG.mG e<=2) (·∈PG.ze) st):EK bs vals st/\Pk st:=by
 have k:∀e,(PG.jn bs e/\PG.mG e<=2)->B9 bs vals e:=fun e h=>⟨zu lv nb hv e h.1,h.2⟩
 cases st<;>rw[PG.rE] at h
 ·exact⟨h,trivial⟩
 ·exact⟨⟨h.1,k _ h.2⟩,trivial⟩
 ·exact⟨k _ h,trivial⟩
 ·exact⟨⟨k _ h.2.1,k _ h.2.2⟩,h.1⟩
 ·exact⟨trivial,trivial⟩
 ·exact⟨⟨k _ h.2.1,k _ h.2.2.1⟩,h.1⟩
 ·exact⟨⟨k _ h.2.1,k _ h.2.2.1⟩,h.1⟩
theorem kE.keep{K:PySem.W.Frag}{H H':Hp}{o:Option (Int×List Int)}{v:V}(h:kE K H o v)(s:av H H'):kE K H' o v:=by
 cases o with
 |none=>exact h
 |some x=>obtain⟨a,e,sa⟩:=h;exact⟨a,e,sa.mono s⟩
section
variable(K:PySem.W.Frag)
def Df:Sp:=fun vs H Q _=>∃(D S:Addr) (sc:List Int) (p many:Nat),vs=[.ref D,.int many]/\ig K H D S sc p/\p<=100/\many<=100/\
 ∀(l t1 B b R:Addr) H',bz D H H'->(∃p',p'<=90000/\ig K H' D S sc p')->H' l=some (.lst [.ref t1,.ref R])->H' t1=some (.tup [.ref B,.ref b])->l≠D->t1≠D->B≠D->b≠D->R≠D->
  Fix K (·=D) H' (.lst ((PG.cb sc many p).1.aC.map iz)) (.ref B)->Fix K (·=D) H' (.lst ((PG.cb sc many p).1.body.map de)) (.ref b)->Fix K (·=D) H' (.lst ((PG.cb sc many p).2.map jF)) (.ref R)->Q (.ref l) H'
end
end L2
namespace L2
open PySem
section
variable{K:PySem.W.Frag}{H H':Hp}{p C dx a:Addr}{fs:List (Str×V)}{xs:List V}
theorem c5.ins(h:c5 K H a xs)(hp:H p=some (.ins C dx fs))(u:bz p H H'):c5 K H' a xs:=by
 rcases h with (q |⟨o,q⟩) |q
 ·exact .inl (.inl (u _ _ (cR q hp (by intro z;cases z)) q))
 ·exact .inl (.inr ⟨o,u _ _ (cR q hp (by intro z;cases z)) q⟩)
 ·exact .inr q
theorem il.ins(h:il K H a xs)(hp:H p=some (.ins C dx fs))(u:bz p H H'):il K H' a xs:=by
 rcases h with (q |⟨o,q⟩) |q
 ·exact .inl (.inl (u _ _ (cR q hp (by intro z;cases z)) q))
 ·exact .inl (.inr ⟨o,u _ _ (cR q hp (by intro z;cases z)) q⟩)
 ·exact .inr q
theorem df.ins{row:Int}{vals:List Int}(h:df K H a row vals)(hp:H p=some (.ins C dx fs))(u:bz p H H'):df K H' a row vals:=let ⟨va,h1,h2⟩:=h;⟨va,h1.ins hp u,h2.ins hp u⟩
theorem yu.ins{CC ch:Addr}{pr:PG.Prog}(c:yu K CC H ch pr)(hp:H p=some (.ins C dx fs))(n:ch≠p)(u:bz p H H'):yu K CC H' ch pr:=by
 obtain⟨dx,nl,sd,fa,va,st,wy,us,ws,h1,h2,h3,h4,h5,h6,h7,h8,h9,NG,Pj,SA⟩:=c.at_
 have k:∀ {b:Addr} {o:HO},H b=some o->(∀C dx fs,o≠.ins C dx fs)->H' b=some o:=fun e no=>u _ _ (cR e hp (no _ _ _)) e
 exact⟨⟨dx,nl,sd,fa,va,st,wy,us,ws,u _ _ n h1,k h2 (by intro _ _ _ z;cases z),k h3 (by intro _ _ _ z;cases z),k h4 (by intro _ _ _ z;cases z),k h5 (by intro _ _ _ z;cases z),k h6 (by intro _ _ _ z;cases z),h7,k h8 (by intro _ _ _ z;cases z),lL hp (bc.one u rfl) _ _ h9,NG,k Pj (by intro _ _ _ z;cases z),fun i hi=>let ⟨q,e,r⟩:=SA i hi;⟨q,e,r.ins hp u⟩⟩⟩
end
theorem Dg{tc:TT}{tb:TS}{D:Ends}{σ:St}{H:Hp}(h:∀B:TS,(∀D σ H,tb D σ H->B D σ H)->Cj tc B D σ H):Cj tc tb D σ H:=h tb fun _ _ _ x=>x
theorem iD{f:Str}{y:V}:∀ {fs:List (Str×V)} {n:Nat},fs.length<=n->(jz f y fs).length<=n+1
 |[],n,h=>by simp[jz]
 |(g,x)::r,n,h=>by
  unfold jz
  split
  ·simp only[List.length_cons] at h ⊢
   lia
  ·obtain⟨m,rfl⟩:∃m,n=m+1:=⟨n-1,by simp only[List.length_cons] at h;lia⟩
   have:=iD (f:=f) (y:=y) (fs:=r) (n:=m) (by simp only[List.length_cons] at h;lia)
   simp only[List.length_cons]
   lia
def SG:PG.fT->List V
 |.on=>[.str "on"]
 |.out=>[.str "out"]
 |.b8 r=>[.str "must",.int r]
 |.fin=>[.str "end"]
def uk (K:PySem.W.Frag) (H:Hp):Option PG.fT->V->Prop
 |none,v=>v=.ck
 |some e,v=>∃a,v=.ref a/\c5 K H a (SG e)
theorem uk.mono{K:PySem.W.Frag}{H H':Hp}{e:Option PG.fT}{v:V}(h:uk K H e v)(s:av H H'):uk K H' e v:=by
 cases e with
 |none=>exact h
 |some x=>obtain⟨a,e,q⟩:=h;exact⟨a,e,s.bD q⟩
theorem uk.ins{K:PySem.W.Frag}{H H':Hp}{p C dx:Addr}{fs:List (Str×V)}{e:Option PG.fT}{v:V}(h:uk K H e v)(hp:H p=some (.ins C dx fs))(u:bz p H H'):uk K H' e v:=by
 cases e with
 |none=>exact h
 |some x=>obtain⟨a,e,q⟩:=h;exact⟨a,e,q.ins hp u⟩
def SH (ch fl:Addr) (n:Nat) (sa:Addr) (ev:V):List (Str×V):=[("chart",.ref ch),("figures",.ref fl),("taken",.int n),("standing",.ref sa),("end",ev)]
structure Au(K:PySem.W.Frag)(CC CW:Addr)(H:Hp)(wk ch fl:Addr)(pr:PG.Prog)(aW:List Int)(n:Nat)(row:Int)(vals:List Int)(e:Option PG.fT):Prop where
 at_:∃(dx sa:Addr) (ev:V),H wk=some (.ins CW dx (SH ch fl n sa ev))/\df K H sa row vals/\uk K H e ev
 SI:yu K CC H ch pr
 Uu:il K H fl (aW.map V.int)
 Uv:ch≠wk
theorem Au.mono{K:PySem.W.Frag}{CC CW:Addr}{H H':Hp}{wk ch fl:Addr}{pr:PG.Prog}{aW:List Int}{n:Nat}{row:Int}{vals:List Int}{e:Option PG.fT}(h:Au K CC CW H wk ch fl pr aW n row vals e)(s:av H H'):Au K CC CW H' wk ch fl pr aW n row vals e:=
 let ⟨dx,sa,ev,h1,h2,h3⟩:=h.at_
 ⟨⟨dx,sa,ev,s _ _ h1,h2.mono s,h3.mono s⟩,h.SI.mono s,s.seq h.Uu,h.Uv⟩
theorem Au.put{K:PySem.W.Frag}{CC CW:Addr}{H:Hp}{wk ch fl dx sa Uw:Addr}{pr:PG.Prog}{aW:List Int}{n n':Nat}{row Jt:Int}{vals Bo:List Int}{e e':Option PG.fT}{ev Ux:V}(h:Au K CC CW H wk ch fl pr aW n row vals e)(hw:H wk=some (.ins CW dx (SH ch fl n sa ev)))
 (hs:df K H Uw Jt Bo) (he:uk K H e' Ux):Au K CC CW (upd H wk (.ins CW dx (SH ch fl n' Uw Ux))) wk ch fl pr aW n' Jt Bo e':=by
 have u:bz wk H (upd H wk (.ins CW dx (SH ch fl n' Uw Ux))):=(bz.refl _ _).put _
 exact⟨⟨dx,Uw,Ux,ai,hs.ins hw u,he.ins hw u⟩,h.SI.ins hw h.Uv u,h.Uu.ins hw u,h.Uv⟩
def wF (b:List PG.bF) (row:Int):PG.bF:=((PG.az b)[PG.IV b row]?).getD (.stop 0)
def Pl (b:List PG.bF) (row:Int):List Int:=(((PG.aS b 0)[PG.IV b row]?).map (·.2.2)).getD []
def fo (b:List PG.bF) (row:Int):Bool:=decide ((wF b row).wd=.ask)
def eY (pr:PG.Prog) (row:Int) (vals:List Int) (f:Int):Option (Int×List Int)×Option Int:=ji pr.aC (wF pr.body row) (Pl pr.body row) vals f
theorem kF{b:List PG.bF}(pw:(PG.az b).Pairwise (fun a b=>a.row<b.row))(i:Nat)(hi:i<(PG.az b).length):wF b (PG.az b)[i].row=(PG.az b)[i]:=by
 unfold wF
 rw[PG.Ez pw i hi,List.getElem?_eq_getElem hi]
 rfl
theorem EN{b:List PG.bF}(pw:(PG.az b).Pairwise (fun a b=>a.row<b.row))(i:Nat)(hi:i<(PG.az b).length)(hf:i<(PG.aS b 0).length):Pl b (PG.az b)[i].row=(PG.aS b 0)[i].2.2:=by
 unfold Pl
 rw[PG.Ez pw i hi,List.getElem?_eq_getElem hf]
 rfl
structure vh(pr:PG.Prog)(row:Int)(vals:List Int):Prop where
 row:row=0\/∃i,∃hi:i<(PG.az pr.body).length,(PG.az pr.body)[i].row=row
 len:vals.length=pr.aC.length
 small:∀v∈vals,v.natAbs<=2 ^ 12
structure lO(pr:PG.Prog):Prop where
 ok:zr pr
 dep:PG.fS pr.body<=3
 tS:(PG.b7 pr.body).length<=1000
 own:PG.wc (·∈pr.aC.map (·.name)) (fun e=>PG.jn pr.aC e/\PG.mG e<=2) (·∈PG.ze) pr.body
 size:∀b∈pr.aC,2<=b.size/\b.size<=10/\0<=b.first/\b.first<b.size
theorem EO{pr:PG.Prog}{w:Int}(h:w=0\/w=0\/∃t∈PG.az pr.body,t.row=w):w=0\/∃i,∃hi:i<(PG.az pr.body).length,(PG.az pr.body)[i].row=w:=by
 rcases h with h |h |⟨t,ht,e⟩
 ·exact .inl h
 ·exact .inl h
 ·obtain⟨i,hi,e2⟩:=List.mem_iff_getElem.mp ht
  exact .inr ⟨i,hi,by rw[e2];exact e⟩
theorem lO.first{pr:PG.Prog}(d:lO pr):vh pr (PG.bg pr.body 0) (pr.aC.map (·.first)):=by
 refine⟨EO (.inr ?_),by simp,fun v hv=>?_⟩
 ·rcases PG.oy pr.body 0 with e |e
  ·exact .inl e
  ·exact .inr e
 ·obtain⟨b,hb,rfl⟩:=List.mem_map.mp hv
  have:=d.size b hb
  lia
theorem Bp{pr:PG.Prog}(d:lO pr){x:W}(h:x∈pr.aC.map (·.name)):2<=eT pr.aC x/\eT pr.aC x<=10:=by
 obtain⟨hx,_⟩:=kb h
 unfold eT
 rw[List.getElem?_eq_getElem hx]
 have:=d.size _ (List.getElem_mem hx)
 exact⟨this.1,this.2.1⟩
theorem vh.step{pr:PG.Prog}(d:lO pr){i:Nat}(hi:i<(PG.az pr.body).length)(hf:i<(PG.aS pr.body 0).length){vals:List Int}{f:Int}(lv:vals.length=pr.aC.length)(sm:∀v∈vals,v.natAbs<=2 ^ 12){x:Int×List Int}{s:Option Int}
 (h:ji pr.aC (PG.az pr.body)[i] (PG.aS pr.body 0)[i].2.2 vals f=(some x,s)):vh pr x.1 x.2:=by
 have Ju:=PG.ja pr.body _ d.own (List.getElem_mem hi)
 obtain⟨w0,w1⟩:=PG.iY pr.body 0 _ (List.getElem_mem hf)
 have win:=PG.oA pr.body 0 _ (List.getElem_mem hf)
 obtain⟨_,_,ew⟩:=gO pr.body i hi
 rw[ew] at w1
 generalize (PG.aS pr.body 0)[i].2.2=ws at *
 generalize (PG.az pr.body)[i]=st at *
 have r0:∀j,j<ws.length->ws.getD j 0=0\/∃i,∃hi:i<(PG.az pr.body).length,(PG.az pr.body)[i].row=ws.getD j 0:=fun j hj=>by
  rw[List.getD_eq_getElem?_getD,List.getElem?_eq_getElem hj]
  exact EO (win _ (List.getElem_mem hj))
 have set:∀(b:W) (z:Int),b∈pr.aC.map (·.name)->(sH pr.aC vals b (z%eT pr.aC b)).length=pr.aC.length/\∀v∈sH pr.aC vals b (z%eT pr.aC b),v.natAbs<=2 ^ 12:=fun b z hb=>by
  unfold sH
  refine⟨by rw[List.length_set];exact lv,fun v hv=>?_⟩
  rcases List.mem_or_eq_of_mem_set hv with hv |rfl
  ·exact sm v hv
  ·have:=Bp d hb
   have m1:=Int.emod_nonneg z (b:=eT pr.aC b) (by lia)
   have m2:=Int.emod_lt_of_pos z (b:=eT pr.aC b) (by lia)
   lia
 have cs:iC pr.aC st ws vals=some x->(st.wd=.b8\/st.wd=.ifs\/st.wd=.fe)->vh pr x.1 x.2:=by
  intro e hw
  unfold iC at e
  split at e
  ·cases e
  ·split at e
   ·cases e;exact⟨r0 0 w0,lv,sm⟩
   ·split at e
    ·cases e
    ·rename_i nm
     cases e;exact⟨r0 1 (w1 (hw.resolve_left nm)),lv,sm⟩
 have vi:∀(y:Int×List Int) (s':Option Int),(some y,s')=(some x,s)->vh pr y.1 y.2->vh pr x.1 x.2:=fun y s' e h=>by cases e;exact h
 cases st<;>rw[PG.rE] at Ju
 ·exact vi _ _ h ⟨r0 0 w0,(set _ _ Ju).1,(set _ _ Ju).2⟩
 ·exact vi _ _ h ⟨r0 0 w0,(set _ _ Ju.1).1,(set _ _ Ju.1).2⟩
 ·exact vi _ _ h ⟨r0 0 w0,lv,sm⟩
 ·exact cs (congrArg Prod.fst h) (.inl rfl)
 ·exact vi _ _ h ⟨r0 0 w0,lv,sm⟩
 ·exact cs (congrArg Prod.fst h) (.inr (.inl rfl))
 ·exact cs (congrArg Prod.fst h) (.inr (.inr rfl))
abbrev wG (pr:PG.Prog):=PG.xv (fo pr.body) (eY pr)
abbrev Pm (pr:PG.Prog):=PG.Up (fo pr.body) (eY pr)
theorem Jv{pr:PG.Prog}{row f:Int}{vals left r:List Int}{s:Option Int}(ht:PG.take1 (fo pr.body row) left=some (f,r))(hs:eY pr row vals f=(none,s)):wG pr row vals left=(s,r,row,vals,some (.b8 row)):=by
 show PG.xv _ _ _ _ _=_
 unfold PG.xv
 rw[ht]
 simp only[hs]
theorem Jw{pr:PG.Prog}{row f:Int}{vals left r:List Int}{s:Option Int}{x:Int×List Int}(ht:PG.take1 (fo pr.body row) left=some (f,r))(hs:eY pr row vals f=(some x,s)):wG pr row vals left=(s,r,x.1,x.2,PG.endAt x.1):=by
 show PG.xv _ _ _ _ _=_
 unfold PG.xv
 rw[ht]
 simp only[hs]
theorem Me{pr:PG.Prog}{row:Int}{vals left:List Int}(ht:PG.take1 (fo pr.body row) left=none):wG pr row vals left=(none,left,row,vals,some .out):=by
 show PG.xv _ _ _ _ _=_
 unfold PG.xv
 rw[ht]
def aa3 (pr:PG.Prog) (aW:List Int) (WA:PG.V8) (m n:Nat) (row:Int) (vals r s:List Int):Option PG.fT->Prop
 |none=>row≠0/\vh pr row vals/\WA=⟨r++(Pm pr m row vals (aW.drop n)).rows,s++(Pm pr m row vals (aW.drop n)).O7,(Pm pr m row vals (aW.drop n)).fin⟩
 |some e=>WA=⟨r,s,e⟩
section
variable(K:PySem.W.Frag)(CC CW:Addr)
def Jx:Sp:=fun vs H Q _=>∃(wk dx ch fl:Addr) (pr:PG.Prog) (aW:List Int),vs=[.ref wk,.ref ch,.ref fl]/\H wk=some (.ins CW dx [])/\yu K CC H ch pr/\il K H fl (aW.map V.int)/\
 ∀H',bz wk H H'->Au K CC CW H' wk ch fl pr aW 0 (PG.bg pr.body 0) (pr.aC.map (·.first)) (PG.endAt (PG.bg pr.body 0))->Q .ck H'
def Jy:Sp:=fun vs H Q _=>∃(wk ch fl:Addr) (pr:PG.Prog) (aW:List Int) (n:Nat) (row:Int) (vals:List Int),vs=[.ref wk]/\Au K CC CW H wk ch fl pr aW n row vals none/\
 ∀H',bz wk H H'->Au K CC CW H' wk ch fl pr aW n row vals (PG.endAt row)->Q .ck H'
def Mf:Sp:=fun vs H Q _=>∃(wk ch fl:Addr) (pr:PG.Prog) (aW:List Int) (n:Nat) (vals:List Int) (e:Option PG.fT) (i:Nat) (hi:i<(PG.az pr.body).length),vs=[.ref wk]/\zr pr/\Au K CC CW H wk ch fl pr aW n (PG.az pr.body)[i].row vals e/\
 Q (.bl (decide ((PG.az pr.body)[i].wd=.ask))) H
def Pn:Sp:=fun vs H Q _=>∃(wk ch fl:Addr) (pr:PG.Prog) (aW:List Int) (n:Nat) (row:Int) (vals:List Int),vs=[.ref wk]/\lO pr/\Au K CC CW H wk ch fl pr aW n row vals none/\row≠0/\vh pr row vals/\n<=aW.length/\aW.length<=1000/\
 ∀H' n',bz wk H H'->n'<=aW.length->aW.drop n'=(wG pr row vals (aW.drop n)).2.1->Au K CC CW H' wk ch fl pr aW n' (wG pr row vals (aW.drop n)).2.2.1 (wG pr row vals (aW.drop n)).2.2.2.1 (wG pr row vals (aW.drop n)).2.2.2.2->
  vh pr (wG pr row vals (aW.drop n)).2.2.1 (wG pr row vals (aW.drop n)).2.2.2.1->Q (yw (wG pr row vals (aW.drop n)).1) H'
def YT (H:Hp) (q:Addr) (o:PG.V8):Prop:=∃(r s e:Addr),c5 K H q [.ref r,.ref s,.ref e]/\H r=some (.lst (o.rows.map V.int))/\H s=some (.lst (o.O7.map V.int))/\r≠s/\c5 K H e (SG o.fin)
end
theorem c5.dk{K:PySem.W.Frag}{H H':Hp}{D a:Addr}{xs:List V}{aP:List (Key×V)}(h:c5 K H a xs)(hD:H D=some (.dK aP))(u:bz D H H'):c5 K H' a xs:=by
 rcases h with (q |⟨o,q⟩) |q
 ·exact .inl (.inl (u _ _ (cR q hD (by intro z;cases z)) q))
 ·exact .inl (.inr ⟨o,u _ _ (cR q hD (by intro z;cases z)) q⟩)
 ·exact .inr q
theorem df.Md{K:PySem.W.Frag}{H H':Hp}{D a:Addr}{ys:List V}{row:Int}{vals:List Int}(h:df K H a row vals)(hD:H D=some (.lst ys))(u:bz D H H'):df K H' a row vals:=let ⟨va,h1,h2⟩:=h;⟨va,h1.Md hD u,h2.Md hD u⟩
theorem Dh{K:PySem.W.Frag}{D Dk S:Addr}{n:Nat}{te:TE}{Q:VK}{r:St}{H:Hp}{sc:List Int}{p:Nat}(ok:Int->Prop)(hl:n<=16000000)(hD:H D=none)(dk:ig K H Dk S sc p)
 (step:∀(i:Nat) x H2,i<n->bz Dk H H2->ig K H2 Dk S sc (p+i)->∀R:VK,(∀m H3,ok m->bz Dk H2 H3->ig K H3 Dk S sc (p+i+1)->R (.int m) H3)->te (some x::r) H2 R)
 (q:∀(ns:List Int) H2,ns.length=n->(∀m∈ns,ok m)->bz Dk H H2->ig K H2 Dk S sc (p+n)->H2 D=some (.lst (ns.map V.int))->Q (.ref D) H2) :
 vW (Hg 0 n) D (fC 0) CI te Q (none::r) (upd H D (.lst [])):=by
 have nD:D≠Dk:=fun z=>by rw[z,dk.bH] at hD;cases hD
 have nS:S≠D:=fun z=>by have:=dk.fU;rw[z,hD] at this;cases this
 have YU:∀ {H2:Hp} {j:Nat} {o:HO},ig K H2 Dk S sc j->ig K (upd H2 D o) Dk S sc j:=fun d=>⟨by rw[ay nD.symm];exact d.bH,by rw[ay nS];exact d.fU,d.ne,d.len⟩
 have SJ:∀ {H2:Hp} {o:HO},bz Dk H H2->bz Dk H (upd H2 D o):=fun u b w n e=>by rw[ay (ao e hD)];exact u b w n e
 refine⟨fun i m τ H2=>m=n-i/\i<=n/\(∃x,τ=x::r)/\bz Dk H H2/\ig K H2 Dk S sc (p+i)/\∃ns:List Int,H2 D=some (.lst (ns.map V.int))/\ns.length=i/\∀m∈ns,ok m,⟨n,by simp,Nat.zero_le _,⟨none,rfl⟩,SJ (.of (av.refl _)),YU dk,[],ai,rfl,fun m z=>by simp at z⟩,?_⟩
 rintro i m τ H2 ⟨rfl,hi,⟨x,rfl⟩,u2,d2,ns,h2,ly,p2⟩
 by_cases ve:i<n
 ·refine .inr ⟨ve,fun τ' H'=>(∃x,τ'=x::r)/\bz Dk H H'/\ig K H' Dk S sc (p+i+1)/\∃ns:List Int,H' D=some (.lst (ns.map V.int))/\ns.length=i+1/\∀m∈ns,ok m,fun τ' H' ⟨h1,h3,h4,h5⟩=>⟨n-(i+1),by lia,rfl,ve,h1,h3,h4,h5⟩,fun y H' hy=>?_⟩
  obtain⟨rfl,rfl⟩:=hy
  simp only[fC,List.set,CI]
  rw[if_pos trivial]
  refine step i _ _ ve u2 d2 _ fun v H3 hv u3 d3=>⟨ns.map V.int,u3 _ _ nD h2,?_,⟨_,rfl⟩,SJ (u2.trans u3),YU d3,ns++[v],by rw[List.map_append];exact ai,by simp[ly],fun m hm=>?_⟩
  ·have:sizeLine=2 ^ 24:=rfl
   rw[List.length_map]
   lia
  ·rcases List.mem_append.mp hm with hm |hm
   ·exact p2 m hm
   ·rw[List.mem_singleton.mp hm]
    exact hv
 ·have e:i=n:=by lia
  subst e
  exact .inl ⟨Nat.le_refl _,q ns H2 ly p2 u2 d2 h2⟩
theorem Bq{K:PySem.W.Frag}{H:Hp}{r:Addr}{l:List Int}(h:il K H r (l.map V.int)):Rep K H (.lst (l.map Dp.int)) (.ref r):=Rep.bI.mpr ⟨r,_,rfl,h,yx l⟩
theorem Br(l:List Int):SeqAt.shaped (Dp.lst (l.map Dp.int)).py=true:=by
 obtain⟨h1,h2⟩:=EF l
 unfold SeqAt.shaped
 simp only[Dp.py,Dp.t9,PyData.canLay0,PyData.canLayAll0,PyData.depth,PyData.depthAll,h1,h2,Bool.and_true,Bool.true_and,decide_eq_true_iff]
 lia
end L2
namespace L2
open PySem PyProof.Rows
inductive Path(pr:PG.Prog):Int->List Int->List Int->List Int->List Int->Int->List Int->List Int->Prop
 |nil {row:Int} {vals left:List Int}:Path pr row vals left [] [] row vals left
 |cons {row f:Int} {vals left r rs ss:List Int} {x:Int×List Int} {s:Option Int} {Jt:Int} {Bo NH:List Int} (h0:row≠0) (ht:PG.take1 (fo pr.body row) left=some (f,r)) (hs:eY pr row vals f=(some x,s))
  (h:Path pr x.1 x.2 r rs ss Jt Bo NH):Path pr row vals left (row::rs) (s.toList++ss) Jt Bo NH
section
variable{pr:PG.Prog}{a a' a'':Int}{b c b' c' b'' c'' rs rs' ss ss':List Int}
end
end L2
namespace L2
open PySem
section
variable{s f m v g:Int}{l:List Int}
end
section
variable{s n a u m g:Int}{l:List Int}
end
section
variable{s v m g:Int}{l:List Int}
end
section
variable{sa sb sc:Int}{a b c g:Int}{l:List Int}
end
end L2
namespace L2
open PySem
section
variable{K:PySem.W.Frag}{H H1:Hp}{p:Addr}{vs:List V}{ds:List Dp}
theorem gT(e:upd H p (.tup vs)=H1)(hp:H p=none):av H H1:=e▸av.new hp _
theorem gL(e:upd H p (.lst vs)=H1)(hp:H p=none):av H H1:=e▸av.new hp _
theorem KU(e:upd H p (.tup vs)=H1)(hp:H p=none)(hr:aQ K H ds vs):Rep K H1 (.tup ds) (.ref p):=e▸Rep.new hp hr
theorem KW(e:upd H p (.lst vs)=H1):H1 p=some (.lst vs):=e▸ai
end
theorem rS{K:PySem.W.Frag}{H:Hp}{x:Str}:Rep K H (.str x) (.str x):=Rep.bE.mpr rfl
theorem NI{K:PySem.W.Frag}{H:Hp}{x:Int}:Rep K H (.int x) (.int x):=Rep.bB.mpr rfl
end L2
namespace L2
open PySem
section
variable{prog:Program}{w:World}
def um (prog:Program) (w:World) (h:Heap) (x:Key×List Key) (a:Addr):Prop:=∃(o:Obj) (n:Nat) (u:Value) (b:Addr),h.get? a=some o/\o.cls=.type "tuple"/\o.data=.seq #[u,.ref b] n/\rF x.1 u=true/\IsTupleKey (b3 prog w) h x.2 b
theorem um.ty{s:Shared}{x:Key×List Key}{a:Addr}(h:um prog w s.heap x a):s.TypeIs (.ref a) "tuple":=let ⟨o,_,_,_,e,c,_⟩:=h;⟨o,e,c⟩
def Jz (w:World) (prog:Program) (x:Key×List Key):Int:=reduceHash (Builtin.Tuple.tupleHashOf [K8 w x.1,tupleKeyHash (b3 prog w) x.2])
theorem um.one{h:Heap}{a:Addr}{x y:Key×List Key}(hx:um prog w h x a)(hy:um prog w h y a):x=y:=by
 obtain⟨o,n,u,b,e,_,d,i,t⟩:=hx
 obtain⟨o',n',u',b',e',_,d',i',t'⟩:=hy
 rw[e] at e'
 cases e'
 rw[d] at d'
 injection d' with d1 _
 have d1:=congrArg Array.toList d1
 simp only[List.cons.injEq,Value.ref.injEq,and_true] at d1
 obtain⟨rfl,rfl⟩:=d1
 exact Prod.ext ((b3 prog w).inj _ _ _ i i') (t.inj t')
theorem um.kp{h h':Heap}{x:Key×List Key}{a d:Addr}{o:Obj}{es ep}(hx:um prog w h x a)(ho:h.get? d=some o)(hd:o.data=.dict es ep)(hs:Heap.SameBut d h h'):um prog w h' x a:=by
 obtain⟨o',n,u,b,e,c,d',i,t⟩:=hx
 have ne:a≠d:=fun z=>by
  rw[z,ho] at e
  cases e
  rw[hd] at d'
  cases d'
 exact⟨o',n,u,b,(hs.2 a ne).trans e,c,d',i,t.keeps ho hd hs⟩
variable{A:Around}{E:Value->Shared->Prop}{s:Shared}
theorem Mg{x:Key×List Key}{a:Addr}{Q:Int->Shared->Prop}(hu:A.units+8<cLine)(hk:um prog w s.heap x a)(h:Q (Jz w prog x) {s with toks:=s.toks+(x.2.length+3)}) :
 wpAny (model prog w) A (pyHash (.ref a)) Q E s:=by
 have ty:=hk.ty
 obtain⟨o,n,u,b,e,c,d,i,t⟩:=hk
 refine PySem.W.pyHash_slot (T:="tuple") ty F.slot_tuple_hash F.entry_tuple_hash (F.args_tuple_hash_1 _) (beq_builtin_none _) (.inr (by lia)) ((show wpAny _ _ (Builtin.Tuple.tupleItemsOf (.ref a) >>= _) _ _ s from ?_))
 refine wpAny_bind (wpAny_tupleItemsOf e d (wpAny_bind ?_))
 rw[<- Array.forIn_toList]
 show wpAny _ _ (forIn [u,Value.ref b] #[] _) _ _ s
 rw[List.forIn_cons]
 refine wpAny_bind (wpAny_bind ((b3 prog w).pyHash i (wpAny_pure ?_)))
 show wpAny _ _ (forIn [Value.ref b] _ _) _ _ _
 rw[List.forIn_cons]
 refine wpAny_bind (wpAny_bind (wpAny_pyHash_tuple (ks:=x.2) (by show A.units+1<cLine;lia) (show IsTupleKey (b3 prog w) _ x.2 b from t) (wpAny_pure ?_)))
 show wpAny _ _ (forIn ([]:List Value) _ _) _ _ _
 rw[List.forIn_nil]
 refine wpAny_pure ?_
 show wpAny _ _ (retInt (Builtin.Tuple.tupleHashOf [K8 w x.1,tupleKeyHash (b3 prog w) x.2])) _ _ _
 refine wpAny_bind (wpAny_mkInt (wpAny_pure ⟨_,_,rfl,?_⟩))
 rw[show s.toks+(x.2.length+3)=s.toks+1+(x.2.length+1)+1 by lia] at h
 exact h
theorem SK{x y:Key×List Key}{a b:Addr}{Q:Bool->Shared->Prop}(hu:A.units+8<cLine)(hx:um prog w s.heap x a)(hy:um prog w s.heap y b)(h:Q (decide (x=y)) s):wpAny (model prog w) A (eqBool (.ref a) (.ref b)) Q E s:=by
 unfold eqBool
 try with_reducible refine wpAny_holding ?_
 show wpAny _ _ (if (Value.ref a==Value.ref b)=true then _ else _) Q E s
 by_cases ED:(Value.ref a==Value.ref b)=true
 ·rw[if_pos ED]
  have e:a=b:=by have:=eq_of_beq ED;injection this
  subst e
  cases hx.one hy
  exact wpAny_bind (wpAny_rule (wpAny_pure (by simpa using h)))
 ·rw[if_neg ED]
  refine wpAny_bind (wpAny_richCompare_same_room (op:=.Eq) hx.ty hy.ty F.slot_tuple_eq (wpAny_call_entry F.slot_tuple_eq hx.ty F.entry_tuple_eq ?_ (F.args_tuple_eq_2 _ _)) (by lia))
  have hTb:=hy.ty
  obtain⟨o1,n1,u1,b1,e1,c1,d1,i1,t1⟩:=hx
  obtain⟨o2,n2,u2,b2,e2,c2,d2,i2,t2⟩:=hy
  show wpAny _ _ (isInstance (.ref b) (.type "tuple") >>= _) _ _ s
  refine wpAny_bind (wpAny_isInstance hTb isSubtype_tuple_tuple ?_)
  simp only[Bool.not_true,Bool.false_eq_true,if_false]
  refine wpAny_bind (wpAny_tupleItemsOf e1 d1 (wpAny_bind (wpAny_tupleItemsOf e2 d2 (wpAny_bind ?_))))
  show wpAny _ _ (forIn [(u1,u2),(Value.ref b1,Value.ref b2)] _ _) _ _ s
  have fin:∀c:Bool,c=decide (x=y)->∃v,(Fin.done (Flow.ret (Value.bool c)))=Fin.done (Flow.ret v)/\v≠Value.notImplemented/\wpAny (model prog w) A (truthOfDropped v) Q E s:=fun c hc=>⟨_,rfl,(fun z=>nomatch z),wpAny_truthy_bool (hc▸h)⟩
  rw[List.forIn_cons]
  refine wpAny_bind (wpAny_bind ((b3 prog w).eqBool (a:=x.1) (b:=y.1) i1 i2 ?_))
  by_cases k1:x.1=y.1
  ·rw[decide_eq_true k1]
   simp only[Bool.not_true,Bool.false_eq_true,if_false]
   refine wpAny_pure ?_
   show wpAny _ _ (forIn [(Value.ref b1,Value.ref b2)] _ _) _ _ s
   rw[List.forIn_cons]
   refine wpAny_bind (wpAny_bind (wpAny_eqBool_tuple (x:=x.2) (y:=y.2) (by show A.units+1<cLine;lia) t1 t2 ?_))
   by_cases k2:x.2=y.2
   ·rw[decide_eq_true k2]
    simp only[Bool.not_true,Bool.false_eq_true,if_false]
    refine wpAny_pure ?_
    show wpAny _ _ (forIn ([]:List (Value×Value)) _ _) _ _ s
    rw[List.forIn_nil]
    exact wpAny_pure (wpAny_pure (fin true (decide_eq_true (Prod.ext k1 k2)).symm))
   ·rw[decide_eq_false k2]
    simp only[Bool.not_false,if_true]
    exact wpAny_bind (wpAny_pure (wpAny_pure (wpAny_pure (wpAny_pure (fin false (decide_eq_false fun z=>k2 (congrArg Prod.snd z)).symm)))))
  ·rw[decide_eq_false k1]
   simp only[Bool.not_false,if_true]
   exact wpAny_bind (wpAny_pure (wpAny_pure (wpAny_pure (wpAny_pure (fin false (decide_eq_false fun z=>k1 (congrArg Prod.fst z)).symm)))))
theorem Di(m:Nat){l:List Key}{b:Addr}{Q:Bool->Shared->Prop}(hk:IsTupleKey (b3 prog w) s.heap l b)(h:Q true s):wpAny (model prog w) A (eqIsQuiet (m+1) (.ref b)) Q E s:=by
 have ty:=hk.typeIs
 obtain⟨o,bA,n,e,_,d,hi⟩:=hk
 unfold eqIsQuiet
 refine wpAny_bind (wpAny_specialOf ty F.slot_tuple_eq.lookup ((show wpAny _ _ (isInstance (.ref b) (.type "tuple") >>= _) _ _ s from ?_)))
 refine wpAny_bind (wpAny_isInstance ty isSubtype_tuple_tuple ?_)
 simp only[Bool.not_true,Bool.false_eq_true,if_false]
 refine wpAny_bind (wpAny_seqItems e d (wpAny_bind ((show wpAny _ _ (forIn bA _ _) _ _ s from ?_))))
 rw[<- Array.forIn_toList]
 have all:=hi.byValue
 generalize bA.toList=vs at all
 refine wpAny_forIn_list _ (fun r (c:Option Bool×Unit) s'=>c.1=none/\s'=s/\∀v∈r,carriedByValue v=true) _ (fun v r c s' hv=>?_) (fun c s' hv=>?_) _ _ ⟨rfl,rfl,all⟩
 ·obtain⟨_,rfl,hv⟩:=hv
  rw[eqIsQuiet_byValue _ (hv v (List.mem_cons_self ..))]
  refine wpAny_bind (wpAny_pure ?_)
  simp only[Bool.not_true,Bool.false_eq_true,if_false]
  exact wpAny_pure ⟨rfl,rfl,fun z hz=>hv z (List.mem_cons_of_mem _ hz)⟩
 ·obtain⟨c1,c2⟩:=c
  obtain⟨hc,rfl,_⟩:=hv
  cases (show c1=none from hc)
  exact wpAny_pure h
theorem JA{x:Key×List Key}{a:Addr}{Q:Bool->Shared->Prop}(hk:um prog w s.heap x a)(h:Q true s):wpAny (model prog w) A (eqIsQuiet 8 (.ref a)) Q E s:=by
 have ty:=hk.ty
 obtain⟨o,n,u,b,e,c,d,i,t⟩:=hk
 unfold eqIsQuiet
 refine wpAny_bind (wpAny_specialOf ty F.slot_tuple_eq.lookup ((show wpAny _ _ (isInstance (.ref a) (.type "tuple") >>= _) _ _ s from ?_)))
 refine wpAny_bind (wpAny_isInstance ty isSubtype_tuple_tuple ?_)
 simp only[Bool.not_true,Bool.false_eq_true,if_false]
 refine wpAny_bind (wpAny_seqItems e d (wpAny_bind ?_))
 have key:∀ {z:Value} {k:Key} {m:Nat},rF k z=true->eqIsQuiet m z=pure true:=fun {z k m} hz=>eqIsQuiet_byValue m ((b3 prog w).byValue k z hz)
 show wpAny _ _ (forIn #[u,Value.ref b] _ _) _ _ s
 rw[<- Array.forIn_toList]
 show wpAny _ _ (forIn [u,Value.ref b] _ _) _ _ s
 rw[List.forIn_cons,key i]
 refine wpAny_bind (wpAny_bind (wpAny_pure ?_))
 simp only[Bool.not_true,Bool.false_eq_true,if_false]
 refine wpAny_pure ?_
 show wpAny _ _ (forIn [Value.ref b] _ _) _ _ s
 rw[List.forIn_cons]
 refine wpAny_bind (wpAny_bind (Di 6 t ?_))
 simp only[Bool.not_true,Bool.false_eq_true,if_false]
 refine wpAny_pure ?_
 show wpAny _ _ (forIn ([]:List Value) _ _) _ _ s
 rw[List.forIn_nil]
 exact wpAny_pure (wpAny_pure h)
end
def Po (prog:Program) (w:World):HeapKind prog w (Key×List Key) where
 is:=um prog w
 hash:=Jz w prog
 draws:=fun x=>x.2.length+3
 room:=fun A=>A.units+8<cLine
 inj:=fun hx hy=>hx.one hy
 keeps:=fun hx ho hd hs=>hx.kp ho hd hs
 pyHash:=fun hu hk h=>Mg hu hk h
 eqBool:=fun hu hx hy h=>SK hu hx hy h
 quiet:=fun hk h=>JA hk h
end L2
namespace L2
open PySem
def tN (b:Bool):Int:=if b then 1 else 0
def Mh (k:Key) (v:Value):Bool:=match v with
 |.bool b=>decide (k=.inl (tN b))
 |v=>rF k v
theorem fq{k:Key}{v:Value}(h:Mh k v=true):(∃i t,k=.inl i/\v=.int i t)\/(∃x t,k=.inr x/\v=.str x t)\/∃b,k=.inl (tN b)/\v=.bool b:=by
 unfold Mh at h
 split at h
 ·rename_i b
  exact .inr (.inr ⟨b,of_decide_eq_true h,rfl⟩)
 ·rcases dE h with z |z
  ·exact .inl z
  ·exact .inr (.inl z)
theorem JB{a b:Bool}:(tN a==tN b)=(a==b):=by cases a<;>cases b<;>rfl
def SM (prog:Program) (w:World):PySem.KeyKind prog w Key where
 is:=Mh
 hash:=K8 w
 inj:=fun v a b ha hb=>by
  rcases fq ha with ⟨i,t,rfl,rfl⟩ |⟨x,t,rfl,rfl⟩ |⟨c,rfl,rfl⟩<;>rcases fq hb with ⟨j,u,rfl,e⟩ |⟨y,u,rfl,e⟩ |⟨d,rfl,e⟩<;>cases e<;>rfl
 byValue:=fun k v h=>by
  rcases fq h with ⟨i,t,rfl,rfl⟩ |⟨x,t,rfl,rfl⟩ |⟨c,rfl,rfl⟩<;>rfl
 pyHash:=fun hv h=>by
  rcases fq hv with ⟨i,t,rfl,rfl⟩ |⟨x,t,rfl,rfl⟩ |⟨c,rfl,rfl⟩
  ·exact wpAny_pyHash_int h
  ·exact wpAny_pyHash_str h
  ·refine PySem.W.pyHash_slot (T:="bool") rfl F.slot_bool_hash entry_int_hash (args_int_hash _) (beq_builtin_none _) (.inl rfl) ?_
   cases c
   ·exact(show wpAny _ _ (do ret (<- mkInt 0)) _ _ _ from wpAny_bind (wpAny_mkInt (wpAny_pure ⟨_,_,rfl,h⟩)))
   ·exact(show wpAny _ _ (do ret (<- mkInt 1)) _ _ _ from wpAny_bind (wpAny_mkInt (wpAny_pure ⟨_,_,rfl,h⟩)))
 eqBool:=fun hu hv h=>by
  rcases fq hu with ⟨i,t,rfl,rfl⟩ |⟨x,t,rfl,rfl⟩ |⟨c,rfl,rfl⟩
  ·rcases fq hv with ⟨j,u,rfl,rfl⟩ |⟨y,u,rfl,rfl⟩ |⟨d,rfl,rfl⟩
   ·rw[vH] at h;exact wpAny_eqBool_int h
   ·rw[Ca] at h;exact SeqAt.EqAt.int_str i t y u _ _ _ _ h
   ·rw[vH] at h;exact SeqAt.EqAt.int_bool i t d _ _ _ _ h
  ·rcases fq hv with ⟨j,u,rfl,rfl⟩ |⟨y,u,rfl,rfl⟩ |⟨d,rfl,rfl⟩
   ·rw[Cb] at h;exact SeqAt.EqAt.str_int x t j u _ _ _ _ h
   ·rw[G2] at h;exact wpAny_eqBool_str h
   ·rw[Cb] at h;exact SeqAt.EqAt.str_bool x t d _ _ _ _ h
  ·rcases fq hv with ⟨j,u,rfl,rfl⟩ |⟨y,u,rfl,rfl⟩ |⟨d,rfl,rfl⟩
   ·rw[vH] at h;exact SeqAt.EqAt.bool_int c j u _ _ _ _ h
   ·rw[Ca] at h;exact SeqAt.EqAt.bool_str c y u _ _ _ _ h
   ·rw[vH,JB] at h;exact SeqAt.EqAt.bool_bool c d _ _ _ _ h
 «strs»:=fun k x t v h=>by
  rcases fq h with ⟨i,u,rfl,e⟩ |⟨y,u,rfl,e⟩ |⟨d,rfl,e⟩
  ·cases e
  ·cases e
   cases v<;>rfl
  ·cases e
end L2
namespace L2
open PySem
structure KH(κ:Type)[DecidableEq κ] where
 knd:∀(P:Program) (w:World),HeapKind P w κ
 on:PySem.W.Frag->Hp->κ->Addr->Prop
 up:∀ {K:PySem.W.Frag} {H H':Hp} {x:κ} {a:Addr},(∀b ys,c5 K H b ys->c5 K H' b ys)->on K H x a->on K H' x a
 of:∀ {X:Cx} {pins:List (Addr×Obj)} {σ:St} {H:Hp} {s:Shared} {x:κ} {a:Addr},Inv X pins σ H s->on X.K H x a->(knd X.prog X.w).is s.heap x a
 room:∀ {P:Program} {w:World} {A:Around},A.units+16<cLine->(knd P w).room A.in1
section
variable{κ:Type}[DecidableEq κ](J:KH κ)
def kc (P:Program) (w:World) (a:Addr) (xs:List (κ×Addr×Value)):Heap->Prop:=fun h=>∃o es ep,h.get? a=some o/\o.ExactDict/\o.data=.dict es ep/\es.toList=xs.map (entryOfKey (J.knd P w))
abbrev KS (K:PySem.W.Frag) (H:Hp):List (κ×V)->List (κ×Addr×Value)->Prop:=Paired fun p q=>p.1=q.1/\J.on K H p.1 q.2.1/\RelV p.2 q.2.2
structure DS(P:Program)(w:World)(K:PySem.W.Frag)(H:Hp)(a:Addr)(aP:List (κ×V)):Prop where
 len:aP.length<=sizeLine
 sys:(a==sysModules)=false
 at_:∃xs,H a=some (.ext (kc J P w a xs))/\KS J K H aP xs/\(xs.map (·.1)).Nodup
variable{J}
section
variable{K:PySem.W.Frag}{H H':Hp}{aP:List (κ×V)}{xs:List (κ×Addr×Value)}
theorem KS.val(r:KS J K H aP xs)(k:κ):mv (cH aP k) ((atKey xs k).map (·.2)):=by
 induction r with
 |nil=>exact True.intro
 |@cons p q ps qs h t ih=>
  by_cases e:p.1=k
  ·rw[cI e,show atKey (q::qs) k=some q.2 by simp[atKey,h.1.symm.trans e]]
   exact h.2.2
  ·have e':¬q.1=k:=fun z=>e (h.1.trans z)
   rw[cJ e,show atKey (q::qs) k=atKey qs k by simp[atKey,e']]
   exact ih
theorem KS.put(r:KS J K H aP xs)(k:κ){b:Addr}{y:V}{u:Value}(hb:J.on K H k b)(ry:RelV y u):KS J K H (putK aP k y) (storedH xs k b u):=by
 have e:(aP.any fun kv=>decide (kv.1=k))=(atKey xs k).isSome:=by rw[lA,(r.val k).pC,Option.isSome_map]
 unfold putK storedH
 rw[e]
 by_cases q:(atKey xs k).isSome=true
 ·rw[if_pos q,if_pos q]
  clear e q
  induction r with
  |nil=>exact .nil
  |@cons p q ps qs h t ih=>
   refine .cons ?_ ih
   dsimp only
   unfold putAt
   by_cases e:p.1=k
   ·rw[if_pos e]
    rw[if_pos (h.1.symm.trans e)]
    exact⟨h.1,h.2.1,ry⟩
   ·rw[if_neg e]
    rw[if_neg fun z=>e (h.1.trans z)]
    exact h
 ·rw[if_neg q,if_neg q]
  exact Paired.snoc r ⟨rfl,hb,ry⟩
theorem KS.up(r:KS J K H aP xs)(t:∀b ys,c5 K H b ys->c5 K H' b ys):KS J K H' aP xs:=Paired.G3 r fun _ _ z=>⟨z.1,J.up t z.2.1,z.2.2⟩
end
section
variable{X:Cx}{pins:List (Addr×Obj)}{σ:St}{H:Hp}{s:Shared}{a b:Addr}{v:V}{u r:Value}{A:Around}{E:Value->Shared->Prop}{aP:List (κ×V)}{k:κ}
theorem ER(I:Inv X pins σ H s){xs:List (κ×Addr×Value)}(e:H a=some (.ext (kc J X.prog X.w a xs)))(r:KS J X.K H aP xs)(nd:(xs.map (·.1)).Nodup):s.heap.DictOfH (J.knd X.prog X.w) a xs:=by
 obtain⟨⟨o,es,ep,h1,h2,h3,h4⟩, -⟩:=(show dF X.prog X.w H s.heap a (.ext (kc J X.prog X.w a xs)) from I.dU a _ e)
 refine⟨o,es,ep,h1,h2,h3,h4,?_,nd⟩
 clear h4 nd e
 induction r with
 |nil=>intro x hx;cases hx
 |@cons p q ps qs hq t ih=>
  intro x hx
  rcases List.mem_cons.mp hx with rfl |hx
  ·exact J.of I (hq.1▸hq.2.1)
  ·exact ih x hx
theorem SN{Q:Value->Shared->Prop}(hu:A.units+16<cLine)(I:Inv X pins σ H s)(d:DS J X.prog X.w X.K H a aP)(hk:J.on X.K H k b)(h:∀s',Inv X pins σ H s'->Q (.bool (cH aP k).isSome) s') :
 wpAny (model X.prog X.w) A (compareOp .In (.ref b) (.ref a)) Q E s:=by
 obtain⟨z,sy,xs,e,r,nd⟩:=d
 refine wpAny_in_heap (knd:=J.knd X.prog X.w) (J.room hu) (J.of I hk) sy (ER I e r nd) ?_
 have q:=(r.val k).pC
 rw[Option.isSome_map] at q
 rw[<- q]
 exact h _ (I.tok _)
theorem JC{Q:Value->Shared->Prop}(hu:A.units+16<cLine)(I:Inv X pins σ H s)(d:DS J X.prog X.w X.K H a aP)(hk:J.on X.K H k b)(h:∀s',Inv X pins σ H s'->Q (.bool (!(cH aP k).isSome)) s') :
 wpAny (model X.prog X.w) A (compareOp .NotIn (.ref b) (.ref a)) Q E s:=by
 obtain⟨z,sy,xs,e,r,nd⟩:=d
 refine PyProof.Rows.wpAny_notIn_heap (knd:=J.knd X.prog X.w) (J.room hu) (J.of I hk) sy (ER I e r nd) ?_
 have q:=(r.val k).pC
 rw[Option.isSome_map] at q
 rw[<- q]
 exact h _ (I.tok _)
theorem c5.ext{K:PySem.W.Frag}{H:Hp}{a c:Addr}{φ:Heap->Prop}{o:HO}{ys:List V}(h:c5 K H c ys)(e:H a=some (.ext φ)):c5 K (upd H a o) c ys:=by
 rcases h with (q |⟨o',q⟩) |q
 ·exact .inl (.inl (by rw[ay (cR q e (by intro z;cases z))];exact q))
 ·exact .inl (.inr ⟨o',by rw[ay (cR q e (by intro z;cases z))];exact q⟩)
 ·exact .inr q
theorem Pp{Q:Unit->Shared->Prop}(hu:A.units+16<cLine)(I:Inv X pins σ H s)(d:DS J X.prog X.w X.K H a aP)(hk:J.on X.K H k b)(l:aP.length<sizeLine)(rv:RelV v r)
 (h:∀s' H',Inv X pins σ H' s'->DS J X.prog X.w X.K H' a (putK aP k v)->(∃φ,H'=upd H a (.ext φ))->Q () s') :
 wpAny (model X.prog X.w) A (setItem (.ref a) (.ref b) r) Q E s:=by
 obtain⟨z,sy,xs,e,rel,nd⟩:=d
 have hz:xs.length<=sizeLine:=by rw[<- Paired.length rel];exact z
 have hl:(putK aP k v).length<=sizeLine:=by have:=jh aP k v;lia
 refine wpAny_setItem_heap (knd:=J.knd X.prog X.w) (hsz:=hz) (J.room hu) (J.of I hk) (ER I e rel nd) fun h' GU hs=>?_
 obtain⟨q,es,ep,hq,h2,h3,h4,_,h5⟩:=GU
 have ph:kc J X.prog X.w a (storedH xs k b r) h':=⟨q,es,ep,hq,h2,h3,h4⟩
 refine h _ (upd H a (.ext (kc J X.prog X.w a (storedH xs k b r)))) (rT I (by rw[e];exact True.intro) hs ⟨q,hq⟩ ⟨ph,⟨q,hq⟩,fun g1 g2 p1 kp=>?_⟩) ⟨hl,sy,_,ai,(rel.put k hk rv).up fun c ys ec=>ec.ext e,h5⟩ ⟨_,rfl⟩
 obtain⟨o,es,ep,h1,h2,h3,h4⟩:=p1
 exact⟨o,es,ep,kp o h1,h2,h3,h4⟩
end
theorem DS.NJ{P:Program}{w:World}{K:PySem.W.Frag}{H H':Hp}{a:Addr}{aP:List (κ×V)}(d:DS J P w K H a aP)(e:∀o,H a=some o->H' a=some o)(t:∀b ys,c5 K H b ys->c5 K H' b ys):DS J P w K H' a aP:=⟨d.len,d.sys,let ⟨xs,h,r,nd⟩:=d.at_;⟨xs,e _ h,r.up t,nd⟩⟩
theorem DS.mono{P:Program}{w:World}{K:PySem.W.Frag}{H H':Hp}{a:Addr}{aP:List (κ×V)}(d:DS J P w K H a aP)(s:av H H'):DS J P w K H' a aP:=d.NJ (fun o h=>s _ _ h) fun b ys q=>s.bD q
section
variable{X:Cx}{o i value:Expr}{pos pos':Pos}{td ty tv:TE}
def Dj (J:KH κ) (P:Program) (w:World):TE:=fun _ H Q=>∀p,H p=none->(p==sysModules)=false->Q (.ref p) (upd H p (.ext (kc J P w p [])))
theorem zw{P:Program}{w:World}{K:PySem.W.Frag}{H:Hp}{p:Addr}(h:(p==sysModules)=false):DS J P w K (upd H p (.ext (kc J P w p []))) p []:=⟨Nat.zero_le _,h,[],ai,.nil,List.nodup_nil⟩
theorem sI:PE X (.Dict [] [] pos) (Dj J X.prog X.w):=fun pins s σ H Q I h=>by
 have big:=I.big
 refine wpAny_Dict_empty ⟨.ref s.heap.objs.size,_,I.laid (a:=s.heap.objs.size) (o:=.ext (kc J X.prog X.w s.heap.objs.size [])) (t':=s.toks) (fun _ _ q=>Heap.get?_push_of_some _ q) (Nat.le_refl _) ⟨⟨_, #[],0,Heap.get?_push_size _ rfl,⟨rfl,rfl,rfl⟩,rfl,rfl⟩,⟨_,Heap.get?_push_size _ rfl⟩,fun g1 g2 p1 kp=>?_⟩,rfl,h _ (I.dU.fresh (Nat.le_refl _)) (beq_eq_false_iff_ne.mpr (Ne.symm (Nat.ne_of_lt big)))⟩
 obtain⟨ob,es,ep,h1,h2,h3,h4⟩:=p1
 exact⟨ob,es,ep,kp ob h1,h2,h3,h4⟩
theorem JD(hu:X.A.units+16<cLine):qd X (compareOp .In) (fun x y H Q=>∃(a b:Addr) (aP:List (κ×V)) (k:κ),x=.ref b/\y=.ref a/\DS J X.prog X.w X.K H a aP/\J.on X.K H k b/\Q (.bl (cH aP k).isSome) H):=by
 intro pins s σ H x y v u Q I rx ry h
 obtain⟨a,b,aP,k,rfl,rfl,d,hk,q⟩:=h
 cases rx
 cases ry
 exact SN hu I d hk fun s' I'=>⟨.bl (cH aP k).isSome,H,I',rfl,q⟩
theorem Gj(hu:X.A.units+16<cLine):qd X (compareOp .NotIn) (fun x y H Q=>∃(a b:Addr) (aP:List (κ×V)) (k:κ),x=.ref b/\y=.ref a/\DS J X.prog X.w X.K H a aP/\J.on X.K H k b/\Q (.bl (!(cH aP k).isSome)) H):=by
 intro pins s σ H x y v u Q I rx ry h
 obtain⟨a,b,aP,k,rfl,rfl,d,hk,q⟩:=h
 cases rx
 cases ry
 exact JC hu I d hk fun s' I'=>⟨.bl (!(cH aP k).isSome),H,I',rfl,q⟩
def Dl (J:KH κ) (P:Program) (w:World) (K:PySem.W.Frag) (td ty tv:TE):TS:=fun D σ H=>tv σ H fun v H1=>td σ H1 fun x H2=>ty σ H2 fun y H3=>∃(a b:Addr) (aP:List (κ×V)) (k:κ),x=.ref a/\y=.ref b/\DS J P w K H3 a aP/\J.on K H3 k b/\aP.length<sizeLine/\
 ∀H4,DS J P w K H4 a (putK aP k v)->(∃φ,H4=upd H3 a (.ext φ))->D.nx σ H4
theorem wH(hu:X.A.units+16<cLine)(ho:PE X o td)(hi:PE X i ty)(hv:PE X value tv)(hs:swapsWith value (some (.Subscript o i pos')) pos.line X.env=pure false):PS X (.Assign [.Subscript o i pos'] value pos) (Dl J X.prog X.w X.K td ty tv):=by
 intro pins s σ H D I h
 refine wpAny_Assign_Subscript (fA (hv pins s σ H _ I h) fun r s1 zqz=>?_) hs
 obtain⟨v,H1,I1,rv,q1⟩:=zqz
 refine fA (ho pins s1 σ H1 _ I1 q1) fun u s2 zqz=>?_
 obtain⟨x,H2,I2,rx,q2⟩:=zqz
 refine fA (hi pins s2 σ H2 _ I2 q2) fun iv s3 zqz=>?_
 obtain⟨y,H3,I3,ry,a,b,aP,k,ex,ey,d,hk,l,q3⟩:=zqz
 subst ex ey
 cases rx
 cases ry
 exact Pp hu I3 d hk l rv fun s4 H4 I4 d4 e4=>⟨σ,H4,I4,q3 H4 d4 e4⟩
def JE (J:KH κ) (P:Program) (w:World) (K:PySem.W.Frag) (td ty:TE):TE:=fun σ H Q=>td σ H fun x H1=>ty σ H1 fun y H2=>∃(a b:Addr) (aP:List (κ×V)) (k:κ) (v:V),x=.ref a/\y=.ref b/\DS J P w K H2 a aP/\J.on K H2 k b/\cH aP k=some v/\Q v H2
end
end
end L2
namespace L2
open PySem
abbrev Gk:=Key×List Key
def SkH (K:PySem.W.Frag) (H:Hp) (x:Gk) (a:Addr):Prop:=∃b,c5 K H a [kV x.1,.ref b]/\c5 K H b (x.2.map kV)
def vj:KH Gk where
 knd:=Po
 on:=SkH
 up:=fun t ⟨b,h1,h2⟩=>⟨b,t _ _ h1,t _ _ h2⟩
 of:=fun {X pins σ H s x a} I ⟨c,h1,h2⟩=>by
  obtain⟨i1,r1,⟨o1,e1,c1,n1,d1⟩,_⟩:=I.tuple h1
  obtain⟨i2,r2,⟨o2,e2,c2,n2,d2⟩,_⟩:=I.tuple h2
  obtain⟨u1,u2,rfl,q1,q2⟩:=vals2 r1
  cases (show u2=Value.ref c from q2)
  exact⟨o1,n1,u1,c,e1,c1,d1,vQ (P:=X.prog) (w:=X.w) q1,o2,i2.toArray,n2,e2,c2,d2,by simpa using tZ r2⟩
 room:=fun {P w A} h=>by show A.units+1+8<cLine;lia
def Uy (k:Key) (v:V):Prop:=v=kV k\/∃b,v=.bl b/\k=.inl (tN b)
theorem Mi{k:Key}{v:V}{u:Value}(h:Uy k v)(r:RelV v u):Mh k u=true:=by
 rcases h with rfl |⟨b,rfl,rfl⟩
 ·cases k with
  |inl i=>obtain⟨t,rfl⟩:=(show ∃t,u=Value.int i t from r);exact xR i t
  |inr x=>obtain⟨t,rfl⟩:=(show ∃t,u=Value.str x t from r);exact xS x t
 ·cases (show u=Value.bool b from r)
  exact decide_eq_true rfl
theorem JF{P:Program}{w:World}:∀ {ks:List Key} {vs:List V} {us:List Value},Paired Uy ks vs->Vals vs us->ItemsAre (SM P w) ks us
 |_,_,_,.nil,r=>by cases r;exact .nil
 |_,_,_,.cons h t,r=>by
  cases r with
  |cons r1 r2=>exact .cons (Mi h r1) (JF t r2)
def Gm:KH (List Key) where
 knd:=fun P w=>tupleKind (SM P w)
 on:=fun K H x a=>∃vs,c5 K H a vs/\Paired Uy x vs
 up:=fun t ⟨vs,h1,h2⟩=>⟨vs,t _ _ h1,h2⟩
 of:=fun {X pins σ H s x a} I ⟨vs,h1,h2⟩=>by
  obtain⟨i1,r1,⟨o1,e1,c1,n1,d1⟩,_⟩:=I.tuple h1
  exact⟨o1,i1.toArray,n1,e1,c1,d1,by simpa using JF h2 r1⟩
 room:=fun {P w A} h=>by show A.units+1<cLine;lia
end L2
namespace L2
open PySem
def lP (h:Heap) (d:Addr) (es:Array DictEntry) (ep:Nat):Prop:=∃o,h.get? d=some o/\o.ExactDict/\o.data=.dict es ep
section
variable{prog:Program}{w:World}{A:Around}{E:Value->Shared->Prop}{s:Shared}{d it:Addr}{es:Array DictEntry}{ep i:Nat}
theorem lP.ty(x:lP s.heap d es ep):s.TypeIs (.ref d) "dict":=let ⟨o,g,c,_⟩:=x;⟨o,g,c.1⟩
theorem lP.NJ{h h':Heap}(x:lP h d es ep)(e:∀o,h.get? d=some o->h'.get? d=some o):lP h' d es ep:=let ⟨o,g,r⟩:=x;⟨o,e _ g,r⟩
theorem lP.lt{h:Heap}(x:lP h d es ep):d<h.objs.size:=let ⟨_,g,_⟩:=x;Heap.lt_size g
theorem JG{Q:Value->Shared->Prop}(hd:(d==sysModules)=false)(x:lP s.heap d es ep)
 (q:Q (.ref s.heap.objs.size) {s with heap:=s.heap.push {cls:=.type "dict_keyiterator",data:=.fields #[.ref d,.int 0 0,.int es.size 0,.int ep 0]} }):wpAny (model prog w) A (pyIter (.ref d)) Q E s:=by
 have WB:=x.ty
 obtain⟨od,gd,cd,dd⟩:=x
 refine wpAny_pyIter_slot WB F.slot_dict_iter (wpAny_call_entry F.slot_dict_iter WB F.entry_dict_iter ?_ (F.args_dict_iter_1 _))
 unfold Builtin.«dict.__iter__» Builtin.Dict.dictSlotNone
 refine wpAny_bind (wpAny_bind (wpAny_notOrdered_dict WB ?_))
 show wpAny _ _ (pure (Value.ref d)) _ _ s
 refine wpAny_pure ?_
 show wpAny _ _ (Builtin.Dict.showsAll d >>= _) _ _ s
 unfold Builtin.Dict.showsAll
 rw[if_neg (by rw[hd];exact Bool.false_ne_true)]
 refine wpAny_bind (wpAny_pure (wpAny_bind (wpAny_dictEntries gd dd (wpAny_bind (wpAny_dictEpoch gd dd ?_)))))
 refine wpAny_bind (wpAny_newObj_type (wpAny_pure ⟨_,rfl, "dict_keyiterator",_,⟨_,Heap.get?_push_size _ rfl,rfl⟩,F.slot_dict_keyiterator_next.lookup,?_⟩))
 simpa[rawInt] using q
theorem JH{Q:Option Value->Shared->Prop}(x:s.heap.IsKeyIter it d i es.size ep)(y:lP s.heap d es ep)(li:i<es.size)
 (q:∀h',h'.IsKeyIter it d (i+1) es.size ep->Heap.SameBut it s.heap h'->Q (some es[i].key) {s with heap:=h' }):wpAny (model prog w) A (pyNext (.ref it)) Q E s:=by
 have KY:=x.typeIs
 obtain⟨oi,gi,ci,di⟩:=id x
 obtain⟨od,gd,_,dd⟩:=id y
 have ow:Builtin.Dict_items.ownsTuple "dict_keyiterator"=false:=by decide
 unfold pyNext
 refine wpAny_bind (wpAny_attempt (wpAny_callSpecial?_slot (name:=Str.ofString "__next__") KY F.slot_dict_keyiterator_next (wpAny_call_entry F.slot_dict_keyiterator_next KY F.entry_dict_keyiterator_next ?_ (F.args_dict_keyiterator_next_1 _))))
 refine wpAny_bind (wpAny_pure (wpAny_bind (wpAny_bind ?_)))
 refine wpAny_bind (wpAny_typeNameOfWhole_keyiter KY (wpAny_pure (wpAny_bind (wpAny_fieldsOf gi di ?_))))
 simp only[ow,Bool.false_eq_true,if_false]
 show wpAny _ _ (if (Value.ref d==Value.none)=true then _ else _) _ _ s
 rw[if_neg (show ¬((Value.ref d==Value.none)=true) from Bool.false_ne_true)]
 refine wpAny_bind (wpAny_pure (wpAny_bind (wpAny_dictEntries gd dd ?_)))
 rw[if_neg (by simp)]
 refine wpAny_bind (wpAny_pure (wpAny_bind (wpAny_dictEpoch gd dd ?_)))
 rw[if_neg (by simp)]
 refine wpAny_pure ?_
 simp only[show ¬((i:Int)<0) from by lia,if_false,Int.toNat_natCast,Array.getElem?_eq_getElem li]
 refine wpAny_bind (wpAny_bind (wpAny_typeNameOfWhole_keyiter KY (wpAny_pure (wpAny_bind (wpAny_isOneOf_keyiter KY ?_)))))
 show wpAny _ _ (setField (.ref it) 1 (rawInt ((i:Int)+1)) >>= _) _ _ s
 refine wpAny_bind (wpAny_setField gi di (by simp) ?_)
 have z:(s.heap.update it (Obj.mapFields (·.setIfInBounds 1 (rawInt ((i:Int)+1))))).IsKeyIter it d (i+1) es.size ep:=
  ⟨_,Heap.get?_update_self _ gi (Obj.isFreed_of_fields (Obj.data_mapFields di _)),(Obj.cls_mapFields ..).trans ci,by rw[Obj.data_mapFields di];simp[rawInt]⟩
 refine wpAny_bind (wpAny_holding (wpAny_bind (wpAny_isOneOf_keyiter (s:={s with heap:=s.heap.update it (Obj.mapFields (·.setIfInBounds 1 (rawInt ((i:Int)+1))))}) z.typeIs ?_)))
 show wpAny _ _ (pure es[i].key) _ _ _
 exact wpAny_pure (wpAny_pure ⟨_,rfl,wpAny_pure (q _ z (Heap.SameBut.update ..))⟩)
theorem Mj{Q:Option Value->Shared->Prop}(hA:A.handled=none)(x:s.heap.IsKeyIter it d i es.size ep)(y:lP s.heap d es ep)(li:es.size<=i)
 (q:∀h',Heap.ExtBut it s.heap h'->Q none {s with heap:=h' }):wpAny (model prog w) A (pyNext (.ref it)) Q E s:=by
 have KY:=x.typeIs
 obtain⟨oi,gi,ci,di⟩:=id x
 obtain⟨od,gd,_,dd⟩:=id y
 have ow:Builtin.Dict_items.ownsTuple "dict_keyiterator"=false:=by decide
 unfold pyNext
 refine wpAny_bind (wpAny_attempt (wpAny_callSpecial?_slot (name:=Str.ofString "__next__") KY F.slot_dict_keyiterator_next (wpAny_call_entry F.slot_dict_keyiterator_next KY F.entry_dict_keyiterator_next ?_ (F.args_dict_keyiterator_next_1 _))))
 refine wpAny_bind (wpAny_pure (wpAny_bind (wpAny_bind ?_)))
 refine wpAny_bind (wpAny_typeNameOfWhole_keyiter KY (wpAny_pure (wpAny_bind (wpAny_fieldsOf gi di ?_))))
 simp only[ow,Bool.false_eq_true,if_false]
 show wpAny _ _ (if (Value.ref d==Value.none)=true then _ else _) _ _ s
 rw[if_neg (show ¬((Value.ref d==Value.none)=true) from Bool.false_ne_true)]
 refine wpAny_bind (wpAny_pure (wpAny_bind (wpAny_dictEntries gd dd ?_)))
 rw[if_neg (by simp)]
 refine wpAny_bind (wpAny_pure (wpAny_bind (wpAny_dictEpoch gd dd ?_)))
 rw[if_neg (by simp)]
 refine wpAny_pure ?_
 simp only[show ¬((i:Int)<0) from by lia,if_false,Int.toNat_natCast,Array.getElem?_eq_none li]
 refine wpAny_bind (wpAny_bind (wpAny_typeNameOfWhole_keyiter KY (wpAny_pure ?_)))
 show wpAny _ _ (setField (.ref it) 0 .none >>= _) _ _ s
 refine wpAny_bind (wpAny_setField gi di (by simp) ?_)
 show wpAny _ _ (newExc (.type "StopIteration") [] >>= _) _ _ _
 refine wpAny_bind ?_
 simp only[newExc,newTuple]
 refine wpAny_bind (wpAny_newObj_type (wpAny_bind (m:=firstArgMember _ _) (wpAny_of_eq (a:=Value.none) (by first |rfl |(simp only[firstArgMember];rfl)) (wpAny_newObj_type ?_ (by size_fits)))) (by size_fits))
 simp only[raiseNew]
 refine wpAny_bind (wpAny_handled ?_)
 rw[show A.in1.handled=none from hA]
 refine wpAny_bind (wpAny_pure (wpAny_throw (wpAny_bind ?_)))
 refine wpAny_isInstance (T:="StopIteration") (b:=true) ⟨_,Heap.get?_push_size _ rfl,rfl⟩ isSubtype_stop ?_
 exact wpAny_pure (q _ (((Heap.SameBut.update ..).extBut.push _).push _))
theorem Gn(hA:A.handled=none)(I d:Addr)(n:d≠I)(es:Array DictEntry)(ep:Nat):Walks prog w A I [I,d] [I] es.size (fun i v=>∃e,es[i]?=some e/\v=e.key) (fun i h=>h.IsKeyIter I d i es.size ep/\lP h d es ep) where
 sub:=fun b hb=>List.mem_cons.mpr (.inl (List.mem_singleton.mp hb))
 frame:=fun _ _ _ z k=>⟨z.1.at fun o e=>k I (by simp) o e,z.2.NJ fun o e=>k d (by simp) o e⟩
 item:=fun i s Q E hi z q=>JH z.1 z.2 hi fun h' a b=>q _ h' s.toks ⟨_,Array.getElem?_eq_getElem hi,rfl⟩ ⟨a,z.2.NJ fun o e=>b.extBut d o n e⟩ fun c o nc e=>b.extBut c o (fun h=>nc (by simp[h])) e
 done:=fun s Q E z q=>Mj hA z.1 z.2 (Nat.le_refl _) fun h' a=>q h' s.toks fun c o nc e=>a c o (fun h=>nc (by simp[h])) e
 self:=fun _ _ _ _ z q=>wpAny_pyIter_keyiter z.1 q
theorem Ml(lo:(d==sysModules)=false):PySem.W.KdlSrc prog w "dict" d d es.size (fun i v=>∃e,es[i]?=some e/\v=e.key) (fun h=>lP h d es ep) where
 type:=fun _ m=>m.ty
 there:=fun _ m=>⟨m.lt,m.lt⟩
 keep:=fun _ _ m k=>m.NJ fun o e=>k d (.inl rfl) o e
 notList:=by decide
 notTuple:=by decide
 hint:=fun _ _ _ _ m q=>PySem.W.kdl_hint_dict m.ty q
 iter:=fun _ _ hA m=>⟨_,_,(fun _ _ q=>JG lo m q),Gn hA _ d (Nat.ne_of_lt m.lt) es ep,⟨⟨_,Heap.get?_push_size _ rfl,rfl,rfl⟩,m.NJ fun o e=>Heap.get?_push_of_some _ e⟩⟩
end
section
variable{κ:Type}[DecidableEq κ]{J:KH κ}{X:Cx}
theorem wI(hc:X.calm=true):qe X (.type "list") (fun xs H Q=>∃(a:Addr) (aP:List (κ×V)),xs=[.ref a]/\DS J X.prog X.w X.K H a aP/\∀l us,H l=none->Paired (fun (p:κ×V) (v:V)=>∃b,v=.ref b/\J.on X.K H p.1 b) aP us->Q (.ref l) (upd H l (.lst us))):=by
 intro pins s σ H xs us Q I r h
 obtain⟨a,aP,rfl,⟨z,sy,ks,e,rel,nd⟩,q⟩:=h
 obtain⟨u,rfl,ru⟩:=vals1 r
 cases (show u=Value.ref a from ru)
 obtain⟨o,es,ep,h1,h2,h3,h4,_,_⟩:=ER I e rel nd
 have le:es.size=aP.length:=by rw[<- Array.length_toList,h4,List.length_map,Paired.length rel]
 have hA:X.A.handled=none:=I.ok.hd hc
 refine PySem.W.kdl_call (Ml sy) hA (⟨o,h1,h2,h3⟩:lP s.heap a es ep) (by rw[le];exact z) fun h' tk acc c kp gl it=>?_
 have key:∀(aP:List (κ×V)) (ks:List (κ×Addr×Value)),KS J X.K H aP ks->Paired (fun (p:κ×V) (v:V)=>∃b,v=.ref b/\J.on X.K H p.1 b) aP (ks.map fun k=>V.ref k.2.1)/\Vals (ks.map fun k=>V.ref k.2.1) (ks.map fun k=>Value.ref k.2.1):=fun aP ks r=>by
  induction r with
  |nil=>exact⟨.nil,.nil⟩
  |cons x _ ih=>exact⟨.cons ⟨_,rfl,x.2.1⟩ ih.1,.cons rfl ih.2⟩
 obtain⟨k1,k2⟩:=key _ _ rel
 have ea:acc.toList=ks.map fun k=>Value.ref k.2.1:=by
  have l1:acc.toList.length=ks.length:=by rw[Array.length_toList,it.1,<- Array.length_toList,h4,List.length_map]
  refine List.ext_getElem? fun j=>?_
  by_cases hj:j<ks.length
  ·have YV:j<acc.size:=by rw[<- Array.length_toList,l1];exact hj
   obtain⟨e,he,hv⟩:=it.2 j acc[j] (Array.getElem?_eq_getElem YV)
   rw[<- Array.getElem?_toList,h4,List.getElem?_map,List.getElem?_eq_getElem hj] at he
   cases he
   rw[Array.getElem?_toList,Array.getElem?_eq_getElem YV,hv,List.getElem?_map,List.getElem?_eq_getElem hj]
   rfl
  ·rw[List.getElem?_eq_none (by lia),List.getElem?_eq_none (by rw[List.length_map];lia)]
 refine⟨.ref s.heap.objs.size,_,I.laid (t':=tk) kp (Nat.le_refl _) (show dF X.prog X.w _ h' _ (.lst (ks.map fun k=>V.ref k.2.1)) from ⟨?_,acc.toList,c,by rw[ea];exact k2,by simpa using gl⟩),rfl,q _ _ (I.dU.fresh (Nat.le_refl _)) k1⟩
 rw[List.length_map,<- Paired.length rel]
 exact z
end
end L2
namespace PG
section
variable{β:Type}(ask:Int->Bool)(step:Int->List Int->Int->Option (Int×List Int)×Option Int)(tg:Int×List Int->List β)
abbrev gK:=Int×List Int
def rA (x:gK×List Int):Option (gK×List Int):=if x.1.1=0 then none else match take1 (ask x.1.1) x.2 with
 |none=>none
 |some (f,r)=>(step x.1.1 x.1.2 f).1.map fun y=>(y,r)
inductive Met:gK×List Int->β->Prop
 |here {s t}:t∈tg s.1->Met s t
 |on {s s' t}:rA ask step s=some s'->Met s' t->Met s t
variable{ask step tg}
theorem lQ{s:gK}{l:List Int}(h0:s.1≠0)(ha:ask s.1=false):rA ask step (s,l)=(step s.1 s.2 0).1.map fun y=>(y,l):=by
 unfold rA
 rw[if_neg h0]
 simp only[take1,ha,Bool.false_eq_true,if_false]
theorem ES{s:gK}{f:Int}{l:List Int}(h0:s.1≠0)(ha:ask s.1=true):rA ask step (s,f::l)=(step s.1 s.2 f).1.map fun y=>(y,l):=by
 unfold rA
 rw[if_neg h0]
 simp only[take1,ha,if_true]
theorem ET{s:gK}(ha:ask s.1=true):rA ask step (s,[])=none:=by
 unfold rA
 split
 ·rfl
 ·simp only[take1,ha,if_true]
theorem wJ{s:gK}{l:List Int}(h0:s.1=0):rA ask step (s,l)=none:=by
 unfold rA
 rw[if_pos h0]
structure MI(ask:Int->Bool)(step:Int->List Int->Int->Option (Int×List Int)×Option Int)(tg:Int×List Int->List β)(s0:gK×List Int)(ms:List β)(seen:List gK)(s:gK×List Int):Prop where
 a:∀t,Met ask step tg s0 t->t∈ms\/Met ask step tg s t
 b:∀t∈ms,Met ask step tg s0 t
 c:∀t,Met ask step tg s t->Met ask step tg s0 t
 d:∀x∈seen,(∀t∈tg x,t∈ms)/\x.1≠0/\ask x.1=false/\∀y,(step x.1 x.2 0).1=some y->y∈seen\/y=s.1
variable{s0 s s':gK×List Int}{ms Gp:List β}{seen:List gK}
theorem MI.start:MI ask step tg s0 [] [] s0:=⟨fun t h=>.inr h,fun t h=>(by cases h),fun t h=>h,fun x h=>(by cases h)⟩
theorem Mn(h:rA ask step s=none){t:β}(m:Met ask step tg s t):t∈tg s.1:=by
 cases m with
 |here m=>exact m
 |on e _=>rw[h] at e;cases e
theorem MI.fin(h:MI ask step tg s0 ms seen s)(hm:∀t,t∈Gp↔t∈ms\/t∈tg s.1)(he:rA ask step s=none\/s.1∈seen)(t:β):t∈Gp↔Met ask step tg s0 t:=by
 rw[hm]
 refine⟨fun z=>z.elim (h.b t) fun z=>h.c t (.here z),fun z=>?_⟩
 rcases h.a t z with z |z
 ·exact .inl z
 rcases he with he |he
 ·exact .inr (Mn he z)
 ·have key:∀s' t,Met ask step tg s' t->s'.1∈seen->t∈ms:=by
   intro s' t m
   induction m with
   |here m=>exact fun q=>(h.d _ q).1 _ m
   |@on a b t e _ ih=>
    intro q
    obtain⟨_,h0,ha,hs⟩:=h.d _ q
    obtain⟨a1,a2⟩:=a
    rw[lQ h0 ha] at e
    obtain⟨y,hy,rfl⟩:=Option.map_eq_some_iff.mp e
    rcases hs y hy with q2 |rfl
    ·exact ih q2
    ·exact ih he
  exact .inl (key _ _ z he)
theorem MI.next(h:MI ask step tg s0 ms seen s)(hm:∀t,t∈Gp↔t∈ms\/t∈tg s.1)(hn:rA ask step s=some s'\/rA ask step s=none/\s'=s) :
 (∀t,Met ask step tg s0 t->t∈Gp\/Met ask step tg s' t)/\(∀t∈Gp,Met ask step tg s0 t)/\∀t,Met ask step tg s' t->Met ask step tg s0 t:=by
 refine⟨fun t m=>?_,fun t m=>?_,fun t m=>?_⟩
 ·rw[hm]
  rcases h.a t m with z |z
  ·exact .inl (.inl z)
  ·rcases hn with hn |⟨hn,rfl⟩
   ·cases z with
    |here z=>exact .inl (.inr z)
    |on e z=>rw[hn] at e;cases e;exact .inr z
   ·exact .inr z
 ·rcases(hm t).mp m with z |z
  ·exact h.b t z
  ·exact h.c t (.here z)
 ·rcases hn with hn |⟨hn,rfl⟩
  ·exact h.c t (.on hn m)
  ·exact h.c t m
theorem MI.asked(h:MI ask step tg s0 ms seen s)(hm:∀t,t∈Gp↔t∈ms\/t∈tg s.1)(hn:rA ask step s=some s'\/rA ask step s=none/\s'=s):MI ask step tg s0 Gp [] s':=
 let ⟨a,b,c⟩:=h.next hm hn
 ⟨a,b,c,fun x q=>(by cases q)⟩
theorem MI.go(h:MI ask step tg s0 ms seen s)(hm:∀t,t∈Gp↔t∈ms\/t∈tg s.1)(hn:rA ask step s=some s'\/rA ask step s=none/\s'=s)(h0:s.1.1≠0)(ha:ask s.1.1=false):MI ask step tg s0 Gp (seen++[s.1]) s':=by
 obtain⟨a,b,c⟩:=h.next hm hn
 refine⟨a,b,c,fun x q=>?_⟩
 rcases List.mem_append.mp q with q |q
 ·obtain⟨d1,d2,d3,d4⟩:=h.d x q
  refine⟨fun t m=>(hm t).mpr (.inl (d1 t m)),d2,d3,fun y hy=>.inl ?_⟩
  rcases d4 y hy with z |rfl
  ·exact List.mem_append_left _ z
  ·exact List.mem_append_right _ (List.mem_singleton.mpr rfl)
 ·cases List.mem_singleton.mp q
  refine⟨fun t m=>(hm t).mpr (.inr m),h0,ha,fun y hy=>.inr ?_⟩
  obtain⟨s1,s2⟩:=s
  rw[lQ h0 ha,hy] at hn
  rcases hn with hn |⟨hn,_⟩
  ·cases hn;rfl
  ·cases hn
theorem Mo(hk:∀row vals f,ask row=true->(step row vals f).1≠none){row:Int}{vals left:List Int}(h:row≠0) :
 (rA ask step ((row,vals),left)=some (((xv ask step row vals left).2.2.1,(xv ask step row vals left).2.2.2.1),(xv ask step row vals left).2.1)/\(xv ask step row vals left).2.2.2.2=endAt (xv ask step row vals left).2.2.1/\(ask row=true->(xv ask step row vals left).2.1.length<left.length)/\(ask row=false->(xv ask step row vals left).2.1=left))\/
 (rA ask step ((row,vals),left)=none/\(((xv ask step row vals left).2.2.1,(xv ask step row vals left).2.2.2.1),(xv ask step row vals left).2.1)=((row,vals),left)/\∃e,(xv ask step row vals left).2.2.2.2=some e):=by
 cases ha:ask row with
 |false=>
  rw[lQ (s:=(row,vals)) h ha]
  unfold xv
  simp only[take1,ha,Bool.false_eq_true,if_false]
  rcases hs:step row vals 0 with ⟨o,sd⟩
  cases o with
  |none=>exact .inr ⟨rfl,rfl,_,rfl⟩
  |some x=>exact .inl ⟨rfl,rfl,fun z=>absurd z (by simp),fun _=>rfl⟩
 |true=>
  cases left with
  |nil=>
   rw[ET (s:=(row,vals)) ha]
   unfold xv
   simp only[take1,ha,if_true]
   exact .inr ⟨trivial,trivial,_,rfl⟩
  |cons f l=>
   rw[ES (s:=(row,vals)) h ha]
   have:=hk row vals f ha
   unfold xv
   simp only[take1,ha,if_true]
   rcases hs:step row vals f with ⟨o,sd⟩
   cases o with
   |none=>rw[hs] at this;exact absurd rfl this
   |some x=>exact .inl ⟨rfl,rfl,fun _=>(by simp),fun z=>(by cases z)⟩
structure Seg(ask:Int->Bool)(step:Int->List Int->Int->Option (Int×List Int)×Option Int)(s:gK)(g:List gK):Prop where
 head:g[0]?=some s
 mid:∀i (h:i+1<g.length),g[i].1≠0/\ask g[i].1=false/\(step g[i].1 g[i].2 0).1=some g[i+1]
 last:∀x,g.getLast?=some x->x.1=0\/ask x.1=true\/(step x.1 x.2 0).1=none\/∃y∈g,(step x.1 x.2 0).1=some y
section
variable{s:gK}{g:List gK}{l:List Int}
theorem Seg.nx(h:Seg ask step s g)(i:Nat)(hi:i+1<g.length):rA ask step (g[i],l)=some (g[i+1],l):=by
 obtain⟨h0,ha,e⟩:=h.mid i hi
 rw[lQ h0 ha,e]
 rfl
theorem Seg.up(h:Seg ask step s g):∀(i:Nat) (hi:i<g.length) (t:β),Met ask step tg (g[i],l) t->Met ask step tg (s,l) t
 |0,hi,t,m=>by
  have:=h.head
  rw[List.getElem?_eq_getElem hi] at this
  cases this
  exact m
 |i+1,hi,t,m=>h.up i (by lia) t (.on (h.nx i hi) m)
theorem Seg.met(h:Seg ask step s g){x:gK}(hx:x∈g){t:β}(ht:t∈tg x):Met ask step tg (s,l) t:=by
 obtain⟨i,hi,rfl⟩:=List.mem_iff_getElem.mp hx
 exact h.up i hi t (.here ht)
theorem Seg.EU{x:gK}(hx:g.getLast?=some x):∃hi:g.length-1<g.length,g[g.length-1]=x:=by
 rw[List.getLast?_eq_getElem?] at hx
 exact List.getElem?_eq_some_iff.mp hx
theorem Seg.all(h:Seg ask step s g){t:β}(m:Met ask step tg (s,l) t):(∃x∈g,t∈tg x)\/∃x s',g.getLast?=some x/\x.1≠0/\ask x.1=true/\rA ask step (x,l)=some s'/\Met ask step tg s' t:=by
 have key:∀s' t,Met ask step tg s' t->s'.2=l->s'.1∈g->(∃x∈g,t∈tg x)\/∃x s',g.getLast?=some x/\x.1≠0/\ask x.1=true/\rA ask step (x,l)=some s'/\Met ask step tg s' t:=by
  intro s' t m
  induction m with
  |here m=>exact fun _ q=>.inl ⟨_,q,m⟩
  |@on a b t e mm ih=>
   intro el q
   obtain⟨a1,a2⟩:=a
   simp only at el q
   subst el
   obtain⟨i,hi,rfl⟩:=List.mem_iff_getElem.mp q
   by_cases hl:i+1<g.length
   ·rw[h.nx i hl] at e
    cases e
    exact ih rfl (List.getElem_mem hl)
   ·have ei:g.length-1=i:=by lia
    have hx:g.getLast?=some g[i]:=by rw[List.getLast?_eq_getElem?,ei,List.getElem?_eq_getElem hi]
    by_cases h0:g[i].1=0
    ·rw[wJ h0] at e;cases e
    cases ha:ask g[i].1 with
    |true=>exact .inr ⟨_,_,hx,h0,ha,e,mm⟩
    |false=>
     rw[lQ h0 ha] at e
     rcases h.last _ hx with z |z |z |⟨y,hy,z⟩
     ·exact absurd z h0
     ·rw[ha] at z;cases z
     ·rw[z] at e;cases e
     ·rw[z] at e;cases e;exact ih rfl hy
 refine key _ _ m rfl ?_
 exact List.mem_iff_getElem?.mpr ⟨0,h.head⟩
end
structure LI(ask:Int->Bool)(step:Int->List Int->Int->Option (Int×List Int)×Option Int)(tg:Int×List Int->List β)(s0:gK×List Int)(ms:List β)(o:Option gK)(l:List Int):Prop where
 a:∀t,Met ask step tg s0 t->t∈ms\/∃s,o=some s/\Met ask step tg (s,l) t
 b:∀t∈ms,Met ask step tg s0 t
 c:∀s t,o=some s->Met ask step tg (s,l) t->Met ask step tg s0 t
theorem LI.start{s:gK}{l:List Int}:LI ask step tg (s,l) [] (some s) l:=⟨fun t h=>.inr ⟨s,rfl,h⟩,fun t h=>(by cases h),fun s' t e h=>(by cases e;exact h)⟩
theorem LI.fin{l:List Int}(h:LI ask step tg s0 ms none l)(t:β):t∈ms↔Met ask step tg s0 t:=⟨h.b t,fun z=>(h.a t z).elim (fun z=>z) fun ⟨_,e,_⟩=>by cases e⟩
section
variable{s x y:gK}{g:List gK}{l r:List Int}{f:Int}
theorem LI.on(h:LI ask step tg s0 ms (some s) l)(q:Seg ask step s g)(hm:∀t,t∈Gp↔t∈ms\/∃x∈g,t∈tg x)(hx:g.getLast?=some x)(h0:x.1≠0)(ha:ask x.1=true)(hl:l=f::r)(hy:(step x.1 x.2 f).1=some y):LI ask step tg s0 Gp (some y) r:=by
 subst hl
 have e:rA ask step (x,f::r)=some (y,r):=by rw[ES h0 ha,hy];rfl
 refine⟨fun t m=>?_,fun t m=>?_,fun s' t e' m=>?_⟩
 ·rw[hm]
  rcases h.a t m with z |⟨_,z,m⟩
  ·exact .inl (.inl z)
  ·cases z
   rcases q.all m with z |⟨x',s',SO,_,_,e',m'⟩
   ·exact .inl (.inr z)
   ·rw[hx] at SO
    cases SO
    rw[e] at e'
    cases e'
    exact .inr ⟨y,rfl,m'⟩
 ·rcases(hm t).mp m with z |⟨x,hx,ht⟩
  ·exact h.b t z
  ·exact h.c _ t rfl (q.met hx ht)
 ·cases e'
  obtain⟨hi,e1⟩:=Seg.EU hx
  exact h.c _ t rfl (q.up _ hi t (by rw[e1];exact .on e m))
theorem LI.off(h:LI ask step tg s0 ms (some s) l)(q:Seg ask step s g)(hm:∀t,t∈Gp↔t∈ms\/∃x∈g,t∈tg x)(hx:g.getLast?=some x)(hn:l=[]\/x.1=0\/ask x.1=false):LI ask step tg s0 Gp none l:=by
 refine⟨fun t m=>?_,fun t m=>?_,fun s' t e' m=>by cases e'⟩
 ·rw[hm]
  rcases h.a t m with z |⟨_,z,m⟩
  ·exact .inl (.inl z)
  ·cases z
   rcases q.all m with z |⟨x',s',SO,h0,ha,e',m'⟩
   ·exact .inl (.inr z)
   ·rw[hx] at SO
    cases SO
    rcases hn with rfl |hn |hn
    ·rw[ET ha] at e';cases e'
    ·exact absurd hn h0
    ·rw[ha] at hn;cases hn
 ·rcases(hm t).mp m with z |⟨x,hx,ht⟩
  ·exact h.b t z
  ·exact h.c _ t rfl (q.met hx ht)
end
structure TI(ask:Int->Bool)(step:Int->List Int->Int->Option (Int×List Int)×Option Int)(s:gK)(g:List gK)(o:Option gK):Prop where
 nil:g=[]->o=some s
 head:g≠[]->g[0]?=some s
 mid:∀i (h:i+1<g.length),g[i].1≠0/\ask g[i].1=false/\(step g[i].1 g[i].2 0).1=some g[i+1]
 last:∀x,g.getLast?=some x->x.1≠0/\ask x.1=false/\(step x.1 x.2 0).1=o
section
variable{s x:gK}{g:List gK}{o:Option gK}
theorem TI.start:TI ask step s [] (some s):=⟨fun _=>rfl,fun h=>absurd rfl h,fun i h=>(by simp at h),fun x h=>(by simp at h)⟩
theorem TI.Mp(h:TI ask step s g (some x)):(g++[x])[0]?=some s/\∀i (hi:i+1<(g++[x]).length),(g++[x])[i].1≠0/\ask (g++[x])[i].1=false/\(step (g++[x])[i].1 (g++[x])[i].2 0).1=some (g++[x])[i+1]:=by
 refine⟨?_,fun i hi=>?_⟩
 ·cases g with
  |nil=>exact h.nil rfl
  |cons a r=>exact h.head (by simp)
 ·simp only[List.length_append,List.length_singleton] at hi
  have l1:i<g.length:=by lia
  rw[List.getElem_append_left l1]
  by_cases hl:i+1<g.length
  ·rw[List.getElem_append_left hl]
   exact h.mid i hl
  ·have ei:g.length-1=i:=by lia
   have hx:g.getLast?=some g[i]:=by rw[List.getLast?_eq_getElem?,ei,List.getElem?_eq_getElem l1]
   obtain⟨a,b,c⟩:=h.last _ hx
   refine⟨a,b,?_⟩
   rw[c,List.getElem_append_right (by lia)]
   simp
theorem TI.push(h:TI ask step s g (some x))(h0:x.1≠0)(ha:ask x.1=false):TI ask step s (g++[x]) (step x.1 x.2 0).1:=
 ⟨fun e=>(by simp at e),fun _=>h.Mp.1,h.Mp.2,fun y hy=>by simp only[List.getLast?_append,List.getLast?_singleton,Option.some_or,Option.some.injEq] at hy;subst hy;exact⟨h0,ha,rfl⟩⟩
theorem TI.stop(h:TI ask step s g (some x))(hx:x.1=0\/ask x.1=true):Seg ask step s (g++[x]):=
 ⟨h.Mp.1,h.Mp.2,fun y hy=>by
  simp only[List.getLast?_append,List.getLast?_singleton,Option.some_or,Option.some.injEq] at hy
  subst hy
  rcases hx with z |z
  ·exact .inl z
  ·exact .inr (.inl z)⟩
theorem TI.fin(h:TI ask step s g o)(ho:o=Option.none\/∃x∈g,o=some x):Seg ask step s g:=by
 have ne:g≠[]:=fun e=>by
  have:=h.nil e
  subst e
  rcases ho with rfl |⟨x,hx,_⟩
  ·cases this
  ·cases hx
 refine⟨h.head ne,h.mid,fun y hy=>.inr (.inr ?_)⟩
 obtain⟨_,_,c⟩:=h.last y hy
 rcases ho with rfl |⟨x,hx,rfl⟩
 ·exact .inl c
 ·exact .inr ⟨x,hx,c⟩
end
end
theorem yz{α:Type}[DecidableEq α]:∀(xs ys:List α),xs.Nodup->(∀x∈xs,x∈ys)->xs.length<=ys.length
 |[],ys,_,_=>Nat.zero_le _
 |x::r,ys,h,q=>by
  obtain⟨nx,nr⟩:=List.nodup_cons.mp h
  have hx:=q x (List.mem_cons_self ..)
  have:=yz r (ys.erase x) nr fun y hy=>(List.mem_erase_of_ne (fun e:y=x=>nx (e▸hy))).mpr (q y (List.mem_cons_of_mem _ hy))
  have l:=List.length_erase_of_mem hx
  have p:=List.length_pos_of_mem hx
  simp only[List.length_cons]
  lia
def uo:List Int->List (List Int)
 |[]=>[[]]
 |s::r=>(List.range s.toNat).flatMap fun (v:Nat)=>(uo r).map fun t=>((v:Int)::t)
def nM:List Int->List Int->Prop
 |[],[]=>True
 |s::r,v::t=>(0<=v/\v<s)/\nM r t
 |[],_::_=>False
 |_::_,[]=>False
theorem nM.mem:∀ {ss vs:List Int},nM ss vs->vs∈uo ss
 |[],[],_=>by simp[uo]
 |s::r,v::t,h=>by
  rw[nM] at h
  simp only[uo,List.mem_flatMap,List.mem_range,List.mem_map]
  exact⟨v.toNat,by lia,t,h.2.mem,by rw[Int.toNat_of_nonneg h.1.1]⟩
 |[],v::t,h=>by rw[nM] at h;exact h.elim
 |s::r,[],h=>by rw[nM] at h;exact h.elim
theorem nM.len:∀ {ss vs:List Int},nM ss vs->vs.length=ss.length
 |[],[],_=>rfl
 |s::r,v::t,h=>by
  rw[nM] at h
  simp[h.2.len]
 |[],v::t,h=>by rw[nM] at h;exact h.elim
 |s::r,[],h=>by rw[nM] at h;exact h.elim
theorem nM.set:∀ {ss vs:List Int} (i:Nat) (v:Int),nM ss vs->(∀s,ss[i]?=some s->0<=v/\v<s)->nM ss (vs.set i v)
 |[],[],i,v,h,_=>h
 |s::r,u::t,0,v,h,q=>by
  rw[nM] at h
  rw[List.set_cons_zero,nM]
  exact⟨q s rfl,h.2⟩
 |s::r,u::t,i+1,v,h,q=>by
  rw[nM] at h
  rw[List.set_cons_succ,nM]
  exact⟨h.1,h.2.set i v fun z hz=>q z (by simpa using hz)⟩
 |[],u::t,i,v,h,q=>by rw[nM] at h;exact h.elim
 |s::r,[],i,v,h,q=>by rw[nM] at h;exact h.elim
theorem Bs:∀(ss:List Int),(∀s∈ss,s<=10)->(uo ss).length<=10 ^ ss.length
 |[],_=>by simp[uo]
 |s::r,h=>by
  have ih:=Bs r fun x hx=>h x (List.mem_cons_of_mem _ hx)
  have hs:=h s (List.mem_cons_self ..)
  have k:∀n:Nat,((List.range n).flatMap fun (v:Nat)=>(uo r).map fun t=>((v:Int)::t)).length=n*(uo r).length:=fun n=>by
   induction n with
   |zero=>simp
   |succ n ih=>rw[List.range_succ,List.flatMap_append,List.length_append,ih];simp[Nat.succ_mul]
  rw[uo,k,List.length_cons,Nat.pow_succ,Nat.mul_comm (10 ^ r.length)]
  exact Nat.mul_le_mul (by lia) ih
def univ (rows ss:List Int):List gK:=(0::rows).flatMap fun r=>(uo ss).map fun v=>(r,v)
theorem JI{rows ss:List Int}{s:gK}(h:s.1=0\/s.1∈rows)(q:nM ss s.2):s∈univ rows ss:=by
 simp only[univ,List.mem_flatMap,List.mem_map,List.mem_cons]
 exact⟨s.1,h,s.2,q.mem,rfl⟩
theorem JJ(rows ss:List Int):(univ rows ss).length=(rows.length+1)*(uo ss).length:=by
 have k:∀l:List Int,(l.flatMap fun r=>(uo ss).map fun v=>((r,v):gK)).length=l.length*(uo ss).length:=fun l=>by
  induction l with
  |nil=>simp
  |cons a r ih=>rw[List.flatMap_cons,List.length_append,ih];simp[Nat.succ_mul,Nat.add_comm]
 rw[univ,k]
 simp
end PG
namespace L2
open PySem
def FH (K:PySem.W.Frag) (x:Str) (st:Stmt) (f:Addr):Prop:=PySem.W.nsIn K mainGlobals x=some (some (.ref f))/\∃fd,Eb K x x st f fd
theorem FH.of{K:PySem.W.Frag}{x:Str}{st:Stmt}{f:Addr}{oc:Value}{od an:Option Addr}{KO:Array (Option Value)}{kV doc pm fD ct:Value}(a:PySem.W.nsIn K mainGlobals x=some (some (.ref f)))(l:K.lookup f=some ⟨oc,od,.func (PySem.W.fnOf x x (eU st) (dP st) (aO st) .none kV doc pm an fD ct),KO⟩)
 (c:PySem.W.codeIn K fD x=true) (k:PySem.W.keepIn K (.ref f)=true):FH K x st f:=⟨a,_,tY l c k⟩
theorem EV{α:Type}{P:List α->Prop}(h:∀a,P [a])(us:List α)(e:us.length=1):P us:=match us,e with |[a],_=>h a
theorem yB{α:Type}{P:List α->Prop}(h:∀a b,P [a,b])(us:List α)(e:us.length=2):P us:=match us,e with |[a,b],_=>h a b
theorem NK{α:Type}{P:List α->Prop}(h:∀a b c,P [a,b,c])(us:List α)(e:us.length=3):P us:=match us,e with |[a,b,c],_=>h a b c
theorem bn5{α:Type}{P:List α->Prop}(h:∀a b c d f,P [a,b,c,d,f])(us:List α)(e:us.length=5):P us:=match us,e with |[a,b,c,d,f],_=>h a b c d f
theorem nC{K:PySem.W.Frag}{mg:Str->Option Value}{h:Heap}{x:Str}{st:Stmt}{f:Addr}{ps:List Str}(X:K.In h)(G:h.Ns mainGlobals mg)(q:FH K x st f)
 (b:∀(kV doc pm:Value) (an:Option Addr) (fD ct:Value) (us:List Value),us.length=ps.length->bindArgs (PySem.W.fnOf x x (eU st) (dP st) (aO st) .none kV doc pm an fD ct) ⟨us,[]⟩=pure (ps.zip us)):∃fd,cK K mg x st ps f fd:=
 let ⟨a,fd,F⟩:=q
 ⟨fd,F,F.binds b,PySem.W.mg_of X G a⟩
theorem QP{A:Around}{k:Nat}(hr:ie k A):A.units+16<cLine:=by have:=LH hr;lia
theorem JK{CX:B6}{P:Program}{w:World}{K:PySem.W.Frag}{mg:Str->Option Value}{base:Heap}{N:List Str}{qual:Str}{scope:Scope}{f:Addr}{cd:Value}{A:Around}{outer:List Env}{s:Shared}{H:Hp}{E:XK}:(xq CX P w K mg base N qual scope f cd A outer s H E).prog=P:=rfl
theorem JL{CX:B6}{P:Program}{w:World}{K:PySem.W.Frag}{mg:Str->Option Value}{base:Heap}{N:List Str}{qual:Str}{scope:Scope}{f:Addr}{cd:Value}{A:Around}{outer:List Env}{s:Shared}{H:Hp}{E:XK}:(xq CX P w K mg base N qual scope f cd A outer s H E).w=w:=rfl
theorem Mq{tt:TT}{a b:TS}{D:Ends}{σ:St}{H:Hp}(h:∀U:St->Hp->Prop,(∀σ' H',U σ' H'↔a D σ' H')->tt σ H fun c H1=>if c=true then U σ H1 else b D σ H1):Fm tt a b D σ H:=h (a D) fun _ _=>Iff.rfl
def WC (K:PySem.W.Frag):R2:=fun x y H Q=>∃d es,Rep K H d x/\Rep K H (.lst es) y/\d.py.canLay0=true/\PyData.canLayAll0 (Dp.t9 es)=true/\d.py.depth<=60/\Q (.bl ((Dp.t9 es).any fun e=>PyData.eqv e d.py)) H
theorem Pq{X:Cx}(hu:X.A.units+64<cLine):qd X (compareOp .In) (WC X.K):=by
 intro pins s σ H x y v u Q I rx ry h
 obtain⟨d,es,h1,h2,c1,c2,hd,q⟩:=h
 obtain⟨as,ra⟩:=og I h1 rx
 obtain⟨bs,rb⟩:=og I h2 ry
 rw[show (Dp.lst es).py=PyData.list (Dp.t9 es) from by rw[Dp.py]] at rb
 exact SeqAt.in_list_reads rb ra c2 c1 (by have:=Nat.min_le_right (PyData.depthAll (Dp.t9 es)) d.py.depth;lia) ⟨.bl _,H,I,rfl,q⟩
theorem Mr{α:Type}{xs:List α}{v:α}(h:xs[xs.length-1]?=some v):qJ xs (-1)=some v:=by
 rw[<- List.getLast?_eq_getElem?] at h
 obtain⟨ys,rfl⟩:=List.getLast?_eq_some_iff.mp h
 exact jg _ _
def qj:PG.Tg->List Key
 |.row k=>[.inr "row",.inl k]
 |.side k b=>[.inr "side",.inl k,.inl (tN b)]
 |.b8 k=>[.inr "must",.inl k]
 |.fin=>[.inr "end"]
theorem Gq{a b:PG.Tg}(h:qj a=qj b):a=b:=by
 have s1:(Str.ofString "row":Str)≠Str.ofString "must":=by decide +kernel
 cases a<;>cases b<;>simp only[qj,List.cons.injEq,Sum.inl.injEq,Sum.inr.injEq,and_true,reduceCtorEq,and_false] at h
 ·rw[h.2]
 ·exact absurd h.1 s1
 ·obtain⟨_,rfl,e⟩:=h
  have e:=(beq_iff_eq (α:=Int)).mpr e
  rw[JB] at e
  rw[beq_iff_eq.mp e]
 ·exact absurd h.1.symm s1
 ·rw[h.2]
 ·rfl
theorem NL{K:PySem.W.Frag}{H:Hp}{g:PG.Tg}{v:V}(h:Rep K H (fj g) v):∃a,v=.ref a/\Gm.on K H (qj g) a:=by
 have k:∀k:Key,Uy k (kV k):=fun k=>.inl rfl
 cases g with
 |row k=>
  simp only[fj,Rep.bq,aQ.aJ,aQ.br,Rep.bE,Rep.bB] at h
  obtain⟨a,ys,rfl,hS,_,_,rfl,rfl,_,_,rfl,rfl,rfl⟩:=h
  exact⟨a,rfl,_,hS,.cons (.inl rfl) (.cons (.inl rfl) .nil)⟩
 |side k b=>
  simp only[fj,Rep.bq,aQ.aJ,aQ.br,Rep.bE,Rep.bB,Rep.mD] at h
  obtain⟨a,ys,rfl,hS,_,_,rfl,rfl,_,_,rfl,rfl,_,_,rfl,rfl,rfl⟩:=h
  exact⟨a,rfl,_,hS,.cons (.inl rfl) (.cons (.inl rfl) (.cons (.inr ⟨b,rfl,rfl⟩) .nil))⟩
 |b8 k=>
  simp only[fj,Rep.bq,aQ.aJ,aQ.br,Rep.bE,Rep.bB] at h
  obtain⟨a,ys,rfl,hS,_,_,rfl,rfl,_,_,rfl,rfl,rfl⟩:=h
  exact⟨a,rfl,_,hS,.cons (.inl rfl) (.cons (.inl rfl) .nil)⟩
 |fin=>
  simp only[fj,Rep.bq,aQ.aJ,aQ.br,Rep.bE] at h
  obtain⟨a,ys,rfl,hS,_,_,rfl,rfl,rfl⟩:=h
  exact⟨a,rfl,_,hS,.cons (.inl rfl) .nil⟩
def xx (s:PG.gK):Gk:=(.inl s.1,s.2.map .inl)
theorem JM{a b:PG.gK}(h:xx a=xx b):a=b:=by
 obtain⟨a1,a2⟩:=a
 obtain⟨b1,b2⟩:=b
 simp only[xx,Prod.mk.injEq,Sum.inl.injEq] at h
 obtain⟨rfl,h⟩:=h
 have h:=(List.map_inj_right (fun x y (e:(Sum.inl x:Key)=.inl y)=>Sum.inl.inj e)).mp h
 rw[h]
theorem yE(l:List Int):(l.map (Sum.inl:Int->Key)).map kV=l.map V.int:=by rw[List.map_map];rfl
theorem EW{K:PySem.W.Frag}{H:Hp}{a:Addr}{s:PG.gK}(h:df K H a s.1 s.2):vj.on K H (xx s) a:=let ⟨b,h1,h2⟩:=h;⟨b,h1,by rw[xx,yE];exact h2⟩
theorem Pr{K:PySem.W.Frag}{H:Hp}{a:Addr}{s:PG.gK}(h:vj.on K H (xx s) a):df K H a s.1 s.2:=let ⟨b,h1,h2⟩:=h;⟨b,h1,by rw[xx,yE] at h2;exact h2⟩
def lS (l:List PG.gK):List (Gk×V):=l.map fun s=>(xx s,V.bl true)
theorem wK(l:List PG.gK)(s:PG.gK):(cH (lS l) (xx s)).isSome=decide (s∈l):=by
 induction l with
 |nil=>rfl
 |cons a r ih=>
  rw[lS,List.map_cons]
  by_cases e:a=s
  ·rw[cI (by rw[e]),e]
   simp
  ·rw[cJ (fun z=>e (JM z))]
   refine(show _=_ from ih).trans ?_
   simp[Ne.symm e]
theorem yF{l:List PG.gK}{s:PG.gK}(h:s ∉ l):putK (lS l) (xx s) (.bl true)=lS (l++[s]):=by
 unfold putK
 rw[lA,wK,decide_eq_false h,if_neg Bool.false_ne_true]
 simp[lS]
theorem Pt(a b:PG.Tg):PyData.eqv (fj a).py (fj b).py=decide (a=b):=by
 have s1:(Str.ofString "row"==Str.ofString "must")=false:=by decide +kernel
 have s2:(Str.ofString "must"==Str.ofString "row")=false:=by decide +kernel
 have i1:∀x y:Int,(x==y)=decide (x=y):=fun x y=>rfl
 have i2:∀x y:Bool,(x==y)=decide (x=y):=fun x y=>by cases x<;>cases y<;>rfl
 cases a<;>cases b<;>simp[fj,Dp.py,Dp.t9,PyData.eqv,PyData.eqvAll,s1,s2,i1,i2]
theorem Pu(l:List PG.Tg)(t:PG.Tg):((Dp.t9 (l.map fj)).any fun e=>PyData.eqv e (fj t).py)=decide (t∈l):=by
 induction l with
 |nil=>rfl
 |cons a r ih=>
  rw[List.map_cons,Dp.t9,List.any_cons,ih,Pt]
  by_cases e:a=t
  ·simp[e]
  ·simp[e,Ne.symm e]
theorem JN(t:PG.Tg):(fj t).py.canLay0=true/\(fj t).py.depth<=60:=by
 have:=C3 [t]
 simp only[List.map_cons,List.map_nil,Dp.t9,PyData.canLayAll0,PyData.depthAll,Bool.and_true] at this
 exact⟨this.1,by lia⟩
section
variable{κ:Type}[DecidableEq κ]{J:KH κ}{P:Program}{w:World}{K:PySem.W.Frag}{H H':Hp}{a b p C dx:Addr}{aP:List (κ×V)}{φ:Heap->Prop}{fs:List (Str×V)}{xs:List V}
theorem DS.Gr(d:DS J P w K H a aP):∃φ,H a=some (.ext φ):=let ⟨xs,h,_⟩:=d.at_;⟨_,h⟩
theorem DS.ins(d:DS J P w K H a aP)(hp:H p=some (.ins C dx fs))(u:bz p H H'):DS J P w K H' a aP:=by
 obtain⟨φ,e⟩:=d.Gr
 exact d.NJ (fun o h=>u _ _ (cR e hp (by intro z;cases z)) h) fun b ys q=>q.ins hp u
theorem c5.JO(h:c5 K H a xs)(hb:H b=some (.ext φ))(u:bz b H H'):c5 K H' a xs:=by
 rcases h with (q |⟨o',q⟩) |q
 ·exact .inl (.inl (u _ _ (cR q hb (by intro z;cases z)) q))
 ·exact .inl (.inr ⟨o',u _ _ (cR q hb (by intro z;cases z)) q⟩)
 ·exact .inr q
theorem DS.other(d:DS J P w K H a aP)(hb:H b=some (.ext φ))(n:a≠b)(u:bz b H H'):DS J P w K H' a aP:=d.NJ (fun o h=>u _ _ n h) fun c ys q=>q.JO hb u
theorem df.ext{row:Int}{vals:List Int}(h:df K H a row vals)(hb:H b=some (.ext φ))(u:bz b H H'):df K H' a row vals:=let ⟨va,h1,h2⟩:=h;⟨va,h1.JO hb u,h2.JO hb u⟩
theorem uk.ext{e:Option PG.fT}{v:V}(h:uk K H e v)(hb:H b=some (.ext φ))(u:bz b H H'):uk K H' e v:=by
 cases e with
 |none=>exact h
 |some x=>obtain⟨a,e,q⟩:=h;exact⟨a,e,q.JO hb u⟩
theorem Au.ext{CC CW wk ch fl:Addr}{pr:PG.Prog}{aW:List Int}{n:Nat}{row:Int}{vals:List Int}{e:Option PG.fT}(h:Au K CC CW H wk ch fl pr aW n row vals e)(hb:H b=some (.ext φ))(u:bz b H H')(c:yu K CC H' ch pr)(f:il K H' fl (aW.map V.int)):Au K CC CW H' wk ch fl pr aW n row vals e:=by
 obtain⟨dx,sa,ev,h1,h2,h3⟩:=h.at_
 exact⟨⟨dx,sa,ev,u _ _ (cR h1 hb (by intro z;cases z)) h1,h2.ext hb u,h3.ext hb u⟩,c,f,h.Uv⟩
end
theorem vD{K:PySem.W.Frag}{H H':Hp}{l:Addr}{ys:List V}{d:Dp}{v:V}(hl:H l=some (.lst ys))(u:bz l H H')(hn:Be d=true)(r:Rep K H d v):Rep K H' d v:=yt (O:=(·=l)) (fun g e=>⟨ys,e▸hl⟩) (bc.one u rfl) d v hn r
theorem wL{K:PySem.W.Frag}{H H':Hp}{l:Addr}{ys:List V}{ds:List Dp}{vs:List V}(hl:H l=some (.lst ys))(u:bz l H H')(hn:lI ds=true)(r:aQ K H ds vs):aQ K H' ds vs:=qO (O:=(·=l)) (fun g e=>⟨ys,e▸hl⟩) (bc.one u rfl) ds vs hn r
theorem vE:∀l:List PG.Tg,lI (l.map fj)=true
 |[]=>rfl
 |g::r=>by
  rw[List.map_cons,lI,vE r]
  cases g<;>rfl
theorem Gu{D:Addr}{H H':Hp}(s:av H H'):av (nL D H) (nL D H'):=fun b o h=>by
 obtain⟨n,e⟩:=vC h
 rw[mO n]
 exact s _ _ e
theorem c5.nL{K:PySem.W.Frag}{D a:Addr}{H:Hp}{xs ys:List V}(h:c5 K H a xs)(hD:H D=some (.lst ys)):c5 K (nL D H) a xs:=by
 rcases h with (q |⟨o,q⟩) |q
 ·exact .inl (.inl (by rw[mO (cR q hD (by intro z;cases z))];exact q))
 ·exact .inl (.inr ⟨o,by rw[mO (cR q hD (by intro z;cases z))];exact q⟩)
 ·exact .inr q
theorem df.nL{K:PySem.W.Frag}{D a:Addr}{H:Hp}{row:Int}{vals:List Int}{ys:List V}(h:df K H a row vals)(hD:H D=some (.lst ys)):df K (nL D H) a row vals:=let ⟨va,h1,h2⟩:=h;⟨va,h1.nL hD,h2.nL hD⟩
theorem zx{xs:List V}{lo hi:Option Int}{y:V}(h:y∈cQ xs lo hi):y∈xs:=List.mem_of_mem_drop (List.mem_of_mem_take h)
def jB (pr:PG.Prog):List Int:=pr.aC.map (·.size)
def EX (pr:PG.Prog):List Int:=(PG.az pr.body).map (·.row)
def gP (pr:PG.Prog):Nat:=(PG.univ (EX pr) (jB pr)).length
structure iE(pr:PG.Prog)(s:PG.gK):Prop where
 ok:vh pr s.1 s.2
 inv:PG.nM (jB pr) s.2
theorem iE.mem{pr:PG.Prog}{s:PG.gK}(h:iE pr s):s∈PG.univ (EX pr) (jB pr):=by
 refine PG.JI ?_ h.inv
 rcases h.ok.row with e |⟨i,hi,e⟩
 ·exact .inl e
 ·exact .inr (List.mem_map.mpr ⟨_,List.getElem_mem hi,e⟩)
theorem sJ{pr:PG.Prog}{l:List PG.gK}(nd:l.Nodup)(h:∀s∈l,iE pr s):l.length<=gP pr:=PG.yz l _ nd fun s hs=>(h s hs).mem
theorem nM.first:∀ {bs:List PG.fV},(∀b∈bs,2<=b.size/\b.size<=10/\0<=b.first/\b.first<b.size)->PG.nM (bs.map (·.size)) (bs.map (·.first))
 |[],_=>trivial
 |b::r,h=>by
  simp only[List.map_cons,PG.nM]
  have:=h b (List.mem_cons_self ..)
  exact⟨⟨by lia,by lia⟩,nM.first fun x hx=>h x (List.mem_cons_of_mem _ hx)⟩
theorem iE.first{pr:PG.Prog}(d:lO pr):iE pr (PG.bg pr.body 0,pr.aC.map (·.first)):=⟨d.first,nM.first d.size⟩
theorem nM.sH{pr:PG.Prog}(d:lO pr){vals:List Int}(h:PG.nM (jB pr) vals){b:W}(hb:b∈pr.aC.map (·.name))(z:Int):PG.nM (jB pr) (sH pr.aC vals b (z%eT pr.aC b)):=by
 refine h.set _ _ fun s hs=>?_
 obtain⟨hx,_⟩:=kb hb
 have e:eT pr.aC b=s:=by
  unfold eT
  rw[jB,List.getElem?_map,List.getElem?_eq_getElem hx] at hs
  rw[List.getElem?_eq_getElem hx]
  exact Option.some.inj hs
 have:=Bp d hb
 rw[e] at this ⊢
 exact⟨Int.emod_nonneg z (by lia),Int.emod_lt_of_pos z (by lia)⟩
theorem nM.step{pr:PG.Prog}(d:lO pr){st:PG.bF}(ok:PG.rE (·∈pr.aC.map (·.name)) (fun e=>PG.jn pr.aC e/\PG.mG e<=2) (·∈PG.ze) st){ws vals:List Int}{f:Int}(h:PG.nM (jB pr) vals){x:PG.gK}(e:(ji pr.aC st ws vals f).1=some x):PG.nM (jB pr) x.2:=by
 have cs:iC pr.aC st ws vals=some x->PG.nM (jB pr) x.2:=by
  intro e
  unfold iC at e
  split at e
  ·cases e
  ·split at e
   ·cases e;exact h
   ·split at e
    ·cases e
    ·cases e;exact h
 cases st<;>rw[PG.rE] at ok
 ·cases e;exact nM.sH d h ok _
 ·cases e;exact nM.sH d h ok.1 _
 ·cases e;exact h
 ·exact cs e
 ·cases e;exact h
 ·exact cs e
 ·exact cs e
theorem Bt{pr:PG.Prog}(ok:zr pr){i:Nat}(hi:i<(PG.az pr.body).length)(hf:i<(PG.aS pr.body 0).length)(vals:List Int)(f:Int):eY pr (PG.az pr.body)[i].row vals f=ji pr.aC (PG.az pr.body)[i] (PG.aS pr.body 0)[i].2.2 vals f:=by
 unfold eY
 rw[kF ok.pw i hi,EN ok.pw i hi hf]
theorem iE.next{pr:PG.Prog}(d:lO pr){s x:PG.gK}(h:iE pr s)(h0:s.1≠0){f:Int}(e:(eY pr s.1 s.2 f).1=some x):iE pr x:=by
 obtain⟨row,vals⟩:=s
 obtain⟨i,hi,rfl⟩:=h.ok.row.resolve_left h0
 obtain⟨hf,_,_⟩:=gO pr.body i hi
 rw[Bt d.ok hi hf] at e
 refine⟨?_,nM.step d (PG.ja pr.body _ d.own (List.getElem_mem hi)) h.inv e⟩
 rcases hs:ji pr.aC (PG.az pr.body)[i] (PG.aS pr.body 0)[i].2.2 vals f with ⟨o,sd⟩
 rw[hs] at e
 exact vh.step d hi hf h.ok.len h.ok.small (by rw[hs];exact congrArg (·,sd) e)
theorem Bu{pr:PG.Prog}(row:Int)(vals:List Int)(f:Int)(h:fo pr.body row=true):(eY pr row vals f).1≠none:=by
 unfold fo at h
 unfold eY
 obtain⟨k,b,e⟩:∃k b,wF pr.body row=.ask k b:=by
  generalize wF pr.body row=st at h
  cases st<;>first |exact⟨_,_,rfl⟩ |(have h:=of_decide_eq_true h;cases h)
 rw[e]
 intro z
 cases z
theorem Bv{pr:PG.Prog}(ok:zr pr):fo pr.body 0=false:=by
 unfold fo wF PG.IV
 have:(PG.az pr.body).findIdx (fun s=>s.row==0)=(PG.az pr.body).length:=List.findIdx_eq_length.mpr fun x hx=>by
  have:=ok.pos x hx
  simp only[beq_eq_false_iff_ne,ne_eq]
  lia
 rw[this,List.getElem?_eq_none (Nat.le_refl _)]
 rfl
theorem iE.nx{pr:PG.Prog}(d:lO pr){s s':PG.gK×List Int}(h:iE pr s.1)(e:PG.rA (fo pr.body) (eY pr) s=some s'):iE pr s'.1:=by
 unfold PG.rA at e
 split at e
 ·cases e
 ·rename_i h0
  split at e
  ·cases e
  ·obtain⟨y,hy,rfl⟩:=Option.map_eq_some_iff.mp e
   exact h.next d h0 hy
def muM (N L k:Nat):Option PG.fT->Nat
 |none=>L*(N+1)+(N-k)+1
 |some _=>0
theorem Ms{N L L' k:Nat}(h:L'<L)(e:Option PG.fT):muM N L' 0 e<muM N L k none:=by
 have:=Nat.mul_le_mul_right (N+1) (show L'+1<=L from h)
 rw[Nat.succ_mul] at this
 cases e<;>simp only[muM]<;>lia
theorem Px{N L k:Nat}(h:k<N)(e:Option PG.fT):muM N L (k+1) e<muM N L k none:=by
 cases e<;>simp only[muM]<;>lia
def vk (pr:PG.Prog) (s:PG.gK):List PG.Tg:=if s.1=0 then [.fin] else match oH (wF pr.body s.1) with
 |none=>[.row s.1]
 |some (sg,l,r)=>if (wF pr.body s.1).wd=.b8 then (if gH sg (wv pr.aC s.2 l) (wv pr.aC s.2 r) then [.row s.1] else [.row s.1,.b8 s.1]) else [.row s.1,.side s.1 (gH sg (wv pr.aC s.2 l) (wv pr.aC s.2 r))]
theorem EY(pr:PG.Prog)(s:PG.gK):(vk pr s).length<=2:=by
 unfold vk
 split
 ·simp
 ·split
  ·simp
  ·split
   ·split<;>simp
   ·simp
abbrev Py (pr:PG.Prog) (aW:List Int):PG.Tg->Prop:=PG.Met (fo pr.body) (eY pr) (vk pr) ((PG.bg pr.body 0,pr.aC.map (·.first)),aW)
structure jC(K:PySem.W.Frag)(H:Hp)(md:Addr)(pr:PG.Prog):Prop where
 at_:∃(B d8 wy fa:Addr) (us:List V) (aP:List (Key×V)),il K H md [.ref B,.ref d8,.ref wy,.ref fa]/\Rep K H (.lst (pr.aC.map iz)) (.ref B)/\H d8=some (.dK (cV (PG.az pr.body) us))/\us.length=(PG.az pr.body).length/\aQ K H ((PG.az pr.body).map de) us/\
  H wy=some (.dK aP)/\(∀i (hi:i<(PG.aS pr.body 0).length),∃y,cH aP (.inl (PG.aS pr.body 0)[i].1)=some (.ref y)/\c5 K H y ((PG.aS pr.body 0)[i].2.2.map V.int))/\df K H fa (PG.bg pr.body 0) (pr.aC.map (·.first))
theorem jC.mono{K:PySem.W.Frag}{H H':Hp}{md:Addr}{pr:PG.Prog}(m:jC K H md pr)(s:av H H'):jC K H' md pr:=by
 obtain⟨B,d8,wy,fa,us,aP,h1,h2,h3,h4,h5,h6,h7,h8⟩:=m.at_
 exact⟨⟨B,d8,wy,fa,us,aP,s.seq h1,h2.mono s,s _ _ h3,h4,h5.mono s,s _ _ h6,fun i hi=>let ⟨y,e,k⟩:=h7 i hi;⟨y,e,s.bD k⟩,h8.mono s⟩⟩
theorem jC.row{K:PySem.W.Frag}{H:Hp}{md:Addr}{pr:PG.Prog}(m:jC K H md pr)(ok:zr pr){i:Nat}(hi:i<(PG.az pr.body).length)(hf:i<(PG.aS pr.body 0).length) :
 ∃(B d8 wy fa ta y:Addr) (us ys:List V) (aP:List (Key×V)),il K H md [.ref B,.ref d8,.ref wy,.ref fa]/\Rep K H (.lst (pr.aC.map iz)) (.ref B)/\H d8=some (.dK (cV (PG.az pr.body) us))/\cH (cV (PG.az pr.body) us) (.inl (PG.az pr.body)[i].row)=some (.ref ta)/\Rep K H (de (PG.az pr.body)[i]) (.ref ta)/\c5 K H ta (.str (fX (PG.az pr.body)[i].wd)::ys)/\
  H wy=some (.dK aP)/\cH aP (.inl (PG.az pr.body)[i].row)=some (.ref y)/\c5 K H y ((PG.aS pr.body 0)[i].2.2.map V.int):=by
 obtain⟨B,d8,wy,fa,us,aP,h1,h2,h3,h4,h5,h6,h7,h8⟩:=m.at_
 obtain⟨v,hv,rv⟩:=h5.get (i:=i) (d:=de (PG.az pr.body)[i]) (by rw[List.getElem?_map,List.getElem?_eq_getElem hi];rfl)
 have g:=oE _ _ h4 ok.pw i hi v hv
 obtain⟨ta,ys,rfl,Mu⟩:=hZ _ rv
 obtain⟨y,e,k⟩:=h7 i hf
 obtain⟨_,e1,_⟩:=gO pr.body i hi
 rw[e1] at e
 exact⟨B,d8,wy,fa,ta,y,us,_,aP,h1,h2,h3,g,rv,Mu,h6,e,k⟩
section
variable(P:Program)(w:World)(K:PySem.W.Frag)(CC:Addr)
def nE (H:Hp) (l:Addr) (us:List V) (ts:List PG.Tg):Prop:=H l=some (.lst us)/\aQ K H (ts.map fj) us
def Pz:Sp:=fun vs H Q _=>∃(ch sa:Addr) (pr:PG.Prog) (s:PG.gK),vs=[.ref ch,.ref sa]/\yu K CC H ch pr/\lO pr/\df K H sa s.1 s.2/\iE pr s/\
 ∀l us H',av H H'->H l=none->nE K H' l us (vk pr s)->Q (.ref l) H'
def Mv:Sp:=fun vs H Q _=>∃(ch fl:Addr) (pr:PG.Prog) (aW:List Int),vs=[.ref ch,.ref fl]/\yu K CC H ch pr/\lO pr/\il K H fl (aW.map V.int)/\aW.length<=1000/\(aW.length+2)*(gP pr+2)<=4000000/\
 ∀d aP H',av H H'->DS Gm P w K H' d aP->(∀t,(cH aP (qj t)).isSome=true↔Py pr aW t)->Q (.ref d) H'
def Mw:Sp:=fun vs H Q _=>∃(v:V) (fl:Addr) (tv:V) (pr:PG.Prog) (aW:List Int) (t:PG.Tg),vs=[v,.ref fl,tv]/\lO pr/\Rep K H (iZ pr) v/\il K H fl (aW.map V.int)/\aW.length<=1000/\(aW.length+2)*(gP pr+2)<=4000000/\Rep K H (fj t) tv/\
 ∀b H',av H H'->(b=true↔Py pr aW t)->Q (.bl b) H'
def PB:Sp:=fun vs H Q _=>∃(pa R D:Addr) (ys:List V) (pr:PG.Prog) (rows:List PG.Row),vs=[.ref pa,.ref R]/\H D=some (.lst ys)/\lO pr/\Rep K (nL D H) (iZ pr) (.ref pa)/\Rep K H (.lst (rows.map jF)) (.ref R)/\rows.length<=1000/\PG.cG pr.body rows/\
 ∀md H',av H H'->jC K (nL D H') md pr->Q (.ref md) H'
def Bw:Sp:=fun vs H Q _=>∃(md sa:Addr) (fv:V) (pr:PG.Prog) (s:PG.gK) (f:Int),vs=[.ref md,.ref sa,fv]/\jC K H md pr/\lO pr/\df K H sa s.1 s.2/\iE pr s/\s.1≠0/\(fo pr.body s.1=true->fv=.int f)/\
 ∀v H',av H H'->kE K H' (eY pr s.1 s.2 f).1 v->Q v H'
def Mx:Sp:=fun vs H Q _=>∃(md sa:Addr) (pr:PG.Prog) (s:PG.gK),vs=[.ref md,.ref sa]/\jC K H md pr/\lO pr/\df K H sa s.1 s.2/\iE pr s/\Q (.bl (fo pr.body s.1)) H
def PC:Sp:=fun vs H Q _=>∃(md sa:Addr) (pr:PG.Prog) (s:PG.gK),vs=[.ref md,.ref sa]/\jC K H md pr/\lO pr/\df K H sa s.1 s.2/\iE pr s/\
 ∀l us H',av H H'->H l=none->nE K H' l us (vk pr s)->Q (.ref l) H'
def uW (H:Hp) (g:List PG.gK) (us:List V):Prop:=Paired (fun (s:PG.gK) v=>∃a,v=.ref a/\df K H a s.1 s.2) g us
def PD:Sp:=fun vs H Q _=>∃(md sa:Addr) (pr:PG.Prog) (s:PG.gK),vs=[.ref md,.ref sa]/\jC K H md pr/\lO pr/\df K H sa s.1 s.2/\iE pr s/\gP pr<=2000000/\
 ∀l us g H',av H H'->H' l=some (.lst us)->uW K H' g us->PG.Seg (fo pr.body) (eY pr) s g->(∀x∈g,iE pr x)->g.length<=gP pr->Q (.ref l) H'
def JP:Sp:=fun vs H Q _=>∃(md fl:Addr) (pr:PG.Prog) (aW:List Int),vs=[.ref md,.ref fl]/\jC K H md pr/\lO pr/\il K H fl (aW.map V.int)/\aW.length<=1000/\(aW.length+2)*(gP pr+2)<=4000000/\
 ∀l us ms H',av H H'->H l=none->nE K H' l us ms->(∀t,t∈ms↔Py pr aW t)->Q (.ref l) H'
end
theorem JQ{K:PySem.W.Frag}{H:Hp}:∀ {g:List PG.gK} {us:List V},Paired (fun (p:Gk×V) (v:V)=>∃b,v=.ref b/\vj.on K H p.1 b) (lS g) us->uW K H g us
 |[],_,h=>by cases h;exact .nil
 |s::r,_,h=>by
  cases h with
  |cons h1 h2=>
   obtain⟨b,e,o⟩:=h1
   exact .cons ⟨b,e,Pr o⟩ (JQ h2)
theorem uW.at{K:PySem.W.Frag}{H:Hp}{g:List PG.gK}{us:List V}(h:uW K H g us):us.length=g.length/\∀(i:Nat) (s:PG.gK),g[i]?=some s->∃a,us[i]?=some (V.ref a)/\df K H a s.1 s.2:=by
 unfold uW at h
 induction h with
 |nil=>exact⟨rfl,fun i s h=>by simp at h⟩
 |@cons x y l1 l2 z t ih=>
  obtain⟨a,e,q⟩:=z
  obtain⟨l,g⟩:=ih
  refine⟨by simp[l],fun i s h=>?_⟩
  cases i with
  |zero=>simp at h;subst h;exact⟨a,by simp[e],q⟩
  |succ i=>simp at h;obtain⟨b,hb,k⟩:=g i s h;exact⟨b,by simp[hb],k⟩
theorem uW.mono{K:PySem.W.Frag}{H H':Hp}{g:List PG.gK}{us:List V}(h:uW K H g us)(s:av H H'):uW K H' g us:=Paired.G3 h fun _ _ ⟨a,e,q⟩=>⟨a,e,q.mono s⟩
theorem nE.mono{K:PySem.W.Frag}{H H':Hp}{l:Addr}{us:List V}{ts:List PG.Tg}(h:nE K H l us ts)(s:av H H'):nE K H' l us ts:=⟨s _ _ h.1,h.2.mono s⟩
end L2
section
set_option maxHeartbeats 4000000
namespace PF
open PySem L2
def top (i:Nat):Stmt:=PySem.Challenge.pw_everyrow_k26_whole_targets_met.main.body.getD i (.Pass ⟨0,0,0,0⟩)
abbrev Dm:Stmt:=top 2
abbrev ke:Stmt:=top 3
abbrev oI:Stmt:=top 4
abbrev kU:Stmt:=top 5
abbrev uq:Stmt:=top 6
abbrev oJ:Stmt:=top 7
abbrev jD:Stmt:=top 8
abbrev zy:Stmt:=top 10
abbrev ur:Stmt:=top 13
abbrev qT:Stmt:=top 14
abbrev qU:Stmt:=top 15
abbrev zz:Stmt:=top 16
abbrev uv:Stmt:=top 19
abbrev hV:Stmt:=top 20
abbrev uw:Stmt:=top 22
abbrev zF:Stmt:=top 23
abbrev mQ:Stmt:=top 24
abbrev wM:Stmt:=top 25
abbrev oK:Stmt:=top 27
abbrev wN:Stmt:=top 28
abbrev mS:Stmt:=top 29
abbrev mT:Stmt:=top 30
abbrev mU:Stmt:=top 31
abbrev kW:Stmt:=top 32
abbrev kg:Stmt:=top 33
abbrev oM:Stmt:=top 34
abbrev uy:Stmt:=top 35
abbrev oN:Stmt:=top 36
abbrev iF:Stmt:=top 37
abbrev mV:Stmt:=top 38
abbrev kh:Stmt:=top 39
abbrev oO:Stmt:=top 40
abbrev gf:Stmt:=top 41
abbrev kX:Stmt:=top 42
abbrev qV:Stmt:=top 43
abbrev jE:Stmt:=top 44
abbrev ki:Stmt:=top 45
abbrev JR:Stmt:=top 46
abbrev du:Stmt:=inClass (top 12) 0
abbrev eu:Stmt:=inClass (top 18) 0
abbrev bO:Stmt:=inClass (top 18) 1
abbrev cf:Stmt:=inClass (top 18) 2
abbrev dv:Stmt:=inClass (top 18) 3
theorem EZ:bj ["program"] ["program"] (aO Dm):=⟨rfl,rfl,rfl,by decide +kernel,rfl,by decide +kernel,by decide +kernel⟩
theorem nF:bj ["body", "behind", "told", "place", "statement", "after", "inner"] ["body", "behind"] (aO ke):=⟨rfl,rfl,rfl,by decide +kernel,rfl,by decide +kernel,by decide +kernel⟩
theorem sL:bj ["body", "behind"] ["body", "behind"] (aO oI):=⟨rfl,rfl,rfl,by decide +kernel,rfl,by decide +kernel,by decide +kernel⟩
theorem oP:bj ["statement", "after"] ["statement", "after"] (aO kU):=⟨rfl,rfl,rfl,by decide +kernel,rfl,by decide +kernel,by decide +kernel⟩
theorem wO:bj ["statement", "after", "word"] ["statement", "after"] (aO uq):=⟨rfl,rfl,rfl,by decide +kernel,rfl,by decide +kernel,by decide +kernel⟩
theorem sM:bj ["statement"] ["statement"] (aO oJ):=⟨rfl,rfl,rfl,by decide +kernel,rfl,by decide +kernel,by decide +kernel⟩
theorem lT:bj ["body", "found", "statement", "inner"] ["body"] (aO jD):=⟨rfl,rfl,rfl,by decide +kernel,rfl,by decide +kernel,by decide +kernel⟩
theorem Bx:bj ["e", "values", "kind", "left", "right"] ["e", "values"] (aO zy):=⟨rfl,rfl,rfl,by decide +kernel,rfl,by decide +kernel,by decide +kernel⟩
theorem wQ:bj ["chart", "row"] ["chart", "row"] (aO ur):=⟨rfl,rfl,rfl,by decide +kernel,rfl,by decide +kernel,by decide +kernel⟩
theorem uX:bj ["chart", "parts"] ["chart", "parts"] (aO qT):=⟨rfl,rfl,rfl,by decide +kernel,rfl,by decide +kernel,by decide +kernel⟩
theorem uY:bj ["chart", "named"] ["chart", "named"] (aO qU):=⟨rfl,rfl,rfl,by decide +kernel,rfl,by decide +kernel,by decide +kernel⟩
theorem By:bj ["chart", "standing", "statement", "values", "left", "right"] ["chart", "standing"] (aO zz):=⟨rfl,rfl,rfl,by decide +kernel,rfl,by decide +kernel,by decide +kernel⟩
theorem wR:bj ["chart", "standing", "figure", "row", "statement", "word", "values", "said"] ["chart", "standing", "figure"] (aO uv):=⟨rfl,rfl,rfl,by decide +kernel,rfl,by decide +kernel,by decide +kernel⟩
theorem jH:bj ["chart", "standing", "row"] ["chart", "standing"] (aO hV):=⟨rfl,rfl,rfl,by decide +kernel,rfl,by decide +kernel,by decide +kernel⟩
theorem wU:bj ["program", "told", "entry", "row"] ["program"] (aO uw):=⟨rfl,rfl,rfl,by decide +kernel,rfl,by decide +kernel,by decide +kernel⟩
theorem Bz:bj ["program", "figures", "target"] ["program", "figures", "target"] (aO zF):=⟨rfl,rfl,rfl,by decide +kernel,rfl,by decide +kernel,by decide +kernel⟩
theorem qk:bj ["chart", "standing", "row", "word"] ["chart", "standing"] (aO mQ):=⟨rfl,rfl,rfl,by decide +kernel,rfl,by decide +kernel,by decide +kernel⟩
theorem yG:bj ["chart", "figures", "walk", "met", "seen", "target"] ["chart", "figures"] (aO wM):=⟨rfl,rfl,rfl,by decide +kernel,rfl,by decide +kernel,by decide +kernel⟩
theorem sN:bj ["deck", "at", "many", "cell", "j", "number"] ["deck"] (aO oK):=⟨rfl,rfl,rfl,by decide +kernel,rfl,by decide +kernel,by decide +kernel⟩
theorem yH:bj ["deck", "boxes", "deep", "kind", "one"] ["deck", "boxes", "deep"] (aO wN):=⟨rfl,rfl,rfl,by decide +kernel,rfl,by decide +kernel,by decide +kernel⟩
theorem ql:bj ["deck", "found", "spin", "k", "size"] ["deck"] (aO mS):=⟨rfl,rfl,rfl,by decide +kernel,rfl,by decide +kernel,by decide +kernel⟩
theorem qm:bj ["deck", "boxes", "k", "kind", "sign"] ["deck", "boxes", "k"] (aO mT):=⟨rfl,rfl,rfl,by decide +kernel,rfl,by decide +kernel,by decide +kernel⟩
theorem qo:bj ["pile", "kind", "body", "head", "first", "told"] ["pile"] (aO mU):=⟨rfl,rfl,rfl,by decide +kernel,rfl,by decide +kernel,by decide +kernel⟩
theorem oQ:bj ["boxes", "rows", "mode"] ["boxes", "rows", "mode"] (aO kW):=⟨rfl,rfl,rfl,by decide +kernel,rfl,by decide +kernel,by decide +kernel⟩
theorem nG:bj ["deck", "many", "boxes", "pile", "rows", "mode", "turn", "k", "way", "kind", "body", "head", "first", "word", "condition"] ["deck", "many"] (aO kg):=⟨rfl,rfl,rfl,by decide +kernel,rfl,by decide +kernel,by decide +kernel⟩
theorem sO:bj ["rows", "matches", "opened", "at", "word"] ["rows"] (aO oM):=⟨rfl,rfl,rfl,by decide +kernel,rfl,by decide +kernel,by decide +kernel⟩
theorem wV:bj ["rows", "matches", "at", "word"] ["rows", "matches", "at"] (aO uy):=⟨rfl,rfl,rfl,by decide +kernel,rfl,by decide +kernel,by decide +kernel⟩
theorem sP:bj ["rows", "matches", "found", "at", "row", "word", "near", "other"] ["rows"] (aO oN):=⟨rfl,rfl,rfl,by decide +kernel,rfl,by decide +kernel,by decide +kernel⟩
theorem kj:bj ["body", "found", "one", "part"] ["body"] (aO iF):=⟨rfl,rfl,rfl,by decide +kernel,rfl,by decide +kernel,by decide +kernel⟩
theorem qp:bj ["e", "values", "one", "other"] ["e", "values"] (aO mV):=⟨rfl,rfl,rfl,by decide +kernel,rfl,by decide +kernel,by decide +kernel⟩
theorem nH:bj ["boxes", "statement", "ways", "values", "figure", "names", "known", "word", "number", "at", "one", "other"] ["boxes", "statement", "ways", "values", "figure"] (aO kh):=⟨rfl,rfl,rfl,by decide +kernel,rfl,by decide +kernel,by decide +kernel⟩
theorem sQ:bj ["program", "rows", "ways", "row", "word", "some", "first"] ["program", "rows"] (aO oO):=⟨rfl,rfl,rfl,by decide +kernel,rfl,by decide +kernel,by decide +kernel⟩
theorem iR:bj ["made", "standing", "figure", "row"] ["made", "standing", "figure"] (aO gf):=⟨rfl,rfl,rfl,by decide +kernel,rfl,by decide +kernel,by decide +kernel⟩
theorem oR:bj ["made", "standing"] ["made", "standing"] (aO kX):=⟨rfl,rfl,rfl,by decide +kernel,rfl,by decide +kernel,by decide +kernel⟩
theorem uZ:bj ["made", "standing", "row", "found", "one", "known", "left", "right", "held"] ["made", "standing"] (aO qV):=⟨rfl,rfl,rfl,by decide +kernel,rfl,by decide +kernel,by decide +kernel⟩
theorem lU:bj ["made", "standing", "found"] ["made", "standing"] (aO jE):=⟨rfl,rfl,rfl,by decide +kernel,rfl,by decide +kernel,by decide +kernel⟩
theorem nI:bj ["made", "figures", "found", "standing", "left", "gone", "one"] ["made", "figures"] (aO ki):=⟨rfl,rfl,rfl,by decide +kernel,rfl,by decide +kernel,by decide +kernel⟩
theorem JS:bj ["script", "deck", "many", "program", "rows", "made", "some", "k", "figures", "due", "at", "target", "handed", "found"] ["script"] (aO JR):=⟨rfl,rfl,rfl,by decide +kernel,rfl,by decide +kernel,by decide +kernel⟩
theorem qr:bj ["self", "program", "boxes", "body"] ["self", "program"] (aO du):=⟨rfl,rfl,rfl,by decide +kernel,rfl,by decide +kernel,by decide +kernel⟩
theorem sR:bj ["self", "chart", "figures"] ["self", "chart", "figures"] (aO eu):=⟨rfl,rfl,rfl,by decide +kernel,rfl,by decide +kernel,by decide +kernel⟩
theorem jq:bj ["self"] ["self"] (aO bO):=⟨rfl,rfl,rfl,by decide +kernel,rfl,by decide +kernel,by decide +kernel⟩
theorem kG:bj ["self"] ["self"] (aO cf):=⟨rfl,rfl,rfl,by decide +kernel,rfl,by decide +kernel,by decide +kernel⟩
theorem qt:bj ["self", "figure", "told"] ["self"] (aO dv):=⟨rfl,rfl,rfl,by decide +kernel,rfl,by decide +kernel,by decide +kernel⟩
set_option genInjectivity false in
structure Ad where
 qW:Addr
 pN:FuncData
 dM:Addr
 dX:FuncData
 eA:Addr
 eB:FuncData
 fM:Addr
 gg:FuncData
 j4:Addr
 kl:FuncData
 gh:Addr
 gB:FuncData
 cA:Addr
 cD:FuncData
 mW:Addr
 lV:FuncData
 lW:Addr
 mY:FuncData
 km:Addr
 kH:FuncData
 kn:Addr
 kI:FuncData
 sS:Addr
 sT:FuncData
 lX:Addr
 mZ:FuncData
 dN:Addr
 eV:FuncData
 lY:Addr
 m7:FuncData
 sU:Addr
 sV:FuncData
 iG:Addr
 jc:FuncData
 oS:Addr
 pO:FuncData
 eC:Addr
 eE:FuncData
 ko:Addr
 j5:FuncData
 iH:Addr
 jd:FuncData
 iI:Addr
 je:FuncData
 iJ:Addr
 jf:FuncData
 gQ:Addr
 iK:FuncData
 gk:Addr
 gY:FuncData
 jr:Addr
 jS:FuncData
 lZ:Addr
 m8:FuncData
 js:Addr
 jT:FuncData
 cL:Addr
 cS:FuncData
 fw:Addr
 fN:FuncData
 gm:Addr
 gZ:FuncData
 jt:Addr
 jU:FuncData
 c8:Addr
 dR:FuncData
 gS:Addr
 iL:FuncData
 kr:Addr
 kJ:FuncData
 fH:Addr
 gC:FuncData
 gp:Addr
 g7:FuncData
 E1:Addr
 uz:FuncData
 dw:Addr
 kY:FuncData
 eG:Addr
 m9:FuncData
 bP:Addr
 gu:FuncData
 cg:Addr
 iM:FuncData
 dy:Addr
 kZ:FuncData
 aY:Addr
 bZ:Addr
set_option genInjectivity false in
structure Tx(K:PySem.W.Frag)(mg:Str->Option Value)(t:Ad):Prop where
 nh:cK K mg "flow" Dm ["program"] t.qW t.pN
 cM:cK K mg "flow_of_body" ke ["body", "behind"] t.dM t.dX
 bN:cK K mg "first_row" oI ["body", "behind"] t.eA t.eB
 fO:cK K mg "behind_body" kU ["statement", "after"] t.fM t.gg
 j6:cK K mg "ways_of" uq ["statement", "after"] t.j4 t.kl
 eI:cK K mg "bodies_in" oJ ["statement"] t.gh t.gB
 cB:cK K mg "statements_in" jD ["body"] t.cA t.cD
 cW:cK K mg "worth" zy ["e", "values"] t.mW t.lV
 dY:cK K mg "word_at" ur ["chart", "row"] t.lW t.mY
 fz:cK K mg "by_names" qT ["chart", "parts"] t.km t.kH
 i4:cK K mg "in_order" qU ["chart", "named"] t.kn t.kI
 g8:cK K mg "holds" zz ["chart", "standing"] t.sS t.sT
 j7:cK K mg "step_by" uv ["chart", "standing", "figure"] t.lX t.mZ
 cT:cK K mg "behind_condition" hV ["chart", "standing"] t.dN t.eV
 j8:cK K mg "targets" uw ["program"] t.lY t.m7
 pP:cK K mg "meets" zF ["program", "figures", "target"] t.sU t.sV
 gD:cK K mg "targets_at" mQ ["chart", "standing"] t.iG t.jc
 l0:cK K mg "met_by" wM ["chart", "figures"] t.oS t.pO
 ax:cK K mg "_law_next" oK ["deck"] t.eC t.eE
 bR:cK K mg "_law_e" wN ["deck", "boxes", "deep"] t.ko t.j5
 gE:cK K mg "_law_boxes" mS ["deck"] t.iH t.jd
 gF:cK K mg "_law_plain" mT ["deck", "boxes", "k"] t.iI t.je
 dC:cK K mg "_law_close" mU ["pile"] t.iJ t.jf
 cX:cK K mg "_law_number" kW ["boxes", "rows", "mode"] t.gQ t.iK
 cN:cK K mg "_law_program" kg ["deck", "many"] t.gk t.gY
 eJ:cK K mg "_law_ends" oM ["rows"] t.jr t.jS
 dZ:cK K mg "_law_to" uy ["rows", "matches", "at"] t.lZ t.m8
 ia:cK K mg "_law_ways" oN ["rows"] t.js t.jT
 b5:cK K mg "_law_statements" iF ["body"] t.cL t.cS
 a7:cK K mg "_law_worth" mV ["e", "values"] t.fw t.fN
 eZ:cK K mg "_law_stepped" kh ["boxes", "statement", "ways", "values", "figure"] t.gm t.gZ
 ib:cK K mg "_law_made" oO ["program", "rows"] t.jt t.jU
 bK:cK K mg "_law_next_standing" gf ["made", "standing", "figure"] t.c8 t.dR
 cY:cK K mg "_law_is_ask" kX ["made", "standing"] t.gS t.iL
 i6:cK K mg "_law_met" qV ["made", "standing"] t.kr t.kJ
 d7:cK K mg "_law_till_ask" jE ["made", "standing"] t.fH t.gC
 fc:cK K mg "_law_all_met" ki ["made", "figures"] t.gp t.g7
 E2:cK K mg "law" JR ["script"] t.E1 t.uz
 jV:Eb K "__init__" "Chart.__init__" du t.dw t.kY
 zG:Binds K t.kY ["self", "program"] []
 kK:Eb K "__init__" "Walk.__init__" eu t.eG t.m9
 BA:Binds K t.m9 ["self", "chart", "figures"] []
 eW:Eb K "look_for_end" "Walk.look_for_end" bO t.bP t.gu
 jI:Binds K t.gu ["self"] []
 jJ:Meth K t.bZ "look_for_end" t.bP
 gG:Eb K "is_at_ask" "Walk.is_at_ask" cf t.cg t.iM
 me:Binds K t.iM ["self"] []
 mf:Meth K t.bZ "is_at_ask" t.cg
 jW:Eb K "go_on" "Walk.go_on" dv t.dy t.kZ
 zH:Binds K t.kZ ["self"] []
 zI:Meth K t.bZ "go_on" t.dy
 dh:GS K t.aY
 JT:mg "Chart"=some (.ref t.aY)
 wW:Mk K t.aY t.dw
 gv:gb K t.aY "names"
 gw:gb K t.aY "sizes"
 iN:gb K t.aY "first"
 cP:gb K t.aY "statements"
 fP:gb K t.aY "ways"
 b6:GS K t.bZ
 My:mg "Walk"=some (.ref t.bZ)
 zJ:Mk K t.bZ t.eG
 gU:gb K t.bZ "chart"
 fI:gb K t.bZ "figures"
 fQ:gb K t.bZ "taken"
 bS:gb K t.bZ "standing"
 gx:gb K t.bZ "end"
 wX:∃u,mg "END"=some u/\RelV (.int 0) u
 ic:mg "len"=none
 jX:mg "range"=none
 Dn:mg "bool"=none
 oT:mg "dict"=none
 uB:mg "list"=none
 sW:mg "tuple"=none
 JU:mg "max"=none
 JV:mg "min"=none
 nj:mg "isinstance"=none
 oU:mg "enumerate"=none
 BB:mg "zip"=none
end PF
end
section
set_option maxHeartbeats 4000000
namespace PF
open PySem L2
local macro_rules | `(tactic|walk_at "rd")=>`(tactic|((try dsimp only[Hn,Hu,G7,Oi,M5,Yo,Oh,Ha,Rq,VG,OL,Ug,HE,yX,Ht,OB,AG,yW,DW,Vt,rU,R8,DQ,DR,M9,M7,G9,M6,Oq,Hb,Om,Ot,Nm,Le,Fm,Eh,Nn,HZ,Ia,Ib,Ic,Ie,Ig,Ih,Ii,Ij,Ik,Es,Et,Eu,EA,EB,O4,R1,Oj,G8,Hd,fC,Np,Nq,List.set,Ei,Ej,Im,El,Em,AS,Dj,Dl,JE,En,Nr,R4,Iz,Io,Ip,Vm,List.nil_append,List.cons_append,List.length_cons,List.length_nil,Iq,Ir,JK,JL,Ek]);(try simp only[Hn,Hu,G7,Oi,M5,Yo,Oh,Ha,Rq,VG,OL,Ug,HE,yX,Ht,OB,AG,yW,DW,Vt,rU,R8,DQ,DR,M9,M7,G9,M6,OT,OU,Oq,Hb,Om,Ot,Nm,Le,Fm,Eh,Nn,HZ,Ia,Ib,Ic,Ie,Ig,Ih,Ii,Ij,Ik,Es,Et,Eu,EA,EB,O4,R1,Oj,G8,Hd,fC,HY,VW,Np,Nq,R3,Lx,Il,OV,OW,List.set,Ei,Ej,Im,El,Em,AS,Dj,Dl,JE,En,Nr,R4,Iz,Io,Ip,Vm,List.append_nil,List.nil_append,List.cons_append,LA,LB,true_and,and_true,List.length_cons,List.length_nil,LC,Iq,Ir,JK,JL,Ek,Int.reduceLT,Int.reduceLE,Nat.reduceLeDiff,Nat.reduceAdd,and_self])))
section
variable{P:Program}{w:World}{K:PySem.W.Frag}{mg:Str->Option Value}{base:Heap}{t:Ad}
theorem BC{ss:List PG.bF}{vs:List V}(l:vs.length=ss.length):(List.range ss.length).map (fun i=>((Sum.inl (ss.getD i (.stop 0)).row:Key),vs.getD i .ck))=cV ss vs:=by
 apply List.ext_getElem
 ·simp[cV,l]
 ·intro i h1 h2
  simp at h1
  simp[cV,h1,l]
theorem zK{fl:List PG.dQ}{vs:List V}(l:vs.length=fl.length):(List.range fl.length).map (fun i=>((Sum.inl (fl.getD i (0,.stop,[])).1:Key),vs.getD i .ck))=List.zipWith (fun r v=>(Sum.inl r.1,v)) fl vs:=by
 apply List.ext_getElem
 ·simp[l]
 ·intro i h1 h2
  simp at h1
  simp[h1,l]
theorem BD{fl:List PG.dQ}{vs:List V}(l:vs.length=fl.length):(List.zipWith (fun r v=>((Sum.inl r.1:Key),v)) fl vs).map (·.1)=fl.map fun r=>(Sum.inl r.1:Key):=by
 apply List.ext_getElem
 ·simp[l]
 ·intro i h1 h2
  simp
theorem E3{K:PySem.W.Frag}{H:Hp}:∀ {fl:List PG.dQ} {us:List V},aQ K H (fl.map eQ) us->∃ws:List V,ws.length=fl.length/\∀i (hi:i<fl.length),∃a q,us[i]?=some (.ref a)/\ws[i]?=some (.ref q)/\c5 K H a [.int fl[i].1,.str (fX fl[i].2.1),.ref q]/\c5 K H q (fl[i].2.2.map V.int)
 |[],us,_=>⟨[],rfl,fun i hi=>by simp at hi⟩
 |r::fl,us,h=>by
  have h0:=h
  rw[List.map_cons,aQ.aJ] at h
  obtain⟨v,tl,rfl,h1,h2⟩:=h
  obtain⟨ws,l,hw⟩:=E3 h2
  obtain⟨a,q,e,s1,s2⟩:=Bi h0 (i:=0) (y:=v) rfl (by simp)
  refine⟨.ref q::ws,by simp[l],fun i hi=>?_⟩
  cases i with
  |zero=>exact⟨a,q,by rw[e];rfl,rfl,s1,s2⟩
  |succ i=>
   obtain⟨a',q',e1,e2,e3,e4⟩:=hw i (by simpa using hi)
   exact⟨a',q',by simpa using e1,by simpa using e2,by simpa using e3,by simpa using e4⟩
theorem Dq{b:List PG.bF}(pw:(PG.az b).Pairwise fun a b=>a.row<b.row):((PG.aS b 0).map fun r=>(Sum.inl r.1:Key)).Nodup:=by
 have e:(PG.aS b 0).map (fun r=>(Sum.inl r.1:Key))=(PG.az b).map fun s=>(Sum.inl s.row:Key):=by
  have h:((PG.aS b 0).map fun r=>(r.1,r.2.1))=(PG.az b).map fun x=>(x.row,x.wd):=by rw[PG.c9,PG.fL]
  have h2:=congrArg (List.map fun r:Int×PG.Wd=>(Sum.inl r.1:Key)) h
  rw[List.map_map,List.map_map] at h2
  exact h2
 rw[e]
 exact qN pw
theorem mh{K:PySem.W.Frag}{H:Hp}{B:Addr}{bs:List PG.fV}(r:Rep K H (.lst (bs.map iz)) (.ref B)):∃xs,il K H B xs/\xs.length=bs.length/\∀i x,xs[i]?=some x->∃a,x=.ref a/\c5 K H a [.str (S (bs.getD i ⟨[],0,0⟩).name),.int (bs.getD i ⟨[],0,0⟩).size,.int (bs.getD i ⟨[],0,0⟩).first]:=by
 rw[Rep.bI] at r
 obtain⟨_,xs,e,q,rs⟩:=r
 cases e
 have lx:xs.length=bs.length:=by rw[rs.length,List.length_map]
 refine⟨xs,q,lx,fun i x hx=>?_⟩
 have li:i<bs.length:=by have:=(List.getElem?_eq_some_iff.mp hx).1;lia
 obtain⟨v,hv,rv⟩:=rs.get (i:=i) (d:=iz bs[i]) (by rw[List.getElem?_map,List.getElem?_eq_getElem li];rfl)
 rw[hx] at hv
 cases hv
 have eg:bs.getD i ⟨[],0,0⟩=bs[i]:=by rw[List.getD_eq_getElem?_getD,List.getElem?_eq_getElem li];rfl
 rw[eg]
 simp only[iz,Rep.bq,aQ.aJ,aQ.br,Rep.bE,Rep.bB] at rv
 obtain⟨a,ys,rfl,hS,_,_,rfl,rfl,_,_,rfl,rfl,_,_,rfl,rfl,rfl⟩:=rv
 exact⟨a,rfl,hS⟩
theorem qX{aP:List (Key×V)}(h:(aP.map (·.1)).Nodup):iw [] aP=aP:=by
 have:=hG aP [] (by simpa using h)
 simpa using this
theorem xy(T:Tx K mg t)(eK:bQ P w K mg base fh 1 t.eA t.eB ["body", "behind"] (sF K))(fJ:bQ P w K mg base fh 6 t.cA t.cD ["body"] (pL K 4))(wY:bQ P w K mg base fh 7 t.qW t.pN ["program"] (C2 K)) :
 bQ P w K mg base fh 8 t.dw t.kY ["self", "program"] (Ma K t.aY):=by
 refine T.jV.kS qr (fun vs H Q E h=>?_) (fun fD A outer s H vs Q E hr h=>?_)
 ·obtain⟨_,_,_,_,rfl,_⟩:=h
  rfl
 obtain⟨p,dx,v,pr,rfl,hp,QQ,rp,hd,hf,pw,nb,lb,q⟩:=h
 have nd:=qr.nd
 obtain⟨E4,sY,sZ⟩:=T.wX
 refine⟨_,[some (.ref p),some v,none,none],(ae (aL (i:=2) nd rfl (Or.inl rfl) (aD aN (pv 1) aj ak))
 (ae (aL (i:=3) nd rfl (Or.inl rfl) (aD aN (pv 1) aj ak))
 (ae (iq (pv 0) (jO (own:=["box"]) (ix:=[]) rfl (by rfl) (by rfl) (dq (pv 2)) (fun _ _ _ _=>(bu (i:=0) (by show List.Nodup (["box"]:List Str);decide +kernel) rfl (Or.inl rfl))) (fun _ _ _ _=>i9) (fun _ _ _ _=>(aD (jb (K:=K) rfl) (pv 0) aj ak))) rfl)
 (ae (iq (pv 0) (fK (qP rfl) rfl T.oT PyProof.Rows.Boot.«dict» (aa (jO (own:=["box"]) (ix:=[]) rfl (by rfl) (by rfl) (dq (pv 2)) (fun _ _ _ _=>(bu (i:=0) (by show List.Nodup (["box"]:List Str);decide +kernel) rfl (Or.inl rfl))) (fun _ _ _ _=>i9) (fun _ _ _ _=>(aZ (aa (aD (jb (K:=K) rfl) (pv 0) aj ak) (aa (aD (jb (K:=K) rfl) (pv 0) aj ak) ah ba) ba)))) ah kB)) rfl)
 (ae (iq (pv 0) (aZ (aa (aG eK (hr.mono (by first|decide|omega)) rfl T.bN.m T.bN.F.kp T.bN.b .nil aX (aa (pv 3) (aa (rH rfl sY sZ) ah ag) ag)) (aa (fK kR rfl T.sW PyProof.Rows.Boot.«tuple» (aa (jO (own:=["box"]) (ix:=[]) rfl (by rfl) (by rfl) (dq (pv 2)) (fun _ _ _ _=>(bu (i:=0) (by show List.Nodup (["box"]:List Str);decide +kernel) rfl (Or.inl rfl))) (fun _ _ _ _=>i9) (fun _ _ _ _=>(aD (jb (K:=K) rfl) (pv 0) aj ak))) ah kB)) ah bM) bM)) rfl)
 (ae (iq (pv 0) (fK (qP rfl) rfl T.oT PyProof.Rows.Boot.«dict» (aa (jO (own:=["statement"]) (ix:=[]) rfl (by rfl) (by rfl) (dq (aG fJ (hr.mono (by first|decide|omega)) rfl T.cB.m T.cB.F.kp T.cB.b .nil aX (aa (pv 3) ah ag))) (fun _ _ _ _=>(bu (i:=0) (by show List.Nodup (["statement"]:List Str);decide +kernel) rfl (Or.inl rfl))) (fun _ _ _ _=>i9) (fun _ _ _ _=>(aZ (aa (aD (jb (K:=K) rfl) (pv 0) aj ak) (aa (pv 0) ah ag) ba)))) ah kB)) rfl)
 (aq (iq (pv 0) (fK (qP rfl) rfl T.oT PyProof.Rows.Boot.«dict» (aa (jO (own:=["told"]) (ix:=[]) rfl (by rfl) (by rfl) (dq (aG wY (hr.mono (by first|decide|omega)) rfl T.nh.m T.nh.F.kp T.nh.b .nil aX (aa (pv 1) ah ag))) (fun _ _ _ _=>(bu (i:=0) (by show List.Nodup (["told"]:List Str);decide +kernel) rfl (Or.inl rfl))) (fun _ _ _ _=>i9) (fun _ _ _ _=>(aZ (aa (aD (jb (K:=K) rfl) (pv 0) aj ak) (aa (aD (jb (K:=K) rfl) (pv 0) aj ak) ah ba) ba)))) ah kB)) rfl)))))))),rfl,?_⟩
 have line:sizeLine=2 ^ 24:=rfl
 have WD:=rp
 unfold iZ at WD
 rw[Rep.bq] at WD
 obtain⟨pa,pxs,rfl,KZ,Dr⟩:=WD
 rw[aQ.aJ] at Dr
 obtain⟨v1,t1,rfl,Mz,Dr⟩:=Dr
 rw[aQ.aJ] at Dr
 obtain⟨v2,t2,rfl,QR,Dr⟩:=Dr
 obtain⟨bb,_,rfl,_⟩:=Rep.bI.mp QR
 obtain⟨bx,_,rfl,_⟩:=Rep.bI.mp Mz
 refine aw fun U1 ff=>?_
 walk_at "rd"
 refine aI KZ (v:=.ref bx) (au (j:=0) rfl) ((ff _ _).mpr (aw fun U2 gI=>?_))
 clear ff
 walk_at "rd"
 refine aI KZ (v:=.ref bb) (au (j:=1) rfl) ((gI _ _).mpr (aw fun U3 ik=>?_))
 clear gI
 walk_at "rd"
 simp only[AG,kA]
 walk_at "rd"
 obtain⟨xs1,YW,lx1,g1⟩:=mh Mz
 refine⟨⟨_,YW⟩,fun D1 Uz=>j3 (K:=K) (r:=[]) (fun i=>.str (S (pr.aC.getD i ⟨[],0,0⟩).name)) YW (by lia) Uz (fun i x H2 hx s2 R hR=>?_) (fun H2 s2 h2=>⟨p,_,dx,[],rfl,s2 _ _ hp,T.dh,T.gv,by decide,(ik _ _).mpr (aw fun U4 i7=>?_)⟩)⟩
 ·obtain⟨a,rfl,ha⟩:=g1 i x hx
  walk_at "rd"
  exact aI (s2.bD ha) (v:=.str (S (pr.aC.getD i ⟨[],0,0⟩).name)) (au (j:=0) rfl) hR
 clear ik
 rw[lx1,i0 (fun b:PG.fV=>V.str (S b.name))] at h2
 have xt:=s2 _ _ hp
 have n1:D1≠p:=(ao hp Uz).symm
 have u3:bc (·=p) H (upd H2 p (.ins t.aY dx [("names",.ref D1)])):=(bc.of s2).trans (bc.refl.put (O:=(·=p)) rfl _)
 have GW:(upd H2 p (.ins t.aY dx [("names",.ref D1)])) p=some (.ins t.aY dx [("names",.ref D1)]):=ai
 have d1:(upd H2 p (.ins t.aY dx [("names",.ref D1)])) D1=some (.lst (pr.aC.map fun b=>.str (S b.name))):=by rw[ay n1];exact h2
 rw[show jz (Str.ofString "names") (V.ref D1) []=[(Str.ofString "names",V.ref D1)] from rfl]
 generalize upd H2 p (.ins t.aY dx [("names",.ref D1)])=H3 at *
 walk_at "rd"
 simp only[AG,kA]
 walk_at "rd"
 have pr3:=pM hp u3 _ _ Mz
 obtain⟨xs3,UA,lx3,g3⟩:=mh pr3
 refine⟨⟨_,UA⟩,fun D2 K0=>qR (K:=K) (r:=[]) (fun i=>(.inr (S (pr.aC.getD i ⟨[],0,0⟩).name),.int (pr.aC.getD i ⟨[],0,0⟩).size)) UA (by lia) K0 (fun i x H2 hx s2 R hR=>?_) (fun ps H4 s4 h4 L9 ep=>⟨D2,ps,rfl,.of h4,fun q hq=>.of (L9 q hq),?_,fun D3 GX=>⟨p,_,dx,_,rfl,av.new GX _ _ _ (s4 _ _ GW),T.dh,T.gw,by simp,(i7 _ _).mpr (aw fun U5 tf=>?_)⟩⟩)⟩
 ·obtain⟨a,rfl,ha⟩:=g3 i x hx
  walk_at "rd"
  exact aI (s2.bD ha) (v:=.str (S (pr.aC.getD i ⟨[],0,0⟩).name)) (au (j:=0) rfl) (aI (s2.bD ha) (v:=.int (pr.aC.getD i ⟨[],0,0⟩).size) (au (j:=1) rfl) hR)
 ·have:=congrArg List.length ep
  simp only[List.length_map,List.length_range] at this
  lia
 clear i7
 have ek:ps.map (fun q=>(q.2.1,q.2.2))=pr.aC.map fun b=>(Sum.inr (S b.name),V.int b.size):=by
  rw[show (fun q:Addr×Key×V=>(q.2.1,q.2.2))=(·.2) from rfl,ep,lx3,i0 (fun b:PG.fV=>((Sum.inr (S b.name):Key),V.int b.size))]
 have nk:((pr.aC.map fun b=>((Sum.inr (S b.name):Key),V.int b.size)).map (·.1)).Nodup:=by
  rw[List.map_map]
  refine List.pairwise_map.mpr ((List.pairwise_map.mp nb).imp fun {a b} ED e=>ED ?_)
  exact lC.mp (Sum.inr.inj e)
 rw[ek,qX nk,show jz (Str.ofString "sizes") (V.ref D3) [(Str.ofString "names",V.ref D1)]=[(Str.ofString "names",V.ref D1),(Str.ofString "sizes",V.ref D3)] from rfl]
 have SQ:=s4.trans (av.new GX (.dK (pr.aC.map fun b=>(Sum.inr (S b.name),V.int b.size))))
 have d3:(upd H4 D3 (.dK (pr.aC.map fun b=>(Sum.inr (S b.name),V.int b.size)))) D3=some (.dK (pr.aC.map fun b=>(Sum.inr (S b.name),V.int b.size))):=ai
 generalize upd H4 D3 (.dK (pr.aC.map fun b=>(Sum.inr (S b.name),V.int b.size)))=H5 at *
 have n3:D3≠p:=cR d3 (SQ _ _ GW) (by intro z;cases z)
 have u6:bc (·=p) H3 (upd H5 p (.ins t.aY dx [(Str.ofString "names",V.ref D1),(Str.ofString "sizes",V.ref D3)])):=(bc.of SQ).trans (bc.refl.put (O:=(·=p)) rfl _)
 have iQ:(upd H5 p (.ins t.aY dx [(Str.ofString "names",V.ref D1),(Str.ofString "sizes",V.ref D3)])) p=some (.ins t.aY dx [(Str.ofString "names",V.ref D1),(Str.ofString "sizes",V.ref D3)]):=ai
 have d3:(upd H5 p (.ins t.aY dx [(Str.ofString "names",V.ref D1),(Str.ofString "sizes",V.ref D3)])) D3=some (.dK (pr.aC.map fun b=>(Sum.inr (S b.name),V.int b.size))):=by rw[ay n3];exact d3
 generalize upd H5 p (.ins t.aY dx [(Str.ofString "names",V.ref D1),(Str.ofString "sizes",V.ref D3)])=H6 at *
 have d1:=u6 _ _ n1 d1
 have u6:=u3.trans u6
 have pr6:=pM hp u6 _ _ Mz
 have pb6:=pM hp u6 _ _ QR
 walk_at "rd"
 simp only[AG,kA]
 walk_at "rd"
 have lbd:=j0 pr.body
 obtain⟨xs6,YX,lx6,g6⟩:=mh pr6
 refine⟨bb,pr.body,0,rfl,pb6,by lia,⟨_,YX⟩,fun D4 hD4=>j3 (K:=K) (r:=[]) (fun i=>.int (pr.aC.getD i ⟨[],0,0⟩).first) YX (by lia) hD4 (fun i x H2 hx s2 R hR=>?_) (fun H7 s7 h7=>⟨D4,_,rfl,.inl ⟨.of h7,fun D5 YY D6 QS=>⟨p,_,dx,_,rfl,av.new QS _ _ _ (av.new YY _ _ _ (s7 _ _ iQ)),T.dh,T.iN,by simp,(tf _ _).mpr (aw fun U6 xm=>?_)⟩⟩⟩)⟩
 ·obtain⟨a,rfl,ha⟩:=g6 i x hx
  walk_at "rd"
  exact aI (s2.bD ha) (v:=.int (pr.aC.getD i ⟨[],0,0⟩).first) (au (j:=2) rfl) hR
 clear tf
 rw[show jz (Str.ofString "first") (V.ref D6) [(Str.ofString "names",V.ref D1),(Str.ofString "sizes",V.ref D3)]=[(Str.ofString "names",V.ref D1),(Str.ofString "sizes",V.ref D3),(Str.ofString "first",V.ref D6)] from rfl]
 rw[lx6,i0 (fun b:PG.fV=>V.int b.first)] at QS ⊢
 have s8:=s7.trans ((av.new YY (.tup (pr.aC.map fun b=>V.int b.first))).trans (av.new QS (.tup [V.int (PG.bg pr.body 0),V.ref D5])))
 have d5:(upd (upd H7 D5 (.tup (pr.aC.map fun b=>V.int b.first))) D6 (.tup [V.int (PG.bg pr.body 0),V.ref D5])) D5=some (.tup (pr.aC.map fun b=>V.int b.first)):=av.new QS _ _ _ ai
 have d6:(upd (upd H7 D5 (.tup (pr.aC.map fun b=>V.int b.first))) D6 (.tup [V.int (PG.bg pr.body 0),V.ref D5])) D6=some (.tup [V.int (PG.bg pr.body 0),V.ref D5]):=ai
 generalize upd (upd H7 D5 (.tup (pr.aC.map fun b=>V.int b.first))) D6 (.tup [V.int (PG.bg pr.body 0),V.ref D5])=H8 at *
 have GY:=s8 _ _ iQ
 have n5:D5≠p:=cR d5 GY (by intro z;cases z)
 have n6:D6≠p:=cR d6 GY (by intro z;cases z)
 have u9:bc (·=p) H6 (upd H8 p (.ins t.aY dx [(Str.ofString "names",V.ref D1),(Str.ofString "sizes",V.ref D3),(Str.ofString "first",V.ref D6)])):=(bc.of s8).trans (bc.refl.put (O:=(·=p)) rfl _)
 have WE:(upd H8 p (.ins t.aY dx [(Str.ofString "names",V.ref D1),(Str.ofString "sizes",V.ref D3),(Str.ofString "first",V.ref D6)])) p=some (.ins t.aY dx [(Str.ofString "names",V.ref D1),(Str.ofString "sizes",V.ref D3),(Str.ofString "first",V.ref D6)]):=ai
 have d5:(upd H8 p (.ins t.aY dx [(Str.ofString "names",V.ref D1),(Str.ofString "sizes",V.ref D3),(Str.ofString "first",V.ref D6)])) D5=some (.tup (pr.aC.map fun b=>V.int b.first)):=by rw[ay n5];exact d5
 have d6:(upd H8 p (.ins t.aY dx [(Str.ofString "names",V.ref D1),(Str.ofString "sizes",V.ref D3),(Str.ofString "first",V.ref D6)])) D6=some (.tup [V.int (PG.bg pr.body 0),V.ref D5]):=by rw[ay n6];exact d6
 generalize upd H8 p (.ins t.aY dx [(Str.ofString "names",V.ref D1),(Str.ofString "sizes",V.ref D3),(Str.ofString "first",V.ref D6)])=H9 at *
 have d1:=u9 _ _ n1 d1
 have d3:=u9 _ _ n3 d3
 have u9:=u6.trans u9
 have pb9:=pM hp u9 _ _ QR
 walk_at "rd"
 simp only[AG,kA]
 walk_at "rd"
 refine⟨bb,pr.body,H9,rfl,av.refl _,pb9,by lia,hf,fun UB us pW qu WG NM QT=>?_⟩
 have sl:=lK pr.body
 have NN:us.length=(PG.az pr.body).length:=by rw[QT.length,List.length_map]
 refine⟨UB,rfl,⟨_,.of NM⟩,fun D7 hD7=>qR (K:=K) (r:=[]) (fun i=>(.inl ((PG.az pr.body).getD i (.stop 0)).row,us.getD i .ck)) (.of NM) (by lia) hD7 (fun i x H2 hx s2 R hR=>?_) (fun ps JW JX Pj L9 ep=>⟨D7,ps,rfl,.of Pj,fun q hq=>.of (L9 q hq),?_,fun D8 YZ=>⟨p,_,dx,_,rfl,av.new YZ _ _ _ (JX _ _ (qu _ _ WE)),T.dh,T.cP,by simp,(xm _ _).mpr ?_⟩⟩)⟩
 ·have li:i<(PG.az pr.body).length:=by have:=(List.getElem?_eq_some_iff.mp hx).1;lia
  obtain⟨v',B5,rv⟩:=QT.get (i:=i) (d:=de (PG.az pr.body)[i]) (by rw[List.getElem?_map,List.getElem?_eq_getElem li];rfl)
  rw[hx] at B5
  cases B5
  have e1:(PG.az pr.body).getD i (.stop 0)=(PG.az pr.body)[i]:=by rw[List.getD_eq_getElem?_getD,List.getElem?_eq_getElem li];rfl
  have e2:us.getD i .ck=x:=by rw[List.getD_eq_getElem?_getD,hx];rfl
  rw[e1,e2] at hR
  obtain⟨sa,ys,rfl,hs⟩:=hZ _ rv
  walk_at "rd"
  exact aI ((qu.trans s2).bD hs) (v:=.int (PG.az pr.body)[i].row) (au (j:=1) rfl) hR
 ·have:=congrArg List.length ep
  simp only[List.length_map,List.length_range] at this
  lia
 clear xm
 have ek:ps.map (fun q=>(q.2.1,q.2.2))=cV (PG.az pr.body) us:=by
  rw[show (fun q:Addr×Key×V=>(q.2.1,q.2.2))=(·.2) from rfl,ep,NN,BC NN]
 have nk:((cV (PG.az pr.body) us).map (·.1)).Nodup:=by
  rw[hJ _ _ NN]
  exact qN pw
 rw[ek,qX nk,show jz (Str.ofString "statements") (V.ref D8) [(Str.ofString "names",V.ref D1),(Str.ofString "sizes",V.ref D3),(Str.ofString "first",V.ref D6)]=[(Str.ofString "names",V.ref D1),(Str.ofString "sizes",V.ref D3),(Str.ofString "first",V.ref D6),(Str.ofString "statements",V.ref D8)] from rfl]
 have K1:=(qu.trans JX).trans (av.new YZ (.dK (cV (PG.az pr.body) us)))
 have d8:(upd JW D8 (.dK (cV (PG.az pr.body) us))) D8=some (.dK (cV (PG.az pr.body) us)):=ai
 generalize upd JW D8 (.dK (cV (PG.az pr.body) us))=Gv at *
 have WH:=K1 _ _ WE
 have n8:D8≠p:=cR d8 WH (by intro z;cases z)
 have Av:bc (·=p) H9 (upd Gv p (.ins t.aY dx [(Str.ofString "names",V.ref D1),(Str.ofString "sizes",V.ref D3),(Str.ofString "first",V.ref D6),(Str.ofString "statements",V.ref D8)])):=(bc.of K1).trans (bc.refl.put (O:=(·=p)) rfl _)
 have PH:(upd Gv p (.ins t.aY dx [(Str.ofString "names",V.ref D1),(Str.ofString "sizes",V.ref D3),(Str.ofString "first",V.ref D6),(Str.ofString "statements",V.ref D8)])) p=some (.ins t.aY dx [(Str.ofString "names",V.ref D1),(Str.ofString "sizes",V.ref D3),(Str.ofString "first",V.ref D6),(Str.ofString "statements",V.ref D8)]):=ai
 have d8:(upd Gv p (.ins t.aY dx [(Str.ofString "names",V.ref D1),(Str.ofString "sizes",V.ref D3),(Str.ofString "first",V.ref D6),(Str.ofString "statements",V.ref D8)])) D8=some (.dK (cV (PG.az pr.body) us)):=by rw[ay n8];exact d8
 generalize upd Gv p (.ins t.aY dx [(Str.ofString "names",V.ref D1),(Str.ofString "sizes",V.ref D3),(Str.ofString "first",V.ref D6),(Str.ofString "statements",V.ref D8)])=NO at *
 have d1:=Av _ _ n1 d1
 have d3:=Av _ _ n3 d3
 have d5:=Av _ _ n5 d5
 have d6:=Av _ _ n6 d6
 have WI:=lL WE Av _ _ QT
 have Av:=u9.trans Av
 have WJ:=pM hp Av _ _ rp
 walk_at "rd"
 simp only[AG,kA]
 walk_at "rd"
 refine⟨_,pr,rfl,WJ,hd,hf,fun l14 fv SR Gw abj K2 UC=>?_⟩
 obtain⟨ws,WK,Y0⟩:=E3 UC
 have WL:fv.length=(PG.aS pr.body 0).length:=by rw[UC.length,List.length_map]
 have lfl:(PG.aS pr.body 0).length=(PG.az pr.body).length:=by
  have h1:=congrArg List.length (PG.c9 pr.body 0)
  rw[List.length_map] at h1
  lia
 refine⟨l14,rfl,⟨_,.of K2⟩,fun D9 MA=>qR (K:=K) (r:=[]) (fun i=>(.inl ((PG.aS pr.body 0).getD i (0,.stop,[])).1,ws.getD i .ck)) (.of K2) (by lia) MA (fun i x H2 hx s2 R hR=>?_) (fun ps MB Gx VT L9 ep=>⟨D9,ps,rfl,.of VT,fun q hq=>.of (L9 q hq),?_,fun PJ PK=>⟨p,_,dx,_,rfl,av.new PK _ _ _ (Gx _ _ (Gw _ _ PH)),T.dh,T.fP,by simp,?_⟩⟩)⟩
 ·have li:i<(PG.aS pr.body 0).length:=by have:=(List.getElem?_eq_some_iff.mp hx).1;lia
  obtain⟨a,qq,e1,e2,q1,q2⟩:=Y0 i li
  rw[hx] at e1
  cases e1
  have g1:(PG.aS pr.body 0).getD i (0,.stop,[])=(PG.aS pr.body 0)[i]:=by rw[List.getD_eq_getElem?_getD,List.getElem?_eq_getElem li];rfl
  have g2:ws.getD i .ck=V.ref qq:=by rw[List.getD_eq_getElem?_getD,e2];rfl
  rw[g1,g2] at hR
  walk_at "rd"
  exact aI (s2.bD q1) (v:=.int (PG.aS pr.body 0)[i].1) (au (j:=0) rfl) (aI (s2.bD q1) (v:=.ref qq) (au (j:=2) rfl) hR)
 ·have:=congrArg List.length ep
  simp only[List.length_map,List.length_range] at this
  lia
 have ek:ps.map (fun q=>(q.2.1,q.2.2))=List.zipWith (fun r v=>(Sum.inl r.1,v)) (PG.aS pr.body 0) ws:=by
  rw[show (fun q:Addr×Key×V=>(q.2.1,q.2.2))=(·.2) from rfl,ep,WL,zK WK]
 have nk:((List.zipWith (fun r v=>((Sum.inl r.1:Key),v)) (PG.aS pr.body 0) ws).map (·.1)).Nodup:=by
  rw[BD WK]
  exact Dq pw
 rw[ek,qX nk,show jz (Str.ofString "ways") (V.ref PJ) [(Str.ofString "names",V.ref D1),(Str.ofString "sizes",V.ref D3),(Str.ofString "first",V.ref D6),(Str.ofString "statements",V.ref D8)]=[(Str.ofString "names",V.ref D1),(Str.ofString "sizes",V.ref D3),(Str.ofString "first",V.ref D6),(Str.ofString "statements",V.ref D8),(Str.ofString "ways",V.ref PJ)] from rfl]
 have Gy:=(Gw.trans Gx).trans (av.new PK (.dK (List.zipWith (fun r v=>(Sum.inl r.1,v)) (PG.aS pr.body 0) ws)))
 have SS:=Gx.trans (av.new PK (.dK (List.zipWith (fun r v=>(Sum.inl r.1,v)) (PG.aS pr.body 0) ws)))
 have QU:(upd MB PJ (.dK (List.zipWith (fun r v=>(Sum.inl r.1,v)) (PG.aS pr.body 0) ws))) PJ=some (.dK (List.zipWith (fun r v=>(Sum.inl r.1,v)) (PG.aS pr.body 0) ws)):=ai
 generalize upd MB PJ (.dK (List.zipWith (fun r v=>(Sum.inl r.1,v)) (PG.aS pr.body 0) ws))=QV at *
 have PL:=Gy _ _ PH
 have n10:PJ≠p:=cR QU PL (by intro z;cases z)
 have put:∀fs,bc (·=p) QV (upd QV p (.ins t.aY dx fs)):=fun fs=>bc.refl.put (O:=(·=p)) rfl _
 have uE:=fun fs=>(bc.of Gy).trans (put fs)
 have uA:=fun fs=>Av.trans (uE fs)
 refine q _ (fun b o n e=>uA _ b o n e) ⟨⟨dx,D1,D3,D6,D5,D8,PJ,us,ws,ai,uA _ _ _ (cR QQ hp (by intro z;cases z)) QQ,uE _ _ _ n1 d1,uE _ _ _ n3 d3,uE _ _ _ n6 d6,uE _ _ _ n5 d5,NN,uE _ _ _ n8 d8,lL PH (uE _) _ _ WI,WK,put _ _ _ n10 QU,fun i hi=>?_⟩⟩
 obtain⟨a,qq,e1,e2,q1,q2⟩:=Y0 i hi
 refine⟨qq,e2,?_⟩
 have q2:=SS.bD q2
 rcases q2 with (q2 |⟨o,q2⟩) |q2
 ·exact .inl (.inl (put _ _ _ (cR q2 PL (by intro z;cases z)) q2))
 ·exact .inl (.inr ⟨o,put _ _ _ (cR q2 PL (by intro z;cases z)) q2⟩)
 ·exact .inr q2
theorem MC{o:W}(ho:o=[43]\/o=[45]\/o=[42])(a b c:Int):cH (iw [] [((Sum.inr (Str.ofString "+"):Key),V.int a),(Sum.inr (Str.ofString "-"),V.int b),(Sum.inr (Str.ofString "*"),V.int c)]) (Sum.inr (S o))=some (V.int (if o=[43] then a else if o=[45] then b else c)):=by
 have nk:([(Sum.inr (Str.ofString "+"):Key),Sum.inr (Str.ofString "-"),Sum.inr (Str.ofString "*")]).Nodup:=by decide +kernel
 rw[hG _ [] (by simpa using nk),List.nil_append]
 have e1:(Sum.inr (Str.ofString "+"):Key)=Sum.inr (S [43]):=by decide +kernel
 have e2:(Sum.inr (Str.ofString "-"):Key)=Sum.inr (S [45]):=by decide +kernel
 have e3:(Sum.inr (Str.ofString "*"):Key)=Sum.inr (S [42]):=by decide +kernel
 have ne:∀x y:W,x≠y->¬(Sum.inr (S x):Key)=Sum.inr (S y):=fun x y n z=>n (lC.mp (Sum.inr.inj z))
 rw[e1,e2,e3]
 rcases ho with rfl |rfl |rfl
 ·rw[if_pos rfl,cI rfl]
 ·rw[if_neg (by decide),if_pos rfl,cJ (ne _ _ (by decide)),cI rfl]
 ·rw[if_neg (by decide),if_neg (by decide),cJ (ne _ _ (by decide)),cJ (ne _ _ (by decide)),cI rfl]
theorem JY(T:Tx K mg t){n:Nat}(kL:bQ P w K mg base fh n t.mW t.lV ["e", "values"] (NF K n)) :
 bQ P w K mg base fh (n+1) t.mW t.lV ["e", "values"] (NF K (n+1)):=by
 refine T.cW.F.kS Bx (fun vs H Q E h=>?_) (fun fD A outer s H vs Q E hr h=>?_)
 ·obtain⟨_,_,_,_,rfl,_⟩:=h
  rfl
 obtain⟨v,d,tr,kv,rfl,hv,hd,ok,ht,h6,q⟩:=h
 have nd:=Bx.nd
 have hu:=fE hr
 refine⟨_,[some v,some (.ref d),none,none,none],(ae (aL (i:=2) nd rfl (Or.inl rfl) (aD aN (pv 0) aj ak))
 (ae (bw (aK bT (pv 2) aV (aT _))
 (aq (aU (aD aN (pv 0) aj ak)))
 a9)
 (ae (bw (aK bT (pv 2) aV (aT _))
 (aq (aU (cm hu (pv 1) (aD aN (pv 0) aj ak) (fun _ _=>rfl))))
 a9)
 (ae (aL (i:=3) nd rfl (Or.inl rfl) (aG kL (hr.mono (by first|decide|omega)) rfl T.cW.m T.cW.F.kp T.cW.b .nil aX (aa (aD aN (pv 0) aj ak) (aa (pv 1) ah ag) ba)))
 (ae (aL (i:=4) nd rfl (Or.inl rfl) (aG kL (hr.mono (by first|decide|omega)) rfl T.cW.m T.cW.F.kp T.cW.b .nil aX (aa (aD aN (pv 0) aj ak) (aa (pv 1) ah ag) ba)))
 (ae (bw (aK bT (pv 2) aV (aT _))
 (aq (aU (bh dW (pv 3) (pv 4))))
 a9)
 (ae (bw (aK bT (pv 2) aV (aT _))
 (aq (aU (bh vJ (pv 3) (pv 4))))
 a9)
 (aq (aU (bh Eg (pv 3) (pv 4))))))))))),rfl,?_⟩
 have n1:¬("box":Str) = "number":=by decide +kernel
 cases tr with
 |num m=>
  unfold jk at hv
  simp only[Rep.bq,aQ.aJ,aQ.br,Rep.bE,Rep.bB] at hv
  obtain⟨a,xs,rfl,hS,_,_,rfl,rfl,_,_,rfl,rfl,rfl⟩:=hv
  walk_at "rd"
  refine aI hS rfl ?_
  walk_at "rd"
  rw[if_pos trivial]
  exact aI hS rfl (q _ (av.refl _))
 |box x=>
  unfold jk at hv
  simp only[Rep.bq,aQ.aJ,aQ.br,Rep.bE,Rep.bB] at hv
  obtain⟨a,xs,rfl,hS,_,_,rfl,rfl,_,_,rfl,rfl,rfl⟩:=hv
  walk_at "rd"
  refine aI hS rfl ?_
  walk_at "rd"
  rw[if_neg n1,if_pos trivial]
  obtain⟨i,e,_⟩:=ok
  have q:=q _ (av.refl _)
  rw[cy,Dc e] at q
  exact aI hS rfl ⟨d,.int i,rfl,pT.s hd e,q⟩
 |bin o l r=>
  unfold jk at hv
  simp only[Rep.bq,aQ.aJ,aQ.br,Rep.bE,Rep.bB] at hv
  obtain⟨a,xs,rfl,hS,_,_,rfl,rfl,vl,_,rfl,hl,vr,_,rfl,WM,rfl⟩:=hv
  obtain⟨ho,ol,or'⟩:=ok
  have n2:¬S o = "number":=by rcases ho with rfl |rfl |rfl<;>decide +kernel
  have n3:¬S o = "box":=by rcases ho with rfl |rfl |rfl<;>decide +kernel
  have e1:(S o = "+")↔o=[43]:=by rw[show ("+":Str)=S [43] from rfl,lC]
  have e2:(S o = "-")↔o=[45]:=by rw[show ("-":Str)=S [45] from rfl,lC]
  walk_at "rd"
  refine aI hS rfl ?_
  walk_at "rd"
  rw[if_neg n2,if_neg n3]
  have wl:=lM ol
  have wr:=lM or'
  rw[PG.mG] at ht h6
  refine aI hS rfl ⟨vl,d,l,kv,rfl,hl,hd,ol,by lia,by lia,fun H1 s1=>?_⟩
  refine aI (s1.bD hS) rfl ⟨vr,d,r,kv,rfl,WM.mono s1,s1 _ _ hd,or',by lia,by lia,fun H2 s2=>?_⟩
  walk_at "rd"
  have q:=q _ (s1.trans s2)
  rw[cy] at q
  refine b4 (fun c=>?_) (fun c=>?_)
  ·rw[if_pos (e1.mp c)] at q
   exact q
  rw[if_neg (fun z=>c (e1.mpr z))] at q
  refine b4 (fun c=>?_) (fun c=>?_)
  ·rw[if_pos (e2.mp c)] at q
   exact q
  rw[if_neg (fun z=>c (e2.mpr z))] at q
  exact⟨⟨zq wl (by lia),zq wr (by lia)⟩,q⟩
theorem uC(T:Tx K mg t):∀n,bQ P w K mg base fh n t.mW t.lV ["e", "values"] (NF K n)
 |0=>by
  have no:∀vs H Q E,¬NF K 0 vs H Q E:=fun vs H Q E h=>by obtain⟨_,_,_,_,_,_,_,_,h,_⟩:=h;lia
  exact⟨fun vs H Q E h=>absurd h (no vs H Q E),fun A outer s H args us vs Q E _ _ _ _ h=>absurd h (no vs H Q E)⟩
 |n+1=>JY T (uC T n)
theorem Gz(T:Tx K mg t){n:Nat}(cZ:bQ P w K mg base fh n t.fw t.fN ["e", "values"] (NF K n)) :
 bQ P w K mg base fh (n+1) t.fw t.fN ["e", "values"] (NF K (n+1)):=by
 refine T.a7.F.kS qp (fun vs H Q E h=>?_) (fun fD A outer s H vs Q E hr h=>?_)
 ·obtain⟨_,_,_,_,rfl,_⟩:=h
  rfl
 obtain⟨v,d,tr,kv,rfl,hv,hd,ok,ht,h6,q⟩:=h
 have nd:=qp.nd
 have hu:=fE hr
 refine⟨_,[some v,some (.ref d),none,none],(ae (bw (aK bT (aD aN (pv 0) aj ak) aV (aT _))
 (aq (aU (aD aN (pv 0) aj ak)))
 a9)
 (ae (bw (aK bT (aD aN (pv 0) aj ak) aV (aT _))
 (aq (aU (cm hu (pv 1) (aD aN (pv 0) aj ak) (fun _ _=>rfl))))
 a9)
 (ae (aL (i:=2) nd rfl (Or.inl rfl) (aG cZ (hr.mono (by first|decide|omega)) rfl T.a7.m T.a7.F.kp T.a7.b .nil aX (aa (aD aN (pv 0) aj ak) (aa (pv 1) ah ag) ba)))
 (ae (aL (i:=3) nd rfl (Or.inl rfl) (aG cZ (hr.mono (by first|decide|omega)) rfl T.a7.m T.a7.F.kp T.a7.b .nil aX (aa (aD aN (pv 0) aj ak) (aa (pv 1) ah ag) ba)))
 (aq (aU (cm hu (Ls (vT aV (bh dW (pv 2) (pv 3)) (vT aV (bh vJ (pv 2) (pv 3)) (vT aV (bh Eg (pv 2) (pv 3)) Lr))) rfl rfl (by simp) (by decide)) (aD aN (pv 0) aj ak) (fun _ _=>rfl)))))))),rfl,?_⟩
 have n1:¬("box":Str) = "number":=by decide +kernel
 cases tr with
 |num m=>
  unfold jk at hv
  simp only[Rep.bq,aQ.aJ,aQ.br,Rep.bE,Rep.bB] at hv
  obtain⟨a,xs,rfl,hS,_,_,rfl,rfl,_,_,rfl,rfl,rfl⟩:=hv
  walk_at "rd"
  refine aI hS rfl ⟨rfl,?_⟩
  rw[if_pos rfl]
  exact aI hS rfl (q _ (av.refl _))
 |box x=>
  unfold jk at hv
  simp only[Rep.bq,aQ.aJ,aQ.br,Rep.bE,Rep.bB] at hv
  obtain⟨a,xs,rfl,hS,_,_,rfl,rfl,_,_,rfl,rfl,rfl⟩:=hv
  walk_at "rd"
  refine aI hS rfl ⟨rfl,?_⟩
  rw[if_neg (fun z=>n1 (V.str.inj z))]
  refine aI hS rfl ⟨rfl,?_⟩
  rw[if_pos rfl]
  obtain⟨i,e,_⟩:=ok
  have q:=q _ (av.refl _)
  rw[cy,Dc e] at q
  exact aI hS rfl ⟨d,.int i,rfl,pT.s hd e,q⟩
 |bin o l r=>
  unfold jk at hv
  simp only[Rep.bq,aQ.aJ,aQ.br,Rep.bE,Rep.bB] at hv
  obtain⟨a,xs,rfl,hS,_,_,rfl,rfl,vl,_,rfl,hl,vr,_,rfl,WM,rfl⟩:=hv
  obtain⟨ho,ol,or'⟩:=ok
  have n2:¬S o = "number":=by rcases ho with rfl |rfl |rfl<;>decide +kernel
  have n3:¬S o = "box":=by rcases ho with rfl |rfl |rfl<;>decide +kernel
  walk_at "rd"
  refine aI hS rfl ⟨rfl,?_⟩
  rw[if_neg (fun z=>n2 (V.str.inj z))]
  refine aI hS rfl ⟨rfl,?_⟩
  rw[if_neg (fun z=>n3 (V.str.inj z))]
  have wl:=lM ol
  have wr:=lM or'
  rw[PG.mG] at ht h6
  refine aI hS rfl ⟨vl,d,l,kv,rfl,hl,hd,ol,by lia,by lia,fun H1 s1=>?_⟩
  refine aI (s1.bD hS) rfl ⟨vr,d,r,kv,rfl,WM.mono s1,s1 _ _ hd,or',by lia,by lia,fun H2 s2=>?_⟩
  simp only[Nl,zc]
  walk_at "rd"
  intro p hp
  refine⟨⟨zq wl (by lia),zq wr (by lia)⟩,ai,[(.inr (Str.ofString "+"),.int (cy (xw kv) l+cy (xw kv) r)),(.inr (Str.ofString "-"),.int (cy (xw kv) l-cy (xw kv) r)),(.inr (Str.ofString "*"),.int (cy (xw kv) l*cy (xw kv) r))],rfl,by simp,?_⟩
  have s3:=av.new hp (.dK [])
  have sE:av H2 (upd (upd H2 p (.dK [])) p (.dK (iw [] [(.inr (Str.ofString "+"),.int (cy (xw kv) l+cy (xw kv) r)),(.inr (Str.ofString "-"),.int (cy (xw kv) l-cy (xw kv) r)),(.inr (Str.ofString "*"),.int (cy (xw kv) l*cy (xw kv) r))]))):=by
   rw[K9]
   exact av.new hp _
  refine aI (((s1.trans s2).trans sE).bD hS) (v:=.str (S o)) (au (j:=0) rfl) ⟨p,.int (cy (xw kv) (.bin o l r)),rfl,pT.s ai ?_,q _ ((s1.trans s2).trans sE)⟩
  rw[cy]
  exact MC ho _ _ _
theorem qY(T:Tx K mg t):∀n,bQ P w K mg base fh n t.fw t.fN ["e", "values"] (NF K n)
 |0=>by
  have no:∀vs H Q E,¬NF K 0 vs H Q E:=fun vs H Q E h=>by obtain⟨_,_,_,_,_,_,_,_,h,_⟩:=h;lia
  exact⟨fun vs H Q E h=>absurd h (no vs H Q E),fun A outer s H args us vs Q E _ _ _ _ h=>absurd h (no vs H Q E)⟩
 |n+1=>Gz T (qY T n)
theorem u0(T:Tx K mg t):bQ P w K mg base fh 1 t.km t.kH ["chart", "parts"] (Gd K t.aY):=by
 refine T.fz.F.kS uX (fun vs H Q E h=>?_) (fun fD A outer s H vs Q E hr h=>?_)
 ·obtain⟨_,_,_,_,rfl,_⟩:=h
  rfl
 obtain⟨p,a,pr,us,rfl,co,ha,lu,nb,lb,q⟩:=h
 have nd:=uX.nd
 refine⟨_,[some (.ref p),some (.ref a)],(aq (aU (qQ rfl rfl T.oT rfl T.BB (aa (da (pv 0) rfl) (aa (pv 1) ah ag) pF)))),rfl,?_⟩
 obtain⟨dx,nl,sd,fa,va,st,wy,uu,ws,h1,h2,h3,_⟩:=co.at_
 walk_at "rd"
 simp only[Us]
 walk_at "rd"
 refine⟨p,_,dx,_,.ref nl,rfl,h1,T.dh,T.gv,rfl,?_⟩
 refine⟨nl,a,pr.aC.map fun b=>.inr (S b.name),us,rfl,?_,ha,by rw[List.length_map];exact lu,fun d hd=>?_⟩
 ·rw[List.map_map]
  exact .of h3
 ·rw[mM,hG _ [] (by rw[List.nil_append,kD _ _ lu];exact names_nodup nb),List.nil_append]
  exact q d _ (av.new hd _) hd ai
theorem BE(T:Tx K mg t):bQ P w K mg base fh 1 t.kn t.kI ["chart", "named"] (Ge K t.aY):=by
 refine T.i4.F.kS uY (fun vs H Q E h=>?_) (fun fD A outer s H vs Q E hr h=>?_)
 ·obtain⟨_,_,_,_,_,rfl,_⟩:=h
  rfl
 obtain⟨p,d,pr,aP,us,rfl,co,hd,lu,hv,lb,q⟩:=h
 have nd:=uY.nd
 have hu:=fE hr
 refine⟨_,[some (.ref p),some (.ref d)],(aq (aU (fK kR rfl T.sW PyProof.Rows.Boot.«tuple» (aa (jO (own:=["name"]) (ix:=[1]) rfl (by rfl) (by rfl) (dq (da (pv 0) rfl)) (fun _ _ _ _=>(bu (i:=0) (by show List.Nodup (["name", "named"]:List Str);decide +kernel) rfl (Or.inl rfl))) (fun _ _ _ _=>i9) (fun _ _ _ _=>(cm hu (pv 1) (pv 0) (fun _ _=>rfl)))) ah kB)))),rfl,?_⟩
 obtain⟨dx,nl,sd,fa,va,st,wy,uu,ws,h1,h2,h3,_⟩:=co.at_
 walk_at "rd"
 simp only[kA]
 walk_at "rd"
 have ln:(pr.aC.map fun b=>V.str (S b.name)).length=pr.aC.length:=List.length_map ..
 refine⟨p,_,dx,_,.ref nl,rfl,h1,T.dh,T.gv,rfl,nl,rfl,⟨_,.of h3⟩,fun D hD=>?_⟩
 refine j3 (K:=K) (r:=[some (V.ref d)]) (fun i=>us.getD i .ck) (.of h3) (by rw[ln];lia) hD (fun i x H2 hx s2 R hR=>?_) (fun H2 s2 h2=>⟨D,_,rfl,.inl ⟨.of h2,fun l hl=>?_⟩⟩)
 ·have li:i<pr.aC.length:=by have:=(List.getElem?_eq_some_iff.mp hx).1;rw[ln] at this;exact this
  rw[List.getElem?_map,List.getElem?_eq_getElem li] at hx
  cases hx
  have g:=hv i li
  have Y1:i<us.length:=by lia
  rw[List.getElem?_eq_getElem Y1] at g
  have e:us.getD i .ck=us[i]:=by rw[List.getD_eq_getElem?_getD,List.getElem?_eq_getElem Y1];rfl
  rw[e] at hR
  walk_at "rd"
  exact⟨d,us[i],rfl,pT.s (s2 _ _ hd) g,hR⟩
 ·have e:(List.range (pr.aC.map fun b=>V.str (S b.name)).length).map (fun i=>us.getD i .ck)=us:=by
   rw[ln,<- lu]
   have:=i0 (fun v:V=>v) V.ck us
   rw[List.map_id'] at this
   exact this
  rw[e]
  exact q l _ (s2.trans (av.new hl _)) (.of ai)
theorem qZ(T:Tx K mg t):bQ P w K mg base fh 1 t.lW t.mY ["chart", "row"] (Jr K t.aY):=by
 refine T.dY.F.kS wQ (fun vs H Q E h=>?_) (fun fD A outer s H vs Q E hr h=>?_)
 ·obtain⟨_,_,_,rfl,_⟩:=h
  rfl
 obtain⟨p,pr,row,rfl,co,pw,q⟩:=h
 have nd:=wQ.nd
 have hu:=fE hr
 obtain⟨E4,sY,sZ⟩:=T.wX
 refine⟨_,[some (.ref p),some (.int row)],(ae (bw (aK bT (pv 1) (rH rfl sY sZ) (aT _))
 (aq (aU aV))
 a9)
 (aq (aU (aD aN (cm hu (da (pv 0) rfl) (pv 1) (fun _ _=>rfl)) aj ak)))),rfl,?_⟩
 obtain⟨dx,nl,sd,fa,va,st,wy,uu,ws,h1,h2,h3,h4,h5,h6,h7,h8,h9,_⟩:=co.at_
 walk_at "rd"
 rcases q with ⟨rfl,q⟩ |⟨n0,i,hi,er,q⟩
 ·exact(if_pos rfl).mpr q
 ·refine(if_neg n0).mpr ⟨p,_,dx,_,.ref st,rfl,h1,T.dh,T.cP,rfl,?_⟩
  have li:i<uu.length:=by lia
  obtain⟨v,hv,rv⟩:=h9.get (i:=i) (d:=de (PG.az pr.body)[i]) (by rw[List.getElem?_map,List.getElem?_eq_getElem hi];rfl)
  have g:=oE _ _ h7 pw i hi v hv
  obtain⟨sa,ys,rfl,hs⟩:=hZ _ rv
  rw[er] at g
  exact⟨st,.ref sa,rfl,.inl ⟨_,.inl row,.inl h8,rfl,g.symm⟩,aI hs (v:=.str (fX (PG.az pr.body)[i].wd)) (au (j:=0) rfl) q⟩
theorem BF(T:Tx K mg t):bQ P w K mg base fh 4 t.sS t.sT ["chart", "standing"] (Mb K t.aY):=by
 have rh:=u0 (P:=P) (w:=w) (base:=base) T
 have kL:=uC (P:=P) (w:=w) (base:=base) T 3
 refine T.g8.F.kS By (fun vs H Q E h=>?_) (fun fD A outer s H vs Q E hr h=>?_)
 ·obtain⟨_,_,_,_,_,_,_,_,_,rfl,_⟩:=h
  rfl
 obtain⟨p,sa,pr,vals,i,hi,sg,l,r,rfl,co,ok,⟨va,MD,Ds⟩,lv,cp,tl,tr,q⟩:=h
 have nd:=By.nd
 have hu:=fE hr
 refine⟨_,[some (.ref p),some (.ref sa),none,none,none,none],(ae (aL (i:=2) nd rfl (Or.inl rfl) (cm hu (da (pv 0) rfl) (aD aN (pv 1) aj ak) (fun _ _=>rfl)))
 (ae (aL (i:=3) nd rfl (Or.inl rfl) (aG rh (hr.mono (by first|decide|omega)) rfl T.fz.m T.fz.F.kp T.fz.b .nil aX (aa (pv 0) (aa (aD aN (pv 1) aj ak) ah ba) ag)))
 (ae (aL (i:=4) nd rfl (Or.inl rfl) (aG kL (hr.mono (by first|decide|omega)) rfl T.cW.m T.cW.F.kp T.cW.b .nil aX (aa (aD aN (pv 2) aj ak) (aa (pv 3) ah ag) ba)))
 (ae (aL (i:=5) nd rfl (Or.inl rfl) (aG kL (hr.mono (by first|decide|omega)) rfl T.cW.m T.cW.F.kp T.cW.b .nil aX (aa (aD aN (pv 2) aj ak) (aa (pv 3) ah ag) ba)))
 (ae (bw (aK bT (aD aN (pv 2) aj ak) aV (aT _))
 (aq (aU (gX nT (pv 4) (pv 5) (aT _))))
 a9)
 (aq (aU (gX bT (pv 4) (pv 5) (aT _))))))))),rfl,?_⟩
 obtain⟨dx,nl,sd,fa,wa,st,wy,uu,ws,h1,h2,h3,h4,h5,h6,h7,h8,h9,_⟩:=co.at_
 have li:i<uu.length:=by lia
 obtain⟨v,hv,rv⟩:=h9.get (i:=i) (d:=de (PG.az pr.body)[i]) (by rw[List.getElem?_map,List.getElem?_eq_getElem hi];rfl)
 have g:=oE _ _ h7 ok.pw i hi v hv
 obtain⟨ta,w0,vl,vr,ys,rfl,hs,rl,rr⟩:=qS rv cp
 generalize (PG.az pr.body)[i]=sm at *
 have e1:(V.str (S sg)=V.str (Str.ofString "<"))↔sg=[60]:=by rw[show (Str.ofString "<":Str)=S [60] from rfl,V.str.injEq,lC]
 refine aw fun U1 ff=>?_
 walk_at "rd"
 refine⟨p,_,dx,_,.ref st,rfl,h1,T.dh,T.cP,rfl,?_⟩
 refine aI MD (v:=.int sm.row) (au (j:=0) rfl) ⟨st,.ref ta,rfl,.inl ⟨_,.inl sm.row,.inl h8,rfl,g.symm⟩,(ff _ _).mpr (aw fun U2 gI=>?_)⟩
 clear ff
 walk_at "rd"
 refine aI MD (v:=.ref va) (au (j:=1) rfl) ⟨p,va,pr,vals.map V.int,rfl,co,Ds,by rw[List.length_map];exact lv,ok.nb,ok.tS,fun d H2 s2 hd2 y2=>(gI _ _).mpr (aw fun U3 ik=>?_)⟩
 clear gI
 walk_at "rd"
 refine aI (s2.bD hs) (v:=vl) (au (j:=3) rfl) ⟨vl,d,l,_,rfl,rl.mono s2,y2,tl.1,by have:=tl.2;lia,by have:=tl.2;lia,fun H3 s3=>(ik _ _).mpr (aw fun U4 i7=>?_)⟩
 clear ik
 walk_at "rd"
 refine aI ((s2.trans s3).bD hs) (v:=vr) (au (j:=4) rfl) ⟨vr,d,r,_,rfl,rr.mono (s2.trans s3),s3 _ _ y2,tr.1,by have:=tr.2;lia,by have:=tr.2;lia,fun H4 s4=>(i7 _ _).mpr ?_⟩
 clear i7
 have q:=q _ ((s2.trans s3).trans s4)
 unfold gH at q
 walk_at "rd"
 refine aI (((s2.trans s3).trans s4).bD hs) (v:=.str (S sg)) (au (j:=2) rfl) ⟨rfl,b4 (fun e=>?_) (fun e=>?_)⟩
 ·rw[if_pos (e1.mp e)] at q
  exact q
 ·rw[if_neg (fun z=>e (e1.mpr z))] at q
  exact q
theorem pX(T:Tx K mg t):bQ P w K mg base fh 5 t.dN t.eV ["chart", "standing"] (Gg K t.aY):=by
 have vF:=BF (P:=P) (w:=w) (base:=base) T
 have mn:=qZ (P:=P) (w:=w) (base:=base) T
 refine T.cT.F.kS jH (fun vs H Q E h=>?_) (fun fD A outer s H vs Q E hr h=>?_)
 ·obtain⟨_,_,_,_,_,_,_,_,_,_,rfl,_⟩:=h
  rfl
 obtain⟨p,sa,pr,vals,i,hi,hf,sg,l,r,rfl,co,ok,oV,lv,cp,tl,tr,w0,w1,q⟩:=h
 have nd:=jH.nd
 have hu:=fE hr
 refine⟨_,[some (.ref p),some (.ref sa),none],(ae (aL (i:=2) nd rfl (Or.inl rfl) (aD aN (pv 1) aj ak))
 (ae (bw (mw (aG vF (hr.mono (by first|decide|omega)) rfl T.g8.m T.g8.F.kp T.g8.b .nil aX (aa (pv 0) (aa (pv 1) ah ag) ag)))
 (aq (aU (aZ (aa (aD aN (cm hu (da (pv 0) rfl) (pv 2) (fun _ _=>rfl)) aj ak) (aa (aD aN (pv 1) aj ak) ah ba) ba))))
 a9)
 (ae (bw (aK bT (aG mn (hr.mono (by first|decide|omega)) rfl T.dY.m T.dY.F.kp T.dY.b .nil aX (aa (pv 0) (aa (pv 2) ah ag) ag)) aV (aT _))
 (aq (aU eM))
 a9)
 (aq (aU (aZ (aa (aD aN (cm hu (da (pv 0) rfl) (pv 2) (fun _ _=>rfl)) aj ak) (aa (aD aN (pv 1) aj ak) ah ba) ba))))))),rfl,?_⟩
 obtain⟨va,MD,Ds⟩:=id oV
 have abm:=ok.pos _ (List.getElem_mem hi)
 refine aw fun U1 ff=>?_
 walk_at "rd"
 refine aI MD (v:=.int (PG.az pr.body)[i].row) (au (j:=0) rfl) ((ff _ _).mpr ?_)
 clear ff
 walk_at "rd"
 refine⟨p,sa,pr,vals,i,hi,sg,l,r,rfl,co,ok,oV,lv,cp,tl,tr,fun H2 s2=>?_⟩
 obtain⟨dx,fs,wy,wq,g1,g2,g3,g4⟩:=(co.mono s2).way ok i hi hf
 have qq:∀(j:Nat) (x:Int),(PG.aS pr.body 0)[i].2.2[j]?=some x->qJ ((PG.aS pr.body 0)[i].2.2.map V.int) (j:Int)=some (V.int x):=fun j x e=>au (by rw[List.getElem?_map,e];rfl)
 have back:∀(x:Int) (H3:Hp),av H2 H3->∀pp,H3 pp=none->kE K (upd H3 pp (.tup [V.int x,V.ref va])) (some (x,vals)) (.ref pp):=fun x H3 s3 pp K3=>⟨pp,rfl,va,.of ai,((s2.trans s3).trans (av.new K3 _)).bD Ds⟩
 unfold iC at q
 rw[cp] at q
 simp only at q
 refine⟨_,rfl,b4 (fun e=>?_) (fun e=>?_)⟩
 ·rw[if_pos e] at q
  have e0:(PG.aS pr.body 0)[i].2.2[0]?=some ((PG.aS pr.body 0)[i].2.2.getD 0 0):=by rw[List.getD_eq_getElem?_getD,List.getElem?_eq_getElem w0];rfl
  refine⟨p,_,dx,fs,.ref wy,rfl,g1,T.dh,T.fP,g2,wy,.ref wq,rfl,g3,aI g4 (v:=.int ((PG.aS pr.body 0)[i].2.2.getD 0 0)) (qq 0 _ e0) (aI (s2.bD MD) (v:=.ref va) (au (j:=1) rfl) fun pp K3=>?_)⟩
  exact q _ _ (s2.trans (av.new K3 _)) (back _ _ (av.refl _) pp K3)
 ·rw[if_neg e] at q
  refine⟨p,pr,_,rfl,co.mono s2,ok.pw,.inr ⟨by lia,i,hi,rfl,rfl,b4 (fun e2=>?_) (fun e2=>?_)⟩⟩
  ·have ew:(PG.az pr.body)[i].wd=.b8:=(oC _).mp e2
   rw[if_pos ew] at q
   exact q _ _ s2 rfl
  ·have ew:(PG.az pr.body)[i].wd≠.b8:=fun z=>e2 ((oC _).mpr z)
   rw[if_neg ew] at q
   have w1:=w1 ew
   have e1:(PG.aS pr.body 0)[i].2.2[1]?=some ((PG.aS pr.body 0)[i].2.2.getD 1 0):=by rw[List.getD_eq_getElem?_getD,List.getElem?_eq_getElem w1];rfl
   refine⟨p,_,dx,fs,.ref wy,rfl,g1,T.dh,T.fP,g2,wy,.ref wq,rfl,g3,aI g4 (v:=.int ((PG.aS pr.body 0)[i].2.2.getD 1 0)) (qq 1 _ e1) (aI (s2.bD MD) (v:=.ref va) (au (j:=1) rfl) fun pp K3=>?_)⟩
   exact q _ _ (s2.trans (av.new K3 _)) (back _ _ (av.refl _) pp K3)
theorem E5:∀w:PG.Wd,Lk (V.str (fX w)) [V.str (Str.ofString "must"),V.str (Str.ofString "if"),V.str (Str.ofString "while")]=decide (w=.b8\/w=.ifs\/w=.fe):=by
 intro w
 cases w<;>decide +kernel
theorem Dt:∀w:PG.Wd,(fX w=Str.ofString "ask")↔w=.ask:=by
 intro w
 cases w<;>decide +kernel
theorem ME:∀w:PG.Wd,(fX w=Str.ofString "put")↔w=.put:=by
 intro w
 cases w<;>decide +kernel
theorem MF:∀w:PG.Wd,(fX w=Str.ofString "say")↔w=.say:=by
 intro w
 cases w<;>decide +kernel
theorem kE.mono{H H':Hp}{o:Option (Int×List Int)}{v:V}(h:kE K H o v)(s:av H H'):kE K H' o v:=by
 cases o with
 |none=>exact h
 |some x=>obtain⟨a,e,sa⟩:=h;exact⟨a,e,sa.mono s⟩
theorem cond_of{bs:List PG.fV}{vals:List Int}{st:PG.bF}(h:st.wd=.b8\/st.wd=.ifs\/st.wd=.fe)(po:EK bs vals st):∃sg l r,oH st=some (sg,l,r)/\B9 bs vals l/\B9 bs vals r/\∀ws zt,ji bs st ws vals zt=(iC bs st ws vals,none):=by
 cases st<;>simp only[PG.bF.wd,reduceCtorEq,or_self,or_false,false_or] at h<;>exact⟨_,_,_,rfl,po.1,po.2,fun _ _=>rfl⟩
theorem JZ{st:PG.bF}(h:st.wd=.ask):∃k b,st=.ask k b:=by
 cases st<;>first |exact⟨_,_,rfl⟩ |cases h
theorem J0{st:PG.bF}(h:st.wd=.put):∃k b e,st=.put k b e:=by
 cases st<;>first |exact⟨_,_,_,rfl⟩ |cases h
theorem J7{st:PG.bF}(h:st.wd=.say):∃k e,st=.say k e:=by
 cases st<;>first |exact⟨_,_,rfl⟩ |cases h
theorem MG{st:PG.bF}(h0:¬(st.wd=.b8\/st.wd=.ifs\/st.wd=.fe))(h1:st.wd≠.ask)(h2:st.wd≠.put)(h3:st.wd≠.say):∃k,st=.stop k:=by
 cases st<;>simp only[PG.bF.wd,reduceCtorEq,or_self,or_false,false_or,not_true,not_false_iff,ne_eq] at h0 h1 h2 h3<;>exact⟨_,rfl⟩
theorem yI{H:Hp}{k:Int}{b:W}{v:V}(h:Rep K H (de (.ask k b)) v):∃a,v=.ref a/\c5 K H a [.str "ask",.int k,.str (S b)]:=by
 simp only[de,Rep.bq,aQ.aJ,aQ.br,Rep.bE,Rep.bB] at h
 obtain⟨a,ys,rfl,hS,_,_,rfl,rfl,_,_,rfl,rfl,_,_,rfl,rfl,rfl⟩:=h
 exact⟨a,rfl,hS⟩
theorem yJ{H:Hp}{k:Int}{b:W}{e:PM.Tr}{v:V}(h:Rep K H (de (.put k b e)) v):∃a u,v=.ref a/\c5 K H a [.str "put",.int k,.str (S b),u]/\Rep K H (jk e) u:=by
 simp only[de,Rep.bq,aQ.aJ,aQ.br,Rep.bE,Rep.bB] at h
 obtain⟨a,ys,rfl,hS,_,_,rfl,rfl,_,_,rfl,rfl,_,_,rfl,rfl,u,_,rfl,ru,rfl⟩:=h
 exact⟨a,u,rfl,hS,ru⟩
theorem yK{H:Hp}{k:Int}{e:PM.Tr}{v:V}(h:Rep K H (de (.say k e)) v):∃a u,v=.ref a/\c5 K H a [.str "say",.int k,u]/\Rep K H (jk e) u:=by
 simp only[de,Rep.bq,aQ.aJ,aQ.br,Rep.bE,Rep.bB] at h
 obtain⟨a,ys,rfl,hS,_,_,rfl,rfl,_,_,rfl,rfl,u,_,rfl,ru,rfl⟩:=h
 exact⟨a,u,rfl,hS,ru⟩
theorem yV(vals:List Int)(j:Nat)(x:Int):(vals.map V.int).set j (.int x)=(vals.set j x).map V.int:=by
 rw[List.map_set]
theorem pQ{bs:List PG.fV}(bp:∀b∈bs,0<b.size)(x:W):0<eT bs x:=by
 unfold eT
 cases e:bs[dg bs x]? with
 |none=>decide
 |some b=>exact bp b (List.mem_of_getElem? e)
theorem Du(T:Tx K mg t):bQ P w K mg base fh 6 t.lX t.mZ ["chart", "standing", "figure"] (Js K t.aY):=by
 have rj:=pX (P:=P) (w:=w) (base:=base) T
 have rh:=u0 (P:=P) (w:=w) (base:=base) T
 have Dv:=BE (P:=P) (w:=w) (base:=base) T
 have kL:=uC (P:=P) (w:=w) (base:=base) T 3
 refine T.j7.F.kS wR (fun vs H Q E h=>?_) (fun fD A outer s H vs Q E hr h=>?_)
 ·obtain⟨_,_,_,_,_,_,_,_,_,rfl,_⟩:=h
  rfl
 obtain⟨p,sa,fv,pr,vals,zt,i,hi,hf,rfl,co,ok,bp,oV,lv,PN,po,w0,w1,q⟩:=h
 have nd:=wR.nd
 have hu:=fE hr
 refine⟨_,[some (.ref p),some (.ref sa),some fv,none,none,none,none,none],(ae (aL (i:=3) nd rfl (Or.inl rfl) (aD aN (pv 1) aj ak))
 (ae (aL (i:=4) nd rfl (Or.inl rfl) (cm hu (da (pv 0) rfl) (pv 3) (fun _ _=>rfl)))
 (ae (aL (i:=5) nd rfl (Or.inl rfl) (aD aN (pv 4) aj ak))
 (ae (bw (aK iU (pv 5) (aZ (cO (vs:=[.str "must",.str "if",.str "while"]) (by kernel_rfl))) rfl)
 (aq (aU (aZ (aa (aG rj (hr.mono (by first|decide|omega)) rfl T.cT.m T.cT.F.kp T.cT.b .nil aX (aa (pv 0) (aa (pv 1) ah ag) ag)) (aa eM ah aR) bM))))
 a9)
 (ae (aL (i:=6) nd rfl (Or.inl rfl) (aG rh (hr.mono (by first|decide|omega)) rfl T.fz.m T.fz.F.kp T.fz.b .nil aX (aa (pv 0) (aa (aD aN (pv 1) aj ak) ah ba) ag)))
 (ae (aL (i:=7) nd rfl (Or.inl rfl) eM)
 (ae (bw (aK bT (pv 5) aV (aT _))
 (aq (mB hu (pv 6) (aD aN (pv 4) aj ak) (bh cu (pv 2) (cm hu (da (pv 0) rfl) (aD aN (pv 4) aj ak) (fun _ _=>rfl))) rfl))
 (aq (bw (aK bT (pv 5) aV (aT _))
 (aq (mB hu (pv 6) (aD aN (pv 4) aj ak) (bh cu (aG kL (hr.mono (by first|decide|omega)) rfl T.cW.m T.cW.F.kp T.cW.b .nil aX (aa (aD aN (pv 4) aj ak) (aa (pv 6) ah ag) ba)) (cm hu (da (pv 0) rfl) (aD aN (pv 4) aj ak) (fun _ _=>rfl))) rfl))
 (aq (bw (aK bT (pv 5) aV (aT _))
 (aq (aL (i:=7) nd rfl (Or.inl rfl) (aG kL (hr.mono (by first|decide|omega)) rfl T.cW.m T.cW.F.kp T.cW.b .nil aX (aa (aD aN (pv 4) aj ak) (aa (pv 6) ah ag) ba))))
 a9)))))
 (aq (aU (aZ (aa (aZ (aa (aD aN (cm hu (da (pv 0) rfl) (pv 3) (fun _ _=>rfl)) aj ak) (aa (aG Dv (hr.mono (by first|decide|omega)) rfl T.i4.m T.i4.F.kp T.i4.b .nil aX (aa (pv 0) (aa (pv 6) ah ag) ag)) ah bM) ba)) (aa (pv 7) ah ag) cE))))))))))),rfl,?_⟩
 obtain⟨va,MD,Ds⟩:=id oV
 obtain⟨dx,nl,sd,fa,va',st,wy,uu,ws,h1,h2,h3,h4,h5,h6,h7,h8,h9,_⟩:=co.at_
 have li:i<uu.length:=by lia
 obtain⟨v,hv,rv⟩:=h9.get (i:=i) (d:=de (PG.az pr.body)[i]) (by rw[List.getElem?_map,List.getElem?_eq_getElem hi];rfl)
 have g:=oE _ _ h7 ok.pw i hi v hv
 have sel:∃ta ds,v=.ref ta/\c5 K H ta (.str (fX (PG.az pr.body)[i].wd)::ds):=by
  generalize (PG.az pr.body)[i]=sm at rv
  cases sm<;>(rw[de,Rep.bq] at rv;obtain⟨ta,ys,rfl,hs,rs⟩:=rv;rw[aQ.aJ] at rs;obtain⟨v0,t0,rfl,e0,rs⟩:=rs;rw[Rep.bE] at e0;subst e0;exact⟨ta,_,rfl,hs⟩)
 obtain⟨ta,ds,rfl,hs⟩:=sel
 refine aw fun U1 ff=>?_
 walk_at "rd"
 refine aI MD (v:=.int (PG.az pr.body)[i].row) (au (j:=0) rfl) ((ff _ _).mpr (aw fun U2 gI=>?_))
 clear ff
 walk_at "rd"
 refine⟨p,_,dx,_,.ref st,rfl,h1,T.dh,T.cP,rfl,⟨st,.ref ta,rfl,.inl ⟨_,.inl _,.inl h8,rfl,g.symm⟩,(gI _ _).mpr (aw fun U3 ik=>?_)⟩⟩
 clear gI
 walk_at "rd"
 refine aI hs (v:=.str (fX (PG.az pr.body)[i].wd)) (au (j:=0) rfl) ((ik _ _).mpr ?_)
 clear ik
 refine aw fun U4 i7=>?_
 walk_at "rd"
 intro z hz
 have sz:=av.new hz (HO.tup [V.str (Str.ofString "must"),V.str (Str.ofString "if"),V.str (Str.ofString "while")])
 refine⟨z,_,rfl,.inr (.of ai),rfl,rfl,_,rfl,b4 (fun e=>?_) (fun e=>?_)⟩
 ·have e:=e
  simp only[Bool.false_eq_true,if_false,E5,decide_eq_true_eq] at e
  obtain⟨sg,l,r,cp,tl,tr,es⟩:=cond_of e po
  rw[es] at q
  refine⟨p,sa,pr,vals,i,hi,hf,sg,l,r,rfl,co.mono sz,ok,oV.mono sz,lv,cp,tl,tr,w0,fun nm=>w1 (by rcases e with e |e |e;exact absurd e nm;exact .inl e;exact .inr e),fun v H2 s2 os pp K3=>?_⟩
  exact q pp v _ ((sz.trans s2).trans (av.new K3 _)) (.of ai) (kE.mono os (av.new K3 _))
 have e0:=e
 simp only[Bool.false_eq_true,if_false,E5,decide_eq_true_eq] at e0
 refine(i7 _ _).mpr (aw fun U5 tf=>?_)
 clear i7 e
 walk_at "rd"
 refine aI (sz.bD MD) (v:=.ref va) (au (j:=1) rfl) ⟨p,va,pr,vals.map V.int,rfl,co.mono sz,sz.bD Ds,by rw[List.length_map];exact lv,ok.nb,ok.tS,fun d H2 s2' hd2 y2=>(tf _ _).mpr (aw fun U6 xm=>?_)⟩
 clear tf
 have s2:=sz.trans s2'
 have hd:=sz.free hd2
 walk_at "rd"
 refine(xm _ _).mpr (aw fun U7 J8=>?_)
 clear xm
 have fin:∀(H5:Hp) (aP:List (Key×V)) (us:List Int) (sd:Option Int),av H H5->H5 d=some (.dK aP)->us.length=pr.aC.length->(∀i (hi:i<pr.aC.length),cH aP (.inr (S pr.aC[i].name))=(us.map V.int)[i]?)->
  ji pr.aC (PG.az pr.body)[i] (PG.aS pr.body 0)[i].2.2 vals zt=(some ((PG.aS pr.body 0)[i].2.2.getD 0 0,us),sd)->
  U7 [some (.ref p),some (.ref sa),some fv,some (.int (PG.az pr.body)[i].row),some (.ref ta),some (.str (fX (PG.az pr.body)[i].wd)),some (.ref d),some (yw sd)] H5:=by
  intro H5 aP us sd' s5 hd5 lu look es
  rw[es] at q
  refine(J8 _ _).mpr ?_
  clear J8
  walk_at "rd"
  obtain⟨dx,fs,wy,wq,g1,g2,g3,g4⟩:=(co.mono s5).way ok i hi hf
  have e0:(PG.aS pr.body 0)[i].2.2[0]?=some ((PG.aS pr.body 0)[i].2.2.getD 0 0):=by rw[List.getD_eq_getElem?_getD,List.getElem?_eq_getElem w0];rfl
  have qq:qJ ((PG.aS pr.body 0)[i].2.2.map V.int) ((0:Nat):Int)=some (V.int ((PG.aS pr.body 0)[i].2.2.getD 0 0)):=au (by rw[List.getElem?_map,e0];rfl)
  refine⟨p,_,dx,fs,.ref wy,rfl,g1,T.dh,T.fP,g2,wy,.ref wq,rfl,g3,aI g4 (v:=.int ((PG.aS pr.body 0)[i].2.2.getD 0 0)) qq ?_⟩
  refine⟨p,d,pr,aP,us.map V.int,rfl,co.mono s5,hd5,by rw[List.length_map];exact lu,look,ok.tS,fun a H6 s6 sq p1 GZ p2 xt=>?_⟩
  exact q p2 _ _ (((s5.trans s6).trans (av.new GZ _)).trans (av.new xt _)) (.of ai) ⟨p1,rfl,a,(av.new xt _).bD (.of ai),((av.new GZ _).trans (av.new xt _)).bD sq⟩
 have SU:(cF pr.aC (vals.map V.int)).length<sizeLine:=by
  have line:sizeLine=2 ^ 24:=rfl
  have:=ok.tS
  unfold cF
  rw[List.length_zipWith]
  lia
 have keep:∀i (hi:i<pr.aC.length),cH (cF pr.aC (vals.map V.int)) (.inr (S pr.aC[i].name))=(vals.map V.int)[i]?:=fun i hi=>by
  have li:i<(vals.map V.int).length:=by rw[List.length_map];lia
  rw[lN pr.aC (vals.map V.int) (by rw[List.length_map];exact lv) ok.nb i hi _ (List.getElem?_eq_getElem li),List.getElem?_eq_getElem li]
 have put:∀(b:W),b∈pr.aC.map (·.name)->∀(x:Int),(sH pr.aC vals b x).length=pr.aC.length/\∀i (hi:i<pr.aC.length),cH (putK (cF pr.aC (vals.map V.int)) (.inr (S b)) (.int x)) (.inr (S pr.aC[i].name))=((sH pr.aC vals b x).map V.int)[i]?:=fun b hb x=>by
  refine⟨by unfold sH;rw[List.length_set];exact lv,fun i hi=>?_⟩
  rw[Dd (by rw[List.length_map];exact lv) ok.nb hb,yV]
  rfl
 have SV:∀H3 o,av H H3->av H (upd H3 d o):=fun H3 o s3=>((bz.of s3:bz d H H3).put o).same hd
 walk_at "rd"
 refine b4 (fun e=>?_) (fun e=>?_)
 ·obtain⟨k,b,K4⟩:=JZ ((Dt _).mp e)
  have rv:=rv
  rw[K4] at rv po
  obtain⟨_,ee,hT⟩:=yI rv
  cases ee
  have WN:=PN ((Dt _).mp e)
  subst WN
  obtain⟨l1,l2⟩:=put b po (zt%eT pr.aC b)
  refine⟨p,_,dx,_,.ref sd,rfl,s2 _ _ h1,T.dh,T.gw,rfl,aI (s2.bD hT) (v:=.str (S b)) (au (j:=2) rfl) ⟨sd,.int (eT pr.aC b),rfl,.inl ⟨_,.inr (S b),.inl (s2 _ _ h4),rfl,(Bn ok.nb po).symm⟩,?_⟩⟩
  refine⟨_,_,rfl,rfl,pQ bp b,aI (s2.bD hT) (v:=.str (S b)) (au (j:=2) rfl) ⟨d,_,rfl,.inl ⟨_,.inr (S b),y2,rfl,SU,rfl⟩,?_⟩⟩
  exact fin _ _ _ none (SV _ _ s2) ai l1 l2 (by rw[K4];rfl)
 refine b4 (fun e2=>?_) (fun e2=>?_)
 ·obtain⟨k,b,tr,K4⟩:=J0 ((ME _).mp e2)
  have rv:=rv
  rw[K4] at rv po
  obtain⟨_,u,ee,hT,ru⟩:=yJ rv
  cases ee
  obtain⟨l1,l2⟩:=put b po.1 (wv pr.aC vals tr%eT pr.aC b)
  refine aI (s2.bD hT) (v:=u) (au (j:=3) rfl) ⟨u,d,tr,_,rfl,ru.mono s2,y2,po.2.1,by have:=po.2.2;lia,by have:=po.2.2;lia,fun H3 SW=>?_⟩
  have s3:=s2.trans SW
  refine⟨p,_,dx,_,.ref sd,rfl,s3 _ _ h1,T.dh,T.gw,rfl,aI (s3.bD hT) (v:=.str (S b)) (au (j:=2) rfl) ⟨sd,.int (eT pr.aC b),rfl,.inl ⟨_,.inr (S b),.inl (s3 _ _ h4),rfl,(Bn ok.nb po.1).symm⟩,?_⟩⟩
  refine⟨_,_,rfl,rfl,pQ bp b,aI (s3.bD hT) (v:=.str (S b)) (au (j:=2) rfl) ⟨d,_,rfl,.inl ⟨_,.inr (S b),SW _ _ y2,rfl,SU,rfl⟩,?_⟩⟩
  exact fin _ _ _ none (SV _ _ s3) ai l1 l2 (by rw[K4];rfl)
 refine b4 (fun e3=>?_) (fun e3=>?_)
 ·obtain⟨k,tr,K4⟩:=J7 ((MF _).mp e3)
  have rv:=rv
  rw[K4] at rv po
  obtain⟨_,u,ee,hT,ru⟩:=yK rv
  cases ee
  refine aI (s2.bD hT) (v:=u) (au (j:=2) rfl) ⟨u,d,tr,_,rfl,ru.mono s2,y2,po.1,by have:=po.2;lia,by have:=po.2;lia,fun H3 SW=>?_⟩
  exact fin _ _ _ (some _) (s2.trans SW) (SW _ _ y2) lv keep (by rw[K4];rfl)
 obtain⟨k,K4⟩:=MG e0 (fun z=>e ((Dt _).mpr z)) (fun z=>e2 ((ME _).mpr z)) (fun z=>e3 ((MF _).mpr z))
 exact fin _ _ _ none s2 y2 lv keep (by rw[K4];rfl)
theorem tj(T:Tx K mg t):bQ P w K mg base fh 1 t.bP t.gu ["self"] (Jy K t.aY t.bZ):=by
 refine T.eW.kS jq (fun vs H Q E h=>?_) (fun fD A outer s H vs Q E hr h=>?_)
 ·obtain⟨_,_,_,_,_,_,_,_,rfl,_⟩:=h
  rfl
 obtain⟨wk,ch,fl,pr,aW,n,row,vals,rfl,wo,q⟩:=h
 have nd:=jq.nd
 obtain⟨E4,sY,sZ⟩:=T.wX
 refine⟨_,[some (.ref wk)],(aq (bw (aK bT (aD aN (da (pv 0) rfl) aj ak) (rH rfl sY sZ) (aT _))
 (aq (iq (pv 0) (aZ (aa aV ah aR)) rfl))
 a9)),rfl,?_⟩
 obtain⟨dx,sa,ev,hw,oV,he⟩:=wo.at_
 obtain⟨va,vi,xi⟩:=id oV
 walk_at "rd"
 refine⟨wk,_,dx,_,.ref sa,rfl,hw,T.b6,T.bS,rfl,aI vi (v:=.int row) (au (j:=0) rfl) ⟨rfl,b4 (fun e=>fun p hp=>?_) (fun e=>?_)⟩⟩
 ·have e:=V.int.inj e
  have s1:=av.new hp (.tup [V.str (Str.ofString "end")])
  refine⟨wk,_,dx,_,rfl,s1 _ _ hw,T.b6,T.gx,(show 5<1000 by decide),?_⟩
  refine q _ ((bz.of s1).put _) ?_
  unfold PG.endAt
  rw[if_pos e]
  exact(wo.mono s1).put (s1 _ _ hw) (oV.mono s1) ⟨p,rfl,.of ai⟩
 ·refine q _ (.refl _ _) ?_
  unfold PG.endAt
  rw[if_neg (fun z=>e (by rw[z]))]
  exact wo
theorem zL(T:Tx K mg t):bQ P w K mg base fh 2 t.eG t.m9 ["self", "chart", "figures"] (Jx K t.aY t.bZ):=by
 have gJ:=tj (P:=P) (w:=w) (base:=base) T
 refine T.kK.kS sR (fun vs H Q E h=>?_) (fun fD A outer s H vs Q E hr h=>?_)
 ·obtain⟨_,_,_,_,_,_,rfl,_⟩:=h
  rfl
 obtain⟨wk,dx,ch,fl,pr,aW,rfl,hw,co,hf,q⟩:=h
 have nd:=sR.nd
 refine⟨_,[some (.ref wk),some (.ref ch),some (.ref fl)],(ae (iq (pv 0) (pv 1) rfl)
 (ae (iq (pv 0) (pv 2) rfl)
 (ae (iq (pv 0) aj rfl)
 (ae (iq (pv 0) (da (pv 1) rfl) rfl)
 (ae (iq (pv 0) eM rfl)
 (aq (bX (nU (pv 0) T.b6 T.jJ gJ (hr.mono (by first|decide|omega)) T.jI .nil aX)))))))),rfl,?_⟩
 obtain⟨cdx,nl,sd,fa,va,st,wy,us,ws,h1,h2,h3,h4,h5,h6,Y2⟩:=co.at_
 have nc:ch≠wk:=cR h1 hw (by intro z;injection z with _ _ z;cases z)
 walk_at "rd"
 refine⟨wk,_,dx,_,rfl,hw,T.b6,T.gU,by decide,?_⟩
 refine⟨wk,_,dx,_,rfl,ai,T.b6,T.fI,Nat.lt_of_le_of_lt (iD (Nat.le_refl 0)) (by decide),?_⟩
 refine⟨wk,_,dx,_,rfl,ai,T.b6,T.fQ,Nat.lt_of_le_of_lt (iD (iD (Nat.le_refl 0))) (by decide),?_⟩
 refine⟨ch,_,cdx,_,.ref fa,rfl,by rw[ay nc,ay nc,ay nc];exact h1,T.dh,T.iN,rfl,?_⟩
 refine⟨wk,_,dx,_,rfl,ai,T.b6,T.bS,Nat.lt_of_le_of_lt (iD (iD (iD (Nat.le_refl 0)))) (by decide),?_⟩
 refine⟨wk,_,dx,_,rfl,ai,T.b6,T.gx,Nat.lt_of_le_of_lt (iD (iD (iD (iD (Nat.le_refl 0))))) (by decide),?_⟩
 have oV:df K H fa (PG.bg pr.body 0) (pr.aC.map (·.first)):=⟨va,.of h5,.of (by rw[List.map_map];exact h6)⟩
 have u5:=fun o1 o2 o3 o4 o5=>(((((bz.refl wk H).put o1).put o2).put o3).put o4).put o5
 refine⟨wk,dx,_,rfl,ai,rfl,wk,ch,fl,pr,aW,0,_,_,rfl,⟨⟨dx,fa,.ck,ai,oV.ins hw (u5 _ _ _ _ _),rfl⟩,co.ins hw nc (u5 _ _ _ _ _),hf.ins hw (u5 _ _ _ _ _),nc⟩,fun H6 u6 w6=>q _ ((u5 _ _ _ _ _).trans u6) w6⟩
theorem vc(T:Tx K mg t):bQ P w K mg base fh 2 t.cg t.iM ["self"] (Mf K t.aY t.bZ):=by
 have mn:=qZ (P:=P) (w:=w) (base:=base) T
 refine T.gG.kS kG (fun vs H Q E h=>?_) (fun fD A outer s H vs Q E hr h=>?_)
 ·obtain⟨_,_,_,_,_,_,_,_,_,_,rfl,_⟩:=h
  rfl
 obtain⟨wk,ch,fl,pr,aW,n,vals,e,i,hi,rfl,ok,wo,q⟩:=h
 have nd:=kG.nd
 refine⟨_,[some (.ref wk)],(aq (aU (gX bT (aG mn (hr.mono (by first|decide|omega)) rfl T.dY.m T.dY.F.kp T.dY.b .nil aX (aa (da (pv 0) rfl) (aa (aD aN (da (pv 0) rfl) aj ak) ah ba) pF)) aV (aT _)))),rfl,?_⟩
 obtain⟨dx,sa,ev,hw,⟨va,vi,xi⟩,he⟩:=wo.at_
 have pos:=ok.pos _ (List.getElem_mem hi)
 walk_at "rd"
 refine⟨wk,_,dx,_,.ref ch,rfl,hw,T.b6,T.gU,rfl,wk,_,dx,_,.ref sa,rfl,hw,T.b6,T.bS,rfl,aI vi (v:=.int (PG.az pr.body)[i].row) (au (j:=0) rfl) ⟨ch,pr,_,rfl,wo.SI,ok.pw,.inr ⟨by lia,i,hi,rfl,?_⟩⟩⟩
 have e:decide (V.str (fX (PG.az pr.body)[i].wd)=V.str (Str.ofString "ask"))=decide ((PG.az pr.body)[i].wd=.ask):=decide_eq_decide.mpr ⟨fun z=>(Dt _).mp (V.str.inj z),fun z=>congrArg V.str ((Dt _).mpr z)⟩
 refine⟨rfl,?_⟩
 rw[e]
 exact q
theorem Dw(T:Tx K mg t):bQ P w K mg base fh 7 t.dy t.kZ ["self"] (Pn K t.aY t.bZ):=by
 have gJ:=tj (P:=P) (w:=w) (base:=base) T
 have i8:=vc (P:=P) (w:=w) (base:=base) T
 have GA:=Du (P:=P) (w:=w) (base:=base) T
 refine T.jW.kS qt (fun vs H Q E h=>?_) (fun fD A outer s H vs Q E hr h=>?_)
 ·obtain⟨_,_,_,_,_,_,_,_,rfl,_⟩:=h
  rfl
 obtain⟨wk,ch,fl,pr,aW,n,row,vals,rfl,dr,wo,uF,NP,hn,BG,q⟩:=h
 have nd:=qt.nd
 refine⟨_,[some (.ref wk),none,none],(ae (aL (i:=1) nd rfl (Or.inl rfl) eM)
 (ae (bw (mw (nU (pv 0) T.b6 T.mf i8 (hr.mono (by first|decide|omega)) T.me .nil aX))
 (ae (bw (aK bT (da (pv 0) rfl) (cw bG rfl T.ic PyProof.Rows.Boot.«len» (aa (da (pv 0) rfl) ah pF)) (aT _))
 (ae (iq (pv 0) (aZ (aa aV ah aR)) rfl)
 (aq (aU eM)))
 a9)
 (ae (aL (i:=1) nd rfl (Or.inl rfl) (aD bf (da (pv 0) rfl) (da (pv 0) rfl) LD))
 (aq (Fw (pv 0) aj OD))))
 a9)
 (ae (aL (i:=2) nd rfl (Or.inl rfl) (aG GA (hr.mono (by first|decide|omega)) rfl T.j7.m T.j7.F.kp T.j7.b .nil aX (aa (da (pv 0) rfl) (aa (da (pv 0) rfl) (aa (pv 1) ah ag) pF) pF)))
 (ae (bw (aK Oy (aD aN (pv 2) aj ak) eM (aT _))
 (aq (iq (pv 0) (aZ (aa aV (aa (aD aN (da (pv 0) rfl) aj ak) ah ba) aR)) rfl))
 (ae (iq (pv 0) (aD aN (pv 2) aj ak) rfl)
 (aq (bX (nU (pv 0) T.b6 T.jJ gJ (hr.mono (by first|decide|omega)) T.jI .nil aX)))))
 (aq (aU (aD aN (pv 2) aj ak))))))),rfl,?_⟩
 obtain⟨i,hi,rfl⟩:=NP.row.resolve_left uF
 obtain⟨hf,ek,ew⟩:=gO pr.body i hi
 obtain⟨w0,w1⟩:=PG.iY pr.body 0 _ (List.getElem_mem hf)
 rw[ew] at w1
 obtain⟨po,so⟩:=zv NP.len dr.ok.nb NP.small (PG.ja pr.body _ dr.own (List.getElem_mem hi))
 have bp:∀b∈pr.aC,0<b.size:=fun b hb=>by have:=dr.size b hb;lia
 have ea:fo pr.body (PG.az pr.body)[i].row=decide ((PG.az pr.body)[i].wd=.ask):=by unfold fo;rw[kF dr.ok.pw i hi]
 have es:∀f,eY pr (PG.az pr.body)[i].row vals f=ji pr.aC (PG.az pr.body)[i] (PG.aS pr.body 0)[i].2.2 vals f:=fun f=>by unfold eY;rw[kF dr.ok.pw i hi,EN dr.ok.pw i hi hf]
 obtain⟨dx,sa,ev,hw,oV,he⟩:=wo.at_
 have he:ev=.ck:=he
 subst he
 refine aw fun U1 ff=>?_
 walk_at "rd"
 refine(ff _ _).mpr (aw fun U2 gI=>?_)
 clear ff
 have rest:∀(H2:Hp) (n':Nat) (fv:V) (f:Int),bz wk H H2->Au K t.aY t.bZ H2 wk ch fl pr aW n' (PG.az pr.body)[i].row vals none->((PG.az pr.body)[i].wd=.ask->fv=.int f)->n'<=aW.length->PG.take1 (fo pr.body (PG.az pr.body)[i].row) (aW.drop n)=some (f,aW.drop n')->U2 [some (.ref wk),some fv,none] H2:=by
  intro H2 n' fv f u2 WO PN Oe ht
  obtain⟨PQ,WQ,ev2,WR,SX,Nw⟩:=WO.at_
  have Nw:ev2=.ck:=Nw
  subst Nw
  refine(gI _ _).mpr (aw fun U3 ik=>?_)
  clear gI
  walk_at "rd"
  refine⟨wk,_,PQ,_,.ref ch,rfl,WR,T.b6,T.gU,rfl,wk,_,PQ,_,.ref WQ,rfl,WR,T.b6,T.bS,rfl,ch,WQ,fv,pr,vals,f,i,hi,hf,rfl,WO.SI,dr.ok,bp,SX,NP.len,PN,po,w0,w1,fun q1 sv H3 s3 k1 o1=>(ik _ _).mpr ?_⟩
  clear ik
  have Y3:=WO.mono s3
  have PR:=s3 _ _ WR
  have SY:=SX.mono s3
  have u3:=u2.trans (.of s3)
  have sst:=fun x s=>vh.step (f:=f) (x:=x) (s:=s) dr hi hf NP.len NP.small
  rcases KI:ji pr.aC (PG.az pr.body)[i] (PG.aS pr.body 0)[i].2.2 vals f with ⟨o,sd⟩
  have UD:=(es f).trans KI
  rw[KI] at k1 o1
  simp only at k1 o1
  refine aw fun U4 i7=>?_
  walk_at "rd"
  refine aI k1 (v:=sv) (au (j:=0) rfl) ?_
  cases o with
  |none=>
   have o1:sv=.ck:=o1
   subst o1
   have eg:=Jv ht UD
   rw[eg] at q
   obtain⟨va3,vi,xi⟩:=id SY
   refine b4 (fun _=>?_) (fun z=>absurd rfl z)
   refine⟨wk,_,PQ,_,.ref WQ,rfl,PR,T.b6,T.bS,rfl,aI vi (v:=.int (PG.az pr.body)[i].row) (au (j:=0) rfl) fun p hp=>?_⟩
   have s4:=av.new hp (.tup [V.str (Str.ofString "must"),V.int (PG.az pr.body)[i].row])
   refine⟨wk,_,PQ,_,rfl,s4 _ _ PR,T.b6,T.gx,(show 5<1000 by decide),(i7 _ _).mpr ?_⟩
   walk_at "rd"
   refine aI ((s4.bD k1).ins (s4 _ _ PR) ((bz.refl _ _).put _)) (v:=yw sd) (au (j:=1) rfl) (q _ n' (u3.trans ((bz.of s4).put _)) Oe rfl ((Y3.mono s4).put (s4 _ _ PR) (SY.mono s4) ⟨p,rfl,.of ai⟩) NP)
  |some x=>
   obtain⟨Y4,rfl,WS⟩:=o1
   have eg:=Jw ht UD
   rw[eg] at q
   refine b4 (fun z=>by cases z) (fun _=>?_)
   refine aI k1 (v:=.ref Y4) (au (j:=0) rfl) ⟨wk,_,PQ,_,rfl,PR,T.b6,T.bS,(show 5<1000 by decide),?_⟩
   have u4:bz wk H3 (upd H3 wk (.ins t.bZ PQ (SH ch fl n' Y4 .ck))):=(bz.refl _ _).put _
   have wo4:=Y3.put PR (n':=n') WS (show uk K H3 none .ck from rfl)
   refine⟨wk,PQ,_,rfl,ai,rfl,wk,ch,fl,pr,aW,n',x.1,x.2,rfl,wo4,fun H5 u5 QW=>(i7 _ _).mpr ?_⟩
   walk_at "rd"
   refine aI ((k1.ins PR u4).ins ai u5) (v:=yw sd) (au (j:=1) rfl) (q _ n' (u3.trans (u4.trans u5)) Oe rfl QW (sst x sd KI))
 walk_at "rd"
 refine⟨wk,dx,_,rfl,hw,rfl,wk,ch,fl,pr,aW,n,vals,none,i,hi,rfl,dr.ok,wo,?_⟩
 refine⟨_,rfl,b4 (fun e=>?_) (fun e=>?_)⟩
 ·have ew:(PG.az pr.body)[i].wd=.ask:=by simpa using e
  refine⟨wk,_,dx,_,.int n,rfl,hw,T.b6,T.fQ,rfl,wk,_,dx,_,.ref fl,rfl,hw,T.b6,T.fI,rfl,fl,_,rfl,.inl wo.Uu,rfl,b4 (fun e2=>fun p hp=>?_) (fun e2=>?_)⟩
  ·have e2:=V.int.inj e2
   rw[List.length_map] at e2
   have s1:=av.new hp (.tup [V.str (Str.ofString "out")])
   refine⟨wk,_,dx,_,rfl,s1 _ _ hw,T.b6,T.gx,(show 5<1000 by decide),?_⟩
   have ed:aW.drop n=[]:=List.drop_eq_nil_of_le (by lia)
   have eg:=Me (pr:=pr) (row:=(PG.az pr.body)[i].row) (vals:=vals) (left:=aW.drop n) (by rw[ea,ed];simp[PG.take1,ew])
   rw[eg] at q
   exact q _ n ((bz.of s1).put _) hn rfl ((wo.mono s1).put (s1 _ _ hw) (oV.mono s1) ⟨p,rfl,.of ai⟩) NP
  ·rw[List.length_map] at e2
   have ln:n<aW.length:=by
    have:n≠aW.length:=fun z=>e2 (by rw[z])
    lia
   refine⟨wk,_,dx,_,.ref fl,rfl,hw,T.b6,T.fI,rfl,wk,_,dx,_,.int n,rfl,hw,T.b6,T.fQ,rfl,bC wo.Uu (v:=.int aW[n]) (au (by rw[List.getElem?_map,List.getElem?_eq_getElem ln];rfl)) ?_⟩
   refine⟨wk,_,dx,_,.int n,rfl,hw,T.b6,T.fQ,rfl,?_⟩
   refine⟨n,1,rfl,rfl,dx,_,hw,(show 5<1000 by decide),?_⟩
   refine rest _ (n+1) _ aW[n] ((bz.refl _ _).put _) (wo.put hw (n':=n+1) oV (show uk K H none .ck from rfl)) (fun _=>rfl) ln ?_
   rw[ea,decide_eq_true ew,List.drop_eq_getElem_cons ln]
   rfl
 ·have ew:(PG.az pr.body)[i].wd≠.ask:=by simpa using e
  refine rest H n .ck 0 (.refl _ _) wo (fun z=>absurd z ew) hn ?_
  rw[ea,decide_eq_false ew]
  rfl
theorem tm(T:Tx K mg t):bQ P w K mg base fh 1 t.eC t.eE ["deck"] (uf K):=by
 refine T.ax.F.kS sN (fun vs H Q E h=>?_) (fun fD A outer s H vs Q E hr h=>?_)
 ·obtain⟨_,_,_,_,rfl,_⟩:=h
  rfl
 obtain⟨D,S,sc,p,rfl,dk,hp,q⟩:=h
 have nd:=sN.nd
 refine⟨_,[some (V.ref D),none,none,none,none,none],(ae (aL (i:=1) nd rfl (Or.inl rfl) (aD bf (pv 0) aj ak))
 (ae (qH (bh dW (pv 1) aj) (Ci (pv 0) aj set_list))
 (ae (aL (i:=2) nd rfl (Or.inl rfl) (cw (Fq rfl) rfl T.JU PyProof.Rows.Boot.«max» (aa aj (aa (cw bG rfl T.ic PyProof.Rows.Boot.«len» (aa (aD bf (pv 0) aj ak) ah ba)) ah bM) aR)))
 (ae (aL (i:=3) nd rfl (Or.inl rfl) aj)
 (ae (bw (aK (lE (fE hr)) (aD bf (pv 0) aj ak) (bJ ah) (aT _))
 (aq (aL (i:=3) nd rfl (Or.inl rfl) (aD bf (aD bf (pv 0) aj ak) (bh cu (pv 1) (pv 2)) kT)))
 a9)
 (ae (bw (aK Rz (pv 3) (bh Ox aj aj) (aT _))
 (ae (fZ PassesOwn.never rfl (iT rfl T.jX (aa (cw (Ft rfl) rfl T.JV PyProof.Rows.Boot.«min» (aa aj (aa (bh yU (pv 1) (pv 2)) ah ka) aR)) ah bM)) (bu (i:=4) nd rfl (Or.inl rfl))
 (aq (aL (i:=3) nd rfl (Or.inl rfl) (bh yU (pv 3) aj))))
 (aq (aU (bh cu (pv 3) aj))))
 a9)
 (ae (aL (i:=5) nd rfl (Or.inl rfl) (bh cu (bh dW (bh dW (bh cu (pv 3) aj) (bh qI (bh qI aj (bh dW (pv 1) aj)) (bh dW (pv 1) aj))) aj) aj))
 (ae (aL (i:=5) nd rfl (Or.inl rfl) (bh cu (bh qI (pv 5) (pv 5)) aj))
 (ae (aL (i:=5) nd rfl (Or.inl rfl) (bh cu (bh dW (bh dW (bh qI (pv 5) aj) (bh qI aj (pv 1))) aj) aj))
 (aq (aU (bh yU (bh cu (bh qI (pv 5) (pv 5)) aj) aj)))))))))))),rfl,?_⟩
 have line:sizeLine=2 ^ 24:=rfl
 refine aw fun U1 ff=>?_
 walk_at "rd"
 refine bC (.of dk.bH) (au (j:=1) rfl) ((ff _ _).mpr (aw fun U2 gI=>?_))
 clear ff
 walk_at "rd"
 refine⟨D,_,1,1,rfl,rfl,dk.bH,rfl,?_⟩
 have u1:bz D H (upd H D (.lst [.ref S,.int (p+1)])):=(bz.refl D H).put _
 have d1:(upd H D (.lst [.ref S,.int (p+1)])) D=some (.lst [.ref S,.int (p+1)]):=ai
 show U2 _ (upd H D (.lst [.ref S,.int (p+1)]))
 generalize upd H D (.lst [.ref S,.int (p+1)])=H1 at *
 have UE:=u1 _ _ dk.ne dk.fU
 refine(gI _ _).mpr (aw fun U3 ik=>?_)
 clear gI
 walk_at "rd"
 refine bC (.of d1) (au (j:=0) rfl) ⟨S,_,rfl,.inl (.of UE),1,_,rfl,?_⟩
 rw[List.length_map]
 have em:(if (sc.length:Int)>1 then (sc.length:Int) else 1)=((max 1 sc.length:Nat):Int):=by split<;>lia
 rw[em]
 have m1:1<=max 1 sc.length:=by lia
 refine(ik _ _).mpr (aw fun U4 i7=>?_)
 clear ik
 walk_at "rd"
 refine(i7 _ _).mpr (aw fun U5 tf=>?_)
 clear i7
 have rest:∀H2,av H1 H2->U5 [some (V.ref D),some (V.int p),some (V.int ((max 1 sc.length:Nat):Int)),some (V.int (if sc=[] then 0 else sc.getD (p%max 1 sc.length) 0)),none,none] H2:=by
  intro H2 s2
  have fin:Q (V.int (PG.next sc p)) H2:=q H2 (u1.trans (.of s2)) ⟨s2 _ _ d1,s2 _ _ UE,dk.ne,dk.len⟩
  unfold PG.next at fin
  simp only at fin
  have mle:max 1 sc.length<=63:=by have:=dk.len;lia
  generalize (if sc=[] then 0 else sc.getD (p%max 1 sc.length) 0)=cell at *
  generalize max 1 sc.length=m at *
  refine(tf _ _).mpr (aw fun U6 xm=>?_)
  walk_at "rd"
  have e18:(10:Int) ^ Int.toNat 18=10 ^ 18:=rfl
  have p18:Ry 10 18:=⟨by decide,by decide,by decide⟩
  rw[e18]
  refine⟨p18,b4 (fun hc=>?_) (fun hc=>?_)⟩
  ·rw[if_pos hc] at fin
   refine lD fun U hU=>?_
   walk_at "rd"
   have ed:(p:Int)/(m:Int)=((p/m:Nat):Int):=(Int.natCast_ediv p m).symm
   have e60:(if (p:Int)/(m:Int)<60 then (p:Int)/(m:Int) else 60)=((min 60 (p/m):Nat):Int):=by
    rw[ed]
    split<;>lia
   have b60:min 60 (p/m)<=60:=Nat.min_le_left _ _
   refine⟨⟨by lia,by lia⟩,_,_,rfl,_,rfl,?_⟩
   rw[e60]
   generalize min 60 (p/m)=N at *
   refine⟨by lia,by lia,hU _ _ ?_⟩
   rw[Int.toNat_natCast]
   refine jY (lo:=0) (n:=N) (fun i σ H3=>H3=H2/\∃(c:Int) (a:Option V),σ=[some (V.ref D),some (V.int p),some (V.int m),some (V.int c),a,none]/\PG.AX (N-i) c=PG.AX N cell) ⟨rfl,cell,none,rfl,rfl⟩ ?_ ?_
   ·rintro i σ H3 hi ⟨rfl,c,a,rfl,e⟩
    rw[Int.zero_add]
    walk_at "rd"
    refine⟨_,_,rfl,?_⟩
    rw[<- e,show N-i=(N-(i+1))+1 by lia,PG.AX]
   ·rintro σ H3 ⟨rfl,c,a,rfl,e⟩
    rw[Nat.sub_self,PG.AX] at e
    walk_at "rd"
    rw[e]
    exact fin
  ·rw[if_neg hc] at fin
   refine(xm _ _).mpr ?_
   clear tf xm
   walk_at "rd"
   have b1:=Int.emod_nonneg (cell%2147483629+51437*((p:Int)+1)*((p:Int)+3)+1409) (show (2147483629:Int)≠0 by decide)
   have b2:=Int.emod_lt_of_pos (cell%2147483629+51437*((p:Int)+1)*((p:Int)+3)+1409) (show (0:Int)<2147483629 by decide)
   refine⟨mulL (by decide) (by decide),mulR (by lia) (by lia),?_⟩
   generalize (cell%2147483629+51437*((p:Int)+1)*((p:Int)+3)+1409)%2147483629=x at *
   refine⟨mulL (by lia) (by lia),mulR (by decide) (by decide),mulL (by decide) (by decide),?_⟩
   have c1:=Int.emod_nonneg (x*x%2147483587*69621+401*(p:Int)+7) (show (2147483579:Int)≠0 by decide)
   have c2:=Int.emod_lt_of_pos (x*x%2147483587*69621+401*(p:Int)+7) (show (0:Int)<2147483579 by decide)
   generalize (x*x%2147483587*69621+401*(p:Int)+7)%2147483579=y at *
   exact⟨mulL (by lia) (by lia),fin⟩
 walk_at "rd"
 refine bC (.of d1) (au (j:=0) rfl) fun p1 GZ=>?_
 have s2:=av.new GZ (.lst [])
 have d2:=s2 _ _ d1
 refine⟨S,p1,_,rfl,rfl,.of (s2 _ _ UE),.of ai,?_⟩
 have sc2:=s2 _ _ UE
 generalize upd H1 p1 (.lst [])=H2 at *
 have rs:=rest H2 s2
 cases sc with
 |nil=>exact rs
 |cons c r=>
  rw[if_neg (by simp)] at rs
  refine(if_pos rfl).mpr (bC (.of d2) (au (j:=0) rfl) ⟨by lia,?_⟩)
  have lt:p%max 1 (c::r).length<(c::r).length:=by
   have:max 1 (c::r).length=(c::r).length:=by simp
   rw[this]
   exact Nat.mod_lt _ (by simp)
  refine bC (.of sc2) (Ly (f:=V.int) (xs:=c::r) 0 (by lia) (by lia)) ?_
  have e:((p:Int)%((max 1 (c::r).length:Nat):Int)).toNat=p%max 1 (c::r).length:=by lia
  rw[e]
  exact rs
theorem WT(T:Tx K mg t){n:Nat}(gW:bQ P w K mg base fh (n+1) t.ko t.j5 ["deck", "boxes", "deep"] (wu K n)) :
 bQ P w K mg base fh (n+2) t.ko t.j5 ["deck", "boxes", "deep"] (wu K (n+1)):=by
 have bt:bQ P w K mg base fh 1 t.eC t.eE ["deck"] (uf K):=tm T
 refine T.bR.F.kS yH (fun vs H Q E h=>?_) (fun fD A outer s H vs Q E hr h=>?_)
 ·obtain⟨_,_,_,_,_,_,_,rfl,_⟩:=h
  rfl
 obtain⟨D,S,B,sc,p,d,bs,rfl,hd,dk,hp,hb,q⟩:=h
 have nd:=yH.nd
 refine⟨_,[some (V.ref D),some (V.ref B),some (V.int d),none,none],(ae (aL (i:=3) nd rfl (Or.inl rfl) (bh cu (aG bt (hr.mono (by first|decide|omega)) rfl T.ax.m T.ax.F.kp T.ax.b .nil aX (aa (pv 0) ah ag)) aj))
 (ae (bw (PW.pt (pw_and (aK Hm (pv 2) aj (aT _)) (pw_and1 (aK nT (pv 3) aj (aT _)))))
 (ae (aL (i:=4) nd rfl (Or.inl rfl) (aG gW (hr.mono (by first|decide|omega)) rfl T.bR.m T.bR.F.kp T.bR.b .nil aX (aa (pv 0) (aa (pv 1) (aa (bh vJ (pv 2) aj) ah ka) ag) ag)))
 (aq (aU (aZ (aa (aD yZ aV (pv 3) pE) (aa (pv 4) (aa (aG gW (hr.mono (by first|decide|omega)) rfl T.bR.m T.bR.F.kp T.bR.b .nil aX (aa (pv 0) (aa (pv 1) (aa (bh vJ (pv 2) aj) ah ka) ag) ag)) ah bM) ag) ba)))))
 a9)
 (ae (bw (PW.pt (pw_and (aK (lE (fE hr)) (pv 1) (bJ ah) (aT _)) (pw_and1 (aK nT (pv 3) aj (aT _)))))
 (aq (aU (aZ (aa aV (aa (aD aN (aD bf (pv 1) (bh cu (aG bt (hr.mono (by first|decide|omega)) rfl T.ax.m T.ax.F.kp T.ax.b .nil aX (aa (pv 0) ah ag)) (cw bG rfl T.ic PyProof.Rows.Boot.«len» (aa (pv 1) ah ag))) kT) aj ak) ah ba) aR))))
 a9)
 (aq (aU (aZ (aa aV (aa (bh cu (aG bt (hr.mono (by first|decide|omega)) rfl T.ax.m T.ax.F.kp T.ax.b .nil aX (aa (pv 0) ah ag)) (aD bf (bJ (cO (vs:=[.int 3,.int 12,.int 1000]) (by kernel_rfl))) (bh cu (aG bt (hr.mono (by first|decide|omega)) rfl T.ax.m T.ax.F.kp T.ax.b .nil aX (aa (pv 0) ah ag)) aj) kT)) ah ka) aR))))))),rfl,?_⟩
 have line:sizeLine=2 ^ 24:=rfl
 have pw:1<=2 ^ d:=Nat.one_le_two_pow
 refine aw fun U1 ff=>?_
 walk_at "rd"
 refine⟨D,S,sc,p,rfl,dk,by lia,fun H1 u1 Dx=>?_⟩
 walk_at "rd"
 refine(ff _ _).mpr (aw fun U2 gI=>?_)
 clear ff
 have NQ:H D≠none:=by rw[dk.bH];simp
 have Uz:H1 D≠none:=by rw[Dx.bH];simp
 have ND:=hb.up u1
 obtain⟨n0,n1⟩:=PG.iW sc p
 have Dy:=u1.pU Uz
 walk_at "rd"
 have leaf:(d=0\/¬PG.next sc p%7<3)->U2 [some (V.ref D),some (V.ref B),some (V.int d),some (V.int (PG.next sc p%7)),none] H1:=by
  intro hl
  have eg:PG.cC sc bs d p=if bs≠[]/\PG.next sc p%7<5 then (.box (PG.pick ⟨[],0,0⟩ bs (PG.next sc (p+1)%bs.length)).name,p+2) else (.num (PG.next sc (p+1)%PG.pick 1 [3,12,1000] (PG.next sc (p+2)%3)),p+3):=by
   cases d with
   |zero=>rfl
   |succ d=>
    unfold PG.cC
    simp only
    rw[if_neg (hl.resolve_left (by lia))]
  refine(gI _ _).mpr (aw fun U3 ik=>?_)
  have num:¬(bs≠[]/\PG.next sc p%7<5)->∀H2,av H1 H2->U3 [some (V.ref D),some (V.ref B),some (V.int d),some (V.int (PG.next sc p%7)),none] H2:=by
   intro hn H2 s2
   rw[if_neg hn] at eg
   rw[eg] at q
   refine(ik _ _).mpr ?_
   walk_at "rd"
   refine⟨D,S,sc,p+1,rfl,Dx.same s2,by lia,fun H3 u3 pR p4 tT=>?_⟩
   have vm:=pR.same (av.new tT (.lst [.int 3,.int 12,.int 1000]))
   have h4:(upd H3 p4 (.lst [.int 3,.int 12,.int 1000])) p4=some (.lst [.int 3,.int 12,.int 1000]):=ai
   have u4:=u3.new tT (.lst [.int 3,.int 12,.int 1000])
   have n4:p4≠D:=(ao pR.bH tT).symm
   generalize upd H3 p4 (.lst [.int 3,.int 12,.int 1000])=H4 at *
   refine⟨D,S,sc,p+2,rfl,vm,by lia,fun H5 u5 Dz=>?_⟩
   obtain⟨m0,m1⟩:=PG.iW sc (p+2)
   have h5:=u5 _ _ n4 h4
   have pk:∀i:Int,0<=i->i<3->qJ [V.int 3,V.int 12,V.int 1000] i=some (V.int (PG.pick 1 [3,12,1000] i))/\(0:Int)<PG.pick 1 [3,12,1000] i:=fun i h0 h3=>by
    have z3:i=0\/i=1\/i=2:=by lia
    rcases z3 with rfl |rfl |rfl
    ·exact⟨au (j:=0) rfl,by decide⟩
    ·exact⟨au (j:=1) rfl,by decide⟩
    ·exact⟨au (j:=2) rfl,by decide⟩
   obtain⟨k1,k2⟩:=pk (PG.next sc (p+2)%3) (by lia) (by lia)
   walk_at "rd"
   refine bC (.of h5) k1 ?_
   walk_at "rd"
   refine⟨k2,fun p6 iQ=>?_⟩
   have u2:bz D H1 H2:=.of s2
   refine q _ _ (((u1.trans (u2.trans u4)).trans u5).new iQ _) (Dz.same (av.new iQ _)) ?_
   refine jQ iQ ?_ (.cons .str (.cons .int .nil))
   exact fun b WU=>(u5.pU (by rw[Dz.bH];simp)) b ((u4.pU (by rw[vm.bH];simp)) b ((u2.pU (by rw[s2 _ _ Dx.bH];simp)) b (Dy b WU)))
  walk_at "rd"
  intro p2 xt
  have s2:=av.new xt (.lst [])
  have rm:=ND.same s2
  have h2:(upd H1 p2 (.lst [])) p2=some (.lst []):=ai
  have xA:=Dx.same s2
  generalize upd H1 p2 (.lst [])=H2 at *
  obtain⟨xs,hx,lx,_⟩:=rm.list
  refine⟨B,p2,xs,rfl,rfl,hx,.of h2,?_⟩
  have em:xs.isEmpty=true↔bs=[]:=by
   rw[List.isEmpty_iff,<- List.length_eq_zero_iff,lx,List.length_eq_zero_iff]
  by_cases xB:bs=[]
  ·have e1:=em.mpr xB
   rw[e1,if_neg (by decide),if_neg Bool.false_ne_true]
   exact num (fun z=>z.1 xB) H2 s2
  ·have e1:xs.isEmpty=false:=Bool.eq_false_iff.mpr fun z=>xB (em.mp z)
   rw[e1,if_pos (by decide)]
   refine b4 (fun k5=>?_) (fun k5=>num (fun z=>k5 z.2) H2 s2)
   rw[if_pos ⟨xB,k5⟩] at eg
   rw[eg] at q
   refine⟨D,S,sc,p+1,rfl,xA,by lia,fun H3 u3 pR=>?_⟩
   have J9:=rm.up u3
   obtain⟨ys,hy,ly,_⟩:=J9.list
   refine⟨B,ys,rfl,.inl hy,?_⟩
   rw[ly]
   have pos:0<bs.length:=List.length_pos_iff.mpr xB
   walk_at "rd"
   refine⟨by lia,J9.pick (Int.emod_nonneg _ (by lia)) (Int.emod_lt_of_pos _ (by lia)) fun p4 tT=>?_⟩
   have u2:bz D H1 H2:=.of s2
   refine q _ _ (((u1.trans u2).trans u3).new tT _) (pR.same (av.new tT _)) (jQ tT ?_ (.cons .str (.cons .str .nil)))
   exact fun b WU=>(u3.pU (by rw[pR.bH];simp)) b ((u2.pU (by rw[xA.bH];simp)) b (Dy b WU))
 refine b4 (fun d0=>b4 (fun k3=>?_) (fun k3=>leaf (.inr k3))) (fun d0=>(if_neg Bool.false_ne_true).mpr (leaf (.inl (by lia))))
 obtain⟨d,rfl⟩:∃e,d=e+1:=⟨d-1,by lia⟩
 have e1:((d+1:Nat):Int)-1=(d:Int):=by lia
 rw[e1]
 have e2:(2:Nat) ^ (d+1)=2*2 ^ d:=by rw[Nat.pow_succ];lia
 have one:1<=2 ^ d:=Nat.one_le_two_pow
 rw[e2] at hp
 have eg:PG.cC sc bs (d+1) p=(.bin (PG.pick [] [[43],[45],[42]] (PG.next sc p%7)) (PG.cC sc bs d (p+1)).1 (PG.cC sc bs d (PG.cC sc bs d (p+1)).2).1,(PG.cC sc bs d (PG.cC sc bs d (p+1)).2).2):=by
  conv=>lhs;unfold PG.cC
  simp only
  rw[if_pos k3]
 rw[eg] at q
 obtain⟨g1,g2⟩:=PG.jA sc bs d (p+1)
 refine⟨D,S,B,sc,p+1,d,bs,rfl,by lia,Dx,by lia,ND,fun v2 H2 u2 xA o2=>?_⟩
 have rm:=ND.up u2
 have sg:∀i:Int,0<=i->i<3->∃c,qJ (Str.ofString "+-*").cps.toList i=some c/\V.str ⟨#[c]⟩=V.str (L2.S (PG.pick [] [[43],[45],[42]] i)):=fun i h0 h3=>by
  have z3:i=0\/i=1\/i=2:=by lia
  rcases z3 with rfl |rfl |rfl
  ·exact⟨43,au (j:=0) (by decide +kernel),rfl⟩
  ·exact⟨45,au (j:=1) (by decide +kernel),rfl⟩
  ·exact⟨42,au (j:=2) (by decide +kernel),rfl⟩
 obtain⟨c,hc,ec⟩:=sg (PG.next sc p%7) (by lia) k3
 refine⟨_,_,c,rfl,rfl,by decide,hc,?_⟩
 rw[ec]
 refine⟨D,S,B,sc,_,d,bs,rfl,by lia,xA,by lia,rm,fun v3 H3 u3 pR o3 p4 tT=>?_⟩
 have K0:H2 D≠none:=by rw[xA.bH];simp
 have GX:H3 D≠none:=by rw[pR.bH];simp
 refine q _ _ (((u1.trans u2).trans u3).new tT _) (pR.same (av.new tT _)) (jQ tT ?_ (.cons .str (.cons ((o2.back Dy).up u3 NQ) (.cons (o3.back fun b z=>(u2.pU K0) b (Dy b z)) .nil))))
 exact fun b z=>(u3.pU GX) b ((u2.pU K0) b (Dy b z))
theorem Ka(T:Tx K mg t):∀n,bQ P w K mg base fh (n+1) t.ko t.j5 ["deck", "boxes", "deep"] (wu K n)
 |0=>by
  have no:∀vs H Q E,¬wu K 0 vs H Q E:=fun vs H Q E h=>by obtain⟨_,_,_,_,_,_,_,_,h,_⟩:=h;lia
  exact⟨fun vs H Q E h=>absurd h (no vs H Q E),fun A outer s H args us vs Q E _ _ _ _ h=>absurd h (no vs H Q E)⟩
 |n+1=>WT T (Ka T n)
theorem Kb(T:Tx K mg t):bQ P w K mg base fh 2 t.iH t.jd ["deck"] (CZ K):=by
 have bt:bQ P w K mg base fh 1 t.eC t.eE ["deck"] (uf K):=tm T
 refine T.gE.F.kS ql (fun vs H Q E h=>?_) (fun fD A outer s H vs Q E hr h=>?_)
 ·obtain⟨_,_,_,_,rfl,_⟩:=h
  rfl
 obtain⟨D,S,sc,p,rfl,dk,hp,q⟩:=h
 have nd:=ql.nd
 refine⟨_,[some (V.ref D),none,none,none,none],(ae (aL (i:=1) nd rfl (Or.inl rfl) (bJ ah))
 (ae (aL (i:=2) nd rfl (Or.inl rfl) (bh cu (aG bt (hr.mono (by first|decide|omega)) rfl T.ax.m T.ax.F.kp T.ax.b .nil aX (aa (pv 0) ah ag)) aj))
 (ae (fZ PassesOwn.never rfl (iT rfl T.jX (aa (bh cu (aG bt (hr.mono (by first|decide|omega)) rfl T.ax.m T.ax.F.kp T.ax.b .nil aX (aa (pv 0) ah ag)) aj) ah ka)) (bu (i:=3) nd rfl (Or.inl rfl))
 (ae (aL (i:=4) nd rfl (Or.inl rfl) (bh dW aj (bh cu (aG bt (hr.mono (by first|decide|omega)) rfl T.ax.m T.ax.F.kp T.ax.b .nil aX (aa (pv 0) ah ag)) aj)))
 (aq (bX (eR PySem.F.plainAttrs_list PySem.F.slot_list_append PySem.F.type_list_append bL (pv 1) (aa (aZ (aa (aD bf (bJ (cO (vs:=[.str "c",.str "bb",.str "aaa",.str "boxes"]) (by kernel_rfl))) (bh vJ (pv 3) (pv 2)) kT) (aa (pv 4) (aa (bh cu (aG bt (hr.mono (by first|decide|omega)) rfl T.ax.m T.ax.F.kp T.ax.b .nil aX (aa (pv 0) ah ag)) (pv 4)) ah ka) ag) ba)) ah cE))))))
 (aq (aU (pv 1)))))),rfl,?_⟩
 have line:sizeLine=2 ^ 24:=rfl
 refine aw fun U1 ff=>?_
 walk_at "rd"
 intro B hB
 have s1:=av.new hB (.lst [])
 have h1:(upd H B (.lst [])) B=some (.lst []):=ai
 have Dx:=dk.same s1
 have nB:B≠D:=(ao dk.bH hB).symm
 have NQ:H D≠none:=by rw[dk.bH];simp
 generalize upd H B (.lst [])=H1 at *
 refine(ff _ _).mpr (aw fun U2 gI=>?_)
 clear ff
 walk_at "rd"
 refine⟨D,S,sc,p,rfl,Dx,by lia,fun H2 u2 xA=>?_⟩
 walk_at "rd"
 refine(gI _ _).mpr (aw fun U3 ik=>?_)
 clear gI
 have h2:=u2 _ _ nB h1
 refine lD fun U hU=>?_
 walk_at "rd"
 refine⟨D,S,sc,p+1,rfl,xA,by lia,fun H3 u3 pR=>?_⟩
 walk_at "rd"
 obtain⟨c0,c1⟩:=PG.iW sc (p+1)
 refine⟨_,rfl,by lia,by lia,hU _ _ ?_⟩
 have h3:=u3 _ _ nB h2
 have Av:bz D H H3:=((bz.of s1).trans u2).trans u3
 have GB:∀b,H b≠none->H3 b≠none:=Av.pU (by rw[pR.bH];simp)
 generalize hN:(PG.next sc (p+1)%4).toNat=N at *
 have N5:N<=4:=by lia
 clear hU
 refine jY (lo:=0) (n:=N) (fun i σ H4=>∃(a b:Option V) (pi:Nat) (pre:List PG.fV) (xs:List V),σ=[some (V.ref D),some (V.ref B),some (V.int (PG.next sc p%4)),a,b]/\pi<=p+2+2*i/\ig K H4 D S sc pi/\H4 B=some (.lst xs)/\xs.length=i/\pre.length=i/\
  (PG.bV sc (PG.next sc p%4) N 0 (p+2)).1=pre++(PG.bV sc (PG.next sc p%4) (N-i) i pi).1/\(PG.bV sc (PG.next sc p%4) N 0 (p+2)).2=(PG.bV sc (PG.next sc p%4) (N-i) i pi).2/\
  lG K (fun b=>if b=B then some (.lst []) else H b) H4 (pre.map iz) xs/\(∀b o,b≠D->b≠B->H b=some o->H4 b=some o)) ?_ ?_ ?_
 ·exact⟨none,none,p+2,[],[],rfl,by lia,pR,h3,rfl,rfl,rfl,rfl,lG.nil,fun b o n1 n2 e=>Av b o n1 e⟩
 ·rintro i σ H4 hi ⟨a,b,pi,pre,xs,rfl,lp,vm,h4,lx,PU,e1,e2,ow,kp⟩
  rw[Int.zero_add]
  refine aw fun U4 i7=>?_
  walk_at "rd"
  refine⟨D,S,sc,pi,rfl,vm,by lia,fun H7 u7 UG=>?_⟩
  have h7:=u7 _ _ nB h4
  walk_at "rd"
  refine(i7 _ _).mpr ?_
  clear i7
  have z0:0<2+PG.next sc pi%3:=by lia
  have eN:N-i=(N-(i+1))+1:=by lia
  rw[eN,PG.bV] at e1 e2
  simp only at e1 e2
  generalize 2+PG.next sc pi%3=size at *
  walk_at "rd"
  refine⟨.inl ⟨rfl,_,.of h7⟩,fun p8 GY=>?_⟩
  have s8:=av.new GY (.lst [V.str (Str.ofString "c"),V.str (Str.ofString "bb"),V.str (Str.ofString "aaa"),V.str (Str.ofString "boxes")])
  have UH:=UG.same s8
  have h8:=s8 _ _ h7
  have Y5:0<=PG.next sc p%4/\PG.next sc p%4<4:=by lia
  have nm:∀(a:Nat) (b:Int),a<4->0<=b->b<4->qJ [V.str (Str.ofString "c"),V.str (Str.ofString "bb"),V.str (Str.ofString "aaa"),V.str (Str.ofString "boxes")] ((a:Int)-b)=some (V.str (L2.S (PG.pick [] PG.c7 (((a:Int)-b)%4)))):=by
   intro a b ha LS ND
   obtain⟨c,rfl⟩:∃c:Nat,b=c:=⟨b.toNat,by lia⟩
   have key:∀a<4,∀c<4,qJ [V.str (Str.ofString "c"),V.str (Str.ofString "bb"),V.str (Str.ofString "aaa"),V.str (Str.ofString "boxes")] (((a:Nat):Int)-((c:Nat):Int))=some (V.str (L2.S (PG.pick [] PG.c7 ((((a:Nat):Int)-((c:Nat):Int))%4)))):=by decide +kernel
   exact key a ha c (by lia)
  refine AR (nm i _ (by lia) Y5.1 Y5.2) ?_
  generalize upd H7 p8 (.lst [V.str (Str.ofString "c"),V.str (Str.ofString "bb"),V.str (Str.ofString "aaa"),V.str (Str.ofString "boxes")])=H8 at *
  refine⟨D,S,sc,pi+1,rfl,UH,by lia,fun H9 u9 NR=>?_⟩
  walk_at "rd"
  refine⟨z0,fun pa PV=>?_⟩
  have h9:=u9 _ _ nB h8
  have uD:bz D H4 H9:=u7.trans ((bz.of s8).trans u9)
  have wZ:=NR.same (av.new PV (.tup [V.str (L2.S (PG.pick [] PG.c7 (((i:Int)-PG.next sc p%4)%4))),V.int size,V.int (PG.next sc (pi+1)%size)]))
  have NG:=av.new PV (.tup [V.str (L2.S (PG.pick [] PG.c7 (((i:Int)-PG.next sc p%4)%4))),V.int size,V.int (PG.next sc (pi+1)%size)]) _ _ h9
  have WV:∀b,(fun b=>if b=B then some (HO.lst []) else H b) b≠none->H9 b≠none:=fun b hb=>by
   by_cases eb:b=B
   ·rw[eb,h9];simp
   ·have Uo:H b≠none:=by simpa[eb] using hb
    by_cases ed:b=D
    ·rw[ed,NR.bH];simp
    ·cases z:H b with
     |none=>exact absurd z Uo
     |some o=>rw[uD b o ed (kp b o ed eb z)];simp
  have S0:(fun b=>if b=B then some (HO.lst []) else H b) D≠none:=by simp[nB.symm];exact NQ
  have nt:=jQ (K:=K) PV WV (.cons (.str (x:=L2.S (PG.pick [] PG.c7 (((i:Int)-PG.next sc p%4)%4)))) (.cons (.int (i:=size)) (.cons (.int (i:=PG.next sc (pi+1)%size)) .nil)))
  have ow9:lG K (fun b=>if b=B then some (HO.lst []) else H b) H9 (pre.map iz) xs:=ow.up uD S0
  have PX:=ow9.same (av.new PV (.tup [V.str (L2.S (PG.pick [] PG.c7 (((i:Int)-PG.next sc p%4)%4))),V.int size,V.int (PG.next sc (pi+1)%size)]))
  have Kc:∀b o,b≠D->b≠B->H b=some o->(upd H9 pa (.tup [V.str (L2.S (PG.pick [] PG.c7 (((i:Int)-PG.next sc p%4)%4))),V.int size,V.int (PG.next sc (pi+1)%size)])) b=some o:=fun b o n1 n2 e=>av.new PV _ _ _ (uD b o n1 (kp b o n1 n2 e))
  generalize upd H9 pa (.tup [V.str (L2.S (PG.pick [] PG.c7 (((i:Int)-PG.next sc p%4)%4))),V.int size,V.int (PG.next sc (pi+1)%size)])=pW at *
  refine⟨B,xs,_,rfl,rfl,NG,by lia,?_⟩
  refine⟨_,_,pi+2,pre++[⟨PG.pick [] PG.c7 (((i:Int)-PG.next sc p%4)%4),size,PG.next sc (pi+1)%size⟩],xs++[V.ref pa],rfl,by lia,?_,ai,by simp[lx],by simp[PU],?_,e2,?_,?_⟩
  ·have nS:S≠B:=ao dk.fU hB
   exact⟨by rw[ay nB.symm];exact wZ.bH,by rw[ay nS];exact wZ.fU,wZ.ne,wZ.len⟩
  ·rw[e1];simp
  ·rw[List.map_append]
   exact O8 NG (PX.snoc nt) (by simp)
  ·intro b o n1 n2 e
   rw[ay n2]
   exact Kc b o n1 n2 e
 ·rintro σ H4 ⟨a,b,pi,pre,xs,rfl,lp,vm,h4,lx,PU,e1,e2,ow,kp⟩
  refine(ik _ _).mpr ?_
  walk_at "rd"
  rw[Nat.sub_self,PG.bV] at e1 e2
  simp only[List.append_nil] at e1 e2
  refine q B H4 (fun b o n1 e=>?_) (by rw[e2];exact vm) hB (fun O hO=>?_)
  ·by_cases eb:b=B
   ·rw[eb,hB] at e;cases e
   ·exact kp b o n1 eb e
  ·rw[e1]
   refine Fix.lst h4 (fun z=>hO B z hB) (ow O fun b hb=>?_)
   by_cases eb:b=B
   ·simp[eb]
   ·simp[eb];exact hO b hb
theorem Kd(T:Tx K mg t):bQ P w K mg base fh 5 t.iI t.je ["deck", "boxes", "k"] (C0 K):=by
 have bt:bQ P w K mg base fh 1 t.eC t.eE ["deck"] (uf K):=tm T
 have gW:=Ka (P:=P) (w:=w) (base:=base) T 3
 refine T.gF.F.kS qm (fun vs H Q E h=>?_) (fun fD A outer s H vs Q E hr h=>?_)
 ·obtain⟨_,_,_,_,_,_,_,rfl,_⟩:=h
  rfl
 obtain⟨D,S,B,sc,p,k,bs,rfl,dk,hp,hb,q⟩:=h
 have nd:=qm.nd
 refine⟨_,[some (V.ref D),some (V.ref B),some (V.int k),none,none],(ae (aL (i:=3) nd rfl (Or.inl rfl) (bh cu (aG bt (hr.mono (by first|decide|omega)) rfl T.ax.m T.ax.F.kp T.ax.b .nil aX (aa (pv 0) ah ag)) aj))
 (ae (bw (PW.pt (pw_and (aK (lE (fE hr)) (pv 1) (bJ ah) (aT _)) (pw_and1 (aK nT (pv 3) aj (aT _)))))
 (aq (aU (aZ (aa aV (aa (pv 2) (aa (aD aN (aD bf (pv 1) (bh cu (aG bt (hr.mono (by first|decide|omega)) rfl T.ax.m T.ax.F.kp T.ax.b .nil aX (aa (pv 0) ah ag)) (cw bG rfl T.ic PyProof.Rows.Boot.«len» (aa (pv 1) ah ag))) kT) aj ak) ah ba) ag) aR))))
 a9)
 (ae (bw (PW.pt (pw_and (aK (lE (fE hr)) (pv 1) (bJ ah) (aT _)) (pw_and1 (aK nT (pv 3) aj (aT _)))))
 (aq (aU (aZ (aa aV (aa (pv 2) (aa (aD aN (aD bf (pv 1) (bh cu (aG bt (hr.mono (by first|decide|omega)) rfl T.ax.m T.ax.F.kp T.ax.b .nil aX (aa (pv 0) ah ag)) (cw bG rfl T.ic PyProof.Rows.Boot.«len» (aa (pv 1) ah ag))) kT) aj ak) (aa (aG gW (hr.mono (by first|decide|omega)) rfl T.bR.m T.bR.F.kp T.bR.b .nil aX (aa (pv 0) (aa (pv 1) (aa aj ah aR) ag) ag)) ah bM) ba) ag) aR))))
 a9)
 (ae (bw (aK bT (pv 3) aj (aT _))
 (ae (aL (i:=4) nd rfl (Or.inl rfl) (aD yZ aV (bh cu (aG bt (hr.mono (by first|decide|omega)) rfl T.ax.m T.ax.F.kp T.ax.b .nil aX (aa (pv 0) ah ag)) aj) kT))
 (aq (aU (aZ (aa aV (aa (pv 2) (aa (pv 4) (aa (aG gW (hr.mono (by first|decide|omega)) rfl T.bR.m T.bR.F.kp T.bR.b .nil aX (aa (pv 0) (aa (pv 1) (aa aj ah aR) ag) ag)) (aa (aG gW (hr.mono (by first|decide|omega)) rfl T.bR.m T.bR.F.kp T.bR.b .nil aX (aa (pv 0) (aa (pv 1) (aa aj ah aR) ag) ag)) ah bM) bM) ag) ag) aR)))))
 a9)
 (ae (bw (PW.pt (pw_and (aK bT (pv 3) aj (aT _)) (pw_and1 (aK bT (bh cu (aG bt (hr.mono (by first|decide|omega)) rfl T.ax.m T.ax.F.kp T.ax.b .nil aX (aa (pv 0) ah ag)) aj) aj (aT _)))))
 (aq (aU (aZ (aa aV (aa (pv 2) ah ag) aR))))
 a9)
 (aq (aU (aZ (aa aV (aa (pv 2) (aa (aG gW (hr.mono (by first|decide|omega)) rfl T.bR.m T.bR.F.kp T.bR.b .nil aX (aa (pv 0) (aa (pv 1) (aa aj ah aR) ag) ag)) ah bM) ag) aR))))))))),rfl,?_⟩
 have line:sizeLine=2 ^ 24:=rfl
 refine aw fun U1 ff=>?_
 walk_at "rd"
 refine⟨D,S,sc,p,rfl,dk,by lia,fun H1 u1 Dx=>?_⟩
 walk_at "rd"
 refine(ff _ _).mpr (aw fun U2 gI=>?_)
 clear ff
 have NQ:H D≠none:=by rw[dk.bH];simp
 obtain⟨n0,n1⟩:=PG.iW sc p
 have Dy:=u1.pU (by rw[Dx.bH];simp)
 have ND:=hb.up u1
 have eg:=PG.oo sc bs k p
 generalize hkd:PG.next sc p%10=kd at *
 have say:∀(H2:Hp) (p2:Nat),PG.bY sc bs k p=(.say k (PG.cC sc bs 2 p2).1,(PG.cC sc bs 2 p2).2)->p2<=p+2->bz D H H2->ig K H2 D S sc p2->jG K (·=D) H2 B bs->
  wu K 3 [V.ref D,V.ref B,V.int 2] H2 (fun x H3=>∀p4,H3 p4=none->Q (V.ref p4) (upd H3 p4 (.tup [V.str (Str.ofString "say"),V.int k,x]))) E0:=by
  intro H2 p2 e xt u2 xA rm
  rw[e] at q
  obtain⟨g1,g2⟩:=PG.jA sc bs 2 p2
  refine⟨D,S,B,sc,p2,2,bs,rfl,by lia,xA,by lia,rm,fun v H3 u3 pR o3 p4 tT=>?_⟩
  have K0:H2 D≠none:=by rw[xA.bH];simp
  have GX:H3 D≠none:=by rw[pR.bH];simp
  refine q _ _ ((u2.trans u3).new tT _) (pR.same (av.new tT _)) (jQ tT (fun b z=>(u3.pU GX) b ((u2.pU K0) b z)) (.cons .str (.cons .int (.cons (o3.back (u2.pU K0)) .nil))))
 walk_at "rd"
 intro p2 xt
 have s2:=av.new xt (.lst [])
 have rm:=ND.same s2
 have h2:(upd H1 p2 (.lst [])) p2=some (.lst []):=ai
 have xA:=Dx.same s2
 generalize upd H1 p2 (.lst [])=H2 at *
 obtain⟨xs,hx,lx,_⟩:=rm.list
 refine⟨B,p2,xs,rfl,rfl,hx,.of h2,?_⟩
 have em:xs.isEmpty=decide (bs=[]):=by
  rw[Bool.eq_iff_iff,List.isEmpty_iff,decide_eq_true_eq,<- List.length_eq_zero_iff,lx,List.length_eq_zero_iff]
 rw[em]
 have u2:bz D H1 H2:=.of s2
 have WW:=u2.pU (by rw[xA.bH];simp)
 have box:∀(H3:Hp) (p3:Nat) (R:VK),ig K H3 D S sc p3->p3<=99000->jG K (·=D) H3 B bs->bs≠[]->(∀H4,bz D H3 H4->ig K H4 D S sc (p3+1)->jG K (·=D) H4 B bs->R (V.str (L2.S (PG.pick ⟨[],0,0⟩ bs (PG.next sc p3%bs.length)).name)) H4)->
  uf K [V.ref D] H3 (fun x H1=>∃p ys,[V.ref B]=[V.ref p]/\(il K H1 p ys\/c5 K H1 p ys)/\rI (fun x j=>0<j) (fun i j=>V.int (i%j)) x (V.int (ys.length:Nat)) H1 fun y H2=>AJ K (V.ref B) y H2 fun x H1=>Cw K x (V.int 0) H1 R) E0:=by
  intro H3 p3 R pR l3 J9 xB hR
  refine⟨D,S,sc,p3,rfl,pR,by lia,fun H4 u4 vm=>?_⟩
  have MH:=J9.up u4
  obtain⟨ys,hy,ly,_⟩:=MH.list
  refine⟨B,ys,rfl,.inl hy,?_⟩
  rw[ly]
  have pos:0<bs.length:=List.length_pos_iff.mpr xB
  walk_at "rd"
  exact⟨by lia,MH.pick (Int.emod_nonneg _ (by lia)) (Int.emod_lt_of_pos _ (by lia)) (hR H4 u4 vm MH)⟩
 have QX:=u1.trans u2
 have NS:¬(bs≠[]/\kd<3)->U2 [some (V.ref D),some (V.ref B),some (V.int k),some (V.int kd),none] H2:=by
  intro hn
  rw[if_neg hn] at eg
  refine(gI _ _).mpr (aw fun U3 ik=>?_)
  have NT:¬(bs≠[]/\kd<6)->∀H3,av H2 H3->U3 [some (V.ref D),some (V.ref B),some (V.int k),some (V.int kd),none] H3:=by
   intro OA H3 s3
   rw[if_neg OA] at eg
   have u3:bz D H H3:=QX.trans (.of s3)
   have pR:=xA.same s3
   have J9:=rm.same s3
   have GB:=u3.pU (by rw[pR.bH];simp)
   refine(ik _ _).mpr (aw fun U4 i7=>?_)
   walk_at "rd"
   refine b4 (fun k6=>?_) (fun k6=>(i7 _ _).mpr (aw fun U5 tf=>?_))
   ·rw[if_pos k6] at eg
    rw[eg] at q
    refine⟨D,S,sc,p+1,rfl,pR,by lia,fun H4 u4 vm=>?_⟩
    walk_at "rd"
    obtain⟨m0,m1⟩:=PG.iW sc (p+1)
    have sg:∀i:Int,0<=i->i<2->∃c,qJ (Str.ofString "<=").cps.toList i=some c/\V.str ⟨#[c]⟩=V.str (L2.S (PG.pick [] PG.ze i)):=fun i h0 h3=>by
     have z3:i=0\/i=1:=by lia
     rcases z3 with rfl |rfl
     ·exact⟨60,au (j:=0) (by decide +kernel),rfl⟩
     ·exact⟨61,au (j:=1) (by decide +kernel),rfl⟩
    obtain⟨c,hc,ec⟩:=sg (PG.next sc (p+1)%2) (by lia) (by lia)
    refine⟨_,_,c,rfl,rfl,by decide,hc,?_⟩
    rw[ec]
    have MH:=J9.up u4
    have BH:=u4.pU (by rw[vm.bH];simp)
    obtain⟨g1,g2⟩:=PG.jA sc bs 1 (p+2)
    refine⟨D,S,B,sc,p+2,1,bs,rfl,by lia,vm,by lia,MH,fun v5 H5 u5 Dz o5=>?_⟩
    have hb5:=MH.up u5
    have PY:=u5.pU (by rw[Dz.bH];simp)
    obtain⟨g3,g4⟩:=PG.jA sc bs 1 (PG.cC sc bs 1 (p+2)).2
    refine⟨D,S,B,sc,_,1,bs,rfl,by lia,Dz,by lia,hb5,fun v6 H6 u6 PZ o6 p7 pY=>?_⟩
    have WX:=u6.pU (by rw[PZ.bH];simp)
    have dA:∀b,H b≠none->H4 b≠none:=fun b z=>BH b (GB b z)
    have dB:∀b,H b≠none->H5 b≠none:=fun b z=>PY b (dA b z)
    exact q _ _ ((((u3.trans u4).trans u5).trans u6).new pY _) (PZ.same (av.new pY _)) (jQ pY (fun b z=>WX b (dB b z)) (.cons .str (.cons .int (.cons .str (.cons ((o5.back dA).up u6 NQ) (.cons (o6.back dB) .nil))))))
   ·rw[if_neg k6] at eg
    walk_at "rd"
    refine b4 (fun k7=>?_) (fun k7=>(if_neg Bool.false_ne_true).mpr ((tf _ _).mpr ?_))
    ·rw[if_pos k7] at eg
     refine⟨D,S,sc,p+1,rfl,pR,by lia,fun H4 u4 vm=>?_⟩
     walk_at "rd"
     have BH:=u4.pU (by rw[vm.bH];simp)
     refine b4 (fun z3=>?_) (fun z3=>(tf _ _).mpr ?_)
     ·rw[if_pos z3] at eg
      rw[eg] at q
      intro p5 xn
      exact q _ _ ((u3.trans u4).new xn _) (vm.same (av.new xn _)) (jQ xn (fun b z=>BH b (GB b z)) (.cons .str (.cons .int .nil)))
     ·rw[if_neg z3] at eg
      walk_at "rd"
      exact say H4 (p+2) eg (by lia) (u3.trans u4) vm (J9.up u4)
    ·rw[if_neg k7] at eg
     walk_at "rd"
     exact say H3 (p+1) eg (by lia) u3 pR J9
  walk_at "rd"
  intro p3 GW
  have s3:=av.new GW (.lst [])
  have J9:=rm.same s3
  have h3:(upd H2 p3 (.lst [])) p3=some (.lst []):=ai
  have pR:=xA.same s3
  generalize upd H2 p3 (.lst [])=H3 at *
  obtain⟨ys,hy,ly,_⟩:=J9.list
  refine⟨B,p3,ys,rfl,rfl,hy,.of h3,?_⟩
  have em3:ys.isEmpty=decide (bs=[]):=by
   rw[Bool.eq_iff_iff,List.isEmpty_iff,decide_eq_true_eq,<- List.length_eq_zero_iff,ly,List.length_eq_zero_iff]
  rw[em3]
  by_cases xB:bs=[]
  ·rw[decide_eq_true xB,if_neg (by decide),if_neg Bool.false_ne_true]
   exact NT (fun z=>z.1 xB) H3 s3
  ·rw[decide_eq_false xB,if_pos (by decide)]
   refine b4 (fun k6=>?_) (fun k6=>NT (fun z=>k6 z.2) H3 s3)
   rw[if_pos ⟨xB,k6⟩] at eg
   rw[eg] at q
   refine box H3 (p+1) _ pR (by lia) J9 xB fun H4 u4 vm MH=>?_
   have u3:bz D H H3:=QX.trans (.of s3)
   have GB:=u3.pU (by rw[pR.bH];simp)
   have BH:=u4.pU (by rw[vm.bH];simp)
   obtain⟨g1,g2⟩:=PG.jA sc bs 2 (p+2)
   refine⟨D,S,B,sc,p+2,2,bs,rfl,by lia,vm,by lia,MH,fun v5 H5 u5 Dz o5 p6 iQ=>?_⟩
   have PY:=u5.pU (by rw[Dz.bH];simp)
   exact q _ _ (((u3.trans u4).trans u5).new iQ _) (Dz.same (av.new iQ _)) (jQ iQ (fun b z=>PY b (BH b (GB b z))) (.cons .str (.cons .int (.cons .str (.cons (o5.back fun b z=>BH b (GB b z)) .nil)))))
 by_cases xB:bs=[]
 ·rw[decide_eq_true xB,if_neg (by decide),if_neg Bool.false_ne_true]
  exact NS fun z=>z.1 xB
 ·rw[decide_eq_false xB,if_pos (by decide)]
  refine b4 (fun k3=>?_) (fun k3=>NS fun z=>k3 z.2)
  rw[if_pos ⟨xB,k3⟩] at eg
  rw[eg] at q
  refine box H2 (p+1) _ xA (by lia) rm xB fun H4 u4 vm MH p5 xn=>?_
  have BH:=u4.pU (by rw[vm.bH];simp)
  exact q _ _ ((QX.trans u4).new xn _) (vm.same (av.new xn _)) (jQ xn (fun b z=>BH b (WW b (Dy b z))) (.cons .str (.cons .int (.cons .str .nil))))
theorem Ke:∀w:PG.Wd,(!Lk (V.str (fX w)) [V.str (Str.ofString "else"),V.str (Str.ofString "end")])=decide (w≠.nN/\w≠.fin):=by
 intro w
 cases w<;>decide +kernel
theorem GC(T:Tx K mg t):bQ P w K mg base fh 1 t.gQ t.iK ["boxes", "rows", "mode"] (IX K):=by
 refine T.cX.F.kS oQ (fun vs H Q E h=>?_) (fun fD A outer s H vs Q E hr h=>?_)
 ·obtain⟨_,_,_,_,_,rfl,_⟩:=h
  rfl
 obtain⟨B,R,bs,rows,mode,rfl,rb,rr,lb,lr,q⟩:=h
 have nd:=oQ.nd
 refine⟨_,[some (V.ref B),some (V.ref R),some (V.int mode)],(ae (bw (aK bT (pv 2) aj (aT _))
 (aq (aU (bh dW (bh dW (cw bG rfl T.ic PyProof.Rows.Boot.«len» (aa (pv 0) ah ag)) aj) (bh qI aj (cw bG rfl T.ic PyProof.Rows.Boot.«len» (aa (pv 1) ah ag))))))
 a9)
 (ae (bw (aK bT (pv 2) aj (aT _))
 (aq (aU (bh dW (bh dW (cw bG rfl T.ic PyProof.Rows.Boot.«len» (aa (pv 0) ah ag)) aj) (cw bG rfl T.ic PyProof.Rows.Boot.«len» (aa (jO (own:=["row"]) (ix:=[]) rfl (by rfl) (by rfl) (dq (pv 1)) (fun _ _ _ _=>(bu (i:=0) (by show List.Nodup (["row"]:List Str);decide +kernel) rfl (Or.inl rfl))) (fun _ _ _ _=>(Lv (aK (F1 (K:=K) rfl) (aD (IY (K:=K) rfl) (pv 0) aj ak) (aZ (cO (vs:=[.str "else",.str "end"]) (by kernel_rfl))) rfl))) (fun _ _ _ _=>(pv 0))) ah kB)))))
 a9)
 (aq (aU (bh dW (bh dW (cw bG rfl T.ic PyProof.Rows.Boot.«len» (aa (pv 0) ah ag)) aj) (cw bG rfl T.ic PyProof.Rows.Boot.«len» (aa (pv 1) ah ag))))))),rfl,?_⟩
 have line:sizeLine=2 ^ 24:=rfl
 rw[Rep.bI] at rb rr
 obtain⟨_,bv,e,hB,rb⟩:=rb
 cases e
 obtain⟨_,rv,e,hR,rr⟩:=rr
 cases e
 have MJ:bv.length=bs.length:=by rw[rb.length,List.length_map]
 have NU:rv.length=rows.length:=by rw[rr.length,List.length_map]
 unfold PG.number at q
 walk_at "rd"
 refine b4 (fun m2=>?_) (fun m2=>?_)
 ·rw[if_pos m2] at q
  refine⟨B,bv,rfl,.inl hB,R,rv,rfl,.inl hR,?_⟩
  rw[MJ,NU]
  exact⟨mulL (by decide) (by decide),q _ (av.refl _)⟩
 rw[if_neg m2] at q
 refine b4 (fun m3=>?_) (fun m3=>?_)
 ·rw[if_pos m3] at q
  refine⟨B,bv,rfl,.inl hB,?_⟩
  simp only[kA]
  walk_at "rd"
  refine⟨⟨rv,hR⟩,fun D hD=>?_⟩
  refine C1 (K:=K) (r:=[]) (fun i=>PG.plainRow (rows.getD i (0,.ask))) (fun i=>rv.getD i .ck) hR (by lia) hD (fun i x hx H2 s2 R2 WY=>?_) (fun i x hx _ H2 s2 R2 WY=>?_) (fun H2 s2 h2=>?_)
  ·have li:i<rows.length:=by
    have:=(List.getElem?_eq_some_iff.mp hx).1
    lia
   obtain⟨v,hv,rw_⟩:=rr.get (i:=i) (d:=jF (rows.getD i (0,.ask))) (by rw[List.getElem?_map,List.getElem?_eq_getElem li,List.getD_eq_getElem?_getD,List.getElem?_eq_getElem li];rfl)
   rw[hx] at hv
   cases hv
   generalize rows.getD i (0,.ask)=row at *
   unfold jF at rw_
   rw[Rep.bI] at rw_
   obtain⟨a,ys,rfl,hy,ry⟩:=rw_
   rw[aQ.aJ] at ry
   obtain⟨v1,t1,rfl,e1,ry⟩:=ry
   rw[aQ.aJ] at ry
   obtain⟨v2,t2,rfl,e2,ry⟩:=ry
   rw[aQ.br] at ry
   subst ry
   rw[Rep.bE] at e2
   subst e2
   walk_at "rd"
   refine bC (v:=V.str (fX row.2)) (s2.seq hy) (au (j:=1) rfl) fun p3 GW=>?_
   refine⟨p3,_,rfl,.inr (.of ai),rfl,rfl,?_⟩
   have ew:(!Lk (V.str (fX row.2)) [V.str (Str.ofString "else"),V.str (Str.ofString "end")])=PG.plainRow row:=by
    exact Ke row.2
   have:=WY _ (av.new GW (.tup [V.str (Str.ofString "else"),V.str (Str.ofString "end")]))
   rw[<- ew] at this
   exact⟨_,rfl,this⟩
  ·walk_at "rd"
   have:=WY H2 (av.refl _)
   rw[List.getD_eq_getElem?_getD,hx] at this
   exact this
  ·refine⟨D,_,rfl,.inl (.of h2),?_⟩
   rw[List.length_map,NU,Bb,MJ]
   exact q _ s2
 ·rw[if_neg m3] at q
  refine⟨B,bv,rfl,.inl hB,R,rv,rfl,.inl hR,?_⟩
  rw[MJ,NU]
  exact q _ (av.refl _)
theorem jg{α:Type}{xs:List α}{x:α}:qJ (xs++[x]) (-1)=some x:=by
 have e:HG (xs++[x]).length (-1)=some xs.length:=by
  unfold HG
  simp
  try lia
 unfold qJ
 rw[e]
 simp
theorem tq{K:PySem.W.Frag}{Oo:Addr->Prop}{H:Hp}{ds es:List Dp}{vs us:List V}(a:eP K Oo H ds vs)(b:eP K Oo H es us):eP K Oo H (ds++es) (vs++us):=fun H2 u=>(a H2 u).append (b H2 u)
theorem zM{K:PySem.W.Frag}{H:Hp}{a b:Addr}{xs ys:List V}{Q:VK}(h1:H a=some (.tup xs))(h2:H b=some (.tup ys))(n1:1<=xs.length/\xs.length<=10)(n2:1<=ys.length/\ys.length<=10)(q:∀p,H p=none->Q (.ref p) (upd H p (.tup (xs++ys)))):Ng K (.ref a) (.ref b) H Q:=by
 have line:sizeLine=2 ^ 24:=rfl
 refine⟨a,b,xs,ys,rfl,rfl,.of h1,.of h2,by intro z;rw[z] at n1;simp at n1,by lia,fun z=>by rw[z] at n2;simp at n2,fun _=>q⟩
theorem Kf(T:Tx K mg t):bQ P w K mg base fh 1 t.iJ t.jf ["pile"] (LN K):=by
 refine T.dC.F.kS qo (fun vs H Q E h=>?_) (fun fD A outer s H vs Q E hr h=>?_)
 ·obtain⟨_,_,_,_,_,_,_,_,_,_,_,_,_,_,_,_,rfl,_⟩:=h
  rfl
 obtain⟨D,S,sc,p,B,bs,P',R,f,g,a,b,a',b',r,rows,rfl,st,hk,hg,abB,q⟩:=h
 have nd:=qo.nd
 refine⟨_,[some (V.ref P'),none,none,none,none,none],(ae (qH (CA PySem.F.plainAttrs_list PySem.F.slot_list_pop PySem.F.type_list_pop CF (pv 0)) (zd rfl (c6 (bu (i:=1) nd rfl (Or.inl rfl)) (c6 (bu (i:=2) nd rfl (Or.inl rfl)) (c6 (bu (i:=3) nd rfl (Or.inl rfl)) (c6 (bu (i:=4) nd rfl (Or.inl rfl)) pz))))))
 (ae (aL (i:=5) nd rfl (Or.inl rfl) (bh rN (pv 3) (aZ (aa (pv 2) ah ag))))
 (ae (bw (aK bT (pv 1) aV (aT _))
 (aq (aL (i:=5) nd rfl (Or.inl rfl) (bh rN (pv 3) (aZ (aa (pv 2) (aa (bJ ah) ah iV) ag)))))
 a9)
 (ae (bw (aK bT (pv 1) aV (aT _))
 (aq (aL (i:=5) nd rfl (Or.inl rfl) (bh rN (pv 3) (aZ (aa (pv 4) (aa (pv 2) ah ag) ag)))))
 a9)
 (aq (bX (eR PySem.F.plainAttrs_list PySem.F.slot_list_append PySem.F.type_list_append bL (aD bf (aD bf (pv 0) (rL my aj) rY) aj ak) (aa (pv 5) ah ag)))))))),rfl,?_⟩
 have line:sizeLine=2 ^ 24:=rfl
 refine aw fun U1 ff=>?_
 walk_at "rd"
 have ep:((f,a,b)::(g,a',b')::r:List xj).reverse.map (fun x=>V.ref x.2.1)=((g,a',b')::r:List xj).reverse.map (fun x=>V.ref x.2.1)++[.ref a]:=by rw[List.reverse_cons,List.map_append];rfl
 obtain⟨vi,⟨hd,fi,xs,fa⟩,na,nb,Si⟩:=st.pop
 have kd:∀c,H c≠none->(upd H P' (.lst (((g,a',b')::r:List xj).reverse.map fun x=>V.ref x.2.1))) c≠none:=fun c hc=>by
  by_cases e:c=P'
  ·rw[e,ai];simp
  ·rw[ay e];exact hc
 have kp:∀c o,c ∉ iA D P' R ((f,a,b)::(g,a',b')::r)->H c=some o->(upd H P' (.lst (((g,a',b')::r:List xj).reverse.map fun x=>V.ref x.2.1))) c=some o:=fun c o hc e=>by
  rw[ay (fun z=>hc (by rw[z];simp[iA]))];exact e
 refine⟨.inl ⟨rfl,_,.of st.a8⟩,P',_,.ref a,rfl,rfl,st.a8,by rw[ep];simp,?_⟩
 rw[ep,List.dropLast_concat]
 generalize upd H P' (.lst (((g,a',b')::r:List xj).reverse.map fun x=>V.ref x.2.1))=H1 at *
 refine⟨a,_,rfl,.of fa.fr,rfl,_,_,rfl,_,_,rfl,_,_,rfl,_,_,rfl,rfl,(ff _ _).mpr (aw fun U2 gI=>?_)⟩
 clear ff
 obtain⟨c,ys,rfl,hc,nc,QY⟩:=fa.F0 (by lia)
 have lys:ys.length=5:=by have:=QY.FZ.length;simpa using this
 have DA:∀z,O D P' R ((g,a',b')::r) [] z->O D P' R ((g,a',b')::r) [a,b] z:=fun z hz=>hz.elim .inl fun w=>absurd w (by simp)
 have xi:=vi.less (E':=[]) (fun z hz=>absurd hz (by simp))
 have P0:=QY.sub DA
 have S1:¬O D P' R ((g,a',b')::r) [] b:=fun z=>z.elim nb (by simp)
 have S2:Fix K (O D P' R ((g,a',b')::r) []) H1 (.lst (f.body.map de)) (.ref b):=Fix.lst fa.bd S1 (fa.ok.sub DA)
 walk_at "rd"
 intro p2 xt
 have s2:=av.new xt (.tup [.ref b])
 have t2:(upd H1 p2 (.tup [.ref b])) p2=some (.tup [.ref b]):=ai
 generalize upd H1 p2 (.tup [.ref b])=H2 at *
 refine zM (s2 _ _ hc) t2 (by lia) (by simp) fun p3 GW=>?_
 have s3:=s2.trans (av.new GW (.tup (ys++[.ref b])))
 have t3:(upd H2 p3 (.tup (ys++[.ref b]))) p3=some (.tup (ys++[.ref b])):=ai
 have n3:p3 ∉ iA D P' R ((g,a',b')::r):=(xi.same s2).fresh GW
 generalize upd H2 p3 (.tup (ys++[.ref b]))=H3 at *
 refine(gI _ _).mpr (aw fun U3 ik=>?_)
 clear gI
 walk_at "rd"
 have S3:(su f.kind=Str.ofString "if")↔f.kind=1:=by
  rcases hk with h |h |h<;>rw[h]<;>simp[su]<;>decide +kernel
 have S4:(su f.kind=Str.ofString "else")↔f.kind=2:=by
  rcases hk with h |h |h<;>rw[h]<;>simp[su]<;>decide +kernel
 have NV:∀(v:V) (H4:Hp),av H1 H4->(f.kind≠2->Fix K (O D P' R ((g,a',b')::r) []) H4 (de f.told) v)->U3 [some (V.ref P'),some (V.str (su f.kind)),some (V.ref b),some (V.ref c),some fi,some v] H4:=by
  intro v H4 s4 hv
  refine(ik _ _).mpr (aw fun U4 i7=>?_)
  have last:∀(v:V) (H5:Hp),av H1 H5->Fix K (O D P' R ((g,a',b')::r) []) H5 (de f.told) v->U4 [some (V.ref P'),some (V.str (su f.kind)),some (V.ref b),some (V.ref c),some fi,some v] H5:=by
   intro v H5 s5 fv
   refine(i7 _ _).mpr ?_
   have Hi:=xi.same s5
   obtain⟨Ce,fi',Ef,fg⟩:=Hi.frames _ (List.mem_cons_self ..)
   have lg:Ef.length<=1000:=by have:=fg.len;simp only at this;lia
   walk_at "rd"
   have pl:H5 P'=some (.lst ((r.reverse.map fun x=>V.ref x.2.1)++[.ref a'])):=by rw[Hi.a8,List.reverse_cons,List.map_append];rfl
   refine⟨1,rfl,bC (v:=.ref a') (.of pl) jg (bC (v:=.ref b') (.of fg.fr) (au (j:=1) rfl) ⟨.inl ⟨rfl,_,.of fg.bd⟩,b',Ef,v,rfl,rfl,fg.bd,by lia,?_⟩)⟩
   refine q _ (fun z hz=>?_) (fun z o nz e=>?_) (Hi.YM fg.bd fv)
   ·by_cases e:z=b'
    ·rw[e,ai];simp
    ·rw[ay e]
     have h1:=kd z hz
     cases w:H1 z with
     |none=>exact absurd w h1
     |some o=>rw[s5 _ _ w];simp
   ·rw[ay (fun w=>nz (by rw[w];simp[iA]))]
    exact s5 _ _ (kp z o nz e)
  walk_at "rd"
  refine b4 (fun e2=>?_) (fun e2=>last v H4 s4 (hv fun z=>e2 (S4.mpr z)))
  have k2:=S4.mp e2
  intro p5 xn
  have s5:=s4.trans (av.new xn (.tup [fi,.ref b]))
  have t5:(upd H4 p5 (.tup [fi,.ref b])) p5=some (.tup [fi,.ref b]):=ai
  generalize upd H4 p5 (.tup [fi,.ref b])=H5 at *
  refine zM (s5 _ _ hc) t5 (by lia) (by simp) fun p6 iQ=>?_
  have s6:=s5.trans (av.new iQ (.tup (ys++[fi,.ref b])))
  have n6:¬O D P' R ((g,a',b')::r) [] p6:=fun z=>z.elim ((xi.same s5).fresh iQ) (by simp)
  refine last _ _ s6 ?_
  have et:de f.told=.tup ([.str "if",.int f.k,.str (L2.S f.sg),jk f.l,jk f.r]++[.lst (f.first.map de),.lst (f.body.map de)]):=by
   unfold PG.Frame.told
   rw[if_neg (by lia),if_pos k2,de,eX,eX]
   rfl
  rw[et]
  have f5:=P0
  rw[if_neg (by lia)] at f5
  refine Fix.tup ai n6 ?_
  exact tq (f5.up (.of s6)) (.cons (((fa.IW k2).sub DA).up (.of s6)) (.cons (S2.up (.of s6)) .nil))
 refine b4 (fun e1=>?_) (fun e1=>NV _ H3 s3 fun OA=>?_)
 ·have k1:=S3.mp e1
  intro p4 tT p5 xn
  have s4:=s3.trans (av.new tT (.lst []))
  have t4:(upd H3 p4 (.lst [])) p4=some (.lst []):=ai
  have n4:¬O D P' R ((g,a',b')::r) [] p4:=fun z=>z.elim ((xi.same s3).fresh tT) (by simp)
  generalize upd H3 p4 (.lst [])=H4 at *
  have s5:=s4.trans (av.new xn (.tup [.ref b,.ref p4]))
  have t45:=av.new xn (.tup [.ref b,.ref p4]) _ _ t4
  have t5:(upd H4 p5 (.tup [.ref b,.ref p4])) p5=some (.tup [.ref b,.ref p4]):=ai
  generalize upd H4 p5 (.tup [.ref b,.ref p4])=H5 at *
  refine zM (s5 _ _ hc) t5 (by lia) (by simp) fun p6 iQ=>?_
  have s6:=s5.trans (av.new iQ (.tup (ys++[.ref b,.ref p4])))
  have t6:=av.new iQ (.tup (ys++[.ref b,.ref p4])) _ _ t45
  have n6:¬O D P' R ((g,a',b')::r) [] p6:=fun z=>z.elim ((xi.same s5).fresh iQ) (by simp)
  refine NV _ _ s6 fun _=>?_
  have et:de f.told=.tup ([.str "if",.int f.k,.str (L2.S f.sg),jk f.l,jk f.r]++[.lst (f.body.map de),.lst []]):=by
   unfold PG.Frame.told
   rw[if_pos k1,de,eX]
   rfl
  rw[et]
  have f5:=P0
  rw[if_neg (by lia)] at f5
  refine Fix.tup ai n6 ?_
  exact tq (f5.up (.of s6)) (.cons (S2.up (.of s6)) (.cons (Fix.lst t6 n4 .nil) .nil))
 ·have k3:f.kind=3:=by
   have:¬f.kind=1:=fun z=>e1 (S3.mpr z)
   lia
  have et:de f.told=.tup ([.str "while",.int f.k,.str (L2.S f.sg),jk f.l,jk f.r]++[.lst (f.body.map de)]):=by
   unfold PG.Frame.told
   rw[if_neg (by lia),if_neg (by lia),de,eX]
   rfl
  rw[et]
  have f5:=P0
  rw[if_pos k3] at f5
  exact Fix.tup t3 (fun z=>z.elim n3 (by simp)) (tq (f5.up (.of s3)) (.cons (S2.up (.of s3)) .nil))
theorem DB(T:Tx K mg t):bQ P w K mg base fh 6 t.gk t.gY ["deck", "many"] (Df K):=by
 have bt:bQ P w K mg base fh 1 t.eC t.eE ["deck"] (uf K):=tm T
 have gW:=Ka (P:=P) (w:=w) (base:=base) T 2
 have zN:=Kb (P:=P) (w:=w) (base:=base) T
 have zO:=Kd (P:=P) (w:=w) (base:=base) T
 have qv:=GC (P:=P) (w:=w) (base:=base) T
 have tw:=Kf (P:=P) (w:=w) (base:=base) T
 refine T.cN.F.kS nG (fun vs H Q E h=>?_) (fun fD A outer s H vs Q E hr h=>?_)
 ·obtain⟨_,_,_,_,_,rfl,_⟩:=h
  rfl
 obtain⟨D,S,sc,p,many,rfl,dk,hp,hm,q⟩:=h
 have nd:=nG.nd
 refine⟨_,[some (V.ref D),some (V.int many),none,none,none,none,none,none,none,none,none,none,none,none,none],(ae (aL (i:=2) nd rfl (Or.inl rfl) (aG zN (hr.mono (by first|decide|omega)) rfl T.gE.m T.gE.F.kp T.gE.b .nil aX (aa (pv 0) ah ag)))
 (ae (aL (i:=3) nd rfl (Or.inl rfl) (bJ (aa (bJ (aa aV (aa (bJ ah) (aa eM (aa eM ah aR) aR) iV) aR)) ah iV)))
 (ae (aL (i:=4) nd rfl (Or.inl rfl) (bJ ah))
 (ae (aL (i:=5) nd rfl (Or.inl rfl) (bh cu (aG bt (hr.mono (by first|decide|omega)) rfl T.ax.m T.ax.F.kp T.ax.b .nil aX (aa (pv 0) ah ag)) aj))
 (ae (fZ PassesOwn.never rfl (iT rfl T.jX (aa (pv 1) ah ag)) (bu (i:=6) nd rfl (Or.inl rfl))
 (ae (aL (i:=7) nd rfl (Or.inl rfl) (aG qv (hr.mono (by first|decide|omega)) rfl T.cX.m T.cX.F.kp T.cX.b .nil aX (aa (pv 2) (aa (pv 4) (aa (pv 5) ah ag) ag) ag)))
 (ae (aL (i:=8) nd rfl (Or.inl rfl) (bh cu (aG bt (hr.mono (by first|decide|omega)) rfl T.ax.m T.ax.F.kp T.ax.b .nil aX (aa (pv 0) ah ag)) aj))
 (aq (bw (PW.pt (pw_and (aK nT (pv 8) aj (aT _)) (pw_and1 (aK Hm (cw bG rfl T.ic PyProof.Rows.Boot.«len» (aa (pv 3) ah ag)) aj (aT _)))))
 (ae (bX (aG tw (hr.mono (by first|decide|omega)) rfl T.dC.m T.dC.F.kp T.dC.b .nil aX (aa (pv 3) ah ag)))
 (aq (bX (eR PySem.F.plainAttrs_list PySem.F.slot_list_append PySem.F.type_list_append bL (pv 4) (aa (bJ (aa (pv 7) (aa aV ah aR) ag)) ah iV)))))
 (aq (bw (PW.pt (pw_and (aK bT (pv 8) aj (aT _)) (pw_and1 (aK bT (aD bf (aD bf (pv 3) (rL my aj) rY) aj ak) aV (aT _)))))
 (ae (qH (CA PySem.F.plainAttrs_list PySem.F.slot_list_pop PySem.F.type_list_pop CF (pv 3)) (zd rfl (c6 (bu (i:=9) nd rfl (Or.inl rfl)) (c6 (bu (i:=10) nd rfl (Or.inl rfl)) (c6 (bu (i:=11) nd rfl (Or.inl rfl)) (c6 (bu (i:=12) nd rfl (Or.inl rfl)) pz))))))
 (ae (bX (eR PySem.F.plainAttrs_list PySem.F.slot_list_append PySem.F.type_list_append bL (pv 3) (aa (bJ (aa aV (aa (bJ ah) (aa (pv 11) (aa (pv 10) ah ag) ag) iV) aR)) ah iV)))
 (aq (bX (eR PySem.F.plainAttrs_list PySem.F.slot_list_append PySem.F.type_list_append bL (pv 4) (aa (bJ (aa (pv 7) (aa aV ah aR) ag)) ah iV))))))
 (aq (bw (PW.pt (pw_and (aK nT (pv 8) aj (aT _)) (pw_and1 (aK nT (cw bG rfl T.ic PyProof.Rows.Boot.«len» (aa (pv 3) ah ag)) aj (aT _)))))
 (ae (aL (i:=13) nd rfl (Or.inl rfl) (aD bf (bJ (cO (vs:=[.str "if",.str "if",.str "while"]) (by kernel_rfl))) (bh cu (pv 8) aj) kT))
 (ae (aL (i:=14) nd rfl (Or.inl rfl) (aZ (aa (aD yZ aV (bh cu (aG bt (hr.mono (by first|decide|omega)) rfl T.ax.m T.ax.F.kp T.ax.b .nil aX (aa (pv 0) ah ag)) aj) kT) (aa (aG gW (hr.mono (by first|decide|omega)) rfl T.bR.m T.bR.F.kp T.bR.b .nil aX (aa (pv 0) (aa (pv 2) (aa aj ah aR) ag) ag)) (aa (aG gW (hr.mono (by first|decide|omega)) rfl T.bR.m T.bR.F.kp T.bR.b .nil aX (aa (pv 0) (aa (pv 2) (aa aj ah aR) ag) ag)) ah bM) bM) ba)))
 (ae (bX (eR PySem.F.plainAttrs_list PySem.F.slot_list_append PySem.F.type_list_append bL (pv 3) (aa (bJ (aa (pv 13) (aa (bJ ah) (aa (bh rN (aZ (aa (pv 13) (aa (pv 7) ah ag) ag)) (pv 14)) (aa eM ah aR) ka) iV) ag)) ah iV)))
 (aq (bX (eR PySem.F.plainAttrs_list PySem.F.slot_list_append PySem.F.type_list_append bL (pv 4) (aa (bJ (aa (pv 7) (aa (pv 13) ah ag) ag)) ah iV)))))))
 (ae (bX (eR PySem.F.plainAttrs_list PySem.F.slot_list_append PySem.F.type_list_append bL (aD bf (aD bf (pv 3) (rL my aj) rY) aj ak) (aa (aG zO (hr.mono (by first|decide|omega)) rfl T.gF.m T.gF.F.kp T.gF.b .nil aX (aa (pv 0) (aa (pv 2) (aa (pv 7) ah ag) ag) ag)) ah bM)))
 (aq (bX (eR PySem.F.plainAttrs_list PySem.F.slot_list_append PySem.F.type_list_append bL (pv 4) (aa (bJ (aa (pv 7) (aa (aD aN (aD bf (aD bf (aD bf (pv 3) (rL my aj) rY) aj ak) (rL my aj) rY) aj ak) ah ba) ag)) ah iV))))))))))))))
 (ae (nQ PassesOwn.never (aK Hm (cw bG rfl T.ic PyProof.Rows.Boot.«len» (aa (pv 3) ah ag)) aj (aT _))
 (ae (bX (aG tw (hr.mono (by first|decide|omega)) rfl T.dC.m T.dC.F.kp T.dC.b .nil aX (aa (pv 3) ah ag)))
 (aq (bX (eR PySem.F.plainAttrs_list PySem.F.slot_list_append PySem.F.type_list_append bL (pv 4) (aa (bJ (aa (aG qv (hr.mono (by first|decide|omega)) rfl T.cX.m T.cX.F.kp T.cX.b .nil aX (aa (pv 2) (aa (pv 4) (aa (pv 5) ah ag) ag) ag)) (aa aV ah aR) bM)) ah iV))))))
 (aq (aU (bJ (aa (aZ (aa (pv 2) (aa (aD bf (aD bf (pv 3) aj ak) aj ak) ah ba) ag)) (aa (pv 4) ah ag) cE)))))))))),rfl,?_⟩
 have line:sizeLine=2 ^ 24:=rfl
 have NQ:H D≠none:=by rw[dk.bH];simp
 refine aw fun U1 ff=>?_
 walk_at "rd"
 refine⟨D,S,sc,p,rfl,dk,by lia,fun B H1 u1 Dx hB ow1=>(ff _ _).mpr (aw fun U2 gI=>?_)⟩
 clear ff
 unfold PG.cb at q
 simp only at q
 generalize xB:PG.bV sc (PG.next sc p%4) (PG.next sc (p+1)%4).toNat 0 (p+2)=bs at *
 have k1:Kept D H H1:=⟨u1,u1.pU (by rw[Dx.bH];simp)⟩
 have bx1:Fix K (·=D) H1 (.lst (bs.1.map iz)) (.ref B):=ow1 _ fun b hb=>by rw[show b=D from hb];exact NQ
 walk_at "rd"
 intro b0 LS
 have x1:=bx1.apart (o:=.lst []) LS
 have y1:(upd H1 b0 (.lst [])) b0=some (.lst []):=ai
 have s1:=av.new LS (.lst [])
 have xA:=Dx.same s1
 have k2:=k1.same s1
 have e1:H b0=none:=by
  cases z:H b0 with
  |none=>rfl
  |some o=>exact absurd LS (k1.2 b0 (by rw[z];simp))
 generalize upd H1 b0 (.lst [])=H2 at *
 intro a0 NW
 have x2:=x1.apart (o:=.lst [V.str (Str.ofString "all"),V.ref b0,V.ck,V.ck]) NW
 have s2:=av.new NW (.lst [V.str (Str.ofString "all"),V.ref b0,V.ck,V.ck])
 have y2:(upd H2 a0 (.lst [V.str (Str.ofString "all"),V.ref b0,V.ck,V.ck])) a0=some (.lst [V.str (Str.ofString "all"),V.ref b0,V.ck,V.ck]):=ai
 have y1:=s2 _ _ y1
 have Si:a0≠b0:=fun z=>by rw[z] at NW;rw[‹H2 b0=some (HO.lst [])›] at NW;cases NW
 have pR:=xA.same s2
 have k3:=k2.same s2
 have e2:H a0=none:=by
  cases z:H a0 with
  |none=>rfl
  |some o=>exact absurd NW (k2.2 a0 (by rw[z];simp))
 generalize upd H2 a0 (.lst [V.str (Str.ofString "all"),V.ref b0,V.ck,V.ck])=H3 at *
 intro P' hP
 have x3:=x2.apart (o:=.lst [V.ref a0]) hP
 have s3:=av.new hP (.lst [V.ref a0])
 have y3:(upd H3 P' (.lst [V.ref a0])) P'=some (.lst [V.ref a0]):=ai
 have nPa:a0≠P':=ao y2 hP
 have nPb:b0≠P':=ao y1 hP
 have nPD:D≠P':=ao pR.bH hP
 have nPS:S≠P':=ao pR.fU hP
 have y2:=s3 _ _ y2
 have y1:=s3 _ _ y1
 have nDb:D≠b0:=ao Dx.bH LS
 have Sh:S≠b0:=ao Dx.fU LS
 have nDa:D≠a0:=ao xA.bH NW
 have Wb:S≠a0:=ao xA.fU NW
 have vm:=pR.same s3
 have k4:=k3.same s3
 have e3:H P'=none:=by
  cases z:H P' with
  |none=>rfl
  |some o=>exact absurd hP (k3.2 P' (by rw[z];simp))
 generalize upd H3 P' (.lst [V.ref a0])=H4 at *
 refine(gI _ _).mpr (aw fun U3 ik=>?_)
 clear gI
 walk_at "rd"
 intro R hR
 have x4:=x3.apart (o:=.lst []) hR
 have s4:=av.new hR (.lst [])
 have y4:(upd H4 R (.lst [])) R=some (.lst []):=ai
 have nRa:a0≠R:=ao y2 hR
 have nRb:b0≠R:=ao y1 hR
 have nRP:P'≠R:=ao y3 hR
 have nRD:D≠R:=ao vm.bH hR
 have nRS:S≠R:=ao vm.fU hR
 have y1:=s4 _ _ y1
 have y2:=s4 _ _ y2
 have y3:=s4 _ _ y3
 have Dz:=vm.same s4
 have k5:=k4.same s4
 have e4:H R=none:=by
  cases z:H R with
  |none=>rfl
  |some o=>exact absurd hR (k4.2 R (by rw[z];simp))
 generalize upd H4 R (.lst [])=H5 at *
 obtain⟨bl,bp⟩:bs.1.length<=10/\bs.2<=p+20:=by
  obtain⟨l1,l2⟩:=PG.jP sc (PG.next sc p%4) (PG.next sc (p+1)%4).toNat 0 (p+2)
  rw[xB] at l1 l2
  have:=PG.iW sc (p+1)
  lia
 have Y6:lH K H5 D S sc bs.2 B bs.1 P' R [({kind:=0,body:=[]},a0,b0)] [] []:=by
  refine⟨Dz,x4.sub fun z hz=>?_,bl,y3,fun x hx=>?_,⟨[],y4,.nil,rfl⟩,?_,?_⟩
  ·rcases hz with hz |hz
   ·simp only[iA,List.flatMap_cons,List.flatMap_nil,List.append_nil,List.mem_cons,List.not_mem_nil,or_false] at hz
    rcases hz with rfl |rfl |rfl |rfl |rfl
    ·exact .inl (.inl (.inl (.inl rfl)))
    ·exact .inl (.inr rfl)
    ·exact .inr rfl
    ·exact .inl (.inl (.inr rfl))
    ·exact .inl (.inl (.inl (.inr rfl)))
   ·cases hz
  ·rw[List.mem_singleton.mp hx]
   exact⟨.ck,.ck,[],y2,y1,.nil,fun z=>absurd rfl z,fun z=>absurd z (show ¬(0=2) by decide),rfl⟩
  ·simp only[iA,List.flatMap_cons,List.flatMap_nil,List.append_nil,List.nodup_cons,List.mem_cons,List.not_mem_nil,or_false,not_or,not_false_eq_true,List.nodup_nil,and_true]
   exact⟨⟨nPD,nRD,nDa,nDb⟩,⟨nRP,nPa.symm,nPb.symm⟩,⟨nRa.symm,nRb.symm⟩,Si⟩
  ·simp only[iA,List.flatMap_cons,List.flatMap_nil,List.append_nil,List.mem_cons,List.not_mem_nil,or_false,not_or]
   exact⟨Dz.ne,nPS,nRS,Wb,Sh⟩
 refine(ik _ _).mpr (aw fun U4 i7=>?_)
 clear ik x1 x2 x3 x4
 walk_at "rd"
 refine⟨D,S,sc,bs.2,rfl,Dz,by lia,fun H6 u6 PZ=>?_⟩
 walk_at "rd"
 have k6:=k5.up u6 (by rw[PZ.bH];simp)
 have st6:=Y6.draw u6 PZ
 clear Y6
 generalize PG.next sc bs.2%4=mode at *
 refine(i7 _ _).mpr (aw fun U5 tf=>?_)
 clear i7
 generalize S5:(⟨bs.2+1,[{kind:=0,body:=[]}],[]⟩:PG.Walk)=w0 at *
 have ok0:PG.dH w0:=by rw[<- S5];exact⟨rfl,rfl,by simp⟩
 have len0:PG.ou 0 w0:=by rw[<- S5];exact⟨fun f hf=>by rw[List.mem_singleton.mp hf];exact Nat.le_refl _,Nat.le_refl _⟩
 refine lD fun U hU=>?_
 walk_at "rd"
 refine⟨_,rfl,by lia,by lia,hU _ _ ?_⟩
 clear hU
 rw[Int.toNat_natCast]
 obtain⟨Pv,hX⟩:∃Pv:Nat->St->Hp->Prop,∀i σ H7,Pv i σ H7↔∃(z6 z7 z8 z9 E6 Aw Ax Ay K5:Option V) (dO:List xj),σ=[some (V.ref D),some (V.int many),some (V.ref B),some (V.ref P'),some (V.ref R),some (V.int mode),z6,z7,z8,z9,E6,Aw,Ax,Ay,K5]/\
  dO.map (·.1)=(PG.turns sc bs.1 mode i w0).a8/\lH K H7 D S sc (PG.turns sc bs.1 mode i w0).p B bs.1 P' R dO (PG.turns sc bs.1 mode i w0).rows []/\Kept D H H7/\PG.dH (PG.turns sc bs.1 mode i w0)/\PG.ou i (PG.turns sc bs.1 mode i w0)/\(PG.turns sc bs.1 mode i w0).p<=200+20*i/\
  ∀x∈dO,H x.2.1=none/\H x.2.2=none:=⟨_,fun _ _ _=>Iff.rfl⟩
 refine jY (lo:=0) (n:=many) Pv ?_ ?_ ?_
 ·refine(hX _ _ _).mpr ⟨none,none,none,none,none,none,none,none,none,[({kind:=0,body:=[]},a0,b0)],rfl,?_,?_,k6,ok0,len0,?_,fun x hx=>by rw[List.mem_singleton.mp hx];exact⟨e2,e1⟩⟩
  ·show _=w0.a8
   rw[<- S5];rfl
  ·show lH K H6 D S sc w0.p B bs.1 P' R _ w0.rows []
   rw[<- S5];exact st6
  ·show w0.p<=_
   rw[<- S5]
   simp only
   lia
 ·intro i σ H7 hi hv
  obtain⟨z6,z7,z8,z9,E6,Aw,Ax,Ay,K5,dO,rfl,ef,st,kp,ok,ln,pb,E7⟩:=(hX _ _ _).mp hv
  clear hv
  rw[Int.zero_add]
  have done:=fun σ H7=>(hX (i+1) σ H7).mpr
  rw[PG.vZ] at done
  have Kg:=PG.rZ sc bs.1 mode ok
  have Kh:=PG.AY sc bs.1 mode ln
  have NX:=(PG.O5 sc bs.1 mode (PG.turns sc bs.1 mode i w0)).2
  generalize PG.turns sc bs.1 mode i w0=wk at *
  obtain⟨pp,a8,rows⟩:=wk
  simp only at ef st pb NX
  have rl:rows.length<=i:=ln.2
  cases a8 with
  |nil=>exact ok.a8.elim
  |cons f r=>
  cases dO with
  |nil=>cases ef
  |cons x0 fr=>
  obtain⟨f',a,b⟩:=x0
  simp only[List.map_cons,List.cons.injEq] at ef
  obtain⟨rfl,ef⟩:=ef
  have WZ:fr.length=r.length:=by rw[<- ef,List.length_map]
  rw[PG.zg] at done Kg Kh NX
  simp only[fC,List.set]
  refine aw fun U6 xm=>?_
  walk_at "rd"
  obtain⟨xk,hR7,fR,lR⟩:=st.rows
  refine⟨B,R,bs.1,rows,mode,rfl,st.box.rep,Rep.bI.mpr ⟨R,xk,rfl,.of hR7,fR.FZ⟩,bl,by lia,fun H8 s8=>(xm _ _).mpr (aw fun U7 J8=>?_)⟩
  clear xm
  have W0:=st.same s8
  have kp8:=kp.same s8
  generalize PG.number bs.1.length rows mode=k at *
  walk_at "rd"
  refine⟨D,S,sc,pp,rfl,W0.bH,by lia,fun H9 u9 NR=>?_⟩
  walk_at "rd"
  refine(J8 _ _).mpr ?_
  clear J8
  have xC:=W0.draw u9 NR
  have S6:=kp8.up u9 (by rw[NR.bH];simp)
  obtain⟨w0',w1'⟩:=PG.iW sc pp
  generalize abV:PG.next sc pp%12=way at *
  have abW:0<=way/\way<12:=by lia
  clear st W0 s8 u9
  have DC:∀(dO:List xj),(∀x∈dO,H x.2.1=none/\H x.2.2=none)->∀z o,z≠D->H z=some o->z ∉ iA D P' R dO:=by
   intro dO hf z o nz e hz
   simp only[iA,List.mem_cons,List.mem_flatMap] at hz
   rcases hz with hz |rfl |rfl |⟨x,hx,hz⟩
   ·exact nz hz
   ·rw[e3] at e;cases e
   ·rw[e4] at e;cases e
   ·simp only[List.not_mem_nil,or_false] at hz
    rcases hz with rfl |rfl
    ·rw[(hf x hx).1] at e;cases e
    ·rw[(hf x hx).2] at e;cases e
  have zP:∀(pW:Hp) (w:PG.Wd) (dO:List xj) (pq:Nat) (M:Hp->Prop),lH K pW D S sc pq B bs.1 P' R dO rows []->Kept D H pW->(∀JW,lH K JW D S sc pq B bs.1 P' R dO (rows++[(k,w)]) []->Kept D H JW->M JW)->
   Uh K "list" (V.ref R) pW/\∀q,pW q=none->zb (V.ref R) [V.ref q] (upd pW q (.lst [.int k,.str (fX w)])) fun _ H1=>M H1:=by
   intro pW w dO pq M qu E8 hM
   obtain⟨rv,hr,_,lr⟩:=qu.rows
   refine⟨.inl ⟨rfl,_,.of hr⟩,fun q hq=>?_⟩
   have JX:=qu.same (av.new hq (.lst [.int k,.str (fX w)]))
   have Qa:=E8.same (av.new hq (.lst [.int k,.str (fX w)]))
   have S7:=av.new hq (.lst [.int k,.str (fX w)]) _ _ hr
   refine⟨R,rv,_,rfl,rfl,S7,by lia,hM _ (JX.row S7 (k:=k) (w:=w) (q:=q) ai fun z=>z.elim (qu.fresh hq) (by simp)) (Qa.put e4 _)⟩
  have lp:((f',a,b)::fr:List xj).reverse.map (fun x=>V.ref x.2.1)=(fr.reverse.map fun x=>V.ref x.2.1)++[.ref a]:=by rw[List.reverse_cons,List.map_append];rfl
  have Qb:∀(fs:List xj) z,O D P' R fs [] z->z∈iA D P' R fs:=fun fs z hz=>hz.elim id (by simp)
  refine zk fun V1 GD=>?_
  have c1:¬(way<2/\(f'::r).length>1)->V1 [some (V.ref D),some (V.int many),some (V.ref B),some (V.ref P'),some (V.ref R),some (V.int mode),some (V.int i),some (V.int k),some (V.int way),z9,E6,Aw,Ax,Ay,K5] H9:=by
   intro h1
   rw[if_neg h1] at done Kg Kh NX
   refine GD _ _ (zk fun V2 GF=>?_)
   have c2:¬(way=2/\f'.kind=1)->V2 [some (V.ref D),some (V.int many),some (V.ref B),some (V.ref P'),some (V.ref R),some (V.int mode),some (V.int i),some (V.int k),some (V.int way),z9,E6,Aw,Ax,Ay,K5] H9:=by
    intro h2
    rw[if_neg h2] at done Kg Kh NX
    refine GF _ _ (zk fun V3 K6=>?_)
    have c3:¬(way<6/\(f'::r).length<4)->V3 [some (V.ref D),some (V.int many),some (V.ref B),some (V.ref P'),some (V.ref R),some (V.int mode),some (V.int i),some (V.int k),some (V.int way),z9,E6,Aw,Ax,Ay,K5] H9:=by
     intro h3
     rw[if_neg h3] at done Kg Kh NX
     refine K6 _ _ ?_
     walk_at "rd"
     have S8:=xC.a8
     rw[lp] at S8
     obtain⟨hd,fi,xs,fa⟩:=xC.frames _ (List.mem_cons_self ..)
     refine⟨1,rfl,bC (v:=.ref a) (.of S8) jg (bC (v:=.ref b) (.of fa.fr) (au (j:=1) rfl) ⟨.inl ⟨rfl,_,.of fa.bd⟩,?_⟩)⟩
     refine⟨D,S,B,sc,pp+1,k,bs.1,rfl,xC.bH,by lia,xC.aC,fun v pW Qc wZ PX=>?_⟩
     have nu:=xC.draw Qc wZ
     have E8:=S6.up Qc (by rw[wZ.bH];simp)
     obtain⟨hd2,fi2,Qd,W4⟩:=nu.frames _ (List.mem_cons_self ..)
     have fv:Fix K (O D P' R ((f',a,b)::fr) []) pW (de (PG.bY sc bs.1 k (pp+1)).1) v:=PX _ fun z hz=>xC.pU z (Qb _ z hz)
     have l2:Qd.length<=1000:=by have:=W4.len;have:=ln.1 f' (by simp);simp only at *;lia
     refine⟨b,Qd,v,rfl,rfl,W4.bd,by lia,?_⟩
     have xD:=nu.YM W4.bd fv
     have Qa:=E8.put (E7 (f',a,b) (by simp)).2 (.lst (Qd++[v]))
     have W5:Rep K (upd pW b (.lst (Qd++[v]))) (de (PG.bY sc bs.1 k (pp+1)).1) v:=(fv.up (bc.refl.put (.inl (by simp[iA])) _)).rep
     have W6:(upd pW b (.lst (Qd++[v]))) b=some (.lst (Qd++[v])):=ai
     have Ta:=xD.a8
     obtain⟨KP,fi3,xs3,fa3⟩:=xD.frames _ (List.mem_cons_self ..)
     have W7:=fa3.fr
     generalize upd pW b (.lst (Qd++[v]))=JW at *
     have pe:((({f' with body:=f'.body++[(PG.bY sc bs.1 k (pp+1)).1]}:PG.Frame),a,b)::fr:List xj).reverse.map (fun x=>V.ref x.2.1)=(fr.reverse.map fun x=>V.ref x.2.1)++[.ref a]:=by rw[List.reverse_cons,List.map_append];rfl
     rw[pe] at Ta
     obtain⟨ta,ys,rfl,Mu⟩:=IZ _ W5
     have ar:=zP JW (PG.bY sc bs.1 k (pp+1)).1.wd _ _ (fun Gv=>Pv (i+1) [some (V.ref D),some (V.int many),some (V.ref B),some (V.ref P'),some (V.ref R),some (V.int mode),some (V.int i),some (V.int k),some (V.int way),z9,E6,Aw,Ax,Ay,K5] Gv) xD Qa fun Gv BI Tb=>done _ _ ⟨_,_,_,_,_,_,_,_,_,_,rfl,by simp only[List.map_cons,ef],BI,Tb,Kg,Kh,by lia,fun x hx=>by
      rcases List.mem_cons.mp hx with rfl |hx
      ·exact E7 (f',a,b) (by simp)
      ·exact E7 x (by simp[hx])⟩
     exact⟨ar.1,1,rfl,bC (v:=.ref a) (.of Ta) jg (bC (v:=.ref b) (.of W7) (au (j:=1) rfl) ⟨1,rfl,bC (v:=.ref ta) (.of W6) jg (aI Mu (au (j:=0) rfl) ar.2)⟩)⟩
    walk_at "rd"
    refine b4 (fun w6=>⟨P',_,rfl,.inl (.of xC.a8),b4 (fun l4=>?_) (fun l4=>c3 fun z=>l4 ?_)⟩) (fun w6=>(if_neg Bool.false_ne_true).mpr (c3 fun z=>w6 z.1))
    ·rw[lp,List.length_append,List.length_map,List.length_reverse,WZ] at l4
     have cond:way<6/\(f'::r).length<4:=⟨w6,by simp only[List.length_cons,List.length_nil] at l4 ⊢;lia⟩
     rw[if_pos cond] at done Kg Kh NX
     intro p1 GZ
     have qu:=av.new GZ (.lst [V.str (Str.ofString "if"),V.str (Str.ofString "if"),V.str (Str.ofString "while")])
     have nu:=xC.same qu
     have E8:=S6.same qu
     have wk:∀z:Int,0<=z->z<3->qJ [V.str (Str.ofString "if"),V.str (Str.ofString "if"),V.str (Str.ofString "while")] z=some (V.str (su (PG.pick 1 [1,1,3] z)))/\(PG.pick 1 [1,1,3] z=1\/PG.pick 1 [1,1,3] z=3):=fun z h0 h3=>by
      have z3:z=0\/z=1\/z=2:=by lia
      rcases z3 with rfl |rfl |rfl
      ·exact⟨au (j:=0) rfl,.inl rfl⟩
      ·exact⟨au (j:=1) rfl,.inl rfl⟩
      ·exact⟨au (j:=2) rfl,.inr rfl⟩
     obtain⟨wk1,wk2⟩:=wk (way%3) (by lia) (by lia)
     refine AR wk1 ?_
     generalize upd H9 p1 (.lst [V.str (Str.ofString "if"),V.str (Str.ofString "if"),V.str (Str.ofString "while")])=pW at *
     generalize PG.pick 1 [1,1,3] (way%3)=kd at *
     have wd:(if kd=3 then ("while":Str) else "if")=su kd/\fX (if kd=3 then PG.Wd.fe else PG.Wd.ifs)=su kd:=by
      rcases wk2 with rfl |rfl<;>exact⟨rfl,rfl⟩
     refine⟨D,S,sc,pp+1,rfl,nu.bH,by lia,fun JW Y7 Tc=>?_⟩
     have xD:=nu.draw Y7 Tc
     have Qa:=E8.up Y7 (by rw[Tc.bH];simp)
     obtain⟨m0,m1⟩:=PG.iW sc (pp+1)
     walk_at "rd"
     have sg:∀z:Int,0<=z->z<2->∃c,qJ (Str.ofString "<=").cps.toList z=some c/\V.str ⟨#[c]⟩=V.str (L2.S (PG.pick [] PG.ze z)):=fun z h0 h3=>by
      have z3:z=0\/z=1:=by lia
      rcases z3 with rfl |rfl
      ·exact⟨60,au (j:=0) (by decide +kernel),rfl⟩
      ·exact⟨61,au (j:=1) (by decide +kernel),rfl⟩
     obtain⟨c,hc,ec⟩:=sg (PG.next sc (pp+1)%2) (by lia) (by lia)
     refine⟨_,_,c,rfl,rfl,by decide,hc,?_⟩
     rw[ec]
     obtain⟨g1,g2⟩:=PG.jA sc bs.1 1 (pp+2)
     refine⟨D,S,B,sc,pp+2,1,bs.1,rfl,by lia,xD.bH,by lia,xD.aC,fun v3 Gv QX Td W8=>?_⟩
     have BI:=xD.draw QX Td
     have Tb:=Qa.up QX (by rw[Td.bH];simp)
     have f3:Fix K (O D P' R ((f',a,b)::fr) []) Gv (jk (PG.cC sc bs.1 1 (pp+2)).1) v3:=W8 _ fun z hz=>xD.pU z (Qb _ z hz)
     obtain⟨g3,g4⟩:=PG.jA sc bs.1 1 (PG.cC sc bs.1 1 (pp+2)).2
     refine⟨D,S,B,sc,_,1,bs.1,rfl,by lia,BI.bH,by lia,BI.aC,fun v4 NO Av Te W9 t0 ht0=>?_⟩
     have Xa:=BI.draw Av Te
     have k13:=Tb.up Av (by rw[Te.bH];simp)
     have f4:Fix K (O D P' R ((f',a,b)::fr) []) NO (jk (PG.cC sc bs.1 1 (PG.cC sc bs.1 1 (pp+2)).2).1) v4:=W9 _ fun z hz=>BI.pU z (Qb _ z hz)
     have f3:=f3.up (bc.one Av (.inl (by simp[iA])))
     generalize PG.cC sc bs.1 1 (PG.cC sc bs.1 1 (pp+2)).2=Y8 at *
     generalize PG.cC sc bs.1 1 (pp+2)=ge1 at *
     generalize PG.pick [] PG.ze (PG.next sc (pp+1)%2)=sgn at *
     have Gw:=av.new ht0 (.tup [V.str (L2.S sgn),v3,v4])
     have K2:(upd NO t0 (.tup [V.str (L2.S sgn),v3,v4])) t0=some (.tup [V.str (L2.S sgn),v3,v4]):=ai
     have MK:=Xa.same Gw
     have Wz:=k13.same Gw
     have f3:=f3.up (.of Gw)
     have f4:=f4.up (.of Gw)
     generalize upd NO t0 (.tup [V.str (L2.S sgn),v3,v4])=SR at *
     refine⟨.inl ⟨rfl,_,.of MK.a8⟩,fun b2 rm=>?_⟩
     have Gx:=av.new rm (.lst [])
     have Ki:=MK.more rm (.lst [])
     have f3:=f3.apart (o:=.lst []) rm
     have f4:=f4.apart (o:=.lst []) rm
     have S1:b2 ∉ iA D P' R ((f',a,b)::fr):=MK.fresh rm
     have Qe:S≠b2:=ao MK.bH.fU rm
     have E9:(upd SR b2 (.lst [])) b2=some (.lst []):=ai
     have UI:=Wz.same Gx
     have Qf:H b2=none:=by
      cases z:H b2 with
      |none=>rfl
      |some o=>exact absurd rm (Wz.2 b2 (by rw[z];simp))
     have K2:=Gx _ _ K2
     generalize upd SR b2 (.lst [])=MB at *
     intro t1 QZ
     have Gy:=av.new QZ (.tup [V.str (su kd),V.int k])
     have y16:(upd MB t1 (.tup [V.str (su kd),V.int k])) t1=some (.tup [V.str (su kd),V.int k]):=ai
     have Tf:=Ki.same Gy
     have k16:=UI.same Gy
     have f3:=f3.up (.of Gy)
     have f4:=f4.up (.of Gy)
     have E9:=Gy _ _ E9
     have K2:=Gy _ _ K2
     generalize upd MB t1 (.tup [V.str (su kd),V.int k])=QV at *
     refine zM y16 K2 (by simp) (by simp) fun t2 UJ=>?_
     have Th:=av.new UJ (.tup ([V.str (su kd),V.int k]++[V.str (L2.S sgn),v3,v4]))
     have UK:(upd QV t2 (.tup ([V.str (su kd),V.int k]++[V.str (L2.S sgn),v3,v4]))) t2=some (.tup ([V.str (su kd),V.int k]++[V.str (L2.S sgn),v3,v4])):=ai
     have Qg:=Tf.same Th
     have Y9:=k16.same Th
     have f3:=f3.up (.of Th)
     have f4:=f4.up (.of Th)
     have nt2:t2 ∉ iA D P' R ((f',a,b)::fr):=Tf.fresh UJ
     have Xb:t2≠b2:=fun z=>by rw[z,E9] at UJ;cases UJ
     have E9:=Th _ _ E9
     generalize upd QV t2 (.tup ([V.str (su kd),V.int k]++[V.str (L2.S sgn),v3,v4]))=Za at *
     intro a2 xE
     have Qh:=av.new xE (.lst [V.str (su kd),V.ref b2,V.ref t2,V.ck])
     have Kj:=Qg.more xE (.lst [V.str (su kd),V.ref b2,V.ref t2,V.ck])
     have f3:=f3.apart (o:=.lst [V.str (su kd),V.ref b2,V.ref t2,V.ck]) xE
     have f4:=f4.apart (o:=.lst [V.str (su kd),V.ref b2,V.ref t2,V.ck]) xE
     have Xc:a2 ∉ iA D P' R ((f',a,b)::fr):=Qg.fresh xE
     have Qi:S≠a2:=ao Qg.bH.fU xE
     have Qj:a2≠b2:=fun z=>by rw[z,E9] at xE;cases xE
     have Xd:t2≠a2:=ao UK xE
     have Xe:(upd Za a2 (.lst [V.str (su kd),V.ref b2,V.ref t2,V.ck])) a2=some (.lst [V.str (su kd),V.ref b2,V.ref t2,V.ck]):=ai
     have Xf:=Y9.same Qh
     have Qk:H a2=none:=by
      cases z:H a2 with
      |none=>rfl
      |some o=>exact absurd xE (Y9.2 a2 (by rw[z];simp))
     have E9:=Qh _ _ E9
     have UK:=Qh _ _ UK
     generalize upd Za a2 (.lst [V.str (su kd),V.ref b2,V.ref t2,V.ck])=Xg at *
     have j:∀z,O D P' R ((f',a,b)::fr) [a2,b2] z->((O D P' R ((f',a,b)::fr) [] z\/z=b2)\/z=a2):=fun z hz=>by
      rcases hz with h |h
      ·exact .inl (.inl (.inl h))
      ·simp only[List.mem_cons,List.not_mem_nil,or_false] at h
       rcases h with h |h
       ·exact .inr h
       ·exact .inl (.inr h)
     have nf:fk K (O D P' R ((f',a,b)::fr) [a2,b2]) Xg ({kind:=kd,body:=[],k:=k,sg:=sgn,l:=ge1.1,r:=Y8.1}:PG.Frame) a2 b2 (.ref t2) .ck []:=by
      refine⟨Xe,E9,.nil,fun _=>⟨t2,_,rfl,UK,fun z=>?_,?_⟩,fun z=>?_,rfl⟩
      ·rcases z with z |z
       ·exact nt2 z
       ·simp only[List.mem_cons,List.not_mem_nil,or_false] at z
        exact z.elim Xd Xb
      ·show eP K _ _ [.str (if kd=3 then "while" else "if"),.int k,.str (L2.S sgn),jk ge1.1,jk Y8.1] _
       rw[wd.1]
       exact .cons .str (.cons .int (.cons .str (.cons (f3.sub j) (.cons (f4.sub j) .nil))))
      ·have z:kd=2:=z
       lia
     have Ql:=(Kj.push nf Xc S1 Qj Qi Qe (by simp) (by simp)).less (E':=[]) (fun z hz=>absurd hz (by simp))
     have Xh:=Xf.put e3 (.lst (((f',a,b)::fr:List xj).reverse.map (fun x=>V.ref x.2.1)++[.ref a2]))
     refine⟨P',_,_,rfl,rfl,Kj.a8,by rw[List.length_map,List.length_reverse];have:=ok.most;simp only[List.length_cons] at this ⊢;lia,?_⟩
     have ar:=zP _ (if kd=3 then PG.Wd.fe else PG.Wd.ifs) _ _ (fun Ti=>Pv (i+1) [some (V.ref D),some (V.int many),some (V.ref B),some (V.ref P'),some (V.ref R),some (V.int mode),some (V.int i),some (V.int k),some (V.int way),z9,E6,Aw,Ax,some (V.str (su kd)),some (V.ref t0)] Ti) Ql Xh fun Ti Qm Xi=>done _ _ ⟨_,_,_,_,_,_,_,_,_,_,rfl,by simp only[List.map_cons,ef],Qm,Xi,Kg,Kh,by lia,fun x hx=>by
      rcases List.mem_cons.mp hx with rfl |hx
      ·exact⟨Qk,Qf⟩
      ·exact E7 x hx⟩
     rw[wd.2] at ar
     exact ar
    ·rw[lp,List.length_append,List.length_map,List.length_reverse,WZ]
     have:=z.2
     simp only[List.length_cons,List.length_nil] at this ⊢
     lia
   walk_at "rd"
   have S8:=xC.a8
   rw[lp] at S8
   obtain⟨K7,fi0,SE,fa0⟩:=xC.frames _ (List.mem_cons_self ..)
   have kk:(V.str (su f'.kind)=V.str (Str.ofString "if"))↔f'.kind=1:=by
    have:f'.kind=0\/f'.kind=1\/f'.kind=2\/f'.kind=3:=by
     have z:=ok.a8
     cases r with
     |nil=>exact .inl z
     |cons g r2=>exact .inr z.1
    rcases this with h |h |h |h<;>rw[h]<;>decide +kernel
   refine b4 (fun w2=>⟨1,rfl,bC (v:=.ref a) (.of S8) jg (bC (v:=.str (su f'.kind)) (.of fa0.fr) (au (j:=0) rfl) ⟨rfl,b4 (fun kf=>?_) (fun kf=>c2 fun z=>kf (kk.mpr z.2))⟩)⟩) (fun w2=>(if_neg Bool.false_ne_true).mpr (c2 fun z=>w2 z.1))
   have kd1:=kk.mp kf
   rw[if_pos ⟨w2,kd1⟩] at done Kg Kh NX
   obtain⟨nu,⟨hd,fi,xs,fa⟩,na,nb,Si⟩:=xC.pop
   have E8:=S6.put e3 (.lst (fr.reverse.map fun x=>V.ref x.2.1))
   refine⟨.inl ⟨rfl,_,.of xC.a8⟩,P',_,.ref a,rfl,rfl,xC.a8,by rw[lp];simp,?_⟩
   rw[lp,List.dropLast_concat]
   generalize upd H9 P' (.lst (fr.reverse.map fun x=>V.ref x.2.1))=pW at *
   obtain⟨cc,ys,rfl,KG,Xj,QY⟩:=fa.F0 (by lia)
   have DA:∀z,O D P' R fr [] z->O D P' R fr [a,b] z:=fun z hz=>hz.elim .inl fun w=>absurd w (by simp)
   have nu:=nu.less (E':=[]) (fun z hz=>absurd hz (by simp))
   have QY:=QY.sub DA
   have Xj:¬O D P' R fr [] cc:=fun z=>Xj (DA cc z)
   have S2:Fix K (O D P' R fr []) pW (.lst (f'.body.map de)) (.ref b):=Fix.lst fa.bd (fun z=>z.elim nb (by simp)) (fa.ok.sub DA)
   refine⟨a,_,rfl,.of fa.fr,rfl,_,_,rfl,_,_,rfl,_,_,rfl,_,_,rfl,rfl,.inl ⟨rfl,_,.of nu.a8⟩,fun b2 rm=>?_⟩
   have Gx:=av.new rm (.lst [])
   have Ki:=nu.more rm (.lst [])
   have f3:=QY.apart (o:=.lst []) rm
   have f4:=S2.apart (o:=.lst []) rm
   have S1:b2 ∉ iA D P' R fr:=nu.fresh rm
   have Qe:S≠b2:=ao nu.bH.fU rm
   have E9:(upd pW b2 (.lst [])) b2=some (.lst []):=ai
   have UI:=E8.same Gx
   have Qf:H b2=none:=by
    cases z:H b2 with
    |none=>rfl
    |some o=>exact absurd rm (E8.2 b2 (by rw[z];simp))
   have ncb:cc≠b2:=ao KG rm
   have KG:=Gx _ _ KG
   generalize upd pW b2 (.lst [])=MB at *
   intro a2 xE
   have Qh:=av.new xE (.lst [V.str (Str.ofString "else"),V.ref b2,V.ref cc,V.ref b])
   have Kj:=Ki.more xE (.lst [V.str (Str.ofString "else"),V.ref b2,V.ref cc,V.ref b])
   have f3:=f3.apart (o:=.lst [V.str (Str.ofString "else"),V.ref b2,V.ref cc,V.ref b]) xE
   have f4:=f4.apart (o:=.lst [V.str (Str.ofString "else"),V.ref b2,V.ref cc,V.ref b]) xE
   have Xc:a2 ∉ iA D P' R fr:=Ki.fresh xE
   have Qi:S≠a2:=ao Ki.bH.fU xE
   have Qj:a2≠b2:=fun z=>by rw[z,E9] at xE;cases xE
   have nca:cc≠a2:=ao KG xE
   have Xe:(upd MB a2 (.lst [V.str (Str.ofString "else"),V.ref b2,V.ref cc,V.ref b])) a2=some (.lst [V.str (Str.ofString "else"),V.ref b2,V.ref cc,V.ref b]):=ai
   have Xf:=UI.same Qh
   have Qk:H a2=none:=by
    cases z:H a2 with
    |none=>rfl
    |some o=>exact absurd xE (UI.2 a2 (by rw[z];simp))
   have E9:=Qh _ _ E9
   have KG:=Qh _ _ KG
   generalize upd MB a2 (.lst [V.str (Str.ofString "else"),V.ref b2,V.ref cc,V.ref b])=Xg at *
   have j:∀z,O D P' R fr [a2,b2] z->((O D P' R fr [] z\/z=b2)\/z=a2):=fun z hz=>by
    rcases hz with h |h
    ·exact .inl (.inl (.inl h))
    ·simp only[List.mem_cons,List.not_mem_nil,or_false] at h
     rcases h with h |h
     ·exact .inr h
     ·exact .inl (.inr h)
   have nf:fk K (O D P' R fr [a2,b2]) Xg ({f' with kind:=2,body:=[],first:=f'.body}:PG.Frame) a2 b2 (.ref cc) (.ref b) []:=by
    refine⟨Xe,E9,.nil,fun _=>⟨cc,ys,rfl,KG,fun z=>?_,?_⟩,fun _=>f4.sub j,rfl⟩
    ·rcases j cc z with (z |z) |z
     ·exact Xj z
     ·exact ncb z
     ·exact nca z
    ·have f5:=f3.sub j
     rw[if_neg (by lia)] at f5
     exact f5
   have Ql:=(Kj.push nf Xc S1 Qj Qi Qe (by simp) (by simp)).less (E':=[]) (fun z hz=>absurd hz (by simp))
   have Xh:=Xf.put e3 (.lst ((fr.reverse.map fun x=>V.ref x.2.1)++[.ref a2]))
   refine⟨P',_,_,rfl,rfl,Kj.a8,by rw[List.length_map,List.length_reverse];have:=ok.most;simp only[List.length_cons] at this ⊢;lia,?_⟩
   exact zP _ .nN _ _ (fun Ti=>Pv (i+1) [some (V.ref D),some (V.int many),some (V.ref B),some (V.ref P'),some (V.ref R),some (V.int mode),some (V.int i),some (V.int k),some (V.int way),some (V.str (su f'.kind)),some (V.ref b),some (V.ref cc),some fi,Ay,K5] Ti) Ql Xh fun Ti Qm Xi=>done _ _ ⟨_,_,_,_,_,_,_,_,_,_,rfl,by simp only[List.map_cons,ef],Qm,Xi,Kg,Kh,by lia,fun x hx=>by
    rcases List.mem_cons.mp hx with rfl |hx
    ·exact⟨Qk,Qf⟩
    ·exact E7 x (by simp[hx])⟩
  walk_at "rd"
  refine b4 (fun w2=>⟨P',_,rfl,.inl (.of xC.a8),b4 (fun l2=>?_) (fun l2=>c1 fun z=>l2 ?_)⟩) (fun w2=>(if_neg Bool.false_ne_true).mpr (c1 fun z=>w2 z.1))
  ·rw[lp,List.length_append,List.length_map,List.length_reverse] at l2
   cases fr with
   |nil=>simp at l2
   |cons x1 UL=>
    obtain⟨g,a',b'⟩:=x1
    cases r with
    |nil=>cases ef
    |cons g' r2=>
    simp only[List.map_cons,List.cons.injEq] at ef
    obtain⟨rfl,ef⟩:=ef
    have cond:way<2/\(f'::g::r2).length>1:=⟨w2,by simp⟩
    rw[if_pos cond] at done Kg Kh NX
    have m4:=ok.most
    simp only[List.length_cons] at m4 WZ
    refine⟨D,S,sc,pp+1,B,bs.1,P',R,f',g,a,b,a',b',UL,rows,rfl,xC,ok.a8.1,by have:=ln.1 g (by simp);lia,by lia,fun pW QU Kc nu=>?_⟩
    have E8:Kept D H pW:=⟨fun z o nz e=>Kc z o (DC _ E7 z o nz e) (S6.1 z o nz e),fun z hz=>QU z (S6.2 z hz)⟩
    refine zP pW .fin _ _ _ nu E8 fun JW xD Qa=>done _ _ ⟨_,_,_,_,_,_,_,_,_,_,rfl,?_,xD,Qa,Kg,Kh,by lia,fun x hx=>?_⟩
    ·simp only[List.map_cons,ef]
     rfl
    ·rcases List.mem_cons.mp hx with rfl |hx
     ·exact E7 (g,a',b') (by simp)
     ·exact E7 x (by simp[hx])
  ·rw[lp,List.length_append,List.length_map,List.length_reverse]
   have:=z.2
   simp only[List.length_cons,List.length_nil] at this ⊢
   lia
 ·intro σ H7 hv
  obtain⟨z6,z7,z8,z9,E6,Aw,Ax,Ay,K5,dO,rfl,ef,st,kp,ok,ln,pb,E7⟩:=(hX _ _ _).mp hv
  clear hv
  generalize PG.turns sc bs.1 mode many w0=wk at *
  show U5 _ H7
  refine(tf _ _).mpr (aw fun U6 xm=>?_)
  walk_at "rd"
  refine⟨fun m σ H8=>∃(dO:List xj) (vG:PG.Walk),σ=[some (V.ref D),some (V.int many),some (V.ref B),some (V.ref P'),some (V.ref R),some (V.int mode),z6,z7,z8,z9,E6,Aw,Ax,Ay,K5]/\dO.map (·.1)=vG.a8/\lH K H8 D S sc vG.p B bs.1 P' R dO vG.rows []/\Kept D H H8/\PG.dH vG/\PG.ou (many+4-m) vG/\
   PG.ends bs.1.length mode 4 wk=PG.ends bs.1.length mode m vG/\vG.a8.length<=m+1/\m<=4/\vG.p<=90000/\∀x∈dO,H x.2.1=none/\H x.2.2=none,⟨4,dO,wk,rfl,ef,st,kp,ok,by rw[show many+4-4=many by lia];exact ln,rfl,by have:=ok.most;lia,Nat.le_refl _,by lia,E7⟩,?_⟩
  rintro m σ H8 ⟨dO,vG,rfl,ef,st,kp,ok,ln,ee,pl,m4,Zb,E7⟩
  walk_at "rd"
  refine⟨P',_,rfl,.inl (.of st.a8),?_⟩
  rw[List.length_map,List.length_reverse]
  have lf:dO.length=vG.a8.length:=by rw[<- ef,List.length_map]
  refine b4 (fun l1=>?_) (fun l1=>?_)
  ·obtain⟨n,rfl⟩:∃n,m=n+1:=⟨m-1,by lia⟩
   refine⟨fun σ H9=>∃(dO:List xj),σ=[some (V.ref D),some (V.int many),some (V.ref B),some (V.ref P'),some (V.ref R),some (V.int mode),z6,z7,z8,z9,E6,Aw,Ax,Ay,K5]/\dO.map (·.1)=PG.close vG.a8/\lH K H9 D S sc vG.p B bs.1 P' R dO (vG.rows++[(PG.number bs.1.length vG.rows mode,.fin)]) []/\Kept D H H9/\∀x∈dO,H x.2.1=none/\H x.2.2=none,?_,?_⟩
   ·rintro σ H9 ⟨Xk,rfl,ef9,xC,k9,fr9⟩
    obtain⟨_,cl⟩:=PG.om ok.a8
    refine⟨n,by lia,Xk,⟨vG.p,PG.close vG.a8,vG.rows++[(PG.number bs.1.length vG.rows mode,.fin)]⟩,rfl,ef9,xC,k9,PG.v9 ok _,?_,?_,?_,by lia,Zb,fr9⟩
    ·have:=PG.yc ln (PG.number bs.1.length vG.rows mode)
     rw[show many+4-n=many+4-(n+1)+1 by lia]
     exact this
    ·rw[ee]
     conv=>lhs;unfold PG.ends
     rw[if_pos (by lia)]
    ·show (PG.close vG.a8).length<=n+1
     lia
   ·obtain⟨pp,a8,rows⟩:=vG
    simp only at *
    have rl:rows.length<=200:=by have:=ln.2;simp only at this;lia
    match dO,a8,ef,lf with
    |(f',a,b)::(g,a',b')::UL,a8,ef,lf=>
     simp only[List.map_cons] at ef
     subst ef
     have m4':=ok.most
     simp only[List.length_cons,List.length_map] at m4'
     refine⟨D,S,sc,pp,B,bs.1,P',R,f',g,a,b,a',b',UL,rows,rfl,st,ok.a8.1,by have:=ln.1 g (by simp);lia,by lia,fun pW QU Kc nu=>?_⟩
     have DC:∀(dO:List xj),(∀x∈dO,H x.2.1=none/\H x.2.2=none)->∀z o,z≠D->H z=some o->z ∉ iA D P' R dO:=by
      intro dO hf z o nz e hz
      simp only[iA,List.mem_cons,List.mem_flatMap] at hz
      rcases hz with hz |rfl |rfl |⟨x,hx,hz⟩
      ·exact nz hz
      ·rw[e3] at e;cases e
      ·rw[e4] at e;cases e
      ·simp only[List.not_mem_nil,or_false] at hz
       rcases hz with rfl |rfl
       ·rw[(hf x hx).1] at e;cases e
       ·rw[(hf x hx).2] at e;cases e
     have E8:Kept D H pW:=⟨fun z o nz e=>Kc z o (DC _ E7 z o nz e) (kp.1 z o nz e),fun z hz=>QU z (kp.2 z hz)⟩
     obtain⟨rv,Tj,fR,lr⟩:=nu.rows
     refine⟨.inl ⟨rfl,_,.of Tj⟩,B,R,bs.1,rows,mode,rfl,nu.box.rep,Rep.bI.mpr ⟨R,rv,rfl,.of Tj,fR.FZ⟩,bl,by lia,fun JW JX q2 Zc=>?_⟩
     have K1:=JX.trans (av.new Zc (.lst [.int (PG.number bs.1.length rows mode),.str (fX .fin)]))
     have BI:=nu.same K1
     have Tb:=E8.same K1
     have Tn:=K1 _ _ Tj
     refine⟨R,rv,_,rfl,rfl,Tn,by lia,?_⟩
     have nq2:¬O D P' R (({g with body:=g.body++[f'.told]},a',b')::UL) [] q2:=fun z=>z.elim ((nu.same JX).fresh Zc) (by simp)
     refine⟨_,trivial,?_,BI.row Tn (k:=PG.number bs.1.length rows mode) (w:=.fin) (q:=q2) ai nq2,Tb.put e4 _,fun x hx=>?_⟩
     ·simp only[List.map_cons]
      rfl
     ·rcases List.mem_cons.mp hx with rfl |hx
      ·exact E7 (g,a',b') (by simp)
      ·exact E7 x (by simp[hx])
  ·have en:PG.ends bs.1.length mode m vG=vG:=by
    cases m with
    |zero=>rfl
    |succ m=>unfold PG.ends;rw[if_neg (by lia)]
   rw[en] at ee
   rw[ee] at q
   refine(xm _ _).mpr ?_
   walk_at "rd"
   obtain⟨pp,a8,rows⟩:=vG
   simp only at *
   match dO,a8,ef,lf,ok,q with
   |[],a8,ef,lf,ok,q=>cases ef;exact ok.a8.elim
   |[(f',a,b)],a8,ef,lf,ok,q=>
    cases ef
    obtain⟨hd,fi,xs,fa⟩:=st.frames _ (List.mem_cons_self ..)
    obtain⟨rv,Tj,fR,lr⟩:=st.rows
    refine bC (v:=.ref a) (.of st.a8) (au (j:=0) rfl) (bC (v:=.ref b) (.of fa.fr) (au (j:=1) rfl) fun t1 QZ=>?_)
    have s9:=av.new QZ (.tup [V.ref B,V.ref b])
    have y9:(upd H8 t1 (.tup [V.ref B,V.ref b])) t1=some (.tup [V.ref B,V.ref b]):=ai
    have xC:=st.same s9
    have k9:=kp.same s9
    intro l2 CD
    have qu:=av.new CD (.lst [V.ref t1,V.ref R])
    have E8:=k9.same qu
    have nD:∀z,z∈iA D P' R [(f',a,b)]->z≠D->¬(fun z=>z=D) z:=fun z _ n=>n
    have To:=st.nd
    simp only[iA,List.flatMap_cons,List.flatMap_nil,List.append_nil,List.nodup_cons,List.mem_cons,List.not_mem_nil,or_false,not_or] at To
    have Zd:b≠D:=fun z=>To.1.2.2.2 z.symm
    have Ze:R≠D:=fun z=>To.1.2.1 z.symm
    have dD:=xC.bH.bH
    have t1D:t1≠D:=fun z=>by rw[z] at QZ;rw[st.bH.bH] at QZ;cases QZ
    have l2D:l2≠D:=fun z=>by rw[z] at CD;rw[dD] at CD;cases CD
    have Qn:∀z,z=D->O D P' R [(f',a,b)] [] z:=fun z e=>.inl (by rw[e];simp[iA])
    have fB:=(xC.box.sub Qn).up (bc.of qu:bc (fun z=>z=D) _ _)
    have fBd:=((fa.ok.sub Qn).up (bc.of s9:bc (fun z=>z=D) _ _)).up (bc.of qu:bc (fun z=>z=D) _ _)
    have fRw:=((fR.sub Qn).up (bc.of s9:bc (fun z=>z=D) _ _)).up (bc.of qu:bc (fun z=>z=D) _ _)
    have BnD:B≠D:=fun z=>NQ (by rw[<- z];exact hB)
    exact q l2 t1 B b R _ E8.1 ⟨_,Zb,xC.bH.same qu⟩ ai (qu _ _ y9) l2D t1D BnD Zd Ze fB (Fix.lst (qu _ _ (s9 _ _ fa.bd)) Zd fBd) (Fix.lst (qu _ _ (s9 _ _ Tj)) Ze fRw)
   |x::y::r,a8,ef,lf,ok,q=>exact absurd (by simp only[List.length_cons];lia) l1
theorem uG:∀s:PG.bF,(V.str (fX s.wd)=V.str (Str.ofString "while"))↔s.wd=.fe:=by
 intro s
 cases s<;>simp only[PG.bF.wd]<;>decide +kernel
theorem zQ:∀s:PG.bF,(V.str (fX s.wd)=V.str (Str.ofString "if"))↔s.wd=.ifs:=by
 intro s
 cases s<;>simp only[PG.bF.wd]<;>decide +kernel
theorem Fb:∀s:PG.bF,(V.str (fX s.wd)=V.str (Str.ofString "stop"))↔s.wd=.stop:=by
 intro s
 cases s<;>simp only[PG.bF.wd]<;>decide +kernel
theorem Fc{K:PySem.W.Frag}{H:Hp}{d0 d1 d2 d3 d4 d5:Dp}{xs:List V}{ds:List Dp}(h:aQ K H (d0::d1::d2::d3::d4::d5::ds) xs):∃v0 v1 v2 v3 v4 v5 r,xs=v0::v1::v2::v3::v4::v5::r/\Rep K H d5 v5/\aQ K H ds r:=by
 rw[aQ.aJ] at h
 obtain⟨v0,t0,rfl,_,h⟩:=h
 rw[aQ.aJ] at h
 obtain⟨v1,t1,rfl,_,h⟩:=h
 rw[aQ.aJ] at h
 obtain⟨v2,t2,rfl,_,h⟩:=h
 rw[aQ.aJ] at h
 obtain⟨v3,t3,rfl,_,h⟩:=h
 rw[aQ.aJ] at h
 obtain⟨v4,t4,rfl,_,h⟩:=h
 rw[aQ.aJ] at h
 obtain⟨v5,t5,rfl,e5,h⟩:=h
 exact⟨v0,v1,v2,v3,v4,v5,t5,rfl,e5,h⟩
theorem nv(T:Tx K mg t):bQ P w K mg base fh 1 t.eA t.eB ["body", "behind"] (sF K):=by
 refine T.bN.F.kS sL (fun vs H Q E h=>?_) (fun fD A outer s H vs Q E hr h=>?_)
 ·obtain⟨_,_,_,rfl,_⟩:=h
  rfl
 obtain⟨b,body,x,rfl,rb,lb,q⟩:=h
 have nd:=sL.nd
 refine⟨_,[some (V.ref b),some (V.int x)],(ae (bw (Ho (pv 0) (fun _=>rfl))
 (aq (aU (aD aN (aD bf (pv 0) aj ak) aj ak)))
 a9)
 (aq (aU (pv 1)))),rfl,?_⟩
 walk_at "rd"
 rw[Rep.bI] at rb
 obtain⟨_,xs,e,hx,rs⟩:=rb
 cases e
 have line:sizeLine=2 ^ 24:=rfl
 cases body with
 |nil=>
  rw[List.map_nil,aQ.br] at rs
  subst rs
  exact⟨false,.inl ⟨_,hx,rfl⟩,q⟩
 |cons st r=>
  rw[List.map_cons,aQ.aJ] at rs
  obtain⟨v,t,rfl,rv,rs⟩:=rs
  obtain⟨a,ys,rfl,hs⟩:=hZ st rv
  refine⟨true,.inl ⟨_,hx,rfl⟩,?_⟩
  refine(if_pos rfl).mpr (bC (v:=.ref a) hx (au (j:=0) rfl) ?_)
  exact aI hs (v:=.int st.row) (au (j:=1) rfl) q
theorem w5(T:Tx K mg t):bQ P w K mg base fh 1 t.fM t.gg ["statement", "after"] (Bc K):=by
 refine T.fO.F.kS oP (fun vs H Q E h=>?_) (fun fD A outer s H vs Q E hr h=>?_)
 ·obtain⟨_,_,_,rfl,_⟩:=h
  rfl
 obtain⟨v,st,x,rfl,rv,q⟩:=h
 have nd:=oP.nd
 refine⟨_,[some v,some (V.int x)],(ae (bw (aK bT (aD aN (pv 0) aj ak) aV (aT _))
 (aq (aU (aD aN (pv 0) aj ak)))
 a9)
 (aq (aU (pv 1)))),rfl,?_⟩
 obtain⟨a,ys,rfl,hs⟩:=hZ st rv
 walk_at "rd"
 refine aI hs (au (j:=0) rfl) ⟨rfl,b4 (fun e=>?_) (fun e=>?_)⟩
 ·have ew:=(uG st).mp e
  refine aI hs (v:=.int st.row) (au (j:=1) rfl) ?_
  cases st<;>first |exact q |cases ew
 ·have ew:st.wd≠.fe:=fun z=>e ((uG st).mpr z)
  cases st<;>first |exact q |exact absurd rfl ew
theorem tD(T:Tx K mg t):bQ P w K mg base fh 1 t.gh t.gB ["statement"] (wx K):=by
 refine T.eI.F.kS sM (fun vs H Q E h=>?_) (fun fD A outer s H vs Q E hr h=>?_)
 ·obtain⟨_,_,_,rfl,_⟩:=h
  rfl
 obtain⟨v,st,H0,rfl,rv,s0,q⟩:=h
 have nd:=sM.nd
 refine⟨_,[some v],(ae (bw (aK bT (aD aN (pv 0) aj ak) aV (aT _))
 (aq (aU (bJ (aa (aD aN (pv 0) aj ak) (aa (aD aN (pv 0) aj ak) ah ba) ba))))
 a9)
 (ae (bw (aK bT (aD aN (pv 0) aj ak) aV (aT _))
 (aq (aU (bJ (aa (aD aN (pv 0) aj ak) ah ba))))
 a9)
 (aq (aU (bJ ah))))),rfl,?_⟩
 obtain⟨a,ys,rfl,hs⟩:=hZ st rv
 have hs:=s0.bD hs
 walk_at "rd"
 refine aI hs (au (j:=0) rfl) ⟨rfl,b4 (fun e=>?_) (fun e=>aI hs (au (j:=0) rfl) ⟨rfl,b4 (fun e2=>?_) (fun e2=>?_)⟩)⟩
 ·have ew:=(zQ st).mp e
  cases st<;>first |(exfalso;cases ew;done) |skip
  rename_i k sg l r x y
  rw[de,Rep.bq] at rv
  obtain⟨_,xs,e0,hx,rs⟩:=rv
  cases e0
  obtain⟨v0,v1,v2,v3,v4,v5,rr,rfl,r5,rs⟩:=Fc rs
  rw[aQ.aJ] at rs
  obtain⟨v6,t6,rfl,r6,_⟩:=rs
  refine aI (s0.bD hx) (v:=v5) (au (j:=5) rfl) (aI (s0.bD hx) (v:=v6) (au (j:=6) rfl) fun p hp=>?_)
  rw[eX] at r5 r6
  exact q p _ _ (av.new hp _) hp ai (.cons r5 (.cons r6 .nil))
 ·have ew:=(uG st).mp e2
  cases st<;>first |(exfalso;cases ew;done) |skip
  rename_i k sg l r x
  rw[de,Rep.bq] at rv
  obtain⟨_,xs,e0,hx,rs⟩:=rv
  cases e0
  obtain⟨v0,v1,v2,v3,v4,v5,rr,rfl,r5,rs⟩:=Fc rs
  refine aI (s0.bD hx) (v:=v5) (au (j:=5) rfl) fun p hp=>?_
  rw[eX] at r5
  exact q p _ _ (av.new hp _) hp ai (.cons r5 .nil)
 ·intro p hp
  have e1:st.wd≠.ifs:=fun z=>e ((zQ st).mpr z)
  have e2':st.wd≠.fe:=fun z=>e2 ((uG st).mpr z)
  refine q p [] _ (av.new hp _) hp ai ?_
  cases st<;>first |exact .nil |exact absurd rfl e1 |exact absurd rfl e2'
theorem DD(T:Tx K mg t):bQ P w K mg base fh 2 t.j4 t.kl ["statement", "after"] (Jb K):=by
 have eK:bQ P w K mg base fh 1 t.eA t.eB ["body", "behind"] (sF K):=nv T
 refine T.j6.F.kS wO (fun vs H Q E h=>?_) (fun fD A outer s H vs Q E hr h=>?_)
 ·obtain⟨_,_,_,rfl,_⟩:=h
  rfl
 obtain⟨v,st,x,rfl,rv,hl,q⟩:=h
 have nd:=wO.nd
 obtain⟨E4,sY,sZ⟩:=T.wX
 refine⟨_,[some v,some (V.int x),none],(ae (aL (i:=2) nd rfl (Or.inl rfl) (aD aN (pv 0) aj ak))
 (ae (bw (aK bT (pv 2) aV (aT _))
 (aq (aU (aZ (aa (rH rfl sY sZ) ah ag))))
 a9)
 (ae (bw (aK bT (pv 2) aV (aT _))
 (aq (aU (aZ (aa (aG eK (hr.mono (by first|decide|omega)) rfl T.bN.m T.bN.F.kp T.bN.b .nil aX (aa (aD aN (pv 0) aj ak) (aa (pv 1) ah ag) ba)) (aa (aG eK (hr.mono (by first|decide|omega)) rfl T.bN.m T.bN.F.kp T.bN.b .nil aX (aa (aD aN (pv 0) aj ak) (aa (pv 1) ah ag) ba)) ah bM) bM))))
 a9)
 (ae (bw (aK bT (pv 2) aV (aT _))
 (aq (aU (aZ (aa (aG eK (hr.mono (by first|decide|omega)) rfl T.bN.m T.bN.F.kp T.bN.b .nil aX (aa (aD aN (pv 0) aj ak) (aa (aD aN (pv 0) aj ak) ah ba) ba)) (aa (pv 1) ah ag) bM))))
 a9)
 (aq (aU (aZ (aa (pv 1) ah ag)))))))),rfl,?_⟩
 obtain⟨a,ys,rfl,hs⟩:=hZ st rv
 refine aw fun U1 ff=>?_
 walk_at "rd"
 refine aI hs (au (j:=0) rfl) ((ff _ _).mpr ?_)
 walk_at "rd"
 have Kk:∀b∈aM st,b.length<=100000:=hl
 refine b4 (fun e=>?_) (fun e=>b4 (fun e1=>?_) (fun e1=>b4 (fun e2=>?_) (fun e2=>?_)))
 ·have ew:=(Fb st).mp (by rw[e])
  cases st<;>first |(exfalso;cases ew;done) |skip
  intro p hp
  exact q _ _ (av.new hp _) (Rep.new hp (.cons (Rep.bB.mpr rfl) .nil))
 ·have ew:=(zQ st).mp (by rw[e1])
  cases st<;>first |(exfalso;cases ew;done) |skip
  rename_i k sg l r y z
  rw[de,Rep.bq] at rv
  obtain⟨_,xs,e0,hx,rs⟩:=rv
  cases e0
  obtain⟨v0,v1,v2,v3,v4,v5,rr,rfl,r5,rs⟩:=Fc rs
  rw[aQ.aJ] at rs
  obtain⟨v6,t6,rfl,r6,_⟩:=rs
  rw[eX] at r5 r6
  obtain⟨a5,_,rfl,_⟩:=Rep.bI.mp r5
  obtain⟨a6,_,rfl,_⟩:=Rep.bI.mp r6
  refine aI hx (v:=.ref a5) (au (j:=5) rfl) ⟨a5,y,x,rfl,r5,Kk y (by simp[aM]),aI hx (v:=.ref a6) (au (j:=6) rfl) ⟨a6,z,x,rfl,r6,Kk z (by simp[aM]),fun p hp=>?_⟩⟩
  exact q _ _ (av.new hp _) (Rep.new hp (.cons (Rep.bB.mpr rfl) (.cons (Rep.bB.mpr rfl) .nil)))
 ·have ew:=(uG st).mp (by rw[e2])
  cases st<;>first |(exfalso;cases ew;done) |skip
  rename_i k sg l r y
  rw[de,Rep.bq] at rv
  obtain⟨_,xs,e0,hx,rs⟩:=rv
  cases e0
  obtain⟨v0,v1,v2,v3,v4,v5,rr,rfl,r5,rs⟩:=Fc rs
  rw[eX] at r5
  obtain⟨a5,_,rfl,_⟩:=Rep.bI.mp r5
  refine aI hx (v:=.ref a5) (au (j:=5) rfl) (aI hs (v:=.int k) (au (j:=1) rfl) ⟨a5,y,k,rfl,r5,Kk y (by simp[aM]),fun p hp=>?_⟩)
  exact q _ _ (av.new hp _) (Rep.new hp (.cons (Rep.bB.mpr rfl) (.cons (Rep.bB.mpr rfl) .nil)))
 ·intro p hp
  have n1:st.wd≠.stop:=fun z=>e (V.str.inj ((Fb st).mpr z))
  have n2:st.wd≠.ifs:=fun z=>e1 (V.str.inj ((zQ st).mpr z))
  have n3:st.wd≠.fe:=fun z=>e2 (V.str.inj ((uG st).mpr z))
  have ew:oB st x=[x]:=by
   cases st<;>first |rfl |exact absurd rfl n1 |exact absurd rfl n2 |exact absurd rfl n3
  rw[ew] at q
  exact q _ _ (av.new hp _) (Rep.new hp (.cons (Rep.bB.mpr rfl) .nil))
theorem yL{K:PySem.W.Frag}{H:Hp}:∀(n:Nat) {ds:List PG.bF} {vs:List V},aQ K H (ds.map de) vs->aQ K H ((ds.drop n).map de) (vs.drop n)
 |0,_,_,h=>h
 |n+1,[],vs,h=>by
  rw[List.map_nil,aQ.br] at h
  subst h
  exact .nil
 |n+1,d::ds,vs,h=>by
  rw[List.map_cons,aQ.aJ] at h
  obtain⟨v,t,rfl,_,h⟩:=h
  exact yL n h
theorem Kl(T:Tx K mg t){n:Nat}(kx:bQ P w K mg base fh (n+2) t.dM t.dX ["body", "behind"] (vA K n)) :
 bQ P w K mg base fh (n+3) t.dM t.dX ["body", "behind"] (vA K (n+1)):=by
 have eK:bQ P w K mg base fh 1 t.eA t.eB ["body", "behind"] (sF K):=nv T
 have GG:bQ P w K mg base fh 2 t.j4 t.kl ["statement", "after"] (Jb K):=DD T
 have oW:bQ P w K mg base fh 1 t.gh t.gB ["statement"] (wx K):=tD T
 have xF:bQ P w K mg base fh 1 t.fM t.gg ["statement", "after"] (Bc K):=w5 T
 refine T.cM.F.kS nF (fun vs H Q E h=>?_) (fun fD A outer s H vs Q E hr h=>?_)
 ·obtain⟨_,_,_,rfl,_⟩:=h
  rfl
 obtain⟨b,body,x,rfl,rb,hd,hf,q⟩:=h
 have nd:=nF.nd
 refine⟨_,[some (V.ref b),some (V.int x),none,none,none,none,none],(ae (aL (i:=2) nd rfl (Or.inl rfl) (bJ ah))
 (ae (fZ PassesOwn.never rfl (LJ rfl T.oU (aa (pv 0) ah ag)) (Hc rfl (c6 (bu (i:=3) nd rfl (Or.inl rfl)) (c6 (bu (i:=4) nd rfl (Or.inl rfl)) pz)))
 (ae (aL (i:=5) nd rfl (Or.inl rfl) (aG eK (hr.mono (by first|decide|omega)) rfl T.bN.m T.bN.F.kp T.bN.b .nil aX (aa (iu pB (pv 0) (jM (bh dW (pv 3) aj)) jL) (aa (pv 1) ah ag) ba)))
 (ae (bX (eR PySem.F.plainAttrs_list PySem.F.slot_list_append PySem.F.type_list_append bL (pv 2) (aa (aZ (aa (aD aN (pv 4) aj ak) (aa (aD aN (pv 4) aj ak) (aa (aG GG (hr.mono (by first|decide|omega)) rfl T.j6.m T.j6.F.kp T.j6.b .nil aX (aa (pv 4) (aa (pv 5) ah ag) ag)) ah bM) ba) ba)) ah cE)))
 (aq (fZ PassesOwn.never rfl (dq (aG oW (hr.mono (by first|decide|omega)) rfl T.eI.m T.eI.F.kp T.eI.b .nil aX (aa (pv 4) ah ag))) (bu (i:=6) nd rfl (Or.inl rfl))
 (aq (bX (eR PySem.F.plainAttrs_list PySem.F.slot_list_extend PySem.F.type_list_extend xZ (pv 2) (aa (aG kx (hr.mono (by first|decide|omega)) rfl T.cM.m T.cM.F.kp T.cM.b .nil aX (aa (pv 6) (aa (aG xF (hr.mono (by first|decide|omega)) rfl T.fO.m T.fO.F.kp T.fO.b .nil aX (aa (pv 4) (aa (pv 5) ah ag) ag)) ah bM) ag)) ah bM)))))))))
 (aq (aU (pv 2))))),rfl,?_⟩
 have line:sizeLine=2 ^ 24:=rfl
 rw[Rep.bI] at rb
 obtain⟨_,xs,e,hx,rs⟩:=rb
 cases e
 have lx:xs.length=body.length:=by rw[rs.length,List.length_map]
 have lb:=j0 body
 refine aw fun U1 ff=>?_
 walk_at "rd"
 intro tl Fd
 have s1:=av.new Fd (.lst [])
 have y1:(upd H tl (.lst [])) tl=some (.lst []):=ai
 generalize upd H tl (.lst [])=H1 at *
 refine(ff _ _).mpr (aw fun U2 gI=>?_)
 clear ff
 walk_at "rd"
 obtain⟨Pv,hX⟩:∃Pv:Nat->St->Hp->Prop,∀i σ H2,Pv i σ H2↔∃(z3 z4 z5 z6:Option V) (pre:List PG.dQ) (us:List V),σ=[some (V.ref b),some (V.int x),some (V.ref tl),z3,z4,z5,z6]/\av H H2/\H2 tl=some (.lst us)/\eP K (·=tl) H2 (pre.map eQ) us/\us.length=pre.length/\pre++PG.aS (body.drop i) x=PG.aS body x:=⟨_,fun _ _ _=>Iff.rfl⟩
 refine⟨_,rfl,⟨xs,s1.seq hx⟩,IC (K:=K) (a:=b) (xs:=xs) Pv ((hX _ _ _).mpr ⟨none,none,none,none,[],[],rfl,s1,y1,.nil,rfl,rfl⟩) (fun i σ H2 _ hv=>?_) ?_ ?_⟩
 ·obtain⟨_,_,_,_,_,_,_,s2,_⟩:=(hX _ _ _).mp hv
  exact s2.seq hx
 ·intro i y σ H2 tp hi hv UM
  obtain⟨z3,z4,z5,z6,pre,us,rfl,s2,y2,f2,lu,ep⟩:=(hX _ _ _).mp hv
  clear hv
  have done:=fun σ H7=>(hX (i+1) σ H7).mpr
  have li:i<body.length:=by have:=(List.getElem?_eq_some_iff.mp hi).1;lia
  obtain⟨v,hv,rv⟩:=rs.get (i:=i) (d:=de body[i]) (by rw[List.getElem?_map,List.getElem?_eq_getElem li];rfl)
  rw[hi] at hv
  cases hv
  have ed:body.drop i=body[i]::body.drop (i+1):=List.drop_eq_getElem_cons li
  rw[ed,PG.aS,I0] at ep
  have mem:body[i]∈body:=List.getElem_mem li
  obtain⟨fm,dm⟩:=pJ body _ mem
  generalize KI:body[i]=st at *
  have s3:=s2.trans (av.new UM (.tup [V.int i,y]))
  have n3:tl≠tp:=ao y2 UM
  have y3:=av.new UM (.tup [V.int i,y]) _ _ y2
  have f3:=f2.up (.of (av.new UM (.tup [V.int i,y])))
  have t3:(upd H2 tp (.tup [V.int i,y])) tp=some (.tup [V.int i,y]):=ai
  generalize upd H2 tp (.tup [V.int i,y])=H3 at *
  obtain⟨sa,ys,rfl,hs⟩:=hZ st rv
  refine⟨tp,_,rfl,.of t3,rfl,_,_,rfl,_,_,rfl,rfl,?_⟩
  refine aw fun U3 ik=>?_
  walk_at "rd"
  refine⟨_,rfl,b,_,rfl,s3.seq hx,fun p4 tT=>?_⟩
  have ec:cQ xs (some ((i:Int)+1)) none=xs.drop (i+1):=by
   unfold cQ
   rw[HT.nV,show (i:Int)+1=((i+1:Nat):Int) by lia,HT.pA]
   rw[show min (i+1) xs.length=i+1 by lia]
   exact List.take_of_length_le (by rw[List.length_drop];lia)
  rw[ec]
  have s4:=s3.trans (av.new tT (.lst (xs.drop (i+1))))
  have y4:=av.new tT (.lst (xs.drop (i+1))) _ _ y3
  have f4:=f3.up (.of (av.new tT (.lst (xs.drop (i+1)))))
  have l4:(upd H3 p4 (.lst (xs.drop (i+1)))) p4=some (.lst (xs.drop (i+1))):=ai
  generalize upd H3 p4 (.lst (xs.drop (i+1)))=H4 at *
  have rd4:Rep K H4 (.lst ((body.drop (i+1)).map de)) (.ref p4):=Rep.bI.mpr ⟨p4,_,rfl,.of l4,yL (i+1) (rs.mono s4)⟩
  refine⟨p4,body.drop (i+1),x,rfl,rd4,by rw[List.length_drop];lia,(ik _ _).mpr (aw fun U4 i7=>?_)⟩
  clear ik
  generalize PG.bg (body.drop (i+1)) x=af at *
  have Zf:=(show c5 K H4 sa _ from s4.bD hs)
  walk_at "rd"
  refine⟨.inl ⟨rfl,_,.of y4⟩,aI Zf (v:=.int st.row) (au (j:=1) rfl) (aI Zf (v:=.str (fX st.wd)) (au (j:=0) rfl) ?_)⟩
  have sh:Ja st:=fun bb VO=>by
   have:=(jR st bb VO).1
   have:=j0 bb
   lia
  refine⟨.ref sa,st,af,rfl,rv.mono s4,sh,fun u H5 s5 ru p6 iQ=>?_⟩
  have y5:=s5 _ _ y4
  have f5:=f4.up (.of s5)
  have fu:Fix K (·=tl) H5 (.tup ((oB st af).map .int)) u:=O9 y5 (by rw[Be];exact uh _) ru
  have n6:p6≠tl:=(ao y5 iQ).symm
  have s6:=av.new iQ (.tup [V.int st.row,V.str (fX st.wd),u])
  have ft:Fix K (·=tl) (upd H5 p6 (.tup [V.int st.row,V.str (fX st.wd),u])) (eQ (st.row,st.wd,oB st af)) (.ref p6):=Fix.tup ai n6 (.cons .int (.cons .str (.cons (fu.up (.of s6)) .nil)))
  have f6:=f5.up (.of s6)
  have y6:=s6 _ _ y5
  have s46:=(s4.trans s5).trans s6
  generalize upd H5 p6 (.tup [V.int st.row,V.str (fX st.wd),u])=H6 at *
  have PU:pre.length<=1000:=by
   have h1:=congrArg List.length ep
   have h2:=congrArg List.length (PG.c9 body x)
   simp only[List.length_append,List.length_map,List.length_cons] at h1 h2
   lia
  refine⟨tl,us,_,rfl,rfl,y6,by lia,?_⟩
  have s7:av H (upd H6 tl (.lst (us++[V.ref p6]))):=fun z o e=>by rw[ay (ao e Fd)];exact s46 z o e
  have f7:=(f6.snoc ft).up (bc.refl.put (O:=(·=tl)) rfl (.lst (us++[V.ref p6])))
  have y7:(upd H6 tl (.lst (us++[V.ref p6]))) tl=some (.lst (us++[V.ref p6])):=ai
  generalize upd H6 tl (.lst (us++[V.ref p6]))=H7 at *
  refine(i7 _ _).mpr ?_
  clear i7
  refine iy fun U hU=>?_
  walk_at "rd"
  refine⟨.ref sa,st,H,rfl,rv,s7,fun l8 bv H8 s8 Zg y8 r8=>⟨l8,rfl,⟨bv,.of y8⟩,hU _ _ ?_⟩⟩
  have MJ:bv.length=(aM st).length:=by rw[r8.length,List.length_map]
  have l8t:l8≠tl:=fun z=>by rw[z,y7] at Zg;cases Zg
  obtain⟨Pw,w8⟩:∃Pw:Nat->St->Hp->Prop,∀j σ H9,Pw j σ H9↔∃(z6:Option V) (us:List V) (BJ:List PG.dQ),σ=[some (V.ref b),some (V.int x),some (V.ref tl),some (V.int i),some (V.ref sa),some (V.int af),z6]/\av H H9/\(∀z o,z≠tl->H8 z=some o->H9 z=some o)/\H9 tl=some (.lst us)/\eP K (·=tl) H9 (BJ.map eQ) us/\us.length=BJ.length/\
   BJ++((aM st).drop j).flatMap (fun bb=>PG.aS bb (iB st af))=pre++(st.row,st.wd,oB st af)::(aM st).flatMap (fun bb=>PG.aS bb (iB st af)):=⟨_,fun _ _ _=>Iff.rfl⟩
  refine ip (K:=K) (a:=l8) (xs:=bv) Pw ((w8 _ _ _).mpr ⟨z6,_,pre++[(st.row,st.wd,oB st af)],rfl,s7.trans s8,fun z o _ e=>e,s8 _ _ y7,by rw[List.map_append];exact f7.up (.of s8),by simp[lu],by simp⟩) (fun j σ H9 _ hv=>?_) ?_ ?_
  ·obtain⟨_,_,_,_,_,k9,_⟩:=(w8 _ _ _).mp hv
   exact .of (k9 _ _ l8t y8)
  ·intro j y σ H9 hj hv
   obtain⟨Xl,vn,BJ,rfl,s9,k9,y9,f9,Xm,e9⟩:=(w8 _ _ _).mp hv
   clear hv
   have lj:j<(aM st).length:=by have:=(List.getElem?_eq_some_iff.mp hj).1;lia
   obtain⟨v,hv,rb⟩:=r8.get (i:=j) (d:=.lst ((aM st)[j].map de)) (by rw[List.getElem?_map,List.getElem?_eq_getElem lj];rfl)
   rw[hj] at hv
   cases hv
   have mj:(aM st)[j]∈aM st:=List.getElem_mem lj
   obtain⟨fb,db⟩:=jR st _ mj
   have ej:(aM st).drop j=(aM st)[j]::(aM st).drop (j+1):=List.drop_eq_getElem_cons lj
   rw[ej,List.flatMap_cons] at e9
   generalize (aM st)[j]=bb at *
   obtain⟨ab,_,rfl,_⟩:=Rep.bI.mp rb
   walk_at "rd"
   refine⟨.inl ⟨rfl,_,.of y9⟩,.ref sa,st,af,rfl,rv.mono s9,?_⟩
   refine⟨ab,bb,_,rfl,rb.mono s9,by lia,by lia,fun UB ML pW qu WG NM QT=>?_⟩
   have Tp:=qu _ _ y9
   have f10:=f9.up (.of qu)
   have g10:eP K (·=tl) pW ((PG.aS bb (iB st af)).map eQ) ML:=EC Tp (ui _) QT
   have UB:ML.length=(PG.aS bb (iB st af)).length:=by rw[QT.length,List.length_map]
   have WA:BJ.length+(PG.aS bb (iB st af)).length<=2000:=by
    have h1:=congrArg List.length e9
    have h2:=congrArg List.length ep
    have h3:=congrArg List.length (PG.c9 body x)
    simp only[List.length_append,List.length_map,List.length_cons] at h1 h2 h3
    lia
   refine⟨tl,_,vn,ML,rfl,rfl,Tp,NM,by lia,?_⟩
   refine(w8 _ _ _).mpr ⟨_,vn++ML,BJ++PG.aS bb (iB st af),rfl,fun z o e=>?_,fun z o nz e=>?_,ai,?_,by simp[Xm,UB],by rw[<- e9];simp⟩
   ·rw[ay (ao e Fd)]
    exact qu _ _ (s9 _ _ e)
   ·rw[ay nz]
    exact qu _ _ (k9 z o nz e)
   ·rw[List.map_append]
    exact(tq f10 g10).up (bc.refl.put (O:=(·=tl)) rfl _)
  ·intro σ H9 hv
   obtain⟨Xl,vn,BJ,rfl,s9,k9,y9,f9,Xm,e9⟩:=(w8 _ _ _).mp hv
   rw[MJ,List.drop_length,List.flatMap_nil,List.append_nil] at e9
   refine done _ _ ⟨_,_,_,_,BJ,vn,rfl,s9,y9,f9,Xm,?_⟩
   rw[e9,<- ep]
   simp
 ·intro σ H2 hv
  obtain⟨z3,z4,z5,z6,pre,us,rfl,s2,y2,f2,lu,ep⟩:=(hX _ _ _).mp hv
  rw[lx,List.drop_length,PG.aS,List.append_nil] at ep
  refine(gI _ _).mpr ?_
  walk_at "rd"
  rw[ep] at f2
  exact q tl us H2 s2 Fd y2 f2.FZ
theorem yM(T:Tx K mg t):∀n,bQ P w K mg base fh (n+2) t.dM t.dX ["body", "behind"] (vA K n)
 |0=>by
  have no:∀vs H Q E,¬vA K 0 vs H Q E:=fun vs H Q E h=>by obtain⟨_,_,_,_,_,h,_⟩:=h;lia
  exact⟨fun vs H Q E h=>absurd h (no vs H Q E),fun A outer s H args us vs Q E _ _ _ _ h=>absurd h (no vs H Q E)⟩
 |n+1=>Kl T (yM T n)
theorem Fe(T:Tx K mg t):bQ P w K mg base fh 7 t.qW t.pN ["program"] (C2 K):=by
 have kx:=yM (P:=P) (w:=w) (base:=base) T 4
 refine T.nh.F.kS EZ (fun vs H Q E h=>?_) (fun fD A outer s H vs Q E hr h=>?_)
 ·obtain⟨_,_,rfl,_⟩:=h
  rfl
 obtain⟨v,pr,rfl,rp,hd,hf,q⟩:=h
 have nd:=EZ.nd
 obtain⟨E4,sY,sZ⟩:=T.wX
 refine⟨_,[some v],(aq (aU (aG kx (hr.mono (by first|decide|omega)) rfl T.cM.m T.cM.F.kp T.cM.b .nil aX (aa (aD aN (pv 0) aj ak) (aa (rH rfl sY sZ) ah ag) ba)))),rfl,?_⟩
 unfold iZ at rp
 rw[Rep.bq] at rp
 obtain⟨a,xs,rfl,hx,rs⟩:=rp
 rw[aQ.aJ] at rs
 obtain⟨v1,t1,rfl,r1,rs⟩:=rs
 rw[aQ.aJ] at rs
 obtain⟨v2,t2,rfl,r2,rs⟩:=rs
 obtain⟨b,_,rfl,_⟩:=Rep.bI.mp r2
 walk_at "rd"
 refine aI hx (v:=.ref b) (au (j:=1) rfl) ?_
 exact⟨b,pr.body,0,rfl,r2,by lia,hf,fun l us H' s' hl y r=>q l us H' s' hl y r⟩
theorem zR:∀w:PG.Wd,(fX w=Str.ofString "else")↔w=.nN:=by
 intro w
 cases w<;>decide +kernel
theorem zS:∀w:PG.Wd,(fX w=Str.ofString "end")↔w=.fin:=by
 intro w
 cases w<;>decide +kernel
theorem Ff(T:Tx K mg t):bQ P w K mg base fh 1 t.jr t.jS ["rows"] (Pc K):=by
 refine T.eJ.F.kS sO (fun vs H Q E h=>?_) (fun fD A outer s H vs Q E hr h=>?_)
 ·obtain⟨_,_,_,rfl,_⟩:=h
  rfl
 obtain⟨R,rows,b,rfl,rr,lr,tx,q⟩:=h
 have nd:=sO.nd
 have hu:=fE hr
 refine⟨_,[some (V.ref R),none,none,none,none],(ae (aL (i:=1) nd rfl (Or.inl rfl) vS)
 (ae (aL (i:=2) nd rfl (Or.inl rfl) (bJ ah))
 (ae (fZ PassesOwn.never rfl (iT rfl T.jX (aa (cw bG rfl T.ic PyProof.Rows.Boot.«len» (aa (pv 0) ah ag)) ah bM)) (bu (i:=3) nd rfl (Or.inl rfl))
 (ae (aL (i:=4) nd rfl (Or.inl rfl) (aD bf (aD bf (pv 0) (pv 3) pE) aj ak))
 (aq (bw (aK iU (pv 4) (aZ (cO (vs:=[.str "if",.str "while"]) (by kernel_rfl))) rfl)
 (ae (bX (eR PySem.F.plainAttrs_list PySem.F.slot_list_append PySem.F.type_list_append bL (pv 2) (aa (pv 3) ah ag)))
 (aq (mB hu (pv 1) (pv 3) (bJ (cO (vs:=[.ck,.ck]) (by kernel_rfl))) rfl)))
 (aq (bw (aK bT (pv 4) aV (aT _))
 (ae (qH (pv 3) (Ci (cm hu (pv 1) (aD bf (pv 2) (rL my aj) rY) (fun _ _=>rfl)) aj set_list))
 (aq (mB hu (pv 1) (pv 3) (aD bf (pv 2) (rL my aj) rY) rfl)))
 (aq (bw (aK bT (pv 4) aV (aT _))
 (ae (mB hu (pv 1) (pv 3) (CA PySem.F.plainAttrs_list PySem.F.slot_list_pop PySem.F.type_list_pop CF (pv 2)) rfl)
 (aq (qH (pv 3) (Ci (cm hu (pv 1) (cm hu (pv 1) (pv 3) (fun _ _=>rfl)) (fun _ _=>rfl)) aj set_list))))
 a9))))))))
 (aq (aU (pv 1)))))),rfl,?_⟩
 have line:sizeLine=2 ^ 24:=rfl
 rw[Rep.bI] at rr
 obtain⟨_,rv,e,hR,rr⟩:=rr
 cases e
 have NU:rv.length=rows.length:=by rw[rr.length,List.length_map]
 have safe:=PG.yk b rows tx 0 (fun _=>none) [] (by simp)
 refine aw fun U1 ff=>?_
 walk_at "rd"
 intro d hd
 refine(ff _ _).mpr (aw fun U2 gI=>?_)
 clear ff
 walk_at "rd"
 intro ol KQ
 refine(gI _ _).mpr (aw fun U3 ik=>?_)
 clear gI
 have Qo:ol≠d:=(ao ai KQ).symm
 have Qp:H ol=none:=by
  cases z:H ol with
  |none=>rfl
  |some o=>rw[av.new hd (.dK []) _ _ z] at KQ;cases KQ
 have t1:yr H d (fun _=>none) (fun _=>d) (upd (upd H d (.dK [])) ol (.lst [])) []:=⟨(av.new hd _).trans (av.new KQ _),hd,by rw[ay Qo.symm];exact ai,fun p=>rfl,fun p e f z=>(by cases z),fun p q e f e' f' z=>(by cases z)⟩
 have y1:(upd (upd H d (.dK [])) ol (.lst [])) ol=some (.lst []):=ai
 generalize upd (upd H d (.dK [])) ol (.lst [])=H1 at *
 refine lD fun U hU=>?_
 walk_at "rd"
 refine⟨R,rv,rfl,.inl (t1.s.seq hR),_,rfl,by lia,by lia,hU _ _ ?_⟩
 clear hU
 rw[show ((rv.length:Int)).toNat=rv.length from Int.toNat_natCast _]
 have eF:∀i (hi:i<rows.length),PG.foldM 0 (rows.take (i+1)) (fun _=>none,[])=PG.sj (PG.foldM 0 (rows.take i) (fun _=>none,[])) i rows[i].2:=fun i hi=>by
  rw[List.take_succ_eq_append_getElem hi,PG.iX,List.length_take,Nat.min_eq_left (by lia),Nat.zero_add]
  rfl
 obtain⟨Pv,hX⟩:∃Pv:Nat->St->Hp->Prop,∀i σ H3,Pv i σ H3↔∃(z3 z4:Option V) (m:PG.Mm) (op:List Nat) (Af:Nat->Addr) (aP:List (Key×V)),σ=[some (V.ref R),some (V.ref d),some (V.ref ol),z3,z4]/\PG.foldM 0 (rows.take i) (fun _=>none,[])=(m,op)/\yr H d m Af H3 aP/\aP.length<=i/\
  H3 ol=some (.lst (op.reverse.map fun x:Nat=>V.int (x:Int)))/\(∀p e f,m p=some (.op e f)->Af p≠ol)/\op.length<=i/\(∀x∈op,x<i):=⟨_,fun _ _ _=>Iff.rfl⟩
 refine jY (lo:=0) (n:=rv.length) Pv ((hX _ _ _).mpr ⟨none,none,_,[],_,[],rfl,rfl,t1,Nat.le_refl _,y1,fun p e f z=>(by cases z),Nat.le_refl _,by simp⟩) (fun i σ H3 hi hv=>?_) (fun σ H3 hv=>?_)
 ·obtain⟨z3,z4,m,op,Af,aP,rfl,ef,ti,lk,yo,no,lo,sl⟩:=(hX _ _ _).mp hv
  clear hv
  have done:=fun σ H7=>(hX (i+1) σ H7).mpr
  have li:i<rows.length:=by lia
  rw[eF i li,ef] at done
  have sat:=PG.Ba rows 0 _ safe i rows[i] (List.getElem?_eq_getElem li)
  rw[ef] at sat
  obtain⟨ra,era,Q0⟩:=zl (rr.mono ti.s) (i:=i) (y:=rv[i]) (List.getElem?_eq_getElem (by lia)) li
  generalize rows[i]=r at *
  obtain⟨k,wd⟩:=r
  simp only[fC,List.set]
  rw[show (0:Int)+(i:Int)=(i:Int) by lia]
  have Xn:=ti.s.seq hR
  refine aw fun U4 i7=>?_
  walk_at "rd"
  refine bC (v:=.ref ra) Xn (au (by rw[<- era];exact List.getElem?_eq_getElem (by lia))) (bC (v:=.str (fX wd)) Q0 (au (j:=1) rfl) ((i7 _ _).mpr ?_))
  clear i7
  walk_at "rd"
  intro p4 tT
  refine⟨p4,_,rfl,.inr (.of ai),rfl,rfl,_,rfl,?_⟩
  have s4:=av.new tT (.tup [V.str (Str.ofString "if"),V.str (Str.ofString "while")])
  have DE:=ti.same s4
  have NY:=s4 _ _ yo
  generalize upd H3 p4 (.tup [V.str (Str.ofString "if"),V.str (Str.ofString "while")])=H4 at *
  rw[vB wd]
  by_cases hl:wd=.ifs\/wd=.fe
  ·refine(if_pos (decide_eq_true hl)).mpr ⟨.inl ⟨rfl,_,.of NY⟩,ol,_,_,rfl,rfl,NY,by rw[List.length_map,List.length_reverse];lia,fun p5 xn=>⟨d,_,rfl,.inl ⟨aP,.inl (i:Int),?_,rfl,by lia,rfl⟩,?_⟩⟩
   ·exact((DE.put Qp Qo no _).same (av.new xn _)).dd
   ·have BK:=(DE.put Qp Qo no (.lst (op.reverse.map (fun x:Nat=>V.int (x:Int))++[V.int i]))).Sk i xn
    have n5:ol≠p5:=ao ai xn
    have es:PG.sj (m,op) i wd=(m.set i (.op none none),i::op):=by rcases hl with rfl |rfl<;>rfl
    refine done _ _ ⟨_,_,_,_,_,_,rfl,es,BK,Nat.le_trans (sG _ _ _) (by lia),?_,?_,by simp only[List.length_cons];lia,fun x hx=>?_⟩
    ·rw[ay Qo,ay n5,ai]
     simp
    ·intro p e f hp
     by_cases z:p=i
     ·rw[if_pos z]
      exact n5.symm
     ·rw[if_neg z]
      rw[PG.Mm.bU _ _ z] at hp
      exact no p e f hp
    ·rcases List.mem_cons.mp hx with rfl |hx
     ·lia
     ·have:=sl x hx
      lia
  ·refine(if_neg (by rw[decide_eq_false hl];exact Bool.false_ne_true)).mpr (b4 (fun e=>?_) (fun e=>b4 (fun e2=>?_) (fun e2=>?_)))
   ·have ew:wd=.nN:=(zR wd).mp e
    subst ew
    obtain⟨o,tt,x,y,eo,mo⟩:=sat (.inl rfl)
    simp only at eo mo
    subst eo
    have last:∀xs:List Nat,qJ ((o::xs).reverse.map fun x:Nat=>V.int (x:Int)) (-1)=some (V.int o):=fun xs=>by rw[List.reverse_cons,List.map_append];exact L2.jg _ _
    refine⟨1,rfl,bC (v:=.int o) (.of NY) (last tt) ⟨d,.ref (Af o),rfl,.inl ⟨aP,.inl (o:Int),.inl DE.dd,rfl,?_⟩,Af o,_,0,0,rfl,rfl,(DE.ls o x y mo).1,rfl,?_⟩⟩
    ·rw[DE.at_ o,mo];rfl
    ·have DF:=DE.list mo (some i) y
     have UN:(upd H4 (Af o) (.lst [wA (some i),wA y])) ol=some (.lst ((o::tt).reverse.map fun x:Nat=>V.int (x:Int))):=by rw[ay (no o x y mo).symm];exact NY
     show ∃Zh,1=Zh/\AJ K (V.ref ol) (V.int (-Zh)) (upd H4 (Af o) (.lst [wA (some i),wA y])) _
     generalize upd H4 (Af o) (.lst [wA (some i),wA y])=H5 at *
     refine⟨1,rfl,bC (v:=.int o) (.of UN) (last tt) ⟨d,_,rfl,.inl ⟨aP,.inl (i:Int),DF.dd,rfl,by lia,rfl⟩,?_⟩⟩
     have BK:=DF.back i o
     have es:PG.sj (m,o::tt) i .nN=((m.set o (.op (some i) y)).set i (.back o),o::tt):=by simp only[PG.sj,mo,PG.pG]
     refine done _ _ ⟨_,_,_,_,_,_,rfl,es,BK,Nat.le_trans (sG _ _ _) (by lia),?_,?_,by lia,fun x hx=>Nat.lt_succ_of_lt (sl x hx)⟩
     ·rw[ay Qo];exact UN
     ·intro p e f hp
      by_cases z:p=i
      ·subst z
       rw[PG.Mm.set_same] at hp
       cases hp
      ·rw[PG.Mm.bU _ _ z] at hp
       by_cases z2:p=o
       ·subst z2
        exact no p x y mo
       ·rw[PG.Mm.bU _ _ z2] at hp
        exact no p e f hp
   ·have ew:wd=.fin:=(zS wd).mp e2
    subst ew
    obtain⟨o,tt,x,y,eo,mo⟩:=sat (.inr rfl)
    simp only at eo mo
    subst eo
    have oi:o<i:=sl o (List.mem_cons_self ..)
    have er:((o::tt).reverse.map fun x:Nat=>V.int (x:Int))=(tt.reverse.map fun x:Nat=>V.int (x:Int))++[V.int o]:=by simp
    rw[er] at NY
    have DF:=DE.put Qp Qo no (.lst (tt.reverse.map fun x:Nat=>V.int (x:Int)))
    have UN:(upd H4 ol (.lst (tt.reverse.map fun x:Nat=>V.int (x:Int)))) ol=some (.lst (tt.reverse.map fun x:Nat=>V.int (x:Int))):=ai
    refine⟨.inl ⟨rfl,_,.of NY⟩,ol,_,.int o,rfl,rfl,NY,by simp,?_⟩
    rw[List.dropLast_concat]
    generalize upd H4 ol (.lst (tt.reverse.map fun x:Nat=>V.int (x:Int)))=H5 at *
    have BK:=DF.back i o
    have yo6:(upd H5 d (.dK (putK aP (.inl (i:Int)) (.int o)))) ol=some (.lst (tt.reverse.map fun x:Nat=>V.int (x:Int))):=by rw[ay Qo];exact UN
    have lk6:(putK aP (.inl (i:Int)) (V.int o)).length<=i+1:=Nat.le_trans (sG _ _ _) (by lia)
    refine⟨d,_,rfl,.inl ⟨aP,.inl (i:Int),DF.dd,rfl,by lia,rfl⟩,?_⟩
    generalize putK aP (.inl (i:Int)) (V.int o)=Qq at *
    generalize upd H5 d (.dK Qq)=H6 at *
    have Xo:(m.set i (.back o)) o=some (.op x y):=by rw[PG.Mm.bU _ _ (by lia)];exact mo
    refine⟨d,.int o,rfl,.inl ⟨Qq,.inl (i:Int),.inl BK.dd,rfl,by rw[BK.at_ i,PG.Mm.set_same];rfl⟩,d,.ref (Af o),rfl,.inl ⟨Qq,.inl (o:Int),.inl BK.dd,rfl,by rw[BK.at_ o,Xo];rfl⟩,Af o,_,1,1,rfl,rfl,(BK.ls o x y Xo).1,rfl,?_⟩
    have UO:=BK.list Xo x (some i)
    have es:PG.sj (m,o::tt) i .fin=((m.set i (.back o)).set o (.op x (some i)),tt):=by simp only[PG.sj,mo,PG.sf]
    refine done _ _ ⟨_,_,_,_,_,_,rfl,es,UO,lk6,?_,?_,by simp only[List.length_cons] at lo;lia,fun z hz=>Nat.lt_succ_of_lt (sl z (List.mem_cons_of_mem _ hz))⟩
    ·rw[ay (no o x y mo).symm];exact yo6
    ·intro p e f hp
     by_cases z2:p=o
     ·subst z2
      exact no p x y mo
     ·rw[PG.Mm.bU _ _ z2] at hp
      by_cases z:p=i
      ·subst z
       rw[PG.Mm.set_same] at hp
       cases hp
      ·rw[PG.Mm.bU _ _ z] at hp
       exact no p e f hp
   ·have es:PG.sj (m,op) i wd=(m,op):=by
     cases wd<;>first |rfl |exact absurd (.inl rfl) hl |exact absurd (.inr rfl) hl |exact absurd ((zR _).mpr rfl) e |exact absurd ((zS _).mpr rfl) e2
    exact done _ _ ⟨_,_,_,_,_,_,rfl,es,DE,by lia,NY,no,by lia,fun x hx=>Nat.lt_succ_of_lt (sl x hx)⟩
 ·obtain⟨z3,z4,m,op,Af,aP,rfl,ef,ti,lk,yo,no,lo,sl⟩:=(hX _ _ _).mp hv
  rw[NU,List.take_length] at ef
  refine(ik _ _).mpr ?_
  walk_at "rd"
  refine q d H3 ⟨Af,aP,?_⟩
  unfold PG.nK
  rw[ef]
  exact ti
theorem Fg:∀w:PG.Wd,(V.str (fX w)=V.str (Str.ofString "while"))↔w=.fe:=by
 intro w
 cases w<;>decide +kernel
theorem NZ(T:Tx K mg t):bQ P w K mg base fh 1 t.lZ t.m8 ["rows", "matches", "at"] (Wc K):=by
 refine T.dZ.F.kS wV (fun vs H Q E h=>?_) (fun fD A outer s H vs Q E hr h=>?_)
 ·obtain⟨_,_,_,_,_,_,rfl,_⟩:=h
  rfl
 obtain⟨R,d,rows,b,H0,p,rfl,rr,lr,tx,⟨Af,aP,ti⟩,q⟩:=h
 have nd:=wV.nd
 have hu:=fE hr
 refine⟨_,[some (V.ref R),some (V.ref d),some (V.int p),none],(ae (nQ PassesOwn.never (aK nT (pv 2) (cw bG rfl T.ic PyProof.Rows.Boot.«len» (aa (pv 0) ah ag)) (aT _))
 (ae (aL (i:=3) nd rfl (Or.inl rfl) (aD bf (aD bf (pv 0) (pv 2) pE) aj ak))
 (aq (bw (aK bT (pv 3) aV (aT _))
 (aq (aL (i:=2) nd rfl (Or.inl rfl) (bh dW (aD y0 (cm hu (pv 1) (cm hu (pv 1) (pv 2) (fun _ _=>rfl)) (fun _ _=>rfl)) aj ak) aj)))
 (aq (bw (PW.pt (pw_and (aK bT (pv 3) aV (aT _)) (pw_and1 (aK bT (aD bf (aD bf (pv 0) (cm hu (pv 1) (pv 2) (fun _ _=>rfl)) Iu) aj ak) aV (aT _)))))
 (aq (aU (aD bf (aD bf (pv 0) (cm hu (pv 1) (pv 2) (fun _ _=>rfl)) Iu) aj ak)))
 (aq (bw (aK bT (pv 3) aV (aT _))
 (aq (aL (i:=2) nd rfl (Or.inl rfl) (bh dW (pv 2) aj)))
 (aq (aU (aD bf (aD bf (pv 0) (pv 2) pE) aj ak)))))))))))
 (aq (aU aj))),rfl,?_⟩
 have line:sizeLine=2 ^ 24:=rfl
 rw[Rep.bI] at rr
 obtain⟨_,rv,e,hR,rr⟩:=rr
 cases e
 have NU:rv.length=rows.length:=by rw[rr.length,List.length_map]
 have ok:=PG.ym tx
 generalize PG.nK rows=m at *
 refine aw fun U1 ff=>?_
 walk_at "rd"
 refine⟨fun n σ H'=>H'=H/\∃(j:Nat) (z:Option V),σ=[some (V.ref R),some (V.ref d),some (V.int j),z]/\n=rows.length-j/\PG.to rows m j=PG.to rows m p,⟨_,rfl,p,none,rfl,rfl,rfl⟩,?_⟩
 rintro n σ H' ⟨rfl,j,z,rfl,rfl,et⟩
 walk_at "rd"
 refine⟨R,rv,rfl,.inl hR,b4 (fun lt=>?_) (fun lt=>?_)⟩
 ·have lj:j<rows.length:=by lia
  obtain⟨ra,era,Q0⟩:=zl rr (i:=j) (y:=rv[j]) (List.getElem?_eq_getElem (by lia)) lj
  have uF:rows[j]?=some rows[j]:=List.getElem?_eq_getElem lj
  generalize rows[j]=r at *
  obtain⟨k,wd⟩:=r
  obtain⟨o1,o2,_⟩:=ok j lj k wd uF
  refine⟨fun σ' H2=>H2=H'/\∃(j':Nat) (z:Option V),σ'=[some (V.ref R),some (V.ref d),some (V.int j'),z]/\j<j'/\PG.to rows m j'=PG.to rows m p,fun σ' H2 ⟨e1,j',z',e2,e3,e4⟩=>⟨_,by lia,e1,j',z',e2,rfl,e4⟩,?_⟩
  refine bC (v:=.ref ra) hR (au (by rw[<- era];exact List.getElem?_eq_getElem (by lia))) (bC (v:=.str (fX wd)) Q0 (au (j:=1) rfl) ?_)
  walk_at "rd"
  have key:∀jj:Nat,cH aP (.inl (jj:Int))=Uq Af jj (m jj):=ti.at_
  refine b4 (fun e=>?_) (fun e=>b4 (fun e2=>?_) (fun e2=>(if_neg (by decide)).mpr ((if_neg e2).mpr ?_)))
  ·have ew:wd=.nN:=(zR wd).mp e
   subst ew
   obtain⟨o,x,ee,m1,m2,h1,h2⟩:=o1 rfl
   refine⟨d,.int o,rfl,.inl ⟨aP,.inl (j:Int),.inl ti.dd,rfl,by rw[key j,m1];rfl⟩,d,.ref (Af o),rfl,.inl ⟨aP,.inl (o:Int),.inl ti.dd,rfl,by rw[key o,m2];rfl⟩,.inl (bC (v:=.int ee) (.of (ti.ls o x (some ee) m2).1) (au (j:=1) rfl) ⟨_,_,rfl,rfl,rfl,ee+1,some (V.str (fX .nN)),rfl,by lia,?_⟩)⟩
   ·rw[<- et,PG.IL uF m1 m2 h1]
  ·have ew:wd=.fin:=(zS wd).mp e2
   subst ew
   obtain⟨o,k',w',m1,ho,hw⟩:=o2 rfl
   obtain⟨lo,eo⟩:=PG.mH ho
   obtain⟨rb,erb,Xp⟩:=zl rr (i:=o) (y:=rv[o]) (List.getElem?_eq_getElem (by lia)) lo
   rw[eo] at Xp
   have gR:qJ rv (o:Int)=some (V.ref rb):=au (by rw[<- erb];exact List.getElem?_eq_getElem (by lia))
   have gd:pT H' d (V.int j) (some (.int o)):=.inl ⟨aP,.inl (j:Int),.inl ti.dd,rfl,by rw[key j,m1];rfl⟩
   refine⟨d,.int o,rfl,gd,bC (v:=.ref rb) hR gR (bC (v:=.str (fX w')) Xp (au (j:=1) rfl) ⟨rfl,b4 (fun e3=>?_) (fun e3=>(if_pos e2).mpr ⟨rfl,j+1,_,rfl,by lia,?_⟩)⟩)⟩
   ·have ew:w'=.fe:=(Fg w').mp e3
    subst ew
    refine⟨d,.int o,rfl,gd,bC (v:=.ref rb) hR gR (bC (v:=.int k') Xp (au (j:=0) rfl) ?_)⟩
    rw[<- et,PG.IM uF m1 ho] at q
    exact q
   ·have ew:w'=.ifs:=hw.resolve_right fun z=>e3 ((Fg w').mpr z)
    subst ew
    rw[<- et,PG.CV uF m1 ho]
  ·refine bC (v:=.ref ra) hR (au (by rw[<- era];exact List.getElem?_eq_getElem (by lia))) (bC (v:=.int k) Q0 (au (j:=0) rfl) ?_)
   rw[<- et,PG.A6 uF (fun z=>e ((zR wd).mpr z)) (fun z=>e2 ((zS wd).mpr z))] at q
   exact q
 ·refine(ff _ _).mpr ?_
  walk_at "rd"
  rw[<- et,PG.CU (by lia)] at q
  exact q
theorem BL:∀w:PG.Wd,(fX w=Str.ofString "stop")↔w=.stop:=by
 intro w
 cases w<;>decide +kernel
theorem MM(T:Tx K mg t):bQ P w K mg base fh 2 t.js t.jT ["rows"] (LU K):=by
 have oX:=Ff (P:=P) (w:=w) (base:=base) T
 have pS:=NZ (P:=P) (w:=w) (base:=base) T
 refine T.ia.F.kS sP (fun vs H Q E h=>?_) (fun fD A outer s H vs Q E hr h=>?_)
 ·obtain⟨_,_,_,rfl,_⟩:=h
  rfl
 obtain⟨R,rows,b,rfl,rr,lr,tx,q⟩:=h
 have nd:=sP.nd
 have hu:=fE hr
 refine⟨_,[some (V.ref R),none,none,none,none,none,none,none],(ae (aL (i:=1) nd rfl (Or.inl rfl) (aG oX (hr.mono (by first|decide|omega)) rfl T.eJ.m T.eJ.F.kp T.eJ.b .nil aX (aa (pv 0) ah ag)))
 (ae (aL (i:=2) nd rfl (Or.inl rfl) (bJ ah))
 (ae (fZ PassesOwn.never rfl (iT rfl T.jX (aa (cw bG rfl T.ic PyProof.Rows.Boot.«len» (aa (pv 0) ah ag)) ah bM)) (bu (i:=3) nd rfl (Or.inl rfl))
 (ae (qH (aD bf (pv 0) (pv 3) pE) (zd rfl (c6 (bu (i:=4) nd rfl (Or.inl rfl)) (c6 (bu (i:=5) nd rfl (Or.inl rfl)) pz))))
 (ae (aL (i:=6) nd rfl (Or.inl rfl) (aG pS (hr.mono (by first|decide|omega)) rfl T.dZ.m T.dZ.F.kp T.dZ.b .nil aX (aa (pv 0) (aa (pv 1) (aa (bh dW (pv 3) aj) ah ka) ag) ag)))
 (aq (bw (aK bT (pv 5) aV (aT _))
 (aq (bX (eR PySem.F.plainAttrs_list PySem.F.slot_list_append PySem.F.type_list_append bL (pv 2) (aa (aZ (aa (pv 4) (aa (pv 5) (aa (aZ (aa aj ah aR)) ah cE) ag) ag)) ah cE))))
 (aq (bw (aK iU (pv 5) (aZ (cO (vs:=[.str "if",.str "while"]) (by kernel_rfl))) rfl)
 (ae (aL (i:=7) nd rfl (Or.inl rfl) (aD y0 (cm hu (pv 1) (pv 3) (fun _ _=>rfl)) aj ak))
 (ae (bw (aK vx (aD y0 (cm hu (pv 1) (pv 3) (fun _ _=>rfl)) aj ak) eM (aT _))
 (aq (aL (i:=7) nd rfl (Or.inl rfl) (aD y0 (cm hu (pv 1) (pv 3) (fun _ _=>rfl)) aj ak)))
 a9)
 (aq (bX (eR PySem.F.plainAttrs_list PySem.F.slot_list_append PySem.F.type_list_append bL (pv 2) (aa (aZ (aa (pv 4) (aa (pv 5) (aa (aZ (aa (pv 6) (aa (aG pS (hr.mono (by first|decide|omega)) rfl T.dZ.m T.dZ.F.kp T.dZ.b .nil aX (aa (pv 0) (aa (pv 1) (aa (bh dW (pv 7) aj) ah ka) ag) ag)) ah bM) ag)) ah cE) ag) ag)) ah cE))))))
 (aq (bw (aK rQ (pv 5) (aZ (cO (vs:=[.str "else",.str "end"]) (by kernel_rfl))) rfl)
 (aq (bX (eR PySem.F.plainAttrs_list PySem.F.slot_list_append PySem.F.type_list_append bL (pv 2) (aa (aZ (aa (pv 4) (aa (pv 5) (aa (aZ (aa (pv 6) ah ag)) ah cE) ag) ag)) ah cE))))
 a9)))))))))
 (aq (aU (pv 2)))))),rfl,?_⟩
 have line:sizeLine=2 ^ 24:=rfl
 have ok:=PG.ym tx
 have wf:=PG.FU tx
 have Zi:=rr
 rw[Rep.bI] at rr
 obtain⟨_,rv,e,hR,rr⟩:=rr
 cases e
 have NU:rv.length=rows.length:=by rw[rr.length,List.length_map]
 refine aw fun U1 ff=>?_
 walk_at "rd"
 refine⟨R,rows,b,rfl,Zi,lr,tx,fun d H1 mt1=>(ff _ _).mpr (aw fun U2 gI=>?_)⟩
 clear ff
 walk_at "rd"
 intro fl UP
 refine(gI _ _).mpr (aw fun U3 ik=>?_)
 clear gI
 refine lD fun U hU=>?_
 walk_at "rd"
 obtain⟨Af,aP,mi⟩:=mt1
 have Zj:qM K H1 fl (upd H1 fl (.lst [])) [] []:=qM.new UP
 generalize upd H1 fl (.lst [])=H2 at *
 refine⟨R,rv,rfl,.inl ((mi.s.trans Zj.s).seq hR),_,rfl,by lia,by lia,hU _ _ ?_⟩
 clear hU
 rw[show ((rv.length:Int)).toNat=rv.length from Int.toNat_natCast _]
 obtain⟨Pv,hX⟩:∃Pv:Nat->St->Hp->Prop,∀i σ H3,Pv i σ H3↔∃(z3 z4 z5 z6 z7:Option V) (us:List V),σ=[some (V.ref R),some (V.ref d),some (V.ref fl),z3,z4,z5,z6,z7]/\qM K H1 fl H3 us ((PG.b9 rows (PG.nK rows) 0 i).map eQ)/\us.length<=i:=⟨_,fun _ _ _=>Iff.rfl⟩
 refine jY (lo:=0) (n:=rv.length) Pv ((hX _ _ _).mpr ⟨none,none,none,none,none,[],rfl,Zj,Nat.le_refl _⟩) (fun i σ H3 hi hv=>?_) (fun σ H3 hv=>?_)
 ·obtain⟨z3,z4,z5,z6,z7,us,rfl,ac,lu⟩:=(hX _ _ _).mp hv
  clear hv
  have done:=fun σ H7=>(hX (i+1) σ H7).mpr
  have li:i<rows.length:=by lia
  have ew:PG.b9 rows (PG.nK rows) 0 (i+1)=PG.b9 rows (PG.nK rows) 0 i++PG.eO rows (PG.nK rows) i:=by
   rw[PG.dJ,Nat.zero_add,PG.b9,PG.b9,List.append_nil]
  have Tq:=mi.same ac.s
  have rr3:=rr.mono Tq.s
  obtain⟨ra,era,Q0⟩:=zl rr3 (i:=i) (y:=rv[i]) (List.getElem?_eq_getElem (by lia)) li
  have uF:rows[i]?=some rows[i]:=List.getElem?_eq_getElem li
  generalize rows[i]=r at *
  obtain⟨k,wd⟩:=r
  obtain⟨_,_,o3⟩:=ok i li k wd uF
  simp only[fC,List.set]
  rw[show (0:Int)+(i:Int)=(i:Int) by lia]
  have Xn:=Tq.s.seq hR
  have Ts:Rep K H3 (.lst (rows.map jF)) (.ref R):=Zi.mono Tq.s
  refine aw fun U4 i7=>?_
  walk_at "rd"
  refine bC (v:=.ref ra) Xn (au (by rw[<- era];exact List.getElem?_eq_getElem (by lia))) ⟨ra,_,rfl,Q0,rfl,_,_,rfl,_,_,rfl,rfl,(i7 _ _).mpr (aw fun U5 tf=>?_)⟩
  clear i7
  simp only[List.set]
  walk_at "rd"
  refine⟨R,d,rows,b,H,i+1,by simp,Ts,lr,tx,⟨Af,aP,Tq⟩,(tf _ _).mpr ?_⟩
  clear tf
  walk_at "rd"
  generalize hm:PG.nK rows=m at *
  have put:∀(H4:Hp) (ws:List Int) (z:Option V),qM K H1 fl H4 us ((PG.b9 rows m 0 i).map eQ)->PG.eO rows m i=[(k,wd,ws)]->∀p,H4 p=none->∀p1,(upd H4 p (.tup (ws.map V.int))) p1=none->
   zb (V.ref fl) [V.ref p1] (upd (upd H4 p (.tup (ws.map V.int))) p1 (.tup [V.int k,V.str (fX wd),V.ref p])) fun x H'=>Pv (i+1) [some (V.ref R),some (V.ref d),some (V.ref fl),some (V.int i),some (V.int k),some (V.str (fX wd)),some (V.int (PG.to rows m (i+1))),z] H':=fun H4 ws z ac ea p hp p1 GZ=>by
   obtain⟨y5,Tt⟩:=ac.row (k:=k) (w:=wd) UP hp GZ
   refine⟨fl,us,_,rfl,rfl,y5,by lia,done _ _ ⟨_,_,_,_,_,us++[V.ref p1],rfl,?_,by simp only[List.length_append,List.length_singleton];lia⟩⟩
   rw[ew,List.map_append,ea]
   exact Tt
  refine b4 (fun e=>⟨.inl ⟨rfl,_,.of ac.y⟩,fun p hp p1 GZ=>?_⟩) (fun e p4 tT=>?_)
  ·have ewd:=(BL wd).mp e
   subst ewd
   exact put H3 [0] _ ac (by unfold PG.eO;rw[uF]) p hp p1 GZ
  ·refine⟨p4,_,rfl,.inr (.of ai),rfl,rfl,_,rfl,?_⟩
   have s4:=av.new tT (.tup [V.str (Str.ofString "if"),V.str (Str.ofString "while")])
   have Tu:=ac.same s4
   have Tv:=Tq.same s4
   have Tw:=Ts.mono s4
   generalize upd H3 p4 (.tup [V.str (Str.ofString "if"),V.str (Str.ofString "while")])=H4 at *
   rw[vB wd]
   by_cases hl:wd=.ifs\/wd=.fe
   ·obtain⟨x,ee,m1,h1,h2,h3⟩:=o3 hl
    have gd:pT H4 d (V.int i) (some (.ref (Af i))):=.inl ⟨aP,.inl (i:Int),.inl Tv.dd,rfl,by rw[Tv.at_ i,m1];rfl⟩
    have gl:=(Tv.ls i x (some ee) m1).1
    have ea:PG.eO rows m i=[(k,wd,[PG.to rows m (i+1),PG.to rows m (x.getD ee+1)])]:=by
     unfold PG.eO
     rw[uF]
     rcases hl with rfl |rfl<;>simp only[m1]
    refine(if_pos (decide_eq_true hl)).mpr ⟨d,_,rfl,gd,.inl (bC (v:=.int ee) (.of gl) (au (j:=1) rfl) ⟨d,_,rfl,gd,.inl (bC (v:=wA x) (.of gl) (au (j:=0) rfl) ?_)⟩)⟩
    cases x with
    |none=>
     refine(if_pos rfl).mpr ⟨.inl ⟨rfl,_,.of Tu.y⟩,?_⟩
     rw[HY]
     exact⟨R,d,rows,b,H,ee+1,by simp,Tw,lr,tx,⟨Af,aP,by rw[hm];exact Tv⟩,by rw[hm];exact put H4 _ _ Tu ea⟩
    |some y=>
     refine(if_neg (by intro z;cases z)).mpr ⟨d,_,rfl,gd,.inl (bC (v:=.int y) (.of gl) (au (j:=0) rfl) ⟨.inl ⟨rfl,_,.of Tu.y⟩,?_⟩)⟩
     rw[HY]
     exact⟨R,d,rows,b,H,y+1,by simp,Tw,lr,tx,⟨Af,aP,by rw[hm];exact Tv⟩,by rw[hm];exact put H4 _ _ Tu ea⟩
   ·refine(if_neg (by rw[decide_eq_false hl];exact Bool.false_ne_true)).mpr fun p5 xn=>?_
    refine⟨p5,_,rfl,.inr (.of ai),rfl,rfl,_,rfl,?_⟩
    have s5:=av.new xn (.tup [V.str (Str.ofString "else"),V.str (Str.ofString "end")])
    have Tt:=Tu.same s5
    generalize upd H4 p5 (.tup [V.str (Str.ofString "else"),V.str (Str.ofString "end")])=H5 at *
    rw[Pb wd]
    by_cases hn:wd=.nN\/wd=.fin
    ·refine(if_neg (by rw[decide_eq_true hn];exact Bool.false_ne_true)).mpr (done _ _ ⟨_,_,_,_,_,us,rfl,?_,by lia⟩)
     have ea:PG.eO rows m i=[]:=by
      unfold PG.eO
      rw[uF]
      rcases hn with rfl |rfl<;>rfl
     rw[ew,ea,List.append_nil]
     exact Tt
    ·refine(if_pos (by rw[decide_eq_false hn];rfl)).mpr ⟨.inl ⟨rfl,_,.of Tt.y⟩,put H5 [PG.to rows m (i+1)] _ Tt ?_⟩
     unfold PG.eO
     rw[uF]
     cases wd<;>first |rfl |exact absurd (.inl rfl) hl |exact absurd (.inr rfl) hl |exact absurd (.inl rfl) hn |exact absurd (.inr rfl) hn |exact absurd ((BL _).mpr rfl) e
 ·obtain⟨z3,z4,z5,z6,z7,us,rfl,ac,lu⟩:=(hX _ _ _).mp hv
  rw[NU,wf] at ac
  refine(ik _ _).mpr ?_
  walk_at "rd"
  refine q fl us H3 (mi.s.trans ac.s) ?_ ac.y ac.f.FZ
  cases z:H fl with
  |none=>rfl
  |some o=>rw[mi.s _ _ z] at UP;cases UP
theorem MN(T:Tx K mg t){n:Nat}(iO:bQ P w K mg base fh (n+1) t.cL t.cS ["body"] (zm K n)) :
 bQ P w K mg base fh (n+2) t.cL t.cS ["body"] (zm K (n+1)):=by
 refine T.b5.F.kS kj (fun vs H Q E h=>?_) (fun fD A outer s H vs Q E hr h=>?_)
 ·obtain⟨_,_,_,rfl,_⟩:=h
  rfl
 obtain⟨b,body,H0,rfl,s0,rb,hd,hf,pw,q⟩:=h
 have nd:=kj.nd
 have hu:=fE hr
 refine⟨_,[some (V.ref b),none,none,none],(ae (aL (i:=1) nd rfl (Or.inl rfl) vS)
 (ae (fZ PassesOwn.never rfl (dq (pv 0)) (bu (i:=2) nd rfl (Or.inl rfl))
 (ae (mB hu (pv 1) (aD aN (pv 2) aj ak) (pv 2) rfl)
 (aq (fZ PassesOwn.never rfl (Ou (iu HF (pv 2) (jM aj) jL)) (bu (i:=3) nd rfl (Or.inl rfl))
 (aq (bX (eR PySem.F.plainAttrs_dict PySem.F.slot_dict_update PySem.F.type_dict_update F5 (pv 1) (aa (aG iO (hr.mono (by first|decide|omega)) rfl T.b5.m T.b5.F.kp T.b5.b .nil aX (aa (pv 3) ah ag)) ah bM))))))))
 (aq (aU (pv 1))))),rfl,?_⟩
 have line:sizeLine=2 ^ 24:=rfl
 rw[Rep.bI] at rb
 obtain⟨_,xs,e,hx,rs⟩:=rb
 cases e
 have lx:xs.length=body.length:=by rw[rs.length,List.length_map]
 have lb:=j0 body
 have sl:=lK body
 refine aw fun U1 ff=>?_
 walk_at "rd"
 intro d K7
 have s1:=av.new K7 (.dK [])
 have y1:(upd H d (.dK [])) d=some (.dK []):=ai
 generalize upd H d (.dK [])=H1 at *
 refine(ff _ _).mpr (aw fun U2 gI=>?_)
 clear ff
 refine iy fun U hU=>?_
 walk_at "rd"
 refine⟨⟨xs,(s0.trans s1).seq hx⟩,hU _ _ ?_⟩
 clear hU
 obtain⟨Pv,hX⟩:∃Pv:Nat->St->Hp->Prop,∀i σ H3,Pv i σ H3↔∃(z2 z3:Option V) (us:List V),σ=[some (V.ref b),some (V.ref d),z2,z3]/\av H H3/\us.length=(PG.az (body.take i)).length/\H3 d=some (.dK (cV (PG.az (body.take i)) us))/\aQ K H0 ((PG.az (body.take i)).map de) us:=⟨_,fun _ _ _=>Iff.rfl⟩
 refine ip (K:=K) (a:=b) (xs:=xs) Pv ((hX _ _ _).mpr ⟨none,none,[],rfl,s1,rfl,y1,.nil⟩) (fun i σ H3 _ hv=>?_) ?_ ?_
 ·obtain⟨_,_,_,_,s3,_⟩:=(hX _ _ _).mp hv
  exact(s0.trans s3).seq hx
 ·intro i y σ H3 hi hv
  obtain⟨z2,z3,us,rfl,s3,lu,y3,r3⟩:=(hX _ _ _).mp hv
  clear hv
  have done:=fun σ H7=>(hX (i+1) σ H7).mpr
  have li:i<body.length:=by have:=(List.getElem?_eq_some_iff.mp hi).1;lia
  obtain⟨v,hv,rv⟩:=rs.get (i:=i) (d:=de body[i]) (by rw[List.getElem?_map,List.getElem?_eq_getElem li];rfl)
  rw[hi] at hv
  cases hv
  have mem:body[i]∈body:=List.getElem_mem li
  obtain⟨fm,dm⟩:=pJ body _ mem
  have et:PG.az (body.take (i+1))=PG.az (body.take i)++body[i]::(aM body[i]).flatMap PG.az:=by
   rw[List.take_succ_eq_append_getElem li,oF,Bg,EE]
  rw[et] at done
  have eb:PG.az body=(PG.az (body.take i)++body[i]::(aM body[i]).flatMap PG.az)++PG.az (body.drop (i+1)):=by
   rw[<- et,<- oF,List.take_append_drop]
  rw[eb] at pw sl
  have pw:=(List.pairwise_append.mp pw).1
  have sl:(PG.az (body.take i)++body[i]::(aM body[i]).flatMap PG.az).length<=1000:=by
   rw[List.length_append] at sl
   lia
  generalize body[i]=st at *
  generalize PG.az (body.take i)=pre at *
  obtain⟨sa,ys,rfl,hs,l2,l7,e1,rc⟩:=LW st rv
  simp only[fC,List.set]
  refine aw fun U3 ik=>?_
  walk_at "rd"
  have fresh:(Sum.inl st.row:Key) ∉ (cV pre us).map (·.1):=by
   rw[hJ _ _ lu]
   intro z
   obtain⟨x,hx,e⟩:=List.mem_map.mp z
   have e:=Sum.inl.inj e
   have:=(List.pairwise_append.mp pw).2.2 x hx st (List.mem_cons_self ..)
   lia
  have lr:(cV pre us).length<=1000:=by
   have:=congrArg List.length (hJ _ _ lu)
   rw[List.length_map,List.length_map] at this
   rw[List.length_append] at sl
   lia
  refine aI ((s0.trans s3).bD hs) (v:=.int st.row) (au (j:=1) e1) ⟨d,_,rfl,.inl ⟨_,.inl st.row,y3,rfl,by lia,rfl⟩,(ik _ _).mpr ?_⟩
  clear ik
  rw[wB fresh]
  have y4:(upd H3 d (.dK (cV pre us++[(Sum.inl st.row,V.ref sa)]))) d=some (.dK (cV (pre++[st]) (us++[V.ref sa]))):=by rw[ai,pK _ _ _ _ lu];rfl
  have s4:av H (upd H3 d (.dK (cV pre us++[(Sum.inl st.row,V.ref sa)]))):=fun z o e=>by rw[ay (ao e K7)];exact s3 z o e
  generalize upd H3 d (.dK (cV pre us++[(Sum.inl st.row,V.ref sa)]))=H4 at *
  refine Je fun U hU=>?_
  simp only[Ug]
  walk_at "rd"
  refine⟨5,rfl,sa,ys,rfl,(s0.trans s4).bD hs,?_,fun p hp=>⟨p,rfl,⟨_,.of ai⟩,hU _ _ ?_⟩⟩
  ·intro z
   have z1:=z.1
   rw[show (5:Int)=((5:Nat):Int) from rfl,HT.pA] at z1
   lia
  clear hU
  have s5:=s4.trans (av.new hp (.tup (cQ ys (some 5) none)))
  have y5:=av.new hp (.tup (cQ ys (some 5) none)) _ _ y4
  have h5:(upd H4 p (.tup (cQ ys (some 5) none))) p=some (.tup (cQ ys (some 5) none)):=ai
  have Xq:p≠d:=(ao y4 hp).symm
  generalize upd H4 p (.tup (cQ ys (some 5) none))=H5 at *
  generalize cQ ys (some 5) none=bv at *
  have MJ:bv.length=(aM st).length:=by rw[rc.length,List.length_map]
  obtain⟨Pw,w8⟩:∃Pw:Nat->St->Hp->Prop,∀j σ H6,Pw j σ H6↔∃(z3:Option V) (vn:List V),σ=[some (V.ref b),some (V.ref d),some (V.ref sa),z3]/\av H H6/\H6 p=some (.tup bv)/\vn.length=(pre++st::((aM st).take j).flatMap PG.az).length/\H6 d=some (.dK (cV (pre++st::((aM st).take j).flatMap PG.az) vn))/\aQ K H0 ((pre++st::((aM st).take j).flatMap PG.az).map de) vn:=⟨_,fun _ _ _=>Iff.rfl⟩
  refine Lh (K:=K) (a:=p) (xs:=bv) Pw ((w8 _ _ _).mpr ⟨z3,us++[V.ref sa],rfl,s5,h5,by simp[lu],y5,?_⟩) (fun j σ H6 _ hv=>?_) ?_ ?_
  ·rw[List.take_zero,List.flatMap_nil,List.map_append]
   exact r3.append (.cons rv .nil)
  ·obtain⟨_,_,_,_,h6,_⟩:=(w8 _ _ _).mp hv
   exact .of h6
  ·intro j y σ H6 hj hv
   obtain⟨Xr,vn,rfl,s6,h6,Km,y6,r6⟩:=(w8 _ _ _).mp hv
   clear hv
   have w9:=fun σ H7=>(w8 (j+1) σ H7).mpr
   have lj:j<(aM st).length:=by have:=(List.getElem?_eq_some_iff.mp hj).1;lia
   obtain⟨v,hv,Tz⟩:=rc.get (i:=j) (d:=.lst ((aM st)[j].map de)) (by rw[List.getElem?_map,List.getElem?_eq_getElem lj];rfl)
   rw[hj] at hv
   cases hv
   have mj:(aM st)[j]∈aM st:=List.getElem_mem lj
   obtain⟨fb,db⟩:=jR st _ mj
   have ej:((aM st).take (j+1)).flatMap PG.az=((aM st).take j).flatMap PG.az++PG.az (aM st)[j]:=by
    rw[List.take_succ_eq_append_getElem lj,List.flatMap_append]
    simp
   have ea:(aM st).flatMap PG.az=((aM st).take j).flatMap PG.az++PG.az (aM st)[j]++((aM st).drop (j+1)).flatMap PG.az:=by
    rw[<- ej,<- List.flatMap_append,List.take_append_drop]
   rw[ej] at w9
   rw[ea] at pw sl
   generalize (aM st)[j]=bb at *
   generalize ((aM st).take j).flatMap PG.az=mid at *
   generalize ((aM st).drop (j+1)).flatMap PG.az=rest at *
   have Zk:((pre++st::mid)++PG.az bb).Pairwise (fun a b=>a.row<b.row):=by
    rw[show pre++st::(mid++PG.az bb++rest)=((pre++st::mid)++PG.az bb)++rest by simp] at pw
    exact(List.pairwise_append.mp pw).1
   have QG:(pre++st::mid).length+(PG.az bb).length<=1000:=by
    simp only[List.length_append,List.length_cons] at sl ⊢
    lia
   obtain⟨ab,_,rfl,_⟩:=Rep.bI.mp Tz
   simp only[fC,List.set]
   walk_at "rd"
   refine⟨.inr (.inr (.inl ⟨rfl,.inl ⟨_,y6⟩⟩)),ab,bb,H0,rfl,s0.trans s6,Tz,by lia,by lia,(List.pairwise_append.mp Zk).2.1,fun d2 EJ H7 s7 hd2 l2 y7 r7=>?_⟩
   have nd2:d≠d2:=ao y6 hd2
   have lk1:(cV (pre++st::mid) vn).length=(pre++st::mid).length:=by
    have:=congrArg List.length (hJ _ _ Km)
    rwa [List.length_map,List.length_map] at this
   have lk2:(cV (PG.az bb) EJ).length=(PG.az bb).length:=by
    have:=congrArg List.length (hJ _ _ l2)
    rwa [List.length_map,List.length_map] at this
   refine⟨d,d2,_,_,rfl,rfl,nd2,s7 _ _ y6,y7,by lia,?_⟩
   rw[hG _ _ (by rw[<- pK _ _ _ _ Km,hJ _ _ (by simp only[List.length_append] at *;lia)];exact qN Zk),<- pK _ _ _ _ Km]
   refine w9 _ _ ⟨_,vn++EJ,rfl,fun z o e=>by rw[ay (ao e K7)];exact s7 _ _ (s6 z o e),by rw[ay Xq];exact s7 _ _ h6,by simp only[List.length_append,List.length_cons] at *;lia,?_,?_⟩
   ·rw[ai]
    simp
   ·rw[show pre++st::(mid++PG.az bb)=(pre++st::mid)++PG.az bb by simp,List.map_append]
    exact r6.append r7
  ·intro σ H6 hv
   obtain⟨Xr,vn,rfl,s6,h6,Km,y6,r6⟩:=(w8 _ _ _).mp hv
   rw[MJ,List.take_length] at Km y6 r6
   exact done _ _ ⟨_,_,vn,rfl,s6,Km,y6,r6⟩
 ·intro σ H3 hv
  obtain⟨z2,z3,us,rfl,s3,lu,y3,r3⟩:=(hX _ _ _).mp hv
  rw[lx,List.take_length] at lu y3 r3
  refine(gI _ _).mpr ?_
  walk_at "rd"
  exact q d us H3 s3 K7 lu y3 r3
theorem BM(T:Tx K mg t):∀n,bQ P w K mg base fh (n+1) t.cL t.cS ["body"] (zm K n)
 |0=>by
  have no:∀vs H Q E,¬zm K 0 vs H Q E:=fun vs H Q E h=>by obtain⟨_,_,_,_,_,_,h,_⟩:=h;lia
  exact⟨fun vs H Q E h=>absurd h (no vs H Q E),fun A outer s H args us vs Q E _ _ _ _ h=>absurd h (no vs H Q E)⟩
 |n+1=>MN T (BM T n)
theorem Kn(T:Tx K mg t){n:Nat}(fJ:bQ P w K mg base fh (n+2) t.cA t.cD ["body"] (pL K n)) :
 bQ P w K mg base fh (n+3) t.cA t.cD ["body"] (pL K (n+1)):=by
 have oW:bQ P w K mg base fh 1 t.gh t.gB ["statement"] (wx K):=tD T
 refine T.cB.F.kS lT (fun vs H Q E h=>?_) (fun fD A outer s H vs Q E hr h=>?_)
 ·obtain⟨_,_,_,rfl,_⟩:=h
  rfl
 obtain⟨b,body,H0,rfl,s0,rb,hd,hf,q⟩:=h
 have nd:=lT.nd
 refine⟨_,[some (V.ref b),none,none,none],(ae (aL (i:=1) nd rfl (Or.inl rfl) (bJ ah))
 (ae (fZ PassesOwn.never rfl (dq (pv 0)) (bu (i:=2) nd rfl (Or.inl rfl))
 (ae (bX (eR PySem.F.plainAttrs_list PySem.F.slot_list_append PySem.F.type_list_append bL (pv 1) (aa (pv 2) ah ag)))
 (aq (fZ PassesOwn.never rfl (dq (aG oW (hr.mono (by first|decide|omega)) rfl T.eI.m T.eI.F.kp T.eI.b .nil aX (aa (pv 2) ah ag))) (bu (i:=3) nd rfl (Or.inl rfl))
 (aq (bX (eR PySem.F.plainAttrs_list PySem.F.slot_list_extend PySem.F.type_list_extend xZ (pv 1) (aa (aG fJ (hr.mono (by first|decide|omega)) rfl T.cB.m T.cB.F.kp T.cB.b .nil aX (aa (pv 3) ah ag)) ah bM))))))))
 (aq (aU (pv 1))))),rfl,?_⟩
 have line:sizeLine=2 ^ 24:=rfl
 rw[Rep.bI] at rb
 obtain⟨_,xs,e,hx,rs⟩:=rb
 cases e
 have lx:xs.length=body.length:=by rw[rs.length,List.length_map]
 have lb:=j0 body
 have sl:=lK body
 refine aw fun U1 ff=>?_
 walk_at "rd"
 intro d K7
 have s1:=av.new K7 (.lst [])
 have y1:(upd H d (.lst [])) d=some (.lst []):=ai
 generalize upd H d (.lst [])=H1 at *
 refine(ff _ _).mpr (aw fun U2 gI=>?_)
 clear ff
 refine iy fun U hU=>?_
 walk_at "rd"
 refine⟨⟨xs,(s0.trans s1).seq hx⟩,hU _ _ ?_⟩
 clear hU
 obtain⟨Pv,hX⟩:∃Pv:Nat->St->Hp->Prop,∀i σ H3,Pv i σ H3↔∃(z2 z3:Option V) (us:List V),σ=[some (V.ref b),some (V.ref d),z2,z3]/\av H H3/\us.length=(PG.az (body.take i)).length/\H3 d=some (.lst us)/\aQ K H0 ((PG.az (body.take i)).map de) us:=⟨_,fun _ _ _=>Iff.rfl⟩
 refine ip (K:=K) (a:=b) (xs:=xs) Pv ((hX _ _ _).mpr ⟨none,none,[],rfl,s1,rfl,y1,.nil⟩) (fun i σ H3 _ hv=>?_) ?_ ?_
 ·obtain⟨_,_,_,_,s3,_⟩:=(hX _ _ _).mp hv
  exact(s0.trans s3).seq hx
 ·intro i y σ H3 hi hv
  obtain⟨z2,z3,us,rfl,s3,lu,y3,r3⟩:=(hX _ _ _).mp hv
  clear hv
  have done:=fun σ H7=>(hX (i+1) σ H7).mpr
  have li:i<body.length:=by have:=(List.getElem?_eq_some_iff.mp hi).1;lia
  obtain⟨v,hv,rv⟩:=rs.get (i:=i) (d:=de body[i]) (by rw[List.getElem?_map,List.getElem?_eq_getElem li];rfl)
  rw[hi] at hv
  cases hv
  have mem:body[i]∈body:=List.getElem_mem li
  obtain⟨fm,dm⟩:=pJ body _ mem
  have et:PG.az (body.take (i+1))=PG.az (body.take i)++body[i]::(aM body[i]).flatMap PG.az:=by
   rw[List.take_succ_eq_append_getElem li,oF,Bg,EE]
  rw[et] at done
  have eb:PG.az body=(PG.az (body.take i)++body[i]::(aM body[i]).flatMap PG.az)++PG.az (body.drop (i+1)):=by
   rw[<- et,<- oF,List.take_append_drop]
  rw[eb] at sl
  have sl:(PG.az (body.take i)++body[i]::(aM body[i]).flatMap PG.az).length<=1000:=by
   rw[List.length_append] at sl
   lia
  generalize body[i]=st at *
  generalize PG.az (body.take i)=pre at *
  simp only[fC,List.set]
  refine aw fun U3 ik=>?_
  walk_at "rd"
  refine⟨.inl ⟨rfl,_,.of y3⟩,d,us,y,rfl,rfl,y3,by simp only[List.length_append,List.length_cons] at sl;lia,(ik _ _).mpr ?_⟩
  clear ik
  have y4:(upd H3 d (.lst (us++[y]))) d=some (.lst (us++[y])):=ai
  have s4:av H (upd H3 d (.lst (us++[y]))):=fun z o e=>by rw[ay (ao e K7)];exact s3 z o e
  generalize upd H3 d (.lst (us++[y]))=H4 at *
  refine iy fun U hU=>?_
  walk_at "rd"
  refine⟨y,st,H0,rfl,rv,s0.trans s4,fun p bv H5 Ko hp h5 rc=>⟨p,rfl,⟨_,.of h5⟩,hU _ _ ?_⟩⟩
  clear hU
  have s5:=s4.trans Ko
  have y5:=Ko _ _ y4
  have Xq:p≠d:=(ao y4 hp).symm
  have MJ:bv.length=(aM st).length:=by rw[rc.length,List.length_map]
  obtain⟨Pw,w8⟩:∃Pw:Nat->St->Hp->Prop,∀j σ H6,Pw j σ H6↔∃(z3:Option V) (vn:List V),σ=[some (V.ref b),some (V.ref d),some y,z3]/\av H H6/\H6 p=some (.lst bv)/\vn.length=(pre++st::((aM st).take j).flatMap PG.az).length/\H6 d=some (.lst vn)/\aQ K H0 ((pre++st::((aM st).take j).flatMap PG.az).map de) vn:=⟨_,fun _ _ _=>Iff.rfl⟩
  refine ip (K:=K) (a:=p) (xs:=bv) Pw ((w8 _ _ _).mpr ⟨z3,us++[y],rfl,s5,h5,by simp[lu],y5,?_⟩) (fun j σ H6 _ hv=>?_) ?_ ?_
  ·rw[List.take_zero,List.flatMap_nil,List.map_append]
   exact r3.append (.cons rv .nil)
  ·obtain⟨_,_,_,_,h6,_⟩:=(w8 _ _ _).mp hv
   exact .of h6
  ·intro j y' σ H6 hj hv
   obtain⟨Xr,vn,rfl,s6,h6,Km,y6,r6⟩:=(w8 _ _ _).mp hv
   clear hv
   have w9:=fun σ H7=>(w8 (j+1) σ H7).mpr
   have lj:j<(aM st).length:=by have:=(List.getElem?_eq_some_iff.mp hj).1;lia
   obtain⟨v,hv,Tz⟩:=rc.get (i:=j) (d:=.lst ((aM st)[j].map de)) (by rw[List.getElem?_map,List.getElem?_eq_getElem lj];rfl)
   rw[hj] at hv
   cases hv
   have mj:(aM st)[j]∈aM st:=List.getElem_mem lj
   obtain⟨fb,db⟩:=jR st _ mj
   have ej:((aM st).take (j+1)).flatMap PG.az=((aM st).take j).flatMap PG.az++PG.az (aM st)[j]:=by
    rw[List.take_succ_eq_append_getElem lj,List.flatMap_append]
    simp
   have ea:(aM st).flatMap PG.az=((aM st).take j).flatMap PG.az++PG.az (aM st)[j]++((aM st).drop (j+1)).flatMap PG.az:=by
    rw[<- ej,<- List.flatMap_append,List.take_append_drop]
   rw[ej] at w9
   rw[ea] at sl
   generalize (aM st)[j]=bb at *
   generalize ((aM st).take j).flatMap PG.az=mid at *
   generalize ((aM st).drop (j+1)).flatMap PG.az=rest at *
   have QG:(pre++st::mid).length+(PG.az bb).length<=1000:=by
    simp only[List.length_append,List.length_cons] at sl ⊢
    lia
   obtain⟨ab,_,rfl,_⟩:=Rep.bI.mp Tz
   simp only[fC,List.set]
   walk_at "rd"
   refine⟨.inl ⟨rfl,_,.of y6⟩,ab,bb,H0,rfl,s0.trans s6,Tz,by lia,by lia,fun d2 EJ H7 s7 hd2 y7 r7=>?_⟩
   have l2:EJ.length=(PG.az bb).length:=by rw[r7.length,List.length_map]
   refine⟨d,d2,_,_,rfl,rfl,s7 _ _ y6,y7,by lia,?_⟩
   refine w9 _ _ ⟨_,vn++EJ,rfl,fun z o e=>by rw[ay (ao e K7)];exact s7 _ _ (s6 z o e),by rw[ay Xq];exact s7 _ _ h6,by simp only[List.length_append,List.length_cons] at *;lia,ai,?_⟩
   rw[show pre++st::(mid++PG.az bb)=(pre++st::mid)++PG.az bb by simp,List.map_append]
   exact r6.append r7
  ·intro σ H6 hv
   obtain⟨Xr,vn,rfl,s6,h6,Km,y6,r6⟩:=(w8 _ _ _).mp hv
   rw[MJ,List.take_length] at Km r6
   exact done _ _ ⟨_,_,vn,rfl,s6,Km,y6,r6⟩
 ·intro σ H3 hv
  obtain⟨z2,z3,us,rfl,s3,lu,y3,r3⟩:=(hX _ _ _).mp hv
  rw[lx,List.take_length] at lu r3
  refine(gI _ _).mpr ?_
  walk_at "rd"
  exact q d us H3 s3 K7 y3 r3
theorem yN(T:Tx K mg t):∀n,bQ P w K mg base fh (n+2) t.cA t.cD ["body"] (pL K n)
 |0=>by
  have no:∀vs H Q E,¬pL K 0 vs H Q E:=fun vs H Q E h=>by obtain⟨_,_,_,_,_,_,h,_⟩:=h;lia
  exact⟨fun vs H Q E h=>absurd h (no vs H Q E),fun A outer s H args us vs Q E _ _ _ _ h=>absurd h (no vs H Q E)⟩
 |n+1=>Kn T (yN T n)
theorem N0:∀w:PG.Wd,Lk (V.str (fX w)) [V.str (Str.ofString "ask"),V.str (Str.ofString "put")]=decide (w=.ask\/w=.put):=by
 intro w
 cases w<;>decide +kernel
theorem N1:∀w:PG.Wd,(fX w=Str.ofString "stop")↔w=.stop:=by
 intro w
 cases w<;>decide +kernel
theorem N2:∀w:PG.Wd,(fX w=Str.ofString "must")↔w=.b8:=by
 intro w
 cases w<;>decide +kernel
theorem Qr{st:PG.bF}(h:st.wd=.stop):∃k,st=.stop k:=by
 cases st<;>first |exact⟨_,rfl⟩ |cases h
theorem Fh(vals:List Int)(j:Nat)(hj:j<vals.length)(x:Int):cQ (vals.map V.int) none (some (j:Int))++[V.int x]++cQ (vals.map V.int) (some ((j:Int)+1)) none=(vals.set j x).map V.int:=by
 unfold cQ
 rw[HT.nV,HT.pA,show ((j:Int)+1)=((j+1:Nat):Int) by lia,HT.pA,HT.nV]
 rw[List.length_map,Nat.min_eq_left (by lia),Nat.min_eq_left (by lia),List.drop_zero,Nat.sub_zero]
 rw[List.take_of_length_le (l:=List.drop (j+1) (vals.map V.int)) (by rw[List.length_drop,List.length_map];lia)]
 rw[List.set_eq_take_append_cons_drop,if_pos hj]
 simp
theorem Kp{st:PG.bF}(h:¬(st.wd=.ask\/st.wd=.put))(h1:st.wd≠.say)(h2:st.wd≠.stop):st.wd=.b8\/st.wd=.ifs\/st.wd=.fe:=by
 cases st<;>simp[PG.bF.wd] at h h1 h2 ⊢
theorem N3{st:PG.bF}{sg:W}{l r:PM.Tr}(h:Pk st)(c:oH st=some (sg,l,r)):sg=[60]\/sg=[61]:=by
 have key:sg∈PG.ze:=by
  cases st<;>simp only[oH,Option.some.injEq,Prod.mk.injEq,reduceCtorEq] at c<;>obtain⟨rfl,rfl,rfl⟩:=c<;>exact h
 simpa[PG.ze] using key
theorem Qs{bs:List PG.fV}(nb:(bs.map (·.name)).Nodup){b:W}(hb:b∈bs.map (·.name)):(bs.map fun b=>S b.name)[dg bs b]?=some (S b)/\∀m,m<dg bs b->(bs.map fun b=>S b.name)[m]?≠some (S b):=by
 obtain⟨hx,ex⟩:=kb hb
 refine⟨by rw[List.getElem?_map,List.getElem?_eq_getElem hx];show some (S bs[dg bs b].name)=_;rw[ex],fun m hm e=>?_⟩
 have lm:m<bs.length:=by lia
 rw[List.getElem?_map,List.getElem?_eq_getElem lm] at e
 have e:=lC.mp (Option.some.inj e)
 have p1:=List.pairwise_iff_getElem.mp nb m (dg bs b) (by simpa using lm) (by simpa using hx) hm
 rw[List.getElem_map,List.getElem_map] at p1
 exact p1 (e.trans ex.symm)
theorem vo(T:Tx K mg t):bQ P w K mg base fh 4 t.gm t.gZ ["boxes", "statement", "ways", "values", "figure"] (De K):=by
 have cZ:=qY (P:=P) (w:=w) (base:=base) T 3
 refine T.eZ.F.kS nH (fun vs H Q E h=>?_) (fun fD A outer s H vs Q E hr h=>?_)
 ·obtain⟨_,_,_,_,_,_,_,_,_,_,rfl,_⟩:=h
  rfl
 obtain⟨B,ta,wa,va,fv,bs,st,ws,vals,zt,rfl,rB,rv,Q1,Ds,nb,tS,bp,lv,PN,po,so,w0,w1,q⟩:=h
 have nd:=nH.nd
 have hu:=fE hr
 refine⟨_,[some (.ref B),some (.ref ta),some (.ref wa),some (.ref va),some fv,none,none,none,none,none,none,none],(ae (Ee (i:=5) nd rfl (Or.inl rfl) (own:=["box"]) (ix:=[]) rfl (by rfl) (by rfl) (dq (pv 0)) (fun _ _ _ _=>(bu (i:=0) (by show List.Nodup (["box"]:List Str);decide +kernel) rfl (Or.inl rfl))) (fun _ _ _ _=>i9) (fun _ _ _ _=>(aD (jb (K:=K) rfl) (pv 0) aj ak)))
 (ae (aL (i:=6) nd rfl (Or.inl rfl) (qQ rfl rfl T.oT rfl T.BB (aa (pv 5) (aa (pv 3) ah ag) ag)))
 (ae (aL (i:=7) nd rfl (Or.inl rfl) (aD aN (pv 1) aj ak))
 (ae (bw (aK iU (pv 7) (aZ (cO (vs:=[.str "ask",.str "put"]) (by kernel_rfl))) rfl)
 (ae (aL (i:=8) nd rfl (Or.inl rfl) (pv 4))
 (ae (bw (aK bT (pv 7) aV (aT _))
 (aq (aL (i:=8) nd rfl (Or.inl rfl) (aG cZ (hr.mono (by first|decide|omega)) rfl T.a7.m T.a7.F.kp T.a7.b .nil aX (aa (aD aN (pv 1) aj ak) (aa (pv 6) ah ag) ba))))
 a9)
 (ae (aL (i:=9) nd rfl (Or.inl rfl) (eR PySem.F.plainAttrs_list PySem.F.slot_list_index PySem.F.type_list_index Gh (pv 5) (aa (aD aN (pv 1) aj ak) ah ba)))
 (ae (aL (i:=3) nd rfl (Or.inl rfl) (bh EL (bh EL (iu EM (pv 3) jL (jM (pv 9))) (aZ (aa (bh cu (pv 8) (aD aN (aD bf (pv 0) (pv 9) pE) aj ak)) ah ka))) (iu EM (pv 3) (jM (bh dW (pv 9) aj)) jL)))
 (aq (aU (aZ (aa (aZ (aa (aD aN (pv 2) aj ak) (aa (pv 3) ah ag) ba)) (aa eM ah aR) cE))))))))
 a9)
 (ae (bw (aK bT (pv 7) aV (aT _))
 (aq (aU (aZ (aa (aZ (aa (aD aN (pv 2) aj ak) (aa (pv 3) ah ag) ba)) (aa (aG cZ (hr.mono (by first|decide|omega)) rfl T.a7.m T.a7.F.kp T.a7.b .nil aX (aa (aD aN (pv 1) aj ak) (aa (pv 6) ah ag) ba)) ah bM) cE))))
 a9)
 (ae (bw (aK bT (pv 7) aV (aT _))
 (aq (aU (aZ (aa (aZ (aa (aD aN (pv 2) aj ak) (aa (pv 3) ah ag) ba)) (aa eM ah aR) cE))))
 a9)
 (ae (aL (i:=10) nd rfl (Or.inl rfl) (aG cZ (hr.mono (by first|decide|omega)) rfl T.a7.m T.a7.F.kp T.a7.b .nil aX (aa (aD aN (pv 1) aj ak) (aa (pv 6) ah ag) ba)))
 (ae (aL (i:=11) nd rfl (Or.inl rfl) (aG cZ (hr.mono (by first|decide|omega)) rfl T.a7.m T.a7.F.kp T.a7.b .nil aX (aa (aD aN (pv 1) aj ak) (aa (pv 6) ah ag) ba)))
 (ae (bw (PW.pt (pw_or (PW.pt (pw_and (aK nT (pv 10) (pv 11) (aT _)) (pw_and1 (aK bT (aD aN (pv 1) aj ak) aV (aT _))))) (pw_or1 (PW.pt (pw_and (aK bT (pv 10) (pv 11) (aT _)) (pw_and1 (aK bT (aD aN (pv 1) aj ak) aV (aT _))))))))
 (aq (aU (aZ (aa (aZ (aa (aD aN (pv 2) aj ak) (aa (pv 3) ah ag) ba)) (aa eM ah aR) cE))))
 a9)
 (ae (bw (aK bT (pv 7) aV (aT _))
 (aq (aU (aZ (cO (vs:=[.ck,.ck]) (by kernel_rfl)))))
 a9)
 (aq (aU (aZ (aa (aZ (aa (aD aN (pv 2) aj ak) (aa (pv 3) ah ag) ba)) (aa eM ah aR) cE)))))))))))))),rfl,?_⟩
 obtain⟨UQ,hB,lB,hb⟩:=mh rB
 refine aw fun U1 ff=>?_
 walk_at "rd"
 simp only[kA]
 walk_at "rd"
 refine⟨⟨_,hB⟩,fun D hD=>?_⟩
 have lb':UQ.length<=16000000:=by lia
 refine j3 (K:=K) (r:=[]) (fun i=>V.str (S (bs.getD i ⟨[],0,0⟩).name)) hB lb' hD (fun i x H2 hx s2 R hR=>?_) (fun H1 s1 h1=>(ff _ _).mpr (aw fun U2 gI=>?_))
 ·obtain⟨a,rfl,ha⟩:=hb i x hx
  walk_at "rd"
  exact aI (s2.bD ha) (v:=.str (S (bs.getD i ⟨[],0,0⟩).name)) (au (j:=0) rfl) hR
 clear ff
 rw[lB,i0 (fun b:PG.fV=>V.str (S b.name)) ⟨[],0,0⟩ bs] at h1
 walk_at "rd"
 simp only[Us]
 walk_at "rd"
 have Xs:(vals.map V.int).length=bs.length:=by rw[List.length_map];exact lv
 refine⟨D,va,bs.map fun b=>.inr (S b.name),vals.map V.int,rfl,?_,s1.bD Ds,by rw[List.length_map,List.length_map];exact lv,fun d hd=>(gI _ _).mpr (aw fun U3 ik=>?_)⟩
 ·rw[List.map_map]
  exact .of h1
 rw[mM,hG _ [] (by rw[List.nil_append,kD _ _ Xs];exact names_nodup nb),List.nil_append]
 clear gI
 have s2:=s1.trans (av.new hd (HO.dK (cF bs (vals.map V.int))))
 have hd2:upd H1 d (HO.dK (cF bs (vals.map V.int))) d=some (.dK (cF bs (vals.map V.int))):=ai
 have K0:=av.new hd (HO.dK (cF bs (vals.map V.int))) _ _ h1
 generalize upd H1 d (HO.dK (cF bs (vals.map V.int)))=H2 at s2 hd2 K0 ⊢
 have sel:∃ds,c5 K H ta (.str (fX st.wd)::ds):=by
  cases st<;>(rw[de,Rep.bq] at rv;obtain⟨ta,ys,ee,hs,rs⟩:=rv;cases ee;rw[aQ.aJ] at rs;obtain⟨v0,t0,rfl,e0,rs⟩:=rs;rw[Rep.bE] at e0;subst e0;exact⟨_,hs⟩)
 obtain⟨ds,hs⟩:=sel
 walk_at "rd"
 refine aI (s2.bD hs) (v:=.str (fX st.wd)) (au (j:=0) rfl) ((ik _ _).mpr (aw fun U4 i7=>?_))
 clear ik
 have e0:ws[0]?=some (ws.getD 0 0):=by rw[List.getD_eq_getElem?_getD,List.getElem?_eq_getElem w0];rfl
 have q0:qJ (ws.map V.int) ((0:Nat):Int)=some (V.int (ws.getD 0 0)):=au (by rw[List.getElem?_map,e0];rfl)
 have acz:vals.length<=10:=by lia
 have line:sizeLine=2 ^ 24:=rfl
 walk_at "rd"
 intro z hz
 have s3:=s2.trans (av.new hz (HO.tup [V.str (Str.ofString "ask"),V.str (Str.ofString "put")]))
 have KP:=av.new hz (HO.tup [V.str (Str.ofString "ask"),V.str (Str.ofString "put")]) _ _ hd2
 have GX:=av.new hz (HO.tup [V.str (Str.ofString "ask"),V.str (Str.ofString "put")]) _ _ K0
 have Zl:upd H2 z (HO.tup [V.str (Str.ofString "ask"),V.str (Str.ofString "put")]) z=some (HO.tup [V.str (Str.ofString "ask"),V.str (Str.ofString "put")]):=ai
 generalize upd H2 z (HO.tup [V.str (Str.ofString "ask"),V.str (Str.ofString "put")])=H3 at s3 KP GX Zl ⊢
 refine⟨z,_,rfl,.inr (.of Zl),rfl,rfl,_,rfl,b4 (fun e=>?_) (fun e=>?_)⟩
 ·clear i7
  have e1:=e
  simp only[Bool.false_eq_true,if_false,N0,decide_eq_true_eq] at e1
  have Xt:∃b x y ys,b∈bs.map (·.name)/\c5 K H ta (x::y :: .str (S b)::ys)/\((st.wd=.ask/\ji bs st ws vals zt=(some (ws.getD 0 0,sH bs vals b (zt%eT bs b)),none))\/(st.wd=.put/\∃tr u,ys=[u]/\Rep K H (jk tr) u/\B9 bs vals tr/\ji bs st ws vals zt=(some (ws.getD 0 0,sH bs vals b (wv bs vals tr%eT bs b)),none))):=by
   rcases e1 with e1 |e1
   ·obtain⟨k,b,rfl⟩:=JZ e1
    obtain⟨_,ee,hT⟩:=yI rv
    cases ee
    exact⟨b,_,_,_,po,hT,.inl ⟨rfl,rfl⟩⟩
   ·obtain⟨k,b,tr,rfl⟩:=J0 e1
    obtain⟨_,u,ee,hT,ru⟩:=yJ rv
    cases ee
    exact⟨b,_,_,_,po.1,hT,.inr ⟨rfl,tr,u,rfl,ru,po.2,rfl⟩⟩
  obtain⟨b,c1,c2,c3,rm,hT,N4⟩:=Xt
  obtain⟨hx,ex⟩:=kb rm
  obtain⟨ni,nn⟩:=Qs nb rm
  have lj:dg bs b<vals.length:=by lia
  obtain⟨vb,Xu⟩:∃vb,UQ[dg bs b]?=some vb:=⟨_,List.getElem?_eq_getElem (by lia)⟩
  obtain⟨ab,rfl,ED⟩:=hb _ _ Xu
  have sz:(bs.getD (dg bs b) ⟨[],0,0⟩).size=eT bs b:=by
   unfold eT
   rw[List.getD_eq_getElem?_getD,List.getElem?_eq_getElem hx]
   rfl
  rw[sz] at ED
  refine b4 (fun e2=>?_) (fun e2=>?_)
  ·have ep:=(ME _).mp e2
   rcases N4 with ⟨ea,_⟩ |⟨_,tr,u,rfl,ru,tv,es⟩
   ·rw[ep] at ea;cases ea
   rw[es] at q
   refine aI (s3.bD hT) (v:=u) (au (j:=3) rfl) ⟨u,d,tr,_,rfl,ru.mono s3,KP,tv.1,by have:=tv.2;lia,by have:=tv.2;lia,fun H5 Ko=>?_⟩
   have s5:=s3.trans Ko
   refine⟨.inl ⟨rfl,_,.of (Ko _ _ GX)⟩,aI (s5.bD hT) (v:=.str (S b)) (au (j:=2) rfl) ⟨D,bs.map fun b=>S b.name,S b,dg bs b,rfl,rfl,by rw[List.map_map];exact Ko _ _ GX,ni,nn,⟨_,rfl,va,_,rfl,s5.bD Ds,fun p1 H6 Xv k1=>?_⟩⟩⟩
   have s6:=s5.trans Xv
   refine bC (s6.seq hB) (v:=.ref ab) (au Xu) (aI (s6.bD ED) (v:=.int (eT bs b)) (au (j:=1) rfl) ⟨_,_,rfl,rfl,pQ bp b,fun p2 xt=>?_⟩)
   have s7:=s6.trans (av.new xt (HO.tup [V.int (wv bs vals tr%eT bs b)]))
   refine⟨p1,p2,_,_,rfl,rfl,(av.new xt _).bD k1,.of ai,?_,fun p3 H8 Xw k3=>?_⟩
   ·have:=dG (vals.map V.int) none (some (dg bs b:Int))
    rw[List.length_map] at this
    simp only[List.length_cons,List.length_nil]
    lia
   have s8:=s7.trans Xw
   refine⟨_,_,rfl,rfl,_,rfl,va,_,rfl,s8.bD Ds,fun p4 H9 TB k4=>⟨p3,p4,_,_,rfl,rfl,TB.bD k3,k4,?_,fun p5 pW Qt k5=>?_⟩⟩
   ·have h1:=dG (vals.map V.int) none (some (dg bs b:Int))
    have h2:=dG (vals.map V.int) (some ((dg bs b:Int)+1)) none
    rw[List.length_map] at h1 h2
    simp only[List.length_append,List.length_cons,List.length_nil]
    lia
   have qu:=(s8.trans TB).trans Qt
   rw[Fh vals _ lj] at k5
   refine aI (qu.bD Q1) (v:=.int (ws.getD 0 0)) q0 fun p6 iQ p7 pY=>?_
   exact q p7 _ _ ((qu.trans (av.new iQ _)).trans (av.new pY _)) (.of ai) ⟨p6,rfl,p5,(av.new pY _).bD (.of ai),((av.new iQ _).trans (av.new pY _)).bD k5⟩
  ·rcases N4 with ⟨ea,es⟩ |⟨ep,_⟩
   rotate_left
   ·exact absurd ((ME _).mpr ep) e2
   have WN:=PN ea
   subst WN
   rw[es] at q
   have Ko:=av.refl H3
   have s5:=s3
   refine⟨.inl ⟨rfl,_,.of (Ko _ _ GX)⟩,aI (s5.bD hT) (v:=.str (S b)) (au (j:=2) rfl) ⟨D,bs.map fun b=>S b.name,S b,dg bs b,rfl,rfl,by rw[List.map_map];exact Ko _ _ GX,ni,nn,⟨_,rfl,va,_,rfl,s5.bD Ds,fun p1 H6 Xv k1=>?_⟩⟩⟩
   have s6:=s5.trans Xv
   refine bC (s6.seq hB) (v:=.ref ab) (au Xu) (aI (s6.bD ED) (v:=.int (eT bs b)) (au (j:=1) rfl) ⟨_,_,rfl,rfl,pQ bp b,fun p2 xt=>?_⟩)
   have s7:=s6.trans (av.new xt (HO.tup [V.int (zt%eT bs b)]))
   refine⟨p1,p2,_,_,rfl,rfl,(av.new xt _).bD k1,.of ai,?_,fun p3 H8 Xw k3=>?_⟩
   ·have:=dG (vals.map V.int) none (some (dg bs b:Int))
    rw[List.length_map] at this
    simp only[List.length_cons,List.length_nil]
    lia
   have s8:=s7.trans Xw
   refine⟨_,_,rfl,rfl,_,rfl,va,_,rfl,s8.bD Ds,fun p4 H9 TB k4=>⟨p3,p4,_,_,rfl,rfl,TB.bD k3,k4,?_,fun p5 pW Qt k5=>?_⟩⟩
   ·have h1:=dG (vals.map V.int) none (some (dg bs b:Int))
    have h2:=dG (vals.map V.int) (some ((dg bs b:Int)+1)) none
    rw[List.length_map] at h1 h2
    simp only[List.length_append,List.length_cons,List.length_nil]
    lia
   have qu:=(s8.trans TB).trans Qt
   rw[Fh vals _ lj] at k5
   refine aI (qu.bD Q1) (v:=.int (ws.getD 0 0)) q0 fun p6 iQ p7 pY=>?_
   exact q p7 _ _ ((qu.trans (av.new iQ _)).trans (av.new pY _)) (.of ai) ⟨p6,rfl,p5,(av.new pY _).bD (.of ai),((av.new iQ _).trans (av.new pY _)).bD k5⟩
 have e1:=e
 simp only[Bool.false_eq_true,if_false,N0,decide_eq_true_eq] at e1
 refine(i7 _ _).mpr (aw fun U5 tf=>?_)
 clear i7 e
 walk_at "rd"
 refine b4 (fun e2=>?_) (fun e2=>?_)
 ·obtain⟨k,tr,rfl⟩:=J7 ((MF _).mp e2)
  obtain⟨_,u,ee,hT,ru⟩:=yK rv
  cases ee
  refine aI (s3.bD Q1) (v:=.int (ws.getD 0 0)) q0 fun p6 iQ=>?_
  have s4:=s3.trans (av.new iQ (HO.tup [V.int (ws.getD 0 0),V.ref va]))
  refine aI (s4.bD hT) (v:=u) (au (j:=2) rfl) ⟨u,d,tr,_,rfl,ru.mono s4,av.new iQ _ _ _ KP,po.1,by have:=po.2;lia,by have:=po.2;lia,fun H5 s5 p7 pY=>?_⟩
  exact q p7 _ _ ((s4.trans s5).trans (av.new pY _)) (.of ai) ⟨p6,rfl,va,(s5.trans (av.new pY _)).bD (.of ai),((s4.trans s5).trans (av.new pY _)).bD Ds⟩
 refine(tf _ _).mpr (aw fun U6 xm=>?_)
 clear tf
 walk_at "rd"
 refine b4 (fun e3=>?_) (fun e3=>?_)
 ·obtain⟨k,rfl⟩:=Qr ((N1 _).mp e3)
  refine aI (s3.bD Q1) (v:=.int (ws.getD 0 0)) q0 fun p6 iQ p7 pY=>?_
  have s4:=(s3.trans (av.new iQ (HO.tup [V.int (ws.getD 0 0),V.ref va]))).trans (av.new pY (HO.tup [V.ref p6,V.ck]))
  exact q p7 _ _ s4 (.of ai) ⟨p6,rfl,va,(av.new pY _).bD (.of ai),s4.bD Ds⟩
 have ec:=Kp e1 (fun z=>e2 ((MF _).mpr z)) (fun z=>e3 ((N1 _).mpr z))
 obtain⟨sg,l,r,cp,tl,tr,es⟩:=cond_of ec po
 have II:=N3 so cp
 rw[es] at q
 unfold iC at q
 rw[cp] at q
 simp only at q
 obtain⟨_,w0',vl,vr,ys,ee,hT,rl,rr⟩:=qS rv cp
 cases ee
 refine(xm _ _).mpr (aw fun U7 J8=>?_)
 clear xm
 walk_at "rd"
 refine aI (s3.bD hT) (v:=vl) (au (j:=3) rfl) ⟨vl,d,l,_,rfl,rl.mono s3,KP,tl.1,by have:=tl.2;lia,by have:=tl.2;lia,fun H4 SQ=>(J8 _ _).mpr (aw fun U8 TC=>?_)⟩
 clear J8
 have s4:=s3.trans SQ
 walk_at "rd"
 refine aI (s4.bD hT) (v:=vr) (au (j:=4) rfl) ⟨vr,d,r,_,rfl,rr.mono s4,SQ _ _ KP,tr.1,by have:=tr.2;lia,by have:=tr.2;lia,fun H5 Ko=>(TC _ _).mpr (aw fun U9 Q2=>?_)⟩
 clear TC
 have s5:=s4.trans Ko
 have ea:(V.str (S sg)=V.str (Str.ofString "<"))↔sg=[60]:=by rw[show (Str.ofString "<":Str)=S [60] from rfl,V.str.injEq,lC]
 have eb:(V.str (S sg)=V.str (Str.ofString "="))↔sg=[61]:=by rw[show (Str.ofString "=":Str)=S [61] from rfl,V.str.injEq,lC]
 walk_at "rd"
 have yes:gH sg (wv bs vals l) (wv bs vals r)=true->Cw K (.ref wa) (.int 0) H5 (fun x H1=>∀p,H1 p=none->∀Xx,upd H1 p (.tup [x,.ref va]) Xx=none->Q (.ref Xx) (upd (upd H1 p (.tup [x,.ref va])) Xx (.tup [.ref p,.ck]))):=fun c=>by
  rw[if_pos c] at q
  refine aI (s5.bD Q1) (v:=.int (ws.getD 0 0)) q0 fun p6 iQ p7 pY=>?_
  have s6:=(s5.trans (av.new iQ (HO.tup [V.int (ws.getD 0 0),V.ref va]))).trans (av.new pY (HO.tup [V.ref p6,V.ck]))
  exact q p7 _ _ s6 (.of ai) ⟨p6,rfl,va,(av.new pY _).bD (.of ai),s6.bD Ds⟩
 have no:gH sg (wv bs vals l) (wv bs vals r)≠true->U9 [some (.ref B),some (.ref ta),some (.ref wa),some (.ref va),some fv,some (.ref D),some (.ref d),some (.str (fX st.wd)),none,none,some (.int (wv bs vals l)),some (.int (wv bs vals r))] H5:=fun c=>by
  rw[if_neg c] at q
  refine(Q2 _ _).mpr ?_
  clear Q2 yes
  walk_at "rd"
  refine b4 (fun e4=>?_) (fun e4=>?_)
  ·rw[if_pos ((N2 _).mp e4)] at q
   intro p6 iQ
   exact q p6 _ _ (s5.trans (av.new iQ _)) (.of ai) rfl
  ·have nm:st.wd≠.b8:=fun z=>e4 ((N2 _).mpr z)
   rw[if_neg nm] at q
   have w1:=w1 (by rcases ec with e |e |e;exact absurd e nm;exact .inl e;exact .inr e)
   have e1:ws[1]?=some (ws.getD 1 0):=by rw[List.getD_eq_getElem?_getD,List.getElem?_eq_getElem w1];rfl
   have q1:qJ (ws.map V.int) ((1:Nat):Int)=some (V.int (ws.getD 1 0)):=au (by rw[List.getElem?_map,e1];rfl)
   refine aI (s5.bD Q1) (v:=.int (ws.getD 1 0)) q1 fun p6 iQ p7 pY=>?_
   have s6:=(s5.trans (av.new iQ (HO.tup [V.int (ws.getD 1 0),V.ref va]))).trans (av.new pY (HO.tup [V.ref p6,V.ck]))
   exact q p7 _ _ s6 (.of ai) ⟨p6,rfl,va,(av.new pY _).bD (.of ai),s6.bD Ds⟩
 have Xy:sg=[60]->gH sg (wv bs vals l) (wv bs vals r)=decide (wv bs vals l<wv bs vals r):=fun z=>by unfold gH;rw[if_pos z]
 have TF:sg=[61]->gH sg (wv bs vals l) (wv bs vals r)=decide (wv bs vals l=wv bs vals r):=fun z=>by unfold gH;rw[if_neg (by rw[z];decide)]
 have un:∀e:PM.Tr,cy (xw (cF bs (List.map V.int vals))) e=wv bs vals e:=fun _=>rfl
 rw[un,un] at *
 refine b4 (fun c1=>aI (s5.bD hT) (v:=.str (S sg)) (au (j:=2) rfl) ⟨rfl,b4 (fun c2=>?_) (fun c2=>?_)⟩) (fun c1=>?_)
 ·refine b4 (fun _=>yes ?_) (fun z=>absurd trivial z)
  rw[Xy (ea.mp c2)]
  exact decide_eq_true c1
 ·have TF:=TF (II.resolve_left fun z=>c2 (ea.mpr z))
  refine b4 (fun c3=>by lia) (fun c3=>b4 (fun z=>by cases z) (fun _=>no ?_))
  rw[TF]
  simpa using c3
 ·refine b4 (fun z=>by cases z) (fun _=>b4 (fun c3=>aI (s5.bD hT) (v:=.str (S sg)) (au (j:=2) rfl) ⟨rfl,b4 (fun c4=>yes ?_) (fun c4=>no ?_)⟩) (fun c3=>b4 (fun z=>by cases z) (fun _=>no ?_)))
  ·rw[TF (eb.mp c4)]
   exact decide_eq_true c3
  ·rw[Xy (II.resolve_right fun z=>c4 (eb.mpr z))]
   simpa using c1
  ·rcases II with z |z
   ·rw[Xy z]
    simpa using c1
   ·rw[TF z]
    simpa using c3
theorem Qu(st:PG.bF):fX st.wd≠Str.ofString "end":=by
 have k:∀w:PG.Wd,w≠.fin->fX w≠Str.ofString "end":=by
  intro w h
  cases w<;>first |exact absurd rfl h |decide +kernel
 exact k _ (by cases st<;>(intro z;cases z))
theorem xG(T:Tx K mg t):bQ P w K mg base fh 5 t.iG t.jc ["chart", "standing"] (Pz K t.aY):=by
 have mn:=qZ (P:=P) (w:=w) (base:=base) T
 have vF:=BF (P:=P) (w:=w) (base:=base) T
 refine T.gD.F.kS qk (fun vs H Q E h=>?_) (fun fD A outer s H vs Q E hr h=>?_)
 ·obtain⟨_,_,_,_,rfl,_⟩:=h
  rfl
 obtain⟨ch,sa,pr,⟨row,vals⟩,rfl,co,dr,oV,si,q⟩:=h
 have nd:=qk.nd
 refine⟨_,[some (.ref ch),some (.ref sa),none,none],(ae (aL (i:=2) nd rfl (Or.inl rfl) (aD aN (pv 1) aj ak))
 (ae (aL (i:=3) nd rfl (Or.inl rfl) (aG mn (hr.mono (by first|decide|omega)) rfl T.dY.m T.dY.F.kp T.dY.b .nil aX (aa (pv 0) (aa (pv 2) ah ag) ag)))
 (ae (bw (aK bT (pv 3) aV (aT _))
 (aq (aU (bJ (aa (aZ (aa aV ah aR)) ah cE))))
 a9)
 (ae (bw (aK iU (pv 3) (aZ (cO (vs:=[.str "if",.str "while"]) (by kernel_rfl))) rfl)
 (aq (aU (bJ (aa (aZ (aa aV (aa (pv 2) ah ag) aR)) (aa (aZ (aa aV (aa (pv 2) (aa (aG vF (hr.mono (by first|decide|omega)) rfl T.g8.m T.g8.F.kp T.g8.b .nil aX (aa (pv 0) (aa (pv 1) ah ag) ag)) ah bM) ag) aR)) ah cE) cE))))
 a9)
 (ae (bw (PW.pt (pw_and (aK bT (pv 3) aV (aT _)) (pw_and1 (Cf (mw (aG vF (hr.mono (by first|decide|omega)) rfl T.g8.m T.g8.F.kp T.g8.b .nil aX (aa (pv 0) (aa (pv 1) ah ag) ag)))))))
 (aq (aU (bJ (aa (aZ (aa aV (aa (pv 2) ah ag) aR)) (aa (aZ (aa aV (aa (pv 2) ah ag) aR)) ah cE) cE))))
 a9)
 (aq (aU (bJ (aa (aZ (aa aV (aa (pv 2) ah ag) aR)) ah cE))))))))),rfl,?_⟩
 obtain⟨va,vi,xi⟩:=id oV
 refine aw fun U1 ff=>?_
 walk_at "rd"
 refine aI vi (v:=.int row) (au (j:=0) rfl) ((ff _ _).mpr (aw fun U2 gI=>?_))
 clear ff
 walk_at "rd"
 refine⟨ch,pr,row,rfl,co,dr.ok.pw,?_⟩
 by_cases h0:row=0
 ·subst h0
  refine .inl ⟨rfl,(gI _ _).mpr (aw fun U3 ik=>?_)⟩
  walk_at "rd"
  intro p hp
  generalize e1:upd H p _=H1
  have s1:=gT e1 hp
  have r1:Rep K H1 (fj .fin) (.ref p):=KU e1 hp (.cons rS .nil)
  intro l hl
  generalize e2:upd H1 l _=H2
  have s2:=gL e2 hl
  refine q l _ _ (s1.trans s2) (s1.free hl) ⟨KW e2,?_⟩
  unfold vk
  rw[if_pos rfl]
  exact .cons (r1.mono s2) .nil
 ·obtain⟨i,hi,rfl⟩:=si.ok.row.resolve_left h0
  refine .inr ⟨h0,i,hi,rfl,(gI _ _).mpr ?_⟩
  clear gI
  have Xz:wF pr.body (PG.az pr.body)[i].row=(PG.az pr.body)[i]:=kF dr.ok.pw i hi
  unfold vk at q
  rw[if_neg h0] at q
  simp only[Xz] at q
  obtain⟨po,so⟩:=zv si.ok.len dr.ok.nb si.ok.small (PG.ja pr.body _ dr.own (List.getElem_mem hi))
  refine aw fun U3 ik=>?_
  walk_at "rd"
  refine b4 (fun z=>absurd z (Qu _)) (fun _=>(ik _ _).mpr (aw fun U4 i7=>?_))
  clear ik
  walk_at "rd"
  intro p5 xn
  refine⟨p5,_,rfl,.inr (.of ai),rfl,rfl,_,rfl,?_⟩
  generalize e5:upd H p5 _=H5
  have s5:=gT e5 xn
  rw[vB]
  by_cases hl:(PG.az pr.body)[i].wd=.ifs\/(PG.az pr.body)[i].wd=.fe
  ·obtain⟨sg,l,r,cp,tl,tr,_⟩:=cond_of (.inr hl) po
   have nm:(PG.az pr.body)[i].wd≠.b8:=by rcases hl with e |e<;>rw[e]<;>decide
   simp only[cp] at q
   rw[if_neg nm] at q
   refine(if_pos (decide_eq_true hl)).mpr fun p6 iQ=>?_
   generalize e6:upd H5 p6 _=H6
   have s6:=gT e6 iQ
   have r6:Rep K H6 (fj (.row (PG.az pr.body)[i].row)) (.ref p6):=KU e6 iQ (.cons rS (.cons NI .nil))
   refine⟨ch,sa,pr,vals,i,hi,sg,l,r,rfl,co.mono (s5.trans s6),dr.ok,oV.mono (s5.trans s6),si.ok.len,cp,tl,tr,fun H7 s7 p8 GY=>?_⟩
   generalize e8:upd H7 p8 _=H8
   have s8:=gT e8 GY
   have r8:Rep K H8 (fj (.side (PG.az pr.body)[i].row (gH sg (wv pr.aC vals l) (wv pr.aC vals r)))) (.ref p8):=KU e8 GY (.cons rS (.cons NI (.cons (Rep.mD.mpr rfl) .nil)))
   intro l9 N6
   generalize e9:upd H8 l9 _=H9
   have s9:=gL e9 N6
   have TH:=s5.trans (s6.trans (s7.trans s8))
   exact q l9 _ _ (TH.trans s9) (TH.free N6) ⟨KW e9,.cons (r6.mono (s7.trans (s8.trans s9))) (.cons (r8.mono s9) .nil)⟩
  ·refine(if_neg (by rw[decide_eq_false hl];exact Bool.false_ne_true)).mpr ((i7 _ _).mpr (aw fun U5 tf=>?_))
   clear i7
   have last:∀H7,av H H7->(∀l us H',av H H'->H l=none->nE K H' l us [.row (PG.az pr.body)[i].row]->Q (.ref l) H')->U5 [some (.ref ch),some (.ref sa),some (.int (PG.az pr.body)[i].row),some (.str (fX (PG.az pr.body)[i].wd))] H7:=by
    intro H7 s7 q
    refine(tf _ _).mpr ?_
    clear tf
    walk_at "rd"
    intro p6 iQ
    generalize e6:upd H7 p6 _=H6
    have s6:=gT e6 iQ
    have r6:Rep K H6 (fj (.row (PG.az pr.body)[i].row)) (.ref p6):=KU e6 iQ (.cons rS (.cons NI .nil))
    intro l9 N6
    generalize e9:upd H6 l9 _=H9
    have s9:=gL e9 N6
    exact q l9 _ _ (s7.trans (s6.trans s9)) ((s7.trans s6).free N6) ⟨KW e9,.cons (r6.mono s9) .nil⟩
   walk_at "rd"
   refine b4 (fun e=>?_) (fun e=>?_)
   ·have ew:=(oC _).mp (congrArg V.str e)
    obtain⟨sg,l,r,cp,tl,tr,_⟩:=cond_of (.inl ew) po
    simp only[cp] at q
    rw[if_pos ew] at q
    refine⟨ch,sa,pr,vals,i,hi,sg,l,r,rfl,co.mono s5,dr.ok,oV.mono s5,si.ok.len,cp,tl,tr,fun H7 s7=>?_⟩
    cases hc:gH sg (wv pr.aC vals l) (wv pr.aC vals r) with
    |true=>
     simp only[hc,if_true] at q
     exact⟨_,rfl,(if_neg (by decide)).mpr (last _ (s5.trans s7) q)⟩
    |false=>
     simp only[hc,Bool.false_eq_true,if_false] at q
     refine⟨_,rfl,(if_pos (by decide)).mpr fun p6 iQ=>?_⟩
     generalize e6:upd H7 p6 _=H6
     have s6:=gT e6 iQ
     have r6:Rep K H6 (fj (.row (PG.az pr.body)[i].row)) (.ref p6):=KU e6 iQ (.cons rS (.cons NI .nil))
     intro p8 GY
     generalize e8:upd H6 p8 _=H8
     have s8:=gT e8 GY
     have r8:Rep K H8 (fj (.b8 (PG.az pr.body)[i].row)) (.ref p8):=KU e8 GY (.cons rS (.cons NI .nil))
     intro l9 N6
     generalize e9:upd H8 l9 _=H9
     have s9:=gL e9 N6
     have TH:=s5.trans (s7.trans (s6.trans s8))
     exact q l9 _ _ (TH.trans s9) (TH.free N6) ⟨KW e9,.cons (r6.mono (s8.trans s9)) (.cons (r8.mono s9) .nil)⟩
   ·have ew:(PG.az pr.body)[i].wd≠.b8:=fun z=>e (V.str.inj ((oC _).mpr z))
    have cn:oH (PG.az pr.body)[i]=none:=by
     generalize (PG.az pr.body)[i]=st at ew hl
     cases st<;>first |rfl |exact absurd rfl ew |exact absurd (.inl rfl) hl |exact absurd (.inr rfl) hl
    simp only[cn] at q
    exact last _ s5 q
theorem GH(T:Tx K mg t):bQ P w K mg base fh 8 t.oS t.pO ["chart", "figures"] (Mv P w K t.aY):=by
 have BN:=zL (P:=P) (w:=w) (base:=base) T
 have zU:=Dw (P:=P) (w:=w) (base:=base) T
 have i8:=vc (P:=P) (w:=w) (base:=base) T
 have zV:=xG (P:=P) (w:=w) (base:=base) T
 refine T.l0.F.kS yG (fun vs H Q E h=>?_) (fun fD A outer s H vs Q E hr h=>?_)
 ·obtain⟨_,_,_,_,rfl,_⟩:=h
  rfl
 obtain⟨ch,fl,pr,aW,rfl,co,dr,hf,BG,BO,q⟩:=h
 have nd:=yG.nd
 have hu:=fE hr
 refine⟨_,[some (.ref ch),some (.ref fl),none,none,none,none],(ae (aL (i:=2) nd rfl (Or.inl rfl) (DX T.zJ BN (hr.mono (by first|decide|omega)) rfl T.My T.BA .nil aX (aa (pv 0) (aa (pv 1) ah ag) ag)))
 (ae (aL (i:=3) nd rfl (Or.inl rfl) (sI (J:=Gm)))
 (ae (aL (i:=4) nd rfl (Or.inl rfl) (sI (J:=vj)))
 (aq (nQ PassesOwn.never (mw uN)
 (ae (fZ PassesOwn.never rfl (dq (aG zV (hr.mono (by first|decide|omega)) rfl T.gD.m T.gD.F.kp T.gD.b .nil aX (aa (pv 0) (aa (da (pv 2) rfl) ah pF) ag))) (bu (i:=5) nd rfl (Or.inl rfl))
 (aq (wH (J:=Gm) (QP hr) (pv 3) (pv 5) uN rfl)))
 (ae (bw (PW.pt (pw_or (aK vx (da (pv 2) rfl) eM (aT _)) (pw_or1 (aK (JD (J:=vj) (QP hr)) (da (pv 2) rfl) (pv 4) rfl))))
 (aq (aU (pv 3)))
 a9)
 (ae (bw (mw (nU (pv 2) T.b6 T.mf i8 (hr.mono (by first|decide|omega)) T.me .nil aX))
 (aq (aL (i:=4) nd rfl (Or.inl rfl) (sI (J:=vj))))
 (aq (wH (J:=vj) (QP hr) (pv 4) (da (pv 2) rfl) uN rfl)))
 (aq (bX (nU (pv 2) T.b6 T.zI zU (hr.mono (by first|decide|omega)) T.zH .nil aX))))))))))),rfl,?_⟩
 have line:sizeLine=2 ^ 24:=rfl
 refine aw fun U1 ff=>?_
 walk_at "rd"
 intro wk dx XA QQ ne
 have s1:av H (upd (upd H dx (.own wk)) wk (.ins t.bZ dx [])):=(av.new QQ _).trans (av.new (by rw[ay ne.symm];exact XA) _)
 refine⟨wk,dx,ch,fl,pr,aW,rfl,ai,co.mono s1,s1.seq hf,fun H1 u1 w1=>⟨rfl,(ff _ _).mpr (aw fun U2 gI=>?_)⟩⟩
 clear ff
 have XB:av H H1:=((bz.of s1).trans u1).same XA
 clear s1 u1
 walk_at "rd"
 intro mt Zm ymt
 refine(gI _ _).mpr (aw fun U3 ik=>?_)
 clear gI
 have UR:=zw (J:=Gm) (P:=P) (w:=w) (K:=K) (H:=H1) ymt
 have sA:=av.new Zm (.ext (kc Gm P w mt []))
 generalize upd H1 mt (.ext (kc Gm P w mt []))=H2 at *
 walk_at "rd"
 intro Q3 MO XC
 refine(ik _ _).mpr ?_
 clear ik
 have US:=zw (J:=vj) (P:=P) (w:=w) (K:=K) (H:=H2) XC
 have sB:=av.new MO (.ext (kc vj P w Q3 []))
 have TJ:mt≠Q3:=by obtain⟨φ,e⟩:=UR.Gr;exact ao e MO
 have UR:=UR.mono sB
 have w3:=w1.mono (sA.trans sB)
 have XD:H mt=none:=XB.free Zm
 have XE:H Q3=none:=(XB.trans sA).free MO
 have sH3:=XB.trans (sA.trans sB)
 generalize upd H2 Q3 (.ext (kc vj P w Q3 []))=H3 at *
 clear sA sB w1
 generalize hN:gP pr=N at *
 refine Dg fun Bd N7=>?_
 walk_at "rd"
 obtain⟨Iv,Kq⟩:∃Iv:Nat->St->Hp->Prop,∀m σ Hx,Iv m σ Hx↔∃(z5:Option V) (n:Nat) (row:Int) (vals:List Int) (e:Option PG.fT) (sn:Addr) (aP:List (List Key×V)) (seen:List PG.gK) (ms:List PG.Tg),σ=[some (.ref ch),some (.ref fl),some (.ref wk),some (.ref mt),some (.ref sn),z5]/\av H Hx/\
  Au K t.aY t.bZ Hx wk ch fl pr aW n row vals e/\DS Gm P w K Hx mt aP/\DS vj P w K Hx sn (lS seen)/\H sn=none/\mt≠sn/\n<=aW.length/\iE pr (row,vals)/\seen.Nodup/\(∀x∈seen,iE pr x)/\(∀g,(cH aP (qj g)).isSome=true↔g∈ms)/\
  PG.MI (fo pr.body) (eY pr) (vk pr) ((PG.bg pr.body 0,pr.aC.map (·.first)),aW) ms seen ((row,vals),aW.drop n)/\(e≠none->PG.rA (fo pr.body) (eY pr) ((row,vals),aW.drop n)=none)/\(e=none->row≠0)/\aP.length+2*m<=8000000/\m=muM N (aW.length-n) seen.length e:=⟨_,fun _ _ _=>Iff.rfl⟩
 refine⟨Iv,⟨_,(Kq _ _ _).mpr ⟨_,0,_,_,_,Q3,[],[],[],rfl,sH3,w3,UR,US,XE,TJ,Nat.zero_le _,iE.first dr,List.nodup_nil,fun x hx=>(by cases hx),fun g=>⟨fun z=>(by cases z),fun z=>(by cases z)⟩,PG.MI.start,fun z=>?_,fun z=>?_,?_,rfl⟩⟩,?_⟩
 ·refine PG.wJ ?_
  unfold PG.endAt at z
  split at z
  ·assumption
  ·exact absurd rfl z
 ·unfold PG.endAt at z
  split at z
  ·cases z
  ·assumption
 ·have k1:(aW.length+2)*(N+2)=aW.length*(N+1)+aW.length+2*(N+2):=by rw[Nat.add_mul,Nat.mul_succ aW.length (N+1)]
  cases PG.endAt (PG.bg pr.body 0)<;>simp only[muM,List.length_nil]<;>lia
 intro m σ Hx hv
 obtain⟨z5,n,row,vals,e,sn,aP,seen,ms,rfl,sx,wo,dm,US,MO,TJ,hn,si,ns,sin,hin,mi,he,B7,hk,rfl⟩:=(Kq _ _ _).mp hv
 clear hv
 obtain⟨dx,sa,ev,hw,oV,Q4⟩:=wo.at_
 walk_at "rd"
 refine⟨fun σ' H'=>∃m',m'<muM N (aW.length-n) seen.length e/\Iv m' σ' H',fun σ' H' h=>h,?_⟩
 refine N7 _ _ _ (aw fun V1 GD=>?_)
 clear N7
 refine iy fun U hU=>?_
 walk_at "rd"
 refine⟨wk,_,dx,_,.ref sa,rfl,hw,T.b6,T.bS,rfl,ch,sa,pr,(row,vals),rfl,wo.SI,dr,oV,si,fun l4 XF H4 s4 hl4 Q5=>⟨l4,rfl,⟨XF,.of Q5.1⟩,hU _ _ ?_⟩⟩
 clear hU
 have lt:=EY pr (row,vals)
 have NN:XF.length=(vk pr (row,vals)).length:=by rw[Q5.2.length,List.length_map]
 have XG:=dm.mono s4
 obtain⟨φ4,TK⟩:=XG.Gr
 have n4:l4≠mt:=cR Q5.1 TK (by intro z;cases z)
 obtain⟨Pv,hX⟩:∃Pv:Nat->St->Hp->Prop,∀i σ H5,Pv i σ H5↔∃(z5:Option V) (GI:List (List Key×V)),σ=[some (.ref ch),some (.ref fl),some (.ref wk),some (.ref mt),some (.ref sn),z5]/\bz mt H4 H5/\DS Gm P w K H5 mt GI/\GI.length<=aP.length+i/\(∀g,(cH GI (qj g)).isSome=true↔g∈ms\/g∈(vk pr (row,vals)).take i):=⟨_,fun _ _ _=>Iff.rfl⟩
 refine ip (K:=K) (a:=l4) (xs:=XF) Pv ((hX _ _ _).mpr ⟨_,aP,rfl,.refl _ _,XG,Nat.le_refl _,fun g=>by rw[hin];simp⟩) (fun i σ H5 _ hv=>?_) ?_ ?_
 ·obtain⟨_,_,_,u5,_⟩:=(hX _ _ _).mp hv
  exact .of (u5 _ _ n4 Q5.1)
 ·intro i y σ H5 hi hv
  obtain⟨z5,GI,rfl,u5,d5,l5,i5⟩:=(hX _ _ _).mp hv
  clear hv
  have li:i<(vk pr (row,vals)).length:=by have:=(List.getElem?_eq_some_iff.mp hi).1;lia
  obtain⟨y',Ui,ry⟩:=Q5.2.get (i:=i) (d:=fj (vk pr (row,vals))[i]) (by rw[List.getElem?_map,List.getElem?_eq_getElem li];rfl)
  rw[hi] at Ui
  cases Ui
  obtain⟨a,rfl,oa⟩:=NL ry
  have oa5:=Gm.up (fun b ys q=>c5.JO q TK u5) oa
  simp only[fC,List.set]
  walk_at "rd"
  refine⟨mt,a,GI,_,rfl,rfl,d5,oa5,by lia,fun H6 d6 e6=>(hX _ _ _).mpr ⟨_,_,rfl,?_,d6,Nat.le_trans (jh _ _ _) (by lia),fun g=>?_⟩⟩
  ·obtain⟨φ,rfl⟩:=e6
   exact u5.put _
  ·rw[nX,List.take_succ_eq_append_getElem li]
   by_cases eg:qj g=qj (vk pr (row,vals))[i]
   ·rw[if_pos eg,Gq eg]
    exact⟨fun _=>.inr (List.mem_append_right _ (List.mem_singleton.mpr rfl)),fun _=>rfl⟩
   ·have ng:g≠(vk pr (row,vals))[i]:=fun z=>eg (by rw[z])
    rw[if_neg eg,i5,List.mem_append,List.mem_singleton]
    exact⟨fun h=>h.imp_right .inl,fun h=>h.imp_right fun h=>h.resolve_right ng⟩
 intro σ H5 hv
 obtain⟨z5',GI,rfl,u5,d5,l5,i5⟩:=(hX _ _ _).mp hv
 clear hv hX Pv
 have l5:GI.length<=aP.length+2:=by lia
 rw[NN,List.take_length] at i5
 have i5:∀g,(cH GI (qj g)).isSome=true↔g∈ms++vk pr (row,vals):=fun g=>by rw[i5,List.mem_append]
 have hm:∀g,g∈ms++vk pr (row,vals)↔g∈ms\/g∈vk pr (row,vals):=fun g=>List.mem_append
 have s5:av H H5:=fun z o e=>u5 z o (ao e XD) (s4 _ _ (sx z o e))
 have QW:=(wo.mono s4).ext TK u5 (co.mono s5) (s5.seq hf)
 have XH:=(US.mono s4).other TK TJ.symm u5
 clear u5 Q5 hl4 wo dm XG TK US oV hw Q4 sx s4 NN
 refine(GD _ _).mpr (aw fun V2 GF=>?_)
 clear GD
 obtain⟨dx,sa,ev,hw,oV,Q4⟩:=QW.at_
 walk_at "rd"
 refine⟨wk,_,dx,_,ev,rfl,hw,T.b6,T.gx,rfl,?_⟩
 cases e with
 |some e0=>
  obtain⟨ea,rfl,hea⟩:=Q4
  refine b4 (fun z=>by cases z) (fun _=>?_)
  exact q mt GI H5 s5 d5 fun g=>(i5 g).trans (mi.fin hm (.inl (he (by simp))) g)
 |none=>
  have Q4:ev=.ck:=Q4
  subst Q4
  refine b4 (fun _=>?_) (fun z=>absurd rfl z)
  refine⟨wk,_,dx,_,.ref sa,rfl,hw,T.b6,T.bS,rfl,sn,sa,_,_,rfl,rfl,XH,EW (s:=(row,vals)) oV,?_⟩
  rw[wK]
  by_cases hs:(row,vals)∈seen
  ·refine(if_pos (decide_eq_true hs)).mpr ?_
   exact q mt GI H5 s5 d5 fun g=>(i5 g).trans (mi.fin hm (.inr hs) g)
  refine(if_neg (by rw[decide_eq_false hs];exact Bool.false_ne_true)).mpr ((GF _ _).mpr (aw fun V3 K6=>?_))
  clear GF
  have h0:=B7 rfl
  have gn:=PG.Mo (ask:=fo pr.body) (step:=eY pr) (fun r v f=>Bu r v f) (row:=row) (vals:=vals) (left:=aW.drop n) h0
  have Zn:(seen++[(row,vals)]).Nodup:=List.nodup_append.mpr ⟨ns,by simp,fun a ha b hb=>by rw[List.mem_singleton.mp hb];exact fun z=>hs (z▸ha)⟩
  have TL:∀x∈seen++[(row,vals)],iE pr x:=fun x hx=>by
   rcases List.mem_append.mp hx with hx |hx
   ·exact sin x hx
   ·rw[List.mem_singleton.mp hx];exact si
  have tS:=sJ Zn TL
  rw[hN,List.length_append,List.length_singleton] at tS
  have rest:∀(Kr:Addr) (tG:List PG.gK) (H6:Hp),av H H6->Au K t.aY t.bZ H6 wk ch fl pr aW n row vals none->DS Gm P w K H6 mt GI->DS vj P w K H6 Kr (lS tG)->H Kr=none->mt≠Kr->tG.Nodup->(∀x∈tG,iE pr x)->
   (∀s',PG.rA (fo pr.body) (eY pr) ((row,vals),aW.drop n)=some s'\/PG.rA (fo pr.body) (eY pr) ((row,vals),aW.drop n)=none/\s'=((row,vals),aW.drop n)->PG.MI (fo pr.body) (eY pr) (vk pr) ((PG.bg pr.body 0,pr.aC.map (·.first)),aW) (ms++vk pr (row,vals)) tG s')->
   (∀L' e',(fo pr.body row=true->L'<aW.length-n)->(fo pr.body row=false->L'=aW.length-n)->muM N L' tG.length e'<muM N (aW.length-n) seen.length none)->
   V3 [some (.ref ch),some (.ref fl),some (.ref wk),some (.ref mt),some (.ref Kr),z5'] H6:=by
   intro Kr tG H6 s6 Zo dm6 ds6 Zp UT Zq Zr Zs Zt
   refine(K6 _ _).mpr ?_
   clear K6
   obtain⟨dx6,sa6,ev6,XI,MP,acJ⟩:=Zo.at_
   walk_at "rd"
   refine⟨wk,dx6,_,rfl,XI,rfl,wk,ch,fl,pr,aW,n,row,vals,rfl,dr,Zo,h0,si.ok,hn,BG,fun H8 n' u8 Oe hd XJ ok8=>?_⟩
   have s8:av H H8:=fun z o e=>u8 z o (ao e XA) (s6 z o e)
   have Zu:=dm6.ins XI u8
   have Zv:=ds6.ins XI u8
   have done:=fun k σ H9=>(Kq k σ H9).mpr
   have hd2:((wG pr row vals (aW.drop n)).2.1).length=aW.length-n':=by rw[<- hd,List.length_drop]
   have eL:(aW.drop n).length=aW.length-n:=List.length_drop ..
   change (PG.rA _ _ _=some (((wG pr row vals (aW.drop n)).2.2.1,(wG pr row vals (aW.drop n)).2.2.2.1),(wG pr row vals (aW.drop n)).2.1)/\(wG pr row vals (aW.drop n)).2.2.2.2=PG.endAt (wG pr row vals (aW.drop n)).2.2.1/\(_->(wG pr row vals (aW.drop n)).2.1.length<_)/\(_->(wG pr row vals (aW.drop n)).2.1=_))\/(_/\(((wG pr row vals (aW.drop n)).2.2.1,(wG pr row vals (aW.drop n)).2.2.2.1),(wG pr row vals (aW.drop n)).2.1)=_/\∃e,(wG pr row vals (aW.drop n)).2.2.2.2=some e) at gn
   generalize wG pr row vals (aW.drop n)=g at *
   obtain⟨g1,g2,g3,g4,g5⟩:=g
   simp only at hd XJ ok8 gn hd2
   subst hd
   rcases gn with ⟨nx,rfl,a1,a2⟩ |⟨nx,es,x,rfl⟩
   ·have b1:fo pr.body row=true->aW.length-n'<aW.length-n:=fun z=>by
     have:=a1 z
     rw[hd2,eL] at this
     exact this
    have b2:fo pr.body row=false->aW.length-n'=aW.length-n:=fun z=>by
     have:=congrArg List.length (a2 z)
     rw[hd2,eL] at this
     exact this
    refine⟨muM N (aW.length-n') tG.length (PG.endAt g3),Zt _ _ b1 b2,done _ _ _ ⟨_,n',g3,g4,PG.endAt g3,Kr,GI,tG,_,rfl,s8,XJ,Zu,Zv,Zp,UT,Oe,si.nx dr nx,Zq,Zr,i5,Zs _ (.inl nx),fun z=>?_,fun z=>?_,?_,rfl⟩⟩
    ·refine PG.wJ ?_
     unfold PG.endAt at z
     split at z
     ·assumption
     ·exact absurd rfl z
    ·unfold PG.endAt at z
     split at z
     ·cases z
     ·assumption
    ·have:=Zt (aW.length-n') (PG.endAt g3) b1 b2
     lia
   ·have es1:(g3,g4)=(row,vals):=congrArg Prod.fst es
    cases es1
    have UD:aW.drop n'=aW.drop n:=congrArg Prod.snd es
    refine⟨0,by simp only[muM];lia,done _ _ _ ⟨_,n',row,vals,some x,Kr,GI,tG,_,rfl,s8,XJ,Zu,Zv,Zp,UT,Oe,si,Zq,Zr,i5,Zs _ (.inr ⟨nx,es⟩),fun _=>by rw[UD];exact nx,fun z=>(by cases z),?_,rfl⟩⟩
    simp only[muM] at hk ⊢
    lia
  obtain⟨i,hi,er⟩:=si.ok.row.resolve_left h0
  subst er
  have ea:fo pr.body (PG.az pr.body)[i].row=decide ((PG.az pr.body)[i].wd=.ask):=by unfold fo;rw[kF dr.ok.pw i hi]
  walk_at "rd"
  refine⟨wk,dx,_,rfl,hw,rfl,wk,ch,fl,pr,aW,n,vals,none,i,hi,rfl,dr.ok,QW,?_⟩
  refine⟨_,rfl,b4 (fun e=>?_) (fun e=>?_)⟩
  ·rw[<- ea] at e
   intro Kr Qv XM
   have d6:=zw (J:=vj) (P:=P) (w:=w) (K:=K) (H:=H5) XM
   have s6:=av.new Qv (.ext (kc vj P w Kr []))
   have UT:mt≠Kr:=by obtain⟨φ,z⟩:=d5.Gr;exact ao z Qv
   exact rest Kr [] _ (s5.trans s6) (QW.mono s6) (d5.mono s6) d6 (s5.free Qv) UT List.nodup_nil (fun x hx=>by cases hx) (fun s' XN=>mi.asked hm XN) fun L' e' h1 _=>Ms (h1 e) e'
  ·rw[<- ea] at e
   have e:fo pr.body (PG.az pr.body)[i].row=false:=by simpa using e
   obtain⟨φ5,Zw⟩:=XH.Gr
   refine⟨wk,_,dx,_,.ref sa,rfl,hw,T.b6,T.bS,rfl,sn,sa,_,_,rfl,rfl,XH,EW (s:=((PG.az pr.body)[i].row,vals)) oV,?_,fun H6 d6 e6=>?_⟩
   ·have:=sJ ns sin
    rw[lS,List.length_map]
    rw[hN] at this
    have k1:N+2<=(aW.length+2)*(N+2):=Nat.le_mul_of_pos_left _ (by lia)
    lia
   ·rw[yF hs] at d6
    obtain⟨φ,rfl⟩:=e6
    have u6:bz sn H5 (upd H5 sn (.ext φ)):=(bz.refl _ _).put _
    have s6:av H (upd H5 sn (.ext φ)):=fun z o e=>u6 z o (ao e MO) (s5 z o e)
    refine rest sn _ _ s6 (QW.ext Zw u6 (co.mono s6) (s6.seq hf)) (d5.other Zw TJ u6) d6 MO TJ Zn TL (fun s' XN=>mi.go hm XN h0 e) fun L' e' _ h2=>?_
    rw[h2 e,List.length_append,List.length_singleton]
    exact Px tS e'
theorem Ks(T:Tx K mg t)(eK:bQ P w K mg base fh 1 t.eA t.eB ["body", "behind"] (sF K))(fJ:bQ P w K mg base fh 6 t.cA t.cD ["body"] (pL K 4))(wY:bQ P w K mg base fh 7 t.qW t.pN ["program"] (C2 K)) :
 bQ P w K mg base fh 10 t.sU t.sV ["program", "figures", "target"] (Mw K):=by
 have zW:=xy (P:=P) (w:=w) (base:=base) T eK fJ wY
 have Kt:=GH (P:=P) (w:=w) (base:=base) T
 refine T.pP.F.kS Bz (fun vs H Q E h=>?_) (fun fD A outer s H vs Q E hr h=>?_)
 ·obtain⟨_,_,_,_,_,_,rfl,_⟩:=h
  rfl
 obtain⟨v,fl,tv,pr,aW,tg,rfl,dr,rp,hf,BG,BO,rt,q⟩:=h
 have nd:=Bz.nd
 refine⟨_,[some v,some (.ref fl),some tv],(aq (aU (gX (JD (J:=Gm) (QP hr)) (pv 2) (aG Kt (hr.mono (by first|decide|omega)) rfl T.l0.m T.l0.F.kp T.l0.b .nil aX (aa (DX T.wW zW (hr.mono (by first|decide|omega)) rfl T.JT T.zG .nil aX (aa (pv 0) ah ag)) (aa (pv 1) ah ag) bM)) rfl))),rfl,?_⟩
 obtain⟨ta,rfl,ot⟩:=NL rt
 walk_at "rd"
 intro p dx hp QQ ne
 have s1:av H (upd (upd H dx (.own p)) p (.ins t.aY dx [])):=(av.new QQ _).trans (av.new (by rw[ay ne.symm];exact hp) _)
 refine⟨p,dx,v,pr,rfl,ai,by rw[ay ne];exact ai,rp.mono s1,dr.dep,dr.tS,dr.ok.pw,dr.ok.nb,dr.ok.tS,fun H2 u2 co=>⟨rfl,?_⟩⟩
 have s2:av H H2:=((bz.of s1).trans u2).same hp
 refine⟨p,fl,pr,aW,rfl,co,dr,s2.seq hf,BG,BO,fun d aP H3 s3 d3 i3=>?_⟩
 refine⟨d,ta,aP,_,rfl,rfl,d3,Gm.up (fun b ys q=>(s2.trans s3).bD q) ot,?_⟩
 exact q _ H3 (s2.trans s3) (i3 tg)
theorem zX(T:Tx K mg t):bQ P w K mg base fh 8 t.jt t.jU ["program", "rows"] (PB K):=by
 have BP:=MM (P:=P) (w:=w) (base:=base) T
 have oX:=Ff (P:=P) (w:=w) (base:=base) T
 have pS:=NZ (P:=P) (w:=w) (base:=base) T
 have iO:=BM (P:=P) (w:=w) (base:=base) T 4
 refine T.ib.F.kS sQ (fun vs H Q E h=>?_) (fun fD A outer s H vs Q E hr h=>?_)
 ·obtain⟨_,_,_,_,_,_,rfl,_⟩:=h
  rfl
 obtain⟨pa,R,Dk,dys,pr,rows,rfl,UU,dr,rp,rr,lr,tx,q⟩:=h
 have nd:=sQ.nd
 have hu:=fE hr
 refine⟨_,[some (.ref pa),some (.ref R),none,none,none,none,none],(ae (aL (i:=2) nd rfl (Or.inl rfl) vS)
 (ae (fZ PassesOwn.never rfl (dq (aG BP (hr.mono (by first|decide|omega)) rfl T.ia.m T.ia.F.kp T.ia.b .nil aX (aa (pv 1) ah ag))) (Hc rfl (c6 (bu (i:=3) nd rfl (Or.inl rfl)) (c6 (bu (i:=4) nd rfl (Or.inl rfl)) (c6 (bu (i:=5) nd rfl (Or.inl rfl)) pz))))
 (aq (mB hu (pv 2) (pv 3) (pv 5) rfl)))
 (ae (aL (i:=6) nd rfl (Or.inl rfl) (aZ (aa (aG pS (hr.mono (by first|decide|omega)) rfl T.dZ.m T.dZ.F.kp T.dZ.b .nil aX (aa (pv 1) (aa (aG oX (hr.mono (by first|decide|omega)) rfl T.eJ.m T.eJ.F.kp T.eJ.b .nil aX (aa (pv 1) ah ag)) (aa aj ah aR) bM) ag)) (aa (fK kR rfl T.sW PyProof.Rows.Boot.«tuple» (aa (jO (own:=["box"]) (ix:=[]) rfl (by rfl) (by rfl) (dq (aD aN (pv 0) aj ak)) (fun _ _ _ _=>(bu (i:=0) (by show List.Nodup (["box"]:List Str);decide +kernel) rfl (Or.inl rfl))) (fun _ _ _ _=>i9) (fun _ _ _ _=>(aD (jb (K:=K) rfl) (pv 0) aj ak))) ah kB)) ah bM) bM)))
 (aq (aU (bJ (aa (aD aN (pv 0) aj ak) (aa (aG iO (hr.mono (by first|decide|omega)) rfl T.b5.m T.b5.F.kp T.b5.b .nil aX (aa (aD aN (pv 0) aj ak) ah ba)) (aa (pv 2) (aa (pv 6) ah ag) ag) bM) ba))))))),rfl,?_⟩
 have line:sizeLine=2 ^ 24:=rfl
 unfold iZ at rp
 rw[Rep.bq] at rp
 obtain⟨_,pxs,e,KZ,Dr⟩:=rp
 cases e
 rw[aQ.aJ] at Dr
 obtain⟨v1,t1,rfl,Mz,Dr⟩:=Dr
 rw[aQ.aJ] at Dr
 obtain⟨v2,t2,rfl,QR,Dr⟩:=Dr
 rw[aQ.br] at Dr
 subst Dr
 obtain⟨bb,_,rfl,_⟩:=Rep.bI.mp QR
 obtain⟨B,_,rfl,_⟩:=Rep.bI.mp Mz
 have KZ:=uj.bD KZ
 have TM:=Mz
 have Mz:=TM.mono uj
 have pw:=dr.ok.pw
 have tS:=dr.tS
 have NN:(PG.aS pr.body 0).length=(PG.az pr.body).length:=by
  have h1:=congrArg List.length (PG.c9 pr.body 0)
  have h2:=lK pr.body
  rw[List.length_map] at h1
  lia
 have sl:=lK pr.body
 refine aw fun U1 ff=>?_
 walk_at "rd"
 intro wy XO
 refine(ff _ _).mpr (aw fun U2 gI=>?_)
 clear ff
 have s1:=av.new XO (.dK [])
 have Zx:(upd H wy (.dK [])) wy=some (.dK []):=ai
 generalize upd H wy (.dK [])=H1 at *
 refine iy fun U hU=>?_
 walk_at "rd"
 refine⟨R,rows,pr.body,rfl,rr.mono s1,lr,tx,fun l2 EJ H2 s2 CD y2 r2=>⟨l2,rfl,⟨EJ,.of y2⟩,hU _ _ ?_⟩⟩
 clear hU
 have XQ:=s2 _ _ Zx
 have nl2:l2≠wy:=fun z=>by rw[z,Zx] at CD;cases CD
 have lu2:EJ.length=(PG.aS pr.body 0).length:=by rw[r2.length,List.length_map]
 obtain⟨Pv,hX⟩:∃Pv:Nat->St->Hp->Prop,∀i σ Hx,Pv i σ Hx↔∃(z3 z4 z5:Option V) (aP:List (Key×V)),σ=[some (.ref pa),some (.ref R),some (.ref wy),z3,z4,z5,none]/\bz wy H2 Hx/\Hx wy=some (.dK aP)/\aP.length<=i/\∀j (hj:j<(PG.aS pr.body 0).length),j<i->∃y,cH aP (.inl (PG.aS pr.body 0)[j].1)=some (.ref y)/\c5 K H2 y ((PG.aS pr.body 0)[j].2.2.map V.int):=⟨_,fun _ _ _=>Iff.rfl⟩
 refine ip (K:=K) (a:=l2) (xs:=EJ) Pv ((hX _ _ _).mpr ⟨_,_,_,[],rfl,.refl _ _,XQ,Nat.le_refl _,fun j _ z=>absurd z (Nat.not_lt_zero _)⟩) (fun i σ Hx _ hv=>?_) ?_ ?_
 ·obtain⟨_,_,_,_,_,ux,_⟩:=(hX _ _ _).mp hv
  exact .of (ux _ _ nl2 y2)
 ·intro i y σ Hx hi hv
  obtain⟨z3,z4,z5,aP,rfl,ux,wyx,lk,get⟩:=(hX _ _ _).mp hv
  clear hv
  have li:i<(PG.aS pr.body 0).length:=by have:=(List.getElem?_eq_some_iff.mp hi).1;lia
  obtain⟨ya,yp,rfl,hx,hp⟩:=Bi r2 hi li
  refine⟨ya,_,rfl,hx.dk XQ ux,rfl,_,_,rfl,_,_,rfl,_,_,rfl,rfl,?_⟩
  simp only[List.set]
  walk_at "rd"
  refine⟨wy,_,rfl,.inl ⟨aP,.inl (PG.aS pr.body 0)[i].1,wyx,rfl,by lia,rfl⟩,?_⟩
  refine(hX _ _ _).mpr ⟨_,_,_,_,rfl,ux.put _,ai,Nat.le_trans (sG _ _ _) (by lia),fun j hj lt=>?_⟩
  rw[nX]
  by_cases e:j=i
  ·subst e
   rw[if_pos rfl]
   exact⟨yp,rfl,hp⟩
  ·obtain⟨_,e1,_⟩:=gO pr.body j (by lia)
   obtain⟨_,e2,_⟩:=gO pr.body i (by lia)
   have:=List.pairwise_iff_getElem.mp pw j i (by lia) (by lia) (by lia)
   rw[if_neg (fun z=>by have z:=Sum.inl.inj z;lia)]
   exact get j hj (by lia)
 intro σ H3 hv
 obtain⟨z3,z4,z5,aP,rfl,u3,wy3,_,get⟩:=(hX _ _ _).mp hv
 clear hv
 rw[lu2] at get
 have s3:av H H3:=fun z o e=>u3 z o (ao e XO) (s2 _ _ (s1 _ _ e))
 refine(gI _ _).mpr (aw fun U4 i7=>?_)
 clear gI
 walk_at "rd"
 simp only[kA]
 walk_at "rd"
 refine⟨R,rows,pr.body,rfl,rr.mono s3,lr,tx,fun d5 H5 Zy=>?_⟩
 have s5:av H3 H5:=by obtain⟨_,_,mi⟩:=Zy;exact mi.s
 refine⟨R,d5,rows,pr.body,H3,0,rfl,rr.mono (s3.trans s5),lr,tx,Zy,?_⟩
 have UW:=s3.trans s5
 obtain⟨UQ,hB,lB,hbx⟩:=mh Mz
 have XR:=dr.ok.tS
 refine aI (UW.bD KZ) (v:=.ref B) (au (j:=0) rfl) ⟨B,rfl,⟨_,UW.seq hB⟩,fun D6 QS=>?_⟩
 refine j3 (K:=K) (r:=[]) (fun i=>V.int (pr.aC.getD i ⟨[],0,0⟩).first) (UW.seq hB) (by lia) QS (fun i x H2 hx s2 R hR=>?_) (fun H6 s6 h6=>?_)
 ·obtain⟨a,rfl,ha⟩:=hbx i x hx
  walk_at "rd"
  exact aI ((UW.trans s2).bD ha) (v:=.int (pr.aC.getD i ⟨[],0,0⟩).first) (au (j:=2) rfl) hR
 rw[lB,i0 (fun b:PG.fV=>V.int b.first) ⟨[],0,0⟩ pr.aC] at h6
 refine⟨D6,_,rfl,.inl ⟨.of h6,fun t6 ht6 p6 iQ=>(i7 _ _).mpr ?_⟩⟩
 clear i7
 have e6:(pr.aC.map fun b=>V.int b.first)=(pr.aC.map (·.first)).map V.int:=by rw[List.map_map];rfl
 rw[e6] at iQ ⊢
 rw[PG.IT tx]
 have Zz:=av.new ht6 (.tup ((pr.aC.map (·.first)).map V.int))
 have XS:=av.new iQ (.tup [V.int (PG.bg pr.body 0),V.ref t6])
 have ZA:=s5.trans (s6.trans (Zz.trans XS))
 have XT:df K (upd (upd H6 t6 (.tup ((pr.aC.map (·.first)).map V.int))) p6 (.tup [V.int (PG.bg pr.body 0),V.ref t6])) p6 (PG.bg pr.body 0) (pr.aC.map (·.first)):=⟨t6,.of ai,XS.bD (.of ai)⟩
 clear Zz XS
 generalize upd (upd H6 t6 (.tup ((pr.aC.map (·.first)).map V.int))) p6 (.tup [V.int (PG.bg pr.body 0),V.ref t6])=HB at *
 have Q6:=s3.trans ZA
 walk_at "rd"
 refine aI (Q6.bD KZ) (v:=.ref B) (au (j:=0) rfl) (aI (Q6.bD KZ) (v:=.ref bb) (au (j:=1) rfl) ⟨bb,pr.body,nL Dk H,rfl,uj.trans Q6,QR,by have:=dr.dep;lia,by lia,pw,fun d8 us8 H8 s8 hd8 l8 y8 r8 md Qw=>?_⟩)
 generalize e9:upd H8 md _=H9
 have s9:=gL e9 Qw
 have Qx:=Q6.trans (s8.trans s9)
 have ZC:=ZA.trans (s8.trans s9)
 have ZD:=Gu (D:=Dk) Qx
 have MA:=Qx _ _ UU
 have nmd:md≠Dk:=(ao ((Q6.trans s8) _ _ UU) Qw).symm
 have nd8:d8≠Dk:=(ao (Q6 _ _ UU) hd8).symm
 have nwy:wy≠Dk:=(ao UU XO).symm
 refine q md H9 Qx ⟨⟨B,d8,wy,p6,us8,aP,.of (by rw[mO nmd];exact KW e9),TM.mono ZD,by rw[mO nd8];exact s9 _ _ y8,l8,r8.mono ZD,by rw[mO nwy];exact ZC _ _ wy3,fun i hi=>?_,(XT.mono (s8.trans s9)).nL MA⟩⟩
 obtain⟨y,e,k⟩:=get i hi hi
 exact⟨y,e,(ZC.bD (k.dk XQ u3)).nL MA⟩
theorem iS(T:Tx K mg t):bQ P w K mg base fh 5 t.c8 t.dR ["made", "standing", "figure"] (Bw K):=by
 have xa:=vo (P:=P) (w:=w) (base:=base) T
 refine T.bK.F.kS iR (fun vs H Q E h=>?_) (fun fD A outer s H vs Q E hr h=>?_)
 ·obtain⟨_,_,_,_,_,_,rfl,_⟩:=h
  rfl
 obtain⟨md,sa,fv,pr,⟨row,vals⟩,f,rfl,ma,dr,oV,si,h0,PN,q⟩:=h
 have nd:=iR.nd
 have hu:=fE hr
 refine⟨_,[some (.ref md),some (.ref sa),some fv,none],(ae (aL (i:=3) nd rfl (Or.inl rfl) (aD aN (pv 1) aj ak))
 (aq (aU (aD aN (aG xa (hr.mono (by first|decide|omega)) rfl T.eZ.m T.eZ.F.kp T.eZ.b .nil aX (aa (aD bf (pv 0) aj ak) (aa (cm hu (aD bf (pv 0) aj ak) (pv 3) (fun _ _=>rfl)) (aa (cm hu (aD bf (pv 0) aj ak) (pv 3) (fun _ _=>rfl)) (aa (aD aN (pv 1) aj ak) (aa (pv 2) ah ag) ba) ba) ba) ba)) aj ak)))),rfl,?_⟩
 obtain⟨i,hi,rfl⟩:=si.ok.row.resolve_left h0
 obtain⟨hf,ek,ew⟩:=gO pr.body i hi
 obtain⟨w0,w1⟩:=PG.iY pr.body 0 _ (List.getElem_mem hf)
 rw[ew] at w1
 obtain⟨po,so⟩:=zv si.ok.len dr.ok.nb si.ok.small (PG.ja pr.body _ dr.own (List.getElem_mem hi))
 have bp:∀b∈pr.aC,0<b.size:=fun b hb=>by have:=dr.size b hb;lia
 obtain⟨B,d8,wy,fa,ta,y,us,ys,aP,h1,h2,h3,g3,rt,Mu,h6,g6,hy⟩:=ma.row dr.ok hi hf
 obtain⟨va,vi,xi⟩:=id oV
 have XU:(PG.az pr.body)[i].wd=.ask->fv=.int f:=fun e=>PN (by unfold fo;rw[kF dr.ok.pw i hi];exact decide_eq_true e)
 simp only[Bt dr.ok hi hf] at q
 refine aw fun U1 ff=>?_
 walk_at "rd"
 refine aI vi (v:=.int (PG.az pr.body)[i].row) (au (j:=0) rfl) ((ff _ _).mpr ?_)
 clear ff
 walk_at "rd"
 refine bC h1 (v:=.ref B) (au (j:=0) rfl) (bC h1 (v:=.ref d8) (au (j:=1) rfl) ⟨d8,_,rfl,.inl ⟨_,.inl (PG.az pr.body)[i].row,.inl h3,rfl,g3.symm⟩,bC h1 (v:=.ref wy) (au (j:=2) rfl) ⟨wy,_,rfl,.inl ⟨_,.inl (PG.az pr.body)[i].row,.inl h6,rfl,g6.symm⟩,aI vi (v:=.ref va) (au (j:=1) rfl) ?_⟩⟩)
 refine⟨B,ta,y,va,fv,pr.aC,(PG.az pr.body)[i],(PG.aS pr.body 0)[i].2.2,vals,f,rfl,h2,rt,hy,xi,dr.ok.nb,dr.ok.tS,bp,si.ok.len,XU,po,so,w0,w1,fun q1 sv H1 s1 k1 o1=>?_⟩
 exact aI k1 (v:=sv) (au (j:=0) rfl) (q sv H1 s1 o1)
theorem oY(T:Tx K mg t):bQ P w K mg base fh 1 t.gS t.iL ["made", "standing"] (Mx K):=by
 refine T.cY.F.kS oR (fun vs H Q E h=>?_) (fun fD A outer s H vs Q E hr h=>?_)
 ·obtain⟨_,_,_,_,rfl,_⟩:=h
  rfl
 obtain⟨md,sa,pr,⟨row,vals⟩,rfl,ma,dr,oV,si,q⟩:=h
 have nd:=oR.nd
 have hu:=fE hr
 refine⟨_,[some (.ref md),some (.ref sa)],(aq (aU (Cg (gX Hl (aD aN (pv 1) aj ak) aj (aT _)) (yT (gX bT (aD aN (cm hu (aD bf (pv 0) aj ak) (aD aN (pv 1) aj ak) (fun _ _=>rfl)) aj ak) aV (aT _)))))),rfl,?_⟩
 obtain⟨va,vi,xi⟩:=id oV
 walk_at "rd"
 refine aI vi (v:=.int row) (au (j:=0) rfl) ⟨rfl,?_⟩
 by_cases h0:row=0
 ·subst h0
  rw[Bv dr.ok] at q
  exact(if_pos rfl).mpr q
 ·obtain⟨i,hi,rfl⟩:=si.ok.row.resolve_left h0
  obtain⟨hf,ek,ew⟩:=gO pr.body i hi
  obtain⟨B,d8,wy,fa,ta,y,us,ys,aP,h1,h2,h3,g3,rt,Mu,h6,g6,hy⟩:=ma.row dr.ok hi hf
  unfold fo at q
  rw[kF dr.ok.pw i hi] at q
  refine(if_neg (fun z=>h0 (V.int.inj z))).mpr (bC h1 (v:=.ref d8) (au (j:=1) rfl) (aI vi (v:=.int (PG.az pr.body)[i].row) (au (j:=0) rfl) ⟨d8,_,rfl,.inl ⟨_,.inl (PG.az pr.body)[i].row,.inl h3,rfl,g3.symm⟩,aI Mu (v:=.str (fX (PG.az pr.body)[i].wd)) (au (j:=0) rfl) ⟨rfl,?_⟩⟩))
  have e:decide (V.str (fX (PG.az pr.body)[i].wd)=V.str (Str.ofString "ask"))=decide ((PG.az pr.body)[i].wd=.ask):=decide_eq_decide.mpr ⟨fun z=>(Dt _).mp (V.str.inj z),fun z=>congrArg V.str ((Dt _).mpr z)⟩
  rw[e]
  exact q
theorem Ku:∀w:PG.Wd,Lk (V.str (fX w)) [V.str (Str.ofString "if"),V.str (Str.ofString "while"),V.str (Str.ofString "must")]=decide (w=.b8\/w=.ifs\/w=.fe):=by
 intro w
 cases w<;>decide +kernel
theorem BQ(T:Tx K mg t):bQ P w K mg base fh 5 t.kr t.kJ ["made", "standing"] (PC K):=by
 have cZ:=qY (P:=P) (w:=w) (base:=base) T 3
 refine T.i6.F.kS uZ (fun vs H Q E h=>?_) (fun fD A outer s H vs Q E hr h=>?_)
 ·obtain⟨_,_,_,_,rfl,_⟩:=h
  rfl
 obtain⟨md,sa,pr,⟨row,vals⟩,rfl,ma,dr,oV,si,q⟩:=h
 have nd:=uZ.nd
 have hu:=fE hr
 refine⟨_,[some (.ref md),some (.ref sa),none,none,none,none,none,none,none],(ae (aL (i:=2) nd rfl (Or.inl rfl) (aD aN (pv 1) aj ak))
 (ae (bw (aK bT (pv 2) aj (aT _))
 (aq (aU (bJ (aa (aZ (aa aV ah aR)) ah cE))))
 a9)
 (ae (aL (i:=3) nd rfl (Or.inl rfl) (bJ (aa (aZ (aa aV (aa (pv 2) ah ag) aR)) ah cE)))
 (ae (aL (i:=4) nd rfl (Or.inl rfl) (cm hu (aD bf (pv 0) aj ak) (pv 2) (fun _ _=>rfl)))
 (ae (bw (aK iU (aD aN (pv 4) aj ak) (aZ (cO (vs:=[.str "if",.str "while",.str "must"]) (by kernel_rfl))) rfl)
 (ae (aL (i:=5) nd rfl (Or.inl rfl) (qQ rfl rfl T.oT rfl T.BB (aa (jO (own:=["box"]) (ix:=[]) rfl (by rfl) (by rfl) (dq (aD bf (pv 0) aj ak)) (fun _ _ _ _=>(bu (i:=0) (by show List.Nodup (["box"]:List Str);decide +kernel) rfl (Or.inl rfl))) (fun _ _ _ _=>i9) (fun _ _ _ _=>(aD (jb (K:=K) rfl) (pv 0) aj ak))) (aa (aD aN (pv 1) aj ak) ah ba) kB)))
 (ae (aL (i:=6) nd rfl (Or.inl rfl) (aG cZ (hr.mono (by first|decide|omega)) rfl T.a7.m T.a7.F.kp T.a7.b .nil aX (aa (aD aN (pv 4) aj ak) (aa (pv 5) ah ag) ba)))
 (ae (aL (i:=7) nd rfl (Or.inl rfl) (aG cZ (hr.mono (by first|decide|omega)) rfl T.a7.m T.a7.F.kp T.a7.b .nil aX (aa (aD aN (pv 4) aj ak) (aa (pv 5) ah ag) ba)))
 (ae (aL (i:=8) nd rfl (Or.inl rfl) (Rm (Cg (gX bT (aD aN (pv 4) aj ak) aV (aT _)) (yT (gX nT (pv 6) (pv 7) (aT _)))) (yT (Cg (gX bT (aD aN (pv 4) aj ak) aV (aT _)) (yT (gX bT (pv 6) (pv 7) (aT _)))))))
 (aq (bw (aK Hl (aD aN (pv 4) aj ak) aV (aT _))
 (aq (bX (eR PySem.F.plainAttrs_list PySem.F.slot_list_append PySem.F.type_list_append bL (pv 3) (aa (aZ (aa aV (aa (pv 2) (aa (pv 8) ah ag) ag) aR)) ah cE))))
 (aq (bw (Cf (mw (pv 8)))
 (aq (bX (eR PySem.F.plainAttrs_list PySem.F.slot_list_append PySem.F.type_list_append bL (pv 3) (aa (aZ (aa aV (aa (pv 2) ah ag) aR)) ah cE))))
 a9))))))))
 a9)
 (aq (aU (pv 3)))))))),rfl,?_⟩
 have line:sizeLine=2 ^ 24:=rfl
 obtain⟨va,vi,xi⟩:=id oV
 refine aw fun U1 ff=>?_
 walk_at "rd"
 refine aI vi (v:=.int row) (au (j:=0) rfl) ((ff _ _).mpr (aw fun U2 gI=>?_))
 clear ff
 walk_at "rd"
 by_cases h0:row=0
 ·subst h0
  refine(if_pos rfl).mpr fun p hp=>?_
  generalize e1:upd H p _=H1
  have s1:=gT e1 hp
  have r1:Rep K H1 (fj .fin) (.ref p):=KU e1 hp (.cons rS .nil)
  intro l hl
  generalize e2:upd H1 l _=H2
  have s2:=gL e2 hl
  refine q l _ _ (s1.trans s2) (s1.free hl) ⟨KW e2,?_⟩
  unfold vk
  rw[if_pos rfl]
  exact .cons (r1.mono s2) .nil
 obtain⟨i,hi,rfl⟩:=si.ok.row.resolve_left h0
 obtain⟨hf,ek,ew⟩:=gO pr.body i hi
 obtain⟨B,d8,wy,fa,ta,y,us,ys,aP,h1,h2,h3,g3,rt,Mu,h6,g6,hy⟩:=ma.row dr.ok hi hf
 have Xz:wF pr.body (PG.az pr.body)[i].row=(PG.az pr.body)[i]:=kF dr.ok.pw i hi
 unfold vk at q
 rw[if_neg h0] at q
 simp only[Xz] at q
 obtain⟨po,so⟩:=zv si.ok.len dr.ok.nb si.ok.small (PG.ja pr.body _ dr.own (List.getElem_mem hi))
 generalize (PG.az pr.body)[i]=sm at *
 refine(if_neg (by simpa using h0)).mpr ((gI _ _).mpr (aw fun U3 ik=>?_))
 clear gI
 walk_at "rd"
 intro p6 iQ
 generalize e6:upd H p6 _=H6
 have s6:=gT e6 iQ
 have r6:Rep K H6 (fj (.row sm.row)) (.ref p6):=KU e6 iQ (.cons rS (.cons NI .nil))
 intro l3 ZE
 generalize e7:upd H6 l3 _=H7
 have s7:=gL e7 ZE
 have y7:=KW e7
 have r7:=r6.mono s7
 have UX:=s6.trans s7
 have GJ:=s6.free ZE
 clear e6 e7 r6
 refine(ik _ _).mpr (aw fun U4 i7=>?_)
 clear ik
 walk_at "rd"
 refine bC (UX.seq h1) (v:=.ref d8) (au (j:=1) rfl) ⟨d8,_,rfl,.inl ⟨_,.inl sm.row,.inl (UX _ _ h3),rfl,g3.symm⟩,(i7 _ _).mpr (aw fun U5 tf=>?_)⟩
 clear i7
 have last:∀(z5 z6 z7 z8:Option V) H9 ZF,av H H9->H9 l3=some (.lst ZF)->(Q (.ref l3) H9)->U5 [some (.ref md),some (.ref sa),some (.int sm.row),some (.ref l3),some (.ref ta),z5,z6,z7,z8] H9:=by
  intro z5 z6 z7 z8 H9 ZF s9 y9 qq
  refine(tf _ _).mpr ?_
  clear tf
  walk_at "rd"
  exact qq
 clear tf
 refine Mq fun U6b TN=>?_
 walk_at "rd"
 refine aI (UX.bD Mu) (v:=.str (fX sm.wd)) (au (j:=0) rfl) fun p8 GY=>⟨p8,_,rfl,.inr (.of ai),rfl,rfl,_,rfl,?_⟩
 generalize e8:upd H7 p8 _=H8
 have s8:=gT e8 GY
 have y8:=s8 _ _ y7
 have r8:=r7.mono s8
 have Qy:=UX.trans s8
 clear e8
 rw[Ku]
 by_cases hc:sm.wd=.b8\/sm.wd=.ifs\/sm.wd=.fe
 rotate_left
 ·have cn:oH sm=none:=by
   cases sm<;>first |rfl |exact absurd (.inl rfl) hc |exact absurd (.inr (.inl rfl)) hc |exact absurd (.inr (.inr rfl)) hc
  simp only[cn] at q
  refine(if_neg (by rw[decide_eq_false hc];exact Bool.false_ne_true)).mpr (last _ _ _ _ _ _ Qy y8 (q l3 _ _ Qy GJ ⟨y8,.cons r8 .nil⟩))
 obtain⟨sg,l,r,cp,tl,tr,_⟩:=cond_of hc po
 simp only[cp] at q
 refine(if_pos (decide_eq_true hc)).mpr ((TN _ _).mpr (aw fun U6 xm=>?_))
 clear TN
 obtain⟨ta',w0,vl,vr,ys',eta,hs,rl,rr⟩:=qS rt cp
 cases eta
 obtain⟨UQ,hB,lB,hb⟩:=mh h2
 walk_at "rd"
 simp only[Us]
 walk_at "rd"
 simp only[kA]
 walk_at "rd"
 have XR:=dr.ok.tS
 refine bC (Qy.seq h1) (v:=.ref B) (au (j:=0) rfl) ⟨B,rfl,⟨_,Qy.seq hB⟩,fun D hD=>?_⟩
 refine j3 (K:=K) (r:=[]) (fun i=>V.str (S (pr.aC.getD i ⟨[],0,0⟩).name)) (Qy.seq hB) (by lia) hD (fun i x H2 hx s2 R hR=>?_) (fun H9 s9 h9=>?_)
 ·obtain⟨a,rfl,ha⟩:=hb i x hx
  walk_at "rd"
  exact aI ((Qy.trans s2).bD ha) (v:=.str (S (pr.aC.getD i ⟨[],0,0⟩).name)) (au (j:=0) rfl) hR
 rw[lB,i0 (fun b:PG.fV=>V.str (S b.name)) ⟨[],0,0⟩ pr.aC] at h9
 have Qx:=Qy.trans s9
 have Xs:(vals.map V.int).length=pr.aC.length:=by rw[List.length_map];exact si.ok.len
 refine aI (Qx.bD vi) (v:=.ref va) (au (j:=1) rfl) ⟨D,va,pr.aC.map fun b=>.inr (S b.name),vals.map V.int,rfl,?_,Qx.bD xi,by rw[List.length_map,List.length_map];exact si.ok.len,fun d hd=>(xm _ _).mpr (aw fun U7 J8=>?_)⟩
 ·rw[List.map_map]
  exact .of h9
 clear xm
 rw[mM,hG _ [] (by rw[List.nil_append,kD _ _ Xs];exact names_nodup dr.ok.nb),List.nil_append]
 have sA:=av.new hd (.dK (cF pr.aC (vals.map V.int)))
 have yA:(upd H9 d (.dK (cF pr.aC (vals.map V.int)))) d=some (.dK (cF pr.aC (vals.map V.int))):=ai
 generalize upd H9 d (.dK (cF pr.aC (vals.map V.int)))=HA at *
 have TQ:=Qx.trans sA
 have s8A:=s9.trans sA
 walk_at "rd"
 refine aI (TQ.bD hs) (v:=vl) (au (j:=3) rfl) ⟨vl,d,l,_,rfl,rl.mono TQ,yA,tl.1,by have:=tl.2;lia,by have:=tl.2;lia,fun HB sB=>(J8 _ _).mpr (aw fun U8 TC=>?_)⟩
 clear J8
 walk_at "rd"
 refine aI ((TQ.trans sB).bD hs) (v:=vr) (au (j:=4) rfl) ⟨vr,d,r,_,rfl,rr.mono (TQ.trans sB),sB _ _ yA,tr.1,by have:=tr.2;lia,by have:=tr.2;lia,fun HC sC=>(TC _ _).mpr (aw fun U9 Q2=>?_)⟩
 clear TC
 have Q7:=(TQ.trans sB).trans sC
 have ZG:=(s8A.trans sB).trans sC
 have yC:=ZG _ _ y8
 have rC:=r8.mono ZG
 have XW:=Q7.bD hs
 have htC:=Q7.bD Mu
 have fin:U9 [some (.ref md),some (.ref sa),some (.int sm.row),some (.ref l3),some (.ref ta),some (.ref d),some (.int (wv pr.aC vals l)),some (.int (wv pr.aC vals r)),some (.bl (gH sg (wv pr.aC vals l) (wv pr.aC vals r)))] HC:=by
  refine(Q2 _ _).mpr ?_
  clear Q2
  generalize gH sg (wv pr.aC vals l) (wv pr.aC vals r)=bo at *
  walk_at "rd"
  refine aI htC (v:=.str (fX sm.wd)) (au (j:=0) rfl) ⟨rfl,?_⟩
  by_cases ew:sm.wd=.b8
  ·rw[if_pos ew] at q
   refine b4 (fun _=>?_) (fun z=>absurd ((oC _).mpr ew) z)
   cases bo with
   |true=>
    rw[if_pos rfl] at q
    exact(if_neg (by decide)).mpr (last _ _ _ _ _ _ Q7 yC (q l3 _ _ Q7 GJ ⟨yC,.cons rC .nil⟩))
   |false=>
    rw[if_neg Bool.false_ne_true] at q
    refine(if_pos (by decide)).mpr ⟨.inl ⟨rfl,_,.of yC⟩,fun pD TR=>?_⟩
    generalize eD:upd HC pD _=HD
    have sD:=gT eD TR
    have rD:Rep K HD (fj (.b8 sm.row)) (.ref pD):=KU eD TR (.cons rS (.cons NI .nil))
    have yD:=sD _ _ yC
    refine⟨l3,_,_,rfl,rfl,yD,by simp only[List.length_singleton];lia,?_⟩
    have uE:bz l3 HD (upd HD l3 (.lst ([V.ref p6]++[V.ref pD]))):=(bz.refl _ _).put _
    have sE:av H (upd HD l3 (.lst ([V.ref p6]++[V.ref pD]))):=fun z o e=>uE z o (ao e GJ) (sD _ _ (Q7 z o e))
    refine last _ _ _ _ _ _ sE ai (q l3 _ _ sE GJ ⟨ai,.cons (vD yD uE rfl (rC.mono sD)) (.cons (vD yD uE rfl rD) .nil)⟩)
  ·rw[if_neg ew] at q
   refine b4 (fun z=>absurd ((oC _).mp z) ew) (fun _=>?_)
   refine⟨.inl ⟨rfl,_,.of yC⟩,fun pD TR=>?_⟩
   generalize eD:upd HC pD _=HD
   have sD:=gT eD TR
   have rD:Rep K HD (fj (.side sm.row bo)) (.ref pD):=KU eD TR (.cons rS (.cons NI (.cons (Rep.mD.mpr rfl) .nil)))
   have yD:=sD _ _ yC
   refine⟨l3,_,_,rfl,rfl,yD,by simp only[List.length_singleton];lia,?_⟩
   have uE:bz l3 HD (upd HD l3 (.lst ([V.ref p6]++[V.ref pD]))):=(bz.refl _ _).put _
   have sE:av H (upd HD l3 (.lst ([V.ref p6]++[V.ref pD]))):=fun z o e=>uE z o (ao e GJ) (sD _ _ (Q7 z o e))
   refine last _ _ _ _ _ _ sE ai (q l3 _ _ sE GJ ⟨ai,.cons (vD yD uE rfl (rC.mono sD)) (.cons (vD yD uE rfl rD) .nil)⟩)
 clear Q2
 have l1:(V.str (S sg)=V.str (Str.ofString "<"))↔sg=[60]:=by rw[show (Str.ofString "<":Str)=S [60] from rfl,V.str.injEq,lC]
 have l2:(V.str (S sg)=V.str (Str.ofString "="))↔sg=[61]:=by rw[show (Str.ofString "=":Str)=S [61] from rfl,V.str.injEq,lC]
 walk_at "rd"
 refine aI XW (v:=.str (S sg)) (au (j:=2) rfl) ⟨rfl,?_⟩
 unfold gH at fin
 rcases N3 so cp with rfl |rfl
 ·rw[if_pos rfl] at fin
  refine(if_pos (l1.mpr rfl)).mpr ?_
  by_cases lt:wv pr.aC vals l<wv pr.aC vals r
  ·rw[decide_eq_true lt] at fin
   exact(if_pos lt).mpr fin
  ·rw[decide_eq_false lt] at fin
   exact(if_neg lt).mpr (aI XW (v:=.str (S [60])) (au (j:=2) rfl) ⟨rfl,(if_neg (fun z=>by cases l2.mp z)).mpr fin⟩)
 ·rw[if_neg (by decide)] at fin
  exact(if_neg (fun z=>by cases l1.mp z)).mpr ((if_neg Bool.false_ne_true).mpr (aI XW (v:=.str (S [61])) (au (j:=2) rfl) ⟨rfl,(if_pos (l2.mpr rfl)).mpr fin⟩))
theorem uH(T:Tx K mg t):bQ P w K mg base fh 6 t.fH t.gC ["made", "standing"] (PD K):=by
 have k8:=oY (P:=P) (w:=w) (base:=base) T
 have gy:=iS (P:=P) (w:=w) (base:=base) T
 refine T.d7.F.kS lU (fun vs H Q E h=>?_) (fun fD A outer s H vs Q E hr h=>?_)
 ·obtain⟨_,_,_,_,rfl,_⟩:=h
  rfl
 obtain⟨md,ZH,pr,s0,rfl,ma,dr,XX,si0,BO,q⟩:=h
 have nd:=lU.nd
 have hu:=fE hr
 refine⟨_,[some (.ref md),some (.ref ZH),none],(ae (aL (i:=2) nd rfl (Or.inl rfl) (sI (J:=vj)))
 (ae (nQ PassesOwn.never (PW.pt (pw_and (aK vx (pv 1) eM (aT _)) (pw_and1 (aK (Gj (J:=vj) (QP hr)) (pv 1) (pv 2) rfl))))
 (ae (wH (J:=vj) (QP hr) (pv 2) (pv 1) uN rfl)
 (ae (bw (PW.pt (pw_or (aK bT (aD aN (pv 1) aj ak) aj (aT _)) (pw_or1 (mw (aG k8 (hr.mono (by first|decide|omega)) rfl T.cY.m T.cY.F.kp T.cY.b .nil aX (aa (pv 0) (aa (pv 1) ah ag) ag))))))
 (aq (aU (fK (wI (J:=vj) rfl) rfl T.uB PyProof.Rows.Boot.«list» (aa (pv 2) ah ag))))
 a9)
 (aq (aL (i:=1) nd rfl (Or.inl rfl) (aG gy (hr.mono (by first|decide|omega)) rfl T.bK.m T.bK.F.kp T.bK.b .nil aX (aa (pv 0) (aa (pv 1) (aa eM ah aR) ag) ag)))))))
 (aq (aU (fK (wI (J:=vj) rfl) rfl T.uB PyProof.Rows.Boot.«list» (aa (pv 2) ah ag)))))),rfl,?_⟩
 have line:sizeLine=2 ^ 24:=rfl
 refine aw fun U1 ff=>?_
 walk_at "rd"
 intro sn MO XC
 refine(ff _ _).mpr (aw fun U2 gI=>?_)
 clear ff
 have d1:=zw (J:=vj) (P:=P) (w:=w) (K:=K) (H:=H) XC
 have s1:=av.new MO (.ext (kc vj P w sn []))
 generalize upd H sn (.ext (kc vj P w sn []))=H1 at *
 refine Dg fun Bd N7=>?_
 walk_at "rd"
 obtain⟨Iv,Kq⟩:∃Iv:Nat->St->Hp->Prop,∀m σ Hx,Iv m σ Hx↔∃(v:V) (o:Option PG.gK) (g:List PG.gK),σ=[some (.ref md),some v,some (.ref sn)]/\av H Hx/\DS vj P w K Hx sn (lS g)/\kE K Hx o v/\(∀x,o=some x->iE pr x)/\g.Nodup/\(∀x∈g,iE pr x)/\PG.TI (fo pr.body) (eY pr) s0 g o/\m=gP pr-g.length:=⟨_,fun _ _ _=>Iff.rfl⟩
 refine⟨Iv,⟨_,(Kq _ _ _).mpr ⟨_,some s0,[],rfl,s1,d1,⟨ZH,rfl,XX.mono s1⟩,fun x e=>(by cases e;exact si0),List.nodup_nil,fun x hx=>(by cases hx),PG.TI.start,rfl⟩⟩,?_⟩
 intro m σ Hx hv
 obtain⟨v,o,g,rfl,sx,ds,ov,oi,ng,gi,ti,rfl⟩:=(Kq _ _ _).mp hv
 clear hv
 have fin:∀(H6:Hp) (g6:List PG.gK) (l:Addr) (us:List V),av H H6->DS vj P w K H6 sn (lS g6)->PG.Seg (fo pr.body) (eY pr) s0 g6->g6.Nodup->(∀x∈g6,iE pr x)->H6 l=none->Paired (fun (p:Gk×V) (v:V)=>∃b,v=.ref b/\vj.on K H6 p.1 b) (lS g6) us->Q (.ref l) (upd H6 l (.lst us)):=by
  intro H6 g6 l us s6 d6 sg ng6 ZI hl pu
  have sl:=av.new hl (.lst us)
  exact q l us g6 _ (s6.trans sl) ai ((JQ pu).mono sl) sg ZI (sJ ng6 ZI)
 have out:(o=none\/∃x∈g,o=some x)->U2 [some (.ref md),some v,some (.ref sn)] Hx:=fun ho=>by
  refine(gI _ _).mpr ?_
  clear gI
  walk_at "rd"
  exact⟨sn,_,rfl,ds,fun l us hl pu=>fin Hx g l us sx ds (ti.fin ho) ng gi hl pu⟩
 walk_at "rd"
 cases o with
 |none=>
  have ov:v=.ck:=ov
  subst ov
  exact b4 (fun _=>out (.inl rfl)) (fun z=>absurd rfl z)
 |some x=>
  obtain⟨sa,rfl,oV⟩:=ov
  have si:=oi x rfl
  refine b4 (fun z=>by cases z) (fun _=>?_)
  refine⟨sn,sa,_,_,rfl,rfl,ds,EW oV,?_⟩
  rw[wK]
  by_cases hx:x∈g
  ·exact(if_neg (by rw[decide_eq_true hx];decide)).mpr (out (.inr ⟨x,hx,rfl⟩))
  refine(if_pos (by rw[decide_eq_false hx];decide)).mpr ?_
  have UY:(g++[x]).Nodup:=List.nodup_append.mpr ⟨ng,by simp,fun a ha b hb=>by rw[List.mem_singleton.mp hb];exact fun z=>hx (z▸ha)⟩
  have UZ:∀y∈g++[x],iE pr y:=fun y hy=>by
   rcases List.mem_append.mp hy with hy |hy
   ·exact gi y hy
   ·rw[List.mem_singleton.mp hy];exact si
  have tS:=sJ UY UZ
  rw[List.length_append,List.length_singleton] at tS
  refine⟨Iv (gP pr-(g++[x]).length),fun σ' H' h=>⟨_,by rw[List.length_append,List.length_singleton];lia,h⟩,?_⟩
  refine N7 _ _ _ (aw fun V1 GD=>?_)
  clear N7 gI out
  obtain⟨φ,es⟩:=ds.Gr
  walk_at "rd"
  refine⟨sn,sa,_,_,rfl,rfl,ds,EW oV,by rw[lS,List.length_map];lia,fun H6 d6 e6=>(GD _ _).mpr (aw fun V2 GF=>?_)⟩
  clear GD
  rw[yF hx] at d6
  obtain⟨φ',rfl⟩:=e6
  have u6:bz sn Hx (upd Hx sn (.ext φ')):=(bz.refl _ _).put _
  have s6:av H (upd Hx sn (.ext φ')):=fun z o e=>u6 z o (ao e MO) (sx z o e)
  have MP:=oV.ext es u6
  have ZJ:=ma.mono s6
  clear u6
  generalize upd Hx sn (.ext φ')=H6 at *
  obtain⟨va,vi,xi⟩:=id MP
  walk_at "rd"
  refine aI vi (v:=.int x.1) (au (j:=0) rfl) ⟨rfl,?_⟩
  by_cases h0:x.1=0
  ·refine b4 (fun _=>?_) (fun z=>absurd (by rw[h0]) z)
   exact⟨sn,_,rfl,d6,fun l us hl pu=>fin H6 _ l us s6 d6 (ti.stop (.inl h0)) UY UZ hl pu⟩
  refine b4 (fun z=>absurd (V.int.inj z) h0) (fun _=>?_)
  refine⟨md,sa,pr,x,rfl,ZJ,dr,MP,si,?_⟩
  cases ha:fo pr.body x.1 with
  |true=>
   refine⟨_,rfl,(if_pos rfl).mpr ?_⟩
   exact⟨sn,_,rfl,d6,fun l us hl pu=>fin H6 _ l us s6 d6 (ti.stop (.inr ha)) UY UZ hl pu⟩
  |false=>
   refine⟨_,rfl,(if_neg (by decide)).mpr ((GF _ _).mpr ?_)⟩
   clear GF
   walk_at "rd"
   refine⟨md,sa,.ck,pr,x,0,rfl,ZJ,dr,MP,si,h0,fun z=>(by rw[ha] at z;cases z),fun v7 H7 s7 o7=>?_⟩
   exact(Kq _ _ _).mpr ⟨v7,_,g++[x],rfl,s6.trans s7,d6.mono s7,o7,fun y hy=>si.next dr h0 hy,UY,UZ,ti.push h0 ha,rfl⟩
theorem vp(T:Tx K mg t):bQ P w K mg base fh 7 t.gp t.g7 ["made", "figures"] (JP K):=by
 have k8:=oY (P:=P) (w:=w) (base:=base) T
 have gy:=iS (P:=P) (w:=w) (base:=base) T
 have vq:=uH (P:=P) (w:=w) (base:=base) T
 have DG:=BQ (P:=P) (w:=w) (base:=base) T
 refine T.fc.F.kS nI (fun vs H Q E h=>?_) (fun fD A outer s H vs Q E hr h=>?_)
 ·obtain⟨_,_,_,_,rfl,_⟩:=h
  rfl
 obtain⟨md,fl,pr,aW,rfl,ma,dr,hf,BG,BO,q⟩:=h
 have nd:=nI.nd
 have hu:=fE hr
 refine⟨_,[some (.ref md),some (.ref fl),none,none,none,none,none],(ae (aL (i:=2) nd rfl (Or.inl rfl) (bJ ah))
 (ae (aL (i:=3) nd rfl (Or.inl rfl) (aD bf (pv 0) aj ak))
 (ae (aL (i:=4) nd rfl (Or.inl rfl) (fK rR rfl T.uB PyProof.Rows.Boot.«list» (aa (pv 1) ah ag)))
 (ae (nQ PassesOwn.never (aK vx (pv 3) eM (aT _))
 (ae (aL (i:=5) nd rfl (Or.inl rfl) (aG vq (hr.mono (by first|decide|omega)) rfl T.d7.m T.d7.F.kp T.d7.b .nil aX (aa (pv 0) (aa (pv 3) ah ag) ag)))
 (ae (fZ PassesOwn.never rfl (dq (pv 5)) (bu (i:=6) nd rfl (Or.inl rfl))
 (aq (aL (i:=2) nd rfl (Or.inl rfl) (bh HP (pv 2) (aG DG (hr.mono (by first|decide|omega)) rfl T.i6.m T.i6.F.kp T.i6.b .nil aX (aa (pv 0) (aa (pv 6) ah ag) ag))))))
 (ae (aL (i:=3) nd rfl (Or.inl rfl) eM)
 (aq (bw (PW.pt (pw_and (aK (lE (fE hr)) (pv 4) (bJ ah) (aT _)) (pw_and1 (mw (aG k8 (hr.mono (by first|decide|omega)) rfl T.cY.m T.cY.F.kp T.cY.b .nil aX (aa (pv 0) (aa (aD bf (pv 5) (rL my aj) rY) ah ba) ag))))))
 (aq (aL (i:=3) nd rfl (Or.inl rfl) (aG gy (hr.mono (by first|decide|omega)) rfl T.bK.m T.bK.F.kp T.bK.b .nil aX (aa (pv 0) (aa (aD bf (pv 5) (rL my aj) rY) (aa (eR PySem.F.plainAttrs_list PySem.F.slot_list_pop PySem.F.type_list_pop HN (pv 4) (aa aj ah aR)) ah bM) ba) ag))))
 a9))))))
 (aq (aU (pv 2))))))),rfl,?_⟩
 have line:sizeLine=2 ^ 24:=rfl
 have XY:gP pr<=2000000:=by
  have:=Nat.mul_le_mul_right (gP pr+2) (show 2<=aW.length+2 by lia)
  lia
 have XZ:(2*gP pr)*(aW.length+1)<=8000000:=by
  have:=Nat.mul_le_mul (show gP pr<=gP pr+2 by lia) (show aW.length+1<=aW.length+2 by lia)
  rw[Nat.mul_assoc]
  rw[Nat.mul_comm (aW.length+2)] at BO
  lia
 obtain⟨B,d8,wy,fa,us0,aP,Qw,_,_,_,_,_,_,X0⟩:=ma.at_
 refine aw fun U1 ff=>?_
 walk_at "rd"
 intro X1 TU
 refine(ff _ _).mpr (aw fun U2 gI=>?_)
 clear ff
 generalize e1:upd H X1 _=H1
 have s1:=gL e1 TU
 have y1:=KW e1
 clear e1
 walk_at "rd"
 refine bC (s1.seq Qw) (v:=.ref fa) (au (j:=3) rfl) ((gI _ _).mpr (aw fun U3 ik=>?_))
 clear gI
 walk_at "rd"
 refine⟨fl,_,rfl,.inl (s1.seq hf),fun ll X2=>(ik _ _).mpr (aw fun U4 i7=>?_)⟩
 clear ik
 generalize e2:upd H1 ll _=H2
 have s2:=gL e2 X2
 have y2:=KW e2
 clear e2
 have X3:H ll=none:=s1.free X2
 have X4:X1≠ll:=ao y1 X2
 refine Dg fun Bd N7=>?_
 walk_at "rd"
 obtain⟨Iv,Kq⟩:∃Iv:Nat->St->Hp->Prop,∀m σ Hx,Iv m σ Hx↔∃(z5 z6:Option V) (v:V) (o:Option PG.gK) (fd:Addr) (us:List V) (ms:List PG.Tg) (n:Nat),σ=[some (.ref md),some (.ref fl),some (.ref fd),some v,some (.ref ll),z5,z6]/\av H Hx/\kE K Hx o v/\(∀x,o=some x->iE pr x)/\Hx ll=some (.lst ((aW.drop n).map V.int))/\fd≠ll/\H fd=none/\nE K Hx fd us ms/\
  PG.LI (fo pr.body) (eY pr) (vk pr) ((PG.bg pr.body 0,pr.aC.map (·.first)),aW) ms o (aW.drop n)/\n<=aW.length/\us.length+(2*gP pr)*m<=8000000/\(∀x,o=some x->m=aW.length-n+1):=⟨_,fun _ _ _=>Iff.rfl⟩
 refine⟨Iv,⟨aW.length+1,(Kq _ _ _).mpr ⟨_,_,_,some (PG.bg pr.body 0,pr.aC.map (·.first)),X1,[],[],0,rfl,s1.trans s2,⟨fa,rfl,X0.mono (s1.trans s2)⟩,fun x e=>(by cases e;exact iE.first dr),y2,X4,TU,⟨s2 _ _ y1,.nil⟩,PG.LI.start,Nat.zero_le _,by simpa using XZ,fun _ _=>rfl⟩⟩,?_⟩
 intro m σ Hx hv
 obtain⟨z5,z6,v,o,fd,us,ms,n,rfl,sx,ov,oi,yl,X4,ZK,tg,li,hn,hk,hm⟩:=(Kq _ _ _).mp hv
 clear hv
 walk_at "rd"
 cases o with
 |none=>
  have ov:v=.ck:=ov
  subst ov
  refine b4 (fun _=>(i7 _ _).mpr ?_) (fun z=>absurd rfl z)
  walk_at "rd"
  exact q fd us ms Hx sx ZK tg fun g=>li.fin g
 |some x=>
  obtain⟨sa,rfl,oV⟩:=ov
  have si:=oi x rfl
  have hm:=hm x rfl
  subst hm
  refine b4 (fun z=>by cases z) (fun _=>?_)
  refine⟨Iv (aW.length-n),fun σ' H' h=>⟨_,by lia,h⟩,?_⟩
  refine N7 _ _ _ (aw fun V1 GD=>?_)
  clear N7 i7
  walk_at "rd"
  refine⟨md,sa,pr,x,rfl,ma.mono sx,dr,oV,si,XY,fun gl X5 g H3 s3 yg gs sg gi gl3=>(GD _ _).mpr (aw fun V2 GF=>?_)⟩
  clear GD
  obtain⟨ZL,ZM⟩:=gs.at
  have tg3:=tg.mono s3
  refine iy fun U hU=>?_
  walk_at "rd"
  refine⟨⟨X5,.of yg⟩,hU _ _ ?_⟩
  clear hU
  obtain⟨Pv,hX⟩:∃Pv:Nat->St->Hp->Prop,∀i σ H5,Pv i σ H5↔∃(z6:Option V) (G0:Addr) (G1:List V) (MQ:List PG.Tg),σ=[some (.ref md),some (.ref fl),some (.ref G0),some (.ref sa),some (.ref ll),some (.ref gl),z6]/\av H3 H5/\nE K H5 G0 G1 MQ/\G0≠ll/\H G0=none/\G1.length<=us.length+2*i/\∀t,t∈MQ↔t∈ms\/∃x∈g.take i,t∈vk pr x:=⟨_,fun _ _ _=>Iff.rfl⟩
  refine ip (K:=K) (a:=gl) (xs:=X5) Pv ((hX _ _ _).mpr ⟨_,fd,us,ms,rfl,av.refl _,tg3,X4,ZK,Nat.le_refl _,fun t=>by simp⟩) (fun i σ H5 _ hv=>?_) ?_ ?_
  ·obtain⟨_,_,_,_,_,s5,_⟩:=(hX _ _ _).mp hv
   exact .of (s5 _ _ yg)
  ·intro i y σ H5 hi hv
   obtain⟨z6,G0,G1,MQ,rfl,s5,TV,U0,Qz,l5,i5⟩:=(hX _ _ _).mp hv
   clear hv
   have X6:i<g.length:=by have:=(List.getElem?_eq_some_iff.mp hi).1;lia
   obtain⟨a,ha,stg⟩:=ZM i g[i] (List.getElem?_eq_getElem X6)
   rw[hi] at ha
   cases ha
   simp only[fC,List.set]
   walk_at "rd"
   refine⟨md,a,pr,g[i],rfl,ma.mono (sx.trans (s3.trans s5)),dr,stg.mono s5,gi _ (List.getElem_mem X6),fun l6 Va H6 s6 hl6 Q8=>?_⟩
   have lt:=EY pr g[i]
   have Km:Va.length=(vk pr g[i]).length:=by rw[Q8.2.length,List.length_map]
   have TX:=TV.mono s6
   refine⟨G0,l6,G1,Va,rfl,rfl,TX.1,Q8.1,?_,fun p7 pY=>?_⟩
   ·have k:=Nat.mul_le_mul_left (2*gP pr) (show 1<=aW.length-n+1 by lia)
    rw[Nat.mul_one] at k
    lia
   have s7:=av.new pY (.lst (G1++Va))
   refine(hX _ _ _).mpr ⟨_,p7,G1++Va,MQ++vk pr g[i],rfl,s5.trans (s6.trans s7),⟨ai,by rw[List.map_append];exact(TX.2.mono s7).append (Q8.2.mono s7)⟩,?_,(sx.trans (s3.trans (s5.trans s6))).free pY,by rw[List.length_append];lia,fun t=>?_⟩
   ·exact fun z=>by rw[z] at pY;rw[s6 _ _ (s5 _ _ (s3 _ _ yl))] at pY;cases pY
   ·rw[List.mem_append,i5,List.take_succ_eq_append_getElem X6]
    simp only[List.mem_append,List.mem_singleton,or_and_right,exists_or,exists_eq_left,or_assoc]
  intro σ H5 hv
  obtain⟨Xl,G0,G1,MQ,rfl,s5,TV,U0,Qz,l5,i5⟩:=(hX _ _ _).mp hv
  clear hv hX Pv
  rw[ZL,List.take_length] at i5
  have ZN:=sx.trans (s3.trans s5)
  have Vb:=s5 _ _ (s3 _ _ yl)
  have ZO:=s5 _ _ yg
  have ZP:G1.length+(2*gP pr)*(aW.length-n)<=8000000:=by
   rw[Nat.mul_succ] at hk
   lia
  obtain⟨xl,X7⟩:∃xl,g.getLast?=some xl:=by
   cases hg:g.getLast? with
   |none=>rw[List.getLast?_eq_none_iff.mp hg] at sg;have:=sg.head;cases this
   |some y=>exact⟨y,rfl⟩
  obtain⟨ve,ZQ⟩:=PG.Seg.EU X7
  obtain⟨al,ZR,stl⟩:=ZM (g.length-1) xl (by rw[<- ZQ];exact List.getElem?_eq_getElem ve)
  have TY:=stl.mono s5
  have X8:iE pr xl:=gi xl (by rw[<- ZQ];exact List.getElem_mem ve)
  have ix:qJ X5 (-1)=some (.ref al):=by
   rw[<- ZL] at ZR
   exact Mr ZR
  refine(GF _ _).mpr (aw fun V3 K6=>?_)
  clear GF
  walk_at "rd"
  refine(K6 _ _).mpr ?_
  clear K6
  have done:=fun σ H9=>(Kq (aW.length-n) σ H9).mpr
  have off:∀H6 (z:V),av H H6->z=.ck->nE K H6 G0 G1 MQ->H6 ll=some (.lst ((aW.drop n).map V.int))->(aW.drop n=[]\/xl.1=0\/fo pr.body xl.1=false)->Iv (aW.length-n) [some (.ref md),some (.ref fl),some (.ref G0),some z,some (.ref ll),some (.ref gl),Xl] H6:=fun H6 z s6 ez t6 y6 hh=>by
   subst ez
   exact done _ _ ⟨_,_,.ck,none,G0,G1,MQ,n,rfl,s6,rfl,fun x e=>(by cases e),y6,U0,Qz,t6,li.off sg i5 X7 hh,hn,ZP,fun x e=>(by cases e)⟩
  walk_at "rd"
  intro le hle
  generalize e6:upd H5 le _=H6
  have s6:=gL e6 hle
  have ye:=KW e6
  clear e6
  refine⟨ll,le,_,rfl,rfl,.of (s6 _ _ Vb),.of ye,?_⟩
  cases ed:aW.drop n with
  |nil=>exact(if_neg Bool.false_ne_true).mpr (off H6 .ck (ZN.trans s6) rfl (TV.mono s6) (s6 _ _ Vb) (.inl ed))
  |cons f l=>
   have ln:n<aW.length:=by
    have:=congrArg List.length ed
    simp only[List.length_drop,List.length_cons] at this
    lia
   have ZS:aW.drop (n+1)=l:=by rw[<- List.tail_drop,ed];rfl
   have TZ:=s6 _ _ Vb
   rw[ed] at TZ
   have X9:=ZN.trans s6
   refine(if_pos rfl).mpr ⟨1,rfl,bC (.of (s6 _ _ ZO)) (v:=.ref al) ix ⟨md,al,pr,xl,rfl,ma.mono X9,dr,TY.mono s6,X8,?_⟩⟩
   cases ha:fo pr.body xl.1 with
   |false=>exact⟨_,rfl,(if_neg (by decide)).mpr (off H6 .ck X9 rfl (TV.mono s6) (s6 _ _ Vb) (.inr (.inr ha)))⟩
   |true=>
    have h0:xl.1≠0:=fun z=>by rw[z,Bv dr.ok] at ha;cases ha
    obtain⟨y,hy⟩:∃y,(eY pr xl.1 xl.2 f).1=some y:=by
     have:=Bu xl.1 xl.2 f ha
     cases h:(eY pr xl.1 xl.2 f).1 with
     |none=>exact absurd h this
     |some y=>exact⟨y,rfl⟩
    refine⟨_,rfl,(if_pos rfl).mpr ⟨1,rfl,bC (.of (s6 _ _ ZO)) (v:=.ref al) ix ⟨.inl ⟨rfl,_,.of TZ⟩,ll,_,0,0,.int f,rfl,rfl,TZ,by decide,by decide,by simp[seqIndex?],rfl,?_⟩⟩⟩
    show Bw K [V.ref md,V.ref al,V.int f] (upd H6 ll (.lst (l.map V.int))) _ _
    have u7:bz ll H6 (upd H6 ll (.lst (l.map V.int))):=(bz.refl _ _).put _
    have y7:(upd H6 ll (.lst (l.map V.int))) ll=some (.lst (l.map V.int)):=ai
    have ZT:av H (upd H6 ll (.lst (l.map V.int))):=fun z o e=>u7 z o (ao e X3) (X9 z o e)
    have XT:=(TY.mono s6).Md TZ u7
    have Q8:=TV.mono s6
    have tg7:nE K (upd H6 ll (.lst (l.map V.int))) G0 G1 MQ:=⟨u7 _ _ U0 Q8.1,wL TZ u7 (vE _) Q8.2⟩
    clear u7
    generalize upd H6 ll (.lst (l.map V.int))=H7 at *
    refine⟨md,al,.int f,pr,xl,f,rfl,ma.mono ZT,dr,XT,X8,h0,fun _=>rfl,fun v8 H8 s8 o8=>?_⟩
    rw[hy] at o8
    exact done _ _ ⟨_,_,v8,some y,G0,G1,MQ,n+1,rfl,ZT.trans s8,o8,fun z e=>(by cases e;exact X8.next dr h0 hy),by rw[ZS];exact s8 _ _ y7,U0,Qz,tg7.mono s8,by rw[ZS];exact li.on sg i5 X7 h0 ha ed hy,ln,ZP,fun z e=>by lia⟩
theorem DH(T:Tx K mg t):bQ P w K mg base fh 8 t.lY t.m7 ["program"] (F4 K):=by
 have wY:=Fe (P:=P) (w:=w) (base:=base) T
 refine T.j8.F.kS wU (fun vs H Q E h=>?_) (fun fD A outer s H vs Q E hr h=>?_)
 ·obtain⟨_,_,rfl,_⟩:=h
  rfl
 obtain⟨v,pr,rfl,rp,hd,hf,q⟩:=h
 have nd:=wU.nd
 refine⟨_,[some v,none,none,none],(ae (aL (i:=1) nd rfl (Or.inl rfl) (bJ ah))
 (ae (fZ PassesOwn.never rfl (dq (aG wY (hr.mono (by first|decide|omega)) rfl T.nh.m T.nh.F.kp T.nh.b .nil aX (aa (pv 0) ah ag))) (bu (i:=2) nd rfl (Or.inl rfl))
 (ae (aL (i:=3) nd rfl (Or.inl rfl) (aD aN (pv 2) aj ak))
 (ae (bX (eR PySem.F.plainAttrs_list PySem.F.slot_list_append PySem.F.type_list_append bL (pv 1) (aa (aZ (aa aV (aa (pv 3) ah ag) aR)) ah cE)))
 (aq (bw (aK iU (aD aN (pv 2) aj ak) (aZ (cO (vs:=[.str "if",.str "while"]) (by kernel_rfl))) rfl)
 (ae (bX (eR PySem.F.plainAttrs_list PySem.F.slot_list_append PySem.F.type_list_append bL (pv 1) (aa (aZ (aa aV (aa (pv 3) (aa uN ah aR) ag) aR)) ah cE)))
 (aq (bX (eR PySem.F.plainAttrs_list PySem.F.slot_list_append PySem.F.type_list_append bL (pv 1) (aa (aZ (aa aV (aa (pv 3) (aa uN ah aR) ag) aR)) ah cE)))))
 (aq (bw (aK bT (aD aN (pv 2) aj ak) aV (aT _))
 (aq (bX (eR PySem.F.plainAttrs_list PySem.F.slot_list_append PySem.F.type_list_append bL (pv 1) (aa (aZ (aa aV (aa (pv 3) ah ag) aR)) ah cE))))
 a9)))))))
 (ae (bX (eR PySem.F.plainAttrs_list PySem.F.slot_list_append PySem.F.type_list_append bL (pv 1) (aa (aZ (aa aV ah aR)) ah cE)))
 (aq (aU (pv 1)))))),rfl,?_⟩
 have line:sizeLine=2 ^ 24:=rfl
 refine aw fun U1 ff=>?_
 walk_at "rd"
 intro tl Fd
 have s1:=av.new Fd (.lst [])
 have y1:(upd H tl (.lst [])) tl=some (.lst []):=ai
 generalize upd H tl (.lst [])=H1 at *
 refine(ff _ _).mpr (aw fun U2 gI=>?_)
 clear ff
 refine iy fun U hU=>?_
 walk_at "rd"
 refine⟨v,pr,rfl,rp.mono s1,hd,hf,fun l2 fv H2 s2 CD y2 r2=>⟨l2,rfl,⟨fv,.of y2⟩,hU _ _ ?_⟩⟩
 clear hU
 have n2:l2≠tl:=fun z=>by rw[z,y1] at CD;cases CD
 have g2:eP K (·=tl) H2 ((PG.aS pr.body 0).map eQ) fv:=EC (s2 _ _ y1) (ui _) r2
 have WL:fv.length=(PG.aS pr.body 0).length:=by rw[r2.length,List.length_map]
 have lfl:(PG.aS pr.body 0).length<=1000:=by
  have h2:=congrArg List.length (PG.c9 pr.body 0)
  rw[List.length_map] at h2
  lia
 have efl:=PG.LK pr.body 0
 have pfl:=PG.A4 pr.body 0
 generalize PG.aS pr.body 0=fl at *
 have t2:LQ K H H2 tl H2 [] []:=⟨s1.trans s2,.refl,s2 _ _ y1,.nil,rfl⟩
 obtain⟨Pv,hX⟩:∃Pv:Nat->St->Hp->Prop,∀i σ H3,Pv i σ H3↔∃(z2 z3:Option V) (us:List V) (pre:List PG.Tg),σ=[some v,some (V.ref tl),z2,z3]/\LQ K H H2 tl H3 us pre/\us.length<=3*i/\
  pre=(fl.take i).flatMap PG.IJ:=⟨_,fun _ _ _=>Iff.rfl⟩
 refine ip (K:=K) (a:=l2) (xs:=fv) Pv ((hX _ _ _).mpr ⟨none,none,[],[],rfl,t2,Nat.le_refl _,rfl⟩) (fun i σ H3 _ hv=>?_) ?_ ?_
 ·obtain⟨_,_,_,_,_,ti,_⟩:=(hX _ _ _).mp hv
  exact .of (ti.u _ _ n2 y2)
 ·intro i y σ H3 hi hv
  obtain⟨z2,z3,us,pre,rfl,ti,lu,ep⟩:=(hX _ _ _).mp hv
  clear hv
  have done:=fun σ H7=>(hX (i+1) σ H7).mpr
  have li:i<fl.length:=by have:=(List.getElem?_eq_some_iff.mp hi).1;lia
  obtain⟨a,rfl,hx⟩:=LR g2 hi li
  have hw:=pfl fl[i] (List.getElem_mem li)
  have et:(fl.take (i+1)).flatMap PG.IJ=pre++PG.IJ fl[i]:=by
   rw[List.take_succ_eq_append_getElem li,List.flatMap_append,ep]
   simp
  have lt:=PG.Ex (fl[i].1,fl[i].2.1)
  generalize fl[i]=r at *
  obtain⟨k,wd,ws⟩:=r
  simp only at hw hx lt
  have fin:∀(σ:St) (H7:Hp) (vn:List V),(∃z2 z3,σ=[some v,some (V.ref tl),z2,z3])->LQ K H H2 tl H7 vn (pre++PG.IJ (k,wd,ws))->Pv (i+1) σ H7:=fun σ H7 vn ⟨z2,z3,e⟩ t7=>done σ H7 ⟨z2,z3,vn,_,e,t7,by
   have:=t7.l
   have:=ti.l
   have:(PG.IJ (k,wd,ws)).length<=3:=lt
   simp only[List.length_append] at *
   lia,et.symm⟩
  clear done et
  obtain⟨t3,UA⟩:=hx _ ti.u
  simp only[fC,List.set]
  refine aw fun U3 ik=>?_
  walk_at "rd"
  refine aI UA (v:=.int k) (au (j:=0) rfl) ((ik _ _).mpr (aw fun U4 i7=>?_))
  clear ik
  walk_at "rd"
  refine⟨.inl ⟨rfl,_,.of ti.y⟩,fun p hp=>⟨tl,us,_,rfl,rfl,av.new hp _ _ _ ti.y,by lia,(i7 _ _).mpr ?_⟩⟩
  clear i7
  have DE:=ti.app Fd hp (g:=.row k) rfl (fun _=>.cons .str (.cons .int .nil))
  generalize upd (upd H3 p (.tup [V.str (Str.ofString "row"),V.int k])) tl (.lst (us++[.ref p]))=H4 at *
  obtain⟨t4,hx4⟩:=hx _ DE.u
  walk_at "rd"
  have luf:us.length<=3000:=by lia
  refine aI hx4 (v:=.str (fX wd)) (au (j:=1) rfl) fun p5 xn=>⟨p5,_,rfl,.inr (.of ai),rfl,rfl,_,rfl,?_⟩
  have DF:=DE.same (av.new xn (.tup [V.str (Str.ofString "if"),V.str (Str.ofString "while")]))
  generalize upd H4 p5 (.tup [V.str (Str.ofString "if"),V.str (Str.ofString "while")])=H5 at *
  rw[vB wd]
  by_cases hl:wd=.ifs\/wd=.fe
  ·refine(if_pos (decide_eq_true hl)).mpr ⟨.inl ⟨rfl,_,.of DF.y⟩,fun p6 iQ=>⟨tl,_,_,rfl,rfl,av.new iQ _ _ _ DF.y,by simp only[List.length_append,List.length_singleton];lia,?_⟩⟩
   have BK:=DF.app Fd iQ (g:=.side k true) rfl (fun _=>.cons .str (.cons .int (.cons .bl .nil)))
   generalize upd (upd H5 p6 _) tl _=H6 at *
   refine⟨.inl ⟨rfl,_,.of BK.y⟩,fun p7 pY=>⟨tl,_,_,rfl,rfl,av.new pY _ _ _ BK.y,by simp only[List.length_append,List.length_singleton];lia,?_⟩⟩
   have UO:=BK.app Fd pY (g:=.side k false) rfl (fun _=>.cons .str (.cons .int (.cons .bl .nil)))
   have e:PG.IJ (k,wd,ws)=[.row k,.side k true,.side k false]:=by rcases hl with rfl |rfl<;>rfl
   rw[show pre++[.row k]++[.side k true]++[.side k false]=pre++PG.IJ (k,wd,ws) by rw[e];simp] at UO
   exact fin _ _ _ ⟨_,_,rfl⟩ UO
  ·obtain⟨t5,hx5⟩:=hx _ DF.u
   refine(if_neg (by rw[decide_eq_false hl];exact Bool.false_ne_true)).mpr (aI hx5 (v:=.str (fX wd)) (au (j:=1) rfl) ⟨rfl,b4 (fun e=>?_) (fun e=>?_)⟩)
   ·have ew:=(oC wd).mp e
    refine⟨.inl ⟨rfl,_,.of DF.y⟩,fun p6 iQ=>⟨tl,_,_,rfl,rfl,av.new iQ _ _ _ DF.y,by simp only[List.length_append,List.length_singleton];lia,?_⟩⟩
    have BK:=DF.app Fd iQ (g:=.b8 k) rfl (fun _=>.cons .str (.cons .int .nil))
    rw[show pre++[.row k]++[.b8 k]=pre++PG.IJ (k,wd,ws) by rw[show PG.IJ (k,wd,ws)=[.row k,.b8 k] by subst ew;rfl];simp] at BK
    exact fin _ _ _ ⟨_,_,rfl⟩ BK
   ·have ew:wd≠.b8:=fun z=>e ((oC wd).mpr z)
    have e:PG.IJ (k,wd,ws)=[.row k]:=by
     cases wd<;>first |rfl |exact absurd rfl ew |exact absurd rfl hw.1 |exact absurd rfl hw.2 |exact absurd (.inl rfl) hl |exact absurd (.inr rfl) hl
    rw[<- e] at DF
    exact fin _ _ _ ⟨_,_,rfl⟩ DF
 ·intro σ H3 hv
  obtain⟨z2,z3,us,pre,rfl,ti,lu,ep⟩:=(hX _ _ _).mp hv
  rw[WL,List.take_length,efl] at ep
  refine(gI _ _).mpr ?_
  walk_at "rd"
  refine⟨.inl ⟨rfl,_,.of ti.y⟩,fun p hp=>⟨tl,us,_,rfl,rfl,av.new hp _ _ _ ti.y,by lia,?_⟩⟩
  have DE:=ti.app Fd hp (g:=.fin) rfl (fun _=>.cons .str .nil)
  refine q tl _ _ DE.s Fd DE.y ?_
  unfold PG.IE
  rw[<- ep]
  exact DE.f.FZ
theorem QA(T:Tx K mg t):bQ P w K mg base fh 30 t.E1 t.uz ["script"] (Er K):=by
 have bt:=tm (P:=P) (w:=w) (base:=base) T
 have oZ:=DB (P:=P) (w:=w) (base:=base) T
 have g1:=nv (P:=P) (w:=w) (base:=base) T
 have g2:=yN (P:=P) (w:=w) (base:=base) T 4
 have g3:=Fe (P:=P) (w:=w) (base:=base) T
 have MR:=Ks (P:=P) (w:=w) (base:=base) T g1 g2 g3
 have GK:=DH (P:=P) (w:=w) (base:=base) T
 have BR:=zX (P:=P) (w:=w) (base:=base) T
 have xb:=vp (P:=P) (w:=w) (base:=base) T
 refine T.E2.F.kS JS (fun vs H Q E h=>?_) (fun fD A outer s H vs Q E hr h=>?_)
 ·obtain⟨_,_,rfl,_⟩:=h
  rfl
 obtain⟨a,ns,rfl,hS,Vc,q⟩:=h
 have nd:=JS.nd
 have hu:=fE hr
 refine⟨_,[some (V.ref a),none,none,none,none,none,none,none,none,none,none,none,none,none],(ae (aL (i:=1) nd rfl (Or.inr rfl) (bJ (aa (iu pB (pv 0) jL (jM aj)) (aa aj ah aR) ba)))
 (ae (aL (i:=2) nd rfl (Or.inl rfl) (bh cu (aG bt (hr.mono (by first|decide|omega)) rfl T.ax.m T.ax.F.kp T.ax.b .nil aX (aa (pv 1) ah ag)) aj))
 (ae (qH (aG oZ (hr.mono (by first|decide|omega)) rfl T.cN.m T.cN.F.kp T.cN.b .nil aX (aa (pv 1) (aa (pv 2) ah ag) ag)) (zd rfl (c6 (bu (i:=3) nd rfl (Or.inl rfl)) (c6 (bu (i:=4) nd rfl (Or.inl rfl)) pz))))
 (ae (aL (i:=5) nd rfl (Or.inl rfl) (aG BR (hr.mono (by first|decide|omega)) rfl T.ib.m T.ib.F.kp T.ib.b .nil aX (aa (pv 3) (aa (pv 4) ah ag) ag)))
 (ae (aL (i:=6) nd rfl (Or.inl rfl) (aG GK (hr.mono (by first|decide|omega)) rfl T.j8.m T.j8.F.kp T.j8.b .nil aX (aa (pv 3) ah ag)))
 (ae (fZ PassesOwn.never rfl (iT rfl T.jX (aa aj ah aR)) (bu (i:=7) nd rfl (Or.inl rfl))
 (ae (Ee (i:=8) nd rfl (Or.inl rfl) (own:=["j"]) (ix:=[1]) rfl (by rfl) (by rfl) (iT rfl T.jX (aa (bh cu (aG bt (hr.mono (by first|decide|omega)) rfl T.ax.m T.ax.F.kp T.ax.b .nil aX (aa (pv 1) ah ag)) (aD bf (bJ (cO (vs:=[.int 3,.int 13]) (by kernel_rfl))) (bh cu (pv 7) aj) kT)) ah ka)) (fun _ _ _ _=>(bu (i:=0) (by show List.Nodup (["j", "deck"]:List Str);decide +kernel) rfl (Or.inl rfl))) (fun _ _ _ _=>i9) (fun _ _ _ _=>(bh cu (aG bt (hr.mono (by first|decide|omega)) rfl T.ax.m T.ax.F.kp T.ax.b .nil aX (aa (pv 1) ah ag)) aj)))
 (ae (aL (i:=9) nd rfl (Or.inl rfl) (aG xb (hr.mono (by first|decide|omega)) rfl T.fc.m T.fc.F.kp T.fc.b .nil aX (aa (pv 5) (aa (pv 8) ah ag) ag)))
 (ae (aL (i:=10) nd rfl (Or.inl rfl) (bh cu (aG bt (hr.mono (by first|decide|omega)) rfl T.ax.m T.ax.F.kp T.ax.b .nil aX (aa (pv 1) ah ag)) (cw bG rfl T.ic PyProof.Rows.Boot.«len» (aa (pv 6) ah ag))))
 (aq (fZ PassesOwn.never rfl (dq (iu pB (bh HP (iu pB (pv 6) (jM (pv 10)) jL) (iu pB (pv 6) jL (jM (pv 10)))) jL (jM aj))) (bu (i:=11) nd rfl (Or.inl rfl))
 (ae (aL (i:=12) nd rfl (Or.inl rfl) (fK rR rfl T.uB PyProof.Rows.Boot.«list» (aa (pv 8) ah ag)))
 (ae (aL (i:=13) nd rfl (Or.inl rfl) (aG MR (hr.mono (by first|decide|omega)) rfl T.pP.m T.pP.F.kp T.pP.b .nil aX (aa (pv 3) (aa (pv 12) (aa (pv 11) ah ag) ag) ag)))
 (aq (bw (PW.pt (pw_or (Cf (mw (cw HX rfl T.nj PyProof.Rows.Boot.«isinstance» (aa (pv 13) (aa (Ld (v:=.ty "bool") rfl T.Dn PyProof.Rows.Boot.«bool» rfl) ah ag) ag)))) (pw_or (aK Hl (pv 13) (gX (Pq (LH hr)) (pv 11) (pv 9) rfl) (aT _)) (pw_or1 (aK (O0 (LH hr)) (pv 12) (pv 8) (aT _))))))
 (aq (aU uN))
 a9))))))))))
 (aq (aU (gX (LO (LH hr)) (aG oZ (hr.mono (by first|decide|omega)) rfl T.cN.m T.cN.F.kp T.cN.b .nil aX (aa (bJ (aa (iu pB (pv 0) jL (jM aj)) (aa aj ah aR) ba)) (aa (pv 2) ah ag) iV)) (bJ (aa (pv 3) (aa (pv 4) ah ag) ag)) (aT _)))))))))),rfl,?_⟩
 have line:sizeLine=2 ^ 24:=rfl
 refine aw fun U1 ff=>?_
 walk_at "rd"
 refine⟨_,rfl,a,_,rfl,hS,fun S ZU D hD=>(ff _ _).mpr ?_⟩
 clear ff
 rw[Nv ns Vc] at hD ⊢
 have sA:=(av.new ZU (.lst (ns.map V.int))).trans (av.new hD (.lst [V.ref S,V.int 0]))
 have ZV:S≠D:=ao ai hD
 have S0:H D=none:=yy (av.new ZU (.lst (ns.map V.int))) hD
 have dk:ig K (upd (upd H S (.lst (ns.map V.int))) D (.lst [V.ref S,V.int 0])) D S ns 0:=⟨ai,by rw[ay ZV];exact ai,ZV,Vc⟩
 generalize upd (upd H S (.lst (ns.map V.int))) D (.lst [V.ref S,V.int 0])=H1 at *
 refine aw fun U2 gI=>?_
 walk_at "rd"
 refine⟨D,S,ns,0,rfl,dk,by lia,fun H2 u2 xA=>⟨_,25,rfl,rfl,(by decide:(0:Int)<25),(gI _ _).mpr ?_⟩⟩
 clear gI
 have sB:av H H2:=fun z o e=>u2 z o (ao e S0) (sA z o e)
 have nxb:=PG.iW ns 0
 obtain⟨many,em⟩:∃many:Nat,PG.next ns 0%25=(many:Int):=⟨(PG.next ns 0%25).toNat,by lia⟩
 have lm:many<=24:=by lia
 simp only[em]
 refine aw fun U3 ik=>?_
 walk_at "rd"
 refine⟨D,S,ns,1,many,rfl,xA,by decide,by lia,fun l3 pa B bb R H3 u3 pR h3 PV nl np nB nbb nR fB fb fR=>?_⟩
 have sC:av H H3:=fun z o e=>u3 z o (ao e S0) (sB z o e)
 have rl:=PG.IK ns many 1
 have tx:=PG.FQ ns many 1
 have dB:=PG.A1 ns many 1
 have fl:=PG.x9 ns many 1
 have dp:=LP ns many 1
 have Ya:=PG.IS ns many 1
 have pw:=PG.IQ (PG.yj ns many 1).1
 have pos:=(PG.yj ns many 1).2
 have Yb:=PG.zi ns 1
 have Cd:=PG.xu ns 1
 have Yc:=PG.FX ns 1
 rw[<- PG.CT ns many 1] at Ya Yb Cd Yc
 generalize Sr:PG.cb ns many 1=pr at *
 obtain⟨pr,rows⟩:=pr
 simp only at rl tx dB fl Ya pw pos Yb Cd Yc fB fb fR
 obtain⟨nbx,tS⟩:=Yb
 have f28:(PG.b7 pr.body).length<=28:=by
  rw[fl]
  exact Nat.le_trans (List.length_filter_le _ _) (by lia)
 have dr:lO pr:=⟨⟨pw,nbx,by lia,fun s hs=>by
  have:=pos (s.row,s.wd) (by rw[<- PG.fL];exact List.mem_map.mpr ⟨s,hs,rfl⟩)
  exact this⟩,dB,by lia,Ya,Cd⟩
 have rp:∀ {H'},bc (·=D) H3 H'->Rep K H' (iZ pr) (.ref pa):=fun {H'} u=>by
  unfold iZ
  exact Rep.bq.mpr ⟨pa,_,rfl,.of (u _ _ np PV),.cons (fB _ u) (.cons (fb _ u) .nil)⟩
 have mny:gP pr<=29000:=by
  unfold gP
  rw[PG.JJ]
  have l1:(EX pr).length+1<=29:=by unfold EX;rw[List.length_map,lK];lia
  have l2:=PG.Bs (jB pr) fun s hs=>by
   obtain⟨b,hb,rfl⟩:=List.mem_map.mp hs
   exact(Cd b hb).2.1
  have l3:10 ^ (jB pr).length<=10 ^ 3:=Nat.pow_le_pow_right (by decide) (by unfold jB;rw[List.length_map];exact Yc)
  exact Nat.le_trans (Nat.mul_le_mul l1 (Nat.le_trans l2 l3)) (by decide)
 refine⟨l3,_,rfl,.of h3,rfl,_,_,rfl,_,_,rfl,rfl,(ik _ _).mpr (aw fun U4 i7=>?_)⟩
 clear ik
 simp only[List.set]
 obtain⟨p3,GW,pR⟩:=pR
 walk_at "rd"
 refine⟨pa,R,D,_,pr,rows,rfl,pR.bH,dr,rp fun b o n e=>by rw[mO n];exact e,fR.rep,by lia,tx,fun md H4 s4 ma=>(i7 _ _).mpr (aw fun U5 tf=>?_)⟩
 clear i7
 walk_at "rd"
 refine⟨.ref pa,pr,rfl,rp (.of s4),dB,by lia,fun tl pZ H5 s5 Fd y5 r5=>(tf _ _).mpr (aw fun U6 xm=>?_)⟩
 clear tf
 have Yd:=s4.trans s5
 have Dz:=pR.same Yd
 have ntl:tl≠D:=(ao (s4 _ _ pR.bH) Fd).symm
 have ltu:0<pZ.length/\pZ.length<=1000:=by
  rw[r5.length,List.length_map]
  unfold PG.IE
  rw[List.length_append,List.length_singleton]
  have k:∀l:List PG.Row,(l.flatMap PG.QL).length<=3*l.length:=fun l=>by
   induction l with
   |nil=>simp
   |cons a r ih=>rw[List.flatMap_cons,List.length_append,List.length_cons];have:=PG.Ex a;lia
  have:=k (PG.b7 pr.body)
  lia
 have sX:∀ {H'},bz D H5 H'->bc (·=D) H3 H':=fun {H'} u=>(bc.of Yd).trans (bc.one u rfl)
 have mX:∀ {H'},bz D H5 H'->jC K H' md pr:=fun {H'} u=>ma.mono (Gi ((bz.of s5).trans u))
 have tX:∀ {H'},bz D H5 H'->∀y∈pZ,∃g,Rep K H' (fj g) y:=fun {H'} u y hy=>by
  obtain⟨i,hi,rfl⟩:=List.mem_iff_getElem.mp hy
  have li:i<(PG.IE (PG.b7 pr.body)).length:=by have:=r5.length;rw[List.length_map] at this;lia
  obtain⟨v',B5,r⟩:=(wL Dz.bH u (vE _) r5).get (i:=i) (d:=fj (PG.IE (PG.b7 pr.body))[i]) (by rw[List.getElem?_map,List.getElem?_eq_getElem li];rfl)
  rw[List.getElem?_eq_getElem hi] at B5
  cases B5
  exact⟨_,r⟩
 refine lD fun U hU=>?_
 walk_at "rd"
 refine⟨_,rfl,by lia,by lia,hU _ _ ?_⟩
 clear hU
 rw[show (3:Int).toNat=3 from rfl]
 obtain⟨Pv,hX⟩:∃Pv:Nat->St->Hp->Prop,∀i σ Hx,Pv i σ Hx↔∃(z7 z8 z9 E6 Aw Ax Ay:Option V) (p:Nat),σ=[some (V.ref a),some (V.ref D),some (V.int many),some (V.ref pa),some (V.ref R),some (V.ref md),some (V.ref tl),z7,z8,z9,E6,Aw,Ax,Ay]/\bz D H5 Hx/\p<=91000+20*i/\ig K Hx D S ns p:=⟨_,fun _ _ _=>Iff.rfl⟩
 refine jY (lo:=0) (n:=3) Pv ((hX _ _ _).mpr ⟨_,_,_,_,_,_,_,_,rfl,.refl _ _,by lia,Dz⟩) (fun i σ Hx hi hv=>?_) (fun σ Hx hv=>?_)
 ·obtain⟨z7,z8,z9,E6,Aw,Ax,Ay,px,rfl,ux,KZ,ZW⟩:=(hX _ _ _).mp hv
  clear hv
  have done:=fun σ Gv=>(hX (i+1) σ Gv).mpr
  simp only[fC,List.set]
  refine aw fun V1 GD=>?_
  walk_at "rd"
  simp only[kA]
  walk_at "rd"
  refine⟨D,S,ns,px,rfl,ZW,by lia,fun H6 u6 PZ=>?_⟩
  intro bl hbl
  have s7:=av.new hbl (.lst [V.int 3,V.int 13])
  have nb:=PG.iW ns px
  obtain⟨T1,emd,Qw⟩:∃z:Int,qJ [V.int 3,V.int 13] ((0+(i:Int))%2)=some (V.int z)/\0<z/\z<=13:=by
   have:(0+(i:Int))%2=0\/(0+(i:Int))%2=1:=by lia
   rcases this with e |e<;>rw[e]
   ·exact⟨3,au (j:=0) rfl,by decide⟩
   ·exact⟨13,au (j:=1) rfl,by decide⟩
  refine bC (.of ai) (v:=.int T1) emd ⟨_,T1,rfl,rfl,Qw.1,?_⟩
  have UG:=PZ.same s7
  have u57:=ux.trans (u6.trans (.of s7))
  generalize upd H6 bl (.lst [V.int 3,V.int 13])=H7 at *
  have m1:=Int.emod_nonneg (PG.next ns px) (b:=T1) (by lia)
  have m2:=Int.emod_lt_of_pos (PG.next ns px) (b:=T1) Qw.1
  refine⟨_,rfl,by lia,by lia,fun FL Ye=>?_⟩
  obtain⟨nf,enf⟩:∃nf:Nat,(PG.next ns px%T1).toNat=nf:=⟨_,rfl⟩
  have lnf:nf<=12:=by lia
  rw[enf]
  refine Dh (K:=K) (r:=[some (V.ref D)]) (fun n=>0<=n/\n<=9) (by lia) Ye UG (fun j x H2 hj u2 d2 R2 hR=>?_) (fun aW H8 lf of_ u8 UH y8=>(GD _ _).mpr (aw fun V2 GF=>?_))
  ·walk_at "rd"
   exact⟨D,S,ns,px+1+j,rfl,d2,by lia,fun H3 u3 d3=>⟨_,10,rfl,rfl,(by decide:(0:Int)<10),hR _ _ ⟨by lia,by lia⟩ u3 d3⟩⟩
  clear GD
  have nFL:FL≠D:=fun z=>by rw[z,UG.bH] at Ye;cases Ye
  have ZX:=u57.trans u8
  have BO:(aW.length+2)*(gP pr+2)<=4000000:=Nat.le_trans (Nat.mul_le_mul (show aW.length+2<=14 by lia) (show gP pr+2<=29002 by lia)) (by decide)
  walk_at "rd"
  refine⟨md,FL,pr,aW,rfl,mX ZX,dr,.of y8,by lia,BO,fun dl ZY Vd H9 s9 Ss ZZ hdu=>(GF _ _).mpr (aw fun V3 K6=>?_)⟩
  clear GF
  have NR:=UH.same s9
  have To:dl≠D:=(ao UH.bH Ss).symm
  walk_at "rd"
  refine⟨D,S,ns,_,rfl,NR,by lia,fun pW Qc wZ=>?_⟩
  have T2:=ZX.trans ((bz.of s9).trans Qc)
  have NM:=T2 _ _ ntl y5
  refine⟨tl,_,rfl,.inl (.of NM),_,_,rfl,rfl,by lia,(K6 _ _).mpr ?_⟩
  clear K6
  have Yf:nE K pW dl ZY Vd:=⟨Qc _ _ To ZZ.1,wL NR.bH Qc (vE _) ZZ.2⟩
  have Yg:pW FL=some (.lst (aW.map V.int)):=Qc _ _ nFL (s9 _ _ y8)
  obtain⟨at_,eat⟩:∃z:Int,PG.next ns (px+1+nf)%(pZ.length:Int)=z:=⟨_,rfl⟩
  simp only[eat]
  refine iy fun U hU=>?_
  walk_at "rd"
  refine⟨_,rfl,tl,pZ,rfl,.of NM,fun p1 GZ=>?_⟩
  have JX:=av.new GZ (.lst (cQ pZ (some at_) none))
  refine⟨_,rfl,tl,pZ,rfl,.of (JX _ _ NM),fun p2 xt=>?_⟩
  have K1:=av.new xt (.lst (cQ pZ none (some at_)))
  refine⟨p1,p2,_,_,rfl,rfl,K1 _ _ ai,ai,?_,fun p3 GW=>?_⟩
  ·have:=dG pZ (some at_) none
   have:=dG pZ none (some at_)
   lia
  have QM:=av.new GW (.lst (cQ pZ (some at_) none++cQ pZ none (some at_)))
  refine⟨8,rfl,p3,_,rfl,.of ai,fun p4 tT=>⟨p4,rfl,⟨_,.of ai⟩,hU _ _ ?_⟩⟩
  clear hU
  have Gw:=av.new tT (.lst (cQ (cQ pZ (some at_) none++cQ pZ none (some at_)) none (some 8)))
  have K2:(upd (upd (upd (upd pW p1 (.lst (cQ pZ (some at_) none))) p2 (.lst (cQ pZ none (some at_)))) p3 (.lst (cQ pZ (some at_) none++cQ pZ none (some at_)))) p4 (.lst (cQ (cQ pZ (some at_) none++cQ pZ none (some at_)) none (some 8)))) p4=some (.lst (cQ (cQ pZ (some at_) none++cQ pZ none (some at_)) none (some 8))):=ai
  have Fi:=JX.trans (K1.trans (QM.trans Gw))
  have inT:∀y∈cQ (cQ pZ (some at_) none++cQ pZ none (some at_)) none (some 8),y∈pZ:=fun y hy=>by
   rcases List.mem_append.mp (zx hy) with h |h
   ·exact zx h
   ·exact zx h
  clear JX K1 QM Gw
  generalize upd (upd (upd (upd pW p1 (.lst (cQ pZ (some at_) none))) p2 (.lst (cQ pZ none (some at_)))) p3 (.lst (cQ pZ (some at_) none++cQ pZ none (some at_)))) p4 (.lst (cQ (cQ pZ (some at_) none++cQ pZ none (some at_)) none (some 8)))=SR at *
  generalize cQ (cQ pZ (some at_) none++cQ pZ none (some at_)) none (some 8)=xs at *
  have QB:=T2.trans (.of Fi)
  have T3:=Yf.mono Fi
  have T4:=Fi _ _ Yg
  have Yh:=wZ.same Fi
  obtain⟨Pw,w8⟩:∃Pw:Nat->St->Hp->Prop,∀j σ Hy,Pw j σ Hy↔∃(Aw Ax Ay:Option V),σ=[some (V.ref a),some (V.ref D),some (V.int many),some (V.ref pa),some (V.ref R),some (V.ref md),some (V.ref tl),some (V.int (0+(i:Int))),some (V.ref FL),some (V.ref dl),some (V.int at_),Aw,Ax,Ay]/\av SR Hy:=⟨_,fun _ _ _=>Iff.rfl⟩
  refine ip (K:=K) (a:=p4) (xs:=xs) Pw ((w8 _ _ _).mpr ⟨_,_,_,rfl,av.refl _⟩) (fun j σ Hy _ hv=>?_) ?_ ?_
  ·obtain⟨_,_,_,_,sy⟩:=(w8 _ _ _).mp hv
   exact .of (sy _ _ K2)
  ·intro j y σ Hy hj hv
   obtain⟨Aw,Ax,Ay,rfl,sy⟩:=(w8 _ _ _).mp hv
   clear hv
   have w9:=fun σ Gv=>(w8 (j+1) σ Gv).mpr
   obtain⟨g,rg⟩:=tX (QB.trans (.of sy)) y (inT y (List.mem_of_getElem? hj))
   simp only[fC,List.set]
   refine aw fun W1 Z0=>?_
   walk_at "rd"
   refine⟨FL,_,rfl,.inl (.of (sy _ _ T4)),fun HD hHD=>(Z0 _ _).mpr (aw fun W2 Z1=>?_)⟩
   clear Z0
   have Gx:=av.new hHD (.lst (aW.map V.int))
   have Z2:(upd Hy HD (.lst (aW.map V.int))) HD=some (.lst (aW.map V.int)):=ai
   generalize upd Hy HD (.lst (aW.map V.int))=MB at *
   have T5:=sy.trans Gx
   walk_at "rd"
   refine⟨.ref pa,HD,y,pr,aW,g,rfl,dr,rp (sX (QB.trans (.of T5))),.of Z2,by lia,BO,rg.mono Gx,fun b QV Gy hb=>(Z1 _ _).mpr ?_⟩
   clear Z1
   have MS:=T5.trans Gy
   have eb:b=decide (g∈Vd):=by
    rw[Bool.eq_iff_iff,hb,decide_eq_true_iff]
    exact(hdu g).symm
   walk_at "rd"
   refine⟨_,_,_,true,rfl,.bl _,by kernel_rfl,(if_neg (by decide)).mpr ⟨fj g,Vd.map fj,rg.mono (Gx.trans Gy),Rep.bI.mpr ⟨dl,ZY,rfl,.of (MS _ _ T3.1),T3.2.mono MS⟩,(JN g).1,(C3 Vd).1,(JN g).2,?_⟩⟩
   rw[Pu]
   refine⟨rfl,(if_pos (by rw[eb])).mpr ⟨_,_,Bq (.of (Gy _ _ Z2)),Bq (.of (MS _ _ T4)),Br _,Br _,?_⟩⟩
   rw[eqv_refl]
   exact⟨_,rfl,(if_neg (by decide)).mpr (w9 _ _ ⟨_,_,_,rfl,MS⟩)⟩
  ·intro σ Hy hv
   obtain⟨Aw,Ax,Ay,rfl,sy⟩:=(w8 _ _ _).mp hv
   exact done _ _ ⟨_,_,_,_,_,_,_,_,rfl,QB.trans (.of sy),by lia,Yh.same sy⟩
 ·obtain⟨z7,z8,z9,E6,Aw,Ax,Ay,px,rfl,ux,KZ,ZW⟩:=(hX _ _ _).mp hv
  refine(xm _ _).mpr ?_
  clear xm
  have sD:av H Hx:=fun z o e=>ux z o (ao e S0) ((sC.trans Yd) z o e)
  walk_at "rd"
  refine⟨63,rfl,a,ns.map V.int,rfl,sD.seq hS,fun S9 Z3 D9 MA=>?_⟩
  rw[Nv ns Vc] at MA ⊢
  have qu:=(av.new Z3 (.lst (ns.map V.int))).trans (av.new MA (.lst [V.ref S9,V.int 1]))
  have n9:S9≠D9:=ao ai MA
  have Yi:Hx D9=none:=yy (av.new Z3 (.lst (ns.map V.int))) MA
  have wZ:ig K (upd (upd Hx S9 (.lst (ns.map V.int))) D9 (.lst [V.ref S9,V.int 1])) D9 S9 ns 1:=⟨ai,by rw[ay n9];exact ai,n9,Vc⟩
  generalize upd (upd Hx S9 (.lst (ns.map V.int))) D9 (.lst [V.ref S9,V.int 1])=pW at *
  refine⟨D9,S9,ns,1,many,rfl,wZ,by decide,by lia,fun l t1 B' b' R' NO Av _ e1 e2 _ _ _ _ _ f1 f2 f3 Ve Yj=>?_⟩
  rw[Sr] at f1 f2 f3
  have Gw:=av.new Yj (.lst [V.ref pa,V.ref R])
  have Z4:bc (·=D) H3 (upd NO Ve (.lst [V.ref pa,V.ref R])):=fun z o n e=>Gw _ _ (Av z o (ao (sX ux z o n e) Yi) (qu _ _ (sX ux z o n e)))
  have WI:Rep K NO (F2 (pr,rows)) (.ref l):=by
   unfold F2 iZ
   exact Rep.bI.mpr ⟨l,_,rfl,.of e1,.cons (Rep.bq.mpr ⟨t1,_,rfl,.of e2,.cons f1.rep (.cons f2.rep .nil)⟩) (.cons f3.rep .nil)⟩
  have UC:Rep K (upd NO Ve (.lst [V.ref pa,V.ref R])) (F2 (pr,rows)) (.ref Ve):=by
   unfold F2
   exact Rep.bI.mpr ⟨Ve,_,rfl,.of ai,.cons (rp Z4) (.cons (fR _ Z4) .nil)⟩
  exact⟨_,WI.mono Gw,UC,⟨_,rfl⟩,dp,q _⟩
end
end PF
end
section
set_option maxHeartbeats 4000000
namespace PF
open PySem L2
section
variable{P:Program}{w:World}{K:PySem.W.Frag}{mg:Str->Option Value}{base:Heap}
theorem all_mk{l:PySem.W.OpenLaw}{h:Heap}{fa:Addr}(X:K.In h)(G:h.Ns mainGlobals mg)(X0:mg "law"=some (.ref fa))
 {qW dM eA fM j4 gh cA mW lW km kn sS lX dN lY sU iG oS eC ko iH iI iJ gQ gk jr lZ js cL fw gm jt c8 gS kr fH gp E1:Addr}
 {aY:Addr}
 {dw:Addr} {xH qw:Option Addr} {xI:Array (Option Value)} {xJ qx qy qz la qA:Value}
 {bZ:Addr}
 {eG:Addr} {zY tH:Option Addr} {zZ:Array (Option Value)} {Aa tI tJ tK ny tL:Value}
 {bP:Addr} {o9 ju:Option Addr} {pd:Array (Option Value)} {pf jv jw jx gA jy:Value}
 {cg:Addr} {tM kM:Option Addr} {tO:Array (Option Value)} {tP kN kO kP iP kQ:Value}
 {dy:Addr} {xK qB:Option Addr} {xM:Array (Option Value)} {xN qC qD qE lh qF:Value}
 {T6:_}
 (QC:FH K "flow" Dm qW)
 (xc:FH K "flow_of_body" ke dM)
 (BS:FH K "first_row" oI eA)
 (xO:FH K "behind_body" kU fM)
 (GL:FH K "ways_of" uq j4)
 (BU:FH K "bodies_in" oJ gh)
 (vt:FH K "statements_in" jD cA)
 (MT:FH K "worth" zy mW)
 (GN:FH K "word_at" ur lW)
 (DI:FH K "by_names" qT km)
 (DJ:FH K "in_order" qU kn)
 (MU:FH K "holds" zz sS)
 (GO:FH K "step_by" uv lX)
 (rn:FH K "behind_condition" hV dN)
 (GP:FH K "targets" uw lY)
 (MV:FH K "meets" zF sU)
 (Ab:FH K "targets_at" mQ iG)
 (Kv:FH K "met_by" wM oS)
 (BV:FH K "_law_next" oK eC)
 (Kw:FH K "_law_e" wN ko)
 (Ac:FH K "_law_boxes" mS iH)
 (Ae:FH K "_law_plain" mT iI)
 (Ag:FH K "_law_close" mU iJ)
 (xP:FH K "_law_number" kW gQ)
 (xf:FH K "_law_program" kg gk)
 (BW:FH K "_law_ends" oM jr)
 (GQ:FH K "_law_to" uy lZ)
 (BX:FH K "_law_ways" oN js)
 (tQ:FH K "_law_statements" iF cL)
 (Ah:FH K "_law_worth" mV fw)
 (xg:FH K "_law_stepped" kh gm)
 (BY:FH K "_law_made" oO jt)
 (pj:FH K "_law_next_standing" gf c8)
 (xQ:FH K "_law_is_ask" kX gS)
 (DK:FH K "_law_met" qV kr)
 (vv:FH K "_law_till_ask" jE fH)
 (xh:FH K "_law_all_met" ki gp)
 (N8:FH K "law" JR E1)
 (MW:PySem.W.nsIn K mainGlobals "Chart"=some (some (.ref aY)))
 (Kx:PySem.W.plainGet K aY Str.empty=true)
 (Ky:PySem.W.hasDictIn K aY=true)
 (Kz:PySem.W.plainOver K aY=true)
 (KA:PySem.W.findIn K (.ref aY) "__setattr__"=some (some (.builtin "object.__setattr__")))
 (Ai:PySem.W.findIn K (.ref aY) "__init__"=some (some (.ref dw)))
 (Aj:K.lookup dw=some ⟨xJ,xH,.func (PySem.W.fnOf "__init__" "Chart.__init__" (eU du) (dP du) (aO du) .none qx qy qz qw la qA),xI⟩)
 (Ak:PySem.W.codeIn K la "Chart.__init__"=true)
 (Al:PySem.W.keepIn K (.ref dw)=true)
 (Am:PySem.W.isFn K (.ref dw)=true)
 (wW:PySem.W.makesIn K aY=true)
 (KC:PySem.W.keepIn K (.ref aY)=true)
 (gv:PySem.W.findIn K (.ref aY) "names"=some none)
 (gw:PySem.W.findIn K (.ref aY) "sizes"=some none)
 (iN:PySem.W.findIn K (.ref aY) "first"=some none)
 (cP:PySem.W.findIn K (.ref aY) "statements"=some none)
 (fP:PySem.W.findIn K (.ref aY) "ways"=some none)
 (QD:PySem.W.nsIn K mainGlobals "Walk"=some (some (.ref bZ)))
 (MX:PySem.W.plainGet K bZ Str.empty=true)
 (MY:PySem.W.hasDictIn K bZ=true)
 (MZ:PySem.W.plainOver K bZ=true)
 (M0:PySem.W.findIn K (.ref bZ) "__setattr__"=some (some (.builtin "object.__setattr__")))
 (BZ:PySem.W.findIn K (.ref bZ) "__init__"=some (some (.ref eG)))
 (B0:K.lookup eG=some ⟨Aa,zY,.func (PySem.W.fnOf "__init__" "Walk.__init__" (eU eu) (dP eu) (aO eu) .none tI tJ tK tH ny tL),zZ⟩)
 (B1:PySem.W.codeIn K ny "Walk.__init__"=true)
 (B2:PySem.W.keepIn K (.ref eG)=true)
 (B3:PySem.W.isFn K (.ref eG)=true)
 (zJ:PySem.W.makesIn K bZ=true)
 (M1:PySem.W.keepIn K (.ref bZ)=true)
 (p0:PySem.W.findIn K (.ref bZ) "look_for_end"=some (some (.ref bP)))
 (p9:K.lookup bP=some ⟨pf,o9,.func (PySem.W.fnOf "look_for_end" "Walk.look_for_end" (eU bO) (dP bO) (aO bO) .none jv jw jx ju gA jy),pd⟩)
 (qa:PySem.W.codeIn K gA "Walk.look_for_end"=true)
 (jK:PySem.W.keepIn K (.ref bP)=true)
 (qb:PySem.W.isFn K (.ref bP)=true)
 (uI:PySem.W.findIn K (.ref bZ) "is_at_ask"=some (some (.ref cg)))
 (uJ:K.lookup cg=some ⟨tP,tM,.func (PySem.W.fnOf "is_at_ask" "Walk.is_at_ask" (eU cf) (dP cf) (aO cf) .none kN kO kP kM iP kQ),tO⟩)
 (uK:PySem.W.codeIn K iP "Walk.is_at_ask"=true)
 (mq:PySem.W.keepIn K (.ref cg)=true)
 (uL:PySem.W.isFn K (.ref cg)=true)
 (An:PySem.W.findIn K (.ref bZ) "go_on"=some (some (.ref dy)))
 (Ao:K.lookup dy=some ⟨xN,xK,.func (PySem.W.fnOf "go_on" "Walk.go_on" (eU dv) (dP dv) (aO dv) .none qC qD qE qB lh qF),xM⟩)
 (Ap:PySem.W.codeIn K lh "Walk.go_on"=true)
 (tR:PySem.W.keepIn K (.ref dy)=true)
 (Aq:PySem.W.isFn K (.ref dy)=true)
 (gU:PySem.W.findIn K (.ref bZ) "chart"=some none)
 (fI:PySem.W.findIn K (.ref bZ) "figures"=some none)
 (fQ:PySem.W.findIn K (.ref bZ) "taken"=some none)
 (bS:PySem.W.findIn K (.ref bZ) "standing"=some none)
 (gx:PySem.W.findIn K (.ref bZ) "end"=some none)
 (T7:PySem.W.nsIn K mainGlobals "END"=some (some (.int 0 T6)))
 (ic:PySem.W.nsIn K mainGlobals "len"=some none)
 (jX:PySem.W.nsIn K mainGlobals "range"=some none)
 (Dn:PySem.W.nsIn K mainGlobals "bool"=some none)
 (oT:PySem.W.nsIn K mainGlobals "dict"=some none)
 (uB:PySem.W.nsIn K mainGlobals "list"=some none)
 (sW:PySem.W.nsIn K mainGlobals "tuple"=some none)
 (JU:PySem.W.nsIn K mainGlobals "max"=some none)
 (JV:PySem.W.nsIn K mainGlobals "min"=some none)
 (nj:PySem.W.nsIn K mainGlobals "isinstance"=some none)
 (oU:PySem.W.nsIn K mainGlobals "enumerate"=some none)
 (BB:PySem.W.nsIn K mainGlobals "zip"=some none)
 : ∃fd:FuncData,(∀(s:Shared) (v:Value),BindsTo s fd ⟨[v],[]⟩ [("script",v)])/\∀base:Heap,K.In base->base.Ns mainGlobals mg->bQ l.prog w K mg base fh 30 fa fd ["script"] (Er K):=by
 have e:=X0.symm.trans (PySem.W.mg_of X G N8.1)
 cases e
 obtain⟨pN,nh⟩:=nC X G QC (ps:=["program"]) fun _ _ _ _ _ _=>EV fun _=>rfl
 obtain⟨dX,cM⟩:=nC X G xc (ps:=["body", "behind"]) fun _ _ _ _ _ _=>yB fun _ _=>rfl
 obtain⟨eB,bN⟩:=nC X G BS (ps:=["body", "behind"]) fun _ _ _ _ _ _=>yB fun _ _=>rfl
 obtain⟨gg,fO⟩:=nC X G xO (ps:=["statement", "after"]) fun _ _ _ _ _ _=>yB fun _ _=>rfl
 obtain⟨kl,j6⟩:=nC X G GL (ps:=["statement", "after"]) fun _ _ _ _ _ _=>yB fun _ _=>rfl
 obtain⟨gB,eI⟩:=nC X G BU (ps:=["statement"]) fun _ _ _ _ _ _=>EV fun _=>rfl
 obtain⟨cD,cB⟩:=nC X G vt (ps:=["body"]) fun _ _ _ _ _ _=>EV fun _=>rfl
 obtain⟨lV,cW⟩:=nC X G MT (ps:=["e", "values"]) fun _ _ _ _ _ _=>yB fun _ _=>rfl
 obtain⟨mY,dY⟩:=nC X G GN (ps:=["chart", "row"]) fun _ _ _ _ _ _=>yB fun _ _=>rfl
 obtain⟨kH,fz⟩:=nC X G DI (ps:=["chart", "parts"]) fun _ _ _ _ _ _=>yB fun _ _=>rfl
 obtain⟨kI,i4⟩:=nC X G DJ (ps:=["chart", "named"]) fun _ _ _ _ _ _=>yB fun _ _=>rfl
 obtain⟨sT,g8⟩:=nC X G MU (ps:=["chart", "standing"]) fun _ _ _ _ _ _=>yB fun _ _=>rfl
 obtain⟨mZ,j7⟩:=nC X G GO (ps:=["chart", "standing", "figure"]) fun _ _ _ _ _ _=>NK fun _ _ _=>rfl
 obtain⟨eV,cT⟩:=nC X G rn (ps:=["chart", "standing"]) fun _ _ _ _ _ _=>yB fun _ _=>rfl
 obtain⟨m7,j8⟩:=nC X G GP (ps:=["program"]) fun _ _ _ _ _ _=>EV fun _=>rfl
 obtain⟨sV,pP⟩:=nC X G MV (ps:=["program", "figures", "target"]) fun _ _ _ _ _ _=>NK fun _ _ _=>rfl
 obtain⟨jc,gD⟩:=nC X G Ab (ps:=["chart", "standing"]) fun _ _ _ _ _ _=>yB fun _ _=>rfl
 obtain⟨pO,l0⟩:=nC X G Kv (ps:=["chart", "figures"]) fun _ _ _ _ _ _=>yB fun _ _=>rfl
 obtain⟨eE,ax⟩:=nC X G BV (ps:=["deck"]) fun _ _ _ _ _ _=>EV fun _=>rfl
 obtain⟨j5,bR⟩:=nC X G Kw (ps:=["deck", "boxes", "deep"]) fun _ _ _ _ _ _=>NK fun _ _ _=>rfl
 obtain⟨jd,gE⟩:=nC X G Ac (ps:=["deck"]) fun _ _ _ _ _ _=>EV fun _=>rfl
 obtain⟨je,gF⟩:=nC X G Ae (ps:=["deck", "boxes", "k"]) fun _ _ _ _ _ _=>NK fun _ _ _=>rfl
 obtain⟨jf,dC⟩:=nC X G Ag (ps:=["pile"]) fun _ _ _ _ _ _=>EV fun _=>rfl
 obtain⟨iK,cX⟩:=nC X G xP (ps:=["boxes", "rows", "mode"]) fun _ _ _ _ _ _=>NK fun _ _ _=>rfl
 obtain⟨gY,cN⟩:=nC X G xf (ps:=["deck", "many"]) fun _ _ _ _ _ _=>yB fun _ _=>rfl
 obtain⟨jS,eJ⟩:=nC X G BW (ps:=["rows"]) fun _ _ _ _ _ _=>EV fun _=>rfl
 obtain⟨m8,dZ⟩:=nC X G GQ (ps:=["rows", "matches", "at"]) fun _ _ _ _ _ _=>NK fun _ _ _=>rfl
 obtain⟨jT,ia⟩:=nC X G BX (ps:=["rows"]) fun _ _ _ _ _ _=>EV fun _=>rfl
 obtain⟨cS,b5⟩:=nC X G tQ (ps:=["body"]) fun _ _ _ _ _ _=>EV fun _=>rfl
 obtain⟨fN,a7⟩:=nC X G Ah (ps:=["e", "values"]) fun _ _ _ _ _ _=>yB fun _ _=>rfl
 obtain⟨gZ,eZ⟩:=nC X G xg (ps:=["boxes", "statement", "ways", "values", "figure"]) fun _ _ _ _ _ _=>bn5 fun _ _ _ _ _=>rfl
 obtain⟨jU,ib⟩:=nC X G BY (ps:=["program", "rows"]) fun _ _ _ _ _ _=>yB fun _ _=>rfl
 obtain⟨dR,bK⟩:=nC X G pj (ps:=["made", "standing", "figure"]) fun _ _ _ _ _ _=>NK fun _ _ _=>rfl
 obtain⟨iL,cY⟩:=nC X G xQ (ps:=["made", "standing"]) fun _ _ _ _ _ _=>yB fun _ _=>rfl
 obtain⟨kJ,i6⟩:=nC X G DK (ps:=["made", "standing"]) fun _ _ _ _ _ _=>yB fun _ _=>rfl
 obtain⟨gC,d7⟩:=nC X G vv (ps:=["made", "standing"]) fun _ _ _ _ _ _=>yB fun _ _=>rfl
 obtain⟨g7,fc⟩:=nC X G xh (ps:=["made", "figures"]) fun _ _ _ _ _ _=>yB fun _ _=>rfl
 obtain⟨uz,E2⟩:=nC X G N8 (ps:=["script"]) fun _ _ _ _ _ _=>EV fun _=>rfl
 have jV:=tY (st:=du) Aj Ak Al
 have Ar:=jV.binds (ps:=["self", "program"]) fun _ _ _ _ _ _=>yB fun _ _=>rfl
 have kK:=tY (st:=eu) B0 B1 B2
 have B4:=kK.binds (ps:=["self", "chart", "figures"]) fun _ _ _ _ _ _=>NK fun _ _ _=>rfl
 have eW:=tY (st:=bO) p9 qa jK
 have qc:=eW.binds (ps:=["self"]) fun _ _ _ _ _ _=>EV fun _=>rfl
 have gG:=tY (st:=cf) uJ uK mq
 have uM:=gG.binds (ps:=["self"]) fun _ _ _ _ _ _=>EV fun _=>rfl
 have jW:=tY (st:=dv) Ao Ap tR
 have As:=jW.binds (ps:=["self"]) fun _ _ _ _ _ _=>EV fun _=>rfl
 let t:Ad:=⟨qW,
  pN,
  dM,
  dX,
  eA,
  eB,
  fM,
  gg,
  j4,
  kl,
  gh,
  gB,
  cA,
  cD,
  mW,
  lV,
  lW,
  mY,
  km,
  kH,
  kn,
  kI,
  sS,
  sT,
  lX,
  mZ,
  dN,
  eV,
  lY,
  m7,
  sU,
  sV,
  iG,
  jc,
  oS,
  pO,
  eC,
  eE,
  ko,
  j5,
  iH,
  jd,
  iI,
  je,
  iJ,
  jf,
  gQ,
  iK,
  gk,
  gY,
  jr,
  jS,
  lZ,
  m8,
  js,
  jT,
  cL,
  cS,
  fw,
  fN,
  gm,
  gZ,
  jt,
  jU,
  c8,
  dR,
  gS,
  iL,
  kr,
  kJ,
  fH,
  gC,
  gp,
  g7,
  fa,
  uz,
  dw,
  PySem.W.fnOf "__init__" "Chart.__init__" (eU du) (dP du) (aO du) .none qx qy qz qw la qA,
  eG,
  PySem.W.fnOf "__init__" "Walk.__init__" (eU eu) (dP eu) (aO eu) .none tI tJ tK tH ny tL,
  bP,
  PySem.W.fnOf "look_for_end" "Walk.look_for_end" (eU bO) (dP bO) (aO bO) .none jv jw jx ju gA jy,
  cg,
  PySem.W.fnOf "is_at_ask" "Walk.is_at_ask" (eU cf) (dP cf) (aO cf) .none kN kO kP kM iP kQ,
  dy,
  PySem.W.fnOf "go_on" "Walk.go_on" (eU dv) (dP dv) (aO dv) .none qC qD qE qB lh qF,
  aY,
  bZ⟩
 have T:Tx K mg t:=⟨nh,
  cM,
  bN,
  fO,
  j6,
  eI,
  cB,
  cW,
  dY,
  fz,
  i4,
  g8,
  j7,
  cT,
  j8,
  pP,
  gD,
  l0,
  ax,
  bR,
  gE,
  gF,
  dC,
  cX,
  cN,
  eJ,
  dZ,
  ia,
  b5,
  a7,
  eZ,
  ib,
  bK,
  cY,
  i6,
  d7,
  fc,
  E2,
  jV,
  Ar,
  kK,
  B4,
  eW,
  qc,
  ⟨p0,qb,jK⟩,
  gG,
  uM,
  ⟨uI,uL,mq⟩,
  jW,
  As,
  ⟨An,Aq,tR⟩,
  ⟨Kx,Ky,Kz,KA⟩,
  PySem.W.mg_of X G MW,
  ⟨wW,Ai,Am,KC⟩,
  gv,
  gw,
  iN,
  cP,
  fP,
  ⟨MX,MY,MZ,M0⟩,
  PySem.W.mg_of X G QD,
  ⟨zJ,BZ,B3,M1⟩,
  gU,
  fI,
  fQ,
  bS,
  gx,
  ⟨_,PySem.W.mg_of X G T7,_,rfl⟩,
  PySem.W.mg_none_of X G ic,
  PySem.W.mg_none_of X G jX,
  PySem.W.mg_none_of X G Dn,
  PySem.W.mg_none_of X G oT,
  PySem.W.mg_none_of X G uB,
  PySem.W.mg_none_of X G sW,
  PySem.W.mg_none_of X G JU,
  PySem.W.mg_none_of X G JV,
  PySem.W.mg_none_of X G nj,
  PySem.W.mg_none_of X G oU,
  PySem.W.mg_none_of X G BB⟩
 obtain⟨_,_,_,_,_,_,_,_,_,z,_⟩:=E2.F.ex
 exact⟨t.uz,fun s v=>by rw[show t.uz=_ from z];exact .of_eq rfl,fun base _ _=>QA T⟩
theorem walk{l:PySem.W.OpenLaw}{q:Program}{loose:List Str}{XP:(Str->Option Value)->Heap->Prop}{YP:World->Heap->Prop}{d:DefRec}{K:Params->PySem.W.Frag}(hn:l.most=some 63)(RT:d.params.defaults=[])
 (hY:∀(w:World) (h:Heap),YP w h->(K w.params).In h)
 (F:∀(w:World) (mg:Str->Option Value) (fa:Addr) (h:Heap),(K w.params).In h->h.Ns mainGlobals mg->mg d.name=some (.ref fa)->
  ∃fd:FuncData,(∀(s:Shared) (u:Value),BindsTo s fd ⟨[u],[]⟩ [("script",u)])/\∀base:Heap,(K w.params).In base->base.Ns mainGlobals mg->bQ l.prog w (K w.params) mg base fh 30 fa fd ["script"] (Er (K w.params))) :
 PySem.W.WalkO q loose XP YP l.row.toRowW d [] (fun f vs=>PySem.call f vs):=
 L2.Lo (n:=63) (k:=30) (x:="script") (CX:=fun _=>fh) (sp:=fun w=>Er (K w.params)) hn (by decide) RT ⟨rfl,by decide,by decide⟩ hY F (fun _ _ a ns hl _ hS=>⟨a,ns,rfl,hS,hl,fun _=>rfl⟩) fun _ _ _ _ _ z=>z
end
end PF
end
namespace PySem.W.Fast
theorem tw10120731923223623455:True:=trivial
theorem tw10257601938619099340:True:=trivial
theorem tw10493189381923493827:True:=trivial
theorem tw10747712051756665196:True:=trivial
theorem tw10817084635964519855:True:=trivial
theorem tw10881537676298556622:True:=trivial
theorem tw11079205424862246888:True:=trivial
theorem tw11126785339601600384:True:=trivial
theorem tw11127870827387364611:True:=trivial
theorem tw1126353975233712977:True:=trivial
theorem tw11270214083970180538:True:=trivial
theorem tw11406759567527258155:True:=trivial
theorem tw11444577003891939437:True:=trivial
theorem tw11640724695203826620:True:=trivial
theorem tw12042016978122083979:True:=trivial
theorem tw12145537796308653285:True:=trivial
theorem tw12349114212224569489:True:=trivial
theorem tw12577539891392580370:True:=trivial
theorem tw12682888396180570576:True:=trivial
theorem tw1285841198654433951:True:=trivial
theorem tw13312656813027892680:True:=trivial
theorem tw13440829280566342579:True:=trivial
theorem tw13465146929786567697:True:=trivial
theorem tw13482270415143743499:True:=trivial
theorem tw13701168333117740461:True:=trivial
theorem tw13816336629307549440:True:=trivial
theorem tw13946431579841361292:True:=trivial
theorem tw13962893041683769450:True:=trivial
theorem tw14036029113813918075:True:=trivial
theorem tw14059534732840177501:True:=trivial
theorem tw14059672961680036946:True:=trivial
theorem tw14152662548992637937:True:=trivial
theorem tw15052220144565978701:True:=trivial
theorem tw15183037558392229712:True:=trivial
theorem tw15321916591176512588:True:=trivial
theorem tw15582519957169276497:True:=trivial
theorem tw1580709754797589501:True:=trivial
theorem tw15902192991250539513:True:=trivial
theorem tw15913596784498631117:True:=trivial
theorem tw15996219971623342821:True:=trivial
theorem tw16109157975379441417:True:=trivial
theorem tw16276358669556454955:True:=trivial
theorem tw16603940503003771746:True:=trivial
theorem tw16689304271959057433:True:=trivial
theorem tw17064868888730989999:True:=trivial
theorem tw17231215304572164744:True:=trivial
theorem tw17234313681754308394:True:=trivial
theorem tw17285041484833840811:True:=trivial
theorem tw17344251817176851837:True:=trivial
theorem tw17347117810335125488:True:=trivial
theorem tw17352705468661881660:True:=trivial
theorem tw1745468655854503677:True:=trivial
theorem tw17678489979539205596:True:=trivial
theorem tw17800165973731899613:True:=trivial
theorem tw18150162775061372728:True:=trivial
theorem tw18185269521268470377:True:=trivial
theorem tw18332594714365743651:True:=trivial
theorem tw18424830655558951224:True:=trivial
theorem tw18428873434202108070:True:=trivial
theorem tw1852787614290885094:True:=trivial
theorem tw1995042194728446318:True:=trivial
theorem tw2509363128605437501:True:=trivial
theorem tw2546304359813740344:True:=trivial
theorem tw2689130970375860960:True:=trivial
theorem tw2887518101449991878:True:=trivial
theorem tw2973650682333636282:True:=trivial
theorem tw2992485226557013066:True:=trivial
theorem tw3083907794565579454:True:=trivial
theorem tw3160441745896581346:True:=trivial
theorem tw3643611794965521610:True:=trivial
theorem tw4164243047948770839:True:=trivial
theorem tw424750249379937219:True:=trivial
theorem tw4512059636553999500:True:=trivial
theorem tw4639023714098100553:True:=trivial
theorem tw4683025180841127164:True:=trivial
theorem tw4743612670701516424:True:=trivial
theorem tw4813389764910371781:True:=trivial
theorem tw486151749580509456:True:=trivial
theorem tw505996358538212568:True:=trivial
theorem tw5077670089821875608:True:=trivial
theorem tw5133394248977147985:True:=trivial
theorem tw5280430789661586870:True:=trivial
theorem tw5356021619778629396:True:=trivial
theorem tw5493226313032121359:True:=trivial
theorem tw5539743962100511467:True:=trivial
theorem tw561707465525495435:True:=trivial
theorem tw5978095349624718444:True:=trivial
theorem tw6264305771181959787:True:=trivial
theorem tw6269518267830357025:True:=trivial
theorem tw6316238694714198810:True:=trivial
theorem tw6330537683873062619:True:=trivial
theorem tw6496291543770322761:True:=trivial
theorem tw6804752460359159274:True:=trivial
theorem tw6972648154718786745:True:=trivial
theorem tw7178318706533184954:True:=trivial
theorem tw7301808631074974082:True:=trivial
theorem tw7376115564198037761:True:=trivial
theorem tw7529039425854484989:True:=trivial
theorem tw7550732737464381208:True:=trivial
theorem tw7730028186856766930:True:=trivial
theorem tw7815392564016649491:True:=trivial
theorem tw7925424660044086844:True:=trivial
theorem tw8027219041750801322:True:=trivial
theorem tw8231640293989124319:True:=trivial
theorem tw8487065190216519968:True:=trivial
theorem tw8979319021920427107:True:=trivial
theorem tw9052109672282266201:True:=trivial
theorem tw9100409211130893002:True:=trivial
theorem tw9704408706996342921:True:=trivial
theorem tw9811700194790551122:True:=trivial
end PySem.W.Fast
end
open PySem PySem.W PyProof.Rows
set_option maxRecDepth 100000 in
set_option maxHeartbeats 0 in
theorem PySem.Challenge.cw_everyrow_k26_whole_targets_met_holds : PySem.Challenge.rw_everyrow_k26_whole_targets_met.Holds := by
 w_on; o_law; k_head; (case hw=>w_witness2)
 k_fill
 refine PF.walk (l:=PySem.Challenge.rw_everyrow_k26_whole_targets_met) rfl rfl (fun w h Y=>PySem.W.kIn_of Y) ?F
 case F=>
   intro w mg fa h KX G RU
   refine' PF.all_mk KX G RU ?_ ?_ ?_ ?_ ?_ ?_ ?_ ?_ ?_ ?_ ?_ ?_ ?_ ?_ ?_ ?_ ?_ ?_ ?_ ?_ ?_ ?_ ?_ ?_ ?_ ?_ ?_ ?_ ?_ ?_ ?_ ?_ ?_ ?_ ?_ ?_ ?_ ?_ ?_ ?_ ?_ ?_ ?_ ?_ ?_ ?_ ?_ ?_ ?_ ?_ ?_ ?_ ?_ ?_ ?_ ?_ ?_ ?_ ?_ ?_ ?_ ?_ ?_ ?_ ?_ ?_ ?_ ?_ ?_ ?_ ?_ ?_ ?_ ?_ ?_ ?_ ?_ ?_ ?_ ?_ ?_ ?_ ?_ ?_ ?_ ?_ ?_ ?_ ?_ ?_ ?_ ?_ ?_ ?_ ?_ ?_ ?_ ?_ ?_
   rotate_left 91
   iterate 38 (refine' L2.FH.of ?a ?l ?c ?k; (case a=>k_is); (case l=>k_is); (case c=>k_is); (case k=>k_is))
   iterate 61 (k_is)
