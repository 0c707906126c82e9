import PyProof.Rows.All
import Wide.All
import OpenK.AllK
import Wide.FinOn
import Lean
import PyProof.EqAt
import PyProof.EqKinds
import PyProof.TupleCall
import PyProof.AttrMiss
import PyProof.IsiH_list
import PyProof.ZipIter
import PySem.Challenge.RW_everyrow_k18_known_runs
set_option Elab.async false
set_option linter.all false
set_option maxRecDepth 100000
namespace L2
open PySem PySem.Spec PyProof.Rows
noncomputable abbrev Key:=Sum Int Str
noncomputable def uK:Key→Value→Bool
 | .inl k,v=>Value.isInt k v
 | .inr x,v=>Value.isStrOf x v
noncomputable def IK (w:World):Key→Int
 | .inl k=>hashInt k
 | .inr x=>hashStr w x
theorem cR:∀ {k:Key} {v:Value},uK k v=true→(∃ i t,k=Sum.inl i∧v=Value.int i t)∨(∃ x t,k=Sum.inr x∧v=Value.str x t)
 | .inl i,v,h=>by
   obtain ⟨t,e⟩:=Value.isInt_shape (k:=i) (v:=v) h
   exact .inl ⟨i,t,rfl,e⟩
 | .inr x,v,h=>by
   obtain ⟨t,e⟩:=Value.isStrOf_shape (x:=x) (v:=v) h
   exact .inr ⟨x,t,rfl,e⟩
theorem AJ (i:Int) (t:Tok):uK (.inl i) (.int i t)=true:=by simp [uK,Value.isInt]
theorem AK (x:Str) (t:Tok):uK (.inr x) (.str x t)=true:=by simp [uK,Value.isStrOf]
theorem FG (a b:Int):decide ((Sum.inl a:Key)=Sum.inl b)=(a == b):=by
 by_cases e:a=b
 · subst e; simp
 · have h:¬ (Sum.inl a:Key)=Sum.inl b:=fun q=>e (Sum.inl.inj q)
   rw [decide_eq_false h]
   exact (beq_eq_false_iff_ne.mpr e).symm
theorem FH (a b:Str):decide ((Sum.inr a:Key)=Sum.inr b)=decide (a=b):=by
 by_cases e:a=b
 · subst e; simp
 · have h:¬ (Sum.inr a:Key)=Sum.inr b:=fun q=>e (Sum.inr.inj q)
   rw [decide_eq_false h,decide_eq_false e]
theorem FI (a:Int) (b:Str):decide ((Sum.inl a:Key)=Sum.inr b)=false:=decide_eq_false (fun q=>nomatch q)
theorem FJ (a:Str) (b:Int):decide ((Sum.inr a:Key)=Sum.inl b)=false:=decide_eq_false (fun q=>nomatch q)
noncomputable def cP (prog:Program) (w:World):PySem.KeyKind prog w Key where
 is:=uK
 hash:=IK w
 inj:=fun v a b ha hb=>by
   rcases cR ha with ⟨i,t,rfl,rfl⟩ | ⟨x,t,rfl,rfl⟩
   · rcases cR hb with ⟨j,u,rfl,e⟩ | ⟨y,u,rfl,e⟩
     · injection e with e1 _; rw [e1]
     · exact nomatch e
   · rcases cR hb with ⟨j,u,rfl,e⟩ | ⟨y,u,rfl,e⟩
     · exact nomatch e
     · injection e with e1 _; rw [e1]
 byValue:=fun k v h=>by
   rcases cR h with ⟨i,t,rfl,rfl⟩ | ⟨x,t,rfl,rfl⟩ <;> rfl
 pyHash:=fun hv h=>by
   rcases cR hv with ⟨i,t,rfl,rfl⟩ | ⟨x,t,rfl,rfl⟩
   · exact wpAny_pyHash_int h
   · exact wpAny_pyHash_str h
 eqBool:=fun hu hv h=>by
   rcases cR hu with ⟨i,t,rfl,rfl⟩ | ⟨x,t,rfl,rfl⟩
   · rcases cR hv with ⟨j,u,rfl,rfl⟩ | ⟨y,u,rfl,rfl⟩
     · rw [FG] at h; exact wpAny_eqBool_int h
     · rw [FI] at h; exact SeqAt.EqAt.int_str i t y u _ _ _ _ h
   · rcases cR hv with ⟨j,u,rfl,rfl⟩ | ⟨y,u,rfl,rfl⟩
     · rw [FJ] at h; exact SeqAt.EqAt.str_int x t j u _ _ _ _ h
     · rw [FH] at h; exact wpAny_eqBool_str h
 «strs»:=fun k x t v h=>by
   rcases cR h with ⟨i,u,rfl,e⟩ | ⟨y,u,rfl,e⟩
   · exact nomatch e
   · injection e with e1 _
     subst e1
     cases v <;> rfl
theorem wK (prog:Program) (w:World) (i:Int) (t:Tok):(cP prog w).is (.inl i) (.int i t)=true:=AJ i t
theorem wL (prog:Program) (w:World) (x:Str) (t:Tok):(cP prog w).is (.inr x) (.str x t)=true:=AK x t
end L2
namespace L2
open PySem PySem.Spec PyProof.Rows
inductive V where
 | non | bl (b:Bool) | int (i:Int) | str (x:Str) | byt (b:Array UInt8) | flt (b:UInt64) | ref (a:Addr) | ty (n:String)
 deriving DecidableEq
noncomputable def RelV:V→Value→Prop
 | .non,u=>u=Value.none
 | .bl b,u=>u=Value.bool b
 | .int i,u=>∃ t,u=Value.int i t
 | .str x,u=>∃ t,u=Value.str x t
 | .byt b,u=>∃ t,u=Value.bytes b t
 | .flt b,u=>∃ t,u=Value.float b t
 | .ref a,u=>u=Value.ref a
 | .ty n,u=>u=Value.type n
noncomputable abbrev Vals:List V→List Value→Prop:=Paired RelV
theorem Vals.length {xs:List V} {us:List Value} (r:Vals xs us):xs.length=us.length:=Paired.length r
theorem Vals.get:∀ {xs:List V} {us:List Value} {i:Nat} {x:V},Vals xs us→xs[i]?=some x→∃ u,us[i]?=some u∧RelV x u
 | _,_,_,_,.nil,e=>by simp at e
 | _,_,0,_,.cons r _,e=>by simp at e; subst e; exact ⟨_,rfl,r⟩
 | _,_,i + 1,x,.cons _ t,e=>by
   obtain ⟨u,h1,h2⟩:=Vals.get (i:=i) (x:=x) t (by simpa using e)
   exact ⟨u,by simpa using h1,h2⟩
theorem Vals.append:∀ {xs ys:List V} {us ws:List Value},Vals xs us→Vals ys ws→Vals (xs ++ ys) (us ++ ws)
 | _,_,_,_,.nil,s=>s
 | _,_,_,_,.cons r t,s=>.cons r (Vals.append t s)
theorem Vals.take:∀ {xs:List V} {us:List Value} (n:Nat),Vals xs us→Vals (xs.take n) (us.take n)
 | _,_,0,_=>.nil
 | _,_,_ + 1,.nil=>.nil
 | _,_,n + 1,.cons r t=>.cons r (Vals.take n t)
theorem Vals.drop:∀ {xs:List V} {us:List Value} (n:Nat),Vals xs us→Vals (xs.drop n) (us.drop n)
 | _,_,0,r=>r
 | _,_,_ + 1,.nil=>.nil
 | _,_,n + 1,.cons _ t=>Vals.drop n t
noncomputable def kG:Option V→Option Value→Prop
 | some v,some u=>RelV v u
 | none,none=>True
 | _,_=>False
noncomputable def KV {κ:Type}:List (κ × V)→List (κ × Value)→Prop:=Paired fun (p:κ × V) (q:κ × Value)=>p.1=q.1∧RelV p.2 q.2
noncomputable def kV:Key→V
 | .inl i=>.int i
 | .inr x=>.str x
inductive HO where
   | lst (xs:List V)
   | tup (xs:List V)
   | dK (kvs:List (Key × V)) | dT (kvs:List (List Key × V))
   | set (S:Int→Bool) (n:Nat)
   | ins (C dx:Addr) (fs:List (Str × V))
   | own (x:Addr)
   | xd (fs:List (Str × V))
   | met (f x:Addr)
   | rng (lo hi:Int)
   | frz (o:Obj) (u:HO)
   | tbl (ps:Array Value)
   | ext (φ:Heap→Prop)
noncomputable abbrev Hp:=Addr→Option HO
noncomputable def upd (H:Hp) (a:Addr) (o:HO):Hp:=fun b=>if b=a then some o else H b
theorem ar {H:Hp} {a:Addr} {o:HO}:upd H a o a=some o:=by unfold upd; rw [if_pos rfl]
theorem aR {H:Hp} {a b:Addr} {o:HO} (h:b≠a):upd H a o b=H b:=by unfold upd; rw [if_neg h]
theorem zG {H:Hp} {a:Addr} {o u:HO}:upd (upd H a o) a u=upd H a u:=by
 funext b; unfold upd; split <;> rfl
theorem cQ {H:Hp} {a b:Addr} {o u:HO} (h:H a=some o) (h':H b=some u) (d:o≠u):a≠b:=by
 intro e; subst e; rw [h] at h'; exact d (Option.some.inj h')
theorem aA {H:Hp} {a b:Addr} {o:HO} (h:H a=some o) (h':H b=none):a≠b:=by
 intro e; subst e; rw [h] at h'; cases h'
section
variable (P:Program) (w:World)
noncomputable def dH (H:Hp) (h:Heap) (a:Addr):HO→Prop
 | .lst xs=>xs.length≤sizeLine∧∃ (its:List Value) (n:Nat),Vals xs its∧h.get? a=some { cls:=.type "list",data:=.seq its.toArray n }
 | .tup xs=>xs.length≤sizeLine∧∃ its:List Value,Vals xs its∧IsTup h a its.toArray
 | .dK kvs=>kvs.length≤sizeLine∧(a == sysModules)=false∧∃ vs,KV kvs vs∧h.DictOf (cP P w) a vs
 | .dT kvs=>kvs.length≤sizeLine∧(a == sysModules)=false∧∃ xs:List (List Key × Addr × Value),
     Paired (fun (p:List Key × V) (q:List Key × Addr × Value)=>p.1=q.1∧H q.2.1=some (.tup (p.1.map kV))∧RelV p.2 q.2.2) kvs xs∧
     ∃ o es ep,h.get? a=some o∧o.ExactDict∧o.data=.dict es ep∧es.toList=xs.map (entryOfKey (tupleKind (cP P w)))∧(xs.map (·.1)).Nodup
 | .set S n=>h.SetOf (intKind P w) a S n
 | .ins C dx fs=>H dx=some (.own a)∧fs.length≤1000∧dx≠a∧h.get? a=some (PySem.W.instObj C dx)∧
     ∃ mA,h.Ns1 dx mA∧(∀ f,kG (fs.lookup f) (mA f))∧PySem.Within mA (fs.map (·.1))
 | .own _=>∃ o,h.get? a=some o
 | .xd fs=>∃ mA,h.Ns1 a mA∧∀ f,kG (fs.lookup f) (mA f)
 | .rng lo hi=>∃ t u v,h.get? a=some { cls:=.type "range",data:=.fields #[.int lo t,.int hi u,.int 1 v] }
 | .frz o u=>h.get? a=some o∧dH H h a u
 | .tbl ps=>h.get? a=some { cls:=.none,data:=.fields ps }
 | .met f x=>h.get? a=some (PySem.W.methodObj (.ref f) (.ref x))
 | .ext φ=>φ h∧(∃ o,h.get? a=some o)∧∀ h1 h2:Heap,φ h1→(∀ o,h1.get? a=some o→h2.get? a=some o)→φ h2
noncomputable def HOk (H:Hp) (h:Heap):Prop:=∀ a o,H a=some o→dH P w H h a o
end
section
variable {P:Program} {w:World} {H H':Hp} {h h':Heap} {a:Addr} {o:HO}
theorem dH.lt (x:dH P w H h a o):a < h.objs.size:=by
 cases o with
 | lst xs=>obtain ⟨_,_,_,_,e⟩:=x; exact Heap.lt_size e
 | tup xs=>obtain ⟨_,_,_,p⟩:=x; exact p.lt
 | dK kvs=>obtain ⟨_,_,_,_,o,_,_,e,_⟩:=x; exact Heap.lt_size e
 | dT kvs=>obtain ⟨_,_,_,_,o,_,_,e,_⟩:=x; exact Heap.lt_size e
 | set S n=>obtain ⟨o,_,_,_,e,_⟩:=x; exact Heap.lt_size e
 | ins C dx fs=>obtain ⟨_,_,_,e,_⟩:=x; exact Heap.lt_size e
 | own y=>obtain ⟨_,e⟩:=x; exact Heap.lt_size e
 | xd fs=>obtain ⟨_,⟨_,_,_,e,_⟩,_⟩:=x; exact Heap.lt_size e
 | rng lo hi=>obtain ⟨_,_,_,e⟩:=x; exact Heap.lt_size e
 | frz ob u=>obtain ⟨e,_⟩:=x; exact Heap.lt_size e
 | tbl ps=>exact Heap.lt_size (show h.get? a=some _ from x)
 | met f y=>exact Heap.lt_size (show h.get? a=some _ from x)
 | ext φ=>obtain ⟨_,⟨_,e⟩,_⟩:=x; exact Heap.lt_size e
theorem Paired.FK {α β:Type} {F G:α→β→Prop}:∀ {l₁:List α} {l₂:List β},Paired F l₁ l₂→(∀ a b,F a b→G a b)→Paired G l₁ l₂
 | _,_,.nil,_=>.nil
 | _,_,.cons r t,f=>.cons (f _ _ r) (Paired.FK t f)
theorem dH.kH (x:dH P w H h a o) (k:∀ b u,(b=a∨H b=some (.own a))→h.get? b=some u→h'.get? b=some u)
   (ho:∀ b,H b=some (.own a)→H' b=some (.own a)) (ht:∀ b xs,H b=some (.tup xs)→H' b=some (.tup xs)):dH P w H' h' a o:=by
 induction o with
 | lst xs=>obtain ⟨z,its,n,r,e⟩:=x; exact ⟨z,its,n,r,k _ _ (.inl rfl) e⟩
 | tup xs=>obtain ⟨z,its,r,ob,e,c⟩:=x; exact ⟨z,its,r,ob,k _ _ (.inl rfl) e,c⟩
 | dK kvs=>obtain ⟨z,y,vs,r,ob,es,ep,e,c⟩:=x; exact ⟨z,y,vs,r,ob,es,ep,k _ _ (.inl rfl) e,c⟩
 | dT kvs=>
   obtain ⟨z,y,xs,r,ob,es,ep,e,c⟩:=x
   exact ⟨z,y,xs,Paired.FK r fun p q z=>⟨z.1,ht _ _ z.2.1,z.2.2⟩,ob,es,ep,k _ _ (.inl rfl) e,c⟩
 | set S n=>obtain ⟨ob,es,ep,t,e,c⟩:=x; exact ⟨ob,es,ep,t,k _ _ (.inl rfl) e,c⟩
 | ins C dx fs=>
   obtain ⟨d,z,ne,e,mA,⟨od,es,ep,e2,c⟩,r⟩:=x
   exact ⟨ho _ d,z,ne,k _ _ (.inl rfl) e,mA,⟨od,es,ep,k _ _ (.inr d) e2,c⟩,r⟩
 | own y=>obtain ⟨ob,e⟩:=x; exact ⟨ob,k _ _ (.inl rfl) e⟩
 | xd fs=>obtain ⟨mA,⟨od,es,ep,e,c⟩,r⟩:=x; exact ⟨mA,⟨od,es,ep,k _ _ (.inl rfl) e,c⟩,r⟩
 | rng lo hi=>obtain ⟨t,u,v,e⟩:=x; exact ⟨t,u,v,k _ _ (.inl rfl) e⟩
 | frz ob u ih=>obtain ⟨e,q⟩:=x; exact ⟨k _ _ (.inl rfl) e,ih q⟩
 | tbl ps=>
   have e:h.get? a=some { cls:=.none,data:=.fields ps }:=x
   show h'.get? a=some { cls:=.none,data:=.fields ps }
   exact k a _ (.inl rfl) e
 | met f y=>
   have e:h.get? a=some (PySem.W.methodObj (.ref f) (.ref y)):=x
   show h'.get? a=some (PySem.W.methodObj (.ref f) (.ref y))
   exact k a _ (.inl rfl) e
 | ext φ=>obtain ⟨p,⟨o,e⟩,st⟩:=x; exact ⟨st _ _ p fun o q=>k _ _ (.inl rfl) q,⟨o,k _ _ (.inl rfl) e⟩,st⟩
theorem HOk.lt (x:HOk P w H h) (e:H a=some o):a < h.objs.size:=(x a o e).lt
theorem HOk.fresh (x:HOk P w H h) (e:h.objs.size≤a):H a=none:=by
 cases q:H a with
 | none=>rfl
 | some u=>exact absurd (Nat.lt_of_lt_of_le (x.lt q) e) (Nat.lt_irrefl _)
theorem HOk.kept (x:HOk P w H h) (k:∀ b u,h.get? b=some u→h'.get? b=some u):HOk P w H h':=fun a o e=>
 (x a o e).kH (fun b u _ q=>k b u q) (fun _ q=>q) fun _ _ q=>q
theorem HOk.laid (x:HOk P w H h) (k:∀ b u,h.get? b=some u→h'.get? b=some u) (hp:h.objs.size≤a) (new:dH P w (upd H a o) h' a o):HOk P w (upd H a o) h':=fun b u e=>by
 have hn:=x.fresh hp
 by_cases hb:b=a
 · subst hb; rw [ar] at e; cases e; exact new
 · rw [aR hb] at e
   exact (x b u e).kH (fun c v _ q=>k c v q) (fun c q=>by rw [aR (aA q hn)]; exact q) fun c xs q=>by rw [aR (aA q hn)]; exact q
end
noncomputable def Rd (H:Hp) (a:Addr) (u:HO):Prop:=H a=some u∨∃ o,H a=some (.frz o u)
theorem Rd.ok {P:Program} {w:World} {H:Hp} {h:Heap} {a:Addr} {u:HO} (r:Rd H a u) (x:HOk P w H h):dH P w H h a u:=by
 rcases r with r | ⟨o,r⟩
 · exact x a u r
 · obtain ⟨_,q⟩:=x a _ r
   exact q
noncomputable def Mut:Option HO→Prop
 | some (.lst _)=>True
 | some (.dK _)=>True
 | some (.dT _)=>True
 | some (.set _ _)=>True
 | some (.ins _ _ _)=>True
 | some (.ext _)=>True
 | _=>False
section
variable {P:Program} {w:World} {H:Hp} {h h':Heap} {x e:Addr} {o':HO}
theorem HOk.write (ok:HOk P w H h) (mu:Mut (H x)) (he:e=x∨H e=some (.own x)) (k:∀ b u,b≠e→h.get? b=some u→h'.get? b=some u) (heo:∃ u,h'.get? e=some u)
   (new:dH P w (upd H x o') h' x o'):HOk P w (upd H x o') h':=fun b u q=>by
 have G8:∀ c y,H c=some (.own y)→c≠x:=fun c y r z=>by subst z; rw [r] at mu; exact mu
 have IL:∀ c xs,H c=some (.tup xs)→c≠x:=fun c xs r z=>by subst z; rw [r] at mu; exact mu
 by_cases hb:b=x
 · subst hb; rw [ar] at q; cases q; exact new
 · rw [aR hb] at q
   by_cases hbe:b=e
   · have q':H b=some (.own x):=by
       rcases he with z | z
       · exact absurd (hbe.trans z) hb
       · rw [hbe]; exact z
     rw [q] at q'; cases q'
     obtain ⟨v,hv⟩:=heo
     exact ⟨v,by rw [hbe]; exact hv⟩
   · refine (ok b u q).kH (fun c v hc r=>k c v ?_ r) (fun c r=>by rw [aR (G8 c b r)]; exact r) fun c xs r=>by rw [aR (IL c xs r)]; exact r
     rcases hc with rfl | hc
     · exact hbe
     · rintro rfl
       rcases he with z | z
       · exact G8 c b hc z
       · rw [hc] at z; cases z; exact hb rfl
end
structure Un (fs ex:List Addr) (H H':Hp) (h h':Heap):Prop where
 keep:∀ b o,h.get? b=some o→H b=none→b ∉ fs→b ∉ ex→h'.get? b=some o
 slot:∀ b o,h.get? b=some o→H b=none→b∈fs→b ∉ ex→∃ sl,h'.get? b=some { o with slots:=sl }
 free:∀ b o,h.get? b=some o→H b=none→b ∉ ex→H' b=none
 there:∀ b o,h.get? b=some o→b ∉ ex→∃ o',h'.get? b=some o'
 vm:∀ b xs,H b=some (.tup xs)→H' b=some (.tup xs)
 ug:∀ b o u,H b=some (.frz o u)→H' b=some (.frz o u)
 vn:∀ b ps,H b=some (.tbl ps)→∃ more,H' b=some (.tbl (ps ++ more))
section
variable {fs fs' ex ex':List Addr} {H H1 H2:Hp} {h h1 h2 h':Heap} {a x e:Addr} {o:HO}
theorem Un.any (u:Un fs ex H H1 h h1) {b:Addr} {ob:Obj} (q:h.get? b=some ob) (n:H b=none) (hx:b ∉ ex):∃ sl,h1.get? b=some { ob with slots:=sl }:=by
 by_cases hb:b∈fs
 · exact u.slot b ob q n hb hx
 · exact ⟨ob.slots,u.keep b ob q n hb hx⟩
theorem Un.kept (k:∀ b u,h.get? b=some u→h'.get? b=some u):Un fs ex H H h h':=
 ⟨fun b ob q _ _ _=>k b ob q,fun b ob q _ _ _=>⟨ob.slots,k b ob q⟩,fun _ _ _ n _=>n,fun b ob q _=>⟨ob,k b ob q⟩,fun _ _ q=>q,fun _ _ _ q=>q,fun _ ps q=>⟨#[],by rw [q]; simp⟩⟩
theorem Un.refl:Un fs ex H H h h:=Un.kept fun _ _ q=>q
theorem Un.laid (k:∀ b u,h.get? b=some u→h'.get? b=some u) (hp:h.objs.size≤a) (hn:H a=none):Un fs ex H (upd H a o) h h' where
 keep:=fun b u q _ _ _=>k b u q
 slot:=fun b u q _ _ _=>⟨u.slots,k b u q⟩
 free:=fun b u q n _=>by rw [aR (Nat.ne_of_lt (Nat.lt_of_lt_of_le (Heap.lt_size q) hp))]; exact n
 there:=fun b u q _=>⟨u,k b u q⟩
 vm:=fun b xs q=>by rw [aR (aA q hn)]; exact q
 ug:=fun b u xs q=>by rw [aR (aA q hn)]; exact q
 vn:=fun b ps q=>⟨#[],by rw [aR (aA q hn),q]; simp⟩
theorem Un.write (mu:Mut (H x)) (he:e=x∨H e=some (.own x)) (k:∀ b u,b≠e→h.get? b=some u→h'.get? b=some u) (heo:∃ u,h'.get? e=some u):Un fs ex H (upd H x o) h h':=by
 have hx:∀ b,H b=none→b≠x:=fun b n z=>by subst z; rw [n] at mu; exact mu
 have hb:∀ b,H b=none→b≠e:=fun b n z=>by
   subst z
   rcases he with r | r
   · exact hx b n r
   · rw [n] at r; cases r
 have hm:∀ b u,H b=some u→¬ Mut (some u)→b≠x:=fun b u q nm z=>by subst z; rw [q] at mu; exact nm mu
 refine ⟨fun b u q n _ _=>k b u (hb b n) q,fun b u q n _ _=>⟨u.slots,k b u (hb b n) q⟩,fun b u q n _=>by rw [aR (hx b n)]; exact n,fun b u q _=>?_,
   fun b xs q=>by rw [aR (hm b _ q fun z=>z)]; exact q,fun b u xs q=>by rw [aR (hm b _ q fun z=>z)]; exact q,fun b ps q=>⟨#[],by rw [aR (hm b _ q fun z=>z),q]; simp⟩⟩
 by_cases hbe:b=e
 · subst hbe; exact heo
 · exact ⟨u,k b u hbe q⟩
end
noncomputable def trk (h:Heap) (H:Hp):List Addr:=(List.range h.objs.size).filter fun a=>(H a).isSome
noncomputable def vo (h:Heap) (H:Hp):Heap:=PySem.W.hideAll h (trk h H)
theorem AL (h:Heap) (H:Hp):(vo h H).objs.size=h.objs.size:=PySem.W.hideAll_size _ _
theorem By {h:Heap} {H:Hp} {b:Addr} {o:Obj} (e:h.get? b=some o) (n:H b=none):(vo h H).get? b=some o:=
 PySem.W.hideAll_get _ e fun hm=>by
   have q:(H b).isSome=true:=(List.mem_filter.mp hm).2
   rw [n] at q; simp at q
theorem DY {h:Heap} {H:Hp} {b:Addr} {o:Obj} (e:(vo h H).get? b=some o):h.get? b=some o∧H b=none:=by
 have e':h.get? b=some o:=PySem.W.of_hideAll (trk h H) e
 refine ⟨e',?_⟩
 cases q:H b with
 | none=>rfl
 | some x=>
   have hm:b∈trk h H:=List.mem_filter.mpr ⟨List.mem_range.mpr (Heap.lt_size e'),by simp [q]⟩
   have z:(vo h H).get? b=none:=PySem.W.hideAll_none (trk h H) hm
   rw [z] at e; cases e
noncomputable def DZ (g h:Heap) (L:Addr):List (Addr × Obj):=(List.range h.objs.size).filterMap fun a=>if a=L∨(g.get? a).isSome=true then none else (h.get? a).map fun o=>(a,o)
noncomputable def rest (g h:Heap) (L d:Addr):List (Addr × Obj):=(DZ g h L).filter fun p=>decide (p.1≠d)
end L2
namespace L2
open PySem PySem.Spec PyProof.Rows
structure Mod (K:PySem.W.Frag) (mg:Str→Option Value) (base:Heap):Prop where
 kin:K.In base
 glob:base.Ns mainGlobals mg
 blt:∃ mb,base.Ns builtinsNs mb∧∀ x:Str,x≠"__name__"→mb x=bootBuiltins x
 nolimit:base.NoLimit
structure Cx where
 prog:Program
 w:World
 K:PySem.W.Frag
 mg:Str→Option Value
 base:Heap
 A:Around
 N:List Str
 s₀:Shared
 H₀:Hp
 env:Env
 outer:List Env
 stack:List Env
 ex:List Addr
 fn:Str→Bool
 calm:Bool
 pn:List (Addr × Obj)
 xe:Value→Shared→Prop
noncomputable def frs (l:List Env):List Addr:=l.filterMap (·.frame)
noncomputable abbrev Cx.fs (X:Cx):List Addr:=frs X.outer
noncomputable def Vis (sc:Scope) (x:Str):Prop:=sc.names.lookup x=some .local∨sc.names.lookup x=some .cell∨sc.names.lookup x=some .free
noncomputable def Loc (sc:Scope) (x:Str):Prop:=sc.names.lookup x=some .local∨sc.names.lookup x=some .cell
noncomputable def Look (env:Env) (h:Heap) (m:Str→Option Value) (x:Str) (u:Value):Prop:=
 (env.kindOf x=some .local∧m x=some u)∨((env.kindOf x=some .cell∨env.kindOf x=some .free)∧∃ c,env.cells.lookup x=some c∧h.IsCell c (some u))
structure Cx.Ok (X:Cx):Prop where
 mod:Mod X.K X.mg X.base
 kind:X.env.scope.kind=.function
 glob:X.env.globals=mainGlobals
 blt:X.env.builtins=builtinsNs
 above:X.s₀.heap.objs.size≤X.env.locals
 inj:∀ x y c,X.env.cells.lookup x=some c→X.env.cells.lookup y=some c→x=y
 has:∀ x,(X.env.kindOf x=some .cell∨X.env.kindOf x=some .free)→∃ c,X.env.cells.lookup x=some c
 cab:∀ x c,X.fn x=true→X.env.cells.lookup x=some c→X.s₀.heap.objs.size≤c
 hd:X.calm=true→X.A.handled=none
 frames:X.A.frames=some X.stack
 stk:X.stack=X.outer∨(X.stack=X.env :: X.outer∧X.env.frame=some X.env.locals)
 exf:∀ b∈X.ex,b≠X.env.locals∧∀ x c,X.env.cells.lookup x=some c→c≠b
 bs:∀ b o,X.base.get? b=some o→X.s₀.heap.get? b=some o∧X.H₀ b=none
 bsz:X.base.objs.size≤X.s₀.heap.objs.size
 Bz:∀ b o,X.base.get? b=some o→b ∉ X.ex
 D0:∀ b∈X.ex,b ∉ X.fs
 qU:X.s₀.heap.FunFrames X.base X.outer
 frf:∀ b∈X.fs,X.H₀ b=none
structure Inv (X:Cx) (pins:List (Addr × Obj)) (σ:List (Option V)) (H:Hp) (s:Shared):Prop where
 ok:X.Ok
 os:s.os=X.s₀.os
 bare:AllBare s.gens
 base:Un X.fs X.ex X.H₀ H X.s₀.heap s.heap
 loc:∃ m,s.heap.Ns X.env.locals m∧∀ (i:Nat) (x:Str) (v:V),X.N[i]?=some x→σ[i]?=some (some v)→Vis X.env.scope x→∃ u,RelV v u∧Look X.env s.heap m x u
 cell:∀ x c,X.env.cells.lookup x=some c→∃ v,s.heap.IsCell c v
 free:H X.env.locals=none
 kI:∀ x c,X.env.cells.lookup x=some c→H c=none
 pin:∀ p∈X.pn ++ pins,s.heap.get? p.1=some p.2∧H p.1=none∧p.1≠X.env.locals∧p.1 ∉ X.fs∧∀ v,p.2.data≠.cell v
 hok:HOk X.prog X.w H s.heap
 len:σ.length=X.N.length
section
variable {X:Cx} {pins:List (Addr × Obj)} {σ:List (Option V)} {H H':Hp} {s:Shared} {h':Heap}
theorem Cx.Ok.IM (ok:X.Ok) {b:Addr} {o:Obj} (e:X.base.get? b=some o):b ∉ X.fs:=fun hb=>by
 have:=(ok.qU.mem hb).1
 rw [e] at this; cases this
theorem Inv.bs (I:Inv X pins σ H s):∀ b o,X.base.get? b=some o→s.heap.get? b=some o∧H b=none:=fun b o e=>
 ⟨I.base.keep b o (I.ok.bs b o e).1 (I.ok.bs b o e).2 (I.ok.IM e) (I.ok.Bz b o e),I.base.free b o (I.ok.bs b o e).1 (I.ok.bs b o e).2 (I.ok.Bz b o e)⟩
theorem Inv.bk (I:Inv X pins σ H s):∀ b o,X.base.get? b=some o→s.heap.get? b=some o:=fun b o e=>(I.bs b o e).1
theorem Inv.mod (I:Inv X pins σ H s):Mod X.K X.mg X.base:=I.ok.mod
theorem Inv.kIn (I:Inv X pins σ H s):X.K.In s.heap:=I.ok.mod.kin.keeps I.bk
theorem Inv.nolimit (I:Inv X pins σ H s):s.heap.NoLimit:=I.ok.mod.nolimit.keeps I.bk
theorem Inv.lt (I:Inv X pins σ H s):X.env.locals < s.heap.objs.size:=let ⟨_,hn,_⟩:=I.loc; hn.lt
theorem Inv.sz (I:Inv X pins σ H s):X.s₀.heap.objs.size≤s.heap.objs.size:=Nat.le_trans I.ok.above (Nat.le_of_lt I.lt)
theorem Inv.IP (I:Inv X pins σ H s) {a:Addr} (h:s.heap.objs.size≤a):a ∉ X.fs:=fun hb=>by
 obtain ⟨_,o,ho,_⟩:=I.ok.qU.mem hb
 exact absurd (Nat.lt_of_lt_of_le (Heap.lt_size ho) (Nat.le_trans I.sz h)) (Nat.lt_irrefl _)
theorem Inv.cne (I:Inv X pins σ H s):∀ x c,X.env.cells.lookup x=some c→c≠X.env.locals:=fun x c e z=>by
 obtain ⟨v,o,ho,hd⟩:=I.cell x c e
 obtain ⟨m,⟨o',es,ep,ho',hd',_⟩,_⟩:=I.loc
 rw [z,ho'] at ho; cases ho; rw [hd'] at hd; cases hd
theorem Inv.qU (I:Inv X pins σ H s):s.heap.FunFrames X.base X.outer:=by
 have all:∀ (l:List Env),(∀ b∈frs l,b∈X.fs)→X.s₀.heap.FunFrames X.base l→s.heap.FunFrames X.base l:=by
   intro l
   induction l with
   | nil=>intro _ _; trivial
   | cons env r ih=>
     intro hs hl
     obtain ⟨hk,⟨L,o,hf,hn,ho,hd⟩,hr⟩:=hl
     have hL:L∈X.fs:=hs L (by unfold frs; rw [List.filterMap_cons,hf]; exact List.mem_cons_self)
     obtain ⟨sl,e⟩:=I.base.slot L o ho (I.ok.frf L hL) hL fun z=>I.ok.D0 L z hL
     exact ⟨hk,⟨L,_,hf,hn,e,hd⟩,ih (fun b hb=>hs b (by unfold frs; rw [List.filterMap_cons,hf]; exact List.mem_cons_of_mem _ hb)) hr⟩
 exact all X.outer (fun _ hb=>hb) I.ok.qU
theorem Inv.stack (I:Inv X pins σ H s):s.heap.FunFrames X.base X.stack:=by
 rcases I.ok.stk with e | ⟨e,hf⟩
 · rw [e]; exact I.qU
 · rw [e]
   obtain ⟨m,hn,_⟩:=I.loc
   refine .cons (by rw [I.ok.kind]; decide) hf hn ?_ I.qU
   exact Heap.get?_none_of_le (Nat.le_trans I.ok.bsz I.ok.above)
theorem Inv.vp (I:Inv X pins σ H s):∀ b∈frs X.stack,b∈X.env.locals :: X.fs:=fun b hb=>by
 rcases I.ok.stk with e | ⟨e,hf⟩
 · rw [e] at hb; exact List.mem_cons_of_mem _ hb
 · rw [e] at hb
   unfold frs at hb
   rw [List.filterMap_cons,hf] at hb
   exact hb
theorem Inv.zH (I:Inv X pins σ H s):∀ b∈frs X.stack,H b=none:=fun b hb=>by
 rcases List.mem_cons.mp (I.vp b hb) with e | hb
 · rw [e]; exact I.free
 · obtain ⟨_,o,ho,_⟩:=I.ok.qU.mem hb
   exact I.base.free b o ho (I.ok.frf b hb) fun z=>I.ok.D0 b z hb
theorem Inv.step {g':Array GenState} {t':Nat} {d':Drawn} {ch:List Addr} (I:Inv X pins σ H s)
   (hch:∀ b∈ch,(b∈X.ex∨X.s₀.heap.objs.size≤b)∧b≠X.env.locals∧(∀ x c,X.env.cells.lookup x=some c→c≠b)∧∀ p∈X.pn ++ pins,p.1≠b)
   (keep:∀ b o,b≠X.env.locals→b ∉ X.fs→b ∉ ch→s.heap.get? b=some o→H b=none→h'.get? b=some o)
   (slot:∀ b o,b≠X.env.locals→b∈X.fs→b ∉ ch→s.heap.get? b=some o→H b=none→∃ sl,h'.get? b=some { o with slots:=sl }) (free:∀ b o,b ∉ ch→s.heap.get? b=some o→H b=none→H' b=none)
   (there:∀ b o,b ∉ ch→s.heap.get? b=some o→∃ o',h'.get? b=some o')
   (vm:∀ b xs,H b=some (.tup xs)→H' b=some (.tup xs)) (ug:∀ b o u,H b=some (.frz o u)→H' b=some (.frz o u)) (vn:∀ b ps,H b=some (.tbl ps)→∃ more,H' b=some (.tbl (ps ++ more)))
   (ns:∀ m,s.heap.Ns X.env.locals m→h'.Ns X.env.locals m) (hok:HOk X.prog X.w H' h') (hg:AllBare g') :
   Inv X pins σ H' { s with heap:=h',gens:=g',drawn:=d',toks:=t' }:=by
 have neL:∀ b o,X.s₀.heap.get? b=some o→b≠X.env.locals:=fun b o e=>Nat.ne_of_lt (Nat.lt_of_lt_of_le (Heap.lt_size e) I.ok.above)
 have neC:∀ b o,X.s₀.heap.get? b=some o→b ∉ X.ex→b ∉ ch:=fun b o e hx hb=>by
   rcases (hch b hb).1 with z | z
   · exact hx z
   · exact absurd (Nat.lt_of_lt_of_le (Heap.lt_size e) z) (Nat.lt_irrefl _)
 have cellK:∀ x c,X.env.cells.lookup x=some c→∀ v,s.heap.IsCell c v→h'.IsCell c v:=fun x c e v ⟨o,ho,hd⟩=>by
   have nch:c ∉ ch:=fun z=>(hch c z).2.2.1 x c e rfl
   by_cases hc:c∈X.fs
   · obtain ⟨sl,q⟩:=slot c o (I.cne x c e) hc nch ho (I.kI x c e)
     exact ⟨_,q,hd⟩
   · exact ⟨o,keep c o (I.cne x c e) hc nch ho (I.kI x c e),hd⟩
 refine ⟨I.ok,I.os,hg,⟨fun b o e n hb hx=>?_,fun b o e n hb hx=>?_,fun b o e n hx=>?_,fun b o e hx=>?_,fun b xs e=>vm b xs (I.base.vm b xs e),fun b o xs e=>ug b o xs (I.base.ug b o xs e),fun b ps e=>?_⟩,?_,fun x c e=>?_,?_,fun x c e=>?_,fun p hp=>?_,hok,I.len⟩
 · exact keep b o (neL b o e) hb (neC b o e hx) (I.base.keep b o e n hb hx) (I.base.free b o e n hx)
 · obtain ⟨sl,e1⟩:=I.base.slot b o e n hb hx
   obtain ⟨sl',e2⟩:=slot b _ (neL b o e) hb (neC b o e hx) e1 (I.base.free b o e n hx)
   exact ⟨sl',e2⟩
 · obtain ⟨o',e1⟩:=I.base.there b o e hx
   exact free b o' (neC b o e hx) e1 (I.base.free b o e n hx)
 · obtain ⟨o',e1⟩:=I.base.there b o e hx
   exact there b o' (neC b o e hx) e1
 · obtain ⟨m1,e1⟩:=I.base.vn b ps e
   obtain ⟨m2,e2⟩:=vn b _ e1
   exact ⟨m1 ++ m2,by rw [e2,Array.append_assoc]⟩
 · obtain ⟨m,hn,hl⟩:=I.loc
   refine ⟨m,ns m hn,fun i x v e1 e2 e3=>?_⟩
   obtain ⟨u,r,l⟩:=hl i x v e1 e2 e3
   refine ⟨u,r,?_⟩
   rcases l with l | ⟨k,c,e,z⟩
   · exact .inl l
   · exact .inr ⟨k,c,e,cellK x c e _ z⟩
 · obtain ⟨v,z⟩:=I.cell x c e
   exact ⟨v,cellK x c e v z⟩
 · obtain ⟨m,⟨o,_,_,ho,_⟩,_⟩:=I.loc
   exact free _ o (fun z=>(hch _ z).2.1 rfl) ho I.free
 · obtain ⟨v,o,ho,hd⟩:=I.cell x c e
   exact free c o (fun z=>(hch c z).2.2.1 x c e rfl) ho (I.kI x c e)
 · obtain ⟨e,n,ne,nf,d⟩:=I.pin p hp
   have nch:p.1 ∉ ch:=fun z=>(hch p.1 z).2.2.2 p hp rfl
   exact ⟨keep p.1 p.2 ne nf nch e n,free p.1 p.2 nch e n,ne,nf,d⟩
theorem Inv.un {t':Nat} (I:Inv X pins σ H s) (u:Un X.fs [] H H' s.heap h') (hok:HOk X.prog X.w H' h'):Inv X pins σ H' { s with heap:=h',toks:=t' }:=by
 obtain ⟨m,⟨o,es,ep,ho,r⟩,_⟩:=id I.loc
 obtain ⟨sl,hL⟩:=u.any ho I.free (by simp)
 exact I.step (g':=s.gens) (d':=s.drawn) (ch:=[]) (fun _ z=>nomatch z) (fun b o _ hb _ e n=>u.keep b o e n hb (by simp)) (fun b o _ hb _ e n=>u.slot b o e n hb (by simp)) (fun b o _ e n=>u.free b o e n (by simp)) (fun b o _ e=>u.there b o e (by simp)) u.vm u.ug u.vn (fun m' hm=>by
   obtain ⟨o',es',ep',ho',r'⟩:=hm
   rw [ho] at ho'; cases ho'
   exact ⟨_,es',ep',hL,r'⟩) hok I.bare
theorem Inv.call {g':Array GenState} {t':Nat} {d':Drawn} {ch:List Addr} (I:Inv X pins σ H s) (u:Un (frs X.stack) ch H H' s.heap h') (hok:HOk X.prog X.w H' h') (hg:AllBare g')
   (hch:∀ b∈ch,(b∈X.ex∨X.s₀.heap.objs.size≤b)∧b≠X.env.locals∧(∀ x c,X.env.cells.lookup x=some c→c≠b)∧∀ p∈X.pn ++ pins,p.1≠b) :
   Inv X pins σ H' { s with heap:=h',gens:=g',drawn:=d',toks:=t' }:=by
 obtain ⟨m,⟨o,es,ep,ho,r⟩,_⟩:=id I.loc
 obtain ⟨sl,hL⟩:=u.any ho I.free fun z=>(hch _ z).2.1 rfl
 exact I.step (ch:=ch) hch (fun b o hL hb hc e n=>u.keep b o e n (fun z=>(List.mem_cons.mp (I.vp b z)).elim hL hb) hc) (fun b o _ _ hc e n=>u.any e n hc) (fun b o hc e n=>u.free b o e n hc) (fun b o hc e=>u.there b o e hc) u.vm u.ug u.vn (fun m' hm=>by
   obtain ⟨o',es',ep',ho',r'⟩:=hm
   rw [ho] at ho'; cases ho'
   exact ⟨_,es',ep',hL,r'⟩) hok hg
theorem Inv.turned {t':Nat} {it:Addr} (I:Inv X pins σ H s) (k:∀ b o,b≠it→s.heap.get? b=some o→h'.get? b=some o) (hn:H it=none) (hL:it≠X.env.locals)
   (h1:it∈X.ex∨X.s₀.heap.objs.size≤it) (h2:∀ x c,X.env.cells.lookup x=some c→c≠it) (h3:∀ p∈X.pn ++ pins,p.1≠it):Inv X pins σ H { s with heap:=h',toks:=t' }:=by
 have nit:∀ b u,H b=some u→b≠it:=fun b u e z=>by rw [z,hn] at e; cases e
 refine I.step (g':=s.gens) (d':=s.drawn) (ch:=[it]) (fun b hb=>?_) (fun b o _ _ hc e _=>k b o (fun z=>hc (by simp [z])) e) (fun b o _ _ hc e _=>⟨o.slots,k b o (fun z=>hc (by simp [z])) e⟩) (fun _ _ _ _ n=>n)
   (fun b o hc e=>⟨o,k b o (fun z=>hc (by simp [z])) e⟩) (fun _ _ e=>e) (fun _ _ _ e=>e) (fun b ps e=>⟨#[],by rw [e]; simp⟩) (fun m hm=>?_) (fun b u e=>?_) I.bare
 · have e:b=it:=by simpa using hb
   subst e
   exact ⟨h1,hL,h2,h3⟩
 · obtain ⟨o,es,ep,ho,r⟩:=hm
   exact ⟨o,es,ep,k _ o (Ne.symm hL) ho,r⟩
 · refine (I.hok b u e).kH (fun c v hc q=>k c v ?_ q) (fun _ q=>q) fun _ _ q=>q
   rcases hc with z | z
   · rw [z]; exact nit b u e
   · exact nit c _ z
theorem Inv.tok (I:Inv X pins σ H s) (t:Nat):Inv X pins σ H { s with toks:=t }:=I.un (h':=s.heap) (t':=t) Un.refl I.hok
theorem Inv.kept {t':Nat} (I:Inv X pins σ H s) (k:∀ b u,s.heap.get? b=some u→h'.get? b=some u):Inv X pins σ H { s with heap:=h',toks:=t' }:=I.un (Un.kept k) (I.hok.kept k)
theorem Inv.laid {a:Addr} {o:HO} {t':Nat} (I:Inv X pins σ H s) (k:∀ b u,s.heap.get? b=some u→h'.get? b=some u) (hp:s.heap.objs.size≤a) (new:dH X.prog X.w (upd H a o) h' a o) :
   Inv X pins σ (upd H a o) { s with heap:=h',toks:=t' }:=I.un (Un.laid k hp (I.hok.fresh hp)) (I.hok.laid k hp new)
theorem Inv.write {x e:Addr} {o:HO} {t':Nat} (I:Inv X pins σ H s) (mu:Mut (H x)) (he:e=x∨H e=some (.own x)) (k:∀ b u,b≠e→s.heap.get? b=some u→h'.get? b=some u) (heo:∃ u,h'.get? e=some u)
   (new:dH X.prog X.w (upd H x o) h' x o):Inv X pins σ (upd H x o) { s with heap:=h',toks:=t' }:=I.un (Un.write mu he k heo) (I.hok.write mu he k heo new)
theorem Inv.zI {wM:List (Addr × Obj)} (I:Inv X pins σ H s) (h:∀ p∈wM,s.heap.get? p.1=some p.2∧H p.1=none∧p.1≠X.env.locals∧p.1 ∉ X.fs∧∀ v,p.2.data≠.cell v):Inv X wM σ H s:=
 ⟨I.ok,I.os,I.bare,I.base,I.loc,I.cell,I.free,I.kI,fun p hp=>(List.mem_append.mp hp).elim (fun z=>I.pin p (List.mem_append_left _ z)) (h p),I.hok,I.len⟩
theorem wN {N:List Str} (hN:N.Nodup) {i j:Nat} {x:Str} (a:N[i]?=some x) (b:N[j]?=some x):i=j:=by
 obtain ⟨h1,e1⟩:=List.getElem?_eq_some_iff.mp a
 obtain ⟨h2,e2⟩:=List.getElem?_eq_some_iff.mp b
 exact (List.getElem_inj hN).mp (e1.trans e2.symm)
theorem uL {M:Model} {A:Around} {E:Value→Shared→Prop} {i:Nat} {x:Str} {v:V} {u:Value} {Q:Unit→Shared→Prop} (I:Inv X pins σ H s) (hN:X.N.Nodup) (hi:X.N[i]?=some x) (hx:Loc X.env.scope x) (r:RelV v u)
   (h:∀ s',Inv X pins (σ.set i (some v)) H s'→(∃ a,Heap.SameBut a s.heap s'.heap∧(a=X.env.locals∨X.env.cells.lookup x=some a))→Q () s') (hf:X.fn x=true∨X.env.scope.names.lookup x=some .local:=by first | exact .inl rfl | exact .inr rfl | assumption):wpAny M A (storeName X.env x u) Q E s:=by
 obtain ⟨m,hn,hl⟩:=id I.loc
 have IQ:(X.env.scope.kind == .class || (X.env.scope.kind == .module && X.env.locals != X.env.globals))=false:=by rw [I.ok.kind]; rfl
 have hiσ:i < σ.length:=by rw [I.len]; exact (List.getElem?_eq_some_iff.mp hi).1
 have cne:=I.cne
 have tracked:∀ {a:Addr} {h':Heap},(∃ o,s.heap.get? a=some o∧H a=none)→Heap.SameBut a s.heap h'→HOk X.prog X.w H h':=fun {a h'} ha hs b ob e=>by
   obtain ⟨_,_,og⟩:=ha
   refine (I.hok b ob e).kH (fun c w' hc q=>(hs.2 c ?_).trans q) (fun _ q=>q) fun _ _ q=>q
   rintro rfl
   rcases hc with rfl | hc
   · rw [og] at e; cases e
   · rw [og] at hc; cases hc
 rcases hx with hk | hk
 · refine wpAny_storeName_local hk hn (fun h' hn' hs=>?_) IQ
   obtain ⟨oL,_,_,hoL,_⟩:=id hn
   refine h _ ⟨I.ok,I.os,I.bare,⟨fun b o e n hb hx=>?_,fun b o e n hb hx=>?_,I.base.free,fun b o e hx=>?_,I.base.vm,I.base.ug,I.base.vn⟩,⟨_,hn',fun j y v' e1 e2 e3=>?_⟩,fun y c e=>?_,I.free,I.kI,fun p hp=>?_,tracked ⟨oL,hoL,I.free⟩ hs,by simpa using I.len⟩ ⟨_,hs,.inl rfl⟩
   · exact (hs.2 b (Nat.ne_of_lt (Nat.lt_of_lt_of_le (Heap.lt_size e) I.ok.above))).trans (I.base.keep b o e n hb hx)
   · obtain ⟨sl,e1⟩:=I.base.slot b o e n hb hx
     exact ⟨sl,(hs.2 b (Nat.ne_of_lt (Nat.lt_of_lt_of_le (Heap.lt_size e) I.ok.above))).trans e1⟩
   · obtain ⟨o',e1⟩:=I.base.there b o e hx
     exact ⟨o',(hs.2 b (Nat.ne_of_lt (Nat.lt_of_lt_of_le (Heap.lt_size e) I.ok.above))).trans e1⟩
   · by_cases hj:j=i
     · subst hj
       rw [hi] at e1; cases e1
       rw [List.getElem?_set_self hiσ] at e2
       cases e2
       exact ⟨u,r,.inl ⟨hk,by simp⟩⟩
     · rw [List.getElem?_set_ne (Ne.symm hj)] at e2
       obtain ⟨u',r',q⟩:=hl j y v' e1 e2 e3
       refine ⟨u',r',?_⟩
       rcases q with ⟨k,e⟩ | ⟨k,c,e,z⟩
       · refine .inl ⟨k,?_⟩
         have:y≠x:=fun e=>hj (wN hN e1 (e ▸ hi))
         simp [this,e]
       · exact .inr ⟨k,c,e,z.sameBut hs (cne y c e)⟩
   · obtain ⟨w',z⟩:=I.cell y c e
     exact ⟨w',z.sameBut hs (cne y c e)⟩
   · obtain ⟨e,n,ne,nf,d⟩:=I.pin p hp
     exact ⟨(hs.2 p.1 ne).trans e,n,ne,nf,d⟩
 · have hfn:X.fn x=true:=by
     rcases hf with z | z
     · exact z
     · rw [z] at hk; cases hk
   obtain ⟨c,hc⟩:=I.ok.has x (.inl hk)
   obtain ⟨w',z⟩:=I.cell x c hc
   refine wpAny_storeName_cell I.ok.kind hk hc z (fun h' hc' hs=>?_)
   obtain ⟨oc,hoc,IS⟩:=id z
   refine h { s with heap:=h' } ⟨I.ok,I.os,I.bare,⟨fun b o e n hb hx=>?_,fun b o e n hb hx=>?_,I.base.free,fun b o e hx=>?_,I.base.vm,I.base.ug,I.base.vn⟩,⟨m,hn.sameBut hs (Ne.symm (cne x c hc)),fun j y v' e1 e2 e3=>?_⟩,fun y c' e=>?_,I.free,I.kI,fun p hp=>?_,tracked ⟨oc,hoc,I.kI x c hc⟩ hs,by simpa using I.len⟩ ⟨c,hs,.inr hc⟩
   · exact (hs.2 b (Nat.ne_of_lt (Nat.lt_of_lt_of_le (Heap.lt_size e) (I.ok.cab x c hfn hc)))).trans (I.base.keep b o e n hb hx)
   · obtain ⟨sl,e1⟩:=I.base.slot b o e n hb hx
     exact ⟨sl,(hs.2 b (Nat.ne_of_lt (Nat.lt_of_lt_of_le (Heap.lt_size e) (I.ok.cab x c hfn hc)))).trans e1⟩
   · obtain ⟨o',e1⟩:=I.base.there b o e hx
     exact ⟨o',(hs.2 b (Nat.ne_of_lt (Nat.lt_of_lt_of_le (Heap.lt_size e) (I.ok.cab x c hfn hc)))).trans e1⟩
   · by_cases hj:j=i
     · subst hj
       rw [hi] at e1; cases e1
       rw [List.getElem?_set_self hiσ] at e2
       cases e2
       exact ⟨u,r,.inr ⟨.inl hk,c,hc,hc'⟩⟩
     · rw [List.getElem?_set_ne (Ne.symm hj)] at e2
       obtain ⟨u',r',q⟩:=hl j y v' e1 e2 e3
       refine ⟨u',r',?_⟩
       rcases q with q | ⟨k,c',e,z'⟩
       · exact .inl q
       · refine .inr ⟨k,c',e,z'.sameBut hs ?_⟩
         rintro rfl
         exact hj (wN hN e1 (I.ok.inj _ _ _ e hc ▸ hi))
   · by_cases hcc:c'=c
     · subst hcc; exact ⟨_,hc'⟩
     · obtain ⟨w2,z2⟩:=I.cell y c' e
       exact ⟨w2,z2.sameBut hs hcc⟩
   · obtain ⟨e,n,ne,nf,d⟩:=I.pin p hp
     refine ⟨(hs.2 p.1 ?_).trans e,n,ne,nf,d⟩
     intro q
     rw [q,hoc] at e
     have q':oc=p.2:=Option.some.inj e
     exact d w' (by rw [← q']; exact IS)
theorem wO {M:Model} {A:Around} {E:Value→Shared→Prop} {i:Nat} {x:Str} {v:V} {u:Value} {Q:Unit→Shared→Prop} (I:Inv X pins σ H s) (hN:X.N.Nodup) (hi:X.N[i]?=some x) (hx:Loc X.env.scope x) (r:RelV v u)
   (h:∀ s',Inv X pins (σ.set i (some v)) H s'→Q () s') (hf:X.fn x=true∨X.env.scope.names.lookup x=some .local:=by first | exact .inl rfl | exact .inr rfl | assumption):wpAny M A (storeName X.env x u) Q E s:=
 uL I hN hi hx r (fun s' I' _=>h s' I') hf
theorem Inv.G9 {s':Shared} {ch:List Addr} (I:Inv X pins σ H s) (ho:s'.os=s.os) (u:Un (frs X.stack) ch H H' s.heap s'.heap) (hok:HOk X.prog X.w H' s'.heap) (hg:AllBare s'.gens)
   (hch:∀ b∈ch,(b∈X.ex∨X.s₀.heap.objs.size≤b)∧b≠X.env.locals∧(∀ x c,X.env.cells.lookup x=some c→c≠b)∧∀ p∈X.pn ++ pins,p.1≠b):Inv X pins σ H' s':=by
 obtain ⟨h',g',d',t',o'⟩:=s'
 have e:o'=s.os:=ho
 subst e
 exact I.call (g':=g') (t':=t') (d':=d') u hok hg hch
end
noncomputable abbrev XK:=Value→Option Addr→Hp→Prop
noncomputable abbrev St:=List (Option V)
noncomputable abbrev VK:=V→Hp→Prop
noncomputable abbrev TE:=St→Hp→VK→Prop
noncomputable abbrev TT:=St→Hp→(Bool→Hp→Prop)→Prop
noncomputable abbrev TA:=St→Hp→(List V→Hp→Prop)→Prop
structure Ends where
 nx:St→Hp→Prop
 rt:VK
 bk:St→Hp→Prop:=fun _ _=>False
 ct:St→Hp→Prop:=fun _ _=>False
noncomputable abbrev TS:=Ends→St→Hp→Prop
noncomputable def EP (X:Cx) (pins:List (Addr × Obj)) (σ:St) (Q:VK) (u:Value) (s':Shared):Prop:=∃ v H',Inv X pins σ H' s'∧RelV v u∧Q v H'
noncomputable def TP (X:Cx) (pins:List (Addr × Obj)) (σ:St) (Q:Bool→Hp→Prop) (b:Bool) (s':Shared):Prop:=∃ H',Inv X pins σ H' s'∧Q b H'
noncomputable def AP (X:Cx) (pins:List (Addr × Obj)) (σ:St) (Q:List V→Hp→Prop) (us:List Value) (s':Shared):Prop:=∃ vs H',Inv X pins σ H' s'∧Vals vs us∧Q vs H'
noncomputable def SP (X:Cx) (pins:List (Addr × Obj)) (D:Ends) (f:Flow) (s':Shared):Prop:=
 match f with
 | .next=>∃ σ' H',Inv X pins σ' H' s'∧D.nx σ' H'
 | .brk=>∃ σ' H',Inv X pins σ' H' s'∧D.bk σ' H'
 | .cont=>∃ σ' H',Inv X pins σ' H' s'∧D.ct σ' H'
 | .ret u=>∃ v σ' H',Inv X pins σ' H' s'∧RelV v u∧D.rt v H'
noncomputable def PE (X:Cx) (e:Expr) (t:TE):Prop:=
 ∀ (pins:List (Addr × Obj)) (s:Shared) (σ:St) (H:Hp) (Q:VK),Inv X pins σ H s→t σ H Q→wpAny (model X.prog X.w) X.A (eval e X.env) (EP X pins σ Q) X.xe s
noncomputable def PT (X:Cx) (e:Expr) (t:TT):Prop:=
 ∀ (pins:List (Addr × Obj)) (s:Shared) (σ:St) (H:Hp) (Q:Bool→Hp→Prop),Inv X pins σ H s→t σ H Q→wpAny (model X.prog X.w) X.A (isTrue e X.env (eval e X.env)) (TP X pins σ Q) X.xe s
noncomputable def PW (X:Cx) (e:Expr) (t:TT):Prop:=
 ∀ (whole:Sem Value) (pins:List (Addr × Obj)) (s:Shared) (σ:St) (H:Hp) (Q:Bool→Hp→Prop),Inv X pins σ H s→t σ H Q→wpAny (model X.prog X.w) X.A (isTrue e X.env whole) (TP X pins σ Q) X.xe s
theorem PW.pt {X:Cx} {e:Expr} {t:TT} (h:PW X e t):PT X e t:=h _
noncomputable def PA (X:Cx) (es:List Expr) (t:TA):Prop:=
 ∀ (pos:Pos) (pins:List (Addr × Obj)) (s:Shared) (σ:St) (H:Hp) (Q:List V→Hp→Prop),Inv X pins σ H s→t σ H Q→wpAny (model X.prog X.w) X.A (spliced (backTo pos (starEach es X.env))) (AP X pins σ Q) X.xe s
noncomputable def PS (X:Cx) (st:Stmt) (t:TS):Prop:=
 ∀ (pins:List (Addr × Obj)) (s:Shared) (σ:St) (H:Hp) (D:Ends),Inv X pins σ H s→t D σ H→wpAny (model X.prog X.w) X.A (exec st X.env) (SP X pins D) X.xe s
noncomputable def PSs (X:Cx) (st:List Stmt) (t:TS):Prop:=
 ∀ (pins:List (Addr × Obj)) (s:Shared) (σ:St) (H:Hp) (D:Ends),Inv X pins σ H s→t D σ H→wpAny (model X.prog X.w) X.A (execs st X.env) (SP X pins D) X.xe s
theorem thn {α:Type} {t:Sem α} {Q Q':α→Shared→Prop} {M:Model} {A:Around} {E:Value→Shared→Prop} {s:Shared} (h:wpAny M A t Q E s) (hQ:∀ a s,Q a s→Q' a s):wpAny M A t Q' E s:=wpAny_mono h hQ fun _ _ x=>x
end L2
namespace L2
open PySem PySem.Spec PyProof.Rows
section
variable {X:Cx}
theorem bin {a b:Expr} {ta tb:TE} (ha:PE X a ta) (hb:PE X b tb) {pins:List (Addr × Obj)} {s:Shared} {σ:St} {H:Hp} {R:V→V→Hp→Prop} (I:Inv X pins σ H s) (h:ta σ H fun x H1=>tb σ H1 fun y H2=>R x y H2)
   {α:Type} {Q:α→Shared→Prop} {f:Value→Value→Sem α}
   (hf:∀ v u s2 x y H2,Inv X pins σ H2 s2→RelV x v→RelV y u→R x y H2→wpAny (model X.prog X.w) X.A (f v u) Q X.xe s2) :
   wpAny (model X.prog X.w) X.A (eval a X.env) (fun v s₁=>wpAny (model X.prog X.w) X.A (eval b X.env) (fun u s₂=>wpAny (model X.prog X.w) X.A (f v u) Q X.xe s₂) X.xe s₁) X.xe s:=by
 refine thn (ha pins s σ H _ I h) fun v s1 ⟨x,H1,I1,r1,q1⟩=>?_
 refine thn (hb pins s1 σ H1 _ I1 q1) fun u s2 ⟨y,H2,I2,r2,q2⟩=>?_
 exact hf v u s2 x y H2 I2 r1 r2 q2
noncomputable def vAt (Q:V→Prop):Option (Option V)→Prop
 | some (some v)=>Q v
 | _=>False
theorem FN {Q:V→Prop}:∀ {o:Option (Option V)},vAt Q o→∃ v,o=some (some v)∧Q v
 | some (some v),h=>⟨v,rfl,h⟩
 | some none,h=>h.elim
 | none,h=>h.elim
noncomputable def eL (i:Nat):TE:=fun σ H Q=>vAt (fun v=>Q v H) σ[i]?
noncomputable def tC (v:V):TE:=fun _ H Q=>Q v H
theorem FO {i:Nat} {x:Str} {pos:Pos} (hN:X.N[i]?=some x) (hv:Vis X.env.scope x) (hd:(x == ("__debug__":Str))=false:=by decide) (hcd:(x == ("__classdict__":Str))=false:=by decide):PE X (.Name x pos) (eL i):=by
 intro pins s σ H Q I h
 obtain ⟨v,e,h⟩:=FN h
 obtain ⟨m,hn,hl⟩:=I.loc
 obtain ⟨u,r,l⟩:=hl i x v hN e hv
 have fin:EP X pins σ Q u s:=⟨v,H,I,r,h⟩
 rcases l with ⟨hk,hm⟩ | ⟨hk,c,hc,zJ⟩
 · exact wpAny_Name (wpAny_loadName_local I.ok.kind hk hn hm fin) hd
 · rcases hk with hk | hk
   · exact wpAny_Name (wpAny_loadName_cell I.ok.kind hk hc zJ fin) hd
   · exact wpAny_Name (wpAny_loadName_free I.ok.kind hk hc zJ fin hcd) hd
theorem aj {i j pos}:PE X (.Constant (.int i) j pos) (tC (.int i)):=fun _ _ _ H _ I h=>wpAny_Constant_int ⟨.int i,H,I.tok _,⟨_,rfl⟩,h⟩
theorem rO {b j pos}:PE X (.Constant (.bool b) j pos) (tC (.bl b)):=fun _ _ _ H _ I h=>Constant_bool ⟨.bl b,H,I,rfl,h⟩
theorem eX {j pos}:PE X (.Constant .none j pos) (tC .non):=fun _ _ _ H _ I h=>Constant_none ⟨.non,H,I,rfl,h⟩
theorem ay {x j pos}:PE X (.Constant (.str x) j pos) (tC (.str x)):=fun _ _ _ H _ I h=>Calls.Constant_str ⟨.str x,H,I.tok _,⟨_,rfl⟩,h⟩
noncomputable def Gl (X:Cx) (x:Str):Prop:=X.env.kindOf x=some .globalImplicit
theorem vq {E:Value→Shared→Prop} {pins:List (Addr × Obj)} {s:Shared} {σ:St} {H:Hp} {x:Str} {u:Value} {pos:Pos} {Q:Value→Shared→Prop} (I:Inv X pins σ H s) (hg:Gl X x) (hm:X.mg x=some u) (h:Q u s)
   (hd:(x == ("__debug__":Str))=false:=by decide):wpAny (model X.prog X.w) X.A (eval (.Name x pos) X.env) Q E s:=
 Calls.Name_function_global I.ok.kind hg (Calls.loadGlobal_global (by rw [I.ok.glob]; exact I.mod.glob.keeps I.bk) hm h) hd
theorem pI {E:Value→Shared→Prop} {pins:List (Addr × Obj)} {s:Shared} {σ:St} {H:Hp} {x:Str} {u:Value} {pos:Pos} {Q:Value→Shared→Prop} (I:Inv X pins σ H s) (hg:Gl X x) (hm:X.mg x=none) (hv:bootBuiltins x=some u) (h:Q u s)
   (hn:x≠"__name__":=by decide) (hd:(x == ("__debug__":Str))=false:=by decide):wpAny (model X.prog X.w) X.A (eval (.Name x pos) X.env) Q E s:=by
 obtain ⟨mb,h1,h2⟩:=I.mod.blt
 exact Calls.Name_function_global I.ok.kind hg (Calls.loadGlobal_builtin (by rw [I.ok.glob]; exact I.mod.glob.keeps I.bk) hm (by rw [I.ok.blt]; exact h1.keeps I.bk) ((h2 x hn).trans hv) h) hd
theorem oh {x:Str} {v:V} {u:Value} {pos:Pos} (hg:Gl X x) (hm:X.mg x=some u) (r:RelV v u) (hd:(x == ("__debug__":Str))=false:=by decide):PE X (.Name x pos) (tC v):=
 fun _ _ _ H _ I h=>vq I hg hm ⟨v,H,I,r,h⟩ hd
variable {a b:Expr} {ta tb:TE} {pos:Pos}
noncomputable def tB (t:TE):TT:=fun σ H Q=>t σ H fun x H1=>∃ c,x=.bl c∧Q c H1
theorem yi {e:Expr} {t:TE} (h:PE X e t) (he:∀ whole,isTrue e X.env whole=(do let v ← whole; standAt e.pos; holding [v] (truthy v)):=by intro _; rfl):PT X e (tB t):=by
 intro pins s σ H Q I hw
 refine isTrue_plain (thn (h pins s σ H _ I hw) fun v s1 ⟨x,H1,I1,r1,q1⟩=>?_) (he _)
 obtain ⟨d,rfl,q⟩:=q1
 cases r1
 exact wpAny_truthy_bool ⟨H1,I1,q⟩
variable {tA tB':TT} {rest:List Expr}
noncomputable def FP (t u:TT):TT:=fun σ H Q=>t σ H fun c H1=>if c=true then u σ H1 Q else Q false H1
noncomputable def tOr (t u:TT):TT:=fun σ H Q=>t σ H fun c H1=>if c=true then Q true H1 else u σ H1 Q
noncomputable def Ha (t:TT):TT:=fun σ H Q=>t σ H fun c H1=>Q (!c) H1
theorem pw_and1 (ha:PT X a tA):PW X (.BoolOp .And [a] pos) tA:=by
 intro wh pins s σ H Q I h
 refine isTrue_and (thn (ha pins s σ H Q I h) fun c s1 e=>?_)
 cases c with
 | true=>exact isTrue_and_nil e
 | false=>exact e
theorem pw_or1 (ha:PT X a tA):PW X (.BoolOp .Or [a] pos) tA:=by
 intro wh pins s σ H Q I h
 refine isTrue_or (thn (ha pins s σ H Q I h) fun c s1 e=>?_)
 cases c with
 | false=>exact isTrue_or_nil e
 | true=>exact e
theorem pw_and (ha:PT X a tA) (hb:PW X (.BoolOp .And (b :: rest) pos) tB'):PW X (.BoolOp .And (a :: b :: rest) pos) (FP tA tB'):=by
 intro wh pins s σ H Q I h
 refine isTrue_and (thn (ha pins s σ H _ I h) fun c s1 ⟨H1,I1,q1⟩=>?_)
 cases c with
 | true=>exact hb wh pins s1 σ H1 Q I1 q1
 | false=>exact ⟨H1,I1,q1⟩
theorem pw_or (ha:PT X a tA) (hb:PW X (.BoolOp .Or (b :: rest) pos) tB'):PW X (.BoolOp .Or (a :: b :: rest) pos) (tOr tA tB'):=by
 intro wh pins s σ H Q I h
 refine isTrue_or (thn (ha pins s σ H _ I h) fun c s1 ⟨H1,I1,q1⟩=>?_)
 cases c with
 | true=>exact ⟨H1,I1,q1⟩
 | false=>exact hb wh pins s1 σ H1 Q I1 q1
theorem FQ (ha:PT X a tA):PT X (.UnaryOp .Not a pos) (Ha tA):=by
 intro pins s σ H Q I h
 exact isTrue_not (ha pins s σ H (fun c H1=>Q (!c) H1) I h)
noncomputable def Fc (ta tb:TE):TE:=fun σ H Q=>ta σ H fun x H1=>∃ c,x=.bl c∧if c=true then tb σ H1 Q else Q (.bl false) H1
noncomputable def Hb (ta tb:TE):TE:=fun σ H Q=>ta σ H fun x H1=>∃ c,x=.bl c∧if c=true then Q (.bl true) H1 else tb σ H1 Q
noncomputable def Fd (ta:TE):TE:=fun σ H Q=>ta σ H fun x H1=>∃ c,x=.bl c∧Q (.bl (!c)) H1
noncomputable def tIf (t:TT) (ta tb:TE):TE:=fun σ H Q=>t σ H fun c H1=>if c=true then ta σ H1 Q else tb σ H1 Q
end
end L2
namespace L2
open PySem PySem.Spec PyProof.Rows
noncomputable def SqL (K:PySem.W.Frag) (H:Hp) (a:Addr) (xs:List V):Prop:=
 Rd H a (.lst xs)∨
   ∃ (o:Obj) (its:Array Value) (n:Nat),K.lookup a=some o∧o.cls=.type "list"∧o.dict=none∧o.data=.seq its n∧its.size≤sizeLine∧Vals xs its.toList
noncomputable def SqT (K:PySem.W.Frag) (H:Hp) (a:Addr) (xs:List V):Prop:=
 Rd H a (.tup xs)∨
   ∃ (o:Obj) (its:Array Value) (n:Nat),K.lookup a=some o∧o.cls=.type "tuple"∧o.data=.seq its n∧its.size≤sizeLine∧Vals xs its.toList
noncomputable def IT:Value→Option V
 | .none=>some .non
 | .bool b=>some (.bl b)
 | .int i _=>some (.int i)
 | .str x _=>some (.str x)
 | .bytes b _=>some (.byt b)
 | .float b _=>some (.flt b)
 | .ref a=>some (.ref a)
 | .type n=>some (.ty n)
 | _=>none
theorem RelV.abs {x:V} {u:Value} (r:RelV x u):IT u=some x:=by
 cases x with
 | non=>cases r; rfl
 | bl _=>cases r; rfl
 | int _=>obtain ⟨t,rfl⟩:=r; rfl
 | str _=>obtain ⟨t,rfl⟩:=r; rfl
 | byt _=>obtain ⟨t,rfl⟩:=r; rfl
 | flt _=>obtain ⟨t,rfl⟩:=r; rfl
 | ref _=>cases r; rfl
 | ty _=>cases r; rfl
theorem RelV.inj {x y:V} {u:Value} (r:RelV x u) (q:RelV y u):x=y:=Option.some.inj (r.abs.symm.trans q.abs)
theorem Vals.inj:∀ {xs ys:List V} {us:List Value},Vals xs us→Vals ys us→xs=ys
 | _,_,_,.nil,.nil=>rfl
 | _,_,_,.cons r t,.cons r' t'=>by rw [r.inj r',Vals.inj t t']
section
variable {X:Cx} {pins:List (Addr × Obj)} {σ:St} {H:Hp} {s:Shared} {a:Addr} {xs ys:List V}
theorem SqL.of {K:PySem.W.Frag} (h:H a=some (.lst xs)):SqL K H a xs:=.inl (.inl h)
theorem SqT.of {K:PySem.W.Frag} (h:H a=some (.tup xs)):SqT K H a xs:=.inl (.inl h)
theorem Inv.list (I:Inv X pins σ H s) (h:SqL X.K H a xs):∃ its:List Value,Vals xs its∧PlainL s.heap a its.toArray∧xs.length≤sizeLine:=by
 rcases h with h | ⟨o,its,n,hk,hc,hd,hs,hz,r⟩
 · obtain ⟨z,its,n,r,e⟩:=h.ok I.hok
   exact ⟨its,r,⟨_,n,e,rfl,rfl,rfl⟩,z⟩
 · refine ⟨its.toList,r,⟨o,n,I.kIn a o hk,hc,hd,by simpa using hs⟩,?_⟩
   have e:=r.length
   simp only [Array.length_toList] at e
   lia
theorem Inv.tuple (I:Inv X pins σ H s) (h:SqT X.K H a xs):∃ its:List Value,Vals xs its∧IsTup s.heap a its.toArray∧xs.length≤sizeLine:=by
 rcases h with h | ⟨o,its,n,hk,hc,hs,hz,r⟩
 · obtain ⟨z,its,r,p⟩:=h.ok I.hok
   exact ⟨its,r,p,z⟩
 · refine ⟨its.toList,r,⟨o,I.kIn a o hk,hc,n,by simpa using hs⟩,?_⟩
   have e:=r.length
   simp only [Array.length_toList] at e
   lia
theorem Inv.wQ (I:Inv X pins σ H s) (h:SqL X.K H a xs) (h':SqL X.K H a ys):xs=ys:=by
 obtain ⟨its,r,⟨o,n,e,_,_,d⟩,_⟩:=I.list h
 obtain ⟨its',r',⟨o',n',e',_,_,d'⟩,_⟩:=I.list h'
 rw [e] at e'; cases e'
 rw [d] at d'
 injection d' with d1 _
 have:its=its':=by simpa using congrArg Array.toList d1
 subst this
 exact r.inj r'
end
noncomputable abbrev Cx.uh (X:Cx) (E:Value→Shared→Prop):Cx:={ X with xe:=E }
noncomputable abbrev Cx.nox (X:Cx):Cx:=X.uh fun _ _=>False
theorem Cx.Ok.uh {X:Cx} (ok:X.Ok) (E:Value→Shared→Prop):(X.uh E).Ok:=
 ⟨ok.mod,ok.kind,ok.glob,ok.blt,ok.above,ok.inj,ok.has,ok.cab,ok.hd,ok.frames,ok.stk,ok.exf,ok.bs,ok.bsz,ok.Bz,ok.D0,ok.qU,ok.frf⟩
theorem Cx.Ok.kJ {X:Cx} {E:Value→Shared→Prop} (ok:(X.uh E).Ok):X.Ok:=
 ⟨ok.mod,ok.kind,ok.glob,ok.blt,ok.above,ok.inj,ok.has,ok.cab,ok.hd,ok.frames,ok.stk,ok.exf,ok.bs,ok.bsz,ok.Bz,ok.D0,ok.qU,ok.frf⟩
section
variable {X:Cx} {pins:List (Addr × Obj)} {σ:St} {H:Hp} {s:Shared} {E:Value→Shared→Prop}
theorem Inv.uh (I:Inv X pins σ H s) (E:Value→Shared→Prop):Inv (X.uh E) pins σ H s:=⟨I.ok.uh E,I.os,I.bare,I.base,I.loc,I.cell,I.free,I.kI,I.pin,I.hok,I.len⟩
theorem Inv.kJ (I:Inv (X.uh E) pins σ H s):Inv X pins σ H s:=⟨I.ok.kJ,I.os,I.bare,I.base,I.loc,I.cell,I.free,I.kI,I.pin,I.hok,I.len⟩
theorem SP.kJ {D:Ends} {f:Flow} {s':Shared} (h:SP (X.uh E) pins D f s'):SP X pins D f s':=by
 cases f with
 | next=>obtain ⟨σ',H',I,q⟩:=h; exact ⟨σ',H',I.kJ,q⟩
 | brk=>obtain ⟨σ',H',I,q⟩:=h; exact ⟨σ',H',I.kJ,q⟩
 | cont=>obtain ⟨σ',H',I,q⟩:=h; exact ⟨σ',H',I.kJ,q⟩
 | ret u=>obtain ⟨v,σ',H',I,r,q⟩:=h; exact ⟨v,σ',H',I.kJ,r,q⟩
theorem PSs.nox {st:List Stmt} {t:TS} (h:PSs X.nox st t):PSs X st t:=fun pins s σ H D I hw=>
 wpAny_mono (h pins s σ H D (I.uh _) hw) (fun _ _ q=>q.kJ) fun _ _ z=>False.elim z
end
section
variable {X:Cx} {st:Stmt} {rest:List Stmt} {t u:TS} {e:Expr} {te:TE} {pos:Pos}
noncomputable def BA:TS:=fun D σ H=>D.nx σ H
noncomputable def Ea (t u:TS):TS:=fun D σ H=>t { D with nx:=u D } σ H
theorem bo:PSs X [] BA:=fun _ _ σ H _ I h=>wpAny_execs_nil ⟨σ,H,I,h⟩
theorem ag (h1:PS X st t) (h2:PSs X rest u):PSs X (st :: rest) (Ea t u):=by
 intro pins s σ H D I h
 refine wpAny_execs_cons (thn (h1 pins s σ H { D with nx:=u D } I h) fun f s1 q=>?_)
 cases f with
 | next=>
   obtain ⟨σ',H',I',q⟩:=q
   exact h2 pins s1 σ' H' D I' q
 | ret v=>exact q
 | brk=>exact q
 | cont=>exact q
theorem av (h1:PS X st t):PSs X [st] t:=by
 intro pins s σ H D I h
 refine wpAny_execs_cons (thn (h1 pins s σ H D I h) fun f s1 q=>?_)
 cases f with
 | next=>exact wpAny_execs_nil q
 | ret v=>exact q
 | brk=>exact q
 | cont=>exact q
noncomputable def BB:TS:=fun D σ H=>D.bk σ H
noncomputable def Fe:TS:=fun D σ H=>D.ct σ H
theorem Inv.quiet {pins:List (Addr × Obj)} {σ:St} {H:Hp} {s:Shared} (I:Inv X pins σ H s):interactive X.env=false:=by simp [interactive,I.ok.kind]
noncomputable def BC (te:TE):TS:=fun D σ H=>te σ H fun _ H1=>D.nx σ H1
theorem dU (he:PE X e te) (hs:swapsWith e none pos.line X.env=pure false:=by rfl):PS X (.Expr e pos) (BC te):=by
 intro pins s σ H D I h
 exact wpAny_Expr_any (thn (he pins s σ H _ I h) fun v s1 ⟨x,H1,I1,r1,q1⟩=>⟨σ,H1,I1,q1⟩) I.quiet hs
noncomputable def FR (te:TE):TS:=fun D σ H=>te σ H D.rt
theorem aX (he:PE X e te):PS X (.Return (some e) pos) (FR te):=by
 intro pins s σ H D I h
 exact wpAny_Return_some (thn (he pins s σ H _ I h) fun v s1 ⟨x,H1,I1,r1,q1⟩=>⟨x,σ,H1,I1,r1,q1⟩)
noncomputable def Ff:TS:=fun D _ H=>D.rt .non H
noncomputable def FT (c:TT) (t u:TS):TS:=fun D σ H=>c σ H fun b H1=>if b=true then t D σ H1 else u D σ H1
theorem bS {c:Expr} {a b:List Stmt} {tc:TT} (hc:PT X c tc) (ha:PSs X a t) (hb:PSs X b u):PS X (.If c a b pos) (FT tc t u):=by
 intro pins s σ H D I h
 refine wpAny_If (thn (hc pins s σ H _ I h) fun d s1 ⟨H1,I1,q1⟩=>?_)
 cases d with
 | true=>exact ha pins s1 σ H1 D I1 q1
 | false=>exact hb pins s1 σ H1 D I1 q1
end
noncomputable abbrev TG:=V→St→Hp→(St→Hp→Prop)→Prop
noncomputable abbrev TGs:=List V→St→Hp→(St→Hp→Prop)→Prop
noncomputable def PG (X:Cx) (target:Expr) (t:TG):Prop:=
 ∀ (pins:List (Addr × Obj)) (s:Shared) (σ:St) (H:Hp) (v:V) (u:Value) (Q:St→Hp→Prop),Inv X pins σ H s→RelV v u→t v σ H Q→
   wpAny (model X.prog X.w) X.A (assign target X.env u) (fun _ s'=>∃ σ' H',Inv X pins σ' H' s'∧Q σ' H') X.xe s
noncomputable def PGs (X:Cx) (ts:List Expr) (t:TGs):Prop:=
 ∀ (pins:List (Addr × Obj)) (s:Shared) (σ:St) (H:Hp) (vs:List V) (us:List Value) (Q:St→Hp→Prop),Inv X pins σ H s→Vals vs us→t vs σ H Q→
   wpAny (model X.prog X.w) X.A (assignInOrder ((assignEach ts X.env).map (·.2)) us) (fun _ s'=>∃ σ' H',Inv X pins σ' H' s'∧Q σ' H') X.xe s
noncomputable abbrev IU:=V→V→V→Hp→(Hp→Prop)→Prop
noncomputable abbrev TIp:=V→V→Hp→VK→Prop
section
variable {X:Cx} {pos:Pos}
noncomputable def eu (i:Nat):TG:=fun v σ H Q=>Q (σ.set i (some v)) H
theorem aS {i:Nat} {x:Str} (hN:X.N.Nodup) (hi:X.N[i]?=some x) (hx:Loc X.env.scope x) (hf:X.fn x=true∨X.env.scope.names.lookup x=some .local:=by first | exact .inl rfl | exact .inr rfl | assumption):PG X (.Name x pos) (eu i):=by
 intro pins s σ H v u Q I r h
 exact wpAny_assign_Name (wO I hN hi hx r (fun s' I'=>⟨_,H,I',h⟩) hf)
noncomputable def FU:TGs:=fun vs σ H Q=>vs=[]∧Q σ H
noncomputable def BD (t:TG) (u:TGs):TGs:=fun vs σ H Q=>∃ v r,vs=v :: r∧t v σ H fun σ' H'=>u r σ' H' Q
theorem iK:PGs X [] FU:=by
 intro pins s σ H vs us Q I r h
 obtain ⟨e,h⟩:=h
 subst e
 cases r
 exact assignInOrder_nil ⟨σ,H,I,h⟩
theorem aZ {e:Expr} {es:List Expr} {t:TG} {u:TGs} (h1:PG X e t) (h2:PGs X es u)
   (hs:(assignEach (e :: es) X.env).map (·.2)=assign e X.env :: (assignEach es X.env).map (·.2):=by rfl):PGs X (e :: es) (BD t u):=by
 intro pins s σ H vs us Q I r h
 obtain ⟨v,vr,e1,h⟩:=h
 subst e1
 cases r with
 | cons r rr=>
   rw [hs]
   refine assignInOrder_cons (thn (h1 pins s σ H _ _ _ I r h) fun _ s1 ⟨σ1,H1,I1,q1⟩=>?_)
   exact h2 pins s1 σ1 H1 _ _ Q I1 rr q1
noncomputable def FV (K:PySem.W.Frag) (n:Nat) (t:TGs):TG:=fun v σ H Q=>∃ a xs,v=.ref a∧SqT K H a xs∧xs.length=n∧t xs σ H Q
theorem FW {es:List Expr} {k:Nat} {t:TGs} {n:Nat} (hc:X.calm=true) (h:PGs X es t)
   (hn:(assignEach es X.env).length=n:=by rfl) (hst:(assignEach es X.env).findIdx? (·.1)=none:=by rfl):PG X (.Tuple es k pos) (FV X.K n t):=by
 intro pins s σ H v u Q I r hw
 obtain ⟨a,xs,e1,hq,hl,hw⟩:=hw
 subst e1
 cases r
 obtain ⟨its,rv,ht,hz⟩:=I.tuple hq
 refine assign_Tuple_tuple (I.ok.hd hc) ht (by simp [hn,← hl,rv.length]) hst fun h' hx=>?_
 have I1:Inv X pins σ H { s with heap:=h' }:=I.kept (t':=s.toks) fun b o e=>hx b o (Nat.ne_of_lt (Heap.lt_size e)) e
 exact h pins _ σ H xs _ Q I1 (by simpa using rv) hw
noncomputable def Hc (to ti:TE) (t:IU):TG:=fun v σ H Q=>to σ H fun o H1=>ti σ H1 fun i H2=>t o i v H2 fun H3=>Q σ H3
noncomputable def BE (te:TE) (g:TG):TS:=fun D σ H=>te σ H fun x H1=>g x σ H1 D.nx
theorem nv {tg e:Expr} {te:TE} {g:TG} (he:PE X e te) (hg:PG X tg g) (hs:swapsWithSole [tg] e pos.line X.env=pure false:=by rfl) (hw:swappedStores [tg] e X.env=pure none:=by rfl)
   (h1:(assignEach [tg] X.env).map (·.2)=[assign tg X.env]:=by rfl):PS X (.Assign [tg] e pos) (BE te g):=by
 intro pins s σ H D I h
 refine wpAny_Assign_stores (thn (he pins s σ H _ I h) fun v s1 ⟨x,H1,I1,r1,q1⟩=>?_) hs hw
 rw [h1]
 exact thn (hg pins s1 σ H1 x v _ I1 r1 q1) fun _ s2 q=>q
theorem aE {i:Nat} {x:Str} {e:Expr} {te:TE} {pos':Pos} (hN:X.N.Nodup) (hi:X.N[i]?=some x) (hx:Loc X.env.scope x) (he:PE X e te) (hs:swapsWith e (some (.Name x pos')) pos.line X.env=pure false:=by rfl) (hf:X.fn x=true∨X.env.scope.names.lookup x=some .local:=by first | exact .inl rfl | exact .inr rfl | assumption) :
   PS X (.Assign [.Name x pos'] e pos) (BE te (eu i)):=by
 intro pins s σ H D I h
 refine wpAny_Assign_Name (thn (he pins s σ H _ I h) fun v s1 ⟨y,H1,I1,r1,q1⟩=>?_) hs
 exact wO I1 hN hi hx r1 (fun s2 I2=>⟨_,H1,I2,q1⟩) hf
noncomputable def Hd (i:Nat) (te:TE) (ti:TIp):TS:=fun D σ H=>∃ x,σ[i]?=some (some x)∧te σ H fun y H1=>ti x y H1 fun z H2=>D.nx (σ.set i (some z)) H2
end
section
variable {X:Cx} {pos:Pos}
noncomputable def yj (c:TT) (tb:TS):TS:=fun D σ H=>∃ W:Nat→St→Hp→Prop,(∃ m,W m σ H)∧∀ m σ H,W m σ H→
 c σ H fun b H1=>if b=true then ∃ N:St→Hp→Prop,(∀ σ' H',N σ' H'→∃ m',m' < m∧W m' σ' H')∧tb { D with nx:=N,ct:=N,bk:=D.nx } σ H1 else D.nx σ H1
theorem wR {c:Expr} {body:List Stmt} {tc:TT} {tb:TS} (hp:PassesOwn (model X.prog X.w) X.A X.env X.xe) (hc:PT X c tc) (hb:PSs X body tb):PS X (.While c body [] pos) (yj tc tb):=by
 intro pins s σ H D I h
 obtain ⟨W,⟨m0,w0⟩,turn⟩:=h
 refine wpAny_While (codeAny_whileLoop (fun n s'=>∃ σ' H',Inv X pins σ' H' s'∧W n σ' H') ?_ m0 ⟨σ,H,I,w0⟩)
 rintro n s1 ⟨σ1,H1,I1,w1⟩
 refine wpAny_passesOwn hp (thn (hc pins s1 σ1 H1 _ I1 (turn n σ1 H1 w1)) fun b s2 ⟨H2,I2,q2⟩=>?_)
 cases b with
 | true=>
   obtain ⟨N,hN,q2⟩:=q2
   rw [if_pos rfl]
   refine wpAny_passesOwn hp (thn (hb pins s2 σ1 H2 _ I2 q2) fun f s3 q3=>?_)
   cases f with
   | next=>
     obtain ⟨σ3,H3,I3,n3⟩:=q3
     obtain ⟨m',hm,w3⟩:=hN σ3 H3 n3
     exact ⟨m',hm,σ3,H3,I3,w3⟩
   | cont=>
     obtain ⟨σ3,H3,I3,n3⟩:=q3
     obtain ⟨m',hm,w3⟩:=hN σ3 H3 n3
     exact ⟨m',hm,σ3,H3,I3,w3⟩
   | brk=>exact q3
   | ret v=>exact q3
 | false=>
   rw [if_neg Bool.false_ne_true]
   exact wpAny_execs_nil ⟨σ1,H2,I2,q2⟩
end
structure It where
 go:Nat→Hp→Prop
 yld:Nat→Hp→V→Hp→Prop
 stop:Nat→Hp→Prop
noncomputable def om (X:Cx) (pins:List (Addr × Obj)) (H:Hp) (b:Addr):Prop:=
 H b=none∧b≠X.env.locals∧b ∉ X.fs∧(b∈X.ex∨X.s₀.heap.objs.size≤b)∧(∀ x c,X.env.cells.lookup x=some c→c≠b)∧∀ p∈X.pn ++ pins,p.1≠b
theorem Inv.Eb {X:Cx} {pins:List (Addr × Obj)} {σ:St} {H H':Hp} {s:Shared} {b:Addr} (I:Inv X pins σ H s) (hb:s.heap.objs.size≤b) (hn:H' b=none):om X pins H' b:=by
 refine ⟨hn,Nat.ne_of_gt (Nat.lt_of_lt_of_le I.lt hb),I.IP hb,.inr (Nat.le_trans I.sz hb),fun x c e z=>?_,fun p hp z=>?_⟩
 · obtain ⟨v,q⟩:=I.cell x c e
   exact absurd (Nat.lt_of_lt_of_le q.lt (by rw [z]; exact hb)) (Nat.lt_irrefl _)
 · exact absurd (Nat.lt_of_lt_of_le (Heap.lt_size (I.pin p hp).1) (by rw [z]; exact hb)) (Nat.lt_irrefl _)
structure Turn (P:Program) (w:World) (K:PySem.W.Frag) (tg:Expr) (J:It) (fp:List Addr) (it:Addr) (tn:Nat→Heap→Prop):Prop where
 mem:it∈fp
 obj:∀ i h,tn i h→∀ b∈fp,∃ o,h.get? b=some o∧∀ v,o.data≠.cell v
 keep:∀ i h h',tn i h→(∀ b∈fp,∀ o,h.get? b=some o→h'.get? b=some o)→tn i h'
 item:∀ (X:Cx),X.prog=P→X.w=w→X.K=K→X.calm=true→∀ (i:Nat) (pins:List (Addr × Obj)) (s:Shared) (σ:St) (H:Hp) (E:Value→Shared→Prop),Inv X pins σ H s→(∀ b∈fp,om X pins H b)→tn i s.heap→J.go i H→
   wpAny (model P w) X.A (pyNext (.ref it)) (fun r s1=>∃ u,r=some u∧
     wpAny (model P w) X.A (letOwnedTupleGo tg (.ref it) u) (fun _ s2=>∃ x H',Inv X pins σ H' s2∧RelV x u∧J.yld i H x H'∧tn (i + 1) s2.heap∧∀ b∈fp,H' b=none) E s1) E s
 done:∀ (X:Cx),X.prog=P→X.w=w→X.K=K→X.calm=true→∀ (i:Nat) (pins:List (Addr × Obj)) (s:Shared) (σ:St) (H:Hp) (E:Value→Shared→Prop),Inv X pins σ H s→(∀ b∈fp,om X pins H b)→tn i s.heap→J.stop i H→
   wpAny (model P w) X.A (pyNext (.ref it)) (fun r s1=>r=none∧Inv X pins σ H s1) E s
 self:∀ (A:Around) (i:Nat) (s:Shared) (Q:Value→Shared→Prop) (E:Value→Shared→Prop),tn i s.heap→Q (.ref it) s→wpAny (model P w) A (pyIter (.ref it)) Q E s
noncomputable abbrev TI:=St→Hp→(It→Hp→Prop)→Prop
noncomputable def PIE (X:Cx) (pins:List (Addr × Obj)) (σ:St) (tg:Expr) (R:It→Hp→Prop) (itv:Value) (s2:Shared):Prop:=
 ∃ (it:Addr) (fp:List Addr) (tn:Nat→Heap→Prop) (J:It) (H':Hp),itv=.ref it∧Inv X pins σ H' s2∧Turn X.prog X.w X.K tg J fp it tn∧tn 0 s2.heap∧(∀ b∈fp,om X pins H' b)∧R J H'
noncomputable def PI (X:Cx) (tg iter:Expr) (wi:TI):Prop:=
 ∀ (pins:List (Addr × Obj)) (s:Shared) (σ:St) (H:Hp) (R:It→Hp→Prop),Inv X pins σ H s→wi σ H R→
   wpAny (model X.prog X.w) X.A (eval iter X.env) (fun v s1=>wpAny (model X.prog X.w) X.A (pyIter v) (PIE X pins σ tg R) X.xe s1) X.xe s
theorem Fg {M:Model} {A:Around} {E:Value→Shared→Prop} {s:Shared} {tg:Expr} {it:Addr} {u:Value} {o:Obj} {n:String} {vs:Array Value} {Q:Unit→Shared→Prop} (ho:s.heap.get? it=some o) (hc:o.cls=.type n) (hd:o.data=.fields vs)
   (hn:["enumerate", "zip", "dict_itemiterator", "dict_reverseitemiterator", "odict_iterator", "itertools.zip_longest", "itertools.pairwise"].contains n=false) (hQ:Q () s):wpAny M A (letOwnedTupleGo tg (.ref it) u) Q E s:=by
 unfold letOwnedTupleGo
 cases tg <;> first
   | exact wpAny_pure hQ
   | (cases u <;> first
       | exact wpAny_pure hQ
       | (refine wpAny_bind (wpAny_load ho ?_)
          rw [hc,hd]
          show wpAny M A (if (["enumerate", "zip", "dict_itemiterator", "dict_reverseitemiterator", "odict_iterator", "itertools.zip_longest", "itertools.pairwise"].contains n && vs[0]? == some (rawInt _))=true then _ else _) Q E s
          rw [if_neg (by intro h; rw [hn,Bool.false_and] at h; cases h)]
          exact wpAny_pure hQ))
noncomputable def Itl (K:PySem.W.Frag) (a:Addr):It:=
 ⟨fun i H=>∃ xs x,SqL K H a xs∧xs[i]?=some x,fun i H x H'=>H'=H∧∀ xs,SqL K H a xs→xs[i]?=some x,fun i H=>∃ xs,SqL K H a xs∧xs.length≤i⟩
noncomputable def Itr (lo:Int) (n:Nat):It:=⟨fun i _=>i < n,fun i H x H'=>H'=H∧x=.int (lo + i),fun i _=>n≤i⟩
theorem AM {P:Program} {w:World} {K:PySem.W.Frag} {tg:Expr} (a it:Addr):Turn P w K tg (Itl K a) [it] it (fun i h=>h.IsListIter it a i) where
 mem:=by simp
 obj:=fun i h st b hb=>by
   have e:b=it:=by simpa using hb
   subst e
   obtain ⟨o,e,c,d⟩:=st
   exact ⟨o,e,fun v z=>by rw [d] at z; cases z⟩
 keep:=fun i h h' st k=>st.at fun o e=>k it (by simp) o e
 item:=by
   intro X hP hw hK hc i pins s σ H E I hf st hg
   subst hP hw hK
   obtain ⟨xs,x,hq,hx⟩:=hg
   obtain ⟨its,rv,p,hz⟩:=I.list hq
   obtain ⟨u,hu,ru⟩:=rv.get hx
   obtain ⟨f0,f1,f2,f3,f4,f5⟩:=hf it (by simp)
   refine wpAny_pyNext_list_item st p.isList (x:=u) (by simpa using hu) fun h' st' sb=>?_
   have I1:Inv X pins σ H { s with heap:=h' }:=I.turned (t':=s.toks) (fun b o hb e=>(sb.2 b hb).trans e) f0 f1 f3 f4 f5
   obtain ⟨o,e,c,d⟩:=id st'
   exact ⟨u,rfl,Fg (s:={ s with heap:=h' }) e c d (by decide) ⟨x,H,I1,ru,⟨rfl,fun ys hy=>by rw [I.wQ hy hq]; exact hx⟩,st',fun b hb=>(hf b hb).1⟩⟩
 done:=by
   intro X hP hw hK hc i pins s σ H E I hf st hg
   subst hP hw hK
   obtain ⟨xs,hq,hx⟩:=hg
   obtain ⟨its,rv,p,hz⟩:=I.list hq
   obtain ⟨f0,f1,f2,f3,f4,f5⟩:=hf it (by simp)
   have hl:=rv.length
   exact wpAny_pyNext_list_end (I.ok.hd hc) st p.isList (by simp; lia) fun h' eb=>⟨rfl,I.turned (t':=s.toks) (fun b o hb e=>eb b o hb e) f0 f1 f3 f4 f5⟩
 self:=fun _ _ _ _ _ st h=>wpAny_pyIter_listiter st h
theorem yk {P:Program} {w:World} {K:PySem.W.Frag} {tg:Expr} (it:Addr) (lo:Int) (n:Nat):Turn P w K tg (Itr lo n) [it] it (fun i h=>IsRangeIter h it (lo + (i:Nat) * 1) ((n:Int) - (i:Nat)) 1) where
 mem:=by simp
 obj:=fun i h st b hb=>by
   have e:b=it:=by simpa using hb
   subst e
   exact ⟨_,st,fun v z=>by
     have z':Data.fields _=Data.cell v:=z
     cases z'⟩
 keep:=fun i h h' st k=>k it (by simp) _ st
 item:=by
   intro X hP hw hK hc i pins s σ H E I hf st hg
   subst hP hw hK
   obtain ⟨f0,f1,f2,f3,f4,f5⟩:=hf it (by simp)
   have W:=Walks.range (prog:=X.prog) (w:=X.w) (I.ok.hd hc) it lo 1 n
   refine W.item i s _ _ hg st fun v h' tk hv st' kk=>?_
   obtain ⟨t,rfl⟩:=hv
   have I1:Inv X pins σ H { s with heap:=h',toks:=tk }:=I.turned (fun b o hb e=>kk b o (by simpa using hb) e) f0 f1 f3 f4 f5
   refine ⟨_,rfl,Fg (s:={ s with heap:=h',toks:=tk }) (n:="range_iterator") st' rfl rfl (by decide) ⟨.int (lo + i),H,I1,⟨t,?_⟩,⟨rfl,rfl⟩,st',fun b hb=>(hf b hb).1⟩⟩
   rw [Int.mul_one]
 done:=by
   intro X hP hw hK hc i pins s σ H E I hf st hg
   subst hP hw hK
   obtain ⟨f0,f1,f2,f3,f4,f5⟩:=hf it (by simp)
   exact wpAny_pyNext_range_end (I.ok.hd hc) st (by have:n≤i:=hg; lia) fun h' eb=>⟨rfl,I.turned (t':=s.toks) (fun b o hb e=>eb b o hb e) f0 f1 f3 f4 f5⟩
 self:=fun _ _ _ _ _ st h=>wpAny_pyIter_rangeiter st h
end L2
namespace L2
open PySem PySem.Spec PyProof.Rows
section
variable {X:Cx} {tg:Expr}
noncomputable def zK (K:PySem.W.Frag) (tl:TE):TI:=fun σ H R=>tl σ H fun x H1=>∃ a,x=.ref a∧(∃ xs,SqL K H1 a xs)∧R (Itl K a) H1
theorem dW {l:Expr} {tl:TE} (hl:PE X l tl):PI X tg l (zK X.K tl):=by
 intro pins s σ H R I h
 refine thn (hl pins s σ H _ I h) fun v s1 ⟨x,H1,I1,r1,q1⟩=>?_
 obtain ⟨a,e,⟨xs,hq⟩,q⟩:=q1
 subst e
 cases r1
 obtain ⟨its,rv,p,hz⟩:=I1.list hq
 refine wpAny_pyIter_list p.isList ?_
 refine ⟨s1.heap.objs.size,[s1.heap.objs.size],_,_,H1,rfl,I1.kept (t':=s1.toks) fun b o e=>Heap.get?_push_of_some _ e,AM a _,⟨_,Heap.get?_push_size _ rfl,rfl,rfl⟩,fun b hb=>?_,q⟩
 have e:b=s1.heap.objs.size:=by simpa using hb
 subst e
 exact I1.Eb (Nat.le_refl _) (I1.hok.fresh (Nat.le_refl _))
theorem BF {pins:List (Addr × Obj)} {σ:St} {H:Hp} {s:Shared} {R:It→Hp→Prop} {E:Value→Shared→Prop} {lo hi:Int} {t u v:Tok} {tk:Nat} (I:Inv X pins σ H s) (h1 : -(2 ^ 62)≤lo) (h2:lo < 2 ^ 62) (h3 : -(2 ^ 62)≤hi) (h4:hi < 2 ^ 62)
   (q:R (Itr lo (hi - lo).toNat) H):wpAny (model X.prog X.w) X.A (pyIter (.ref s.heap.objs.size)) (PIE X pins σ tg R) E { s with heap:=s.heap.push { cls:=.type "range",data:=.fields #[.int lo t,.int hi u,.int 1 v] },toks:=tk }:=by
 refine wpAny_pyIter_range (IsRange.new ..) (small_one h1 h2 h3 h4) ?_
 have I1:Inv X pins σ H { s with heap:=s.heap.push { cls:=.type "range",data:=.fields #[.int lo t,.int hi u,.int 1 v] },toks:=tk }:=I.kept fun b o e=>Heap.get?_push_of_some _ e
 refine ⟨(s.heap.push { cls:=.type "range",data:=.fields #[.int lo t,.int hi u,.int 1 v] }).objs.size,[(s.heap.push { cls:=.type "range",data:=.fields #[.int lo t,.int hi u,.int 1 v] }).objs.size],_,_,H,rfl,
   I1.kept (t':=tk) fun b o e=>Heap.get?_push_of_some _ e,yk _ lo (hi - lo).toNat,?_,fun b hb=>?_,q⟩
 · have e1:lo + ((0:Nat):Int) * 1=lo:=by simp
   have e2:(((hi - lo).toNat:Nat):Int) - ((0:Nat):Int)=Builtin.Range.rangeSize lo hi 1:=by rw [rangeSize_one]; split <;> lia
   show IsRangeIter _ _ (lo + ((0:Nat):Int) * 1) ((((hi - lo).toNat:Nat):Int) - ((0:Nat):Int)) 1
   rw [e1,e2]
   exact Heap.get?_push_size _ rfl
 · have e:b=(s.heap.push { cls:=.type "range",data:=.fields #[.int lo t,.int hi u,.int 1 v] }).objs.size:=by simpa using hb
   subst e
   exact I1.Eb (Nat.le_refl _) (I1.hok.fresh (Nat.le_refl _))
noncomputable def zL (ta:TA):TI:=fun σ H R=>ta σ H fun vs H1=>∃ j:Int,vs=[.int j]∧-(2 ^ 62)≤j∧j < 2 ^ 62∧R (Itr 0 j.toNat) H1
noncomputable def Fh (ta:TA):TI:=fun σ H R=>ta σ H fun vs H1=>∃ i j:Int,vs=[.int i,.int j]∧(-(2 ^ 62)≤i∧i < 2 ^ 62∧-(2 ^ 62)≤j∧j < 2 ^ 62)∧R (Itr i (j - i).toNat) H1
theorem jf {a:Expr} {ta:TA} {p pos:Pos} (hg:Gl X "range") (hm:X.mg "range"=none) (ha:PA X [a] ta) (hs:starEach [a] X.env=[(false,eval a X.env)]:=by rfl):PI X tg (.Call (.Name "range" p) [a] [] pos) (zL ta):=by
 intro pins s σ H R I h
 refine Call_ (pI I hg hm boot_range (PyProof.Rows.callWith_type1 (thn (ha pos pins s σ H _ I h) fun us s1 ⟨vs,H1,I1,r1,q1⟩=>?_) hs rfl))
 obtain ⟨j,e,q1,q2,q⟩:=q1
 subst e
 cases r1 with
 | cons r rr=>
   cases rr
   obtain ⟨t,rfl⟩:=r
   exact call_range_1 (BF I1 (by lia) (by lia) q1 q2 (by simpa using q))
noncomputable def FX (wi:TI) (g:TG) (tb:TS):TS:=fun D σ H=>wi σ H fun J H1=>∃ W:Nat→Nat→St→Hp→Prop,(∃ m,W 0 m σ H1)∧∀ i m σ H,W i m σ H→
 (J.stop i H∧D.nx σ H)∨(J.go i H∧∃ N:St→Hp→Prop,(∀ σ' H',N σ' H'→∃ m',m' < m∧W (i + 1) m' σ' H')∧∀ x H',J.yld i H x H'→g x σ H' fun σ2 H2=>tb { D with nx:=N,ct:=N,bk:=D.nx } σ2 H2)
noncomputable def rP (fp:List Addr) (h:Heap):List (Addr × Obj):=fp.filterMap fun b=>(h.get? b).map fun o=>(b,o)
theorem jw {fp:List Addr} {h:Heap} {b:Addr} {o:Obj} (hb:b∈fp) (e:h.get? b=some o):(b,o)∈rP fp h:=List.mem_filterMap.mpr ⟨b,hb,by rw [e]; rfl⟩
theorem AN {fp:List Addr} {h:Heap} {p:Addr × Obj} (hp:p∈rP fp h):p.1∈fp∧h.get? p.1=some p.2:=by
 obtain ⟨b,hb,e⟩:=List.mem_filterMap.mp hp
 cases q:h.get? b with
 | none=>rw [q] at e; cases e
 | some o=>
   rw [q] at e
   have e':(b,o)=p:=Option.some.inj e
   subst e'
   exact ⟨hb,q⟩
theorem Inv.pinned {pins:List (Addr × Obj)} {σ:St} {H:Hp} {s:Shared} {fp:List Addr} (I:Inv X pins σ H s) (hf:∀ b∈fp,om X pins H b) (ho:∀ b∈fp,∃ o,s.heap.get? b=some o∧∀ v,o.data≠.cell v):Inv X (pins ++ rP fp s.heap) σ H s:=
 I.zI fun p hp=>(List.mem_append.mp hp).elim (fun z=>I.pin p (List.mem_append_right _ z)) fun z=>by
   obtain ⟨hb,e⟩:=AN z
   obtain ⟨f0,f1,f2,_⟩:=hf p.1 hb
   obtain ⟨o,e',d⟩:=ho p.1 hb
   rw [e] at e'; cases e'
   exact ⟨e,f0,f1,f2,d⟩
theorem Inv.oo {pins pl:List (Addr × Obj)} {σ:St} {H:Hp} {s:Shared} (I:Inv X (pins ++ pl) σ H s):Inv X pins σ H s:=I.zI fun p hp=>I.pin p (List.mem_append_right _ (List.mem_append_left _ hp))
theorem iX {iter:Expr} {body:List Stmt} {wi:TI} {g:TG} {tb:TS} {pos:Pos} (hp:PassesOwn (model X.prog X.w) X.A X.env X.xe) (hc:X.calm=true) (hi:PI X tg iter wi) (hg:PG X tg g) (hb:PSs X body tb)
   (hs:∀ x,foldedSetIterable iter X.env x=pure x:=by intro _; rfl):PS X (.For tg iter body [] pos) (FX wi g tb):=by
 intro pins s σ H D I h
 refine wpAny_For (thn (hi pins s σ H _ I h) fun v s1 h1=>thn h1 fun itv s2 h2=>?_) hs
 obtain ⟨it,fp,tn,J,H2,e,I2,T,st2,f2,W,⟨m0,w0⟩,turn⟩:=h2
 subst e
 have stat:∀ {H':Hp},(∀ b∈fp,H' b=none)→∀ b∈fp,om X pins H' b:=fun hn b hb=>⟨hn b hb,(f2 b hb).2⟩
 refine codeAny_forLoop_any (fun n s'=>∃ i σ' H',Inv X pins σ' H' s'∧tn i s'.heap∧(∀ b∈fp,H' b=none)∧W i n σ' H') ?_ m0 ⟨0,σ,H2,I2,st2,fun b hb=>(f2 b hb).1,w0⟩
 rintro n s3 ⟨i,σ3,H3,I3,st3,fr3,w3⟩
 rcases turn i n σ3 H3 w3 with ⟨stop,qn⟩ | ⟨go,N,hN,step⟩
 · refine wpAny_passesOwn hp (thn (T.done X rfl rfl rfl hc i pins s3 σ3 H3 X.xe I3 (stat fr3) st3 stop) fun r s4 ⟨hr,I4⟩=>?_)
   subst hr
   exact wpAny_execs_nil ⟨σ3,H3,I4,qn⟩
 · refine wpAny_passesOwn hp (thn (T.item X rfl rfl rfl hc i pins s3 σ3 H3 X.xe I3 (stat fr3) st3 go) fun r s4 ⟨u,hr,h4⟩=>?_)
   subst hr
   refine wpAny_passesOwn hp (thn h4 fun _ s5 ⟨x,H5,I5,r5,y5,st5,fr5⟩=>?_)
   have I5':=I5.pinned (stat fr5) (T.obj _ _ st5)
   refine wpAny_passesOwn hp (thn (hg _ s5 σ3 H5 x u _ I5' r5 (step x H5 y5)) fun _ s6 ⟨σ6,H6,I6,q6⟩=>?_)
   refine wpAny_passesOwn hp (thn (hb _ s6 σ6 H6 _ I6 q6) fun f s7 q7=>?_)
   have again:∀ {σ7:St} {H7:Hp},Inv X (pins ++ rP fp s5.heap) σ7 H7 s7→N σ7 H7→∃ m,m < n∧∃ i σ' H',Inv X pins σ' H' s7∧tn i s7.heap∧(∀ b∈fp,H' b=none)∧W i m σ' H':=fun {σ7 H7} I7 n7=>by
     obtain ⟨m',hm,w7⟩:=hN σ7 H7 n7
     refine ⟨m',hm,i + 1,σ7,H7,I7.oo,T.keep _ _ _ st5 fun b hb o e=>(I7.pin (b,o) (List.mem_append_right _ (List.mem_append_right _ (jw hb e)))).1,fun b hb=>?_,w7⟩
     obtain ⟨o,e,d⟩:=T.obj _ _ st5 b hb
     exact (I7.pin (b,o) (List.mem_append_right _ (List.mem_append_right _ (jw hb e)))).2.1
   cases f with
   | next=>obtain ⟨σ7,H7,I7,n7⟩:=q7; exact again I7 n7
   | cont=>obtain ⟨σ7,H7,I7,n7⟩:=q7; exact again I7 n7
   | brk=>obtain ⟨σ7,H7,I7,q7⟩:=q7; exact ⟨σ7,H7,I7.oo,q7⟩
   | ret v=>obtain ⟨x7,σ7,H7,I7,r7,q7⟩:=q7; exact ⟨x7,σ7,H7,I7.oo,r7,q7⟩
end
theorem g9 {K:PySem.W.Frag} {a:Addr} {xs:List V} {g:TG} {tb:TS} {D:Ends} {σ:St} {H:Hp} (Pv:Nat→St→Hp→Prop) (h0:Pv 0 σ H) (hl:∀ i σ H,i≤xs.length→Pv i σ H→SqL K H a xs)
   (hs:∀ i x σ H,xs[i]?=some x→Pv i σ H→g x σ H fun σ2 H2=>tb { D with nx:=Pv (i + 1),ct:=Pv (i + 1),bk:=D.nx } σ2 H2) (hd:∀ σ H,Pv xs.length σ H→D.nx σ H) :
   ∃ W:Nat→Nat→St→Hp→Prop,(∃ m,W 0 m σ H)∧∀ i m σ H,W i m σ H→
     ((Itl K a).stop i H∧D.nx σ H)∨((Itl K a).go i H∧∃ N:St→Hp→Prop,(∀ σ' H',N σ' H'→∃ m',m' < m∧W (i + 1) m' σ' H')∧∀ x H',(Itl K a).yld i H x H'→g x σ H' fun σ2 H2=>tb { D with nx:=N,ct:=N,bk:=D.nx } σ2 H2):=by
 refine ⟨fun i m σ H=>m=xs.length - i∧i≤xs.length∧Pv i σ H,⟨xs.length,by simp,Nat.zero_le _,h0⟩,?_⟩
 rintro i m σ H ⟨rfl,hi,p⟩
 have q:=hl i σ H hi p
 by_cases hlt:i < xs.length
 · refine .inr ⟨⟨xs,xs[i],q,by simp [hlt]⟩,Pv (i + 1),fun σ' H' p'=>⟨xs.length - (i + 1),by lia,rfl,hlt,p'⟩,fun x H' y=>?_⟩
   obtain ⟨e,y⟩:=y
   subst e
   exact hs i x σ _ (y xs q) p
 · have e:i=xs.length:=by lia
   subst e
   exact .inl ⟨⟨xs,q,Nat.le_refl _⟩,hd σ H p⟩
theorem uM {lo:Int} {n:Nat} {g:TG} {tb:TS} {D:Ends} {σ:St} {H:Hp} (Pv:Nat→St→Hp→Prop) (h0:Pv 0 σ H)
   (hs:∀ i σ H,i < n→Pv i σ H→g (.int (lo + i)) σ H fun σ2 H2=>tb { D with nx:=Pv (i + 1),ct:=Pv (i + 1),bk:=D.nx } σ2 H2) (hd:∀ σ H,Pv n σ H→D.nx σ H) :
   ∃ W:Nat→Nat→St→Hp→Prop,(∃ m,W 0 m σ H)∧∀ i m σ H,W i m σ H→
     ((Itr lo n).stop i H∧D.nx σ H)∨((Itr lo n).go i H∧∃ N:St→Hp→Prop,(∀ σ' H',N σ' H'→∃ m',m' < m∧W (i + 1) m' σ' H')∧∀ x H',(Itr lo n).yld i H x H'→g x σ H' fun σ2 H2=>tb { D with nx:=N,ct:=N,bk:=D.nx } σ2 H2):=by
 refine ⟨fun i m σ H=>m=n - i∧i≤n∧Pv i σ H,⟨n,by simp,Nat.zero_le _,h0⟩,?_⟩
 rintro i m σ H ⟨rfl,hi,p⟩
 by_cases hlt:i < n
 · refine .inr ⟨hlt,Pv (i + 1),fun σ' H' p'=>⟨n - (i + 1),by lia,rfl,hlt,p'⟩,fun x H' y=>?_⟩
   obtain ⟨e,y⟩:=y
   subst e y
   exact hs i σ _ hlt p
 · have e:i=n:=by lia
   subst e
   exact .inl ⟨Nat.le_refl _,hd σ H p⟩
end L2
namespace L2
open PySem PySem.Spec PyProof.Rows
noncomputable abbrev R2:=V→V→Hp→VK→Prop
noncomputable def OpR (X:Cx) (f:Value→Value→Sem Value) (r:R2):Prop:=
 ∀ (pins:List (Addr × Obj)) (s:Shared) (σ:St) (H:Hp) (x y:V) (v u:Value) (Q:VK),Inv X pins σ H s→RelV x v→RelV y u→r x y H Q→
   wpAny (model X.prog X.w) X.A (f v u) (EP X pins σ Q) X.xe s
noncomputable def uN (X:Cx) (f:Value) (r:List V→Hp→VK→Prop):Prop:=
 ∀ (pins:List (Addr × Obj)) (s:Shared) (σ:St) (H:Hp) (xs:List V) (us:List Value) (Q:VK),Inv X pins σ H s→Vals xs us→r xs H Q→
   wpAny (model X.prog X.w) X.A (call f us) (EP X pins σ Q) X.xe s
noncomputable def IV (X:Cx) (r:V→Hp→(Bool→Hp→Prop)→Prop):Prop:=
 ∀ (pins:List (Addr × Obj)) (s:Shared) (σ:St) (H:Hp) (x:V) (v:Value) (Q:Bool→Hp→Prop),Inv X pins σ H s→RelV x v→r x H Q→
   wpAny (model X.prog X.w) X.A (truthy v) (TP X pins σ Q) X.xe s
noncomputable def tOp (r:R2) (ta tb:TE):TE:=fun σ H Q=>ta σ H fun x H1=>tb σ H1 fun y H2=>r x y H2 Q
noncomputable def tUn (r:V→Hp→VK→Prop) (ta:TE):TE:=fun σ H Q=>ta σ H fun x H1=>r x H1 Q
noncomputable def rI (C:Int→Int→Prop) (g:Int→Int→V):R2:=fun x y H Q=>∃ i j,x=.int i∧y=.int j∧C i j∧Q (g i j) H
noncomputable def rI0 (g:Int→Int→V):R2:=fun x y H Q=>∃ i j,x=.int i∧y=.int j∧Q (g i j) H
noncomputable def rU (g:Int→V):V→Hp→VK→Prop:=fun x H Q=>∃ i,x=.int i∧Q (g i) H
section
variable {X:Cx} {a b c:Expr} {ta tb tc:TE} {pos:Pos}
theorem FY (ha:PE X a ta) (hb:PE X b tb) {pins:List (Addr × Obj)} {s:Shared} {σ:St} {H:Hp} {R:V→V→Hp→Prop} (I:Inv X pins σ H s)
   (h:ta σ H fun x H1=>tb σ H1 fun y H2=>R x y H2) {Q:Value→Shared→Prop} {f:Value→Value→Sem Value}
   (hf:∀ v u s2 x y H2,Inv X pins σ H2 s2→RelV x v→RelV y u→R x y H2→wpAny (model X.prog X.w) X.A (f v u) Q X.xe s2) :
   wpAny (model X.prog X.w) X.A (eval a X.env) (fun v s₁=>wpAny (model X.prog X.w) X.A (eval b X.env) (fun u s₂=>wpAny (model X.prog X.w) X.A (f v u) Q X.xe s₂) X.xe s₁) X.xe s:=by
 refine thn (ha pins s σ H _ I h) fun v s1 ⟨x,H1,I1,r1,q1⟩=>?_
 refine thn (hb pins s1 σ H1 _ I1 q1) fun u s2 ⟨y,H2,I2,r2,q2⟩=>?_
 exact hf v u s2 x y H2 I2 r1 r2 q2
theorem aU {op:Operator} {r:R2} (ho:OpR X (binaryOp op) r) (ha:PE X a ta) (hb:PE X b tb):PE X (.BinOp a op b pos) (tOp r ta tb):=by
 intro pins s σ H Q I h
 exact wpAny_BinOp (FY ha hb I h fun v u s2 x y H2 I2 rx ry q=>ho pins s2 σ H2 x y v u Q I2 rx ry q)
theorem opI {f:Value→Value→Sem Value} {C:Int→Int→Prop} {g:Int→Int→Int}
   (rule:∀ (i j:Int) (t u:Tok) (s:Shared) (Q:Value→Shared→Prop) (E:Value→Shared→Prop),C i j→Q (.int (g i j) s.toks) { s with toks:=s.toks + 1 }→wpAny (model X.prog X.w) X.A (f (.int i t) (.int j u)) Q E s) :
   OpR X f (rI C fun i j=>.int (g i j)):=by
 intro pins s σ H x y v u Q I rx ry h
 obtain ⟨i,j,rfl,rfl,hc,q⟩:=h
 obtain ⟨t,rfl⟩:=rx
 obtain ⟨t',rfl⟩:=ry
 exact rule i j t t' s _ _ hc ⟨.int (g i j),H,I.tok _,⟨_,rfl⟩,q⟩
theorem He {f:Value→Value→Sem Value} {g:Int→Int→Int}
   (rule:∀ (i j:Int) (t u:Tok) (s:Shared) (Q:Value→Shared→Prop) (E:Value→Shared→Prop),Q (.int (g i j) s.toks) { s with toks:=s.toks + 1 }→wpAny (model X.prog X.w) X.A (f (.int i t) (.int j u)) Q E s) :
   OpR X f (rI0 fun i j=>.int (g i j)):=by
 intro pins s σ H x y v u Q I rx ry h
 obtain ⟨i,j,rfl,rfl,q⟩:=h
 obtain ⟨t,rfl⟩:=rx
 obtain ⟨t',rfl⟩:=ry
 exact rule i j t t' s _ _ ⟨.int (g i j),H,I.tok _,⟨_,rfl⟩,q⟩
theorem Hf {f:Value→Value→Sem Value} {g:Int→Int→Bool}
   (rule:∀ (i j:Int) (t u:Tok) (s:Shared) (Q:Value→Shared→Prop) (E:Value→Shared→Prop),Q (.bool (g i j)) s→wpAny (model X.prog X.w) X.A (f (.int i t) (.int j u)) Q E s) :
   OpR X f (rI0 fun i j=>.bl (g i j)):=by
 intro pins s σ H x y v u Q I rx ry h
 obtain ⟨i,j,rfl,rfl,q⟩:=h
 obtain ⟨t,rfl⟩:=rx
 obtain ⟨t',rfl⟩:=ry
 exact rule i j t t' s _ _ ⟨.bl (g i j),H,I,rfl,q⟩
noncomputable def Hg (i j:Int):Prop:=0 < j∧j < 1073741824
noncomputable def Hh (i j:Int):Prop:=0≤j∧j≤1000000∧i.natAbs < 2 ^ 64
noncomputable def AO (i j:Int):Prop:=(-(2 ^ 64) < i∧i < 2 ^ 64)∨(-(2 ^ 64) < j∧j < 2 ^ 64)
theorem AO.ok {i j:Int} (h:AO i j):IntMulOk i j:=by
 rcases h with ⟨h1,h2⟩ | ⟨h1,h2⟩
 · exact .of_left (intBits_le_64 h1 h2)
 · exact .of_right (intBits_le_64 h1 h2)
theorem dF:OpR X (binaryOp .Add) (rI0 fun i j=>.int (i + j)):=He fun _ _ _ _ _ _ _ q=>add_int q
theorem BG:OpR X (binaryOp .Sub) (rI0 fun i j=>.int (i - j)):=He fun _ _ _ _ _ _ _ q=>sub_int q
theorem ny:OpR X (binaryOp .Mult) (rI AO fun i j=>.int (i * j)):=opI fun _ _ _ _ _ _ _ hc q=>mul_int q hc.ok
theorem zM:OpR X (binaryOp .FloorDiv) (rI Hg fun i j=>.int (i / j)):=opI fun i j _ _ _ _ _ hc q=>by
 have h1:(0:Int) < j:=hc.1
 have h2:j < 1073741824:=hc.2
 exact floordiv_int (by lia) (by rw [Int.fdiv_eq_ediv_of_nonneg i (by lia)]; exact q) (.inl (PyProof.noPylong_small (by lia)))
theorem bT:OpR X (binaryOp .Mod) (rI (fun _ j=>0 < j) fun i j=>.int (i % j)):=opI fun i j _ _ _ _ _ hc q=>by
 have h1:(0:Int) < j:=hc
 exact mod_int' (by lia) (by rw [Int.fmod_eq_emod_of_nonneg i (by lia)]; exact q)
theorem FZ:OpR X (binaryOp .Pow) (rI Hh fun i j=>.int (i ^ j.toNat)):=opI fun _ _ _ _ _ _ _ hc q=>pow_int_small hc.1 hc.2.1 hc.2.2 q
end
noncomputable def AQ:V→V→Bool
 | .non,.non=>true | .non,.int _=>true | .int _,.non=>true | .non,.bl _=>true | .bl _,.non=>true | .non,.str _=>true | .str _,.non=>true
 | .int _,.int _=>true | .bl _,.bl _=>true | .str _,.str _=>true | .byt _,.byt _=>true
 | .int _,.str _=>true | .str _,.int _=>true | .bl _,.str _=>true | .str _,.bl _=>true
 | _,_=>false
noncomputable def rEq:R2:=fun x y H Q=>AQ x y=true∧Q (.bl (decide (x=y))) H
noncomputable def rNe:R2:=fun x y H Q=>AQ x y=true∧Q (.bl (!decide (x=y))) H
theorem Ec {i j:Int}:decide (V.int i=V.int j)=(i == j):=by
 rw [Bool.eq_iff_iff]
 simp
theorem F0 {i j:Bool}:decide (V.bl i=V.bl j)=(i == j):=by
 rw [Bool.eq_iff_iff]
 simp
theorem Ed {i j:Str}:decide (V.str i=V.str j)=(i == j):=by
 rw [Bool.eq_iff_iff]
 simp
theorem Ee {i j:Array UInt8}:decide (V.byt i=V.byt j)=(i.toList == j.toList):=by
 rw [Bool.eq_iff_iff]
 cases i
 cases j
 simp
section
variable {X:Cx} {a b c:Expr} {ta tb tc:TE} {pos:Pos}
theorem dI {pins:List (Addr × Obj)} {σ:St} {H:Hp} {s:Shared} {Q:VK} {k k':Bool} (I:Inv X pins σ H s) (q:Q (.bl k) H) (e:k=k'):EP X pins σ Q (.bool k') s:=by
 subst e
 exact ⟨.bl k,H,I,rfl,q⟩
theorem dA:OpR X (compareOp .Eq) rEq:=by
 intro pins s σ H x y v u Q I rx ry h
 obtain ⟨hs,q⟩:=h
 cases x with
 | non=>
   cases rx
   cases y with
   | non=>cases ry; exact PySem.EqNone.eq_none_none (dI I q (by simp))
   | bl j=>cases ry; exact PySem.EqNone.eq_none_bool (dI I q (by simp))
   | int j=>obtain ⟨t',rfl⟩:=ry; exact PySem.EqNone.eq_none_int (dI I q (by simp))
   | str j=>obtain ⟨t',rfl⟩:=ry; exact PySem.EqNone.eq_none_str (dI I q (by simp))
   | _=>exact absurd (show false=true from hs) Bool.false_ne_true
 | bl i=>
   cases rx
   cases y with
   | non=>cases ry; exact PySem.EqNone.eq_bool_none (dI I q (by simp))
   | bl j=>cases ry; exact eq_bool (dI I q F0)
   | str j=>obtain ⟨t',rfl⟩:=ry; exact PySem.EqMixed.eq_bool_str (dI I q (by simp))
   | _=>exact absurd (show false=true from hs) Bool.false_ne_true
 | int i=>
   obtain ⟨t,rfl⟩:=rx
   cases y with
   | non=>cases ry; exact PySem.EqNone.eq_int_none (dI I q (by simp))
   | int j=>obtain ⟨t',rfl⟩:=ry; exact eq_int (dI I q Ec)
   | str j=>obtain ⟨t',rfl⟩:=ry; exact PySem.EqMixed.eq_int_str (dI I q (by simp))
   | _=>exact absurd (show false=true from hs) Bool.false_ne_true
 | str i=>
   obtain ⟨t,rfl⟩:=rx
   cases y with
   | non=>cases ry; exact PySem.EqNone.eq_str_none (dI I q (by simp))
   | bl j=>cases ry; exact PySem.EqMixed.eq_str_bool (dI I q (by simp))
   | int j=>obtain ⟨t',rfl⟩:=ry; exact PySem.EqMixed.eq_str_int (dI I q (by simp))
   | str j=>obtain ⟨t',rfl⟩:=ry; exact eq_str (dI I q Ed)
   | _=>exact absurd (show false=true from hs) Bool.false_ne_true
 | byt i=>
   obtain ⟨t,rfl⟩:=rx
   cases y with
   | byt j=>obtain ⟨t',rfl⟩:=ry; exact PySem.W.eq_bytes (dI I q Ee)
   | _=>exact absurd (show false=true from hs) Bool.false_ne_true
 | _=>cases y <;> exact absurd (show false=true from hs) Bool.false_ne_true
theorem wU:OpR X (compareOp .Lt) (rI0 fun i j=>.bl (decide (i < j))):=Hf fun _ _ _ _ _ _ _ q=>lt_int q
theorem Hi:OpR X (compareOp .GtE) (rI0 fun i j=>.bl (decide (j≤i))):=Hf fun _ _ _ _ _ _ _ q=>ge_int q
theorem yl:OpR X (compareOp .Is) (fun x y H Q=>y=.non∧Q (.bl (decide (x=.non))) H):=by
 intro pins s σ H x y v u Q I rx ry h
 obtain ⟨rfl,q⟩:=h
 cases ry
 refine is_none_gen (dI I q ?_)
 cases x <;> first
   | (cases rx; rfl)
   | (obtain ⟨t,rfl⟩:=rx; rfl)
theorem zN:OpR X (compareOp .IsNot) (fun x y H Q=>y=.non∧Q (.bl (!decide (x=.non))) H):=by
 intro pins s σ H x y v u Q I rx ry h
 obtain ⟨rfl,q⟩:=h
 cases ry
 refine isnot_none_gen (dI I q ?_)
 cases x <;> first
   | (cases rx; rfl)
   | (obtain ⟨t,rfl⟩:=rx; rfl)
theorem bc (b:Expr) {op:CmpOp} (h:op≠.In:=by decide) (h2:op≠.NotIn:=by decide):behindInMarks op b=false:=by
 have e1:(op == CmpOp.In)=false:=by cases op <;> first | rfl | exact absurd rfl h
 have e2:(op == CmpOp.NotIn)=false:=by cases op <;> first | rfl | exact absurd rfl h2
 cases b <;> simp [behindInMarks,e1,e2]
theorem rD {op:CmpOp} {r:R2} (ho:OpR X (compareOp op) r) (ha:PE X a ta) (hb:PE X b tb) (hm:behindInMarks op b=false):PE X (.Compare a [op] [b] pos) (tOp r ta tb):=by
 intro pins s σ H Q I h
 exact wpAny_Compare1 (FY ha hb I h fun v u s2 x y H2 I2 rx ry q=>ho pins s2 σ H2 x y v u Q I2 rx ry q) hm
noncomputable def zO (t:TE):TT:=fun σ H Q=>t σ H fun x H'=>∃ k,x=.bl k∧Q k H'
theorem aY {op:CmpOp} {r:R2} (ho:OpR X (compareOp op) r) (ha:PE X a ta) (hb:PE X b tb) (hm:behindInMarks op b=false):PT X (.Compare a [op] [b] pos) (zO (tOp r ta tb)):=by
 intro pins s σ H Q I h
 refine wpAny_isTrue_Compare1 (thn (ha pins s σ H _ I h) fun v s1 ⟨x,H1,I1,r1,q1⟩=>thn (hb pins s1 σ H1 _ I1 q1) fun u s2 ⟨y,H2,I2,r2,q2⟩=>
   thn (ho pins s2 σ H2 x y v u _ I2 r1 r2 q2) fun c s3 ⟨z,H3,I3,r3,k,e,q3⟩=>?_) hm
 subst e
 cases r3
 exact wpAny_truthy_bool ⟨H3,I3,q3⟩
noncomputable def BH (r r':R2) (ta tb tc:TE):TE:=fun σ H Q=>ta σ H fun x H1=>tb σ H1 fun y H2=>r x y H2 fun z H3=>∃ k,z=.bl k∧
 (if k=true then tc σ H3 fun w' H4=>r' y w' H4 Q else Q (.bl false) H3)
noncomputable def Hj (K:PySem.W.Frag) (x:V) (H:Hp) (k:Bool):Prop:=
 match x with
 | .non=>k=false
 | .bl b=>k=b
 | .int i=>k=(i != 0)
 | .str y=>y.length≤sizeLine∧k=((y.length:Int) != 0)
 | .byt y=>y.size≤sizeLine∧k=((y.size:Int) != 0)
 | .ref p=>(∃ xs,SqL K H p xs∧k = !xs.isEmpty)∨(∃ xs,SqT K H p xs∧k = !xs.isEmpty)∨∃ kvs,H p=some (.dK kvs)∧k = !kvs.isEmpty
 | _=>False
theorem yn {κ:Type} {kvs:List (κ × V)} {vs:List (κ × Value)} (r:KV kvs vs):(!vs.isEmpty) = !kvs.isEmpty:=by
 cases r <;> rfl
theorem rQ {xs:List V} {its:List Value} (r:Vals xs its):(!its.toArray.isEmpty) = !xs.isEmpty:=by
 cases r <;> simp
theorem vt:(sizeLine:Nat) < 2 ^ 63:=by rw [sizeLine_eq]; decide
theorem F1:IV X (fun x H Q=>∃ k,Hj X.K x H k∧Q k H):=by
 intro pins s σ H x v Q I rx h
 obtain ⟨k,e,q⟩:=h
 have hl:=vt
 have hs:sizeLine=16777216:=sizeLine_eq
 cases x with
 | non=>
   cases rx
   have e':k=false:=e
   subst e'
   exact truthy_none ⟨H,I,q⟩
 | bl b=>
   cases rx
   have e':k=b:=e
   subst e'
   exact wpAny_truthy_bool ⟨H,I,q⟩
 | int i=>
   obtain ⟨t,rfl⟩:=rx
   have e':k=(i != 0):=e
   subst e'
   exact PySem.P.truthy_int ⟨H,I,q⟩
 | str y=>
   obtain ⟨t,rfl⟩:=rx
   obtain ⟨hy,e'⟩:y.length≤sizeLine∧k=((y.length:Int) != 0):=e
   subst e'
   exact PySem.P.truthy_str (by lia) ⟨H,I.tok _,q⟩
 | byt y=>
   obtain ⟨t,rfl⟩:=rx
   obtain ⟨hy,e'⟩:y.size≤sizeLine∧k=((y.size:Int) != 0):=e
   subst e'
   exact PySem.W.truthy_bytes (by lia) ⟨H,I.tok _,q⟩
 | ref p=>
   cases rx
   have e':(∃ xs,SqL X.K H p xs∧k = !xs.isEmpty)∨(∃ xs,SqT X.K H p xs∧k = !xs.isEmpty)∨∃ kvs,H p=some (.dK kvs)∧k = !kvs.isEmpty:=e
   rcases e' with ⟨xs,hx,e'⟩ | ⟨xs,hx,e'⟩ | ⟨kvs,hx,e'⟩
   · subst e'
     obtain ⟨its,r,pl,hz⟩:=I.list hx
     have hlen:=r.length
     exact wpAny_truthy_list pl.isList (by simp only [List.size_toArray]; lia) ⟨H,I.tok _,by rw [rQ r]; exact q⟩
   · subst e'
     obtain ⟨its,r,pl,hz⟩:=I.tuple hx
     have hlen:=r.length
     exact truthy_tuple pl (by simp only [List.size_toArray]; lia) ⟨H,I.tok _,by rw [rQ r]; exact q⟩
   · subst e'
     obtain ⟨hz,hS,vs,r,m⟩:kvs.length≤sizeLine∧(p == sysModules)=false∧∃ vs,KV kvs vs∧s.heap.DictOf (cP X.prog X.w) p vs:=I.hok p _ hx
     have hlen:kvs.length=vs.length:=Paired.length r
     exact wpAny_truthy_dict hS m (by lia) ⟨H,I.tok _,by rw [yn r]; exact q⟩
 | _=>exact (show False from e).elim
theorem BI (ha:PE X a ta) (he:∀ whole,isTrue a X.env whole=(do let v ← whole; standAt a.pos; holding [v] (truthy v))) :
   PT X a (fun σ H Q=>ta σ H fun x H'=>∃ k,Hj X.K x H' k∧Q k H'):=by
 intro pins s σ H Q I h
 exact isTrue_plain (thn (ha pins s σ H _ I h) fun v s1 ⟨x,H1,I1,r1,q1⟩=>F1 pins s1 σ H1 x v Q I1 r1 q1) (he _)
theorem vals1 {x:V} {us:List Value} (r:Vals [x] us):∃ u,us=[u]∧RelV x u:=by
 cases r with
 | cons r1 r2=>cases r2; exact ⟨_,rfl,r1⟩
theorem vals2 {x y:V} {us:List Value} (r:Vals [x,y] us):∃ u w',us=[u,w']∧RelV x u∧RelV y w':=by
 cases r with
 | cons r1 r2=>
   cases r2 with
   | cons r3 r4=>cases r4; exact ⟨_,_,rfl,r1,r3⟩
end
end L2
namespace L2
open PySem PySem.Spec PyProof.Rows
structure yo (h:Heap) (x dx C:Addr) (mA:Str→Option Value):Prop where
 obj:h.get? x=some (PySem.W.instObj C dx)
 ns:h.Ns1 dx mA
 ne:dx≠x
theorem AR {h:Heap} {dx:Addr} {mA:Str→Option Value} (n:h.Ns1 dx mA):∃ od,h.get? dx=some od∧∀ name,PySem.W.lookIn name od=some (mA name):=by
 obtain ⟨o,es,ep,ho,hd,hk,_,hm⟩:=n
 refine ⟨o,ho,fun name=>?_⟩
 have e:=hm name
 unfold nsFind findBy at e
 rw [← Array.find?_toList] at e
 unfold PySem.W.lookIn
 rw [hd]
 dsimp only
 split
 · rename_i y q
   rw [q] at e
   exact congrArg some e
 · rename_i q
   rw [q] at e
   have a:es.toList.any (·.refKey)=false:=by
     rw [List.any_eq_false]
     intro y hy
     obtain ⟨z,t,IW⟩:=hk y (Array.mem_toList_iff.mp hy)
     simp [DictEntry.refKey,IW]
   have a':¬ es.toList.any (·.refKey)=true:=by rw [a]; exact Bool.false_ne_true
   rw [if_neg a']
   exact congrArg some e
theorem yo.look {h:Heap} {x dx C:Addr} {mA:Str→Option Value} (I:yo h x dx C mA):∃ od,PySem.W.InstAt h x (PySem.W.instObj C dx) C (some od)∧∀ name,PySem.W.lookIn name od=some (mA name):=
 let ⟨od,ho,hl⟩:=AR I.ns
 ⟨od,⟨I.obj,rfl,rfl,ho⟩,hl⟩
section
variable {prog:Program} {w:World} {A:Around} {E:Value→Shared→Prop} {s:Shared} {K:PySem.W.Frag} {x dx C f:Addr} {mA:Str→Option Value} {name:Str} {v:Value}
theorem get_map {expr:Bool} {Q:Value→Shared→Prop} (X:K.In s.heap) (I:yo s.heap x dx C mA) (hg:PySem.W.plainGet K C name=true) (hh:PySem.W.hasDictIn K C=true)
   (ha:PySem.W.findIn K (.ref C) name=some none) (hv:mA name=some v) (hv':PySem.W.handedIn v=true) (h:Q v { s with toks:=s.toks + 1 }) :
   wpAny (model prog w) A (getAttr (.ref x) name expr) Q E s:=by
 obtain ⟨od,J,hl⟩:=I.look
 exact PySem.W.get_value X J (PySem.W.plainGet_of hg).1 (PySem.W.findObj_own hh ha rfl (by rw [hl,hv])) hv' h
theorem BJ {pl:Sem Bool} {Q:Value × List Value→Shared→Prop} (X:K.In s.heap) (I:yo s.heap x dx C mA) (hg:PySem.W.plainGet K C name=true)
   (hf:PySem.W.findIn K (.ref C) name=some (some (.ref f))) (ht:PySem.W.isFn K (.ref f)=true) (hv:mA name=none) (h:Q (.ref f,[.ref x]) s) :
   wpAny (model prog w) A (getMethod (.ref x) name pl) Q E s:=by
 obtain ⟨od,J,hl⟩:=I.look
 exact PySem.W.method_fn X J (PySem.W.plainGet_of hg).1 (PySem.W.plainGet_of hg).2 hf (beq_iff_eq.mp ht) (by show (PySem.W.lookIn name od).map (·.isSome)=some false; rw [hl,hv]; rfl) h
theorem vv {ns:List Str} {Q:Unit→Shared→Prop} (X:K.In s.heap) (I:yo s.heap x dx C mA)
   (hs:PySem.W.findIn K (.ref C) "__setattr__"=some (some (.builtin "object.__setattr__"))) (hp:PySem.W.plainOver K C=true) (ht:PySem.W.takerIn K C name=some none) (hh:PySem.W.hasDictIn K C=true)
   (hw:PySem.Within mA ns) (hsz:ns.length≤sizeLine)
   (h:∀ h',yo h' x dx C (fun y=>if y=name then some v else mA y)→Heap.SameBut dx s.heap h'→Q () { s with heap:=h',toks:=s.toks + 2 }) :
   wpAny (model prog w) A (setAttr (.ref x) name v) Q E s:=by
 obtain ⟨od,J,hl⟩:=I.look
 refine PySem.W.set_plain X J hs (PySem.W.osa_open (s:={ s with toks:=s.toks + 1 }) (r:=none) X J hp ht fun b=>?_)
 obtain ⟨cd,hc,hd'⟩:=PySem.W.any_some hh
 have hx:s.heap.get? x=some ⟨.ref C,some dx,.plain, #[]⟩:=I.obj
 refine wpAny_bind (wpAny_pure (wpAny_bind (wpAny_bind (wpAny_loadPart hx (wpAny_bind (PySem.W.Looks.here (s:={ s with toks:=s.toks + 1 }) (PySem.W.looks_clsIn X hc) ?_))))))
 rw [hd']
 refine wpAny_pure (a:=some dx) (wpAny_bind (wpAny_pure (wpAny_bind ?_)))
 refine wpAny_nsSet1 (s:={ s with toks:=s.toks + 1 }) I.ns fun h' hn2 hs2=>?_
 obtain ⟨oD,esD,epD,hoD,hdD,hcD⟩:=hn2.count (PySem.Within.cons name v hw)
 refine wpAny_bind (wpAny_lookBehind hoD (by rw [hdD]; exact pastItsLine_dict (Nat.le_trans hcD (by rw [List.length_cons]; lia))) ?_)
 exact wpAny_pure (h _ ⟨(hs2.2 _ (Ne.symm I.ne)).trans I.obj,hn2,I.ne⟩ hs2)
theorem BK {R:Result→Shared→Prop} {vs:List Value} {kw:List (Str × Value)} (X:K.In s.heap) (hm:PySem.W.makesIn K C=true)
   (hi:PySem.W.findIn K (.ref C) "__init__"=some (some (.ref f))) (hf:PySem.W.typeIn K (.ref f)=some (.type "function"))
   (h:codeAny (model prog w) (A.under (.builtin "type.__call__" ⟨.ref C :: vs,kw⟩)) (.call (.ref f) ⟨.ref (s.heap.objs.size + 1) :: vs,kw⟩) (PySem.W.InitBack (s.heap.objs.size + 1) R)
     { s with heap:=(s.heap.push PySem.W.emptyDict).push (PySem.W.instObj C s.heap.objs.size) }) :
   codeAny (model prog w) A (.call (.ref C) ⟨vs,kw⟩) R s:=by
 obtain ⟨hh,g,d,t,os⟩:=s
 exact PySem.W.make_core (PySem.W.makes_of X hm) (PySem.W.looks_findIn X hi) (fun self=>PySem.W.bind_fn X self hf) (.inl rfl) h
end
noncomputable def gf (f:Str) (v:V):List (Str × V)→List (Str × V)
 | []=>[(f,v)]
 | (g,x) :: r=>if g=f then (g,v) :: r else (g,x) :: gf f v r
theorem qv (f g:Str) (v:V):∀ fs:List (Str × V),(gf f v fs).lookup g=if g=f then some v else fs.lookup g
 | []=>by
   show List.lookup g [(f,v)]=_
   by_cases h:g=f
   · have hb:(g == f)=true:=beq_iff_eq.mpr h
     simp only [List.lookup,hb,if_pos h]
   · have hb:(g == f)=false:=beq_eq_false_iff_ne.mpr h
     simp only [List.lookup,hb,if_neg h]
 | (k,x) :: r=>by
   have ih:=qv f g v r
   rw [show gf f v ((k,x) :: r)=(if k=f then (k,v) :: r else (k,x) :: gf f v r) from rfl]
   by_cases hk:k=f
   · rw [if_pos hk]
     by_cases h:g=k
     · have hb:(g == k)=true:=beq_iff_eq.mpr h
       simp only [List.lookup,hb,if_pos (h.trans hk)]
     · have hb:(g == k)=false:=beq_eq_false_iff_ne.mpr h
       simp only [List.lookup,hb,if_neg (fun e:g=f=>h (e.trans hk.symm))]
   · rw [if_neg hk]
     by_cases h:g=k
     · have hb:(g == k)=true:=beq_iff_eq.mpr h
       simp only [List.lookup,hb,if_neg (fun e:g=f=>hk (h.symm.trans e))]
     · have hb:(g == k)=false:=beq_eq_false_iff_ne.mpr h
       simp only [List.lookup,hb]
       exact ih
theorem pJ (f:Str) (v:V):∀ fs:List (Str × V),f∈(gf f v fs).map (·.1)∧∀ g,g∈fs.map (·.1)→g∈(gf f v fs).map (·.1)
 | []=>⟨by simp [gf],fun g h=>by simp at h⟩
 | (k,x) :: r=>by
   obtain ⟨i1,i2⟩:=pJ f v r
   rw [show gf f v ((k,x) :: r)=(if k=f then (k,v) :: r else (k,x) :: gf f v r) from rfl]
   by_cases hk:k=f
   · rw [if_pos hk]
     subst hk
     exact ⟨by simp,fun g h=>by simpa using h⟩
   · rw [if_neg hk]
     refine ⟨?_,fun g h=>?_⟩
     · rw [List.map_cons]
       exact List.mem_cons_of_mem _ i1
     · rw [List.map_cons] at h ⊢
       rcases List.mem_cons.mp h with e | e
       · exact List.mem_cons.mpr (.inl e)
       · exact List.mem_cons_of_mem _ (i2 g e)
theorem qw (f:Str) (v:V):∀ fs:List (Str × V),(gf f v fs).length≤fs.length + 1
 | []=>by simp [gf]
 | (k,x) :: r=>by
   have ih:=qw f v r
   rw [show gf f v ((k,x) :: r)=(if k=f then (k,v) :: r else (k,x) :: gf f v r) from rfl]
   by_cases hk:k=f
   · rw [if_pos hk,List.length_cons,List.length_cons]; lia
   · rw [if_neg hk,List.length_cons,List.length_cons]; lia
theorem kG.some_of {v:V} {o:Option Value} (r:kG (some v) o):∃ u,o=some u∧RelV v u:=by
 cases o with
 | none=>exact (show False from r).elim
 | some u=>exact ⟨u,rfl,r⟩
theorem kG.none_of {o:Option Value} (r:kG none o):o=none:=by
 cases o with
 | none=>rfl
 | some u=>exact (show False from r).elim
theorem AS {v:V} {u:Value} (r:RelV v u):PySem.W.handedIn u=true:=by
 cases v with
 | non=>cases (show u=Value.none from r); rfl
 | bl b=>cases (show u=Value.bool b from r); rfl
 | int i=>obtain ⟨t,e⟩:=(show ∃ t,u=Value.int i t from r); cases e; rfl
 | str x=>obtain ⟨t,e⟩:=(show ∃ t,u=Value.str x t from r); cases e; rfl
 | byt b=>obtain ⟨t,e⟩:=(show ∃ t,u=Value.bytes b t from r); cases e; rfl
 | flt b=>obtain ⟨t,e⟩:=(show ∃ t,u=Value.float b t from r); cases e; rfl
 | ref a=>cases (show u=Value.ref a from r); rfl
 | ty n=>cases (show u=Value.type n from r); rfl
section
variable {P:Program} {w:World} {H H':Hp} {h h':Heap} {a C dx:Addr} {fs fs':List (Str × V)}
theorem vw (hok:HOk P w H h) (e:H a=some (.ins C dx fs)):∃ mA,yo h a dx C mA∧(∀ f,kG (fs.lookup f) (mA f))∧PySem.Within mA (fs.map (·.1))∧fs.length≤1000∧H dx=some (.own a):=by
 obtain ⟨d,z,ne,ob,mA,n,r,q⟩:=(show dH P w H h a (.ins C dx fs) from hok a _ e)
 exact ⟨mA,⟨ob,n,ne⟩,r,q,z,d⟩
end
structure Cls (K:PySem.W.Frag) (C:Addr):Prop where
 pg:PySem.W.plainGet K C Str.empty=true
 hd:PySem.W.hasDictIn K C=true
 po:PySem.W.plainOver K C=true
 sa:PySem.W.findIn K (.ref C) "__setattr__"=some (some (.builtin "object.__setattr__"))
theorem Cls.get {K:PySem.W.Frag} {C:Addr} (c:Cls K C) (f:Str):PySem.W.plainGet K C f=true:=c.pg
noncomputable def dJ (K:PySem.W.Frag) (C:Addr) (f:Str):Prop:=PySem.W.findIn K (.ref C) f=some none
theorem dJ.Hk {K:PySem.W.Frag} {C:Addr} {f:Str} (n:dJ K C f):PySem.W.takerIn K C f=some none:=by
 unfold PySem.W.takerIn
 rw [show PySem.W.findIn K (.ref C) f=some none from n]
 rfl
structure Meth (K:PySem.W.Frag) (C:Addr) (m:Str) (f:Addr):Prop where
 at_:PySem.W.findIn K (.ref C) m=some (some (.ref f))
 fn:PySem.W.isFn K (.ref f)=true
 kp:PySem.W.keepIn K (.ref f)=true
section
variable {X:Cx} {pins:List (Addr × Obj)} {σ:St} {H:Hp} {s:Shared} {a C dx:Addr} {fs:List (Str × V)} {f:Str} {v:V} {A:Around} {E:Value→Shared→Prop}
theorem rR {b:Bool} {Q:Value→Shared→Prop} (I:Inv X pins σ H s) (e:H a=some (.ins C dx fs)) (c:Cls X.K C) (n:dJ X.K C f) (l:fs.lookup f=some v)
   (h:∀ u s',Inv X pins σ H s'→RelV v u→Q u s'):wpAny (model X.prog X.w) A (getAttr (.ref a) f b) Q E s:=by
 obtain ⟨mA,O,r,_,_,_⟩:=vw I.hok e
 obtain ⟨u,hu,ru⟩:=kG.some_of (v:=v) (o:=mA f) (by rw [← l]; exact r f)
 exact get_map I.kIn O (c.get f) c.hd n hu (AS ru) (h u _ (I.tok _) ru)
theorem yp {m:Str} {g:Addr} {pl:Sem Bool} {Q:Value × List Value→Shared→Prop} (I:Inv X pins σ H s) (e:H a=some (.ins C dx fs)) (c:Cls X.K C) (k:Meth X.K C m g) (l:fs.lookup m=none)
   (h:Q (.ref g,[.ref a]) s):wpAny (model X.prog X.w) A (getMethod (.ref a) m pl) Q E s:=by
 obtain ⟨mA,O,r,_,_,_⟩:=vw I.hok e
 have hn:mA m=none:=kG.none_of (by rw [← l]; exact r m)
 exact BJ I.kIn O (c.get m) k.at_ k.fn hn h
theorem rT {y:V} {u:Value} {Q:Unit→Shared→Prop} (I:Inv X pins σ H s) (e:H a=some (.ins C dx fs)) (c:Cls X.K C) (n:dJ X.K C f) (hl:fs.length < 1000) (ry:RelV y u)
   (h:∀ s',Inv X pins σ (upd H a (.ins C dx (gf f y fs))) s'→Q () s'):wpAny (model X.prog X.w) A (setAttr (.ref a) f u) Q E s:=by
 obtain ⟨mA,O,r,wi,_,ho⟩:=vw I.hok e
 have hz:(fs.map (·.1)).length≤sizeLine:=by rw [List.length_map,sizeLine_eq]; lia
 refine vv I.kIn O c.sa c.po n.Hk c.hd wi hz fun h' O' sb=>h _ ?_
 have hd:∃ o,h'.get? dx=some o:=let ⟨o,_,_,e',_⟩:=O'.ns; ⟨o,e'⟩
 refine I.write (x:=a) (e:=dx) (by rw [e]; exact True.intro) (.inr ho) (fun b q hb z=>(sb.2 b hb).trans z) hd ?_
 refine ⟨by rw [aR O.ne]; exact ho,?_,O.ne,O'.obj,_,O'.ns,fun g=>?_,fun g hg=>?_⟩
 · have:=qw f y fs; lia
 · show kG ((gf f y fs).lookup g) (if g=f then some u else mA g)
   rw [qv]
   by_cases q:g=f
   · rw [if_pos q,if_pos q]; exact ry
   · rw [if_neg q,if_neg q]; exact r g
 · by_cases q:g=f
   · rw [q]; exact (pJ f y fs).1
   · refine (pJ f y fs).2 g (wi g fun z=>hg ?_)
     show (if g=f then some u else mA g)=none
     rw [if_neg q]; exact z
theorem Inv.made (I:Inv X pins σ H s):Inv X pins σ (upd (upd H s.heap.objs.size (.own (s.heap.objs.size + 1))) (s.heap.objs.size + 1) (.ins C s.heap.objs.size []))
   { s with heap:=(s.heap.push PySem.W.emptyDict).push (PySem.W.instObj C s.heap.objs.size) }:=by
 have e1:(s.heap.push PySem.W.emptyDict).get? s.heap.objs.size=some PySem.W.emptyDict:=Heap.get?_push_size s.heap rfl
 have e2:((s.heap.push PySem.W.emptyDict).push (PySem.W.instObj C s.heap.objs.size)).get? (s.heap.objs.size + 1)=some (PySem.W.instObj C s.heap.objs.size):=by
   have:=Heap.get?_push_size (s.heap.push PySem.W.emptyDict) (o:=PySem.W.instObj C s.heap.objs.size) rfl
   rwa [Heap.size_push] at this
 have e3:(s.heap.push PySem.W.emptyDict).Ns s.heap.objs.size (fun _=>none):=⟨PySem.W.emptyDict, #[],_,e1,rfl,(fun e he=>absurd he (by simp)),fun _=>rfl⟩
 have I1:=I.laid (a:=s.heap.objs.size) (o:=.own (s.heap.objs.size + 1)) (h':=s.heap.push PySem.W.emptyDict) (t':=s.toks) (fun b u q=>Heap.get?_push_of_some _ q) (Nat.le_refl _) ⟨_,e1⟩
 refine I1.laid (a:=s.heap.objs.size + 1) (o:=.ins C s.heap.objs.size []) (t':=s.toks) (fun b u q=>Heap.get?_push_of_some _ q) (Nat.le_of_eq (Heap.size_push _ _)) ?_
 have ne:s.heap.objs.size≠s.heap.objs.size + 1:=Nat.ne_of_lt (Nat.lt_succ_self _)
 refine ⟨by rw [aR ne,ar],Nat.zero_le _,ne,e2,fun _=>none,(Heap.Ns1.of_empty e3).at fun o q=>Heap.get?_push_of_some _ q,fun _=>True.intro,fun y hy=>absurd rfl hy⟩
theorem Ef {prog:Program} {w:World} {env:Env} {e:Expr} {f:Str} {pos:Pos} {s:Shared} {Q:Value→Shared→Prop} (hb:attributeBase e f env (eval e env)=eval e env)
   (h:wpAny (model prog w) A (eval e env) (fun o s₁=>wpAny (model prog w) A (getAttr o f true) Q E s₁) E s):wpAny (model prog w) A (eval (.Attribute e f pos) env) Q E s:=
 Attribute_any_ h (by rw [arm_eval_Attribute,hb])
end
noncomputable def F2 (K:PySem.W.Frag) (ta:TE) (f:Str):TE:=fun σ H Q=>ta σ H fun x H1=>∃ a C dx fs v,x=.ref a∧H1 a=some (.ins C dx fs)∧Cls K C∧dJ K C f∧fs.lookup f=some v∧Q v H1
noncomputable def wV (K:PySem.W.Frag) (ta tv:TE) (f:Str):TS:=fun D σ H=>tv σ H fun y H1=>ta σ H1 fun x H2=>∃ a C dx fs,x=.ref a∧H2 a=some (.ins C dx fs)∧Cls K C∧dJ K C f∧fs.length < 1000∧
 D.nx σ (upd H2 a (.ins C dx (gf f y fs)))
noncomputable def Hl (X:Cx) (op:Operator) (rd:V→V→Hp→VK→Prop):Prop:=
 ∀ (pins:List (Addr × Obj)) (s:Shared) (σ:St) (H:Hp) (x y:V) (u v:Value) (Q:VK),Inv X pins σ H s→RelV x u→RelV y v→rd x y H Q→wpAny (model X.prog X.w) X.A (inplaceOp op u v) (EP X pins σ Q) X.xe s
noncomputable def vx (K:PySem.W.Frag) (ta tv:TE) (rd:V→V→Hp→VK→Prop) (f:Str):TS:=fun D σ H=>ta σ H fun x H1=>∃ a C dx fs v,x=.ref a∧H1 a=some (.ins C dx fs)∧Cls K C∧dJ K C f∧fs.lookup f=some v∧
 tv σ H1 fun y H2=>rd v y H2 fun z H3=>∃ dx' fs',H3 a=some (.ins C dx' fs')∧fs'.length < 1000∧D.nx σ (upd H3 a (.ins C dx' (gf f z fs')))
section
variable {X:Cx} {o e value:Expr} {f:Str} {pos pos' BM:Pos} {ta tv:TE}
theorem cg (he:PE X e ta) (hb:attributeBase e f X.env (eval e X.env)=eval e X.env):PE X (.Attribute e f pos) (F2 X.K ta f):=by
 intro pins s σ H Q I h
 refine Ef hb (thn (he pins s σ H _ I h) fun u s1 ⟨x,H1,I1,rx,a,C,dx,fs,v,ex,ea,c,n,l,q⟩=>?_)
 subst ex
 obtain rfl:u=Value.ref a:=rx
 exact rR I1 ea c n l fun u' s2 I2 ru=>⟨v,H1,I2,ru,q⟩
theorem eY (ha:PE X o ta) (hv:PE X value tv) (hs:swapsWith value (some (.Attribute o f pos')) pos.line X.env=pure false):PS X (.Assign [.Attribute o f pos'] value pos) (wV X.K ta tv f):=by
 intro pins s σ H D I h
 refine plainObj_wpAny_Assign_Attribute (thn (hv pins s σ H _ I h) fun u s1 ⟨y,H1,I1,ry,q⟩=>thn (ha pins s1 σ H1 _ I1 q) fun ov s2 ⟨x,H2,I2,rx,a,C,dx,fs,ex,ea,c,n,l,q2⟩=>?_) hs
 subst ex
 obtain rfl:ov=Value.ref a:=rx
 exact rT I2 ea c n l ry fun s3 I3=>⟨σ,_,I3,q2⟩
theorem AU {op:Operator} {rd:V→V→Hp→VK→Prop} (ha:PE X o ta) (hv:PE X value tv) (hop:Hl X op rd):PS X (.AugAssign (.Attribute o f BM) op value pos) (vx X.K ta tv rd f):=by
 intro pins s σ H D I h
 refine wpAny_AugAssign_AttributeAny (thn (ha pins s σ H _ I h) fun ov s1 ⟨x,H1,I1,rx,a,C,dx,fs,v,ex,ea,c,n,l,q⟩=>?_)
 subst ex
 obtain rfl:ov=Value.ref a:=rx
 refine rR I1 ea c n l fun u s2 I2 ru=>thn (hv pins s2 σ H1 _ I2 q) fun w3 s3 ⟨y,H2,I3,ry,q3⟩=>thn (hop pins s3 σ H2 v y u w3 _ I3 ru ry q3) fun w4 s4 ⟨z,H3,I4,rz,dx',fs',ea',l',q4⟩=>?_
 exact rT I4 ea' c n l' rz fun s5 I5=>⟨σ,_,I5,q4⟩
noncomputable def IX:V→V→Hp→VK→Prop:=fun x y H Q=>∃ i j,x=.int i∧y=.int j∧Q (.int (i + j)) H
theorem F4:Hl X .Add IX:=by
 rintro pins s σ H x y u v Q I rx ry ⟨i,j,rfl,rfl,q⟩
 obtain ⟨t,rfl⟩:=(show ∃ t,u=Value.int i t from rx)
 obtain ⟨t',rfl⟩:=(show ∃ t',v=Value.int j t' from ry)
 exact PyProof.Rows.iadd_int ⟨.int (i + j),H,I.tok _,⟨_,rfl⟩,q⟩
end
section
variable {X:Cx} {pins:List (Addr × Obj)} {σ:St} {H:Hp} {s:Shared} {A:Around} {E:Value→Shared→Prop} {Q:Value→Shared→Prop} {c:Value} {b:Bool}
end
end L2
namespace L2
open PySem PySem.Spec PyProof.Rows
structure eZ (k:Nat) (A:Around):Prop where
 hd:A.handled=none
 dp:A.depth + 3 * k + 5 < recursionLimit
 un:A.units + 16 * k + 200 < cLine
theorem eZ.mono {j k:Nat} {A:Around} (r:eZ k A) (h:j≤k):eZ j A:=⟨r.hd,by have:=r.dp; lia,by have:=r.un; lia⟩
theorem eZ.deeper {k:Nat} {A:Around} (r:eZ (k + 1) A) (env:Env):eZ k (A.deeper env):=
 ⟨r.hd,by have:=r.dp; show A.depth + 1 + 3 * k + 5 < _; lia,by have:=r.un; show A.units + 3 + 16 * k + 200 < _; lia⟩
theorem eZ.in1 {k:Nat} {A:Around} (r:eZ (k + 1) A):eZ k A.in1:=
 ⟨r.hd,by have:=r.dp; show A.depth + 3 * k + 5 < _; lia,by have:=r.un; show A.units + 1 + 16 * k + 200 < _; lia⟩
theorem yq {A:Around} {C:Addr} {us:List Value} {kw:List (Str × Value)}:(A.under (.builtin "type.__call__" ⟨.ref C :: us,kw⟩)).depth=A.depth + 1:=by
 first | rfl | simp [Around.under,Code.weight,Code.isCreation,Code.isGuard,Code.isCaller,Code.frames,Code.isFrame,guardIds]
theorem yt {A:Around} {C:Addr} {us:List Value} {kw:List (Str × Value)}:(A.under (.builtin "type.__call__" ⟨.ref C :: us,kw⟩)).units=A.units + 1:=by
 first | rfl | simp [Around.under,Code.cUnits,Code.frames,Code.isFrame]
theorem eZ.make {k:Nat} {A:Around} (r:eZ (k + 1) A) (C:Addr) (us:List Value) (kw:List (Str × Value)):eZ k (A.under (.builtin "type.__call__" ⟨.ref C :: us,kw⟩)):=
 ⟨r.hd,by have:=r.dp; rw [yq]; lia,by have:=r.un; rw [yt]; lia⟩
theorem eZ.depth {k:Nat} {A:Around} (r:eZ k A):A.depth < recursionLimit:=by have:=r.dp; lia
theorem eZ.units {k:Nat} {A:Around} (r:eZ k A):A.units + 64 < cLine:=by have:=r.un; lia
noncomputable def F5:TA:=fun _ H Q=>Q [] H
noncomputable def Fi (ta:TE) (tr:TA):TA:=fun σ H Q=>ta σ H fun x H1=>tr σ H1 fun xs H2=>Q (x :: xs) H2
section
variable {X:Cx} {e:Expr} {es:List Expr} {te:TE} {t:TA} {pos:Pos}
theorem ae:PA X [] F5:=fun _ _ _ _ H Q I h=>Calls.spliced_nil ⟨[],H,I,.nil,h⟩
theorem aa (ha:PE X e te) (hr:PA X es t) (hs:starEach (e :: es) X.env=(false,eval e X.env) :: starEach es X.env:=by rfl):PA X (e :: es) (Fi te t):=by
 intro pos pins s σ H Q I h
 rw [hs]
 show wpAny _ _ (spliced ((false,eval e X.env) :: backTo pos (starEach es X.env))) _ _ s
 refine Calls.spliced_cons (thn (ha pins s σ H _ I h) fun u s1 ⟨x,H1,I1,r1,q1⟩=>?_)
 exact thn (hr pos pins s1 σ H1 _ I1 q1) fun us s2 ⟨xs,H2,I2,r2,q2⟩=>⟨x :: xs,H2,I2,.cons r1 r2,q2⟩
noncomputable def Hm (t:TA):TE:=fun σ H Q=>t σ H fun xs H1=>xs.length≤sizeLine∧∀ p,H1 p=none→Q (.ref p) (upd H1 p (.tup xs))
noncomputable def Hn (t:TA):TE:=fun σ H Q=>t σ H fun xs H1=>xs.length≤sizeLine∧∀ p,H1 p=none→Q (.ref p) (upd H1 p (.lst xs))
theorem au {x1} (h:PA X es t):PE X (.Tuple es x1 pos) (Hm t):=by
 intro pins s σ H Q I hq
 refine wpAny_Tuple_spliced (thn (h pos pins s σ H _ I hq) fun us s1 ⟨xs,H1,I1,r,z,q⟩=>⟨by rw [← r.length]; exact z,?_⟩)
 have hf:H1 s1.heap.objs.size=none:=I1.hok.fresh (Nat.le_refl _)
 refine ⟨.ref s1.heap.objs.size,upd H1 s1.heap.objs.size (.tup xs),I1.laid (t':=s1.toks) (fun b u e=>Heap.get?_push_of_some _ e) (Nat.le_refl _) ?_,rfl,q _ hf⟩
 exact ⟨z,us,r,⟨_,Heap.get?_push_size _ rfl,rfl,_,rfl⟩⟩
theorem aO (h:PA X es t):PE X (.List es pos) (Hn t):=by
 intro pins s σ H Q I hq
 refine wpAny_List_spliced (thn (h pos pins s σ H _ I hq) fun us s1 ⟨xs,H1,I1,r,z,q⟩=>⟨by rw [← r.length]; exact z,?_⟩)
 have hf:H1 s1.heap.objs.size=none:=I1.hok.fresh (Nat.le_refl _)
 refine ⟨.ref s1.heap.objs.size,upd H1 s1.heap.objs.size (.lst xs),I1.laid (t':=s1.toks) (fun b u e=>Heap.get?_push_of_some _ e) (Nat.le_refl _) ?_,rfl,q _ hf⟩
 exact ⟨z,us,0,r,Heap.get?_push_size _ rfl⟩
end
noncomputable abbrev Sp:=List V→Hp→VK→XK→Prop
noncomputable abbrev CXT:=List Env→Hp→Shared→XK→Value→Shared→Prop
structure yu (P:Program) (w:World) (K:PySem.W.Frag) (mg:Str→Option Value) (base:Heap) (A:Around) (outer:List Env) (s:Shared) (H:Hp):Prop where
 frames:A.frames=some outer
 mod:Mod K mg base
 bs:∀ b o,base.get? b=some o→s.heap.get? b=some o∧H b=none
 bsz:base.objs.size≤s.heap.objs.size
 qU:s.heap.FunFrames base outer
 frf:∀ b∈frs outer,H b=none
 hok:HOk P w H s.heap
 bare:AllBare s.gens
noncomputable def CE (outer:List Env) (P:Program) (w:World) (H:Hp) (s:Shared) (Q:VK) (u:Value) (s':Shared):Prop:=
 ∃ v H',s'.os=s.os∧AllBare s'.gens∧Un (frs outer) [] H H' s.heap s'.heap∧HOk P w H' s'.heap∧RelV v u∧Q v H'
noncomputable def CR (CX:CXT) (outer:List Env) (P:Program) (w:World) (H:Hp) (s:Shared) (Q:VK) (E:XK) (r:Result) (s':Shared):Prop:=
 match r with
 | .ok (.ret u)=>CE outer P w H s Q u s'
 | .ok _=>False
 | .error e=>CX outer H s E e s'
structure bP (P:Program) (w:World) (K:PySem.W.Frag) (mg:Str→Option Value) (base:Heap) (CX:CXT) (k:Nat) (f:Addr) (fd:FuncData) (ps:List Str) (sp:Sp):Prop where
 len:∀ vs H Q E,sp vs H Q E→vs.length=ps.length
 run:∀ (A:Around) (outer:List Env) (s:Shared) (H:Hp) (args:Args) (us:List Value) (vs:List V) (Q:VK) (E:XK),eZ k A→yu P w K mg base A outer s H→BindsTo s fd args (ps.zip us)→Vals vs us→sp vs H Q E→
   codeAny (model P w) A (.call (.ref f) args) (CR CX outer P w H s Q E) s
theorem yu.make {P:Program} {w:World} {K:PySem.W.Frag} {mg:Str→Option Value} {base:Heap} {A:Around} {outer:List Env} {s:Shared} {H:Hp} (e:yu P w K mg base A outer s H) (C:Addr) (us:List Value) (kw:List (Str × Value)) :
   yu P w K mg base (A.under (.builtin "type.__call__" ⟨.ref C :: us,kw⟩)) outer s H:=⟨by first | exact e.frames | (simpa [Around.under,Code.envs,Code.isFrame,pushEnvs] using e.frames),e.mod,e.bs,e.bsz,e.qU,e.frf,e.hok,e.bare⟩
section
variable {X:Cx} {pins:List (Addr × Obj)} {σ:St} {H:Hp} {s s':Shared}
theorem Inv.Ho (I:Inv X pins σ H s):yu X.prog X.w X.K X.mg X.base X.A X.stack s H:=
 ⟨I.ok.frames,I.ok.mod,I.bs,Nat.le_trans I.ok.bsz I.sz,I.stack,I.zH,I.hok,I.bare⟩
theorem Inv.after {Q:VK} {u:Value} (I:Inv X pins σ H s) (h:CE X.stack X.prog X.w H s Q u s'):EP X pins σ Q u s':=by
 obtain ⟨v,H',os,bare,un,hok,r,q⟩:=h
 obtain ⟨hh,g,d,t,os'⟩:=s'
 obtain rfl:os'=s.os:=os
 exact ⟨v,H',I.call (h':=hh) (g':=g) (d':=d) (t':=t) (ch:=[]) un hok bare (fun b z=>absurd z (by simp)),r,q⟩
end
noncomputable def Fj (sp:Sp) (dvs:List V) (E:XK) (t:TA):TE:=fun σ H Q=>t σ H fun vs H1=>sp (vs ++ dvs) H1 Q E
noncomputable def BN (C:Addr) (m:Str) (sp:Sp) (dvs:List V) (E:XK) (ta:TE) (t:TA):TE:=fun σ H Q=>ta σ H fun x H1=>∃ a dx fs,x=.ref a∧H1 a=some (.ins C dx fs)∧fs.lookup m=none∧
 t σ H1 fun vs H2=>sp (x :: (vs ++ dvs)) H2 Q E
noncomputable def BO (C:Addr) (sp:Sp) (dvs:List V) (E:XK) (t:TA):TE:=fun σ H Q=>t σ H fun vs H1=>∀ x dx,H1 x=none→H1 dx=none→dx≠x→
 sp (.ref x :: (vs ++ dvs)) (upd (upd H1 dx (.own x)) x (.ins C dx [])) (fun v H2=>v=.non∧Q (.ref x) H2) E
noncomputable def Binds (K:PySem.W.Frag) (fd:FuncData) (ps:List Str) (ds:List Value):Prop:=
 ∀ (s:Shared) (us:List Value),K.In s.heap→(us ++ ds).length=ps.length→BindsTo s fd ⟨us,[]⟩ (ps.zip (us ++ ds))
theorem Binds.all {K:PySem.W.Frag} {fd:FuncData} {ps:List Str} (h:∀ us:List Value,us.length=ps.length→bindArgs fd ⟨us,[]⟩=pure (ps.zip us)):Binds K fd ps []:=fun s us _ hl=>by
 rw [List.append_nil] at hl ⊢
 exact .of_eq (h us hl)
noncomputable def Passes (CX:CXT) (X:Cx) (E:XK):Prop:=∀ (pins:List (Addr × Obj)) (σ:St) (H:Hp) (s:Shared) (e:Value) (s':Shared),Inv X pins σ H s→CX X.stack H s E e s'→X.xe e s'
section
variable {X:Cx} {CX:CXT} {k:Nat} {f C:Addr} {fd:FuncData} {ps:List Str} {sp:Sp} {dvs:List V} {ds:List Value} {E:XK} {x m:Str} {p pos apos:Pos} {e o:Expr} {es:List Expr} {ta:TE} {t:TA}
theorem BP {pins:List (Addr × Obj)} {σ:St} {H:Hp} {s:Shared} {Q:VK} {us:List Value} {vs:List V} (F:bP X.prog X.w X.K X.mg X.base CX k f fd ps sp) (hr:eZ k X.A) (hb:Binds X.K fd ps ds) (hd:Vals dvs ds) (hx:Passes CX X E)
   (I:Inv X pins σ H s) (r:Vals vs us) (h:sp (vs ++ dvs) H Q E):wpAny (model X.prog X.w) X.A (call (.ref f) us) (EP X pins σ Q) X.xe s:=by
 have r2:Vals (vs ++ dvs) (us ++ ds):=r.append hd
 have hl:(us ++ ds).length=ps.length:=by rw [← r2.length]; exact F.len _ _ _ _ h
 refine wpAny_call (codeAny_mono (F.run X.A X.stack s H ⟨us,[]⟩ (us ++ ds) (vs ++ dvs) Q E hr I.Ho (hb s us I.kIn hl) r2 h) fun r s' hq=>?_)
 cases r with
 | error e=>exact hx pins σ H s e s' I hq
 | ok fl=>
   cases fl with
   | ret u=>exact I.after hq
   | next=>exact False.elim hq
   | brk=>exact False.elim hq
   | cont=>exact False.elim hq
theorem aL (F:bP X.prog X.w X.K X.mg X.base CX k f fd ps sp) (hr:eZ k X.A) (hg:Gl X x) (hm:X.mg x=some (.ref f)) (hk:PySem.W.keepIn X.K (.ref f)=true) (hb:Binds X.K fd ps ds) (hd:Vals dvs ds) (hx:Passes CX X E)
   (ha:PA X (e :: es) t) (hdb:(x == ("__debug__":Str))=false:=by decide) (he:starEach (e :: es) X.env=(false,eval e X.env) :: starEach es X.env:=by rfl) (hpl:(backTo pos (starEach es X.env)).any (·.1)=false:=by rfl) :
   PE X (.Call (.Name x p) (e :: es) [] pos) (Fj sp dvs E t):=by
 intro pins s σ H Q I h
 refine wpAny_Call_Name_kw (vq I hg hm ?_ hdb)
 refine PySem.W.callWith_K (h₀:=X.base) I.ok.mod.kin hk (thn (ha pos pins s σ H _ I h) fun us s1 ⟨vs,H1,I1,r,q⟩=>⟨I1.kIn,?_⟩) he hpl
 exact BP F hr hb hd hx I1 r q
theorem ou {pl:Sem Bool} (he:PE X o ta) (c:Cls X.K C) (hm:Meth X.K C m f) (F:bP X.prog X.w X.K X.mg X.base CX k f fd ps sp) (hr:eZ k X.A) (hb:Binds X.K fd ps ds) (hd:Vals dvs ds) (hx:Passes CX X E)
   (ht:eval (.Call (.Attribute o m apos) [] [] pos) X.env=(do
     let ov ← eval o X.env
     standAt apos.atName
     let (f,first) ← holding [ov] (getMethod ov m pl)
     callWith pos f first (backTo pos (starEach [] X.env)) (backToKw pos (keywordEach [] X.env))):=by rfl) :
   PE X (.Call (.Attribute o m apos) [] [] pos) (BN C m sp dvs E ta F5):=by
 intro pins s σ H Q I h
 refine PySem.W.methodCall_KW (pl:=pl) (thn (he pins s σ H _ I h) fun u s1 ⟨x,H1,I1,rx,a,dx,fs,ex,ea,l,q⟩=>?_) ht
 subst ex
 obtain rfl:u=Value.ref a:=rx
 refine yp I1 ea c hm l ?_
 exact PySem.W.callWith_K0 (first:=[.ref a]) I1.kIn hm.kp (BP (us:=[.ref a]) (vs:=[.ref a]) F hr hb hd hx I1 (.cons rfl .nil) q)
structure Mk (K:PySem.W.Frag) (C f:Addr):Prop where
 makes:PySem.W.makesIn K C=true
 init:PySem.W.findIn K (.ref C) "__init__"=some (some (.ref f))
 fn:PySem.W.isFn K (.ref f)=true
 kp:PySem.W.keepIn K (.ref C)=true
theorem BQ {pins:List (Addr × Obj)} {σ:St} {H:Hp} {s:Shared} {Q:VK} {us:List Value} {vs:List V} (M:Mk X.K C f) (F:bP X.prog X.w X.K X.mg X.base CX k f fd ps sp) (hr:eZ (k + 1) X.A) (hb:Binds X.K fd ps ds) (hd:Vals dvs ds)
   (hx:Passes CX X E) (I:Inv X pins σ H s) (r:Vals vs us)
   (h:∀ x dx,H x=none→H dx=none→dx≠x→sp (.ref x :: (vs ++ dvs)) (upd (upd H dx (.own x)) x (.ins C dx [])) (fun v H2=>v=.non∧Q (.ref x) H2) E) :
   wpAny (model X.prog X.w) X.A (call (.ref C) us) (EP X pins σ Q) X.xe s:=by
 have hq:=h (s.heap.objs.size + 1) s.heap.objs.size (I.hok.fresh (Nat.le_succ _)) (I.hok.fresh (Nat.le_refl _)) (Nat.ne_of_lt (Nat.lt_succ_self _))
 have I2:=Inv.made (C:=C) I
 have r2:Vals (V.ref (s.heap.objs.size + 1) :: (vs ++ dvs)) (Value.ref (s.heap.objs.size + 1) :: (us ++ ds)):=.cons rfl (r.append hd)
 have hl:(Value.ref (s.heap.objs.size + 1) :: us ++ ds).length=ps.length:=by
   have e:=r2.length
   rw [F.len _ _ _ _ hq] at e
   exact e.symm
 refine wpAny_call (BK (f:=f) I.kIn M.makes M.init (beq_iff_eq.mp M.fn) (codeAny_mono (F.run _ X.stack _ _ ⟨Value.ref (s.heap.objs.size + 1) :: us,[]⟩ (Value.ref (s.heap.objs.size + 1) :: (us ++ ds)) _ _ E (hr.make C us [])
   (I2.Ho.make C us []) (hb _ (Value.ref (s.heap.objs.size + 1) :: us) I2.kIn hl) r2 hq) fun r s' hq'=>?_))
 cases r with
 | error e=>exact hx pins σ _ _ e s' I2 hq'
 | ok fl=>
   cases fl with
   | ret u=>
     obtain ⟨v,H',I3,rv,ev,q3⟩:=I2.after hq'
     subst ev
     exact ⟨rv,⟨V.ref (s.heap.objs.size + 1),H',I3,rfl,q3⟩⟩
   | next=>exact False.elim hq'
   | brk=>exact False.elim hq'
   | cont=>exact False.elim hq'
theorem zP (M:Mk X.K C f) (F:bP X.prog X.w X.K X.mg X.base CX k f fd ps sp) (hr:eZ (k + 1) X.A) (hg:Gl X x) (hm:X.mg x=some (.ref C)) (hb:Binds X.K fd ps ds) (hd:Vals dvs ds) (hx:Passes CX X E)
   (ha:PA X (e :: es) t) (hdb:(x == ("__debug__":Str))=false:=by decide) (he:starEach (e :: es) X.env=(false,eval e X.env) :: starEach es X.env:=by rfl) (hpl:(backTo pos (starEach es X.env)).any (·.1)=false:=by rfl) :
   PE X (.Call (.Name x p) (e :: es) [] pos) (BO C sp dvs E t):=by
 intro pins s σ H Q I h
 refine wpAny_Call_Name_kw (vq I hg hm ?_ hdb)
 refine PySem.W.callWith_K (h₀:=X.base) I.ok.mod.kin M.kp (thn (ha pos pins s σ H _ I h) fun us s1 ⟨vs,H1,I1,r,q⟩=>⟨I1.kIn,?_⟩) he hpl
 exact BQ M F hr hb hd hx I1 r q
end
section
variable {X:Cx} {CX:CXT} {k:Nat} {f C:Addr} {fd:FuncData} {ps ks:List Str} {sp:Sp} {E:XK} {x m:Str} {p pos apos IY:Pos} {e o:Expr} {es:List Expr} {kws:List Keyword} {te ta:TE} {t tk:TA} {nm:Option Str}
variable {g:List Value→List Value→List Value} {gV:List V→List V→List V}
end
structure bj (N P:List Str) (sc:Scope):Prop where
 kind:sc.kind=.function
 co:sc.isCoroutine=false
 gen:sc.isGenerator=false
 nd:N.Nodup
 pre:N.take P.length=P
 par:∀ x∈P,sc.names.lookup x=some .local∨sc.names.lookup x=some .cell
 F6:∀ y∈sc.names,y.2≠.free
theorem uO {kindOf:Str→Option NameKind} {x:Str}:∀ {binds:List (Str × Value)} {m:Str→Option Value},(∀ v,(x,v) ∉ binds)→bindL kindOf binds m x=m x
 | [],_,_=>rfl
 | (n,v) :: r,m,h=>by
   unfold bindL
   rw [uO fun w hw=>h w (List.mem_cons_of_mem _ hw)]
   split
   · have:x≠n:=by rintro rfl; exact h v List.mem_cons_self
     simp [this]
   · rfl
theorem uP {kindOf:Str→Option NameKind} {x:Str}:∀ {binds:List (Str × Value)} {m:Str→Option Value},(∀ v,(x,v) ∉ binds)→bindC kindOf binds m x=m x
 | [],_,_=>rfl
 | (n,v) :: r,m,h=>by
   unfold bindC
   rw [uP fun w hw=>h w (List.mem_cons_of_mem _ hw)]
   split
   · rfl
   · have:x≠n:=by rintro rfl; exact h v List.mem_cons_self
     simp [this]
theorem uQ {kindOf:Str→Option NameKind} {x:Str} {v:Value}:∀ {P:List Str} {vs:List Value} {i:Nat} {m:Str→Option Value},P.Nodup→P[i]?=some x→vs[i]?=some v→kindOf x=some .local→
   bindL kindOf (P.zip vs) m x=some v
 | [],_,_,_,_,h,_,_=>by simp at h
 | _ :: _,[],_,_,_,_,h,_=>by simp at h
 | p :: P,w :: vs,0,m,nd,h1,h2,hk=>by
   simp at h1 h2; subst h1; subst h2
   show bindL kindOf ((p,w) :: P.zip vs) m p=_
   unfold bindL
   rw [uO fun v hv=>(List.nodup_cons.mp nd).1 (List.of_mem_zip hv).1,if_pos hk]
   simp
 | p :: P,w :: vs,i + 1,m,nd,h1,h2,hk=>by
   show bindL kindOf ((p,w) :: P.zip vs) m x=_
   unfold bindL
   exact uQ (i:=i) (List.nodup_cons.mp nd).2 (by simpa using h1) (by simpa using h2) hk
theorem uR {kindOf:Str→Option NameKind} {x:Str} {v:Value}:∀ {P:List Str} {vs:List Value} {i:Nat} {m:Str→Option Value},P.Nodup→P[i]?=some x→vs[i]?=some v→kindOf x≠some .local→
   bindC kindOf (P.zip vs) m x=some v
 | [],_,_,_,_,h,_,_=>by simp at h
 | _ :: _,[],_,_,_,_,h,_=>by simp at h
 | p :: P,w :: vs,0,m,nd,h1,h2,hk=>by
   simp at h1 h2; subst h1; subst h2
   show bindC kindOf ((p,w) :: P.zip vs) m p=_
   unfold bindC
   rw [uP fun v hv=>(List.nodup_cons.mp nd).1 (List.of_mem_zip hv).1,if_neg hk]
   simp
 | p :: P,w :: vs,i + 1,m,nd,h1,h2,hk=>by
   show bindC kindOf ((p,w) :: P.zip vs) m x=_
   unfold bindC
   exact uR (i:=i) (List.nodup_cons.mp nd).2 (by simpa using h1) (by simpa using h2) hk
noncomputable def start (N:List Str) (vs:List V):St:=vs.map some ++ List.replicate (N.length - vs.length) none
noncomputable def wW (CX:CXT) (P:Program) (w:World) (K:PySem.W.Frag) (mg:Str→Option Value) (base:Heap) (N:List Str) (qual:Str) (scope:Scope) (f:Addr) (cd:Value) (A:Around) (outer:List Env) (s:Shared) (H:Hp) (E:XK):Cx where
 prog:=P
 w:=w
 K:=K
 mg:=mg
 base:=base
 A:=A.deeper (envOfC qual scope s.heap.objs.size f cd)
 N:=N
 s₀:=s
 H₀:=H
 env:=envOfC qual scope s.heap.objs.size f cd
 outer:=outer
 stack:=envOfC qual scope s.heap.objs.size f cd :: outer
 ex:=[]
 calm:=true
 fn:=fun _=>true
 pn:=[]
 xe:=fun e s'=>wpAny (model P w) (A.deeper (envOfC qual scope s.heap.objs.size f cd)) (leaving (envOfC qual scope s.heap.objs.size f cd) e) (fun _ s''=>CX outer H s E e s'') (fun e' s''=>CX outer H s E e' s'') s'
theorem wX {sc:Scope} {n:Nat} {x:Str} (h:sc.names.lookup x=some .cell):∃ c,(cellsFrom n sc.names []).lookup x=some c:=by
 have q:=PySem.W.cellsFrom_some sc.names n [] (.inl h)
 exact Option.isSome_iff_exists.mp q
theorem AV {CX:CXT} {P:Program} {w:World} {K:PySem.W.Frag} {mg:Str→Option Value} {base:Heap} {N ps:List Str} {qual:Str} {scope:Scope} {f:Addr} {cd:Value} {A:Around} {outer:List Env} {s s1:Shared} {H:Hp} {E:XK} {us:List Value} {vs:List V}
   (S:bj N ps scope) (hd:A.handled=none) (e0:yu P w K mg base A outer s H) (hl:vs.length=ps.length) (r:Vals vs us)
   (x:InCallC s s.heap.objs.size (bindL (envOfC qual scope s.heap.objs.size f cd).kindOf (ps.zip us) fun _=>none) (cellsFrom (s.heap.objs.size + 1) scope.names []) (bindC (envOfC qual scope s.heap.objs.size f cd).kindOf (ps.zip us) fun _=>none) s1) :
   Inv (wW CX P w K mg base N qual scope f cd A outer s H E) [] (start N vs) H s1:=by
 have hpl:ps.length≤N.length:=by have:=congrArg List.length S.pre; rw [List.length_take] at this; lia
 obtain ⟨h1,tk,rfl,hk⟩:=x.done
 have noA:∀ b:Addr,b ∉ (wW CX P w K mg base N qual scope f cd A outer s H E).ex:=fun b z=>absurd (show b∈([]:List Addr) from z) (by simp)
 refine ⟨⟨e0.mod,S.kind,rfl,rfl,Nat.le_refl _,fun y z c h1 h2=>?_,fun y hy=>?_,fun y c _ h=>?_,fun _=>hd,Around.frames_deeper e0.frames,.inr ⟨rfl,rfl⟩,fun b z=>absurd z (noA b),e0.bs,e0.bsz,fun b _ _=>noA b,fun b z=>absurd z (noA b),e0.qU,e0.frf⟩,
   rfl,e0.bare,Un.kept hk,⟨_,x.toInCall.ns,fun i y v h1 h2 h3=>?_⟩,fun y c h=>⟨_,x.cell y c h⟩,e0.hok.fresh (Nat.le_refl _),fun y c h=>?_,fun p hp=>absurd (show p∈([]:List (Addr × Obj)) from hp) (by simp),e0.hok.kept hk,?_⟩
 · exact name_of_addr x.apart (PySem.mem_of_lookup h1) (PySem.mem_of_lookup h2)
 · have hy:scope.names.lookup y=some .cell∨scope.names.lookup y=some .free:=hy
   rcases hy with hy | hy
   · exact wX hy
   · exact absurd rfl (S.F6 _ (PySem.mem_of_lookup hy))
 · exact Nat.le_of_lt (x.above y c (PySem.mem_of_lookup h))
 · have hi:i < vs.length:=by
     unfold start at h2
     by_cases hi:i < vs.length
     · exact hi
     · rw [List.getElem?_append_right (by simpa using hi)] at h2
       rw [List.getElem?_replicate] at h2
       split at h2 <;> cases h2
   have ha:vs[i]?=some v:=by
     unfold start at h2
     rw [List.getElem?_append_left (by simpa using hi),List.getElem?_map] at h2
     cases e:vs[i]? with
     | none=>rw [e] at h2; cases h2
     | some a=>rw [e] at h2; cases h2; rfl
   obtain ⟨u,hu,rv⟩:=r.get ha
   have hp:ps[i]?=some y:=by
     rw [← S.pre,List.getElem?_take_of_lt (by lia)]; exact h1
   have ndP:ps.Nodup:=by rw [← S.pre]; exact S.nd.sublist (List.take_sublist _ _)
   refine ⟨u,rv,?_⟩
   rcases S.par y (List.mem_of_getElem? hp) with k | k
   · exact .inl ⟨k,uQ ndP hp hu k⟩
   · obtain ⟨c,e⟩:=wX (n:=s.heap.objs.size + 1) k
     refine .inr ⟨.inl k,c,e,?_⟩
     have q:=x.cell y c e
     rw [uR ndP hp hu (by show scope.names.lookup y≠_; rw [k]; decide)] at q
     exact q
 · exact e0.hok.fresh (Nat.le_of_lt (x.above y c (PySem.mem_of_lookup h)))
 · unfold start
   show _=N.length
   rw [List.length_append,List.length_map,List.length_replicate]
   lia
theorem Hq {CX:CXT} {P:Program} {w:World} {K:PySem.W.Frag} {mg:Str→Option Value} {base:Heap} {k:Nat} {f:Addr} {name qual:Str} {params:Arguments} {body:List Stmt} {scope:Scope} {dV kV doc pm cdv ct oc:Value} {an od:Option Addr}
   {osl:Array (Option Value)} {N ps:List Str} {sp:Sp} (lk:K.lookup f=some ⟨oc,od,.func (PySem.W.fnOf name qual params body scope dV kV doc pm an cdv ct),osl⟩) (hcd:PySem.W.codeIn K cdv qual=true) (S:bj N ps scope)
   (len:∀ vs H Q E,sp vs H Q E→vs.length=ps.length)
   (wY:∀ (A:Around) (outer:List Env) (s:Shared) (H:Hp) (vs:List V) (Q:VK) (E:XK),eZ k (A.deeper (envOfC qual scope s.heap.objs.size f cdv))→sp vs H Q E→
     ∃ t,PSs (wW CX P w K mg base N qual scope f cdv A outer s H E) body t∧t { nx:=fun _ H'=>Q .non H',rt:=Q } (start N vs) H) :
   bP P w K mg base CX (k + 1) f (PySem.W.fnOf name qual params body scope dV kV doc pm an cdv ct) ps sp:=by
 refine ⟨len,fun A outer s H args us vs Q E hr e0 hb r hsp=>?_⟩
 have hl:=len _ _ _ _ hsp
 have KX:K.In s.heap:=e0.mod.kin.keeps fun b o e=>(e0.bs b o e).1
 have lim:s.heap.NoLimit:=e0.mod.nolimit.keeps fun b o e=>(e0.bs b o e).1
 have Hr:∀ y∈ps.zip us,scope.names.lookup y.1=some .local∨(scope.names.lookup y.1=some .cell∧((cellsFrom (s.heap.objs.size + 1) scope.names []).lookup y.1).isSome=true):=fun ⟨n,v⟩ hy=>by
   rcases S.par n (List.of_mem_zip hy).1 with q | q
   · exact .inl q
   · exact .inr ⟨q,PySem.W.cellsFrom_some _ _ _ (.inl q)⟩
 refine codeAny_call_function hr.depth (KX _ _ lk) rfl S.co S.gen rfl (PySem.W.codeRec_of KX hcd) (hb _ _ _ _ ?_)
 refine wpAny_newFunctionEnv_cells S.kind Hr fun env he s1 x=>?_
 subst he
 refine ⟨lim.keeps x.toInCall.keep,codeAny_func ?_⟩
 obtain ⟨t,ht,hq⟩:=wY A outer s H vs Q E (hr.deeper _) hsp
 have I:Inv (wW CX P w K mg base N qual scope f cdv A outer s H E) [] (start N vs) H s1:=AV S hr.hd e0 hl r x
 refine wpAny_mono (ht [] s1 (start N vs) H _ I hq) (fun fl s' hs=>?_) fun e s' hs=>hs
 have fin:∀ {σ':St} {H':Hp} {v:V} {u:Value},Inv (wW CX P w K mg base N qual scope f cdv A outer s H E) [] σ' H' s'→RelV v u→Q v H'→CE outer P w H s Q u s':=
   fun {σ' H' v u} J rv q=>⟨v,H',J.os,J.bare,J.base,J.hok,rv,q⟩
 cases fl with
 | ret u=>
   obtain ⟨v,σ',H',J,rv,q⟩:=hs
   exact fin J rv q
 | next=>
   obtain ⟨σ',H',J,q⟩:=hs
   exact fin (v:=V.non) (u:=Value.none) J rfl q
 | brk=>
   obtain ⟨_,_,_,q⟩:=hs
   exact False.elim q
 | cont=>
   obtain ⟨_,_,_,q⟩:=hs
   exact False.elim q
end L2
namespace L2
open PySem PySem.Spec PyProof.Rows
section
variable {X:Cx} {x:Str} {p pos:Pos} {e:Expr} {es:List Expr} {t:TA} {id T:String} {r:List V→Hp→VK→Prop}
noncomputable def tCB (r:List V→Hp→VK→Prop) (t:TA):TE:=fun σ H Q=>t σ H fun vs H1=>r vs H1 Q
theorem cJ (hc:uN X (.builtin id) r) (hg:Gl X x) (hm:X.mg x=none) (hv:bootBuiltins x=some (.builtin id)) (ha:PA X (e :: es) t) (hn:x≠"__name__":=by decide) (hdb:(x == ("__debug__":Str))=false:=by decide)
   (he:starEach (e :: es) X.env=(false,eval e X.env) :: starEach es X.env:=by rfl) (hpl:(backTo pos (starEach es X.env)).any (·.1)=false:=by rfl):PE X (.Call (.Name x p) (e :: es) [] pos) (tCB r t):=by
 intro pins s σ H Q I h
 refine wpAny_Call_Name_kw (pI I hg hm hv ?_ hn hdb)
 exact PyProof.Rows.callWith_builtin1 (thn (ha pos pins s σ H _ I h) fun us s1 ⟨vs,H1,I1,r1,q1⟩=>hc pins s1 σ H1 vs us Q I1 r1 q1) he hpl
theorem jg (hc:uN X (.type T) r) (hg:Gl X x) (hm:X.mg x=none) (hv:bootBuiltins x=some (.type T)) (ha:PA X (e :: es) t) (hn:x≠"__name__":=by decide) (hdb:(x == ("__debug__":Str))=false:=by decide)
   (he:starEach (e :: es) X.env=(false,eval e X.env) :: starEach es X.env:=by rfl) (hpl:(backTo pos (starEach es X.env)).any (·.1)=false:=by rfl):PE X (.Call (.Name x p) (e :: es) [] pos) (tCB r t):=by
 intro pins s σ H Q I h
 refine wpAny_Call_Name_kw (pI I hg hm hv ?_ hn hdb)
 exact PyProof.Rows.callWith_type1 (thn (ha pos pins s σ H _ I h) fun us s1 ⟨vs,H1,I1,r1,q1⟩=>hc pins s1 σ H1 vs us Q I1 r1 q1) he hpl
end
end L2
namespace HT
open PySem PyProof.Rows
section
open PySem.SeqAt
open PySem.AutoSeq1 (wpAny_loadPart')
open PySem.MeetsSeq PySem.MeetsSeq2 PySem.MeetsSeq3
end
section
variable {prog:Program} {w:World} {A:Around} {E:Value→Shared→Prop} {s:Shared}
noncomputable def sIx (n d:Nat):Option Int→Nat
 | none=>d
 | some v=>if v < 0 then (v + (n:Int)).toNat else min v.toNat n
theorem rV (n d:Nat):sIx n d none=d:=rfl
theorem vy (n d k:Nat):sIx n d (some (k:Int))=min k n:=by
 show (if (k:Int) < 0 then ((k:Int) + (n:Int)).toNat else min (k:Int).toNat n)=min k n
 rw [if_neg (by lia),Int.toNat_natCast]
end
end HT
namespace L2
open PySem PySem.Spec PyProof.Rows
noncomputable abbrev TO:=St→Hp→(Option Int→Hp→Prop)→Prop
noncomputable def PO (X:Cx) (e:Option Expr) (t:TO):Prop:=
 ∀ (pins:List (Addr × Obj)) (s:Shared) (σ:St) (H:Hp) (Q:Option Int→Hp→Prop),Inv X pins σ H s→t σ H Q→
   wpAny (model X.prog X.w) X.A (evalPart e X.env) (fun u s'=>∃ o H',Inv X pins σ H' s'∧IsPart u o∧Q o H') X.xe s
noncomputable def vz:TO:=fun _ H Q=>Q none H
noncomputable def BR (t:TE):TO:=fun σ H Q=>t σ H fun x H1=>∃ i,x=.int i∧Q (some i) H1
theorem intsAre_of {ns:List Int}:∀ {us:List Value},Vals (ns.map V.int) us→IntsAre us ns:=by
 induction ns with
 | nil=>intro us r; rw [List.map_nil] at r; cases r; exact .nil
 | cons n ns ih=>
   intro us r
   rw [List.map_cons] at r
   cases r with
   | cons r1 r2=>
     obtain ⟨t,e⟩:=r1
     subst e
     exact .cons n t (ih r2)
section
variable {X:Cx} {e:Expr} {te:TE} {lo hi:Option Expr} {tl th:TO} {pos p2:Pos}
theorem gI:PO X none vz:=by
 intro pins s σ H Q I h
 rw [evalPart_none]
 exact wpAny_pure ⟨none,H,I,.none,h⟩
theorem gJ (h:PE X e te):PO X (some e) (BR te):=by
 intro pins s σ H Q I hw
 rw [evalPart_some]
 refine thn (h pins s σ H _ I hw) fun u s1 ⟨x,H1,I1,r1,q1⟩=>?_
 obtain ⟨i,rfl,q⟩:=q1
 obtain ⟨t,rfl⟩:=r1
 exact ⟨some i,H1,I1,.int i t,q⟩
noncomputable def SlR (X:Cx) (r:V→Option Int→Option Int→Hp→VK→Prop):Prop:=
 ∀ (pins:List (Addr × Obj)) (s:Shared) (σ:St) (H:Hp) (x:V) (v vl vu:Value) (lo hi:Option Int) (sl:Addr) (Q:VK),Inv X pins σ H s→RelV x v→s.heap.IsSliceOf sl vl vu .none→IsPart vl lo→IsPart vu hi→r x lo hi H Q→
   ∃ T id,typeLookup (.type T) "__getitem__"=pure (some (.builtin id))∧s.TypeIs v T∧wpAny (model X.prog X.w) X.A (getItem v (.ref sl)) (EP X pins σ Q) X.xe s
noncomputable def tSl (r:V→Option Int→Option Int→Hp→VK→Prop) (te:TE) (tl th:TO):TE:=fun σ H Q=>te σ H fun x H1=>tl σ H1 fun l H2=>th σ H2 fun u H3=>r x l u H3 Q
theorem fc {r:V→Option Int→Option Int→Hp→VK→Prop} (hr:SlR X r) (he:PE X e te) (hl:PO X lo tl) (hu:PO X hi th):PE X (.Subscript e (.Slice lo hi none p2) pos) (tSl r te tl th):=by
 intro pins s σ H Q I h
 refine Subscript_ (thn (he pins s σ H _ I h) fun v s1 ⟨x,H1,I1,r1,q1⟩=>?_)
 refine wpAny_Slice (thn (hl pins s1 σ H1 _ I1 q1) fun vl s2 ⟨l,H2,I2,pl,q2⟩=>thn (hu pins s2 σ H2 _ I2 q2) fun vu s3 ⟨u,H3,I3,pu,q3⟩=>?_)
 rw [evalPart_none]
 refine wpAny_pure ?_
 have I4:Inv X pins σ H3 { s3 with heap:=s3.heap.push { cls:=.type "slice",data:=.fields #[vl,vu,.none] } }:=I3.kept (t':=s3.toks) fun b ob q=>Heap.get?_push_of_some _ q
 obtain ⟨T,id,hT,ht,hg⟩:=hr pins { s3 with heap:=s3.heap.push { cls:=.type "slice",data:=.fields #[vl,vu,.none] } } σ H3 x v vl vu l u s3.heap.objs.size Q I4 r1 (Heap.IsSliceOf.new ..) pl pu q3
 show wpAny (model X.prog X.w) X.A (subscriptTail e (.Slice lo hi none p2) v (.ref s3.heap.objs.size)) (EP X pins σ Q) X.xe { s3 with heap:=s3.heap.push { cls:=.type "slice",data:=.fields #[vl,vu,.none] } }
 exact tail_any (ops:=[.ref s3.heap.objs.size,v]) ht hT hg (by with_unfolding_all rfl)
noncomputable def ui (xs:List V) (lo hi:Option Int):List V:=(xs.drop (HT.sIx xs.length 0 lo)).take (HT.sIx xs.length xs.length hi - HT.sIx xs.length 0 lo)
theorem wZ (xs:List V) (lo hi:Option Int):(ui xs lo hi).length≤xs.length:=by
 unfold ui
 rw [List.length_take,List.length_drop]
 lia
end
end L2
namespace L2
open PySem PySem.Spec PyProof.Rows
noncomputable def ixN (n:Nat) (i:Int):Option Nat:=if 0≤i then (if i < n then some i.toNat else none) else if -(n:Int)≤i then some (i + n).toNat else none
noncomputable def atI {α:Type} (xs:List α) (i:Int):Option α:=(ixN xs.length i).bind fun j=>xs[j]?
theorem Eg {n:Nat} {i:Int} {j:Nat} (h:ixN n i=some j):seqIndex? i n=some j∧j < n∧-(n:Int)≤i∧i < n:=by
 unfold ixN at h
 by_cases h0:0≤i
 · rw [if_pos h0] at h
   by_cases h1:i < n
   · rw [if_pos h1] at h
     have e:i.toNat=j:=Option.some.inj h
     exact ⟨by rw [seqIndex_of h0 h1,e],by lia,by lia,h1⟩
   · rw [if_neg h1] at h; cases h
 · rw [if_neg h0] at h
   by_cases h1 : -(n:Int)≤i
   · rw [if_pos h1] at h
     have e:(i + n).toNat=j:=Option.some.inj h
     exact ⟨by rw [seqIndex_neg (by lia) h1,e],by lia,h1,by lia⟩
   · rw [if_neg h1] at h; cases h
theorem zQ {α:Type} {xs:List α} {i:Int} {v:α} (h:atI xs i=some v):∃ j,seqIndex? i xs.length=some j∧xs[j]?=some v∧j < xs.length∧-(xs.length:Int)≤i∧i < xs.length:=by
 unfold atI at h
 cases e:ixN xs.length i with
 | none=>rw [e] at h; cases h
 | some j=>
   rw [e] at h
   obtain ⟨h1,h2,h3,h4⟩:=Eg e
   exact ⟨j,h1,h,h2,h3,h4⟩
theorem aG {α:Type} {xs:List α} {j:Nat} {v:α} (h:xs[j]?=some v):atI xs (j:Int)=some v:=by
 have hj:j < xs.length:=(List.getElem?_eq_some_iff.mp h).1
 have e:ixN xs.length (j:Int)=some j:=by
   unfold ixN
   rw [if_pos (by lia),if_pos (by lia)]; simp
 unfold atI; rw [e]; exact h
noncomputable def rE (b:Expr):Prop:=∀ o i,subscripted b false o i=operate [o,i] (getItem o i)
noncomputable def IxR (X:Cx) (r:R2):Prop:=
 ∀ (value slice:Expr) (pins:List (Addr × Obj)) (s:Shared) (σ:St) (H:Hp) (x y:V) (v u:Value) (Q:VK),Inv X pins σ H s→RelV x v→RelV y u→r x y H Q→
   subscripted slice false v u=operate [v,u] (getItem v u)→wpAny (model X.prog X.w) X.A (subscriptTail value slice v u) (EP X pins σ Q) X.xe s
noncomputable def MtR (X:Cx) (id:String) (r:V→List V→Hp→VK→Prop):Prop:=
 ∀ (pins:List (Addr × Obj)) (s:Shared) (σ:St) (H:Hp) (x:V) (xs:List V) (v:Value) (us:List Value) (Q:VK),Inv X pins σ H s→RelV x v→Vals xs us→r x xs H Q→
   wpAny (model X.prog X.w) X.A (call (.builtin id) (v :: us)) (EP X pins σ Q) X.xe s
section
variable {X:Cx} {a b:Expr} {ta tb:TE} {pos:Pos}
theorem a9 {r:R2} (hr:IxR X r) (ha:PE X a ta) (hb:PE X b tb) (hs:rE b):PE X (.Subscript a b pos) (tOp r ta tb):=by
 intro pins s σ H Q I h
 exact Subscript_ (FY ha hb I h fun v u s2 x y H2 I2 rx ry q=>hr a b pins s2 σ H2 x y v u Q I2 rx ry q (hs _ _))
noncomputable def Hs (K:PySem.W.Frag):R2:=fun x y H Q=>∃ p xs i v,x=.ref p∧y=.int i∧SqL K H p xs∧atI xs i=some v∧Q v H
noncomputable def F7 (K:PySem.W.Frag):R2:=fun x y H Q=>∃ p xs i v,x=.ref p∧y=.int i∧SqT K H p xs∧atI xs i=some v∧Q v H
theorem vA:IxR X (Hs X.K):=by
 intro value slice pins s σ H x y v u Q I rx ry h hs
 obtain ⟨p,xs,i,z,rfl,rfl,hq,he,q⟩:=h
 cases rx
 obtain ⟨t,rfl⟩:=ry
 obtain ⟨its,r,pl,hz⟩:=I.list hq
 obtain ⟨j,h1,h2,h3,h4,h5⟩:=zQ he
 obtain ⟨w,ew,rw'⟩:=r.get h2
 have hl:=r.length
 have hn:=vt
 have fin:EP X pins σ Q w s:=⟨z,H,I,rw',q⟩
 by_cases h0:0≤i
 · have hj:i.toNat=j:=by
     rw [seqIndex_of h0 h5] at h1
     exact Option.some.inj h1
   exact item_listR pl.isList h0 (by lia) (by rw [hj]; simpa using ew) fin hs
 · have hj:(i + (its.toArray.size:Int)).toNat=j:=by
     rw [seqIndex_neg (by lia) h4] at h1
     rw [List.size_toArray,← hl]
     exact Option.some.inj h1
   exact subscriptTail_builtinR (x:=w) pl.isList.typeIs slot_list_getitem.lookup
     (wpAny_getItem_list_neg (Q:=fun r s'=>r=w∧EP X pins σ Q r s') pl.isList (by lia) (by rw [List.size_toArray] <;> lia) (by lia) (by rw [hj]; simpa using ew) ⟨rfl,fin⟩) hs
theorem aV:IxR X (F7 X.K):=by
 intro value slice pins s σ H x y v u Q I rx ry h hs
 obtain ⟨p,xs,i,z,rfl,rfl,hq,he,q⟩:=h
 cases rx
 obtain ⟨t,rfl⟩:=ry
 obtain ⟨its,r,pl,hz⟩:=I.tuple hq
 obtain ⟨j,h1,h2,h3,h4,h5⟩:=zQ he
 obtain ⟨w,ew,rw'⟩:=r.get h2
 have hl:=r.length
 have hn:=vt
 have fin:EP X pins σ Q w s:=⟨z,H,I,rw',q⟩
 exact subscriptTail_builtinR (x:=w) pl.typeIs slot_tuple_getitem.lookup
   (getItem_tuple (j:=j) (Q:=fun r s'=>r=w∧EP X pins σ Q r s') pl (by lia) (by lia) (by rw [List.size_toArray,← hl]; exact h1) (by simpa using ew) ⟨rfl,fin⟩) hs
theorem vB (lo hi:Option Int) (n:Nat):(sliceBounds lo hi none n).1=((HT.sIx n 0 lo:Nat):Int)∧(sliceBounds lo hi none n).2.1=((HT.sIx n n hi:Nat):Int)∧(sliceBounds lo hi none n).2.2=1:=by
 refine ⟨?_,?_,rfl⟩
 · cases lo with
   | none=>simp [sliceBounds,HT.sIx]
   | some i=>
     simp only [sliceBounds,HT.sIx,Option.getD_none,show (1:Int) > 0 by decide,if_true]
     by_cases h:i < 0
     · simp only [h,if_true] <;> lia
     · simp only [h,if_false] <;> lia
 · cases hi with
   | none=>simp [sliceBounds,HT.sIx]
   | some i=>
     simp only [sliceBounds,HT.sIx,Option.getD_none,show (1:Int) > 0 by decide,if_true]
     by_cases h:i < 0
     · simp only [h,if_true] <;> lia
     · simp only [h,if_false] <;> lia
theorem uj (its:List Value) (lo hi:Option Int):slicePick its.toArray lo hi none=((its.drop (HT.sIx its.length 0 lo)).take (HT.sIx its.length its.length hi - HT.sIx its.length 0 lo)).toArray:=by
 obtain ⟨h1,h2,h3⟩:=vB lo hi its.toArray.size
 unfold slicePick
 rw [h1,h2,h3]
 simp only [sliceRange_one,pick_run,List.size_toArray] <;> rfl
noncomputable def IZ (K:PySem.W.Frag):V→Option Int→Option Int→Hp→VK→Prop:=fun x lo hi H Q=>∃ a xs,x=.ref a∧SqL K H a xs∧∀ p,H p=none→Q (.ref p) (upd H p (.lst (ui xs lo hi)))
theorem gK:SlR X (IZ X.K):=by
 intro pins s σ H x v vl vu lo hi sl Q I rx hs pl pu h
 obtain ⟨a,xs,rfl,hx,q⟩:=h
 cases rx
 obtain ⟨its,r,ht,hz⟩:=I.list hx
 have hlen:=r.length
 refine ⟨"list",_,slot_list_getitem.lookup,ht.isList.typeIs,?_⟩
 refine wpAny_getItem_list_slice ht.isList hs pl pu .none (by simp) ?_ (by rw [List.size_toArray] <;> lia)
 rw [uj,← hlen]
 refine ⟨.ref s.heap.objs.size,_,I.laid (t':=s.toks) (o:=.lst (ui xs lo hi)) (fun b ob q=>Heap.get?_push_of_some _ q) (Nat.le_refl _) ?_,rfl,q _ (I.hok.fresh (Nat.le_refl _))⟩
 exact ⟨Nat.le_trans (wZ xs lo hi) hz,_,0,(r.drop (HT.sIx xs.length 0 lo)).take (HT.sIx xs.length xs.length hi - HT.sIx xs.length 0 lo),Heap.get?_push_size _ rfl⟩
noncomputable def qx:V→Bool
 | .non=>true
 | .bl _=>true
 | .int _=>true
 | .str _=>true
 | _=>false
noncomputable def eqV:V→V→Bool
 | .non,.non=>true
 | .bl a,.bl b=>a == b
 | .bl a,.int b=>(if a then 1 else 0) == b
 | .int a,.bl b=>a == (if b then 1 else 0)
 | .int a,.int b=>a == b
 | .str a,.str b=>a == b
 | _,_=>false
theorem F8 {A:Around} {s:Shared} {y x:V} {u v:Value} (ry:RelV y u) (rx:RelV x v) (fy:qx y=true) (fx:qx x=true):SeqAt.EqAt A s u v (eqV y x):=by
 cases y with
 | non=>
   cases ry
   cases x with
   | non=>cases rx; exact SeqAt.EqAt.same _
   | bl b=>cases rx; exact SeqAt.EqAt.none_bool b
   | int b=>obtain ⟨t,rfl⟩:=rx; exact SeqAt.EqAt.none_int b t
   | str b=>obtain ⟨t,rfl⟩:=rx; exact SeqAt.EqAt.none_str b t
   | _=>exact absurd (show false=true from fx) Bool.false_ne_true
 | bl a=>
   cases ry
   cases x with
   | non=>cases rx; exact SeqAt.EqAt.bool_none a
   | bl b=>cases rx; exact SeqAt.EqAt.bool_bool a b
   | int b=>obtain ⟨t,rfl⟩:=rx; exact SeqAt.EqAt.bool_int a b t
   | str b=>obtain ⟨t,rfl⟩:=rx; exact SeqAt.EqAt.bool_str a b t
   | _=>exact absurd (show false=true from fx) Bool.false_ne_true
 | int a=>
   obtain ⟨t',rfl⟩:=ry
   cases x with
   | non=>cases rx; exact SeqAt.EqAt.int_none a t'
   | bl b=>cases rx; exact SeqAt.EqAt.int_bool a t' b
   | int b=>obtain ⟨t,rfl⟩:=rx; exact SeqAt.EqAt.int_int a t' b t
   | str b=>obtain ⟨t,rfl⟩:=rx; exact SeqAt.EqAt.int_str a t' b t
   | _=>exact absurd (show false=true from fx) Bool.false_ne_true
 | str a=>
   obtain ⟨t',rfl⟩:=ry
   cases x with
   | non=>cases rx; exact SeqAt.EqAt.str_none a t'
   | bl b=>cases rx; exact SeqAt.EqAt.str_bool a t' b
   | int b=>obtain ⟨t,rfl⟩:=rx; exact SeqAt.EqAt.str_int a t' b t
   | str b=>obtain ⟨t,rfl⟩:=rx; exact SeqAt.EqAt.str_str a t' b t
   | _=>exact absurd (show false=true from fx) Bool.false_ne_true
 | _=>exact absurd (show false=true from fy) Bool.false_ne_true
noncomputable def eqU (x:V) (u:Value):Bool:=match u with
 | .none=>eqV .non x
 | .bool b=>eqV (.bl b) x
 | .int i _=>eqV (.int i) x
 | .str z _=>eqV (.str z) x
 | _=>false
theorem BS {x y:V} {u:Value} (r:RelV y u) (f:qx y=true):eqU x u=eqV y x:=by
 cases y with
 | non=>cases r; rfl
 | bl b=>cases r; rfl
 | int i=>obtain ⟨t,rfl⟩:=r; rfl
 | str z=>obtain ⟨t,rfl⟩:=r; rfl
 | _=>exact absurd (show false=true from f) Bool.false_ne_true
theorem vC {x:V}:∀ {xs:List V} {us:List Value},Vals xs us→xs.all qx=true→us.any (eqU x)=xs.any fun y=>eqV y x
 | _,_,.nil,_=>rfl
 | y :: xs,u :: us,.cons r t,f=>by
   rw [List.all_cons,Bool.and_eq_true] at f
   rw [List.any_cons,List.any_cons,BS r f.1,vC t f.2]
theorem rW {A:Around} {s:Shared} {x:V} {v:Value} (rx:RelV x v) (fx:qx x=true):∀ {xs:List V} {us:List Value},Vals xs us→xs.all qx=true→∀ u∈us,SeqAt.EqAt A s u v (eqU x u)
 | _,_,.nil,_=>fun u hu=>by cases hu
 | y :: xs,u :: us,.cons r t,f=>fun u' hu=>by
   rw [List.all_cons,Bool.and_eq_true] at f
   rcases List.mem_cons.mp hu with rfl | hu
   · rw [BS r f.1]; exact F8 r rx f.1 fx
   · exact rW rx fx t f.2 u' hu
noncomputable def inV (x:V) (xs:List V):Bool:=xs.any fun y=>eqV y x
noncomputable def rIn (K:PySem.W.Frag) (neg:Bool):R2:=fun x y H Q=>∃ p xs,y=.ref p∧(SqL K H p xs∨SqT K H p xs)∧qx x=true∧xs.all qx=true∧Q (.bl (if neg then !inV x xs else inV x xs)) H
theorem AW:OpR X (compareOp .In) (rIn X.K false):=by
 intro pins s σ H x y v u Q I rx ry h
 obtain ⟨p,xs,rfl,hq,fx,fs,q⟩:=h
 cases ry
 rcases hq with hq | hq
 · obtain ⟨its,r,pl,hz⟩:=I.list hq
   refine SeqAt.in_listAt (eqU x) pl.isList (fun w hw=>rW rx fx r fs w (by simpa using hw)) ⟨.bl _,H,I,rfl,?_⟩
   rw [show its.toArray.any (eqU x)=its.any (eqU x) by simp,vC r fs]
   exact q
 · obtain ⟨its,r,pl,hz⟩:=I.tuple hq
   refine SeqAt.in_tupleAt (eqU x) pl (fun w hw=>rW rx fx r fs w (by simpa using hw)) ⟨.bl _,H,I,rfl,?_⟩
   rw [show its.toArray.any (eqU x)=its.any (eqU x) by simp,vC r fs]
   exact q
theorem bF:uN X (.builtin "len") (fun xs H Q=>∃ p ys,xs=[.ref p]∧(SqL X.K H p ys∨SqT X.K H p ys)∧Q (.int ys.length) H):=by
 intro pins s σ H xs us Q I r h
 obtain ⟨p,ys,rfl,hq,q⟩:=h
 obtain ⟨u,rfl,rx⟩:=vals1 r
 cases rx
 have hn:=vt
 rcases hq with hq | hq
 · obtain ⟨its,r',pl,hz⟩:=I.list hq
   have hlen:=r'.length
   exact Calls.call_len_list pl.isList (by simp only [List.size_toArray] <;> lia) ⟨.int ys.length,H,I.tok _,⟨s.toks + 1,by rw [List.size_toArray,hlen]⟩,q⟩
 · obtain ⟨its,r',pl,hz⟩:=I.tuple hq
   have hlen:=r'.length
   exact len_tuple pl (by simp only [List.size_toArray] <;> lia) ⟨.int ys.length,H,I.tok _,⟨s.toks + 1,by rw [List.size_toArray,hlen]⟩,q⟩
theorem mE:uN X (.type "tuple") (fun xs H Q=>∃ p ys,xs=[.ref p]∧((SqL X.K H p ys∧∀ l,H l=none→Q (.ref l) (upd H l (.tup ys)))∨(SqT X.K H p ys∧Q (.ref p) H))):=by
 intro pins s σ H xs us Q I r h
 obtain ⟨p,ys,rfl,h⟩:=h
 obtain ⟨u,rfl,rx⟩:=vals1 r
 cases rx
 rcases h with ⟨hq,q⟩ | ⟨hq,q⟩
 · obtain ⟨its,r',pl,hz⟩:=I.list hq
   have hlen:=r'.length
   refine call_tuple_list pl.isList (fun h' kp=>?_) (by simp only [List.size_toArray] <;> lia)
   have I1:Inv X pins σ H { s with heap:=h' }:=I.kept (t':=s.toks) kp
   have I2:Inv X pins σ (upd H h'.objs.size (.tup ys)) { s with heap:=h'.push { cls:=.type "tuple",data:=.seq its.toArray } }:=
     I1.laid (t':=s.toks) (fun b o e=>Heap.get?_push_of_some _ e) (Nat.le_refl _) (show dH X.prog X.w _ _ _ (.tup ys) from ⟨hz,its,r',IsTup.new _ _⟩)
   exact ⟨.ref h'.objs.size,_,I2,rfl,q _ (I1.hok.fresh (Nat.le_refl _))⟩
 · obtain ⟨its,r',pl,hz⟩:=I.tuple hq
   exact call_tuple_same pl ⟨.ref p,H,I,rfl,q⟩
noncomputable def tyV (K:PySem.W.Frag) (T:String) (x:V) (H:Hp):Prop:=match x with
 | .str _=>T = "str"
 | .int _=>T = "int"
 | .ref p=>(T = "list"∧∃ xs,SqL K H p xs)∨(T = "tuple"∧∃ o,K.lookup p=some o∧o.cls=.type "tuple"∧o.dict=none)∨
     (T = "dict"∧((∃ kvs,H p=some (.dK kvs))∨∃ kvs,H p=some (.dT kvs)))∨(T = "set"∧∃ S n,H p=some (.set S n))
 | _=>False
theorem F9 {pins:List (Addr × Obj)} {σ:St} {H:Hp} {s:Shared} {T:String} {x:V} {v:Value} (I:Inv X pins σ H s) (r:RelV x v) (ty:tyV X.K T x H) :
   s.TypeIs v T∧∀ a,v=.ref a→∃ ob,s.heap.get? a=some ob∧ob.dict=none:=by
 cases x with
 | str z=>
   obtain ⟨t,rfl⟩:=r
   cases (show T = "str" from ty)
   exact ⟨typeIs_str s z t,fun _ e=>nomatch e⟩
 | int i=>
   obtain ⟨t,rfl⟩:=r
   cases (show T = "int" from ty)
   exact ⟨typeIs_int s i t,fun _ e=>nomatch e⟩
 | ref p=>
   cases r
   rcases ty with ⟨rfl,xs,hq⟩ | ⟨rfl,o,hk,hc,hd⟩ | ⟨rfl,hk⟩ | ⟨rfl,S,n,hk⟩
   · obtain ⟨its,_,pl,_⟩:=I.list hq
     refine ⟨pl.isList.typeIs,fun a e=>?_⟩
     cases e
     obtain ⟨o,n,e,c,hd,_⟩:=pl
     exact ⟨o,e,hd⟩
   · refine ⟨⟨o,I.kIn p o hk,hc⟩,fun a e=>?_⟩
     cases e
     exact ⟨o,I.kIn _ o hk,hd⟩
   · have z:∃ o,s.heap.get? p=some o∧o.ExactDict:=by
       rcases hk with ⟨kvs,hk⟩ | ⟨kvs,hk⟩
       · obtain ⟨_,_,_,_,o,_,_,e,ex,_⟩:=I.hok p _ hk
         exact ⟨o,e,ex⟩
       · obtain ⟨_,_,_,_,o,_,_,e,ex,_⟩:=I.hok p _ hk
         exact ⟨o,e,ex⟩
     obtain ⟨o,e,ex⟩:=z
     refine ⟨⟨o,e,ex.1⟩,fun a e2=>?_⟩
     cases e2
     exact ⟨o,e,ex.2.1⟩
   · obtain ⟨o,_,_,_,e,ex,_⟩:=I.hok p _ hk
     refine ⟨⟨o,e,ex.1⟩,fun a e2=>?_⟩
     cases e2
     exact ⟨o,e,ex.2.1⟩
 | _=>exact False.elim ty
noncomputable def Ht (K:PySem.W.Frag) (T:String) (r:V→List V→Hp→VK→Prop) (to:TE):TE:=fun σ H Q=>to σ H fun x H1=>tyV K T x H1∧r x [] H1 Q
noncomputable def tBM (K:PySem.W.Frag) (T:String) (r:V→List V→Hp→VK→Prop) (to:TE) (t:TA):TE:=fun σ H Q=>to σ H fun x H1=>tyV K T x H1∧t σ H1 fun xs H2=>r x xs H2 Q
variable {o e:Expr} {es:List Expr} {to:TE} {t:TA} {name:Str} {apos jx:Pos} {T id:String} {r:V→List V→Hp→VK→Prop}
theorem kK (pa:PlainAttrs T) (slot:Slot T name id) (hty:typeOf (.builtin id)=pure (.type "method_descriptor")) (hm:MtR X id r) (ho:PE X o to) (ha:PA X (e :: es) t)
   (Hu:attributeBase o name X.env (eval o X.env)=eval o X.env:=by rfl)
   (I0:((backTo jx (starEach (e :: es) X.env)).all (fun x=>!x.1) && (backToKw jx (keywordEach [] X.env)).all (fun x=>x.1.isSome)
     && decide ((e :: es).length + ([]:List Keyword).length + (if ([]:List Keyword).isEmpty then 0 else 1) < 30))=true:=by rfl)
   (Hv:(apos.endLine == jx.line)=true:=by rfl) (hs:starEach (e :: es) X.env=(false,eval e X.env) :: starEach es X.env:=by rfl) (Ga:(backTo jx (starEach es X.env)).any (·.1)=false:=by rfl) :
   PE X (.Call (.Attribute o name apos) (e :: es) [] jx) (tBM X.K T r to t):=by
 intro pins s σ H Q I h
 refine wpAny_Call_method_late Hu I0 Hv rfl (thn (ho pins s σ H _ I h) fun v s1 ⟨x,H1,I1,r1,ty,q1⟩=>?_)
 obtain ⟨h1,h2⟩:=F9 I1 r1 ty
 refine ⟨T,id,pa,slot,hty,h1,h2,?_⟩
 have hA:=ha jx pins s1 σ H1 _ I1 q1
 rw [hs] at hA ⊢
 refine Calls.callWith_builtin (by show (false || (backTo jx (starEach es X.env)).any (·.1))=false; rw [Ga] <;> rfl) (Calls.evalArgs_plain ?_)
 exact thn hA fun us s2 ⟨vs,H2,I2,r2,q2⟩=>hm pins s2 σ H2 x vs v us Q I2 r1 r2 q2
end
end L2
namespace L2
open PySem PySem.Spec PyProof.Rows
noncomputable def MtM (X:Cx) (id:String) (r:V→List V→Hp→VK→Prop):Prop:=
 ∀ (pins:List (Addr × Obj)) (s:Shared) (σ:St) (H:Hp) (x:V) (xs:List V) (v:Value) (us:List Value) (Q:VK),Inv X pins σ H s→RelV x v→Vals xs us→r x xs H Q→
   wpAny (model X.prog X.w) X.A (call (.builtin id) (v :: us)) (EP X pins σ Q) X.xe s
theorem Vals.one:∀ {x:V} {us:List Value},Vals [x] us→∃ u,us=[u]∧RelV x u
 | _,_,.cons r .nil=>⟨_,rfl,r⟩
theorem Vals.dropLast {xs:List V} {us:List Value} (h:Vals xs us):Vals xs.dropLast us.dropLast:=by
 induction h with
 | nil=>exact .nil
 | cons r t ih=>
   cases t with
   | nil=>exact .nil
   | cons q t'=>exact .cons r ih
theorem Vals.reverse {xs:List V} {us:List Value} (h:Vals xs us):Vals xs.reverse us.reverse:=by
 induction h with
 | nil=>exact .nil
 | cons r t ih=>rw [List.reverse_cons,List.reverse_cons]; exact Vals.append ih (.cons r .nil)
theorem Vals.rep {xs:List V} {us:List Value} (h:Vals xs us):∀ k:Nat,Vals (List.replicate k xs).flatten (List.replicate k us).flatten
 | 0=>.nil
 | k + 1=>by
   rw [List.replicate_succ,List.replicate_succ,List.flatten_cons,List.flatten_cons]
   exact Vals.append h (Vals.rep h k)
theorem foldl_rep (its:List Value):∀ (k:Nat) (acc:List Value),
   List.foldl (fun x1 x2=>x1 ++ x2) acc.toArray (List.replicate k its.toArray)=(acc ++ (List.replicate k its).flatten).toArray
 | 0,acc=>by simp
 | k + 1,acc=>by
   have e:acc.toArray ++ its.toArray=(acc ++ its).toArray:=by simp
   have e2:(acc ++ its) ++ (List.replicate k its).flatten=acc ++ (List.replicate (k + 1) its).flatten:=by
     rw [List.replicate_succ,List.flatten_cons,List.append_assoc]
   rw [← e2,← foldl_rep its k (acc ++ its),← e,List.replicate_succ,List.foldl_cons]
section
variable {X:Cx} {pins:List (Addr × Obj)} {σ:St} {H:Hp} {s:Shared} {l b:Addr} {xs ys zs:List V}
theorem Inv.Hw {its its':List Value} {n:Nat} {f:Array Value→Array Value} {t':Nat} (I:Inv X pins σ H s) (hH:H l=some (.lst xs))
   (e:s.heap.get? l=some { cls:=.type "list",data:=.seq its.toArray n }) (hf:f its.toArray=its'.toArray) (hv:Vals ys its') (hz:ys.length≤sizeLine) :
   Inv X pins σ (upd H l (.lst ys)) { s with heap:=s.heap.update l (Obj.mapSeq f),toks:=t' }:=by
 have q:=PySem.IsL.update e f
 rw [hf] at q
 refine I.write (x:=l) (e:=l) (by rw [hH]; exact trivial) (.inl rfl) (fun b' u hb hu=>(Heap.get?_update_other s.heap (Obj.mapSeq f) (Ne.symm hb)).trans hu) ⟨_,q⟩ ?_
 exact ⟨hz,its',_,hv,q⟩
theorem Inv.Hz {its:List Value} {t':Nat} (I:Inv X pins σ H s) (hv:Vals ys its) (hz:ys.length≤sizeLine) :
   Inv X pins σ (upd H s.heap.objs.size (.lst ys)) { s with heap:=s.heap.push { cls:=.type "list",data:=.seq its.toArray },toks:=t' }:=
 I.laid (fun _ _ q=>Heap.get?_push_of_some _ q) (Nat.le_refl _) ⟨hz,its,0,hv,Heap.get?_push_size _ rfl⟩
theorem Inv.fresh (I:Inv X pins σ H s):H s.heap.objs.size=none:=I.hok.fresh (Nat.le_refl _)
theorem Inv.AX (I:Inv X pins σ H s) (hH:H l=some (.lst xs)):xs.length≤sizeLine∧∃ (its:List Value) (n:Nat),Vals xs its∧xs.length=its.length∧s.heap.get? l=some { cls:=.type "list",data:=.seq its.toArray n }:=by
 obtain ⟨z,its,n,r,e⟩:=I.hok l _ hH
 exact ⟨z,its,n,r,r.length,e⟩
theorem w8 {n:Nat} (h:n≤sizeLine):Builtin.List.listTooLong n=false:=by
 unfold Builtin.List.listTooLong
 exact decide_eq_false (by lia)
end
section
variable {X:Cx}
noncomputable def Eh:V→List V→Hp→VK→Prop:=fun x vs H Q=>∃ l xs y,x=.ref l∧vs=[y]∧H l=some (.lst xs)∧xs.length < sizeLine∧Q .non (upd H l (.lst (xs ++ [y])))
theorem dD:MtM X "list.append" Eh:=by
 intro pins s σ H x vs v us Q I rx rv h
 obtain ⟨l,xs,y,rfl,rfl,hH,hz,q⟩:=h
 cases rx
 obtain ⟨u,rfl,ru⟩:=rv.one
 obtain ⟨z,its,n,r,hl,e⟩:=I.AX hH
 refine call_meets F.slot_list_append ⟨_,e,rfl⟩ F.entry_list_append (F.args_list_append_2 _ _) (PySem.list_append l its.toArray n u (by rw [List.size_toArray]; lia)) ⟨e,?_⟩
 refine ⟨.non,_,I.Hw (its':=its ++ [u]) hH e (by simp) (r.append (.cons ru .nil)) ?_,rfl,q⟩
 rw [List.length_append,List.length_singleton]
 lia
noncomputable def Ei:V→List V→Hp→VK→Prop:=fun x vs H Q=>∃ l b xs zs,x=.ref l∧vs=[.ref b]∧H l=some (.lst xs)∧H b=some (.lst zs)∧xs.length + zs.length≤sizeLine∧Q .non (upd H l (.lst (xs ++ zs)))
theorem uS:MtM X "list.extend" Ei:=by
 intro pins s σ H x vs v us Q I rx rv h
 obtain ⟨l,b,xs,zs,rfl,rfl,hH,hB,hz,q⟩:=h
 cases rx
 obtain ⟨u,rfl,ru⟩:=rv.one
 cases ru
 obtain ⟨z,its,n,r,hl,e⟩:=I.AX hH
 obtain ⟨z2,rX,n2,r2,hl2,e2⟩:=I.AX hB
 have hsz:its.toArray.size + rX.toArray.size≤sizeLine:=by rw [List.size_toArray,List.size_toArray]; lia
 have BU:¬ (!its.toArray.isEmpty && Builtin.List.listTooLong (its.toArray.size + rX.toArray.size))=true:=by
   rw [w8 hsz,Bool.and_false]
   exact Bool.false_ne_true
 refine call_meets F.slot_list_extend ⟨_,e,rfl⟩ F.entry_list_extend (F.args_list_extend_2 _ _)
   (AutoSeq1.list_extend_list_list_0 l its.toArray n b rX.toArray n2 BU (by rw [List.size_toArray]; lia) (by lia)) ⟨e,e2,?_⟩
 refine ⟨.non,_,I.Hw (its':=its ++ rX) hH e (by simp) (r.append r2) ?_,rfl,q⟩
 rw [List.length_append]
 lia
noncomputable def Ja:R2:=fun x y H Q=>∃ l b xs zs,x=.ref l∧y=.ref b∧H l=some (.lst xs)∧H b=some (.lst zs)∧xs.length + zs.length≤sizeLine∧∀ p,H p=none→Q (.ref p) (upd H p (.lst (xs ++ zs)))
theorem fC:OpR X (binaryOp .Add) Ja:=by
 intro pins s σ H x y v u Q I rx ry h
 obtain ⟨l,b,xs,zs,rfl,rfl,hH,hB,hz,q⟩:=h
 cases rx
 cases ry
 obtain ⟨z,its,n,r,hl,e⟩:=I.AX hH
 obtain ⟨z2,rX,n2,r2,hl2,e2⟩:=I.AX hB
 refine PySem.P.add_list e e2 ?_ (by rw [List.size_toArray,List.size_toArray]; lia)
 have ea:its.toArray ++ rX.toArray=(its ++ rX).toArray:=by simp
 rw [ea]
 exact ⟨.ref _,_,I.Hz (t':=s.toks) (r.append r2) (by rw [List.length_append]; lia),rfl,q _ I.fresh⟩
noncomputable def Jb:R2:=fun x y H Q=>∃ l k xs,x=.ref l∧y=.int k∧H l=some (.lst xs)∧-(2 ^ 63)≤k∧k < 2 ^ 63∧xs.length * k.toNat≤sizeLine∧
 ∀ p,H p=none→Q (.ref p) (upd H p (.lst (List.replicate k.toNat xs).flatten))
theorem len_rep {α:Type} (xs:List α) (k:Nat):(List.replicate k xs).flatten.length=k * xs.length:=by
 induction k with
 | zero=>simp
 | succ k ih=>rw [List.replicate_succ,List.flatten_cons,List.length_append,ih,Nat.succ_mul,Nat.add_comm]
theorem pK:OpR X (binaryOp .Mult) Jb:=by
 intro pins s σ H x y v u Q I rx ry h
 obtain ⟨l,k,xs,rfl,rfl,hH,h1,h2,hz,q⟩:=h
 cases rx
 obtain ⟨t,rfl⟩:=ry
 obtain ⟨z,its,n,r,hl,e⟩:=I.AX hH
 have hlen:its.toArray.size * k.toNat≤sizeLine:=by rw [List.size_toArray,← hl]; exact hz
 have Jc:¬ its.toArray.size * k.toNat > (2 ^ 63 - 1) / 8:=by
   have:(sizeLine:Nat)≤(2 ^ 63 - 1) / 8:=by decide
   lia
 have Jd:¬ (!Builtin.List.listFitsIndex k)=true:=by
   rw [fitsIndex_both h1 h2]
   exact Bool.false_ne_true
 have BU:¬ Builtin.List.listTooLong (its.toArray.size * k.toNat)=true:=by
   rw [w8 hlen]
   exact Bool.false_ne_true
 have vD:List.foldl (fun x1 x2=>x1 ++ x2) #[] (List.replicate (if its.toArray.isEmpty=true then 0 else k.toNat) its.toArray)=(List.replicate k.toNat its).flatten.toArray:=by
   have f0:∀ m:Nat,List.foldl (fun x1 x2=>x1 ++ x2) #[] (List.replicate m its.toArray)=(List.replicate m its).flatten.toArray:=fun m=>by
     have:=foldl_rep its m []
     rw [List.nil_append] at this
     exact this
   rw [f0]
   cases its with
   | nil=>simp
   | cons a r'=>rw [if_neg (by simp)]
 refine wpAny_binaryOp_repeat_ref (T:="list") (U:="int") (by decide) ⟨_,e,rfl⟩ (fun s'=>typeIs_int s' k t) noFill_list_mul F.fills_int_mul F.slot_int_rmul repeat_list F.slot_int_index.lookup
   (call_meets F.slot_int_rmul (typeIs_int s k t) F.entry_int_rmul (F.args_int_rmul_2 _ _) (int___rmul___int_list k t l its.toArray n)
     ⟨e,rfl,⟨_,e,rfl⟩,call_meets F.slot_list_mul ⟨_,e,rfl⟩ F.entry_list_mul (F.args_list_mul_2 _ _) (AutoListH.list___mul___list_int_3 l its.toArray n k t Jd Jc BU) ⟨e,?_⟩⟩)
 rw [vD]
 exact ⟨.ref _,_,I.Hz (t':=s.toks) (r.rep k.toNat) (by rw [len_rep,Nat.mul_comm]; exact hz),rfl,q _ I.fresh⟩
end
section
variable {prog:Program} {w:World} {A:Around} {E:Value→Shared→Prop} {s:Shared}
end
section
variable {X:Cx}
end
end L2
namespace Att
open PySem PySem.W PySem.Calls PyProof.Rows
theorem qV {P:Params} {h:Heap}:∀ (ns:List Int) (vs:List Value),WellAll P h vs (ns.map WData.int)→IntsAre vs ns:=by
 intro ns
 induction ns with
 | nil=>
   intro vs w
   rw [List.map_nil] at w
   cases w
   exact .nil
 | cons n ns ih=>
   intro vs w
   rw [List.map_cons] at w
   cases w with
   | cons a b=>
     cases a
     exact .cons _ _ (ih _ b)
theorem AY {l:OpenLaw} {n:Nat} (hn:l.most=some n) {P:Params} {h:Heap} {args:List WData} {vals:List Value}
   (Ej:l.row.toRowW.claim.pre args=true) (hwl:WellAll P h vals args) :
   ∃ a vs ns,vals=[Value.ref a]∧args=[WData.list (ns.map WData.int)]∧h.get? a=some { cls:=.type "list",data:=.seq vs.toArray }∧IntsAre vs ns∧ns.length≤n:=by
 have hsh:WShape.hasAll [] args [.list .int]=true:=(pre_splitW Ej).1
 have hc:l.pre.holds [] { args:=args }=true:=(pre_splitW Ej).2
 obtain ⟨d,r,rfl,h1,h2⟩:=hasAllW_cons hsh
 obtain rfl:=hasAllW_nil h2
 obtain ⟨xs,rfl,h3⟩:=hasW_list h1
 obtain ⟨ns,rfl⟩:=items_int h3
 have hlen:ns.length≤n:=by
   unfold OpenLaw.pre at hc
   have h4:(WTm.not (.lt (.lit (.int (n:Int))) (.len (.arg 0)))).holds [] { args:=[.list (ns.map .int)] }=true:=by
     have h4:=(holds_andW hc).1
     rw [hn] at h4
     exact h4
   have h5:=condW_of h4 (w_not (w_lt w_lit (w_len_list (w_arg rfl))))
   rw [List.length_map] at h5
   refine Nat.le_of_not_lt fun q=>?_
   have q':(n:Int) < ((ns.length:Nat):Int):=by lia
   first
     | (rw [decide_eq_true q'] at h5; exact absurd h5 (by decide))
     | (simp at h5; lia)
 cases hwl with
 | cons w1 w2=>
   cases w2
   cases w1 with
   | list ho Je=>exact ⟨_,_,ns,rfl,rfl,ho,qV ns _ Je,hlen⟩
theorem AZ (l:OpenLaw) (args:List WData):l.row.toRowW.claim.post args (.bool true) args=true:=
 postW_of (r:=l.row.toRowW) (X:=(true == true))
   (show WShape.has [] (.bool true) .bool=true by first | rfl | decide | simp [WShape.has,WShape.arms,WShape.armsAll])
   (show (WTm.eq .res (.lit (.bool true))).value [] { args:=args,res:=some (.bool true),after:=args }=some (.bool (true == true)) from w_eq_bool (w_res rfl) w_lit) rfl
theorem w9 {l:OpenLaw} {n:Nat} {q:Program} {loose:List Str} {XP:(Str→Option Value)→Heap→Prop} {YP:World→Heap→Prop} {d:DefRec}
   (hn:l.most=some n) (hdf:d.params.defaults=[])
   (call:∀ (w:World) (s₀ s₁:Shared) (mg mb:Str→Option Value) (fa:Addr) (o:Obj) (pm cd doc:Value) (a:Addr) (vs:List Value) (ns:List Int),
     Ground q loose [] XP w s₀ mg mb s₁.heap→YP w s₁.heap→
     s₁.heap.get? fa=some o→o.data=.func (docDef d.name d.params d.body d.scope pm cd doc)→s₁.heap.CodeRec cd d.name→mg d.name=some (.ref fa)→
     s₁.heap.get? a=some { cls:=.type "list",data:=.seq vs.toArray }→IntsAre vs ns→ns.length≤n→s₁.gens = #[]→
     codeAny (model l.prog w) callerA (.call (.ref fa) ⟨[.ref a],[]⟩) (fun r s'=>r=.ok (.ret (.bool true))∧OldK s₁.heap s'.heap∧s'.os=s₁.os∧AllBare s'.gens) s₁) :
   WalkO q loose XP YP l.row.toRowW d [] (fun f vs=>PySem.call f vs):=by
 intro w s₀ s₁ mg mb G Y fa o pm cd doc dV kV ho hd hcd hD hmg hg args vals as Ej JO hrd hwl hlo
 obtain rfl:dV=.none:=Dflts.none hD hdf
 obtain rfl:kV=.none:=Dflts.noKw hD
 obtain ⟨a,vs,ns,rfl,rfl,Gb,hints,hlen⟩:=AY hn Ej hwl
 refine enter_call (codeAny_mono (call w s₀ s₁ mg mb fa o pm cd doc a vs ns G Y ho (fd_plain hd) hcd hmg Gb hints hlen hg) fun r s' hq=>?_)
 obtain ⟨rfl,h2,h3,h4⟩:=hq
 exact ⟨.inl ⟨.bool true,.bool true,[],rfl,fun _=>rfl,.bool true,AZ l _,fun _=>⟨List.Pairwise.nil,fun _ hm=>(nomatch hm)⟩⟩,h2,h3,h4⟩
section
variable {prog:Program} {w:World} {A:Around} {E:Value→Shared→Prop} {s:Shared} {K:Frag}
noncomputable def ledger (h:Heap) (L d:Addr):List (Addr × Obj):=(List.range h.objs.size).filterMap fun a=>if a=L∨a=d then none else (h.get? a).map fun o=>(a,o)
end
end Att
namespace L2
open PySem PySem.Spec PyProof.Rows
theorem uT:∀ {vs:List Value} {ns:List Int},IntsAre vs ns→Vals (ns.map V.int) vs
 | _,_,.nil=>.nil
 | _,_,.cons n t h=>.cons ⟨t,rfl⟩ (uT h)
noncomputable def Gd (H:Hp):Prop:=∀ b,H b=none∨∃ o xs,H b=some (.frz o (.lst xs))
theorem BV {P:Program} {w:World} {K:PySem.W.Frag} {mg mb:Str→Option Value} {CX:CXT} {k:Nat} {fa a:Addr} {fd:FuncData} {x:Str} {sp:Sp} {s₁:Shared} {vs:List Value} {ns:List Int}
   (KX:K.In s₁.heap) (hns:s₁.heap.Ns mainGlobals mg) (hb:s₁.heap.Ns builtinsNs mb) (hbb:∀ x:Str,x≠"__name__"→mb x=bootBuiltins x) (Jf:s₁.heap.NoLimit) (hg:s₁.gens = #[])
   (ha:s₁.heap.get? a=some { cls:=.type "list",data:=.seq vs.toArray }) (hi:IntsAre vs ns) (hl:ns.length≤sizeLine) (hr:eZ k callerA)
   (F:∀ base:Heap,K.In base→base.Ns mainGlobals mg→bP P w K mg base CX k fa fd [x] sp) (HA:∀ (s:Shared) (u:Value),BindsTo s fd ⟨[u],[]⟩ [(x,u)])
   (hsp:∀ H:Hp,Gd H→SqL K H a (ns.map V.int)→sp [.ref a] H (fun v _=>v=.bl true) fun _ _ _=>False)
   (hCX:∀ H e s',CX [] H s₁ (fun _ _ _=>False) e s'→False) :
   codeAny (model P w) callerA (.call (.ref fa) ⟨[.ref a],[]⟩) (fun r s'=>r=.ok (.ret (.bool true))∧OldK s₁.heap s'.heap∧s'.os=s₁.os∧AllBare s'.gens) s₁:=by
 have rv:=uT hi
 have Jg:=hi.length
 have core:∀ H:Hp,Gd H→SqL K H a (ns.map V.int)→HOk P w H s₁.heap→(∀ b,H b≠none→b=a)→(H a≠none→K.lookup a=none)→
     codeAny (model P w) callerA (.call (.ref fa) ⟨[.ref a],[]⟩) (fun r s'=>r=.ok (.ret (.bool true))∧OldK s₁.heap s'.heap∧s'.os=s₁.os∧AllBare s'.gens) s₁:=by
   intro H hO hS hok hA hK
   have zR:∀ {b:Addr} {o:Obj},s₁.heap.get? b=some o→H b=none→(vo s₁.heap H).get? b=some o:=fun e n=>By e n
   have noA:∀ {b:Addr} {o:Obj} {es:Array DictEntry} {ep:Nat},s₁.heap.get? b=some o→o.data=.dict es ep→H b=none:=fun {b o es ep} e d=>by
     cases q:H b with
     | none=>rfl
     | some u=>
       have e':b=a:=hA b (by rw [q]; simp)
       subst e'
       rw [ha] at e; cases e
       have d':Data.seq vs.toArray _=Data.dict es ep:=d
       cases d'
   have nsK:∀ {b:Addr} {m:Str→Option Value},s₁.heap.Ns b m→(vo s₁.heap H).Ns b m:=fun {b m} ⟨o,es,ep,e,d,r⟩=>⟨o,es,ep,zR e (noA e d),d,r⟩
   have hKb:K.In (vo s₁.heap H):=fun b o e=>zR (KX b o e) (by
     cases q:H b with
     | none=>rfl
     | some u=>
       have e':b=a:=hA b (by rw [q]; simp)
       subst e'
       rw [hK (by rw [q]; simp)] at e; cases e)
   have hM:Mod K mg (vo s₁.heap H):=⟨hKb,nsK hns,⟨mb,nsK hb,hbb⟩,let ⟨mc,h1,h2⟩:=Jf; ⟨mc,nsK h1,h2⟩⟩
   have e0:yu P w K mg (vo s₁.heap H) callerA [] s₁ H:=⟨rfl,hM,fun b o e=>DY e,Nat.le_of_eq (AL _ _),trivial,fun b hb=>absurd (show b∈([]:List Addr) from hb) (by simp),hok,.of_eq hg⟩
   refine codeAny_mono ((F _ hKb (nsK hns)).run callerA [] s₁ H ⟨[.ref a],[]⟩ [.ref a] [.ref a] _ _ hr e0 (HA s₁ (.ref a)) (.cons rfl .nil) (hsp H hO hS)) fun r s' h=>?_
   cases r with
   | error e=>exact (hCX H e s' h).elim
   | ok fl=>
     cases fl with
     | next=>exact False.elim h
     | brk=>exact False.elim h
     | cont=>exact False.elim h
     | ret u=>
       obtain ⟨v,H',os,bare,un,Jh,r',q⟩:=h
       have q':v=.bl true:=q
       subst q'
       obtain rfl:u=Value.bool true:=r'
       refine ⟨rfl,OldK.of_keep fun b o e=>?_,os,bare⟩
       cases q:H b with
       | none=>exact un.keep b o e q (by intro z; exact absurd (show b∈([]:List Addr) from z) (by simp)) (by simp)
       | some u=>
         rcases hO b with z | ⟨ob,xs,z⟩
         · rw [q] at z; cases z
         · have z2:=un.ug b ob _ z
           obtain ⟨e1,_⟩:=hok b _ z
           obtain ⟨e2,_⟩:=Jh b _ z2
           rw [e] at e1; cases e1
           exact e2
 cases hk:K.lookup a with
 | some o=>
   have e:=KX a o hk
   rw [ha] at e
   cases e
   refine core (fun _=>none) (fun _=>.inl rfl) (.inr ⟨_,vs.toArray,_,hk,rfl,rfl,rfl,by rw [List.size_toArray,Jg]; exact hl,by simpa using rv⟩) (fun b u z=>by have z':(none:Option HO)=some u:=z; cases z') (fun b z=>absurd rfl z) fun z=>absurd rfl z
 | none=>
   refine core (fun b=>if b=a then some (.frz { cls:=.type "list",data:=.seq vs.toArray } (.lst (ns.map V.int))) else none) (fun b=>?_) (.inl (.inr ⟨{ cls:=.type "list",data:=.seq vs.toArray },if_pos rfl⟩)) (fun b u z=>?_) (fun b z=>?_) fun _=>hk
   · by_cases hb:b=a
     · exact .inr ⟨_,_,if_pos hb⟩
     · exact .inl (if_neg hb)
   · by_cases hb:b=a
     · have z':=(if_pos hb).symm.trans z
       cases z'
       subst hb
       exact ⟨ha,by rw [List.length_map]; exact hl,vs,_,rv,ha⟩
     · have z':=(if_neg hb).symm.trans z
       cases z'
   · by_cases hb:b=a
     · exact hb
     · exact absurd (if_neg hb) z
end L2
namespace L2
open PySem PySem.Spec PyProof.Rows
noncomputable abbrev KOf {K:PySem.W.Frag} {h:Heap} (_:K.In h):PySem.W.Frag:=K
theorem Ek {l:PySem.W.OpenLaw} {n k:Nat} {q:Program} {loose:List Str} {XP:(Str→Option Value)→Heap→Prop} {YP:World→Heap→Prop} {d:DefRec} {K:Params→PySem.W.Frag} {CX:World→CXT} {sp:World→Sp} {x:Str}
   (hn:l.most=some n) (hn2:n≤sizeLine) (hdf:d.params.defaults=[]) (hr:eZ k callerA)
   (hY:∀ (w:World) (h:Heap),YP w h→(K w.params).In h)
   (F:∀ (w:World) (mg:Str→Option Value) (fa:Addr) (h:Heap),(K w.params).In h→h.Ns mainGlobals mg→mg d.name=some (.ref fa)→
     ∃ fd:FuncData,(∀ (s:Shared) (u:Value),BindsTo s fd ⟨[u],[]⟩ [(x,u)])∧
       ∀ base:Heap,(K w.params).In base→base.Ns mainGlobals mg→bP l.prog w (K w.params) mg base (CX w) k fa fd [x] (sp w))
   (hsp:∀ (w:World) (H:Hp) (a:Addr) (ns:List Int),ns.length≤n→Gd H→SqL (K w.params) H a (ns.map V.int)→sp w [.ref a] H (fun v _=>v=.bl true) fun _ _ _=>False)
   (hCX:∀ (w:World) (H:Hp) (s:Shared) (e:Value) (s':Shared),CX w [] H s (fun _ _ _=>False) e s'→False) :
   PySem.W.WalkO q loose XP YP l.row.toRowW d [] (fun f vs=>PySem.call f vs):=by
 refine Att.w9 hn hdf fun w s₀ s₁ mg mb fa o pm cd doc a vs ns G Y ho hd hcd hmg Gb hints hlen hg=>?_
 have KX:=hY w _ Y
 obtain ⟨fd,hb,hF⟩:=F w mg fa _ KX G.T.g hmg
 exact BV KX G.T.g G.T.b G.T.builtins G.T.nolimit hg Gb hints (Nat.le_trans hlen hn2) hr hF hb (fun H hO hS=>hsp w H a ns hlen hO hS) fun H e s'=>hCX w H s₁ e s'
end L2
namespace L2
open PySem PySem.Spec PyProof.Rows
noncomputable def inClass (s:Stmt) (j:Nat):Stmt:=match s with
 | .ClassDef _ _ _ body _ _ _ _ _ _ _=>body.getD j (.Pass ⟨0,0,0,0⟩)
 | _=>.Pass ⟨0,0,0,0⟩
noncomputable def aH (s:Stmt):Arguments:=match s with
 | .FunctionDef _ a _ _ _ _ _ _ _ _=>a
 | _=>{ posonlyargs:=[],args:=[],vararg:=none,kwonlyargs:=[],kw_defaults:=[],kwarg:=none,defaults:=[] }
noncomputable def aD (s:Stmt):List Stmt:=match s with
 | .FunctionDef _ _ b _ _ _ _ _ _ _=>b
 | _=>[]
noncomputable def ak (s:Stmt):Scope:=match s with
 | .FunctionDef _ _ _ _ _ _ sc _ _ _=>sc
 | _=>{ kind:=.function,names:=[],isGenerator:=false,isCoroutine:=false }
noncomputable abbrev CX0:CXT:=fun _ _ _ _ _ _=>False
noncomputable abbrev E0:XK:=fun _ _ _=>False
theorem ba {X:Cx}:Passes CX0 X E0:=fun _ _ _ _ _ _ _ h=>h.elim
structure Fun (K:PySem.W.Frag) (x qual:Str) (st:Stmt) (f:Addr) (fd:FuncData):Prop where
 ex:∃ (oc:Value) (od:Option Addr) (kV doc pm:Value) (an:Option Addr) (cdv ct:Value) (osl:Array (Option Value)),
   fd=PySem.W.fnOf x qual (aH st) (aD st) (ak st) .none kV doc pm an cdv ct∧K.lookup f=some ⟨oc,od,.func fd,osl⟩∧PySem.W.codeIn K cdv qual=true
 kp:PySem.W.keepIn K (.ref f)=true
section
variable {P:Program} {w:World} {K:PySem.W.Frag} {mg:Str→Option Value} {base:Heap}
theorem Fun.ok {x qual:Str} {st:Stmt} {f:Addr} {fd:FuncData} {N ps:List Str} {k:Nat} {sp:Sp} (F:Fun K x qual st f fd) (S:bj N ps (ak st)) (len:∀ vs H Q E,sp vs H Q E→vs.length=ps.length)
   (wY:∀ (cdv:Value) (A:Around) (outer:List Env) (s:Shared) (H:Hp) (vs:List V) (Q:VK) (E:XK),eZ k (A.deeper (envOfC qual (ak st) s.heap.objs.size f cdv))→sp vs H Q E→
     ∃ t,PSs (wW CX0 P w K mg base N qual (ak st) f cdv A outer s H E).nox (aD st) t∧t { nx:=fun _ H'=>Q .non H',rt:=Q } (start N vs) H):bP P w K mg base CX0 (k + 1) f fd ps sp:=by
 obtain ⟨oc,od,kV,doc,pm,an,cdv,ct,osl,rfl,lk,hcd⟩:=F.ex
 refine Hq lk hcd S len fun A outer s H vs Q E hr hsp=>?_
 obtain ⟨t,h,q⟩:=wY cdv A outer s H vs Q E hr hsp
 exact ⟨t,h.nox,q⟩
theorem Fun.binds {x qual:Str} {st:Stmt} {f:Addr} {fd:FuncData} {ps:List Str} (F:Fun K x qual st f fd)
   (h:∀ (kV doc pm:Value) (an:Option Addr) (cdv ct:Value) (us:List Value),us.length=ps.length→bindArgs (PySem.W.fnOf x qual (aH st) (aD st) (ak st) .none kV doc pm an cdv ct) ⟨us,[]⟩=pure (ps.zip us)):Binds K fd ps []:=by
 obtain ⟨oc,od,kV,doc,pm,an,cdv,ct,osl,rfl,lk,hcd⟩:=F.ex
 exact .all (h kV doc pm an cdv ct)
theorem bR {x qual:Str} {st:Stmt} {f:Addr} {oc:Value} {od an:Option Addr} {osl:Array (Option Value)} {kV doc pm cdv ct:Value} (l:K.lookup f=some ⟨oc,od,.func (PySem.W.fnOf x qual (aH st) (aD st) (ak st) .none kV doc pm an cdv ct),osl⟩)
   (c:PySem.W.codeIn K cdv qual=true) (k:PySem.W.keepIn K (.ref f)=true):Fun K x qual st f (PySem.W.fnOf x qual (aH st) (aD st) (ak st) .none kV doc pm an cdv ct):=⟨⟨oc,od,kV,doc,pm,an,cdv,ct,osl,rfl,l,c⟩,k⟩
end
theorem uU {A:Around} {k:Nat} (hr:eZ k A):A.units + 1 < cLine:=Nat.lt_of_le_of_lt (Nat.add_le_add_left (by decide:1≤64) _) hr.units
theorem A0 {n:Nat} (h:n≤1000):n < sizeLine:=Nat.lt_of_le_of_lt h (by decide)
section
variable {X:Cx}
theorem pv (i:Nat) {x:Str} {pos:Pos} (hN:X.N[i]?=some x:=by rfl) (hv:Vis X.env.scope x:=by first | exact Or.inl rfl | exact Or.inr (Or.inl rfl) | exact Or.inr (Or.inr rfl)) (hd:(x == ("__debug__":Str))=false:=by decide)
   (hcd:(x == ("__classdict__":Str))=false:=by decide):PE X (.Name x pos) (eL i):=FO hN hv hd hcd
end
theorem dM {c A B:Prop} [Decidable c] (h1:c→A) (h2:¬ c→B):if c then A else B:=by
 by_cases h:c
 · rw [if_pos h]
   exact h1 h
 · rw [if_neg h]
   exact h2 h
noncomputable def aC (H H':Hp):Prop:=∀ b o,H b=some o→H' b=some o
theorem aC.refl (H:Hp):aC H H:=fun _ _ h=>h
theorem aC.trans {H H1 H2:Hp} (a:aC H H1) (b:aC H1 H2):aC H H2:=fun c o h=>b c o (a c o h)
theorem aC.free {H H':Hp} (e:aC H H') {l:Addr} (h:H' l=Option.none):H l=Option.none:=by
 cases q:H l with
 | none=>rfl
 | some o=>
   rw [e l o q] at h
   cases h
theorem aC.seq {K:PySem.W.Frag} {H H':Hp} {a:Addr} {xs:List V} (e:aC H H') (h:SqL K H a xs):SqL K H' a xs:=by
 rcases h with (h | ⟨o,h⟩) | h
 · exact .inl (.inl (e _ _ h))
 · exact .inl (.inr ⟨o,e _ _ h⟩)
 · exact .inr h
end L2
namespace L2
open PySem PySem.Spec PyProof.Rows
end L2
namespace L2
open PySem PySem.Spec PyProof.Rows
section
variable (P:Program) (w:World)
end
section
variable {P:Program} {w:World} {H H':Hp} {h h':Heap} {a:Addr} {o:HO}
end
section
variable {P:Program} {w:World} {H:Hp} {h h':Heap} {x e:Addr} {o':HO}
end
section
variable {fs fs' ex ex':List Addr} {H H1 H2:Hp} {h h1 h2 h':Heap} {a x e:Addr} {o:HO}
end
end L2
namespace L2
open PySem PySem.Spec PyProof.Rows
section
variable {X:Cx} {pins:List (Addr × Obj)} {σ:List (Option V)} {H H':Hp} {s:Shared} {h':Heap}
end
end L2
namespace L2
open PySem PySem.Spec PyProof.Rows
section
variable {X:Cx}
variable {a b:Expr} {ta tb:TE} {pos:Pos}
variable {tA tB':TT} {rest:List Expr}
end
end L2
namespace L2
open PySem PySem.Spec PyProof.Rows
section
variable {X:Cx} {pins:List (Addr × Obj)} {σ:St} {H:Hp} {s:Shared} {a:Addr} {xs ys:List V}
end
section
variable {X:Cx} {pins:List (Addr × Obj)} {σ:St} {H:Hp} {s:Shared} {E:Value→Shared→Prop}
end
section
variable {X:Cx} {st:Stmt} {rest:List Stmt} {t u:TS} {e:Expr} {te:TE} {pos:Pos}
end
section
variable {X:Cx} {pos:Pos}
end
section
variable {X:Cx} {pos:Pos}
end
end L2
namespace L2
open PySem PySem.Spec PyProof.Rows
section
variable {X:Cx} {tg:Expr}
end
end L2
namespace L2
open PySem PySem.Spec PyProof.Rows
section
variable {X:Cx} {a b c:Expr} {ta tb tc:TE} {pos:Pos}
end
section
variable {X:Cx} {a b c:Expr} {ta tb tc:TE} {pos:Pos}
end
end L2
namespace L2
open PySem PySem.Spec PyProof.Rows
section
variable {prog:Program} {w:World} {A:Around} {E:Value→Shared→Prop} {s:Shared} {K:PySem.W.Frag} {x dx C f:Addr} {mA:Str→Option Value} {name:Str} {v:Value}
end
section
variable {P:Program} {w:World} {H H':Hp} {h h':Heap} {a C dx:Addr} {fs fs':List (Str × V)}
end
section
variable {X:Cx} {pins:List (Addr × Obj)} {σ:St} {H:Hp} {s:Shared} {a C dx:Addr} {fs:List (Str × V)} {f:Str} {v:V} {A:Around} {E:Value→Shared→Prop}
end
section
variable {X:Cx} {o e value:Expr} {f:Str} {pos pos' BM:Pos} {ta tv:TE}
end
section
variable {X:Cx} {pins:List (Addr × Obj)} {σ:St} {H:Hp} {s:Shared} {A:Around} {E:Value→Shared→Prop} {Q:Value→Shared→Prop} {c:Value} {b:Bool}
end
end L2
namespace L2
open PySem PySem.Spec PyProof.Rows
section
variable {X:Cx} {e:Expr} {es:List Expr} {te:TE} {t:TA} {pos:Pos}
end
section
variable {X:Cx} {pins:List (Addr × Obj)} {σ:St} {H:Hp} {s s':Shared}
end
section
variable {X:Cx} {CX:CXT} {k:Nat} {f C:Addr} {fd:FuncData} {ps:List Str} {sp:Sp} {dvs:List V} {ds:List Value} {E:XK} {x m:Str} {p pos apos:Pos} {e o:Expr} {es:List Expr} {ta:TE} {t:TA}
end
section
variable {X:Cx} {CX:CXT} {k:Nat} {f C:Addr} {fd:FuncData} {ps ks:List Str} {sp:Sp} {E:XK} {x m:Str} {p pos apos IY:Pos} {e o:Expr} {es:List Expr} {kws:List Keyword} {te ta:TE} {t tk:TA} {nm:Option Str}
variable {g:List Value→List Value→List Value} {gV:List V→List V→List V}
end
end L2
namespace L2
open PySem PySem.Spec PyProof.Rows
section
variable {X:Cx} {x:Str} {p pos:Pos} {e:Expr} {es:List Expr} {t:TA} {id T:String} {r:List V→Hp→VK→Prop}
end
end L2
namespace L2
open PySem PySem.Spec PyProof.Rows
section
variable {κ:Type} [DecidableEq κ]
noncomputable def de (kvs:List (κ × V)) (k:κ):Option V:=(kvs.find? fun kv=>decide (kv.1=k)).map (·.2)
noncomputable def putK (kvs:List (κ × V)) (k:κ) (v:V):List (κ × V):=
 if (kvs.any fun kv=>decide (kv.1=k))=true then kvs.map (fun kv=>if kv.1=k then (kv.1,v) else kv) else kvs ++ [(k,v)]
noncomputable def JK (kvs:List (κ × V)) (k:κ):List (κ × V):=kvs.filter fun kv=>decide (kv.1≠k)
theorem cS {p:κ × V} {r:List (κ × V)} {k:κ} (e:p.1=k):de (p :: r) k=some p.2:=by simp [de,List.find?_cons,e]
theorem cT {p:κ × V} {r:List (κ × V)} {k:κ} (e:¬ p.1=k):de (p :: r) k=de r k:=by simp [de,List.find?_cons,e]
theorem ow (k:κ):∀ kvs:List (κ × V),(kvs.any fun kv=>decide (kv.1=k))=(de kvs k).isSome
 | []=>rfl
 | p :: r=>by
   rw [List.any_cons]
   by_cases e:p.1=k
   · simp only [cS e,decide_eq_true e,Bool.true_or,Option.isSome_some]
   · rw [cT e,decide_eq_false e,Bool.false_or]; exact ow k r
theorem xa (k j:κ) (y:V):∀ kvs:List (κ × V),de (kvs.map fun kv=>if kv.1=k then (kv.1,y) else kv) j=(de kvs j).map fun x=>if j=k then y else x
 | []=>rfl
 | p :: r=>by
   have ih:=xa k j y r
   rw [List.map_cons]
   by_cases h:p.1=k
   · rw [if_pos h]
     by_cases e:p.1=j
     · rw [cS (p:=(p.1,y)) e,cS e,Option.map_some,if_pos (e.symm.trans h)]
     · rw [cT (p:=(p.1,y)) e,cT e,ih]
   · rw [if_neg h]
     by_cases e:p.1=j
     · rw [cS (p:=p) e,cS e,Option.map_some,if_neg (fun z=>h (e.trans z))]
     · rw [cT (p:=p) e,cT e,ih]
theorem uV (k j:κ) (y:V):∀ kvs:List (κ × V),de kvs k=none→de (kvs ++ [(k,y)]) j=if j=k then some y else de kvs j
 | [],_=>by
   by_cases e:k=j
   · rw [if_pos e.symm]; exact cS (p:=(k,y)) e
   · rw [if_neg (fun z=>e z.symm)]; exact cT (p:=(k,y)) e
 | p :: r,hn=>by
   rw [List.cons_append]
   have hk:¬ p.1=k:=fun z=>by rw [cS z] at hn; cases hn
   rw [cT hk] at hn
   have ih:=uV k j y r hn
   by_cases e:p.1=j
   · rw [cS e,cS e,if_neg (fun z=>hk (e.trans z))]
   · rw [cT e,cT e,ih]
theorem BW (kvs:List (κ × V)) (k j:κ) (y:V):de (putK kvs k y) j=if j=k then some y else de kvs j:=by
 unfold putK
 by_cases a:(kvs.any fun kv=>decide (kv.1=k))=true
 · rw [if_pos a,xa]
   rw [ow] at a
   by_cases e:j=k
   · obtain ⟨x,hx⟩:=Option.isSome_iff_exists.mp a
     rw [if_pos e,e,hx,Option.map_some,if_pos rfl]
   · rw [if_neg e]
     cases de kvs j with
     | none=>rfl
     | some x=>rw [Option.map_some,if_neg e]
 · rw [if_neg a]
   refine uV k j y kvs ?_
   rw [ow] at a
   cases q:de kvs k with
   | none=>rfl
   | some x=>rw [q] at a; exact (a rfl).elim
theorem kL (kvs:List (κ × V)) (k:κ) (v:V):(putK kvs k v).length≤kvs.length + 1:=by
 unfold putK
 split
 · rw [List.length_map]; lia
 · rw [List.length_append,List.length_cons,List.length_nil]; lia
theorem kG.A1 {o:Option V} {u:Option Value} (r:kG o u):o.isSome=u.isSome:=by
 cases o with
 | none=>cases u with
   | none=>rfl
   | some _=>exact (show False from r).elim
 | some _=>cases u with
   | none=>exact (show False from r).elim
   | some _=>rfl
theorem kG.getD {o:Option V} {u:Option Value} {d:V} {d':Value} (r:kG o u) (rd:RelV d d'):RelV (o.getD d) (u.getD d'):=by
 cases o with
 | none=>cases u with
   | none=>exact rd
   | some _=>exact (show False from r).elim
 | some _=>cases u with
   | none=>exact (show False from r).elim
   | some _=>exact r
theorem KV.val {kvs:List (κ × V)} {vs:List (κ × Value)} (r:KV kvs vs) (k:κ):kG (de kvs k) (valueAt vs k):=by
 unfold KV at r
 induction r with
 | nil=>exact True.intro
 | @cons p q ps qs h t ih=>
   obtain ⟨h1,h2⟩:=h
   by_cases e:p.1=k
   · have e':q.1=k:=h1.symm.trans e
     have b:valueAt (q :: qs) k=some q.2:=by simp [valueAt,List.find?_cons,e']
     rw [cS e,b]; exact h2
   · have e':¬ q.1=k:=fun z=>e (h1.trans z)
     have b:valueAt (q :: qs) k=valueAt qs k:=by simp [valueAt,List.find?_cons,e']
     rw [cT e,b]; exact ih
theorem KV.any {kvs:List (κ × V)} {vs:List (κ × Value)} (r:KV kvs vs) (k:κ):(kvs.any fun kv=>decide (kv.1=k))=vs.any fun kv=>decide (kv.1=k):=by
 unfold KV at r
 induction r with
 | nil=>rfl
 | cons h t ih=>rw [List.any_cons,List.any_cons,ih,h.1]
theorem KV.Ge {kvs:List (κ × V)} {vs:List (κ × Value)} (r:KV kvs vs) (k:κ) {y:V} {u:Value} (ry:RelV y u) :
   KV (kvs.map fun kv=>if kv.1=k then (kv.1,y) else kv) (vs.map fun kv=>if kv.1=k then (kv.1,u) else kv):=by
 unfold KV at r ⊢
 induction r with
 | nil=>exact .nil
 | @cons p q ps qs h t ih=>
   rw [List.map_cons,List.map_cons]
   refine .cons ?_ ih
   obtain ⟨h1,h2⟩:=h
   by_cases e:p.1=k
   · rw [if_pos e,if_pos (h1.symm.trans e)]; exact ⟨h1,ry⟩
   · rw [if_neg e,if_neg (fun z=>e (h1.trans z))]; exact ⟨h1,h2⟩
theorem KV.put {kvs:List (κ × V)} {vs:List (κ × Value)} (r:KV kvs vs) (k:κ) {y:V} {u:Value} (ry:RelV y u):KV (putK kvs k y) (stored vs k u):=by
 unfold putK stored
 rw [r.any k]
 by_cases e:(vs.any fun kv=>decide (kv.1=k))=true
 · rw [if_pos e,if_pos e]; exact r.Ge k ry
 · rw [if_neg e,if_neg e]; exact Paired.snoc r ⟨rfl,ry⟩
theorem KV.length {kvs:List (κ × V)} {vs:List (κ × Value)} (r:KV kvs vs):kvs.length=vs.length:=Paired.length r
end
theorem xb {P:Program} {w:World} {k:Key} {u:Value} (r:RelV (kV k) u):(cP P w).is k u=true:=by
 cases k with
 | inl i=>obtain ⟨t,e⟩:=(show ∃ t,u=Value.int i t from r); subst e; exact wK P w i t
 | inr x=>obtain ⟨t,e⟩:=(show ∃ t,u=Value.str x t from r); subst e; exact wL P w x t
theorem uW {P:Program} {w:World}:∀ {ks:List Key} {us:List Value},Vals (ks.map kV) us→ItemsAre (cP P w) ks us
 | [],_,r=>by rw [List.map_nil] at r; cases r; exact .nil
 | k :: ks,_,r=>by
   rw [List.map_cons] at r
   cases r with
   | cons h t=>exact .cons (xb h) (uW t)
noncomputable abbrev KT (H:Hp):List (List Key × V)→List (List Key × Addr × Value)→Prop:=Paired fun p q=>p.1=q.1∧H q.2.1=some (.tup (p.1.map kV))∧RelV p.2 q.2.2
theorem KT.val {H:Hp} {kvs:List (List Key × V)} {xs:List (List Key × Addr × Value)} (r:KT H kvs xs) (k:List Key):kG (de kvs k) ((atKey xs k).map (·.2)):=by
 induction r with
 | nil=>exact True.intro
 | @cons p q ps qs h t ih=>
   obtain ⟨h1,_,h2⟩:=h
   by_cases e:p.1=k
   · have e':q.1=k:=h1.symm.trans e
     have b:atKey (q :: qs) k=some q.2:=by simp [atKey,List.find?_cons,e']
     rw [cS e,b]; exact h2
   · have e':¬ q.1=k:=fun z=>e (h1.trans z)
     have b:atKey (q :: qs) k=atKey qs k:=by simp [atKey,List.find?_cons,e']
     rw [cT e,b]; exact ih
theorem KT.Ge {H:Hp} {kvs:List (List Key × V)} {xs:List (List Key × Addr × Value)} (r:KT H kvs xs) (k:List Key) {y:V} {u:Value} (ry:RelV y u) :
   KT H (kvs.map fun kv=>if kv.1=k then (kv.1,y) else kv) (xs.map (putAt k u)):=by
 induction r with
 | nil=>exact .nil
 | @cons p q ps qs h t ih=>
   rw [List.map_cons,List.map_cons]
   refine .cons ?_ ih
   obtain ⟨h1,h2,h3⟩:=h
   unfold putAt
   by_cases e:p.1=k
   · rw [if_pos e,if_pos (h1.symm.trans e)]; exact ⟨h1,h2,ry⟩
   · rw [if_neg e,if_neg (fun z=>e (h1.trans z))]; exact ⟨h1,h2,h3⟩
theorem KT.put {H:Hp} {kvs:List (List Key × V)} {xs:List (List Key × Addr × Value)} (r:KT H kvs xs) (k:List Key) {b:Addr} {y:V} {u:Value} (hb:H b=some (.tup (k.map kV))) (ry:RelV y u) :
   KT H (putK kvs k y) (storedH xs k b u):=by
 have e:(kvs.any fun kv=>decide (kv.1=k))=(atKey xs k).isSome:=by
   rw [ow,(r.val k).A1,Option.isSome_map]
 unfold putK storedH
 rw [e]
 by_cases q:(atKey xs k).isSome=true
 · rw [if_pos q,if_pos q]; exact r.Ge k ry
 · rw [if_neg q,if_neg q]; exact Paired.snoc r ⟨rfl,hb,ry⟩
theorem KT.keeps {H H':Hp} {kvs:List (List Key × V)} {xs:List (List Key × Addr × Value)} (r:KT H kvs xs) (ht:∀ b ys,H b=some (.tup ys)→H' b=some (.tup ys)):KT H' kvs xs:=
 Paired.FK r fun _ _ z=>⟨z.1,ht _ _ z.2.1,z.2.2⟩
section
variable {P:Program} {w:World} {H:Hp} {h:Heap} {a:Addr}
theorem Fl {u:HO} (ok:HOk P w H h) (e:Rd H a u):dH P w H h a u:=e.ok ok
theorem BX {kvs:List (Key × V)} (ok:HOk P w H h) (e:Rd H a (.dK kvs)):kvs.length≤sizeLine∧(a == sysModules)=false∧∃ vs,KV kvs vs∧h.DictOf (cP P w) a vs:=
 show dH P w H h a (.dK kvs) from Fl ok e
theorem HB {kvs:List (Key × V)} (ok:HOk P w H h) (e:H a=some (.dK kvs)):kvs.length≤sizeLine∧(a == sysModules)=false∧∃ vs,KV kvs vs∧h.DictOf (cP P w) a vs:=BX ok (.inl e)
theorem yv {ks:List Key} (ok:HOk P w H h) (e:H a=some (.tup (ks.map kV))):(tupleKind (cP P w)).is h ks a:=by
 obtain ⟨_,its,r,o,h1,h2,n,h3⟩:=(show dH P w H h a (.tup (ks.map kV)) from ok a _ e)
 exact ⟨o,its.toArray,n,h1,h2,h3,by simpa using uW r⟩
theorem BY {kvs:List (List Key × V)} (ok:HOk P w H h) (e:Rd H a (.dT kvs)):kvs.length≤sizeLine∧(a == sysModules)=false∧
   ∃ xs,KT H kvs xs∧h.DictOfH (tupleKind (cP P w)) a xs:=by
 obtain ⟨z,y,xs,r,o,es,ep,h1,h2,h3,h4,h5⟩:=(show dH P w H h a (.dT kvs) from Fl ok e)
 refine ⟨z,y,xs,r,o,es,ep,h1,h2,h3,h4,fun x hx=>?_,h5⟩
 have all:∀ {l:List (List Key × V)} {m:List (List Key × Addr × Value)},KT H l m→∀ x∈m,(tupleKind (cP P w)).is h x.1 x.2.1:=by
   intro l m q
   induction q with
   | nil=>intro x hx; exact nomatch hx
   | @cons p q ps qs hq t ih=>
     intro x hx
     rcases List.mem_cons.mp hx with e | hx
     · subst e
       exact yv ok (by rw [← hq.1]; exact hq.2.1)
     · exact ih x hx
 exact all r x hx
theorem HC {kvs:List (List Key × V)} (ok:HOk P w H h) (e:H a=some (.dT kvs)):kvs.length≤sizeLine∧(a == sysModules)=false∧
   ∃ xs,KT H kvs xs∧h.DictOfH (tupleKind (cP P w)) a xs:=BY ok (.inl e)
end
noncomputable def qW (H:Hp) (a:Addr) (y:V) (r:Option V):Prop:=
 (∃ kvs k,Rd H a (.dK kvs)∧y=kV k∧r=de kvs k)∨∃ kvs k b,Rd H a (.dT kvs)∧y=.ref b∧H b=some (.tup (k.map kV))∧r=de kvs k
noncomputable def Gf (H:Hp) (a:Addr) (y v:V) (H':Hp):Prop:=
 (∃ kvs k,H a=some (.dK kvs)∧y=kV k∧kvs.length < sizeLine∧H'=upd H a (.dK (putK kvs k v)))∨
 ∃ kvs k b,H a=some (.dT kvs)∧y=.ref b∧H b=some (.tup (k.map kV))∧kvs.length < sizeLine∧H'=upd H a (.dT (putK kvs k v))
theorem qW.k {H:Hp} {a:Addr} {kvs:List (Key × V)} {k:Key} (e:H a=some (.dK kvs)):qW H a (kV k) (de kvs k):=.inl ⟨kvs,k,.inl e,rfl,rfl⟩
section
variable {X:Cx} {pins:List (Addr × Obj)} {σ:St} {H:Hp} {s:Shared} {a:Addr} {y v:V} {u r:Value} {o:Option V} {A:Around} {E:Value→Shared→Prop}
theorem Inv.big (I:Inv X pins σ H s):sysModules < s.heap.objs.size:=by
 have h:mainGlobals < s.heap.objs.size:=(I.mod.glob.keeps I.bk).lt
 exact Nat.lt_trans (by decide) h
theorem A2 {Q:Value→Shared→Prop} (hu:A.units + 1 < cLine) (I:Inv X pins σ H s) (g:qW H a y (some v)) (ry:RelV y u) (h:∀ w' s',Inv X pins σ H s'→RelV v w'→Q w' s') :
   wpAny (model X.prog X.w) A (getItem (.ref a) u) Q E s:=by
 rcases g with ⟨kvs,k,e,ey,l⟩ | ⟨kvs,k,b,e,ey,eb,l⟩
 · subst ey
   obtain ⟨z,hd,vs,rel,dd⟩:=BX I.hok e
   obtain ⟨w',hw,rw'⟩:=kG.some_of (v:=v) (o:=valueAt vs k) (by rw [l]; exact rel.val k)
   exact wpAny_getItem_of (xb ry) dd.mapOf hw (h w' _ (I.tok _) rw')
 · subst ey
   cases (show u=Value.ref b from ry)
   obtain ⟨z,hd,xs,rel,dd⟩:=BY I.hok e
   obtain ⟨w',hw,rw'⟩:=kG.some_of (v:=v) (o:=(atKey xs k).map (·.2)) (by rw [l]; exact rel.val k)
   obtain ⟨p,hp,hp2⟩:=Option.map_eq_some_iff.mp hw
   refine wpAny_getItem_heap (tupleKind_room_in1 hu) (yv I.hok eb) dd hp ?_
   rw [hp2]
   exact h w' _ (I.tok _) rw'
theorem zS {h':Heap} {t':Nat} {ob:HO} (I:Inv X pins σ H s) (mu:Mut (H a)) (hs:Heap.SameBut a s.heap h') (he:∃ q,h'.get? a=some q) (new:dH X.prog X.w (upd H a ob) h' a ob) :
   Inv X pins σ (upd H a ob) { s with heap:=h',toks:=t' }:=
 I.write (x:=a) (e:=a) mu (.inl rfl) (fun b q hb z=>(hs.2 b hb).trans z) he new
theorem yw {P:Program} {w:World} {H':Hp} {h':Heap} {kvs:List (Key × V)} {vs:List (Key × Value)} (z:kvs.length≤sizeLine) (hd:(a == sysModules)=false) (rel:KV kvs vs) (dd:h'.DictOf (cP P w) a vs) :
   dH P w H' h' a (.dK kvs):=⟨z,hd,vs,rel,dd⟩
theorem A3 {H':Hp} {Q:Unit→Shared→Prop} (hu:A.units + 1 < cLine) (I:Inv X pins σ H s) (g:Gf H a y v H') (ry:RelV y u) (rv:RelV v r) (h:∀ s',Inv X pins σ H' s'→Q () s') :
   wpAny (model X.prog X.w) A (setItem (.ref a) u r) Q E s:=by
 rcases g with ⟨kvs,k,e,ey,l,eH⟩ | ⟨kvs,k,b,e,ey,eb,l,eH⟩
 · subst ey eH
   obtain ⟨z,hd,vs,rel,dd⟩:=HB I.hok e
   have hz:vs.length≤sizeLine:=by rw [← rel.length]; exact z
   have hl:(putK kvs k v).length≤sizeLine:=by have:=kL kvs k v; lia
   refine wpAny_setItem_pairs (hsz:=hz) (xb ry) dd fun h' dd' hs=>h _ ?_
   have he:∃ q,h'.get? a=some q:=let ⟨q,_,_,hq,_⟩:=dd'; ⟨q,hq⟩
   exact zS I (by rw [e]; exact True.intro) hs he (yw hl hd (rel.put k rv) dd')
 · subst ey eH
   cases (show u=Value.ref b from ry)
   obtain ⟨z,hd,xs,rel,dd⟩:=HC I.hok e
   have hz:xs.length≤sizeLine:=by rw [← Paired.length rel]; exact z
   have hl:(putK kvs k v).length≤sizeLine:=by have:=kL kvs k v; lia
   refine wpAny_setItem_heap (hsz:=hz) (tupleKind_room_in1 hu) (yv I.hok eb) dd fun h' dd' hs=>h _ ?_
   obtain ⟨q,es,ep,hq,h2,h3,h4,_,h5⟩:=dd'
   refine zS I (by rw [e]; exact True.intro) hs ⟨q,hq⟩ ⟨hl,hd,_,(rel.put k eb rv).keeps fun c ys ec=>?_,q,es,ep,hq,h2,h3,h4,h5⟩
   rw [aR (cQ ec e (fun z=>nomatch z))]
   exact ec
end
section
variable {X:Cx} {pins:List (Addr × Obj)} {σ:St} {H:Hp} {s:Shared} {a:Addr} {kvs:List (Key × V)} {k:Key} {u:Value} {A:Around} {E:Value→Shared→Prop}
end
noncomputable def HD (i:Expr):Prop:=∀ ov iv,subscripted i false ov iv=operate [ov,iv] (getItem ov iv)
theorem El {prog:Program} {w:World} {A:Around} {E:Value→Shared→Prop} {s:Shared} {env:Env} {value slice:Expr} {pos:Pos} {T id:String} {Q:Value→Shared→Prop}
   (hl:typeLookup (.type T) "__getitem__"=pure (some (.builtin id))) (hs:HD slice)
   (h:wpAny (model prog w) A (eval value env) (fun o s₁=>wpAny (model prog w) A (eval slice env) (fun i s₂=>s₂.TypeIs o T∧wpAny (model prog w) A (getItem o i) Q E s₂) E s₁) E s) :
   wpAny (model prog w) A (eval (.Subscript value slice pos) env) Q E s:=by
 refine Subscript_ (wpAny_mono h (fun o s₁ h₁=>wpAny_mono h₁ (fun i s₂ h₂=>?_) fun _ _ x=>x) fun _ _ x=>x)
 obtain ⟨hT,h₂⟩:=h₂
 unfold subscriptTail
 refine wpAny_bind ?_
 rw [getitemInPython_of_ne hT.not_modules]
 refine wpAny_bind (wpAny_specialOf hT hl ?_)
 have fin:wpAny (model prog w) A (subscripted slice false o i) (fun r s₃=>wpAny (model prog w) A (letTemporaryGo value o r >>= fun _=>pure r) Q E s₃) E s₂:=by
   rw [hs o i]
   exact wpAny_operating (wpAny_mono h₂ (fun r s₃ h₃=>wpAny_bind (wpAny_letTemporaryGo (wpAny_pure h₃))) fun _ _ x=>x)
 first
   | exact wpAny_pure (wpAny_bind fin)
   | exact wpAny_bind (wpAny_pure (wpAny_bind fin))
   | exact wpAny_bind fin
theorem xc {X:Cx} {pins:List (Addr × Obj)} {σ:St} {H:Hp} {s:Shared} {a:Addr} {y:V} {o:Option V} (I:Inv X pins σ H s) (g:qW H a y o):s.TypeIs (.ref a) "dict":=by
 rcases g with ⟨kvs,k,e,_,_⟩ | ⟨kvs,k,b,e,_,_,_⟩
 · obtain ⟨_,_,vs,_,dd⟩:=BX I.hok e
   exact dd.typeIs
 · obtain ⟨_,_,xs,_,dd⟩:=BY I.hok e
   exact dd.typeIs
noncomputable def Fm (td ty:TE):TE:=fun σ H Q=>td σ H fun x H1=>ty σ H1 fun y H2=>∃ a v,x=.ref a∧qW H2 a y (some v)∧Q v H2
noncomputable def Fn (td ty tv:TE):TS:=fun D σ H=>tv σ H fun v H1=>td σ H1 fun x H2=>ty σ H2 fun y H3=>∃ a H4,x=.ref a∧Gf H3 a y v H4∧D.nx σ H4
section
variable {X:Cx} {o i e value:Expr} {pos pos' BM:Pos} {td ty tv:TE}
theorem fR (hu:X.A.units + 1 < cLine) (ho:PE X o td) (hi:PE X i ty) (hs:HD i):PE X (.Subscript o i pos) (Fm td ty):=by
 intro pins s σ H Q I h
 refine El PySem.F.slot_dict_getitem.lookup hs (thn (ho pins s σ H _ I h) fun u s1 ⟨x,H1,I1,rx,q1⟩=>thn (hi pins s1 σ H1 _ I1 q1) fun iv s2 ⟨y,H2,I2,ry,a,v,ex,g,q2⟩=>?_)
 subst ex
 obtain rfl:u=Value.ref a:=rx
 exact ⟨xc I2 g,A2 hu I2 g ry fun w' s3 I3 rw'=>⟨v,H2,I3,rw',q2⟩⟩
theorem zU (hu:X.A.units + 1 < cLine) (ho:PE X o td) (hi:PE X i ty) (hv:PE X value tv) (hs:swapsWith value (some (.Subscript o i pos')) pos.line X.env=pure false) :
   PS X (.Assign [.Subscript o i pos'] value pos) (Fn td ty tv):=by
 intro pins s σ H D I h
 refine wpAny_Assign_Subscript (thn (hv pins s σ H _ I h) fun r s1 ⟨v,H1,I1,rv,q1⟩=>thn (ho pins s1 σ H1 _ I1 q1) fun u s2 ⟨x,H2,I2,rx,q2⟩=>thn (hi pins s2 σ H2 _ I2 q2) fun iv s3 ⟨y,H3,I3,ry,a,H4,ex,g,q3⟩=>?_) hs
 subst ex
 obtain rfl:u=Value.ref a:=rx
 exact A3 hu I3 g ry rv fun s4 I4=>⟨σ,H4,I4,q3⟩
end
noncomputable def Gg:TE:=fun _ H Q=>∀ p,H p=none→Q (.ref p) (upd H p (.dK []))
section
variable {X:Cx} {pos:Pos}
end
noncomputable def jy (kvs more:List (Key × V)):List (Key × V):=more.foldl (fun acc kv=>putK acc kv.1 kv.2) kvs
theorem KV.merge:∀ {more:List (Key × V)} {rs:List (Key × Value)} {kvs:List (Key × V)} {vs:List (Key × Value)},KV more rs→KV kvs vs→KV (jy kvs more) (merged vs rs):=by
 intro more rs kvs vs r
 unfold KV at r
 induction r generalizing kvs vs with
 | nil=>intro q; exact q
 | @cons p q ps qs h t ih=>
   intro r0
   have e:KV (putK kvs p.1 p.2) (stored vs q.1 q.2):=by
     have:=r0.put p.1 h.2
     rw [← h.1]; exact this
   exact ih e
theorem iY:∀ (more kvs:List (Key × V)),(jy kvs more).length≤kvs.length + more.length
 | [],kvs=>by show kvs.length≤kvs.length + 0; lia
 | p :: r,kvs=>by
   have h1:=iY r (putK kvs p.1 p.2)
   have h2:=kL kvs p.1 p.2
   show (jy (putK kvs p.1 p.2) r).length≤_
   rw [List.length_cons]; lia
structure M1 (X:Cx) (o:Expr) (m:Str) (apos:Pos) (e:Expr) (jx:Pos):Prop where
 base:attributeBase o m X.env (eval o X.env)=eval o X.env
 few:((backTo jx (starEach [e] X.env)).all (fun x=>!x.1) && (backToKw jx (keywordEach [] X.env)).all (fun x=>x.1.isSome)
   && decide (([e]:List Expr).length + ([]:List Keyword).length + (if ([]:List Keyword).isEmpty then 0 else 1) < 30))=true
 line:(apos.endLine == jx.line)=true
 trees:backTo jx (starEach [e] X.env)=[(false,eval e X.env)]
structure M2 (X:Cx) (o:Expr) (m:Str) (apos:Pos) (e f:Expr) (jx:Pos):Prop where
 base:attributeBase o m X.env (eval o X.env)=eval o X.env
 few:((backTo jx (starEach [e,f] X.env)).all (fun x=>!x.1) && (backToKw jx (keywordEach [] X.env)).all (fun x=>x.1.isSome)
   && decide (([e,f]:List Expr).length + ([]:List Keyword).length + (if ([]:List Keyword).isEmpty then 0 else 1) < 30))=true
 line:(apos.endLine == jx.line)=true
 trees:backTo jx (starEach [e,f] X.env)=[(false,eval e X.env),(false,eval f X.env)]
section
variable {X:Cx} {pins:List (Addr × Obj)} {σ:St} {H:Hp} {s:Shared} {a:Addr} {y d:V} {u r:Value} {o:Option V} {A:Around} {E:Value→Shared→Prop}
end
section
variable {X:Cx} {o e f:Expr} {apos jx:Pos} {td ty tx:TE}
end
section
variable {X:Cx} {pins:List (Addr × Obj)} {σ:St} {H:Hp} {s:Shared} {a:Addr} {kvs:List (Key × V)} {A:Around} {E:Value→Shared→Prop}
end
section
variable {X:Cx} {pins:List (Addr × Obj)} {σ:St} {H:Hp} {s:Shared} {a:Addr} {y:V} {u:Value} {A:Around} {E:Value→Shared→Prop}
end
end L2
namespace Att
open PySem PySem.W PySem.Calls PyProof.Rows
section
variable {prog:Program} {w:World} {A:Around} {E:Value→Shared→Prop} {s:Shared} {K:Frag}
end
end Att
namespace L2
open PySem PySem.Spec PyProof.Rows
end L2
namespace L2
open PySem PySem.Spec PyProof.Rows
end L2
namespace L2
open PySem PySem.Spec PyProof.Rows
section
variable {P:Program} {w:World} {K:PySem.W.Frag} {mg:Str→Option Value} {base:Heap}
end
section
variable {X:Cx}
end
section
variable {κ:Type} [DecidableEq κ]
end
end L2
namespace L2
open PySem PySem.Spec PyProof.Rows
noncomputable def pL (env:Env):List (Str × NameKind)→List (Str × Addr)→List (Str × Addr)
 | [],cs=>cs
 | (n,k) :: r,cs=>pL env r (if k == .free then (n,(env.cells.lookup n).getD 0) :: cs else cs)
theorem qX {scope:Scope} {env:Env} (h:∀ p∈scope.names,p.2=.free→∃ c,env.cells.lookup p.1=some c):closureFor scope env=pure (pL env scope.names []):=by
 have all:∀ (l:List (Str × NameKind)) (cs:List (Str × Addr)),(∀ p∈l,p.2=.free→∃ c,env.cells.lookup p.1=some c)→
     (forIn l cs fun (x:Str × NameKind) (r:List (Str × Addr))=>if (x.2 == NameKind.free)=true then do let a ← cellOf env x.1; pure (ForInStep.yield ((x.1,a) :: r)) else (pure (ForInStep.yield r):Sem _))=pure (pL env l cs):=by
   intro l
   induction l with
   | nil=>intro cs _; rfl
   | cons p r ih=>
     intro cs hp
     obtain ⟨n,k⟩:=p
     rw [List.forIn_cons]
     by_cases hk:k=.free
     · subst hk
       obtain ⟨c,e⟩:=hp (n,.free) List.mem_cons_self rfl
       have e1:cellOf env n=pure c:=by unfold cellOf; rw [e]
       simp only [beq_self_eq_true,if_true,e1,pure_bind]
       rw [ih _ fun p hp'=>hp p (List.mem_cons_of_mem _ hp')]
       simp [pL,e]
     · have hb:(k == NameKind.free)=false:=by simpa using hk
       simp only [hb,Bool.false_eq_true,if_false,pure_bind]
       rw [ih _ fun p hp'=>hp p (List.mem_cons_of_mem _ hp')]
       simp [pL,hb]
 simp only [closureFor]
 rw [all scope.names [] h]
 simp
theorem ox {env:Env} {x:Str} {c:Addr}:∀ {l:List (Str × NameKind)} {cs:List (Str × Addr)},(∀ p∈l,p.2=.free→∃ c,env.cells.lookup p.1=some c)→(∀ x c,cs.lookup x=some c→env.cells.lookup x=some c)→
   (pL env l cs).lookup x=some c→env.cells.lookup x=some c
 | [],_,_,h,e=>h x c e
 | (n,k) :: r,cs,hp,h,e=>by
   unfold pL at e
   refine ox (fun p q=>hp p (List.mem_cons_of_mem _ q)) ?_ e
   intro y d q
   by_cases hk:k=.free
   · subst hk
     obtain ⟨c',e'⟩:=hp (n,.free) List.mem_cons_self rfl
     simp only [beq_self_eq_true,if_true] at q
     rw [List.lookup_cons] at q
     cases hy:y == n with
     | true=>
       rw [hy] at q
       have:y=n:=by simpa using hy
       subst this
       simp only at e'
       rw [e'] at q ⊢
       exact q
     | false=>rw [hy] at q; exact h y d q
   · have hb:(k == NameKind.free)=false:=by simpa using hk
     simp only [hb,Bool.false_eq_true,if_false] at q
     exact h y d q
theorem rY {env:Env} {x:Str}:∀ {l:List (Str × NameKind)} {cs:List (Str × Addr)},((∃ c,cs.lookup x=some c)∨(x,NameKind.free)∈l)→∃ c,(pL env l cs).lookup x=some c
 | [],_,h=>by
   rcases h with h | h
   · exact h
   · exact absurd h (by simp)
 | (n,k) :: r,cs,h=>by
   unfold pL
   apply rY
   rcases h with ⟨c,h⟩ | h
   · left
     by_cases hk:k=.free
     · subst hk
       simp only [beq_self_eq_true,if_true]
       rw [List.lookup_cons]
       cases hy:x == n with
       | true=>exact ⟨_,rfl⟩
       | false=>exact ⟨c,h⟩
     · have hb:(k == NameKind.free)=false:=by simpa using hk
       simp only [hb,Bool.false_eq_true,if_false]
       exact ⟨c,h⟩
   · rcases List.mem_cons.mp h with e | h
     · injection e with e1 e2
       subst e1; subst e2
       left
       simp only [beq_self_eq_true,if_true]
       rw [List.lookup_cons]
       simp
     · exact .inr h
theorem kM {scope:Scope} {env:Env} {x:Str}:(relabel scope env).names.lookup x=(scope.names.lookup x).map fun k=>if (k == NameKind.free && env.scope.kind == .function && env.kindOf x == some .cell)=true then .cell else k:=by
 unfold relabel
 show List.lookup x (scope.names.map _)=_
 generalize scope.names=l
 induction l with
 | nil=>rfl
 | cons p r ih=>
   obtain ⟨n,k⟩:=p
   rw [List.map_cons,List.lookup_cons (as:=r)]
   show List.lookup x ((if (k == NameKind.free && env.scope.kind == .function && env.kindOf n == some .cell)=true then (n,NameKind.cell) else (n,k)) :: _)=_
   cases hx:x == n with
   | true=>
     have e:x=n:=by simpa using hx
     subst e
     by_cases hc:(k == NameKind.free && env.scope.kind == .function && env.kindOf x == some .cell)=true
     · rw [if_pos hc]; simp only [List.lookup_cons,beq_self_eq_true,Option.map_some]; rw [if_pos hc]
     · rw [if_neg hc]; simp only [List.lookup_cons,beq_self_eq_true,Option.map_some]; rw [if_neg hc]
   | false=>
     by_cases hc:(k == NameKind.free && env.scope.kind == .function && env.kindOf n == some .cell)=true
     · rw [if_pos hc]; simp only [List.lookup_cons,hx]; exact ih
     · rw [if_neg hc]; simp only [List.lookup_cons,hx]; exact ih
theorem mem_of_lookup {x:Str} {k:NameKind}:∀ {l:List (Str × NameKind)},l.lookup x=some k→(x,k)∈l
 | [],h=>by simp at h
 | (n,j) :: r,h=>by
   rw [List.lookup_cons] at h
   cases hx:x == n with
   | true=>
     rw [hx] at h
     have e:x=n:=by simpa using hx
     cases h; subst e
     exact List.mem_cons_self
   | false=>rw [hx] at h; exact List.mem_cons_of_mem _ (mem_of_lookup h)
noncomputable def gM (sc out:Scope):Bool:=
 (sc.names.all fun p=>p.2 != .cell && (p.2 != .free || out.names.lookup p.1 == some .cell || out.names.lookup p.1 == some .free) && (p.2 != .local || sc.names.lookup p.1 == some .local)) && decide (sc.kind=.function)
noncomputable def rF (sc out:Scope) (N:List Str) (ix:List Nat):Bool:=
 ix.all fun i=>sc.names.lookup (N.getD i "") == some .free && (out.names.lookup (N.getD i "") == some .cell || out.names.lookup (N.getD i "") == some .free)
noncomputable def BZ (σ:St) (ix:List Nat):St:=ix.map fun i=>σ.getD i none
noncomputable abbrev zV (N:List Str) (ix:List Nat):List Str:=ix.map fun i=>N.getD i ""
noncomputable def hC (X:Cx) (scope:Scope) (own:List Str) (ix:List Nat) (C:Addr) (s₀:Shared) (H₀:Hp) (ex:List Addr):Cx where
 prog:=X.prog
 w:=X.w
 K:=X.K
 mg:=X.mg
 base:=X.base
 A:=X.A
 N:=own ++ zV X.N ix
 s₀:=s₀
 H₀:=H₀
 env:=compEnvC scope (pL X.env scope.names []) C X.env
 outer:=X.stack
 stack:=X.stack
 ex:=ex
 fn:=fun _=>false
 calm:=X.calm
 pn:=[]
 xe:=fun _ _=>False
section
variable {X:Cx} {pins:List (Addr × Obj)} {σ:St} {H:Hp} {s:Shared}
theorem kN {sc out:Scope} (h:gM sc out=true):∀ p∈sc.names,p.2≠.cell∧(p.2=.free→out.names.lookup p.1=some .cell∨out.names.lookup p.1=some .free)∧(p.2=.local→sc.names.lookup p.1=some .local):=by
 intro p hp
 unfold gM at h
 rw [Bool.and_eq_true] at h
 have:=List.all_eq_true.mp h.1 p hp
 simp only [Bool.and_eq_true,Bool.or_eq_true,bne_iff_ne,beq_iff_eq,ne_eq] at this
 obtain ⟨⟨h1,h2⟩,h3⟩:=this
 refine ⟨h1,fun e=>?_,fun e=>?_⟩
 · rcases h2 with (h2 | h2) | h2
   · exact absurd e h2
   · exact .inl h2
   · exact .inr h2
 · rcases h3 with h3 | h3
   · exact absurd e h3
   · exact h3
theorem jz {sc out:Scope} (h:gM sc out=true):sc.kind=.function:=by
 unfold gM at h
 rw [Bool.and_eq_true] at h
 exact of_decide_eq_true h.2
theorem Em {scope:Scope} {own:List Str} {ix:List Nat} {ex:List Addr} (I:Inv X pins σ H s) (hf:gM scope X.env.scope=true) (hx:∀ b∈ex,om X pins H b∧b < s.heap.objs.size):(hC X scope own ix s.heap.objs.size s H ex).Ok:=by
 have fits:=(kN hf)
 have og:∀ p∈scope.names,p.2=.free→∃ c,X.env.cells.lookup p.1=some c:=fun p hp e=>I.ok.has p.1 ((fits p hp).2.1 e)
 have sub:∀ {x:Str} {c:Addr},(pL X.env scope.names []).lookup x=some c→X.env.cells.lookup x=some c:=fun {x c} e=>ox og (fun x c e=>by simp at e) e
 refine ⟨I.ok.mod,(show scope.kind=.function from jz hf),I.ok.glob,I.ok.blt,Nat.le_refl _,fun x y c a b=>I.ok.inj x y c (sub a) (sub b),fun x hk=>?_,fun x c e=>(by cases e),I.ok.hd,I.ok.frames,.inl rfl,fun b hb=>⟨Nat.ne_of_lt (hx b hb).2,fun x c e=>(hx b hb).1.2.2.2.2.1 x c (sub e)⟩,I.bs,Nat.le_trans I.ok.bsz I.sz,fun b o e hb=>?_,fun b hb hs=>?_,I.stack,I.zH⟩
 · refine rY (.inr ?_)
   have hk':(relabel scope X.env).names.lookup x=some .cell∨(relabel scope X.env).names.lookup x=some .free:=hk
   rw [kM] at hk'
   cases q:scope.names.lookup x with
   | none=>rw [q] at hk'; rcases hk' with z | z <;> cases z
   | some k=>
     have hm:=mem_of_lookup q
     by_cases hkf:k=.free
     · subst hkf; exact hm
     · rw [q] at hk'
       have hb:(k == NameKind.free)=false:=by simpa using hkf
       simp only [Option.map_some,hb,Bool.false_and,Bool.false_eq_true,if_false,Option.some.injEq] at hk'
       rcases hk' with z | z
       · exact absurd z (fits _ hm).1
       · exact absurd z hkf
 · rcases (hx b hb).1.2.2.2.1 with z | z
   · exact I.ok.Bz b o e z
   · exact absurd (Nat.lt_of_lt_of_le (Heap.lt_size e) (Nat.le_trans I.ok.bsz z)) (Nat.lt_irrefl _)
 · rcases List.mem_cons.mp (I.vp b hs) with z | z
   · exact (hx b hb).1.2.1 z
   · exact (hx b hb).1.2.2.1 z
theorem B0 {scope:Scope} {own:List Str} {ix:List Nat} {ex:List Addr} {h':Heap} {tk:Nat} (I:Inv X pins σ H s) (hf:gM scope X.env.scope=true) (hc:rF scope X.env.scope X.N ix=true) (hx:∀ b∈ex,om X pins H b∧b < s.heap.objs.size)
   (hn:h'.Ns s.heap.objs.size fun _=>none) (hk:∀ b o,s.heap.get? b=some o→h'.get? b=some o):Inv (hC X scope own ix s.heap.objs.size s H ex) [] (List.replicate own.length none ++ BZ σ ix) H { s with heap:=h',toks:=tk }:=by
 have fits:=(kN hf)
 have og:∀ p∈scope.names,p.2=.free→∃ c,X.env.cells.lookup p.1=some c:=fun p hp e=>I.ok.has p.1 ((fits p hp).2.1 e)
 have sub:∀ {x:Str} {c:Addr},(pL X.env scope.names []).lookup x=some c→X.env.cells.lookup x=some c:=fun {x c} e=>ox og (fun x c e=>by simp at e) e
 refine ⟨Em I hf hx,rfl,I.bare,Un.kept hk,⟨_,hn,fun i x v e1 e2 e3=>?_⟩,fun x c e=>?_,I.hok.fresh (Nat.le_refl _),fun x c e=>I.kI x c (sub e),fun p hp=>absurd (show p∈([]:List (Addr × Obj)) ++ [] from hp) (by simp),I.hok.kept hk,?_⟩
 · have e1:(own ++ zV X.N ix)[i]?=some x:=e1
   by_cases hi:i < own.length
   · rw [List.getElem?_append_left (by simpa using hi),List.getElem?_replicate,if_pos hi] at e2
     cases e2
   · have hi':own.length≤i:=Nat.le_of_not_lt hi
     rw [List.getElem?_append_right (by simpa using hi'),List.length_replicate] at e2
     rw [List.getElem?_append_right hi'] at e1
     unfold BZ at e2
     unfold zV at e1
     rw [List.getElem?_map] at e1 e2
     cases q:ix[i - own.length]? with
     | none=>rw [q] at e2; cases e2
     | some j=>
       rw [q] at e1 e2
       simp only [Option.map_some,Option.some.injEq] at e1 e2
       have hj:j∈ix:=List.mem_of_getElem? q
       have fit:=List.all_eq_true.mp hc j hj
       simp only [Bool.and_eq_true,Bool.or_eq_true,beq_iff_eq] at fit
       rw [e1] at fit
       have ej:σ[j]?=some (some v):=by
         rw [List.getD_eq_getElem?_getD] at e2
         cases r:σ[j]? with
         | none=>rw [r] at e2; cases e2
         | some z=>rw [r] at e2; simp only [Option.getD_some] at e2; rw [e2]
       have hjl:j < X.N.length:=by rw [← I.len]; exact (List.getElem?_eq_some_iff.mp ej).1
       have en:X.N[j]?=some x:=by
         rw [List.getD_eq_getElem?_getD] at e1
         rw [List.getElem?_eq_getElem hjl] at e1 ⊢
         simp only [Option.getD_some] at e1
         rw [e1]
       obtain ⟨m,hm,hl⟩:=I.loc
       have hv:Vis X.env.scope x:=by
         rcases fit.2 with z | z
         · exact .inr (.inl z)
         · exact .inr (.inr z)
       obtain ⟨u,r,l⟩:=hl j x v en ej hv
       refine ⟨u,r,.inr ⟨?_,?_⟩⟩
       · show (relabel scope X.env).names.lookup x=some .cell∨(relabel scope X.env).names.lookup x=some .free
         rw [kM,fit.1]
         simp only [Option.map_some]
         split
         · exact .inl rfl
         · exact .inr rfl
       · rcases l with ⟨k1,_⟩ | ⟨_,c,ec,zJ⟩
         · have k1:X.env.scope.names.lookup x=some .local:=k1
           rcases fit.2 with z | z <;> (rw [z] at k1; cases k1)
         · obtain ⟨c',e'⟩:∃ c,(pL X.env scope.names []).lookup x=some c:=rY (.inr (mem_of_lookup fit.1))
           have:=sub e'
           rw [ec] at this
           cases this
           exact ⟨c,e',zJ.keeps hk⟩
 · obtain ⟨v,z⟩:=I.cell x c (sub e)
   exact ⟨v,z.keeps hk⟩
 · show (List.replicate own.length none ++ BZ σ ix).length=(own ++ zV X.N ix).length
   simp [BZ]
theorem comp_back {scope:Scope} {own:List Str} {ix:List Nat} {ex:List Addr} {τ:St} {H':Hp} {s':Shared} {wM:List (Addr × Obj)} (I:Inv X pins σ H s) (hx:∀ b∈ex,om X pins H b∧b < s.heap.objs.size)
   (I':Inv (hC X scope own ix s.heap.objs.size s H ex) wM τ H' s'):Inv X pins σ H' s'∧H' s.heap.objs.size=none∧s.heap.objs.size≠X.env.locals∧X.s₀.heap.objs.size≤s.heap.objs.size∧(∀ x c,X.env.cells.lookup x=some c→c≠s.heap.objs.size)∧∀ p∈X.pn ++ pins,p.1≠s.heap.objs.size:=by
 refine ⟨I.G9 (ch:=ex) I'.os I'.base I'.hok I'.bare fun b hb=>?_,I'.free,Nat.ne_of_gt I.lt,I.sz,fun x c e z=>?_,fun p hp z=>?_⟩
 · obtain ⟨f0,f1,f2,f3,f4,f5⟩:=(hx b hb).1
   exact ⟨f3,f1,f4,f5⟩
 · obtain ⟨v,q⟩:=I.cell x c e
   exact absurd q.lt (by rw [z]; exact Nat.lt_irrefl _)
 · exact absurd (Heap.lt_size (I.pin p hp).1) (by rw [z]; exact Nat.lt_irrefl _)
end
noncomputable def PTs (X:Cx) (ifs:List Expr) (t:TT):Prop:=
 ∀ (pins:List (Addr × Obj)) (s:Shared) (σ:St) (H:Hp) (Q:Bool→Hp→Prop),Inv X pins σ H s→t σ H Q→
   wpAny (model X.prog X.w) X.A (forIn ifs true fun c r=>if r=true then do let ok ← isTrue c X.env (eval c X.env); pure (ForInStep.yield ok) else pure (ForInStep.yield r)) (TP X pins σ Q) X.xe s
noncomputable def xf:TT:=fun _ H Q=>Q true H
theorem gN {X:Cx}:PTs X [] xf:=fun _ _ _ H _ I h=>wpAny_tests_nil ⟨H,I,h⟩
noncomputable def qy (J:It) (D:Addr) (g:TG) (tc:TT) (te:TE) (Q:VK) (τ:St) (H:Hp):Prop:=∃ W:Nat→Nat→St→Hp→Prop,(∃ m,W 0 m τ H)∧∀ i m τ H,W i m τ H→
 (J.stop i H∧Q (.ref D) H)∨(J.go i H∧∃ N:St→Hp→Prop,(∀ τ' H',N τ' H'→∃ m',m' < m∧W (i + 1) m' τ' H')∧∀ x H',J.yld i H x H'→g x τ H' fun τ2 H2=>tc τ2 H2 fun b H3=>if b=true then
   te τ2 H3 fun y H4=>∃ ys,H4 D=some (.lst ys)∧ys.length < sizeLine∧N τ2 (upd H4 D (.lst (ys ++ [y]))) else N τ2 H3)
noncomputable def j8 (wi:TI) (k:Nat) (ix:List Nat) (g:TG) (tc:TT) (te:TE):TE:=fun σ H Q=>wi σ H fun J H1=>∀ D,H1 D=none→qy J D g tc te Q (List.replicate k none ++ BZ σ ix) (upd H1 D (.lst []))
section
variable {X:Cx} {tg iter elt:Expr} {ifs:List Expr} {scope:Scope} {pos:Pos} {own:List Str} {ix:List Nat} {wi:TI} {g:TG} {tc:TT} {te:TE}
theorem A5 {it D:Addr} {fp:List Addr} {tn:Nat→Heap→Prop} {J:It} {Q:VK} {R:Result→Shared→Prop} {s:Shared} {τ:St} {H:Hp} (qz:X.calm=true) (hxe:X.xe=fun _ _=>False) (hpn:X.pn=[]) (T:Turn X.prog X.w X.K tg J fp it tn)
   (he:PE X elt te) (hg:PG X tg g) (ht:PTs X ifs tc) (I:Inv X [] τ H s) (hfp:∀ b∈fp,om X [] H b) (h0:tn 0 s.heap) (hW:qy J D g tc te Q τ H)
   (hR:∀ τ' H' s',Inv X [] τ' H' s'→Q (.ref D) H'→R (.ok .next) s') :
   codeAny (model X.prog X.w) X.A (.compLoop (.ListComp elt [⟨tg,iter,ifs,0⟩] scope pos) 0 (.ref it) (.ref D) X.env) R s:=by
 obtain ⟨W,⟨m0,w0⟩,turn⟩:=hW
 have no:∀ {E:Value→Shared→Prop} (e:Value) (s':Shared),X.xe e s'→E e s':=fun e s' z=>by rw [hxe] at z; exact z.elim
 have stat:∀ {H':Hp},(∀ b∈fp,H' b=none)→∀ b∈fp,om X [] H' b:=fun hn b hb=>⟨hn b hb,(hfp b hb).2⟩
 refine codeAny_loop rfl (fun n s'=>∃ i τ' H',Inv X [] τ' H' s'∧tn i s'.heap∧(∀ b∈fp,H' b=none)∧W i n τ' H') (fun n s3 hI=>?_) m0 ⟨0,τ,H,I,h0,fun b hb=>(hfp b hb).1,w0⟩
 obtain ⟨i,τ3,H3,I3,st3,fr3,w3⟩:=hI
 show wpAny _ X.A ((compTurn (.ListComp elt [⟨tg,iter,ifs,0⟩] scope pos) 0 (.ref it) (.ref D) X.env).onRaise (fun x=>do noteFrame x X.env; theTreesLotGoes x)) _ _ s3
 refine wpAny_noted ?_
 rw [compTurn_list]
 refine wpAny_bind (wpAny_standAt (wpAny_bind ?_))
 rcases turn i n τ3 H3 w3 with ⟨stop,q⟩ | ⟨go,N,hN,step⟩
 · refine wpAny_mono (T.done X rfl rfl rfl qz i [] s3 τ3 H3 X.xe I3 (stat fr3) st3 stop) (fun r s4 ⟨hr,I4⟩=>?_) no
   subst hr
   exact wpAny_pure (hR τ3 H3 s4 I4 q)
 · refine wpAny_mono (T.item X rfl rfl rfl qz i [] s3 τ3 H3 X.xe I3 (stat fr3) st3 go) (fun r s4 ⟨u,hr,h4⟩=>?_) no
   subst hr
   refine wpAny_bind (wpAny_mono h4 (fun _ s5 ⟨x,H5,I5,r5,y5,st5,fr5⟩=>?_) no)
   have I5':=I5.pinned (stat fr5) (T.obj _ _ st5)
   refine wpAny_bind (wpAny_mono (hg _ s5 τ3 H5 x u _ I5' r5 (step x H5 y5)) (fun _ s6 ⟨τ6,H6,I6,q6⟩=>?_) no)
   refine wpAny_bind (wpAny_mono (ht _ s6 τ6 H6 _ I6 q6) (fun b s7 ⟨H7,I7,q7⟩=>?_) no)
   have again:∀ {τ7:St} {H7:Hp} {s7:Shared},Inv X ([] ++ rP fp s5.heap) τ7 H7 s7→N τ7 H7→∃ m,m < n∧∃ i σ' H',Inv X [] σ' H' s7∧tn i s7.heap∧(∀ b∈fp,H' b=none)∧W i m σ' H':=fun {τ7 H7 s7} I7 n7=>by
     obtain ⟨m',hm,w7⟩:=hN τ7 H7 n7
     refine ⟨m',hm,i + 1,τ7,H7,I7.oo,T.keep _ _ _ st5 fun b hb o e=>(I7.pin (b,o) (List.mem_append_right _ (List.mem_append_right _ (jw hb e)))).1,fun b hb=>?_,w7⟩
     obtain ⟨o,e,d⟩:=T.obj _ _ st5 b hb
     exact (I7.pin (b,o) (List.mem_append_right _ (List.mem_append_right _ (jw hb e)))).2.1
   cases b with
   | false=>exact wpAny_pure ⟨rfl,again I7 q7⟩
   | true=>
     refine wpAny_bind (wpAny_bind (wpAny_mono (he _ s7 τ6 H7 _ I7 q7) (fun v s8 ⟨y,H8,I8,r8,ys,hD,hl,q8⟩=>wpAny_bind ?_) no))
     refine wpAny_mono (dD _ s8 τ6 H8 (.ref D) [y] (.ref D) [v] (fun _ H'=>N τ6 H') I8 rfl (.cons r8 .nil) ⟨D,ys,y,rfl,rfl,hD,hl,q8⟩) (fun _ s9 ⟨_,H9,I9,_,q9⟩=>?_) no
     exact wpAny_pure (wpAny_pure ⟨rfl,again I9 q9⟩)
theorem xg {pins:List (Addr × Obj)} {s:Shared} {σ:St} {H:Hp} {Q:VK} {use:Option (Value→Sem Unit)} {Q':Value→Shared→Prop} (qz:X.calm=true) (hf:gM scope X.env.scope=true) (hc:rF scope X.env.scope X.N ix=true)
   (hi:PI X tg iter wi) (hg:∀ C s₀ H₀ ex,PG (hC X scope own ix C s₀ H₀ ex) tg g) (ht:∀ C s₀ H₀ ex,PTs (hC X scope own ix C s₀ H₀ ex) ifs tc) (he:∀ C s₀ H₀ ex,PE (hC X scope own ix C s₀ H₀ ex) elt te)
   (I:Inv X pins σ H s) (h:j8 wi own.length ix g tc te σ H Q)
   (hU:∀ (D C:Addr) (H':Hp) (s':Shared) (m:Str→Option Value),Inv X pins σ H' s'→Q (.ref D) H'→s'.heap.Ns C m→H' C=none→C≠X.env.locals→X.s₀.heap.objs.size≤C→(∀ x c,X.env.cells.lookup x=some c→c≠C)→(∀ p∈X.pn ++ pins,p.1≠C)→compPost (model X.prog X.w) X.A X.xe use Q' (.ref D) C (.ok .next) s')
   (hs:∀ x,foldedSetIterable iter X.env x=pure x) :
   wpAny (model X.prog X.w) X.A (comprehension (.ListComp elt [⟨tg,iter,ifs,0⟩] scope pos) scope X.env (firstIterPos [⟨tg,iter,ifs,0⟩] pos) (newList []) false (eval iter X.env) use) Q' X.xe s:=by
 have fits:=(kN hf)
 have og:∀ p∈scope.names,p.2=.free→∃ c,X.env.cells.lookup p.1=some c:=fun p hp e=>I.ok.has p.1 ((fits p hp).2.1 e)
 refine wpAny_comprehension_free (use:=use) rfl hs (qX og) (jz hf) (fun x hx=>(fits x hx).2.2) ?_
 refine thn (hi pins s σ H _ I h) fun v s1 h1=>thn h1 fun itv s2 h2=>?_
 obtain ⟨it,fp,tn,J,H2,e,I2,T,st2,f2,hW⟩:=h2
 subst e
 refine wpAny_newObj_type (hd:=by size_fits) ?_
 have hD:H2 s2.heap.objs.size=none:=I2.hok.fresh (Nat.le_refl _)
 have I3:Inv X pins σ (upd H2 s2.heap.objs.size (.lst [])) { s2 with heap:=s2.heap.push { cls:=.type "list",dict:=none,data:=.seq ([]:List Value).toArray } }:=
   I2.laid (t':=s2.toks) (fun b u e=>Heap.get?_push_of_some _ e) (Nat.le_refl _) ⟨Nat.zero_le _,[],0,.nil,Heap.get?_push_size _ rfl⟩
 have W3:=hW s2.heap.objs.size hD
 have lt3:∀ b∈fp,b < s2.heap.objs.size:=fun b hb=>let ⟨o,e,_⟩:=T.obj _ _ st2 b hb; Heap.lt_size e
 have fp3:∀ b∈fp,om X pins (upd H2 s2.heap.objs.size (.lst [])) b∧b < (s2.heap.push { cls:=.type "list",dict:=none,data:=.seq ([]:List Value).toArray }).objs.size:=fun b hb=>
   ⟨⟨by rw [aR (Nat.ne_of_lt (lt3 b hb))]; exact (f2 b hb).1,(f2 b hb).2⟩,by rw [Heap.size_push]; exact Nat.lt_succ_of_lt (lt3 b hb)⟩
 have st3:tn 0 (s2.heap.push { cls:=.type "list",dict:=none,data:=.seq ([]:List Value).toArray }):=T.keep _ _ _ st2 fun b _ o e=>Heap.get?_push_of_some _ e
 generalize hs3:({ s2 with heap:=s2.heap.push { cls:=.type "list",dict:=none,data:=.seq ([]:List Value).toArray } }:Shared)=s3 at I3
 generalize hH3:upd H2 s2.heap.objs.size (.lst [])=H3 at I3 W3 fp3
 have eh:s2.heap.push { cls:=.type "list",dict:=none,data:=.seq ([]:List Value).toArray }=s3.heap:=by rw [← hs3]
 rw [eh] at fp3 st3
 refine wpAny_newFunctionEnv (fun x hx=>(fits x hx).1) (by intro y hy; simp at hy) (fun h4 hns hsb=>?_) (jz hf)
 have kept:∀ b o,s3.heap.get? b=some o→h4.get? b=some o:=fun b o e=>hsb.extBut b o (Nat.ne_of_lt (Heap.lt_size e)) (Heap.get?_push_of_some _ e)
 have I4:=B0 (own:=own) (tk:=s3.toks + ([]:List (Str × Value)).length) I3 hf hc fp3 hns kept
 have fp4:∀ b∈fp,om (hC X scope own ix s3.heap.objs.size s3 H3 fp) [] H3 b:=fun b hb=>by
   obtain ⟨⟨f0,f1,f2',f3,f4,f5⟩,lt⟩:=fp3 b hb
   refine ⟨f0,Nat.ne_of_lt lt,fun z=>?_,.inl hb,fun x c e=>f4 x c (ox og (fun x c e=>by simp at e) e),fun p hp=>absurd (show p∈([]:List (Addr × Obj)) ++ [] from hp) (by simp)⟩
   rcases List.mem_cons.mp (I3.vp b z) with z | z
   · exact f1 z
   · exact f2' z
 have st4:tn 0 h4:=T.keep _ _ _ st3 fun b _ o e=>kept b o e
 have loop:=A5 (X:=hC X scope own ix s3.heap.objs.size s3 H3 fp) (iter:=iter) (scope:=scope) (pos:=pos) (R:=compPost (model X.prog X.w) X.A X.xe use Q' (.ref s2.heap.objs.size) s3.heap.objs.size) qz rfl rfl T (he _ _ _ _) (hg _ _ _ _) (ht _ _ _ _) I4 fp4 st4 W3
   (fun τ' H' s' I' q=>by
     obtain ⟨J1,J2,J3,J4,J5,J6⟩:=comp_back I3 fp3 I'
     obtain ⟨m,hm,_⟩:=I'.loc
     exact hU _ _ H' s' m J1 q hm J2 J3 J4 J5 J6)
 exact codeAny_compStart_list loop (T.self X.A 0 _ _ _ st4 loop)
theorem iL (qz:X.calm=true) (hf:gM scope X.env.scope=true) (hc:rF scope X.env.scope X.N ix=true)
   (hi:PI X tg iter wi) (hg:∀ C s₀ H₀ ex,PG (hC X scope own ix C s₀ H₀ ex) tg g) (ht:∀ C s₀ H₀ ex,PTs (hC X scope own ix C s₀ H₀ ex) ifs tc) (he:∀ C s₀ H₀ ex,PE (hC X scope own ix C s₀ H₀ ex) elt te)
   (hs:∀ x,foldedSetIterable iter X.env x=pure x:=by intro _; rfl):PE X (.ListComp elt [⟨tg,iter,ifs,0⟩] scope pos) (j8 wi own.length ix g tc te):=by
 intro pins s σ H Q I h
 rw [eval_ListComp]
 refine xg (use:=none) qz hf hc hi hg ht he I h (fun D C H' s' m I' q hm n1 n2 n3 n4 n5=>?_) hs
 refine ⟨m,hm,fun h' sb=>⟨.ref D,H',?_,rfl,q⟩⟩
 exact I'.turned (t':=s'.toks) (it:=C) (fun b o hb e=>sb.extBut b o hb e) n1 (Ne.symm (Ne.symm n2)) (.inr n3) n4 n5
theorem En {i:Nat} {y:Str} {py HE:Pos} (hN:X.N.Nodup) (hiy:X.N[i]?=some y) (hy:Loc X.env.scope y) (qz:X.calm=true) (hf:gM scope X.env.scope=true) (hc:rF scope X.env.scope X.N ix=true)
   (hi:PI X tg iter wi) (hg:∀ C s₀ H₀ ex,PG (hC X scope own ix C s₀ H₀ ex) tg g) (ht:∀ C s₀ H₀ ex,PTs (hC X scope own ix C s₀ H₀ ex) ifs tc) (he:∀ C s₀ H₀ ex,PE (hC X scope own ix C s₀ H₀ ex) elt te)
   (hsw:swapsWith (.ListComp elt [⟨tg,iter,ifs,0⟩] scope pos) (some (.Name y py)) HE.line X.env=pure true:=by rfl)
   (hs:∀ x,foldedSetIterable iter X.env x=pure x:=by intro _; rfl) (hfn:X.fn y=true∨X.env.scope.names.lookup y=some .local:=by first | exact .inl rfl | exact .inr rfl | assumption) :
   PS X (.Assign [.Name y py] (.ListComp elt [⟨tg,iter,ifs,0⟩] scope pos) HE) (BE (j8 wi own.length ix g tc te) (eu i)):=by
 intro pins s σ H D I h
 rw [exec_Assign_Name_used _ _ _ _ hsw]
 refine wpAny_bind (wpAny_standAt (wpAny_bind ?_))
 show wpAny _ _ (do let _ ← comprehension (.ListComp elt [⟨tg,iter,ifs,0⟩] scope pos) scope X.env _ (newList []) false (eval iter X.env) (some (assign (.Name y py) X.env))) _ _ s
 refine wpAny_bind (wpAny_mono (xg (use:=some (assign (.Name y py) X.env)) (Q':=fun _ s'=>SP X pins D .next s') qz hf hc hi hg ht he I h (fun L C H' s' m I' q hm n1 n2 n3 n4 n5=>?_) hs) (fun _ s' hq=>wpAny_pure (wpAny_pure hq)) fun _ _ e=>e)
 show wpAny _ _ (assign (.Name y py) X.env (.ref L)) _ _ _
 refine wpAny_assign_Name (uL I' hN hiy hy (v:=.ref L) rfl (fun s2 I2 ⟨a,sb,ha⟩=>?_) hfn)
 have hCa:C≠a:=by
   rcases ha with rfl | ha
   · exact n2
   · exact fun z=>n4 y a ha z.symm
 refine ⟨m,hm.sameBut sb hCa,fun h' sb'=>⟨_,H',?_,q⟩⟩
 exact I2.turned (t':=s2.toks) (it:=C) (fun b o hb e=>sb'.extBut b o hb e) n1 n2 (.inr n3) n4 n5
end
end L2
namespace L2
open PySem PySem.Spec PyProof.Rows
inductive Dp where
 | non | bl (b:Bool) | int (i:Int) | str (x:Str) | tup (l:List Dp) | lst (l:List Dp)
mutual
noncomputable def Rep (K:PySem.W.Frag) (H:Hp):Dp→V→Prop
 | .non,v=>v=.non
 | .bl b,v=>v=.bl b
 | .int i,v=>v=.int i
 | .str x,v=>v=.str x
 | .tup l,v=>∃ a xs,v=.ref a∧SqT K H a xs∧aM K H l xs
 | .lst l,v=>∃ a xs,v=.ref a∧SqL K H a xs∧aM K H l xs
noncomputable def aM (K:PySem.W.Frag) (H:Hp):List Dp→List V→Prop
 | [],vs=>vs=[]
 | d :: ds,vs=>∃ v r,vs=v :: r∧Rep K H d v∧aM K H ds r
end
mutual
noncomputable def Dp.deep:Dp→Nat
 | .tup l=>Dp.B1 l + 1
 | .lst l=>Dp.B1 l + 1
 | _=>0
noncomputable def Dp.B1:List Dp→Nat
 | []=>0
 | d :: ds=>max d.deep (Dp.B1 ds)
end
theorem aC.c9 {K:PySem.W.Frag} {H H':Hp} {a:Addr} {xs:List V} (e:aC H H') (h:SqT K H a xs):SqT K H' a xs:=by
 rcases h with (h | ⟨o,h⟩) | h
 · exact .inl (.inl (e _ _ h))
 · exact .inl (.inr ⟨o,e _ _ h⟩)
 · exact .inr h
mutual
theorem Rep.mono {K:PySem.W.Frag} {H H':Hp} (e:aC H H'):∀ {d:Dp} {v:V},Rep K H d v→Rep K H' d v
 | .non,_,h=>h
 | .bl _,_,h=>h
 | .int _,_,h=>h
 | .str _,_,h=>h
 | .tup l,_,h=>by
   unfold Rep at h ⊢
   obtain ⟨a,xs,e1,e2,e3⟩:=h
   exact ⟨a,xs,e1,e.c9 e2,aM.mono e e3⟩
 | .lst l,_,h=>by
   unfold Rep at h ⊢
   obtain ⟨a,xs,e1,e2,e3⟩:=h
   exact ⟨a,xs,e1,e.seq e2,aM.mono e e3⟩
theorem aM.mono {K:PySem.W.Frag} {H H':Hp} (e:aC H H'):∀ {ds:List Dp} {vs:List V},aM K H ds vs→aM K H' ds vs
 | [],_,h=>h
 | d :: ds,_,h=>by
   unfold aM at h ⊢
   obtain ⟨v,r,e1,e2,e3⟩:=h
   exact ⟨v,r,e1,Rep.mono e e2,aM.mono e e3⟩
end
theorem aM.length {K:PySem.W.Frag} {H:Hp}:∀ {ds:List Dp} {vs:List V},aM K H ds vs→vs.length=ds.length
 | [],_,h=>by unfold aM at h; rw [h]; rfl
 | d :: ds,_,h=>by
   unfold aM at h
   obtain ⟨v,r,e1,_,e3⟩:=h
   rw [e1,List.length_cons,List.length_cons,aM.length e3]
theorem aM.get {K:PySem.W.Frag} {H:Hp}:∀ {ds:List Dp} {vs:List V} {i:Nat} {d:Dp},aM K H ds vs→ds[i]?=some d→∃ v,vs[i]?=some v∧Rep K H d v
 | [],_,_,_,_,e=>by simp at e
 | d :: ds,_,0,_,h,e=>by
   unfold aM at h
   obtain ⟨v,r,e1,e2,e3⟩:=h
   simp only [List.getElem?_cons_zero,Option.some.injEq] at e
   subst e
   exact ⟨v,by rw [e1]; rfl,e2⟩
 | d :: ds,_,i + 1,d',h,e=>by
   unfold aM at h
   obtain ⟨v,r,e1,e2,e3⟩:=h
   rw [List.getElem?_cons_succ] at e
   obtain ⟨v',h1,h2⟩:=aM.get e3 e
   exact ⟨v',by rw [e1,List.getElem?_cons_succ]; exact h1,h2⟩
theorem aM.append {K:PySem.W.Frag} {H:Hp}:∀ {ds es:List Dp} {vs us:List V},aM K H ds vs→aM K H es us→aM K H (ds ++ es) (vs ++ us)
 | [],_,_,_,h,h'=>by unfold aM at h; rw [h]; exact h'
 | d :: ds,_,_,_,h,h'=>by
   unfold aM at h
   obtain ⟨v,r,e1,e2,e3⟩:=h
   rw [e1]
   show aM K H (d :: (ds ++ _)) (v :: (r ++ _))
   unfold aM
   exact ⟨v,_,rfl,e2,aM.append e3 h'⟩
theorem aM.nil {K:PySem.W.Frag} {H:Hp}:aM K H [] []:=by unfold aM; rfl
theorem aM.cons {K:PySem.W.Frag} {H:Hp} {d:Dp} {ds:List Dp} {v:V} {vs:List V} (h:Rep K H d v) (h':aM K H ds vs):aM K H (d :: ds) (v :: vs):=by unfold aM; exact ⟨v,vs,rfl,h,h'⟩
theorem Rep.a8 {K:PySem.W.Frag} {H:Hp} {l:List Dp} {v:V}:Rep K H (.tup l) v↔∃ a xs,v=.ref a∧SqT K H a xs∧aM K H l xs:=by unfold Rep; exact Iff.rfl
theorem Rep.bU {K:PySem.W.Frag} {H:Hp} {l:List Dp} {v:V}:Rep K H (.lst l) v↔∃ a xs,v=.ref a∧SqL K H a xs∧aM K H l xs:=by unfold Rep; exact Iff.rfl
theorem Rep.bG {K:PySem.W.Frag} {H:Hp} {i:Int} {v:V}:Rep K H (.int i) v↔v=.int i:=by unfold Rep; exact Iff.rfl
theorem Rep.bV {K:PySem.W.Frag} {H:Hp} {x:Str} {v:V}:Rep K H (.str x) v↔v=.str x:=by unfold Rep; exact Iff.rfl
theorem Rep.rZ {K:PySem.W.Frag} {H:Hp} {b:Bool} {v:V}:Rep K H (.bl b) v↔v=.bl b:=by unfold Rep; exact Iff.rfl
theorem Rep.rG {K:PySem.W.Frag} {H:Hp} {v:V}:Rep K H .non v↔v=.non:=by unfold Rep; exact Iff.rfl
theorem aM.cf {K:PySem.W.Frag} {H:Hp} {vs:List V}:aM K H [] vs↔vs=[]:=by unfold aM; exact Iff.rfl
theorem aM.aP {K:PySem.W.Frag} {H:Hp} {d:Dp} {ds:List Dp} {vs:List V}:aM K H (d :: ds) vs↔∃ v r,vs=v :: r∧Rep K H d v∧aM K H ds r:=by conv=>lhs; unfold aM
theorem aC.new {H:Hp} {p:Addr} (h:H p=none) (o:HO):aC H (upd H p o):=fun b u q=>by rw [aR (aA q h)]; exact q
section
variable {X:Cx} {pins:List (Addr × Obj)} {σ:St} {H:Hp} {s:Shared}
end
section
variable {X:Cx}
noncomputable def Fo (K:PySem.W.Frag) (b:Bool):R2:=fun x y H Q=>∃ d,Rep K H d x∧Rep K H d y∧d.deep≤150∧Q (.bl b) H
end
section
variable {X:Cx}
noncomputable def HF (i j:Int):Prop:=i.natAbs < 2 ^ 4000∧j.natAbs < 2 ^ 4000
theorem bits_le {i:Int} (h:i.natAbs < 2 ^ 4000):Builtin.Int.intBits i≤2 ^ 20:=Nat.le_trans (intBits_le h) (by decide)
theorem Eo:OpR X (binaryOp .Mult) (rI HF fun i j=>.int (i * j)):=opI fun _ _ _ _ _ _ _ hc q=>mul_int q (IntMulOk.of_bits (bits_le hc.1) (bits_le hc.2))
theorem se (hc:X.calm=true):uN X (.builtin "sum") (fun xs H Q=>∃ (p:Addr) (ns:List Int),xs=[.ref p]∧SqL X.K H p (ns.map V.int)∧Q (.int ns.sum) H):=by
 intro pins s σ H xs us Q I r h
 obtain ⟨p,ns,rfl,hl,q⟩:=h
 obtain ⟨u,rfl,ru⟩:=vals1 r
 cases (show u=Value.ref p from ru)
 obtain ⟨its,rv,pl,_⟩:=I.list hl
 have hi:IntsAre its ns:=intsAre_of rv
 obtain ⟨xs,e⟩:=hi.allInts.items
 have hl':=pl.isList
 have en:(numsOf its).sum=ns.sum:=by rw [hi.numsOf]
 have en':numsOf (intItems xs).toList=numsOf its:=by rw [← e]
 rw [e] at hl'
 refine sum_intListG (I.ok.hd hc) hl' fun h' tk t' hk=>?_
 refine ⟨.int ns.sum,H,I.kept (t':=tk) hk,⟨t',?_⟩,q⟩
 rw [nums_intItems] at en'
 rw [preSum_eq,List.take_of_length_le (by simp),← en,← en']
end
structure dN (K:PySem.W.Frag) (mg:Str→Option Value) (x:Str) (st:Stmt) (ps:List Str) (f:Addr) (fd:FuncData):Prop where
 F:Fun K x x st f fd
 b:Binds K fd ps []
 m:mg x=some (.ref f)
end L2
namespace L2
open PySem PySem.Spec PyProof.Rows
theorem HG {g:Int→Int→V} {i j:Int} {H:Hp} {Q:VK}:rI0 g (.int i) (.int j) H Q↔Q (g i j) H:=⟨fun ⟨_,_,e1,e2,q⟩=>by cases e1; cases e2; exact q,fun q=>⟨_,_,rfl,rfl,q⟩⟩
theorem Ji {C:Int→Int→Prop} {g:Int→Int→V} {i j:Int} {H:Hp} {Q:VK}:rI C g (.int i) (.int j) H Q↔C i j∧Q (g i j) H:=⟨fun ⟨_,_,e1,e2,c,q⟩=>by cases e1; cases e2; exact ⟨c,q⟩,fun q=>⟨_,_,rfl,rfl,q⟩⟩
theorem B2 {a:V} {r:St} {H:Hp} {Q:VK}:(eL 0 (some a :: r) H Q)=(Q a H):=rfl
theorem B3 {a:Option V} {r:St} {H:Hp} {Q:VK}:(eL 1 (a :: r) H Q)=(eL 0 r H Q):=rfl
theorem B4 {a:Option V} {r:St} {H:Hp} {Q:VK}:(eL 2 (a :: r) H Q)=(eL 1 r H Q):=rfl
theorem B5 {a:Option V} {r:St} {H:Hp} {Q:VK}:(eL 3 (a :: r) H Q)=(eL 2 r H Q):=rfl
theorem B6 {a:Option V} {r:St} {H:Hp} {Q:VK}:(eL 4 (a :: r) H Q)=(eL 3 r H Q):=rfl
theorem B7 {a:Option V} {r:St} {H:Hp} {Q:VK}:(eL 5 (a :: r) H Q)=(eL 4 r H Q):=rfl
theorem B8 {a:Option V} {r:St} {H:Hp} {Q:VK}:(eL 6 (a :: r) H Q)=(eL 5 r H Q):=rfl
theorem B9 {a:Option V} {r:St} {H:Hp} {Q:VK}:(eL 7 (a :: r) H Q)=(eL 6 r H Q):=rfl
theorem Ca {a:Option V} {r:St} {H:Hp} {Q:VK}:(eL 8 (a :: r) H Q)=(eL 7 r H Q):=rfl
theorem Cb {a:Option V} {r:St} {H:Hp} {Q:VK}:(eL 9 (a :: r) H Q)=(eL 8 r H Q):=rfl
theorem HH {v:V} {σ:St} {H:Hp} {Q:VK}:(tC v σ H Q)=(Q v H):=rfl
theorem Fp {r:R2} {ta tb:TE} {σ:St} {H:Hp} {Q:VK}:(tOp r ta tb σ H Q)=(ta σ H fun x H1=>tb σ H1 fun y H2=>r x y H2 Q):=rfl
theorem HI {b:Bool} {p:Bool→Prop}:(∃ k,V.bl b=.bl k∧p k)↔p b:=⟨fun ⟨_,e,q⟩=>by cases e; exact q,fun q=>⟨_,rfl,q⟩⟩
theorem Gh {b:Int} {p:Int→Prop}:(∃ k,V.int b=.int k∧p k)↔p b:=⟨fun ⟨_,e,q⟩=>by cases e; exact q,fun q=>⟨_,rfl,q⟩⟩
theorem Gi {b:Addr} {p:Addr→Prop}:(∃ k,V.ref b=.ref k∧p k)↔p b:=⟨fun ⟨_,e,q⟩=>by cases e; exact q,fun q=>⟨_,rfl,q⟩⟩
theorem zW {t:TE} {σ:St} {H:Hp} {Q:Bool→Hp→Prop}:(zO t σ H Q)=(t σ H fun x H'=>∃ k,x=.bl k∧Q k H'):=rfl
theorem Fq {x y:V} {H:Hp} {Q:VK}:(rEq x y H Q)=(AQ x y=true∧Q (.bl (decide (x=y))) H):=rfl
theorem Ft {x y:V} {H:Hp} {Q:VK}:(rNe x y H Q)=(AQ x y=true∧Q (.bl (!decide (x=y))) H):=rfl
theorem Gj {i j:Int}:(V.int i=V.int j)=(i=j):=by simp
theorem Gk {i j:Str}:(V.str i=V.str j)=(i=j):=by simp
theorem Ep {c:Prop} [Decidable c] {A B:Prop}:(if decide c=true then A else B)↔if c then A else B:=by simp
theorem Cc {c:Prop} [Decidable c] {A B:Prop}:(if (!decide c)=true then A else B)↔if c then B else A:=by by_cases h:c <;> simp [h]
theorem aQ {K:PySem.W.Frag} {p:Addr} {i:Int} {H:Hp} {Q:VK} {xs:List V} {v:V} (h:SqT K H p xs) (hv:atI xs i=some v) (q:Q v H):F7 K (.ref p) (.int i) H Q:=⟨p,xs,i,v,rfl,rfl,h,hv,q⟩
theorem yx {K:PySem.W.Frag} {p:Addr} {i:Int} {H:Hp} {Q:VK} {xs:List V} {v:V} (h:SqL K H p xs) (hv:atI xs i=some v) (q:Q v H):Hs K (.ref p) (.int i) H Q:=⟨p,xs,i,v,rfl,rfl,h,hv,q⟩
section
variable {P:Program} {w:World} {K:PySem.W.Frag} {mg:Str→Option Value} {base:Heap}
theorem Fun.okS {x qual:Str} {st:Stmt} {f:Addr} {fd:FuncData} {N ps:List Str} {k:Nat} {sp:Sp} (F:Fun K x qual st f fd) (S:bj N ps (ak st)) (len:∀ vs H Q E,sp vs H Q E→vs.length=ps.length)
   (wY:∀ (cdv:Value) (A:Around) (outer:List Env) (s:Shared) (H:Hp) (vs:List V) (Q:VK) (E:XK),eZ k (A.deeper (envOfC qual (ak st) s.heap.objs.size f cdv))→sp vs H Q E→
     ∃ t σ,PSs (wW CX0 P w K mg base N qual (ak st) f cdv A outer s H E).nox (aD st) t∧L2.start N vs=σ∧t { nx:=fun _ H'=>Q .non H',rt:=Q } σ H):bP P w K mg base CX0 (k + 1) f fd ps sp:=
 F.ok S len fun cdv A outer s H vs Q E hr h=>let ⟨t,_,h1,h2,h3⟩:=wY cdv A outer s H vs Q E hr h; ⟨t,h1,by rw [h2]; exact h3⟩
end
theorem zX {sp:Sp} {dvs:List V} {E:XK} {t:TA} {σ:St} {H:Hp} {Q:VK}:(Fj sp dvs E t σ H Q)=(t σ H fun vs H1=>sp (vs ++ dvs) H1 Q E):=rfl
theorem zY {ta:TE} {tr:TA} {σ:St} {H:Hp} {Q:List V→Hp→Prop}:(Fi ta tr σ H Q)=(ta σ H fun x H1=>tr σ H1 fun xs H2=>Q (x :: xs) H2):=rfl
theorem Cd {σ:St} {H:Hp} {Q:List V→Hp→Prop}:(F5 σ H Q)=(Q [] H):=rfl
theorem Ce {t:TA} {σ:St} {H:Hp} {Q:VK}:(Hm t σ H Q)=(t σ H fun xs H1=>xs.length≤sizeLine∧∀ p,H1 p=none→Q (.ref p) (upd H1 p (.tup xs))):=rfl
theorem Cf {t:TA} {σ:St} {H:Hp} {Q:VK}:(Hn t σ H Q)=(t σ H fun xs H1=>xs.length≤sizeLine∧∀ p,H1 p=none→Q (.ref p) (upd H1 p (.lst xs))):=rfl
theorem Er {n:Nat} (h:n≤1000):n≤sizeLine:=Nat.le_of_lt (A0 h)
theorem Rep.new {K:PySem.W.Frag} {H:Hp} {p:Addr} {vs:List V} {ds:List Dp} (h:H p=none) (r:aM K H ds vs):Rep K (upd H p (.tup vs)) (.tup ds) (.ref p):=Rep.a8.mpr ⟨p,vs,rfl,.of ar,r.mono (aC.new h _)⟩
theorem Rep.Jj {K:PySem.W.Frag} {H:Hp} {p:Addr} {vs:List V} {ds:List Dp} (h:H p=none) (r:aM K H ds vs):Rep K (upd H p (.lst vs)) (.lst ds) (.ref p):=Rep.bU.mpr ⟨p,vs,rfl,.of ar,r.mono (aC.new h _)⟩
theorem Es {i j:Int}:AQ (.int i) (.int j)=true:=rfl
theorem Et {i j:Str}:AQ (.str i) (.str j)=true:=rfl
theorem Eu {n:Nat} (h:n≤1000):(n≤sizeLine)=True:=eq_true (Er h)
theorem Cg {i j:Int}:(Hg i j)=(0 < j∧j < 1073741824):=rfl
theorem Ci {CX:CXT} {P:Program} {w:World} {K:PySem.W.Frag} {mg:Str→Option Value} {base:Heap} {N:List Str} {qual:Str} {scope:Scope} {f:Addr} {cd:Value} {A:Around} {outer:List Env} {s:Shared} {H:Hp} {E:XK}:(wW CX P w K mg base N qual scope f cd A outer s H E).K=K:=rfl
theorem zZ {X:Cx} {scope:Scope} {own:List Str} {ix:List Nat} {C:Addr} {s₀:Shared} {H₀:Hp} {ex:List Addr}:(hC X scope own ix C s₀ H₀ ex).K=X.K:=rfl
theorem mulR {z b:Int} (h1 : -18446744073709551616 < b) (h2:b < 18446744073709551616):AO z b:=.inr ⟨h1,h2⟩
theorem mulL {z b:Int} (h1 : -18446744073709551616 < z) (h2:z < 18446744073709551616):AO z b:=.inl ⟨h1,h2⟩
theorem Ew {x:Str} {pos:Pos}:rE (.Name x pos):=fun _ _=>rfl
theorem aw {c:Const} {k:Nat} {pos:Pos}:rE (.Constant c k pos):=fun _ _=>rfl
theorem Ex {a:Expr} {x:Str} {pos:Pos}:rE (.Attribute a x pos):=fun _ _=>rfl
theorem fD {a b:Expr} {op:Operator} {pos:Pos} {es:List Expr} {env:Env}:starEach (.BinOp a op b pos :: es) env=(false,eval (.BinOp a op b pos) env) :: starEach es env:=rfl
theorem ah {x:Str} {pos:Pos} {es:List Expr} {env:Env}:starEach (.Name x pos :: es) env=(false,eval (.Name x pos) env) :: starEach es env:=rfl
theorem ai {c:Const} {k:Nat} {pos:Pos} {es:List Expr} {env:Env}:starEach (.Constant c k pos :: es) env=(false,eval (.Constant c k pos) env) :: starEach es env:=rfl
theorem br {a b:Expr} {pos:Pos} {es:List Expr} {env:Env}:starEach (.Subscript a b pos :: es) env=(false,eval (.Subscript a b pos) env) :: starEach es env:=rfl
theorem cU {f:Expr} {as:List Expr} {ks:List Keyword} {pos:Pos} {es:List Expr} {env:Env}:starEach (.Call f as ks pos :: es) env=(false,eval (.Call f as ks pos) env) :: starEach es env:=rfl
theorem ma {a:Expr} {x:Str} {pos:Pos} {es:List Expr} {env:Env}:starEach (.Attribute a x pos :: es) env=(false,eval (.Attribute a x pos) env) :: starEach es env:=rfl
theorem df {as:List Expr} {pos:Pos} {es:List Expr} {env:Env}:starEach (.List as pos :: es) env=(false,eval (.List as pos) env) :: starEach es env:=rfl
theorem aF {as:List Expr} {k} {pos:Pos} {es:List Expr} {env:Env}:starEach (.Tuple as k pos :: es) env=(false,eval (.Tuple as k pos) env) :: starEach es env:=rfl
theorem me {a:Expr} {gs:List Comprehension} {sc:Scope} {pos:Pos} {es:List Expr} {env:Env}:starEach (.ListComp a gs sc pos :: es) env=(false,eval (.ListComp a gs sc pos) env) :: starEach es env:=rfl
noncomputable def Cj:Expr→Option V
 | .Constant (.int i) _ _=>some (.int i)
 | .Constant (.str x) _ _=>some (.str x)
 | .Constant (.bool b) _ _=>some (.bl b)
 | .Constant .none _ _=>some .non
 | _=>none
noncomputable def Ck (vs:List V):TA:=fun _ H Q=>Q vs H
theorem aB {X:Cx}:∀ {es:List Expr} {vs:List V},es.map Cj=vs.map some→PA X es (Ck vs)
 | [],[],_=>ae
 | [],_ :: _,h=>by cases h
 | _ :: _,[],h=>by cases h
 | e :: es,v :: vs,h=>by
   rw [List.map_cons,List.map_cons] at h
   injection h with h1 h2
   have ih:=aB (X:=X) h2
   have one:∀ {e:Expr} {v:V},PE X e (tC v)→(starEach (e :: es) X.env=(false,eval e X.env) :: starEach es X.env)→PA X (e :: es) (Ck (v :: vs)):=fun he hs pos pins s σ H Q I q=>aa he ih hs pos pins s σ H Q I q
   unfold Cj at h1
   split at h1
   · cases h1; exact one aj ai
   · cases h1; exact one ay ai
   · cases h1; exact one rO ai
   · cases h1; exact one eX ai
   · cases h1
theorem z0 {vs:List V} {σ:St} {H:Hp} {Q:List V→Hp→Prop}:(Ck vs σ H Q)=(Q vs H):=rfl
theorem Aa {td ty:TE} {σ:St} {H:Hp} {Q:VK}:(Fm td ty σ H Q)=(td σ H fun x H1=>ty σ H1 fun y H2=>∃ a v,x=.ref a∧qW H2 a y (some v)∧Q v H2):=rfl
theorem xh {σ:St} {H:Hp} {Q:VK}:(Gg σ H Q)=(∀ p,H p=none→Q (.ref p) (upd H p (.dK []))):=rfl
theorem Ab {td ty tv:TE} {D:Ends} {σ:St} {H:Hp}:(Fn td ty tv D σ H)=(tv σ H fun v H1=>td σ H1 fun x H2=>ty σ H2 fun y H3=>∃ a H4,x=.ref a∧Gf H3 a y v H4∧D.nx σ H4):=rfl
theorem Fu {r:List V→Hp→VK→Prop} {t:TA} {σ:St} {H:Hp} {Q:VK}:(tCB r t σ H Q)=(t σ H fun vs H1=>r vs H1 Q):=rfl
theorem HJ {t:TE} {σ:St} {H:Hp} {Q:Bool→Hp→Prop}:(tB t σ H Q)=(t σ H fun x H1=>∃ c,x=.bl c∧Q c H1):=rfl
theorem Cm {t:TT} {σ:St} {H:Hp} {Q:Bool→Hp→Prop}:(Ha t σ H Q)=(t σ H fun c H1=>Q (!c) H1):=rfl
theorem qW.s {H:Hp} {a:Addr} {kvs:List (Key × V)} {x:Str} {v:V} (e:H a=some (.dK kvs)) (h:de kvs (Sum.inr x)=some v):qW H a (.str x) (some v):=by
 have:=qW.k (k:=Sum.inr x) e
 rw [h] at this
 exact this
end L2
namespace PM
noncomputable abbrev W:=List Nat
inductive Tr where
 | num (n:Int) | box (x:W) | bin (o:W) (l r:Tr)
 deriving DecidableEq
noncomputable def isLetter (c:Nat):Bool:=decide (97≤c) && decide (c≤122)
noncomputable def xi (c:Nat):Bool:=decide (48≤c) && decide (c≤57)
noncomputable def kind (c:Nat):Nat:=if isLetter c then 0 else if xi c then 1 else 2
noncomputable def mF (st:List W × Nat) (c:Nat):List W × Nat:=
 if kind c≠2∧kind c=st.2 then (st.1.dropLast ++ [st.1.getLastD [] ++ [c]],kind c) else (st.1 ++ [[c]],kind c)
noncomputable def Cn (w:W):List W × Nat:=w.foldl mF ([],3)
noncomputable def pieces (w:W):List W:=(Cn w).1
noncomputable def Ey:List W:=[[98,111,120],[97,115,107],[112,117,116],[115,97,121],[105,102],[101,108,115,101],[119,104,105,108,101],[109,117,115,116],[115,116,111,112],[101,110,100]]
noncomputable def isName (p:W):Bool:=decide (1≤p.length) && decide (p.length≤8) && p.all isLetter && !Ey.contains p
noncomputable def isNumber (p:W):Bool:=decide (1≤p.length) && decide (p.length≤3) && p.all xi && (decide (p=[48]) || !decide (p.head?=some 48))
noncomputable def nA (p:W):Int:=p.foldl (fun (a:Int) (c:Nat)=>a * 10 + ((c:Int) - 48)) 0
noncomputable abbrev P:=List W→Option (Tr × List W)
noncomputable def Ac (sub:P):P
 | []=>none
 | p :: r=>if isNumber p then some (.num (nA p),r) else if isName p then some (.box p,r) else if p=[40] then
     (match sub r with
     | some (e,q :: r')=>if q=[41] then some (e,r') else none
     | _=>none) else none
theorem yy (sub:P) (p:W) (r:List W):Ac sub (p :: r)=if isNumber p then some (.num (nA p),r) else if isName p then some (.box p,r) else if p=[40] then
     (match sub r with
     | some (e,q :: r')=>if q=[41] then some (e,r') else none
     | _=>none) else none:=rfl
noncomputable def Ae (ops:List W) (f:P):Nat→Tr→List W→Option (Tr × List W)
 | 0,e,ps=>some (e,ps)
 | _ + 1,e,[]=>some (e,[])
 | k + 1,e,p :: r=>if p∈ops then (match f r with
     | none=>none
     | some (e2,r')=>Ae ops f k (.bin p e e2) r') else some (e,p :: r)
noncomputable def xj (f:P):P:=fun ps=>match f ps with
 | none=>none
 | some (e,r)=>Ae [[42]] f r.length e r
noncomputable def Gm (f:P):P:=fun ps=>match xj f ps with
 | none=>none
 | some (e,r)=>Ae [[43],[45]] (xj f) r.length e r
noncomputable def factor:Nat→P
 | 0=>Ac fun _=>none
 | n + 1=>Ac (Gm (factor n))
noncomputable def expr (w:W):Option Tr:=if 60 < w.length then none else match Gm (factor 5) (pieces w) with
 | some (e,[])=>some e
 | _=>none
noncomputable def loop (ops:List W) (f:P) (e:Tr) (ps:List W):Option (Tr × List W):=Ae ops f ps.length e ps
theorem Co (f:P) (ps:List W):xj f ps=match f ps with
   | none=>none
   | some (e,r)=>loop [[42]] f e r:=rfl
noncomputable def fac (p:W):Bool:=isNumber p || isName p
noncomputable def Cp:List W:=[[43],[45],[42]]
noncomputable def step (p:W):Nat × Bool→Option (Nat × Bool)
 | (d,true)=>if p=[40] then (if d + 1 > 5 then none else some (d + 1,true)) else if fac p then some (d,false) else none
 | (d,false)=>if p=[41] then (if d=0 then none else some (d - 1,false)) else if p∈Cp then some (d,true) else none
noncomputable def run:List W→Nat × Bool→Option (Nat × Bool)
 | [],s=>some s
 | p :: r,s=>match step p s with
   | none=>none
   | some s'=>run r s'
noncomputable def good (ps:List W):Prop:=run ps (0,true)=some (0,false)
noncomputable instance (ps:List W):Decidable (good ps):=inferInstanceAs (Decidable (_=_))
structure Walk (d:Nat) (f:P) (nx:List W→Prop):Prop where
 yes:∀ ps e r,f ps=some (e,r)→run ps (d,true)=run r (d,false)∧nx r
 no:∀ ps,f ps=none→run ps (d,true)≠some (0,false)
noncomputable def nxP (r:List W):Prop:=r=[]∨∃ q t,r=q :: t∧q≠[42]
end PM
namespace PM
theorem yz {α:Type} {l:List α} {p:α} (h:l.getLast?=some p):l=l.dropLast ++ [p]:=by
 have hne:l≠[]:=by rintro rfl; cases h
 rw [List.getLast?_eq_some_getLast hne] at h
 have e:=(List.dropLast_concat_getLast hne).symm
 cases h
 exact e
end PM
namespace PM
noncomputable def RF (n:Nat) (t:Tr) (L:List W):Prop:=∀ rest,factor n (L ++ rest)=some (t,rest)
noncomputable def RP (n:Nat) (t:Tr) (L:List W):Prop:=∀ rest,xj (factor n) (L ++ rest)=loop [[42]] (factor n) t rest
noncomputable def RS (n:Nat) (t:Tr) (L:List W):Prop:=∀ rest,nxP rest→Gm (factor n) (L ++ rest)=loop [[43],[45]] (xj (factor n)) t rest
theorem RF.p {n:Nat} {t:Tr} {L:List W} (h:RF n t L):RP n t L:=fun rest=>by rw [Co,h rest]
theorem qA (n:Nat) (p:W) (r:List W) (h:isNumber p=true∨isName p=true):factor n (p :: r)=if isNumber p then some (.num (nA p),r) else some (.box p,r):=by
 have key:∀ sub:P,Ac sub (p :: r)=if isNumber p then some (.num (nA p),r) else some (.box p,r):=fun sub=>by
   rw [yy]
   by_cases h1:isNumber p=true
   · rw [if_pos h1,if_pos h1]
   · rw [if_neg h1,if_neg h1,if_pos (h.resolve_left h1)]
 cases n with
 | zero=>exact key _
 | succ n=>exact key _
theorem RF.num {n:Nat} {p:W} (h:isNumber p=true):RF n (.num (nA p)) [p]:=fun rest=>by
 show factor n (p :: rest)=_
 rw [qA n p rest (.inl h),if_pos h]
theorem RF.box {n:Nat} {p:W} (h:isName p=true) (h':isNumber p=false):RF n (.box p) [p]:=fun rest=>by
 show factor n (p :: rest)=_
 rw [qA n p rest (.inr h),if_neg (by rw [h']; simp)]
noncomputable def Fv:Tr→Bool
 | .bin o _ _=>decide (o=[43]) || decide (o=[45])
 | _=>false
noncomputable def isMul:Tr→Bool
 | .bin o _ _=>decide (o=[42])
 | _=>false
noncomputable def brL (o:W) (l:Tr) (m:Int):Bool:=(decide (o=[42]) && Fv l) || decide (m % 5=1)
noncomputable def brR (o:W) (r:Tr) (m:Int):Bool:=(Fv r || (decide (o=[42]) && isMul r)) || decide (m % 7=1)
noncomputable def dig (n:Nat):W:=(Nat.toDigits 10 n).map Char.toNat
noncomputable def put (b:Bool) (w:W):W:=if b then [40] ++ w ++ [41] else w
noncomputable def Gn (b:Bool) (w:List W):List W:=if b then [40] :: w ++ [[41]] else w
noncomputable def toks:Tr→Int→List W
 | .num n,_=>[dig n.toNat]
 | .box x,_=>[x]
 | .bin o l r,m=>Gn (brL o l m) (toks l (m / 2)) ++ o :: Gn (brR o r m) (toks r (m / 3))
noncomputable def b2n (b:Bool):Nat:=if b then 1 else 0
noncomputable def dep:Tr→Int→Nat
 | .bin o l r,m=>max (b2n (brL o l m) + dep l (m / 2)) (b2n (brR o r m) + dep r (m / 3))
 | _,_=>0
noncomputable def around:Nat→W→W
 | 0,w=>w
 | n + 1,w=>put true (around n w)
noncomputable def Ez:Nat→List W→List W
 | 0,w=>w
 | n + 1,w=>Gn true (Ez n w)
end PM
namespace PM
noncomputable def mkB (s:W):List Tr→List Tr
 | r :: l :: N=>.bin s l r :: N
 | N=>N
noncomputable def red (c:W):List Tr→List W→List Tr × List W
 | N,[]=>(N,[])
 | N,s :: S=>if s≠[40]∧(c≠[42]∨s=[42]) then red c (mkB s N) S else (N,s :: S)
noncomputable def leafOf (p:W):Tr:=if isNumber p then .num (nA p) else .box p
noncomputable def Gp (p:W) (st:List Tr × List W):List Tr × List W:=
 if p=[40] then (st.1,p :: st.2) else if fac p then (leafOf p :: st.1,st.2) else
   if p=[41] then ((red p st.1 st.2).1,(red p st.1 st.2).2.tail) else ((red p st.1 st.2).1,p :: (red p st.1 st.2).2)
noncomputable def sy (L:List W) (st:List Tr × List W):List Tr × List W:=L.foldl (fun st p=>Gp p st) st
noncomputable def Bot (S:List W):Prop:=S=[]∨∃ r,S=[40] :: r
noncomputable def JL (S:List W):Prop:=S=[]∨∃ s r,S=s :: r∧s≠[42]
end PM
namespace PM
end PM
namespace PM
noncomputable def leaf (p:W):Option Tr:=if isName p then some (.box p) else if isNumber p then some (.num (nA p)) else none
theorem shape {w:W} (h:w.head?=some 40∧w.getLast?=some 41):w=[40] ++ w.tail.dropLast ++ [41]:=by
 obtain ⟨h1,h2⟩:=h
 cases w with
 | nil=>cases h1
 | cons c r=>
   cases h1
   cases r with
   | nil=>simp at h2
   | cons d r=>
     have:(d :: r).getLast?=some 41:=by rw [List.getLast?_cons_cons] at h2; exact h2
     have e:=yz this
     show 40 :: (d :: r)=40 :: ((d :: r).dropLast ++ [41])
     rw [← e]
noncomputable def Jk (w:W):Prop:=∀ c∈w,c≠43∧c≠45∧c≠42
end PM
namespace L2
open PySem PySem.Spec PyProof.Rows
section
variable {P:Program} {w:World} {H H':Hp} {h h' B:Heap} {a:Addr} {o:HO}
theorem dH.there (x:dH P w H h a o):∃ ob,h.get? a=some ob:=by
 induction o with
 | lst xs=>obtain ⟨_,_,_,_,e⟩:=x; exact ⟨_,e⟩
 | tup xs=>obtain ⟨_,_,_,_,e,_⟩:=x; exact ⟨_,e⟩
 | dK kvs=>obtain ⟨_,_,_,_,o,_,_,e,_⟩:=x; exact ⟨_,e⟩
 | dT kvs=>obtain ⟨_,_,_,_,o,_,_,e,_⟩:=x; exact ⟨_,e⟩
 | set S n=>obtain ⟨o,_,_,_,e,_⟩:=x; exact ⟨_,e⟩
 | ins C dx fs=>obtain ⟨_,_,_,e,_⟩:=x; exact ⟨_,e⟩
 | own y=>exact x
 | xd fs=>obtain ⟨_,⟨_,_,_,e,_⟩,_⟩:=x; exact ⟨_,e⟩
 | rng lo hi=>obtain ⟨_,_,_,e⟩:=x; exact ⟨_,e⟩
 | frz ob u=>obtain ⟨e,_⟩:=x; exact ⟨_,e⟩
 | tbl ps=>exact ⟨_,(show h.get? a=some _ from x)⟩
 | met f y=>exact ⟨_,(show h.get? a=some _ from x)⟩
 | ext φ=>obtain ⟨_,e,_⟩:=x; exact e
end
section
variable {X:Cx} {pins:List (Addr × Obj)} {σ:St} {H H':Hp} {s s':Shared} {h':Heap} {E:XK} {x:Addr} {cls a0:Value} {B:Heap}
end
section
variable {P:Program} {w:World} {K:PySem.W.Frag} {mg:Str→Option Value} {base:Heap} {N:List Str} {qual:Str} {scope:Scope} {f:Addr} {cd:Value} {A:Around} {outer:List Env} {s₀:Shared} {H₀:Hp} {E:XK}
end
structure HK (K:PySem.W.Frag) (C:Addr):Prop where
 q:PySem.W.excIn K C [.type "ValueError",.type "Exception",.type "BaseException",.type "object"] "ValueError.__new__"=true
theorem HK.obj {K:PySem.W.Frag} {C:Addr} {h:Heap} (c:HK K C) (X:K.In h):∃ bm N nm q bs Jl sn sub ab col dd k0 k1 k2 k3 k5 mN,h.get? C=some (excClassObj nm q C N bs bm Jl sn sub ab col dd k0 k1 k2 k3 k5 "ValueError.__new__")∧h.Ns N mN∧mN "__init__"=none∧
   OwnTail h [.type "ValueError",.type "Exception",.type "BaseException",.type "object"] bm:=by
 have q:=c.q
 unfold PySem.W.excIn at q
 split at q
 · rename_i dd cd sl ho
   split at q
   · rename_i C' bm k0 k1 k2 k3 n k5 hm hs
     simp only [Bool.and_eq_true,beq_iff_eq,Bool.not_eq_true'] at q
     obtain ⟨⟨⟨⟨⟨rfl,rfl⟩,HL⟩,ht⟩,hok⟩,hni⟩:=q
     obtain ⟨nm,bs,mro,ns,qn,hd,sn,sub,ab,col,del⟩:=cd
     dsimp only at hm HL hok hni
     subst hm HL
     have hsl:sl = #[k0,k1,k2,k3,some (.builtin "ValueError.__new__"),k5]:=by
       obtain ⟨l⟩:=sl
       simp only at hs
       rw [hs]
     subst hsl
     exact ⟨bm,ns,nm,qn,bs,hd,sn,sub,ab,col,dd,k0,k1,k2,k3,k5,_,X _ _ ho,.of_isNs (PySem.W.isNs_of_in X hok),PySem.W.nsMap_none_of_in X hok hni,PySem.W.tail_of_in X ht⟩
   · cases q
 · cases q
section
variable {X:Cx} {C:Addr} {E:XK} {x:Str} {np jx pos:Pos} {e:Expr} {es:List Expr} {ta:TA}
end
section
variable {X:Cx} {pins:List (Addr × Obj)} {σ:St} {H:Hp} {s:Shared} {x:Addr}
theorem Inv.told {o:HO} (I:Inv X pins σ H s) (n:H x=none) (h0:X.s₀.heap.objs.size≤x) (hL:x≠X.env.locals) (hc:∀ y c,X.env.cells.lookup y=some c→c≠x) (hp:∀ p∈X.pn ++ pins,p.1≠x) (ok:dH X.prog X.w (upd H x o) s.heap x o):Inv X pins σ (upd H x o) s:=by
 have nx:∀ b u,X.s₀.heap.get? b=some u→b≠x:=fun b u e=>Nat.ne_of_lt (Nat.lt_of_lt_of_le (Heap.lt_size e) h0)
 refine ⟨I.ok,I.os,I.bare,⟨I.base.keep,I.base.slot,fun b u e n' hx=>?_,I.base.there,fun b xs e=>?_,fun b ob u e=>?_,fun b ps e=>?_⟩,I.loc,I.cell,?_,fun y c e=>?_,fun p hp'=>?_,fun b u e=>?_,I.len⟩
 · rw [aR (nx b u e)]; exact I.base.free b u e n' hx
 · have:=I.base.vm b xs e
   rw [aR (aA this n)]; exact this
 · have:=I.base.ug b ob u e
   rw [aR (aA this n)]; exact this
 · obtain ⟨m,e1⟩:=I.base.vn b ps e
   exact ⟨m,by rw [aR (aA e1 n)]; exact e1⟩
 · rw [aR (Ne.symm hL)]; exact I.free
 · rw [aR (hc y c e)]; exact I.kI y c e
 · obtain ⟨a,b,c⟩:=I.pin p hp'
   exact ⟨a,by rw [aR (hp p hp')]; exact b,c⟩
 · by_cases hb:b=x
   · subst hb
     rw [ar] at e
     cases e
     exact ok
   · rw [aR hb] at e
     exact (I.hok b u e).kH (fun _ _ _ q=>q) (fun c q=>by rw [aR (aA q n)]; exact q) fun c xs q=>by rw [aR (aA q n)]; exact q
end
noncomputable abbrev Cx.pinned (X:Cx) (pins:List (Addr × Obj)) (xe:Value→Shared→Prop):Cx:={ X with pn:=X.pn ++ pins,xe:=xe }
section
variable {X:Cx} {pins wM:List (Addr × Obj)} {σ:St} {H:Hp} {s:Shared} {xe:Value→Shared→Prop}
end
section
variable {X:Cx} {k:Nat} {f CH:Addr} {fd:FuncData} {ps:List Str} {sp:Sp} {fx cx:Str} {p pos pos' np Jm BM:Pos} {e:Expr} {es:List Expr} {ta:TA} {ts:TS} {b0:Stmt} {HM:List Stmt}
end
end L2
namespace L2
open PySem PySem.Spec PySem.Calls PyProof.Rows Builtin Builtin.ObjectAttr Builtin.Getset_descriptor
noncomputable def Fw (x C:Addr) (h:Heap):Prop:=∃ o,h.get? x=some o∧o.cls=.ref C
theorem Fw.type {x C:Addr} {h:Heap} {M:Model} (p:Fw x C h):PySem.W.Looks M h (typeOf (.ref x)) (.ref C):=by
 obtain ⟨o,h1,h2⟩:=p
 exact h2 ▸ (PySem.W.Looks.ld h1).andThen .now
section
variable {prog:Program} {w:World} {A:Around} {E:Value→Shared→Prop} {s:Shared} {K:PySem.W.Frag} {x C:Addr}
end
noncomputable def Ends.drop (D:Ends) (i:Nat):Ends:={ nx:=fun σ H=>D.nx (σ.set i none) H,rt:=D.rt,bk:=fun σ H=>D.bk (σ.set i none) H,ct:=fun σ H=>D.ct (σ.set i none) H }
section
variable {X:Cx} {pins:List (Addr × Obj)} {σ:St} {H:Hp} {s:Shared} {x:Addr}
end
section
variable {X:Cx} {k i:Nat} {f CH:Addr} {fd:FuncData} {ps:List Str} {sp:Sp} {fx cx n:Str} {p pos pos' np Jm BM:Pos} {e:Expr} {es:List Expr} {ta:TA} {ts:TS} {b0:Stmt} {HM:List Stmt}
end
end L2
namespace L2
open PySem PySem.Spec PyProof.Rows
noncomputable def Its (z:Str):It:=⟨fun i _=>i < z.cps.size,fun i H x H'=>H'=H∧∃ c,z.cps[i]?=some c∧x=.str ⟨#[c]⟩,fun i _=>z.cps.size≤i⟩
section
variable {P:Program} {w:World} {K:PySem.W.Frag} {tg:Expr}
end
section
variable {X:Cx} {tg:Expr}
noncomputable def HN (tl:TE):TI:=fun σ H R=>tl σ H fun x H1=>∃ z,x=.str z∧R (Its z) H1
end
noncomputable def JP (z:Str) (lo hi:Option Int):Str:=⟨((z.cps.toList.drop (HT.sIx z.length 0 lo)).take (HT.sIx z.length z.length hi - HT.sIx z.length 0 lo)).toArray⟩
section
variable {X:Cx}
noncomputable def JQ (z:Str) (n:Nat):Str:=⟨(List.replicate n z.cps).foldl (· ++ ·) #[]⟩
end
end L2
namespace L2
open PySem PySem.Spec PyProof.Rows
noncomputable abbrev W:=PM.W
noncomputable def S (w:W):Str:=⟨w.toArray⟩
noncomputable def sv (w:W):V:=.str (S w)
theorem sf {a b:W}:S a=S b↔a=b:=⟨fun h=>by have:=congrArg (fun z:Str=>z.cps.toList) h; simpa [S] using this,fun h=>by rw [h]⟩
noncomputable def dpT:PM.Tr→Dp
 | .num n=>.tup [.str "number",.int n]
 | .box x=>.tup [.str "box",.str (S x)]
 | .bin o l r=>.tup [.str (S o),dpT l,dpT r]
noncomputable def cv (p:Addr) (H H':Hp):Prop:=∀ b o,b≠p→H b=some o→H' b=some o
theorem cv.refl (p:Addr) (H:Hp):cv p H H:=fun _ _ _ h=>h
theorem cv.trans {p:Addr} {H H1 H2:Hp} (a:cv p H H1) (b:cv p H1 H2):cv p H H2:=fun c o n h=>b c o n (a c o n h)
theorem cv.of {p:Addr} {H H':Hp} (s:aC H H'):cv p H H':=fun b o _ h=>s b o h
theorem cv.put {p:Addr} {H H1:Hp} (a:cv p H H1) (o:HO):cv p H (upd H1 p o):=fun b u n h=>by rw [aR n]; exact a b u n h
theorem cv.same {p:Addr} {H H':Hp} (a:cv p H H') (h:H p=none):aC H H':=fun b o e=>a b o (aA e h) e
structure PcO (CP:Addr) (H:Hp) (p l dx:Addr) (ps:List W) (k:Nat):Prop where
 ins:H p=some (.ins CP dx [("pieces",.ref l),("place",.int k)])
 own:H dx=some (.own p)
 lst:H l=some (.lst (ps.map sv))
 le:k≤ps.length
 pos:∀ q∈ps,q≠[]
 len:∀ q∈ps,q.length≤60
 many:ps.length≤60
theorem PcO.nd {CP p l dx:Addr} {H:Hp} {ps:List W} {k:Nat} (o:PcO CP H p l dx ps k):dx≠p:=cQ o.own o.ins (by intro z; cases z)
theorem PcO.nl {CP p l dx:Addr} {H:Hp} {ps:List W} {k:Nat} (o:PcO CP H p l dx ps k):l≠p:=cQ o.lst o.ins (by intro z; cases z)
theorem PcO.at {CP p l dx:Addr} {H H':Hp} {ps:List W} {k j:Nat} (o:PcO CP H p l dx ps k) (u:cv p H H') (e:H' p=some (.ins CP dx [("pieces",.ref l),("place",.int j)])) (hj:j≤ps.length):PcO CP H' p l dx ps j:=
 ⟨e,u _ _ o.nd o.own,u _ _ o.nl o.lst,hj,o.pos,o.len,o.many⟩
section
variable (K:PySem.W.Frag) (CP CN:Addr)
end
section
variable {P:Program} {w:World} {K:PySem.W.Frag} {mg:Str→Option Value} {base:Heap}
end
end L2
namespace L2
open PySem PySem.Spec PyProof.Rows
mutual
noncomputable def Dp.py:Dp→PyData
 | .non=>.none
 | .bl b=>.bool b
 | .int i=>.int i
 | .str x=>.str x
 | .tup l=>.tuple (Dp.pys l)
 | .lst l=>.list (Dp.pys l)
noncomputable def Dp.pys:List Dp→List PyData
 | []=>[]
 | d :: r=>d.py :: Dp.pys r
end
section
variable {X:Cx} {pins:List (Addr × Obj)} {σ:St} {H:Hp} {s:Shared}
mutual
theorem kO (I:Inv X pins σ H s):∀ {d:Dp} {v:V} {u:Value},Rep X.K H d v→RelV v u→∃ as,Reads s.heap u d.py as
 | .non,v,u,h,r=>by rw [Rep.rG] at h; subst h; cases (show u=Value.none from r); exact ⟨_,.none⟩
 | .bl b,v,u,h,r=>by rw [Rep.rZ] at h; subst h; cases (show u=Value.bool b from r); exact ⟨_,.bool b⟩
 | .int i,v,u,h,r=>by rw [Rep.bG] at h; subst h; obtain ⟨t,rfl⟩:=(show ∃ t,u=Value.int i t from r); exact ⟨_,.int i t⟩
 | .str x,v,u,h,r=>by rw [Rep.bV] at h; subst h; obtain ⟨t,rfl⟩:=(show ∃ t,u=Value.str x t from r); exact ⟨_,.str x t⟩
 | .tup l,v,u,h,r=>by
   rw [Rep.a8] at h
   obtain ⟨p,xs,rfl,q,w⟩:=h
   cases (show u=Value.ref p from r)
   obtain ⟨its,v1,t1,_⟩:=I.tuple q
   obtain ⟨as,ra⟩:=pM I w v1
   obtain ⟨o,h1,h2,n,h3⟩:=t1
   unfold Dp.py
   exact ⟨as,.tuple h1 h2 h3 (by simpa using ra)⟩
 | .lst l,v,u,h,r=>by
   rw [Rep.bU] at h
   obtain ⟨p,xs,rfl,q,w⟩:=h
   cases (show u=Value.ref p from r)
   obtain ⟨its,v1,t1,_⟩:=I.list q
   obtain ⟨as,ra⟩:=pM I w v1
   obtain ⟨o,h1,h2,n,h3⟩:=t1.isList
   unfold Dp.py
   exact ⟨_,.list h1 h2 h3 (by simpa using ra)⟩
theorem pM (I:Inv X pins σ H s):∀ {ds:List Dp} {vs:List V} {us:List Value},aM X.K H ds vs→Vals vs us→∃ as,ReadsAll s.heap us (Dp.pys ds) as
 | [],_,_,h,r=>by rw [aM.cf] at h; subst h; cases r; unfold Dp.pys; exact ⟨_,.nil⟩
 | d :: ds,_,_,h,r=>by
   rw [aM.aP] at h
   obtain ⟨v,vs,rfl,x,y⟩:=h
   cases r with
   | cons r1 r2=>
     obtain ⟨a,ra⟩:=kO I x r1
     obtain ⟨b,rb⟩:=pM I y r2
     unfold Dp.pys
     exact ⟨_,.cons ra rb⟩
end
end
section
variable {X:Cx}
noncomputable def HP (K:PySem.W.Frag) (neg:Bool):R2:=fun x y H Q=>∃ d e,Rep K H d x∧Rep K H e y∧SeqAt.shaped d.py=true∧SeqAt.shaped e.py=true∧Q (.bl (if neg then !PyData.eqv d.py e.py else PyData.eqv d.py e.py)) H
theorem Gq (hu:X.A.units + 64 < cLine):OpR X (compareOp .Eq) (HP X.K false):=by
 intro pins s σ H x y v u Q I rx ry h
 obtain ⟨d,e,h1,h2,s1,s2,q⟩:=h
 obtain ⟨as,ra⟩:=kO I h1 rx
 obtain ⟨bs,rb⟩:=kO I h2 ry
 exact eq_dataH ra rb s1 s2 hu ⟨.bl (PyData.eqv d.py e.py),H,I,rfl,q⟩
theorem pN (hu:X.A.units + 64 < cLine):OpR X (compareOp .NotEq) (HP X.K true):=by
 intro pins s σ H x y v u Q I rx ry h
 obtain ⟨d,e,h1,h2,s1,s2,q⟩:=h
 obtain ⟨as,ra⟩:=kO I h1 rx
 obtain ⟨bs,rb⟩:=kO I h2 ry
 exact ne_dataH ra rb s1 s2 hu ⟨.bl (!PyData.eqv d.py e.py),H,I,rfl,q⟩
end
mutual
theorem eqv_refl:∀ d:Dp,PyData.eqv d.py d.py=true
 | .non=>rfl
 | .bl b=>by simp [Dp.py,PyData.eqv]
 | .int i=>by simp [Dp.py,PyData.eqv]
 | .str x=>by simp [Dp.py,PyData.eqv]
 | .tup l=>by simp only [Dp.py,PyData.eqv]; exact pO l
 | .lst l=>by simp only [Dp.py,PyData.eqv]; exact pO l
theorem pO:∀ l:List Dp,PyData.eqvAll (Dp.pys l) (Dp.pys l)=true
 | []=>rfl
 | d :: r=>by simp only [Dp.pys,PyData.eqvAll,eqv_refl d,pO r,Bool.and_true]
end
theorem ao {t u:TS} {D:Ends} {σ:St} {H:Hp} (h:∀ U:St→Hp→Prop,(∀ σ' H',U σ' H'↔u D σ' H')→t { D with nx:=U } σ H):Ea t u D σ H:=h (u D) fun _ _=>Iff.rfl
theorem yA {A:Around} {k:Nat} (hr:eZ k A):A.units + 64 < cLine:=hr.units
end L2
namespace L2
open PySem
section
variable (K:PySem.W.Frag)
end
end L2
namespace L2
open PySem
section
variable (K:PySem.W.Frag)
end
end L2
namespace L2
open PySem
end L2
namespace L2
open PySem
theorem xk {ta:TA} {g:TG} {tb:TS} {D:Ends} {σ:St} {H:Hp} (h:∀ U:Int→Hp→Prop,(∀ j H1,(∃ W:Nat→Nat→St→Hp→Prop,(∃ m,W 0 m σ H1)∧∀ i m σ H,W i m σ H→
   ((Itr 0 j.toNat).stop i H∧D.nx σ H)∨((Itr 0 j.toNat).go i H∧∃ N:St→Hp→Prop,(∀ σ' H',N σ' H'→∃ m',m' < m∧W (i + 1) m' σ' H')∧∀ x H',(Itr 0 j.toNat).yld i H x H'→g x σ H' fun σ2 H2=>tb { D with nx:=N,ct:=N,bk:=D.nx } σ2 H2))→U j H1)→
   ta σ H fun vs H1=>∃ j:Int,vs=[.int j]∧-(2 ^ 62)≤j∧j < 2 ^ 62∧U j H1):FX (zL ta) g tb D σ H:=h _ fun _ _ x=>x
end L2
namespace L2
open PySem
noncomputable def Af (K:PySem.W.Frag):Sp:=fun vs H Q _=>∃ (a:Addr) (ns:List Int),vs=[.ref a]∧SqL K H a (ns.map .int)∧ns.length≤63∧∀ H',Q (.bl true) H'
theorem Cq (ns:List Int) (h:ns.length≤63):ui (ns.map V.int) none (some 63)=ns.map V.int:=by
 unfold ui
 rw [HT.rV,show (63:Int)=((63:Nat):Int) from rfl,HT.vy,List.length_map,List.drop_zero,Nat.sub_zero]
 exact List.take_of_length_le (by rw [List.length_map]; lia)
end L2
namespace L2
open PySem PySem.Spec PyProof.Rows
section
variable {X:Cx} {pins:List (Addr × Obj)} {σ:St} {H:Hp} {s:Shared} {h':Heap}
theorem Inv.uX {t':Nat} {fp:List Addr} (I:Inv X pins σ H s) (k:∀ b o,b ∉ fp→s.heap.get? b=some o→h'.get? b=some o) (hf:∀ b∈fp,om X pins H b):Inv X pins σ H { s with heap:=h',toks:=t' }:=by
 have nit:∀ b u,H b=some u→b ∉ fp:=fun b u e z=>by rw [(hf b z).1] at e; cases e
 refine I.step (g':=s.gens) (d':=s.drawn) (ch:=fp) (fun b hb=>?_) (fun b o _ _ hc e _=>k b o hc e) (fun b o _ _ hc e _=>⟨o.slots,k b o hc e⟩) (fun _ _ _ _ n=>n)
   (fun b o hc e=>⟨o,k b o hc e⟩) (fun _ _ e=>e) (fun _ _ _ e=>e) (fun b ps e=>⟨#[],by rw [e]; simp⟩) (fun m hm=>?_) (fun b u e=>?_) I.bare
 · obtain ⟨_,f1,_,f3,f4,f5⟩:=hf b hb
   exact ⟨f3,f1,f4,f5⟩
 · obtain ⟨o,es,ep,ho,r⟩:=hm
   exact ⟨o,es,ep,k _ o (fun z=>(hf _ z).2.1 rfl) ho,r⟩
 · refine (I.hok b u e).kH (fun c v hc q=>k c v ?_ q) (fun _ q=>q) fun _ _ q=>q
   rcases hc with z | z
   · rw [z]; exact nit b u e
   · exact nit c _ z
end
noncomputable def Ite (K:PySem.W.Frag) (a:Addr):It:=
 ⟨fun i H=>∃ xs x,SqL K H a xs∧xs[i]?=some x,fun i H x H'=>∃ p y,x=.ref p∧H p=none∧H'=upd H p (.tup [.int i,y])∧∀ xs,SqL K H a xs→xs[i]?=some y,fun i H=>∃ xs,SqL K H a xs∧xs.length≤i⟩
theorem A6 {P:Program} {w:World} {K:PySem.W.Frag} {elts:List Expr} {x1} {pos:Pos} (a e it:Addr) (hne:e≠it) :
   Turn P w K (.Tuple elts x1 pos) (Ite K a) [e,it] e (fun i h=>(∃ old,IsEnum h e it i old)∧h.IsListIter it a i) where
 mem:=by simp
 obj:=fun i h st b hb=>by
   obtain ⟨⟨old,he⟩,o,eo,c,d⟩:=st
   rcases List.mem_cons.mp hb with rfl | hb
   · exact ⟨_,he,fun v z=>by cases (show Data.fields _=Data.cell v from z)⟩
   · have z:b=it:=by simpa using hb
     subst z
     exact ⟨o,eo,fun v z=>by rw [d] at z; cases z⟩
 keep:=fun i h h' st k=>⟨st.1.elim fun old he=>⟨old,k e (by simp) _ he⟩,st.2.at fun o x=>k it (by simp) o x⟩
 item:=by
   intro X hP hw hK hc i pins s σ H E I hf st hg
   subst hP hw hK
   obtain ⟨xs,x,hq,hx⟩:=hg
   obtain ⟨⟨old,he⟩,hit⟩:=st
   obtain ⟨its,rv,p,hz⟩:=I.list hq
   obtain ⟨u,hu,ru⟩:=rv.get hx
   refine wpAny_pyNext_enum_item he hit p.isList (x:=u) (by simpa using hu) hne fun h' ho Gr hT hsz hk=>?_
   refine ⟨_,rfl,?_⟩
   refine wpAny_letOwnedTupleGo_enum ho fun h2 he2 sb=>?_
   have HQ:e < s.heap.objs.size:=Heap.lt_size he
   have HR:it < s.heap.objs.size:=by obtain ⟨_,x,_⟩:=hit; exact Heap.lt_size x
   have I1:Inv X pins σ H { s with heap:=h2,toks:=s.toks + 1 }:=I.uX (t':=s.toks + 1) (fun b o hb q=>(sb.2 b fun z=>hb (by simp [z])).trans (hk b o (fun z=>hb (by simp [z])) (fun z=>hb (by simp [z])) q)) hf
   have fr:H s.heap.objs.size=none:=I.hok.fresh (Nat.le_refl _)
   obtain ⟨g0,g1,g2,g3,g4,g5⟩:=I.Eb (Nat.le_refl _) fr
   have Jn:h2.get? s.heap.objs.size=some { cls:=.type "tuple",data:=.seq #[.int i s.toks,u] }:=(sb.2 _ (Nat.ne_of_gt HQ)).trans hT
   have I2:=I1.told (o:=.tup [.int i,x]) fr I.sz g1 g4 g5 ⟨(show (2:Nat)≤sizeLine by decide),[.int i s.toks,u],.cons ⟨_,rfl⟩ (.cons ru .nil),⟨_,Jn,rfl,_,rfl⟩⟩
   refine ⟨.ref s.heap.objs.size,_,I2,rfl,⟨_,x,rfl,fr,rfl,fun ys hy=>by rw [I.wQ hy hq]; exact hx⟩,⟨⟨_,by exact_mod_cast he2⟩,Gr.at fun o q=>(sb.2 it (Ne.symm hne)).trans q⟩,fun b hb=>?_⟩
   rw [aR ?_]
   · exact (hf b hb).1
   · rcases List.mem_cons.mp hb with rfl | hb
     · exact Nat.ne_of_lt HQ
     · have z:b=it:=by simpa using hb
       subst z
       exact Nat.ne_of_lt HR
 done:=by
   intro X hP hw hK hc i pins s σ H E I hf st hg
   subst hP hw hK
   obtain ⟨xs,hq,hx⟩:=hg
   obtain ⟨⟨old,he⟩,hit⟩:=st
   obtain ⟨its,rv,p,hz⟩:=I.list hq
   have hl:=rv.length
   exact wpAny_pyNext_enum_end (I.ok.hd hc) he hit p.isList (by simp; lia) fun h' eb=>⟨rfl,I.uX (t':=s.toks) (fun b o hb q=>eb b o (fun z=>hb (by simp [z])) q) hf⟩
 self:=fun _ _ _ _ _ st h=>st.1.elim fun _ he=>wpAny_pyIter_enum he h
noncomputable def HS (K:PySem.W.Frag) (ta:TA):TI:=fun σ H R=>ta σ H fun vs H1=>∃ a,vs=[.ref a]∧(∃ xs,SqL K H1 a xs)∧R (Ite K a) H1
theorem EA {X:Cx} {elts:List Expr} {x1} {tp:Pos} {a:Expr} {ta:TA} {p pos:Pos} (hg:Gl X "enumerate") (hm:X.mg "enumerate"=none) (ha:PA X [a] ta) (hs:starEach [a] X.env=[(false,eval a X.env)]:=by rfl) :
   PI X (.Tuple elts x1 tp) (.Call (.Name "enumerate" p) [a] [] pos) (HS X.K ta):=by
 intro pins s σ H R I h
 refine Call_ (pI I hg hm PyProof.Rows.Boot.«enumerate» (PyProof.Rows.callWith_type1 (thn (ha pos pins s σ H _ I h) fun us s1 ⟨vs,H1,I1,r1,q1⟩=>?_) hs rfl))
 obtain ⟨l,e,⟨xs,hq⟩,q⟩:=q1
 subst e
 cases r1 with
 | cons r rr=>
   cases rr
   cases (show _=Value.ref l from r)
   obtain ⟨its,rv,p,hz⟩:=I1.list hq
   refine call_enumerate_list p.isList fun h' he hit hsz hk=>?_
   refine wpAny_pyIter_enum he ?_
   have fr:∀ b,s1.heap.objs.size≤b→H1 b=none:=fun b hb=>I1.hok.fresh hb
   refine ⟨s1.heap.objs.size + 1,[s1.heap.objs.size + 1,s1.heap.objs.size],_,_,H1,rfl,I1.kept (t':=s1.toks) hk,A6 l _ _ (Nat.succ_ne_self _),⟨⟨_,he⟩,hit⟩,fun b hb=>?_,q⟩
   have hb':s1.heap.objs.size≤b:=by
     rcases List.mem_cons.mp hb with rfl | hb
     · exact Nat.le_succ _
     · have z:b=s1.heap.objs.size:=by simpa using hb
       rw [z]; exact Nat.le_refl _
   exact I1.Eb hb' (fr b hb')
theorem Cr {K:PySem.W.Frag} {a:Addr} {xs:List V} {g:TG} {tb:TS} {D:Ends} {σ:St} {H:Hp} (Pv:Nat→St→Hp→Prop) (h0:Pv 0 σ H) (hl:∀ i σ H,i≤xs.length→Pv i σ H→SqL K H a xs)
   (hs:∀ i x σ H p,xs[i]?=some x→Pv i σ H→H p=none→g (.ref p) σ (upd H p (.tup [.int i,x])) fun σ2 H2=>tb { D with nx:=Pv (i + 1),ct:=Pv (i + 1),bk:=D.nx } σ2 H2) (hd:∀ σ H,Pv xs.length σ H→D.nx σ H) :
   ∃ W:Nat→Nat→St→Hp→Prop,(∃ m,W 0 m σ H)∧∀ i m σ H,W i m σ H→
     ((Ite K a).stop i H∧D.nx σ H)∨((Ite K a).go i H∧∃ N:St→Hp→Prop,(∀ σ' H',N σ' H'→∃ m',m' < m∧W (i + 1) m' σ' H')∧∀ x H',(Ite K a).yld i H x H'→g x σ H' fun σ2 H2=>tb { D with nx:=N,ct:=N,bk:=D.nx } σ2 H2):=by
 refine ⟨fun i m σ H=>m=xs.length - i∧i≤xs.length∧Pv i σ H,⟨xs.length,by simp,Nat.zero_le _,h0⟩,?_⟩
 rintro i m σ H ⟨rfl,hi,p⟩
 have q:=hl i σ H hi p
 by_cases hlt:i < xs.length
 · refine .inr ⟨⟨xs,xs[i],q,by simp [hlt]⟩,Pv (i + 1),fun σ' H' p'=>⟨xs.length - (i + 1),by lia,rfl,hlt,p'⟩,fun x H' y=>?_⟩
   obtain ⟨pp,v,rfl,hn,rfl,y⟩:=y
   exact hs i v σ H pp (y xs q) p hn
 · have e:i=xs.length:=by lia
   subst e
   exact .inl ⟨⟨xs,q,Nat.le_refl _⟩,hd σ H p⟩
end L2
namespace L2
open PySem
end L2
namespace L2
open PySem PySem.Spec PyProof.Rows
section
variable {prog:Program} {w:World} {A:Around} {E:Value→Shared→Prop} {s:Shared}
theorem xl {it l:Addr} {its:Array Value} (hne:l≠it):∀ (n i:Nat) (s:Shared) (Q:List Value→Shared→Prop),s.heap.IsListIter it l i→s.heap.IsList l its→i + n≤its.size→
   (∀ h',h'.IsListIter it l (i + n)→Heap.SameBut it s.heap h'→Q ((its.toList.drop i).take n) { s with heap:=h' })→wpAny (model prog w) A (draw (.ref it) n) Q E s
 | 0,i,s,Q,a,_,_,q=>by
   show wpAny _ _ (pure []) Q E s
   exact wpAny_pure (by simpa using q s.heap a (Heap.SameBut.refl ..))
 | n + 1,i,s,Q,a,b,le,q=>by
   have lt:i < its.size:=by lia
   show wpAny _ _ (pyNext (.ref it) >>= _) Q E s
   refine wpAny_bind (wpAny_pyNext_list_item a b (x:=its[i]) (by simp [lt]) fun h1 a1 s1=>?_)
   have b1:h1.IsList l its:=by
     obtain ⟨o,ho,r⟩:=b
     exact ⟨o,(s1.2 l hne).trans ho,r⟩
   refine wpAny_bind (wpAny_holding (xl hne n (i + 1) _ _ a1 b1 (by lia) fun h2 a2 s2=>wpAny_pure ?_))
   have e:its.toList.drop i=its[i] :: its.toList.drop (i + 1):=by simp [List.drop_eq_getElem_cons,lt]
   have z:=q h2 (by rw [show i + (n + 1)=i + 1 + n by lia]; exact a2) (s1.trans s2)
   rw [e,List.take_succ_cons] at z
   exact z
theorem yD {l:Addr} {its:Array Value} {ts:List (Bool × (Value→Sem Unit))} {Q:Unit→Shared→Prop} (hh:A.handled=none) (b:s.heap.IsList l its) (hn:ts.length=its.size) (hst:ts.findIdx? (·.1)=none)
   (h:∀ h',Heap.ExtBut s.heap.objs.size s.heap h'→wpAny (model prog w) A (assignInOrder (ts.map (·.2)) its.toList) Q E { s with heap:=h' }):wpAny (model prog w) A (unpack (.ref l) ts) Q E s:=by
 have lt:l≠s.heap.objs.size:=by obtain ⟨o,ho,_⟩:=b; exact Nat.ne_of_lt (Heap.lt_size ho)
 unfold unpack
 rw [hn,hst]
 refine wpAny_bind (wpAny_holding ?_)
 unfold unpackItems
 refine wpAny_bind ?_
 unfold notIterableAtAll
 refine wpAny_bind (wpAny_specialOf b.typeIs slot_list_iter.lookup ?_)
 refine wpAny_pure ?_
 simp only [Bool.false_eq_true,if_false]
 refine wpAny_bind (wpAny_holding (wpAny_pyIter_list b ?_))
 have kH:∀ {h1 h2:Heap},Heap.ExtBut s.heap.objs.size h1 h2→h1.IsList l its→h2.IsList l its:=fun {h1 h2} e x=>by
   obtain ⟨o,ho,r⟩:=x
   exact ⟨o,e l o lt ho,r⟩
 have b0:(s.heap.push { cls:=.type "list_iterator",data:=.fields #[.ref l,.int 0 0] }).IsList l its:=by
   obtain ⟨o,ho,r⟩:=b
   exact ⟨o,Heap.get?_push_of_some _ ho,r⟩
 refine wpAny_bind (wpAny_holding (xl lt its.size 0 _ _ ⟨_,Heap.get?_push_size _ rfl,rfl,rfl⟩ b0 (by lia) fun h1 a1 s1=>?_))
 have all:List.take its.size (List.drop 0 its.toList)=its.toList:=by
   rw [List.drop_zero]; exact List.take_of_length_le (by simp)
 rw [all,if_neg (by simp)]
 have b1:h1.IsList l its:=kH s1.extBut b0
 refine wpAny_bind (wpAny_holding (wpAny_pyNext_list_end hh a1 b1 (by simp) fun h2 e2=>?_))
 simp only [Option.isSome_none,Bool.false_eq_true,if_false]
 exact wpAny_pure (h h2 fun c o hc e=>e2 c o hc (s1.extBut c o hc (Heap.get?_push_of_some _ e)))
end
noncomputable def Gu (K:PySem.W.Frag) (n:Nat) (t:TGs):TG:=fun v σ H Q=>∃ a xs,v=.ref a∧SqL K H a xs∧xs.length=n∧t xs σ H Q
theorem nB {X:Cx} {es:List Expr} {k} {pos:Pos} {t:TGs} {n:Nat} (hc:X.calm=true) (h:PGs X es t)
   (hn:(assignEach es X.env).length=n:=by rfl) (hst:(assignEach es X.env).findIdx? (·.1)=none:=by rfl):PG X (.Tuple es k pos) (Gu X.K n t):=by
 intro pins s σ H v u Q I r hw
 obtain ⟨a,xs,rfl,hq,hl,hw⟩:=hw
 cases r
 obtain ⟨its,rv,hp,_⟩:=I.list hq
 rw [assign_Tuple]
 refine wpAny_bind (wpAny_standAt (yD (I.ok.hd hc) hp.isList (by simp [hn,← hl,rv.length]) hst fun h' hx=>?_))
 have I1:Inv X pins σ H { s with heap:=h' }:=I.kept (t':=s.toks) fun b o e=>hx b o (Nat.ne_of_lt (Heap.lt_size e)) e
 exact h pins _ σ H xs _ Q I1 (by simpa using rv) hw
end L2
namespace PM
end PM
namespace L2
open PySem
section
variable (K:PySem.W.Frag)
end
end L2
namespace L2
open PySem PySem.SeqAt
end L2
namespace PM
end PM
namespace L2
open PySem
end L2
namespace L2
open PySem
end L2
namespace L2
open PySem
end L2
namespace L2
open PySem
noncomputable def eB (val:W→Int):PM.Tr→Int
 | .num n=>n
 | .box x=>val x
 | .bin o l r=>if o=[43] then eB val l + eB val r else if o=[45] then eB val l - eB val r else eB val l * eB val r
noncomputable def names3:List W:=[[97],[98,98],[99]]
structure V3 (kvs:List (Key × V)) (val:W→Int):Prop where
 yes:∀ x∈names3,de kvs (Sum.inr (S x))=some (.int (val x))
 no:∀ x,x ∉ names3→de kvs (Sum.inr (S x))=none
 small:∀ x,(val x).natAbs≤2 ^ 60
section
variable (K:PySem.W.Frag)
end
end L2
namespace L2
open PySem PySem.Spec PyProof.Rows
end L2
namespace L2
open PySem
end L2
namespace L2
open PySem
theorem hG {K:PySem.W.Frag} {tl:TE} {g:TG} {tb:TS} {D:Ends} {σ:St} {H:Hp} (h:∀ U:Addr→Hp→Prop,(∀ a H1,(∃ W:Nat→Nat→St→Hp→Prop,(∃ m,W 0 m σ H1)∧∀ i m σ H,W i m σ H→
   ((Itl K a).stop i H∧D.nx σ H)∨((Itl K a).go i H∧∃ N:St→Hp→Prop,(∀ σ' H',N σ' H'→∃ m',m' < m∧W (i + 1) m' σ' H')∧∀ x H',(Itl K a).yld i H x H'→g x σ H' fun σ2 H2=>tb { D with nx:=N,ct:=N,bk:=D.nx } σ2 H2))→U a H1)→
   tl σ H fun x H1=>∃ a,x=.ref a∧(∃ xs,SqL K H1 a xs)∧U a H1):FX (zK K tl) g tb D σ H:=h _ fun _ _ x=>x
end L2
namespace PM
end PM
namespace L2
open PySem
end L2
namespace L2
open PySem
noncomputable def Tok (p:W):Prop:=p=[40]∨p=[41]∨p∈PM.Cp∨(PM.fac p=true∧(PM.isName p=true→p∈names3))
end L2
namespace L2
open PySem
theorem Ag {a:Option V} {r:St} {H:Hp} {Q:VK}:(eL 10 (a :: r) H Q)=(eL 9 r H Q):=rfl
theorem Ah {a:Option V} {r:St} {H:Hp} {Q:VK}:(eL 11 (a :: r) H Q)=(eL 10 r H Q):=rfl
theorem Ai {a:Option V} {r:St} {H:Hp} {Q:VK}:(eL 12 (a :: r) H Q)=(eL 11 r H Q):=rfl
theorem A7 {J:It} {D:Addr} {tc:TT} {te:TE} {Q:VK} {r:St} {H:Hp} (xs:List V) (p:V→Bool) (f:V→V) (hl:xs.length≤16000000)
   (go:∀ i ys,i < xs.length→J.go i (upd H D (.lst ys))) (yld:∀ i ys x H',i < xs.length→J.yld i (upd H D (.lst ys)) x H'→H'=upd H D (.lst ys)∧xs[i]?=some x) (stop:∀ ys,J.stop xs.length (upd H D (.lst ys)))
   (test:∀ x∈xs,∀ ys (R:Bool→Hp→Prop),R (p x) (upd H D (.lst ys))→tc (some x :: r) (upd H D (.lst ys)) R)
   (step:∀ x∈xs,p x=true→∀ ys (R:VK),R (f x) (upd H D (.lst ys))→te (some x :: r) (upd H D (.lst ys)) R)
   (q:Q (.ref D) (upd H D (.lst ((xs.filter p).map f)))):qy J D (eu 0) tc te Q (none :: r) (upd H D (.lst [])):=by
 refine ⟨fun i m τ H2=>m=xs.length - i∧i≤xs.length∧(∃ x,τ=x :: r)∧H2=upd H D (.lst (((xs.take i).filter p).map f)),⟨xs.length,by simp,Nat.zero_le _,⟨none,rfl⟩,by simp⟩,?_⟩
 rintro i m τ H2 ⟨rfl,hi,⟨x,rfl⟩,rfl⟩
 by_cases hlt:i < xs.length
 · refine .inr ⟨go i _ hlt,fun τ' H'=>(∃ x,τ'=x :: r)∧H'=upd H D (.lst (((xs.take (i + 1)).filter p).map f)),fun τ' H' ⟨h1,h2⟩=>⟨xs.length - (i + 1),by lia,rfl,hlt,h1,h2⟩,fun y H' hy=>?_⟩
   obtain ⟨rfl,hz⟩:=yld i _ y H' hlt hy
   clear hy
   have hy:=hz
   rw [List.getElem?_eq_getElem hlt] at hy
   cases hy
   have mem:=List.getElem_mem hlt
   simp only [eu,List.set]
   refine test _ mem _ _ ?_
   rw [List.take_succ_eq_append_getElem hlt,List.filter_append,List.map_append]
   cases hp:p xs[i] with
   | false=>
     rw [if_neg Bool.false_ne_true]
     refine ⟨⟨_,rfl⟩,?_⟩
     simp [hp]
   | true=>
     rw [if_pos rfl]
     refine step _ mem hp _ _ ⟨_,ar,?_,⟨_,rfl⟩,?_⟩
     · have h1:(((xs.take i).filter p).map f).length≤i:=by
         rw [List.length_map]
         exact Nat.le_trans (List.length_filter_le _ _) (by rw [List.length_take]; lia)
       have:sizeLine=2 ^ 24:=rfl
       lia
     · rw [zG]
       simp [hp]
 · have e:i=xs.length:=by lia
   subst e
   refine .inl ⟨stop _,?_⟩
   rw [List.take_length]
   exact q
theorem Cs {n:Nat} {D:Addr} {te:TE} {Q:VK} {r:St} {H:Hp} (f:Nat→V) (hl:n≤16000000)
   (step:∀ i,i < n→∀ ys (R:VK),R (f i) (upd H D (.lst ys))→te (some (.int (i:Nat)) :: r) (upd H D (.lst ys)) R)
   (q:Q (.ref D) (upd H D (.lst ((List.range n).map f)))):qy (Itr 0 n) D (eu 0) xf te Q (none :: r) (upd H D (.lst [])):=by
 refine A7 ((List.range n).map fun i=>V.int (i:Nat)) (fun _=>true) (fun x=>f (match x with | .int i=>i.toNat | _=>0)) (by simpa using hl)
   (fun i ys hi=>?_) (fun i ys x H' hi hy=>?_) (fun ys=>?_) (fun x hx ys R hR=>hR) (fun x hx _ ys R hR=>?_) ?_
 · show i < n
   simpa using hi
 · obtain ⟨rfl,rfl⟩:=hy
   refine ⟨rfl,?_⟩
   have hi':i < n:=by simpa using hi
   rw [List.getElem?_map,List.getElem?_range hi']
   simp
 · show n≤_
   simp
 · obtain ⟨i,hi,rfl⟩:=List.mem_map.mp hx
   exact step i (List.mem_range.mp hi) ys R hR
 · rw [List.filter_eq_self.mpr (fun _ _=>rfl),List.map_map]
   exact q
noncomputable def NoS (z:Str):Prop:=PM.Jk z.cps.toList
section
variable (K:PySem.W.Frag)
end
end L2
namespace L2
open PySem PySem.SeqAt
end L2
namespace L2
open PySem
end L2
namespace L2
open PySem
end L2
namespace PG
open PM (W Tr)
structure Box where
 name:W
 size:Int
 first:Int
inductive Stm where
 | ask (k:Int) (b:W)
 | put (k:Int) (b:W) (e:Tr)
 | say (k:Int) (e:Tr)
 | bZ (k:Int) (sg:W) (l r:Tr)
 | stop (k:Int)
 | ifs (k:Int) (sg:W) (l r:Tr) (a b:List Stm)
 | whl (k:Int) (sg:W) (l r:Tr) (a:List Stm)
noncomputable def Stm.row:Stm→Int
 | .ask k _=>k | .put k _ _=>k | .say k _=>k | .bZ k _ _ _=>k | .stop k=>k | .ifs k _ _ _ _ _=>k | .whl k _ _ _ _=>k
inductive Wd where
 | ask | put | say | bZ | stop | ifs | whl | els | fin
 deriving DecidableEq
noncomputable def Stm.wd:Stm→Wd
 | .ask _ _=>.ask | .put _ _ _=>.put | .say _ _=>.say | .bZ _ _ _ _=>.bZ | .stop _=>.stop | .ifs _ _ _ _ _ _=>.ifs | .whl _ _ _ _ _=>.whl
noncomputable def HU:Nat→Int→Int
 | 0,c=>c
 | n + 1,c=>HU n (c / 1000003)
noncomputable def next (sc:List Int) (p:Nat):Int:=
 let many:=max 1 sc.length
 let cell:=if sc=[] then 0 else sc.getD (p % many) 0
 if cell ≥ 10 ^ 18 then HU (min 60 (p / many)) cell % 1000003 else
   let a:=(cell % 2147483629 + 51437 * ((p:Int) + 1) * ((p:Int) + 3) + 1409) % 2147483629
   let b:=a * a % 2147483587
   let c:=(b * 69621 + 401 * (p:Int) + 7) % 2147483579
   c * c % 2147483563 / 16
noncomputable def pick {α:Type} (d:α) (l:List α) (n:Int):α:=l.getD n.toNat d
noncomputable def uk (sc:List Int) (bs:List Box):Nat→Nat→Tr × Nat
 | 0,p=>
   let kind:=next sc p % 7
   if bs≠[]∧kind < 5 then (.box (pick ⟨[],0,0⟩ bs (next sc (p + 1) % bs.length)).name,p + 2) else (.num (next sc (p + 1) % pick 1 [3,12,1000] (next sc (p + 2) % 3)),p + 3)
 | d + 1,p=>
   let kind:=next sc p % 7
   if kind < 3 then
     let one:=uk sc bs d (p + 1)
     let two:=uk sc bs d one.2
     (.bin (pick [] [[43],[45],[42]] kind) one.1 two.1,two.2)
   else if bs≠[]∧kind < 5 then (.box (pick ⟨[],0,0⟩ bs (next sc (p + 1) % bs.length)).name,p + 2) else (.num (next sc (p + 1) % pick 1 [3,12,1000] (next sc (p + 2) % 3)),p + 3)
noncomputable def sgs:List W:=[[60],[61]]
noncomputable def Ct (sc:List Int) (bs:List Box) (k:Int) (p:Nat):Stm × Nat:=
 let kind:=next sc p % 10
 if bs≠[]∧kind < 3 then (.ask k (pick ⟨[],0,0⟩ bs (next sc (p + 1) % bs.length)).name,p + 2)
 else if bs≠[]∧kind < 6 then
   let e:=uk sc bs 2 (p + 2)
   (.put k (pick ⟨[],0,0⟩ bs (next sc (p + 1) % bs.length)).name e.1,e.2)
 else if kind=6 then
   let l:=uk sc bs 1 (p + 2)
   let r:=uk sc bs 1 l.2
   (.bZ k (pick [] sgs (next sc (p + 1) % 2)) l.1 r.1,r.2)
 else if kind=7 then
   if next sc (p + 1) % 3=0 then (.stop k,p + 2) else
     let e:=uk sc bs 2 (p + 2)
     (.say k e.1,e.2)
 else
   let e:=uk sc bs 2 (p + 1)
   (.say k e.1,e.2)
structure Frame where
 kind:Nat
 body:List Stm
 k:Int:=0
 sg:W:=[]
 l:Tr:=.num 0
 r:Tr:=.num 0
 first:List Stm:=[]
noncomputable def Frame.told (f:Frame):Stm:=if f.kind=1 then .ifs f.k f.sg f.l f.r f.body [] else if f.kind=2 then .ifs f.k f.sg f.l f.r f.first f.body else .whl f.k f.sg f.l f.r f.body
noncomputable def close:List Frame→List Frame
 | f :: g :: r=>{ g with body:=g.body ++ [f.told] } :: r
 | fs=>fs
noncomputable abbrev Row:=Int × Wd
noncomputable def number (n:Nat) (rows:List Row) (mode:Int):Int:=
 if mode=2 then n + 1 + 20 * rows.length else if mode=3 then n + 1 + (rows.filter fun r=>r.2≠.els∧r.2≠.fin).length else n + 1 + rows.length
structure Walk where
 p:Nat
 xm:List Frame
 rows:List Row
noncomputable def turn (sc:List Int) (bs:List Box) (mode:Int) (w:Walk):Walk:=
 let k:=number bs.length w.rows mode
 let way:=next sc w.p % 12
 if way < 2∧w.xm.length > 1 then ⟨w.p + 1,close w.xm,w.rows ++ [(k,.fin)]⟩
 else match w.xm with
 | []=>w
 | f :: r=>
   if way=2∧f.kind=1 then ⟨w.p + 1,{ f with kind:=2,body:=[],first:=f.body } :: r,w.rows ++ [(k,.els)]⟩
   else if way < 6∧w.xm.length < 4 then
     let l:=uk sc bs 1 (w.p + 2)
     let e:=uk sc bs 1 l.2
     let kd:=pick 1 [1,1,3] (way % 3)
     ⟨e.2,{ kind:=kd,body:=[],k:=k,sg:=pick [] sgs (next sc (w.p + 1) % 2),l:=l.1,r:=e.1 } :: w.xm,w.rows ++ [(k,if kd=3 then .whl else .ifs)]⟩
   else
     let s:=Ct sc bs k (w.p + 1)
     ⟨s.2,{ f with body:=f.body ++ [s.1] } :: r,w.rows ++ [(k,s.1.wd)]⟩
noncomputable def ends (n:Nat) (mode:Int):Nat→Walk→Walk
 | 0,w=>w
 | m + 1,w=>if w.xm.length > 1 then ends n mode m ⟨w.p,close w.xm,w.rows ++ [(number n w.rows mode,.fin)]⟩ else w
structure Prog where
 ax:List Box
 body:List Stm
end PG
namespace PG
open PM (W Tr)
mutual
noncomputable def jh:Stm→List Row
 | .ifs k _ _ _ a b=>(k,.ifs) :: (eJ a ++ eJ b)
 | .whl k _ _ _ a=>(k,.whl) :: eJ a
 | .ask k _=>[(k,.ask)]
 | .put k _ _=>[(k,.put)]
 | .say k _=>[(k,.say)]
 | .bZ k _ _ _=>[(k,.bZ)]
 | .stop k=>[(k,.stop)]
noncomputable def eJ:List Stm→List Row
 | []=>[]
 | s :: r=>jh s ++ eJ r
end
noncomputable def Frame.flat (f:Frame):List Row:=(if f.kind=0 then [] else [(f.k,if f.kind=3 then Wd.whl else .ifs)]) ++ (if f.kind=2 then eJ f.first else []) ++ eJ f.body
noncomputable def plainRow (r:Row):Bool:=decide (r.2≠.els∧r.2≠.fin)
end PG
namespace PG
open PM (W Tr)
noncomputable abbrev dX:=Int × Wd × List Int
noncomputable def aT:List Stm→Int→Int
 | [],x=>x
 | s :: _,_=>s.row
mutual
noncomputable def eA:Stm→Int→List dX
 | .ifs k _ _ _ a b,x=>(k,.ifs,[aT a x,aT b x]) :: (aN a x ++ aN b x)
 | .whl k _ _ _ a,x=>(k,.whl,[aT a k,x]) :: aN a k
 | .ask k _,x=>[(k,.ask,[x])]
 | .put k _ _,x=>[(k,.put,[x])]
 | .say k _,x=>[(k,.say,[x])]
 | .bZ k _ _ _,x=>[(k,.bZ,[x])]
 | .stop k,_=>[(k,.stop,[0])]
noncomputable def aN:List Stm→Int→List dX
 | [],_=>[]
 | s :: r,x=>eA s (aT r x) ++ aN r x
end
mutual
theorem A8:∀ (s:Stm) (x:Int),(eA s x).map (fun r=>(r.1,r.2.1))=jh s
 | .ifs k _ _ _ a b,x=>by simp [eA,jh,dE a x,dE b x]
 | .whl k _ _ _ a,x=>by simp [eA,jh,dE a k]
 | .ask k _,x=>rfl
 | .put k _ _,x=>rfl
 | .say k _,x=>rfl
 | .bZ k _ _ _,x=>rfl
 | .stop k,_=>rfl
theorem dE:∀ (b:List Stm) (x:Int),(aN b x).map (fun r=>(r.1,r.2.1))=eJ b
 | [],_=>rfl
 | s :: r,x=>by simp [aN,eJ,A8 s _,dE r x]
end
inductive Tg where
 | row (k:Int) | side (k:Int) (b:Bool) | bZ (k:Int) | fin
 deriving DecidableEq
end PG
namespace PG
open PM (W Tr)
mutual
noncomputable def HV:Stm→List Row→Prop
 | .ifs k _ _ _ a b,rs=>(∃ ra n,mG a ra∧b=[]∧rs=(k,.ifs) :: (ra ++ [(n,.fin)]))∨(∃ ra rb n m,mG a ra∧mG b rb∧rs=(k,.ifs) :: (ra ++ (n,.els) :: (rb ++ [(m,.fin)])))
 | .whl k _ _ _ a,rs=>∃ ra n,mG a ra∧rs=(k,.whl) :: (ra ++ [(n,.fin)])
 | .ask k _,rs=>rs=[(k,.ask)]
 | .put k _ _,rs=>rs=[(k,.put)]
 | .say k _,rs=>rs=[(k,.say)]
 | .bZ k _ _ _,rs=>rs=[(k,.bZ)]
 | .stop k,rs=>rs=[(k,.stop)]
noncomputable def mG:List Stm→List Row→Prop
 | [],rs=>rs=[]
 | s :: r,rs=>∃ r1 r2,HV s r1∧mG r r2∧rs=r1 ++ r2
end
noncomputable def G7 (f:Frame) (rs:List Row):Prop:=
 (f.kind=0∧mG f.body rs)∨(f.kind=1∧∃ rb,mG f.body rb∧rs=(f.k,.ifs) :: rb)∨
 (f.kind=2∧∃ rf rb n,mG f.first rf∧mG f.body rb∧rs=(f.k,.ifs) :: (rf ++ (n,.els) :: rb))∨(f.kind=3∧∃ rb,mG f.body rb∧rs=(f.k,.whl) :: rb)
mutual
noncomputable def Cu:Stm→Nat
 | .ifs _ _ _ _ a b=>max (qY a) (qY b) + 1
 | .whl _ _ _ _ a=>qY a + 1
 | _=>0
noncomputable def qY:List Stm→Nat
 | []=>0
 | s :: r=>max (Cu s) (qY r)
end
end PG
namespace PG
open PM (W Tr)
section
variable (nm:W→Prop) (ex:Tr→Prop) (sg:W→Prop)
mutual
noncomputable def OkS:Stm→Prop
 | .ask _ b=>nm b
 | .put _ b e=>nm b∧ex e
 | .say _ e=>ex e
 | .bZ _ s l r=>sg s∧ex l∧ex r
 | .stop _=>True
 | .ifs _ s l r a b=>sg s∧ex l∧ex r∧OkB a∧OkB b
 | .whl _ s l r a=>sg s∧ex l∧ex r∧OkB a
noncomputable def OkB:List Stm→Prop
 | []=>True
 | s :: r=>OkS s∧OkB r
end
end
section
variable {nm:W→Prop} {ex:Tr→Prop} {sg:W→Prop}
section
variable {sc:List Int} {bs:List Box} (hnm:bs≠[]→∀ q,nm (pick ⟨[],0,0⟩ bs (next sc q % bs.length)).name) (hex:∀ d q,d≤2→ex (uk sc bs d q).1) (hsg:∀ q,sg (pick [] sgs (next sc q % 2)))
include hnm hex hsg
end
end
noncomputable def trd:Tr→Nat
 | .bin _ l r=>max (trd l) (trd r) + 1
 | _=>0
end PG
namespace PG
open PM (W Tr)
inductive Mt where
 | op (els fin:Option Nat)
 | back (i:Nat)
 deriving DecidableEq
noncomputable abbrev Mm:=Nat→Option Mt
noncomputable def Mm.set (m:Mm) (i:Nat) (x:Mt):Mm:=fun j=>if j=i then some x else m j
mutual
noncomputable def qZ (m:Mm):Stm→Nat→List Row→Prop
 | .ifs k _ _ _ a b,i,rs=>(∃ ra n,nC m a (i + 1) ra∧b=[]∧rs=(k,.ifs) :: (ra ++ [(n,.fin)])∧m i=some (.op none (some (i + 1 + ra.length)))∧m (i + 1 + ra.length)=some (.back i))∨
     (∃ ra rb n x,nC m a (i + 1) ra∧nC m b (i + 2 + ra.length) rb∧rs=(k,.ifs) :: (ra ++ (n,.els) :: (rb ++ [(x,.fin)]))∧m i=some (.op (some (i + 1 + ra.length)) (some (i + 2 + ra.length + rb.length)))∧
       m (i + 1 + ra.length)=some (.back i)∧m (i + 2 + ra.length + rb.length)=some (.back i))
 | .whl k _ _ _ a,i,rs=>∃ ra n,nC m a (i + 1) ra∧rs=(k,.whl) :: (ra ++ [(n,.fin)])∧m i=some (.op none (some (i + 1 + ra.length)))∧m (i + 1 + ra.length)=some (.back i)
 | .ask k _,_,rs=>rs=[(k,.ask)]
 | .put k _ _,_,rs=>rs=[(k,.put)]
 | .say k _,_,rs=>rs=[(k,.say)]
 | .bZ k _ _ _,_,rs=>rs=[(k,.bZ)]
 | .stop k,_,rs=>rs=[(k,.stop)]
noncomputable def nC (m:Mm):List Stm→Nat→List Row→Prop
 | [],_,rs=>rs=[]
 | s :: r,i,rs=>∃ r1 r2,qZ m s i r1∧nC m r (i + r1.length) r2∧rs=r1 ++ r2
end
mutual
theorem qZ.kH {m m':Mm}:∀ (s:Stm) {i:Nat} {rs:List Row},qZ m s i rs→(∀ j,i≤j→j < i + rs.length→m' j=m j)→qZ m' s i rs
 | .ifs k _ _ _ a b,i,rs,h,q=>by
   rw [qZ] at h ⊢
   rcases h with ⟨ra,n,h1,h2,rfl,h3,h4⟩ | ⟨ra,rb,n,x,h1,h2,rfl,h3,h4,h5⟩
   · simp only [List.length_cons,List.length_append,List.length_nil] at q
     exact .inl ⟨ra,n,nC.kH a h1 (fun j a b=>q j (by lia) (by lia)),h2,rfl,by rw [q i (by lia) (by lia)]; exact h3,by rw [q _ (by lia) (by lia)]; exact h4⟩
   · simp only [List.length_cons,List.length_append,List.length_nil] at q
     exact .inr ⟨ra,rb,n,x,nC.kH a h1 (fun j a b=>q j (by lia) (by lia)),nC.kH b h2 (fun j a b=>q j (by lia) (by lia)),rfl,by rw [q i (by lia) (by lia)]; exact h3,by rw [q _ (by lia) (by lia)]; exact h4,by rw [q _ (by lia) (by lia)]; exact h5⟩
 | .whl k _ _ _ a,i,rs,h,q=>by
   rw [qZ] at h ⊢
   obtain ⟨ra,n,h1,rfl,h3,h4⟩:=h
   simp only [List.length_cons,List.length_append,List.length_nil] at q
   exact ⟨ra,n,nC.kH a h1 (fun j a b=>q j (by lia) (by lia)),rfl,by rw [q i (by lia) (by lia)]; exact h3,by rw [q _ (by lia) (by lia)]; exact h4⟩
 | .ask k _,_,rs,h,_=>by rw [qZ] at h ⊢; exact h
 | .put k _ _,_,rs,h,_=>by rw [qZ] at h ⊢; exact h
 | .say k _,_,rs,h,_=>by rw [qZ] at h ⊢; exact h
 | .bZ k _ _ _,_,rs,h,_=>by rw [qZ] at h ⊢; exact h
 | .stop k,_,rs,h,_=>by rw [qZ] at h ⊢; exact h
theorem nC.kH {m m':Mm}:∀ (b:List Stm) {i:Nat} {rs:List Row},nC m b i rs→(∀ j,i≤j→j < i + rs.length→m' j=m j)→nC m' b i rs
 | [],i,rs,h,_=>by rw [nC] at h ⊢; exact h
 | s :: r,i,rs,h,q=>by
   rw [nC] at h ⊢
   obtain ⟨r1,r2,h1,h2,rfl⟩:=h
   simp only [List.length_append] at q
   exact ⟨r1,r2,qZ.kH s h1 (fun j a b=>q j (by lia) (by lia)),nC.kH r h2 (fun j a b=>q j (by lia) (by lia)),rfl⟩
end
end PG
namespace PG
open PM (W Tr)
noncomputable def to (R:List Row) (m:Mm) (p:Nat):Int:=
 if h:p < R.length then
   match (R[p]).2 with
   | .els=>match m p with
     | some (.back o)=>match m o with
       | some (.op _ (some e))=>if he:p≤e then to R m (e + 1) else 0
       | _=>0
     | _=>0
   | .fin=>match m p with
     | some (.back o)=>match R[o]? with
       | some (k,.whl)=>k
       | _=>to R m (p + 1)
     | _=>0
   | _=>(R[p]).1
 else 0
termination_by R.length - p
decreasing_by all_goals lia
noncomputable def At (R:List Row) (i:Nat) (rs:List Row):Prop:=∀ j,j < rs.length→R[i + j]?=rs[j]?
theorem At.right {R:List Row} {i:Nat} {a b:List Row} (h:At R i (a ++ b)):At R (i + a.length) b:=fun j hj=>by
 have:=h (a.length + j) (by rw [List.length_append]; lia)
 rw [List.getElem?_append_right (by lia),show a.length + j - a.length=j by lia] at this
 rw [show i + a.length + j=i + (a.length + j) by lia]
 exact this
theorem At.tail {R:List Row} {i:Nat} {x:Row} {b:List Row} (h:At R i (x :: b)):At R (i + 1) b:=At.right (a:=[x]) h
end PG
namespace PG
open PM (W Tr)
noncomputable def JM (n:Nat) (mode:Int) (rows:List Row):Prop:=(rows.filter plainRow).Pairwise (fun a b=>a.1 < b.1)∧∀ r∈rows.filter plainRow,0 < r.1∧r.1 < number n rows mode
mutual
noncomputable def fe:Stm→List Stm
 | .ifs k sg l r a b=>.ifs k sg l r a b :: (az a ++ az b)
 | .whl k sg l r a=>.whl k sg l r a :: az a
 | s=>[s]
noncomputable def az:List Stm→List Stm
 | []=>[]
 | s :: r=>fe s ++ az r
end
mutual
theorem A9:∀ s:Stm,(fe s).map (fun x=>(x.row,x.wd))=jh s
 | .ifs k sg l r a b=>by
   rw [fe,jh,List.map_cons,List.map_append,eU a,eU b]
   rfl
 | .whl k sg l r a=>by
   rw [fe,jh,List.map_cons,eU a]
   rfl
 | .ask k _=>rfl
 | .put k _ _=>rfl
 | .say k _=>rfl
 | .bZ k _ _ _=>rfl
 | .stop k=>rfl
theorem eU:∀ b:List Stm,(az b).map (fun x=>(x.row,x.wd))=eJ b
 | []=>rfl
 | s :: r=>by simp [az,eJ,A9 s,eU r]
end
end PG
namespace PG
open PM (W Tr)
end PG
namespace PG
open PM (W Tr)
section
variable {nm:W→Prop} {ex:Tr→Prop} {sg:W→Prop}
mutual
theorem EB:∀ (s x:Stm),OkS nm ex sg s→x∈fe s→OkS nm ex sg x
 | .ifs k s l r a b,x,h,m=>by
   rw [fe] at m
   rcases List.mem_cons.mp m with rfl | m
   · exact h
   · rw [OkS] at h
     rcases List.mem_append.mp m with m | m
     · exact mf a x h.2.2.2.1 m
     · exact mf b x h.2.2.2.2 m
 | .whl k s l r a,x,h,m=>by
   rw [fe] at m
   rcases List.mem_cons.mp m with rfl | m
   · exact h
   · rw [OkS] at h
     exact mf a x h.2.2.2 m
 | .ask k b,x,h,m=>by simp only [fe,List.mem_singleton] at m; subst m; exact h
 | .put k b e,x,h,m=>by simp only [fe,List.mem_singleton] at m; subst m; exact h
 | .say k e,x,h,m=>by simp only [fe,List.mem_singleton] at m; subst m; exact h
 | .bZ k s l r,x,h,m=>by simp only [fe,List.mem_singleton] at m; subst m; exact h
 | .stop k,x,h,m=>by simp only [fe,List.mem_singleton] at m; subst m; exact h
theorem mf:∀ (b:List Stm) (x:Stm),OkB nm ex sg b→x∈az b→OkS nm ex sg x
 | [],x,_,m=>by simp [az] at m
 | s :: r,x,h,m=>by
   rw [az] at m
   rw [OkB] at h
   rcases List.mem_append.mp m with m | m
   · exact EB s x h.1 m
   · exact mf r x h.2 m
end
end
end PG
namespace PG
open PM (W Tr)
noncomputable def iM (bs:List Box):Tr→Prop
 | .num n=>0≤n∧n < 1000
 | .box x=>x∈bs.map (·.name)
 | .bin o l r=>o∈([[43],[45],[42]]:List W)∧iM bs l∧iM bs r
end PG
namespace PG
noncomputable def jA (r:dX):Prop:=0 < r.2.2.length∧(r.2.1=.ifs∨r.2.1=.whl→1 < r.2.2.length)
mutual
theorem Ba:∀ (s:Stm) (x:Int),∀ r∈eA s x,jA r
 | .ifs k sg l r a b,x,y,h=>by
   rw [eA] at h
   simp only [List.mem_cons,List.mem_append] at h
   rcases h with rfl | h | h
   · simp [jA]
   · exact g8 a x y h
   · exact g8 b x y h
 | .whl k sg l r a,x,y,h=>by
   rw [eA] at h
   simp only [List.mem_cons] at h
   rcases h with rfl | h
   · simp [jA]
   · exact g8 a k y h
 | .ask k _,x,y,h=>by simp [eA] at h; subst h; simp [jA]
 | .put k _ _,x,y,h=>by simp [eA] at h; subst h; simp [jA]
 | .say k _,x,y,h=>by simp [eA] at h; subst h; simp [jA]
 | .bZ k _ _ _,x,y,h=>by simp [eA] at h; subst h; simp [jA]
 | .stop k,x,y,h=>by simp [eA] at h; subst h; simp [jA]
theorem g8:∀ (b:List Stm) (x:Int),∀ r∈aN b x,jA r
 | [],x,y,h=>by simp [aN] at h
 | s :: r,x,y,h=>by
   rw [aN,List.mem_append] at h
   rcases h with h | h
   · exact Ba s _ y h
   · exact g8 r x y h
end
end PG
namespace PG
theorem kP:∀ (b:List Stm) (x:Int),aT b x=x∨∃ t∈az b,t.row=aT b x
 | [],x=>.inl rfl
 | s :: r,x=>.inr ⟨s,by rw [az]; exact List.mem_append_left _ (by cases s <;> simp [fe]),rfl⟩
mutual
theorem Cv:∀ (s:Stm) (x:Int),∀ r∈eA s x,∀ w∈r.2.2,w=0∨w=x∨∃ t∈fe s,t.row=w
 | .ifs k sg l r a b,x,y,h,w,hw=>by
   rw [eA] at h
   simp only [List.mem_cons,List.mem_append] at h
   rw [fe]
   rcases h with rfl | h | h
   · simp only [List.mem_cons,List.mem_nil_iff,or_false] at hw
     rcases hw with rfl | rfl
     · rcases kP a x with e | ⟨t,ht,e⟩
       · exact .inr (.inl e)
       · exact .inr (.inr ⟨t,by simp [ht],e⟩)
     · rcases kP b x with e | ⟨t,ht,e⟩
       · exact .inr (.inl e)
       · exact .inr (.inr ⟨t,by simp [ht],e⟩)
   · rcases kQ a x y h w hw with e | e | ⟨t,ht,e⟩
     · exact .inl e
     · exact .inr (.inl e)
     · exact .inr (.inr ⟨t,by simp [ht],e⟩)
   · rcases kQ b x y h w hw with e | e | ⟨t,ht,e⟩
     · exact .inl e
     · exact .inr (.inl e)
     · exact .inr (.inr ⟨t,by simp [ht],e⟩)
 | .whl k sg l r a,x,y,h,w,hw=>by
   rw [eA] at h
   simp only [List.mem_cons] at h
   rw [fe]
   have self:w=k→∃ t∈(Stm.whl k sg l r a :: az a),t.row=w:=fun e=>⟨_,List.mem_cons_self ..,e.symm⟩
   rcases h with rfl | h
   · simp only [List.mem_cons,List.mem_nil_iff,or_false] at hw
     rcases hw with rfl | rfl
     · rcases kP a k with e | ⟨t,ht,e⟩
       · exact .inr (.inr (self e))
       · exact .inr (.inr ⟨t,by simp [ht],e⟩)
     · exact .inr (.inl rfl)
   · rcases kQ a k y h w hw with e | e | ⟨t,ht,e⟩
     · exact .inl e
     · exact .inr (.inr (self e))
     · exact .inr (.inr ⟨t,by simp [ht],e⟩)
 | .ask k _,x,y,h,w,hw=>by simp [eA] at h; subst h; simp at hw; exact .inr (.inl hw)
 | .put k _ _,x,y,h,w,hw=>by simp [eA] at h; subst h; simp at hw; exact .inr (.inl hw)
 | .say k _,x,y,h,w,hw=>by simp [eA] at h; subst h; simp at hw; exact .inr (.inl hw)
 | .bZ k _ _ _,x,y,h,w,hw=>by simp [eA] at h; subst h; simp at hw; exact .inr (.inl hw)
 | .stop k,x,y,h,w,hw=>by simp [eA] at h; subst h; simp at hw; exact .inl hw
theorem kQ:∀ (b:List Stm) (x:Int),∀ r∈aN b x,∀ w∈r.2.2,w=0∨w=x∨∃ t∈az b,t.row=w
 | [],x,y,h,_,_=>by simp [aN] at h
 | s :: r,x,y,h,w,hw=>by
   rw [aN,List.mem_append] at h
   rw [az]
   rcases h with h | h
   · rcases Cv s _ y h w hw with e | e | ⟨t,ht,e⟩
     · exact .inl e
     · rcases kP r x with e2 | ⟨t,ht,e2⟩
       · exact .inr (.inl (e.trans e2))
       · exact .inr (.inr ⟨t,List.mem_append_right _ ht,e2.trans e.symm⟩)
     · exact .inr (.inr ⟨t,List.mem_append_left _ ht,e⟩)
   · rcases kQ r x y h w hw with e | e | ⟨t,ht,e⟩
     · exact .inl e
     · exact .inr (.inl e)
     · exact .inr (.inr ⟨t,List.mem_append_right _ ht,e⟩)
end
noncomputable def EC (b:List Stm) (row:Int):Nat:=(az b).findIdx (fun s=>s.row == row)
theorem Aj {b:List Stm} (pw:(az b).Pairwise (fun a b=>a.row < b.row)) (i:Nat) (hi:i < (az b).length):EC b (az b)[i].row=i:=by
 unfold EC
 rw [List.findIdx_eq hi]
 refine ⟨by simp,fun j hj=>?_⟩
 have:=List.pairwise_iff_getElem.mp pw j i (by lia) hi hj
 simp only [beq_eq_false_iff_ne,ne_eq]
 lia
inductive ck where
 | on | out | bZ (row:Int) | fin
deriving DecidableEq
structure Ran where
 rows:List Int
 said:List Int
 fin:ck
section
variable (ask:Int→Bool) (step:Int→List Int→Int→Option (Int × List Int) × Option Int)
noncomputable def take1 (a:Bool) (aJ:List Int):Option (Int × List Int):=if a then (match aJ with | []=>none | f :: r=>some (f,r)) else some (0,aJ)
noncomputable def ran:Nat→Int→List Int→List Int→Ran
 | 0,row,_,_=>if row=0 then ⟨[],[],.fin⟩ else ⟨[],[],.on⟩
 | n + 1,row,vals,aJ=>if row=0 then ⟨[],[],.fin⟩ else
   match take1 (ask row) aJ with
   | none=>⟨[row],[],.out⟩
   | some (f,r)=>match step row vals f with
     | (none,_)=>⟨[row],[],.bZ row⟩
     | (some x,s)=>⟨row :: (ran n x.1 x.2 r).rows,s.toList ++ (ran n x.1 x.2 r).said,(ran n x.1 x.2 r).fin⟩
noncomputable def endAt (row:Int):Option ck:=if row=0 then some .fin else none
noncomputable def go1 (row:Int) (vals left:List Int):Option Int × List Int × Int × List Int × Option ck:=match take1 (ask row) left with
 | none=>(none,left,row,vals,some .out)
 | some (f,r)=>match step row vals f with
   | (none,s)=>(s,r,row,vals,some (.bZ row))
   | (some x,s)=>(s,r,x.1,x.2,endAt x.1)
theorem si (n:Nat) (vals left:List Int):ran ask step n 0 vals left=⟨[],[],.fin⟩:=by
 cases n <;> simp [ran]
theorem vE {row:Int} (h:row≠0) (vals left:List Int):ran ask step 0 row vals left=⟨[],[],.on⟩:=by
 simp [ran,h]
theorem Gv (hs:∀ row vals f,(step row vals f).1=none→(step row vals f).2=none) {row:Int} (h:row≠0) (k:Nat) (vals left:List Int) :
   ran ask step (k + 1) row vals left=(match (go1 ask step row vals left).2.2.2.2 with
     | some e=>⟨[row],(go1 ask step row vals left).1.toList,e⟩
     | none=>⟨row :: (ran ask step k (go1 ask step row vals left).2.2.1 (go1 ask step row vals left).2.2.2.1 (go1 ask step row vals left).2.1).rows,
         (go1 ask step row vals left).1.toList ++ (ran ask step k (go1 ask step row vals left).2.2.1 (go1 ask step row vals left).2.2.2.1 (go1 ask step row vals left).2.1).said,
         (ran ask step k (go1 ask step row vals left).2.2.1 (go1 ask step row vals left).2.2.2.1 (go1 ask step row vals left).2.1).fin⟩):=by
 rw [ran,if_neg h]
 unfold go1
 cases ht:take1 (ask row) left with
 | none=>rfl
 | some x=>
   obtain ⟨f,r⟩:=x
   simp only
   have:=hs row vals f
   rcases hst:step row vals f with ⟨o,s⟩
   rw [hst] at this
   cases o with
   | none=>
     have e:s=none:=this rfl
     subst e
     rfl
   | some x=>
     simp only
     by_cases hx:x.1=0
     · simp only [endAt,hx,if_true,si]
       simp
     · simp only [endAt,hx,if_false]
theorem Gw {row:Int} {vals left:List Int} (h:(go1 ask step row vals left).2.2.2.2=none):(go1 ask step row vals left).2.2.1≠0:=by
 revert h
 unfold go1
 split
 · intro h; cases h
 · split
   · intro h; cases h
   · rename_i x s _
     simp only [endAt]
     intro h e
     rw [if_pos e] at h
     cases h
end
end PG
namespace L2
open PySem
noncomputable def wdS:PG.Wd→Str
 | .ask=>"ask" | .put=>"put" | .say=>"say" | .bZ=>"must" | .stop=>"stop" | .ifs=>"if" | .whl=>"while" | .els=>"else" | .fin=>"end"
mutual
noncomputable def dpS:PG.Stm→Dp
 | .ask k b=>.tup [.str "ask",.int k,.str (S b)]
 | .put k b e=>.tup [.str "put",.int k,.str (S b),dpT e]
 | .say k e=>.tup [.str "say",.int k,dpT e]
 | .bZ k sg l r=>.tup [.str "must",.int k,.str (S sg),dpT l,dpT r]
 | .stop k=>.tup [.str "stop",.int k]
 | .ifs k sg l r a b=>.tup [.str "if",.int k,.str (S sg),dpT l,dpT r,.lst (pP a),.lst (pP b)]
 | .whl k sg l r a=>.tup [.str "while",.int k,.str (S sg),dpT l,dpT r,.lst (pP a)]
noncomputable def pP:List PG.Stm→List Dp
 | []=>[]
 | s :: r=>dpS s :: pP r
end
theorem ji:∀ l:List PG.Stm,pP l=l.map dpS
 | []=>rfl
 | s :: r=>by rw [pP,ji r]; rfl
noncomputable def eV (b:PG.Box):Dp:=.tup [.str (S b.name),.int b.size,.int b.first]
noncomputable def fE (p:PG.Prog):Dp:=.tup [.lst (p.ax.map eV),.lst (p.body.map dpS)]
noncomputable def HW (r:PG.Row):Dp:=.lst [.int r.1,.str (wdS r.2)]
noncomputable def Jo:PG.Tg→Dp
 | .row k=>.tup [.str "row",.int k]
 | .side k b=>.tup [.str "side",.int k,.bl b]
 | .bZ k=>.tup [.str "must",.int k]
 | .fin=>.tup [.str "end"]
noncomputable def bC (O:Addr→Prop) (H H':Hp):Prop:=∀ b o,¬ O b→H b=some o→H' b=some o
noncomputable def Fix (K:PySem.W.Frag) (O:Addr→Prop) (H:Hp) (d:Dp) (v:V):Prop:=∀ H',bC O H H'→Rep K H' d v
noncomputable def fF (K:PySem.W.Frag) (O:Addr→Prop) (H:Hp) (ds:List Dp) (vs:List V):Prop:=∀ H',bC O H H'→aM K H' ds vs
section
variable {K:PySem.W.Frag} {O O':Addr→Prop} {H H1 H2:Hp} {d:Dp} {ds:List Dp} {v:V} {vs:List V} {p:Addr} {o:HO}
theorem bC.refl:bC O H H:=fun _ _ _ e=>e
theorem bC.trans (a:bC O H H1) (b:bC O H1 H2):bC O H H2:=fun c u n e=>b c u n (a c u n e)
theorem bC.of (s:aC H H1):bC O H H1:=fun b u _ e=>s b u e
theorem bC.mono (a:bC O H H1) (i:∀ b,O b→O' b):bC O' H H1:=fun b u n e=>a b u (fun z=>n (i b z)) e
theorem bC.one (a:cv p H H1) (hp:O p):bC O H H1:=fun b u n e=>a b u (fun z=>n (by rw [z]; exact hp)) e
theorem bC.put (a:bC O H H1) (hp:O p) (u:HO):bC O H (upd H1 p u):=fun b w n e=>by rw [aR (fun z=>n (by rw [z]; exact hp))]; exact a b w n e
theorem Fix.up (f:Fix K O H d v) (u:bC O H H1):Fix K O H1 d v:=fun H2 u2=>f H2 (u.trans u2)
theorem fF.up (f:fF K O H ds vs) (u:bC O H H1):fF K O H1 ds vs:=fun H2 u2=>f H2 (u.trans u2)
theorem fF.Jp (f:fF K O H ds vs):aM K H ds vs:=f H .refl
theorem Fix.sub (f:Fix K O H d v) (i:∀ b,O' b→O b):Fix K O' H d v:=fun H2 u=>f H2 (u.mono i)
theorem Fix.apart (f:Fix K O H d v) (hp:H p=none):Fix K (fun b=>O b∨b=p) (upd H p o) d v:=fun H2 u=>f H2 fun b w n e=>by
 have np:b≠p:=aA e hp
 exact u b w (fun z=>z.elim n np) (by rw [aR np]; exact e)
theorem fF.nil:fF K O H [] []:=fun _ _=>.nil
theorem fF.cons (a:Fix K O H d v) (b:fF K O H ds vs):fF K O H (d :: ds) (v :: vs):=fun H2 u=>.cons (a H2 u) (b H2 u)
theorem fF.snoc (b:fF K O H ds vs) (a:Fix K O H d v):fF K O H (ds ++ [d]) (vs ++ [v]):=fun H2 u=>(b H2 u).append (.cons (a H2 u) .nil)
theorem Fix.int {i:Int}:Fix K O H (.int i) (.int i):=fun _ _=>Rep.bG.mpr rfl
theorem Fix.str {x:Str}:Fix K O H (.str x) (.str x):=fun _ _=>Rep.bV.mpr rfl
theorem Fix.bl {x:Bool}:Fix K O H (.bl x) (.bl x):=fun _ _=>Rep.rZ.mpr rfl
theorem Fix.tup (h:H p=some (.tup vs)) (n:¬ O p) (f:fF K O H ds vs):Fix K O H (.tup ds) (.ref p):=fun H2 u=>Rep.a8.mpr ⟨p,vs,rfl,.of (u p _ n h),f H2 u⟩
end
structure Jq (K:PySem.W.Frag) (H:Hp) (D S:Addr) (sc:List Int) (p:Nat):Prop where
 Jr:H D=some (.lst [.ref S,.int p])
 Js:H S=some (.lst (sc.map .int))
 ne:S≠D
 len:sc.length≤63
end L2
namespace L2
open PySem
section
variable (K:PySem.W.Frag)
end
theorem Ak {a:Option V} {r:St} {H:Hp} {Q:VK}:(eL 13 (a :: r) H Q)=(eL 12 r H Q):=rfl
theorem Al {a:Option V} {r:St} {H:Hp} {Q:VK}:(eL 14 (a :: r) H Q)=(eL 13 r H Q):=rfl
noncomputable def HX (K:PySem.W.Frag) (O:Addr→Prop) (H:Hp) (B:Addr) (bs:List PG.Box):Prop:=Fix K O H (.lst (bs.map eV)) (.ref B)∧bs.length≤10
noncomputable def Own (K:PySem.W.Frag) (H0 H:Hp) (d:Dp) (v:V):Prop:=∀ O:Addr→Prop,(∀ b,O b→H0 b≠none)→Fix K O H d v
section
variable (K:PySem.W.Frag)
end
section
variable {K:PySem.W.Frag} {O:Addr→Prop} {H0 H H1:Hp} {d:Dp} {v:V} {D B:Addr} {bs:List PG.Box}
theorem Own.back {H00:Hp} (f:Own K H0 H d v) (h:∀ b,H00 b≠none→H0 b≠none):Own K H00 H d v:=fun O hO=>f O fun b hb=>h b (hO b hb)
end
noncomputable def JR (K:PySem.W.Frag) (H0 H:Hp) (ds:List Dp) (vs:List V):Prop:=∀ O:Addr→Prop,(∀ b,O b→H0 b≠none)→fF K O H ds vs
section
variable {K:PySem.W.Frag} {H0 H H1:Hp} {d:Dp} {v:V} {ds:List Dp} {vs:List V} {D p:Addr}
end
end L2
namespace L2
open PySem
noncomputable def kdS:Nat→Str
 | 0=>"all"
 | 1=>"if"
 | 2=>"else"
 | _=>"while"
structure ED (K:PySem.W.Frag) (Oo:Addr→Prop) (H:Hp) (f:PG.Frame) (a b:Addr) (hd fi:V) (xs:List V):Prop where
 fr:H a=some (.lst [.str (kdS f.kind),.ref b,hd,fi])
 bd:H b=some (.lst xs)
 ok:fF K Oo H (f.body.map dpS) xs
 JS:f.kind≠0→∃ c ys,hd=.ref c∧H c=some (.tup ys)∧¬ Oo c∧fF K Oo H [.str (if f.kind=3 then "while" else "if"),.int f.k,.str (S f.sg),dpT f.l,dpT f.r] ys
 JT:f.kind=2→Fix K Oo H (.lst (f.first.map dpS)) fi
 len:xs.length=f.body.length
noncomputable abbrev Fra:=PG.Frame × Addr × Addr
noncomputable def opn (D P R:Addr) (frs:List Fra):List Addr:=D :: P :: R :: frs.flatMap fun x=>[x.2.1,x.2.2]
noncomputable def O (D P R:Addr) (frs:List Fra) (E:List Addr):Addr→Prop:=fun b=>b∈opn D P R frs∨b∈E
structure PSt (K:PySem.W.Frag) (H:Hp) (D S:Addr) (sc:List Int) (p:Nat) (B:Addr) (bs:List PG.Box) (P R:Addr) (frs:List Fra) (rows:List PG.Row) (E:List Addr):Prop where
 Jr:Jq K H D S sc p
 box:Fix K (O D P R frs E) H (.lst (bs.map eV)) (.ref B)
 few:bs.length≤10
 xm:H P=some (.lst (frs.reverse.map fun x=>.ref x.2.1))
 frames:∀ x∈frs,∃ hd fi xs,ED K (O D P R frs E) H x.1 x.2.1 x.2.2 hd fi xs
 rows:∃ rvs,H R=some (.lst rvs)∧fF K (O D P R frs E) H (rows.map HW) rvs∧rvs.length=rows.length
 nd:(opn D P R frs).Nodup
 nS:S ∉ opn D P R frs
section
variable {K:PySem.W.Frag} {H H':Hp} {D S B P R:Addr} {sc:List Int} {p p':Nat} {bs:List PG.Box} {frs:List Fra} {rows:List PG.Row} {E E':List Addr}
theorem PSt.ne (s:PSt K H D S sc p B bs P R frs rows E):D≠P∧D≠R∧P≠R∧∀ x∈frs,x.2.1≠D∧x.2.2≠D∧x.2.1≠P∧x.2.2≠P∧x.2.1≠R∧x.2.2≠R:=by
 have nd:=s.nd
 unfold opn at nd
 rw [List.nodup_cons,List.nodup_cons,List.nodup_cons] at nd
 obtain ⟨h1,h2,h3,h4⟩:=nd
 simp only [List.mem_cons,not_or] at h1 h2
 refine ⟨h1.1,h1.2.1,h2.1,fun x hx=>?_⟩
 have m1:x.2.1∈frs.flatMap fun x=>[x.2.1,x.2.2]:=List.mem_flatMap.mpr ⟨x,hx,by simp⟩
 have m2:x.2.2∈frs.flatMap fun x=>[x.2.1,x.2.2]:=List.mem_flatMap.mpr ⟨x,hx,by simp⟩
 exact ⟨fun e=>h1.2.2 (e ▸ m1),fun e=>h1.2.2 (e ▸ m2),fun e=>h2.2 (e ▸ m1),fun e=>h2.2 (e ▸ m2),fun e=>h3 (e ▸ m1),fun e=>h3 (e ▸ m2)⟩
theorem PSt.ax (s:PSt K H D S sc p B bs P R frs rows E):HX K (·=D) H B bs:=⟨s.box.sub fun b hb=>.inl (by rw [show b=D from hb]; simp [opn]),s.few⟩
end
end L2
namespace L2
open PySem
section
variable (K:PySem.W.Frag)
end
theorem jB {X:Cx} {K:PySem.W.Frag} (h:X.K=K):IxR X (F7 K):=h ▸ aV
end L2
namespace L2
open PySem
section
variable (K:PySem.W.Frag)
end
noncomputable def Kept (D:Addr) (H H':Hp):Prop:=cv D H H'∧∀ b,H b≠none→H' b≠none
noncomputable def aK:PG.Stm→List (List PG.Stm)
 | .ifs _ _ _ _ a b=>[a,b]
 | .whl _ _ _ _ a=>[a]
 | _=>[]
noncomputable def ff (s:PG.Stm) (x:Int):Int:=match s with
 | .whl k _ _ _ _=>k
 | _=>x
noncomputable def kR (s:PG.Stm) (x:Int):List Int:=match s with
 | .stop _=>[0]
 | .ifs _ _ _ _ a b=>[PG.aT a x,PG.aT b x]
 | .whl k _ _ _ a=>[PG.aT a k,x]
 | _=>[x]
theorem Cw (s:PG.Stm) (x:Int):PG.eA s x=(s.row,s.wd,kR s x) :: ((aK s).flatMap fun b=>PG.aN b (ff s x)):=by
 cases s <;> simp [PG.eA,PG.Stm.row,PG.Stm.wd,kR,aK,ff]
noncomputable def fG (r:PG.dX):Dp:=.tup [.int r.1,.str (wdS r.2.1),.tup (r.2.2.map .int)]
section
variable (K:PySem.W.Frag)
noncomputable def oy:Sp:=fun vs H Q _=>∃ (b:Addr) (body:List PG.Stm) (x:Int),vs=[.ref b,.int x]∧Rep K H (.lst (body.map dpS)) (.ref b)∧body.length≤100000∧Q (.int (PG.aT body x)) H
noncomputable def xn:Sp:=fun vs H Q _=>∃ (v:V) (st:PG.Stm) (x:Int),vs=[v,.int x]∧Rep K H (dpS st) v∧Q (.int (ff st x)) H
noncomputable def sj:Sp:=fun vs H Q _=>∃ (v:V) (st:PG.Stm) (H0:Hp),vs=[v]∧Rep K H0 (dpS st) v∧aC H0 H∧∀ l us H',aC H H'→H l=none→H' l=some (.lst us)→aM K H0 ((aK st).map fun b=>.lst (b.map dpS)) us→Q (.ref l) H'
end
theorem fH {K:PySem.W.Frag} {H:Hp}:∀ (s:PG.Stm) {v:V},Rep K H (dpS s) v→∃ a ys,v=.ref a∧SqT K H a (.str (wdS s.wd) :: .int s.row :: ys):=by
 intro s v h
 have key:∃ ds,dpS s=.tup (.str (wdS s.wd) :: .int s.row :: ds):=by
   cases s <;> exact ⟨_,by rw [dpS]; rfl⟩
 obtain ⟨ds,e⟩:=key
 rw [e,Rep.a8] at h
 obtain ⟨a,xs,rfl,q,r⟩:=h
 rw [aM.aP] at r
 obtain ⟨v1,t1,rfl,e1,r⟩:=r
 rw [aM.aP] at r
 obtain ⟨v2,t2,rfl,e2,_⟩:=r
 rw [Rep.bV] at e1
 rw [Rep.bG] at e2
 subst e1 e2
 exact ⟨a,t2,rfl,q⟩
section
variable (K:PySem.W.Frag)
noncomputable def Cy (st:PG.Stm):Prop:=∀ b∈aK st,b.length≤100000
noncomputable def Cz:Sp:=fun vs H Q _=>∃ (v:V) (st:PG.Stm) (x:Int),vs=[v,.int x]∧Rep K H (dpS st) v∧Cy st∧∀ u H',aC H H'→Rep K H' (.tup ((kR st x).map .int)) u→Q u H'
end
mutual
noncomputable def noL:Dp→Bool
 | .lst _=>false
 | .tup l=>kS l
 | _=>true
noncomputable def kS:List Dp→Bool
 | []=>true
 | d :: r=>noL d && kS r
end
section
variable {K:PySem.W.Frag} {H H':Hp} {tl:Addr} {xs:List V}
mutual
theorem xo (h:H tl=some (.lst xs)) (u:bC (·=tl) H H'):∀ (d:Dp) (v:V),noL d=true→Rep K H d v→Rep K H' d v
 | .non,v,_,r=>by rw [Rep.rG] at r ⊢; exact r
 | .bl b,v,_,r=>by rw [Rep.rZ] at r ⊢; exact r
 | .int b,v,_,r=>by rw [Rep.bG] at r ⊢; exact r
 | .str b,v,_,r=>by rw [Rep.bV] at r ⊢; exact r
 | .lst l,v,e,_=>by rw [noL] at e; cases e
 | .tup l,v,e,r=>by
   rw [noL] at e
   rw [Rep.a8] at r ⊢
   obtain ⟨a,ys,rfl,q,rs⟩:=r
   refine ⟨a,ys,rfl,?_,pQ h u l ys e rs⟩
   rcases q with (q | ⟨o,q⟩) | q
   · exact .inl (.inl (u _ _ (cQ q h (by intro z; cases z)) q))
   · exact .inl (.inr ⟨o,u _ _ (cQ q h (by intro z; cases z)) q⟩)
   · exact .inr q
theorem pQ (h:H tl=some (.lst xs)) (u:bC (·=tl) H H'):∀ (ds:List Dp) (vs:List V),kS ds=true→aM K H ds vs→aM K H' ds vs
 | [],vs,_,r=>by rw [aM.cf] at r ⊢; exact r
 | d :: ds,vs,e,r=>by
   rw [kS,Bool.and_eq_true] at e
   rw [aM.aP] at r ⊢
   obtain ⟨v,t,rfl,r1,r2⟩:=r
   exact ⟨v,t,rfl,xo h u d v e.1 r1,pQ h u ds t e.2 r2⟩
end
theorem EE (h:H tl=some (.lst xs)) {ds:List Dp} {vs:List V} (e:kS ds=true) (r:aM K H ds vs):fF K (·=tl) H ds vs:=fun _ u=>pQ h u ds vs e r
theorem Gx (h:H tl=some (.lst xs)) {d:Dp} {v:V} (e:noL d=true) (r:Rep K H d v):Fix K (·=tl) H d v:=fun _ u=>xo h u d v e r
end
theorem pR:∀ l:List Int,kS (l.map .int)=true
 | []=>by simp [kS]
 | i :: r=>by rw [List.map_cons,kS,pR r]; simp [noL]
theorem CA (r:PG.dX):noL (fG r)=true:=by simp [fG,noL,kS,pR]
theorem uY:∀ l:List PG.dX,kS (l.map fG)=true
 | []=>by simp [kS]
 | r :: l=>by rw [List.map_cons,kS,CA,uY l]; rfl
section
variable (K:PySem.W.Frag)
noncomputable def rH (n:Nat):Sp:=fun vs H Q _=>∃ (b:Addr) (body:List PG.Stm) (x:Int),vs=[.ref b,.int x]∧Rep K H (.lst (body.map dpS)) (.ref b)∧PG.qY body < n∧(PG.eJ body).length≤1000∧
 ∀ l us H',aC H H'→H l=none→H' l=some (.lst us)→aM K H' ((PG.aN body x).map fG) us→Q (.ref l) H'
end
mutual
theorem jC:∀ (s:PG.Stm) (b:List PG.Stm),b∈aK s→(PG.eJ b).length + 1≤(PG.jh s).length∧PG.qY b + 1≤PG.Cu s
 | .ifs k _ _ _ x y,b,h=>by
   simp only [aK,List.mem_cons,List.not_mem_nil,or_false] at h
   rw [PG.jh,PG.Cu]
   simp only [List.length_cons,List.length_append]
   rcases h with rfl | rfl <;> lia
 | .whl k _ _ _ x,b,h=>by
   simp only [aK,List.mem_cons,List.not_mem_nil,or_false] at h
   rw [PG.jh,PG.Cu]
   simp only [List.length_cons]
   subst h
   lia
 | .ask _ _,b,h=>by cases h
 | .put _ _ _,b,h=>by cases h
 | .say _ _,b,h=>by cases h
 | .bZ _ _ _ _,b,h=>by cases h
 | .stop _,b,h=>by cases h
end
theorem pS:∀ (l:List PG.Stm) (s:PG.Stm),s∈l→(PG.jh s).length≤(PG.eJ l).length∧PG.Cu s≤PG.qY l
 | [],s,h=>by cases h
 | a :: r,s,h=>by
   rw [PG.eJ,PG.qY,List.length_append]
   rcases List.mem_cons.mp h with rfl | h
   · lia
   · have:=pS r s h
     lia
theorem Bb (s:PG.Stm):1≤(PG.jh s).length:=by cases s <;> simp [PG.jh]
theorem jj:∀ l:List PG.Stm,l.length≤(PG.eJ l).length
 | []=>Nat.zero_le _
 | s :: r=>by
   rw [PG.eJ,List.length_append,List.length_cons]
   have:=Bb s
   have:=jj r
   lia
section
variable (K:PySem.W.Frag)
noncomputable def yE:Sp:=fun vs H Q _=>∃ (v:V) (pr:PG.Prog),vs=[v]∧Rep K H (fE pr) v∧PG.qY pr.body≤3∧(PG.eJ pr.body).length≤1000∧
 ∀ l us H',aC H H'→H l=none→H' l=some (.lst us)→aM K H' ((PG.aN pr.body 0).map fG) us→Q (.ref l) H'
end
end L2
namespace L2
open PySem
section
variable {X:Cx}
end
structure TgI (K:PySem.W.Frag) (H H2:Hp) (tl:Addr) (H3:Hp) (us:List V) (pre:List PG.Tg):Prop where
 s:aC H H3
 u:bC (·=tl) H2 H3
 y:H3 tl=some (.lst us)
 f:fF K (·=tl) H3 (pre.map Jo) us
 l:us.length=pre.length
section
variable {K:PySem.W.Frag} {H H2 H3 H4:Hp} {tl p:Addr} {us vs:List V} {pre:List PG.Tg} {ds:List Dp} {g:PG.Tg}
end
theorem CB:∀ w:PG.Wd,(V.str (wdS w)=V.str (Str.ofString "must"))↔w=.bZ:=by
 intro w
 cases w <;> decide +kernel
section
variable (K:PySem.W.Frag)
end
end L2
namespace L2
open PySem
noncomputable def HY:Option Nat→V
 | none=>.non
 | some e=>.int e
noncomputable def mtV (A:Nat→Addr) (p:Nat):Option PG.Mt→Option V
 | none=>none
 | some (.back q)=>some (.int q)
 | some (.op _ _)=>some (.ref (A p))
structure MtI (H:Hp) (d:Addr) (m:PG.Mm) (A:Nat→Addr) (Hx:Hp) (kvs:List (Key × V)):Prop where
 s:aC H Hx
 dn:H d=none
 dd:Hx d=some (.dK kvs)
 at_:∀ p:Nat,de kvs (.inl (p:Int))=mtV A p (m p)
 ls:∀ p e f,m p=some (.op e f)→Hx (A p)=some (.lst [HY e,HY f])∧H (A p)=none
 inj:∀ p q e f e' f',m p=some (.op e f)→m q=some (.op e' f')→A p=A q→p=q
section
variable {H Hx H':Hp} {d b:Addr} {m:PG.Mm} {A:Nat→Addr} {kvs:List (Key × V)} {o:HO}
end
section
variable (K:PySem.W.Frag)
end
end L2
namespace L2
open PySem
structure Gy (K:PySem.W.Frag) (H:Hp) (tl:Addr) (H3:Hp) (us:List V) (ds:List Dp):Prop where
 s:aC H H3
 y:H3 tl=some (.lst us)
 f:fF K (·=tl) H3 ds us
 l:us.length=ds.length
section
variable {K:PySem.W.Frag} {H H3 H4:Hp} {tl p p1 p2:Addr} {us vs:List V} {ds es:List Dp} {d:Dp} {v:V}
theorem Gy.push (a:Gy K H tl H3 us ds) (ht:H tl=none) (fv:Fix K (·=tl) H3 d v):Gy K H tl (upd H3 tl (.lst (us ++ [v]))) (us ++ [v]) (ds ++ [d]):=by
 have uu:bC (·=tl) H3 (upd H3 tl (.lst (us ++ [v]))):=bC.refl.put (O:=(·=tl)) rfl _
 exact ⟨fun z o e=>by rw [aR (aA e ht)]; exact a.s z o e,ar,(a.f.snoc fv).up uu,by simp [a.l]⟩
end
end L2
namespace L2
open PySem
section
variable {X:Cx}
end
theorem yG {kvs:List (Key × V)} {k:Key} {v:V} (h:k ∉ kvs.map (·.1)):putK kvs k v=kvs ++ [(k,v)]:=by
 unfold putK
 rw [if_neg]
 intro z
 rw [List.any_eq_true] at z
 obtain ⟨x,hx,e⟩:=z
 exact h (List.mem_map.mpr ⟨x,hx,of_decide_eq_true e⟩)
theorem nD:∀ (more kvs:List (Key × V)),((kvs ++ more).map (·.1)).Nodup→jy kvs more=kvs ++ more
 | [],kvs,_=>by simp [jy]
 | p :: r,kvs,h=>by
   have hp:p.1 ∉ kvs.map (·.1):=fun z=>by
     rw [List.map_append,List.nodup_append] at h
     exact h.2.2 _ z _ (by simp) rfl
   show jy (putK kvs p.1 p.2) r=_
   rw [yG hp,nD r _ (by rw [List.append_assoc]; exact h),List.append_assoc]
   rfl
noncomputable def gu (ss:List PG.Stm) (vs:List V):List (Key × V):=List.zipWith (fun s v=>(Sum.inl s.row,v)) ss vs
theorem sk:∀ (ss:List PG.Stm) (vs:List V),vs.length=ss.length→(gu ss vs).map (·.1)=ss.map fun s=>(Sum.inl s.row:Key)
 | [],[],_=>rfl
 | [],_ :: _,h=>by simp at h
 | _ :: _,[],h=>by simp at h
 | s :: ss,v :: vs,h=>by
   show _ :: (gu ss vs).map (·.1)=_
   rw [sk ss vs (by simpa using h)]
   rfl
theorem sr {ss:List PG.Stm} (h:ss.Pairwise fun a b=>a.row < b.row):(ss.map fun s=>(Sum.inl s.row:Key)).Nodup:=by
 refine List.pairwise_map.mpr (h.imp fun {a b} hab e=>?_)
 have:=Sum.inl.inj e
 lia
theorem oA:∀ (ss:List PG.Stm) (vs:List V),vs.length=ss.length→ss.Pairwise (fun a b=>a.row < b.row)→∀ i (hi:i < ss.length) v,vs[i]?=some v→de (gu ss vs) (.inl ss[i].row)=some v
 | [],_,_,_,i,hi,_,_=>by simp at hi
 | _ :: _,[],h,_,_,_,_,_=>by simp at h
 | s :: ss,v :: vs,h,hp,0,hi,u,hu=>by
   simp at hu
   subst hu
   show de ((_,v) :: gu ss vs) _=_
   exact cS rfl
 | s :: ss,v :: vs,h,hp,i + 1,hi,u,hu=>by
   rw [List.pairwise_cons] at hp
   have lt:=hp.1 (ss[i]'(by simpa using hi)) (List.getElem_mem _)
   show de ((.inl s.row,v) :: gu ss vs) (.inl (ss[i]'(by simpa using hi)).row)=_
   rw [cT (fun e=>by have e:=Sum.inl.inj e; lia)]
   exact oA ss vs (by simpa using h) hp.2 i (by simpa using hi) u (by simpa using hu)
theorem EF (s:PG.Stm):PG.fe s=s :: (aK s).flatMap PG.az:=by
 cases s <;> simp [PG.fe,aK]
section
variable (K:PySem.W.Frag)
noncomputable def mh (n:Nat):Sp:=fun vs H Q _=>∃ (b:Addr) (body:List PG.Stm) (H0:Hp),vs=[.ref b]∧aC H0 H∧Rep K H0 (.lst (body.map dpS)) (.ref b)∧PG.qY body < n∧(PG.eJ body).length≤1000∧
 ∀ l us H',aC H H'→H l=none→H' l=some (.lst us)→aM K H0 ((PG.az body).map dpS) us→Q (.ref l) H'
end
theorem su:∀ a b:List PG.Stm,PG.az (a ++ b)=PG.az a ++ PG.az b
 | [],b=>by simp [PG.az]
 | s :: r,b=>by
   show PG.az (s :: (r ++ b))=_
   rw [PG.az,PG.az,su r b,List.append_assoc]
theorem CD (s:PG.Stm):PG.az [s]=PG.fe s:=by rw [PG.az,PG.az,List.append_nil]
theorem xp (b:List PG.Stm):(PG.az b).length=(PG.eJ b).length:=by rw [← PG.eU,List.length_map]
end L2
namespace HT
open PySem PySem.Spec PyProof.Rows
section
variable {prog:Program} {w:World} {A:Around} {E:Value→Shared→Prop} {s:Shared}
end
end HT
namespace L2
open PySem PySem.Spec PyProof.Rows
end L2
namespace L2
open PySem
noncomputable def gO {α β γ:Type} (R:α→β→γ→Prop):List α→List β→List γ→Prop
 | [],[],[]=>True
 | a :: as,b :: bs,c :: cs=>R a b c∧gO R as bs cs
 | _,_,_=>False
section
variable {α β γ:Type} {R S:α→β→γ→Prop}
theorem gO.cf {bs:List β} {cs:List γ}:gO R [] bs cs↔bs=[]∧cs=[]:=by
 cases bs <;> cases cs <;> simp [gO]
theorem gO.aP {a:α} {as:List α} {bs:List β} {cs:List γ}:gO R (a :: as) bs cs↔∃ b bs' c cs',bs=b :: bs'∧cs=c :: cs'∧R a b c∧gO R as bs' cs':=by
 constructor
 · intro h
   cases bs with
   | nil=>simp [gO] at h
   | cons b bs=>
     cases cs with
     | nil=>simp [gO] at h
     | cons c cs=>exact ⟨b,bs,c,cs,rfl,rfl,h.1,h.2⟩
 · rintro ⟨b,bs',c,cs',rfl,rfl,h1,h2⟩
   exact ⟨h1,h2⟩
theorem gO.imp:∀ {as:List α} {bs:List β} {cs:List γ},gO R as bs cs→(∀ a b c,a∈as→c∈cs→R a b c→S a b c)→gO S as bs cs
 | [],_,_,h,_=>by obtain ⟨rfl,rfl⟩:=gO.cf.mp h; trivial
 | a :: as,_,_,h,f=>by
   obtain ⟨b,bs',c,cs',rfl,rfl,h1,h2⟩:=gO.aP.mp h
   exact ⟨f a b c (List.mem_cons_self ..) (List.mem_cons_self ..) h1,h2.imp fun a' b' c' m1 m2=>f a' b' c' (List.mem_cons_of_mem _ m1) (List.mem_cons_of_mem _ m2)⟩
end
noncomputable def hdS:PG.Stm→List Dp
 | .ask k b=>[.str "ask",.int k,.str (S b)]
 | .put k b e=>[.str "put",.int k,.str (S b),dpT e]
 | .say k e=>[.str "say",.int k,dpT e]
 | .bZ k sg l r=>[.str "must",.int k,.str (S sg),dpT l,dpT r]
 | .stop k=>[.str "stop",.int k]
 | .ifs k sg l r _ _=>[.str "if",.int k,.str (S sg),dpT l,dpT r]
 | .whl k sg l r _=>[.str "while",.int k,.str (S sg),dpT l,dpT r]
theorem Gz (s:PG.Stm):dpS s=.tup (hdS s ++ (aK s).map fun b=>.lst (b.map dpS)):=by
 cases s <;> simp [dpS,hdS,aK,ji]
mutual
theorem Fx:∀ t:PM.Tr,noL (dpT t)=true
 | .num n=>by simp [dpT,noL,kS]
 | .box n=>by simp [dpT,noL,kS]
 | .bin o l r=>by simp [dpT,noL,kS,Fx l,Fx r]
end
section
variable {K:PySem.W.Frag} {H H':Hp} {O:Addr→Prop}
theorem Bc (hO:∀ g,O g→∃ ys,H g=some (.lst ys)) (u:bC O H H') {a:Addr} {ys:List V} (q:SqT K H a ys):SqT K H' a ys:=by
 rcases q with (q | ⟨o,q⟩) | q
 · exact .inl (.inl (u _ _ (fun z=>by obtain ⟨_,e⟩:=hO a z; rw [e] at q; cases q) q))
 · exact .inl (.inr ⟨o,u _ _ (fun z=>by obtain ⟨_,e⟩:=hO a z; rw [e] at q; cases q) q⟩)
 · exact .inr q
mutual
theorem Bd (hO:∀ g,O g→∃ ys,H g=some (.lst ys)) (u:bC O H H'):∀ (d:Dp) (v:V),noL d=true→Rep K H d v→Rep K H' d v
 | .non,v,_,r=>by rw [Rep.rG] at r ⊢; exact r
 | .bl b,v,_,r=>by rw [Rep.rZ] at r ⊢; exact r
 | .int b,v,_,r=>by rw [Rep.bG] at r ⊢; exact r
 | .str b,v,_,r=>by rw [Rep.bV] at r ⊢; exact r
 | .lst l,v,e,_=>by rw [noL] at e; cases e
 | .tup l,v,e,r=>by
   rw [noL] at e
   rw [Rep.a8] at r ⊢
   obtain ⟨a,ys,rfl,q,rs⟩:=r
   exact ⟨a,ys,rfl,Bc hO u q,sC hO u l ys e rs⟩
theorem sC (hO:∀ g,O g→∃ ys,H g=some (.lst ys)) (u:bC O H H'):∀ (ds:List Dp) (vs:List V),kS ds=true→aM K H ds vs→aM K H' ds vs
 | [],vs,_,r=>by rw [aM.cf] at r ⊢; exact r
 | d :: ds,vs,e,r=>by
   rw [kS,Bool.and_eq_true] at e
   rw [aM.aP] at r ⊢
   obtain ⟨v,t,rfl,r1,r2⟩:=r
   exact ⟨v,t,rfl,Bd hO u d v e.1 r1,sC hO u ds t e.2 r2⟩
end
end
section
variable (K:PySem.W.Frag) (H:Hp)
noncomputable def TrB:Nat→List PG.Stm→Addr→List Addr→Prop
 | 0,_,_,_=>False
 | n + 1,body,b,F=>∃ vs Fs,H b=some (.lst vs)∧gO (fun s v G=>∃ a hs bs Gs,v=.ref a∧SqT K H a (hs ++ bs.map V.ref)∧aM K H (hdS s) hs∧gO (TrB n) (aK s) bs Gs∧G=Gs.flatten) body vs Fs∧F=b :: Fs.flatten
noncomputable def TrS (n:Nat) (s:PG.Stm) (v:V) (G:List Addr):Prop:=∃ a hs bs Gs,v=.ref a∧SqT K H a (hs ++ bs.map V.ref)∧aM K H (hdS s) hs∧gO (TrB K H n) (aK s) bs Gs∧G=Gs.flatten
end
section
variable {K:PySem.W.Frag} {H H':Hp} {O:Addr→Prop}
theorem CF {n:Nat} {body:List PG.Stm} {b:Addr} {F:List Addr}:TrB K H (n + 1) body b F↔∃ vs Fs,H b=some (.lst vs)∧gO (TrS K H n) body vs Fs∧F=b :: Fs.flatten:=Iff.rfl
mutual
theorem TrB.rep:∀ (n:Nat) (body:List PG.Stm) (b:Addr) (F:List Addr),TrB K H n body b F→Rep K H (.lst (body.map dpS)) (.ref b)
 | 0,_,_,_,h=>h.elim
 | n + 1,body,b,F,h=>by
   obtain ⟨vs,Fs,hb,all,rfl⟩:=CF.mp h
   refine Rep.bU.mpr ⟨b,vs,rfl,.of hb,?_⟩
   have key:∀ {as:List PG.Stm} {bs:List V} {cs:List (List Addr)},gO (TrS K H n) as bs cs→aM K H (as.map dpS) bs:=by
     intro as
     induction as with
     | nil=>intro bs cs h; obtain ⟨rfl,rfl⟩:=gO.cf.mp h; exact .nil
     | cons a as ih=>
       intro bs cs h
       obtain ⟨b',bs',c,cs',rfl,rfl,h1,h2⟩:=gO.aP.mp h
       refine .cons ?_ (ih h2)
       obtain ⟨a',hs,bb,Gs,rfl,q,r,al,rfl⟩:=h1
       rw [Gz]
       refine Rep.a8.mpr ⟨a',_,rfl,q,r.append ?_⟩
       have Jt:∀ {as:List (List PG.Stm)} {bs:List Addr} {cs:List (List Addr)},gO (TrB K H n) as bs cs→aM K H (as.map fun b=>.lst (b.map dpS)) (bs.map V.ref):=by
         intro as
         induction as with
         | nil=>intro bs cs h; obtain ⟨rfl,rfl⟩:=gO.cf.mp h; exact .nil
         | cons x as ih2=>
           intro bs cs h
           obtain ⟨b',bs',c,cs',rfl,rfl,h1,h2⟩:=gO.aP.mp h
           exact .cons (TrB.rep n _ _ _ h1) (ih2 h2)
       exact Jt al
   exact key all
end
end
section
variable (K:PySem.W.Frag)
end
theorem sD {K:PySem.W.Frag} {a D:Addr} {xs:List V} {te:TE} {Q:VK} {r:St} {H:Hp} (Pv:Nat→List V→Hp→Prop) (hS:SqL K H a xs) (hl:xs.length≤16000000) (hD:H D=none) (h0:Pv 0 [] (upd H D (.lst [])))
   (step:∀ i x ys H2,xs[i]?=some x→aC H H2→H2 D=some (.lst ys)→ys.length=i→Pv i ys H2→∀ R:VK,(∀ v H3,aC H2 H3→Pv (i + 1) (ys ++ [v]) (upd H3 D (.lst (ys ++ [v])))→R v H3)→te (some x :: r) H2 R)
   (q:∀ ys H2,aC H H2→H2 D=some (.lst ys)→Pv xs.length ys H2→Q (.ref D) H2):qy (Itl K a) D (eu 0) xf te Q (none :: r) (upd H D (.lst [])):=by
 refine ⟨fun i m τ H2=>m=xs.length - i∧i≤xs.length∧(∃ x,τ=x :: r)∧aC H H2∧∃ ys,H2 D=some (.lst ys)∧ys.length=i∧Pv i ys H2,⟨xs.length,by simp,Nat.zero_le _,⟨none,rfl⟩,aC.new hD _,[],ar,rfl,h0⟩,?_⟩
 rintro i m τ H2 ⟨rfl,hi,⟨x,rfl⟩,s2,ys,h2,ly,p2⟩
 by_cases hlt:i < xs.length
 · refine .inr ⟨⟨xs,xs[i],s2.seq hS,by simp [hlt]⟩,fun τ' H'=>(∃ x,τ'=x :: r)∧aC H H'∧∃ ys,H' D=some (.lst ys)∧ys.length=i + 1∧Pv (i + 1) ys H',fun τ' H' ⟨h1,h3,h4⟩=>⟨xs.length - (i + 1),by lia,rfl,hlt,h1,h3,h4⟩,fun y H' hy=>?_⟩
   obtain ⟨rfl,hy⟩:=hy
   have ey:=hy _ (s2.seq hS)
   simp only [eu,List.set,xf]
   rw [if_pos trivial]
   refine step i y ys _ ey s2 h2 ly p2 _ fun v H3 s3 p3=>⟨ys,s3 _ _ h2,?_,⟨_,rfl⟩,?_,ys ++ [v],ar,by simp [ly],p3⟩
   · have:sizeLine=2 ^ 24:=rfl
     lia
   · intro b o e
     rw [aR (aA e hD)]
     exact s3 _ _ (s2 _ _ e)
 · have e:i=xs.length:=by lia
   subst e
   exact .inl ⟨⟨xs,s2.seq hS,Nat.le_refl _⟩,q ys H2 s2 h2 p2⟩
end L2
namespace L2
open PySem
theorem rJ:∀ l:List Int,PyData.canLayAll0 (Dp.pys (l.map Dp.int))=true∧PyData.depthAll (Dp.pys (l.map Dp.int))=0
 | []=>by simp [Dp.pys,PyData.canLayAll0,PyData.depthAll]
 | i :: r=>by
   obtain ⟨h1,h2⟩:=rJ r
   simp [Dp.pys,Dp.py,PyData.canLayAll0,PyData.depthAll,PyData.canLay0,PyData.depth,h1,h2]
section
variable (K:PySem.W.Frag)
end
theorem CG {K:PySem.W.Frag} {H:Hp} {fl:List PG.dX} {fv:List V} (g2:aM K H (fl.map fG) fv) {i:Nat} {y:V} (hi:fv[i]?=some y) (li:i < fl.length) :
   ∃ a p,y=.ref a∧SqT K H a [.int fl[i].1,.str (wdS fl[i].2.1),.ref p]∧SqT K H p (fl[i].2.2.map V.int):=by
 obtain ⟨v',hv',rv⟩:=g2.get (i:=i) (d:=fG fl[i]) (by rw [List.getElem?_map,List.getElem?_eq_getElem li]; rfl)
 rw [hi] at hv'
 cases hv'
 unfold fG at rv
 rw [Rep.a8] at rv
 obtain ⟨a,xs,rfl,hx,rs⟩:=rv
 rw [aM.aP] at rs
 obtain ⟨v1,t1,rfl,r1,rs⟩:=rs
 rw [aM.aP] at rs
 obtain ⟨v2,t2,rfl,r2,rs⟩:=rs
 rw [aM.aP] at rs
 obtain ⟨v3,t3,rfl,r3,rs⟩:=rs
 rw [aM.cf] at rs
 rw [Rep.bG] at r1
 rw [Rep.bV] at r2
 obtain ⟨p,ys,rfl,hp,ry⟩:=Rep.a8.mp r3
 subst r1 r2 rs
 have key:∀ {l:List Int} {ys:List V},aM K H (l.map Dp.int) ys→ys=l.map V.int:=by
   intro l
   induction l with
   | nil=>intro ys h; rw [List.map_nil,aM.cf] at h; exact h
   | cons i r ih=>
     intro ys h
     rw [List.map_cons,aM.aP] at h
     obtain ⟨v,t,rfl,h1,h2⟩:=h
     rw [Rep.bG] at h1
     rw [h1,ih h2]
     rfl
 rw [key ry] at hp
 exact ⟨a,p,rfl,hx,hp⟩
end L2
namespace L3
open PySem PyProof.Rows
theorem EG:typeLookup (.type "list") "keys"=pure none:=by rw [typeLookup_type,builtinLookup_eq_fast]; kernel_rfl
theorem EH:typeLookup (.type "list") "__getattr__"=pure none:=by rw [typeLookup_type,builtinLookup_eq_fast]; kernel_rfl
section
variable {prog:Program} {w:World} {A:Around} {E:Value→Shared→Prop}
theorem CI (a:Addr) (u:Tok) {hp:Heap} {g:Array GenState} {d:Drawn} {tk:Nat} {os:OsState} {its:Array Value} {n:Nat} {sl:Array (Option Value)} {Q:Fin→Shared→Prop} (hx:hp.get? a=some ⟨.type "list",none,.seq its n,sl⟩) (hA:A.handled=none)
   (h:∀ h' tk' e,Heap.NewAttrErr hp h' e (.ref a) "keys"→E (.ref e) ⟨h',g,d,tk',os⟩) :
   wpAny (model prog w) A (Builtin.«object.__getattribute__» ⟨[.ref a,.str "keys" u],[]⟩) Q E ⟨hp,g,d,tk,os⟩:=by
 have hT:(⟨hp,g,d,tk,os⟩:Shared).TypeIs (.ref a) "list":=⟨_,hx,rfl⟩
 have f4:=EG
 unfold Builtin.«object.__getattribute__»
 repeat (any_goals (first | assumption | wp_step))
 exact wpAny_raiseAttrError hA h (attrMsg_fits (by decide +kernel) (by size_fits))
theorem Be (a:Addr) {s:Shared} {its:Array Value} {n:Nat} {sl:Array (Option Value)} {Q:Option Value→Shared→Prop} (hx:s.heap.get? a=some ⟨.type "list",none,.seq its n,sl⟩) (hA:A.handled=none)
   (h:∀ h' tk,(∀ b ob,s.heap.get? b=some ob→h'.get? b=some ob)→Q none { s with heap:=h',toks:=tk }):wpAny (model prog w) A (getAttr? (.ref a) "keys") Q E s:=by
 obtain ⟨hp,g,d,tk,os⟩:=s
 have hT:∀ tk',(⟨hp,g,d,tk',os⟩:Shared).TypeIs (.ref a) "list":=fun _=>⟨_,hx,rfl⟩
 have f1:=sub_AttributeError
 have f2:=F.slot_list_getattribute.lookup
 have f3:=F.slot_list_getattribute.bind (.ref a)
 have f5:=EH
 unfold getAttr? getAttrBy? getAttrBy
 repeat (any_goals (first | assumption | exact hT _ | wp_step))
 all_goals
   refine codeAny_call_builtin F.slot_list_getattribute.plain F.entry_list_ga (F.slot_list_getattribute.check _ _ _ _ _ _ _ _ (show (⟨hp,g,d,tk + 1,os⟩:Shared).TypeIs (.ref a) "list" from ⟨_,hx,rfl⟩) (F.args_list_getattribute_2 _ _) ?_)
 all_goals
   refine CI a tk hx hA fun h' tk' e ne=>?_
 all_goals
   obtain ⟨t',u',he⟩:=ne.there
   show wpAny _ _ (getattributeRaised _ _ _ _ _ _ _) _ _ _
   unfold getattributeRaised
   repeat (any_goals (first | assumption | wp_step))
 all_goals exact h _ _ ne.keeps
theorem jD:entryFor table "dict.update.loop"=some Builtin.«dict.update.loop»:=entryFor_of_tree (by kernel_rfl)
theorem dO:plainId "dict.update.loop"=true:=by decide +kernel
theorem xq {κ:Type} [DecidableEq κ] (knd:KeyKind prog w κ) (d it l:Addr) (items:Array Value) (res:Value) (hA:A.handled=none) (hne:it≠d) {R:Result→Shared→Prop}:∀ (r:List (Addr × κ × Value × Value)) (i:Nat) (j:Int) (u:Tok) (kvs:List (κ × Value)) (s:Shared),
   items.toList.drop i=r.map (fun q=>Value.ref q.1)→(∀ q∈r,s.heap.IsTuple q.1 #[q.2.2.1,q.2.2.2]∧knd.is q.2.1 q.2.2.1=true)→s.heap.IsListIter it l i→s.heap.IsList l items→s.heap.DictOf knd d kvs→kvs.length + r.length≤sizeLine→
   (∀ h' tk,h'.DictOf knd d (merged kvs (r.map fun q=>(q.2.1,q.2.2.2)))→(∀ b o,b≠d→b≠it→s.heap.get? b=some o→h'.get? b=some o)→R (.ok (.ret res)) { s with heap:=h',toks:=tk })→
   codeAny (model prog w) A (.builtin "dict.update.loop" ⟨[.ref d,.ref it,.int j u,res],[]⟩) R s
 | [],i,j,u,kvs,s,hi,hp,hit,hl,hd,hz,hR=>by
   refine codeAny_builtin jD ?_
   rw [Around.under_plainId dO _]
   show wpAny _ A.in1 (pyNext (.ref it) >>= _) _ _ s
   refine wpAny_bind (wpAny_pyNext_list_end hA hit hl (by rw [← Array.getElem?_toList]; rw [List.map_nil] at hi; exact List.getElem?_eq_none (List.drop_eq_nil_iff.mp hi)) fun h' ext=>?_)
   show wpAny _ _ (Builtin.Dict.addKeywords d [] >>= _) _ _ _
   refine wpAny_bind (wpAny_pure (wpAny_pure (hR h' s.toks ?_ fun b o _ h2 e=>?_)))
   · obtain ⟨o,es,ep,ho,rest⟩:=hd
     exact ⟨o,es,ep,ext d o hne.symm ho,rest⟩
   · exact ext b o h2 e
 | q :: r,i,j,u,kvs,s,hi,hp,hit,hl,hd,hz,hR=>by
   have hx:items[i]?=some (Value.ref q.1):=by
     rw [← Array.getElem?_toList,← List.head?_drop,hi]
     rfl
   refine codeAny_builtin jD ?_
   rw [Around.under_plainId dO _]
   show wpAny _ A.in1 (pyNext (.ref it) >>= _) _ _ s
   refine wpAny_bind (wpAny_pyNext_list_item hit hl hx fun h' Gr sb=>?_)
   obtain ⟨⟨oq,hoq,hcq,nq,hdq⟩,kq⟩:=hp q (List.mem_cons_self ..)
   have niq:q.1≠it:=fun z=>by
     obtain ⟨oi,hoi,hci,_⟩:=hit
     rw [z,hoi] at hoq
     cases hoq
     rw [hci] at hcq
     exact absurd (Value.type.inj hcq) (by decide)
   have HZ:h'.get? q.1=some oq:=(sb.2 _ niq).trans hoq
   have hd':h'.DictOf knd d kvs:=by
     obtain ⟨o,es,ep,ho,rest⟩:=hd
     exact ⟨o,es,ep,(sb.2 d hne.symm).trans ho,rest⟩
   show wpAny _ A.in1 (holding [Value.ref q.1] _ >>= _) _ _ _
   refine wpAny_bind (wpAny_holding (wpAny_bind (wpAny_tryCatch ?_)))
   unfold Builtin.Dict.pairItems
   refine wpAny_bind (wpAny_typeOf (T:="tuple") ⟨oq,HZ,hcq⟩ ?_)
   rw [if_pos (by decide)]
   refine wpAny_bind (wpAny_seqItems (s:={ s with heap:=h' }) HZ hdq (wpAny_pure ?_))
   show wpAny _ A.in1 (holding [q.2.2.1,q.2.2.2] (dictSet d q.2.2.1 q.2.2.2)) _ _ _
   refine wpAny_holding (wpAny_dictSet_pairs (s:={ s with heap:=h' }) kq hd' (fun h2 hd2 sb2=>?_) (by simp only [List.length_cons] at hz; lia))
   refine wpAny_pure ⟨plainId_quiet dO _,?_⟩
   refine xq knd d it l items res hA hne r (i + 1) (j + 1) _ _ _ ?_ (fun p hpr=>?_) ?_ ?_ hd2 ?_ fun h3 tk hd3 keep=>hR h3 tk hd3 fun b o n1 n2 e=>keep b o n1 n2 ?_
   · rw [← List.drop_drop,hi]
     rfl
   · obtain ⟨⟨op,hop,hcp,np,hdp⟩,kp⟩:=hp p (List.mem_cons_of_mem _ hpr)
     refine ⟨⟨op,?_,hcp,np,hdp⟩,kp⟩
     have n1:p.1≠it:=fun z=>by
       obtain ⟨oi,hoi,hci,_⟩:=hit
       rw [z,hoi] at hop
       cases hop
       rw [hci] at hcp
       exact absurd (Value.type.inj hcp) (by decide)
     have n2:p.1≠d:=fun z=>by
       obtain ⟨od,_,_,hod,_,hdd,_⟩:=hd
       rw [z,hod] at hop
       cases hop
       rw [hdd] at hdp
       cases hdp
     exact (sb2.2 _ n2).trans ((sb.2 _ n1).trans hop)
   · obtain ⟨oi,hoi,rest⟩:=Gr
     exact ⟨oi,(sb2.2 _ hne).trans hoi,rest⟩
   · obtain ⟨ol,hol,hcl,nl,hdl⟩:=hl
     have n1:l≠it:=fun z=>by
       obtain ⟨oi,hoi,hci,_⟩:=hit
       rw [z,hoi] at hol
       cases hol
       rw [hci] at hcl
       exact absurd (Value.type.inj hcl) (by decide)
     have n2:l≠d:=fun z=>by
       obtain ⟨od,_,_,hod,_,hdd,_⟩:=hd
       rw [z,hod] at hol
       cases hol
       rw [hdd] at hdl
       cases hdl
     exact ⟨ol,(sb2.2 _ n2).trans ((sb.2 _ n1).trans hol),hcl,nl,hdl⟩
   · have:=stored_length_le kvs q.2.1 q.2.2.2
     simp only [List.length_cons] at hz
     lia
   · exact (sb2.2 _ n1).trans ((sb.2 _ n2).trans e)
theorem dict_list {κ:Type} [DecidableEq κ] (knd:KeyKind prog w κ) (l:Addr) {s:Shared} {items:Array Value} {n:Nat} {sl:Array (Option Value)} {Q:Value→Shared→Prop} (hA:A.handled=none) (r:List (Addr × κ × Value × Value)) (hx:s.heap.get? l=some ⟨.type "list",none,.seq items n,sl⟩)
   (hi:items.toList=r.map (fun q=>Value.ref q.1)) (hp:∀ q∈r,s.heap.IsTuple q.1 #[q.2.2.1,q.2.2.2]∧knd.is q.2.1 q.2.2.1=true) (hz:r.length≤sizeLine)
   (h:∀ h' tk,h'.DictOf knd s.heap.objs.size (merged [] (r.map fun q=>(q.2.1,q.2.2.2)))→(∀ b o,s.heap.get? b=some o→h'.get? b=some o)→Q (.ref s.heap.objs.size) { s with heap:=h',toks:=tk }) :
   wpAny (model prog w) A (call (.type "dict") [.ref l]) Q E s:=by
 refine callType_codes (Q₁:=fun obj s₁=>obj=.ref s.heap.objs.size∧s₁={ s with heap:=s.heap.push { cls:=.type "dict",data:=.dict #[] } }) F.kt_called_dict (F.kt_typeCall_dict_1 _) F.entry_dict_init (kt_code_dict_new _ ⟨rfl,rfl⟩) ?_
 rintro obj s₁ ⟨rfl,rfl⟩
 have vD:(s.heap.push { cls:=.type "dict",data:=.dict #[] }).DictOf knd s.heap.objs.size []:=Heap.DictOf.new s.heap
 have mH:∀ b o,s.heap.get? b=some o→(s.heap.push { cls:=.type "dict",data:=.dict #[] }).get? b=some o:=fun b o e=>Heap.get?_push_of_some _ e
 refine ⟨vD.typeIs,F.args_dict_init_2 _ _,?_⟩
 unfold Builtin.«dict.__init__»
 refine wpAny_bind ?_
 unfold Builtin.Dict.selfAndRest
 refine wpAny_bind (wpAny_notOrdered_dict vD.typeIs ?_)
 show wpAny _ _ (pure (s.heap.objs.size,[Value.ref l])) _ _ _
 refine wpAny_pure ?_
 show wpAny _ _ (Builtin.Dict.updateFrom "dict.__init__" s.heap.objs.size (.ref l) [] .none) _ _ _
 unfold Builtin.Dict.updateFrom
 refine wpAny_bind (wpAny_typeOf (T:="list") ⟨_,mH _ _ hx,rfl⟩ ?_)
 rw [if_pos (by decide)]
 refine wpAny_bind (Be (n:=n) (sl:=sl) l (mH _ _ hx) hA fun h2 tk2 mI=>?_)
 rw [if_pos (show (none:Option Value).isNone=true from rfl)]
 refine wpAny_bind (wpAny_rule ?_)
 have hl2:h2.IsList l items:=⟨_,mI _ _ (mH _ _ hx),rfl,n,rfl⟩
 have hd2:h2.DictOf knd s.heap.objs.size []:=by
   obtain ⟨o,es,ep,ho,rest⟩:=vD
   exact ⟨o,es,ep,mI _ _ ho,rest⟩
 refine wpAny_bind (wpAny_pyIter_list (s:={ s with heap:=h2,toks:=tk2 }) hl2 ?_)
 have Am:∀ b o,h2.get? b=some o→(h2.push { cls:=.type "list_iterator",data:=.fields #[.ref l,.int 0 0] }).get? b=some o:=fun b o e=>Heap.get?_push_of_some _ e
 have nd:h2.objs.size≠s.heap.objs.size:=by
   obtain ⟨o,es,ep,ho,_⟩:=hd2
   exact fun e=>absurd (Heap.lt_size ho) (by rw [e]; exact Nat.lt_irrefl _)
 refine wpAny_pure ⟨plainId_quiet dO _,?_⟩
 refine xq (A:=A.in1) knd s.heap.objs.size h2.objs.size l items .none hA nd r 0 0 _ [] _ (by simpa using hi) (fun q hq=>?_) ⟨_,Heap.get?_push_size _ rfl,rfl,rfl⟩ ?_ ?_ (by simpa using hz) fun h4 tk4 hd4 CJ=>?_
 · obtain ⟨⟨o,ho,rest⟩,kq⟩:=hp q hq
   exact ⟨⟨o,Am _ _ (mI _ _ (mH _ _ ho)),rest⟩,kq⟩
 · obtain ⟨o,ho,rest⟩:=hl2
   exact ⟨o,Am _ _ ho,rest⟩
 · obtain ⟨o,es,ep,ho,rest⟩:=hd2
   exact ⟨o,es,ep,Am _ _ ho,rest⟩
 · refine ⟨rfl,h h4 tk4 hd4 fun b o e=>CJ b o (fun z=>?_) (fun z=>?_) (Am _ _ (mI _ _ (mH _ _ e)))⟩
   · rw [z] at e
     exact absurd (Heap.lt_size e) (Nat.lt_irrefl _)
   · have:=Heap.lt_size (mI _ _ (mH _ _ e))
     rw [z] at this
     exact absurd this (Nat.lt_irrefl _)
end
end L3
namespace L2
open PySem PyProof.Rows
theorem nE {X:Cx} (hc:X.calm=true):uN X (.type "dict") (fun xs H Q=>∃ (a:Addr) (ps:List (Addr × Key × V)),xs=[.ref a]∧SqL X.K H a (ps.map fun q=>V.ref q.1)∧(∀ q∈ps,SqT X.K H q.1 [kV q.2.1,q.2.2])∧ps.length≤sizeLine∧
   ∀ p,H p=none→Q (.ref p) (upd H p (.dK (jy [] (ps.map fun q=>(q.2.1,q.2.2)))))):=by
 intro pins s σ H xs us Q I r h
 obtain ⟨a,ps,rfl,ha,hp,hz,q⟩:=h
 obtain ⟨u,rfl,ru⟩:=vals1 r
 cases (show u=Value.ref a from ru)
 obtain ⟨its,v1,t1,_⟩:=I.list ha
 obtain ⟨⟨cls,dct,dat,sl⟩,n,e1,hc1,hd1,hs1⟩:=t1
 simp only at hc1 hd1 hs1
 subst hc1 hd1 hs1
 have mk:∀ (l:List (Addr × Key × V)) (us:List Value),Vals (l.map fun q=>V.ref q.1) us→(∀ q∈l,SqT X.K H q.1 [kV q.2.1,q.2.2])→∃ r:List (Addr × Key × Value × Value),us=r.map (fun q=>Value.ref q.1)∧r.length=l.length∧
     (∀ q∈r,s.heap.IsTuple q.1 #[q.2.2.1,q.2.2.2]∧(cP X.prog X.w).is q.2.1 q.2.2.1=true)∧KV (l.map fun q=>(q.2.1,q.2.2)) (r.map fun q=>(q.2.1,q.2.2.2)):=by
   intro l
   induction l with
   | nil=>intro us v _; cases v; exact ⟨[],rfl,rfl,fun _ z=>(by cases z),.nil⟩
   | cons x l ih=>
     intro us v hp
     rw [List.map_cons] at v
     cases v with
     | cons v1 v2=>
       obtain ⟨r,e,lr,hr,kv⟩:=ih _ v2 (fun q hq=>hp q (List.mem_cons_of_mem _ hq))
       obtain ⟨rX,w1,tu,_⟩:=I.tuple (hp x (List.mem_cons_self ..))
       obtain ⟨ku,vu,rfl,rk,rv⟩:=vals2 w1
       cases v1
       obtain ⟨o,ho,hco,no,hdo⟩:=tu
       refine ⟨(x.1,x.2.1,ku,vu) :: r,by rw [e]; rfl,by simp [lr],fun q hq=>?_,.cons ⟨rfl,rv⟩ kv⟩
       rcases List.mem_cons.mp hq with rfl | hq
       · exact ⟨⟨o,ho,hco,no,hdo⟩,xb rk⟩
       · exact hr q hq
 obtain ⟨r',er,lr,hr,kv⟩:=mk ps its v1 hp
 refine L3.dict_list (cP X.prog X.w) a (I.ok.hd hc) r' e1 (by simpa using er) hr (by lia) fun h' tk dd keep=>?_
 have hn:=I.hok.fresh (Nat.le_refl s.heap.objs.size)
 have hb:(s.heap.objs.size == sysModules)=false:=beq_eq_false_iff_ne.mpr (Ne.symm (Nat.ne_of_lt I.big))
 refine ⟨.ref s.heap.objs.size,_,I.laid keep (Nat.le_refl _) (yw ?_ hb (kv.merge .nil) dd),rfl,q _ hn⟩
 have h1:=iY (ps.map fun q=>(q.2.1,q.2.2)) []
 rw [List.length_nil,List.length_map] at h1
 lia
end L2
namespace L3
open PySem PyProof.Rows
section
variable {prog:Program} {w:World} {A:Around} {E:Value→Shared→Prop} {s:Shared}
theorem sE {j tp:Addr} {k:Nat} {its:Array Value} {v:Value} {Q:Value→Shared→Prop} (hj:s.heap.IsTupleIter j tp k) (ht:s.heap.IsTuple tp its) (hv:its[k]?=some v)
   (hQ:∀ h',h'.IsTupleIter j tp (k + 1)→Heap.SameBut j s.heap h'→Q v { s with heap:=h' }):wpAny (model prog w) A (Builtin.SmallTypes.nextOf (.ref j)) Q E s:=by
 obtain ⟨oj,gj,cj,dj⟩:=id hj
 obtain ⟨ot,gt,_,nt,dt⟩:=ht
 unfold Builtin.SmallTypes.nextOf
 refine wpAny_bind (wpAny_callSpecial?_slot (name:=Str.ofString "__next__") hj.typeIs F.slot_tuple_iterator_next (wpAny_call_entry F.slot_tuple_iterator_next hj.typeIs F.entry_tuple_iterator_next ?_ (F.args_tuple_iterator_next_1 _)))
 show wpAny _ _ (field (.ref j) 0 >>= _) _ _ s
 refine wpAny_bind (wpAny_field gj dj (x:=.ref tp) rfl ?_)
 show wpAny _ _ (if (Value.ref tp == Value.none)=true then _ else _) _ _ s
 rw [if_neg (show ¬ ((Value.ref tp == Value.none)=true) from Bool.false_ne_true)]
 show wpAny _ _ (field (.ref j) 1 >>= _) _ _ s
 refine wpAny_bind (wpAny_field gj dj (x:=.int k 0) rfl ?_)
 show wpAny _ _ (seqItems? (.ref tp) >>= _) _ _ s
 refine wpAny_bind (wpAny_seqItems gt dt ?_)
 simp only [Int.toNat_natCast,hv]
 refine wpAny_bind (wpAny_setField gj dj (by simp) (wpAny_pure ⟨v,rfl,wpAny_pure (hQ _ ?_ (Heap.SameBut.update ..))⟩))
 exact ⟨_,Heap.get?_update_self _ gj (Obj.isFreed_of_fields (Obj.data_mapFields dj _)),(Obj.cls_mapFields ..).trans cj,by rw [Obj.data_mapFields dj]; simp [rawInt]⟩
noncomputable abbrev ZAt (h:Heap) (z ti to:Addr) (f g:Value):Prop:=h.get? z=some { cls:=.type "zip",dict:=none,data:=.fields #[f,g,.bool false,.ref ti,.ref to],slots:=#[] }
theorem xr {z ti to T:Addr} {u:Tok} {o:Obj} {g:Bool} {R:Bool→Shared→Prop} (hz:ZAt s.heap z ti to (.int T u) (.bool g)) (hT:s.heap.get? T=some o)
   (h:∀ h₀,ZAt h₀ z ti to (.int T u) (.bool true)→Heap.SameBut z s.heap h₀→R false { s with heap:=h₀ }):wpAny (model prog w) A (Builtin.SmallTypes.ownedTupleIsFree (.ref z)) R E s:=by
 unfold Builtin.SmallTypes.ownedTupleIsFree
 refine wpAny_bind (wpAny_field hz rfl (x:=.int T u) rfl ?_)
 show wpAny _ _ (loadIfAlive (T:Int).toNat >>= _) _ _ _
 refine wpAny_bind ?_
 have alive:∀ {R:Option Obj→Shared→Prop},R (some o) s→wpAny (model prog w) A (loadIfAlive (T:Int).toNat) R E s:=fun h=>by
   rw [Int.toNat_natCast]
   intro Γ p hp
   unfold loadIfAlive
   rw [Sem.wp_loadIfAlive,hT]
   exact h
 refine alive ?_
 rw [if_neg (by simp)]
 refine wpAny_bind (wpAny_field hz rfl (x:=.bool g) rfl ?_)
 cases g with
 | false=>
   rw [if_pos (by decide)]
   exact wpAny_bind (wpAny_setField_rec hz (by simp) fun h₀ hz₀ sb=>wpAny_pure (h h₀ hz₀ sb))
 | true=>
   rw [if_neg (by decide)]
   exact wpAny_pure (h s.heap hz (Heap.SameBut.refl _ _))
theorem yH {z ti to j1 j2 l tp T:Addr} {xs ys:Array Value} {i:Nat} {u:Tok} {o:Obj} {g:Bool} {x y:Value} {Q:Value→Shared→Prop} (hz:ZAt s.heap z ti to (.int T u) (.bool g)) (hT:s.heap.get? T=some o) (hI:IsPair s.heap ti (.ref j1) (.ref j2))
   (h1:s.heap.IsListIter j1 l i) (h2:s.heap.IsTupleIter j2 tp i) (hl:s.heap.IsList l xs) (ht:s.heap.IsTuple tp ys) (zj1:z≠j1) (zj2:z≠j2) (j12:j1≠j2) (hx:xs[i]?=some x) (hy:ys[i]?=some y)
   (hQ:∀ h',ZAt h' z ti to (.int T u) (.bool true)→h'.IsListIter j1 l (i + 1)→h'.IsTupleIter j2 tp (i + 1)→IsPair h' s.heap.objs.size x y→h'.objs.size=s.heap.objs.size + 1→
     (∀ c o,c≠z→c≠j1→c≠j2→s.heap.get? c=some o→h'.get? c=some o)→Q (.ref s.heap.objs.size) { s with heap:=h' }) :
   wpAny (model prog w) A (Builtin.«zip.__next__» ⟨[.ref z],[]⟩) (fun fin s'=>∃ v,fin=.done (.ret v)∧Q v s') E s:=by
 have lz:l≠z:=fun e=>by
   obtain ⟨q,gq,cq,_⟩:=hl
   rw [e,hz] at gq
   cases gq
   exact absurd (Value.type.inj cq) (by decide)
 have lj1:l≠j1:=fun e=>by
   obtain ⟨q,gq,cq,_⟩:=hl
   obtain ⟨r,gr,cr,_⟩:=h1
   rw [e,gr] at gq
   cases gq
   rw [cr] at cq
   exact absurd (Value.type.inj cq) (by decide)
 have tz:tp≠z:=fun e=>by
   obtain ⟨q,gq,cq,_⟩:=ht
   rw [e,hz] at gq
   cases gq
   exact absurd (Value.type.inj cq) (by decide)
 have tj1:tp≠j1:=fun e=>by
   obtain ⟨q,gq,cq,_⟩:=ht
   obtain ⟨r,gr,cr,_⟩:=h1
   rw [e,gr] at gq
   cases gq
   rw [cr] at cq
   exact absurd (Value.type.inj cq) (by decide)
 show wpAny _ _ (field (.ref z) 2 >>= _) _ _ _
 refine wpAny_bind (wpAny_field hz rfl (x:=.bool false) rfl ?_)
 show wpAny _ _ (field (.ref z) 3 >>= _) _ _ _
 refine wpAny_bind (wpAny_field hz rfl (x:=.ref ti) rfl ?_)
 refine wpAny_bind (wpAny_seqItems hI rfl ?_)
 show wpAny _ _ (Builtin.SmallTypes.ownedTupleIsFree (.ref z) >>= _) _ _ _
 refine wpAny_bind (xr hz hT fun h₀ hz₀ sb₀=>?_)
 dsimp only
 rw [if_neg Bool.false_ne_true]
 refine wpAny_bind ?_
 simp only [List.forIn_toArray,List.forIn_cons,List.forIn_nil]
 refine wpAny_bind (wpAny_bind (wpAny_holding ?_))
 show wpAny _ _ (Builtin.SmallTypes.nextOf (.ref j1) >>= _) _ _ _
 refine wpAny_bind (wpAny_nextOf_list_item (s:={ s with heap:=h₀ }) (h1.extBut sb₀.extBut zj1.symm) (hl.extBut sb₀.extBut lz) hx fun h₂ hj₂ sb₂=>wpAny_pure ?_)
 refine wpAny_pure ?_
 refine wpAny_bind (wpAny_bind (wpAny_holding ?_))
 show wpAny _ _ (Builtin.SmallTypes.nextOf (.ref j2) >>= _) _ _ _
 have h2':h₂.IsTupleIter j2 tp i:=by
   obtain ⟨q,gq,rest⟩:=h2
   exact ⟨q,sb₂.extBut _ _ j12.symm (sb₀.extBut _ _ zj2.symm gq),rest⟩
 have ht':h₂.IsTuple tp ys:=(ht.extBut sb₀.extBut tz).extBut sb₂.extBut tj1
 refine wpAny_bind (sE (s:={ s with heap:=h₂ }) h2' ht' hy fun h₃ hj₃ sb₃=>wpAny_pure ?_)
 refine wpAny_pure (wpAny_pure ?_)
 show wpAny _ _ (newTuple [x,y] >>= _) _ _ _
 have hsz:h₃.objs.size=s.heap.objs.size:=by rw [sb₃.1,sb₂.1,sb₀.1]
 refine wpAny_bind (wpAny_newTuple (s:={ s with heap:=h₃ }) ?_)
 refine wpAny_pure ⟨_,rfl,?_⟩
 show Q (.ref h₃.objs.size) _
 have hp:IsPair (h₃.push { cls:=.type "tuple",data:=.seq #[x,y] }) h₃.objs.size x y:=Heap.get?_push_size _ rfl
 have hs1:(h₃.push { cls:=.type "tuple",data:=.seq #[x,y] }).objs.size=h₃.objs.size + 1:=Heap.size_push ..
 rw [hsz] at hp hs1 ⊢
 have up:∀ c o,h₃.get? c=some o→(h₃.push { cls:=.type "tuple",data:=.seq #[x,y] }).get? c=some o:=fun c o e=>Heap.get?_push_of_some _ e
 refine hQ _ (up _ _ (sb₃.extBut _ _ zj2 (sb₂.extBut _ _ zj1 hz₀))) ?_ ?_ hp hs1 fun c o c1 c2 c3 e=>up _ _ (sb₃.extBut _ _ c3 (sb₂.extBut _ _ c2 (sb₀.extBut _ _ c1 e)))
 · obtain ⟨q,gq,rest⟩:=hj₂
   exact ⟨q,up _ _ (sb₃.extBut _ _ j12 gq),rest⟩
 · obtain ⟨q,gq,rest⟩:=hj₃
   exact ⟨q,up _ _ gq,rest⟩
theorem Bf {z ti to j1 j2 l T:Addr} {xs:Array Value} {i:Nat} {u:Tok} {o:Obj} {g:Bool} {Q:Fin→Shared→Prop} (hA:A.handled=none) (hz:ZAt s.heap z ti to (.int T u) (.bool g)) (hT:s.heap.get? T=some o) (hI:IsPair s.heap ti (.ref j1) (.ref j2))
   (h1:s.heap.IsListIter j1 l i) (hl:s.heap.IsList l xs) (zj1:z≠j1) (hx:xs[i]?=none)
   (hE:∀ h' e,(∀ c o,c≠z→c≠j1→s.heap.get? c=some o→h'.get? c=some o)→(∃ o,h'.get? e=some o∧o.cls=.type "StopIteration")→E (.ref e) { s with heap:=h' }) :
   wpAny (model prog w) A (Builtin.«zip.__next__» ⟨[.ref z],[]⟩) Q E s:=by
 have lz:l≠z:=fun e=>by
   obtain ⟨q,gq,cq,_⟩:=hl
   rw [e,hz] at gq
   cases gq
   exact absurd (Value.type.inj cq) (by decide)
 show wpAny _ _ (field (.ref z) 2 >>= _) _ _ _
 refine wpAny_bind (wpAny_field hz rfl (x:=.bool false) rfl ?_)
 show wpAny _ _ (field (.ref z) 3 >>= _) _ _ _
 refine wpAny_bind (wpAny_field hz rfl (x:=.ref ti) rfl ?_)
 refine wpAny_bind (wpAny_seqItems hI rfl ?_)
 show wpAny _ _ (Builtin.SmallTypes.ownedTupleIsFree (.ref z) >>= _) _ _ _
 refine wpAny_bind (xr hz hT fun h₀ hz₀ sb₀=>?_)
 dsimp only
 rw [if_neg Bool.false_ne_true]
 refine wpAny_bind ?_
 simp only [List.forIn_toArray,List.forIn_cons,List.forIn_nil]
 refine wpAny_bind (wpAny_bind (wpAny_holding ?_))
 show wpAny _ _ (Builtin.SmallTypes.nextOf (.ref j1) >>= _) _ _ _
 exact wpAny_bind (wpAny_nextOf_list_end (s:={ s with heap:=h₀ }) hA (h1.extBut sb₀.extBut zj1.symm) (hl.extBut sb₀.extBut lz) hx fun h₂ e sb₂ he=>hE h₂ e (fun c o c1 c2 q=>sb₂ _ _ c2 (sb₀.extBut _ _ c1 q)) he)
theorem yI {z ti to j1 j2 l tp:Addr} {xs ys:Array Value} {i:Nat} {a b x y:Value} {Q:Value→Shared→Prop} (hz:ZAt s.heap z ti to .none (.bool false)) (hO:IsPair s.heap to a b) (hI:IsPair s.heap ti (.ref j1) (.ref j2))
   (h1:s.heap.IsListIter j1 l i) (h2:s.heap.IsTupleIter j2 tp i) (hl:s.heap.IsList l xs) (ht:s.heap.IsTuple tp ys) (zj1:z≠j1) (zj2:z≠j2) (zto:z≠to) (CK:to≠j1) (CM:to≠j2) (j12:j1≠j2) (EI:tp≠to) (hx:xs[i]?=some x) (hy:ys[i]?=some y)
   (hQ:∀ h',ZAt h' z ti to (rawInt s.heap.objs.size) (.bool false)→h'.IsListIter j1 l (i + 1)→h'.IsTupleIter j2 tp (i + 1)→IsPair h' s.heap.objs.size x y→h'.objs.size=s.heap.objs.size + 1→
     (∀ c o,c≠z→c≠to→c≠j1→c≠j2→s.heap.get? c=some o→h'.get? c=some o)→Q (.ref s.heap.objs.size) { s with heap:=h' }) :
   wpAny (model prog w) A (Builtin.«zip.__next__» ⟨[.ref z],[]⟩) (fun fin s'=>∃ v,fin=.done (.ret v)∧Q v s') E s:=by
 have lz:l≠z:=fun e=>by
   obtain ⟨q,gq,cq,_⟩:=hl
   rw [e,hz] at gq
   cases gq
   exact absurd (Value.type.inj cq) (by decide)
 have tz:tp≠z:=fun e=>by
   obtain ⟨q,gq,cq,_⟩:=ht
   rw [e,hz] at gq
   cases gq
   exact absurd (Value.type.inj cq) (by decide)
 have tj1:tp≠j1:=fun e=>by
   obtain ⟨q,gq,cq,_⟩:=ht
   obtain ⟨r,gr,cr,_⟩:=h1
   rw [e,gr] at gq
   cases gq
   rw [cr] at cq
   exact absurd (Value.type.inj cq) (by decide)
 show wpAny _ _ (field (.ref z) 2 >>= _) _ _ _
 refine wpAny_bind (wpAny_field hz rfl (x:=.bool false) rfl ?_)
 show wpAny _ _ (field (.ref z) 3 >>= _) _ _ _
 refine wpAny_bind (wpAny_field hz rfl (x:=.ref ti) rfl ?_)
 refine wpAny_bind (wpAny_seqItems hI rfl ?_)
 show wpAny _ _ (Builtin.SmallTypes.ownedTupleIsFree (.ref z) >>= _) _ _ _
 refine wpAny_bind ?_
 unfold Builtin.SmallTypes.ownedTupleIsFree
 refine wpAny_bind (wpAny_field hz rfl (x:=.none) rfl (wpAny_pure ?_))
 simp only [if_true]
 refine wpAny_bind (wpAny_rule ?_)
 refine wpAny_bind (wpAny_field hz rfl (x:=.ref to) rfl ?_)
 refine wpAny_bind (wpAny_setField_rec hz (by simp) fun h₁ z₁ sb₁=>?_)
 replace z₁:ZAt h₁ z ti to .ellipsis (.bool false):=z₁
 refine wpAny_bind ?_
 simp only [List.zipIdx_cons,List.zipIdx_nil,List.forIn_cons,List.forIn_nil]
 refine wpAny_bind (wpAny_bind (wpAny_onRaise ?_))
 show wpAny _ _ (Builtin.SmallTypes.nextOf (.ref j1) >>= _) _ _ _
 refine wpAny_bind (wpAny_nextOf_list_item (h1.extBut sb₁.extBut zj1.symm) (hl.extBut sb₁.extBut lz) hx fun h₂ k₂ sb₂=>wpAny_pure ?_)
 have o₂:IsPair h₂ to a b:=sb₂.extBut _ _ CK (sb₁.extBut _ _ zto.symm hO)
 refine wpAny_bind (wpAny_seqItems o₂ rfl ?_)
 refine wpAny_bind (wpAny_updateSeq_pair o₂ fun h₃ o₃ sb₃=>?_)
 replace o₃:IsPair h₃ to x b:=o₃
 refine wpAny_bind (wpAny_letGo (wpAny_pure ?_))
 refine wpAny_bind (wpAny_bind (wpAny_onRaise ?_))
 show wpAny _ _ (Builtin.SmallTypes.nextOf (.ref j2) >>= _) _ _ _
 have h2':h₃.IsTupleIter j2 tp i:=by
   obtain ⟨q,gq,rest⟩:=h2
   exact ⟨q,sb₃.extBut _ _ CM.symm (sb₂.extBut _ _ j12.symm (sb₁.extBut _ _ zj2.symm gq)),rest⟩
 have ht':h₃.IsTuple tp ys:=((ht.extBut sb₁.extBut tz).extBut sb₂.extBut tj1).extBut sb₃.extBut EI
 refine wpAny_bind (sE h2' ht' hy fun h₄ k₄ sb₄=>wpAny_pure ?_)
 have o₄:IsPair h₄ to x b:=sb₄.extBut _ _ CM o₃
 refine wpAny_bind (wpAny_seqItems o₄ rfl ?_)
 refine wpAny_bind (wpAny_updateSeq_pair o₄ fun h₅ o₅ sb₅=>?_)
 replace o₅:IsPair h₅ to x y:=o₅
 refine wpAny_bind (wpAny_letGo (wpAny_pure (wpAny_pure ?_)))
 refine wpAny_bind (wpAny_seqItems o₅ rfl ?_)
 refine wpAny_bind (wpAny_newTuple ?_)
 have hsz:h₅.objs.size=s.heap.objs.size:=by rw [sb₅.1,sb₄.1,sb₃.1,sb₂.1,sb₁.1]
 have z₅:ZAt h₅ z ti to .ellipsis (.bool false):=sb₅.extBut _ _ zto (sb₄.extBut _ _ zj2 (sb₃.extBut _ _ zto (sb₂.extBut _ _ zj1 z₁)))
 have kp:∀ c o,c≠z→c≠to→c≠j1→c≠j2→s.heap.get? c=some o→h₅.get? c=some o:=fun c o c1 c2 c3 c4 e=>sb₅.extBut _ _ c2 (sb₄.extBut _ _ c4 (sb₃.extBut _ _ c2 (sb₂.extBut _ _ c3 (sb₁.extBut _ _ c1 e))))
 have zlt:z < h₅.objs.size:=Heap.lt_size z₅
 show wpAny _ _ (Builtin.SmallTypes.ownedTupleHandOut (.ref z) (.ref h₅.objs.size) >>= _) _ _ _
 refine wpAny_bind ?_
 unfold Builtin.SmallTypes.ownedTupleHandOut
 have z₆:ZAt (h₅.push { cls:=.type "tuple",data:=.seq #[x,y] }) z ti to .ellipsis (.bool false):=Heap.get?_push_of_some _ z₅
 refine wpAny_bind (wpAny_setField_rec z₆ (by simp) fun h₇ z₇ sb₇=>?_)
 replace z₇:ZAt h₇ z ti to (rawInt h₅.objs.size) (.bool false):=z₇
 refine wpAny_setField_rec z₇ (by simp) fun h₈ z₈ sb₈=>?_
 replace z₈:ZAt h₈ z ti to (rawInt h₅.objs.size) (.bool false):=z₈
 have up:∀ c o,c≠z→h₅.get? c=some o→h₈.get? c=some o:=fun c o c1 e=>sb₈.extBut _ _ c1 (sb₇.extBut _ _ c1 (Heap.get?_push_of_some _ e))
 have t₈:IsPair h₈ h₅.objs.size x y:=sb₈.extBut _ _ (Nat.ne_of_gt zlt) (sb₇.extBut _ _ (Nat.ne_of_gt zlt) (Heap.get?_push_size _ rfl))
 have n₈:h₈.objs.size=h₅.objs.size + 1:=by rw [sb₈.1,sb₇.1,Heap.size_push]
 rw [hsz] at z₈ t₈ n₈
 refine wpAny_pure ⟨_,rfl,?_⟩
 show Q (.ref h₅.objs.size) _
 rw [hsz]
 refine hQ h₈ z₈ ?_ ?_ t₈ n₈ fun c o c1 c2 c3 c4 e=>up c o c1 (kp c o c1 c2 c3 c4 e)
 · obtain ⟨q,gq,rest⟩:=k₂
   exact ⟨q,up _ _ zj1.symm (sb₅.extBut _ _ CK.symm (sb₄.extBut _ _ j12 (sb₃.extBut _ _ CK.symm gq))),rest⟩
 · obtain ⟨q,gq,rest⟩:=k₄
   exact ⟨q,up _ _ zj2.symm (sb₅.extBut _ _ CM.symm gq),rest⟩
theorem Bg {z ti to j1 j2 l:Addr} {xs:Array Value} {i:Nat} {Q:Fin→Shared→Prop} (hA:A.handled=none) (hz:ZAt s.heap z ti to .none (.bool false)) (hI:IsPair s.heap ti (.ref j1) (.ref j2))
   (h1:s.heap.IsListIter j1 l i) (hl:s.heap.IsList l xs) (zj1:z≠j1) (hx:xs[i]?=none)
   (hE:∀ h' e,(∀ c o,c≠z→c≠j1→s.heap.get? c=some o→h'.get? c=some o)→(∃ o,h'.get? e=some o∧o.cls=.type "StopIteration")→E (.ref e) { s with heap:=h' }) :
   wpAny (model prog w) A (Builtin.«zip.__next__» ⟨[.ref z],[]⟩) Q E s:=by
 have lz:l≠z:=fun e=>by
   obtain ⟨q,gq,cq,_⟩:=hl
   rw [e,hz] at gq
   cases gq
   exact absurd (Value.type.inj cq) (by decide)
 show wpAny _ _ (field (.ref z) 2 >>= _) _ _ _
 refine wpAny_bind (wpAny_field hz rfl (x:=.bool false) rfl ?_)
 show wpAny _ _ (field (.ref z) 3 >>= _) _ _ _
 refine wpAny_bind (wpAny_field hz rfl (x:=.ref ti) rfl ?_)
 refine wpAny_bind (wpAny_seqItems hI rfl ?_)
 show wpAny _ _ (Builtin.SmallTypes.ownedTupleIsFree (.ref z) >>= _) _ _ _
 refine wpAny_bind ?_
 unfold Builtin.SmallTypes.ownedTupleIsFree
 refine wpAny_bind (wpAny_field hz rfl (x:=.none) rfl (wpAny_pure ?_))
 simp only [if_true]
 refine wpAny_bind (wpAny_rule ?_)
 refine wpAny_bind (wpAny_field hz rfl (x:=.ref to) rfl ?_)
 refine wpAny_bind (wpAny_setField_rec hz (by simp) fun h₁ z₁ sb₁=>?_)
 replace z₁:ZAt h₁ z ti to .ellipsis (.bool false):=z₁
 refine wpAny_bind ?_
 simp only [List.zipIdx_cons,List.zipIdx_nil,List.forIn_cons,List.forIn_nil]
 refine wpAny_bind (wpAny_bind (wpAny_onRaise ?_))
 show wpAny _ _ (Builtin.SmallTypes.nextOf (.ref j1) >>= _) _ _ _
 refine wpAny_bind (wpAny_nextOf_list_end hA (h1.extBut sb₁.extBut zj1.symm) (hl.extBut sb₁.extBut lz) hx fun h₂ e sb₂ he=>?_)
 obtain ⟨oe,ge,ce⟩:=he
 have z₂:ZAt h₂ z ti to .ellipsis (.bool false):=sb₂ _ _ zj1 z₁
 have ez:e≠z:=fun q=>by subst q; rw [z₂] at ge; cases ge; simp at ce
 exact wpAny_setField_rec z₂ (by simp) fun h₃ _ sb₃=>hE h₃ e (fun c o c1 c3 q=>sb₃.extBut _ _ c1 (sb₂ _ _ c3 (sb₁.extBut _ _ c1 q))) ⟨oe,sb₃.extBut _ _ ez ge,ce⟩
structure ZAp (z ti to j1 j2 l tp:Addr):Prop where
 zti:z≠ti
 zto:z≠to
 zj1:z≠j1
 zj2:z≠j2
 Ju:ti≠to
 Jv:ti≠j1
 Jw:ti≠j2
 CK:to≠j1
 CM:to≠j2
 j12:j1≠j2
 lto:l≠to
 EI:tp≠to
structure ZSt (h:Heap) (z ti to j1 j2 l tp:Addr) (xs ys:Array Value) (i:Nat):Prop where
 zip:(∃ a b,ZAt h z ti to .none (.bool false)∧IsPair h to a b)∨∃ (T:Addr) (u:Tok) (a b:Value) (g:Bool),ZAt h z ti to (.int T u) (.bool g)∧IsPair h T a b
 ins:IsPair h ti (.ref j1) (.ref j2)
 it1:h.IsListIter j1 l i
 it2:h.IsTupleIter j2 tp i
 ls:h.IsList l xs
 tu:h.IsTuple tp ys
theorem jE {h:Heap} {a b:Addr} {o o':Obj} {c c':String} (e:h.get? a=some o) (e':h.get? b=some o') (hc:o.cls=.type c) (hc':o'.cls=.type c') (n:c≠c'):a≠b:=fun q=>by
 rw [q,e'] at e
 cases e
 rw [hc] at hc'
 exact n (Value.type.inj hc')
theorem CO {z ti to j1 j2 l tp:Addr} {xs ys:Array Value} {i:Nat} {x y:Value} {Q:Option Value→Shared→Prop} (ap:ZAp z ti to j1 j2 l tp) (st:ZSt s.heap z ti to j1 j2 l tp xs ys i) (hx:xs[i]?=some x) (hy:ys[i]?=some y)
   (hQ:∀ h',ZSt h' z ti to j1 j2 l tp xs ys (i + 1)→IsPair h' s.heap.objs.size x y→(∀ c o,c≠z→c≠to→c≠j1→c≠j2→s.heap.get? c=some o→h'.get? c=some o)→Q (some (.ref s.heap.objs.size)) { s with heap:=h' }) :
   wpAny (model prog w) A (pyNext (.ref z)) Q E s:=by
 have zT:s.TypeIs (.ref z) "zip":=by
   rcases st.zip with ⟨a,b,hz,_⟩ | ⟨T,u,a,b,g,hz,_⟩
   · exact ⟨_,hz,rfl⟩
   · exact ⟨_,hz,rfl⟩
 obtain ⟨o1,g1,c1,_⟩:=st.it1
 obtain ⟨o2,g2,c2,_⟩:=st.it2
 obtain ⟨ol,gl,cl,_⟩:=st.ls
 obtain ⟨ot,gt,ct,_⟩:=st.tu
 obtain ⟨oz,gz,cz⟩:=zT
 have lk:∀ h',(∀ c o,c≠z→c≠to→c≠j1→c≠j2→s.heap.get? c=some o→h'.get? c=some o)→IsPair h' ti (.ref j1) (.ref j2)∧h'.IsList l xs∧h'.IsTuple tp ys:=fun h' k=>by
   refine ⟨k _ _ ap.zti.symm ap.Ju ap.Jv ap.Jw st.ins,?_,?_⟩
   · obtain ⟨q,gq,rest⟩:=st.ls
     exact ⟨q,k _ _ (jE gl gz cl cz (by decide)) ap.lto (jE gl g1 cl c1 (by decide)) (jE gl g2 cl c2 (by decide)) gq,rest⟩
   · obtain ⟨q,gq,rest⟩:=st.tu
     exact ⟨q,k _ _ (jE gt gz ct cz (by decide)) ap.EI (jE gt g1 ct c1 (by decide)) (jE gt g2 ct c2 (by decide)) gq,rest⟩
 unfold pyNext
 refine wpAny_bind (wpAny_attempt (wpAny_callSpecial?_slot (name:=Str.ofString "__next__") ⟨oz,gz,cz⟩ F.slot_zip_next (wpAny_call_entry F.slot_zip_next ⟨oz,gz,cz⟩ F.entry_zip_next ?_ (F.args_zip_next_1 _))))
 rcases st.zip with ⟨a,b,hz,hO⟩ | ⟨T,u,a,b,g,hz,hT⟩
 · refine yI hz hO st.ins st.it1 st.it2 st.ls st.tu ap.zj1 ap.zj2 ap.zto ap.CK ap.CM ap.j12 ap.EI hx hy fun h' q1 q2 q3 q4 q5 q6=>wpAny_pure ?_
   obtain ⟨k1,k2,k3⟩:=lk h' q6
   exact hQ h' ⟨.inr ⟨_,_,x,y,false,q1,q4⟩,k1,q2,q3,k2,k3⟩ q4 q6
 · refine yH hz hT st.ins st.it1 st.it2 st.ls st.tu ap.zj1 ap.zj2 ap.j12 hx hy fun h' q1 q2 q3 q4 q5 q6=>wpAny_pure ?_
   have q6':∀ c o,c≠z→c≠to→c≠j1→c≠j2→s.heap.get? c=some o→h'.get? c=some o:=fun c o a1 _ a3 a4 e=>q6 c o a1 a3 a4 e
   obtain ⟨k1,k2,k3⟩:=lk h' q6'
   exact hQ h' ⟨.inr ⟨T,u,a,b,true,q1,q6 _ _ (jE hT gz rfl cz (by decide)) (jE hT g1 rfl c1 (by decide)) (jE hT g2 rfl c2 (by decide)) hT⟩,k1,q2,q3,k2,k3⟩ q4 q6'
theorem EJ {z ti to j1 j2 l tp:Addr} {xs ys:Array Value} {i:Nat} {Q:Option Value→Shared→Prop} (hA:A.handled=none) (ap:ZAp z ti to j1 j2 l tp) (st:ZSt s.heap z ti to j1 j2 l tp xs ys i) (hx:xs[i]?=none)
   (hQ:∀ h',(∀ c o,c≠z→c≠j1→s.heap.get? c=some o→h'.get? c=some o)→Q none { s with heap:=h' }):wpAny (model prog w) A (pyNext (.ref z)) Q E s:=by
 have zT:s.TypeIs (.ref z) "zip":=by
   rcases st.zip with ⟨a,b,hz,_⟩ | ⟨T,u,a,b,g,hz,_⟩
   · exact ⟨_,hz,rfl⟩
   · exact ⟨_,hz,rfl⟩
 unfold pyNext
 refine wpAny_bind (wpAny_attempt (wpAny_callSpecial?_slot (name:=Str.ofString "__next__") zT F.slot_zip_next (wpAny_call_entry F.slot_zip_next zT F.entry_zip_next ?_ (F.args_zip_next_1 _))))
 rcases st.zip with ⟨a,b,hz,hO⟩ | ⟨T,u,a,b,g,hz,hT⟩
 · refine Bg hA hz st.ins st.it1 st.ls ap.zj1 hx fun h' e k he=>?_
   obtain ⟨oe,ge,ce⟩:=he
   refine wpAny_bind (wpAny_isInstance (T:="StopIteration") (b:=true) ⟨oe,ge,ce⟩ isSubtype_stop ?_)
   exact wpAny_pure (hQ _ k)
 · refine Bf hA hz hT st.ins st.it1 st.ls ap.zj1 hx fun h' e k he=>?_
   obtain ⟨oe,ge,ce⟩:=he
   refine wpAny_bind (wpAny_isInstance (T:="StopIteration") (b:=true) ⟨oe,ge,ce⟩ isSubtype_stop ?_)
   exact wpAny_pure (hQ _ k)
theorem ZSt.but {h h':Heap} {z ti to j1 j2 l tp d:Addr} {xs ys:Array Value} {i:Nat} (st:ZSt h z ti to j1 j2 l tp xs ys i) (sb:Heap.SameBut d h h') (dn:∀ a o,h.get? a=some o→(∀ es n,o.data≠.dict es n)→a≠d):ZSt h' z ti to j1 j2 l tp xs ys i:=by
 have k:∀ a o,h.get? a=some o→(∀ es n,o.data≠.dict es n)→h'.get? a=some o:=fun a o e n=>sb.extBut _ _ (dn a o e n) e
 refine ⟨?_,k _ _ st.ins (by intro es n q; cases q),?_,?_,?_,?_⟩
 · rcases st.zip with ⟨a,b,hz,hO⟩ | ⟨T,u,a,b,g,hz,hT⟩
   · exact .inl ⟨a,b,k _ _ hz (by intro es n q; cases q),k _ _ hO (by intro es n q; cases q)⟩
   · exact .inr ⟨T,u,a,b,g,k _ _ hz (by intro es n q; cases q),k _ _ hT (by intro es n q; cases q)⟩
 · obtain ⟨o,go,hc,hd⟩:=st.it1
   exact ⟨o,k _ _ go (by intro es n q; rw [hd] at q; cases q),hc,hd⟩
 · obtain ⟨o,go,hc,hd⟩:=st.it2
   exact ⟨o,k _ _ go (by intro es n q; rw [hd] at q; cases q),hc,hd⟩
 · obtain ⟨o,go,hc,n',hd⟩:=st.ls
   exact ⟨o,k _ _ go (by intro es n q; rw [hd] at q; cases q),hc,n',hd⟩
 · obtain ⟨o,go,hc,n',hd⟩:=st.tu
   exact ⟨o,k _ _ go (by intro es n q; rw [hd] at q; cases q),hc,n',hd⟩
theorem An {κ:Type} [DecidableEq κ] (knd:KeyKind prog w κ) (d z ti to j1 j2 l tp:Addr) (xs ys:Array Value) (res:Value) (hA:A.handled=none) (ap:ZAp z ti to j1 j2 l tp) (dto:d≠to) {R:Result→Shared→Prop}:∀ (r:List (κ × Value × Value)) (i:Nat) (j:Int) (u:Tok) (kvs:List (κ × Value)) (s:Shared),
   xs.toList.drop i=r.map (·.2.1)→ys.toList.drop i=r.map (·.2.2)→(∀ q∈r,knd.is q.1 q.2.1=true)→ZSt s.heap z ti to j1 j2 l tp xs ys i→s.heap.DictOf knd d kvs→kvs.length + r.length≤sizeLine→
   (∀ h' tk,h'.DictOf knd d (merged kvs (r.map fun q=>(q.1,q.2.2)))→(∀ b o,b≠d→b≠z→b≠to→b≠j1→b≠j2→s.heap.get? b=some o→h'.get? b=some o)→R (.ok (.ret res)) { s with heap:=h',toks:=tk })→
   codeAny (model prog w) A (.builtin "dict.update.loop" ⟨[.ref d,.ref z,.int j u,res],[]⟩) R s
 | [],i,j,u,kvs,s,hi,hk,hp,st,hd,hz,hR=>by
   refine codeAny_builtin jD ?_
   rw [Around.under_plainId dO _]
   show wpAny _ A.in1 (pyNext (.ref z) >>= _) _ _ s
   have dn:∀ a o,s.heap.get? a=some o→(∀ es n,o.data≠.dict es n)→a≠d:=fun a o e n q=>by
     obtain ⟨od,_,_,god,_,hdd,_⟩:=hd
     rw [q,god] at e
     cases e
     exact n _ _ hdd
   refine wpAny_bind (EJ hA ap st (by rw [← Array.getElem?_toList]; rw [List.map_nil] at hi; exact List.getElem?_eq_none (List.drop_eq_nil_iff.mp hi)) fun h' kp=>?_)
   show wpAny _ _ (Builtin.Dict.addKeywords d [] >>= _) _ _ _
   refine wpAny_bind (wpAny_pure (wpAny_pure (hR h' s.toks ?_ fun b o _ c1 _ c3 _ e=>kp b o c1 c3 e)))
   have dz:d≠z:=by
     rcases st.zip with ⟨a,b,gz,_⟩ | ⟨T,u,a,b,g,gz,_⟩
     · exact (dn _ _ gz (by intro es n q; cases q)).symm
     · exact (dn _ _ gz (by intro es n q; cases q)).symm
   have dj:d≠j1:=by
     obtain ⟨o,go,hc,hd'⟩:=st.it1
     exact (dn _ _ go (by intro es n q; rw [hd'] at q; cases q)).symm
   obtain ⟨o,es,ep,ho,rest⟩:=hd
   exact ⟨o,es,ep,kp d o dz dj ho,rest⟩
 | q :: r,i,j,u,kvs,s,hi,hk,hp,st,hd,hz,hR=>by
   have hx:xs[i]?=some q.2.1:=by
     rw [← Array.getElem?_toList,← List.head?_drop,hi]
     rfl
   have hy:ys[i]?=some q.2.2:=by
     rw [← Array.getElem?_toList,← List.head?_drop,hk]
     rfl
   have dn:∀ a o,s.heap.get? a=some o→(∀ es n,o.data≠.dict es n)→a≠d:=fun a o e n q=>by
     obtain ⟨od,_,_,god,_,hdd,_⟩:=hd
     rw [q,god] at e
     cases e
     exact n _ _ hdd
   have dz:d≠z:=by
     rcases st.zip with ⟨a,b,gz,_⟩ | ⟨T,u,a,b,g,gz,_⟩
     · exact (dn _ _ gz (by intro es n q; cases q)).symm
     · exact (dn _ _ gz (by intro es n q; cases q)).symm
   have dj1:d≠j1:=by
     obtain ⟨o,go,hc,hd'⟩:=st.it1
     exact (dn _ _ go (by intro es n q; rw [hd'] at q; cases q)).symm
   have dj2:d≠j2:=by
     obtain ⟨o,go,hc,hd'⟩:=st.it2
     exact (dn _ _ go (by intro es n q; rw [hd'] at q; cases q)).symm
   refine codeAny_builtin jD ?_
   rw [Around.under_plainId dO _]
   show wpAny _ A.in1 (pyNext (.ref z) >>= _) _ _ s
   refine wpAny_bind (CO ap st hx hy fun h' st' pr kp=>?_)
   have hd':h'.DictOf knd d kvs:=by
     obtain ⟨o,es,ep,ho,rest⟩:=hd
     exact ⟨o,es,ep,kp d o dz dto dj1 dj2 ho,rest⟩
   show wpAny _ A.in1 (holding [Value.ref s.heap.objs.size] _ >>= _) _ _ _
   refine wpAny_bind (wpAny_holding (wpAny_bind (wpAny_tryCatch ?_)))
   unfold Builtin.Dict.pairItems
   refine wpAny_bind (wpAny_typeOf (T:="tuple") ⟨_,pr,rfl⟩ ?_)
   rw [if_pos (by decide)]
   refine wpAny_bind (wpAny_seqItems (s:={ s with heap:=h' }) pr rfl (wpAny_pure ?_))
   show wpAny _ A.in1 (holding [q.2.1,q.2.2] (dictSet d q.2.1 q.2.2)) _ _ _
   refine wpAny_holding (wpAny_dictSet_pairs (s:={ s with heap:=h' }) (hp q (List.mem_cons_self ..)) hd' (fun h2 hd2 sb2=>?_) (by simp only [List.length_cons] at hz; lia))
   refine wpAny_pure ⟨plainId_quiet dO _,?_⟩
   refine An knd d z ti to j1 j2 l tp xs ys res hA ap dto r (i + 1) (j + 1) _ _ _ ?_ ?_ (fun p hpr=>hp p (List.mem_cons_of_mem _ hpr)) (st'.but sb2 fun a o e n w=>?_) hd2 ?_ fun h3 tk hd3 keep=>hR h3 tk hd3 fun b o n1 n2 n3 n4 n5 e=>keep b o n1 n2 n3 n4 n5 ?_
   · rw [← List.drop_drop,hi]
     rfl
   · rw [← List.drop_drop,hk]
     rfl
   · obtain ⟨od,_,_,god,_,hdd,_⟩:=hd'
     rw [w,god] at e
     cases e
     exact n _ _ hdd
   · have:=stored_length_le kvs q.1 q.2.2
     simp only [List.length_cons] at hz
     lia
   · exact (sb2.2 _ n1).trans (kp b o n2 n3 n4 n5 e)
theorem CQ:typeLookup (.type "zip") "keys"=pure none:=by rw [typeLookup_type,builtinLookup_eq_fast]; kernel_rfl
theorem CS:typeLookup (.type "zip") "__getattr__"=pure none:=by rw [typeLookup_type,builtinLookup_eq_fast]; kernel_rfl
theorem vF:entryFor table "zip.__getattribute__"=some Builtin.«object.__getattribute__»:=entryFor_alias (id':="object.__getattribute__") (by kernel_rfl) (by first | rfl | decide +kernel) (by decide +kernel) (by kernel_rfl)
theorem Bh (a:Addr) (u:Tok) {hp:Heap} {g:Array GenState} {d:Drawn} {tk:Nat} {os:OsState} {vs:Array Value} {Q:Fin→Shared→Prop} (hx:hp.get? a=some ⟨.type "zip",none,.fields vs, #[]⟩) (hA:A.handled=none)
   (h:∀ h' tk' e,Heap.NewAttrErr hp h' e (.ref a) "keys"→E (.ref e) ⟨h',g,d,tk',os⟩) :
   wpAny (model prog w) A (Builtin.«object.__getattribute__» ⟨[.ref a,.str "keys" u],[]⟩) Q E ⟨hp,g,d,tk,os⟩:=by
 have hT:(⟨hp,g,d,tk,os⟩:Shared).TypeIs (.ref a) "zip":=⟨_,hx,rfl⟩
 have f4:=CQ
 unfold Builtin.«object.__getattribute__»
 repeat (any_goals (first | assumption | wp_step))
 exact wpAny_raiseAttrError hA h (attrMsg_fits (by decide +kernel) (by size_fits))
theorem yJ (a:Addr) {s:Shared} {vs:Array Value} {Q:Option Value→Shared→Prop} (hx:s.heap.get? a=some ⟨.type "zip",none,.fields vs, #[]⟩) (hA:A.handled=none)
   (h:∀ h' tk,(∀ b ob,s.heap.get? b=some ob→h'.get? b=some ob)→Q none { s with heap:=h',toks:=tk }):wpAny (model prog w) A (getAttr? (.ref a) "keys") Q E s:=by
 obtain ⟨hp,g,d,tk,os⟩:=s
 have hT:∀ tk',(⟨hp,g,d,tk',os⟩:Shared).TypeIs (.ref a) "zip":=fun _=>⟨_,hx,rfl⟩
 have f1:=sub_AttributeError
 have f2:=F.slot_zip_getattribute.lookup
 have f3:=F.slot_zip_getattribute.bind (.ref a)
 have f5:=CS
 unfold getAttr? getAttrBy? getAttrBy
 repeat (any_goals (first | assumption | exact hT _ | wp_step))
 all_goals
   refine codeAny_call_builtin F.slot_zip_getattribute.plain vF (F.slot_zip_getattribute.check _ _ _ _ _ _ _ _ (show (⟨hp,g,d,tk + 1,os⟩:Shared).TypeIs (.ref a) "zip" from ⟨_,hx,rfl⟩) (F.args_zip_getattribute_2 _ _) ?_)
 all_goals
   refine Bh a tk hx hA fun h' tk' e ne=>?_
 all_goals
   obtain ⟨t',u',he⟩:=ne.there
   show wpAny _ _ (getattributeRaised _ _ _ _ _ _ _) _ _ _
   unfold getattributeRaised
   repeat (any_goals (first | assumption | wp_step))
 all_goals exact h _ _ ne.keeps
end
end L3
namespace L3
open PySem PyProof.Rows
noncomputable abbrev zA (h:Heap) (l:Addr):Heap:=h.push { cls:=.type "list_iterator",data:=.fields #[.ref l,.int 0 0] }
noncomputable abbrev zB (h:Heap) (l tp:Addr):Heap:=(zA h l).push { cls:=.type "tuple_iterator",data:=.fields #[.ref tp,.int 0 0] }
noncomputable abbrev zC (h:Heap) (l tp:Addr):Heap:=(zB h l tp).push { cls:=.type "tuple",data:=.seq #[.ref h.objs.size,.ref (zA h l).objs.size] }
noncomputable abbrev zD (h:Heap) (l tp:Addr):Heap:=(zC h l tp).push { cls:=.type "tuple",data:=.seq #[.none,.none] }
noncomputable abbrev zE (h:Heap) (l tp:Addr):Heap:=(zD h l tp).push { cls:=.type "zip",data:=.fields #[.none,.bool false,.bool false,.ref (zB h l tp).objs.size,.ref (zC h l tp).objs.size] }
theorem CT (l tp:Addr) (xs ys:Array Value):Meets (Builtin.«zip.__new__» ⟨[.type "zip",.ref l,.ref tp],[]⟩) (fun _ R s=>s.heap.IsList l xs∧s.heap.IsTuple tp ys∧R (.ok (.ret (.ref (zD s.heap l tp).objs.size))) { s with heap:=zE s.heap l tp }):=
 .of_wp fun prog w A R s h=>by
   obtain ⟨hp,g,d,tk,os⟩:=s
   obtain ⟨g1,g2,h⟩:=h
   have JU:=sub_zip
   have k1:Heap.IsList (Shared.heap ⟨hp,g,d,tk,os⟩) l xs:=g1
   have k2:Heap.IsTuple (Shared.heap ⟨hp.push { cls:=.type "list_iterator",data:=.fields #[.ref l,.int 0 0] },g,d,tk,os⟩) tp ys:=by
     obtain ⟨o,go,rest⟩:=g2
     exact ⟨o,Heap.get?_push_of_some _ go,rest⟩
   wp_walk using wpAny_pyIter_list k1,wpAny_pyIter_tuple k2
   exact ⟨_,rfl,h⟩
section
variable {prog:Program} {w:World} {A:Around} {E:Value→Shared→Prop} {s:Shared}
theorem EK (n l tp:Nat) (h1:l < n) (h2:tp < n):ZAp (n + 4) (n + 2) (n + 3) n (n + 1) l tp:=by
 constructor <;> (show (_:Nat)≠_; lia)
theorem yK {l tp:Addr} {xs ys:Array Value} {Q:Value→Shared→Prop} (hl:s.heap.IsList l xs) (ht:s.heap.IsTuple tp ys)
   (h:∀ h',ZAp (s.heap.objs.size + 4) (s.heap.objs.size + 2) (s.heap.objs.size + 3) s.heap.objs.size (s.heap.objs.size + 1) l tp→ZSt h' (s.heap.objs.size + 4) (s.heap.objs.size + 2) (s.heap.objs.size + 3) s.heap.objs.size (s.heap.objs.size + 1) l tp xs ys 0→
     ZAt h' (s.heap.objs.size + 4) (s.heap.objs.size + 2) (s.heap.objs.size + 3) .none (.bool false)→(∀ c o,s.heap.get? c=some o→h'.get? c=some o)→Q (.ref (s.heap.objs.size + 4)) { s with heap:=h' }) :
   wpAny (model prog w) A (call (.type "zip") [.ref l,.ref tp]) Q E s:=by
 refine callType_new F.called_zip (by decide) (F.typeCall_zip_2 _ _) (F.newCall_zip_2 _ _) (fun obj=>F.args_object_init_3 obj _ _) F.entry_zip_new (CT l tp xs ys) ⟨hl,ht,?_⟩
 have z1:(zA s.heap l).objs.size=s.heap.objs.size + 1:=Heap.size_push ..
 have z2:(zB s.heap l tp).objs.size=s.heap.objs.size + 2:=by rw [Heap.size_push,z1]
 have z3:(zC s.heap l tp).objs.size=s.heap.objs.size + 3:=by rw [Heap.size_push,z2]
 have z4:(zD s.heap l tp).objs.size=s.heap.objs.size + 4:=by rw [Heap.size_push,z3]
 have g5:(zE s.heap l tp).get? (zD s.heap l tp).objs.size=some _:=Heap.get?_push_size _ rfl
 have g4:(zE s.heap l tp).get? (zC s.heap l tp).objs.size=some _:=Heap.get?_push_of_some _ (Heap.get?_push_size _ rfl)
 have g3:(zE s.heap l tp).get? (zB s.heap l tp).objs.size=some _:=Heap.get?_push_of_some _ (Heap.get?_push_of_some _ (Heap.get?_push_size _ rfl))
 have g2:(zE s.heap l tp).get? (zA s.heap l).objs.size=some _:=Heap.get?_push_of_some _ (Heap.get?_push_of_some _ (Heap.get?_push_of_some _ (Heap.get?_push_size _ rfl)))
 have g1:(zE s.heap l tp).get? s.heap.objs.size=some _:=Heap.get?_push_of_some _ (Heap.get?_push_of_some _ (Heap.get?_push_of_some _ (Heap.get?_push_of_some _ (Heap.get?_push_size _ rfl))))
 have up:∀ c o,s.heap.get? c=some o→(zE s.heap l tp).get? c=some o:=fun c o e=>Heap.get?_push_of_some _ (Heap.get?_push_of_some _ (Heap.get?_push_of_some _ (Heap.get?_push_of_some _ (Heap.get?_push_of_some _ e))))
 show _∧_
 rw [z2,z3,z4] at g5
 rw [z1,z2] at g3
 rw [z3] at g4
 rw [z1] at g2
 rw [z4]
 obtain ⟨ol,gl,rl⟩:=id hl
 obtain ⟨ot,gt,rt⟩:=id ht
 have ll:=Heap.lt_size gl
 have lt:=Heap.lt_size gt
 refine ⟨⟨_,g5,rfl⟩,h _ (EK _ _ _ ll lt) ⟨.inl ⟨_,_,g5,g4⟩,g3,⟨_,g1,rfl,rfl⟩,⟨_,g2,rfl,rfl⟩,⟨ol,up _ _ gl,rl⟩,⟨ot,up _ _ gt,rt⟩⟩ g5 up⟩
theorem CU {κ:Type} [DecidableEq κ] (knd:KeyKind prog w κ) (z ti to j1 j2 l tp:Addr) {xs ys:Array Value} {Q:Value→Shared→Prop} (hA:A.handled=none) (ap:ZAp z ti to j1 j2 l tp) (st:ZSt s.heap z ti to j1 j2 l tp xs ys 0) (gz:ZAt s.heap z ti to .none (.bool false)) (r:List (κ × Value × Value))
   (hi:xs.toList=r.map (·.2.1)) (hk:ys.toList=r.map (·.2.2)) (hp:∀ q∈r,knd.is q.1 q.2.1=true) (hz:r.length≤sizeLine) (lto:to < s.heap.objs.size)
   (h:∀ h' tk,h'.DictOf knd s.heap.objs.size (merged [] (r.map fun q=>(q.1,q.2.2)))→(∀ b o,b≠z→b≠to→b≠j1→b≠j2→s.heap.get? b=some o→h'.get? b=some o)→Q (.ref s.heap.objs.size) { s with heap:=h',toks:=tk }) :
   wpAny (model prog w) A (call (.type "dict") [.ref z]) Q E s:=by
 refine callType_codes (Q₁:=fun obj s₁=>obj=.ref s.heap.objs.size∧s₁={ s with heap:=s.heap.push { cls:=.type "dict",data:=.dict #[] } }) F.kt_called_dict (F.kt_typeCall_dict_1 _) F.entry_dict_init (kt_code_dict_new _ ⟨rfl,rfl⟩) ?_
 rintro obj s₁ ⟨rfl,rfl⟩
 have vD:(s.heap.push { cls:=.type "dict",data:=.dict #[] }).DictOf knd s.heap.objs.size []:=Heap.DictOf.new s.heap
 have mH:∀ b o,s.heap.get? b=some o→(s.heap.push { cls:=.type "dict",data:=.dict #[] }).get? b=some o:=fun b o e=>Heap.get?_push_of_some _ e
 refine ⟨vD.typeIs,F.args_dict_init_2 _ _,?_⟩
 unfold Builtin.«dict.__init__»
 refine wpAny_bind ?_
 unfold Builtin.Dict.selfAndRest
 refine wpAny_bind (wpAny_notOrdered_dict vD.typeIs ?_)
 show wpAny _ _ (pure (s.heap.objs.size,[Value.ref z])) _ _ _
 refine wpAny_pure ?_
 show wpAny _ _ (Builtin.Dict.updateFrom "dict.__init__" s.heap.objs.size (.ref z) [] .none) _ _ _
 unfold Builtin.Dict.updateFrom
 refine wpAny_bind (wpAny_typeOf (T:="zip") ⟨_,mH _ _ gz,rfl⟩ ?_)
 rw [if_pos (by decide)]
 refine wpAny_bind (yJ z (mH _ _ gz) hA fun h2 tk2 mI=>?_)
 rw [if_pos (show (none:Option Value).isNone=true from rfl)]
 refine wpAny_bind (wpAny_rule ?_)
 have up:∀ b o,s.heap.get? b=some o→h2.get? b=some o:=fun b o e=>mI _ _ (mH _ _ e)
 have hd2:h2.DictOf knd s.heap.objs.size []:=by
   obtain ⟨o,es,ep,ho,rest⟩:=vD
   exact ⟨o,es,ep,mI _ _ ho,rest⟩
 refine wpAny_bind (wpAny_pyIter_zip (s:={ s with heap:=h2,toks:=tk2 }) (up _ _ gz) ?_)
 refine wpAny_pure ⟨plainId_quiet dO _,?_⟩
 have st2:ZSt h2 z ti to j1 j2 l tp xs ys 0:=by
   refine ⟨?_,up _ _ st.ins,?_,?_,?_,?_⟩
   · rcases st.zip with ⟨a,b,e1,e2⟩ | ⟨T,u,a,b,g,e1,e2⟩
     · exact .inl ⟨a,b,up _ _ e1,up _ _ e2⟩
     · exact .inr ⟨T,u,a,b,g,up _ _ e1,up _ _ e2⟩
   · obtain ⟨o,go,rest⟩:=st.it1; exact ⟨o,up _ _ go,rest⟩
   · obtain ⟨o,go,rest⟩:=st.it2; exact ⟨o,up _ _ go,rest⟩
   · obtain ⟨o,go,rest⟩:=st.ls; exact ⟨o,up _ _ go,rest⟩
   · obtain ⟨o,go,rest⟩:=st.tu; exact ⟨o,up _ _ go,rest⟩
 refine An (A:=A.in1) knd s.heap.objs.size z ti to j1 j2 l tp xs ys .none hA ap (Nat.ne_of_gt lto) r 0 0 _ [] _ (by simpa using hi) (by simpa using hk) hp st2 hd2 (by simpa using hz) fun h4 tk4 hd4 CJ=>?_
 refine ⟨rfl,h h4 tk4 hd4 fun b o n1 n2 n3 n4 e=>CJ b o (fun w=>?_) n1 n2 n3 n4 (up _ _ e)⟩
 rw [w] at e
 exact absurd (Heap.lt_size e) (Nat.lt_irrefl _)
end
end L3
namespace L2
open PySem PyProof.Rows
theorem yM (c n k:Nat) (h:c < n):c≠n + k:=by lia
noncomputable def tDZ (K:PySem.W.Frag) (t:TA):TE:=fun σ H Q=>t σ H fun xs H1=>∃ (a b:Addr) (ks:List Key) (vs:List V),xs=[.ref a,.ref b]∧SqL K H1 a (ks.map kV)∧SqT K H1 b vs∧vs.length=ks.length∧∀ p,H1 p=none→Q (.ref p) (upd H1 p (.dK (jy [] (ks.zip vs))))
theorem yN {X:Cx} (hc:X.calm=true) {ea eb:Expr} {p1 p2 Ia Bi:Pos} {t:TA} (hg1:Gl X "dict") (hm1:X.mg "dict"=none) (hg2:Gl X "zip") (hm2:X.mg "zip"=none) (ha:PA X [ea,eb] t)
   (he:starEach [ea,eb] X.env=(false,eval ea X.env) :: starEach [eb] X.env:=by rfl) (hpl:(backTo Bi (starEach [eb] X.env)).any (·.1)=false:=by rfl)
   (he2:starEach [.Call (.Name "zip" p2) [ea,eb] [] Bi] X.env=(false,eval (.Call (.Name "zip" p2) [ea,eb] [] Bi) X.env) :: starEach [] X.env:=by rfl) :
   PE X (.Call (.Name "dict" p1) [.Call (.Name "zip" p2) [ea,eb] [] Bi] [] Ia) (tDZ X.K t):=by
 intro pins s σ H Q I h
 refine wpAny_Call_Name_kw (pI I hg1 hm1 PyProof.Rows.Boot.«dict» ?_ (by decide) (by decide))
 refine PyProof.Rows.callWith_type1 ?_ he2 rfl
 rw [he2]
 show wpAny _ _ (spliced ((false,eval (.Call (.Name "zip" p2) [ea,eb] [] Bi) X.env) :: backTo Ia (starEach [] X.env))) _ _ s
 refine Calls.spliced_cons ?_
 refine wpAny_Call_Name_kw (pI I hg2 hm2 PyProof.Rows.Boot.«zip» ?_ (by decide) (by decide))
 refine PyProof.Rows.callWith_type1 (thn (ha Bi pins s σ H _ I h) fun us s1 ⟨xs,H1,I1,r1,q1⟩=>?_) he hpl
 obtain ⟨a,b,ks,vs,rfl,ha1,hb1,lk,q⟩:=q1
 obtain ⟨u1,u2,rfl,ru1,ru2⟩:=vals2 r1
 cases (show u1=Value.ref a from ru1)
 cases (show u2=Value.ref b from ru2)
 obtain ⟨Jx,v1,t1,z1⟩:=I1.list ha1
 obtain ⟨rX,v2,t2,z2⟩:=I1.tuple hb1
 have mk:∀ (ks:List Key) (vs:List V) (us1 us2:List Value),Vals (ks.map kV) us1→Vals vs us2→vs.length=ks.length→∃ r:List (Key × Value × Value),us1=r.map (·.2.1)∧us2=r.map (·.2.2)∧(∀ q∈r,(cP X.prog X.w).is q.1 q.2.1=true)∧KV (ks.zip vs) (r.map fun q=>(q.1,q.2.2))∧r.length=ks.length:=by
   intro ks
   induction ks with
   | nil=>
     intro vs us1 us2 w1 w2 l
     have:vs=[]:=List.length_eq_zero_iff.mp l
     subst this
     cases w1
     cases w2
     exact ⟨[],rfl,rfl,fun _ z=>(by cases z),.nil,rfl⟩
   | cons k ks ih=>
     intro vs us1 us2 w1 w2 l
     cases vs with
     | nil=>simp at l
     | cons v vs=>
       rw [List.map_cons] at w1
       cases w1 with
       | @cons _ ku _ kus w11 w12=>
         cases w2 with
         | @cons _ vu _ vus w21 w22=>
           obtain ⟨r,e1,e2,h3,h4,h5⟩:=ih vs kus vus w12 w22 (by simpa using l)
           refine ⟨(k,ku,vu) :: r,by rw [e1]; rfl,by rw [e2]; rfl,fun q hq=>?_,.cons ⟨rfl,w21⟩ h4,by simp [h5]⟩
           rcases List.mem_cons.mp hq with rfl | hq
           · exact xb w11
           · exact h3 q hq
 obtain ⟨r,e1,e2,kis,kv,lr⟩:=mk ks vs Jx rX v1 v2 lk
 rw [List.length_map] at z1
 refine L3.yK t1.isList (show s1.heap.IsTuple b rX.toArray from t2) fun h' ap st gz keep=>?_
 refine Calls.spliced_nil ?_
 have big:(s1.heap.objs.size + 4:Nat) < h'.objs.size:=Heap.lt_size gz
 have hle:s1.heap.objs.size≤h'.objs.size:=by lia
 refine L3.CU (s:={ s1 with heap:=h' }) (cP X.prog X.w) _ _ _ _ _ a b (I1.ok.hd hc) ap st gz r (by simpa using e1) (by simpa using e2) kis (by lia) (show (s1.heap.objs.size + 3:Nat) < h'.objs.size by lia) fun h2 tk dd mI=>?_
 have hn:=I1.hok.fresh hle
 have hb:(h'.objs.size == sysModules)=false:=beq_eq_false_iff_ne.mpr (Ne.symm (Nat.ne_of_lt (Nat.lt_of_lt_of_le I1.big hle)))
 refine ⟨.ref h'.objs.size,_,I1.laid (fun c o e=>mI c o ?_ ?_ ?_ ?_ (keep c o e)) hle (yw ?_ hb (kv.merge .nil) dd),rfl,q _ hn⟩
 · have lc:(c:Nat) < s1.heap.objs.size:=Heap.lt_size e
   exact yM _ _ _ lc
 · have lc:(c:Nat) < s1.heap.objs.size:=Heap.lt_size e
   exact yM _ _ _ lc
 · have lc:(c:Nat) < s1.heap.objs.size:=Heap.lt_size e
   exact Nat.ne_of_lt lc
 · have lc:(c:Nat) < s1.heap.objs.size:=Heap.lt_size e
   exact yM _ _ _ lc
 · have h1:=iY (ks.zip vs) []
   rw [List.length_nil,List.length_zip] at h1
   lia
end L2
namespace L2
open PySem
section
variable {K:PySem.W.Frag} {H H':Hp} {p C dx:Addr} {fs:List (Str × V)}
mutual
theorem mi (h:H p=some (.ins C dx fs)) (u:bC (·=p) H H'):∀ (d:Dp) (v:V),Rep K H d v→Rep K H' d v
 | .non,v,r=>by rw [Rep.rG] at r ⊢; exact r
 | .bl b,v,r=>by rw [Rep.rZ] at r ⊢; exact r
 | .int b,v,r=>by rw [Rep.bG] at r ⊢; exact r
 | .str b,v,r=>by rw [Rep.bV] at r ⊢; exact r
 | .lst l,v,r=>by
   rw [Rep.bU] at r ⊢
   obtain ⟨a,ys,rfl,q,rs⟩:=r
   refine ⟨a,ys,rfl,?_,jk h u l ys rs⟩
   rcases q with (q | ⟨o,q⟩) | q
   · exact .inl (.inl (u _ _ (cQ q h (by intro z; cases z)) q))
   · exact .inl (.inr ⟨o,u _ _ (cQ q h (by intro z; cases z)) q⟩)
   · exact .inr q
 | .tup l,v,r=>by
   rw [Rep.a8] at r ⊢
   obtain ⟨a,ys,rfl,q,rs⟩:=r
   refine ⟨a,ys,rfl,?_,jk h u l ys rs⟩
   rcases q with (q | ⟨o,q⟩) | q
   · exact .inl (.inl (u _ _ (cQ q h (by intro z; cases z)) q))
   · exact .inl (.inr ⟨o,u _ _ (cQ q h (by intro z; cases z)) q⟩)
   · exact .inr q
theorem jk (h:H p=some (.ins C dx fs)) (u:bC (·=p) H H'):∀ (ds:List Dp) (vs:List V),aM K H ds vs→aM K H' ds vs
 | [],vs,r=>by rw [aM.cf] at r ⊢; exact r
 | d :: ds,vs,r=>by
   rw [aM.aP] at r ⊢
   obtain ⟨v,t,rfl,r1,r2⟩:=r
   exact ⟨v,t,rfl,mi h u d v r1,jk h u ds t r2⟩
end
end
theorem nF {K:PySem.W.Frag} {a D:Addr} {xs:List V} {te:TE} {Q:VK} {r:St} {H:Hp} (kf:Nat→Key × V) (hS:SqL K H a xs) (hl:xs.length≤16000000) (hD:H D=none)
   (step:∀ i x H2,xs[i]?=some x→aC H H2→∀ R:VK,(∀ p,H2 p=none→R (.ref p) (upd H2 p (.tup [kV (kf i).1,(kf i).2])))→te (some x :: r) H2 R)
   (q:∀ (ps:List (Addr × Key × V)) H2,aC H H2→H2 D=some (.lst (ps.map fun q=>V.ref q.1))→(∀ q∈ps,H2 q.1=some (.tup [kV q.2.1,q.2.2]))→ps.map (·.2)=(List.range xs.length).map kf→Q (.ref D) H2) :
   qy (Itl K a) D (eu 0) xf te Q (none :: r) (upd H D (.lst [])):=by
 refine sD (K:=K) (fun i ys H2=>∃ ps:List (Addr × Key × V),ys=ps.map (fun q=>V.ref q.1)∧(∀ q∈ps,H2 q.1=some (.tup [kV q.2.1,q.2.2]))∧ps.map (·.2)=(List.range i).map kf) hS hl hD ⟨[],rfl,fun _ z=>(by cases z),rfl⟩ ?_ ?_
 · rintro i x ys H2 hx s2 hDy ly ⟨ps,rfl,hps,ep⟩ R hR
   refine step i x H2 hx s2 R fun p hp=>hR _ _ (aC.new hp _) ⟨ps ++ [(p,kf i)],by simp,fun q hq=>?_,by rw [List.map_append,ep,List.range_succ,List.map_append]; rfl⟩
   have pD:D≠p:=aA hDy hp
   rcases List.mem_append.mp hq with hq | hq
   · have e:=hps q hq
     rw [aR (cQ e hDy (by intro z; cases z))]
     exact aC.new hp _ _ _ e
   · rw [List.mem_singleton.mp hq]
     show upd (upd H2 p _) D _ p=_
     rw [aR pD.symm,ar]
 · rintro ys H2 s2 hDy ⟨ps,rfl,hps,ep⟩
   exact q ps H2 s2 hDy hps ep
theorem pT {K:PySem.W.Frag} {a D:Addr} {xs:List V} {te:TE} {Q:VK} {r:St} {H:Hp} (f:Nat→V) (hS:SqL K H a xs) (hl:xs.length≤16000000) (hD:H D=none)
   (step:∀ i x H2,xs[i]?=some x→aC H H2→∀ R:VK,R (f i) H2→te (some x :: r) H2 R)
   (q:∀ H2,aC H H2→H2 D=some (.lst ((List.range xs.length).map f))→Q (.ref D) H2):qy (Itl K a) D (eu 0) xf te Q (none :: r) (upd H D (.lst [])):=by
 refine sD (K:=K) (fun i ys H2=>ys=(List.range i).map f) hS hl hD rfl ?_ ?_
 · rintro i x ys H2 hx s2 hDy ly rfl R hR
   exact step i x H2 hx s2 R (hR _ _ (aC.refl _) (by rw [List.range_succ,List.map_append]; rfl))
 · rintro ys H2 s2 hDy rfl
   exact q H2 s2 hDy
structure ChO (K:PySem.W.Frag) (C:Addr) (H:Hp) (p:Addr) (pr:PG.Prog):Prop where
 at_:∃ (dx nl sd fa va st wy:Addr) (us ws:List V),H p=some (.ins C dx [("names",.ref nl),("sizes",.ref sd),("first",.ref fa),("statements",.ref st),("ways",.ref wy)])∧H dx=some (.own p)∧
   H nl=some (.lst (pr.ax.map fun b=>.str (S b.name)))∧H sd=some (.dK (pr.ax.map fun b=>(.inr (S b.name),.int b.size)))∧
   H fa=some (.tup [.int (PG.aT pr.body 0),.ref va])∧H va=some (.tup (pr.ax.map fun b=>.int b.first))∧
   us.length=(PG.az pr.body).length∧H st=some (.dK (gu (PG.az pr.body) us))∧aM K H ((PG.az pr.body).map dpS) us∧
   ws.length=(PG.aN pr.body 0).length∧H wy=some (.dK (List.zipWith (fun r v=>(Sum.inl r.1,v)) (PG.aN pr.body 0) ws))∧∀ i (hi:i < (PG.aN pr.body 0).length),∃ q,ws[i]?=some (.ref q)∧SqT K H q ((PG.aN pr.body 0)[i].2.2.map V.int)
section
variable (K:PySem.W.Frag) (C:Addr)
noncomputable def EL:Sp:=fun vs H Q _=>∃ (p dx:Addr) (v:V) (pr:PG.Prog),vs=[.ref p,v]∧H p=some (.ins C dx [])∧H dx=some (.own p)∧Rep K H (fE pr) v∧PG.qY pr.body≤3∧(PG.eJ pr.body).length≤1000∧(PG.az pr.body).Pairwise (fun a b=>a.row < b.row)∧(pr.ax.map (·.name)).Nodup∧pr.ax.length≤10∧
 ∀ H',cv p H H'→ChO K C H' p pr→Q .non H'
end
end L2
namespace L2
open PySem
noncomputable def wkv (kvs:List (Key × V)) (x:W):Int:=match de kvs (.inr (S x)) with
 | some (.int i)=>i
 | _=>0
noncomputable def TrK (kvs:List (Key × V)):PM.Tr→Prop
 | .num n=>n.natAbs≤2 ^ 12
 | .box x=>∃ i:Int,de kvs (.inr (S x))=some (.int i)∧i.natAbs≤2 ^ 12
 | .bin o l r=>(o=[43]∨o=[45]∨o=[42])∧TrK kvs l∧TrK kvs r
theorem CV {kvs:List (Key × V)} {x:W} {i:Int} (h:de kvs (.inr (S x))=some (.int i)):wkv kvs x=i:=by
 unfold wkv
 rw [h]
theorem oB {kvs:List (Key × V)}:∀ {t:PM.Tr},TrK kvs t→(eB (wkv kvs) t).natAbs≤2 ^ (14 * 2 ^ PG.trd t)
 | .num n,h=>by
   rw [TrK] at h
   rw [eB]
   simp only [PG.trd]
   exact Nat.le_trans h (Nat.pow_le_pow_right (by decide) (by decide))
 | .box x,h=>by
   rw [TrK] at h
   obtain ⟨i,e,hi⟩:=h
   rw [eB,CV e]
   simp only [PG.trd]
   exact Nat.le_trans hi (Nat.pow_le_pow_right (by decide) (by decide))
 | .bin o l r,h=>by
   rw [TrK] at h
   have hl:=oB h.2.1
   have hr:=oB h.2.2
   have one:∀ a b:Nat,1≤2 ^ max a b:=fun a b=>Nat.one_le_two_pow
   have ml:(eB (wkv kvs) l).natAbs≤2 ^ (14 * 2 ^ max (PG.trd l) (PG.trd r)):=Nat.le_trans hl (Nat.pow_le_pow_right (by decide) (Nat.mul_le_mul_left _ (Nat.pow_le_pow_right (by decide) (Nat.le_max_left _ _))))
   have mr:(eB (wkv kvs) r).natAbs≤2 ^ (14 * 2 ^ max (PG.trd l) (PG.trd r)):=Nat.le_trans hr (Nat.pow_le_pow_right (by decide) (Nat.mul_le_mul_left _ (Nat.pow_le_pow_right (by decide) (Nat.le_max_right _ _))))
   rw [PG.trd,show 14 * 2 ^ (max (PG.trd l) (PG.trd r) + 1)=14 * 2 ^ max (PG.trd l) (PG.trd r) + 14 * 2 ^ max (PG.trd l) (PG.trd r) by rw [Nat.pow_succ]; lia]
   have k14:14≤14 * 2 ^ max (PG.trd l) (PG.trd r):=Nat.le_mul_of_pos_right _ (one _ _)
   generalize 14 * 2 ^ max (PG.trd l) (PG.trd r)=k at *
   have two:2≤2 ^ k:=Nat.le_trans (by decide:2≤2 ^ 1) (Nat.pow_le_pow_right (by decide) (by lia))
   rw [Nat.pow_add]
   have b2:2 * 2 ^ k≤2 ^ k * 2 ^ k:=Nat.mul_le_mul_right _ two
   rw [eB]
   split
   · lia
   · split
     · lia
     · rw [Int.natAbs_mul]
       exact Nat.mul_le_mul ml mr
theorem CY {a:Int} {d:Nat} (h:a.natAbs≤2 ^ (14 * 2 ^ d)) (hd:d≤6):a.natAbs < 2 ^ 4000:=by
 refine Nat.lt_of_le_of_lt h (Nat.pow_lt_pow_right (by decide) ?_)
 have:2 ^ d≤2 ^ 6:=Nat.pow_le_pow_right (by decide) hd
 lia
section
variable (K:PySem.W.Frag)
noncomputable def spW (n:Nat):Sp:=fun vs H Q _=>∃ (v:V) (d:Addr) (tr:PM.Tr) (kvs:List (Key × V)),vs=[v,.ref d]∧Rep K H (dpT tr) v∧H d=some (.dK kvs)∧TrK kvs tr∧PG.trd tr < n∧PG.trd tr≤6∧∀ H',aC H H'→Q (.int (eB (wkv kvs) tr)) H'
end
end L2
namespace L2
open PySem
theorem ChO.mono {K:PySem.W.Frag} {C p:Addr} {H H':Hp} {pr:PG.Prog} (c:ChO K C H p pr) (s:aC H H'):ChO K C H' p pr:=by
 obtain ⟨dx,nl,sd,fa,va,st,wy,us,ws,h1,h2,h3,h4,h5,h6,h7,h8,h9,h10,h11,h12⟩:=c.at_
 exact ⟨⟨dx,nl,sd,fa,va,st,wy,us,ws,s _ _ h1,s _ _ h2,s _ _ h3,s _ _ h4,s _ _ h5,s _ _ h6,h7,s _ _ h8,h9.mono s,h10,s _ _ h11,fun i hi=>let ⟨q,e,r⟩:=h12 i hi; ⟨q,e,s.c9 r⟩⟩⟩
theorem mm {α β:Type} (g:α→β) (d:α) (l:List α):(List.range l.length).map (fun i=>g (l.getD i d))=l.map g:=by
 apply List.ext_getElem
 · simp
 · intro i h1 h2
   simp at h1 h2
   simp [h2]
noncomputable def dg (bs:List PG.Box) (vs:List V):List (Key × V):=List.zipWith (fun b v=>(Sum.inr (S b.name),v)) bs vs
theorem sF:∀ (bs:List PG.Box) (vs:List V),(bs.map fun b=>(Sum.inr (S b.name):Key)).zip vs=dg bs vs
 | [],vs=>by simp [dg]
 | b :: bs,[]=>by simp [dg]
 | b :: bs,v :: vs=>by
   show _ :: (bs.map fun b=>(Sum.inr (S b.name):Key)).zip vs=_ :: dg bs vs
   rw [sF bs vs]
theorem qB:∀ (bs:List PG.Box) (vs:List V),vs.length=bs.length→(dg bs vs).map (·.1)=bs.map fun b=>(Sum.inr (S b.name):Key)
 | [],[],_=>rfl
 | [],_ :: _,h=>by simp at h
 | _ :: _,[],h=>by simp at h
 | b :: bs,v :: vs,h=>by
   show _ :: (dg bs vs).map (·.1)=_
   rw [qB bs vs (by simpa using h)]
   rfl
theorem names_nodup {bs:List PG.Box} (nb:(bs.map (·.name)).Nodup):(bs.map fun b=>(Sum.inr (S b.name):Key)).Nodup:=by
 refine List.pairwise_map.mpr ((List.pairwise_map.mp nb).imp fun {a b} hab e=>hab ?_)
 exact sf.mp (Sum.inr.inj e)
theorem jl:∀ (bs:List PG.Box) (vs:List V),vs.length=bs.length→(bs.map (·.name)).Nodup→∀ i (hi:i < bs.length) v,vs[i]?=some v→de (dg bs vs) (.inr (S bs[i].name))=some v
 | [],_,_,_,i,hi,_,_=>by simp at hi
 | _ :: _,[],h,_,_,_,_,_=>by simp at h
 | b :: bs,v :: vs,h,nb,0,hi,u,hu=>by
   simp at hu
   subst hu
   show de ((_,v) :: dg bs vs) _=_
   exact cS rfl
 | b :: bs,v :: vs,h,nb,i + 1,hi,u,hu=>by
   rw [List.map_cons,List.nodup_cons] at nb
   have mem:(bs[i]'(by simpa using hi)).name∈bs.map (·.name):=List.mem_map.mpr ⟨_,List.getElem_mem _,rfl⟩
   show de ((.inr (S b.name),v) :: dg bs vs) (.inr (S (bs[i]'(by simpa using hi)).name))=_
   rw [cT (fun e=>by have e:=sf.mp (Sum.inr.inj e); exact nb.1 (e ▸ mem))]
   exact jl bs vs (by simpa using h) nb.2 i (by simpa using hi) u (by simpa using hu)
section
variable (K:PySem.W.Frag) (C:Addr)
noncomputable def Bj:Sp:=fun vs H Q _=>∃ (p a:Addr) (pr:PG.Prog) (us:List V),vs=[.ref p,.ref a]∧ChO K C H p pr∧SqT K H a us∧us.length=pr.ax.length∧(pr.ax.map (·.name)).Nodup∧pr.ax.length≤10∧
 ∀ d H',aC H H'→H d=none→H' d=some (.dK (dg pr.ax us))→Q (.ref d) H'
noncomputable def Bk:Sp:=fun vs H Q _=>∃ (p d:Addr) (pr:PG.Prog) (kvs:List (Key × V)) (us:List V),vs=[.ref p,.ref d]∧ChO K C H p pr∧H d=some (.dK kvs)∧us.length=pr.ax.length∧(∀ i (hi:i < pr.ax.length),de kvs (.inr (S pr.ax[i].name))=us[i]?)∧pr.ax.length≤10∧
 ∀ a H',aC H H'→SqT K H' a us→Q (.ref a) H'
noncomputable def CZ:Sp:=fun vs H Q _=>∃ (p:Addr) (pr:PG.Prog) (row:Int),vs=[.ref p,.int row]∧ChO K C H p pr∧(PG.az pr.body).Pairwise (fun a b=>a.row < b.row)∧
 ((row=0∧Q (.str "end") H)∨(row≠0∧∃ i,∃ hi:i < (PG.az pr.body).length,(PG.az pr.body)[i].row=row∧Q (.str (wdS (PG.az pr.body)[i].wd)) H))
end
noncomputable def uZ:PG.Stm→Option (W × PM.Tr × PM.Tr)
 | .bZ _ sg l r=>some (sg,l,r)
 | .ifs _ sg l r _ _=>some (sg,l,r)
 | .whl _ sg l r _=>some (sg,l,r)
 | _=>none
noncomputable def yO (sg:W) (a b:Int):Bool:=if sg=[60] then decide (a < b) else decide (a=b)
noncomputable def wv (bs:List PG.Box) (vals:List Int) (e:PM.Tr):Int:=eB (wkv (dg bs (vals.map V.int))) e
noncomputable abbrev TrV (bs:List PG.Box) (vals:List Int) (e:PM.Tr):Prop:=TrK (dg bs (vals.map V.int)) e∧PG.trd e≤2
theorem yP {K:PySem.W.Frag} {H:Hp} {st:PG.Stm} {v:V} {sg:W} {l r:PM.Tr} (h:Rep K H (dpS st) v) (c:uZ st=some (sg,l,r)):∃ a w0 vl vr ys,v=.ref a∧SqT K H a (w0 :: .int st.row :: .str (S sg) :: vl :: vr :: ys)∧Rep K H (dpT l) vl∧Rep K H (dpT r) vr:=by
 have key:∃ w ds,dpS st=.tup (.str w :: .int st.row :: .str (S sg) :: dpT l :: dpT r :: ds):=by
   cases st <;> simp only [uZ,Option.some.injEq,Prod.mk.injEq,reduceCtorEq] at c <;> obtain ⟨rfl,rfl,rfl⟩:=c <;> exact ⟨_,_,by rw [dpS]; rfl⟩
 obtain ⟨w0,ds,e⟩:=key
 rw [e,Rep.a8] at h
 obtain ⟨a,xs,rfl,q,rs⟩:=h
 rw [aM.aP] at rs
 obtain ⟨v0,t0,rfl,_,rs⟩:=rs
 rw [aM.aP] at rs
 obtain ⟨v1,t1,rfl,e1,rs⟩:=rs
 rw [aM.aP] at rs
 obtain ⟨v2,t2,rfl,e2,rs⟩:=rs
 rw [aM.aP] at rs
 obtain ⟨v3,t3,rfl,e3,rs⟩:=rs
 rw [aM.aP] at rs
 obtain ⟨v4,t4,rfl,e4,rs⟩:=rs
 rw [Rep.bG] at e1
 rw [Rep.bV] at e2
 subst e1 e2
 exact ⟨a,v0,v3,v4,t4,rfl,q,e3,e4⟩
noncomputable def jm (K:PySem.W.Frag) (H:Hp) (sa:Addr) (row:Int) (vals:List Int):Prop:=∃ va,SqT K H sa [.int row,.ref va]∧SqT K H va (vals.map V.int)
theorem jm.mono {K:PySem.W.Frag} {H H':Hp} {sa:Addr} {row:Int} {vals:List Int} (h:jm K H sa row vals) (s:aC H H'):jm K H' sa row vals:=let ⟨va,h1,h2⟩:=h; ⟨va,s.c9 h1,s.c9 h2⟩
structure Bl (pr:PG.Prog):Prop where
 pw:(PG.az pr.body).Pairwise (fun a b=>a.row < b.row)
 nb:(pr.ax.map (·.name)).Nodup
 few:pr.ax.length≤10
 pos:∀ s∈PG.az pr.body,0 < s.row
section
variable (K:PySem.W.Frag) (C:Addr)
noncomputable def EM:Sp:=fun vs H Q _=>∃ (p sa:Addr) (pr:PG.Prog) (vals:List Int) (i:Nat) (hi:i < (PG.az pr.body).length) (sg:W) (l r:PM.Tr),vs=[.ref p,.ref sa]∧ChO K C H p pr∧Bl pr∧jm K H sa (PG.az pr.body)[i].row vals∧vals.length=pr.ax.length∧uZ (PG.az pr.body)[i]=some (sg,l,r)∧TrV pr.ax vals l∧TrV pr.ax vals r∧
 ∀ H',aC H H'→Q (.bl (yO sg (wv pr.ax vals l) (wv pr.ax vals r))) H'
end
end L2
namespace L2
open PySem
theorem u0:∀ (fl:List PG.dX) (vs:List V),vs.length=fl.length→fl.Pairwise (fun a b=>a.1 < b.1)→∀ i (hi:i < fl.length) v,vs[i]?=some v→de (List.zipWith (fun r v=>((Sum.inl r.1:Key),v)) fl vs) (.inl fl[i].1)=some v
 | [],_,_,_,i,hi,_,_=>by simp at hi
 | _ :: _,[],h,_,_,_,_,_=>by simp at h
 | s :: ss,v :: vs,h,hp,0,hi,u,hu=>by
   simp at hu
   subst hu
   rw [List.zipWith_cons_cons]
   exact cS rfl
 | s :: ss,v :: vs,h,hp,i + 1,hi,u,hu=>by
   rw [List.pairwise_cons] at hp
   have lt:=hp.1 (ss[i]'(by simpa using hi)) (List.getElem_mem _)
   rw [List.zipWith_cons_cons]
   show de _ (Sum.inl (ss[i]'(by simpa using hi)).1:Key)=_
   rw [cT (fun e=>by have e:=Sum.inl.inj e; lia)]
   exact u0 ss vs (by simpa using h) hp.2 i (by simpa using hi) u (by simpa using hu)
theorem sG (b:List PG.Stm) (i:Nat) (hi:i < (PG.az b).length):∃ hf:i < (PG.aN b 0).length,(PG.aN b 0)[i].1=(PG.az b)[i].row∧(PG.aN b 0)[i].2.1=(PG.az b)[i].wd:=by
 have e:((PG.aN b 0).map fun r=>(r.1,r.2.1))=(PG.az b).map fun x=>(x.row,x.wd):=by rw [PG.dE,PG.eU]
 have l:=congrArg List.length e
 rw [List.length_map,List.length_map] at l
 have hf:i < (PG.aN b 0).length:=by lia
 refine ⟨hf,?_⟩
 have h1:((PG.aN b 0).map fun r=>(r.1,r.2.1))[i]?=((PG.az b).map fun x=>(x.row,x.wd))[i]?:=by rw [e]
 rw [List.getElem?_map,List.getElem?_map,List.getElem?_eq_getElem hf,List.getElem?_eq_getElem hi] at h1
 have h1:=Option.some.inj h1
 exact ⟨congrArg Prod.fst h1,congrArg Prod.snd h1⟩
theorem Bm {b:List PG.Stm} (pw:(PG.az b).Pairwise fun a b=>a.row < b.row):(PG.aN b 0).Pairwise fun a b=>a.1 < b.1:=by
 have e:((PG.aN b 0).map fun r=>(r.1,r.2.1))=(PG.az b).map fun x=>(x.row,x.wd):=by rw [PG.dE,PG.eU]
 have h:((PG.az b).map fun x=>(x.row,x.wd)).Pairwise fun a b=>a.1 < b.1:=List.pairwise_map.mpr pw
 rw [← e,List.pairwise_map] at h
 exact h
theorem ChO.way {K:PySem.W.Frag} {C p:Addr} {H:Hp} {pr:PG.Prog} (c:ChO K C H p pr) (ok:Bl pr) (i:Nat) (hi:i < (PG.az pr.body).length) (hf:i < (PG.aN pr.body 0).length):∃ dx fs wy q,H p=some (.ins C dx fs)∧fs.lookup (Str.ofString "ways")=some (V.ref wy)∧qW H wy (.int (PG.az pr.body)[i].row) (some (.ref q))∧SqT K H q ((PG.aN pr.body 0)[i].2.2.map V.int):=by
 obtain ⟨dx,nl,sd,fa,va,st,wy,us,ws,h1,h2,h3,h4,h5,h6,h7,h8,h9,h10,h11,h12⟩:=c.at_
 obtain ⟨q,e,hq⟩:=h12 i hf
 obtain ⟨hf',e1,_⟩:=sG pr.body i hi
 have g:=u0 _ _ h10 (Bm ok.pw) i hf _ e
 rw [e1] at g
 exact ⟨dx,_,wy,q,h1,rfl,.inl ⟨_,.inl _,.inl h11,rfl,g.symm⟩,hq⟩
noncomputable def mJ (K:PySem.W.Frag) (H:Hp):Option (Int × List Int)→V→Prop
 | none,v=>v=.non
 | some x,v=>∃ a,v=.ref a∧jm K H a x.1 x.2
noncomputable def jn (bs:List PG.Box) (st:PG.Stm) (ws:List Int) (vals:List Int):Option (Int × List Int):=match uZ st with
 | none=>none
 | some (sg,l,r)=>if yO sg (wv bs vals l) (wv bs vals r) then some (ws.getD 0 0,vals) else if st.wd=.bZ then none else some (ws.getD 1 0,vals)
section
variable (K:PySem.W.Frag) (C:Addr)
noncomputable def Bn:Sp:=fun vs H Q _=>∃ (p sa:Addr) (pr:PG.Prog) (vals:List Int) (i:Nat) (hi:i < (PG.az pr.body).length) (hf:i < (PG.aN pr.body 0).length) (sg:W) (l r:PM.Tr),vs=[.ref p,.ref sa]∧ChO K C H p pr∧Bl pr∧jm K H sa (PG.az pr.body)[i].row vals∧vals.length=pr.ax.length∧uZ (PG.az pr.body)[i]=some (sg,l,r)∧TrV pr.ax vals l∧TrV pr.ax vals r∧
 0 < (PG.aN pr.body 0)[i].2.2.length∧((PG.az pr.body)[i].wd≠.bZ→1 < (PG.aN pr.body 0)[i].2.2.length)∧
 ∀ v H',aC H H'→mJ K H' (jn pr.ax (PG.az pr.body)[i] (PG.aN pr.body 0)[i].2.2 vals) v→Q v H'
end
end L2
namespace L2
open PySem PyProof.Rows
noncomputable def fB (bs:List PG.Box) (x:W):Nat:=(bs.map (·.name)).idxOf x
noncomputable def xt (bs:List PG.Box) (vals:List Int) (x:W) (v:Int):List Int:=vals.set (fB bs x) v
noncomputable def fU (bs:List PG.Box) (x:W):Int:=((bs[fB bs x]?).map (·.size)).getD 1
noncomputable def mF (bs:List PG.Box) (st:PG.Stm) (ws vals:List Int) (fig:Int):Option (Int × List Int) × Option Int:=match st with
 | .ask _ b=>(some (ws.getD 0 0,xt bs vals b (fig % fU bs b)),none)
 | .put _ b e=>(some (ws.getD 0 0,xt bs vals b (wv bs vals e % fU bs b)),none)
 | .say _ e=>(some (ws.getD 0 0,vals),some (wv bs vals e))
 | .stop _=>(some (ws.getD 0 0,vals),none)
 | st=>(jn bs st ws vals,none)
noncomputable def C0 (bs:List PG.Box) (vals:List Int):PG.Stm→Prop
 | .ask _ b=>b∈bs.map (·.name)
 | .put _ b e=>b∈bs.map (·.name)∧TrV bs vals e
 | .say _ e=>TrV bs vals e
 | .bZ _ _ l r=>TrV bs vals l∧TrV bs vals r
 | .ifs _ _ l r _ _=>TrV bs vals l∧TrV bs vals r
 | .whl _ _ l r _=>TrV bs vals l∧TrV bs vals r
 | .stop _=>True
noncomputable def xu:Option Int→V
 | none=>.non
 | some n=>.int n
theorem oC {bs:List PG.Box} {x:W} (h:x∈bs.map (·.name)):∃ hi:fB bs x < bs.length,bs[fB bs x].name=x:=by
 have l:fB bs x < (bs.map (·.name)).length:=List.idxOf_lt_length_iff.mpr h
 have e:(bs.map (·.name))[fB bs x]=x:=List.getElem_idxOf l
 rw [List.length_map] at l
 rw [List.getElem_map] at e
 exact ⟨l,e⟩
theorem yQ {bs:List PG.Box} {vs:List V} (l:vs.length=bs.length) (nb:(bs.map (·.name)).Nodup) {x:W} (h:x∈bs.map (·.name)) (v:V) (i:Nat) (hi:i < bs.length) :
   de (putK (dg bs vs) (.inr (S x)) v) (.inr (S bs[i].name))=(vs.set (fB bs x) v)[i]?:=by
 obtain ⟨hx,ex⟩:=oC h
 rw [BW]
 by_cases e:i=fB bs x
 · subst e
   rw [if_pos (by rw [ex]),List.getElem?_set_self (by lia)]
 · have ne:bs[i].name≠x:=fun z=>e (by
     have p1:=List.pairwise_iff_getElem.mp nb
     rw [← ex] at z
     rcases Nat.lt_trichotomy i (fB bs x) with lt | eq | gt
     · exact absurd (by rw [List.getElem_map,List.getElem_map]; exact z) (p1 i (fB bs x) (by simpa using hi) (by simpa using hx) lt)
     · exact eq
     · exact absurd (by rw [List.getElem_map,List.getElem_map]; exact z.symm) (p1 (fB bs x) i (by simpa using hx) (by simpa using hi) gt))
   rw [if_neg (fun z=>ne (sf.mp (Sum.inr.inj z))),List.getElem?_set_ne (fun z=>e z.symm)]
   have li:i < vs.length:=by lia
   rw [jl bs vs l nb i hi vs[i] (List.getElem?_eq_getElem li),List.getElem?_eq_getElem li]
theorem xv {bs:List PG.Box} (nb:(bs.map (·.name)).Nodup) {x:W} (h:x∈bs.map (·.name)):de (bs.map fun b=>((Sum.inr (S b.name):Key),V.int b.size)) (.inr (S x))=some (.int (fU bs x)):=by
 obtain ⟨hx,ex⟩:=oC h
 have e:(bs.map fun b=>((Sum.inr (S b.name):Key),V.int b.size))=dg bs (bs.map fun b=>V.int b.size):=by
   unfold dg
   rw [List.zipWith_map_right,List.zipWith_self]
 rw [e]
 have:=jl bs (bs.map fun b=>V.int b.size) (by simp) nb (fB bs x) hx (.int bs[fB bs x].size) (by rw [List.getElem?_map,List.getElem?_eq_getElem hx]; rfl)
 rw [ex] at this
 rw [this]
 unfold fU
 rw [List.getElem?_eq_getElem hx]
 rfl
section
variable (K:PySem.W.Frag) (C:Addr)
noncomputable def C1:Sp:=fun vs H Q _=>∃ (p sa:Addr) (fv:V) (pr:PG.Prog) (vals:List Int) (fig:Int) (i:Nat) (hi:i < (PG.az pr.body).length) (hf:i < (PG.aN pr.body 0).length),vs=[.ref p,.ref sa,fv]∧ChO K C H p pr∧Bl pr∧(∀ b∈pr.ax,0 < b.size)∧jm K H sa (PG.az pr.body)[i].row vals∧vals.length=pr.ax.length∧
 ((PG.az pr.body)[i].wd=.ask→fv=.int fig)∧C0 pr.ax vals (PG.az pr.body)[i]∧0 < (PG.aN pr.body 0)[i].2.2.length∧((PG.az pr.body)[i].wd=.ifs∨(PG.az pr.body)[i].wd=.whl→1 < (PG.aN pr.body 0)[i].2.2.length)∧
 ∀ q sv H',aC H H'→SqT K H' q [sv,xu (mF pr.ax (PG.az pr.body)[i] (PG.aN pr.body 0)[i].2.2 vals fig).2]→mJ K H' (mF pr.ax (PG.az pr.body)[i] (PG.aN pr.body 0)[i].2.2 vals fig).1 sv→Q (.ref q) H'
end
end L2
namespace L2
open PySem PySem.Spec PyProof.Rows
theorem u7 {K:PySem.W.Frag} {H:Hp}:∀ l:List Int,aM K H (l.map Dp.int) (l.map V.int)
 | []=>by rw [List.map_nil,List.map_nil,aM.cf]
 | x :: r=>by rw [List.map_cons,List.map_cons,aM.aP]; exact ⟨_,_,rfl,by rw [Rep.bG],u7 r⟩
noncomputable def Jy:PG.Stm→Prop
 | .bZ _ sg _ _=>sg∈PG.sgs
 | .ifs _ sg _ _ _ _=>sg∈PG.sgs
 | .whl _ sg _ _ _=>sg∈PG.sgs
 | _=>True
section
variable (K:PySem.W.Frag)
end
end L2
namespace L2
open PySem
theorem fI {H H':Hp} {b:Addr} (s:aC H H') (h:H' b=none):H b=none:=by
 cases z:H b with
 | none=>rfl
 | some o=>rw [s _ _ z] at h; cases h
theorem SqT.GA {K:PySem.W.Frag} {H H':Hp} {D a:Addr} {xs ys:List V} (h:SqT K H a xs) (hD:H D=some (.lst ys)) (u:cv D H H'):SqT K H' a xs:=by
 rcases h with (q | ⟨o,q⟩) | q
 · exact .inl (.inl (u _ _ (cQ q hD (by intro z; cases z)) q))
 · exact .inl (.inr ⟨o,u _ _ (cQ q hD (by intro z; cases z)) q⟩)
 · exact .inr q
theorem vG {bs:List PG.Box} {vals:List Int} (lv:vals.length=bs.length) (nb:(bs.map (·.name)).Nodup) (hv:∀ v∈vals,v.natAbs≤2 ^ 12):∀ e:PM.Tr,PG.iM bs e→TrK (dg bs (vals.map V.int)) e
 | .num n,h=>by rw [PG.iM] at h; rw [TrK]; lia
 | .box x,h=>by
   rw [PG.iM] at h
   rw [TrK]
   obtain ⟨hx,ex⟩:=oC h
   have li:fB bs x < vals.length:=by lia
   refine ⟨vals[fB bs x],?_,hv _ (List.getElem_mem li)⟩
   have:=jl bs (vals.map V.int) (by simpa using lv) nb (fB bs x) hx (.int vals[fB bs x]) (by rw [List.getElem?_map,List.getElem?_eq_getElem li]; rfl)
   rw [ex] at this
   exact this
 | .bin o l r,h=>by
   rw [PG.iM] at h
   rw [TrK]
   exact ⟨by simpa using h.1,vG lv nb hv l h.2.1,vG lv nb hv r h.2.2⟩
theorem GB {bs:List PG.Box} {vals:List Int} (lv:vals.length=bs.length) (nb:(bs.map (·.name)).Nodup) (hv:∀ v∈vals,v.natAbs≤2 ^ 12) {st:PG.Stm} (h:PG.OkS (·∈bs.map (·.name)) (fun e=>PG.iM bs e∧PG.trd e≤2) (·∈PG.sgs) st):C0 bs vals st∧Jy st:=by
 have k:∀ e,(PG.iM bs e∧PG.trd e≤2)→TrV bs vals e:=fun e h=>⟨vG lv nb hv e h.1,h.2⟩
 cases st <;> rw [PG.OkS] at h
 · exact ⟨h,trivial⟩
 · exact ⟨⟨h.1,k _ h.2⟩,trivial⟩
 · exact ⟨k _ h,trivial⟩
 · exact ⟨⟨k _ h.2.1,k _ h.2.2⟩,h.1⟩
 · exact ⟨trivial,trivial⟩
 · exact ⟨⟨k _ h.2.1,k _ h.2.2.1⟩,h.1⟩
 · exact ⟨⟨k _ h.2.1,k _ h.2.2.1⟩,h.1⟩
theorem mJ.keep {K:PySem.W.Frag} {H H':Hp} {o:Option (Int × List Int)} {v:V} (h:mJ K H o v) (s:aC H H'):mJ K H' o v:=by
 cases o with
 | none=>exact h
 | some x=>obtain ⟨a,e,sa⟩:=h; exact ⟨a,e,sa.mono s⟩
section
variable (K:PySem.W.Frag)
end
end L2
namespace L2
open PySem
section
variable {K:PySem.W.Frag} {H H':Hp} {p C dx a:Addr} {fs:List (Str × V)} {xs:List V}
theorem SqT.ins (h:SqT K H a xs) (hp:H p=some (.ins C dx fs)) (u:cv p H H'):SqT K H' a xs:=by
 rcases h with (q | ⟨o,q⟩) | q
 · exact .inl (.inl (u _ _ (cQ q hp (by intro z; cases z)) q))
 · exact .inl (.inr ⟨o,u _ _ (cQ q hp (by intro z; cases z)) q⟩)
 · exact .inr q
theorem SqL.ins (h:SqL K H a xs) (hp:H p=some (.ins C dx fs)) (u:cv p H H'):SqL K H' a xs:=by
 rcases h with (q | ⟨o,q⟩) | q
 · exact .inl (.inl (u _ _ (cQ q hp (by intro z; cases z)) q))
 · exact .inl (.inr ⟨o,u _ _ (cQ q hp (by intro z; cases z)) q⟩)
 · exact .inr q
theorem jm.ins {row:Int} {vals:List Int} (h:jm K H a row vals) (hp:H p=some (.ins C dx fs)) (u:cv p H H'):jm K H' a row vals:=let ⟨va,h1,h2⟩:=h; ⟨va,h1.ins hp u,h2.ins hp u⟩
theorem ChO.ins {CC ch:Addr} {pr:PG.Prog} (c:ChO K CC H ch pr) (hp:H p=some (.ins C dx fs)) (n:ch≠p) (u:cv p H H'):ChO K CC H' ch pr:=by
 obtain ⟨dx,nl,sd,fa,va,st,wy,us,ws,h1,h2,h3,h4,h5,h6,h7,h8,h9,h10,h11,h12⟩:=c.at_
 have k:∀ {b:Addr} {o:HO},H b=some o→(∀ C dx fs,o≠.ins C dx fs)→H' b=some o:=fun e no=>u _ _ (cQ e hp (no _ _ _)) e
 exact ⟨⟨dx,nl,sd,fa,va,st,wy,us,ws,u _ _ n h1,k h2 (by intro _ _ _ z; cases z),k h3 (by intro _ _ _ z; cases z),k h4 (by intro _ _ _ z; cases z),k h5 (by intro _ _ _ z; cases z),k h6 (by intro _ _ _ z; cases z),h7,k h8 (by intro _ _ _ z; cases z),jk hp (bC.one u rfl) _ _ h9,h10,k h11 (by intro _ _ _ z; cases z),fun i hi=>let ⟨q,e,r⟩:=h12 i hi; ⟨q,e,r.ins hp u⟩⟩⟩
end
theorem GC {tc:TT} {tb:TS} {D:Ends} {σ:St} {H:Hp} (h:∀ B:TS,(∀ D σ H,tb D σ H→B D σ H)→yj tc B D σ H):yj tc tb D σ H:=h tb fun _ _ _ x=>x
theorem fg {f:Str} {y:V}:∀ {fs:List (Str × V)} {n:Nat},fs.length≤n→(gf f y fs).length≤n + 1
 | [],n,h=>by simp [gf]
 | (g,x) :: r,n,h=>by
   unfold gf
   split
   · simp only [List.length_cons] at h ⊢
     lia
   · obtain ⟨m,rfl⟩:∃ m,n=m + 1:=⟨n - 1,by simp only [List.length_cons] at h; lia⟩
     have:=fg (f:=f) (y:=y) (fs:=r) (n:=m) (by simp only [List.length_cons] at h; lia)
     simp only [List.length_cons]
     lia
noncomputable def C3:PG.ck→List V
 | .on=>[.str "on"]
 | .out=>[.str "out"]
 | .bZ r=>[.str "must",.int r]
 | .fin=>[.str "end"]
noncomputable def q0 (K:PySem.W.Frag) (H:Hp):Option PG.ck→V→Prop
 | none,v=>v=.non
 | some e,v=>∃ a,v=.ref a∧SqT K H a (C3 e)
theorem q0.mono {K:PySem.W.Frag} {H H':Hp} {e:Option PG.ck} {v:V} (h:q0 K H e v) (s:aC H H'):q0 K H' e v:=by
 cases e with
 | none=>exact h
 | some x=>obtain ⟨a,e,q⟩:=h; exact ⟨a,e,s.c9 q⟩
theorem q0.ins {K:PySem.W.Frag} {H H':Hp} {p C dx:Addr} {fs:List (Str × V)} {e:Option PG.ck} {v:V} (h:q0 K H e v) (hp:H p=some (.ins C dx fs)) (u:cv p H H'):q0 K H' e v:=by
 cases e with
 | none=>exact h
 | some x=>obtain ⟨a,e,q⟩:=h; exact ⟨a,e,q.ins hp u⟩
noncomputable def wkF (ch fl:Addr) (n:Nat) (sa:Addr) (ev:V):List (Str × V):=[("chart",.ref ch),("figures",.ref fl),("taken",.int n),("standing",.ref sa),("end",ev)]
structure WkO (K:PySem.W.Frag) (CC CW:Addr) (H:Hp) (wk ch fl:Addr) (pr:PG.Prog) (aJ:List Int) (n:Nat) (row:Int) (vals:List Int) (e:Option PG.ck):Prop where
 at_:∃ (dx sa:Addr) (ev:V),H wk=some (.ins CW dx (wkF ch fl n sa ev))∧jm K H sa row vals∧q0 K H e ev
 ch_:ChO K CC H ch pr
 fl_:SqL K H fl (aJ.map V.int)
 ne_:ch≠wk
theorem WkO.mono {K:PySem.W.Frag} {CC CW:Addr} {H H':Hp} {wk ch fl:Addr} {pr:PG.Prog} {aJ:List Int} {n:Nat} {row:Int} {vals:List Int} {e:Option PG.ck} (h:WkO K CC CW H wk ch fl pr aJ n row vals e) (s:aC H H'):WkO K CC CW H' wk ch fl pr aJ n row vals e:=
 let ⟨dx,sa,ev,h1,h2,h3⟩:=h.at_
 ⟨⟨dx,sa,ev,s _ _ h1,h2.mono s,h3.mono s⟩,h.ch_.mono s,s.seq h.fl_,h.ne_⟩
theorem WkO.put {K:PySem.W.Frag} {CC CW:Addr} {H:Hp} {wk ch fl dx sa sa':Addr} {pr:PG.Prog} {aJ:List Int} {n n':Nat} {row C4:Int} {vals xw:List Int} {e e':Option PG.ck} {ev ev':V} (h:WkO K CC CW H wk ch fl pr aJ n row vals e) (hw:H wk=some (.ins CW dx (wkF ch fl n sa ev)))
   (hs:jm K H sa' C4 xw) (he:q0 K H e' ev'):WkO K CC CW (upd H wk (.ins CW dx (wkF ch fl n' sa' ev'))) wk ch fl pr aJ n' C4 xw e':=by
 have u:cv wk H (upd H wk (.ins CW dx (wkF ch fl n' sa' ev'))):=(cv.refl _ _).put _
 exact ⟨⟨dx,sa',ev',ar,hs.ins hw u,he.ins hw u⟩,h.ch_.ins hw h.ne_ u,h.fl_.ins hw u,h.ne_⟩
theorem WkO.lst {K:PySem.W.Frag} {CC CW:Addr} {H H':Hp} {wk ch fl rl:Addr} {pr:PG.Prog} {aJ:List Int} {n:Nat} {row:Int} {vals:List Int} {e:Option PG.ck} {xs:List V} (h:WkO K CC CW H wk ch fl pr aJ n row vals e) (hr:H rl=some (.lst xs)) (u:cv rl H H') (c:ChO K CC H' ch pr) (f:SqL K H' fl (aJ.map V.int)):WkO K CC CW H' wk ch fl pr aJ n row vals e:=by
 obtain ⟨dx,sa,ev,h1,⟨va,h2,h3⟩,h4⟩:=h.at_
 refine ⟨⟨dx,sa,ev,u _ _ (cQ h1 hr (by intro z; cases z)) h1,⟨va,h2.GA hr u,h3.GA hr u⟩,?_⟩,c,f,h.ne_⟩
 cases e with
 | none=>exact h4
 | some x=>obtain ⟨a,e,q⟩:=h4; exact ⟨a,e,q.GA hr u⟩
noncomputable def C5 (b:List PG.Stm) (row:Int):PG.Stm:=((PG.az b)[PG.EC b row]?).getD (.stop 0)
noncomputable def EN (b:List PG.Stm) (row:Int):List Int:=(((PG.aN b 0)[PG.EC b row]?).map (·.2.2)).getD []
noncomputable def nG (b:List PG.Stm) (row:Int):Bool:=decide ((C5 b row).wd=.ask)
noncomputable def bJ (pr:PG.Prog) (row:Int) (vals:List Int) (f:Int):Option (Int × List Int) × Option Int:=mF pr.ax (C5 pr.body row) (EN pr.body row) vals f
theorem Ao {b:List PG.Stm} (pw:(PG.az b).Pairwise (fun a b=>a.row < b.row)) (i:Nat) (hi:i < (PG.az b).length):C5 b (PG.az b)[i].row=(PG.az b)[i]:=by
 unfold C5
 rw [PG.Aj pw i hi,List.getElem?_eq_getElem hi]
 rfl
theorem EO {b:List PG.Stm} (pw:(PG.az b).Pairwise (fun a b=>a.row < b.row)) (i:Nat) (hi:i < (PG.az b).length) (hf:i < (PG.aN b 0).length):EN b (PG.az b)[i].row=(PG.aN b 0)[i].2.2:=by
 unfold EN
 rw [PG.Aj pw i hi,List.getElem?_eq_getElem hf]
 rfl
theorem yT (pr:PG.Prog) (row:Int) (vals:List Int) (f:Int) (h:(bJ pr row vals f).1=none):(bJ pr row vals f).2=none:=by
 unfold bJ at h ⊢
 generalize C5 pr.body row=st at *
 generalize EN pr.body row=ws at *
 have no:∀ y:Int × List Int,¬ (some y=none):=fun y e=>by cases e
 cases st
 · exact absurd h (no _)
 · exact absurd h (no _)
 · exact absurd h (no _)
 · rfl
 · rfl
 · rfl
 · rfl
structure sJ (pr:PG.Prog) (row:Int) (vals:List Int):Prop where
 row:row=0∨∃ i,∃ hi:i < (PG.az pr.body).length,(PG.az pr.body)[i].row=row
 len:vals.length=pr.ax.length
 small:∀ v∈vals,v.natAbs≤2 ^ 12
structure mx (pr:PG.Prog):Prop where
 ok:Bl pr
 dep:PG.qY pr.body≤3
 few:(PG.eJ pr.body).length≤1000
 own:PG.OkB (·∈pr.ax.map (·.name)) (fun e=>PG.iM pr.ax e∧PG.trd e≤2) (·∈PG.sgs) pr.body
 size:∀ b∈pr.ax,2≤b.size∧b.size≤10∧0≤b.first∧b.first < b.size
theorem Ap {pr:PG.Prog} {w:Int} (h:w=0∨w=0∨∃ t∈PG.az pr.body,t.row=w):w=0∨∃ i,∃ hi:i < (PG.az pr.body).length,(PG.az pr.body)[i].row=w:=by
 rcases h with h | h | ⟨t,ht,e⟩
 · exact .inl h
 · exact .inl h
 · obtain ⟨i,hi,e2⟩:=List.mem_iff_getElem.mp ht
   exact .inr ⟨i,hi,by rw [e2]; exact e⟩
theorem mx.first {pr:PG.Prog} (d:mx pr):sJ pr (PG.aT pr.body 0) (pr.ax.map (·.first)):=by
 refine ⟨Ap (.inr ?_),by simp,fun v hv=>?_⟩
 · rcases PG.kP pr.body 0 with e | e
   · exact .inl e
   · exact .inr e
 · obtain ⟨b,hb,rfl⟩:=List.mem_map.mp hv
   have:=d.size b hb
   lia
theorem C6 {pr:PG.Prog} (d:mx pr) {x:W} (h:x∈pr.ax.map (·.name)):2≤fU pr.ax x∧fU pr.ax x≤10:=by
 obtain ⟨hx,_⟩:=oC h
 unfold fU
 rw [List.getElem?_eq_getElem hx]
 have:=d.size _ (List.getElem_mem hx)
 exact ⟨this.1,this.2.1⟩
theorem sJ.step {pr:PG.Prog} (d:mx pr) {i:Nat} (hi:i < (PG.az pr.body).length) (hf:i < (PG.aN pr.body 0).length) {vals:List Int} {f:Int} (lv:vals.length=pr.ax.length) (sm:∀ v∈vals,v.natAbs≤2 ^ 12) {x:Int × List Int} {s:Option Int}
   (h:mF pr.ax (PG.az pr.body)[i] (PG.aN pr.body 0)[i].2.2 vals f=(some x,s)):sJ pr x.1 x.2:=by
 have C7:=PG.mf pr.body _ d.own (List.getElem_mem hi)
 obtain ⟨w0,w1⟩:=PG.g8 pr.body 0 _ (List.getElem_mem hf)
 have win:=PG.kQ pr.body 0 _ (List.getElem_mem hf)
 obtain ⟨_,_,ew⟩:=sG pr.body i hi
 rw [ew] at w1
 generalize (PG.aN pr.body 0)[i].2.2=ws at *
 generalize (PG.az pr.body)[i]=st at *
 have r0:∀ j,j < ws.length→ws.getD j 0=0∨∃ i,∃ hi:i < (PG.az pr.body).length,(PG.az pr.body)[i].row=ws.getD j 0:=fun j hj=>by
   rw [List.getD_eq_getElem?_getD,List.getElem?_eq_getElem hj]
   exact Ap (win _ (List.getElem_mem hj))
 have set:∀ (b:W) (z:Int),b∈pr.ax.map (·.name)→(xt pr.ax vals b (z % fU pr.ax b)).length=pr.ax.length∧∀ v∈xt pr.ax vals b (z % fU pr.ax b),v.natAbs≤2 ^ 12:=fun b z hb=>by
   unfold xt
   refine ⟨by rw [List.length_set]; exact lv,fun v hv=>?_⟩
   rcases List.mem_or_eq_of_mem_set hv with hv | rfl
   · exact sm v hv
   · have:=C6 d hb
     have m1:=Int.emod_nonneg z (b:=fU pr.ax b) (by lia)
     have m2:=Int.emod_lt_of_pos z (b:=fU pr.ax b) (by lia)
     lia
 have cs:jn pr.ax st ws vals=some x→(st.wd=.bZ∨st.wd=.ifs∨st.wd=.whl)→sJ pr x.1 x.2:=by
   intro e hw
   unfold jn at e
   split at e
   · cases e
   · split at e
     · cases e; exact ⟨r0 0 w0,lv,sm⟩
     · split at e
       · cases e
       · rename_i nm
         cases e; exact ⟨r0 1 (w1 (hw.resolve_left nm)),lv,sm⟩
 have st1:∀ (y:Int × List Int) (s':Option Int),(some y,s')=(some x,s)→sJ pr y.1 y.2→sJ pr x.1 x.2:=fun y s' e h=>by cases e; exact h
 cases st <;> rw [PG.OkS] at C7
 · exact st1 _ _ h ⟨r0 0 w0,(set _ _ C7).1,(set _ _ C7).2⟩
 · exact st1 _ _ h ⟨r0 0 w0,(set _ _ C7.1).1,(set _ _ C7.1).2⟩
 · exact st1 _ _ h ⟨r0 0 w0,lv,sm⟩
 · exact cs (congrArg Prod.fst h) (.inl rfl)
 · exact st1 _ _ h ⟨r0 0 w0,lv,sm⟩
 · exact cs (congrArg Prod.fst h) (.inr (.inl rfl))
 · exact cs (congrArg Prod.fst h) (.inr (.inr rfl))
noncomputable abbrev goR (pr:PG.Prog):=PG.go1 (nG pr.body) (bJ pr)
noncomputable abbrev di (pr:PG.Prog):=PG.ran (nG pr.body) (bJ pr)
theorem C8 {pr:PG.Prog} {row f:Int} {vals left r:List Int} {s:Option Int} (ht:PG.take1 (nG pr.body row) left=some (f,r)) (hs:bJ pr row vals f=(none,s)):goR pr row vals left=(s,r,row,vals,some (.bZ row)):=by
 show PG.go1 _ _ _ _ _=_
 unfold PG.go1
 rw [ht]
 simp only [hs]
theorem C9 {pr:PG.Prog} {row f:Int} {vals left r:List Int} {s:Option Int} {x:Int × List Int} (ht:PG.take1 (nG pr.body row) left=some (f,r)) (hs:bJ pr row vals f=(some x,s)):goR pr row vals left=(s,r,x.1,x.2,PG.endAt x.1):=by
 show PG.go1 _ _ _ _ _=_
 unfold PG.go1
 rw [ht]
 simp only [hs]
theorem ER {pr:PG.Prog} {row:Int} {vals left:List Int} (ht:PG.take1 (nG pr.body row) left=none):goR pr row vals left=(none,left,row,vals,some .out):=by
 show PG.go1 _ _ _ _ _=_
 unfold PG.go1
 rw [ht]
noncomputable def yU (pr:PG.Prog) (aJ:List Int) (tot:PG.Ran) (m n:Nat) (row:Int) (vals r s:List Int):Option PG.ck→Prop
 | none=>row≠0∧sJ pr row vals∧tot=⟨r ++ (di pr m row vals (aJ.drop n)).rows,s ++ (di pr m row vals (aJ.drop n)).said,(di pr m row vals (aJ.drop n)).fin⟩
 | some e=>tot=⟨r,s,e⟩
theorem yU.start {pr:PG.Prog} (d:mx pr) (aJ:List Int) (bound:Nat):yU pr aJ (di pr bound (PG.aT pr.body 0) (pr.ax.map (·.first)) aJ) bound 0 (PG.aT pr.body 0) (pr.ax.map (·.first)) [] [] (PG.endAt (PG.aT pr.body 0)):=by
 unfold PG.endAt
 by_cases h:PG.aT pr.body 0=0
 · rw [if_pos h]
   show di pr bound _ _ aJ=_
   rw [h]
   exact PG.si _ _ _ _ _
 · rw [if_neg h]
   exact ⟨h,d.first,by simp⟩
theorem yU.go {pr:PG.Prog} {aJ:List Int} {tot:PG.Ran} {m n n':Nat} {row:Int} {vals r s:List Int} (h:yU pr aJ tot (m + 1) n row vals r s none) (hd:aJ.drop n'=(goR pr row vals (aJ.drop n)).2.1) (ok:sJ pr (goR pr row vals (aJ.drop n)).2.2.1 (goR pr row vals (aJ.drop n)).2.2.2.1) :
   yU pr aJ tot m n' (goR pr row vals (aJ.drop n)).2.2.1 (goR pr row vals (aJ.drop n)).2.2.2.1 (r ++ [row]) (s ++ (goR pr row vals (aJ.drop n)).1.toList) (goR pr row vals (aJ.drop n)).2.2.2.2:=by
 obtain ⟨h0,_,e⟩:=h
 simp only [goR,di] at *
 rw [PG.Gv _ _ (yT pr) h0] at e
 have ne:=fun z=>PG.Gw (nG pr.body) (bJ pr) (row:=row) (vals:=vals) (left:=aJ.drop n) z
 generalize PG.go1 (nG pr.body) (bJ pr) row vals (aJ.drop n)=g at *
 obtain ⟨g1,g2,g3,g4,g5⟩:=g
 cases g5 with
 | none=>
   refine ⟨ne rfl,ok,?_⟩
   simp only at e hd
   rw [e,hd]
   simp
 | some x=>
   show tot=_
   rw [e]
section
variable (K:PySem.W.Frag) (CC CW:Addr)
noncomputable def Dc:Sp:=fun vs H Q _=>∃ (wk dx ch fl:Addr) (pr:PG.Prog) (aJ:List Int),vs=[.ref wk,.ref ch,.ref fl]∧H wk=some (.ins CW dx [])∧ChO K CC H ch pr∧SqL K H fl (aJ.map V.int)∧
 ∀ H',cv wk H H'→WkO K CC CW H' wk ch fl pr aJ 0 (PG.aT pr.body 0) (pr.ax.map (·.first)) (PG.endAt (PG.aT pr.body 0))→Q .non H'
noncomputable def Dd:Sp:=fun vs H Q _=>∃ (wk ch fl:Addr) (pr:PG.Prog) (aJ:List Int) (n:Nat) (row:Int) (vals:List Int),vs=[.ref wk]∧WkO K CC CW H wk ch fl pr aJ n row vals none∧
 ∀ H',cv wk H H'→WkO K CC CW H' wk ch fl pr aJ n row vals (PG.endAt row)→Q .non H'
noncomputable def ES:Sp:=fun vs H Q _=>∃ (wk ch fl:Addr) (pr:PG.Prog) (aJ:List Int) (n:Nat) (vals:List Int) (e:Option PG.ck) (i:Nat) (hi:i < (PG.az pr.body).length),vs=[.ref wk]∧Bl pr∧WkO K CC CW H wk ch fl pr aJ n (PG.az pr.body)[i].row vals e∧
 Q (.bl (decide ((PG.az pr.body)[i].wd=.ask))) H
noncomputable def GD:Sp:=fun vs H Q _=>∃ (wk ch fl:Addr) (pr:PG.Prog) (aJ:List Int) (n:Nat) (row:Int) (vals:List Int),vs=[.ref wk]∧mx pr∧WkO K CC CW H wk ch fl pr aJ n row vals none∧row≠0∧sJ pr row vals∧n≤aJ.length∧aJ.length≤1000∧
 ∀ H' n',cv wk H H'→n'≤aJ.length→aJ.drop n'=(goR pr row vals (aJ.drop n)).2.1→WkO K CC CW H' wk ch fl pr aJ n' (goR pr row vals (aJ.drop n)).2.2.1 (goR pr row vals (aJ.drop n)).2.2.2.1 (goR pr row vals (aJ.drop n)).2.2.2.2→
   sJ pr (goR pr row vals (aJ.drop n)).2.2.1 (goR pr row vals (aJ.drop n)).2.2.2.1→Q (xu (goR pr row vals (aJ.drop n)).1) H'
noncomputable def Ib (H:Hp) (q:Addr) (o:PG.Ran):Prop:=∃ (r s e:Addr),SqT K H q [.ref r,.ref s,.ref e]∧H r=some (.lst (o.rows.map V.int))∧H s=some (.lst (o.said.map V.int))∧r≠s∧SqT K H e (C3 o.fin)
noncomputable def Ic:Sp:=fun vs H Q _=>∃ (v:V) (fl:Addr) (pr:PG.Prog) (aJ:List Int) (bound:Nat),vs=[v,.ref fl,.int bound]∧mx pr∧Rep K H (fE pr) v∧SqL K H fl (aJ.map V.int)∧aJ.length≤1000∧bound≤20000∧
 ∀ q r s e H',aC H H'→SqT K H' q [.ref r,.ref s,.ref e]→H r=none→H s=none→r≠s→H' r=some (.lst ((di pr bound (PG.aT pr.body 0) (pr.ax.map (·.first)) aJ).rows.map V.int))→H' s=some (.lst ((di pr bound (PG.aT pr.body 0) (pr.ax.map (·.first)) aJ).said.map V.int))→
   SqT K H' e (C3 (di pr bound (PG.aT pr.body 0) (pr.ax.map (·.first)) aJ).fin)→Q (.ref q) H'
end
noncomputable def kT:PG.ck→List Dp
 | .on=>[.str "on"]
 | .out=>[.str "out"]
 | .bZ r=>[.str "must",.int r]
 | .fin=>[.str "end"]
noncomputable def xx (o:PG.Ran):Dp:=.tup [.lst (o.rows.map Dp.int),.lst (o.said.map Dp.int),.tup (kT o.fin)]
theorem sL {K:PySem.W.Frag} {H:Hp} (e:PG.ck):aM K H (kT e) (C3 e):=by
 cases e
 · exact .cons (Rep.bV.mpr rfl) .nil
 · exact .cons (Rep.bV.mpr rfl) .nil
 · exact .cons (Rep.bV.mpr rfl) (.cons (Rep.bG.mpr rfl) .nil)
 · exact .cons (Rep.bV.mpr rfl) .nil
theorem fV {K:PySem.W.Frag} {H:Hp} {r:Addr} {l:List Int} (h:SqL K H r (l.map V.int)):Rep K H (.lst (l.map Dp.int)) (.ref r):=Rep.bU.mpr ⟨r,_,rfl,h,u7 l⟩
theorem rK {K:PySem.W.Frag} {H:Hp} {q:Addr} {o:PG.Ran} (h:Ib K H q o):Rep K H (xx o) (.ref q):=by
 obtain ⟨r,s,e,h1,h2,h3,_,h5⟩:=h
 unfold xx
 exact Rep.a8.mpr ⟨q,_,rfl,h1,.cons (fV (.of h2)) (.cons (fV (.of h3)) (.cons (Rep.a8.mpr ⟨e,_,rfl,h5,sL _⟩) .nil))⟩
theorem Aq (e:PG.ck):PyData.canLayAll0 (Dp.pys (kT e))=true∧PyData.depthAll (Dp.pys (kT e))=0:=by
 cases e <;> simp only [kT,Dp.pys,Dp.py,PyData.canLayAll0,PyData.canLay0,PyData.depthAll,PyData.depth] <;> exact ⟨by decide +kernel,rfl⟩
theorem iN (o:PG.Ran):SeqAt.shaped (xx o).py=true:=by
 obtain ⟨h1,h2⟩:=rJ o.rows
 obtain ⟨h3,h4⟩:=rJ o.said
 obtain ⟨h5,h6⟩:=Aq o.fin
 unfold SeqAt.shaped xx
 simp only [Dp.py,Dp.pys,PyData.canLay0,PyData.canLayAll0,PyData.depth,PyData.depthAll,h1,h2,h3,h4,h5,h6,Bool.and_true,Bool.true_and,decide_eq_true_iff]
 lia
theorem oE (l:List Int):SeqAt.shaped (Dp.lst (l.map Dp.int)).py=true:=by
 obtain ⟨h1,h2⟩:=rJ l
 unfold SeqAt.shaped
 simp only [Dp.py,Dp.pys,PyData.canLay0,PyData.canLayAll0,PyData.depth,PyData.depthAll,h1,h2,Bool.and_true,Bool.true_and,decide_eq_true_iff]
 lia
theorem xy (e:PG.ck):SeqAt.shaped (Dp.tup (kT e)).py=true:=by
 obtain ⟨h1,h2⟩:=Aq e
 unfold SeqAt.shaped
 simp only [Dp.py,PyData.canLay0,PyData.depth,h1,h2,Bool.and_true,Bool.true_and,decide_eq_true_iff]
 lia
end L2
namespace L2
open PySem PyProof.Rows
inductive Path (pr:PG.Prog):Int→List Int→List Int→List Int→List Int→Int→List Int→List Int→Prop
 | nil {row:Int} {vals left:List Int}:Path pr row vals left [] [] row vals left
 | cons {row f:Int} {vals left r rs ss:List Int} {x:Int × List Int} {s:Option Int} {C4:Int} {xw Fy:List Int} (h0:row≠0) (ht:PG.take1 (nG pr.body row) left=some (f,r)) (hs:bJ pr row vals f=(some x,s))
     (h:Path pr x.1 x.2 r rs ss C4 xw Fy):Path pr row vals left (row :: rs) (s.toList ++ ss) C4 xw Fy
section
variable {pr:PG.Prog} {a a' a'':Int} {b c b' c' b'' c'' rs rs' ss ss':List Int}
theorem Path.app (h:Path pr a b c rs ss a' b' c') (g:Path pr a' b' c' rs' ss' a'' b'' c''):Path pr a b c (rs ++ rs') (ss ++ ss') a'' b'' c'':=by
 induction h with
 | nil=>exact g
 | cons h0 ht hs _ ih=>rw [List.cons_append,List.append_assoc]; exact .cons h0 ht hs (ih g)
theorem vb {row f:Int} {vals left r:List Int} {x:Int × List Int} {s:Option Int} (h0:row≠0) (ht:PG.take1 (nG pr.body row) left=some (f,r)) (hs:bJ pr row vals f=(some x,s)) (m:Nat) :
   di pr (m + 1) row vals left=⟨row :: (di pr m x.1 x.2 r).rows,s.toList ++ (di pr m x.1 x.2 r).said,(di pr m x.1 x.2 r).fin⟩:=by
 show PG.ran _ _ (m + 1) _ _ _=_
 rw [PG.ran,if_neg h0]
 simp only [ht,hs]
theorem De {row:Int} {vals left:List Int} (h0:row≠0) (ht:PG.take1 (nG pr.body row) left=none) (m:Nat):di pr (m + 1) row vals left=⟨[row],[],.out⟩:=by
 show PG.ran _ _ (m + 1) _ _ _=_
 rw [PG.ran,if_neg h0]
 simp only [ht]
theorem Bo {row f:Int} {vals left r:List Int} {s:Option Int} (h0:row≠0) (ht:PG.take1 (nG pr.body row) left=some (f,r)) (hs:bJ pr row vals f=(none,s)) (m:Nat):di pr (m + 1) row vals left=⟨[row],[],.bZ row⟩:=by
 show PG.ran _ _ (m + 1) _ _ _=_
 rw [PG.ran,if_neg h0]
 simp only [ht,hs]
theorem Path.ran (h:Path pr a b c rs ss a' b' c') (m:Nat):di pr (rs.length + m) a b c=⟨rs ++ (di pr m a' b' c').rows,ss ++ (di pr m a' b' c').said,(di pr m a' b' c').fin⟩:=by
 induction h with
 | nil=>simp
 | cons h0 ht hs _ ih=>
   rw [List.length_cons,show ∀ n:Nat,n + 1 + m=(n + m) + 1 from fun n=>by lia,vb h0 ht hs,ih]
   simp
theorem Path.cut (h:Path pr a b c rs ss a' b' c'):∀ m,m < rs.length→(di pr m a b c).rows=rs.take m∧(di pr m a b c).said <+: ss∧(di pr m a b c).fin=.on:=by
 induction h with
 | nil=>intro m hm; simp at hm
 | cons h0 ht hs _ ih=>
   intro m hm
   cases m with
   | zero=>
     rw [show ∀ row vals left,di pr 0 row vals left=PG.ran (nG pr.body) (bJ pr) 0 row vals left from fun _ _ _=>rfl,PG.vE _ _ h0]
     exact ⟨rfl,List.nil_prefix,rfl⟩
   | succ m=>
     obtain ⟨h1,h2,h3⟩:=ih m (by simp at hm; lia)
     rw [vb h0 ht hs]
     exact ⟨by rw [List.take_succ_cons,h1],(List.prefix_append_right_inj _).mpr h2,h3⟩
end
structure Known (pr:PG.Prog) (aJ rows said:List Int) (e:Option PG.ck):Prop where
 dr:mx pr
 fl:aJ.length≤100
 rl:0 < rows.length∧rows.length≤10000
 sl:said.length≤10000
 cut:∀ m,m < rows.length→(di pr m (PG.aT pr.body 0) (pr.ax.map (·.first)) aJ).rows=rows.take m∧(di pr m (PG.aT pr.body 0) (pr.ax.map (·.first)) aJ).said <+: said∧(di pr m (PG.aT pr.body 0) (pr.ax.map (·.first)) aJ).fin=.on
 whole:∀ x,e=some x→∀ m,rows.length≤m→di pr m (PG.aT pr.body 0) (pr.ax.map (·.first)) aJ=⟨rows,said,x⟩
theorem Known.yV {pr:PG.Prog} {aJ rows said:List Int} {b' c':List Int} (dr:mx pr) (fl:aJ.length≤100) (rl:0 < rows.length∧rows.length≤10000) (sl:said.length≤10000) (h:Path pr (PG.aT pr.body 0) (pr.ax.map (·.first)) aJ rows said 0 b' c'):Known pr aJ rows said (some .fin):=by
 refine ⟨dr,fl,rl,sl,h.cut,fun x hx m hm=>?_⟩
 cases hx
 obtain ⟨k,rfl⟩:∃ k,m=rows.length + k:=⟨m - rows.length,by lia⟩
 rw [h.ran k,show di pr k 0 b' c'=⟨[],[],.fin⟩ from PG.si _ _ _ _ _]
 simp
theorem Known.Fz {pr:PG.Prog} {aJ rows said:List Int} {a':Int} {b' c':List Int} (dr:mx pr) (fl:aJ.length≤100) (rl:0 < rows.length∧rows.length≤10000) (sl:said.length≤10000) (h:Path pr (PG.aT pr.body 0) (pr.ax.map (·.first)) aJ rows said a' b' c'):Known pr aJ rows said none:=
 ⟨dr,fl,rl,sl,h.cut,fun x hx=>by cases hx⟩
theorem Known.Ar {pr:PG.Prog} {aJ rows said:List Int} {a':Int} {b' c':List Int} {x:PG.ck} (dr:mx pr) (fl:aJ.length≤100) (rl:rows.length < 10000) (sl:said.length≤10000) (h:Path pr (PG.aT pr.body 0) (pr.ax.map (·.first)) aJ rows said a' b' c') (h0:a'≠0)
   (e:∀ m,di pr (m + 1) a' b' c'=⟨[a'],[],x⟩):Known pr aJ (rows ++ [a']) said (some x):=by
 refine ⟨dr,fl,by simp; lia,sl,fun m hm=>?_,fun y hy m hm=>?_⟩
 · rw [List.length_append,List.length_singleton] at hm
   by_cases l:m < rows.length
   · rw [List.take_append_of_le_length (by lia)]
     exact h.cut m l
   · have em:m=rows.length + 0:=by lia
     rw [em,h.ran 0,show di pr 0 a' b' c'=⟨[],[],.on⟩ from PG.vE _ _ h0 _ _]
     simp
 · cases hy
   rw [List.length_append,List.length_singleton] at hm
   obtain ⟨k,rfl⟩:∃ k,m=rows.length + (k + 1):=⟨m - rows.length - 1,by lia⟩
   rw [h.ran (k + 1),e k]
   simp
end L2
namespace L2
open PySem
section
variable {s f m v g:Int} {l:List Int}
noncomputable def prC (size first most:Int):PG.Prog:=⟨[⟨[110],size,first⟩],[.whl 2 [60] (.box [110]) (.num most) [.say 3 (.box [110]),.put 4 [110] (.bin [43] (.box [110]) (.num 1))],.say 6 (.num 7)]⟩
theorem C2:bJ (prC s f m) 2 [v] g=(if decide (v < m)=true then some (3,[v]) else some (6,[v]),none):=rfl
theorem GF (h:v < m):Path (prC s f m) 2 [v] l [2,3,4] [v] 2 [(v + 1) % s] l:=
 .cons (f:=0) (s:=none) (by simp) rfl (C2.trans (by rw [if_pos (decide_eq_true h)])) (.cons (f:=0) (s:=some v) (by simp) rfl (show bJ (prC s f m) 3 [v] 0=(some (4,[v]),some v) from rfl) (.cons (f:=0) (s:=none) (by simp) rfl (show bJ (prC s f m) 4 [v] 0=(some (2,[(v + 1) % s]),none) from rfl) .nil))
theorem Ie (h:¬ v < m):Path (prC s f m) 2 [v] l [2,6] [7] 0 [v] l:=
 .cons (f:=0) (s:=none) (by simp) rfl (C2.trans (by rw [if_neg (by simpa using h)])) (.cons (f:=0) (s:=some 7) (by simp) rfl (show bJ (prC s f m) 6 [v] 0=(some (0,[v]),some 7) from rfl) .nil)
theorem Ig (h1:2≤s) (h2:s≤10) (h3:0≤f) (h4:f < s) (h5:0≤m) (h6:m < 1000):mx (prC s f m):=by
 refine ⟨⟨?_,?_,Nat.le_of_ble_eq_true rfl,?_⟩,Nat.le_of_ble_eq_true rfl,Nat.le_of_ble_eq_true rfl,?_,?_⟩
 · simp [prC,PG.az,PG.fe,PG.Stm.row]
 · simp [prC]
 · simp [prC,PG.az,PG.fe,PG.Stm.row]
 · simp [prC,PG.OkB,PG.OkS,PG.iM,PG.trd,PG.sgs,h5,h6]
 · simp [prC,h1,h2,h3,h4]
end
section
variable {s n a u m g:Int} {l:List Int}
noncomputable def prA (size many:Int):PG.Prog:=⟨[⟨[97],10,0⟩,⟨[115,117,109],size,1⟩,⟨[110],10,0⟩],[.whl 4 [60] (.box [110]) (.num many) [.ask 5 [97],.put 6 [115,117,109] (.bin [43] (.box [115,117,109]) (.box [97])),.say 7 (.box [115,117,109]),.put 8 [110] (.bin [43] (.box [110]) (.num 1))]]⟩
theorem A4:bJ (prA s m) 4 [a,u,n] g=(if decide (n < m)=true then some (5,[a,u,n]) else some (0,[a,u,n]),none):=rfl
theorem GG (h:n < m):Path (prA s m) 4 [a,u,n] (g :: l) [4,5,6,7,8] [(u + g % 10) % s] 4 [g % 10,(u + g % 10) % s,(n + 1) % 10] l:=
 .cons (f:=0) (s:=none) (by simp) rfl (A4.trans (by rw [if_pos (decide_eq_true h)])) (.cons (f:=g) (s:=none) (by simp) rfl (show bJ (prA s m) 5 [a,u,n] g=(some (6,[g % 10,u,n]),none) from rfl)
   (.cons (f:=0) (s:=none) (by simp) rfl (show bJ (prA s m) 6 [g % 10,u,n] 0=(some (7,[g % 10,(u + g % 10) % s,n]),none) from rfl) (.cons (f:=0) (s:=some ((u + g % 10) % s)) (by simp) rfl (show bJ (prA s m) 7 [g % 10,(u + g % 10) % s,n] 0=(some (8,[g % 10,(u + g % 10) % s,n]),some ((u + g % 10) % s)) from rfl)
     (.cons (f:=0) (s:=none) (by simp) rfl (show bJ (prA s m) 8 [g % 10,(u + g % 10) % s,n] 0=(some (4,[g % 10,(u + g % 10) % s,(n + 1) % 10]),none) from rfl) .nil))))
theorem Ih (h:n < m):Path (prA s m) 4 [a,u,n] l [4] [] 5 [a,u,n] l:=.cons (f:=0) (s:=none) (by simp) rfl (A4.trans (by rw [if_pos (decide_eq_true h)])) .nil
theorem Ii (k:Nat):di (prA s m) (k + 1) 5 [a,u,n] []=⟨[5],[],.out⟩:=De (by simp) rfl k
theorem Ij (h:¬ n < m):Path (prA s m) 4 [a,u,n] l [4] [] 0 [a,u,n] l:=.cons (f:=0) (s:=none) (by simp) rfl (A4.trans (by rw [if_neg (by simpa using h)])) .nil
theorem Ik (h1:2≤s) (h2:s≤10) (h5:0≤m) (h6:m < 1000):mx (prA s m):=by
 refine ⟨⟨?_,?_,Nat.le_of_ble_eq_true rfl,?_⟩,Nat.le_of_ble_eq_true rfl,Nat.le_of_ble_eq_true rfl,?_,?_⟩
 · simp [prA,PG.az,PG.fe,PG.Stm.row]
 · simp [prA]
 · simp [prA,PG.az,PG.fe,PG.Stm.row]
 · simp [prA,PG.OkB,PG.OkS,PG.iM,PG.trd,PG.sgs,h5,h6]
 · simp [prA,h1,h2]
   lia
end
section
variable {s v m g:Int} {l:List Int}
noncomputable def prF (size bad:Int):PG.Prog:=⟨[⟨[110],size,0⟩],[.whl 2 [61] (.num 4) (.num 4) [.bZ 3 [60] (.box [110]) (.num bad),.say 4 (.bin [42] (.box [110]) (.box [110])),.put 5 [110] (.bin [43] (.box [110]) (.num 1))]]⟩
theorem F3:bJ (prF s m) 3 [v] g=(if decide (v < m)=true then some (4,[v]) else none,none):=rfl
theorem FA:Path (prF s m) 2 [v] l [2] [] 3 [v] l:=.cons (f:=0) (s:=none) (by simp) rfl (show bJ (prF s m) 2 [v] 0=(some (3,[v]),none) from rfl) .nil
theorem GH (h:v < m):Path (prF s m) 2 [v] l [2,3,4,5] [v * v] 2 [(v + 1) % s] l:=
 FA.app (.cons (f:=0) (s:=none) (by simp) rfl (F3.trans (by rw [if_pos (decide_eq_true h)])) (.cons (f:=0) (s:=some (v * v)) (by simp) rfl (show bJ (prF s m) 4 [v] 0=(some (5,[v]),some (v * v)) from rfl)
   (.cons (f:=0) (s:=none) (by simp) rfl (show bJ (prF s m) 5 [v] 0=(some (2,[(v + 1) % s]),none) from rfl) .nil)))
theorem GI (h:¬ v < m) (k:Nat):di (prF s m) (k + 1) 3 [v] l=⟨[3],[],.bZ 3⟩:=Bo (f:=0) (s:=none) (by simp) rfl (F3.trans (by rw [if_neg (by simpa using h)])) k
theorem jo {α:Type} (xs:List α) (j:Nat):(List.replicate (j + 1) xs).flatten=(List.replicate j xs).flatten ++ xs:=by
 rw [List.replicate_succ',List.flatten_append]
 simp
theorem Df {s:Int} {bad:Nat} (h:(bad:Int) < s):∀ j,j≤bad→Path (prF s bad) 2 [0] l (List.replicate j [2,3,4,5]).flatten ((List.range j).map fun k:Nat=>((k:Int) * (k:Int))) 2 [(j:Int)] l
 | 0,_=>.nil
 | j + 1,hj=>by
   have p:=Df h j (by lia)
   have q:=p.app (GH (s:=s) (m:=bad) (v:=(j:Int)) (l:=l) (by lia))
   rw [jo,List.range_succ,List.map_append]
   rw [Int.emod_eq_of_lt (by lia) (by lia)] at q
   exact q
theorem Jz (h1:2≤s) (h2:s≤10) (h5:0≤m) (h6:m < 1000):mx (prF s m):=by
 refine ⟨⟨?_,?_,Nat.le_of_ble_eq_true rfl,?_⟩,Nat.le_of_ble_eq_true rfl,Nat.le_of_ble_eq_true rfl,?_,?_⟩
 · simp [prF,PG.az,PG.fe,PG.Stm.row]
 · simp [prF]
 · simp [prF,PG.az,PG.fe,PG.Stm.row]
 · simp [prF,PG.OkB,PG.OkS,PG.iM,PG.trd,PG.sgs,h5,h6]
 · simp [prF,h1,h2]
   lia
noncomputable def prR (size k:Int):PG.Prog:=⟨[⟨[110],size,0⟩],[.whl 2 [60] (.num 0) (.num 1) [.put 3 [110] (.bin [43] (.box [110]) (.num k))]]⟩
theorem GJ:Path (prR s m) 2 [v] l [2,3] [] 2 [(v + m) % s] l:=
 .cons (f:=0) (s:=none) (by simp) rfl (show bJ (prR s m) 2 [v] 0=(some (3,[v]),none) from rfl) (.cons (f:=0) (s:=none) (by simp) rfl (show bJ (prR s m) 3 [v] 0=(some (2,[(v + m) % s]),none) from rfl) .nil)
theorem yW:∀ j:Nat,∃ z,Path (prR s m) 2 [v] l (List.replicate j [2,3]).flatten [] 2 [z] l
 | 0=>⟨v,.nil⟩
 | j + 1=>by
   obtain ⟨z,p⟩:=yW j
   rw [jo]
   exact ⟨_,p.app GJ⟩
theorem Il (h1:2≤s) (h2:s≤10) (h5:0≤m) (h6:m < 1000):mx (prR s m):=by
 refine ⟨⟨?_,?_,Nat.le_of_ble_eq_true rfl,?_⟩,Nat.le_of_ble_eq_true rfl,Nat.le_of_ble_eq_true rfl,?_,?_⟩
 · simp [prR,PG.az,PG.fe,PG.Stm.row]
 · simp [prR]
 · simp [prR,PG.az,PG.fe,PG.Stm.row]
 · simp [prR,PG.OkB,PG.OkS,PG.iM,PG.trd,PG.sgs,h5,h6]
 · simp [prR,h1,h2]
   lia
end
section
variable {sa sb sc:Int} {a b c g:Int} {l:List Int}
noncomputable def prN (sa sb sc:Int):PG.Prog:=⟨[⟨[97],10,0⟩,⟨[98],10,0⟩,⟨[99],10,0⟩],
 [.whl 4 [60] (.box [99]) (.num sc) [.put 5 [98] (.num 0),.whl 6 [60] (.box [98]) (.num sb) [.put 7 [97] (.num 0),.whl 8 [60] (.box [97]) (.num sa) [.put 9 [97] (.bin [43] (.box [97]) (.num 1))],.put 11 [98] (.bin [43] (.box [98]) (.num 1))],.put 13 [99] (.bin [43] (.box [99]) (.num 1))],.say 15 (.box [99])]⟩
theorem N4:bJ (prN sa sb sc) 4 [a,b,c] g=(if decide (c < sc)=true then some (5,[a,b,c]) else some (15,[a,b,c]),none):=rfl
theorem N6:bJ (prN sa sb sc) 6 [a,b,c] g=(if decide (b < sb)=true then some (7,[a,b,c]) else some (13,[a,b,c]),none):=rfl
theorem N8:bJ (prN sa sb sc) 8 [a,b,c] g=(if decide (a < sa)=true then some (9,[a,b,c]) else some (11,[a,b,c]),none):=rfl
theorem N_a (h:a < sa):Path (prN sa sb sc) 8 [a,b,c] l [8,9] [] 8 [(a + 1) % 10,b,c] l:=
 .cons (f:=0) (s:=none) (by simp) rfl (N8.trans (by rw [if_pos (decide_eq_true h)])) (.cons (f:=0) (s:=none) (by simp) rfl (show bJ (prN sa sb sc) 9 [a,b,c] 0=(some (8,[(a + 1) % 10,b,c]),none) from rfl) .nil)
theorem N_b (h:¬ a < sa):Path (prN sa sb sc) 8 [a,b,c] l [8,11] [] 6 [a,(b + 1) % 10,c] l:=
 .cons (f:=0) (s:=none) (by simp) rfl (N8.trans (by rw [if_neg (by simpa using h)])) (.cons (f:=0) (s:=none) (by simp) rfl (show bJ (prN sa sb sc) 11 [a,b,c] 0=(some (6,[a,(b + 1) % 10,c]),none) from rfl) .nil)
theorem JA (h:b < sb):Path (prN sa sb sc) 6 [a,b,c] l [6,7] [] 8 [0,b,c] l:=
 .cons (f:=0) (s:=none) (by simp) rfl (N6.trans (by rw [if_pos (decide_eq_true h)])) (.cons (f:=0) (s:=none) (by simp) rfl (show bJ (prN sa sb sc) 7 [a,b,c] 0=(some (8,[0,b,c]),none) from rfl) .nil)
theorem N_c (h:¬ b < sb):Path (prN sa sb sc) 6 [a,b,c] l [6,13] [] 4 [a,b,(c + 1) % 10] l:=
 .cons (f:=0) (s:=none) (by simp) rfl (N6.trans (by rw [if_neg (by simpa using h)])) (.cons (f:=0) (s:=none) (by simp) rfl (show bJ (prN sa sb sc) 13 [a,b,c] 0=(some (4,[a,b,(c + 1) % 10]),none) from rfl) .nil)
theorem JB (h:c < sc):Path (prN sa sb sc) 4 [a,b,c] l [4,5] [] 6 [a,0,c] l:=
 .cons (f:=0) (s:=none) (by simp) rfl (N4.trans (by rw [if_pos (decide_eq_true h)])) (.cons (f:=0) (s:=none) (by simp) rfl (show bJ (prN sa sb sc) 5 [a,b,c] 0=(some (6,[a,0,c]),none) from rfl) .nil)
theorem Im (h:¬ c < sc):Path (prN sa sb sc) 4 [a,b,c] l [4,15] [c] 0 [a,b,c] l:=
 .cons (f:=0) (s:=none) (by simp) rfl (N4.trans (by rw [if_neg (by simpa using h)])) (.cons (f:=0) (s:=some c) (by simp) rfl (show bJ (prN sa sb sc) 15 [a,b,c] 0=(some (0,[a,b,c]),some c) from rfl) .nil)
theorem Io {sa:Nat} (hs:sa < 10):∀ j,j≤sa→Path (prN sa sb sc) 8 [0,b,c] l (List.replicate j [8,9]).flatten [] 8 [(j:Int),b,c] l
 | 0,_=>.nil
 | j + 1,hj=>by
   have p:=(Io hs j (by lia)).app (N_a (sa:=sa) (sb:=sb) (sc:=sc) (a:=(j:Int)) (b:=b) (c:=c) (l:=l) (by lia))
   rw [jo]
   rw [Int.emod_eq_of_lt (by lia) (by lia)] at p
   exact p
noncomputable def kU (sa:Nat):List Int:=[6,7] ++ (List.replicate sa [8,9]).flatten ++ [8,11]
theorem ET {sa:Nat} (hs:sa < 10) (h:b < sb):Path (prN sa sb sc) 6 [a,b,c] l (kU sa) [] 6 [(sa:Int),(b + 1) % 10,c] l:=
 (((JA h).app (Io hs sa (Nat.le_refl _))).app (N_b (Int.lt_irrefl _)):Path _ _ _ _ _ (([] ++ []) ++ []) _ _ _)
theorem Ip {sa sb:Nat} (hs:sa < 10) (hb:sb < 10):∀ j,j≤sb→∃ z,Path (prN sa sb sc) 6 [a,0,c] l (List.replicate j (kU sa)).flatten [] 6 [z,(j:Int),c] l
 | 0,_=>⟨a,.nil⟩
 | j + 1,hj=>by
   obtain ⟨z,p⟩:=Ip hs hb j (by lia)
   have q:=p.app (ET (sb:=sb) (sc:=sc) (a:=z) (b:=(j:Int)) (c:=c) (l:=l) hs (by lia))
   rw [jo]
   rw [Int.emod_eq_of_lt (by lia) (by lia)] at q
   exact ⟨_,q⟩
noncomputable def gv (sa sb:Nat):List Int:=[4,5] ++ (List.replicate sb (kU sa)).flatten ++ [6,13]
theorem Iq {sa sb:Nat} (hs:sa < 10) (hb:sb < 10) (h:c < sc):∃ z y,Path (prN sa sb sc) 4 [a,b,c] l (gv sa sb) [] 4 [z,y,(c + 1) % 10] l:=by
 obtain ⟨z,p⟩:=Ip (sc:=sc) (a:=a) (c:=c) (l:=l) hs hb sb (Nat.le_refl _)
 exact ⟨_,_,(((JB h).app p).app (N_c (Int.lt_irrefl _)):Path _ _ _ _ _ (([] ++ []) ++ []) _ _ _)⟩
theorem GK {sa sb sc:Nat} (hs:sa < 10) (hb:sb < 10) (hc:sc < 10):∀ j,j≤sc→∃ z y,Path (prN sa sb sc) 4 [0,0,0] l (List.replicate j (gv sa sb)).flatten [] 4 [z,y,(j:Int)] l
 | 0,_=>⟨0,0,.nil⟩
 | j + 1,hj=>by
   obtain ⟨z,y,p⟩:=GK hs hb hc j (by lia)
   obtain ⟨z2,y2,p2⟩:=Iq (sc:=sc) (a:=z) (b:=y) (c:=(j:Int)) (l:=l) hs hb (by lia)
   have q:=p.app p2
   rw [jo]
   rw [Int.emod_eq_of_lt (by lia) (by lia)] at q
   exact ⟨_,_,q⟩
theorem JC (h1:0≤sa) (h2:sa < 1000) (h3:0≤sb) (h4:sb < 1000) (h5:0≤sc) (h6:sc < 1000):mx (prN sa sb sc):=by
 refine ⟨⟨?_,?_,Nat.le_of_ble_eq_true rfl,?_⟩,Nat.le_of_ble_eq_true rfl,Nat.le_of_ble_eq_true rfl,?_,?_⟩
 · simp [prN,PG.az,PG.fe,PG.Stm.row]
 · simp [prN]
 · simp [prN,PG.az,PG.fe,PG.Stm.row]
 · simp [prN,PG.OkB,PG.OkS,PG.iM,PG.trd,PG.sgs,h1,h2,h3,h4,h5,h6]
 · simp [prN]
theorem dB {α:Type} (xs:List α) (k:Nat):(List.replicate k xs).flatten.length=k * xs.length:=len_rep xs k
theorem EU {sa sb sc:Nat} (hs:sa < 10) (hb:sb < 10) (hc:sc < 10):Known (prN sa sb sc) [] ((List.replicate sc (gv sa sb)).flatten ++ [4,15]) [(sc:Int)] (some .fin):=by
 obtain ⟨z,y,p⟩:=GK (l:=[]) hs hb hc sc (Nat.le_refl _)
 refine Known.yV (b':=[z,y,(sc:Int)]) (c':=[]) (JC (by lia) (by lia) (by lia) (by lia) (by lia) (by lia)) (Nat.zero_le _) ⟨by simp,?_⟩ (Nat.le_of_ble_eq_true rfl) (p.app (Im (Int.lt_irrefl _)))
 rw [List.length_append,dB,gv]
 simp only [List.length_append,dB,kU,List.length_cons,List.length_nil]
 have h1:sb * (0 + 1 + 1 + sa * (0 + 1 + 1) + (0 + 1 + 1))≤9 * 22:=Nat.mul_le_mul (by lia) (by lia)
 have h2:sc * (0 + 1 + 1 + sb * (0 + 1 + 1 + sa * (0 + 1 + 1) + (0 + 1 + 1)) + (0 + 1 + 1))≤9 * 202:=Nat.mul_le_mul (by lia) (by lia)
 lia
end
end L2
namespace L2
open PySem
noncomputable def EV:Sp:=fun vs H Q _=>∃ cell k:Int,vs=[.int cell,.int k]∧0≤k∧k≤1000∧∀ n:Nat,n < 2 ^ 28→Q (.int n) H
noncomputable def GL (K:PySem.W.Frag) (H:Hp) (L:Addr) (pr:PG.Prog) (aJ rows said:List Int) (e:Option PG.ck):Prop:=∃ (v:V) (fl r s:Addr) (ev:V),SqL K H L [v,.ref fl,.ref r,.ref s,ev]∧Rep K H (fE pr) v∧SqL K H fl (aJ.map V.int)∧SqL K H r (rows.map V.int)∧SqL K H s (said.map V.int)∧q0 K H e ev
noncomputable def GN (K:PySem.W.Frag):Sp:=fun vs H Q _=>∃ cell:Int,vs=[.int cell]∧∀ L H' pr aJ rows said e,rows.length≤900→aC H H'→GL K H' L pr aJ rows said e→Known pr aJ rows said e→Q (.ref L) H'
noncomputable def EW (K:PySem.W.Frag):Sp:=fun vs H Q _=>∃ cell:Int,vs=[.int cell]∧∀ (L:Addr) (H':Hp) (s k:Int) (n:Nat),n=150→2≤s→s≤10→0≤k→k < 1000→aC H H'→GL K H' L (prR s k) [5,5] (List.replicate n [2,3]).flatten [] none→Q (.ref L) H'
noncomputable def Dg (K:PySem.W.Frag):Sp:=fun vs H Q _=>∃ cell:Int,vs=[.int cell]∧∀ (L r:Addr) (v:V) (H':Hp) (sa sb sc:Nat),0 < sc→sa < 10→sb < 10→sc < 10→aC H H'→SqL K H' L [v,.ref r,.int sc]→Rep K H' (fE (prN sa sb sc)) v→SqL K H' r (((List.replicate sc (gv sa sb)).flatten ++ [4,15]).map V.int)→Q (.ref L) H'
noncomputable def GO:Sp:=fun vs H Q _=>∃ cell:Int,vs=[.int cell]∧∀ H',aC H H'→Q (.bl true) H'
section
variable {K:PySem.W.Frag} {H H1:Hp} {p:Addr} {vs:List V} {ds:List Dp}
theorem gT (e:upd H p (.tup vs)=H1) (hp:H p=none):aC H H1:=e ▸ aC.new hp _
theorem gL (e:upd H p (.lst vs)=H1) (hp:H p=none):aC H H1:=e ▸ aC.new hp _
theorem gTr (e:upd H p (.tup vs)=H1) (hp:H p=none) (hr:aM K H ds vs):Rep K H1 (.tup ds) (.ref p):=e ▸ Rep.new hp hr
theorem gLr (e:upd H p (.lst vs)=H1) (hp:H p=none) (hr:aM K H ds vs):Rep K H1 (.lst ds) (.ref p):=e ▸ Rep.Jj hp hr
theorem gLa (e:upd H p (.lst vs)=H1):H1 p=some (.lst vs):=e ▸ ar
theorem gTa (e:upd H p (.tup vs)=H1):H1 p=some (.tup vs):=e ▸ ar
end
theorem rS {K:PySem.W.Frag} {H:Hp} {x:Str}:Rep K H (.str x) (.str x):=Rep.bV.mpr rfl
theorem rI_ {K:PySem.W.Frag} {H:Hp} {x:Int}:Rep K H (.int x) (.int x):=Rep.bG.mpr rfl
theorem vc {D:Addr} {n:Nat} {te:TE} {Q:VK} {r:St} {H:Hp} (ok:Nat→Int→Prop) (hl:n≤16000000) (hD:H D=none)
   (step:∀ (i:Nat) H2,i < n→aC H H2→∀ R:VK,(∀ m,ok i m→R (.int m) H2)→te (some (.int i) :: r) H2 R)
   (q:∀ ns:List Int,ns.length=n→(∀ i m,ns[i]?=some m→ok i m)→Q (.ref D) (upd H D (.lst (ns.map V.int)))) :
   qy (Itr 0 n) D (eu 0) xf te Q (none :: r) (upd H D (.lst [])):=by
 refine ⟨fun i m τ H2=>m=n - i∧i≤n∧(∃ x,τ=x :: r)∧∃ ns:List Int,H2=upd H D (.lst (ns.map V.int))∧ns.length=i∧∀ j m,ns[j]?=some m→ok j m,⟨n,by simp,Nat.zero_le _,⟨none,rfl⟩,[],rfl,rfl,fun j m z=>by simp at z⟩,?_⟩
 rintro i m τ H2 ⟨rfl,hi,⟨x,rfl⟩,ns,rfl,ly,p2⟩
 by_cases hlt:i < n
 · refine .inr ⟨hlt,fun τ' H'=>(∃ x,τ'=x :: r)∧∃ ns:List Int,H'=upd H D (.lst (ns.map V.int))∧ns.length=i + 1∧∀ j m,ns[j]?=some m→ok j m,fun τ' H' ⟨h1,h3,h4,h5⟩=>⟨n - (i + 1),by lia,rfl,hlt,h1,h3,h4,h5⟩,fun y H' hy=>?_⟩
   obtain ⟨rfl,rfl⟩:=hy
   simp only [eu,List.set,xf]
   rw [if_pos trivial,show (0:Int) + (i:Int)=(i:Int) by lia]
   refine step i _ hlt (aC.new hD _) _ fun v hv=>⟨ns.map V.int,ar,?_,⟨_,rfl⟩,ns ++ [v],by rw [List.map_append]; exact zG,by simp [ly],fun j m hm=>?_⟩
   · have:sizeLine=2 ^ 24:=rfl
     rw [List.length_map]
     lia
   · by_cases hj:j < ns.length
     · rw [List.getElem?_append_left hj] at hm
       exact p2 j m hm
     · rw [List.getElem?_append_right (by lia)] at hm
       have:j=i:=by
         have:=(List.getElem?_eq_some_iff.mp hm).1
         simp at this
         lia
       subst this
       rw [show j - ns.length=0 by lia] at hm
       cases hm
       exact hv
 · have e:i=n:=by lia
   subst e
   exact .inl ⟨Nat.le_refl _,q ns ly p2⟩
end L2
section
set_option maxHeartbeats 4000000
namespace K18
open PySem L2
noncomputable def top (i:Nat):Stmt:=PySem.Challenge.pw_everyrow_k18_known_runs.main.body.getD i (.Pass ⟨0,0,0,0⟩)
noncomputable abbrev jF:Stmt:=top 2
noncomputable abbrev bK:Stmt:=top 3
noncomputable abbrev cV:Stmt:=top 4
noncomputable abbrev bW:Stmt:=top 5
noncomputable abbrev dY:Stmt:=top 6
noncomputable abbrev cW:Stmt:=top 7
noncomputable abbrev bH:Stmt:=top 8
noncomputable abbrev gP:Stmt:=top 10
noncomputable abbrev dZ:Stmt:=top 13
noncomputable abbrev dk:Stmt:=top 14
noncomputable abbrev dq:Stmt:=top 15
noncomputable abbrev gQ:Stmt:=top 16
noncomputable abbrev oF:Stmt:=top 18
noncomputable abbrev d7:Stmt:=top 20
noncomputable abbrev bq:Stmt:=top 21
noncomputable abbrev cX:Stmt:=top 23
noncomputable abbrev bL:Stmt:=top 24
noncomputable abbrev cw:Stmt:=top 25
noncomputable abbrev bM:Stmt:=top 26
noncomputable abbrev cy:Stmt:=top 27
noncomputable abbrev bX:Stmt:=top 28
noncomputable abbrev bA:Stmt:=top 29
noncomputable abbrev oG:Stmt:=top 30
noncomputable abbrev cA:Stmt:=inClass (top 12) 0
noncomputable abbrev cY:Stmt:=inClass (top 19) 0
noncomputable abbrev bf:Stmt:=inClass (top 19) 1
noncomputable abbrev bD:Stmt:=inClass (top 19) 2
noncomputable abbrev cB:Stmt:=inClass (top 19) 3
theorem As:bj ["program"] ["program"] (ak jF):=⟨rfl,rfl,rfl,by decide +kernel,rfl,by decide +kernel,by decide +kernel⟩
theorem j9:bj ["body", "behind", "told", "place", "statement", "after", "inner"] ["body", "behind"] (ak bK):=⟨rfl,rfl,rfl,by decide +kernel,rfl,by decide +kernel,by decide +kernel⟩
theorem oH:bj ["body", "behind"] ["body", "behind"] (ak cV):=⟨rfl,rfl,rfl,by decide +kernel,rfl,by decide +kernel,by decide +kernel⟩
theorem kW:bj ["statement", "after"] ["statement", "after"] (ak bW):=⟨rfl,rfl,rfl,by decide +kernel,rfl,by decide +kernel,by decide +kernel⟩
theorem sM:bj ["statement", "after", "word"] ["statement", "after"] (ak dY):=⟨rfl,rfl,rfl,by decide +kernel,rfl,by decide +kernel,by decide +kernel⟩
theorem oI:bj ["statement"] ["statement"] (ak cW):=⟨rfl,rfl,rfl,by decide +kernel,rfl,by decide +kernel,by decide +kernel⟩
theorem jq:bj ["body", "found", "statement", "inner"] ["body"] (ak bH):=⟨rfl,rfl,rfl,by decide +kernel,rfl,by decide +kernel,by decide +kernel⟩
theorem xA:bj ["e", "values", "kind", "left", "right"] ["e", "values"] (ak gP):=⟨rfl,rfl,rfl,by decide +kernel,rfl,by decide +kernel,by decide +kernel⟩
theorem sN:bj ["chart", "row"] ["chart", "row"] (ak dZ):=⟨rfl,rfl,rfl,by decide +kernel,rfl,by decide +kernel,by decide +kernel⟩
theorem qC:bj ["chart", "parts"] ["chart", "parts"] (ak dk):=⟨rfl,rfl,rfl,by decide +kernel,rfl,by decide +kernel,by decide +kernel⟩
theorem qD:bj ["chart", "named"] ["chart", "named"] (ak dq):=⟨rfl,rfl,rfl,by decide +kernel,rfl,by decide +kernel,by decide +kernel⟩
theorem xB:bj ["chart", "standing", "statement", "values", "left", "right"] ["chart", "standing"] (ak gQ):=⟨rfl,rfl,rfl,by decide +kernel,rfl,by decide +kernel,by decide +kernel⟩
theorem Dh:bj ["program", "figures", "bound", "walk", "rows", "said", "number"] ["program", "figures", "bound"] (ak oF):=⟨rfl,rfl,rfl,by decide +kernel,rfl,by decide +kernel,by decide +kernel⟩
theorem sO:bj ["chart", "standing", "figure", "row", "statement", "word", "values", "said"] ["chart", "standing", "figure"] (ak d7):=⟨rfl,rfl,rfl,by decide +kernel,rfl,by decide +kernel,by decide +kernel⟩
theorem gw:bj ["chart", "standing", "row"] ["chart", "standing"] (ak bq):=⟨rfl,rfl,rfl,by decide +kernel,rfl,by decide +kernel,by decide +kernel⟩
theorem oJ:bj ["cell", "k", "j", "number"] ["cell", "k"] (ak cX):=⟨rfl,rfl,rfl,by decide +kernel,rfl,by decide +kernel,by decide +kernel⟩
theorem ka:bj ["cell", "size", "first", "most", "n", "body", "loop", "program", "said", "rows", "number"] ["cell"] (ak bL):=⟨rfl,rfl,rfl,by decide +kernel,rfl,by decide +kernel,by decide +kernel⟩
theorem mK:bj ["cell", "size", "many", "figures", "total", "n", "body", "boxes", "program", "rows", "said", "number", "k"] ["cell"] (ak cw):=⟨rfl,rfl,rfl,by decide +kernel,rfl,by decide +kernel,by decide +kernel⟩
theorem kb:bj ["cell", "size", "bad", "n", "body", "loop", "rows"] ["cell"] (ak bM):=⟨rfl,rfl,rfl,by decide +kernel,rfl,by decide +kernel,by decide +kernel⟩
theorem mL:bj ["cell", "size", "more", "loop"] ["cell"] (ak cy):=⟨rfl,rfl,rfl,by decide +kernel,rfl,by decide +kernel,by decide +kernel⟩
theorem kX:bj ["cell", "sa", "sb", "sc", "one", "inner", "some", "more", "body", "rows"] ["cell"] (ak bX):=⟨rfl,rfl,rfl,by decide +kernel,rfl,by decide +kernel,by decide +kernel⟩
theorem hJ:bj ["cell", "program", "rows", "said", "bound", "figures", "some", "none", "end"] ["cell"] (ak bA):=⟨rfl,rfl,rfl,by decide +kernel,rfl,by decide +kernel,by decide +kernel⟩
theorem Di:bj ["script", "cell", "way", "program", "figures", "rows", "said", "end", "bound", "found"] ["script"] (ak oG):=⟨rfl,rfl,rfl,by decide +kernel,rfl,by decide +kernel,by decide +kernel⟩
theorem mM:bj ["self", "program", "boxes", "body"] ["self", "program"] (ak cA):=⟨rfl,rfl,rfl,by decide +kernel,rfl,by decide +kernel,by decide +kernel⟩
theorem oK:bj ["self", "chart", "figures"] ["self", "chart", "figures"] (ak cY):=⟨rfl,rfl,rfl,by decide +kernel,rfl,by decide +kernel,by decide +kernel⟩
theorem fW:bj ["self"] ["self"] (ak bf):=⟨rfl,rfl,rfl,by decide +kernel,rfl,by decide +kernel,by decide +kernel⟩
theorem iO:bj ["self"] ["self"] (ak bD):=⟨rfl,rfl,rfl,by decide +kernel,rfl,by decide +kernel,by decide +kernel⟩
theorem mO:bj ["self", "figure", "told"] ["self"] (ak cB):=⟨rfl,rfl,rfl,by decide +kernel,rfl,by decide +kernel,by decide +kernel⟩
set_option genInjectivity false in
structure Ad where
 jG:Addr
 rL:FuncData
 bN:Addr
 eK:FuncData
 bY:Addr
 d9:FuncData
 cF:Addr
 hV:FuncData
 eW:Addr
 nH:FuncData
 cZ:Addr
 gR:FuncData
 bt:Addr
 cI:FuncData
 gS:Addr
 oM:FuncData
 fJ:Addr
 sP:FuncData
 eM:Addr
 qE:FuncData
 eN:Addr
 qF:FuncData
 jH:Addr
 xC:FuncData
 sQ:Addr
 Dj:FuncData
 fK:Addr
 sR:FuncData
 bI:Addr
 gx:FuncData
 dP:Addr
 oN:FuncData
 cK:Addr
 kc:FuncData
 du:Addr
 mP:FuncData
 cL:Addr
 kg:FuncData
 dv:Addr
 mQ:FuncData
 c7:Addr
 kY:FuncData
 bO:Addr
 hX:FuncData
 vd:Addr
 yX:FuncData
 cC:Addr
 iZ:FuncData
 c5:Addr
 jI:FuncData
 bg:Addr
 dQ:FuncData
 bE:Addr
 fh:FuncData
 cD:Addr
 i0:FuncData
 aI:Addr
 bz:Addr
set_option genInjectivity false in
structure Tx (K:PySem.W.Frag) (mg:Str→Option Value) (t:Ad):Prop where
 vH:dN K mg "flow" jF ["program"] t.jG t.rL
 cM:dN K mg "flow_of_body" bK ["body", "behind"] t.bN t.eK
 bu:dN K mg "first_row" cV ["body", "behind"] t.bY t.d9
 fS:dN K mg "behind_body" bW ["statement", "after"] t.cF t.hV
 mq:dN K mg "ways_of" dY ["statement", "after"] t.eW t.nH
 dR:dN K mg "bodies_in" cW ["statement"] t.cZ t.gR
 cm:dN K mg "statements_in" bH ["body"] t.bt t.cI
 cE:dN K mg "worth" gP ["e", "values"] t.gS t.oM
 fL:dN K mg "word_at" dZ ["chart", "row"] t.fJ t.sP
 eO:dN K mg "by_names" dk ["chart", "parts"] t.eM t.qE
 jJ:dN K mg "in_order" dq ["chart", "named"] t.eN t.qF
 rM:dN K mg "holds" gQ ["chart", "standing"] t.jH t.xC
 gy:dN K mg "run" oF ["program", "figures", "bound"] t.sQ t.Dj
 mv:dN K mg "step_by" d7 ["chart", "standing", "figure"] t.fK t.sR
 dw:dN K mg "behind_condition" bq ["chart", "standing"] t.bI t.gx
 aq:dN K mg "_law_stir" cX ["cell", "k"] t.dP t.oN
 fj:dN K mg "_law_counted" bL ["cell"] t.cK t.kc
 gU:dN K mg "_law_added" cw ["cell"] t.du t.mP
 fk:dN K mg "_law_failing" bM ["cell"] t.cL t.kg
 dy:dN K mg "_law_round" cy ["cell"] t.dv t.mQ
 fT:dN K mg "_law_nested" bX ["cell"] t.c7 t.kY
 dG:dN K mg "_law_long_right" bA ["cell"] t.bO t.hX
 Ir:dN K mg "law" oG ["script"] t.vd t.yX
 gW:Fun K "__init__" "Chart.__init__" cA t.cC t.iZ
 vI:Binds K t.iZ ["self", "program"] []
 iP:Fun K "__init__" "Walk.__init__" cY t.c5 t.jI
 xD:Binds K t.jI ["self", "chart", "figures"] []
 da:Fun K "look_for_end" "Walk.look_for_end" bf t.bg t.dQ
 gA:Binds K t.dQ ["self"] []
 gB:Meth K t.bz "look_for_end" t.bg
 ef:Fun K "is_at_ask" "Walk.is_at_ask" bD t.bE t.fh
 pU:Binds K t.fh ["self"] []
 pV:Meth K t.bz "is_at_ask" t.bE
 gX:Fun K "go_on" "Walk.go_on" cB t.cD t.i0
 vJ:Binds K t.i0 ["self"] []
 vK:Meth K t.bz "go_on" t.cD
 cu:Cls K t.aI
 Dk:mg "Chart"=some (.ref t.aI)
 kZ:Mk K t.aI t.cC
 cN:dJ K t.aI "names"
 cO:dJ K t.aI "sizes"
 dh:dJ K t.aI "first"
 bw:dJ K t.aI "statements"
 cG:dJ K t.aI "ways"
 bB:Cls K t.bz
 EX:mg "Walk"=some (.ref t.bz)
 oO:Mk K t.bz t.c5
 c8:dJ K t.bz "chart"
 cn:dJ K t.bz "figures"
 cH:dJ K t.bz "taken"
 bh:dJ K t.bz "standing"
 bQ:dJ K t.bz "end"
 sS:∃ u,mg "END"=some u∧RelV (.int 0) u
 gC:mg "len"=none
 gY:mg "range"=none
 k4:mg "dict"=none
 mw:mg "tuple"=none
 sT:mg "sum"=none
 fX:mg "enumerate"=none
 xE:mg "zip"=none
end K18
end
section
set_option maxHeartbeats 4000000
namespace K18
open PySem L2
local macro_rules | `(tactic| walk_at "rd")=>`(tactic| ((try dsimp only [BH,BO,Fc,Hb,Fd,tIf,FP,BC,Hd,tBM,Ht,tSl,BR,vz,BN,F2,wV,vx,zO,tUn,rU,HN,zK,zL,Fh,Ff,BB,Fe,FV,BD,FU,Hc,Fo,Ea,FT,zW,Fp,B2,B3,B4,B5,B6,B7,B8,B9,Ca,Cb,Ag,Ah,Ai,Ak,Al,Gu,HH,FR,BA,BE,eu,Fq,Ft,List.set,zX,zY,Cd,z0,Aa,xh,Ab,Fu,HJ,Cm,Ce,Cf,tOr,List.nil_append,List.cons_append,List.length_cons,List.length_nil,Cg,Ci,zZ]); (try simp only [BH,BO,Fc,Hb,Fd,tIf,FP,BC,Hd,tBM,Ht,tSl,BR,vz,BN,F2,wV,vx,zO,tUn,rU,HN,zK,zL,Fh,Ff,BB,Fe,Gh,Gi,FV,BD,FU,Hc,Fo,Ea,FT,zW,Fp,B2,B3,B4,B5,B6,B7,B8,B9,Ca,Cb,Ag,Ah,Ai,Ak,Al,Gu,HH,FR,BA,BE,eu,HG,Ji,Fq,Ft,HI,Ep,Cc,Gj,Gk,List.set,zX,zY,Cd,z0,Aa,xh,Ab,Fu,HJ,Cm,Ce,Cf,tOr,List.append_nil,List.nil_append,List.cons_append,Es,Et,true_and,and_true,List.length_cons,List.length_nil,Eu,Cg,Ci,zZ,Int.reduceLT,Int.reduceLE,Nat.reduceLeDiff,Nat.reduceAdd,and_self])))
section
variable {P:Program} {w:World} {K:PySem.W.Frag} {mg:Str→Option Value} {base:Heap} {t:Ad}
theorem xF {ss:List PG.Stm} {vs:List V} (l:vs.length=ss.length):(List.range ss.length).map (fun i=>((Sum.inl (ss.getD i (.stop 0)).row:Key),vs.getD i .non))=gu ss vs:=by
 apply List.ext_getElem
 · simp [gu,l]
 · intro i h1 h2
   simp at h1
   simp [gu,h1,l]
theorem vL {fl:List PG.dX} {vs:List V} (l:vs.length=fl.length):(List.range fl.length).map (fun i=>((Sum.inl (fl.getD i (0,.stop,[])).1:Key),vs.getD i .non))=List.zipWith (fun r v=>(Sum.inl r.1,v)) fl vs:=by
 apply List.ext_getElem
 · simp [l]
 · intro i h1 h2
   simp at h1
   simp [h1,l]
theorem xG {fl:List PG.dX} {vs:List V} (l:vs.length=fl.length):(List.zipWith (fun r v=>((Sum.inl r.1:Key),v)) fl vs).map (·.1)=fl.map fun r=>(Sum.inl r.1:Key):=by
 apply List.ext_getElem
 · simp [l]
 · intro i h1 h2
   simp
theorem Au {K:PySem.W.Frag} {H:Hp}:∀ {fl:List PG.dX} {us:List V},aM K H (fl.map fG) us→∃ ws:List V,ws.length=fl.length∧∀ i (hi:i < fl.length),∃ a q,us[i]?=some (.ref a)∧ws[i]?=some (.ref q)∧SqT K H a [.int fl[i].1,.str (wdS fl[i].2.1),.ref q]∧SqT K H q (fl[i].2.2.map V.int)
 | [],us,_=>⟨[],rfl,fun i hi=>by simp at hi⟩
 | r :: fl,us,h=>by
   have h0:=h
   rw [List.map_cons,aM.aP] at h
   obtain ⟨v,tl,rfl,h1,h2⟩:=h
   obtain ⟨ws,l,hw⟩:=Au h2
   obtain ⟨a,q,e,s1,s2⟩:=CG h0 (i:=0) (y:=v) rfl (by simp)
   refine ⟨.ref q :: ws,by simp [l],fun i hi=>?_⟩
   cases i with
   | zero=>exact ⟨a,q,by rw [e]; rfl,rfl,s1,s2⟩
   | succ i=>
     obtain ⟨a',q',e1,e2,e3,e4⟩:=hw i (by simpa using hi)
     exact ⟨a',q',by simpa using e1,by simpa using e2,by simpa using e3,by simpa using e4⟩
theorem yY {b:List PG.Stm} (pw:(PG.az b).Pairwise fun a b=>a.row < b.row):((PG.aN b 0).map fun r=>(Sum.inl r.1:Key)).Nodup:=by
 have e:(PG.aN b 0).map (fun r=>(Sum.inl r.1:Key))=(PG.az b).map fun s=>(Sum.inl s.row:Key):=by
   have h:((PG.aN b 0).map fun r=>(r.1,r.2.1))=(PG.az b).map fun x=>(x.row,x.wd):=by rw [PG.dE,PG.eU]
   have h2:=congrArg (List.map fun r:Int × PG.Wd=>(Sum.inl r.1:Key)) h
   rw [List.map_map,List.map_map] at h2
   exact h2
 rw [e]
 exact sr pw
theorem sU {K:PySem.W.Frag} {H:Hp} {B:Addr} {bs:List PG.Box} (r:Rep K H (.lst (bs.map eV)) (.ref B)):∃ xs,SqL K H B xs∧xs.length=bs.length∧∀ i x,xs[i]?=some x→∃ a,x=.ref a∧SqT K H a [.str (S (bs.getD i ⟨[],0,0⟩).name),.int (bs.getD i ⟨[],0,0⟩).size,.int (bs.getD i ⟨[],0,0⟩).first]:=by
 rw [Rep.bU] at r
 obtain ⟨_,xs,e,q,rs⟩:=r
 cases e
 have lx:xs.length=bs.length:=by rw [rs.length,List.length_map]
 refine ⟨xs,q,lx,fun i x hx=>?_⟩
 have li:i < bs.length:=by have:=(List.getElem?_eq_some_iff.mp hx).1; lia
 obtain ⟨v,hv,rv⟩:=rs.get (i:=i) (d:=eV bs[i]) (by rw [List.getElem?_map,List.getElem?_eq_getElem li]; rfl)
 rw [hx] at hv
 cases hv
 have eg:bs.getD i ⟨[],0,0⟩=bs[i]:=by rw [List.getD_eq_getElem?_getD,List.getElem?_eq_getElem li]; rfl
 rw [eg]
 simp only [eV,Rep.a8,aM.aP,aM.cf,Rep.bV,Rep.bG] at rv
 obtain ⟨a,ys,rfl,hS,_,_,rfl,rfl,_,_,rfl,rfl,_,_,rfl,rfl,rfl⟩:=rv
 exact ⟨a,rfl,hS⟩
theorem nI {kvs:List (Key × V)} (h:(kvs.map (·.1)).Nodup):jy [] kvs=kvs:=by
 have:=nD kvs [] (by simpa using h)
 simpa using this
theorem um (T:Tx K mg t) (c6:bP P w K mg base CX0 1 t.bY t.d9 ["body", "behind"] (oy K)) (dC:bP P w K mg base CX0 6 t.bt t.cI ["body"] (mh K 4)) (yZ:bP P w K mg base CX0 7 t.jG t.rL ["program"] (yE K)) :
   bP P w K mg base CX0 8 t.cC t.iZ ["self", "program"] (EL K t.aI):=by
 refine T.gW.okS mM (fun vs H Q E h=>?_) (fun cdv A outer s H vs Q E hr h=>?_)
 · obtain ⟨_,_,_,_,rfl,_⟩:=h
   rfl
 obtain ⟨p,dx,v,pr,rfl,hp,hdx,rp,hd,hf,pw,nb,lb,q⟩:=h
 have nd:=mM.nd
 obtain ⟨Av,oP,oQ⟩:=T.sS
 refine ⟨_,[some (.ref p),some v,none,none],(ag (aE (i:=2) nd rfl (Or.inl rfl) (a9 aV (pv 1) aj aw))
 (ag (aE (i:=3) nd rfl (Or.inl rfl) (a9 aV (pv 1) aj aw))
 (ag (eY (pv 0) (iL (own:=["box"]) (ix:=[]) rfl (by rfl) (by rfl) (dW (pv 2)) (fun _ _ _ _=>(aS (i:=0) (by show List.Nodup (["box"]:List Str); decide +kernel) rfl (Or.inl rfl))) (fun _ _ _ _=>gN) (fun _ _ _ _=>(a9 (jB (K:=K) rfl) (pv 0) aj aw))) rfl)
 (ag (eY (pv 0) (jg (nE rfl) rfl T.k4 PyProof.Rows.Boot.«dict» (aa (iL (own:=["box"]) (ix:=[]) rfl (by rfl) (by rfl) (dW (pv 2)) (fun _ _ _ _=>(aS (i:=0) (by show List.Nodup (["box"]:List Str); decide +kernel) rfl (Or.inl rfl))) (fun _ _ _ _=>gN) (fun _ _ _ _=>(au (aa (a9 (jB (K:=K) rfl) (pv 0) aj aw) (aa (a9 (jB (K:=K) rfl) (pv 0) aj aw) ae br) br)))) ae me)) rfl)
 (ag (eY (pv 0) (au (aa (aL c6 (hr.mono (by omega)) rfl T.bu.m T.bu.F.kp T.bu.b .nil ba (aa (pv 3) (aa (oh rfl oP oQ) ae ah) ah)) (aa (jg mE rfl T.mw PyProof.Rows.Boot.«tuple» (aa (iL (own:=["box"]) (ix:=[]) rfl (by rfl) (by rfl) (dW (pv 2)) (fun _ _ _ _=>(aS (i:=0) (by show List.Nodup (["box"]:List Str); decide +kernel) rfl (Or.inl rfl))) (fun _ _ _ _=>gN) (fun _ _ _ _=>(a9 (jB (K:=K) rfl) (pv 0) aj aw))) ae me)) ae cU) cU)) rfl)
 (ag (eY (pv 0) (jg (nE rfl) rfl T.k4 PyProof.Rows.Boot.«dict» (aa (iL (own:=["statement"]) (ix:=[]) rfl (by rfl) (by rfl) (dW (aL dC (hr.mono (by omega)) rfl T.cm.m T.cm.F.kp T.cm.b .nil ba (aa (pv 3) ae ah))) (fun _ _ _ _=>(aS (i:=0) (by show List.Nodup (["statement"]:List Str); decide +kernel) rfl (Or.inl rfl))) (fun _ _ _ _=>gN) (fun _ _ _ _=>(au (aa (a9 (jB (K:=K) rfl) (pv 0) aj aw) (aa (pv 0) ae ah) br)))) ae me)) rfl)
 (av (eY (pv 0) (jg (nE rfl) rfl T.k4 PyProof.Rows.Boot.«dict» (aa (iL (own:=["told"]) (ix:=[]) rfl (by rfl) (by rfl) (dW (aL yZ (hr.mono (by omega)) rfl T.vH.m T.vH.F.kp T.vH.b .nil ba (aa (pv 1) ae ah))) (fun _ _ _ _=>(aS (i:=0) (by show List.Nodup (["told"]:List Str); decide +kernel) rfl (Or.inl rfl))) (fun _ _ _ _=>gN) (fun _ _ _ _=>(au (aa (a9 (jB (K:=K) rfl) (pv 0) aj aw) (aa (a9 (jB (K:=K) rfl) (pv 0) aj aw) ae br) br)))) ae me)) rfl)))))))),rfl,?_⟩
 have line:sizeLine=2 ^ 24:=rfl
 have rp':=rp
 unfold fE at rp'
 rw [Rep.a8] at rp'
 obtain ⟨pa,pxs,rfl,hpx,prs⟩:=rp'
 rw [aM.aP] at prs
 obtain ⟨v1,t1,rfl,pr1,prs⟩:=prs
 rw [aM.aP] at prs
 obtain ⟨v2,t2,rfl,pr2,prs⟩:=prs
 obtain ⟨bb,_,rfl,_⟩:=Rep.bU.mp pr2
 obtain ⟨bx,_,rfl,_⟩:=Rep.bU.mp pr1
 refine ao fun U1 hU1=>?_
 walk_at "rd"
 refine aQ hpx (v:=.ref bx) (aG (j:=0) rfl) ((hU1 _ _).mpr (ao fun U2 hU2=>?_))
 clear hU1
 walk_at "rd"
 refine aQ hpx (v:=.ref bb) (aG (j:=1) rfl) ((hU2 _ _).mpr (ao fun U3 hU3=>?_))
 clear hU2
 walk_at "rd"
 simp only [wV,j8]
 walk_at "rd"
 obtain ⟨xs1,hx1,lx1,g1⟩:=sU pr1
 refine ⟨⟨_,hx1⟩,fun D1 hD1=>pT (K:=K) (r:=[]) (fun i=>.str (S (pr.ax.getD i ⟨[],0,0⟩).name)) hx1 (by lia) hD1 (fun i x H2 hx s2 R hR=>?_) (fun H2 s2 h2=>⟨p,_,dx,[],rfl,s2 _ _ hp,T.cu,T.cN,by decide,(hU3 _ _).mpr (ao fun U4 hU4=>?_)⟩)⟩
 · obtain ⟨a,rfl,ha⟩:=g1 i x hx
   walk_at "rd"
   exact aQ (s2.c9 ha) (v:=.str (S (pr.ax.getD i ⟨[],0,0⟩).name)) (aG (j:=0) rfl) hR
 clear hU3
 rw [lx1,mm (fun b:PG.Box=>V.str (S b.name))] at h2
 have hp2:=s2 _ _ hp
 have n1:D1≠p:=(aA hp hD1).symm
 have u3:bC (·=p) H (upd H2 p (.ins t.aI dx [("names",.ref D1)])):=(bC.of s2).trans (bC.refl.put (O:=(·=p)) rfl _)
 have hp3:(upd H2 p (.ins t.aI dx [("names",.ref D1)])) p=some (.ins t.aI dx [("names",.ref D1)]):=ar
 have d1:(upd H2 p (.ins t.aI dx [("names",.ref D1)])) D1=some (.lst (pr.ax.map fun b=>.str (S b.name))):=by rw [aR n1]; exact h2
 rw [show gf (Str.ofString "names") (V.ref D1) []=[(Str.ofString "names",V.ref D1)] from rfl]
 generalize upd H2 p (.ins t.aI dx [("names",.ref D1)])=H3 at *
 walk_at "rd"
 simp only [wV,j8]
 walk_at "rd"
 have pr3:=mi hp u3 _ _ pr1
 obtain ⟨xs3,hx3,lx3,g3⟩:=sU pr3
 refine ⟨⟨_,hx3⟩,fun D2 hD2=>nF (K:=K) (r:=[]) (fun i=>(.inr (S (pr.ax.getD i ⟨[],0,0⟩).name),.int (pr.ax.getD i ⟨[],0,0⟩).size)) hx3 (by lia) hD2 (fun i x H2 hx s2 R hR=>?_) (fun ps H4 s4 h4 hps ep=>⟨D2,ps,rfl,.of h4,fun q hq=>.of (hps q hq),?_,fun D3 hD3=>⟨p,_,dx,_,rfl,aC.new hD3 _ _ _ (s4 _ _ hp3),T.cu,T.cO,by simp,(hU4 _ _).mpr (ao fun U5 hU5=>?_)⟩⟩)⟩
 · obtain ⟨a,rfl,ha⟩:=g3 i x hx
   walk_at "rd"
   exact aQ (s2.c9 ha) (v:=.str (S (pr.ax.getD i ⟨[],0,0⟩).name)) (aG (j:=0) rfl) (aQ (s2.c9 ha) (v:=.int (pr.ax.getD i ⟨[],0,0⟩).size) (aG (j:=1) rfl) hR)
 · have:=congrArg List.length ep
   simp only [List.length_map,List.length_range] at this
   lia
 clear hU4
 have ek:ps.map (fun q=>(q.2.1,q.2.2))=pr.ax.map fun b=>(Sum.inr (S b.name),V.int b.size):=by
   rw [show (fun q:Addr × Key × V=>(q.2.1,q.2.2))=(·.2) from rfl,ep,lx3,mm (fun b:PG.Box=>((Sum.inr (S b.name):Key),V.int b.size))]
 have nk:((pr.ax.map fun b=>((Sum.inr (S b.name):Key),V.int b.size)).map (·.1)).Nodup:=by
   rw [List.map_map]
   refine List.pairwise_map.mpr ((List.pairwise_map.mp nb).imp fun {a b} hab e=>hab ?_)
   exact sf.mp (Sum.inr.inj e)
 rw [ek,nI nk,show gf (Str.ofString "sizes") (V.ref D3) [(Str.ofString "names",V.ref D1)]=[(Str.ofString "names",V.ref D1),(Str.ofString "sizes",V.ref D3)] from rfl]
 have s4':=s4.trans (aC.new hD3 (.dK (pr.ax.map fun b=>(Sum.inr (S b.name),V.int b.size))))
 have d3:(upd H4 D3 (.dK (pr.ax.map fun b=>(Sum.inr (S b.name),V.int b.size)))) D3=some (.dK (pr.ax.map fun b=>(Sum.inr (S b.name),V.int b.size))):=ar
 generalize upd H4 D3 (.dK (pr.ax.map fun b=>(Sum.inr (S b.name),V.int b.size)))=H5 at *
 have n3:D3≠p:=cQ d3 (s4' _ _ hp3) (by intro z; cases z)
 have u6:bC (·=p) H3 (upd H5 p (.ins t.aI dx [(Str.ofString "names",V.ref D1),(Str.ofString "sizes",V.ref D3)])):=(bC.of s4').trans (bC.refl.put (O:=(·=p)) rfl _)
 have hp6:(upd H5 p (.ins t.aI dx [(Str.ofString "names",V.ref D1),(Str.ofString "sizes",V.ref D3)])) p=some (.ins t.aI dx [(Str.ofString "names",V.ref D1),(Str.ofString "sizes",V.ref D3)]):=ar
 have d3:(upd H5 p (.ins t.aI dx [(Str.ofString "names",V.ref D1),(Str.ofString "sizes",V.ref D3)])) D3=some (.dK (pr.ax.map fun b=>(Sum.inr (S b.name),V.int b.size))):=by rw [aR n3]; exact d3
 generalize upd H5 p (.ins t.aI dx [(Str.ofString "names",V.ref D1),(Str.ofString "sizes",V.ref D3)])=H6 at *
 have d1:=u6 _ _ n1 d1
 have u6:=u3.trans u6
 have pr6:=mi hp u6 _ _ pr1
 have pb6:=mi hp u6 _ _ pr2
 walk_at "rd"
 simp only [wV,j8]
 walk_at "rd"
 have lbd:=jj pr.body
 obtain ⟨xs6,hx6,lx6,g6⟩:=sU pr6
 refine ⟨bb,pr.body,0,rfl,pb6,by lia,⟨_,hx6⟩,fun D4 hD4=>pT (K:=K) (r:=[]) (fun i=>.int (pr.ax.getD i ⟨[],0,0⟩).first) hx6 (by lia) hD4 (fun i x H2 hx s2 R hR=>?_) (fun H7 s7 h7=>⟨D4,_,rfl,.inl ⟨.of h7,fun D5 hD5 D6 hD6=>⟨p,_,dx,_,rfl,aC.new hD6 _ _ _ (aC.new hD5 _ _ _ (s7 _ _ hp6)),T.cu,T.dh,by simp,(hU5 _ _).mpr (ao fun U6 hU6=>?_)⟩⟩⟩)⟩
 · obtain ⟨a,rfl,ha⟩:=g6 i x hx
   walk_at "rd"
   exact aQ (s2.c9 ha) (v:=.int (pr.ax.getD i ⟨[],0,0⟩).first) (aG (j:=2) rfl) hR
 clear hU5
 rw [show gf (Str.ofString "first") (V.ref D6) [(Str.ofString "names",V.ref D1),(Str.ofString "sizes",V.ref D3)]=[(Str.ofString "names",V.ref D1),(Str.ofString "sizes",V.ref D3),(Str.ofString "first",V.ref D6)] from rfl]
 rw [lx6,mm (fun b:PG.Box=>V.int b.first)] at hD6 ⊢
 have s8:=s7.trans ((aC.new hD5 (.tup (pr.ax.map fun b=>V.int b.first))).trans (aC.new hD6 (.tup [V.int (PG.aT pr.body 0),V.ref D5])))
 have d5:(upd (upd H7 D5 (.tup (pr.ax.map fun b=>V.int b.first))) D6 (.tup [V.int (PG.aT pr.body 0),V.ref D5])) D5=some (.tup (pr.ax.map fun b=>V.int b.first)):=aC.new hD6 _ _ _ ar
 have d6:(upd (upd H7 D5 (.tup (pr.ax.map fun b=>V.int b.first))) D6 (.tup [V.int (PG.aT pr.body 0),V.ref D5])) D6=some (.tup [V.int (PG.aT pr.body 0),V.ref D5]):=ar
 generalize upd (upd H7 D5 (.tup (pr.ax.map fun b=>V.int b.first))) D6 (.tup [V.int (PG.aT pr.body 0),V.ref D5])=H8 at *
 have hp8:=s8 _ _ hp6
 have n5:D5≠p:=cQ d5 hp8 (by intro z; cases z)
 have n6:D6≠p:=cQ d6 hp8 (by intro z; cases z)
 have u9:bC (·=p) H6 (upd H8 p (.ins t.aI dx [(Str.ofString "names",V.ref D1),(Str.ofString "sizes",V.ref D3),(Str.ofString "first",V.ref D6)])):=(bC.of s8).trans (bC.refl.put (O:=(·=p)) rfl _)
 have hp9:(upd H8 p (.ins t.aI dx [(Str.ofString "names",V.ref D1),(Str.ofString "sizes",V.ref D3),(Str.ofString "first",V.ref D6)])) p=some (.ins t.aI dx [(Str.ofString "names",V.ref D1),(Str.ofString "sizes",V.ref D3),(Str.ofString "first",V.ref D6)]):=ar
 have d5:(upd H8 p (.ins t.aI dx [(Str.ofString "names",V.ref D1),(Str.ofString "sizes",V.ref D3),(Str.ofString "first",V.ref D6)])) D5=some (.tup (pr.ax.map fun b=>V.int b.first)):=by rw [aR n5]; exact d5
 have d6:(upd H8 p (.ins t.aI dx [(Str.ofString "names",V.ref D1),(Str.ofString "sizes",V.ref D3),(Str.ofString "first",V.ref D6)])) D6=some (.tup [V.int (PG.aT pr.body 0),V.ref D5]):=by rw [aR n6]; exact d6
 generalize upd H8 p (.ins t.aI dx [(Str.ofString "names",V.ref D1),(Str.ofString "sizes",V.ref D3),(Str.ofString "first",V.ref D6)])=H9 at *
 have d1:=u9 _ _ n1 d1
 have d3:=u9 _ _ n3 d3
 have u9:=u6.trans u9
 have pb9:=mi hp u9 _ _ pr2
 walk_at "rd"
 simp only [wV,j8]
 walk_at "rd"
 refine ⟨bb,pr.body,H9,rfl,aC.refl _,pb9,by lia,hf,fun l10 us H10 s10 JD y10 r10=>?_⟩
 have sl:=xp pr.body
 have lus:us.length=(PG.az pr.body).length:=by rw [r10.length,List.length_map]
 refine ⟨l10,rfl,⟨_,.of y10⟩,fun D7 hD7=>nF (K:=K) (r:=[]) (fun i=>(.inl ((PG.az pr.body).getD i (.stop 0)).row,us.getD i .non)) (.of y10) (by lia) hD7 (fun i x H2 hx s2 R hR=>?_) (fun ps H11 s11 h11 hps ep=>⟨D7,ps,rfl,.of h11,fun q hq=>.of (hps q hq),?_,fun D8 hD8=>⟨p,_,dx,_,rfl,aC.new hD8 _ _ _ (s11 _ _ (s10 _ _ hp9)),T.cu,T.bw,by simp,(hU6 _ _).mpr ?_⟩⟩)⟩
 · have li:i < (PG.az pr.body).length:=by have:=(List.getElem?_eq_some_iff.mp hx).1; lia
   obtain ⟨v',hv',rv⟩:=r10.get (i:=i) (d:=dpS (PG.az pr.body)[i]) (by rw [List.getElem?_map,List.getElem?_eq_getElem li]; rfl)
   rw [hx] at hv'
   cases hv'
   have e1:(PG.az pr.body).getD i (.stop 0)=(PG.az pr.body)[i]:=by rw [List.getD_eq_getElem?_getD,List.getElem?_eq_getElem li]; rfl
   have e2:us.getD i .non=x:=by rw [List.getD_eq_getElem?_getD,hx]; rfl
   rw [e1,e2] at hR
   obtain ⟨sa,ys,rfl,hs⟩:=fH _ rv
   walk_at "rd"
   exact aQ ((s10.trans s2).c9 hs) (v:=.int (PG.az pr.body)[i].row) (aG (j:=1) rfl) hR
 · have:=congrArg List.length ep
   simp only [List.length_map,List.length_range] at this
   lia
 clear hU6
 have ek:ps.map (fun q=>(q.2.1,q.2.2))=gu (PG.az pr.body) us:=by
   rw [show (fun q:Addr × Key × V=>(q.2.1,q.2.2))=(·.2) from rfl,ep,lus,xF lus]
 have nk:((gu (PG.az pr.body) us).map (·.1)).Nodup:=by
   rw [sk _ _ lus]
   exact sr pw
 rw [ek,nI nk,show gf (Str.ofString "statements") (V.ref D8) [(Str.ofString "names",V.ref D1),(Str.ofString "sizes",V.ref D3),(Str.ofString "first",V.ref D6)]=[(Str.ofString "names",V.ref D1),(Str.ofString "sizes",V.ref D3),(Str.ofString "first",V.ref D6),(Str.ofString "statements",V.ref D8)] from rfl]
 have s12:=(s10.trans s11).trans (aC.new hD8 (.dK (gu (PG.az pr.body) us)))
 have d8:(upd H11 D8 (.dK (gu (PG.az pr.body) us))) D8=some (.dK (gu (PG.az pr.body) us)):=ar
 generalize upd H11 D8 (.dK (gu (PG.az pr.body) us))=H12 at *
 have Dl:=s12 _ _ hp9
 have n8:D8≠p:=cQ d8 Dl (by intro z; cases z)
 have u13:bC (·=p) H9 (upd H12 p (.ins t.aI dx [(Str.ofString "names",V.ref D1),(Str.ofString "sizes",V.ref D3),(Str.ofString "first",V.ref D6),(Str.ofString "statements",V.ref D8)])):=(bC.of s12).trans (bC.refl.put (O:=(·=p)) rfl _)
 have za:(upd H12 p (.ins t.aI dx [(Str.ofString "names",V.ref D1),(Str.ofString "sizes",V.ref D3),(Str.ofString "first",V.ref D6),(Str.ofString "statements",V.ref D8)])) p=some (.ins t.aI dx [(Str.ofString "names",V.ref D1),(Str.ofString "sizes",V.ref D3),(Str.ofString "first",V.ref D6),(Str.ofString "statements",V.ref D8)]):=ar
 have d8:(upd H12 p (.ins t.aI dx [(Str.ofString "names",V.ref D1),(Str.ofString "sizes",V.ref D3),(Str.ofString "first",V.ref D6),(Str.ofString "statements",V.ref D8)])) D8=some (.dK (gu (PG.az pr.body) us)):=by rw [aR n8]; exact d8
 generalize upd H12 p (.ins t.aI dx [(Str.ofString "names",V.ref D1),(Str.ofString "sizes",V.ref D3),(Str.ofString "first",V.ref D6),(Str.ofString "statements",V.ref D8)])=H13 at *
 have d1:=u13 _ _ n1 d1
 have d3:=u13 _ _ n3 d3
 have d5:=u13 _ _ n5 d5
 have d6:=u13 _ _ n6 d6
 have r13:=jk hp9 u13 _ _ r10
 have u13:=u9.trans u13
 have JE:=mi hp u13 _ _ rp
 walk_at "rd"
 simp only [wV,j8]
 walk_at "rd"
 refine ⟨_,pr,rfl,JE,hd,hf,fun l14 fv H14 s14 JV y14 r14=>?_⟩
 obtain ⟨ws,lws,hws⟩:=Au r14
 have lfv:fv.length=(PG.aN pr.body 0).length:=by rw [r14.length,List.length_map]
 have lfl:(PG.aN pr.body 0).length=(PG.az pr.body).length:=by
   have h1:=congrArg List.length (PG.dE pr.body 0)
   rw [List.length_map] at h1
   lia
 refine ⟨l14,rfl,⟨_,.of y14⟩,fun D9 hD9=>nF (K:=K) (r:=[]) (fun i=>(.inl ((PG.aN pr.body 0).getD i (0,.stop,[])).1,ws.getD i .non)) (.of y14) (by lia) hD9 (fun i x H2 hx s2 R hR=>?_) (fun ps H15 s15 h15 hps ep=>⟨D9,ps,rfl,.of h15,fun q hq=>.of (hps q hq),?_,fun D10 GP=>⟨p,_,dx,_,rfl,aC.new GP _ _ _ (s15 _ _ (s14 _ _ za)),T.cu,T.cG,by simp,?_⟩⟩)⟩
 · have li:i < (PG.aN pr.body 0).length:=by have:=(List.getElem?_eq_some_iff.mp hx).1; lia
   obtain ⟨a,qq,e1,e2,q1,q2⟩:=hws i li
   rw [hx] at e1
   cases e1
   have g1:(PG.aN pr.body 0).getD i (0,.stop,[])=(PG.aN pr.body 0)[i]:=by rw [List.getD_eq_getElem?_getD,List.getElem?_eq_getElem li]; rfl
   have g2:ws.getD i .non=V.ref qq:=by rw [List.getD_eq_getElem?_getD,e2]; rfl
   rw [g1,g2] at hR
   walk_at "rd"
   exact aQ (s2.c9 q1) (v:=.int (PG.aN pr.body 0)[i].1) (aG (j:=0) rfl) (aQ (s2.c9 q1) (v:=.ref qq) (aG (j:=2) rfl) hR)
 · have:=congrArg List.length ep
   simp only [List.length_map,List.length_range] at this
   lia
 have ek:ps.map (fun q=>(q.2.1,q.2.2))=List.zipWith (fun r v=>(Sum.inl r.1,v)) (PG.aN pr.body 0) ws:=by
   rw [show (fun q:Addr × Key × V=>(q.2.1,q.2.2))=(·.2) from rfl,ep,lfv,vL lws]
 have nk:((List.zipWith (fun r v=>((Sum.inl r.1:Key),v)) (PG.aN pr.body 0) ws).map (·.1)).Nodup:=by
   rw [xG lws]
   exact yY pw
 rw [ek,nI nk,show gf (Str.ofString "ways") (V.ref D10) [(Str.ofString "names",V.ref D1),(Str.ofString "sizes",V.ref D3),(Str.ofString "first",V.ref D6),(Str.ofString "statements",V.ref D8)]=[(Str.ofString "names",V.ref D1),(Str.ofString "sizes",V.ref D3),(Str.ofString "first",V.ref D6),(Str.ofString "statements",V.ref D8),(Str.ofString "ways",V.ref D10)] from rfl]
 have s16:=(s14.trans s15).trans (aC.new GP (.dK (List.zipWith (fun r v=>(Sum.inl r.1,v)) (PG.aN pr.body 0) ws)))
 have Iu:=s15.trans (aC.new GP (.dK (List.zipWith (fun r v=>(Sum.inl r.1,v)) (PG.aN pr.body 0) ws)))
 have d10:(upd H15 D10 (.dK (List.zipWith (fun r v=>(Sum.inl r.1,v)) (PG.aN pr.body 0) ws))) D10=some (.dK (List.zipWith (fun r v=>(Sum.inl r.1,v)) (PG.aN pr.body 0) ws)):=ar
 generalize upd H15 D10 (.dK (List.zipWith (fun r v=>(Sum.inl r.1,v)) (PG.aN pr.body 0) ws))=H16 at *
 have GQ:=s16 _ _ za
 have n10:D10≠p:=cQ d10 GQ (by intro z; cases z)
 have put:∀ fs,bC (·=p) H16 (upd H16 p (.ins t.aI dx fs)):=fun fs=>bC.refl.put (O:=(·=p)) rfl _
 have uE:=fun fs=>(bC.of s16).trans (put fs)
 have uA:=fun fs=>u13.trans (uE fs)
 refine q _ (fun b o n e=>uA _ b o n e) ⟨⟨dx,D1,D3,D6,D5,D8,D10,us,ws,ar,uA _ _ _ (cQ hdx hp (by intro z; cases z)) hdx,uE _ _ _ n1 d1,uE _ _ _ n3 d3,uE _ _ _ n6 d6,uE _ _ _ n5 d5,lus,uE _ _ _ n8 d8,jk za (uE _) _ _ r13,lws,put _ _ _ n10 d10,fun i hi=>?_⟩⟩
 obtain ⟨a,qq,e1,e2,q1,q2⟩:=hws i hi
 refine ⟨qq,e2,?_⟩
 have q2:=Iu.c9 q2
 rcases q2 with (q2 | ⟨o,q2⟩) | q2
 · exact .inl (.inl (put _ _ _ (cQ q2 GQ (by intro z; cases z)) q2))
 · exact .inl (.inr ⟨o,put _ _ _ (cQ q2 GQ (by intro z; cases z)) q2⟩)
 · exact .inr q2
theorem Dm (T:Tx K mg t) {n:Nat} (iQ:bP P w K mg base CX0 n t.gS t.oM ["e", "values"] (spW K n)) :
   bP P w K mg base CX0 (n + 1) t.gS t.oM ["e", "values"] (spW K (n + 1)):=by
 refine T.cE.F.okS xA (fun vs H Q E h=>?_) (fun cdv A outer s H vs Q E hr h=>?_)
 · obtain ⟨_,_,_,_,rfl,_⟩:=h
   rfl
 obtain ⟨v,d,tr,kv,rfl,hv,hd,ok,ht,h6,q⟩:=h
 have nd:=xA.nd
 have hu:=uU hr
 refine ⟨_,[some v,some (.ref d),none,none,none],(ag (aE (i:=2) nd rfl (Or.inl rfl) (a9 aV (pv 0) aj aw))
 (ag (bS (aY dA (pv 2) ay (bc _))
 (av (aX (a9 aV (pv 0) aj aw)))
 bo)
 (ag (bS (aY dA (pv 2) ay (bc _))
 (av (aX (fR hu (pv 1) (a9 aV (pv 0) aj aw) (fun _ _=>rfl))))
 bo)
 (ag (aE (i:=3) nd rfl (Or.inl rfl) (aL iQ (hr.mono (by omega)) rfl T.cE.m T.cE.F.kp T.cE.b .nil ba (aa (a9 aV (pv 0) aj aw) (aa (pv 1) ae ah) br)))
 (ag (aE (i:=4) nd rfl (Or.inl rfl) (aL iQ (hr.mono (by omega)) rfl T.cE.m T.cE.F.kp T.cE.b .nil ba (aa (a9 aV (pv 0) aj aw) (aa (pv 1) ae ah) br)))
 (ag (bS (aY dA (pv 2) ay (bc _))
 (av (aX (aU dF (pv 3) (pv 4))))
 bo)
 (ag (bS (aY dA (pv 2) ay (bc _))
 (av (aX (aU BG (pv 3) (pv 4))))
 bo)
 (av (aX (aU Eo (pv 3) (pv 4))))))))))),rfl,?_⟩
 have n1:¬ ("box":Str) = "number":=by decide +kernel
 cases tr with
 | num m=>
   unfold dpT at hv
   simp only [Rep.a8,aM.aP,aM.cf,Rep.bV,Rep.bG] at hv
   obtain ⟨a,xs,rfl,hS,_,_,rfl,rfl,_,_,rfl,rfl,rfl⟩:=hv
   walk_at "rd"
   refine aQ hS rfl ?_
   walk_at "rd"
   rw [if_pos trivial]
   exact aQ hS rfl (q _ (aC.refl _))
 | box x=>
   unfold dpT at hv
   simp only [Rep.a8,aM.aP,aM.cf,Rep.bV,Rep.bG] at hv
   obtain ⟨a,xs,rfl,hS,_,_,rfl,rfl,_,_,rfl,rfl,rfl⟩:=hv
   walk_at "rd"
   refine aQ hS rfl ?_
   walk_at "rd"
   rw [if_neg n1,if_pos trivial]
   obtain ⟨i,e,_⟩:=ok
   have q:=q _ (aC.refl _)
   rw [eB,CV e] at q
   exact aQ hS rfl ⟨d,.int i,rfl,qW.s hd e,q⟩
 | bin o l r=>
   unfold dpT at hv
   simp only [Rep.a8,aM.aP,aM.cf,Rep.bV,Rep.bG] at hv
   obtain ⟨a,xs,rfl,hS,_,_,rfl,rfl,vl,_,rfl,hl,vr,_,rfl,hr',rfl⟩:=hv
   obtain ⟨ho,ol,or'⟩:=ok
   have n2:¬ S o = "number":=by rcases ho with rfl | rfl | rfl <;> decide +kernel
   have n3:¬ S o = "box":=by rcases ho with rfl | rfl | rfl <;> decide +kernel
   have e1:(S o = "+")↔o=[43]:=by rw [show ("+":Str)=S [43] from rfl,sf]
   have e2:(S o = "-")↔o=[45]:=by rw [show ("-":Str)=S [45] from rfl,sf]
   walk_at "rd"
   refine aQ hS rfl ?_
   walk_at "rd"
   rw [if_neg n2,if_neg n3]
   have wl:=oB ol
   have wr:=oB or'
   rw [PG.trd] at ht h6
   refine aQ hS rfl ⟨vl,d,l,kv,rfl,hl,hd,ol,by lia,by lia,fun H1 s1=>?_⟩
   refine aQ (s1.c9 hS) rfl ⟨vr,d,r,kv,rfl,hr'.mono s1,s1 _ _ hd,or',by lia,by lia,fun H2 s2=>?_⟩
   walk_at "rd"
   have q:=q _ (s1.trans s2)
   rw [eB] at q
   refine dM (fun c=>?_) (fun c=>?_)
   · rw [if_pos (e1.mp c)] at q
     exact q
   rw [if_neg (fun z=>c (e1.mpr z))] at q
   refine dM (fun c=>?_) (fun c=>?_)
   · rw [if_pos (e2.mp c)] at q
     exact q
   rw [if_neg (fun z=>c (e2.mpr z))] at q
   exact ⟨⟨CY wl (by lia),CY wr (by lia)⟩,q⟩
theorem pW (T:Tx K mg t):∀ n,bP P w K mg base CX0 n t.gS t.oM ["e", "values"] (spW K n)
 | 0=>by
   have no:∀ vs H Q E,¬ spW K 0 vs H Q E:=fun vs H Q E ⟨_,_,_,_,_,_,_,_,h,_⟩=>by lia
   exact ⟨fun vs H Q E h=>absurd h (no vs H Q E),fun A outer s H args us vs Q E _ _ _ _ h=>absurd h (no vs H Q E)⟩
 | n + 1=>Dm T (pW T n)
theorem qG (T:Tx K mg t):bP P w K mg base CX0 1 t.eM t.qE ["chart", "parts"] (Bj K t.aI):=by
 refine T.eO.F.okS qC (fun vs H Q E h=>?_) (fun cdv A outer s H vs Q E hr h=>?_)
 · obtain ⟨_,_,_,_,rfl,_⟩:=h
   rfl
 obtain ⟨p,a,pr,us,rfl,co,ha,lu,nb,lb,q⟩:=h
 have nd:=qC.nd
 refine ⟨_,[some (.ref p),some (.ref a)],(av (aX (yN rfl rfl T.k4 rfl T.xE (aa (cg (pv 0) rfl) (aa (pv 1) ae ah) ma)))),rfl,?_⟩
 obtain ⟨dx,nl,sd,fa,va,st,wy,uu,ws,h1,h2,h3,_⟩:=co.at_
 walk_at "rd"
 simp only [tDZ]
 walk_at "rd"
 refine ⟨p,_,dx,_,.ref nl,rfl,h1,T.cu,T.cN,rfl,?_⟩
 refine ⟨nl,a,pr.ax.map fun b=>.inr (S b.name),us,rfl,?_,ha,by rw [List.length_map]; exact lu,fun d hd=>?_⟩
 · rw [List.map_map]
   exact .of h3
 · rw [sF,nD _ [] (by rw [List.nil_append,qB _ _ lu]; exact names_nodup nb),List.nil_append]
   exact q d _ (aC.new hd _) hd ar
theorem xH (T:Tx K mg t):bP P w K mg base CX0 1 t.eN t.qF ["chart", "named"] (Bk K t.aI):=by
 refine T.jJ.F.okS qD (fun vs H Q E h=>?_) (fun cdv A outer s H vs Q E hr h=>?_)
 · obtain ⟨_,_,_,_,_,rfl,_⟩:=h
   rfl
 obtain ⟨p,d,pr,kvs,us,rfl,co,hd,lu,hv,lb,q⟩:=h
 have nd:=qD.nd
 have hu:=uU hr
 refine ⟨_,[some (.ref p),some (.ref d)],(av (aX (jg mE rfl T.mw PyProof.Rows.Boot.«tuple» (aa (iL (own:=["name"]) (ix:=[1]) rfl (by rfl) (by rfl) (dW (cg (pv 0) rfl)) (fun _ _ _ _=>(aS (i:=0) (by show List.Nodup (["name", "named"]:List Str); decide +kernel) rfl (Or.inl rfl))) (fun _ _ _ _=>gN) (fun _ _ _ _=>(fR hu (pv 1) (pv 0) (fun _ _=>rfl)))) ae me)))),rfl,?_⟩
 obtain ⟨dx,nl,sd,fa,va,st,wy,uu,ws,h1,h2,h3,_⟩:=co.at_
 walk_at "rd"
 simp only [j8]
 walk_at "rd"
 have ln:(pr.ax.map fun b=>V.str (S b.name)).length=pr.ax.length:=List.length_map ..
 refine ⟨p,_,dx,_,.ref nl,rfl,h1,T.cu,T.cN,rfl,nl,rfl,⟨_,.of h3⟩,fun D hD=>?_⟩
 refine pT (K:=K) (r:=[some (V.ref d)]) (fun i=>us.getD i .non) (.of h3) (by rw [ln]; lia) hD (fun i x H2 hx s2 R hR=>?_) (fun H2 s2 h2=>⟨D,_,rfl,.inl ⟨.of h2,fun l hl=>?_⟩⟩)
 · have li:i < pr.ax.length:=by have:=(List.getElem?_eq_some_iff.mp hx).1; rw [ln] at this; exact this
   rw [List.getElem?_map,List.getElem?_eq_getElem li] at hx
   cases hx
   have g:=hv i li
   have li2:i < us.length:=by lia
   rw [List.getElem?_eq_getElem li2] at g
   have e:us.getD i .non=us[i]:=by rw [List.getD_eq_getElem?_getD,List.getElem?_eq_getElem li2]; rfl
   rw [e] at hR
   walk_at "rd"
   exact ⟨d,us[i],rfl,qW.s (s2 _ _ hd) g,hR⟩
 · have e:(List.range (pr.ax.map fun b=>V.str (S b.name)).length).map (fun i=>us.getD i .non)=us:=by
     rw [ln,← lu]
     have:=mm (fun v:V=>v) V.non us
     rw [List.map_id'] at this
     exact this
   rw [e]
   exact q l _ (s2.trans (aC.new hl _)) (.of ar)
theorem sV (T:Tx K mg t):bP P w K mg base CX0 1 t.fJ t.sP ["chart", "row"] (CZ K t.aI):=by
 refine T.fL.F.okS sN (fun vs H Q E h=>?_) (fun cdv A outer s H vs Q E hr h=>?_)
 · obtain ⟨_,_,_,rfl,_⟩:=h
   rfl
 obtain ⟨p,pr,row,rfl,co,pw,q⟩:=h
 have nd:=sN.nd
 have hu:=uU hr
 obtain ⟨Av,oP,oQ⟩:=T.sS
 refine ⟨_,[some (.ref p),some (.int row)],(ag (bS (aY dA (pv 1) (oh rfl oP oQ) (bc _))
 (av (aX ay))
 bo)
 (av (aX (a9 aV (fR hu (cg (pv 0) rfl) (pv 1) (fun _ _=>rfl)) aj aw)))),rfl,?_⟩
 obtain ⟨dx,nl,sd,fa,va,st,wy,uu,ws,h1,h2,h3,h4,h5,h6,h7,h8,h9,_⟩:=co.at_
 walk_at "rd"
 rcases q with ⟨rfl,q⟩ | ⟨n0,i,hi,er,q⟩
 · exact (if_pos rfl).mpr q
 · refine (if_neg n0).mpr ⟨p,_,dx,_,.ref st,rfl,h1,T.cu,T.bw,rfl,?_⟩
   have li:i < uu.length:=by lia
   obtain ⟨v,hv,rv⟩:=h9.get (i:=i) (d:=dpS (PG.az pr.body)[i]) (by rw [List.getElem?_map,List.getElem?_eq_getElem hi]; rfl)
   have g:=oA _ _ h7 pw i hi v hv
   obtain ⟨sa,ys,rfl,hs⟩:=fH _ rv
   rw [er] at g
   exact ⟨st,.ref sa,rfl,.inl ⟨_,.inl row,.inl h8,rfl,g.symm⟩,aQ hs (v:=.str (wdS (PG.az pr.body)[i].wd)) (aG (j:=0) rfl) q⟩
theorem Dn (T:Tx K mg t):bP P w K mg base CX0 4 t.jH t.xC ["chart", "standing"] (EM K t.aI):=by
 have nJ:=qG (P:=P) (w:=w) (base:=base) T
 have iQ:=pW (P:=P) (w:=w) (base:=base) T 3
 refine T.rM.F.okS xB (fun vs H Q E h=>?_) (fun cdv A outer s H vs Q E hr h=>?_)
 · obtain ⟨_,_,_,_,_,_,_,_,_,rfl,_⟩:=h
   rfl
 obtain ⟨p,sa,pr,vals,i,hi,sg,l,r,rfl,co,ok,⟨va,hsa,hva⟩,lv,cp,tl,tr,q⟩:=h
 have nd:=xB.nd
 have hu:=uU hr
 refine ⟨_,[some (.ref p),some (.ref sa),none,none,none,none],(ag (aE (i:=2) nd rfl (Or.inl rfl) (fR hu (cg (pv 0) rfl) (a9 aV (pv 1) aj aw) (fun _ _=>rfl)))
 (ag (aE (i:=3) nd rfl (Or.inl rfl) (aL nJ (hr.mono (by omega)) rfl T.eO.m T.eO.F.kp T.eO.b .nil ba (aa (pv 0) (aa (a9 aV (pv 1) aj aw) ae br) ah)))
 (ag (aE (i:=4) nd rfl (Or.inl rfl) (aL iQ (hr.mono (by omega)) rfl T.cE.m T.cE.F.kp T.cE.b .nil ba (aa (a9 aV (pv 2) aj aw) (aa (pv 3) ae ah) br)))
 (ag (aE (i:=5) nd rfl (Or.inl rfl) (aL iQ (hr.mono (by omega)) rfl T.cE.m T.cE.F.kp T.cE.b .nil ba (aa (a9 aV (pv 2) aj aw) (aa (pv 3) ae ah) br)))
 (ag (bS (aY dA (a9 aV (pv 2) aj aw) ay (bc _))
 (av (aX (rD wU (pv 4) (pv 5) (bc _))))
 bo)
 (av (aX (rD dA (pv 4) (pv 5) (bc _))))))))),rfl,?_⟩
 obtain ⟨dx,nl,sd,fa,wa,st,wy,uu,ws,h1,h2,h3,h4,h5,h6,h7,h8,h9,_⟩:=co.at_
 have li:i < uu.length:=by lia
 obtain ⟨v,hv,rv⟩:=h9.get (i:=i) (d:=dpS (PG.az pr.body)[i]) (by rw [List.getElem?_map,List.getElem?_eq_getElem hi]; rfl)
 have g:=oA _ _ h7 ok.pw i hi v hv
 obtain ⟨ta,w0,vl,vr,ys,rfl,hs,rl,rr⟩:=yP rv cp
 generalize (PG.az pr.body)[i]=sm at *
 have e1:(V.str (S sg)=V.str (Str.ofString "<"))↔sg=[60]:=by rw [show (Str.ofString "<":Str)=S [60] from rfl,V.str.injEq,sf]
 refine ao fun U1 hU1=>?_
 walk_at "rd"
 refine ⟨p,_,dx,_,.ref st,rfl,h1,T.cu,T.bw,rfl,?_⟩
 refine aQ hsa (v:=.int sm.row) (aG (j:=0) rfl) ⟨st,.ref ta,rfl,.inl ⟨_,.inl sm.row,.inl h8,rfl,g.symm⟩,(hU1 _ _).mpr (ao fun U2 hU2=>?_)⟩
 clear hU1
 walk_at "rd"
 refine aQ hsa (v:=.ref va) (aG (j:=1) rfl) ⟨p,va,pr,vals.map V.int,rfl,co,hva,by rw [List.length_map]; exact lv,ok.nb,ok.few,fun d H2 s2 hd2 y2=>(hU2 _ _).mpr (ao fun U3 hU3=>?_)⟩
 clear hU2
 walk_at "rd"
 refine aQ (s2.c9 hs) (v:=vl) (aG (j:=3) rfl) ⟨vl,d,l,_,rfl,rl.mono s2,y2,tl.1,by have:=tl.2; lia,by have:=tl.2; lia,fun H3 s3=>(hU3 _ _).mpr (ao fun U4 hU4=>?_)⟩
 clear hU3
 walk_at "rd"
 refine aQ ((s2.trans s3).c9 hs) (v:=vr) (aG (j:=4) rfl) ⟨vr,d,r,_,rfl,rr.mono (s2.trans s3),s3 _ _ y2,tr.1,by have:=tr.2; lia,by have:=tr.2; lia,fun H4 s4=>(hU4 _ _).mpr ?_⟩
 clear hU4
 have q:=q _ ((s2.trans s3).trans s4)
 unfold yO at q
 walk_at "rd"
 refine aQ (((s2.trans s3).trans s4).c9 hs) (v:=.str (S sg)) (aG (j:=2) rfl) ⟨rfl,dM (fun e=>?_) (fun e=>?_)⟩
 · rw [if_pos (e1.mp e)] at q
   exact q
 · rw [if_neg (fun z=>e (e1.mpr z))] at q
   exact q
theorem my (T:Tx K mg t):bP P w K mg base CX0 5 t.bI t.gx ["chart", "standing"] (Bn K t.aI):=by
 have EY:=Dn (P:=P) (w:=w) (base:=base) T
 have pX:=sV (P:=P) (w:=w) (base:=base) T
 refine T.dw.F.okS gw (fun vs H Q E h=>?_) (fun cdv A outer s H vs Q E hr h=>?_)
 · obtain ⟨_,_,_,_,_,_,_,_,_,_,rfl,_⟩:=h
   rfl
 obtain ⟨p,sa,pr,vals,i,hi,hf,sg,l,r,rfl,co,ok,sta,lv,cp,tl,tr,w0,w1,q⟩:=h
 have nd:=gw.nd
 have hu:=uU hr
 refine ⟨_,[some (.ref p),some (.ref sa),none],(ag (aE (i:=2) nd rfl (Or.inl rfl) (a9 aV (pv 1) aj aw))
 (ag (bS (yi (aL EY (hr.mono (by omega)) rfl T.rM.m T.rM.F.kp T.rM.b .nil ba (aa (pv 0) (aa (pv 1) ae ah) ah)))
 (av (aX (au (aa (a9 aV (fR hu (cg (pv 0) rfl) (pv 2) (fun _ _=>rfl)) aj aw) (aa (a9 aV (pv 1) aj aw) ae br) br))))
 bo)
 (ag (bS (aY dA (aL pX (hr.mono (by omega)) rfl T.fL.m T.fL.F.kp T.fL.b .nil ba (aa (pv 0) (aa (pv 2) ae ah) ah)) ay (bc _))
 (av (aX eX))
 bo)
 (av (aX (au (aa (a9 aV (fR hu (cg (pv 0) rfl) (pv 2) (fun _ _=>rfl)) aj aw) (aa (a9 aV (pv 1) aj aw) ae br) br))))))),rfl,?_⟩
 obtain ⟨va,hsa,hva⟩:=id sta
 have JW:=ok.pos _ (List.getElem_mem hi)
 refine ao fun U1 hU1=>?_
 walk_at "rd"
 refine aQ hsa (v:=.int (PG.az pr.body)[i].row) (aG (j:=0) rfl) ((hU1 _ _).mpr ?_)
 clear hU1
 walk_at "rd"
 refine ⟨p,sa,pr,vals,i,hi,sg,l,r,rfl,co,ok,sta,lv,cp,tl,tr,fun H2 s2=>?_⟩
 obtain ⟨dx,fs,wy,wq,g1,g2,g3,g4⟩:=(co.mono s2).way ok i hi hf
 have qq:∀ (j:Nat) (x:Int),(PG.aN pr.body 0)[i].2.2[j]?=some x→atI ((PG.aN pr.body 0)[i].2.2.map V.int) (j:Int)=some (V.int x):=fun j x e=>aG (by rw [List.getElem?_map,e]; rfl)
 have back:∀ (x:Int) (H3:Hp),aC H2 H3→∀ pp,H3 pp=none→mJ K (upd H3 pp (.tup [V.int x,V.ref va])) (some (x,vals)) (.ref pp):=fun x H3 s3 pp hpp=>⟨pp,rfl,va,.of ar,((s2.trans s3).trans (aC.new hpp _)).c9 hva⟩
 unfold jn at q
 rw [cp] at q
 simp only at q
 refine ⟨_,rfl,dM (fun e=>?_) (fun e=>?_)⟩
 · rw [if_pos e] at q
   have e0:(PG.aN pr.body 0)[i].2.2[0]?=some ((PG.aN pr.body 0)[i].2.2.getD 0 0):=by rw [List.getD_eq_getElem?_getD,List.getElem?_eq_getElem w0]; rfl
   refine ⟨p,_,dx,fs,.ref wy,rfl,g1,T.cu,T.cG,g2,wy,.ref wq,rfl,g3,aQ g4 (v:=.int ((PG.aN pr.body 0)[i].2.2.getD 0 0)) (qq 0 _ e0) (aQ (s2.c9 hsa) (v:=.ref va) (aG (j:=1) rfl) fun pp hpp=>?_)⟩
   exact q _ _ (s2.trans (aC.new hpp _)) (back _ _ (aC.refl _) pp hpp)
 · rw [if_neg e] at q
   refine ⟨p,pr,_,rfl,co.mono s2,ok.pw,.inr ⟨by lia,i,hi,rfl,rfl,dM (fun e2=>?_) (fun e2=>?_)⟩⟩
   · have ew:(PG.az pr.body)[i].wd=.bZ:=(CB _).mp e2
     rw [if_pos ew] at q
     exact q _ _ s2 rfl
   · have ew:(PG.az pr.body)[i].wd≠.bZ:=fun z=>e2 ((CB _).mpr z)
     rw [if_neg ew] at q
     have w1:=w1 ew
     have e1:(PG.aN pr.body 0)[i].2.2[1]?=some ((PG.aN pr.body 0)[i].2.2.getD 1 0):=by rw [List.getD_eq_getElem?_getD,List.getElem?_eq_getElem w1]; rfl
     refine ⟨p,_,dx,fs,.ref wy,rfl,g1,T.cu,T.cG,g2,wy,.ref wq,rfl,g3,aQ g4 (v:=.int ((PG.aN pr.body 0)[i].2.2.getD 1 0)) (qq 1 _ e1) (aQ (s2.c9 hsa) (v:=.ref va) (aG (j:=1) rfl) fun pp hpp=>?_)⟩
     exact q _ _ (s2.trans (aC.new hpp _)) (back _ _ (aC.refl _) pp hpp)
theorem Aw:∀ w:PG.Wd,inV (V.str (wdS w)) [V.str (Str.ofString "must"),V.str (Str.ofString "if"),V.str (Str.ofString "while")]=decide (w=.bZ∨w=.ifs∨w=.whl):=by
 intro w
 cases w <;> decide +kernel
theorem Dq:∀ w:PG.Wd,(wdS w=Str.ofString "ask")↔w=.ask:=by
 intro w
 cases w <;> decide +kernel
theorem Iw:∀ w:PG.Wd,(wdS w=Str.ofString "put")↔w=.put:=by
 intro w
 cases w <;> decide +kernel
theorem Iy:∀ w:PG.Wd,(wdS w=Str.ofString "say")↔w=.say:=by
 intro w
 cases w <;> decide +kernel
theorem mJ.mono {H H':Hp} {o:Option (Int × List Int)} {v:V} (h:mJ K H o v) (s:aC H H'):mJ K H' o v:=by
 cases o with
 | none=>exact h
 | some x=>obtain ⟨a,e,sa⟩:=h; exact ⟨a,e,sa.mono s⟩
theorem cond_of {bs:List PG.Box} {vals:List Int} {st:PG.Stm} (h:st.wd=.bZ∨st.wd=.ifs∨st.wd=.whl) (po:C0 bs vals st):∃ sg l r,uZ st=some (sg,l,r)∧TrV bs vals l∧TrV bs vals r∧∀ ws fig,mF bs st ws vals fig=(jn bs st ws vals,none):=by
 cases st <;> simp only [PG.Stm.wd,reduceCtorEq,or_self,or_false,false_or] at h <;> exact ⟨_,_,_,rfl,po.1,po.2,fun _ _=>rfl⟩
theorem GR {st:PG.Stm} (h:st.wd=.ask):∃ k b,st=.ask k b:=by
 cases st <;> first | exact ⟨_,_,rfl⟩ | cases h
theorem GS {st:PG.Stm} (h:st.wd=.put):∃ k b e,st=.put k b e:=by
 cases st <;> first | exact ⟨_,_,_,rfl⟩ | cases h
theorem GU {st:PG.Stm} (h:st.wd=.say):∃ k e,st=.say k e:=by
 cases st <;> first | exact ⟨_,_,rfl⟩ | cases h
theorem EZ {st:PG.Stm} (h0:¬ (st.wd=.bZ∨st.wd=.ifs∨st.wd=.whl)) (h1:st.wd≠.ask) (h2:st.wd≠.put) (h3:st.wd≠.say):∃ k,st=.stop k:=by
 cases st <;> simp only [PG.Stm.wd,reduceCtorEq,or_self,or_false,false_or,not_true,not_false_iff,ne_eq] at h0 h1 h2 h3 <;> exact ⟨_,rfl⟩
theorem Bp {H:Hp} {k:Int} {b:W} {v:V} (h:Rep K H (dpS (.ask k b)) v):∃ a,v=.ref a∧SqT K H a [.str "ask",.int k,.str (S b)]:=by
 simp only [dpS,Rep.a8,aM.aP,aM.cf,Rep.bV,Rep.bG] at h
 obtain ⟨a,ys,rfl,hS,_,_,rfl,rfl,_,_,rfl,rfl,_,_,rfl,rfl,rfl⟩:=h
 exact ⟨a,rfl,hS⟩
theorem Bq {H:Hp} {k:Int} {b:W} {e:PM.Tr} {v:V} (h:Rep K H (dpS (.put k b e)) v):∃ a u,v=.ref a∧SqT K H a [.str "put",.int k,.str (S b),u]∧Rep K H (dpT e) u:=by
 simp only [dpS,Rep.a8,aM.aP,aM.cf,Rep.bV,Rep.bG] at h
 obtain ⟨a,ys,rfl,hS,_,_,rfl,rfl,_,_,rfl,rfl,_,_,rfl,rfl,u,_,rfl,ru,rfl⟩:=h
 exact ⟨a,u,rfl,hS,ru⟩
theorem Br {H:Hp} {k:Int} {e:PM.Tr} {v:V} (h:Rep K H (dpS (.say k e)) v):∃ a u,v=.ref a∧SqT K H a [.str "say",.int k,u]∧Rep K H (dpT e) u:=by
 simp only [dpS,Rep.a8,aM.aP,aM.cf,Rep.bV,Rep.bG] at h
 obtain ⟨a,ys,rfl,hS,_,_,rfl,rfl,_,_,rfl,rfl,u,_,rfl,ru,rfl⟩:=h
 exact ⟨a,u,rfl,hS,ru⟩
theorem vv (vals:List Int) (j:Nat) (x:Int):(vals.map V.int).set j (.int x)=(vals.set j x).map V.int:=by
 rw [List.map_set]
theorem ve {bs:List PG.Box} (bp:∀ b∈bs,0 < b.size) (x:W):0 < fU bs x:=by
 unfold fU
 cases e:bs[fB bs x]? with
 | none=>decide
 | some b=>exact bp b (List.mem_of_getElem? e)
theorem zb (T:Tx K mg t):bP P w K mg base CX0 6 t.fK t.sR ["chart", "standing", "figure"] (C1 K t.aI):=by
 have nK:=my (P:=P) (w:=w) (base:=base) T
 have nJ:=qG (P:=P) (w:=w) (base:=base) T
 have zc:=xH (P:=P) (w:=w) (base:=base) T
 have iQ:=pW (P:=P) (w:=w) (base:=base) T 3
 refine T.mv.F.okS sO (fun vs H Q E h=>?_) (fun cdv A outer s H vs Q E hr h=>?_)
 · obtain ⟨_,_,_,_,_,_,_,_,_,rfl,_⟩:=h
   rfl
 obtain ⟨p,sa,fv,pr,vals,fig,i,hi,hf,rfl,co,ok,bp,sta,lv,hfv,po,w0,w1,q⟩:=h
 have nd:=sO.nd
 have hu:=uU hr
 refine ⟨_,[some (.ref p),some (.ref sa),some fv,none,none,none,none,none],(ag (aE (i:=3) nd rfl (Or.inl rfl) (a9 aV (pv 1) aj aw))
 (ag (aE (i:=4) nd rfl (Or.inl rfl) (fR hu (cg (pv 0) rfl) (pv 3) (fun _ _=>rfl)))
 (ag (aE (i:=5) nd rfl (Or.inl rfl) (a9 aV (pv 4) aj aw))
 (ag (bS (aY AW (pv 5) (au (aB (vs:=[.str "must",.str "if",.str "while"]) (by kernel_rfl))) rfl)
 (av (aX (au (aa (aL nK (hr.mono (by omega)) rfl T.dw.m T.dw.F.kp T.dw.b .nil ba (aa (pv 0) (aa (pv 1) ae ah) ah)) (aa eX ae ai) cU))))
 bo)
 (ag (aE (i:=6) nd rfl (Or.inl rfl) (aL nJ (hr.mono (by omega)) rfl T.eO.m T.eO.F.kp T.eO.b .nil ba (aa (pv 0) (aa (a9 aV (pv 1) aj aw) ae br) ah)))
 (ag (aE (i:=7) nd rfl (Or.inl rfl) eX)
 (ag (bS (aY dA (pv 5) ay (bc _))
 (av (zU hu (pv 6) (a9 aV (pv 4) aj aw) (aU bT (pv 2) (fR hu (cg (pv 0) rfl) (a9 aV (pv 4) aj aw) (fun _ _=>rfl))) rfl))
 (av (bS (aY dA (pv 5) ay (bc _))
 (av (zU hu (pv 6) (a9 aV (pv 4) aj aw) (aU bT (aL iQ (hr.mono (by omega)) rfl T.cE.m T.cE.F.kp T.cE.b .nil ba (aa (a9 aV (pv 4) aj aw) (aa (pv 6) ae ah) br)) (fR hu (cg (pv 0) rfl) (a9 aV (pv 4) aj aw) (fun _ _=>rfl))) rfl))
 (av (bS (aY dA (pv 5) ay (bc _))
 (av (aE (i:=7) nd rfl (Or.inl rfl) (aL iQ (hr.mono (by omega)) rfl T.cE.m T.cE.F.kp T.cE.b .nil ba (aa (a9 aV (pv 4) aj aw) (aa (pv 6) ae ah) br))))
 bo)))))
 (av (aX (au (aa (au (aa (a9 aV (fR hu (cg (pv 0) rfl) (pv 3) (fun _ _=>rfl)) aj aw) (aa (aL zc (hr.mono (by omega)) rfl T.jJ.m T.jJ.F.kp T.jJ.b .nil ba (aa (pv 0) (aa (pv 6) ae ah) ah)) ae cU) br)) (aa (pv 7) ae ah) aF))))))))))),rfl,?_⟩
 obtain ⟨va,hsa,hva⟩:=id sta
 obtain ⟨dx,nl,sd,fa,va',st,wy,uu,ws,h1,h2,h3,h4,h5,h6,h7,h8,h9,_⟩:=co.at_
 have li:i < uu.length:=by lia
 obtain ⟨v,hv,rv⟩:=h9.get (i:=i) (d:=dpS (PG.az pr.body)[i]) (by rw [List.getElem?_map,List.getElem?_eq_getElem hi]; rfl)
 have g:=oA _ _ h7 ok.pw i hi v hv
 have sel:∃ ta ds,v=.ref ta∧SqT K H ta (.str (wdS (PG.az pr.body)[i].wd) :: ds):=by
   generalize (PG.az pr.body)[i]=sm at rv
   cases sm <;> (rw [dpS,Rep.a8] at rv; obtain ⟨ta,ys,rfl,hs,rs⟩:=rv; rw [aM.aP] at rs; obtain ⟨v0,t0,rfl,e0,rs⟩:=rs; rw [Rep.bV] at e0; subst e0; exact ⟨ta,_,rfl,hs⟩)
 obtain ⟨ta,ds,rfl,hs⟩:=sel
 refine ao fun U1 hU1=>?_
 walk_at "rd"
 refine aQ hsa (v:=.int (PG.az pr.body)[i].row) (aG (j:=0) rfl) ((hU1 _ _).mpr (ao fun U2 hU2=>?_))
 clear hU1
 walk_at "rd"
 refine ⟨p,_,dx,_,.ref st,rfl,h1,T.cu,T.bw,rfl,⟨st,.ref ta,rfl,.inl ⟨_,.inl _,.inl h8,rfl,g.symm⟩,(hU2 _ _).mpr (ao fun U3 hU3=>?_)⟩⟩
 clear hU2
 walk_at "rd"
 refine aQ hs (v:=.str (wdS (PG.az pr.body)[i].wd)) (aG (j:=0) rfl) ((hU3 _ _).mpr ?_)
 clear hU3
 refine ao fun U4 hU4=>?_
 walk_at "rd"
 intro z hz
 have sz:=aC.new hz (HO.tup [V.str (Str.ofString "must"),V.str (Str.ofString "if"),V.str (Str.ofString "while")])
 refine ⟨z,_,rfl,.inr (.of ar),rfl,rfl,_,rfl,dM (fun e=>?_) (fun e=>?_)⟩
 · have e:=e
   simp only [Bool.false_eq_true,if_false,Aw,decide_eq_true_eq] at e
   obtain ⟨sg,l,r,cp,tl,tr,es⟩:=cond_of e po
   rw [es] at q
   refine ⟨p,sa,pr,vals,i,hi,hf,sg,l,r,rfl,co.mono sz,ok,sta.mono sz,lv,cp,tl,tr,w0,fun nm=>w1 (by rcases e with e | e | e; exact absurd e nm; exact .inl e; exact .inr e),fun v H2 s2 os pp hpp=>?_⟩
   exact q pp v _ ((sz.trans s2).trans (aC.new hpp _)) (.of ar) (mJ.mono os (aC.new hpp _))
 have e0:=e
 simp only [Bool.false_eq_true,if_false,Aw,decide_eq_true_eq] at e0
 refine (hU4 _ _).mpr (ao fun U5 hU5=>?_)
 clear hU4 e
 walk_at "rd"
 refine aQ (sz.c9 hsa) (v:=.ref va) (aG (j:=1) rfl) ⟨p,va,pr,vals.map V.int,rfl,co.mono sz,sz.c9 hva,by rw [List.length_map]; exact lv,ok.nb,ok.few,fun d H2 s2' hd2 y2=>(hU5 _ _).mpr (ao fun U6 hU6=>?_)⟩
 clear hU5
 have s2:=sz.trans s2'
 have hd:=sz.free hd2
 walk_at "rd"
 refine (hU6 _ _).mpr (ao fun U7 hU7=>?_)
 clear hU6
 have fin:∀ (H5:Hp) (kvs:List (Key × V)) (us:List Int) (sd:Option Int),aC H H5→H5 d=some (.dK kvs)→us.length=pr.ax.length→(∀ i (hi:i < pr.ax.length),de kvs (.inr (S pr.ax[i].name))=(us.map V.int)[i]?)→
     mF pr.ax (PG.az pr.body)[i] (PG.aN pr.body 0)[i].2.2 vals fig=(some ((PG.aN pr.body 0)[i].2.2.getD 0 0,us),sd)→
     U7 [some (.ref p),some (.ref sa),some fv,some (.int (PG.az pr.body)[i].row),some (.ref ta),some (.str (wdS (PG.az pr.body)[i].wd)),some (.ref d),some (xu sd)] H5:=by
   intro H5 kvs us sd' s5 hd5 lu look es
   rw [es] at q
   refine (hU7 _ _).mpr ?_
   clear hU7
   walk_at "rd"
   obtain ⟨dx,fs,wy,wq,g1,g2,g3,g4⟩:=(co.mono s5).way ok i hi hf
   have e0:(PG.aN pr.body 0)[i].2.2[0]?=some ((PG.aN pr.body 0)[i].2.2.getD 0 0):=by rw [List.getD_eq_getElem?_getD,List.getElem?_eq_getElem w0]; rfl
   have qq:atI ((PG.aN pr.body 0)[i].2.2.map V.int) ((0:Nat):Int)=some (V.int ((PG.aN pr.body 0)[i].2.2.getD 0 0)):=aG (by rw [List.getElem?_map,e0]; rfl)
   refine ⟨p,_,dx,fs,.ref wy,rfl,g1,T.cu,T.cG,g2,wy,.ref wq,rfl,g3,aQ g4 (v:=.int ((PG.aN pr.body 0)[i].2.2.getD 0 0)) qq ?_⟩
   refine ⟨p,d,pr,kvs,us.map V.int,rfl,co.mono s5,hd5,by rw [List.length_map]; exact lu,look,ok.few,fun a H6 s6 sq p1 hp1 p2 hp2=>?_⟩
   exact q p2 _ _ (((s5.trans s6).trans (aC.new hp1 _)).trans (aC.new hp2 _)) (.of ar) ⟨p1,rfl,a,(aC.new hp2 _).c9 (.of ar),((aC.new hp1 _).trans (aC.new hp2 _)).c9 sq⟩
 have Iz:(dg pr.ax (vals.map V.int)).length < sizeLine:=by
   have line:sizeLine=2 ^ 24:=rfl
   have:=ok.few
   unfold dg
   rw [List.length_zipWith]
   lia
 have keep:∀ i (hi:i < pr.ax.length),de (dg pr.ax (vals.map V.int)) (.inr (S pr.ax[i].name))=(vals.map V.int)[i]?:=fun i hi=>by
   have li:i < (vals.map V.int).length:=by rw [List.length_map]; lia
   rw [jl pr.ax (vals.map V.int) (by rw [List.length_map]; exact lv) ok.nb i hi _ (List.getElem?_eq_getElem li),List.getElem?_eq_getElem li]
 have put:∀ (b:W),b∈pr.ax.map (·.name)→∀ (x:Int),(xt pr.ax vals b x).length=pr.ax.length∧∀ i (hi:i < pr.ax.length),de (putK (dg pr.ax (vals.map V.int)) (.inr (S b)) (.int x)) (.inr (S pr.ax[i].name))=((xt pr.ax vals b x).map V.int)[i]?:=fun b hb x=>by
   refine ⟨by unfold xt; rw [List.length_set]; exact lv,fun i hi=>?_⟩
   rw [yQ (by rw [List.length_map]; exact lv) ok.nb hb,vv]
   rfl
 have IA:∀ H3 o,aC H H3→aC H (upd H3 d o):=fun H3 o s3=>((cv.of s3:cv d H H3).put o).same hd
 walk_at "rd"
 refine dM (fun e=>?_) (fun e=>?_)
 · obtain ⟨k,b,esm⟩:=GR ((Dq _).mp e)
   have rv:=rv
   rw [esm] at rv po
   obtain ⟨_,ee,hT⟩:=Bp rv
   cases ee
   have efv:=hfv ((Dq _).mp e)
   subst efv
   obtain ⟨l1,l2⟩:=put b po (fig % fU pr.ax b)
   refine ⟨p,_,dx,_,.ref sd,rfl,s2 _ _ h1,T.cu,T.cO,rfl,aQ (s2.c9 hT) (v:=.str (S b)) (aG (j:=2) rfl) ⟨sd,.int (fU pr.ax b),rfl,.inl ⟨_,.inr (S b),.inl (s2 _ _ h4),rfl,(xv ok.nb po).symm⟩,?_⟩⟩
   refine ⟨_,_,rfl,rfl,ve bp b,aQ (s2.c9 hT) (v:=.str (S b)) (aG (j:=2) rfl) ⟨d,_,rfl,.inl ⟨_,.inr (S b),y2,rfl,Iz,rfl⟩,?_⟩⟩
   exact fin _ _ _ none (IA _ _ s2) ar l1 l2 (by rw [esm]; rfl)
 refine dM (fun e2=>?_) (fun e2=>?_)
 · obtain ⟨k,b,tr,esm⟩:=GS ((Iw _).mp e2)
   have rv:=rv
   rw [esm] at rv po
   obtain ⟨_,u,ee,hT,ru⟩:=Bq rv
   cases ee
   obtain ⟨l1,l2⟩:=put b po.1 (wv pr.ax vals tr % fU pr.ax b)
   refine aQ (s2.c9 hT) (v:=u) (aG (j:=3) rfl) ⟨u,d,tr,_,rfl,ru.mono s2,y2,po.2.1,by have:=po.2.2; lia,by have:=po.2.2; lia,fun H3 s3'=>?_⟩
   have s3:=s2.trans s3'
   refine ⟨p,_,dx,_,.ref sd,rfl,s3 _ _ h1,T.cu,T.cO,rfl,aQ (s3.c9 hT) (v:=.str (S b)) (aG (j:=2) rfl) ⟨sd,.int (fU pr.ax b),rfl,.inl ⟨_,.inr (S b),.inl (s3 _ _ h4),rfl,(xv ok.nb po.1).symm⟩,?_⟩⟩
   refine ⟨_,_,rfl,rfl,ve bp b,aQ (s3.c9 hT) (v:=.str (S b)) (aG (j:=2) rfl) ⟨d,_,rfl,.inl ⟨_,.inr (S b),s3' _ _ y2,rfl,Iz,rfl⟩,?_⟩⟩
   exact fin _ _ _ none (IA _ _ s3) ar l1 l2 (by rw [esm]; rfl)
 refine dM (fun e3=>?_) (fun e3=>?_)
 · obtain ⟨k,tr,esm⟩:=GU ((Iy _).mp e3)
   have rv:=rv
   rw [esm] at rv po
   obtain ⟨_,u,ee,hT,ru⟩:=Br rv
   cases ee
   refine aQ (s2.c9 hT) (v:=u) (aG (j:=2) rfl) ⟨u,d,tr,_,rfl,ru.mono s2,y2,po.1,by have:=po.2; lia,by have:=po.2; lia,fun H3 s3'=>?_⟩
   exact fin _ _ _ (some _) (s2.trans s3') (s3' _ _ y2) lv keep (by rw [esm]; rfl)
 obtain ⟨k,esm⟩:=EZ e0 (fun z=>e ((Dq _).mpr z)) (fun z=>e2 ((Iw _).mpr z)) (fun z=>e3 ((Iy _).mpr z))
 exact fin _ _ _ none s2 y2 lv keep (by rw [esm]; rfl)
theorem oR (T:Tx K mg t):bP P w K mg base CX0 1 t.bg t.dQ ["self"] (Dd K t.aI t.bz):=by
 refine T.da.okS fW (fun vs H Q E h=>?_) (fun cdv A outer s H vs Q E hr h=>?_)
 · obtain ⟨_,_,_,_,_,_,_,_,rfl,_⟩:=h
   rfl
 obtain ⟨wk,ch,fl,pr,aJ,n,row,vals,rfl,wo,q⟩:=h
 have nd:=fW.nd
 obtain ⟨Av,oP,oQ⟩:=T.sS
 refine ⟨_,[some (.ref wk)],(av (bS (aY dA (a9 aV (cg (pv 0) rfl) aj aw) (oh rfl oP oQ) (bc _))
 (av (eY (pv 0) (au (aa ay ae ai)) rfl))
 bo)),rfl,?_⟩
 obtain ⟨dx,sa,ev,hw,sta,he⟩:=wo.at_
 obtain ⟨va,st1,st2⟩:=id sta
 walk_at "rd"
 refine ⟨wk,_,dx,_,.ref sa,rfl,hw,T.bB,T.bh,rfl,aQ st1 (v:=.int row) (aG (j:=0) rfl) ⟨rfl,dM (fun e=>fun p hp=>?_) (fun e=>?_)⟩⟩
 · have e:=V.int.inj e
   have s1:=aC.new hp (.tup [V.str (Str.ofString "end")])
   refine ⟨wk,_,dx,_,rfl,s1 _ _ hw,T.bB,T.bQ,(show 5 < 1000 by decide),?_⟩
   refine q _ ((cv.of s1).put _) ?_
   unfold PG.endAt
   rw [if_pos e]
   exact (wo.mono s1).put (s1 _ _ hw) (sta.mono s1) ⟨p,rfl,.of ar⟩
 · refine q _ (.refl _ _) ?_
   unfold PG.endAt
   rw [if_neg (fun z=>e (by rw [z]))]
   exact wo
theorem vM (T:Tx K mg t):bP P w K mg base CX0 2 t.c5 t.jI ["self", "chart", "figures"] (Dc K t.aI t.bz):=by
 have eC:=oR (P:=P) (w:=w) (base:=base) T
 refine T.iP.okS oK (fun vs H Q E h=>?_) (fun cdv A outer s H vs Q E hr h=>?_)
 · obtain ⟨_,_,_,_,_,_,rfl,_⟩:=h
   rfl
 obtain ⟨wk,dx,ch,fl,pr,aJ,rfl,hw,co,hf,q⟩:=h
 have nd:=oK.nd
 refine ⟨_,[some (.ref wk),some (.ref ch),some (.ref fl)],(ag (eY (pv 0) (pv 1) rfl)
 (ag (eY (pv 0) (pv 2) rfl)
 (ag (eY (pv 0) aj rfl)
 (ag (eY (pv 0) (cg (pv 1) rfl) rfl)
 (ag (eY (pv 0) eX rfl)
 (av (dU (ou (pv 0) T.bB T.gB eC (hr.mono (by omega)) T.gA .nil ba)))))))),rfl,?_⟩
 obtain ⟨cdx,nl,sd,fa,va,st,wy,us,ws,h1,h2,h3,h4,h5,h6,JN⟩:=co.at_
 have nc:ch≠wk:=cQ h1 hw (by intro z; injection z with _ _ z; cases z)
 walk_at "rd"
 refine ⟨wk,_,dx,_,rfl,hw,T.bB,T.c8,by decide,?_⟩
 refine ⟨wk,_,dx,_,rfl,ar,T.bB,T.cn,Nat.lt_of_le_of_lt (fg (Nat.le_refl 0)) (by decide),?_⟩
 refine ⟨wk,_,dx,_,rfl,ar,T.bB,T.cH,Nat.lt_of_le_of_lt (fg (fg (Nat.le_refl 0))) (by decide),?_⟩
 refine ⟨ch,_,cdx,_,.ref fa,rfl,by rw [aR nc,aR nc,aR nc]; exact h1,T.cu,T.dh,rfl,?_⟩
 refine ⟨wk,_,dx,_,rfl,ar,T.bB,T.bh,Nat.lt_of_le_of_lt (fg (fg (fg (Nat.le_refl 0)))) (by decide),?_⟩
 refine ⟨wk,_,dx,_,rfl,ar,T.bB,T.bQ,Nat.lt_of_le_of_lt (fg (fg (fg (fg (Nat.le_refl 0))))) (by decide),?_⟩
 have sta:jm K H fa (PG.aT pr.body 0) (pr.ax.map (·.first)):=⟨va,.of h5,.of (by rw [List.map_map]; exact h6)⟩
 have u5:=fun o1 o2 o3 o4 o5=>(((((cv.refl wk H).put o1).put o2).put o3).put o4).put o5
 refine ⟨wk,dx,_,rfl,ar,rfl,wk,ch,fl,pr,aJ,0,_,_,rfl,⟨⟨dx,fa,.non,ar,sta.ins hw (u5 _ _ _ _ _),rfl⟩,co.ins hw nc (u5 _ _ _ _ _),hf.ins hw (u5 _ _ _ _ _),nc⟩,fun H6 u6 w6=>q _ ((u5 _ _ _ _ _).trans u6) w6⟩
theorem xI (T:Tx K mg t):bP P w K mg base CX0 2 t.bE t.fh ["self"] (ES K t.aI t.bz):=by
 have pX:=sV (P:=P) (w:=w) (base:=base) T
 refine T.ef.okS iO (fun vs H Q E h=>?_) (fun cdv A outer s H vs Q E hr h=>?_)
 · obtain ⟨_,_,_,_,_,_,_,_,_,_,rfl,_⟩:=h
   rfl
 obtain ⟨wk,ch,fl,pr,aJ,n,vals,e,i,hi,rfl,ok,wo,q⟩:=h
 have nd:=iO.nd
 refine ⟨_,[some (.ref wk)],(av (aX (rD dA (aL pX (hr.mono (by omega)) rfl T.fL.m T.fL.F.kp T.fL.b .nil ba (aa (cg (pv 0) rfl) (aa (a9 aV (cg (pv 0) rfl) aj aw) ae br) ma)) ay (bc _)))),rfl,?_⟩
 obtain ⟨dx,sa,ev,hw,⟨va,st1,st2⟩,he⟩:=wo.at_
 have pos:=ok.pos _ (List.getElem_mem hi)
 walk_at "rd"
 refine ⟨wk,_,dx,_,.ref ch,rfl,hw,T.bB,T.c8,rfl,wk,_,dx,_,.ref sa,rfl,hw,T.bB,T.bh,rfl,aQ st1 (v:=.int (PG.az pr.body)[i].row) (aG (j:=0) rfl) ⟨ch,pr,_,rfl,wo.ch_,ok.pw,.inr ⟨by lia,i,hi,rfl,?_⟩⟩⟩
 have e:decide (V.str (wdS (PG.az pr.body)[i].wd)=V.str (Str.ofString "ask"))=decide ((PG.az pr.body)[i].wd=.ask):=decide_eq_decide.mpr ⟨fun z=>(Dq _).mp (V.str.inj z),fun z=>congrArg V.str ((Dq _).mpr z)⟩
 refine ⟨rfl,?_⟩
 rw [e]
 exact q
theorem zd (T:Tx K mg t):bP P w K mg base CX0 7 t.cD t.i0 ["self"] (GD K t.aI t.bz):=by
 have eC:=oR (P:=P) (w:=w) (base:=base) T
 have pY:=xI (P:=P) (w:=w) (base:=base) T
 have Bs:=zb (P:=P) (w:=w) (base:=base) T
 refine T.gX.okS mO (fun vs H Q E h=>?_) (fun cdv A outer s H vs Q E hr h=>?_)
 · obtain ⟨_,_,_,_,_,_,_,_,rfl,_⟩:=h
   rfl
 obtain ⟨wk,ch,fl,pr,aJ,n,row,vals,rfl,dr,wo,JF,sok,hn,FC,q⟩:=h
 have nd:=mO.nd
 refine ⟨_,[some (.ref wk),none,none],(ag (aE (i:=1) nd rfl (Or.inl rfl) eX)
 (ag (bS (yi (ou (pv 0) T.bB T.pV pY (hr.mono (by omega)) T.pU .nil ba))
 (ag (bS (aY dA (cg (pv 0) rfl) (cJ bF rfl T.gC PyProof.Rows.Boot.«len» (aa (cg (pv 0) rfl) ae ma)) (bc _))
 (ag (eY (pv 0) (au (aa ay ae ai)) rfl)
 (av (aX eX)))
 bo)
 (ag (aE (i:=1) nd rfl (Or.inl rfl) (a9 vA (cg (pv 0) rfl) (cg (pv 0) rfl) Ex))
 (av (AU (pv 0) aj F4))))
 bo)
 (ag (aE (i:=2) nd rfl (Or.inl rfl) (aL Bs (hr.mono (by omega)) rfl T.mv.m T.mv.F.kp T.mv.b .nil ba (aa (cg (pv 0) rfl) (aa (cg (pv 0) rfl) (aa (pv 1) ae ah) ma) ma)))
 (ag (bS (aY yl (a9 aV (pv 2) aj aw) eX (bc _))
 (av (eY (pv 0) (au (aa ay (aa (a9 aV (cg (pv 0) rfl) aj aw) ae br) ai)) rfl))
 (ag (eY (pv 0) (a9 aV (pv 2) aj aw) rfl)
 (av (dU (ou (pv 0) T.bB T.gB eC (hr.mono (by omega)) T.gA .nil ba)))))
 (av (aX (a9 aV (pv 2) aj aw))))))),rfl,?_⟩
 obtain ⟨i,hi,rfl⟩:=sok.row.resolve_left JF
 obtain ⟨hf,ek,ew⟩:=sG pr.body i hi
 obtain ⟨w0,w1⟩:=PG.g8 pr.body 0 _ (List.getElem_mem hf)
 rw [ew] at w1
 obtain ⟨po,so⟩:=GB sok.len dr.ok.nb sok.small (PG.mf pr.body _ dr.own (List.getElem_mem hi))
 have bp:∀ b∈pr.ax,0 < b.size:=fun b hb=>by have:=dr.size b hb; lia
 have ea:nG pr.body (PG.az pr.body)[i].row=decide ((PG.az pr.body)[i].wd=.ask):=by unfold nG; rw [Ao dr.ok.pw i hi]
 have es:∀ f,bJ pr (PG.az pr.body)[i].row vals f=mF pr.ax (PG.az pr.body)[i] (PG.aN pr.body 0)[i].2.2 vals f:=fun f=>by unfold bJ; rw [Ao dr.ok.pw i hi,EO dr.ok.pw i hi hf]
 obtain ⟨dx,sa,ev,hw,sta,he⟩:=wo.at_
 have he:ev=.non:=he
 subst he
 refine ao fun U1 hU1=>?_
 walk_at "rd"
 refine (hU1 _ _).mpr (ao fun U2 hU2=>?_)
 clear hU1
 have rest:∀ (H2:Hp) (n':Nat) (fv:V) (f:Int),cv wk H H2→WkO K t.aI t.bz H2 wk ch fl pr aJ n' (PG.az pr.body)[i].row vals none→((PG.az pr.body)[i].wd=.ask→fv=.int f)→n'≤aJ.length→PG.take1 (nG pr.body (PG.az pr.body)[i].row) (aJ.drop n)=some (f,aJ.drop n')→U2 [some (.ref wk),some fv,none] H2:=by
   intro H2 n' fv f u2 wo2 hfv hn' ht
   obtain ⟨dx2,sa2,ev2,hw2,IB,he2⟩:=wo2.at_
   have he2:ev2=.non:=he2
   subst he2
   refine (hU2 _ _).mpr (ao fun U3 hU3=>?_)
   clear hU2
   walk_at "rd"
   refine ⟨wk,_,dx2,_,.ref ch,rfl,hw2,T.bB,T.c8,rfl,wk,_,dx2,_,.ref sa2,rfl,hw2,T.bB,T.bh,rfl,ch,sa2,fv,pr,vals,f,i,hi,hf,rfl,wo2.ch_,dr.ok,bp,IB,sok.len,hfv,po,w0,w1,fun q1 sv H3 s3 k1 o1=>(hU3 _ _).mpr ?_⟩
   clear hU3
   have wo3:=wo2.mono s3
   have hw3:=s3 _ _ hw2
   have IC:=IB.mono s3
   have u3:=u2.trans (.of s3)
   have sst:=fun x s=>sJ.step (f:=f) (x:=x) (s:=s) dr hi hf sok.len sok.small
   rcases hst:mF pr.ax (PG.az pr.body)[i] (PG.aN pr.body 0)[i].2.2 vals f with ⟨o,sd⟩
   have es2:=(es f).trans hst
   rw [hst] at k1 o1
   simp only at k1 o1
   refine ao fun U4 hU4=>?_
   walk_at "rd"
   refine aQ k1 (v:=sv) (aG (j:=0) rfl) ?_
   cases o with
   | none=>
     have o1:sv=.non:=o1
     subst o1
     have eg:=C8 ht es2
     rw [eg] at q
     obtain ⟨va3,st1,st2⟩:=id IC
     refine dM (fun _=>?_) (fun z=>absurd rfl z)
     refine ⟨wk,_,dx2,_,.ref sa2,rfl,hw3,T.bB,T.bh,rfl,aQ st1 (v:=.int (PG.az pr.body)[i].row) (aG (j:=0) rfl) fun p hp=>?_⟩
     have s4:=aC.new hp (.tup [V.str (Str.ofString "must"),V.int (PG.az pr.body)[i].row])
     refine ⟨wk,_,dx2,_,rfl,s4 _ _ hw3,T.bB,T.bQ,(show 5 < 1000 by decide),(hU4 _ _).mpr ?_⟩
     walk_at "rd"
     refine aQ ((s4.c9 k1).ins (s4 _ _ hw3) ((cv.refl _ _).put _)) (v:=xu sd) (aG (j:=1) rfl) (q _ n' (u3.trans ((cv.of s4).put _)) hn' rfl ((wo3.mono s4).put (s4 _ _ hw3) (IC.mono s4) ⟨p,rfl,.of ar⟩) sok)
   | some x=>
     obtain ⟨sa4,rfl,JG⟩:=o1
     have eg:=C9 ht es2
     rw [eg] at q
     refine dM (fun z=>by cases z) (fun _=>?_)
     refine aQ k1 (v:=.ref sa4) (aG (j:=0) rfl) ⟨wk,_,dx2,_,rfl,hw3,T.bB,T.bh,(show 5 < 1000 by decide),?_⟩
     have u4:cv wk H3 (upd H3 wk (.ins t.bz dx2 (wkF ch fl n' sa4 .non))):=(cv.refl _ _).put _
     have wo4:=wo3.put hw3 (n':=n') JG (show q0 K H3 none .non from rfl)
     refine ⟨wk,dx2,_,rfl,ar,rfl,wk,ch,fl,pr,aJ,n',x.1,x.2,rfl,wo4,fun H5 u5 wo5=>(hU4 _ _).mpr ?_⟩
     walk_at "rd"
     refine aQ ((k1.ins hw3 u4).ins ar u5) (v:=xu sd) (aG (j:=1) rfl) (q _ n' (u3.trans (u4.trans u5)) hn' rfl wo5 (sst x sd hst))
 walk_at "rd"
 refine ⟨wk,dx,_,rfl,hw,rfl,wk,ch,fl,pr,aJ,n,vals,none,i,hi,rfl,dr.ok,wo,?_⟩
 refine ⟨_,rfl,dM (fun e=>?_) (fun e=>?_)⟩
 · have ew:(PG.az pr.body)[i].wd=.ask:=by simpa using e
   refine ⟨wk,_,dx,_,.int n,rfl,hw,T.bB,T.cH,rfl,wk,_,dx,_,.ref fl,rfl,hw,T.bB,T.cn,rfl,fl,_,rfl,.inl wo.fl_,rfl,dM (fun e2=>fun p hp=>?_) (fun e2=>?_)⟩
   · have e2:=V.int.inj e2
     rw [List.length_map] at e2
     have s1:=aC.new hp (.tup [V.str (Str.ofString "out")])
     refine ⟨wk,_,dx,_,rfl,s1 _ _ hw,T.bB,T.bQ,(show 5 < 1000 by decide),?_⟩
     have ed:aJ.drop n=[]:=List.drop_eq_nil_of_le (by lia)
     have eg:=ER (pr:=pr) (row:=(PG.az pr.body)[i].row) (vals:=vals) (left:=aJ.drop n) (by rw [ea,ed]; simp [PG.take1,ew])
     rw [eg] at q
     exact q _ n ((cv.of s1).put _) hn rfl ((wo.mono s1).put (s1 _ _ hw) (sta.mono s1) ⟨p,rfl,.of ar⟩) sok
   · rw [List.length_map] at e2
     have ln:n < aJ.length:=by
       have:n≠aJ.length:=fun z=>e2 (by rw [z])
       lia
     refine ⟨wk,_,dx,_,.ref fl,rfl,hw,T.bB,T.cn,rfl,wk,_,dx,_,.int n,rfl,hw,T.bB,T.cH,rfl,yx wo.fl_ (v:=.int aJ[n]) (aG (by rw [List.getElem?_map,List.getElem?_eq_getElem ln]; rfl)) ?_⟩
     refine ⟨wk,_,dx,_,.int n,rfl,hw,T.bB,T.cH,rfl,?_⟩
     refine ⟨n,1,rfl,rfl,dx,_,hw,(show 5 < 1000 by decide),?_⟩
     refine rest _ (n + 1) _ aJ[n] ((cv.refl _ _).put _) (wo.put hw (n':=n + 1) sta (show q0 K H none .non from rfl)) (fun _=>rfl) ln ?_
     rw [ea,decide_eq_true ew,List.drop_eq_getElem_cons ln]
     rfl
 · have ew:(PG.az pr.body)[i].wd≠.ask:=by simpa using e
   refine rest H n .non 0 (.refl _ _) wo (fun z=>absurd z ew) hn ?_
   rw [ea,decide_eq_false ew]
   rfl
theorem Dr (T:Tx K mg t) (c6:bP P w K mg base CX0 1 t.bY t.d9 ["body", "behind"] (oy K)) (dC:bP P w K mg base CX0 6 t.bt t.cI ["body"] (mh K 4)) (yZ:bP P w K mg base CX0 7 t.jG t.rL ["program"] (yE K)) :
   bP P w K mg base CX0 10 t.sQ t.Dj ["program", "figures", "bound"] (Ic K):=by
 have vN:=um (P:=P) (w:=w) (base:=base) T c6 dC yZ
 have xJ:=vM (P:=P) (w:=w) (base:=base) T
 have vO:=zd (P:=P) (w:=w) (base:=base) T
 refine T.gy.F.okS Dh (fun vs H Q E h=>?_) (fun cdv A outer s H vs Q E hr h=>?_)
 · obtain ⟨_,_,_,_,_,rfl,_⟩:=h
   rfl
 obtain ⟨v,fl,pr,aJ,bound,rfl,dr,rp,hf,FC,hb,q⟩:=h
 have nd:=Dh.nd
 refine ⟨_,[some v,some (.ref fl),some (.int bound),none,none,none,none],(ag (aE (i:=3) nd rfl (Or.inl rfl) (zP T.oO xJ (hr.mono (by omega)) rfl T.EX T.xD .nil ba (aa (zP T.kZ vN (hr.mono (by omega)) rfl T.Dk T.vI .nil ba (aa (pv 0) ae ah)) (aa (pv 1) ae ah) cU)))
 (ag (aE (i:=4) nd rfl (Or.inl rfl) (aO ae))
 (ag (aE (i:=5) nd rfl (Or.inl rfl) (aO ae))
 (ag (wR PassesOwn.never (PW.pt (pw_and (aY yl (cg (pv 3) rfl) eX (bc _)) (pw_and1 (aY wU (cJ bF rfl T.gC PyProof.Rows.Boot.«len» (aa (pv 4) ae ah)) (pv 2) (bc _)))))
 (ag (dU (kK PySem.F.plainAttrs_list PySem.F.slot_list_append PySem.F.type_list_append dD (pv 4) (aa (a9 aV (cg (pv 3) rfl) aj aw) ae br)))
 (ag (aE (i:=6) nd rfl (Or.inl rfl) (ou (pv 3) T.bB T.vK vO (hr.mono (by omega)) T.vJ .nil ba))
 (av (bS (aY zN (pv 6) eX (bc _))
 (av (dU (kK PySem.F.plainAttrs_list PySem.F.slot_list_append PySem.F.type_list_append dD (pv 5) (aa (pv 6) ae ah))))
 bo)))))
 (ag (bS (aY yl (cg (pv 3) rfl) eX (bc _))
 (av (aX (au (aa (pv 4) (aa (pv 5) (aa (au (aa ay ae ai)) ae aF) ah) ah))))
 bo)
 (av (aX (au (aa (pv 4) (aa (pv 5) (aa (cg (pv 3) rfl) ae ma) ah) ah))))))))),rfl,?_⟩
 have line:sizeLine=2 ^ 24:=rfl
 refine ao fun U1 hU1=>?_
 walk_at "rd"
 intro p dx hp hdx ne
 have s1:aC H (upd (upd H dx (.own p)) p (.ins t.aI dx [])):=(aC.new hdx _).trans (aC.new (by rw [aR ne.symm]; exact hp) _)
 refine ⟨p,dx,v,pr,rfl,ar,by rw [aR ne]; exact ar,rp.mono s1,dr.dep,dr.few,dr.ok.pw,dr.ok.nb,dr.ok.few,fun H2 u2 co=>⟨rfl,fun wk dx3 hwk JH ne3=>?_⟩⟩
 have s2:aC H H2:=((cv.of s1).trans u2).same hp
 have s3:aC H2 (upd (upd H2 dx3 (.own wk)) wk (.ins t.bz dx3 [])):=(aC.new JH _).trans (aC.new (by rw [aR ne3.symm]; exact hwk) _)
 refine ⟨wk,dx3,p,fl,pr,aJ,rfl,ar,co.mono s3,(s2.trans s3).seq hf,fun H4 u4 w4=>⟨rfl,(hU1 _ _).mpr ?_⟩⟩
 clear hU1
 have s24:aC H2 H4:=((cv.of s3).trans u4).same hwk
 have flB:SqL K H2 fl (aJ.map V.int):=s2.seq hf
 refine ao fun U2 hU2=>?_
 walk_at "rd"
 intro rl hrl
 refine (hU2 _ _).mpr (ao fun U3 hU3=>?_)
 clear hU2
 walk_at "rd"
 intro sl hsl
 refine (hU3 _ _).mpr (ao fun U4 hU4=>?_)
 clear hU3
 have sA:=aC.new hrl (.lst [])
 have sB:=aC.new hsl (.lst [])
 have GV:H2 rl=none:=fI s24 hrl
 have GW:H2 sl=none:=fI (s24.trans sA) hsl
 have nrs:rl≠sl:=aA ar hsl
 have w6:=w4.mono (sA.trans sB)
 have yr:(upd (upd H4 rl (.lst [])) sl (.lst [])) rl=some (.lst []):=sB _ _ ar
 have ys:(upd (upd H4 rl (.lst [])) sl (.lst [])) sl=some (.lst []):=ar
 have s26:=s24.trans (sA.trans sB)
 clear sA sB
 generalize upd (upd H4 rl (.lst [])) sl (.lst [])=H6 at *
 have tst:=yU.start dr aJ bound
 generalize di pr bound (PG.aT pr.body 0) (pr.ax.map (·.first)) aJ=tot at *
 walk_at "rd"
 obtain ⟨Iv,hIv⟩:∃ Iv:Nat→St→Hp→Prop,∀ m σ Hx,Iv m σ Hx↔∃ (z:Option V) (n:Nat) (row:Int) (vals r s:List Int) (e:Option PG.ck),σ=[some v,some (.ref fl),some (.int bound),some (.ref wk),some (.ref rl),some (.ref sl),z]∧aC H2 Hx∧WkO K t.aI t.bz Hx wk p fl pr aJ n row vals e∧Hx rl=some (.lst (r.map V.int))∧Hx sl=some (.lst (s.map V.int))∧n≤aJ.length∧s.length≤r.length∧r.length + m=bound∧yU pr aJ tot m n row vals r s e:=⟨_,fun _ _ _=>Iff.rfl⟩
 refine ⟨Iv,⟨bound,(hIv _ _ _).mpr ⟨none,0,_,_,[],[],_,rfl,s26,w6,yr,ys,Nat.zero_le _,Nat.le_refl _,by simp,tst⟩⟩,?_⟩
 intro m σ Hx hv
 obtain ⟨z,n,row,vals,r,s',e,rfl,sx,wo,yr,ys,hn,ls,lm,ti⟩:=(hIv _ _ _).mp hv
 clear hv
 obtain ⟨dx,sa,ev,hw,sta,he⟩:=wo.at_
 walk_at "rd"
 refine ⟨wk,_,dx,_,ev,rfl,hw,T.bB,T.bQ,rfl,?_⟩
 cases e with
 | some e0=>
   obtain ⟨ea,rfl,hea⟩:=he
   have ti:tot=⟨r,s',e0⟩:=ti
   rw [ti] at q
   refine dM (fun z=>by cases z) (fun _=>?_)
   refine (if_neg (by decide)).mpr ((hU4 _ _).mpr (ao fun U5 hU5=>?_))
   walk_at "rd"
   refine ⟨wk,_,dx,_,.ref ea,rfl,hw,T.bB,T.bQ,rfl,dM (fun z=>by cases z) (fun _=>(hU5 _ _).mpr ?_)⟩
   walk_at "rd"
   refine ⟨wk,_,dx,_,.ref ea,rfl,hw,T.bB,T.bQ,rfl,fun qa hqa=>?_⟩
   have s9:=aC.new hqa (.tup [V.ref rl,V.ref sl,V.ref ea])
   exact q qa rl sl ea _ (s2.trans (sx.trans s9)) (.of ar) (fI s2 GV) (fI s2 GW) nrs (s9 _ _ yr) (s9 _ _ ys) (s9.c9 hea)
 | none=>
   have he:ev=.non:=he
   subst he
   refine dM (fun _=>?_) (fun z=>absurd rfl z)
   refine ⟨rl,_,rfl,.inl (.of yr),?_⟩
   rw [List.length_map]
   refine dM (fun lt=>?_) (fun nlt=>?_)
   · obtain ⟨k,rfl⟩:∃ k,m=k + 1:=⟨m - 1,by lia⟩
     refine ⟨Iv k,fun σ' H' h=>⟨k,by lia,h⟩,?_⟩
     obtain ⟨h0,sok,_⟩:=id ti
     obtain ⟨va,st1,st2⟩:=sta
     refine ⟨.inl ⟨rfl,_,.of yr⟩,wk,_,dx,_,.ref sa,rfl,hw,T.bB,T.bh,rfl,aQ st1 (v:=.int row) (aG (j:=0) rfl) ⟨rl,_,_,rfl,rfl,yr,by rw [List.length_map]; lia,?_⟩⟩
     have er:r.map V.int ++ [V.int row]=(r ++ [row]).map V.int:=by rw [List.map_append]; rfl
     rw [er]
     have s7:aC H2 (upd Hx rl (.lst ((r ++ [row]).map V.int))):=fun z o e=>by rw [aR (aA e GV)]; exact sx z o e
     have wo7:=wo.lst yr ((cv.refl rl Hx).put (.lst ((r ++ [row]).map V.int))) (co.mono s7) (s7.seq flB)
     have yr7:(upd Hx rl (.lst ((r ++ [row]).map V.int))) rl=some (.lst ((r ++ [row]).map V.int)):=ar
     have ys7:(upd Hx rl (.lst ((r ++ [row]).map V.int))) sl=some (.lst (s'.map V.int)):=by rw [aR nrs.symm]; exact ys
     have hw7:(upd Hx rl (.lst ((r ++ [row]).map V.int))) wk=_:=(aR (cQ hw yr (by intro z; cases z))).trans hw
     generalize upd Hx rl (.lst ((r ++ [row]).map V.int))=H7 at *
     refine ⟨wk,dx,_,rfl,hw7,rfl,wk,p,fl,pr,aJ,n,row,vals,rfl,dr,wo7,h0,sok,hn,FC,fun H8 n' u8 hn' hd wo8 ok8=>?_⟩
     have tg:=ti.go hd ok8
     have s8:aC H2 H8:=fun z o e=>u8 z o (aA e hwk) (s7 z o e)
     have yr8:=u8 _ _ (cQ yr7 hw7 (by intro z; cases z)) yr7
     have ys8:=u8 _ _ (cQ ys7 hw7 (by intro z; cases z)) ys7
     have done:=fun σ H9=>(hIv k σ H9).mpr
     generalize goR pr row vals (aJ.drop n)=g at *
     obtain ⟨g1,g2,g3,g4,g5⟩:=g
     simp only at tg wo8 ok8 hd
     cases g1 with
     | none=>
       refine (if_pos rfl).mpr ?_
       refine done _ _ ⟨_,n',g3,g4,r ++ [row],s',g5,rfl,s8,wo8,yr8,ys8,hn',by simp only [List.length_append,List.length_singleton]; lia,by simp only [List.length_append,List.length_singleton]; lia,?_⟩
       simpa using tg
     | some x=>
       refine (if_neg (by intro w; cases w)).mpr ?_
       have es':s'.map V.int ++ [V.int x]=(s' ++ [x]).map V.int:=by rw [List.map_append]; rfl
       refine ⟨.inl ⟨rfl,_,.of ys8⟩,sl,_,_,rfl,rfl,ys8,by rw [List.length_map]; lia,?_⟩
       show Iv k _ (upd H8 sl (.lst (s'.map V.int ++ [V.int x])))
       rw [es']
       have s9:aC H2 (upd H8 sl (.lst ((s' ++ [x]).map V.int))):=fun z o e=>by rw [aR (aA e GW)]; exact s8 z o e
       refine done _ _ ⟨_,n',g3,g4,r ++ [row],s' ++ [x],g5,rfl,s9,wo8.lst ys8 ((cv.refl sl H8).put _) (co.mono s9) (s9.seq flB),by rw [aR nrs]; exact yr8,ar,hn',by simp only [List.length_append,List.length_singleton]; lia,by simp only [List.length_append,List.length_singleton]; lia,tg⟩
   · have em:m=0:=by lia
     subst em
     obtain ⟨h0,_,ti⟩:=ti
     rw [show di pr 0 row vals (aJ.drop n)=⟨[],[],.on⟩ from PG.vE _ _ h0 _ _] at ti
     simp only [List.append_nil] at ti
     rw [ti] at q
     refine (hU4 _ _).mpr (ao fun U5 hU5=>?_)
     walk_at "rd"
     refine ⟨wk,_,dx,_,.non,rfl,hw,T.bB,T.bQ,rfl,dM (fun _=>fun ea hea qa hqa=>?_) (fun z=>absurd rfl z)⟩
     have s9:=aC.new hea (.tup [V.str (Str.ofString "on")])
     have s10:=aC.new hqa (.tup [V.ref rl,V.ref sl,V.ref ea])
     exact q qa rl sl ea _ (s2.trans (sx.trans (s9.trans s10))) (.of ar) (fI s2 GV) (fI s2 GW) nrs (s10 _ _ (s9 _ _ yr)) (s10 _ _ (s9 _ _ ys)) (s10.c9 (.of ar))
theorem hZ (T:Tx K mg t):bP P w K mg base CX0 1 t.dP t.oN ["cell", "k"] EV:=by
 refine T.aq.F.okS oJ (fun vs H Q E h=>?_) (fun cdv A outer s H vs Q E hr h=>?_)
 · obtain ⟨_,_,rfl,_⟩:=h
   rfl
 obtain ⟨cell,k,rfl,h0,h1,q⟩:=h
 have nd:=oJ.nd
 refine ⟨_,[some (V.int cell),some (V.int k),none,none],(ag (bS (aY Hi (pv 0) (aU FZ aj aj) (bc _))
 (ag (iX PassesOwn.never rfl (jf rfl T.gY (aa (aU bT (pv 1) aj) ae fD)) (aS (i:=2) nd rfl (Or.inl rfl))
 (av (aE (i:=0) nd rfl (Or.inl rfl) (aU zM (pv 0) aj))))
 (av (aX (aU bT (pv 0) aj))))
 bo)
 (ag (aE (i:=3) nd rfl (Or.inl rfl) (aU bT (aU ny (aU dF (aU dF (pv 0) (aU ny aj (pv 1))) aj) aj) aj))
 (ag (aE (i:=3) nd rfl (Or.inl rfl) (aU bT (aU ny (pv 3) (pv 3)) aj))
 (ag (aE (i:=3) nd rfl (Or.inl rfl) (aU bT (aU dF (aU ny (pv 3) aj) (aU ny aj (pv 1))) aj))
 (av (aX (aU zM (aU bT (aU ny (pv 3) (pv 3)) aj) aj))))))),rfl,?_⟩
 have p18:Hh 10 18:=⟨by decide,by decide,by decide⟩
 have qi:∀ z:Int,0≤z→z < 2 ^ 28→Q (.int z) H:=fun z h1 h2=>by
   have:=q z.toNat (by lia)
   rw [Int.toNat_of_nonneg h1] at this
   exact this
 refine ao fun U1 hU1=>?_
 walk_at "rd"
 refine ⟨p18,dM (fun hc=>?_) (fun hc=>?_)⟩
 · refine xk fun U hU=>?_
   walk_at "rd"
   refine ⟨_,rfl,by lia,by lia,hU _ _ ?_⟩
   clear hU
   obtain ⟨Pv,hPv⟩:∃ Pv:Nat→St→Hp→Prop,∀ i σ H1,Pv i σ H1↔H1=H∧∃ (c:Int) (z2:Option V),σ=[some (V.int c),some (V.int k),z2,none]:=⟨_,fun _ _ _=>Iff.rfl⟩
   refine uM (lo:=0) Pv ((hPv _ _ _).mpr ⟨rfl,_,_,rfl⟩) (fun i σ H1 hi hv=>?_) (fun σ H1 hv=>?_)
   · obtain ⟨rfl,c,z2,rfl⟩:=(hPv _ _ _).mp hv
     simp only [eu,List.set]
     walk_at "rd"
     exact (hPv _ _ _).mpr ⟨rfl,_,_,rfl⟩
   · obtain ⟨rfl,c,z2,rfl⟩:=(hPv _ _ _).mp hv
     walk_at "rd"
     exact qi _ (by lia) (by lia)
 · refine (hU1 _ _).mpr ?_
   walk_at "rd"
   have b1:=Int.emod_nonneg ((cell + 977 * k + 1) * 48271) (show (2147483647:Int)≠0 by decide)
   have b2:=Int.emod_lt_of_pos ((cell + 977 * k + 1) * 48271) (show (0:Int) < 2147483647 by decide)
   have c1:AO ((cell + 977 * k + 1) * 48271 % 2147483647) ((cell + 977 * k + 1) * 48271 % 2147483647):=by
     generalize (cell + 977 * k + 1) * 48271 % 2147483647=z at b1 b2 ⊢
     exact mulL (by lia) (by lia)
   generalize (cell + 977 * k + 1) * 48271 % 2147483647=z at c1 ⊢
   have d1:=Int.emod_nonneg (z * z % 2147483629 * 69621 + 13 * k) (show (2147483587:Int)≠0 by decide)
   have d2:=Int.emod_lt_of_pos (z * z % 2147483629 * 69621 + 13 * k) (show (0:Int) < 2147483587 by decide)
   generalize (z * z % 2147483629 * 69621 + 13 * k) % 2147483587=y at d1 d2 ⊢
   refine ⟨mulL (by decide) (by decide),mulR (by decide) (by decide),c1,mulR (by decide) (by decide),mulL (by decide) (by decide),mulL (by lia) (by lia),?_⟩
   have e1:=Int.emod_nonneg (y * y) (show (2147483579:Int)≠0 by decide)
   have e2:=Int.emod_lt_of_pos (y * y) (show (0:Int) < 2147483579 by decide)
   generalize y * y % 2147483579=x at e1 e2 ⊢
   exact qi _ (by lia) (by lia)
theorem ze (T:Tx K mg t):bP P w K mg base CX0 2 t.cK t.kc ["cell"] (GN K):=by
 have aW:=hZ (P:=P) (w:=w) (base:=base) T
 refine T.fj.F.okS ka (fun vs H Q E h=>?_) (fun cdv A outer s H vs Q E hr h=>?_)
 · obtain ⟨_,rfl,_⟩:=h
   rfl
 obtain ⟨cell,rfl,q⟩:=h
 have nd:=ka.nd
 refine ⟨_,[some (V.int cell),none,none,none,none,none,none,none,none,none,none],(@ag _ _ _ _ _ (@aE _ _ 1 _ _ _ _ nd rfl (Or.inl rfl) (@aU _ _ _ _ _ _ _ _ (@dF _) (@aj _ _ _ _) (@aU _ _ _ _ _ _ _ _ (@bT _) (@aL _ _ _ _ _ _ _ _ _ _ _ _ _ _ _ _ aW (hr.mono (by omega)) rfl T.aq.m T.aq.F.kp T.aq.b .nil ba (@aa _ _ _ _ _ (pv 0) (@aa _ _ _ _ _ (@aj _ _ _ _) (@ae _) (@ai _ _ _ _ _)) (@ah _ _ _ _)) (by first | rfl | exact .inl rfl | exact .inr rfl | decide | (intro _; rfl) | assumption) (by first | rfl | exact .inl rfl | exact .inr rfl | decide | (intro _; rfl) | assumption) (by first | rfl | exact .inl rfl | exact .inr rfl | decide | (intro _; rfl) | assumption)) (@aj _ _ _ _))) (by first | rfl | exact .inl rfl | exact .inr rfl | decide | (intro _; rfl) | assumption) (by first | rfl | exact .inl rfl | exact .inr rfl | decide | (intro _; rfl) | assumption)) (@ag _ _ _ _ _ (@aE _ _ 2 _ _ _ _ nd rfl (Or.inl rfl) (@aU _ _ _ _ _ _ _ _ (@bT _) (@aL _ _ _ _ _ _ _ _ _ _ _ _ _ _ _ _ aW (hr.mono (by omega)) rfl T.aq.m T.aq.F.kp T.aq.b .nil ba (@aa _ _ _ _ _ (pv 0) (@aa _ _ _ _ _ (@aj _ _ _ _) (@ae _) (@ai _ _ _ _ _)) (@ah _ _ _ _)) (by first | rfl | exact .inl rfl | exact .inr rfl | decide | (intro _; rfl) | assumption) (by first | rfl | exact .inl rfl | exact .inr rfl | decide | (intro _; rfl) | assumption) (by first | rfl | exact .inl rfl | exact .inr rfl | decide | (intro _; rfl) | assumption)) (pv 1)) (by first | rfl | exact .inl rfl | exact .inr rfl | decide | (intro _; rfl) | assumption) (by first | rfl | exact .inl rfl | exact .inr rfl | decide | (intro _; rfl) | assumption)) (@ag _ _ _ _ _ (@aE _ _ 3 _ _ _ _ nd rfl (Or.inl rfl) (@aU _ _ _ _ _ _ _ _ (@bT _) (@aL _ _ _ _ _ _ _ _ _ _ _ _ _ _ _ _ aW (hr.mono (by omega)) rfl T.aq.m T.aq.F.kp T.aq.b .nil ba (@aa _ _ _ _ _ (pv 0) (@aa _ _ _ _ _ (@aj _ _ _ _) (@ae _) (@ai _ _ _ _ _)) (@ah _ _ _ _)) (by first | rfl | exact .inl rfl | exact .inr rfl | decide | (intro _; rfl) | assumption) (by first | rfl | exact .inl rfl | exact .inr rfl | decide | (intro _; rfl) | assumption) (by first | rfl | exact .inl rfl | exact .inr rfl | decide | (intro _; rfl) | assumption)) (@aU _ _ _ _ _ _ _ _ (@dF _) (pv 1) (@aj _ _ _ _))) (by first | rfl | exact .inl rfl | exact .inr rfl | decide | (intro _; rfl) | assumption) (by first | rfl | exact .inl rfl | exact .inr rfl | decide | (intro _; rfl) | assumption)) (@ag _ _ _ _ _ (@aE _ _ 4 _ _ _ _ nd rfl (Or.inl rfl) (@au _ _ _ _ _ (@aB _ _ ([.str "box",.str "n"]) (by kernel_rfl))) (by first | rfl | exact .inl rfl | exact .inr rfl | decide | (intro _; rfl) | assumption) (by first | rfl | exact .inl rfl | exact .inr rfl | decide | (intro _; rfl) | assumption)) (@ag _ _ _ _ _ (@aE _ _ 5 _ _ _ _ nd rfl (Or.inl rfl) (@aO _ _ _ _ (@aa _ _ _ _ _ (@au _ _ _ _ _ (@aa _ _ _ _ _ (@ay _ _ _ _) (@aa _ _ _ _ _ (@aj _ _ _ _) (@aa _ _ _ _ _ (pv 4) (@ae _) (@ah _ _ _ _)) (@ai _ _ _ _ _)) (@ai _ _ _ _ _))) (@aa _ _ _ _ _ (@au _ _ _ _ _ (@aa _ _ _ _ _ (@ay _ _ _ _) (@aa _ _ _ _ _ (@aj _ _ _ _) (@aa _ _ _ _ _ (@ay _ _ _ _) (@aa _ _ _ _ _ (@au _ _ _ _ _ (@aa _ _ _ _ _ (@ay _ _ _ _) (@aa _ _ _ _ _ (pv 4) (@aa _ _ _ _ _ (@au _ _ _ _ _ (@aB _ _ ([.str "number",.int 1]) (by kernel_rfl))) (@ae _) (@aF _ _ _ _ _)) (@ah _ _ _ _)) (@ai _ _ _ _ _))) (@ae _) (@aF _ _ _ _ _)) (@ai _ _ _ _ _)) (@ai _ _ _ _ _)) (@ai _ _ _ _ _))) (@ae _) (@aF _ _ _ _ _)) (@aF _ _ _ _ _))) (by first | rfl | exact .inl rfl | exact .inr rfl | decide | (intro _; rfl) | assumption) (by first | rfl | exact .inl rfl | exact .inr rfl | decide | (intro _; rfl) | assumption)) (@ag _ _ _ _ _ (@aE _ _ 6 _ _ _ _ nd rfl (Or.inl rfl) (@au _ _ _ _ _ (@aa _ _ _ _ _ (@ay _ _ _ _) (@aa _ _ _ _ _ (@aj _ _ _ _) (@aa _ _ _ _ _ (@ay _ _ _ _) (@aa _ _ _ _ _ (pv 4) (@aa _ _ _ _ _ (@au _ _ _ _ _ (@aa _ _ _ _ _ (@ay _ _ _ _) (@aa _ _ _ _ _ (pv 3) (@ae _) (@ah _ _ _ _)) (@ai _ _ _ _ _))) (@aa _ _ _ _ _ (pv 5) (@ae _) (@ah _ _ _ _)) (@aF _ _ _ _ _)) (@ah _ _ _ _)) (@ai _ _ _ _ _)) (@ai _ _ _ _ _)) (@ai _ _ _ _ _))) (by first | rfl | exact .inl rfl | exact .inr rfl | decide | (intro _; rfl) | assumption) (by first | rfl | exact .inl rfl | exact .inr rfl | decide | (intro _; rfl) | assumption)) (@ag _ _ _ _ _ (@aE _ _ 7 _ _ _ _ nd rfl (Or.inl rfl) (@au _ _ _ _ _ (@aa _ _ _ _ _ (@aO _ _ _ _ (@aa _ _ _ _ _ (@au _ _ _ _ _ (@aa _ _ _ _ _ (@ay _ _ _ _) (@aa _ _ _ _ _ (pv 1) (@aa _ _ _ _ _ (pv 2) (@ae _) (@ah _ _ _ _)) (@ah _ _ _ _)) (@ai _ _ _ _ _))) (@ae _) (@aF _ _ _ _ _))) (@aa _ _ _ _ _ (@aO _ _ _ _ (@aa _ _ _ _ _ (pv 6) (@aa _ _ _ _ _ (@au _ _ _ _ _ (@aa _ _ _ _ _ (@ay _ _ _ _) (@aa _ _ _ _ _ (@aj _ _ _ _) (@aa _ _ _ _ _ (@au _ _ _ _ _ (@aB _ _ ([.str "number",.int 7]) (by kernel_rfl))) (@ae _) (@aF _ _ _ _ _)) (@ai _ _ _ _ _)) (@ai _ _ _ _ _))) (@ae _) (@aF _ _ _ _ _)) (@ah _ _ _ _))) (@ae _) (@df _ _ _ _)) (@df _ _ _ _))) (by first | rfl | exact .inl rfl | exact .inr rfl | decide | (intro _; rfl) | assumption) (by first | rfl | exact .inl rfl | exact .inr rfl | decide | (intro _; rfl) | assumption)) (@ag _ _ _ _ _ (@aE _ _ 8 _ _ _ _ nd rfl (Or.inl rfl) (@aO _ _ _ _ (@ae _)) (by first | rfl | exact .inl rfl | exact .inr rfl | decide | (intro _; rfl) | assumption) (by first | rfl | exact .inl rfl | exact .inr rfl | decide | (intro _; rfl) | assumption)) (@ag _ _ _ _ _ (@aE _ _ 9 _ _ _ _ nd rfl (Or.inl rfl) (@aO _ _ _ _ (@ae _)) (by first | rfl | exact .inl rfl | exact .inr rfl | decide | (intro _; rfl) | assumption) (by first | rfl | exact .inl rfl | exact .inr rfl | decide | (intro _; rfl) | assumption)) (@ag _ _ _ _ _ (@aE _ _ 10 _ _ _ _ nd rfl (Or.inl rfl) (pv 2) (by first | rfl | exact .inl rfl | exact .inr rfl | decide | (intro _; rfl) | assumption) (by first | rfl | exact .inl rfl | exact .inr rfl | decide | (intro _; rfl) | assumption)) (@ag _ _ _ _ _ (@wR _ _ _ _ _ _ PassesOwn.never (@PW.pt _ _ _ (@pw_and _ _ _ _ _ _ _ (@aY _ _ _ _ _ _ _ _ (@wU _) (pv 10) (pv 3) (bc _)) (@pw_and1 _ _ _ _ (@aY _ _ _ _ _ _ _ _ (@wU _) (@cJ _ _ _ _ _ _ _ _ _ bF rfl T.gC PyProof.Rows.Boot.«len» (@aa _ _ _ _ _ (pv 9) (@ae _) (@ah _ _ _ _)) (by first | rfl | exact .inl rfl | exact .inr rfl | decide | (intro _; rfl) | assumption) (by first | rfl | exact .inl rfl | exact .inr rfl | decide | (intro _; rfl) | assumption) (by first | rfl | exact .inl rfl | exact .inr rfl | decide | (intro _; rfl) | assumption) (by first | rfl | exact .inl rfl | exact .inr rfl | decide | (intro _; rfl) | assumption)) (@aj _ _ _ _) (bc _))))) (@ag _ _ _ _ _ (@aE _ _ 9 _ _ _ _ nd rfl (Or.inl rfl) (@aU _ _ _ _ _ _ _ _ (@fC _) (pv 9) (@aO _ _ _ _ (@aB _ _ ([.int 2,.int 3,.int 4]) (by kernel_rfl)))) (by first | rfl | exact .inl rfl | exact .inr rfl | decide | (intro _; rfl) | assumption) (by first | rfl | exact .inl rfl | exact .inr rfl | decide | (intro _; rfl) | assumption)) (@ag _ _ _ _ _ (@dU _ _ _ _ (@kK _ _ _ _ _ _ _ _ _ _ _ _ PySem.F.plainAttrs_list PySem.F.slot_list_append PySem.F.type_list_append dD (pv 8) (@aa _ _ _ _ _ (pv 10) (@ae _) (@ah _ _ _ _)) (by first | rfl | exact .inl rfl | exact .inr rfl | decide | (intro _; rfl) | assumption) (by first | rfl | exact .inl rfl | exact .inr rfl | decide | (intro _; rfl) | assumption) (by first | rfl | exact .inl rfl | exact .inr rfl | decide | (intro _; rfl) | assumption) (by first | rfl | exact .inl rfl | exact .inr rfl | decide | (intro _; rfl) | assumption) (by first | rfl | exact .inl rfl | exact .inr rfl | decide | (intro _; rfl) | assumption)) (by first | rfl | exact .inl rfl | exact .inr rfl | decide | (intro _; rfl) | assumption)) (@av _ _ _ (@aE _ _ 10 _ _ _ _ nd rfl (Or.inl rfl) (@aU _ _ _ _ _ _ _ _ (@bT _) (@aU _ _ _ _ _ _ _ _ (@dF _) (pv 10) (@aj _ _ _ _)) (pv 1)) (by first | rfl | exact .inl rfl | exact .inr rfl | decide | (intro _; rfl) | assumption) (by first | rfl | exact .inl rfl | exact .inr rfl | decide | (intro _; rfl) | assumption)))))) (@ag _ _ _ _ _ (@bS _ _ _ _ _ _ _ _ (@aY _ _ _ _ _ _ _ _ (@wU _) (@cJ _ _ _ _ _ _ _ _ _ bF rfl T.gC PyProof.Rows.Boot.«len» (@aa _ _ _ _ _ (pv 9) (@ae _) (@ah _ _ _ _)) (by first | rfl | exact .inl rfl | exact .inr rfl | decide | (intro _; rfl) | assumption) (by first | rfl | exact .inl rfl | exact .inr rfl | decide | (intro _; rfl) | assumption) (by first | rfl | exact .inl rfl | exact .inr rfl | decide | (intro _; rfl) | assumption) (by first | rfl | exact .inl rfl | exact .inr rfl | decide | (intro _; rfl) | assumption)) (@aj _ _ _ _) (bc _)) (@av _ _ _ (@aX _ _ _ _ (@aO _ _ _ _ (@aa _ _ _ _ _ (pv 7) (@aa _ _ _ _ _ (@aO _ _ _ _ (@ae _)) (@aa _ _ _ _ _ (@aU _ _ _ _ _ _ _ _ (@fC _) (pv 9) (@aO _ _ _ _ (@aB _ _ ([.int 2,.int 6]) (by kernel_rfl)))) (@aa _ _ _ _ _ (@aU _ _ _ _ _ _ _ _ (@fC _) (pv 8) (@aO _ _ _ _ (@aa _ _ _ _ _ (@aj _ _ _ _) (@ae _) (@ai _ _ _ _ _)))) (@aa _ _ _ _ _ (@au _ _ _ _ _ (@aa _ _ _ _ _ (@ay _ _ _ _) (@ae _) (@ai _ _ _ _ _))) (@ae _) (@aF _ _ _ _ _)) (@fD _ _ _ _ _ _)) (@fD _ _ _ _ _ _)) (@df _ _ _ _)) (@ah _ _ _ _))))) (@bo _)) (@av _ _ _ (@aX _ _ _ _ (@aO _ _ _ _ (@aa _ _ _ _ _ (pv 7) (@aa _ _ _ _ _ (@aO _ _ _ _ (@ae _)) (@aa _ _ _ _ _ (pv 9) (@aa _ _ _ _ _ (pv 8) (@aa _ _ _ _ _ (@eX _ _ _) (@ae _) (@ai _ _ _ _ _)) (@ah _ _ _ _)) (@ah _ _ _ _)) (@df _ _ _ _)) (@ah _ _ _ _))))))))))))))))),rfl,?_⟩
 have line:sizeLine=2 ^ 24:=rfl
 refine ao fun U1 hU1=>?_
 walk_at "rd"
 refine ⟨cell,1,rfl,by decide,by decide,fun n1 hn1=>?_⟩
 walk_at "rd"
 refine (hU1 _ _).mpr (ao fun U2 hU2=>?_)
 clear hU1
 obtain ⟨sz,esz⟩:∃ sz,sz=2 + (n1:Int) % 9:=⟨_,rfl⟩
 rw [← esz]
 have z1:2≤sz:=by lia
 have z2:sz≤10:=by lia
 clear esz hn1
 walk_at "rd"
 refine ⟨cell,2,rfl,by decide,by decide,fun n2 hn2=>?_⟩
 walk_at "rd"
 refine ⟨by lia,(hU2 _ _).mpr (ao fun U3 hU3=>?_)⟩
 clear hU2
 have f1:=Int.emod_nonneg (n2:Int) (show sz≠0 by lia)
 have f2:=Int.emod_lt_of_pos (n2:Int) (show 0 < sz by lia)
 generalize (n2:Int) % sz=fi at f1 f2 ⊢
 walk_at "rd"
 refine ⟨cell,3,rfl,by decide,by decide,fun n3 hn3=>?_⟩
 walk_at "rd"
 refine ⟨by lia,(hU3 _ _).mpr (ao fun U4 hU4=>?_)⟩
 clear hU3
 have m1:=Int.emod_nonneg (n3:Int) (show sz + 1≠0 by lia)
 have m2:=Int.emod_lt_of_pos (n3:Int) (show 0 < sz + 1 by lia)
 generalize (n3:Int) % (sz + 1)=mo at m1 m2 ⊢
 walk_at "rd"
 intro p1 hp1
 generalize e1:upd H p1 _=H1
 have s1:=gT e1 hp1
 have r1:Rep K H1 (dpT (.box [110])) (.ref p1):=gTr e1 hp1 (.cons rS (.cons rS .nil))
 refine (hU4 _ _).mpr (ao fun U5 hU5=>?_)
 clear hU4
 walk_at "rd"
 intro p2 hp2
 generalize e2:upd H1 p2 _=H2
 have s2:=gT e2 hp2
 have r2:Rep K H2 (dpS (.say 3 (.box [110]))) (.ref p2):=gTr e2 hp2 (.cons rS (.cons rI_ (.cons r1 .nil)))
 intro p3 hp3
 generalize e3:upd H2 p3 _=H3
 have s3:=gT e3 hp3
 have r3:Rep K H3 (dpT (.num 1)) (.ref p3):=gTr e3 hp3 (.cons rS (.cons rI_ .nil))
 intro p4 hp4
 generalize e4:upd H3 p4 _=H4
 have s4:=gT e4 hp4
 have r4:Rep K H4 (dpT (.bin [43] (.box [110]) (.num 1))) (.ref p4):=gTr e4 hp4 (.cons rS (.cons (r1.mono (s2.trans s3)) (.cons r3 .nil)))
 intro p5 hp5
 generalize e5:upd H4 p5 _=H5
 have s5:=gT e5 hp5
 have r5:Rep K H5 (dpS (.put 4 [110] (.bin [43] (.box [110]) (.num 1)))) (.ref p5):=gTr e5 hp5 (.cons rS (.cons rI_ (.cons rS (.cons r4 .nil))))
 intro p6 hp6
 generalize e6:upd H5 p6 _=H6
 have s6:=gL e6 hp6
 have r6:Rep K H6 (.lst (pP [.say 3 (.box [110]),.put 4 [110] (.bin [43] (.box [110]) (.num 1))])) (.ref p6):=gLr e6 hp6 (.cons (r2.mono (s3.trans (s4.trans s5))) (.cons r5 .nil))
 have r1:=r1.mono (s2.trans (s3.trans (s4.trans (s5.trans s6))))
 have s6:=s1.trans (s2.trans (s3.trans (s4.trans (s5.trans s6))))
 clear e1 e2 e3 e4 e5 e6 r2 r3 r4 r5 s1 s2 s3 s4 s5 hp1 hp2 hp3 hp4 hp5 hp6
 refine (hU5 _ _).mpr (ao fun U6 hU6=>?_)
 clear hU5
 walk_at "rd"
 intro p7 hp7
 generalize e7:upd H6 p7 _=H7
 have s7:=gT e7 hp7
 have r7:Rep K H7 (dpT (.num mo)) (.ref p7):=gTr e7 hp7 (.cons rS (.cons rI_ .nil))
 intro p8 hp8
 generalize e8:upd H7 p8 _=H8
 have s8:=gT e8 hp8
 have r8:Rep K H8 (dpS (.whl 2 [60] (.box [110]) (.num mo) [.say 3 (.box [110]),.put 4 [110] (.bin [43] (.box [110]) (.num 1))])) (.ref p8):=gTr e8 hp8 (.cons rS (.cons rI_ (.cons rS (.cons (r1.mono s7) (.cons r7 (.cons (r6.mono s7) .nil))))))
 have s8:=s6.trans (s7.trans s8)
 clear e7 e8 r7 r6 r1 s6 s7 hp7 hp8
 refine (hU6 _ _).mpr (ao fun U7 hU7=>?_)
 clear hU6
 walk_at "rd"
 intro p9 hp9
 generalize e9:upd H8 p9 _=H9
 have s9:=gT e9 hp9
 have r9:Rep K H9 (eV ⟨[110],sz,fi⟩) (.ref p9):=gTr e9 hp9 (.cons rS (.cons rI_ (.cons rI_ .nil)))
 intro p10 sW
 generalize e10:upd H9 p10 _=H10
 have s10:=gL e10 sW
 have r10:Rep K H10 (.lst [eV ⟨[110],sz,fi⟩]) (.ref p10):=gLr e10 sW (.cons r9 .nil)
 intro p11 sX
 generalize e11:upd H10 p11 _=H11
 have s11:=gT e11 sX
 have r11:Rep K H11 (dpT (.num 7)) (.ref p11):=gTr e11 sX (.cons rS (.cons rI_ .nil))
 intro p12 Dl
 generalize e12:upd H11 p12 _=H12
 have s12:=gT e12 Dl
 have r12:Rep K H12 (dpS (.say 6 (.num 7))) (.ref p12):=gTr e12 Dl (.cons rS (.cons rI_ (.cons r11 .nil)))
 intro p13 za
 generalize e13:upd H12 p13 _=H13
 have s13:=gL e13 za
 have r13:Rep K H13 (.lst ((prC sz fi mo).body.map dpS)) (.ref p13):=gLr e13 za (.cons (r8.mono (s9.trans (s10.trans (s11.trans s12)))) (.cons r12 .nil))
 intro p14 GX
 generalize e14:upd H13 p14 _=H14
 have s14:=gT e14 GX
 have r14:Rep K H14 (fE (prC sz fi mo)) (.ref p14):=gTr e14 GX (.cons (r10.mono (s11.trans (s12.trans s13))) (.cons r13 .nil))
 have s14:=s8.trans (s9.trans (s10.trans (s11.trans (s12.trans (s13.trans s14)))))
 clear e9 e10 e11 e12 e13 e14 r9 r10 r11 r12 r13 r8 s9 s10 s11 s12 s13 hp9 sW sX Dl za GX s8
 refine (hU7 _ _).mpr (ao fun U8 hU8=>?_)
 clear hU7
 walk_at "rd"
 intro sd hsd
 generalize e15:upd H14 sd _=H15
 refine (hU8 _ _).mpr (ao fun U9 hU9=>?_)
 clear hU8
 walk_at "rd"
 intro rw0 hrw
 generalize e16:upd H15 rw0 _=H16
 have s15:=gL e15 hsd
 have s16:=gL e16 hrw
 have y15:=s16 _ _ (gLa e15)
 have y16:=gLa e16
 have n16:rw0≠sd:=(aA (gLa e15) hrw).symm
 have S16:=s15.trans s16
 clear e15 e16 s15 s16 hrw
 refine (hU9 _ _).mpr (ao fun U10 Ds=>?_)
 clear hU9
 walk_at "rd"
 refine (Ds _ _).mpr (ao fun U11 E1=>?_)
 clear Ds
 refine GC fun B hB=>?_
 refine ⟨fun m σ H'=>∃ (R:Addr) (rows said:List Int) (num:Int),σ=[some (V.int cell),some (V.int sz),some (V.int fi),some (V.int mo),some (V.ref p1),some (V.ref p6),some (V.ref p8),some (V.ref p14),some (V.ref sd),some (V.ref R),some (V.int num)]∧aC H14 H'∧H' sd=some (.lst (said.map V.int))∧H' R=some (.lst (rows.map V.int))∧R≠sd∧
   Path (prC sz fi mo) 2 [fi] [] rows said 2 [num] []∧rows.length=3 * said.length∧said.length≤100∧m=100 - said.length,⟨100,rw0,[],[],fi,rfl,S16,y15,y16,n16,.nil,rfl,Nat.zero_le _,rfl⟩,?_⟩
 rintro m σ H17 ⟨R,rows,said,num,rfl,s17,yS,yR,nRS,path,lr,ls,rfl⟩
 walk_at "rd"
 have JX:(rows.map V.int).length=rows.length:=List.length_map ..
 have ext:(num < mo→¬ ((rows.map V.int).length:Int) < 300)→U11 [some (V.int cell),some (V.int sz),some (V.int fi),some (V.int mo),some (V.ref p1),some (V.ref p6),some (V.ref p8),some (V.ref p14),some (V.ref sd),some (V.ref R),some (V.int num)] H17:=by
   intro hb
   refine (E1 _ _).mpr (ao fun U12 E2=>?_)
   walk_at "rd"
   refine ⟨R,_,rfl,.inl (.of yR),dM (fun hl=>?_) (fun hl=>(E2 _ _).mpr ?_)⟩
   · have no:¬ num < mo:=fun z=>hb z hl
     intro a1 ha1
     generalize e1:upd H17 a1 _=H18
     intro a2 ha2
     generalize e2:upd H18 a2 _=H19
     have t1:=gL e1 ha1
     have t2:=gL e2 ha2
     refine ⟨R,a2,_,_,rfl,rfl,t2 _ _ (t1 _ _ yR),gLa e2,by simp; lia,fun a3 ha3=>?_⟩
     generalize e3:upd H19 a3 _=H20
     have t3:=gL e3 ha3
     intro a4 ha4
     generalize e4:upd H20 a4 _=H21
     have t4:=gL e4 ha4
     refine ⟨sd,a4,_,_,rfl,rfl,t4 _ _ (t3 _ _ (t2 _ _ (t1 _ _ yS))),gLa e4,by simp; lia,fun a5 ha5=>?_⟩
     generalize e5:upd H21 a5 _=H22
     have t5:=gL e5 ha5
     intro a6 ha6
     generalize e6:upd H22 a6 _=H23
     have t6:=gT e6 ha6
     intro a7 ha7
     generalize e7:upd H23 a7 _=H24
     have t7:=gL e7 ha7
     have t27:=t2.trans (t3.trans (t4.trans (t5.trans (t6.trans t7))))
     refine q a7 H24 (prC sz fi mo) [] (rows ++ [2,6]) (said ++ [7]) (some .fin) (by simp; lia) (s14.trans (s17.trans (t1.trans t27))) ⟨.ref p14,a1,a3,a5,.ref a6,.of (gLa e7),r14.mono (s17.trans (t1.trans t27)),.of (t27 _ _ (gLa e1)),.of ?_,.of ?_,a6,rfl,.of (t7 _ _ (gTa e6))⟩
       (Known.yV (Ig z1 z2 f1 f2 m1 (by lia)) (Nat.zero_le _) ⟨by simp,by simp; lia⟩ (by simp; lia) (path.app (Ie no)))
     · rw [List.map_append]
       exact t7 _ _ (t6 _ _ (t5 _ _ (t4 _ _ (gLa e3))))
     · rw [List.map_append]
       exact t7 _ _ (t6 _ _ (gLa e5))
   · walk_at "rd"
     intro a1 ha1
     generalize e1:upd H17 a1 _=H18
     have t1:=gL e1 ha1
     intro a2 ha2
     generalize e2:upd H18 a2 _=H19
     have t2:=gL e2 ha2
     exact q a2 H19 (prC sz fi mo) [] rows said none (by lia) (s14.trans (s17.trans (t1.trans t2))) ⟨.ref p14,a1,R,sd,.non,.of (gLa e2),r14.mono (s17.trans (t1.trans t2)),.of (t2 _ _ (gLa e1)),.of (t2 _ _ (t1 _ _ yR)),.of (t2 _ _ (t1 _ _ yS)),rfl⟩
       (Known.Fz (Ig z1 z2 f1 f2 m1 (by lia)) (Nat.zero_le _) ⟨by lia,by lia⟩ (by lia) path)
 refine dM (fun hm=>⟨R,_,rfl,.inl (.of yR),dM (fun hl=>?_) (fun hl=>ext fun _=>hl)⟩) (fun hm=>(if_neg Bool.false_ne_true).mpr (ext fun z=>absurd z hm))
 refine ⟨fun σ H'=>∃ (R:Addr) (rows said:List Int) (num:Int),σ=[some (V.int cell),some (V.int sz),some (V.int fi),some (V.int mo),some (V.ref p1),some (V.ref p6),some (V.ref p8),some (V.ref p14),some (V.ref sd),some (V.ref R),some (V.int num)]∧aC H14 H'∧H' sd=some (.lst (said.map V.int))∧H' R=some (.lst (rows.map V.int))∧R≠sd∧
   Path (prC sz fi mo) 2 [fi] [] rows said 2 [num] []∧rows.length=3 * said.length∧said.length≤100∧100 - said.length < _,fun σ' H' ⟨R,rows,said,num,h1,h2,h3,h4,h5,h6,h7,h8,h9⟩=>⟨_,h9,R,rows,said,num,h1,h2,h3,h4,h5,h6,h7,h8,rfl⟩,hB _ _ _ ?_⟩
 walk_at "rd"
 intro a1 ha1
 generalize e1:upd H17 a1 _=H18
 have t1:=gL e1 ha1
 refine ⟨R,a1,_,_,rfl,rfl,t1 _ _ yR,gLa e1,by simp; lia,fun a2 ha2=>?_⟩
 generalize e2:upd H18 a2 _=H19
 have t2:=gL e2 ha2
 have yS9:=t2 _ _ (t1 _ _ yS)
 have n2:a2≠sd:=(aA (t1 _ _ yS) ha2).symm
 have u:aC H14 (upd H19 sd (.lst (said.map V.int ++ [V.int num]))):=((cv.of (s17.trans (t1.trans t2))).put _).same hsd
 refine ⟨.inl ⟨rfl,_,.of yS9⟩,sd,_,_,rfl,rfl,yS9,by simp; lia,by lia,a2,rows ++ [2,3,4],said ++ [num],_,rfl,u,?_,?_,n2,path.app (GF hm),by simp; lia,by simp; lia,by simp; lia⟩
 · rw [List.map_append]
   exact ar
 · rw [aR n2,List.map_append]
   exact gLa e2
theorem Dt (T:Tx K mg t):bP P w K mg base CX0 2 t.du t.mP ["cell"] (GN K):=by
 have aW:=hZ (P:=P) (w:=w) (base:=base) T
 refine T.gU.F.okS mK (fun vs H Q E h=>?_) (fun cdv A outer s H vs Q E hr h=>?_)
 · obtain ⟨_,rfl,_⟩:=h
   rfl
 obtain ⟨cell,rfl,q⟩:=h
 have nd:=mK.nd
 refine ⟨_,[some (V.int cell),none,none,none,none,none,none,none,none,none,none,none,none],(@ag _ _ _ _ _ (@aE _ _ 1 _ _ _ _ nd rfl (Or.inl rfl) (@aU _ _ _ _ _ _ _ _ (@dF _) (@aj _ _ _ _) (@aU _ _ _ _ _ _ _ _ (@bT _) (@aL _ _ _ _ _ _ _ _ _ _ _ _ _ _ _ _ aW (hr.mono (by omega)) rfl T.aq.m T.aq.F.kp T.aq.b .nil ba (@aa _ _ _ _ _ (pv 0) (@aa _ _ _ _ _ (@aj _ _ _ _) (@ae _) (@ai _ _ _ _ _)) (@ah _ _ _ _)) (by first | rfl | exact .inl rfl | exact .inr rfl | decide | (intro _; rfl) | assumption) (by first | rfl | exact .inl rfl | exact .inr rfl | decide | (intro _; rfl) | assumption) (by first | rfl | exact .inl rfl | exact .inr rfl | decide | (intro _; rfl) | assumption)) (@aj _ _ _ _))) (by first | rfl | exact .inl rfl | exact .inr rfl | decide | (intro _; rfl) | assumption) (by first | rfl | exact .inl rfl | exact .inr rfl | decide | (intro _; rfl) | assumption)) (@ag _ _ _ _ _ (@aE _ _ 2 _ _ _ _ nd rfl (Or.inl rfl) (@aU _ _ _ _ _ _ _ _ (@dF _) (@aj _ _ _ _) (@aU _ _ _ _ _ _ _ _ (@bT _) (@aL _ _ _ _ _ _ _ _ _ _ _ _ _ _ _ _ aW (hr.mono (by omega)) rfl T.aq.m T.aq.F.kp T.aq.b .nil ba (@aa _ _ _ _ _ (pv 0) (@aa _ _ _ _ _ (@aj _ _ _ _) (@ae _) (@ai _ _ _ _ _)) (@ah _ _ _ _)) (by first | rfl | exact .inl rfl | exact .inr rfl | decide | (intro _; rfl) | assumption) (by first | rfl | exact .inl rfl | exact .inr rfl | decide | (intro _; rfl) | assumption) (by first | rfl | exact .inl rfl | exact .inr rfl | decide | (intro _; rfl) | assumption)) (@aj _ _ _ _))) (by first | rfl | exact .inl rfl | exact .inr rfl | decide | (intro _; rfl) | assumption) (by first | rfl | exact .inl rfl | exact .inr rfl | decide | (intro _; rfl) | assumption)) (@ag _ _ _ _ _ (@En _ _ _ _ _ _ _ ["k"] [0] _ _ _ _ 3 _ _ _ nd rfl (Or.inl rfl) rfl (by rfl) (by rfl) (@jf _ _ _ _ _ _ rfl T.gY (@aa _ _ _ _ _ (@aU _ _ _ _ _ _ _ _ (@bT _) (@aL _ _ _ _ _ _ _ _ _ _ _ _ _ _ _ _ aW (hr.mono (by omega)) rfl T.aq.m T.aq.F.kp T.aq.b .nil ba (@aa _ _ _ _ _ (pv 0) (@aa _ _ _ _ _ (@aj _ _ _ _) (@ae _) (@ai _ _ _ _ _)) (@ah _ _ _ _)) (by first | rfl | exact .inl rfl | exact .inr rfl | decide | (intro _; rfl) | assumption) (by first | rfl | exact .inl rfl | exact .inr rfl | decide | (intro _; rfl) | assumption) (by first | rfl | exact .inl rfl | exact .inr rfl | decide | (intro _; rfl) | assumption)) (@aj _ _ _ _)) (@ae _) (@fD _ _ _ _ _ _)) (by first | rfl | exact .inl rfl | exact .inr rfl | decide | (intro _; rfl) | assumption)) (fun _ _ _ _=>(@aS _ _ 0 _ (by show List.Nodup (["k", "cell"]:List Str); decide +kernel) rfl (Or.inl rfl) (by first | rfl | exact .inl rfl | exact .inr rfl | decide | (intro _; rfl) | assumption))) (fun _ _ _ _=>(@gN _)) (fun _ _ _ _=>(@aU _ _ _ _ _ _ _ _ (@bT _) (@aL _ _ _ _ _ _ _ _ _ _ _ _ _ _ _ _ aW (hr.mono (by omega)) rfl T.aq.m T.aq.F.kp T.aq.b .nil ba (@aa _ _ _ _ _ (pv 1) (@aa _ _ _ _ _ (@aU _ _ _ _ _ _ _ _ (@dF _) (@aj _ _ _ _) (pv 0)) (@ae _) (@fD _ _ _ _ _ _)) (@ah _ _ _ _)) (by first | rfl | exact .inl rfl | exact .inr rfl | decide | (intro _; rfl) | assumption) (by first | rfl | exact .inl rfl | exact .inr rfl | decide | (intro _; rfl) | assumption) (by first | rfl | exact .inl rfl | exact .inr rfl | decide | (intro _; rfl) | assumption)) (@aj _ _ _ _))) (by first | rfl | exact .inl rfl | exact .inr rfl | decide | (intro _; rfl) | assumption) (by first | rfl | exact .inl rfl | exact .inr rfl | decide | (intro _; rfl) | assumption) (by first | rfl | exact .inl rfl | exact .inr rfl | decide | (intro _; rfl) | assumption)) (@ag _ _ _ _ _ (@aE _ _ 4 _ _ _ _ nd rfl (Or.inl rfl) (@au _ _ _ _ _ (@aB _ _ ([.str "box",.str "sum"]) (by kernel_rfl))) (by first | rfl | exact .inl rfl | exact .inr rfl | decide | (intro _; rfl) | assumption) (by first | rfl | exact .inl rfl | exact .inr rfl | decide | (intro _; rfl) | assumption)) (@ag _ _ _ _ _ (@aE _ _ 5 _ _ _ _ nd rfl (Or.inl rfl) (@au _ _ _ _ _ (@aB _ _ ([.str "box",.str "n"]) (by kernel_rfl))) (by first | rfl | exact .inl rfl | exact .inr rfl | decide | (intro _; rfl) | assumption) (by first | rfl | exact .inl rfl | exact .inr rfl | decide | (intro _; rfl) | assumption)) (@ag _ _ _ _ _ (@aE _ _ 6 _ _ _ _ nd rfl (Or.inl rfl) (@aO _ _ _ _ (@aa _ _ _ _ _ (@au _ _ _ _ _ (@aB _ _ ([.str "ask",.int 5,.str "a"]) (by kernel_rfl))) (@aa _ _ _ _ _ (@au _ _ _ _ _ (@aa _ _ _ _ _ (@ay _ _ _ _) (@aa _ _ _ _ _ (@aj _ _ _ _) (@aa _ _ _ _ _ (@ay _ _ _ _) (@aa _ _ _ _ _ (@au _ _ _ _ _ (@aa _ _ _ _ _ (@ay _ _ _ _) (@aa _ _ _ _ _ (pv 4) (@aa _ _ _ _ _ (@au _ _ _ _ _ (@aB _ _ ([.str "box",.str "a"]) (by kernel_rfl))) (@ae _) (@aF _ _ _ _ _)) (@ah _ _ _ _)) (@ai _ _ _ _ _))) (@ae _) (@aF _ _ _ _ _)) (@ai _ _ _ _ _)) (@ai _ _ _ _ _)) (@ai _ _ _ _ _))) (@aa _ _ _ _ _ (@au _ _ _ _ _ (@aa _ _ _ _ _ (@ay _ _ _ _) (@aa _ _ _ _ _ (@aj _ _ _ _) (@aa _ _ _ _ _ (pv 4) (@ae _) (@ah _ _ _ _)) (@ai _ _ _ _ _)) (@ai _ _ _ _ _))) (@ae _) (@aF _ _ _ _ _)) (@aF _ _ _ _ _)) (@aF _ _ _ _ _))) (by first | rfl | exact .inl rfl | exact .inr rfl | decide | (intro _; rfl) | assumption) (by first | rfl | exact .inl rfl | exact .inr rfl | decide | (intro _; rfl) | assumption)) (@ag _ _ _ _ _ (@dU _ _ _ _ (@kK _ _ _ _ _ _ _ _ _ _ _ _ PySem.F.plainAttrs_list PySem.F.slot_list_append PySem.F.type_list_append dD (pv 6) (@aa _ _ _ _ _ (@au _ _ _ _ _ (@aa _ _ _ _ _ (@ay _ _ _ _) (@aa _ _ _ _ _ (@aj _ _ _ _) (@aa _ _ _ _ _ (@ay _ _ _ _) (@aa _ _ _ _ _ (@au _ _ _ _ _ (@aa _ _ _ _ _ (@ay _ _ _ _) (@aa _ _ _ _ _ (pv 5) (@aa _ _ _ _ _ (@au _ _ _ _ _ (@aB _ _ ([.str "number",.int 1]) (by kernel_rfl))) (@ae _) (@aF _ _ _ _ _)) (@ah _ _ _ _)) (@ai _ _ _ _ _))) (@ae _) (@aF _ _ _ _ _)) (@ai _ _ _ _ _)) (@ai _ _ _ _ _)) (@ai _ _ _ _ _))) (@ae _) (@aF _ _ _ _ _)) (by first | rfl | exact .inl rfl | exact .inr rfl | decide | (intro _; rfl) | assumption) (by first | rfl | exact .inl rfl | exact .inr rfl | decide | (intro _; rfl) | assumption) (by first | rfl | exact .inl rfl | exact .inr rfl | decide | (intro _; rfl) | assumption) (by first | rfl | exact .inl rfl | exact .inr rfl | decide | (intro _; rfl) | assumption) (by first | rfl | exact .inl rfl | exact .inr rfl | decide | (intro _; rfl) | assumption)) (by first | rfl | exact .inl rfl | exact .inr rfl | decide | (intro _; rfl) | assumption)) (@ag _ _ _ _ _ (@aE _ _ 7 _ _ _ _ nd rfl (Or.inl rfl) (@aO _ _ _ _ (@aa _ _ _ _ _ (@au _ _ _ _ _ (@aB _ _ ([.str "a",.int 10,.int 0]) (by kernel_rfl))) (@aa _ _ _ _ _ (@au _ _ _ _ _ (@aa _ _ _ _ _ (@ay _ _ _ _) (@aa _ _ _ _ _ (pv 1) (@aa _ _ _ _ _ (@aj _ _ _ _) (@ae _) (@ai _ _ _ _ _)) (@ah _ _ _ _)) (@ai _ _ _ _ _))) (@aa _ _ _ _ _ (@au _ _ _ _ _ (@aB _ _ ([.str "n",.int 10,.int 0]) (by kernel_rfl))) (@ae _) (@aF _ _ _ _ _)) (@aF _ _ _ _ _)) (@aF _ _ _ _ _))) (by first | rfl | exact .inl rfl | exact .inr rfl | decide | (intro _; rfl) | assumption) (by first | rfl | exact .inl rfl | exact .inr rfl | decide | (intro _; rfl) | assumption)) (@ag _ _ _ _ _ (@aE _ _ 8 _ _ _ _ nd rfl (Or.inl rfl) (@au _ _ _ _ _ (@aa _ _ _ _ _ (pv 7) (@aa _ _ _ _ _ (@aO _ _ _ _ (@aa _ _ _ _ _ (@au _ _ _ _ _ (@aa _ _ _ _ _ (@ay _ _ _ _) (@aa _ _ _ _ _ (@aj _ _ _ _) (@aa _ _ _ _ _ (@ay _ _ _ _) (@aa _ _ _ _ _ (pv 5) (@aa _ _ _ _ _ (@au _ _ _ _ _ (@aa _ _ _ _ _ (@ay _ _ _ _) (@aa _ _ _ _ _ (pv 2) (@ae _) (@ah _ _ _ _)) (@ai _ _ _ _ _))) (@aa _ _ _ _ _ (pv 6) (@ae _) (@ah _ _ _ _)) (@aF _ _ _ _ _)) (@ah _ _ _ _)) (@ai _ _ _ _ _)) (@ai _ _ _ _ _)) (@ai _ _ _ _ _))) (@ae _) (@aF _ _ _ _ _))) (@ae _) (@df _ _ _ _)) (@ah _ _ _ _))) (by first | rfl | exact .inl rfl | exact .inr rfl | decide | (intro _; rfl) | assumption) (by first | rfl | exact .inl rfl | exact .inr rfl | decide | (intro _; rfl) | assumption)) (@ag _ _ _ _ _ (@aE _ _ 9 _ _ _ _ nd rfl (Or.inl rfl) (@aO _ _ _ _ (@ae _)) (by first | rfl | exact .inl rfl | exact .inr rfl | decide | (intro _; rfl) | assumption) (by first | rfl | exact .inl rfl | exact .inr rfl | decide | (intro _; rfl) | assumption)) (@ag _ _ _ _ _ (@aE _ _ 10 _ _ _ _ nd rfl (Or.inl rfl) (@aO _ _ _ _ (@ae _)) (by first | rfl | exact .inl rfl | exact .inr rfl | decide | (intro _; rfl) | assumption) (by first | rfl | exact .inl rfl | exact .inr rfl | decide | (intro _; rfl) | assumption)) (@ag _ _ _ _ _ (@aE _ _ 11 _ _ _ _ nd rfl (Or.inl rfl) (@aj _ _ _ _) (by first | rfl | exact .inl rfl | exact .inr rfl | decide | (intro _; rfl) | assumption) (by first | rfl | exact .inl rfl | exact .inr rfl | decide | (intro _; rfl) | assumption)) (@ag _ _ _ _ _ (@iX _ _ _ _ _ _ _ _ PassesOwn.never rfl (@jf _ _ _ _ _ _ rfl T.gY (@aa _ _ _ _ _ (pv 2) (@ae _) (@ah _ _ _ _)) (by first | rfl | exact .inl rfl | exact .inr rfl | decide | (intro _; rfl) | assumption)) (@aS _ _ 12 _ nd rfl (Or.inl rfl) (by first | rfl | exact .inl rfl | exact .inr rfl | decide | (intro _; rfl) | assumption)) (@ag _ _ _ _ _ (@aE _ _ 9 _ _ _ _ nd rfl (Or.inl rfl) (@aU _ _ _ _ _ _ _ _ (@fC _) (pv 9) (@aO _ _ _ _ (@aB _ _ ([.int 4,.int 5]) (by kernel_rfl)))) (by first | rfl | exact .inl rfl | exact .inr rfl | decide | (intro _; rfl) | assumption) (by first | rfl | exact .inl rfl | exact .inr rfl | decide | (intro _; rfl) | assumption)) (@ag _ _ _ _ _ (@bS _ _ _ _ _ _ _ _ (@aY _ _ _ _ _ _ _ _ (@dA _) (pv 12) (@cJ _ _ _ _ _ _ _ _ _ bF rfl T.gC PyProof.Rows.Boot.«len» (@aa _ _ _ _ _ (pv 3) (@ae _) (@ah _ _ _ _)) (by first | rfl | exact .inl rfl | exact .inr rfl | decide | (intro _; rfl) | assumption) (by first | rfl | exact .inl rfl | exact .inr rfl | decide | (intro _; rfl) | assumption) (by first | rfl | exact .inl rfl | exact .inr rfl | decide | (intro _; rfl) | assumption) (by first | rfl | exact .inl rfl | exact .inr rfl | decide | (intro _; rfl) | assumption)) (bc _)) (@av _ _ _ (@aX _ _ _ _ (@aO _ _ _ _ (@aa _ _ _ _ _ (pv 8) (@aa _ _ _ _ _ (pv 3) (@aa _ _ _ _ _ (pv 9) (@aa _ _ _ _ _ (pv 10) (@aa _ _ _ _ _ (@au _ _ _ _ _ (@aa _ _ _ _ _ (@ay _ _ _ _) (@ae _) (@ai _ _ _ _ _))) (@ae _) (@aF _ _ _ _ _)) (@ah _ _ _ _)) (@ah _ _ _ _)) (@ah _ _ _ _)) (@ah _ _ _ _))))) (@bo _)) (@ag _ _ _ _ _ (@aE _ _ 11 _ _ _ _ nd rfl (Or.inl rfl) (@aU _ _ _ _ _ _ _ _ (@bT _) (@aU _ _ _ _ _ _ _ _ (@dF _) (pv 11) (@a9 _ _ _ _ _ _ _ (@vA _) (pv 3) (pv 12) (@Ew _ _))) (pv 1)) (by first | rfl | exact .inl rfl | exact .inr rfl | decide | (intro _; rfl) | assumption) (by first | rfl | exact .inl rfl | exact .inr rfl | decide | (intro _; rfl) | assumption)) (@ag _ _ _ _ _ (@aE _ _ 9 _ _ _ _ nd rfl (Or.inl rfl) (@aU _ _ _ _ _ _ _ _ (@fC _) (pv 9) (@aO _ _ _ _ (@aB _ _ ([.int 6,.int 7,.int 8]) (by kernel_rfl)))) (by first | rfl | exact .inl rfl | exact .inr rfl | decide | (intro _; rfl) | assumption) (by first | rfl | exact .inl rfl | exact .inr rfl | decide | (intro _; rfl) | assumption)) (@av _ _ _ (@dU _ _ _ _ (@kK _ _ _ _ _ _ _ _ _ _ _ _ PySem.F.plainAttrs_list PySem.F.slot_list_append PySem.F.type_list_append dD (pv 10) (@aa _ _ _ _ _ (pv 11) (@ae _) (@ah _ _ _ _)) (by first | rfl | exact .inl rfl | exact .inr rfl | decide | (intro _; rfl) | assumption) (by first | rfl | exact .inl rfl | exact .inr rfl | decide | (intro _; rfl) | assumption) (by first | rfl | exact .inl rfl | exact .inr rfl | decide | (intro _; rfl) | assumption) (by first | rfl | exact .inl rfl | exact .inr rfl | decide | (intro _; rfl) | assumption) (by first | rfl | exact .inl rfl | exact .inr rfl | decide | (intro _; rfl) | assumption)) (by first | rfl | exact .inl rfl | exact .inr rfl | decide | (intro _; rfl) | assumption))))))) (by first | rfl | exact .inl rfl | exact .inr rfl | decide | (intro _; rfl) | assumption)) (@av _ _ _ (@aX _ _ _ _ (@aO _ _ _ _ (@aa _ _ _ _ _ (pv 8) (@aa _ _ _ _ _ (pv 3) (@aa _ _ _ _ _ (@aU _ _ _ _ _ _ _ _ (@fC _) (pv 9) (@aO _ _ _ _ (@aa _ _ _ _ _ (@aj _ _ _ _) (@ae _) (@ai _ _ _ _ _)))) (@aa _ _ _ _ _ (pv 10) (@aa _ _ _ _ _ (@au _ _ _ _ _ (@aa _ _ _ _ _ (@ay _ _ _ _) (@ae _) (@ai _ _ _ _ _))) (@ae _) (@aF _ _ _ _ _)) (@ah _ _ _ _)) (@fD _ _ _ _ _ _)) (@ah _ _ _ _)) (@ah _ _ _ _)))))))))))))))))),rfl,?_⟩
 have line:sizeLine=2 ^ 24:=rfl
 refine ao fun U1 hU1=>?_
 walk_at "rd"
 refine ⟨cell,1,rfl,by decide,by decide,fun n1 hn1=>?_⟩
 walk_at "rd"
 refine (hU1 _ _).mpr (ao fun U2 hU2=>?_)
 clear hU1
 obtain ⟨sz,esz⟩:∃ sz,sz=2 + (n1:Int) % 9:=⟨_,rfl⟩
 rw [← esz]
 have z1:2≤sz:=by lia
 have z2:sz≤10:=by lia
 clear esz hn1
 walk_at "rd"
 refine ⟨cell,2,rfl,by decide,by decide,fun n2 hn2=>?_⟩
 walk_at "rd"
 refine (hU2 _ _).mpr (ao fun U3 hU3=>?_)
 clear hU2
 obtain ⟨mn,emn⟩:∃ mn:Nat,(mn:Int)=1 + (n2:Int) % 9:=⟨(1 + (n2:Int) % 9).toNat,by lia⟩
 rw [← emn]
 have m1:1≤mn:=by lia
 have m2:mn≤9:=by lia
 clear emn hn2
 walk_at "rd"
 simp only [j8]
 walk_at "rd"
 refine ⟨cell,3,rfl,by decide,by decide,fun n3 hn3=>?_⟩
 walk_at "rd"
 refine ⟨_,rfl,by lia,by lia,fun FL hFL=>?_⟩
 obtain ⟨nf,enf⟩:∃ nf:Nat,(nf:Int)=(n3:Int) % 12:=⟨((n3:Int) % 12).toNat,by lia⟩
 rw [← enf,show ((nf:Int)).toNat=nf from Int.toNat_natCast _]
 have lnf:nf≤11:=by lia
 clear enf hn3
 refine vc (r:=[some (V.int cell)]) (fun _ m=>0≤m∧m≤9) (by lia) hFL (fun i H2 hi s2 R hR=>?_) (fun aJ lf ok=>(hU3 _ _).mpr (ao fun U4 hU4=>?_))
 · walk_at "rd"
   refine ⟨cell,10 + i,rfl,by lia,by lia,fun n4 hn4=>?_⟩
   walk_at "rd"
   exact hR _ ⟨by lia,by lia⟩
 clear hU3
 generalize e0:upd H FL _=H0
 have s0:=gL e0 hFL
 have y0:=gLa e0
 clear e0 hFL
 walk_at "rd"
 intro p1 hp1
 generalize e1:upd H0 p1 _=H1
 have s1:=gT e1 hp1
 have r1:Rep K H1 (dpT (.box [115,117,109])) (.ref p1):=gTr e1 hp1 (.cons rS (.cons rS .nil))
 refine (hU4 _ _).mpr (ao fun U5 hU5=>?_)
 clear hU4
 walk_at "rd"
 intro p2 hp2
 generalize e2:upd H1 p2 _=H2
 have s2:=gT e2 hp2
 have r2:Rep K H2 (dpT (.box [110])) (.ref p2):=gTr e2 hp2 (.cons rS (.cons rS .nil))
 refine (hU5 _ _).mpr (ao fun U6 hU6=>?_)
 clear hU5
 walk_at "rd"
 intro p3 hp3
 generalize e3:upd H2 p3 _=H3
 have s3:=gT e3 hp3
 have r3:Rep K H3 (dpS (.ask 5 [97])) (.ref p3):=gTr e3 hp3 (.cons rS (.cons rI_ (.cons rS .nil)))
 intro p4 hp4
 generalize e4:upd H3 p4 _=H4
 have s4:=gT e4 hp4
 have r4:Rep K H4 (dpT (.box [97])) (.ref p4):=gTr e4 hp4 (.cons rS (.cons rS .nil))
 intro p5 hp5
 generalize e5:upd H4 p5 _=H5
 have s5:=gT e5 hp5
 have r5:Rep K H5 (dpT (.bin [43] (.box [115,117,109]) (.box [97]))) (.ref p5):=gTr e5 hp5 (.cons rS (.cons (r1.mono (s2.trans (s3.trans s4))) (.cons r4 .nil)))
 intro p6 hp6
 generalize e6:upd H5 p6 _=H6
 have s6:=gT e6 hp6
 have r6:Rep K H6 (dpS (.put 6 [115,117,109] (.bin [43] (.box [115,117,109]) (.box [97])))) (.ref p6):=gTr e6 hp6 (.cons rS (.cons rI_ (.cons rS (.cons r5 .nil))))
 intro p7 hp7
 generalize e7:upd H6 p7 _=H7
 have s7:=gT e7 hp7
 have r7:Rep K H7 (dpS (.say 7 (.box [115,117,109]))) (.ref p7):=gTr e7 hp7 (.cons rS (.cons rI_ (.cons (r1.mono (s2.trans (s3.trans (s4.trans (s5.trans s6))))) .nil)))
 have r6:=r6.mono s7
 have r3:=r3.mono (s4.trans (s5.trans (s6.trans s7)))
 have r2:=r2.mono (s3.trans (s4.trans (s5.trans (s6.trans s7))))
 have s07:=s1.trans (s2.trans (s3.trans (s4.trans (s5.trans (s6.trans s7)))))
 have s7:=s0.trans s07
 have y0:=s07 _ _ y0
 clear e1 e2 e3 e4 e5 e6 e7 r1 r4 r5 s1 s2 s3 s4 s5 s6 hp1 hp2 hp3 hp4 hp5 hp6 hp7 s0 s07
 intro p8 hp8
 generalize e8:upd H7 p8 _=H8
 have s8:=gL e8 hp8
 have y8:=gLa e8
 refine (hU6 _ _).mpr (ao fun U7 hU7=>?_)
 clear hU6
 walk_at "rd"
 refine ⟨.inl ⟨rfl,_,.of y8⟩,fun p9 hp9=>?_⟩
 generalize e9:upd H8 p9 _=H9
 have s9:=gT e9 hp9
 intro p10 sW
 generalize e10:upd H9 p10 _=H10
 have s10:=gT e10 sW
 intro p11 sX
 generalize e11:upd H10 p11 _=H11
 have s11:=gT e11 sX
 have y8':=s11 _ _ (s10 _ _ (s9 _ _ y8))
 refine ⟨p8,_,_,rfl,rfl,y8',by simp; lia,?_⟩
 generalize e12:upd H11 p8 _=H12
 have y12:H12 p8=some (.lst ([V.ref p3,V.ref p6,V.ref p7] ++ [V.ref p11])):=e12 ▸ ar
 have s12:aC H7 H12:=e12 ▸ ((cv.of (s8.trans (s9.trans (s10.trans s11)))).put _).same hp8
 have kp:∀ b o,b≠p8→H11 b=some o→H12 b=some o:=fun b o n e=>by rw [← e12,aR n]; exact e
 have r9:Rep K H12 (dpT (.num 1)) (.ref p9):=Rep.a8.mpr ⟨p9,_,rfl,.of (kp _ _ (aA y8 hp9).symm (s11 _ _ (s10 _ _ (gTa e9)))),.cons rS (.cons rI_ .nil)⟩
 have r10:Rep K H12 (dpT (.bin [43] (.box [110]) (.num 1))) (.ref p10):=Rep.a8.mpr ⟨p10,_,rfl,.of (kp _ _ (aA (s9 _ _ y8) sW).symm (s11 _ _ (gTa e10))),.cons rS (.cons (r2.mono s12) (.cons r9 .nil))⟩
 have r11:Rep K H12 (dpS (.put 8 [110] (.bin [43] (.box [110]) (.num 1)))) (.ref p11):=Rep.a8.mpr ⟨p11,_,rfl,.of (kp _ _ (aA (s10 _ _ (s9 _ _ y8)) sX).symm (gTa e11)),.cons rS (.cons rI_ (.cons rS (.cons r10 .nil)))⟩
 have rb:Rep K H12 (.lst (pP [.ask 5 [97],.put 6 [115,117,109] (.bin [43] (.box [115,117,109]) (.box [97])),.say 7 (.box [115,117,109]),.put 8 [110] (.bin [43] (.box [110]) (.num 1))])) (.ref p8):=Rep.bU.mpr ⟨p8,_,rfl,.of y12,.cons (r3.mono s12) (.cons (r6.mono s12) (.cons (r7.mono s12) (.cons r11 .nil)))⟩
 have r2:=r2.mono s12
 have y0:=s12 _ _ y0
 have s12:=s7.trans s12
 clear e8 e9 e10 e11 e12 y12 r3 r6 r7 r9 r10 r11 s8 s9 s10 s11 y8 y8' hp8 hp9 sW sX kp s7
 refine (hU7 _ _).mpr (ao fun U8 hU8=>?_)
 clear hU7
 walk_at "rd"
 intro q1 hq1
 generalize e1:upd H12 q1 _=I1
 have s1:=gT e1 hq1
 have x1:Rep K I1 (eV ⟨[97],10,0⟩) (.ref q1):=gTr e1 hq1 (.cons rS (.cons rI_ (.cons rI_ .nil)))
 intro q2 hq2
 generalize e2:upd I1 q2 _=I2
 have s2:=gT e2 hq2
 have x2:Rep K I2 (eV ⟨[115,117,109],sz,1⟩) (.ref q2):=gTr e2 hq2 (.cons rS (.cons rI_ (.cons rI_ .nil)))
 intro q3 hq3
 generalize e3:upd I2 q3 _=I3
 have s3:=gT e3 hq3
 have x3:Rep K I3 (eV ⟨[110],10,0⟩) (.ref q3):=gTr e3 hq3 (.cons rS (.cons rI_ (.cons rI_ .nil)))
 intro q4 hq4
 generalize e4:upd I3 q4 _=I4
 have s4:=gL e4 hq4
 have x4:Rep K I4 (.lst ((prA sz mn).ax.map eV)) (.ref q4):=gLr e4 hq4 (.cons (x1.mono (s2.trans s3)) (.cons (x2.mono s3) (.cons x3 .nil)))
 refine (hU8 _ _).mpr (ao fun U9 hU9=>?_)
 clear hU8
 walk_at "rd"
 intro q5 hq5
 generalize e5:upd I4 q5 _=I5
 have s5:=gT e5 hq5
 have x5:Rep K I5 (dpT (.num mn)) (.ref q5):=gTr e5 hq5 (.cons rS (.cons rI_ .nil))
 intro q6 hq6
 generalize e6:upd I5 q6 _=I6
 have s6:=gT e6 hq6
 have t5:=s1.trans (s2.trans (s3.trans (s4.trans s5)))
 have x6:Rep K I6 (dpS (.whl 4 [60] (.box [110]) (.num mn) [.ask 5 [97],.put 6 [115,117,109] (.bin [43] (.box [115,117,109]) (.box [97])),.say 7 (.box [115,117,109]),.put 8 [110] (.bin [43] (.box [110]) (.num 1))])) (.ref q6):=gTr e6 hq6 (.cons rS (.cons rI_ (.cons rS (.cons (r2.mono t5) (.cons x5 (.cons (rb.mono t5) .nil))))))
 intro q7 hq7
 generalize e7:upd I6 q7 _=I7
 have s7:=gL e7 hq7
 have x7:Rep K I7 (.lst ((prA sz mn).body.map dpS)) (.ref q7):=gLr e7 hq7 (.cons x6 .nil)
 intro q8 hq8
 generalize e8:upd I7 q8 _=I8
 have s8:=gT e8 hq8
 have x8:Rep K I8 (fE (prA sz mn)) (.ref q8):=gTr e8 hq8 (.cons (x4.mono (s5.trans (s6.trans s7))) (.cons x7 .nil))
 have t8:=t5.trans (s6.trans (s7.trans s8))
 have y0:=t8 _ _ y0
 have S8:=s12.trans t8
 clear e1 e2 e3 e4 e5 e6 e7 e8 x1 x2 x3 x4 x5 x6 x7 s1 s2 s3 s4 s5 s6 s7 s8 t5 t8 hq1 hq2 hq3 hq4 hq5 hq6 hq7 hq8 s12 r2 rb
 refine (hU9 _ _).mpr (ao fun U10 Ds=>?_)
 clear hU9
 walk_at "rd"
 intro rw0 hrw
 generalize e1:upd I8 rw0 _=I9
 refine (Ds _ _).mpr (ao fun U11 E1=>?_)
 clear Ds
 walk_at "rd"
 intro sd hsd
 generalize e2:upd I9 sd _=J0
 have s1:=gL e1 hrw
 have s2:=gL e2 hsd
 have yR:=s2 _ _ (gLa e1)
 have yS:=gLa e2
 have nRS:rw0≠sd:=aA (gLa e1) hsd
 have JI:I8 sd=none:=fI s1 hsd
 have S10:=s1.trans s2
 clear e1 e2 s1 s2 hrw hsd
 refine (E1 _ _).mpr (ao fun U12 E2=>?_)
 clear E1
 walk_at "rd"
 refine (E2 _ _).mpr (ao fun U13 JJ=>?_)
 clear E2
 refine xk fun U hU=>?_
 walk_at "rd"
 refine ⟨_,rfl,by lia,by lia,hU _ _ ?_⟩
 clear hU
 rw [show ((mn:Int)).toNat=mn from Int.toNat_natCast _]
 obtain ⟨Pv,hPv⟩:∃ Pv:Nat→St→Hp→Prop,∀ i σ H',Pv i σ H'↔∃ (R:Addr) (rows said:List Int) (num a:Int) (z:Option V),σ=[some (V.int cell),some (V.int sz),some (V.int mn),some (V.ref FL),some (V.ref p1),some (V.ref p2),some (V.ref p8),some (V.ref q4),some (V.ref q8),some (V.ref R),some (V.ref sd),some (V.int num),z]∧aC I8 H'∧H' sd=some (.lst (said.map V.int))∧H' R=some (.lst (rows.map V.int))∧R≠sd∧
   Path (prA sz mn) 4 [0,1,0] aJ rows said 4 [a,num,(i:Int)] (aJ.drop i)∧rows.length=5 * i∧said.length=i∧i≤aJ.length:=⟨_,fun _ _ _=>Iff.rfl⟩
 refine uM (lo:=0) (n:=mn) Pv ((hPv _ _ _).mpr ⟨rw0,[],[],1,0,none,rfl,S10,yS,yR,nRS,.nil,rfl,rfl,Nat.zero_le _⟩) (fun i σ H' hi hv=>?_) (fun σ H' hv=>?_)
 · obtain ⟨R,rows,said,num,a,z,rfl,sI,yS,yR,nRS,path,lr,ls,li⟩:=(hPv _ _ _).mp hv
   clear hv
   have done:=fun σ H12=>(hPv (i + 1) σ H12).mpr
   simp only [eu,List.set]
   rw [show (0:Int) + (i:Int)=(i:Int) by lia]
   refine ao fun V1 hV1=>?_
   walk_at "rd"
   intro a1 ha1
   generalize e1:upd H' a1 _=H1
   have t1:=gL e1 ha1
   refine ⟨R,a1,_,_,rfl,rfl,t1 _ _ yR,gLa e1,by simp; lia,fun a2 ha2=>?_⟩
   generalize e2:upd H1 a2 _=H2
   have t2:=gL e2 ha2
   have yR2:=gLa e2
   have n2:a2≠sd:=(aA (t1 _ _ yS) ha2).symm
   have t2:=t1.trans t2
   clear e1 e2 t1 ha1 ha2
   refine (hV1 _ _).mpr (ao fun V2 hV2=>?_)
   clear hV1
   have yF:=t2 _ _ (sI _ _ y0)
   walk_at "rd"
   refine ⟨FL,_,rfl,.inl (.of yF),dM (fun hk=>?_) (fun hk=>(hV2 _ _).mpr (ao fun V3 hV3=>?_))⟩
   · rw [List.length_map] at hk
     intro a3 ha3
     generalize e3:upd H2 a3 _=H3
     have t3:=gT e3 ha3
     intro a4 ha4
     generalize e4:upd H3 a4 _=H4
     have t4:=gL e4 ha4
     have t34:=t3.trans t4
     have ei:aJ.drop i=[]:=List.drop_of_length_le (by lia)
     rw [ei] at path
     have kn:Known (prA sz mn) aJ ((rows ++ [4]) ++ [5]) said (some .out):=by
       have pth:=path.app (Ih (a:=a) (u:=num) (n:=(i:Int)) (l:=[]) (by lia))
       rw [List.append_nil] at pth
       exact Known.Ar (Ik z1 z2 (by lia) (by lia)) (by lia) (by simp; lia) (by lia) pth (by decide) fun m=>Ii m
     rw [List.append_assoc] at kn
     refine q a4 H4 (prA sz mn) aJ _ said (some .out) (by simp; lia) (S8.trans (sI.trans (t2.trans t34))) ⟨.ref q8,FL,a2,sd,.ref a3,.of (gLa e4),x8.mono (sI.trans (t2.trans t34)),.of (t34 _ _ yF),.of ?_,.of (t34 _ _ (t2 _ _ yS)),a3,rfl,.of (t4 _ _ (gTa e3))⟩ kn
     rw [List.map_append]
     exact t34 _ _ yR2
   · clear hV2
     rw [List.length_map] at hk
     have li':i < aJ.length:=by lia
     walk_at "rd"
     refine yx (v:=.int aJ[i]) (.of yF) (aG (by rw [List.getElem?_map,List.getElem?_eq_getElem li']; rfl)) ?_
     walk_at "rd"
     refine ⟨by lia,(hV3 _ _).mpr (ao fun V4 hV4=>?_)⟩
     clear hV3
     walk_at "rd"
     intro a3 ha3
     generalize e3:upd H2 a3 _=H3
     have t3:=gL e3 ha3
     refine ⟨a2,a3,_,_,rfl,rfl,t3 _ _ yR2,gLa e3,by simp; lia,fun a4 ha4=>?_⟩
     generalize e4:upd H3 a4 _=H4
     have t4:=gL e4 ha4
     have yR4:=gLa e4
     have n4:a4≠sd:=(aA (t3 _ _ (t2 _ _ yS)) ha4).symm
     have t4:=t2.trans (t3.trans t4)
     clear e3 e4 t3 ha3 ha4
     refine (hV4 _ _).mpr ?_
     clear hV4
     walk_at "rd"
     have yS4:=t4 _ _ yS
     have ok9:=ok i aJ[i] (List.getElem?_eq_getElem li')
     have e10:aJ[i] % 10=aJ[i]:=Int.emod_eq_of_lt (by lia) (by lia)
     have pth:=path
     rw [List.drop_eq_getElem_cons li'] at pth
     have pth:=pth.app (GG (a:=a) (u:=num) (n:=(i:Int)) (g:=aJ[i]) (l:=aJ.drop (i + 1)) (by lia))
     rw [e10,Int.emod_eq_of_lt (show 0≤(i:Int) + 1 by lia) (show (i:Int) + 1 < 10 by lia)] at pth
     refine ⟨.inl ⟨rfl,_,.of yS4⟩,sd,_,_,rfl,rfl,yS4,by simp; lia,done _ _ ⟨a4,rows ++ [4,5,6,7,8],said ++ [(num + aJ[i]) % sz],_,_,_,rfl,((cv.of (sI.trans t4)).put _).same JI,?_,?_,n4,pth,by simp; lia,by simp; lia,by lia⟩⟩
     · rw [List.map_append]
       exact ar
     · rw [aR n4,yR4,List.map_append,List.append_assoc]
       rfl
 · obtain ⟨R,rows,said,num,a,z,rfl,sI,yS,yR,nRS,path,lr,ls,li⟩:=(hPv _ _ _).mp hv
   clear hv
   refine (JJ _ _).mpr ?_
   walk_at "rd"
   intro a1 ha1
   generalize e1:upd H' a1 _=H1
   have t1:=gL e1 ha1
   refine ⟨R,a1,_,_,rfl,rfl,t1 _ _ yR,gLa e1,by simp; lia,fun a2 ha2=>?_⟩
   generalize e2:upd H1 a2 _=H2
   have t2:=gL e2 ha2
   intro a3 ha3
   generalize e3:upd H2 a3 _=H3
   have t3:=gT e3 ha3
   intro a4 ha4
   generalize e4:upd H3 a4 _=H4
   have t4:=gL e4 ha4
   have t34:=t3.trans t4
   have t14:=t1.trans (t2.trans t34)
   have pth:=path.app (Ij (s:=sz) (m:=mn) (a:=a) (u:=num) (n:=(mn:Int)) (l:=aJ.drop mn) (Int.lt_irrefl _))
   rw [List.append_nil] at pth
   refine q a4 H4 (prA sz mn) aJ (rows ++ [4]) said (some .fin) (by simp; lia) (S8.trans (sI.trans t14)) ⟨.ref q8,FL,a2,sd,.ref a3,.of (gLa e4),x8.mono (sI.trans t14),.of (t14 _ _ (sI _ _ y0)),.of ?_,.of (t14 _ _ yS),a3,rfl,.of (t4 _ _ (gTa e3))⟩
     (Known.yV (Ik z1 z2 (by lia) (by lia)) (by lia) ⟨by simp,by simp; lia⟩ (by lia) pth)
   rw [List.map_append]
   exact t34 _ _ (gLa e2)
theorem zf (T:Tx K mg t):bP P w K mg base CX0 2 t.cL t.kg ["cell"] (GN K):=by
 have aW:=hZ (P:=P) (w:=w) (base:=base) T
 refine T.fk.F.okS kb (fun vs H Q E h=>?_) (fun cdv A outer s H vs Q E hr h=>?_)
 · obtain ⟨_,rfl,_⟩:=h
   rfl
 obtain ⟨cell,rfl,q⟩:=h
 have nd:=kb.nd
 refine ⟨_,[some (V.int cell),none,none,none,none,none,none],(@ag _ _ _ _ _ (@aE _ _ 1 _ _ _ _ nd rfl (Or.inl rfl) (@aU _ _ _ _ _ _ _ _ (@dF _) (@aj _ _ _ _) (@aU _ _ _ _ _ _ _ _ (@bT _) (@aL _ _ _ _ _ _ _ _ _ _ _ _ _ _ _ _ aW (hr.mono (by omega)) rfl T.aq.m T.aq.F.kp T.aq.b .nil ba (@aa _ _ _ _ _ (pv 0) (@aa _ _ _ _ _ (@aj _ _ _ _) (@ae _) (@ai _ _ _ _ _)) (@ah _ _ _ _)) (by first | rfl | exact .inl rfl | exact .inr rfl | decide | (intro _; rfl) | assumption) (by first | rfl | exact .inl rfl | exact .inr rfl | decide | (intro _; rfl) | assumption) (by first | rfl | exact .inl rfl | exact .inr rfl | decide | (intro _; rfl) | assumption)) (@aj _ _ _ _))) (by first | rfl | exact .inl rfl | exact .inr rfl | decide | (intro _; rfl) | assumption) (by first | rfl | exact .inl rfl | exact .inr rfl | decide | (intro _; rfl) | assumption)) (@ag _ _ _ _ _ (@aE _ _ 2 _ _ _ _ nd rfl (Or.inl rfl) (@aU _ _ _ _ _ _ _ _ (@bT _) (@aL _ _ _ _ _ _ _ _ _ _ _ _ _ _ _ _ aW (hr.mono (by omega)) rfl T.aq.m T.aq.F.kp T.aq.b .nil ba (@aa _ _ _ _ _ (pv 0) (@aa _ _ _ _ _ (@aj _ _ _ _) (@ae _) (@ai _ _ _ _ _)) (@ah _ _ _ _)) (by first | rfl | exact .inl rfl | exact .inr rfl | decide | (intro _; rfl) | assumption) (by first | rfl | exact .inl rfl | exact .inr rfl | decide | (intro _; rfl) | assumption) (by first | rfl | exact .inl rfl | exact .inr rfl | decide | (intro _; rfl) | assumption)) (pv 1)) (by first | rfl | exact .inl rfl | exact .inr rfl | decide | (intro _; rfl) | assumption) (by first | rfl | exact .inl rfl | exact .inr rfl | decide | (intro _; rfl) | assumption)) (@ag _ _ _ _ _ (@aE _ _ 3 _ _ _ _ nd rfl (Or.inl rfl) (@au _ _ _ _ _ (@aB _ _ ([.str "box",.str "n"]) (by kernel_rfl))) (by first | rfl | exact .inl rfl | exact .inr rfl | decide | (intro _; rfl) | assumption) (by first | rfl | exact .inl rfl | exact .inr rfl | decide | (intro _; rfl) | assumption)) (@ag _ _ _ _ _ (@aE _ _ 4 _ _ _ _ nd rfl (Or.inl rfl) (@aO _ _ _ _ (@aa _ _ _ _ _ (@au _ _ _ _ _ (@aa _ _ _ _ _ (@ay _ _ _ _) (@aa _ _ _ _ _ (@aj _ _ _ _) (@aa _ _ _ _ _ (@ay _ _ _ _) (@aa _ _ _ _ _ (pv 3) (@aa _ _ _ _ _ (@au _ _ _ _ _ (@aa _ _ _ _ _ (@ay _ _ _ _) (@aa _ _ _ _ _ (pv 2) (@ae _) (@ah _ _ _ _)) (@ai _ _ _ _ _))) (@ae _) (@aF _ _ _ _ _)) (@ah _ _ _ _)) (@ai _ _ _ _ _)) (@ai _ _ _ _ _)) (@ai _ _ _ _ _))) (@aa _ _ _ _ _ (@au _ _ _ _ _ (@aa _ _ _ _ _ (@ay _ _ _ _) (@aa _ _ _ _ _ (@aj _ _ _ _) (@aa _ _ _ _ _ (@au _ _ _ _ _ (@aa _ _ _ _ _ (@ay _ _ _ _) (@aa _ _ _ _ _ (pv 3) (@aa _ _ _ _ _ (pv 3) (@ae _) (@ah _ _ _ _)) (@ah _ _ _ _)) (@ai _ _ _ _ _))) (@ae _) (@aF _ _ _ _ _)) (@ai _ _ _ _ _)) (@ai _ _ _ _ _))) (@ae _) (@aF _ _ _ _ _)) (@aF _ _ _ _ _))) (by first | rfl | exact .inl rfl | exact .inr rfl | decide | (intro _; rfl) | assumption) (by first | rfl | exact .inl rfl | exact .inr rfl | decide | (intro _; rfl) | assumption)) (@ag _ _ _ _ _ (@dU _ _ _ _ (@kK _ _ _ _ _ _ _ _ _ _ _ _ PySem.F.plainAttrs_list PySem.F.slot_list_append PySem.F.type_list_append dD (pv 4) (@aa _ _ _ _ _ (@au _ _ _ _ _ (@aa _ _ _ _ _ (@ay _ _ _ _) (@aa _ _ _ _ _ (@aj _ _ _ _) (@aa _ _ _ _ _ (@ay _ _ _ _) (@aa _ _ _ _ _ (@au _ _ _ _ _ (@aa _ _ _ _ _ (@ay _ _ _ _) (@aa _ _ _ _ _ (pv 3) (@aa _ _ _ _ _ (@au _ _ _ _ _ (@aB _ _ ([.str "number",.int 1]) (by kernel_rfl))) (@ae _) (@aF _ _ _ _ _)) (@ah _ _ _ _)) (@ai _ _ _ _ _))) (@ae _) (@aF _ _ _ _ _)) (@ai _ _ _ _ _)) (@ai _ _ _ _ _)) (@ai _ _ _ _ _))) (@ae _) (@aF _ _ _ _ _)) (by first | rfl | exact .inl rfl | exact .inr rfl | decide | (intro _; rfl) | assumption) (by first | rfl | exact .inl rfl | exact .inr rfl | decide | (intro _; rfl) | assumption) (by first | rfl | exact .inl rfl | exact .inr rfl | decide | (intro _; rfl) | assumption) (by first | rfl | exact .inl rfl | exact .inr rfl | decide | (intro _; rfl) | assumption) (by first | rfl | exact .inl rfl | exact .inr rfl | decide | (intro _; rfl) | assumption)) (by first | rfl | exact .inl rfl | exact .inr rfl | decide | (intro _; rfl) | assumption)) (@ag _ _ _ _ _ (@aE _ _ 5 _ _ _ _ nd rfl (Or.inl rfl) (@au _ _ _ _ _ (@aa _ _ _ _ _ (@ay _ _ _ _) (@aa _ _ _ _ _ (@aj _ _ _ _) (@aa _ _ _ _ _ (@ay _ _ _ _) (@aa _ _ _ _ _ (@au _ _ _ _ _ (@aB _ _ ([.str "number",.int 4]) (by kernel_rfl))) (@aa _ _ _ _ _ (@au _ _ _ _ _ (@aB _ _ ([.str "number",.int 4]) (by kernel_rfl))) (@aa _ _ _ _ _ (pv 4) (@ae _) (@ah _ _ _ _)) (@aF _ _ _ _ _)) (@aF _ _ _ _ _)) (@ai _ _ _ _ _)) (@ai _ _ _ _ _)) (@ai _ _ _ _ _))) (by first | rfl | exact .inl rfl | exact .inr rfl | decide | (intro _; rfl) | assumption) (by first | rfl | exact .inl rfl | exact .inr rfl | decide | (intro _; rfl) | assumption)) (@ag _ _ _ _ _ (@aE _ _ 6 _ _ _ _ nd rfl (Or.inl rfl) (@aU _ _ _ _ _ _ _ _ (@fC _) (@aU _ _ _ _ _ _ _ _ (@pK _) (@aO _ _ _ _ (@aB _ _ ([.int 2,.int 3,.int 4,.int 5]) (by kernel_rfl))) (pv 2)) (@aO _ _ _ _ (@aB _ _ ([.int 2,.int 3]) (by kernel_rfl)))) (by first | rfl | exact .inl rfl | exact .inr rfl | decide | (intro _; rfl) | assumption) (by first | rfl | exact .inl rfl | exact .inr rfl | decide | (intro _; rfl) | assumption)) (@av _ _ _ (@aX _ _ _ _ (@aO _ _ _ _ (@aa _ _ _ _ _ (@au _ _ _ _ _ (@aa _ _ _ _ _ (@aO _ _ _ _ (@aa _ _ _ _ _ (@au _ _ _ _ _ (@aa _ _ _ _ _ (@ay _ _ _ _) (@aa _ _ _ _ _ (pv 1) (@aa _ _ _ _ _ (@aj _ _ _ _) (@ae _) (@ai _ _ _ _ _)) (@ah _ _ _ _)) (@ai _ _ _ _ _))) (@ae _) (@aF _ _ _ _ _))) (@aa _ _ _ _ _ (@aO _ _ _ _ (@aa _ _ _ _ _ (pv 5) (@ae _) (@ah _ _ _ _))) (@ae _) (@df _ _ _ _)) (@df _ _ _ _))) (@aa _ _ _ _ _ (@aO _ _ _ _ (@ae _)) (@aa _ _ _ _ _ (pv 6) (@aa _ _ _ _ _ (@iL _ _ _ _ _ _ _ ["k"] [] _ _ _ _ rfl (by rfl) (by rfl) (@jf _ _ _ _ _ _ rfl T.gY (@aa _ _ _ _ _ (pv 2) (@ae _) (@ah _ _ _ _)) (by first | rfl | exact .inl rfl | exact .inr rfl | decide | (intro _; rfl) | assumption)) (fun _ _ _ _=>(@aS _ _ 0 _ (by show List.Nodup (["k"]:List Str); decide +kernel) rfl (Or.inl rfl) (by first | rfl | exact .inl rfl | exact .inr rfl | decide | (intro _; rfl) | assumption))) (fun _ _ _ _=>(@gN _)) (fun _ _ _ _=>(@aU _ _ _ _ _ _ _ _ (@ny _) (pv 0) (pv 0))) (by first | rfl | exact .inl rfl | exact .inr rfl | decide | (intro _; rfl) | assumption)) (@aa _ _ _ _ _ (@au _ _ _ _ _ (@aB _ _ ([.str "must",.int 3]) (by kernel_rfl))) (@ae _) (@aF _ _ _ _ _)) (@me _ _ _ _ _ _)) (@ah _ _ _ _)) (@df _ _ _ _)) (@aF _ _ _ _ _)))))))))))),rfl,?_⟩
 have line:sizeLine=2 ^ 24:=rfl
 refine ao fun U1 hU1=>?_
 walk_at "rd"
 refine ⟨cell,1,rfl,by decide,by decide,fun n1 hn1=>?_⟩
 walk_at "rd"
 refine (hU1 _ _).mpr (ao fun U2 hU2=>?_)
 clear hU1
 obtain ⟨sz,esz⟩:∃ sz,sz=3 + (n1:Int) % 8:=⟨_,rfl⟩
 rw [← esz]
 have z1:2≤sz:=by lia
 have z2:sz≤10:=by lia
 clear esz hn1
 walk_at "rd"
 refine ⟨cell,2,rfl,by decide,by decide,fun n2 hn2=>?_⟩
 walk_at "rd"
 refine ⟨by lia,(hU2 _ _).mpr (ao fun U3 hU3=>?_)⟩
 clear hU2
 have f1:=Int.emod_nonneg (n2:Int) (show sz≠0 by lia)
 have f2:=Int.emod_lt_of_pos (n2:Int) (show 0 < sz by lia)
 obtain ⟨bd,ebd⟩:∃ bd:Nat,(bd:Int)=(n2:Int) % sz:=⟨((n2:Int) % sz).toNat,by lia⟩
 rw [← ebd] at f1 f2 ⊢
 clear ebd hn2
 walk_at "rd"
 intro p1 hp1
 generalize e1:upd H p1 _=H1
 have s1:=gT e1 hp1
 have r1:Rep K H1 (dpT (.box [110])) (.ref p1):=gTr e1 hp1 (.cons rS (.cons rS .nil))
 refine (hU3 _ _).mpr (ao fun U4 hU4=>?_)
 clear hU3
 walk_at "rd"
 intro p2 hp2
 generalize e2:upd H1 p2 _=H2
 have s2:=gT e2 hp2
 have r2:Rep K H2 (dpT (.num bd)) (.ref p2):=gTr e2 hp2 (.cons rS (.cons rI_ .nil))
 intro p3 hp3
 generalize e3:upd H2 p3 _=H3
 have s3:=gT e3 hp3
 have r3:Rep K H3 (dpS (.bZ 3 [60] (.box [110]) (.num bd))) (.ref p3):=gTr e3 hp3 (.cons rS (.cons rI_ (.cons rS (.cons (r1.mono s2) (.cons r2 .nil)))))
 intro p4 hp4
 generalize e4:upd H3 p4 _=H4
 have s4:=gT e4 hp4
 have r4:Rep K H4 (dpT (.bin [42] (.box [110]) (.box [110]))) (.ref p4):=gTr e4 hp4 (.cons rS (.cons (r1.mono (s2.trans s3)) (.cons (r1.mono (s2.trans s3)) .nil)))
 intro p5 hp5
 generalize e5:upd H4 p5 _=H5
 have s5:=gT e5 hp5
 have r5:Rep K H5 (dpS (.say 4 (.bin [42] (.box [110]) (.box [110])))) (.ref p5):=gTr e5 hp5 (.cons rS (.cons rI_ (.cons r4 .nil)))
 have r1:=r1.mono (s2.trans (s3.trans (s4.trans s5)))
 have r3:=r3.mono (s4.trans s5)
 have s5:=s1.trans (s2.trans (s3.trans (s4.trans s5)))
 clear e1 e2 e3 e4 e5 s1 s2 s3 s4 r2 r4 hp1 hp2 hp3 hp4 hp5
 intro p6 hp6
 generalize e6:upd H5 p6 _=H6
 have s6:=gL e6 hp6
 have y6:=gLa e6
 refine (hU4 _ _).mpr (ao fun U5 hU5=>?_)
 clear hU4
 walk_at "rd"
 refine ⟨.inl ⟨rfl,_,.of y6⟩,fun p9 hp9=>?_⟩
 generalize e9:upd H6 p9 _=H9
 have s9:=gT e9 hp9
 intro p10 sW
 generalize e10:upd H9 p10 _=H10
 have s10:=gT e10 sW
 intro p11 sX
 generalize e11:upd H10 p11 _=H11
 have s11:=gT e11 sX
 have y6':=s11 _ _ (s10 _ _ (s9 _ _ y6))
 refine ⟨p6,_,_,rfl,rfl,y6',by simp; lia,?_⟩
 generalize e12:upd H11 p6 _=H12
 have y12:H12 p6=some (.lst ([V.ref p3,V.ref p5] ++ [V.ref p11])):=e12 ▸ ar
 have s12:aC H5 H12:=e12 ▸ ((cv.of (s6.trans (s9.trans (s10.trans s11)))).put _).same hp6
 have kp:∀ b o,b≠p6→H11 b=some o→H12 b=some o:=fun b o n e=>by rw [← e12,aR n]; exact e
 have r9:Rep K H12 (dpT (.num 1)) (.ref p9):=Rep.a8.mpr ⟨p9,_,rfl,.of (kp _ _ (aA y6 hp9).symm (s11 _ _ (s10 _ _ (gTa e9)))),.cons rS (.cons rI_ .nil)⟩
 have r10:Rep K H12 (dpT (.bin [43] (.box [110]) (.num 1))) (.ref p10):=Rep.a8.mpr ⟨p10,_,rfl,.of (kp _ _ (aA (s9 _ _ y6) sW).symm (s11 _ _ (gTa e10))),.cons rS (.cons (r1.mono s12) (.cons r9 .nil))⟩
 have r11:Rep K H12 (dpS (.put 5 [110] (.bin [43] (.box [110]) (.num 1)))) (.ref p11):=Rep.a8.mpr ⟨p11,_,rfl,.of (kp _ _ (aA (s10 _ _ (s9 _ _ y6)) sX).symm (gTa e11)),.cons rS (.cons rI_ (.cons rS (.cons r10 .nil)))⟩
 have rb:Rep K H12 (.lst (pP [.bZ 3 [60] (.box [110]) (.num bd),.say 4 (.bin [42] (.box [110]) (.box [110])),.put 5 [110] (.bin [43] (.box [110]) (.num 1))])) (.ref p6):=Rep.bU.mpr ⟨p6,_,rfl,.of y12,.cons (r3.mono s12) (.cons (r5.mono s12) (.cons r11 .nil))⟩
 have s12:=s5.trans s12
 clear e6 e9 e10 e11 e12 y12 r1 r3 r5 r9 r10 r11 s5 s6 s9 s10 s11 y6 y6' hp6 hp9 sW sX kp
 refine (hU5 _ _).mpr (ao fun U6 hU6=>?_)
 clear hU5
 walk_at "rd"
 intro q1 hq1
 generalize e1:upd H12 q1 _=I1
 have s1:=gT e1 hq1
 have x1:Rep K I1 (dpT (.num 4)) (.ref q1):=gTr e1 hq1 (.cons rS (.cons rI_ .nil))
 intro q2 hq2
 generalize e2:upd I1 q2 _=I2
 have s2:=gT e2 hq2
 have x2:Rep K I2 (dpT (.num 4)) (.ref q2):=gTr e2 hq2 (.cons rS (.cons rI_ .nil))
 intro q3 hq3
 generalize e3:upd I2 q3 _=I3
 have s3:=gT e3 hq3
 have x3:Rep K I3 (dpS (.whl 2 [61] (.num 4) (.num 4) [.bZ 3 [60] (.box [110]) (.num bd),.say 4 (.bin [42] (.box [110]) (.box [110])),.put 5 [110] (.bin [43] (.box [110]) (.num 1))])) (.ref q3):=gTr e3 hq3 (.cons rS (.cons rI_ (.cons rS (.cons (x1.mono s2) (.cons x2 (.cons (rb.mono (s1.trans s2)) .nil))))))
 have s3:=s12.trans (s1.trans (s2.trans s3))
 clear e1 e2 e3 x1 x2 rb s1 s2 s12 hq1 hq2 hq3
 refine (hU6 _ _).mpr (ao fun U7 hU7=>?_)
 clear hU6
 walk_at "rd"
 intro a1 ha1
 generalize e1:upd I3 a1 _=J1
 have t1:=gL e1 ha1
 refine ⟨a1,bd,_,rfl,rfl,gLa e1,by lia,by lia,by simp; lia,fun a2 ha2=>?_⟩
 rw [show ((bd:Int)).toNat=bd from Int.toNat_natCast _]
 generalize e2:upd J1 a2 _=J2
 have t2:=gL e2 ha2
 intro a3 ha3
 generalize e3:upd J2 a3 _=J3
 have t3:=gL e3 ha3
 refine ⟨a2,a3,_,_,rfl,rfl,t3 _ _ (gLa e2),gLa e3,by simp; lia,fun a4 ha4=>?_⟩
 generalize e4:upd J3 a4 _=J4
 have t4:=gL e4 ha4
 have y4:=gLa e4
 have s4:=s3.trans (t1.trans (t2.trans (t3.trans t4)))
 have x3:=x3.mono (t1.trans (t2.trans (t3.trans t4)))
 clear e1 e2 e3 e4 t1 t2 t3 t4 s3 ha1 ha2 ha3 ha4
 refine (hU7 _ _).mpr ?_
 clear hU7
 walk_at "rd"
 intro b1 hb1
 generalize e1:upd J4 b1 _=L1
 have t1:=gT e1 hb1
 have w1:Rep K L1 (eV ⟨[110],sz,0⟩) (.ref b1):=gTr e1 hb1 (.cons rS (.cons rI_ (.cons rI_ .nil)))
 intro b2 hb2
 generalize e2:upd L1 b2 _=L2
 have t2:=gL e2 hb2
 have w2:Rep K L2 (.lst ((prF sz bd).ax.map eV)) (.ref b2):=gLr e2 hb2 (.cons w1 .nil)
 intro b3 hb3
 generalize e3:upd L2 b3 _=L3
 have t3:=gL e3 hb3
 have w3:Rep K L3 (.lst ((prF sz bd).body.map dpS)) (.ref b3):=gLr e3 hb3 (.cons (x3.mono (t1.trans t2)) .nil)
 intro b4 hb4
 generalize e4:upd L3 b4 _=L4
 have t4:=gT e4 hb4
 have w4:Rep K L4 (fE (prF sz bd)) (.ref b4):=gTr e4 hb4 (.cons (w2.mono t3) (.cons w3 .nil))
 intro b5 hb5
 generalize e5:upd L4 b5 _=L5
 have t5:=gL e5 hb5
 have y5:=gLa e5
 have y4:=t5 _ _ (t4 _ _ (t3 _ _ (t2 _ _ (t1 _ _ y4))))
 have s5:=s4.trans (t1.trans (t2.trans (t3.trans (t4.trans t5))))
 have w5:=w4.mono t5
 clear e1 e2 e3 e4 e5 t1 t2 t3 t4 t5 w1 w2 w3 w4 s4 hb1 hb2 hb3 hb4 hb5 x3
 simp only [j8]
 walk_at "rd"
 refine ⟨_,rfl,by lia,by lia,fun D hD=>?_⟩
 rw [show ((bd:Int)).toNat=bd from Int.toNat_natCast _]
 refine Cs (r:=[]) (fun k=>V.int ((k:Int) * (k:Int))) (by lia) (fun i hi ys R hR=>?_) ?_
 · walk_at "rd"
   exact ⟨mulL (by lia) (by lia),hR⟩
 generalize e6:upd L5 D _=L6
 have t6:=gL e6 hD
 intro b7 hb7
 generalize e7:upd L6 b7 _=L7
 have t7:=gT e7 hb7
 intro b8 hb8
 generalize e8:upd L7 b8 _=L8
 have t8:=gL e8 hb8
 have t68:=t6.trans (t7.trans t8)
 have ln:((List.replicate bd ([2,3,4,5]:List Int)).flatten).length=bd * 4:=dB _ _
 have em:∀ (xs:List Int) (n:Nat),((List.replicate n xs).flatten).map V.int=(List.replicate n (xs.map V.int)).flatten:=fun xs n=>by rw [List.map_flatten,List.map_replicate]
 have kn:Known (prF sz bd) [] (((List.replicate bd [2,3,4,5]).flatten ++ [2]) ++ [3]) ((List.range bd).map fun k:Nat=>((k:Int) * (k:Int))) (some (.bZ 3)):=by
   have pth:=(Df (l:=[]) f2 bd (Nat.le_refl _)).app (FA (s:=sz) (m:=bd) (v:=(bd:Int)) (l:=[]))
   rw [List.append_nil] at pth
   exact Known.Ar (Jz z1 z2 f1 (by lia)) (Nat.zero_le _) (by rw [List.length_append,ln,List.length_singleton]; lia) (by simp; lia) pth (by decide) fun m=>GI (Int.lt_irrefl _) m
 rw [List.append_assoc] at kn
 refine q b8 L8 (prF sz bd) [] _ _ (some (.bZ 3)) (by rw [List.length_append,ln]; simp only [List.length_append,List.length_cons,List.length_nil]; lia) (s5.trans t68) ⟨.ref b4,b5,a4,D,.ref b7,.of (gLa e8),w5.mono t68,.of (t68 _ _ y5),.of ?_,.of ?_,b7,rfl,.of (t8 _ _ (gTa e7))⟩ kn
 · rw [List.map_append,em]
   exact t68 _ _ y4
 · rw [List.map_map]
   exact t8 _ _ (t7 _ _ (gLa e6))
theorem xK (T:Tx K mg t):bP P w K mg base CX0 2 t.dv t.mQ ["cell"] (EW K):=by
 have aW:=hZ (P:=P) (w:=w) (base:=base) T
 refine T.dy.F.okS mL (fun vs H Q E h=>?_) (fun cdv A outer s H vs Q E hr h=>?_)
 · obtain ⟨_,rfl,_⟩:=h
   rfl
 obtain ⟨cell,rfl,q⟩:=h
 have nd:=mL.nd
 refine ⟨_,[some (V.int cell),none,none,none],(@ag _ _ _ _ _ (@aE _ _ 1 _ _ _ _ nd rfl (Or.inl rfl) (@aU _ _ _ _ _ _ _ _ (@dF _) (@aj _ _ _ _) (@aU _ _ _ _ _ _ _ _ (@bT _) (@aL _ _ _ _ _ _ _ _ _ _ _ _ _ _ _ _ aW (hr.mono (by omega)) rfl T.aq.m T.aq.F.kp T.aq.b .nil ba (@aa _ _ _ _ _ (@pv _ 0 _ _ (by first | rfl | exact .inl rfl | exact .inr rfl | decide | (intro _; rfl) | assumption) (by first | rfl | exact .inl rfl | exact .inr rfl | decide | (intro _; rfl) | assumption) (by first | rfl | exact .inl rfl | exact .inr rfl | decide | (intro _; rfl) | assumption) (by first | rfl | exact .inl rfl | exact .inr rfl | decide | (intro _; rfl) | assumption)) (@aa _ _ _ _ _ (@aj _ _ _ _) (@ae _) (@ai _ _ _ _ _)) (@ah _ _ _ _)) (by first | rfl | exact .inl rfl | exact .inr rfl | decide | (intro _; rfl) | assumption) (by first | rfl | exact .inl rfl | exact .inr rfl | decide | (intro _; rfl) | assumption) (by first | rfl | exact .inl rfl | exact .inr rfl | decide | (intro _; rfl) | assumption)) (@aj _ _ _ _))) (by first | rfl | exact .inl rfl | exact .inr rfl | decide | (intro _; rfl) | assumption) (by first | rfl | exact .inl rfl | exact .inr rfl | decide | (intro _; rfl) | assumption)) (@ag _ _ _ _ _ (@aE _ _ 2 _ _ _ _ nd rfl (Or.inl rfl) (@au _ _ _ _ _ (@aa _ _ _ _ _ (@ay _ _ _ _) (@aa _ _ _ _ _ (@au _ _ _ _ _ (@aB _ _ ([.str "box",.str "n"]) (by kernel_rfl))) (@aa _ _ _ _ _ (@au _ _ _ _ _ (@aa _ _ _ _ _ (@ay _ _ _ _) (@aa _ _ _ _ _ (@aU _ _ _ _ _ _ _ _ (@bT _) (@aL _ _ _ _ _ _ _ _ _ _ _ _ _ _ _ _ aW (hr.mono (by omega)) rfl T.aq.m T.aq.F.kp T.aq.b .nil ba (@aa _ _ _ _ _ (@pv _ 0 _ _ (by first | rfl | exact .inl rfl | exact .inr rfl | decide | (intro _; rfl) | assumption) (by first | rfl | exact .inl rfl | exact .inr rfl | decide | (intro _; rfl) | assumption) (by first | rfl | exact .inl rfl | exact .inr rfl | decide | (intro _; rfl) | assumption) (by first | rfl | exact .inl rfl | exact .inr rfl | decide | (intro _; rfl) | assumption)) (@aa _ _ _ _ _ (@aj _ _ _ _) (@ae _) (@ai _ _ _ _ _)) (@ah _ _ _ _)) (by first | rfl | exact .inl rfl | exact .inr rfl | decide | (intro _; rfl) | assumption) (by first | rfl | exact .inl rfl | exact .inr rfl | decide | (intro _; rfl) | assumption) (by first | rfl | exact .inl rfl | exact .inr rfl | decide | (intro _; rfl) | assumption)) (@aj _ _ _ _)) (@ae _) (@fD _ _ _ _ _ _)) (@ai _ _ _ _ _))) (@ae _) (@aF _ _ _ _ _)) (@aF _ _ _ _ _)) (@ai _ _ _ _ _))) (by first | rfl | exact .inl rfl | exact .inr rfl | decide | (intro _; rfl) | assumption) (by first | rfl | exact .inl rfl | exact .inr rfl | decide | (intro _; rfl) | assumption)) (@ag _ _ _ _ _ (@aE _ _ 3 _ _ _ _ nd rfl (Or.inl rfl) (@au _ _ _ _ _ (@aa _ _ _ _ _ (@ay _ _ _ _) (@aa _ _ _ _ _ (@aj _ _ _ _) (@aa _ _ _ _ _ (@ay _ _ _ _) (@aa _ _ _ _ _ (@au _ _ _ _ _ (@aB _ _ ([.str "number",.int 0]) (by kernel_rfl))) (@aa _ _ _ _ _ (@au _ _ _ _ _ (@aB _ _ ([.str "number",.int 1]) (by kernel_rfl))) (@aa _ _ _ _ _ (@aO _ _ _ _ (@aa _ _ _ _ _ (@au _ _ _ _ _ (@aa _ _ _ _ _ (@ay _ _ _ _) (@aa _ _ _ _ _ (@aj _ _ _ _) (@aa _ _ _ _ _ (@ay _ _ _ _) (@aa _ _ _ _ _ (@pv _ 2 _ _ (by first | rfl | exact .inl rfl | exact .inr rfl | decide | (intro _; rfl) | assumption) (by first | rfl | exact .inl rfl | exact .inr rfl | decide | (intro _; rfl) | assumption) (by first | rfl | exact .inl rfl | exact .inr rfl | decide | (intro _; rfl) | assumption) (by first | rfl | exact .inl rfl | exact .inr rfl | decide | (intro _; rfl) | assumption)) (@ae _) (@ah _ _ _ _)) (@ai _ _ _ _ _)) (@ai _ _ _ _ _)) (@ai _ _ _ _ _))) (@ae _) (@aF _ _ _ _ _))) (@ae _) (@df _ _ _ _)) (@aF _ _ _ _ _)) (@aF _ _ _ _ _)) (@ai _ _ _ _ _)) (@ai _ _ _ _ _)) (@ai _ _ _ _ _))) (by first | rfl | exact .inl rfl | exact .inr rfl | decide | (intro _; rfl) | assumption) (by first | rfl | exact .inl rfl | exact .inr rfl | decide | (intro _; rfl) | assumption)) (@av _ _ _ (@aX _ _ _ _ (@aO _ _ _ _ (@aa _ _ _ _ _ (@au _ _ _ _ _ (@aa _ _ _ _ _ (@aO _ _ _ _ (@aa _ _ _ _ _ (@au _ _ _ _ _ (@aa _ _ _ _ _ (@ay _ _ _ _) (@aa _ _ _ _ _ (@pv _ 1 _ _ (by first | rfl | exact .inl rfl | exact .inr rfl | decide | (intro _; rfl) | assumption) (by first | rfl | exact .inl rfl | exact .inr rfl | decide | (intro _; rfl) | assumption) (by first | rfl | exact .inl rfl | exact .inr rfl | decide | (intro _; rfl) | assumption) (by first | rfl | exact .inl rfl | exact .inr rfl | decide | (intro _; rfl) | assumption)) (@aa _ _ _ _ _ (@aj _ _ _ _) (@ae _) (@ai _ _ _ _ _)) (@ah _ _ _ _)) (@ai _ _ _ _ _))) (@ae _) (@aF _ _ _ _ _))) (@aa _ _ _ _ _ (@aO _ _ _ _ (@aa _ _ _ _ _ (@pv _ 3 _ _ (by first | rfl | exact .inl rfl | exact .inr rfl | decide | (intro _; rfl) | assumption) (by first | rfl | exact .inl rfl | exact .inr rfl | decide | (intro _; rfl) | assumption) (by first | rfl | exact .inl rfl | exact .inr rfl | decide | (intro _; rfl) | assumption) (by first | rfl | exact .inl rfl | exact .inr rfl | decide | (intro _; rfl) | assumption)) (@ae _) (@ah _ _ _ _))) (@ae _) (@df _ _ _ _)) (@df _ _ _ _))) (@aa _ _ _ _ _ (@aO _ _ _ _ (@aB _ _ ([.int 5,.int 5]) (by kernel_rfl))) (@aa _ _ _ _ _ (@aU _ _ _ _ _ _ _ _ (@pK _) (@aO _ _ _ _ (@aB _ _ ([.int 2,.int 3]) (by kernel_rfl))) (@aj _ _ _ _)) (@aa _ _ _ _ _ (@aO _ _ _ _ (@ae _)) (@aa _ _ _ _ _ (@eX _ _ _) (@ae _) (@ai _ _ _ _ _)) (@df _ _ _ _)) (@fD _ _ _ _ _ _)) (@df _ _ _ _)) (@aF _ _ _ _ _)))))))),rfl,?_⟩
 have line:sizeLine=2 ^ 24:=rfl
 refine ao fun U1 hU1=>?_
 walk_at "rd"
 refine ⟨cell,1,rfl,by decide,by decide,fun n1 hn1=>?_⟩
 walk_at "rd"
 refine (hU1 _ _).mpr (ao fun U2 hU2=>?_)
 clear hU1
 obtain ⟨sz,esz⟩:∃ sz,sz=2 + (n1:Int) % 9:=⟨_,rfl⟩
 rw [← esz]
 have z1:2≤sz:=by lia
 have z2:sz≤10:=by lia
 clear esz hn1
 walk_at "rd"
 intro p1 hp1
 generalize e1:upd H p1 _=H1
 have s1:=gT e1 hp1
 have r1:Rep K H1 (dpT (.box [110])) (.ref p1):=gTr e1 hp1 (.cons rS (.cons rS .nil))
 refine ⟨cell,2,rfl,by decide,by decide,fun n2 hn2=>?_⟩
 walk_at "rd"
 obtain ⟨md,emd⟩:∃ md:Int,md=(n2:Int) % 1000:=⟨_,rfl⟩
 rw [← emd]
 have m1:0≤md:=by lia
 have m2:md < 1000:=by lia
 clear emd hn2
 intro p2 hp2
 generalize e2:upd H1 p2 _=H2
 have s2:=gT e2 hp2
 have r2:Rep K H2 (dpT (.num md)) (.ref p2):=gTr e2 hp2 (.cons rS (.cons rI_ .nil))
 intro p3 hp3
 generalize e3:upd H2 p3 _=H3
 have s3:=gT e3 hp3
 have r3:Rep K H3 (dpT (.bin [43] (.box [110]) (.num md))) (.ref p3):=gTr e3 hp3 (.cons rS (.cons (r1.mono s2) (.cons r2 .nil)))
 have s3:=s1.trans (s2.trans s3)
 clear e1 e2 e3 s1 s2 r1 r2 hp1 hp2 hp3
 refine (hU2 _ _).mpr (ao fun U3 hU3=>?_)
 clear hU2
 walk_at "rd"
 intro p4 hp4
 generalize e4:upd H3 p4 _=H4
 have s4:=gT e4 hp4
 have r4:Rep K H4 (dpT (.num 0)) (.ref p4):=gTr e4 hp4 (.cons rS (.cons rI_ .nil))
 intro p5 hp5
 generalize e5:upd H4 p5 _=H5
 have s5:=gT e5 hp5
 have r5:Rep K H5 (dpT (.num 1)) (.ref p5):=gTr e5 hp5 (.cons rS (.cons rI_ .nil))
 intro p6 hp6
 generalize e6:upd H5 p6 _=H6
 have s6:=gT e6 hp6
 have r6:Rep K H6 (dpS (.put 3 [110] (.bin [43] (.box [110]) (.num md)))) (.ref p6):=gTr e6 hp6 (.cons rS (.cons rI_ (.cons rS (.cons (r3.mono (s4.trans s5)) .nil))))
 intro p7 hp7
 generalize e7:upd H6 p7 _=H7
 have s7:=gL e7 hp7
 have r7:Rep K H7 (.lst (pP [.put 3 [110] (.bin [43] (.box [110]) (.num md))])) (.ref p7):=gLr e7 hp7 (.cons r6 .nil)
 intro p8 hp8
 generalize e8:upd H7 p8 _=H8
 have s8:=gT e8 hp8
 have r8:Rep K H8 (dpS (.whl 2 [60] (.num 0) (.num 1) [.put 3 [110] (.bin [43] (.box [110]) (.num md))])) (.ref p8):=gTr e8 hp8 (.cons rS (.cons rI_ (.cons rS (.cons (r4.mono (s5.trans (s6.trans s7))) (.cons (r5.mono (s6.trans s7)) (.cons r7 .nil))))))
 have s8:=s3.trans (s4.trans (s5.trans (s6.trans (s7.trans s8))))
 clear e4 e5 e6 e7 e8 s3 s4 s5 s6 s7 r3 r4 r5 r6 r7 hp4 hp5 hp6 hp7 hp8
 refine (hU3 _ _).mpr ?_
 clear hU3
 walk_at "rd"
 intro b1 hb1
 generalize e1:upd H8 b1 _=L1
 have t1:=gT e1 hb1
 have w1:Rep K L1 (eV ⟨[110],sz,0⟩) (.ref b1):=gTr e1 hb1 (.cons rS (.cons rI_ (.cons rI_ .nil)))
 intro b2 hb2
 generalize e2:upd L1 b2 _=L2
 have t2:=gL e2 hb2
 have w2:Rep K L2 (.lst ((prR sz md).ax.map eV)) (.ref b2):=gLr e2 hb2 (.cons w1 .nil)
 intro b3 hb3
 generalize e3:upd L2 b3 _=L3
 have t3:=gL e3 hb3
 have w3:Rep K L3 (.lst ((prR sz md).body.map dpS)) (.ref b3):=gLr e3 hb3 (.cons (r8.mono (t1.trans t2)) .nil)
 intro b4 hb4
 generalize e4:upd L3 b4 _=L4
 have t4:=gT e4 hb4
 have w4:Rep K L4 (fE (prR sz md)) (.ref b4):=gTr e4 hb4 (.cons (w2.mono t3) (.cons w3 .nil))
 intro b5 hb5
 generalize e5:upd L4 b5 _=L5
 have t5:=gL e5 hb5
 intro b6 hb6
 generalize e6:upd L5 b6 _=L6
 have t6:=gL e6 hb6
 refine ⟨b6,_,_,rfl,rfl,gLa e6,by decide,by decide,by show 2 * 150≤_; lia,?_⟩
 obtain ⟨n,hn⟩:∃ n:Nat,(150:Int).toNat=n:=⟨_,rfl⟩
 rw [hn]
 intro b7 hb7
 generalize e7:upd L6 b7 _=L7
 have t7:=gL e7 hb7
 intro b8 hb8
 generalize e8:upd L7 b8 _=L8
 have t8:=gL e8 hb8
 intro b9 hb9
 generalize e9:upd L8 b9 _=L9
 have t9:=gL e9 hb9
 have em:∀ (xs:List Int) (n:Nat),((List.replicate n xs).flatten).map V.int=(List.replicate n (xs.map V.int)).flatten:=fun xs n=>by rw [List.map_flatten,List.map_replicate]
 refine q b9 L9 sz md n hn.symm z1 z2 m1 m2 (s8.trans (t1.trans (t2.trans (t3.trans (t4.trans (t5.trans (t6.trans (t7.trans (t8.trans t9))))))))) ⟨.ref b4,b5,b7,b8,.non,.of (gLa e9),w4.mono (t5.trans (t6.trans (t7.trans (t8.trans t9)))),.of (t9 _ _ (t8 _ _ (t7 _ _ (t6 _ _ (gLa e5))))),.of ?_,.of (t9 _ _ (gLa e8)),rfl⟩
 rw [em]
 exact t9 _ _ (t8 _ _ (gLa e7))
theorem Bt (T:Tx K mg t):bP P w K mg base CX0 2 t.c7 t.kY ["cell"] (Dg K):=by
 have aW:=hZ (P:=P) (w:=w) (base:=base) T
 refine T.fT.F.okS kX (fun vs H Q E h=>?_) (fun cdv A outer s H vs Q E hr h=>?_)
 · obtain ⟨_,rfl,_⟩:=h
   rfl
 obtain ⟨cell,rfl,q⟩:=h
 have nd:=kX.nd
 refine ⟨_,[some (V.int cell),none,none,none,none,none,none,none,none,none],(@ag _ _ _ _ _ (@nv _ _ _ _ _ _ (@iL _ _ _ _ _ _ _ ["k"] [0] _ _ _ _ rfl (by rfl) (by rfl) (@jf _ _ _ _ _ _ rfl T.gY (@aa _ _ _ _ _ (@aj _ _ _ _) (@ae _) (@ai _ _ _ _ _)) (by first | rfl | exact .inl rfl | exact .inr rfl | decide | (intro _; rfl) | assumption)) (fun _ _ _ _=>(@aS _ _ 0 _ (by show List.Nodup (["k", "cell"]:List Str); decide +kernel) rfl (Or.inl rfl) (by first | rfl | exact .inl rfl | exact .inr rfl | decide | (intro _; rfl) | assumption))) (fun _ _ _ _=>(@gN _)) (fun _ _ _ _=>(@aU _ _ _ _ _ _ _ _ (@dF _) (@aj _ _ _ _) (@aU _ _ _ _ _ _ _ _ (@bT _) (@aL _ _ _ _ _ _ _ _ _ _ _ _ _ _ _ _ aW (hr.mono (by omega)) rfl T.aq.m T.aq.F.kp T.aq.b .nil ba (@aa _ _ _ _ _ (pv 1) (@aa _ _ _ _ _ (@aU _ _ _ _ _ _ _ _ (@dF _) (@aj _ _ _ _) (pv 0)) (@ae _) (@fD _ _ _ _ _ _)) (@ah _ _ _ _)) (by first | rfl | exact .inl rfl | exact .inr rfl | decide | (intro _; rfl) | assumption) (by first | rfl | exact .inl rfl | exact .inr rfl | decide | (intro _; rfl) | assumption) (by first | rfl | exact .inl rfl | exact .inr rfl | decide | (intro _; rfl) | assumption)) (@aj _ _ _ _)))) (by first | rfl | exact .inl rfl | exact .inr rfl | decide | (intro _; rfl) | assumption)) (@nB _ _ _ _ _ _ rfl (@aZ _ _ _ _ _ (@aS _ _ 1 _ nd rfl (Or.inl rfl) (by first | rfl | exact .inl rfl | exact .inr rfl | decide | (intro _; rfl) | assumption)) (@aZ _ _ _ _ _ (@aS _ _ 2 _ nd rfl (Or.inl rfl) (by first | rfl | exact .inl rfl | exact .inr rfl | decide | (intro _; rfl) | assumption)) (@aZ _ _ _ _ _ (@aS _ _ 3 _ nd rfl (Or.inl rfl) (by first | rfl | exact .inl rfl | exact .inr rfl | decide | (intro _; rfl) | assumption)) (@iK _) (by first | rfl | exact .inl rfl | exact .inr rfl | decide | (intro _; rfl) | assumption)) (by first | rfl | exact .inl rfl | exact .inr rfl | decide | (intro _; rfl) | assumption)) (by first | rfl | exact .inl rfl | exact .inr rfl | decide | (intro _; rfl) | assumption)) (by first | rfl | exact .inl rfl | exact .inr rfl | decide | (intro _; rfl) | assumption) (by first | rfl | exact .inl rfl | exact .inr rfl | decide | (intro _; rfl) | assumption)) (by first | rfl | exact .inl rfl | exact .inr rfl | decide | (intro _; rfl) | assumption) (by first | rfl | exact .inl rfl | exact .inr rfl | decide | (intro _; rfl) | assumption) (by first | rfl | exact .inl rfl | exact .inr rfl | decide | (intro _; rfl) | assumption)) (@ag _ _ _ _ _ (@aE _ _ 4 _ _ _ _ nd rfl (Or.inl rfl) (@au _ _ _ _ _ (@aB _ _ ([.str "number",.int 1]) (by kernel_rfl))) (by first | rfl | exact .inl rfl | exact .inr rfl | decide | (intro _; rfl) | assumption) (by first | rfl | exact .inl rfl | exact .inr rfl | decide | (intro _; rfl) | assumption)) (@ag _ _ _ _ _ (@aE _ _ 5 _ _ _ _ nd rfl (Or.inl rfl) (@au _ _ _ _ _ (@aa _ _ _ _ _ (@ay _ _ _ _) (@aa _ _ _ _ _ (@aj _ _ _ _) (@aa _ _ _ _ _ (@ay _ _ _ _) (@aa _ _ _ _ _ (@au _ _ _ _ _ (@aB _ _ ([.str "box",.str "a"]) (by kernel_rfl))) (@aa _ _ _ _ _ (@au _ _ _ _ _ (@aa _ _ _ _ _ (@ay _ _ _ _) (@aa _ _ _ _ _ (pv 1) (@ae _) (@ah _ _ _ _)) (@ai _ _ _ _ _))) (@aa _ _ _ _ _ (@aO _ _ _ _ (@aa _ _ _ _ _ (@au _ _ _ _ _ (@aa _ _ _ _ _ (@ay _ _ _ _) (@aa _ _ _ _ _ (@aj _ _ _ _) (@aa _ _ _ _ _ (@ay _ _ _ _) (@aa _ _ _ _ _ (@au _ _ _ _ _ (@aa _ _ _ _ _ (@ay _ _ _ _) (@aa _ _ _ _ _ (@au _ _ _ _ _ (@aB _ _ ([.str "box",.str "a"]) (by kernel_rfl))) (@aa _ _ _ _ _ (pv 4) (@ae _) (@ah _ _ _ _)) (@aF _ _ _ _ _)) (@ai _ _ _ _ _))) (@ae _) (@aF _ _ _ _ _)) (@ai _ _ _ _ _)) (@ai _ _ _ _ _)) (@ai _ _ _ _ _))) (@ae _) (@aF _ _ _ _ _))) (@ae _) (@df _ _ _ _)) (@aF _ _ _ _ _)) (@aF _ _ _ _ _)) (@ai _ _ _ _ _)) (@ai _ _ _ _ _)) (@ai _ _ _ _ _))) (by first | rfl | exact .inl rfl | exact .inr rfl | decide | (intro _; rfl) | assumption) (by first | rfl | exact .inl rfl | exact .inr rfl | decide | (intro _; rfl) | assumption)) (@ag _ _ _ _ _ (@aE _ _ 6 _ _ _ _ nd rfl (Or.inl rfl) (@aO _ _ _ _ (@aa _ _ _ _ _ (@au _ _ _ _ _ (@aa _ _ _ _ _ (@ay _ _ _ _) (@aa _ _ _ _ _ (@aj _ _ _ _) (@aa _ _ _ _ _ (@ay _ _ _ _) (@aa _ _ _ _ _ (@au _ _ _ _ _ (@aB _ _ ([.str "number",.int 0]) (by kernel_rfl))) (@ae _) (@aF _ _ _ _ _)) (@ai _ _ _ _ _)) (@ai _ _ _ _ _)) (@ai _ _ _ _ _))) (@aa _ _ _ _ _ (pv 5) (@aa _ _ _ _ _ (@au _ _ _ _ _ (@aa _ _ _ _ _ (@ay _ _ _ _) (@aa _ _ _ _ _ (@aj _ _ _ _) (@aa _ _ _ _ _ (@ay _ _ _ _) (@aa _ _ _ _ _ (@au _ _ _ _ _ (@aa _ _ _ _ _ (@ay _ _ _ _) (@aa _ _ _ _ _ (@au _ _ _ _ _ (@aB _ _ ([.str "box",.str "b"]) (by kernel_rfl))) (@aa _ _ _ _ _ (pv 4) (@ae _) (@ah _ _ _ _)) (@aF _ _ _ _ _)) (@ai _ _ _ _ _))) (@ae _) (@aF _ _ _ _ _)) (@ai _ _ _ _ _)) (@ai _ _ _ _ _)) (@ai _ _ _ _ _))) (@ae _) (@aF _ _ _ _ _)) (@ah _ _ _ _)) (@aF _ _ _ _ _))) (by first | rfl | exact .inl rfl | exact .inr rfl | decide | (intro _; rfl) | assumption) (by first | rfl | exact .inl rfl | exact .inr rfl | decide | (intro _; rfl) | assumption)) (@ag _ _ _ _ _ (@aE _ _ 7 _ _ _ _ nd rfl (Or.inl rfl) (@aO _ _ _ _ (@aa _ _ _ _ _ (@au _ _ _ _ _ (@aa _ _ _ _ _ (@ay _ _ _ _) (@aa _ _ _ _ _ (@aj _ _ _ _) (@aa _ _ _ _ _ (@ay _ _ _ _) (@aa _ _ _ _ _ (@au _ _ _ _ _ (@aB _ _ ([.str "number",.int 0]) (by kernel_rfl))) (@ae _) (@aF _ _ _ _ _)) (@ai _ _ _ _ _)) (@ai _ _ _ _ _)) (@ai _ _ _ _ _))) (@aa _ _ _ _ _ (@au _ _ _ _ _ (@aa _ _ _ _ _ (@ay _ _ _ _) (@aa _ _ _ _ _ (@aj _ _ _ _) (@aa _ _ _ _ _ (@ay _ _ _ _) (@aa _ _ _ _ _ (@au _ _ _ _ _ (@aB _ _ ([.str "box",.str "b"]) (by kernel_rfl))) (@aa _ _ _ _ _ (@au _ _ _ _ _ (@aa _ _ _ _ _ (@ay _ _ _ _) (@aa _ _ _ _ _ (pv 2) (@ae _) (@ah _ _ _ _)) (@ai _ _ _ _ _))) (@aa _ _ _ _ _ (pv 6) (@ae _) (@ah _ _ _ _)) (@aF _ _ _ _ _)) (@aF _ _ _ _ _)) (@ai _ _ _ _ _)) (@ai _ _ _ _ _)) (@ai _ _ _ _ _))) (@ae _) (@aF _ _ _ _ _)) (@aF _ _ _ _ _))) (by first | rfl | exact .inl rfl | exact .inr rfl | decide | (intro _; rfl) | assumption) (by first | rfl | exact .inl rfl | exact .inr rfl | decide | (intro _; rfl) | assumption)) (@ag _ _ _ _ _ (@dU _ _ _ _ (@kK _ _ _ _ _ _ _ _ _ _ _ _ PySem.F.plainAttrs_list PySem.F.slot_list_append PySem.F.type_list_append dD (pv 7) (@aa _ _ _ _ _ (@au _ _ _ _ _ (@aa _ _ _ _ _ (@ay _ _ _ _) (@aa _ _ _ _ _ (@aj _ _ _ _) (@aa _ _ _ _ _ (@ay _ _ _ _) (@aa _ _ _ _ _ (@au _ _ _ _ _ (@aa _ _ _ _ _ (@ay _ _ _ _) (@aa _ _ _ _ _ (@au _ _ _ _ _ (@aB _ _ ([.str "box",.str "c"]) (by kernel_rfl))) (@aa _ _ _ _ _ (pv 4) (@ae _) (@ah _ _ _ _)) (@aF _ _ _ _ _)) (@ai _ _ _ _ _))) (@ae _) (@aF _ _ _ _ _)) (@ai _ _ _ _ _)) (@ai _ _ _ _ _)) (@ai _ _ _ _ _))) (@ae _) (@aF _ _ _ _ _)) (by first | rfl | exact .inl rfl | exact .inr rfl | decide | (intro _; rfl) | assumption) (by first | rfl | exact .inl rfl | exact .inr rfl | decide | (intro _; rfl) | assumption) (by first | rfl | exact .inl rfl | exact .inr rfl | decide | (intro _; rfl) | assumption) (by first | rfl | exact .inl rfl | exact .inr rfl | decide | (intro _; rfl) | assumption) (by first | rfl | exact .inl rfl | exact .inr rfl | decide | (intro _; rfl) | assumption)) (by first | rfl | exact .inl rfl | exact .inr rfl | decide | (intro _; rfl) | assumption)) (@ag _ _ _ _ _ (@aE _ _ 8 _ _ _ _ nd rfl (Or.inl rfl) (@aO _ _ _ _ (@aa _ _ _ _ _ (@au _ _ _ _ _ (@aa _ _ _ _ _ (@ay _ _ _ _) (@aa _ _ _ _ _ (@aj _ _ _ _) (@aa _ _ _ _ _ (@ay _ _ _ _) (@aa _ _ _ _ _ (@au _ _ _ _ _ (@aB _ _ ([.str "box",.str "c"]) (by kernel_rfl))) (@aa _ _ _ _ _ (@au _ _ _ _ _ (@aa _ _ _ _ _ (@ay _ _ _ _) (@aa _ _ _ _ _ (pv 3) (@ae _) (@ah _ _ _ _)) (@ai _ _ _ _ _))) (@aa _ _ _ _ _ (pv 7) (@ae _) (@ah _ _ _ _)) (@aF _ _ _ _ _)) (@aF _ _ _ _ _)) (@ai _ _ _ _ _)) (@ai _ _ _ _ _)) (@ai _ _ _ _ _))) (@aa _ _ _ _ _ (@au _ _ _ _ _ (@aa _ _ _ _ _ (@ay _ _ _ _) (@aa _ _ _ _ _ (@aj _ _ _ _) (@aa _ _ _ _ _ (@au _ _ _ _ _ (@aB _ _ ([.str "box",.str "c"]) (by kernel_rfl))) (@ae _) (@aF _ _ _ _ _)) (@ai _ _ _ _ _)) (@ai _ _ _ _ _))) (@ae _) (@aF _ _ _ _ _)) (@aF _ _ _ _ _))) (by first | rfl | exact .inl rfl | exact .inr rfl | decide | (intro _; rfl) | assumption) (by first | rfl | exact .inl rfl | exact .inr rfl | decide | (intro _; rfl) | assumption)) (@ag _ _ _ _ _ (@aE _ _ 9 _ _ _ _ nd rfl (Or.inl rfl) (@aU _ _ _ _ _ _ _ _ (@fC _) (@aU _ _ _ _ _ _ _ _ (@fC _) (@aO _ _ _ _ (@aB _ _ ([.int 6,.int 7]) (by kernel_rfl))) (@aU _ _ _ _ _ _ _ _ (@pK _) (@aO _ _ _ _ (@aB _ _ ([.int 8,.int 9]) (by kernel_rfl))) (pv 1))) (@aO _ _ _ _ (@aB _ _ ([.int 8,.int 11]) (by kernel_rfl)))) (by first | rfl | exact .inl rfl | exact .inr rfl | decide | (intro _; rfl) | assumption) (by first | rfl | exact .inl rfl | exact .inr rfl | decide | (intro _; rfl) | assumption)) (@ag _ _ _ _ _ (@aE _ _ 9 _ _ _ _ nd rfl (Or.inl rfl) (@aU _ _ _ _ _ _ _ _ (@fC _) (@aU _ _ _ _ _ _ _ _ (@fC _) (@aO _ _ _ _ (@aB _ _ ([.int 4,.int 5]) (by kernel_rfl))) (@aU _ _ _ _ _ _ _ _ (@pK _) (pv 9) (pv 2))) (@aO _ _ _ _ (@aB _ _ ([.int 6,.int 13]) (by kernel_rfl)))) (by first | rfl | exact .inl rfl | exact .inr rfl | decide | (intro _; rfl) | assumption) (by first | rfl | exact .inl rfl | exact .inr rfl | decide | (intro _; rfl) | assumption)) (@av _ _ _ (@aX _ _ _ _ (@aO _ _ _ _ (@aa _ _ _ _ _ (@au _ _ _ _ _ (@aa _ _ _ _ _ (@aO _ _ _ _ (@aa _ _ _ _ _ (@au _ _ _ _ _ (@aB _ _ ([.str "a",.int 10,.int 0]) (by kernel_rfl))) (@aa _ _ _ _ _ (@au _ _ _ _ _ (@aB _ _ ([.str "b",.int 10,.int 0]) (by kernel_rfl))) (@aa _ _ _ _ _ (@au _ _ _ _ _ (@aB _ _ ([.str "c",.int 10,.int 0]) (by kernel_rfl))) (@ae _) (@aF _ _ _ _ _)) (@aF _ _ _ _ _)) (@aF _ _ _ _ _))) (@aa _ _ _ _ _ (pv 8) (@ae _) (@ah _ _ _ _)) (@df _ _ _ _))) (@aa _ _ _ _ _ (@aU _ _ _ _ _ _ _ _ (@fC _) (@aU _ _ _ _ _ _ _ _ (@pK _) (pv 9) (pv 3)) (@aO _ _ _ _ (@aB _ _ ([.int 4,.int 15]) (by kernel_rfl)))) (@aa _ _ _ _ _ (pv 3) (@ae _) (@ah _ _ _ _)) (@fD _ _ _ _ _ _)) (@aF _ _ _ _ _)))))))))))))),rfl,?_⟩
 have line:sizeLine=2 ^ 24:=rfl
 refine ao fun U1 hU1=>?_
 walk_at "rd"
 simp only [j8]
 walk_at "rd"
 refine ⟨_,rfl,by lia,by lia,fun D hD=>?_⟩
 rw [show ((3:Int)).toNat=3 from rfl]
 refine vc (r:=[some (V.int cell)]) (fun _ m=>1≤m∧m≤9) (by lia) hD (fun i H2 hi s2 R hR=>?_) (fun ns lf ok=>?_)
 · walk_at "rd"
   refine ⟨cell,6 + i,rfl,by lia,by lia,fun n4 hn4=>?_⟩
   walk_at "rd"
   exact hR _ ⟨by lia,by lia⟩
 obtain ⟨ia,ib,ic,rfl⟩:∃ a b c,ns=[a,b,c]:=match ns,lf with | [a,b,c],_=>⟨a,b,c,rfl⟩
 have oa:=ok 0 ia rfl
 have ob:=ok 1 ib rfl
 have oc:=ok 2 ic rfl
 clear ok lf
 obtain ⟨sa,rfl⟩:∃ n:Nat,ia=(n:Int):=⟨ia.toNat,by lia⟩
 obtain ⟨sb,rfl⟩:∃ n:Nat,ib=(n:Int):=⟨ib.toNat,by lia⟩
 obtain ⟨sc,rfl⟩:∃ n:Nat,ic=(n:Int):=⟨ic.toNat,by lia⟩
 refine ⟨D,_,rfl,.of ar,rfl,_,_,rfl,_,_,rfl,_,_,rfl,rfl,(hU1 _ _).mpr (ao fun U2 hU2=>?_)⟩
 clear hU1
 generalize e0:upd H D _=H0
 have s0:=gL e0 hD
 clear e0 hD
 walk_at "rd"
 intro p1 hp1
 generalize ep1:upd H0 p1 _=H1
 have sp1:=gT ep1 hp1
 have rp1:Rep K H1 (dpT (.num 1)) (.ref p1):=gTr ep1 hp1 (.cons rS (.cons rI_ .nil))
 have s0:=s0.trans sp1
 refine (hU2 _ _).mpr (ao fun U3 hU3=>?_)
 clear hU2 ep1 hp1 sp1
 walk_at "rd"
 intro p2 hp2
 generalize ep2:upd H1 p2 _=H2
 have sp2:=gT ep2 hp2
 have rp2:Rep K H2 (dpT (.box [97])) (.ref p2):=gTr ep2 hp2 (.cons rS (.cons rS .nil))
 intro p3 hp3
 generalize ep3:upd H2 p3 _=H3
 have sp3:=gT ep3 hp3
 have rp3:Rep K H3 (dpT (.num sa)) (.ref p3):=gTr ep3 hp3 (.cons rS (.cons rI_ .nil))
 intro p4 hp4
 generalize ep4:upd H3 p4 _=H4
 have sp4:=gT ep4 hp4
 have rp4:Rep K H4 (dpT (.box [97])) (.ref p4):=gTr ep4 hp4 (.cons rS (.cons rS .nil))
 intro p5 hp5
 generalize ep5:upd H4 p5 _=H5
 have sp5:=gT ep5 hp5
 have rp5:Rep K H5 (dpT (.bin [43] (.box [97]) (.num 1))) (.ref p5):=gTr ep5 hp5 (.cons rS (.cons rp4 (.cons (rp1.mono (sp2.trans (sp3.trans sp4))) .nil)))
 intro p6 hp6
 generalize ep6:upd H5 p6 _=H6
 have sp6:=gT ep6 hp6
 have rp6:Rep K H6 (dpS (.put 9 [97] (.bin [43] (.box [97]) (.num 1)))) (.ref p6):=gTr ep6 hp6 (.cons rS (.cons rI_ (.cons rS (.cons rp5 .nil))))
 intro p7 hp7
 generalize ep7:upd H6 p7 _=H7
 have sp7:=gL ep7 hp7
 have rp7:Rep K H7 (.lst (pP [.put 9 [97] (.bin [43] (.box [97]) (.num 1))])) (.ref p7):=gLr ep7 hp7 (.cons rp6 .nil)
 intro p8 hp8
 generalize ep8:upd H7 p8 _=H8
 have sp8:=gT ep8 hp8
 have rp8:Rep K H8 (dpS (.whl 8 [60] (.box [97]) (.num sa) [.put 9 [97] (.bin [43] (.box [97]) (.num 1))])) (.ref p8):=gTr ep8 hp8 (.cons rS (.cons rI_ (.cons rS (.cons (rp2.mono (sp3.trans (sp4.trans (sp5.trans (sp6.trans sp7))))) (.cons (rp3.mono (sp4.trans (sp5.trans (sp6.trans sp7)))) (.cons rp7 .nil))))))
 have s28:=sp2.trans (sp3.trans (sp4.trans (sp5.trans (sp6.trans (sp7.trans sp8)))))
 have rp1:=rp1.mono s28
 have s8:=s0.trans s28
 clear ep2 ep3 ep4 ep5 ep6 ep7 ep8 hp2 hp3 hp4 hp5 hp6 hp7 hp8 sp2 sp3 sp4 sp5 sp6 sp7 sp8 rp2 rp3 rp4 rp5 rp6 rp7 s28 s0
 refine (hU3 _ _).mpr (ao fun U4 hU4=>?_)
 clear hU3
 walk_at "rd"
 intro q1 hq1
 generalize eq1:upd H8 q1 _=I1
 have sq1:=gT eq1 hq1
 have rq1:Rep K I1 (dpT (.num 0)) (.ref q1):=gTr eq1 hq1 (.cons rS (.cons rI_ .nil))
 intro q2 hq2
 generalize eq2:upd I1 q2 _=I2
 have sq2:=gT eq2 hq2
 have rq2:Rep K I2 (dpS (.put 7 [97] (.num 0))) (.ref q2):=gTr eq2 hq2 (.cons rS (.cons rI_ (.cons rS (.cons rq1 .nil))))
 intro q3 hq3
 generalize eq3:upd I2 q3 _=I3
 have sq3:=gT eq3 hq3
 have rq3:Rep K I3 (dpT (.box [98])) (.ref q3):=gTr eq3 hq3 (.cons rS (.cons rS .nil))
 intro q4 hq4
 generalize eq4:upd I3 q4 _=I4
 have sq4:=gT eq4 hq4
 have rq4:Rep K I4 (dpT (.bin [43] (.box [98]) (.num 1))) (.ref q4):=gTr eq4 hq4 (.cons rS (.cons rq3 (.cons (rp1.mono (sq1.trans (sq2.trans sq3))) .nil)))
 intro q5 hq5
 generalize eq5:upd I4 q5 _=I5
 have sq5:=gT eq5 hq5
 have rq5:Rep K I5 (dpS (.put 11 [98] (.bin [43] (.box [98]) (.num 1)))) (.ref q5):=gTr eq5 hq5 (.cons rS (.cons rI_ (.cons rS (.cons rq4 .nil))))
 intro q6 hq6
 generalize eq6:upd I5 q6 _=I6
 have sq6:=gL eq6 hq6
 have rq6:Rep K I6 (.lst (pP [.put 7 [97] (.num 0),.whl 8 [60] (.box [97]) (.num sa) [.put 9 [97] (.bin [43] (.box [97]) (.num 1))],.put 11 [98] (.bin [43] (.box [98]) (.num 1))])) (.ref q6):=gLr eq6 hq6 (.cons (rq2.mono (sq3.trans (sq4.trans sq5))) (.cons (rp8.mono (sq1.trans (sq2.trans (sq3.trans (sq4.trans sq5))))) (.cons rq5 .nil)))
 have s16:=sq1.trans (sq2.trans (sq3.trans (sq4.trans (sq5.trans sq6))))
 have rp1:=rp1.mono s16
 have s9:=s8.trans s16
 clear eq1 eq2 eq3 eq4 eq5 eq6 hq1 hq2 hq3 hq4 hq5 hq6 sq1 sq2 sq3 sq4 sq5 sq6 rq1 rq2 rq3 rq4 rq5 rp8 s16 s8
 refine (hU4 _ _).mpr (ao fun U5 hU5=>?_)
 clear hU4
 walk_at "rd"
 intro u1 hu1
 generalize eu1:upd I6 u1 _=J1
 have su1:=gT eu1 hu1
 have ru1:Rep K J1 (dpT (.num 0)) (.ref u1):=gTr eu1 hu1 (.cons rS (.cons rI_ .nil))
 intro u2 hu2
 generalize eu2:upd J1 u2 _=J2
 have su2:=gT eu2 hu2
 have ru2:Rep K J2 (dpS (.put 5 [98] (.num 0))) (.ref u2):=gTr eu2 hu2 (.cons rS (.cons rI_ (.cons rS (.cons ru1 .nil))))
 intro u3 hu3
 generalize eu3:upd J2 u3 _=J3
 have su3:=gT eu3 hu3
 have ru3:Rep K J3 (dpT (.box [98])) (.ref u3):=gTr eu3 hu3 (.cons rS (.cons rS .nil))
 intro u4 hu4
 generalize eu4:upd J3 u4 _=J4
 have su4:=gT eu4 hu4
 have ru4:Rep K J4 (dpT (.num sb)) (.ref u4):=gTr eu4 hu4 (.cons rS (.cons rI_ .nil))
 intro u5 hu5
 generalize eu5:upd J4 u5 _=J5
 have su5:=gT eu5 hu5
 have ru5:Rep K J5 (dpS (.whl 6 [60] (.box [98]) (.num sb) [.put 7 [97] (.num 0),.whl 8 [60] (.box [97]) (.num sa) [.put 9 [97] (.bin [43] (.box [97]) (.num 1))],.put 11 [98] (.bin [43] (.box [98]) (.num 1))])) (.ref u5):=gTr eu5 hu5 (.cons rS (.cons rI_ (.cons rS (.cons (ru3.mono su4) (.cons ru4 (.cons (rq6.mono (su1.trans (su2.trans (su3.trans su4)))) .nil))))))
 have s15:=su1.trans (su2.trans (su3.trans (su4.trans su5)))
 have rp1:=rp1.mono s15
 have ru2:=ru2.mono (su3.trans (su4.trans su5))
 have s10:=s9.trans s15
 clear eu1 eu2 eu3 eu4 eu5 hu1 hu2 hu3 hu4 hu5 su1 su2 su3 su4 su5 ru1 ru3 ru4 rq6 s15 s9
 intro m0 hm0
 generalize em0:upd J5 m0 _=J6
 have sm0:=gL em0 hm0
 have ym:=gLa em0
 refine (hU5 _ _).mpr (ao fun U6 hU6=>?_)
 clear hU5
 walk_at "rd"
 refine ⟨.inl ⟨rfl,_,.of ym⟩,fun v1 hv1=>?_⟩
 generalize ev1:upd J6 v1 _=J7
 have sv1:=gT ev1 hv1
 intro v2 hv2
 generalize ev2:upd J7 v2 _=J8
 have sv2:=gT ev2 hv2
 intro v3 hv3
 generalize ev3:upd J8 v3 _=J9
 have sv3:=gT ev3 hv3
 have ym':=sv3 _ _ (sv2 _ _ (sv1 _ _ ym))
 refine ⟨m0,_,_,rfl,rfl,ym',by simp; lia,?_⟩
 generalize ev4:upd J9 m0 _=L0
 have yl0:L0 m0=some (.lst ([V.ref u2,V.ref u5] ++ [V.ref v3])):=ev4 ▸ ar
 have sl0:aC J5 L0:=ev4 ▸ ((cv.of (sm0.trans (sv1.trans (sv2.trans sv3)))).put _).same hm0
 have kp:∀ b o,b≠m0→J9 b=some o→L0 b=some o:=fun b o n e=>by rw [← ev4,aR n]; exact e
 have rv1:Rep K L0 (dpT (.box [99])) (.ref v1):=Rep.a8.mpr ⟨v1,_,rfl,.of (kp _ _ (aA ym hv1).symm (sv3 _ _ (sv2 _ _ (gTa ev1)))),.cons rS (.cons rS .nil)⟩
 have rv2:Rep K L0 (dpT (.bin [43] (.box [99]) (.num 1))) (.ref v2):=Rep.a8.mpr ⟨v2,_,rfl,.of (kp _ _ (aA (sv1 _ _ ym) hv2).symm (sv3 _ _ (gTa ev2))),.cons rS (.cons rv1 (.cons (rp1.mono sl0) .nil))⟩
 have rv3:Rep K L0 (dpS (.put 13 [99] (.bin [43] (.box [99]) (.num 1)))) (.ref v3):=Rep.a8.mpr ⟨v3,_,rfl,.of (kp _ _ (aA (sv2 _ _ (sv1 _ _ ym)) hv3).symm (gTa ev3)),.cons rS (.cons rI_ (.cons rS (.cons rv2 .nil)))⟩
 have rm:Rep K L0 (.lst (pP [.put 5 [98] (.num 0),.whl 6 [60] (.box [98]) (.num sb) [.put 7 [97] (.num 0),.whl 8 [60] (.box [97]) (.num sa) [.put 9 [97] (.bin [43] (.box [97]) (.num 1))],.put 11 [98] (.bin [43] (.box [98]) (.num 1))],.put 13 [99] (.bin [43] (.box [99]) (.num 1))])) (.ref m0):=Rep.bU.mpr ⟨m0,_,rfl,.of yl0,.cons (ru2.mono sl0) (.cons (ru5.mono sl0) (.cons rv3 .nil))⟩
 have s11:=s10.trans sl0
 clear em0 ev1 ev2 ev3 ev4 hm0 hv1 hv2 hv3 sm0 sv1 sv2 sv3 ym ym' yl0 sl0 kp rv1 rv2 rv3 ru2 ru5 rp1 s10
 refine (hU6 _ _).mpr (ao fun U7 hU7=>?_)
 clear hU6
 walk_at "rd"
 intro w1 hw1
 generalize ew1:upd L0 w1 _=L1
 have sw1:=gT ew1 hw1
 have rw1:Rep K L1 (dpT (.box [99])) (.ref w1):=gTr ew1 hw1 (.cons rS (.cons rS .nil))
 intro w2 hw2
 generalize ew2:upd L1 w2 _=L2
 have sw2:=gT ew2 hw2
 have rw2:Rep K L2 (dpT (.num sc)) (.ref w2):=gTr ew2 hw2 (.cons rS (.cons rI_ .nil))
 intro w3 hw3
 generalize ew3:upd L2 w3 _=L3
 have sw3:=gT ew3 hw3
 have rw3:Rep K L3 (dpS (.whl 4 [60] (.box [99]) (.num sc) [.put 5 [98] (.num 0),.whl 6 [60] (.box [98]) (.num sb) [.put 7 [97] (.num 0),.whl 8 [60] (.box [97]) (.num sa) [.put 9 [97] (.bin [43] (.box [97]) (.num 1))],.put 11 [98] (.bin [43] (.box [98]) (.num 1))],.put 13 [99] (.bin [43] (.box [99]) (.num 1))])) (.ref w3):=gTr ew3 hw3 (.cons rS (.cons rI_ (.cons rS (.cons (rw1.mono sw2) (.cons rw2 (.cons (rm.mono (sw1.trans sw2)) .nil))))))
 intro w4 hw4
 generalize ew4:upd L3 w4 _=L4
 have sw4:=gT ew4 hw4
 have rw4:Rep K L4 (dpT (.box [99])) (.ref w4):=gTr ew4 hw4 (.cons rS (.cons rS .nil))
 intro w5 hw5
 generalize ew5:upd L4 w5 _=L5
 have sw5:=gT ew5 hw5
 have rw5:Rep K L5 (dpS (.say 15 (.box [99]))) (.ref w5):=gTr ew5 hw5 (.cons rS (.cons rI_ (.cons rw4 .nil)))
 intro w6 hw6
 generalize ew6:upd L5 w6 _=L6
 have sw6:=gL ew6 hw6
 have rw6:Rep K L6 (.lst ((prN sa sb sc).body.map dpS)) (.ref w6):=gLr ew6 hw6 (.cons (rw3.mono (sw4.trans sw5)) (.cons rw5 .nil))
 have s12:=s11.trans (sw1.trans (sw2.trans (sw3.trans (sw4.trans (sw5.trans sw6)))))
 clear ew1 ew2 ew3 ew4 ew5 ew6 hw1 hw2 hw3 hw4 hw5 hw6 sw1 sw2 sw3 sw4 sw5 sw6 rw1 rw2 rw3 rw4 rw5 rm s11
 refine (hU7 _ _).mpr (ao fun U8 hU8=>?_)
 clear hU7
 walk_at "rd"
 have em:∀ (xs:List Int) (n:Nat),(List.replicate n (xs.map V.int)).flatten=((List.replicate n xs).flatten).map V.int:=fun xs n=>by rw [List.map_flatten,List.map_replicate]
 have lB:(kU sa).length≤22:=by
   rw [kU]
   simp only [List.length_append,dB,List.length_cons,List.length_nil]
   lia
 intro x1 hx1
 generalize e1:upd L6 x1 _=M1
 have t1:=gL e1 hx1
 intro x2 hx2
 generalize e2:upd M1 x2 _=M2
 have t2:=gL e2 hx2
 refine ⟨x2,sa,_,rfl,rfl,gLa e2,by lia,by lia,by simp; lia,?_⟩
 rw [show ((sa:Int)).toNat=sa from Int.toNat_natCast _]
 intro x3 hx3
 generalize e3:upd M2 x3 _=M3
 have t3:=gL e3 hx3
 have y3:M3 x3=some (.lst (((List.replicate sa [8,9]).flatten).map V.int)):=by rw [← em]; exact gLa e3
 have l3:((List.replicate sa ([8,9]:List Int)).flatten).length≤18:=by rw [dB]; simp only [List.length_cons,List.length_nil]; lia
 refine ⟨x1,x3,_,_,rfl,rfl,t3 _ _ (t2 _ _ (gLa e1)),y3,by simp only [List.length_map,List.length_cons,List.length_nil]; lia,fun x4 hx4=>?_⟩
 generalize e4:upd M3 x4 _=M4
 have t4:=gL e4 hx4
 intro x5 hx5
 generalize e5:upd M4 x5 _=M5
 have t5:=gL e5 hx5
 refine ⟨x4,x5,_,_,rfl,rfl,t5 _ _ (gLa e4),gLa e5,by simp only [List.length_append,List.length_map,List.length_cons,List.length_nil]; lia,fun x6 hx6=>?_⟩
 generalize e6:upd M5 x6 _=M6
 have t6:=gL e6 hx6
 have y6:M6 x6=some (.lst ((kU sa).map V.int)):=by rw [kU,List.map_append,List.map_append]; exact gLa e6
 have t16:=t1.trans (t2.trans (t3.trans (t4.trans (t5.trans t6))))
 have s13:=s12.trans t16
 have rb:=rw6.mono t16
 clear e1 e2 e3 e4 e5 e6 t1 t2 t3 t4 t5 t6 hx1 hx2 hx3 hx4 hx5 hx6 y3 l3 t16 s12 rw6
 refine (hU8 _ _).mpr (ao fun U9 hU9=>?_)
 clear hU8
 walk_at "rd"
 intro x1 hx1
 generalize e1:upd M6 x1 _=N1
 have t1:=gL e1 hx1
 have l2:((List.replicate sb (kU sa)).flatten).length≤198:=by
   rw [dB]
   exact Nat.le_trans (Nat.mul_le_mul (show sb≤9 by lia) lB) (by decide)
 have l2':(kU sa).length * sb≤198:=by rw [Nat.mul_comm,← dB]; exact l2
 refine ⟨x6,sb,_,rfl,rfl,t1 _ _ y6,by lia,by lia,by rw [List.length_map,Int.toNat_natCast]; lia,?_⟩
 rw [show ((sb:Int)).toNat=sb from Int.toNat_natCast _]
 intro x2 hx2
 generalize e2:upd N1 x2 _=N2
 have t2:=gL e2 hx2
 have y2:N2 x2=some (.lst (((List.replicate sb (kU sa)).flatten).map V.int)):=by rw [← em]; exact gLa e2
 refine ⟨x1,x2,_,_,rfl,rfl,t2 _ _ (gLa e1),y2,by simp only [List.length_map,List.length_cons,List.length_nil]; lia,fun x3 hx3=>?_⟩
 generalize e3:upd N2 x3 _=N3
 have t3:=gL e3 hx3
 intro x4 hx4
 generalize e4:upd N3 x4 _=N4
 have t4:=gL e4 hx4
 refine ⟨x3,x4,_,_,rfl,rfl,t4 _ _ (gLa e3),gLa e4,by simp only [List.length_append,List.length_map,List.length_cons,List.length_nil]; lia,fun x5 hx5=>?_⟩
 generalize e5:upd N4 x5 _=N5
 have t5:=gL e5 hx5
 have y5:N5 x5=some (.lst ((gv sa sb).map V.int)):=by rw [gv,List.map_append,List.map_append]; exact gLa e5
 have lC:(gv sa sb).length≤202:=by rw [gv]; simp only [List.length_append,List.length_cons,List.length_nil]; lia
 have t15:=t1.trans (t2.trans (t3.trans (t4.trans t5)))
 have s14:=s13.trans t15
 have rb:=rb.mono t15
 clear e1 e2 e3 e4 e5 t1 t2 t3 t4 t5 hx1 hx2 hx3 hx4 hx5 y2 l2 l2' y6 t15 s13
 refine (hU9 _ _).mpr ?_
 clear hU9
 walk_at "rd"
 intro z1 hz1
 generalize ez1:upd N5 z1 _=O1
 have sz1:=gT ez1 hz1
 have rz1:Rep K O1 (eV ⟨[97],10,0⟩) (.ref z1):=gTr ez1 hz1 (.cons rS (.cons rI_ (.cons rI_ .nil)))
 intro z2 hz2
 generalize ez2:upd O1 z2 _=O2
 have sz2:=gT ez2 hz2
 have rz2:Rep K O2 (eV ⟨[98],10,0⟩) (.ref z2):=gTr ez2 hz2 (.cons rS (.cons rI_ (.cons rI_ .nil)))
 intro z3 hz3
 generalize ez3:upd O2 z3 _=O3
 have sz3:=gT ez3 hz3
 have rz3:Rep K O3 (eV ⟨[99],10,0⟩) (.ref z3):=gTr ez3 hz3 (.cons rS (.cons rI_ (.cons rI_ .nil)))
 intro z4 hz4
 generalize ez4:upd O3 z4 _=O4
 have sz4:=gL ez4 hz4
 have rz4:Rep K O4 (.lst ((prN sa sb sc).ax.map eV)) (.ref z4):=gLr ez4 hz4 (.cons (rz1.mono (sz2.trans sz3)) (.cons (rz2.mono sz3) (.cons rz3 .nil)))
 intro z5 hz5
 generalize ez5:upd O4 z5 _=O5
 have sz5:=gT ez5 hz5
 have rz5:Rep K O5 (fE (prN sa sb sc)) (.ref z5):=gTr ez5 hz5 (.cons rz4 (.cons (rb.mono (sz1.trans (sz2.trans (sz3.trans sz4)))) .nil))
 have t5:=sz1.trans (sz2.trans (sz3.trans (sz4.trans sz5)))
 have y5:=t5 _ _ y5
 have s15:=s14.trans t5
 clear ez1 ez2 ez3 ez4 ez5 hz1 hz2 hz3 hz4 hz5 sz1 sz2 sz3 sz4 sz5 rz1 rz2 rz3 rz4 rb t5 s14
 have l6:((List.replicate sc (gv sa sb)).flatten).length≤1818:=by
   rw [dB]
   exact Nat.le_trans (Nat.mul_le_mul (show sc≤9 by lia) lC) (by decide)
 have l6':(gv sa sb).length * sc≤1818:=by rw [Nat.mul_comm,← dB]; exact l6
 refine ⟨x5,sc,_,rfl,rfl,y5,by lia,by lia,by rw [List.length_map,Int.toNat_natCast]; lia,?_⟩
 rw [show ((sc:Int)).toNat=sc from Int.toNat_natCast _]
 intro a1 ha1
 generalize e1:upd O5 a1 _=O6
 have t1:=gL e1 ha1
 have y1:O6 a1=some (.lst (((List.replicate sc (gv sa sb)).flatten).map V.int)):=by rw [← em]; exact gLa e1
 intro a2 ha2
 generalize e2:upd O6 a2 _=O7
 have t2:=gL e2 ha2
 refine ⟨a1,a2,_,_,rfl,rfl,t2 _ _ y1,gLa e2,by simp only [List.length_map,List.length_cons,List.length_nil]; lia,fun a3 ha3=>?_⟩
 generalize e3:upd O7 a3 _=O8
 have t3:=gL e3 ha3
 intro a4 ha4
 generalize e4:upd O8 a4 _=O9
 have t4:=gL e4 ha4
 have t14:=t1.trans (t2.trans (t3.trans t4))
 refine q a4 a3 (.ref z5) O9 sa sb sc (by lia) (by lia) (by lia) (by lia) (s15.trans t14) (.of (gLa e4)) (rz5.mono t14) (.of ?_)
 rw [List.map_append]
 exact t4 _ _ (gLa e3)
theorem pZ:∀ s:PG.Stm,(V.str (wdS s.wd)=V.str (Str.ofString "while"))↔s.wd=.whl:=by
 intro s
 cases s <;> simp only [PG.Stm.wd] <;> decide +kernel
theorem vP:∀ s:PG.Stm,(V.str (wdS s.wd)=V.str (Str.ofString "if"))↔s.wd=.ifs:=by
 intro s
 cases s <;> simp only [PG.Stm.wd] <;> decide +kernel
theorem Ax:∀ s:PG.Stm,(V.str (wdS s.wd)=V.str (Str.ofString "stop"))↔s.wd=.stop:=by
 intro s
 cases s <;> simp only [PG.Stm.wd] <;> decide +kernel
theorem Ay {K:PySem.W.Frag} {H:Hp} {d0 d1 d2 d3 d4 d5:Dp} {xs:List V} {ds:List Dp} (h:aM K H (d0 :: d1 :: d2 :: d3 :: d4 :: d5 :: ds) xs):∃ v0 v1 v2 v3 v4 v5 r,xs=v0 :: v1 :: v2 :: v3 :: v4 :: v5 :: r∧Rep K H d5 v5∧aM K H ds r:=by
 rw [aM.aP] at h
 obtain ⟨v0,t0,rfl,_,h⟩:=h
 rw [aM.aP] at h
 obtain ⟨v1,t1,rfl,_,h⟩:=h
 rw [aM.aP] at h
 obtain ⟨v2,t2,rfl,_,h⟩:=h
 rw [aM.aP] at h
 obtain ⟨v3,t3,rfl,_,h⟩:=h
 rw [aM.aP] at h
 obtain ⟨v4,t4,rfl,_,h⟩:=h
 rw [aM.aP] at h
 obtain ⟨v5,t5,rfl,e5,h⟩:=h
 exact ⟨v0,v1,v2,v3,v4,v5,t5,rfl,e5,h⟩
theorem gZ (T:Tx K mg t):bP P w K mg base CX0 1 t.bY t.d9 ["body", "behind"] (oy K):=by
 refine T.bu.F.okS oH (fun vs H Q E h=>?_) (fun cdv A outer s H vs Q E hr h=>?_)
 · obtain ⟨_,_,_,rfl,_⟩:=h
   rfl
 obtain ⟨b,body,x,rfl,rb,lb,q⟩:=h
 have nd:=oH.nd
 refine ⟨_,[some (V.ref b),some (V.int x)],(ag (bS (BI (pv 0) (fun _=>rfl))
 (av (aX (a9 aV (a9 vA (pv 0) aj aw) aj aw)))
 bo)
 (av (aX (pv 1)))),rfl,?_⟩
 walk_at "rd"
 rw [Rep.bU] at rb
 obtain ⟨_,xs,e,hx,rs⟩:=rb
 cases e
 have line:sizeLine=2 ^ 24:=rfl
 cases body with
 | nil=>
   rw [List.map_nil,aM.cf] at rs
   subst rs
   exact ⟨false,.inl ⟨_,hx,rfl⟩,q⟩
 | cons st r=>
   rw [List.map_cons,aM.aP] at rs
   obtain ⟨v,t,rfl,rv,rs⟩:=rs
   obtain ⟨a,ys,rfl,hs⟩:=fH st rv
   refine ⟨true,.inl ⟨_,hx,rfl⟩,?_⟩
   refine (if_pos rfl).mpr (yx (v:=.ref a) hx (aG (j:=0) rfl) ?_)
   exact aQ hs (v:=.int st.row) (aG (j:=1) rfl) q
theorem sY (T:Tx K mg t):bP P w K mg base CX0 1 t.cF t.hV ["statement", "after"] (xn K):=by
 refine T.fS.F.okS kW (fun vs H Q E h=>?_) (fun cdv A outer s H vs Q E hr h=>?_)
 · obtain ⟨_,_,_,rfl,_⟩:=h
   rfl
 obtain ⟨v,st,x,rfl,rv,q⟩:=h
 have nd:=kW.nd
 refine ⟨_,[some v,some (V.int x)],(ag (bS (aY dA (a9 aV (pv 0) aj aw) ay (bc _))
 (av (aX (a9 aV (pv 0) aj aw)))
 bo)
 (av (aX (pv 1)))),rfl,?_⟩
 obtain ⟨a,ys,rfl,hs⟩:=fH st rv
 walk_at "rd"
 refine aQ hs (aG (j:=0) rfl) ⟨rfl,dM (fun e=>?_) (fun e=>?_)⟩
 · have ew:=(pZ st).mp e
   refine aQ hs (v:=.int st.row) (aG (j:=1) rfl) ?_
   cases st <;> first | exact q | cases ew
 · have ew:st.wd≠.whl:=fun z=>e ((pZ st).mpr z)
   cases st <;> first | exact q | exact absurd rfl ew
theorem oS (T:Tx K mg t):bP P w K mg base CX0 1 t.cZ t.gR ["statement"] (sj K):=by
 refine T.dR.F.okS oI (fun vs H Q E h=>?_) (fun cdv A outer s H vs Q E hr h=>?_)
 · obtain ⟨_,_,_,rfl,_⟩:=h
   rfl
 obtain ⟨v,st,H0,rfl,rv,s0,q⟩:=h
 have nd:=oI.nd
 refine ⟨_,[some v],(ag (bS (aY dA (a9 aV (pv 0) aj aw) ay (bc _))
 (av (aX (aO (aa (a9 aV (pv 0) aj aw) (aa (a9 aV (pv 0) aj aw) ae br) br))))
 bo)
 (ag (bS (aY dA (a9 aV (pv 0) aj aw) ay (bc _))
 (av (aX (aO (aa (a9 aV (pv 0) aj aw) ae br))))
 bo)
 (av (aX (aO ae))))),rfl,?_⟩
 obtain ⟨a,ys,rfl,hs⟩:=fH st rv
 have hs:=s0.c9 hs
 walk_at "rd"
 refine aQ hs (aG (j:=0) rfl) ⟨rfl,dM (fun e=>?_) (fun e=>aQ hs (aG (j:=0) rfl) ⟨rfl,dM (fun e2=>?_) (fun e2=>?_)⟩)⟩
 · have ew:=(vP st).mp e
   cases st <;> first | (exfalso; cases ew; done) | skip
   rename_i k sg l r x y
   rw [dpS,Rep.a8] at rv
   obtain ⟨_,xs,e0,hx,rs⟩:=rv
   cases e0
   obtain ⟨v0,v1,v2,v3,v4,v5,rr,rfl,r5,rs⟩:=Ay rs
   rw [aM.aP] at rs
   obtain ⟨v6,t6,rfl,r6,_⟩:=rs
   refine aQ (s0.c9 hx) (v:=v5) (aG (j:=5) rfl) (aQ (s0.c9 hx) (v:=v6) (aG (j:=6) rfl) fun p hp=>?_)
   rw [ji] at r5 r6
   exact q p _ _ (aC.new hp _) hp ar (.cons r5 (.cons r6 .nil))
 · have ew:=(pZ st).mp e2
   cases st <;> first | (exfalso; cases ew; done) | skip
   rename_i k sg l r x
   rw [dpS,Rep.a8] at rv
   obtain ⟨_,xs,e0,hx,rs⟩:=rv
   cases e0
   obtain ⟨v0,v1,v2,v3,v4,v5,rr,rfl,r5,rs⟩:=Ay rs
   refine aQ (s0.c9 hx) (v:=v5) (aG (j:=5) rfl) fun p hp=>?_
   rw [ji] at r5
   exact q p _ _ (aC.new hp _) hp ar (.cons r5 .nil)
 · intro p hp
   have e1:st.wd≠.ifs:=fun z=>e ((vP st).mpr z)
   have e2':st.wd≠.whl:=fun z=>e2 ((pZ st).mpr z)
   refine q p [] _ (aC.new hp _) hp ar ?_
   cases st <;> first | exact .nil | exact absurd rfl e1 | exact absurd rfl e2'
theorem zg (T:Tx K mg t):bP P w K mg base CX0 2 t.eW t.nH ["statement", "after"] (Cz K):=by
 have c6:bP P w K mg base CX0 1 t.bY t.d9 ["body", "behind"] (oy K):=gZ T
 refine T.mq.F.okS sM (fun vs H Q E h=>?_) (fun cdv A outer s H vs Q E hr h=>?_)
 · obtain ⟨_,_,_,rfl,_⟩:=h
   rfl
 obtain ⟨v,st,x,rfl,rv,hl,q⟩:=h
 have nd:=sM.nd
 obtain ⟨Av,oP,oQ⟩:=T.sS
 refine ⟨_,[some v,some (V.int x),none],(ag (aE (i:=2) nd rfl (Or.inl rfl) (a9 aV (pv 0) aj aw))
 (ag (bS (aY dA (pv 2) ay (bc _))
 (av (aX (au (aa (oh rfl oP oQ) ae ah))))
 bo)
 (ag (bS (aY dA (pv 2) ay (bc _))
 (av (aX (au (aa (aL c6 (hr.mono (by omega)) rfl T.bu.m T.bu.F.kp T.bu.b .nil ba (aa (a9 aV (pv 0) aj aw) (aa (pv 1) ae ah) br)) (aa (aL c6 (hr.mono (by omega)) rfl T.bu.m T.bu.F.kp T.bu.b .nil ba (aa (a9 aV (pv 0) aj aw) (aa (pv 1) ae ah) br)) ae cU) cU))))
 bo)
 (ag (bS (aY dA (pv 2) ay (bc _))
 (av (aX (au (aa (aL c6 (hr.mono (by omega)) rfl T.bu.m T.bu.F.kp T.bu.b .nil ba (aa (a9 aV (pv 0) aj aw) (aa (a9 aV (pv 0) aj aw) ae br) br)) (aa (pv 1) ae ah) cU))))
 bo)
 (av (aX (au (aa (pv 1) ae ah)))))))),rfl,?_⟩
 obtain ⟨a,ys,rfl,hs⟩:=fH st rv
 refine ao fun U1 hU1=>?_
 walk_at "rd"
 refine aQ hs (aG (j:=0) rfl) ((hU1 _ _).mpr ?_)
 walk_at "rd"
 have Du:∀ b∈aK st,b.length≤100000:=hl
 refine dM (fun e=>?_) (fun e=>dM (fun e1=>?_) (fun e1=>dM (fun e2=>?_) (fun e2=>?_)))
 · have ew:=(Ax st).mp (by rw [e])
   cases st <;> first | (exfalso; cases ew; done) | skip
   intro p hp
   exact q _ _ (aC.new hp _) (Rep.new hp (.cons (Rep.bG.mpr rfl) .nil))
 · have ew:=(vP st).mp (by rw [e1])
   cases st <;> first | (exfalso; cases ew; done) | skip
   rename_i k sg l r y z
   rw [dpS,Rep.a8] at rv
   obtain ⟨_,xs,e0,hx,rs⟩:=rv
   cases e0
   obtain ⟨v0,v1,v2,v3,v4,v5,rr,rfl,r5,rs⟩:=Ay rs
   rw [aM.aP] at rs
   obtain ⟨v6,t6,rfl,r6,_⟩:=rs
   rw [ji] at r5 r6
   obtain ⟨a5,_,rfl,_⟩:=Rep.bU.mp r5
   obtain ⟨a6,_,rfl,_⟩:=Rep.bU.mp r6
   refine aQ hx (v:=.ref a5) (aG (j:=5) rfl) ⟨a5,y,x,rfl,r5,Du y (by simp [aK]),aQ hx (v:=.ref a6) (aG (j:=6) rfl) ⟨a6,z,x,rfl,r6,Du z (by simp [aK]),fun p hp=>?_⟩⟩
   exact q _ _ (aC.new hp _) (Rep.new hp (.cons (Rep.bG.mpr rfl) (.cons (Rep.bG.mpr rfl) .nil)))
 · have ew:=(pZ st).mp (by rw [e2])
   cases st <;> first | (exfalso; cases ew; done) | skip
   rename_i k sg l r y
   rw [dpS,Rep.a8] at rv
   obtain ⟨_,xs,e0,hx,rs⟩:=rv
   cases e0
   obtain ⟨v0,v1,v2,v3,v4,v5,rr,rfl,r5,rs⟩:=Ay rs
   rw [ji] at r5
   obtain ⟨a5,_,rfl,_⟩:=Rep.bU.mp r5
   refine aQ hx (v:=.ref a5) (aG (j:=5) rfl) (aQ hs (v:=.int k) (aG (j:=1) rfl) ⟨a5,y,k,rfl,r5,Du y (by simp [aK]),fun p hp=>?_⟩)
   exact q _ _ (aC.new hp _) (Rep.new hp (.cons (Rep.bG.mpr rfl) (.cons (Rep.bG.mpr rfl) .nil)))
 · intro p hp
   have n1:st.wd≠.stop:=fun z=>e (V.str.inj ((Ax st).mpr z))
   have n2:st.wd≠.ifs:=fun z=>e1 (V.str.inj ((vP st).mpr z))
   have n3:st.wd≠.whl:=fun z=>e2 (V.str.inj ((pZ st).mpr z))
   have ew:kR st x=[x]:=by
     cases st <;> first | rfl | exact absurd rfl n1 | exact absurd rfl n2 | exact absurd rfl n3
   rw [ew] at q
   exact q _ _ (aC.new hp _) (Rep.new hp (.cons (Rep.bG.mpr rfl) .nil))
theorem Dv {K:PySem.W.Frag} {Oo:Addr→Prop} {H:Hp} {ds es:List Dp} {vs us:List V} (a:fF K Oo H ds vs) (b:fF K Oo H es us):fF K Oo H (ds ++ es) (vs ++ us):=fun H2 u=>(a H2 u).append (b H2 u)
theorem vf {K:PySem.W.Frag} {H:Hp}:∀ (n:Nat) {ds:List PG.Stm} {vs:List V},aM K H (ds.map dpS) vs→aM K H ((ds.drop n).map dpS) (vs.drop n)
 | 0,_,_,h=>h
 | n + 1,[],vs,h=>by
   rw [List.map_nil,aM.cf] at h
   subst h
   exact .nil
 | n + 1,d :: ds,vs,h=>by
   rw [List.map_cons,aM.aP] at h
   obtain ⟨v,t,rfl,_,h⟩:=h
   exact vf n h
theorem Dw (T:Tx K mg t) {n:Nat} (ie:bP P w K mg base CX0 (n + 2) t.bN t.eK ["body", "behind"] (rH K n)) :
   bP P w K mg base CX0 (n + 3) t.bN t.eK ["body", "behind"] (rH K (n + 1)):=by
 have c6:bP P w K mg base CX0 1 t.bY t.d9 ["body", "behind"] (oy K):=gZ T
 have Bu:bP P w K mg base CX0 2 t.eW t.nH ["statement", "after"] (Cz K):=zg T
 have k6:bP P w K mg base CX0 1 t.cZ t.gR ["statement"] (sj K):=oS T
 have uo:bP P w K mg base CX0 1 t.cF t.hV ["statement", "after"] (xn K):=sY T
 refine T.cM.F.okS j9 (fun vs H Q E h=>?_) (fun cdv A outer s H vs Q E hr h=>?_)
 · obtain ⟨_,_,_,rfl,_⟩:=h
   rfl
 obtain ⟨b,body,x,rfl,rb,hd,hf,q⟩:=h
 have nd:=j9.nd
 refine ⟨_,[some (V.ref b),some (V.int x),none,none,none,none,none],(ag (aE (i:=2) nd rfl (Or.inl rfl) (aO ae))
 (ag (iX PassesOwn.never rfl (EA rfl T.fX (aa (pv 0) ae ah)) (FW rfl (aZ (aS (i:=3) nd rfl (Or.inl rfl)) (aZ (aS (i:=4) nd rfl (Or.inl rfl)) iK)))
 (ag (aE (i:=5) nd rfl (Or.inl rfl) (aL c6 (hr.mono (by omega)) rfl T.bu.m T.bu.F.kp T.bu.b .nil ba (aa (fc gK (pv 0) (gJ (aU dF (pv 3) aj)) gI) (aa (pv 1) ae ah) br)))
 (ag (dU (kK PySem.F.plainAttrs_list PySem.F.slot_list_append PySem.F.type_list_append dD (pv 2) (aa (au (aa (a9 aV (pv 4) aj aw) (aa (a9 aV (pv 4) aj aw) (aa (aL Bu (hr.mono (by omega)) rfl T.mq.m T.mq.F.kp T.mq.b .nil ba (aa (pv 4) (aa (pv 5) ae ah) ah)) ae cU) br) br)) ae aF)))
 (av (iX PassesOwn.never rfl (dW (aL k6 (hr.mono (by omega)) rfl T.dR.m T.dR.F.kp T.dR.b .nil ba (aa (pv 4) ae ah))) (aS (i:=6) nd rfl (Or.inl rfl))
 (av (dU (kK PySem.F.plainAttrs_list PySem.F.slot_list_extend PySem.F.type_list_extend uS (pv 2) (aa (aL ie (hr.mono (by omega)) rfl T.cM.m T.cM.F.kp T.cM.b .nil ba (aa (pv 6) (aa (aL uo (hr.mono (by omega)) rfl T.fS.m T.fS.F.kp T.fS.b .nil ba (aa (pv 4) (aa (pv 5) ae ah) ah)) ae cU) ah)) ae cU)))))))))
 (av (aX (pv 2))))),rfl,?_⟩
 have line:sizeLine=2 ^ 24:=rfl
 rw [Rep.bU] at rb
 obtain ⟨_,xs,e,hx,rs⟩:=rb
 cases e
 have lx:xs.length=body.length:=by rw [rs.length,List.length_map]
 have lb:=jj body
 refine ao fun U1 hU1=>?_
 walk_at "rd"
 intro tl htl
 have s1:=aC.new htl (.lst [])
 have y1:(upd H tl (.lst [])) tl=some (.lst []):=ar
 generalize upd H tl (.lst [])=H1 at *
 refine (hU1 _ _).mpr (ao fun U2 hU2=>?_)
 clear hU1
 walk_at "rd"
 obtain ⟨Pv,hPv⟩:∃ Pv:Nat→St→Hp→Prop,∀ i σ H2,Pv i σ H2↔∃ (z3 z4 z5 z6:Option V) (pre:List PG.dX) (us:List V),σ=[some (V.ref b),some (V.int x),some (V.ref tl),z3,z4,z5,z6]∧aC H H2∧H2 tl=some (.lst us)∧fF K (·=tl) H2 (pre.map fG) us∧us.length=pre.length∧pre ++ PG.aN (body.drop i) x=PG.aN body x:=⟨_,fun _ _ _=>Iff.rfl⟩
 refine ⟨_,rfl,⟨xs,s1.seq hx⟩,Cr (K:=K) (a:=b) (xs:=xs) Pv ((hPv _ _ _).mpr ⟨none,none,none,none,[],[],rfl,s1,y1,.nil,rfl,rfl⟩) (fun i σ H2 _ hv=>?_) ?_ ?_⟩
 · obtain ⟨_,_,_,_,_,_,_,s2,_⟩:=(hPv _ _ _).mp hv
   exact s2.seq hx
 · intro i y σ H2 tp hi hv htp
   obtain ⟨z3,z4,z5,z6,pre,us,rfl,s2,y2,f2,lu,ep⟩:=(hPv _ _ _).mp hv
   clear hv
   have done:=fun σ H7=>(hPv (i + 1) σ H7).mpr
   have li:i < body.length:=by have:=(List.getElem?_eq_some_iff.mp hi).1; lia
   obtain ⟨v,hv,rv⟩:=rs.get (i:=i) (d:=dpS body[i]) (by rw [List.getElem?_map,List.getElem?_eq_getElem li]; rfl)
   rw [hi] at hv
   cases hv
   have ed:body.drop i=body[i] :: body.drop (i + 1):=List.drop_eq_getElem_cons li
   rw [ed,PG.aN,Cw] at ep
   have mem:body[i]∈body:=List.getElem_mem li
   obtain ⟨fm,dm⟩:=pS body _ mem
   generalize hst:body[i]=st at *
   have s3:=s2.trans (aC.new htp (.tup [V.int i,y]))
   have n3:tl≠tp:=aA y2 htp
   have y3:=aC.new htp (.tup [V.int i,y]) _ _ y2
   have f3:=f2.up (.of (aC.new htp (.tup [V.int i,y])))
   have t3:(upd H2 tp (.tup [V.int i,y])) tp=some (.tup [V.int i,y]):=ar
   generalize upd H2 tp (.tup [V.int i,y])=H3 at *
   obtain ⟨sa,ys,rfl,hs⟩:=fH st rv
   refine ⟨tp,_,rfl,.of t3,rfl,_,_,rfl,_,_,rfl,rfl,?_⟩
   refine ao fun U3 hU3=>?_
   walk_at "rd"
   refine ⟨_,rfl,b,_,rfl,s3.seq hx,fun p4 hp4=>?_⟩
   have ec:ui xs (some ((i:Int) + 1)) none=xs.drop (i + 1):=by
     unfold ui
     rw [HT.rV,show (i:Int) + 1=((i + 1:Nat):Int) by lia,HT.vy]
     rw [show min (i + 1) xs.length=i + 1 by lia]
     exact List.take_of_length_le (by rw [List.length_drop]; lia)
   rw [ec]
   have s4:=s3.trans (aC.new hp4 (.lst (xs.drop (i + 1))))
   have y4:=aC.new hp4 (.lst (xs.drop (i + 1))) _ _ y3
   have f4:=f3.up (.of (aC.new hp4 (.lst (xs.drop (i + 1)))))
   have l4:(upd H3 p4 (.lst (xs.drop (i + 1)))) p4=some (.lst (xs.drop (i + 1))):=ar
   generalize upd H3 p4 (.lst (xs.drop (i + 1)))=H4 at *
   have rd4:Rep K H4 (.lst ((body.drop (i + 1)).map dpS)) (.ref p4):=Rep.bU.mpr ⟨p4,_,rfl,.of l4,vf (i + 1) (rs.mono s4)⟩
   refine ⟨p4,body.drop (i + 1),x,rfl,rd4,by rw [List.length_drop]; lia,(hU3 _ _).mpr (ao fun U4 hU4=>?_)⟩
   clear hU3
   generalize PG.aT (body.drop (i + 1)) x=af at *
   have hs4:=(show SqT K H4 sa _ from s4.c9 hs)
   walk_at "rd"
   refine ⟨.inl ⟨rfl,_,.of y4⟩,aQ hs4 (v:=.int st.row) (aG (j:=1) rfl) (aQ hs4 (v:=.str (wdS st.wd)) (aG (j:=0) rfl) ?_)⟩
   have sh:Cy st:=fun bb hbb=>by
     have:=(jC st bb hbb).1
     have:=jj bb
     lia
   refine ⟨.ref sa,st,af,rfl,rv.mono s4,sh,fun u H5 s5 ru p6 hp6=>?_⟩
   have y5:=s5 _ _ y4
   have f5:=f4.up (.of s5)
   have fu:Fix K (·=tl) H5 (.tup ((kR st af).map .int)) u:=Gx y5 (by rw [noL]; exact pR _) ru
   have n6:p6≠tl:=(aA y5 hp6).symm
   have s6:=aC.new hp6 (.tup [V.int st.row,V.str (wdS st.wd),u])
   have ft:Fix K (·=tl) (upd H5 p6 (.tup [V.int st.row,V.str (wdS st.wd),u])) (fG (st.row,st.wd,kR st af)) (.ref p6):=Fix.tup ar n6 (.cons .int (.cons .str (.cons (fu.up (.of s6)) .nil)))
   have f6:=f5.up (.of s6)
   have y6:=s6 _ _ y5
   have s46:=(s4.trans s5).trans s6
   generalize upd H5 p6 (.tup [V.int st.row,V.str (wdS st.wd),u])=H6 at *
   have JY:pre.length≤1000:=by
     have h1:=congrArg List.length ep
     have h2:=congrArg List.length (PG.dE body x)
     simp only [List.length_append,List.length_map,List.length_cons] at h1 h2
     lia
   refine ⟨tl,us,_,rfl,rfl,y6,by lia,?_⟩
   have s7:aC H (upd H6 tl (.lst (us ++ [V.ref p6]))):=fun z o e=>by rw [aR (aA e htl)]; exact s46 z o e
   have f7:=(f6.snoc ft).up (bC.refl.put (O:=(·=tl)) rfl (.lst (us ++ [V.ref p6])))
   have y7:(upd H6 tl (.lst (us ++ [V.ref p6]))) tl=some (.lst (us ++ [V.ref p6])):=ar
   generalize upd H6 tl (.lst (us ++ [V.ref p6]))=H7 at *
   refine (hU4 _ _).mpr ?_
   clear hU4
   refine hG fun U hU=>?_
   walk_at "rd"
   refine ⟨.ref sa,st,H,rfl,rv,s7,fun l8 bv H8 s8 hl8 y8 r8=>⟨l8,rfl,⟨bv,.of y8⟩,hU _ _ ?_⟩⟩
   have lbv:bv.length=(aK st).length:=by rw [r8.length,List.length_map]
   have l8t:l8≠tl:=fun z=>by rw [z,y7] at hl8; cases hl8
   obtain ⟨Pw,hPw⟩:∃ Pw:Nat→St→Hp→Prop,∀ j σ H9,Pw j σ H9↔∃ (z6:Option V) (us:List V) (xM:List PG.dX),σ=[some (V.ref b),some (V.int x),some (V.ref tl),some (V.int i),some (V.ref sa),some (V.int af),z6]∧aC H H9∧(∀ z o,z≠tl→H8 z=some o→H9 z=some o)∧H9 tl=some (.lst us)∧fF K (·=tl) H9 (xM.map fG) us∧us.length=xM.length∧
       xM ++ ((aK st).drop j).flatMap (fun bb=>PG.aN bb (ff st af))=pre ++ (st.row,st.wd,kR st af) :: (aK st).flatMap (fun bb=>PG.aN bb (ff st af)):=⟨_,fun _ _ _=>Iff.rfl⟩
   refine g9 (K:=K) (a:=l8) (xs:=bv) Pw ((hPw _ _ _).mpr ⟨z6,_,pre ++ [(st.row,st.wd,kR st af)],rfl,s7.trans s8,fun z o _ e=>e,s8 _ _ y7,by rw [List.map_append]; exact f7.up (.of s8),by simp [lu],by simp⟩) (fun j σ H9 _ hv=>?_) ?_ ?_
   · obtain ⟨_,_,_,_,_,k9,_⟩:=(hPw _ _ _).mp hv
     exact .of (k9 _ _ l8t y8)
   · intro j y σ H9 hj hv
     obtain ⟨z6',us',xM,rfl,s9,k9,y9,f9,lu9,e9⟩:=(hPw _ _ _).mp hv
     clear hv
     have lj:j < (aK st).length:=by have:=(List.getElem?_eq_some_iff.mp hj).1; lia
     obtain ⟨v,hv,rb⟩:=r8.get (i:=j) (d:=.lst ((aK st)[j].map dpS)) (by rw [List.getElem?_map,List.getElem?_eq_getElem lj]; rfl)
     rw [hj] at hv
     cases hv
     have mj:(aK st)[j]∈aK st:=List.getElem_mem lj
     obtain ⟨fb,db⟩:=jC st _ mj
     have ej:(aK st).drop j=(aK st)[j] :: (aK st).drop (j + 1):=List.drop_eq_getElem_cons lj
     rw [ej,List.flatMap_cons] at e9
     generalize (aK st)[j]=bb at *
     obtain ⟨ab,_,rfl,_⟩:=Rep.bU.mp rb
     walk_at "rd"
     refine ⟨.inl ⟨rfl,_,.of y9⟩,.ref sa,st,af,rfl,rv.mono s9,?_⟩
     refine ⟨ab,bb,_,rfl,rb.mono s9,by lia,by lia,fun l10 E3 H10 s10 JD y10 r10=>?_⟩
     have ID:=s10 _ _ y9
     have f10:=f9.up (.of s10)
     have g10:fF K (·=tl) H10 ((PG.aN bb (ff st af)).map fG) E3:=EE ID (uY _) r10
     have l10:E3.length=(PG.aN bb (ff st af)).length:=by rw [r10.length,List.length_map]
     have tot:xM.length + (PG.aN bb (ff st af)).length≤2000:=by
       have h1:=congrArg List.length e9
       have h2:=congrArg List.length ep
       have h3:=congrArg List.length (PG.dE body x)
       simp only [List.length_append,List.length_map,List.length_cons] at h1 h2 h3
       lia
     refine ⟨tl,_,us',E3,rfl,rfl,ID,y10,by lia,?_⟩
     refine (hPw _ _ _).mpr ⟨_,us' ++ E3,xM ++ PG.aN bb (ff st af),rfl,fun z o e=>?_,fun z o nz e=>?_,ar,?_,by simp [lu9,l10],by rw [← e9]; simp⟩
     · rw [aR (aA e htl)]
       exact s10 _ _ (s9 _ _ e)
     · rw [aR nz]
       exact s10 _ _ (k9 z o nz e)
     · rw [List.map_append]
       exact (Dv f10 g10).up (bC.refl.put (O:=(·=tl)) rfl _)
   · intro σ H9 hv
     obtain ⟨z6',us',xM,rfl,s9,k9,y9,f9,lu9,e9⟩:=(hPw _ _ _).mp hv
     rw [lbv,List.drop_length,List.flatMap_nil,List.append_nil] at e9
     refine done _ _ ⟨_,_,_,_,xM,us',rfl,s9,y9,f9,lu9,?_⟩
     rw [e9,← ep]
     simp
 · intro σ H2 hv
   obtain ⟨z3,z4,z5,z6,pre,us,rfl,s2,y2,f2,lu,ep⟩:=(hPv _ _ _).mp hv
   rw [lx,List.drop_length,PG.aN,List.append_nil] at ep
   refine (hU2 _ _).mpr ?_
   walk_at "rd"
   rw [ep] at f2
   exact q tl us H2 s2 htl y2 f2.Jp
theorem vg (T:Tx K mg t):∀ n,bP P w K mg base CX0 (n + 2) t.bN t.eK ["body", "behind"] (rH K n)
 | 0=>by
   have no:∀ vs H Q E,¬ rH K 0 vs H Q E:=fun vs H Q E ⟨_,_,_,_,_,h,_⟩=>by lia
   exact ⟨fun vs H Q E h=>absurd h (no vs H Q E),fun A outer s H args us vs Q E _ _ _ _ h=>absurd h (no vs H Q E)⟩
 | n + 1=>Dw T (vg T n)
theorem Az (T:Tx K mg t):bP P w K mg base CX0 7 t.jG t.rL ["program"] (yE K):=by
 have ie:=vg (P:=P) (w:=w) (base:=base) T 4
 refine T.vH.F.okS As (fun vs H Q E h=>?_) (fun cdv A outer s H vs Q E hr h=>?_)
 · obtain ⟨_,_,rfl,_⟩:=h
   rfl
 obtain ⟨v,pr,rfl,rp,hd,hf,q⟩:=h
 have nd:=As.nd
 obtain ⟨Av,oP,oQ⟩:=T.sS
 refine ⟨_,[some v],(av (aX (aL ie (hr.mono (by omega)) rfl T.cM.m T.cM.F.kp T.cM.b .nil ba (aa (a9 aV (pv 0) aj aw) (aa (oh rfl oP oQ) ae ah) br)))),rfl,?_⟩
 unfold fE at rp
 rw [Rep.a8] at rp
 obtain ⟨a,xs,rfl,hx,rs⟩:=rp
 rw [aM.aP] at rs
 obtain ⟨v1,t1,rfl,r1,rs⟩:=rs
 rw [aM.aP] at rs
 obtain ⟨v2,t2,rfl,r2,rs⟩:=rs
 obtain ⟨b,_,rfl,_⟩:=Rep.bU.mp r2
 walk_at "rd"
 refine aQ hx (v:=.ref b) (aG (j:=1) rfl) ?_
 exact ⟨b,pr.body,0,rfl,r2,by lia,hf,fun l us H' s' hl y r=>q l us H' s' hl y r⟩
theorem Dx (T:Tx K mg t) {n:Nat} (dC:bP P w K mg base CX0 (n + 2) t.bt t.cI ["body"] (mh K n)) :
   bP P w K mg base CX0 (n + 3) t.bt t.cI ["body"] (mh K (n + 1)):=by
 have k6:bP P w K mg base CX0 1 t.cZ t.gR ["statement"] (sj K):=oS T
 refine T.cm.F.okS jq (fun vs H Q E h=>?_) (fun cdv A outer s H vs Q E hr h=>?_)
 · obtain ⟨_,_,_,rfl,_⟩:=h
   rfl
 obtain ⟨b,body,H0,rfl,s0,rb,hd,hf,q⟩:=h
 have nd:=jq.nd
 refine ⟨_,[some (V.ref b),none,none,none],(ag (aE (i:=1) nd rfl (Or.inl rfl) (aO ae))
 (ag (iX PassesOwn.never rfl (dW (pv 0)) (aS (i:=2) nd rfl (Or.inl rfl))
 (ag (dU (kK PySem.F.plainAttrs_list PySem.F.slot_list_append PySem.F.type_list_append dD (pv 1) (aa (pv 2) ae ah)))
 (av (iX PassesOwn.never rfl (dW (aL k6 (hr.mono (by omega)) rfl T.dR.m T.dR.F.kp T.dR.b .nil ba (aa (pv 2) ae ah))) (aS (i:=3) nd rfl (Or.inl rfl))
 (av (dU (kK PySem.F.plainAttrs_list PySem.F.slot_list_extend PySem.F.type_list_extend uS (pv 1) (aa (aL dC (hr.mono (by omega)) rfl T.cm.m T.cm.F.kp T.cm.b .nil ba (aa (pv 3) ae ah)) ae cU))))))))
 (av (aX (pv 1))))),rfl,?_⟩
 have line:sizeLine=2 ^ 24:=rfl
 rw [Rep.bU] at rb
 obtain ⟨_,xs,e,hx,rs⟩:=rb
 cases e
 have lx:xs.length=body.length:=by rw [rs.length,List.length_map]
 have lb:=jj body
 have sl:=xp body
 refine ao fun U1 hU1=>?_
 walk_at "rd"
 intro d hd0
 have s1:=aC.new hd0 (.lst [])
 have y1:(upd H d (.lst [])) d=some (.lst []):=ar
 generalize upd H d (.lst [])=H1 at *
 refine (hU1 _ _).mpr (ao fun U2 hU2=>?_)
 clear hU1
 refine hG fun U hU=>?_
 walk_at "rd"
 refine ⟨⟨xs,(s0.trans s1).seq hx⟩,hU _ _ ?_⟩
 clear hU
 obtain ⟨Pv,hPv⟩:∃ Pv:Nat→St→Hp→Prop,∀ i σ H3,Pv i σ H3↔∃ (z2 z3:Option V) (us:List V),σ=[some (V.ref b),some (V.ref d),z2,z3]∧aC H H3∧us.length=(PG.az (body.take i)).length∧H3 d=some (.lst us)∧aM K H0 ((PG.az (body.take i)).map dpS) us:=⟨_,fun _ _ _=>Iff.rfl⟩
 refine g9 (K:=K) (a:=b) (xs:=xs) Pv ((hPv _ _ _).mpr ⟨none,none,[],rfl,s1,rfl,y1,.nil⟩) (fun i σ H3 _ hv=>?_) ?_ ?_
 · obtain ⟨_,_,_,_,s3,_⟩:=(hPv _ _ _).mp hv
   exact (s0.trans s3).seq hx
 · intro i y σ H3 hi hv
   obtain ⟨z2,z3,us,rfl,s3,lu,y3,r3⟩:=(hPv _ _ _).mp hv
   clear hv
   have done:=fun σ H7=>(hPv (i + 1) σ H7).mpr
   have li:i < body.length:=by have:=(List.getElem?_eq_some_iff.mp hi).1; lia
   obtain ⟨v,hv,rv⟩:=rs.get (i:=i) (d:=dpS body[i]) (by rw [List.getElem?_map,List.getElem?_eq_getElem li]; rfl)
   rw [hi] at hv
   cases hv
   have mem:body[i]∈body:=List.getElem_mem li
   obtain ⟨fm,dm⟩:=pS body _ mem
   have et:PG.az (body.take (i + 1))=PG.az (body.take i) ++ body[i] :: (aK body[i]).flatMap PG.az:=by
     rw [List.take_succ_eq_append_getElem li,su,CD,EF]
   rw [et] at done
   have eb:PG.az body=(PG.az (body.take i) ++ body[i] :: (aK body[i]).flatMap PG.az) ++ PG.az (body.drop (i + 1)):=by
     rw [← et,← su,List.take_append_drop]
   rw [eb] at sl
   have sl:(PG.az (body.take i) ++ body[i] :: (aK body[i]).flatMap PG.az).length≤1000:=by
     rw [List.length_append] at sl
     lia
   generalize body[i]=st at *
   generalize PG.az (body.take i)=pre at *
   simp only [eu,List.set]
   refine ao fun U3 hU3=>?_
   walk_at "rd"
   refine ⟨.inl ⟨rfl,_,.of y3⟩,d,us,y,rfl,rfl,y3,by simp only [List.length_append,List.length_cons] at sl; lia,(hU3 _ _).mpr ?_⟩
   clear hU3
   have y4:(upd H3 d (.lst (us ++ [y]))) d=some (.lst (us ++ [y])):=ar
   have s4:aC H (upd H3 d (.lst (us ++ [y]))):=fun z o e=>by rw [aR (aA e hd0)]; exact s3 z o e
   generalize upd H3 d (.lst (us ++ [y]))=H4 at *
   refine hG fun U hU=>?_
   walk_at "rd"
   refine ⟨y,st,H0,rfl,rv,s0.trans s4,fun p bv H5 s5' hp h5 rc=>⟨p,rfl,⟨_,.of h5⟩,hU _ _ ?_⟩⟩
   clear hU
   have s5:=s4.trans s5'
   have y5:=s5' _ _ y4
   have npd:p≠d:=(aA y4 hp).symm
   have lbv:bv.length=(aK st).length:=by rw [rc.length,List.length_map]
   obtain ⟨Pw,hPw⟩:∃ Pw:Nat→St→Hp→Prop,∀ j σ H6,Pw j σ H6↔∃ (z3:Option V) (us':List V),σ=[some (V.ref b),some (V.ref d),some y,z3]∧aC H H6∧H6 p=some (.lst bv)∧us'.length=(pre ++ st :: ((aK st).take j).flatMap PG.az).length∧H6 d=some (.lst us')∧aM K H0 ((pre ++ st :: ((aK st).take j).flatMap PG.az).map dpS) us':=⟨_,fun _ _ _=>Iff.rfl⟩
   refine g9 (K:=K) (a:=p) (xs:=bv) Pw ((hPw _ _ _).mpr ⟨z3,us ++ [y],rfl,s5,h5,by simp [lu],y5,?_⟩) (fun j σ H6 _ hv=>?_) ?_ ?_
   · rw [List.take_zero,List.flatMap_nil,List.map_append]
     exact r3.append (.cons rv .nil)
   · obtain ⟨_,_,_,_,h6,_⟩:=(hPw _ _ _).mp hv
     exact .of h6
   · intro j y' σ H6 hj hv
     obtain ⟨z3',us',rfl,s6,h6,lu6,y6,r6⟩:=(hPw _ _ _).mp hv
     clear hv
     have FD:=fun σ H7=>(hPw (j + 1) σ H7).mpr
     have lj:j < (aK st).length:=by have:=(List.getElem?_eq_some_iff.mp hj).1; lia
     obtain ⟨v,hv,rbj⟩:=rc.get (i:=j) (d:=.lst ((aK st)[j].map dpS)) (by rw [List.getElem?_map,List.getElem?_eq_getElem lj]; rfl)
     rw [hj] at hv
     cases hv
     have mj:(aK st)[j]∈aK st:=List.getElem_mem lj
     obtain ⟨fb,db⟩:=jC st _ mj
     have ej:((aK st).take (j + 1)).flatMap PG.az=((aK st).take j).flatMap PG.az ++ PG.az (aK st)[j]:=by
       rw [List.take_succ_eq_append_getElem lj,List.flatMap_append]
       simp
     have ea:(aK st).flatMap PG.az=((aK st).take j).flatMap PG.az ++ PG.az (aK st)[j] ++ ((aK st).drop (j + 1)).flatMap PG.az:=by
       rw [← ej,← List.flatMap_append,List.take_append_drop]
     rw [ej] at FD
     rw [ea] at sl
     generalize (aK st)[j]=bb at *
     generalize ((aK st).take j).flatMap PG.az=mid at *
     generalize ((aK st).drop (j + 1)).flatMap PG.az=rest at *
     have sl2:(pre ++ st :: mid).length + (PG.az bb).length≤1000:=by
       simp only [List.length_append,List.length_cons] at sl ⊢
       lia
     obtain ⟨ab,_,rfl,_⟩:=Rep.bU.mp rbj
     simp only [eu,List.set]
     walk_at "rd"
     refine ⟨.inl ⟨rfl,_,.of y6⟩,ab,bb,H0,rfl,s0.trans s6,rbj,by lia,by lia,fun d2 us2 H7 s7 hd2 y7 r7=>?_⟩
     have l2:us2.length=(PG.az bb).length:=by rw [r7.length,List.length_map]
     refine ⟨d,d2,_,_,rfl,rfl,s7 _ _ y6,y7,by lia,?_⟩
     refine FD _ _ ⟨_,us' ++ us2,rfl,fun z o e=>by rw [aR (aA e hd0)]; exact s7 _ _ (s6 z o e),by rw [aR npd]; exact s7 _ _ h6,by simp only [List.length_append,List.length_cons] at *; lia,ar,?_⟩
     rw [show pre ++ st :: (mid ++ PG.az bb)=(pre ++ st :: mid) ++ PG.az bb by simp,List.map_append]
     exact r6.append r7
   · intro σ H6 hv
     obtain ⟨z3',us',rfl,s6,h6,lu6,y6,r6⟩:=(hPw _ _ _).mp hv
     rw [lbv,List.take_length] at lu6 r6
     exact done _ _ ⟨_,_,us',rfl,s6,lu6,y6,r6⟩
 · intro σ H3 hv
   obtain ⟨z2,z3,us,rfl,s3,lu,y3,r3⟩:=(hPv _ _ _).mp hv
   rw [lx,List.take_length] at lu r3
   refine (hU2 _ _).mpr ?_
   walk_at "rd"
   exact q d us H3 s3 hd0 y3 r3
theorem p0 (T:Tx K mg t):∀ n,bP P w K mg base CX0 (n + 2) t.bt t.cI ["body"] (mh K n)
 | 0=>by
   have no:∀ vs H Q E,¬ mh K 0 vs H Q E:=fun vs H Q E ⟨_,_,_,_,_,_,h,_⟩=>by lia
   exact ⟨fun vs H Q E h=>absurd h (no vs H Q E),fun A outer s H args us vs Q E _ _ _ _ h=>absurd h (no vs H Q E)⟩
 | n + 1=>Dx T (p0 T n)
theorem oT (xs:List V) (j:Nat):ui xs none (some (j:Int))=xs.take j:=by
 unfold ui
 rw [HT.rV,HT.vy,List.drop_zero,Nat.sub_zero]
 by_cases h:j≤xs.length
 · rw [Nat.min_eq_left h]
 · rw [Nat.min_eq_right (by lia),List.take_length,List.take_of_length_le (by lia)]
theorem Dy {o:PG.Ran} {r s:List Int} {e:PG.ck} (h1:o.rows=r) (h2:o.said=s) (h3:o.fin=e):o=⟨r,s,e⟩:=by
 cases o
 cases h1
 cases h2
 cases h3
 rfl
theorem GY {sa sb sc a b c:Int} {l:List Int} (h:¬ c < sc):Path (prN sa sb sc) 4 [a,b,c] l [4] [] 15 [a,b,c] l:=.cons (f:=0) (s:=none) (by simp) rfl (N4.trans (by rw [if_neg (by simpa using h)])) .nil
theorem IE {sa sb sc:Nat} (hs:sa < 10) (hb:sb < 10) (hc:sc < 10) (m:Nat) (hm:m < ((List.replicate sc (gv sa sb)).flatten ++ [4,15]).length):di (prN sa sb sc) m (PG.aT (prN sa sb sc).body 0) ((prN sa sb sc).ax.map (·.first)) []=⟨((List.replicate sc (gv sa sb)).flatten ++ [4,15]).take m,[],.on⟩:=by
 obtain ⟨z,y,p⟩:=GK (l:=[]) hs hb hc sc (Nat.le_refl _)
 have p2:=p.app (GY (sa:=sa) (sb:=sb) (a:=z) (b:=y) (l:=[]) (Int.lt_irrefl (sc:Int)))
 generalize (List.replicate sc (gv sa sb)).flatten=rr at *
 rw [show rr ++ [4,15]=(rr ++ [4]) ++ [15] by simp] at hm ⊢
 rw [List.length_append,List.length_singleton] at hm
 generalize rr ++ [4]=r4 at *
 rw [List.take_append_of_le_length (by lia)]
 show di (prN sa sb sc) m 4 [0,0,0] []=_
 by_cases l:m < r4.length
 · obtain ⟨h1,h2,h3⟩:=p2.cut m l
   exact Dy h1 (List.prefix_nil.mp h2) h3
 · have em:m=r4.length + 0:=by lia
   rw [em,p2.ran 0,show di (prN sa sb sc) 0 15 _ []=⟨[],[],.on⟩ from PG.vE _ _ (by decide) _ _]
   simp
theorem IF {s k:Int} {l:List Int} (n m:Nat) (h:m≤2 * n):di (prR s k) m (PG.aT (prR s k).body 0) ((prR s k).ax.map (·.first)) l=⟨((List.replicate n [2,3]).flatten).take m,[],.on⟩:=by
 obtain ⟨z,p⟩:=yW (s:=s) (m:=k) (v:=0) (l:=l) (n + 1)
 have ln:((List.replicate n ([2,3]:List Int)).flatten).length=n * 2:=dB _ _
 rw [jo] at p
 obtain ⟨h1,h2,h3⟩:=p.cut m (by rw [List.length_append,ln]; simp; lia)
 rw [List.take_append_of_le_length (by lia)] at h1
 exact Dy h1 (List.prefix_nil.mp h2) h3
theorem rN {K:PySem.W.Frag} {H:Hp} {q r s e:Addr} {rows said:List Int} {x:PG.ck} (k:SqT K H q [.ref r,.ref s,.ref e]) (h1:SqL K H r (rows.map V.int)) (h2:SqL K H s (said.map V.int)) (h3:Rep K H (.tup (kT x)) (.ref e)):Rep K H (xx ⟨rows,said,x⟩) (.ref q):=
 Rep.a8.mpr ⟨q,_,rfl,k,.cons (fV h1) (.cons (fV h2) (.cons h3 .nil))⟩
theorem E4 (T:Tx K mg t):bP P w K mg base CX0 20 t.bO t.hX ["cell"] GO:=by
 have aW:=hZ (P:=P) (w:=w) (base:=base) T
 have uq:=Bt (P:=P) (w:=w) (base:=base) T
 have jK:=xK (P:=P) (w:=w) (base:=base) T
 have g1:=gZ (P:=P) (w:=w) (base:=base) T
 have g2:=p0 (P:=P) (w:=w) (base:=base) T 4
 have g3:=Az (P:=P) (w:=w) (base:=base) T
 have vh:=Dr (P:=P) (w:=w) (base:=base) T g1 g2 g3
 refine T.dG.F.okS hJ (fun vs H Q E h=>?_) (fun cdv A outer s H vs Q E hr h=>?_)
 · obtain ⟨_,rfl,_⟩:=h
   rfl
 obtain ⟨cell,rfl,q⟩:=h
 have nd:=hJ.nd
 refine ⟨_,[some (V.int cell),none,none,none,none,none,none,none,none],(@ag _ _ _ _ _ (@nv _ _ _ _ _ _ (@aL _ _ _ _ _ _ _ _ _ _ _ _ _ _ _ _ uq (hr.mono (by omega)) rfl T.fT.m T.fT.F.kp T.fT.b .nil ba (@aa _ _ _ _ _ (pv 0) (@ae _) (@ah _ _ _ _)) (by first | rfl | exact .inl rfl | exact .inr rfl | decide | (intro _; rfl) | assumption) (by first | rfl | exact .inl rfl | exact .inr rfl | decide | (intro _; rfl) | assumption) (by first | rfl | exact .inl rfl | exact .inr rfl | decide | (intro _; rfl) | assumption)) (@nB _ _ _ _ _ _ rfl (@aZ _ _ _ _ _ (@aS _ _ 1 _ nd rfl (Or.inl rfl) (by first | rfl | exact .inl rfl | exact .inr rfl | decide | (intro _; rfl) | assumption)) (@aZ _ _ _ _ _ (@aS _ _ 2 _ nd rfl (Or.inl rfl) (by first | rfl | exact .inl rfl | exact .inr rfl | decide | (intro _; rfl) | assumption)) (@aZ _ _ _ _ _ (@aS _ _ 3 _ nd rfl (Or.inl rfl) (by first | rfl | exact .inl rfl | exact .inr rfl | decide | (intro _; rfl) | assumption)) (@iK _) (by first | rfl | exact .inl rfl | exact .inr rfl | decide | (intro _; rfl) | assumption)) (by first | rfl | exact .inl rfl | exact .inr rfl | decide | (intro _; rfl) | assumption)) (by first | rfl | exact .inl rfl | exact .inr rfl | decide | (intro _; rfl) | assumption)) (by first | rfl | exact .inl rfl | exact .inr rfl | decide | (intro _; rfl) | assumption) (by first | rfl | exact .inl rfl | exact .inr rfl | decide | (intro _; rfl) | assumption)) (by first | rfl | exact .inl rfl | exact .inr rfl | decide | (intro _; rfl) | assumption) (by first | rfl | exact .inl rfl | exact .inr rfl | decide | (intro _; rfl) | assumption) (by first | rfl | exact .inl rfl | exact .inr rfl | decide | (intro _; rfl) | assumption)) (@ag _ _ _ _ _ (@iX _ _ _ _ _ _ _ _ PassesOwn.never rfl (@dW _ _ _ _ (@aO _ _ _ _ (@aa _ _ _ _ _ (@cJ _ _ _ _ _ _ _ _ _ bF rfl T.gC PyProof.Rows.Boot.«len» (@aa _ _ _ _ _ (pv 2) (@ae _) (@ah _ _ _ _)) (by first | rfl | exact .inl rfl | exact .inr rfl | decide | (intro _; rfl) | assumption) (by first | rfl | exact .inl rfl | exact .inr rfl | decide | (intro _; rfl) | assumption) (by first | rfl | exact .inl rfl | exact .inr rfl | decide | (intro _; rfl) | assumption) (by first | rfl | exact .inl rfl | exact .inr rfl | decide | (intro _; rfl) | assumption)) (@aa _ _ _ _ _ (@aj _ _ _ _) (@ae _) (@ai _ _ _ _ _)) (@cU _ _ _ _ _ _)))) (@aS _ _ 4 _ nd rfl (Or.inl rfl) (by first | rfl | exact .inl rfl | exact .inr rfl | decide | (intro _; rfl) | assumption)) (@av _ _ _ (@bS _ _ _ _ _ _ _ _ (@aY _ _ _ _ _ _ _ _ (@pN _ (yA hr)) (@aL _ _ _ _ _ _ _ _ _ _ _ _ _ _ _ _ vh (hr.mono (by omega)) rfl T.gy.m T.gy.F.kp T.gy.b .nil ba (@aa _ _ _ _ _ (pv 1) (@aa _ _ _ _ _ (@aO _ _ _ _ (@ae _)) (@aa _ _ _ _ _ (pv 4) (@ae _) (@ah _ _ _ _)) (@df _ _ _ _)) (@ah _ _ _ _)) (by first | rfl | exact .inl rfl | exact .inr rfl | decide | (intro _; rfl) | assumption) (by first | rfl | exact .inl rfl | exact .inr rfl | decide | (intro _; rfl) | assumption) (by first | rfl | exact .inl rfl | exact .inr rfl | decide | (intro _; rfl) | assumption)) (@au _ _ _ _ _ (@aa _ _ _ _ _ (pv 2) (@aa _ _ _ _ _ (@aO _ _ _ _ (@aa _ _ _ _ _ (pv 3) (@ae _) (@ah _ _ _ _))) (@aa _ _ _ _ _ (@au _ _ _ _ _ (@aa _ _ _ _ _ (@ay _ _ _ _) (@ae _) (@ai _ _ _ _ _))) (@ae _) (@aF _ _ _ _ _)) (@df _ _ _ _)) (@ah _ _ _ _))) (bc _)) (@av _ _ _ (@aX _ _ _ _ (@rO _ _ _ _))) (@bo _))) (by first | rfl | exact .inl rfl | exact .inr rfl | decide | (intro _; rfl) | assumption)) (@ag _ _ _ _ _ (@aE _ _ 4 _ _ _ _ nd rfl (Or.inl rfl) (@aU _ _ _ _ _ _ _ _ (@bT _) (@aL _ _ _ _ _ _ _ _ _ _ _ _ _ _ _ _ aW (hr.mono (by omega)) rfl T.aq.m T.aq.F.kp T.aq.b .nil ba (@aa _ _ _ _ _ (pv 0) (@aa _ _ _ _ _ (@aj _ _ _ _) (@ae _) (@ai _ _ _ _ _)) (@ah _ _ _ _)) (by first | rfl | exact .inl rfl | exact .inr rfl | decide | (intro _; rfl) | assumption) (by first | rfl | exact .inl rfl | exact .inr rfl | decide | (intro _; rfl) | assumption) (by first | rfl | exact .inl rfl | exact .inr rfl | decide | (intro _; rfl) | assumption)) (@cJ _ _ _ _ _ _ _ _ _ bF rfl T.gC PyProof.Rows.Boot.«len» (@aa _ _ _ _ _ (pv 2) (@ae _) (@ah _ _ _ _)) (by first | rfl | exact .inl rfl | exact .inr rfl | decide | (intro _; rfl) | assumption) (by first | rfl | exact .inl rfl | exact .inr rfl | decide | (intro _; rfl) | assumption) (by first | rfl | exact .inl rfl | exact .inr rfl | decide | (intro _; rfl) | assumption) (by first | rfl | exact .inl rfl | exact .inr rfl | decide | (intro _; rfl) | assumption))) (by first | rfl | exact .inl rfl | exact .inr rfl | decide | (intro _; rfl) | assumption) (by first | rfl | exact .inl rfl | exact .inr rfl | decide | (intro _; rfl) | assumption)) (@ag _ _ _ _ _ (@bS _ _ _ _ _ _ _ _ (@aY _ _ _ _ _ _ _ _ (@pN _ (yA hr)) (@aL _ _ _ _ _ _ _ _ _ _ _ _ _ _ _ _ vh (hr.mono (by omega)) rfl T.gy.m T.gy.F.kp T.gy.b .nil ba (@aa _ _ _ _ _ (pv 1) (@aa _ _ _ _ _ (@aO _ _ _ _ (@ae _)) (@aa _ _ _ _ _ (pv 4) (@ae _) (@ah _ _ _ _)) (@df _ _ _ _)) (@ah _ _ _ _)) (by first | rfl | exact .inl rfl | exact .inr rfl | decide | (intro _; rfl) | assumption) (by first | rfl | exact .inl rfl | exact .inr rfl | decide | (intro _; rfl) | assumption) (by first | rfl | exact .inl rfl | exact .inr rfl | decide | (intro _; rfl) | assumption)) (@au _ _ _ _ _ (@aa _ _ _ _ _ (@fc _ _ _ _ _ _ _ _ _ _ (@gK _) (pv 2) (@gI _) (@gJ _ _ _ (pv 4))) (@aa _ _ _ _ _ (@aO _ _ _ _ (@ae _)) (@aa _ _ _ _ _ (@au _ _ _ _ _ (@aa _ _ _ _ _ (@ay _ _ _ _) (@ae _) (@ai _ _ _ _ _))) (@ae _) (@aF _ _ _ _ _)) (@df _ _ _ _)) (@br _ _ _ _ _))) (bc _)) (@av _ _ _ (@aX _ _ _ _ (@rO _ _ _ _))) (@bo _)) (@ag _ _ _ _ _ (@nv _ _ _ _ _ _ (@aL _ _ _ _ _ _ _ _ _ _ _ _ _ _ _ _ jK (hr.mono (by omega)) rfl T.dy.m T.dy.F.kp T.dy.b .nil ba (@aa _ _ _ _ _ (pv 0) (@ae _) (@ah _ _ _ _)) (by first | rfl | exact .inl rfl | exact .inr rfl | decide | (intro _; rfl) | assumption) (by first | rfl | exact .inl rfl | exact .inr rfl | decide | (intro _; rfl) | assumption) (by first | rfl | exact .inl rfl | exact .inr rfl | decide | (intro _; rfl) | assumption)) (@nB _ _ _ _ _ _ rfl (@aZ _ _ _ _ _ (@aS _ _ 1 _ nd rfl (Or.inl rfl) (by first | rfl | exact .inl rfl | exact .inr rfl | decide | (intro _; rfl) | assumption)) (@aZ _ _ _ _ _ (@aS _ _ 5 _ nd rfl (Or.inl rfl) (by first | rfl | exact .inl rfl | exact .inr rfl | decide | (intro _; rfl) | assumption)) (@aZ _ _ _ _ _ (@aS _ _ 6 _ nd rfl (Or.inl rfl) (by first | rfl | exact .inl rfl | exact .inr rfl | decide | (intro _; rfl) | assumption)) (@aZ _ _ _ _ _ (@aS _ _ 7 _ nd rfl (Or.inl rfl) (by first | rfl | exact .inl rfl | exact .inr rfl | decide | (intro _; rfl) | assumption)) (@aZ _ _ _ _ _ (@aS _ _ 8 _ nd rfl (Or.inl rfl) (by first | rfl | exact .inl rfl | exact .inr rfl | decide | (intro _; rfl) | assumption)) (@iK _) (by first | rfl | exact .inl rfl | exact .inr rfl | decide | (intro _; rfl) | assumption)) (by first | rfl | exact .inl rfl | exact .inr rfl | decide | (intro _; rfl) | assumption)) (by first | rfl | exact .inl rfl | exact .inr rfl | decide | (intro _; rfl) | assumption)) (by first | rfl | exact .inl rfl | exact .inr rfl | decide | (intro _; rfl) | assumption)) (by first | rfl | exact .inl rfl | exact .inr rfl | decide | (intro _; rfl) | assumption)) (by first | rfl | exact .inl rfl | exact .inr rfl | decide | (intro _; rfl) | assumption) (by first | rfl | exact .inl rfl | exact .inr rfl | decide | (intro _; rfl) | assumption)) (by first | rfl | exact .inl rfl | exact .inr rfl | decide | (intro _; rfl) | assumption) (by first | rfl | exact .inl rfl | exact .inr rfl | decide | (intro _; rfl) | assumption) (by first | rfl | exact .inl rfl | exact .inr rfl | decide | (intro _; rfl) | assumption)) (@ag _ _ _ _ _ (@aE _ _ 4 _ _ _ _ nd rfl (Or.inl rfl) (@aU _ _ _ _ _ _ _ _ (@dF _) (@aj _ _ _ _) (@aU _ _ _ _ _ _ _ _ (@bT _) (@aL _ _ _ _ _ _ _ _ _ _ _ _ _ _ _ _ aW (hr.mono (by omega)) rfl T.aq.m T.aq.F.kp T.aq.b .nil ba (@aa _ _ _ _ _ (pv 0) (@aa _ _ _ _ _ (@aj _ _ _ _) (@ae _) (@ai _ _ _ _ _)) (@ah _ _ _ _)) (by first | rfl | exact .inl rfl | exact .inr rfl | decide | (intro _; rfl) | assumption) (by first | rfl | exact .inl rfl | exact .inr rfl | decide | (intro _; rfl) | assumption) (by first | rfl | exact .inl rfl | exact .inr rfl | decide | (intro _; rfl) | assumption)) (@aj _ _ _ _))) (by first | rfl | exact .inl rfl | exact .inr rfl | decide | (intro _; rfl) | assumption) (by first | rfl | exact .inl rfl | exact .inr rfl | decide | (intro _; rfl) | assumption)) (@av _ _ _ (@aX _ _ _ _ (@rD _ _ _ _ _ _ _ _ (Gq (yA hr)) (@aL _ _ _ _ _ _ _ _ _ _ _ _ _ _ _ _ vh (hr.mono (by omega)) rfl T.gy.m T.gy.F.kp T.gy.b .nil ba (@aa _ _ _ _ _ (pv 1) (@aa _ _ _ _ _ (pv 5) (@aa _ _ _ _ _ (pv 4) (@ae _) (@ah _ _ _ _)) (@ah _ _ _ _)) (@ah _ _ _ _)) (by first | rfl | exact .inl rfl | exact .inr rfl | decide | (intro _; rfl) | assumption) (by first | rfl | exact .inl rfl | exact .inr rfl | decide | (intro _; rfl) | assumption) (by first | rfl | exact .inl rfl | exact .inr rfl | decide | (intro _; rfl) | assumption)) (@au _ _ _ _ _ (@aa _ _ _ _ _ (@fc _ _ _ _ _ _ _ _ _ _ (@gK _) (@aU _ _ _ _ _ _ _ _ (@pK _) (@aO _ _ _ _ (@aB _ _ ([.int 2,.int 3]) (by kernel_rfl))) (@aj _ _ _ _)) (@gI _) (@gJ _ _ _ (pv 4))) (@aa _ _ _ _ _ (@aO _ _ _ _ (@ae _)) (@aa _ _ _ _ _ (@au _ _ _ _ _ (@aa _ _ _ _ _ (@ay _ _ _ _) (@ae _) (@ai _ _ _ _ _))) (@ae _) (@aF _ _ _ _ _)) (@df _ _ _ _)) (@br _ _ _ _ _))) (bc _)))))))))),rfl,?_⟩
 have line:sizeLine=2 ^ 24:=rfl
 refine ao fun U1 hU1=>?_
 walk_at "rd"
 refine ⟨cell,rfl,fun L r v H1 sa sb sc c0 ca cb cc s1' yL rv yr=>⟨L,_,rfl,yL,rfl,_,_,rfl,_,_,rfl,_,_,rfl,rfl,(hU1 _ _).mpr (ao fun U2 hU2=>?_)⟩⟩
 clear hU1
 have kn:=EU ca cb cc
 have rl:=kn.rl
 have IG:=IE ca cb cc
 generalize (List.replicate sc (gv sa sb)).flatten ++ [4,15]=rows at kn yr rl IG
 refine hG fun U hU=>?_
 walk_at "rd"
 refine ⟨r,_,rfl,.inl yr,fun BL hBL=>⟨⟨_,.of ar⟩,hU _ _ ?_⟩⟩
 clear hU
 rw [List.length_map]
 generalize e1:upd H1 BL _=H2
 have t1:=gL e1 hBL
 have yB:=gLa e1
 clear e1 hBL
 obtain ⟨Pv,hPv⟩:∃ Pv:Nat→St→Hp→Prop,∀ i σ H',Pv i σ H'↔∃ z:Option V,σ=[some (V.int cell),some v,some (V.ref r),some (V.int sc),z,none,none,none,none]∧aC H2 H':=⟨_,fun _ _ _=>Iff.rfl⟩
 have whole:=kn.whole _ rfl
 have dr:=kn.dr
 refine g9 (K:=K) (a:=BL) (xs:=[V.int rows.length,V.int 10000]) Pv ((hPv _ _ _).mpr ⟨_,rfl,.refl _⟩) (fun i σ H' hi hv=>by obtain ⟨_,_,s⟩:=(hPv _ _ _).mp hv; exact .of (s _ _ yB)) (fun i x σ H' hx hv=>?_) (fun σ H' hv=>?_)
 · obtain ⟨z,rfl,sH⟩:=(hPv _ _ _).mp hv
   clear hv
   obtain ⟨bd,rfl,lb,lb2⟩:∃ bd:Nat,x=V.int bd∧rows.length≤bd∧bd≤10000:=by
     match i,hx with
     | 0,hx=>cases hx; exact ⟨rows.length,rfl,Nat.le_refl _,rl.2⟩
     | 1,hx=>cases hx; exact ⟨10000,rfl,rl.2,Nat.le_refl _⟩
   simp only [eu,List.set]
   have sx:=t1.trans sH
   walk_at "rd"
   intro f0 hf0
   generalize e2:upd H' f0 _=H3
   have t2:=gL e2 hf0
   refine ⟨v,f0,prN sa sb sc,[],bd,rfl,dr,rv.mono (sx.trans t2),.of (gLa e2),Nat.zero_le _,by lia,fun q1 r1 s1 e1 H4 s4 k1 hr1 hs1 n1 yr1 ys1 ke1=>?_⟩
   rw [whole bd lb] at yr1 ys1 ke1
   walk_at "rd"
   intro b1 hb1
   generalize e5:upd H4 b1 _=H5
   have t5:=gL e5 hb1
   intro b2 hb2
   generalize e6:upd H5 b2 _=H6
   have t6:=gT e6 hb2
   have r6:Rep K H6 (.tup (kT .fin)) (.ref b2):=gTr e6 hb2 (.cons rS .nil)
   intro b3 hb3
   generalize e7:upd H6 b3 _=H7
   have t7:=gT e7 hb3
   have t57:=t5.trans (t6.trans t7)
   have sy:=sx.trans (t2.trans (s4.trans t57))
   refine ⟨_,_,(rK (K:=K) ⟨r1,s1,e1,k1,yr1,ys1,n1,ke1⟩).mono t57,rN (x:=.fin) (.of (gTa e7)) (sy.seq yr) (.of (t7 _ _ (t6 _ _ (gLa e5)))) (r6.mono t7),iN _,iN ⟨rows,[(sc:Int)],.fin⟩,?_⟩
   rw [eqv_refl]
   exact ⟨_,rfl,(if_neg (by decide)).mpr ((hPv _ _ _).mpr ⟨_,rfl,sH.trans (t2.trans (s4.trans t57))⟩)⟩
 · obtain ⟨z,rfl,sH⟩:=(hPv _ _ _).mp hv
   clear hv
   refine (hU2 _ _).mpr (ao fun U3 hU3=>?_)
   have sx:=t1.trans sH
   walk_at "rd"
   refine ⟨cell,10,rfl,by decide,by decide,fun n1 hn1=>?_⟩
   walk_at "rd"
   refine ⟨r,_,rfl,.inl (sx.seq yr),?_⟩
   rw [List.length_map]
   obtain ⟨bd,ebd⟩:∃ bd:Nat,(n1:Int) % (rows.length:Int)=(bd:Int):=⟨n1 % rows.length,by simp⟩
   have b2:=Int.emod_lt_of_pos (n1:Int) (show 0 < (rows.length:Int) by lia)
   rw [ebd] at b2 ⊢
   have lb:bd < rows.length:=by lia
   clear b2 ebd hn1
   refine ⟨by lia,(hU3 _ _).mpr (ao fun U4 hU4=>?_)⟩
   clear hU3 hU2
   walk_at "rd"
   intro f0 hf0
   generalize e2:upd H' f0 _=H3
   have t2:=gL e2 hf0
   refine ⟨v,f0,prN sa sb sc,[],bd,rfl,dr,rv.mono (sx.trans t2),.of (gLa e2),Nat.zero_le _,by lia,fun q1 r1 s1 e1 H4 s4 k1 hr1 hs1 m1 yr1 ys1 ke1=>?_⟩
   rw [IG bd lb] at yr1 ys1 ke1
   have sx4:=sx.trans (t2.trans s4)
   walk_at "rd"
   refine ⟨_,rfl,r,_,rfl,sx4.seq yr,fun b0 hb0=>?_⟩
   rw [oT,← List.map_take]
   generalize e4:upd H4 b0 _=H5
   have t4:=gL e4 hb0
   intro b1 hb1
   generalize e5:upd H5 b1 _=H6
   have t5:=gL e5 hb1
   intro b2 hb2
   generalize e6:upd H6 b2 _=H7
   have t6:=gT e6 hb2
   have r6:Rep K H7 (.tup (kT .on)) (.ref b2):=gTr e6 hb2 (.cons rS .nil)
   intro b3 hb3
   generalize e7:upd H7 b3 _=H8
   have t7:=gT e7 hb3
   have t47:=t4.trans (t5.trans (t6.trans t7))
   refine ⟨_,_,(rK (K:=K) ⟨r1,s1,e1,k1,yr1,ys1,m1,ke1⟩).mono t47,rN (x:=.on) (said:=[]) (.of (gTa e7)) (.of (t7 _ _ (t6 _ _ (t5 _ _ (gLa e4))))) (.of (t7 _ _ (t6 _ _ (gLa e5)))) (r6.mono t7),iN _,iN ⟨rows.take bd,[],.on⟩,?_⟩
   rw [eqv_refl]
   refine ⟨_,rfl,(if_neg (by decide)).mpr ((hU4 _ _).mpr (ao fun U5 hU5=>?_))⟩
   have S8:=s1'.trans (sx4.trans t47)
   clear hU4 e2 e4 e5 e6 e7 t2 t4 t5 t6 t7 t47 r6 k1 yr1 ys1 ke1 hr1 hs1 m1 sx4 s4 hf0 hb0 hb1 hb2 hb3
   walk_at "rd"
   refine ⟨cell,rfl,fun L2 H9 sz md n hn z1 z2 m1 m2 s9 ⟨v2,fl2,r2,s2,ev2,yL2,rv2,yf2,yr2,ys2,_⟩=>⟨L2,_,rfl,yL2,rfl,_,_,rfl,_,_,rfl,_,_,rfl,_,_,rfl,_,_,rfl,rfl,(hU5 _ _).mpr (ao fun U6 hU6=>?_)⟩⟩
   clear hU5
   walk_at "rd"
   refine ⟨cell,11,rfl,by decide,by decide,fun n3 hn3=>?_⟩
   walk_at "rd"
   obtain ⟨bd2,ebd⟩:∃ bd2:Nat,(1000 + (n3:Int) % 9001)=(bd2:Int):=⟨1000 + n3 % 9001,by simp⟩
   have lb2:bd2≤10000:=by lia
   rw [ebd]
   clear ebd hn3
   refine (hU6 _ _).mpr ?_
   clear hU6
   walk_at "rd"
   refine ⟨v2,fl2,prR sz md,[5,5],bd2,rfl,Il z1 z2 m1 m2,rv2,yf2,by decide,by lia,fun q1 r1 s1 e1 J1 s4 k1 hr1 hs1 w1 yr1 ys1 ke1=>?_⟩
   obtain ⟨n5,hn5⟩:∃ n:Nat,(5000:Int).toNat=n:=⟨_,rfl⟩
   have en5:n5=5000:=by rw [← hn5]; rfl
   rw [IF n5 bd2 (by lia)] at yr1 ys1 ke1
   walk_at "rd"
   intro b0 hb0
   generalize e0:upd J1 b0 _=J2
   have t0:=gL e0 hb0
   refine ⟨b0,_,_,rfl,rfl,gLa e0,by decide,by decide,by show 2 * 5000≤_; lia,?_⟩
   rw [hn5]
   intro b1 hb1
   generalize e2:upd J2 b1 _=J3
   have t1:=gL e2 hb1
   have em:∀ (xs:List Int) (n:Nat),(List.replicate n (xs.map V.int)).flatten=((List.replicate n xs).flatten).map V.int:=fun xs n=>by rw [List.map_flatten,List.map_replicate]
   have y1:J3 b1=some (.lst (((List.replicate n5 [2,3]).flatten).map V.int)):=by rw [← em]; exact gLa e2
   refine ⟨_,rfl,b1,_,rfl,.of y1,fun b2 hb2=>?_⟩
   rw [oT,← List.map_take]
   generalize e3:upd J3 b2 _=J4
   have t2:=gL e3 hb2
   intro b3 hb3
   generalize e4:upd J4 b3 _=J5
   have t3:=gL e4 hb3
   intro b4 hb4
   generalize e5:upd J5 b4 _=J6
   have t4:=gT e5 hb4
   have r4:Rep K J6 (.tup (kT .on)) (.ref b4):=gTr e5 hb4 (.cons rS .nil)
   intro b5 hb5
   generalize e6:upd J6 b5 _=J7
   have t5:=gT e6 hb5
   have t05:=t0.trans (t1.trans (t2.trans (t3.trans (t4.trans t5))))
   refine ⟨_,_,(rK (K:=K) ⟨r1,s1,e1,k1,yr1,ys1,w1,ke1⟩).mono t05,rN (x:=.on) (said:=[]) (.of (gTa e6)) (.of (t5 _ _ (t4 _ _ (t3 _ _ (gLa e3))))) (.of (t5 _ _ (t4 _ _ (gLa e4)))) (r4.mono t5),iN _,iN ⟨_,[],.on⟩,?_⟩
   rw [eqv_refl]
   exact q _ (S8.trans (s9.trans (s4.trans t05)))
theorem E5 {s k:Int} {n:Nat} (hn:n=150) (h1:2≤s) (h2:s≤10) (h5:0≤k) (h6:k < 1000):Known (prR s k) [5,5] (List.replicate n [2,3]).flatten [] none:=by
 obtain ⟨z,p⟩:=yW (s:=s) (m:=k) (v:=0) (l:=[5,5]) n
 have ln:((List.replicate n ([2,3]:List Int)).flatten).length=n * 2:=dB _ _
 exact Known.Fz (Il h1 h2 h5 h6) (by decide) ⟨by lia,by lia⟩ (Nat.zero_le _) p
theorem GZ (T:Tx K mg t):bP P w K mg base CX0 30 t.vd t.yX ["script"] (Af K):=by
 have aW:=hZ (P:=P) (w:=w) (base:=base) T
 have sZ:=ze (P:=P) (w:=w) (base:=base) T
 have vQ:=Dt (P:=P) (w:=w) (base:=base) T
 have tf:=zf (P:=P) (w:=w) (base:=base) T
 have jK:=xK (P:=P) (w:=w) (base:=base) T
 have oU:=E4 (P:=P) (w:=w) (base:=base) T
 have g1:=gZ (P:=P) (w:=w) (base:=base) T
 have g2:=p0 (P:=P) (w:=w) (base:=base) T 4
 have g3:=Az (P:=P) (w:=w) (base:=base) T
 have vh:=Dr (P:=P) (w:=w) (base:=base) T g1 g2 g3
 refine T.Ir.F.okS Di (fun vs H Q E h=>?_) (fun cdv A outer s H vs Q E hr h=>?_)
 · obtain ⟨_,_,rfl,_⟩:=h
   rfl
 obtain ⟨a,ns,rfl,hS,h63,q⟩:=h
 have nd:=Di.nd
 refine ⟨_,[some (V.ref a),none,none,none,none,none,none,none,none,none],(@ag _ _ _ _ _ (@bS _ _ _ _ _ _ _ _ (@PW.pt _ _ _ (@pw_and _ _ _ _ _ _ _ (@aY _ _ _ _ _ _ _ _ (@dA _) (@aU _ _ _ _ _ _ _ _ (@bT _) (@aL _ _ _ _ _ _ _ _ _ _ _ _ _ _ _ _ aW (hr.mono (by omega)) rfl T.aq.m T.aq.F.kp T.aq.b .nil ba (@aa _ _ _ _ _ (@cJ _ _ _ _ _ _ _ _ _ (se rfl) rfl T.sT PyProof.Rows.Boot.«sum» (@aa _ _ _ _ _ (@fc _ _ _ _ _ _ _ _ _ _ (@gK _) (pv 0) (@gI _) (@gJ _ _ _ (@aj _ _ _ _))) (@ae _) (@br _ _ _ _ _)) (by first | rfl | exact .inl rfl | exact .inr rfl | decide | (intro _; rfl) | assumption) (by first | rfl | exact .inl rfl | exact .inr rfl | decide | (intro _; rfl) | assumption) (by first | rfl | exact .inl rfl | exact .inr rfl | decide | (intro _; rfl) | assumption) (by first | rfl | exact .inl rfl | exact .inr rfl | decide | (intro _; rfl) | assumption)) (@aa _ _ _ _ _ (@aj _ _ _ _) (@ae _) (@ai _ _ _ _ _)) (@cU _ _ _ _ _ _)) (by first | rfl | exact .inl rfl | exact .inr rfl | decide | (intro _; rfl) | assumption) (by first | rfl | exact .inl rfl | exact .inr rfl | decide | (intro _; rfl) | assumption) (by first | rfl | exact .inl rfl | exact .inr rfl | decide | (intro _; rfl) | assumption)) (@aj _ _ _ _)) (@aj _ _ _ _) (bc _)) (@pw_and1 _ _ _ _ (@FQ _ _ _ _ (@yi _ _ _ (@aL _ _ _ _ _ _ _ _ _ _ _ _ _ _ _ _ oU (hr.mono (by omega)) rfl T.dG.m T.dG.F.kp T.dG.b .nil ba (@aa _ _ _ _ _ (@cJ _ _ _ _ _ _ _ _ _ (se rfl) rfl T.sT PyProof.Rows.Boot.«sum» (@aa _ _ _ _ _ (@fc _ _ _ _ _ _ _ _ _ _ (@gK _) (pv 0) (@gI _) (@gJ _ _ _ (@aj _ _ _ _))) (@ae _) (@br _ _ _ _ _)) (by first | rfl | exact .inl rfl | exact .inr rfl | decide | (intro _; rfl) | assumption) (by first | rfl | exact .inl rfl | exact .inr rfl | decide | (intro _; rfl) | assumption) (by first | rfl | exact .inl rfl | exact .inr rfl | decide | (intro _; rfl) | assumption) (by first | rfl | exact .inl rfl | exact .inr rfl | decide | (intro _; rfl) | assumption)) (@ae _) (@cU _ _ _ _ _ _)) (by first | rfl | exact .inl rfl | exact .inr rfl | decide | (intro _; rfl) | assumption) (by first | rfl | exact .inl rfl | exact .inr rfl | decide | (intro _; rfl) | assumption) (by first | rfl | exact .inl rfl | exact .inr rfl | decide | (intro _; rfl) | assumption)) (by first | rfl | exact .inl rfl | exact .inr rfl | decide | (intro _; rfl) | assumption)))))) (@av _ _ _ (@aX _ _ _ _ (@rO _ _ _ _))) (@bo _)) (@ag _ _ _ _ _ (@iX _ _ _ _ _ _ _ _ PassesOwn.never rfl (@dW _ _ _ _ (@aU _ _ _ _ _ _ _ _ (@fC _) (@aO _ _ _ _ (@aa _ _ _ _ _ (@cJ _ _ _ _ _ _ _ _ _ (se rfl) rfl T.sT PyProof.Rows.Boot.«sum» (@aa _ _ _ _ _ (@fc _ _ _ _ _ _ _ _ _ _ (@gK _) (pv 0) (@gI _) (@gJ _ _ _ (@aj _ _ _ _))) (@ae _) (@br _ _ _ _ _)) (by first | rfl | exact .inl rfl | exact .inr rfl | decide | (intro _; rfl) | assumption) (by first | rfl | exact .inl rfl | exact .inr rfl | decide | (intro _; rfl) | assumption) (by first | rfl | exact .inl rfl | exact .inr rfl | decide | (intro _; rfl) | assumption) (by first | rfl | exact .inl rfl | exact .inr rfl | decide | (intro _; rfl) | assumption)) (@ae _) (@cU _ _ _ _ _ _))) (@fc _ _ _ _ _ _ _ _ _ _ (@gK _) (pv 0) (@gI _) (@gJ _ _ _ (@aj _ _ _ _))))) (@aS _ _ 1 _ nd rfl (Or.inl rfl) (by first | rfl | exact .inl rfl | exact .inr rfl | decide | (intro _; rfl) | assumption)) (@ag _ _ _ _ _ (@aE _ _ 2 _ _ _ _ nd rfl (Or.inl rfl) (@aU _ _ _ _ _ _ _ _ (@bT _) (@aL _ _ _ _ _ _ _ _ _ _ _ _ _ _ _ _ aW (hr.mono (by omega)) rfl T.aq.m T.aq.F.kp T.aq.b .nil ba (@aa _ _ _ _ _ (pv 1) (@aa _ _ _ _ _ (@aj _ _ _ _) (@ae _) (@ai _ _ _ _ _)) (@ah _ _ _ _)) (by first | rfl | exact .inl rfl | exact .inr rfl | decide | (intro _; rfl) | assumption) (by first | rfl | exact .inl rfl | exact .inr rfl | decide | (intro _; rfl) | assumption) (by first | rfl | exact .inl rfl | exact .inr rfl | decide | (intro _; rfl) | assumption)) (@aj _ _ _ _)) (by first | rfl | exact .inl rfl | exact .inr rfl | decide | (intro _; rfl) | assumption) (by first | rfl | exact .inl rfl | exact .inr rfl | decide | (intro _; rfl) | assumption)) (@ag _ _ _ _ _ (@bS _ _ _ _ _ _ _ _ (@aY _ _ _ _ _ _ _ _ (@dA _) (pv 2) (@aj _ _ _ _) (bc _)) (@av _ _ _ (@nv _ _ _ _ _ _ (@aL _ _ _ _ _ _ _ _ _ _ _ _ _ _ _ _ sZ (hr.mono (by omega)) rfl T.fj.m T.fj.F.kp T.fj.b .nil ba (@aa _ _ _ _ _ (pv 1) (@ae _) (@ah _ _ _ _)) (by first | rfl | exact .inl rfl | exact .inr rfl | decide | (intro _; rfl) | assumption) (by first | rfl | exact .inl rfl | exact .inr rfl | decide | (intro _; rfl) | assumption) (by first | rfl | exact .inl rfl | exact .inr rfl | decide | (intro _; rfl) | assumption)) (@nB _ _ _ _ _ _ rfl (@aZ _ _ _ _ _ (@aS _ _ 3 _ nd rfl (Or.inl rfl) (by first | rfl | exact .inl rfl | exact .inr rfl | decide | (intro _; rfl) | assumption)) (@aZ _ _ _ _ _ (@aS _ _ 4 _ nd rfl (Or.inl rfl) (by first | rfl | exact .inl rfl | exact .inr rfl | decide | (intro _; rfl) | assumption)) (@aZ _ _ _ _ _ (@aS _ _ 5 _ nd rfl (Or.inl rfl) (by first | rfl | exact .inl rfl | exact .inr rfl | decide | (intro _; rfl) | assumption)) (@aZ _ _ _ _ _ (@aS _ _ 6 _ nd rfl (Or.inl rfl) (by first | rfl | exact .inl rfl | exact .inr rfl | decide | (intro _; rfl) | assumption)) (@aZ _ _ _ _ _ (@aS _ _ 7 _ nd rfl (Or.inl rfl) (by first | rfl | exact .inl rfl | exact .inr rfl | decide | (intro _; rfl) | assumption)) (@iK _) (by first | rfl | exact .inl rfl | exact .inr rfl | decide | (intro _; rfl) | assumption)) (by first | rfl | exact .inl rfl | exact .inr rfl | decide | (intro _; rfl) | assumption)) (by first | rfl | exact .inl rfl | exact .inr rfl | decide | (intro _; rfl) | assumption)) (by first | rfl | exact .inl rfl | exact .inr rfl | decide | (intro _; rfl) | assumption)) (by first | rfl | exact .inl rfl | exact .inr rfl | decide | (intro _; rfl) | assumption)) (by first | rfl | exact .inl rfl | exact .inr rfl | decide | (intro _; rfl) | assumption) (by first | rfl | exact .inl rfl | exact .inr rfl | decide | (intro _; rfl) | assumption)) (by first | rfl | exact .inl rfl | exact .inr rfl | decide | (intro _; rfl) | assumption) (by first | rfl | exact .inl rfl | exact .inr rfl | decide | (intro _; rfl) | assumption) (by first | rfl | exact .inl rfl | exact .inr rfl | decide | (intro _; rfl) | assumption))) (@av _ _ _ (@bS _ _ _ _ _ _ _ _ (@aY _ _ _ _ _ _ _ _ (@dA _) (pv 2) (@aj _ _ _ _) (bc _)) (@av _ _ _ (@nv _ _ _ _ _ _ (@aL _ _ _ _ _ _ _ _ _ _ _ _ _ _ _ _ vQ (hr.mono (by omega)) rfl T.gU.m T.gU.F.kp T.gU.b .nil ba (@aa _ _ _ _ _ (pv 1) (@ae _) (@ah _ _ _ _)) (by first | rfl | exact .inl rfl | exact .inr rfl | decide | (intro _; rfl) | assumption) (by first | rfl | exact .inl rfl | exact .inr rfl | decide | (intro _; rfl) | assumption) (by first | rfl | exact .inl rfl | exact .inr rfl | decide | (intro _; rfl) | assumption)) (@nB _ _ _ _ _ _ rfl (@aZ _ _ _ _ _ (@aS _ _ 3 _ nd rfl (Or.inl rfl) (by first | rfl | exact .inl rfl | exact .inr rfl | decide | (intro _; rfl) | assumption)) (@aZ _ _ _ _ _ (@aS _ _ 4 _ nd rfl (Or.inl rfl) (by first | rfl | exact .inl rfl | exact .inr rfl | decide | (intro _; rfl) | assumption)) (@aZ _ _ _ _ _ (@aS _ _ 5 _ nd rfl (Or.inl rfl) (by first | rfl | exact .inl rfl | exact .inr rfl | decide | (intro _; rfl) | assumption)) (@aZ _ _ _ _ _ (@aS _ _ 6 _ nd rfl (Or.inl rfl) (by first | rfl | exact .inl rfl | exact .inr rfl | decide | (intro _; rfl) | assumption)) (@aZ _ _ _ _ _ (@aS _ _ 7 _ nd rfl (Or.inl rfl) (by first | rfl | exact .inl rfl | exact .inr rfl | decide | (intro _; rfl) | assumption)) (@iK _) (by first | rfl | exact .inl rfl | exact .inr rfl | decide | (intro _; rfl) | assumption)) (by first | rfl | exact .inl rfl | exact .inr rfl | decide | (intro _; rfl) | assumption)) (by first | rfl | exact .inl rfl | exact .inr rfl | decide | (intro _; rfl) | assumption)) (by first | rfl | exact .inl rfl | exact .inr rfl | decide | (intro _; rfl) | assumption)) (by first | rfl | exact .inl rfl | exact .inr rfl | decide | (intro _; rfl) | assumption)) (by first | rfl | exact .inl rfl | exact .inr rfl | decide | (intro _; rfl) | assumption) (by first | rfl | exact .inl rfl | exact .inr rfl | decide | (intro _; rfl) | assumption)) (by first | rfl | exact .inl rfl | exact .inr rfl | decide | (intro _; rfl) | assumption) (by first | rfl | exact .inl rfl | exact .inr rfl | decide | (intro _; rfl) | assumption) (by first | rfl | exact .inl rfl | exact .inr rfl | decide | (intro _; rfl) | assumption))) (@av _ _ _ (@bS _ _ _ _ _ _ _ _ (@aY _ _ _ _ _ _ _ _ (@dA _) (pv 2) (@aj _ _ _ _) (bc _)) (@av _ _ _ (@nv _ _ _ _ _ _ (@aL _ _ _ _ _ _ _ _ _ _ _ _ _ _ _ _ tf (hr.mono (by omega)) rfl T.fk.m T.fk.F.kp T.fk.b .nil ba (@aa _ _ _ _ _ (pv 1) (@ae _) (@ah _ _ _ _)) (by first | rfl | exact .inl rfl | exact .inr rfl | decide | (intro _; rfl) | assumption) (by first | rfl | exact .inl rfl | exact .inr rfl | decide | (intro _; rfl) | assumption) (by first | rfl | exact .inl rfl | exact .inr rfl | decide | (intro _; rfl) | assumption)) (@nB _ _ _ _ _ _ rfl (@aZ _ _ _ _ _ (@aS _ _ 3 _ nd rfl (Or.inl rfl) (by first | rfl | exact .inl rfl | exact .inr rfl | decide | (intro _; rfl) | assumption)) (@aZ _ _ _ _ _ (@aS _ _ 4 _ nd rfl (Or.inl rfl) (by first | rfl | exact .inl rfl | exact .inr rfl | decide | (intro _; rfl) | assumption)) (@aZ _ _ _ _ _ (@aS _ _ 5 _ nd rfl (Or.inl rfl) (by first | rfl | exact .inl rfl | exact .inr rfl | decide | (intro _; rfl) | assumption)) (@aZ _ _ _ _ _ (@aS _ _ 6 _ nd rfl (Or.inl rfl) (by first | rfl | exact .inl rfl | exact .inr rfl | decide | (intro _; rfl) | assumption)) (@aZ _ _ _ _ _ (@aS _ _ 7 _ nd rfl (Or.inl rfl) (by first | rfl | exact .inl rfl | exact .inr rfl | decide | (intro _; rfl) | assumption)) (@iK _) (by first | rfl | exact .inl rfl | exact .inr rfl | decide | (intro _; rfl) | assumption)) (by first | rfl | exact .inl rfl | exact .inr rfl | decide | (intro _; rfl) | assumption)) (by first | rfl | exact .inl rfl | exact .inr rfl | decide | (intro _; rfl) | assumption)) (by first | rfl | exact .inl rfl | exact .inr rfl | decide | (intro _; rfl) | assumption)) (by first | rfl | exact .inl rfl | exact .inr rfl | decide | (intro _; rfl) | assumption)) (by first | rfl | exact .inl rfl | exact .inr rfl | decide | (intro _; rfl) | assumption) (by first | rfl | exact .inl rfl | exact .inr rfl | decide | (intro _; rfl) | assumption)) (by first | rfl | exact .inl rfl | exact .inr rfl | decide | (intro _; rfl) | assumption) (by first | rfl | exact .inl rfl | exact .inr rfl | decide | (intro _; rfl) | assumption) (by first | rfl | exact .inl rfl | exact .inr rfl | decide | (intro _; rfl) | assumption))) (@av _ _ _ (@nv _ _ _ _ _ _ (@aL _ _ _ _ _ _ _ _ _ _ _ _ _ _ _ _ jK (hr.mono (by omega)) rfl T.dy.m T.dy.F.kp T.dy.b .nil ba (@aa _ _ _ _ _ (pv 1) (@ae _) (@ah _ _ _ _)) (by first | rfl | exact .inl rfl | exact .inr rfl | decide | (intro _; rfl) | assumption) (by first | rfl | exact .inl rfl | exact .inr rfl | decide | (intro _; rfl) | assumption) (by first | rfl | exact .inl rfl | exact .inr rfl | decide | (intro _; rfl) | assumption)) (@nB _ _ _ _ _ _ rfl (@aZ _ _ _ _ _ (@aS _ _ 3 _ nd rfl (Or.inl rfl) (by first | rfl | exact .inl rfl | exact .inr rfl | decide | (intro _; rfl) | assumption)) (@aZ _ _ _ _ _ (@aS _ _ 4 _ nd rfl (Or.inl rfl) (by first | rfl | exact .inl rfl | exact .inr rfl | decide | (intro _; rfl) | assumption)) (@aZ _ _ _ _ _ (@aS _ _ 5 _ nd rfl (Or.inl rfl) (by first | rfl | exact .inl rfl | exact .inr rfl | decide | (intro _; rfl) | assumption)) (@aZ _ _ _ _ _ (@aS _ _ 6 _ nd rfl (Or.inl rfl) (by first | rfl | exact .inl rfl | exact .inr rfl | decide | (intro _; rfl) | assumption)) (@aZ _ _ _ _ _ (@aS _ _ 7 _ nd rfl (Or.inl rfl) (by first | rfl | exact .inl rfl | exact .inr rfl | decide | (intro _; rfl) | assumption)) (@iK _) (by first | rfl | exact .inl rfl | exact .inr rfl | decide | (intro _; rfl) | assumption)) (by first | rfl | exact .inl rfl | exact .inr rfl | decide | (intro _; rfl) | assumption)) (by first | rfl | exact .inl rfl | exact .inr rfl | decide | (intro _; rfl) | assumption)) (by first | rfl | exact .inl rfl | exact .inr rfl | decide | (intro _; rfl) | assumption)) (by first | rfl | exact .inl rfl | exact .inr rfl | decide | (intro _; rfl) | assumption)) (by first | rfl | exact .inl rfl | exact .inr rfl | decide | (intro _; rfl) | assumption) (by first | rfl | exact .inl rfl | exact .inr rfl | decide | (intro _; rfl) | assumption)) (by first | rfl | exact .inl rfl | exact .inr rfl | decide | (intro _; rfl) | assumption) (by first | rfl | exact .inl rfl | exact .inr rfl | decide | (intro _; rfl) | assumption) (by first | rfl | exact .inl rfl | exact .inr rfl | decide | (intro _; rfl) | assumption)))))))) (@ag _ _ _ _ _ (@bS _ _ _ _ _ _ _ _ (@aY _ _ _ _ _ _ _ _ (@zN _) (pv 7) (@eX _ _ _) (bc _)) (@av _ _ _ (@iX _ _ _ _ _ _ _ _ PassesOwn.never rfl (@dW _ _ _ _ (@aO _ _ _ _ (@aa _ _ _ _ _ (@cJ _ _ _ _ _ _ _ _ _ bF rfl T.gC PyProof.Rows.Boot.«len» (@aa _ _ _ _ _ (pv 5) (@ae _) (@ah _ _ _ _)) (by first | rfl | exact .inl rfl | exact .inr rfl | decide | (intro _; rfl) | assumption) (by first | rfl | exact .inl rfl | exact .inr rfl | decide | (intro _; rfl) | assumption) (by first | rfl | exact .inl rfl | exact .inr rfl | decide | (intro _; rfl) | assumption) (by first | rfl | exact .inl rfl | exact .inr rfl | decide | (intro _; rfl) | assumption)) (@aa _ _ _ _ _ (@aU _ _ _ _ _ _ _ _ (@dF _) (@cJ _ _ _ _ _ _ _ _ _ bF rfl T.gC PyProof.Rows.Boot.«len» (@aa _ _ _ _ _ (pv 5) (@ae _) (@ah _ _ _ _)) (by first | rfl | exact .inl rfl | exact .inr rfl | decide | (intro _; rfl) | assumption) (by first | rfl | exact .inl rfl | exact .inr rfl | decide | (intro _; rfl) | assumption) (by first | rfl | exact .inl rfl | exact .inr rfl | decide | (intro _; rfl) | assumption) (by first | rfl | exact .inl rfl | exact .inr rfl | decide | (intro _; rfl) | assumption)) (@aj _ _ _ _)) (@aa _ _ _ _ _ (@aj _ _ _ _) (@ae _) (@ai _ _ _ _ _)) (@fD _ _ _ _ _ _)) (@cU _ _ _ _ _ _)))) (@aS _ _ 8 _ nd rfl (Or.inl rfl) (by first | rfl | exact .inl rfl | exact .inr rfl | decide | (intro _; rfl) | assumption)) (@av _ _ _ (@bS _ _ _ _ _ _ _ _ (@aY _ _ _ _ _ _ _ _ (@pN _ (yA hr)) (@aL _ _ _ _ _ _ _ _ _ _ _ _ _ _ _ _ vh (hr.mono (by omega)) rfl T.gy.m T.gy.F.kp T.gy.b .nil ba (@aa _ _ _ _ _ (pv 3) (@aa _ _ _ _ _ (pv 4) (@aa _ _ _ _ _ (pv 8) (@ae _) (@ah _ _ _ _)) (@ah _ _ _ _)) (@ah _ _ _ _)) (by first | rfl | exact .inl rfl | exact .inr rfl | decide | (intro _; rfl) | assumption) (by first | rfl | exact .inl rfl | exact .inr rfl | decide | (intro _; rfl) | assumption) (by first | rfl | exact .inl rfl | exact .inr rfl | decide | (intro _; rfl) | assumption)) (@au _ _ _ _ _ (@aa _ _ _ _ _ (pv 5) (@aa _ _ _ _ _ (pv 6) (@aa _ _ _ _ _ (pv 7) (@ae _) (@ah _ _ _ _)) (@ah _ _ _ _)) (@ah _ _ _ _))) (bc _)) (@av _ _ _ (@aX _ _ _ _ (@rO _ _ _ _))) (@bo _))) (by first | rfl | exact .inl rfl | exact .inr rfl | decide | (intro _; rfl) | assumption))) (@bo _)) (@av _ _ _ (@iX _ _ _ _ _ _ _ _ PassesOwn.never rfl (@dW _ _ _ _ (@aO _ _ _ _ (@aa _ _ _ _ _ (@aj _ _ _ _) (@aa _ _ _ _ _ (@aU _ _ _ _ _ _ _ _ (@BG _) (@cJ _ _ _ _ _ _ _ _ _ bF rfl T.gC PyProof.Rows.Boot.«len» (@aa _ _ _ _ _ (pv 5) (@ae _) (@ah _ _ _ _)) (by first | rfl | exact .inl rfl | exact .inr rfl | decide | (intro _; rfl) | assumption) (by first | rfl | exact .inl rfl | exact .inr rfl | decide | (intro _; rfl) | assumption) (by first | rfl | exact .inl rfl | exact .inr rfl | decide | (intro _; rfl) | assumption) (by first | rfl | exact .inl rfl | exact .inr rfl | decide | (intro _; rfl) | assumption)) (@aj _ _ _ _)) (@aa _ _ _ _ _ (@aU _ _ _ _ _ _ _ _ (@bT _) (@aL _ _ _ _ _ _ _ _ _ _ _ _ _ _ _ _ aW (hr.mono (by omega)) rfl T.aq.m T.aq.F.kp T.aq.b .nil ba (@aa _ _ _ _ _ (pv 1) (@aa _ _ _ _ _ (@aj _ _ _ _) (@ae _) (@ai _ _ _ _ _)) (@ah _ _ _ _)) (by first | rfl | exact .inl rfl | exact .inr rfl | decide | (intro _; rfl) | assumption) (by first | rfl | exact .inl rfl | exact .inr rfl | decide | (intro _; rfl) | assumption) (by first | rfl | exact .inl rfl | exact .inr rfl | decide | (intro _; rfl) | assumption)) (@cJ _ _ _ _ _ _ _ _ _ bF rfl T.gC PyProof.Rows.Boot.«len» (@aa _ _ _ _ _ (pv 5) (@ae _) (@ah _ _ _ _)) (by first | rfl | exact .inl rfl | exact .inr rfl | decide | (intro _; rfl) | assumption) (by first | rfl | exact .inl rfl | exact .inr rfl | decide | (intro _; rfl) | assumption) (by first | rfl | exact .inl rfl | exact .inr rfl | decide | (intro _; rfl) | assumption) (by first | rfl | exact .inl rfl | exact .inr rfl | decide | (intro _; rfl) | assumption))) (@ae _) (@fD _ _ _ _ _ _)) (@fD _ _ _ _ _ _)) (@ai _ _ _ _ _)))) (@aS _ _ 8 _ nd rfl (Or.inl rfl) (by first | rfl | exact .inl rfl | exact .inr rfl | decide | (intro _; rfl) | assumption)) (@ag _ _ _ _ _ (@aE _ _ 9 _ _ _ _ nd rfl (Or.inl rfl) (@aL _ _ _ _ _ _ _ _ _ _ _ _ _ _ _ _ vh (hr.mono (by omega)) rfl T.gy.m T.gy.F.kp T.gy.b .nil ba (@aa _ _ _ _ _ (pv 3) (@aa _ _ _ _ _ (pv 4) (@aa _ _ _ _ _ (pv 8) (@ae _) (@ah _ _ _ _)) (@ah _ _ _ _)) (@ah _ _ _ _)) (by first | rfl | exact .inl rfl | exact .inr rfl | decide | (intro _; rfl) | assumption) (by first | rfl | exact .inl rfl | exact .inr rfl | decide | (intro _; rfl) | assumption) (by first | rfl | exact .inl rfl | exact .inr rfl | decide | (intro _; rfl) | assumption)) (by first | rfl | exact .inl rfl | exact .inr rfl | decide | (intro _; rfl) | assumption) (by first | rfl | exact .inl rfl | exact .inr rfl | decide | (intro _; rfl) | assumption)) (@av _ _ _ (@bS _ _ _ _ _ _ _ _ (@PW.pt _ _ _ (@pw_or _ _ _ _ _ _ _ (@aY _ _ _ _ _ _ _ _ (@pN _ (yA hr)) (@a9 _ _ _ _ _ _ _ (@aV _) (pv 9) (@aj _ _ _ _) (@aw _ _ _)) (@fc _ _ _ _ _ _ _ _ _ _ (@gK _) (pv 5) (@gI _) (@gJ _ _ _ (pv 8))) (bc _)) (@pw_or _ _ _ _ _ _ _ (@aY _ _ _ _ _ _ _ _ (@pN _ (yA hr)) (@a9 _ _ _ _ _ _ _ (@aV _) (pv 9) (@aj _ _ _ _) (@aw _ _ _)) (@fc _ _ _ _ _ _ _ _ _ _ (@gK _) (pv 6) (@gI _) (@gJ _ _ _ (@cJ _ _ _ _ _ _ _ _ _ bF rfl T.gC PyProof.Rows.Boot.«len» (@aa _ _ _ _ _ (@a9 _ _ _ _ _ _ _ (@aV _) (pv 9) (@aj _ _ _ _) (@aw _ _ _)) (@ae _) (@br _ _ _ _ _)) (by first | rfl | exact .inl rfl | exact .inr rfl | decide | (intro _; rfl) | assumption) (by first | rfl | exact .inl rfl | exact .inr rfl | decide | (intro _; rfl) | assumption) (by first | rfl | exact .inl rfl | exact .inr rfl | decide | (intro _; rfl) | assumption) (by first | rfl | exact .inl rfl | exact .inr rfl | decide | (intro _; rfl) | assumption)))) (bc _)) (@pw_or1 _ _ _ _ (@aY _ _ _ _ _ _ _ _ (@pN _ (yA hr)) (@a9 _ _ _ _ _ _ _ (@aV _) (pv 9) (@aj _ _ _ _) (@aw _ _ _)) (@au _ _ _ _ _ (@aa _ _ _ _ _ (@ay _ _ _ _) (@ae _) (@ai _ _ _ _ _))) (bc _)))))) (@av _ _ _ (@aX _ _ _ _ (@rO _ _ _ _))) (@bo _)))) (by first | rfl | exact .inl rfl | exact .inr rfl | decide | (intro _; rfl) | assumption)))))) (by first | rfl | exact .inl rfl | exact .inr rfl | decide | (intro _; rfl) | assumption)) (@av _ _ _ (@aX _ _ _ _ (@rO _ _ _ _))))),rfl,?_⟩
 have line:sizeLine=2 ^ 24:=rfl
 refine ao fun U1 hU1=>?_
 walk_at "rd"
 have next:∀ H1,aC H H1→U1 [some (V.ref a),none,none,none,none,none,none,none,none,none] H1:=by
   intro H1 s1
   refine (hU1 _ _).mpr (ao fun U2 hU2=>?_)
   clear hU1
   refine hG fun U hU=>?_
   walk_at "rd"
   refine ⟨_,rfl,a,_,rfl,s1.seq hS,fun S hS2=>?_⟩
   rw [Cq ns h63]
   generalize e2:upd H1 S _=H2
   have t2:=gL e2 hS2
   refine ⟨S,ns,rfl,.of (gLa e2),fun p hp=>?_⟩
   generalize e3:upd H2 p _=H3
   have t3:=gL e3 hp
   refine ⟨_,rfl,a,_,rfl,(s1.trans (t2.trans t3)).seq hS,fun S3 hS3=>?_⟩
   rw [show (10:Int)=((10:Nat):Int) from rfl,oT,← List.map_take]
   have l10:(ns.take 10).length≤10:=by rw [List.length_take]; lia
   generalize ns.take 10=n10 at l10 ⊢
   generalize e4:upd H3 S3 _=H4
   have t4:=gL e4 hS3
   refine ⟨p,S3,_,_,rfl,rfl,t4 _ _ (gLa e3),gLa e4,by simp; lia,fun CL hCL=>⟨CL,rfl,⟨_,.of ar⟩,hU _ _ ?_⟩⟩
   clear hU
   generalize e5:upd H4 CL _=H5
   have t5:=gL e5 hCL
   have yC:H5 CL=some (.lst ((ns.sum :: n10).map V.int)):=gLa e5
   have lC:(ns.sum :: n10).length≤11:=by rw [List.length_cons]; lia
   generalize ns.sum :: n10=cells at yC lC
   have s5:=s1.trans (t2.trans (t3.trans (t4.trans t5)))
   clear e2 e3 e4 e5 t2 t3 t4 t5 hp hS2 hS3 hCL s1
   obtain ⟨Pv,hPv⟩:∃ Pv:Nat→St→Hp→Prop,∀ i σ H',Pv i σ H'↔∃ (z1 z2 z3 z4 z5 z6 z7 z8 z9:Option V),σ=[some (V.ref a),z1,z2,z3,z4,z5,z6,z7,z8,z9]∧aC H5 H':=⟨_,fun _ _ _=>Iff.rfl⟩
   refine g9 (K:=K) (a:=CL) (xs:=cells.map V.int) Pv ((hPv _ _ _).mpr ⟨_,_,_,_,_,_,_,_,_,rfl,.refl _⟩) (fun i σ H' hi hv=>by obtain ⟨_,_,_,_,_,_,_,_,_,_,s⟩:=(hPv _ _ _).mp hv; exact .of (s _ _ yC)) (fun i x σ H' hx hv=>?_) (fun σ H' hv=>?_)
   · obtain ⟨z1,z2,z3,z4,z5,z6,z7,z8,z9,rfl,sH⟩:=(hPv _ _ _).mp hv
     clear hv
     obtain ⟨cell,rfl⟩:∃ c,x=V.int c:=by
       rw [List.getElem?_map] at hx
       cases hc:cells[i]? with
       | none=>rw [hc] at hx; cases hx
       | some c=>rw [hc] at hx; cases hx; exact ⟨c,rfl⟩
     have done:=fun σ H12=>(hPv (i + 1) σ H12).mpr
     simp only [eu,List.set]
     refine ao fun V1 hV1=>?_
     walk_at "rd"
     refine ⟨cell,0,rfl,by decide,by decide,fun n1 hn1=>?_⟩
     walk_at "rd"
     obtain ⟨way,ew⟩:∃ w:Int,(n1:Int) % 4=w:=⟨_,rfl⟩
     rw [ew]
     clear ew hn1
     refine (hV1 _ _).mpr (ao fun V2 hV2=>?_)
     clear hV1
     have cont:∀ (H6:Hp) (L:Addr) (pr:PG.Prog) (aJ rows said:List Int) (e:Option PG.ck) (v:V) (fl r sd:Addr) (ev:V),rows.length≤900→aC H' H6→Rep K H6 (fE pr) v→SqL K H6 fl (aJ.map V.int)→SqL K H6 r (rows.map V.int)→SqL K H6 sd (said.map V.int)→q0 K H6 e ev→Known pr aJ rows said e→
         V2 [some (V.ref a),some (V.int cell),some (V.int way),some v,some (V.ref fl),some (V.ref r),some (V.ref sd),some ev,z8,z9] H6:=by
       intro H6 L pr aJ rows said e v fl r sd ev lr s6 rv yf yr ys ye kn
       refine (hV2 _ _).mpr (ao fun V3 hV3=>?_)
       clear hV2
       walk_at "rd"
       have dr:=kn.dr
       have rl:=kn.rl
       have rest:∀ (z8:Option V) (H7:Hp),aC H6 H7→V3 [some (V.ref a),some (V.int cell),some (V.int way),some v,some (V.ref fl),some (V.ref r),some (V.ref sd),some ev,z8,z9] H7:=by
         intro z8 H7 s7
         refine (hV3 _ _).mpr ?_
         clear hV3
         refine hG fun U hU=>?_
         walk_at "rd"
         have yr7:=s7.seq yr
         refine ⟨r,_,rfl,.inl yr7,cell,5,rfl,by decide,by decide,fun n5 hn5=>⟨r,_,rfl,.inl yr7,?_⟩⟩
         walk_at "rd"
         rw [List.length_map]
         refine ⟨by lia,fun BL hBL=>⟨⟨_,.of ar⟩,hU _ _ ?_⟩⟩
         clear hU
         obtain ⟨b5,eb5⟩:∃ b5:Nat,(n5:Int) % (rows.length:Int)=(b5:Int):=⟨n5 % rows.length,by simp⟩
         have lb5:=Int.emod_lt_of_pos (n5:Int) (show 0 < (rows.length:Int) by lia)
         rw [eb5] at lb5 ⊢
         clear eb5 hn5
         generalize e1:upd H7 BL _=H8
         have t1:=gL e1 hBL
         have yB:=gLa e1
         clear e1 hBL
         have sx8:=s7.trans t1
         obtain ⟨Pw,hPw⟩:∃ Pw:Nat→St→Hp→Prop,∀ j σ Hy,Pw j σ Hy↔∃ z y:Option V,σ=[some (V.ref a),some (V.int cell),some (V.int way),some v,some (V.ref fl),some (V.ref r),some (V.ref sd),some ev,z,y]∧aC H8 Hy:=⟨_,fun _ _ _=>Iff.rfl⟩
         refine g9 (K:=K) (a:=BL) Pw ((hPw _ _ _).mpr ⟨_,_,rfl,.refl _⟩) (fun j σ Hy hj hv=>by obtain ⟨_,_,_,s⟩:=(hPw _ _ _).mp hv; exact .of (s _ _ yB)) (fun j y σ Hy hy hv=>?_) (fun σ Hy hv=>?_)
         · obtain ⟨z,y9,rfl,sy⟩:=(hPw _ _ _).mp hv
           clear hv
           obtain ⟨bd,rfl,lb⟩:∃ bd:Nat,y=V.int bd∧bd < rows.length:=by
             match j,hy with
             | 0,hy=>cases hy; exact ⟨0,rfl,by lia⟩
             | 1,hy=>cases hy; exact ⟨rows.length - 1,by congr 1; lia,by lia⟩
             | 2,hy=>cases hy; exact ⟨b5,rfl,by lia⟩
           have dn:=fun σ H12=>(hPw (j + 1) σ H12).mpr
           simp only [eu,List.set]
           have sx:=sx8.trans sy
           refine ao fun V4 hV4=>?_
           walk_at "rd"
           refine ⟨v,fl,pr,aJ,bd,rfl,dr,rv.mono sx,sx.seq yf,by have:=kn.fl; lia,by lia,fun q1 r1 s1 e1 H9 s9 k1 hr1 hs1 m1 yr1 ys1 ke1=>(hV4 _ _).mpr ?_⟩
           clear hV4
           obtain ⟨c1,c2,c3⟩:=kn.cut bd lb
           rw [c1] at yr1
           rw [c3] at ke1
           have ltk:=List.prefix_iff_eq_take.mp c2
           generalize (di pr bd (PG.aT pr.body 0) (pr.ax.map (·.first)) aJ).said=sd' at *
           have s10:=sx.trans s9
           walk_at "rd"
           refine aQ k1 (v:=.ref r1) (aG (j:=0) rfl) ⟨_,rfl,r,_,rfl,s10.seq yr,fun b1 hb1=>?_⟩
           rw [oT,← List.map_take]
           generalize e2:upd H9 b1 _=J1
           have t2:=gL e2 hb1
           refine ⟨_,_,fV (.of (t2 _ _ yr1)),fV (.of (gLa e2)),oE _,oE _,?_⟩
           rw [eqv_refl]
           refine ⟨_,rfl,(if_neg (by decide)).mpr ?_⟩
           have k2:=t2.c9 k1
           have ys2:=t2 _ _ ys1
           refine aQ k2 (v:=.ref s1) (aG (j:=1) rfl) (aQ k2 (v:=.ref s1) (aG (j:=1) rfl) ⟨s1,_,rfl,.inl (.of ys2),_,rfl,sd,_,rfl,(s10.trans t2).seq ys,fun b2 hb2=>?_⟩)
           rw [oT,← List.map_take,List.length_map,← ltk]
           generalize e3:upd J1 b2 _=J2
           have t3:=gL e3 hb2
           refine ⟨_,_,fV (.of (t3 _ _ ys2)),fV (.of (gLa e3)),oE _,oE _,?_⟩
           rw [eqv_refl]
           refine ⟨_,rfl,(if_neg (by decide)).mpr ?_⟩
           have k3:=t3.c9 k2
           refine aQ k3 (v:=.ref e1) (aG (j:=2) rfl) fun b3 hb3=>?_
           generalize e4:upd J2 b3 _=J3
           have t4:=gT e4 hb3
           have t24:=t2.trans (t3.trans t4)
           refine ⟨_,_,Rep.a8.mpr ⟨e1,_,rfl,t24.c9 ke1,sL .on⟩,(gTr e4 hb3 (.cons rS .nil):Rep K J3 (.tup (kT .on)) (.ref b3)),xy .on,xy .on,?_⟩
           rw [eqv_refl]
           exact ⟨_,rfl,(if_neg (by decide)).mpr (dn _ _ ⟨_,_,rfl,sy.trans (s9.trans t24)⟩)⟩
         · obtain ⟨z,y9,rfl,sy⟩:=(hPw _ _ _).mp hv
           exact done _ _ ⟨_,_,_,_,_,_,_,_,_,rfl,s6.trans (sx8.trans sy) |> sH.trans⟩
       refine dM (fun h0=>rest z8 H6 (.refl _)) (fun h0=>?_)
       obtain ⟨x,ea,ex,rfl,ke⟩:∃ x ea,e=some x∧ev=.ref ea∧SqT K H6 ea (C3 x):=by
         cases e with
         | none=>exact absurd ye h0
         | some x=>obtain ⟨ea,h1,h2⟩:=ye; exact ⟨x,ea,rfl,h1,h2⟩
       refine hG fun U hU=>?_
       walk_at "rd"
       refine ⟨r,_,rfl,.inl yr,r,_,rfl,.inl yr,fun BL hBL=>⟨⟨_,.of ar⟩,hU _ _ ?_⟩⟩
       clear hU
       rw [List.length_map]
       generalize e1:upd H6 BL _=H7
       have t1:=gL e1 hBL
       have yB:=gLa e1
       clear e1 hBL
       obtain ⟨Pw,hPw⟩:∃ Pw:Nat→St→Hp→Prop,∀ j σ Hy,Pw j σ Hy↔∃ z:Option V,σ=[some (V.ref a),some (V.int cell),some (V.int way),some v,some (V.ref fl),some (V.ref r),some (V.ref sd),some (V.ref ea),z,z9]∧aC H7 Hy:=⟨_,fun _ _ _=>Iff.rfl⟩
       refine g9 (K:=K) (a:=BL) Pw ((hPw _ _ _).mpr ⟨_,rfl,.refl _⟩) (fun j σ Hy hj hv=>by obtain ⟨_,_,s⟩:=(hPw _ _ _).mp hv; exact .of (s _ _ yB)) (fun j y σ Hy hy hv=>?_) (fun σ Hy hv=>?_)
       · obtain ⟨z,rfl,sy⟩:=(hPw _ _ _).mp hv
         clear hv
         obtain ⟨bd,rfl,lb,lb2⟩:∃ bd:Nat,y=V.int bd∧rows.length≤bd∧bd≤20000:=by
           match j,hy with
           | 0,hy=>cases hy; exact ⟨rows.length,rfl,Nat.le_refl _,by lia⟩
           | 1,hy=>cases hy; exact ⟨rows.length + 1,rfl,by lia,by lia⟩
           | 2,hy=>cases hy; exact ⟨999,rfl,by lia,by lia⟩
         simp only [eu,List.set]
         have sx:=t1.trans sy
         walk_at "rd"
         refine ⟨v,fl,pr,aJ,bd,rfl,dr,rv.mono sx,sx.seq yf,by have:=kn.fl; lia,lb2,fun q1 r1 s1 e1 H8 s8 k1 hr1 hs1 m1 yr1 ys1 ke1=>?_⟩
         rw [kn.whole x ex bd lb] at yr1 ys1 ke1
         walk_at "rd"
         intro b1 hb1
         generalize e2:upd H8 b1 _=H9
         have t2:=gT e2 hb1
         have s9:=sx.trans (s8.trans t2)
         refine ⟨_,_,(rK (K:=K) ⟨r1,s1,e1,k1,yr1,ys1,m1,ke1⟩).mono t2,rN (x:=x) (.of (gTa e2)) (s9.seq yr) (s9.seq ys) (Rep.a8.mpr ⟨ea,_,rfl,s9.c9 ke,sL x⟩),iN _,iN ⟨rows,said,x⟩,?_⟩
         rw [eqv_refl]
         exact ⟨_,rfl,(if_neg (by decide)).mpr ((hPw _ _ _).mpr ⟨_,rfl,sy.trans (s8.trans t2)⟩)⟩
       · obtain ⟨z,rfl,sy⟩:=(hPw _ _ _).mp hv
         exact rest z Hy (t1.trans sy)
     walk_at "rd"
     have fin:∀ {L:Addr} {H6:Hp} {pr:PG.Prog} {aJ rows said:List Int} {e:Option PG.ck},rows.length≤900→aC H' H6→GL K H6 L pr aJ rows said e→Known pr aJ rows said e→∃ a_1 xs,V.ref L=V.ref a_1∧SqL K H6 a_1 xs∧xs.length=5∧∃ v r,xs=v :: r∧∃ v_1 r_1,r=v_1 :: r_1∧∃ v_2 r,r_1=v_2 :: r∧∃ v_3 r_2,r=v_3 :: r_2∧∃ v_4 r,r_2=v_4 :: r∧r=[]∧
         V2 [some (V.ref a),some (V.int cell),some (V.int way),some v,some v_1,some v_2,some v_3,some v_4,z8,z9] H6:=by
       rintro L H6 pr aJ rows said e lr s6 ⟨v,fl,r,sd,ev,yL,rv,yf,yr,ys,ye⟩ kn
       exact ⟨L,_,rfl,yL,rfl,_,_,rfl,_,_,rfl,_,_,rfl,_,_,rfl,_,_,rfl,rfl,cont H6 L pr aJ rows said e v fl r sd ev lr s6 rv yf yr ys ye kn⟩
     refine dM (fun _=>⟨cell,rfl,fun L H6 pr aJ rows said e lr s6 kt kn=>fin lr s6 kt kn⟩) (fun _=>dM (fun _=>⟨cell,rfl,fun L H6 pr aJ rows said e lr s6 kt kn=>fin lr s6 kt kn⟩) (fun _=>dM (fun _=>⟨cell,rfl,fun L H6 pr aJ rows said e lr s6 kt kn=>fin lr s6 kt kn⟩) (fun _=>⟨cell,rfl,fun L H6 sz k n hn z1 z2 m1 m2 s6 kt=>fin ?_ s6 kt (E5 hn z1 z2 m1 m2)⟩)))
     rw [dB,hn]
     decide
   · refine (hU2 _ _).mpr ?_
     walk_at "rd"
     exact q _
 refine ⟨_,rfl,a,_,rfl,hS,fun S hS2=>?_⟩
 rw [Cq ns h63]
 generalize e1:upd H S _=H1
 have s1:=gL e1 hS2
 refine ⟨S,ns,rfl,.of (gLa e1),_,9,rfl,by decide,by decide,fun n1 hn1=>?_⟩
 walk_at "rd"
 refine dM (fun h2=>?_) (fun h2=>(if_neg Bool.false_ne_true).mpr (next _ s1))
 refine ⟨_,rfl,a,_,rfl,s1.seq hS,fun S2 hS3=>?_⟩
 rw [Cq ns h63]
 generalize e2:upd H1 S2 _=H2
 have s2:=gL e2 hS3
 exact ⟨S2,ns,rfl,.of (gLa e2),_,rfl,fun H3 s3=>⟨true,rfl,(if_neg (by decide)).mpr (next _ (s1.trans (s2.trans s3)))⟩⟩
end
end K18
end
section
set_option maxHeartbeats 4000000
namespace K18
open PySem L2
section
variable {P:Program} {w:World} {K:PySem.W.Frag} {mg:Str→Option Value} {base:Heap}
theorem all_mk {l:PySem.W.OpenLaw} {h:Heap} {fa:Addr} (X:K.In h) (G:h.Ns mainGlobals mg) (hfa:mg "law"=some (.ref fa))
   {jG:Addr} {E6 AA:Option Addr} {E7:Array (Option Value)} {E8 AB AD AE vR AF:Value}
   {bN:Addr} {rg kh:Option Addr} {rh:Array (Option Value)} {ri ki kj kl gg km:Value}
   {bY:Addr} {vS oV:Option Addr} {vT:Array (Option Value)} {vU oW oX oY jL oZ:Value}
   {cF:Addr} {tj k7:Option Addr} {tm:Array (Option Value)} {tq k8 la lg ig lh:Value}
   {eW:Addr} {zh tw:Option Addr} {zi:Array (Option Value)} {zj tD tE tF nL tG:Value}
   {cZ:Addr} {vV o6:Option Addr} {vW:Array (Option Value)} {vX o7 o8 o9 jM pb:Value}
   {bt:Addr} {qb jr:Option Addr} {qc:Array (Option Value)} {qd js jt ju fM jv:Value}
   {gS:Addr} {Dz xN:Option Addr} {DA:Array (Option Value)} {DB xO xP xQ tH xR:Value}
   {fJ:Addr} {zk tI:Option Addr} {zl:Array (Option Value)} {zm tJ tK tL nM tM:Value}
   {eM:Addr} {xS qH:Option Addr} {xT:Array (Option Value)} {xU qI qJ qK lp qL:Value}
   {eN:Addr} {xV qM:Option Addr} {xW:Array (Option Value)} {xX qN qO qP lq qQ:Value}
   {jH:Addr} {DC xY:Option Addr} {DD:Array (Option Value)} {DE xZ x9 ya tN yb:Value}
   {sQ:Addr} {G0 DF:Option Addr} {G1:Array (Option Value)} {G2 DG DH DI zo DJ:Value}
   {fK:Addr} {zp tO:Option Addr} {zq:Array (Option Value)} {zr tP tQ tR nN tS:Value}
   {bI:Addr} {mz gD:Option Addr} {mB:Array (Option Value)} {mC gE gF gG eD gH:Value}
   {dP:Addr} {vY pd:Option Addr} {vZ:Array (Option Value)} {v7 pe pf ph jN pj:Value}
   {cK:Addr} {rj ko:Option Addr} {rn:Array (Option Value)} {ro kr kx ky gh kz:Value}
   {du:Addr} {ur mR:Option Addr} {uv:Array (Option Value)} {uw mS mT mU i3 mV:Value}
   {cL:Addr} {rq kA:Option Addr} {rA:Array (Option Value)} {rB kB kC kD gi kE:Value}
   {dv:Addr} {ux mW:Option Addr} {uy:Array (Option Value)} {uz mX mY mZ i4 m3:Value}
   {c7:Addr} {tT lA:Option Addr} {tU:Array (Option Value)} {tV lD lE lF ij lG:Value}
   {bO:Addr} {nO ik:Option Addr} {nP:Array (Option Value)} {nQ il ip iq eP iu:Value}
   {vd:Addr} {G3 DK:Option Addr} {G4:Array (Option Value)} {G5 DL DM DN zt DO:Value}
   {aI:Addr}
   {cC:Addr} {uB m4:Option Addr} {uC:Array (Option Value)} {uD m5 m6 m7 i5 m8:Value}
   {bz:Addr}
   {c5:Addr} {v8 pk:Option Addr} {v9:Array (Option Value)} {wb pq px pz jO pA:Value}
   {bg:Addr} {lH fY:Option Addr} {lI:Array (Option Value)} {lJ fZ gb gc dS gd:Value}
   {bE:Addr} {pB iR:Option Addr} {pC:Array (Option Value)} {pE iS iT iU fo iV:Value}
   {cD:Addr} {uF m9:Option Addr} {uG:Array (Option Value)} {uH ng nh ni i6 nj:Value}
   {IH:_}
   (zu:PySem.W.nsIn K mainGlobals "flow"=some (some (.ref jG)))
   (zv:K.lookup jG=some ⟨E8,E6,.func (PySem.W.fnOf "flow" "flow" (aH jF) (aD jF) (ak jF) .none AB AD AE AA vR AF),E7⟩)
   (zw:PySem.W.codeIn K vR "flow"=true)
   (zx:PySem.W.keepIn K (.ref jG)=true)
   (iw:PySem.W.nsIn K mainGlobals "flow_of_body"=some (some (.ref bN)))
   (iy:K.lookup bN=some ⟨ri,rg,.func (PySem.W.fnOf "flow_of_body" "flow_of_body" (aH bK) (aD bK) (ak bK) .none ki kj kl kh gg km),rh⟩)
   (iz:PySem.W.codeIn K gg "flow_of_body"=true)
   (iA:PySem.W.keepIn K (.ref bN)=true)
   (lK:PySem.W.nsIn K mainGlobals "first_row"=some (some (.ref bY)))
   (lL:K.lookup bY=some ⟨vU,vS,.func (PySem.W.fnOf "first_row" "first_row" (aH cV) (aD cV) (ak cV) .none oW oX oY oV jL oZ),vT⟩)
   (lM:PySem.W.codeIn K jL "first_row"=true)
   (lN:PySem.W.keepIn K (.ref bY)=true)
   (i7:PySem.W.nsIn K mainGlobals "behind_body"=some (some (.ref cF)))
   (i8:K.lookup cF=some ⟨tq,tj,.func (PySem.W.fnOf "behind_body" "behind_body" (aH bW) (aD bW) (ak bW) .none k8 la lg k7 ig lh),tm⟩)
   (i9:PySem.W.codeIn K ig "behind_body"=true)
   (ja:PySem.W.keepIn K (.ref cF)=true)
   (qe:PySem.W.nsIn K mainGlobals "ways_of"=some (some (.ref eW)))
   (qf:K.lookup eW=some ⟨zj,zh,.func (PySem.W.fnOf "ways_of" "ways_of" (aH dY) (aD dY) (ak dY) .none tD tE tF tw nL tG),zi⟩)
   (qg:PySem.W.codeIn K nL "ways_of"=true)
   (qh:PySem.W.keepIn K (.ref eW)=true)
   (lO:PySem.W.nsIn K mainGlobals "bodies_in"=some (some (.ref cZ)))
   (lP:K.lookup cZ=some ⟨vX,vV,.func (PySem.W.fnOf "bodies_in" "bodies_in" (aH cW) (aD cW) (ak cW) .none o7 o8 o9 o6 jM pb),vW⟩)
   (lQ:PySem.W.codeIn K jM "bodies_in"=true)
   (lR:PySem.W.keepIn K (.ref cZ)=true)
   (gk:PySem.W.nsIn K mainGlobals "statements_in"=some (some (.ref bt)))
   (gm:K.lookup bt=some ⟨qd,qb,.func (PySem.W.fnOf "statements_in" "statements_in" (aH bH) (aD bH) (ak bH) .none js jt ju jr fM jv),qc⟩)
   (gn:PySem.W.codeIn K fM "statements_in"=true)
   (gp:PySem.W.keepIn K (.ref bt)=true)
   (wc:PySem.W.nsIn K mainGlobals "worth"=some (some (.ref gS)))
   (we:K.lookup gS=some ⟨DB,Dz,.func (PySem.W.fnOf "worth" "worth" (aH gP) (aD gP) (ak gP) .none xO xP xQ xN tH xR),DA⟩)
   (wg:PySem.W.codeIn K tH "worth"=true)
   (wj:PySem.W.keepIn K (.ref gS)=true)
   (qj:PySem.W.nsIn K mainGlobals "word_at"=some (some (.ref fJ)))
   (qk:K.lookup fJ=some ⟨zm,zk,.func (PySem.W.fnOf "word_at" "word_at" (aH dZ) (aD dZ) (ak dZ) .none tJ tK tL tI nM tM),zl⟩)
   (ql:PySem.W.codeIn K nM "word_at"=true)
   (qm:PySem.W.keepIn K (.ref fJ)=true)
   (nR:PySem.W.nsIn K mainGlobals "by_names"=some (some (.ref eM)))
   (nT:K.lookup eM=some ⟨xU,xS,.func (PySem.W.fnOf "by_names" "by_names" (aH dk) (aD dk) (ak dk) .none qI qJ qK qH lp qL),xT⟩)
   (nU:PySem.W.codeIn K lp "by_names"=true)
   (nV:PySem.W.keepIn K (.ref eM)=true)
   (nW:PySem.W.nsIn K mainGlobals "in_order"=some (some (.ref eN)))
   (nX:K.lookup eN=some ⟨xX,xV,.func (PySem.W.fnOf "in_order" "in_order" (aH dq) (aD dq) (ak dq) .none qN qO qP qM lq qQ),xW⟩)
   (nY:PySem.W.codeIn K lq "in_order"=true)
   (nZ:PySem.W.keepIn K (.ref eN)=true)
   (wm:PySem.W.nsIn K mainGlobals "holds"=some (some (.ref jH)))
   (wt:K.lookup jH=some ⟨DE,DC,.func (PySem.W.fnOf "holds" "holds" (aH gQ) (aD gQ) (ak gQ) .none xZ x9 ya xY tN yb),DD⟩)
   (wu:PySem.W.codeIn K tN "holds"=true)
   (wx:PySem.W.keepIn K (.ref jH)=true)
   (DP:PySem.W.nsIn K mainGlobals "run"=some (some (.ref sQ)))
   (DQ:K.lookup sQ=some ⟨G2,G0,.func (PySem.W.fnOf "run" "run" (aH oF) (aD oF) (ak oF) .none DG DH DI DF zo DJ),G1⟩)
   (DR:PySem.W.codeIn K zo "run"=true)
   (DS:PySem.W.keepIn K (.ref sQ)=true)
   (qo:PySem.W.nsIn K mainGlobals "step_by"=some (some (.ref fK)))
   (qp:K.lookup fK=some ⟨zr,zp,.func (PySem.W.fnOf "step_by" "step_by" (aH d7) (aD d7) (ak d7) .none tP tQ tR tO nN tS),zq⟩)
   (qr:PySem.W.codeIn K nN "step_by"=true)
   (qt:PySem.W.keepIn K (.ref fK)=true)
   (eQ:PySem.W.nsIn K mainGlobals "behind_condition"=some (some (.ref bI)))
   (eR:K.lookup bI=some ⟨mC,mz,.func (PySem.W.fnOf "behind_condition" "behind_condition" (aH bq) (aD bq) (ak bq) .none gE gF gG gD eD gH),mB⟩)
   (eS:PySem.W.codeIn K eD "behind_condition"=true)
   (eT:PySem.W.keepIn K (.ref bI)=true)
   (lS:PySem.W.nsIn K mainGlobals "_law_stir"=some (some (.ref dP)))
   (lT:K.lookup dP=some ⟨v7,vY,.func (PySem.W.fnOf "_law_stir" "_law_stir" (aH cX) (aD cX) (ak cX) .none pe pf ph pd jN pj),vZ⟩)
   (lU:PySem.W.codeIn K jN "_law_stir"=true)
   (lV:PySem.W.keepIn K (.ref dP)=true)
   (iB:PySem.W.nsIn K mainGlobals "_law_counted"=some (some (.ref cK)))
   (iC:K.lookup cK=some ⟨ro,rj,.func (PySem.W.fnOf "_law_counted" "_law_counted" (aH bL) (aD bL) (ak bL) .none kr kx ky ko gh kz),rn⟩)
   (iD:PySem.W.codeIn K gh "_law_counted"=true)
   (iE:PySem.W.keepIn K (.ref cK)=true)
   (jP:PySem.W.nsIn K mainGlobals "_law_added"=some (some (.ref du)))
   (jQ:K.lookup du=some ⟨uw,ur,.func (PySem.W.fnOf "_law_added" "_law_added" (aH cw) (aD cw) (ak cw) .none mS mT mU mR i3 mV),uv⟩)
   (jR:PySem.W.codeIn K i3 "_law_added"=true)
   (jS:PySem.W.keepIn K (.ref du)=true)
   (iF:PySem.W.nsIn K mainGlobals "_law_failing"=some (some (.ref cL)))
   (iG:K.lookup cL=some ⟨rB,rq,.func (PySem.W.fnOf "_law_failing" "_law_failing" (aH bM) (aD bM) (ak bM) .none kB kC kD kA gi kE),rA⟩)
   (iH:PySem.W.codeIn K gi "_law_failing"=true)
   (iI:PySem.W.keepIn K (.ref cL)=true)
   (jT:PySem.W.nsIn K mainGlobals "_law_round"=some (some (.ref dv)))
   (jU:K.lookup dv=some ⟨uz,ux,.func (PySem.W.fnOf "_law_round" "_law_round" (aH cy) (aD cy) (ak cy) .none mX mY mZ mW i4 m3),uy⟩)
   (jV:PySem.W.codeIn K i4 "_law_round"=true)
   (jW:PySem.W.keepIn K (.ref dv)=true)
   (jb:PySem.W.nsIn K mainGlobals "_law_nested"=some (some (.ref c7)))
   (jc:K.lookup c7=some ⟨tV,tT,.func (PySem.W.fnOf "_law_nested" "_law_nested" (aH bX) (aD bX) (ak bX) .none lD lE lF lA ij lG),tU⟩)
   (jd:PySem.W.codeIn K ij "_law_nested"=true)
   (je:PySem.W.keepIn K (.ref c7)=true)
   (fq:PySem.W.nsIn K mainGlobals "_law_long_right"=some (some (.ref bO)))
   (fw:K.lookup bO=some ⟨nQ,nO,.func (PySem.W.fnOf "_law_long_right" "_law_long_right" (aH bA) (aD bA) (ak bA) .none il ip iq ik eP iu),nP⟩)
   (fz:PySem.W.codeIn K eP "_law_long_right"=true)
   (fA:PySem.W.keepIn K (.ref bO)=true)
   (AG:PySem.W.nsIn K mainGlobals "law"=some (some (.ref vd)))
   (DT:K.lookup vd=some ⟨G5,G3,.func (PySem.W.fnOf "law" "law" (aH oG) (aD oG) (ak oG) .none DL DM DN DK zt DO),G4⟩)
   (DU:PySem.W.codeIn K zt "law"=true)
   (DV:PySem.W.keepIn K (.ref vd)=true)
   (wz:PySem.W.nsIn K mainGlobals "Chart"=some (some (.ref aI)))
   (tW:PySem.W.plainGet K aI Str.empty=true)
   (tX:PySem.W.hasDictIn K aI=true)
   (tY:PySem.W.plainOver K aI=true)
   (tZ:PySem.W.findIn K (.ref aI) "__setattr__"=some (some (.builtin "object.__setattr__")))
   (jX:PySem.W.findIn K (.ref aI) "__init__"=some (some (.ref cC)))
   (jY:K.lookup cC=some ⟨uD,uB,.func (PySem.W.fnOf "__init__" "Chart.__init__" (aH cA) (aD cA) (ak cA) .none m5 m6 m7 m4 i5 m8),uC⟩)
   (jZ:PySem.W.codeIn K i5 "Chart.__init__"=true)
   (j0:PySem.W.keepIn K (.ref cC)=true)
   (j3:PySem.W.isFn K (.ref cC)=true)
   (kZ:PySem.W.makesIn K aI=true)
   (ua:PySem.W.keepIn K (.ref aI)=true)
   (cN:PySem.W.findIn K (.ref aI) "names"=some none)
   (cO:PySem.W.findIn K (.ref aI) "sizes"=some none)
   (dh:PySem.W.findIn K (.ref aI) "first"=some none)
   (bw:PySem.W.findIn K (.ref aI) "statements"=some none)
   (cG:PySem.W.findIn K (.ref aI) "ways"=some none)
   (zy:PySem.W.nsIn K mainGlobals "Walk"=some (some (.ref bz)))
   (wA:PySem.W.plainGet K bz Str.empty=true)
   (wB:PySem.W.hasDictIn K bz=true)
   (wC:PySem.W.plainOver K bz=true)
   (wD:PySem.W.findIn K (.ref bz) "__setattr__"=some (some (.builtin "object.__setattr__")))
   (lW:PySem.W.findIn K (.ref bz) "__init__"=some (some (.ref c5)))
   (lX:K.lookup c5=some ⟨wb,v8,.func (PySem.W.fnOf "__init__" "Walk.__init__" (aH cY) (aD cY) (ak cY) .none pq px pz pk jO pA),v9⟩)
   (lY:PySem.W.codeIn K jO "Walk.__init__"=true)
   (lZ:PySem.W.keepIn K (.ref c5)=true)
   (l0:PySem.W.isFn K (.ref c5)=true)
   (oO:PySem.W.makesIn K bz=true)
   (wF:PySem.W.keepIn K (.ref bz)=true)
   (eE:PySem.W.findIn K (.ref bz) "look_for_end"=some (some (.ref bg)))
   (eF:K.lookup bg=some ⟨lJ,lH,.func (PySem.W.fnOf "look_for_end" "Walk.look_for_end" (aH bf) (aD bf) (ak bf) .none fZ gb gc fY dS gd),lI⟩)
   (eG:PySem.W.codeIn K dS "Walk.look_for_end"=true)
   (dc:PySem.W.keepIn K (.ref bg)=true)
   (eI:PySem.W.isFn K (.ref bg)=true)
   (fN:PySem.W.findIn K (.ref bz) "is_at_ask"=some (some (.ref bE)))
   (fO:K.lookup bE=some ⟨pE,pB,.func (PySem.W.fnOf "is_at_ask" "Walk.is_at_ask" (aH bD) (aD bD) (ak bD) .none iS iT iU iR fo iV),pC⟩)
   (fP:PySem.W.codeIn K fo "Walk.is_at_ask"=true)
   (el:PySem.W.keepIn K (.ref bE)=true)
   (fQ:PySem.W.isFn K (.ref bE)=true)
   (j4:PySem.W.findIn K (.ref bz) "go_on"=some (some (.ref cD)))
   (j5:K.lookup cD=some ⟨uH,uF,.func (PySem.W.fnOf "go_on" "Walk.go_on" (aH cB) (aD cB) (ak cB) .none ng nh ni m9 i6 nj),uG⟩)
   (j6:PySem.W.codeIn K i6 "Walk.go_on"=true)
   (g7:PySem.W.keepIn K (.ref cD)=true)
   (j7:PySem.W.isFn K (.ref cD)=true)
   (c8:PySem.W.findIn K (.ref bz) "chart"=some none)
   (cn:PySem.W.findIn K (.ref bz) "figures"=some none)
   (cH:PySem.W.findIn K (.ref bz) "taken"=some none)
   (bh:PySem.W.findIn K (.ref bz) "standing"=some none)
   (bQ:PySem.W.findIn K (.ref bz) "end"=some none)
   (DW:PySem.W.nsIn K mainGlobals "END"=some (some (.int 0 IH)))
   (gC:PySem.W.nsIn K mainGlobals "len"=some none)
   (gY:PySem.W.nsIn K mainGlobals "range"=some none)
   (k4:PySem.W.nsIn K mainGlobals "dict"=some none)
   (mw:PySem.W.nsIn K mainGlobals "tuple"=some none)
   (sT:PySem.W.nsIn K mainGlobals "sum"=some none)
   (fX:PySem.W.nsIn K mainGlobals "enumerate"=some none)
   (xE:PySem.W.nsIn K mainGlobals "zip"=some none)
   : ∃ fd:FuncData,(∀ (s:Shared) (v:Value),BindsTo s fd ⟨[v],[]⟩ [("script",v)])∧∀ base:Heap,K.In base→base.Ns mainGlobals mg→bP l.prog w K mg base CX0 30 fa fd ["script"] (Af K):=by
 have e:=hfa.symm.trans (PySem.W.mg_of X G AG)
 cases e
 have DX:=bR (st:=jF) zv zw zx
 have G6:=DX.binds (ps:=["program"]) fun _ _ _ _ _ _ us hl=>match us,hl with | [_],_=>rfl
 have l5:=bR (st:=bK) iy iz iA
 have ub:=l5.binds (ps:=["body", "behind"]) fun _ _ _ _ _ _ us hl=>match us,hl with | [_,_],_=>rfl
 have qR:=bR (st:=cV) lL lM lN
 have yc:=qR.binds (ps:=["body", "behind"]) fun _ _ _ _ _ _ us hl=>match us,hl with | [_,_],_=>rfl
 have nr:=bR (st:=bW) i8 i9 ja
 have uI:=nr.binds (ps:=["statement", "after"]) fun _ _ _ _ _ _ us hl=>match us,hl with | [_,_],_=>rfl
 have vi:=bR (st:=dY) qf qg qh
 have Bv:=vi.binds (ps:=["statement", "after"]) fun _ _ _ _ _ _ us hl=>match us,hl with | [_,_],_=>rfl
 have qS:=bR (st:=cW) lP lQ lR
 have yd:=qS.binds (ps:=["statement"]) fun _ _ _ _ _ _ us hl=>match us,hl with | [_],_=>rfl
 have kF:=bR (st:=bH) gm gn gp
 have rC:=kF.binds (ps:=["body"]) fun _ _ _ _ _ _ us hl=>match us,hl with | [_],_=>rfl
 have AH:=bR (st:=gP) we wg wj
 have E9:=AH.binds (ps:=["e", "values"]) fun _ _ _ _ _ _ us hl=>match us,hl with | [_,_],_=>rfl
 have vj:=bR (st:=dZ) qk ql qm
 have Bw:=vj.binds (ps:=["chart", "row"]) fun _ _ _ _ _ _ us hl=>match us,hl with | [_,_],_=>rfl
 have uc:=bR (st:=dk) nT nU nV
 have zz:=uc.binds (ps:=["chart", "parts"]) fun _ _ _ _ _ _ us hl=>match us,hl with | [_,_],_=>rfl
 have ud:=bR (st:=dq) nX nY nZ
 have zF:=ud.binds (ps:=["chart", "named"]) fun _ _ _ _ _ _ us hl=>match us,hl with | [_,_],_=>rfl
 have AI:=bR (st:=gQ) wt wu wx
 have Fb:=AI.binds (ps:=["chart", "standing"]) fun _ _ _ _ _ _ us hl=>match us,hl with | [_,_],_=>rfl
 have FE:=bR (st:=oF) DQ DR DS
 have II:=FE.binds (ps:=["program", "figures", "bound"]) fun _ _ _ _ _ _ us hl=>match us,hl with | [_,_,_],_=>rfl
 have vk:=bR (st:=d7) qp qr qt
 have Bx:=vk.binds (ps:=["chart", "standing", "figure"]) fun _ _ _ _ _ _ us hl=>match us,hl with | [_,_,_],_=>rfl
 have iJ:=bR (st:=bq) eR eS eT
 have n9:=iJ.binds (ps:=["chart", "standing"]) fun _ _ _ _ _ _ us hl=>match us,hl with | [_,_],_=>rfl
 have qT:=bR (st:=cX) lT lU lV
 have yg:=qT.binds (ps:=["cell", "k"]) fun _ _ _ _ _ _ us hl=>match us,hl with | [_,_],_=>rfl
 have l7:=bR (st:=bL) iC iD iE
 have ue:=l7.binds (ps:=["cell"]) fun _ _ _ _ _ _ us hl=>match us,hl with | [_],_=>rfl
 have pF:=bR (st:=cw) jQ jR jS
 have wG:=pF.binds (ps:=["cell"]) fun _ _ _ _ _ _ us hl=>match us,hl with | [_],_=>rfl
 have l9:=bR (st:=bM) iG iH iI
 have uf:=l9.binds (ps:=["cell"]) fun _ _ _ _ _ _ us hl=>match us,hl with | [_],_=>rfl
 have pG:=bR (st:=cy) jU jV jW
 have wH:=pG.binds (ps:=["cell"]) fun _ _ _ _ _ _ us hl=>match us,hl with | [_],_=>rfl
 have nu:=bR (st:=bX) jc jd je
 have uJ:=nu.binds (ps:=["cell"]) fun _ _ _ _ _ _ us hl=>match us,hl with | [_],_=>rfl
 have iW:=bR (st:=bA) fw fz fA
 have pH:=iW.binds (ps:=["cell"]) fun _ _ _ _ _ _ us hl=>match us,hl with | [_],_=>rfl
 have FF:=bR (st:=oG) DT DU DV
 have IJ:=FF.binds (ps:=["script"]) fun _ _ _ _ _ _ us hl=>match us,hl with | [_],_=>rfl
 have gW:=bR (st:=cA) jY jZ j0
 have wI:=gW.binds (ps:=["self", "program"]) fun _ _ _ _ _ _ us hl=>match us,hl with | [_,_],_=>rfl
 have iP:=bR (st:=cY) lX lY lZ
 have yh:=iP.binds (ps:=["self", "chart", "figures"]) fun _ _ _ _ _ _ us hl=>match us,hl with | [_,_,_],_=>rfl
 have da:=bR (st:=bf) eF eG dc
 have mD:=da.binds (ps:=["self"]) fun _ _ _ _ _ _ us hl=>match us,hl with | [_],_=>rfl
 have ef:=bR (st:=bD) fO fP el
 have qu:=ef.binds (ps:=["self"]) fun _ _ _ _ _ _ us hl=>match us,hl with | [_],_=>rfl
 have gX:=bR (st:=cB) j5 j6 g7
 have wJ:=gX.binds (ps:=["self"]) fun _ _ _ _ _ _ us hl=>match us,hl with | [_],_=>rfl
 let t:Ad:=⟨jG,
   PySem.W.fnOf "flow" "flow" (aH jF) (aD jF) (ak jF) .none AB AD AE AA vR AF,
   bN,
   PySem.W.fnOf "flow_of_body" "flow_of_body" (aH bK) (aD bK) (ak bK) .none ki kj kl kh gg km,
   bY,
   PySem.W.fnOf "first_row" "first_row" (aH cV) (aD cV) (ak cV) .none oW oX oY oV jL oZ,
   cF,
   PySem.W.fnOf "behind_body" "behind_body" (aH bW) (aD bW) (ak bW) .none k8 la lg k7 ig lh,
   eW,
   PySem.W.fnOf "ways_of" "ways_of" (aH dY) (aD dY) (ak dY) .none tD tE tF tw nL tG,
   cZ,
   PySem.W.fnOf "bodies_in" "bodies_in" (aH cW) (aD cW) (ak cW) .none o7 o8 o9 o6 jM pb,
   bt,
   PySem.W.fnOf "statements_in" "statements_in" (aH bH) (aD bH) (ak bH) .none js jt ju jr fM jv,
   gS,
   PySem.W.fnOf "worth" "worth" (aH gP) (aD gP) (ak gP) .none xO xP xQ xN tH xR,
   fJ,
   PySem.W.fnOf "word_at" "word_at" (aH dZ) (aD dZ) (ak dZ) .none tJ tK tL tI nM tM,
   eM,
   PySem.W.fnOf "by_names" "by_names" (aH dk) (aD dk) (ak dk) .none qI qJ qK qH lp qL,
   eN,
   PySem.W.fnOf "in_order" "in_order" (aH dq) (aD dq) (ak dq) .none qN qO qP qM lq qQ,
   jH,
   PySem.W.fnOf "holds" "holds" (aH gQ) (aD gQ) (ak gQ) .none xZ x9 ya xY tN yb,
   sQ,
   PySem.W.fnOf "run" "run" (aH oF) (aD oF) (ak oF) .none DG DH DI DF zo DJ,
   fK,
   PySem.W.fnOf "step_by" "step_by" (aH d7) (aD d7) (ak d7) .none tP tQ tR tO nN tS,
   bI,
   PySem.W.fnOf "behind_condition" "behind_condition" (aH bq) (aD bq) (ak bq) .none gE gF gG gD eD gH,
   dP,
   PySem.W.fnOf "_law_stir" "_law_stir" (aH cX) (aD cX) (ak cX) .none pe pf ph pd jN pj,
   cK,
   PySem.W.fnOf "_law_counted" "_law_counted" (aH bL) (aD bL) (ak bL) .none kr kx ky ko gh kz,
   du,
   PySem.W.fnOf "_law_added" "_law_added" (aH cw) (aD cw) (ak cw) .none mS mT mU mR i3 mV,
   cL,
   PySem.W.fnOf "_law_failing" "_law_failing" (aH bM) (aD bM) (ak bM) .none kB kC kD kA gi kE,
   dv,
   PySem.W.fnOf "_law_round" "_law_round" (aH cy) (aD cy) (ak cy) .none mX mY mZ mW i4 m3,
   c7,
   PySem.W.fnOf "_law_nested" "_law_nested" (aH bX) (aD bX) (ak bX) .none lD lE lF lA ij lG,
   bO,
   PySem.W.fnOf "_law_long_right" "_law_long_right" (aH bA) (aD bA) (ak bA) .none il ip iq ik eP iu,
   fa,
   PySem.W.fnOf "law" "law" (aH oG) (aD oG) (ak oG) .none DL DM DN DK zt DO,
   cC,
   PySem.W.fnOf "__init__" "Chart.__init__" (aH cA) (aD cA) (ak cA) .none m5 m6 m7 m4 i5 m8,
   c5,
   PySem.W.fnOf "__init__" "Walk.__init__" (aH cY) (aD cY) (ak cY) .none pq px pz pk jO pA,
   bg,
   PySem.W.fnOf "look_for_end" "Walk.look_for_end" (aH bf) (aD bf) (ak bf) .none fZ gb gc fY dS gd,
   bE,
   PySem.W.fnOf "is_at_ask" "Walk.is_at_ask" (aH bD) (aD bD) (ak bD) .none iS iT iU iR fo iV,
   cD,
   PySem.W.fnOf "go_on" "Walk.go_on" (aH cB) (aD cB) (ak cB) .none ng nh ni m9 i6 nj,
   aI,
   bz⟩
 have T:Tx K mg t:=⟨⟨DX,G6,PySem.W.mg_of X G zu⟩,
   ⟨l5,ub,PySem.W.mg_of X G iw⟩,
   ⟨qR,yc,PySem.W.mg_of X G lK⟩,
   ⟨nr,uI,PySem.W.mg_of X G i7⟩,
   ⟨vi,Bv,PySem.W.mg_of X G qe⟩,
   ⟨qS,yd,PySem.W.mg_of X G lO⟩,
   ⟨kF,rC,PySem.W.mg_of X G gk⟩,
   ⟨AH,E9,PySem.W.mg_of X G wc⟩,
   ⟨vj,Bw,PySem.W.mg_of X G qj⟩,
   ⟨uc,zz,PySem.W.mg_of X G nR⟩,
   ⟨ud,zF,PySem.W.mg_of X G nW⟩,
   ⟨AI,Fb,PySem.W.mg_of X G wm⟩,
   ⟨FE,II,PySem.W.mg_of X G DP⟩,
   ⟨vk,Bx,PySem.W.mg_of X G qo⟩,
   ⟨iJ,n9,PySem.W.mg_of X G eQ⟩,
   ⟨qT,yg,PySem.W.mg_of X G lS⟩,
   ⟨l7,ue,PySem.W.mg_of X G iB⟩,
   ⟨pF,wG,PySem.W.mg_of X G jP⟩,
   ⟨l9,uf,PySem.W.mg_of X G iF⟩,
   ⟨pG,wH,PySem.W.mg_of X G jT⟩,
   ⟨nu,uJ,PySem.W.mg_of X G jb⟩,
   ⟨iW,pH,PySem.W.mg_of X G fq⟩,
   ⟨FF,IJ,PySem.W.mg_of X G AG⟩,
   gW,
   wI,
   iP,
   yh,
   da,
   mD,
   ⟨eE,eI,dc⟩,
   ef,
   qu,
   ⟨fN,fQ,el⟩,
   gX,
   wJ,
   ⟨j4,j7,g7⟩,
   ⟨tW,tX,tY,tZ⟩,
   PySem.W.mg_of X G wz,
   ⟨kZ,jX,j3,ua⟩,
   cN,
   cO,
   dh,
   bw,
   cG,
   ⟨wA,wB,wC,wD⟩,
   PySem.W.mg_of X G zy,
   ⟨oO,lW,l0,wF⟩,
   c8,
   cn,
   cH,
   bh,
   bQ,
   ⟨_,PySem.W.mg_of X G DW,_,rfl⟩,
   PySem.W.mg_none_of X G gC,
   PySem.W.mg_none_of X G gY,
   PySem.W.mg_none_of X G k4,
   PySem.W.mg_none_of X G mw,
   PySem.W.mg_none_of X G sT,
   PySem.W.mg_none_of X G fX,
   PySem.W.mg_none_of X G xE⟩
 refine ⟨t.yX,?_,fun base _ _=>GZ T⟩
 exact fun s v=>.of_eq rfl
theorem walk {l:PySem.W.OpenLaw} {q:Program} {loose:List Str} {XP:(Str→Option Value)→Heap→Prop} {YP:World→Heap→Prop} {d:DefRec} {K:Params→PySem.W.Frag} (hn:l.most=some 63) (hdf:d.params.defaults=[])
   (hY:∀ (w:World) (h:Heap),YP w h→(K w.params).In h)
   (F:∀ (w:World) (mg:Str→Option Value) (fa:Addr) (h:Heap),(K w.params).In h→h.Ns mainGlobals mg→mg d.name=some (.ref fa)→
     ∃ fd:FuncData,(∀ (s:Shared) (u:Value),BindsTo s fd ⟨[u],[]⟩ [("script",u)])∧∀ base:Heap,(K w.params).In base→base.Ns mainGlobals mg→bP l.prog w (K w.params) mg base CX0 30 fa fd ["script"] (Af (K w.params))) :
   PySem.W.WalkO q loose XP YP l.row.toRowW d [] (fun f vs=>PySem.call f vs):=
 L2.Ek (n:=63) (k:=30) (x:="script") (CX:=fun _=>CX0) (sp:=fun w=>Af (K w.params)) hn (by decide) hdf ⟨rfl,by decide,by decide⟩ hY F (fun _ _ a ns hl _ hS=>⟨a,ns,rfl,hS,hl,fun _=>rfl⟩) fun _ _ _ _ _ z=>z
end
end K18
end
theorem PySem.W.Fast.tw12736139242265544220 : True := trivial
theorem PySem.W.Fast.tw2389164500903040831 : True := trivial
theorem PySem.W.Fast.tw4473456472316788978 : True := trivial
theorem PySem.W.Fast.tw15561360246724808033 : True := trivial
theorem PySem.W.Fast.tw1524507269076518349 : True := trivial
theorem PySem.W.Fast.tw14406456350756577299 : True := trivial
theorem PySem.W.Fast.tw9384421063393103089 : True := trivial
theorem PySem.W.Fast.tw9971692171970803921 : True := trivial
theorem PySem.W.Fast.tw14090601782494272173 : True := trivial
theorem PySem.W.Fast.tw7945691454407459281 : True := trivial
theorem PySem.W.Fast.tw775351185948713565 : True := trivial
theorem PySem.W.Fast.tw1204041448446577233 : True := trivial
theorem PySem.W.Fast.tw16602550183345878189 : True := trivial
theorem PySem.W.Fast.tw18109765486367438839 : True := trivial
theorem PySem.W.Fast.tw14326754025753160916 : True := trivial
theorem PySem.W.Fast.tw10349592608809054376 : True := trivial
theorem PySem.W.Fast.tw495779495179779606 : True := trivial
theorem PySem.W.Fast.tw5090523061613367274 : True := trivial
theorem PySem.W.Fast.tw2461500821859022087 : True := trivial
theorem PySem.W.Fast.tw6847021079698184872 : True := trivial
theorem PySem.W.Fast.tw4684960051324735896 : True := trivial
theorem PySem.W.Fast.tw17895886349214674812 : True := trivial
theorem PySem.W.Fast.tw8932879698843272771 : True := trivial
theorem PySem.W.Fast.tw10007647784838313112 : True := trivial
theorem PySem.W.Fast.tw8493105453947468256 : True := trivial
theorem PySem.W.Fast.tw9515326482541919694 : True := trivial
theorem PySem.W.Fast.tw6197162395204852148 : True := trivial
theorem PySem.W.Fast.tw5330203127011625254 : True := trivial
theorem PySem.W.Fast.tw16296612971620723345 : True := trivial
theorem PySem.W.Fast.tw14920124566446073568 : True := trivial
open PySem PySem.W PyProof.Rows
set_option maxRecDepth 100000 in
set_option maxHeartbeats 0 in
theorem PySem.Challenge.cw_everyrow_k18_known_runs_holds : PySem.Challenge.rw_everyrow_k18_known_runs.Holds := by
 w_on; o_law; k_head; (case hw=>w_witness2)
 k_fill
 refine K18.walk (l:=PySem.Challenge.rw_everyrow_k18_known_runs) rfl rfl (fun w h Y=>PySem.W.kIn_of Y) ?F
 case F=>
   intro w mg fa h KX G hmg
   refine' K18.all_mk KX G hmg ?zu ?zv ?zw ?zx ?iw ?iy ?iz ?iA ?lK ?lL ?lM ?lN ?i7 ?i8 ?i9 ?ja ?qe ?qf ?qg ?qh ?lO ?lP ?lQ ?lR ?gk ?gm ?gn ?gp ?wc ?we ?wg ?wj ?qj ?qk ?ql ?qm ?nR ?nT ?nU ?nV ?nW ?nX ?nY ?nZ ?wm ?wt ?wu ?wx ?DP ?DQ ?DR ?DS ?qo ?qp ?qr ?qt ?eQ ?eR ?eS ?eT ?lS ?lT ?lU ?lV ?iB ?iC ?iD ?iE ?jP ?jQ ?jR ?jS ?iF ?iG ?iH ?iI ?jT ?jU ?jV ?jW ?jb ?jc ?jd ?je ?fq ?fw ?fz ?fA ?AG ?DT ?DU ?DV ?wz ?tW ?tX ?tY ?tZ ?jX ?jY ?jZ ?j0 ?j3 ?kZ ?ua ?cN ?cO ?dh ?bw ?cG ?zy ?wA ?wB ?wC ?wD ?lW ?lX ?lY ?lZ ?l0 ?oO ?wF ?eE ?eF ?eG ?dc ?eI ?fN ?fO ?fP ?el ?fQ ?j4 ?j5 ?j6 ?g7 ?j7 ?c8 ?cn ?cH ?bh ?bQ ?DW ?gC ?gY ?k4 ?mw ?sT ?fX ?xE
   (case zu=>k_is)
   (case zv=>k_is)
   (case zw=>k_is)
   (case zx=>k_is)
   (case iw=>k_is)
   (case iy=>k_is)
   (case iz=>k_is)
   (case iA=>k_is)
   (case lK=>k_is)
   (case lL=>k_is)
   (case lM=>k_is)
   (case lN=>k_is)
   (case i7=>k_is)
   (case i8=>k_is)
   (case i9=>k_is)
   (case ja=>k_is)
   (case qe=>k_is)
   (case qf=>k_is)
   (case qg=>k_is)
   (case qh=>k_is)
   (case lO=>k_is)
   (case lP=>k_is)
   (case lQ=>k_is)
   (case lR=>k_is)
   (case gk=>k_is)
   (case gm=>k_is)
   (case gn=>k_is)
   (case gp=>k_is)
   (case wc=>k_is)
   (case we=>k_is)
   (case wg=>k_is)
   (case wj=>k_is)
   (case qj=>k_is)
   (case qk=>k_is)
   (case ql=>k_is)
   (case qm=>k_is)
   (case nR=>k_is)
   (case nT=>k_is)
   (case nU=>k_is)
   (case nV=>k_is)
   (case nW=>k_is)
   (case nX=>k_is)
   (case nY=>k_is)
   (case nZ=>k_is)
   (case wm=>k_is)
   (case wt=>k_is)
   (case wu=>k_is)
   (case wx=>k_is)
   (case DP=>k_is)
   (case DQ=>k_is)
   (case DR=>k_is)
   (case DS=>k_is)
   (case qo=>k_is)
   (case qp=>k_is)
   (case qr=>k_is)
   (case qt=>k_is)
   (case eQ=>k_is)
   (case eR=>k_is)
   (case eS=>k_is)
   (case eT=>k_is)
   (case lS=>k_is)
   (case lT=>k_is)
   (case lU=>k_is)
   (case lV=>k_is)
   (case iB=>k_is)
   (case iC=>k_is)
   (case iD=>k_is)
   (case iE=>k_is)
   (case jP=>k_is)
   (case jQ=>k_is)
   (case jR=>k_is)
   (case jS=>k_is)
   (case iF=>k_is)
   (case iG=>k_is)
   (case iH=>k_is)
   (case iI=>k_is)
   (case jT=>k_is)
   (case jU=>k_is)
   (case jV=>k_is)
   (case jW=>k_is)
   (case jb=>k_is)
   (case jc=>k_is)
   (case jd=>k_is)
   (case je=>k_is)
   (case fq=>k_is)
   (case fw=>k_is)
   (case fz=>k_is)
   (case fA=>k_is)
   (case AG=>k_is)
   (case DT=>k_is)
   (case DU=>k_is)
   (case DV=>k_is)
   (case wz=>k_is)
   (case tW=>k_is)
   (case tX=>k_is)
   (case tY=>k_is)
   (case tZ=>k_is)
   (case jX=>k_is)
   (case jY=>k_is)
   (case jZ=>k_is)
   (case j0=>k_is)
   (case j3=>k_is)
   (case kZ=>k_is)
   (case ua=>k_is)
   (case cN=>k_is)
   (case cO=>k_is)
   (case dh=>k_is)
   (case bw=>k_is)
   (case cG=>k_is)
   (case zy=>k_is)
   (case wA=>k_is)
   (case wB=>k_is)
   (case wC=>k_is)
   (case wD=>k_is)
   (case lW=>k_is)
   (case lX=>k_is)
   (case lY=>k_is)
   (case lZ=>k_is)
   (case l0=>k_is)
   (case oO=>k_is)
   (case wF=>k_is)
   (case eE=>k_is)
   (case eF=>k_is)
   (case eG=>k_is)
   (case dc=>k_is)
   (case eI=>k_is)
   (case fN=>k_is)
   (case fO=>k_is)
   (case fP=>k_is)
   (case el=>k_is)
   (case fQ=>k_is)
   (case j4=>k_is)
   (case j5=>k_is)
   (case j6=>k_is)
   (case g7=>k_is)
   (case j7=>k_is)
   (case c8=>k_is)
   (case cn=>k_is)
   (case cH=>k_is)
   (case bh=>k_is)
   (case bQ=>k_is)
   (case DW=>k_is)
   (case gC=>k_is)
   (case gY=>k_is)
   (case k4=>k_is)
   (case mw=>k_is)
   (case sT=>k_is)
   (case fX=>k_is)
   (case xE=>k_is)
