import PyProof.Rows.All
import Wide.All
import OpenK.AllK
import Wide.FinOn
import Lean
import PyProof.EqAt
import PyProof.EqKinds
import PyProof.TupleCall
import PyProof.AttrMiss
import PyProof.IsiH_list
import PyProof.ZipIter
import PySem.Challenge.RW_everyrow_k16_whole_runs_by_rows
set_option Elab.async false
set_option linter.all false
set_option maxRecDepth 100000
namespace L2
open PySem PySem.Spec PyProof.Rows
noncomputable abbrev Key:=Sum Int Str
noncomputable def A3:Key→Value→Bool
 | .inl k,v=>Value.isInt k v
 | .inr x,v=>Value.isStrOf x v
noncomputable def RA (w:World):Key→Int
 | .inl k=>hashInt k
 | .inr x=>hashStr w x
theorem dZ:∀ {k:Key} {v:Value},A3 k v=true→(∃ i t,k=Sum.inl i∧v=Value.int i t)∨(∃ x t,k=Sum.inr x∧v=Value.str x t)
 | .inl i,v,h=>by
   obtain ⟨t,e⟩:=Value.isInt_shape (k:=i) (v:=v) h
   exact .inl ⟨i,t,rfl,e⟩
 | .inr x,v,h=>by
   obtain ⟨t,e⟩:=Value.isStrOf_shape (x:=x) (v:=v) h
   exact .inr ⟨x,t,rfl,e⟩
theorem Ie (i:Int) (t:Tok):A3 (.inl i) (.int i t)=true:=by simp [A3,Value.isInt]
theorem Ig (x:Str) (t:Tok):A3 (.inr x) (.str x t)=true:=by simp [A3,Value.isStrOf]
theorem N8 (a b:Int):decide ((Sum.inl a:Key)=Sum.inl b)=(a == b):=by
 by_cases e:a=b
 · subst e; simp
 · have h:¬ (Sum.inl a:Key)=Sum.inl b:=fun q=>e (Sum.inl.inj q)
   rw [decide_eq_false h]
   exact (beq_eq_false_iff_ne.mpr e).symm
theorem N9 (a b:Str):decide ((Sum.inr a:Key)=Sum.inr b)=decide (a=b):=by
 by_cases e:a=b
 · subst e; simp
 · have h:¬ (Sum.inr a:Key)=Sum.inr b:=fun q=>e (Sum.inr.inj q)
   rw [decide_eq_false h,decide_eq_false e]
theorem Oa (a:Int) (b:Str):decide ((Sum.inl a:Key)=Sum.inr b)=false:=decide_eq_false (fun q=>nomatch q)
theorem Ob (a:Str) (b:Int):decide ((Sum.inr a:Key)=Sum.inl b)=false:=decide_eq_false (fun q=>nomatch q)
noncomputable def cN (prog:Program) (w:World):PySem.KeyKind prog w Key where
 is:=A3
 hash:=RA w
 inj:=fun v a b ha hb=>by
   rcases dZ ha with ⟨i,t,rfl,rfl⟩ | ⟨x,t,rfl,rfl⟩
   · rcases dZ hb with ⟨j,u,rfl,e⟩ | ⟨y,u,rfl,e⟩
     · injection e with e1 _; rw [e1]
     · exact nomatch e
   · rcases dZ hb with ⟨j,u,rfl,e⟩ | ⟨y,u,rfl,e⟩
     · exact nomatch e
     · injection e with e1 _; rw [e1]
 byValue:=fun k v h=>by
   rcases dZ h with ⟨i,t,rfl,rfl⟩ | ⟨x,t,rfl,rfl⟩ <;> rfl
 pyHash:=fun hv h=>by
   rcases dZ hv with ⟨i,t,rfl,rfl⟩ | ⟨x,t,rfl,rfl⟩
   · exact wpAny_pyHash_int h
   · exact wpAny_pyHash_str h
 eqBool:=fun hu hv h=>by
   rcases dZ hu with ⟨i,t,rfl,rfl⟩ | ⟨x,t,rfl,rfl⟩
   · rcases dZ hv with ⟨j,u,rfl,rfl⟩ | ⟨y,u,rfl,rfl⟩
     · rw [N8] at h; exact wpAny_eqBool_int h
     · rw [Oa] at h; exact SeqAt.EqAt.int_str i t y u _ _ _ _ h
   · rcases dZ hv with ⟨j,u,rfl,rfl⟩ | ⟨y,u,rfl,rfl⟩
     · rw [Ob] at h; exact SeqAt.EqAt.str_int x t j u _ _ _ _ h
     · rw [N9] at h; exact wpAny_eqBool_str h
 «strs»:=fun k x t v h=>by
   rcases dZ h with ⟨i,u,rfl,e⟩ | ⟨y,u,rfl,e⟩
   · exact nomatch e
   · injection e with e1 _
     subst e1
     cases v <;> rfl
theorem Dz (prog:Program) (w:World) (i:Int) (t:Tok):(cN prog w).is (.inl i) (.int i t)=true:=Ie i t
theorem DA (prog:Program) (w:World) (x:Str) (t:Tok):(cN prog w).is (.inr x) (.str x t)=true:=Ig x t
end L2
namespace L2
open PySem PySem.Spec PyProof.Rows
inductive V where
 | non | bl (b:Bool) | int (i:Int) | str (x:Str) | byt (b:Array UInt8) | flt (b:UInt64) | ref (a:Addr) | ty (n:String)
 deriving DecidableEq
noncomputable def RelV:V→Value→Prop
 | .non,u=>u=Value.none
 | .bl b,u=>u=Value.bool b
 | .int i,u=>∃ t,u=Value.int i t
 | .str x,u=>∃ t,u=Value.str x t
 | .byt b,u=>∃ t,u=Value.bytes b t
 | .flt b,u=>∃ t,u=Value.float b t
 | .ref a,u=>u=Value.ref a
 | .ty n,u=>u=Value.type n
noncomputable abbrev Vals:List V→List Value→Prop:=Paired RelV
theorem Vals.length {xs:List V} {us:List Value} (r:Vals xs us):xs.length=us.length:=Paired.length r
theorem Vals.get:∀ {xs:List V} {us:List Value} {i:Nat} {x:V},Vals xs us→xs[i]?=some x→∃ u,us[i]?=some u∧RelV x u
 | _,_,_,_,.nil,e=>by simp at e
 | _,_,0,_,.cons r _,e=>by simp at e; subst e; exact ⟨_,rfl,r⟩
 | _,_,i + 1,x,.cons _ t,e=>by
   obtain ⟨u,h1,h2⟩:=Vals.get (i:=i) (x:=x) t (by simpa using e)
   exact ⟨u,by simpa using h1,h2⟩
theorem Vals.set {x:V} {u:Value} (r:RelV x u):∀ {xs:List V} {us:List Value} (i:Nat),Vals xs us→Vals (xs.set i x) (us.set i u)
 | _,_,_,.nil=>.nil
 | _,_,0,.cons _ t=>.cons r t
 | _,_,i + 1,.cons q t=>.cons q (Vals.set r i t)
theorem Vals.append:∀ {xs ys:List V} {us ws:List Value},Vals xs us→Vals ys ws→Vals (xs ++ ys) (us ++ ws)
 | _,_,_,_,.nil,s=>s
 | _,_,_,_,.cons r t,s=>.cons r (Vals.append t s)
theorem Vals.take:∀ {xs:List V} {us:List Value} (n:Nat),Vals xs us→Vals (xs.take n) (us.take n)
 | _,_,0,_=>.nil
 | _,_,_ + 1,.nil=>.nil
 | _,_,n + 1,.cons r t=>.cons r (Vals.take n t)
theorem Vals.drop:∀ {xs:List V} {us:List Value} (n:Nat),Vals xs us→Vals (xs.drop n) (us.drop n)
 | _,_,0,r=>r
 | _,_,_ + 1,.nil=>.nil
 | _,_,n + 1,.cons _ t=>Vals.drop n t
noncomputable def oa:Option V→Option Value→Prop
 | some v,some u=>RelV v u
 | none,none=>True
 | _,_=>False
noncomputable def KV {κ:Type}:List (κ × V)→List (κ × Value)→Prop:=Paired fun (p:κ × V) (q:κ × Value)=>p.1=q.1∧RelV p.2 q.2
noncomputable def kV:Key→V
 | .inl i=>.int i
 | .inr x=>.str x
inductive HO where
   | lst (xs:List V)
   | tup (xs:List V)
   | dK (kvs:List (Key × V)) | dT (kvs:List (List Key × V))
   | set (S:Int→Bool) (n:Nat)
   | ins (C dx:Addr) (fs:List (Str × V))
   | own (x:Addr)
   | xd (fs:List (Str × V))
   | met (f x:Addr)
   | rng (lo hi:Int)
   | frz (o:Obj) (u:HO)
   | tbl (ps:Array Value)
   | ext (φ:Heap→Prop)
noncomputable abbrev Hp:=Addr→Option HO
noncomputable def upd (H:Hp) (a:Addr) (o:HO):Hp:=fun b=>if b=a then some o else H b
theorem ae {H:Hp} {a:Addr} {o:HO}:upd H a o a=some o:=by unfold upd; rw [if_pos rfl]
theorem az {H:Hp} {a b:Addr} {o:HO} (h:b≠a):upd H a o b=H b:=by unfold upd; rw [if_neg h]
theorem Mv {H:Hp} {a:Addr} {o u:HO}:upd (upd H a o) a u=upd H a u:=by
 funext b; unfold upd; split <;> rfl
theorem c7 {H:Hp} {a b:Addr} {o u:HO} (h:H a=some o) (h':H b=some u) (d:o≠u):a≠b:=by
 intro e; subst e; rw [h] at h'; exact d (Option.some.inj h')
theorem ao {H:Hp} {a b:Addr} {o:HO} (h:H a=some o) (h':H b=none):a≠b:=by
 intro e; subst e; rw [h] at h'; cases h'
section
variable (P:Program) (w:World)
noncomputable def dU (H:Hp) (h:Heap) (a:Addr):HO→Prop
 | .lst xs=>xs.length≤sizeLine∧∃ (its:List Value) (n:Nat),Vals xs its∧h.get? a=some { cls:=.type "list",data:=.seq its.toArray n }
 | .tup xs=>xs.length≤sizeLine∧∃ its:List Value,Vals xs its∧IsTup h a its.toArray
 | .dK kvs=>kvs.length≤sizeLine∧(a == sysModules)=false∧∃ vs,KV kvs vs∧h.DictOf (cN P w) a vs
 | .dT kvs=>kvs.length≤sizeLine∧(a == sysModules)=false∧∃ xs:List (List Key × Addr × Value),
     Paired (fun (p:List Key × V) (q:List Key × Addr × Value)=>p.1=q.1∧H q.2.1=some (.tup (p.1.map kV))∧RelV p.2 q.2.2) kvs xs∧
     ∃ o es ep,h.get? a=some o∧o.ExactDict∧o.data=.dict es ep∧es.toList=xs.map (entryOfKey (tupleKind (cN P w)))∧(xs.map (·.1)).Nodup
 | .set S n=>h.SetOf (intKind P w) a S n
 | .ins C dx fs=>H dx=some (.own a)∧fs.length≤1000∧dx≠a∧h.get? a=some (PySem.W.instObj C dx)∧
     ∃ mA,h.Ns1 dx mA∧(∀ f,oa (fs.lookup f) (mA f))∧PySem.Within mA (fs.map (·.1))
 | .own _=>∃ o,h.get? a=some o
 | .xd fs=>∃ mA,h.Ns1 a mA∧∀ f,oa (fs.lookup f) (mA f)
 | .rng lo hi=>∃ t u v,h.get? a=some { cls:=.type "range",data:=.fields #[.int lo t,.int hi u,.int 1 v] }
 | .frz o u=>h.get? a=some o∧dU H h a u
 | .tbl ps=>h.get? a=some { cls:=.none,data:=.fields ps }
 | .met f x=>h.get? a=some (PySem.W.methodObj (.ref f) (.ref x))
 | .ext φ=>φ h∧(∃ o,h.get? a=some o)∧∀ h1 h2:Heap,φ h1→(∀ o,h1.get? a=some o→h2.get? a=some o)→φ h2
noncomputable def HOk (H:Hp) (h:Heap):Prop:=∀ a o,H a=some o→dU P w H h a o
end
section
variable {P:Program} {w:World} {H H':Hp} {h h':Heap} {a:Addr} {o:HO}
theorem dU.lt (x:dU P w H h a o):a < h.objs.size:=by
 cases o with
 | lst xs=>obtain ⟨_,_,_,_,e⟩:=x; exact Heap.lt_size e
 | tup xs=>obtain ⟨_,_,_,p⟩:=x; exact p.lt
 | dK kvs=>obtain ⟨_,_,_,_,o,_,_,e,_⟩:=x; exact Heap.lt_size e
 | dT kvs=>obtain ⟨_,_,_,_,o,_,_,e,_⟩:=x; exact Heap.lt_size e
 | set S n=>obtain ⟨o,_,_,_,e,_⟩:=x; exact Heap.lt_size e
 | ins C dx fs=>obtain ⟨_,_,_,e,_⟩:=x; exact Heap.lt_size e
 | own y=>obtain ⟨_,e⟩:=x; exact Heap.lt_size e
 | xd fs=>obtain ⟨_,⟨_,_,_,e,_⟩,_⟩:=x; exact Heap.lt_size e
 | rng lo hi=>obtain ⟨_,_,_,e⟩:=x; exact Heap.lt_size e
 | frz ob u=>obtain ⟨e,_⟩:=x; exact Heap.lt_size e
 | tbl ps=>exact Heap.lt_size (show h.get? a=some _ from x)
 | met f y=>exact Heap.lt_size (show h.get? a=some _ from x)
 | ext φ=>obtain ⟨_,⟨_,e⟩,_⟩:=x; exact Heap.lt_size e
theorem Paired.Oc {α β:Type} {F G:α→β→Prop}:∀ {l₁:List α} {l₂:List β},Paired F l₁ l₂→(∀ a b,F a b→G a b)→Paired G l₁ l₂
 | _,_,.nil,_=>.nil
 | _,_,.cons r t,f=>.cons (f _ _ r) (Paired.Oc t f)
theorem dU.j8 (x:dU P w H h a o) (k:∀ b u,(b=a∨H b=some (.own a))→h.get? b=some u→h'.get? b=some u)
   (ho:∀ b,H b=some (.own a)→H' b=some (.own a)) (ht:∀ b xs,H b=some (.tup xs)→H' b=some (.tup xs)):dU P w H' h' a o:=by
 induction o with
 | lst xs=>obtain ⟨z,its,n,r,e⟩:=x; exact ⟨z,its,n,r,k _ _ (.inl rfl) e⟩
 | tup xs=>obtain ⟨z,its,r,ob,e,c⟩:=x; exact ⟨z,its,r,ob,k _ _ (.inl rfl) e,c⟩
 | dK kvs=>obtain ⟨z,y,vs,r,ob,es,ep,e,c⟩:=x; exact ⟨z,y,vs,r,ob,es,ep,k _ _ (.inl rfl) e,c⟩
 | dT kvs=>
   obtain ⟨z,y,xs,r,ob,es,ep,e,c⟩:=x
   exact ⟨z,y,xs,Paired.Oc r fun p q z=>⟨z.1,ht _ _ z.2.1,z.2.2⟩,ob,es,ep,k _ _ (.inl rfl) e,c⟩
 | set S n=>obtain ⟨ob,es,ep,t,e,c⟩:=x; exact ⟨ob,es,ep,t,k _ _ (.inl rfl) e,c⟩
 | ins C dx fs=>
   obtain ⟨d,z,ne,e,mA,⟨od,es,ep,e2,c⟩,r⟩:=x
   exact ⟨ho _ d,z,ne,k _ _ (.inl rfl) e,mA,⟨od,es,ep,k _ _ (.inr d) e2,c⟩,r⟩
 | own y=>obtain ⟨ob,e⟩:=x; exact ⟨ob,k _ _ (.inl rfl) e⟩
 | xd fs=>obtain ⟨mA,⟨od,es,ep,e,c⟩,r⟩:=x; exact ⟨mA,⟨od,es,ep,k _ _ (.inl rfl) e,c⟩,r⟩
 | rng lo hi=>obtain ⟨t,u,v,e⟩:=x; exact ⟨t,u,v,k _ _ (.inl rfl) e⟩
 | frz ob u ih=>obtain ⟨e,q⟩:=x; exact ⟨k _ _ (.inl rfl) e,ih q⟩
 | tbl ps=>
   have e:h.get? a=some { cls:=.none,data:=.fields ps }:=x
   show h'.get? a=some { cls:=.none,data:=.fields ps }
   exact k a _ (.inl rfl) e
 | met f y=>
   have e:h.get? a=some (PySem.W.methodObj (.ref f) (.ref y)):=x
   show h'.get? a=some (PySem.W.methodObj (.ref f) (.ref y))
   exact k a _ (.inl rfl) e
 | ext φ=>obtain ⟨p,⟨o,e⟩,st⟩:=x; exact ⟨st _ _ p fun o q=>k _ _ (.inl rfl) q,⟨o,k _ _ (.inl rfl) e⟩,st⟩
theorem HOk.lt (x:HOk P w H h) (e:H a=some o):a < h.objs.size:=(x a o e).lt
theorem HOk.fresh (x:HOk P w H h) (e:h.objs.size≤a):H a=none:=by
 cases q:H a with
 | none=>rfl
 | some u=>exact absurd (Nat.lt_of_lt_of_le (x.lt q) e) (Nat.lt_irrefl _)
theorem HOk.kept (x:HOk P w H h) (k:∀ b u,h.get? b=some u→h'.get? b=some u):HOk P w H h':=fun a o e=>
 (x a o e).j8 (fun b u _ q=>k b u q) (fun _ q=>q) fun _ _ q=>q
theorem HOk.laid (x:HOk P w H h) (k:∀ b u,h.get? b=some u→h'.get? b=some u) (hp:h.objs.size≤a) (new:dU P w (upd H a o) h' a o):HOk P w (upd H a o) h':=fun b u e=>by
 have hn:=x.fresh hp
 by_cases hb:b=a
 · subst hb; rw [ae] at e; cases e; exact new
 · rw [az hb] at e
   exact (x b u e).j8 (fun c v _ q=>k c v q) (fun c q=>by rw [az (ao q hn)]; exact q) fun c xs q=>by rw [az (ao q hn)]; exact q
end
noncomputable def Rd (H:Hp) (a:Addr) (u:HO):Prop:=H a=some u∨∃ o,H a=some (.frz o u)
theorem Rd.ok {P:Program} {w:World} {H:Hp} {h:Heap} {a:Addr} {u:HO} (r:Rd H a u) (x:HOk P w H h):dU P w H h a u:=by
 rcases r with r | ⟨o,r⟩
 · exact x a u r
 · obtain ⟨_,q⟩:=x a _ r
   exact q
noncomputable def Mut:Option HO→Prop
 | some (.lst _)=>True
 | some (.dK _)=>True
 | some (.dT _)=>True
 | some (.set _ _)=>True
 | some (.ins _ _ _)=>True
 | some (.ext _)=>True
 | _=>False
section
variable {P:Program} {w:World} {H:Hp} {h h':Heap} {x e:Addr} {o':HO}
theorem HOk.write (ok:HOk P w H h) (mu:Mut (H x)) (he:e=x∨H e=some (.own x)) (k:∀ b u,b≠e→h.get? b=some u→h'.get? b=some u) (heo:∃ u,h'.get? e=some u)
   (new:dU P w (upd H x o') h' x o'):HOk P w (upd H x o') h':=fun b u q=>by
 have Qc:∀ c y,H c=some (.own y)→c≠x:=fun c y r z=>by subst z; rw [r] at mu; exact mu
 have RB:∀ c xs,H c=some (.tup xs)→c≠x:=fun c xs r z=>by subst z; rw [r] at mu; exact mu
 by_cases hb:b=x
 · subst hb; rw [ae] at q; cases q; exact new
 · rw [az hb] at q
   by_cases hbe:b=e
   · have q':H b=some (.own x):=by
       rcases he with z | z
       · exact absurd (hbe.trans z) hb
       · rw [hbe]; exact z
     rw [q] at q'; cases q'
     obtain ⟨v,hv⟩:=heo
     exact ⟨v,by rw [hbe]; exact hv⟩
   · refine (ok b u q).j8 (fun c v hc r=>k c v ?_ r) (fun c r=>by rw [az (Qc c b r)]; exact r) fun c xs r=>by rw [az (RB c xs r)]; exact r
     rcases hc with rfl | hc
     · exact hbe
     · rintro rfl
       rcases he with z | z
       · exact Qc c b hc z
       · rw [hc] at z; cases z; exact hb rfl
end
structure Un (fs ex:List Addr) (H H':Hp) (h h':Heap):Prop where
 keep:∀ b o,h.get? b=some o→H b=none→b ∉ fs→b ∉ ex→h'.get? b=some o
 slot:∀ b o,h.get? b=some o→H b=none→b∈fs→b ∉ ex→∃ sl,h'.get? b=some { o with slots:=sl }
 free:∀ b o,h.get? b=some o→H b=none→b ∉ ex→H' b=none
 there:∀ b o,h.get? b=some o→b ∉ ex→∃ o',h'.get? b=some o'
 BQ:∀ b xs,H b=some (.tup xs)→H' b=some (.tup xs)
 Au:∀ b o u,H b=some (.frz o u)→H' b=some (.frz o u)
 BR:∀ b ps,H b=some (.tbl ps)→∃ more,H' b=some (.tbl (ps ++ more))
section
variable {fs fs' ex ex':List Addr} {H H1 H2:Hp} {h h1 h2 h':Heap} {a x e:Addr} {o:HO}
theorem Un.any (u:Un fs ex H H1 h h1) {b:Addr} {ob:Obj} (q:h.get? b=some ob) (n:H b=none) (hx:b ∉ ex):∃ sl,h1.get? b=some { ob with slots:=sl }:=by
 by_cases hb:b∈fs
 · exact u.slot b ob q n hb hx
 · exact ⟨ob.slots,u.keep b ob q n hb hx⟩
theorem Un.kept (k:∀ b u,h.get? b=some u→h'.get? b=some u):Un fs ex H H h h':=
 ⟨fun b ob q _ _ _=>k b ob q,fun b ob q _ _ _=>⟨ob.slots,k b ob q⟩,fun _ _ _ n _=>n,fun b ob q _=>⟨ob,k b ob q⟩,fun _ _ q=>q,fun _ _ _ q=>q,fun _ ps q=>⟨#[],by rw [q]; simp⟩⟩
theorem Un.refl:Un fs ex H H h h:=Un.kept fun _ _ q=>q
theorem Un.laid (k:∀ b u,h.get? b=some u→h'.get? b=some u) (hp:h.objs.size≤a) (hn:H a=none):Un fs ex H (upd H a o) h h' where
 keep:=fun b u q _ _ _=>k b u q
 slot:=fun b u q _ _ _=>⟨u.slots,k b u q⟩
 free:=fun b u q n _=>by rw [az (Nat.ne_of_lt (Nat.lt_of_lt_of_le (Heap.lt_size q) hp))]; exact n
 there:=fun b u q _=>⟨u,k b u q⟩
 BQ:=fun b xs q=>by rw [az (ao q hn)]; exact q
 Au:=fun b u xs q=>by rw [az (ao q hn)]; exact q
 BR:=fun b ps q=>⟨#[],by rw [az (ao q hn),q]; simp⟩
theorem Un.write (mu:Mut (H x)) (he:e=x∨H e=some (.own x)) (k:∀ b u,b≠e→h.get? b=some u→h'.get? b=some u) (heo:∃ u,h'.get? e=some u):Un fs ex H (upd H x o) h h':=by
 have hx:∀ b,H b=none→b≠x:=fun b n z=>by subst z; rw [n] at mu; exact mu
 have hb:∀ b,H b=none→b≠e:=fun b n z=>by
   subst z
   rcases he with r | r
   · exact hx b n r
   · rw [n] at r; cases r
 have hm:∀ b u,H b=some u→¬ Mut (some u)→b≠x:=fun b u q nm z=>by subst z; rw [q] at mu; exact nm mu
 refine ⟨fun b u q n _ _=>k b u (hb b n) q,fun b u q n _ _=>⟨u.slots,k b u (hb b n) q⟩,fun b u q n _=>by rw [az (hx b n)]; exact n,fun b u q _=>?_,
   fun b xs q=>by rw [az (hm b _ q fun z=>z)]; exact q,fun b u xs q=>by rw [az (hm b _ q fun z=>z)]; exact q,fun b ps q=>⟨#[],by rw [az (hm b _ q fun z=>z),q]; simp⟩⟩
 by_cases hbe:b=e
 · subst hbe; exact heo
 · exact ⟨u,k b u hbe q⟩
end
noncomputable def trk (h:Heap) (H:Hp):List Addr:=(List.range h.objs.size).filter fun a=>(H a).isSome
noncomputable def BS (h:Heap) (H:Hp):Heap:=PySem.W.hideAll h (trk h H)
theorem Ih (h:Heap) (H:Hp):(BS h H).objs.size=h.objs.size:=PySem.W.hideAll_size _ _
theorem JC {h:Heap} {H:Hp} {b:Addr} {o:Obj} (e:h.get? b=some o) (n:H b=none):(BS h H).get? b=some o:=
 PySem.W.hideAll_get _ e fun hm=>by
   have q:(H b).isSome=true:=(List.mem_filter.mp hm).2
   rw [n] at q; simp at q
theorem Mw {h:Heap} {H:Hp} {b:Addr} {o:Obj} (e:(BS h H).get? b=some o):h.get? b=some o∧H b=none:=by
 have e':h.get? b=some o:=PySem.W.of_hideAll (trk h H) e
 refine ⟨e',?_⟩
 cases q:H b with
 | none=>rfl
 | some x=>
   have hm:b∈trk h H:=List.mem_filter.mpr ⟨List.mem_range.mpr (Heap.lt_size e'),by simp [q]⟩
   have z:(BS h H).get? b=none:=PySem.W.hideAll_none (trk h H) hm
   rw [z] at e; cases e
noncomputable def Mx (g h:Heap) (L:Addr):List (Addr × Obj):=(List.range h.objs.size).filterMap fun a=>if a=L∨(g.get? a).isSome=true then none else (h.get? a).map fun o=>(a,o)
noncomputable def rest (g h:Heap) (L d:Addr):List (Addr × Obj):=(Mx g h L).filter fun p=>decide (p.1≠d)
end L2
namespace L2
open PySem PySem.Spec PyProof.Rows
structure Mod (K:PySem.W.Frag) (mg:Str→Option Value) (base:Heap):Prop where
 kin:K.In base
 glob:base.Ns mainGlobals mg
 blt:∃ mb,base.Ns builtinsNs mb∧∀ x:Str,x≠"__name__"→mb x=bootBuiltins x
 nolimit:base.NoLimit
structure Cx where
 prog:Program
 w:World
 K:PySem.W.Frag
 mg:Str→Option Value
 base:Heap
 A:Around
 N:List Str
 s₀:Shared
 H₀:Hp
 env:Env
 outer:List Env
 stack:List Env
 ex:List Addr
 fn:Str→Bool
 calm:Bool
 pn:List (Addr × Obj)
 xe:Value→Shared→Prop
noncomputable def frs (l:List Env):List Addr:=l.filterMap (·.frame)
noncomputable abbrev Cx.fs (X:Cx):List Addr:=frs X.outer
noncomputable def Vis (sc:Scope) (x:Str):Prop:=sc.names.lookup x=some .local∨sc.names.lookup x=some .cell∨sc.names.lookup x=some .free
noncomputable def Loc (sc:Scope) (x:Str):Prop:=sc.names.lookup x=some .local∨sc.names.lookup x=some .cell
noncomputable def Look (env:Env) (h:Heap) (m:Str→Option Value) (x:Str) (u:Value):Prop:=
 (env.kindOf x=some .local∧m x=some u)∨((env.kindOf x=some .cell∨env.kindOf x=some .free)∧∃ c,env.cells.lookup x=some c∧h.IsCell c (some u))
structure Cx.Ok (X:Cx):Prop where
 mod:Mod X.K X.mg X.base
 kind:X.env.scope.kind=.function
 glob:X.env.globals=mainGlobals
 blt:X.env.builtins=builtinsNs
 above:X.s₀.heap.objs.size≤X.env.locals
 inj:∀ x y c,X.env.cells.lookup x=some c→X.env.cells.lookup y=some c→x=y
 has:∀ x,(X.env.kindOf x=some .cell∨X.env.kindOf x=some .free)→∃ c,X.env.cells.lookup x=some c
 cab:∀ x c,X.fn x=true→X.env.cells.lookup x=some c→X.s₀.heap.objs.size≤c
 hd:X.calm=true→X.A.handled=none
 frames:X.A.frames=some X.stack
 stk:X.stack=X.outer∨(X.stack=X.env :: X.outer∧X.env.frame=some X.env.locals)
 exf:∀ b∈X.ex,b≠X.env.locals∧∀ x c,X.env.cells.lookup x=some c→c≠b
 bs:∀ b o,X.base.get? b=some o→X.s₀.heap.get? b=some o∧X.H₀ b=none
 bsz:X.base.objs.size≤X.s₀.heap.objs.size
 JD:∀ b o,X.base.get? b=some o→b ∉ X.ex
 My:∀ b∈X.ex,b ∉ X.fs
 xM:X.s₀.heap.FunFrames X.base X.outer
 frf:∀ b∈X.fs,X.H₀ b=none
structure Inv (X:Cx) (pins:List (Addr × Obj)) (σ:List (Option V)) (H:Hp) (s:Shared):Prop where
 ok:X.Ok
 os:s.os=X.s₀.os
 bare:AllBare s.gens
 base:Un X.fs X.ex X.H₀ H X.s₀.heap s.heap
 loc:∃ m,s.heap.Ns X.env.locals m∧∀ (i:Nat) (x:Str) (v:V),X.N[i]?=some x→σ[i]?=some (some v)→Vis X.env.scope x→∃ u,RelV v u∧Look X.env s.heap m x u
 cell:∀ x c,X.env.cells.lookup x=some c→∃ v,s.heap.IsCell c v
 free:H X.env.locals=none
 om:∀ x c,X.env.cells.lookup x=some c→H c=none
 pin:∀ p∈X.pn ++ pins,s.heap.get? p.1=some p.2∧H p.1=none∧p.1≠X.env.locals∧p.1 ∉ X.fs∧∀ v,p.2.data≠.cell v
 hok:HOk X.prog X.w H s.heap
 len:σ.length=X.N.length
section
variable {X:Cx} {pins:List (Addr × Obj)} {σ:List (Option V)} {H H':Hp} {s:Shared} {h':Heap}
theorem Cx.Ok.RC (ok:X.Ok) {b:Addr} {o:Obj} (e:X.base.get? b=some o):b ∉ X.fs:=fun hb=>by
 have:=(ok.xM.mem hb).1
 rw [e] at this; cases this
theorem Inv.bs (I:Inv X pins σ H s):∀ b o,X.base.get? b=some o→s.heap.get? b=some o∧H b=none:=fun b o e=>
 ⟨I.base.keep b o (I.ok.bs b o e).1 (I.ok.bs b o e).2 (I.ok.RC e) (I.ok.JD b o e),I.base.free b o (I.ok.bs b o e).1 (I.ok.bs b o e).2 (I.ok.JD b o e)⟩
theorem Inv.bk (I:Inv X pins σ H s):∀ b o,X.base.get? b=some o→s.heap.get? b=some o:=fun b o e=>(I.bs b o e).1
theorem Inv.mod (I:Inv X pins σ H s):Mod X.K X.mg X.base:=I.ok.mod
theorem Inv.kIn (I:Inv X pins σ H s):X.K.In s.heap:=I.ok.mod.kin.keeps I.bk
theorem Inv.nolimit (I:Inv X pins σ H s):s.heap.NoLimit:=I.ok.mod.nolimit.keeps I.bk
theorem Inv.fr (I:Inv X pins σ H s):∃ m,Fr X.base X.env.locals s.heap m:=
 let ⟨m,hn,_⟩:=I.loc
 ⟨m,hn,I.bk,Nat.le_trans I.ok.bsz I.ok.above⟩
theorem Inv.lt (I:Inv X pins σ H s):X.env.locals < s.heap.objs.size:=let ⟨_,hn,_⟩:=I.loc; hn.lt
theorem Inv.sz (I:Inv X pins σ H s):X.s₀.heap.objs.size≤s.heap.objs.size:=Nat.le_trans I.ok.above (Nat.le_of_lt I.lt)
theorem Inv.RD (I:Inv X pins σ H s) {a:Addr} (h:s.heap.objs.size≤a):a ∉ X.fs:=fun hb=>by
 obtain ⟨_,o,ho,_⟩:=I.ok.xM.mem hb
 exact absurd (Nat.lt_of_lt_of_le (Heap.lt_size ho) (Nat.le_trans I.sz h)) (Nat.lt_irrefl _)
theorem Inv.cne (I:Inv X pins σ H s):∀ x c,X.env.cells.lookup x=some c→c≠X.env.locals:=fun x c e z=>by
 obtain ⟨v,o,ho,hd⟩:=I.cell x c e
 obtain ⟨m,⟨o',es,ep,ho',hd',_⟩,_⟩:=I.loc
 rw [z,ho'] at ho; cases ho; rw [hd'] at hd; cases hd
theorem Inv.xM (I:Inv X pins σ H s):s.heap.FunFrames X.base X.outer:=by
 have all:∀ (l:List Env),(∀ b∈frs l,b∈X.fs)→X.s₀.heap.FunFrames X.base l→s.heap.FunFrames X.base l:=by
   intro l
   induction l with
   | nil=>intro _ _; trivial
   | cons env r ih=>
     intro hs hl
     obtain ⟨hk,⟨L,o,hf,hn,ho,hd⟩,hr⟩:=hl
     have hL:L∈X.fs:=hs L (by unfold frs; rw [List.filterMap_cons,hf]; exact List.mem_cons_self)
     obtain ⟨sl,e⟩:=I.base.slot L o ho (I.ok.frf L hL) hL fun z=>I.ok.My L z hL
     exact ⟨hk,⟨L,_,hf,hn,e,hd⟩,ih (fun b hb=>hs b (by unfold frs; rw [List.filterMap_cons,hf]; exact List.mem_cons_of_mem _ hb)) hr⟩
 exact all X.outer (fun _ hb=>hb) I.ok.xM
theorem Inv.stack (I:Inv X pins σ H s):s.heap.FunFrames X.base X.stack:=by
 rcases I.ok.stk with e | ⟨e,hf⟩
 · rw [e]; exact I.xM
 · rw [e]
   obtain ⟨m,hn,_⟩:=I.loc
   refine .cons (by rw [I.ok.kind]; decide) hf hn ?_ I.xM
   exact Heap.get?_none_of_le (Nat.le_trans I.ok.bsz I.ok.above)
theorem Inv.BU (I:Inv X pins σ H s):∀ b∈frs X.stack,b∈X.env.locals :: X.fs:=fun b hb=>by
 rcases I.ok.stk with e | ⟨e,hf⟩
 · rw [e] at hb; exact List.mem_cons_of_mem _ hb
 · rw [e] at hb
   unfold frs at hb
   rw [List.filterMap_cons,hf] at hb
   exact hb
theorem Inv.GP (I:Inv X pins σ H s):∀ b∈frs X.stack,H b=none:=fun b hb=>by
 rcases List.mem_cons.mp (I.BU b hb) with e | hb
 · rw [e]; exact I.free
 · obtain ⟨_,o,ho,_⟩:=I.ok.xM.mem hb
   exact I.base.free b o ho (I.ok.frf b hb) fun z=>I.ok.My b z hb
theorem Inv.step {g':Array GenState} {t':Nat} {d':Drawn} {ch:List Addr} (I:Inv X pins σ H s)
   (hch:∀ b∈ch,(b∈X.ex∨X.s₀.heap.objs.size≤b)∧b≠X.env.locals∧(∀ x c,X.env.cells.lookup x=some c→c≠b)∧∀ p∈X.pn ++ pins,p.1≠b)
   (keep:∀ b o,b≠X.env.locals→b ∉ X.fs→b ∉ ch→s.heap.get? b=some o→H b=none→h'.get? b=some o)
   (slot:∀ b o,b≠X.env.locals→b∈X.fs→b ∉ ch→s.heap.get? b=some o→H b=none→∃ sl,h'.get? b=some { o with slots:=sl }) (free:∀ b o,b ∉ ch→s.heap.get? b=some o→H b=none→H' b=none)
   (there:∀ b o,b ∉ ch→s.heap.get? b=some o→∃ o',h'.get? b=some o')
   (BQ:∀ b xs,H b=some (.tup xs)→H' b=some (.tup xs)) (Au:∀ b o u,H b=some (.frz o u)→H' b=some (.frz o u)) (BR:∀ b ps,H b=some (.tbl ps)→∃ more,H' b=some (.tbl (ps ++ more)))
   (ns:∀ m,s.heap.Ns X.env.locals m→h'.Ns X.env.locals m) (hok:HOk X.prog X.w H' h') (hg:AllBare g') :
   Inv X pins σ H' { s with heap:=h',gens:=g',drawn:=d',toks:=t' }:=by
 have neL:∀ b o,X.s₀.heap.get? b=some o→b≠X.env.locals:=fun b o e=>Nat.ne_of_lt (Nat.lt_of_lt_of_le (Heap.lt_size e) I.ok.above)
 have neC:∀ b o,X.s₀.heap.get? b=some o→b ∉ X.ex→b ∉ ch:=fun b o e hx hb=>by
   rcases (hch b hb).1 with z | z
   · exact hx z
   · exact absurd (Nat.lt_of_lt_of_le (Heap.lt_size e) z) (Nat.lt_irrefl _)
 have cellK:∀ x c,X.env.cells.lookup x=some c→∀ v,s.heap.IsCell c v→h'.IsCell c v:=fun x c e v ⟨o,ho,hd⟩=>by
   have nch:c ∉ ch:=fun z=>(hch c z).2.2.1 x c e rfl
   by_cases hc:c∈X.fs
   · obtain ⟨sl,q⟩:=slot c o (I.cne x c e) hc nch ho (I.om x c e)
     exact ⟨_,q,hd⟩
   · exact ⟨o,keep c o (I.cne x c e) hc nch ho (I.om x c e),hd⟩
 refine ⟨I.ok,I.os,hg,⟨fun b o e n hb hx=>?_,fun b o e n hb hx=>?_,fun b o e n hx=>?_,fun b o e hx=>?_,fun b xs e=>BQ b xs (I.base.BQ b xs e),fun b o xs e=>Au b o xs (I.base.Au b o xs e),fun b ps e=>?_⟩,?_,fun x c e=>?_,?_,fun x c e=>?_,fun p hp=>?_,hok,I.len⟩
 · exact keep b o (neL b o e) hb (neC b o e hx) (I.base.keep b o e n hb hx) (I.base.free b o e n hx)
 · obtain ⟨sl,e1⟩:=I.base.slot b o e n hb hx
   obtain ⟨sl',e2⟩:=slot b _ (neL b o e) hb (neC b o e hx) e1 (I.base.free b o e n hx)
   exact ⟨sl',e2⟩
 · obtain ⟨o',e1⟩:=I.base.there b o e hx
   exact free b o' (neC b o e hx) e1 (I.base.free b o e n hx)
 · obtain ⟨o',e1⟩:=I.base.there b o e hx
   exact there b o' (neC b o e hx) e1
 · obtain ⟨m1,e1⟩:=I.base.BR b ps e
   obtain ⟨m2,e2⟩:=BR b _ e1
   exact ⟨m1 ++ m2,by rw [e2,Array.append_assoc]⟩
 · obtain ⟨m,hn,hl⟩:=I.loc
   refine ⟨m,ns m hn,fun i x v e1 e2 e3=>?_⟩
   obtain ⟨u,r,l⟩:=hl i x v e1 e2 e3
   refine ⟨u,r,?_⟩
   rcases l with l | ⟨k,c,e,z⟩
   · exact .inl l
   · exact .inr ⟨k,c,e,cellK x c e _ z⟩
 · obtain ⟨v,z⟩:=I.cell x c e
   exact ⟨v,cellK x c e v z⟩
 · obtain ⟨m,⟨o,_,_,ho,_⟩,_⟩:=I.loc
   exact free _ o (fun z=>(hch _ z).2.1 rfl) ho I.free
 · obtain ⟨v,o,ho,hd⟩:=I.cell x c e
   exact free c o (fun z=>(hch c z).2.2.1 x c e rfl) ho (I.om x c e)
 · obtain ⟨e,n,ne,nf,d⟩:=I.pin p hp
   have nch:p.1 ∉ ch:=fun z=>(hch p.1 z).2.2.2 p hp rfl
   exact ⟨keep p.1 p.2 ne nf nch e n,free p.1 p.2 nch e n,ne,nf,d⟩
theorem Inv.un {t':Nat} (I:Inv X pins σ H s) (u:Un X.fs [] H H' s.heap h') (hok:HOk X.prog X.w H' h'):Inv X pins σ H' { s with heap:=h',toks:=t' }:=by
 obtain ⟨m,⟨o,es,ep,ho,r⟩,_⟩:=id I.loc
 obtain ⟨sl,hL⟩:=u.any ho I.free (by simp)
 exact I.step (g':=s.gens) (d':=s.drawn) (ch:=[]) (fun _ z=>nomatch z) (fun b o _ hb _ e n=>u.keep b o e n hb (by simp)) (fun b o _ hb _ e n=>u.slot b o e n hb (by simp)) (fun b o _ e n=>u.free b o e n (by simp)) (fun b o _ e=>u.there b o e (by simp)) u.BQ u.Au u.BR (fun m' hm=>by
   obtain ⟨o',es',ep',ho',r'⟩:=hm
   rw [ho] at ho'; cases ho'
   exact ⟨_,es',ep',hL,r'⟩) hok I.bare
theorem Inv.call {g':Array GenState} {t':Nat} {d':Drawn} {ch:List Addr} (I:Inv X pins σ H s) (u:Un (frs X.stack) ch H H' s.heap h') (hok:HOk X.prog X.w H' h') (hg:AllBare g')
   (hch:∀ b∈ch,(b∈X.ex∨X.s₀.heap.objs.size≤b)∧b≠X.env.locals∧(∀ x c,X.env.cells.lookup x=some c→c≠b)∧∀ p∈X.pn ++ pins,p.1≠b) :
   Inv X pins σ H' { s with heap:=h',gens:=g',drawn:=d',toks:=t' }:=by
 obtain ⟨m,⟨o,es,ep,ho,r⟩,_⟩:=id I.loc
 obtain ⟨sl,hL⟩:=u.any ho I.free fun z=>(hch _ z).2.1 rfl
 exact I.step (ch:=ch) hch (fun b o hL hb hc e n=>u.keep b o e n (fun z=>(List.mem_cons.mp (I.BU b z)).elim hL hb) hc) (fun b o _ _ hc e n=>u.any e n hc) (fun b o hc e n=>u.free b o e n hc) (fun b o hc e=>u.there b o e hc) u.BQ u.Au u.BR (fun m' hm=>by
   obtain ⟨o',es',ep',ho',r'⟩:=hm
   rw [ho] at ho'; cases ho'
   exact ⟨_,es',ep',hL,r'⟩) hok hg
theorem Inv.turned {t':Nat} {it:Addr} (I:Inv X pins σ H s) (k:∀ b o,b≠it→s.heap.get? b=some o→h'.get? b=some o) (hn:H it=none) (hL:it≠X.env.locals)
   (h1:it∈X.ex∨X.s₀.heap.objs.size≤it) (h2:∀ x c,X.env.cells.lookup x=some c→c≠it) (h3:∀ p∈X.pn ++ pins,p.1≠it):Inv X pins σ H { s with heap:=h',toks:=t' }:=by
 have nit:∀ b u,H b=some u→b≠it:=fun b u e z=>by rw [z,hn] at e; cases e
 refine I.step (g':=s.gens) (d':=s.drawn) (ch:=[it]) (fun b hb=>?_) (fun b o _ _ hc e _=>k b o (fun z=>hc (by simp [z])) e) (fun b o _ _ hc e _=>⟨o.slots,k b o (fun z=>hc (by simp [z])) e⟩) (fun _ _ _ _ n=>n)
   (fun b o hc e=>⟨o,k b o (fun z=>hc (by simp [z])) e⟩) (fun _ _ e=>e) (fun _ _ _ e=>e) (fun b ps e=>⟨#[],by rw [e]; simp⟩) (fun m hm=>?_) (fun b u e=>?_) I.bare
 · have e:b=it:=by simpa using hb
   subst e
   exact ⟨h1,hL,h2,h3⟩
 · obtain ⟨o,es,ep,ho,r⟩:=hm
   exact ⟨o,es,ep,k _ o (Ne.symm hL) ho,r⟩
 · refine (I.hok b u e).j8 (fun c v hc q=>k c v ?_ q) (fun _ q=>q) fun _ _ q=>q
   rcases hc with z | z
   · rw [z]; exact nit b u e
   · exact nit c _ z
theorem Inv.tok (I:Inv X pins σ H s) (t:Nat):Inv X pins σ H { s with toks:=t }:=I.un (h':=s.heap) (t':=t) Un.refl I.hok
theorem Inv.kept {t':Nat} (I:Inv X pins σ H s) (k:∀ b u,s.heap.get? b=some u→h'.get? b=some u):Inv X pins σ H { s with heap:=h',toks:=t' }:=I.un (Un.kept k) (I.hok.kept k)
theorem Inv.laid {a:Addr} {o:HO} {t':Nat} (I:Inv X pins σ H s) (k:∀ b u,s.heap.get? b=some u→h'.get? b=some u) (hp:s.heap.objs.size≤a) (new:dU X.prog X.w (upd H a o) h' a o) :
   Inv X pins σ (upd H a o) { s with heap:=h',toks:=t' }:=I.un (Un.laid k hp (I.hok.fresh hp)) (I.hok.laid k hp new)
theorem Inv.write {x e:Addr} {o:HO} {t':Nat} (I:Inv X pins σ H s) (mu:Mut (H x)) (he:e=x∨H e=some (.own x)) (k:∀ b u,b≠e→s.heap.get? b=some u→h'.get? b=some u) (heo:∃ u,h'.get? e=some u)
   (new:dU X.prog X.w (upd H x o) h' x o):Inv X pins σ (upd H x o) { s with heap:=h',toks:=t' }:=I.un (Un.write mu he k heo) (I.hok.write mu he k heo new)
theorem Inv.GQ {DB:List (Addr × Obj)} (I:Inv X pins σ H s) (h:∀ p∈DB,s.heap.get? p.1=some p.2∧H p.1=none∧p.1≠X.env.locals∧p.1 ∉ X.fs∧∀ v,p.2.data≠.cell v):Inv X DB σ H s:=
 ⟨I.ok,I.os,I.bare,I.base,I.loc,I.cell,I.free,I.om,fun p hp=>(List.mem_append.mp hp).elim (fun z=>I.pin p (List.mem_append_left _ z)) (h p),I.hok,I.len⟩
theorem DC {N:List Str} (hN:N.Nodup) {i j:Nat} {x:Str} (a:N[i]?=some x) (b:N[j]?=some x):i=j:=by
 obtain ⟨h1,e1⟩:=List.getElem?_eq_some_iff.mp a
 obtain ⟨h2,e2⟩:=List.getElem?_eq_some_iff.mp b
 exact (List.getElem_inj hN).mp (e1.trans e2.symm)
theorem A4 {M:Model} {A:Around} {E:Value→Shared→Prop} {i:Nat} {x:Str} {v:V} {u:Value} {Q:Unit→Shared→Prop} (I:Inv X pins σ H s) (hN:X.N.Nodup) (hi:X.N[i]?=some x) (hx:Loc X.env.scope x) (r:RelV v u)
   (h:∀ s',Inv X pins (σ.set i (some v)) H s'→(∃ a,Heap.SameBut a s.heap s'.heap∧(a=X.env.locals∨X.env.cells.lookup x=some a))→Q () s') (hf:X.fn x=true∨X.env.scope.names.lookup x=some .local:=by first | exact .inl rfl | exact .inr rfl | assumption):wpAny M A (storeName X.env x u) Q E s:=by
 obtain ⟨m,hn,hl⟩:=id I.loc
 have RE:(X.env.scope.kind == .class || (X.env.scope.kind == .module && X.env.locals != X.env.globals))=false:=by rw [I.ok.kind]; rfl
 have hiσ:i < σ.length:=by rw [I.len]; exact (List.getElem?_eq_some_iff.mp hi).1
 have cne:=I.cne
 have tracked:∀ {a:Addr} {h':Heap},(∃ o,s.heap.get? a=some o∧H a=none)→Heap.SameBut a s.heap h'→HOk X.prog X.w H h':=fun {a h'} ha hs b ob e=>by
   obtain ⟨_,_,tV⟩:=ha
   refine (I.hok b ob e).j8 (fun c w' hc q=>(hs.2 c ?_).trans q) (fun _ q=>q) fun _ _ q=>q
   rintro rfl
   rcases hc with rfl | hc
   · rw [tV] at e; cases e
   · rw [tV] at hc; cases hc
 rcases hx with hk | hk
 · refine wpAny_storeName_local hk hn (fun h' hn' hs=>?_) RE
   obtain ⟨oL,_,_,hoL,_⟩:=id hn
   refine h _ ⟨I.ok,I.os,I.bare,⟨fun b o e n hb hx=>?_,fun b o e n hb hx=>?_,I.base.free,fun b o e hx=>?_,I.base.BQ,I.base.Au,I.base.BR⟩,⟨_,hn',fun j y v' e1 e2 e3=>?_⟩,fun y c e=>?_,I.free,I.om,fun p hp=>?_,tracked ⟨oL,hoL,I.free⟩ hs,by simpa using I.len⟩ ⟨_,hs,.inl rfl⟩
   · exact (hs.2 b (Nat.ne_of_lt (Nat.lt_of_lt_of_le (Heap.lt_size e) I.ok.above))).trans (I.base.keep b o e n hb hx)
   · obtain ⟨sl,e1⟩:=I.base.slot b o e n hb hx
     exact ⟨sl,(hs.2 b (Nat.ne_of_lt (Nat.lt_of_lt_of_le (Heap.lt_size e) I.ok.above))).trans e1⟩
   · obtain ⟨o',e1⟩:=I.base.there b o e hx
     exact ⟨o',(hs.2 b (Nat.ne_of_lt (Nat.lt_of_lt_of_le (Heap.lt_size e) I.ok.above))).trans e1⟩
   · by_cases hj:j=i
     · subst hj
       rw [hi] at e1; cases e1
       rw [List.getElem?_set_self hiσ] at e2
       cases e2
       exact ⟨u,r,.inl ⟨hk,by simp⟩⟩
     · rw [List.getElem?_set_ne (Ne.symm hj)] at e2
       obtain ⟨u',r',q⟩:=hl j y v' e1 e2 e3
       refine ⟨u',r',?_⟩
       rcases q with ⟨k,e⟩ | ⟨k,c,e,z⟩
       · refine .inl ⟨k,?_⟩
         have:y≠x:=fun e=>hj (DC hN e1 (e ▸ hi))
         simp [this,e]
       · exact .inr ⟨k,c,e,z.sameBut hs (cne y c e)⟩
   · obtain ⟨w',z⟩:=I.cell y c e
     exact ⟨w',z.sameBut hs (cne y c e)⟩
   · obtain ⟨e,n,ne,nf,d⟩:=I.pin p hp
     exact ⟨(hs.2 p.1 ne).trans e,n,ne,nf,d⟩
 · have hfn:X.fn x=true:=by
     rcases hf with z | z
     · exact z
     · rw [z] at hk; cases hk
   obtain ⟨c,hc⟩:=I.ok.has x (.inl hk)
   obtain ⟨w',z⟩:=I.cell x c hc
   refine wpAny_storeName_cell I.ok.kind hk hc z (fun h' hc' hs=>?_)
   obtain ⟨oc,hoc,RG⟩:=id z
   refine h { s with heap:=h' } ⟨I.ok,I.os,I.bare,⟨fun b o e n hb hx=>?_,fun b o e n hb hx=>?_,I.base.free,fun b o e hx=>?_,I.base.BQ,I.base.Au,I.base.BR⟩,⟨m,hn.sameBut hs (Ne.symm (cne x c hc)),fun j y v' e1 e2 e3=>?_⟩,fun y c' e=>?_,I.free,I.om,fun p hp=>?_,tracked ⟨oc,hoc,I.om x c hc⟩ hs,by simpa using I.len⟩ ⟨c,hs,.inr hc⟩
   · exact (hs.2 b (Nat.ne_of_lt (Nat.lt_of_lt_of_le (Heap.lt_size e) (I.ok.cab x c hfn hc)))).trans (I.base.keep b o e n hb hx)
   · obtain ⟨sl,e1⟩:=I.base.slot b o e n hb hx
     exact ⟨sl,(hs.2 b (Nat.ne_of_lt (Nat.lt_of_lt_of_le (Heap.lt_size e) (I.ok.cab x c hfn hc)))).trans e1⟩
   · obtain ⟨o',e1⟩:=I.base.there b o e hx
     exact ⟨o',(hs.2 b (Nat.ne_of_lt (Nat.lt_of_lt_of_le (Heap.lt_size e) (I.ok.cab x c hfn hc)))).trans e1⟩
   · by_cases hj:j=i
     · subst hj
       rw [hi] at e1; cases e1
       rw [List.getElem?_set_self hiσ] at e2
       cases e2
       exact ⟨u,r,.inr ⟨.inl hk,c,hc,hc'⟩⟩
     · rw [List.getElem?_set_ne (Ne.symm hj)] at e2
       obtain ⟨u',r',q⟩:=hl j y v' e1 e2 e3
       refine ⟨u',r',?_⟩
       rcases q with q | ⟨k,c',e,z'⟩
       · exact .inl q
       · refine .inr ⟨k,c',e,z'.sameBut hs ?_⟩
         rintro rfl
         exact hj (DC hN e1 (I.ok.inj _ _ _ e hc ▸ hi))
   · by_cases hcc:c'=c
     · subst hcc; exact ⟨_,hc'⟩
     · obtain ⟨w2,z2⟩:=I.cell y c' e
       exact ⟨w2,z2.sameBut hs hcc⟩
   · obtain ⟨e,n,ne,nf,d⟩:=I.pin p hp
     refine ⟨(hs.2 p.1 ?_).trans e,n,ne,nf,d⟩
     intro q
     rw [q,hoc] at e
     have q':oc=p.2:=Option.some.inj e
     exact d w' (by rw [← q']; exact RG)
theorem DD {M:Model} {A:Around} {E:Value→Shared→Prop} {i:Nat} {x:Str} {v:V} {u:Value} {Q:Unit→Shared→Prop} (I:Inv X pins σ H s) (hN:X.N.Nodup) (hi:X.N[i]?=some x) (hx:Loc X.env.scope x) (r:RelV v u)
   (h:∀ s',Inv X pins (σ.set i (some v)) H s'→Q () s') (hf:X.fn x=true∨X.env.scope.names.lookup x=some .local:=by first | exact .inl rfl | exact .inr rfl | assumption):wpAny M A (storeName X.env x u) Q E s:=
 A4 I hN hi hx r (fun s' I' _=>h s' I') hf
theorem Inv.Qd {s':Shared} {ch:List Addr} (I:Inv X pins σ H s) (ho:s'.os=s.os) (u:Un (frs X.stack) ch H H' s.heap s'.heap) (hok:HOk X.prog X.w H' s'.heap) (hg:AllBare s'.gens)
   (hch:∀ b∈ch,(b∈X.ex∨X.s₀.heap.objs.size≤b)∧b≠X.env.locals∧(∀ x c,X.env.cells.lookup x=some c→c≠b)∧∀ p∈X.pn ++ pins,p.1≠b):Inv X pins σ H' s':=by
 obtain ⟨h',g',d',t',o'⟩:=s'
 have e:o'=s.os:=ho
 subst e
 exact I.call (g':=g') (t':=t') (d':=d') u hok hg hch
end
noncomputable abbrev XK:=Value→Option Addr→Hp→Prop
noncomputable abbrev St:=List (Option V)
noncomputable abbrev VK:=V→Hp→Prop
noncomputable abbrev TE:=St→Hp→VK→Prop
noncomputable abbrev TT:=St→Hp→(Bool→Hp→Prop)→Prop
noncomputable abbrev TA:=St→Hp→(List V→Hp→Prop)→Prop
structure Ends where
 nx:St→Hp→Prop
 rt:VK
 bk:St→Hp→Prop:=fun _ _=>False
 ct:St→Hp→Prop:=fun _ _=>False
noncomputable abbrev TS:=Ends→St→Hp→Prop
noncomputable def EP (X:Cx) (pins:List (Addr × Obj)) (σ:St) (Q:VK) (u:Value) (s':Shared):Prop:=∃ v H',Inv X pins σ H' s'∧RelV v u∧Q v H'
noncomputable def TP (X:Cx) (pins:List (Addr × Obj)) (σ:St) (Q:Bool→Hp→Prop) (b:Bool) (s':Shared):Prop:=∃ H',Inv X pins σ H' s'∧Q b H'
noncomputable def AP (X:Cx) (pins:List (Addr × Obj)) (σ:St) (Q:List V→Hp→Prop) (us:List Value) (s':Shared):Prop:=∃ vs H',Inv X pins σ H' s'∧Vals vs us∧Q vs H'
noncomputable def SP (X:Cx) (pins:List (Addr × Obj)) (D:Ends) (f:Flow) (s':Shared):Prop:=
 match f with
 | .next=>∃ σ' H',Inv X pins σ' H' s'∧D.nx σ' H'
 | .brk=>∃ σ' H',Inv X pins σ' H' s'∧D.bk σ' H'
 | .cont=>∃ σ' H',Inv X pins σ' H' s'∧D.ct σ' H'
 | .ret u=>∃ v σ' H',Inv X pins σ' H' s'∧RelV v u∧D.rt v H'
noncomputable def PE (X:Cx) (e:Expr) (t:TE):Prop:=
 ∀ (pins:List (Addr × Obj)) (s:Shared) (σ:St) (H:Hp) (Q:VK),Inv X pins σ H s→t σ H Q→wpAny (model X.prog X.w) X.A (eval e X.env) (EP X pins σ Q) X.xe s
noncomputable def PT (X:Cx) (e:Expr) (t:TT):Prop:=
 ∀ (pins:List (Addr × Obj)) (s:Shared) (σ:St) (H:Hp) (Q:Bool→Hp→Prop),Inv X pins σ H s→t σ H Q→wpAny (model X.prog X.w) X.A (isTrue e X.env (eval e X.env)) (TP X pins σ Q) X.xe s
noncomputable def PW (X:Cx) (e:Expr) (t:TT):Prop:=
 ∀ (whole:Sem Value) (pins:List (Addr × Obj)) (s:Shared) (σ:St) (H:Hp) (Q:Bool→Hp→Prop),Inv X pins σ H s→t σ H Q→wpAny (model X.prog X.w) X.A (isTrue e X.env whole) (TP X pins σ Q) X.xe s
theorem PW.pt {X:Cx} {e:Expr} {t:TT} (h:PW X e t):PT X e t:=h _
noncomputable def PA (X:Cx) (es:List Expr) (t:TA):Prop:=
 ∀ (pos:Pos) (pins:List (Addr × Obj)) (s:Shared) (σ:St) (H:Hp) (Q:List V→Hp→Prop),Inv X pins σ H s→t σ H Q→wpAny (model X.prog X.w) X.A (spliced (backTo pos (starEach es X.env))) (AP X pins σ Q) X.xe s
noncomputable def PS (X:Cx) (st:Stmt) (t:TS):Prop:=
 ∀ (pins:List (Addr × Obj)) (s:Shared) (σ:St) (H:Hp) (D:Ends),Inv X pins σ H s→t D σ H→wpAny (model X.prog X.w) X.A (exec st X.env) (SP X pins D) X.xe s
noncomputable def PSs (X:Cx) (st:List Stmt) (t:TS):Prop:=
 ∀ (pins:List (Addr × Obj)) (s:Shared) (σ:St) (H:Hp) (D:Ends),Inv X pins σ H s→t D σ H→wpAny (model X.prog X.w) X.A (execs st X.env) (SP X pins D) X.xe s
theorem thn {α:Type} {t:Sem α} {Q Q':α→Shared→Prop} {M:Model} {A:Around} {E:Value→Shared→Prop} {s:Shared} (h:wpAny M A t Q E s) (hQ:∀ a s,Q a s→Q' a s):wpAny M A t Q' E s:=wpAny_mono h hQ fun _ _ x=>x
end L2
namespace L2
open PySem PySem.Spec PyProof.Rows
section
variable {X:Cx}
theorem bin {a b:Expr} {ta tb:TE} (ha:PE X a ta) (hb:PE X b tb) {pins:List (Addr × Obj)} {s:Shared} {σ:St} {H:Hp} {R:V→V→Hp→Prop} (I:Inv X pins σ H s) (h:ta σ H fun x H1=>tb σ H1 fun y H2=>R x y H2)
   {α:Type} {Q:α→Shared→Prop} {f:Value→Value→Sem α}
   (hf:∀ v u s2 x y H2,Inv X pins σ H2 s2→RelV x v→RelV y u→R x y H2→wpAny (model X.prog X.w) X.A (f v u) Q X.xe s2) :
   wpAny (model X.prog X.w) X.A (eval a X.env) (fun v s₁=>wpAny (model X.prog X.w) X.A (eval b X.env) (fun u s₂=>wpAny (model X.prog X.w) X.A (f v u) Q X.xe s₂) X.xe s₁) X.xe s:=by
 refine thn (ha pins s σ H _ I h) fun v s1 ⟨x,H1,I1,r1,q1⟩=>?_
 refine thn (hb pins s1 σ H1 _ I1 q1) fun u s2 ⟨y,H2,I2,r2,q2⟩=>?_
 exact hf v u s2 x y H2 I2 r1 r2 q2
noncomputable def vAt (Q:V→Prop):Option (Option V)→Prop
 | some (some v)=>Q v
 | _=>False
theorem Od {Q:V→Prop}:∀ {o:Option (Option V)},vAt Q o→∃ v,o=some (some v)∧Q v
 | some (some v),h=>⟨v,rfl,h⟩
 | some none,h=>h.elim
 | none,h=>h.elim
noncomputable def gD (i:Nat):TE:=fun σ H Q=>vAt (fun v=>Q v H) σ[i]?
noncomputable def tC (v:V):TE:=fun _ H Q=>Q v H
theorem Oe {i:Nat} {x:Str} {pos:Pos} (hN:X.N[i]?=some x) (hv:Vis X.env.scope x) (hd:(x == ("__debug__":Str))=false:=by decide) (hcd:(x == ("__classdict__":Str))=false:=by decide):PE X (.Name x pos) (gD i):=by
 intro pins s σ H Q I h
 obtain ⟨v,e,h⟩:=Od h
 obtain ⟨m,hn,hl⟩:=I.loc
 obtain ⟨u,r,l⟩:=hl i x v hN e hv
 have fin:EP X pins σ Q u s:=⟨v,H,I,r,h⟩
 rcases l with ⟨hk,hm⟩ | ⟨hk,c,hc,GR⟩
 · exact wpAny_Name (wpAny_loadName_local I.ok.kind hk hn hm fin) hd
 · rcases hk with hk | hk
   · exact wpAny_Name (wpAny_loadName_cell I.ok.kind hk hc GR fin) hd
   · exact wpAny_Name (wpAny_loadName_free I.ok.kind hk hc GR fin hcd) hd
theorem aj {i j pos}:PE X (.Constant (.int i) j pos) (tC (.int i)):=fun _ _ _ H _ I h=>wpAny_Constant_int ⟨.int i,H,I.tok _,⟨_,rfl⟩,h⟩
theorem A5 {b j pos}:PE X (.Constant (.bool b) j pos) (tC (.bl b)):=fun _ _ _ H _ I h=>Constant_bool ⟨.bl b,H,I,rfl,h⟩
theorem dW {j pos}:PE X (.Constant .none j pos) (tC .non):=fun _ _ _ H _ I h=>Constant_none ⟨.non,H,I,rfl,h⟩
theorem ba {x j pos}:PE X (.Constant (.str x) j pos) (tC (.str x)):=fun _ _ _ H _ I h=>Calls.Constant_str ⟨.str x,H,I.tok _,⟨_,rfl⟩,h⟩
noncomputable def Gl (X:Cx) (x:Str):Prop:=X.env.kindOf x=some .globalImplicit
theorem BV {E:Value→Shared→Prop} {pins:List (Addr × Obj)} {s:Shared} {σ:St} {H:Hp} {x:Str} {u:Value} {pos:Pos} {Q:Value→Shared→Prop} (I:Inv X pins σ H s) (hg:Gl X x) (hm:X.mg x=some u) (h:Q u s)
   (hd:(x == ("__debug__":Str))=false:=by decide):wpAny (model X.prog X.w) X.A (eval (.Name x pos) X.env) Q E s:=
 Calls.Name_function_global I.ok.kind hg (Calls.loadGlobal_global (by rw [I.ok.glob]; exact I.mod.glob.keeps I.bk) hm h) hd
theorem sR {E:Value→Shared→Prop} {pins:List (Addr × Obj)} {s:Shared} {σ:St} {H:Hp} {x:Str} {u:Value} {pos:Pos} {Q:Value→Shared→Prop} (I:Inv X pins σ H s) (hg:Gl X x) (hm:X.mg x=none) (hv:bootBuiltins x=some u) (h:Q u s)
   (hn:x≠"__name__":=by decide) (hd:(x == ("__debug__":Str))=false:=by decide):wpAny (model X.prog X.w) X.A (eval (.Name x pos) X.env) Q E s:=by
 obtain ⟨mb,h1,h2⟩:=I.mod.blt
 exact Calls.Name_function_global I.ok.kind hg (Calls.loadGlobal_builtin (by rw [I.ok.glob]; exact I.mod.glob.keeps I.bk) hm (by rw [I.ok.blt]; exact h1.keeps I.bk) ((h2 x hn).trans hv) h) hd
theorem tW {x:Str} {v:V} {u:Value} {pos:Pos} (hg:Gl X x) (hm:X.mg x=some u) (r:RelV v u) (hd:(x == ("__debug__":Str))=false:=by decide):PE X (.Name x pos) (tC v):=
 fun _ _ _ H _ I h=>BV I hg hm ⟨v,H,I,r,h⟩ hd
theorem BW {x:Str} {v:V} {u:Value} {pos:Pos} (hg:Gl X x) (hm:X.mg x=none) (hv:bootBuiltins x=some u) (r:RelV v u) (hn:x≠"__name__":=by decide) (hd:(x == ("__debug__":Str))=false:=by decide):PE X (.Name x pos) (tC v):=
 fun _ _ _ H _ I h=>sR I hg hm hv ⟨v,H,I,r,h⟩ hn hd
variable {a b:Expr} {ta tb:TE} {pos:Pos}
noncomputable def tB (t:TE):TT:=fun σ H Q=>t σ H fun x H1=>∃ c,x=.bl c∧Q c H1
theorem vV {e:Expr} {t:TE} (h:PE X e t) (he:∀ whole,isTrue e X.env whole=(do let v ← whole; standAt e.pos; holding [v] (truthy v)):=by intro _; rfl):PT X e (tB t):=by
 intro pins s σ H Q I hw
 refine isTrue_plain (thn (h pins s σ H _ I hw) fun v s1 ⟨x,H1,I1,r1,q1⟩=>?_) (he _)
 obtain ⟨d,rfl,q⟩:=q1
 cases r1
 exact wpAny_truthy_bool ⟨H1,I1,q⟩
variable {tA tB':TT} {rest:List Expr}
noncomputable def Of (t u:TT):TT:=fun σ H Q=>t σ H fun c H1=>if c=true then u σ H1 Q else Q false H1
noncomputable def tOr (t u:TT):TT:=fun σ H Q=>t σ H fun c H1=>if c=true then Q true H1 else u σ H1 Q
noncomputable def Qe (t:TT):TT:=fun σ H Q=>t σ H fun c H1=>Q (!c) H1
theorem pw_and1 (ha:PT X a tA):PW X (.BoolOp .And [a] pos) tA:=by
 intro wh pins s σ H Q I h
 refine isTrue_and (thn (ha pins s σ H Q I h) fun c s1 e=>?_)
 cases c with
 | true=>exact isTrue_and_nil e
 | false=>exact e
theorem pw_or1 (ha:PT X a tA):PW X (.BoolOp .Or [a] pos) tA:=by
 intro wh pins s σ H Q I h
 refine isTrue_or (thn (ha pins s σ H Q I h) fun c s1 e=>?_)
 cases c with
 | false=>exact isTrue_or_nil e
 | true=>exact e
theorem pw_and (ha:PT X a tA) (hb:PW X (.BoolOp .And (b :: rest) pos) tB'):PW X (.BoolOp .And (a :: b :: rest) pos) (Of tA tB'):=by
 intro wh pins s σ H Q I h
 refine isTrue_and (thn (ha pins s σ H _ I h) fun c s1 ⟨H1,I1,q1⟩=>?_)
 cases c with
 | true=>exact hb wh pins s1 σ H1 Q I1 q1
 | false=>exact ⟨H1,I1,q1⟩
theorem pw_or (ha:PT X a tA) (hb:PW X (.BoolOp .Or (b :: rest) pos) tB'):PW X (.BoolOp .Or (a :: b :: rest) pos) (tOr tA tB'):=by
 intro wh pins s σ H Q I h
 refine isTrue_or (thn (ha pins s σ H _ I h) fun c s1 ⟨H1,I1,q1⟩=>?_)
 cases c with
 | true=>exact ⟨H1,I1,q1⟩
 | false=>exact hb wh pins s1 σ H1 Q I1 q1
theorem Fi (ha:PT X a tA):PT X (.UnaryOp .Not a pos) (Qe tA):=by
 intro pins s σ H Q I h
 exact isTrue_not (ha pins s σ H (fun c H1=>Q (!c) H1) I h)
noncomputable def NA (ta tb:TE):TE:=fun σ H Q=>ta σ H fun x H1=>∃ c,x=.bl c∧if c=true then tb σ H1 Q else Q (.bl false) H1
noncomputable def Qf (ta tb:TE):TE:=fun σ H Q=>ta σ H fun x H1=>∃ c,x=.bl c∧if c=true then Q (.bl true) H1 else tb σ H1 Q
noncomputable def NB (ta:TE):TE:=fun σ H Q=>ta σ H fun x H1=>∃ c,x=.bl c∧Q (.bl (!c)) H1
noncomputable def tIf (t:TT) (ta tb:TE):TE:=fun σ H Q=>t σ H fun c H1=>if c=true then ta σ H1 Q else tb σ H1 Q
end
end L2
namespace L2
open PySem PySem.Spec PyProof.Rows
noncomputable def SqL (K:PySem.W.Frag) (H:Hp) (a:Addr) (xs:List V):Prop:=
 Rd H a (.lst xs)∨
   ∃ (o:Obj) (its:Array Value) (n:Nat),K.lookup a=some o∧o.cls=.type "list"∧o.dict=none∧o.data=.seq its n∧its.size≤sizeLine∧Vals xs its.toList
noncomputable def SqT (K:PySem.W.Frag) (H:Hp) (a:Addr) (xs:List V):Prop:=
 Rd H a (.tup xs)∨
   ∃ (o:Obj) (its:Array Value) (n:Nat),K.lookup a=some o∧o.cls=.type "tuple"∧o.data=.seq its n∧its.size≤sizeLine∧Vals xs its.toList
noncomputable def RH:Value→Option V
 | .none=>some .non
 | .bool b=>some (.bl b)
 | .int i _=>some (.int i)
 | .str x _=>some (.str x)
 | .bytes b _=>some (.byt b)
 | .float b _=>some (.flt b)
 | .ref a=>some (.ref a)
 | .type n=>some (.ty n)
 | _=>none
theorem RelV.abs {x:V} {u:Value} (r:RelV x u):RH u=some x:=by
 cases x with
 | non=>cases r; rfl
 | bl _=>cases r; rfl
 | int _=>obtain ⟨t,rfl⟩:=r; rfl
 | str _=>obtain ⟨t,rfl⟩:=r; rfl
 | byt _=>obtain ⟨t,rfl⟩:=r; rfl
 | flt _=>obtain ⟨t,rfl⟩:=r; rfl
 | ref _=>cases r; rfl
 | ty _=>cases r; rfl
theorem RelV.inj {x y:V} {u:Value} (r:RelV x u) (q:RelV y u):x=y:=Option.some.inj (r.abs.symm.trans q.abs)
theorem Vals.inj:∀ {xs ys:List V} {us:List Value},Vals xs us→Vals ys us→xs=ys
 | _,_,_,.nil,.nil=>rfl
 | _,_,_,.cons r t,.cons r' t'=>by rw [r.inj r',Vals.inj t t']
section
variable {X:Cx} {pins:List (Addr × Obj)} {σ:St} {H:Hp} {s:Shared} {a:Addr} {xs ys:List V}
theorem SqL.of {K:PySem.W.Frag} (h:H a=some (.lst xs)):SqL K H a xs:=.inl (.inl h)
theorem SqT.of {K:PySem.W.Frag} (h:H a=some (.tup xs)):SqT K H a xs:=.inl (.inl h)
theorem Inv.list (I:Inv X pins σ H s) (h:SqL X.K H a xs):∃ its:List Value,Vals xs its∧PlainL s.heap a its.toArray∧xs.length≤sizeLine:=by
 rcases h with h | ⟨o,its,n,hk,hc,hd,hs,hz,r⟩
 · obtain ⟨z,its,n,r,e⟩:=h.ok I.hok
   exact ⟨its,r,⟨_,n,e,rfl,rfl,rfl⟩,z⟩
 · refine ⟨its.toList,r,⟨o,n,I.kIn a o hk,hc,hd,by simpa using hs⟩,?_⟩
   have e:=r.length
   simp only [Array.length_toList] at e
   lia
theorem Inv.tuple (I:Inv X pins σ H s) (h:SqT X.K H a xs):∃ its:List Value,Vals xs its∧IsTup s.heap a its.toArray∧xs.length≤sizeLine:=by
 rcases h with h | ⟨o,its,n,hk,hc,hs,hz,r⟩
 · obtain ⟨z,its,r,p⟩:=h.ok I.hok
   exact ⟨its,r,p,z⟩
 · refine ⟨its.toList,r,⟨o,I.kIn a o hk,hc,n,by simpa using hs⟩,?_⟩
   have e:=r.length
   simp only [Array.length_toList] at e
   lia
theorem Inv.DE (I:Inv X pins σ H s) (h:SqL X.K H a xs) (h':SqL X.K H a ys):xs=ys:=by
 obtain ⟨its,r,⟨o,n,e,_,_,d⟩,_⟩:=I.list h
 obtain ⟨its',r',⟨o',n',e',_,_,d'⟩,_⟩:=I.list h'
 rw [e] at e'; cases e'
 rw [d] at d'
 injection d' with d1 _
 have:its=its':=by simpa using congrArg Array.toList d1
 subst this
 exact r.inj r'
theorem Inv.Ii (I:Inv X pins σ H s) (h:SqT X.K H a xs) (h':SqT X.K H a ys):xs=ys:=by
 obtain ⟨its,r,⟨o,e,_,n,d⟩,_⟩:=I.tuple h
 obtain ⟨its',r',⟨o',e',_,n',d'⟩,_⟩:=I.tuple h'
 rw [e] at e'; cases e'
 rw [d] at d'
 injection d' with d1 _
 have:its=its':=by simpa using congrArg Array.toList d1
 subst this
 exact r.inj r'
end
noncomputable abbrev Cx.Av (X:Cx) (E:Value→Shared→Prop):Cx:={ X with xe:=E }
noncomputable abbrev Cx.nox (X:Cx):Cx:=X.Av fun _ _=>False
theorem Cx.Ok.Av {X:Cx} (ok:X.Ok) (E:Value→Shared→Prop):(X.Av E).Ok:=
 ⟨ok.mod,ok.kind,ok.glob,ok.blt,ok.above,ok.inj,ok.has,ok.cab,ok.hd,ok.frames,ok.stk,ok.exf,ok.bs,ok.bsz,ok.JD,ok.My,ok.xM,ok.frf⟩
theorem Cx.Ok.oo {X:Cx} {E:Value→Shared→Prop} (ok:(X.Av E).Ok):X.Ok:=
 ⟨ok.mod,ok.kind,ok.glob,ok.blt,ok.above,ok.inj,ok.has,ok.cab,ok.hd,ok.frames,ok.stk,ok.exf,ok.bs,ok.bsz,ok.JD,ok.My,ok.xM,ok.frf⟩
section
variable {X:Cx} {pins:List (Addr × Obj)} {σ:St} {H:Hp} {s:Shared} {E:Value→Shared→Prop}
theorem Inv.Av (I:Inv X pins σ H s) (E:Value→Shared→Prop):Inv (X.Av E) pins σ H s:=⟨I.ok.Av E,I.os,I.bare,I.base,I.loc,I.cell,I.free,I.om,I.pin,I.hok,I.len⟩
theorem Inv.oo (I:Inv (X.Av E) pins σ H s):Inv X pins σ H s:=⟨I.ok.oo,I.os,I.bare,I.base,I.loc,I.cell,I.free,I.om,I.pin,I.hok,I.len⟩
theorem SP.oo {D:Ends} {f:Flow} {s':Shared} (h:SP (X.Av E) pins D f s'):SP X pins D f s':=by
 cases f with
 | next=>obtain ⟨σ',H',I,q⟩:=h; exact ⟨σ',H',I.oo,q⟩
 | brk=>obtain ⟨σ',H',I,q⟩:=h; exact ⟨σ',H',I.oo,q⟩
 | cont=>obtain ⟨σ',H',I,q⟩:=h; exact ⟨σ',H',I.oo,q⟩
 | ret u=>obtain ⟨v,σ',H',I,r,q⟩:=h; exact ⟨v,σ',H',I.oo,r,q⟩
theorem PSs.nox {st:List Stmt} {t:TS} (h:PSs X.nox st t):PSs X st t:=fun pins s σ H D I hw=>
 wpAny_mono (h pins s σ H D (I.Av _) hw) (fun _ _ q=>q.oo) fun _ _ z=>False.elim z
end
section
variable {X:Cx} {st:Stmt} {rest:List Stmt} {t u:TS} {e:Expr} {te:TE} {pos:Pos}
noncomputable def JE:TS:=fun D σ H=>D.nx σ H
noncomputable def Mz (t u:TS):TS:=fun D σ H=>t { D with nx:=u D } σ H
theorem a9:PSs X [] JE:=fun _ _ σ H _ I h=>wpAny_execs_nil ⟨σ,H,I,h⟩
theorem ag (h1:PS X st t) (h2:PSs X rest u):PSs X (st :: rest) (Mz t u):=by
 intro pins s σ H D I h
 refine wpAny_execs_cons (thn (h1 pins s σ H { D with nx:=u D } I h) fun f s1 q=>?_)
 cases f with
 | next=>
   obtain ⟨σ',H',I',q⟩:=q
   exact h2 pins s1 σ' H' D I' q
 | ret v=>exact q
 | brk=>exact q
 | cont=>exact q
theorem au (h1:PS X st t):PSs X [st] t:=by
 intro pins s σ H D I h
 refine wpAny_execs_cons (thn (h1 pins s σ H D I h) fun f s1 q=>?_)
 cases f with
 | next=>exact wpAny_execs_nil q
 | ret v=>exact q
 | brk=>exact q
 | cont=>exact q
noncomputable def JF:TS:=fun D σ H=>D.bk σ H
noncomputable def NC:TS:=fun D σ H=>D.ct σ H
theorem Inv.quiet {pins:List (Addr × Obj)} {σ:St} {H:Hp} {s:Shared} (I:Inv X pins σ H s):interactive X.env=false:=by simp [interactive,I.ok.kind]
noncomputable def JG (te:TE):TS:=fun D σ H=>te σ H fun _ H1=>D.nx σ H1
theorem b8 (he:PE X e te) (hs:swapsWith e none pos.line X.env=pure false:=by rfl):PS X (.Expr e pos) (JG te):=by
 intro pins s σ H D I h
 exact wpAny_Expr_any (thn (he pins s σ H _ I h) fun v s1 ⟨x,H1,I1,r1,q1⟩=>⟨σ,H1,I1,q1⟩) I.quiet hs
noncomputable def Og (te:TE):TS:=fun D σ H=>te σ H D.rt
theorem aV (he:PE X e te):PS X (.Return (some e) pos) (Og te):=by
 intro pins s σ H D I h
 exact wpAny_Return_some (thn (he pins s σ H _ I h) fun v s1 ⟨x,H1,I1,r1,q1⟩=>⟨x,σ,H1,I1,r1,q1⟩)
noncomputable def ND:TS:=fun D _ H=>D.rt .non H
noncomputable def JH (c:TT) (t u:TS):TS:=fun D σ H=>c σ H fun b H1=>if b=true then t D σ H1 else u D σ H1
theorem bA {c:Expr} {a b:List Stmt} {tc:TT} (hc:PT X c tc) (ha:PSs X a t) (hb:PSs X b u):PS X (.If c a b pos) (JH tc t u):=by
 intro pins s σ H D I h
 refine wpAny_If (thn (hc pins s σ H _ I h) fun d s1 ⟨H1,I1,q1⟩=>?_)
 cases d with
 | true=>exact ha pins s1 σ H1 D I1 q1
 | false=>exact hb pins s1 σ H1 D I1 q1
end
noncomputable abbrev TG:=V→St→Hp→(St→Hp→Prop)→Prop
noncomputable abbrev TGs:=List V→St→Hp→(St→Hp→Prop)→Prop
noncomputable def PG (X:Cx) (target:Expr) (t:TG):Prop:=
 ∀ (pins:List (Addr × Obj)) (s:Shared) (σ:St) (H:Hp) (v:V) (u:Value) (Q:St→Hp→Prop),Inv X pins σ H s→RelV v u→t v σ H Q→
   wpAny (model X.prog X.w) X.A (assign target X.env u) (fun _ s'=>∃ σ' H',Inv X pins σ' H' s'∧Q σ' H') X.xe s
noncomputable def PGs (X:Cx) (ts:List Expr) (t:TGs):Prop:=
 ∀ (pins:List (Addr × Obj)) (s:Shared) (σ:St) (H:Hp) (vs:List V) (us:List Value) (Q:St→Hp→Prop),Inv X pins σ H s→Vals vs us→t vs σ H Q→
   wpAny (model X.prog X.w) X.A (assignInOrder ((assignEach ts X.env).map (·.2)) us) (fun _ s'=>∃ σ' H',Inv X pins σ' H' s'∧Q σ' H') X.xe s
noncomputable abbrev Oh:=V→V→V→Hp→(Hp→Prop)→Prop
noncomputable def Qg (X:Cx) (t:Oh):Prop:=
 ∀ (pins:List (Addr × Obj)) (s:Shared) (σ:St) (H:Hp) (o i v:V) (ov iv u:Value) (Q:Hp→Prop),Inv X pins σ H s→RelV o ov→RelV i iv→RelV v u→t o i v H Q→
   wpAny (model X.prog X.w) X.A (setItem ov iv u) (fun _ s'=>∃ H',Inv X pins σ H' s'∧Q H') X.xe s
noncomputable abbrev TIp:=V→V→Hp→VK→Prop
section
variable {X:Cx} {pos:Pos}
noncomputable def gh (i:Nat):TG:=fun v σ H Q=>Q (σ.set i (some v)) H
theorem br {i:Nat} {x:Str} (hN:X.N.Nodup) (hi:X.N[i]?=some x) (hx:Loc X.env.scope x) (hf:X.fn x=true∨X.env.scope.names.lookup x=some .local:=by first | exact .inl rfl | exact .inr rfl | assumption):PG X (.Name x pos) (gh i):=by
 intro pins s σ H v u Q I r h
 exact wpAny_assign_Name (DD I hN hi hx r (fun s' I'=>⟨_,H,I',h⟩) hf)
noncomputable def Oi:TGs:=fun vs σ H Q=>vs=[]∧Q σ H
noncomputable def JI (t:TG) (u:TGs):TGs:=fun vs σ H Q=>∃ v r,vs=v :: r∧t v σ H fun σ' H'=>u r σ' H' Q
theorem lP:PGs X [] Oi:=by
 intro pins s σ H vs us Q I r h
 obtain ⟨e,h⟩:=h
 subst e
 cases r
 exact assignInOrder_nil ⟨σ,H,I,h⟩
theorem cC {e:Expr} {es:List Expr} {t:TG} {u:TGs} (h1:PG X e t) (h2:PGs X es u)
   (hs:(assignEach (e :: es) X.env).map (·.2)=assign e X.env :: (assignEach es X.env).map (·.2):=by rfl):PGs X (e :: es) (JI t u):=by
 intro pins s σ H vs us Q I r h
 obtain ⟨v,vr,e1,h⟩:=h
 subst e1
 cases r with
 | cons r rr=>
   rw [hs]
   refine assignInOrder_cons (thn (h1 pins s σ H _ _ _ I r h) fun _ s1 ⟨σ1,H1,I1,q1⟩=>?_)
   exact h2 pins s1 σ1 H1 _ _ Q I1 rr q1
noncomputable def Oj (K:PySem.W.Frag) (n:Nat) (t:TGs):TG:=fun v σ H Q=>∃ a xs,v=.ref a∧SqT K H a xs∧xs.length=n∧t xs σ H Q
theorem Fj {es:List Expr} {k:Nat} {t:TGs} {n:Nat} (hc:X.calm=true) (h:PGs X es t)
   (hn:(assignEach es X.env).length=n:=by rfl) (hst:(assignEach es X.env).findIdx? (·.1)=none:=by rfl):PG X (.Tuple es k pos) (Oj X.K n t):=by
 intro pins s σ H v u Q I r hw
 obtain ⟨a,xs,e1,hq,hl,hw⟩:=hw
 subst e1
 cases r
 obtain ⟨its,rv,ht,hz⟩:=I.tuple hq
 refine assign_Tuple_tuple (I.ok.hd hc) ht (by simp [hn,← hl,rv.length]) hst fun h' hx=>?_
 have I1:Inv X pins σ H { s with heap:=h' }:=I.kept (t':=s.toks) fun b o e=>hx b o (Nat.ne_of_lt (Heap.lt_size e)) e
 exact h pins _ σ H xs _ Q I1 (by simpa using rv) hw
noncomputable def Ol (to ti:TE) (t:Oh):TG:=fun v σ H Q=>to σ H fun o H1=>ti σ H1 fun i H2=>t o i v H2 fun H3=>Q σ H3
theorem Fl {o i:Expr} {to ti:TE} {t:Oh} (ho:PE X o to) (hi:PE X i ti) (hs:Qg X t)
   (ha:∀ v,assign (.Subscript o i pos) X.env v=(do
     let ov ← holding [v] (eval o X.env)
     let iv ← holding [v,ov] (eval i X.env)
     standAt pos
     holding [v,ov,iv] (setItem ov iv v)
     release [v,ov,iv] []):=by intro _; rfl):PG X (.Subscript o i pos) (Ol to ti t):=by
 intro pins s σ H v u Q I r h
 rw [ha]
 refine wpAny_bind (wpAny_holding (thn (ho pins s σ H _ I h) fun ov s1 ⟨x,H1,I1,r1,q1⟩=>?_))
 refine wpAny_bind (wpAny_holding (thn (hi pins s1 σ H1 _ I1 q1) fun iv s2 ⟨y,H2,I2,r2,q2⟩=>?_))
 refine wpAny_bind (wpAny_standAt (wpAny_bind (wpAny_holding (thn (hs pins s2 σ H2 x y v ov iv u _ I2 r1 r2 r q2) fun _ s3 ⟨H3,I3,q3⟩=>?_))))
 exact wpAny_release ⟨σ,H3,I3,q3⟩
noncomputable def JJ (te:TE) (g:TG):TS:=fun D σ H=>te σ H fun x H1=>g x σ H1 D.nx
theorem ou {tg e:Expr} {te:TE} {g:TG} (he:PE X e te) (hg:PG X tg g) (hs:swapsWithSole [tg] e pos.line X.env=pure false:=by rfl) (hw:swappedStores [tg] e X.env=pure none:=by rfl)
   (h1:(assignEach [tg] X.env).map (·.2)=[assign tg X.env]:=by rfl):PS X (.Assign [tg] e pos) (JJ te g):=by
 intro pins s σ H D I h
 refine wpAny_Assign_stores (thn (he pins s σ H _ I h) fun v s1 ⟨x,H1,I1,r1,q1⟩=>?_) hs hw
 rw [h1]
 exact thn (hg pins s1 σ H1 x v _ I1 r1 q1) fun _ s2 q=>q
theorem aR {i:Nat} {x:Str} {e:Expr} {te:TE} {pos':Pos} (hN:X.N.Nodup) (hi:X.N[i]?=some x) (hx:Loc X.env.scope x) (he:PE X e te) (hs:swapsWith e (some (.Name x pos')) pos.line X.env=pure false:=by rfl) (hf:X.fn x=true∨X.env.scope.names.lookup x=some .local:=by first | exact .inl rfl | exact .inr rfl | assumption) :
   PS X (.Assign [.Name x pos'] e pos) (JJ te (gh i)):=by
 intro pins s σ H D I h
 refine wpAny_Assign_Name (thn (he pins s σ H _ I h) fun v s1 ⟨y,H1,I1,r1,q1⟩=>?_) hs
 exact DD I1 hN hi hx r1 (fun s2 I2=>⟨_,H1,I2,q1⟩) hf
noncomputable def Qh (i:Nat) (te:TE) (ti:TIp):TS:=fun D σ H=>∃ x,σ[i]?=some (some x)∧te σ H fun y H1=>ti x y H1 fun z H2=>D.nx (σ.set i (some z)) H2
end
section
variable {X:Cx} {pos:Pos}
noncomputable def Fm (c:TT) (tb:TS):TS:=fun D σ H=>∃ W:Nat→St→Hp→Prop,(∃ m,W m σ H)∧∀ m σ H,W m σ H→
 c σ H fun b H1=>if b=true then ∃ N:St→Hp→Prop,(∀ σ' H',N σ' H'→∃ m',m' < m∧W m' σ' H')∧tb { D with nx:=N,ct:=N,bk:=D.nx } σ H1 else D.nx σ H1
theorem tX {c:Expr} {body:List Stmt} {tc:TT} {tb:TS} (hp:PassesOwn (model X.prog X.w) X.A X.env X.xe) (hc:PT X c tc) (hb:PSs X body tb):PS X (.While c body [] pos) (Fm tc tb):=by
 intro pins s σ H D I h
 obtain ⟨W,⟨m0,w0⟩,turn⟩:=h
 refine wpAny_While (codeAny_whileLoop (fun n s'=>∃ σ' H',Inv X pins σ' H' s'∧W n σ' H') ?_ m0 ⟨σ,H,I,w0⟩)
 rintro n s1 ⟨σ1,H1,I1,w1⟩
 refine wpAny_passesOwn hp (thn (hc pins s1 σ1 H1 _ I1 (turn n σ1 H1 w1)) fun b s2 ⟨H2,I2,q2⟩=>?_)
 cases b with
 | true=>
   obtain ⟨N,hN,q2⟩:=q2
   rw [if_pos rfl]
   refine wpAny_passesOwn hp (thn (hb pins s2 σ1 H2 _ I2 q2) fun f s3 q3=>?_)
   cases f with
   | next=>
     obtain ⟨σ3,H3,I3,n3⟩:=q3
     obtain ⟨m',hm,w3⟩:=hN σ3 H3 n3
     exact ⟨m',hm,σ3,H3,I3,w3⟩
   | cont=>
     obtain ⟨σ3,H3,I3,n3⟩:=q3
     obtain ⟨m',hm,w3⟩:=hN σ3 H3 n3
     exact ⟨m',hm,σ3,H3,I3,w3⟩
   | brk=>exact q3
   | ret v=>exact q3
 | false=>
   rw [if_neg Bool.false_ne_true]
   exact wpAny_execs_nil ⟨σ1,H2,I2,q2⟩
end
structure It where
 go:Nat→Hp→Prop
 yld:Nat→Hp→V→Hp→Prop
 stop:Nat→Hp→Prop
noncomputable def tY (X:Cx) (pins:List (Addr × Obj)) (H:Hp) (b:Addr):Prop:=
 H b=none∧b≠X.env.locals∧b ∉ X.fs∧(b∈X.ex∨X.s₀.heap.objs.size≤b)∧(∀ x c,X.env.cells.lookup x=some c→c≠b)∧∀ p∈X.pn ++ pins,p.1≠b
theorem Inv.JK {X:Cx} {pins:List (Addr × Obj)} {σ:St} {H H':Hp} {s:Shared} {b:Addr} (I:Inv X pins σ H s) (hb:s.heap.objs.size≤b) (hn:H' b=none):tY X pins H' b:=by
 refine ⟨hn,Nat.ne_of_gt (Nat.lt_of_lt_of_le I.lt hb),I.RD hb,.inr (Nat.le_trans I.sz hb),fun x c e z=>?_,fun p hp z=>?_⟩
 · obtain ⟨v,q⟩:=I.cell x c e
   exact absurd (Nat.lt_of_lt_of_le q.lt (by rw [z]; exact hb)) (Nat.lt_irrefl _)
 · exact absurd (Nat.lt_of_lt_of_le (Heap.lt_size (I.pin p hp).1) (by rw [z]; exact hb)) (Nat.lt_irrefl _)
structure Turn (P:Program) (w:World) (K:PySem.W.Frag) (tg:Expr) (J:It) (fp:List Addr) (it:Addr) (tn:Nat→Heap→Prop):Prop where
 mem:it∈fp
 obj:∀ i h,tn i h→∀ b∈fp,∃ o,h.get? b=some o∧∀ v,o.data≠.cell v
 keep:∀ i h h',tn i h→(∀ b∈fp,∀ o,h.get? b=some o→h'.get? b=some o)→tn i h'
 item:∀ (X:Cx),X.prog=P→X.w=w→X.K=K→X.calm=true→∀ (i:Nat) (pins:List (Addr × Obj)) (s:Shared) (σ:St) (H:Hp) (E:Value→Shared→Prop),Inv X pins σ H s→(∀ b∈fp,tY X pins H b)→tn i s.heap→J.go i H→
   wpAny (model P w) X.A (pyNext (.ref it)) (fun r s1=>∃ u,r=some u∧
     wpAny (model P w) X.A (letOwnedTupleGo tg (.ref it) u) (fun _ s2=>∃ x H',Inv X pins σ H' s2∧RelV x u∧J.yld i H x H'∧tn (i + 1) s2.heap∧∀ b∈fp,H' b=none) E s1) E s
 done:∀ (X:Cx),X.prog=P→X.w=w→X.K=K→X.calm=true→∀ (i:Nat) (pins:List (Addr × Obj)) (s:Shared) (σ:St) (H:Hp) (E:Value→Shared→Prop),Inv X pins σ H s→(∀ b∈fp,tY X pins H b)→tn i s.heap→J.stop i H→
   wpAny (model P w) X.A (pyNext (.ref it)) (fun r s1=>r=none∧Inv X pins σ H s1) E s
 self:∀ (A:Around) (i:Nat) (s:Shared) (Q:Value→Shared→Prop) (E:Value→Shared→Prop),tn i s.heap→Q (.ref it) s→wpAny (model P w) A (pyIter (.ref it)) Q E s
noncomputable abbrev TI:=St→Hp→(It→Hp→Prop)→Prop
noncomputable def PIE (X:Cx) (pins:List (Addr × Obj)) (σ:St) (tg:Expr) (R:It→Hp→Prop) (itv:Value) (s2:Shared):Prop:=
 ∃ (it:Addr) (fp:List Addr) (tn:Nat→Heap→Prop) (J:It) (H':Hp),itv=.ref it∧Inv X pins σ H' s2∧Turn X.prog X.w X.K tg J fp it tn∧tn 0 s2.heap∧(∀ b∈fp,tY X pins H' b)∧R J H'
noncomputable def PI (X:Cx) (tg iter:Expr) (wi:TI):Prop:=
 ∀ (pins:List (Addr × Obj)) (s:Shared) (σ:St) (H:Hp) (R:It→Hp→Prop),Inv X pins σ H s→wi σ H R→
   wpAny (model X.prog X.w) X.A (eval iter X.env) (fun v s1=>wpAny (model X.prog X.w) X.A (pyIter v) (PIE X pins σ tg R) X.xe s1) X.xe s
theorem JL {M:Model} {A:Around} {E:Value→Shared→Prop} {s:Shared} {tg:Expr} {it:Addr} {u:Value} {o:Obj} {n:String} {vs:Array Value} {Q:Unit→Shared→Prop} (ho:s.heap.get? it=some o) (hc:o.cls=.type n) (hd:o.data=.fields vs)
   (hn:["enumerate", "zip", "dict_itemiterator", "dict_reverseitemiterator", "odict_iterator", "itertools.zip_longest", "itertools.pairwise"].contains n=false) (hQ:Q () s):wpAny M A (letOwnedTupleGo tg (.ref it) u) Q E s:=by
 unfold letOwnedTupleGo
 cases tg <;> first
   | exact wpAny_pure hQ
   | (cases u <;> first
       | exact wpAny_pure hQ
       | (refine wpAny_bind (wpAny_load ho ?_)
          rw [hc,hd]
          show wpAny M A (if (["enumerate", "zip", "dict_itemiterator", "dict_reverseitemiterator", "odict_iterator", "itertools.zip_longest", "itertools.pairwise"].contains n && vs[0]? == some (rawInt _))=true then _ else _) Q E s
          rw [if_neg (by intro h; rw [hn,Bool.false_and] at h; cases h)]
          exact wpAny_pure hQ))
noncomputable def Itl (K:PySem.W.Frag) (a:Addr):It:=
 ⟨fun i H=>∃ xs x,SqL K H a xs∧xs[i]?=some x,fun i H x H'=>H'=H∧∀ xs,SqL K H a xs→xs[i]?=some x,fun i H=>∃ xs,SqL K H a xs∧xs.length≤i⟩
noncomputable def Itt (K:PySem.W.Frag) (a:Addr):It:=
 ⟨fun i H=>∃ xs x,SqT K H a xs∧xs[i]?=some x,fun i H x H'=>H'=H∧∀ xs,SqT K H a xs→xs[i]?=some x,fun i H=>∃ xs,SqT K H a xs∧xs.length≤i⟩
noncomputable def Itr (lo:Int) (n:Nat):It:=⟨fun i _=>i < n,fun i H x H'=>H'=H∧x=.int (lo + i),fun i _=>n≤i⟩
theorem Ij {P:Program} {w:World} {K:PySem.W.Frag} {tg:Expr} (a it:Addr):Turn P w K tg (Itl K a) [it] it (fun i h=>h.IsListIter it a i) where
 mem:=by simp
 obj:=fun i h st b hb=>by
   have e:b=it:=by simpa using hb
   subst e
   obtain ⟨o,e,c,d⟩:=st
   exact ⟨o,e,fun v z=>by rw [d] at z; cases z⟩
 keep:=fun i h h' st k=>st.at fun o e=>k it (by simp) o e
 item:=by
   intro X hP hw hK hc i pins s σ H E I hf st hg
   subst hP hw hK
   obtain ⟨xs,x,hq,hx⟩:=hg
   obtain ⟨its,rv,p,hz⟩:=I.list hq
   obtain ⟨u,hu,ru⟩:=rv.get hx
   obtain ⟨f0,f1,f2,f3,f4,f5⟩:=hf it (by simp)
   refine wpAny_pyNext_list_item st p.isList (x:=u) (by simpa using hu) fun h' st' sb=>?_
   have I1:Inv X pins σ H { s with heap:=h' }:=I.turned (t':=s.toks) (fun b o hb e=>(sb.2 b hb).trans e) f0 f1 f3 f4 f5
   obtain ⟨o,e,c,d⟩:=id st'
   exact ⟨u,rfl,JL (s:={ s with heap:=h' }) e c d (by decide) ⟨x,H,I1,ru,⟨rfl,fun ys hy=>by rw [I.DE hy hq]; exact hx⟩,st',fun b hb=>(hf b hb).1⟩⟩
 done:=by
   intro X hP hw hK hc i pins s σ H E I hf st hg
   subst hP hw hK
   obtain ⟨xs,hq,hx⟩:=hg
   obtain ⟨its,rv,p,hz⟩:=I.list hq
   obtain ⟨f0,f1,f2,f3,f4,f5⟩:=hf it (by simp)
   have hl:=rv.length
   exact wpAny_pyNext_list_end (I.ok.hd hc) st p.isList (by simp; lia) fun h' eb=>⟨rfl,I.turned (t':=s.toks) (fun b o hb e=>eb b o hb e) f0 f1 f3 f4 f5⟩
 self:=fun _ _ _ _ _ st h=>wpAny_pyIter_listiter st h
theorem Fn {P:Program} {w:World} {K:PySem.W.Frag} {tg:Expr} (a it:Addr):Turn P w K tg (Itt K a) [it] it (fun i h=>h.IsTupleIter it a i) where
 mem:=by simp
 obj:=fun i h st b hb=>by
   have e:b=it:=by simpa using hb
   subst e
   obtain ⟨o,e,c,d⟩:=st
   exact ⟨o,e,fun v z=>by rw [d] at z; cases z⟩
 keep:=fun i h h' st k=>st.at fun o e=>k it (by simp) o e
 item:=by
   intro X hP hw hK hc i pins s σ H E I hf st hg
   subst hP hw hK
   obtain ⟨xs,x,hq,hx⟩:=hg
   obtain ⟨its,rv,p,hz⟩:=I.tuple hq
   obtain ⟨u,hu,ru⟩:=rv.get hx
   obtain ⟨f0,f1,f2,f3,f4,f5⟩:=hf it (by simp)
   refine wpAny_pyNext_tuple_item st (show s.heap.IsTuple a its.toArray from p) (x:=u) (by simpa using hu) fun h' st' sb=>?_
   have I1:Inv X pins σ H { s with heap:=h' }:=I.turned (t':=s.toks) (fun b o hb e=>(sb.2 b hb).trans e) f0 f1 f3 f4 f5
   obtain ⟨o,e,c,d⟩:=id st'
   exact ⟨u,rfl,JL (s:={ s with heap:=h' }) e c d (by decide) ⟨x,H,I1,ru,⟨rfl,fun ys hy=>by rw [I.Ii hy hq]; exact hx⟩,st',fun b hb=>(hf b hb).1⟩⟩
 done:=by
   intro X hP hw hK hc i pins s σ H E I hf st hg
   subst hP hw hK
   obtain ⟨xs,hq,hx⟩:=hg
   obtain ⟨its,rv,p,hz⟩:=I.tuple hq
   obtain ⟨f0,f1,f2,f3,f4,f5⟩:=hf it (by simp)
   have hl:=rv.length
   exact wpAny_pyNext_tuple_end (I.ok.hd hc) st (show s.heap.IsTuple a its.toArray from p) (by simp; lia) fun h' eb=>⟨rfl,I.turned (t':=s.toks) (fun b o hb e=>eb b o hb e) f0 f1 f3 f4 f5⟩
 self:=fun _ _ _ _ _ st h=>wpAny_pyIter_tupleiter st h
theorem Fo {P:Program} {w:World} {K:PySem.W.Frag} {tg:Expr} (it:Addr) (lo:Int) (n:Nat):Turn P w K tg (Itr lo n) [it] it (fun i h=>IsRangeIter h it (lo + (i:Nat) * 1) ((n:Int) - (i:Nat)) 1) where
 mem:=by simp
 obj:=fun i h st b hb=>by
   have e:b=it:=by simpa using hb
   subst e
   exact ⟨_,st,fun v z=>by
     have z':Data.fields _=Data.cell v:=z
     cases z'⟩
 keep:=fun i h h' st k=>k it (by simp) _ st
 item:=by
   intro X hP hw hK hc i pins s σ H E I hf st hg
   subst hP hw hK
   obtain ⟨f0,f1,f2,f3,f4,f5⟩:=hf it (by simp)
   have W:=Walks.range (prog:=X.prog) (w:=X.w) (I.ok.hd hc) it lo 1 n
   refine W.item i s _ _ hg st fun v h' tk hv st' kk=>?_
   obtain ⟨t,rfl⟩:=hv
   have I1:Inv X pins σ H { s with heap:=h',toks:=tk }:=I.turned (fun b o hb e=>kk b o (by simpa using hb) e) f0 f1 f3 f4 f5
   refine ⟨_,rfl,JL (s:={ s with heap:=h',toks:=tk }) (n:="range_iterator") st' rfl rfl (by decide) ⟨.int (lo + i),H,I1,⟨t,?_⟩,⟨rfl,rfl⟩,st',fun b hb=>(hf b hb).1⟩⟩
   rw [Int.mul_one]
 done:=by
   intro X hP hw hK hc i pins s σ H E I hf st hg
   subst hP hw hK
   obtain ⟨f0,f1,f2,f3,f4,f5⟩:=hf it (by simp)
   exact wpAny_pyNext_range_end (I.ok.hd hc) st (by have:n≤i:=hg; lia) fun h' eb=>⟨rfl,I.turned (t':=s.toks) (fun b o hb e=>eb b o hb e) f0 f1 f3 f4 f5⟩
 self:=fun _ _ _ _ _ st h=>wpAny_pyIter_rangeiter st h
end L2
namespace L2
open PySem PySem.Spec PyProof.Rows
section
variable {X:Cx} {tg:Expr}
noncomputable def GS (K:PySem.W.Frag) (tl:TE):TI:=fun σ H R=>tl σ H fun x H1=>∃ a,x=.ref a∧(∃ xs,SqL K H1 a xs)∧R (Itl K a) H1
noncomputable def Qi (K:PySem.W.Frag) (tl:TE):TI:=fun σ H R=>tl σ H fun x H1=>∃ a,x=.ref a∧(∃ xs,SqT K H1 a xs)∧R (Itt K a) H1
theorem eQ {l:Expr} {tl:TE} (hl:PE X l tl):PI X tg l (GS X.K tl):=by
 intro pins s σ H R I h
 refine thn (hl pins s σ H _ I h) fun v s1 ⟨x,H1,I1,r1,q1⟩=>?_
 obtain ⟨a,e,⟨xs,hq⟩,q⟩:=q1
 subst e
 cases r1
 obtain ⟨its,rv,p,hz⟩:=I1.list hq
 refine wpAny_pyIter_list p.isList ?_
 refine ⟨s1.heap.objs.size,[s1.heap.objs.size],_,_,H1,rfl,I1.kept (t':=s1.toks) fun b o e=>Heap.get?_push_of_some _ e,Ij a _,⟨_,Heap.get?_push_size _ rfl,rfl,rfl⟩,fun b hb=>?_,q⟩
 have e:b=s1.heap.objs.size:=by simpa using hb
 subst e
 exact I1.JK (Nat.le_refl _) (I1.hok.fresh (Nat.le_refl _))
theorem Om {l:Expr} {tl:TE} (hl:PE X l tl):PI X tg l (Qi X.K tl):=by
 intro pins s σ H R I h
 refine thn (hl pins s σ H _ I h) fun v s1 ⟨x,H1,I1,r1,q1⟩=>?_
 obtain ⟨a,e,⟨xs,hq⟩,q⟩:=q1
 subst e
 cases r1
 obtain ⟨its,rv,p,hz⟩:=I1.tuple hq
 refine wpAny_pyIter_tuple (show s1.heap.IsTuple a its.toArray from p) ?_
 refine ⟨s1.heap.objs.size,[s1.heap.objs.size],_,_,H1,rfl,I1.kept (t':=s1.toks) fun b o e=>Heap.get?_push_of_some _ e,Fn a _,⟨_,Heap.get?_push_size _ rfl,rfl,rfl⟩,fun b hb=>?_,q⟩
 have e:b=s1.heap.objs.size:=by simpa using hb
 subst e
 exact I1.JK (Nat.le_refl _) (I1.hok.fresh (Nat.le_refl _))
theorem JM {pins:List (Addr × Obj)} {σ:St} {H:Hp} {s:Shared} {R:It→Hp→Prop} {E:Value→Shared→Prop} {lo hi:Int} {t u v:Tok} {tk:Nat} (I:Inv X pins σ H s) (h1 : -(2 ^ 62)≤lo) (h2:lo < 2 ^ 62) (h3 : -(2 ^ 62)≤hi) (h4:hi < 2 ^ 62)
   (q:R (Itr lo (hi - lo).toNat) H):wpAny (model X.prog X.w) X.A (pyIter (.ref s.heap.objs.size)) (PIE X pins σ tg R) E { s with heap:=s.heap.push { cls:=.type "range",data:=.fields #[.int lo t,.int hi u,.int 1 v] },toks:=tk }:=by
 refine wpAny_pyIter_range (IsRange.new ..) (small_one h1 h2 h3 h4) ?_
 have I1:Inv X pins σ H { s with heap:=s.heap.push { cls:=.type "range",data:=.fields #[.int lo t,.int hi u,.int 1 v] },toks:=tk }:=I.kept fun b o e=>Heap.get?_push_of_some _ e
 refine ⟨(s.heap.push { cls:=.type "range",data:=.fields #[.int lo t,.int hi u,.int 1 v] }).objs.size,[(s.heap.push { cls:=.type "range",data:=.fields #[.int lo t,.int hi u,.int 1 v] }).objs.size],_,_,H,rfl,
   I1.kept (t':=tk) fun b o e=>Heap.get?_push_of_some _ e,Fo _ lo (hi - lo).toNat,?_,fun b hb=>?_,q⟩
 · have e1:lo + ((0:Nat):Int) * 1=lo:=by simp
   have e2:(((hi - lo).toNat:Nat):Int) - ((0:Nat):Int)=Builtin.Range.rangeSize lo hi 1:=by rw [rangeSize_one]; split <;> lia
   show IsRangeIter _ _ (lo + ((0:Nat):Int) * 1) ((((hi - lo).toNat:Nat):Int) - ((0:Nat):Int)) 1
   rw [e1,e2]
   exact Heap.get?_push_size _ rfl
 · have e:b=(s.heap.push { cls:=.type "range",data:=.fields #[.int lo t,.int hi u,.int 1 v] }).objs.size:=by simpa using hb
   subst e
   exact I1.JK (Nat.le_refl _) (I1.hok.fresh (Nat.le_refl _))
noncomputable def GU (ta:TA):TI:=fun σ H R=>ta σ H fun vs H1=>∃ j:Int,vs=[.int j]∧-(2 ^ 62)≤j∧j < 2 ^ 62∧R (Itr 0 j.toNat) H1
noncomputable def NF (ta:TA):TI:=fun σ H R=>ta σ H fun vs H1=>∃ i j:Int,vs=[.int i,.int j]∧(-(2 ^ 62)≤i∧i < 2 ^ 62∧-(2 ^ 62)≤j∧j < 2 ^ 62)∧R (Itr i (j - i).toNat) H1
theorem iq {a:Expr} {ta:TA} {p pos:Pos} (hg:Gl X "range") (hm:X.mg "range"=none) (ha:PA X [a] ta) (hs:starEach [a] X.env=[(false,eval a X.env)]:=by rfl):PI X tg (.Call (.Name "range" p) [a] [] pos) (GU ta):=by
 intro pins s σ H R I h
 refine Call_ (sR I hg hm boot_range (PyProof.Rows.callWith_type1 (thn (ha pos pins s σ H _ I h) fun us s1 ⟨vs,H1,I1,r1,q1⟩=>?_) hs rfl))
 obtain ⟨j,e,q1,q2,q⟩:=q1
 subst e
 cases r1 with
 | cons r rr=>
   cases rr
   obtain ⟨t,rfl⟩:=r
   exact call_range_1 (JM I1 (by lia) (by lia) q1 q2 (by simpa using q))
noncomputable def MA (wi:TI) (g:TG) (tb:TS):TS:=fun D σ H=>wi σ H fun J H1=>∃ W:Nat→Nat→St→Hp→Prop,(∃ m,W 0 m σ H1)∧∀ i m σ H,W i m σ H→
 (J.stop i H∧D.nx σ H)∨(J.go i H∧∃ N:St→Hp→Prop,(∀ σ' H',N σ' H'→∃ m',m' < m∧W (i + 1) m' σ' H')∧∀ x H',J.yld i H x H'→g x σ H' fun σ2 H2=>tb { D with nx:=N,ct:=N,bk:=D.nx } σ2 H2)
noncomputable def yj (fp:List Addr) (h:Heap):List (Addr × Obj):=fp.filterMap fun b=>(h.get? b).map fun o=>(b,o)
theorem lQ {fp:List Addr} {h:Heap} {b:Addr} {o:Obj} (hb:b∈fp) (e:h.get? b=some o):(b,o)∈yj fp h:=List.mem_filterMap.mpr ⟨b,hb,by rw [e]; rfl⟩
theorem Ik {fp:List Addr} {h:Heap} {p:Addr × Obj} (hp:p∈yj fp h):p.1∈fp∧h.get? p.1=some p.2:=by
 obtain ⟨b,hb,e⟩:=List.mem_filterMap.mp hp
 cases q:h.get? b with
 | none=>rw [q] at e; cases e
 | some o=>
   rw [q] at e
   have e':(b,o)=p:=Option.some.inj e
   subst e'
   exact ⟨hb,q⟩
theorem Inv.pinned {pins:List (Addr × Obj)} {σ:St} {H:Hp} {s:Shared} {fp:List Addr} (I:Inv X pins σ H s) (hf:∀ b∈fp,tY X pins H b) (ho:∀ b∈fp,∃ o,s.heap.get? b=some o∧∀ v,o.data≠.cell v):Inv X (pins ++ yj fp s.heap) σ H s:=
 I.GQ fun p hp=>(List.mem_append.mp hp).elim (fun z=>I.pin p (List.mem_append_right _ z)) fun z=>by
   obtain ⟨hb,e⟩:=Ik z
   obtain ⟨f0,f1,f2,_⟩:=hf p.1 hb
   obtain ⟨o,e',d⟩:=ho p.1 hb
   rw [e] at e'; cases e'
   exact ⟨e,f0,f1,f2,d⟩
theorem Inv.tZ {pins pl:List (Addr × Obj)} {σ:St} {H:Hp} {s:Shared} (I:Inv X (pins ++ pl) σ H s):Inv X pins σ H s:=I.GQ fun p hp=>I.pin p (List.mem_append_right _ (List.mem_append_left _ hp))
theorem gT {iter:Expr} {body:List Stmt} {wi:TI} {g:TG} {tb:TS} {pos:Pos} (hp:PassesOwn (model X.prog X.w) X.A X.env X.xe) (hc:X.calm=true) (hi:PI X tg iter wi) (hg:PG X tg g) (hb:PSs X body tb)
   (hs:∀ x,foldedSetIterable iter X.env x=pure x:=by intro _; rfl):PS X (.For tg iter body [] pos) (MA wi g tb):=by
 intro pins s σ H D I h
 refine wpAny_For (thn (hi pins s σ H _ I h) fun v s1 h1=>thn h1 fun itv s2 h2=>?_) hs
 obtain ⟨it,fp,tn,J,H2,e,I2,T,st2,f2,W,⟨m0,w0⟩,turn⟩:=h2
 subst e
 have stat:∀ {H':Hp},(∀ b∈fp,H' b=none)→∀ b∈fp,tY X pins H' b:=fun hn b hb=>⟨hn b hb,(f2 b hb).2⟩
 refine codeAny_forLoop_any (fun n s'=>∃ i σ' H',Inv X pins σ' H' s'∧tn i s'.heap∧(∀ b∈fp,H' b=none)∧W i n σ' H') ?_ m0 ⟨0,σ,H2,I2,st2,fun b hb=>(f2 b hb).1,w0⟩
 rintro n s3 ⟨i,σ3,H3,I3,st3,fr3,w3⟩
 rcases turn i n σ3 H3 w3 with ⟨stop,qn⟩ | ⟨go,N,hN,step⟩
 · refine wpAny_passesOwn hp (thn (T.done X rfl rfl rfl hc i pins s3 σ3 H3 X.xe I3 (stat fr3) st3 stop) fun r s4 ⟨hr,I4⟩=>?_)
   subst hr
   exact wpAny_execs_nil ⟨σ3,H3,I4,qn⟩
 · refine wpAny_passesOwn hp (thn (T.item X rfl rfl rfl hc i pins s3 σ3 H3 X.xe I3 (stat fr3) st3 go) fun r s4 ⟨u,hr,h4⟩=>?_)
   subst hr
   refine wpAny_passesOwn hp (thn h4 fun _ s5 ⟨x,H5,I5,r5,y5,st5,fr5⟩=>?_)
   have I5':=I5.pinned (stat fr5) (T.obj _ _ st5)
   refine wpAny_passesOwn hp (thn (hg _ s5 σ3 H5 x u _ I5' r5 (step x H5 y5)) fun _ s6 ⟨σ6,H6,I6,q6⟩=>?_)
   refine wpAny_passesOwn hp (thn (hb _ s6 σ6 H6 _ I6 q6) fun f s7 q7=>?_)
   have again:∀ {σ7:St} {H7:Hp},Inv X (pins ++ yj fp s5.heap) σ7 H7 s7→N σ7 H7→∃ m,m < n∧∃ i σ' H',Inv X pins σ' H' s7∧tn i s7.heap∧(∀ b∈fp,H' b=none)∧W i m σ' H':=fun {σ7 H7} I7 n7=>by
     obtain ⟨m',hm,w7⟩:=hN σ7 H7 n7
     refine ⟨m',hm,i + 1,σ7,H7,I7.tZ,T.keep _ _ _ st5 fun b hb o e=>(I7.pin (b,o) (List.mem_append_right _ (List.mem_append_right _ (lQ hb e)))).1,fun b hb=>?_,w7⟩
     obtain ⟨o,e,d⟩:=T.obj _ _ st5 b hb
     exact (I7.pin (b,o) (List.mem_append_right _ (List.mem_append_right _ (lQ hb e)))).2.1
   cases f with
   | next=>obtain ⟨σ7,H7,I7,n7⟩:=q7; exact again I7 n7
   | cont=>obtain ⟨σ7,H7,I7,n7⟩:=q7; exact again I7 n7
   | brk=>obtain ⟨σ7,H7,I7,q7⟩:=q7; exact ⟨σ7,H7,I7.tZ,q7⟩
   | ret v=>obtain ⟨x7,σ7,H7,I7,r7,q7⟩:=q7; exact ⟨x7,σ7,H7,I7.tZ,r7,q7⟩
end
theorem kW {K:PySem.W.Frag} {a:Addr} {xs:List V} {g:TG} {tb:TS} {D:Ends} {σ:St} {H:Hp} (Pv:Nat→St→Hp→Prop) (h0:Pv 0 σ H) (hl:∀ i σ H,i≤xs.length→Pv i σ H→SqL K H a xs)
   (hs:∀ i x σ H,xs[i]?=some x→Pv i σ H→g x σ H fun σ2 H2=>tb { D with nx:=Pv (i + 1),ct:=Pv (i + 1),bk:=D.nx } σ2 H2) (hd:∀ σ H,Pv xs.length σ H→D.nx σ H) :
   ∃ W:Nat→Nat→St→Hp→Prop,(∃ m,W 0 m σ H)∧∀ i m σ H,W i m σ H→
     ((Itl K a).stop i H∧D.nx σ H)∨((Itl K a).go i H∧∃ N:St→Hp→Prop,(∀ σ' H',N σ' H'→∃ m',m' < m∧W (i + 1) m' σ' H')∧∀ x H',(Itl K a).yld i H x H'→g x σ H' fun σ2 H2=>tb { D with nx:=N,ct:=N,bk:=D.nx } σ2 H2):=by
 refine ⟨fun i m σ H=>m=xs.length - i∧i≤xs.length∧Pv i σ H,⟨xs.length,by simp,Nat.zero_le _,h0⟩,?_⟩
 rintro i m σ H ⟨rfl,hi,p⟩
 have q:=hl i σ H hi p
 by_cases hlt:i < xs.length
 · refine .inr ⟨⟨xs,xs[i],q,by simp [hlt]⟩,Pv (i + 1),fun σ' H' p'=>⟨xs.length - (i + 1),by lia,rfl,hlt,p'⟩,fun x H' y=>?_⟩
   obtain ⟨e,y⟩:=y
   subst e
   exact hs i x σ _ (y xs q) p
 · have e:i=xs.length:=by lia
   subst e
   exact .inl ⟨⟨xs,q,Nat.le_refl _⟩,hd σ H p⟩
theorem MB {K:PySem.W.Frag} {a:Addr} {xs:List V} {g:TG} {tb:TS} {D:Ends} {σ:St} {H:Hp} (Pv:Nat→St→Hp→Prop) (h0:Pv 0 σ H) (hl:∀ i σ H,i≤xs.length→Pv i σ H→SqT K H a xs)
   (hs:∀ i x σ H,xs[i]?=some x→Pv i σ H→g x σ H fun σ2 H2=>tb { D with nx:=Pv (i + 1),ct:=Pv (i + 1),bk:=D.nx } σ2 H2) (hd:∀ σ H,Pv xs.length σ H→D.nx σ H) :
   ∃ W:Nat→Nat→St→Hp→Prop,(∃ m,W 0 m σ H)∧∀ i m σ H,W i m σ H→
     ((Itt K a).stop i H∧D.nx σ H)∨((Itt K a).go i H∧∃ N:St→Hp→Prop,(∀ σ' H',N σ' H'→∃ m',m' < m∧W (i + 1) m' σ' H')∧∀ x H',(Itt K a).yld i H x H'→g x σ H' fun σ2 H2=>tb { D with nx:=N,ct:=N,bk:=D.nx } σ2 H2):=by
 refine ⟨fun i m σ H=>m=xs.length - i∧i≤xs.length∧Pv i σ H,⟨xs.length,by simp,Nat.zero_le _,h0⟩,?_⟩
 rintro i m σ H ⟨rfl,hi,p⟩
 have q:=hl i σ H hi p
 by_cases hlt:i < xs.length
 · refine .inr ⟨⟨xs,xs[i],q,by simp [hlt]⟩,Pv (i + 1),fun σ' H' p'=>⟨xs.length - (i + 1),by lia,rfl,hlt,p'⟩,fun x H' y=>?_⟩
   obtain ⟨e,y⟩:=y
   subst e
   exact hs i x σ _ (y xs q) p
 · have e:i=xs.length:=by lia
   subst e
   exact .inl ⟨⟨xs,q,Nat.le_refl _⟩,hd σ H p⟩
theorem jA {lo:Int} {n:Nat} {g:TG} {tb:TS} {D:Ends} {σ:St} {H:Hp} (Pv:Nat→St→Hp→Prop) (h0:Pv 0 σ H)
   (hs:∀ i σ H,i < n→Pv i σ H→g (.int (lo + i)) σ H fun σ2 H2=>tb { D with nx:=Pv (i + 1),ct:=Pv (i + 1),bk:=D.nx } σ2 H2) (hd:∀ σ H,Pv n σ H→D.nx σ H) :
   ∃ W:Nat→Nat→St→Hp→Prop,(∃ m,W 0 m σ H)∧∀ i m σ H,W i m σ H→
     ((Itr lo n).stop i H∧D.nx σ H)∨((Itr lo n).go i H∧∃ N:St→Hp→Prop,(∀ σ' H',N σ' H'→∃ m',m' < m∧W (i + 1) m' σ' H')∧∀ x H',(Itr lo n).yld i H x H'→g x σ H' fun σ2 H2=>tb { D with nx:=N,ct:=N,bk:=D.nx } σ2 H2):=by
 refine ⟨fun i m σ H=>m=n - i∧i≤n∧Pv i σ H,⟨n,by simp,Nat.zero_le _,h0⟩,?_⟩
 rintro i m σ H ⟨rfl,hi,p⟩
 by_cases hlt:i < n
 · refine .inr ⟨hlt,Pv (i + 1),fun σ' H' p'=>⟨n - (i + 1),by lia,rfl,hlt,p'⟩,fun x H' y=>?_⟩
   obtain ⟨e,y⟩:=y
   subst e y
   exact hs i σ _ hlt p
 · have e:i=n:=by lia
   subst e
   exact .inl ⟨Nat.le_refl _,hd σ H p⟩
end L2
namespace L2
open PySem PySem.Spec PyProof.Rows
noncomputable abbrev R2:=V→V→Hp→VK→Prop
noncomputable def OpR (X:Cx) (f:Value→Value→Sem Value) (r:R2):Prop:=
 ∀ (pins:List (Addr × Obj)) (s:Shared) (σ:St) (H:Hp) (x y:V) (v u:Value) (Q:VK),Inv X pins σ H s→RelV x v→RelV y u→r x y H Q→
   wpAny (model X.prog X.w) X.A (f v u) (EP X pins σ Q) X.xe s
noncomputable def UnR (X:Cx) (f:Value→Sem Value) (r:V→Hp→VK→Prop):Prop:=
 ∀ (pins:List (Addr × Obj)) (s:Shared) (σ:St) (H:Hp) (x:V) (v:Value) (Q:VK),Inv X pins σ H s→RelV x v→r x H Q→
   wpAny (model X.prog X.w) X.A (f v) (EP X pins σ Q) X.xe s
noncomputable def ny (X:Cx) (f:Value) (r:List V→Hp→VK→Prop):Prop:=
 ∀ (pins:List (Addr × Obj)) (s:Shared) (σ:St) (H:Hp) (xs:List V) (us:List Value) (Q:VK),Inv X pins σ H s→Vals xs us→r xs H Q→
   wpAny (model X.prog X.w) X.A (call f us) (EP X pins σ Q) X.xe s
noncomputable def RI (X:Cx) (r:V→Hp→(Bool→Hp→Prop)→Prop):Prop:=
 ∀ (pins:List (Addr × Obj)) (s:Shared) (σ:St) (H:Hp) (x:V) (v:Value) (Q:Bool→Hp→Prop),Inv X pins σ H s→RelV x v→r x H Q→
   wpAny (model X.prog X.w) X.A (truthy v) (TP X pins σ Q) X.xe s
noncomputable def tOp (r:R2) (ta tb:TE):TE:=fun σ H Q=>ta σ H fun x H1=>tb σ H1 fun y H2=>r x y H2 Q
noncomputable def tUn (r:V→Hp→VK→Prop) (ta:TE):TE:=fun σ H Q=>ta σ H fun x H1=>r x H1 Q
noncomputable def rI (C:Int→Int→Prop) (g:Int→Int→V):R2:=fun x y H Q=>∃ i j,x=.int i∧y=.int j∧C i j∧Q (g i j) H
noncomputable def rI0 (g:Int→Int→V):R2:=fun x y H Q=>∃ i j,x=.int i∧y=.int j∧Q (g i j) H
noncomputable def rU (g:Int→V):V→Hp→VK→Prop:=fun x H Q=>∃ i,x=.int i∧Q (g i) H
section
variable {X:Cx} {a b c:Expr} {ta tb tc:TE} {pos:Pos}
theorem Oq (ha:PE X a ta) (hb:PE X b tb) {pins:List (Addr × Obj)} {s:Shared} {σ:St} {H:Hp} {R:V→V→Hp→Prop} (I:Inv X pins σ H s)
   (h:ta σ H fun x H1=>tb σ H1 fun y H2=>R x y H2) {Q:Value→Shared→Prop} {f:Value→Value→Sem Value}
   (hf:∀ v u s2 x y H2,Inv X pins σ H2 s2→RelV x v→RelV y u→R x y H2→wpAny (model X.prog X.w) X.A (f v u) Q X.xe s2) :
   wpAny (model X.prog X.w) X.A (eval a X.env) (fun v s₁=>wpAny (model X.prog X.w) X.A (eval b X.env) (fun u s₂=>wpAny (model X.prog X.w) X.A (f v u) Q X.xe s₂) X.xe s₁) X.xe s:=by
 refine thn (ha pins s σ H _ I h) fun v s1 ⟨x,H1,I1,r1,q1⟩=>?_
 refine thn (hb pins s1 σ H1 _ I1 q1) fun u s2 ⟨y,H2,I2,r2,q2⟩=>?_
 exact hf v u s2 x y H2 I2 r1 r2 q2
theorem bc {op:Operator} {r:R2} (ho:OpR X (binaryOp op) r) (ha:PE X a ta) (hb:PE X b tb):PE X (.BinOp a op b pos) (tOp r ta tb):=by
 intro pins s σ H Q I h
 exact wpAny_BinOp (Oq ha hb I h fun v u s2 x y H2 I2 rx ry q=>ho pins s2 σ H2 x y v u Q I2 rx ry q)
theorem yk {op:UnaryOp} {r:V→Hp→VK→Prop} (ho:UnR X (unaryOp op) r) (ha:PE X a ta):PE X (.UnaryOp op a pos) (tUn r ta):=by
 intro pins s σ H Q I h
 exact UnaryOp_ (thn (ha pins s σ H _ I h) fun v s1 ⟨x,H1,I1,r1,q1⟩=>ho pins s1 σ H1 x v Q I1 r1 q1)
theorem opI {f:Value→Value→Sem Value} {C:Int→Int→Prop} {g:Int→Int→Int}
   (rule:∀ (i j:Int) (t u:Tok) (s:Shared) (Q:Value→Shared→Prop) (E:Value→Shared→Prop),C i j→Q (.int (g i j) s.toks) { s with toks:=s.toks + 1 }→wpAny (model X.prog X.w) X.A (f (.int i t) (.int j u)) Q E s) :
   OpR X f (rI C fun i j=>.int (g i j)):=by
 intro pins s σ H x y v u Q I rx ry h
 obtain ⟨i,j,rfl,rfl,hc,q⟩:=h
 obtain ⟨t,rfl⟩:=rx
 obtain ⟨t',rfl⟩:=ry
 exact rule i j t t' s _ _ hc ⟨.int (g i j),H,I.tok _,⟨_,rfl⟩,q⟩
theorem Qj {f:Value→Value→Sem Value} {g:Int→Int→Int}
   (rule:∀ (i j:Int) (t u:Tok) (s:Shared) (Q:Value→Shared→Prop) (E:Value→Shared→Prop),Q (.int (g i j) s.toks) { s with toks:=s.toks + 1 }→wpAny (model X.prog X.w) X.A (f (.int i t) (.int j u)) Q E s) :
   OpR X f (rI0 fun i j=>.int (g i j)):=by
 intro pins s σ H x y v u Q I rx ry h
 obtain ⟨i,j,rfl,rfl,q⟩:=h
 obtain ⟨t,rfl⟩:=rx
 obtain ⟨t',rfl⟩:=ry
 exact rule i j t t' s _ _ ⟨.int (g i j),H,I.tok _,⟨_,rfl⟩,q⟩
theorem Ot {f:Value→Value→Sem Value} {g:Int→Int→Bool}
   (rule:∀ (i j:Int) (t u:Tok) (s:Shared) (Q:Value→Shared→Prop) (E:Value→Shared→Prop),Q (.bool (g i j)) s→wpAny (model X.prog X.w) X.A (f (.int i t) (.int j u)) Q E s) :
   OpR X f (rI0 fun i j=>.bl (g i j)):=by
 intro pins s σ H x y v u Q I rx ry h
 obtain ⟨i,j,rfl,rfl,q⟩:=h
 obtain ⟨t,rfl⟩:=rx
 obtain ⟨t',rfl⟩:=ry
 exact rule i j t t' s _ _ ⟨.bl (g i j),H,I,rfl,q⟩
noncomputable def Qk (i j:Int):Prop:=0 < j∧j < 1073741824
noncomputable def Ql (i j:Int):Prop:=0≤j∧j≤1000000∧i.natAbs < 2 ^ 64
noncomputable def JN (i j:Int):Prop:=(-(2 ^ 64) < i∧i < 2 ^ 64)∨(-(2 ^ 64) < j∧j < 2 ^ 64)
theorem JN.ok {i j:Int} (h:JN i j):IntMulOk i j:=by
 rcases h with ⟨h1,h2⟩ | ⟨h1,h2⟩
 · exact .of_left (intBits_le_64 h1 h2)
 · exact .of_right (intBits_le_64 h1 h2)
theorem dX:OpR X (binaryOp .Add) (rI0 fun i j=>.int (i + j)):=Qj fun _ _ _ _ _ _ _ q=>add_int q
theorem vW:OpR X (binaryOp .Sub) (rI0 fun i j=>.int (i - j)):=Qj fun _ _ _ _ _ _ _ q=>sub_int q
theorem ox:OpR X (binaryOp .Mult) (rI JN fun i j=>.int (i * j)):=opI fun _ _ _ _ _ _ _ hc q=>mul_int q hc.ok
theorem x5:OpR X (binaryOp .FloorDiv) (rI Qk fun i j=>.int (i / j)):=opI fun i j _ _ _ _ _ hc q=>by
 have h1:(0:Int) < j:=hc.1
 have h2:j < 1073741824:=hc.2
 exact floordiv_int (by lia) (by rw [Int.fdiv_eq_ediv_of_nonneg i (by lia)]; exact q) (.inl (PyProof.noPylong_small (by lia)))
theorem cm:OpR X (binaryOp .Mod) (rI (fun _ j=>0 < j) fun i j=>.int (i % j)):=opI fun i j _ _ _ _ _ hc q=>by
 have h1:(0:Int) < j:=hc
 exact mod_int' (by lia) (by rw [Int.fmod_eq_emod_of_nonneg i (by lia)]; exact q)
theorem Ou:OpR X (binaryOp .Pow) (rI Ql fun i j=>.int (i ^ j.toNat)):=opI fun _ _ _ _ _ _ _ hc q=>pow_int_small hc.1 hc.2.1 hc.2.2 q
theorem unI {f:Value→Sem Value} {g:Int→Int}
   (rule:∀ (i:Int) (t:Tok) (s:Shared) (Q:Value→Shared→Prop) (E:Value→Shared→Prop),Q (.int (g i) s.toks) { s with toks:=s.toks + 1 }→wpAny (model X.prog X.w) X.A (f (.int i t)) Q E s) :
   UnR X f (rU fun i=>.int (g i)):=by
 intro pins s σ H x v Q I rx h
 obtain ⟨i,rfl,q⟩:=h
 obtain ⟨t,rfl⟩:=rx
 exact rule i t s _ _ ⟨.int (g i),H,I.tok _,⟨_,rfl⟩,q⟩
theorem sS:UnR X (unaryOp .USub) (rU fun i=>.int (-i)):=unI fun _ _ _ _ _ q=>neg_int q
end
noncomputable def Il:V→V→Bool
 | .non,.non=>true | .non,.int _=>true | .int _,.non=>true | .non,.bl _=>true | .bl _,.non=>true | .non,.str _=>true | .str _,.non=>true
 | .int _,.int _=>true | .bl _,.bl _=>true | .str _,.str _=>true | .byt _,.byt _=>true
 | .int _,.str _=>true | .str _,.int _=>true | .bl _,.str _=>true | .str _,.bl _=>true
 | _,_=>false
noncomputable def rEq:R2:=fun x y H Q=>Il x y=true∧Q (.bl (decide (x=y))) H
noncomputable def rNe:R2:=fun x y H Q=>Il x y=true∧Q (.bl (!decide (x=y))) H
theorem GV {i j:Int}:decide (V.int i=V.int j)=(i == j):=by
 rw [Bool.eq_iff_iff]
 simp
theorem JO {i j:Bool}:decide (V.bl i=V.bl j)=(i == j):=by
 rw [Bool.eq_iff_iff]
 simp
theorem GW {i j:Str}:decide (V.str i=V.str j)=(i == j):=by
 rw [Bool.eq_iff_iff]
 simp
theorem GX {i j:Array UInt8}:decide (V.byt i=V.byt j)=(i.toList == j.toList):=by
 rw [Bool.eq_iff_iff]
 cases i
 cases j
 simp
section
variable {X:Cx} {a b c:Expr} {ta tb tc:TE} {pos:Pos}
theorem cn {pins:List (Addr × Obj)} {σ:St} {H:Hp} {s:Shared} {Q:VK} {k k':Bool} (I:Inv X pins σ H s) (q:Q (.bl k) H) (e:k=k'):EP X pins σ Q (.bool k') s:=by
 subst e
 exact ⟨.bl k,H,I,rfl,q⟩
theorem b9:OpR X (compareOp .Eq) rEq:=by
 intro pins s σ H x y v u Q I rx ry h
 obtain ⟨hs,q⟩:=h
 cases x with
 | non=>
   cases rx
   cases y with
   | non=>cases ry; exact PySem.EqNone.eq_none_none (cn I q (by simp))
   | bl j=>cases ry; exact PySem.EqNone.eq_none_bool (cn I q (by simp))
   | int j=>obtain ⟨t',rfl⟩:=ry; exact PySem.EqNone.eq_none_int (cn I q (by simp))
   | str j=>obtain ⟨t',rfl⟩:=ry; exact PySem.EqNone.eq_none_str (cn I q (by simp))
   | _=>exact absurd (show false=true from hs) Bool.false_ne_true
 | bl i=>
   cases rx
   cases y with
   | non=>cases ry; exact PySem.EqNone.eq_bool_none (cn I q (by simp))
   | bl j=>cases ry; exact eq_bool (cn I q JO)
   | str j=>obtain ⟨t',rfl⟩:=ry; exact PySem.EqMixed.eq_bool_str (cn I q (by simp))
   | _=>exact absurd (show false=true from hs) Bool.false_ne_true
 | int i=>
   obtain ⟨t,rfl⟩:=rx
   cases y with
   | non=>cases ry; exact PySem.EqNone.eq_int_none (cn I q (by simp))
   | int j=>obtain ⟨t',rfl⟩:=ry; exact eq_int (cn I q GV)
   | str j=>obtain ⟨t',rfl⟩:=ry; exact PySem.EqMixed.eq_int_str (cn I q (by simp))
   | _=>exact absurd (show false=true from hs) Bool.false_ne_true
 | str i=>
   obtain ⟨t,rfl⟩:=rx
   cases y with
   | non=>cases ry; exact PySem.EqNone.eq_str_none (cn I q (by simp))
   | bl j=>cases ry; exact PySem.EqMixed.eq_str_bool (cn I q (by simp))
   | int j=>obtain ⟨t',rfl⟩:=ry; exact PySem.EqMixed.eq_str_int (cn I q (by simp))
   | str j=>obtain ⟨t',rfl⟩:=ry; exact eq_str (cn I q GW)
   | _=>exact absurd (show false=true from hs) Bool.false_ne_true
 | byt i=>
   obtain ⟨t,rfl⟩:=rx
   cases y with
   | byt j=>obtain ⟨t',rfl⟩:=ry; exact PySem.W.eq_bytes (cn I q GX)
   | _=>exact absurd (show false=true from hs) Bool.false_ne_true
 | _=>cases y <;> exact absurd (show false=true from hs) Bool.false_ne_true
theorem Qm:OpR X (compareOp .NotEq) rNe:=by
 intro pins s σ H x y v u Q I rx ry h
 obtain ⟨hs,q⟩:=h
 cases x with
 | non=>
   cases rx
   cases y with
   | non=>cases ry; exact PySem.EqNone.ne_none_none (cn I q (by simp))
   | bl j=>cases ry; exact PySem.EqNone.ne_none_bool (cn I q (by simp))
   | int j=>obtain ⟨t',rfl⟩:=ry; exact PySem.EqNone.ne_none_int (cn I q (by simp))
   | str j=>obtain ⟨t',rfl⟩:=ry; exact PySem.EqNone.ne_none_str (cn I q (by simp))
   | _=>exact absurd (show false=true from hs) Bool.false_ne_true
 | bl i=>
   cases rx
   cases y with
   | non=>cases ry; exact PySem.EqNone.ne_bool_none (cn I q (by simp))
   | bl j=>cases ry; exact ne_bool (cn I q (congrArg not JO))
   | str j=>obtain ⟨t',rfl⟩:=ry; exact PySem.EqMixed.ne_bool_str (cn I q (by simp))
   | _=>exact absurd (show false=true from hs) Bool.false_ne_true
 | int i=>
   obtain ⟨t,rfl⟩:=rx
   cases y with
   | non=>cases ry; exact PySem.EqNone.ne_int_none (cn I q (by simp))
   | int j=>obtain ⟨t',rfl⟩:=ry; exact ne_int (cn I q (congrArg not GV))
   | str j=>obtain ⟨t',rfl⟩:=ry; exact PySem.EqMixed.ne_int_str (cn I q (by simp))
   | _=>exact absurd (show false=true from hs) Bool.false_ne_true
 | str i=>
   obtain ⟨t,rfl⟩:=rx
   cases y with
   | non=>cases ry; exact PySem.EqNone.ne_str_none (cn I q (by simp))
   | bl j=>cases ry; exact PySem.EqMixed.ne_str_bool (cn I q (by simp))
   | int j=>obtain ⟨t',rfl⟩:=ry; exact PySem.EqMixed.ne_str_int (cn I q (by simp))
   | str j=>obtain ⟨t',rfl⟩:=ry; exact ne_str (cn I q (congrArg not GW))
   | _=>exact absurd (show false=true from hs) Bool.false_ne_true
 | byt i=>
   obtain ⟨t,rfl⟩:=rx
   cases y with
   | byt j=>obtain ⟨t',rfl⟩:=ry; exact PySem.W.ne_bytes (cn I q (congrArg not GX))
   | _=>exact absurd (show false=true from hs) Bool.false_ne_true
 | _=>cases y <;> exact absurd (show false=true from hs) Bool.false_ne_true
theorem oy:OpR X (compareOp .Lt) (rI0 fun i j=>.bl (decide (i < j))):=Ot fun _ _ _ _ _ _ _ q=>lt_int q
theorem JP:OpR X (compareOp .Gt) (rI0 fun i j=>.bl (decide (j < i))):=Ot fun _ _ _ _ _ _ _ q=>gt_int q
theorem Qn:OpR X (compareOp .GtE) (rI0 fun i j=>.bl (decide (j≤i))):=Ot fun _ _ _ _ _ _ _ q=>ge_int q
theorem BX:OpR X (compareOp .Is) (fun x y H Q=>y=.non∧Q (.bl (decide (x=.non))) H):=by
 intro pins s σ H x y v u Q I rx ry h
 obtain ⟨rfl,q⟩:=h
 cases ry
 refine is_none_gen (cn I q ?_)
 cases x <;> first
   | (cases rx; rfl)
   | (obtain ⟨t,rfl⟩:=rx; rfl)
theorem BY:OpR X (compareOp .IsNot) (fun x y H Q=>y=.non∧Q (.bl (!decide (x=.non))) H):=by
 intro pins s σ H x y v u Q I rx ry h
 obtain ⟨rfl,q⟩:=h
 cases ry
 refine isnot_none_gen (cn I q ?_)
 cases x <;> first
   | (cases rx; rfl)
   | (obtain ⟨t,rfl⟩:=rx; rfl)
theorem aT (b:Expr) {op:CmpOp} (h:op≠.In:=by decide) (h2:op≠.NotIn:=by decide):behindInMarks op b=false:=by
 have e1:(op == CmpOp.In)=false:=by cases op <;> first | rfl | exact absurd rfl h
 have e2:(op == CmpOp.NotIn)=false:=by cases op <;> first | rfl | exact absurd rfl h2
 cases b <;> simp [behindInMarks,e1,e2]
theorem t7 {op:CmpOp} {r:R2} (ho:OpR X (compareOp op) r) (ha:PE X a ta) (hb:PE X b tb) (hm:behindInMarks op b=false):PE X (.Compare a [op] [b] pos) (tOp r ta tb):=by
 intro pins s σ H Q I h
 exact wpAny_Compare1 (Oq ha hb I h fun v u s2 x y H2 I2 rx ry q=>ho pins s2 σ H2 x y v u Q I2 rx ry q) hm
noncomputable def GY (t:TE):TT:=fun σ H Q=>t σ H fun x H'=>∃ k,x=.bl k∧Q k H'
theorem aL {op:CmpOp} {r:R2} (ho:OpR X (compareOp op) r) (ha:PE X a ta) (hb:PE X b tb) (hm:behindInMarks op b=false):PT X (.Compare a [op] [b] pos) (GY (tOp r ta tb)):=by
 intro pins s σ H Q I h
 refine wpAny_isTrue_Compare1 (thn (ha pins s σ H _ I h) fun v s1 ⟨x,H1,I1,r1,q1⟩=>thn (hb pins s1 σ H1 _ I1 q1) fun u s2 ⟨y,H2,I2,r2,q2⟩=>
   thn (ho pins s2 σ H2 x y v u _ I2 r1 r2 q2) fun c s3 ⟨z,H3,I3,r3,k,e,q3⟩=>?_) hm
 subst e
 cases r3
 exact wpAny_truthy_bool ⟨H3,I3,q3⟩
noncomputable def JQ (r r':R2) (ta tb tc:TE):TE:=fun σ H Q=>ta σ H fun x H1=>tb σ H1 fun y H2=>r x y H2 fun z H3=>∃ k,z=.bl k∧
 (if k=true then tc σ H3 fun w' H4=>r' y w' H4 Q else Q (.bl false) H3)
noncomputable def Qo (K:PySem.W.Frag) (x:V) (H:Hp) (k:Bool):Prop:=
 match x with
 | .non=>k=false
 | .bl b=>k=b
 | .int i=>k=(i != 0)
 | .str y=>y.length≤sizeLine∧k=((y.length:Int) != 0)
 | .byt y=>y.size≤sizeLine∧k=((y.size:Int) != 0)
 | .ref p=>(∃ xs,SqL K H p xs∧k = !xs.isEmpty)∨(∃ xs,SqT K H p xs∧k = !xs.isEmpty)∨∃ kvs,H p=some (.dK kvs)∧k = !kvs.isEmpty
 | _=>False
theorem Fp {κ:Type} {kvs:List (κ × V)} {vs:List (κ × Value)} (r:KV kvs vs):(!vs.isEmpty) = !kvs.isEmpty:=by
 cases r <;> rfl
theorem ym {xs:List V} {its:List Value} (r:Vals xs its):(!its.toArray.isEmpty) = !xs.isEmpty:=by
 cases r <;> simp
theorem vX:(sizeLine:Nat) < 2 ^ 63:=by rw [sizeLine_eq]; decide
theorem Ov:RI X (fun x H Q=>∃ k,Qo X.K x H k∧Q k H):=by
 intro pins s σ H x v Q I rx h
 obtain ⟨k,e,q⟩:=h
 have hl:=vX
 have hs:sizeLine=16777216:=sizeLine_eq
 cases x with
 | non=>
   cases rx
   have e':k=false:=e
   subst e'
   exact truthy_none ⟨H,I,q⟩
 | bl b=>
   cases rx
   have e':k=b:=e
   subst e'
   exact wpAny_truthy_bool ⟨H,I,q⟩
 | int i=>
   obtain ⟨t,rfl⟩:=rx
   have e':k=(i != 0):=e
   subst e'
   exact PySem.P.truthy_int ⟨H,I,q⟩
 | str y=>
   obtain ⟨t,rfl⟩:=rx
   obtain ⟨hy,e'⟩:y.length≤sizeLine∧k=((y.length:Int) != 0):=e
   subst e'
   exact PySem.P.truthy_str (by lia) ⟨H,I.tok _,q⟩
 | byt y=>
   obtain ⟨t,rfl⟩:=rx
   obtain ⟨hy,e'⟩:y.size≤sizeLine∧k=((y.size:Int) != 0):=e
   subst e'
   exact PySem.W.truthy_bytes (by lia) ⟨H,I.tok _,q⟩
 | ref p=>
   cases rx
   have e':(∃ xs,SqL X.K H p xs∧k = !xs.isEmpty)∨(∃ xs,SqT X.K H p xs∧k = !xs.isEmpty)∨∃ kvs,H p=some (.dK kvs)∧k = !kvs.isEmpty:=e
   rcases e' with ⟨xs,hx,e'⟩ | ⟨xs,hx,e'⟩ | ⟨kvs,hx,e'⟩
   · subst e'
     obtain ⟨its,r,pl,hz⟩:=I.list hx
     have hlen:=r.length
     exact wpAny_truthy_list pl.isList (by simp only [List.size_toArray]; lia) ⟨H,I.tok _,by rw [ym r]; exact q⟩
   · subst e'
     obtain ⟨its,r,pl,hz⟩:=I.tuple hx
     have hlen:=r.length
     exact truthy_tuple pl (by simp only [List.size_toArray]; lia) ⟨H,I.tok _,by rw [ym r]; exact q⟩
   · subst e'
     obtain ⟨hz,hS,vs,r,m⟩:kvs.length≤sizeLine∧(p == sysModules)=false∧∃ vs,KV kvs vs∧s.heap.DictOf (cN X.prog X.w) p vs:=I.hok p _ hx
     have hlen:kvs.length=vs.length:=Paired.length r
     exact wpAny_truthy_dict hS m (by lia) ⟨H,I.tok _,by rw [Fp r]; exact q⟩
 | _=>exact (show False from e).elim
theorem JR (ha:PE X a ta) (he:∀ whole,isTrue a X.env whole=(do let v ← whole; standAt a.pos; holding [v] (truthy v))) :
   PT X a (fun σ H Q=>ta σ H fun x H'=>∃ k,Qo X.K x H' k∧Q k H'):=by
 intro pins s σ H Q I h
 exact isTrue_plain (thn (ha pins s σ H _ I h) fun v s1 ⟨x,H1,I1,r1,q1⟩=>Ov pins s1 σ H1 x v Q I1 r1 q1) (he _)
theorem vals1 {x:V} {us:List Value} (r:Vals [x] us):∃ u,us=[u]∧RelV x u:=by
 cases r with
 | cons r1 r2=>cases r2; exact ⟨_,rfl,r1⟩
theorem vals2 {x y:V} {us:List Value} (r:Vals [x,y] us):∃ u w',us=[u,w']∧RelV x u∧RelV y w':=by
 cases r with
 | cons r1 r2=>
   cases r2 with
   | cons r3 r4=>cases r4; exact ⟨_,_,rfl,r1,r3⟩
theorem Im (hc:X.calm=true):ny X (.builtin "max") (fun xs H Q=>∃ i j,xs=[.int i,.int j]∧Q (.int (if j > i then j else i)) H):=by
 intro pins s σ H xs us Q I r h
 obtain ⟨i,j,rfl,q⟩:=h
 obtain ⟨u,w',rfl,⟨t,rfl⟩,⟨t',rfl⟩⟩:=vals2 r
 refine max_two_ints (I.ok.hd hc) fun h' tk k=>⟨_,H,I.kept k,?_,q⟩
 by_cases hj:j > i
 · rw [if_pos hj,if_pos hj]; exact ⟨_,rfl⟩
 · rw [if_neg hj,if_neg hj]; exact ⟨_,rfl⟩
theorem Io (hc:X.calm=true):ny X (.builtin "min") (fun xs H Q=>∃ i j,xs=[.int i,.int j]∧Q (.int (if j < i then j else i)) H):=by
 intro pins s σ H xs us Q I r h
 obtain ⟨i,j,rfl,q⟩:=h
 obtain ⟨u,w',rfl,⟨t,rfl⟩,⟨t',rfl⟩⟩:=vals2 r
 refine min_two_ints (I.ok.hd hc) fun h' tk k=>⟨_,H,I.kept k,?_,q⟩
 by_cases hj:j < i
 · rw [if_pos hj,if_pos hj]; exact ⟨_,rfl⟩
 · rw [if_neg hj,if_neg hj]; exact ⟨_,rfl⟩
end
end L2
namespace L2
open PySem PySem.Spec PyProof.Rows
structure Fq (h:Heap) (x dx C:Addr) (mA:Str→Option Value):Prop where
 obj:h.get? x=some (PySem.W.instObj C dx)
 ns:h.Ns1 dx mA
 ne:dx≠x
theorem Ip {h:Heap} {dx:Addr} {mA:Str→Option Value} (n:h.Ns1 dx mA):∃ od,h.get? dx=some od∧∀ name,PySem.W.lookIn name od=some (mA name):=by
 obtain ⟨o,es,ep,ho,hd,hk,_,hm⟩:=n
 refine ⟨o,ho,fun name=>?_⟩
 have e:=hm name
 unfold nsFind findBy at e
 rw [← Array.find?_toList] at e
 unfold PySem.W.lookIn
 rw [hd]
 dsimp only
 split
 · rename_i y q
   rw [q] at e
   exact congrArg some e
 · rename_i q
   rw [q] at e
   have a:es.toList.any (·.refKey)=false:=by
     rw [List.any_eq_false]
     intro y hy
     obtain ⟨z,t,RJ⟩:=hk y (Array.mem_toList_iff.mp hy)
     simp [DictEntry.refKey,RJ]
   have a':¬ es.toList.any (·.refKey)=true:=by rw [a]; exact Bool.false_ne_true
   rw [if_neg a']
   exact congrArg some e
theorem Fq.look {h:Heap} {x dx C:Addr} {mA:Str→Option Value} (I:Fq h x dx C mA):∃ od,PySem.W.InstAt h x (PySem.W.instObj C dx) C (some od)∧∀ name,PySem.W.lookIn name od=some (mA name):=
 let ⟨od,ho,hl⟩:=Ip I.ns
 ⟨od,⟨I.obj,rfl,rfl,ho⟩,hl⟩
section
variable {prog:Program} {w:World} {A:Around} {E:Value→Shared→Prop} {s:Shared} {K:PySem.W.Frag} {x dx C f:Addr} {mA:Str→Option Value} {name:Str} {v:Value}
theorem get_map {expr:Bool} {Q:Value→Shared→Prop} (X:K.In s.heap) (I:Fq s.heap x dx C mA) (hg:PySem.W.plainGet K C name=true) (hh:PySem.W.hasDictIn K C=true)
   (ha:PySem.W.findIn K (.ref C) name=some none) (hv:mA name=some v) (hv':PySem.W.handedIn v=true) (h:Q v { s with toks:=s.toks + 1 }) :
   wpAny (model prog w) A (getAttr (.ref x) name expr) Q E s:=by
 obtain ⟨od,J,hl⟩:=I.look
 exact PySem.W.get_value X J (PySem.W.plainGet_of hg).1 (PySem.W.findObj_own hh ha rfl (by rw [hl,hv])) hv' h
theorem JS {pl:Sem Bool} {Q:Value × List Value→Shared→Prop} (X:K.In s.heap) (I:Fq s.heap x dx C mA) (hg:PySem.W.plainGet K C name=true)
   (hf:PySem.W.findIn K (.ref C) name=some (some (.ref f))) (ht:PySem.W.isFn K (.ref f)=true) (hv:mA name=none) (h:Q (.ref f,[.ref x]) s) :
   wpAny (model prog w) A (getMethod (.ref x) name pl) Q E s:=by
 obtain ⟨od,J,hl⟩:=I.look
 exact PySem.W.method_fn X J (PySem.W.plainGet_of hg).1 (PySem.W.plainGet_of hg).2 hf (beq_iff_eq.mp ht) (by show (PySem.W.lookIn name od).map (·.isSome)=some false; rw [hl,hv]; rfl) h
theorem BZ {ns:List Str} {Q:Unit→Shared→Prop} (X:K.In s.heap) (I:Fq s.heap x dx C mA)
   (hs:PySem.W.findIn K (.ref C) "__setattr__"=some (some (.builtin "object.__setattr__"))) (hp:PySem.W.plainOver K C=true) (ht:PySem.W.takerIn K C name=some none) (hh:PySem.W.hasDictIn K C=true)
   (hw:PySem.Within mA ns) (hsz:ns.length≤sizeLine)
   (h:∀ h',Fq h' x dx C (fun y=>if y=name then some v else mA y)→Heap.SameBut dx s.heap h'→Q () { s with heap:=h',toks:=s.toks + 2 }) :
   wpAny (model prog w) A (setAttr (.ref x) name v) Q E s:=by
 obtain ⟨od,J,hl⟩:=I.look
 refine PySem.W.set_plain X J hs (PySem.W.osa_open (s:={ s with toks:=s.toks + 1 }) (r:=none) X J hp ht fun b=>?_)
 obtain ⟨cd,hc,hd'⟩:=PySem.W.any_some hh
 have hx:s.heap.get? x=some ⟨.ref C,some dx,.plain, #[]⟩:=I.obj
 refine wpAny_bind (wpAny_pure (wpAny_bind (wpAny_bind (wpAny_loadPart hx (wpAny_bind (PySem.W.Looks.here (s:={ s with toks:=s.toks + 1 }) (PySem.W.looks_clsIn X hc) ?_))))))
 rw [hd']
 refine wpAny_pure (a:=some dx) (wpAny_bind (wpAny_pure (wpAny_bind ?_)))
 refine wpAny_nsSet1 (s:={ s with toks:=s.toks + 1 }) I.ns fun h' hn2 hs2=>?_
 obtain ⟨oD,esD,epD,hoD,hdD,hcD⟩:=hn2.count (PySem.Within.cons name v hw)
 refine wpAny_bind (wpAny_lookBehind hoD (by rw [hdD]; exact pastItsLine_dict (Nat.le_trans hcD (by rw [List.length_cons]; lia))) ?_)
 exact wpAny_pure (h _ ⟨(hs2.2 _ (Ne.symm I.ne)).trans I.obj,hn2,I.ne⟩ hs2)
theorem JT {R:Result→Shared→Prop} {vs:List Value} {kw:List (Str × Value)} (X:K.In s.heap) (hm:PySem.W.makesIn K C=true)
   (hi:PySem.W.findIn K (.ref C) "__init__"=some (some (.ref f))) (hf:PySem.W.typeIn K (.ref f)=some (.type "function"))
   (h:codeAny (model prog w) (A.under (.builtin "type.__call__" ⟨.ref C :: vs,kw⟩)) (.call (.ref f) ⟨.ref (s.heap.objs.size + 1) :: vs,kw⟩) (PySem.W.InitBack (s.heap.objs.size + 1) R)
     { s with heap:=(s.heap.push PySem.W.emptyDict).push (PySem.W.instObj C s.heap.objs.size) }) :
   codeAny (model prog w) A (.call (.ref C) ⟨vs,kw⟩) R s:=by
 obtain ⟨hh,g,d,t,os⟩:=s
 exact PySem.W.make_core (PySem.W.makes_of X hm) (PySem.W.looks_findIn X hi) (fun self=>PySem.W.bind_fn X self hf) (.inl rfl) h
end
noncomputable def iU (f:Str) (v:V):List (Str × V)→List (Str × V)
 | []=>[(f,v)]
 | (g,x) :: r=>if g=f then (g,v) :: r else (g,x) :: iU f v r
theorem xb (f g:Str) (v:V):∀ fs:List (Str × V),(iU f v fs).lookup g=if g=f then some v else fs.lookup g
 | []=>by
   show List.lookup g [(f,v)]=_
   by_cases h:g=f
   · have hb:(g == f)=true:=beq_iff_eq.mpr h
     simp only [List.lookup,hb,if_pos h]
   · have hb:(g == f)=false:=beq_eq_false_iff_ne.mpr h
     simp only [List.lookup,hb,if_neg h]
 | (k,x) :: r=>by
   have ih:=xb f g v r
   rw [show iU f v ((k,x) :: r)=(if k=f then (k,v) :: r else (k,x) :: iU f v r) from rfl]
   by_cases hk:k=f
   · rw [if_pos hk]
     by_cases h:g=k
     · have hb:(g == k)=true:=beq_iff_eq.mpr h
       simp only [List.lookup,hb,if_pos (h.trans hk)]
     · have hb:(g == k)=false:=beq_eq_false_iff_ne.mpr h
       simp only [List.lookup,hb,if_neg (fun e:g=f=>h (e.trans hk.symm))]
   · rw [if_neg hk]
     by_cases h:g=k
     · have hb:(g == k)=true:=beq_iff_eq.mpr h
       simp only [List.lookup,hb,if_neg (fun e:g=f=>hk (h.symm.trans e))]
     · have hb:(g == k)=false:=beq_eq_false_iff_ne.mpr h
       simp only [List.lookup,hb]
       exact ih
theorem vY (f:Str) (v:V):∀ fs:List (Str × V),f∈(iU f v fs).map (·.1)∧∀ g,g∈fs.map (·.1)→g∈(iU f v fs).map (·.1)
 | []=>⟨by simp [iU],fun g h=>by simp at h⟩
 | (k,x) :: r=>by
   obtain ⟨i1,i2⟩:=vY f v r
   rw [show iU f v ((k,x) :: r)=(if k=f then (k,v) :: r else (k,x) :: iU f v r) from rfl]
   by_cases hk:k=f
   · rw [if_pos hk]
     subst hk
     exact ⟨by simp,fun g h=>by simpa using h⟩
   · rw [if_neg hk]
     refine ⟨?_,fun g h=>?_⟩
     · rw [List.map_cons]
       exact List.mem_cons_of_mem _ i1
     · rw [List.map_cons] at h ⊢
       rcases List.mem_cons.mp h with e | e
       · exact List.mem_cons.mpr (.inl e)
       · exact List.mem_cons_of_mem _ (i2 g e)
theorem xc (f:Str) (v:V):∀ fs:List (Str × V),(iU f v fs).length≤fs.length + 1
 | []=>by simp [iU]
 | (k,x) :: r=>by
   have ih:=xc f v r
   rw [show iU f v ((k,x) :: r)=(if k=f then (k,v) :: r else (k,x) :: iU f v r) from rfl]
   by_cases hk:k=f
   · rw [if_pos hk,List.length_cons,List.length_cons]; lia
   · rw [if_neg hk,List.length_cons,List.length_cons]; lia
theorem oa.some_of {v:V} {o:Option Value} (r:oa (some v) o):∃ u,o=some u∧RelV v u:=by
 cases o with
 | none=>exact (show False from r).elim
 | some u=>exact ⟨u,rfl,r⟩
theorem oa.none_of {o:Option Value} (r:oa none o):o=none:=by
 cases o with
 | none=>rfl
 | some u=>exact (show False from r).elim
theorem Iq {v:V} {u:Value} (r:RelV v u):PySem.W.handedIn u=true:=by
 cases v with
 | non=>cases (show u=Value.none from r); rfl
 | bl b=>cases (show u=Value.bool b from r); rfl
 | int i=>obtain ⟨t,e⟩:=(show ∃ t,u=Value.int i t from r); cases e; rfl
 | str x=>obtain ⟨t,e⟩:=(show ∃ t,u=Value.str x t from r); cases e; rfl
 | byt b=>obtain ⟨t,e⟩:=(show ∃ t,u=Value.bytes b t from r); cases e; rfl
 | flt b=>obtain ⟨t,e⟩:=(show ∃ t,u=Value.float b t from r); cases e; rfl
 | ref a=>cases (show u=Value.ref a from r); rfl
 | ty n=>cases (show u=Value.type n from r); rfl
section
variable {P:Program} {w:World} {H H':Hp} {h h':Heap} {a C dx:Addr} {fs fs':List (Str × V)}
theorem x6 (hok:HOk P w H h) (e:H a=some (.ins C dx fs)):∃ mA,Fq h a dx C mA∧(∀ f,oa (fs.lookup f) (mA f))∧PySem.Within mA (fs.map (·.1))∧fs.length≤1000∧H dx=some (.own a):=by
 obtain ⟨d,z,ne,ob,mA,n,r,q⟩:=(show dU P w H h a (.ins C dx fs) from hok a _ e)
 exact ⟨mA,⟨ob,n,ne⟩,r,q,z,d⟩
end
structure Cls (K:PySem.W.Frag) (C:Addr):Prop where
 pg:PySem.W.plainGet K C Str.empty=true
 hd:PySem.W.hasDictIn K C=true
 po:PySem.W.plainOver K C=true
 sa:PySem.W.findIn K (.ref C) "__setattr__"=some (some (.builtin "object.__setattr__"))
theorem Cls.get {K:PySem.W.Frag} {C:Addr} (c:Cls K C) (f:Str):PySem.W.plainGet K C f=true:=c.pg
noncomputable def fJ (K:PySem.W.Frag) (C:Addr) (f:Str):Prop:=PySem.W.findIn K (.ref C) f=some none
theorem fJ.Qp {K:PySem.W.Frag} {C:Addr} {f:Str} (n:fJ K C f):PySem.W.takerIn K C f=some none:=by
 unfold PySem.W.takerIn
 rw [show PySem.W.findIn K (.ref C) f=some none from n]
 rfl
structure Meth (K:PySem.W.Frag) (C:Addr) (m:Str) (f:Addr):Prop where
 at_:PySem.W.findIn K (.ref C) m=some (some (.ref f))
 fn:PySem.W.isFn K (.ref f)=true
 kp:PySem.W.keepIn K (.ref f)=true
section
variable {X:Cx} {pins:List (Addr × Obj)} {σ:St} {H:Hp} {s:Shared} {a C dx:Addr} {fs:List (Str × V)} {f:Str} {v:V} {A:Around} {E:Value→Shared→Prop}
theorem yn {b:Bool} {Q:Value→Shared→Prop} (I:Inv X pins σ H s) (e:H a=some (.ins C dx fs)) (c:Cls X.K C) (n:fJ X.K C f) (l:fs.lookup f=some v)
   (h:∀ u s',Inv X pins σ H s'→RelV v u→Q u s'):wpAny (model X.prog X.w) A (getAttr (.ref a) f b) Q E s:=by
 obtain ⟨mA,O,r,_,_,_⟩:=x6 I.hok e
 obtain ⟨u,hu,ru⟩:=oa.some_of (v:=v) (o:=mA f) (by rw [← l]; exact r f)
 exact get_map I.kIn O (c.get f) c.hd n hu (Iq ru) (h u _ (I.tok _) ru)
theorem Ft {m:Str} {g:Addr} {pl:Sem Bool} {Q:Value × List Value→Shared→Prop} (I:Inv X pins σ H s) (e:H a=some (.ins C dx fs)) (c:Cls X.K C) (k:Meth X.K C m g) (l:fs.lookup m=none)
   (h:Q (.ref g,[.ref a]) s):wpAny (model X.prog X.w) A (getMethod (.ref a) m pl) Q E s:=by
 obtain ⟨mA,O,r,_,_,_⟩:=x6 I.hok e
 have hn:mA m=none:=oa.none_of (by rw [← l]; exact r m)
 exact JS I.kIn O (c.get m) k.at_ k.fn hn h
theorem yq {y:V} {u:Value} {Q:Unit→Shared→Prop} (I:Inv X pins σ H s) (e:H a=some (.ins C dx fs)) (c:Cls X.K C) (n:fJ X.K C f) (hl:fs.length < 1000) (ry:RelV y u)
   (h:∀ s',Inv X pins σ (upd H a (.ins C dx (iU f y fs))) s'→Q () s'):wpAny (model X.prog X.w) A (setAttr (.ref a) f u) Q E s:=by
 obtain ⟨mA,O,r,wi,_,ho⟩:=x6 I.hok e
 have hz:(fs.map (·.1)).length≤sizeLine:=by rw [List.length_map,sizeLine_eq]; lia
 refine BZ I.kIn O c.sa c.po n.Qp c.hd wi hz fun h' O' sb=>h _ ?_
 have hd:∃ o,h'.get? dx=some o:=let ⟨o,_,_,e',_⟩:=O'.ns; ⟨o,e'⟩
 refine I.write (x:=a) (e:=dx) (by rw [e]; exact True.intro) (.inr ho) (fun b q hb z=>(sb.2 b hb).trans z) hd ?_
 refine ⟨by rw [az O.ne]; exact ho,?_,O.ne,O'.obj,_,O'.ns,fun g=>?_,fun g hg=>?_⟩
 · have:=xc f y fs; lia
 · show oa ((iU f y fs).lookup g) (if g=f then some u else mA g)
   rw [xb]
   by_cases q:g=f
   · rw [if_pos q,if_pos q]; exact ry
   · rw [if_neg q,if_neg q]; exact r g
 · by_cases q:g=f
   · rw [q]; exact (vY f y fs).1
   · refine (vY f y fs).2 g (wi g fun z=>hg ?_)
     show (if g=f then some u else mA g)=none
     rw [if_neg q]; exact z
theorem Inv.made (I:Inv X pins σ H s):Inv X pins σ (upd (upd H s.heap.objs.size (.own (s.heap.objs.size + 1))) (s.heap.objs.size + 1) (.ins C s.heap.objs.size []))
   { s with heap:=(s.heap.push PySem.W.emptyDict).push (PySem.W.instObj C s.heap.objs.size) }:=by
 have e1:(s.heap.push PySem.W.emptyDict).get? s.heap.objs.size=some PySem.W.emptyDict:=Heap.get?_push_size s.heap rfl
 have e2:((s.heap.push PySem.W.emptyDict).push (PySem.W.instObj C s.heap.objs.size)).get? (s.heap.objs.size + 1)=some (PySem.W.instObj C s.heap.objs.size):=by
   have:=Heap.get?_push_size (s.heap.push PySem.W.emptyDict) (o:=PySem.W.instObj C s.heap.objs.size) rfl
   rwa [Heap.size_push] at this
 have e3:(s.heap.push PySem.W.emptyDict).Ns s.heap.objs.size (fun _=>none):=⟨PySem.W.emptyDict, #[],_,e1,rfl,(fun e he=>absurd he (by simp)),fun _=>rfl⟩
 have I1:=I.laid (a:=s.heap.objs.size) (o:=.own (s.heap.objs.size + 1)) (h':=s.heap.push PySem.W.emptyDict) (t':=s.toks) (fun b u q=>Heap.get?_push_of_some _ q) (Nat.le_refl _) ⟨_,e1⟩
 refine I1.laid (a:=s.heap.objs.size + 1) (o:=.ins C s.heap.objs.size []) (t':=s.toks) (fun b u q=>Heap.get?_push_of_some _ q) (Nat.le_of_eq (Heap.size_push _ _)) ?_
 have ne:s.heap.objs.size≠s.heap.objs.size + 1:=Nat.ne_of_lt (Nat.lt_succ_self _)
 refine ⟨by rw [az ne,ae],Nat.zero_le _,ne,e2,fun _=>none,(Heap.Ns1.of_empty e3).at fun o q=>Heap.get?_push_of_some _ q,fun _=>True.intro,fun y hy=>absurd rfl hy⟩
theorem MC {prog:Program} {w:World} {env:Env} {e:Expr} {f:Str} {pos:Pos} {s:Shared} {Q:Value→Shared→Prop} (hb:attributeBase e f env (eval e env)=eval e env)
   (h:wpAny (model prog w) A (eval e env) (fun o s₁=>wpAny (model prog w) A (getAttr o f true) Q E s₁) E s):wpAny (model prog w) A (eval (.Attribute e f pos) env) Q E s:=
 Attribute_any_ h (by rw [arm_eval_Attribute,hb])
end
noncomputable def Ow (K:PySem.W.Frag) (ta:TE) (f:Str):TE:=fun σ H Q=>ta σ H fun x H1=>∃ a C dx fs v,x=.ref a∧H1 a=some (.ins C dx fs)∧Cls K C∧fJ K C f∧fs.lookup f=some v∧Q v H1
noncomputable def DF (K:PySem.W.Frag) (ta tv:TE) (f:Str):TS:=fun D σ H=>tv σ H fun y H1=>ta σ H1 fun x H2=>∃ a C dx fs,x=.ref a∧H2 a=some (.ins C dx fs)∧Cls K C∧fJ K C f∧fs.length < 1000∧
 D.nx σ (upd H2 a (.ins C dx (iU f y fs)))
noncomputable def Qq (X:Cx) (op:Operator) (rd:V→V→Hp→VK→Prop):Prop:=
 ∀ (pins:List (Addr × Obj)) (s:Shared) (σ:St) (H:Hp) (x y:V) (u v:Value) (Q:VK),Inv X pins σ H s→RelV x u→RelV y v→rd x y H Q→wpAny (model X.prog X.w) X.A (inplaceOp op u v) (EP X pins σ Q) X.xe s
noncomputable def B0 (K:PySem.W.Frag) (ta tv:TE) (rd:V→V→Hp→VK→Prop) (f:Str):TS:=fun D σ H=>ta σ H fun x H1=>∃ a C dx fs v,x=.ref a∧H1 a=some (.ins C dx fs)∧Cls K C∧fJ K C f∧fs.lookup f=some v∧
 tv σ H1 fun y H2=>rd v y H2 fun z H3=>∃ dx' fs',H3 a=some (.ins C dx' fs')∧fs'.length < 1000∧D.nx σ (upd H3 a (.ins C dx' (iU f z fs')))
section
variable {X:Cx} {o e value:Expr} {f:Str} {pos pos' JU:Pos} {ta tv:TE}
theorem cZ (he:PE X e ta) (hb:attributeBase e f X.env (eval e X.env)=eval e X.env):PE X (.Attribute e f pos) (Ow X.K ta f):=by
 intro pins s σ H Q I h
 refine MC hb (thn (he pins s σ H _ I h) fun u s1 ⟨x,H1,I1,rx,a,C,dx,fs,v,ex,ea,c,n,l,q⟩=>?_)
 subst ex
 obtain rfl:u=Value.ref a:=rx
 exact yn I1 ea c n l fun u' s2 I2 ru=>⟨v,H1,I2,ru,q⟩
theorem gU (ha:PE X o ta) (hv:PE X value tv) (hs:swapsWith value (some (.Attribute o f pos')) pos.line X.env=pure false):PS X (.Assign [.Attribute o f pos'] value pos) (DF X.K ta tv f):=by
 intro pins s σ H D I h
 refine plainObj_wpAny_Assign_Attribute (thn (hv pins s σ H _ I h) fun u s1 ⟨y,H1,I1,ry,q⟩=>thn (ha pins s1 σ H1 _ I1 q) fun ov s2 ⟨x,H2,I2,rx,a,C,dx,fs,ex,ea,c,n,l,q2⟩=>?_) hs
 subst ex
 obtain rfl:ov=Value.ref a:=rx
 exact yq I2 ea c n l ry fun s3 I3=>⟨σ,_,I3,q2⟩
theorem Ir {op:Operator} {rd:V→V→Hp→VK→Prop} (ha:PE X o ta) (hv:PE X value tv) (hop:Qq X op rd):PS X (.AugAssign (.Attribute o f JU) op value pos) (B0 X.K ta tv rd f):=by
 intro pins s σ H D I h
 refine wpAny_AugAssign_AttributeAny (thn (ha pins s σ H _ I h) fun ov s1 ⟨x,H1,I1,rx,a,C,dx,fs,v,ex,ea,c,n,l,q⟩=>?_)
 subst ex
 obtain rfl:ov=Value.ref a:=rx
 refine yn I1 ea c n l fun u s2 I2 ru=>thn (hv pins s2 σ H1 _ I2 q) fun w3 s3 ⟨y,H2,I3,ry,q3⟩=>thn (hop pins s3 σ H2 v y u w3 _ I3 ru ry q3) fun w4 s4 ⟨z,H3,I4,rz,dx',fs',ea',l',q4⟩=>?_
 exact yq I4 ea' c n l' rz fun s5 I5=>⟨σ,_,I5,q4⟩
noncomputable def RK:V→V→Hp→VK→Prop:=fun x y H Q=>∃ i j,x=.int i∧y=.int j∧Q (.int (i + j)) H
theorem Ox:Qq X .Add RK:=by
 rintro pins s σ H x y u v Q I rx ry ⟨i,j,rfl,rfl,q⟩
 obtain ⟨t,rfl⟩:=(show ∃ t,u=Value.int i t from rx)
 obtain ⟨t',rfl⟩:=(show ∃ t',v=Value.int j t' from ry)
 exact PyProof.Rows.iadd_int ⟨.int (i + j),H,I.tok _,⟨_,rfl⟩,q⟩
end
section
variable {X:Cx} {pins:List (Addr × Obj)} {σ:St} {H:Hp} {s:Shared} {A:Around} {E:Value→Shared→Prop} {Q:Value→Shared→Prop} {c:Value} {b:Bool}
inductive t8 (K:PySem.W.Frag) (H:Hp):V→Value→Prop where
 | non:t8 K H .non (.type "NoneType")
 | bl (x:Bool):t8 K H (.bl x) (.type "bool")
 | int (i:Int):t8 K H (.int i) (.type "int")
 | str (x:Str):t8 K H (.str x) (.type "str")
 | flt (x:UInt64):t8 K H (.flt x) (.type "float")
 | lst {a:Addr} {xs:List V} (e:H a=some (.lst xs)):t8 K H (.ref a) (.type "list")
 | frz {a:Addr} {o:Obj} {xs:List V} (e:H a=some (.frz o (.lst xs))):t8 K H (.ref a) (.type "list")
 | tup {a:Addr} {xs:List V} (e:H a=some (.tup xs)):t8 K H (.ref a) (.type "tuple")
 | dK {a:Addr} {kvs:List (Key × V)} (e:H a=some (.dK kvs)):t8 K H (.ref a) (.type "dict")
 | dT {a:Addr} {kvs:List (List Key × V)} (e:H a=some (.dT kvs)):t8 K H (.ref a) (.type "dict")
 | ins {a C dx:Addr} {fs:List (Str × V)} (e:H a=some (.ins C dx fs)) (cl:Cls K C) (ha:PySem.W.findIn K (.ref C) "__class__"=some (some (.builtin "object.__class__")))
     (hn:PySem.W.specialIn K (.builtin "object.__class__") "__get__"=some (some (.builtin "getset_descriptor.__get__"))) (htk:PySem.W.takesIn K (.builtin "object.__class__")=some true)
     (hm:PySem.W.mroIn K C (.type "object")=some true):t8 K H (.ref a) (.ref C)
theorem Iu {x:V} {u t:Value} (I:Inv X pins σ H s) (rx:RelV x u) (ty:t8 X.K H x t) (e:PySem.W.kitOne X.K t c=some b) (h:∀ tk,Q (.bool b) { s with toks:=tk }) :
   wpAny (model X.prog X.w) A (call (.builtin "isinstance") [u,c]) Q E s:=by
 cases ty with
 | non=>cases (show u=Value.none from rx); exact PySem.W.kia_one PySem.W.kitx_none I.kIn True.intro e (fun z=>nomatch z) h
 | bl y=>cases (show u=Value.bool y from rx); exact PySem.W.kia_one PySem.W.kitx_bool I.kIn True.intro e (fun z=>nomatch z) h
 | int i=>obtain ⟨t,q⟩:=(show ∃ t,u=Value.int i t from rx); cases q; exact PySem.W.kia_one PySem.W.kitx_int I.kIn True.intro e (fun z=>nomatch z) h
 | str y=>obtain ⟨t,q⟩:=(show ∃ t,u=Value.str y t from rx); cases q; exact PySem.W.kia_one PySem.W.kitx_str I.kIn True.intro e (fun z=>nomatch z) h
 | flt y=>obtain ⟨t,q⟩:=(show ∃ t,u=Value.float y t from rx); cases q; exact PySem.W.kia_one PySem.W.kitx_float I.kIn True.intro e (fun z=>nomatch z) h
 | @lst a xs ea=>
   cases (show u=Value.ref a from rx)
   obtain ⟨_,_,n,_,h1⟩:=(show dU X.prog X.w H s.heap a (.lst xs) from I.hok a _ ea)
   exact PySem.W.kia_one PySem.W.kitx_list I.kIn ⟨_,h1,rfl⟩ e (fun z=>nomatch z) h
 | @frz a ob xs ea=>
   cases (show u=Value.ref a from rx)
   obtain ⟨_,_,_,n,_,h1⟩:=(show dU X.prog X.w H s.heap a (.frz ob (.lst xs)) from I.hok a _ ea)
   exact PySem.W.kia_one PySem.W.kitx_list I.kIn ⟨_,h1,rfl⟩ e (fun z=>nomatch z) h
 | @tup a xs ea=>
   cases (show u=Value.ref a from rx)
   obtain ⟨_,_,_,p⟩:=(show dU X.prog X.w H s.heap a (.tup xs) from I.hok a _ ea)
   obtain ⟨o,h1,h2,_⟩:=p
   exact PySem.W.kia_one PySem.W.kitx_tuple I.kIn ⟨o,h1,h2⟩ e (fun z=>nomatch z) h
 | @dK a kvs ea=>
   cases (show u=Value.ref a from rx)
   obtain ⟨_,_,vs,_,p⟩:=(show dU X.prog X.w H s.heap a (.dK kvs) from I.hok a _ ea)
   obtain ⟨o,es,ep,h1,h2,_⟩:=p
   exact PySem.W.kia_one PySem.W.kitx_dict I.kIn ⟨o,h1,h2.1⟩ e (fun z=>nomatch z) h
 | @dT a kvs ea=>
   cases (show u=Value.ref a from rx)
   obtain ⟨_,_,xs,_,o,es,ep,h1,h2,_⟩:=(show dU X.prog X.w H s.heap a (.dT kvs) from I.hok a _ ea)
   exact PySem.W.kia_one PySem.W.kitx_dict I.kIn ⟨o,h1,h2.1⟩ e (fun z=>nomatch z) h
 | @ins a C dx fs ea cl ha hn htk hm=>
   cases (show u=Value.ref a from rx)
   obtain ⟨mA,O,_⟩:=x6 I.hok ea
   obtain ⟨od,J,_⟩:=O.look
   exact PySem.W.kia_one (PySem.W.kitx_own (cl.get _) cl.hd ha hn htk hm) I.kIn J e (fun z=>nomatch z) h
end
end L2
namespace L2
open PySem PySem.Spec PyProof.Rows
structure gW (k:Nat) (A:Around):Prop where
 hd:A.handled=none
 dp:A.depth + 3 * k + 5 < recursionLimit
 un:A.units + 16 * k + 200 < cLine
theorem gW.mono {j k:Nat} {A:Around} (r:gW k A) (h:j≤k):gW j A:=⟨r.hd,by have:=r.dp; lia,by have:=r.un; lia⟩
theorem gW.deeper {k:Nat} {A:Around} (r:gW (k + 1) A) (env:Env):gW k (A.deeper env):=
 ⟨r.hd,by have:=r.dp; show A.depth + 1 + 3 * k + 5 < _; lia,by have:=r.un; show A.units + 3 + 16 * k + 200 < _; lia⟩
theorem gW.in1 {k:Nat} {A:Around} (r:gW (k + 1) A):gW k A.in1:=
 ⟨r.hd,by have:=r.dp; show A.depth + 3 * k + 5 < _; lia,by have:=r.un; show A.units + 1 + 16 * k + 200 < _; lia⟩
theorem Fu {A:Around} {C:Addr} {us:List Value} {kw:List (Str × Value)}:(A.under (.builtin "type.__call__" ⟨.ref C :: us,kw⟩)).depth=A.depth + 1:=by
 first | rfl | simp [Around.under,Code.weight,Code.isCreation,Code.isGuard,Code.isCaller,Code.frames,Code.isFrame,guardIds]
theorem Fv {A:Around} {C:Addr} {us:List Value} {kw:List (Str × Value)}:(A.under (.builtin "type.__call__" ⟨.ref C :: us,kw⟩)).units=A.units + 1:=by
 first | rfl | simp [Around.under,Code.cUnits,Code.frames,Code.isFrame]
theorem gW.make {k:Nat} {A:Around} (r:gW (k + 1) A) (C:Addr) (us:List Value) (kw:List (Str × Value)):gW k (A.under (.builtin "type.__call__" ⟨.ref C :: us,kw⟩)):=
 ⟨r.hd,by have:=r.dp; rw [Fu]; lia,by have:=r.un; rw [Fv]; lia⟩
theorem gW.depth {k:Nat} {A:Around} (r:gW k A):A.depth < recursionLimit:=by have:=r.dp; lia
theorem gW.units {k:Nat} {A:Around} (r:gW k A):A.units + 64 < cLine:=by have:=r.un; lia
noncomputable def Oy:TA:=fun _ H Q=>Q [] H
noncomputable def NG (ta:TE) (tr:TA):TA:=fun σ H Q=>ta σ H fun x H1=>tr σ H1 fun xs H2=>Q (x :: xs) H2
section
variable {X:Cx} {e:Expr} {es:List Expr} {te:TE} {t:TA} {pos:Pos}
theorem ai:PA X [] Oy:=fun _ _ _ _ H Q I h=>Calls.spliced_nil ⟨[],H,I,.nil,h⟩
theorem aa (ha:PE X e te) (hr:PA X es t) (hs:starEach (e :: es) X.env=(false,eval e X.env) :: starEach es X.env:=by rfl):PA X (e :: es) (NG te t):=by
 intro pos pins s σ H Q I h
 rw [hs]
 show wpAny _ _ (spliced ((false,eval e X.env) :: backTo pos (starEach es X.env))) _ _ s
 refine Calls.spliced_cons (thn (ha pins s σ H _ I h) fun u s1 ⟨x,H1,I1,r1,q1⟩=>?_)
 exact thn (hr pos pins s1 σ H1 _ I1 q1) fun us s2 ⟨xs,H2,I2,r2,q2⟩=>⟨x :: xs,H2,I2,.cons r1 r2,q2⟩
noncomputable def Qr (t:TA):TE:=fun σ H Q=>t σ H fun xs H1=>xs.length≤sizeLine∧∀ p,H1 p=none→Q (.ref p) (upd H1 p (.tup xs))
noncomputable def Qs (t:TA):TE:=fun σ H Q=>t σ H fun xs H1=>xs.length≤sizeLine∧∀ p,H1 p=none→Q (.ref p) (upd H1 p (.lst xs))
theorem aZ {x1} (h:PA X es t):PE X (.Tuple es x1 pos) (Qr t):=by
 intro pins s σ H Q I hq
 refine wpAny_Tuple_spliced (thn (h pos pins s σ H _ I hq) fun us s1 ⟨xs,H1,I1,r,z,q⟩=>⟨by rw [← r.length]; exact z,?_⟩)
 have hf:H1 s1.heap.objs.size=none:=I1.hok.fresh (Nat.le_refl _)
 refine ⟨.ref s1.heap.objs.size,upd H1 s1.heap.objs.size (.tup xs),I1.laid (t':=s1.toks) (fun b u e=>Heap.get?_push_of_some _ e) (Nat.le_refl _) ?_,rfl,q _ hf⟩
 exact ⟨z,us,r,⟨_,Heap.get?_push_size _ rfl,rfl,_,rfl⟩⟩
theorem bH (h:PA X es t):PE X (.List es pos) (Qs t):=by
 intro pins s σ H Q I hq
 refine wpAny_List_spliced (thn (h pos pins s σ H _ I hq) fun us s1 ⟨xs,H1,I1,r,z,q⟩=>⟨by rw [← r.length]; exact z,?_⟩)
 have hf:H1 s1.heap.objs.size=none:=I1.hok.fresh (Nat.le_refl _)
 refine ⟨.ref s1.heap.objs.size,upd H1 s1.heap.objs.size (.lst xs),I1.laid (t':=s1.toks) (fun b u e=>Heap.get?_push_of_some _ e) (Nat.le_refl _) ?_,rfl,q _ hf⟩
 exact ⟨z,us,0,r,Heap.get?_push_size _ rfl⟩
end
noncomputable abbrev Sp:=List V→Hp→VK→XK→Prop
noncomputable abbrev CXT:=List Env→Hp→Shared→XK→Value→Shared→Prop
structure Fw (P:Program) (w:World) (K:PySem.W.Frag) (mg:Str→Option Value) (base:Heap) (A:Around) (outer:List Env) (s:Shared) (H:Hp):Prop where
 frames:A.frames=some outer
 mod:Mod K mg base
 bs:∀ b o,base.get? b=some o→s.heap.get? b=some o∧H b=none
 bsz:base.objs.size≤s.heap.objs.size
 xM:s.heap.FunFrames base outer
 frf:∀ b∈frs outer,H b=none
 hok:HOk P w H s.heap
 bare:AllBare s.gens
noncomputable def CE (outer:List Env) (P:Program) (w:World) (H:Hp) (s:Shared) (Q:VK) (u:Value) (s':Shared):Prop:=
 ∃ v H',s'.os=s.os∧AllBare s'.gens∧Un (frs outer) [] H H' s.heap s'.heap∧HOk P w H' s'.heap∧RelV v u∧Q v H'
noncomputable def CR (CX:CXT) (outer:List Env) (P:Program) (w:World) (H:Hp) (s:Shared) (Q:VK) (E:XK) (r:Result) (s':Shared):Prop:=
 match r with
 | .ok (.ret u)=>CE outer P w H s Q u s'
 | .ok _=>False
 | .error e=>CX outer H s E e s'
structure bW (P:Program) (w:World) (K:PySem.W.Frag) (mg:Str→Option Value) (base:Heap) (CX:CXT) (k:Nat) (f:Addr) (fd:FuncData) (ps:List Str) (sp:Sp):Prop where
 len:∀ vs H Q E,sp vs H Q E→vs.length=ps.length
 run:∀ (A:Around) (outer:List Env) (s:Shared) (H:Hp) (args:Args) (us:List Value) (vs:List V) (Q:VK) (E:XK),gW k A→Fw P w K mg base A outer s H→BindsTo s fd args (ps.zip us)→Vals vs us→sp vs H Q E→
   codeAny (model P w) A (.call (.ref f) args) (CR CX outer P w H s Q E) s
theorem Fw.make {P:Program} {w:World} {K:PySem.W.Frag} {mg:Str→Option Value} {base:Heap} {A:Around} {outer:List Env} {s:Shared} {H:Hp} (e:Fw P w K mg base A outer s H) (C:Addr) (us:List Value) (kw:List (Str × Value)) :
   Fw P w K mg base (A.under (.builtin "type.__call__" ⟨.ref C :: us,kw⟩)) outer s H:=⟨by first | exact e.frames | (simpa [Around.under,Code.envs,Code.isFrame,pushEnvs] using e.frames),e.mod,e.bs,e.bsz,e.xM,e.frf,e.hok,e.bare⟩
section
variable {X:Cx} {pins:List (Addr × Obj)} {σ:St} {H:Hp} {s s':Shared}
theorem Inv.Qt (I:Inv X pins σ H s):Fw X.prog X.w X.K X.mg X.base X.A X.stack s H:=
 ⟨I.ok.frames,I.ok.mod,I.bs,Nat.le_trans I.ok.bsz I.sz,I.stack,I.GP,I.hok,I.bare⟩
theorem Inv.after {Q:VK} {u:Value} (I:Inv X pins σ H s) (h:CE X.stack X.prog X.w H s Q u s'):EP X pins σ Q u s':=by
 obtain ⟨v,H',os,bare,un,hok,r,q⟩:=h
 obtain ⟨hh,g,d,t,os'⟩:=s'
 obtain rfl:os'=s.os:=os
 exact ⟨v,H',I.call (h':=hh) (g':=g) (d':=d) (t':=t) (ch:=[]) un hok bare (fun b z=>absurd z (by simp)),r,q⟩
end
noncomputable def NH (sp:Sp) (dvs:List V) (E:XK) (t:TA):TE:=fun σ H Q=>t σ H fun vs H1=>sp (vs ++ dvs) H1 Q E
noncomputable def JV (C:Addr) (m:Str) (sp:Sp) (dvs:List V) (E:XK) (ta:TE) (t:TA):TE:=fun σ H Q=>ta σ H fun x H1=>∃ a dx fs,x=.ref a∧H1 a=some (.ins C dx fs)∧fs.lookup m=none∧
 t σ H1 fun vs H2=>sp (x :: (vs ++ dvs)) H2 Q E
noncomputable def JW (C:Addr) (sp:Sp) (dvs:List V) (E:XK) (t:TA):TE:=fun σ H Q=>t σ H fun vs H1=>∀ x dx,H1 x=none→H1 dx=none→dx≠x→
 sp (.ref x :: (vs ++ dvs)) (upd (upd H1 dx (.own x)) x (.ins C dx [])) (fun v H2=>v=.non∧Q (.ref x) H2) E
noncomputable def Binds (K:PySem.W.Frag) (fd:FuncData) (ps:List Str) (ds:List Value):Prop:=
 ∀ (s:Shared) (us:List Value),K.In s.heap→(us ++ ds).length=ps.length→BindsTo s fd ⟨us,[]⟩ (ps.zip (us ++ ds))
theorem Binds.all {K:PySem.W.Frag} {fd:FuncData} {ps:List Str} (h:∀ us:List Value,us.length=ps.length→bindArgs fd ⟨us,[]⟩=pure (ps.zip us)):Binds K fd ps []:=fun s us _ hl=>by
 rw [List.append_nil] at hl ⊢
 exact .of_eq (h us hl)
noncomputable def Passes (CX:CXT) (X:Cx) (E:XK):Prop:=∀ (pins:List (Addr × Obj)) (σ:St) (H:Hp) (s:Shared) (e:Value) (s':Shared),Inv X pins σ H s→CX X.stack H s E e s'→X.xe e s'
section
variable {X:Cx} {CX:CXT} {k:Nat} {f C:Addr} {fd:FuncData} {ps:List Str} {sp:Sp} {dvs:List V} {ds:List Value} {E:XK} {x m:Str} {p pos apos:Pos} {e o:Expr} {es:List Expr} {ta:TE} {t:TA}
theorem JX {pins:List (Addr × Obj)} {σ:St} {H:Hp} {s:Shared} {Q:VK} {us:List Value} {vs:List V} (F:bW X.prog X.w X.K X.mg X.base CX k f fd ps sp) (hr:gW k X.A) (hb:Binds X.K fd ps ds) (hd:Vals dvs ds) (hx:Passes CX X E)
   (I:Inv X pins σ H s) (r:Vals vs us) (h:sp (vs ++ dvs) H Q E):wpAny (model X.prog X.w) X.A (call (.ref f) us) (EP X pins σ Q) X.xe s:=by
 have r2:Vals (vs ++ dvs) (us ++ ds):=r.append hd
 have hl:(us ++ ds).length=ps.length:=by rw [← r2.length]; exact F.len _ _ _ _ h
 refine wpAny_call (codeAny_mono (F.run X.A X.stack s H ⟨us,[]⟩ (us ++ ds) (vs ++ dvs) Q E hr I.Qt (hb s us I.kIn hl) r2 h) fun r s' hq=>?_)
 cases r with
 | error e=>exact hx pins σ H s e s' I hq
 | ok fl=>
   cases fl with
   | ret u=>exact I.after hq
   | next=>exact False.elim hq
   | brk=>exact False.elim hq
   | cont=>exact False.elim hq
theorem aJ (F:bW X.prog X.w X.K X.mg X.base CX k f fd ps sp) (hr:gW k X.A) (hg:Gl X x) (hm:X.mg x=some (.ref f)) (hk:PySem.W.keepIn X.K (.ref f)=true) (hb:Binds X.K fd ps ds) (hd:Vals dvs ds) (hx:Passes CX X E)
   (ha:PA X (e :: es) t) (hdb:(x == ("__debug__":Str))=false:=by decide) (he:starEach (e :: es) X.env=(false,eval e X.env) :: starEach es X.env:=by rfl) (hpl:(backTo pos (starEach es X.env)).any (·.1)=false:=by rfl) :
   PE X (.Call (.Name x p) (e :: es) [] pos) (NH sp dvs E t):=by
 intro pins s σ H Q I h
 refine wpAny_Call_Name_kw (BV I hg hm ?_ hdb)
 refine PySem.W.callWith_K (h₀:=X.base) I.ok.mod.kin hk (thn (ha pos pins s σ H _ I h) fun us s1 ⟨vs,H1,I1,r,q⟩=>⟨I1.kIn,?_⟩) he hpl
 exact JX F hr hb hd hx I1 r q
theorem t9 {pl:Sem Bool} (he:PE X o ta) (c:Cls X.K C) (hm:Meth X.K C m f) (F:bW X.prog X.w X.K X.mg X.base CX k f fd ps sp) (hr:gW k X.A) (hb:Binds X.K fd ps ds) (hd:Vals dvs ds) (hx:Passes CX X E)
   (ht:eval (.Call (.Attribute o m apos) [] [] pos) X.env=(do
     let ov ← eval o X.env
     standAt apos.atName
     let (f,first) ← holding [ov] (getMethod ov m pl)
     callWith pos f first (backTo pos (starEach [] X.env)) (backToKw pos (keywordEach [] X.env))):=by rfl) :
   PE X (.Call (.Attribute o m apos) [] [] pos) (JV C m sp dvs E ta Oy):=by
 intro pins s σ H Q I h
 refine PySem.W.methodCall_KW (pl:=pl) (thn (he pins s σ H _ I h) fun u s1 ⟨x,H1,I1,rx,a,dx,fs,ex,ea,l,q⟩=>?_) ht
 subst ex
 obtain rfl:u=Value.ref a:=rx
 refine Ft I1 ea c hm l ?_
 exact PySem.W.callWith_K0 (first:=[.ref a]) I1.kIn hm.kp (JX (us:=[.ref a]) (vs:=[.ref a]) F hr hb hd hx I1 (.cons rfl .nil) q)
structure Mk (K:PySem.W.Frag) (C f:Addr):Prop where
 makes:PySem.W.makesIn K C=true
 init:PySem.W.findIn K (.ref C) "__init__"=some (some (.ref f))
 fn:PySem.W.isFn K (.ref f)=true
 kp:PySem.W.keepIn K (.ref C)=true
theorem JY {pins:List (Addr × Obj)} {σ:St} {H:Hp} {s:Shared} {Q:VK} {us:List Value} {vs:List V} (M:Mk X.K C f) (F:bW X.prog X.w X.K X.mg X.base CX k f fd ps sp) (hr:gW (k + 1) X.A) (hb:Binds X.K fd ps ds) (hd:Vals dvs ds)
   (hx:Passes CX X E) (I:Inv X pins σ H s) (r:Vals vs us)
   (h:∀ x dx,H x=none→H dx=none→dx≠x→sp (.ref x :: (vs ++ dvs)) (upd (upd H dx (.own x)) x (.ins C dx [])) (fun v H2=>v=.non∧Q (.ref x) H2) E) :
   wpAny (model X.prog X.w) X.A (call (.ref C) us) (EP X pins σ Q) X.xe s:=by
 have hq:=h (s.heap.objs.size + 1) s.heap.objs.size (I.hok.fresh (Nat.le_succ _)) (I.hok.fresh (Nat.le_refl _)) (Nat.ne_of_lt (Nat.lt_succ_self _))
 have I2:=Inv.made (C:=C) I
 have r2:Vals (V.ref (s.heap.objs.size + 1) :: (vs ++ dvs)) (Value.ref (s.heap.objs.size + 1) :: (us ++ ds)):=.cons rfl (r.append hd)
 have hl:(Value.ref (s.heap.objs.size + 1) :: us ++ ds).length=ps.length:=by
   have e:=r2.length
   rw [F.len _ _ _ _ hq] at e
   exact e.symm
 refine wpAny_call (JT (f:=f) I.kIn M.makes M.init (beq_iff_eq.mp M.fn) (codeAny_mono (F.run _ X.stack _ _ ⟨Value.ref (s.heap.objs.size + 1) :: us,[]⟩ (Value.ref (s.heap.objs.size + 1) :: (us ++ ds)) _ _ E (hr.make C us [])
   (I2.Qt.make C us []) (hb _ (Value.ref (s.heap.objs.size + 1) :: us) I2.kIn hl) r2 hq) fun r s' hq'=>?_))
 cases r with
 | error e=>exact hx pins σ _ _ e s' I2 hq'
 | ok fl=>
   cases fl with
   | ret u=>
     obtain ⟨v,H',I3,rv,ev,q3⟩:=I2.after hq'
     subst ev
     exact ⟨rv,⟨V.ref (s.heap.objs.size + 1),H',I3,rfl,q3⟩⟩
   | next=>exact False.elim hq'
   | brk=>exact False.elim hq'
   | cont=>exact False.elim hq'
theorem GZ (M:Mk X.K C f) (F:bW X.prog X.w X.K X.mg X.base CX k f fd ps sp) (hr:gW (k + 1) X.A) (hg:Gl X x) (hm:X.mg x=some (.ref C)) (hb:Binds X.K fd ps ds) (hd:Vals dvs ds) (hx:Passes CX X E)
   (ha:PA X (e :: es) t) (hdb:(x == ("__debug__":Str))=false:=by decide) (he:starEach (e :: es) X.env=(false,eval e X.env) :: starEach es X.env:=by rfl) (hpl:(backTo pos (starEach es X.env)).any (·.1)=false:=by rfl) :
   PE X (.Call (.Name x p) (e :: es) [] pos) (JW C sp dvs E t):=by
 intro pins s σ H Q I h
 refine wpAny_Call_Name_kw (BV I hg hm ?_ hdb)
 refine PySem.W.callWith_K (h₀:=X.base) I.ok.mod.kin M.kp (thn (ha pos pins s σ H _ I h) fun us s1 ⟨vs,H1,I1,r,q⟩=>⟨I1.kIn,?_⟩) he hpl
 exact JY M F hr hb hd hx I1 r q
end
section
variable {X:Cx} {CX:CXT} {k:Nat} {f C:Addr} {fd:FuncData} {ps ks:List Str} {sp:Sp} {E:XK} {x m:Str} {p pos apos RL:Pos} {e o:Expr} {es:List Expr} {kws:List Keyword} {te ta:TE} {t tk:TA} {nm:Option Str}
variable {g:List Value→List Value→List Value} {gV:List V→List V→List V}
end
structure bu (N P:List Str) (sc:Scope):Prop where
 kind:sc.kind=.function
 co:sc.isCoroutine=false
 gen:sc.isGenerator=false
 nd:N.Nodup
 pre:N.take P.length=P
 par:∀ x∈P,sc.names.lookup x=some .local∨sc.names.lookup x=some .cell
 Oz:∀ y∈sc.names,y.2≠.free
theorem A6 {kindOf:Str→Option NameKind} {x:Str}:∀ {binds:List (Str × Value)} {m:Str→Option Value},(∀ v,(x,v) ∉ binds)→bindL kindOf binds m x=m x
 | [],_,_=>rfl
 | (n,v) :: r,m,h=>by
   unfold bindL
   rw [A6 fun w hw=>h w (List.mem_cons_of_mem _ hw)]
   split
   · have:x≠n:=by rintro rfl; exact h v List.mem_cons_self
     simp [this]
   · rfl
theorem A7 {kindOf:Str→Option NameKind} {x:Str}:∀ {binds:List (Str × Value)} {m:Str→Option Value},(∀ v,(x,v) ∉ binds)→bindC kindOf binds m x=m x
 | [],_,_=>rfl
 | (n,v) :: r,m,h=>by
   unfold bindC
   rw [A7 fun w hw=>h w (List.mem_cons_of_mem _ hw)]
   split
   · rfl
   · have:x≠n:=by rintro rfl; exact h v List.mem_cons_self
     simp [this]
theorem A8 {kindOf:Str→Option NameKind} {x:Str} {v:Value}:∀ {P:List Str} {vs:List Value} {i:Nat} {m:Str→Option Value},P.Nodup→P[i]?=some x→vs[i]?=some v→kindOf x=some .local→
   bindL kindOf (P.zip vs) m x=some v
 | [],_,_,_,_,h,_,_=>by simp at h
 | _ :: _,[],_,_,_,_,h,_=>by simp at h
 | p :: P,w :: vs,0,m,nd,h1,h2,hk=>by
   simp at h1 h2; subst h1; subst h2
   show bindL kindOf ((p,w) :: P.zip vs) m p=_
   unfold bindL
   rw [A6 fun v hv=>(List.nodup_cons.mp nd).1 (List.of_mem_zip hv).1,if_pos hk]
   simp
 | p :: P,w :: vs,i + 1,m,nd,h1,h2,hk=>by
   show bindL kindOf ((p,w) :: P.zip vs) m x=_
   unfold bindL
   exact A8 (i:=i) (List.nodup_cons.mp nd).2 (by simpa using h1) (by simpa using h2) hk
theorem A9 {kindOf:Str→Option NameKind} {x:Str} {v:Value}:∀ {P:List Str} {vs:List Value} {i:Nat} {m:Str→Option Value},P.Nodup→P[i]?=some x→vs[i]?=some v→kindOf x≠some .local→
   bindC kindOf (P.zip vs) m x=some v
 | [],_,_,_,_,h,_,_=>by simp at h
 | _ :: _,[],_,_,_,_,h,_=>by simp at h
 | p :: P,w :: vs,0,m,nd,h1,h2,hk=>by
   simp at h1 h2; subst h1; subst h2
   show bindC kindOf ((p,w) :: P.zip vs) m p=_
   unfold bindC
   rw [A7 fun v hv=>(List.nodup_cons.mp nd).1 (List.of_mem_zip hv).1,if_neg hk]
   simp
 | p :: P,w :: vs,i + 1,m,nd,h1,h2,hk=>by
   show bindC kindOf ((p,w) :: P.zip vs) m x=_
   unfold bindC
   exact A9 (i:=i) (List.nodup_cons.mp nd).2 (by simpa using h1) (by simpa using h2) hk
noncomputable def start (N:List Str) (vs:List V):St:=vs.map some ++ List.replicate (N.length - vs.length) none
noncomputable def DG (CX:CXT) (P:Program) (w:World) (K:PySem.W.Frag) (mg:Str→Option Value) (base:Heap) (N:List Str) (qual:Str) (scope:Scope) (f:Addr) (cd:Value) (A:Around) (outer:List Env) (s:Shared) (H:Hp) (E:XK):Cx where
 prog:=P
 w:=w
 K:=K
 mg:=mg
 base:=base
 A:=A.deeper (envOfC qual scope s.heap.objs.size f cd)
 N:=N
 s₀:=s
 H₀:=H
 env:=envOfC qual scope s.heap.objs.size f cd
 outer:=outer
 stack:=envOfC qual scope s.heap.objs.size f cd :: outer
 ex:=[]
 calm:=true
 fn:=fun _=>true
 pn:=[]
 xe:=fun e s'=>wpAny (model P w) (A.deeper (envOfC qual scope s.heap.objs.size f cd)) (leaving (envOfC qual scope s.heap.objs.size f cd) e) (fun _ s''=>CX outer H s E e s'') (fun e' s''=>CX outer H s E e' s'') s'
theorem DH {sc:Scope} {n:Nat} {x:Str} (h:sc.names.lookup x=some .cell):∃ c,(cellsFrom n sc.names []).lookup x=some c:=by
 have q:=PySem.W.cellsFrom_some sc.names n [] (.inl h)
 exact Option.isSome_iff_exists.mp q
theorem Iw {CX:CXT} {P:Program} {w:World} {K:PySem.W.Frag} {mg:Str→Option Value} {base:Heap} {N ps:List Str} {qual:Str} {scope:Scope} {f:Addr} {cd:Value} {A:Around} {outer:List Env} {s s1:Shared} {H:Hp} {E:XK} {us:List Value} {vs:List V}
   (S:bu N ps scope) (hd:A.handled=none) (e0:Fw P w K mg base A outer s H) (hl:vs.length=ps.length) (r:Vals vs us)
   (x:InCallC s s.heap.objs.size (bindL (envOfC qual scope s.heap.objs.size f cd).kindOf (ps.zip us) fun _=>none) (cellsFrom (s.heap.objs.size + 1) scope.names []) (bindC (envOfC qual scope s.heap.objs.size f cd).kindOf (ps.zip us) fun _=>none) s1) :
   Inv (DG CX P w K mg base N qual scope f cd A outer s H E) [] (start N vs) H s1:=by
 have hpl:ps.length≤N.length:=by have:=congrArg List.length S.pre; rw [List.length_take] at this; lia
 obtain ⟨h1,tk,rfl,hk⟩:=x.done
 have noA:∀ b:Addr,b ∉ (DG CX P w K mg base N qual scope f cd A outer s H E).ex:=fun b z=>absurd (show b∈([]:List Addr) from z) (by simp)
 refine ⟨⟨e0.mod,S.kind,rfl,rfl,Nat.le_refl _,fun y z c h1 h2=>?_,fun y hy=>?_,fun y c _ h=>?_,fun _=>hd,Around.frames_deeper e0.frames,.inr ⟨rfl,rfl⟩,fun b z=>absurd z (noA b),e0.bs,e0.bsz,fun b _ _=>noA b,fun b z=>absurd z (noA b),e0.xM,e0.frf⟩,
   rfl,e0.bare,Un.kept hk,⟨_,x.toInCall.ns,fun i y v h1 h2 h3=>?_⟩,fun y c h=>⟨_,x.cell y c h⟩,e0.hok.fresh (Nat.le_refl _),fun y c h=>?_,fun p hp=>absurd (show p∈([]:List (Addr × Obj)) from hp) (by simp),e0.hok.kept hk,?_⟩
 · exact name_of_addr x.apart (PySem.mem_of_lookup h1) (PySem.mem_of_lookup h2)
 · have hy:scope.names.lookup y=some .cell∨scope.names.lookup y=some .free:=hy
   rcases hy with hy | hy
   · exact DH hy
   · exact absurd rfl (S.Oz _ (PySem.mem_of_lookup hy))
 · exact Nat.le_of_lt (x.above y c (PySem.mem_of_lookup h))
 · have hi:i < vs.length:=by
     unfold start at h2
     by_cases hi:i < vs.length
     · exact hi
     · rw [List.getElem?_append_right (by simpa using hi)] at h2
       rw [List.getElem?_replicate] at h2
       split at h2 <;> cases h2
   have ha:vs[i]?=some v:=by
     unfold start at h2
     rw [List.getElem?_append_left (by simpa using hi),List.getElem?_map] at h2
     cases e:vs[i]? with
     | none=>rw [e] at h2; cases h2
     | some a=>rw [e] at h2; cases h2; rfl
   obtain ⟨u,hu,rv⟩:=r.get ha
   have hp:ps[i]?=some y:=by
     rw [← S.pre,List.getElem?_take_of_lt (by lia)]; exact h1
   have ndP:ps.Nodup:=by rw [← S.pre]; exact S.nd.sublist (List.take_sublist _ _)
   refine ⟨u,rv,?_⟩
   rcases S.par y (List.mem_of_getElem? hp) with k | k
   · exact .inl ⟨k,A8 ndP hp hu k⟩
   · obtain ⟨c,e⟩:=DH (n:=s.heap.objs.size + 1) k
     refine .inr ⟨.inl k,c,e,?_⟩
     have q:=x.cell y c e
     rw [A9 ndP hp hu (by show scope.names.lookup y≠_; rw [k]; decide)] at q
     exact q
 · exact e0.hok.fresh (Nat.le_of_lt (x.above y c (PySem.mem_of_lookup h)))
 · unfold start
   show _=N.length
   rw [List.length_append,List.length_map,List.length_replicate]
   lia
theorem Qu {CX:CXT} {P:Program} {w:World} {K:PySem.W.Frag} {mg:Str→Option Value} {base:Heap} {k:Nat} {f:Addr} {name qual:Str} {params:Arguments} {body:List Stmt} {scope:Scope} {dV kV doc pm cdv ct oc:Value} {an od:Option Addr}
   {osl:Array (Option Value)} {N ps:List Str} {sp:Sp} (lk:K.lookup f=some ⟨oc,od,.func (PySem.W.fnOf name qual params body scope dV kV doc pm an cdv ct),osl⟩) (hcd:PySem.W.codeIn K cdv qual=true) (S:bu N ps scope)
   (len:∀ vs H Q E,sp vs H Q E→vs.length=ps.length)
   (DI:∀ (A:Around) (outer:List Env) (s:Shared) (H:Hp) (vs:List V) (Q:VK) (E:XK),gW k (A.deeper (envOfC qual scope s.heap.objs.size f cdv))→sp vs H Q E→
     ∃ t,PSs (DG CX P w K mg base N qual scope f cdv A outer s H E) body t∧t { nx:=fun _ H'=>Q .non H',rt:=Q } (start N vs) H) :
   bW P w K mg base CX (k + 1) f (PySem.W.fnOf name qual params body scope dV kV doc pm an cdv ct) ps sp:=by
 refine ⟨len,fun A outer s H args us vs Q E hr e0 hb r hsp=>?_⟩
 have hl:=len _ _ _ _ hsp
 have KX:K.In s.heap:=e0.mod.kin.keeps fun b o e=>(e0.bs b o e).1
 have lim:s.heap.NoLimit:=e0.mod.nolimit.keeps fun b o e=>(e0.bs b o e).1
 have Qv:∀ y∈ps.zip us,scope.names.lookup y.1=some .local∨(scope.names.lookup y.1=some .cell∧((cellsFrom (s.heap.objs.size + 1) scope.names []).lookup y.1).isSome=true):=fun ⟨n,v⟩ hy=>by
   rcases S.par n (List.of_mem_zip hy).1 with q | q
   · exact .inl q
   · exact .inr ⟨q,PySem.W.cellsFrom_some _ _ _ (.inl q)⟩
 refine codeAny_call_function hr.depth (KX _ _ lk) rfl S.co S.gen rfl (PySem.W.codeRec_of KX hcd) (hb _ _ _ _ ?_)
 refine wpAny_newFunctionEnv_cells S.kind Qv fun env he s1 x=>?_
 subst he
 refine ⟨lim.keeps x.toInCall.keep,codeAny_func ?_⟩
 obtain ⟨t,ht,hq⟩:=DI A outer s H vs Q E (hr.deeper _) hsp
 have I:Inv (DG CX P w K mg base N qual scope f cdv A outer s H E) [] (start N vs) H s1:=Iw S hr.hd e0 hl r x
 refine wpAny_mono (ht [] s1 (start N vs) H _ I hq) (fun fl s' hs=>?_) fun e s' hs=>hs
 have fin:∀ {σ':St} {H':Hp} {v:V} {u:Value},Inv (DG CX P w K mg base N qual scope f cdv A outer s H E) [] σ' H' s'→RelV v u→Q v H'→CE outer P w H s Q u s':=
   fun {σ' H' v u} J rv q=>⟨v,H',J.os,J.bare,J.base,J.hok,rv,q⟩
 cases fl with
 | ret u=>
   obtain ⟨v,σ',H',J,rv,q⟩:=hs
   exact fin J rv q
 | next=>
   obtain ⟨σ',H',J,q⟩:=hs
   exact fin (v:=V.non) (u:=Value.none) J rfl q
 | brk=>
   obtain ⟨_,_,_,q⟩:=hs
   exact False.elim q
 | cont=>
   obtain ⟨_,_,_,q⟩:=hs
   exact False.elim q
end L2
namespace L2
open PySem PySem.Spec PyProof.Rows
section
variable {X:Cx} {x:Str} {p pos:Pos} {e:Expr} {es:List Expr} {t:TA} {id T:String} {r:List V→Hp→VK→Prop}
noncomputable def tCB (r:List V→Hp→VK→Prop) (t:TA):TE:=fun σ H Q=>t σ H fun vs H1=>r vs H1 Q
theorem bO (hc:ny X (.builtin id) r) (hg:Gl X x) (hm:X.mg x=none) (hv:bootBuiltins x=some (.builtin id)) (ha:PA X (e :: es) t) (hn:x≠"__name__":=by decide) (hdb:(x == ("__debug__":Str))=false:=by decide)
   (he:starEach (e :: es) X.env=(false,eval e X.env) :: starEach es X.env:=by rfl) (hpl:(backTo pos (starEach es X.env)).any (·.1)=false:=by rfl):PE X (.Call (.Name x p) (e :: es) [] pos) (tCB r t):=by
 intro pins s σ H Q I h
 refine wpAny_Call_Name_kw (sR I hg hm hv ?_ hn hdb)
 exact PyProof.Rows.callWith_builtin1 (thn (ha pos pins s σ H _ I h) fun us s1 ⟨vs,H1,I1,r1,q1⟩=>hc pins s1 σ H1 vs us Q I1 r1 q1) he hpl
theorem fU (hc:ny X (.type T) r) (hg:Gl X x) (hm:X.mg x=none) (hv:bootBuiltins x=some (.type T)) (ha:PA X (e :: es) t) (hn:x≠"__name__":=by decide) (hdb:(x == ("__debug__":Str))=false:=by decide)
   (he:starEach (e :: es) X.env=(false,eval e X.env) :: starEach es X.env:=by rfl) (hpl:(backTo pos (starEach es X.env)).any (·.1)=false:=by rfl):PE X (.Call (.Name x p) (e :: es) [] pos) (tCB r t):=by
 intro pins s σ H Q I h
 refine wpAny_Call_Name_kw (sR I hg hm hv ?_ hn hdb)
 exact PyProof.Rows.callWith_type1 (thn (ha pos pins s σ H _ I h) fun us s1 ⟨vs,H1,I1,r1,q1⟩=>hc pins s1 σ H1 vs us Q I1 r1 q1) he hpl
end
end L2
namespace HT
open PySem PyProof.Rows
section
open PySem.SeqAt
open PySem.AutoSeq1 (wpAny_loadPart')
open PySem.MeetsSeq PySem.MeetsSeq2 PySem.MeetsSeq3
end
section
variable {prog:Program} {w:World} {A:Around} {E:Value→Shared→Prop} {s:Shared}
theorem MD {t b:Addr} {vs ws:List Value} {Q:Value→Shared→Prop} (ht:IsTup s.heap t vs.toArray) (hb:IsTup s.heap b ws.toArray) (hv:vs≠[])
   (h1:ws=[]→Q (.ref t) s) (h2:ws≠[]→Q (.ref s.heap.objs.size) { s with heap:=s.heap.push { cls:=.type "tuple",data:=.seq (vs ++ ws).toArray } })
   (hsz:vs.length + ws.length≤sizeLine):wpAny (model prog w) A (binaryOp .Add (.ref t) (.ref b)) Q E s:=by
 obtain ⟨⟨cls,dd,data,sl⟩,ho,hc,n,hd⟩:=id ht
 obtain ⟨⟨RM,dd2,data2,sl2⟩,ho2,hc2,n2,hd2⟩:=id hb
 simp only at hc hd hc2 hd2
 subst hc hd hc2 hd2
 have e:vs.toArray ++ ws.toArray=(vs ++ ws).toArray:=by simp
 by_cases hw:ws=[]
 · exact concat_meets ⟨_,ho,rfl⟩ ⟨_,ho2,rfl⟩ noFill_tuple_add seq_tuple_add PySem.F.slot_tuple_add PySem.F.entry_tuple_add (PySem.F.args_tuple_add_2 _ _)
     (tuple_addW1 t b vs.toArray ws.toArray n n2 dd dd2 sl sl2 (by simpa using hv) (by simp [hw])) ⟨ho,ho2,h1 hw⟩
 · refine concat_meets ⟨_,ho,rfl⟩ ⟨_,ho2,rfl⟩ noFill_tuple_add seq_tuple_add PySem.F.slot_tuple_add PySem.F.entry_tuple_add (PySem.F.args_tuple_add_2 _ _)
     (tuple_addW2 t b vs.toArray ws.toArray n n2 dd dd2 sl sl2 (by simpa using hv) (by simpa using hw) (by rw [List.size_toArray,List.size_toArray]; exact hsz)) ⟨ho,ho2,?_⟩
   rw [e]
   exact h2 hw
noncomputable def sIx (n d:Nat):Option Int→Nat
 | none=>d
 | some v=>if v < 0 then (v + (n:Int)).toNat else min v.toNat n
theorem kX (n d:Nat):sIx n d none=d:=rfl
theorem lS (n d k:Nat):sIx n d (some (k:Int))=min k n:=by
 show (if (k:Int) < 0 then ((k:Int) + (n:Int)).toNat else min (k:Int).toNat n)=min k n
 rw [if_neg (by lia),Int.toNat_natCast]
theorem Fx (n d:Nat) (hd:d≤n) (o:Option Int):sIx n d o≤n:=by
 cases o with
 | none=>exact hd
 | some v=>
   show (if v < 0 then (v + (n:Int)).toNat else min v.toNat n)≤n
   by_cases hv:v < 0
   · rw [if_pos hv]; lia
   · rw [if_neg hv]; exact Nat.min_le_right _ _
theorem G0 (v:Int) (n d:Nat):(if v < 0 then max (v + (n:Int)) 0 else min v (n:Int))=((sIx n d (some v):Nat):Int):=by
 show (if v < 0 then max (v + (n:Int)) 0 else min v (n:Int))=(((if v < 0 then (v + (n:Int)).toNat else min v.toNat n):Nat):Int)
 by_cases hv:v < 0
 · simp only [if_pos hv]; lia
 · simp only [if_neg hv]; lia
theorem Fy (lo hi:Option Int) (n:Nat):Builtin.Slice.sliceAdjust lo hi 1 (n:Int)=(((sIx n 0 lo:Nat):Int),((sIx n n hi:Nat):Int)):=by
 have h1:¬ ((1:Int) < 0):=by lia
 unfold Builtin.Slice.sliceAdjust
 simp only [h1,if_false]
 refine Prod.ext ?_ ?_
 · cases lo with
   | none=>rfl
   | some v=>exact G0 v n 0
 · cases hi with
   | none=>rfl
   | some v=>exact G0 v n n
theorem Fz (i j:Nat):Builtin.Slice.slicePlaces (i:Int) (j:Int) 1=j - i:=by
 unfold Builtin.Slice.slicePlaces
 have h1:(1:Int) > 0:=by lia
 simp only [h1,if_true,Int.ediv_one]
 split <;> lia
theorem yt {v:Value} {o:Option Int} {Q:Option Int→Shared→Prop} (p:IsPart v o) (h:Q o s):wpAny (model prog w) A (Builtin.Slice.slicePartIndex v) Q E s:=by
 cases p with
 | none=>exact slicePart_none h
 | int i t=>exact slicePart_int h
theorem kY {sl:Addr} {vl vu:Value} {lo hi:Option Int} {n:Nat} {Q:Int × Int × Nat→Shared→Prop} (hs:s.heap.IsSliceOf sl vl vu .none) (pl:IsPart vl lo) (pu:IsPart vu hi)
   (h:Q (((sIx n 0 lo:Nat):Int),1,sIx n n hi - sIx n 0 lo) s):wpAny (model prog w) A (Builtin.Slice.sliceApplied (.ref sl) (pure (n:Int))) Q E s:=by
 obtain ⟨os,hos,hcs,hds⟩:=id hs
 unfold Builtin.Slice.sliceApplied Builtin.Slice.sliceFields
 refine wpAny_bind (wpAny_bind (wpAny_field hos hds (x:=vl) rfl (wpAny_bind (wpAny_field hos hds (x:=vu) rfl (wpAny_bind (wpAny_field hos hds (x:=.none) rfl (wpAny_pure ?_)))))))
 refine wpAny_bind (slicePart_none ?_)
 show wpAny _ _ (if ((1:Int) == 0)=true then _ else _) _ _ s
 rw [if_neg (by decide)]
 refine wpAny_bind (yt pl (wpAny_bind (yt pu (wpAny_bind (wpAny_pure ?_)))))
 show wpAny _ _ (match Builtin.Slice.sliceAdjust lo hi 1 (n:Int) with | (lo,hi)=>pure (lo,(1:Int),Builtin.Slice.slicePlaces lo hi 1)) _ _ s
 rw [Fy lo hi n]
 show wpAny _ _ (pure (((sIx n 0 lo:Nat):Int),(1:Int),Builtin.Slice.slicePlaces ((sIx n 0 lo:Nat):Int) ((sIx n n hi:Nat):Int) 1)) _ _ s
 rw [Fz]
 exact wpAny_pure h
theorem JZ (xs:Array Value) (i k:Nat):((List.range k).filterMap fun (m:Nat)=>xs[((i:Int) + (m:Int) * 1).toNat]?).toArray=((xs.toList.drop i).take k).toArray:=by
 have e:(fun (m:Nat)=>xs[((i:Int) + (m:Int) * 1).toNat]?)=fun m=>xs[i + m]?:=by
   funext m
   have:((i:Int) + (m:Int) * 1).toNat=i + m:=by lia
   rw [this]
 rw [e]
 have:=pick_run xs i k
 rw [List.filterMap_map] at this
 have e2:((fun x=>xs[x]?) ∘ fun x=>i + x)=fun m=>xs[i + m]?:=rfl
 rw [e2] at this
 rw [this]
theorem ua {t sl:Addr} {items:Array Value} {vl vu:Value} {lo hi:Option Int} {Q:Value→Shared→Prop} (ht:IsTup s.heap t items) (hs:s.heap.IsSliceOf sl vl vu .none) (pl:IsPart vl lo) (pu:IsPart vu hi)
   (hw:¬ (sIx items.size 0 lo=0∧sIx items.size items.size hi=items.size))
   (h:Q (.ref s.heap.objs.size) { s with heap:=s.heap.push { cls:=.type "tuple",data:=.seq ((items.toList.drop (sIx items.size 0 lo)).take (sIx items.size items.size hi - sIx items.size 0 lo)).toArray } })
   (hsz:items.size≤sizeLine):wpAny (model prog w) A (getItem (.ref t) (.ref sl)) Q E s:=by
 have G1:sizeOk (.seq ((items.toList.drop (sIx items.size 0 lo)).take (sIx items.size items.size hi - sIx items.size 0 lo)).toArray):=by
   show ((items.toList.drop (sIx items.size 0 lo)).take (sIx items.size items.size hi - sIx items.size 0 lo)).toArray.size≤sizeLine
   rw [List.size_toArray,List.length_take,List.length_drop,Array.length_toList]
   lia
 have hj:sIx items.size items.size hi≤items.size:=Fx _ _ (Nat.le_refl _) hi
 obtain ⟨os,hos,hcs,hds⟩:=id hs
 have hTs:s.TypeIs (.ref sl) "slice":=⟨os,hos,hcs⟩
 unfold getItem
 try with_reducible refine wpAny_holding ?_
 first | refine wpAny_bind (wpAny_pure ?_) | skip
 refine wpAny_bind (wpAny_sequenceKey ht.typeIs (by decide) ?_)
 refine wpAny_bind (wpAny_callSpecial?_slot (name:=Str.ofString "__getitem__") ht.typeIs PyProof.Rows.slot_tuple_getitem
   (wpAny_call_entry PyProof.Rows.slot_tuple_getitem ht.typeIs entry_tuple_getitem ?_ (args_tuple_getitem _ _)))
 show wpAny _ _ (Builtin.Tuple.tupleItemsOf (.ref t) >>= _) _ _ s
 refine wpAny_bind (tupleItemsOf_ ht ?_)
 refine wpAny_bind (wpAny_typeOf hTs ?_)
 rw [if_pos (by decide)]
 refine wpAny_bind (kY hs pl pu ?_)
 have hno:¬ ((((sIx items.size 0 lo:Nat):Int) == 0 && (1:Int) == 1 && (sIx items.size items.size hi - sIx items.size 0 lo) == items.size)=true):=by
   intro q
   rw [Bool.and_eq_true,Bool.and_eq_true] at q
   have q1:((sIx items.size 0 lo:Nat):Int)=0:=eq_of_beq q.1.1
   have q2:sIx items.size items.size hi - sIx items.size 0 lo=items.size:=eq_of_beq q.2
   exact hw ⟨by lia,by lia⟩
 show wpAny _ _ (if (((sIx items.size 0 lo:Nat):Int) == 0 && (1:Int) == 1 && (sIx items.size items.size hi - sIx items.size 0 lo) == items.size)=true then _ else _) _ _ s
 rw [if_neg hno,JZ]
 first
   | exact wpAny_bind (m:=Builtin.Tuple.tupleExact _) (wpAny_newObj_type (wpAny_pure ⟨_,rfl,wpAny_pure h⟩) G1)
   | exact wpAny_bind (m:=Builtin.Tuple.tupleExact _) (wpAny_newObj_type (wpAny_bind (wpAny_pure (wpAny_pure ⟨_,rfl,wpAny_pure h⟩))) G1)
   | exact wpAny_bind (wpAny_bind (m:=Builtin.Tuple.tupleExact _) (wpAny_newObj_type (wpAny_pure (wpAny_pure ⟨_,rfl,wpAny_pure h⟩)) G1))
   | exact wpAny_bind (wpAny_bind (m:=Builtin.Tuple.tupleExact _) (wpAny_newObj_type (wpAny_pure ⟨_,rfl,wpAny_pure h⟩) G1))
end
end HT
namespace L2
open PySem PySem.Spec PyProof.Rows
noncomputable abbrev TO:=St→Hp→(Option Int→Hp→Prop)→Prop
noncomputable def PO (X:Cx) (e:Option Expr) (t:TO):Prop:=
 ∀ (pins:List (Addr × Obj)) (s:Shared) (σ:St) (H:Hp) (Q:Option Int→Hp→Prop),Inv X pins σ H s→t σ H Q→
   wpAny (model X.prog X.w) X.A (evalPart e X.env) (fun u s'=>∃ o H',Inv X pins σ H' s'∧IsPart u o∧Q o H') X.xe s
noncomputable def B1:TO:=fun _ H Q=>Q none H
noncomputable def J0 (t:TE):TO:=fun σ H Q=>t σ H fun x H1=>∃ i,x=.int i∧Q (some i) H1
section
variable {X:Cx} {e:Expr} {te:TE} {lo hi:Option Expr} {tl th:TO} {pos p2:Pos}
theorem j9:PO X none B1:=by
 intro pins s σ H Q I h
 rw [evalPart_none]
 exact wpAny_pure ⟨none,H,I,.none,h⟩
theorem ka (h:PE X e te):PO X (some e) (J0 te):=by
 intro pins s σ H Q I hw
 rw [evalPart_some]
 refine thn (h pins s σ H _ I hw) fun u s1 ⟨x,H1,I1,r1,q1⟩=>?_
 obtain ⟨i,rfl,q⟩:=q1
 obtain ⟨t,rfl⟩:=r1
 exact ⟨some i,H1,I1,.int i t,q⟩
noncomputable def SlR (X:Cx) (r:V→Option Int→Option Int→Hp→VK→Prop):Prop:=
 ∀ (pins:List (Addr × Obj)) (s:Shared) (σ:St) (H:Hp) (x:V) (v vl vu:Value) (lo hi:Option Int) (sl:Addr) (Q:VK),Inv X pins σ H s→RelV x v→s.heap.IsSliceOf sl vl vu .none→IsPart vl lo→IsPart vu hi→r x lo hi H Q→
   ∃ T id,typeLookup (.type T) "__getitem__"=pure (some (.builtin id))∧s.TypeIs v T∧wpAny (model X.prog X.w) X.A (getItem v (.ref sl)) (EP X pins σ Q) X.xe s
noncomputable def tSl (r:V→Option Int→Option Int→Hp→VK→Prop) (te:TE) (tl th:TO):TE:=fun σ H Q=>te σ H fun x H1=>tl σ H1 fun l H2=>th σ H2 fun u H3=>r x l u H3 Q
theorem iL {r:V→Option Int→Option Int→Hp→VK→Prop} (hr:SlR X r) (he:PE X e te) (hl:PO X lo tl) (hu:PO X hi th):PE X (.Subscript e (.Slice lo hi none p2) pos) (tSl r te tl th):=by
 intro pins s σ H Q I h
 refine Subscript_ (thn (he pins s σ H _ I h) fun v s1 ⟨x,H1,I1,r1,q1⟩=>?_)
 refine wpAny_Slice (thn (hl pins s1 σ H1 _ I1 q1) fun vl s2 ⟨l,H2,I2,pl,q2⟩=>thn (hu pins s2 σ H2 _ I2 q2) fun vu s3 ⟨u,H3,I3,pu,q3⟩=>?_)
 rw [evalPart_none]
 refine wpAny_pure ?_
 have I4:Inv X pins σ H3 { s3 with heap:=s3.heap.push { cls:=.type "slice",data:=.fields #[vl,vu,.none] } }:=I3.kept (t':=s3.toks) fun b ob q=>Heap.get?_push_of_some _ q
 obtain ⟨T,id,hT,ht,hg⟩:=hr pins { s3 with heap:=s3.heap.push { cls:=.type "slice",data:=.fields #[vl,vu,.none] } } σ H3 x v vl vu l u s3.heap.objs.size Q I4 r1 (Heap.IsSliceOf.new ..) pl pu q3
 show wpAny (model X.prog X.w) X.A (subscriptTail e (.Slice lo hi none p2) v (.ref s3.heap.objs.size)) (EP X pins σ Q) X.xe { s3 with heap:=s3.heap.push { cls:=.type "slice",data:=.fields #[vl,vu,.none] } }
 exact tail_any (ops:=[.ref s3.heap.objs.size,v]) ht hT hg (by with_unfolding_all rfl)
noncomputable def gQ (xs:List V) (lo hi:Option Int):List V:=(xs.drop (HT.sIx xs.length 0 lo)).take (HT.sIx xs.length xs.length hi - HT.sIx xs.length 0 lo)
theorem eY (xs:List V) (lo hi:Option Int):(gQ xs lo hi).length≤xs.length:=by
 unfold gQ
 rw [List.length_take,List.length_drop]
 lia
noncomputable def RN (K:PySem.W.Frag):V→Option Int→Option Int→Hp→VK→Prop:=fun x lo hi H Q=>∃ a xs,x=.ref a∧SqT K H a xs∧
 ¬ (HT.sIx xs.length 0 lo=0∧HT.sIx xs.length xs.length hi=xs.length)∧∀ p,H p=none→Q (.ref p) (upd H p (.tup (gQ xs lo hi)))
theorem J7:SlR X (RN X.K):=by
 intro pins s σ H x v vl vu lo hi sl Q I rx hs pl pu h
 obtain ⟨a,xs,rfl,hx,hw,q⟩:=h
 cases rx
 obtain ⟨its,r,ht,hz⟩:=I.tuple hx
 have hlen:its.toArray.size=xs.length:=by rw [List.size_toArray]; exact r.length.symm
 refine ⟨"tuple",_,PyProof.Rows.slot_tuple_getitem.lookup,ht.typeIs,?_⟩
 refine HT.ua ht hs pl pu (by rw [hlen]; exact hw) ?_ (by rw [hlen]; exact hz)
 rw [hlen]
 refine ⟨.ref s.heap.objs.size,_,I.laid (t':=s.toks) (o:=.tup (gQ xs lo hi)) (fun b ob q=>Heap.get?_push_of_some _ q) (Nat.le_refl _) ?_,rfl,q _ (I.hok.fresh (Nat.le_refl _))⟩
 exact ⟨Nat.le_trans (eY xs lo hi) hz,_,(r.drop (HT.sIx xs.length 0 lo)).take (HT.sIx xs.length xs.length hi - HT.sIx xs.length 0 lo),IsTup.new _ _⟩
noncomputable def NI (K:PySem.W.Frag):R2:=fun x y H Q=>∃ a b xs ys,x=.ref a∧y=.ref b∧SqT K H a xs∧SqT K H b ys∧xs≠[]∧xs.length + ys.length≤sizeLine∧
 (ys=[]→Q (.ref a) H)∧(ys≠[]→∀ p,H p=none→Q (.ref p) (upd H p (.tup (xs ++ ys))))
theorem Vals.bw {xs:List V} {us:List Value} (r:Vals xs us):us=[]↔xs=[]:=by
 cases r with
 | nil=>simp
 | cons _ _=>simp
theorem ub:OpR X (binaryOp .Add) (NI X.K):=by
 intro pins s σ H x y v u Q I rx ry h
 obtain ⟨a,b,xs,ys,rfl,rfl,ha,hb,hx,hz,q1,q2⟩:=h
 cases rx
 cases ry
 obtain ⟨its,r1,p1,_⟩:=I.tuple ha
 obtain ⟨uc,r2,p2,_⟩:=I.tuple hb
 refine HT.MD p1 p2 (fun z=>hx (r1.bw.mp z)) (fun z=>⟨.ref a,H,I,rfl,q1 (r2.bw.mp z)⟩) (fun z=>?_) (by rw [← r1.length,← r2.length]; exact hz)
 refine ⟨.ref s.heap.objs.size,_,I.laid (t':=s.toks) (o:=.tup (xs ++ ys)) (fun b ob q=>Heap.get?_push_of_some _ q) (Nat.le_refl _) ?_,rfl,q2 (fun w=>z (r2.bw.mpr w)) _ (I.hok.fresh (Nat.le_refl _))⟩
 exact ⟨by rw [List.length_append]; exact hz,_,r1.append r2,IsTup.new _ _⟩
end
end L2
namespace L2
open PySem PySem.Spec PyProof.Rows
noncomputable def ixN (n:Nat) (i:Int):Option Nat:=if 0≤i then (if i < n then some i.toNat else none) else if -(n:Int)≤i then some (i + n).toNat else none
noncomputable def atI {α:Type} (xs:List α) (i:Int):Option α:=(ixN xs.length i).bind fun j=>xs[j]?
theorem G2 {n:Nat} {i:Int} {j:Nat} (h:ixN n i=some j):seqIndex? i n=some j∧j < n∧-(n:Int)≤i∧i < n:=by
 unfold ixN at h
 by_cases h0:0≤i
 · rw [if_pos h0] at h
   by_cases h1:i < n
   · rw [if_pos h1] at h
     have e:i.toNat=j:=Option.some.inj h
     exact ⟨by rw [seqIndex_of h0 h1,e],by lia,by lia,h1⟩
   · rw [if_neg h1] at h; cases h
 · rw [if_neg h0] at h
   by_cases h1 : -(n:Int)≤i
   · rw [if_pos h1] at h
     have e:(i + n).toNat=j:=Option.some.inj h
     exact ⟨by rw [seqIndex_neg (by lia) h1,e],by lia,h1,by lia⟩
   · rw [if_neg h1] at h; cases h
theorem B2 {α:Type} {xs:List α} {i:Int} {v:α} (h:atI xs i=some v):∃ j,seqIndex? i xs.length=some j∧xs[j]?=some v∧j < xs.length∧-(xs.length:Int)≤i∧i < xs.length:=by
 unfold atI at h
 cases e:ixN xs.length i with
 | none=>rw [e] at h; cases h
 | some j=>
   rw [e] at h
   obtain ⟨h1,h2,h3,h4⟩:=G2 e
   exact ⟨j,h1,h,h2,h3,h4⟩
theorem av {α:Type} {xs:List α} {j:Nat} {v:α} (h:xs[j]?=some v):atI xs (j:Int)=some v:=by
 have hj:j < xs.length:=(List.getElem?_eq_some_iff.mp h).1
 have e:ixN xs.length (j:Int)=some j:=by
   unfold ixN
   rw [if_pos (by lia),if_pos (by lia)]; simp
 unfold atI; rw [e]; exact h
theorem jE {α:Type} (xs:List α) (v:α):atI (xs ++ [v]) (-1)=some v:=by
 have hl:(xs ++ [v]).length=xs.length + 1:=by simp
 have e:ixN (xs ++ [v]).length (-1)=some xs.length:=by
   unfold ixN
   rw [hl,if_neg (by decide),if_pos (by lia)]
   congr 1
   lia
 unfold atI
 rw [e]
 show (xs ++ [v])[xs.length]?=some v
 simp
noncomputable def lT (b:Expr):Prop:=∀ o i,subscripted b false o i=operate [o,i] (getItem o i)
noncomputable def IxR (X:Cx) (r:R2):Prop:=
 ∀ (value slice:Expr) (pins:List (Addr × Obj)) (s:Shared) (σ:St) (H:Hp) (x y:V) (v u:Value) (Q:VK),Inv X pins σ H s→RelV x v→RelV y u→r x y H Q→
   subscripted slice false v u=operate [v,u] (getItem v u)→wpAny (model X.prog X.w) X.A (subscriptTail value slice v u) (EP X pins σ Q) X.xe s
noncomputable def MtR (X:Cx) (id:String) (r:V→List V→Hp→VK→Prop):Prop:=
 ∀ (pins:List (Addr × Obj)) (s:Shared) (σ:St) (H:Hp) (x:V) (xs:List V) (v:Value) (us:List Value) (Q:VK),Inv X pins σ H s→RelV x v→Vals xs us→r x xs H Q→
   wpAny (model X.prog X.w) X.A (call (.builtin id) (v :: us)) (EP X pins σ Q) X.xe s
section
variable {X:Cx} {a b:Expr} {ta tb:TE} {pos:Pos}
theorem IxR.or {r r':R2} (h:IxR X r) (h':IxR X r'):IxR X (fun x y H Q=>r x y H Q∨r' x y H Q):=by
 intro value slice pins s σ H x y v u Q I rx ry q hs
 rcases q with q | q
 · exact h value slice pins s σ H x y v u Q I rx ry q hs
 · exact h' value slice pins s σ H x y v u Q I rx ry q hs
theorem aD {r:R2} (hr:IxR X r) (ha:PE X a ta) (hb:PE X b tb) (hs:lT b):PE X (.Subscript a b pos) (tOp r ta tb):=by
 intro pins s σ H Q I h
 exact Subscript_ (Oq ha hb I h fun v u s2 x y H2 I2 rx ry q=>hr a b pins s2 σ H2 x y v u Q I2 rx ry q (hs _ _))
noncomputable def DJ (K:PySem.W.Frag):R2:=fun x y H Q=>∃ p xs i v,x=.ref p∧y=.int i∧SqL K H p xs∧atI xs i=some v∧Q v H
noncomputable def FA (K:PySem.W.Frag):R2:=fun x y H Q=>∃ p xs i v,x=.ref p∧y=.int i∧SqT K H p xs∧atI xs i=some v∧Q v H
noncomputable def Qw:R2:=fun x y H Q=>∃ z i c,x=.str z∧y=.int i∧z.length≤sizeLine∧atI z.cps.toList i=some c∧Q (.str ⟨#[c]⟩) H
theorem bt:IxR X (DJ X.K):=by
 intro value slice pins s σ H x y v u Q I rx ry h hs
 obtain ⟨p,xs,i,z,rfl,rfl,hq,he,q⟩:=h
 cases rx
 obtain ⟨t,rfl⟩:=ry
 obtain ⟨its,r,pl,hz⟩:=I.list hq
 obtain ⟨j,h1,h2,h3,h4,h5⟩:=B2 he
 obtain ⟨w,ew,rw'⟩:=r.get h2
 have hl:=r.length
 have hn:=vX
 have fin:EP X pins σ Q w s:=⟨z,H,I,rw',q⟩
 by_cases h0:0≤i
 · have hj:i.toNat=j:=by
     rw [seqIndex_of h0 h5] at h1
     exact Option.some.inj h1
   exact item_listR pl.isList h0 (by lia) (by rw [hj]; simpa using ew) fin hs
 · have hj:(i + (its.toArray.size:Int)).toNat=j:=by
     rw [seqIndex_neg (by lia) h4] at h1
     rw [List.size_toArray,← hl]
     exact Option.some.inj h1
   exact subscriptTail_builtinR (x:=w) pl.isList.typeIs slot_list_getitem.lookup
     (wpAny_getItem_list_neg (Q:=fun r s'=>r=w∧EP X pins σ Q r s') pl.isList (by lia) (by rw [List.size_toArray] <;> lia) (by lia) (by rw [hj]; simpa using ew) ⟨rfl,fin⟩) hs
theorem aP:IxR X (FA X.K):=by
 intro value slice pins s σ H x y v u Q I rx ry h hs
 obtain ⟨p,xs,i,z,rfl,rfl,hq,he,q⟩:=h
 cases rx
 obtain ⟨t,rfl⟩:=ry
 obtain ⟨its,r,pl,hz⟩:=I.tuple hq
 obtain ⟨j,h1,h2,h3,h4,h5⟩:=B2 he
 obtain ⟨w,ew,rw'⟩:=r.get h2
 have hl:=r.length
 have hn:=vX
 have fin:EP X pins σ Q w s:=⟨z,H,I,rw',q⟩
 exact subscriptTail_builtinR (x:=w) pl.typeIs slot_tuple_getitem.lookup
   (getItem_tuple (j:=j) (Q:=fun r s'=>r=w∧EP X pins σ Q r s') pl (by lia) (by lia) (by rw [List.size_toArray,← hl]; exact h1) (by simpa using ew) ⟨rfl,fin⟩) hs
theorem B3:IxR X Qw:=by
 intro value slice pins s σ H x y v u Q I rx ry h hs
 obtain ⟨z,i,c,rfl,rfl,hz,he,q⟩:=h
 obtain ⟨t,rfl⟩:=rx
 obtain ⟨t',rfl⟩:=ry
 obtain ⟨j,h1,h2,h3,h4,h5⟩:=B2 he
 have hl:z.cps.toList.length=z.length:=by simp [Str.length]
 rw [hl] at h1 h4 h5
 have hn:=vX
 exact tail_any (typeIs_str s z t) slot_str_getitem.lookup (getItem_str (c:=c) (by
   have e1:decide (i < -(2 ^ 63:Int))=false:=decide_eq_false (by lia)
   have e2:decide (i ≥ 2 ^ 63)=false:=decide_eq_false (by lia)
   rw [e1,e2,Bool.or_false]) (by rw [h1]; simpa using h2) ⟨.str ⟨#[c]⟩,H,I.tok _,⟨_,rfl⟩,q⟩) hs
noncomputable def rIx (K:PySem.W.Frag):R2:=fun x y H Q=>DJ K x y H Q∨FA K x y H Q∨Qw x y H Q
theorem B4:IxR X (rIx X.K):=bt.or (aP.or B3)
theorem FC (its:List Value) (n j:Nat) (u:Value):Obj.mapSeq (·.setIfInBounds j u) { cls:=.type "list",data:=.seq its.toArray n }={ cls:=.type "list",data:=.seq (its.set j u).toArray n }:=by
 simp [Obj.mapSeq]
theorem Inv.lst {pins:List (Addr × Obj)} {σ:St} {H:Hp} {s:Shared} {p:Addr} {xs:List V} (I:Inv X pins σ H s) (h:H p=some (.lst xs)) :
   ∃ (its:List Value) (n:Nat),Vals xs its∧s.heap.get? p=some { cls:=.type "list",data:=.seq its.toArray n }∧xs.length≤sizeLine:=by
 obtain ⟨z,its,n,r,e⟩:=I.hok p _ h
 exact ⟨its,n,r,e,z⟩
theorem Inv.OA {pins:List (Addr × Obj)} {σ:St} {H:Hp} {s:Shared} {p:Addr} {xs ys:List V} {its its':List Value} {n n':Nat} {f:Obj→Obj} (I:Inv X pins σ H s) (h:H p=some (.lst xs))
   (ho:s.heap.get? p=some { cls:=.type "list",data:=.seq its.toArray n }) (hf:f { cls:=.type "list",data:=.seq its.toArray n }={ cls:=.type "list",data:=.seq its'.toArray n' }) (r:Vals ys its') (hz:ys.length≤sizeLine) (t:Nat) :
   Inv X pins σ (upd H p (.lst ys)) { s with heap:=s.heap.update p f,toks:=t }:=by
 have e:(s.heap.update p f).get? p=some { cls:=.type "list",data:=.seq its'.toArray n' }:=by
   rw [Heap.get?_update_self f ho (by rw [hf] <;> rfl),hf]
 refine I.write (x:=p) (e:=p) (by rw [h]; trivial) (.inl rfl) (fun b u hb q=>(Heap.get?_update_other _ _ (Ne.symm hb)).trans q) ⟨_,e⟩ ?_
 exact ⟨hz,its',n',r,e⟩
noncomputable def Qx:V→V→V→Hp→(Hp→Prop)→Prop:=fun o i v H Q=>∃ p xs k j,o=.ref p∧i=.int k∧H p=some (.lst xs)∧ixN xs.length k=some j∧Q (upd H p (.lst (xs.set j v)))
theorem set_list:Qg X Qx:=by
 intro pins s σ H o i v ov iv u Q I ro ri rv h
 obtain ⟨p,xs,k,j,rfl,rfl,hp,hj,q⟩:=h
 cases ro
 obtain ⟨t,rfl⟩:=ri
 obtain ⟨its,n,r,ho,hz⟩:=I.lst hp
 obtain ⟨h1,h2,h3,h4⟩:=G2 hj
 have hl:=r.length
 have hn:=vX
 have I':Inv X pins σ (upd H p (.lst (xs.set j v))) { s with heap:=s.heap.update p (Obj.mapSeq (·.setIfInBounds j u)) }:=
   I.OA hp ho (FC its n j u) (r.set rv j) (by rw [List.length_set]; exact hz) s.toks
 by_cases h0:0≤k
 · have hk:k.toNat=j:=by
     rw [seqIndex_of h0 h4] at h1
     exact Option.some.inj h1
   exact PySem.W.ki_setAt ho h0 (by lia) (by rw [List.size_toArray,← hl]; exact h4) (by rw [hk]; exact ⟨_,I',q⟩)
 · have hk:(k + (its.toArray.size:Int)).toNat=j:=by
     rw [seqIndex_neg (by lia) h3] at h1
     rw [List.size_toArray,← hl]
     exact Option.some.inj h1
   exact PySem.W.ki_setBack ho (by lia) (by rw [List.size_toArray,← hl]; exact h3) (by lia) (by rw [hk]; exact ⟨_,I',q⟩)
theorem B5 (lo hi:Option Int) (n:Nat):(sliceBounds lo hi none n).1=((HT.sIx n 0 lo:Nat):Int)∧(sliceBounds lo hi none n).2.1=((HT.sIx n n hi:Nat):Int)∧(sliceBounds lo hi none n).2.2=1:=by
 refine ⟨?_,?_,rfl⟩
 · cases lo with
   | none=>simp [sliceBounds,HT.sIx]
   | some i=>
     simp only [sliceBounds,HT.sIx,Option.getD_none,show (1:Int) > 0 by decide,if_true]
     by_cases h:i < 0
     · simp only [h,if_true] <;> lia
     · simp only [h,if_false] <;> lia
 · cases hi with
   | none=>simp [sliceBounds,HT.sIx]
   | some i=>
     simp only [sliceBounds,HT.sIx,Option.getD_none,show (1:Int) > 0 by decide,if_true]
     by_cases h:i < 0
     · simp only [h,if_true] <;> lia
     · simp only [h,if_false] <;> lia
theorem Aw (its:List Value) (lo hi:Option Int):slicePick its.toArray lo hi none=((its.drop (HT.sIx its.length 0 lo)).take (HT.sIx its.length its.length hi - HT.sIx its.length 0 lo)).toArray:=by
 obtain ⟨h1,h2,h3⟩:=B5 lo hi its.toArray.size
 unfold slicePick
 rw [h1,h2,h3]
 simp only [sliceRange_one,pick_run,List.size_toArray] <;> rfl
noncomputable def RO (K:PySem.W.Frag):V→Option Int→Option Int→Hp→VK→Prop:=fun x lo hi H Q=>∃ a xs,x=.ref a∧SqL K H a xs∧∀ p,H p=none→Q (.ref p) (upd H p (.lst (gQ xs lo hi)))
theorem ud:SlR X (RO X.K):=by
 intro pins s σ H x v vl vu lo hi sl Q I rx hs pl pu h
 obtain ⟨a,xs,rfl,hx,q⟩:=h
 cases rx
 obtain ⟨its,r,ht,hz⟩:=I.list hx
 have hlen:=r.length
 refine ⟨"list",_,slot_list_getitem.lookup,ht.isList.typeIs,?_⟩
 refine wpAny_getItem_list_slice ht.isList hs pl pu .none (by simp) ?_ (by rw [List.size_toArray] <;> lia)
 rw [Aw,← hlen]
 refine ⟨.ref s.heap.objs.size,_,I.laid (t':=s.toks) (o:=.lst (gQ xs lo hi)) (fun b ob q=>Heap.get?_push_of_some _ q) (Nat.le_refl _) ?_,rfl,q _ (I.hok.fresh (Nat.le_refl _))⟩
 exact ⟨Nat.le_trans (eY xs lo hi) hz,_,0,(r.drop (HT.sIx xs.length 0 lo)).take (HT.sIx xs.length xs.length hi - HT.sIx xs.length 0 lo),Heap.get?_push_size _ rfl⟩
noncomputable def xf:V→Bool
 | .non=>true
 | .bl _=>true
 | .int _=>true
 | .str _=>true
 | _=>false
noncomputable def eqV:V→V→Bool
 | .non,.non=>true
 | .bl a,.bl b=>a == b
 | .bl a,.int b=>(if a then 1 else 0) == b
 | .int a,.bl b=>a == (if b then 1 else 0)
 | .int a,.int b=>a == b
 | .str a,.str b=>a == b
 | _,_=>false
theorem OB {A:Around} {s:Shared} {y x:V} {u v:Value} (ry:RelV y u) (rx:RelV x v) (fy:xf y=true) (fx:xf x=true):SeqAt.EqAt A s u v (eqV y x):=by
 cases y with
 | non=>
   cases ry
   cases x with
   | non=>cases rx; exact SeqAt.EqAt.same _
   | bl b=>cases rx; exact SeqAt.EqAt.none_bool b
   | int b=>obtain ⟨t,rfl⟩:=rx; exact SeqAt.EqAt.none_int b t
   | str b=>obtain ⟨t,rfl⟩:=rx; exact SeqAt.EqAt.none_str b t
   | _=>exact absurd (show false=true from fx) Bool.false_ne_true
 | bl a=>
   cases ry
   cases x with
   | non=>cases rx; exact SeqAt.EqAt.bool_none a
   | bl b=>cases rx; exact SeqAt.EqAt.bool_bool a b
   | int b=>obtain ⟨t,rfl⟩:=rx; exact SeqAt.EqAt.bool_int a b t
   | str b=>obtain ⟨t,rfl⟩:=rx; exact SeqAt.EqAt.bool_str a b t
   | _=>exact absurd (show false=true from fx) Bool.false_ne_true
 | int a=>
   obtain ⟨t',rfl⟩:=ry
   cases x with
   | non=>cases rx; exact SeqAt.EqAt.int_none a t'
   | bl b=>cases rx; exact SeqAt.EqAt.int_bool a t' b
   | int b=>obtain ⟨t,rfl⟩:=rx; exact SeqAt.EqAt.int_int a t' b t
   | str b=>obtain ⟨t,rfl⟩:=rx; exact SeqAt.EqAt.int_str a t' b t
   | _=>exact absurd (show false=true from fx) Bool.false_ne_true
 | str a=>
   obtain ⟨t',rfl⟩:=ry
   cases x with
   | non=>cases rx; exact SeqAt.EqAt.str_none a t'
   | bl b=>cases rx; exact SeqAt.EqAt.str_bool a t' b
   | int b=>obtain ⟨t,rfl⟩:=rx; exact SeqAt.EqAt.str_int a t' b t
   | str b=>obtain ⟨t,rfl⟩:=rx; exact SeqAt.EqAt.str_str a t' b t
   | _=>exact absurd (show false=true from fx) Bool.false_ne_true
 | _=>exact absurd (show false=true from fy) Bool.false_ne_true
noncomputable def eqU (x:V) (u:Value):Bool:=match u with
 | .none=>eqV .non x
 | .bool b=>eqV (.bl b) x
 | .int i _=>eqV (.int i) x
 | .str z _=>eqV (.str z) x
 | _=>false
theorem J8 {x y:V} {u:Value} (r:RelV y u) (f:xf y=true):eqU x u=eqV y x:=by
 cases y with
 | non=>cases r; rfl
 | bl b=>cases r; rfl
 | int i=>obtain ⟨t,rfl⟩:=r; rfl
 | str z=>obtain ⟨t,rfl⟩:=r; rfl
 | _=>exact absurd (show false=true from f) Bool.false_ne_true
theorem ue {x:V}:∀ {xs:List V} {us:List Value},Vals xs us→xs.all xf=true→us.any (eqU x)=xs.any fun y=>eqV y x
 | _,_,.nil,_=>rfl
 | y :: xs,u :: us,.cons r t,f=>by
   rw [List.all_cons,Bool.and_eq_true] at f
   rw [List.any_cons,List.any_cons,J8 r f.1,ue t f.2]
theorem oA {A:Around} {s:Shared} {x:V} {v:Value} (rx:RelV x v) (fx:xf x=true):∀ {xs:List V} {us:List Value},Vals xs us→xs.all xf=true→∀ u∈us,SeqAt.EqAt A s u v (eqU x u)
 | _,_,.nil,_=>fun u hu=>by cases hu
 | y :: xs,u :: us,.cons r t,f=>fun u' hu=>by
   rw [List.all_cons,Bool.and_eq_true] at f
   rcases List.mem_cons.mp hu with rfl | hu
   · rw [J8 r f.1]; exact OB r rx f.1 fx
   · exact oA rx fx t f.2 u' hu
noncomputable def inV (x:V) (xs:List V):Bool:=xs.any fun y=>eqV y x
noncomputable def rIn (K:PySem.W.Frag) (neg:Bool):R2:=fun x y H Q=>∃ p xs,y=.ref p∧(SqL K H p xs∨SqT K H p xs)∧xf x=true∧xs.all xf=true∧Q (.bl (if neg then !inV x xs else inV x xs)) H
theorem qA:OpR X (compareOp .In) (rIn X.K false):=by
 intro pins s σ H x y v u Q I rx ry h
 obtain ⟨p,xs,rfl,hq,fx,fs,q⟩:=h
 cases ry
 rcases hq with hq | hq
 · obtain ⟨its,r,pl,hz⟩:=I.list hq
   refine SeqAt.in_listAt (eqU x) pl.isList (fun w hw=>oA rx fx r fs w (by simpa using hw)) ⟨.bl _,H,I,rfl,?_⟩
   rw [show its.toArray.any (eqU x)=its.any (eqU x) by simp,ue r fs]
   exact q
 · obtain ⟨its,r,pl,hz⟩:=I.tuple hq
   refine SeqAt.in_tupleAt (eqU x) pl (fun w hw=>oA rx fx r fs w (by simpa using hw)) ⟨.bl _,H,I,rfl,?_⟩
   rw [show its.toArray.any (eqU x)=its.any (eqU x) by simp,ue r fs]
   exact q
theorem uf:OpR X (compareOp .NotIn) (rIn X.K true):=by
 intro pins s σ H x y v u Q I rx ry h
 obtain ⟨p,xs,rfl,hq,fx,fs,q⟩:=h
 cases ry
 rcases hq with hq | hq
 · obtain ⟨its,r,pl,hz⟩:=I.list hq
   refine SeqAt.notIn_listAt (eqU x) pl.isList (fun w hw=>oA rx fx r fs w (by simpa using hw)) ⟨.bl _,H,I,rfl,?_⟩
   rw [show its.toArray.any (eqU x)=its.any (eqU x) by simp,ue r fs]
   exact q
 · obtain ⟨its,r,pl,hz⟩:=I.tuple hq
   refine SeqAt.notIn_tupleAt (eqU x) pl (fun w hw=>oA rx fx r fs w (by simpa using hw)) ⟨.bl _,H,I,rfl,?_⟩
   rw [show its.toArray.any (eqU x)=its.any (eqU x) by simp,ue r fs]
   exact q
theorem bq:ny X (.builtin "len") (fun xs H Q=>∃ p ys,xs=[.ref p]∧(SqL X.K H p ys∨SqT X.K H p ys)∧Q (.int ys.length) H):=by
 intro pins s σ H xs us Q I r h
 obtain ⟨p,ys,rfl,hq,q⟩:=h
 obtain ⟨u,rfl,rx⟩:=vals1 r
 cases rx
 have hn:=vX
 rcases hq with hq | hq
 · obtain ⟨its,r',pl,hz⟩:=I.list hq
   have hlen:=r'.length
   exact Calls.call_len_list pl.isList (by simp only [List.size_toArray] <;> lia) ⟨.int ys.length,H,I.tok _,⟨s.toks + 1,by rw [List.size_toArray,hlen]⟩,q⟩
 · obtain ⟨its,r',pl,hz⟩:=I.tuple hq
   have hlen:=r'.length
   exact len_tuple pl (by simp only [List.size_toArray] <;> lia) ⟨.int ys.length,H,I.tok _,⟨s.toks + 1,by rw [List.size_toArray,hlen]⟩,q⟩
theorem ug:ny X (.type "list") (fun xs H Q=>∃ p ys,xs=[.ref p]∧(SqL X.K H p ys∨SqT X.K H p ys)∧∀ l,H l=none→Q (.ref l) (upd H l (.lst ys))):=by
 intro pins s σ H xs us Q I r h
 obtain ⟨p,ys,rfl,hq,q⟩:=h
 obtain ⟨u,rfl,rx⟩:=vals1 r
 cases rx
 have fin:∀ (its:List Value),Vals ys its→ys.length≤sizeLine→∀ (h':Heap) (c':Nat),(∀ b o',s.heap.get? b=some o'→h'.get? b=some o')→
     h'.get? s.heap.objs.size=some { cls:=.type "list",dict:=none,data:=.seq its.toArray c',slots:=#[] }→EP X pins σ Q (.ref s.heap.objs.size) { s with heap:=h' }:=fun its r' hz h' c' kp e=>
   ⟨.ref s.heap.objs.size,_,I.laid (t':=s.toks) kp (Nat.le_refl _) (show dU X.prog X.w _ h' _ (.lst ys) from ⟨hz,its,c',r',e⟩),rfl,q _ (I.hok.fresh (Nat.le_refl _))⟩
 rcases hq with hq | hq
 · obtain ⟨its,r',pl,hz⟩:=I.list hq
   have hlen:=r'.length
   obtain ⟨o,ho,hc,n,hd⟩:=pl.isList
   exact call_list_seq p (.inl rfl) ho hc hd (fun h' c' kp e=>fin its r' hz h' c' kp e) (by simp only [List.size_toArray] <;> lia)
 · obtain ⟨its,r',pl,hz⟩:=I.tuple hq
   have hlen:=r'.length
   obtain ⟨o,ho,hc,n,hd⟩:=pl
   exact call_list_seq p (.inr rfl) ho hc hd (fun h' c' kp e=>fin its r' hz h' c' kp e) (by simp only [List.size_toArray] <;> lia)
theorem ky:ny X (.type "tuple") (fun xs H Q=>∃ p ys,xs=[.ref p]∧((SqL X.K H p ys∧∀ l,H l=none→Q (.ref l) (upd H l (.tup ys)))∨(SqT X.K H p ys∧Q (.ref p) H))):=by
 intro pins s σ H xs us Q I r h
 obtain ⟨p,ys,rfl,h⟩:=h
 obtain ⟨u,rfl,rx⟩:=vals1 r
 cases rx
 rcases h with ⟨hq,q⟩ | ⟨hq,q⟩
 · obtain ⟨its,r',pl,hz⟩:=I.list hq
   have hlen:=r'.length
   refine call_tuple_list pl.isList (fun h' kp=>?_) (by simp only [List.size_toArray] <;> lia)
   have I1:Inv X pins σ H { s with heap:=h' }:=I.kept (t':=s.toks) kp
   have I2:Inv X pins σ (upd H h'.objs.size (.tup ys)) { s with heap:=h'.push { cls:=.type "tuple",data:=.seq its.toArray } }:=
     I1.laid (t':=s.toks) (fun b o e=>Heap.get?_push_of_some _ e) (Nat.le_refl _) (show dU X.prog X.w _ _ _ (.tup ys) from ⟨hz,its,r',IsTup.new _ _⟩)
   exact ⟨.ref h'.objs.size,_,I2,rfl,q _ (I1.hok.fresh (Nat.le_refl _))⟩
 · obtain ⟨its,r',pl,hz⟩:=I.tuple hq
   exact call_tuple_same pl ⟨.ref p,H,I,rfl,q⟩
noncomputable def tyV (K:PySem.W.Frag) (T:String) (x:V) (H:Hp):Prop:=match x with
 | .str _=>T = "str"
 | .int _=>T = "int"
 | .ref p=>(T = "list"∧∃ xs,SqL K H p xs)∨(T = "tuple"∧∃ o,K.lookup p=some o∧o.cls=.type "tuple"∧o.dict=none)∨
     (T = "dict"∧((∃ kvs,H p=some (.dK kvs))∨∃ kvs,H p=some (.dT kvs)))∨(T = "set"∧∃ S n,H p=some (.set S n))
 | _=>False
theorem J9 {pins:List (Addr × Obj)} {σ:St} {H:Hp} {s:Shared} {T:String} {x:V} {v:Value} (I:Inv X pins σ H s) (r:RelV x v) (ty:tyV X.K T x H) :
   s.TypeIs v T∧∀ a,v=.ref a→∃ ob,s.heap.get? a=some ob∧ob.dict=none:=by
 cases x with
 | str z=>
   obtain ⟨t,rfl⟩:=r
   cases (show T = "str" from ty)
   exact ⟨typeIs_str s z t,fun _ e=>nomatch e⟩
 | int i=>
   obtain ⟨t,rfl⟩:=r
   cases (show T = "int" from ty)
   exact ⟨typeIs_int s i t,fun _ e=>nomatch e⟩
 | ref p=>
   cases r
   rcases ty with ⟨rfl,xs,hq⟩ | ⟨rfl,o,hk,hc,hd⟩ | ⟨rfl,hk⟩ | ⟨rfl,S,n,hk⟩
   · obtain ⟨its,_,pl,_⟩:=I.list hq
     refine ⟨pl.isList.typeIs,fun a e=>?_⟩
     cases e
     obtain ⟨o,n,e,c,hd,_⟩:=pl
     exact ⟨o,e,hd⟩
   · refine ⟨⟨o,I.kIn p o hk,hc⟩,fun a e=>?_⟩
     cases e
     exact ⟨o,I.kIn _ o hk,hd⟩
   · have z:∃ o,s.heap.get? p=some o∧o.ExactDict:=by
       rcases hk with ⟨kvs,hk⟩ | ⟨kvs,hk⟩
       · obtain ⟨_,_,_,_,o,_,_,e,ex,_⟩:=I.hok p _ hk
         exact ⟨o,e,ex⟩
       · obtain ⟨_,_,_,_,o,_,_,e,ex,_⟩:=I.hok p _ hk
         exact ⟨o,e,ex⟩
     obtain ⟨o,e,ex⟩:=z
     refine ⟨⟨o,e,ex.1⟩,fun a e2=>?_⟩
     cases e2
     exact ⟨o,e,ex.2.1⟩
   · obtain ⟨o,_,_,_,e,ex,_⟩:=I.hok p _ hk
     refine ⟨⟨o,e,ex.1⟩,fun a e2=>?_⟩
     cases e2
     exact ⟨o,e,ex.2.1⟩
 | _=>exact False.elim ty
noncomputable def OC (K:PySem.W.Frag) (T:String) (r:V→List V→Hp→VK→Prop) (to:TE):TE:=fun σ H Q=>to σ H fun x H1=>tyV K T x H1∧r x [] H1 Q
noncomputable def tBM (K:PySem.W.Frag) (T:String) (r:V→List V→Hp→VK→Prop) (to:TE) (t:TA):TE:=fun σ H Q=>to σ H fun x H1=>tyV K T x H1∧t σ H1 fun xs H2=>r x xs H2 Q
variable {o e:Expr} {es:List Expr} {to:TE} {t:TA} {name:Str} {apos yu:Pos} {T id:String} {r:V→List V→Hp→VK→Prop}
theorem B6 (pa:PlainAttrs T) (slot:Slot T name id) (hty:typeOf (.builtin id)=pure (.type "method_descriptor")) (hm:MtR X id r) (ho:PE X o to)
   (Ka:attributeBase o name X.env (eval o X.env)=eval o X.env:=by rfl) (Kb:(apos.endLine == yu.line)=true:=by rfl):PE X (.Call (.Attribute o name apos) [] [] yu) (OC X.K T r to):=by
 intro pins s σ H Q I h
 refine wpAny_Call_method0_late Ka Kb (thn (ho pins s σ H _ I h) fun v s1 ⟨x,H1,I1,r1,ty,q1⟩=>?_)
 obtain ⟨h1,h2⟩:=J9 I1 r1 ty
 exact ⟨T,id,pa,slot,hty,h1,h2,Calls.callWith_builtin rfl (PySem.evalArgs_none (hm pins s1 σ H1 x [] v [] Q I1 r1 .nil q1))⟩
theorem fz (pa:PlainAttrs T) (slot:Slot T name id) (hty:typeOf (.builtin id)=pure (.type "method_descriptor")) (hm:MtR X id r) (ho:PE X o to) (ha:PA X (e :: es) t)
   (Ka:attributeBase o name X.env (eval o X.env)=eval o X.env:=by rfl)
   (RQ:((backTo yu (starEach (e :: es) X.env)).all (fun x=>!x.1) && (backToKw yu (keywordEach [] X.env)).all (fun x=>x.1.isSome)
     && decide ((e :: es).length + ([]:List Keyword).length + (if ([]:List Keyword).isEmpty then 0 else 1) < 30))=true:=by rfl)
   (Kb:(apos.endLine == yu.line)=true:=by rfl) (hs:starEach (e :: es) X.env=(false,eval e X.env) :: starEach es X.env:=by rfl) (OD:(backTo yu (starEach es X.env)).any (·.1)=false:=by rfl) :
   PE X (.Call (.Attribute o name apos) (e :: es) [] yu) (tBM X.K T r to t):=by
 intro pins s σ H Q I h
 refine wpAny_Call_method_late Ka RQ Kb rfl (thn (ho pins s σ H _ I h) fun v s1 ⟨x,H1,I1,r1,ty,q1⟩=>?_)
 obtain ⟨h1,h2⟩:=J9 I1 r1 ty
 refine ⟨T,id,pa,slot,hty,h1,h2,?_⟩
 have hA:=ha yu pins s1 σ H1 _ I1 q1
 rw [hs] at hA ⊢
 refine Calls.callWith_builtin (by show (false || (backTo yu (starEach es X.env)).any (·.1))=false; rw [OD] <;> rfl) (Calls.evalArgs_plain ?_)
 exact thn hA fun us s2 ⟨vs,H2,I2,r2,q2⟩=>hm pins s2 σ H2 x vs v us Q I2 r1 r2 q2
end
end L2
namespace L2
open PySem PySem.Spec PyProof.Rows
noncomputable def MtM (X:Cx) (id:String) (r:V→List V→Hp→VK→Prop):Prop:=
 ∀ (pins:List (Addr × Obj)) (s:Shared) (σ:St) (H:Hp) (x:V) (xs:List V) (v:Value) (us:List Value) (Q:VK),Inv X pins σ H s→RelV x v→Vals xs us→r x xs H Q→
   wpAny (model X.prog X.w) X.A (call (.builtin id) (v :: us)) (EP X pins σ Q) X.xe s
theorem Vals.one:∀ {x:V} {us:List Value},Vals [x] us→∃ u,us=[u]∧RelV x u
 | _,_,.cons r .nil=>⟨_,rfl,r⟩
theorem Vals.zero:∀ {us:List Value},Vals [] us→us=[]
 | _,.nil=>rfl
theorem Vals.dropLast {xs:List V} {us:List Value} (h:Vals xs us):Vals xs.dropLast us.dropLast:=by
 induction h with
 | nil=>exact .nil
 | cons r t ih=>
   cases t with
   | nil=>exact .nil
   | cons q t'=>exact .cons r ih
theorem Vals.eraseIdx:∀ {xs:List V} {us:List Value} (i:Nat),Vals xs us→Vals (xs.eraseIdx i) (us.eraseIdx i)
 | _,_,_,.nil=>.nil
 | _,_,0,.cons _ t=>t
 | _,_,i + 1,.cons r t=>.cons r (Vals.eraseIdx i t)
theorem Vals.reverse {xs:List V} {us:List Value} (h:Vals xs us):Vals xs.reverse us.reverse:=by
 induction h with
 | nil=>exact .nil
 | cons r t ih=>rw [List.reverse_cons,List.reverse_cons]; exact Vals.append ih (.cons r .nil)
theorem Vals.rep {xs:List V} {us:List Value} (h:Vals xs us):∀ k:Nat,Vals (List.replicate k xs).flatten (List.replicate k us).flatten
 | 0=>.nil
 | k + 1=>by
   rw [List.replicate_succ,List.replicate_succ,List.flatten_cons,List.flatten_cons]
   exact Vals.append h (Vals.rep h k)
theorem FD {α:Type} (l:List α):l.eraseIdx (l.length - 1)=l.dropLast:=by
 induction l with
 | nil=>rfl
 | cons a r ih=>
   cases r with
   | nil=>rfl
   | cons b r=>
     have e:(a :: b :: r).length - 1=((b :: r).length - 1) + 1:=by
       have h1:(a :: b :: r).length=r.length + 2:=rfl
       have h2:(b :: r).length=r.length + 1:=rfl
       lia
     rw [e,List.eraseIdx_cons_succ,ih]
     all_goals rfl
theorem Ba {α:Type}:∀ (l:List α) (i:Nat),(l.eraseIdx i).length≤l.length
 | [],_=>Nat.le_refl _
 | _ :: _,0=>Nat.le_succ _
 | _ :: r,i + 1=>Nat.succ_le_succ (Ba r i)
theorem foldl_rep (its:List Value):∀ (k:Nat) (acc:List Value),
   List.foldl (fun x1 x2=>x1 ++ x2) acc.toArray (List.replicate k its.toArray)=(acc ++ (List.replicate k its).flatten).toArray
 | 0,acc=>by simp
 | k + 1,acc=>by
   have e:acc.toArray ++ its.toArray=(acc ++ its).toArray:=by simp
   have e2:(acc ++ its) ++ (List.replicate k its).flatten=acc ++ (List.replicate (k + 1) its).flatten:=by
     rw [List.replicate_succ,List.flatten_cons,List.append_assoc]
   rw [← e2,← foldl_rep its k (acc ++ its),← e,List.replicate_succ,List.foldl_cons]
section
variable {X:Cx} {pins:List (Addr × Obj)} {σ:St} {H:Hp} {s:Shared} {l b:Addr} {xs ys zs:List V}
theorem Inv.Kc {its its':List Value} {n:Nat} {f:Array Value→Array Value} {t':Nat} (I:Inv X pins σ H s) (hH:H l=some (.lst xs))
   (e:s.heap.get? l=some { cls:=.type "list",data:=.seq its.toArray n }) (hf:f its.toArray=its'.toArray) (hv:Vals ys its') (hz:ys.length≤sizeLine) :
   Inv X pins σ (upd H l (.lst ys)) { s with heap:=s.heap.update l (Obj.mapSeq f),toks:=t' }:=by
 have q:=PySem.IsL.update e f
 rw [hf] at q
 refine I.write (x:=l) (e:=l) (by rw [hH]; exact trivial) (.inl rfl) (fun b' u hb hu=>(Heap.get?_update_other s.heap (Obj.mapSeq f) (Ne.symm hb)).trans hu) ⟨_,q⟩ ?_
 exact ⟨hz,its',_,hv,q⟩
theorem Inv.Qy {its:List Value} {t':Nat} (I:Inv X pins σ H s) (hv:Vals ys its) (hz:ys.length≤sizeLine) :
   Inv X pins σ (upd H s.heap.objs.size (.lst ys)) { s with heap:=s.heap.push { cls:=.type "list",data:=.seq its.toArray },toks:=t' }:=
 I.laid (fun _ _ q=>Heap.get?_push_of_some _ q) (Nat.le_refl _) ⟨hz,its,0,hv,Heap.get?_push_size _ rfl⟩
theorem Inv.fresh (I:Inv X pins σ H s):H s.heap.objs.size=none:=I.hok.fresh (Nat.le_refl _)
theorem Inv.Ax (I:Inv X pins σ H s) (hH:H l=some (.lst xs)):xs.length≤sizeLine∧∃ (its:List Value) (n:Nat),Vals xs its∧xs.length=its.length∧s.heap.get? l=some { cls:=.type "list",data:=.seq its.toArray n }:=by
 obtain ⟨z,its,n,r,e⟩:=I.hok l _ hH
 exact ⟨z,its,n,r,r.length,e⟩
theorem DK {n:Nat} (h:n≤sizeLine):Builtin.List.listTooLong n=false:=by
 unfold Builtin.List.listTooLong
 exact decide_eq_false (by lia)
end
section
variable {X:Cx}
noncomputable def B7:V→List V→Hp→VK→Prop:=fun x vs H Q=>∃ l xs y,x=.ref l∧vs=[y]∧H l=some (.lst xs)∧xs.length < sizeLine∧Q .non (upd H l (.lst (xs ++ [y])))
theorem bX:MtM X "list.append" B7:=by
 intro pins s σ H x vs v us Q I rx rv h
 obtain ⟨l,xs,y,rfl,rfl,hH,hz,q⟩:=h
 cases rx
 obtain ⟨u,rfl,ru⟩:=rv.one
 obtain ⟨z,its,n,r,hl,e⟩:=I.Ax hH
 refine call_meets F.slot_list_append ⟨_,e,rfl⟩ F.entry_list_append (F.args_list_append_2 _ _) (PySem.list_append l its.toArray n u (by rw [List.size_toArray]; lia)) ⟨e,?_⟩
 refine ⟨.non,_,I.Kc (its':=its ++ [u]) hH e (by simp) (r.append (.cons ru .nil)) ?_,rfl,q⟩
 rw [List.length_append,List.length_singleton]
 lia
noncomputable def ME:V→List V→Hp→VK→Prop:=fun x vs H Q=>∃ l b xs zs,x=.ref l∧vs=[.ref b]∧H l=some (.lst xs)∧H b=some (.lst zs)∧xs.length + zs.length≤sizeLine∧Q .non (upd H l (.lst (xs ++ zs)))
theorem Bb:MtM X "list.extend" ME:=by
 intro pins s σ H x vs v us Q I rx rv h
 obtain ⟨l,b,xs,zs,rfl,rfl,hH,hB,hz,q⟩:=h
 cases rx
 obtain ⟨u,rfl,ru⟩:=rv.one
 cases ru
 obtain ⟨z,its,n,r,hl,e⟩:=I.Ax hH
 obtain ⟨z2,uc,n2,r2,hl2,e2⟩:=I.Ax hB
 have hsz:its.toArray.size + uc.toArray.size≤sizeLine:=by rw [List.size_toArray,List.size_toArray]; lia
 have Kd:¬ (!its.toArray.isEmpty && Builtin.List.listTooLong (its.toArray.size + uc.toArray.size))=true:=by
   rw [DK hsz,Bool.and_false]
   exact Bool.false_ne_true
 refine call_meets F.slot_list_extend ⟨_,e,rfl⟩ F.entry_list_extend (F.args_list_extend_2 _ _)
   (AutoSeq1.list_extend_list_list_0 l its.toArray n b uc.toArray n2 Kd (by rw [List.size_toArray]; lia) (by lia)) ⟨e,e2,?_⟩
 refine ⟨.non,_,I.Kc (its':=its ++ uc) hH e (by simp) (r.append r2) ?_,rfl,q⟩
 rw [List.length_append]
 lia
noncomputable def RR:V→List V→Hp→VK→Prop:=fun x vs H Q=>∃ l xs y,x=.ref l∧vs=[]∧H l=some (.lst xs)∧xs[xs.length - 1]?=some y∧Q y (upd H l (.lst xs.dropLast))
theorem FE:MtM X "list.pop" RR:=by
 intro pins s σ H x vs v us Q I rx rv h
 obtain ⟨l,xs,y,rfl,rfl,hH,hy,q⟩:=h
 cases rx
 have hus:=rv.zero
 subst hus
 obtain ⟨z,its,n,r,hl,e⟩:=I.Ax hH
 obtain ⟨u,hu,ru⟩:=r.get hy
 have hy':its.toArray[its.toArray.size - 1]?=some u:=by
   show its.toArray[its.length - 1]?=some u
   rw [← Array.getElem?_toList,← hl]
   exact hu
 refine call_meets F.slot_list_pop ⟨_,e,rfl⟩ F.entry_list_pop (F.args_list_pop_1 _) (MeetsSeq.list_pop_last l its.toArray n u hy' (by rw [List.size_toArray]; lia)) ⟨e,?_⟩
 refine ⟨y,_,I.Kc (its':=its.dropLast) hH e ?_ r.dropLast ?_,ru,q⟩
 · show its.toArray.eraseIdxIfInBounds (its.toArray.size - 1)=its.dropLast.toArray
   rw [List.size_toArray,List.eraseIdxIfInBounds_toArray,FD]
 · rw [List.length_dropLast]
   lia
noncomputable def OE:V→List V→Hp→VK→Prop:=fun x vs H Q=>∃ l xs i k y,x=.ref l∧vs=[.int i]∧H l=some (.lst xs)∧-(2 ^ 63)≤i∧i < 2 ^ 63∧seqIndex? i xs.length=some k∧xs[k]?=some y∧Q y (upd H l (.lst (xs.eraseIdx k)))
theorem Ke:MtM X "list.pop" OE:=by
 intro pins s σ H x vs v us Q I rx rv h
 obtain ⟨l,xs,i,k,y,rfl,rfl,hH,h1,h2,hk,hy,q⟩:=h
 cases rx
 obtain ⟨u,rfl,ru⟩:=rv.one
 obtain ⟨t,rfl⟩:=ru
 obtain ⟨z,its,n,r,hl,e⟩:=I.Ax hH
 obtain ⟨w,hw,rw'⟩:=r.get hy
 refine call_meets F.slot_list_pop ⟨_,e,rfl⟩ F.entry_list_pop (F.args_list_pop_2 _ _)
   (MeetsSeq.list_pop_at l its.toArray n i t k w (fitsIndex_both h1 h2) (by rw [List.size_toArray,← hl]; exact hk) (by rw [← Array.getElem?_toList]; exact hw) (by rw [List.size_toArray]; lia)) ⟨e,?_⟩
 refine ⟨y,_,I.Kc (its':=its.eraseIdx k) hH e ?_ (r.eraseIdx k) ?_,rw',q⟩
 · show its.toArray.eraseIdxIfInBounds k=(its.eraseIdx k).toArray
   rw [List.eraseIdxIfInBounds_toArray]
 · have:=Ba xs k
   lia
noncomputable def OF:V→List V→Hp→VK→Prop:=fun x vs H Q=>∃ l xs,x=.ref l∧vs=[]∧H l=some (.lst xs)∧Q .non (upd H l (.lst []))
theorem Kf:MtM X "list.clear" OF:=by
 intro pins s σ H x vs v us Q I rx rv h
 obtain ⟨l,xs,rfl,rfl,hH,q⟩:=h
 cases rx
 have hus:=rv.zero
 subst hus
 obtain ⟨z,its,n,r,hl,e⟩:=I.Ax hH
 refine call_meets F.slot_list_clear ⟨_,e,rfl⟩ F.entry_list_clear (F.args_list_clear_1 _) (AutoSeq1.list_clear_list_0 l its.toArray n (by rw [List.size_toArray]; lia)) ⟨e,?_⟩
 exact ⟨.non,_,I.Kc (its':=[]) (ys:=[]) hH e rfl .nil (Nat.zero_le _),rfl,q⟩
noncomputable def RT:R2:=fun x y H Q=>∃ l b xs zs,x=.ref l∧y=.ref b∧H l=some (.lst xs)∧H b=some (.lst zs)∧xs.length + zs.length≤sizeLine∧∀ p,H p=none→Q (.ref p) (upd H p (.lst (xs ++ zs)))
theorem FF:OpR X (binaryOp .Add) RT:=by
 intro pins s σ H x y v u Q I rx ry h
 obtain ⟨l,b,xs,zs,rfl,rfl,hH,hB,hz,q⟩:=h
 cases rx
 cases ry
 obtain ⟨z,its,n,r,hl,e⟩:=I.Ax hH
 obtain ⟨z2,uc,n2,r2,hl2,e2⟩:=I.Ax hB
 refine PySem.P.add_list e e2 ?_ (by rw [List.size_toArray,List.size_toArray]; lia)
 have ea:its.toArray ++ uc.toArray=(its ++ uc).toArray:=by simp
 rw [ea]
 exact ⟨.ref _,_,I.Qy (t':=s.toks) (r.append r2) (by rw [List.length_append]; lia),rfl,q _ I.fresh⟩
noncomputable def RU:R2:=fun x y H Q=>∃ l k xs,x=.ref l∧y=.int k∧H l=some (.lst xs)∧-(2 ^ 63)≤k∧k < 2 ^ 63∧xs.length * k.toNat≤sizeLine∧
 ∀ p,H p=none→Q (.ref p) (upd H p (.lst (List.replicate k.toNat xs).flatten))
theorem len_rep {α:Type} (xs:List α) (k:Nat):(List.replicate k xs).flatten.length=k * xs.length:=by
 induction k with
 | zero=>simp
 | succ k ih=>rw [List.replicate_succ,List.flatten_cons,List.length_append,ih,Nat.succ_mul,Nat.add_comm]
theorem OG:OpR X (binaryOp .Mult) RU:=by
 intro pins s σ H x y v u Q I rx ry h
 obtain ⟨l,k,xs,rfl,rfl,hH,h1,h2,hz,q⟩:=h
 cases rx
 obtain ⟨t,rfl⟩:=ry
 obtain ⟨z,its,n,r,hl,e⟩:=I.Ax hH
 have hlen:its.toArray.size * k.toNat≤sizeLine:=by rw [List.size_toArray,← hl]; exact hz
 have RV:¬ its.toArray.size * k.toNat > (2 ^ 63 - 1) / 8:=by
   have:(sizeLine:Nat)≤(2 ^ 63 - 1) / 8:=by decide
   lia
 have RW:¬ (!Builtin.List.listFitsIndex k)=true:=by
   rw [fitsIndex_both h1 h2]
   exact Bool.false_ne_true
 have Kd:¬ Builtin.List.listTooLong (its.toArray.size * k.toNat)=true:=by
   rw [DK hlen]
   exact Bool.false_ne_true
 have B8:List.foldl (fun x1 x2=>x1 ++ x2) #[] (List.replicate (if its.toArray.isEmpty=true then 0 else k.toNat) its.toArray)=(List.replicate k.toNat its).flatten.toArray:=by
   have f0:∀ m:Nat,List.foldl (fun x1 x2=>x1 ++ x2) #[] (List.replicate m its.toArray)=(List.replicate m its).flatten.toArray:=fun m=>by
     have:=foldl_rep its m []
     rw [List.nil_append] at this
     exact this
   rw [f0]
   cases its with
   | nil=>simp
   | cons a r'=>rw [if_neg (by simp)]
 refine wpAny_binaryOp_repeat_ref (T:="list") (U:="int") (by decide) ⟨_,e,rfl⟩ (fun s'=>typeIs_int s' k t) noFill_list_mul F.fills_int_mul F.slot_int_rmul repeat_list F.slot_int_index.lookup
   (call_meets F.slot_int_rmul (typeIs_int s k t) F.entry_int_rmul (F.args_int_rmul_2 _ _) (int___rmul___int_list k t l its.toArray n)
     ⟨e,rfl,⟨_,e,rfl⟩,call_meets F.slot_list_mul ⟨_,e,rfl⟩ F.entry_list_mul (F.args_list_mul_2 _ _) (AutoListH.list___mul___list_int_3 l its.toArray n k t RW RV Kd) ⟨e,?_⟩⟩)
 rw [B8]
 exact ⟨.ref _,_,I.Qy (t':=s.toks) (r.rep k.toNat) (by rw [len_rep,Nat.mul_comm]; exact hz),rfl,q _ I.fresh⟩
end
section
variable {prog:Program} {w:World} {A:Around} {E:Value→Shared→Prop} {s:Shared}
end
section
variable {X:Cx}
end
end L2
namespace Att
open PySem PySem.W PySem.Calls PyProof.Rows
theorem xN {P:Params} {h:Heap}:∀ (ns:List Int) (vs:List Value),WellAll P h vs (ns.map WData.int)→IntsAre vs ns:=by
 intro ns
 induction ns with
 | nil=>
   intro vs w
   rw [List.map_nil] at w
   cases w
   exact .nil
 | cons n ns ih=>
   intro vs w
   rw [List.map_cons] at w
   cases w with
   | cons a b=>
     cases a
     exact .cons _ _ (ih _ b)
theorem Iy {l:OpenLaw} {n:Nat} (hn:l.most=some n) {P:Params} {h:Heap} {args:List WData} {vals:List Value}
   (MF:l.row.toRowW.claim.pre args=true) (hwl:WellAll P h vals args) :
   ∃ a vs ns,vals=[Value.ref a]∧args=[WData.list (ns.map WData.int)]∧h.get? a=some { cls:=.type "list",data:=.seq vs.toArray }∧IntsAre vs ns∧ns.length≤n:=by
 have hsh:WShape.hasAll [] args [.list .int]=true:=(pre_splitW MF).1
 have hc:l.pre.holds [] { args:=args }=true:=(pre_splitW MF).2
 obtain ⟨d,r,rfl,h1,h2⟩:=hasAllW_cons hsh
 obtain rfl:=hasAllW_nil h2
 obtain ⟨xs,rfl,h3⟩:=hasW_list h1
 obtain ⟨ns,rfl⟩:=items_int h3
 have hlen:ns.length≤n:=by
   unfold OpenLaw.pre at hc
   have h4:(WTm.not (.lt (.lit (.int (n:Int))) (.len (.arg 0)))).holds [] { args:=[.list (ns.map .int)] }=true:=by
     have h4:=(holds_andW hc).1
     rw [hn] at h4
     exact h4
   have h5:=condW_of h4 (w_not (w_lt w_lit (w_len_list (w_arg rfl))))
   rw [List.length_map] at h5
   refine Nat.le_of_not_lt fun q=>?_
   have q':(n:Int) < ((ns.length:Nat):Int):=by lia
   first
     | (rw [decide_eq_true q'] at h5; exact absurd h5 (by decide))
     | (simp at h5; lia)
 cases hwl with
 | cons w1 w2=>
   cases w2
   cases w1 with
   | list ho OH=>exact ⟨_,_,ns,rfl,rfl,ho,xN ns _ OH,hlen⟩
theorem Iz (l:OpenLaw) (args:List WData):l.row.toRowW.claim.post args (.bool true) args=true:=
 postW_of (r:=l.row.toRowW) (X:=(true == true))
   (show WShape.has [] (.bool true) .bool=true by first | rfl | decide | simp [WShape.has,WShape.arms,WShape.armsAll])
   (show (WTm.eq .res (.lit (.bool true))).value [] { args:=args,res:=some (.bool true),after:=args }=some (.bool (true == true)) from w_eq_bool (w_res rfl) w_lit) rfl
theorem DL {l:OpenLaw} {n:Nat} {q:Program} {loose:List Str} {XP:(Str→Option Value)→Heap→Prop} {YP:World→Heap→Prop} {d:DefRec}
   (hn:l.most=some n) (hdf:d.params.defaults=[])
   (call:∀ (w:World) (s₀ s₁:Shared) (mg mb:Str→Option Value) (fa:Addr) (o:Obj) (pm cd doc:Value) (a:Addr) (vs:List Value) (ns:List Int),
     Ground q loose [] XP w s₀ mg mb s₁.heap→YP w s₁.heap→
     s₁.heap.get? fa=some o→o.data=.func (docDef d.name d.params d.body d.scope pm cd doc)→s₁.heap.CodeRec cd d.name→mg d.name=some (.ref fa)→
     s₁.heap.get? a=some { cls:=.type "list",data:=.seq vs.toArray }→IntsAre vs ns→ns.length≤n→s₁.gens = #[]→
     codeAny (model l.prog w) callerA (.call (.ref fa) ⟨[.ref a],[]⟩) (fun r s'=>r=.ok (.ret (.bool true))∧OldK s₁.heap s'.heap∧s'.os=s₁.os∧AllBare s'.gens) s₁) :
   WalkO q loose XP YP l.row.toRowW d [] (fun f vs=>PySem.call f vs):=by
 intro w s₀ s₁ mg mb G Y fa o pm cd doc dV kV ho hd hcd hD hmg hg args vals as MF S6 hrd hwl hlo
 obtain rfl:dV=.none:=Dflts.none hD hdf
 obtain rfl:kV=.none:=Dflts.noKw hD
 obtain ⟨a,vs,ns,rfl,rfl,OI,hints,hlen⟩:=Iy hn MF hwl
 refine enter_call (codeAny_mono (call w s₀ s₁ mg mb fa o pm cd doc a vs ns G Y ho (fd_plain hd) hcd hmg OI hints hlen hg) fun r s' hq=>?_)
 obtain ⟨rfl,h2,h3,h4⟩:=hq
 exact ⟨.inl ⟨.bool true,.bool true,[],rfl,fun _=>rfl,.bool true,Iz l _,fun _=>⟨List.Pairwise.nil,fun _ hm=>(nomatch hm)⟩⟩,h2,h3,h4⟩
section
variable {prog:Program} {w:World} {A:Around} {E:Value→Shared→Prop} {s:Shared} {K:Frag}
noncomputable def ledger (h:Heap) (L d:Addr):List (Addr × Obj):=(List.range h.objs.size).filterMap fun a=>if a=L∨a=d then none else (h.get? a).map fun o=>(a,o)
end
end Att
namespace L2
open PySem PySem.Spec PyProof.Rows
theorem Bc:∀ {vs:List Value} {ns:List Int},IntsAre vs ns→Vals (ns.map V.int) vs
 | _,_,.nil=>.nil
 | _,_,.cons n t h=>.cons ⟨t,rfl⟩ (Bc h)
noncomputable def OJ (H:Hp):Prop:=∀ b,H b=none∨∃ o xs,H b=some (.frz o (.lst xs))
theorem Kg {P:Program} {w:World} {K:PySem.W.Frag} {mg mb:Str→Option Value} {CX:CXT} {k:Nat} {fa a:Addr} {fd:FuncData} {x:Str} {sp:Sp} {s₁:Shared} {vs:List Value} {ns:List Int}
   (KX:K.In s₁.heap) (hns:s₁.heap.Ns mainGlobals mg) (hb:s₁.heap.Ns builtinsNs mb) (hbb:∀ x:Str,x≠"__name__"→mb x=bootBuiltins x) (RX:s₁.heap.NoLimit) (hg:s₁.gens = #[])
   (ha:s₁.heap.get? a=some { cls:=.type "list",data:=.seq vs.toArray }) (hi:IntsAre vs ns) (hl:ns.length≤sizeLine) (hr:gW k callerA)
   (F:∀ base:Heap,K.In base→base.Ns mainGlobals mg→bW P w K mg base CX k fa fd [x] sp) (Qz:∀ (s:Shared) (u:Value),BindsTo s fd ⟨[u],[]⟩ [(x,u)])
   (hsp:∀ H:Hp,OJ H→SqL K H a (ns.map V.int)→sp [.ref a] H (fun v _=>v=.bl true) fun _ _ _=>False)
   (hCX:∀ H e s',CX [] H s₁ (fun _ _ _=>False) e s'→False) :
   codeAny (model P w) callerA (.call (.ref fa) ⟨[.ref a],[]⟩) (fun r s'=>r=.ok (.ret (.bool true))∧OldK s₁.heap s'.heap∧s'.os=s₁.os∧AllBare s'.gens) s₁:=by
 have rv:=Bc hi
 have RY:=hi.length
 have core:∀ H:Hp,OJ H→SqL K H a (ns.map V.int)→HOk P w H s₁.heap→(∀ b,H b≠none→b=a)→(H a≠none→K.lookup a=none)→
     codeAny (model P w) callerA (.call (.ref fa) ⟨[.ref a],[]⟩) (fun r s'=>r=.ok (.ret (.bool true))∧OldK s₁.heap s'.heap∧s'.os=s₁.os∧AllBare s'.gens) s₁:=by
   intro H hO hS hok hA hK
   have G3:∀ {b:Addr} {o:Obj},s₁.heap.get? b=some o→H b=none→(BS s₁.heap H).get? b=some o:=fun e n=>JC e n
   have noA:∀ {b:Addr} {o:Obj} {es:Array DictEntry} {ep:Nat},s₁.heap.get? b=some o→o.data=.dict es ep→H b=none:=fun {b o es ep} e d=>by
     cases q:H b with
     | none=>rfl
     | some u=>
       have e':b=a:=hA b (by rw [q]; simp)
       subst e'
       rw [ha] at e; cases e
       have d':Data.seq vs.toArray _=Data.dict es ep:=d
       cases d'
   have nsK:∀ {b:Addr} {m:Str→Option Value},s₁.heap.Ns b m→(BS s₁.heap H).Ns b m:=fun {b m} ⟨o,es,ep,e,d,r⟩=>⟨o,es,ep,G3 e (noA e d),d,r⟩
   have hKb:K.In (BS s₁.heap H):=fun b o e=>G3 (KX b o e) (by
     cases q:H b with
     | none=>rfl
     | some u=>
       have e':b=a:=hA b (by rw [q]; simp)
       subst e'
       rw [hK (by rw [q]; simp)] at e; cases e)
   have hM:Mod K mg (BS s₁.heap H):=⟨hKb,nsK hns,⟨mb,nsK hb,hbb⟩,let ⟨mc,h1,h2⟩:=RX; ⟨mc,nsK h1,h2⟩⟩
   have e0:Fw P w K mg (BS s₁.heap H) callerA [] s₁ H:=⟨rfl,hM,fun b o e=>Mw e,Nat.le_of_eq (Ih _ _),trivial,fun b hb=>absurd (show b∈([]:List Addr) from hb) (by simp),hok,.of_eq hg⟩
   refine codeAny_mono ((F _ hKb (nsK hns)).run callerA [] s₁ H ⟨[.ref a],[]⟩ [.ref a] [.ref a] _ _ hr e0 (Qz s₁ (.ref a)) (.cons rfl .nil) (hsp H hO hS)) fun r s' h=>?_
   cases r with
   | error e=>exact (hCX H e s' h).elim
   | ok fl=>
     cases fl with
     | next=>exact False.elim h
     | brk=>exact False.elim h
     | cont=>exact False.elim h
     | ret u=>
       obtain ⟨v,H',os,bare,un,RZ,r',q⟩:=h
       have q':v=.bl true:=q
       subst q'
       obtain rfl:u=Value.bool true:=r'
       refine ⟨rfl,OldK.of_keep fun b o e=>?_,os,bare⟩
       cases q:H b with
       | none=>exact un.keep b o e q (by intro z; exact absurd (show b∈([]:List Addr) from z) (by simp)) (by simp)
       | some u=>
         rcases hO b with z | ⟨ob,xs,z⟩
         · rw [q] at z; cases z
         · have z2:=un.Au b ob _ z
           obtain ⟨e1,_⟩:=hok b _ z
           obtain ⟨e2,_⟩:=RZ b _ z2
           rw [e] at e1; cases e1
           exact e2
 cases hk:K.lookup a with
 | some o=>
   have e:=KX a o hk
   rw [ha] at e
   cases e
   refine core (fun _=>none) (fun _=>.inl rfl) (.inr ⟨_,vs.toArray,_,hk,rfl,rfl,rfl,by rw [List.size_toArray,RY]; exact hl,by simpa using rv⟩) (fun b u z=>by have z':(none:Option HO)=some u:=z; cases z') (fun b z=>absurd rfl z) fun z=>absurd rfl z
 | none=>
   refine core (fun b=>if b=a then some (.frz { cls:=.type "list",data:=.seq vs.toArray } (.lst (ns.map V.int))) else none) (fun b=>?_) (.inl (.inr ⟨{ cls:=.type "list",data:=.seq vs.toArray },if_pos rfl⟩)) (fun b u z=>?_) (fun b z=>?_) fun _=>hk
   · by_cases hb:b=a
     · exact .inr ⟨_,_,if_pos hb⟩
     · exact .inl (if_neg hb)
   · by_cases hb:b=a
     · have z':=(if_pos hb).symm.trans z
       cases z'
       subst hb
       exact ⟨ha,by rw [List.length_map]; exact hl,vs,_,rv,ha⟩
     · have z':=(if_neg hb).symm.trans z
       cases z'
   · by_cases hb:b=a
     · exact hb
     · exact absurd (if_neg hb) z
end L2
namespace L2
open PySem PySem.Spec PyProof.Rows
noncomputable abbrev KOf {K:PySem.W.Frag} {h:Heap} (_:K.In h):PySem.W.Frag:=K
theorem MG {l:PySem.W.OpenLaw} {n k:Nat} {q:Program} {loose:List Str} {XP:(Str→Option Value)→Heap→Prop} {YP:World→Heap→Prop} {d:DefRec} {K:Params→PySem.W.Frag} {CX:World→CXT} {sp:World→Sp} {x:Str}
   (hn:l.most=some n) (hn2:n≤sizeLine) (hdf:d.params.defaults=[]) (hr:gW k callerA)
   (hY:∀ (w:World) (h:Heap),YP w h→(K w.params).In h)
   (F:∀ (w:World) (mg:Str→Option Value) (fa:Addr) (h:Heap),(K w.params).In h→h.Ns mainGlobals mg→mg d.name=some (.ref fa)→
     ∃ fd:FuncData,(∀ (s:Shared) (u:Value),BindsTo s fd ⟨[u],[]⟩ [(x,u)])∧
       ∀ base:Heap,(K w.params).In base→base.Ns mainGlobals mg→bW l.prog w (K w.params) mg base (CX w) k fa fd [x] (sp w))
   (hsp:∀ (w:World) (H:Hp) (a:Addr) (ns:List Int),ns.length≤n→OJ H→SqL (K w.params) H a (ns.map V.int)→sp w [.ref a] H (fun v _=>v=.bl true) fun _ _ _=>False)
   (hCX:∀ (w:World) (H:Hp) (s:Shared) (e:Value) (s':Shared),CX w [] H s (fun _ _ _=>False) e s'→False) :
   PySem.W.WalkO q loose XP YP l.row.toRowW d [] (fun f vs=>PySem.call f vs):=by
 refine Att.DL hn hdf fun w s₀ s₁ mg mb fa o pm cd doc a vs ns G Y ho hd hcd hmg OI hints hlen hg=>?_
 have KX:=hY w _ Y
 obtain ⟨fd,hb,hF⟩:=F w mg fa _ KX G.T.g hmg
 exact Kg KX G.T.g G.T.b G.T.builtins G.T.nolimit hg OI hints (Nat.le_trans hlen hn2) hr hF hb (fun H hO hS=>hsp w H a ns hlen hO hS) fun H e s'=>hCX w H s₁ e s'
end L2
namespace L2
open PySem PySem.Spec PyProof.Rows
noncomputable def inClass (s:Stmt) (j:Nat):Stmt:=match s with
 | .ClassDef _ _ _ body _ _ _ _ _ _ _=>body.getD j (.Pass ⟨0,0,0,0⟩)
 | _=>.Pass ⟨0,0,0,0⟩
noncomputable def aO (s:Stmt):Arguments:=match s with
 | .FunctionDef _ a _ _ _ _ _ _ _ _=>a
 | _=>{ posonlyargs:=[],args:=[],vararg:=none,kwonlyargs:=[],kw_defaults:=[],kwarg:=none,defaults:=[] }
noncomputable def aN (s:Stmt):List Stmt:=match s with
 | .FunctionDef _ _ b _ _ _ _ _ _ _=>b
 | _=>[]
noncomputable def aq (s:Stmt):Scope:=match s with
 | .FunctionDef _ _ _ _ _ _ sc _ _ _=>sc
 | _=>{ kind:=.function,names:=[],isGenerator:=false,isCoroutine:=false }
noncomputable abbrev CX0:CXT:=fun _ _ _ _ _ _=>False
noncomputable abbrev E0:XK:=fun _ _ _=>False
theorem a8 {X:Cx}:Passes CX0 X E0:=fun _ _ _ _ _ _ _ h=>h.elim
structure Fun (K:PySem.W.Frag) (x qual:Str) (st:Stmt) (f:Addr) (fd:FuncData):Prop where
 ex:∃ (oc:Value) (od:Option Addr) (kV doc pm:Value) (an:Option Addr) (cdv ct:Value) (osl:Array (Option Value)),
   fd=PySem.W.fnOf x qual (aO st) (aN st) (aq st) .none kV doc pm an cdv ct∧K.lookup f=some ⟨oc,od,.func fd,osl⟩∧PySem.W.codeIn K cdv qual=true
 kp:PySem.W.keepIn K (.ref f)=true
section
variable {P:Program} {w:World} {K:PySem.W.Frag} {mg:Str→Option Value} {base:Heap}
theorem Fun.ok {x qual:Str} {st:Stmt} {f:Addr} {fd:FuncData} {N ps:List Str} {k:Nat} {sp:Sp} (F:Fun K x qual st f fd) (S:bu N ps (aq st)) (len:∀ vs H Q E,sp vs H Q E→vs.length=ps.length)
   (DI:∀ (cdv:Value) (A:Around) (outer:List Env) (s:Shared) (H:Hp) (vs:List V) (Q:VK) (E:XK),gW k (A.deeper (envOfC qual (aq st) s.heap.objs.size f cdv))→sp vs H Q E→
     ∃ t,PSs (DG CX0 P w K mg base N qual (aq st) f cdv A outer s H E).nox (aN st) t∧t { nx:=fun _ H'=>Q .non H',rt:=Q } (start N vs) H):bW P w K mg base CX0 (k + 1) f fd ps sp:=by
 obtain ⟨oc,od,kV,doc,pm,an,cdv,ct,osl,rfl,lk,hcd⟩:=F.ex
 refine Qu lk hcd S len fun A outer s H vs Q E hr hsp=>?_
 obtain ⟨t,h,q⟩:=DI cdv A outer s H vs Q E hr hsp
 exact ⟨t,h.nox,q⟩
theorem Fun.binds {x qual:Str} {st:Stmt} {f:Addr} {fd:FuncData} {ps:List Str} (F:Fun K x qual st f fd)
   (h:∀ (kV doc pm:Value) (an:Option Addr) (cdv ct:Value) (us:List Value),us.length=ps.length→bindArgs (PySem.W.fnOf x qual (aO st) (aN st) (aq st) .none kV doc pm an cdv ct) ⟨us,[]⟩=pure (ps.zip us)):Binds K fd ps []:=by
 obtain ⟨oc,od,kV,doc,pm,an,cdv,ct,osl,rfl,lk,hcd⟩:=F.ex
 exact .all (h kV doc pm an cdv ct)
theorem b7 {x qual:Str} {st:Stmt} {f:Addr} {oc:Value} {od an:Option Addr} {osl:Array (Option Value)} {kV doc pm cdv ct:Value} (l:K.lookup f=some ⟨oc,od,.func (PySem.W.fnOf x qual (aO st) (aN st) (aq st) .none kV doc pm an cdv ct),osl⟩)
   (c:PySem.W.codeIn K cdv qual=true) (k:PySem.W.keepIn K (.ref f)=true):Fun K x qual st f (PySem.W.fnOf x qual (aO st) (aN st) (aq st) .none kV doc pm an cdv ct):=⟨⟨oc,od,kV,doc,pm,an,cdv,ct,osl,rfl,l,c⟩,k⟩
end
theorem gv {A:Around} {k:Nat} (hr:gW k A):A.units + 1 < cLine:=Nat.lt_of_le_of_lt (Nat.add_le_add_left (by decide:1≤64) _) hr.units
theorem IA {n:Nat} (h:n≤1000):n < sizeLine:=Nat.lt_of_le_of_lt h (by decide)
section
variable {X:Cx}
theorem pv (i:Nat) {x:Str} {pos:Pos} (hN:X.N[i]?=some x:=by rfl) (hv:Vis X.env.scope x:=by first | exact Or.inl rfl | exact Or.inr (Or.inl rfl) | exact Or.inr (Or.inr rfl)) (hd:(x == ("__debug__":Str))=false:=by decide)
   (hcd:(x == ("__classdict__":Str))=false:=by decide):PE X (.Name x pos) (gD i):=Oe hN hv hd hcd
end
theorem cb {c A B:Prop} [Decidable c] (h1:c→A) (h2:¬ c→B):if c then A else B:=by
 by_cases h:c
 · rw [if_pos h]
   exact h1 h
 · rw [if_neg h]
   exact h2 h
noncomputable def aw (H H':Hp):Prop:=∀ b o,H b=some o→H' b=some o
theorem aw.refl (H:Hp):aw H H:=fun _ _ h=>h
theorem aw.trans {H H1 H2:Hp} (a:aw H H1) (b:aw H1 H2):aw H H2:=fun c o h=>b c o (a c o h)
theorem aw.free {H H':Hp} (e:aw H H') {l:Addr} (h:H' l=Option.none):H l=Option.none:=by
 cases q:H l with
 | none=>rfl
 | some o=>
   rw [e l o q] at h
   cases h
theorem aw.seq {K:PySem.W.Frag} {H H':Hp} {a:Addr} {xs:List V} (e:aw H H') (h:SqL K H a xs):SqL K H' a xs:=by
 rcases h with (h | ⟨o,h⟩) | h
 · exact .inl (.inl (e _ _ h))
 · exact .inl (.inr ⟨o,e _ _ h⟩)
 · exact .inr h
end L2
namespace L2
open PySem PySem.Spec PyProof.Rows
end L2
namespace L2
open PySem PySem.Spec PyProof.Rows
section
variable (P:Program) (w:World)
end
section
variable {P:Program} {w:World} {H H':Hp} {h h':Heap} {a:Addr} {o:HO}
end
section
variable {P:Program} {w:World} {H:Hp} {h h':Heap} {x e:Addr} {o':HO}
end
section
variable {fs fs' ex ex':List Addr} {H H1 H2:Hp} {h h1 h2 h':Heap} {a x e:Addr} {o:HO}
end
end L2
namespace L2
open PySem PySem.Spec PyProof.Rows
section
variable {X:Cx} {pins:List (Addr × Obj)} {σ:List (Option V)} {H H':Hp} {s:Shared} {h':Heap}
end
end L2
namespace L2
open PySem PySem.Spec PyProof.Rows
section
variable {X:Cx}
variable {a b:Expr} {ta tb:TE} {pos:Pos}
variable {tA tB':TT} {rest:List Expr}
end
end L2
namespace L2
open PySem PySem.Spec PyProof.Rows
section
variable {X:Cx} {pins:List (Addr × Obj)} {σ:St} {H:Hp} {s:Shared} {a:Addr} {xs ys:List V}
end
section
variable {X:Cx} {pins:List (Addr × Obj)} {σ:St} {H:Hp} {s:Shared} {E:Value→Shared→Prop}
end
section
variable {X:Cx} {st:Stmt} {rest:List Stmt} {t u:TS} {e:Expr} {te:TE} {pos:Pos}
end
section
variable {X:Cx} {pos:Pos}
end
section
variable {X:Cx} {pos:Pos}
end
end L2
namespace L2
open PySem PySem.Spec PyProof.Rows
section
variable {X:Cx} {tg:Expr}
end
end L2
namespace L2
open PySem PySem.Spec PyProof.Rows
section
variable {X:Cx} {a b c:Expr} {ta tb tc:TE} {pos:Pos}
end
section
variable {X:Cx} {a b c:Expr} {ta tb tc:TE} {pos:Pos}
end
end L2
namespace L2
open PySem PySem.Spec PyProof.Rows
section
variable {prog:Program} {w:World} {A:Around} {E:Value→Shared→Prop} {s:Shared} {K:PySem.W.Frag} {x dx C f:Addr} {mA:Str→Option Value} {name:Str} {v:Value}
end
section
variable {P:Program} {w:World} {H H':Hp} {h h':Heap} {a C dx:Addr} {fs fs':List (Str × V)}
end
section
variable {X:Cx} {pins:List (Addr × Obj)} {σ:St} {H:Hp} {s:Shared} {a C dx:Addr} {fs:List (Str × V)} {f:Str} {v:V} {A:Around} {E:Value→Shared→Prop}
end
section
variable {X:Cx} {o e value:Expr} {f:Str} {pos pos' JU:Pos} {ta tv:TE}
end
section
variable {X:Cx} {pins:List (Addr × Obj)} {σ:St} {H:Hp} {s:Shared} {A:Around} {E:Value→Shared→Prop} {Q:Value→Shared→Prop} {c:Value} {b:Bool}
end
end L2
namespace L2
open PySem PySem.Spec PyProof.Rows
section
variable {X:Cx} {e:Expr} {es:List Expr} {te:TE} {t:TA} {pos:Pos}
end
section
variable {X:Cx} {pins:List (Addr × Obj)} {σ:St} {H:Hp} {s s':Shared}
end
section
variable {X:Cx} {CX:CXT} {k:Nat} {f C:Addr} {fd:FuncData} {ps:List Str} {sp:Sp} {dvs:List V} {ds:List Value} {E:XK} {x m:Str} {p pos apos:Pos} {e o:Expr} {es:List Expr} {ta:TE} {t:TA}
end
section
variable {X:Cx} {CX:CXT} {k:Nat} {f C:Addr} {fd:FuncData} {ps ks:List Str} {sp:Sp} {E:XK} {x m:Str} {p pos apos RL:Pos} {e o:Expr} {es:List Expr} {kws:List Keyword} {te ta:TE} {t tk:TA} {nm:Option Str}
variable {g:List Value→List Value→List Value} {gV:List V→List V→List V}
end
end L2
namespace L2
open PySem PySem.Spec PyProof.Rows
section
variable {X:Cx} {x:Str} {p pos:Pos} {e:Expr} {es:List Expr} {t:TA} {id T:String} {r:List V→Hp→VK→Prop}
end
end L2
namespace L2
open PySem PySem.Spec PyProof.Rows
section
variable {κ:Type} [DecidableEq κ]
noncomputable def dR (kvs:List (κ × V)) (k:κ):Option V:=(kvs.find? fun kv=>decide (kv.1=k)).map (·.2)
noncomputable def putK (kvs:List (κ × V)) (k:κ) (v:V):List (κ × V):=
 if (kvs.any fun kv=>decide (kv.1=k))=true then kvs.map (fun kv=>if kv.1=k then (kv.1,v) else kv) else kvs ++ [(k,v)]
noncomputable def S1 (kvs:List (κ × V)) (k:κ):List (κ × V):=kvs.filter fun kv=>decide (kv.1≠k)
theorem cR {p:κ × V} {r:List (κ × V)} {k:κ} (e:p.1=k):dR (p :: r) k=some p.2:=by simp [dR,List.find?_cons,e]
theorem cS {p:κ × V} {r:List (κ × V)} {k:κ} (e:¬ p.1=k):dR (p :: r) k=dR r k:=by simp [dR,List.find?_cons,e]
theorem uh (k:κ):∀ kvs:List (κ × V),(kvs.any fun kv=>decide (kv.1=k))=(dR kvs k).isSome
 | []=>rfl
 | p :: r=>by
   rw [List.any_cons]
   by_cases e:p.1=k
   · simp only [cR e,decide_eq_true e,Bool.true_or,Option.isSome_some]
   · rw [cS e,decide_eq_false e,Bool.false_or]; exact uh k r
theorem DM (k j:κ) (y:V):∀ kvs:List (κ × V),dR (kvs.map fun kv=>if kv.1=k then (kv.1,y) else kv) j=(dR kvs j).map fun x=>if j=k then y else x
 | []=>rfl
 | p :: r=>by
   have ih:=DM k j y r
   rw [List.map_cons]
   by_cases h:p.1=k
   · rw [if_pos h]
     by_cases e:p.1=j
     · rw [cR (p:=(p.1,y)) e,cR e,Option.map_some,if_pos (e.symm.trans h)]
     · rw [cS (p:=(p.1,y)) e,cS e,ih]
   · rw [if_neg h]
     by_cases e:p.1=j
     · rw [cR (p:=p) e,cR e,Option.map_some,if_neg (fun z=>h (e.trans z))]
     · rw [cS (p:=p) e,cS e,ih]
theorem Be (k j:κ) (y:V):∀ kvs:List (κ × V),dR kvs k=none→dR (kvs ++ [(k,y)]) j=if j=k then some y else dR kvs j
 | [],_=>by
   by_cases e:k=j
   · rw [if_pos e.symm]; exact cR (p:=(k,y)) e
   · rw [if_neg (fun z=>e z.symm)]; exact cS (p:=(k,y)) e
 | p :: r,hn=>by
   rw [List.cons_append]
   have hk:¬ p.1=k:=fun z=>by rw [cR z] at hn; cases hn
   rw [cS hk] at hn
   have ih:=Be k j y r hn
   by_cases e:p.1=j
   · rw [cR e,cR e,if_neg (fun z=>hk (e.trans z))]
   · rw [cS e,cS e,ih]
theorem ui (kvs:List (κ × V)) (k j:κ) (y:V):dR (putK kvs k y) j=if j=k then some y else dR kvs j:=by
 unfold putK
 by_cases a:(kvs.any fun kv=>decide (kv.1=k))=true
 · rw [if_pos a,DM]
   rw [uh] at a
   by_cases e:j=k
   · obtain ⟨x,hx⟩:=Option.isSome_iff_exists.mp a
     rw [if_pos e,e,hx,Option.map_some,if_pos rfl]
   · rw [if_neg e]
     cases dR kvs j with
     | none=>rfl
     | some x=>rw [Option.map_some,if_neg e]
 · rw [if_neg a]
   refine Be k j y kvs ?_
   rw [uh] at a
   cases q:dR kvs k with
   | none=>rfl
   | some x=>rw [q] at a; exact (a rfl).elim
theorem oB (kvs:List (κ × V)) (k:κ) (v:V):(putK kvs k v).length≤kvs.length + 1:=by
 unfold putK
 split
 · rw [List.length_map]; lia
 · rw [List.length_append,List.length_cons,List.length_nil]; lia
theorem oa.IB {o:Option V} {u:Option Value} (r:oa o u):o.isSome=u.isSome:=by
 cases o with
 | none=>cases u with
   | none=>rfl
   | some _=>exact (show False from r).elim
 | some _=>cases u with
   | none=>exact (show False from r).elim
   | some _=>rfl
theorem oa.getD {o:Option V} {u:Option Value} {d:V} {d':Value} (r:oa o u) (rd:RelV d d'):RelV (o.getD d) (u.getD d'):=by
 cases o with
 | none=>cases u with
   | none=>exact rd
   | some _=>exact (show False from r).elim
 | some _=>cases u with
   | none=>exact (show False from r).elim
   | some _=>exact r
theorem KV.val {kvs:List (κ × V)} {vs:List (κ × Value)} (r:KV kvs vs) (k:κ):oa (dR kvs k) (valueAt vs k):=by
 unfold KV at r
 induction r with
 | nil=>exact True.intro
 | @cons p q ps qs h t ih=>
   obtain ⟨h1,h2⟩:=h
   by_cases e:p.1=k
   · have e':q.1=k:=h1.symm.trans e
     have b:valueAt (q :: qs) k=some q.2:=by simp [valueAt,List.find?_cons,e']
     rw [cR e,b]; exact h2
   · have e':¬ q.1=k:=fun z=>e (h1.trans z)
     have b:valueAt (q :: qs) k=valueAt qs k:=by simp [valueAt,List.find?_cons,e']
     rw [cS e,b]; exact ih
theorem KV.any {kvs:List (κ × V)} {vs:List (κ × Value)} (r:KV kvs vs) (k:κ):(kvs.any fun kv=>decide (kv.1=k))=vs.any fun kv=>decide (kv.1=k):=by
 unfold KV at r
 induction r with
 | nil=>rfl
 | cons h t ih=>rw [List.any_cons,List.any_cons,ih,h.1]
theorem KV.OK {kvs:List (κ × V)} {vs:List (κ × Value)} (r:KV kvs vs) (k:κ) {y:V} {u:Value} (ry:RelV y u) :
   KV (kvs.map fun kv=>if kv.1=k then (kv.1,y) else kv) (vs.map fun kv=>if kv.1=k then (kv.1,u) else kv):=by
 unfold KV at r ⊢
 induction r with
 | nil=>exact .nil
 | @cons p q ps qs h t ih=>
   rw [List.map_cons,List.map_cons]
   refine .cons ?_ ih
   obtain ⟨h1,h2⟩:=h
   by_cases e:p.1=k
   · rw [if_pos e,if_pos (h1.symm.trans e)]; exact ⟨h1,ry⟩
   · rw [if_neg e,if_neg (fun z=>e (h1.trans z))]; exact ⟨h1,h2⟩
theorem KV.put {kvs:List (κ × V)} {vs:List (κ × Value)} (r:KV kvs vs) (k:κ) {y:V} {u:Value} (ry:RelV y u):KV (putK kvs k y) (stored vs k u):=by
 unfold putK stored
 rw [r.any k]
 by_cases e:(vs.any fun kv=>decide (kv.1=k))=true
 · rw [if_pos e,if_pos e]; exact r.OK k ry
 · rw [if_neg e,if_neg e]; exact Paired.snoc r ⟨rfl,ry⟩
theorem KV.length {kvs:List (κ × V)} {vs:List (κ × Value)} (r:KV kvs vs):kvs.length=vs.length:=Paired.length r
end
theorem Bf {P:Program} {w:World} {k:Key} {u:Value} (r:RelV (kV k) u):(cN P w).is k u=true:=by
 cases k with
 | inl i=>obtain ⟨t,e⟩:=(show ∃ t,u=Value.int i t from r); subst e; exact Dz P w i t
 | inr x=>obtain ⟨t,e⟩:=(show ∃ t,u=Value.str x t from r); subst e; exact DA P w x t
theorem Bg {P:Program} {w:World}:∀ {ks:List Key} {us:List Value},Vals (ks.map kV) us→ItemsAre (cN P w) ks us
 | [],_,r=>by rw [List.map_nil] at r; cases r; exact .nil
 | k :: ks,_,r=>by
   rw [List.map_cons] at r
   cases r with
   | cons h t=>exact .cons (Bf h) (Bg t)
noncomputable abbrev KT (H:Hp):List (List Key × V)→List (List Key × Addr × Value)→Prop:=Paired fun p q=>p.1=q.1∧H q.2.1=some (.tup (p.1.map kV))∧RelV p.2 q.2.2
theorem KT.val {H:Hp} {kvs:List (List Key × V)} {xs:List (List Key × Addr × Value)} (r:KT H kvs xs) (k:List Key):oa (dR kvs k) ((atKey xs k).map (·.2)):=by
 induction r with
 | nil=>exact True.intro
 | @cons p q ps qs h t ih=>
   obtain ⟨h1,_,h2⟩:=h
   by_cases e:p.1=k
   · have e':q.1=k:=h1.symm.trans e
     have b:atKey (q :: qs) k=some q.2:=by simp [atKey,List.find?_cons,e']
     rw [cR e,b]; exact h2
   · have e':¬ q.1=k:=fun z=>e (h1.trans z)
     have b:atKey (q :: qs) k=atKey qs k:=by simp [atKey,List.find?_cons,e']
     rw [cS e,b]; exact ih
theorem KT.OK {H:Hp} {kvs:List (List Key × V)} {xs:List (List Key × Addr × Value)} (r:KT H kvs xs) (k:List Key) {y:V} {u:Value} (ry:RelV y u) :
   KT H (kvs.map fun kv=>if kv.1=k then (kv.1,y) else kv) (xs.map (putAt k u)):=by
 induction r with
 | nil=>exact .nil
 | @cons p q ps qs h t ih=>
   rw [List.map_cons,List.map_cons]
   refine .cons ?_ ih
   obtain ⟨h1,h2,h3⟩:=h
   unfold putAt
   by_cases e:p.1=k
   · rw [if_pos e,if_pos (h1.symm.trans e)]; exact ⟨h1,h2,ry⟩
   · rw [if_neg e,if_neg (fun z=>e (h1.trans z))]; exact ⟨h1,h2,h3⟩
theorem KT.put {H:Hp} {kvs:List (List Key × V)} {xs:List (List Key × Addr × Value)} (r:KT H kvs xs) (k:List Key) {b:Addr} {y:V} {u:Value} (hb:H b=some (.tup (k.map kV))) (ry:RelV y u) :
   KT H (putK kvs k y) (storedH xs k b u):=by
 have e:(kvs.any fun kv=>decide (kv.1=k))=(atKey xs k).isSome:=by
   rw [uh,(r.val k).IB,Option.isSome_map]
 unfold putK storedH
 rw [e]
 by_cases q:(atKey xs k).isSome=true
 · rw [if_pos q,if_pos q]; exact r.OK k ry
 · rw [if_neg q,if_neg q]; exact Paired.snoc r ⟨rfl,hb,ry⟩
theorem KT.keeps {H H':Hp} {kvs:List (List Key × V)} {xs:List (List Key × Addr × Value)} (r:KT H kvs xs) (ht:∀ b ys,H b=some (.tup ys)→H' b=some (.tup ys)):KT H' kvs xs:=
 Paired.Oc r fun _ _ z=>⟨z.1,ht _ _ z.2.1,z.2.2⟩
section
variable {P:Program} {w:World} {H:Hp} {h:Heap} {a:Addr}
theorem NJ {u:HO} (ok:HOk P w H h) (e:Rd H a u):dU P w H h a u:=e.ok ok
theorem Kh {kvs:List (Key × V)} (ok:HOk P w H h) (e:Rd H a (.dK kvs)):kvs.length≤sizeLine∧(a == sysModules)=false∧∃ vs,KV kvs vs∧h.DictOf (cN P w) a vs:=
 show dU P w H h a (.dK kvs) from NJ ok e
theorem G4 {kvs:List (Key × V)} (ok:HOk P w H h) (e:H a=some (.dK kvs)):kvs.length≤sizeLine∧(a == sysModules)=false∧∃ vs,KV kvs vs∧h.DictOf (cN P w) a vs:=Kh ok (.inl e)
theorem FG {ks:List Key} (ok:HOk P w H h) (e:H a=some (.tup (ks.map kV))):(tupleKind (cN P w)).is h ks a:=by
 obtain ⟨_,its,r,o,h1,h2,n,h3⟩:=(show dU P w H h a (.tup (ks.map kV)) from ok a _ e)
 exact ⟨o,its.toArray,n,h1,h2,h3,by simpa using Bg r⟩
theorem Ki {kvs:List (List Key × V)} (ok:HOk P w H h) (e:Rd H a (.dT kvs)):kvs.length≤sizeLine∧(a == sysModules)=false∧
   ∃ xs,KT H kvs xs∧h.DictOfH (tupleKind (cN P w)) a xs:=by
 obtain ⟨z,y,xs,r,o,es,ep,h1,h2,h3,h4,h5⟩:=(show dU P w H h a (.dT kvs) from NJ ok e)
 refine ⟨z,y,xs,r,o,es,ep,h1,h2,h3,h4,fun x hx=>?_,h5⟩
 have all:∀ {l:List (List Key × V)} {m:List (List Key × Addr × Value)},KT H l m→∀ x∈m,(tupleKind (cN P w)).is h x.1 x.2.1:=by
   intro l m q
   induction q with
   | nil=>intro x hx; exact nomatch hx
   | @cons p q ps qs hq t ih=>
     intro x hx
     rcases List.mem_cons.mp hx with e | hx
     · subst e
       exact FG ok (by rw [← hq.1]; exact hq.2.1)
     · exact ih x hx
 exact all r x hx
theorem QA {kvs:List (List Key × V)} (ok:HOk P w H h) (e:H a=some (.dT kvs)):kvs.length≤sizeLine∧(a == sysModules)=false∧
   ∃ xs,KT H kvs xs∧h.DictOfH (tupleKind (cN P w)) a xs:=Ki ok (.inl e)
end
noncomputable def qS (H:Hp) (a:Addr) (y:V) (r:Option V):Prop:=
 (∃ kvs k,Rd H a (.dK kvs)∧y=kV k∧r=dR kvs k)∨∃ kvs k b,Rd H a (.dT kvs)∧y=.ref b∧H b=some (.tup (k.map kV))∧r=dR kvs k
noncomputable def OL (H:Hp) (a:Addr) (y v:V) (H':Hp):Prop:=
 (∃ kvs k,H a=some (.dK kvs)∧y=kV k∧kvs.length < sizeLine∧H'=upd H a (.dK (putK kvs k v)))∨
 ∃ kvs k b,H a=some (.dT kvs)∧y=.ref b∧H b=some (.tup (k.map kV))∧kvs.length < sizeLine∧H'=upd H a (.dT (putK kvs k v))
theorem qS.k {H:Hp} {a:Addr} {kvs:List (Key × V)} {k:Key} (e:H a=some (.dK kvs)):qS H a (kV k) (dR kvs k):=.inl ⟨kvs,k,.inl e,rfl,rfl⟩
section
variable {X:Cx} {pins:List (Addr × Obj)} {σ:St} {H:Hp} {s:Shared} {a:Addr} {y v:V} {u r:Value} {o:Option V} {A:Around} {E:Value→Shared→Prop}
theorem Inv.big (I:Inv X pins σ H s):sysModules < s.heap.objs.size:=by
 have h:mainGlobals < s.heap.objs.size:=(I.mod.glob.keeps I.bk).lt
 exact Nat.lt_trans (by decide) h
theorem IC {Q:Value→Shared→Prop} (hu:A.units + 1 < cLine) (I:Inv X pins σ H s) (g:qS H a y (some v)) (ry:RelV y u) (h:∀ w' s',Inv X pins σ H s'→RelV v w'→Q w' s') :
   wpAny (model X.prog X.w) A (getItem (.ref a) u) Q E s:=by
 rcases g with ⟨kvs,k,e,ey,l⟩ | ⟨kvs,k,b,e,ey,eb,l⟩
 · subst ey
   obtain ⟨z,hd,vs,rel,dd⟩:=Kh I.hok e
   obtain ⟨w',hw,rw'⟩:=oa.some_of (v:=v) (o:=valueAt vs k) (by rw [l]; exact rel.val k)
   exact wpAny_getItem_of (Bf ry) dd.mapOf hw (h w' _ (I.tok _) rw')
 · subst ey
   cases (show u=Value.ref b from ry)
   obtain ⟨z,hd,xs,rel,dd⟩:=Ki I.hok e
   obtain ⟨w',hw,rw'⟩:=oa.some_of (v:=v) (o:=(atKey xs k).map (·.2)) (by rw [l]; exact rel.val k)
   obtain ⟨p,hp,hp2⟩:=Option.map_eq_some_iff.mp hw
   refine wpAny_getItem_heap (tupleKind_room_in1 hu) (FG I.hok eb) dd hp ?_
   rw [hp2]
   exact h w' _ (I.tok _) rw'
theorem x8 {h':Heap} {t':Nat} {ob:HO} (I:Inv X pins σ H s) (mu:Mut (H a)) (hs:Heap.SameBut a s.heap h') (he:∃ q,h'.get? a=some q) (new:dU X.prog X.w (upd H a ob) h' a ob) :
   Inv X pins σ (upd H a ob) { s with heap:=h',toks:=t' }:=
 I.write (x:=a) (e:=a) mu (.inl rfl) (fun b q hb z=>(hs.2 b hb).trans z) he new
theorem yv {P:Program} {w:World} {H':Hp} {h':Heap} {kvs:List (Key × V)} {vs:List (Key × Value)} (z:kvs.length≤sizeLine) (hd:(a == sysModules)=false) (rel:KV kvs vs) (dd:h'.DictOf (cN P w) a vs) :
   dU P w H' h' a (.dK kvs):=⟨z,hd,vs,rel,dd⟩
theorem ID {H':Hp} {Q:Unit→Shared→Prop} (hu:A.units + 1 < cLine) (I:Inv X pins σ H s) (g:OL H a y v H') (ry:RelV y u) (rv:RelV v r) (h:∀ s',Inv X pins σ H' s'→Q () s') :
   wpAny (model X.prog X.w) A (setItem (.ref a) u r) Q E s:=by
 rcases g with ⟨kvs,k,e,ey,l,eH⟩ | ⟨kvs,k,b,e,ey,eb,l,eH⟩
 · subst ey eH
   obtain ⟨z,hd,vs,rel,dd⟩:=G4 I.hok e
   have hz:vs.length≤sizeLine:=by rw [← rel.length]; exact z
   have hl:(putK kvs k v).length≤sizeLine:=by have:=oB kvs k v; lia
   refine wpAny_setItem_pairs (hsz:=hz) (Bf ry) dd fun h' dd' hs=>h _ ?_
   have he:∃ q,h'.get? a=some q:=let ⟨q,_,_,hq,_⟩:=dd'; ⟨q,hq⟩
   exact x8 I (by rw [e]; exact True.intro) hs he (yv hl hd (rel.put k rv) dd')
 · subst ey eH
   cases (show u=Value.ref b from ry)
   obtain ⟨z,hd,xs,rel,dd⟩:=QA I.hok e
   have hz:xs.length≤sizeLine:=by rw [← Paired.length rel]; exact z
   have hl:(putK kvs k v).length≤sizeLine:=by have:=oB kvs k v; lia
   refine wpAny_setItem_heap (hsz:=hz) (tupleKind_room_in1 hu) (FG I.hok eb) dd fun h' dd' hs=>h _ ?_
   obtain ⟨q,es,ep,hq,h2,h3,h4,_,h5⟩:=dd'
   refine x8 I (by rw [e]; exact True.intro) hs ⟨q,hq⟩ ⟨hl,hd,_,(rel.put k eb rv).keeps fun c ys ec=>?_,q,es,ep,hq,h2,h3,h4,h5⟩
   rw [az (c7 ec e (fun z=>nomatch z))]
   exact ec
end
section
variable {X:Cx} {pins:List (Addr × Obj)} {σ:St} {H:Hp} {s:Shared} {a:Addr} {kvs:List (Key × V)} {k:Key} {u:Value} {A:Around} {E:Value→Shared→Prop}
end
noncomputable def QB (i:Expr):Prop:=∀ ov iv,subscripted i false ov iv=operate [ov,iv] (getItem ov iv)
theorem MH {prog:Program} {w:World} {A:Around} {E:Value→Shared→Prop} {s:Shared} {env:Env} {value slice:Expr} {pos:Pos} {T id:String} {Q:Value→Shared→Prop}
   (hl:typeLookup (.type T) "__getitem__"=pure (some (.builtin id))) (hs:QB slice)
   (h:wpAny (model prog w) A (eval value env) (fun o s₁=>wpAny (model prog w) A (eval slice env) (fun i s₂=>s₂.TypeIs o T∧wpAny (model prog w) A (getItem o i) Q E s₂) E s₁) E s) :
   wpAny (model prog w) A (eval (.Subscript value slice pos) env) Q E s:=by
 refine Subscript_ (wpAny_mono h (fun o s₁ h₁=>wpAny_mono h₁ (fun i s₂ h₂=>?_) fun _ _ x=>x) fun _ _ x=>x)
 obtain ⟨hT,h₂⟩:=h₂
 unfold subscriptTail
 refine wpAny_bind ?_
 rw [getitemInPython_of_ne hT.not_modules]
 refine wpAny_bind (wpAny_specialOf hT hl ?_)
 have fin:wpAny (model prog w) A (subscripted slice false o i) (fun r s₃=>wpAny (model prog w) A (letTemporaryGo value o r >>= fun _=>pure r) Q E s₃) E s₂:=by
   rw [hs o i]
   exact wpAny_operating (wpAny_mono h₂ (fun r s₃ h₃=>wpAny_bind (wpAny_letTemporaryGo (wpAny_pure h₃))) fun _ _ x=>x)
 first
   | exact wpAny_pure (wpAny_bind fin)
   | exact wpAny_bind (wpAny_pure (wpAny_bind fin))
   | exact wpAny_bind fin
theorem DN {X:Cx} {pins:List (Addr × Obj)} {σ:St} {H:Hp} {s:Shared} {a:Addr} {y:V} {o:Option V} (I:Inv X pins σ H s) (g:qS H a y o):s.TypeIs (.ref a) "dict":=by
 rcases g with ⟨kvs,k,e,_,_⟩ | ⟨kvs,k,b,e,_,_,_⟩
 · obtain ⟨_,_,vs,_,dd⟩:=Kh I.hok e
   exact dd.typeIs
 · obtain ⟨_,_,xs,_,dd⟩:=Ki I.hok e
   exact dd.typeIs
noncomputable def NK (td ty:TE):TE:=fun σ H Q=>td σ H fun x H1=>ty σ H1 fun y H2=>∃ a v,x=.ref a∧qS H2 a y (some v)∧Q v H2
noncomputable def NL (td ty tv:TE):TS:=fun D σ H=>tv σ H fun v H1=>td σ H1 fun x H2=>ty σ H2 fun y H3=>∃ a H4,x=.ref a∧OL H3 a y v H4∧D.nx σ H4
section
variable {X:Cx} {o i e value:Expr} {pos pos' JU:Pos} {td ty tv:TE}
theorem cv (hu:X.A.units + 1 < cLine) (ho:PE X o td) (hi:PE X i ty) (hs:QB i):PE X (.Subscript o i pos) (NK td ty):=by
 intro pins s σ H Q I h
 refine MH PySem.F.slot_dict_getitem.lookup hs (thn (ho pins s σ H _ I h) fun u s1 ⟨x,H1,I1,rx,q1⟩=>thn (hi pins s1 σ H1 _ I1 q1) fun iv s2 ⟨y,H2,I2,ry,a,v,ex,g,q2⟩=>?_)
 subst ex
 obtain rfl:u=Value.ref a:=rx
 exact ⟨DN I2 g,IC hu I2 g ry fun w' s3 I3 rw'=>⟨v,H2,I3,rw',q2⟩⟩
theorem lU (hu:X.A.units + 1 < cLine) (ho:PE X o td) (hi:PE X i ty) (hv:PE X value tv) (hs:swapsWith value (some (.Subscript o i pos')) pos.line X.env=pure false) :
   PS X (.Assign [.Subscript o i pos'] value pos) (NL td ty tv):=by
 intro pins s σ H D I h
 refine wpAny_Assign_Subscript (thn (hv pins s σ H _ I h) fun r s1 ⟨v,H1,I1,rv,q1⟩=>thn (ho pins s1 σ H1 _ I1 q1) fun u s2 ⟨x,H2,I2,rx,q2⟩=>thn (hi pins s2 σ H2 _ I2 q2) fun iv s3 ⟨y,H3,I3,ry,a,H4,ex,g,q3⟩=>?_) hs
 subst ex
 obtain rfl:u=Value.ref a:=rx
 exact ID hu I3 g ry rv fun s4 I4=>⟨σ,H4,I4,q3⟩
end
theorem DO {P:Program} {w:World} {H:Hp} (h:Heap) (hb:sysModules < h.objs.size):dU P w H (h.push { cls:=.type "dict",data:=.dict #[] }) h.objs.size (.dK []):=
 ⟨Nat.zero_le _,beq_eq_false_iff_ne.mpr (Ne.symm (Nat.ne_of_lt hb)),[],.nil,Heap.DictOf.new h⟩
noncomputable def Kj:TE:=fun _ H Q=>∀ p,H p=none→Q (.ref p) (upd H p (.dK []))
section
variable {X:Cx} {pos:Pos}
theorem yw:PE X (.Dict [] [] pos) Kj:=fun pins s σ H Q I h=>
 wpAny_Dict_empty ⟨.ref s.heap.objs.size,_,I.laid (a:=s.heap.objs.size) (o:=.dK []) (t':=s.toks) (fun _ _ q=>Heap.get?_push_of_some _ q) (Nat.le_refl _) (DO s.heap I.big),rfl,h _ (I.hok.fresh (Nat.le_refl _))⟩
end
noncomputable def B9:List (TE × TE)→St→Hp→(List (V × V)→Hp→Prop)→Prop
 | [],_,H,Q=>Q [] H
 | (tk,tv) :: r,σ,H,Q=>tk σ H fun x H1=>tv σ H1 fun y H2=>B9 r σ H2 fun ps H3=>Q ((x,y) :: ps) H3
noncomputable abbrev VV:List (V × V)→List (Value × Value)→Prop:=Paired fun p q=>RelV p.1 q.1∧RelV p.2 q.2
noncomputable def PPs (X:Cx) (pos:Pos) (keys:List (Option Expr)) (values:List Expr) (trs:List (TE × TE)):Prop:=
 ∀ (pins:List (Addr × Obj)) (s:Shared) (σ:St) (H:Hp) (Q:List (V × V)→Hp→Prop),Inv X pins σ H s→B9 trs σ H Q→
   wpAny (model X.prog X.w) X.A (evalPairs (pairTrees keys values X.env pos)) (fun vs s'=>∃ ps H',Inv X pins σ H' s'∧VV ps vs∧Q ps H') X.xe s
theorem MI {X:Cx} {pos:Pos}:PPs X pos [] [] []:=fun pins s σ H Q I h=>pairTrees_nil_walk ⟨[],H,I,.nil,h⟩
theorem yx {X:Cx} {pos:Pos} {k v:Expr} {ks:List (Option Expr)} {vs:List Expr} {tk tv:TE} {trs:List (TE × TE)} (hk:PE X k tk) (hv:PE X v tv) (hr:PPs X pos ks vs trs) :
   PPs X pos (some k :: ks) (v :: vs) ((tk,tv) :: trs):=fun pins s σ H Q I h=>
 pairTrees_cons_walk (thn (hk pins s σ H _ I h) fun u s1 ⟨x,H1,I1,rx,q1⟩=>thn (hv pins s1 σ H1 _ I1 q1) fun w2 s2 ⟨y,H2,I2,ry,q2⟩=>
   thn (hr pins s2 σ H2 _ I2 q2) fun ws s3 ⟨ps,H3,I3,rel,q3⟩=>⟨(x,y) :: ps,H3,I3,.cons ⟨rx,ry⟩ rel,q3⟩)
noncomputable def gX (kvs more:List (Key × V)):List (Key × V):=more.foldl (fun acc kv=>putK acc kv.1 kv.2) kvs
theorem KV.merge:∀ {more:List (Key × V)} {rs:List (Key × Value)} {kvs:List (Key × V)} {vs:List (Key × Value)},KV more rs→KV kvs vs→KV (gX kvs more) (merged vs rs):=by
 intro more rs kvs vs r
 unfold KV at r
 induction r generalizing kvs vs with
 | nil=>intro q; exact q
 | @cons p q ps qs h t ih=>
   intro r0
   have e:KV (putK kvs p.1 p.2) (stored vs q.1 q.2):=by
     have:=r0.put p.1 h.2
     rw [← h.1]; exact this
   exact ih e
theorem gx:∀ (more kvs:List (Key × V)),(gX kvs more).length≤kvs.length + more.length
 | [],kvs=>by show kvs.length≤kvs.length + 0; lia
 | p :: r,kvs=>by
   have h1:=gx r (putK kvs p.1 p.2)
   have h2:=oB kvs p.1 p.2
   show (gX (putK kvs p.1 p.2) r).length≤_
   rw [List.length_cons]; lia
theorem yy {P:Program} {w:World}:∀ {kvs:List (Key × V)} {ws:List (Value × Value)},VV (kvs.map fun kv=>(kV kv.1,kv.2)) ws→∃ rs,Carries (cN P w) ws rs∧KV kvs rs
 | [],_,r=>by rw [List.map_nil] at r; cases r; exact ⟨[],True.intro,.nil⟩
 | p :: kvs,_,r=>by
   rw [List.map_cons] at r
   cases r with
   | @cons a b as bs h t=>
     obtain ⟨rs,c,q⟩:=yy (P:=P) (w:=w) t
     obtain ⟨b1,b2⟩:=b
     exact ⟨(p.1,b2) :: rs,⟨Bf h.1,rfl,c⟩,.cons ⟨rfl,h.2⟩ q⟩
noncomputable def NM (trs:List (TE × TE)):TE:=fun σ H Q=>∀ p,H p=none→B9 trs σ (upd H p (.dK [])) fun ps H2=>H2 p=some (.dK [])∧∃ kvs:List (Key × V),ps=kvs.map (fun kv=>(kV kv.1,kv.2))∧kvs.length≤15∧Q (.ref p) (upd H2 p (.dK (gX [] kvs)))
theorem MJ {X:Cx} {pos:Pos} {keys:List (Option Expr)} {values:List Expr} {trs:List (TE × TE)} (h:PPs X pos keys values trs) (OH:keys.all (·.isSome)=true) (hl:keys.length=values.length) (h0:keys≠[])
   (h15:keys.length≤15):PE X (.Dict keys values pos) (NM trs):=by
 intro pins s σ H Q I q
 have hn:=I.hok.fresh (Nat.le_refl s.heap.objs.size)
 have I1:=I.laid (a:=s.heap.objs.size) (o:=.dK []) (h':=s.heap.push { cls:=.type "dict",data:=.dict #[] }) (t':=s.toks) (fun _ _ q=>Heap.get?_push_of_some _ q) (Nat.le_refl _) (DO s.heap I.big)
 refine wpAny_Dict_walk (knd:=cN X.prog X.w) OH hl h0 h15 (thn (h pins _ σ _ _ I1 (q _ hn)) fun ws s2 ⟨ps,H2,I2,rel,e,kvs,ep,lk,q2⟩=>?_)
 subst ep
 obtain ⟨rs,c,rk⟩:=yy (P:=X.prog) (w:=X.w) rel
 obtain ⟨z,hd,vs0,r0,dd⟩:=G4 I2.hok e
 cases r0
 refine ⟨rs,c,dd,fun h' dd' hs=>⟨.ref s.heap.objs.size,_,?_,rfl,q2⟩⟩
 have hz:(gX [] kvs).length≤sizeLine:=by
   have h1:=gx kvs []
   rw [List.length_nil] at h1
   rw [sizeLine_eq]; lia
 have he:∃ q,h'.get? s.heap.objs.size=some q:=let ⟨q,_,_,hq,_⟩:=dd'; ⟨q,hq⟩
 exact x8 I2 (by rw [e]; exact True.intro) hs he (yv hz hd (rk.merge .nil) dd')
section
variable {X:Cx} {pins:List (Addr × Obj)} {σ:St} {H:Hp} {s:Shared} {a:Addr} {y d:V} {u r:Value} {o:Option V} {A:Around} {E:Value→Shared→Prop}
end
section
variable {X:Cx} {o e f:Expr} {apos yu:Pos} {td ty tx:TE}
end
section
variable {X:Cx} {pins:List (Addr × Obj)} {σ:St} {H:Hp} {s:Shared} {a:Addr} {kvs:List (Key × V)} {A:Around} {E:Value→Shared→Prop}
end
section
variable {X:Cx} {pins:List (Addr × Obj)} {σ:St} {H:Hp} {s:Shared} {a:Addr} {y:V} {u:Value} {A:Around} {E:Value→Shared→Prop}
end
end L2
namespace Att
open PySem PySem.W PySem.Calls PyProof.Rows
section
variable {prog:Program} {w:World} {A:Around} {E:Value→Shared→Prop} {s:Shared} {K:Frag}
end
end Att
namespace L2
open PySem PySem.Spec PyProof.Rows
end L2
namespace L2
open PySem PySem.Spec PyProof.Rows
end L2
namespace L2
open PySem PySem.Spec PyProof.Rows
section
variable {P:Program} {w:World} {K:PySem.W.Frag} {mg:Str→Option Value} {base:Heap}
end
section
variable {X:Cx}
end
section
variable {κ:Type} [DecidableEq κ]
end
end L2
namespace L2
open PySem PySem.Spec PyProof.Rows
noncomputable def vZ (env:Env):List (Str × NameKind)→List (Str × Addr)→List (Str × Addr)
 | [],cs=>cs
 | (n,k) :: r,cs=>vZ env r (if k == .free then (n,(env.cells.lookup n).getD 0) :: cs else cs)
theorem xO {scope:Scope} {env:Env} (h:∀ p∈scope.names,p.2=.free→∃ c,env.cells.lookup p.1=some c):closureFor scope env=pure (vZ env scope.names []):=by
 have all:∀ (l:List (Str × NameKind)) (cs:List (Str × Addr)),(∀ p∈l,p.2=.free→∃ c,env.cells.lookup p.1=some c)→
     (forIn l cs fun (x:Str × NameKind) (r:List (Str × Addr))=>if (x.2 == NameKind.free)=true then do let a ← cellOf env x.1; pure (ForInStep.yield ((x.1,a) :: r)) else (pure (ForInStep.yield r):Sem _))=pure (vZ env l cs):=by
   intro l
   induction l with
   | nil=>intro cs _; rfl
   | cons p r ih=>
     intro cs hp
     obtain ⟨n,k⟩:=p
     rw [List.forIn_cons]
     by_cases hk:k=.free
     · subst hk
       obtain ⟨c,e⟩:=hp (n,.free) List.mem_cons_self rfl
       have e1:cellOf env n=pure c:=by unfold cellOf; rw [e]
       simp only [beq_self_eq_true,if_true,e1,pure_bind]
       rw [ih _ fun p hp'=>hp p (List.mem_cons_of_mem _ hp')]
       simp [vZ,e]
     · have hb:(k == NameKind.free)=false:=by simpa using hk
       simp only [hb,Bool.false_eq_true,if_false,pure_bind]
       rw [ih _ fun p hp'=>hp p (List.mem_cons_of_mem _ hp')]
       simp [vZ,hb]
 simp only [closureFor]
 rw [all scope.names [] h]
 simp
theorem uj {env:Env} {x:Str} {c:Addr}:∀ {l:List (Str × NameKind)} {cs:List (Str × Addr)},(∀ p∈l,p.2=.free→∃ c,env.cells.lookup p.1=some c)→(∀ x c,cs.lookup x=some c→env.cells.lookup x=some c)→
   (vZ env l cs).lookup x=some c→env.cells.lookup x=some c
 | [],_,_,h,e=>h x c e
 | (n,k) :: r,cs,hp,h,e=>by
   unfold vZ at e
   refine uj (fun p q=>hp p (List.mem_cons_of_mem _ q)) ?_ e
   intro y d q
   by_cases hk:k=.free
   · subst hk
     obtain ⟨c',e'⟩:=hp (n,.free) List.mem_cons_self rfl
     simp only [beq_self_eq_true,if_true] at q
     rw [List.lookup_cons] at q
     cases hy:y == n with
     | true=>
       rw [hy] at q
       have:y=n:=by simpa using hy
       subst this
       simp only at e'
       rw [e'] at q ⊢
       exact q
     | false=>rw [hy] at q; exact h y d q
   · have hb:(k == NameKind.free)=false:=by simpa using hk
     simp only [hb,Bool.false_eq_true,if_false] at q
     exact h y d q
theorem yz {env:Env} {x:Str}:∀ {l:List (Str × NameKind)} {cs:List (Str × Addr)},((∃ c,cs.lookup x=some c)∨(x,NameKind.free)∈l)→∃ c,(vZ env l cs).lookup x=some c
 | [],_,h=>by
   rcases h with h | h
   · exact h
   · exact absurd h (by simp)
 | (n,k) :: r,cs,h=>by
   unfold vZ
   apply yz
   rcases h with ⟨c,h⟩ | h
   · left
     by_cases hk:k=.free
     · subst hk
       simp only [beq_self_eq_true,if_true]
       rw [List.lookup_cons]
       cases hy:x == n with
       | true=>exact ⟨_,rfl⟩
       | false=>exact ⟨c,h⟩
     · have hb:(k == NameKind.free)=false:=by simpa using hk
       simp only [hb,Bool.false_eq_true,if_false]
       exact ⟨c,h⟩
   · rcases List.mem_cons.mp h with e | h
     · injection e with e1 e2
       subst e1; subst e2
       left
       simp only [beq_self_eq_true,if_true]
       rw [List.lookup_cons]
       simp
     · exact .inr h
theorem oC {scope:Scope} {env:Env} {x:Str}:(relabel scope env).names.lookup x=(scope.names.lookup x).map fun k=>if (k == NameKind.free && env.scope.kind == .function && env.kindOf x == some .cell)=true then .cell else k:=by
 unfold relabel
 show List.lookup x (scope.names.map _)=_
 generalize scope.names=l
 induction l with
 | nil=>rfl
 | cons p r ih=>
   obtain ⟨n,k⟩:=p
   rw [List.map_cons,List.lookup_cons (as:=r)]
   show List.lookup x ((if (k == NameKind.free && env.scope.kind == .function && env.kindOf n == some .cell)=true then (n,NameKind.cell) else (n,k)) :: _)=_
   cases hx:x == n with
   | true=>
     have e:x=n:=by simpa using hx
     subst e
     by_cases hc:(k == NameKind.free && env.scope.kind == .function && env.kindOf x == some .cell)=true
     · rw [if_pos hc]; simp only [List.lookup_cons,beq_self_eq_true,Option.map_some]; rw [if_pos hc]
     · rw [if_neg hc]; simp only [List.lookup_cons,beq_self_eq_true,Option.map_some]; rw [if_neg hc]
   | false=>
     by_cases hc:(k == NameKind.free && env.scope.kind == .function && env.kindOf n == some .cell)=true
     · rw [if_pos hc]; simp only [List.lookup_cons,hx]; exact ih
     · rw [if_neg hc]; simp only [List.lookup_cons,hx]; exact ih
theorem mem_of_lookup {x:Str} {k:NameKind}:∀ {l:List (Str × NameKind)},l.lookup x=some k→(x,k)∈l
 | [],h=>by simp at h
 | (n,j) :: r,h=>by
   rw [List.lookup_cons] at h
   cases hx:x == n with
   | true=>
     rw [hx] at h
     have e:x=n:=by simpa using hx
     cases h; subst e
     exact List.mem_cons_self
   | false=>rw [hx] at h; exact List.mem_cons_of_mem _ (mem_of_lookup h)
noncomputable def jk (sc out:Scope):Bool:=
 (sc.names.all fun p=>p.2 != .cell && (p.2 != .free || out.names.lookup p.1 == some .cell || out.names.lookup p.1 == some .free) && (p.2 != .local || sc.names.lookup p.1 == some .local)) && decide (sc.kind=.function)
noncomputable def x9 (sc out:Scope) (N:List Str) (ix:List Nat):Bool:=
 ix.all fun i=>sc.names.lookup (N.getD i "") == some .free && (out.names.lookup (N.getD i "") == some .cell || out.names.lookup (N.getD i "") == some .free)
noncomputable def Kk (σ:St) (ix:List Nat):St:=ix.map fun i=>σ.getD i none
noncomputable abbrev G5 (N:List Str) (ix:List Nat):List Str:=ix.map fun i=>N.getD i ""
noncomputable def jF (X:Cx) (scope:Scope) (own:List Str) (ix:List Nat) (C:Addr) (s₀:Shared) (H₀:Hp) (ex:List Addr):Cx where
 prog:=X.prog
 w:=X.w
 K:=X.K
 mg:=X.mg
 base:=X.base
 A:=X.A
 N:=own ++ G5 X.N ix
 s₀:=s₀
 H₀:=H₀
 env:=compEnvC scope (vZ X.env scope.names []) C X.env
 outer:=X.stack
 stack:=X.stack
 ex:=ex
 fn:=fun _=>false
 calm:=X.calm
 pn:=[]
 xe:=fun _ _=>False
section
variable {X:Cx} {pins:List (Addr × Obj)} {σ:St} {H:Hp} {s:Shared}
theorem oE {sc out:Scope} (h:jk sc out=true):∀ p∈sc.names,p.2≠.cell∧(p.2=.free→out.names.lookup p.1=some .cell∨out.names.lookup p.1=some .free)∧(p.2=.local→sc.names.lookup p.1=some .local):=by
 intro p hp
 unfold jk at h
 rw [Bool.and_eq_true] at h
 have:=List.all_eq_true.mp h.1 p hp
 simp only [Bool.and_eq_true,Bool.or_eq_true,bne_iff_ne,beq_iff_eq,ne_eq] at this
 obtain ⟨⟨h1,h2⟩,h3⟩:=this
 refine ⟨h1,fun e=>?_,fun e=>?_⟩
 · rcases h2 with (h2 | h2) | h2
   · exact absurd e h2
   · exact .inl h2
   · exact .inr h2
 · rcases h3 with h3 | h3
   · exact absurd e h3
   · exact h3
theorem lV {sc out:Scope} (h:jk sc out=true):sc.kind=.function:=by
 unfold jk at h
 rw [Bool.and_eq_true] at h
 exact of_decide_eq_true h.2
theorem MK {scope:Scope} {own:List Str} {ix:List Nat} {ex:List Addr} (I:Inv X pins σ H s) (hf:jk scope X.env.scope=true) (hx:∀ b∈ex,tY X pins H b∧b < s.heap.objs.size):(jF X scope own ix s.heap.objs.size s H ex).Ok:=by
 have fits:=(oE hf)
 have tV:∀ p∈scope.names,p.2=.free→∃ c,X.env.cells.lookup p.1=some c:=fun p hp e=>I.ok.has p.1 ((fits p hp).2.1 e)
 have sub:∀ {x:Str} {c:Addr},(vZ X.env scope.names []).lookup x=some c→X.env.cells.lookup x=some c:=fun {x c} e=>uj tV (fun x c e=>by simp at e) e
 refine ⟨I.ok.mod,(show scope.kind=.function from lV hf),I.ok.glob,I.ok.blt,Nat.le_refl _,fun x y c a b=>I.ok.inj x y c (sub a) (sub b),fun x hk=>?_,fun x c e=>(by cases e),I.ok.hd,I.ok.frames,.inl rfl,fun b hb=>⟨Nat.ne_of_lt (hx b hb).2,fun x c e=>(hx b hb).1.2.2.2.2.1 x c (sub e)⟩,I.bs,Nat.le_trans I.ok.bsz I.sz,fun b o e hb=>?_,fun b hb hs=>?_,I.stack,I.GP⟩
 · refine yz (.inr ?_)
   have hk':(relabel scope X.env).names.lookup x=some .cell∨(relabel scope X.env).names.lookup x=some .free:=hk
   rw [oC] at hk'
   cases q:scope.names.lookup x with
   | none=>rw [q] at hk'; rcases hk' with z | z <;> cases z
   | some k=>
     have hm:=mem_of_lookup q
     by_cases hkf:k=.free
     · subst hkf; exact hm
     · rw [q] at hk'
       have hb:(k == NameKind.free)=false:=by simpa using hkf
       simp only [Option.map_some,hb,Bool.false_and,Bool.false_eq_true,if_false,Option.some.injEq] at hk'
       rcases hk' with z | z
       · exact absurd z (fits _ hm).1
       · exact absurd z hkf
 · rcases (hx b hb).1.2.2.2.1 with z | z
   · exact I.ok.JD b o e z
   · exact absurd (Nat.lt_of_lt_of_le (Heap.lt_size e) (Nat.le_trans I.ok.bsz z)) (Nat.lt_irrefl _)
 · rcases List.mem_cons.mp (I.BU b hs) with z | z
   · exact (hx b hb).1.2.1 z
   · exact (hx b hb).1.2.2.1 z
theorem Kl {scope:Scope} {own:List Str} {ix:List Nat} {ex:List Addr} {h':Heap} {tk:Nat} (I:Inv X pins σ H s) (hf:jk scope X.env.scope=true) (hc:x9 scope X.env.scope X.N ix=true) (hx:∀ b∈ex,tY X pins H b∧b < s.heap.objs.size)
   (hn:h'.Ns s.heap.objs.size fun _=>none) (hk:∀ b o,s.heap.get? b=some o→h'.get? b=some o):Inv (jF X scope own ix s.heap.objs.size s H ex) [] (List.replicate own.length none ++ Kk σ ix) H { s with heap:=h',toks:=tk }:=by
 have fits:=(oE hf)
 have tV:∀ p∈scope.names,p.2=.free→∃ c,X.env.cells.lookup p.1=some c:=fun p hp e=>I.ok.has p.1 ((fits p hp).2.1 e)
 have sub:∀ {x:Str} {c:Addr},(vZ X.env scope.names []).lookup x=some c→X.env.cells.lookup x=some c:=fun {x c} e=>uj tV (fun x c e=>by simp at e) e
 refine ⟨MK I hf hx,rfl,I.bare,Un.kept hk,⟨_,hn,fun i x v e1 e2 e3=>?_⟩,fun x c e=>?_,I.hok.fresh (Nat.le_refl _),fun x c e=>I.om x c (sub e),fun p hp=>absurd (show p∈([]:List (Addr × Obj)) ++ [] from hp) (by simp),I.hok.kept hk,?_⟩
 · have e1:(own ++ G5 X.N ix)[i]?=some x:=e1
   by_cases hi:i < own.length
   · rw [List.getElem?_append_left (by simpa using hi),List.getElem?_replicate,if_pos hi] at e2
     cases e2
   · have hi':own.length≤i:=Nat.le_of_not_lt hi
     rw [List.getElem?_append_right (by simpa using hi'),List.length_replicate] at e2
     rw [List.getElem?_append_right hi'] at e1
     unfold Kk at e2
     unfold G5 at e1
     rw [List.getElem?_map] at e1 e2
     cases q:ix[i - own.length]? with
     | none=>rw [q] at e2; cases e2
     | some j=>
       rw [q] at e1 e2
       simp only [Option.map_some,Option.some.injEq] at e1 e2
       have hj:j∈ix:=List.mem_of_getElem? q
       have fit:=List.all_eq_true.mp hc j hj
       simp only [Bool.and_eq_true,Bool.or_eq_true,beq_iff_eq] at fit
       rw [e1] at fit
       have ej:σ[j]?=some (some v):=by
         rw [List.getD_eq_getElem?_getD] at e2
         cases r:σ[j]? with
         | none=>rw [r] at e2; cases e2
         | some z=>rw [r] at e2; simp only [Option.getD_some] at e2; rw [e2]
       have hjl:j < X.N.length:=by rw [← I.len]; exact (List.getElem?_eq_some_iff.mp ej).1
       have en:X.N[j]?=some x:=by
         rw [List.getD_eq_getElem?_getD] at e1
         rw [List.getElem?_eq_getElem hjl] at e1 ⊢
         simp only [Option.getD_some] at e1
         rw [e1]
       obtain ⟨m,hm,hl⟩:=I.loc
       have hv:Vis X.env.scope x:=by
         rcases fit.2 with z | z
         · exact .inr (.inl z)
         · exact .inr (.inr z)
       obtain ⟨u,r,l⟩:=hl j x v en ej hv
       refine ⟨u,r,.inr ⟨?_,?_⟩⟩
       · show (relabel scope X.env).names.lookup x=some .cell∨(relabel scope X.env).names.lookup x=some .free
         rw [oC,fit.1]
         simp only [Option.map_some]
         split
         · exact .inl rfl
         · exact .inr rfl
       · rcases l with ⟨k1,_⟩ | ⟨_,c,ec,GR⟩
         · have k1:X.env.scope.names.lookup x=some .local:=k1
           rcases fit.2 with z | z <;> (rw [z] at k1; cases k1)
         · obtain ⟨c',e'⟩:∃ c,(vZ X.env scope.names []).lookup x=some c:=yz (.inr (mem_of_lookup fit.1))
           have:=sub e'
           rw [ec] at this
           cases this
           exact ⟨c,e',GR.keeps hk⟩
 · obtain ⟨v,z⟩:=I.cell x c (sub e)
   exact ⟨v,z.keeps hk⟩
 · show (List.replicate own.length none ++ Kk σ ix).length=(own ++ G5 X.N ix).length
   simp [Kk]
theorem comp_back {scope:Scope} {own:List Str} {ix:List Nat} {ex:List Addr} {τ:St} {H':Hp} {s':Shared} {DB:List (Addr × Obj)} (I:Inv X pins σ H s) (hx:∀ b∈ex,tY X pins H b∧b < s.heap.objs.size)
   (I':Inv (jF X scope own ix s.heap.objs.size s H ex) DB τ H' s'):Inv X pins σ H' s'∧H' s.heap.objs.size=none∧s.heap.objs.size≠X.env.locals∧X.s₀.heap.objs.size≤s.heap.objs.size∧(∀ x c,X.env.cells.lookup x=some c→c≠s.heap.objs.size)∧∀ p∈X.pn ++ pins,p.1≠s.heap.objs.size:=by
 refine ⟨I.Qd (ch:=ex) I'.os I'.base I'.hok I'.bare fun b hb=>?_,I'.free,Nat.ne_of_gt I.lt,I.sz,fun x c e z=>?_,fun p hp z=>?_⟩
 · obtain ⟨f0,f1,f2,f3,f4,f5⟩:=(hx b hb).1
   exact ⟨f3,f1,f4,f5⟩
 · obtain ⟨v,q⟩:=I.cell x c e
   exact absurd q.lt (by rw [z]; exact Nat.lt_irrefl _)
 · exact absurd (Heap.lt_size (I.pin p hp).1) (by rw [z]; exact Nat.lt_irrefl _)
end
noncomputable def PTs (X:Cx) (ifs:List Expr) (t:TT):Prop:=
 ∀ (pins:List (Addr × Obj)) (s:Shared) (σ:St) (H:Hp) (Q:Bool→Hp→Prop),Inv X pins σ H s→t σ H Q→
   wpAny (model X.prog X.w) X.A (forIn ifs true fun c r=>if r=true then do let ok ← isTrue c X.env (eval c X.env); pure (ForInStep.yield ok) else pure (ForInStep.yield r)) (TP X pins σ Q) X.xe s
noncomputable def FH:TT:=fun _ H Q=>Q true H
theorem jl {X:Cx}:PTs X [] FH:=fun _ _ _ H _ I h=>wpAny_tests_nil ⟨H,I,h⟩
theorem G6 {X:Cx} {c:Expr} {t:TT} (h:PT X c t):PTs X [c] t:=fun pins s σ H Q I q=>wpAny_tests_one (h pins s σ H Q I q)
noncomputable def yA (J:It) (D:Addr) (g:TG) (tc:TT) (te:TE) (Q:VK) (τ:St) (H:Hp):Prop:=∃ W:Nat→Nat→St→Hp→Prop,(∃ m,W 0 m τ H)∧∀ i m τ H,W i m τ H→
 (J.stop i H∧Q (.ref D) H)∨(J.go i H∧∃ N:St→Hp→Prop,(∀ τ' H',N τ' H'→∃ m',m' < m∧W (i + 1) m' τ' H')∧∀ x H',J.yld i H x H'→g x τ H' fun τ2 H2=>tc τ2 H2 fun b H3=>if b=true then
   te τ2 H3 fun y H4=>∃ ys,H4 D=some (.lst ys)∧ys.length < sizeLine∧N τ2 (upd H4 D (.lst (ys ++ [y]))) else N τ2 H3)
noncomputable def kb (wi:TI) (k:Nat) (ix:List Nat) (g:TG) (tc:TT) (te:TE):TE:=fun σ H Q=>wi σ H fun J H1=>∀ D,H1 D=none→yA J D g tc te Q (List.replicate k none ++ Kk σ ix) (upd H1 D (.lst []))
section
variable {X:Cx} {tg iter elt:Expr} {ifs:List Expr} {scope:Scope} {pos:Pos} {own:List Str} {ix:List Nat} {wi:TI} {g:TG} {tc:TT} {te:TE}
theorem IE {it D:Addr} {fp:List Addr} {tn:Nat→Heap→Prop} {J:It} {Q:VK} {R:Result→Shared→Prop} {s:Shared} {τ:St} {H:Hp} (xg:X.calm=true) (hxe:X.xe=fun _ _=>False) (hpn:X.pn=[]) (T:Turn X.prog X.w X.K tg J fp it tn)
   (he:PE X elt te) (hg:PG X tg g) (ht:PTs X ifs tc) (I:Inv X [] τ H s) (hfp:∀ b∈fp,tY X [] H b) (h0:tn 0 s.heap) (hW:yA J D g tc te Q τ H)
   (hR:∀ τ' H' s',Inv X [] τ' H' s'→Q (.ref D) H'→R (.ok .next) s') :
   codeAny (model X.prog X.w) X.A (.compLoop (.ListComp elt [⟨tg,iter,ifs,0⟩] scope pos) 0 (.ref it) (.ref D) X.env) R s:=by
 obtain ⟨W,⟨m0,w0⟩,turn⟩:=hW
 have no:∀ {E:Value→Shared→Prop} (e:Value) (s':Shared),X.xe e s'→E e s':=fun e s' z=>by rw [hxe] at z; exact z.elim
 have stat:∀ {H':Hp},(∀ b∈fp,H' b=none)→∀ b∈fp,tY X [] H' b:=fun hn b hb=>⟨hn b hb,(hfp b hb).2⟩
 refine codeAny_loop rfl (fun n s'=>∃ i τ' H',Inv X [] τ' H' s'∧tn i s'.heap∧(∀ b∈fp,H' b=none)∧W i n τ' H') (fun n s3 hI=>?_) m0 ⟨0,τ,H,I,h0,fun b hb=>(hfp b hb).1,w0⟩
 obtain ⟨i,τ3,H3,I3,st3,fr3,w3⟩:=hI
 show wpAny _ X.A ((compTurn (.ListComp elt [⟨tg,iter,ifs,0⟩] scope pos) 0 (.ref it) (.ref D) X.env).onRaise (fun x=>do noteFrame x X.env; theTreesLotGoes x)) _ _ s3
 refine wpAny_noted ?_
 rw [compTurn_list]
 refine wpAny_bind (wpAny_standAt (wpAny_bind ?_))
 rcases turn i n τ3 H3 w3 with ⟨stop,q⟩ | ⟨go,N,hN,step⟩
 · refine wpAny_mono (T.done X rfl rfl rfl xg i [] s3 τ3 H3 X.xe I3 (stat fr3) st3 stop) (fun r s4 ⟨hr,I4⟩=>?_) no
   subst hr
   exact wpAny_pure (hR τ3 H3 s4 I4 q)
 · refine wpAny_mono (T.item X rfl rfl rfl xg i [] s3 τ3 H3 X.xe I3 (stat fr3) st3 go) (fun r s4 ⟨u,hr,h4⟩=>?_) no
   subst hr
   refine wpAny_bind (wpAny_mono h4 (fun _ s5 ⟨x,H5,I5,r5,y5,st5,fr5⟩=>?_) no)
   have I5':=I5.pinned (stat fr5) (T.obj _ _ st5)
   refine wpAny_bind (wpAny_mono (hg _ s5 τ3 H5 x u _ I5' r5 (step x H5 y5)) (fun _ s6 ⟨τ6,H6,I6,q6⟩=>?_) no)
   refine wpAny_bind (wpAny_mono (ht _ s6 τ6 H6 _ I6 q6) (fun b s7 ⟨H7,I7,q7⟩=>?_) no)
   have again:∀ {τ7:St} {H7:Hp} {s7:Shared},Inv X ([] ++ yj fp s5.heap) τ7 H7 s7→N τ7 H7→∃ m,m < n∧∃ i σ' H',Inv X [] σ' H' s7∧tn i s7.heap∧(∀ b∈fp,H' b=none)∧W i m σ' H':=fun {τ7 H7 s7} I7 n7=>by
     obtain ⟨m',hm,w7⟩:=hN τ7 H7 n7
     refine ⟨m',hm,i + 1,τ7,H7,I7.tZ,T.keep _ _ _ st5 fun b hb o e=>(I7.pin (b,o) (List.mem_append_right _ (List.mem_append_right _ (lQ hb e)))).1,fun b hb=>?_,w7⟩
     obtain ⟨o,e,d⟩:=T.obj _ _ st5 b hb
     exact (I7.pin (b,o) (List.mem_append_right _ (List.mem_append_right _ (lQ hb e)))).2.1
   cases b with
   | false=>exact wpAny_pure ⟨rfl,again I7 q7⟩
   | true=>
     refine wpAny_bind (wpAny_bind (wpAny_mono (he _ s7 τ6 H7 _ I7 q7) (fun v s8 ⟨y,H8,I8,r8,ys,hD,hl,q8⟩=>wpAny_bind ?_) no))
     refine wpAny_mono (bX _ s8 τ6 H8 (.ref D) [y] (.ref D) [v] (fun _ H'=>N τ6 H') I8 rfl (.cons r8 .nil) ⟨D,ys,y,rfl,rfl,hD,hl,q8⟩) (fun _ s9 ⟨_,H9,I9,_,q9⟩=>?_) no
     exact wpAny_pure (wpAny_pure ⟨rfl,again I9 q9⟩)
theorem DP {pins:List (Addr × Obj)} {s:Shared} {σ:St} {H:Hp} {Q:VK} {use:Option (Value→Sem Unit)} {Q':Value→Shared→Prop} (xg:X.calm=true) (hf:jk scope X.env.scope=true) (hc:x9 scope X.env.scope X.N ix=true)
   (hi:PI X tg iter wi) (hg:∀ C s₀ H₀ ex,PG (jF X scope own ix C s₀ H₀ ex) tg g) (ht:∀ C s₀ H₀ ex,PTs (jF X scope own ix C s₀ H₀ ex) ifs tc) (he:∀ C s₀ H₀ ex,PE (jF X scope own ix C s₀ H₀ ex) elt te)
   (I:Inv X pins σ H s) (h:kb wi own.length ix g tc te σ H Q)
   (hU:∀ (D C:Addr) (H':Hp) (s':Shared) (m:Str→Option Value),Inv X pins σ H' s'→Q (.ref D) H'→s'.heap.Ns C m→H' C=none→C≠X.env.locals→X.s₀.heap.objs.size≤C→(∀ x c,X.env.cells.lookup x=some c→c≠C)→(∀ p∈X.pn ++ pins,p.1≠C)→compPost (model X.prog X.w) X.A X.xe use Q' (.ref D) C (.ok .next) s')
   (hs:∀ x,foldedSetIterable iter X.env x=pure x) :
   wpAny (model X.prog X.w) X.A (comprehension (.ListComp elt [⟨tg,iter,ifs,0⟩] scope pos) scope X.env (firstIterPos [⟨tg,iter,ifs,0⟩] pos) (newList []) false (eval iter X.env) use) Q' X.xe s:=by
 have fits:=(oE hf)
 have tV:∀ p∈scope.names,p.2=.free→∃ c,X.env.cells.lookup p.1=some c:=fun p hp e=>I.ok.has p.1 ((fits p hp).2.1 e)
 refine wpAny_comprehension_free (use:=use) rfl hs (xO tV) (lV hf) (fun x hx=>(fits x hx).2.2) ?_
 refine thn (hi pins s σ H _ I h) fun v s1 h1=>thn h1 fun itv s2 h2=>?_
 obtain ⟨it,fp,tn,J,H2,e,I2,T,st2,f2,hW⟩:=h2
 subst e
 refine wpAny_newObj_type (hd:=by size_fits) ?_
 have hD:H2 s2.heap.objs.size=none:=I2.hok.fresh (Nat.le_refl _)
 have I3:Inv X pins σ (upd H2 s2.heap.objs.size (.lst [])) { s2 with heap:=s2.heap.push { cls:=.type "list",dict:=none,data:=.seq ([]:List Value).toArray } }:=
   I2.laid (t':=s2.toks) (fun b u e=>Heap.get?_push_of_some _ e) (Nat.le_refl _) ⟨Nat.zero_le _,[],0,.nil,Heap.get?_push_size _ rfl⟩
 have W3:=hW s2.heap.objs.size hD
 have lt3:∀ b∈fp,b < s2.heap.objs.size:=fun b hb=>let ⟨o,e,_⟩:=T.obj _ _ st2 b hb; Heap.lt_size e
 have fp3:∀ b∈fp,tY X pins (upd H2 s2.heap.objs.size (.lst [])) b∧b < (s2.heap.push { cls:=.type "list",dict:=none,data:=.seq ([]:List Value).toArray }).objs.size:=fun b hb=>
   ⟨⟨by rw [az (Nat.ne_of_lt (lt3 b hb))]; exact (f2 b hb).1,(f2 b hb).2⟩,by rw [Heap.size_push]; exact Nat.lt_succ_of_lt (lt3 b hb)⟩
 have st3:tn 0 (s2.heap.push { cls:=.type "list",dict:=none,data:=.seq ([]:List Value).toArray }):=T.keep _ _ _ st2 fun b _ o e=>Heap.get?_push_of_some _ e
 generalize hs3:({ s2 with heap:=s2.heap.push { cls:=.type "list",dict:=none,data:=.seq ([]:List Value).toArray } }:Shared)=s3 at I3
 generalize hH3:upd H2 s2.heap.objs.size (.lst [])=H3 at I3 W3 fp3
 have eh:s2.heap.push { cls:=.type "list",dict:=none,data:=.seq ([]:List Value).toArray }=s3.heap:=by rw [← hs3]
 rw [eh] at fp3 st3
 refine wpAny_newFunctionEnv (fun x hx=>(fits x hx).1) (by intro y hy; simp at hy) (fun h4 hns hsb=>?_) (lV hf)
 have kept:∀ b o,s3.heap.get? b=some o→h4.get? b=some o:=fun b o e=>hsb.extBut b o (Nat.ne_of_lt (Heap.lt_size e)) (Heap.get?_push_of_some _ e)
 have I4:=Kl (own:=own) (tk:=s3.toks + ([]:List (Str × Value)).length) I3 hf hc fp3 hns kept
 have fp4:∀ b∈fp,tY (jF X scope own ix s3.heap.objs.size s3 H3 fp) [] H3 b:=fun b hb=>by
   obtain ⟨⟨f0,f1,f2',f3,f4,f5⟩,lt⟩:=fp3 b hb
   refine ⟨f0,Nat.ne_of_lt lt,fun z=>?_,.inl hb,fun x c e=>f4 x c (uj tV (fun x c e=>by simp at e) e),fun p hp=>absurd (show p∈([]:List (Addr × Obj)) ++ [] from hp) (by simp)⟩
   rcases List.mem_cons.mp (I3.BU b z) with z | z
   · exact f1 z
   · exact f2' z
 have st4:tn 0 h4:=T.keep _ _ _ st3 fun b _ o e=>kept b o e
 have loop:=IE (X:=jF X scope own ix s3.heap.objs.size s3 H3 fp) (iter:=iter) (scope:=scope) (pos:=pos) (R:=compPost (model X.prog X.w) X.A X.xe use Q' (.ref s2.heap.objs.size) s3.heap.objs.size) xg rfl rfl T (he _ _ _ _) (hg _ _ _ _) (ht _ _ _ _) I4 fp4 st4 W3
   (fun τ' H' s' I' q=>by
     obtain ⟨J1,J2,J3,J4,J5,J6⟩:=comp_back I3 fp3 I'
     obtain ⟨m,hm,_⟩:=I'.loc
     exact hU _ _ H' s' m J1 q hm J2 J3 J4 J5 J6)
 exact codeAny_compStart_list loop (T.self X.A 0 _ _ _ st4 loop)
theorem jm (xg:X.calm=true) (hf:jk scope X.env.scope=true) (hc:x9 scope X.env.scope X.N ix=true)
   (hi:PI X tg iter wi) (hg:∀ C s₀ H₀ ex,PG (jF X scope own ix C s₀ H₀ ex) tg g) (ht:∀ C s₀ H₀ ex,PTs (jF X scope own ix C s₀ H₀ ex) ifs tc) (he:∀ C s₀ H₀ ex,PE (jF X scope own ix C s₀ H₀ ex) elt te)
   (hs:∀ x,foldedSetIterable iter X.env x=pure x:=by intro _; rfl):PE X (.ListComp elt [⟨tg,iter,ifs,0⟩] scope pos) (kb wi own.length ix g tc te):=by
 intro pins s σ H Q I h
 rw [eval_ListComp]
 refine DP (use:=none) xg hf hc hi hg ht he I h (fun D C H' s' m I' q hm n1 n2 n3 n4 n5=>?_) hs
 refine ⟨m,hm,fun h' sb=>⟨.ref D,H',?_,rfl,q⟩⟩
 exact I'.turned (t':=s'.toks) (it:=C) (fun b o hb e=>sb.extBut b o hb e) n1 (Ne.symm (Ne.symm n2)) (.inr n3) n4 n5
theorem G7 {i:Nat} {y:Str} {py QC:Pos} (hN:X.N.Nodup) (hiy:X.N[i]?=some y) (hy:Loc X.env.scope y) (xg:X.calm=true) (hf:jk scope X.env.scope=true) (hc:x9 scope X.env.scope X.N ix=true)
   (hi:PI X tg iter wi) (hg:∀ C s₀ H₀ ex,PG (jF X scope own ix C s₀ H₀ ex) tg g) (ht:∀ C s₀ H₀ ex,PTs (jF X scope own ix C s₀ H₀ ex) ifs tc) (he:∀ C s₀ H₀ ex,PE (jF X scope own ix C s₀ H₀ ex) elt te)
   (hsw:swapsWith (.ListComp elt [⟨tg,iter,ifs,0⟩] scope pos) (some (.Name y py)) QC.line X.env=pure true:=by rfl)
   (hs:∀ x,foldedSetIterable iter X.env x=pure x:=by intro _; rfl) (hfn:X.fn y=true∨X.env.scope.names.lookup y=some .local:=by first | exact .inl rfl | exact .inr rfl | assumption) :
   PS X (.Assign [.Name y py] (.ListComp elt [⟨tg,iter,ifs,0⟩] scope pos) QC) (JJ (kb wi own.length ix g tc te) (gh i)):=by
 intro pins s σ H D I h
 rw [exec_Assign_Name_used _ _ _ _ hsw]
 refine wpAny_bind (wpAny_standAt (wpAny_bind ?_))
 show wpAny _ _ (do let _ ← comprehension (.ListComp elt [⟨tg,iter,ifs,0⟩] scope pos) scope X.env _ (newList []) false (eval iter X.env) (some (assign (.Name y py) X.env))) _ _ s
 refine wpAny_bind (wpAny_mono (DP (use:=some (assign (.Name y py) X.env)) (Q':=fun _ s'=>SP X pins D .next s') xg hf hc hi hg ht he I h (fun L C H' s' m I' q hm n1 n2 n3 n4 n5=>?_) hs) (fun _ s' hq=>wpAny_pure (wpAny_pure hq)) fun _ _ e=>e)
 show wpAny _ _ (assign (.Name y py) X.env (.ref L)) _ _ _
 refine wpAny_assign_Name (A4 I' hN hiy hy (v:=.ref L) rfl (fun s2 I2 ⟨a,sb,ha⟩=>?_) hfn)
 have hCa:C≠a:=by
   rcases ha with rfl | ha
   · exact n2
   · exact fun z=>n4 y a ha z.symm
 refine ⟨m,hm.sameBut sb hCa,fun h' sb'=>⟨_,H',?_,q⟩⟩
 exact I2.turned (t':=s2.toks) (it:=C) (fun b o hb e=>sb'.extBut b o hb e) n1 n2 (.inr n3) n4 n5
end
end L2
namespace L2
open PySem PySem.Spec PyProof.Rows
inductive Dp where
 | non | bl (b:Bool) | int (i:Int) | str (x:Str) | tup (l:List Dp) | lst (l:List Dp)
mutual
noncomputable def Rep (K:PySem.W.Frag) (H:Hp):Dp→V→Prop
 | .non,v=>v=.non
 | .bl b,v=>v=.bl b
 | .int i,v=>v=.int i
 | .str x,v=>v=.str x
 | .tup l,v=>∃ a xs,v=.ref a∧SqT K H a xs∧aS K H l xs
 | .lst l,v=>∃ a xs,v=.ref a∧SqL K H a xs∧aS K H l xs
noncomputable def aS (K:PySem.W.Frag) (H:Hp):List Dp→List V→Prop
 | [],vs=>vs=[]
 | d :: ds,vs=>∃ v r,vs=v :: r∧Rep K H d v∧aS K H ds r
end
mutual
noncomputable def Dp.deep:Dp→Nat
 | .tup l=>Dp.Km l + 1
 | .lst l=>Dp.Km l + 1
 | _=>0
noncomputable def Dp.Km:List Dp→Nat
 | []=>0
 | d :: ds=>max d.deep (Dp.Km ds)
end
theorem aw.bC {K:PySem.W.Frag} {H H':Hp} {a:Addr} {xs:List V} (e:aw H H') (h:SqT K H a xs):SqT K H' a xs:=by
 rcases h with (h | ⟨o,h⟩) | h
 · exact .inl (.inl (e _ _ h))
 · exact .inl (.inr ⟨o,e _ _ h⟩)
 · exact .inr h
mutual
theorem Rep.mono {K:PySem.W.Frag} {H H':Hp} (e:aw H H'):∀ {d:Dp} {v:V},Rep K H d v→Rep K H' d v
 | .non,_,h=>h
 | .bl _,_,h=>h
 | .int _,_,h=>h
 | .str _,_,h=>h
 | .tup l,_,h=>by
   unfold Rep at h ⊢
   obtain ⟨a,xs,e1,e2,e3⟩:=h
   exact ⟨a,xs,e1,e.bC e2,aS.mono e e3⟩
 | .lst l,_,h=>by
   unfold Rep at h ⊢
   obtain ⟨a,xs,e1,e2,e3⟩:=h
   exact ⟨a,xs,e1,e.seq e2,aS.mono e e3⟩
theorem aS.mono {K:PySem.W.Frag} {H H':Hp} (e:aw H H'):∀ {ds:List Dp} {vs:List V},aS K H ds vs→aS K H' ds vs
 | [],_,h=>h
 | d :: ds,_,h=>by
   unfold aS at h ⊢
   obtain ⟨v,r,e1,e2,e3⟩:=h
   exact ⟨v,r,e1,Rep.mono e e2,aS.mono e e3⟩
end
theorem aS.length {K:PySem.W.Frag} {H:Hp}:∀ {ds:List Dp} {vs:List V},aS K H ds vs→vs.length=ds.length
 | [],_,h=>by unfold aS at h; rw [h]; rfl
 | d :: ds,_,h=>by
   unfold aS at h
   obtain ⟨v,r,e1,_,e3⟩:=h
   rw [e1,List.length_cons,List.length_cons,aS.length e3]
theorem aS.get {K:PySem.W.Frag} {H:Hp}:∀ {ds:List Dp} {vs:List V} {i:Nat} {d:Dp},aS K H ds vs→ds[i]?=some d→∃ v,vs[i]?=some v∧Rep K H d v
 | [],_,_,_,_,e=>by simp at e
 | d :: ds,_,0,_,h,e=>by
   unfold aS at h
   obtain ⟨v,r,e1,e2,e3⟩:=h
   simp only [List.getElem?_cons_zero,Option.some.injEq] at e
   subst e
   exact ⟨v,by rw [e1]; rfl,e2⟩
 | d :: ds,_,i + 1,d',h,e=>by
   unfold aS at h
   obtain ⟨v,r,e1,e2,e3⟩:=h
   rw [List.getElem?_cons_succ] at e
   obtain ⟨v',h1,h2⟩:=aS.get e3 e
   exact ⟨v',by rw [e1,List.getElem?_cons_succ]; exact h1,h2⟩
theorem aS.append {K:PySem.W.Frag} {H:Hp}:∀ {ds es:List Dp} {vs us:List V},aS K H ds vs→aS K H es us→aS K H (ds ++ es) (vs ++ us)
 | [],_,_,_,h,h'=>by unfold aS at h; rw [h]; exact h'
 | d :: ds,_,_,_,h,h'=>by
   unfold aS at h
   obtain ⟨v,r,e1,e2,e3⟩:=h
   rw [e1]
   show aS K H (d :: (ds ++ _)) (v :: (r ++ _))
   unfold aS
   exact ⟨v,_,rfl,e2,aS.append e3 h'⟩
theorem aS.nil {K:PySem.W.Frag} {H:Hp}:aS K H [] []:=by unfold aS; rfl
theorem aS.cons {K:PySem.W.Frag} {H:Hp} {d:Dp} {ds:List Dp} {v:V} {vs:List V} (h:Rep K H d v) (h':aS K H ds vs):aS K H (d :: ds) (v :: vs):=by unfold aS; exact ⟨v,vs,rfl,h,h'⟩
theorem Rep.bj {K:PySem.W.Frag} {H:Hp} {l:List Dp} {v:V}:Rep K H (.tup l) v↔∃ a xs,v=.ref a∧SqT K H a xs∧aS K H l xs:=by unfold Rep; exact Iff.rfl
theorem Rep.bR {K:PySem.W.Frag} {H:Hp} {l:List Dp} {v:V}:Rep K H (.lst l) v↔∃ a xs,v=.ref a∧SqL K H a xs∧aS K H l xs:=by unfold Rep; exact Iff.rfl
theorem Rep.bE {K:PySem.W.Frag} {H:Hp} {i:Int} {v:V}:Rep K H (.int i) v↔v=.int i:=by unfold Rep; exact Iff.rfl
theorem Rep.bF {K:PySem.W.Frag} {H:Hp} {x:Str} {v:V}:Rep K H (.str x) v↔v=.str x:=by unfold Rep; exact Iff.rfl
theorem Rep.yB {K:PySem.W.Frag} {H:Hp} {b:Bool} {v:V}:Rep K H (.bl b) v↔v=.bl b:=by unfold Rep; exact Iff.rfl
theorem Rep.yc {K:PySem.W.Frag} {H:Hp} {v:V}:Rep K H .non v↔v=.non:=by unfold Rep; exact Iff.rfl
theorem aS.bw {K:PySem.W.Frag} {H:Hp} {vs:List V}:aS K H [] vs↔vs=[]:=by unfold aS; exact Iff.rfl
theorem aS.aM {K:PySem.W.Frag} {H:Hp} {d:Dp} {ds:List Dp} {vs:List V}:aS K H (d :: ds) vs↔∃ v r,vs=v :: r∧Rep K H d v∧aS K H ds r:=by conv=>lhs; unfold aS
theorem aw.new {H:Hp} {p:Addr} (h:H p=none) (o:HO):aw H (upd H p o):=fun b u q=>by rw [az (ao q h)]; exact q
section
variable {X:Cx} {pins:List (Addr × Obj)} {σ:St} {H:Hp} {s:Shared}
end
section
variable {X:Cx}
noncomputable def NN (K:PySem.W.Frag) (b:Bool):R2:=fun x y H Q=>∃ d,Rep K H d x∧Rep K H d y∧d.deep≤150∧Q (.bl b) H
end
section
variable {X:Cx}
noncomputable def QD (i j:Int):Prop:=i.natAbs < 2 ^ 4000∧j.natAbs < 2 ^ 4000
theorem bits_le {i:Int} (h:i.natAbs < 2 ^ 4000):Builtin.Int.intBits i≤2 ^ 20:=Nat.le_trans (intBits_le h) (by decide)
theorem G8:OpR X (binaryOp .Mult) (rI QD fun i j=>.int (i * j)):=opI fun _ _ _ _ _ _ _ hc q=>mul_int q (IntMulOk.of_bits (bits_le hc.1) (bits_le hc.2))
theorem DQ:ny X (.builtin "isinstance") (fun xs H Q=>∃ x T t b,xs=[x,.ty T]∧t8 X.K H x t∧PySem.W.kitOne X.K t (.type T)=some b∧Q (.bl b) H):=by
 intro pins s σ H xs us Q I r h
 obtain ⟨x,T,t,b,rfl,ty,e,q⟩:=h
 obtain ⟨u1,u2,rfl,r1,r2⟩:=vals2 r
 cases (show u2=Value.type T from r2)
 exact Iu I r1 ty e fun tk=>⟨.bl b,H,I.tok tk,rfl,q⟩
end
structure dG (K:PySem.W.Frag) (mg:Str→Option Value) (x:Str) (st:Stmt) (ps:List Str) (f:Addr) (fd:FuncData):Prop where
 F:Fun K x x st f fd
 b:Binds K fd ps []
 m:mg x=some (.ref f)
end L2
namespace L2
open PySem PySem.Spec PyProof.Rows
theorem Kn {g:Int→Int→V} {i j:Int} {H:Hp} {Q:VK}:rI0 g (.int i) (.int j) H Q↔Q (g i j) H:=⟨fun ⟨_,_,e1,e2,q⟩=>by cases e1; cases e2; exact q,fun q=>⟨_,_,rfl,rfl,q⟩⟩
theorem R0 {C:Int→Int→Prop} {g:Int→Int→V} {i j:Int} {H:Hp} {Q:VK}:rI C g (.int i) (.int j) H Q↔C i j∧Q (g i j) H:=⟨fun ⟨_,_,e1,e2,c,q⟩=>by cases e1; cases e2; exact ⟨c,q⟩,fun q=>⟨_,_,rfl,rfl,q⟩⟩
theorem Ko {a:V} {r:St} {H:Hp} {Q:VK}:(gD 0 (some a :: r) H Q)=(Q a H):=rfl
theorem Kp {a:Option V} {r:St} {H:Hp} {Q:VK}:(gD 1 (a :: r) H Q)=(gD 0 r H Q):=rfl
theorem Kq {a:Option V} {r:St} {H:Hp} {Q:VK}:(gD 2 (a :: r) H Q)=(gD 1 r H Q):=rfl
theorem Kr {a:Option V} {r:St} {H:Hp} {Q:VK}:(gD 3 (a :: r) H Q)=(gD 2 r H Q):=rfl
theorem Ks {a:Option V} {r:St} {H:Hp} {Q:VK}:(gD 4 (a :: r) H Q)=(gD 3 r H Q):=rfl
theorem Kt {a:Option V} {r:St} {H:Hp} {Q:VK}:(gD 5 (a :: r) H Q)=(gD 4 r H Q):=rfl
theorem Ku {a:Option V} {r:St} {H:Hp} {Q:VK}:(gD 6 (a :: r) H Q)=(gD 5 r H Q):=rfl
theorem Kv {a:Option V} {r:St} {H:Hp} {Q:VK}:(gD 7 (a :: r) H Q)=(gD 6 r H Q):=rfl
theorem Kw {a:Option V} {r:St} {H:Hp} {Q:VK}:(gD 8 (a :: r) H Q)=(gD 7 r H Q):=rfl
theorem Kx {a:Option V} {r:St} {H:Hp} {Q:VK}:(gD 9 (a :: r) H Q)=(gD 8 r H Q):=rfl
theorem QE {v:V} {σ:St} {H:Hp} {Q:VK}:(tC v σ H Q)=(Q v H):=rfl
theorem NO {r:R2} {ta tb:TE} {σ:St} {H:Hp} {Q:VK}:(tOp r ta tb σ H Q)=(ta σ H fun x H1=>tb σ H1 fun y H2=>r x y H2 Q):=rfl
theorem QF {b:Bool} {p:Bool→Prop}:(∃ k,V.bl b=.bl k∧p k)↔p b:=⟨fun ⟨_,e,q⟩=>by cases e; exact q,fun q=>⟨_,rfl,q⟩⟩
theorem OM {b:Int} {p:Int→Prop}:(∃ k,V.int b=.int k∧p k)↔p b:=⟨fun ⟨_,e,q⟩=>by cases e; exact q,fun q=>⟨_,rfl,q⟩⟩
theorem ON {b:Addr} {p:Addr→Prop}:(∃ k,V.ref b=.ref k∧p k)↔p b:=⟨fun ⟨_,e,q⟩=>by cases e; exact q,fun q=>⟨_,rfl,q⟩⟩
theorem G9 {t:TE} {σ:St} {H:Hp} {Q:Bool→Hp→Prop}:(GY t σ H Q)=(t σ H fun x H'=>∃ k,x=.bl k∧Q k H'):=rfl
theorem NP {x y:V} {H:Hp} {Q:VK}:(rEq x y H Q)=(Il x y=true∧Q (.bl (decide (x=y))) H):=rfl
theorem NQ {x y:V} {H:Hp} {Q:VK}:(rNe x y H Q)=(Il x y=true∧Q (.bl (!decide (x=y))) H):=rfl
theorem OO {i j:Int}:(V.int i=V.int j)=(i=j):=by simp
theorem OP {i j:Str}:(V.str i=V.str j)=(i=j):=by simp
theorem ML {c:Prop} [Decidable c] {A B:Prop}:(if decide c=true then A else B)↔if c then A else B:=by simp
theorem Ky {c:Prop} [Decidable c] {A B:Prop}:(if (!decide c)=true then A else B)↔if c then B else A:=by by_cases h:c <;> simp [h]
theorem aI {K:PySem.W.Frag} {p:Addr} {i:Int} {H:Hp} {Q:VK} {xs:List V} {v:V} (h:SqT K H p xs) (hv:atI xs i=some v) (q:Q v H):FA K (.ref p) (.int i) H Q:=⟨p,xs,i,v,rfl,rfl,h,hv,q⟩
theorem bK {K:PySem.W.Frag} {p:Addr} {i:Int} {H:Hp} {Q:VK} {xs:List V} {v:V} (h:SqL K H p xs) (hv:atI xs i=some v) (q:Q v H):DJ K (.ref p) (.int i) H Q:=⟨p,xs,i,v,rfl,rfl,h,hv,q⟩
section
variable {P:Program} {w:World} {K:PySem.W.Frag} {mg:Str→Option Value} {base:Heap}
theorem Fun.okS {x qual:Str} {st:Stmt} {f:Addr} {fd:FuncData} {N ps:List Str} {k:Nat} {sp:Sp} (F:Fun K x qual st f fd) (S:bu N ps (aq st)) (len:∀ vs H Q E,sp vs H Q E→vs.length=ps.length)
   (DI:∀ (cdv:Value) (A:Around) (outer:List Env) (s:Shared) (H:Hp) (vs:List V) (Q:VK) (E:XK),gW k (A.deeper (envOfC qual (aq st) s.heap.objs.size f cdv))→sp vs H Q E→
     ∃ t σ,PSs (DG CX0 P w K mg base N qual (aq st) f cdv A outer s H E).nox (aN st) t∧L2.start N vs=σ∧t { nx:=fun _ H'=>Q .non H',rt:=Q } σ H):bW P w K mg base CX0 (k + 1) f fd ps sp:=
 F.ok S len fun cdv A outer s H vs Q E hr h=>let ⟨t,_,h1,h2,h3⟩:=DI cdv A outer s H vs Q E hr h; ⟨t,h1,by rw [h2]; exact h3⟩
end
theorem MM {α β:Type} {f:α→β} {xs:List α} {i:Int} (d:α) (h0:0≤i) (h1:i < xs.length):atI (xs.map f) i=some (f (xs.getD i.toNat d)):=by
 have e:i=((i.toNat:Nat):Int):=by lia
 have h2:i.toNat < xs.length:=by lia
 conv=>lhs; rw [e]
 refine av ?_
 rw [List.getElem?_map,List.getD_eq_getElem?_getD,List.getElem?_eq_getElem h2]
 rfl
theorem Ha {sp:Sp} {dvs:List V} {E:XK} {t:TA} {σ:St} {H:Hp} {Q:VK}:(NH sp dvs E t σ H Q)=(t σ H fun vs H1=>sp (vs ++ dvs) H1 Q E):=rfl
theorem Hb {ta:TE} {tr:TA} {σ:St} {H:Hp} {Q:List V→Hp→Prop}:(NG ta tr σ H Q)=(ta σ H fun x H1=>tr σ H1 fun xs H2=>Q (x :: xs) H2):=rfl
theorem Kz {σ:St} {H:Hp} {Q:List V→Hp→Prop}:(Oy σ H Q)=(Q [] H):=rfl
theorem KA {t:TA} {σ:St} {H:Hp} {Q:VK}:(Qr t σ H Q)=(t σ H fun xs H1=>xs.length≤sizeLine∧∀ p,H1 p=none→Q (.ref p) (upd H1 p (.tup xs))):=rfl
theorem KC {t:TA} {σ:St} {H:Hp} {Q:VK}:(Qs t σ H Q)=(t σ H fun xs H1=>xs.length≤sizeLine∧∀ p,H1 p=none→Q (.ref p) (upd H1 p (.lst xs))):=rfl
theorem MN {n:Nat} (h:n≤1000):n≤sizeLine:=Nat.le_of_lt (IA h)
theorem DR {K:PySem.W.Frag} {p:Addr} {i:Int} {H:Hp} {Q:VK} {xs:List V} {v:V} (hv:atI xs i=some v) (q:Q v (upd H p (.lst xs))):DJ K (.ref p) (.int i) (upd H p (.lst xs)) Q:=⟨p,xs,i,v,rfl,rfl,.of ae,hv,q⟩
theorem Rep.new {K:PySem.W.Frag} {H:Hp} {p:Addr} {vs:List V} {ds:List Dp} (h:H p=none) (r:aS K H ds vs):Rep K (upd H p (.tup vs)) (.tup ds) (.ref p):=Rep.bj.mpr ⟨p,vs,rfl,.of ae,r.mono (aw.new h _)⟩
theorem MO {i j:Int}:Il (.int i) (.int j)=true:=rfl
theorem MP {i j:Str}:Il (.str i) (.str j)=true:=rfl
theorem MQ {n:Nat} (h:n≤1000):(n≤sizeLine)=True:=eq_true (MN h)
theorem KD {i j:Int}:(Qk i j)=(0 < j∧j < 1073741824):=rfl
theorem KG {CX:CXT} {P:Program} {w:World} {K:PySem.W.Frag} {mg:Str→Option Value} {base:Heap} {N:List Str} {qual:Str} {scope:Scope} {f:Addr} {cd:Value} {A:Around} {outer:List Env} {s:Shared} {H:Hp} {E:XK}:(DG CX P w K mg base N qual scope f cd A outer s H E).K=K:=rfl
theorem Hc {X:Cx} {scope:Scope} {own:List Str} {ix:List Nat} {C:Addr} {s₀:Shared} {H₀:Hp} {ex:List Addr}:(jF X scope own ix C s₀ H₀ ex).K=X.K:=rfl
theorem mulR {z b:Int} (h1 : -18446744073709551616 < b) (h2:b < 18446744073709551616):JN z b:=.inr ⟨h1,h2⟩
theorem mulL {z b:Int} (h1 : -18446744073709551616 < z) (h2:z < 18446744073709551616):JN z b:=.inl ⟨h1,h2⟩
theorem kz {a b:Expr} {op:Operator} {pos:Pos}:lT (.BinOp a op b pos):=fun _ _=>rfl
theorem qB {x:Str} {pos:Pos}:lT (.Name x pos):=fun _ _=>rfl
theorem ak {c:Const} {k:Nat} {pos:Pos}:lT (.Constant c k pos):=fun _ _=>rfl
theorem KH {a b:Expr} {pos:Pos}:lT (.Subscript a b pos):=fun _ _=>rfl
theorem yC {a:Expr} {op:UnaryOp} {pos:Pos}:lT (.UnaryOp op a pos):=fun _ _=>rfl
theorem MR {a:Expr} {x:Str} {pos:Pos}:lT (.Attribute a x pos):=fun _ _=>rfl
theorem gY {a b:Expr} {op:Operator} {pos:Pos} {es:List Expr} {env:Env}:starEach (.BinOp a op b pos :: es) env=(false,eval (.BinOp a op b pos) env) :: starEach es env:=rfl
theorem ah {x:Str} {pos:Pos} {es:List Expr} {env:Env}:starEach (.Name x pos :: es) env=(false,eval (.Name x pos) env) :: starEach es env:=rfl
theorem aW {c:Const} {k:Nat} {pos:Pos} {es:List Expr} {env:Env}:starEach (.Constant c k pos :: es) env=(false,eval (.Constant c k pos) env) :: starEach es env:=rfl
theorem bg {a b:Expr} {pos:Pos} {es:List Expr} {env:Env}:starEach (.Subscript a b pos :: es) env=(false,eval (.Subscript a b pos) env) :: starEach es env:=rfl
theorem bM {f:Expr} {as:List Expr} {ks:List Keyword} {pos:Pos} {es:List Expr} {env:Env}:starEach (.Call f as ks pos :: es) env=(false,eval (.Call f as ks pos) env) :: starEach es env:=rfl
theorem qC {a:Expr} {x:Str} {pos:Pos} {es:List Expr} {env:Env}:starEach (.Attribute a x pos :: es) env=(false,eval (.Attribute a x pos) env) :: starEach es env:=rfl
theorem iV {as:List Expr} {pos:Pos} {es:List Expr} {env:Env}:starEach (.List as pos :: es) env=(false,eval (.List as pos) env) :: starEach es env:=rfl
theorem eT {as:List Expr} {k} {pos:Pos} {es:List Expr} {env:Env}:starEach (.Tuple as k pos :: es) env=(false,eval (.Tuple as k pos) env) :: starEach es env:=rfl
theorem OQ {a:Expr} {ops:List CmpOp} {cs:List Expr} {pos:Pos} {es:List Expr} {env:Env}:starEach (.Compare a ops cs pos :: es) env=(false,eval (.Compare a ops cs pos) env) :: starEach es env:=rfl
theorem lW {a:Expr} {gs:List Comprehension} {sc:Scope} {pos:Pos} {es:List Expr} {env:Env}:starEach (.ListComp a gs sc pos :: es) env=(false,eval (.ListComp a gs sc pos) env) :: starEach es env:=rfl
noncomputable def KI:Expr→Option V
 | .Constant (.int i) _ _=>some (.int i)
 | .Constant (.str x) _ _=>some (.str x)
 | .Constant (.bool b) _ _=>some (.bl b)
 | .Constant .none _ _=>some .non
 | _=>none
noncomputable def KJ (vs:List V):TA:=fun _ H Q=>Q vs H
theorem cX {X:Cx}:∀ {es:List Expr} {vs:List V},es.map KI=vs.map some→PA X es (KJ vs)
 | [],[],_=>ai
 | [],_ :: _,h=>by cases h
 | _ :: _,[],h=>by cases h
 | e :: es,v :: vs,h=>by
   rw [List.map_cons,List.map_cons] at h
   injection h with h1 h2
   have ih:=cX (X:=X) h2
   have one:∀ {e:Expr} {v:V},PE X e (tC v)→(starEach (e :: es) X.env=(false,eval e X.env) :: starEach es X.env)→PA X (e :: es) (KJ (v :: vs)):=fun he hs pos pins s σ H Q I q=>aa he ih hs pos pins s σ H Q I q
   unfold KI at h1
   split at h1
   · cases h1; exact one aj aW
   · cases h1; exact one ba aW
   · cases h1; exact one A5 aW
   · cases h1; exact one dW aW
   · cases h1
theorem Hd {vs:List V} {σ:St} {H:Hp} {Q:List V→Hp→Prop}:(KJ vs σ H Q)=(Q vs H):=rfl
theorem He {td ty:TE} {σ:St} {H:Hp} {Q:VK}:(NK td ty σ H Q)=(td σ H fun x H1=>ty σ H1 fun y H2=>∃ a v,x=.ref a∧qS H2 a y (some v)∧Q v H2):=rfl
theorem DS {σ:St} {H:Hp} {Q:VK}:(Kj σ H Q)=(∀ p,H p=none→Q (.ref p) (upd H p (.dK []))):=rfl
theorem Hf {td ty tv:TE} {D:Ends} {σ:St} {H:Hp}:(NL td ty tv D σ H)=(tv σ H fun v H1=>td σ H1 fun x H2=>ty σ H2 fun y H3=>∃ a H4,x=.ref a∧OL H3 a y v H4∧D.nx σ H4):=rfl
theorem NR {r:List V→Hp→VK→Prop} {t:TA} {σ:St} {H:Hp} {Q:VK}:(tCB r t σ H Q)=(t σ H fun vs H1=>r vs H1 Q):=rfl
theorem QG {t:TE} {σ:St} {H:Hp} {Q:Bool→Hp→Prop}:(tB t σ H Q)=(t σ H fun x H1=>∃ c,x=.bl c∧Q c H1):=rfl
theorem KL {t:TT} {σ:St} {H:Hp} {Q:Bool→Hp→Prop}:(Qe t σ H Q)=(t σ H fun c H1=>Q (!c) H1):=rfl
theorem qS.s {H:Hp} {a:Addr} {kvs:List (Key × V)} {x:Str} {v:V} (e:H a=some (.dK kvs)) (h:dR kvs (Sum.inr x)=some v):qS H a (.str x) (some v):=by
 have:=qS.k (k:=Sum.inr x) e
 rw [h] at this
 exact this
end L2
namespace PM
noncomputable abbrev W:=List Nat
inductive Tr where
 | num (n:Int) | box (x:W) | bin (o:W) (l r:Tr)
 deriving DecidableEq
noncomputable def isLetter (c:Nat):Bool:=decide (97≤c) && decide (c≤122)
noncomputable def DT (c:Nat):Bool:=decide (48≤c) && decide (c≤57)
noncomputable def kind (c:Nat):Nat:=if isLetter c then 0 else if DT c then 1 else 2
noncomputable def i6 (st:List W × Nat) (c:Nat):List W × Nat:=
 if kind c≠2∧kind c=st.2 then (st.1.dropLast ++ [st.1.getLastD [] ++ [c]],kind c) else (st.1 ++ [[c]],kind c)
noncomputable def KN (w:W):List W × Nat:=w.foldl i6 ([],3)
noncomputable def pieces (w:W):List W:=(KN w).1
noncomputable def MS:List W:=[[98,111,120],[97,115,107],[112,117,116],[115,97,121],[105,102],[101,108,115,101],[119,104,105,108,101],[109,117,115,116],[115,116,111,112],[101,110,100]]
noncomputable def isName (p:W):Bool:=decide (1≤p.length) && decide (p.length≤8) && p.all isLetter && !MS.contains p
noncomputable def isNumber (p:W):Bool:=decide (1≤p.length) && decide (p.length≤3) && p.all DT && (decide (p=[48]) || !decide (p.head?=some 48))
noncomputable def sT (p:W):Int:=p.foldl (fun (a:Int) (c:Nat)=>a * 10 + ((c:Int) - 48)) 0
noncomputable abbrev P:=List W→Option (Tr × List W)
noncomputable def Hg (sub:P):P
 | []=>none
 | p :: r=>if isNumber p then some (.num (sT p),r) else if isName p then some (.box p,r) else if p=[40] then
     (match sub r with
     | some (e,q :: r')=>if q=[41] then some (e,r') else none
     | _=>none) else none
theorem FI (sub:P) (p:W) (r:List W):Hg sub (p :: r)=if isNumber p then some (.num (sT p),r) else if isName p then some (.box p,r) else if p=[40] then
     (match sub r with
     | some (e,q :: r')=>if q=[41] then some (e,r') else none
     | _=>none) else none:=rfl
noncomputable def Hh (ops:List W) (f:P):Nat→Tr→List W→Option (Tr × List W)
 | 0,e,ps=>some (e,ps)
 | _ + 1,e,[]=>some (e,[])
 | k + 1,e,p :: r=>if p∈ops then (match f r with
     | none=>none
     | some (e2,r')=>Hh ops f k (.bin p e e2) r') else some (e,p :: r)
noncomputable def DU (f:P):P:=fun ps=>match f ps with
 | none=>none
 | some (e,r)=>Hh [[42]] f r.length e r
noncomputable def OR (f:P):P:=fun ps=>match DU f ps with
 | none=>none
 | some (e,r)=>Hh [[43],[45]] (DU f) r.length e r
noncomputable def factor:Nat→P
 | 0=>Hg fun _=>none
 | n + 1=>Hg (OR (factor n))
noncomputable def expr (w:W):Option Tr:=if 60 < w.length then none else match OR (factor 5) (pieces w) with
 | some (e,[])=>some e
 | _=>none
noncomputable def Short (f:P):Prop:=∀ ps e r,f ps=some (e,r)→r.length < ps.length
noncomputable def loop (ops:List W) (f:P) (e:Tr) (ps:List W):Option (Tr × List W):=Hh ops f ps.length e ps
theorem KO (f:P) (ps:List W):DU f ps=match f ps with
   | none=>none
   | some (e,r)=>loop [[42]] f e r:=rfl
noncomputable def fac (p:W):Bool:=isNumber p || isName p
noncomputable def FJ:List W:=[[43],[45],[42]]
noncomputable def step (p:W):Nat × Bool→Option (Nat × Bool)
 | (d,true)=>if p=[40] then (if d + 1 > 5 then none else some (d + 1,true)) else if fac p then some (d,false) else none
 | (d,false)=>if p=[41] then (if d=0 then none else some (d - 1,false)) else if p∈FJ then some (d,true) else none
noncomputable def run:List W→Nat × Bool→Option (Nat × Bool)
 | [],s=>some s
 | p :: r,s=>match step p s with
   | none=>none
   | some s'=>run r s'
noncomputable def good (ps:List W):Prop:=run ps (0,true)=some (0,false)
noncomputable instance (ps:List W):Decidable (good ps):=inferInstanceAs (Decidable (_=_))
structure Walk (d:Nat) (f:P) (nx:List W→Prop):Prop where
 yes:∀ ps e r,f ps=some (e,r)→run ps (d,true)=run r (d,false)∧nx r
 no:∀ ps,f ps=none→run ps (d,true)≠some (0,false)
noncomputable def nxF (_:List W):Prop:=True
noncomputable def nxP (r:List W):Prop:=r=[]∨∃ q t,r=q :: t∧q≠[42]
noncomputable def nxS (r:List W):Prop:=r=[]∨∃ q t,r=q :: t∧q ∉ FJ
end PM
namespace PM
structure S7 (st:List W × Nat) (w:W):Prop where
 flat:st.1.flatten=w
 S2:∀ p∈st.1,p≠[]
 last:st.2 < 2→st.1≠[]
 sort:∀ p∈st.1,(∀ c∈p,kind c=0)∨(∀ c∈p,kind c=1)∨∃ c,p=[c]∧kind c=2
 mark:st.1≠[]→∃ p,st.1.getLast?=some p∧(st.2 < 2→∀ c∈p,kind c=st.2)
theorem FK {α:Type} {l:List α} {p:α} (h:l.getLast?=some p):l=l.dropLast ++ [p]:=by
 have hne:l≠[]:=by rintro rfl; cases h
 rw [List.getLast?_eq_some_getLast hne] at h
 have e:=(List.dropLast_concat_getLast hne).symm
 cases h
 exact e
end PM
namespace PM
noncomputable def RF (n:Nat) (t:Tr) (L:List W):Prop:=∀ rest,factor n (L ++ rest)=some (t,rest)
noncomputable def RP (n:Nat) (t:Tr) (L:List W):Prop:=∀ rest,DU (factor n) (L ++ rest)=loop [[42]] (factor n) t rest
noncomputable def RS (n:Nat) (t:Tr) (L:List W):Prop:=∀ rest,nxP rest→OR (factor n) (L ++ rest)=loop [[43],[45]] (DU (factor n)) t rest
theorem RF.p {n:Nat} {t:Tr} {L:List W} (h:RF n t L):RP n t L:=fun rest=>by rw [KO,h rest]
theorem xh (n:Nat) (p:W) (r:List W) (h:isNumber p=true∨isName p=true):factor n (p :: r)=if isNumber p then some (.num (sT p),r) else some (.box p,r):=by
 have key:∀ sub:P,Hg sub (p :: r)=if isNumber p then some (.num (sT p),r) else some (.box p,r):=fun sub=>by
   rw [FI]
   by_cases h1:isNumber p=true
   · rw [if_pos h1,if_pos h1]
   · rw [if_neg h1,if_neg h1,if_pos (h.resolve_left h1)]
 cases n with
 | zero=>exact key _
 | succ n=>exact key _
theorem RF.num {n:Nat} {p:W} (h:isNumber p=true):RF n (.num (sT p)) [p]:=fun rest=>by
 show factor n (p :: rest)=_
 rw [xh n p rest (.inl h),if_pos h]
theorem RF.box {n:Nat} {p:W} (h:isName p=true) (h':isNumber p=false):RF n (.box p) [p]:=fun rest=>by
 show factor n (p :: rest)=_
 rw [xh n p rest (.inr h),if_neg (by rw [h']; simp)]
noncomputable def NS:Tr→Bool
 | .bin o _ _=>decide (o=[43]) || decide (o=[45])
 | _=>false
noncomputable def isMul:Tr→Bool
 | .bin o _ _=>decide (o=[42])
 | _=>false
noncomputable def brL (o:W) (l:Tr) (m:Int):Bool:=(decide (o=[42]) && NS l) || decide (m % 5=1)
noncomputable def brR (o:W) (r:Tr) (m:Int):Bool:=(NS r || (decide (o=[42]) && isMul r)) || decide (m % 7=1)
noncomputable def dig (n:Nat):W:=(Nat.toDigits 10 n).map Char.toNat
noncomputable def put (b:Bool) (w:W):W:=if b then [40] ++ w ++ [41] else w
noncomputable def OS (b:Bool) (w:List W):List W:=if b then [40] :: w ++ [[41]] else w
noncomputable def toks:Tr→Int→List W
 | .num n,_=>[dig n.toNat]
 | .box x,_=>[x]
 | .bin o l r,m=>OS (brL o l m) (toks l (m / 2)) ++ o :: OS (brR o r m) (toks r (m / 3))
noncomputable def b2n (b:Bool):Nat:=if b then 1 else 0
noncomputable def dep:Tr→Int→Nat
 | .bin o l r,m=>max (b2n (brL o l m) + dep l (m / 2)) (b2n (brR o r m) + dep r (m / 3))
 | _,_=>0
noncomputable def IF:Tr→Prop
 | .num n=>0≤n∧n≤999
 | .box x=>isName x=true
 | .bin o l r=>(o=[43]∨o=[45]∨o=[42])∧IF l∧IF r
noncomputable def around:Nat→W→W
 | 0,w=>w
 | n + 1,w=>put true (around n w)
noncomputable def MT:Nat→List W→List W
 | 0,w=>w
 | n + 1,w=>OS true (MT n w)
end PM
namespace PM
noncomputable def mkB (s:W):List Tr→List Tr
 | r :: l :: N=>.bin s l r :: N
 | N=>N
noncomputable def red (c:W):List Tr→List W→List Tr × List W
 | N,[]=>(N,[])
 | N,s :: S=>if s≠[40]∧(c≠[42]∨s=[42]) then red c (mkB s N) S else (N,s :: S)
noncomputable def leafOf (p:W):Tr:=if isNumber p then .num (sT p) else .box p
noncomputable def OT (p:W) (st:List Tr × List W):List Tr × List W:=
 if p=[40] then (st.1,p :: st.2) else if fac p then (leafOf p :: st.1,st.2) else
   if p=[41] then ((red p st.1 st.2).1,(red p st.1 st.2).2.tail) else ((red p st.1 st.2).1,p :: (red p st.1 st.2).2)
noncomputable def sy (L:List W) (st:List Tr × List W):List Tr × List W:=L.foldl (fun st p=>OT p st) st
noncomputable def Bot (S:List W):Prop:=S=[]∨∃ r,S=[40] :: r
noncomputable def S3 (S:List W):Prop:=S=[]∨∃ s r,S=s :: r∧s≠[42]
end PM
namespace PM
end PM
namespace PM
noncomputable def strip:Nat→W→Nat × W
 | 0,w=>(0,w)
 | n + 1,w=>if w.head?=some 40∧w.getLast?=some 41 then ((strip n w.tail.dropLast).1 + 1,(strip n w.tail.dropLast).2) else (0,w)
noncomputable def leaf (p:W):Option Tr:=if isName p then some (.box p) else if isNumber p then some (.num (sT p)) else none
noncomputable def due (w:W):Option Tr:=if 5 < (strip 6 w).1 then none else leaf (strip 6 w).2
theorem shape {w:W} (h:w.head?=some 40∧w.getLast?=some 41):w=[40] ++ w.tail.dropLast ++ [41]:=by
 obtain ⟨h1,h2⟩:=h
 cases w with
 | nil=>cases h1
 | cons c r=>
   cases h1
   cases r with
   | nil=>simp at h2
   | cons d r=>
     have:(d :: r).getLast?=some 41:=by rw [List.getLast?_cons_cons] at h2; exact h2
     have e:=FK this
     show 40 :: (d :: r)=40 :: ((d :: r).dropLast ++ [41])
     rw [← e]
noncomputable def R1 (w:W):Prop:=∀ c∈w,c≠43∧c≠45∧c≠42
end PM
namespace L2
open PySem PySem.Spec PyProof.Rows
section
variable {P:Program} {w:World} {H H':Hp} {h h' B:Heap} {a:Addr} {o:HO}
theorem dU.there (x:dU P w H h a o):∃ ob,h.get? a=some ob:=by
 induction o with
 | lst xs=>obtain ⟨_,_,_,_,e⟩:=x; exact ⟨_,e⟩
 | tup xs=>obtain ⟨_,_,_,_,e,_⟩:=x; exact ⟨_,e⟩
 | dK kvs=>obtain ⟨_,_,_,_,o,_,_,e,_⟩:=x; exact ⟨_,e⟩
 | dT kvs=>obtain ⟨_,_,_,_,o,_,_,e,_⟩:=x; exact ⟨_,e⟩
 | set S n=>obtain ⟨o,_,_,_,e,_⟩:=x; exact ⟨_,e⟩
 | ins C dx fs=>obtain ⟨_,_,_,e,_⟩:=x; exact ⟨_,e⟩
 | own y=>exact x
 | xd fs=>obtain ⟨_,⟨_,_,_,e,_⟩,_⟩:=x; exact ⟨_,e⟩
 | rng lo hi=>obtain ⟨_,_,_,e⟩:=x; exact ⟨_,e⟩
 | frz ob u=>obtain ⟨e,_⟩:=x; exact ⟨_,e⟩
 | tbl ps=>exact ⟨_,(show h.get? a=some _ from x)⟩
 | met f y=>exact ⟨_,(show h.get? a=some _ from x)⟩
 | ext φ=>obtain ⟨_,e,_⟩:=x; exact e
end
section
variable {X:Cx} {pins:List (Addr × Obj)} {σ:St} {H H':Hp} {s s':Shared} {h':Heap} {E:XK} {x:Addr} {cls a0:Value} {B:Heap}
end
section
variable {P:Program} {w:World} {K:PySem.W.Frag} {mg:Str→Option Value} {base:Heap} {N:List Str} {qual:Str} {scope:Scope} {f:Addr} {cd:Value} {A:Around} {outer:List Env} {s₀:Shared} {H₀:Hp} {E:XK}
end
structure QH (K:PySem.W.Frag) (C:Addr):Prop where
 q:PySem.W.excIn K C [.type "ValueError",.type "Exception",.type "BaseException",.type "object"] "ValueError.__new__"=true
theorem QH.obj {K:PySem.W.Frag} {C:Addr} {h:Heap} (c:QH K C) (X:K.In h):∃ bm N nm q bs R3 sn sub ab col dd k0 k1 k2 k3 k5 mN,h.get? C=some (excClassObj nm q C N bs bm R3 sn sub ab col dd k0 k1 k2 k3 k5 "ValueError.__new__")∧h.Ns N mN∧mN "__init__"=none∧
   OwnTail h [.type "ValueError",.type "Exception",.type "BaseException",.type "object"] bm:=by
 have q:=c.q
 unfold PySem.W.excIn at q
 split at q
 · rename_i dd cd sl ho
   split at q
   · rename_i C' bm k0 k1 k2 k3 n k5 hm hs
     simp only [Bool.and_eq_true,beq_iff_eq,Bool.not_eq_true'] at q
     obtain ⟨⟨⟨⟨⟨rfl,rfl⟩,QI⟩,ht⟩,hok⟩,hni⟩:=q
     obtain ⟨nm,bs,mro,ns,qn,hd,sn,sub,ab,col,del⟩:=cd
     dsimp only at hm QI hok hni
     subst hm QI
     have hsl:sl = #[k0,k1,k2,k3,some (.builtin "ValueError.__new__"),k5]:=by
       obtain ⟨l⟩:=sl
       simp only at hs
       rw [hs]
     subst hsl
     exact ⟨bm,ns,nm,qn,bs,hd,sn,sub,ab,col,dd,k0,k1,k2,k3,k5,_,X _ _ ho,.of_isNs (PySem.W.isNs_of_in X hok),PySem.W.nsMap_none_of_in X hok hni,PySem.W.tail_of_in X ht⟩
   · cases q
 · cases q
section
variable {X:Cx} {C:Addr} {E:XK} {x:Str} {np yu pos:Pos} {e:Expr} {es:List Expr} {ta:TA}
end
section
variable {X:Cx} {pins:List (Addr × Obj)} {σ:St} {H:Hp} {s:Shared} {x:Addr}
theorem Inv.told {o:HO} (I:Inv X pins σ H s) (n:H x=none) (h0:X.s₀.heap.objs.size≤x) (hL:x≠X.env.locals) (hc:∀ y c,X.env.cells.lookup y=some c→c≠x) (hp:∀ p∈X.pn ++ pins,p.1≠x) (ok:dU X.prog X.w (upd H x o) s.heap x o):Inv X pins σ (upd H x o) s:=by
 have nx:∀ b u,X.s₀.heap.get? b=some u→b≠x:=fun b u e=>Nat.ne_of_lt (Nat.lt_of_lt_of_le (Heap.lt_size e) h0)
 refine ⟨I.ok,I.os,I.bare,⟨I.base.keep,I.base.slot,fun b u e n' hx=>?_,I.base.there,fun b xs e=>?_,fun b ob u e=>?_,fun b ps e=>?_⟩,I.loc,I.cell,?_,fun y c e=>?_,fun p hp'=>?_,fun b u e=>?_,I.len⟩
 · rw [az (nx b u e)]; exact I.base.free b u e n' hx
 · have:=I.base.BQ b xs e
   rw [az (ao this n)]; exact this
 · have:=I.base.Au b ob u e
   rw [az (ao this n)]; exact this
 · obtain ⟨m,e1⟩:=I.base.BR b ps e
   exact ⟨m,by rw [az (ao e1 n)]; exact e1⟩
 · rw [az (Ne.symm hL)]; exact I.free
 · rw [az (hc y c e)]; exact I.om y c e
 · obtain ⟨a,b,c⟩:=I.pin p hp'
   exact ⟨a,by rw [az (hp p hp')]; exact b,c⟩
 · by_cases hb:b=x
   · subst hb
     rw [ae] at e
     cases e
     exact ok
   · rw [az hb] at e
     exact (I.hok b u e).j8 (fun _ _ _ q=>q) (fun c q=>by rw [az (ao q n)]; exact q) fun c xs q=>by rw [az (ao q n)]; exact q
end
noncomputable abbrev Cx.pinned (X:Cx) (pins:List (Addr × Obj)) (xe:Value→Shared→Prop):Cx:={ X with pn:=X.pn ++ pins,xe:=xe }
section
variable {X:Cx} {pins DB:List (Addr × Obj)} {σ:St} {H:Hp} {s:Shared} {xe:Value→Shared→Prop}
end
section
variable {X:Cx} {k:Nat} {f CH:Addr} {fd:FuncData} {ps:List Str} {sp:Sp} {fx cx:Str} {p pos pos' np R4 JU:Pos} {e:Expr} {es:List Expr} {ta:TA} {ts:TS} {b0:Stmt} {QJ:List Stmt}
end
end L2
namespace L2
open PySem PySem.Spec PySem.Calls PyProof.Rows Builtin Builtin.ObjectAttr Builtin.Getset_descriptor
noncomputable def NT (x C:Addr) (h:Heap):Prop:=∃ o,h.get? x=some o∧o.cls=.ref C
theorem NT.type {x C:Addr} {h:Heap} {M:Model} (p:NT x C h):PySem.W.Looks M h (typeOf (.ref x)) (.ref C):=by
 obtain ⟨o,h1,h2⟩:=p
 exact h2 ▸ (PySem.W.Looks.ld h1).andThen .now
section
variable {prog:Program} {w:World} {A:Around} {E:Value→Shared→Prop} {s:Shared} {K:PySem.W.Frag} {x C:Addr}
end
noncomputable def Ends.drop (D:Ends) (i:Nat):Ends:={ nx:=fun σ H=>D.nx (σ.set i none) H,rt:=D.rt,bk:=fun σ H=>D.bk (σ.set i none) H,ct:=fun σ H=>D.ct (σ.set i none) H }
section
variable {X:Cx} {pins:List (Addr × Obj)} {σ:St} {H:Hp} {s:Shared} {x:Addr}
end
section
variable {X:Cx} {k i:Nat} {f CH:Addr} {fd:FuncData} {ps:List Str} {sp:Sp} {fx cx n:Str} {p pos pos' np R4 JU:Pos} {e:Expr} {es:List Expr} {ta:TA} {ts:TS} {b0:Stmt} {QJ:List Stmt}
end
end L2
namespace L2
open PySem PySem.Spec PyProof.Rows
noncomputable def Its (z:Str):It:=⟨fun i _=>i < z.cps.size,fun i H x H'=>H'=H∧∃ c,z.cps[i]?=some c∧x=.str ⟨#[c]⟩,fun i _=>z.cps.size≤i⟩
section
variable {P:Program} {w:World} {K:PySem.W.Frag} {tg:Expr}
end
section
variable {X:Cx} {tg:Expr}
noncomputable def QK (tl:TE):TI:=fun σ H R=>tl σ H fun x H1=>∃ z,x=.str z∧R (Its z) H1
end
noncomputable def S8 (z:Str) (lo hi:Option Int):Str:=⟨((z.cps.toList.drop (HT.sIx z.length 0 lo)).take (HT.sIx z.length z.length hi - HT.sIx z.length 0 lo)).toArray⟩
theorem Fx {n d:Nat} (hd:d≤n) (o:Option Int):HT.sIx n d o≤n:=by
 cases o with
 | none=>exact hd
 | some i=>
   show (if i < 0 then (i + n).toNat else min i.toNat n)≤n
   split <;> lia
section
variable {X:Cx}
noncomputable def S9 (z:Str) (n:Nat):Str:=⟨(List.replicate n z.cps).foldl (· ++ ·) #[]⟩
end
end L2
namespace L2
open PySem PySem.Spec PyProof.Rows
noncomputable abbrev W:=PM.W
noncomputable def S (w:W):Str:=⟨w.toArray⟩
noncomputable def sv (w:W):V:=.str (S w)
theorem oF {a b:W}:S a=S b↔a=b:=⟨fun h=>by have:=congrArg (fun z:Str=>z.cps.toList) h; simpa [S] using this,fun h=>by rw [h]⟩
noncomputable def dpT:PM.Tr→Dp
 | .num n=>.tup [.str "number",.int n]
 | .box x=>.tup [.str "box",.str (S x)]
 | .bin o l r=>.tup [.str (S o),dpT l,dpT r]
noncomputable def bD (p:Addr) (H H':Hp):Prop:=∀ b o,b≠p→H b=some o→H' b=some o
theorem bD.refl (p:Addr) (H:Hp):bD p H H:=fun _ _ _ h=>h
theorem bD.trans {p:Addr} {H H1 H2:Hp} (a:bD p H H1) (b:bD p H1 H2):bD p H H2:=fun c o n h=>b c o n (a c o n h)
theorem bD.of {p:Addr} {H H':Hp} (s:aw H H'):bD p H H':=fun b o _ h=>s b o h
theorem bD.put {p:Addr} {H H1:Hp} (a:bD p H H1) (o:HO):bD p H (upd H1 p o):=fun b u n h=>by rw [az n]; exact a b u n h
theorem bD.new {p q:Addr} {H H1:Hp} (a:bD p H H1) (h:H1 q=none) (o:HO):bD p H (upd H1 q o):=fun b u n e=>by rw [az (ao (a b u n e) h)]; exact a b u n e
theorem bD.same {p:Addr} {H H':Hp} (a:bD p H H') (h:H p=none):aw H H':=fun b o e=>a b o (ao e h) e
structure PcO (CP:Addr) (H:Hp) (p l dx:Addr) (ps:List W) (k:Nat):Prop where
 ins:H p=some (.ins CP dx [("pieces",.ref l),("place",.int k)])
 own:H dx=some (.own p)
 lst:H l=some (.lst (ps.map sv))
 le:k≤ps.length
 pos:∀ q∈ps,q≠[]
 len:∀ q∈ps,q.length≤60
 many:ps.length≤60
theorem PcO.nd {CP p l dx:Addr} {H:Hp} {ps:List W} {k:Nat} (o:PcO CP H p l dx ps k):dx≠p:=c7 o.own o.ins (by intro z; cases z)
theorem PcO.nl {CP p l dx:Addr} {H:Hp} {ps:List W} {k:Nat} (o:PcO CP H p l dx ps k):l≠p:=c7 o.lst o.ins (by intro z; cases z)
theorem PcO.at {CP p l dx:Addr} {H H':Hp} {ps:List W} {k j:Nat} (o:PcO CP H p l dx ps k) (u:bD p H H') (e:H' p=some (.ins CP dx [("pieces",.ref l),("place",.int j)])) (hj:j≤ps.length):PcO CP H' p l dx ps j:=
 ⟨e,u _ _ o.nd o.own,u _ _ o.nl o.lst,hj,o.pos,o.len,o.many⟩
section
variable (K:PySem.W.Frag) (CP CN:Addr)
end
section
variable {P:Program} {w:World} {K:PySem.W.Frag} {mg:Str→Option Value} {base:Heap}
end
end L2
namespace L2
open PySem PySem.Spec PyProof.Rows
mutual
noncomputable def Dp.py:Dp→PyData
 | .non=>.none
 | .bl b=>.bool b
 | .int i=>.int i
 | .str x=>.str x
 | .tup l=>.tuple (Dp.pys l)
 | .lst l=>.list (Dp.pys l)
noncomputable def Dp.pys:List Dp→List PyData
 | []=>[]
 | d :: r=>d.py :: Dp.pys r
end
section
variable {X:Cx} {pins:List (Addr × Obj)} {σ:St} {H:Hp} {s:Shared}
mutual
theorem yD (I:Inv X pins σ H s):∀ {d:Dp} {v:V} {u:Value},Rep X.K H d v→RelV v u→∃ as,Reads s.heap u d.py as
 | .non,v,u,h,r=>by rw [Rep.yc] at h; subst h; cases (show u=Value.none from r); exact ⟨_,.none⟩
 | .bl b,v,u,h,r=>by rw [Rep.yB] at h; subst h; cases (show u=Value.bool b from r); exact ⟨_,.bool b⟩
 | .int i,v,u,h,r=>by rw [Rep.bE] at h; subst h; obtain ⟨t,rfl⟩:=(show ∃ t,u=Value.int i t from r); exact ⟨_,.int i t⟩
 | .str x,v,u,h,r=>by rw [Rep.bF] at h; subst h; obtain ⟨t,rfl⟩:=(show ∃ t,u=Value.str x t from r); exact ⟨_,.str x t⟩
 | .tup l,v,u,h,r=>by
   rw [Rep.bj] at h
   obtain ⟨p,xs,rfl,q,w⟩:=h
   cases (show u=Value.ref p from r)
   obtain ⟨its,v1,t1,_⟩:=I.tuple q
   obtain ⟨as,ra⟩:=v7 I w v1
   obtain ⟨o,h1,h2,n,h3⟩:=t1
   unfold Dp.py
   exact ⟨as,.tuple h1 h2 h3 (by simpa using ra)⟩
 | .lst l,v,u,h,r=>by
   rw [Rep.bR] at h
   obtain ⟨p,xs,rfl,q,w⟩:=h
   cases (show u=Value.ref p from r)
   obtain ⟨its,v1,t1,_⟩:=I.list q
   obtain ⟨as,ra⟩:=v7 I w v1
   obtain ⟨o,h1,h2,n,h3⟩:=t1.isList
   unfold Dp.py
   exact ⟨_,.list h1 h2 h3 (by simpa using ra)⟩
theorem v7 (I:Inv X pins σ H s):∀ {ds:List Dp} {vs:List V} {us:List Value},aS X.K H ds vs→Vals vs us→∃ as,ReadsAll s.heap us (Dp.pys ds) as
 | [],_,_,h,r=>by rw [aS.bw] at h; subst h; cases r; unfold Dp.pys; exact ⟨_,.nil⟩
 | d :: ds,_,_,h,r=>by
   rw [aS.aM] at h
   obtain ⟨v,vs,rfl,x,y⟩:=h
   cases r with
   | cons r1 r2=>
     obtain ⟨a,ra⟩:=yD I x r1
     obtain ⟨b,rb⟩:=v7 I y r2
     unfold Dp.pys
     exact ⟨_,.cons ra rb⟩
end
end
section
variable {X:Cx}
noncomputable def R5 (K:PySem.W.Frag) (neg:Bool):R2:=fun x y H Q=>∃ d e,Rep K H d x∧Rep K H e y∧SeqAt.shaped d.py=true∧SeqAt.shaped e.py=true∧Q (.bl (if neg then !PyData.eqv d.py e.py else PyData.eqv d.py e.py)) H
theorem v8 (hu:X.A.units + 64 < cLine):OpR X (compareOp .NotEq) (R5 X.K true):=by
 intro pins s σ H x y v u Q I rx ry h
 obtain ⟨d,e,h1,h2,s1,s2,q⟩:=h
 obtain ⟨as,ra⟩:=yD I h1 rx
 obtain ⟨bs,rb⟩:=yD I h2 ry
 exact ne_dataH ra rb s1 s2 hu ⟨.bl (!PyData.eqv d.py e.py),H,I,rfl,q⟩
end
mutual
theorem eqv_refl:∀ d:Dp,PyData.eqv d.py d.py=true
 | .non=>rfl
 | .bl b=>by simp [Dp.py,PyData.eqv]
 | .int i=>by simp [Dp.py,PyData.eqv]
 | .str x=>by simp [Dp.py,PyData.eqv]
 | .tup l=>by simp only [Dp.py,PyData.eqv]; exact v9 l
 | .lst l=>by simp only [Dp.py,PyData.eqv]; exact v9 l
theorem v9:∀ l:List Dp,PyData.eqvAll (Dp.pys l) (Dp.pys l)=true
 | []=>rfl
 | d :: r=>by simp only [Dp.pys,PyData.eqvAll,eqv_refl d,v9 r,Bool.and_true]
end
theorem ax {t u:TS} {D:Ends} {σ:St} {H:Hp} (h:∀ U:St→Hp→Prop,(∀ σ' H',U σ' H'↔u D σ' H')→t { D with nx:=U } σ H):Mz t u D σ H:=h (u D) fun _ _=>Iff.rfl
theorem IG {A:Around} {k:Nat} (hr:gW k A):A.units + 64 < cLine:=hr.units
end L2
namespace L2
open PySem
section
variable (K:PySem.W.Frag)
end
end L2
namespace L2
open PySem
section
variable (K:PySem.W.Frag)
end
end L2
namespace L2
open PySem
theorem KP {X:Cx}:ny X (.builtin "isinstance") (fun xs H Q=>∃ a T l b,xs=[.ref a,.ty T]∧SqT X.K H a l∧PySem.W.kitOne X.K (.type "tuple") (.type T)=some b∧Q (.bl b) H):=by
 intro pins s σ H xs us Q I r h
 obtain ⟨a,T,l,b,rfl,hS,e,q⟩:=h
 cases r with
 | cons r1 r2=>
   cases r2 with
   | cons r3 r4=>
     cases r4
     cases (show _=Value.ref a from r1)
     cases (show _=Value.type T from r3)
     obtain ⟨its,_,⟨o,h1,h2,_⟩,_⟩:=I.tuple hS
     exact PySem.W.kia_one PySem.W.kitx_tuple I.kIn ⟨o,h1,h2⟩ e (fun z=>nomatch z) fun tk=>⟨.bl b,H,I.tok tk,rfl,q⟩
end L2
namespace L2
open PySem
theorem kZ {ta:TA} {g:TG} {tb:TS} {D:Ends} {σ:St} {H:Hp} (h:∀ U:Int→Hp→Prop,(∀ j H1,(∃ W:Nat→Nat→St→Hp→Prop,(∃ m,W 0 m σ H1)∧∀ i m σ H,W i m σ H→
   ((Itr 0 j.toNat).stop i H∧D.nx σ H)∨((Itr 0 j.toNat).go i H∧∃ N:St→Hp→Prop,(∀ σ' H',N σ' H'→∃ m',m' < m∧W (i + 1) m' σ' H')∧∀ x H',(Itr 0 j.toNat).yld i H x H'→g x σ H' fun σ2 H2=>tb { D with nx:=N,ct:=N,bk:=D.nx } σ2 H2))→U j H1)→
   ta σ H fun vs H1=>∃ j:Int,vs=[.int j]∧-(2 ^ 62)≤j∧j < 2 ^ 62∧U j H1):MA (GU ta) g tb D σ H:=h _ fun _ _ x=>x
end L2
namespace L2
open PySem
noncomputable def Hi (K:PySem.W.Frag):Sp:=fun vs H Q _=>∃ (a:Addr) (ns:List Int),vs=[.ref a]∧SqL K H a (ns.map .int)∧ns.length≤63∧∀ H',Q (.bl true) H'
theorem QL (ns:List Int) (h:ns.length≤63):gQ (ns.map V.int) none (some 63)=ns.map V.int:=by
 unfold gQ
 rw [HT.kX,show (63:Int)=((63:Nat):Int) from rfl,HT.lS,List.length_map,List.drop_zero,Nat.sub_zero]
 exact List.take_of_length_le (by rw [List.length_map]; lia)
end L2
namespace L2
open PySem PySem.Spec PyProof.Rows
section
variable {X:Cx} {pins:List (Addr × Obj)} {σ:St} {H:Hp} {s:Shared} {h':Heap}
theorem Inv.Bh {t':Nat} {fp:List Addr} (I:Inv X pins σ H s) (k:∀ b o,b ∉ fp→s.heap.get? b=some o→h'.get? b=some o) (hf:∀ b∈fp,tY X pins H b):Inv X pins σ H { s with heap:=h',toks:=t' }:=by
 have nit:∀ b u,H b=some u→b ∉ fp:=fun b u e z=>by rw [(hf b z).1] at e; cases e
 refine I.step (g':=s.gens) (d':=s.drawn) (ch:=fp) (fun b hb=>?_) (fun b o _ _ hc e _=>k b o hc e) (fun b o _ _ hc e _=>⟨o.slots,k b o hc e⟩) (fun _ _ _ _ n=>n)
   (fun b o hc e=>⟨o,k b o hc e⟩) (fun _ _ e=>e) (fun _ _ _ e=>e) (fun b ps e=>⟨#[],by rw [e]; simp⟩) (fun m hm=>?_) (fun b u e=>?_) I.bare
 · obtain ⟨_,f1,_,f3,f4,f5⟩:=hf b hb
   exact ⟨f3,f1,f4,f5⟩
 · obtain ⟨o,es,ep,ho,r⟩:=hm
   exact ⟨o,es,ep,k _ o (fun z=>(hf _ z).2.1 rfl) ho,r⟩
 · refine (I.hok b u e).j8 (fun c v hc q=>k c v ?_ q) (fun _ q=>q) fun _ _ q=>q
   rcases hc with z | z
   · rw [z]; exact nit b u e
   · exact nit c _ z
end
noncomputable def Ite (K:PySem.W.Frag) (a:Addr):It:=
 ⟨fun i H=>∃ xs x,SqL K H a xs∧xs[i]?=some x,fun i H x H'=>∃ p y,x=.ref p∧H p=none∧H'=upd H p (.tup [.int i,y])∧∀ xs,SqL K H a xs→xs[i]?=some y,fun i H=>∃ xs,SqL K H a xs∧xs.length≤i⟩
theorem IH {P:Program} {w:World} {K:PySem.W.Frag} {elts:List Expr} {x1} {pos:Pos} (a e it:Addr) (hne:e≠it) :
   Turn P w K (.Tuple elts x1 pos) (Ite K a) [e,it] e (fun i h=>(∃ old,IsEnum h e it i old)∧h.IsListIter it a i) where
 mem:=by simp
 obj:=fun i h st b hb=>by
   obtain ⟨⟨old,he⟩,o,eo,c,d⟩:=st
   rcases List.mem_cons.mp hb with rfl | hb
   · exact ⟨_,he,fun v z=>by cases (show Data.fields _=Data.cell v from z)⟩
   · have z:b=it:=by simpa using hb
     subst z
     exact ⟨o,eo,fun v z=>by rw [d] at z; cases z⟩
 keep:=fun i h h' st k=>⟨st.1.elim fun old he=>⟨old,k e (by simp) _ he⟩,st.2.at fun o x=>k it (by simp) o x⟩
 item:=by
   intro X hP hw hK hc i pins s σ H E I hf st hg
   subst hP hw hK
   obtain ⟨xs,x,hq,hx⟩:=hg
   obtain ⟨⟨old,he⟩,hit⟩:=st
   obtain ⟨its,rv,p,hz⟩:=I.list hq
   obtain ⟨u,hu,ru⟩:=rv.get hx
   refine wpAny_pyNext_enum_item he hit p.isList (x:=u) (by simpa using hu) hne fun h' ho OU hT hsz hk=>?_
   refine ⟨_,rfl,?_⟩
   refine wpAny_letOwnedTupleGo_enum ho fun h2 he2 sb=>?_
   have QM:e < s.heap.objs.size:=Heap.lt_size he
   have QN:it < s.heap.objs.size:=by obtain ⟨_,x,_⟩:=hit; exact Heap.lt_size x
   have I1:Inv X pins σ H { s with heap:=h2,toks:=s.toks + 1 }:=I.Bh (t':=s.toks + 1) (fun b o hb q=>(sb.2 b fun z=>hb (by simp [z])).trans (hk b o (fun z=>hb (by simp [z])) (fun z=>hb (by simp [z])) q)) hf
   have fr:H s.heap.objs.size=none:=I.hok.fresh (Nat.le_refl _)
   obtain ⟨g0,g1,g2,g3,g4,g5⟩:=I.JK (Nat.le_refl _) fr
   have R6:h2.get? s.heap.objs.size=some { cls:=.type "tuple",data:=.seq #[.int i s.toks,u] }:=(sb.2 _ (Nat.ne_of_gt QM)).trans hT
   have I2:=I1.told (o:=.tup [.int i,x]) fr I.sz g1 g4 g5 ⟨(show (2:Nat)≤sizeLine by decide),[.int i s.toks,u],.cons ⟨_,rfl⟩ (.cons ru .nil),⟨_,R6,rfl,_,rfl⟩⟩
   refine ⟨.ref s.heap.objs.size,_,I2,rfl,⟨_,x,rfl,fr,rfl,fun ys hy=>by rw [I.DE hy hq]; exact hx⟩,⟨⟨_,by exact_mod_cast he2⟩,OU.at fun o q=>(sb.2 it (Ne.symm hne)).trans q⟩,fun b hb=>?_⟩
   rw [az ?_]
   · exact (hf b hb).1
   · rcases List.mem_cons.mp hb with rfl | hb
     · exact Nat.ne_of_lt QM
     · have z:b=it:=by simpa using hb
       subst z
       exact Nat.ne_of_lt QN
 done:=by
   intro X hP hw hK hc i pins s σ H E I hf st hg
   subst hP hw hK
   obtain ⟨xs,hq,hx⟩:=hg
   obtain ⟨⟨old,he⟩,hit⟩:=st
   obtain ⟨its,rv,p,hz⟩:=I.list hq
   have hl:=rv.length
   exact wpAny_pyNext_enum_end (I.ok.hd hc) he hit p.isList (by simp; lia) fun h' eb=>⟨rfl,I.Bh (t':=s.toks) (fun b o hb q=>eb b o (fun z=>hb (by simp [z])) q) hf⟩
 self:=fun _ _ _ _ _ st h=>st.1.elim fun _ he=>wpAny_pyIter_enum he h
noncomputable def QO (K:PySem.W.Frag) (ta:TA):TI:=fun σ H R=>ta σ H fun vs H1=>∃ a,vs=[.ref a]∧(∃ xs,SqL K H1 a xs)∧R (Ite K a) H1
theorem MU {X:Cx} {elts:List Expr} {x1} {tp:Pos} {a:Expr} {ta:TA} {p pos:Pos} (hg:Gl X "enumerate") (hm:X.mg "enumerate"=none) (ha:PA X [a] ta) (hs:starEach [a] X.env=[(false,eval a X.env)]:=by rfl) :
   PI X (.Tuple elts x1 tp) (.Call (.Name "enumerate" p) [a] [] pos) (QO X.K ta):=by
 intro pins s σ H R I h
 refine Call_ (sR I hg hm PyProof.Rows.Boot.«enumerate» (PyProof.Rows.callWith_type1 (thn (ha pos pins s σ H _ I h) fun us s1 ⟨vs,H1,I1,r1,q1⟩=>?_) hs rfl))
 obtain ⟨l,e,⟨xs,hq⟩,q⟩:=q1
 subst e
 cases r1 with
 | cons r rr=>
   cases rr
   cases (show _=Value.ref l from r)
   obtain ⟨its,rv,p,hz⟩:=I1.list hq
   refine call_enumerate_list p.isList fun h' he hit hsz hk=>?_
   refine wpAny_pyIter_enum he ?_
   have fr:∀ b,s1.heap.objs.size≤b→H1 b=none:=fun b hb=>I1.hok.fresh hb
   refine ⟨s1.heap.objs.size + 1,[s1.heap.objs.size + 1,s1.heap.objs.size],_,_,H1,rfl,I1.kept (t':=s1.toks) hk,IH l _ _ (Nat.succ_ne_self _),⟨⟨_,he⟩,hit⟩,fun b hb=>?_,q⟩
   have hb':s1.heap.objs.size≤b:=by
     rcases List.mem_cons.mp hb with rfl | hb
     · exact Nat.le_succ _
     · have z:b=s1.heap.objs.size:=by simpa using hb
       rw [z]; exact Nat.le_refl _
   exact I1.JK hb' (fr b hb')
theorem KQ {K:PySem.W.Frag} {a:Addr} {xs:List V} {g:TG} {tb:TS} {D:Ends} {σ:St} {H:Hp} (Pv:Nat→St→Hp→Prop) (h0:Pv 0 σ H) (hl:∀ i σ H,i≤xs.length→Pv i σ H→SqL K H a xs)
   (hs:∀ i x σ H p,xs[i]?=some x→Pv i σ H→H p=none→g (.ref p) σ (upd H p (.tup [.int i,x])) fun σ2 H2=>tb { D with nx:=Pv (i + 1),ct:=Pv (i + 1),bk:=D.nx } σ2 H2) (hd:∀ σ H,Pv xs.length σ H→D.nx σ H) :
   ∃ W:Nat→Nat→St→Hp→Prop,(∃ m,W 0 m σ H)∧∀ i m σ H,W i m σ H→
     ((Ite K a).stop i H∧D.nx σ H)∨((Ite K a).go i H∧∃ N:St→Hp→Prop,(∀ σ' H',N σ' H'→∃ m',m' < m∧W (i + 1) m' σ' H')∧∀ x H',(Ite K a).yld i H x H'→g x σ H' fun σ2 H2=>tb { D with nx:=N,ct:=N,bk:=D.nx } σ2 H2):=by
 refine ⟨fun i m σ H=>m=xs.length - i∧i≤xs.length∧Pv i σ H,⟨xs.length,by simp,Nat.zero_le _,h0⟩,?_⟩
 rintro i m σ H ⟨rfl,hi,p⟩
 have q:=hl i σ H hi p
 by_cases hlt:i < xs.length
 · refine .inr ⟨⟨xs,xs[i],q,by simp [hlt]⟩,Pv (i + 1),fun σ' H' p'=>⟨xs.length - (i + 1),by lia,rfl,hlt,p'⟩,fun x H' y=>?_⟩
   obtain ⟨pp,v,rfl,hn,rfl,y⟩:=y
   exact hs i v σ H pp (y xs q) p hn
 · have e:i=xs.length:=by lia
   subst e
   exact .inl ⟨⟨xs,q,Nat.le_refl _⟩,hd σ H p⟩
end L2
namespace L2
open PySem
theorem DV {X:Cx}:ny X (.type "int") (fun xs H Q=>∃ b:Bool,xs=[.bl b]∧Q (.int (if b then 1 else 0)) H):=by
 intro pins s σ H xs us Q I r h
 obtain ⟨b,rfl,q⟩:=h
 obtain ⟨u,rfl,ru⟩:=vals1 r
 cases (show u=Value.bool b from ru)
 exact PySem.call_int_bool ⟨.int (if b then 1 else 0),H,I.tok _,⟨_,rfl⟩,q⟩
end L2
namespace L2
open PySem PySem.Spec PyProof.Rows
section
variable {prog:Program} {w:World} {A:Around} {E:Value→Shared→Prop} {s:Shared}
theorem DW {it l:Addr} {its:Array Value} (hne:l≠it):∀ (n i:Nat) (s:Shared) (Q:List Value→Shared→Prop),s.heap.IsListIter it l i→s.heap.IsList l its→i + n≤its.size→
   (∀ h',h'.IsListIter it l (i + n)→Heap.SameBut it s.heap h'→Q ((its.toList.drop i).take n) { s with heap:=h' })→wpAny (model prog w) A (draw (.ref it) n) Q E s
 | 0,i,s,Q,a,_,_,q=>by
   show wpAny _ _ (pure []) Q E s
   exact wpAny_pure (by simpa using q s.heap a (Heap.SameBut.refl ..))
 | n + 1,i,s,Q,a,b,le,q=>by
   have lt:i < its.size:=by lia
   show wpAny _ _ (pyNext (.ref it) >>= _) Q E s
   refine wpAny_bind (wpAny_pyNext_list_item a b (x:=its[i]) (by simp [lt]) fun h1 a1 s1=>?_)
   have b1:h1.IsList l its:=by
     obtain ⟨o,ho,r⟩:=b
     exact ⟨o,(s1.2 l hne).trans ho,r⟩
   refine wpAny_bind (wpAny_holding (DW hne n (i + 1) _ _ a1 b1 (by lia) fun h2 a2 s2=>wpAny_pure ?_))
   have e:its.toList.drop i=its[i] :: its.toList.drop (i + 1):=by simp [List.drop_eq_getElem_cons,lt]
   have z:=q h2 (by rw [show i + (n + 1)=i + 1 + n by lia]; exact a2) (s1.trans s2)
   rw [e,List.take_succ_cons] at z
   exact z
theorem FN {l:Addr} {its:Array Value} {ts:List (Bool × (Value→Sem Unit))} {Q:Unit→Shared→Prop} (hh:A.handled=none) (b:s.heap.IsList l its) (hn:ts.length=its.size) (hst:ts.findIdx? (·.1)=none)
   (h:∀ h',Heap.ExtBut s.heap.objs.size s.heap h'→wpAny (model prog w) A (assignInOrder (ts.map (·.2)) its.toList) Q E { s with heap:=h' }):wpAny (model prog w) A (unpack (.ref l) ts) Q E s:=by
 have lt:l≠s.heap.objs.size:=by obtain ⟨o,ho,_⟩:=b; exact Nat.ne_of_lt (Heap.lt_size ho)
 unfold unpack
 rw [hn,hst]
 refine wpAny_bind (wpAny_holding ?_)
 unfold unpackItems
 refine wpAny_bind ?_
 unfold notIterableAtAll
 refine wpAny_bind (wpAny_specialOf b.typeIs slot_list_iter.lookup ?_)
 refine wpAny_pure ?_
 simp only [Bool.false_eq_true,if_false]
 refine wpAny_bind (wpAny_holding (wpAny_pyIter_list b ?_))
 have j8:∀ {h1 h2:Heap},Heap.ExtBut s.heap.objs.size h1 h2→h1.IsList l its→h2.IsList l its:=fun {h1 h2} e x=>by
   obtain ⟨o,ho,r⟩:=x
   exact ⟨o,e l o lt ho,r⟩
 have b0:(s.heap.push { cls:=.type "list_iterator",data:=.fields #[.ref l,.int 0 0] }).IsList l its:=by
   obtain ⟨o,ho,r⟩:=b
   exact ⟨o,Heap.get?_push_of_some _ ho,r⟩
 refine wpAny_bind (wpAny_holding (DW lt its.size 0 _ _ ⟨_,Heap.get?_push_size _ rfl,rfl,rfl⟩ b0 (by lia) fun h1 a1 s1=>?_))
 have all:List.take its.size (List.drop 0 its.toList)=its.toList:=by
   rw [List.drop_zero]; exact List.take_of_length_le (by simp)
 rw [all,if_neg (by simp)]
 have b1:h1.IsList l its:=j8 s1.extBut b0
 refine wpAny_bind (wpAny_holding (wpAny_pyNext_list_end hh a1 b1 (by simp) fun h2 e2=>?_))
 simp only [Option.isSome_none,Bool.false_eq_true,if_false]
 exact wpAny_pure (h h2 fun c o hc e=>e2 c o hc (s1.extBut c o hc (Heap.get?_push_of_some _ e)))
end
noncomputable def OV (K:PySem.W.Frag) (n:Nat) (t:TGs):TG:=fun v σ H Q=>∃ a xs,v=.ref a∧SqL K H a xs∧xs.length=n∧t xs σ H Q
theorem Ca {X:Cx} {es:List Expr} {k} {pos:Pos} {t:TGs} {n:Nat} (hc:X.calm=true) (h:PGs X es t)
   (hn:(assignEach es X.env).length=n:=by rfl) (hst:(assignEach es X.env).findIdx? (·.1)=none:=by rfl):PG X (.Tuple es k pos) (OV X.K n t):=by
 intro pins s σ H v u Q I r hw
 obtain ⟨a,xs,rfl,hq,hl,hw⟩:=hw
 cases r
 obtain ⟨its,rv,hp,_⟩:=I.list hq
 rw [assign_Tuple]
 refine wpAny_bind (wpAny_standAt (FN (I.ok.hd hc) hp.isList (by simp [hn,← hl,rv.length]) hst fun h' hx=>?_))
 have I1:Inv X pins σ H { s with heap:=h' }:=I.kept (t':=s.toks) fun b o e=>hx b o (Nat.ne_of_lt (Heap.lt_size e)) e
 exact h pins _ σ H xs _ Q I1 (by simpa using rv) hw
end L2
namespace PM
end PM
namespace L2
open PySem
section
variable (K:PySem.W.Frag)
end
end L2
namespace L2
open PySem PySem.SeqAt
theorem qD {X:Cx} (hu:X.A.units + 1 < cLine):OpR X (compareOp .NotEq) (fun x y H Q=>∃ a b xs,x=.ref a∧y=.ref b∧SqL X.K H a xs∧SqL X.K H b []∧Q (.bl (!xs.isEmpty)) H):=by
 intro pins s σ H x y v u Q I rx ry h
 obtain ⟨a,b,xs,rfl,rfl,h1,h2,q⟩:=h
 cases (show v=Value.ref a from rx)
 cases (show u=Value.ref b from ry)
 obtain ⟨its,v1,p1,_⟩:=I.list h1
 obtain ⟨its',v2,p2,_⟩:=I.list h2
 cases v2
 cases xs with
 | nil=>
   cases v1
   exact (RcNeAt.lists (e:=fun _=>true) p1.isList p2.isList rfl (by lia) (fun j h1=>absurd h1 (by simp))) _ _ _ _ ⟨.bl false,H,I,rfl,q⟩
 | cons z zs=>
   cases v1
   exact (RcNeAt.lists_lengths p1.isList p2.isList (by simp) (by lia)) _ _ _ _ ⟨.bl true,H,I,rfl,q⟩
end L2
namespace PM
end PM
namespace L2
open PySem
end L2
namespace L2
open PySem
end L2
namespace L2
open PySem
end L2
namespace L2
open PySem
noncomputable def cu (val:W→Int):PM.Tr→Int
 | .num n=>n
 | .box x=>val x
 | .bin o l r=>if o=[43] then cu val l + cu val r else if o=[45] then cu val l - cu val r else cu val l * cu val r
noncomputable def names3:List W:=[[97],[98,98],[99]]
structure V3 (kvs:List (Key × V)) (val:W→Int):Prop where
 yes:∀ x∈names3,dR kvs (Sum.inr (S x))=some (.int (val x))
 no:∀ x,x ∉ names3→dR kvs (Sum.inr (S x))=none
 small:∀ x,(val x).natAbs≤2 ^ 60
section
variable (K:PySem.W.Frag)
end
end L2
namespace L2
open PySem PySem.Spec PyProof.Rows
end L2
namespace L2
open PySem
end L2
namespace L2
open PySem
theorem k8 {K:PySem.W.Frag} {tl:TE} {g:TG} {tb:TS} {D:Ends} {σ:St} {H:Hp} (h:∀ U:Addr→Hp→Prop,(∀ a H1,(∃ W:Nat→Nat→St→Hp→Prop,(∃ m,W 0 m σ H1)∧∀ i m σ H,W i m σ H→
   ((Itl K a).stop i H∧D.nx σ H)∨((Itl K a).go i H∧∃ N:St→Hp→Prop,(∀ σ' H',N σ' H'→∃ m',m' < m∧W (i + 1) m' σ' H')∧∀ x H',(Itl K a).yld i H x H'→g x σ H' fun σ2 H2=>tb { D with nx:=N,ct:=N,bk:=D.nx } σ2 H2))→U a H1)→
   tl σ H fun x H1=>∃ a,x=.ref a∧(∃ xs,SqL K H1 a xs)∧U a H1):MA (GS K tl) g tb D σ H:=h _ fun _ _ x=>x
end L2
namespace PM
end PM
namespace L2
open PySem
end L2
namespace L2
open PySem
noncomputable def Tok (p:W):Prop:=p=[40]∨p=[41]∨p∈PM.FJ∨(PM.fac p=true∧(PM.isName p=true→p∈names3))
end L2
namespace L2
open PySem
theorem Hj {a:Option V} {r:St} {H:Hp} {Q:VK}:(gD 10 (a :: r) H Q)=(gD 9 r H Q):=rfl
theorem Hk {a:Option V} {r:St} {H:Hp} {Q:VK}:(gD 11 (a :: r) H Q)=(gD 10 r H Q):=rfl
theorem Hl {a:Option V} {r:St} {H:Hp} {Q:VK}:(gD 12 (a :: r) H Q)=(gD 11 r H Q):=rfl
noncomputable def NoS (z:Str):Prop:=PM.R1 z.cps.toList
section
variable (K:PySem.W.Frag)
end
end L2
namespace L2
open PySem PySem.SeqAt
theorem Bi {X:Cx} (hu:X.A.units + 1 < cLine):OpR X (compareOp .Eq) (fun x y H Q=>∃ a b xs,x=.ref a∧y=.ref b∧SqL X.K H a xs∧SqL X.K H b []∧Q (.bl xs.isEmpty) H):=by
 intro pins s σ H x y v u Q I rx ry h
 obtain ⟨a,b,xs,rfl,rfl,h1,h2,q⟩:=h
 cases (show v=Value.ref a from rx)
 cases (show u=Value.ref b from ry)
 obtain ⟨its,v1,p1,_⟩:=I.list h1
 obtain ⟨its',v2,p2,_⟩:=I.list h2
 cases v2
 cases xs with
 | nil=>
   cases v1
   exact (RcAt.lists (e:=fun _=>true) p1.isList p2.isList rfl (by lia) (fun j h1=>absurd h1 (by simp))) _ _ _ _ ⟨.bl true,H,I,rfl,q⟩
 | cons z zs=>
   cases v1
   exact (RcAt.lists_lengths p1.isList p2.isList (by simp) (by lia)) _ _ _ _ ⟨.bl false,H,I,rfl,q⟩
end L2
namespace L2
open PySem
end L2
namespace L2
open PySem
end L2
namespace PG
open PM (W Tr)
structure Box where
 name:W
 size:Int
 first:Int
inductive Stm where
 | ask (k:Int) (b:W)
 | put (k:Int) (b:W) (e:Tr)
 | say (k:Int) (e:Tr)
 | cL (k:Int) (sg:W) (l r:Tr)
 | stop (k:Int)
 | ifs (k:Int) (sg:W) (l r:Tr) (a b:List Stm)
 | whl (k:Int) (sg:W) (l r:Tr) (a:List Stm)
noncomputable def Stm.row:Stm→Int
 | .ask k _=>k | .put k _ _=>k | .say k _=>k | .cL k _ _ _=>k | .stop k=>k | .ifs k _ _ _ _ _=>k | .whl k _ _ _ _=>k
inductive Wd where
 | ask | put | say | cL | stop | ifs | whl | els | fin
 deriving DecidableEq
noncomputable def Stm.wd:Stm→Wd
 | .ask _ _=>.ask | .put _ _ _=>.put | .say _ _=>.say | .cL _ _ _ _=>.cL | .stop _=>.stop | .ifs _ _ _ _ _ _=>.ifs | .whl _ _ _ _ _=>.whl
noncomputable def DX:Nat→Int→Int
 | 0,c=>c
 | n + 1,c=>DX n (c / 1000003)
noncomputable def next (sc:List Int) (p:Nat):Int:=
 let many:=max 1 sc.length
 let cell:=if sc=[] then 0 else sc.getD (p % many) 0
 if cell ≥ 10 ^ 18 then DX (min 60 (p / many)) cell % 1000003 else
   let a:=(cell % 2147483629 + 51437 * ((p:Int) + 1) * ((p:Int) + 3) + 1409) % 2147483629
   let b:=a * a % 2147483587
   let c:=(b * 69621 + 401 * (p:Int) + 7) % 2147483579
   c * c % 2147483563 / 16
noncomputable def pick {α:Type} (d:α) (l:List α) (n:Int):α:=l.getD n.toNat d
noncomputable def cA (sc:List Int) (bs:List Box):Nat→Nat→Tr × Nat
 | 0,p=>
   let kind:=next sc p % 7
   if bs≠[]∧kind < 5 then (.box (pick ⟨[],0,0⟩ bs (next sc (p + 1) % bs.length)).name,p + 2) else (.num (next sc (p + 1) % pick 1 [3,12,1000] (next sc (p + 2) % 3)),p + 3)
 | d + 1,p=>
   let kind:=next sc p % 7
   if kind < 3 then
     let one:=cA sc bs d (p + 1)
     let two:=cA sc bs d one.2
     (.bin (pick [] [[43],[45],[42]] kind) one.1 two.1,two.2)
   else if bs≠[]∧kind < 5 then (.box (pick ⟨[],0,0⟩ bs (next sc (p + 1) % bs.length)).name,p + 2) else (.num (next sc (p + 1) % pick 1 [3,12,1000] (next sc (p + 2) % 3)),p + 3)
noncomputable def cT:List W:=[[99],[98,98],[97,97,97],[98,111,120,101,115]]
noncomputable def bP (sc:List Int) (og:Int):Nat→Nat→Nat→List Box × Nat
 | 0,_,p=>([],p)
 | n + 1,k,p=>
   let size:=2 + next sc p % pick 1 [3,9] (next sc (p + 1) % 2)
   let r:=bP sc og n (k + 1) (p + 3)
   (⟨pick [] cT (((k:Int) - og) % 4),size,next sc (p + 2) % size⟩ :: r.1,r.2)
noncomputable def sgs:List W:=[[60],[61]]
noncomputable def bT (sc:List Int) (bs:List Box) (k:Int) (p:Nat):Stm × Nat:=
 let kind:=next sc p % 10
 if bs≠[]∧kind < 3 then (.ask k (pick ⟨[],0,0⟩ bs (next sc (p + 1) % bs.length)).name,p + 2)
 else if bs≠[]∧kind < 6 then
   let e:=cA sc bs 2 (p + 2)
   (.put k (pick ⟨[],0,0⟩ bs (next sc (p + 1) % bs.length)).name e.1,e.2)
 else if kind=6 then
   let l:=cA sc bs 1 (p + 2)
   let r:=cA sc bs 1 l.2
   (.cL k (pick [] sgs (next sc (p + 1) % 2)) l.1 r.1,r.2)
 else if kind=7 then
   if next sc (p + 1) % 3=0 then (.stop k,p + 2) else
     let e:=cA sc bs 2 (p + 2)
     (.say k e.1,e.2)
 else
   let e:=cA sc bs 2 (p + 1)
   (.say k e.1,e.2)
structure Frame where
 kind:Nat
 body:List Stm
 k:Int:=0
 sg:W:=[]
 l:Tr:=.num 0
 r:Tr:=.num 0
 first:List Stm:=[]
noncomputable def Frame.told (f:Frame):Stm:=if f.kind=1 then .ifs f.k f.sg f.l f.r f.body [] else if f.kind=2 then .ifs f.k f.sg f.l f.r f.first f.body else .whl f.k f.sg f.l f.r f.body
noncomputable def close:List Frame→List Frame
 | f :: g :: r=>{ g with body:=g.body ++ [f.told] } :: r
 | fs=>fs
noncomputable abbrev Row:=Int × Wd
noncomputable def number (n:Nat) (rows:List Row) (mode:Int):Int:=
 if mode=2 then n + 1 + 20 * rows.length else if mode=3 then n + 1 + (rows.filter fun r=>r.2≠.els∧r.2≠.fin).length else n + 1 + rows.length
structure Walk where
 p:Nat
 a7:List Frame
 rows:List Row
noncomputable def turn (sc:List Int) (bs:List Box) (mode:Int) (w:Walk):Walk:=
 let k:=number bs.length w.rows mode
 let way:=next sc w.p % 12
 if way < 2∧w.a7.length > 1 then ⟨w.p + 1,close w.a7,w.rows ++ [(k,.fin)]⟩
 else match w.a7 with
 | []=>w
 | f :: r=>
   if way=2∧f.kind=1 then ⟨w.p + 1,{ f with kind:=2,body:=[],first:=f.body } :: r,w.rows ++ [(k,.els)]⟩
   else if way < 6∧w.a7.length < 4 then
     let l:=cA sc bs 1 (w.p + 2)
     let e:=cA sc bs 1 l.2
     let kd:=pick 1 [1,1,3] (way % 3)
     ⟨e.2,{ kind:=kd,body:=[],k:=k,sg:=pick [] sgs (next sc (w.p + 1) % 2),l:=l.1,r:=e.1 } :: w.a7,w.rows ++ [(k,if kd=3 then .whl else .ifs)]⟩
   else
     let s:=bT sc bs k (w.p + 1)
     ⟨s.2,{ f with body:=f.body ++ [s.1] } :: r,w.rows ++ [(k,s.1.wd)]⟩
noncomputable def turns (sc:List Int) (bs:List Box) (mode:Int):Nat→Walk→Walk
 | 0,w=>w
 | n + 1,w=>turns sc bs mode n (turn sc bs mode w)
noncomputable def ends (n:Nat) (mode:Int):Nat→Walk→Walk
 | 0,w=>w
 | m + 1,w=>if w.a7.length > 1 then ends n mode m ⟨w.p,close w.a7,w.rows ++ [(number n w.rows mode,.fin)]⟩ else w
structure Prog where
 aG:List Box
 body:List Stm
noncomputable def cD (sc:List Int) (many:Nat) (p:Nat):Prog × List Row:=
 let bs:=bP sc (next sc p % 4) (next sc (p + 1) % 5).toNat 0 (p + 2)
 let w:=ends bs.1.length (next sc bs.2 % 4) 4 (turns sc bs.1 (next sc bs.2 % 4) many ⟨bs.2 + 1,[{ kind:=0,body:=[] }],[]⟩)
 (⟨bs.1,(w.a7.head?.map (·.body)).getD []⟩,w.rows)
end PG
namespace PG
open PM (W Tr)
mutual
noncomputable def gy:Stm→List Row
 | .ifs k _ _ _ a b=>(k,.ifs) :: (cE a ++ cE b)
 | .whl k _ _ _ a=>(k,.whl) :: cE a
 | .ask k _=>[(k,.ask)]
 | .put k _ _=>[(k,.put)]
 | .say k _=>[(k,.say)]
 | .cL k _ _ _=>[(k,.cL)]
 | .stop k=>[(k,.stop)]
noncomputable def cE:List Stm→List Row
 | []=>[]
 | s :: r=>gy s ++ cE r
end
theorem wb:∀ a b:List Stm,cE (a ++ b)=cE a ++ cE b
 | [],b=>by simp [cE]
 | s :: r,b=>by
   show cE (s :: (r ++ b))=_
   rw [cE,cE,wb r b,List.append_assoc]
noncomputable def Frame.flat (f:Frame):List Row:=(if f.kind=0 then [] else [(f.k,if f.kind=3 then Wd.whl else .ifs)]) ++ (if f.kind=2 then cE f.first else []) ++ cE f.body
noncomputable def c8:List Frame→List Row
 | []=>[]
 | f :: r=>c8 r ++ f.flat
noncomputable def plainRow (r:Row):Bool:=decide (r.2≠.els∧r.2≠.fin)
noncomputable def oG:List Frame→Prop
 | []=>False
 | [f]=>f.kind=0
 | f :: g :: r=>(f.kind=1∨f.kind=2∨f.kind=3)∧oG (g :: r)
theorem II {f:Frame} (h:f.kind=1∨f.kind=2∨f.kind=3):gy f.told=f.flat:=by
 rcases h with h | h | h <;> simp [Frame.told,Frame.flat,h,gy,cE]
theorem lX:∀ {l:List Frame},oG l→c8 (close l)=c8 l
 | [],h=>h.elim
 | [f],_=>rfl
 | f :: g :: r,h=>by
   have e:=II h.1
   show c8 r ++ Frame.flat _=c8 r ++ g.flat ++ f.flat
   simp only [Frame.flat,wb,cE,e,List.append_nil]
   simp [Frame.flat]
theorem oH:∀ {l:List Frame},oG l→oG (close l)∧(close l).length=max 1 (l.length - 1)
 | [],h=>h.elim
 | [f],h=>⟨h,rfl⟩
 | [f,g],h=>⟨h.2,rfl⟩
 | f :: g :: x :: r,h=>⟨⟨h.2.1,h.2.2⟩,by simp [close]⟩
theorem KR (sc:List Int) (bs:List Box) (k:Int) (p:Nat):gy (bT sc bs k p).1=[(k,(bT sc bs k p).1.wd)]∧(bT sc bs k p).1.wd≠.els∧(bT sc bs k p).1.wd≠.fin:=by
 unfold bT
 simp only
 split
 · simp [gy,Stm.wd]
 · split
   · simp [gy,Stm.wd]
   · split
     · simp [gy,Stm.wd]
     · split
       · split <;> simp [gy,Stm.wd]
       · simp [gy,Stm.wd]
structure dH (w:Walk):Prop where
 a7:oG w.a7
 flat:c8 w.a7=w.rows.filter plainRow
 most:w.a7.length≤4
theorem uk (sc:List Int) (bs:List Box) (mode:Int) {w:Walk} (h:dH w):dH (turn sc bs mode w):=by
 obtain ⟨p,a7,rows⟩:=w
 obtain ⟨h1,h2,h3⟩:=h
 simp only at h1 h2 h3
 unfold turn
 simp only
 split
 · obtain ⟨a,b⟩:=oH h1
   refine ⟨a,?_,?_⟩
   · show c8 (close a7)=_
     rw [lX h1,h2,List.filter_append]
     simp [plainRow]
   · show (close a7).length≤4
     lia
 · cases a7 with
   | nil=>exact h1.elim
   | cons f r=>
     simp only
     split
     · rename_i hc
       obtain ⟨_,hk⟩:=hc
       refine ⟨?_,?_,h3⟩
       · cases r with
         | nil=>rw [oG] at h1; lia
         | cons g r=>exact ⟨.inr (.inl rfl),h1.2⟩
       · show c8 r ++ _=_
         rw [List.filter_append,← h2]
         simp [c8,Frame.flat,plainRow,cE,hk]
     · split
       · rename_i hc
         have kk:∀ n:Int,pick 1 [1,1,3] n=1∨pick 1 [1,1,3] n=3:=fun n=>by
           unfold pick
           rcases n.toNat with _ | _ | _ | m <;> simp
         have kk':=kk (next sc p % 12 % 3)
         generalize pick 1 [1,1,3] (next sc p % 12 % 3)=kd at kk' ⊢
         refine ⟨⟨?_,h1⟩,?_,?_⟩
         · simp only; lia
         · show c8 (f :: r) ++ _=_
           rw [List.filter_append,h2]
           rcases kk' with rfl | rfl <;> simp [Frame.flat,plainRow,cE]
         · simp only [List.length_cons] at hc ⊢
           lia
       · obtain ⟨a,b,c⟩:=KR sc bs (number bs.length rows mode) (p + 1)
         refine ⟨?_,?_,h3⟩
         · cases r with
           | nil=>exact h1
           | cons g r=>exact ⟨h1.1,h1.2⟩
         · show c8 r ++ _=_
           rw [List.filter_append,← h2]
           simp [c8,Frame.flat,wb,cE,a,plainRow,b,c]
theorem um (sc:List Int) (bs:List Box) (mode:Int):∀ (n:Nat) {w:Walk},dH w→dH (turns sc bs mode n w)
 | 0,_,h=>h
 | n + 1,_,h=>um sc bs mode n (uk sc bs mode h)
theorem Cb (n:Nat) (mode:Int):∀ (m:Nat) {w:Walk},dH w→w.a7.length≤m + 1→dH (ends n mode m w)∧(ends n mode m w).a7.length=1
 | 0,w,h,hl=>by
   have:w.a7≠[]:=fun e=>by have:=h.a7; rw [e] at this; exact this
   have:0 < w.a7.length:=List.length_pos_iff.mpr this
   exact ⟨h,by show w.a7.length=1; lia⟩
 | m + 1,w,h,hl=>by
   unfold ends
   split
   · obtain ⟨a,b⟩:=oH h.a7
     refine Cb n mode m ⟨a,?_,?_⟩ ?_
     · show c8 (close w.a7)=_
       rw [lX h.a7,h.flat,List.filter_append]
       simp [plainRow]
     · show (close w.a7).length≤4
       have:=h.most
       lia
     · show (close w.a7).length≤_
       lia
   · have:w.a7≠[]:=fun e=>by have:=h.a7; rw [e] at this; exact this
     have:0 < w.a7.length:=List.length_pos_iff.mpr this
     exact ⟨h,by lia⟩
theorem Bj (sc:List Int) (many p:Nat):cE (cD sc many p).1.body=(cD sc many p).2.filter plainRow:=by
 unfold cD
 simp only
 generalize bP sc (next sc p % 4) (next sc (p + 1) % 5).toNat 0 (p + 2)=bs
 have h0:dH ⟨bs.2 + 1,[{ kind:=0,body:=[] }],[]⟩:=⟨rfl,rfl,by simp⟩
 have h1:=um sc bs.1 (next sc bs.2 % 4) many h0
 obtain ⟨h2,h3⟩:=Cb bs.1.length (next sc bs.2 % 4) 4 h1 (by have:=h1.most; lia)
 generalize ends bs.1.length (next sc bs.2 % 4) 4 (turns sc bs.1 (next sc bs.2 % 4) many ⟨bs.2 + 1,[{ kind:=0,body:=[] }],[]⟩)=w at h2 h3
 obtain ⟨pp,a7,rows⟩:=w
 obtain ⟨f,rfl⟩:∃ f,a7=[f]:=List.length_eq_one_iff.mp h3
 have hk:f.kind=0:=h2.a7
 have:=h2.flat
 simp [c8,Frame.flat,hk] at this
 simpa using this
end PG
namespace PG
open PM (W Tr)
noncomputable abbrev eZ:=Int × Wd × List Int
noncomputable def aQ:List Stm→Int→Int
 | [],x=>x
 | s :: _,_=>s.row
mutual
noncomputable def dI:Stm→Int→List eZ
 | .ifs k _ _ _ a b,x=>(k,.ifs,[aQ a x,aQ b x]) :: (aU a x ++ aU b x)
 | .whl k _ _ _ a,x=>(k,.whl,[aQ a k,x]) :: aU a k
 | .ask k _,x=>[(k,.ask,[x])]
 | .put k _ _,x=>[(k,.put,[x])]
 | .say k _,x=>[(k,.say,[x])]
 | .cL k _ _ _,x=>[(k,.cL,[x])]
 | .stop k,_=>[(k,.stop,[0])]
noncomputable def aU:List Stm→Int→List eZ
 | [],_=>[]
 | s :: r,x=>dI s (aQ r x) ++ aU r x
end
mutual
theorem IJ:∀ (s:Stm) (x:Int),(dI s x).map (fun r=>(r.1,r.2.1))=gy s
 | .ifs k _ _ _ a b,x=>by simp [dI,gy,eU a x,eU b x]
 | .whl k _ _ _ a,x=>by simp [dI,gy,eU a k]
 | .ask k _,x=>rfl
 | .put k _ _,x=>rfl
 | .say k _,x=>rfl
 | .cL k _ _ _,x=>rfl
 | .stop k,_=>rfl
theorem eU:∀ (b:List Stm) (x:Int),(aU b x).map (fun r=>(r.1,r.2.1))=cE b
 | [],_=>rfl
 | s :: r,x=>by simp [aU,cE,IJ s _,eU r x]
end
inductive Tg where
 | row (k:Int) | side (k:Int) (b:Bool) | cL (k:Int) | fin
 deriving DecidableEq
theorem iW (sc:List Int) (bs:List Box):∀ (d p:Nat),p≤(cA sc bs d p).2∧(cA sc bs d p).2 + 1≤p + 4 * 2 ^ d
 | 0,p=>by
   unfold cA
   simp only
   split <;> simp only <;> lia
 | d + 1,p=>by
   have e:(2:Nat) ^ (d + 1)=2 * 2 ^ d:=by rw [Nat.pow_succ]; lia
   have one:1≤2 ^ d:=Nat.one_le_two_pow
   unfold cA
   simp only
   rw [e]
   split
   · obtain ⟨a1,a2⟩:=iW sc bs d (p + 1)
     obtain ⟨b1,b2⟩:=iW sc bs d (cA sc bs d (p + 1)).2
     simp only
     lia
   · split <;> simp only <;> lia
theorem FO (sc:List Int) (bs:List Box) (k:Int) (p:Nat):p≤(bT sc bs k p).2∧(bT sc bs k p).2≤p + 18:=by
 have e1:=fun q=>iW sc bs 1 q
 have e2:=fun q=>iW sc bs 2 q
 unfold bT
 simp only
 split
 · simp only; lia
 · split
   · have:=e2 (p + 2); simp only; lia
   · split
     · have h1:=e1 (p + 2)
       have h2:=e1 (cA sc bs 1 (p + 2)).2
       simp only; lia
     · split
       · split
         · simp only; lia
         · have:=e2 (p + 2); simp only; lia
       · have:=e2 (p + 1); simp only; lia
theorem OW (sc:List Int) (bs:List Box) (mode:Int) (w:Walk):w.p≤(turn sc bs mode w).p∧(turn sc bs mode w).p≤w.p + 20:=by
 have e1:=fun q=>iW sc bs 1 q
 have e2:=fun k q=>FO sc bs k q
 obtain ⟨p,a7,rows⟩:=w
 unfold turn
 simp only
 split
 · simp only; lia
 · cases a7 with
   | nil=>simp only; lia
   | cons f r=>
     simp only
     split
     · simp only; lia
     · split
       · have h1:=e1 (p + 2)
         have h2:=e1 (cA sc bs 1 (p + 2)).2
         simp only; lia
       · have:=e2 (number bs.length rows mode) (p + 1)
         simp only; lia
theorem gZ (sc:List Int) (p:Nat):0≤next sc p∧next sc p < 2 ^ 28:=by
 unfold next
 simp only
 split
 · have a:=Int.emod_nonneg (DX (min 60 (p / max 1 sc.length)) (if sc=[] then 0 else sc.getD (p % max 1 sc.length) 0)) (show (1000003:Int)≠0 by decide)
   have b:=Int.emod_lt_of_pos (DX (min 60 (p / max 1 sc.length)) (if sc=[] then 0 else sc.getD (p % max 1 sc.length) 0)) (show (0:Int) < 1000003 by decide)
   lia
 · generalize (((((if sc=[] then 0 else sc.getD (p % max 1 sc.length) 0) % 2147483629 + 51437 * ((p:Int) + 1) * ((p:Int) + 3) + 1409) % 2147483629) * (((if sc=[] then 0 else sc.getD (p % max 1 sc.length) 0) % 2147483629 + 51437 * ((p:Int) + 1) * ((p:Int) + 3) + 1409) % 2147483629) % 2147483587 * 69621 + 401 * (p:Int) + 7) % 2147483579)=c
   have a:=Int.emod_nonneg (c * c) (show (2147483563:Int)≠0 by decide)
   have b:=Int.emod_lt_of_pos (c * c) (show (0:Int) < 2147483563 by decide)
   lia
theorem oI (sc:List Int) (bs:List Box) (k:Int) (p:Nat):PG.bT sc bs k p =
   if bs≠[]∧next sc p % 10 < 3 then (.ask k (pick ⟨[],0,0⟩ bs (next sc (p + 1) % bs.length)).name,p + 2)
   else if bs≠[]∧next sc p % 10 < 6 then (.put k (pick ⟨[],0,0⟩ bs (next sc (p + 1) % bs.length)).name (cA sc bs 2 (p + 2)).1,(cA sc bs 2 (p + 2)).2)
   else if next sc p % 10=6 then (.cL k (pick [] sgs (next sc (p + 1) % 2)) (cA sc bs 1 (p + 2)).1 (cA sc bs 1 (cA sc bs 1 (p + 2)).2).1,(cA sc bs 1 (cA sc bs 1 (p + 2)).2).2)
   else if next sc p % 10=7 then (if next sc (p + 1) % 3=0 then (.stop k,p + 2) else (.say k (cA sc bs 2 (p + 2)).1,(cA sc bs 2 (p + 2)).2))
   else (.say k (cA sc bs 2 (p + 1)).1,(cA sc bs 2 (p + 1)).2):=rfl
end PG
namespace PG
open PM (W Tr)
mutual
noncomputable def eP:Stm→List Row→Prop
 | .ifs k _ _ _ a b,rs=>(∃ ra n,cB a ra∧b=[]∧rs=(k,.ifs) :: (ra ++ [(n,.fin)]))∨(∃ ra rb n m,cB a ra∧cB b rb∧rs=(k,.ifs) :: (ra ++ (n,.els) :: (rb ++ [(m,.fin)])))
 | .whl k _ _ _ a,rs=>∃ ra n,cB a ra∧rs=(k,.whl) :: (ra ++ [(n,.fin)])
 | .ask k _,rs=>rs=[(k,.ask)]
 | .put k _ _,rs=>rs=[(k,.put)]
 | .say k _,rs=>rs=[(k,.say)]
 | .cL k _ _ _,rs=>rs=[(k,.cL)]
 | .stop k,rs=>rs=[(k,.stop)]
noncomputable def cB:List Stm→List Row→Prop
 | [],rs=>rs=[]
 | s :: r,rs=>∃ r1 r2,eP s r1∧cB r r2∧rs=r1 ++ r2
end
theorem cB.app:∀ {a b:List Stm} {ra rb:List Row},cB a ra→cB b rb→cB (a ++ b) (ra ++ rb)
 | [],b,ra,rb,h,h'=>by
   rw [cB] at h
   subst h
   exact h'
 | s :: r,b,ra,rb,h,h'=>by
   rw [cB] at h
   obtain ⟨r1,r2,h1,h2,rfl⟩:=h
   rw [List.cons_append,cB]
   exact ⟨r1,r2 ++ rb,h1,cB.app h2 h',by rw [List.append_assoc]⟩
theorem cB.one {s:Stm} {rs:List Row} (h:eP s rs):cB [s] rs:=by
 rw [cB]
 exact ⟨rs,[],h,by rw [cB],by simp⟩
theorem cB.nil:cB [] []:=by rw [cB]
noncomputable def la (f:Frame) (rs:List Row):Prop:=
 (f.kind=0∧cB f.body rs)∨(f.kind=1∧∃ rb,cB f.body rb∧rs=(f.k,.ifs) :: rb)∨
 (f.kind=2∧∃ rf rb n,cB f.first rf∧cB f.body rb∧rs=(f.k,.ifs) :: (rf ++ (n,.els) :: rb))∨(f.kind=3∧∃ rb,cB f.body rb∧rs=(f.k,.whl) :: rb)
noncomputable def bQ:List Frame→List Row→Prop
 | [],rs=>rs=[]
 | f :: r,rs=>∃ r1 r2,bQ r r1∧la f r2∧rs=r1 ++ r2
theorem IK {f:Frame} {rs:List Row} (hk:f.kind=1∨f.kind=2∨f.kind=3) (h:la f rs) (n:Int):eP f.told (rs ++ [(n,.fin)]):=by
 rcases h with ⟨h0,_⟩ | ⟨h1,rb,t,rfl⟩ | ⟨h2,rf,rb,m,t1,t2,rfl⟩ | ⟨h3,rb,t,rfl⟩
 · lia
 · unfold Frame.told
   rw [if_pos h1,eP]
   exact .inl ⟨rb,n,t,rfl,rfl⟩
 · unfold Frame.told
   rw [if_neg (by lia),if_pos h2,eP]
   exact .inr ⟨rf,rb,m,n,t1,t2,by simp⟩
 · unfold Frame.told
   rw [if_neg (by lia),if_neg (by lia),eP]
   exact ⟨rb,n,t,rfl⟩
theorem la.more {f:Frame} {rs t:List Row} {b:List Stm} (h:la f rs) (ht:cB b t):la { f with body:=f.body ++ b } (rs ++ t):=by
 rcases h with ⟨h0,x⟩ | ⟨h1,rb,x,rfl⟩ | ⟨h2,rf,rb,m,t1,x,rfl⟩ | ⟨h3,rb,x,rfl⟩
 · exact .inl ⟨h0,x.app ht⟩
 · exact .inr (.inl ⟨h1,rb ++ t,x.app ht,rfl⟩)
 · exact .inr (.inr (.inl ⟨h2,rf,rb ++ t,m,t1,x.app ht,by simp⟩))
 · exact .inr (.inr (.inr ⟨h3,rb ++ t,x.app ht,rfl⟩))
theorem yE {l:List Frame} {rs:List Row} (hp:oG l) (hl:1 < l.length) (h:bQ l rs) (n:Int):bQ (close l) (rs ++ [(n,.fin)]):=by
 match l,hp,hl,h with
 | f :: g :: r,hp,_,h=>
   rw [bQ] at h
   obtain ⟨r1,r2,h1,h2,rfl⟩:=h
   rw [bQ] at h1
   obtain ⟨r3,r4,h3,h4,rfl⟩:=h1
   show bQ ({ g with body:=g.body ++ [f.told] } :: r) _
   rw [bQ]
   exact ⟨r3,r4 ++ (r2 ++ [(n,.fin)]),h3,h4.more (.one (IK hp.1 h2 n)),by simp⟩
theorem plain_text (sc:List Int) (bs:List Box) (k:Int) (p:Nat):eP (bT sc bs k p).1 [(k,(bT sc bs k p).1.wd)]:=by
 unfold bT
 simp only
 split
 · simp [eP,Stm.wd]
 · split
   · simp [eP,Stm.wd]
   · split
     · simp [eP,Stm.wd]
     · split
       · split <;> simp [eP,Stm.wd]
       · simp [eP,Stm.wd]
theorem IL (sc:List Int) (bs:List Box) (mode:Int) {w:Walk} (ok:dH w) (h:bQ w.a7 w.rows):bQ (turn sc bs mode w).a7 (turn sc bs mode w).rows:=by
 obtain ⟨p,a7,rows⟩:=w
 have h1:=ok.a7
 simp only at h h1
 unfold turn
 simp only
 split
 · rename_i hc
   exact yE h1 hc.2 h _
 · cases a7 with
   | nil=>exact h1.elim
   | cons f r=>
     simp only
     split
     · rename_i hc
       rw [bQ] at h
       obtain ⟨r1,r2,x1,x2,rfl⟩:=h
       show bQ ({ f with kind:=2,body:=[],first:=f.body } :: r) _
       rw [bQ]
       rcases x2 with ⟨z,_⟩ | ⟨_,rb,t,rfl⟩ | ⟨z,_⟩ | ⟨z,_⟩
       · lia
       · exact ⟨r1,_,x1,.inr (.inr (.inl ⟨rfl,rb,[],number bs.length (r1 ++ (f.k,.ifs) :: rb) mode,t,.nil,rfl⟩)),by simp⟩
       · lia
       · lia
     · split
       · have kk:∀ n:Int,pick 1 [1,1,3] n=1∨pick 1 [1,1,3] n=3:=fun n=>by
           unfold pick
           rcases n.toNat with _ | _ | _ | m <;> simp
         have kk':=kk (next sc p % 12 % 3)
         generalize pick 1 [1,1,3] (next sc p % 12 % 3)=kd at kk' ⊢
         show bQ ({ kind:=kd,body:=[],k:=number bs.length rows mode,sg:=_,l:=_,r:=_ } :: f :: r) _
         rw [bQ]
         rcases kk' with rfl | rfl
         · exact ⟨rows,_,h,.inr (.inl ⟨rfl,[],.nil,rfl⟩),rfl⟩
         · exact ⟨rows,_,h,.inr (.inr (.inr ⟨rfl,[],.nil,rfl⟩)),rfl⟩
       · rw [bQ] at h
         obtain ⟨r1,r2,x1,x2,rfl⟩:=h
         show bQ ({ f with body:=f.body ++ [_] } :: r) _
         rw [bQ]
         exact ⟨r1,_,x1,x2.more (.one (plain_text sc bs _ (p + 1))),by simp⟩
theorem yF (sc:List Int) (bs:List Box) (mode:Int):∀ (n:Nat) {w:Walk},dH w→bQ w.a7 w.rows→bQ (turns sc bs mode n w).a7 (turns sc bs mode n w).rows
 | 0,_,_,h=>h
 | n + 1,_,ok,h=>yF sc bs mode n (uk sc bs mode ok) (IL sc bs mode ok h)
theorem Bk (n:Nat) (mode:Int):∀ (m:Nat) {w:Walk},dH w→bQ w.a7 w.rows→bQ (ends n mode m w).a7 (ends n mode m w).rows
 | 0,_,_,h=>h
 | m + 1,w,ok,h=>by
   unfold ends
   split
   · rename_i hl
     obtain ⟨a,b⟩:=oH ok.a7
     refine Bk n mode m ⟨a,?_,?_⟩ (yE ok.a7 hl h _)
     · show c8 (close w.a7)=_
       rw [lX ok.a7,ok.flat,List.filter_append]
       simp [plainRow]
     · show (close w.a7).length≤4
       have:=ok.most
       lia
   · exact h
theorem IM (sc:List Int) (many p:Nat):cB (cD sc many p).1.body (cD sc many p).2:=by
 unfold cD
 simp only
 generalize bP sc (next sc p % 4) (next sc (p + 1) % 5).toNat 0 (p + 2)=bs
 have h0:dH ⟨bs.2 + 1,[{ kind:=0,body:=[] }],[]⟩:=⟨rfl,rfl,by simp⟩
 have t0:bQ [{ kind:=0,body:=[] }] []:=by
   rw [bQ]
   exact ⟨[],[],by rw [bQ],.inl ⟨rfl,.nil⟩,rfl⟩
 have h1:=um sc bs.1 (next sc bs.2 % 4) many h0
 have t1:=yF sc bs.1 (next sc bs.2 % 4) many h0 t0
 obtain ⟨h2,h3⟩:=Cb bs.1.length (next sc bs.2 % 4) 4 h1 (by have:=h1.most; lia)
 have t2:=Bk bs.1.length (next sc bs.2 % 4) 4 h1 t1
 generalize ends bs.1.length (next sc bs.2 % 4) 4 (turns sc bs.1 (next sc bs.2 % 4) many ⟨bs.2 + 1,[{ kind:=0,body:=[] }],[]⟩)=w at h2 h3 t2
 obtain ⟨pp,a7,rows⟩:=w
 obtain ⟨f,rfl⟩:∃ f,a7=[f]:=List.length_eq_one_iff.mp h3
 have hk:f.kind=0:=h2.a7
 simp only at t2
 rw [bQ] at t2
 obtain ⟨r1,r2,x1,x2,rfl⟩:=t2
 rw [bQ] at x1
 subst x1
 rcases x2 with ⟨_,t⟩ | ⟨z,_⟩ | ⟨z,_⟩ | ⟨z,_⟩
 · simpa using t
 · lia
 · lia
 · lia
noncomputable def oJ (n:Nat) (w:Walk):Prop:=(∀ f∈w.a7,f.body.length≤n)∧w.rows.length≤n
theorem DY (sc:List Int) (bs:List Box) (mode:Int) {n:Nat} {w:Walk} (h:oJ n w):oJ (n + 1) (turn sc bs mode w):=by
 obtain ⟨p,a7,rows⟩:=w
 obtain ⟨h1,h2⟩:=h
 simp only at h1 h2
 have up:∀ f∈a7,f.body.length≤n + 1:=fun f hf=>Nat.le_succ_of_le (h1 f hf)
 have cl:∀ l:List Frame,(∀ f∈l,f.body.length≤n)→∀ f∈close l,f.body.length≤n + 1:=by
   intro l hl f hf
   match l,hl,hf with
   | [],_,hf=>cases hf
   | [x],hl,hf=>exact Nat.le_succ_of_le (hl f hf)
   | x :: y :: r,hl,hf=>
     rcases List.mem_cons.mp hf with rfl | hf
     · simp
       have:=hl y (by simp)
       lia
     · exact Nat.le_succ_of_le (hl f (by simp [hf]))
 unfold turn
 simp only
 split
 · exact ⟨cl a7 h1,by simp; lia⟩
 · cases a7 with
   | nil=>exact ⟨up,by simp only; lia⟩
   | cons f r=>
     simp only
     split
     · refine ⟨fun x hx=>?_,by simp; lia⟩
       rcases List.mem_cons.mp hx with rfl | hx
       · simp
       · exact up x (by simp [hx])
     · split
       · refine ⟨fun x hx=>?_,by simp; lia⟩
         rcases List.mem_cons.mp hx with rfl | hx
         · simp
         · exact up x hx
       · refine ⟨fun x hx=>?_,by simp; lia⟩
         rcases List.mem_cons.mp hx with rfl | hx
         · have:=h1 f (by simp)
           simp
           lia
         · exact up x (by simp [hx])
theorem yG (sc:List Int) (bs:List Box) (mode:Int):∀ (n:Nat) (w:Walk),turns sc bs mode (n + 1) w=turn sc bs mode (turns sc bs mode n w)
 | 0,_=>rfl
 | n + 1,w=>yG sc bs mode n (turn sc bs mode w)
theorem Cc (sc:List Int) (bs:List Box) (mode:Int) (p:Nat) (f:Frame) (r:List Frame) (rows:List Row):turn sc bs mode ⟨p,f :: r,rows⟩ =
   if next sc p % 12 < 2∧(f :: r).length > 1 then ⟨p + 1,close (f :: r),rows ++ [(number bs.length rows mode,.fin)]⟩
   else if next sc p % 12=2∧f.kind=1 then ⟨p + 1,{ f with kind:=2,body:=[],first:=f.body } :: r,rows ++ [(number bs.length rows mode,.els)]⟩
   else if next sc p % 12 < 6∧(f :: r).length < 4 then
     ⟨(cA sc bs 1 (cA sc bs 1 (p + 2)).2).2,{ kind:=pick 1 [1,1,3] (next sc p % 12 % 3),body:=[],k:=number bs.length rows mode,sg:=pick [] sgs (next sc (p + 1) % 2),l:=(cA sc bs 1 (p + 2)).1,r:=(cA sc bs 1 (cA sc bs 1 (p + 2)).2).1 } :: f :: r,rows ++ [(number bs.length rows mode,if pick 1 [1,1,3] (next sc p % 12 % 3)=3 then .whl else .ifs)]⟩
   else ⟨(bT sc bs (number bs.length rows mode) (p + 1)).2,{ f with body:=f.body ++ [(bT sc bs (number bs.length rows mode) (p + 1)).1] } :: r,rows ++ [(number bs.length rows mode,(bT sc bs (number bs.length rows mode) (p + 1)).1.wd)]⟩:=rfl
theorem lY (sc:List Int) (og:Int):∀ (n k p:Nat),(bP sc og n k p).1.length=n∧(bP sc og n k p).2=p + 3 * n
 | 0,_,p=>⟨rfl,rfl⟩
 | n + 1,k,p=>by
   obtain ⟨a,b⟩:=lY sc og n (k + 1) (p + 3)
   unfold bP
   simp only [List.length_cons]
   exact ⟨by rw [a],by rw [b]; lia⟩
theorem yH {w:Walk} (ok:dH w) (k:Int):dH ⟨w.p,close w.a7,w.rows ++ [(k,.fin)]⟩:=by
 obtain ⟨a,b⟩:=oH ok.a7
 refine ⟨a,?_,?_⟩
 · show c8 (close w.a7)=_
   rw [lX ok.a7,ok.flat,List.filter_append]
   simp [plainRow]
 · show (close w.a7).length≤4
   have:=ok.most
   lia
theorem Bl {n:Nat} {w:Walk} (h:oJ n w) (k:Int):oJ (n + 1) ⟨w.p,close w.a7,w.rows ++ [(k,.fin)]⟩:=by
 obtain ⟨h1,h2⟩:=h
 refine ⟨?_,by simp; lia⟩
 intro f hf
 obtain ⟨p,a7,rows⟩:=w
 simp only at h1 hf
 match a7,h1,hf with
 | [],_,hf=>cases hf
 | [x],hl,hf=>exact Nat.le_succ_of_le (hl f hf)
 | x :: y :: r,hl,hf=>
   rcases List.mem_cons.mp hf with rfl | hf
   · have:=hl y (by simp)
     simp
     lia
   · exact Nat.le_succ_of_le (hl f (by simp [hf]))
mutual
noncomputable def qT:Stm→Nat
 | .ifs _ _ _ _ a b=>max (fV a) (fV b) + 1
 | .whl _ _ _ _ a=>fV a + 1
 | _=>0
noncomputable def fV:List Stm→Nat
 | []=>0
 | s :: r=>max (qT s) (fV r)
end
theorem yI:∀ a b:List Stm,fV (a ++ b)=max (fV a) (fV b)
 | [],b=>by simp [fV]
 | s :: r,b=>by
   show fV (s :: (r ++ b))=_
   rw [fV,fV,yI r b,Nat.max_assoc]
theorem DZ (s:Stm):fV [s]=qT s:=by rw [fV,fV]; simp
noncomputable def rh:List Frame→Prop
 | []=>True
 | f :: r=>fV f.body + r.length≤3∧(f.kind=2→fV f.first + r.length≤3)∧rh r
theorem KS {f:Frame} {n:Nat} (h1:fV f.body + n≤3) (h2:f.kind=2→fV f.first + n≤3):qT f.told + n≤4:=by
 unfold Frame.told
 split
 · rw [qT,fV]; simp; lia
 · split
   · rename_i h
     rw [qT]
     have:=h2 h
     lia
   · rw [qT]; lia
theorem Bm:∀ {l:List Frame},rh l→rh (close l)
 | [],h=>h
 | [f],h=>h
 | f :: g :: r,h=>by
   obtain ⟨h1,h2,h3,h4,h5⟩:=h
   have:=KS h1 h2
   refine ⟨?_,h4,h5⟩
   rw [yI,DZ]
   simp only [List.length_cons] at this ⊢
   lia
theorem IP (sc:List Int) (bs:List Box) (k:Int) (p:Nat):qT (bT sc bs k p).1=0:=by
 rw [oI]
 split
 · simp [qT]
 · split
   · simp [qT]
   · split
     · simp [qT]
     · split
       · split <;> simp [qT]
       · simp [qT]
theorem KU (sc:List Int) (bs:List Box) (mode:Int) {w:Walk} (ok:dH w) (h:rh w.a7):rh (turn sc bs mode w).a7:=by
 obtain ⟨p,a7,rows⟩:=w
 simp only at h
 cases a7 with
 | nil=>exact ok.a7.elim
 | cons f r=>
   rw [Cc]
   split
   · exact Bm h
   · obtain ⟨h1,h2,h3⟩:=h
     split
     · exact ⟨by rw [fV]; lia,fun _=>h1,h3⟩
     · split
       · rename_i hc
         refine ⟨?_,fun z=>?_,h1,h2,h3⟩
         · rw [fV]
           have:=hc.2
           simp only [List.length_cons] at this ⊢
           lia
         · rw [fV]
           have:=hc.2
           simp only [List.length_cons] at this ⊢
           lia
       · refine ⟨?_,h2,h3⟩
         rw [yI,DZ,IP]
         lia
theorem Bn (sc:List Int) (bs:List Box) (mode:Int):∀ (n:Nat) {w:Walk},dH w→rh w.a7→rh (turns sc bs mode n w).a7
 | 0,_,_,h=>h
 | n + 1,_,ok,h=>Bn sc bs mode n (uk sc bs mode ok) (KU sc bs mode ok h)
theorem D0 (n:Nat) (mode:Int):∀ (m:Nat) {w:Walk},rh w.a7→rh (ends n mode m w).a7
 | 0,_,h=>h
 | m + 1,w,h=>by
   unfold ends
   split
   · exact D0 n mode m (Bm h)
   · exact h
theorem KW (sc:List Int) (many p:Nat):fV (cD sc many p).1.body≤3:=by
 unfold cD
 simp only
 generalize bP sc (next sc p % 4) (next sc (p + 1) % 5).toNat 0 (p + 2)=bs
 have h0:dH ⟨bs.2 + 1,[{ kind:=0,body:=[] }],[]⟩:=⟨rfl,rfl,by simp⟩
 have d0:rh [{ kind:=0,body:=[] }]:=⟨by simp [fV],(fun z=>absurd z (show ¬ (0=2) by decide)),trivial⟩
 have d2:=D0 bs.1.length (next sc bs.2 % 4) 4 (Bn sc bs.1 (next sc bs.2 % 4) many h0 d0)
 generalize ends bs.1.length (next sc bs.2 % 4) 4 (turns sc bs.1 (next sc bs.2 % 4) many ⟨bs.2 + 1,[{ kind:=0,body:=[] }],[]⟩)=w at d2
 obtain ⟨pp,a7,rows⟩:=w
 cases a7 with
 | nil=>simp [fV]
 | cons f r=>
   have:=d2.1
   simp
   lia
end PG
namespace PG
open PM (W Tr)
section
variable (nm:W→Prop) (ex:Tr→Prop) (sg:W→Prop)
mutual
noncomputable def OkS:Stm→Prop
 | .ask _ b=>nm b
 | .put _ b e=>nm b∧ex e
 | .say _ e=>ex e
 | .cL _ s l r=>sg s∧ex l∧ex r
 | .stop _=>True
 | .ifs _ s l r a b=>sg s∧ex l∧ex r∧OkB a∧OkB b
 | .whl _ s l r a=>sg s∧ex l∧ex r∧OkB a
noncomputable def OkB:List Stm→Prop
 | []=>True
 | s :: r=>OkS s∧OkB r
end
noncomputable def OkF (f:Frame):Prop:=OkB nm ex sg f.body∧(f.kind≠0→sg f.sg∧ex f.l∧ex f.r)∧(f.kind=2→OkB nm ex sg f.first)
noncomputable def OkP:List Frame→Prop
 | []=>True
 | f :: r=>OkF nm ex sg f∧OkP r
end
section
variable {nm:W→Prop} {ex:Tr→Prop} {sg:W→Prop}
theorem Cd:∀ {a b:List Stm},OkB nm ex sg a→OkB nm ex sg b→OkB nm ex sg (a ++ b)
 | [],b,_,h=>h
 | s :: r,b,h1,h2=>by
   rw [OkB] at h1
   show OkB nm ex sg (s :: (r ++ b))
   rw [OkB]
   exact ⟨h1.1,Cd h1.2 h2⟩
theorem lZ:OkB nm ex sg []:=by rw [OkB]; trivial
theorem Hm {s:Stm} (h:OkS nm ex sg s):OkB nm ex sg [s]:=by rw [OkB]; exact ⟨h,lZ⟩
theorem FP {f:Frame} (h:OkF nm ex sg f) (k:f.kind=1∨f.kind=2∨f.kind=3):OkS nm ex sg f.told:=by
 obtain ⟨h1,h2,h3⟩:=h
 have h2:=h2 (by lia)
 unfold Frame.told
 split
 · rw [OkS]; exact ⟨h2.1,h2.2.1,h2.2.2,h1,lZ⟩
 · split
   · rename_i z
     rw [OkS]; exact ⟨h2.1,h2.2.1,h2.2.2,h3 z,h1⟩
   · rw [OkS]; exact ⟨h2.1,h2.2.1,h2.2.2,h1⟩
theorem xi:∀ {l:List Frame},oG l→OkP nm ex sg l→OkP nm ex sg (close l)
 | [],_,h=>h
 | [f],_,h=>h
 | f :: g :: r,ok,h=>by
   obtain ⟨h1,⟨h2,h3,h4⟩,h5⟩:=h
   refine ⟨⟨Cd h2 (Hm (FP h1 ?_)),h3,h4⟩,h5⟩
   exact ok.1
section
variable {sc:List Int} {bs:List Box} (hnm:bs≠[]→∀ q,nm (pick ⟨[],0,0⟩ bs (next sc q % bs.length)).name) (hex:∀ d q,d≤2→ex (cA sc bs d q).1) (hsg:∀ q,sg (pick [] sgs (next sc q % 2)))
include hnm hex hsg
theorem Ea (k:Int) (p:Nat):OkS nm ex sg (bT sc bs k p).1:=by
 rw [oI]
 split
 · rename_i h; rw [OkS]; exact hnm h.1 _
 · split
   · rename_i h; rw [OkS]; exact ⟨hnm h.1 _,hex _ _ (by decide)⟩
   · split
     · rw [OkS]; exact ⟨hsg _,hex _ _ (by decide),hex _ _ (by decide)⟩
     · split
       · split
         · rw [OkS]; trivial
         · rw [OkS]; exact hex _ _ (by decide)
       · rw [OkS]; exact hex _ _ (by decide)
theorem FQ (mode:Int) {w:Walk} (ok:dH w) (h:OkP nm ex sg w.a7):OkP nm ex sg (turn sc bs mode w).a7:=by
 obtain ⟨p,a7,rows⟩:=w
 simp only at h
 cases a7 with
 | nil=>exact ok.a7.elim
 | cons f r=>
   rw [Cc]
   split
   · exact xi ok.a7 h
   · obtain ⟨⟨h1,h2,h3⟩,h4⟩:=h
     split
     · rename_i z
       exact ⟨⟨lZ,fun _=>h2 (by rw [z.2]; decide),fun _=>h1⟩,h4⟩
     · split
       · exact ⟨⟨lZ,fun _=>⟨hsg _,hex _ _ (by decide),hex _ _ (by decide)⟩,fun _=>lZ⟩,⟨h1,h2,h3⟩,h4⟩
       · exact ⟨⟨Cd h1 (Hm (Ea hnm hex hsg _ _)),h2,h3⟩,h4⟩
theorem xj (mode:Int):∀ (n:Nat) {w:Walk},dH w→OkP nm ex sg w.a7→OkP nm ex sg (turns sc bs mode n w).a7
 | 0,_,_,h=>h
 | n + 1,_,ok,h=>xj mode n (uk sc bs mode ok) (FQ hnm hex hsg mode ok h)
end
theorem yJ (n:Nat) (mode:Int):∀ (m:Nat) {w:Walk},dH w→OkP nm ex sg w.a7→OkP nm ex sg (ends n mode m w).a7
 | 0,_,_,h=>h
 | m + 1,w,ok,h=>by
   unfold ends
   split
   · exact yJ n mode m (yH ok _) (xi ok.a7 h)
   · exact h
end
noncomputable def gB (sc:List Int) (p:Nat):List Box:=(bP sc (next sc p % 4) (next sc (p + 1) % 5).toNat 0 (p + 2)).1
theorem FR (sc:List Int) (many p:Nat):(cD sc many p).1.aG=gB sc p:=rfl
theorem FT (sc:List Int) (many p:Nat) {nm:W→Prop} {ex:Tr→Prop} {sg:W→Prop} (hnm:gB sc p≠[]→∀ q,nm (pick ⟨[],0,0⟩ (gB sc p) (next sc q % (gB sc p).length)).name) (hex:∀ d q,d≤2→ex (cA sc (gB sc p) d q).1) (hsg:∀ q,sg (pick [] sgs (next sc q % 2))):OkB nm ex sg (cD sc many p).1.body:=by
 unfold gB at hnm hex
 unfold cD
 simp only
 generalize bP sc (next sc p % 4) (next sc (p + 1) % 5).toNat 0 (p + 2)=bs at *
 have h0:dH ⟨bs.2 + 1,[{ kind:=0,body:=[] }],[]⟩:=⟨rfl,rfl,by simp⟩
 have d0:OkP nm ex sg [{ kind:=0,body:=[] }]:=⟨⟨lZ,fun z=>absurd rfl z,fun z=>absurd z (show ¬ (0=2) by decide)⟩,trivial⟩
 have d2:=yJ bs.1.length (next sc bs.2 % 4) 4 (um sc bs.1 (next sc bs.2 % 4) many h0) (xj hnm hex hsg (next sc bs.2 % 4) many h0 d0)
 generalize ends bs.1.length (next sc bs.2 % 4) 4 (turns sc bs.1 (next sc bs.2 % 4) many ⟨bs.2 + 1,[{ kind:=0,body:=[] }],[]⟩)=w at d2
 obtain ⟨pp,a7,rows⟩:=w
 cases a7 with
 | nil=>exact lZ
 | cons f r=>exact d2.1.1
noncomputable def trd:Tr→Nat
 | .bin _ l r=>max (trd l) (trd r) + 1
 | _=>0
theorem yK (sc:List Int) (bs:List Box):∀ (d p:Nat),trd (cA sc bs d p).1≤d
 | 0,p=>by
   unfold cA
   simp only
   split <;> simp [trd]
 | d + 1,p=>by
   unfold cA
   simp only
   split
   · rw [trd]
     have:=yK sc bs d (p + 1)
     have:=yK sc bs d (cA sc bs d (p + 1)).2
     lia
   · split <;> simp [trd]
theorem Bo (sc:List Int) (bs:List Box) (mode:Int):∀ (n m:Nat) {w:Walk},oJ m w→oJ (m + n) (turns sc bs mode n w)
 | 0,m,_,h=>h
 | n + 1,m,_,h=>by
   have:=Bo sc bs mode n (m + 1) (DY sc bs mode h)
   rw [show m + (n + 1)=m + 1 + n by lia]
   exact this
theorem Eb (n:Nat) (mode:Int):∀ (k m:Nat) {w:Walk},oJ m w→(ends n mode k w).rows.length≤m + k
 | 0,m,w,h=>h.2
 | k + 1,m,w,h=>by
   unfold ends
   split
   · have:=Eb n mode k (m + 1) (Bl h (number n w.rows mode))
     lia
   · have:=h.2
     lia
theorem KY (sc:List Int) (many p:Nat):(cD sc many p).2.length≤many + 4:=by
 unfold cD
 simp only
 generalize bP sc (next sc p % 4) (next sc (p + 1) % 5).toNat 0 (p + 2)=bs
 have h0:oJ 0 ⟨bs.2 + 1,[{ kind:=0,body:=[] }],[]⟩:=⟨fun f hf=>by rw [List.mem_singleton.mp hf]; exact Nat.le_refl _,Nat.le_refl _⟩
 have:=Eb bs.1.length (next sc bs.2 % 4) 4 _ (Bo sc bs.1 (next sc bs.2 % 4) many 0 h0)
 lia
end PG
namespace PG
open PM (W Tr)
inductive Mt where
 | op (els fin:Option Nat)
 | back (i:Nat)
 deriving DecidableEq
noncomputable abbrev Mm:=Nat→Option Mt
noncomputable def Mm.set (m:Mm) (i:Nat) (x:Mt):Mm:=fun j=>if j=i then some x else m j
theorem Mm.set_same (m:Mm) (i:Nat) (x:Mt):(m.set i x) i=some x:=if_pos rfl
theorem Mm.bN (m:Mm) {i j:Nat} (x:Mt) (h:j≠i):(m.set i x) j=m j:=if_neg h
noncomputable def qE (x:Option Mt) (p:Nat):Mt:=match x with
 | some (.op _ f)=>.op (some p) f
 | some y=>y
 | none=>.op (some p) none
noncomputable def uo (x:Option Mt) (p:Nat):Mt:=match x with
 | some (.op e _)=>.op e (some p)
 | some y=>y
 | none=>.op none (some p)
noncomputable def uq (st:Mm × List Nat) (p:Nat):Wd→Mm × List Nat
 | .ifs=>(st.1.set p (.op none none),p :: st.2)
 | .whl=>(st.1.set p (.op none none),p :: st.2)
 | .els=>match st.2 with
   | o :: _=>((st.1.set o (qE (st.1 o) p)).set p (.back o),st.2)
   | []=>st
 | .fin=>match st.2 with
   | o :: r=>((st.1.set p (.back o)).set o (uo (st.1 o) p),r)
   | []=>st
 | _=>st
noncomputable def foldM:Nat→List Row→Mm × List Nat→Mm × List Nat
 | _,[],st=>st
 | i,r :: l,st=>foldM (i + 1) l (uq st i r.2)
theorem iu:∀ (a b:List Row) (i:Nat) (st:Mm × List Nat),foldM i (a ++ b) st=foldM (i + a.length) b (foldM i a st)
 | [],b,i,st=>rfl
 | r :: a,b,i,st=>by
   rw [List.cons_append,foldM,foldM,iu a b (i + 1),List.length_cons,show i + 1 + a.length=i + (a.length + 1) by lia]
mutual
noncomputable def dS (m:Mm):Stm→Nat→List Row→Prop
 | .ifs k _ _ _ a b,i,rs=>(∃ ra n,gE m a (i + 1) ra∧b=[]∧rs=(k,.ifs) :: (ra ++ [(n,.fin)])∧m i=some (.op none (some (i + 1 + ra.length)))∧m (i + 1 + ra.length)=some (.back i))∨
     (∃ ra rb n x,gE m a (i + 1) ra∧gE m b (i + 2 + ra.length) rb∧rs=(k,.ifs) :: (ra ++ (n,.els) :: (rb ++ [(x,.fin)]))∧m i=some (.op (some (i + 1 + ra.length)) (some (i + 2 + ra.length + rb.length)))∧
       m (i + 1 + ra.length)=some (.back i)∧m (i + 2 + ra.length + rb.length)=some (.back i))
 | .whl k _ _ _ a,i,rs=>∃ ra n,gE m a (i + 1) ra∧rs=(k,.whl) :: (ra ++ [(n,.fin)])∧m i=some (.op none (some (i + 1 + ra.length)))∧m (i + 1 + ra.length)=some (.back i)
 | .ask k _,_,rs=>rs=[(k,.ask)]
 | .put k _ _,_,rs=>rs=[(k,.put)]
 | .say k _,_,rs=>rs=[(k,.say)]
 | .cL k _ _ _,_,rs=>rs=[(k,.cL)]
 | .stop k,_,rs=>rs=[(k,.stop)]
noncomputable def gE (m:Mm):List Stm→Nat→List Row→Prop
 | [],_,rs=>rs=[]
 | s :: r,i,rs=>∃ r1 r2,dS m s i r1∧gE m r (i + r1.length) r2∧rs=r1 ++ r2
end
mutual
theorem dS.j8 {m m':Mm}:∀ (s:Stm) {i:Nat} {rs:List Row},dS m s i rs→(∀ j,i≤j→j < i + rs.length→m' j=m j)→dS m' s i rs
 | .ifs k _ _ _ a b,i,rs,h,q=>by
   rw [dS] at h ⊢
   rcases h with ⟨ra,n,h1,h2,rfl,h3,h4⟩ | ⟨ra,rb,n,x,h1,h2,rfl,h3,h4,h5⟩
   · simp only [List.length_cons,List.length_append,List.length_nil] at q
     exact .inl ⟨ra,n,gE.j8 a h1 (fun j a b=>q j (by lia) (by lia)),h2,rfl,by rw [q i (by lia) (by lia)]; exact h3,by rw [q _ (by lia) (by lia)]; exact h4⟩
   · simp only [List.length_cons,List.length_append,List.length_nil] at q
     exact .inr ⟨ra,rb,n,x,gE.j8 a h1 (fun j a b=>q j (by lia) (by lia)),gE.j8 b h2 (fun j a b=>q j (by lia) (by lia)),rfl,by rw [q i (by lia) (by lia)]; exact h3,by rw [q _ (by lia) (by lia)]; exact h4,by rw [q _ (by lia) (by lia)]; exact h5⟩
 | .whl k _ _ _ a,i,rs,h,q=>by
   rw [dS] at h ⊢
   obtain ⟨ra,n,h1,rfl,h3,h4⟩:=h
   simp only [List.length_cons,List.length_append,List.length_nil] at q
   exact ⟨ra,n,gE.j8 a h1 (fun j a b=>q j (by lia) (by lia)),rfl,by rw [q i (by lia) (by lia)]; exact h3,by rw [q _ (by lia) (by lia)]; exact h4⟩
 | .ask k _,_,rs,h,_=>by rw [dS] at h ⊢; exact h
 | .put k _ _,_,rs,h,_=>by rw [dS] at h ⊢; exact h
 | .say k _,_,rs,h,_=>by rw [dS] at h ⊢; exact h
 | .cL k _ _ _,_,rs,h,_=>by rw [dS] at h ⊢; exact h
 | .stop k,_,rs,h,_=>by rw [dS] at h ⊢; exact h
theorem gE.j8 {m m':Mm}:∀ (b:List Stm) {i:Nat} {rs:List Row},gE m b i rs→(∀ j,i≤j→j < i + rs.length→m' j=m j)→gE m' b i rs
 | [],i,rs,h,_=>by rw [gE] at h ⊢; exact h
 | s :: r,i,rs,h,q=>by
   rw [gE] at h ⊢
   obtain ⟨r1,r2,h1,h2,rfl⟩:=h
   simp only [List.length_append] at q
   exact ⟨r1,r2,dS.j8 s h1 (fun j a b=>q j (by lia) (by lia)),gE.j8 r h2 (fun j a b=>q j (by lia) (by lia)),rfl⟩
end
theorem fA {op:List Nat} {i j:Nat} (h:∀ o∈op,o < i) (hj:i < j):∀ o∈i :: op,o < j:=fun o hx=>by
 rcases List.mem_cons.mp hx with rfl | hx
 · exact hj
 · have:=h o hx
   lia
mutual
theorem NU:∀ (s:Stm) (rs:List Row),eP s rs→∀ (i:Nat) (m:Mm) (op:List Nat),(∀ o∈op,o < i)→∃ m1,foldM i rs (m,op)=(m1,op)∧dS m1 s i rs∧∀ j,(j < i∨i + rs.length≤j)→m1 j=m j
 | .ifs k sg l r a b,rs,h,i,m,op,ho=>by
   rw [eP] at h
   rcases h with ⟨ra,n,h1,rfl,rfl⟩ | ⟨ra,rb,n,x,h1,h2,rfl⟩
   · obtain ⟨m1,e1,s1,k1⟩:=nA a ra h1 (i + 1) (m.set i (.op none none)) (i :: op) (fA ho (by lia))
     have mi:m1 i=some (.op none none):=by rw [k1 i (by lia),Mm.set_same]
     refine ⟨(m1.set (i + 1 + ra.length) (.back i)).set i (uo (m1 i) (i + 1 + ra.length)),?_,?_,?_⟩
     · show foldM (i + 1) (ra ++ [(n,.fin)]) (m.set i (.op none none),i :: op)=_
       rw [iu,e1]
       rfl
     · rw [dS]
       refine .inl ⟨ra,n,gE.j8 a s1 (fun j a b=>by rw [Mm.bN _ _ (by lia),Mm.bN _ _ (by lia)]),rfl,rfl,?_,?_⟩
       · rw [Mm.set_same,mi]; rfl
       · rw [Mm.bN _ _ (by lia),Mm.set_same]
     · intro j hj
       simp only [List.length_cons,List.length_append,List.length_nil] at hj
       rw [Mm.bN _ _ (by lia),Mm.bN _ _ (by lia),k1 j (by lia),Mm.bN _ _ (by lia)]
   · obtain ⟨m1,e1,s1,k1⟩:=nA a ra h1 (i + 1) (m.set i (.op none none)) (i :: op) (fA ho (by lia))
     have mi:m1 i=some (.op none none):=by rw [k1 i (by lia),Mm.set_same]
     obtain ⟨m2,e2,s2,k2⟩:=nA b rb h2 (i + 2 + ra.length) ((m1.set i (qE (m1 i) (i + 1 + ra.length))).set (i + 1 + ra.length) (.back i)) (i :: op) (fA ho (by lia))
     have mi2:m2 i=some (.op (some (i + 1 + ra.length)) none):=by rw [k2 i (by lia),Mm.bN _ _ (by lia),Mm.set_same,mi]; rfl
     refine ⟨(m2.set (i + 2 + ra.length + rb.length) (.back i)).set i (uo (m2 i) (i + 2 + ra.length + rb.length)),?_,?_,?_⟩
     · show foldM (i + 1) (ra ++ (n,.els) :: (rb ++ [(x,.fin)])) (m.set i (.op none none),i :: op)=_
       rw [iu,e1]
       show foldM (i + 1 + ra.length + 1) (rb ++ [(x,.fin)]) ((m1.set i (qE (m1 i) (i + 1 + ra.length))).set (i + 1 + ra.length) (.back i),i :: op)=_
       rw [show i + 1 + ra.length + 1=i + 2 + ra.length by lia,iu,e2]
       rfl
     · rw [dS]
       refine .inr ⟨ra,rb,n,x,gE.j8 a s1 (fun j a b=>?_),gE.j8 b s2 (fun j a b=>?_),rfl,?_,?_,?_⟩
       · rw [Mm.bN _ _ (by lia),Mm.bN _ _ (by lia),k2 j (by lia),Mm.bN _ _ (by lia),Mm.bN _ _ (by lia)]
       · rw [Mm.bN _ _ (by lia),Mm.bN _ _ (by lia)]
       · rw [Mm.set_same,mi2]; rfl
       · rw [Mm.bN _ _ (by lia),Mm.bN _ _ (by lia),k2 _ (by lia),Mm.set_same]
       · rw [Mm.bN _ _ (by lia),Mm.set_same]
     · intro j hj
       simp only [List.length_cons,List.length_append,List.length_nil] at hj
       rw [Mm.bN _ _ (by lia),Mm.bN _ _ (by lia),k2 j (by lia),Mm.bN _ _ (by lia),Mm.bN _ _ (by lia),k1 j (by lia),Mm.bN _ _ (by lia)]
 | .whl k sg l r a,rs,h,i,m,op,ho=>by
   rw [eP] at h
   obtain ⟨ra,n,h1,rfl⟩:=h
   obtain ⟨m1,e1,s1,k1⟩:=nA a ra h1 (i + 1) (m.set i (.op none none)) (i :: op) (fA ho (by lia))
   have mi:m1 i=some (.op none none):=by rw [k1 i (by lia),Mm.set_same]
   refine ⟨(m1.set (i + 1 + ra.length) (.back i)).set i (uo (m1 i) (i + 1 + ra.length)),?_,?_,?_⟩
   · show foldM (i + 1) (ra ++ [(n,.fin)]) (m.set i (.op none none),i :: op)=_
     rw [iu,e1]
     rfl
   · rw [dS]
     refine ⟨ra,n,gE.j8 a s1 (fun j a b=>by rw [Mm.bN _ _ (by lia),Mm.bN _ _ (by lia)]),rfl,?_,?_⟩
     · rw [Mm.set_same,mi]; rfl
     · rw [Mm.bN _ _ (by lia),Mm.set_same]
   · intro j hj
     simp only [List.length_cons,List.length_append,List.length_nil] at hj
     rw [Mm.bN _ _ (by lia),Mm.bN _ _ (by lia),k1 j (by lia),Mm.bN _ _ (by lia)]
 | .ask k _,rs,h,i,m,op,_=>by rw [eP] at h; subst h; exact ⟨m,rfl,by rw [dS],fun _ _=>rfl⟩
 | .put k _ _,rs,h,i,m,op,_=>by rw [eP] at h; subst h; exact ⟨m,rfl,by rw [dS],fun _ _=>rfl⟩
 | .say k _,rs,h,i,m,op,_=>by rw [eP] at h; subst h; exact ⟨m,rfl,by rw [dS],fun _ _=>rfl⟩
 | .cL k _ _ _,rs,h,i,m,op,_=>by rw [eP] at h; subst h; exact ⟨m,rfl,by rw [dS],fun _ _=>rfl⟩
 | .stop k,rs,h,i,m,op,_=>by rw [eP] at h; subst h; exact ⟨m,rfl,by rw [dS],fun _ _=>rfl⟩
theorem nA:∀ (b:List Stm) (rs:List Row),cB b rs→∀ (i:Nat) (m:Mm) (op:List Nat),(∀ o∈op,o < i)→∃ m1,foldM i rs (m,op)=(m1,op)∧gE m1 b i rs∧∀ j,(j < i∨i + rs.length≤j)→m1 j=m j
 | [],rs,h,i,m,op,_=>by rw [cB] at h; subst h; exact ⟨m,rfl,by rw [gE],fun _ _=>rfl⟩
 | s :: r,rs,h,i,m,op,ho=>by
   rw [cB] at h
   obtain ⟨r1,r2,h1,h2,rfl⟩:=h
   obtain ⟨m1,e1,s1,k1⟩:=NU s r1 h1 i m op ho
   obtain ⟨m2,e2,s2,k2⟩:=nA r r2 h2 (i + r1.length) m1 op (fun o hx=>by have:=ho o hx; lia)
   refine ⟨m2,?_,?_,?_⟩
   · rw [iu,e1,e2]
   · rw [gE]
     exact ⟨r1,r2,dS.j8 s s1 (fun j a b=>k2 j (by lia)),s2,rfl⟩
   · intro j hj
     rw [List.length_append] at hj
     rw [k2 j (by lia),k1 j (by lia)]
end
end PG
namespace PG
open PM (W Tr)
noncomputable def to (R:List Row) (m:Mm) (p:Nat):Int:=
 if h:p < R.length then
   match (R[p]).2 with
   | .els=>match m p with
     | some (.back o)=>match m o with
       | some (.op _ (some e))=>if he:p≤e then to R m (e + 1) else 0
       | _=>0
     | _=>0
   | .fin=>match m p with
     | some (.back o)=>match R[o]? with
       | some (k,.whl)=>k
       | _=>to R m (p + 1)
     | _=>0
   | _=>(R[p]).1
 else 0
termination_by R.length - p
decreasing_by all_goals lia
theorem FU {R:List Row} {m:Mm} {p:Nat} (h:R.length≤p):to R m p=0:=by
 rw [to,dif_neg (by lia)]
theorem l0 {R:List Row} {p:Nat} {r:Row} (h:R[p]?=some r):∃ hp:p < R.length,R[p]=r:=List.getElem?_eq_some_iff.mp h
theorem Ec {R:List Row} {m:Mm} {p:Nat} {k:Int} {w:Wd} (h:R[p]?=some (k,w)) (h1:w≠.els) (h2:w≠.fin):to R m p=k:=by
 obtain ⟨hp,e⟩:=l0 h
 rw [to,dif_pos hp,e]
 cases w <;> first | rfl | exact absurd rfl h1 | exact absurd rfl h2
theorem KZ {R:List Row} {m:Mm} {p o e:Nat} {k:Int} {x:Option Nat} (h:R[p]?=some (k,.els)) (h1:m p=some (.back o)) (h2:m o=some (.op x (some e))) (h3:p≤e):to R m p=to R m (e + 1):=by
 obtain ⟨hp,q⟩:=l0 h
 rw [to,dif_pos hp,q]
 simp only [h1,h2]
 rw [dif_pos h3]
theorem K0 {R:List Row} {m:Mm} {p o:Nat} {k k':Int} (h:R[p]?=some (k,.fin)) (h1:m p=some (.back o)) (h2:R[o]?=some (k',.whl)):to R m p=k':=by
 obtain ⟨hp,q⟩:=l0 h
 rw [to,dif_pos hp,q]
 simp only [h1,h2]
theorem FV {R:List Row} {m:Mm} {p o:Nat} {k k':Int} (h:R[p]?=some (k,.fin)) (h1:m p=some (.back o)) (h2:R[o]?=some (k',.ifs)):to R m p=to R m (p + 1):=by
 obtain ⟨hp,q⟩:=l0 h
 rw [to,dif_pos hp,q]
 simp only [h1,h2]
noncomputable def eJ (R:List Row) (m:Mm) (p:Nat):List eZ:=match R[p]? with
 | none=>[]
 | some (k,.stop)=>[(k,.stop,[0])]
 | some (_,.els)=>[]
 | some (_,.fin)=>[]
 | some (k,.ifs)=>match m p with
   | some (.op x (some e))=>[(k,.ifs,[to R m (p + 1),to R m (x.getD e + 1)])]
   | _=>[]
 | some (k,.whl)=>match m p with
   | some (.op x (some e))=>[(k,.whl,[to R m (p + 1),to R m (x.getD e + 1)])]
   | _=>[]
 | some (k,w)=>[(k,w,[to R m (p + 1)])]
noncomputable def cf (R:List Row) (m:Mm):Nat→Nat→List eZ
 | _,0=>[]
 | i,n + 1=>eJ R m i ++ cf R m (i + 1) n
theorem dJ (R:List Row) (m:Mm):∀ (a b i:Nat),cf R m i (a + b)=cf R m i a ++ cf R m (i + a) b
 | 0,b,i=>by simp [cf]
 | a + 1,b,i=>by
   rw [show a + 1 + b=(a + b) + 1 by lia,cf,cf,dJ R m a b (i + 1),List.append_assoc,show i + 1 + a=i + (a + 1) by lia]
noncomputable def At (R:List Row) (i:Nat) (rs:List Row):Prop:=∀ j,j < rs.length→R[i + j]?=rs[j]?
theorem At.left {R:List Row} {i:Nat} {a b:List Row} (h:At R i (a ++ b)):At R i a:=fun j hj=>by
 rw [h j (by rw [List.length_append]; lia),List.getElem?_append_left hj]
theorem At.right {R:List Row} {i:Nat} {a b:List Row} (h:At R i (a ++ b)):At R (i + a.length) b:=fun j hj=>by
 have:=h (a.length + j) (by rw [List.length_append]; lia)
 rw [List.getElem?_append_right (by lia),show a.length + j - a.length=j by lia] at this
 rw [show i + a.length + j=i + (a.length + j) by lia]
 exact this
theorem At.head {R:List Row} {i:Nat} {x:Row} {b:List Row} (h:At R i (x :: b)):R[i]?=some x:=by
 have:=h 0 (by simp)
 simpa using this
theorem At.tail {R:List Row} {i:Nat} {x:Row} {b:List Row} (h:At R i (x :: b)):At R (i + 1) b:=At.right (a:=[x]) h
theorem IQ {m:Mm}:∀ (s:Stm) {i:Nat} {rs:List Row},dS m s i rs→∃ t,rs=(s.row,s.wd) :: t∧s.wd≠.els∧s.wd≠.fin
 | .ifs k _ _ _ a b,i,rs,h=>by
   rw [dS] at h
   rcases h with ⟨ra,n,_,_,rfl,_⟩ | ⟨ra,rb,n,x,_,_,rfl,_⟩
   · exact ⟨_,rfl,by simp [Stm.wd],by simp [Stm.wd]⟩
   · exact ⟨_,rfl,by simp [Stm.wd],by simp [Stm.wd]⟩
 | .whl k _ _ _ a,i,rs,h=>by
   rw [dS] at h
   obtain ⟨ra,n,_,rfl,_⟩:=h
   exact ⟨_,rfl,by simp [Stm.wd],by simp [Stm.wd]⟩
 | .ask k _,_,rs,h=>by rw [dS] at h; exact ⟨[],h,by simp [Stm.wd],by simp [Stm.wd]⟩
 | .put k _ _,_,rs,h=>by rw [dS] at h; exact ⟨[],h,by simp [Stm.wd],by simp [Stm.wd]⟩
 | .say k _,_,rs,h=>by rw [dS] at h; exact ⟨[],h,by simp [Stm.wd],by simp [Stm.wd]⟩
 | .cL k _ _ _,_,rs,h=>by rw [dS] at h; exact ⟨[],h,by simp [Stm.wd],by simp [Stm.wd]⟩
 | .stop k,_,rs,h=>by rw [dS] at h; exact ⟨[],h,by simp [Stm.wd],by simp [Stm.wd]⟩
theorem qF {R:List Row} {m:Mm}:∀ (b:List Stm) {i:Nat} {rs:List Row},gE m b i rs→At R i rs→to R m i=aQ b (to R m (i + rs.length))
 | [],i,rs,h,_=>by rw [gE] at h; subst h; rfl
 | s :: r,i,rs,h,ha=>by
   rw [gE] at h
   obtain ⟨r1,r2,h1,h2,rfl⟩:=h
   obtain ⟨t,rfl,n1,n2⟩:=IQ s h1
   rw [Ec (At.head ha.left) n1 n2]
   rfl
mutual
theorem OX {R:List Row} {m:Mm}:∀ (s:Stm) {i:Nat} {rs:List Row},dS m s i rs→At R i rs→cf R m i rs.length=dI s (to R m (i + rs.length))
 | .ifs k sg l r a b,i,rs,h,ha=>by
   rw [dS] at h
   rcases h with ⟨ra,n,h1,rfl,rfl,h3,h4⟩ | ⟨ra,rb,n,x,h1,h2,rfl,h3,h4,h5⟩
   · have aH:=ha.head
     have aA:=ha.tail.left
     have aF:=ha.tail.right.head
     have tF:to R m (i + 1 + ra.length)=to R m (i + 1 + ra.length + 1):=FV aF h4 aH
     have tA:=qF a h1 aA
     have e:((k,Wd.ifs) :: (ra ++ [(n,Wd.fin)])).length=1 + (ra.length + 1):=by simp; lia
     rw [e,dJ,dJ,wc a h1 aA,dI,tF,show i + (1 + (ra.length + 1))=i + 1 + ra.length + 1 by lia]
     have w1:cf R m i 1=[(k,.ifs,[aQ a (to R m (i + 1 + ra.length + 1)),to R m (i + 1 + ra.length + 1)])]:=by
       simp only [cf,eJ,aH,h3,List.append_nil,Option.getD_none]
       rw [tA,tF]
     have w2:cf R m (i + 1 + ra.length) 1=[]:=by simp only [cf,eJ,aF,List.append_nil]
     rw [w1,w2]
     simp [aU,aQ]
   · have aH:=ha.head
     have aA:=ha.tail.left
     have aE:=ha.tail.right.head
     have aB:=ha.tail.right.tail.left
     have aF:=ha.tail.right.tail.right.head
     rw [show i + 1 + ra.length + 1=i + 2 + ra.length by lia] at aB aF
     have tF:to R m (i + 2 + ra.length + rb.length)=to R m (i + 2 + ra.length + rb.length + 1):=FV aF h5 aH
     have tE:to R m (i + 1 + ra.length)=to R m (i + 2 + ra.length + rb.length + 1):=KZ aE h4 h3 (by lia)
     have tA:=qF a h1 aA
     have tB:=qF b h2 aB
     have e:((k,Wd.ifs) :: (ra ++ (n,Wd.els) :: (rb ++ [(x,Wd.fin)]))).length=1 + (ra.length + (1 + (rb.length + 1))):=by simp; lia
     rw [e,dJ,dJ,dJ,dJ,wc a h1 aA,dI,show i + (1 + (ra.length + (1 + (rb.length + 1))))=i + 2 + ra.length + rb.length + 1 by lia,tE,show i + 1 + ra.length + 1=i + 2 + ra.length by lia,wc b h2 aB,tF]
     have w1:cf R m i 1=[(k,.ifs,[aQ a (to R m (i + 2 + ra.length + rb.length + 1)),aQ b (to R m (i + 2 + ra.length + rb.length + 1))])]:=by
       simp only [cf,eJ,aH,h3,List.append_nil,Option.getD_some]
       rw [tA,tE,show i + 1 + ra.length + 1=i + 2 + ra.length by lia,tB,tF]
     have w2:cf R m (i + 1 + ra.length) 1=[]:=by simp only [cf,eJ,aE,List.append_nil]
     have w3:cf R m (i + 2 + ra.length + rb.length) 1=[]:=by simp only [cf,eJ,aF,List.append_nil]
     rw [w1,w2,w3]
     simp
 | .whl k sg l r a,i,rs,h,ha=>by
   rw [dS] at h
   obtain ⟨ra,n,h1,rfl,h3,h4⟩:=h
   have aH:=ha.head
   have aA:=ha.tail.left
   have aF:=ha.tail.right.head
   have tF:to R m (i + 1 + ra.length)=k:=K0 aF h4 aH
   have tA:=qF a h1 aA
   have e:((k,Wd.whl) :: (ra ++ [(n,Wd.fin)])).length=1 + (ra.length + 1):=by simp; lia
   rw [e,dJ,dJ,wc a h1 aA,dI,tF,show i + (1 + (ra.length + 1))=i + 1 + ra.length + 1 by lia]
   have w1:cf R m i 1=[(k,.whl,[aQ a k,to R m (i + 1 + ra.length + 1)])]:=by
     simp only [cf,eJ,aH,h3,List.append_nil,Option.getD_none]
     rw [tA,tF]
   have w2:cf R m (i + 1 + ra.length) 1=[]:=by simp only [cf,eJ,aF,List.append_nil]
   rw [w1,w2]
   simp
 | .ask k _,i,rs,h,ha=>by rw [dS] at h; subst h; have:=ha.head; simp [cf,eJ,this,dI]
 | .put k _ _,i,rs,h,ha=>by rw [dS] at h; subst h; have:=ha.head; simp [cf,eJ,this,dI]
 | .say k _,i,rs,h,ha=>by rw [dS] at h; subst h; have:=ha.head; simp [cf,eJ,this,dI]
 | .cL k _ _ _,i,rs,h,ha=>by rw [dS] at h; subst h; have:=ha.head; simp [cf,eJ,this,dI]
 | .stop k,i,rs,h,ha=>by rw [dS] at h; subst h; have:=ha.head; simp [cf,eJ,this,dI]
theorem wc {R:List Row} {m:Mm}:∀ (b:List Stm) {i:Nat} {rs:List Row},gE m b i rs→At R i rs→cf R m i rs.length=aU b (to R m (i + rs.length))
 | [],i,rs,h,_=>by rw [gE] at h; subst h; rfl
 | s :: r,i,rs,h,ha=>by
   rw [gE] at h
   obtain ⟨r1,r2,h1,h2,rfl⟩:=h
   rw [List.length_append,dJ,OX s h1 ha.left,wc r h2 ha.right,aU,qF r h2 ha.right,show i + r1.length + r2.length=i + (r1.length + r2.length) by lia]
end
noncomputable def oh (R:List Row):Mm:=(foldM 0 R (fun _=>none,[])).1
theorem IS {b:List Stm} {R:List Row} (h:cB b R):cf R (oh R) 0 R.length=aU b 0:=by
 obtain ⟨m1,e,s,_⟩:=nA b R h 0 (fun _=>none) [] (by simp)
 have em:oh R=m1:=by unfold oh; rw [e]
 rw [em,wc b s (fun j _=>by rw [Nat.zero_add]),Nat.zero_add,FU (Nat.le_refl _)]
end PG
namespace PG
open PM (W Tr)
noncomputable def oK (n:Nat) (mode:Int) (rows:List Row):Prop:=(rows.filter plainRow).Pairwise (fun a b=>a.1 < b.1)∧∀ r∈rows.filter plainRow,0 < r.1∧r.1 < number n rows mode
theorem FW (n:Nat) (rows:List Row) (mode:Int):0 < number n rows mode:=by
 unfold number
 split
 · lia
 · split <;> lia
theorem Ed (n:Nat) (rows:List Row) (mode:Int) (r:Row):number n rows mode≤number n (rows ++ [r]) mode∧(plainRow r=true→number n rows mode < number n (rows ++ [r]) mode):=by
 unfold number
 simp only [List.length_append,List.length_singleton,List.filter_append]
 split
 · exact ⟨by lia,fun _=>by lia⟩
 · split
   · refine ⟨by lia,fun h=>?_⟩
     have:(List.filter (fun r:Row=>decide (r.2≠.els∧r.2≠.fin)) [r]).length=1:=by
       unfold plainRow at h
       rw [List.filter_cons,if_pos h]
       rfl
     lia
   · exact ⟨by lia,fun _=>by lia⟩
theorem oK.more {n:Nat} {mode:Int} {rows:List Row} (h:oK n mode rows) (w:Wd):oK n mode (rows ++ [(number n rows mode,w)]):=by
 obtain ⟨h1,h2⟩:=h
 obtain ⟨m1,m2⟩:=Ed n rows mode (number n rows mode,w)
 unfold oK
 rw [List.filter_append]
 by_cases hp:plainRow (number n rows mode,w)=true
 · rw [show [(number n rows mode,w)].filter plainRow=[(number n rows mode,w)] by rw [List.filter_cons,if_pos hp]; rfl]
   refine ⟨List.pairwise_append.mpr ⟨h1,List.pairwise_singleton _ _,fun a ha b hb=>?_⟩,fun r hr=>?_⟩
   · rw [List.mem_singleton.mp hb]
     exact (h2 a ha).2
   · rcases List.mem_append.mp hr with hr | hr
     · have:=h2 r hr
       lia
     · rw [List.mem_singleton.mp hr]
       exact ⟨FW _ _ _,m2 hp⟩
 · rw [show [(number n rows mode,w)].filter plainRow=[] by rw [List.filter_cons,if_neg hp]; rfl,List.append_nil]
   refine ⟨h1,fun r hr=>?_⟩
   have:=h2 r hr
   lia
theorem K1 (sc:List Int) (bs:List Box) (mode:Int) {w:Walk} (h:oK bs.length mode w.rows):oK bs.length mode (turn sc bs mode w).rows:=by
 obtain ⟨p,a7,rows⟩:=w
 unfold turn
 simp only at h ⊢
 split
 · exact h.more _
 · cases a7 with
   | nil=>exact h
   | cons f r=>
     simp only
     split
     · exact h.more _
     · split
       · exact h.more _
       · exact h.more _
theorem Bp (sc:List Int) (bs:List Box) (mode:Int):∀ (n:Nat) {w:Walk},oK bs.length mode w.rows→oK bs.length mode (turns sc bs mode n w).rows
 | 0,_,h=>h
 | n + 1,_,h=>Bp sc bs mode n (K1 sc bs mode h)
theorem Ee (n:Nat) (mode:Int):∀ (m:Nat) {w:Walk},oK n mode w.rows→oK n mode (ends n mode m w).rows
 | 0,_,h=>h
 | m + 1,w,h=>by
   unfold ends
   split
   · exact Ee n mode m (h.more _)
   · exact h
theorem Bq (sc:List Int) (many p:Nat):(cE (cD sc many p).1.body).Pairwise (fun a b=>a.1 < b.1)∧∀ r∈cE (cD sc many p).1.body,0 < r.1:=by
 rw [Bj]
 have key:∃ n mode,oK n mode (cD sc many p).2:=by
   unfold cD
   simp only
   generalize bP sc (next sc p % 4) (next sc (p + 1) % 5).toNat 0 (p + 2)=bs
   refine ⟨bs.1.length,next sc bs.2 % 4,Ee _ _ _ (Bp _ _ _ _ ?_)⟩
   exact ⟨List.Pairwise.nil,fun r hr=>by cases hr⟩
 obtain ⟨n,mode,h1,h2⟩:=key
 exact ⟨h1,fun r hr=>(h2 r hr).1⟩
mutual
noncomputable def l5:Stm→List Stm
 | .ifs k sg l r a b=>.ifs k sg l r a b :: (aC a ++ aC b)
 | .whl k sg l r a=>.whl k sg l r a :: aC a
 | s=>[s]
noncomputable def aC:List Stm→List Stm
 | []=>[]
 | s :: r=>l5 s ++ aC r
end
mutual
theorem IT:∀ s:Stm,(l5 s).map (fun x=>(x.row,x.wd))=gy s
 | .ifs k sg l r a b=>by
   rw [l5,gy,List.map_cons,List.map_append,fG a,fG b]
   rfl
 | .whl k sg l r a=>by
   rw [l5,gy,List.map_cons,fG a]
   rfl
 | .ask k _=>rfl
 | .put k _ _=>rfl
 | .say k _=>rfl
 | .cL k _ _ _=>rfl
 | .stop k=>rfl
theorem fG:∀ b:List Stm,(aC b).map (fun x=>(x.row,x.wd))=cE b
 | []=>rfl
 | s :: r=>by simp [aC,cE,IT s,fG r]
end
theorem K2 {b:List Stm} (h:(cE b).Pairwise (fun a b=>a.1 < b.1)):(aC b).Pairwise (fun a b=>a.row < b.row):=by
 rw [← fG,List.pairwise_map] at h
 exact h
theorem ur (sc:List Int) (og:Int):∀ (n k p:Nat),k + n≤4→((bP sc og n k p).1.map (·.name))=(List.range n).map (fun (i:Nat)=>pick [] cT (((k:Int) + i - og) % 4))
 | 0,k,p,_=>rfl
 | n + 1,k,p,h=>by
   rw [bP,List.range_succ_eq_map]
   simp only [List.map_cons,List.map_map]
   rw [ur sc og n (k + 1) (p + 3) (by lia)]
   congr 1
   simp
   intro i _
   rw [show (k:Int) + 1 + (i:Int)=(k:Int) + ((i:Int) + 1) by lia]
theorem Ef (a b:Nat) (ha:a < 4) (hb:b < 4) (e:pick [] cT (a:Int)=pick [] cT (b:Int)):a=b:=by
 have key:∀ (a b:Fin 4),pick [] cT ((a:Nat):Int)=pick [] cT ((b:Nat):Int)→a=b:=by decide
 exact congrArg Fin.val (key ⟨a,ha⟩ ⟨b,hb⟩ e)
theorem Ce (sc:List Int) (p:Nat):((gB sc p).map (·.name)).Nodup∧(gB sc p).length≤4:=by
 unfold gB
 have b:=gZ sc (p + 1)
 have l:=(lY sc (next sc p % 4) (next sc (p + 1) % 5).toNat 0 (p + 2)).1
 rw [ur sc _ _ 0 _ (by lia),l]
 refine ⟨?_,by lia⟩
 have hn:(next sc (p + 1) % 5).toNat≤4:=by lia
 generalize (next sc (p + 1) % 5).toNat=n at *
 generalize next sc p % 4=og at *
 refine List.pairwise_map.mpr (List.Pairwise.imp_of_mem ?_ (List.nodup_range (n:=n)))
 intro i j hi hj hne e
 rw [List.mem_range] at hi hj
 have e1:((((0:Nat):Int) + i - og) % 4)=(((((0:Nat):Int) + i - og) % 4).toNat:Int):=by lia
 have e2:((((0:Nat):Int) + j - og) % 4)=(((((0:Nat):Int) + j - og) % 4).toNat:Int):=by lia
 rw [e1,e2] at e
 have:=Ef _ _ (by lia) (by lia) e
 lia
end PG
namespace PG
open PM (W Tr)
noncomputable def cM:Nat→List Row→Mm × List Nat→Prop
 | _,[],_=>True
 | i,r :: l,st=>(r.2=.els∨r.2=.fin→∃ o t e f,st.2=o :: t∧st.1 o=some (.op e f))∧cM (i + 1) l (uq st i r.2)
theorem jB:∀ (a b:List Row) (i:Nat) (st:Mm × List Nat),cM i a st→cM (i + a.length) b (foldM i a st)→cM i (a ++ b) st
 | [],b,i,st,_,h=>h
 | r :: a,b,i,st,h1,h2=>by
   rw [List.cons_append,cM]
   rw [cM] at h1
   refine ⟨h1.1,jB a b (i + 1) _ h1.2 ?_⟩
   rw [foldM,List.length_cons,show i + (a.length + 1)=i + 1 + a.length by lia] at h2
   exact h2
theorem Eg:∀ (a:List Row) (i:Nat) (st:Mm × List Nat),cM i a st→∀ j r,a[j]?=some r→(r.2=.els∨r.2=.fin)→∃ o t e f,(foldM i (a.take j) st).2=o :: t∧(foldM i (a.take j) st).1 o=some (.op e f)
 | [],i,st,_,j,r,hj,_=>by simp at hj
 | x :: a,i,st,h,0,r,hj,hr=>by
   rw [cM] at h
   simp at hj
   subst hj
   exact h.1 hr
 | x :: a,i,st,h,j + 1,r,hj,hr=>by
   rw [cM] at h
   rw [List.take_succ_cons,foldM]
   exact Eg a (i + 1) _ h.2 j r (by simpa using hj) hr
mutual
theorem QP:∀ (s:Stm) (rs:List Row),eP s rs→∀ (i:Nat) (m:Mm) (op:List Nat),(∀ o∈op,o < i)→cM i rs (m,op)
 | .ifs k sg l r a b,rs,h,i,m,op,ho=>by
   rw [eP] at h
   rcases h with ⟨ra,n,h1,rfl,rfl⟩ | ⟨ra,rb,n,x,h1,h2,rfl⟩
   · obtain ⟨m1,e1,s1,k1⟩:=nA a ra h1 (i + 1) (m.set i (.op none none)) (i :: op) (fA ho (by lia))
     have mi:m1 i=some (.op none none):=by rw [k1 i (by lia),Mm.set_same]
     rw [cM]
     refine ⟨fun z=>by simp at z,jB ra _ (i + 1) _ (Br a ra h1 (i + 1) _ _ (fA ho (by lia))) ?_⟩
     show cM _ _ (foldM (i + 1) ra (m.set i (.op none none),i :: op))
     rw [e1,cM,cM]
     exact ⟨fun _=>⟨i,op,_,_,rfl,mi⟩,trivial⟩
   · obtain ⟨m1,e1,s1,k1⟩:=nA a ra h1 (i + 1) (m.set i (.op none none)) (i :: op) (fA ho (by lia))
     have mi:m1 i=some (.op none none):=by rw [k1 i (by lia),Mm.set_same]
     obtain ⟨m2,e2,s2,k2⟩:=nA b rb h2 (i + 1 + ra.length + 1) ((m1.set i (qE (m1 i) (i + 1 + ra.length))).set (i + 1 + ra.length) (.back i)) (i :: op) (fA ho (by lia))
     have mi2:m2 i=some (.op (some (i + 1 + ra.length)) none):=by rw [k2 i (by lia),Mm.bN _ _ (by lia),Mm.set_same,mi]; rfl
     rw [cM]
     refine ⟨fun z=>by simp at z,jB ra _ (i + 1) _ (Br a ra h1 (i + 1) _ _ (fA ho (by lia))) ?_⟩
     show cM _ _ (foldM (i + 1) ra (m.set i (.op none none),i :: op))
     rw [e1,cM]
     refine ⟨fun _=>⟨i,op,_,_,rfl,mi⟩,?_⟩
     show cM _ (rb ++ [(x,.fin)]) ((m1.set i (qE (m1 i) (i + 1 + ra.length))).set (i + 1 + ra.length) (.back i),i :: op)
     refine jB rb _ _ _ (Br b rb h2 _ _ _ (fA ho (by lia))) ?_
     rw [e2,cM,cM]
     exact ⟨fun _=>⟨i,op,_,_,rfl,mi2⟩,trivial⟩
 | .whl k sg l r a,rs,h,i,m,op,ho=>by
   rw [eP] at h
   obtain ⟨ra,n,h1,rfl⟩:=h
   obtain ⟨m1,e1,s1,k1⟩:=nA a ra h1 (i + 1) (m.set i (.op none none)) (i :: op) (fA ho (by lia))
   have mi:m1 i=some (.op none none):=by rw [k1 i (by lia),Mm.set_same]
   rw [cM]
   refine ⟨fun z=>by simp at z,jB ra _ (i + 1) _ (Br a ra h1 (i + 1) _ _ (fA ho (by lia))) ?_⟩
   show cM _ _ (foldM (i + 1) ra (m.set i (.op none none),i :: op))
   rw [e1,cM,cM]
   exact ⟨fun _=>⟨i,op,_,_,rfl,mi⟩,trivial⟩
 | .ask k _,rs,h,i,m,op,_=>by rw [eP] at h; subst h; rw [cM,cM]; exact ⟨fun z=>by simp at z,trivial⟩
 | .put k _ _,rs,h,i,m,op,_=>by rw [eP] at h; subst h; rw [cM,cM]; exact ⟨fun z=>by simp at z,trivial⟩
 | .say k _,rs,h,i,m,op,_=>by rw [eP] at h; subst h; rw [cM,cM]; exact ⟨fun z=>by simp at z,trivial⟩
 | .cL k _ _ _,rs,h,i,m,op,_=>by rw [eP] at h; subst h; rw [cM,cM]; exact ⟨fun z=>by simp at z,trivial⟩
 | .stop k,rs,h,i,m,op,_=>by rw [eP] at h; subst h; rw [cM,cM]; exact ⟨fun z=>by simp at z,trivial⟩
theorem Br:∀ (b:List Stm) (rs:List Row),cB b rs→∀ (i:Nat) (m:Mm) (op:List Nat),(∀ o∈op,o < i)→cM i rs (m,op)
 | [],rs,h,i,m,op,_=>by rw [cB] at h; subst h; rw [cM]; trivial
 | s :: r,rs,h,i,m,op,ho=>by
   rw [cB] at h
   obtain ⟨r1,r2,h1,h2,rfl⟩:=h
   obtain ⟨m1,e1,s1,k1⟩:=NU s r1 h1 i m op ho
   refine jB r1 r2 i _ (QP s r1 h1 i m op ho) ?_
   rw [e1]
   exact Br r r2 h2 _ _ _ (fun o hx=>by have:=ho o hx; lia)
end
noncomputable def R7 (R:List Row) (m:Mm) (p:Nat):Prop:=∃ x e,m p=some (.op x (some e))∧p≤e∧e < R.length∧∀ y,x=some y→y < R.length
noncomputable def yL (R:List Row) (m:Mm) (p:Nat):Prop:=∀ k w,R[p]?=some (k,w)→
 (w=.els→∃ o x e,m p=some (.back o)∧m o=some (.op x (some e))∧p≤e∧e < R.length)∧
 (w=.fin→∃ o k' w',m p=some (.back o)∧R[o]?=some (k',w')∧(w'=.ifs∨w'=.whl))∧
 (w=.ifs∨w=.whl→R7 R m p)
theorem iM {R:List Row} {m:Mm} {p:Nat} {k:Int} {w:Wd} (h:R[p]?=some (k,w)) (h1:w≠.els) (h2:w≠.fin) (h3:w≠.ifs) (h4:w≠.whl):yL R m p:=fun k' w' e=>by
 rw [h] at e
 cases e
 exact ⟨fun z=>absurd z h1,fun z=>absurd z h2,fun z=>z.elim (fun z=>absurd z h3) (fun z=>absurd z h4)⟩
theorem sU {R:List Row} {m:Mm} {p e:Nat} {x:Option Nat} {k:Int} {w:Wd} (h:R[p]?=some (k,w)) (hw:w=.ifs∨w=.whl) (hm:m p=some (.op x (some e))) (he:p≤e) (le:e < R.length) (lx:∀ y,x=some y→y < R.length):yL R m p:=fun k' w' q=>by
 rw [h] at q
 cases q
 exact ⟨fun z=>(by rcases hw with rfl | rfl <;> cases z),fun z=>(by rcases hw with rfl | rfl <;> cases z),fun _=>⟨x,e,hm,he,le,lx⟩⟩
theorem we {R:List Row} {m:Mm} {p o:Nat} {k k':Int} {w':Wd} (h:R[p]?=some (k,.fin)) (hm:m p=some (.back o)) (ho:R[o]?=some (k',w')) (hw:w'=.ifs∨w'=.whl):yL R m p:=fun k2 w2 q=>by
 rw [h] at q
 cases q
 exact ⟨fun z=>(by cases z),fun _=>⟨o,k',w',hm,ho,hw⟩,fun z=>(by rcases z with z | z <;> cases z)⟩
theorem IU {R:List Row} {m:Mm} {p o e:Nat} {x:Option Nat} {k:Int} (h:R[p]?=some (k,.els)) (hm:m p=some (.back o)) (ho:m o=some (.op x (some e))) (h1:p≤e) (h2:e < R.length):yL R m p:=fun k2 w2 q=>by
 rw [h] at q
 cases q
 exact ⟨fun _=>⟨o,x,e,hm,ho,h1,h2⟩,fun z=>(by cases z),fun z=>(by rcases z with z | z <;> cases z)⟩
mutual
theorem MV {R:List Row} {m:Mm}:∀ (s:Stm) {i:Nat} {rs:List Row},dS m s i rs→At R i rs→∀ j,j < rs.length→yL R m (i + j)
 | .ifs k sg l r a b,i,rs,h,ha,j,hj=>by
   rw [dS] at h
   rcases h with ⟨ra,n,h1,rfl,rfl,m1,m2⟩ | ⟨ra,rb,n,x,h1,h2,rfl,m1,m2,m3⟩
   · have r0:=ha.head
     have ra':=ha.tail.left
     have r2:=ha.tail.right.head
     have l2:=(l0 r2).1
     simp only [List.length_cons,List.length_append,List.length_nil] at hj
     rcases Nat.eq_zero_or_pos j with rfl | jp
     · exact sU r0 (.inl rfl) m1 (by lia) l2 (fun _ z=>by cases z)
     · by_cases hz:j < ra.length + 1
       · have:=qG a h1 ra' (j - 1) (by lia)
         rw [show i + 1 + (j - 1)=i + j by lia] at this
         exact this
       · rw [show i + j=i + 1 + ra.length by lia]
         exact we r2 m2 r0 (.inl rfl)
   · have r0:=ha.head
     have ra':=ha.tail.left
     have r2:=ha.tail.right.head
     have rb':=ha.tail.right.tail.left
     have r3:=ha.tail.right.tail.right.head
     rw [show i + 1 + ra.length + 1 + rb.length=i + 2 + ra.length + rb.length by lia] at r3
     rw [show i + 1 + ra.length + 1=i + 2 + ra.length by lia] at rb'
     have l2:=(l0 r2).1
     have l3:=(l0 r3).1
     simp only [List.length_cons,List.length_append,List.length_nil] at hj
     rcases Nat.eq_zero_or_pos j with rfl | jp
     · exact sU r0 (.inl rfl) m1 (by lia) l3 (fun _ z=>by cases z; exact l2)
     · by_cases hz:j < ra.length + 1
       · have:=qG a h1 ra' (j - 1) (by lia)
         rw [show i + 1 + (j - 1)=i + j by lia] at this
         exact this
       · by_cases hy:j=ra.length + 1
         · rw [show i + j=i + 1 + ra.length by lia]
           exact IU r2 m2 m1 (by lia) l3
         · by_cases hx:j < ra.length + 2 + rb.length
           · have:=qG b h2 rb' (j - 2 - ra.length) (by lia)
             rw [show i + 2 + ra.length + (j - 2 - ra.length)=i + j by lia] at this
             exact this
           · rw [show i + j=i + 2 + ra.length + rb.length by lia]
             exact we r3 m3 r0 (.inl rfl)
 | .whl k sg l r a,i,rs,h,ha,j,hj=>by
   rw [dS] at h
   obtain ⟨ra,n,h1,rfl,m1,m2⟩:=h
   have r0:=ha.head
   have ra':=ha.tail.left
   have r2:=ha.tail.right.head
   have l2:=(l0 r2).1
   simp only [List.length_cons,List.length_append,List.length_nil] at hj
   rcases Nat.eq_zero_or_pos j with rfl | jp
   · exact sU r0 (.inr rfl) m1 (by lia) l2 (fun _ z=>by cases z)
   · by_cases hz:j < ra.length + 1
     · have:=qG a h1 ra' (j - 1) (by lia)
       rw [show i + 1 + (j - 1)=i + j by lia] at this
       exact this
     · rw [show i + j=i + 1 + ra.length by lia]
       exact we r2 m2 r0 (.inr rfl)
 | .ask k _,i,rs,h,ha,j,hj=>by rw [dS] at h; subst h; have:=ha.head; simp at hj; subst hj; exact iM this (by simp) (by simp) (by simp) (by simp)
 | .put k _ _,i,rs,h,ha,j,hj=>by rw [dS] at h; subst h; have:=ha.head; simp at hj; subst hj; exact iM this (by simp) (by simp) (by simp) (by simp)
 | .say k _,i,rs,h,ha,j,hj=>by rw [dS] at h; subst h; have:=ha.head; simp at hj; subst hj; exact iM this (by simp) (by simp) (by simp) (by simp)
 | .cL k _ _ _,i,rs,h,ha,j,hj=>by rw [dS] at h; subst h; have:=ha.head; simp at hj; subst hj; exact iM this (by simp) (by simp) (by simp) (by simp)
 | .stop k,i,rs,h,ha,j,hj=>by rw [dS] at h; subst h; have:=ha.head; simp at hj; subst hj; exact iM this (by simp) (by simp) (by simp) (by simp)
theorem qG {R:List Row} {m:Mm}:∀ (b:List Stm) {i:Nat} {rs:List Row},gE m b i rs→At R i rs→∀ j,j < rs.length→yL R m (i + j)
 | [],i,rs,h,ha,j,hj=>by rw [gE] at h; subst h; simp at hj
 | s :: r,i,rs,h,ha,j,hj=>by
   rw [gE] at h
   obtain ⟨r1,r2,h1,h2,rfl⟩:=h
   rw [List.length_append] at hj
   by_cases hz:j < r1.length
   · exact MV s h1 ha.left j hz
   · have:=qG r h2 ha.right (j - r1.length) (by lia)
     rw [show i + r1.length + (j - r1.length)=i + j by lia] at this
     exact this
end
theorem Bs {b:List Stm} {R:List Row} (h:cB b R) (p:Nat) (hp:p < R.length):yL R (oh R) p:=by
 obtain ⟨m1,e,s,_⟩:=nA b R h 0 (fun _=>none) [] (by simp)
 have em:oh R=m1:=by unfold oh; rw [e]
 rw [em]
 have:=qG b s (R:=R) (fun j _=>by rw [Nat.zero_add]) p hp
 rw [Nat.zero_add] at this
 exact this
end PG
namespace PG
open PM (W Tr)
theorem oM {α:Type} (d:α) {l:List α} {i:Int} (h0:0≤i) (h1:i < l.length):pick d l i∈l:=by
 unfold pick
 have lt:i.toNat < l.length:=by lia
 rw [List.getD_eq_getElem?_getD,List.getElem?_eq_getElem lt]
 exact List.getElem_mem lt
noncomputable def IF:Tr→Prop
 | .num _=>True
 | .box x=>x∈cT
 | .bin o l r=>o∈([[43],[45],[42]]:List W)∧IF l∧IF r
section
variable {nm:W→Prop} {ex:Tr→Prop} {sg:W→Prop}
mutual
theorem MW:∀ (s x:Stm),OkS nm ex sg s→x∈l5 s→OkS nm ex sg x
 | .ifs k s l r a b,x,h,m=>by
   rw [l5] at m
   rcases List.mem_cons.mp m with rfl | m
   · exact h
   · rw [OkS] at h
     rcases List.mem_append.mp m with m | m
     · exact l9 a x h.2.2.2.1 m
     · exact l9 b x h.2.2.2.2 m
 | .whl k s l r a,x,h,m=>by
   rw [l5] at m
   rcases List.mem_cons.mp m with rfl | m
   · exact h
   · rw [OkS] at h
     exact l9 a x h.2.2.2 m
 | .ask k b,x,h,m=>by simp only [l5,List.mem_singleton] at m; subst m; exact h
 | .put k b e,x,h,m=>by simp only [l5,List.mem_singleton] at m; subst m; exact h
 | .say k e,x,h,m=>by simp only [l5,List.mem_singleton] at m; subst m; exact h
 | .cL k s l r,x,h,m=>by simp only [l5,List.mem_singleton] at m; subst m; exact h
 | .stop k,x,h,m=>by simp only [l5,List.mem_singleton] at m; subst m; exact h
theorem l9:∀ (b:List Stm) (x:Stm),OkB nm ex sg b→x∈aC b→OkS nm ex sg x
 | [],x,_,m=>by simp [aC] at m
 | s :: r,x,h,m=>by
   rw [aC] at m
   rw [OkB] at h
   rcases List.mem_append.mp m with m | m
   · exact MW s x h.1 m
   · exact l9 r x h.2 m
end
end
end PG
namespace PG
open PM (W Tr)
noncomputable def i7 (bs:List Box):Tr→Prop
 | .num n=>0≤n∧n < 1000
 | .box x=>x∈bs.map (·.name)
 | .bin o l r=>o∈([[43],[45],[42]]:List W)∧i7 bs l∧i7 bs r
theorem yM {bs:List Box} (sc:List Int) (q:Nat) (h:bs≠[]):(pick ⟨[],0,0⟩ bs (next sc q % bs.length)).name∈bs.map (·.name):=by
 have hp:0 < bs.length:=List.length_pos_iff.mpr h
 exact List.mem_map.mpr ⟨_,oM _ (Int.emod_nonneg _ (by lia)) (Int.emod_lt_of_pos _ (by lia)),rfl⟩
theorem Hn (sc:List Int) (p q:Nat):0≤next sc p % pick 1 [3,12,1000] (next sc q % 3)∧next sc p % pick 1 [3,12,1000] (next sc q % 3) < 1000:=by
 have m:=oM (1:Int) (l:=[3,12,1000]) (i:=next sc q % 3) (Int.emod_nonneg _ (by decide)) (Int.emod_lt_of_pos _ (by decide))
 generalize pick (1:Int) [3,12,1000] (next sc q % 3)=z at m
 have hz:0 < z∧z≤1000:=by
   simp only [List.mem_cons,List.mem_nil_iff,or_false] at m
   rcases m with rfl | rfl | rfl <;> decide
 have h1:=Int.emod_nonneg (next sc p) (b:=z) (by lia)
 have h2:=Int.emod_lt_of_pos (next sc p) (b:=z) hz.1
 lia
theorem yN (sc:List Int) (bs:List Box):∀ (d p:Nat),i7 bs (cA sc bs d p).1
 | 0,p=>by
   unfold cA
   simp only
   split
   · rename_i h; rw [i7]; exact yM sc _ h.1
   · rw [i7]; exact Hn sc _ _
 | d + 1,p=>by
   unfold cA
   simp only
   split
   · rename_i h
     rw [i7]
     have b:=gZ sc p
     refine ⟨oM _ (Int.emod_nonneg _ (by decide)) (by show next sc p % 7 < 3; exact h),yN sc bs d _,yN sc bs d _⟩
   · split
     · rename_i h; rw [i7]; exact yM sc _ h.1
     · rw [i7]; exact Hn sc _ _
theorem K3 (sc:List Int) (many p:Nat):OkB (·∈(gB sc p).map (·.name)) (fun e=>i7 (gB sc p) e∧trd e≤2) (·∈sgs) (cD sc many p).1.body:=
 FT sc many p (fun h q=>yM sc q h) (fun d q hd=>⟨yN sc _ d q,Nat.le_trans (yK _ _ _ _) hd⟩) (fun q=>oM _ (Int.emod_nonneg _ (by decide)) (Int.emod_lt_of_pos _ (by decide)))
theorem Bt (sc:List Int) (og:Int):∀ (n k p:Nat),∀ x∈(bP sc og n k p).1,2≤x.size∧x.size≤10∧0≤x.first∧x.first < x.size
 | 0,k,p,x,h=>by simp [bP] at h
 | n + 1,k,p,x,h=>by
   rw [bP] at h
   simp only [List.mem_cons] at h
   rcases h with rfl | h
   · have m:=oM (1:Int) (l:=[3,9]) (i:=next sc (p + 1) % 2) (Int.emod_nonneg _ (by decide)) (Int.emod_lt_of_pos _ (by decide))
     simp only
     generalize pick (1:Int) [3,9] (next sc (p + 1) % 2)=z at m
     have hz:0 < z∧z≤9:=by
       simp only [List.mem_cons,List.mem_nil_iff,or_false] at m
       rcases m with rfl | rfl <;> decide
     have h1:=Int.emod_nonneg (next sc p) (b:=z) (by lia)
     have h2:=Int.emod_lt_of_pos (next sc p) (b:=z) hz.1
     have h3:=Int.emod_nonneg (next sc (p + 2)) (b:=2 + next sc p % z) (by lia)
     have h4:=Int.emod_lt_of_pos (next sc (p + 2)) (b:=2 + next sc p % z) (by lia)
     lia
   · exact Bt sc og n (k + 1) (p + 3) x h
theorem Ay (sc:List Int) (p:Nat):∀ x∈gB sc p,2≤x.size∧x.size≤10∧0≤x.first∧x.first < x.size:=Bt sc _ _ _ _
end PG
namespace PG
theorem K4 {R:List Row} {b:List Stm} (h:cB b R):to R (oh R) 0=aQ b 0:=by
 obtain ⟨m1,e,s,_⟩:=nA b R h 0 (fun _=>none) [] (by simp)
 have em:oh R=m1:=by unfold oh; rw [e]
 rw [em,qF b s (fun j _=>by rw [Nat.zero_add]),Nat.zero_add,FU (Nat.le_refl _)]
noncomputable def ma (r:eZ):Prop:=0 < r.2.2.length∧(r.2.1=.ifs∨r.2.1=.whl→1 < r.2.2.length)
mutual
theorem IV:∀ (s:Stm) (x:Int),∀ r∈dI s x,ma r
 | .ifs k sg l r a b,x,y,h=>by
   rw [dI] at h
   simp only [List.mem_cons,List.mem_append] at h
   rcases h with rfl | h | h
   · simp [ma]
   · exact iw a x y h
   · exact iw b x y h
 | .whl k sg l r a,x,y,h=>by
   rw [dI] at h
   simp only [List.mem_cons] at h
   rcases h with rfl | h
   · simp [ma]
   · exact iw a k y h
 | .ask k _,x,y,h=>by simp [dI] at h; subst h; simp [ma]
 | .put k _ _,x,y,h=>by simp [dI] at h; subst h; simp [ma]
 | .say k _,x,y,h=>by simp [dI] at h; subst h; simp [ma]
 | .cL k _ _ _,x,y,h=>by simp [dI] at h; subst h; simp [ma]
 | .stop k,x,y,h=>by simp [dI] at h; subst h; simp [ma]
theorem iw:∀ (b:List Stm) (x:Int),∀ r∈aU b x,ma r
 | [],x,y,h=>by simp [aU] at h
 | s :: r,x,y,h=>by
   rw [aU,List.mem_append] at h
   rcases h with h | h
   · exact IV s _ y h
   · exact iw r x y h
end
end PG
namespace PG
theorem oN:∀ (b:List Stm) (x:Int),aQ b x=x∨∃ t∈aC b,t.row=aQ b x
 | [],x=>.inl rfl
 | s :: r,x=>.inr ⟨s,by rw [aC]; exact List.mem_append_left _ (by cases s <;> simp [l5]),rfl⟩
mutual
theorem K5:∀ (s:Stm) (x:Int),∀ r∈dI s x,∀ w∈r.2.2,w=0∨w=x∨∃ t∈l5 s,t.row=w
 | .ifs k sg l r a b,x,y,h,w,hw=>by
   rw [dI] at h
   simp only [List.mem_cons,List.mem_append] at h
   rw [l5]
   rcases h with rfl | h | h
   · simp only [List.mem_cons,List.mem_nil_iff,or_false] at hw
     rcases hw with rfl | rfl
     · rcases oN a x with e | ⟨t,ht,e⟩
       · exact .inr (.inl e)
       · exact .inr (.inr ⟨t,by simp [ht],e⟩)
     · rcases oN b x with e | ⟨t,ht,e⟩
       · exact .inr (.inl e)
       · exact .inr (.inr ⟨t,by simp [ht],e⟩)
   · rcases oO a x y h w hw with e | e | ⟨t,ht,e⟩
     · exact .inl e
     · exact .inr (.inl e)
     · exact .inr (.inr ⟨t,by simp [ht],e⟩)
   · rcases oO b x y h w hw with e | e | ⟨t,ht,e⟩
     · exact .inl e
     · exact .inr (.inl e)
     · exact .inr (.inr ⟨t,by simp [ht],e⟩)
 | .whl k sg l r a,x,y,h,w,hw=>by
   rw [dI] at h
   simp only [List.mem_cons] at h
   rw [l5]
   have self:w=k→∃ t∈(Stm.whl k sg l r a :: aC a),t.row=w:=fun e=>⟨_,List.mem_cons_self ..,e.symm⟩
   rcases h with rfl | h
   · simp only [List.mem_cons,List.mem_nil_iff,or_false] at hw
     rcases hw with rfl | rfl
     · rcases oN a k with e | ⟨t,ht,e⟩
       · exact .inr (.inr (self e))
       · exact .inr (.inr ⟨t,by simp [ht],e⟩)
     · exact .inr (.inl rfl)
   · rcases oO a k y h w hw with e | e | ⟨t,ht,e⟩
     · exact .inl e
     · exact .inr (.inr (self e))
     · exact .inr (.inr ⟨t,by simp [ht],e⟩)
 | .ask k _,x,y,h,w,hw=>by simp [dI] at h; subst h; simp at hw; exact .inr (.inl hw)
 | .put k _ _,x,y,h,w,hw=>by simp [dI] at h; subst h; simp at hw; exact .inr (.inl hw)
 | .say k _,x,y,h,w,hw=>by simp [dI] at h; subst h; simp at hw; exact .inr (.inl hw)
 | .cL k _ _ _,x,y,h,w,hw=>by simp [dI] at h; subst h; simp at hw; exact .inr (.inl hw)
 | .stop k,x,y,h,w,hw=>by simp [dI] at h; subst h; simp at hw; exact .inl hw
theorem oO:∀ (b:List Stm) (x:Int),∀ r∈aU b x,∀ w∈r.2.2,w=0∨w=x∨∃ t∈aC b,t.row=w
 | [],x,y,h,_,_=>by simp [aU] at h
 | s :: r,x,y,h,w,hw=>by
   rw [aU,List.mem_append] at h
   rw [aC]
   rcases h with h | h
   · rcases K5 s _ y h w hw with e | e | ⟨t,ht,e⟩
     · exact .inl e
     · rcases oN r x with e2 | ⟨t,ht,e2⟩
       · exact .inr (.inl (e.trans e2))
       · exact .inr (.inr ⟨t,List.mem_append_right _ ht,e2.trans e.symm⟩)
     · exact .inr (.inr ⟨t,List.mem_append_left _ ht,e⟩)
   · rcases oO r x y h w hw with e | e | ⟨t,ht,e⟩
     · exact .inl e
     · exact .inr (.inl e)
     · exact .inr (.inr ⟨t,List.mem_append_right _ ht,e⟩)
end
noncomputable def MX (b:List Stm) (row:Int):Nat:=(aC b).findIdx (fun s=>s.row == row)
theorem Ho {b:List Stm} (pw:(aC b).Pairwise (fun a b=>a.row < b.row)) (i:Nat) (hi:i < (aC b).length):MX b (aC b)[i].row=i:=by
 unfold MX
 rw [List.findIdx_eq hi]
 refine ⟨by simp,fun j hj=>?_⟩
 have:=List.pairwise_iff_getElem.mp pw j i (by lia) hi hj
 simp only [beq_eq_false_iff_ne,ne_eq]
 lia
inductive eV where
 | on | out | cL (row:Int) | fin
deriving DecidableEq
structure Ran where
 rows:List Int
 uv:List Int
 fin:eV
section
variable (ask:Int→Bool) (step:Int→List Int→Int→Option (Int × List Int) × Option Int)
noncomputable def take1 (a:Bool) (aY:List Int):Option (Int × List Int):=if a then (match aY with | []=>none | f :: r=>some (f,r)) else some (0,aY)
noncomputable def ran:Nat→Int→List Int→List Int→Ran
 | 0,row,_,_=>if row=0 then ⟨[],[],.fin⟩ else ⟨[],[],.on⟩
 | n + 1,row,vals,aY=>if row=0 then ⟨[],[],.fin⟩ else
   match take1 (ask row) aY with
   | none=>⟨[row],[],.out⟩
   | some (f,r)=>match step row vals f with
     | (none,_)=>⟨[row],[],.cL row⟩
     | (some x,s)=>⟨row :: (ran n x.1 x.2 r).rows,s.toList ++ (ran n x.1 x.2 r).uv,(ran n x.1 x.2 r).fin⟩
theorem Hq:∀ (n:Nat) (row:Int) (vals aY:List Int),(ran ask step n row vals aY).rows.length≤n∧(ran ask step n row vals aY).uv.length≤n
 | 0,row,vals,aY=>by unfold ran; split <;> simp
 | n + 1,row,vals,aY=>by
   unfold ran
   split
   · simp
   · split
     · simp
     · split
       · simp
       · rename_i f r _ _ x s _
         have:=Hq n x.1 x.2 r
         cases s <;> simp <;> lia
theorem Eh:∀ (n m:Nat) (row:Int) (vals aY:List Int),n≤m→(ran ask step m row vals aY).rows.take n=(ran ask step n row vals aY).rows
 | 0,m,row,vals,aY,_=>by
   rw [List.take_zero]
   unfold ran
   split <;> rfl
 | n + 1,0,row,vals,aY,h=>by lia
 | n + 1,m + 1,row,vals,aY,h=>by
   unfold ran
   split
   · simp
   · split
     · simp
     · split
       · simp
       · rename_i f r _ _ x s _
         simp only [List.take_succ_cons]
         rw [Eh n m x.1 x.2 r (by lia)]
theorem yO:∀ (n:Nat) (row:Int) (vals aY ex:List Int),(ran ask step n row vals aY).fin≠.out→ran ask step n row vals (aY ++ ex)=ran ask step n row vals aY
 | 0,row,vals,aY,ex,h=>by unfold ran; rfl
 | n + 1,row,vals,aY,ex,h=>by
   unfold ran at h ⊢
   split
   · rfl
   · rename_i h0
     rw [if_neg h0] at h
     cases ha:ask row with
     | false=>
       simp only [take1,ha,Bool.false_eq_true,if_false] at h ⊢
       split
       · rfl
       · rename_i x s hs
         rw [hs] at h
         rw [yO n x.1 x.2 aY ex h]
     | true=>
       cases aY with
       | nil=>simp [take1,ha] at h
       | cons f r=>
         simp only [take1,ha,if_true,List.cons_append] at h ⊢
         split
         · rfl
         · rename_i x s hs
           rw [hs] at h
           rw [yO n x.1 x.2 r ex h]
noncomputable def endAt (row:Int):Option eV:=if row=0 then some .fin else none
noncomputable def go1 (row:Int) (vals left:List Int):Option Int × List Int × Int × List Int × Option eV:=match take1 (ask row) left with
 | none=>(none,left,row,vals,some .out)
 | some (f,r)=>match step row vals f with
   | (none,s)=>(s,r,row,vals,some (.cL row))
   | (some x,s)=>(s,r,x.1,x.2,endAt x.1)
theorem Ei (n:Nat) (vals left:List Int):ran ask step n 0 vals left=⟨[],[],.fin⟩:=by
 cases n <;> simp [ran]
theorem K6 {row:Int} (h:row≠0) (vals left:List Int):ran ask step 0 row vals left=⟨[],[],.on⟩:=by
 simp [ran,h]
theorem OY (hs:∀ row vals f,(step row vals f).1=none→(step row vals f).2=none) {row:Int} (h:row≠0) (k:Nat) (vals left:List Int) :
   ran ask step (k + 1) row vals left=(match (go1 ask step row vals left).2.2.2.2 with
     | some e=>⟨[row],(go1 ask step row vals left).1.toList,e⟩
     | none=>⟨row :: (ran ask step k (go1 ask step row vals left).2.2.1 (go1 ask step row vals left).2.2.2.1 (go1 ask step row vals left).2.1).rows,
         (go1 ask step row vals left).1.toList ++ (ran ask step k (go1 ask step row vals left).2.2.1 (go1 ask step row vals left).2.2.2.1 (go1 ask step row vals left).2.1).uv,
         (ran ask step k (go1 ask step row vals left).2.2.1 (go1 ask step row vals left).2.2.2.1 (go1 ask step row vals left).2.1).fin⟩):=by
 rw [ran,if_neg h]
 unfold go1
 cases ht:take1 (ask row) left with
 | none=>rfl
 | some x=>
   obtain ⟨f,r⟩:=x
   simp only
   have:=hs row vals f
   rcases hst:step row vals f with ⟨o,s⟩
   rw [hst] at this
   cases o with
   | none=>
     have e:s=none:=this rfl
     subst e
     rfl
   | some x=>
     simp only
     by_cases hx:x.1=0
     · simp only [endAt,hx,if_true,Ei]
       simp
     · simp only [endAt,hx,if_false]
theorem OZ {row:Int} {vals left:List Int} (h:(go1 ask step row vals left).2.2.2.2=none):(go1 ask step row vals left).2.2.1≠0:=by
 revert h
 unfold go1
 split
 · intro h; cases h
 · split
   · intro h; cases h
   · rename_i x s _
     simp only [endAt]
     intro h e
     rw [if_pos e] at h
     cases h
end
end PG
namespace L2
open PySem
noncomputable def wdS:PG.Wd→Str
 | .ask=>"ask" | .put=>"put" | .say=>"say" | .cL=>"must" | .stop=>"stop" | .ifs=>"if" | .whl=>"while" | .els=>"else" | .fin=>"end"
mutual
noncomputable def dpS:PG.Stm→Dp
 | .ask k b=>.tup [.str "ask",.int k,.str (S b)]
 | .put k b e=>.tup [.str "put",.int k,.str (S b),dpT e]
 | .say k e=>.tup [.str "say",.int k,dpT e]
 | .cL k sg l r=>.tup [.str "must",.int k,.str (S sg),dpT l,dpT r]
 | .stop k=>.tup [.str "stop",.int k]
 | .ifs k sg l r a b=>.tup [.str "if",.int k,.str (S sg),dpT l,dpT r,.lst (IW a),.lst (IW b)]
 | .whl k sg l r a=>.tup [.str "while",.int k,.str (S sg),dpT l,dpT r,.lst (IW a)]
noncomputable def IW:List PG.Stm→List Dp
 | []=>[]
 | s :: r=>dpS s :: IW r
end
theorem fC:∀ l:List PG.Stm,IW l=l.map dpS
 | []=>rfl
 | s :: r=>by rw [IW,fC r]; rfl
noncomputable def jG (b:PG.Box):Dp:=.tup [.str (S b.name),.int b.size,.int b.first]
noncomputable def kA (p:PG.Prog):Dp:=.tup [.lst (p.aG.map jG),.lst (p.body.map dpS)]
noncomputable def lh (r:PG.Row):Dp:=.lst [.int r.1,.str (wdS r.2)]
noncomputable def R8:PG.Tg→Dp
 | .row k=>.tup [.str "row",.int k]
 | .side k b=>.tup [.str "side",.int k,.bl b]
 | .cL k=>.tup [.str "must",.int k]
 | .fin=>.tup [.str "end"]
noncomputable def bf (O:Addr→Prop) (H H':Hp):Prop:=∀ b o,¬ O b→H b=some o→H' b=some o
noncomputable def Fix (K:PySem.W.Frag) (O:Addr→Prop) (H:Hp) (d:Dp) (v:V):Prop:=∀ H',bf O H H'→Rep K H' d v
noncomputable def eX (K:PySem.W.Frag) (O:Addr→Prop) (H:Hp) (ds:List Dp) (vs:List V):Prop:=∀ H',bf O H H'→aS K H' ds vs
section
variable {K:PySem.W.Frag} {O O':Addr→Prop} {H H1 H2:Hp} {d:Dp} {ds:List Dp} {v:V} {vs:List V} {p:Addr} {o:HO}
theorem bf.refl:bf O H H:=fun _ _ _ e=>e
theorem bf.trans (a:bf O H H1) (b:bf O H1 H2):bf O H H2:=fun c u n e=>b c u n (a c u n e)
theorem bf.of (s:aw H H1):bf O H H1:=fun b u _ e=>s b u e
theorem bf.mono (a:bf O H H1) (i:∀ b,O b→O' b):bf O' H H1:=fun b u n e=>a b u (fun z=>n (i b z)) e
theorem bf.one (a:bD p H H1) (hp:O p):bf O H H1:=fun b u n e=>a b u (fun z=>n (by rw [z]; exact hp)) e
theorem bf.put (a:bf O H H1) (hp:O p) (u:HO):bf O H (upd H1 p u):=fun b w n e=>by rw [az (fun z=>n (by rw [z]; exact hp))]; exact a b w n e
theorem Fix.up (f:Fix K O H d v) (u:bf O H H1):Fix K O H1 d v:=fun H2 u2=>f H2 (u.trans u2)
theorem eX.up (f:eX K O H ds vs) (u:bf O H H1):eX K O H1 ds vs:=fun H2 u2=>f H2 (u.trans u2)
theorem Fix.rep (f:Fix K O H d v):Rep K H d v:=f H .refl
theorem eX.K7 (f:eX K O H ds vs):aS K H ds vs:=f H .refl
theorem Fix.sub (f:Fix K O H d v) (i:∀ b,O' b→O b):Fix K O' H d v:=fun H2 u=>f H2 (u.mono i)
theorem eX.sub (f:eX K O H ds vs) (i:∀ b,O' b→O b):eX K O' H ds vs:=fun H2 u=>f H2 (u.mono i)
theorem Fix.apart (f:Fix K O H d v) (hp:H p=none):Fix K (fun b=>O b∨b=p) (upd H p o) d v:=fun H2 u=>f H2 fun b w n e=>by
 have np:b≠p:=ao e hp
 exact u b w (fun z=>z.elim n np) (by rw [az np]; exact e)
theorem eX.apart (f:eX K O H ds vs) (hp:H p=none):eX K (fun b=>O b∨b=p) (upd H p o) ds vs:=fun H2 u=>f H2 fun b w n e=>by
 have np:b≠p:=ao e hp
 exact u b w (fun z=>z.elim n np) (by rw [az np]; exact e)
theorem eX.nil:eX K O H [] []:=fun _ _=>.nil
theorem eX.cons (a:Fix K O H d v) (b:eX K O H ds vs):eX K O H (d :: ds) (v :: vs):=fun H2 u=>.cons (a H2 u) (b H2 u)
theorem eX.snoc (b:eX K O H ds vs) (a:Fix K O H d v):eX K O H (ds ++ [d]) (vs ++ [v]):=fun H2 u=>(b H2 u).append (.cons (a H2 u) .nil)
theorem Fix.int {i:Int}:Fix K O H (.int i) (.int i):=fun _ _=>Rep.bE.mpr rfl
theorem Fix.str {x:Str}:Fix K O H (.str x) (.str x):=fun _ _=>Rep.bF.mpr rfl
theorem Fix.bl {x:Bool}:Fix K O H (.bl x) (.bl x):=fun _ _=>Rep.yB.mpr rfl
theorem Fix.tup (h:H p=some (.tup vs)) (n:¬ O p) (f:eX K O H ds vs):Fix K O H (.tup ds) (.ref p):=fun H2 u=>Rep.bj.mpr ⟨p,vs,rfl,.of (u p _ n h),f H2 u⟩
theorem Fix.lst (h:H p=some (.lst vs)) (n:¬ O p) (f:eX K O H ds vs):Fix K O H (.lst ds) (.ref p):=fun H2 u=>Rep.bR.mpr ⟨p,vs,rfl,.of (u p _ n h),f H2 u⟩
end
structure g7 (K:PySem.W.Frag) (H:Hp) (D S:Addr) (sc:List Int) (p:Nat):Prop where
 bG:H D=some (.lst [.ref S,.int p])
 fI:H S=some (.lst (sc.map .int))
 ne:S≠D
 len:sc.length≤63
end L2
namespace L2
open PySem
section
variable (K:PySem.W.Frag)
noncomputable def wg:Sp:=fun vs H Q _=>∃ (D S:Addr) (sc:List Int) (p:Nat),vs=[.ref D]∧g7 K H D S sc p∧p≤100000∧∀ H',bD D H H'→g7 K H' D S sc (p + 1)→Q (.int (PG.next sc p)) H'
end
theorem g7.same {K:PySem.W.Frag} {H H':Hp} {D S:Addr} {sc:List Int} {p:Nat} (d:g7 K H D S sc p) (s:aw H H'):g7 K H' D S sc p:=⟨s _ _ d.bG,s _ _ d.fI,d.ne,d.len⟩
theorem Hr {a:Option V} {r:St} {H:Hp} {Q:VK}:(gD 13 (a :: r) H Q)=(gD 12 r H Q):=rfl
theorem Hs {a:Option V} {r:St} {H:Hp} {Q:VK}:(gD 14 (a :: r) H Q)=(gD 13 r H Q):=rfl
noncomputable def i8 (K:PySem.W.Frag) (O:Addr→Prop) (H:Hp) (B:Addr) (bs:List PG.Box):Prop:=Fix K O H (.lst (bs.map jG)) (.ref B)∧bs.length≤10
noncomputable def Own (K:PySem.W.Frag) (H0 H:Hp) (d:Dp) (v:V):Prop:=∀ O:Addr→Prop,(∀ b,O b→H0 b≠none)→Fix K O H d v
section
variable (K:PySem.W.Frag)
noncomputable def yP (n:Nat):Sp:=fun vs H Q _=>∃ (D S B:Addr) (sc:List Int) (p d:Nat) (bs:List PG.Box),vs=[.ref D,.ref B,.int d]∧d < n∧g7 K H D S sc p∧p + 4 * 2 ^ d≤100000∧i8 K (·=D) H B bs∧
 ∀ v H',bD D H H'→g7 K H' D S sc (PG.cA sc bs d p).2→Own K H H' (dpT (PG.cA sc bs d p).1) v→Q v H'
noncomputable def FX:Sp:=fun vs H Q _=>∃ (D S:Addr) (sc:List Int) (p:Nat),vs=[.ref D]∧g7 K H D S sc p∧p≤90000∧
 ∀ B H',bD D H H'→g7 K H' D S sc (PG.bP sc (PG.next sc p % 4) (PG.next sc (p + 1) % 5).toNat 0 (p + 2)).2→H B=none→
   Own K H H' (.lst ((PG.bP sc (PG.next sc p % 4) (PG.next sc (p + 1) % 5).toNat 0 (p + 2)).1.map jG)) (.ref B)→Q (.ref B) H'
noncomputable def FY:Sp:=fun vs H Q _=>∃ (D S B:Addr) (sc:List Int) (p:Nat) (k:Int) (bs:List PG.Box),vs=[.ref D,.ref B,.int k]∧g7 K H D S sc p∧p≤90000∧i8 K (·=D) H B bs∧
 ∀ v H',bD D H H'→g7 K H' D S sc (PG.bT sc bs k p).2→Own K H H' (dpS (PG.bT sc bs k p).1) v→Q v H'
end
section
variable {K:PySem.W.Frag} {O:Addr→Prop} {H0 H H1:Hp} {d:Dp} {v:V} {D B:Addr} {bs:List PG.Box}
theorem Own.up (f:Own K H0 H d v) (u:bD D H H1) (hD:H0 D≠none):Own K H0 H1 d v:=fun O hO=>by
 have:=f (fun b=>O b∨b=D) (fun b hb=>hb.elim (hO b) (fun e=>e ▸ hD))
 exact (this.up (bf.one u (.inr rfl))).sub fun b hb=>.inl hb
theorem Own.back {H00:Hp} (f:Own K H0 H d v) (h:∀ b,H00 b≠none→H0 b≠none):Own K H00 H d v:=fun O hO=>f O fun b hb=>h b (hO b hb)
theorem i8.up (f:i8 K (·=D) H B bs) (u:bD D H H1):i8 K (·=D) H1 B bs:=⟨f.1.up (bf.one u rfl),f.2⟩
theorem i8.same (f:i8 K (·=D) H B bs) (s:aw H H1):i8 K (·=D) H1 B bs:=⟨f.1.up (.of s),f.2⟩
theorem bD.dom (u:bD D H H1) (hD:H1 D≠none):∀ b,H b≠none→H1 b≠none:=fun b hb=>by
 by_cases e:b=D
 · rw [e]; exact hD
 · cases z:H b with
   | none=>exact absurd z hb
   | some o=>rw [u b o e z]; simp
theorem i8.list (f:i8 K O H B bs):∃ xs,SqL K H B xs∧xs.length=bs.length∧∀ (i:Nat) (b:PG.Box),bs[i]?=some b→∃ a ys,xs[i]?=some (.ref a)∧SqT K H a ys∧ys=[.str (S b.name),.int b.size,.int b.first]:=by
 have r:=f.1.rep
 rw [Rep.bR] at r
 obtain ⟨a,xs,e,q,rs⟩:=r
 cases e
 refine ⟨xs,q,by rw [rs.length,List.length_map],fun i b hb=>?_⟩
 obtain ⟨v,hv,rv⟩:=rs.get (i:=i) (d:=jG b) (by rw [List.getElem?_map,hb]; rfl)
 unfold jG at rv
 rw [Rep.bj] at rv
 obtain ⟨a2,ys,rfl,q2,r2⟩:=rv
 refine ⟨a2,ys,hv,q2,?_⟩
 rw [aS.aM] at r2
 obtain ⟨v1,t1,rfl,e1,r2⟩:=r2
 rw [aS.aM] at r2
 obtain ⟨v2,t2,rfl,e2,r2⟩:=r2
 rw [aS.aM] at r2
 obtain ⟨v3,t3,rfl,e3,r2⟩:=r2
 rw [aS.bw] at r2
 subst r2
 rw [Rep.bF] at e1
 rw [Rep.bE] at e2 e3
 subst e1 e2 e3
 rfl
end
noncomputable def lq (K:PySem.W.Frag) (H0 H:Hp) (ds:List Dp) (vs:List V):Prop:=∀ O:Addr→Prop,(∀ b,O b→H0 b≠none)→eX K O H ds vs
section
variable {K:PySem.W.Frag} {H0 H H1:Hp} {d:Dp} {v:V} {ds:List Dp} {vs:List V} {D p:Addr}
theorem lq.nil:lq K H0 H [] []:=fun _ _=>eX.nil
theorem lq.cons (a:Own K H0 H d v) (b:lq K H0 H ds vs):lq K H0 H (d :: ds) (v :: vs):=fun O h=>eX.cons (a O h) (b O h)
theorem Own.int {i:Int}:Own K H0 H (.int i) (.int i):=fun _ _=>Fix.int
theorem Own.str {x:Str}:Own K H0 H (.str x) (.str x):=fun _ _=>Fix.str
theorem lq.same (f:lq K H0 H ds vs) (s:aw H H1):lq K H0 H1 ds vs:=fun O hO=>(f O hO).up (.of s)
theorem jn (hp:H p=none) (dom:∀ b,H0 b≠none→H b≠none) (f:lq K H0 H ds vs):Own K H0 (upd H p (.tup vs)) (.tup ds) (.ref p):=fun O hO=>by
 have np:¬ O p:=fun z=>dom p (hO p z) hp
 exact Fix.tup ae np ((f.same (aw.new hp _)) O hO)
end
theorem i8.pick {K:PySem.W.Frag} {O:Addr→Prop} {H:Hp} {B:Addr} {bs:List PG.Box} (f:i8 K O H B bs) {i:Int} (h0:0≤i) (h1:i < bs.length) {Q:VK} (q:Q (.str (S (PG.pick ⟨[],0,0⟩ bs i).name)) H) :
   DJ K (.ref B) (.int i) H (fun x H1=>FA K x (.int 0) H1 Q):=by
 obtain ⟨xs,hx,_,get⟩:=f.list
 have lt:i.toNat < bs.length:=by lia
 have e:bs[i.toNat]?=some (PG.pick ⟨[],0,0⟩ bs i):=by
   unfold PG.pick
   rw [List.getD_eq_getElem?_getD,List.getElem?_eq_getElem lt]
   rfl
 obtain ⟨a,ys,hy,q2,rfl⟩:=get _ _ e
 have ei:i=((i.toNat:Nat):Int):=by lia
 refine bK hx (v:=.ref a) (by rw [ei]; exact av hy) (aI q2 (v:=.str (S (PG.pick ⟨[],0,0⟩ bs i).name)) (av (j:=0) rfl) q)
theorem lq.up {K:PySem.W.Frag} {H0 H H1:Hp} {ds:List Dp} {vs:List V} {D:Addr} (f:lq K H0 H ds vs) (u:bD D H H1) (hD:H0 D≠none):lq K H0 H1 ds vs:=fun O hO=>by
 have:=f (fun b=>O b∨b=D) (fun b hb=>hb.elim (hO b) (fun e=>e ▸ hD))
 exact (this.up (bf.one u (.inr rfl))).sub fun b hb=>.inl hb
theorem lq.snoc {K:PySem.W.Frag} {H0 H:Hp} {d:Dp} {v:V} {ds:List Dp} {vs:List V} (b:lq K H0 H ds vs) (a:Own K H0 H d v):lq K H0 H (ds ++ [d]) (vs ++ [v]):=fun O h=>eX.snoc (b O h) (a O h)
theorem O0 {K:PySem.W.Frag} {H0 H:Hp} {ds:List Dp} {vs xs ys:List V} {B:Addr} (h:H B=some (.lst xs)) (f:lq K H0 H ds vs) (hB:H0 B≠none):lq K H0 (upd H B (.lst ys)) ds vs:=f.up ((bD.refl B H).put _) hB
end L2
namespace L2
open PySem
noncomputable def kdS:Nat→Str
 | 0=>"all"
 | 1=>"if"
 | 2=>"else"
 | _=>"while"
structure e7 (K:PySem.W.Frag) (Oo:Addr→Prop) (H:Hp) (f:PG.Frame) (a b:Addr) (hd fi:V) (xs:List V):Prop where
 fr:H a=some (.lst [.str (kdS f.kind),.ref b,hd,fi])
 bd:H b=some (.lst xs)
 ok:eX K Oo H (f.body.map dpS) xs
 IX:f.kind≠0→∃ c ys,hd=.ref c∧H c=some (.tup ys)∧¬ Oo c∧eX K Oo H [.str (if f.kind=3 then "while" else "if"),.int f.k,.str (S f.sg),dpT f.l,dpT f.r] ys
 K8:f.kind=2→Fix K Oo H (.lst (f.first.map dpS)) fi
 len:xs.length=f.body.length
noncomputable abbrev Fra:=PG.Frame × Addr × Addr
noncomputable def opn (D P R:Addr) (frs:List Fra):List Addr:=D :: P :: R :: frs.flatMap fun x=>[x.2.1,x.2.2]
noncomputable def O (D P R:Addr) (frs:List Fra) (E:List Addr):Addr→Prop:=fun b=>b∈opn D P R frs∨b∈E
structure PSt (K:PySem.W.Frag) (H:Hp) (D S:Addr) (sc:List Int) (p:Nat) (B:Addr) (bs:List PG.Box) (P R:Addr) (frs:List Fra) (rows:List PG.Row) (E:List Addr):Prop where
 bG:g7 K H D S sc p
 box:Fix K (O D P R frs E) H (.lst (bs.map jG)) (.ref B)
 few:bs.length≤10
 a7:H P=some (.lst (frs.reverse.map fun x=>.ref x.2.1))
 frames:∀ x∈frs,∃ hd fi xs,e7 K (O D P R frs E) H x.1 x.2.1 x.2.2 hd fi xs
 rows:∃ rvs,H R=some (.lst rvs)∧eX K (O D P R frs E) H (rows.map lh) rvs∧rvs.length=rows.length
 nd:(opn D P R frs).Nodup
 nS:S ∉ opn D P R frs
section
variable {K:PySem.W.Frag} {H H':Hp} {D S B P R:Addr} {sc:List Int} {p p':Nat} {bs:List PG.Box} {frs:List Fra} {rows:List PG.Row} {E E':List Addr}
theorem e7.up {Oo:Addr→Prop} {f:PG.Frame} {a b:Addr} {hd fi:V} {xs:List V} (x:e7 K Oo H f a b hd fi xs) (u:bf Oo H H') (ha:H' a=H a) (hb:H' b=H b):e7 K Oo H' f a b hd fi xs:=
 ⟨ha.trans x.fr,hb.trans x.bd,x.ok.up u,fun z=>let ⟨c,ys,e,h,n,g⟩:=x.IX z; ⟨c,ys,e,u _ _ n h,n,g.up u⟩,fun z=>(x.K8 z).up u,x.len⟩
theorem e7.sub {O1 O2:Addr→Prop} {f:PG.Frame} {a b:Addr} {hd fi:V} {xs:List V} (x:e7 K O1 H f a b hd fi xs) (i:∀ c,O2 c→O1 c):e7 K O2 H f a b hd fi xs:=
 ⟨x.fr,x.bd,x.ok.sub i,fun z=>let ⟨c,ys,e,h,n,g⟩:=x.IX z; ⟨c,ys,e,h,fun w=>n (i c w),g.sub i⟩,fun z=>(x.K8 z).sub i,x.len⟩
theorem e7.apart {O1:Addr→Prop} {f:PG.Frame} {a b q:Addr} {hd fi:V} {xs:List V} {o:HO} (x:e7 K O1 H f a b hd fi xs) (hq:H q=none):e7 K (fun c=>O1 c∨c=q) (upd H q o) f a b hd fi xs:=
 ⟨by rw [az (ao x.fr hq)]; exact x.fr,by rw [az (ao x.bd hq)]; exact x.bd,x.ok.apart hq,fun z=>let ⟨c,ys,e,h,n,g⟩:=x.IX z; ⟨c,ys,e,by rw [az (ao h hq)]; exact h,fun w=>w.elim n (ao h hq),g.apart hq⟩,fun z=>(x.K8 z).apart hq,x.len⟩
theorem PSt.ne (s:PSt K H D S sc p B bs P R frs rows E):D≠P∧D≠R∧P≠R∧∀ x∈frs,x.2.1≠D∧x.2.2≠D∧x.2.1≠P∧x.2.2≠P∧x.2.1≠R∧x.2.2≠R:=by
 have nd:=s.nd
 unfold opn at nd
 rw [List.nodup_cons,List.nodup_cons,List.nodup_cons] at nd
 obtain ⟨h1,h2,h3,h4⟩:=nd
 simp only [List.mem_cons,not_or] at h1 h2
 refine ⟨h1.1,h1.2.1,h2.1,fun x hx=>?_⟩
 have m1:x.2.1∈frs.flatMap fun x=>[x.2.1,x.2.2]:=List.mem_flatMap.mpr ⟨x,hx,by simp⟩
 have m2:x.2.2∈frs.flatMap fun x=>[x.2.1,x.2.2]:=List.mem_flatMap.mpr ⟨x,hx,by simp⟩
 exact ⟨fun e=>h1.2.2 (e ▸ m1),fun e=>h1.2.2 (e ▸ m2),fun e=>h2.2 (e ▸ m1),fun e=>h2.2 (e ▸ m2),fun e=>h3 (e ▸ m1),fun e=>h3 (e ▸ m2)⟩
theorem PSt.dom (s:PSt K H D S sc p B bs P R frs rows E):∀ b,b∈opn D P R frs→H b≠none:=fun b hb=>by
 unfold opn at hb
 simp only [List.mem_cons,List.mem_flatMap] at hb
 rcases hb with rfl | rfl | rfl | ⟨x,hx,hb⟩
 · rw [s.bG.bG]; simp
 · rw [s.a7]; simp
 · obtain ⟨rvs,h,_⟩:=s.rows
   rw [h]; simp
 · obtain ⟨hd,fi,xs,fa⟩:=s.frames x hx
   simp only [List.not_mem_nil,or_false] at hb
   rcases hb with rfl | rfl
   · rw [fa.fr]; simp
   · rw [fa.bd]; simp
theorem PSt.fresh (s:PSt K H D S sc p B bs P R frs rows E) {q:Addr} (hq:H q=none):q ∉ opn D P R frs:=fun z=>s.dom q z hq
theorem PSt.draw (s:PSt K H D S sc p B bs P R frs rows E) (u:bD D H H') (dk:g7 K H' D S sc p'):PSt K H' D S sc p' B bs P R frs rows E:=by
 obtain ⟨n1,n2,n3,n4⟩:=s.ne
 have uS:bf (O D P R frs E) H H':=bf.one u (.inl (by simp [opn]))
 refine ⟨dk,s.box.up uS,s.few,u _ _ n1.symm s.a7,fun x hx=>?_,?_,s.nd,s.nS⟩
 · obtain ⟨hd,fi,xs,fa⟩:=s.frames x hx
   obtain ⟨m1,m2,_⟩:=n4 x hx
   exact ⟨hd,fi,xs,fa.up uS ((u _ _ m1 fa.fr).trans fa.fr.symm) ((u _ _ m2 fa.bd).trans fa.bd.symm)⟩
 · obtain ⟨rvs,h,f,l⟩:=s.rows
   exact ⟨rvs,u _ _ n2.symm h,f.up uS,l⟩
theorem PSt.same (s:PSt K H D S sc p B bs P R frs rows E) (e:aw H H'):PSt K H' D S sc p B bs P R frs rows E:=s.draw (.of e) (s.bG.same e)
theorem PSt.aG (s:PSt K H D S sc p B bs P R frs rows E):i8 K (·=D) H B bs:=⟨s.box.sub fun b hb=>.inl (by rw [show b=D from hb]; simp [opn]),s.few⟩
theorem PSt.less (s:PSt K H D S sc p B bs P R frs rows E) (i:∀ b,b∈E'→b∈E):PSt K H D S sc p B bs P R frs rows E':=by
 have j:∀ b,O D P R frs E' b→O D P R frs E b:=fun b hb=>hb.elim .inl fun z=>.inr (i b z)
 exact ⟨s.bG,s.box.sub j,s.few,s.a7,fun x hx=>let ⟨hd,fi,xs,fa⟩:=s.frames x hx; ⟨hd,fi,xs,fa.sub j⟩,let ⟨rvs,h,f,l⟩:=s.rows; ⟨rvs,h,f.sub j,l⟩,s.nd,s.nS⟩
theorem PSt.more (s:PSt K H D S sc p B bs P R frs rows E) {q:Addr} (hq:H q=none) (o:HO):PSt K (upd H q o) D S sc p B bs P R frs rows (q :: E):=by
 have j:∀ b,O D P R frs (q :: E) b→(O D P R frs E b∨b=q):=fun b hb=>by
   rcases hb with h | h
   · exact .inl (.inl h)
   · rcases List.mem_cons.mp h with h | h
     · exact .inr h
     · exact .inl (.inr h)
 have sm:=aw.new hq o
 exact ⟨s.bG.same sm,(s.box.apart hq).sub j,s.few,sm _ _ s.a7,fun x hx=>let ⟨hd,fi,xs,fa⟩:=s.frames x hx; ⟨hd,fi,xs,(fa.apart hq).sub j⟩,let ⟨rvs,h,f,l⟩:=s.rows; ⟨rvs,sm _ _ h,(f.apart hq).sub j,l⟩,s.nd,s.nS⟩
theorem PSt.row (s:PSt K H D S sc p B bs P R frs rows E) {rvs:List V} (hR:H R=some (.lst rvs)) {k:Int} {w:PG.Wd} {q:Addr} (hq:H q=some (.lst [.int k,.str (wdS w)])) (nq:¬ O D P R frs E q):PSt K (upd H R (.lst (rvs ++ [.ref q]))) D S sc p B bs P R frs (rows ++ [(k,w)]) E:=by
 obtain ⟨n1,n2,n3,n4⟩:=s.ne
 have mR:R∈opn D P R frs:=by simp [opn]
 have uS:bf (O D P R frs E) H (upd H R (.lst (rvs ++ [.ref q]))):=bf.refl.put (.inl mR) _
 have nSR:S≠R:=fun e=>s.nS (by rw [e]; exact mR)
 refine ⟨⟨by rw [az n2]; exact s.bG.bG,by rw [az nSR]; exact s.bG.fI,s.bG.ne,s.bG.len⟩,s.box.up uS,s.few,by rw [az n3]; exact s.a7,fun x hx=>?_,?_,s.nd,s.nS⟩
 · obtain ⟨hd,fi,xs,fa⟩:=s.frames x hx
   obtain ⟨_,_,_,_,m1,m2⟩:=n4 x hx
   exact ⟨hd,fi,xs,fa.up uS (az m1) (az m2)⟩
 · obtain ⟨Ta,h,f,l⟩:=s.rows
   rw [hR] at h
   cases h
   refine ⟨_,ae,?_,by simp [l]⟩
   rw [List.map_append]
   exact (f.up uS).snoc (Fix.lst (by rw [az (fun e=>nq (.inl (by rw [e]; exact mR)))]; exact hq) nq (.cons .int (.cons .str .nil)))
theorem PSt.stm {f:PG.Frame} {a b:Addr} {r:List Fra} (s:PSt K H D S sc p B bs P R ((f,a,b) :: r) rows E) {xs:List V} (hb:H b=some (.lst xs)) {st:PG.Stm} {v:V} (hv:Fix K (O D P R ((f,a,b) :: r) E) H (dpS st) v) :
   PSt K (upd H b (.lst (xs ++ [v]))) D S sc p B bs P R (({ f with body:=f.body ++ [st] },a,b) :: r) rows E:=by
 obtain ⟨n1,n2,n3,n4⟩:=s.ne
 have mb:b∈opn D P R ((f,a,b) :: r):=by simp [opn]
 have uS:bf (O D P R ((f,a,b) :: r) E) H (upd H b (.lst (xs ++ [v]))):=bf.refl.put (.inl mb) _
 obtain ⟨m1,m2,m3,m4,m5,m6⟩:=n4 _ (List.mem_cons_self ..)
 have nSb:S≠b:=fun e=>s.nS (by rw [e]; exact mb)
 have nd:=s.nd
 have ndf:a≠b∧∀ x∈r,x.2.1≠b∧x.2.2≠b:=by
   unfold opn at nd
   rw [List.nodup_cons,List.nodup_cons,List.nodup_cons,List.flatMap_cons] at nd
   obtain ⟨_,_,_,h4⟩:=nd
   simp only [List.cons_append,List.nil_append,List.nodup_cons,List.mem_cons,not_or] at h4
   exact ⟨h4.1.1,fun x hx=>⟨fun e=>h4.2.1 (List.mem_flatMap.mpr ⟨x,hx,by simp [e]⟩),fun e=>h4.2.1 (List.mem_flatMap.mpr ⟨x,hx,by simp [e]⟩)⟩⟩
 refine ⟨⟨by rw [az m2.symm]; exact s.bG.bG,by rw [az nSb]; exact s.bG.fI,s.bG.ne,s.bG.len⟩,s.box.up uS,s.few,by rw [az m4.symm,s.a7,List.reverse_cons,List.reverse_cons,List.map_append,List.map_append]; rfl,fun x hx=>?_,?_,s.nd,s.nS⟩
 · rcases List.mem_cons.mp hx with rfl | hx
   · obtain ⟨hd,fi,xs',fa⟩:=s.frames _ (List.mem_cons_self ..)
     have e:=fa.bd
     rw [hb] at e
     cases e
     have fu:=(show e7 K (O D P R ((f,a,b) :: r) E) H f a b hd fi xs from fa)
     refine ⟨hd,fi,_,⟨by rw [az ndf.1]; exact fa.fr,ae,?_,fun z=>let ⟨c,ys,e,h,n,g⟩:=fu.IX z; ⟨c,ys,e,uS _ _ n h,n,g.up uS⟩,fun z=>(fu.K8 z).up uS,by simp [fu.len]⟩⟩
     show eX K _ _ ((f.body ++ [st]).map dpS) _
     rw [List.map_append]
     exact (fu.ok.up uS).snoc (hv.up uS)
   · obtain ⟨hd,fi,xs',fa⟩:=s.frames x (List.mem_cons_of_mem _ hx)
     exact ⟨hd,fi,xs',fa.up uS (az (ndf.2 x hx).1) (az (ndf.2 x hx).2)⟩
 · obtain ⟨rvs,h,g,l⟩:=s.rows
   exact ⟨rvs,by rw [az m6.symm]; exact h,g.up uS,l⟩
theorem PSt.pop {f:PG.Frame} {a b:Addr} {r:List Fra} (s:PSt K H D S sc p B bs P R ((f,a,b) :: r) rows E) :
   PSt K (upd H P (.lst (r.reverse.map fun x=>.ref x.2.1))) D S sc p B bs P R r rows (a :: b :: E)∧(∃ hd fi xs,e7 K (O D P R r (a :: b :: E)) (upd H P (.lst (r.reverse.map fun x=>.ref x.2.1))) f a b hd fi xs)∧a ∉ opn D P R r∧b ∉ opn D P R r∧a≠b:=by
 obtain ⟨n1,n2,n3,n4⟩:=s.ne
 have mP:P∈opn D P R ((f,a,b) :: r):=by simp [opn]
 have uS:bf (O D P R ((f,a,b) :: r) E) H (upd H P (.lst (r.reverse.map fun x=>.ref x.2.1))):=bf.refl.put (.inl mP) _
 have j:∀ c,O D P R r (a :: b :: E) c→O D P R ((f,a,b) :: r) E c:=fun c hc=>by
   simp only [O,opn,List.mem_cons,List.flatMap_cons,List.cons_append,List.nil_append] at hc ⊢
   rcases hc with (h | h | h | h) | h | h | h
   · exact .inl (.inl h)
   · exact .inl (.inr (.inl h))
   · exact .inl (.inr (.inr (.inl h)))
   · exact .inl (.inr (.inr (.inr (.inr (.inr h)))))
   · exact .inl (.inr (.inr (.inr (.inl h))))
   · exact .inl (.inr (.inr (.inr (.inr (.inl h)))))
   · exact .inr h
 have sub:∀ c,c∈opn D P R r→c∈opn D P R ((f,a,b) :: r):=fun c hc=>by
   simp only [opn,List.mem_cons,List.flatMap_cons,List.cons_append,List.nil_append] at hc ⊢
   rcases hc with h | h | h | h
   · exact .inl h
   · exact .inr (.inl h)
   · exact .inr (.inr (.inl h))
   · exact .inr (.inr (.inr (.inr (.inr h))))
 have nd:=s.nd
 unfold opn at nd
 rw [List.flatMap_cons] at nd
 simp only [List.cons_append,List.nil_append,List.nodup_cons,List.mem_cons,not_or] at nd
 obtain ⟨⟨d1,d2,d3,d4,d5⟩,⟨p1,p2,p3,p4⟩,⟨r1,r2,r3⟩,⟨a1,a2⟩,b1,fl⟩:=nd
 have nSP:S≠P:=fun e=>s.nS (by rw [e]; exact mP)
 obtain ⟨m1,m2,m3,m4,m5,m6⟩:=n4 _ (List.mem_cons_self ..)
 refine ⟨⟨⟨by rw [az n1]; exact s.bG.bG,by rw [az nSP]; exact s.bG.fI,s.bG.ne,s.bG.len⟩,(s.box.up uS).sub j,s.few,ae,fun x hx=>?_,?_,?_,fun z=>s.nS (sub _ z)⟩,?_,?_,?_,a1⟩
 · obtain ⟨hd,fi,xs',fa⟩:=s.frames x (List.mem_cons_of_mem _ hx)
   obtain ⟨_,_,k3,k4,_,_⟩:=n4 x (List.mem_cons_of_mem _ hx)
   exact ⟨hd,fi,xs',(fa.up uS (az k3) (az k4)).sub j⟩
 · obtain ⟨rvs,h,g,l⟩:=s.rows
   exact ⟨rvs,by rw [az n3.symm]; exact h,(g.up uS).sub j,l⟩
 · unfold opn
   simp only [List.nodup_cons,List.mem_cons,not_or]
   exact ⟨⟨d1,d2,d5⟩,⟨p1,p4⟩,r3,fl⟩
 · obtain ⟨hd,fi,xs',fa⟩:=s.frames _ (List.mem_cons_self ..)
   exact ⟨hd,fi,xs',(fa.up uS (az m3) (az m4)).sub j⟩
 · unfold opn
   simp only [List.mem_cons,not_or]
   exact ⟨m1,m3,m5,a2⟩
 · unfold opn
   simp only [List.mem_cons,not_or]
   exact ⟨m2,m4,m6,b1⟩
theorem PSt.push (s:PSt K H D S sc p B bs P R frs rows E) {f:PG.Frame} {a b:Addr} {hd fi:V} {xs:List V} (fa:e7 K (O D P R frs E) H f a b hd fi xs) (ha:a ∉ opn D P R frs) (hb:b ∉ opn D P R frs) (nab:a≠b) (nSa:S≠a) (nSb:S≠b) (ea:a∈E) (eb:b∈E) :
   PSt K (upd H P (.lst ((frs.reverse.map fun x=>.ref x.2.1) ++ [.ref a]))) D S sc p B bs P R ((f,a,b) :: frs) rows E:=by
 obtain ⟨n1,n2,n3,n4⟩:=s.ne
 have mP:P∈opn D P R frs:=by simp [opn]
 have uS:bf (O D P R frs E) H (upd H P (.lst ((frs.reverse.map fun x=>.ref x.2.1) ++ [.ref a]))):=bf.refl.put (.inl mP) _
 have j:∀ c,O D P R ((f,a,b) :: frs) E c→O D P R frs E c:=fun c hc=>by
   simp only [O,opn,List.mem_cons,List.flatMap_cons,List.cons_append,List.nil_append] at hc ⊢
   rcases hc with (h | h | h | h | h | h) | h
   · exact .inl (.inl h)
   · exact .inl (.inr (.inl h))
   · exact .inl (.inr (.inr (.inl h)))
   · exact .inr (by rw [h]; exact ea)
   · exact .inr (by rw [h]; exact eb)
   · exact .inl (.inr (.inr (.inr h)))
   · exact .inr h
 have nSP:S≠P:=fun e=>s.nS (by rw [e]; exact mP)
 unfold opn at ha hb
 simp only [List.mem_cons,not_or] at ha hb
 have nd:=s.nd
 unfold opn at nd
 simp only [List.nodup_cons,List.mem_cons,not_or] at nd
 obtain ⟨⟨d1,d2,d5⟩,⟨p1,p4⟩,r3,fl⟩:=nd
 have nS:=s.nS
 unfold opn at nS
 simp only [List.mem_cons,not_or] at nS
 refine ⟨⟨by rw [az n1]; exact s.bG.bG,by rw [az nSP]; exact s.bG.fI,s.bG.ne,s.bG.len⟩,(s.box.up uS).sub j,s.few,by rw [ae,List.reverse_cons,List.map_append]; rfl,fun x hx=>?_,?_,?_,?_⟩
 · rcases List.mem_cons.mp hx with rfl | hx
   · exact ⟨hd,fi,xs,(fa.up uS (az ha.2.1) (az hb.2.1)).sub j⟩
   · obtain ⟨hd,fi,xs',fa⟩:=s.frames x hx
     obtain ⟨_,_,k3,k4,_,_⟩:=n4 x hx
     exact ⟨hd,fi,xs',(fa.up uS (az k3) (az k4)).sub j⟩
 · obtain ⟨rvs,h,g,l⟩:=s.rows
   exact ⟨rvs,by rw [az n3.symm]; exact h,(g.up uS).sub j,l⟩
 · unfold opn
   rw [List.flatMap_cons]
   simp only [List.cons_append,List.nil_append,List.nodup_cons,List.mem_cons,not_or]
   exact ⟨⟨d1,d2,fun e=>ha.1 e.symm,fun e=>hb.1 e.symm,d5⟩,⟨p1,fun e=>ha.2.1 e.symm,fun e=>hb.2.1 e.symm,p4⟩,⟨fun e=>ha.2.2.1 e.symm,fun e=>hb.2.2.1 e.symm,r3⟩,⟨nab,ha.2.2.2⟩,hb.2.2.2,fl⟩
 · unfold opn
   rw [List.flatMap_cons]
   simp only [List.cons_append,List.nil_append,List.mem_cons,not_or]
   exact ⟨nS.1,nS.2.1,nS.2.2.1,nSa,nSb,nS.2.2.2⟩
end
end L2
namespace L2
open PySem
theorem yQ {K:PySem.W.Frag} {a D:Addr} {xs:List V} {tc:TT} {te:TE} {Q:VK} {r:St} {H:Hp} (p:Nat→Bool) (f:Nat→V) (hS:SqL K H a xs) (hl:xs.length≤16000000) (hD:H D=none)
   (test:∀ i x,xs[i]?=some x→∀ H2,aw H H2→∀ R:Bool→Hp→Prop,(∀ H3,aw H2 H3→R (p i) H3)→tc (some x :: r) H2 R)
   (step:∀ i x,xs[i]?=some x→p i=true→∀ H2,aw H H2→∀ R:VK,(∀ H3,aw H2 H3→R (f i) H3)→te (some x :: r) H2 R)
   (q:∀ H2,aw H H2→H2 D=some (.lst (((List.range xs.length).filter p).map f))→Q (.ref D) H2):yA (Itl K a) D (gh 0) tc te Q (none :: r) (upd H D (.lst [])):=by
 refine ⟨fun i m τ H2=>m=xs.length - i∧i≤xs.length∧(∃ x,τ=x :: r)∧aw H H2∧H2 D=some (.lst (((List.range i).filter p).map f)),⟨xs.length,by simp,Nat.zero_le _,⟨none,rfl⟩,aw.new hD _,by rw [ae]; simp⟩,?_⟩
 rintro i m τ H2 ⟨rfl,hi,⟨x,rfl⟩,s2,h2⟩
 by_cases hlt:i < xs.length
 · refine .inr ⟨⟨xs,xs[i],s2.seq hS,by simp [hlt]⟩,fun τ' H'=>(∃ x,τ'=x :: r)∧aw H H'∧H' D=some (.lst (((List.range (i + 1)).filter p).map f)),fun τ' H' ⟨h1,h3,h4⟩=>⟨xs.length - (i + 1),by lia,rfl,hlt,h1,h3,h4⟩,fun y H' hy=>?_⟩
   obtain ⟨rfl,hy⟩:=hy
   have ey:=hy _ (s2.seq hS)
   simp only [gh,List.set]
   refine test i y ey _ s2 _ fun H3 s3=>?_
   have s13:=s2.trans s3
   have h3:=s3 _ _ h2
   rw [List.range_succ,List.filter_append,List.map_append]
   cases hp:p i with
   | false=>
     rw [if_neg Bool.false_ne_true]
     exact ⟨⟨_,rfl⟩,s13,by rw [h3]; simp [hp]⟩
   | true=>
     rw [if_pos rfl]
     refine step i y ey hp _ s13 _ fun H4 s4=>⟨_,s4 _ _ h3,?_,⟨_,rfl⟩,?_,?_⟩
     · have h1:(((List.range i).filter p).map f).length≤i:=by
         rw [List.length_map]
         exact Nat.le_trans (List.length_filter_le _ _) (by rw [List.length_range]; lia)
       have:sizeLine=2 ^ 24:=rfl
       lia
     · intro b o e
       rw [az (ao e hD)]
       exact s4 _ _ (s13 _ _ e)
     · rw [ae]
       simp [hp]
 · have e:i=xs.length:=by lia
   subst e
   exact .inl ⟨⟨xs,s2.seq hS,Nat.le_refl _⟩,q H2 s2 h2⟩
theorem Ej {α:Type} (p:α→Bool) (d:α):∀ l:List α,((List.range l.length).filter fun i=>p (l.getD i d)).length=(l.filter p).length:=by
 intro l
 have e:l=(List.range l.length).map fun i=>l.getD i d:=by
   apply List.ext_getElem
   · simp
   · intro i h1 h2
     simp [h1]
 conv=>rhs; rw [e]
 rw [List.filter_map,List.length_map]
 rfl
section
variable (K:PySem.W.Frag)
noncomputable def K9:Sp:=fun vs H Q _=>∃ (B R:Addr) (bs:List PG.Box) (rows:List PG.Row) (mode:Int),vs=[.ref B,.ref R,.int mode]∧Rep K H (.lst (bs.map jG)) (.ref B)∧Rep K H (.lst (rows.map lh)) (.ref R)∧bs.length≤10∧rows.length≤1000∧
 ∀ H',aw H H'→Q (.int (PG.number bs.length rows mode)) H'
noncomputable def MY:Sp:=fun vs H Q _=>∃ (D S:Addr) (sc:List Int) (p:Nat) (B:Addr) (bs:List PG.Box) (P R:Addr) (f g:PG.Frame) (a b a' b':Addr) (r:List Fra) (rows:List PG.Row),vs=[.ref P]∧
 PSt K H D S sc p B bs P R ((f,a,b) :: (g,a',b') :: r) rows []∧(f.kind=1∨f.kind=2∨f.kind=3)∧g.body.length≤1000∧r.length≤10∧
 ∀ H',(∀ c,H c≠none→H' c≠none)→(∀ c o,c ∉ opn D P R ((f,a,b) :: (g,a',b') :: r)→H c=some o→H' c=some o)→PSt K H' D S sc p B bs P R (({ g with body:=g.body ++ [f.told] },a',b') :: r) rows []→Q .non H'
end
theorem La {X:Cx} {K:PySem.W.Frag} (h:X.K=K):IxR X (DJ K):=h ▸ bt
theorem jo {X:Cx} {K:PySem.W.Frag} (h:X.K=K):IxR X (FA K):=h ▸ aP
theorem IY {X:Cx} {K:PySem.W.Frag} (h:X.K=K):OpR X (compareOp .NotIn) (rIn K true):=h ▸ uf
end L2
namespace L2
open PySem
section
variable (K:PySem.W.Frag)
end
noncomputable def Kept (D:Addr) (H H':Hp):Prop:=bD D H H'∧∀ b,H b≠none→H' b≠none
theorem Kept.up {D:Addr} {H H1 H2:Hp} (k:Kept D H H1) (u:bD D H1 H2) (hD:H2 D≠none):Kept D H H2:=⟨k.1.trans u,fun b hb=>u.dom hD b (k.2 b hb)⟩
theorem Kept.same {D:Addr} {H H1 H2:Hp} (k:Kept D H H1) (s:aw H1 H2):Kept D H H2:=⟨k.1.trans (.of s),fun b hb=>by
 have:=k.2 b hb
 cases z:H1 b with
 | none=>exact absurd z this
 | some o=>rw [s _ _ z]; simp⟩
theorem Kept.put {D q:Addr} {H H1:Hp} (k:Kept D H H1) (hq:H q=none) (o:HO):Kept D H (upd H1 q o):=⟨fun b u n e=>by rw [az (ao e hq)]; exact k.1 b u n e,fun b hb=>by
 by_cases z:b=q
 · rw [z,ae]; simp
 · rw [az z]; exact k.2 b hb⟩
theorem Cf {c:TT} {ta tb:TS} {D:Ends} {σ:St} {H:Hp} (h:∀ U:St→Hp→Prop,(∀ σ' H',tb D σ' H'→U σ' H')→JH c ta (fun _ σ H=>U σ H) D σ H):JH c ta tb D σ H:=h (tb D) fun _ _ x=>x
theorem Lb {K:PySem.W.Frag} {H:Hp}:∀ (s:PG.Stm) {v:V},Rep K H (dpS s) v→∃ a ys,v=.ref a∧SqT K H a (.str (wdS s.wd) :: ys):=by
 intro s v h
 have key:∃ ds,dpS s=.tup (.str (wdS s.wd) :: ds):=by
   cases s <;> exact ⟨_,by rw [dpS]; rfl⟩
 obtain ⟨ds,e⟩:=key
 rw [e,Rep.bj] at h
 obtain ⟨a,xs,rfl,q,r⟩:=h
 rw [aS.aM] at r
 obtain ⟨v1,t1,rfl,e1,_⟩:=r
 rw [Rep.bF] at e1
 subst e1
 exact ⟨a,t1,rfl,q⟩
noncomputable def aK:PG.Stm→List (List PG.Stm)
 | .ifs _ _ _ _ a b=>[a,b]
 | .whl _ _ _ _ a=>[a]
 | _=>[]
noncomputable def g9 (s:PG.Stm) (x:Int):Int:=match s with
 | .whl k _ _ _ _=>k
 | _=>x
noncomputable def oP (s:PG.Stm) (x:Int):List Int:=match s with
 | .stop _=>[0]
 | .ifs _ _ _ _ a b=>[PG.aQ a x,PG.aQ b x]
 | .whl k _ _ _ a=>[PG.aQ a k,x]
 | _=>[x]
theorem Lc (s:PG.Stm) (x:Int):PG.dI s x=(s.row,s.wd,oP s x) :: ((aK s).flatMap fun b=>PG.aU b (g9 s x)):=by
 cases s <;> simp [PG.dI,PG.Stm.row,PG.Stm.wd,oP,aK,g9]
noncomputable def fK (r:PG.eZ):Dp:=.tup [.int r.1,.str (wdS r.2.1),.tup (r.2.2.map .int)]
section
variable (K:PySem.W.Frag)
noncomputable def uw:Sp:=fun vs H Q _=>∃ (b:Addr) (body:List PG.Stm) (x:Int),vs=[.ref b,.int x]∧Rep K H (.lst (body.map dpS)) (.ref b)∧body.length≤100000∧Q (.int (PG.aQ body x)) H
noncomputable def Ek:Sp:=fun vs H Q _=>∃ (v:V) (st:PG.Stm) (x:Int),vs=[v,.int x]∧Rep K H (dpS st) v∧Q (.int (g9 st x)) H
noncomputable def yR:Sp:=fun vs H Q _=>∃ (v:V) (st:PG.Stm) (H0:Hp),vs=[v]∧Rep K H0 (dpS st) v∧aw H0 H∧∀ l us H',aw H H'→H l=none→H' l=some (.lst us)→aS K H0 ((aK st).map fun b=>.lst (b.map dpS)) us→Q (.ref l) H'
end
theorem gO {K:PySem.W.Frag} {H:Hp}:∀ (s:PG.Stm) {v:V},Rep K H (dpS s) v→∃ a ys,v=.ref a∧SqT K H a (.str (wdS s.wd) :: .int s.row :: ys):=by
 intro s v h
 have key:∃ ds,dpS s=.tup (.str (wdS s.wd) :: .int s.row :: ds):=by
   cases s <;> exact ⟨_,by rw [dpS]; rfl⟩
 obtain ⟨ds,e⟩:=key
 rw [e,Rep.bj] at h
 obtain ⟨a,xs,rfl,q,r⟩:=h
 rw [aS.aM] at r
 obtain ⟨v1,t1,rfl,e1,r⟩:=r
 rw [aS.aM] at r
 obtain ⟨v2,t2,rfl,e2,_⟩:=r
 rw [Rep.bF] at e1
 rw [Rep.bE] at e2
 subst e1 e2
 exact ⟨a,t2,rfl,q⟩
section
variable (K:PySem.W.Frag)
noncomputable def Ld (st:PG.Stm):Prop:=∀ b∈aK st,b.length≤100000
noncomputable def Le:Sp:=fun vs H Q _=>∃ (v:V) (st:PG.Stm) (x:Int),vs=[v,.int x]∧Rep K H (dpS st) v∧Ld st∧∀ u H',aw H H'→Rep K H' (.tup ((oP st x).map .int)) u→Q u H'
end
mutual
noncomputable def noL:Dp→Bool
 | .lst _=>false
 | .tup l=>oQ l
 | _=>true
noncomputable def oQ:List Dp→Bool
 | []=>true
 | d :: r=>noL d && oQ r
end
section
variable {K:PySem.W.Frag} {H H':Hp} {tl:Addr} {xs:List V}
mutual
theorem El (h:H tl=some (.lst xs)) (u:bf (·=tl) H H'):∀ (d:Dp) (v:V),noL d=true→Rep K H d v→Rep K H' d v
 | .non,v,_,r=>by rw [Rep.yc] at r ⊢; exact r
 | .bl b,v,_,r=>by rw [Rep.yB] at r ⊢; exact r
 | .int b,v,_,r=>by rw [Rep.bE] at r ⊢; exact r
 | .str b,v,_,r=>by rw [Rep.bF] at r ⊢; exact r
 | .lst l,v,e,_=>by rw [noL] at e; cases e
 | .tup l,v,e,r=>by
   rw [noL] at e
   rw [Rep.bj] at r ⊢
   obtain ⟨a,ys,rfl,q,rs⟩:=r
   refine ⟨a,ys,rfl,?_,wj h u l ys e rs⟩
   rcases q with (q | ⟨o,q⟩) | q
   · exact .inl (.inl (u _ _ (c7 q h (by intro z; cases z)) q))
   · exact .inl (.inr ⟨o,u _ _ (c7 q h (by intro z; cases z)) q⟩)
   · exact .inr q
theorem wj (h:H tl=some (.lst xs)) (u:bf (·=tl) H H'):∀ (ds:List Dp) (vs:List V),oQ ds=true→aS K H ds vs→aS K H' ds vs
 | [],vs,_,r=>by rw [aS.bw] at r ⊢; exact r
 | d :: ds,vs,e,r=>by
   rw [oQ,Bool.and_eq_true] at e
   rw [aS.aM] at r ⊢
   obtain ⟨v,t,rfl,r1,r2⟩:=r
   exact ⟨v,t,rfl,El h u d v e.1 r1,wj h u ds t e.2 r2⟩
end
theorem MZ (h:H tl=some (.lst xs)) {ds:List Dp} {vs:List V} (e:oQ ds=true) (r:aS K H ds vs):eX K (·=tl) H ds vs:=fun _ u=>wj h u ds vs e r
theorem O3 (h:H tl=some (.lst xs)) {d:Dp} {v:V} (e:noL d=true) (r:Rep K H d v):Fix K (·=tl) H d v:=fun _ u=>El h u d v e r
end
theorem wm:∀ l:List Int,oQ (l.map .int)=true
 | []=>by simp [oQ]
 | i :: r=>by rw [List.map_cons,oQ,wm r]; simp [noL]
theorem Lf (r:PG.eZ):noL (fK r)=true:=by simp [fK,noL,oQ,wm]
theorem Bu:∀ l:List PG.eZ,oQ (l.map fK)=true
 | []=>by simp [oQ]
 | r :: l=>by rw [List.map_cons,oQ,Lf,Bu l]; rfl
section
variable (K:PySem.W.Frag)
noncomputable def yd (n:Nat):Sp:=fun vs H Q _=>∃ (b:Addr) (body:List PG.Stm) (x:Int),vs=[.ref b,.int x]∧Rep K H (.lst (body.map dpS)) (.ref b)∧PG.fV body < n∧(PG.cE body).length≤1000∧
 ∀ l us H',aw H H'→H l=none→H' l=some (.lst us)→aS K H' ((PG.aU body x).map fK) us→Q (.ref l) H'
end
mutual
theorem jq:∀ (s:PG.Stm) (b:List PG.Stm),b∈aK s→(PG.cE b).length + 1≤(PG.gy s).length∧PG.fV b + 1≤PG.qT s
 | .ifs k _ _ _ x y,b,h=>by
   simp only [aK,List.mem_cons,List.not_mem_nil,or_false] at h
   rw [PG.gy,PG.qT]
   simp only [List.length_cons,List.length_append]
   rcases h with rfl | rfl <;> lia
 | .whl k _ _ _ x,b,h=>by
   simp only [aK,List.mem_cons,List.not_mem_nil,or_false] at h
   rw [PG.gy,PG.qT]
   simp only [List.length_cons]
   subst h
   lia
 | .ask _ _,b,h=>by cases h
 | .put _ _ _,b,h=>by cases h
 | .say _ _,b,h=>by cases h
 | .cL _ _ _ _,b,h=>by cases h
 | .stop _,b,h=>by cases h
end
theorem qH:∀ (l:List PG.Stm) (s:PG.Stm),s∈l→(PG.gy s).length≤(PG.cE l).length∧PG.qT s≤PG.fV l
 | [],s,h=>by cases h
 | a :: r,s,h=>by
   rw [PG.cE,PG.fV,List.length_append]
   rcases List.mem_cons.mp h with rfl | h
   · lia
   · have:=qH r s h
     lia
theorem IZ (s:PG.Stm):1≤(PG.gy s).length:=by cases s <;> simp [PG.gy]
theorem jC:∀ l:List PG.Stm,l.length≤(PG.cE l).length
 | []=>Nat.zero_le _
 | s :: r=>by
   rw [PG.cE,List.length_append,List.length_cons]
   have:=IZ s
   have:=jC r
   lia
section
variable (K:PySem.W.Frag)
noncomputable def FZ:Sp:=fun vs H Q _=>∃ (v:V) (pr:PG.Prog),vs=[v]∧Rep K H (kA pr) v∧PG.fV pr.body≤3∧(PG.cE pr.body).length≤1000∧
 ∀ l us H',aw H H'→H l=none→H' l=some (.lst us)→aS K H' ((PG.aU pr.body 0).map fK) us→Q (.ref l) H'
end
end L2
namespace L2
open PySem
section
variable {X:Cx}
end
structure TgI (K:PySem.W.Frag) (H H2:Hp) (tl:Addr) (H3:Hp) (us:List V) (pre:List PG.Tg):Prop where
 s:aw H H3
 u:bf (·=tl) H2 H3
 y:H3 tl=some (.lst us)
 f:eX K (·=tl) H3 (pre.map R8) us
 l:us.length=pre.length
section
variable {K:PySem.W.Frag} {H H2 H3 H4:Hp} {tl p:Addr} {us vs:List V} {pre:List PG.Tg} {ds:List Dp} {g:PG.Tg}
end
theorem Cg {K:PySem.W.Frag} {H:Hp} {rows:List PG.Row} {rv:List V} (rr:aS K H (rows.map lh) rv) {i:Nat} {y:V} (hi:rv[i]?=some y) (li:i < rows.length):∃ a,y=.ref a∧SqL K H a [.int rows[i].1,.str (wdS rows[i].2)]:=by
 obtain ⟨v',hv',rw_⟩:=rr.get (i:=i) (d:=lh rows[i]) (by rw [List.getElem?_map,List.getElem?_eq_getElem li]; rfl)
 rw [hi] at hv'
 cases hv'
 unfold lh at rw_
 rw [Rep.bR] at rw_
 obtain ⟨a,ys,rfl,hy,ry⟩:=rw_
 rw [aS.aM] at ry
 obtain ⟨v1,t1,rfl,e1,ry⟩:=ry
 rw [aS.aM] at ry
 obtain ⟨v2,t2,rfl,e2,ry⟩:=ry
 rw [aS.bw] at ry
 subst ry
 rw [Rep.bF] at e2
 rw [Rep.bE] at e1
 subst e1 e2
 exact ⟨a,rfl,hy⟩
theorem Ht:∀ w:PG.Wd,inV (V.str (wdS w)) [V.str (Str.ofString "if"),V.str (Str.ofString "while")]=decide (w=.ifs∨w=.whl):=by
 intro w
 cases w <;> decide +kernel
theorem O4:∀ w:PG.Wd,inV (V.str (wdS w)) [V.str (Str.ofString "else"),V.str (Str.ofString "end")]=decide (w=.els∨w=.fin):=by
 intro w
 cases w <;> decide +kernel
theorem Lg:∀ w:PG.Wd,(V.str (wdS w)=V.str (Str.ofString "must"))↔w=.cL:=by
 intro w
 cases w <;> decide +kernel
section
variable (K:PySem.W.Frag)
end
end L2
namespace L2
open PySem
noncomputable def yS:Option Nat→V
 | none=>.non
 | some e=>.int e
noncomputable def mtV (A:Nat→Addr) (p:Nat):Option PG.Mt→Option V
 | none=>none
 | some (.back q)=>some (.int q)
 | some (.op _ _)=>some (.ref (A p))
structure MtI (H:Hp) (d:Addr) (m:PG.Mm) (A:Nat→Addr) (Hx:Hp) (kvs:List (Key × V)):Prop where
 s:aw H Hx
 dn:H d=none
 dd:Hx d=some (.dK kvs)
 at_:∀ p:Nat,dR kvs (.inl (p:Int))=mtV A p (m p)
 ls:∀ p e f,m p=some (.op e f)→Hx (A p)=some (.lst [yS e,yS f])∧H (A p)=none
 inj:∀ p q e f e' f',m p=some (.op e f)→m q=some (.op e' f')→A p=A q→p=q
section
variable {H Hx H':Hp} {d b:Addr} {m:PG.Mm} {A:Nat→Addr} {kvs:List (Key × V)} {o:HO}
theorem MtI.ne (t:MtI H d m A Hx kvs) {p:Nat} {e f:Option Nat} (h:m p=some (.op e f)):A p≠d:=c7 (t.ls p e f h).1 t.dd (by intro z; cases z)
theorem MtI.same (t:MtI H d m A Hx kvs) (s:aw Hx H'):MtI H d m A H' kvs:=⟨t.s.trans s,t.dn,s _ _ t.dd,t.at_,fun p e f h=>⟨s _ _ (t.ls p e f h).1,(t.ls p e f h).2⟩,t.inj⟩
theorem MtI.put (t:MtI H d m A Hx kvs) (hb:H b=none) (nd:b≠d) (nl:∀ p e f,m p=some (.op e f)→A p≠b) (o:HO):MtI H d m A (upd Hx b o) kvs:=
 ⟨fun z u e=>by rw [az (ao e hb)]; exact t.s z u e,t.dn,by rw [az nd.symm]; exact t.dd,t.at_,fun p e f h=>⟨by rw [az (nl p e f h)]; exact (t.ls p e f h).1,(t.ls p e f h).2⟩,t.inj⟩
theorem uy {κ:Type} [DecidableEq κ] (kvs:List (κ × V)) (k:κ) (v:V):(putK kvs k v).length≤kvs.length + 1:=by
 unfold putK
 split
 · rw [List.length_map]; lia
 · rw [List.length_append]; simp
theorem MtI.back (t:MtI H d m A Hx kvs) (p q:Nat):MtI H d (m.set p (.back q)) A (upd Hx d (.dK (putK kvs (.inl (p:Int)) (.int q)))) (putK kvs (.inl (p:Int)) (.int q)):=by
 have key:∀ j e f,(m.set p (.back q)) j=some (.op e f)→j≠p∧m j=some (.op e f):=fun j e f h=>by
   by_cases z:j=p
   · subst z
     rw [PG.Mm.set_same] at h
     cases h
   · rw [PG.Mm.bN _ _ z] at h
     exact ⟨z,h⟩
 refine ⟨fun z u e=>by rw [az (ao e t.dn)]; exact t.s z u e,t.dn,ae,fun j=>?_,fun j e f h=>?_,fun a b e f e' f' h1 h2 z=>t.inj a b e f e' f' (key a e f h1).2 (key b e' f' h2).2 z⟩
 · rw [ui]
   by_cases z:j=p
   · subst z
     rw [if_pos rfl,PG.Mm.set_same]
     rfl
   · rw [if_neg (fun e=>z (by injection e with e; lia)),PG.Mm.bN _ _ z,t.at_ j]
 · have h:=(key j e f h).2
   exact ⟨by rw [az (t.ne h)]; exact (t.ls j e f h).1,(t.ls j e f h).2⟩
theorem MtI.QQ (t:MtI H d m A Hx kvs) (p:Nat) (hb:Hx b=none):MtI H d (m.set p (.op none none)) (fun j=>if j=p then b else A j) (upd (upd Hx b (.lst [.non,.non])) d (.dK (putK kvs (.inl (p:Int)) (.ref b)))) (putK kvs (.inl (p:Int)) (.ref b)):=by
 have nb:b≠d:=(ao t.dd hb).symm
 have hb0:H b=none:=by
   cases z:H b with
   | none=>rfl
   | some o=>rw [t.s _ _ z] at hb; cases hb
 have key:∀ j e f,(m.set p (.op none none)) j=some (.op e f)→(j=p∧e=none∧f=none)∨(j≠p∧m j=some (.op e f)):=fun j e f h=>by
   by_cases z:j=p
   · subst z
     rw [PG.Mm.set_same] at h
     cases h
     exact .inl ⟨rfl,rfl,rfl⟩
   · rw [PG.Mm.bN _ _ z] at h
     exact .inr ⟨z,h⟩
 have old:∀ j e f,m j=some (.op e f)→A j≠b:=fun j e f h=>ao (t.ls j e f h).1 hb
 refine ⟨fun z u e=>by rw [az (ao e t.dn),az (ao e hb0)]; exact t.s z u e,t.dn,ae,fun j=>?_,fun j e f h=>?_,fun a c e f e' f' h1 h2 z=>?_⟩
 · rw [ui]
   by_cases z:j=p
   · subst z
     rw [if_pos rfl,PG.Mm.set_same]
     simp [mtV]
   · rw [if_neg (fun e=>z (by injection e with e; lia)),PG.Mm.bN _ _ z,t.at_ j]
     unfold mtV
     cases m j with
     | none=>rfl
     | some x=>cases x <;> simp [z]
 · rcases key j e f h with ⟨rfl,rfl,rfl⟩ | ⟨z,h⟩
   · rw [if_pos rfl]
     exact ⟨by rw [az nb,ae]; rfl,hb0⟩
   · rw [if_neg z]
     exact ⟨by rw [az (t.ne h),az (old j e f h)]; exact (t.ls j e f h).1,(t.ls j e f h).2⟩
 · rcases key a e f h1 with ⟨rfl,_,_⟩ | ⟨z1,g1⟩ <;> rcases key c e' f' h2 with ⟨rfl,_,_⟩ | ⟨z2,g2⟩
   · rfl
   · rw [if_pos rfl,if_neg z2] at z
     exact absurd z.symm (old c _ _ g2)
   · rw [if_neg z1,if_pos rfl] at z
     exact absurd z (old a _ _ g1)
   · rw [if_neg z1,if_neg z2] at z
     exact t.inj a c e f e' f' g1 g2 z
theorem MtI.list (t:MtI H d m A Hx kvs) {p:Nat} {e f:Option Nat} (h:m p=some (.op e f)) (e' f':Option Nat):MtI H d (m.set p (.op e' f')) A (upd Hx (A p) (.lst [yS e',yS f'])) kvs:=by
 have key:∀ j x y,(m.set p (.op e' f')) j=some (.op x y)→(j=p∧x=e'∧y=f')∨(j≠p∧m j=some (.op x y)):=fun j x y h=>by
   by_cases z:j=p
   · subst z
     rw [PG.Mm.set_same] at h
     cases h
     exact .inl ⟨rfl,rfl,rfl⟩
   · rw [PG.Mm.bN _ _ z] at h
     exact .inr ⟨z,h⟩
 have op:∀ j x y,(m.set p (.op e' f')) j=some (.op x y)→∃ x y,m j=some (.op x y):=fun j x y hj=>by
   rcases key j x y hj with ⟨rfl,_,_⟩ | ⟨_,h'⟩
   · exact ⟨_,_,h⟩
   · exact ⟨_,_,h'⟩
 refine ⟨fun z u q=>by rw [az (ao q (t.ls p e f h).2)]; exact t.s z u q,t.dn,by rw [az (t.ne h).symm]; exact t.dd,fun j=>?_,fun j x y hj=>?_,fun a c x y x' y' h1 h2 z=>?_⟩
 · rw [t.at_ j]
   by_cases z:j=p
   · subst z
     rw [PG.Mm.set_same,h]
     rfl
   · rw [PG.Mm.bN _ _ z]
 · rcases key j x y hj with ⟨rfl,rfl,rfl⟩ | ⟨z,hj⟩
   · exact ⟨ae,(t.ls _ _ _ h).2⟩
   · exact ⟨by rw [az (fun q=>z (t.inj j p _ _ _ _ hj h q))]; exact (t.ls j x y hj).1,(t.ls j x y hj).2⟩
 · obtain ⟨_,_,h1⟩:=op a x y h1
   obtain ⟨_,_,h2⟩:=op c x' y' h2
   exact t.inj a c _ _ _ _ h1 h2 z
end
section
variable (K:PySem.W.Frag)
noncomputable def QR (H Hx:Hp) (d:Addr) (R:List PG.Row):Prop:=∃ A kvs,MtI H d (PG.oh R) A Hx kvs
noncomputable def O5:Sp:=fun vs H Q _=>∃ (R:Addr) (rows:List PG.Row) (b:List PG.Stm),vs=[.ref R]∧Rep K H (.lst (rows.map lh)) (.ref R)∧rows.length≤1000∧PG.cB b rows∧∀ d H',QR H H' d rows→Q (.ref d) H'
noncomputable def R9:Sp:=fun vs H Q _=>∃ (R d:Addr) (rows:List PG.Row) (b:List PG.Stm) (H0:Hp) (p:Nat),vs=[.ref R,.ref d,.int p]∧Rep K H (.lst (rows.map lh)) (.ref R)∧rows.length≤1000∧PG.cB b rows∧QR H0 H d rows∧Q (.int (PG.to rows (PG.oh rows) p)) H
noncomputable def M0:Sp:=fun vs H Q _=>∃ (R:Addr) (rows:List PG.Row) (b:List PG.Stm),vs=[.ref R]∧Rep K H (.lst (rows.map lh)) (.ref R)∧rows.length≤1000∧PG.cB b rows∧
 ∀ l us H',aw H H'→H l=none→H' l=some (.lst us)→aS K H' ((PG.aU b 0).map fK) us→Q (.ref l) H'
end
end L2
namespace L2
open PySem
structure sV (K:PySem.W.Frag) (H:Hp) (tl:Addr) (H3:Hp) (us:List V) (ds:List Dp):Prop where
 s:aw H H3
 y:H3 tl=some (.lst us)
 f:eX K (·=tl) H3 ds us
 l:us.length=ds.length
section
variable {K:PySem.W.Frag} {H H3 H4:Hp} {tl p p1 p2:Addr} {us vs:List V} {ds es:List Dp} {d:Dp} {v:V}
theorem sV.new (h:H tl=none):sV K H tl (upd H tl (.lst [])) [] []:=⟨aw.new h _,ae,.nil,rfl⟩
theorem sV.same (a:sV K H tl H3 us ds) (s:aw H3 H4):sV K H tl H4 us ds:=⟨a.s.trans s,s _ _ a.y,a.f.up (.of s),a.l⟩
theorem sV.push (a:sV K H tl H3 us ds) (ht:H tl=none) (fv:Fix K (·=tl) H3 d v):sV K H tl (upd H3 tl (.lst (us ++ [v]))) (us ++ [v]) (ds ++ [d]):=by
 have uu:bf (·=tl) H3 (upd H3 tl (.lst (us ++ [v]))):=bf.refl.put (O:=(·=tl)) rfl _
 exact ⟨fun z o e=>by rw [az (ao e ht)]; exact a.s z o e,ae,(a.f.snoc fv).up uu,by simp [a.l]⟩
theorem sV.row (a:sV K H tl H3 us ds) (ht:H tl=none) {k:Int} {w:PG.Wd} {ws:List Int} (h1:H3 p1=none) (h2:(upd H3 p1 (.tup (ws.map V.int))) p2=none) :
   (upd (upd H3 p1 (.tup (ws.map V.int))) p2 (.tup [.int k,.str (wdS w),.ref p1])) tl=some (.lst us)∧
   sV K H tl (upd (upd (upd H3 p1 (.tup (ws.map V.int))) p2 (.tup [.int k,.str (wdS w),.ref p1])) tl (.lst (us ++ [.ref p2]))) (us ++ [.ref p2]) (ds ++ [fK (k,w,ws)]):=by
 have s1:=aw.new h1 (.tup (ws.map V.int))
 have a1:=a.same s1
 have t1:(upd H3 p1 (.tup (ws.map V.int))) p1=some (.tup (ws.map V.int)):=ae
 have n1:p1≠tl:=(ao a.y h1).symm
 generalize upd H3 p1 (.tup (ws.map V.int))=H5 at *
 have s2:=aw.new h2 (.tup [.int k,.str (wdS w),.ref p1])
 have a2:=a1.same s2
 have t2:(upd H5 p2 (.tup [.int k,.str (wdS w),.ref p1])) p2=some (.tup [.int k,.str (wdS w),.ref p1]):=ae
 have n2:p2≠tl:=(ao a1.y h2).symm
 have t1:=s2 _ _ t1
 generalize upd H5 p2 (.tup [.int k,.str (wdS w),.ref p1])=H6 at *
 refine ⟨a2.y,a2.push ht (Fix.tup t2 n2 (.cons .int (.cons .str (.cons (Fix.tup t1 n1 ?_) .nil))))⟩
 have allI:∀ l:List Int,eX K (·=tl) H6 (l.map Dp.int) (l.map V.int):=fun l=>by
   induction l with
   | nil=>exact .nil
   | cons i r ih=>exact .cons .int ih
 exact allI ws
end
end L2
namespace L2
open PySem
section
variable {X:Cx}
noncomputable def M1:V→List V→Hp→VK→Prop:=fun x vs H Q=>∃ a b kvs more,x=.ref a∧vs=[.ref b]∧a≠b∧H a=some (.dK kvs)∧H b=some (.dK more)∧kvs.length + more.length≤sizeLine∧Q .non (upd H a (.dK (gX kvs more)))
theorem I0:MtM X "dict.update" M1:=by
 intro pins s σ H x vs v us Q I rx rv h
 obtain ⟨a,b,kvs,more,rfl,rfl,hab,ha,hb,hz,q⟩:=h
 cases rx
 obtain ⟨u,rfl,ru⟩:=rv.one
 cases ru
 obtain ⟨z,hd,vs,rel,dd⟩:=G4 I.hok ha
 obtain ⟨z2,hd2,vs2,QS,dd2⟩:=G4 I.hok hb
 refine call_meetsIn PySem.F.slot_dict_update dd.typeIs PySem.F.entry_dict_update (PySem.F.args_dict_update_2 _ _) (meets_dict_update (cN X.prog X.w) a b hab hd2) ⟨vs,vs2,dd,dd2,by rw [← rel.length,← QS.length]; exact hz,fun h' dd' _ hs=>?_⟩
 have he:∃ q,h'.get? a=some q:=let ⟨q,_,_,hq,_⟩:=dd'; ⟨q,hq⟩
 exact ⟨.non,_,x8 (t':=s.toks) I (by rw [ha]; exact True.intro) hs he (yv (Nat.le_trans (gx more kvs) hz) hd (QS.merge rel) dd'),rfl,q⟩
end
theorem yT {kvs:List (Key × V)} {k:Key} {v:V} (h:k ∉ kvs.map (·.1)):putK kvs k v=kvs ++ [(k,v)]:=by
 unfold putK
 rw [if_neg]
 intro z
 rw [List.any_eq_true] at z
 obtain ⟨x,hx,e⟩:=z
 exact h (List.mem_map.mpr ⟨x,hx,of_decide_eq_true e⟩)
theorem iy:∀ (more kvs:List (Key × V)),((kvs ++ more).map (·.1)).Nodup→gX kvs more=kvs ++ more
 | [],kvs,_=>by simp [gX]
 | p :: r,kvs,h=>by
   have hp:p.1 ∉ kvs.map (·.1):=fun z=>by
     rw [List.map_append,List.nodup_append] at h
     exact h.2.2 _ z _ (by simp) rfl
   show gX (putK kvs p.1 p.2) r=_
   rw [yT hp,iy r _ (by rw [List.append_assoc]; exact h),List.append_assoc]
   rfl
noncomputable def cY (ss:List PG.Stm) (vs:List V):List (Key × V):=List.zipWith (fun s v=>(Sum.inl s.row,v)) ss vs
theorem gF:∀ (ss:List PG.Stm) (vs:List V),vs.length=ss.length→(cY ss vs).map (·.1)=ss.map fun s=>(Sum.inl s.row:Key)
 | [],[],_=>rfl
 | [],_ :: _,h=>by simp at h
 | _ :: _,[],h=>by simp at h
 | s :: ss,v :: vs,h=>by
   show _ :: (cY ss vs).map (·.1)=_
   rw [gF ss vs (by simpa using h)]
   rfl
theorem qI:∀ (ss tt:List PG.Stm) (vs us:List V),vs.length=ss.length→cY (ss ++ tt) (vs ++ us)=cY ss vs ++ cY tt us
 | [],tt,[],us,_=>rfl
 | [],_,_ :: _,_,h=>by simp at h
 | _ :: _,_,[],_,h=>by simp at h
 | s :: ss,tt,v :: vs,us,h=>by
   show _ :: cY (ss ++ tt) (vs ++ us)=_ :: (cY ss vs ++ cY tt us)
   rw [qI ss tt vs us (by simpa using h)]
theorem sW {ss:List PG.Stm} (h:ss.Pairwise fun a b=>a.row < b.row):(ss.map fun s=>(Sum.inl s.row:Key)).Nodup:=by
 refine List.pairwise_map.mpr (h.imp fun {a b} hab e=>?_)
 have:=Sum.inl.inj e
 lia
theorem oR:∀ (ss:List PG.Stm) (vs:List V),vs.length=ss.length→ss.Pairwise (fun a b=>a.row < b.row)→∀ i (hi:i < ss.length) v,vs[i]?=some v→dR (cY ss vs) (.inl ss[i].row)=some v
 | [],_,_,_,i,hi,_,_=>by simp at hi
 | _ :: _,[],h,_,_,_,_,_=>by simp at h
 | s :: ss,v :: vs,h,hp,0,hi,u,hu=>by
   simp at hu
   subst hu
   show dR ((_,v) :: cY ss vs) _=_
   exact cR rfl
 | s :: ss,v :: vs,h,hp,i + 1,hi,u,hu=>by
   rw [List.pairwise_cons] at hp
   have lt:=hp.1 (ss[i]'(by simpa using hi)) (List.getElem_mem _)
   show dR ((.inl s.row,v) :: cY ss vs) (.inl (ss[i]'(by simpa using hi)).row)=_
   rw [cS (fun e=>by have e:=Sum.inl.inj e; lia)]
   exact oR ss vs (by simpa using h) hp.2 i (by simpa using hi) u (by simpa using hu)
theorem Hu (s:PG.Stm):PG.l5 s=s :: (aK s).flatMap PG.aC:=by
 cases s <;> simp [PG.l5,aK]
section
variable (K:PySem.W.Frag)
noncomputable def Ci (n:Nat):Sp:=fun vs H Q _=>∃ (b:Addr) (body:List PG.Stm) (H0:Hp),vs=[.ref b]∧aw H0 H∧Rep K H0 (.lst (body.map dpS)) (.ref b)∧PG.fV body < n∧(PG.cE body).length≤1000∧(PG.aC body).Pairwise (fun a b=>a.row < b.row)∧
 ∀ d us H',aw H H'→H d=none→us.length=(PG.aC body).length→H' d=some (.dK (cY (PG.aC body) us))→aS K H0 ((PG.aC body).map dpS) us→Q (.ref d) H'
noncomputable def qJ (n:Nat):Sp:=fun vs H Q _=>∃ (b:Addr) (body:List PG.Stm) (H0:Hp),vs=[.ref b]∧aw H0 H∧Rep K H0 (.lst (body.map dpS)) (.ref b)∧PG.fV body < n∧(PG.cE body).length≤1000∧
 ∀ l us H',aw H H'→H l=none→H' l=some (.lst us)→aS K H0 ((PG.aC body).map dpS) us→Q (.ref l) H'
end
theorem M3 {K:PySem.W.Frag} {H:Hp}:∀ (s:PG.Stm) {v:V},Rep K H (dpS s) v→∃ a xs,v=.ref a∧SqT K H a xs∧2≤xs.length∧xs.length≤7∧xs[1]?=some (.int s.row)∧aS K H ((aK s).map fun b=>.lst (b.map dpS)) (gQ xs (some 5) none):=by
 intro s v h
 have cut:∀ xs:List V,gQ xs (some 5) none=xs.drop 5:=fun xs=>by
   unfold gQ
   rw [HT.kX,show (5:Int)=((5:Nat):Int) from rfl,HT.lS]
   by_cases h:5≤xs.length
   · rw [Nat.min_eq_left h]
     exact List.take_of_length_le (by rw [List.length_drop]; lia)
   · rw [Nat.min_eq_right (by lia),List.drop_eq_nil_of_le (Nat.le_refl _),List.drop_eq_nil_of_le (by lia),List.take_nil]
 cases s with
 | ask k b=>
   simp only [dpS,Rep.bj,aS.aM,aS.bw,Rep.bF,Rep.bE] at h
   obtain ⟨a,xs,rfl,hS,_,_,rfl,rfl,_,_,rfl,rfl,_,_,rfl,rfl,rfl⟩:=h
   exact ⟨a,_,rfl,hS,by simp,by simp,rfl,by rw [cut]; exact .nil⟩
 | put k b e=>
   simp only [dpS,Rep.bj,aS.aM,aS.bw,Rep.bF,Rep.bE] at h
   obtain ⟨a,xs,rfl,hS,_,_,rfl,rfl,_,_,rfl,rfl,_,_,rfl,_,_,_,rfl,_,rfl⟩:=h
   exact ⟨a,_,rfl,hS,by simp,by simp,rfl,by rw [cut]; exact .nil⟩
 | say k e=>
   simp only [dpS,Rep.bj,aS.aM,aS.bw,Rep.bF,Rep.bE] at h
   obtain ⟨a,xs,rfl,hS,_,_,rfl,rfl,_,_,rfl,rfl,_,_,rfl,_,rfl⟩:=h
   exact ⟨a,_,rfl,hS,by simp,by simp,rfl,by rw [cut]; exact .nil⟩
 | cL k sg l r=>
   simp only [dpS,Rep.bj,aS.aM,aS.bw,Rep.bF,Rep.bE] at h
   obtain ⟨a,xs,rfl,hS,_,_,rfl,rfl,_,_,rfl,rfl,_,_,rfl,_,_,_,rfl,_,_,_,rfl,_,rfl⟩:=h
   exact ⟨a,_,rfl,hS,by simp,by simp,rfl,by rw [cut]; exact .nil⟩
 | stop k=>
   simp only [dpS,Rep.bj,aS.aM,aS.bw,Rep.bF,Rep.bE] at h
   obtain ⟨a,xs,rfl,hS,_,_,rfl,rfl,_,_,rfl,rfl,rfl⟩:=h
   exact ⟨a,_,rfl,hS,by simp,by simp,rfl,by rw [cut]; exact .nil⟩
 | ifs k sg l r x y=>
   simp only [dpS,Rep.bj,aS.aM,aS.bw,Rep.bF,Rep.bE] at h
   obtain ⟨a,xs,rfl,hS,_,_,rfl,rfl,_,_,rfl,rfl,_,_,rfl,_,_,_,rfl,_,_,_,rfl,_,_,_,rfl,h5,_,_,rfl,h6,rfl⟩:=h
   rw [fC] at h5 h6
   exact ⟨a,_,rfl,hS,by simp,by simp,rfl,by rw [cut]; exact .cons h5 (.cons h6 .nil)⟩
 | whl k sg l r x=>
   simp only [dpS,Rep.bj,aS.aM,aS.bw,Rep.bF,Rep.bE] at h
   obtain ⟨a,xs,rfl,hS,_,_,rfl,rfl,_,_,rfl,rfl,_,_,rfl,_,_,_,rfl,_,_,_,rfl,_,_,_,rfl,h5,rfl⟩:=h
   rw [fC] at h5
   exact ⟨a,_,rfl,hS,by simp,by simp,rfl,by rw [cut]; exact .cons h5 .nil⟩
theorem Lh {K:PySem.W.Frag} {tl:TE} {g:TG} {tb:TS} {D:Ends} {σ:St} {H:Hp} (h:∀ U:Addr→Hp→Prop,(∀ a H1,(∃ W:Nat→Nat→St→Hp→Prop,(∃ m,W 0 m σ H1)∧∀ i m σ H,W i m σ H→
   ((Itt K a).stop i H∧D.nx σ H)∨((Itt K a).go i H∧∃ N:St→Hp→Prop,(∀ σ' H',N σ' H'→∃ m',m' < m∧W (i + 1) m' σ' H')∧∀ x H',(Itt K a).yld i H x H'→g x σ H' fun σ2 H2=>tb { D with nx:=N,ct:=N,bk:=D.nx } σ2 H2))→U a H1)→
   tl σ H fun x H1=>∃ a,x=.ref a∧(∃ xs,SqT K H1 a xs)∧U a H1):MA (Qi K tl) g tb D σ H:=h _ fun _ _ x=>x
theorem oS:∀ a b:List PG.Stm,PG.aC (a ++ b)=PG.aC a ++ PG.aC b
 | [],b=>by simp [PG.aC]
 | s :: r,b=>by
   show PG.aC (s :: (r ++ b))=_
   rw [PG.aC,PG.aC,oS r b,List.append_assoc]
theorem Em (s:PG.Stm):PG.aC [s]=PG.l5 s:=by rw [PG.aC,PG.aC,List.append_nil]
theorem oT (b:List PG.Stm):(PG.aC b).length=(PG.cE b).length:=by rw [← PG.fG,List.length_map]
end L2
namespace HT
open PySem PySem.Spec PyProof.Rows
section
variable {prog:Program} {w:World} {A:Around} {E:Value→Shared→Prop} {s:Shared}
theorem qU {t sl:Addr} {items:Array Value} {vl vu:Value} {lo hi:Option Int} {Q:Value→Shared→Prop} (ht:IsTup s.heap t items) (hs:s.heap.IsSliceOf sl vl vu .none) (pl:IsPart vl lo) (pu:IsPart vu hi)
   (hw:sIx items.size 0 lo=0∧sIx items.size items.size hi=items.size) (h:Q (.ref t) s):wpAny (model prog w) A (getItem (.ref t) (.ref sl)) Q E s:=by
 have hj:sIx items.size items.size hi≤items.size:=Fx _ _ (Nat.le_refl _) hi
 obtain ⟨os,hos,hcs,hds⟩:=id hs
 have hTs:s.TypeIs (.ref sl) "slice":=⟨os,hos,hcs⟩
 unfold getItem
 try with_reducible refine wpAny_holding ?_
 first | refine wpAny_bind (wpAny_pure ?_) | skip
 refine wpAny_bind (wpAny_sequenceKey ht.typeIs (by decide) ?_)
 refine wpAny_bind (wpAny_callSpecial?_slot (name:=Str.ofString "__getitem__") ht.typeIs PyProof.Rows.slot_tuple_getitem
   (wpAny_call_entry PyProof.Rows.slot_tuple_getitem ht.typeIs entry_tuple_getitem ?_ (args_tuple_getitem _ _)))
 show wpAny _ _ (Builtin.Tuple.tupleItemsOf (.ref t) >>= _) _ _ s
 refine wpAny_bind (tupleItemsOf_ ht ?_)
 refine wpAny_bind (wpAny_typeOf hTs ?_)
 rw [if_pos (by decide)]
 refine wpAny_bind (kY hs pl pu ?_)
 have Sa:((((sIx items.size 0 lo:Nat):Int) == 0 && (1:Int) == 1 && (sIx items.size items.size hi - sIx items.size 0 lo) == items.size)=true):=by
   rw [hw.1,hw.2]
   simp
 show wpAny _ _ (if (((sIx items.size 0 lo:Nat):Int) == 0 && (1:Int) == 1 && (sIx items.size items.size hi - sIx items.size 0 lo) == items.size)=true then _ else _) _ _ s
 rw [if_pos Sa]
 refine wpAny_bind (m:=Builtin.Tuple.tupleIsExact _) ?_
 unfold Builtin.Tuple.tupleIsExact
 refine wpAny_bind (wpAny_typeOf ht.typeIs (wpAny_pure ?_))
 rw [if_pos (by simp)]
 first
   | exact wpAny_bind (wpAny_rule (wpAny_pure ⟨_,rfl,wpAny_pure h⟩))
   | exact wpAny_bind (wpAny_pure (wpAny_pure ⟨_,rfl,wpAny_pure h⟩))
end
end HT
namespace L2
open PySem PySem.Spec PyProof.Rows
noncomputable def QT (K:PySem.W.Frag):V→Option Int→Option Int→Hp→VK→Prop:=fun x lo hi H Q=>∃ a xs,x=.ref a∧SqT K H a xs∧
 ((HT.sIx xs.length 0 lo=0∧HT.sIx xs.length xs.length hi=xs.length)→Q (.ref a) H)∧
 (¬ (HT.sIx xs.length 0 lo=0∧HT.sIx xs.length xs.length hi=xs.length)→∀ p,H p=none→Q (.ref p) (upd H p (.tup (gQ xs lo hi))))
theorem M4 {X:Cx}:SlR X (QT X.K):=by
 intro pins s σ H x v vl vu lo hi sl Q I rx hs pl pu h
 obtain ⟨a,xs,rfl,hx,h1,h2⟩:=h
 by_cases hw:HT.sIx xs.length 0 lo=0∧HT.sIx xs.length xs.length hi=xs.length
 · cases rx
   obtain ⟨its,r,ht,hz⟩:=I.tuple hx
   have hlen:its.toArray.size=xs.length:=by rw [List.size_toArray]; exact r.length.symm
   refine ⟨"tuple",_,PyProof.Rows.slot_tuple_getitem.lookup,ht.typeIs,?_⟩
   exact HT.qU ht hs pl pu (by rw [hlen]; exact hw) ⟨.ref a,H,I,rfl,h1 hw⟩
 · exact J7 pins s σ H (.ref a) v vl vu lo hi sl Q I rx hs pl pu ⟨a,xs,rfl,hx,hw,h2 hw⟩
end L2
namespace L2
open PySem
noncomputable def gS {α β γ:Type} (R:α→β→γ→Prop):List α→List β→List γ→Prop
 | [],[],[]=>True
 | a :: as,b :: bs,c :: cs=>R a b c∧gS R as bs cs
 | _,_,_=>False
section
variable {α β γ:Type} {R S:α→β→γ→Prop}
theorem gS.bw {bs:List β} {cs:List γ}:gS R [] bs cs↔bs=[]∧cs=[]:=by
 cases bs <;> cases cs <;> simp [gS]
theorem gS.aM {a:α} {as:List α} {bs:List β} {cs:List γ}:gS R (a :: as) bs cs↔∃ b bs' c cs',bs=b :: bs'∧cs=c :: cs'∧R a b c∧gS R as bs' cs':=by
 constructor
 · intro h
   cases bs with
   | nil=>simp [gS] at h
   | cons b bs=>
     cases cs with
     | nil=>simp [gS] at h
     | cons c cs=>exact ⟨b,bs,c,cs,rfl,rfl,h.1,h.2⟩
 · rintro ⟨b,bs',c,cs',rfl,rfl,h1,h2⟩
   exact ⟨h1,h2⟩
theorem gS.imp:∀ {as:List α} {bs:List β} {cs:List γ},gS R as bs cs→(∀ a b c,a∈as→c∈cs→R a b c→S a b c)→gS S as bs cs
 | [],_,_,h,_=>by obtain ⟨rfl,rfl⟩:=gS.bw.mp h; trivial
 | a :: as,_,_,h,f=>by
   obtain ⟨b,bs',c,cs',rfl,rfl,h1,h2⟩:=gS.aM.mp h
   exact ⟨f a b c (List.mem_cons_self ..) (List.mem_cons_self ..) h1,h2.imp fun a' b' c' m1 m2=>f a' b' c' (List.mem_cons_of_mem _ m1) (List.mem_cons_of_mem _ m2)⟩
end
noncomputable def hdS:PG.Stm→List Dp
 | .ask k b=>[.str "ask",.int k,.str (S b)]
 | .put k b e=>[.str "put",.int k,.str (S b),dpT e]
 | .say k e=>[.str "say",.int k,dpT e]
 | .cL k sg l r=>[.str "must",.int k,.str (S sg),dpT l,dpT r]
 | .stop k=>[.str "stop",.int k]
 | .ifs k sg l r _ _=>[.str "if",.int k,.str (S sg),dpT l,dpT r]
 | .whl k sg l r _=>[.str "while",.int k,.str (S sg),dpT l,dpT r]
theorem O6 (s:PG.Stm):dpS s=.tup (hdS s ++ (aK s).map fun b=>.lst (b.map dpS)):=by
 cases s <;> simp [dpS,hdS,aK,fC]
mutual
theorem NV:∀ t:PM.Tr,noL (dpT t)=true
 | .num n=>by simp [dpT,noL,oQ]
 | .box n=>by simp [dpT,noL,oQ]
 | .bin o l r=>by simp [dpT,noL,oQ,NV l,NV r]
end
section
variable {K:PySem.W.Frag} {H H':Hp} {O:Addr→Prop}
theorem Ja (hO:∀ g,O g→∃ ys,H g=some (.lst ys)) (u:bf O H H') {a:Addr} {ys:List V} (q:SqT K H a ys):SqT K H' a ys:=by
 rcases q with (q | ⟨o,q⟩) | q
 · exact .inl (.inl (u _ _ (fun z=>by obtain ⟨_,e⟩:=hO a z; rw [e] at q; cases q) q))
 · exact .inl (.inr ⟨o,u _ _ (fun z=>by obtain ⟨_,e⟩:=hO a z; rw [e] at q; cases q) q⟩)
 · exact .inr q
mutual
theorem Jb (hO:∀ g,O g→∃ ys,H g=some (.lst ys)) (u:bf O H H'):∀ (d:Dp) (v:V),noL d=true→Rep K H d v→Rep K H' d v
 | .non,v,_,r=>by rw [Rep.yc] at r ⊢; exact r
 | .bl b,v,_,r=>by rw [Rep.yB] at r ⊢; exact r
 | .int b,v,_,r=>by rw [Rep.bE] at r ⊢; exact r
 | .str b,v,_,r=>by rw [Rep.bF] at r ⊢; exact r
 | .lst l,v,e,_=>by rw [noL] at e; cases e
 | .tup l,v,e,r=>by
   rw [noL] at e
   rw [Rep.bj] at r ⊢
   obtain ⟨a,ys,rfl,q,rs⟩:=r
   exact ⟨a,ys,rfl,Ja hO u q,yU hO u l ys e rs⟩
theorem yU (hO:∀ g,O g→∃ ys,H g=some (.lst ys)) (u:bf O H H'):∀ (ds:List Dp) (vs:List V),oQ ds=true→aS K H ds vs→aS K H' ds vs
 | [],vs,_,r=>by rw [aS.bw] at r ⊢; exact r
 | d :: ds,vs,e,r=>by
   rw [oQ,Bool.and_eq_true] at e
   rw [aS.aM] at r ⊢
   obtain ⟨v,t,rfl,r1,r2⟩:=r
   exact ⟨v,t,rfl,Jb hO u d v e.1 r1,yU hO u ds t e.2 r2⟩
end
end
section
variable (K:PySem.W.Frag) (H:Hp)
noncomputable def TrB:Nat→List PG.Stm→Addr→List Addr→Prop
 | 0,_,_,_=>False
 | n + 1,body,b,F=>∃ vs Fs,H b=some (.lst vs)∧gS (fun s v G=>∃ a hs bs Gs,v=.ref a∧SqT K H a (hs ++ bs.map V.ref)∧aS K H (hdS s) hs∧gS (TrB n) (aK s) bs Gs∧G=Gs.flatten) body vs Fs∧F=b :: Fs.flatten
noncomputable def TrS (n:Nat) (s:PG.Stm) (v:V) (G:List Addr):Prop:=∃ a hs bs Gs,v=.ref a∧SqT K H a (hs ++ bs.map V.ref)∧aS K H (hdS s) hs∧gS (TrB K H n) (aK s) bs Gs∧G=Gs.flatten
end
section
variable {K:PySem.W.Frag} {H H':Hp} {O:Addr→Prop}
theorem En {n:Nat} {body:List PG.Stm} {b:Addr} {F:List Addr}:TrB K H (n + 1) body b F↔∃ vs Fs,H b=some (.lst vs)∧gS (TrS K H n) body vs Fs∧F=b :: Fs.flatten:=Iff.rfl
theorem TrB.lists:∀ (n:Nat) (body:List PG.Stm) (b:Addr) (F:List Addr),TrB K H n body b F→∀ f∈F,∃ ys,H f=some (.lst ys)
 | 0,_,_,_,h=>h.elim
 | n + 1,body,b,F,h=>by
   obtain ⟨vs,Fs,hb,all,rfl⟩:=En.mp h
   intro f hf
   rcases List.mem_cons.mp hf with rfl | hf
   · exact ⟨vs,hb⟩
   · have key:∀ {as:List PG.Stm} {bs:List V} {cs:List (List Addr)},gS (TrS K H n) as bs cs→∀ f∈cs.flatten,∃ ys,H f=some (.lst ys):=by
       intro as
       induction as with
       | nil=>intro bs cs h f hf; obtain ⟨rfl,rfl⟩:=gS.bw.mp h; simp at hf
       | cons a as ih=>
         intro bs cs h f hf
         obtain ⟨b',bs',c,cs',rfl,rfl,h1,h2⟩:=gS.aM.mp h
         rw [List.flatten_cons,List.mem_append] at hf
         rcases hf with hf | hf
         · obtain ⟨a',hs,bb,Gs,rfl,q,r,al,rfl⟩:=h1
           have O7:∀ {as:List (List PG.Stm)} {bs:List Addr} {cs:List (List Addr)},gS (TrB K H n) as bs cs→∀ f∈cs.flatten,∃ ys,H f=some (.lst ys):=by
             intro as
             induction as with
             | nil=>intro bs cs h f hf; obtain ⟨rfl,rfl⟩:=gS.bw.mp h; simp at hf
             | cons x as ih2=>
               intro bs cs h f hf
               obtain ⟨b',bs',c,cs',rfl,rfl,h1,h2⟩:=gS.aM.mp h
               rw [List.flatten_cons,List.mem_append] at hf
               rcases hf with hf | hf
               · exact TrB.lists n _ _ _ h1 f hf
               · exact ih2 h2 f hf
           exact O7 al f hf
         · exact ih h2 f hf
     exact key all f hf
mutual
theorem TrB.rep:∀ (n:Nat) (body:List PG.Stm) (b:Addr) (F:List Addr),TrB K H n body b F→Rep K H (.lst (body.map dpS)) (.ref b)
 | 0,_,_,_,h=>h.elim
 | n + 1,body,b,F,h=>by
   obtain ⟨vs,Fs,hb,all,rfl⟩:=En.mp h
   refine Rep.bR.mpr ⟨b,vs,rfl,.of hb,?_⟩
   have key:∀ {as:List PG.Stm} {bs:List V} {cs:List (List Addr)},gS (TrS K H n) as bs cs→aS K H (as.map dpS) bs:=by
     intro as
     induction as with
     | nil=>intro bs cs h; obtain ⟨rfl,rfl⟩:=gS.bw.mp h; exact .nil
     | cons a as ih=>
       intro bs cs h
       obtain ⟨b',bs',c,cs',rfl,rfl,h1,h2⟩:=gS.aM.mp h
       refine .cons ?_ (ih h2)
       obtain ⟨a',hs,bb,Gs,rfl,q,r,al,rfl⟩:=h1
       rw [O6]
       refine Rep.bj.mpr ⟨a',_,rfl,q,r.append ?_⟩
       have O7:∀ {as:List (List PG.Stm)} {bs:List Addr} {cs:List (List Addr)},gS (TrB K H n) as bs cs→aS K H (as.map fun b=>.lst (b.map dpS)) (bs.map V.ref):=by
         intro as
         induction as with
         | nil=>intro bs cs h; obtain ⟨rfl,rfl⟩:=gS.bw.mp h; exact .nil
         | cons x as ih2=>
           intro bs cs h
           obtain ⟨b',bs',c,cs',rfl,rfl,h1,h2⟩:=gS.aM.mp h
           exact .cons (TrB.rep n _ _ _ h1) (ih2 h2)
       exact O7 al
   exact key all
end
end
section
variable (K:PySem.W.Frag)
end
theorem yV {K:PySem.W.Frag} {a D:Addr} {xs:List V} {te:TE} {Q:VK} {r:St} {H:Hp} (Pv:Nat→List V→Hp→Prop) (hS:SqL K H a xs) (hl:xs.length≤16000000) (hD:H D=none) (h0:Pv 0 [] (upd H D (.lst [])))
   (step:∀ i x ys H2,xs[i]?=some x→aw H H2→H2 D=some (.lst ys)→ys.length=i→Pv i ys H2→∀ R:VK,(∀ v H3,aw H2 H3→Pv (i + 1) (ys ++ [v]) (upd H3 D (.lst (ys ++ [v])))→R v H3)→te (some x :: r) H2 R)
   (q:∀ ys H2,aw H H2→H2 D=some (.lst ys)→Pv xs.length ys H2→Q (.ref D) H2):yA (Itl K a) D (gh 0) FH te Q (none :: r) (upd H D (.lst [])):=by
 refine ⟨fun i m τ H2=>m=xs.length - i∧i≤xs.length∧(∃ x,τ=x :: r)∧aw H H2∧∃ ys,H2 D=some (.lst ys)∧ys.length=i∧Pv i ys H2,⟨xs.length,by simp,Nat.zero_le _,⟨none,rfl⟩,aw.new hD _,[],ae,rfl,h0⟩,?_⟩
 rintro i m τ H2 ⟨rfl,hi,⟨x,rfl⟩,s2,ys,h2,ly,p2⟩
 by_cases hlt:i < xs.length
 · refine .inr ⟨⟨xs,xs[i],s2.seq hS,by simp [hlt]⟩,fun τ' H'=>(∃ x,τ'=x :: r)∧aw H H'∧∃ ys,H' D=some (.lst ys)∧ys.length=i + 1∧Pv (i + 1) ys H',fun τ' H' ⟨h1,h3,h4⟩=>⟨xs.length - (i + 1),by lia,rfl,hlt,h1,h3,h4⟩,fun y H' hy=>?_⟩
   obtain ⟨rfl,hy⟩:=hy
   have ey:=hy _ (s2.seq hS)
   simp only [gh,List.set,FH]
   rw [if_pos trivial]
   refine step i y ys _ ey s2 h2 ly p2 _ fun v H3 s3 p3=>⟨ys,s3 _ _ h2,?_,⟨_,rfl⟩,?_,ys ++ [v],ae,by simp [ly],p3⟩
   · have:sizeLine=2 ^ 24:=rfl
     lia
   · intro b o e
     rw [az (ao e hD)]
     exact s3 _ _ (s2 _ _ e)
 · have e:i=xs.length:=by lia
   subst e
   exact .inl ⟨⟨xs,s2.seq hS,Nat.le_refl _⟩,q ys H2 s2 h2 p2⟩
end L2
namespace L2
open PySem
noncomputable abbrev OkP:PG.Stm→Prop:=PG.OkS (·∈PG.cT) (fun e=>PG.IF e∧PG.trd e≤2) (·∈PG.sgs)
theorem yf:∀ l:List Int,PyData.canLayAll0 (Dp.pys (l.map Dp.int))=true∧PyData.depthAll (Dp.pys (l.map Dp.int))=0
 | []=>by simp [Dp.pys,PyData.canLayAll0,PyData.depthAll]
 | i :: r=>by
   obtain ⟨h1,h2⟩:=yf r
   simp [Dp.pys,Dp.py,PyData.canLayAll0,PyData.depthAll,PyData.canLay0,PyData.depth,h1,h2]
section
variable (K:PySem.W.Frag)
end
theorem Jc {X:Cx} {K:PySem.W.Frag} (e:X.K=K):ny X (.builtin "isinstance") (fun xs H Q=>∃ x T t b,xs=[x,.ty T]∧t8 K H x t∧PySem.W.kitOne K t (.type T)=some b∧Q (.bl b) H):=by
 subst e
 exact DQ
theorem Eo {K:PySem.W.Frag} {H:Hp} {fl:List PG.eZ} {fv:List V} (g2:aS K H (fl.map fK) fv) {i:Nat} {y:V} (hi:fv[i]?=some y) (li:i < fl.length) :
   ∃ a p,y=.ref a∧SqT K H a [.int fl[i].1,.str (wdS fl[i].2.1),.ref p]∧SqT K H p (fl[i].2.2.map V.int):=by
 obtain ⟨v',hv',rv⟩:=g2.get (i:=i) (d:=fK fl[i]) (by rw [List.getElem?_map,List.getElem?_eq_getElem li]; rfl)
 rw [hi] at hv'
 cases hv'
 unfold fK at rv
 rw [Rep.bj] at rv
 obtain ⟨a,xs,rfl,hx,rs⟩:=rv
 rw [aS.aM] at rs
 obtain ⟨v1,t1,rfl,r1,rs⟩:=rs
 rw [aS.aM] at rs
 obtain ⟨v2,t2,rfl,r2,rs⟩:=rs
 rw [aS.aM] at rs
 obtain ⟨v3,t3,rfl,r3,rs⟩:=rs
 rw [aS.bw] at rs
 rw [Rep.bE] at r1
 rw [Rep.bF] at r2
 obtain ⟨p,ys,rfl,hp,ry⟩:=Rep.bj.mp r3
 subst r1 r2 rs
 have key:∀ {l:List Int} {ys:List V},aS K H (l.map Dp.int) ys→ys=l.map V.int:=by
   intro l
   induction l with
   | nil=>intro ys h; rw [List.map_nil,aS.bw] at h; exact h
   | cons i r ih=>
     intro ys h
     rw [List.map_cons,aS.aM] at h
     obtain ⟨v,t,rfl,h1,h2⟩:=h
     rw [Rep.bE] at h1
     rw [h1,ih h2]
     rfl
 rw [key ry] at hp
 exact ⟨a,p,rfl,hx,hp⟩
end L2
namespace L3
open PySem PyProof.Rows
theorem M5:typeLookup (.type "list") "keys"=pure none:=by rw [typeLookup_type,builtinLookup_eq_fast]; kernel_rfl
theorem M6:typeLookup (.type "list") "__getattr__"=pure none:=by rw [typeLookup_type,builtinLookup_eq_fast]; kernel_rfl
section
variable {prog:Program} {w:World} {A:Around} {E:Value→Shared→Prop}
theorem Li (a:Addr) (u:Tok) {hp:Heap} {g:Array GenState} {d:Drawn} {tk:Nat} {os:OsState} {its:Array Value} {n:Nat} {sl:Array (Option Value)} {Q:Fin→Shared→Prop} (hx:hp.get? a=some ⟨.type "list",none,.seq its n,sl⟩) (hA:A.handled=none)
   (h:∀ h' tk' e,Heap.NewAttrErr hp h' e (.ref a) "keys"→E (.ref e) ⟨h',g,d,tk',os⟩) :
   wpAny (model prog w) A (Builtin.«object.__getattribute__» ⟨[.ref a,.str "keys" u],[]⟩) Q E ⟨hp,g,d,tk,os⟩:=by
 have hT:(⟨hp,g,d,tk,os⟩:Shared).TypeIs (.ref a) "list":=⟨_,hx,rfl⟩
 have f4:=M5
 unfold Builtin.«object.__getattribute__»
 repeat (any_goals (first | assumption | wp_step))
 exact wpAny_raiseAttrError hA h (attrMsg_fits (by decide +kernel) (by size_fits))
theorem Jd (a:Addr) {s:Shared} {its:Array Value} {n:Nat} {sl:Array (Option Value)} {Q:Option Value→Shared→Prop} (hx:s.heap.get? a=some ⟨.type "list",none,.seq its n,sl⟩) (hA:A.handled=none)
   (h:∀ h' tk,(∀ b ob,s.heap.get? b=some ob→h'.get? b=some ob)→Q none { s with heap:=h',toks:=tk }):wpAny (model prog w) A (getAttr? (.ref a) "keys") Q E s:=by
 obtain ⟨hp,g,d,tk,os⟩:=s
 have hT:∀ tk',(⟨hp,g,d,tk',os⟩:Shared).TypeIs (.ref a) "list":=fun _=>⟨_,hx,rfl⟩
 have f1:=sub_AttributeError
 have f2:=F.slot_list_getattribute.lookup
 have f3:=F.slot_list_getattribute.bind (.ref a)
 have f5:=M6
 unfold getAttr? getAttrBy? getAttrBy
 repeat (any_goals (first | assumption | exact hT _ | wp_step))
 all_goals
   refine codeAny_call_builtin F.slot_list_getattribute.plain F.entry_list_ga (F.slot_list_getattribute.check _ _ _ _ _ _ _ _ (show (⟨hp,g,d,tk + 1,os⟩:Shared).TypeIs (.ref a) "list" from ⟨_,hx,rfl⟩) (F.args_list_getattribute_2 _ _) ?_)
 all_goals
   refine Li a tk hx hA fun h' tk' e ne=>?_
 all_goals
   obtain ⟨t',u',he⟩:=ne.there
   show wpAny _ _ (getattributeRaised _ _ _ _ _ _ _) _ _ _
   unfold getattributeRaised
   repeat (any_goals (first | assumption | wp_step))
 all_goals exact h _ _ ne.keeps
theorem md:entryFor table "dict.update.loop"=some Builtin.«dict.update.loop»:=entryFor_of_tree (by kernel_rfl)
theorem fL:plainId "dict.update.loop"=true:=by decide +kernel
theorem Ep {κ:Type} [DecidableEq κ] (knd:KeyKind prog w κ) (d it l:Addr) (items:Array Value) (res:Value) (hA:A.handled=none) (hne:it≠d) {R:Result→Shared→Prop}:∀ (r:List (Addr × κ × Value × Value)) (i:Nat) (j:Int) (u:Tok) (kvs:List (κ × Value)) (s:Shared),
   items.toList.drop i=r.map (fun q=>Value.ref q.1)→(∀ q∈r,s.heap.IsTuple q.1 #[q.2.2.1,q.2.2.2]∧knd.is q.2.1 q.2.2.1=true)→s.heap.IsListIter it l i→s.heap.IsList l items→s.heap.DictOf knd d kvs→kvs.length + r.length≤sizeLine→
   (∀ h' tk,h'.DictOf knd d (merged kvs (r.map fun q=>(q.2.1,q.2.2.2)))→(∀ b o,b≠d→b≠it→s.heap.get? b=some o→h'.get? b=some o)→R (.ok (.ret res)) { s with heap:=h',toks:=tk })→
   codeAny (model prog w) A (.builtin "dict.update.loop" ⟨[.ref d,.ref it,.int j u,res],[]⟩) R s
 | [],i,j,u,kvs,s,hi,hp,hit,hl,hd,hz,hR=>by
   refine codeAny_builtin md ?_
   rw [Around.under_plainId fL _]
   show wpAny _ A.in1 (pyNext (.ref it) >>= _) _ _ s
   refine wpAny_bind (wpAny_pyNext_list_end hA hit hl (by rw [← Array.getElem?_toList]; rw [List.map_nil] at hi; exact List.getElem?_eq_none (List.drop_eq_nil_iff.mp hi)) fun h' ext=>?_)
   show wpAny _ _ (Builtin.Dict.addKeywords d [] >>= _) _ _ _
   refine wpAny_bind (wpAny_pure (wpAny_pure (hR h' s.toks ?_ fun b o _ h2 e=>?_)))
   · obtain ⟨o,es,ep,ho,rest⟩:=hd
     exact ⟨o,es,ep,ext d o hne.symm ho,rest⟩
   · exact ext b o h2 e
 | q :: r,i,j,u,kvs,s,hi,hp,hit,hl,hd,hz,hR=>by
   have hx:items[i]?=some (Value.ref q.1):=by
     rw [← Array.getElem?_toList,← List.head?_drop,hi]
     rfl
   refine codeAny_builtin md ?_
   rw [Around.under_plainId fL _]
   show wpAny _ A.in1 (pyNext (.ref it) >>= _) _ _ s
   refine wpAny_bind (wpAny_pyNext_list_item hit hl hx fun h' OU sb=>?_)
   obtain ⟨⟨oq,hoq,hcq,nq,hdq⟩,kq⟩:=hp q (List.mem_cons_self ..)
   have niq:q.1≠it:=fun z=>by
     obtain ⟨oi,hoi,hci,_⟩:=hit
     rw [z,hoi] at hoq
     cases hoq
     rw [hci] at hcq
     exact absurd (Value.type.inj hcq) (by decide)
   have QU:h'.get? q.1=some oq:=(sb.2 _ niq).trans hoq
   have hd':h'.DictOf knd d kvs:=by
     obtain ⟨o,es,ep,ho,rest⟩:=hd
     exact ⟨o,es,ep,(sb.2 d hne.symm).trans ho,rest⟩
   show wpAny _ A.in1 (holding [Value.ref q.1] _ >>= _) _ _ _
   refine wpAny_bind (wpAny_holding (wpAny_bind (wpAny_tryCatch ?_)))
   unfold Builtin.Dict.pairItems
   refine wpAny_bind (wpAny_typeOf (T:="tuple") ⟨oq,QU,hcq⟩ ?_)
   rw [if_pos (by decide)]
   refine wpAny_bind (wpAny_seqItems (s:={ s with heap:=h' }) QU hdq (wpAny_pure ?_))
   show wpAny _ A.in1 (holding [q.2.2.1,q.2.2.2] (dictSet d q.2.2.1 q.2.2.2)) _ _ _
   refine wpAny_holding (wpAny_dictSet_pairs (s:={ s with heap:=h' }) kq hd' (fun h2 hd2 sb2=>?_) (by simp only [List.length_cons] at hz; lia))
   refine wpAny_pure ⟨plainId_quiet fL _,?_⟩
   refine Ep knd d it l items res hA hne r (i + 1) (j + 1) _ _ _ ?_ (fun p hpr=>?_) ?_ ?_ hd2 ?_ fun h3 tk hd3 keep=>hR h3 tk hd3 fun b o n1 n2 e=>keep b o n1 n2 ?_
   · rw [← List.drop_drop,hi]
     rfl
   · obtain ⟨⟨op,hop,hcp,np,hdp⟩,kp⟩:=hp p (List.mem_cons_of_mem _ hpr)
     refine ⟨⟨op,?_,hcp,np,hdp⟩,kp⟩
     have n1:p.1≠it:=fun z=>by
       obtain ⟨oi,hoi,hci,_⟩:=hit
       rw [z,hoi] at hop
       cases hop
       rw [hci] at hcp
       exact absurd (Value.type.inj hcp) (by decide)
     have n2:p.1≠d:=fun z=>by
       obtain ⟨od,_,_,hod,_,hdd,_⟩:=hd
       rw [z,hod] at hop
       cases hop
       rw [hdd] at hdp
       cases hdp
     exact (sb2.2 _ n2).trans ((sb.2 _ n1).trans hop)
   · obtain ⟨oi,hoi,rest⟩:=OU
     exact ⟨oi,(sb2.2 _ hne).trans hoi,rest⟩
   · obtain ⟨ol,hol,hcl,nl,hdl⟩:=hl
     have n1:l≠it:=fun z=>by
       obtain ⟨oi,hoi,hci,_⟩:=hit
       rw [z,hoi] at hol
       cases hol
       rw [hci] at hcl
       exact absurd (Value.type.inj hcl) (by decide)
     have n2:l≠d:=fun z=>by
       obtain ⟨od,_,_,hod,_,hdd,_⟩:=hd
       rw [z,hod] at hol
       cases hol
       rw [hdd] at hdl
       cases hdl
     exact ⟨ol,(sb2.2 _ n2).trans ((sb.2 _ n1).trans hol),hcl,nl,hdl⟩
   · have:=stored_length_le kvs q.2.1 q.2.2.2
     simp only [List.length_cons] at hz
     lia
   · exact (sb2.2 _ n1).trans ((sb.2 _ n2).trans e)
theorem dict_list {κ:Type} [DecidableEq κ] (knd:KeyKind prog w κ) (l:Addr) {s:Shared} {items:Array Value} {n:Nat} {sl:Array (Option Value)} {Q:Value→Shared→Prop} (hA:A.handled=none) (r:List (Addr × κ × Value × Value)) (hx:s.heap.get? l=some ⟨.type "list",none,.seq items n,sl⟩)
   (hi:items.toList=r.map (fun q=>Value.ref q.1)) (hp:∀ q∈r,s.heap.IsTuple q.1 #[q.2.2.1,q.2.2.2]∧knd.is q.2.1 q.2.2.1=true) (hz:r.length≤sizeLine)
   (h:∀ h' tk,h'.DictOf knd s.heap.objs.size (merged [] (r.map fun q=>(q.2.1,q.2.2.2)))→(∀ b o,s.heap.get? b=some o→h'.get? b=some o)→Q (.ref s.heap.objs.size) { s with heap:=h',toks:=tk }) :
   wpAny (model prog w) A (call (.type "dict") [.ref l]) Q E s:=by
 refine callType_codes (Q₁:=fun obj s₁=>obj=.ref s.heap.objs.size∧s₁={ s with heap:=s.heap.push { cls:=.type "dict",data:=.dict #[] } }) F.kt_called_dict (F.kt_typeCall_dict_1 _) F.entry_dict_init (kt_code_dict_new _ ⟨rfl,rfl⟩) ?_
 rintro obj s₁ ⟨rfl,rfl⟩
 have B8:(s.heap.push { cls:=.type "dict",data:=.dict #[] }).DictOf knd s.heap.objs.size []:=Heap.DictOf.new s.heap
 have rj:∀ b o,s.heap.get? b=some o→(s.heap.push { cls:=.type "dict",data:=.dict #[] }).get? b=some o:=fun b o e=>Heap.get?_push_of_some _ e
 refine ⟨B8.typeIs,F.args_dict_init_2 _ _,?_⟩
 unfold Builtin.«dict.__init__»
 refine wpAny_bind ?_
 unfold Builtin.Dict.selfAndRest
 refine wpAny_bind (wpAny_notOrdered_dict B8.typeIs ?_)
 show wpAny _ _ (pure (s.heap.objs.size,[Value.ref l])) _ _ _
 refine wpAny_pure ?_
 show wpAny _ _ (Builtin.Dict.updateFrom "dict.__init__" s.heap.objs.size (.ref l) [] .none) _ _ _
 unfold Builtin.Dict.updateFrom
 refine wpAny_bind (wpAny_typeOf (T:="list") ⟨_,rj _ _ hx,rfl⟩ ?_)
 rw [if_pos (by decide)]
 refine wpAny_bind (Jd (n:=n) (sl:=sl) l (rj _ _ hx) hA fun h2 tk2 rm=>?_)
 rw [if_pos (show (none:Option Value).isNone=true from rfl)]
 refine wpAny_bind (wpAny_rule ?_)
 have hl2:h2.IsList l items:=⟨_,rm _ _ (rj _ _ hx),rfl,n,rfl⟩
 have hd2:h2.DictOf knd s.heap.objs.size []:=by
   obtain ⟨o,es,ep,ho,rest⟩:=B8
   exact ⟨o,es,ep,rm _ _ ho,rest⟩
 refine wpAny_bind (wpAny_pyIter_list (s:={ s with heap:=h2,toks:=tk2 }) hl2 ?_)
 have Hv:∀ b o,h2.get? b=some o→(h2.push { cls:=.type "list_iterator",data:=.fields #[.ref l,.int 0 0] }).get? b=some o:=fun b o e=>Heap.get?_push_of_some _ e
 have nd:h2.objs.size≠s.heap.objs.size:=by
   obtain ⟨o,es,ep,ho,_⟩:=hd2
   exact fun e=>absurd (Heap.lt_size ho) (by rw [e]; exact Nat.lt_irrefl _)
 refine wpAny_pure ⟨plainId_quiet fL _,?_⟩
 refine Ep (A:=A.in1) knd s.heap.objs.size h2.objs.size l items .none hA nd r 0 0 _ [] _ (by simpa using hi) (fun q hq=>?_) ⟨_,Heap.get?_push_size _ rfl,rfl,rfl⟩ ?_ ?_ (by simpa using hz) fun h4 tk4 hd4 Lj=>?_
 · obtain ⟨⟨o,ho,rest⟩,kq⟩:=hp q hq
   exact ⟨⟨o,Hv _ _ (rm _ _ (rj _ _ ho)),rest⟩,kq⟩
 · obtain ⟨o,ho,rest⟩:=hl2
   exact ⟨o,Hv _ _ ho,rest⟩
 · obtain ⟨o,es,ep,ho,rest⟩:=hd2
   exact ⟨o,es,ep,Hv _ _ ho,rest⟩
 · refine ⟨rfl,h h4 tk4 hd4 fun b o e=>Lj b o (fun z=>?_) (fun z=>?_) (Hv _ _ (rm _ _ (rj _ _ e)))⟩
   · rw [z] at e
     exact absurd (Heap.lt_size e) (Nat.lt_irrefl _)
   · have:=Heap.lt_size (rm _ _ (rj _ _ e))
     rw [z] at this
     exact absurd this (Nat.lt_irrefl _)
end
end L3
namespace L2
open PySem PyProof.Rows
theorem sX {X:Cx} (hc:X.calm=true):ny X (.type "dict") (fun xs H Q=>∃ (a:Addr) (ps:List (Addr × Key × V)),xs=[.ref a]∧SqL X.K H a (ps.map fun q=>V.ref q.1)∧(∀ q∈ps,SqT X.K H q.1 [kV q.2.1,q.2.2])∧ps.length≤sizeLine∧
   ∀ p,H p=none→Q (.ref p) (upd H p (.dK (gX [] (ps.map fun q=>(q.2.1,q.2.2)))))):=by
 intro pins s σ H xs us Q I r h
 obtain ⟨a,ps,rfl,ha,hp,hz,q⟩:=h
 obtain ⟨u,rfl,ru⟩:=vals1 r
 cases (show u=Value.ref a from ru)
 obtain ⟨its,v1,t1,_⟩:=I.list ha
 obtain ⟨⟨cls,dct,dat,sl⟩,n,e1,hc1,hd1,hs1⟩:=t1
 simp only at hc1 hd1 hs1
 subst hc1 hd1 hs1
 have mk:∀ (l:List (Addr × Key × V)) (us:List Value),Vals (l.map fun q=>V.ref q.1) us→(∀ q∈l,SqT X.K H q.1 [kV q.2.1,q.2.2])→∃ r:List (Addr × Key × Value × Value),us=r.map (fun q=>Value.ref q.1)∧r.length=l.length∧
     (∀ q∈r,s.heap.IsTuple q.1 #[q.2.2.1,q.2.2.2]∧(cN X.prog X.w).is q.2.1 q.2.2.1=true)∧KV (l.map fun q=>(q.2.1,q.2.2)) (r.map fun q=>(q.2.1,q.2.2.2)):=by
   intro l
   induction l with
   | nil=>intro us v _; cases v; exact ⟨[],rfl,rfl,fun _ z=>(by cases z),.nil⟩
   | cons x l ih=>
     intro us v hp
     rw [List.map_cons] at v
     cases v with
     | cons v1 v2=>
       obtain ⟨r,e,lr,hr,kv⟩:=ih _ v2 (fun q hq=>hp q (List.mem_cons_of_mem _ hq))
       obtain ⟨uc,w1,tu,_⟩:=I.tuple (hp x (List.mem_cons_self ..))
       obtain ⟨ku,vu,rfl,rk,rv⟩:=vals2 w1
       cases v1
       obtain ⟨o,ho,hco,no,hdo⟩:=tu
       refine ⟨(x.1,x.2.1,ku,vu) :: r,by rw [e]; rfl,by simp [lr],fun q hq=>?_,.cons ⟨rfl,rv⟩ kv⟩
       rcases List.mem_cons.mp hq with rfl | hq
       · exact ⟨⟨o,ho,hco,no,hdo⟩,Bf rk⟩
       · exact hr q hq
 obtain ⟨r',er,lr,hr,kv⟩:=mk ps its v1 hp
 refine L3.dict_list (cN X.prog X.w) a (I.ok.hd hc) r' e1 (by simpa using er) hr (by lia) fun h' tk dd keep=>?_
 have hn:=I.hok.fresh (Nat.le_refl s.heap.objs.size)
 have hb:(s.heap.objs.size == sysModules)=false:=beq_eq_false_iff_ne.mpr (Ne.symm (Nat.ne_of_lt I.big))
 refine ⟨.ref s.heap.objs.size,_,I.laid keep (Nat.le_refl _) (yv ?_ hb (kv.merge .nil) dd),rfl,q _ hn⟩
 have h1:=gx (ps.map fun q=>(q.2.1,q.2.2)) []
 rw [List.length_nil,List.length_map] at h1
 lia
end L2
namespace L3
open PySem PyProof.Rows
section
variable {prog:Program} {w:World} {A:Around} {E:Value→Shared→Prop} {s:Shared}
theorem yW {j tp:Addr} {k:Nat} {its:Array Value} {v:Value} {Q:Value→Shared→Prop} (hj:s.heap.IsTupleIter j tp k) (ht:s.heap.IsTuple tp its) (hv:its[k]?=some v)
   (hQ:∀ h',h'.IsTupleIter j tp (k + 1)→Heap.SameBut j s.heap h'→Q v { s with heap:=h' }):wpAny (model prog w) A (Builtin.SmallTypes.nextOf (.ref j)) Q E s:=by
 obtain ⟨oj,gj,cj,dj⟩:=id hj
 obtain ⟨ot,gt,_,nt,dt⟩:=ht
 unfold Builtin.SmallTypes.nextOf
 refine wpAny_bind (wpAny_callSpecial?_slot (name:=Str.ofString "__next__") hj.typeIs F.slot_tuple_iterator_next (wpAny_call_entry F.slot_tuple_iterator_next hj.typeIs F.entry_tuple_iterator_next ?_ (F.args_tuple_iterator_next_1 _)))
 show wpAny _ _ (field (.ref j) 0 >>= _) _ _ s
 refine wpAny_bind (wpAny_field gj dj (x:=.ref tp) rfl ?_)
 show wpAny _ _ (if (Value.ref tp == Value.none)=true then _ else _) _ _ s
 rw [if_neg (show ¬ ((Value.ref tp == Value.none)=true) from Bool.false_ne_true)]
 show wpAny _ _ (field (.ref j) 1 >>= _) _ _ s
 refine wpAny_bind (wpAny_field gj dj (x:=.int k 0) rfl ?_)
 show wpAny _ _ (seqItems? (.ref tp) >>= _) _ _ s
 refine wpAny_bind (wpAny_seqItems gt dt ?_)
 simp only [Int.toNat_natCast,hv]
 refine wpAny_bind (wpAny_setField gj dj (by simp) (wpAny_pure ⟨v,rfl,wpAny_pure (hQ _ ?_ (Heap.SameBut.update ..))⟩))
 exact ⟨_,Heap.get?_update_self _ gj (Obj.isFreed_of_fields (Obj.data_mapFields dj _)),(Obj.cls_mapFields ..).trans cj,by rw [Obj.data_mapFields dj]; simp [rawInt]⟩
noncomputable abbrev ZAt (h:Heap) (z ti to:Addr) (f g:Value):Prop:=h.get? z=some { cls:=.type "zip",dict:=none,data:=.fields #[f,g,.bool false,.ref ti,.ref to],slots:=#[] }
theorem Er {z ti to T:Addr} {u:Tok} {o:Obj} {g:Bool} {R:Bool→Shared→Prop} (hz:ZAt s.heap z ti to (.int T u) (.bool g)) (hT:s.heap.get? T=some o)
   (h:∀ h₀,ZAt h₀ z ti to (.int T u) (.bool true)→Heap.SameBut z s.heap h₀→R false { s with heap:=h₀ }):wpAny (model prog w) A (Builtin.SmallTypes.ownedTupleIsFree (.ref z)) R E s:=by
 unfold Builtin.SmallTypes.ownedTupleIsFree
 refine wpAny_bind (wpAny_field hz rfl (x:=.int T u) rfl ?_)
 show wpAny _ _ (loadIfAlive (T:Int).toNat >>= _) _ _ _
 refine wpAny_bind ?_
 have alive:∀ {R:Option Obj→Shared→Prop},R (some o) s→wpAny (model prog w) A (loadIfAlive (T:Int).toNat) R E s:=fun h=>by
   rw [Int.toNat_natCast]
   intro Γ p hp
   unfold loadIfAlive
   rw [Sem.wp_loadIfAlive,hT]
   exact h
 refine alive ?_
 rw [if_neg (by simp)]
 refine wpAny_bind (wpAny_field hz rfl (x:=.bool g) rfl ?_)
 cases g with
 | false=>
   rw [if_pos (by decide)]
   exact wpAny_bind (wpAny_setField_rec hz (by simp) fun h₀ hz₀ sb=>wpAny_pure (h h₀ hz₀ sb))
 | true=>
   rw [if_neg (by decide)]
   exact wpAny_pure (h s.heap hz (Heap.SameBut.refl _ _))
theorem F0 {z ti to j1 j2 l tp T:Addr} {xs ys:Array Value} {i:Nat} {u:Tok} {o:Obj} {g:Bool} {x y:Value} {Q:Value→Shared→Prop} (hz:ZAt s.heap z ti to (.int T u) (.bool g)) (hT:s.heap.get? T=some o) (hI:IsPair s.heap ti (.ref j1) (.ref j2))
   (h1:s.heap.IsListIter j1 l i) (h2:s.heap.IsTupleIter j2 tp i) (hl:s.heap.IsList l xs) (ht:s.heap.IsTuple tp ys) (zj1:z≠j1) (zj2:z≠j2) (j12:j1≠j2) (hx:xs[i]?=some x) (hy:ys[i]?=some y)
   (hQ:∀ h',ZAt h' z ti to (.int T u) (.bool true)→h'.IsListIter j1 l (i + 1)→h'.IsTupleIter j2 tp (i + 1)→IsPair h' s.heap.objs.size x y→h'.objs.size=s.heap.objs.size + 1→
     (∀ c o,c≠z→c≠j1→c≠j2→s.heap.get? c=some o→h'.get? c=some o)→Q (.ref s.heap.objs.size) { s with heap:=h' }) :
   wpAny (model prog w) A (Builtin.«zip.__next__» ⟨[.ref z],[]⟩) (fun fin s'=>∃ v,fin=.done (.ret v)∧Q v s') E s:=by
 have lz:l≠z:=fun e=>by
   obtain ⟨q,gq,cq,_⟩:=hl
   rw [e,hz] at gq
   cases gq
   exact absurd (Value.type.inj cq) (by decide)
 have lj1:l≠j1:=fun e=>by
   obtain ⟨q,gq,cq,_⟩:=hl
   obtain ⟨r,gr,cr,_⟩:=h1
   rw [e,gr] at gq
   cases gq
   rw [cr] at cq
   exact absurd (Value.type.inj cq) (by decide)
 have tz:tp≠z:=fun e=>by
   obtain ⟨q,gq,cq,_⟩:=ht
   rw [e,hz] at gq
   cases gq
   exact absurd (Value.type.inj cq) (by decide)
 have tj1:tp≠j1:=fun e=>by
   obtain ⟨q,gq,cq,_⟩:=ht
   obtain ⟨r,gr,cr,_⟩:=h1
   rw [e,gr] at gq
   cases gq
   rw [cr] at cq
   exact absurd (Value.type.inj cq) (by decide)
 show wpAny _ _ (field (.ref z) 2 >>= _) _ _ _
 refine wpAny_bind (wpAny_field hz rfl (x:=.bool false) rfl ?_)
 show wpAny _ _ (field (.ref z) 3 >>= _) _ _ _
 refine wpAny_bind (wpAny_field hz rfl (x:=.ref ti) rfl ?_)
 refine wpAny_bind (wpAny_seqItems hI rfl ?_)
 show wpAny _ _ (Builtin.SmallTypes.ownedTupleIsFree (.ref z) >>= _) _ _ _
 refine wpAny_bind (Er hz hT fun h₀ hz₀ sb₀=>?_)
 dsimp only
 rw [if_neg Bool.false_ne_true]
 refine wpAny_bind ?_
 simp only [List.forIn_toArray,List.forIn_cons,List.forIn_nil]
 refine wpAny_bind (wpAny_bind (wpAny_holding ?_))
 show wpAny _ _ (Builtin.SmallTypes.nextOf (.ref j1) >>= _) _ _ _
 refine wpAny_bind (wpAny_nextOf_list_item (s:={ s with heap:=h₀ }) (h1.extBut sb₀.extBut zj1.symm) (hl.extBut sb₀.extBut lz) hx fun h₂ hj₂ sb₂=>wpAny_pure ?_)
 refine wpAny_pure ?_
 refine wpAny_bind (wpAny_bind (wpAny_holding ?_))
 show wpAny _ _ (Builtin.SmallTypes.nextOf (.ref j2) >>= _) _ _ _
 have h2':h₂.IsTupleIter j2 tp i:=by
   obtain ⟨q,gq,rest⟩:=h2
   exact ⟨q,sb₂.extBut _ _ j12.symm (sb₀.extBut _ _ zj2.symm gq),rest⟩
 have ht':h₂.IsTuple tp ys:=(ht.extBut sb₀.extBut tz).extBut sb₂.extBut tj1
 refine wpAny_bind (yW (s:={ s with heap:=h₂ }) h2' ht' hy fun h₃ hj₃ sb₃=>wpAny_pure ?_)
 refine wpAny_pure (wpAny_pure ?_)
 show wpAny _ _ (newTuple [x,y] >>= _) _ _ _
 have hsz:h₃.objs.size=s.heap.objs.size:=by rw [sb₃.1,sb₂.1,sb₀.1]
 refine wpAny_bind (wpAny_newTuple (s:={ s with heap:=h₃ }) ?_)
 refine wpAny_pure ⟨_,rfl,?_⟩
 show Q (.ref h₃.objs.size) _
 have hp:IsPair (h₃.push { cls:=.type "tuple",data:=.seq #[x,y] }) h₃.objs.size x y:=Heap.get?_push_size _ rfl
 have hs1:(h₃.push { cls:=.type "tuple",data:=.seq #[x,y] }).objs.size=h₃.objs.size + 1:=Heap.size_push ..
 rw [hsz] at hp hs1 ⊢
 have up:∀ c o,h₃.get? c=some o→(h₃.push { cls:=.type "tuple",data:=.seq #[x,y] }).get? c=some o:=fun c o e=>Heap.get?_push_of_some _ e
 refine hQ _ (up _ _ (sb₃.extBut _ _ zj2 (sb₂.extBut _ _ zj1 hz₀))) ?_ ?_ hp hs1 fun c o c1 c2 c3 e=>up _ _ (sb₃.extBut _ _ c3 (sb₂.extBut _ _ c2 (sb₀.extBut _ _ c1 e)))
 · obtain ⟨q,gq,rest⟩:=hj₂
   exact ⟨q,up _ _ (sb₃.extBut _ _ j12 gq),rest⟩
 · obtain ⟨q,gq,rest⟩:=hj₃
   exact ⟨q,up _ _ gq,rest⟩
theorem Je {z ti to j1 j2 l T:Addr} {xs:Array Value} {i:Nat} {u:Tok} {o:Obj} {g:Bool} {Q:Fin→Shared→Prop} (hA:A.handled=none) (hz:ZAt s.heap z ti to (.int T u) (.bool g)) (hT:s.heap.get? T=some o) (hI:IsPair s.heap ti (.ref j1) (.ref j2))
   (h1:s.heap.IsListIter j1 l i) (hl:s.heap.IsList l xs) (zj1:z≠j1) (hx:xs[i]?=none)
   (hE:∀ h' e,(∀ c o,c≠z→c≠j1→s.heap.get? c=some o→h'.get? c=some o)→(∃ o,h'.get? e=some o∧o.cls=.type "StopIteration")→E (.ref e) { s with heap:=h' }) :
   wpAny (model prog w) A (Builtin.«zip.__next__» ⟨[.ref z],[]⟩) Q E s:=by
 have lz:l≠z:=fun e=>by
   obtain ⟨q,gq,cq,_⟩:=hl
   rw [e,hz] at gq
   cases gq
   exact absurd (Value.type.inj cq) (by decide)
 show wpAny _ _ (field (.ref z) 2 >>= _) _ _ _
 refine wpAny_bind (wpAny_field hz rfl (x:=.bool false) rfl ?_)
 show wpAny _ _ (field (.ref z) 3 >>= _) _ _ _
 refine wpAny_bind (wpAny_field hz rfl (x:=.ref ti) rfl ?_)
 refine wpAny_bind (wpAny_seqItems hI rfl ?_)
 show wpAny _ _ (Builtin.SmallTypes.ownedTupleIsFree (.ref z) >>= _) _ _ _
 refine wpAny_bind (Er hz hT fun h₀ hz₀ sb₀=>?_)
 dsimp only
 rw [if_neg Bool.false_ne_true]
 refine wpAny_bind ?_
 simp only [List.forIn_toArray,List.forIn_cons,List.forIn_nil]
 refine wpAny_bind (wpAny_bind (wpAny_holding ?_))
 show wpAny _ _ (Builtin.SmallTypes.nextOf (.ref j1) >>= _) _ _ _
 exact wpAny_bind (wpAny_nextOf_list_end (s:={ s with heap:=h₀ }) hA (h1.extBut sb₀.extBut zj1.symm) (hl.extBut sb₀.extBut lz) hx fun h₂ e sb₂ he=>hE h₂ e (fun c o c1 c2 q=>sb₂ _ _ c2 (sb₀.extBut _ _ c1 q)) he)
theorem F1 {z ti to j1 j2 l tp:Addr} {xs ys:Array Value} {i:Nat} {a b x y:Value} {Q:Value→Shared→Prop} (hz:ZAt s.heap z ti to .none (.bool false)) (hO:IsPair s.heap to a b) (hI:IsPair s.heap ti (.ref j1) (.ref j2))
   (h1:s.heap.IsListIter j1 l i) (h2:s.heap.IsTupleIter j2 tp i) (hl:s.heap.IsList l xs) (ht:s.heap.IsTuple tp ys) (zj1:z≠j1) (zj2:z≠j2) (zto:z≠to) (Lk:to≠j1) (Ll:to≠j2) (j12:j1≠j2) (M7:tp≠to) (hx:xs[i]?=some x) (hy:ys[i]?=some y)
   (hQ:∀ h',ZAt h' z ti to (rawInt s.heap.objs.size) (.bool false)→h'.IsListIter j1 l (i + 1)→h'.IsTupleIter j2 tp (i + 1)→IsPair h' s.heap.objs.size x y→h'.objs.size=s.heap.objs.size + 1→
     (∀ c o,c≠z→c≠to→c≠j1→c≠j2→s.heap.get? c=some o→h'.get? c=some o)→Q (.ref s.heap.objs.size) { s with heap:=h' }) :
   wpAny (model prog w) A (Builtin.«zip.__next__» ⟨[.ref z],[]⟩) (fun fin s'=>∃ v,fin=.done (.ret v)∧Q v s') E s:=by
 have lz:l≠z:=fun e=>by
   obtain ⟨q,gq,cq,_⟩:=hl
   rw [e,hz] at gq
   cases gq
   exact absurd (Value.type.inj cq) (by decide)
 have tz:tp≠z:=fun e=>by
   obtain ⟨q,gq,cq,_⟩:=ht
   rw [e,hz] at gq
   cases gq
   exact absurd (Value.type.inj cq) (by decide)
 have tj1:tp≠j1:=fun e=>by
   obtain ⟨q,gq,cq,_⟩:=ht
   obtain ⟨r,gr,cr,_⟩:=h1
   rw [e,gr] at gq
   cases gq
   rw [cr] at cq
   exact absurd (Value.type.inj cq) (by decide)
 show wpAny _ _ (field (.ref z) 2 >>= _) _ _ _
 refine wpAny_bind (wpAny_field hz rfl (x:=.bool false) rfl ?_)
 show wpAny _ _ (field (.ref z) 3 >>= _) _ _ _
 refine wpAny_bind (wpAny_field hz rfl (x:=.ref ti) rfl ?_)
 refine wpAny_bind (wpAny_seqItems hI rfl ?_)
 show wpAny _ _ (Builtin.SmallTypes.ownedTupleIsFree (.ref z) >>= _) _ _ _
 refine wpAny_bind ?_
 unfold Builtin.SmallTypes.ownedTupleIsFree
 refine wpAny_bind (wpAny_field hz rfl (x:=.none) rfl (wpAny_pure ?_))
 simp only [if_true]
 refine wpAny_bind (wpAny_rule ?_)
 refine wpAny_bind (wpAny_field hz rfl (x:=.ref to) rfl ?_)
 refine wpAny_bind (wpAny_setField_rec hz (by simp) fun h₁ z₁ sb₁=>?_)
 replace z₁:ZAt h₁ z ti to .ellipsis (.bool false):=z₁
 refine wpAny_bind ?_
 simp only [List.zipIdx_cons,List.zipIdx_nil,List.forIn_cons,List.forIn_nil]
 refine wpAny_bind (wpAny_bind (wpAny_onRaise ?_))
 show wpAny _ _ (Builtin.SmallTypes.nextOf (.ref j1) >>= _) _ _ _
 refine wpAny_bind (wpAny_nextOf_list_item (h1.extBut sb₁.extBut zj1.symm) (hl.extBut sb₁.extBut lz) hx fun h₂ k₂ sb₂=>wpAny_pure ?_)
 have o₂:IsPair h₂ to a b:=sb₂.extBut _ _ Lk (sb₁.extBut _ _ zto.symm hO)
 refine wpAny_bind (wpAny_seqItems o₂ rfl ?_)
 refine wpAny_bind (wpAny_updateSeq_pair o₂ fun h₃ o₃ sb₃=>?_)
 replace o₃:IsPair h₃ to x b:=o₃
 refine wpAny_bind (wpAny_letGo (wpAny_pure ?_))
 refine wpAny_bind (wpAny_bind (wpAny_onRaise ?_))
 show wpAny _ _ (Builtin.SmallTypes.nextOf (.ref j2) >>= _) _ _ _
 have h2':h₃.IsTupleIter j2 tp i:=by
   obtain ⟨q,gq,rest⟩:=h2
   exact ⟨q,sb₃.extBut _ _ Ll.symm (sb₂.extBut _ _ j12.symm (sb₁.extBut _ _ zj2.symm gq)),rest⟩
 have ht':h₃.IsTuple tp ys:=((ht.extBut sb₁.extBut tz).extBut sb₂.extBut tj1).extBut sb₃.extBut M7
 refine wpAny_bind (yW h2' ht' hy fun h₄ k₄ sb₄=>wpAny_pure ?_)
 have o₄:IsPair h₄ to x b:=sb₄.extBut _ _ Ll o₃
 refine wpAny_bind (wpAny_seqItems o₄ rfl ?_)
 refine wpAny_bind (wpAny_updateSeq_pair o₄ fun h₅ o₅ sb₅=>?_)
 replace o₅:IsPair h₅ to x y:=o₅
 refine wpAny_bind (wpAny_letGo (wpAny_pure (wpAny_pure ?_)))
 refine wpAny_bind (wpAny_seqItems o₅ rfl ?_)
 refine wpAny_bind (wpAny_newTuple ?_)
 have hsz:h₅.objs.size=s.heap.objs.size:=by rw [sb₅.1,sb₄.1,sb₃.1,sb₂.1,sb₁.1]
 have z₅:ZAt h₅ z ti to .ellipsis (.bool false):=sb₅.extBut _ _ zto (sb₄.extBut _ _ zj2 (sb₃.extBut _ _ zto (sb₂.extBut _ _ zj1 z₁)))
 have kp:∀ c o,c≠z→c≠to→c≠j1→c≠j2→s.heap.get? c=some o→h₅.get? c=some o:=fun c o c1 c2 c3 c4 e=>sb₅.extBut _ _ c2 (sb₄.extBut _ _ c4 (sb₃.extBut _ _ c2 (sb₂.extBut _ _ c3 (sb₁.extBut _ _ c1 e))))
 have zlt:z < h₅.objs.size:=Heap.lt_size z₅
 show wpAny _ _ (Builtin.SmallTypes.ownedTupleHandOut (.ref z) (.ref h₅.objs.size) >>= _) _ _ _
 refine wpAny_bind ?_
 unfold Builtin.SmallTypes.ownedTupleHandOut
 have z₆:ZAt (h₅.push { cls:=.type "tuple",data:=.seq #[x,y] }) z ti to .ellipsis (.bool false):=Heap.get?_push_of_some _ z₅
 refine wpAny_bind (wpAny_setField_rec z₆ (by simp) fun h₇ z₇ sb₇=>?_)
 replace z₇:ZAt h₇ z ti to (rawInt h₅.objs.size) (.bool false):=z₇
 refine wpAny_setField_rec z₇ (by simp) fun h₈ z₈ sb₈=>?_
 replace z₈:ZAt h₈ z ti to (rawInt h₅.objs.size) (.bool false):=z₈
 have up:∀ c o,c≠z→h₅.get? c=some o→h₈.get? c=some o:=fun c o c1 e=>sb₈.extBut _ _ c1 (sb₇.extBut _ _ c1 (Heap.get?_push_of_some _ e))
 have t₈:IsPair h₈ h₅.objs.size x y:=sb₈.extBut _ _ (Nat.ne_of_gt zlt) (sb₇.extBut _ _ (Nat.ne_of_gt zlt) (Heap.get?_push_size _ rfl))
 have n₈:h₈.objs.size=h₅.objs.size + 1:=by rw [sb₈.1,sb₇.1,Heap.size_push]
 rw [hsz] at z₈ t₈ n₈
 refine wpAny_pure ⟨_,rfl,?_⟩
 show Q (.ref h₅.objs.size) _
 rw [hsz]
 refine hQ h₈ z₈ ?_ ?_ t₈ n₈ fun c o c1 c2 c3 c4 e=>up c o c1 (kp c o c1 c2 c3 c4 e)
 · obtain ⟨q,gq,rest⟩:=k₂
   exact ⟨q,up _ _ zj1.symm (sb₅.extBut _ _ Lk.symm (sb₄.extBut _ _ j12 (sb₃.extBut _ _ Lk.symm gq))),rest⟩
 · obtain ⟨q,gq,rest⟩:=k₄
   exact ⟨q,up _ _ zj2.symm (sb₅.extBut _ _ Ll.symm gq),rest⟩
theorem Jf {z ti to j1 j2 l:Addr} {xs:Array Value} {i:Nat} {Q:Fin→Shared→Prop} (hA:A.handled=none) (hz:ZAt s.heap z ti to .none (.bool false)) (hI:IsPair s.heap ti (.ref j1) (.ref j2))
   (h1:s.heap.IsListIter j1 l i) (hl:s.heap.IsList l xs) (zj1:z≠j1) (hx:xs[i]?=none)
   (hE:∀ h' e,(∀ c o,c≠z→c≠j1→s.heap.get? c=some o→h'.get? c=some o)→(∃ o,h'.get? e=some o∧o.cls=.type "StopIteration")→E (.ref e) { s with heap:=h' }) :
   wpAny (model prog w) A (Builtin.«zip.__next__» ⟨[.ref z],[]⟩) Q E s:=by
 have lz:l≠z:=fun e=>by
   obtain ⟨q,gq,cq,_⟩:=hl
   rw [e,hz] at gq
   cases gq
   exact absurd (Value.type.inj cq) (by decide)
 show wpAny _ _ (field (.ref z) 2 >>= _) _ _ _
 refine wpAny_bind (wpAny_field hz rfl (x:=.bool false) rfl ?_)
 show wpAny _ _ (field (.ref z) 3 >>= _) _ _ _
 refine wpAny_bind (wpAny_field hz rfl (x:=.ref ti) rfl ?_)
 refine wpAny_bind (wpAny_seqItems hI rfl ?_)
 show wpAny _ _ (Builtin.SmallTypes.ownedTupleIsFree (.ref z) >>= _) _ _ _
 refine wpAny_bind ?_
 unfold Builtin.SmallTypes.ownedTupleIsFree
 refine wpAny_bind (wpAny_field hz rfl (x:=.none) rfl (wpAny_pure ?_))
 simp only [if_true]
 refine wpAny_bind (wpAny_rule ?_)
 refine wpAny_bind (wpAny_field hz rfl (x:=.ref to) rfl ?_)
 refine wpAny_bind (wpAny_setField_rec hz (by simp) fun h₁ z₁ sb₁=>?_)
 replace z₁:ZAt h₁ z ti to .ellipsis (.bool false):=z₁
 refine wpAny_bind ?_
 simp only [List.zipIdx_cons,List.zipIdx_nil,List.forIn_cons,List.forIn_nil]
 refine wpAny_bind (wpAny_bind (wpAny_onRaise ?_))
 show wpAny _ _ (Builtin.SmallTypes.nextOf (.ref j1) >>= _) _ _ _
 refine wpAny_bind (wpAny_nextOf_list_end hA (h1.extBut sb₁.extBut zj1.symm) (hl.extBut sb₁.extBut lz) hx fun h₂ e sb₂ he=>?_)
 obtain ⟨oe,ge,ce⟩:=he
 have z₂:ZAt h₂ z ti to .ellipsis (.bool false):=sb₂ _ _ zj1 z₁
 have ez:e≠z:=fun q=>by subst q; rw [z₂] at ge; cases ge; simp at ce
 exact wpAny_setField_rec z₂ (by simp) fun h₃ _ sb₃=>hE h₃ e (fun c o c1 c3 q=>sb₃.extBut _ _ c1 (sb₂ _ _ c3 (sb₁.extBut _ _ c1 q))) ⟨oe,sb₃.extBut _ _ ez ge,ce⟩
structure ZAp (z ti to j1 j2 l tp:Addr):Prop where
 zti:z≠ti
 zto:z≠to
 zj1:z≠j1
 zj2:z≠j2
 Sb:ti≠to
 Sd:ti≠j1
 Se:ti≠j2
 Lk:to≠j1
 Ll:to≠j2
 j12:j1≠j2
 lto:l≠to
 M7:tp≠to
structure ZSt (h:Heap) (z ti to j1 j2 l tp:Addr) (xs ys:Array Value) (i:Nat):Prop where
 zip:(∃ a b,ZAt h z ti to .none (.bool false)∧IsPair h to a b)∨∃ (T:Addr) (u:Tok) (a b:Value) (g:Bool),ZAt h z ti to (.int T u) (.bool g)∧IsPair h T a b
 ins:IsPair h ti (.ref j1) (.ref j2)
 it1:h.IsListIter j1 l i
 it2:h.IsTupleIter j2 tp i
 ls:h.IsList l xs
 tu:h.IsTuple tp ys
theorem me {h:Heap} {a b:Addr} {o o':Obj} {c c':String} (e:h.get? a=some o) (e':h.get? b=some o') (hc:o.cls=.type c) (hc':o'.cls=.type c') (n:c≠c'):a≠b:=fun q=>by
 rw [q,e'] at e
 cases e
 rw [hc] at hc'
 exact n (Value.type.inj hc')
theorem Lm {z ti to j1 j2 l tp:Addr} {xs ys:Array Value} {i:Nat} {x y:Value} {Q:Option Value→Shared→Prop} (ap:ZAp z ti to j1 j2 l tp) (st:ZSt s.heap z ti to j1 j2 l tp xs ys i) (hx:xs[i]?=some x) (hy:ys[i]?=some y)
   (hQ:∀ h',ZSt h' z ti to j1 j2 l tp xs ys (i + 1)→IsPair h' s.heap.objs.size x y→(∀ c o,c≠z→c≠to→c≠j1→c≠j2→s.heap.get? c=some o→h'.get? c=some o)→Q (some (.ref s.heap.objs.size)) { s with heap:=h' }) :
   wpAny (model prog w) A (pyNext (.ref z)) Q E s:=by
 have zT:s.TypeIs (.ref z) "zip":=by
   rcases st.zip with ⟨a,b,hz,_⟩ | ⟨T,u,a,b,g,hz,_⟩
   · exact ⟨_,hz,rfl⟩
   · exact ⟨_,hz,rfl⟩
 obtain ⟨o1,g1,c1,_⟩:=st.it1
 obtain ⟨o2,g2,c2,_⟩:=st.it2
 obtain ⟨ol,gl,cl,_⟩:=st.ls
 obtain ⟨ot,gt,ct,_⟩:=st.tu
 obtain ⟨oz,gz,cz⟩:=zT
 have lk:∀ h',(∀ c o,c≠z→c≠to→c≠j1→c≠j2→s.heap.get? c=some o→h'.get? c=some o)→IsPair h' ti (.ref j1) (.ref j2)∧h'.IsList l xs∧h'.IsTuple tp ys:=fun h' k=>by
   refine ⟨k _ _ ap.zti.symm ap.Sb ap.Sd ap.Se st.ins,?_,?_⟩
   · obtain ⟨q,gq,rest⟩:=st.ls
     exact ⟨q,k _ _ (me gl gz cl cz (by decide)) ap.lto (me gl g1 cl c1 (by decide)) (me gl g2 cl c2 (by decide)) gq,rest⟩
   · obtain ⟨q,gq,rest⟩:=st.tu
     exact ⟨q,k _ _ (me gt gz ct cz (by decide)) ap.M7 (me gt g1 ct c1 (by decide)) (me gt g2 ct c2 (by decide)) gq,rest⟩
 unfold pyNext
 refine wpAny_bind (wpAny_attempt (wpAny_callSpecial?_slot (name:=Str.ofString "__next__") ⟨oz,gz,cz⟩ F.slot_zip_next (wpAny_call_entry F.slot_zip_next ⟨oz,gz,cz⟩ F.entry_zip_next ?_ (F.args_zip_next_1 _))))
 rcases st.zip with ⟨a,b,hz,hO⟩ | ⟨T,u,a,b,g,hz,hT⟩
 · refine F1 hz hO st.ins st.it1 st.it2 st.ls st.tu ap.zj1 ap.zj2 ap.zto ap.Lk ap.Ll ap.j12 ap.M7 hx hy fun h' q1 q2 q3 q4 q5 q6=>wpAny_pure ?_
   obtain ⟨k1,k2,k3⟩:=lk h' q6
   exact hQ h' ⟨.inr ⟨_,_,x,y,false,q1,q4⟩,k1,q2,q3,k2,k3⟩ q4 q6
 · refine F0 hz hT st.ins st.it1 st.it2 st.ls st.tu ap.zj1 ap.zj2 ap.j12 hx hy fun h' q1 q2 q3 q4 q5 q6=>wpAny_pure ?_
   have q6':∀ c o,c≠z→c≠to→c≠j1→c≠j2→s.heap.get? c=some o→h'.get? c=some o:=fun c o a1 _ a3 a4 e=>q6 c o a1 a3 a4 e
   obtain ⟨k1,k2,k3⟩:=lk h' q6'
   exact hQ h' ⟨.inr ⟨T,u,a,b,true,q1,q6 _ _ (me hT gz rfl cz (by decide)) (me hT g1 rfl c1 (by decide)) (me hT g2 rfl c2 (by decide)) hT⟩,k1,q2,q3,k2,k3⟩ q4 q6'
theorem M8 {z ti to j1 j2 l tp:Addr} {xs ys:Array Value} {i:Nat} {Q:Option Value→Shared→Prop} (hA:A.handled=none) (ap:ZAp z ti to j1 j2 l tp) (st:ZSt s.heap z ti to j1 j2 l tp xs ys i) (hx:xs[i]?=none)
   (hQ:∀ h',(∀ c o,c≠z→c≠j1→s.heap.get? c=some o→h'.get? c=some o)→Q none { s with heap:=h' }):wpAny (model prog w) A (pyNext (.ref z)) Q E s:=by
 have zT:s.TypeIs (.ref z) "zip":=by
   rcases st.zip with ⟨a,b,hz,_⟩ | ⟨T,u,a,b,g,hz,_⟩
   · exact ⟨_,hz,rfl⟩
   · exact ⟨_,hz,rfl⟩
 unfold pyNext
 refine wpAny_bind (wpAny_attempt (wpAny_callSpecial?_slot (name:=Str.ofString "__next__") zT F.slot_zip_next (wpAny_call_entry F.slot_zip_next zT F.entry_zip_next ?_ (F.args_zip_next_1 _))))
 rcases st.zip with ⟨a,b,hz,hO⟩ | ⟨T,u,a,b,g,hz,hT⟩
 · refine Jf hA hz st.ins st.it1 st.ls ap.zj1 hx fun h' e k he=>?_
   obtain ⟨oe,ge,ce⟩:=he
   refine wpAny_bind (wpAny_isInstance (T:="StopIteration") (b:=true) ⟨oe,ge,ce⟩ isSubtype_stop ?_)
   exact wpAny_pure (hQ _ k)
 · refine Je hA hz hT st.ins st.it1 st.ls ap.zj1 hx fun h' e k he=>?_
   obtain ⟨oe,ge,ce⟩:=he
   refine wpAny_bind (wpAny_isInstance (T:="StopIteration") (b:=true) ⟨oe,ge,ce⟩ isSubtype_stop ?_)
   exact wpAny_pure (hQ _ k)
theorem ZSt.but {h h':Heap} {z ti to j1 j2 l tp d:Addr} {xs ys:Array Value} {i:Nat} (st:ZSt h z ti to j1 j2 l tp xs ys i) (sb:Heap.SameBut d h h') (dn:∀ a o,h.get? a=some o→(∀ es n,o.data≠.dict es n)→a≠d):ZSt h' z ti to j1 j2 l tp xs ys i:=by
 have k:∀ a o,h.get? a=some o→(∀ es n,o.data≠.dict es n)→h'.get? a=some o:=fun a o e n=>sb.extBut _ _ (dn a o e n) e
 refine ⟨?_,k _ _ st.ins (by intro es n q; cases q),?_,?_,?_,?_⟩
 · rcases st.zip with ⟨a,b,hz,hO⟩ | ⟨T,u,a,b,g,hz,hT⟩
   · exact .inl ⟨a,b,k _ _ hz (by intro es n q; cases q),k _ _ hO (by intro es n q; cases q)⟩
   · exact .inr ⟨T,u,a,b,g,k _ _ hz (by intro es n q; cases q),k _ _ hT (by intro es n q; cases q)⟩
 · obtain ⟨o,go,hc,hd⟩:=st.it1
   exact ⟨o,k _ _ go (by intro es n q; rw [hd] at q; cases q),hc,hd⟩
 · obtain ⟨o,go,hc,hd⟩:=st.it2
   exact ⟨o,k _ _ go (by intro es n q; rw [hd] at q; cases q),hc,hd⟩
 · obtain ⟨o,go,hc,n',hd⟩:=st.ls
   exact ⟨o,k _ _ go (by intro es n q; rw [hd] at q; cases q),hc,n',hd⟩
 · obtain ⟨o,go,hc,n',hd⟩:=st.tu
   exact ⟨o,k _ _ go (by intro es n q; rw [hd] at q; cases q),hc,n',hd⟩
theorem Hw {κ:Type} [DecidableEq κ] (knd:KeyKind prog w κ) (d z ti to j1 j2 l tp:Addr) (xs ys:Array Value) (res:Value) (hA:A.handled=none) (ap:ZAp z ti to j1 j2 l tp) (dto:d≠to) {R:Result→Shared→Prop}:∀ (r:List (κ × Value × Value)) (i:Nat) (j:Int) (u:Tok) (kvs:List (κ × Value)) (s:Shared),
   xs.toList.drop i=r.map (·.2.1)→ys.toList.drop i=r.map (·.2.2)→(∀ q∈r,knd.is q.1 q.2.1=true)→ZSt s.heap z ti to j1 j2 l tp xs ys i→s.heap.DictOf knd d kvs→kvs.length + r.length≤sizeLine→
   (∀ h' tk,h'.DictOf knd d (merged kvs (r.map fun q=>(q.1,q.2.2)))→(∀ b o,b≠d→b≠z→b≠to→b≠j1→b≠j2→s.heap.get? b=some o→h'.get? b=some o)→R (.ok (.ret res)) { s with heap:=h',toks:=tk })→
   codeAny (model prog w) A (.builtin "dict.update.loop" ⟨[.ref d,.ref z,.int j u,res],[]⟩) R s
 | [],i,j,u,kvs,s,hi,hk,hp,st,hd,hz,hR=>by
   refine codeAny_builtin md ?_
   rw [Around.under_plainId fL _]
   show wpAny _ A.in1 (pyNext (.ref z) >>= _) _ _ s
   have dn:∀ a o,s.heap.get? a=some o→(∀ es n,o.data≠.dict es n)→a≠d:=fun a o e n q=>by
     obtain ⟨od,_,_,god,_,hdd,_⟩:=hd
     rw [q,god] at e
     cases e
     exact n _ _ hdd
   refine wpAny_bind (M8 hA ap st (by rw [← Array.getElem?_toList]; rw [List.map_nil] at hi; exact List.getElem?_eq_none (List.drop_eq_nil_iff.mp hi)) fun h' kp=>?_)
   show wpAny _ _ (Builtin.Dict.addKeywords d [] >>= _) _ _ _
   refine wpAny_bind (wpAny_pure (wpAny_pure (hR h' s.toks ?_ fun b o _ c1 _ c3 _ e=>kp b o c1 c3 e)))
   have dz:d≠z:=by
     rcases st.zip with ⟨a,b,gz,_⟩ | ⟨T,u,a,b,g,gz,_⟩
     · exact (dn _ _ gz (by intro es n q; cases q)).symm
     · exact (dn _ _ gz (by intro es n q; cases q)).symm
   have dj:d≠j1:=by
     obtain ⟨o,go,hc,hd'⟩:=st.it1
     exact (dn _ _ go (by intro es n q; rw [hd'] at q; cases q)).symm
   obtain ⟨o,es,ep,ho,rest⟩:=hd
   exact ⟨o,es,ep,kp d o dz dj ho,rest⟩
 | q :: r,i,j,u,kvs,s,hi,hk,hp,st,hd,hz,hR=>by
   have hx:xs[i]?=some q.2.1:=by
     rw [← Array.getElem?_toList,← List.head?_drop,hi]
     rfl
   have hy:ys[i]?=some q.2.2:=by
     rw [← Array.getElem?_toList,← List.head?_drop,hk]
     rfl
   have dn:∀ a o,s.heap.get? a=some o→(∀ es n,o.data≠.dict es n)→a≠d:=fun a o e n q=>by
     obtain ⟨od,_,_,god,_,hdd,_⟩:=hd
     rw [q,god] at e
     cases e
     exact n _ _ hdd
   have dz:d≠z:=by
     rcases st.zip with ⟨a,b,gz,_⟩ | ⟨T,u,a,b,g,gz,_⟩
     · exact (dn _ _ gz (by intro es n q; cases q)).symm
     · exact (dn _ _ gz (by intro es n q; cases q)).symm
   have dj1:d≠j1:=by
     obtain ⟨o,go,hc,hd'⟩:=st.it1
     exact (dn _ _ go (by intro es n q; rw [hd'] at q; cases q)).symm
   have dj2:d≠j2:=by
     obtain ⟨o,go,hc,hd'⟩:=st.it2
     exact (dn _ _ go (by intro es n q; rw [hd'] at q; cases q)).symm
   refine codeAny_builtin md ?_
   rw [Around.under_plainId fL _]
   show wpAny _ A.in1 (pyNext (.ref z) >>= _) _ _ s
   refine wpAny_bind (Lm ap st hx hy fun h' st' pr kp=>?_)
   have hd':h'.DictOf knd d kvs:=by
     obtain ⟨o,es,ep,ho,rest⟩:=hd
     exact ⟨o,es,ep,kp d o dz dto dj1 dj2 ho,rest⟩
   show wpAny _ A.in1 (holding [Value.ref s.heap.objs.size] _ >>= _) _ _ _
   refine wpAny_bind (wpAny_holding (wpAny_bind (wpAny_tryCatch ?_)))
   unfold Builtin.Dict.pairItems
   refine wpAny_bind (wpAny_typeOf (T:="tuple") ⟨_,pr,rfl⟩ ?_)
   rw [if_pos (by decide)]
   refine wpAny_bind (wpAny_seqItems (s:={ s with heap:=h' }) pr rfl (wpAny_pure ?_))
   show wpAny _ A.in1 (holding [q.2.1,q.2.2] (dictSet d q.2.1 q.2.2)) _ _ _
   refine wpAny_holding (wpAny_dictSet_pairs (s:={ s with heap:=h' }) (hp q (List.mem_cons_self ..)) hd' (fun h2 hd2 sb2=>?_) (by simp only [List.length_cons] at hz; lia))
   refine wpAny_pure ⟨plainId_quiet fL _,?_⟩
   refine Hw knd d z ti to j1 j2 l tp xs ys res hA ap dto r (i + 1) (j + 1) _ _ _ ?_ ?_ (fun p hpr=>hp p (List.mem_cons_of_mem _ hpr)) (st'.but sb2 fun a o e n w=>?_) hd2 ?_ fun h3 tk hd3 keep=>hR h3 tk hd3 fun b o n1 n2 n3 n4 n5 e=>keep b o n1 n2 n3 n4 n5 ?_
   · rw [← List.drop_drop,hi]
     rfl
   · rw [← List.drop_drop,hk]
     rfl
   · obtain ⟨od,_,_,god,_,hdd,_⟩:=hd'
     rw [w,god] at e
     cases e
     exact n _ _ hdd
   · have:=stored_length_le kvs q.1 q.2.2
     simp only [List.length_cons] at hz
     lia
   · exact (sb2.2 _ n1).trans (kp b o n2 n3 n4 n5 e)
theorem Ln:typeLookup (.type "zip") "keys"=pure none:=by rw [typeLookup_type,builtinLookup_eq_fast]; kernel_rfl
theorem Lo:typeLookup (.type "zip") "__getattr__"=pure none:=by rw [typeLookup_type,builtinLookup_eq_fast]; kernel_rfl
theorem Cj:entryFor table "zip.__getattribute__"=some Builtin.«object.__getattribute__»:=entryFor_alias (id':="object.__getattribute__") (by kernel_rfl) (by first | rfl | decide +kernel) (by decide +kernel) (by kernel_rfl)
theorem Jg (a:Addr) (u:Tok) {hp:Heap} {g:Array GenState} {d:Drawn} {tk:Nat} {os:OsState} {vs:Array Value} {Q:Fin→Shared→Prop} (hx:hp.get? a=some ⟨.type "zip",none,.fields vs, #[]⟩) (hA:A.handled=none)
   (h:∀ h' tk' e,Heap.NewAttrErr hp h' e (.ref a) "keys"→E (.ref e) ⟨h',g,d,tk',os⟩) :
   wpAny (model prog w) A (Builtin.«object.__getattribute__» ⟨[.ref a,.str "keys" u],[]⟩) Q E ⟨hp,g,d,tk,os⟩:=by
 have hT:(⟨hp,g,d,tk,os⟩:Shared).TypeIs (.ref a) "zip":=⟨_,hx,rfl⟩
 have f4:=Ln
 unfold Builtin.«object.__getattribute__»
 repeat (any_goals (first | assumption | wp_step))
 exact wpAny_raiseAttrError hA h (attrMsg_fits (by decide +kernel) (by size_fits))
theorem F2 (a:Addr) {s:Shared} {vs:Array Value} {Q:Option Value→Shared→Prop} (hx:s.heap.get? a=some ⟨.type "zip",none,.fields vs, #[]⟩) (hA:A.handled=none)
   (h:∀ h' tk,(∀ b ob,s.heap.get? b=some ob→h'.get? b=some ob)→Q none { s with heap:=h',toks:=tk }):wpAny (model prog w) A (getAttr? (.ref a) "keys") Q E s:=by
 obtain ⟨hp,g,d,tk,os⟩:=s
 have hT:∀ tk',(⟨hp,g,d,tk',os⟩:Shared).TypeIs (.ref a) "zip":=fun _=>⟨_,hx,rfl⟩
 have f1:=sub_AttributeError
 have f2:=F.slot_zip_getattribute.lookup
 have f3:=F.slot_zip_getattribute.bind (.ref a)
 have f5:=Lo
 unfold getAttr? getAttrBy? getAttrBy
 repeat (any_goals (first | assumption | exact hT _ | wp_step))
 all_goals
   refine codeAny_call_builtin F.slot_zip_getattribute.plain Cj (F.slot_zip_getattribute.check _ _ _ _ _ _ _ _ (show (⟨hp,g,d,tk + 1,os⟩:Shared).TypeIs (.ref a) "zip" from ⟨_,hx,rfl⟩) (F.args_zip_getattribute_2 _ _) ?_)
 all_goals
   refine Jg a tk hx hA fun h' tk' e ne=>?_
 all_goals
   obtain ⟨t',u',he⟩:=ne.there
   show wpAny _ _ (getattributeRaised _ _ _ _ _ _ _) _ _ _
   unfold getattributeRaised
   repeat (any_goals (first | assumption | wp_step))
 all_goals exact h _ _ ne.keeps
end
end L3
namespace L3
open PySem PyProof.Rows
noncomputable abbrev zA (h:Heap) (l:Addr):Heap:=h.push { cls:=.type "list_iterator",data:=.fields #[.ref l,.int 0 0] }
noncomputable abbrev zB (h:Heap) (l tp:Addr):Heap:=(zA h l).push { cls:=.type "tuple_iterator",data:=.fields #[.ref tp,.int 0 0] }
noncomputable abbrev zC (h:Heap) (l tp:Addr):Heap:=(zB h l tp).push { cls:=.type "tuple",data:=.seq #[.ref h.objs.size,.ref (zA h l).objs.size] }
noncomputable abbrev zD (h:Heap) (l tp:Addr):Heap:=(zC h l tp).push { cls:=.type "tuple",data:=.seq #[.none,.none] }
noncomputable abbrev zE (h:Heap) (l tp:Addr):Heap:=(zD h l tp).push { cls:=.type "zip",data:=.fields #[.none,.bool false,.bool false,.ref (zB h l tp).objs.size,.ref (zC h l tp).objs.size] }
theorem Lp (l tp:Addr) (xs ys:Array Value):Meets (Builtin.«zip.__new__» ⟨[.type "zip",.ref l,.ref tp],[]⟩) (fun _ R s=>s.heap.IsList l xs∧s.heap.IsTuple tp ys∧R (.ok (.ret (.ref (zD s.heap l tp).objs.size))) { s with heap:=zE s.heap l tp }):=
 .of_wp fun prog w A R s h=>by
   obtain ⟨hp,g,d,tk,os⟩:=s
   obtain ⟨g1,g2,h⟩:=h
   have Tb:=sub_zip
   have k1:Heap.IsList (Shared.heap ⟨hp,g,d,tk,os⟩) l xs:=g1
   have k2:Heap.IsTuple (Shared.heap ⟨hp.push { cls:=.type "list_iterator",data:=.fields #[.ref l,.int 0 0] },g,d,tk,os⟩) tp ys:=by
     obtain ⟨o,go,rest⟩:=g2
     exact ⟨o,Heap.get?_push_of_some _ go,rest⟩
   wp_walk using wpAny_pyIter_list k1,wpAny_pyIter_tuple k2
   exact ⟨_,rfl,h⟩
section
variable {prog:Program} {w:World} {A:Around} {E:Value→Shared→Prop} {s:Shared}
theorem M9 (n l tp:Nat) (h1:l < n) (h2:tp < n):ZAp (n + 4) (n + 2) (n + 3) n (n + 1) l tp:=by
 constructor <;> (show (_:Nat)≠_; lia)
theorem F3 {l tp:Addr} {xs ys:Array Value} {Q:Value→Shared→Prop} (hl:s.heap.IsList l xs) (ht:s.heap.IsTuple tp ys)
   (h:∀ h',ZAp (s.heap.objs.size + 4) (s.heap.objs.size + 2) (s.heap.objs.size + 3) s.heap.objs.size (s.heap.objs.size + 1) l tp→ZSt h' (s.heap.objs.size + 4) (s.heap.objs.size + 2) (s.heap.objs.size + 3) s.heap.objs.size (s.heap.objs.size + 1) l tp xs ys 0→
     ZAt h' (s.heap.objs.size + 4) (s.heap.objs.size + 2) (s.heap.objs.size + 3) .none (.bool false)→(∀ c o,s.heap.get? c=some o→h'.get? c=some o)→Q (.ref (s.heap.objs.size + 4)) { s with heap:=h' }) :
   wpAny (model prog w) A (call (.type "zip") [.ref l,.ref tp]) Q E s:=by
 refine callType_new F.called_zip (by decide) (F.typeCall_zip_2 _ _) (F.newCall_zip_2 _ _) (fun obj=>F.args_object_init_3 obj _ _) F.entry_zip_new (Lp l tp xs ys) ⟨hl,ht,?_⟩
 have z1:(zA s.heap l).objs.size=s.heap.objs.size + 1:=Heap.size_push ..
 have z2:(zB s.heap l tp).objs.size=s.heap.objs.size + 2:=by rw [Heap.size_push,z1]
 have z3:(zC s.heap l tp).objs.size=s.heap.objs.size + 3:=by rw [Heap.size_push,z2]
 have z4:(zD s.heap l tp).objs.size=s.heap.objs.size + 4:=by rw [Heap.size_push,z3]
 have g5:(zE s.heap l tp).get? (zD s.heap l tp).objs.size=some _:=Heap.get?_push_size _ rfl
 have g4:(zE s.heap l tp).get? (zC s.heap l tp).objs.size=some _:=Heap.get?_push_of_some _ (Heap.get?_push_size _ rfl)
 have g3:(zE s.heap l tp).get? (zB s.heap l tp).objs.size=some _:=Heap.get?_push_of_some _ (Heap.get?_push_of_some _ (Heap.get?_push_size _ rfl))
 have g2:(zE s.heap l tp).get? (zA s.heap l).objs.size=some _:=Heap.get?_push_of_some _ (Heap.get?_push_of_some _ (Heap.get?_push_of_some _ (Heap.get?_push_size _ rfl)))
 have g1:(zE s.heap l tp).get? s.heap.objs.size=some _:=Heap.get?_push_of_some _ (Heap.get?_push_of_some _ (Heap.get?_push_of_some _ (Heap.get?_push_of_some _ (Heap.get?_push_size _ rfl))))
 have up:∀ c o,s.heap.get? c=some o→(zE s.heap l tp).get? c=some o:=fun c o e=>Heap.get?_push_of_some _ (Heap.get?_push_of_some _ (Heap.get?_push_of_some _ (Heap.get?_push_of_some _ (Heap.get?_push_of_some _ e))))
 show _∧_
 rw [z2,z3,z4] at g5
 rw [z1,z2] at g3
 rw [z3] at g4
 rw [z1] at g2
 rw [z4]
 obtain ⟨ol,gl,rl⟩:=id hl
 obtain ⟨ot,gt,rt⟩:=id ht
 have ll:=Heap.lt_size gl
 have lt:=Heap.lt_size gt
 refine ⟨⟨_,g5,rfl⟩,h _ (M9 _ _ _ ll lt) ⟨.inl ⟨_,_,g5,g4⟩,g3,⟨_,g1,rfl,rfl⟩,⟨_,g2,rfl,rfl⟩,⟨ol,up _ _ gl,rl⟩,⟨ot,up _ _ gt,rt⟩⟩ g5 up⟩
theorem Lq {κ:Type} [DecidableEq κ] (knd:KeyKind prog w κ) (z ti to j1 j2 l tp:Addr) {xs ys:Array Value} {Q:Value→Shared→Prop} (hA:A.handled=none) (ap:ZAp z ti to j1 j2 l tp) (st:ZSt s.heap z ti to j1 j2 l tp xs ys 0) (gz:ZAt s.heap z ti to .none (.bool false)) (r:List (κ × Value × Value))
   (hi:xs.toList=r.map (·.2.1)) (hk:ys.toList=r.map (·.2.2)) (hp:∀ q∈r,knd.is q.1 q.2.1=true) (hz:r.length≤sizeLine) (lto:to < s.heap.objs.size)
   (h:∀ h' tk,h'.DictOf knd s.heap.objs.size (merged [] (r.map fun q=>(q.1,q.2.2)))→(∀ b o,b≠z→b≠to→b≠j1→b≠j2→s.heap.get? b=some o→h'.get? b=some o)→Q (.ref s.heap.objs.size) { s with heap:=h',toks:=tk }) :
   wpAny (model prog w) A (call (.type "dict") [.ref z]) Q E s:=by
 refine callType_codes (Q₁:=fun obj s₁=>obj=.ref s.heap.objs.size∧s₁={ s with heap:=s.heap.push { cls:=.type "dict",data:=.dict #[] } }) F.kt_called_dict (F.kt_typeCall_dict_1 _) F.entry_dict_init (kt_code_dict_new _ ⟨rfl,rfl⟩) ?_
 rintro obj s₁ ⟨rfl,rfl⟩
 have B8:(s.heap.push { cls:=.type "dict",data:=.dict #[] }).DictOf knd s.heap.objs.size []:=Heap.DictOf.new s.heap
 have rj:∀ b o,s.heap.get? b=some o→(s.heap.push { cls:=.type "dict",data:=.dict #[] }).get? b=some o:=fun b o e=>Heap.get?_push_of_some _ e
 refine ⟨B8.typeIs,F.args_dict_init_2 _ _,?_⟩
 unfold Builtin.«dict.__init__»
 refine wpAny_bind ?_
 unfold Builtin.Dict.selfAndRest
 refine wpAny_bind (wpAny_notOrdered_dict B8.typeIs ?_)
 show wpAny _ _ (pure (s.heap.objs.size,[Value.ref z])) _ _ _
 refine wpAny_pure ?_
 show wpAny _ _ (Builtin.Dict.updateFrom "dict.__init__" s.heap.objs.size (.ref z) [] .none) _ _ _
 unfold Builtin.Dict.updateFrom
 refine wpAny_bind (wpAny_typeOf (T:="zip") ⟨_,rj _ _ gz,rfl⟩ ?_)
 rw [if_pos (by decide)]
 refine wpAny_bind (F2 z (rj _ _ gz) hA fun h2 tk2 rm=>?_)
 rw [if_pos (show (none:Option Value).isNone=true from rfl)]
 refine wpAny_bind (wpAny_rule ?_)
 have up:∀ b o,s.heap.get? b=some o→h2.get? b=some o:=fun b o e=>rm _ _ (rj _ _ e)
 have hd2:h2.DictOf knd s.heap.objs.size []:=by
   obtain ⟨o,es,ep,ho,rest⟩:=B8
   exact ⟨o,es,ep,rm _ _ ho,rest⟩
 refine wpAny_bind (wpAny_pyIter_zip (s:={ s with heap:=h2,toks:=tk2 }) (up _ _ gz) ?_)
 refine wpAny_pure ⟨plainId_quiet fL _,?_⟩
 have st2:ZSt h2 z ti to j1 j2 l tp xs ys 0:=by
   refine ⟨?_,up _ _ st.ins,?_,?_,?_,?_⟩
   · rcases st.zip with ⟨a,b,e1,e2⟩ | ⟨T,u,a,b,g,e1,e2⟩
     · exact .inl ⟨a,b,up _ _ e1,up _ _ e2⟩
     · exact .inr ⟨T,u,a,b,g,up _ _ e1,up _ _ e2⟩
   · obtain ⟨o,go,rest⟩:=st.it1; exact ⟨o,up _ _ go,rest⟩
   · obtain ⟨o,go,rest⟩:=st.it2; exact ⟨o,up _ _ go,rest⟩
   · obtain ⟨o,go,rest⟩:=st.ls; exact ⟨o,up _ _ go,rest⟩
   · obtain ⟨o,go,rest⟩:=st.tu; exact ⟨o,up _ _ go,rest⟩
 refine Hw (A:=A.in1) knd s.heap.objs.size z ti to j1 j2 l tp xs ys .none hA ap (Nat.ne_of_gt lto) r 0 0 _ [] _ (by simpa using hi) (by simpa using hk) hp st2 hd2 (by simpa using hz) fun h4 tk4 hd4 Lj=>?_
 refine ⟨rfl,h h4 tk4 hd4 fun b o n1 n2 n3 n4 e=>Lj b o (fun w=>?_) n1 n2 n3 n4 (up _ _ e)⟩
 rw [w] at e
 exact absurd (Heap.lt_size e) (Nat.lt_irrefl _)
end
end L3
namespace L2
open PySem PyProof.Rows
theorem F4 (c n k:Nat) (h:c < n):c≠n + k:=by lia
noncomputable def tDZ (K:PySem.W.Frag) (t:TA):TE:=fun σ H Q=>t σ H fun xs H1=>∃ (a b:Addr) (ks:List Key) (vs:List V),xs=[.ref a,.ref b]∧SqL K H1 a (ks.map kV)∧SqT K H1 b vs∧vs.length=ks.length∧∀ p,H1 p=none→Q (.ref p) (upd H1 p (.dK (gX [] (ks.zip vs))))
theorem yX {X:Cx} (hc:X.calm=true) {ea eb:Expr} {p1 p2 QV Jh:Pos} {t:TA} (hg1:Gl X "dict") (hm1:X.mg "dict"=none) (hg2:Gl X "zip") (hm2:X.mg "zip"=none) (ha:PA X [ea,eb] t)
   (he:starEach [ea,eb] X.env=(false,eval ea X.env) :: starEach [eb] X.env:=by rfl) (hpl:(backTo Jh (starEach [eb] X.env)).any (·.1)=false:=by rfl)
   (he2:starEach [.Call (.Name "zip" p2) [ea,eb] [] Jh] X.env=(false,eval (.Call (.Name "zip" p2) [ea,eb] [] Jh) X.env) :: starEach [] X.env:=by rfl) :
   PE X (.Call (.Name "dict" p1) [.Call (.Name "zip" p2) [ea,eb] [] Jh] [] QV) (tDZ X.K t):=by
 intro pins s σ H Q I h
 refine wpAny_Call_Name_kw (sR I hg1 hm1 PyProof.Rows.Boot.«dict» ?_ (by decide) (by decide))
 refine PyProof.Rows.callWith_type1 ?_ he2 rfl
 rw [he2]
 show wpAny _ _ (spliced ((false,eval (.Call (.Name "zip" p2) [ea,eb] [] Jh) X.env) :: backTo QV (starEach [] X.env))) _ _ s
 refine Calls.spliced_cons ?_
 refine wpAny_Call_Name_kw (sR I hg2 hm2 PyProof.Rows.Boot.«zip» ?_ (by decide) (by decide))
 refine PyProof.Rows.callWith_type1 (thn (ha Jh pins s σ H _ I h) fun us s1 ⟨xs,H1,I1,r1,q1⟩=>?_) he hpl
 obtain ⟨a,b,ks,vs,rfl,ha1,hb1,lk,q⟩:=q1
 obtain ⟨u1,u2,rfl,ru1,ru2⟩:=vals2 r1
 cases (show u1=Value.ref a from ru1)
 cases (show u2=Value.ref b from ru2)
 obtain ⟨Sf,v1,t1,z1⟩:=I1.list ha1
 obtain ⟨uc,v2,t2,z2⟩:=I1.tuple hb1
 have mk:∀ (ks:List Key) (vs:List V) (us1 us2:List Value),Vals (ks.map kV) us1→Vals vs us2→vs.length=ks.length→∃ r:List (Key × Value × Value),us1=r.map (·.2.1)∧us2=r.map (·.2.2)∧(∀ q∈r,(cN X.prog X.w).is q.1 q.2.1=true)∧KV (ks.zip vs) (r.map fun q=>(q.1,q.2.2))∧r.length=ks.length:=by
   intro ks
   induction ks with
   | nil=>
     intro vs us1 us2 w1 w2 l
     have:vs=[]:=List.length_eq_zero_iff.mp l
     subst this
     cases w1
     cases w2
     exact ⟨[],rfl,rfl,fun _ z=>(by cases z),.nil,rfl⟩
   | cons k ks ih=>
     intro vs us1 us2 w1 w2 l
     cases vs with
     | nil=>simp at l
     | cons v vs=>
       rw [List.map_cons] at w1
       cases w1 with
       | @cons _ ku _ kus w11 w12=>
         cases w2 with
         | @cons _ vu _ vus w21 w22=>
           obtain ⟨r,e1,e2,h3,h4,h5⟩:=ih vs kus vus w12 w22 (by simpa using l)
           refine ⟨(k,ku,vu) :: r,by rw [e1]; rfl,by rw [e2]; rfl,fun q hq=>?_,.cons ⟨rfl,w21⟩ h4,by simp [h5]⟩
           rcases List.mem_cons.mp hq with rfl | hq
           · exact Bf w11
           · exact h3 q hq
 obtain ⟨r,e1,e2,kis,kv,lr⟩:=mk ks vs Sf uc v1 v2 lk
 rw [List.length_map] at z1
 refine L3.F3 t1.isList (show s1.heap.IsTuple b uc.toArray from t2) fun h' ap st gz keep=>?_
 refine Calls.spliced_nil ?_
 have big:(s1.heap.objs.size + 4:Nat) < h'.objs.size:=Heap.lt_size gz
 have hle:s1.heap.objs.size≤h'.objs.size:=by lia
 refine L3.Lq (s:={ s1 with heap:=h' }) (cN X.prog X.w) _ _ _ _ _ a b (I1.ok.hd hc) ap st gz r (by simpa using e1) (by simpa using e2) kis (by lia) (show (s1.heap.objs.size + 3:Nat) < h'.objs.size by lia) fun h2 tk dd rm=>?_
 have hn:=I1.hok.fresh hle
 have hb:(h'.objs.size == sysModules)=false:=beq_eq_false_iff_ne.mpr (Ne.symm (Nat.ne_of_lt (Nat.lt_of_lt_of_le I1.big hle)))
 refine ⟨.ref h'.objs.size,_,I1.laid (fun c o e=>rm c o ?_ ?_ ?_ ?_ (keep c o e)) hle (yv ?_ hb (kv.merge .nil) dd),rfl,q _ hn⟩
 · have lc:(c:Nat) < s1.heap.objs.size:=Heap.lt_size e
   exact F4 _ _ _ lc
 · have lc:(c:Nat) < s1.heap.objs.size:=Heap.lt_size e
   exact F4 _ _ _ lc
 · have lc:(c:Nat) < s1.heap.objs.size:=Heap.lt_size e
   exact Nat.ne_of_lt lc
 · have lc:(c:Nat) < s1.heap.objs.size:=Heap.lt_size e
   exact F4 _ _ _ lc
 · have h1:=gx (ks.zip vs) []
   rw [List.length_nil,List.length_zip] at h1
   lia
end L2
namespace L2
open PySem
section
variable {K:PySem.W.Frag} {H H':Hp} {p C dx:Addr} {fs:List (Str × V)}
mutual
theorem qK (h:H p=some (.ins C dx fs)) (u:bf (·=p) H H'):∀ (d:Dp) (v:V),Rep K H d v→Rep K H' d v
 | .non,v,r=>by rw [Rep.yc] at r ⊢; exact r
 | .bl b,v,r=>by rw [Rep.yB] at r ⊢; exact r
 | .int b,v,r=>by rw [Rep.bE] at r ⊢; exact r
 | .str b,v,r=>by rw [Rep.bF] at r ⊢; exact r
 | .lst l,v,r=>by
   rw [Rep.bR] at r ⊢
   obtain ⟨a,ys,rfl,q,rs⟩:=r
   refine ⟨a,ys,rfl,?_,lA h u l ys rs⟩
   rcases q with (q | ⟨o,q⟩) | q
   · exact .inl (.inl (u _ _ (c7 q h (by intro z; cases z)) q))
   · exact .inl (.inr ⟨o,u _ _ (c7 q h (by intro z; cases z)) q⟩)
   · exact .inr q
 | .tup l,v,r=>by
   rw [Rep.bj] at r ⊢
   obtain ⟨a,ys,rfl,q,rs⟩:=r
   refine ⟨a,ys,rfl,?_,lA h u l ys rs⟩
   rcases q with (q | ⟨o,q⟩) | q
   · exact .inl (.inl (u _ _ (c7 q h (by intro z; cases z)) q))
   · exact .inl (.inr ⟨o,u _ _ (c7 q h (by intro z; cases z)) q⟩)
   · exact .inr q
theorem lA (h:H p=some (.ins C dx fs)) (u:bf (·=p) H H'):∀ (ds:List Dp) (vs:List V),aS K H ds vs→aS K H' ds vs
 | [],vs,r=>by rw [aS.bw] at r ⊢; exact r
 | d :: ds,vs,r=>by
   rw [aS.aM] at r ⊢
   obtain ⟨v,t,rfl,r1,r2⟩:=r
   exact ⟨v,t,rfl,qK h u d v r1,lA h u ds t r2⟩
end
end
theorem sY {K:PySem.W.Frag} {a D:Addr} {xs:List V} {te:TE} {Q:VK} {r:St} {H:Hp} (kf:Nat→Key × V) (hS:SqL K H a xs) (hl:xs.length≤16000000) (hD:H D=none)
   (step:∀ i x H2,xs[i]?=some x→aw H H2→∀ R:VK,(∀ p,H2 p=none→R (.ref p) (upd H2 p (.tup [kV (kf i).1,(kf i).2])))→te (some x :: r) H2 R)
   (q:∀ (ps:List (Addr × Key × V)) H2,aw H H2→H2 D=some (.lst (ps.map fun q=>V.ref q.1))→(∀ q∈ps,H2 q.1=some (.tup [kV q.2.1,q.2.2]))→ps.map (·.2)=(List.range xs.length).map kf→Q (.ref D) H2) :
   yA (Itl K a) D (gh 0) FH te Q (none :: r) (upd H D (.lst [])):=by
 refine yV (K:=K) (fun i ys H2=>∃ ps:List (Addr × Key × V),ys=ps.map (fun q=>V.ref q.1)∧(∀ q∈ps,H2 q.1=some (.tup [kV q.2.1,q.2.2]))∧ps.map (·.2)=(List.range i).map kf) hS hl hD ⟨[],rfl,fun _ z=>(by cases z),rfl⟩ ?_ ?_
 · rintro i x ys H2 hx s2 hDy ly ⟨ps,rfl,hps,ep⟩ R hR
   refine step i x H2 hx s2 R fun p hp=>hR _ _ (aw.new hp _) ⟨ps ++ [(p,kf i)],by simp,fun q hq=>?_,by rw [List.map_append,ep,List.range_succ,List.map_append]; rfl⟩
   have pD:D≠p:=ao hDy hp
   rcases List.mem_append.mp hq with hq | hq
   · have e:=hps q hq
     rw [az (c7 e hDy (by intro z; cases z))]
     exact aw.new hp _ _ _ e
   · rw [List.mem_singleton.mp hq]
     show upd (upd H2 p _) D _ p=_
     rw [az pD.symm,ae]
 · rintro ys H2 s2 hDy ⟨ps,rfl,hps,ep⟩
   exact q ps H2 s2 hDy hps ep
theorem lC {K:PySem.W.Frag} {a D:Addr} {xs:List V} {te:TE} {Q:VK} {r:St} {H:Hp} (f:Nat→V) (hS:SqL K H a xs) (hl:xs.length≤16000000) (hD:H D=none)
   (step:∀ i x H2,xs[i]?=some x→aw H H2→∀ R:VK,R (f i) H2→te (some x :: r) H2 R)
   (q:∀ H2,aw H H2→H2 D=some (.lst ((List.range xs.length).map f))→Q (.ref D) H2):yA (Itl K a) D (gh 0) FH te Q (none :: r) (upd H D (.lst [])):=by
 refine yV (K:=K) (fun i ys H2=>ys=(List.range i).map f) hS hl hD rfl ?_ ?_
 · rintro i x ys H2 hx s2 hDy ly rfl R hR
   exact step i x H2 hx s2 R (hR _ _ (aw.refl _) (by rw [List.range_succ,List.map_append]; rfl))
 · rintro ys H2 s2 hDy rfl
   exact q H2 s2 hDy
structure ChO (K:PySem.W.Frag) (C:Addr) (H:Hp) (p:Addr) (pr:PG.Prog):Prop where
 at_:∃ (dx nl sd fa va st wy:Addr) (us ws:List V),H p=some (.ins C dx [("names",.ref nl),("sizes",.ref sd),("first",.ref fa),("statements",.ref st),("ways",.ref wy)])∧H dx=some (.own p)∧
   H nl=some (.lst (pr.aG.map fun b=>.str (S b.name)))∧H sd=some (.dK (pr.aG.map fun b=>(.inr (S b.name),.int b.size)))∧
   H fa=some (.tup [.int (PG.aQ pr.body 0),.ref va])∧H va=some (.tup (pr.aG.map fun b=>.int b.first))∧
   us.length=(PG.aC pr.body).length∧H st=some (.dK (cY (PG.aC pr.body) us))∧aS K H ((PG.aC pr.body).map dpS) us∧
   ws.length=(PG.aU pr.body 0).length∧H wy=some (.dK (List.zipWith (fun r v=>(Sum.inl r.1,v)) (PG.aU pr.body 0) ws))∧∀ i (hi:i < (PG.aU pr.body 0).length),∃ q,ws[i]?=some (.ref q)∧SqT K H q ((PG.aU pr.body 0)[i].2.2.map V.int)
section
variable (K:PySem.W.Frag) (C:Addr)
noncomputable def Na:Sp:=fun vs H Q _=>∃ (p dx:Addr) (v:V) (pr:PG.Prog),vs=[.ref p,v]∧H p=some (.ins C dx [])∧H dx=some (.own p)∧Rep K H (kA pr) v∧PG.fV pr.body≤3∧(PG.cE pr.body).length≤1000∧(PG.aC pr.body).Pairwise (fun a b=>a.row < b.row)∧(pr.aG.map (·.name)).Nodup∧pr.aG.length≤10∧
 ∀ H',bD p H H'→ChO K C H' p pr→Q .non H'
end
end L2
namespace L2
open PySem
noncomputable def wkv (kvs:List (Key × V)) (x:W):Int:=match dR kvs (.inr (S x)) with
 | some (.int i)=>i
 | _=>0
noncomputable def TrK (kvs:List (Key × V)):PM.Tr→Prop
 | .num n=>n.natAbs≤2 ^ 12
 | .box x=>∃ i:Int,dR kvs (.inr (S x))=some (.int i)∧i.natAbs≤2 ^ 12
 | .bin o l r=>(o=[43]∨o=[45]∨o=[42])∧TrK kvs l∧TrK kvs r
theorem F5 {kvs:List (Key × V)} {x:W} {i:Int} (h:dR kvs (.inr (S x))=some (.int i)):wkv kvs x=i:=by
 unfold wkv
 rw [h]
theorem lD {kvs:List (Key × V)}:∀ {t:PM.Tr},TrK kvs t→(cu (wkv kvs) t).natAbs≤2 ^ (14 * 2 ^ PG.trd t)
 | .num n,h=>by
   rw [TrK] at h
   rw [cu]
   simp only [PG.trd]
   exact Nat.le_trans h (Nat.pow_le_pow_right (by decide) (by decide))
 | .box x,h=>by
   rw [TrK] at h
   obtain ⟨i,e,hi⟩:=h
   rw [cu,F5 e]
   simp only [PG.trd]
   exact Nat.le_trans hi (Nat.pow_le_pow_right (by decide) (by decide))
 | .bin o l r,h=>by
   rw [TrK] at h
   have hl:=lD h.2.1
   have hr:=lD h.2.2
   have one:∀ a b:Nat,1≤2 ^ max a b:=fun a b=>Nat.one_le_two_pow
   have ml:(cu (wkv kvs) l).natAbs≤2 ^ (14 * 2 ^ max (PG.trd l) (PG.trd r)):=Nat.le_trans hl (Nat.pow_le_pow_right (by decide) (Nat.mul_le_mul_left _ (Nat.pow_le_pow_right (by decide) (Nat.le_max_left _ _))))
   have mr:(cu (wkv kvs) r).natAbs≤2 ^ (14 * 2 ^ max (PG.trd l) (PG.trd r)):=Nat.le_trans hr (Nat.pow_le_pow_right (by decide) (Nat.mul_le_mul_left _ (Nat.pow_le_pow_right (by decide) (Nat.le_max_right _ _))))
   rw [PG.trd,show 14 * 2 ^ (max (PG.trd l) (PG.trd r) + 1)=14 * 2 ^ max (PG.trd l) (PG.trd r) + 14 * 2 ^ max (PG.trd l) (PG.trd r) by rw [Nat.pow_succ]; lia]
   have k14:14≤14 * 2 ^ max (PG.trd l) (PG.trd r):=Nat.le_mul_of_pos_right _ (one _ _)
   generalize 14 * 2 ^ max (PG.trd l) (PG.trd r)=k at *
   have two:2≤2 ^ k:=Nat.le_trans (by decide:2≤2 ^ 1) (Nat.pow_le_pow_right (by decide) (by lia))
   rw [Nat.pow_add]
   have b2:2 * 2 ^ k≤2 ^ k * 2 ^ k:=Nat.mul_le_mul_right _ two
   rw [cu]
   split
   · lia
   · split
     · lia
     · rw [Int.natAbs_mul]
       exact Nat.mul_le_mul ml mr
theorem Ck {a:Int} {d:Nat} (h:a.natAbs≤2 ^ (14 * 2 ^ d)) (hd:d≤6):a.natAbs < 2 ^ 4000:=by
 refine Nat.lt_of_le_of_lt h (Nat.pow_lt_pow_right (by decide) ?_)
 have:2 ^ d≤2 ^ 6:=Nat.pow_le_pow_right (by decide) hd
 lia
section
variable (K:PySem.W.Frag)
noncomputable def spW (n:Nat):Sp:=fun vs H Q _=>∃ (v:V) (d:Addr) (tr:PM.Tr) (kvs:List (Key × V)),vs=[v,.ref d]∧Rep K H (dpT tr) v∧H d=some (.dK kvs)∧TrK kvs tr∧PG.trd tr < n∧PG.trd tr≤6∧∀ H',aw H H'→Q (.int (cu (wkv kvs) tr)) H'
end
end L2
namespace L2
open PySem
theorem ChO.mono {K:PySem.W.Frag} {C p:Addr} {H H':Hp} {pr:PG.Prog} (c:ChO K C H p pr) (s:aw H H'):ChO K C H' p pr:=by
 obtain ⟨dx,nl,sd,fa,va,st,wy,us,ws,h1,h2,h3,h4,h5,h6,h7,h8,h9,h10,h11,h12⟩:=c.at_
 exact ⟨⟨dx,nl,sd,fa,va,st,wy,us,ws,s _ _ h1,s _ _ h2,s _ _ h3,s _ _ h4,s _ _ h5,s _ _ h6,h7,s _ _ h8,h9.mono s,h10,s _ _ h11,fun i hi=>let ⟨q,e,r⟩:=h12 i hi; ⟨q,e,s.bC r⟩⟩⟩
theorem jD {α β:Type} (g:α→β) (d:α) (l:List α):(List.range l.length).map (fun i=>g (l.getD i d))=l.map g:=by
 apply List.ext_getElem
 · simp
 · intro i h1 h2
   simp at h1 h2
   simp [h2]
noncomputable def cU (bs:List PG.Box) (vs:List V):List (Key × V):=List.zipWith (fun b v=>(Sum.inr (S b.name),v)) bs vs
theorem sZ:∀ (bs:List PG.Box) (vs:List V),(bs.map fun b=>(Sum.inr (S b.name):Key)).zip vs=cU bs vs
 | [],vs=>by simp [cU]
 | b :: bs,[]=>by simp [cU]
 | b :: bs,v :: vs=>by
   show _ :: (bs.map fun b=>(Sum.inr (S b.name):Key)).zip vs=_ :: cU bs vs
   rw [sZ bs vs]
theorem oU:∀ (bs:List PG.Box) (vs:List V),vs.length=bs.length→(cU bs vs).map (·.1)=bs.map fun b=>(Sum.inr (S b.name):Key)
 | [],[],_=>rfl
 | [],_ :: _,h=>by simp at h
 | _ :: _,[],h=>by simp at h
 | b :: bs,v :: vs,h=>by
   show _ :: (cU bs vs).map (·.1)=_
   rw [oU bs vs (by simpa using h)]
   rfl
theorem names_nodup {bs:List PG.Box} (nb:(bs.map (·.name)).Nodup):(bs.map fun b=>(Sum.inr (S b.name):Key)).Nodup:=by
 refine List.pairwise_map.mpr ((List.pairwise_map.mp nb).imp fun {a b} hab e=>hab ?_)
 exact oF.mp (Sum.inr.inj e)
theorem lE:∀ (bs:List PG.Box) (vs:List V),vs.length=bs.length→(bs.map (·.name)).Nodup→∀ i (hi:i < bs.length) v,vs[i]?=some v→dR (cU bs vs) (.inr (S bs[i].name))=some v
 | [],_,_,_,i,hi,_,_=>by simp at hi
 | _ :: _,[],h,_,_,_,_,_=>by simp at h
 | b :: bs,v :: vs,h,nb,0,hi,u,hu=>by
   simp at hu
   subst hu
   show dR ((_,v) :: cU bs vs) _=_
   exact cR rfl
 | b :: bs,v :: vs,h,nb,i + 1,hi,u,hu=>by
   rw [List.map_cons,List.nodup_cons] at nb
   have mem:(bs[i]'(by simpa using hi)).name∈bs.map (·.name):=List.mem_map.mpr ⟨_,List.getElem_mem _,rfl⟩
   show dR ((.inr (S b.name),v) :: cU bs vs) (.inr (S (bs[i]'(by simpa using hi)).name))=_
   rw [cS (fun e=>by have e:=oF.mp (Sum.inr.inj e); exact nb.1 (e ▸ mem))]
   exact lE bs vs (by simpa using h) nb.2 i (by simpa using hi) u (by simpa using hu)
section
variable (K:PySem.W.Frag) (C:Addr)
noncomputable def Ji:Sp:=fun vs H Q _=>∃ (p a:Addr) (pr:PG.Prog) (us:List V),vs=[.ref p,.ref a]∧ChO K C H p pr∧SqT K H a us∧us.length=pr.aG.length∧(pr.aG.map (·.name)).Nodup∧pr.aG.length≤10∧
 ∀ d H',aw H H'→H d=none→H' d=some (.dK (cU pr.aG us))→Q (.ref d) H'
noncomputable def Jj:Sp:=fun vs H Q _=>∃ (p d:Addr) (pr:PG.Prog) (kvs:List (Key × V)) (us:List V),vs=[.ref p,.ref d]∧ChO K C H p pr∧H d=some (.dK kvs)∧us.length=pr.aG.length∧(∀ i (hi:i < pr.aG.length),dR kvs (.inr (S pr.aG[i].name))=us[i]?)∧pr.aG.length≤10∧
 ∀ a H',aw H H'→SqT K H' a us→Q (.ref a) H'
noncomputable def Lr:Sp:=fun vs H Q _=>∃ (p:Addr) (pr:PG.Prog) (row:Int),vs=[.ref p,.int row]∧ChO K C H p pr∧(PG.aC pr.body).Pairwise (fun a b=>a.row < b.row)∧
 ((row=0∧Q (.str "end") H)∨(row≠0∧∃ i,∃ hi:i < (PG.aC pr.body).length,(PG.aC pr.body)[i].row=row∧Q (.str (wdS (PG.aC pr.body)[i].wd)) H))
end
noncomputable def xk:PG.Stm→Option (W × PM.Tr × PM.Tr)
 | .cL _ sg l r=>some (sg,l,r)
 | .ifs _ sg l r _ _=>some (sg,l,r)
 | .whl _ sg l r _=>some (sg,l,r)
 | _=>none
noncomputable def mf (sg:W) (a b:Int):Bool:=if sg=[60] then decide (a < b) else decide (a=b)
noncomputable def wv (bs:List PG.Box) (vals:List Int) (e:PM.Tr):Int:=cu (wkv (cU bs (vals.map V.int))) e
noncomputable abbrev TrV (bs:List PG.Box) (vals:List Int) (e:PM.Tr):Prop:=TrK (cU bs (vals.map V.int)) e∧PG.trd e≤2
theorem yY {K:PySem.W.Frag} {H:Hp} {st:PG.Stm} {v:V} {sg:W} {l r:PM.Tr} (h:Rep K H (dpS st) v) (c:xk st=some (sg,l,r)):∃ a w0 vl vr ys,v=.ref a∧SqT K H a (w0 :: .int st.row :: .str (S sg) :: vl :: vr :: ys)∧Rep K H (dpT l) vl∧Rep K H (dpT r) vr:=by
 have key:∃ w ds,dpS st=.tup (.str w :: .int st.row :: .str (S sg) :: dpT l :: dpT r :: ds):=by
   cases st <;> simp only [xk,Option.some.injEq,Prod.mk.injEq,reduceCtorEq] at c <;> obtain ⟨rfl,rfl,rfl⟩:=c <;> exact ⟨_,_,by rw [dpS]; rfl⟩
 obtain ⟨w0,ds,e⟩:=key
 rw [e,Rep.bj] at h
 obtain ⟨a,xs,rfl,q,rs⟩:=h
 rw [aS.aM] at rs
 obtain ⟨v0,t0,rfl,_,rs⟩:=rs
 rw [aS.aM] at rs
 obtain ⟨v1,t1,rfl,e1,rs⟩:=rs
 rw [aS.aM] at rs
 obtain ⟨v2,t2,rfl,e2,rs⟩:=rs
 rw [aS.aM] at rs
 obtain ⟨v3,t3,rfl,e3,rs⟩:=rs
 rw [aS.aM] at rs
 obtain ⟨v4,t4,rfl,e4,rs⟩:=rs
 rw [Rep.bE] at e1
 rw [Rep.bF] at e2
 subst e1 e2
 exact ⟨a,v0,v3,v4,t4,rfl,q,e3,e4⟩
noncomputable def hC (K:PySem.W.Frag) (H:Hp) (sa:Addr) (row:Int) (vals:List Int):Prop:=∃ va,SqT K H sa [.int row,.ref va]∧SqT K H va (vals.map V.int)
theorem hC.mono {K:PySem.W.Frag} {H H':Hp} {sa:Addr} {row:Int} {vals:List Int} (h:hC K H sa row vals) (s:aw H H'):hC K H' sa row vals:=let ⟨va,h1,h2⟩:=h; ⟨va,s.bC h1,s.bC h2⟩
structure Jk (pr:PG.Prog):Prop where
 pw:(PG.aC pr.body).Pairwise (fun a b=>a.row < b.row)
 nb:(pr.aG.map (·.name)).Nodup
 few:pr.aG.length≤10
 pos:∀ s∈PG.aC pr.body,0 < s.row
section
variable (K:PySem.W.Frag) (C:Addr)
noncomputable def Nb:Sp:=fun vs H Q _=>∃ (p sa:Addr) (pr:PG.Prog) (vals:List Int) (i:Nat) (hi:i < (PG.aC pr.body).length) (sg:W) (l r:PM.Tr),vs=[.ref p,.ref sa]∧ChO K C H p pr∧Jk pr∧hC K H sa (PG.aC pr.body)[i].row vals∧vals.length=pr.aG.length∧xk (PG.aC pr.body)[i]=some (sg,l,r)∧TrV pr.aG vals l∧TrV pr.aG vals r∧
 ∀ H',aw H H'→Q (.bl (mf sg (wv pr.aG vals l) (wv pr.aG vals r))) H'
end
end L2
namespace L2
open PySem
theorem Bv:∀ (fl:List PG.eZ) (vs:List V),vs.length=fl.length→fl.Pairwise (fun a b=>a.1 < b.1)→∀ i (hi:i < fl.length) v,vs[i]?=some v→dR (List.zipWith (fun r v=>((Sum.inl r.1:Key),v)) fl vs) (.inl fl[i].1)=some v
 | [],_,_,_,i,hi,_,_=>by simp at hi
 | _ :: _,[],h,_,_,_,_,_=>by simp at h
 | s :: ss,v :: vs,h,hp,0,hi,u,hu=>by
   simp at hu
   subst hu
   rw [List.zipWith_cons_cons]
   exact cR rfl
 | s :: ss,v :: vs,h,hp,i + 1,hi,u,hu=>by
   rw [List.pairwise_cons] at hp
   have lt:=hp.1 (ss[i]'(by simpa using hi)) (List.getElem_mem _)
   rw [List.zipWith_cons_cons]
   show dR _ (Sum.inl (ss[i]'(by simpa using hi)).1:Key)=_
   rw [cS (fun e=>by have e:=Sum.inl.inj e; lia)]
   exact Bv ss vs (by simpa using h) hp.2 i (by simpa using hi) u (by simpa using hu)
theorem lF (b:List PG.Stm) (i:Nat) (hi:i < (PG.aC b).length):∃ hf:i < (PG.aU b 0).length,(PG.aU b 0)[i].1=(PG.aC b)[i].row∧(PG.aU b 0)[i].2.1=(PG.aC b)[i].wd:=by
 have e:((PG.aU b 0).map fun r=>(r.1,r.2.1))=(PG.aC b).map fun x=>(x.row,x.wd):=by rw [PG.eU,PG.fG]
 have l:=congrArg List.length e
 rw [List.length_map,List.length_map] at l
 have hf:i < (PG.aU b 0).length:=by lia
 refine ⟨hf,?_⟩
 have h1:((PG.aU b 0).map fun r=>(r.1,r.2.1))[i]?=((PG.aC b).map fun x=>(x.row,x.wd))[i]?:=by rw [e]
 rw [List.getElem?_map,List.getElem?_map,List.getElem?_eq_getElem hf,List.getElem?_eq_getElem hi] at h1
 have h1:=Option.some.inj h1
 exact ⟨congrArg Prod.fst h1,congrArg Prod.snd h1⟩
theorem Jl {b:List PG.Stm} (pw:(PG.aC b).Pairwise fun a b=>a.row < b.row):(PG.aU b 0).Pairwise fun a b=>a.1 < b.1:=by
 have e:((PG.aU b 0).map fun r=>(r.1,r.2.1))=(PG.aC b).map fun x=>(x.row,x.wd):=by rw [PG.eU,PG.fG]
 have h:((PG.aC b).map fun x=>(x.row,x.wd)).Pairwise fun a b=>a.1 < b.1:=List.pairwise_map.mpr pw
 rw [← e,List.pairwise_map] at h
 exact h
theorem ChO.way {K:PySem.W.Frag} {C p:Addr} {H:Hp} {pr:PG.Prog} (c:ChO K C H p pr) (ok:Jk pr) (i:Nat) (hi:i < (PG.aC pr.body).length) (hf:i < (PG.aU pr.body 0).length):∃ dx fs wy q,H p=some (.ins C dx fs)∧fs.lookup (Str.ofString "ways")=some (V.ref wy)∧qS H wy (.int (PG.aC pr.body)[i].row) (some (.ref q))∧SqT K H q ((PG.aU pr.body 0)[i].2.2.map V.int):=by
 obtain ⟨dx,nl,sd,fa,va,st,wy,us,ws,h1,h2,h3,h4,h5,h6,h7,h8,h9,h10,h11,h12⟩:=c.at_
 obtain ⟨q,e,hq⟩:=h12 i hf
 obtain ⟨hf',e1,_⟩:=lF pr.body i hi
 have g:=Bv _ _ h10 (Jl ok.pw) i hf _ e
 rw [e1] at g
 exact ⟨dx,_,wy,q,h1,rfl,.inl ⟨_,.inl _,.inl h11,rfl,g.symm⟩,hq⟩
noncomputable def oV (K:PySem.W.Frag) (H:Hp):Option (Int × List Int)→V→Prop
 | none,v=>v=.non
 | some x,v=>∃ a,v=.ref a∧hC K H a x.1 x.2
noncomputable def jH (bs:List PG.Box) (st:PG.Stm) (ws:List Int) (vals:List Int):Option (Int × List Int):=match xk st with
 | none=>none
 | some (sg,l,r)=>if mf sg (wv bs vals l) (wv bs vals r) then some (ws.getD 0 0,vals) else if st.wd=.cL then none else some (ws.getD 1 0,vals)
section
variable (K:PySem.W.Frag) (C:Addr)
noncomputable def Jm:Sp:=fun vs H Q _=>∃ (p sa:Addr) (pr:PG.Prog) (vals:List Int) (i:Nat) (hi:i < (PG.aC pr.body).length) (hf:i < (PG.aU pr.body 0).length) (sg:W) (l r:PM.Tr),vs=[.ref p,.ref sa]∧ChO K C H p pr∧Jk pr∧hC K H sa (PG.aC pr.body)[i].row vals∧vals.length=pr.aG.length∧xk (PG.aC pr.body)[i]=some (sg,l,r)∧TrV pr.aG vals l∧TrV pr.aG vals r∧
 0 < (PG.aU pr.body 0)[i].2.2.length∧((PG.aC pr.body)[i].wd≠.cL→1 < (PG.aU pr.body 0)[i].2.2.length)∧
 ∀ v H',aw H H'→oV K H' (jH pr.aG (PG.aC pr.body)[i] (PG.aU pr.body 0)[i].2.2 vals) v→Q v H'
end
end L2
namespace L2
open PySem PyProof.Rows
noncomputable def Nc:V→List V→Hp→VK→Prop:=fun x vs H Q=>∃ (l:Addr) (ss:List Str) (y:Str) (j:Nat),x=.ref l∧vs=[.str y]∧H l=some (.lst (ss.map V.str))∧ss[j]?=some y∧(∀ m,m < j→ss[m]?≠some y)∧Q (.int j) H
theorem Jn {X:Cx}:MtM X "list.index" Nc:=by
 intro pins s σ H x vs v us Q I rx rv h
 obtain ⟨l,ss,y,j,rfl,rfl,hH,hj,hno,q⟩:=h
 cases rx
 obtain ⟨u,rfl,ru⟩:=rv.one
 obtain ⟨t,rfl⟩:=(show ∃ t,u=Value.str y t from ru)
 obtain ⟨z,its,n,r,hl,e⟩:=I.Ax hH
 rw [List.length_map] at z hl
 have line:sizeLine=2 ^ 24:=rfl
 have get:∀ m (hm:m < its.length),∃ t',its[m]=Value.str (ss[m]'(by lia)) t':=fun m hm=>by
   obtain ⟨w',hw,rw'⟩:=r.get (i:=m) (show (ss.map V.str)[m]?=some (V.str (ss[m]'(by lia))) by rw [List.getElem?_map,List.getElem?_eq_getElem (by lia)]; rfl)
   rw [List.getElem?_eq_getElem hm] at hw
   cases hw
   exact rw'
 have lj:j < ss.length:=(List.getElem?_eq_some_iff.mp hj).1
 have ej:ss[j]=y:=(List.getElem?_eq_some_iff.mp hj).2
 let e0:Value→Bool:=fun v=>match v with
   | .str a _=>a == y
   | _=>false
 refine call_meets F.slot_list_index ⟨_,e,rfl⟩ F.entry_list_index (F.args_list_index_2 _ _)
   (SeqAt.list_indexAt l its.toArray n none #[] (.str y t) e0 j (by rw [List.size_toArray]; lia) (by lia) ?_ ?_) ⟨e,?_,?_⟩
 · obtain ⟨t',et⟩:=get j (by lia)
   show e0 its[j]=true
   rw [et,ej]
   simp [e0]
 · intro m hm lt
   have hm':m < its.length:=by simpa using hm
   obtain ⟨t',et⟩:=get m hm'
   show e0 its[m]=false
   rw [et]
   have:=hno m lt
   rw [List.getElem?_eq_getElem (by lia)] at this
   simp only [e0]
   exact beq_eq_false_iff_ne.mpr fun w=>this (by rw [w])
 · intro v hv
   rw [List.mem_toArray] at hv
   obtain ⟨m,hm,rfl⟩:=List.mem_iff_getElem.mp hv
   obtain ⟨t',et⟩:=get m hm
   rw [et]
   exact SeqAt.EqAt.str_str _ _ _ _
 · exact ⟨.int j,H,I.tok _,⟨_,rfl⟩,q⟩
noncomputable def c9 (bs:List PG.Box) (x:W):Nat:=(bs.map (·.name)).idxOf x
noncomputable def Az (bs:List PG.Box) (vals:List Int) (x:W) (v:Int):List Int:=vals.set (c9 bs x) v
noncomputable def fD (bs:List PG.Box) (x:W):Int:=((bs[c9 bs x]?).map (·.size)).getD 1
noncomputable def i6 (bs:List PG.Box) (st:PG.Stm) (ws vals:List Int) (fig:Int):Option (Int × List Int) × Option Int:=match st with
 | .ask _ b=>(some (ws.getD 0 0,Az bs vals b (fig % fD bs b)),none)
 | .put _ b e=>(some (ws.getD 0 0,Az bs vals b (wv bs vals e % fD bs b)),none)
 | .say _ e=>(some (ws.getD 0 0,vals),some (wv bs vals e))
 | .stop _=>(some (ws.getD 0 0,vals),none)
 | st=>(jH bs st ws vals,none)
noncomputable def Hz (bs:List PG.Box) (vals:List Int):PG.Stm→Prop
 | .ask _ b=>b∈bs.map (·.name)
 | .put _ b e=>b∈bs.map (·.name)∧TrV bs vals e
 | .say _ e=>TrV bs vals e
 | .cL _ _ l r=>TrV bs vals l∧TrV bs vals r
 | .ifs _ _ l r _ _=>TrV bs vals l∧TrV bs vals r
 | .whl _ _ l r _=>TrV bs vals l∧TrV bs vals r
 | .stop _=>True
noncomputable def nC:Option Int→V
 | none=>.non
 | some n=>.int n
theorem lG {bs:List PG.Box} {x:W} (h:x∈bs.map (·.name)):∃ hi:c9 bs x < bs.length,bs[c9 bs x].name=x:=by
 have l:c9 bs x < (bs.map (·.name)).length:=List.idxOf_lt_length_iff.mpr h
 have e:(bs.map (·.name))[c9 bs x]=x:=List.getElem_idxOf l
 rw [List.length_map] at l
 rw [List.getElem_map] at e
 exact ⟨l,e⟩
theorem F6 {bs:List PG.Box} {vs:List V} (l:vs.length=bs.length) (nb:(bs.map (·.name)).Nodup) {x:W} (h:x∈bs.map (·.name)) (v:V) (i:Nat) (hi:i < bs.length) :
   dR (putK (cU bs vs) (.inr (S x)) v) (.inr (S bs[i].name))=(vs.set (c9 bs x) v)[i]?:=by
 obtain ⟨hx,ex⟩:=lG h
 rw [ui]
 by_cases e:i=c9 bs x
 · subst e
   rw [if_pos (by rw [ex]),List.getElem?_set_self (by lia)]
 · have ne:bs[i].name≠x:=fun z=>e (by
     have p1:=List.pairwise_iff_getElem.mp nb
     rw [← ex] at z
     rcases Nat.lt_trichotomy i (c9 bs x) with lt | eq | gt
     · exact absurd (by rw [List.getElem_map,List.getElem_map]; exact z) (p1 i (c9 bs x) (by simpa using hi) (by simpa using hx) lt)
     · exact eq
     · exact absurd (by rw [List.getElem_map,List.getElem_map]; exact z.symm) (p1 (c9 bs x) i (by simpa using hx) (by simpa using hi) gt))
   rw [if_neg (fun z=>ne (oF.mp (Sum.inr.inj z))),List.getElem?_set_ne (fun z=>e z.symm)]
   have li:i < vs.length:=by lia
   rw [lE bs vs l nb i hi vs[i] (List.getElem?_eq_getElem li),List.getElem?_eq_getElem li]
theorem Es {bs:List PG.Box} (nb:(bs.map (·.name)).Nodup) {x:W} (h:x∈bs.map (·.name)):dR (bs.map fun b=>((Sum.inr (S b.name):Key),V.int b.size)) (.inr (S x))=some (.int (fD bs x)):=by
 obtain ⟨hx,ex⟩:=lG h
 have e:(bs.map fun b=>((Sum.inr (S b.name):Key),V.int b.size))=cU bs (bs.map fun b=>V.int b.size):=by
   unfold cU
   rw [List.zipWith_map_right,List.zipWith_self]
 rw [e]
 have:=lE bs (bs.map fun b=>V.int b.size) (by simp) nb (c9 bs x) hx (.int bs[c9 bs x].size) (by rw [List.getElem?_map,List.getElem?_eq_getElem hx]; rfl)
 rw [ex] at this
 rw [this]
 unfold fD
 rw [List.getElem?_eq_getElem hx]
 rfl
section
variable (K:PySem.W.Frag) (C:Addr)
noncomputable def Ls:Sp:=fun vs H Q _=>∃ (p sa:Addr) (fv:V) (pr:PG.Prog) (vals:List Int) (fig:Int) (i:Nat) (hi:i < (PG.aC pr.body).length) (hf:i < (PG.aU pr.body 0).length),vs=[.ref p,.ref sa,fv]∧ChO K C H p pr∧Jk pr∧(∀ b∈pr.aG,0 < b.size)∧hC K H sa (PG.aC pr.body)[i].row vals∧vals.length=pr.aG.length∧
 ((PG.aC pr.body)[i].wd=.ask→fv=.int fig)∧Hz pr.aG vals (PG.aC pr.body)[i]∧0 < (PG.aU pr.body 0)[i].2.2.length∧((PG.aC pr.body)[i].wd=.ifs∨(PG.aC pr.body)[i].wd=.whl→1 < (PG.aU pr.body 0)[i].2.2.length)∧
 ∀ q sv H',aw H H'→SqT K H' q [sv,nC (i6 pr.aG (PG.aC pr.body)[i] (PG.aU pr.body 0)[i].2.2 vals fig).2]→oV K H' (i6 pr.aG (PG.aC pr.body)[i] (PG.aU pr.body 0)[i].2.2 vals fig).1 sv→Q (.ref q) H'
end
end L2
namespace L2
open PySem PySem.Spec PyProof.Rows
noncomputable def QW (K:PySem.W.Frag):R2:=fun x y H Q=>∃ a b xs ys,x=.ref a∧y=.ref b∧SqT K H a xs∧SqT K H b ys∧xs.length + ys.length≤sizeLine∧∀ p H',aw H H'→SqT K H' p (xs ++ ys)→Q (.ref p) H'
theorem HA {X:Cx}:OpR X (binaryOp .Add) (QW X.K):=by
 intro pins s σ H x y v u Q I rx ry h
 by_cases hx:∃ xs0,(∃ a b ys,x=.ref a∧y=.ref b∧SqT X.K H a xs0∧SqT X.K H b ys∧xs0.length + ys.length≤sizeLine∧∀ p H',aw H H'→SqT X.K H' p (xs0 ++ ys)→Q (.ref p) H')∧xs0=[]
 · obtain ⟨xs,⟨a,b,ys,rfl,rfl,ha,hb,hz,q⟩,rfl⟩:=hx
   cases rx
   cases ry
   obtain ⟨its,r1,p1,_⟩:=I.tuple ha
   obtain ⟨uc,r2,p2,_⟩:=I.tuple hb
   obtain ⟨⟨cls,dd,data,sl⟩,ho,hc,n,hd⟩:=id p1
   obtain ⟨⟨RM,dd2,data2,sl2⟩,ho2,hc2,n2,hd2⟩:=id p2
   simp only at hc hd hc2 hd2
   subst hc hd hc2 hd2
   cases r1
   exact concat_meets ⟨_,ho,rfl⟩ ⟨_,ho2,rfl⟩ noFill_tuple_add seq_tuple_add PySem.F.slot_tuple_add PySem.F.entry_tuple_add (PySem.F.args_tuple_add_2 _ _)
     (tuple_addW0 a b _ uc.toArray n n2 dd dd2 sl sl2 rfl) ⟨ho,ho2,⟨.ref b,H,I,rfl,q _ _ (aw.refl _) hb⟩⟩
 · obtain ⟨a,b,xs,ys,rfl,rfl,ha,hb,hz,q⟩:=h
   refine ub pins s σ H _ _ v u Q I rx ry ⟨a,b,xs,ys,rfl,rfl,ha,hb,fun e=>hx ⟨xs,⟨a,b,ys,rfl,rfl,ha,hb,hz,q⟩,e⟩,hz,fun e=>q _ _ (aw.refl _) ?_,fun _ p hp=>q _ _ (aw.new hp _) (.of ae)⟩
   rw [e,List.append_nil]
   exact ha
noncomputable def QX (K:PySem.W.Frag):V→Option Int→Option Int→Hp→VK→Prop:=fun x lo hi H Q=>∃ a xs,x=.ref a∧SqT K H a xs∧∀ p H',aw H H'→SqT K H' p (gQ xs lo hi)→Q (.ref p) H'
theorem HC {X:Cx}:SlR X (QX X.K):=by
 intro pins s σ H x v vl vu lo hi sl Q I rx hs pl pu h
 obtain ⟨a,xs,rfl,hx,q⟩:=h
 refine M4 pins s σ H _ v vl vu lo hi sl Q I rx hs pl pu ⟨a,xs,rfl,hx,fun e=>q _ _ (aw.refl _) ?_,fun _ p hp=>q _ _ (aw.new hp _) (.of ae)⟩
 have:gQ xs lo hi=xs:=by
   unfold gQ
   rw [e.1,e.2]
   simp
 rw [this]
 exact hx
theorem Bw {K:PySem.W.Frag} {H:Hp}:∀ l:List Int,aS K H (l.map Dp.int) (l.map V.int)
 | []=>by rw [List.map_nil,List.map_nil,aS.bw]
 | x :: r=>by rw [List.map_cons,List.map_cons,aS.aM]; exact ⟨_,_,rfl,by rw [Rep.bE],Bw r⟩
noncomputable def O8:PG.Stm→Prop
 | .cL _ sg _ _=>sg∈PG.sgs
 | .ifs _ sg _ _ _ _=>sg∈PG.sgs
 | .whl _ sg _ _ _=>sg∈PG.sgs
 | _=>True
section
variable (K:PySem.W.Frag)
noncomputable def F7:Sp:=fun vs H Q _=>∃ (B ta wa va:Addr) (fv:V) (bs:List PG.Box) (st:PG.Stm) (ws vals:List Int) (fig:Int),vs=[.ref B,.ref ta,.ref wa,.ref va,fv]∧Rep K H (.lst (bs.map jG)) (.ref B)∧Rep K H (dpS st) (.ref ta)∧SqT K H wa (ws.map V.int)∧SqT K H va (vals.map V.int)∧(bs.map (·.name)).Nodup∧bs.length≤10∧(∀ b∈bs,0 < b.size)∧vals.length=bs.length∧
 (st.wd=.ask→fv=.int fig)∧Hz bs vals st∧O8 st∧0 < ws.length∧(st.wd=.ifs∨st.wd=.whl→1 < ws.length)∧
 ∀ q sv H',aw H H'→SqT K H' q [sv,nC (i6 bs st ws vals fig).2]→oV K H' (i6 bs st ws vals fig).1 sv→Q (.ref q) H'
end
end L2
namespace L2
open PySem
theorem dY {H H':Hp} {b:Addr} (s:aw H H') (h:H' b=none):H b=none:=by
 cases z:H b with
 | none=>rfl
 | some o=>rw [s _ _ z] at h; cases h
theorem SqT.Cm {K:PySem.W.Frag} {H H':Hp} {D a:Addr} {xs ys:List V} (h:SqT K H a xs) (hD:H D=some (.lst ys)) (u:bD D H H'):SqT K H' a xs:=by
 rcases h with (q | ⟨o,q⟩) | q
 · exact .inl (.inl (u _ _ (c7 q hD (by intro z; cases z)) q))
 · exact .inl (.inr ⟨o,u _ _ (c7 q hD (by intro z; cases z)) q⟩)
 · exact .inr q
theorem Cn {bs:List PG.Box} {vals:List Int} (lv:vals.length=bs.length) (nb:(bs.map (·.name)).Nodup) (hv:∀ v∈vals,v.natAbs≤2 ^ 12):∀ e:PM.Tr,PG.i7 bs e→TrK (cU bs (vals.map V.int)) e
 | .num n,h=>by rw [PG.i7] at h; rw [TrK]; lia
 | .box x,h=>by
   rw [PG.i7] at h
   rw [TrK]
   obtain ⟨hx,ex⟩:=lG h
   have li:c9 bs x < vals.length:=by lia
   refine ⟨vals[c9 bs x],?_,hv _ (List.getElem_mem li)⟩
   have:=lE bs (vals.map V.int) (by simpa using lv) nb (c9 bs x) hx (.int vals[c9 bs x]) (by rw [List.getElem?_map,List.getElem?_eq_getElem li]; rfl)
   rw [ex] at this
   exact this
 | .bin o l r,h=>by
   rw [PG.i7] at h
   rw [TrK]
   exact ⟨by simpa using h.1,Cn lv nb hv l h.2.1,Cn lv nb hv r h.2.2⟩
theorem Lu {bs:List PG.Box} {vals:List Int} (lv:vals.length=bs.length) (nb:(bs.map (·.name)).Nodup) (hv:∀ v∈vals,v.natAbs≤2 ^ 12) {st:PG.Stm} (h:PG.OkS (·∈bs.map (·.name)) (fun e=>PG.i7 bs e∧PG.trd e≤2) (·∈PG.sgs) st):Hz bs vals st∧O8 st:=by
 have k:∀ e,(PG.i7 bs e∧PG.trd e≤2)→TrV bs vals e:=fun e h=>⟨Cn lv nb hv e h.1,h.2⟩
 cases st <;> rw [PG.OkS] at h
 · exact ⟨h,trivial⟩
 · exact ⟨⟨h.1,k _ h.2⟩,trivial⟩
 · exact ⟨k _ h,trivial⟩
 · exact ⟨⟨k _ h.2.1,k _ h.2.2⟩,h.1⟩
 · exact ⟨trivial,trivial⟩
 · exact ⟨⟨k _ h.2.1,k _ h.2.2.1⟩,h.1⟩
 · exact ⟨⟨k _ h.2.1,k _ h.2.2.1⟩,h.1⟩
theorem oV.keep {K:PySem.W.Frag} {H H':Hp} {o:Option (Int × List Int)} {v:V} (h:oV K H o v) (s:aw H H'):oV K H' o v:=by
 cases o with
 | none=>exact h
 | some x=>obtain ⟨a,e,sa⟩:=h; exact ⟨a,e,sa.mono s⟩
section
variable (K:PySem.W.Frag)
noncomputable def F8:Sp:=fun vs H Q _=>∃ (D S:Addr) (sc:List Int) (p many:Nat),vs=[.ref D,.int many]∧g7 K H D S sc p∧p≤100∧many≤100∧
 ∀ (l t1 B b R:Addr) H',bD D H H'→(∃ p',p'≤90000∧g7 K H' D S sc p')→H' l=some (.lst [.ref t1,.ref R])→H' t1=some (.tup [.ref B,.ref b])→l≠D→t1≠D→B≠D→b≠D→R≠D→
   Fix K (·=D) H' (.lst ((PG.cD sc many p).1.aG.map jG)) (.ref B)→Fix K (·=D) H' (.lst ((PG.cD sc many p).1.body.map dpS)) (.ref b)→Fix K (·=D) H' (.lst ((PG.cD sc many p).2.map lh)) (.ref R)→Q (.ref l) H'
end
end L2
namespace L2
open PySem
section
variable {K:PySem.W.Frag} {H H':Hp} {p C dx a:Addr} {fs:List (Str × V)} {xs:List V}
theorem SqT.ins (h:SqT K H a xs) (hp:H p=some (.ins C dx fs)) (u:bD p H H'):SqT K H' a xs:=by
 rcases h with (q | ⟨o,q⟩) | q
 · exact .inl (.inl (u _ _ (c7 q hp (by intro z; cases z)) q))
 · exact .inl (.inr ⟨o,u _ _ (c7 q hp (by intro z; cases z)) q⟩)
 · exact .inr q
theorem SqL.ins (h:SqL K H a xs) (hp:H p=some (.ins C dx fs)) (u:bD p H H'):SqL K H' a xs:=by
 rcases h with (q | ⟨o,q⟩) | q
 · exact .inl (.inl (u _ _ (c7 q hp (by intro z; cases z)) q))
 · exact .inl (.inr ⟨o,u _ _ (c7 q hp (by intro z; cases z)) q⟩)
 · exact .inr q
theorem hC.ins {row:Int} {vals:List Int} (h:hC K H a row vals) (hp:H p=some (.ins C dx fs)) (u:bD p H H'):hC K H' a row vals:=let ⟨va,h1,h2⟩:=h; ⟨va,h1.ins hp u,h2.ins hp u⟩
theorem ChO.ins {CC ch:Addr} {pr:PG.Prog} (c:ChO K CC H ch pr) (hp:H p=some (.ins C dx fs)) (n:ch≠p) (u:bD p H H'):ChO K CC H' ch pr:=by
 obtain ⟨dx,nl,sd,fa,va,st,wy,us,ws,h1,h2,h3,h4,h5,h6,h7,h8,h9,h10,h11,h12⟩:=c.at_
 have k:∀ {b:Addr} {o:HO},H b=some o→(∀ C dx fs,o≠.ins C dx fs)→H' b=some o:=fun e no=>u _ _ (c7 e hp (no _ _ _)) e
 exact ⟨⟨dx,nl,sd,fa,va,st,wy,us,ws,u _ _ n h1,k h2 (by intro _ _ _ z; cases z),k h3 (by intro _ _ _ z; cases z),k h4 (by intro _ _ _ z; cases z),k h5 (by intro _ _ _ z; cases z),k h6 (by intro _ _ _ z; cases z),h7,k h8 (by intro _ _ _ z; cases z),lA hp (bf.one u rfl) _ _ h9,h10,k h11 (by intro _ _ _ z; cases z),fun i hi=>let ⟨q,e,r⟩:=h12 i hi; ⟨q,e,r.ins hp u⟩⟩⟩
end
theorem O9 {tc:TT} {tb:TS} {D:Ends} {σ:St} {H:Hp} (h:∀ B:TS,(∀ D σ H,tb D σ H→B D σ H)→Fm tc B D σ H):Fm tc tb D σ H:=h tb fun _ _ _ x=>x
theorem hG {f:Str} {y:V}:∀ {fs:List (Str × V)} {n:Nat},fs.length≤n→(iU f y fs).length≤n + 1
 | [],n,h=>by simp [iU]
 | (g,x) :: r,n,h=>by
   unfold iU
   split
   · simp only [List.length_cons] at h ⊢
     lia
   · obtain ⟨m,rfl⟩:∃ m,n=m + 1:=⟨n - 1,by simp only [List.length_cons] at h; lia⟩
     have:=hG (f:=f) (y:=y) (fs:=r) (n:=m) (by simp only [List.length_cons] at h; lia)
     simp only [List.length_cons]
     lia
noncomputable def Jo:PG.eV→List V
 | .on=>[.str "on"]
 | .out=>[.str "out"]
 | .cL r=>[.str "must",.int r]
 | .fin=>[.str "end"]
noncomputable def AA (K:PySem.W.Frag) (H:Hp):Option PG.eV→V→Prop
 | none,v=>v=.non
 | some e,v=>∃ a,v=.ref a∧SqT K H a (Jo e)
theorem AA.mono {K:PySem.W.Frag} {H H':Hp} {e:Option PG.eV} {v:V} (h:AA K H e v) (s:aw H H'):AA K H' e v:=by
 cases e with
 | none=>exact h
 | some x=>obtain ⟨a,e,q⟩:=h; exact ⟨a,e,s.bC q⟩
theorem AA.ins {K:PySem.W.Frag} {H H':Hp} {p C dx:Addr} {fs:List (Str × V)} {e:Option PG.eV} {v:V} (h:AA K H e v) (hp:H p=some (.ins C dx fs)) (u:bD p H H'):AA K H' e v:=by
 cases e with
 | none=>exact h
 | some x=>obtain ⟨a,e,q⟩:=h; exact ⟨a,e,q.ins hp u⟩
noncomputable def wkF (ch fl:Addr) (n:Nat) (sa:Addr) (ev:V):List (Str × V):=[("chart",.ref ch),("figures",.ref fl),("taken",.int n),("standing",.ref sa),("end",ev)]
structure WkO (K:PySem.W.Frag) (CC CW:Addr) (H:Hp) (wk ch fl:Addr) (pr:PG.Prog) (aY:List Int) (n:Nat) (row:Int) (vals:List Int) (e:Option PG.eV):Prop where
 at_:∃ (dx sa:Addr) (ev:V),H wk=some (.ins CW dx (wkF ch fl n sa ev))∧hC K H sa row vals∧AA K H e ev
 ch_:ChO K CC H ch pr
 fl_:SqL K H fl (aY.map V.int)
 ne_:ch≠wk
theorem WkO.mono {K:PySem.W.Frag} {CC CW:Addr} {H H':Hp} {wk ch fl:Addr} {pr:PG.Prog} {aY:List Int} {n:Nat} {row:Int} {vals:List Int} {e:Option PG.eV} (h:WkO K CC CW H wk ch fl pr aY n row vals e) (s:aw H H'):WkO K CC CW H' wk ch fl pr aY n row vals e:=
 let ⟨dx,sa,ev,h1,h2,h3⟩:=h.at_
 ⟨⟨dx,sa,ev,s _ _ h1,h2.mono s,h3.mono s⟩,h.ch_.mono s,s.seq h.fl_,h.ne_⟩
theorem WkO.put {K:PySem.W.Frag} {CC CW:Addr} {H:Hp} {wk ch fl dx sa sa':Addr} {pr:PG.Prog} {aY:List Int} {n n':Nat} {row QY:Int} {vals NW:List Int} {e e':Option PG.eV} {ev ev':V} (h:WkO K CC CW H wk ch fl pr aY n row vals e) (hw:H wk=some (.ins CW dx (wkF ch fl n sa ev)))
   (hs:hC K H sa' QY NW) (he:AA K H e' ev'):WkO K CC CW (upd H wk (.ins CW dx (wkF ch fl n' sa' ev'))) wk ch fl pr aY n' QY NW e':=by
 have u:bD wk H (upd H wk (.ins CW dx (wkF ch fl n' sa' ev'))):=(bD.refl _ _).put _
 exact ⟨⟨dx,sa',ev',ae,hs.ins hw u,he.ins hw u⟩,h.ch_.ins hw h.ne_ u,h.fl_.ins hw u,h.ne_⟩
theorem WkO.lst {K:PySem.W.Frag} {CC CW:Addr} {H H':Hp} {wk ch fl rl:Addr} {pr:PG.Prog} {aY:List Int} {n:Nat} {row:Int} {vals:List Int} {e:Option PG.eV} {xs:List V} (h:WkO K CC CW H wk ch fl pr aY n row vals e) (hr:H rl=some (.lst xs)) (u:bD rl H H') (c:ChO K CC H' ch pr) (f:SqL K H' fl (aY.map V.int)):WkO K CC CW H' wk ch fl pr aY n row vals e:=by
 obtain ⟨dx,sa,ev,h1,⟨va,h2,h3⟩,h4⟩:=h.at_
 refine ⟨⟨dx,sa,ev,u _ _ (c7 h1 hr (by intro z; cases z)) h1,⟨va,h2.Cm hr u,h3.Cm hr u⟩,?_⟩,c,f,h.ne_⟩
 cases e with
 | none=>exact h4
 | some x=>obtain ⟨a,e,q⟩:=h4; exact ⟨a,e,q.Cm hr u⟩
noncomputable def Lv (b:List PG.Stm) (row:Int):PG.Stm:=((PG.aC b)[PG.MX b row]?).getD (.stop 0)
noncomputable def Nd (b:List PG.Stm) (row:Int):List Int:=(((PG.aU b 0)[PG.MX b row]?).map (·.2.2)).getD []
noncomputable def qV (b:List PG.Stm) (row:Int):Bool:=decide ((Lv b row).wd=.ask)
noncomputable def i9 (pr:PG.Prog) (row:Int) (vals:List Int) (f:Int):Option (Int × List Int) × Option Int:=i6 pr.aG (Lv pr.body row) (Nd pr.body row) vals f
theorem yg {b:List PG.Stm} (pw:(PG.aC b).Pairwise (fun a b=>a.row < b.row)) (i:Nat) (hi:i < (PG.aC b).length):Lv b (PG.aC b)[i].row=(PG.aC b)[i]:=by
 unfold Lv
 rw [PG.Ho pw i hi,List.getElem?_eq_getElem hi]
 rfl
theorem HE {b:List PG.Stm} (pw:(PG.aC b).Pairwise (fun a b=>a.row < b.row)) (i:Nat) (hi:i < (PG.aC b).length) (hf:i < (PG.aU b 0).length):Nd b (PG.aC b)[i].row=(PG.aU b 0)[i].2.2:=by
 unfold Nd
 rw [PG.Ho pw i hi,List.getElem?_eq_getElem hf]
 rfl
theorem yZ (pr:PG.Prog) (row:Int) (vals:List Int) (f:Int) (h:(i9 pr row vals f).1=none):(i9 pr row vals f).2=none:=by
 unfold i9 at h ⊢
 generalize Lv pr.body row=st at *
 generalize Nd pr.body row=ws at *
 have no:∀ y:Int × List Int,¬ (some y=none):=fun y e=>by cases e
 cases st
 · exact absurd h (no _)
 · exact absurd h (no _)
 · exact absurd h (no _)
 · rfl
 · rfl
 · rfl
 · rfl
structure wt (pr:PG.Prog) (row:Int) (vals:List Int):Prop where
 row:row=0∨∃ i,∃ hi:i < (PG.aC pr.body).length,(PG.aC pr.body)[i].row=row
 len:vals.length=pr.aG.length
 small:∀ v∈vals,v.natAbs≤2 ^ 12
structure Co (pr:PG.Prog):Prop where
 ok:Jk pr
 dep:PG.fV pr.body≤3
 few:(PG.cE pr.body).length≤1000
 own:PG.OkB (·∈pr.aG.map (·.name)) (fun e=>PG.i7 pr.aG e∧PG.trd e≤2) (·∈PG.sgs) pr.body
 size:∀ b∈pr.aG,2≤b.size∧b.size≤10∧0≤b.first∧b.first < b.size
theorem HF {pr:PG.Prog} {w:Int} (h:w=0∨w=0∨∃ t∈PG.aC pr.body,t.row=w):w=0∨∃ i,∃ hi:i < (PG.aC pr.body).length,(PG.aC pr.body)[i].row=w:=by
 rcases h with h | h | ⟨t,ht,e⟩
 · exact .inl h
 · exact .inl h
 · obtain ⟨i,hi,e2⟩:=List.mem_iff_getElem.mp ht
   exact .inr ⟨i,hi,by rw [e2]; exact e⟩
theorem Co.first {pr:PG.Prog} (d:Co pr):wt pr (PG.aQ pr.body 0) (pr.aG.map (·.first)):=by
 refine ⟨HF (.inr ?_),by simp,fun v hv=>?_⟩
 · rcases PG.oN pr.body 0 with e | e
   · exact .inl e
   · exact .inr e
 · obtain ⟨b,hb,rfl⟩:=List.mem_map.mp hv
   have:=d.size b hb
   lia
theorem Lw {pr:PG.Prog} (d:Co pr) {x:W} (h:x∈pr.aG.map (·.name)):2≤fD pr.aG x∧fD pr.aG x≤10:=by
 obtain ⟨hx,_⟩:=lG h
 unfold fD
 rw [List.getElem?_eq_getElem hx]
 have:=d.size _ (List.getElem_mem hx)
 exact ⟨this.1,this.2.1⟩
theorem wt.step {pr:PG.Prog} (d:Co pr) {i:Nat} (hi:i < (PG.aC pr.body).length) (hf:i < (PG.aU pr.body 0).length) {vals:List Int} {f:Int} (lv:vals.length=pr.aG.length) (sm:∀ v∈vals,v.natAbs≤2 ^ 12) {x:Int × List Int} {s:Option Int}
   (h:i6 pr.aG (PG.aC pr.body)[i] (PG.aU pr.body 0)[i].2.2 vals f=(some x,s)):wt pr x.1 x.2:=by
 have Lx:=PG.l9 pr.body _ d.own (List.getElem_mem hi)
 obtain ⟨w0,w1⟩:=PG.iw pr.body 0 _ (List.getElem_mem hf)
 have win:=PG.oO pr.body 0 _ (List.getElem_mem hf)
 obtain ⟨_,_,ew⟩:=lF pr.body i hi
 rw [ew] at w1
 generalize (PG.aU pr.body 0)[i].2.2=ws at *
 generalize (PG.aC pr.body)[i]=st at *
 have r0:∀ j,j < ws.length→ws.getD j 0=0∨∃ i,∃ hi:i < (PG.aC pr.body).length,(PG.aC pr.body)[i].row=ws.getD j 0:=fun j hj=>by
   rw [List.getD_eq_getElem?_getD,List.getElem?_eq_getElem hj]
   exact HF (win _ (List.getElem_mem hj))
 have set:∀ (b:W) (z:Int),b∈pr.aG.map (·.name)→(Az pr.aG vals b (z % fD pr.aG b)).length=pr.aG.length∧∀ v∈Az pr.aG vals b (z % fD pr.aG b),v.natAbs≤2 ^ 12:=fun b z hb=>by
   unfold Az
   refine ⟨by rw [List.length_set]; exact lv,fun v hv=>?_⟩
   rcases List.mem_or_eq_of_mem_set hv with hv | rfl
   · exact sm v hv
   · have:=Lw d hb
     have m1:=Int.emod_nonneg z (b:=fD pr.aG b) (by lia)
     have m2:=Int.emod_lt_of_pos z (b:=fD pr.aG b) (by lia)
     lia
 have cs:jH pr.aG st ws vals=some x→(st.wd=.cL∨st.wd=.ifs∨st.wd=.whl)→wt pr x.1 x.2:=by
   intro e hw
   unfold jH at e
   split at e
   · cases e
   · split at e
     · cases e; exact ⟨r0 0 w0,lv,sm⟩
     · split at e
       · cases e
       · rename_i nm
         cases e; exact ⟨r0 1 (w1 (hw.resolve_left nm)),lv,sm⟩
 have st1:∀ (y:Int × List Int) (s':Option Int),(some y,s')=(some x,s)→wt pr y.1 y.2→wt pr x.1 x.2:=fun y s' e h=>by cases e; exact h
 cases st <;> rw [PG.OkS] at Lx
 · exact st1 _ _ h ⟨r0 0 w0,(set _ _ Lx).1,(set _ _ Lx).2⟩
 · exact st1 _ _ h ⟨r0 0 w0,(set _ _ Lx.1).1,(set _ _ Lx.1).2⟩
 · exact st1 _ _ h ⟨r0 0 w0,lv,sm⟩
 · exact cs (congrArg Prod.fst h) (.inl rfl)
 · exact st1 _ _ h ⟨r0 0 w0,lv,sm⟩
 · exact cs (congrArg Prod.fst h) (.inr (.inl rfl))
 · exact cs (congrArg Prod.fst h) (.inr (.inr rfl))
noncomputable abbrev goR (pr:PG.Prog):=PG.go1 (qV pr.body) (i9 pr)
noncomputable abbrev hJ (pr:PG.Prog):=PG.ran (qV pr.body) (i9 pr)
theorem Et {pr:PG.Prog} {row f:Int} {vals left r:List Int} {s:Option Int} (ht:PG.take1 (qV pr.body row) left=some (f,r)) (hs:i9 pr row vals f=(none,s)):goR pr row vals left=(s,r,row,vals,some (.cL row)):=by
 show PG.go1 _ _ _ _ _=_
 unfold PG.go1
 rw [ht]
 simp only [hs]
theorem Eu {pr:PG.Prog} {row f:Int} {vals left r:List Int} {s:Option Int} {x:Int × List Int} (ht:PG.take1 (qV pr.body row) left=some (f,r)) (hs:i9 pr row vals f=(some x,s)):goR pr row vals left=(s,r,x.1,x.2,PG.endAt x.1):=by
 show PG.go1 _ _ _ _ _=_
 unfold PG.go1
 rw [ht]
 simp only [hs]
theorem HG {pr:PG.Prog} {row:Int} {vals left:List Int} (ht:PG.take1 (qV pr.body row) left=none):goR pr row vals left=(none,left,row,vals,some .out):=by
 show PG.go1 _ _ _ _ _=_
 unfold PG.go1
 rw [ht]
noncomputable def y0 (pr:PG.Prog) (aY:List Int) (tot:PG.Ran) (m n:Nat) (row:Int) (vals r s:List Int):Option PG.eV→Prop
 | none=>row≠0∧wt pr row vals∧tot=⟨r ++ (hJ pr m row vals (aY.drop n)).rows,s ++ (hJ pr m row vals (aY.drop n)).uv,(hJ pr m row vals (aY.drop n)).fin⟩
 | some e=>tot=⟨r,s,e⟩
theorem y0.start {pr:PG.Prog} (d:Co pr) (aY:List Int) (bound:Nat):y0 pr aY (hJ pr bound (PG.aQ pr.body 0) (pr.aG.map (·.first)) aY) bound 0 (PG.aQ pr.body 0) (pr.aG.map (·.first)) [] [] (PG.endAt (PG.aQ pr.body 0)):=by
 unfold PG.endAt
 by_cases h:PG.aQ pr.body 0=0
 · rw [if_pos h]
   show hJ pr bound _ _ aY=_
   rw [h]
   exact PG.Ei _ _ _ _ _
 · rw [if_neg h]
   exact ⟨h,d.first,by simp⟩
theorem y0.go {pr:PG.Prog} {aY:List Int} {tot:PG.Ran} {m n n':Nat} {row:Int} {vals r s:List Int} (h:y0 pr aY tot (m + 1) n row vals r s none) (hd:aY.drop n'=(goR pr row vals (aY.drop n)).2.1) (ok:wt pr (goR pr row vals (aY.drop n)).2.2.1 (goR pr row vals (aY.drop n)).2.2.2.1) :
   y0 pr aY tot m n' (goR pr row vals (aY.drop n)).2.2.1 (goR pr row vals (aY.drop n)).2.2.2.1 (r ++ [row]) (s ++ (goR pr row vals (aY.drop n)).1.toList) (goR pr row vals (aY.drop n)).2.2.2.2:=by
 obtain ⟨h0,_,e⟩:=h
 simp only [goR,hJ] at *
 rw [PG.OY _ _ (yZ pr) h0] at e
 have ne:=fun z=>PG.OZ (qV pr.body) (i9 pr) (row:=row) (vals:=vals) (left:=aY.drop n) z
 generalize PG.go1 (qV pr.body) (i9 pr) row vals (aY.drop n)=g at *
 obtain ⟨g1,g2,g3,g4,g5⟩:=g
 cases g5 with
 | none=>
   refine ⟨ne rfl,ok,?_⟩
   simp only at e hd
   rw [e,hd]
   simp
 | some x=>
   show tot=_
   rw [e]
section
variable (K:PySem.W.Frag) (CC CW:Addr)
noncomputable def Ly:Sp:=fun vs H Q _=>∃ (wk dx ch fl:Addr) (pr:PG.Prog) (aY:List Int),vs=[.ref wk,.ref ch,.ref fl]∧H wk=some (.ins CW dx [])∧ChO K CC H ch pr∧SqL K H fl (aY.map V.int)∧
 ∀ H',bD wk H H'→WkO K CC CW H' wk ch fl pr aY 0 (PG.aQ pr.body 0) (pr.aG.map (·.first)) (PG.endAt (PG.aQ pr.body 0))→Q .non H'
noncomputable def Lz:Sp:=fun vs H Q _=>∃ (wk ch fl:Addr) (pr:PG.Prog) (aY:List Int) (n:Nat) (row:Int) (vals:List Int),vs=[.ref wk]∧WkO K CC CW H wk ch fl pr aY n row vals none∧
 ∀ H',bD wk H H'→WkO K CC CW H' wk ch fl pr aY n row vals (PG.endAt row)→Q .non H'
noncomputable def Nf:Sp:=fun vs H Q _=>∃ (wk ch fl:Addr) (pr:PG.Prog) (aY:List Int) (n:Nat) (vals:List Int) (e:Option PG.eV) (i:Nat) (hi:i < (PG.aC pr.body).length),vs=[.ref wk]∧Jk pr∧WkO K CC CW H wk ch fl pr aY n (PG.aC pr.body)[i].row vals e∧
 Q (.bl (decide ((PG.aC pr.body)[i].wd=.ask))) H
noncomputable def Pa:Sp:=fun vs H Q _=>∃ (wk ch fl:Addr) (pr:PG.Prog) (aY:List Int) (n:Nat) (row:Int) (vals:List Int),vs=[.ref wk]∧Co pr∧WkO K CC CW H wk ch fl pr aY n row vals none∧row≠0∧wt pr row vals∧n≤aY.length∧aY.length≤1000∧
 ∀ H' n',bD wk H H'→n'≤aY.length→aY.drop n'=(goR pr row vals (aY.drop n)).2.1→WkO K CC CW H' wk ch fl pr aY n' (goR pr row vals (aY.drop n)).2.2.1 (goR pr row vals (aY.drop n)).2.2.2.1 (goR pr row vals (aY.drop n)).2.2.2.2→
   wt pr (goR pr row vals (aY.drop n)).2.2.1 (goR pr row vals (aY.drop n)).2.2.2.1→Q (nC (goR pr row vals (aY.drop n)).1) H'
noncomputable def xl (H:Hp) (q:Addr) (o:PG.Ran):Prop:=∃ (r s e:Addr),SqT K H q [.ref r,.ref s,.ref e]∧H r=some (.lst (o.rows.map V.int))∧H s=some (.lst (o.uv.map V.int))∧r≠s∧SqT K H e (Jo o.fin)
noncomputable def QZ:Sp:=fun vs H Q _=>∃ (v:V) (fl:Addr) (pr:PG.Prog) (aY:List Int) (bound:Nat),vs=[v,.ref fl,.int bound]∧Co pr∧Rep K H (kA pr) v∧SqL K H fl (aY.map V.int)∧aY.length≤1000∧bound≤1000∧
 ∀ q r s e H',aw H H'→SqT K H' q [.ref r,.ref s,.ref e]→H r=none→H s=none→r≠s→H' r=some (.lst ((hJ pr bound (PG.aQ pr.body 0) (pr.aG.map (·.first)) aY).rows.map V.int))→H' s=some (.lst ((hJ pr bound (PG.aQ pr.body 0) (pr.aG.map (·.first)) aY).uv.map V.int))→
   SqT K H' e (Jo (hJ pr bound (PG.aQ pr.body 0) (pr.aG.map (·.first)) aY).fin)→Q (.ref q) H'
noncomputable def LA:Sp:=fun vs H Q _=>∃ (pa R fl:Addr) (pr:PG.Prog) (rows:List PG.Row) (aY:List Int) (bound:Nat),vs=[.ref pa,.ref R,.ref fl,.int bound]∧Co pr∧Rep K H (kA pr) (.ref pa)∧Rep K H (.lst (rows.map lh)) (.ref R)∧rows.length≤1000∧PG.cB pr.body rows∧SqL K H fl (aY.map V.int)∧aY.length≤1000∧bound≤1000∧
 ∀ q r s e H',aw H H'→SqT K H' q [.ref r,.ref s,.ref e]→H r=none→H s=none→r≠s→H' r=some (.lst ((hJ pr bound (PG.aQ pr.body 0) (pr.aG.map (·.first)) aY).rows.map V.int))→H' s=some (.lst ((hJ pr bound (PG.aQ pr.body 0) (pr.aG.map (·.first)) aY).uv.map V.int))→
   SqT K H' e (Jo (hJ pr bound (PG.aQ pr.body 0) (pr.aG.map (·.first)) aY).fin)→Q (.ref q) H'
end
theorem SqT.dk {K:PySem.W.Frag} {H H':Hp} {D a:Addr} {xs:List V} {kvs:List (Key × V)} (h:SqT K H a xs) (hD:H D=some (.dK kvs)) (u:bD D H H'):SqT K H' a xs:=by
 rcases h with (q | ⟨o,q⟩) | q
 · exact .inl (.inl (u _ _ (c7 q hD (by intro z; cases z)) q))
 · exact .inl (.inr ⟨o,u _ _ (c7 q hD (by intro z; cases z)) q⟩)
 · exact .inr q
theorem hC.Cm {K:PySem.W.Frag} {H H':Hp} {D a:Addr} {ys:List V} {row:Int} {vals:List Int} (h:hC K H a row vals) (hD:H D=some (.lst ys)) (u:bD D H H'):hC K H' a row vals:=let ⟨va,h1,h2⟩:=h; ⟨va,h1.Cm hD u,h2.Cm hD u⟩
theorem F9 {K:PySem.W.Frag} {D Dk S:Addr} {n:Nat} {te:TE} {Q:VK} {r:St} {H:Hp} {sc:List Int} {p:Nat} (ok:Int→Prop) (hl:n≤16000000) (hD:H D=none) (dk:g7 K H Dk S sc p)
   (step:∀ (i:Nat) x H2,i < n→bD Dk H H2→g7 K H2 Dk S sc (p + i)→∀ R:VK,(∀ m H3,ok m→bD Dk H2 H3→g7 K H3 Dk S sc (p + i + 1)→R (.int m) H3)→te (some x :: r) H2 R)
   (q:∀ (ns:List Int) H2,ns.length=n→(∀ m∈ns,ok m)→bD Dk H H2→g7 K H2 Dk S sc (p + n)→H2 D=some (.lst (ns.map V.int))→Q (.ref D) H2) :
   yA (Itr 0 n) D (gh 0) FH te Q (none :: r) (upd H D (.lst [])):=by
 have nD:D≠Dk:=fun z=>by rw [z,dk.bG] at hD; cases hD
 have nS:S≠D:=fun z=>by have:=dk.fI; rw [z,hD] at this; cases this
 have dkp:∀ {H2:Hp} {j:Nat} {o:HO},g7 K H2 Dk S sc j→g7 K (upd H2 D o) Dk S sc j:=fun d=>⟨by rw [az nD.symm]; exact d.bG,by rw [az nS]; exact d.fI,d.ne,d.len⟩
 have Q0:∀ {H2:Hp} {o:HO},bD Dk H H2→bD Dk H (upd H2 D o):=fun u b w n e=>by rw [az (ao e hD)]; exact u b w n e
 refine ⟨fun i m τ H2=>m=n - i∧i≤n∧(∃ x,τ=x :: r)∧bD Dk H H2∧g7 K H2 Dk S sc (p + i)∧∃ ns:List Int,H2 D=some (.lst (ns.map V.int))∧ns.length=i∧∀ m∈ns,ok m,⟨n,by simp,Nat.zero_le _,⟨none,rfl⟩,Q0 (.of (aw.refl _)),dkp dk,[],ae,rfl,fun m z=>by simp at z⟩,?_⟩
 rintro i m τ H2 ⟨rfl,hi,⟨x,rfl⟩,u2,d2,ns,h2,ly,p2⟩
 by_cases hlt:i < n
 · refine .inr ⟨hlt,fun τ' H'=>(∃ x,τ'=x :: r)∧bD Dk H H'∧g7 K H' Dk S sc (p + i + 1)∧∃ ns:List Int,H' D=some (.lst (ns.map V.int))∧ns.length=i + 1∧∀ m∈ns,ok m,fun τ' H' ⟨h1,h3,h4,h5⟩=>⟨n - (i + 1),by lia,rfl,hlt,h1,h3,h4,h5⟩,fun y H' hy=>?_⟩
   obtain ⟨rfl,rfl⟩:=hy
   simp only [gh,List.set,FH]
   rw [if_pos trivial]
   refine step i _ _ hlt u2 d2 _ fun v H3 hv u3 d3=>⟨ns.map V.int,u3 _ _ nD h2,?_,⟨_,rfl⟩,Q0 (u2.trans u3),dkp d3,ns ++ [v],by rw [List.map_append]; exact ae,by simp [ly],fun m hm=>?_⟩
   · have:sizeLine=2 ^ 24:=rfl
     rw [List.length_map]
     lia
   · rcases List.mem_append.mp hm with hm | hm
     · exact p2 m hm
     · rw [List.mem_singleton.mp hm]
       exact hv
 · have e:i=n:=by lia
   subst e
   exact .inl ⟨Nat.le_refl _,q ns H2 ly p2 u2 d2 h2⟩
noncomputable def xm:PG.eV→List Dp
 | .on=>[.str "on"]
 | .out=>[.str "out"]
 | .cL r=>[.str "must",.int r]
 | .fin=>[.str "end"]
noncomputable def HH (o:PG.Ran):Dp:=.tup [.lst (o.rows.map Dp.int),.lst (o.uv.map Dp.int),.tup (xm o.fin)]
theorem za {K:PySem.W.Frag} {H:Hp} (e:PG.eV):aS K H (xm e) (Jo e):=by
 cases e
 · exact .cons (Rep.bF.mpr rfl) .nil
 · exact .cons (Rep.bF.mpr rfl) .nil
 · exact .cons (Rep.bF.mpr rfl) (.cons (Rep.bE.mpr rfl) .nil)
 · exact .cons (Rep.bF.mpr rfl) .nil
theorem lH {K:PySem.W.Frag} {H:Hp} {r:Addr} {l:List Int} (h:SqL K H r (l.map V.int)):Rep K H (.lst (l.map Dp.int)) (.ref r):=Rep.bR.mpr ⟨r,_,rfl,h,Bw l⟩
theorem qL {K:PySem.W.Frag} {H:Hp} {q:Addr} {o:PG.Ran} (h:xl K H q o):Rep K H (HH o) (.ref q):=by
 obtain ⟨r,s,e,h1,h2,h3,_,h5⟩:=h
 unfold HH
 exact Rep.bj.mpr ⟨q,_,rfl,h1,.cons (lH (.of h2)) (.cons (lH (.of h3)) (.cons (Rep.bj.mpr ⟨e,_,rfl,h5,za _⟩) .nil))⟩
theorem HI (e:PG.eV):PyData.canLayAll0 (Dp.pys (xm e))=true∧PyData.depthAll (Dp.pys (xm e))=0:=by
 cases e <;> simp only [xm,Dp.pys,Dp.py,PyData.canLayAll0,PyData.canLay0,PyData.depthAll,PyData.depth] <;> exact ⟨by decide +kernel,rfl⟩
theorem qM (o:PG.Ran):SeqAt.shaped (HH o).py=true:=by
 obtain ⟨h1,h2⟩:=yf o.rows
 obtain ⟨h3,h4⟩:=yf o.uv
 obtain ⟨h5,h6⟩:=HI o.fin
 unfold SeqAt.shaped HH
 simp only [Dp.py,Dp.pys,PyData.canLay0,PyData.canLayAll0,PyData.depth,PyData.depthAll,h1,h2,h3,h4,h5,h6,Bool.and_true,Bool.true_and,decide_eq_true_iff]
 lia
theorem uz (l:List Int):SeqAt.shaped (Dp.lst (l.map Dp.int)).py=true:=by
 obtain ⟨h1,h2⟩:=yf l
 unfold SeqAt.shaped
 simp only [Dp.py,Dp.pys,PyData.canLay0,PyData.canLayAll0,PyData.depth,PyData.depthAll,h1,h2,Bool.and_true,Bool.true_and,decide_eq_true_iff]
 lia
theorem Ew (e:PG.eV):SeqAt.shaped (Dp.tup (xm e)).py=true:=by
 obtain ⟨h1,h2⟩:=HI e
 unfold SeqAt.shaped
 simp only [Dp.py,PyData.canLay0,PyData.depth,h1,h2,Bool.and_true,Bool.true_and,decide_eq_true_iff]
 lia
theorem xl.mono {K:PySem.W.Frag} {H H':Hp} {q:Addr} {o:PG.Ran} (h:xl K H q o) (s:aw H H'):xl K H' q o:=let ⟨r,t,e,h1,h2,h3,h4,h5⟩:=h; ⟨r,t,e,s.bC h1,s _ _ h2,s _ _ h3,h4,s.bC h5⟩
noncomputable def Ng (K:PySem.W.Frag):Sp:=fun vs H Q _=>∃ (f d:Addr) (o:PG.Ran),vs=[.ref f,.ref d]∧xl K H f o∧xl K H d o∧o.rows.length≤1000∧o.uv.length≤1000∧∀ H',aw H H'→Q (.bl true) H'
end L2
section
set_option maxHeartbeats 4000000
namespace K16
open PySem L2
noncomputable def top (i:Nat):Stmt:=PySem.Challenge.pw_everyrow_k16_whole_runs_by_rows.main.body.getD i (.Pass ⟨0,0,0,0⟩)
noncomputable abbrev mh:Stmt:=top 2
noncomputable abbrev cF:Stmt:=top 3
noncomputable abbrev d7:Stmt:=top 4
noncomputable abbrev cO:Stmt:=top 5
noncomputable abbrev fW:Stmt:=top 6
noncomputable abbrev d9:Stmt:=top 7
noncomputable abbrev cw:Stmt:=top 8
noncomputable abbrev jr:Stmt:=top 10
noncomputable abbrev fX:Stmt:=top 13
noncomputable abbrev e8:Stmt:=top 14
noncomputable abbrev fc:Stmt:=top 15
noncomputable abbrev js:Stmt:=top 16
noncomputable abbrev uB:Stmt:=top 18
noncomputable abbrev fY:Stmt:=top 20
noncomputable abbrev bS:Stmt:=top 21
noncomputable abbrev eu:Stmt:=top 23
noncomputable abbrev hV:Stmt:=top 24
noncomputable abbrev dc:Stmt:=top 25
noncomputable abbrev de:Stmt:=top 26
noncomputable abbrev df:Stmt:=top 27
noncomputable abbrev cP:Stmt:=top 28
noncomputable abbrev cG:Stmt:=top 29
noncomputable abbrev eA:Stmt:=top 30
noncomputable abbrev fZ:Stmt:=top 31
noncomputable abbrev eB:Stmt:=top 32
noncomputable abbrev b4:Stmt:=top 33
noncomputable abbrev dg:Stmt:=top 34
noncomputable abbrev cH:Stmt:=top 35
noncomputable abbrev cQ:Stmt:=top 36
noncomputable abbrev eC:Stmt:=top 37
noncomputable abbrev uC:Stmt:=top 38
noncomputable abbrev dh:Stmt:=inClass (top 12) 0
noncomputable abbrev eD:Stmt:=inClass (top 19) 0
noncomputable abbrev bI:Stmt:=inClass (top 19) 1
noncomputable abbrev cg:Stmt:=inClass (top 19) 2
noncomputable abbrev di:Stmt:=inClass (top 19) 3
theorem HJ:bu ["program"] ["program"] (aq mh):=⟨rfl,rfl,rfl,by decide +kernel,rfl,by decide +kernel,by decide +kernel⟩
theorem nE:bu ["body", "behind", "told", "place", "statement", "after", "inner"] ["body", "behind"] (aq cF):=⟨rfl,rfl,rfl,by decide +kernel,rfl,by decide +kernel,by decide +kernel⟩
theorem uF:bu ["body", "behind"] ["body", "behind"] (aq d7):=⟨rfl,rfl,rfl,by decide +kernel,rfl,by decide +kernel,by decide +kernel⟩
theorem oW:bu ["statement", "after"] ["statement", "after"] (aq cO):=⟨rfl,rfl,rfl,by decide +kernel,rfl,by decide +kernel,by decide +kernel⟩
theorem zb:bu ["statement", "after", "word"] ["statement", "after"] (aq fW):=⟨rfl,rfl,rfl,by decide +kernel,rfl,by decide +kernel,by decide +kernel⟩
theorem uG:bu ["statement"] ["statement"] (aq d9):=⟨rfl,rfl,rfl,by decide +kernel,rfl,by decide +kernel,by decide +kernel⟩
theorem lI:bu ["body", "found", "statement", "inner"] ["body"] (aq cw):=⟨rfl,rfl,rfl,by decide +kernel,rfl,by decide +kernel,by decide +kernel⟩
theorem Ex:bu ["e", "values", "kind", "left", "right"] ["e", "values"] (aq jr):=⟨rfl,rfl,rfl,by decide +kernel,rfl,by decide +kernel,by decide +kernel⟩
theorem zc:bu ["chart", "row"] ["chart", "row"] (aq fX):=⟨rfl,rfl,rfl,by decide +kernel,rfl,by decide +kernel,by decide +kernel⟩
theorem xn:bu ["chart", "parts"] ["chart", "parts"] (aq e8):=⟨rfl,rfl,rfl,by decide +kernel,rfl,by decide +kernel,by decide +kernel⟩
theorem xo:bu ["chart", "named"] ["chart", "named"] (aq fc):=⟨rfl,rfl,rfl,by decide +kernel,rfl,by decide +kernel,by decide +kernel⟩
theorem Ey:bu ["chart", "standing", "statement", "values", "left", "right"] ["chart", "standing"] (aq js):=⟨rfl,rfl,rfl,by decide +kernel,rfl,by decide +kernel,by decide +kernel⟩
theorem LB:bu ["program", "figures", "bound", "walk", "rows", "said", "number"] ["program", "figures", "bound"] (aq uB):=⟨rfl,rfl,rfl,by decide +kernel,rfl,by decide +kernel,by decide +kernel⟩
theorem zd:bu ["chart", "standing", "figure", "row", "statement", "word", "values", "said"] ["chart", "standing", "figure"] (aq fY):=⟨rfl,rfl,rfl,by decide +kernel,rfl,by decide +kernel,by decide +kernel⟩
theorem ja:bu ["chart", "standing", "row"] ["chart", "standing"] (aq bS):=⟨rfl,rfl,rfl,by decide +kernel,rfl,by decide +kernel,by decide +kernel⟩
theorem uH:bu ["deck", "at", "many", "cell", "j", "number"] ["deck"] (aq eu):=⟨rfl,rfl,rfl,by decide +kernel,rfl,by decide +kernel,by decide +kernel⟩
theorem Bx:bu ["deck", "boxes", "deep", "kind", "one"] ["deck", "boxes", "deep"] (aq hV):=⟨rfl,rfl,rfl,by decide +kernel,rfl,by decide +kernel,by decide +kernel⟩
theorem rn:bu ["deck", "found", "spin", "k", "size"] ["deck"] (aq dc):=⟨rfl,rfl,rfl,by decide +kernel,rfl,by decide +kernel,by decide +kernel⟩
theorem rq:bu ["deck", "boxes", "k", "kind", "sign"] ["deck", "boxes", "k"] (aq de):=⟨rfl,rfl,rfl,by decide +kernel,rfl,by decide +kernel,by decide +kernel⟩
theorem rA:bu ["pile", "kind", "body", "head", "first", "told"] ["pile"] (aq df):=⟨rfl,rfl,rfl,by decide +kernel,rfl,by decide +kernel,by decide +kernel⟩
theorem oX:bu ["boxes", "rows", "mode"] ["boxes", "rows", "mode"] (aq cP):=⟨rfl,rfl,rfl,by decide +kernel,rfl,by decide +kernel,by decide +kernel⟩
theorem nF:bu ["deck", "many", "boxes", "pile", "rows", "mode", "turn", "k", "way", "kind", "body", "head", "first", "word", "condition"] ["deck", "many"] (aq cG):=⟨rfl,rfl,rfl,by decide +kernel,rfl,by decide +kernel,by decide +kernel⟩
theorem uI:bu ["rows", "matches", "opened", "at", "word"] ["rows"] (aq eA):=⟨rfl,rfl,rfl,by decide +kernel,rfl,by decide +kernel,by decide +kernel⟩
theorem ze:bu ["rows", "matches", "at", "word"] ["rows", "matches", "at"] (aq fZ):=⟨rfl,rfl,rfl,by decide +kernel,rfl,by decide +kernel,by decide +kernel⟩
theorem uJ:bu ["rows", "matches", "found", "at", "row", "word", "near", "other"] ["rows"] (aq eB):=⟨rfl,rfl,rfl,by decide +kernel,rfl,by decide +kernel,by decide +kernel⟩
theorem jI:bu ["body", "found", "one", "part"] ["body"] (aq b4):=⟨rfl,rfl,rfl,by decide +kernel,rfl,by decide +kernel,by decide +kernel⟩
theorem rC:bu ["e", "values", "one", "other"] ["e", "values"] (aq dg):=⟨rfl,rfl,rfl,by decide +kernel,rfl,by decide +kernel,by decide +kernel⟩
theorem nG:bu ["boxes", "statement", "ways", "values", "figure", "names", "known", "word", "number", "at", "one", "other"] ["boxes", "statement", "ways", "values", "figure"] (aq cH):=⟨rfl,rfl,rfl,by decide +kernel,rfl,by decide +kernel,by decide +kernel⟩
theorem oY:bu ["program", "rows", "figures", "bound", "ways", "row", "word", "some", "statements", "standing", "begun", "said", "left", "figure", "number"] ["program", "rows", "figures", "bound"] (aq cQ):=⟨rfl,rfl,rfl,by decide +kernel,rfl,by decide +kernel,by decide +kernel⟩
theorem uK:bu ["found", "due"] ["found", "due"] (aq eC):=⟨rfl,rfl,rfl,by decide +kernel,rfl,by decide +kernel,by decide +kernel⟩
theorem LC:bu ["script", "deck", "program", "rows", "figures", "k", "some", "bound", "due", "handed", "found"] ["script"] (aq uC):=⟨rfl,rfl,rfl,by decide +kernel,rfl,by decide +kernel,by decide +kernel⟩
theorem rD:bu ["self", "program", "boxes", "body"] ["self", "program"] (aq dh):=⟨rfl,rfl,rfl,by decide +kernel,rfl,by decide +kernel,by decide +kernel⟩
theorem uL:bu ["self", "chart", "figures"] ["self", "chart", "figures"] (aq eD):=⟨rfl,rfl,rfl,by decide +kernel,rfl,by decide +kernel,by decide +kernel⟩
theorem iN:bu ["self"] ["self"] (aq bI):=⟨rfl,rfl,rfl,by decide +kernel,rfl,by decide +kernel,by decide +kernel⟩
theorem kc:bu ["self"] ["self"] (aq cg):=⟨rfl,rfl,rfl,by decide +kernel,rfl,by decide +kernel,by decide +kernel⟩
theorem rE:bu ["self", "figure", "told"] ["self"] (aq di):=⟨rfl,rfl,rfl,by decide +kernel,rfl,by decide +kernel,by decide +kernel⟩
set_option genInjectivity false in
structure Ad where
 mm:Addr
 yh:FuncData
 cI:Addr
 gC:FuncData
 cV:Addr
 gb:FuncData
 dy:Addr
 jJ:FuncData
 gP:Addr
 tf:FuncData
 eE:Addr
 jt:FuncData
 bU:Addr
 dF:FuncData
 ju:Addr
 uM:FuncData
 iz:Addr
 zf:FuncData
 gG:Addr
 xp:FuncData
 gH:Addr
 xq:FuncData
 mn:Addr
 Ez:FuncData
 zg:Addr
 LD:FuncData
 iA:Addr
 zh:FuncData
 cy:Addr
 jb:FuncData
 cW:Addr
 gc:FuncData
 hX:Addr
 qN:FuncData
 fe:Addr
 rF:FuncData
 ff:Addr
 rG:FuncData
 fh:Addr
 rH:FuncData
 eK:Addr
 oZ:FuncData
 dM:Addr
 nH:FuncData
 fM:Addr
 uN:FuncData
 iB:Addr
 zi:FuncData
 fN:Addr
 uO:FuncData
 b5:Addr
 fj:FuncData
 dq:Addr
 iI:FuncData
 dN:Addr
 nI:FuncData
 eL:Addr
 o7:FuncData
 fO:Addr
 uP:FuncData
 By:Addr
 Ga:FuncData
 du:Addr
 kB:FuncData
 eG:Addr
 mq:FuncData
 bJ:Addr
 fP:FuncData
 ck:Addr
 hZ:FuncData
 dv:Addr
 kC:FuncData
 aX:Addr
 b3:Addr
set_option genInjectivity false in
structure Tx (K:PySem.W.Frag) (mg:Str→Option Value) (t:Ad):Prop where
 Cp:dG K mg "flow" mh ["program"] t.mm t.yh
 dO:dG K mg "flow_of_body" cF ["body", "behind"] t.cI t.gC
 bY:dG K mg "first_row" d7 ["body", "behind"] t.cV t.gb
 iJ:dG K mg "behind_body" cO ["statement", "after"] t.dy t.jJ
 qO:dG K mg "ways_of" fW ["statement", "after"] t.gP t.tf
 fQ:dG K mg "bodies_in" d9 ["statement"] t.eE t.jt
 c5:dG K mg "statements_in" cw ["body"] t.bU t.dF
 dw:dG K mg "worth" jr ["e", "values"] t.ju t.uM
 iC:dG K mg "word_at" fX ["chart", "row"] t.iz t.zf
 gI:dG K mg "by_names" e8 ["chart", "parts"] t.gG t.xp
 mv:dG K mg "in_order" fc ["chart", "named"] t.gH t.xq
 yi:dG K mg "holds" js ["chart", "standing"] t.mn t.Ez
 lJ:dG K mg "run" uB ["program", "figures", "bound"] t.zg t.LD
 qP:dG K mg "step_by" fY ["chart", "standing", "figure"] t.iA t.zh
 fk:dG K mg "behind_condition" bS ["chart", "standing"] t.cy t.jb
 ay:dG K mg "_law_next" eu ["deck"] t.cW t.gc
 bV:dG K mg "_law_e" hV ["deck", "boxes", "deep"] t.hX t.qN
 jv:dG K mg "_law_boxes" dc ["deck"] t.fe t.rF
 jw:dG K mg "_law_plain" de ["deck", "boxes", "k"] t.ff t.rG
 fo:dG K mg "_law_close" df ["pile"] t.fh t.rH
 eM:dG K mg "_law_number" cP ["boxes", "rows", "mode"] t.eK t.oZ
 ia:dG K mg "_law_program" cG ["deck", "many"] t.dM t.nH
 fS:dG K mg "_law_ends" eA ["rows"] t.fM t.uN
 fH:dG K mg "_law_to" fZ ["rows", "matches", "at"] t.iB t.zi
 ke:dG K mg "_law_ways" eB ["rows"] t.fN t.uO
 cJ:dG K mg "_law_statements" b4 ["body"] t.b5 t.fj
 bB:dG K mg "_law_worth" dg ["e", "values"] t.dq t.iI
 ib:dG K mg "_law_stepped" cH ["boxes", "statement", "ways", "values", "figure"] t.dN t.nI
 iK:dG K mg "_law_walked" cQ ["program", "rows", "figures", "bound"] t.eL t.o7
 kg:dG K mg "_law_same" eC ["found", "due"] t.fO t.uP
 Q1:dG K mg "law" uC ["script"] t.By t.Ga
 jx:Fun K "__init__" "Chart.__init__" dh t.du t.kB
 Cq:Binds K t.kB ["self", "program"] []
 kh:Fun K "__init__" "Walk.__init__" eD t.eG t.mq
 EA:Binds K t.mq ["self", "chart", "figures"] []
 eR:Fun K "look_for_end" "Walk.look_for_end" bI t.bJ t.fP
 jc:Binds K t.fP ["self"] []
 jd:Meth K t.b3 "look_for_end" t.bJ
 gf:Fun K "is_at_ask" "Walk.is_at_ask" cg t.ck t.hZ
 wu:Binds K t.hZ ["self"] []
 wx:Meth K t.b3 "is_at_ask" t.ck
 jy:Fun K "go_on" "Walk.go_on" di t.dv t.kC
 Cr:Binds K t.kC ["self"] []
 Cs:Meth K t.b3 "go_on" t.dv
 da:Cls K t.aX
 LF:mg "Chart"=some (.ref t.aX)
 o8:Mk K t.aX t.du
 dP:fJ K t.aX "names"
 dQ:fJ K t.aX "sizes"
 eW:fJ K t.aX "first"
 bZ:fJ K t.aX "statements"
 dC:fJ K t.aX "ways"
 b6:Cls K t.b3
 Nh:mg "Walk"=some (.ref t.b3)
 uQ:Mk K t.b3 t.eG
 eO:fJ K t.b3 "chart"
 c6:fJ K t.b3 "figures"
 dE:fJ K t.b3 "taken"
 bL:fJ K t.b3 "standing"
 cK:fJ K t.b3 "end"
 zj:∃ u,mg "END"=some u∧RelV (.int 0) u
 fE:mg "len"=none
 ic:mg "range"=none
 EB:mg "int"=none
 zk:mg "bool"=none
 mw:mg "dict"=none
 tj:mg "list"=none
 ki:mg "tuple"=none
 EC:mg "max"=none
 ED:mg "min"=none
 fq:mg "isinstance"=none
 iO:mg "enumerate"=none
 Bz:mg "zip"=none
end K16
end
section
set_option maxHeartbeats 4000000
namespace K16
open PySem L2
local macro_rules | `(tactic| walk_at "rd")=>`(tactic| ((try dsimp only [JQ,JW,NA,Qf,NB,tIf,Of,JG,Qh,tBM,OC,tSl,J0,B1,JV,Ow,DF,B0,GY,tUn,rU,QK,GS,GU,NF,ND,JF,NC,Oj,JI,Oi,Ol,NN,Mz,JH,G9,NO,Ko,Kp,Kq,Kr,Ks,Kt,Ku,Kv,Kw,Kx,Hj,Hk,Hl,Hr,Hs,OV,QE,Og,JE,JJ,gh,NP,NQ,List.set,Ha,Hb,Kz,Hd,He,DS,Hf,NR,QG,KL,KA,KC,tOr,List.nil_append,List.cons_append,List.length_cons,List.length_nil,KD,KG,Hc]); (try simp only [JQ,JW,NA,Qf,NB,tIf,Of,JG,Qh,tBM,OC,tSl,J0,B1,JV,Ow,DF,B0,GY,tUn,rU,QK,GS,GU,NF,ND,JF,NC,OM,ON,Oj,JI,Oi,Ol,NN,Mz,JH,G9,NO,Ko,Kp,Kq,Kr,Ks,Kt,Ku,Kv,Kw,Kx,Hj,Hk,Hl,Hr,Hs,OV,QE,Og,JE,JJ,gh,Kn,R0,NP,NQ,QF,ML,Ky,OO,OP,List.set,Ha,Hb,Kz,Hd,He,DS,Hf,NR,QG,KL,KA,KC,tOr,List.append_nil,List.nil_append,List.cons_append,MO,MP,true_and,and_true,List.length_cons,List.length_nil,MQ,KD,KG,Hc,Int.reduceLT,Int.reduceLE,Nat.reduceLeDiff,Nat.reduceAdd,and_self])))
section
variable {P:Program} {w:World} {K:PySem.W.Frag} {mg:Str→Option Value} {base:Heap} {t:Ad}
theorem EE {ss:List PG.Stm} {vs:List V} (l:vs.length=ss.length):(List.range ss.length).map (fun i=>((Sum.inl (ss.getD i (.stop 0)).row:Key),vs.getD i .non))=cY ss vs:=by
 apply List.ext_getElem
 · simp [cY,l]
 · intro i h1 h2
   simp at h1
   simp [cY,h1,l]
theorem Ct {fl:List PG.eZ} {vs:List V} (l:vs.length=fl.length):(List.range fl.length).map (fun i=>((Sum.inl (fl.getD i (0,.stop,[])).1:Key),vs.getD i .non))=List.zipWith (fun r v=>(Sum.inl r.1,v)) fl vs:=by
 apply List.ext_getElem
 · simp [l]
 · intro i h1 h2
   simp at h1
   simp [h1,l]
theorem EF {fl:List PG.eZ} {vs:List V} (l:vs.length=fl.length):(List.zipWith (fun r v=>((Sum.inl r.1:Key),v)) fl vs).map (·.1)=fl.map fun r=>(Sum.inl r.1:Key):=by
 apply List.ext_getElem
 · simp [l]
 · intro i h1 h2
   simp
theorem HK {K:PySem.W.Frag} {H:Hp}:∀ {fl:List PG.eZ} {us:List V},aS K H (fl.map fK) us→∃ ws:List V,ws.length=fl.length∧∀ i (hi:i < fl.length),∃ a q,us[i]?=some (.ref a)∧ws[i]?=some (.ref q)∧SqT K H a [.int fl[i].1,.str (wdS fl[i].2.1),.ref q]∧SqT K H q (fl[i].2.2.map V.int)
 | [],us,_=>⟨[],rfl,fun i hi=>by simp at hi⟩
 | r :: fl,us,h=>by
   have h0:=h
   rw [List.map_cons,aS.aM] at h
   obtain ⟨v,tl,rfl,h1,h2⟩:=h
   obtain ⟨ws,l,hw⟩:=HK h2
   obtain ⟨a,q,e,s1,s2⟩:=Eo h0 (i:=0) (y:=v) rfl (by simp)
   refine ⟨.ref q :: ws,by simp [l],fun i hi=>?_⟩
   cases i with
   | zero=>exact ⟨a,q,by rw [e]; rfl,rfl,s1,s2⟩
   | succ i=>
     obtain ⟨a',q',e1,e2,e3,e4⟩:=hw i (by simpa using hi)
     exact ⟨a',q',by simpa using e1,by simpa using e2,by simpa using e3,by simpa using e4⟩
theorem Gb {b:List PG.Stm} (pw:(PG.aC b).Pairwise fun a b=>a.row < b.row):((PG.aU b 0).map fun r=>(Sum.inl r.1:Key)).Nodup:=by
 have e:(PG.aU b 0).map (fun r=>(Sum.inl r.1:Key))=(PG.aC b).map fun s=>(Sum.inl s.row:Key):=by
   have h:((PG.aU b 0).map fun r=>(r.1,r.2.1))=(PG.aC b).map fun x=>(x.row,x.wd):=by rw [PG.eU,PG.fG]
   have h2:=congrArg (List.map fun r:Int × PG.Wd=>(Sum.inl r.1:Key)) h
   rw [List.map_map,List.map_map] at h2
   exact h2
 rw [e]
 exact sW pw
theorem o9 {K:PySem.W.Frag} {H:Hp} {B:Addr} {bs:List PG.Box} (r:Rep K H (.lst (bs.map jG)) (.ref B)):∃ xs,SqL K H B xs∧xs.length=bs.length∧∀ i x,xs[i]?=some x→∃ a,x=.ref a∧SqT K H a [.str (S (bs.getD i ⟨[],0,0⟩).name),.int (bs.getD i ⟨[],0,0⟩).size,.int (bs.getD i ⟨[],0,0⟩).first]:=by
 rw [Rep.bR] at r
 obtain ⟨_,xs,e,q,rs⟩:=r
 cases e
 have lx:xs.length=bs.length:=by rw [rs.length,List.length_map]
 refine ⟨xs,q,lx,fun i x hx=>?_⟩
 have li:i < bs.length:=by have:=(List.getElem?_eq_some_iff.mp hx).1; lia
 obtain ⟨v,hv,rv⟩:=rs.get (i:=i) (d:=jG bs[i]) (by rw [List.getElem?_map,List.getElem?_eq_getElem li]; rfl)
 rw [hx] at hv
 cases hv
 have eg:bs.getD i ⟨[],0,0⟩=bs[i]:=by rw [List.getD_eq_getElem?_getD,List.getElem?_eq_getElem li]; rfl
 rw [eg]
 simp only [jG,Rep.bj,aS.aM,aS.bw,Rep.bF,Rep.bE] at rv
 obtain ⟨a,ys,rfl,hS,_,_,rfl,rfl,_,_,rfl,rfl,_,_,rfl,rfl,rfl⟩:=rv
 exact ⟨a,rfl,hS⟩
theorem tm {kvs:List (Key × V)} (h:(kvs.map (·.1)).Nodup):gX [] kvs=kvs:=by
 have:=iy kvs [] (by simpa using h)
 simpa using this
theorem AB (T:Tx K mg t) (eI:bW P w K mg base CX0 1 t.cV t.gb ["body", "behind"] (uw K)) (fF:bW P w K mg base CX0 6 t.bU t.dF ["body"] (qJ K 4)) (Gd:bW P w K mg base CX0 7 t.mm t.yh ["program"] (FZ K)) :
   bW P w K mg base CX0 8 t.du t.kB ["self", "program"] (Na K t.aX):=by
 refine T.jx.okS rD (fun vs H Q E h=>?_) (fun cdv A outer s H vs Q E hr h=>?_)
 · obtain ⟨_,_,_,_,rfl,_⟩:=h
   rfl
 obtain ⟨p,dx,v,pr,rfl,hp,hdx,rp,hd,hf,pw,nb,lb,q⟩:=h
 have nd:=rD.nd
 obtain ⟨HL,uR,uT⟩:=T.zj
 refine ⟨_,[some (.ref p),some v,none,none],(ag (aR (i:=2) nd rfl (Or.inl rfl) (aD aP (pv 1) aj ak))
 (ag (aR (i:=3) nd rfl (Or.inl rfl) (aD aP (pv 1) aj ak))
 (ag (gU (pv 0) (jm (own:=["box"]) (ix:=[]) rfl (by rfl) (by rfl) (eQ (pv 2)) (fun _ _ _ _=>(br (i:=0) (by show List.Nodup (["box"]:List Str); decide +kernel) rfl (Or.inl rfl))) (fun _ _ _ _=>jl) (fun _ _ _ _=>(aD (jo (K:=K) rfl) (pv 0) aj ak))) rfl)
 (ag (gU (pv 0) (fU (sX rfl) rfl T.mw PyProof.Rows.Boot.«dict» (aa (jm (own:=["box"]) (ix:=[]) rfl (by rfl) (by rfl) (eQ (pv 2)) (fun _ _ _ _=>(br (i:=0) (by show List.Nodup (["box"]:List Str); decide +kernel) rfl (Or.inl rfl))) (fun _ _ _ _=>jl) (fun _ _ _ _=>(aZ (aa (aD (jo (K:=K) rfl) (pv 0) aj ak) (aa (aD (jo (K:=K) rfl) (pv 0) aj ak) ai bg) bg)))) ai lW)) rfl)
 (ag (gU (pv 0) (aZ (aa (aJ eI (hr.mono (by omega)) rfl T.bY.m T.bY.F.kp T.bY.b .nil a8 (aa (pv 3) (aa (tW rfl uR uT) ai ah) ah)) (aa (fU ky rfl T.ki PyProof.Rows.Boot.«tuple» (aa (jm (own:=["box"]) (ix:=[]) rfl (by rfl) (by rfl) (eQ (pv 2)) (fun _ _ _ _=>(br (i:=0) (by show List.Nodup (["box"]:List Str); decide +kernel) rfl (Or.inl rfl))) (fun _ _ _ _=>jl) (fun _ _ _ _=>(aD (jo (K:=K) rfl) (pv 0) aj ak))) ai lW)) ai bM) bM)) rfl)
 (ag (gU (pv 0) (fU (sX rfl) rfl T.mw PyProof.Rows.Boot.«dict» (aa (jm (own:=["statement"]) (ix:=[]) rfl (by rfl) (by rfl) (eQ (aJ fF (hr.mono (by omega)) rfl T.c5.m T.c5.F.kp T.c5.b .nil a8 (aa (pv 3) ai ah))) (fun _ _ _ _=>(br (i:=0) (by show List.Nodup (["statement"]:List Str); decide +kernel) rfl (Or.inl rfl))) (fun _ _ _ _=>jl) (fun _ _ _ _=>(aZ (aa (aD (jo (K:=K) rfl) (pv 0) aj ak) (aa (pv 0) ai ah) bg)))) ai lW)) rfl)
 (au (gU (pv 0) (fU (sX rfl) rfl T.mw PyProof.Rows.Boot.«dict» (aa (jm (own:=["told"]) (ix:=[]) rfl (by rfl) (by rfl) (eQ (aJ Gd (hr.mono (by omega)) rfl T.Cp.m T.Cp.F.kp T.Cp.b .nil a8 (aa (pv 1) ai ah))) (fun _ _ _ _=>(br (i:=0) (by show List.Nodup (["told"]:List Str); decide +kernel) rfl (Or.inl rfl))) (fun _ _ _ _=>jl) (fun _ _ _ _=>(aZ (aa (aD (jo (K:=K) rfl) (pv 0) aj ak) (aa (aD (jo (K:=K) rfl) (pv 0) aj ak) ai bg) bg)))) ai lW)) rfl)))))))),rfl,?_⟩
 have line:sizeLine=2 ^ 24:=rfl
 have rp':=rp
 unfold kA at rp'
 rw [Rep.bj] at rp'
 obtain ⟨pa,pxs,rfl,hpx,prs⟩:=rp'
 rw [aS.aM] at prs
 obtain ⟨v1,t1,rfl,pr1,prs⟩:=prs
 rw [aS.aM] at prs
 obtain ⟨v2,t2,rfl,pr2,prs⟩:=prs
 obtain ⟨bb,_,rfl,_⟩:=Rep.bR.mp pr2
 obtain ⟨bx,_,rfl,_⟩:=Rep.bR.mp pr1
 refine ax fun U1 hU1=>?_
 walk_at "rd"
 refine aI hpx (v:=.ref bx) (av (j:=0) rfl) ((hU1 _ _).mpr (ax fun U2 hU2=>?_))
 clear hU1
 walk_at "rd"
 refine aI hpx (v:=.ref bb) (av (j:=1) rfl) ((hU2 _ _).mpr (ax fun U3 hU3=>?_))
 clear hU2
 walk_at "rd"
 simp only [DF,kb]
 walk_at "rd"
 obtain ⟨xs1,hx1,lx1,g1⟩:=o9 pr1
 refine ⟨⟨_,hx1⟩,fun D1 hD1=>lC (K:=K) (r:=[]) (fun i=>.str (S (pr.aG.getD i ⟨[],0,0⟩).name)) hx1 (by lia) hD1 (fun i x H2 hx s2 R hR=>?_) (fun H2 s2 h2=>⟨p,_,dx,[],rfl,s2 _ _ hp,T.da,T.dP,by decide,(hU3 _ _).mpr (ax fun U4 hU4=>?_)⟩)⟩
 · obtain ⟨a,rfl,ha⟩:=g1 i x hx
   walk_at "rd"
   exact aI (s2.bC ha) (v:=.str (S (pr.aG.getD i ⟨[],0,0⟩).name)) (av (j:=0) rfl) hR
 clear hU3
 rw [lx1,jD (fun b:PG.Box=>V.str (S b.name))] at h2
 have hp2:=s2 _ _ hp
 have n1:D1≠p:=(ao hp hD1).symm
 have u3:bf (·=p) H (upd H2 p (.ins t.aX dx [("names",.ref D1)])):=(bf.of s2).trans (bf.refl.put (O:=(·=p)) rfl _)
 have hp3:(upd H2 p (.ins t.aX dx [("names",.ref D1)])) p=some (.ins t.aX dx [("names",.ref D1)]):=ae
 have d1:(upd H2 p (.ins t.aX dx [("names",.ref D1)])) D1=some (.lst (pr.aG.map fun b=>.str (S b.name))):=by rw [az n1]; exact h2
 rw [show iU (Str.ofString "names") (V.ref D1) []=[(Str.ofString "names",V.ref D1)] from rfl]
 generalize upd H2 p (.ins t.aX dx [("names",.ref D1)])=H3 at *
 walk_at "rd"
 simp only [DF,kb]
 walk_at "rd"
 have pr3:=qK hp u3 _ _ pr1
 obtain ⟨xs3,hx3,lx3,g3⟩:=o9 pr3
 refine ⟨⟨_,hx3⟩,fun D2 hD2=>sY (K:=K) (r:=[]) (fun i=>(.inr (S (pr.aG.getD i ⟨[],0,0⟩).name),.int (pr.aG.getD i ⟨[],0,0⟩).size)) hx3 (by lia) hD2 (fun i x H2 hx s2 R hR=>?_) (fun ps H4 s4 h4 hps ep=>⟨D2,ps,rfl,.of h4,fun q hq=>.of (hps q hq),?_,fun D3 hD3=>⟨p,_,dx,_,rfl,aw.new hD3 _ _ _ (s4 _ _ hp3),T.da,T.dQ,by simp,(hU4 _ _).mpr (ax fun U5 hU5=>?_)⟩⟩)⟩
 · obtain ⟨a,rfl,ha⟩:=g3 i x hx
   walk_at "rd"
   exact aI (s2.bC ha) (v:=.str (S (pr.aG.getD i ⟨[],0,0⟩).name)) (av (j:=0) rfl) (aI (s2.bC ha) (v:=.int (pr.aG.getD i ⟨[],0,0⟩).size) (av (j:=1) rfl) hR)
 · have:=congrArg List.length ep
   simp only [List.length_map,List.length_range] at this
   lia
 clear hU4
 have ek:ps.map (fun q=>(q.2.1,q.2.2))=pr.aG.map fun b=>(Sum.inr (S b.name),V.int b.size):=by
   rw [show (fun q:Addr × Key × V=>(q.2.1,q.2.2))=(·.2) from rfl,ep,lx3,jD (fun b:PG.Box=>((Sum.inr (S b.name):Key),V.int b.size))]
 have nk:((pr.aG.map fun b=>((Sum.inr (S b.name):Key),V.int b.size)).map (·.1)).Nodup:=by
   rw [List.map_map]
   refine List.pairwise_map.mpr ((List.pairwise_map.mp nb).imp fun {a b} hab e=>hab ?_)
   exact oF.mp (Sum.inr.inj e)
 rw [ek,tm nk,show iU (Str.ofString "sizes") (V.ref D3) [(Str.ofString "names",V.ref D1)]=[(Str.ofString "names",V.ref D1),(Str.ofString "sizes",V.ref D3)] from rfl]
 have s4':=s4.trans (aw.new hD3 (.dK (pr.aG.map fun b=>(Sum.inr (S b.name),V.int b.size))))
 have d3:(upd H4 D3 (.dK (pr.aG.map fun b=>(Sum.inr (S b.name),V.int b.size)))) D3=some (.dK (pr.aG.map fun b=>(Sum.inr (S b.name),V.int b.size))):=ae
 generalize upd H4 D3 (.dK (pr.aG.map fun b=>(Sum.inr (S b.name),V.int b.size)))=H5 at *
 have n3:D3≠p:=c7 d3 (s4' _ _ hp3) (by intro z; cases z)
 have u6:bf (·=p) H3 (upd H5 p (.ins t.aX dx [(Str.ofString "names",V.ref D1),(Str.ofString "sizes",V.ref D3)])):=(bf.of s4').trans (bf.refl.put (O:=(·=p)) rfl _)
 have hp6:(upd H5 p (.ins t.aX dx [(Str.ofString "names",V.ref D1),(Str.ofString "sizes",V.ref D3)])) p=some (.ins t.aX dx [(Str.ofString "names",V.ref D1),(Str.ofString "sizes",V.ref D3)]):=ae
 have d3:(upd H5 p (.ins t.aX dx [(Str.ofString "names",V.ref D1),(Str.ofString "sizes",V.ref D3)])) D3=some (.dK (pr.aG.map fun b=>(Sum.inr (S b.name),V.int b.size))):=by rw [az n3]; exact d3
 generalize upd H5 p (.ins t.aX dx [(Str.ofString "names",V.ref D1),(Str.ofString "sizes",V.ref D3)])=H6 at *
 have d1:=u6 _ _ n1 d1
 have u6:=u3.trans u6
 have pr6:=qK hp u6 _ _ pr1
 have pb6:=qK hp u6 _ _ pr2
 walk_at "rd"
 simp only [DF,kb]
 walk_at "rd"
 have lbd:=jC pr.body
 obtain ⟨xs6,hx6,lx6,g6⟩:=o9 pr6
 refine ⟨bb,pr.body,0,rfl,pb6,by lia,⟨_,hx6⟩,fun D4 hD4=>lC (K:=K) (r:=[]) (fun i=>.int (pr.aG.getD i ⟨[],0,0⟩).first) hx6 (by lia) hD4 (fun i x H2 hx s2 R hR=>?_) (fun H7 s7 h7=>⟨D4,_,rfl,.inl ⟨.of h7,fun D5 hD5 D6 hD6=>⟨p,_,dx,_,rfl,aw.new hD6 _ _ _ (aw.new hD5 _ _ _ (s7 _ _ hp6)),T.da,T.eW,by simp,(hU5 _ _).mpr (ax fun U6 hU6=>?_)⟩⟩⟩)⟩
 · obtain ⟨a,rfl,ha⟩:=g6 i x hx
   walk_at "rd"
   exact aI (s2.bC ha) (v:=.int (pr.aG.getD i ⟨[],0,0⟩).first) (av (j:=2) rfl) hR
 clear hU5
 rw [show iU (Str.ofString "first") (V.ref D6) [(Str.ofString "names",V.ref D1),(Str.ofString "sizes",V.ref D3)]=[(Str.ofString "names",V.ref D1),(Str.ofString "sizes",V.ref D3),(Str.ofString "first",V.ref D6)] from rfl]
 rw [lx6,jD (fun b:PG.Box=>V.int b.first)] at hD6 ⊢
 have s8:=s7.trans ((aw.new hD5 (.tup (pr.aG.map fun b=>V.int b.first))).trans (aw.new hD6 (.tup [V.int (PG.aQ pr.body 0),V.ref D5])))
 have d5:(upd (upd H7 D5 (.tup (pr.aG.map fun b=>V.int b.first))) D6 (.tup [V.int (PG.aQ pr.body 0),V.ref D5])) D5=some (.tup (pr.aG.map fun b=>V.int b.first)):=aw.new hD6 _ _ _ ae
 have d6:(upd (upd H7 D5 (.tup (pr.aG.map fun b=>V.int b.first))) D6 (.tup [V.int (PG.aQ pr.body 0),V.ref D5])) D6=some (.tup [V.int (PG.aQ pr.body 0),V.ref D5]):=ae
 generalize upd (upd H7 D5 (.tup (pr.aG.map fun b=>V.int b.first))) D6 (.tup [V.int (PG.aQ pr.body 0),V.ref D5])=H8 at *
 have hp8:=s8 _ _ hp6
 have n5:D5≠p:=c7 d5 hp8 (by intro z; cases z)
 have n6:D6≠p:=c7 d6 hp8 (by intro z; cases z)
 have u9:bf (·=p) H6 (upd H8 p (.ins t.aX dx [(Str.ofString "names",V.ref D1),(Str.ofString "sizes",V.ref D3),(Str.ofString "first",V.ref D6)])):=(bf.of s8).trans (bf.refl.put (O:=(·=p)) rfl _)
 have hp9:(upd H8 p (.ins t.aX dx [(Str.ofString "names",V.ref D1),(Str.ofString "sizes",V.ref D3),(Str.ofString "first",V.ref D6)])) p=some (.ins t.aX dx [(Str.ofString "names",V.ref D1),(Str.ofString "sizes",V.ref D3),(Str.ofString "first",V.ref D6)]):=ae
 have d5:(upd H8 p (.ins t.aX dx [(Str.ofString "names",V.ref D1),(Str.ofString "sizes",V.ref D3),(Str.ofString "first",V.ref D6)])) D5=some (.tup (pr.aG.map fun b=>V.int b.first)):=by rw [az n5]; exact d5
 have d6:(upd H8 p (.ins t.aX dx [(Str.ofString "names",V.ref D1),(Str.ofString "sizes",V.ref D3),(Str.ofString "first",V.ref D6)])) D6=some (.tup [V.int (PG.aQ pr.body 0),V.ref D5]):=by rw [az n6]; exact d6
 generalize upd H8 p (.ins t.aX dx [(Str.ofString "names",V.ref D1),(Str.ofString "sizes",V.ref D3),(Str.ofString "first",V.ref D6)])=H9 at *
 have d1:=u9 _ _ n1 d1
 have d3:=u9 _ _ n3 d3
 have u9:=u6.trans u9
 have pb9:=qK hp u9 _ _ pr2
 walk_at "rd"
 simp only [DF,kb]
 walk_at "rd"
 refine ⟨bb,pr.body,H9,rfl,aw.refl _,pb9,by lia,hf,fun l10 us H10 s10 Sg y10 r10=>?_⟩
 have sl:=oT pr.body
 have lus:us.length=(PG.aC pr.body).length:=by rw [r10.length,List.length_map]
 refine ⟨l10,rfl,⟨_,.of y10⟩,fun D7 hD7=>sY (K:=K) (r:=[]) (fun i=>(.inl ((PG.aC pr.body).getD i (.stop 0)).row,us.getD i .non)) (.of y10) (by lia) hD7 (fun i x H2 hx s2 R hR=>?_) (fun ps H11 s11 h11 hps ep=>⟨D7,ps,rfl,.of h11,fun q hq=>.of (hps q hq),?_,fun D8 hD8=>⟨p,_,dx,_,rfl,aw.new hD8 _ _ _ (s11 _ _ (s10 _ _ hp9)),T.da,T.bZ,by simp,(hU6 _ _).mpr ?_⟩⟩)⟩
 · have li:i < (PG.aC pr.body).length:=by have:=(List.getElem?_eq_some_iff.mp hx).1; lia
   obtain ⟨v',hv',rv⟩:=r10.get (i:=i) (d:=dpS (PG.aC pr.body)[i]) (by rw [List.getElem?_map,List.getElem?_eq_getElem li]; rfl)
   rw [hx] at hv'
   cases hv'
   have e1:(PG.aC pr.body).getD i (.stop 0)=(PG.aC pr.body)[i]:=by rw [List.getD_eq_getElem?_getD,List.getElem?_eq_getElem li]; rfl
   have e2:us.getD i .non=x:=by rw [List.getD_eq_getElem?_getD,hx]; rfl
   rw [e1,e2] at hR
   obtain ⟨sa,ys,rfl,hs⟩:=gO _ rv
   walk_at "rd"
   exact aI ((s10.trans s2).bC hs) (v:=.int (PG.aC pr.body)[i].row) (av (j:=1) rfl) hR
 · have:=congrArg List.length ep
   simp only [List.length_map,List.length_range] at this
   lia
 clear hU6
 have ek:ps.map (fun q=>(q.2.1,q.2.2))=cY (PG.aC pr.body) us:=by
   rw [show (fun q:Addr × Key × V=>(q.2.1,q.2.2))=(·.2) from rfl,ep,lus,EE lus]
 have nk:((cY (PG.aC pr.body) us).map (·.1)).Nodup:=by
   rw [gF _ _ lus]
   exact sW pw
 rw [ek,tm nk,show iU (Str.ofString "statements") (V.ref D8) [(Str.ofString "names",V.ref D1),(Str.ofString "sizes",V.ref D3),(Str.ofString "first",V.ref D6)]=[(Str.ofString "names",V.ref D1),(Str.ofString "sizes",V.ref D3),(Str.ofString "first",V.ref D6),(Str.ofString "statements",V.ref D8)] from rfl]
 have s12:=(s10.trans s11).trans (aw.new hD8 (.dK (cY (PG.aC pr.body) us)))
 have d8:(upd H11 D8 (.dK (cY (PG.aC pr.body) us))) D8=some (.dK (cY (PG.aC pr.body) us)):=ae
 generalize upd H11 D8 (.dK (cY (PG.aC pr.body) us))=H12 at *
 have Sh:=s12 _ _ hp9
 have n8:D8≠p:=c7 d8 Sh (by intro z; cases z)
 have u13:bf (·=p) H9 (upd H12 p (.ins t.aX dx [(Str.ofString "names",V.ref D1),(Str.ofString "sizes",V.ref D3),(Str.ofString "first",V.ref D6),(Str.ofString "statements",V.ref D8)])):=(bf.of s12).trans (bf.refl.put (O:=(·=p)) rfl _)
 have Pb:(upd H12 p (.ins t.aX dx [(Str.ofString "names",V.ref D1),(Str.ofString "sizes",V.ref D3),(Str.ofString "first",V.ref D6),(Str.ofString "statements",V.ref D8)])) p=some (.ins t.aX dx [(Str.ofString "names",V.ref D1),(Str.ofString "sizes",V.ref D3),(Str.ofString "first",V.ref D6),(Str.ofString "statements",V.ref D8)]):=ae
 have d8:(upd H12 p (.ins t.aX dx [(Str.ofString "names",V.ref D1),(Str.ofString "sizes",V.ref D3),(Str.ofString "first",V.ref D6),(Str.ofString "statements",V.ref D8)])) D8=some (.dK (cY (PG.aC pr.body) us)):=by rw [az n8]; exact d8
 generalize upd H12 p (.ins t.aX dx [(Str.ofString "names",V.ref D1),(Str.ofString "sizes",V.ref D3),(Str.ofString "first",V.ref D6),(Str.ofString "statements",V.ref D8)])=H13 at *
 have d1:=u13 _ _ n1 d1
 have d3:=u13 _ _ n3 d3
 have d5:=u13 _ _ n5 d5
 have d6:=u13 _ _ n6 d6
 have r13:=lA hp9 u13 _ _ r10
 have u13:=u9.trans u13
 have Si:=qK hp u13 _ _ rp
 walk_at "rd"
 simp only [DF,kb]
 walk_at "rd"
 refine ⟨_,pr,rfl,Si,hd,hf,fun l14 fv H14 s14 Tc y14 r14=>?_⟩
 obtain ⟨ws,lws,hws⟩:=HK r14
 have lfv:fv.length=(PG.aU pr.body 0).length:=by rw [r14.length,List.length_map]
 have lfl:(PG.aU pr.body 0).length=(PG.aC pr.body).length:=by
   have h1:=congrArg List.length (PG.eU pr.body 0)
   rw [List.length_map] at h1
   lia
 refine ⟨l14,rfl,⟨_,.of y14⟩,fun D9 hD9=>sY (K:=K) (r:=[]) (fun i=>(.inl ((PG.aU pr.body 0).getD i (0,.stop,[])).1,ws.getD i .non)) (.of y14) (by lia) hD9 (fun i x H2 hx s2 R hR=>?_) (fun ps H15 s15 h15 hps ep=>⟨D9,ps,rfl,.of h15,fun q hq=>.of (hps q hq),?_,fun D10 Pc=>⟨p,_,dx,_,rfl,aw.new Pc _ _ _ (s15 _ _ (s14 _ _ Pb)),T.da,T.dC,by simp,?_⟩⟩)⟩
 · have li:i < (PG.aU pr.body 0).length:=by have:=(List.getElem?_eq_some_iff.mp hx).1; lia
   obtain ⟨a,qq,e1,e2,q1,q2⟩:=hws i li
   rw [hx] at e1
   cases e1
   have g1:(PG.aU pr.body 0).getD i (0,.stop,[])=(PG.aU pr.body 0)[i]:=by rw [List.getD_eq_getElem?_getD,List.getElem?_eq_getElem li]; rfl
   have g2:ws.getD i .non=V.ref qq:=by rw [List.getD_eq_getElem?_getD,e2]; rfl
   rw [g1,g2] at hR
   walk_at "rd"
   exact aI (s2.bC q1) (v:=.int (PG.aU pr.body 0)[i].1) (av (j:=0) rfl) (aI (s2.bC q1) (v:=.ref qq) (av (j:=2) rfl) hR)
 · have:=congrArg List.length ep
   simp only [List.length_map,List.length_range] at this
   lia
 have ek:ps.map (fun q=>(q.2.1,q.2.2))=List.zipWith (fun r v=>(Sum.inl r.1,v)) (PG.aU pr.body 0) ws:=by
   rw [show (fun q:Addr × Key × V=>(q.2.1,q.2.2))=(·.2) from rfl,ep,lfv,Ct lws]
 have nk:((List.zipWith (fun r v=>((Sum.inl r.1:Key),v)) (PG.aU pr.body 0) ws).map (·.1)).Nodup:=by
   rw [EF lws]
   exact Gb pw
 rw [ek,tm nk,show iU (Str.ofString "ways") (V.ref D10) [(Str.ofString "names",V.ref D1),(Str.ofString "sizes",V.ref D3),(Str.ofString "first",V.ref D6),(Str.ofString "statements",V.ref D8)]=[(Str.ofString "names",V.ref D1),(Str.ofString "sizes",V.ref D3),(Str.ofString "first",V.ref D6),(Str.ofString "statements",V.ref D8),(Str.ofString "ways",V.ref D10)] from rfl]
 have s16:=(s14.trans s15).trans (aw.new Pc (.dK (List.zipWith (fun r v=>(Sum.inl r.1,v)) (PG.aU pr.body 0) ws)))
 have Q2:=s15.trans (aw.new Pc (.dK (List.zipWith (fun r v=>(Sum.inl r.1,v)) (PG.aU pr.body 0) ws)))
 have d10:(upd H15 D10 (.dK (List.zipWith (fun r v=>(Sum.inl r.1,v)) (PG.aU pr.body 0) ws))) D10=some (.dK (List.zipWith (fun r v=>(Sum.inl r.1,v)) (PG.aU pr.body 0) ws)):=ae
 generalize upd H15 D10 (.dK (List.zipWith (fun r v=>(Sum.inl r.1,v)) (PG.aU pr.body 0) ws))=H16 at *
 have Pd:=s16 _ _ Pb
 have n10:D10≠p:=c7 d10 Pd (by intro z; cases z)
 have put:∀ fs,bf (·=p) H16 (upd H16 p (.ins t.aX dx fs)):=fun fs=>bf.refl.put (O:=(·=p)) rfl _
 have uE:=fun fs=>(bf.of s16).trans (put fs)
 have uA:=fun fs=>u13.trans (uE fs)
 refine q _ (fun b o n e=>uA _ b o n e) ⟨⟨dx,D1,D3,D6,D5,D8,D10,us,ws,ae,uA _ _ _ (c7 hdx hp (by intro z; cases z)) hdx,uE _ _ _ n1 d1,uE _ _ _ n3 d3,uE _ _ _ n6 d6,uE _ _ _ n5 d5,lus,uE _ _ _ n8 d8,lA Pb (uE _) _ _ r13,lws,put _ _ _ n10 d10,fun i hi=>?_⟩⟩
 obtain ⟨a,qq,e1,e2,q1,q2⟩:=hws i hi
 refine ⟨qq,e2,?_⟩
 have q2:=Q2.bC q2
 rcases q2 with (q2 | ⟨o,q2⟩) | q2
 · exact .inl (.inl (put _ _ _ (c7 q2 Pd (by intro z; cases z)) q2))
 · exact .inl (.inr ⟨o,put _ _ _ (c7 q2 Pd (by intro z; cases z)) q2⟩)
 · exact .inr q2
theorem Ni {o:W} (ho:o=[43]∨o=[45]∨o=[42]) (a b c:Int):dR (gX [] [((Sum.inr (Str.ofString "+"):Key),V.int a),(Sum.inr (Str.ofString "-"),V.int b),(Sum.inr (Str.ofString "*"),V.int c)]) (Sum.inr (S o))=some (V.int (if o=[43] then a else if o=[45] then b else c)):=by
 have nk:([(Sum.inr (Str.ofString "+"):Key),Sum.inr (Str.ofString "-"),Sum.inr (Str.ofString "*")]).Nodup:=by decide +kernel
 rw [iy _ [] (by simpa using nk),List.nil_append]
 have e1:(Sum.inr (Str.ofString "+"):Key)=Sum.inr (S [43]):=by decide +kernel
 have e2:(Sum.inr (Str.ofString "-"):Key)=Sum.inr (S [45]):=by decide +kernel
 have e3:(Sum.inr (Str.ofString "*"):Key)=Sum.inr (S [42]):=by decide +kernel
 have ne:∀ x y:W,x≠y→¬ (Sum.inr (S x):Key)=Sum.inr (S y):=fun x y n z=>n (oF.mp (Sum.inr.inj z))
 rw [e1,e2,e3]
 rcases ho with rfl | rfl | rfl
 · rw [if_pos rfl,cR rfl]
 · rw [if_neg (by decide),if_pos rfl,cS (ne _ _ (by decide)),cR rfl]
 · rw [if_neg (by decide),if_neg (by decide),cS (ne _ _ (by decide)),cS (ne _ _ (by decide)),cR rfl]
theorem LG (T:Tx K mg t) {n:Nat} (kj:bW P w K mg base CX0 n t.ju t.uM ["e", "values"] (spW K n)) :
   bW P w K mg base CX0 (n + 1) t.ju t.uM ["e", "values"] (spW K (n + 1)):=by
 refine T.dw.F.okS Ex (fun vs H Q E h=>?_) (fun cdv A outer s H vs Q E hr h=>?_)
 · obtain ⟨_,_,_,_,rfl,_⟩:=h
   rfl
 obtain ⟨v,d,tr,kv,rfl,hv,hd,ok,ht,h6,q⟩:=h
 have nd:=Ex.nd
 have hu:=gv hr
 refine ⟨_,[some v,some (.ref d),none,none,none],(ag (aR (i:=2) nd rfl (Or.inl rfl) (aD aP (pv 0) aj ak))
 (ag (bA (aL b9 (pv 2) ba (aT _))
 (au (aV (aD aP (pv 0) aj ak)))
 a9)
 (ag (bA (aL b9 (pv 2) ba (aT _))
 (au (aV (cv hu (pv 1) (aD aP (pv 0) aj ak) (fun _ _=>rfl))))
 a9)
 (ag (aR (i:=3) nd rfl (Or.inl rfl) (aJ kj (hr.mono (by omega)) rfl T.dw.m T.dw.F.kp T.dw.b .nil a8 (aa (aD aP (pv 0) aj ak) (aa (pv 1) ai ah) bg)))
 (ag (aR (i:=4) nd rfl (Or.inl rfl) (aJ kj (hr.mono (by omega)) rfl T.dw.m T.dw.F.kp T.dw.b .nil a8 (aa (aD aP (pv 0) aj ak) (aa (pv 1) ai ah) bg)))
 (ag (bA (aL b9 (pv 2) ba (aT _))
 (au (aV (bc dX (pv 3) (pv 4))))
 a9)
 (ag (bA (aL b9 (pv 2) ba (aT _))
 (au (aV (bc vW (pv 3) (pv 4))))
 a9)
 (au (aV (bc G8 (pv 3) (pv 4))))))))))),rfl,?_⟩
 have n1:¬ ("box":Str) = "number":=by decide +kernel
 cases tr with
 | num m=>
   unfold dpT at hv
   simp only [Rep.bj,aS.aM,aS.bw,Rep.bF,Rep.bE] at hv
   obtain ⟨a,xs,rfl,hS,_,_,rfl,rfl,_,_,rfl,rfl,rfl⟩:=hv
   walk_at "rd"
   refine aI hS rfl ?_
   walk_at "rd"
   rw [if_pos trivial]
   exact aI hS rfl (q _ (aw.refl _))
 | box x=>
   unfold dpT at hv
   simp only [Rep.bj,aS.aM,aS.bw,Rep.bF,Rep.bE] at hv
   obtain ⟨a,xs,rfl,hS,_,_,rfl,rfl,_,_,rfl,rfl,rfl⟩:=hv
   walk_at "rd"
   refine aI hS rfl ?_
   walk_at "rd"
   rw [if_neg n1,if_pos trivial]
   obtain ⟨i,e,_⟩:=ok
   have q:=q _ (aw.refl _)
   rw [cu,F5 e] at q
   exact aI hS rfl ⟨d,.int i,rfl,qS.s hd e,q⟩
 | bin o l r=>
   unfold dpT at hv
   simp only [Rep.bj,aS.aM,aS.bw,Rep.bF,Rep.bE] at hv
   obtain ⟨a,xs,rfl,hS,_,_,rfl,rfl,vl,_,rfl,hl,vr,_,rfl,hr',rfl⟩:=hv
   obtain ⟨ho,ol,or'⟩:=ok
   have n2:¬ S o = "number":=by rcases ho with rfl | rfl | rfl <;> decide +kernel
   have n3:¬ S o = "box":=by rcases ho with rfl | rfl | rfl <;> decide +kernel
   have e1:(S o = "+")↔o=[43]:=by rw [show ("+":Str)=S [43] from rfl,oF]
   have e2:(S o = "-")↔o=[45]:=by rw [show ("-":Str)=S [45] from rfl,oF]
   walk_at "rd"
   refine aI hS rfl ?_
   walk_at "rd"
   rw [if_neg n2,if_neg n3]
   have wl:=lD ol
   have wr:=lD or'
   rw [PG.trd] at ht h6
   refine aI hS rfl ⟨vl,d,l,kv,rfl,hl,hd,ol,by lia,by lia,fun H1 s1=>?_⟩
   refine aI (s1.bC hS) rfl ⟨vr,d,r,kv,rfl,hr'.mono s1,s1 _ _ hd,or',by lia,by lia,fun H2 s2=>?_⟩
   walk_at "rd"
   have q:=q _ (s1.trans s2)
   rw [cu] at q
   refine cb (fun c=>?_) (fun c=>?_)
   · rw [if_pos (e1.mp c)] at q
     exact q
   rw [if_neg (fun z=>c (e1.mpr z))] at q
   refine cb (fun c=>?_) (fun c=>?_)
   · rw [if_pos (e2.mp c)] at q
     exact q
   rw [if_neg (fun z=>c (e2.mpr z))] at q
   exact ⟨⟨Ck wl (by lia),Ck wr (by lia)⟩,q⟩
theorem wz (T:Tx K mg t):∀ n,bW P w K mg base CX0 n t.ju t.uM ["e", "values"] (spW K n)
 | 0=>by
   have no:∀ vs H Q E,¬ spW K 0 vs H Q E:=fun vs H Q E ⟨_,_,_,_,_,_,_,_,h,_⟩=>by lia
   exact ⟨fun vs H Q E h=>absurd h (no vs H Q E),fun A outer s H args us vs Q E _ _ _ _ h=>absurd h (no vs H Q E)⟩
 | n + 1=>LG T (wz T n)
theorem Jp (T:Tx K mg t) {n:Nat} (fw:bW P w K mg base CX0 n t.dq t.iI ["e", "values"] (spW K n)) :
   bW P w K mg base CX0 (n + 1) t.dq t.iI ["e", "values"] (spW K (n + 1)):=by
 refine T.bB.F.okS rC (fun vs H Q E h=>?_) (fun cdv A outer s H vs Q E hr h=>?_)
 · obtain ⟨_,_,_,_,rfl,_⟩:=h
   rfl
 obtain ⟨v,d,tr,kv,rfl,hv,hd,ok,ht,h6,q⟩:=h
 have nd:=rC.nd
 have hu:=gv hr
 refine ⟨_,[some v,some (.ref d),none,none],(ag (bA (aL b9 (aD aP (pv 0) aj ak) ba (aT _))
 (au (aV (aD aP (pv 0) aj ak)))
 a9)
 (ag (bA (aL b9 (aD aP (pv 0) aj ak) ba (aT _))
 (au (aV (cv hu (pv 1) (aD aP (pv 0) aj ak) (fun _ _=>rfl))))
 a9)
 (ag (aR (i:=2) nd rfl (Or.inl rfl) (aJ fw (hr.mono (by omega)) rfl T.bB.m T.bB.F.kp T.bB.b .nil a8 (aa (aD aP (pv 0) aj ak) (aa (pv 1) ai ah) bg)))
 (ag (aR (i:=3) nd rfl (Or.inl rfl) (aJ fw (hr.mono (by omega)) rfl T.bB.m T.bB.F.kp T.bB.b .nil a8 (aa (aD aP (pv 0) aj ak) (aa (pv 1) ai ah) bg)))
 (au (aV (cv hu (MJ (yx ba (bc dX (pv 2) (pv 3)) (yx ba (bc vW (pv 2) (pv 3)) (yx ba (bc G8 (pv 2) (pv 3)) MI))) rfl rfl (by simp) (by decide)) (aD aP (pv 0) aj ak) (fun _ _=>rfl)))))))),rfl,?_⟩
 have n1:¬ ("box":Str) = "number":=by decide +kernel
 cases tr with
 | num m=>
   unfold dpT at hv
   simp only [Rep.bj,aS.aM,aS.bw,Rep.bF,Rep.bE] at hv
   obtain ⟨a,xs,rfl,hS,_,_,rfl,rfl,_,_,rfl,rfl,rfl⟩:=hv
   walk_at "rd"
   refine aI hS rfl ⟨rfl,?_⟩
   rw [if_pos rfl]
   exact aI hS rfl (q _ (aw.refl _))
 | box x=>
   unfold dpT at hv
   simp only [Rep.bj,aS.aM,aS.bw,Rep.bF,Rep.bE] at hv
   obtain ⟨a,xs,rfl,hS,_,_,rfl,rfl,_,_,rfl,rfl,rfl⟩:=hv
   walk_at "rd"
   refine aI hS rfl ⟨rfl,?_⟩
   rw [if_neg (fun z=>n1 (V.str.inj z))]
   refine aI hS rfl ⟨rfl,?_⟩
   rw [if_pos rfl]
   obtain ⟨i,e,_⟩:=ok
   have q:=q _ (aw.refl _)
   rw [cu,F5 e] at q
   exact aI hS rfl ⟨d,.int i,rfl,qS.s hd e,q⟩
 | bin o l r=>
   unfold dpT at hv
   simp only [Rep.bj,aS.aM,aS.bw,Rep.bF,Rep.bE] at hv
   obtain ⟨a,xs,rfl,hS,_,_,rfl,rfl,vl,_,rfl,hl,vr,_,rfl,hr',rfl⟩:=hv
   obtain ⟨ho,ol,or'⟩:=ok
   have n2:¬ S o = "number":=by rcases ho with rfl | rfl | rfl <;> decide +kernel
   have n3:¬ S o = "box":=by rcases ho with rfl | rfl | rfl <;> decide +kernel
   walk_at "rd"
   refine aI hS rfl ⟨rfl,?_⟩
   rw [if_neg (fun z=>n2 (V.str.inj z))]
   refine aI hS rfl ⟨rfl,?_⟩
   rw [if_neg (fun z=>n3 (V.str.inj z))]
   have wl:=lD ol
   have wr:=lD or'
   rw [PG.trd] at ht h6
   refine aI hS rfl ⟨vl,d,l,kv,rfl,hl,hd,ol,by lia,by lia,fun H1 s1=>?_⟩
   refine aI (s1.bC hS) rfl ⟨vr,d,r,kv,rfl,hr'.mono s1,s1 _ _ hd,or',by lia,by lia,fun H2 s2=>?_⟩
   simp only [NM,B9]
   walk_at "rd"
   intro p hp
   refine ⟨⟨Ck wl (by lia),Ck wr (by lia)⟩,ae,[(.inr (Str.ofString "+"),.int (cu (wkv kv) l + cu (wkv kv) r)),(.inr (Str.ofString "-"),.int (cu (wkv kv) l - cu (wkv kv) r)),(.inr (Str.ofString "*"),.int (cu (wkv kv) l * cu (wkv kv) r))],rfl,by simp,?_⟩
   have s3:=aw.new hp (.dK [])
   have sE:aw H2 (upd (upd H2 p (.dK [])) p (.dK (gX [] [(.inr (Str.ofString "+"),.int (cu (wkv kv) l + cu (wkv kv) r)),(.inr (Str.ofString "-"),.int (cu (wkv kv) l - cu (wkv kv) r)),(.inr (Str.ofString "*"),.int (cu (wkv kv) l * cu (wkv kv) r))]))):=by
     rw [Mv]
     exact aw.new hp _
   refine aI (((s1.trans s2).trans sE).bC hS) (v:=.str (S o)) (av (j:=0) rfl) ⟨p,.int (cu (wkv kv) (.bin o l r)),rfl,qS.s ae ?_,q _ ((s1.trans s2).trans sE)⟩
   rw [cu]
   exact Ni ho _ _ _
theorem zl (T:Tx K mg t):∀ n,bW P w K mg base CX0 n t.dq t.iI ["e", "values"] (spW K n)
 | 0=>by
   have no:∀ vs H Q E,¬ spW K 0 vs H Q E:=fun vs H Q E ⟨_,_,_,_,_,_,_,_,h,_⟩=>by lia
   exact ⟨fun vs H Q E h=>absurd h (no vs H Q E),fun A outer s H args us vs Q E _ _ _ _ h=>absurd h (no vs H Q E)⟩
 | n + 1=>Jp T (zl T n)
theorem xr (T:Tx K mg t):bW P w K mg base CX0 1 t.gG t.xp ["chart", "parts"] (Ji K t.aX):=by
 refine T.gI.F.okS xn (fun vs H Q E h=>?_) (fun cdv A outer s H vs Q E hr h=>?_)
 · obtain ⟨_,_,_,_,rfl,_⟩:=h
   rfl
 obtain ⟨p,a,pr,us,rfl,co,ha,lu,nb,lb,q⟩:=h
 have nd:=xn.nd
 refine ⟨_,[some (.ref p),some (.ref a)],(au (aV (yX rfl rfl T.mw rfl T.Bz (aa (cZ (pv 0) rfl) (aa (pv 1) ai ah) qC)))),rfl,?_⟩
 obtain ⟨dx,nl,sd,fa,va,st,wy,uu,ws,h1,h2,h3,_⟩:=co.at_
 walk_at "rd"
 simp only [tDZ]
 walk_at "rd"
 refine ⟨p,_,dx,_,.ref nl,rfl,h1,T.da,T.dP,rfl,?_⟩
 refine ⟨nl,a,pr.aG.map fun b=>.inr (S b.name),us,rfl,?_,ha,by rw [List.length_map]; exact lu,fun d hd=>?_⟩
 · rw [List.map_map]
   exact .of h3
 · rw [sZ,iy _ [] (by rw [List.nil_append,oU _ _ lu]; exact names_nodup nb),List.nil_append]
   exact q d _ (aw.new hd _) hd ae
theorem EG (T:Tx K mg t):bW P w K mg base CX0 1 t.gH t.xq ["chart", "named"] (Jj K t.aX):=by
 refine T.mv.F.okS xo (fun vs H Q E h=>?_) (fun cdv A outer s H vs Q E hr h=>?_)
 · obtain ⟨_,_,_,_,_,rfl,_⟩:=h
   rfl
 obtain ⟨p,d,pr,kvs,us,rfl,co,hd,lu,hv,lb,q⟩:=h
 have nd:=xo.nd
 have hu:=gv hr
 refine ⟨_,[some (.ref p),some (.ref d)],(au (aV (fU ky rfl T.ki PyProof.Rows.Boot.«tuple» (aa (jm (own:=["name"]) (ix:=[1]) rfl (by rfl) (by rfl) (eQ (cZ (pv 0) rfl)) (fun _ _ _ _=>(br (i:=0) (by show List.Nodup (["name", "named"]:List Str); decide +kernel) rfl (Or.inl rfl))) (fun _ _ _ _=>jl) (fun _ _ _ _=>(cv hu (pv 1) (pv 0) (fun _ _=>rfl)))) ai lW)))),rfl,?_⟩
 obtain ⟨dx,nl,sd,fa,va,st,wy,uu,ws,h1,h2,h3,_⟩:=co.at_
 walk_at "rd"
 simp only [kb]
 walk_at "rd"
 have ln:(pr.aG.map fun b=>V.str (S b.name)).length=pr.aG.length:=List.length_map ..
 refine ⟨p,_,dx,_,.ref nl,rfl,h1,T.da,T.dP,rfl,nl,rfl,⟨_,.of h3⟩,fun D hD=>?_⟩
 refine lC (K:=K) (r:=[some (V.ref d)]) (fun i=>us.getD i .non) (.of h3) (by rw [ln]; lia) hD (fun i x H2 hx s2 R hR=>?_) (fun H2 s2 h2=>⟨D,_,rfl,.inl ⟨.of h2,fun l hl=>?_⟩⟩)
 · have li:i < pr.aG.length:=by have:=(List.getElem?_eq_some_iff.mp hx).1; rw [ln] at this; exact this
   rw [List.getElem?_map,List.getElem?_eq_getElem li] at hx
   cases hx
   have g:=hv i li
   have li2:i < us.length:=by lia
   rw [List.getElem?_eq_getElem li2] at g
   have e:us.getD i .non=us[i]:=by rw [List.getD_eq_getElem?_getD,List.getElem?_eq_getElem li2]; rfl
   rw [e] at hR
   walk_at "rd"
   exact ⟨d,us[i],rfl,qS.s (s2 _ _ hd) g,hR⟩
 · have e:(List.range (pr.aG.map fun b=>V.str (S b.name)).length).map (fun i=>us.getD i .non)=us:=by
     rw [ln,← lu]
     have:=jD (fun v:V=>v) V.non us
     rw [List.map_id'] at this
     exact this
   rw [e]
   exact q l _ (s2.trans (aw.new hl _)) (.of ae)
theorem zm (T:Tx K mg t):bW P w K mg base CX0 1 t.iz t.zf ["chart", "row"] (Lr K t.aX):=by
 refine T.iC.F.okS zc (fun vs H Q E h=>?_) (fun cdv A outer s H vs Q E hr h=>?_)
 · obtain ⟨_,_,_,rfl,_⟩:=h
   rfl
 obtain ⟨p,pr,row,rfl,co,pw,q⟩:=h
 have nd:=zc.nd
 have hu:=gv hr
 obtain ⟨HL,uR,uT⟩:=T.zj
 refine ⟨_,[some (.ref p),some (.int row)],(ag (bA (aL b9 (pv 1) (tW rfl uR uT) (aT _))
 (au (aV ba))
 a9)
 (au (aV (aD aP (cv hu (cZ (pv 0) rfl) (pv 1) (fun _ _=>rfl)) aj ak)))),rfl,?_⟩
 obtain ⟨dx,nl,sd,fa,va,st,wy,uu,ws,h1,h2,h3,h4,h5,h6,h7,h8,h9,_⟩:=co.at_
 walk_at "rd"
 rcases q with ⟨rfl,q⟩ | ⟨n0,i,hi,er,q⟩
 · exact (if_pos rfl).mpr q
 · refine (if_neg n0).mpr ⟨p,_,dx,_,.ref st,rfl,h1,T.da,T.bZ,rfl,?_⟩
   have li:i < uu.length:=by lia
   obtain ⟨v,hv,rv⟩:=h9.get (i:=i) (d:=dpS (PG.aC pr.body)[i]) (by rw [List.getElem?_map,List.getElem?_eq_getElem hi]; rfl)
   have g:=oR _ _ h7 pw i hi v hv
   obtain ⟨sa,ys,rfl,hs⟩:=gO _ rv
   rw [er] at g
   exact ⟨st,.ref sa,rfl,.inl ⟨_,.inl row,.inl h8,rfl,g.symm⟩,aI hs (v:=.str (wdS (PG.aC pr.body)[i].wd)) (av (j:=0) rfl) q⟩
theorem LH (T:Tx K mg t):bW P w K mg base CX0 4 t.mn t.Ez ["chart", "standing"] (Nb K t.aX):=by
 have tq:=xr (P:=P) (w:=w) (base:=base) T
 have kj:=wz (P:=P) (w:=w) (base:=base) T 3
 refine T.yi.F.okS Ey (fun vs H Q E h=>?_) (fun cdv A outer s H vs Q E hr h=>?_)
 · obtain ⟨_,_,_,_,_,_,_,_,_,rfl,_⟩:=h
   rfl
 obtain ⟨p,sa,pr,vals,i,hi,sg,l,r,rfl,co,ok,⟨va,hsa,hva⟩,lv,cp,tl,tr,q⟩:=h
 have nd:=Ey.nd
 have hu:=gv hr
 refine ⟨_,[some (.ref p),some (.ref sa),none,none,none,none],(ag (aR (i:=2) nd rfl (Or.inl rfl) (cv hu (cZ (pv 0) rfl) (aD aP (pv 1) aj ak) (fun _ _=>rfl)))
 (ag (aR (i:=3) nd rfl (Or.inl rfl) (aJ tq (hr.mono (by omega)) rfl T.gI.m T.gI.F.kp T.gI.b .nil a8 (aa (pv 0) (aa (aD aP (pv 1) aj ak) ai bg) ah)))
 (ag (aR (i:=4) nd rfl (Or.inl rfl) (aJ kj (hr.mono (by omega)) rfl T.dw.m T.dw.F.kp T.dw.b .nil a8 (aa (aD aP (pv 2) aj ak) (aa (pv 3) ai ah) bg)))
 (ag (aR (i:=5) nd rfl (Or.inl rfl) (aJ kj (hr.mono (by omega)) rfl T.dw.m T.dw.F.kp T.dw.b .nil a8 (aa (aD aP (pv 2) aj ak) (aa (pv 3) ai ah) bg)))
 (ag (bA (aL b9 (aD aP (pv 2) aj ak) ba (aT _))
 (au (aV (t7 oy (pv 4) (pv 5) (aT _))))
 a9)
 (au (aV (t7 b9 (pv 4) (pv 5) (aT _))))))))),rfl,?_⟩
 obtain ⟨dx,nl,sd,fa,wa,st,wy,uu,ws,h1,h2,h3,h4,h5,h6,h7,h8,h9,_⟩:=co.at_
 have li:i < uu.length:=by lia
 obtain ⟨v,hv,rv⟩:=h9.get (i:=i) (d:=dpS (PG.aC pr.body)[i]) (by rw [List.getElem?_map,List.getElem?_eq_getElem hi]; rfl)
 have g:=oR _ _ h7 ok.pw i hi v hv
 obtain ⟨ta,w0,vl,vr,ys,rfl,hs,rl,rr⟩:=yY rv cp
 generalize (PG.aC pr.body)[i]=sm at *
 have e1:(V.str (S sg)=V.str (Str.ofString "<"))↔sg=[60]:=by rw [show (Str.ofString "<":Str)=S [60] from rfl,V.str.injEq,oF]
 refine ax fun U1 hU1=>?_
 walk_at "rd"
 refine ⟨p,_,dx,_,.ref st,rfl,h1,T.da,T.bZ,rfl,?_⟩
 refine aI hsa (v:=.int sm.row) (av (j:=0) rfl) ⟨st,.ref ta,rfl,.inl ⟨_,.inl sm.row,.inl h8,rfl,g.symm⟩,(hU1 _ _).mpr (ax fun U2 hU2=>?_)⟩
 clear hU1
 walk_at "rd"
 refine aI hsa (v:=.ref va) (av (j:=1) rfl) ⟨p,va,pr,vals.map V.int,rfl,co,hva,by rw [List.length_map]; exact lv,ok.nb,ok.few,fun d H2 s2 hd2 y2=>(hU2 _ _).mpr (ax fun U3 hU3=>?_)⟩
 clear hU2
 walk_at "rd"
 refine aI (s2.bC hs) (v:=vl) (av (j:=3) rfl) ⟨vl,d,l,_,rfl,rl.mono s2,y2,tl.1,by have:=tl.2; lia,by have:=tl.2; lia,fun H3 s3=>(hU3 _ _).mpr (ax fun U4 hU4=>?_)⟩
 clear hU3
 walk_at "rd"
 refine aI ((s2.trans s3).bC hs) (v:=vr) (av (j:=4) rfl) ⟨vr,d,r,_,rfl,rr.mono (s2.trans s3),s3 _ _ y2,tr.1,by have:=tr.2; lia,by have:=tr.2; lia,fun H4 s4=>(hU4 _ _).mpr ?_⟩
 clear hU4
 have q:=q _ ((s2.trans s3).trans s4)
 unfold mf at q
 walk_at "rd"
 refine aI (((s2.trans s3).trans s4).bC hs) (v:=.str (S sg)) (av (j:=2) rfl) ⟨rfl,cb (fun e=>?_) (fun e=>?_)⟩
 · rw [if_pos (e1.mp e)] at q
   exact q
 · rw [if_neg (fun z=>e (e1.mpr z))] at q
   exact q
theorem qW (T:Tx K mg t):bW P w K mg base CX0 5 t.cy t.jb ["chart", "standing"] (Jm K t.aX):=by
 have Nj:=LH (P:=P) (w:=w) (base:=base) T
 have wA:=zm (P:=P) (w:=w) (base:=base) T
 refine T.fk.F.okS ja (fun vs H Q E h=>?_) (fun cdv A outer s H vs Q E hr h=>?_)
 · obtain ⟨_,_,_,_,_,_,_,_,_,_,rfl,_⟩:=h
   rfl
 obtain ⟨p,sa,pr,vals,i,hi,hf,sg,l,r,rfl,co,ok,sta,lv,cp,tl,tr,w0,w1,q⟩:=h
 have nd:=ja.nd
 have hu:=gv hr
 refine ⟨_,[some (.ref p),some (.ref sa),none],(ag (aR (i:=2) nd rfl (Or.inl rfl) (aD aP (pv 1) aj ak))
 (ag (bA (vV (aJ Nj (hr.mono (by omega)) rfl T.yi.m T.yi.F.kp T.yi.b .nil a8 (aa (pv 0) (aa (pv 1) ai ah) ah)))
 (au (aV (aZ (aa (aD aP (cv hu (cZ (pv 0) rfl) (pv 2) (fun _ _=>rfl)) aj ak) (aa (aD aP (pv 1) aj ak) ai bg) bg))))
 a9)
 (ag (bA (aL b9 (aJ wA (hr.mono (by omega)) rfl T.iC.m T.iC.F.kp T.iC.b .nil a8 (aa (pv 0) (aa (pv 2) ai ah) ah)) ba (aT _))
 (au (aV dW))
 a9)
 (au (aV (aZ (aa (aD aP (cv hu (cZ (pv 0) rfl) (pv 2) (fun _ _=>rfl)) aj ak) (aa (aD aP (pv 1) aj ak) ai bg) bg))))))),rfl,?_⟩
 obtain ⟨va,hsa,hva⟩:=id sta
 have Td:=ok.pos _ (List.getElem_mem hi)
 refine ax fun U1 hU1=>?_
 walk_at "rd"
 refine aI hsa (v:=.int (PG.aC pr.body)[i].row) (av (j:=0) rfl) ((hU1 _ _).mpr ?_)
 clear hU1
 walk_at "rd"
 refine ⟨p,sa,pr,vals,i,hi,sg,l,r,rfl,co,ok,sta,lv,cp,tl,tr,fun H2 s2=>?_⟩
 obtain ⟨dx,fs,wy,wq,g1,g2,g3,g4⟩:=(co.mono s2).way ok i hi hf
 have qq:∀ (j:Nat) (x:Int),(PG.aU pr.body 0)[i].2.2[j]?=some x→atI ((PG.aU pr.body 0)[i].2.2.map V.int) (j:Int)=some (V.int x):=fun j x e=>av (by rw [List.getElem?_map,e]; rfl)
 have back:∀ (x:Int) (H3:Hp),aw H2 H3→∀ pp,H3 pp=none→oV K (upd H3 pp (.tup [V.int x,V.ref va])) (some (x,vals)) (.ref pp):=fun x H3 s3 pp hpp=>⟨pp,rfl,va,.of ae,((s2.trans s3).trans (aw.new hpp _)).bC hva⟩
 unfold jH at q
 rw [cp] at q
 simp only at q
 refine ⟨_,rfl,cb (fun e=>?_) (fun e=>?_)⟩
 · rw [if_pos e] at q
   have e0:(PG.aU pr.body 0)[i].2.2[0]?=some ((PG.aU pr.body 0)[i].2.2.getD 0 0):=by rw [List.getD_eq_getElem?_getD,List.getElem?_eq_getElem w0]; rfl
   refine ⟨p,_,dx,fs,.ref wy,rfl,g1,T.da,T.dC,g2,wy,.ref wq,rfl,g3,aI g4 (v:=.int ((PG.aU pr.body 0)[i].2.2.getD 0 0)) (qq 0 _ e0) (aI (s2.bC hsa) (v:=.ref va) (av (j:=1) rfl) fun pp hpp=>?_)⟩
   exact q _ _ (s2.trans (aw.new hpp _)) (back _ _ (aw.refl _) pp hpp)
 · rw [if_neg e] at q
   refine ⟨p,pr,_,rfl,co.mono s2,ok.pw,.inr ⟨by lia,i,hi,rfl,rfl,cb (fun e2=>?_) (fun e2=>?_)⟩⟩
   · have ew:(PG.aC pr.body)[i].wd=.cL:=(Lg _).mp e2
     rw [if_pos ew] at q
     exact q _ _ s2 rfl
   · have ew:(PG.aC pr.body)[i].wd≠.cL:=fun z=>e2 ((Lg _).mpr z)
     rw [if_neg ew] at q
     have w1:=w1 ew
     have e1:(PG.aU pr.body 0)[i].2.2[1]?=some ((PG.aU pr.body 0)[i].2.2.getD 1 0):=by rw [List.getD_eq_getElem?_getD,List.getElem?_eq_getElem w1]; rfl
     refine ⟨p,_,dx,fs,.ref wy,rfl,g1,T.da,T.dC,g2,wy,.ref wq,rfl,g3,aI g4 (v:=.int ((PG.aU pr.body 0)[i].2.2.getD 1 0)) (qq 1 _ e1) (aI (s2.bC hsa) (v:=.ref va) (av (j:=1) rfl) fun pp hpp=>?_)⟩
     exact q _ _ (s2.trans (aw.new hpp _)) (back _ _ (aw.refl _) pp hpp)
theorem HM:∀ w:PG.Wd,inV (V.str (wdS w)) [V.str (Str.ofString "must"),V.str (Str.ofString "if"),V.str (Str.ofString "while")]=decide (w=.cL∨w=.ifs∨w=.whl):=by
 intro w
 cases w <;> decide +kernel
theorem Ge:∀ w:PG.Wd,(wdS w=Str.ofString "ask")↔w=.ask:=by
 intro w
 cases w <;> decide +kernel
theorem Nk:∀ w:PG.Wd,(wdS w=Str.ofString "put")↔w=.put:=by
 intro w
 cases w <;> decide +kernel
theorem Nl:∀ w:PG.Wd,(wdS w=Str.ofString "say")↔w=.say:=by
 intro w
 cases w <;> decide +kernel
theorem oV.mono {H H':Hp} {o:Option (Int × List Int)} {v:V} (h:oV K H o v) (s:aw H H'):oV K H' o v:=by
 cases o with
 | none=>exact h
 | some x=>obtain ⟨a,e,sa⟩:=h; exact ⟨a,e,sa.mono s⟩
theorem cond_of {bs:List PG.Box} {vals:List Int} {st:PG.Stm} (h:st.wd=.cL∨st.wd=.ifs∨st.wd=.whl) (po:Hz bs vals st):∃ sg l r,xk st=some (sg,l,r)∧TrV bs vals l∧TrV bs vals r∧∀ ws fig,i6 bs st ws vals fig=(jH bs st ws vals,none):=by
 cases st <;> simp only [PG.Stm.wd,reduceCtorEq,or_self,or_false,false_or] at h <;> exact ⟨_,_,_,rfl,po.1,po.2,fun _ _=>rfl⟩
theorem LI {st:PG.Stm} (h:st.wd=.ask):∃ k b,st=.ask k b:=by
 cases st <;> first | exact ⟨_,_,rfl⟩ | cases h
theorem LJ {st:PG.Stm} (h:st.wd=.put):∃ k b e,st=.put k b e:=by
 cases st <;> first | exact ⟨_,_,_,rfl⟩ | cases h
theorem LK {st:PG.Stm} (h:st.wd=.say):∃ k e,st=.say k e:=by
 cases st <;> first | exact ⟨_,_,rfl⟩ | cases h
theorem Nm {st:PG.Stm} (h0:¬ (st.wd=.cL∨st.wd=.ifs∨st.wd=.whl)) (h1:st.wd≠.ask) (h2:st.wd≠.put) (h3:st.wd≠.say):∃ k,st=.stop k:=by
 cases st <;> simp only [PG.Stm.wd,reduceCtorEq,or_self,or_false,false_or,not_true,not_false_iff,ne_eq] at h0 h1 h2 h3 <;> exact ⟨_,rfl⟩
theorem BA {H:Hp} {k:Int} {b:W} {v:V} (h:Rep K H (dpS (.ask k b)) v):∃ a,v=.ref a∧SqT K H a [.str "ask",.int k,.str (S b)]:=by
 simp only [dpS,Rep.bj,aS.aM,aS.bw,Rep.bF,Rep.bE] at h
 obtain ⟨a,ys,rfl,hS,_,_,rfl,rfl,_,_,rfl,rfl,_,_,rfl,rfl,rfl⟩:=h
 exact ⟨a,rfl,hS⟩
theorem BB {H:Hp} {k:Int} {b:W} {e:PM.Tr} {v:V} (h:Rep K H (dpS (.put k b e)) v):∃ a u,v=.ref a∧SqT K H a [.str "put",.int k,.str (S b),u]∧Rep K H (dpT e) u:=by
 simp only [dpS,Rep.bj,aS.aM,aS.bw,Rep.bF,Rep.bE] at h
 obtain ⟨a,ys,rfl,hS,_,_,rfl,rfl,_,_,rfl,rfl,_,_,rfl,rfl,u,_,rfl,ru,rfl⟩:=h
 exact ⟨a,u,rfl,hS,ru⟩
theorem BC {H:Hp} {k:Int} {e:PM.Tr} {v:V} (h:Rep K H (dpS (.say k e)) v):∃ a u,v=.ref a∧SqT K H a [.str "say",.int k,u]∧Rep K H (dpT e) u:=by
 simp only [dpS,Rep.bj,aS.aM,aS.bw,Rep.bF,Rep.bE] at h
 obtain ⟨a,ys,rfl,hS,_,_,rfl,rfl,_,_,rfl,rfl,u,_,rfl,ru,rfl⟩:=h
 exact ⟨a,u,rfl,hS,ru⟩
theorem BZ (vals:List Int) (j:Nat) (x:Int):(vals.map V.int).set j (.int x)=(vals.set j x).map V.int:=by
 rw [List.map_set]
theorem qQ {bs:List PG.Box} (bp:∀ b∈bs,0 < b.size) (x:W):0 < fD bs x:=by
 unfold fD
 cases e:bs[c9 bs x]? with
 | none=>decide
 | some b=>exact bp b (List.mem_of_getElem? e)
theorem Gf (T:Tx K mg t):bW P w K mg base CX0 6 t.iA t.zh ["chart", "standing", "figure"] (Ls K t.aX):=by
 have tw:=qW (P:=P) (w:=w) (base:=base) T
 have tq:=xr (P:=P) (w:=w) (base:=base) T
 have Gg:=EG (P:=P) (w:=w) (base:=base) T
 have kj:=wz (P:=P) (w:=w) (base:=base) T 3
 refine T.qP.F.okS zd (fun vs H Q E h=>?_) (fun cdv A outer s H vs Q E hr h=>?_)
 · obtain ⟨_,_,_,_,_,_,_,_,_,rfl,_⟩:=h
   rfl
 obtain ⟨p,sa,fv,pr,vals,fig,i,hi,hf,rfl,co,ok,bp,sta,lv,hfv,po,w0,w1,q⟩:=h
 have nd:=zd.nd
 have hu:=gv hr
 refine ⟨_,[some (.ref p),some (.ref sa),some fv,none,none,none,none,none],(ag (aR (i:=3) nd rfl (Or.inl rfl) (aD aP (pv 1) aj ak))
 (ag (aR (i:=4) nd rfl (Or.inl rfl) (cv hu (cZ (pv 0) rfl) (pv 3) (fun _ _=>rfl)))
 (ag (aR (i:=5) nd rfl (Or.inl rfl) (aD aP (pv 4) aj ak))
 (ag (bA (aL qA (pv 5) (aZ (cX (vs:=[.str "must",.str "if",.str "while"]) (by kernel_rfl))) rfl)
 (au (aV (aZ (aa (aJ tw (hr.mono (by omega)) rfl T.fk.m T.fk.F.kp T.fk.b .nil a8 (aa (pv 0) (aa (pv 1) ai ah) ah)) (aa dW ai aW) bM))))
 a9)
 (ag (aR (i:=6) nd rfl (Or.inl rfl) (aJ tq (hr.mono (by omega)) rfl T.gI.m T.gI.F.kp T.gI.b .nil a8 (aa (pv 0) (aa (aD aP (pv 1) aj ak) ai bg) ah)))
 (ag (aR (i:=7) nd rfl (Or.inl rfl) dW)
 (ag (bA (aL b9 (pv 5) ba (aT _))
 (au (lU hu (pv 6) (aD aP (pv 4) aj ak) (bc cm (pv 2) (cv hu (cZ (pv 0) rfl) (aD aP (pv 4) aj ak) (fun _ _=>rfl))) rfl))
 (au (bA (aL b9 (pv 5) ba (aT _))
 (au (lU hu (pv 6) (aD aP (pv 4) aj ak) (bc cm (aJ kj (hr.mono (by omega)) rfl T.dw.m T.dw.F.kp T.dw.b .nil a8 (aa (aD aP (pv 4) aj ak) (aa (pv 6) ai ah) bg)) (cv hu (cZ (pv 0) rfl) (aD aP (pv 4) aj ak) (fun _ _=>rfl))) rfl))
 (au (bA (aL b9 (pv 5) ba (aT _))
 (au (aR (i:=7) nd rfl (Or.inl rfl) (aJ kj (hr.mono (by omega)) rfl T.dw.m T.dw.F.kp T.dw.b .nil a8 (aa (aD aP (pv 4) aj ak) (aa (pv 6) ai ah) bg))))
 a9)))))
 (au (aV (aZ (aa (aZ (aa (aD aP (cv hu (cZ (pv 0) rfl) (pv 3) (fun _ _=>rfl)) aj ak) (aa (aJ Gg (hr.mono (by omega)) rfl T.mv.m T.mv.F.kp T.mv.b .nil a8 (aa (pv 0) (aa (pv 6) ai ah) ah)) ai bM) bg)) (aa (pv 7) ai ah) eT))))))))))),rfl,?_⟩
 obtain ⟨va,hsa,hva⟩:=id sta
 obtain ⟨dx,nl,sd,fa,va',st,wy,uu,ws,h1,h2,h3,h4,h5,h6,h7,h8,h9,_⟩:=co.at_
 have li:i < uu.length:=by lia
 obtain ⟨v,hv,rv⟩:=h9.get (i:=i) (d:=dpS (PG.aC pr.body)[i]) (by rw [List.getElem?_map,List.getElem?_eq_getElem hi]; rfl)
 have g:=oR _ _ h7 ok.pw i hi v hv
 have sel:∃ ta ds,v=.ref ta∧SqT K H ta (.str (wdS (PG.aC pr.body)[i].wd) :: ds):=by
   generalize (PG.aC pr.body)[i]=sm at rv
   cases sm <;> (rw [dpS,Rep.bj] at rv; obtain ⟨ta,ys,rfl,hs,rs⟩:=rv; rw [aS.aM] at rs; obtain ⟨v0,t0,rfl,e0,rs⟩:=rs; rw [Rep.bF] at e0; subst e0; exact ⟨ta,_,rfl,hs⟩)
 obtain ⟨ta,ds,rfl,hs⟩:=sel
 refine ax fun U1 hU1=>?_
 walk_at "rd"
 refine aI hsa (v:=.int (PG.aC pr.body)[i].row) (av (j:=0) rfl) ((hU1 _ _).mpr (ax fun U2 hU2=>?_))
 clear hU1
 walk_at "rd"
 refine ⟨p,_,dx,_,.ref st,rfl,h1,T.da,T.bZ,rfl,⟨st,.ref ta,rfl,.inl ⟨_,.inl _,.inl h8,rfl,g.symm⟩,(hU2 _ _).mpr (ax fun U3 hU3=>?_)⟩⟩
 clear hU2
 walk_at "rd"
 refine aI hs (v:=.str (wdS (PG.aC pr.body)[i].wd)) (av (j:=0) rfl) ((hU3 _ _).mpr ?_)
 clear hU3
 refine ax fun U4 hU4=>?_
 walk_at "rd"
 intro z hz
 have sz:=aw.new hz (HO.tup [V.str (Str.ofString "must"),V.str (Str.ofString "if"),V.str (Str.ofString "while")])
 refine ⟨z,_,rfl,.inr (.of ae),rfl,rfl,_,rfl,cb (fun e=>?_) (fun e=>?_)⟩
 · have e:=e
   simp only [Bool.false_eq_true,if_false,HM,decide_eq_true_eq] at e
   obtain ⟨sg,l,r,cp,tl,tr,es⟩:=cond_of e po
   rw [es] at q
   refine ⟨p,sa,pr,vals,i,hi,hf,sg,l,r,rfl,co.mono sz,ok,sta.mono sz,lv,cp,tl,tr,w0,fun nm=>w1 (by rcases e with e | e | e; exact absurd e nm; exact .inl e; exact .inr e),fun v H2 s2 os pp hpp=>?_⟩
   exact q pp v _ ((sz.trans s2).trans (aw.new hpp _)) (.of ae) (oV.mono os (aw.new hpp _))
 have e0:=e
 simp only [Bool.false_eq_true,if_false,HM,decide_eq_true_eq] at e0
 refine (hU4 _ _).mpr (ax fun U5 hU5=>?_)
 clear hU4 e
 walk_at "rd"
 refine aI (sz.bC hsa) (v:=.ref va) (av (j:=1) rfl) ⟨p,va,pr,vals.map V.int,rfl,co.mono sz,sz.bC hva,by rw [List.length_map]; exact lv,ok.nb,ok.few,fun d H2 s2' hd2 y2=>(hU5 _ _).mpr (ax fun U6 hU6=>?_)⟩
 clear hU5
 have s2:=sz.trans s2'
 have hd:=sz.free hd2
 walk_at "rd"
 refine (hU6 _ _).mpr (ax fun U7 hU7=>?_)
 clear hU6
 have fin:∀ (H5:Hp) (kvs:List (Key × V)) (us:List Int) (sd:Option Int),aw H H5→H5 d=some (.dK kvs)→us.length=pr.aG.length→(∀ i (hi:i < pr.aG.length),dR kvs (.inr (S pr.aG[i].name))=(us.map V.int)[i]?)→
     i6 pr.aG (PG.aC pr.body)[i] (PG.aU pr.body 0)[i].2.2 vals fig=(some ((PG.aU pr.body 0)[i].2.2.getD 0 0,us),sd)→
     U7 [some (.ref p),some (.ref sa),some fv,some (.int (PG.aC pr.body)[i].row),some (.ref ta),some (.str (wdS (PG.aC pr.body)[i].wd)),some (.ref d),some (nC sd)] H5:=by
   intro H5 kvs us sd' s5 hd5 lu look es
   rw [es] at q
   refine (hU7 _ _).mpr ?_
   clear hU7
   walk_at "rd"
   obtain ⟨dx,fs,wy,wq,g1,g2,g3,g4⟩:=(co.mono s5).way ok i hi hf
   have e0:(PG.aU pr.body 0)[i].2.2[0]?=some ((PG.aU pr.body 0)[i].2.2.getD 0 0):=by rw [List.getD_eq_getElem?_getD,List.getElem?_eq_getElem w0]; rfl
   have qq:atI ((PG.aU pr.body 0)[i].2.2.map V.int) ((0:Nat):Int)=some (V.int ((PG.aU pr.body 0)[i].2.2.getD 0 0)):=av (by rw [List.getElem?_map,e0]; rfl)
   refine ⟨p,_,dx,fs,.ref wy,rfl,g1,T.da,T.dC,g2,wy,.ref wq,rfl,g3,aI g4 (v:=.int ((PG.aU pr.body 0)[i].2.2.getD 0 0)) qq ?_⟩
   refine ⟨p,d,pr,kvs,us.map V.int,rfl,co.mono s5,hd5,by rw [List.length_map]; exact lu,look,ok.few,fun a H6 s6 sq p1 hp1 p2 hp2=>?_⟩
   exact q p2 _ _ (((s5.trans s6).trans (aw.new hp1 _)).trans (aw.new hp2 _)) (.of ae) ⟨p1,rfl,a,(aw.new hp2 _).bC (.of ae),((aw.new hp1 _).trans (aw.new hp2 _)).bC sq⟩
 have Q3:(cU pr.aG (vals.map V.int)).length < sizeLine:=by
   have line:sizeLine=2 ^ 24:=rfl
   have:=ok.few
   unfold cU
   rw [List.length_zipWith]
   lia
 have keep:∀ i (hi:i < pr.aG.length),dR (cU pr.aG (vals.map V.int)) (.inr (S pr.aG[i].name))=(vals.map V.int)[i]?:=fun i hi=>by
   have li:i < (vals.map V.int).length:=by rw [List.length_map]; lia
   rw [lE pr.aG (vals.map V.int) (by rw [List.length_map]; exact lv) ok.nb i hi _ (List.getElem?_eq_getElem li),List.getElem?_eq_getElem li]
 have put:∀ (b:W),b∈pr.aG.map (·.name)→∀ (x:Int),(Az pr.aG vals b x).length=pr.aG.length∧∀ i (hi:i < pr.aG.length),dR (putK (cU pr.aG (vals.map V.int)) (.inr (S b)) (.int x)) (.inr (S pr.aG[i].name))=((Az pr.aG vals b x).map V.int)[i]?:=fun b hb x=>by
   refine ⟨by unfold Az; rw [List.length_set]; exact lv,fun i hi=>?_⟩
   rw [F6 (by rw [List.length_map]; exact lv) ok.nb hb,BZ]
   rfl
 have Q4:∀ H3 o,aw H H3→aw H (upd H3 d o):=fun H3 o s3=>((bD.of s3:bD d H H3).put o).same hd
 walk_at "rd"
 refine cb (fun e=>?_) (fun e=>?_)
 · obtain ⟨k,b,esm⟩:=LI ((Ge _).mp e)
   have rv:=rv
   rw [esm] at rv po
   obtain ⟨_,ee,hT⟩:=BA rv
   cases ee
   have efv:=hfv ((Ge _).mp e)
   subst efv
   obtain ⟨l1,l2⟩:=put b po (fig % fD pr.aG b)
   refine ⟨p,_,dx,_,.ref sd,rfl,s2 _ _ h1,T.da,T.dQ,rfl,aI (s2.bC hT) (v:=.str (S b)) (av (j:=2) rfl) ⟨sd,.int (fD pr.aG b),rfl,.inl ⟨_,.inr (S b),.inl (s2 _ _ h4),rfl,(Es ok.nb po).symm⟩,?_⟩⟩
   refine ⟨_,_,rfl,rfl,qQ bp b,aI (s2.bC hT) (v:=.str (S b)) (av (j:=2) rfl) ⟨d,_,rfl,.inl ⟨_,.inr (S b),y2,rfl,Q3,rfl⟩,?_⟩⟩
   exact fin _ _ _ none (Q4 _ _ s2) ae l1 l2 (by rw [esm]; rfl)
 refine cb (fun e2=>?_) (fun e2=>?_)
 · obtain ⟨k,b,tr,esm⟩:=LJ ((Nk _).mp e2)
   have rv:=rv
   rw [esm] at rv po
   obtain ⟨_,u,ee,hT,ru⟩:=BB rv
   cases ee
   obtain ⟨l1,l2⟩:=put b po.1 (wv pr.aG vals tr % fD pr.aG b)
   refine aI (s2.bC hT) (v:=u) (av (j:=3) rfl) ⟨u,d,tr,_,rfl,ru.mono s2,y2,po.2.1,by have:=po.2.2; lia,by have:=po.2.2; lia,fun H3 s3'=>?_⟩
   have s3:=s2.trans s3'
   refine ⟨p,_,dx,_,.ref sd,rfl,s3 _ _ h1,T.da,T.dQ,rfl,aI (s3.bC hT) (v:=.str (S b)) (av (j:=2) rfl) ⟨sd,.int (fD pr.aG b),rfl,.inl ⟨_,.inr (S b),.inl (s3 _ _ h4),rfl,(Es ok.nb po.1).symm⟩,?_⟩⟩
   refine ⟨_,_,rfl,rfl,qQ bp b,aI (s3.bC hT) (v:=.str (S b)) (av (j:=2) rfl) ⟨d,_,rfl,.inl ⟨_,.inr (S b),s3' _ _ y2,rfl,Q3,rfl⟩,?_⟩⟩
   exact fin _ _ _ none (Q4 _ _ s3) ae l1 l2 (by rw [esm]; rfl)
 refine cb (fun e3=>?_) (fun e3=>?_)
 · obtain ⟨k,tr,esm⟩:=LK ((Nl _).mp e3)
   have rv:=rv
   rw [esm] at rv po
   obtain ⟨_,u,ee,hT,ru⟩:=BC rv
   cases ee
   refine aI (s2.bC hT) (v:=u) (av (j:=2) rfl) ⟨u,d,tr,_,rfl,ru.mono s2,y2,po.1,by have:=po.2; lia,by have:=po.2; lia,fun H3 s3'=>?_⟩
   exact fin _ _ _ (some _) (s2.trans s3') (s3' _ _ y2) lv keep (by rw [esm]; rfl)
 obtain ⟨k,esm⟩:=Nm e0 (fun z=>e ((Ge _).mpr z)) (fun z=>e2 ((Nk _).mpr z)) (fun z=>e3 ((Nl _).mpr z))
 exact fin _ _ _ none s2 y2 lv keep (by rw [esm]; rfl)
theorem uU (T:Tx K mg t):bW P w K mg base CX0 1 t.bJ t.fP ["self"] (Lz K t.aX t.b3):=by
 refine T.eR.okS iN (fun vs H Q E h=>?_) (fun cdv A outer s H vs Q E hr h=>?_)
 · obtain ⟨_,_,_,_,_,_,_,_,rfl,_⟩:=h
   rfl
 obtain ⟨wk,ch,fl,pr,aY,n,row,vals,rfl,wo,q⟩:=h
 have nd:=iN.nd
 obtain ⟨HL,uR,uT⟩:=T.zj
 refine ⟨_,[some (.ref wk)],(au (bA (aL b9 (aD aP (cZ (pv 0) rfl) aj ak) (tW rfl uR uT) (aT _))
 (au (gU (pv 0) (aZ (aa ba ai aW)) rfl))
 a9)),rfl,?_⟩
 obtain ⟨dx,sa,ev,hw,sta,he⟩:=wo.at_
 obtain ⟨va,st1,st2⟩:=id sta
 walk_at "rd"
 refine ⟨wk,_,dx,_,.ref sa,rfl,hw,T.b6,T.bL,rfl,aI st1 (v:=.int row) (av (j:=0) rfl) ⟨rfl,cb (fun e=>fun p hp=>?_) (fun e=>?_)⟩⟩
 · have e:=V.int.inj e
   have s1:=aw.new hp (.tup [V.str (Str.ofString "end")])
   refine ⟨wk,_,dx,_,rfl,s1 _ _ hw,T.b6,T.cK,(show 5 < 1000 by decide),?_⟩
   refine q _ ((bD.of s1).put _) ?_
   unfold PG.endAt
   rw [if_pos e]
   exact (wo.mono s1).put (s1 _ _ hw) (sta.mono s1) ⟨p,rfl,.of ae⟩
 · refine q _ (.refl _ _) ?_
   unfold PG.endAt
   rw [if_neg (fun z=>e (by rw [z]))]
   exact wo
theorem Cu (T:Tx K mg t):bW P w K mg base CX0 2 t.eG t.mq ["self", "chart", "figures"] (Ly K t.aX t.b3):=by
 have gi:=uU (P:=P) (w:=w) (base:=base) T
 refine T.kh.okS uL (fun vs H Q E h=>?_) (fun cdv A outer s H vs Q E hr h=>?_)
 · obtain ⟨_,_,_,_,_,_,rfl,_⟩:=h
   rfl
 obtain ⟨wk,dx,ch,fl,pr,aY,rfl,hw,co,hf,q⟩:=h
 have nd:=uL.nd
 refine ⟨_,[some (.ref wk),some (.ref ch),some (.ref fl)],(ag (gU (pv 0) (pv 1) rfl)
 (ag (gU (pv 0) (pv 2) rfl)
 (ag (gU (pv 0) aj rfl)
 (ag (gU (pv 0) (cZ (pv 1) rfl) rfl)
 (ag (gU (pv 0) dW rfl)
 (au (b8 (t9 (pv 0) T.b6 T.jd gi (hr.mono (by omega)) T.jc .nil a8)))))))),rfl,?_⟩
 obtain ⟨cdx,nl,sd,fa,va,st,wy,us,ws,h1,h2,h3,h4,h5,h6,S5⟩:=co.at_
 have nc:ch≠wk:=c7 h1 hw (by intro z; injection z with _ _ z; cases z)
 walk_at "rd"
 refine ⟨wk,_,dx,_,rfl,hw,T.b6,T.eO,by decide,?_⟩
 refine ⟨wk,_,dx,_,rfl,ae,T.b6,T.c6,Nat.lt_of_le_of_lt (hG (Nat.le_refl 0)) (by decide),?_⟩
 refine ⟨wk,_,dx,_,rfl,ae,T.b6,T.dE,Nat.lt_of_le_of_lt (hG (hG (Nat.le_refl 0))) (by decide),?_⟩
 refine ⟨ch,_,cdx,_,.ref fa,rfl,by rw [az nc,az nc,az nc]; exact h1,T.da,T.eW,rfl,?_⟩
 refine ⟨wk,_,dx,_,rfl,ae,T.b6,T.bL,Nat.lt_of_le_of_lt (hG (hG (hG (Nat.le_refl 0)))) (by decide),?_⟩
 refine ⟨wk,_,dx,_,rfl,ae,T.b6,T.cK,Nat.lt_of_le_of_lt (hG (hG (hG (hG (Nat.le_refl 0))))) (by decide),?_⟩
 have sta:hC K H fa (PG.aQ pr.body 0) (pr.aG.map (·.first)):=⟨va,.of h5,.of (by rw [List.map_map]; exact h6)⟩
 have u5:=fun o1 o2 o3 o4 o5=>(((((bD.refl wk H).put o1).put o2).put o3).put o4).put o5
 refine ⟨wk,dx,_,rfl,ae,rfl,wk,ch,fl,pr,aY,0,_,_,rfl,⟨⟨dx,fa,.non,ae,sta.ins hw (u5 _ _ _ _ _),rfl⟩,co.ins hw nc (u5 _ _ _ _ _),hf.ins hw (u5 _ _ _ _ _),nc⟩,fun H6 u6 w6=>q _ ((u5 _ _ _ _ _).trans u6) w6⟩
theorem EH (T:Tx K mg t):bW P w K mg base CX0 2 t.ck t.hZ ["self"] (Nf K t.aX t.b3):=by
 have wA:=zm (P:=P) (w:=w) (base:=base) T
 refine T.gf.okS kc (fun vs H Q E h=>?_) (fun cdv A outer s H vs Q E hr h=>?_)
 · obtain ⟨_,_,_,_,_,_,_,_,_,_,rfl,_⟩:=h
   rfl
 obtain ⟨wk,ch,fl,pr,aY,n,vals,e,i,hi,rfl,ok,wo,q⟩:=h
 have nd:=kc.nd
 refine ⟨_,[some (.ref wk)],(au (aV (t7 b9 (aJ wA (hr.mono (by omega)) rfl T.iC.m T.iC.F.kp T.iC.b .nil a8 (aa (cZ (pv 0) rfl) (aa (aD aP (cZ (pv 0) rfl) aj ak) ai bg) qC)) ba (aT _)))),rfl,?_⟩
 obtain ⟨dx,sa,ev,hw,⟨va,st1,st2⟩,he⟩:=wo.at_
 have pos:=ok.pos _ (List.getElem_mem hi)
 walk_at "rd"
 refine ⟨wk,_,dx,_,.ref ch,rfl,hw,T.b6,T.eO,rfl,wk,_,dx,_,.ref sa,rfl,hw,T.b6,T.bL,rfl,aI st1 (v:=.int (PG.aC pr.body)[i].row) (av (j:=0) rfl) ⟨ch,pr,_,rfl,wo.ch_,ok.pw,.inr ⟨by lia,i,hi,rfl,?_⟩⟩⟩
 have e:decide (V.str (wdS (PG.aC pr.body)[i].wd)=V.str (Str.ofString "ask"))=decide ((PG.aC pr.body)[i].wd=.ask):=decide_eq_decide.mpr ⟨fun z=>(Ge _).mp (V.str.inj z),fun z=>congrArg V.str ((Ge _).mpr z)⟩
 refine ⟨rfl,?_⟩
 rw [e]
 exact q
theorem Gh (T:Tx K mg t):bW P w K mg base CX0 7 t.dv t.kC ["self"] (Pa K t.aX t.b3):=by
 have gi:=uU (P:=P) (w:=w) (base:=base) T
 have wB:=EH (P:=P) (w:=w) (base:=base) T
 have Jq:=Gf (P:=P) (w:=w) (base:=base) T
 refine T.jy.okS rE (fun vs H Q E h=>?_) (fun cdv A outer s H vs Q E hr h=>?_)
 · obtain ⟨_,_,_,_,_,_,_,_,rfl,_⟩:=h
   rfl
 obtain ⟨wk,ch,fl,pr,aY,n,row,vals,rfl,dr,wo,wC,sok,hn,LL,q⟩:=h
 have nd:=rE.nd
 refine ⟨_,[some (.ref wk),none,none],(ag (aR (i:=1) nd rfl (Or.inl rfl) dW)
 (ag (bA (vV (t9 (pv 0) T.b6 T.wx wB (hr.mono (by omega)) T.wu .nil a8))
 (ag (bA (aL b9 (cZ (pv 0) rfl) (bO bq rfl T.fE PyProof.Rows.Boot.«len» (aa (cZ (pv 0) rfl) ai qC)) (aT _))
 (ag (gU (pv 0) (aZ (aa ba ai aW)) rfl)
 (au (aV dW)))
 a9)
 (ag (aR (i:=1) nd rfl (Or.inl rfl) (aD bt (cZ (pv 0) rfl) (cZ (pv 0) rfl) MR))
 (au (Ir (pv 0) aj Ox))))
 a9)
 (ag (aR (i:=2) nd rfl (Or.inl rfl) (aJ Jq (hr.mono (by omega)) rfl T.qP.m T.qP.F.kp T.qP.b .nil a8 (aa (cZ (pv 0) rfl) (aa (cZ (pv 0) rfl) (aa (pv 1) ai ah) qC) qC)))
 (ag (bA (aL BX (aD aP (pv 2) aj ak) dW (aT _))
 (au (gU (pv 0) (aZ (aa ba (aa (aD aP (cZ (pv 0) rfl) aj ak) ai bg) aW)) rfl))
 (ag (gU (pv 0) (aD aP (pv 2) aj ak) rfl)
 (au (b8 (t9 (pv 0) T.b6 T.jd gi (hr.mono (by omega)) T.jc .nil a8)))))
 (au (aV (aD aP (pv 2) aj ak))))))),rfl,?_⟩
 obtain ⟨i,hi,rfl⟩:=sok.row.resolve_left wC
 obtain ⟨hf,ek,ew⟩:=lF pr.body i hi
 obtain ⟨w0,w1⟩:=PG.iw pr.body 0 _ (List.getElem_mem hf)
 rw [ew] at w1
 obtain ⟨po,so⟩:=Lu sok.len dr.ok.nb sok.small (PG.l9 pr.body _ dr.own (List.getElem_mem hi))
 have bp:∀ b∈pr.aG,0 < b.size:=fun b hb=>by have:=dr.size b hb; lia
 have ea:qV pr.body (PG.aC pr.body)[i].row=decide ((PG.aC pr.body)[i].wd=.ask):=by unfold qV; rw [yg dr.ok.pw i hi]
 have es:∀ f,i9 pr (PG.aC pr.body)[i].row vals f=i6 pr.aG (PG.aC pr.body)[i] (PG.aU pr.body 0)[i].2.2 vals f:=fun f=>by unfold i9; rw [yg dr.ok.pw i hi,HE dr.ok.pw i hi hf]
 obtain ⟨dx,sa,ev,hw,sta,he⟩:=wo.at_
 have he:ev=.non:=he
 subst he
 refine ax fun U1 hU1=>?_
 walk_at "rd"
 refine (hU1 _ _).mpr (ax fun U2 hU2=>?_)
 clear hU1
 have rest:∀ (H2:Hp) (n':Nat) (fv:V) (f:Int),bD wk H H2→WkO K t.aX t.b3 H2 wk ch fl pr aY n' (PG.aC pr.body)[i].row vals none→((PG.aC pr.body)[i].wd=.ask→fv=.int f)→n'≤aY.length→PG.take1 (qV pr.body (PG.aC pr.body)[i].row) (aY.drop n)=some (f,aY.drop n')→U2 [some (.ref wk),some fv,none] H2:=by
   intro H2 n' fv f u2 wo2 hfv hn' ht
   obtain ⟨dx2,sa2,ev2,hw2,Q5,he2⟩:=wo2.at_
   have he2:ev2=.non:=he2
   subst he2
   refine (hU2 _ _).mpr (ax fun U3 hU3=>?_)
   clear hU2
   walk_at "rd"
   refine ⟨wk,_,dx2,_,.ref ch,rfl,hw2,T.b6,T.eO,rfl,wk,_,dx2,_,.ref sa2,rfl,hw2,T.b6,T.bL,rfl,ch,sa2,fv,pr,vals,f,i,hi,hf,rfl,wo2.ch_,dr.ok,bp,Q5,sok.len,hfv,po,w0,w1,fun q1 sv H3 s3 k1 o1=>(hU3 _ _).mpr ?_⟩
   clear hU3
   have wo3:=wo2.mono s3
   have hw3:=s3 _ _ hw2
   have Q6:=Q5.mono s3
   have u3:=u2.trans (.of s3)
   have sst:=fun x s=>wt.step (f:=f) (x:=x) (s:=s) dr hi hf sok.len sok.small
   rcases hst:i6 pr.aG (PG.aC pr.body)[i] (PG.aU pr.body 0)[i].2.2 vals f with ⟨o,sd⟩
   have es2:=(es f).trans hst
   rw [hst] at k1 o1
   simp only at k1 o1
   refine ax fun U4 hU4=>?_
   walk_at "rd"
   refine aI k1 (v:=sv) (av (j:=0) rfl) ?_
   cases o with
   | none=>
     have o1:sv=.non:=o1
     subst o1
     have eg:=Et ht es2
     rw [eg] at q
     obtain ⟨va3,st1,st2⟩:=id Q6
     refine cb (fun _=>?_) (fun z=>absurd rfl z)
     refine ⟨wk,_,dx2,_,.ref sa2,rfl,hw3,T.b6,T.bL,rfl,aI st1 (v:=.int (PG.aC pr.body)[i].row) (av (j:=0) rfl) fun p hp=>?_⟩
     have s4:=aw.new hp (.tup [V.str (Str.ofString "must"),V.int (PG.aC pr.body)[i].row])
     refine ⟨wk,_,dx2,_,rfl,s4 _ _ hw3,T.b6,T.cK,(show 5 < 1000 by decide),(hU4 _ _).mpr ?_⟩
     walk_at "rd"
     refine aI ((s4.bC k1).ins (s4 _ _ hw3) ((bD.refl _ _).put _)) (v:=nC sd) (av (j:=1) rfl) (q _ n' (u3.trans ((bD.of s4).put _)) hn' rfl ((wo3.mono s4).put (s4 _ _ hw3) (Q6.mono s4) ⟨p,rfl,.of ae⟩) sok)
   | some x=>
     obtain ⟨sa4,rfl,Pe⟩:=o1
     have eg:=Eu ht es2
     rw [eg] at q
     refine cb (fun z=>by cases z) (fun _=>?_)
     refine aI k1 (v:=.ref sa4) (av (j:=0) rfl) ⟨wk,_,dx2,_,rfl,hw3,T.b6,T.bL,(show 5 < 1000 by decide),?_⟩
     have u4:bD wk H3 (upd H3 wk (.ins t.b3 dx2 (wkF ch fl n' sa4 .non))):=(bD.refl _ _).put _
     have wo4:=wo3.put hw3 (n':=n') Pe (show AA K H3 none .non from rfl)
     refine ⟨wk,dx2,_,rfl,ae,rfl,wk,ch,fl,pr,aY,n',x.1,x.2,rfl,wo4,fun H5 u5 wo5=>(hU4 _ _).mpr ?_⟩
     walk_at "rd"
     refine aI ((k1.ins hw3 u4).ins ae u5) (v:=nC sd) (av (j:=1) rfl) (q _ n' (u3.trans (u4.trans u5)) hn' rfl wo5 (sst x sd hst))
 walk_at "rd"
 refine ⟨wk,dx,_,rfl,hw,rfl,wk,ch,fl,pr,aY,n,vals,none,i,hi,rfl,dr.ok,wo,?_⟩
 refine ⟨_,rfl,cb (fun e=>?_) (fun e=>?_)⟩
 · have ew:(PG.aC pr.body)[i].wd=.ask:=by simpa using e
   refine ⟨wk,_,dx,_,.int n,rfl,hw,T.b6,T.dE,rfl,wk,_,dx,_,.ref fl,rfl,hw,T.b6,T.c6,rfl,fl,_,rfl,.inl wo.fl_,rfl,cb (fun e2=>fun p hp=>?_) (fun e2=>?_)⟩
   · have e2:=V.int.inj e2
     rw [List.length_map] at e2
     have s1:=aw.new hp (.tup [V.str (Str.ofString "out")])
     refine ⟨wk,_,dx,_,rfl,s1 _ _ hw,T.b6,T.cK,(show 5 < 1000 by decide),?_⟩
     have ed:aY.drop n=[]:=List.drop_eq_nil_of_le (by lia)
     have eg:=HG (pr:=pr) (row:=(PG.aC pr.body)[i].row) (vals:=vals) (left:=aY.drop n) (by rw [ea,ed]; simp [PG.take1,ew])
     rw [eg] at q
     exact q _ n ((bD.of s1).put _) hn rfl ((wo.mono s1).put (s1 _ _ hw) (sta.mono s1) ⟨p,rfl,.of ae⟩) sok
   · rw [List.length_map] at e2
     have ln:n < aY.length:=by
       have:n≠aY.length:=fun z=>e2 (by rw [z])
       lia
     refine ⟨wk,_,dx,_,.ref fl,rfl,hw,T.b6,T.c6,rfl,wk,_,dx,_,.int n,rfl,hw,T.b6,T.dE,rfl,bK wo.fl_ (v:=.int aY[n]) (av (by rw [List.getElem?_map,List.getElem?_eq_getElem ln]; rfl)) ?_⟩
     refine ⟨wk,_,dx,_,.int n,rfl,hw,T.b6,T.dE,rfl,?_⟩
     refine ⟨n,1,rfl,rfl,dx,_,hw,(show 5 < 1000 by decide),?_⟩
     refine rest _ (n + 1) _ aY[n] ((bD.refl _ _).put _) (wo.put hw (n':=n + 1) sta (show AA K H none .non from rfl)) (fun _=>rfl) ln ?_
     rw [ea,decide_eq_true ew,List.drop_eq_getElem_cons ln]
     rfl
 · have ew:(PG.aC pr.body)[i].wd≠.ask:=by simpa using e
   refine rest H n .non 0 (.refl _ _) wo (fun z=>absurd z ew) hn ?_
   rw [ea,decide_eq_false ew]
   rfl
theorem Pf (T:Tx K mg t) (eI:bW P w K mg base CX0 1 t.cV t.gb ["body", "behind"] (uw K)) (fF:bW P w K mg base CX0 6 t.bU t.dF ["body"] (qJ K 4)) (Gd:bW P w K mg base CX0 7 t.mm t.yh ["program"] (FZ K)) :
   bW P w K mg base CX0 10 t.zg t.LD ["program", "figures", "bound"] (QZ K):=by
 have Cv:=AB (P:=P) (w:=w) (base:=base) T eI fF Gd
 have EI:=Cu (P:=P) (w:=w) (base:=base) T
 have Cw:=Gh (P:=P) (w:=w) (base:=base) T
 refine T.lJ.F.okS LB (fun vs H Q E h=>?_) (fun cdv A outer s H vs Q E hr h=>?_)
 · obtain ⟨_,_,_,_,_,rfl,_⟩:=h
   rfl
 obtain ⟨v,fl,pr,aY,bound,rfl,dr,rp,hf,LL,hb,q⟩:=h
 have nd:=LB.nd
 refine ⟨_,[some v,some (.ref fl),some (.int bound),none,none,none,none],(ag (aR (i:=3) nd rfl (Or.inl rfl) (GZ T.uQ EI (hr.mono (by omega)) rfl T.Nh T.EA .nil a8 (aa (GZ T.o8 Cv (hr.mono (by omega)) rfl T.LF T.Cq .nil a8 (aa (pv 0) ai ah)) (aa (pv 1) ai ah) bM)))
 (ag (aR (i:=4) nd rfl (Or.inl rfl) (bH ai))
 (ag (aR (i:=5) nd rfl (Or.inl rfl) (bH ai))
 (ag (tX PassesOwn.never (PW.pt (pw_and (aL BX (cZ (pv 3) rfl) dW (aT _)) (pw_and1 (aL oy (bO bq rfl T.fE PyProof.Rows.Boot.«len» (aa (pv 4) ai ah)) (pv 2) (aT _)))))
 (ag (b8 (fz PySem.F.plainAttrs_list PySem.F.slot_list_append PySem.F.type_list_append bX (pv 4) (aa (aD aP (cZ (pv 3) rfl) aj ak) ai bg)))
 (ag (aR (i:=6) nd rfl (Or.inl rfl) (t9 (pv 3) T.b6 T.Cs Cw (hr.mono (by omega)) T.Cr .nil a8))
 (au (bA (aL BY (pv 6) dW (aT _))
 (au (b8 (fz PySem.F.plainAttrs_list PySem.F.slot_list_append PySem.F.type_list_append bX (pv 5) (aa (pv 6) ai ah))))
 a9)))))
 (ag (bA (aL BX (cZ (pv 3) rfl) dW (aT _))
 (au (aV (aZ (aa (pv 4) (aa (pv 5) (aa (aZ (aa ba ai aW)) ai eT) ah) ah))))
 a9)
 (au (aV (aZ (aa (pv 4) (aa (pv 5) (aa (cZ (pv 3) rfl) ai qC) ah) ah))))))))),rfl,?_⟩
 have line:sizeLine=2 ^ 24:=rfl
 refine ax fun U1 hU1=>?_
 walk_at "rd"
 intro p dx hp hdx ne
 have s1:aw H (upd (upd H dx (.own p)) p (.ins t.aX dx [])):=(aw.new hdx _).trans (aw.new (by rw [az ne.symm]; exact hp) _)
 refine ⟨p,dx,v,pr,rfl,ae,by rw [az ne]; exact ae,rp.mono s1,dr.dep,dr.few,dr.ok.pw,dr.ok.nb,dr.ok.few,fun H2 u2 co=>⟨rfl,fun wk dx3 hwk Sj ne3=>?_⟩⟩
 have s2:aw H H2:=((bD.of s1).trans u2).same hp
 have s3:aw H2 (upd (upd H2 dx3 (.own wk)) wk (.ins t.b3 dx3 [])):=(aw.new Sj _).trans (aw.new (by rw [az ne3.symm]; exact hwk) _)
 refine ⟨wk,dx3,p,fl,pr,aY,rfl,ae,co.mono s3,(s2.trans s3).seq hf,fun H4 u4 w4=>⟨rfl,(hU1 _ _).mpr ?_⟩⟩
 clear hU1
 have s24:aw H2 H4:=((bD.of s3).trans u4).same hwk
 have flB:SqL K H2 fl (aY.map V.int):=s2.seq hf
 refine ax fun U2 hU2=>?_
 walk_at "rd"
 intro rl hrl
 refine (hU2 _ _).mpr (ax fun U3 hU3=>?_)
 clear hU2
 walk_at "rd"
 intro sl hsl
 refine (hU3 _ _).mpr (ax fun U4 hU4=>?_)
 clear hU3
 have sA:=aw.new hrl (.lst [])
 have sB:=aw.new hsl (.lst [])
 have Pg:H2 rl=none:=dY s24 hrl
 have Ph:H2 sl=none:=dY (s24.trans sA) hsl
 have nrs:rl≠sl:=ao ae hsl
 have w6:=w4.mono (sA.trans sB)
 have yr:(upd (upd H4 rl (.lst [])) sl (.lst [])) rl=some (.lst []):=sB _ _ ae
 have ys:(upd (upd H4 rl (.lst [])) sl (.lst [])) sl=some (.lst []):=ae
 have s26:=s24.trans (sA.trans sB)
 clear sA sB
 generalize upd (upd H4 rl (.lst [])) sl (.lst [])=H6 at *
 have tst:=y0.start dr aY bound
 generalize hJ pr bound (PG.aQ pr.body 0) (pr.aG.map (·.first)) aY=tot at *
 walk_at "rd"
 obtain ⟨Iv,hIv⟩:∃ Iv:Nat→St→Hp→Prop,∀ m σ Hx,Iv m σ Hx↔∃ (z:Option V) (n:Nat) (row:Int) (vals r s:List Int) (e:Option PG.eV),σ=[some v,some (.ref fl),some (.int bound),some (.ref wk),some (.ref rl),some (.ref sl),z]∧aw H2 Hx∧WkO K t.aX t.b3 Hx wk p fl pr aY n row vals e∧Hx rl=some (.lst (r.map V.int))∧Hx sl=some (.lst (s.map V.int))∧n≤aY.length∧s.length≤r.length∧r.length + m=bound∧y0 pr aY tot m n row vals r s e:=⟨_,fun _ _ _=>Iff.rfl⟩
 refine ⟨Iv,⟨bound,(hIv _ _ _).mpr ⟨none,0,_,_,[],[],_,rfl,s26,w6,yr,ys,Nat.zero_le _,Nat.le_refl _,by simp,tst⟩⟩,?_⟩
 intro m σ Hx hv
 obtain ⟨z,n,row,vals,r,s',e,rfl,sx,wo,yr,ys,hn,ls,lm,ti⟩:=(hIv _ _ _).mp hv
 clear hv
 obtain ⟨dx,sa,ev,hw,sta,he⟩:=wo.at_
 walk_at "rd"
 refine ⟨wk,_,dx,_,ev,rfl,hw,T.b6,T.cK,rfl,?_⟩
 cases e with
 | some e0=>
   obtain ⟨ea,rfl,hea⟩:=he
   have ti:tot=⟨r,s',e0⟩:=ti
   rw [ti] at q
   refine cb (fun z=>by cases z) (fun _=>?_)
   refine (if_neg (by decide)).mpr ((hU4 _ _).mpr (ax fun U5 hU5=>?_))
   walk_at "rd"
   refine ⟨wk,_,dx,_,.ref ea,rfl,hw,T.b6,T.cK,rfl,cb (fun z=>by cases z) (fun _=>(hU5 _ _).mpr ?_)⟩
   walk_at "rd"
   refine ⟨wk,_,dx,_,.ref ea,rfl,hw,T.b6,T.cK,rfl,fun qa hqa=>?_⟩
   have s9:=aw.new hqa (.tup [V.ref rl,V.ref sl,V.ref ea])
   exact q qa rl sl ea _ (s2.trans (sx.trans s9)) (.of ae) (dY s2 Pg) (dY s2 Ph) nrs (s9 _ _ yr) (s9 _ _ ys) (s9.bC hea)
 | none=>
   have he:ev=.non:=he
   subst he
   refine cb (fun _=>?_) (fun z=>absurd rfl z)
   refine ⟨rl,_,rfl,.inl (.of yr),?_⟩
   rw [List.length_map]
   refine cb (fun lt=>?_) (fun nlt=>?_)
   · obtain ⟨k,rfl⟩:∃ k,m=k + 1:=⟨m - 1,by lia⟩
     refine ⟨Iv k,fun σ' H' h=>⟨k,by lia,h⟩,?_⟩
     obtain ⟨h0,sok,_⟩:=id ti
     obtain ⟨va,st1,st2⟩:=sta
     refine ⟨.inl ⟨rfl,_,.of yr⟩,wk,_,dx,_,.ref sa,rfl,hw,T.b6,T.bL,rfl,aI st1 (v:=.int row) (av (j:=0) rfl) ⟨rl,_,_,rfl,rfl,yr,by rw [List.length_map]; lia,?_⟩⟩
     have er:r.map V.int ++ [V.int row]=(r ++ [row]).map V.int:=by rw [List.map_append]; rfl
     rw [er]
     have s7:aw H2 (upd Hx rl (.lst ((r ++ [row]).map V.int))):=fun z o e=>by rw [az (ao e Pg)]; exact sx z o e
     have wo7:=wo.lst yr ((bD.refl rl Hx).put (.lst ((r ++ [row]).map V.int))) (co.mono s7) (s7.seq flB)
     have yr7:(upd Hx rl (.lst ((r ++ [row]).map V.int))) rl=some (.lst ((r ++ [row]).map V.int)):=ae
     have ys7:(upd Hx rl (.lst ((r ++ [row]).map V.int))) sl=some (.lst (s'.map V.int)):=by rw [az nrs.symm]; exact ys
     have hw7:(upd Hx rl (.lst ((r ++ [row]).map V.int))) wk=_:=(az (c7 hw yr (by intro z; cases z))).trans hw
     generalize upd Hx rl (.lst ((r ++ [row]).map V.int))=H7 at *
     refine ⟨wk,dx,_,rfl,hw7,rfl,wk,p,fl,pr,aY,n,row,vals,rfl,dr,wo7,h0,sok,hn,LL,fun H8 n' u8 hn' hd wo8 ok8=>?_⟩
     have tg:=ti.go hd ok8
     have s8:aw H2 H8:=fun z o e=>u8 z o (ao e hwk) (s7 z o e)
     have yr8:=u8 _ _ (c7 yr7 hw7 (by intro z; cases z)) yr7
     have ys8:=u8 _ _ (c7 ys7 hw7 (by intro z; cases z)) ys7
     have done:=fun σ H9=>(hIv k σ H9).mpr
     generalize goR pr row vals (aY.drop n)=g at *
     obtain ⟨g1,g2,g3,g4,g5⟩:=g
     simp only at tg wo8 ok8 hd
     cases g1 with
     | none=>
       refine (if_pos rfl).mpr ?_
       refine done _ _ ⟨_,n',g3,g4,r ++ [row],s',g5,rfl,s8,wo8,yr8,ys8,hn',by simp only [List.length_append,List.length_singleton]; lia,by simp only [List.length_append,List.length_singleton]; lia,?_⟩
       simpa using tg
     | some x=>
       refine (if_neg (by intro w; cases w)).mpr ?_
       have es':s'.map V.int ++ [V.int x]=(s' ++ [x]).map V.int:=by rw [List.map_append]; rfl
       refine ⟨.inl ⟨rfl,_,.of ys8⟩,sl,_,_,rfl,rfl,ys8,by rw [List.length_map]; lia,?_⟩
       show Iv k _ (upd H8 sl (.lst (s'.map V.int ++ [V.int x])))
       rw [es']
       have s9:aw H2 (upd H8 sl (.lst ((s' ++ [x]).map V.int))):=fun z o e=>by rw [az (ao e Ph)]; exact s8 z o e
       refine done _ _ ⟨_,n',g3,g4,r ++ [row],s' ++ [x],g5,rfl,s9,wo8.lst ys8 ((bD.refl sl H8).put _) (co.mono s9) (s9.seq flB),by rw [az nrs]; exact yr8,ae,hn',by simp only [List.length_append,List.length_singleton]; lia,by simp only [List.length_append,List.length_singleton]; lia,tg⟩
   · have em:m=0:=by lia
     subst em
     obtain ⟨h0,_,ti⟩:=ti
     rw [show hJ pr 0 row vals (aY.drop n)=⟨[],[],.on⟩ from PG.K6 _ _ h0 _ _] at ti
     simp only [List.append_nil] at ti
     rw [ti] at q
     refine (hU4 _ _).mpr (ax fun U5 hU5=>?_)
     walk_at "rd"
     refine ⟨wk,_,dx,_,.non,rfl,hw,T.b6,T.cK,rfl,cb (fun _=>fun ea hea qa hqa=>?_) (fun z=>absurd rfl z)⟩
     have s9:=aw.new hea (.tup [V.str (Str.ofString "on")])
     have s10:=aw.new hqa (.tup [V.ref rl,V.ref sl,V.ref ea])
     exact q qa rl sl ea _ (s2.trans (sx.trans (s9.trans s10))) (.of ae) (dY s2 Pg) (dY s2 Ph) nrs (s10 _ _ (s9 _ _ yr)) (s10 _ _ (s9 _ _ ys)) (s10.bC (.of ae))
theorem uV (T:Tx K mg t):bW P w K mg base CX0 1 t.cW t.gc ["deck"] (wg K):=by
 refine T.ay.F.okS uH (fun vs H Q E h=>?_) (fun cdv A outer s H vs Q E hr h=>?_)
 · obtain ⟨_,_,_,_,rfl,_⟩:=h
   rfl
 obtain ⟨D,S,sc,p,rfl,dk,hp,q⟩:=h
 have nd:=uH.nd
 refine ⟨_,[some (V.ref D),none,none,none,none,none],(ag (aR (i:=1) nd rfl (Or.inl rfl) (aD bt (pv 0) aj ak))
 (ag (ou (bc dX (pv 1) aj) (Fl (pv 0) aj set_list))
 (ag (aR (i:=2) nd rfl (Or.inl rfl) (bO (Im rfl) rfl T.EC PyProof.Rows.Boot.«max» (aa aj (aa (bO bq rfl T.fE PyProof.Rows.Boot.«len» (aa (aD bt (pv 0) aj ak) ai bg)) ai bM) aW)))
 (ag (aR (i:=3) nd rfl (Or.inl rfl) aj)
 (ag (bA (aL (qD (gv hr)) (aD bt (pv 0) aj ak) (bH ai) (aT _))
 (au (aR (i:=3) nd rfl (Or.inl rfl) (aD bt (aD bt (pv 0) aj ak) (bc cm (pv 1) (pv 2)) kz)))
 a9)
 (ag (bA (aL Qn (pv 3) (bc Ou aj aj) (aT _))
 (ag (gT PassesOwn.never rfl (iq rfl T.ic (aa (bO (Io rfl) rfl T.ED PyProof.Rows.Boot.«min» (aa aj (aa (bc x5 (pv 1) (pv 2)) ai gY) aW)) ai bM)) (br (i:=4) nd rfl (Or.inl rfl))
 (au (aR (i:=3) nd rfl (Or.inl rfl) (bc x5 (pv 3) aj))))
 (au (aV (bc cm (pv 3) aj))))
 a9)
 (ag (aR (i:=5) nd rfl (Or.inl rfl) (bc cm (bc dX (bc dX (bc cm (pv 3) aj) (bc ox (bc ox aj (bc dX (pv 1) aj)) (bc dX (pv 1) aj))) aj) aj))
 (ag (aR (i:=5) nd rfl (Or.inl rfl) (bc cm (bc ox (pv 5) (pv 5)) aj))
 (ag (aR (i:=5) nd rfl (Or.inl rfl) (bc cm (bc dX (bc dX (bc ox (pv 5) aj) (bc ox aj (pv 1))) aj) aj))
 (au (aV (bc x5 (bc cm (bc ox (pv 5) (pv 5)) aj) aj)))))))))))),rfl,?_⟩
 have line:sizeLine=2 ^ 24:=rfl
 refine ax fun U1 hU1=>?_
 walk_at "rd"
 refine bK (.of dk.bG) (av (j:=1) rfl) ((hU1 _ _).mpr (ax fun U2 hU2=>?_))
 clear hU1
 walk_at "rd"
 refine ⟨D,_,1,1,rfl,rfl,dk.bG,rfl,?_⟩
 have u1:bD D H (upd H D (.lst [.ref S,.int (p + 1)])):=(bD.refl D H).put _
 have d1:(upd H D (.lst [.ref S,.int (p + 1)])) D=some (.lst [.ref S,.int (p + 1)]):=ae
 show U2 _ (upd H D (.lst [.ref S,.int (p + 1)]))
 generalize upd H D (.lst [.ref S,.int (p + 1)])=H1 at *
 have sc1:=u1 _ _ dk.ne dk.fI
 refine (hU2 _ _).mpr (ax fun U3 hU3=>?_)
 clear hU2
 walk_at "rd"
 refine bK (.of d1) (av (j:=0) rfl) ⟨S,_,rfl,.inl (.of sc1),1,_,rfl,?_⟩
 rw [List.length_map]
 have em:(if (sc.length:Int) > 1 then (sc.length:Int) else 1)=((max 1 sc.length:Nat):Int):=by split <;> lia
 rw [em]
 have m1:1≤max 1 sc.length:=by lia
 refine (hU3 _ _).mpr (ax fun U4 hU4=>?_)
 clear hU3
 walk_at "rd"
 refine (hU4 _ _).mpr (ax fun U5 hU5=>?_)
 clear hU4
 have rest:∀ H2,aw H1 H2→U5 [some (V.ref D),some (V.int p),some (V.int ((max 1 sc.length:Nat):Int)),some (V.int (if sc=[] then 0 else sc.getD (p % max 1 sc.length) 0)),none,none] H2:=by
   intro H2 s2
   have fin:Q (V.int (PG.next sc p)) H2:=q H2 (u1.trans (.of s2)) ⟨s2 _ _ d1,s2 _ _ sc1,dk.ne,dk.len⟩
   unfold PG.next at fin
   simp only at fin
   have mle:max 1 sc.length≤63:=by have:=dk.len; lia
   generalize (if sc=[] then 0 else sc.getD (p % max 1 sc.length) 0)=cell at *
   generalize max 1 sc.length=m at *
   refine (hU5 _ _).mpr (ax fun U6 hU6=>?_)
   walk_at "rd"
   have e18:(10:Int) ^ Int.toNat 18=10 ^ 18:=rfl
   have p18:Ql 10 18:=⟨by decide,by decide,by decide⟩
   rw [e18]
   refine ⟨p18,cb (fun hc=>?_) (fun hc=>?_)⟩
   · rw [if_pos hc] at fin
     refine kZ fun U hU=>?_
     walk_at "rd"
     have ed:(p:Int) / (m:Int)=((p / m:Nat):Int):=(Int.natCast_ediv p m).symm
     have e60:(if (p:Int) / (m:Int) < 60 then (p:Int) / (m:Int) else 60)=((min 60 (p / m):Nat):Int):=by
       rw [ed]
       split <;> lia
     have b60:min 60 (p / m)≤60:=Nat.min_le_left _ _
     refine ⟨⟨by lia,by lia⟩,_,_,rfl,_,rfl,?_⟩
     rw [e60]
     generalize min 60 (p / m)=N at *
     refine ⟨by lia,by lia,hU _ _ ?_⟩
     rw [Int.toNat_natCast]
     refine jA (lo:=0) (n:=N) (fun i σ H3=>H3=H2∧∃ (c:Int) (a:Option V),σ=[some (V.ref D),some (V.int p),some (V.int m),some (V.int c),a,none]∧PG.DX (N - i) c=PG.DX N cell) ⟨rfl,cell,none,rfl,rfl⟩ ?_ ?_
     · rintro i σ H3 hi ⟨rfl,c,a,rfl,e⟩
       rw [Int.zero_add]
       walk_at "rd"
       refine ⟨_,_,rfl,?_⟩
       rw [← e,show N - i=(N - (i + 1)) + 1 by lia,PG.DX]
     · rintro σ H3 ⟨rfl,c,a,rfl,e⟩
       rw [Nat.sub_self,PG.DX] at e
       walk_at "rd"
       rw [e]
       exact fin
   · rw [if_neg hc] at fin
     refine (hU6 _ _).mpr ?_
     clear hU5 hU6
     walk_at "rd"
     have b1:=Int.emod_nonneg (cell % 2147483629 + 51437 * ((p:Int) + 1) * ((p:Int) + 3) + 1409) (show (2147483629:Int)≠0 by decide)
     have b2:=Int.emod_lt_of_pos (cell % 2147483629 + 51437 * ((p:Int) + 1) * ((p:Int) + 3) + 1409) (show (0:Int) < 2147483629 by decide)
     refine ⟨mulL (by decide) (by decide),mulR (by lia) (by lia),?_⟩
     generalize (cell % 2147483629 + 51437 * ((p:Int) + 1) * ((p:Int) + 3) + 1409) % 2147483629=x at *
     refine ⟨mulL (by lia) (by lia),mulR (by decide) (by decide),mulL (by decide) (by decide),?_⟩
     have c1:=Int.emod_nonneg (x * x % 2147483587 * 69621 + 401 * (p:Int) + 7) (show (2147483579:Int)≠0 by decide)
     have c2:=Int.emod_lt_of_pos (x * x % 2147483587 * 69621 + 401 * (p:Int) + 7) (show (0:Int) < 2147483579 by decide)
     generalize (x * x % 2147483587 * 69621 + 401 * (p:Int) + 7) % 2147483579=y at *
     exact ⟨mulL (by lia) (by lia),fin⟩
 walk_at "rd"
 refine bK (.of d1) (av (j:=0) rfl) fun p1 hp1=>?_
 have s2:=aw.new hp1 (.lst [])
 have d2:=s2 _ _ d1
 refine ⟨S,p1,_,rfl,rfl,.of (s2 _ _ sc1),.of ae,?_⟩
 have sc2:=s2 _ _ sc1
 generalize upd H1 p1 (.lst [])=H2 at *
 have rs:=rest H2 s2
 cases sc with
 | nil=>exact rs
 | cons c r=>
   rw [if_neg (by simp)] at rs
   refine (if_pos rfl).mpr (bK (.of d2) (av (j:=0) rfl) ⟨by lia,?_⟩)
   have lt:p % max 1 (c :: r).length < (c :: r).length:=by
     have:max 1 (c :: r).length=(c :: r).length:=by simp
     rw [this]
     exact Nat.mod_lt _ (by simp)
   refine bK (.of sc2) (MM (f:=V.int) (xs:=c :: r) 0 (by lia) (by lia)) ?_
   have e:((p:Int) % ((max 1 (c :: r).length:Nat):Int)).toNat=p % max 1 (c :: r).length:=by lia
   rw [e]
   exact rs
theorem Sk (T:Tx K mg t) {n:Nat} (gA:bW P w K mg base CX0 (n + 1) t.hX t.qN ["deck", "boxes", "deep"] (yP K n)) :
   bW P w K mg base CX0 (n + 2) t.hX t.qN ["deck", "boxes", "deep"] (yP K (n + 1)):=by
 have bh:bW P w K mg base CX0 1 t.cW t.gc ["deck"] (wg K):=uV T
 refine T.bV.F.okS Bx (fun vs H Q E h=>?_) (fun cdv A outer s H vs Q E hr h=>?_)
 · obtain ⟨_,_,_,_,_,_,_,rfl,_⟩:=h
   rfl
 obtain ⟨D,S,B,sc,p,d,bs,rfl,hd,dk,hp,hb,q⟩:=h
 have nd:=Bx.nd
 refine ⟨_,[some (V.ref D),some (V.ref B),some (V.int d),none,none],(ag (aR (i:=3) nd rfl (Or.inl rfl) (bc cm (aJ bh (hr.mono (by omega)) rfl T.ay.m T.ay.F.kp T.ay.b .nil a8 (aa (pv 0) ai ah)) aj))
 (ag (bA (PW.pt (pw_and (aL JP (pv 2) aj (aT _)) (pw_and1 (aL oy (pv 3) aj (aT _)))))
 (ag (aR (i:=4) nd rfl (Or.inl rfl) (aJ gA (hr.mono (by omega)) rfl T.bV.m T.bV.F.kp T.bV.b .nil a8 (aa (pv 0) (aa (pv 1) (aa (bc vW (pv 2) aj) ai gY) ah) ah)))
 (au (aV (aZ (aa (aD B3 ba (pv 3) qB) (aa (pv 4) (aa (aJ gA (hr.mono (by omega)) rfl T.bV.m T.bV.F.kp T.bV.b .nil a8 (aa (pv 0) (aa (pv 1) (aa (bc vW (pv 2) aj) ai gY) ah) ah)) ai bM) ah) bg)))))
 a9)
 (ag (bA (PW.pt (pw_and (aL (qD (gv hr)) (pv 1) (bH ai) (aT _)) (pw_and1 (aL oy (pv 3) aj (aT _)))))
 (au (aV (aZ (aa ba (aa (aD aP (aD bt (pv 1) (bc cm (aJ bh (hr.mono (by omega)) rfl T.ay.m T.ay.F.kp T.ay.b .nil a8 (aa (pv 0) ai ah)) (bO bq rfl T.fE PyProof.Rows.Boot.«len» (aa (pv 1) ai ah))) kz) aj ak) ai bg) aW))))
 a9)
 (au (aV (aZ (aa ba (aa (bc cm (aJ bh (hr.mono (by omega)) rfl T.ay.m T.ay.F.kp T.ay.b .nil a8 (aa (pv 0) ai ah)) (aD bt (bH (cX (vs:=[.int 3,.int 12,.int 1000]) (by kernel_rfl))) (bc cm (aJ bh (hr.mono (by omega)) rfl T.ay.m T.ay.F.kp T.ay.b .nil a8 (aa (pv 0) ai ah)) aj) kz)) ai gY) aW))))))),rfl,?_⟩
 have line:sizeLine=2 ^ 24:=rfl
 have pw:1≤2 ^ d:=Nat.one_le_two_pow
 refine ax fun U1 hU1=>?_
 walk_at "rd"
 refine ⟨D,S,sc,p,rfl,dk,by lia,fun H1 u1 dk1=>?_⟩
 walk_at "rd"
 refine (hU1 _ _).mpr (ax fun U2 hU2=>?_)
 clear hU1
 have hDn:H D≠none:=by rw [dk.bG]; simp
 have hD1:H1 D≠none:=by rw [dk1.bG]; simp
 have hb1:=hb.up u1
 obtain ⟨n0,n1⟩:=PG.gZ sc p
 have Gi:=u1.dom hD1
 walk_at "rd"
 have leaf:(d=0∨¬ PG.next sc p % 7 < 3)→U2 [some (V.ref D),some (V.ref B),some (V.int d),some (V.int (PG.next sc p % 7)),none] H1:=by
   intro hl
   have eg:PG.cA sc bs d p=if bs≠[]∧PG.next sc p % 7 < 5 then (.box (PG.pick ⟨[],0,0⟩ bs (PG.next sc (p + 1) % bs.length)).name,p + 2) else (.num (PG.next sc (p + 1) % PG.pick 1 [3,12,1000] (PG.next sc (p + 2) % 3)),p + 3):=by
     cases d with
     | zero=>rfl
     | succ d=>
       unfold PG.cA
       simp only
       rw [if_neg (hl.resolve_left (by lia))]
   refine (hU2 _ _).mpr (ax fun U3 hU3=>?_)
   have num:¬ (bs≠[]∧PG.next sc p % 7 < 5)→∀ H2,aw H1 H2→U3 [some (V.ref D),some (V.ref B),some (V.int d),some (V.int (PG.next sc p % 7)),none] H2:=by
     intro hn H2 s2
     rw [if_neg hn] at eg
     rw [eg] at q
     refine (hU3 _ _).mpr ?_
     walk_at "rd"
     refine ⟨D,S,sc,p + 1,rfl,dk1.same s2,by lia,fun H3 u3 dk3 p4 hp4=>?_⟩
     have dk4:=dk3.same (aw.new hp4 (.lst [.int 3,.int 12,.int 1000]))
     have h4:(upd H3 p4 (.lst [.int 3,.int 12,.int 1000])) p4=some (.lst [.int 3,.int 12,.int 1000]):=ae
     have u4:=u3.new hp4 (.lst [.int 3,.int 12,.int 1000])
     have n4:p4≠D:=(ao dk3.bG hp4).symm
     generalize upd H3 p4 (.lst [.int 3,.int 12,.int 1000])=H4 at *
     refine ⟨D,S,sc,p + 2,rfl,dk4,by lia,fun H5 u5 dk5=>?_⟩
     obtain ⟨m0,m1⟩:=PG.gZ sc (p + 2)
     have h5:=u5 _ _ n4 h4
     have pk:∀ i:Int,0≤i→i < 3→atI [V.int 3,V.int 12,V.int 1000] i=some (V.int (PG.pick 1 [3,12,1000] i))∧(0:Int) < PG.pick 1 [3,12,1000] i:=fun i h0 h3=>by
       have z3:i=0∨i=1∨i=2:=by lia
       rcases z3 with rfl | rfl | rfl
       · exact ⟨av (j:=0) rfl,by decide⟩
       · exact ⟨av (j:=1) rfl,by decide⟩
       · exact ⟨av (j:=2) rfl,by decide⟩
     obtain ⟨k1,k2⟩:=pk (PG.next sc (p + 2) % 3) (by lia) (by lia)
     walk_at "rd"
     refine bK (.of h5) k1 ?_
     walk_at "rd"
     refine ⟨k2,fun p6 hp6=>?_⟩
     have u2:bD D H1 H2:=.of s2
     refine q _ _ (((u1.trans (u2.trans u4)).trans u5).new hp6 _) (dk5.same (aw.new hp6 _)) ?_
     refine jn hp6 ?_ (.cons .str (.cons .int .nil))
     exact fun b hbn=>(u5.dom (by rw [dk5.bG]; simp)) b ((u4.dom (by rw [dk4.bG]; simp)) b ((u2.dom (by rw [s2 _ _ dk1.bG]; simp)) b (Gi b hbn)))
   walk_at "rd"
   intro p2 hp2
   have s2:=aw.new hp2 (.lst [])
   have hb2:=hb1.same s2
   have h2:(upd H1 p2 (.lst [])) p2=some (.lst []):=ae
   have dk2:=dk1.same s2
   generalize upd H1 p2 (.lst [])=H2 at *
   obtain ⟨xs,hx,lx,_⟩:=hb2.list
   refine ⟨B,p2,xs,rfl,rfl,hx,.of h2,?_⟩
   have em:xs.isEmpty=true↔bs=[]:=by
     rw [List.isEmpty_iff,← List.length_eq_zero_iff,lx,List.length_eq_zero_iff]
   by_cases hbs:bs=[]
   · have e1:=em.mpr hbs
     rw [e1,if_neg (by decide),if_neg Bool.false_ne_true]
     exact num (fun z=>z.1 hbs) H2 s2
   · have e1:xs.isEmpty=false:=Bool.eq_false_iff.mpr fun z=>hbs (em.mp z)
     rw [e1,if_pos (by decide)]
     refine cb (fun k5=>?_) (fun k5=>num (fun z=>k5 z.2) H2 s2)
     rw [if_pos ⟨hbs,k5⟩] at eg
     rw [eg] at q
     refine ⟨D,S,sc,p + 1,rfl,dk2,by lia,fun H3 u3 dk3=>?_⟩
     have hb3:=hb2.up u3
     obtain ⟨ys,hy,ly,_⟩:=hb3.list
     refine ⟨B,ys,rfl,.inl hy,?_⟩
     rw [ly]
     have pos:0 < bs.length:=List.length_pos_iff.mpr hbs
     walk_at "rd"
     refine ⟨by lia,hb3.pick (Int.emod_nonneg _ (by lia)) (Int.emod_lt_of_pos _ (by lia)) fun p4 hp4=>?_⟩
     have u2:bD D H1 H2:=.of s2
     refine q _ _ (((u1.trans u2).trans u3).new hp4 _) (dk3.same (aw.new hp4 _)) (jn hp4 ?_ (.cons .str (.cons .str .nil)))
     exact fun b hbn=>(u3.dom (by rw [dk3.bG]; simp)) b ((u2.dom (by rw [dk2.bG]; simp)) b (Gi b hbn))
 refine cb (fun d0=>cb (fun k3=>?_) (fun k3=>leaf (.inr k3))) (fun d0=>(if_neg Bool.false_ne_true).mpr (leaf (.inl (by lia))))
 obtain ⟨d,rfl⟩:∃ e,d=e + 1:=⟨d - 1,by lia⟩
 have e1:((d + 1:Nat):Int) - 1=(d:Int):=by lia
 rw [e1]
 have e2:(2:Nat) ^ (d + 1)=2 * 2 ^ d:=by rw [Nat.pow_succ]; lia
 have one:1≤2 ^ d:=Nat.one_le_two_pow
 rw [e2] at hp
 have eg:PG.cA sc bs (d + 1) p=(.bin (PG.pick [] [[43],[45],[42]] (PG.next sc p % 7)) (PG.cA sc bs d (p + 1)).1 (PG.cA sc bs d (PG.cA sc bs d (p + 1)).2).1,(PG.cA sc bs d (PG.cA sc bs d (p + 1)).2).2):=by
   conv=>lhs; unfold PG.cA
   simp only
   rw [if_pos k3]
 rw [eg] at q
 obtain ⟨g1,g2⟩:=PG.iW sc bs d (p + 1)
 refine ⟨D,S,B,sc,p + 1,d,bs,rfl,by lia,dk1,by lia,hb1,fun v2 H2 u2 dk2 o2=>?_⟩
 have hb2:=hb1.up u2
 have sg:∀ i:Int,0≤i→i < 3→∃ c,atI (Str.ofString "+-*").cps.toList i=some c∧V.str ⟨#[c]⟩=V.str (L2.S (PG.pick [] [[43],[45],[42]] i)):=fun i h0 h3=>by
   have z3:i=0∨i=1∨i=2:=by lia
   rcases z3 with rfl | rfl | rfl
   · exact ⟨43,av (j:=0) (by decide +kernel),rfl⟩
   · exact ⟨45,av (j:=1) (by decide +kernel),rfl⟩
   · exact ⟨42,av (j:=2) (by decide +kernel),rfl⟩
 obtain ⟨c,hc,ec⟩:=sg (PG.next sc p % 7) (by lia) k3
 refine ⟨_,_,c,rfl,rfl,by decide,hc,?_⟩
 rw [ec]
 refine ⟨D,S,B,sc,_,d,bs,rfl,by lia,dk2,by lia,hb2,fun v3 H3 u3 dk3 o3 p4 hp4=>?_⟩
 have hD2:H2 D≠none:=by rw [dk2.bG]; simp
 have hD3:H3 D≠none:=by rw [dk3.bG]; simp
 refine q _ _ (((u1.trans u2).trans u3).new hp4 _) (dk3.same (aw.new hp4 _)) (jn hp4 ?_ (.cons .str (.cons ((o2.back Gi).up u3 hDn) (.cons (o3.back fun b z=>(u2.dom hD2) b (Gi b z)) .nil))))
 exact fun b z=>(u3.dom hD3) b ((u2.dom hD2) b (Gi b z))
theorem LM (T:Tx K mg t):∀ n,bW P w K mg base CX0 (n + 1) t.hX t.qN ["deck", "boxes", "deep"] (yP K n)
 | 0=>by
   have no:∀ vs H Q E,¬ yP K 0 vs H Q E:=fun vs H Q E ⟨_,_,_,_,_,_,_,_,h,_⟩=>by lia
   exact ⟨fun vs H Q E h=>absurd h (no vs H Q E),fun A outer s H args us vs Q E _ _ _ _ h=>absurd h (no vs H Q E)⟩
 | n + 1=>Sk T (LM T n)
theorem LN (T:Tx K mg t):bW P w K mg base CX0 2 t.fe t.rF ["deck"] (FX K):=by
 have bh:bW P w K mg base CX0 1 t.cW t.gc ["deck"] (wg K):=uV T
 refine T.jv.F.okS rn (fun vs H Q E h=>?_) (fun cdv A outer s H vs Q E hr h=>?_)
 · obtain ⟨_,_,_,_,rfl,_⟩:=h
   rfl
 obtain ⟨D,S,sc,p,rfl,dk,hp,q⟩:=h
 have nd:=rn.nd
 refine ⟨_,[some (V.ref D),none,none,none,none],(ag (aR (i:=1) nd rfl (Or.inl rfl) (bH ai))
 (ag (aR (i:=2) nd rfl (Or.inl rfl) (bc cm (aJ bh (hr.mono (by omega)) rfl T.ay.m T.ay.F.kp T.ay.b .nil a8 (aa (pv 0) ai ah)) aj))
 (ag (gT PassesOwn.never rfl (iq rfl T.ic (aa (bc cm (aJ bh (hr.mono (by omega)) rfl T.ay.m T.ay.F.kp T.ay.b .nil a8 (aa (pv 0) ai ah)) aj) ai gY)) (br (i:=3) nd rfl (Or.inl rfl))
 (ag (aR (i:=4) nd rfl (Or.inl rfl) (bc dX aj (bc cm (aJ bh (hr.mono (by omega)) rfl T.ay.m T.ay.F.kp T.ay.b .nil a8 (aa (pv 0) ai ah)) (aD bt (bH (cX (vs:=[.int 3,.int 9]) (by kernel_rfl))) (bc cm (aJ bh (hr.mono (by omega)) rfl T.ay.m T.ay.F.kp T.ay.b .nil a8 (aa (pv 0) ai ah)) aj) kz))))
 (au (b8 (fz PySem.F.plainAttrs_list PySem.F.slot_list_append PySem.F.type_list_append bX (pv 1) (aa (aZ (aa (aD bt (bH (cX (vs:=[.str "c",.str "bb",.str "aaa",.str "boxes"]) (by kernel_rfl))) (bc vW (pv 3) (pv 2)) kz) (aa (pv 4) (aa (bc cm (aJ bh (hr.mono (by omega)) rfl T.ay.m T.ay.F.kp T.ay.b .nil a8 (aa (pv 0) ai ah)) (pv 4)) ai gY) ah) bg)) ai eT))))))
 (au (aV (pv 1)))))),rfl,?_⟩
 have line:sizeLine=2 ^ 24:=rfl
 refine ax fun U1 hU1=>?_
 walk_at "rd"
 intro B hB
 have s1:=aw.new hB (.lst [])
 have h1:(upd H B (.lst [])) B=some (.lst []):=ae
 have dk1:=dk.same s1
 have nB:B≠D:=(ao dk.bG hB).symm
 have hDn:H D≠none:=by rw [dk.bG]; simp
 generalize upd H B (.lst [])=H1 at *
 refine (hU1 _ _).mpr (ax fun U2 hU2=>?_)
 clear hU1
 walk_at "rd"
 refine ⟨D,S,sc,p,rfl,dk1,by lia,fun H2 u2 dk2=>?_⟩
 walk_at "rd"
 refine (hU2 _ _).mpr (ax fun U3 hU3=>?_)
 clear hU2
 have h2:=u2 _ _ nB h1
 refine kZ fun U hU=>?_
 walk_at "rd"
 refine ⟨D,S,sc,p + 1,rfl,dk2,by lia,fun H3 u3 dk3=>?_⟩
 walk_at "rd"
 obtain ⟨c0,c1⟩:=PG.gZ sc (p + 1)
 refine ⟨_,rfl,by lia,by lia,hU _ _ ?_⟩
 have h3:=u3 _ _ nB h2
 have u13:bD D H H3:=((bD.of s1).trans u2).trans u3
 have Jr:∀ b,H b≠none→H3 b≠none:=u13.dom (by rw [dk3.bG]; simp)
 generalize hN:(PG.next sc (p + 1) % 5).toNat=N at *
 have N5:N≤4:=by lia
 clear hU
 refine jA (lo:=0) (n:=N) (fun i σ H4=>∃ (a b:Option V) (pi:Nat) (pre:List PG.Box) (xs:List V),σ=[some (V.ref D),some (V.ref B),some (V.int (PG.next sc p % 4)),a,b]∧pi≤p + 2 + 3 * i∧g7 K H4 D S sc pi∧H4 B=some (.lst xs)∧xs.length=i∧pre.length=i∧
     (PG.bP sc (PG.next sc p % 4) N 0 (p + 2)).1=pre ++ (PG.bP sc (PG.next sc p % 4) (N - i) i pi).1∧(PG.bP sc (PG.next sc p % 4) N 0 (p + 2)).2=(PG.bP sc (PG.next sc p % 4) (N - i) i pi).2∧
     lq K (fun b=>if b=B then some (.lst []) else H b) H4 (pre.map jG) xs∧(∀ b o,b≠D→b≠B→H b=some o→H4 b=some o)) ?_ ?_ ?_
 · exact ⟨none,none,p + 2,[],[],rfl,by lia,dk3,h3,rfl,rfl,rfl,rfl,lq.nil,fun b o n1 n2 e=>u13 b o n1 e⟩
 · rintro i σ H4 hi ⟨a,b,pi,pre,xs,rfl,lp,dk4,h4,lx,Pj,e1,e2,ow,kp⟩
   rw [Int.zero_add]
   refine ax fun U4 hU4=>?_
   walk_at "rd"
   refine ⟨D,S,sc,pi,rfl,dk4,by lia,fun H5 u5 dk5 p6 hp6=>?_⟩
   have h5:=u5 _ _ nB h4
   have s6:=aw.new hp6 (.lst [.int 3,.int 9])
   have l6:(upd H5 p6 (.lst [.int 3,.int 9])) p6=some (.lst [.int 3,.int 9]):=ae
   have dk6:=dk5.same s6
   have h6:=s6 _ _ h5
   have n6:p6≠D:=(ao dk5.bG hp6).symm
   generalize upd H5 p6 (.lst [.int 3,.int 9])=H6 at *
   refine ⟨D,S,sc,pi + 1,rfl,dk6,by lia,fun H7 u7 dk7=>?_⟩
   have h7:=u7 _ _ nB h6
   have l7:=u7 _ _ n6 l6
   obtain ⟨x0,x1⟩:=PG.gZ sc (pi + 1)
   have pk:∀ i:Int,0≤i→i < 2→atI [V.int 3,V.int 9] i=some (V.int (PG.pick 1 [3,9] i))∧(0:Int) < PG.pick 1 [3,9] i:=fun i h0 h3=>by
     have z3:i=0∨i=1:=by lia
     rcases z3 with rfl | rfl
     · exact ⟨av (j:=0) rfl,by decide⟩
     · exact ⟨av (j:=1) rfl,by decide⟩
   obtain ⟨k1,k2⟩:=pk (PG.next sc (pi + 1) % 2) (by lia) (by lia)
   walk_at "rd"
   refine bK (.of l7) k1 ?_
   walk_at "rd"
   refine ⟨k2,(hU4 _ _).mpr ?_⟩
   clear hU4
   have z0:0 < 2 + PG.next sc pi % PG.pick 1 [3,9] (PG.next sc (pi + 1) % 2):=by
     have:=Int.emod_nonneg (PG.next sc pi) (show PG.pick (1:Int) [3,9] (PG.next sc (pi + 1) % 2)≠0 by lia)
     lia
   have eN:N - i=(N - (i + 1)) + 1:=by lia
   rw [eN,PG.bP] at e1 e2
   simp only at e1 e2
   generalize 2 + PG.next sc pi % PG.pick 1 [3,9] (PG.next sc (pi + 1) % 2)=size at *
   walk_at "rd"
   refine ⟨.inl ⟨rfl,_,.of h7⟩,fun p8 hp8=>?_⟩
   have s8:=aw.new hp8 (.lst [V.str (Str.ofString "c"),V.str (Str.ofString "bb"),V.str (Str.ofString "aaa"),V.str (Str.ofString "boxes")])
   have dk8:=dk7.same s8
   have h8:=s8 _ _ h7
   have sp0:0≤PG.next sc p % 4∧PG.next sc p % 4 < 4:=by lia
   have nm:∀ (a:Nat) (b:Int),a < 4→0≤b→b < 4→atI [V.str (Str.ofString "c"),V.str (Str.ofString "bb"),V.str (Str.ofString "aaa"),V.str (Str.ofString "boxes")] ((a:Int) - b)=some (V.str (L2.S (PG.pick [] PG.cT (((a:Int) - b) % 4)))):=by
     intro a b ha hb0 hb1
     obtain ⟨c,rfl⟩:∃ c:Nat,b=c:=⟨b.toNat,by lia⟩
     have key:∀ a < 4,∀ c < 4,atI [V.str (Str.ofString "c"),V.str (Str.ofString "bb"),V.str (Str.ofString "aaa"),V.str (Str.ofString "boxes")] (((a:Nat):Int) - ((c:Nat):Int))=some (V.str (L2.S (PG.pick [] PG.cT ((((a:Nat):Int) - ((c:Nat):Int)) % 4)))):=by decide +kernel
     exact key a ha c (by lia)
   refine DR (nm i _ (by lia) sp0.1 sp0.2) ?_
   generalize upd H7 p8 (.lst [V.str (Str.ofString "c"),V.str (Str.ofString "bb"),V.str (Str.ofString "aaa"),V.str (Str.ofString "boxes")])=H8 at *
   refine ⟨D,S,sc,pi + 2,rfl,dk8,by lia,fun H9 u9 dk9=>?_⟩
   walk_at "rd"
   refine ⟨z0,fun pa hpa=>?_⟩
   have h9:=u9 _ _ nB h8
   have uD:bD D H4 H9:=((u5.trans (.of s6)).trans u7).trans ((bD.of s8).trans u9)
   have Gj:=dk9.same (aw.new hpa (.tup [V.str (L2.S (PG.pick [] PG.cT (((i:Int) - PG.next sc p % 4) % 4))),V.int size,V.int (PG.next sc (pi + 2) % size)]))
   have h10:=aw.new hpa (.tup [V.str (L2.S (PG.pick [] PG.cT (((i:Int) - PG.next sc p % 4) % 4))),V.int size,V.int (PG.next sc (pi + 2) % size)]) _ _ h9
   have Sl:∀ b,(fun b=>if b=B then some (HO.lst []) else H b) b≠none→H9 b≠none:=fun b hb=>by
     by_cases eb:b=B
     · rw [eb,h9]; simp
     · have hb':H b≠none:=by simpa [eb] using hb
       by_cases ed:b=D
       · rw [ed,dk9.bG]; simp
       · cases z:H b with
         | none=>exact absurd z hb'
         | some o=>rw [uD b o ed (kp b o ed eb z)]; simp
   have hD0:(fun b=>if b=B then some (HO.lst []) else H b) D≠none:=by simp [nB.symm]; exact hDn
   have nt:=jn (K:=K) hpa Sl (.cons (.str (x:=L2.S (PG.pick [] PG.cT (((i:Int) - PG.next sc p % 4) % 4)))) (.cons (.int (i:=size)) (.cons (.int (i:=PG.next sc (pi + 2) % size)) .nil)))
   have ow9:lq K (fun b=>if b=B then some (HO.lst []) else H b) H9 (pre.map jG) xs:=ow.up uD hD0
   have Pk:=ow9.same (aw.new hpa (.tup [V.str (L2.S (PG.pick [] PG.cT (((i:Int) - PG.next sc p % 4) % 4))),V.int size,V.int (PG.next sc (pi + 2) % size)]))
   have LO:∀ b o,b≠D→b≠B→H b=some o→(upd H9 pa (.tup [V.str (L2.S (PG.pick [] PG.cT (((i:Int) - PG.next sc p % 4) % 4))),V.int size,V.int (PG.next sc (pi + 2) % size)])) b=some o:=fun b o n1 n2 e=>aw.new hpa _ _ _ (uD b o n1 (kp b o n1 n2 e))
   generalize upd H9 pa (.tup [V.str (L2.S (PG.pick [] PG.cT (((i:Int) - PG.next sc p % 4) % 4))),V.int size,V.int (PG.next sc (pi + 2) % size)])=H10 at *
   refine ⟨B,xs,_,rfl,rfl,h10,by lia,?_⟩
   refine ⟨_,_,pi + 3,pre ++ [⟨PG.pick [] PG.cT (((i:Int) - PG.next sc p % 4) % 4),size,PG.next sc (pi + 2) % size⟩],xs ++ [V.ref pa],rfl,by lia,?_,ae,by simp [lx],by simp [Pj],?_,e2,?_,?_⟩
   · have nS:S≠B:=ao dk.fI hB
     exact ⟨by rw [az nB.symm]; exact Gj.bG,by rw [az nS]; exact Gj.fI,Gj.ne,Gj.len⟩
   · rw [e1]; simp
   · rw [List.map_append]
     exact O0 h10 (Pk.snoc nt) (by simp)
   · intro b o n1 n2 e
     rw [az n2]
     exact LO b o n1 n2 e
 · rintro σ H4 ⟨a,b,pi,pre,xs,rfl,lp,dk4,h4,lx,Pj,e1,e2,ow,kp⟩
   refine (hU3 _ _).mpr ?_
   walk_at "rd"
   rw [Nat.sub_self,PG.bP] at e1 e2
   simp only [List.append_nil] at e1 e2
   refine q B H4 (fun b o n1 e=>?_) (by rw [e2]; exact dk4) hB (fun O hO=>?_)
   · by_cases eb:b=B
     · rw [eb,hB] at e; cases e
     · exact kp b o n1 eb e
   · rw [e1]
     refine Fix.lst h4 (fun z=>hO B z hB) (ow O fun b hb=>?_)
     by_cases eb:b=B
     · simp [eb]
     · simp [eb]; exact hO b hb
theorem LP (T:Tx K mg t):bW P w K mg base CX0 5 t.ff t.rG ["deck", "boxes", "k"] (FY K):=by
 have bh:bW P w K mg base CX0 1 t.cW t.gc ["deck"] (wg K):=uV T
 have gA:=LM (P:=P) (w:=w) (base:=base) T 3
 refine T.jw.F.okS rq (fun vs H Q E h=>?_) (fun cdv A outer s H vs Q E hr h=>?_)
 · obtain ⟨_,_,_,_,_,_,_,rfl,_⟩:=h
   rfl
 obtain ⟨D,S,B,sc,p,k,bs,rfl,dk,hp,hb,q⟩:=h
 have nd:=rq.nd
 refine ⟨_,[some (V.ref D),some (V.ref B),some (V.int k),none,none],(ag (aR (i:=3) nd rfl (Or.inl rfl) (bc cm (aJ bh (hr.mono (by omega)) rfl T.ay.m T.ay.F.kp T.ay.b .nil a8 (aa (pv 0) ai ah)) aj))
 (ag (bA (PW.pt (pw_and (aL (qD (gv hr)) (pv 1) (bH ai) (aT _)) (pw_and1 (aL oy (pv 3) aj (aT _)))))
 (au (aV (aZ (aa ba (aa (pv 2) (aa (aD aP (aD bt (pv 1) (bc cm (aJ bh (hr.mono (by omega)) rfl T.ay.m T.ay.F.kp T.ay.b .nil a8 (aa (pv 0) ai ah)) (bO bq rfl T.fE PyProof.Rows.Boot.«len» (aa (pv 1) ai ah))) kz) aj ak) ai bg) ah) aW))))
 a9)
 (ag (bA (PW.pt (pw_and (aL (qD (gv hr)) (pv 1) (bH ai) (aT _)) (pw_and1 (aL oy (pv 3) aj (aT _)))))
 (au (aV (aZ (aa ba (aa (pv 2) (aa (aD aP (aD bt (pv 1) (bc cm (aJ bh (hr.mono (by omega)) rfl T.ay.m T.ay.F.kp T.ay.b .nil a8 (aa (pv 0) ai ah)) (bO bq rfl T.fE PyProof.Rows.Boot.«len» (aa (pv 1) ai ah))) kz) aj ak) (aa (aJ gA (hr.mono (by omega)) rfl T.bV.m T.bV.F.kp T.bV.b .nil a8 (aa (pv 0) (aa (pv 1) (aa aj ai aW) ah) ah)) ai bM) bg) ah) aW))))
 a9)
 (ag (bA (aL b9 (pv 3) aj (aT _))
 (ag (aR (i:=4) nd rfl (Or.inl rfl) (aD B3 ba (bc cm (aJ bh (hr.mono (by omega)) rfl T.ay.m T.ay.F.kp T.ay.b .nil a8 (aa (pv 0) ai ah)) aj) kz))
 (au (aV (aZ (aa ba (aa (pv 2) (aa (pv 4) (aa (aJ gA (hr.mono (by omega)) rfl T.bV.m T.bV.F.kp T.bV.b .nil a8 (aa (pv 0) (aa (pv 1) (aa aj ai aW) ah) ah)) (aa (aJ gA (hr.mono (by omega)) rfl T.bV.m T.bV.F.kp T.bV.b .nil a8 (aa (pv 0) (aa (pv 1) (aa aj ai aW) ah) ah)) ai bM) bM) ah) ah) aW)))))
 a9)
 (ag (bA (PW.pt (pw_and (aL b9 (pv 3) aj (aT _)) (pw_and1 (aL b9 (bc cm (aJ bh (hr.mono (by omega)) rfl T.ay.m T.ay.F.kp T.ay.b .nil a8 (aa (pv 0) ai ah)) aj) aj (aT _)))))
 (au (aV (aZ (aa ba (aa (pv 2) ai ah) aW))))
 a9)
 (au (aV (aZ (aa ba (aa (pv 2) (aa (aJ gA (hr.mono (by omega)) rfl T.bV.m T.bV.F.kp T.bV.b .nil a8 (aa (pv 0) (aa (pv 1) (aa aj ai aW) ah) ah)) ai bM) ah) aW))))))))),rfl,?_⟩
 have line:sizeLine=2 ^ 24:=rfl
 refine ax fun U1 hU1=>?_
 walk_at "rd"
 refine ⟨D,S,sc,p,rfl,dk,by lia,fun H1 u1 dk1=>?_⟩
 walk_at "rd"
 refine (hU1 _ _).mpr (ax fun U2 hU2=>?_)
 clear hU1
 have hDn:H D≠none:=by rw [dk.bG]; simp
 obtain ⟨n0,n1⟩:=PG.gZ sc p
 have Gi:=u1.dom (by rw [dk1.bG]; simp)
 have hb1:=hb.up u1
 have eg:=PG.oI sc bs k p
 generalize hkd:PG.next sc p % 10=kd at *
 have say:∀ (H2:Hp) (p2:Nat),PG.bT sc bs k p=(.say k (PG.cA sc bs 2 p2).1,(PG.cA sc bs 2 p2).2)→p2≤p + 2→bD D H H2→g7 K H2 D S sc p2→i8 K (·=D) H2 B bs→
     yP K 3 [V.ref D,V.ref B,V.int 2] H2 (fun x H3=>∀ p4,H3 p4=none→Q (V.ref p4) (upd H3 p4 (.tup [V.str (Str.ofString "say"),V.int k,x]))) E0:=by
   intro H2 p2 e hp2 u2 dk2 hb2
   rw [e] at q
   obtain ⟨g1,g2⟩:=PG.iW sc bs 2 p2
   refine ⟨D,S,B,sc,p2,2,bs,rfl,by lia,dk2,by lia,hb2,fun v H3 u3 dk3 o3 p4 hp4=>?_⟩
   have hD2:H2 D≠none:=by rw [dk2.bG]; simp
   have hD3:H3 D≠none:=by rw [dk3.bG]; simp
   refine q _ _ ((u2.trans u3).new hp4 _) (dk3.same (aw.new hp4 _)) (jn hp4 (fun b z=>(u3.dom hD3) b ((u2.dom hD2) b z)) (.cons .str (.cons .int (.cons (o3.back (u2.dom hD2)) .nil))))
 walk_at "rd"
 intro p2 hp2
 have s2:=aw.new hp2 (.lst [])
 have hb2:=hb1.same s2
 have h2:(upd H1 p2 (.lst [])) p2=some (.lst []):=ae
 have dk2:=dk1.same s2
 generalize upd H1 p2 (.lst [])=H2 at *
 obtain ⟨xs,hx,lx,_⟩:=hb2.list
 refine ⟨B,p2,xs,rfl,rfl,hx,.of h2,?_⟩
 have em:xs.isEmpty=decide (bs=[]):=by
   rw [Bool.eq_iff_iff,List.isEmpty_iff,decide_eq_true_eq,← List.length_eq_zero_iff,lx,List.length_eq_zero_iff]
 rw [em]
 have u2:bD D H1 H2:=.of s2
 have Sm:=u2.dom (by rw [dk2.bG]; simp)
 have box:∀ (H3:Hp) (p3:Nat) (R:VK),g7 K H3 D S sc p3→p3≤99000→i8 K (·=D) H3 B bs→bs≠[]→(∀ H4,bD D H3 H4→g7 K H4 D S sc (p3 + 1)→i8 K (·=D) H4 B bs→R (V.str (L2.S (PG.pick ⟨[],0,0⟩ bs (PG.next sc p3 % bs.length)).name)) H4)→
     wg K [V.ref D] H3 (fun x H1=>∃ p ys,[V.ref B]=[V.ref p]∧(SqL K H1 p ys∨SqT K H1 p ys)∧rI (fun x j=>0 < j) (fun i j=>V.int (i % j)) x (V.int (ys.length:Nat)) H1 fun y H2=>DJ K (V.ref B) y H2 fun x H1=>FA K x (V.int 0) H1 R) E0:=by
   intro H3 p3 R dk3 l3 hb3 hbs hR
   refine ⟨D,S,sc,p3,rfl,dk3,by lia,fun H4 u4 dk4=>?_⟩
   have hb4:=hb3.up u4
   obtain ⟨ys,hy,ly,_⟩:=hb4.list
   refine ⟨B,ys,rfl,.inl hy,?_⟩
   rw [ly]
   have pos:0 < bs.length:=List.length_pos_iff.mpr hbs
   walk_at "rd"
   exact ⟨by lia,hb4.pick (Int.emod_nonneg _ (by lia)) (Int.emod_lt_of_pos _ (by lia)) (hR H4 u4 dk4 hb4)⟩
 have u12:=u1.trans u2
 have NX:¬ (bs≠[]∧kd < 3)→U2 [some (V.ref D),some (V.ref B),some (V.int k),some (V.int kd),none] H2:=by
   intro hn
   rw [if_neg hn] at eg
   refine (hU2 _ _).mpr (ax fun U3 hU3=>?_)
   have NY:¬ (bs≠[]∧kd < 6)→∀ H3,aw H2 H3→U3 [some (V.ref D),some (V.ref B),some (V.int k),some (V.int kd),none] H3:=by
     intro hn2 H3 s3
     rw [if_neg hn2] at eg
     have u3:bD D H H3:=u12.trans (.of s3)
     have dk3:=dk2.same s3
     have hb3:=hb2.same s3
     have Jr:=u3.dom (by rw [dk3.bG]; simp)
     refine (hU3 _ _).mpr (ax fun U4 hU4=>?_)
     walk_at "rd"
     refine cb (fun k6=>?_) (fun k6=>(hU4 _ _).mpr (ax fun U5 hU5=>?_))
     · rw [if_pos k6] at eg
       rw [eg] at q
       refine ⟨D,S,sc,p + 1,rfl,dk3,by lia,fun H4 u4 dk4=>?_⟩
       walk_at "rd"
       obtain ⟨m0,m1⟩:=PG.gZ sc (p + 1)
       have sg:∀ i:Int,0≤i→i < 2→∃ c,atI (Str.ofString "<=").cps.toList i=some c∧V.str ⟨#[c]⟩=V.str (L2.S (PG.pick [] PG.sgs i)):=fun i h0 h3=>by
         have z3:i=0∨i=1:=by lia
         rcases z3 with rfl | rfl
         · exact ⟨60,av (j:=0) (by decide +kernel),rfl⟩
         · exact ⟨61,av (j:=1) (by decide +kernel),rfl⟩
       obtain ⟨c,hc,ec⟩:=sg (PG.next sc (p + 1) % 2) (by lia) (by lia)
       refine ⟨_,_,c,rfl,rfl,by decide,hc,?_⟩
       rw [ec]
       have hb4:=hb3.up u4
       have EJ:=u4.dom (by rw [dk4.bG]; simp)
       obtain ⟨g1,g2⟩:=PG.iW sc bs 1 (p + 2)
       refine ⟨D,S,B,sc,p + 2,1,bs,rfl,by lia,dk4,by lia,hb4,fun v5 H5 u5 dk5 o5=>?_⟩
       have hb5:=hb4.up u5
       have Pl:=u5.dom (by rw [dk5.bG]; simp)
       obtain ⟨g3,g4⟩:=PG.iW sc bs 1 (PG.cA sc bs 1 (p + 2)).2
       refine ⟨D,S,B,sc,_,1,bs,rfl,by lia,dk5,by lia,hb5,fun v6 H6 u6 dk6 o6 p7 hp7=>?_⟩
       have Sn:=u6.dom (by rw [dk6.bG]; simp)
       have dA:∀ b,H b≠none→H4 b≠none:=fun b z=>EJ b (Jr b z)
       have dB:∀ b,H b≠none→H5 b≠none:=fun b z=>Pl b (dA b z)
       exact q _ _ ((((u3.trans u4).trans u5).trans u6).new hp7 _) (dk6.same (aw.new hp7 _)) (jn hp7 (fun b z=>Sn b (dB b z)) (.cons .str (.cons .int (.cons .str (.cons ((o5.back dA).up u6 hDn) (.cons (o6.back dB) .nil))))))
     · rw [if_neg k6] at eg
       walk_at "rd"
       refine cb (fun k7=>?_) (fun k7=>(if_neg Bool.false_ne_true).mpr ((hU5 _ _).mpr ?_))
       · rw [if_pos k7] at eg
         refine ⟨D,S,sc,p + 1,rfl,dk3,by lia,fun H4 u4 dk4=>?_⟩
         walk_at "rd"
         have EJ:=u4.dom (by rw [dk4.bG]; simp)
         refine cb (fun z3=>?_) (fun z3=>(hU5 _ _).mpr ?_)
         · rw [if_pos z3] at eg
           rw [eg] at q
           intro p5 hp5
           exact q _ _ ((u3.trans u4).new hp5 _) (dk4.same (aw.new hp5 _)) (jn hp5 (fun b z=>EJ b (Jr b z)) (.cons .str (.cons .int .nil)))
         · rw [if_neg z3] at eg
           walk_at "rd"
           exact say H4 (p + 2) eg (by lia) (u3.trans u4) dk4 (hb3.up u4)
       · rw [if_neg k7] at eg
         walk_at "rd"
         exact say H3 (p + 1) eg (by lia) u3 dk3 hb3
   walk_at "rd"
   intro p3 hp3
   have s3:=aw.new hp3 (.lst [])
   have hb3:=hb2.same s3
   have h3:(upd H2 p3 (.lst [])) p3=some (.lst []):=ae
   have dk3:=dk2.same s3
   generalize upd H2 p3 (.lst [])=H3 at *
   obtain ⟨ys,hy,ly,_⟩:=hb3.list
   refine ⟨B,p3,ys,rfl,rfl,hy,.of h3,?_⟩
   have em3:ys.isEmpty=decide (bs=[]):=by
     rw [Bool.eq_iff_iff,List.isEmpty_iff,decide_eq_true_eq,← List.length_eq_zero_iff,ly,List.length_eq_zero_iff]
   rw [em3]
   by_cases hbs:bs=[]
   · rw [decide_eq_true hbs,if_neg (by decide),if_neg Bool.false_ne_true]
     exact NY (fun z=>z.1 hbs) H3 s3
   · rw [decide_eq_false hbs,if_pos (by decide)]
     refine cb (fun k6=>?_) (fun k6=>NY (fun z=>k6 z.2) H3 s3)
     rw [if_pos ⟨hbs,k6⟩] at eg
     rw [eg] at q
     refine box H3 (p + 1) _ dk3 (by lia) hb3 hbs fun H4 u4 dk4 hb4=>?_
     have u3:bD D H H3:=u12.trans (.of s3)
     have Jr:=u3.dom (by rw [dk3.bG]; simp)
     have EJ:=u4.dom (by rw [dk4.bG]; simp)
     obtain ⟨g1,g2⟩:=PG.iW sc bs 2 (p + 2)
     refine ⟨D,S,B,sc,p + 2,2,bs,rfl,by lia,dk4,by lia,hb4,fun v5 H5 u5 dk5 o5 p6 hp6=>?_⟩
     have Pl:=u5.dom (by rw [dk5.bG]; simp)
     exact q _ _ (((u3.trans u4).trans u5).new hp6 _) (dk5.same (aw.new hp6 _)) (jn hp6 (fun b z=>Pl b (EJ b (Jr b z))) (.cons .str (.cons .int (.cons .str (.cons (o5.back fun b z=>EJ b (Jr b z)) .nil)))))
 by_cases hbs:bs=[]
 · rw [decide_eq_true hbs,if_neg (by decide),if_neg Bool.false_ne_true]
   exact NX fun z=>z.1 hbs
 · rw [decide_eq_false hbs,if_pos (by decide)]
   refine cb (fun k3=>?_) (fun k3=>NX fun z=>k3 z.2)
   rw [if_pos ⟨hbs,k3⟩] at eg
   rw [eg] at q
   refine box H2 (p + 1) _ dk2 (by lia) hb2 hbs fun H4 u4 dk4 hb4 p5 hp5=>?_
   have EJ:=u4.dom (by rw [dk4.bG]; simp)
   exact q _ _ ((u12.trans u4).new hp5 _) (dk4.same (aw.new hp5 _)) (jn hp5 (fun b z=>EJ b (Sm b (Gi b z))) (.cons .str (.cons .int (.cons .str .nil))))
theorem LQ:∀ w:PG.Wd,(!inV (V.str (wdS w)) [V.str (Str.ofString "else"),V.str (Str.ofString "end")])=decide (w≠.els∧w≠.fin):=by
 intro w
 cases w <;> decide +kernel
theorem Js (T:Tx K mg t):bW P w K mg base CX0 1 t.eK t.oZ ["boxes", "rows", "mode"] (K9 K):=by
 refine T.eM.F.okS oX (fun vs H Q E h=>?_) (fun cdv A outer s H vs Q E hr h=>?_)
 · obtain ⟨_,_,_,_,_,rfl,_⟩:=h
   rfl
 obtain ⟨B,R,bs,rows,mode,rfl,rb,rr,lb,lr,q⟩:=h
 have nd:=oX.nd
 refine ⟨_,[some (V.ref B),some (V.ref R),some (V.int mode)],(ag (bA (aL b9 (pv 2) aj (aT _))
 (au (aV (bc dX (bc dX (bO bq rfl T.fE PyProof.Rows.Boot.«len» (aa (pv 0) ai ah)) aj) (bc ox aj (bO bq rfl T.fE PyProof.Rows.Boot.«len» (aa (pv 1) ai ah))))))
 a9)
 (ag (bA (aL b9 (pv 2) aj (aT _))
 (au (aV (bc dX (bc dX (bO bq rfl T.fE PyProof.Rows.Boot.«len» (aa (pv 0) ai ah)) aj) (bO bq rfl T.fE PyProof.Rows.Boot.«len» (aa (jm (own:=["row"]) (ix:=[]) rfl (by rfl) (by rfl) (eQ (pv 1)) (fun _ _ _ _=>(br (i:=0) (by show List.Nodup (["row"]:List Str); decide +kernel) rfl (Or.inl rfl))) (fun _ _ _ _=>(G6 (aL (IY (K:=K) rfl) (aD (La (K:=K) rfl) (pv 0) aj ak) (aZ (cX (vs:=[.str "else",.str "end"]) (by kernel_rfl))) rfl))) (fun _ _ _ _=>(pv 0))) ai lW)))))
 a9)
 (au (aV (bc dX (bc dX (bO bq rfl T.fE PyProof.Rows.Boot.«len» (aa (pv 0) ai ah)) aj) (bO bq rfl T.fE PyProof.Rows.Boot.«len» (aa (pv 1) ai ah))))))),rfl,?_⟩
 have line:sizeLine=2 ^ 24:=rfl
 rw [Rep.bR] at rb rr
 obtain ⟨_,bv,e,hB,rb⟩:=rb
 cases e
 obtain ⟨_,rv,e,hR,rr⟩:=rr
 cases e
 have lbv:bv.length=bs.length:=by rw [rb.length,List.length_map]
 have lrv:rv.length=rows.length:=by rw [rr.length,List.length_map]
 unfold PG.number at q
 walk_at "rd"
 refine cb (fun m2=>?_) (fun m2=>?_)
 · rw [if_pos m2] at q
   refine ⟨B,bv,rfl,.inl hB,R,rv,rfl,.inl hR,?_⟩
   rw [lbv,lrv]
   exact ⟨mulL (by decide) (by decide),q _ (aw.refl _)⟩
 rw [if_neg m2] at q
 refine cb (fun m3=>?_) (fun m3=>?_)
 · rw [if_pos m3] at q
   refine ⟨B,bv,rfl,.inl hB,?_⟩
   simp only [kb]
   walk_at "rd"
   refine ⟨⟨rv,hR⟩,fun D hD=>?_⟩
   refine yQ (K:=K) (r:=[]) (fun i=>PG.plainRow (rows.getD i (0,.ask))) (fun i=>rv.getD i .non) hR (by lia) hD (fun i x hx H2 s2 R2 hR2=>?_) (fun i x hx _ H2 s2 R2 hR2=>?_) (fun H2 s2 h2=>?_)
   · have li:i < rows.length:=by
       have:=(List.getElem?_eq_some_iff.mp hx).1
       lia
     obtain ⟨v,hv,rw_⟩:=rr.get (i:=i) (d:=lh (rows.getD i (0,.ask))) (by rw [List.getElem?_map,List.getElem?_eq_getElem li,List.getD_eq_getElem?_getD,List.getElem?_eq_getElem li]; rfl)
     rw [hx] at hv
     cases hv
     generalize rows.getD i (0,.ask)=row at *
     unfold lh at rw_
     rw [Rep.bR] at rw_
     obtain ⟨a,ys,rfl,hy,ry⟩:=rw_
     rw [aS.aM] at ry
     obtain ⟨v1,t1,rfl,e1,ry⟩:=ry
     rw [aS.aM] at ry
     obtain ⟨v2,t2,rfl,e2,ry⟩:=ry
     rw [aS.bw] at ry
     subst ry
     rw [Rep.bF] at e2
     subst e2
     walk_at "rd"
     refine bK (v:=V.str (wdS row.2)) (s2.seq hy) (av (j:=1) rfl) fun p3 hp3=>?_
     refine ⟨p3,_,rfl,.inr (.of ae),rfl,rfl,?_⟩
     have ew:(!inV (V.str (wdS row.2)) [V.str (Str.ofString "else"),V.str (Str.ofString "end")])=PG.plainRow row:=by
       exact LQ row.2
     have:=hR2 _ (aw.new hp3 (.tup [V.str (Str.ofString "else"),V.str (Str.ofString "end")]))
     rw [← ew] at this
     exact ⟨_,rfl,this⟩
   · walk_at "rd"
     have:=hR2 H2 (aw.refl _)
     rw [List.getD_eq_getElem?_getD,hx] at this
     exact this
   · refine ⟨D,_,rfl,.inl (.of h2),?_⟩
     rw [List.length_map,lrv,Ej,lbv]
     exact q _ s2
 · rw [if_neg m3] at q
   refine ⟨B,bv,rfl,.inl hB,R,rv,rfl,.inl hR,?_⟩
   rw [lbv,lrv]
   exact q _ (aw.refl _)
theorem jE {α:Type} {xs:List α} {x:α}:atI (xs ++ [x]) (-1)=some x:=by
 have e:ixN (xs ++ [x]).length (-1)=some xs.length:=by
   unfold ixN
   simp
   try lia
 unfold atI
 rw [e]
 simp
theorem uW {K:PySem.W.Frag} {Oo:Addr→Prop} {H:Hp} {ds es:List Dp} {vs us:List V} (a:eX K Oo H ds vs) (b:eX K Oo H es us):eX K Oo H (ds ++ es) (vs ++ us):=fun H2 u=>(a H2 u).append (b H2 u)
theorem Cy {K:PySem.W.Frag} {H:Hp} {a b:Addr} {xs ys:List V} {Q:VK} (h1:H a=some (.tup xs)) (h2:H b=some (.tup ys)) (n1:1≤xs.length∧xs.length≤10) (n2:1≤ys.length∧ys.length≤10) (q:∀ p,H p=none→Q (.ref p) (upd H p (.tup (xs ++ ys)))):NI K (.ref a) (.ref b) H Q:=by
 have line:sizeLine=2 ^ 24:=rfl
 refine ⟨a,b,xs,ys,rfl,rfl,.of h1,.of h2,by intro z; rw [z] at n1; simp at n1,by lia,fun z=>by rw [z] at n2; simp at n2,fun _=>q⟩
theorem LR (T:Tx K mg t):bW P w K mg base CX0 1 t.fh t.rH ["pile"] (MY K):=by
 refine T.fo.F.okS rA (fun vs H Q E h=>?_) (fun cdv A outer s H vs Q E hr h=>?_)
 · obtain ⟨_,_,_,_,_,_,_,_,_,_,_,_,_,_,_,_,rfl,_⟩:=h
   rfl
 obtain ⟨D,S,sc,p,B,bs,P',R,f,g,a,b,a',b',r,rows,rfl,st,hk,hg,Te,q⟩:=h
 have nd:=rA.nd
 refine ⟨_,[some (V.ref P'),none,none,none,none,none],(ag (ou (B6 PySem.F.plainAttrs_list PySem.F.slot_list_pop PySem.F.type_list_pop FE (pv 0)) (Ca rfl (cC (br (i:=1) nd rfl (Or.inl rfl)) (cC (br (i:=2) nd rfl (Or.inl rfl)) (cC (br (i:=3) nd rfl (Or.inl rfl)) (cC (br (i:=4) nd rfl (Or.inl rfl)) lP))))))
 (ag (aR (i:=5) nd rfl (Or.inl rfl) (bc ub (pv 3) (aZ (aa (pv 2) ai ah))))
 (ag (bA (aL b9 (pv 1) ba (aT _))
 (au (aR (i:=5) nd rfl (Or.inl rfl) (bc ub (pv 3) (aZ (aa (pv 2) (aa (bH ai) ai iV) ah)))))
 a9)
 (ag (bA (aL b9 (pv 1) ba (aT _))
 (au (aR (i:=5) nd rfl (Or.inl rfl) (bc ub (pv 3) (aZ (aa (pv 4) (aa (pv 2) ai ah) ah)))))
 a9)
 (au (b8 (fz PySem.F.plainAttrs_list PySem.F.slot_list_append PySem.F.type_list_append bX (aD bt (aD bt (pv 0) (yk sS aj) yC) aj ak) (aa (pv 5) ai ah)))))))),rfl,?_⟩
 have line:sizeLine=2 ^ 24:=rfl
 refine ax fun U1 hU1=>?_
 walk_at "rd"
 have ep:((f,a,b) :: (g,a',b') :: r:List Fra).reverse.map (fun x=>V.ref x.2.1)=((g,a',b') :: r:List Fra).reverse.map (fun x=>V.ref x.2.1) ++ [.ref a]:=by rw [List.reverse_cons,List.map_append]; rfl
 obtain ⟨st1,⟨hd,fi,xs,fa⟩,na,nb,nab⟩:=st.pop
 have kd:∀ c,H c≠none→(upd H P' (.lst (((g,a',b') :: r:List Fra).reverse.map fun x=>V.ref x.2.1))) c≠none:=fun c hc=>by
   by_cases e:c=P'
   · rw [e,ae]; simp
   · rw [az e]; exact hc
 have kp:∀ c o,c ∉ opn D P' R ((f,a,b) :: (g,a',b') :: r)→H c=some o→(upd H P' (.lst (((g,a',b') :: r:List Fra).reverse.map fun x=>V.ref x.2.1))) c=some o:=fun c o hc e=>by
   rw [az (fun z=>hc (by rw [z]; simp [opn]))]; exact e
 refine ⟨.inl ⟨rfl,_,.of st.a7⟩,P',_,.ref a,rfl,rfl,st.a7,by rw [ep]; simp,?_⟩
 rw [ep,List.dropLast_concat]
 generalize upd H P' (.lst (((g,a',b') :: r:List Fra).reverse.map fun x=>V.ref x.2.1))=H1 at *
 refine ⟨a,_,rfl,.of fa.fr,rfl,_,_,rfl,_,_,rfl,_,_,rfl,_,_,rfl,rfl,(hU1 _ _).mpr (ax fun U2 hU2=>?_)⟩
 clear hU1
 obtain ⟨c,ys,rfl,hc,nc,fys⟩:=fa.IX (by lia)
 have lys:ys.length=5:=by have:=fys.K7.length; simpa using this
 have Gk:∀ z,O D P' R ((g,a',b') :: r) [] z→O D P' R ((g,a',b') :: r) [a,b] z:=fun z hz=>hz.elim .inl fun w=>absurd w (by simp)
 have st2:=st1.less (E':=[]) (fun z hz=>absurd hz (by simp))
 have Pm:=fys.sub Gk
 have nb2:¬ O D P' R ((g,a',b') :: r) [] b:=fun z=>z.elim nb (by simp)
 have okb:Fix K (O D P' R ((g,a',b') :: r) []) H1 (.lst (f.body.map dpS)) (.ref b):=Fix.lst fa.bd nb2 (fa.ok.sub Gk)
 walk_at "rd"
 intro p2 hp2
 have s2:=aw.new hp2 (.tup [.ref b])
 have t2:(upd H1 p2 (.tup [.ref b])) p2=some (.tup [.ref b]):=ae
 generalize upd H1 p2 (.tup [.ref b])=H2 at *
 refine Cy (s2 _ _ hc) t2 (by lia) (by simp) fun p3 hp3=>?_
 have s3:=s2.trans (aw.new hp3 (.tup (ys ++ [.ref b])))
 have t3:(upd H2 p3 (.tup (ys ++ [.ref b]))) p3=some (.tup (ys ++ [.ref b])):=ae
 have n3:p3 ∉ opn D P' R ((g,a',b') :: r):=(st2.same s2).fresh hp3
 generalize upd H2 p3 (.tup (ys ++ [.ref b]))=H3 at *
 refine (hU2 _ _).mpr (ax fun U3 hU3=>?_)
 clear hU2
 walk_at "rd"
 have Q7:(kdS f.kind=Str.ofString "if")↔f.kind=1:=by
   rcases hk with h | h | h <;> rw [h] <;> simp [kdS] <;> decide +kernel
 have Q8:(kdS f.kind=Str.ofString "else")↔f.kind=2:=by
   rcases hk with h | h | h <;> rw [h] <;> simp [kdS] <;> decide +kernel
 have NZ:∀ (v:V) (H4:Hp),aw H1 H4→(f.kind≠2→Fix K (O D P' R ((g,a',b') :: r) []) H4 (dpS f.told) v)→U3 [some (V.ref P'),some (V.str (kdS f.kind)),some (V.ref b),some (V.ref c),some fi,some v] H4:=by
   intro v H4 s4 hv
   refine (hU3 _ _).mpr (ax fun U4 hU4=>?_)
   have last:∀ (v:V) (H5:Hp),aw H1 H5→Fix K (O D P' R ((g,a',b') :: r) []) H5 (dpS f.told) v→U4 [some (V.ref P'),some (V.str (kdS f.kind)),some (V.ref b),some (V.ref c),some fi,some v] H5:=by
     intro v H5 s5 fv
     refine (hU4 _ _).mpr ?_
     have st5:=st2.same s5
     obtain ⟨hd',fi',xs',fg⟩:=st5.frames _ (List.mem_cons_self ..)
     have lg:xs'.length≤1000:=by have:=fg.len; simp only at this; lia
     walk_at "rd"
     have pl:H5 P'=some (.lst ((r.reverse.map fun x=>V.ref x.2.1) ++ [.ref a'])):=by rw [st5.a7,List.reverse_cons,List.map_append]; rfl
     refine ⟨1,rfl,bK (v:=.ref a') (.of pl) jE (bK (v:=.ref b') (.of fg.fr) (av (j:=1) rfl) ⟨.inl ⟨rfl,_,.of fg.bd⟩,b',xs',v,rfl,rfl,fg.bd,by lia,?_⟩)⟩
     refine q _ (fun z hz=>?_) (fun z o nz e=>?_) (st5.stm fg.bd fv)
     · by_cases e:z=b'
       · rw [e,ae]; simp
       · rw [az e]
         have h1:=kd z hz
         cases w:H1 z with
         | none=>exact absurd w h1
         | some o=>rw [s5 _ _ w]; simp
     · rw [az (fun w=>nz (by rw [w]; simp [opn]))]
       exact s5 _ _ (kp z o nz e)
   walk_at "rd"
   refine cb (fun e2=>?_) (fun e2=>last v H4 s4 (hv fun z=>e2 (Q8.mpr z)))
   have k2:=Q8.mp e2
   intro p5 hp5
   have s5:=s4.trans (aw.new hp5 (.tup [fi,.ref b]))
   have t5:(upd H4 p5 (.tup [fi,.ref b])) p5=some (.tup [fi,.ref b]):=ae
   generalize upd H4 p5 (.tup [fi,.ref b])=H5 at *
   refine Cy (s5 _ _ hc) t5 (by lia) (by simp) fun p6 hp6=>?_
   have s6:=s5.trans (aw.new hp6 (.tup (ys ++ [fi,.ref b])))
   have n6:¬ O D P' R ((g,a',b') :: r) [] p6:=fun z=>z.elim ((st2.same s5).fresh hp6) (by simp)
   refine last _ _ s6 ?_
   have et:dpS f.told=.tup ([.str "if",.int f.k,.str (L2.S f.sg),dpT f.l,dpT f.r] ++ [.lst (f.first.map dpS),.lst (f.body.map dpS)]):=by
     unfold PG.Frame.told
     rw [if_neg (by lia),if_pos k2,dpS,fC,fC]
     rfl
   rw [et]
   have f5:=Pm
   rw [if_neg (by lia)] at f5
   refine Fix.tup ae n6 ?_
   exact uW (f5.up (.of s6)) (.cons (((fa.K8 k2).sub Gk).up (.of s6)) (.cons (okb.up (.of s6)) .nil))
 refine cb (fun e1=>?_) (fun e1=>NZ _ H3 s3 fun hn2=>?_)
 · have k1:=Q7.mp e1
   intro p4 hp4 p5 hp5
   have s4:=s3.trans (aw.new hp4 (.lst []))
   have t4:(upd H3 p4 (.lst [])) p4=some (.lst []):=ae
   have n4:¬ O D P' R ((g,a',b') :: r) [] p4:=fun z=>z.elim ((st2.same s3).fresh hp4) (by simp)
   generalize upd H3 p4 (.lst [])=H4 at *
   have s5:=s4.trans (aw.new hp5 (.tup [.ref b,.ref p4]))
   have t45:=aw.new hp5 (.tup [.ref b,.ref p4]) _ _ t4
   have t5:(upd H4 p5 (.tup [.ref b,.ref p4])) p5=some (.tup [.ref b,.ref p4]):=ae
   generalize upd H4 p5 (.tup [.ref b,.ref p4])=H5 at *
   refine Cy (s5 _ _ hc) t5 (by lia) (by simp) fun p6 hp6=>?_
   have s6:=s5.trans (aw.new hp6 (.tup (ys ++ [.ref b,.ref p4])))
   have t6:=aw.new hp6 (.tup (ys ++ [.ref b,.ref p4])) _ _ t45
   have n6:¬ O D P' R ((g,a',b') :: r) [] p6:=fun z=>z.elim ((st2.same s5).fresh hp6) (by simp)
   refine NZ _ _ s6 fun _=>?_
   have et:dpS f.told=.tup ([.str "if",.int f.k,.str (L2.S f.sg),dpT f.l,dpT f.r] ++ [.lst (f.body.map dpS),.lst []]):=by
     unfold PG.Frame.told
     rw [if_pos k1,dpS,fC]
     rfl
   rw [et]
   have f5:=Pm
   rw [if_neg (by lia)] at f5
   refine Fix.tup ae n6 ?_
   exact uW (f5.up (.of s6)) (.cons (okb.up (.of s6)) (.cons (Fix.lst t6 n4 .nil) .nil))
 · have k3:f.kind=3:=by
     have:¬ f.kind=1:=fun z=>e1 (Q7.mpr z)
     lia
   have et:dpS f.told=.tup ([.str "while",.int f.k,.str (L2.S f.sg),dpT f.l,dpT f.r] ++ [.lst (f.body.map dpS)]):=by
     unfold PG.Frame.told
     rw [if_neg (by lia),if_neg (by lia),dpS,fC]
     rfl
   rw [et]
   have f5:=Pm
   rw [if_pos k3] at f5
   exact Fix.tup t3 (fun z=>z.elim n3 (by simp)) (uW (f5.up (.of s3)) (.cons (okb.up (.of s3)) .nil))
theorem Gm (T:Tx K mg t):bW P w K mg base CX0 6 t.dM t.nH ["deck", "many"] (F8 K):=by
 have bh:bW P w K mg base CX0 1 t.cW t.gc ["deck"] (wg K):=uV T
 have gA:=LM (P:=P) (w:=w) (base:=base) T 2
 have Cz:=LN (P:=P) (w:=w) (base:=base) T
 have CA:=LP (P:=P) (w:=w) (base:=base) T
 have rJ:=Js (P:=P) (w:=w) (base:=base) T
 have uX:=LR (P:=P) (w:=w) (base:=base) T
 refine T.ia.F.okS nF (fun vs H Q E h=>?_) (fun cdv A outer s H vs Q E hr h=>?_)
 · obtain ⟨_,_,_,_,_,rfl,_⟩:=h
   rfl
 obtain ⟨D,S,sc,p,many,rfl,dk,hp,hm,q⟩:=h
 have nd:=nF.nd
 refine ⟨_,[some (V.ref D),some (V.int many),none,none,none,none,none,none,none,none,none,none,none,none,none],(ag (aR (i:=2) nd rfl (Or.inl rfl) (aJ Cz (hr.mono (by omega)) rfl T.jv.m T.jv.F.kp T.jv.b .nil a8 (aa (pv 0) ai ah)))
 (ag (aR (i:=3) nd rfl (Or.inl rfl) (bH (aa (bH (aa ba (aa (bH ai) (aa dW (aa dW ai aW) aW) iV) aW)) ai iV)))
 (ag (aR (i:=4) nd rfl (Or.inl rfl) (bH ai))
 (ag (aR (i:=5) nd rfl (Or.inl rfl) (bc cm (aJ bh (hr.mono (by omega)) rfl T.ay.m T.ay.F.kp T.ay.b .nil a8 (aa (pv 0) ai ah)) aj))
 (ag (gT PassesOwn.never rfl (iq rfl T.ic (aa (pv 1) ai ah)) (br (i:=6) nd rfl (Or.inl rfl))
 (ag (aR (i:=7) nd rfl (Or.inl rfl) (aJ rJ (hr.mono (by omega)) rfl T.eM.m T.eM.F.kp T.eM.b .nil a8 (aa (pv 2) (aa (pv 4) (aa (pv 5) ai ah) ah) ah)))
 (ag (aR (i:=8) nd rfl (Or.inl rfl) (bc cm (aJ bh (hr.mono (by omega)) rfl T.ay.m T.ay.F.kp T.ay.b .nil a8 (aa (pv 0) ai ah)) aj))
 (au (bA (PW.pt (pw_and (aL oy (pv 8) aj (aT _)) (pw_and1 (aL JP (bO bq rfl T.fE PyProof.Rows.Boot.«len» (aa (pv 3) ai ah)) aj (aT _)))))
 (ag (b8 (aJ uX (hr.mono (by omega)) rfl T.fo.m T.fo.F.kp T.fo.b .nil a8 (aa (pv 3) ai ah)))
 (au (b8 (fz PySem.F.plainAttrs_list PySem.F.slot_list_append PySem.F.type_list_append bX (pv 4) (aa (bH (aa (pv 7) (aa ba ai aW) ah)) ai iV)))))
 (au (bA (PW.pt (pw_and (aL b9 (pv 8) aj (aT _)) (pw_and1 (aL b9 (aD bt (aD bt (pv 3) (yk sS aj) yC) aj ak) ba (aT _)))))
 (ag (ou (B6 PySem.F.plainAttrs_list PySem.F.slot_list_pop PySem.F.type_list_pop FE (pv 3)) (Ca rfl (cC (br (i:=9) nd rfl (Or.inl rfl)) (cC (br (i:=10) nd rfl (Or.inl rfl)) (cC (br (i:=11) nd rfl (Or.inl rfl)) (cC (br (i:=12) nd rfl (Or.inl rfl)) lP))))))
 (ag (b8 (fz PySem.F.plainAttrs_list PySem.F.slot_list_append PySem.F.type_list_append bX (pv 3) (aa (bH (aa ba (aa (bH ai) (aa (pv 11) (aa (pv 10) ai ah) ah) iV) aW)) ai iV)))
 (au (b8 (fz PySem.F.plainAttrs_list PySem.F.slot_list_append PySem.F.type_list_append bX (pv 4) (aa (bH (aa (pv 7) (aa ba ai aW) ah)) ai iV))))))
 (au (bA (PW.pt (pw_and (aL oy (pv 8) aj (aT _)) (pw_and1 (aL oy (bO bq rfl T.fE PyProof.Rows.Boot.«len» (aa (pv 3) ai ah)) aj (aT _)))))
 (ag (aR (i:=13) nd rfl (Or.inl rfl) (aD bt (bH (cX (vs:=[.str "if",.str "if",.str "while"]) (by kernel_rfl))) (bc cm (pv 8) aj) kz))
 (ag (aR (i:=14) nd rfl (Or.inl rfl) (aZ (aa (aD B3 ba (bc cm (aJ bh (hr.mono (by omega)) rfl T.ay.m T.ay.F.kp T.ay.b .nil a8 (aa (pv 0) ai ah)) aj) kz) (aa (aJ gA (hr.mono (by omega)) rfl T.bV.m T.bV.F.kp T.bV.b .nil a8 (aa (pv 0) (aa (pv 2) (aa aj ai aW) ah) ah)) (aa (aJ gA (hr.mono (by omega)) rfl T.bV.m T.bV.F.kp T.bV.b .nil a8 (aa (pv 0) (aa (pv 2) (aa aj ai aW) ah) ah)) ai bM) bM) bg)))
 (ag (b8 (fz PySem.F.plainAttrs_list PySem.F.slot_list_append PySem.F.type_list_append bX (pv 3) (aa (bH (aa (pv 13) (aa (bH ai) (aa (bc ub (aZ (aa (pv 13) (aa (pv 7) ai ah) ah)) (pv 14)) (aa dW ai aW) gY) iV) ah)) ai iV)))
 (au (b8 (fz PySem.F.plainAttrs_list PySem.F.slot_list_append PySem.F.type_list_append bX (pv 4) (aa (bH (aa (pv 7) (aa (pv 13) ai ah) ah)) ai iV)))))))
 (ag (b8 (fz PySem.F.plainAttrs_list PySem.F.slot_list_append PySem.F.type_list_append bX (aD bt (aD bt (pv 3) (yk sS aj) yC) aj ak) (aa (aJ CA (hr.mono (by omega)) rfl T.jw.m T.jw.F.kp T.jw.b .nil a8 (aa (pv 0) (aa (pv 2) (aa (pv 7) ai ah) ah) ah)) ai bM)))
 (au (b8 (fz PySem.F.plainAttrs_list PySem.F.slot_list_append PySem.F.type_list_append bX (pv 4) (aa (bH (aa (pv 7) (aa (aD aP (aD bt (aD bt (aD bt (pv 3) (yk sS aj) yC) aj ak) (yk sS aj) yC) aj ak) ai bg) ah)) ai iV))))))))))))))
 (ag (tX PassesOwn.never (aL JP (bO bq rfl T.fE PyProof.Rows.Boot.«len» (aa (pv 3) ai ah)) aj (aT _))
 (ag (b8 (aJ uX (hr.mono (by omega)) rfl T.fo.m T.fo.F.kp T.fo.b .nil a8 (aa (pv 3) ai ah)))
 (au (b8 (fz PySem.F.plainAttrs_list PySem.F.slot_list_append PySem.F.type_list_append bX (pv 4) (aa (bH (aa (aJ rJ (hr.mono (by omega)) rfl T.eM.m T.eM.F.kp T.eM.b .nil a8 (aa (pv 2) (aa (pv 4) (aa (pv 5) ai ah) ah) ah)) (aa ba ai aW) bM)) ai iV))))))
 (au (aV (bH (aa (aZ (aa (pv 2) (aa (aD bt (aD bt (pv 3) aj ak) aj ak) ai bg) ah)) (aa (pv 4) ai ah) eT)))))))))),rfl,?_⟩
 have line:sizeLine=2 ^ 24:=rfl
 have hDn:H D≠none:=by rw [dk.bG]; simp
 refine ax fun U1 hU1=>?_
 walk_at "rd"
 refine ⟨D,S,sc,p,rfl,dk,by lia,fun B H1 u1 dk1 hB ow1=>(hU1 _ _).mpr (ax fun U2 hU2=>?_)⟩
 clear hU1
 unfold PG.cD at q
 simp only at q
 generalize hbs:PG.bP sc (PG.next sc p % 4) (PG.next sc (p + 1) % 5).toNat 0 (p + 2)=bs at *
 have k1:Kept D H H1:=⟨u1,u1.dom (by rw [dk1.bG]; simp)⟩
 have bx1:Fix K (·=D) H1 (.lst (bs.1.map jG)) (.ref B):=ow1 _ fun b hb=>by rw [show b=D from hb]; exact hDn
 walk_at "rd"
 intro b0 hb0
 have x1:=bx1.apart (o:=.lst []) hb0
 have y1:(upd H1 b0 (.lst [])) b0=some (.lst []):=ae
 have s1:=aw.new hb0 (.lst [])
 have dk2:=dk1.same s1
 have k2:=k1.same s1
 have e1:H b0=none:=by
   cases z:H b0 with
   | none=>rfl
   | some o=>exact absurd hb0 (k1.2 b0 (by rw [z]; simp))
 generalize upd H1 b0 (.lst [])=H2 at *
 intro a0 ha0
 have x2:=x1.apart (o:=.lst [V.str (Str.ofString "all"),V.ref b0,V.non,V.non]) ha0
 have s2:=aw.new ha0 (.lst [V.str (Str.ofString "all"),V.ref b0,V.non,V.non])
 have y2:(upd H2 a0 (.lst [V.str (Str.ofString "all"),V.ref b0,V.non,V.non])) a0=some (.lst [V.str (Str.ofString "all"),V.ref b0,V.non,V.non]):=ae
 have y1:=s2 _ _ y1
 have nab:a0≠b0:=fun z=>by rw [z] at ha0; rw [‹H2 b0=some (HO.lst [])›] at ha0; cases ha0
 have dk3:=dk2.same s2
 have k3:=k2.same s2
 have e2:H a0=none:=by
   cases z:H a0 with
   | none=>rfl
   | some o=>exact absurd ha0 (k2.2 a0 (by rw [z]; simp))
 generalize upd H2 a0 (.lst [V.str (Str.ofString "all"),V.ref b0,V.non,V.non])=H3 at *
 intro P' hP
 have x3:=x2.apart (o:=.lst [V.ref a0]) hP
 have s3:=aw.new hP (.lst [V.ref a0])
 have y3:(upd H3 P' (.lst [V.ref a0])) P'=some (.lst [V.ref a0]):=ae
 have nPa:a0≠P':=ao y2 hP
 have nPb:b0≠P':=ao y1 hP
 have nPD:D≠P':=ao dk3.bG hP
 have nPS:S≠P':=ao dk3.fI hP
 have y2:=s3 _ _ y2
 have y1:=s3 _ _ y1
 have nDb:D≠b0:=ao dk1.bG hb0
 have nSb:S≠b0:=ao dk1.fI hb0
 have nDa:D≠a0:=ao dk2.bG ha0
 have nSa:S≠a0:=ao dk2.fI ha0
 have dk4:=dk3.same s3
 have k4:=k3.same s3
 have e3:H P'=none:=by
   cases z:H P' with
   | none=>rfl
   | some o=>exact absurd hP (k3.2 P' (by rw [z]; simp))
 generalize upd H3 P' (.lst [V.ref a0])=H4 at *
 refine (hU2 _ _).mpr (ax fun U3 hU3=>?_)
 clear hU2
 walk_at "rd"
 intro R hR
 have x4:=x3.apart (o:=.lst []) hR
 have s4:=aw.new hR (.lst [])
 have y4:(upd H4 R (.lst [])) R=some (.lst []):=ae
 have nRa:a0≠R:=ao y2 hR
 have nRb:b0≠R:=ao y1 hR
 have nRP:P'≠R:=ao y3 hR
 have nRD:D≠R:=ao dk4.bG hR
 have nRS:S≠R:=ao dk4.fI hR
 have y1:=s4 _ _ y1
 have y2:=s4 _ _ y2
 have y3:=s4 _ _ y3
 have dk5:=dk4.same s4
 have k5:=k4.same s4
 have e4:H R=none:=by
   cases z:H R with
   | none=>rfl
   | some o=>exact absurd hR (k4.2 R (by rw [z]; simp))
 generalize upd H4 R (.lst [])=H5 at *
 obtain ⟨bl,bp⟩:bs.1.length≤10∧bs.2≤p + 20:=by
   obtain ⟨l1,l2⟩:=PG.lY sc (PG.next sc p % 4) (PG.next sc (p + 1) % 5).toNat 0 (p + 2)
   rw [hbs] at l1 l2
   have:=PG.gZ sc (p + 1)
   lia
 have st0:PSt K H5 D S sc bs.2 B bs.1 P' R [({ kind:=0,body:=[] },a0,b0)] [] []:=by
   refine ⟨dk5,x4.sub fun z hz=>?_,bl,y3,fun x hx=>?_,⟨[],y4,.nil,rfl⟩,?_,?_⟩
   · rcases hz with hz | hz
     · simp only [opn,List.flatMap_cons,List.flatMap_nil,List.append_nil,List.mem_cons,List.not_mem_nil,or_false] at hz
       rcases hz with rfl | rfl | rfl | rfl | rfl
       · exact .inl (.inl (.inl (.inl rfl)))
       · exact .inl (.inr rfl)
       · exact .inr rfl
       · exact .inl (.inl (.inr rfl))
       · exact .inl (.inl (.inl (.inr rfl)))
     · cases hz
   · rw [List.mem_singleton.mp hx]
     exact ⟨.non,.non,[],y2,y1,.nil,fun z=>absurd rfl z,fun z=>absurd z (show ¬ (0=2) by decide),rfl⟩
   · simp only [opn,List.flatMap_cons,List.flatMap_nil,List.append_nil,List.nodup_cons,List.mem_cons,List.not_mem_nil,or_false,not_or,not_false_eq_true,List.nodup_nil,and_true]
     exact ⟨⟨nPD,nRD,nDa,nDb⟩,⟨nRP,nPa.symm,nPb.symm⟩,⟨nRa.symm,nRb.symm⟩,nab⟩
   · simp only [opn,List.flatMap_cons,List.flatMap_nil,List.append_nil,List.mem_cons,List.not_mem_nil,or_false,not_or]
     exact ⟨dk5.ne,nPS,nRS,nSa,nSb⟩
 refine (hU3 _ _).mpr (ax fun U4 hU4=>?_)
 clear hU3 x1 x2 x3 x4
 walk_at "rd"
 refine ⟨D,S,sc,bs.2,rfl,dk5,by lia,fun H6 u6 dk6=>?_⟩
 walk_at "rd"
 have k6:=k5.up u6 (by rw [dk6.bG]; simp)
 have st6:=st0.draw u6 dk6
 clear st0
 generalize PG.next sc bs.2 % 4=mode at *
 refine (hU4 _ _).mpr (ax fun U5 hU5=>?_)
 clear hU4
 generalize hw0:(⟨bs.2 + 1,[{ kind:=0,body:=[] }],[]⟩:PG.Walk)=w0 at *
 have ok0:PG.dH w0:=by rw [← hw0]; exact ⟨rfl,rfl,by simp⟩
 have len0:PG.oJ 0 w0:=by rw [← hw0]; exact ⟨fun f hf=>by rw [List.mem_singleton.mp hf]; exact Nat.le_refl _,Nat.le_refl _⟩
 refine kZ fun U hU=>?_
 walk_at "rd"
 refine ⟨_,rfl,by lia,by lia,hU _ _ ?_⟩
 clear hU
 rw [Int.toNat_natCast]
 obtain ⟨Pv,hPv⟩:∃ Pv:Nat→St→Hp→Prop,∀ i σ H7,Pv i σ H7↔∃ (z6 z7 z8 z9 z10 z11 z12 z13 z14:Option V) (frs:List Fra),σ=[some (V.ref D),some (V.int many),some (V.ref B),some (V.ref P'),some (V.ref R),some (V.int mode),z6,z7,z8,z9,z10,z11,z12,z13,z14]∧
     frs.map (·.1)=(PG.turns sc bs.1 mode i w0).a7∧PSt K H7 D S sc (PG.turns sc bs.1 mode i w0).p B bs.1 P' R frs (PG.turns sc bs.1 mode i w0).rows []∧Kept D H H7∧PG.dH (PG.turns sc bs.1 mode i w0)∧PG.oJ i (PG.turns sc bs.1 mode i w0)∧(PG.turns sc bs.1 mode i w0).p≤200 + 20 * i∧
     ∀ x∈frs,H x.2.1=none∧H x.2.2=none:=⟨_,fun _ _ _=>Iff.rfl⟩
 refine jA (lo:=0) (n:=many) Pv ?_ ?_ ?_
 · refine (hPv _ _ _).mpr ⟨none,none,none,none,none,none,none,none,none,[({ kind:=0,body:=[] },a0,b0)],rfl,?_,?_,k6,ok0,len0,?_,fun x hx=>by rw [List.mem_singleton.mp hx]; exact ⟨e2,e1⟩⟩
   · show _=w0.a7
     rw [← hw0]; rfl
   · show PSt K H6 D S sc w0.p B bs.1 P' R _ w0.rows []
     rw [← hw0]; exact st6
   · show w0.p≤_
     rw [← hw0]
     simp only
     lia
 · intro i σ H7 hi hv
   obtain ⟨z6,z7,z8,z9,z10,z11,z12,z13,z14,frs,rfl,ef,st,kp,ok,ln,pb,fr0⟩:=(hPv _ _ _).mp hv
   clear hv
   rw [Int.zero_add]
   have done:=fun σ H7=>(hPv (i + 1) σ H7).mpr
   rw [PG.yG] at done
   have ok':=PG.uk sc bs.1 mode ok
   have ln':=PG.DY sc bs.1 mode ln
   have pb':=(PG.OW sc bs.1 mode (PG.turns sc bs.1 mode i w0)).2
   generalize PG.turns sc bs.1 mode i w0=wk at *
   obtain ⟨pp,a7,rows⟩:=wk
   simp only at ef st pb pb'
   have rl:rows.length≤i:=ln.2
   cases a7 with
   | nil=>exact ok.a7.elim
   | cons f r=>
   cases frs with
   | nil=>cases ef
   | cons x0 fr=>
   obtain ⟨f',a,b⟩:=x0
   simp only [List.map_cons,List.cons.injEq] at ef
   obtain ⟨rfl,ef⟩:=ef
   have lfr:fr.length=r.length:=by rw [← ef,List.length_map]
   rw [PG.Cc] at done ok' ln' pb'
   simp only [gh,List.set]
   refine ax fun U6 hU6=>?_
   walk_at "rd"
   obtain ⟨rvs,hR7,fR,lR⟩:=st.rows
   refine ⟨B,R,bs.1,rows,mode,rfl,st.box.rep,Rep.bR.mpr ⟨R,rvs,rfl,.of hR7,fR.K7⟩,bl,by lia,fun H8 s8=>(hU6 _ _).mpr (ax fun U7 hU7=>?_)⟩
   clear hU6
   have st8:=st.same s8
   have kp8:=kp.same s8
   generalize PG.number bs.1.length rows mode=k at *
   walk_at "rd"
   refine ⟨D,S,sc,pp,rfl,st8.bG,by lia,fun H9 u9 dk9=>?_⟩
   walk_at "rd"
   refine (hU7 _ _).mpr ?_
   clear hU7
   have st9:=st8.draw u9 dk9
   have kp9:=kp8.up u9 (by rw [dk9.bG]; simp)
   obtain ⟨w0',w1'⟩:=PG.gZ sc pp
   generalize Tf:PG.next sc pp % 12=way at *
   have Th:0≤way∧way < 12:=by lia
   clear st st8 s8 u9
   have Gn:∀ (frs:List Fra),(∀ x∈frs,H x.2.1=none∧H x.2.2=none)→∀ z o,z≠D→H z=some o→z ∉ opn D P' R frs:=by
     intro frs hf z o nz e hz
     simp only [opn,List.mem_cons,List.mem_flatMap] at hz
     rcases hz with hz | rfl | rfl | ⟨x,hx,hz⟩
     · exact nz hz
     · rw [e3] at e; cases e
     · rw [e4] at e; cases e
     · simp only [List.not_mem_nil,or_false] at hz
       rcases hz with rfl | rfl
       · rw [(hf x hx).1] at e; cases e
       · rw [(hf x hx).2] at e; cases e
   have CB:∀ (H10:Hp) (w:PG.Wd) (frs:List Fra) (pq:Nat) (M:Hp→Prop),PSt K H10 D S sc pq B bs.1 P' R frs rows []→Kept D H H10→(∀ H11,PSt K H11 D S sc pq B bs.1 P' R frs (rows ++ [(k,w)]) []→Kept D H H11→M H11)→
       tyV K "list" (V.ref R) H10∧∀ q,H10 q=none→B7 (V.ref R) [V.ref q] (upd H10 q (.lst [.int k,.str (wdS w)])) fun _ H1=>M H1:=by
     intro H10 w frs pq M s10 k10 hM
     obtain ⟨rv,hr,_,lr⟩:=s10.rows
     refine ⟨.inl ⟨rfl,_,.of hr⟩,fun q hq=>?_⟩
     have s11:=s10.same (aw.new hq (.lst [.int k,.str (wdS w)]))
     have k11:=k10.same (aw.new hq (.lst [.int k,.str (wdS w)]))
     have Q9:=aw.new hq (.lst [.int k,.str (wdS w)]) _ _ hr
     refine ⟨R,rv,_,rfl,rfl,Q9,by lia,hM _ (s11.row Q9 (k:=k) (w:=w) (q:=q) ae fun z=>z.elim (s10.fresh hq) (by simp)) (k11.put e4 _)⟩
   have lp:((f',a,b) :: fr:List Fra).reverse.map (fun x=>V.ref x.2.1)=(fr.reverse.map fun x=>V.ref x.2.1) ++ [.ref a]:=by rw [List.reverse_cons,List.map_append]; rfl
   have Pn:∀ (fs:List Fra) z,O D P' R fs [] z→z∈opn D P' R fs:=fun fs z hz=>hz.elim id (by simp)
   refine Cf fun V1 hV1=>?_
   have c1:¬ (way < 2∧(f' :: r).length > 1)→V1 [some (V.ref D),some (V.int many),some (V.ref B),some (V.ref P'),some (V.ref R),some (V.int mode),some (V.int i),some (V.int k),some (V.int way),z9,z10,z11,z12,z13,z14] H9:=by
     intro h1
     rw [if_neg h1] at done ok' ln' pb'
     refine hV1 _ _ (Cf fun V2 hV2=>?_)
     have c2:¬ (way=2∧f'.kind=1)→V2 [some (V.ref D),some (V.int many),some (V.ref B),some (V.ref P'),some (V.ref R),some (V.int mode),some (V.int i),some (V.int k),some (V.int way),z9,z10,z11,z12,z13,z14] H9:=by
       intro h2
       rw [if_neg h2] at done ok' ln' pb'
       refine hV2 _ _ (Cf fun V3 hV3=>?_)
       have c3:¬ (way < 6∧(f' :: r).length < 4)→V3 [some (V.ref D),some (V.int many),some (V.ref B),some (V.ref P'),some (V.ref R),some (V.int mode),some (V.int i),some (V.int k),some (V.int way),z9,z10,z11,z12,z13,z14] H9:=by
         intro h3
         rw [if_neg h3] at done ok' ln' pb'
         refine hV3 _ _ ?_
         walk_at "rd"
         have pl9:=st9.a7
         rw [lp] at pl9
         obtain ⟨hd,fi,xs,fa⟩:=st9.frames _ (List.mem_cons_self ..)
         refine ⟨1,rfl,bK (v:=.ref a) (.of pl9) jE (bK (v:=.ref b) (.of fa.fr) (av (j:=1) rfl) ⟨.inl ⟨rfl,_,.of fa.bd⟩,?_⟩)⟩
         refine ⟨D,S,B,sc,pp + 1,k,bs.1,rfl,st9.bG,by lia,st9.aG,fun v H10 u10 Gj Pk=>?_⟩
         have mx:=st9.draw u10 Gj
         have k10:=kp9.up u10 (by rw [Gj.bG]; simp)
         obtain ⟨hd2,fi2,xs2,fa2⟩:=mx.frames _ (List.mem_cons_self ..)
         have fv:Fix K (O D P' R ((f',a,b) :: fr) []) H10 (dpS (PG.bT sc bs.1 k (pp + 1)).1) v:=Pk _ fun z hz=>st9.dom z (Pn _ z hz)
         have l2:xs2.length≤1000:=by have:=fa2.len; have:=ln.1 f' (by simp); simp only at *; lia
         refine ⟨b,xs2,v,rfl,rfl,fa2.bd,by lia,?_⟩
         have AD:=mx.stm fa2.bd fv
         have k11:=k10.put (fr0 (f',a,b) (by simp)).2 (.lst (xs2 ++ [v]))
         have So:Rep K (upd H10 b (.lst (xs2 ++ [v]))) (dpS (PG.bT sc bs.1 k (pp + 1)).1) v:=(fv.up (bf.refl.put (.inl (by simp [opn])) _)).rep
         have Sq:(upd H10 b (.lst (xs2 ++ [v]))) b=some (.lst (xs2 ++ [v])):=ae
         have Ra:=AD.a7
         obtain ⟨hd3,fi3,xs3,fa3⟩:=AD.frames _ (List.mem_cons_self ..)
         have Sr:=fa3.fr
         generalize upd H10 b (.lst (xs2 ++ [v]))=H11 at *
         have pe:((({ f' with body:=f'.body ++ [(PG.bT sc bs.1 k (pp + 1)).1] }:PG.Frame),a,b) :: fr:List Fra).reverse.map (fun x=>V.ref x.2.1)=(fr.reverse.map fun x=>V.ref x.2.1) ++ [.ref a]:=by rw [List.reverse_cons,List.map_append]; rfl
         rw [pe] at Ra
         obtain ⟨ta,ys,rfl,hta⟩:=Lb _ So
         have ar:=CB H11 (PG.bT sc bs.1 k (pp + 1)).1.wd _ _ (fun H12=>Pv (i + 1) [some (V.ref D),some (V.int many),some (V.ref B),some (V.ref P'),some (V.ref R),some (V.int mode),some (V.int i),some (V.int k),some (V.int way),z9,z10,z11,z12,z13,z14] H12) AD k11 fun H12 EK k12=>done _ _ ⟨_,_,_,_,_,_,_,_,_,_,rfl,by simp only [List.map_cons,ef],EK,k12,ok',ln',by lia,fun x hx=>by
           rcases List.mem_cons.mp hx with rfl | hx
           · exact fr0 (f',a,b) (by simp)
           · exact fr0 x (by simp [hx])⟩
         exact ⟨ar.1,1,rfl,bK (v:=.ref a) (.of Ra) jE (bK (v:=.ref b) (.of Sr) (av (j:=1) rfl) ⟨1,rfl,bK (v:=.ref ta) (.of Sq) jE (aI hta (av (j:=0) rfl) ar.2)⟩)⟩
       walk_at "rd"
       refine cb (fun w6=>⟨P',_,rfl,.inl (.of st9.a7),cb (fun l4=>?_) (fun l4=>c3 fun z=>l4 ?_)⟩) (fun w6=>(if_neg Bool.false_ne_true).mpr (c3 fun z=>w6 z.1))
       · rw [lp,List.length_append,List.length_map,List.length_reverse,lfr] at l4
         have cond:way < 6∧(f' :: r).length < 4:=⟨w6,by simp only [List.length_cons,List.length_nil] at l4 ⊢; lia⟩
         rw [if_pos cond] at done ok' ln' pb'
         intro p1 hp1
         have s10:=aw.new hp1 (.lst [V.str (Str.ofString "if"),V.str (Str.ofString "if"),V.str (Str.ofString "while")])
         have mx:=st9.same s10
         have k10:=kp9.same s10
         have wk:∀ z:Int,0≤z→z < 3→atI [V.str (Str.ofString "if"),V.str (Str.ofString "if"),V.str (Str.ofString "while")] z=some (V.str (kdS (PG.pick 1 [1,1,3] z)))∧(PG.pick 1 [1,1,3] z=1∨PG.pick 1 [1,1,3] z=3):=fun z h0 h3=>by
           have z3:z=0∨z=1∨z=2:=by lia
           rcases z3 with rfl | rfl | rfl
           · exact ⟨av (j:=0) rfl,.inl rfl⟩
           · exact ⟨av (j:=1) rfl,.inl rfl⟩
           · exact ⟨av (j:=2) rfl,.inr rfl⟩
         obtain ⟨wk1,wk2⟩:=wk (way % 3) (by lia) (by lia)
         refine DR wk1 ?_
         generalize upd H9 p1 (.lst [V.str (Str.ofString "if"),V.str (Str.ofString "if"),V.str (Str.ofString "while")])=H10 at *
         generalize PG.pick 1 [1,1,3] (way % 3)=kd at *
         have wd:(if kd=3 then ("while":Str) else "if")=kdS kd∧wdS (if kd=3 then PG.Wd.whl else PG.Wd.ifs)=kdS kd:=by
           rcases wk2 with rfl | rfl <;> exact ⟨rfl,rfl⟩
         refine ⟨D,S,sc,pp + 1,rfl,mx.bG,by lia,fun H11 u11 Rb=>?_⟩
         have AD:=mx.draw u11 Rb
         have k11:=k10.up u11 (by rw [Rb.bG]; simp)
         obtain ⟨m0,m1⟩:=PG.gZ sc (pp + 1)
         walk_at "rd"
         have sg:∀ z:Int,0≤z→z < 2→∃ c,atI (Str.ofString "<=").cps.toList z=some c∧V.str ⟨#[c]⟩=V.str (L2.S (PG.pick [] PG.sgs z)):=fun z h0 h3=>by
           have z3:z=0∨z=1:=by lia
           rcases z3 with rfl | rfl
           · exact ⟨60,av (j:=0) (by decide +kernel),rfl⟩
           · exact ⟨61,av (j:=1) (by decide +kernel),rfl⟩
         obtain ⟨c,hc,ec⟩:=sg (PG.next sc (pp + 1) % 2) (by lia) (by lia)
         refine ⟨_,_,c,rfl,rfl,by decide,hc,?_⟩
         rw [ec]
         obtain ⟨g1,g2⟩:=PG.iW sc bs.1 1 (pp + 2)
         refine ⟨D,S,B,sc,pp + 2,1,bs.1,rfl,by lia,AD.bG,by lia,AD.aG,fun v3 H12 u12 Rc Ss=>?_⟩
         have EK:=AD.draw u12 Rc
         have k12:=k11.up u12 (by rw [Rc.bG]; simp)
         have f3:Fix K (O D P' R ((f',a,b) :: fr) []) H12 (dpT (PG.cA sc bs.1 1 (pp + 2)).1) v3:=Ss _ fun z hz=>AD.dom z (Pn _ z hz)
         obtain ⟨g3,g4⟩:=PG.iW sc bs.1 1 (PG.cA sc bs.1 1 (pp + 2)).2
         refine ⟨D,S,B,sc,_,1,bs.1,rfl,by lia,EK.bG,by lia,EK.aG,fun v4 H13 u13 Rf Su t0 ht0=>?_⟩
         have Sv:=EK.draw u13 Rf
         have k13:=k12.up u13 (by rw [Rf.bG]; simp)
         have f4:Fix K (O D P' R ((f',a,b) :: fr) []) H13 (dpT (PG.cA sc bs.1 1 (PG.cA sc bs.1 1 (pp + 2)).2).1) v4:=Su _ fun z hz=>EK.dom z (Pn _ z hz)
         have f3:=f3.up (bf.one u13 (.inl (by simp [opn])))
         generalize PG.cA sc bs.1 1 (PG.cA sc bs.1 1 (pp + 2)).2=ge2 at *
         generalize PG.cA sc bs.1 1 (pp + 2)=ge1 at *
         generalize PG.pick [] PG.sgs (PG.next sc (pp + 1) % 2)=sgn at *
         have s14:=aw.new ht0 (.tup [V.str (L2.S sgn),v3,v4])
         have y14:(upd H13 t0 (.tup [V.str (L2.S sgn),v3,v4])) t0=some (.tup [V.str (L2.S sgn),v3,v4]):=ae
         have Nn:=Sv.same s14
         have k14:=k13.same s14
         have f3:=f3.up (.of s14)
         have f4:=f4.up (.of s14)
         generalize upd H13 t0 (.tup [V.str (L2.S sgn),v3,v4])=H14 at *
         refine ⟨.inl ⟨rfl,_,.of Nn.a7⟩,fun b2 hb2=>?_⟩
         have s15:=aw.new hb2 (.lst [])
         have LS:=Nn.more hb2 (.lst [])
         have f3:=f3.apart (o:=.lst []) hb2
         have f4:=f4.apart (o:=.lst []) hb2
         have nb2:b2 ∉ opn D P' R ((f',a,b) :: fr):=Nn.fresh hb2
         have Po:S≠b2:=ao Nn.bG.fI hb2
         have y15:(upd H14 b2 (.lst [])) b2=some (.lst []):=ae
         have k15:=k14.same s15
         have Pp:H b2=none:=by
           cases z:H b2 with
           | none=>rfl
           | some o=>exact absurd hb2 (k14.2 b2 (by rw [z]; simp))
         have y14:=s15 _ _ y14
         generalize upd H14 b2 (.lst [])=H15 at *
         intro t1 ht1
         have s16:=aw.new ht1 (.tup [V.str (kdS kd),V.int k])
         have y16:(upd H15 t1 (.tup [V.str (kdS kd),V.int k])) t1=some (.tup [V.str (kdS kd),V.int k]):=ae
         have Rg:=LS.same s16
         have k16:=k15.same s16
         have f3:=f3.up (.of s16)
         have f4:=f4.up (.of s16)
         have y15:=s16 _ _ y15
         have y14:=s16 _ _ y14
         generalize upd H15 t1 (.tup [V.str (kdS kd),V.int k])=H16 at *
         refine Cy y16 y14 (by simp) (by simp) fun t2 ht2=>?_
         have s17:=aw.new ht2 (.tup ([V.str (kdS kd),V.int k] ++ [V.str (L2.S sgn),v3,v4]))
         have y17:(upd H16 t2 (.tup ([V.str (kdS kd),V.int k] ++ [V.str (L2.S sgn),v3,v4]))) t2=some (.tup ([V.str (kdS kd),V.int k] ++ [V.str (L2.S sgn),v3,v4])):=ae
         have Pq:=Rg.same s17
         have k17:=k16.same s17
         have f3:=f3.up (.of s17)
         have f4:=f4.up (.of s17)
         have nt2:t2 ∉ opn D P' R ((f',a,b) :: fr):=Rg.fresh ht2
         have Sw:t2≠b2:=fun z=>by rw [z,y15] at ht2; cases ht2
         have y15:=s17 _ _ y15
         generalize upd H16 t2 (.tup ([V.str (kdS kd),V.int k] ++ [V.str (L2.S sgn),v3,v4]))=H17 at *
         intro a2 ha2
         have s18:=aw.new ha2 (.lst [V.str (kdS kd),V.ref b2,V.ref t2,V.non])
         have LU:=Pq.more ha2 (.lst [V.str (kdS kd),V.ref b2,V.ref t2,V.non])
         have f3:=f3.apart (o:=.lst [V.str (kdS kd),V.ref b2,V.ref t2,V.non]) ha2
         have f4:=f4.apart (o:=.lst [V.str (kdS kd),V.ref b2,V.ref t2,V.non]) ha2
         have na2:a2 ∉ opn D P' R ((f',a,b) :: fr):=Pq.fresh ha2
         have Pr:S≠a2:=ao Pq.bG.fI ha2
         have Pt:a2≠b2:=fun z=>by rw [z,y15] at ha2; cases ha2
         have Sx:t2≠a2:=ao y17 ha2
         have y18:(upd H17 a2 (.lst [V.str (kdS kd),V.ref b2,V.ref t2,V.non])) a2=some (.lst [V.str (kdS kd),V.ref b2,V.ref t2,V.non]):=ae
         have k18:=k17.same s18
         have Pu:H a2=none:=by
           cases z:H a2 with
           | none=>rfl
           | some o=>exact absurd ha2 (k17.2 a2 (by rw [z]; simp))
         have y15:=s18 _ _ y15
         have y17:=s18 _ _ y17
         generalize upd H17 a2 (.lst [V.str (kdS kd),V.ref b2,V.ref t2,V.non])=H18 at *
         have j:∀ z,O D P' R ((f',a,b) :: fr) [a2,b2] z→((O D P' R ((f',a,b) :: fr) [] z∨z=b2)∨z=a2):=fun z hz=>by
           rcases hz with h | h
           · exact .inl (.inl (.inl h))
           · simp only [List.mem_cons,List.not_mem_nil,or_false] at h
             rcases h with h | h
             · exact .inr h
             · exact .inl (.inr h)
         have nf:e7 K (O D P' R ((f',a,b) :: fr) [a2,b2]) H18 ({ kind:=kd,body:=[],k:=k,sg:=sgn,l:=ge1.1,r:=ge2.1 }:PG.Frame) a2 b2 (.ref t2) .non []:=by
           refine ⟨y18,y15,.nil,fun _=>⟨t2,_,rfl,y17,fun z=>?_,?_⟩,fun z=>?_,rfl⟩
           · rcases z with z | z
             · exact nt2 z
             · simp only [List.mem_cons,List.not_mem_nil,or_false] at z
               exact z.elim Sx Sw
           · show eX K _ _ [.str (if kd=3 then "while" else "if"),.int k,.str (L2.S sgn),dpT ge1.1,dpT ge2.1] _
             rw [wd.1]
             exact .cons .str (.cons .int (.cons .str (.cons (f3.sub j) (.cons (f4.sub j) .nil))))
           · have z:kd=2:=z
             lia
         have Px:=(LU.push nf na2 nb2 Pt Pr Po (by simp) (by simp)).less (E':=[]) (fun z hz=>absurd hz (by simp))
         have k19:=k18.put e3 (.lst (((f',a,b) :: fr:List Fra).reverse.map (fun x=>V.ref x.2.1) ++ [.ref a2]))
         refine ⟨P',_,_,rfl,rfl,LU.a7,by rw [List.length_map,List.length_reverse]; have:=ok.most; simp only [List.length_cons] at this ⊢; lia,?_⟩
         have ar:=CB _ (if kd=3 then PG.Wd.whl else PG.Wd.ifs) _ _ (fun H20=>Pv (i + 1) [some (V.ref D),some (V.int many),some (V.ref B),some (V.ref P'),some (V.ref R),some (V.int mode),some (V.int i),some (V.int k),some (V.int way),z9,z10,z11,z12,some (V.str (kdS kd)),some (V.ref t0)] H20) Px k19 fun H20 Py k20=>done _ _ ⟨_,_,_,_,_,_,_,_,_,_,rfl,by simp only [List.map_cons,ef],Py,k20,ok',ln',by lia,fun x hx=>by
           rcases List.mem_cons.mp hx with rfl | hx
           · exact ⟨Pu,Pp⟩
           · exact fr0 x hx⟩
         rw [wd.2] at ar
         exact ar
       · rw [lp,List.length_append,List.length_map,List.length_reverse,lfr]
         have:=z.2
         simp only [List.length_cons,List.length_nil] at this ⊢
         lia
     walk_at "rd"
     have pl9:=st9.a7
     rw [lp] at pl9
     obtain ⟨hd0,fi0,xs0,fa0⟩:=st9.frames _ (List.mem_cons_self ..)
     have kk:(V.str (kdS f'.kind)=V.str (Str.ofString "if"))↔f'.kind=1:=by
       have:f'.kind=0∨f'.kind=1∨f'.kind=2∨f'.kind=3:=by
         have z:=ok.a7
         cases r with
         | nil=>exact .inl z
         | cons g r2=>exact .inr z.1
       rcases this with h | h | h | h <;> rw [h] <;> decide +kernel
     refine cb (fun w2=>⟨1,rfl,bK (v:=.ref a) (.of pl9) jE (bK (v:=.str (kdS f'.kind)) (.of fa0.fr) (av (j:=0) rfl) ⟨rfl,cb (fun kf=>?_) (fun kf=>c2 fun z=>kf (kk.mpr z.2))⟩)⟩) (fun w2=>(if_neg Bool.false_ne_true).mpr (c2 fun z=>w2 z.1))
     have kd1:=kk.mp kf
     rw [if_pos ⟨w2,kd1⟩] at done ok' ln' pb'
     obtain ⟨mx,⟨hd,fi,xs,fa⟩,na,nb,nab⟩:=st9.pop
     have k10:=kp9.put e3 (.lst (fr.reverse.map fun x=>V.ref x.2.1))
     refine ⟨.inl ⟨rfl,_,.of st9.a7⟩,P',_,.ref a,rfl,rfl,st9.a7,by rw [lp]; simp,?_⟩
     rw [lp,List.dropLast_concat]
     generalize upd H9 P' (.lst (fr.reverse.map fun x=>V.ref x.2.1))=H10 at *
     obtain ⟨cc,ys,rfl,hcc,ncc,fys⟩:=fa.IX (by lia)
     have Gk:∀ z,O D P' R fr [] z→O D P' R fr [a,b] z:=fun z hz=>hz.elim .inl fun w=>absurd w (by simp)
     have mx:=mx.less (E':=[]) (fun z hz=>absurd hz (by simp))
     have fys:=fys.sub Gk
     have ncc:¬ O D P' R fr [] cc:=fun z=>ncc (Gk cc z)
     have okb:Fix K (O D P' R fr []) H10 (.lst (f'.body.map dpS)) (.ref b):=Fix.lst fa.bd (fun z=>z.elim nb (by simp)) (fa.ok.sub Gk)
     refine ⟨a,_,rfl,.of fa.fr,rfl,_,_,rfl,_,_,rfl,_,_,rfl,_,_,rfl,rfl,.inl ⟨rfl,_,.of mx.a7⟩,fun b2 hb2=>?_⟩
     have s15:=aw.new hb2 (.lst [])
     have LS:=mx.more hb2 (.lst [])
     have f3:=fys.apart (o:=.lst []) hb2
     have f4:=okb.apart (o:=.lst []) hb2
     have nb2:b2 ∉ opn D P' R fr:=mx.fresh hb2
     have Po:S≠b2:=ao mx.bG.fI hb2
     have y15:(upd H10 b2 (.lst [])) b2=some (.lst []):=ae
     have k15:=k10.same s15
     have Pp:H b2=none:=by
       cases z:H b2 with
       | none=>rfl
       | some o=>exact absurd hb2 (k10.2 b2 (by rw [z]; simp))
     have ncb:cc≠b2:=ao hcc hb2
     have hcc:=s15 _ _ hcc
     generalize upd H10 b2 (.lst [])=H15 at *
     intro a2 ha2
     have s18:=aw.new ha2 (.lst [V.str (Str.ofString "else"),V.ref b2,V.ref cc,V.ref b])
     have LU:=LS.more ha2 (.lst [V.str (Str.ofString "else"),V.ref b2,V.ref cc,V.ref b])
     have f3:=f3.apart (o:=.lst [V.str (Str.ofString "else"),V.ref b2,V.ref cc,V.ref b]) ha2
     have f4:=f4.apart (o:=.lst [V.str (Str.ofString "else"),V.ref b2,V.ref cc,V.ref b]) ha2
     have na2:a2 ∉ opn D P' R fr:=LS.fresh ha2
     have Pr:S≠a2:=ao LS.bG.fI ha2
     have Pt:a2≠b2:=fun z=>by rw [z,y15] at ha2; cases ha2
     have nca:cc≠a2:=ao hcc ha2
     have y18:(upd H15 a2 (.lst [V.str (Str.ofString "else"),V.ref b2,V.ref cc,V.ref b])) a2=some (.lst [V.str (Str.ofString "else"),V.ref b2,V.ref cc,V.ref b]):=ae
     have k18:=k15.same s18
     have Pu:H a2=none:=by
       cases z:H a2 with
       | none=>rfl
       | some o=>exact absurd ha2 (k15.2 a2 (by rw [z]; simp))
     have y15:=s18 _ _ y15
     have hcc:=s18 _ _ hcc
     generalize upd H15 a2 (.lst [V.str (Str.ofString "else"),V.ref b2,V.ref cc,V.ref b])=H18 at *
     have j:∀ z,O D P' R fr [a2,b2] z→((O D P' R fr [] z∨z=b2)∨z=a2):=fun z hz=>by
       rcases hz with h | h
       · exact .inl (.inl (.inl h))
       · simp only [List.mem_cons,List.not_mem_nil,or_false] at h
         rcases h with h | h
         · exact .inr h
         · exact .inl (.inr h)
     have nf:e7 K (O D P' R fr [a2,b2]) H18 ({ f' with kind:=2,body:=[],first:=f'.body }:PG.Frame) a2 b2 (.ref cc) (.ref b) []:=by
       refine ⟨y18,y15,.nil,fun _=>⟨cc,ys,rfl,hcc,fun z=>?_,?_⟩,fun _=>f4.sub j,rfl⟩
       · rcases j cc z with (z | z) | z
         · exact ncc z
         · exact ncb z
         · exact nca z
       · have f5:=f3.sub j
         rw [if_neg (by lia)] at f5
         exact f5
     have Px:=(LU.push nf na2 nb2 Pt Pr Po (by simp) (by simp)).less (E':=[]) (fun z hz=>absurd hz (by simp))
     have k19:=k18.put e3 (.lst ((fr.reverse.map fun x=>V.ref x.2.1) ++ [.ref a2]))
     refine ⟨P',_,_,rfl,rfl,LU.a7,by rw [List.length_map,List.length_reverse]; have:=ok.most; simp only [List.length_cons] at this ⊢; lia,?_⟩
     exact CB _ .els _ _ (fun H20=>Pv (i + 1) [some (V.ref D),some (V.int many),some (V.ref B),some (V.ref P'),some (V.ref R),some (V.int mode),some (V.int i),some (V.int k),some (V.int way),some (V.str (kdS f'.kind)),some (V.ref b),some (V.ref cc),some fi,z13,z14] H20) Px k19 fun H20 Py k20=>done _ _ ⟨_,_,_,_,_,_,_,_,_,_,rfl,by simp only [List.map_cons,ef],Py,k20,ok',ln',by lia,fun x hx=>by
       rcases List.mem_cons.mp hx with rfl | hx
       · exact ⟨Pu,Pp⟩
       · exact fr0 x (by simp [hx])⟩
   walk_at "rd"
   refine cb (fun w2=>⟨P',_,rfl,.inl (.of st9.a7),cb (fun l2=>?_) (fun l2=>c1 fun z=>l2 ?_)⟩) (fun w2=>(if_neg Bool.false_ne_true).mpr (c1 fun z=>w2 z.1))
   · rw [lp,List.length_append,List.length_map,List.length_reverse] at l2
     cases fr with
     | nil=>simp at l2
     | cons x1 fr2=>
       obtain ⟨g,a',b'⟩:=x1
       cases r with
       | nil=>cases ef
       | cons g' r2=>
       simp only [List.map_cons,List.cons.injEq] at ef
       obtain ⟨rfl,ef⟩:=ef
       have cond:way < 2∧(f' :: g :: r2).length > 1:=⟨w2,by simp⟩
       rw [if_pos cond] at done ok' ln' pb'
       have m4:=ok.most
       simp only [List.length_cons] at m4 lfr
       refine ⟨D,S,sc,pp + 1,B,bs.1,P',R,f',g,a,b,a',b',fr2,rows,rfl,st9,ok.a7.1,by have:=ln.1 g (by simp); lia,by lia,fun H10 d10 LO mx=>?_⟩
       have k10:Kept D H H10:=⟨fun z o nz e=>LO z o (Gn _ fr0 z o nz e) (kp9.1 z o nz e),fun z hz=>d10 z (kp9.2 z hz)⟩
       refine CB H10 .fin _ _ _ mx k10 fun H11 AD k11=>done _ _ ⟨_,_,_,_,_,_,_,_,_,_,rfl,?_,AD,k11,ok',ln',by lia,fun x hx=>?_⟩
       · simp only [List.map_cons,ef]
         rfl
       · rcases List.mem_cons.mp hx with rfl | hx
         · exact fr0 (g,a',b') (by simp)
         · exact fr0 x (by simp [hx])
   · rw [lp,List.length_append,List.length_map,List.length_reverse]
     have:=z.2
     simp only [List.length_cons,List.length_nil] at this ⊢
     lia
 · intro σ H7 hv
   obtain ⟨z6,z7,z8,z9,z10,z11,z12,z13,z14,frs,rfl,ef,st,kp,ok,ln,pb,fr0⟩:=(hPv _ _ _).mp hv
   clear hv
   generalize PG.turns sc bs.1 mode many w0=wk at *
   show U5 _ H7
   refine (hU5 _ _).mpr (ax fun U6 hU6=>?_)
   walk_at "rd"
   refine ⟨fun m σ H8=>∃ (frs:List Fra) (wk':PG.Walk),σ=[some (V.ref D),some (V.int many),some (V.ref B),some (V.ref P'),some (V.ref R),some (V.int mode),z6,z7,z8,z9,z10,z11,z12,z13,z14]∧frs.map (·.1)=wk'.a7∧PSt K H8 D S sc wk'.p B bs.1 P' R frs wk'.rows []∧Kept D H H8∧PG.dH wk'∧PG.oJ (many + 4 - m) wk'∧
       PG.ends bs.1.length mode 4 wk=PG.ends bs.1.length mode m wk'∧wk'.a7.length≤m + 1∧m≤4∧wk'.p≤90000∧∀ x∈frs,H x.2.1=none∧H x.2.2=none,⟨4,frs,wk,rfl,ef,st,kp,ok,by rw [show many + 4 - 4=many by lia]; exact ln,rfl,by have:=ok.most; lia,Nat.le_refl _,by lia,fr0⟩,?_⟩
   rintro m σ H8 ⟨frs,wk',rfl,ef,st,kp,ok,ln,ee,pl,m4,pbw,fr0⟩
   walk_at "rd"
   refine ⟨P',_,rfl,.inl (.of st.a7),?_⟩
   rw [List.length_map,List.length_reverse]
   have lf:frs.length=wk'.a7.length:=by rw [← ef,List.length_map]
   refine cb (fun l1=>?_) (fun l1=>?_)
   · obtain ⟨n,rfl⟩:∃ n,m=n + 1:=⟨m - 1,by lia⟩
     refine ⟨fun σ H9=>∃ (frs:List Fra),σ=[some (V.ref D),some (V.int many),some (V.ref B),some (V.ref P'),some (V.ref R),some (V.int mode),z6,z7,z8,z9,z10,z11,z12,z13,z14]∧frs.map (·.1)=PG.close wk'.a7∧PSt K H9 D S sc wk'.p B bs.1 P' R frs (wk'.rows ++ [(PG.number bs.1.length wk'.rows mode,.fin)]) []∧Kept D H H9∧∀ x∈frs,H x.2.1=none∧H x.2.2=none,?_,?_⟩
     · rintro σ H9 ⟨Sy,rfl,ef9,st9,k9,fr9⟩
       obtain ⟨_,cl⟩:=PG.oH ok.a7
       refine ⟨n,by lia,Sy,⟨wk'.p,PG.close wk'.a7,wk'.rows ++ [(PG.number bs.1.length wk'.rows mode,.fin)]⟩,rfl,ef9,st9,k9,PG.yH ok _,?_,?_,?_,by lia,pbw,fr9⟩
       · have:=PG.Bl ln (PG.number bs.1.length wk'.rows mode)
         rw [show many + 4 - n=many + 4 - (n + 1) + 1 by lia]
         exact this
       · rw [ee]
         conv=>lhs; unfold PG.ends
         rw [if_pos (by lia)]
       · show (PG.close wk'.a7).length≤n + 1
         lia
     · obtain ⟨pp,a7,rows⟩:=wk'
       simp only at *
       have rl:rows.length≤200:=by have:=ln.2; simp only at this; lia
       match frs,a7,ef,lf with
       | (f',a,b) :: (g,a',b') :: fr2,a7,ef,lf=>
         simp only [List.map_cons] at ef
         subst ef
         have m4':=ok.most
         simp only [List.length_cons,List.length_map] at m4'
         refine ⟨D,S,sc,pp,B,bs.1,P',R,f',g,a,b,a',b',fr2,rows,rfl,st,ok.a7.1,by have:=ln.1 g (by simp); lia,by lia,fun H10 d10 LO mx=>?_⟩
         have Gn:∀ (frs:List Fra),(∀ x∈frs,H x.2.1=none∧H x.2.2=none)→∀ z o,z≠D→H z=some o→z ∉ opn D P' R frs:=by
           intro frs hf z o nz e hz
           simp only [opn,List.mem_cons,List.mem_flatMap] at hz
           rcases hz with hz | rfl | rfl | ⟨x,hx,hz⟩
           · exact nz hz
           · rw [e3] at e; cases e
           · rw [e4] at e; cases e
           · simp only [List.not_mem_nil,or_false] at hz
             rcases hz with rfl | rfl
             · rw [(hf x hx).1] at e; cases e
             · rw [(hf x hx).2] at e; cases e
         have k10:Kept D H H10:=⟨fun z o nz e=>LO z o (Gn _ fr0 z o nz e) (kp.1 z o nz e),fun z hz=>d10 z (kp.2 z hz)⟩
         obtain ⟨rv,hr2,fR,lr⟩:=mx.rows
         refine ⟨.inl ⟨rfl,_,.of hr2⟩,B,R,bs.1,rows,mode,rfl,mx.box.rep,Rep.bR.mpr ⟨R,rv,rfl,.of hr2,fR.K7⟩,bl,by lia,fun H11 s11 q2 hq2=>?_⟩
         have s12:=s11.trans (aw.new hq2 (.lst [.int (PG.number bs.1.length rows mode),.str (wdS .fin)]))
         have EK:=mx.same s12
         have k12:=k10.same s12
         have Rh:=s12 _ _ hr2
         refine ⟨R,rv,_,rfl,rfl,Rh,by lia,?_⟩
         have nq2:¬ O D P' R (({ g with body:=g.body ++ [f'.told] },a',b') :: fr2) [] q2:=fun z=>z.elim ((mx.same s11).fresh hq2) (by simp)
         refine ⟨_,trivial,?_,EK.row Rh (k:=PG.number bs.1.length rows mode) (w:=.fin) (q:=q2) ae nq2,k12.put e4 _,fun x hx=>?_⟩
         · simp only [List.map_cons]
           rfl
         · rcases List.mem_cons.mp hx with rfl | hx
           · exact fr0 (g,a',b') (by simp)
           · exact fr0 x (by simp [hx])
   · have en:PG.ends bs.1.length mode m wk'=wk':=by
       cases m with
       | zero=>rfl
       | succ m=>unfold PG.ends; rw [if_neg (by lia)]
     rw [en] at ee
     rw [ee] at q
     refine (hU6 _ _).mpr ?_
     walk_at "rd"
     obtain ⟨pp,a7,rows⟩:=wk'
     simp only at *
     match frs,a7,ef,lf,ok,q with
     | [],a7,ef,lf,ok,q=>cases ef; exact ok.a7.elim
     | [(f',a,b)],a7,ef,lf,ok,q=>
       cases ef
       obtain ⟨hd,fi,xs,fa⟩:=st.frames _ (List.mem_cons_self ..)
       obtain ⟨rv,hr2,fR,lr⟩:=st.rows
       refine bK (v:=.ref a) (.of st.a7) (av (j:=0) rfl) (bK (v:=.ref b) (.of fa.fr) (av (j:=1) rfl) fun t1 ht1=>?_)
       have s9:=aw.new ht1 (.tup [V.ref B,V.ref b])
       have y9:(upd H8 t1 (.tup [V.ref B,V.ref b])) t1=some (.tup [V.ref B,V.ref b]):=ae
       have st9:=st.same s9
       have k9:=kp.same s9
       intro l2 hl2
       have s10:=aw.new hl2 (.lst [V.ref t1,V.ref R])
       have k10:=k9.same s10
       have nD:∀ z,z∈opn D P' R [(f',a,b)]→z≠D→¬ (fun z=>z=D) z:=fun z _ n=>n
       have ndl:=st.nd
       simp only [opn,List.flatMap_cons,List.flatMap_nil,List.append_nil,List.nodup_cons,List.mem_cons,List.not_mem_nil,or_false,not_or] at ndl
       have bnD:b≠D:=fun z=>ndl.1.2.2.2 z.symm
       have RnD:R≠D:=fun z=>ndl.1.2.1 z.symm
       have dD:=st9.bG.bG
       have t1D:t1≠D:=fun z=>by rw [z] at ht1; rw [st.bG.bG] at ht1; cases ht1
       have l2D:l2≠D:=fun z=>by rw [z] at hl2; rw [dD] at hl2; cases hl2
       have Pz:∀ z,z=D→O D P' R [(f',a,b)] [] z:=fun z e=>.inl (by rw [e]; simp [opn])
       have fB:=(st9.box.sub Pz).up (bf.of s10:bf (fun z=>z=D) _ _)
       have fBd:=((fa.ok.sub Pz).up (bf.of s9:bf (fun z=>z=D) _ _)).up (bf.of s10:bf (fun z=>z=D) _ _)
       have fRw:=((fR.sub Pz).up (bf.of s9:bf (fun z=>z=D) _ _)).up (bf.of s10:bf (fun z=>z=D) _ _)
       have BnD:B≠D:=fun z=>hDn (by rw [← z]; exact hB)
       exact q l2 t1 B b R _ k10.1 ⟨_,pbw,st9.bG.same s10⟩ ae (s10 _ _ y9) l2D t1D BnD bnD RnD fB (Fix.lst (s10 _ _ (s9 _ _ fa.bd)) bnD fBd) (Fix.lst (s10 _ _ (s9 _ _ hr2)) RnD fRw)
     | x :: y :: r,a7,ef,lf,ok,q=>exact absurd (by simp only [List.length_cons]; lia) l1
theorem wD:∀ s:PG.Stm,(V.str (wdS s.wd)=V.str (Str.ofString "while"))↔s.wd=.whl:=by
 intro s
 cases s <;> simp only [PG.Stm.wd] <;> decide +kernel
theorem CD:∀ s:PG.Stm,(V.str (wdS s.wd)=V.str (Str.ofString "if"))↔s.wd=.ifs:=by
 intro s
 cases s <;> simp only [PG.Stm.wd] <;> decide +kernel
theorem HN:∀ s:PG.Stm,(V.str (wdS s.wd)=V.str (Str.ofString "stop"))↔s.wd=.stop:=by
 intro s
 cases s <;> simp only [PG.Stm.wd] <;> decide +kernel
theorem HP {K:PySem.W.Frag} {H:Hp} {d0 d1 d2 d3 d4 d5:Dp} {xs:List V} {ds:List Dp} (h:aS K H (d0 :: d1 :: d2 :: d3 :: d4 :: d5 :: ds) xs):∃ v0 v1 v2 v3 v4 v5 r,xs=v0 :: v1 :: v2 :: v3 :: v4 :: v5 :: r∧Rep K H d5 v5∧aS K H ds r:=by
 rw [aS.aM] at h
 obtain ⟨v0,t0,rfl,_,h⟩:=h
 rw [aS.aM] at h
 obtain ⟨v1,t1,rfl,_,h⟩:=h
 rw [aS.aM] at h
 obtain ⟨v2,t2,rfl,_,h⟩:=h
 rw [aS.aM] at h
 obtain ⟨v3,t3,rfl,_,h⟩:=h
 rw [aS.aM] at h
 obtain ⟨v4,t4,rfl,_,h⟩:=h
 rw [aS.aM] at h
 obtain ⟨v5,t5,rfl,e5,h⟩:=h
 exact ⟨v0,v1,v2,v3,v4,v5,t5,rfl,e5,h⟩
theorem my (T:Tx K mg t):bW P w K mg base CX0 1 t.cV t.gb ["body", "behind"] (uw K):=by
 refine T.bY.F.okS uF (fun vs H Q E h=>?_) (fun cdv A outer s H vs Q E hr h=>?_)
 · obtain ⟨_,_,_,rfl,_⟩:=h
   rfl
 obtain ⟨b,body,x,rfl,rb,lb,q⟩:=h
 have nd:=uF.nd
 refine ⟨_,[some (V.ref b),some (V.int x)],(ag (bA (JR (pv 0) (fun _=>rfl))
 (au (aV (aD aP (aD bt (pv 0) aj ak) aj ak)))
 a9)
 (au (aV (pv 1)))),rfl,?_⟩
 walk_at "rd"
 rw [Rep.bR] at rb
 obtain ⟨_,xs,e,hx,rs⟩:=rb
 cases e
 have line:sizeLine=2 ^ 24:=rfl
 cases body with
 | nil=>
   rw [List.map_nil,aS.bw] at rs
   subst rs
   exact ⟨false,.inl ⟨_,hx,rfl⟩,q⟩
 | cons st r=>
   rw [List.map_cons,aS.aM] at rs
   obtain ⟨v,t,rfl,rv,rs⟩:=rs
   obtain ⟨a,ys,rfl,hs⟩:=gO st rv
   refine ⟨true,.inl ⟨_,hx,rfl⟩,?_⟩
   refine (if_pos rfl).mpr (bK (v:=.ref a) hx (av (j:=0) rfl) ?_)
   exact aI hs (v:=.int st.row) (av (j:=1) rfl) q
theorem zo (T:Tx K mg t):bW P w K mg base CX0 1 t.dy t.jJ ["statement", "after"] (Ek K):=by
 refine T.iJ.F.okS oW (fun vs H Q E h=>?_) (fun cdv A outer s H vs Q E hr h=>?_)
 · obtain ⟨_,_,_,rfl,_⟩:=h
   rfl
 obtain ⟨v,st,x,rfl,rv,q⟩:=h
 have nd:=oW.nd
 refine ⟨_,[some v,some (V.int x)],(ag (bA (aL b9 (aD aP (pv 0) aj ak) ba (aT _))
 (au (aV (aD aP (pv 0) aj ak)))
 a9)
 (au (aV (pv 1)))),rfl,?_⟩
 obtain ⟨a,ys,rfl,hs⟩:=gO st rv
 walk_at "rd"
 refine aI hs (av (j:=0) rfl) ⟨rfl,cb (fun e=>?_) (fun e=>?_)⟩
 · have ew:=(wD st).mp e
   refine aI hs (v:=.int st.row) (av (j:=1) rfl) ?_
   cases st <;> first | exact q | cases ew
 · have ew:st.wd≠.whl:=fun z=>e ((wD st).mpr z)
   cases st <;> first | exact q | exact absurd rfl ew
theorem uY (T:Tx K mg t):bW P w K mg base CX0 1 t.eE t.jt ["statement"] (yR K):=by
 refine T.fQ.F.okS uG (fun vs H Q E h=>?_) (fun cdv A outer s H vs Q E hr h=>?_)
 · obtain ⟨_,_,_,rfl,_⟩:=h
   rfl
 obtain ⟨v,st,H0,rfl,rv,s0,q⟩:=h
 have nd:=uG.nd
 refine ⟨_,[some v],(ag (bA (aL b9 (aD aP (pv 0) aj ak) ba (aT _))
 (au (aV (bH (aa (aD aP (pv 0) aj ak) (aa (aD aP (pv 0) aj ak) ai bg) bg))))
 a9)
 (ag (bA (aL b9 (aD aP (pv 0) aj ak) ba (aT _))
 (au (aV (bH (aa (aD aP (pv 0) aj ak) ai bg))))
 a9)
 (au (aV (bH ai))))),rfl,?_⟩
 obtain ⟨a,ys,rfl,hs⟩:=gO st rv
 have hs:=s0.bC hs
 walk_at "rd"
 refine aI hs (av (j:=0) rfl) ⟨rfl,cb (fun e=>?_) (fun e=>aI hs (av (j:=0) rfl) ⟨rfl,cb (fun e2=>?_) (fun e2=>?_)⟩)⟩
 · have ew:=(CD st).mp e
   cases st <;> first | (exfalso; cases ew; done) | skip
   rename_i k sg l r x y
   rw [dpS,Rep.bj] at rv
   obtain ⟨_,xs,e0,hx,rs⟩:=rv
   cases e0
   obtain ⟨v0,v1,v2,v3,v4,v5,rr,rfl,r5,rs⟩:=HP rs
   rw [aS.aM] at rs
   obtain ⟨v6,t6,rfl,r6,_⟩:=rs
   refine aI (s0.bC hx) (v:=v5) (av (j:=5) rfl) (aI (s0.bC hx) (v:=v6) (av (j:=6) rfl) fun p hp=>?_)
   rw [fC] at r5 r6
   exact q p _ _ (aw.new hp _) hp ae (.cons r5 (.cons r6 .nil))
 · have ew:=(wD st).mp e2
   cases st <;> first | (exfalso; cases ew; done) | skip
   rename_i k sg l r x
   rw [dpS,Rep.bj] at rv
   obtain ⟨_,xs,e0,hx,rs⟩:=rv
   cases e0
   obtain ⟨v0,v1,v2,v3,v4,v5,rr,rfl,r5,rs⟩:=HP rs
   refine aI (s0.bC hx) (v:=v5) (av (j:=5) rfl) fun p hp=>?_
   rw [fC] at r5
   exact q p _ _ (aw.new hp _) hp ae (.cons r5 .nil)
 · intro p hp
   have e1:st.wd≠.ifs:=fun z=>e ((CD st).mpr z)
   have e2':st.wd≠.whl:=fun z=>e2 ((wD st).mpr z)
   refine q p [] _ (aw.new hp _) hp ae ?_
   cases st <;> first | exact .nil | exact absurd rfl e1 | exact absurd rfl e2'
theorem Gp (T:Tx K mg t):bW P w K mg base CX0 2 t.gP t.tf ["statement", "after"] (Le K):=by
 have eI:bW P w K mg base CX0 1 t.cV t.gb ["body", "behind"] (uw K):=my T
 refine T.qO.F.okS zb (fun vs H Q E h=>?_) (fun cdv A outer s H vs Q E hr h=>?_)
 · obtain ⟨_,_,_,rfl,_⟩:=h
   rfl
 obtain ⟨v,st,x,rfl,rv,hl,q⟩:=h
 have nd:=zb.nd
 obtain ⟨HL,uR,uT⟩:=T.zj
 refine ⟨_,[some v,some (V.int x),none],(ag (aR (i:=2) nd rfl (Or.inl rfl) (aD aP (pv 0) aj ak))
 (ag (bA (aL b9 (pv 2) ba (aT _))
 (au (aV (aZ (aa (tW rfl uR uT) ai ah))))
 a9)
 (ag (bA (aL b9 (pv 2) ba (aT _))
 (au (aV (aZ (aa (aJ eI (hr.mono (by omega)) rfl T.bY.m T.bY.F.kp T.bY.b .nil a8 (aa (aD aP (pv 0) aj ak) (aa (pv 1) ai ah) bg)) (aa (aJ eI (hr.mono (by omega)) rfl T.bY.m T.bY.F.kp T.bY.b .nil a8 (aa (aD aP (pv 0) aj ak) (aa (pv 1) ai ah) bg)) ai bM) bM))))
 a9)
 (ag (bA (aL b9 (pv 2) ba (aT _))
 (au (aV (aZ (aa (aJ eI (hr.mono (by omega)) rfl T.bY.m T.bY.F.kp T.bY.b .nil a8 (aa (aD aP (pv 0) aj ak) (aa (aD aP (pv 0) aj ak) ai bg) bg)) (aa (pv 1) ai ah) bM))))
 a9)
 (au (aV (aZ (aa (pv 1) ai ah)))))))),rfl,?_⟩
 obtain ⟨a,ys,rfl,hs⟩:=gO st rv
 refine ax fun U1 hU1=>?_
 walk_at "rd"
 refine aI hs (av (j:=0) rfl) ((hU1 _ _).mpr ?_)
 walk_at "rd"
 have LV:∀ b∈aK st,b.length≤100000:=hl
 refine cb (fun e=>?_) (fun e=>cb (fun e1=>?_) (fun e1=>cb (fun e2=>?_) (fun e2=>?_)))
 · have ew:=(HN st).mp (by rw [e])
   cases st <;> first | (exfalso; cases ew; done) | skip
   intro p hp
   exact q _ _ (aw.new hp _) (Rep.new hp (.cons (Rep.bE.mpr rfl) .nil))
 · have ew:=(CD st).mp (by rw [e1])
   cases st <;> first | (exfalso; cases ew; done) | skip
   rename_i k sg l r y z
   rw [dpS,Rep.bj] at rv
   obtain ⟨_,xs,e0,hx,rs⟩:=rv
   cases e0
   obtain ⟨v0,v1,v2,v3,v4,v5,rr,rfl,r5,rs⟩:=HP rs
   rw [aS.aM] at rs
   obtain ⟨v6,t6,rfl,r6,_⟩:=rs
   rw [fC] at r5 r6
   obtain ⟨a5,_,rfl,_⟩:=Rep.bR.mp r5
   obtain ⟨a6,_,rfl,_⟩:=Rep.bR.mp r6
   refine aI hx (v:=.ref a5) (av (j:=5) rfl) ⟨a5,y,x,rfl,r5,LV y (by simp [aK]),aI hx (v:=.ref a6) (av (j:=6) rfl) ⟨a6,z,x,rfl,r6,LV z (by simp [aK]),fun p hp=>?_⟩⟩
   exact q _ _ (aw.new hp _) (Rep.new hp (.cons (Rep.bE.mpr rfl) (.cons (Rep.bE.mpr rfl) .nil)))
 · have ew:=(wD st).mp (by rw [e2])
   cases st <;> first | (exfalso; cases ew; done) | skip
   rename_i k sg l r y
   rw [dpS,Rep.bj] at rv
   obtain ⟨_,xs,e0,hx,rs⟩:=rv
   cases e0
   obtain ⟨v0,v1,v2,v3,v4,v5,rr,rfl,r5,rs⟩:=HP rs
   rw [fC] at r5
   obtain ⟨a5,_,rfl,_⟩:=Rep.bR.mp r5
   refine aI hx (v:=.ref a5) (av (j:=5) rfl) (aI hs (v:=.int k) (av (j:=1) rfl) ⟨a5,y,k,rfl,r5,LV y (by simp [aK]),fun p hp=>?_⟩)
   exact q _ _ (aw.new hp _) (Rep.new hp (.cons (Rep.bE.mpr rfl) (.cons (Rep.bE.mpr rfl) .nil)))
 · intro p hp
   have n1:st.wd≠.stop:=fun z=>e (V.str.inj ((HN st).mpr z))
   have n2:st.wd≠.ifs:=fun z=>e1 (V.str.inj ((CD st).mpr z))
   have n3:st.wd≠.whl:=fun z=>e2 (V.str.inj ((wD st).mpr z))
   have ew:oP st x=[x]:=by
     cases st <;> first | rfl | exact absurd rfl n1 | exact absurd rfl n2 | exact absurd rfl n3
   rw [ew] at q
   exact q _ _ (aw.new hp _) (Rep.new hp (.cons (Rep.bE.mpr rfl) .nil))
theorem BD {K:PySem.W.Frag} {H:Hp}:∀ (n:Nat) {ds:List PG.Stm} {vs:List V},aS K H (ds.map dpS) vs→aS K H ((ds.drop n).map dpS) (vs.drop n)
 | 0,_,_,h=>h
 | n + 1,[],vs,h=>by
   rw [List.map_nil,aS.bw] at h
   subst h
   exact .nil
 | n + 1,d :: ds,vs,h=>by
   rw [List.map_cons,aS.aM] at h
   obtain ⟨v,t,rfl,_,h⟩:=h
   exact BD n h
theorem LW (T:Tx K mg t) {n:Nat} (jK:bW P w K mg base CX0 (n + 2) t.cI t.gC ["body", "behind"] (yd K n)) :
   bW P w K mg base CX0 (n + 3) t.cI t.gC ["body", "behind"] (yd K (n + 1)):=by
 have eI:bW P w K mg base CX0 1 t.cV t.gb ["body", "behind"] (uw K):=my T
 have Jt:bW P w K mg base CX0 2 t.gP t.tf ["statement", "after"] (Le K):=Gp T
 have pd:bW P w K mg base CX0 1 t.eE t.jt ["statement"] (yR K):=uY T
 have AE:bW P w K mg base CX0 1 t.dy t.jJ ["statement", "after"] (Ek K):=zo T
 refine T.dO.F.okS nE (fun vs H Q E h=>?_) (fun cdv A outer s H vs Q E hr h=>?_)
 · obtain ⟨_,_,_,rfl,_⟩:=h
   rfl
 obtain ⟨b,body,x,rfl,rb,hd,hf,q⟩:=h
 have nd:=nE.nd
 refine ⟨_,[some (V.ref b),some (V.int x),none,none,none,none,none],(ag (aR (i:=2) nd rfl (Or.inl rfl) (bH ai))
 (ag (gT PassesOwn.never rfl (MU rfl T.iO (aa (pv 0) ai ah)) (Fj rfl (cC (br (i:=3) nd rfl (Or.inl rfl)) (cC (br (i:=4) nd rfl (Or.inl rfl)) lP)))
 (ag (aR (i:=5) nd rfl (Or.inl rfl) (aJ eI (hr.mono (by omega)) rfl T.bY.m T.bY.F.kp T.bY.b .nil a8 (aa (iL ud (pv 0) (ka (bc dX (pv 3) aj)) j9) (aa (pv 1) ai ah) bg)))
 (ag (b8 (fz PySem.F.plainAttrs_list PySem.F.slot_list_append PySem.F.type_list_append bX (pv 2) (aa (aZ (aa (aD aP (pv 4) aj ak) (aa (aD aP (pv 4) aj ak) (aa (aJ Jt (hr.mono (by omega)) rfl T.qO.m T.qO.F.kp T.qO.b .nil a8 (aa (pv 4) (aa (pv 5) ai ah) ah)) ai bM) bg) bg)) ai eT)))
 (au (gT PassesOwn.never rfl (eQ (aJ pd (hr.mono (by omega)) rfl T.fQ.m T.fQ.F.kp T.fQ.b .nil a8 (aa (pv 4) ai ah))) (br (i:=6) nd rfl (Or.inl rfl))
 (au (b8 (fz PySem.F.plainAttrs_list PySem.F.slot_list_extend PySem.F.type_list_extend Bb (pv 2) (aa (aJ jK (hr.mono (by omega)) rfl T.dO.m T.dO.F.kp T.dO.b .nil a8 (aa (pv 6) (aa (aJ AE (hr.mono (by omega)) rfl T.iJ.m T.iJ.F.kp T.iJ.b .nil a8 (aa (pv 4) (aa (pv 5) ai ah) ah)) ai bM) ah)) ai bM)))))))))
 (au (aV (pv 2))))),rfl,?_⟩
 have line:sizeLine=2 ^ 24:=rfl
 rw [Rep.bR] at rb
 obtain ⟨_,xs,e,hx,rs⟩:=rb
 cases e
 have lx:xs.length=body.length:=by rw [rs.length,List.length_map]
 have lb:=jC body
 refine ax fun U1 hU1=>?_
 walk_at "rd"
 intro tl htl
 have s1:=aw.new htl (.lst [])
 have y1:(upd H tl (.lst [])) tl=some (.lst []):=ae
 generalize upd H tl (.lst [])=H1 at *
 refine (hU1 _ _).mpr (ax fun U2 hU2=>?_)
 clear hU1
 walk_at "rd"
 obtain ⟨Pv,hPv⟩:∃ Pv:Nat→St→Hp→Prop,∀ i σ H2,Pv i σ H2↔∃ (z3 z4 z5 z6:Option V) (pre:List PG.eZ) (us:List V),σ=[some (V.ref b),some (V.int x),some (V.ref tl),z3,z4,z5,z6]∧aw H H2∧H2 tl=some (.lst us)∧eX K (·=tl) H2 (pre.map fK) us∧us.length=pre.length∧pre ++ PG.aU (body.drop i) x=PG.aU body x:=⟨_,fun _ _ _=>Iff.rfl⟩
 refine ⟨_,rfl,⟨xs,s1.seq hx⟩,KQ (K:=K) (a:=b) (xs:=xs) Pv ((hPv _ _ _).mpr ⟨none,none,none,none,[],[],rfl,s1,y1,.nil,rfl,rfl⟩) (fun i σ H2 _ hv=>?_) ?_ ?_⟩
 · obtain ⟨_,_,_,_,_,_,_,s2,_⟩:=(hPv _ _ _).mp hv
   exact s2.seq hx
 · intro i y σ H2 tp hi hv htp
   obtain ⟨z3,z4,z5,z6,pre,us,rfl,s2,y2,f2,lu,ep⟩:=(hPv _ _ _).mp hv
   clear hv
   have done:=fun σ H7=>(hPv (i + 1) σ H7).mpr
   have li:i < body.length:=by have:=(List.getElem?_eq_some_iff.mp hi).1; lia
   obtain ⟨v,hv,rv⟩:=rs.get (i:=i) (d:=dpS body[i]) (by rw [List.getElem?_map,List.getElem?_eq_getElem li]; rfl)
   rw [hi] at hv
   cases hv
   have ed:body.drop i=body[i] :: body.drop (i + 1):=List.drop_eq_getElem_cons li
   rw [ed,PG.aU,Lc] at ep
   have mem:body[i]∈body:=List.getElem_mem li
   obtain ⟨fm,dm⟩:=qH body _ mem
   generalize hst:body[i]=st at *
   have s3:=s2.trans (aw.new htp (.tup [V.int i,y]))
   have n3:tl≠tp:=ao y2 htp
   have y3:=aw.new htp (.tup [V.int i,y]) _ _ y2
   have f3:=f2.up (.of (aw.new htp (.tup [V.int i,y])))
   have t3:(upd H2 tp (.tup [V.int i,y])) tp=some (.tup [V.int i,y]):=ae
   generalize upd H2 tp (.tup [V.int i,y])=H3 at *
   obtain ⟨sa,ys,rfl,hs⟩:=gO st rv
   refine ⟨tp,_,rfl,.of t3,rfl,_,_,rfl,_,_,rfl,rfl,?_⟩
   refine ax fun U3 hU3=>?_
   walk_at "rd"
   refine ⟨_,rfl,b,_,rfl,s3.seq hx,fun p4 hp4=>?_⟩
   have ec:gQ xs (some ((i:Int) + 1)) none=xs.drop (i + 1):=by
     unfold gQ
     rw [HT.kX,show (i:Int) + 1=((i + 1:Nat):Int) by lia,HT.lS]
     rw [show min (i + 1) xs.length=i + 1 by lia]
     exact List.take_of_length_le (by rw [List.length_drop]; lia)
   rw [ec]
   have s4:=s3.trans (aw.new hp4 (.lst (xs.drop (i + 1))))
   have y4:=aw.new hp4 (.lst (xs.drop (i + 1))) _ _ y3
   have f4:=f3.up (.of (aw.new hp4 (.lst (xs.drop (i + 1)))))
   have l4:(upd H3 p4 (.lst (xs.drop (i + 1)))) p4=some (.lst (xs.drop (i + 1))):=ae
   generalize upd H3 p4 (.lst (xs.drop (i + 1)))=H4 at *
   have rd4:Rep K H4 (.lst ((body.drop (i + 1)).map dpS)) (.ref p4):=Rep.bR.mpr ⟨p4,_,rfl,.of l4,BD (i + 1) (rs.mono s4)⟩
   refine ⟨p4,body.drop (i + 1),x,rfl,rd4,by rw [List.length_drop]; lia,(hU3 _ _).mpr (ax fun U4 hU4=>?_)⟩
   clear hU3
   generalize PG.aQ (body.drop (i + 1)) x=af at *
   have hs4:=(show SqT K H4 sa _ from s4.bC hs)
   walk_at "rd"
   refine ⟨.inl ⟨rfl,_,.of y4⟩,aI hs4 (v:=.int st.row) (av (j:=1) rfl) (aI hs4 (v:=.str (wdS st.wd)) (av (j:=0) rfl) ?_)⟩
   have sh:Ld st:=fun bb hbb=>by
     have:=(jq st bb hbb).1
     have:=jC bb
     lia
   refine ⟨.ref sa,st,af,rfl,rv.mono s4,sh,fun u H5 s5 ru p6 hp6=>?_⟩
   have y5:=s5 _ _ y4
   have f5:=f4.up (.of s5)
   have fu:Fix K (·=tl) H5 (.tup ((oP st af).map .int)) u:=O3 y5 (by rw [noL]; exact wm _) ru
   have n6:p6≠tl:=(ao y5 hp6).symm
   have s6:=aw.new hp6 (.tup [V.int st.row,V.str (wdS st.wd),u])
   have ft:Fix K (·=tl) (upd H5 p6 (.tup [V.int st.row,V.str (wdS st.wd),u])) (fK (st.row,st.wd,oP st af)) (.ref p6):=Fix.tup ae n6 (.cons .int (.cons .str (.cons (fu.up (.of s6)) .nil)))
   have f6:=f5.up (.of s6)
   have y6:=s6 _ _ y5
   have s46:=(s4.trans s5).trans s6
   generalize upd H5 p6 (.tup [V.int st.row,V.str (wdS st.wd),u])=H6 at *
   have Pj:pre.length≤1000:=by
     have h1:=congrArg List.length ep
     have h2:=congrArg List.length (PG.eU body x)
     simp only [List.length_append,List.length_map,List.length_cons] at h1 h2
     lia
   refine ⟨tl,us,_,rfl,rfl,y6,by lia,?_⟩
   have s7:aw H (upd H6 tl (.lst (us ++ [V.ref p6]))):=fun z o e=>by rw [az (ao e htl)]; exact s46 z o e
   have f7:=(f6.snoc ft).up (bf.refl.put (O:=(·=tl)) rfl (.lst (us ++ [V.ref p6])))
   have y7:(upd H6 tl (.lst (us ++ [V.ref p6]))) tl=some (.lst (us ++ [V.ref p6])):=ae
   generalize upd H6 tl (.lst (us ++ [V.ref p6]))=H7 at *
   refine (hU4 _ _).mpr ?_
   clear hU4
   refine k8 fun U hU=>?_
   walk_at "rd"
   refine ⟨.ref sa,st,H,rfl,rv,s7,fun l8 bv H8 s8 hl8 y8 r8=>⟨l8,rfl,⟨bv,.of y8⟩,hU _ _ ?_⟩⟩
   have lbv:bv.length=(aK st).length:=by rw [r8.length,List.length_map]
   have l8t:l8≠tl:=fun z=>by rw [z,y7] at hl8; cases hl8
   obtain ⟨Pw,hPw⟩:∃ Pw:Nat→St→Hp→Prop,∀ j σ H9,Pw j σ H9↔∃ (z6:Option V) (us:List V) (EL:List PG.eZ),σ=[some (V.ref b),some (V.int x),some (V.ref tl),some (V.int i),some (V.ref sa),some (V.int af),z6]∧aw H H9∧(∀ z o,z≠tl→H8 z=some o→H9 z=some o)∧H9 tl=some (.lst us)∧eX K (·=tl) H9 (EL.map fK) us∧us.length=EL.length∧
       EL ++ ((aK st).drop j).flatMap (fun bb=>PG.aU bb (g9 st af))=pre ++ (st.row,st.wd,oP st af) :: (aK st).flatMap (fun bb=>PG.aU bb (g9 st af)):=⟨_,fun _ _ _=>Iff.rfl⟩
   refine kW (K:=K) (a:=l8) (xs:=bv) Pw ((hPw _ _ _).mpr ⟨z6,_,pre ++ [(st.row,st.wd,oP st af)],rfl,s7.trans s8,fun z o _ e=>e,s8 _ _ y7,by rw [List.map_append]; exact f7.up (.of s8),by simp [lu],by simp⟩) (fun j σ H9 _ hv=>?_) ?_ ?_
   · obtain ⟨_,_,_,_,_,k9,_⟩:=(hPw _ _ _).mp hv
     exact .of (k9 _ _ l8t y8)
   · intro j y σ H9 hj hv
     obtain ⟨z6',us',EL,rfl,s9,k9,y9,f9,lu9,e9⟩:=(hPw _ _ _).mp hv
     clear hv
     have lj:j < (aK st).length:=by have:=(List.getElem?_eq_some_iff.mp hj).1; lia
     obtain ⟨v,hv,rb⟩:=r8.get (i:=j) (d:=.lst ((aK st)[j].map dpS)) (by rw [List.getElem?_map,List.getElem?_eq_getElem lj]; rfl)
     rw [hj] at hv
     cases hv
     have mj:(aK st)[j]∈aK st:=List.getElem_mem lj
     obtain ⟨fb,db⟩:=jq st _ mj
     have ej:(aK st).drop j=(aK st)[j] :: (aK st).drop (j + 1):=List.drop_eq_getElem_cons lj
     rw [ej,List.flatMap_cons] at e9
     generalize (aK st)[j]=bb at *
     obtain ⟨ab,_,rfl,_⟩:=Rep.bR.mp rb
     walk_at "rd"
     refine ⟨.inl ⟨rfl,_,.of y9⟩,.ref sa,st,af,rfl,rv.mono s9,?_⟩
     refine ⟨ab,bb,_,rfl,rb.mono s9,by lia,by lia,fun l10 Np H10 s10 Sg y10 r10=>?_⟩
     have Ri:=s10 _ _ y9
     have f10:=f9.up (.of s10)
     have g10:eX K (·=tl) H10 ((PG.aU bb (g9 st af)).map fK) Np:=MZ Ri (Bu _) r10
     have l10:Np.length=(PG.aU bb (g9 st af)).length:=by rw [r10.length,List.length_map]
     have tot:EL.length + (PG.aU bb (g9 st af)).length≤2000:=by
       have h1:=congrArg List.length e9
       have h2:=congrArg List.length ep
       have h3:=congrArg List.length (PG.eU body x)
       simp only [List.length_append,List.length_map,List.length_cons] at h1 h2 h3
       lia
     refine ⟨tl,_,us',Np,rfl,rfl,Ri,y10,by lia,?_⟩
     refine (hPw _ _ _).mpr ⟨_,us' ++ Np,EL ++ PG.aU bb (g9 st af),rfl,fun z o e=>?_,fun z o nz e=>?_,ae,?_,by simp [lu9,l10],by rw [← e9]; simp⟩
     · rw [az (ao e htl)]
       exact s10 _ _ (s9 _ _ e)
     · rw [az nz]
       exact s10 _ _ (k9 z o nz e)
     · rw [List.map_append]
       exact (uW f10 g10).up (bf.refl.put (O:=(·=tl)) rfl _)
   · intro σ H9 hv
     obtain ⟨z6',us',EL,rfl,s9,k9,y9,f9,lu9,e9⟩:=(hPw _ _ _).mp hv
     rw [lbv,List.drop_length,List.flatMap_nil,List.append_nil] at e9
     refine done _ _ ⟨_,_,_,_,EL,us',rfl,s9,y9,f9,lu9,?_⟩
     rw [e9,← ep]
     simp
 · intro σ H2 hv
   obtain ⟨z3,z4,z5,z6,pre,us,rfl,s2,y2,f2,lu,ep⟩:=(hPv _ _ _).mp hv
   rw [lx,List.drop_length,PG.aU,List.append_nil] at ep
   refine (hU2 _ _).mpr ?_
   walk_at "rd"
   rw [ep] at f2
   exact q tl us H2 s2 htl y2 f2.K7
theorem BE (T:Tx K mg t):∀ n,bW P w K mg base CX0 (n + 2) t.cI t.gC ["body", "behind"] (yd K n)
 | 0=>by
   have no:∀ vs H Q E,¬ yd K 0 vs H Q E:=fun vs H Q E ⟨_,_,_,_,_,h,_⟩=>by lia
   exact ⟨fun vs H Q E h=>absurd h (no vs H Q E),fun A outer s H args us vs Q E _ _ _ _ h=>absurd h (no vs H Q E)⟩
 | n + 1=>LW T (BE T n)
theorem Nq (T:Tx K mg t):bW P w K mg base CX0 7 t.mm t.yh ["program"] (FZ K):=by
 have jK:=BE (P:=P) (w:=w) (base:=base) T 4
 refine T.Cp.F.okS HJ (fun vs H Q E h=>?_) (fun cdv A outer s H vs Q E hr h=>?_)
 · obtain ⟨_,_,rfl,_⟩:=h
   rfl
 obtain ⟨v,pr,rfl,rp,hd,hf,q⟩:=h
 have nd:=HJ.nd
 obtain ⟨HL,uR,uT⟩:=T.zj
 refine ⟨_,[some v],(au (aV (aJ jK (hr.mono (by omega)) rfl T.dO.m T.dO.F.kp T.dO.b .nil a8 (aa (aD aP (pv 0) aj ak) (aa (tW rfl uR uT) ai ah) bg)))),rfl,?_⟩
 unfold kA at rp
 rw [Rep.bj] at rp
 obtain ⟨a,xs,rfl,hx,rs⟩:=rp
 rw [aS.aM] at rs
 obtain ⟨v1,t1,rfl,r1,rs⟩:=rs
 rw [aS.aM] at rs
 obtain ⟨v2,t2,rfl,r2,rs⟩:=rs
 obtain ⟨b,_,rfl,_⟩:=Rep.bR.mp r2
 walk_at "rd"
 refine aI hx (v:=.ref b) (av (j:=1) rfl) ?_
 exact ⟨b,pr.body,0,rfl,r2,by lia,hf,fun l us H' s' hl y r=>q l us H' s' hl y r⟩
theorem CF:∀ w:PG.Wd,(wdS w=Str.ofString "else")↔w=.els:=by
 intro w
 cases w <;> decide +kernel
theorem CG:∀ w:PG.Wd,(wdS w=Str.ofString "end")↔w=.fin:=by
 intro w
 cases w <;> decide +kernel
theorem HQ (T:Tx K mg t):bW P w K mg base CX0 1 t.fM t.uN ["rows"] (O5 K):=by
 refine T.fS.F.okS uI (fun vs H Q E h=>?_) (fun cdv A outer s H vs Q E hr h=>?_)
 · obtain ⟨_,_,_,rfl,_⟩:=h
   rfl
 obtain ⟨R,rows,b,rfl,rr,lr,tx,q⟩:=h
 have nd:=uI.nd
 have hu:=gv hr
 refine ⟨_,[some (V.ref R),none,none,none,none],(ag (aR (i:=1) nd rfl (Or.inl rfl) yw)
 (ag (aR (i:=2) nd rfl (Or.inl rfl) (bH ai))
 (ag (gT PassesOwn.never rfl (iq rfl T.ic (aa (bO bq rfl T.fE PyProof.Rows.Boot.«len» (aa (pv 0) ai ah)) ai bM)) (br (i:=3) nd rfl (Or.inl rfl))
 (ag (aR (i:=4) nd rfl (Or.inl rfl) (aD bt (aD bt (pv 0) (pv 3) qB) aj ak))
 (au (bA (aL qA (pv 4) (aZ (cX (vs:=[.str "if",.str "while"]) (by kernel_rfl))) rfl)
 (ag (b8 (fz PySem.F.plainAttrs_list PySem.F.slot_list_append PySem.F.type_list_append bX (pv 2) (aa (pv 3) ai ah)))
 (au (lU hu (pv 1) (pv 3) (bH (cX (vs:=[.non,.non]) (by kernel_rfl))) rfl)))
 (au (bA (aL b9 (pv 4) ba (aT _))
 (ag (ou (pv 3) (Fl (cv hu (pv 1) (aD bt (pv 2) (yk sS aj) yC) (fun _ _=>rfl)) aj set_list))
 (au (lU hu (pv 1) (pv 3) (aD bt (pv 2) (yk sS aj) yC) rfl)))
 (au (bA (aL b9 (pv 4) ba (aT _))
 (ag (lU hu (pv 1) (pv 3) (B6 PySem.F.plainAttrs_list PySem.F.slot_list_pop PySem.F.type_list_pop FE (pv 2)) rfl)
 (au (ou (pv 3) (Fl (cv hu (pv 1) (cv hu (pv 1) (pv 3) (fun _ _=>rfl)) (fun _ _=>rfl)) aj set_list))))
 a9))))))))
 (au (aV (pv 1)))))),rfl,?_⟩
 have line:sizeLine=2 ^ 24:=rfl
 rw [Rep.bR] at rr
 obtain ⟨_,rv,e,hR,rr⟩:=rr
 cases e
 have lrv:rv.length=rows.length:=by rw [rr.length,List.length_map]
 have safe:=PG.Br b rows tx 0 (fun _=>none) [] (by simp)
 refine ax fun U1 hU1=>?_
 walk_at "rd"
 intro d hd
 refine (hU1 _ _).mpr (ax fun U2 hU2=>?_)
 clear hU1
 walk_at "rd"
 intro ol hol
 refine (hU2 _ _).mpr (ax fun U3 hU3=>?_)
 clear hU2
 have nod:ol≠d:=(ao ae hol).symm
 have PB:H ol=none:=by
   cases z:H ol with
   | none=>rfl
   | some o=>rw [aw.new hd (.dK []) _ _ z] at hol; cases hol
 have t1:MtI H d (fun _=>none) (fun _=>d) (upd (upd H d (.dK [])) ol (.lst [])) []:=⟨(aw.new hd _).trans (aw.new hol _),hd,by rw [az nod.symm]; exact ae,fun p=>rfl,fun p e f z=>(by cases z),fun p q e f e' f' z=>(by cases z)⟩
 have y1:(upd (upd H d (.dK [])) ol (.lst [])) ol=some (.lst []):=ae
 generalize upd (upd H d (.dK [])) ol (.lst [])=H1 at *
 refine kZ fun U hU=>?_
 walk_at "rd"
 refine ⟨R,rv,rfl,.inl (t1.s.seq hR),_,rfl,by lia,by lia,hU _ _ ?_⟩
 clear hU
 rw [show ((rv.length:Int)).toNat=rv.length from Int.toNat_natCast _]
 have eF:∀ i (hi:i < rows.length),PG.foldM 0 (rows.take (i + 1)) (fun _=>none,[])=PG.uq (PG.foldM 0 (rows.take i) (fun _=>none,[])) i rows[i].2:=fun i hi=>by
   rw [List.take_succ_eq_append_getElem hi,PG.iu,List.length_take,Nat.min_eq_left (by lia),Nat.zero_add]
   rfl
 obtain ⟨Pv,hPv⟩:∃ Pv:Nat→St→Hp→Prop,∀ i σ H3,Pv i σ H3↔∃ (z3 z4:Option V) (m:PG.Mm) (op:List Nat) (Af:Nat→Addr) (kvs:List (Key × V)),σ=[some (V.ref R),some (V.ref d),some (V.ref ol),z3,z4]∧PG.foldM 0 (rows.take i) (fun _=>none,[])=(m,op)∧MtI H d m Af H3 kvs∧kvs.length≤i∧
     H3 ol=some (.lst (op.reverse.map fun x:Nat=>V.int (x:Int)))∧(∀ p e f,m p=some (.op e f)→Af p≠ol)∧op.length≤i∧(∀ x∈op,x < i):=⟨_,fun _ _ _=>Iff.rfl⟩
 refine jA (lo:=0) (n:=rv.length) Pv ((hPv _ _ _).mpr ⟨none,none,_,[],_,[],rfl,rfl,t1,Nat.le_refl _,y1,fun p e f z=>(by cases z),Nat.le_refl _,by simp⟩) (fun i σ H3 hi hv=>?_) (fun σ H3 hv=>?_)
 · obtain ⟨z3,z4,m,op,Af,kvs,rfl,ef,ti,lk,yo,no,lo,sl⟩:=(hPv _ _ _).mp hv
   clear hv
   have done:=fun σ H7=>(hPv (i + 1) σ H7).mpr
   have li:i < rows.length:=by lia
   rw [eF i li,ef] at done
   have sat:=PG.Eg rows 0 _ safe i rows[i] (List.getElem?_eq_getElem li)
   rw [ef] at sat
   obtain ⟨ra,era,hra⟩:=Cg (rr.mono ti.s) (i:=i) (y:=rv[i]) (List.getElem?_eq_getElem (by lia)) li
   generalize rows[i]=r at *
   obtain ⟨k,wd⟩:=r
   simp only [gh,List.set]
   rw [show (0:Int) + (i:Int)=(i:Int) by lia]
   have hR3:=ti.s.seq hR
   refine ax fun U4 hU4=>?_
   walk_at "rd"
   refine bK (v:=.ref ra) hR3 (av (by rw [← era]; exact List.getElem?_eq_getElem (by lia))) (bK (v:=.str (wdS wd)) hra (av (j:=1) rfl) ((hU4 _ _).mpr ?_))
   clear hU4
   walk_at "rd"
   intro p4 hp4
   refine ⟨p4,_,rfl,.inr (.of ae),rfl,rfl,_,rfl,?_⟩
   have s4:=aw.new hp4 (.tup [V.str (Str.ofString "if"),V.str (Str.ofString "while")])
   have ti4:=ti.same s4
   have yo4:=s4 _ _ yo
   generalize upd H3 p4 (.tup [V.str (Str.ofString "if"),V.str (Str.ofString "while")])=H4 at *
   rw [Ht wd]
   by_cases hl:wd=.ifs∨wd=.whl
   · refine (if_pos (decide_eq_true hl)).mpr ⟨.inl ⟨rfl,_,.of yo4⟩,ol,_,_,rfl,rfl,yo4,by rw [List.length_map,List.length_reverse]; lia,fun p5 hp5=>⟨d,_,rfl,.inl ⟨kvs,.inl (i:Int),?_,rfl,by lia,rfl⟩,?_⟩⟩
     · exact ((ti4.put PB nod no _).same (aw.new hp5 _)).dd
     · have ti6:=(ti4.put PB nod no (.lst (op.reverse.map (fun x:Nat=>V.int (x:Int)) ++ [V.int i]))).QQ i hp5
       have n5:ol≠p5:=ao ae hp5
       have es:PG.uq (m,op) i wd=(m.set i (.op none none),i :: op):=by rcases hl with rfl | rfl <;> rfl
       refine done _ _ ⟨_,_,_,_,_,_,rfl,es,ti6,Nat.le_trans (uy _ _ _) (by lia),?_,?_,by simp only [List.length_cons]; lia,fun x hx=>?_⟩
       · rw [az nod,az n5,ae]
         simp
       · intro p e f hp
         by_cases z:p=i
         · rw [if_pos z]
           exact n5.symm
         · rw [if_neg z]
           rw [PG.Mm.bN _ _ z] at hp
           exact no p e f hp
       · rcases List.mem_cons.mp hx with rfl | hx
         · lia
         · have:=sl x hx
           lia
   · refine (if_neg (by rw [decide_eq_false hl]; exact Bool.false_ne_true)).mpr (cb (fun e=>?_) (fun e=>cb (fun e2=>?_) (fun e2=>?_)))
     · have ew:wd=.els:=(CF wd).mp e
       subst ew
       obtain ⟨o,tt,x,y,eo,mo⟩:=sat (.inl rfl)
       simp only at eo mo
       subst eo
       have last:∀ xs:List Nat,atI ((o :: xs).reverse.map fun x:Nat=>V.int (x:Int)) (-1)=some (V.int o):=fun xs=>by rw [List.reverse_cons,List.map_append]; exact L2.jE _ _
       refine ⟨1,rfl,bK (v:=.int o) (.of yo4) (last tt) ⟨d,.ref (Af o),rfl,.inl ⟨kvs,.inl (o:Int),.inl ti4.dd,rfl,?_⟩,Af o,_,0,0,rfl,rfl,(ti4.ls o x y mo).1,rfl,?_⟩⟩
       · rw [ti4.at_ o,mo]; rfl
       · have ti5:=ti4.list mo (some i) y
         have yo5:(upd H4 (Af o) (.lst [yS (some i),yS y])) ol=some (.lst ((o :: tt).reverse.map fun x:Nat=>V.int (x:Int))):=by rw [az (no o x y mo).symm]; exact yo4
         show ∃ i_2,1=i_2∧DJ K (V.ref ol) (V.int (-i_2)) (upd H4 (Af o) (.lst [yS (some i),yS y])) _
         generalize upd H4 (Af o) (.lst [yS (some i),yS y])=H5 at *
         refine ⟨1,rfl,bK (v:=.int o) (.of yo5) (last tt) ⟨d,_,rfl,.inl ⟨kvs,.inl (i:Int),ti5.dd,rfl,by lia,rfl⟩,?_⟩⟩
         have ti6:=ti5.back i o
         have es:PG.uq (m,o :: tt) i .els=((m.set o (.op (some i) y)).set i (.back o),o :: tt):=by simp only [PG.uq,mo,PG.qE]
         refine done _ _ ⟨_,_,_,_,_,_,rfl,es,ti6,Nat.le_trans (uy _ _ _) (by lia),?_,?_,by lia,fun x hx=>Nat.lt_succ_of_lt (sl x hx)⟩
         · rw [az nod]; exact yo5
         · intro p e f hp
           by_cases z:p=i
           · subst z
             rw [PG.Mm.set_same] at hp
             cases hp
           · rw [PG.Mm.bN _ _ z] at hp
             by_cases z2:p=o
             · subst z2
               exact no p x y mo
             · rw [PG.Mm.bN _ _ z2] at hp
               exact no p e f hp
     · have ew:wd=.fin:=(CG wd).mp e2
       subst ew
       obtain ⟨o,tt,x,y,eo,mo⟩:=sat (.inr rfl)
       simp only at eo mo
       subst eo
       have oi:o < i:=sl o (List.mem_cons_self ..)
       have er:((o :: tt).reverse.map fun x:Nat=>V.int (x:Int))=(tt.reverse.map fun x:Nat=>V.int (x:Int)) ++ [V.int o]:=by simp
       rw [er] at yo4
       have ti5:=ti4.put PB nod no (.lst (tt.reverse.map fun x:Nat=>V.int (x:Int)))
       have yo5:(upd H4 ol (.lst (tt.reverse.map fun x:Nat=>V.int (x:Int)))) ol=some (.lst (tt.reverse.map fun x:Nat=>V.int (x:Int))):=ae
       refine ⟨.inl ⟨rfl,_,.of yo4⟩,ol,_,.int o,rfl,rfl,yo4,by simp,?_⟩
       rw [List.dropLast_concat]
       generalize upd H4 ol (.lst (tt.reverse.map fun x:Nat=>V.int (x:Int)))=H5 at *
       have ti6:=ti5.back i o
       have yo6:(upd H5 d (.dK (putK kvs (.inl (i:Int)) (.int o)))) ol=some (.lst (tt.reverse.map fun x:Nat=>V.int (x:Int))):=by rw [az nod]; exact yo5
       have lk6:(putK kvs (.inl (i:Int)) (V.int o)).length≤i + 1:=Nat.le_trans (uy _ _ _) (by lia)
       refine ⟨d,_,rfl,.inl ⟨kvs,.inl (i:Int),ti5.dd,rfl,by lia,rfl⟩,?_⟩
       generalize putK kvs (.inl (i:Int)) (V.int o)=PC at *
       generalize upd H5 d (.dK PC)=H6 at *
       have mo6:(m.set i (.back o)) o=some (.op x y):=by rw [PG.Mm.bN _ _ (by lia)]; exact mo
       refine ⟨d,.int o,rfl,.inl ⟨PC,.inl (i:Int),.inl ti6.dd,rfl,by rw [ti6.at_ i,PG.Mm.set_same]; rfl⟩,d,.ref (Af o),rfl,.inl ⟨PC,.inl (o:Int),.inl ti6.dd,rfl,by rw [ti6.at_ o,mo6]; rfl⟩,Af o,_,1,1,rfl,rfl,(ti6.ls o x y mo6).1,rfl,?_⟩
       have ti7:=ti6.list mo6 x (some i)
       have es:PG.uq (m,o :: tt) i .fin=((m.set i (.back o)).set o (.op x (some i)),tt):=by simp only [PG.uq,mo,PG.uo]
       refine done _ _ ⟨_,_,_,_,_,_,rfl,es,ti7,lk6,?_,?_,by simp only [List.length_cons] at lo; lia,fun z hz=>Nat.lt_succ_of_lt (sl z (List.mem_cons_of_mem _ hz))⟩
       · rw [az (no o x y mo).symm]; exact yo6
       · intro p e f hp
         by_cases z2:p=o
         · subst z2
           exact no p x y mo
         · rw [PG.Mm.bN _ _ z2] at hp
           by_cases z:p=i
           · subst z
             rw [PG.Mm.set_same] at hp
             cases hp
           · rw [PG.Mm.bN _ _ z] at hp
             exact no p e f hp
     · have es:PG.uq (m,op) i wd=(m,op):=by
         cases wd <;> first | rfl | exact absurd (.inl rfl) hl | exact absurd (.inr rfl) hl | exact absurd ((CF _).mpr rfl) e | exact absurd ((CG _).mpr rfl) e2
       exact done _ _ ⟨_,_,_,_,_,_,rfl,es,ti4,by lia,yo4,no,by lia,fun x hx=>Nat.lt_succ_of_lt (sl x hx)⟩
 · obtain ⟨z3,z4,m,op,Af,kvs,rfl,ef,ti,lk,yo,no,lo,sl⟩:=(hPv _ _ _).mp hv
   rw [lrv,List.take_length] at ef
   refine (hU3 _ _).mpr ?_
   walk_at "rd"
   refine q d H3 ⟨Af,kvs,?_⟩
   unfold PG.oh
   rw [ef]
   exact ti
theorem HR:∀ w:PG.Wd,(V.str (wdS w)=V.str (Str.ofString "while"))↔w=.whl:=by
 intro w
 cases w <;> decide +kernel
theorem N0 (T:Tx K mg t):bW P w K mg base CX0 1 t.iB t.zi ["rows", "matches", "at"] (R9 K):=by
 refine T.fH.F.okS ze (fun vs H Q E h=>?_) (fun cdv A outer s H vs Q E hr h=>?_)
 · obtain ⟨_,_,_,_,_,_,rfl,_⟩:=h
   rfl
 obtain ⟨R,d,rows,b,H0,p,rfl,rr,lr,tx,⟨Af,kvs,ti⟩,q⟩:=h
 have nd:=ze.nd
 have hu:=gv hr
 refine ⟨_,[some (V.ref R),some (V.ref d),some (V.int p),none],(ag (tX PassesOwn.never (aL oy (pv 2) (bO bq rfl T.fE PyProof.Rows.Boot.«len» (aa (pv 0) ai ah)) (aT _))
 (ag (aR (i:=3) nd rfl (Or.inl rfl) (aD bt (aD bt (pv 0) (pv 2) qB) aj ak))
 (au (bA (aL b9 (pv 3) ba (aT _))
 (au (aR (i:=2) nd rfl (Or.inl rfl) (bc dX (aD B4 (cv hu (pv 1) (cv hu (pv 1) (pv 2) (fun _ _=>rfl)) (fun _ _=>rfl)) aj ak) aj)))
 (au (bA (PW.pt (pw_and (aL b9 (pv 3) ba (aT _)) (pw_and1 (aL b9 (aD bt (aD bt (pv 0) (cv hu (pv 1) (pv 2) (fun _ _=>rfl)) KH) aj ak) ba (aT _)))))
 (au (aV (aD bt (aD bt (pv 0) (cv hu (pv 1) (pv 2) (fun _ _=>rfl)) KH) aj ak)))
 (au (bA (aL b9 (pv 3) ba (aT _))
 (au (aR (i:=2) nd rfl (Or.inl rfl) (bc dX (pv 2) aj)))
 (au (aV (aD bt (aD bt (pv 0) (pv 2) qB) aj ak)))))))))))
 (au (aV aj))),rfl,?_⟩
 have line:sizeLine=2 ^ 24:=rfl
 rw [Rep.bR] at rr
 obtain ⟨_,rv,e,hR,rr⟩:=rr
 cases e
 have lrv:rv.length=rows.length:=by rw [rr.length,List.length_map]
 have ok:=PG.Bs tx
 generalize PG.oh rows=m at *
 refine ax fun U1 hU1=>?_
 walk_at "rd"
 refine ⟨fun n σ H'=>H'=H∧∃ (j:Nat) (z:Option V),σ=[some (V.ref R),some (V.ref d),some (V.int j),z]∧n=rows.length - j∧PG.to rows m j=PG.to rows m p,⟨_,rfl,p,none,rfl,rfl,rfl⟩,?_⟩
 rintro n σ H' ⟨rfl,j,z,rfl,rfl,et⟩
 walk_at "rd"
 refine ⟨R,rv,rfl,.inl hR,cb (fun lt=>?_) (fun lt=>?_)⟩
 · have lj:j < rows.length:=by lia
   obtain ⟨ra,era,hra⟩:=Cg rr (i:=j) (y:=rv[j]) (List.getElem?_eq_getElem (by lia)) lj
   have wC:rows[j]?=some rows[j]:=List.getElem?_eq_getElem lj
   generalize rows[j]=r at *
   obtain ⟨k,wd⟩:=r
   obtain ⟨o1,o2,_⟩:=ok j lj k wd wC
   refine ⟨fun σ' H2=>H2=H'∧∃ (j':Nat) (z:Option V),σ'=[some (V.ref R),some (V.ref d),some (V.int j'),z]∧j < j'∧PG.to rows m j'=PG.to rows m p,fun σ' H2 ⟨e1,j',z',e2,e3,e4⟩=>⟨_,by lia,e1,j',z',e2,rfl,e4⟩,?_⟩
   refine bK (v:=.ref ra) hR (av (by rw [← era]; exact List.getElem?_eq_getElem (by lia))) (bK (v:=.str (wdS wd)) hra (av (j:=1) rfl) ?_)
   walk_at "rd"
   have key:∀ jj:Nat,dR kvs (.inl (jj:Int))=mtV Af jj (m jj):=ti.at_
   refine cb (fun e=>?_) (fun e=>cb (fun e2=>?_) (fun e2=>(if_neg (by decide)).mpr ((if_neg e2).mpr ?_)))
   · have ew:wd=.els:=(CF wd).mp e
     subst ew
     obtain ⟨o,x,ee,m1,m2,h1,h2⟩:=o1 rfl
     refine ⟨d,.int o,rfl,.inl ⟨kvs,.inl (j:Int),.inl ti.dd,rfl,by rw [key j,m1]; rfl⟩,d,.ref (Af o),rfl,.inl ⟨kvs,.inl (o:Int),.inl ti.dd,rfl,by rw [key o,m2]; rfl⟩,.inl (bK (v:=.int ee) (.of (ti.ls o x (some ee) m2).1) (av (j:=1) rfl) ⟨_,_,rfl,rfl,rfl,ee + 1,some (V.str (wdS .els)),rfl,by lia,?_⟩)⟩
     · rw [← et,PG.KZ wC m1 m2 h1]
   · have ew:wd=.fin:=(CG wd).mp e2
     subst ew
     obtain ⟨o,k',w',m1,ho,hw⟩:=o2 rfl
     obtain ⟨lo,eo⟩:=PG.l0 ho
     obtain ⟨rb,erb,hrb⟩:=Cg rr (i:=o) (y:=rv[o]) (List.getElem?_eq_getElem (by lia)) lo
     rw [eo] at hrb
     have gR:atI rv (o:Int)=some (V.ref rb):=av (by rw [← erb]; exact List.getElem?_eq_getElem (by lia))
     have gd:qS H' d (V.int j) (some (.int o)):=.inl ⟨kvs,.inl (j:Int),.inl ti.dd,rfl,by rw [key j,m1]; rfl⟩
     refine ⟨d,.int o,rfl,gd,bK (v:=.ref rb) hR gR (bK (v:=.str (wdS w')) hrb (av (j:=1) rfl) ⟨rfl,cb (fun e3=>?_) (fun e3=>(if_pos e2).mpr ⟨rfl,j + 1,_,rfl,by lia,?_⟩)⟩)⟩
     · have ew:w'=.whl:=(HR w').mp e3
       subst ew
       refine ⟨d,.int o,rfl,gd,bK (v:=.ref rb) hR gR (bK (v:=.int k') hrb (av (j:=0) rfl) ?_)⟩
       rw [← et,PG.K0 wC m1 ho] at q
       exact q
     · have ew:w'=.ifs:=hw.resolve_right fun z=>e3 ((HR w').mpr z)
       subst ew
       rw [← et,PG.FV wC m1 ho]
   · refine bK (v:=.ref ra) hR (av (by rw [← era]; exact List.getElem?_eq_getElem (by lia))) (bK (v:=.int k) hra (av (j:=0) rfl) ?_)
     rw [← et,PG.Ec wC (fun z=>e ((CF wd).mpr z)) (fun z=>e2 ((CG wd).mpr z))] at q
     exact q
 · refine (hU1 _ _).mpr ?_
   walk_at "rd"
   rw [← et,PG.FU (by lia)] at q
   exact q
theorem EM:∀ w:PG.Wd,(wdS w=Str.ofString "stop")↔w=.stop:=by
 intro w
 cases w <;> decide +kernel
theorem Nr (T:Tx K mg t):bW P w K mg base CX0 2 t.fN t.uO ["rows"] (M0 K):=by
 have pf:=HQ (P:=P) (w:=w) (base:=base) T
 have qR:=N0 (P:=P) (w:=w) (base:=base) T
 refine T.ke.F.okS uJ (fun vs H Q E h=>?_) (fun cdv A outer s H vs Q E hr h=>?_)
 · obtain ⟨_,_,_,rfl,_⟩:=h
   rfl
 obtain ⟨R,rows,b,rfl,rr,lr,tx,q⟩:=h
 have nd:=uJ.nd
 have hu:=gv hr
 refine ⟨_,[some (V.ref R),none,none,none,none,none,none,none],(ag (aR (i:=1) nd rfl (Or.inl rfl) (aJ pf (hr.mono (by omega)) rfl T.fS.m T.fS.F.kp T.fS.b .nil a8 (aa (pv 0) ai ah)))
 (ag (aR (i:=2) nd rfl (Or.inl rfl) (bH ai))
 (ag (gT PassesOwn.never rfl (iq rfl T.ic (aa (bO bq rfl T.fE PyProof.Rows.Boot.«len» (aa (pv 0) ai ah)) ai bM)) (br (i:=3) nd rfl (Or.inl rfl))
 (ag (ou (aD bt (pv 0) (pv 3) qB) (Ca rfl (cC (br (i:=4) nd rfl (Or.inl rfl)) (cC (br (i:=5) nd rfl (Or.inl rfl)) lP))))
 (ag (aR (i:=6) nd rfl (Or.inl rfl) (aJ qR (hr.mono (by omega)) rfl T.fH.m T.fH.F.kp T.fH.b .nil a8 (aa (pv 0) (aa (pv 1) (aa (bc dX (pv 3) aj) ai gY) ah) ah)))
 (au (bA (aL b9 (pv 5) ba (aT _))
 (au (b8 (fz PySem.F.plainAttrs_list PySem.F.slot_list_append PySem.F.type_list_append bX (pv 2) (aa (aZ (aa (pv 4) (aa (pv 5) (aa (aZ (aa aj ai aW)) ai eT) ah) ah)) ai eT))))
 (au (bA (aL qA (pv 5) (aZ (cX (vs:=[.str "if",.str "while"]) (by kernel_rfl))) rfl)
 (ag (aR (i:=7) nd rfl (Or.inl rfl) (aD B4 (cv hu (pv 1) (pv 3) (fun _ _=>rfl)) aj ak))
 (ag (bA (aL BY (aD B4 (cv hu (pv 1) (pv 3) (fun _ _=>rfl)) aj ak) dW (aT _))
 (au (aR (i:=7) nd rfl (Or.inl rfl) (aD B4 (cv hu (pv 1) (pv 3) (fun _ _=>rfl)) aj ak)))
 a9)
 (au (b8 (fz PySem.F.plainAttrs_list PySem.F.slot_list_append PySem.F.type_list_append bX (pv 2) (aa (aZ (aa (pv 4) (aa (pv 5) (aa (aZ (aa (pv 6) (aa (aJ qR (hr.mono (by omega)) rfl T.fH.m T.fH.F.kp T.fH.b .nil a8 (aa (pv 0) (aa (pv 1) (aa (bc dX (pv 7) aj) ai gY) ah) ah)) ai bM) ah)) ai eT) ah) ah)) ai eT))))))
 (au (bA (aL uf (pv 5) (aZ (cX (vs:=[.str "else",.str "end"]) (by kernel_rfl))) rfl)
 (au (b8 (fz PySem.F.plainAttrs_list PySem.F.slot_list_append PySem.F.type_list_append bX (pv 2) (aa (aZ (aa (pv 4) (aa (pv 5) (aa (aZ (aa (pv 6) ai ah)) ai eT) ah) ah)) ai eT))))
 a9)))))))))
 (au (aV (pv 2)))))),rfl,?_⟩
 have line:sizeLine=2 ^ 24:=rfl
 have ok:=PG.Bs tx
 have wf:=PG.IS tx
 have rrH:=rr
 rw [Rep.bR] at rr
 obtain ⟨_,rv,e,hR,rr⟩:=rr
 cases e
 have lrv:rv.length=rows.length:=by rw [rr.length,List.length_map]
 refine ax fun U1 hU1=>?_
 walk_at "rd"
 refine ⟨R,rows,b,rfl,rrH,lr,tx,fun d H1 mt1=>(hU1 _ _).mpr (ax fun U2 hU2=>?_)⟩
 clear hU1
 walk_at "rd"
 intro fl hfl
 refine (hU2 _ _).mpr (ax fun U3 hU3=>?_)
 clear hU2
 refine kZ fun U hU=>?_
 walk_at "rd"
 obtain ⟨Af,kvs,mi⟩:=mt1
 have ac1:sV K H1 fl (upd H1 fl (.lst [])) [] []:=sV.new hfl
 generalize upd H1 fl (.lst [])=H2 at *
 refine ⟨R,rv,rfl,.inl ((mi.s.trans ac1.s).seq hR),_,rfl,by lia,by lia,hU _ _ ?_⟩
 clear hU
 rw [show ((rv.length:Int)).toNat=rv.length from Int.toNat_natCast _]
 obtain ⟨Pv,hPv⟩:∃ Pv:Nat→St→Hp→Prop,∀ i σ H3,Pv i σ H3↔∃ (z3 z4 z5 z6 z7:Option V) (us:List V),σ=[some (V.ref R),some (V.ref d),some (V.ref fl),z3,z4,z5,z6,z7]∧sV K H1 fl H3 us ((PG.cf rows (PG.oh rows) 0 i).map fK)∧us.length≤i:=⟨_,fun _ _ _=>Iff.rfl⟩
 refine jA (lo:=0) (n:=rv.length) Pv ((hPv _ _ _).mpr ⟨none,none,none,none,none,[],rfl,ac1,Nat.le_refl _⟩) (fun i σ H3 hi hv=>?_) (fun σ H3 hv=>?_)
 · obtain ⟨z3,z4,z5,z6,z7,us,rfl,ac,lu⟩:=(hPv _ _ _).mp hv
   clear hv
   have done:=fun σ H7=>(hPv (i + 1) σ H7).mpr
   have li:i < rows.length:=by lia
   have ew:PG.cf rows (PG.oh rows) 0 (i + 1)=PG.cf rows (PG.oh rows) 0 i ++ PG.eJ rows (PG.oh rows) i:=by
     rw [PG.dJ,Nat.zero_add,PG.cf,PG.cf,List.append_nil]
   have mi3:=mi.same ac.s
   have rr3:=rr.mono mi3.s
   obtain ⟨ra,era,hra⟩:=Cg rr3 (i:=i) (y:=rv[i]) (List.getElem?_eq_getElem (by lia)) li
   have wC:rows[i]?=some rows[i]:=List.getElem?_eq_getElem li
   generalize rows[i]=r at *
   obtain ⟨k,wd⟩:=r
   obtain ⟨_,_,o3⟩:=ok i li k wd wC
   simp only [gh,List.set]
   rw [show (0:Int) + (i:Int)=(i:Int) by lia]
   have hR3:=mi3.s.seq hR
   have Rj:Rep K H3 (.lst (rows.map lh)) (.ref R):=rrH.mono mi3.s
   refine ax fun U4 hU4=>?_
   walk_at "rd"
   refine bK (v:=.ref ra) hR3 (av (by rw [← era]; exact List.getElem?_eq_getElem (by lia))) ⟨ra,_,rfl,hra,rfl,_,_,rfl,_,_,rfl,rfl,(hU4 _ _).mpr (ax fun U5 hU5=>?_)⟩
   clear hU4
   simp only [List.set]
   walk_at "rd"
   refine ⟨R,d,rows,b,H,i + 1,by simp,Rj,lr,tx,⟨Af,kvs,mi3⟩,(hU5 _ _).mpr ?_⟩
   clear hU5
   walk_at "rd"
   generalize hm:PG.oh rows=m at *
   have put:∀ (H4:Hp) (ws:List Int) (z:Option V),sV K H1 fl H4 us ((PG.cf rows m 0 i).map fK)→PG.eJ rows m i=[(k,wd,ws)]→∀ p,H4 p=none→∀ p1,(upd H4 p (.tup (ws.map V.int))) p1=none→
       B7 (V.ref fl) [V.ref p1] (upd (upd H4 p (.tup (ws.map V.int))) p1 (.tup [V.int k,V.str (wdS wd),V.ref p])) fun x H'=>Pv (i + 1) [some (V.ref R),some (V.ref d),some (V.ref fl),some (V.int i),some (V.int k),some (V.str (wdS wd)),some (V.int (PG.to rows m (i + 1))),z] H':=fun H4 ws z ac ea p hp p1 hp1=>by
     obtain ⟨y5,ac5⟩:=ac.row (k:=k) (w:=wd) hfl hp hp1
     refine ⟨fl,us,_,rfl,rfl,y5,by lia,done _ _ ⟨_,_,_,_,_,us ++ [V.ref p1],rfl,?_,by simp only [List.length_append,List.length_singleton]; lia⟩⟩
     rw [ew,List.map_append,ea]
     exact ac5
   refine cb (fun e=>⟨.inl ⟨rfl,_,.of ac.y⟩,fun p hp p1 hp1=>?_⟩) (fun e p4 hp4=>?_)
   · have ewd:=(EM wd).mp e
     subst ewd
     exact put H3 [0] _ ac (by unfold PG.eJ; rw [wC]) p hp p1 hp1
   · refine ⟨p4,_,rfl,.inr (.of ae),rfl,rfl,_,rfl,?_⟩
     have s4:=aw.new hp4 (.tup [V.str (Str.ofString "if"),V.str (Str.ofString "while")])
     have ac4:=ac.same s4
     have mi4:=mi3.same s4
     have Rk:=Rj.mono s4
     generalize upd H3 p4 (.tup [V.str (Str.ofString "if"),V.str (Str.ofString "while")])=H4 at *
     rw [Ht wd]
     by_cases hl:wd=.ifs∨wd=.whl
     · obtain ⟨x,ee,m1,h1,h2,h3⟩:=o3 hl
       have gd:qS H4 d (V.int i) (some (.ref (Af i))):=.inl ⟨kvs,.inl (i:Int),.inl mi4.dd,rfl,by rw [mi4.at_ i,m1]; rfl⟩
       have gl:=(mi4.ls i x (some ee) m1).1
       have ea:PG.eJ rows m i=[(k,wd,[PG.to rows m (i + 1),PG.to rows m (x.getD ee + 1)])]:=by
         unfold PG.eJ
         rw [wC]
         rcases hl with rfl | rfl <;> simp only [m1]
       refine (if_pos (decide_eq_true hl)).mpr ⟨d,_,rfl,gd,.inl (bK (v:=.int ee) (.of gl) (av (j:=1) rfl) ⟨d,_,rfl,gd,.inl (bK (v:=yS x) (.of gl) (av (j:=0) rfl) ?_)⟩)⟩
       cases x with
       | none=>
         refine (if_pos rfl).mpr ⟨.inl ⟨rfl,_,.of ac4.y⟩,?_⟩
         rw [Kn]
         exact ⟨R,d,rows,b,H,ee + 1,by simp,Rk,lr,tx,⟨Af,kvs,by rw [hm]; exact mi4⟩,by rw [hm]; exact put H4 _ _ ac4 ea⟩
       | some y=>
         refine (if_neg (by intro z; cases z)).mpr ⟨d,_,rfl,gd,.inl (bK (v:=.int y) (.of gl) (av (j:=0) rfl) ⟨.inl ⟨rfl,_,.of ac4.y⟩,?_⟩)⟩
         rw [Kn]
         exact ⟨R,d,rows,b,H,y + 1,by simp,Rk,lr,tx,⟨Af,kvs,by rw [hm]; exact mi4⟩,by rw [hm]; exact put H4 _ _ ac4 ea⟩
     · refine (if_neg (by rw [decide_eq_false hl]; exact Bool.false_ne_true)).mpr fun p5 hp5=>?_
       refine ⟨p5,_,rfl,.inr (.of ae),rfl,rfl,_,rfl,?_⟩
       have s5:=aw.new hp5 (.tup [V.str (Str.ofString "else"),V.str (Str.ofString "end")])
       have ac5:=ac4.same s5
       generalize upd H4 p5 (.tup [V.str (Str.ofString "else"),V.str (Str.ofString "end")])=H5 at *
       rw [O4 wd]
       by_cases hn:wd=.els∨wd=.fin
       · refine (if_neg (by rw [decide_eq_true hn]; exact Bool.false_ne_true)).mpr (done _ _ ⟨_,_,_,_,_,us,rfl,?_,by lia⟩)
         have ea:PG.eJ rows m i=[]:=by
           unfold PG.eJ
           rw [wC]
           rcases hn with rfl | rfl <;> rfl
         rw [ew,ea,List.append_nil]
         exact ac5
       · refine (if_pos (by rw [decide_eq_false hn]; rfl)).mpr ⟨.inl ⟨rfl,_,.of ac5.y⟩,put H5 [PG.to rows m (i + 1)] _ ac5 ?_⟩
         unfold PG.eJ
         rw [wC]
         cases wd <;> first | rfl | exact absurd (.inl rfl) hl | exact absurd (.inr rfl) hl | exact absurd (.inl rfl) hn | exact absurd (.inr rfl) hn | exact absurd ((EM _).mpr rfl) e
 · obtain ⟨z3,z4,z5,z6,z7,us,rfl,ac,lu⟩:=(hPv _ _ _).mp hv
   rw [lrv,wf] at ac
   refine (hU3 _ _).mpr ?_
   walk_at "rd"
   refine q fl us H3 (mi.s.trans ac.s) ?_ ac.y ac.f.K7
   cases z:H fl with
   | none=>rfl
   | some o=>rw [mi.s _ _ z] at hfl; cases hfl
theorem Nt (T:Tx K mg t) {n:Nat} (ie:bW P w K mg base CX0 (n + 1) t.b5 t.fj ["body"] (Ci K n)) :
   bW P w K mg base CX0 (n + 2) t.b5 t.fj ["body"] (Ci K (n + 1)):=by
 refine T.cJ.F.okS jI (fun vs H Q E h=>?_) (fun cdv A outer s H vs Q E hr h=>?_)
 · obtain ⟨_,_,_,rfl,_⟩:=h
   rfl
 obtain ⟨b,body,H0,rfl,s0,rb,hd,hf,pw,q⟩:=h
 have nd:=jI.nd
 have hu:=gv hr
 refine ⟨_,[some (V.ref b),none,none,none],(ag (aR (i:=1) nd rfl (Or.inl rfl) yw)
 (ag (gT PassesOwn.never rfl (eQ (pv 0)) (br (i:=2) nd rfl (Or.inl rfl))
 (ag (lU hu (pv 1) (aD aP (pv 2) aj ak) (pv 2) rfl)
 (au (gT PassesOwn.never rfl (Om (iL J7 (pv 2) (ka aj) j9)) (br (i:=3) nd rfl (Or.inl rfl))
 (au (b8 (fz PySem.F.plainAttrs_dict PySem.F.slot_dict_update PySem.F.type_dict_update I0 (pv 1) (aa (aJ ie (hr.mono (by omega)) rfl T.cJ.m T.cJ.F.kp T.cJ.b .nil a8 (aa (pv 3) ai ah)) ai bM))))))))
 (au (aV (pv 1))))),rfl,?_⟩
 have line:sizeLine=2 ^ 24:=rfl
 rw [Rep.bR] at rb
 obtain ⟨_,xs,e,hx,rs⟩:=rb
 cases e
 have lx:xs.length=body.length:=by rw [rs.length,List.length_map]
 have lb:=jC body
 have sl:=oT body
 refine ax fun U1 hU1=>?_
 walk_at "rd"
 intro d hd0
 have s1:=aw.new hd0 (.dK [])
 have y1:(upd H d (.dK [])) d=some (.dK []):=ae
 generalize upd H d (.dK [])=H1 at *
 refine (hU1 _ _).mpr (ax fun U2 hU2=>?_)
 clear hU1
 refine k8 fun U hU=>?_
 walk_at "rd"
 refine ⟨⟨xs,(s0.trans s1).seq hx⟩,hU _ _ ?_⟩
 clear hU
 obtain ⟨Pv,hPv⟩:∃ Pv:Nat→St→Hp→Prop,∀ i σ H3,Pv i σ H3↔∃ (z2 z3:Option V) (us:List V),σ=[some (V.ref b),some (V.ref d),z2,z3]∧aw H H3∧us.length=(PG.aC (body.take i)).length∧H3 d=some (.dK (cY (PG.aC (body.take i)) us))∧aS K H0 ((PG.aC (body.take i)).map dpS) us:=⟨_,fun _ _ _=>Iff.rfl⟩
 refine kW (K:=K) (a:=b) (xs:=xs) Pv ((hPv _ _ _).mpr ⟨none,none,[],rfl,s1,rfl,y1,.nil⟩) (fun i σ H3 _ hv=>?_) ?_ ?_
 · obtain ⟨_,_,_,_,s3,_⟩:=(hPv _ _ _).mp hv
   exact (s0.trans s3).seq hx
 · intro i y σ H3 hi hv
   obtain ⟨z2,z3,us,rfl,s3,lu,y3,r3⟩:=(hPv _ _ _).mp hv
   clear hv
   have done:=fun σ H7=>(hPv (i + 1) σ H7).mpr
   have li:i < body.length:=by have:=(List.getElem?_eq_some_iff.mp hi).1; lia
   obtain ⟨v,hv,rv⟩:=rs.get (i:=i) (d:=dpS body[i]) (by rw [List.getElem?_map,List.getElem?_eq_getElem li]; rfl)
   rw [hi] at hv
   cases hv
   have mem:body[i]∈body:=List.getElem_mem li
   obtain ⟨fm,dm⟩:=qH body _ mem
   have et:PG.aC (body.take (i + 1))=PG.aC (body.take i) ++ body[i] :: (aK body[i]).flatMap PG.aC:=by
     rw [List.take_succ_eq_append_getElem li,oS,Em,Hu]
   rw [et] at done
   have eb:PG.aC body=(PG.aC (body.take i) ++ body[i] :: (aK body[i]).flatMap PG.aC) ++ PG.aC (body.drop (i + 1)):=by
     rw [← et,← oS,List.take_append_drop]
   rw [eb] at pw sl
   have pw:=(List.pairwise_append.mp pw).1
   have sl:(PG.aC (body.take i) ++ body[i] :: (aK body[i]).flatMap PG.aC).length≤1000:=by
     rw [List.length_append] at sl
     lia
   generalize body[i]=st at *
   generalize PG.aC (body.take i)=pre at *
   obtain ⟨sa,ys,rfl,hs,l2,l7,e1,rc⟩:=M3 st rv
   simp only [gh,List.set]
   refine ax fun U3 hU3=>?_
   walk_at "rd"
   have fresh:(Sum.inl st.row:Key) ∉ (cY pre us).map (·.1):=by
     rw [gF _ _ lu]
     intro z
     obtain ⟨x,hx,e⟩:=List.mem_map.mp z
     have e:=Sum.inl.inj e
     have:=(List.pairwise_append.mp pw).2.2 x hx st (List.mem_cons_self ..)
     lia
   have lr:(cY pre us).length≤1000:=by
     have:=congrArg List.length (gF _ _ lu)
     rw [List.length_map,List.length_map] at this
     rw [List.length_append] at sl
     lia
   refine aI ((s0.trans s3).bC hs) (v:=.int st.row) (av (j:=1) e1) ⟨d,_,rfl,.inl ⟨_,.inl st.row,y3,rfl,by lia,rfl⟩,(hU3 _ _).mpr ?_⟩
   clear hU3
   rw [yT fresh]
   have y4:(upd H3 d (.dK (cY pre us ++ [(Sum.inl st.row,V.ref sa)]))) d=some (.dK (cY (pre ++ [st]) (us ++ [V.ref sa]))):=by rw [ae,qI _ _ _ _ lu]; rfl
   have s4:aw H (upd H3 d (.dK (cY pre us ++ [(Sum.inl st.row,V.ref sa)]))):=fun z o e=>by rw [az (ao e hd0)]; exact s3 z o e
   generalize upd H3 d (.dK (cY pre us ++ [(Sum.inl st.row,V.ref sa)]))=H4 at *
   refine Lh fun U hU=>?_
   simp only [tSl]
   walk_at "rd"
   refine ⟨5,rfl,sa,ys,rfl,(s0.trans s4).bC hs,?_,fun p hp=>⟨p,rfl,⟨_,.of ae⟩,hU _ _ ?_⟩⟩
   · intro z
     have z1:=z.1
     rw [show (5:Int)=((5:Nat):Int) from rfl,HT.lS] at z1
     lia
   clear hU
   have s5:=s4.trans (aw.new hp (.tup (gQ ys (some 5) none)))
   have y5:=aw.new hp (.tup (gQ ys (some 5) none)) _ _ y4
   have h5:(upd H4 p (.tup (gQ ys (some 5) none))) p=some (.tup (gQ ys (some 5) none)):=ae
   have npd:p≠d:=(ao y4 hp).symm
   generalize upd H4 p (.tup (gQ ys (some 5) none))=H5 at *
   generalize gQ ys (some 5) none=bv at *
   have lbv:bv.length=(aK st).length:=by rw [rc.length,List.length_map]
   obtain ⟨Pw,hPw⟩:∃ Pw:Nat→St→Hp→Prop,∀ j σ H6,Pw j σ H6↔∃ (z3:Option V) (us':List V),σ=[some (V.ref b),some (V.ref d),some (V.ref sa),z3]∧aw H H6∧H6 p=some (.tup bv)∧us'.length=(pre ++ st :: ((aK st).take j).flatMap PG.aC).length∧H6 d=some (.dK (cY (pre ++ st :: ((aK st).take j).flatMap PG.aC) us'))∧aS K H0 ((pre ++ st :: ((aK st).take j).flatMap PG.aC).map dpS) us':=⟨_,fun _ _ _=>Iff.rfl⟩
   refine MB (K:=K) (a:=p) (xs:=bv) Pw ((hPw _ _ _).mpr ⟨z3,us ++ [V.ref sa],rfl,s5,h5,by simp [lu],y5,?_⟩) (fun j σ H6 _ hv=>?_) ?_ ?_
   · rw [List.take_zero,List.flatMap_nil,List.map_append]
     exact r3.append (.cons rv .nil)
   · obtain ⟨_,_,_,_,h6,_⟩:=(hPw _ _ _).mp hv
     exact .of h6
   · intro j y σ H6 hj hv
     obtain ⟨z3',us',rfl,s6,h6,lu6,y6,r6⟩:=(hPw _ _ _).mp hv
     clear hv
     have xt:=fun σ H7=>(hPw (j + 1) σ H7).mpr
     have lj:j < (aK st).length:=by have:=(List.getElem?_eq_some_iff.mp hj).1; lia
     obtain ⟨v,hv,rbj⟩:=rc.get (i:=j) (d:=.lst ((aK st)[j].map dpS)) (by rw [List.getElem?_map,List.getElem?_eq_getElem lj]; rfl)
     rw [hj] at hv
     cases hv
     have mj:(aK st)[j]∈aK st:=List.getElem_mem lj
     obtain ⟨fb,db⟩:=jq st _ mj
     have ej:((aK st).take (j + 1)).flatMap PG.aC=((aK st).take j).flatMap PG.aC ++ PG.aC (aK st)[j]:=by
       rw [List.take_succ_eq_append_getElem lj,List.flatMap_append]
       simp
     have ea:(aK st).flatMap PG.aC=((aK st).take j).flatMap PG.aC ++ PG.aC (aK st)[j] ++ ((aK st).drop (j + 1)).flatMap PG.aC:=by
       rw [← ej,← List.flatMap_append,List.take_append_drop]
     rw [ej] at xt
     rw [ea] at pw sl
     generalize (aK st)[j]=bb at *
     generalize ((aK st).take j).flatMap PG.aC=mid at *
     generalize ((aK st).drop (j + 1)).flatMap PG.aC=rest at *
     have pw2:((pre ++ st :: mid) ++ PG.aC bb).Pairwise (fun a b=>a.row < b.row):=by
       rw [show pre ++ st :: (mid ++ PG.aC bb ++ rest)=((pre ++ st :: mid) ++ PG.aC bb) ++ rest by simp] at pw
       exact (List.pairwise_append.mp pw).1
     have sl2:(pre ++ st :: mid).length + (PG.aC bb).length≤1000:=by
       simp only [List.length_append,List.length_cons] at sl ⊢
       lia
     obtain ⟨ab,_,rfl,_⟩:=Rep.bR.mp rbj
     simp only [gh,List.set]
     walk_at "rd"
     refine ⟨.inr (.inr (.inl ⟨rfl,.inl ⟨_,y6⟩⟩)),ab,bb,H0,rfl,s0.trans s6,rbj,by lia,by lia,(List.pairwise_append.mp pw2).2.1,fun d2 us2 H7 s7 hd2 l2 y7 r7=>?_⟩
     have nd2:d≠d2:=ao y6 hd2
     have lk1:(cY (pre ++ st :: mid) us').length=(pre ++ st :: mid).length:=by
       have:=congrArg List.length (gF _ _ lu6)
       rwa [List.length_map,List.length_map] at this
     have lk2:(cY (PG.aC bb) us2).length=(PG.aC bb).length:=by
       have:=congrArg List.length (gF _ _ l2)
       rwa [List.length_map,List.length_map] at this
     refine ⟨d,d2,_,_,rfl,rfl,nd2,s7 _ _ y6,y7,by lia,?_⟩
     rw [iy _ _ (by rw [← qI _ _ _ _ lu6,gF _ _ (by simp only [List.length_append] at *; lia)]; exact sW pw2),← qI _ _ _ _ lu6]
     refine xt _ _ ⟨_,us' ++ us2,rfl,fun z o e=>by rw [az (ao e hd0)]; exact s7 _ _ (s6 z o e),by rw [az npd]; exact s7 _ _ h6,by simp only [List.length_append,List.length_cons] at *; lia,?_,?_⟩
     · rw [ae]
       simp
     · rw [show pre ++ st :: (mid ++ PG.aC bb)=(pre ++ st :: mid) ++ PG.aC bb by simp,List.map_append]
       exact r6.append r7
   · intro σ H6 hv
     obtain ⟨z3',us',rfl,s6,h6,lu6,y6,r6⟩:=(hPw _ _ _).mp hv
     rw [lbv,List.take_length] at lu6 y6 r6
     exact done _ _ ⟨_,_,us',rfl,s6,lu6,y6,r6⟩
 · intro σ H3 hv
   obtain ⟨z2,z3,us,rfl,s3,lu,y3,r3⟩:=(hPv _ _ _).mp hv
   rw [lx,List.take_length] at lu y3 r3
   refine (hU2 _ _).mpr ?_
   walk_at "rd"
   exact q d us H3 s3 hd0 lu y3 r3
theorem EN (T:Tx K mg t):∀ n,bW P w K mg base CX0 (n + 1) t.b5 t.fj ["body"] (Ci K n)
 | 0=>by
   have no:∀ vs H Q E,¬ Ci K 0 vs H Q E:=fun vs H Q E ⟨_,_,_,_,_,_,h,_⟩=>by lia
   exact ⟨fun vs H Q E h=>absurd h (no vs H Q E),fun A outer s H args us vs Q E _ _ _ _ h=>absurd h (no vs H Q E)⟩
 | n + 1=>Nt T (EN T n)
theorem LX (T:Tx K mg t) {n:Nat} (fF:bW P w K mg base CX0 (n + 2) t.bU t.dF ["body"] (qJ K n)) :
   bW P w K mg base CX0 (n + 3) t.bU t.dF ["body"] (qJ K (n + 1)):=by
 have pd:bW P w K mg base CX0 1 t.eE t.jt ["statement"] (yR K):=uY T
 refine T.c5.F.okS lI (fun vs H Q E h=>?_) (fun cdv A outer s H vs Q E hr h=>?_)
 · obtain ⟨_,_,_,rfl,_⟩:=h
   rfl
 obtain ⟨b,body,H0,rfl,s0,rb,hd,hf,q⟩:=h
 have nd:=lI.nd
 refine ⟨_,[some (V.ref b),none,none,none],(ag (aR (i:=1) nd rfl (Or.inl rfl) (bH ai))
 (ag (gT PassesOwn.never rfl (eQ (pv 0)) (br (i:=2) nd rfl (Or.inl rfl))
 (ag (b8 (fz PySem.F.plainAttrs_list PySem.F.slot_list_append PySem.F.type_list_append bX (pv 1) (aa (pv 2) ai ah)))
 (au (gT PassesOwn.never rfl (eQ (aJ pd (hr.mono (by omega)) rfl T.fQ.m T.fQ.F.kp T.fQ.b .nil a8 (aa (pv 2) ai ah))) (br (i:=3) nd rfl (Or.inl rfl))
 (au (b8 (fz PySem.F.plainAttrs_list PySem.F.slot_list_extend PySem.F.type_list_extend Bb (pv 1) (aa (aJ fF (hr.mono (by omega)) rfl T.c5.m T.c5.F.kp T.c5.b .nil a8 (aa (pv 3) ai ah)) ai bM))))))))
 (au (aV (pv 1))))),rfl,?_⟩
 have line:sizeLine=2 ^ 24:=rfl
 rw [Rep.bR] at rb
 obtain ⟨_,xs,e,hx,rs⟩:=rb
 cases e
 have lx:xs.length=body.length:=by rw [rs.length,List.length_map]
 have lb:=jC body
 have sl:=oT body
 refine ax fun U1 hU1=>?_
 walk_at "rd"
 intro d hd0
 have s1:=aw.new hd0 (.lst [])
 have y1:(upd H d (.lst [])) d=some (.lst []):=ae
 generalize upd H d (.lst [])=H1 at *
 refine (hU1 _ _).mpr (ax fun U2 hU2=>?_)
 clear hU1
 refine k8 fun U hU=>?_
 walk_at "rd"
 refine ⟨⟨xs,(s0.trans s1).seq hx⟩,hU _ _ ?_⟩
 clear hU
 obtain ⟨Pv,hPv⟩:∃ Pv:Nat→St→Hp→Prop,∀ i σ H3,Pv i σ H3↔∃ (z2 z3:Option V) (us:List V),σ=[some (V.ref b),some (V.ref d),z2,z3]∧aw H H3∧us.length=(PG.aC (body.take i)).length∧H3 d=some (.lst us)∧aS K H0 ((PG.aC (body.take i)).map dpS) us:=⟨_,fun _ _ _=>Iff.rfl⟩
 refine kW (K:=K) (a:=b) (xs:=xs) Pv ((hPv _ _ _).mpr ⟨none,none,[],rfl,s1,rfl,y1,.nil⟩) (fun i σ H3 _ hv=>?_) ?_ ?_
 · obtain ⟨_,_,_,_,s3,_⟩:=(hPv _ _ _).mp hv
   exact (s0.trans s3).seq hx
 · intro i y σ H3 hi hv
   obtain ⟨z2,z3,us,rfl,s3,lu,y3,r3⟩:=(hPv _ _ _).mp hv
   clear hv
   have done:=fun σ H7=>(hPv (i + 1) σ H7).mpr
   have li:i < body.length:=by have:=(List.getElem?_eq_some_iff.mp hi).1; lia
   obtain ⟨v,hv,rv⟩:=rs.get (i:=i) (d:=dpS body[i]) (by rw [List.getElem?_map,List.getElem?_eq_getElem li]; rfl)
   rw [hi] at hv
   cases hv
   have mem:body[i]∈body:=List.getElem_mem li
   obtain ⟨fm,dm⟩:=qH body _ mem
   have et:PG.aC (body.take (i + 1))=PG.aC (body.take i) ++ body[i] :: (aK body[i]).flatMap PG.aC:=by
     rw [List.take_succ_eq_append_getElem li,oS,Em,Hu]
   rw [et] at done
   have eb:PG.aC body=(PG.aC (body.take i) ++ body[i] :: (aK body[i]).flatMap PG.aC) ++ PG.aC (body.drop (i + 1)):=by
     rw [← et,← oS,List.take_append_drop]
   rw [eb] at sl
   have sl:(PG.aC (body.take i) ++ body[i] :: (aK body[i]).flatMap PG.aC).length≤1000:=by
     rw [List.length_append] at sl
     lia
   generalize body[i]=st at *
   generalize PG.aC (body.take i)=pre at *
   simp only [gh,List.set]
   refine ax fun U3 hU3=>?_
   walk_at "rd"
   refine ⟨.inl ⟨rfl,_,.of y3⟩,d,us,y,rfl,rfl,y3,by simp only [List.length_append,List.length_cons] at sl; lia,(hU3 _ _).mpr ?_⟩
   clear hU3
   have y4:(upd H3 d (.lst (us ++ [y]))) d=some (.lst (us ++ [y])):=ae
   have s4:aw H (upd H3 d (.lst (us ++ [y]))):=fun z o e=>by rw [az (ao e hd0)]; exact s3 z o e
   generalize upd H3 d (.lst (us ++ [y]))=H4 at *
   refine k8 fun U hU=>?_
   walk_at "rd"
   refine ⟨y,st,H0,rfl,rv,s0.trans s4,fun p bv H5 s5' hp h5 rc=>⟨p,rfl,⟨_,.of h5⟩,hU _ _ ?_⟩⟩
   clear hU
   have s5:=s4.trans s5'
   have y5:=s5' _ _ y4
   have npd:p≠d:=(ao y4 hp).symm
   have lbv:bv.length=(aK st).length:=by rw [rc.length,List.length_map]
   obtain ⟨Pw,hPw⟩:∃ Pw:Nat→St→Hp→Prop,∀ j σ H6,Pw j σ H6↔∃ (z3:Option V) (us':List V),σ=[some (V.ref b),some (V.ref d),some y,z3]∧aw H H6∧H6 p=some (.lst bv)∧us'.length=(pre ++ st :: ((aK st).take j).flatMap PG.aC).length∧H6 d=some (.lst us')∧aS K H0 ((pre ++ st :: ((aK st).take j).flatMap PG.aC).map dpS) us':=⟨_,fun _ _ _=>Iff.rfl⟩
   refine kW (K:=K) (a:=p) (xs:=bv) Pw ((hPw _ _ _).mpr ⟨z3,us ++ [y],rfl,s5,h5,by simp [lu],y5,?_⟩) (fun j σ H6 _ hv=>?_) ?_ ?_
   · rw [List.take_zero,List.flatMap_nil,List.map_append]
     exact r3.append (.cons rv .nil)
   · obtain ⟨_,_,_,_,h6,_⟩:=(hPw _ _ _).mp hv
     exact .of h6
   · intro j y' σ H6 hj hv
     obtain ⟨z3',us',rfl,s6,h6,lu6,y6,r6⟩:=(hPw _ _ _).mp hv
     clear hv
     have xt:=fun σ H7=>(hPw (j + 1) σ H7).mpr
     have lj:j < (aK st).length:=by have:=(List.getElem?_eq_some_iff.mp hj).1; lia
     obtain ⟨v,hv,rbj⟩:=rc.get (i:=j) (d:=.lst ((aK st)[j].map dpS)) (by rw [List.getElem?_map,List.getElem?_eq_getElem lj]; rfl)
     rw [hj] at hv
     cases hv
     have mj:(aK st)[j]∈aK st:=List.getElem_mem lj
     obtain ⟨fb,db⟩:=jq st _ mj
     have ej:((aK st).take (j + 1)).flatMap PG.aC=((aK st).take j).flatMap PG.aC ++ PG.aC (aK st)[j]:=by
       rw [List.take_succ_eq_append_getElem lj,List.flatMap_append]
       simp
     have ea:(aK st).flatMap PG.aC=((aK st).take j).flatMap PG.aC ++ PG.aC (aK st)[j] ++ ((aK st).drop (j + 1)).flatMap PG.aC:=by
       rw [← ej,← List.flatMap_append,List.take_append_drop]
     rw [ej] at xt
     rw [ea] at sl
     generalize (aK st)[j]=bb at *
     generalize ((aK st).take j).flatMap PG.aC=mid at *
     generalize ((aK st).drop (j + 1)).flatMap PG.aC=rest at *
     have sl2:(pre ++ st :: mid).length + (PG.aC bb).length≤1000:=by
       simp only [List.length_append,List.length_cons] at sl ⊢
       lia
     obtain ⟨ab,_,rfl,_⟩:=Rep.bR.mp rbj
     simp only [gh,List.set]
     walk_at "rd"
     refine ⟨.inl ⟨rfl,_,.of y6⟩,ab,bb,H0,rfl,s0.trans s6,rbj,by lia,by lia,fun d2 us2 H7 s7 hd2 y7 r7=>?_⟩
     have l2:us2.length=(PG.aC bb).length:=by rw [r7.length,List.length_map]
     refine ⟨d,d2,_,_,rfl,rfl,s7 _ _ y6,y7,by lia,?_⟩
     refine xt _ _ ⟨_,us' ++ us2,rfl,fun z o e=>by rw [az (ao e hd0)]; exact s7 _ _ (s6 z o e),by rw [az npd]; exact s7 _ _ h6,by simp only [List.length_append,List.length_cons] at *; lia,ae,?_⟩
     rw [show pre ++ st :: (mid ++ PG.aC bb)=(pre ++ st :: mid) ++ PG.aC bb by simp,List.map_append]
     exact r6.append r7
   · intro σ H6 hv
     obtain ⟨z3',us',rfl,s6,h6,lu6,y6,r6⟩:=(hPw _ _ _).mp hv
     rw [lbv,List.take_length] at lu6 r6
     exact done _ _ ⟨_,_,us',rfl,s6,lu6,y6,r6⟩
 · intro σ H3 hv
   obtain ⟨z2,z3,us,rfl,s3,lu,y3,r3⟩:=(hPv _ _ _).mp hv
   rw [lx,List.take_length] at lu r3
   refine (hU2 _ _).mpr ?_
   walk_at "rd"
   exact q d us H3 s3 hd0 y3 r3
theorem BF (T:Tx K mg t):∀ n,bW P w K mg base CX0 (n + 2) t.bU t.dF ["body"] (qJ K n)
 | 0=>by
   have no:∀ vs H Q E,¬ qJ K 0 vs H Q E:=fun vs H Q E ⟨_,_,_,_,_,_,h,_⟩=>by lia
   exact ⟨fun vs H Q E h=>absurd h (no vs H Q E),fun A outer s H args us vs Q E _ _ _ _ h=>absurd h (no vs H Q E)⟩
 | n + 1=>LX T (BF T n)
theorem N1:∀ w:PG.Wd,inV (V.str (wdS w)) [V.str (Str.ofString "ask"),V.str (Str.ofString "put")]=decide (w=.ask∨w=.put):=by
 intro w
 cases w <;> decide +kernel
theorem N2:∀ w:PG.Wd,(wdS w=Str.ofString "stop")↔w=.stop:=by
 intro w
 cases w <;> decide +kernel
theorem N3:∀ w:PG.Wd,(wdS w=Str.ofString "must")↔w=.cL:=by
 intro w
 cases w <;> decide +kernel
theorem PD {st:PG.Stm} (h:st.wd=.stop):∃ k,st=.stop k:=by
 cases st <;> first | exact ⟨_,rfl⟩ | cases h
theorem HS (vals:List Int) (j:Nat) (hj:j < vals.length) (x:Int):gQ (vals.map V.int) none (some (j:Int)) ++ [V.int x] ++ gQ (vals.map V.int) (some ((j:Int) + 1)) none=(vals.set j x).map V.int:=by
 unfold gQ
 rw [HT.kX,HT.lS,show ((j:Int) + 1)=((j + 1:Nat):Int) by lia,HT.lS,HT.kX]
 rw [List.length_map,Nat.min_eq_left (by lia),Nat.min_eq_left (by lia),List.drop_zero,Nat.sub_zero]
 rw [List.take_of_length_le (l:=List.drop (j + 1) (vals.map V.int)) (by rw [List.length_drop,List.length_map]; lia)]
 rw [List.set_eq_take_append_cons_drop,if_pos hj]
 simp
theorem LY {st:PG.Stm} (h:¬ (st.wd=.ask∨st.wd=.put)) (h1:st.wd≠.say) (h2:st.wd≠.stop):st.wd=.cL∨st.wd=.ifs∨st.wd=.whl:=by
 cases st <;> simp [PG.Stm.wd] at h h1 h2 ⊢
theorem Rl {st:PG.Stm} {sg:W} {l r:PM.Tr} (h:O8 st) (c:xk st=some (sg,l,r)):sg=[60]∨sg=[61]:=by
 have key:sg∈PG.sgs:=by
   cases st <;> simp only [xk,Option.some.injEq,Prod.mk.injEq,reduceCtorEq] at c <;> obtain ⟨rfl,rfl,rfl⟩:=c <;> exact h
 simpa [PG.sgs] using key
theorem PF {bs:List PG.Box} (nb:(bs.map (·.name)).Nodup) {b:W} (hb:b∈bs.map (·.name)):(bs.map fun b=>S b.name)[c9 bs b]?=some (S b)∧∀ m,m < c9 bs b→(bs.map fun b=>S b.name)[m]?≠some (S b):=by
 obtain ⟨hx,ex⟩:=lG hb
 refine ⟨by rw [List.getElem?_map,List.getElem?_eq_getElem hx]; show some (S bs[c9 bs b].name)=_; rw [ex],fun m hm e=>?_⟩
 have lm:m < bs.length:=by lia
 rw [List.getElem?_map,List.getElem?_eq_getElem lm] at e
 have e:=oF.mp (Option.some.inj e)
 have p1:=List.pairwise_iff_getElem.mp nb m (c9 bs b) (by simpa using lm) (by simpa using hx) hm
 rw [List.getElem_map,List.getElem_map] at p1
 exact p1 (e.trans ex.symm)
theorem xP (T:Tx K mg t):bW P w K mg base CX0 4 t.dN t.nI ["boxes", "statement", "ways", "values", "figure"] (F7 K):=by
 have fw:=zl (P:=P) (w:=w) (base:=base) T 3
 refine T.ib.F.okS nG (fun vs H Q E h=>?_) (fun cdv A outer s H vs Q E hr h=>?_)
 · obtain ⟨_,_,_,_,_,_,_,_,_,_,rfl,_⟩:=h
   rfl
 obtain ⟨B,ta,wa,va,fv,bs,st,ws,vals,fig,rfl,rB,rv,hwa,hva,nb,few,bp,lv,hfv,po,so,w0,w1,q⟩:=h
 have nd:=nG.nd
 have hu:=gv hr
 refine ⟨_,[some (.ref B),some (.ref ta),some (.ref wa),some (.ref va),some fv,none,none,none,none,none,none,none],(ag (G7 (i:=5) nd rfl (Or.inl rfl) (own:=["box"]) (ix:=[]) rfl (by rfl) (by rfl) (eQ (pv 0)) (fun _ _ _ _=>(br (i:=0) (by show List.Nodup (["box"]:List Str); decide +kernel) rfl (Or.inl rfl))) (fun _ _ _ _=>jl) (fun _ _ _ _=>(aD (jo (K:=K) rfl) (pv 0) aj ak)))
 (ag (aR (i:=6) nd rfl (Or.inl rfl) (yX rfl rfl T.mw rfl T.Bz (aa (pv 5) (aa (pv 3) ai ah) ah)))
 (ag (aR (i:=7) nd rfl (Or.inl rfl) (aD aP (pv 1) aj ak))
 (ag (bA (aL qA (pv 7) (aZ (cX (vs:=[.str "ask",.str "put"]) (by kernel_rfl))) rfl)
 (ag (aR (i:=8) nd rfl (Or.inl rfl) (pv 4))
 (ag (bA (aL b9 (pv 7) ba (aT _))
 (au (aR (i:=8) nd rfl (Or.inl rfl) (aJ fw (hr.mono (by omega)) rfl T.bB.m T.bB.F.kp T.bB.b .nil a8 (aa (aD aP (pv 1) aj ak) (aa (pv 6) ai ah) bg))))
 a9)
 (ag (aR (i:=9) nd rfl (Or.inl rfl) (fz PySem.F.plainAttrs_list PySem.F.slot_list_index PySem.F.type_list_index Jn (pv 5) (aa (aD aP (pv 1) aj ak) ai bg)))
 (ag (aR (i:=3) nd rfl (Or.inl rfl) (bc HA (bc HA (iL HC (pv 3) j9 (ka (pv 9))) (aZ (aa (bc cm (pv 8) (aD aP (aD bt (pv 0) (pv 9) qB) aj ak)) ai gY))) (iL HC (pv 3) (ka (bc dX (pv 9) aj)) j9)))
 (au (aV (aZ (aa (aZ (aa (aD aP (pv 2) aj ak) (aa (pv 3) ai ah) bg)) (aa dW ai aW) eT))))))))
 a9)
 (ag (bA (aL b9 (pv 7) ba (aT _))
 (au (aV (aZ (aa (aZ (aa (aD aP (pv 2) aj ak) (aa (pv 3) ai ah) bg)) (aa (aJ fw (hr.mono (by omega)) rfl T.bB.m T.bB.F.kp T.bB.b .nil a8 (aa (aD aP (pv 1) aj ak) (aa (pv 6) ai ah) bg)) ai bM) eT))))
 a9)
 (ag (bA (aL b9 (pv 7) ba (aT _))
 (au (aV (aZ (aa (aZ (aa (aD aP (pv 2) aj ak) (aa (pv 3) ai ah) bg)) (aa dW ai aW) eT))))
 a9)
 (ag (aR (i:=10) nd rfl (Or.inl rfl) (aJ fw (hr.mono (by omega)) rfl T.bB.m T.bB.F.kp T.bB.b .nil a8 (aa (aD aP (pv 1) aj ak) (aa (pv 6) ai ah) bg)))
 (ag (aR (i:=11) nd rfl (Or.inl rfl) (aJ fw (hr.mono (by omega)) rfl T.bB.m T.bB.F.kp T.bB.b .nil a8 (aa (aD aP (pv 1) aj ak) (aa (pv 6) ai ah) bg)))
 (ag (bA (PW.pt (pw_or (PW.pt (pw_and (aL oy (pv 10) (pv 11) (aT _)) (pw_and1 (aL b9 (aD aP (pv 1) aj ak) ba (aT _))))) (pw_or1 (PW.pt (pw_and (aL b9 (pv 10) (pv 11) (aT _)) (pw_and1 (aL b9 (aD aP (pv 1) aj ak) ba (aT _))))))))
 (au (aV (aZ (aa (aZ (aa (aD aP (pv 2) aj ak) (aa (pv 3) ai ah) bg)) (aa dW ai aW) eT))))
 a9)
 (ag (bA (aL b9 (pv 7) ba (aT _))
 (au (aV (aZ (cX (vs:=[.non,.non]) (by kernel_rfl)))))
 a9)
 (au (aV (aZ (aa (aZ (aa (aD aP (pv 2) aj ak) (aa (pv 3) ai ah) bg)) (aa dW ai aW) eT)))))))))))))),rfl,?_⟩
 obtain ⟨bxs,hB,lB,hb⟩:=o9 rB
 refine ax fun U1 hU1=>?_
 walk_at "rd"
 simp only [kb]
 walk_at "rd"
 refine ⟨⟨_,hB⟩,fun D hD=>?_⟩
 have lb':bxs.length≤16000000:=by lia
 refine lC (K:=K) (r:=[]) (fun i=>V.str (S (bs.getD i ⟨[],0,0⟩).name)) hB lb' hD (fun i x H2 hx s2 R hR=>?_) (fun H1 s1 h1=>(hU1 _ _).mpr (ax fun U2 hU2=>?_))
 · obtain ⟨a,rfl,ha⟩:=hb i x hx
   walk_at "rd"
   exact aI (s2.bC ha) (v:=.str (S (bs.getD i ⟨[],0,0⟩).name)) (av (j:=0) rfl) hR
 clear hU1
 rw [lB,jD (fun b:PG.Box=>V.str (S b.name)) ⟨[],0,0⟩ bs] at h1
 walk_at "rd"
 simp only [tDZ]
 walk_at "rd"
 have lv':(vals.map V.int).length=bs.length:=by rw [List.length_map]; exact lv
 refine ⟨D,va,bs.map fun b=>.inr (S b.name),vals.map V.int,rfl,?_,s1.bC hva,by rw [List.length_map,List.length_map]; exact lv,fun d hd=>(hU2 _ _).mpr (ax fun U3 hU3=>?_)⟩
 · rw [List.map_map]
   exact .of h1
 rw [sZ,iy _ [] (by rw [List.nil_append,oU _ _ lv']; exact names_nodup nb),List.nil_append]
 clear hU2
 have s2:=s1.trans (aw.new hd (HO.dK (cU bs (vals.map V.int))))
 have hd2:upd H1 d (HO.dK (cU bs (vals.map V.int))) d=some (.dK (cU bs (vals.map V.int))):=ae
 have hD2:=aw.new hd (HO.dK (cU bs (vals.map V.int))) _ _ h1
 generalize upd H1 d (HO.dK (cU bs (vals.map V.int)))=H2 at s2 hd2 hD2 ⊢
 have sel:∃ ds,SqT K H ta (.str (wdS st.wd) :: ds):=by
   cases st <;> (rw [dpS,Rep.bj] at rv; obtain ⟨ta,ys,ee,hs,rs⟩:=rv; cases ee; rw [aS.aM] at rs; obtain ⟨v0,t0,rfl,e0,rs⟩:=rs; rw [Rep.bF] at e0; subst e0; exact ⟨_,hs⟩)
 obtain ⟨ds,hs⟩:=sel
 walk_at "rd"
 refine aI (s2.bC hs) (v:=.str (wdS st.wd)) (av (j:=0) rfl) ((hU3 _ _).mpr (ax fun U4 hU4=>?_))
 clear hU3
 have e0:ws[0]?=some (ws.getD 0 0):=by rw [List.getD_eq_getElem?_getD,List.getElem?_eq_getElem w0]; rfl
 have q0:atI (ws.map V.int) ((0:Nat):Int)=some (V.int (ws.getD 0 0)):=av (by rw [List.getElem?_map,e0]; rfl)
 have Ti:vals.length≤10:=by lia
 have line:sizeLine=2 ^ 24:=rfl
 walk_at "rd"
 intro z hz
 have s3:=s2.trans (aw.new hz (HO.tup [V.str (Str.ofString "ask"),V.str (Str.ofString "put")]))
 have hd3:=aw.new hz (HO.tup [V.str (Str.ofString "ask"),V.str (Str.ofString "put")]) _ _ hd2
 have hD3:=aw.new hz (HO.tup [V.str (Str.ofString "ask"),V.str (Str.ofString "put")]) _ _ hD2
 have hz3:upd H2 z (HO.tup [V.str (Str.ofString "ask"),V.str (Str.ofString "put")]) z=some (HO.tup [V.str (Str.ofString "ask"),V.str (Str.ofString "put")]):=ae
 generalize upd H2 z (HO.tup [V.str (Str.ofString "ask"),V.str (Str.ofString "put")])=H3 at s3 hd3 hD3 hz3 ⊢
 refine ⟨z,_,rfl,.inr (.of hz3),rfl,rfl,_,rfl,cb (fun e=>?_) (fun e=>?_)⟩
 · clear hU4
   have e1:=e
   simp only [Bool.false_eq_true,if_false,N1,decide_eq_true_eq] at e1
   have Sz:∃ b x y ys,b∈bs.map (·.name)∧SqT K H ta (x :: y :: .str (S b) :: ys)∧((st.wd=.ask∧i6 bs st ws vals fig=(some (ws.getD 0 0,Az bs vals b (fig % fD bs b)),none))∨(st.wd=.put∧∃ tr u,ys=[u]∧Rep K H (dpT tr) u∧TrV bs vals tr∧i6 bs st ws vals fig=(some (ws.getD 0 0,Az bs vals b (wv bs vals tr % fD bs b)),none))):=by
     rcases e1 with e1 | e1
     · obtain ⟨k,b,rfl⟩:=LI e1
       obtain ⟨_,ee,hT⟩:=BA rv
       cases ee
       exact ⟨b,_,_,_,po,hT,.inl ⟨rfl,rfl⟩⟩
     · obtain ⟨k,b,tr,rfl⟩:=LJ e1
       obtain ⟨_,u,ee,hT,ru⟩:=BB rv
       cases ee
       exact ⟨b,_,_,_,po.1,hT,.inr ⟨rfl,tr,u,rfl,ru,po.2,rfl⟩⟩
   obtain ⟨b,c1,c2,c3,hb2,hT,N4⟩:=Sz
   obtain ⟨hx,ex⟩:=lG hb2
   obtain ⟨ni,nn⟩:=PF nb hb2
   have lj:c9 bs b < vals.length:=by lia
   obtain ⟨vb,hvb⟩:∃ vb,bxs[c9 bs b]?=some vb:=⟨_,List.getElem?_eq_getElem (by lia)⟩
   obtain ⟨ab,rfl,hab⟩:=hb _ _ hvb
   have sz:(bs.getD (c9 bs b) ⟨[],0,0⟩).size=fD bs b:=by
     unfold fD
     rw [List.getD_eq_getElem?_getD,List.getElem?_eq_getElem hx]
     rfl
   rw [sz] at hab
   refine cb (fun e2=>?_) (fun e2=>?_)
   · have ep:=(Nk _).mp e2
     rcases N4 with ⟨ea,_⟩ | ⟨_,tr,u,rfl,ru,tv,es⟩
     · rw [ep] at ea; cases ea
     rw [es] at q
     refine aI (s3.bC hT) (v:=u) (av (j:=3) rfl) ⟨u,d,tr,_,rfl,ru.mono s3,hd3,tv.1,by have:=tv.2; lia,by have:=tv.2; lia,fun H5 s5'=>?_⟩
     have s5:=s3.trans s5'
     refine ⟨.inl ⟨rfl,_,.of (s5' _ _ hD3)⟩,aI (s5.bC hT) (v:=.str (S b)) (av (j:=2) rfl) ⟨D,bs.map fun b=>S b.name,S b,c9 bs b,rfl,rfl,by rw [List.map_map]; exact s5' _ _ hD3,ni,nn,⟨_,rfl,va,_,rfl,s5.bC hva,fun p1 H6 s6' k1=>?_⟩⟩⟩
     have s6:=s5.trans s6'
     refine bK (s6.seq hB) (v:=.ref ab) (av hvb) (aI (s6.bC hab) (v:=.int (fD bs b)) (av (j:=1) rfl) ⟨_,_,rfl,rfl,qQ bp b,fun p2 hp2=>?_⟩)
     have s7:=s6.trans (aw.new hp2 (HO.tup [V.int (wv bs vals tr % fD bs b)]))
     refine ⟨p1,p2,_,_,rfl,rfl,(aw.new hp2 _).bC k1,.of ae,?_,fun p3 H8 s8' k3=>?_⟩
     · have:=eY (vals.map V.int) none (some (c9 bs b:Int))
       rw [List.length_map] at this
       simp only [List.length_cons,List.length_nil]
       lia
     have s8:=s7.trans s8'
     refine ⟨_,_,rfl,rfl,_,rfl,va,_,rfl,s8.bC hva,fun p4 H9 s9' k4=>⟨p3,p4,_,_,rfl,rfl,s9'.bC k3,k4,?_,fun p5 H10 PH k5=>?_⟩⟩
     · have h1:=eY (vals.map V.int) none (some (c9 bs b:Int))
       have h2:=eY (vals.map V.int) (some ((c9 bs b:Int) + 1)) none
       rw [List.length_map] at h1 h2
       simp only [List.length_append,List.length_cons,List.length_nil]
       lia
     have s10:=(s8.trans s9').trans PH
     rw [HS vals _ lj] at k5
     refine aI (s10.bC hwa) (v:=.int (ws.getD 0 0)) q0 fun p6 hp6 p7 hp7=>?_
     exact q p7 _ _ ((s10.trans (aw.new hp6 _)).trans (aw.new hp7 _)) (.of ae) ⟨p6,rfl,p5,(aw.new hp7 _).bC (.of ae),((aw.new hp6 _).trans (aw.new hp7 _)).bC k5⟩
   · rcases N4 with ⟨ea,es⟩ | ⟨ep,_⟩
     rotate_left
     · exact absurd ((Nk _).mpr ep) e2
     have efv:=hfv ea
     subst efv
     rw [es] at q
     have s5':=aw.refl H3
     have s5:=s3
     refine ⟨.inl ⟨rfl,_,.of (s5' _ _ hD3)⟩,aI (s5.bC hT) (v:=.str (S b)) (av (j:=2) rfl) ⟨D,bs.map fun b=>S b.name,S b,c9 bs b,rfl,rfl,by rw [List.map_map]; exact s5' _ _ hD3,ni,nn,⟨_,rfl,va,_,rfl,s5.bC hva,fun p1 H6 s6' k1=>?_⟩⟩⟩
     have s6:=s5.trans s6'
     refine bK (s6.seq hB) (v:=.ref ab) (av hvb) (aI (s6.bC hab) (v:=.int (fD bs b)) (av (j:=1) rfl) ⟨_,_,rfl,rfl,qQ bp b,fun p2 hp2=>?_⟩)
     have s7:=s6.trans (aw.new hp2 (HO.tup [V.int (fig % fD bs b)]))
     refine ⟨p1,p2,_,_,rfl,rfl,(aw.new hp2 _).bC k1,.of ae,?_,fun p3 H8 s8' k3=>?_⟩
     · have:=eY (vals.map V.int) none (some (c9 bs b:Int))
       rw [List.length_map] at this
       simp only [List.length_cons,List.length_nil]
       lia
     have s8:=s7.trans s8'
     refine ⟨_,_,rfl,rfl,_,rfl,va,_,rfl,s8.bC hva,fun p4 H9 s9' k4=>⟨p3,p4,_,_,rfl,rfl,s9'.bC k3,k4,?_,fun p5 H10 PH k5=>?_⟩⟩
     · have h1:=eY (vals.map V.int) none (some (c9 bs b:Int))
       have h2:=eY (vals.map V.int) (some ((c9 bs b:Int) + 1)) none
       rw [List.length_map] at h1 h2
       simp only [List.length_append,List.length_cons,List.length_nil]
       lia
     have s10:=(s8.trans s9').trans PH
     rw [HS vals _ lj] at k5
     refine aI (s10.bC hwa) (v:=.int (ws.getD 0 0)) q0 fun p6 hp6 p7 hp7=>?_
     exact q p7 _ _ ((s10.trans (aw.new hp6 _)).trans (aw.new hp7 _)) (.of ae) ⟨p6,rfl,p5,(aw.new hp7 _).bC (.of ae),((aw.new hp6 _).trans (aw.new hp7 _)).bC k5⟩
 have e1:=e
 simp only [Bool.false_eq_true,if_false,N1,decide_eq_true_eq] at e1
 refine (hU4 _ _).mpr (ax fun U5 hU5=>?_)
 clear hU4 e
 walk_at "rd"
 refine cb (fun e2=>?_) (fun e2=>?_)
 · obtain ⟨k,tr,rfl⟩:=LK ((Nl _).mp e2)
   obtain ⟨_,u,ee,hT,ru⟩:=BC rv
   cases ee
   refine aI (s3.bC hwa) (v:=.int (ws.getD 0 0)) q0 fun p6 hp6=>?_
   have s4:=s3.trans (aw.new hp6 (HO.tup [V.int (ws.getD 0 0),V.ref va]))
   refine aI (s4.bC hT) (v:=u) (av (j:=2) rfl) ⟨u,d,tr,_,rfl,ru.mono s4,aw.new hp6 _ _ _ hd3,po.1,by have:=po.2; lia,by have:=po.2; lia,fun H5 s5 p7 hp7=>?_⟩
   exact q p7 _ _ ((s4.trans s5).trans (aw.new hp7 _)) (.of ae) ⟨p6,rfl,va,(s5.trans (aw.new hp7 _)).bC (.of ae),((s4.trans s5).trans (aw.new hp7 _)).bC hva⟩
 refine (hU5 _ _).mpr (ax fun U6 hU6=>?_)
 clear hU5
 walk_at "rd"
 refine cb (fun e3=>?_) (fun e3=>?_)
 · obtain ⟨k,rfl⟩:=PD ((N2 _).mp e3)
   refine aI (s3.bC hwa) (v:=.int (ws.getD 0 0)) q0 fun p6 hp6 p7 hp7=>?_
   have s4:=(s3.trans (aw.new hp6 (HO.tup [V.int (ws.getD 0 0),V.ref va]))).trans (aw.new hp7 (HO.tup [V.ref p6,V.non]))
   exact q p7 _ _ s4 (.of ae) ⟨p6,rfl,va,(aw.new hp7 _).bC (.of ae),s4.bC hva⟩
 have ec:=LY e1 (fun z=>e2 ((Nl _).mpr z)) (fun z=>e3 ((N2 _).mpr z))
 obtain ⟨sg,l,r,cp,tl,tr,es⟩:=cond_of ec po
 have hsg:=Rl so cp
 rw [es] at q
 unfold jH at q
 rw [cp] at q
 simp only at q
 obtain ⟨_,w0',vl,vr,ys,ee,hT,rl,rr⟩:=yY rv cp
 cases ee
 refine (hU6 _ _).mpr (ax fun U7 hU7=>?_)
 clear hU6
 walk_at "rd"
 refine aI (s3.bC hT) (v:=vl) (av (j:=3) rfl) ⟨vl,d,l,_,rfl,rl.mono s3,hd3,tl.1,by have:=tl.2; lia,by have:=tl.2; lia,fun H4 s4'=>(hU7 _ _).mpr (ax fun U8 hU8=>?_)⟩
 clear hU7
 have s4:=s3.trans s4'
 walk_at "rd"
 refine aI (s4.bC hT) (v:=vr) (av (j:=4) rfl) ⟨vr,d,r,_,rfl,rr.mono s4,s4' _ _ hd3,tr.1,by have:=tr.2; lia,by have:=tr.2; lia,fun H5 s5'=>(hU8 _ _).mpr (ax fun U9 hU9=>?_)⟩
 clear hU8
 have s5:=s4.trans s5'
 have ea:(V.str (S sg)=V.str (Str.ofString "<"))↔sg=[60]:=by rw [show (Str.ofString "<":Str)=S [60] from rfl,V.str.injEq,oF]
 have eb:(V.str (S sg)=V.str (Str.ofString "="))↔sg=[61]:=by rw [show (Str.ofString "=":Str)=S [61] from rfl,V.str.injEq,oF]
 walk_at "rd"
 have yes:mf sg (wv bs vals l) (wv bs vals r)=true→FA K (.ref wa) (.int 0) H5 (fun x H1=>∀ p,H1 p=none→∀ p_1,upd H1 p (.tup [x,.ref va]) p_1=none→Q (.ref p_1) (upd (upd H1 p (.tup [x,.ref va])) p_1 (.tup [.ref p,.non]))):=fun c=>by
   rw [if_pos c] at q
   refine aI (s5.bC hwa) (v:=.int (ws.getD 0 0)) q0 fun p6 hp6 p7 hp7=>?_
   have s6:=(s5.trans (aw.new hp6 (HO.tup [V.int (ws.getD 0 0),V.ref va]))).trans (aw.new hp7 (HO.tup [V.ref p6,V.non]))
   exact q p7 _ _ s6 (.of ae) ⟨p6,rfl,va,(aw.new hp7 _).bC (.of ae),s6.bC hva⟩
 have no:mf sg (wv bs vals l) (wv bs vals r)≠true→U9 [some (.ref B),some (.ref ta),some (.ref wa),some (.ref va),some fv,some (.ref D),some (.ref d),some (.str (wdS st.wd)),none,none,some (.int (wv bs vals l)),some (.int (wv bs vals r))] H5:=fun c=>by
   rw [if_neg c] at q
   refine (hU9 _ _).mpr ?_
   clear hU9 yes
   walk_at "rd"
   refine cb (fun e4=>?_) (fun e4=>?_)
   · rw [if_pos ((N3 _).mp e4)] at q
     intro p6 hp6
     exact q p6 _ _ (s5.trans (aw.new hp6 _)) (.of ae) rfl
   · have nm:st.wd≠.cL:=fun z=>e4 ((N3 _).mpr z)
     rw [if_neg nm] at q
     have w1:=w1 (by rcases ec with e | e | e; exact absurd e nm; exact .inl e; exact .inr e)
     have e1:ws[1]?=some (ws.getD 1 0):=by rw [List.getD_eq_getElem?_getD,List.getElem?_eq_getElem w1]; rfl
     have q1:atI (ws.map V.int) ((1:Nat):Int)=some (V.int (ws.getD 1 0)):=av (by rw [List.getElem?_map,e1]; rfl)
     refine aI (s5.bC hwa) (v:=.int (ws.getD 1 0)) q1 fun p6 hp6 p7 hp7=>?_
     have s6:=(s5.trans (aw.new hp6 (HO.tup [V.int (ws.getD 1 0),V.ref va]))).trans (aw.new hp7 (HO.tup [V.ref p6,V.non]))
     exact q p7 _ _ s6 (.of ae) ⟨p6,rfl,va,(aw.new hp7 _).bC (.of ae),s6.bC hva⟩
 have c60:sg=[60]→mf sg (wv bs vals l) (wv bs vals r)=decide (wv bs vals l < wv bs vals r):=fun z=>by unfold mf; rw [if_pos z]
 have c61:sg=[61]→mf sg (wv bs vals l) (wv bs vals r)=decide (wv bs vals l=wv bs vals r):=fun z=>by unfold mf; rw [if_neg (by rw [z]; decide)]
 have un:∀ e:PM.Tr,cu (wkv (cU bs (List.map V.int vals))) e=wv bs vals e:=fun _=>rfl
 rw [un,un] at *
 refine cb (fun c1=>aI (s5.bC hT) (v:=.str (S sg)) (av (j:=2) rfl) ⟨rfl,cb (fun c2=>?_) (fun c2=>?_)⟩) (fun c1=>?_)
 · refine cb (fun _=>yes ?_) (fun z=>absurd trivial z)
   rw [c60 (ea.mp c2)]
   exact decide_eq_true c1
 · have c61:=c61 (hsg.resolve_left fun z=>c2 (ea.mpr z))
   refine cb (fun c3=>by lia) (fun c3=>cb (fun z=>by cases z) (fun _=>no ?_))
   rw [c61]
   simpa using c3
 · refine cb (fun z=>by cases z) (fun _=>cb (fun c3=>aI (s5.bC hT) (v:=.str (S sg)) (av (j:=2) rfl) ⟨rfl,cb (fun c4=>yes ?_) (fun c4=>no ?_)⟩) (fun c3=>cb (fun z=>by cases z) (fun _=>no ?_)))
   · rw [c61 (eb.mp c4)]
     exact decide_eq_true c3
   · rw [c60 (hsg.resolve_right fun z=>c4 (eb.mpr z))]
     simpa using c1
   · rcases hsg with z | z
     · rw [c60 z]
       simpa using c1
     · rw [c61 z]
       simpa using c3
theorem Ju (T:Tx K mg t):bW P w K mg base CX0 8 t.eL t.o7 ["program", "rows", "figures", "bound"] (LA K):=by
 have EO:=Nr (P:=P) (w:=w) (base:=base) T
 have pf:=HQ (P:=P) (w:=w) (base:=base) T
 have qR:=N0 (P:=P) (w:=w) (base:=base) T
 have ie:=EN (P:=P) (w:=w) (base:=base) T 4
 have zp:=xP (P:=P) (w:=w) (base:=base) T
 refine T.iK.F.okS oY (fun vs H Q E h=>?_) (fun cdv A outer s H vs Q E hr h=>?_)
 · obtain ⟨_,_,_,_,_,_,_,rfl,_⟩:=h
   rfl
 obtain ⟨pa,R,fl,pr,rows,aY,bound,rfl,dr,rp,rr,lr,tx,hf,LL,hb,q⟩:=h
 have nd:=oY.nd
 have hu:=gv hr
 refine ⟨_,[some (.ref pa),some (.ref R),some (.ref fl),some (.int bound),none,none,none,none,none,none,none,none,none,none,none],(ag (aR (i:=4) nd rfl (Or.inl rfl) yw)
 (ag (gT PassesOwn.never rfl (eQ (aJ EO (hr.mono (by omega)) rfl T.ke.m T.ke.F.kp T.ke.b .nil a8 (aa (pv 1) ai ah))) (Fj rfl (cC (br (i:=5) nd rfl (Or.inl rfl)) (cC (br (i:=6) nd rfl (Or.inl rfl)) (cC (br (i:=7) nd rfl (Or.inl rfl)) lP))))
 (au (lU hu (pv 4) (pv 5) (pv 7) rfl)))
 (ag (aR (i:=8) nd rfl (Or.inl rfl) (aJ ie (hr.mono (by omega)) rfl T.cJ.m T.cJ.F.kp T.cJ.b .nil a8 (aa (aD aP (pv 0) aj ak) ai bg)))
 (ag (aR (i:=9) nd rfl (Or.inl rfl) (aZ (aa (aJ qR (hr.mono (by omega)) rfl T.fH.m T.fH.F.kp T.fH.b .nil a8 (aa (pv 1) (aa (aJ pf (hr.mono (by omega)) rfl T.fS.m T.fS.F.kp T.fS.b .nil a8 (aa (pv 1) ai ah)) (aa aj ai aW) bM) ah)) (aa (fU ky rfl T.ki PyProof.Rows.Boot.«tuple» (aa (jm (own:=["box"]) (ix:=[]) rfl (by rfl) (by rfl) (eQ (aD aP (pv 0) aj ak)) (fun _ _ _ _=>(br (i:=0) (by show List.Nodup (["box"]:List Str); decide +kernel) rfl (Or.inl rfl))) (fun _ _ _ _=>jl) (fun _ _ _ _=>(aD (jo (K:=K) rfl) (pv 0) aj ak))) ai lW)) ai bM) bM)))
 (ag (aR (i:=10) nd rfl (Or.inl rfl) (bH ai))
 (ag (aR (i:=11) nd rfl (Or.inl rfl) (bH ai))
 (ag (aR (i:=12) nd rfl (Or.inl rfl) (fU ug rfl T.tj PyProof.Rows.Boot.«list» (aa (pv 2) ai ah)))
 (ag (tX PassesOwn.never (aL Qm (aD aP (pv 9) aj ak) aj (aT _))
 (ag (aR (i:=5) nd rfl (Or.inl rfl) (aD aP (pv 9) aj ak))
 (ag (bA (aL b9 (bO bq rfl T.fE PyProof.Rows.Boot.«len» (aa (pv 10) ai ah)) (pv 3) (aT _))
 (au (aV (aZ (aa (pv 10) (aa (pv 11) (aa (aZ (aa ba ai aW)) ai eT) ah) ah))))
 a9)
 (ag (b8 (fz PySem.F.plainAttrs_list PySem.F.slot_list_append PySem.F.type_list_append bX (pv 10) (aa (pv 5) ai ah)))
 (ag (aR (i:=13) nd rfl (Or.inl rfl) dW)
 (ag (bA (aL b9 (aD aP (cv hu (pv 8) (pv 5) (fun _ _=>rfl)) aj ak) ba (aT _))
 (ag (bA (aL (Bi (gv hr)) (pv 12) (bH ai) (aT _))
 (au (aV (aZ (aa (pv 10) (aa (pv 11) (aa (aZ (aa ba ai aW)) ai eT) ah) ah))))
 a9)
 (au (aR (i:=13) nd rfl (Or.inl rfl) (fz PySem.F.plainAttrs_list PySem.F.slot_list_pop PySem.F.type_list_pop Ke (pv 12) (aa aj ai aW)))))
 a9)
 (ag (ou (aJ zp (hr.mono (by omega)) rfl T.ib.m T.ib.F.kp T.ib.b .nil a8 (aa (aD aP (pv 0) aj ak) (aa (cv hu (pv 8) (pv 5) (fun _ _=>rfl)) (aa (cv hu (pv 4) (pv 5) (fun _ _=>rfl)) (aa (aD aP (pv 9) aj ak) (aa (pv 13) ai ah) bg) bg) bg) bg)) (Fj rfl (cC (br (i:=9) nd rfl (Or.inl rfl)) (cC (br (i:=14) nd rfl (Or.inl rfl)) lP))))
 (ag (bA (aL BX (pv 9) dW (aT _))
 (au (aV (aZ (aa (pv 10) (aa (pv 11) (aa (aZ (aa ba (aa (pv 5) ai ah) aW)) ai eT) ah) ah))))
 a9)
 (au (aR (i:=11) nd rfl (Or.inl rfl) (bc FF (pv 11) (bc OG (bH (aa (pv 14) ai ah)) (fU DV rfl T.EB PyProof.Rows.Boot.«int» (aa (t7 BY (pv 14) dW (aT _)) ai OQ))))))))))))))
 (au (aV (aZ (aa (pv 10) (aa (pv 11) (aa (aZ (aa ba ai aW)) ai eT) ah) ah)))))))))))),rfl,?_⟩
 have line:sizeLine=2 ^ 24:=rfl
 unfold kA at rp
 rw [Rep.bj] at rp
 obtain ⟨_,pxs,e,hpx,prs⟩:=rp
 cases e
 rw [aS.aM] at prs
 obtain ⟨v1,t1,rfl,pr1,prs⟩:=prs
 rw [aS.aM] at prs
 obtain ⟨v2,t2,rfl,pr2,prs⟩:=prs
 rw [aS.bw] at prs
 subst prs
 obtain ⟨bb,_,rfl,_⟩:=Rep.bR.mp pr2
 obtain ⟨B,_,rfl,_⟩:=Rep.bR.mp pr1
 have pw:=dr.ok.pw
 have few:=dr.few
 have lus:(PG.aU pr.body 0).length=(PG.aC pr.body).length:=by
   have h1:=congrArg List.length (PG.eU pr.body 0)
   have h2:=oT pr.body
   rw [List.length_map] at h1
   lia
 have sl:=oT pr.body
 refine ax fun U1 hU1=>?_
 walk_at "rd"
 intro wy hwy
 refine (hU1 _ _).mpr (ax fun U2 hU2=>?_)
 clear hU1
 have s1:=aw.new hwy (.dK [])
 have wy1:(upd H wy (.dK [])) wy=some (.dK []):=ae
 generalize upd H wy (.dK [])=H1 at *
 refine k8 fun U hU=>?_
 walk_at "rd"
 refine ⟨R,rows,pr.body,rfl,rr.mono s1,lr,tx,fun l2 us2 H2 s2 hl2 y2 r2=>⟨l2,rfl,⟨us2,.of y2⟩,hU _ _ ?_⟩⟩
 clear hU
 have wy2:=s2 _ _ wy1
 have nl2:l2≠wy:=fun z=>by rw [z,wy1] at hl2; cases hl2
 have lu2:us2.length=(PG.aU pr.body 0).length:=by rw [r2.length,List.length_map]
 obtain ⟨Pv,hPv⟩:∃ Pv:Nat→St→Hp→Prop,∀ i σ Hx,Pv i σ Hx↔∃ (z5 z6 z7:Option V) (kvs:List (Key × V)),σ=[some (.ref pa),some (.ref R),some (.ref fl),some (.int bound),some (.ref wy),z5,z6,z7,none,none,none,none,none,none,none]∧bD wy H2 Hx∧Hx wy=some (.dK kvs)∧kvs.length≤i∧∀ j (hj:j < (PG.aU pr.body 0).length),j < i→∃ y,dR kvs (.inl (PG.aU pr.body 0)[j].1)=some (.ref y)∧SqT K H2 y ((PG.aU pr.body 0)[j].2.2.map V.int):=⟨_,fun _ _ _=>Iff.rfl⟩
 refine kW (K:=K) (a:=l2) (xs:=us2) Pv ((hPv _ _ _).mpr ⟨_,_,_,[],rfl,.refl _ _,wy2,Nat.le_refl _,fun j _ z=>absurd z (Nat.not_lt_zero _)⟩) (fun i σ Hx _ hv=>?_) ?_ ?_
 · obtain ⟨_,_,_,_,_,ux,_⟩:=(hPv _ _ _).mp hv
   exact .of (ux _ _ nl2 y2)
 · intro i y σ Hx hi hv
   obtain ⟨z5,z6,z7,kvs,rfl,ux,wyx,lk,get⟩:=(hPv _ _ _).mp hv
   clear hv
   have li:i < (PG.aU pr.body 0).length:=by have:=(List.getElem?_eq_some_iff.mp hi).1; lia
   obtain ⟨ya,yp,rfl,hx,hp⟩:=Eo r2 hi li
   refine ⟨ya,_,rfl,hx.dk wy2 ux,rfl,_,_,rfl,_,_,rfl,_,_,rfl,rfl,?_⟩
   simp only [List.set]
   walk_at "rd"
   refine ⟨wy,_,rfl,.inl ⟨kvs,.inl (PG.aU pr.body 0)[i].1,wyx,rfl,by lia,rfl⟩,?_⟩
   refine (hPv _ _ _).mpr ⟨_,_,_,_,rfl,ux.put _,ae,Nat.le_trans (uy _ _ _) (by lia),fun j hj lt=>?_⟩
   rw [ui]
   by_cases e:j=i
   · subst e
     rw [if_pos rfl]
     exact ⟨yp,rfl,hp⟩
   · obtain ⟨_,e1,_⟩:=lF pr.body j (by lia)
     obtain ⟨_,e2,_⟩:=lF pr.body i (by lia)
     have:=List.pairwise_iff_getElem.mp pw j i (by lia) (by lia) (by lia)
     rw [if_neg (fun z=>by have z:=Sum.inl.inj z; lia)]
     exact get j hj (by lia)
 intro σ H3 hv
 obtain ⟨z5,z6,z7,kvs,rfl,u3,wy3,_,get⟩:=(hPv _ _ _).mp hv
 clear hv
 rw [lu2] at get
 have s3:aw H H3:=fun z o e=>u3 z o (ao e hwy) (s2 _ _ (s1 _ _ e))
 refine (hU2 _ _).mpr (ax fun U3 hU3=>?_)
 clear hU2
 walk_at "rd"
 refine aI (s3.bC hpx) (v:=.ref bb) (av (j:=1) rfl) ⟨bb,pr.body,H,rfl,s3,pr2,by have:=dr.dep; lia,by lia,pw,fun d8 us8 H4 s4 hd8 l8 y8 r8=>(hU3 _ _).mpr (ax fun U4 hU4=>?_)⟩
 clear hU3
 have s04:=s3.trans s4
 walk_at "rd"
 simp only [kb]
 walk_at "rd"
 refine ⟨R,rows,pr.body,rfl,rr.mono s04,lr,tx,fun d5 H5 mt5=>?_⟩
 have s5:aw H4 H5:=by obtain ⟨_,_,mi⟩:=mt5; exact mi.s
 refine ⟨R,d5,rows,pr.body,H4,0,rfl,rr.mono (s04.trans s5),lr,tx,mt5,?_⟩
 have s05:=s04.trans s5
 obtain ⟨bxs,hB,lB,hbx⟩:=o9 pr1
 have SA:=dr.ok.few
 refine aI (s05.bC hpx) (v:=.ref B) (av (j:=0) rfl) ⟨B,rfl,⟨_,s05.seq hB⟩,fun D6 hD6=>?_⟩
 refine lC (K:=K) (r:=[]) (fun i=>V.int (pr.aG.getD i ⟨[],0,0⟩).first) (s05.seq hB) (by lia) hD6 (fun i x H2 hx s2 R hR=>?_) (fun H6 s6 h6=>?_)
 · obtain ⟨a,rfl,ha⟩:=hbx i x hx
   walk_at "rd"
   exact aI ((s05.trans s2).bC ha) (v:=.int (pr.aG.getD i ⟨[],0,0⟩).first) (av (j:=2) rfl) hR
 rw [lB,jD (fun b:PG.Box=>V.int b.first) ⟨[],0,0⟩ pr.aG] at h6
 refine ⟨D6,_,rfl,.inl ⟨.of h6,fun t6 ht6 p6 hp6=>(hU4 _ _).mpr ?_⟩⟩
 clear hU4
 have e6:(pr.aG.map fun b=>V.int b.first)=(pr.aG.map (·.first)).map V.int:=by rw [List.map_map]; rfl
 rw [e6] at hp6 ⊢
 rw [PG.K4 tx]
 have s7a:=aw.new ht6 (.tup ((pr.aG.map (·.first)).map V.int))
 have s7b:=aw.new hp6 (.tup [V.int (PG.aQ pr.body 0),V.ref t6])
 have s47:=s5.trans (s6.trans (s7a.trans s7b))
 have st7:hC K (upd (upd H6 t6 (.tup ((pr.aG.map (·.first)).map V.int))) p6 (.tup [V.int (PG.aQ pr.body 0),V.ref t6])) p6 (PG.aQ pr.body 0) (pr.aG.map (·.first)):=⟨t6,.of ae,s7b.bC (.of ae)⟩
 clear s7a s7b
 generalize upd (upd H6 t6 (.tup ((pr.aG.map (·.first)).map V.int))) p6 (.tup [V.int (PG.aQ pr.body 0),V.ref t6])=HB at *
 have s0B:=s04.trans s47
 have s3B:=s4.trans s47
 have wyB:=s3B _ _ wy3
 have y8B:=s47 _ _ y8
 have SD:∀ i (hi:i < (PG.aU pr.body 0).length),∃ y,dR kvs (.inl (PG.aU pr.body 0)[i].1)=some (.ref y)∧SqT K HB y ((PG.aU pr.body 0)[i].2.2.map V.int):=fun i hi=>by
   obtain ⟨y,e,k⟩:=get i hi hi
   exact ⟨y,e,s3B.bC (k.dk wy2 u3)⟩
 have tst:=y0.start dr aY bound
 generalize hJ pr bound (PG.aQ pr.body 0) (pr.aG.map (·.first)) aY=tot at *
 refine ax fun U5 hU5=>?_
 walk_at "rd"
 intro bl hbl
 refine (hU5 _ _).mpr (ax fun U6 hU6=>?_)
 clear hU5
 walk_at "rd"
 intro sl0 PJ
 refine (hU6 _ _).mpr (ax fun U7 hU7=>?_)
 clear hU6
 walk_at "rd"
 have sA:=aw.new hbl (.lst [])
 have sB:=aw.new PJ (.lst [])
 refine ⟨fl,_,rfl,.inl ((s0B.trans (sA.trans sB)).seq hf),fun ll hll=>(hU7 _ _).mpr (ax fun U8 hU8=>?_)⟩
 clear hU7
 have sC:=aw.new hll (.lst (aY.map V.int))
 have ybl:(upd (upd (upd HB bl (.lst [])) sl0 (.lst [])) ll (.lst (aY.map V.int))) bl=some (.lst []):=sC _ _ (sB _ _ ae)
 have ysl:(upd (upd (upd HB bl (.lst [])) sl0 (.lst [])) ll (.lst (aY.map V.int))) sl0=some (.lst []):=sC _ _ ae
 have yll:(upd (upd (upd HB bl (.lst [])) sl0 (.lst [])) ll (.lst (aY.map V.int))) ll=some (.lst (aY.map V.int)):=ae
 have nbs:bl≠sl0:=ao ae PJ
 have nbl:bl≠ll:=ao (sB _ _ ae) hll
 have nsl:sl0≠ll:=ao ae hll
 have SE:HB sl0=none:=dY sA PJ
 have SF:HB ll=none:=dY (sA.trans sB) hll
 have sD:=sA.trans (sB.trans sC)
 have stD:=st7.mono sD
 clear sA sB sC
 generalize upd (upd (upd HB bl (.lst [])) sl0 (.lst [])) ll (.lst (aY.map V.int))=HD at *
 refine O9 fun Bd hBd=>?_
 walk_at "rd"
 obtain ⟨Iv,hIv⟩:∃ Iv:Nat→St→Hp→Prop,∀ m σ Hx,Iv m σ Hx↔∃ (z5 z6 z7 z13 z14:Option V) (n:Nat) (row:Int) (vals r s:List Int) (sa sl:Addr),σ=[some (.ref pa),some (.ref R),some (.ref fl),some (.int bound),some (.ref wy),z5,z6,z7,some (.ref d8),some (.ref sa),some (.ref bl),some (.ref sl),some (.ref ll),z13,z14]∧aw HB Hx∧hC K Hx sa row vals∧wt pr row vals∧Hx bl=some (.lst (r.map V.int))∧Hx sl=some (.lst (s.map V.int))∧HB sl=none∧bl≠sl∧sl≠ll∧Hx ll=some (.lst ((aY.drop n).map V.int))∧n≤aY.length∧s.length≤r.length∧r.length + m=bound∧y0 pr aY tot m n row vals r s (PG.endAt row):=⟨_,fun _ _ _=>Iff.rfl⟩
 refine ⟨Iv,⟨bound,(hIv _ _ _).mpr ⟨_,_,_,_,_,0,_,_,[],[],p6,sl0,rfl,sD,stD,dr.first,ybl,ysl,SE,nbs,nsl,yll,Nat.zero_le _,Nat.le_refl _,by simp,tst⟩⟩,?_⟩
 intro m σ Hx hv
 obtain ⟨z5',z6',z7',z13,z14,n,row,vals,r,s',sa,sl',rfl,sx,sta,sok,yb,ys,hsB,Rm,SG,yl,hn,ls,lm,ti⟩:=(hIv _ _ _).mp hv
 clear hv
 obtain ⟨va,st1,st2⟩:=id sta
 have fin:∀ (e:PG.eV) (H9:Hp) (r9 s9:List Int) (ea:Addr),tot=⟨r9,s9,e⟩→aw HB H9→H9 bl=some (.lst (r9.map V.int))→H9 sl'=some (.lst (s9.map V.int))→H9 ea=some (.tup (Jo e))→∀ qa,H9 qa=none→Q (.ref qa) (upd H9 qa (.tup [V.ref bl,V.ref sl',V.ref ea])):=by
   intro e H9 r9 s9 ea et s9' yb9 ys9 ye qa hqa
   rw [et] at q
   have s10:=aw.new hqa (.tup [V.ref bl,V.ref sl',V.ref ea])
   exact q qa bl sl' ea _ (s0B.trans (s9'.trans s10)) (.of ae) (dY s0B hbl) (dY s0B hsB) Rm (s10 _ _ yb9) (s10 _ _ ys9) (.of (s10 _ _ ye))
 walk_at "rd"
 refine aI st1 (v:=.int row) (av (j:=0) rfl) ⟨rfl,cb (fun h0=>?_) (fun h0=>?_)⟩
 rotate_left
 · have h0:row≠0:=fun z=>h0 (by rw [z])
   unfold PG.endAt at ti
   rw [if_neg h0] at ti
   obtain ⟨i,hi,rfl⟩:=sok.row.resolve_left h0
   obtain ⟨hfl,ek,ew⟩:=lF pr.body i hi
   obtain ⟨w0,w1⟩:=PG.iw pr.body 0 _ (List.getElem_mem hfl)
   rw [ew] at w1
   obtain ⟨po,so⟩:=Lu sok.len dr.ok.nb sok.small (PG.l9 pr.body _ dr.own (List.getElem_mem hi))
   have bp:∀ b∈pr.aG,0 < b.size:=fun b hb=>by have:=dr.size b hb; lia
   have ea:qV pr.body (PG.aC pr.body)[i].row=decide ((PG.aC pr.body)[i].wd=.ask):=by unfold qV; rw [yg dr.ok.pw i hi]
   have es:∀ f,i9 pr (PG.aC pr.body)[i].row vals f=i6 pr.aG (PG.aC pr.body)[i] (PG.aU pr.body 0)[i].2.2 vals f:=fun f=>by unfold i9; rw [yg dr.ok.pw i hi,HE dr.ok.pw i hi hfl]
   obtain ⟨wy',gw,kw⟩:=SD i hfl
   rw [ek] at gw
   have g8:dR (cY (PG.aC pr.body) us8) (.inl (PG.aC pr.body)[i].row)=us8[i]?:=by
     have l8i:i < us8.length:=by lia
     rw [oR _ _ l8 pw i hi us8[i] (List.getElem?_eq_getElem l8i),List.getElem?_eq_getElem l8i]
   obtain ⟨w8,hw8,rw8⟩:=r8.get (i:=i) (d:=dpS (PG.aC pr.body)[i]) (by rw [List.getElem?_map,List.getElem?_eq_getElem hi]; rfl)
   rw [hw8] at g8
   obtain ⟨ta,tys,rfl,hta⟩:=gO _ rw8
   refine ⟨fun σ' H'=>∃ m',m' < m∧Iv m' σ' H',fun σ' H' h=>h,?_⟩
   refine hBd _ _ _ (ax fun V1 hV1=>?_)
   walk_at "rd"
   refine aI st1 (v:=.int (PG.aC pr.body)[i].row) (av (j:=0) rfl) ((hV1 _ _).mpr (ax fun V2 hV2=>?_))
   clear hV1
   walk_at "rd"
   refine ⟨bl,_,rfl,.inl (.of yb),?_⟩
   rw [List.length_map]
   refine cb (fun e=>fun ea hea=>?_) (fun e=>(hV2 _ _).mpr (ax fun V3 hV3=>?_))
   · have em:m=0:=by lia
     subst em
     obtain ⟨_,_,ti⟩:=ti
     rw [show hJ pr 0 (PG.aC pr.body)[i].row vals (aY.drop n)=⟨[],[],.on⟩ from PG.K6 _ _ h0 _ _] at ti
     simp only [List.append_nil] at ti
     have s9:=aw.new hea (.tup [V.str (Str.ofString "on")])
     exact fin .on _ r s' ea ti (sx.trans s9) (s9 _ _ yb) (s9 _ _ ys) ae
   clear hV2
   obtain ⟨k,rfl⟩:∃ k,m=k + 1:=⟨m - 1,by lia⟩
   walk_at "rd"
   refine ⟨.inl ⟨rfl,_,.of yb⟩,bl,_,_,rfl,rfl,yb,by rw [List.length_map]; lia,(hV3 _ _).mpr (ax fun V4 hV4=>?_)⟩
   clear hV3
   have er:r.map V.int ++ [V.int (PG.aC pr.body)[i].row]=(r ++ [(PG.aC pr.body)[i].row]).map V.int:=by rw [List.map_append]; rfl
   rw [er]
   have u7:bD bl Hx (upd Hx bl (.lst ((r ++ [(PG.aC pr.body)[i].row]).map V.int))):=(bD.refl bl Hx).put _
   have s7:aw HB (upd Hx bl (.lst ((r ++ [(PG.aC pr.body)[i].row]).map V.int))):=fun z o e=>by rw [az (ao e hbl)]; exact sx z o e
   have Rn:=sta.Cm yb u7
   have yb7:(upd Hx bl (.lst ((r ++ [(PG.aC pr.body)[i].row]).map V.int))) bl=some (.lst ((r ++ [(PG.aC pr.body)[i].row]).map V.int)):=ae
   have ys7:=u7 _ _ Rm.symm ys
   have yl7:=u7 _ _ nbl.symm yl
   clear u7
   generalize upd Hx bl (.lst ((r ++ [(PG.aC pr.body)[i].row]).map V.int))=H7 at *
   walk_at "rd"
   refine (hV4 _ _).mpr (ax fun V5 hV5=>?_)
   clear hV4
   have rest:∀ (H9:Hp) (n':Nat) (fv:V) (f:Int),aw HB H9→hC K H9 sa (PG.aC pr.body)[i].row vals→H9 bl=some (.lst ((r ++ [(PG.aC pr.body)[i].row]).map V.int))→H9 sl'=some (.lst (s'.map V.int))→H9 ll=some (.lst ((aY.drop n').map V.int))→n'≤aY.length→((PG.aC pr.body)[i].wd=.ask→fv=.int f)→PG.take1 (qV pr.body (PG.aC pr.body)[i].row) (aY.drop n)=some (f,aY.drop n')→
       V5 [some (.ref pa),some (.ref R),some (.ref fl),some (.int bound),some (.ref wy),some (.int (PG.aC pr.body)[i].row),z6',z7',some (.ref d8),some (.ref sa),some (.ref bl),some (.ref sl'),some (.ref ll),some fv,z14] H9:=by
     intro H9 n' fv f s9 SH yb9 ys9 yl9 hn' hfv ht
     obtain ⟨va9,SI,SJ⟩:=SH
     have s09:=s0B.trans s9
     refine (hV5 _ _).mpr (ax fun V6 hV6=>?_)
     clear hV5
     walk_at "rd"
     refine aI (s09.bC hpx) (v:=.ref B) (av (j:=0) rfl) ⟨d8,_,rfl,.inl ⟨_,.inl (PG.aC pr.body)[i].row,.inl (s9 _ _ y8B),rfl,g8.symm⟩,wy,_,rfl,.inl ⟨_,.inl (PG.aC pr.body)[i].row,.inl (s9 _ _ wyB),rfl,gw.symm⟩,aI SI (v:=.ref va9) (av (j:=1) rfl) ?_⟩
     refine ⟨B,ta,wy',va9,fv,pr.aG,(PG.aC pr.body)[i],(PG.aU pr.body 0)[i].2.2,vals,f,rfl,pr1.mono s09,rw8.mono s09,s9.bC kw,SJ,dr.ok.nb,SA,bp,sok.len,hfv,po,so,w0,w1,fun q1 sv H10 s10 k1 o1=>⟨q1,_,rfl,k1,rfl,_,_,rfl,_,_,rfl,rfl,(hV6 _ _).mpr ?_⟩⟩
     clear hV6
     have sst:=fun x s=>wt.step (f:=f) (x:=x) (s:=s) dr hi hfl sok.len sok.small
     have tg:=fun hd ok=>ti.go (n':=n') hd ok
     have sn:=yZ pr (PG.aC pr.body)[i].row vals f
     rw [es f] at sn
     rcases hst:i6 pr.aG (PG.aC pr.body)[i] (PG.aU pr.body 0)[i].2.2 vals f with ⟨o,sd⟩
     have es2:=(es f).trans hst
     rw [hst] at k1 o1 sn
     simp only at k1 o1 sn
     have PK:=s10 _ _ yb9
     have Ro:=s10 _ _ ys9
     have Rp:=s10 _ _ yl9
     have s9a:=s9.trans s10
     refine ax fun V7 hV7=>?_
     walk_at "rd"
     cases o with
     | none=>
       have o1:sv=.non:=o1
       subst o1
       have eg:=Et ht es2
       rw [eg] at tg
       have tg:=tg rfl sok
       have en:sd=none:=sn rfl
       subst en
       refine cb (fun _=>fun ea hea=>?_) (fun z=>absurd rfl z)
       have s11:=aw.new hea (.tup [V.str (Str.ofString "must"),V.int (PG.aC pr.body)[i].row])
       exact fin (.cL (PG.aC pr.body)[i].row) _ _ s' ea (by simpa [y0] using tg) (s9a.trans s11) (s11 _ _ PK) (s11 _ _ Ro) ae
     | some x=>
       obtain ⟨sa4,rfl,Pe⟩:=o1
       have eg:=Eu ht es2
       rw [eg] at tg
       have tg:=tg rfl (sst x sd hst)
       refine cb (fun z=>by cases z) (fun _=>(hV7 _ _).mpr ?_)
       clear hV7
       walk_at "rd"
       obtain ⟨bz,ebz,esd⟩:∃ b:Bool,(!decide (nC sd=V.non))=b∧(List.replicate (if b then (1:Int) else 0).toNat [nC sd]).flatten=sd.toList.map V.int:=by
         cases sd with
         | none=>exact ⟨false,by simp [nC],by simp⟩
         | some x=>exact ⟨true,by simp [nC],by simp [nC]⟩
       rw [ebz]
       intro nl hnl
       have s11:=aw.new hnl (.lst [nC sd])
       refine ⟨_,rfl,nl,_,_,rfl,rfl,ae,by split <;> decide,by split <;> decide,by simp only [List.length_cons,List.length_nil]; split <;> simp [line],fun ml hml=>?_⟩
       rw [esd] at *
       have s12:=s11.trans (aw.new hml (.lst (sd.toList.map V.int)))
       have lsd:sd.toList.length≤1:=by cases sd <;> simp
       refine ⟨sl',ml,_,_,rfl,rfl,s12 _ _ Ro,ae,by simp only [List.length_map]; lia,fun pl hpl=>?_⟩
       rw [← List.map_append]
       have s13:=s12.trans (aw.new hpl (.lst ((s' ++ sd.toList).map V.int)))
       have SK:=s9a.trans s13
       have SN:HB pl=none:=dY (s9a.trans s12) hpl
       refine ⟨k,by lia,(hIv _ _ _).mpr ⟨_,_,_,_,_,n',x.1,x.2,_,_,sa4,pl,rfl,SK,Pe.mono s13,sst x sd hst,s13 _ _ PK,ae,SN,ao (s12 _ _ PK) hpl,(ao (s12 _ _ Rp) hpl).symm,s13 _ _ Rp,hn',by simp only [List.length_append,List.length_singleton]; lia,by simp only [List.length_append,List.length_singleton]; lia,tg⟩⟩
   walk_at "rd"
   refine ⟨d8,_,rfl,.inl ⟨_,.inl (PG.aC pr.body)[i].row,.inl (s7 _ _ y8B),rfl,g8.symm⟩,aI ((s0B.trans s7).bC hta) (v:=.str (wdS (PG.aC pr.body)[i].wd)) (av (j:=0) rfl) ⟨rfl,cb (fun e=>?_) (fun e=>?_)⟩⟩
   · have ew:=(Ge _).mp (V.str.inj e)
     intro el hel
     have s8:=aw.new hel (.lst [])
     refine ⟨ll,el,_,rfl,rfl,.of (s8 _ _ yl7),.of ae,?_⟩
     cases ed:aY.drop n with
     | nil=>
       refine (if_pos rfl).mpr fun ea' hea=>?_
       have s9:=s8.trans (aw.new hea (.tup [V.str (Str.ofString "out")]))
       have eg:=HG (pr:=pr) (row:=(PG.aC pr.body)[i].row) (vals:=vals) (left:=aY.drop n) (by rw [ea,ed]; simp [PG.take1,ew])
       have tg:=fun hd ok=>ti.go (n':=n) hd ok
       rw [eg] at tg
       have tg:=tg rfl sok
       exact fin .out _ _ s' ea' (by simpa [y0] using tg) (s7.trans s9) (s9 _ _ yb7) (s9 _ _ ys7) ae
     | cons f l=>
       refine (if_neg Bool.false_ne_true).mpr ?_
       have ln:n < aY.length:=by
         have:=congrArg List.length ed
         simp only [List.length_drop,List.length_cons] at this
         lia
       have el2:aY.drop (n + 1)=l:=by rw [← List.tail_drop,ed]; rfl
       rw [ed] at yl7
       refine ⟨.inl ⟨rfl,_,.of (s8 _ _ yl7)⟩,ll,_,0,0,.int f,rfl,rfl,s8 _ _ yl7,by decide,by decide,by simp [seqIndex?],rfl,?_⟩
       have u9:bD ll (upd H7 el (.lst [])) (upd (upd H7 el (.lst [])) ll (.lst (l.map V.int))):=(bD.refl _ _).put _
       have s79:aw HB (upd (upd H7 el (.lst [])) ll (.lst (l.map V.int))):=fun z o e=>by rw [az (ao e SF)]; exact s8 _ _ (s7 z o e)
       refine rest _ (n + 1) (.int f) f s79 ((Rn.mono s8).Cm (s8 _ _ yl7) u9) (u9 _ _ nbl (s8 _ _ yb7)) (u9 _ _ SG (s8 _ _ ys7)) (by rw [el2]; exact ae) ln (fun _=>rfl) ?_
       rw [ea,decide_eq_true ew,ed,el2]
       rfl
   · have ew:(PG.aC pr.body)[i].wd≠.ask:=fun z=>e (congrArg V.str ((Ge _).mpr z))
     refine rest H7 n .non 0 s7 Rn yb7 ys7 yl7 hn (fun z=>absurd z ew) ?_
     rw [ea,decide_eq_false ew]
     rfl
 · have h0:row=0:=V.int.inj h0
   unfold PG.endAt at ti
   rw [if_pos h0] at ti
   refine (hU8 _ _).mpr ?_
   walk_at "rd"
   intro ea hea
   have s9:=aw.new hea (.tup [V.str (Str.ofString "end")])
   exact fin .fin _ r s' ea ti (sx.trans s9) (s9 _ _ yb) (s9 _ _ ys) ae
theorem LZ (T:Tx K mg t):bW P w K mg base CX0 1 t.fO t.uP ["found", "due"] (Ng K):=by
 refine T.kg.F.okS uK (fun vs H Q E h=>?_) (fun cdv A outer s H vs Q E hr h=>?_)
 · obtain ⟨_,_,_,rfl,_⟩:=h
   rfl
 obtain ⟨f,d,o,rfl,hf,hd,lr,ls,q⟩:=h
 have nd:=uK.nd
 have hu:=gv hr
 refine ⟨_,[some (.ref f),some (.ref d)],(ag (bA (PW.pt (pw_or (Fi (vV (bO KP rfl T.fq PyProof.Rows.Boot.«isinstance» (aa (pv 0) (aa (BW (v:=.ty "tuple") rfl T.ki PyProof.Rows.Boot.«tuple» rfl) ai ah) ah)))) (pw_or (aL (v8 (IG hr)) (pv 0) (pv 1) (aT _)) (pw_or1 (Fi (vV (bO DQ rfl T.fq PyProof.Rows.Boot.«isinstance» (aa (aD aP (pv 0) aj ak) (aa (BW (v:=.ty "list") rfl T.tj PyProof.Rows.Boot.«list» rfl) ai ah) bg))))))))
 (au (aV A5))
 a9)
 (au (aV (t7 (Bi (gv hr)) (jm (own:=["one"]) (ix:=[]) rfl (by rfl) (by rfl) (eQ (bc FF (aD aP (pv 0) aj ak) (aD aP (pv 0) aj ak))) (fun _ _ _ _=>(br (i:=0) (by show List.Nodup (["one"]:List Str); decide +kernel) rfl (Or.inl rfl))) (fun _ _ _ _=>(G6 (vV (bO (Jc (K:=K) rfl) rfl T.fq PyProof.Rows.Boot.«isinstance» (aa (pv 0) (aa (BW (v:=.ty "bool") rfl T.zk PyProof.Rows.Boot.«bool» rfl) ai ah) ah))))) (fun _ _ _ _=>(pv 0))) (bH ai) (aT _))))),rfl,?_⟩
 have line:sizeLine=2 ^ 24:=rfl
 obtain ⟨r,s',e,f1,yr,ys,_,_⟩:=id hf
 refine ax fun U1 hU1=>?_
 walk_at "rd"
 refine ⟨f, "tuple",_,true,rfl,f1,by kernel_rfl,(if_neg (by decide)).mpr ⟨_,_,qL hf,qL hd,qM _,qM _,?_⟩⟩
 rw [eqv_refl]
 refine ⟨_,rfl,(if_neg (by decide)).mpr (aI f1 (v:=.ref r) (av (j:=0) rfl) ⟨_, "list",_,true,rfl,.lst yr,by kernel_rfl,(if_neg (by decide)).mpr ((hU1 _ _).mpr ?_)⟩)⟩
 clear hU1
 walk_at "rd"
 simp only [kb]
 walk_at "rd"
 refine aI f1 (v:=.ref r) (av (j:=0) rfl) (aI f1 (v:=.ref s') (av (j:=1) rfl) ⟨r,s',_,_,rfl,rfl,yr,ys,by simp only [List.length_map]; lia,fun p hp=>?_⟩)
 rw [← List.map_append]
 have s1:=aw.new hp (.lst ((o.rows ++ o.uv).map V.int))
 have y1:upd H p (.lst ((o.rows ++ o.uv).map V.int)) p=some (.lst ((o.rows ++ o.uv).map V.int)):=ae
 generalize upd H p (.lst ((o.rows ++ o.uv).map V.int))=H1 at *
 refine ⟨p,rfl,⟨_,.of y1⟩,fun D hD=>?_⟩
 refine yQ (K:=K) (r:=[]) (fun _=>false) (fun _=>.non) (.of y1) (by simp only [List.length_append,List.length_map]; lia) hD (fun i y hy H4 s4 R hR=>?_) (fun i x _ h=>absurd h Bool.false_ne_true) (fun H4 s4 h4 p5 hp5=>?_)
 · obtain ⟨z,_,rfl⟩:=List.mem_map.mp (List.mem_of_getElem? hy)
   walk_at "rd"
   exact ⟨_, "bool",_,false,rfl,.int _,by kernel_rfl,hR _ (aw.refl _)⟩
 have e4:∀ n,((List.range n).filter fun _=>false).map (fun _=>V.non)=[]:=fun n=>by simp
 rw [e4] at h4
 refine ⟨D,p5,[],rfl,rfl,.of (aw.new hp5 (.lst []) _ _ h4),.of ae,?_⟩
 exact q _ ((s1.trans s4).trans (aw.new hp5 (.lst [])))
theorem CI (xs:List V) (j:Nat):gQ xs none (some (j:Int))=xs.take j:=by
 unfold gQ
 rw [HT.kX,HT.lS,List.drop_zero,Nat.sub_zero]
 by_cases h:j≤xs.length
 · rw [Nat.min_eq_left h]
 · rw [Nat.min_eq_right (by lia),List.take_length,List.take_of_length_le (by lia)]
theorem Nu (e:PG.eV):∃ b,PyData.eqv (Dp.tup (xm e)).py (Dp.tup (xm .out)).py=b∧(b=true↔e=.out):=by
 cases e
 · exact ⟨false,by decide +kernel,by simp⟩
 · exact ⟨true,by decide +kernel,by simp⟩
 · exact ⟨false,by rfl,by simp⟩
 · exact ⟨false,by decide +kernel,by simp⟩
theorem PL (T:Tx K mg t):bW P w K mg base CX0 30 t.By t.Ga ["script"] (Hi K):=by
 have bh:=uV (P:=P) (w:=w) (base:=base) T
 have zq:=Gm (P:=P) (w:=w) (base:=base) T
 have AF:=Ju (P:=P) (w:=w) (base:=base) T
 have g1:=my (P:=P) (w:=w) (base:=base) T
 have g2:=BF (P:=P) (w:=w) (base:=base) T 4
 have g3:=Nq (P:=P) (w:=w) (base:=base) T
 have HU:=Pf (P:=P) (w:=w) (base:=base) T g1 g2 g3
 have ER:=LZ (P:=P) (w:=w) (base:=base) T
 refine T.Q1.F.okS LC (fun vs H Q E h=>?_) (fun cdv A outer s H vs Q E hr h=>?_)
 · obtain ⟨_,_,rfl,_⟩:=h
   rfl
 obtain ⟨a,ns,rfl,hS,h63,q⟩:=h
 have nd:=LC.nd
 have hu:=gv hr
 refine ⟨_,[some (V.ref a),none,none,none,none,none,none,none,none,none,none],(ag (aR (i:=1) nd rfl (Or.inr rfl) (bH (aa (iL ud (pv 0) j9 (ka aj)) (aa aj ai aW) bg)))
 (ag (ou (aJ zq (hr.mono (by omega)) rfl T.ia.m T.ia.F.kp T.ia.b .nil a8 (aa (pv 1) (aa (bc cm (aJ bh (hr.mono (by omega)) rfl T.ay.m T.ay.F.kp T.ay.b .nil a8 (aa (pv 1) ai ah)) aj) ai gY) ah)) (Ca rfl (cC (br (i:=2) nd rfl (Or.inl rfl)) (cC (br (i:=3) nd rfl (Or.inl rfl)) lP))))
 (ag (G7 (i:=4) nd rfl (Or.inl rfl) (own:=["k"]) (ix:=[1]) rfl (by rfl) (by rfl) (iq rfl T.ic (aa (bO bq rfl T.fE PyProof.Rows.Boot.«len» (aa (iL ud (pv 0) j9 (ka aj)) ai bg)) ai bM)) (fun _ _ _ _=>(br (i:=0) (by show List.Nodup (["k", "deck"]:List Str); decide +kernel) rfl (Or.inl rfl))) (fun _ _ _ _=>jl) (fun _ _ _ _=>(bc cm (aJ bh (hr.mono (by omega)) rfl T.ay.m T.ay.F.kp T.ay.b .nil a8 (aa (pv 1) ai ah)) aj)))
 (ag (gT PassesOwn.never rfl (iq rfl T.ic (aa aj ai aW)) (br (i:=5) nd rfl (Or.inl rfl))
 (ag (aR (i:=6) nd rfl (Or.inl rfl) (iL ud (pv 4) j9 (ka (bc x5 (bc ox (bO bq rfl T.fE PyProof.Rows.Boot.«len» (aa (pv 4) ai ah)) (bc vW aj (pv 5))) aj))))
 (au (gT PassesOwn.never rfl (eQ (bH (aa aj (aa (bc cm (aJ bh (hr.mono (by omega)) rfl T.ay.m T.ay.F.kp T.ay.b .nil a8 (aa (pv 1) ai ah)) aj) (aa (bc cm (aJ bh (hr.mono (by omega)) rfl T.ay.m T.ay.F.kp T.ay.b .nil a8 (aa (pv 1) ai ah)) aj) ai gY) gY) aW))) (br (i:=7) nd rfl (Or.inl rfl))
 (ag (aR (i:=8) nd rfl (Or.inl rfl) (aJ AF (hr.mono (by omega)) rfl T.iK.m T.iK.F.kp T.iK.b .nil a8 (aa (pv 2) (aa (pv 3) (aa (pv 6) (aa (pv 7) ai ah) ah) ah) ah)))
 (ag (aR (i:=9) nd rfl (Or.inl rfl) (fU ug rfl T.tj PyProof.Rows.Boot.«list» (aa (pv 6) ai ah)))
 (ag (aR (i:=10) nd rfl (Or.inl rfl) (aJ HU (hr.mono (by omega)) rfl T.lJ.m T.lJ.F.kp T.lJ.b .nil a8 (aa (pv 2) (aa (pv 9) (aa (pv 7) ai ah) ah) ah)))
 (ag (bA (PW.pt (pw_or (Fi (vV (aJ ER (hr.mono (by omega)) rfl T.kg.m T.kg.F.kp T.kg.b .nil a8 (aa (pv 10) (aa (pv 8) ai ah) ah)))) (pw_or1 (aL (v8 (IG hr)) (pv 9) (pv 6) (aT _)))))
 (au (aV A5))
 a9)
 (ag (b8 (fz PySem.F.plainAttrs_list PySem.F.slot_list_append PySem.F.type_list_append bX (aD aP (pv 10) aj ak) (aa aj ai aW)))
 (ag (b8 (B6 PySem.F.plainAttrs_list PySem.F.slot_list_clear PySem.F.type_list_clear Kf (aD aP (pv 10) aj ak)))
 (ag (bA (PW.pt (pw_or (aL (v8 (IG hr)) (aJ HU (hr.mono (by omega)) rfl T.lJ.m T.lJ.F.kp T.lJ.b .nil a8 (aa (pv 2) (aa (pv 9) (aa (pv 7) ai ah) ah) ah)) (pv 8) (aT _)) (pw_or1 (aL (v8 (IG hr)) (iL ud (aD aP (aJ HU (hr.mono (by omega)) rfl T.lJ.m T.lJ.F.kp T.lJ.b .nil a8 (aa (pv 2) (aa (pv 6) (aa aj ai aW) ah) ah)) aj ak) j9 (ka (pv 7))) (aD aP (pv 8) aj ak) (aT _)))))
 (au (aV A5))
 a9)
 (au (bA (PW.pt (pw_and (aL (v8 (IG hr)) (aD aP (pv 8) aj ak) (aZ (aa ba ai aW)) (aT _)) (pw_and1 (aL (v8 (IG hr)) (aJ HU (hr.mono (by omega)) rfl T.lJ.m T.lJ.F.kp T.lJ.b .nil a8 (aa (pv 2) (aa (bc FF (pv 6) (bH (cX (vs:=[.int 7,.int 0]) (by kernel_rfl)))) (aa (pv 7) ai ah) gY) ah)) (pv 8) (aT _)))))
 (au (aV A5))
 a9)))))))))))))
 (au (aV A5)))))),rfl,?_⟩
 have line:sizeLine=2 ^ 24:=rfl
 refine ax fun U1 hU1=>?_
 walk_at "rd"
 refine ⟨_,rfl,a,_,rfl,hS,fun S hS2 D hD=>(hU1 _ _).mpr ?_⟩
 clear hU1
 rw [QL ns h63] at hD ⊢
 have sA:=(aw.new hS2 (.lst (ns.map V.int))).trans (aw.new hD (.lst [V.ref S,V.int 0]))
 have nSD:S≠D:=ao ae hD
 have hD0:H D=none:=dY (aw.new hS2 (.lst (ns.map V.int))) hD
 have dk:g7 K (upd (upd H S (.lst (ns.map V.int))) D (.lst [V.ref S,V.int 0])) D S ns 0:=⟨ae,by rw [az nSD]; exact ae,nSD,h63⟩
 generalize upd (upd H S (.lst (ns.map V.int))) D (.lst [V.ref S,V.int 0])=H1 at *
 refine ax fun U2 hU2=>?_
 walk_at "rd"
 refine ⟨D,S,ns,0,rfl,dk,by lia,fun H2 u2 dk2=>⟨_,31,rfl,rfl,(by decide:(0:Int) < 31),?_⟩⟩
 have sB:aw H H2:=fun z o e=>u2 z o (ao e hD0) (sA z o e)
 have nxb:=PG.gZ ns 0
 obtain ⟨many,em⟩:∃ many:Nat,PG.next ns 0 % 31=(many:Int):=⟨(PG.next ns 0 % 31).toNat,by lia⟩
 have lm:many≤30:=by lia
 simp only [em]
 refine ⟨D,S,ns,1,many,rfl,dk2,by decide,by lia,fun l3 pa B bb R H3 u3 dk3 h3 hpa nl np nB nbb nR fB fb fR=>?_⟩
 have sC:aw H H3:=fun z o e=>u3 z o (ao e hD0) (sB z o e)
 have rl:=PG.KY ns many 1
 have tx:=PG.IM ns many 1
 have dB:=PG.KW ns many 1
 have fl:=PG.Bj ns many 1
 have okp:=PG.K3 ns many 1
 have pw:=PG.K2 (PG.Bq ns many 1).1
 have pos:=(PG.Bq ns many 1).2
 have bun:=PG.Ce ns 1
 have bsz:=PG.Ay ns 1
 rw [← PG.FR ns many 1] at okp bun bsz
 generalize hpr:PG.cD ns many 1=pr at *
 obtain ⟨pr,rows⟩:=pr
 simp only at rl tx dB fl okp pw pos bun bsz fB fb fR
 obtain ⟨nbx,few⟩:=bun
 have f34:(PG.cE pr.body).length≤34:=by
   rw [fl]
   exact Nat.le_trans (List.length_filter_le _ _) (by lia)
 have dr:Co pr:=⟨⟨pw,nbx,by lia,fun s hs=>by
   have:=pos (s.row,s.wd) (by rw [← PG.fG]; exact List.mem_map.mpr ⟨s,hs,rfl⟩)
   exact this⟩,dB,by lia,okp,bsz⟩
 have rp:∀ {H'},bf (·=D) H3 H'→Rep K H' (kA pr) (.ref pa):=fun {H'} u=>by
   unfold kA
   exact Rep.bj.mpr ⟨pa,_,rfl,.of (u _ _ np hpa),.cons (fB _ u) (.cons (fb _ u) .nil)⟩
 refine ⟨l3,_,rfl,.of h3,rfl,_,_,rfl,_,_,rfl,rfl,(hU2 _ _).mpr (ax fun U4 hU4=>?_)⟩
 clear hU2
 simp only [List.set]
 obtain ⟨p3,hp3,dk3⟩:=dk3
 walk_at "rd"
 simp only [kb]
 walk_at "rd"
 refine ⟨60,rfl,a,ns.map V.int,rfl,sC.seq hS,fun S4 hS4=>?_⟩
 have lns:(gQ (ns.map V.int) none (some 60)).length≤60:=by
   rw [show (60:Int)=((60:Nat):Int) from rfl,CI,List.length_take,List.length_map]
   lia
 generalize gQ (ns.map V.int) none (some 60)=xs4 at *
 have s4:=aw.new hS4 (.lst xs4)
 have y4:(upd H3 S4 (.lst xs4)) S4=some (.lst xs4):=ae
 generalize upd H3 S4 (.lst xs4)=H4 at *
 refine ⟨S4,_,rfl,.inl (.of y4),_,rfl,by lia,by lia,fun FL hFL=>?_⟩
 rw [show ((xs4.length:Int)).toNat=xs4.length from Int.toNat_natCast _]
 have dk4:=dk3.same s4
 refine F9 (K:=K) (r:=[some (V.ref D)]) (fun n=>0≤n∧n≤9) (by lia) hFL dk4 (fun i x H2 hi u2 d2 R2 hR=>?_) (fun aY H5 lf of_ u5 dk5 y5=>(hU4 _ _).mpr (ax fun U5 hU5=>?_))
 · walk_at "rd"
   exact ⟨D,S,ns,p3 + i,rfl,d2,by lia,fun H3 u3 d3=>⟨_,10,rfl,rfl,(by decide:(0:Int) < 10),hR _ _ ⟨by lia,by lia⟩ u3 d3⟩⟩
 clear hU4
 have nFL:FL≠D:=fun z=>by rw [z,dk4.bG] at hFL; cases hFL
 have u35:bf (·=D) H3 H5:=(bf.of s4).trans (bf.one u5 rfl)
 have Tj:aY.length≤60:=by lia
 refine kZ fun U hU=>?_
 walk_at "rd"
 refine ⟨_,rfl,by lia,by lia,hU _ _ ?_⟩
 clear hU
 rw [show (4:Int).toNat=4 from rfl]
 obtain ⟨Pv,hPv⟩:∃ Pv:Nat→St→Hp→Prop,∀ i σ Hx,Pv i σ Hx↔∃ (z5 z6 z7 z8 z9 z10:Option V) (p:Nat),σ=[some (V.ref a),some (V.ref D),some (V.ref pa),some (V.ref R),some (V.ref FL),z5,z6,z7,z8,z9,z10]∧bD D H5 Hx∧p≤91000 + 2 * i∧g7 K Hx D S ns p:=⟨_,fun _ _ _=>Iff.rfl⟩
 refine jA (lo:=0) (n:=4) Pv ((hPv _ _ _).mpr ⟨_,_,_,_,_,_,_,rfl,.refl _ _,by lia,dk5⟩) (fun i σ Hx hi hv=>?_) (fun σ Hx hv=>?_)
 · obtain ⟨z5,z6,z7,z8,z9,z10,px,rfl,ux,hpx,dkx⟩:=(hPv _ _ _).mp hv
   clear hv
   have done:=fun σ H12=>(hPv (i + 1) σ H12).mpr
   simp only [gh,List.set]
   refine ax fun V1 hV1=>?_
   walk_at "rd"
   have yFx:Hx FL=some (.lst (aY.map V.int)):=ux _ _ nFL y5
   refine ⟨FL,_,rfl,.inl (.of yFx),by rw [List.length_map]; exact .inl ⟨by lia,by lia⟩,_,rfl,FL,_,rfl,.of yFx,fun SM hSM=>(hV1 _ _).mpr ?_⟩
   clear hV1
   obtain ⟨j,ej⟩:∃ j:Nat,(((aY.map V.int).length:Int) * (3 - (0 + (i:Int))) / 3:Int)=(j:Int):=⟨_,(Int.toNat_of_nonneg (Int.ediv_nonneg (Int.mul_nonneg (by lia) (by lia)) (by decide))).symm⟩
   rw [ej,CI,← List.map_take]
   have lsm:(aY.take j).length≤60:=by rw [List.length_take]; lia
   generalize aY.take j=sm at *
   have s6:=aw.new hSM (.lst (sm.map V.int))
   have y6:(upd Hx SM (.lst (sm.map V.int))) SM=some (.lst (sm.map V.int)):=ae
   have nSM:SM≠D:=fun z=>by rw [z,dkx.bG] at hSM; cases hSM
   generalize upd Hx SM (.lst (sm.map V.int))=H6 at *
   refine k8 fun U hU=>?_
   walk_at "rd"
   refine ⟨D,S,ns,px,rfl,dkx.same s6,by lia,fun H7 u7 dk7=>⟨_,61,rfl,rfl,(by decide:(0:Int) < 61),D,S,ns,px + 1,rfl,dk7,by lia,fun H8 u8 dk8=>⟨_,10,rfl,rfl,(by decide:(0:Int) < 10),fun BL hBL=>⟨⟨_,.of ae⟩,hU _ _ ?_⟩⟩⟩⟩
   clear hU
   have nb1:=PG.gZ ns px
   have nb2:=PG.gZ ns (px + 1)
   obtain ⟨b1,eb1⟩:∃ b:Nat,PG.next ns px % 61=(b:Int):=⟨(PG.next ns px % 61).toNat,by lia⟩
   obtain ⟨b2,eb2⟩:∃ b:Nat,PG.next ns (px + 1) % 10=(b:Int):=⟨(PG.next ns (px + 1) % 10).toNat,by lia⟩
   have lb1:b1≤60:=by lia
   have lb2:b2≤9:=by lia
   have s9:=aw.new hBL (.lst [V.int 200,V.int (PG.next ns px % 61),V.int (PG.next ns (px + 1) % 10)])
   have y9:(upd H8 BL (.lst [V.int 200,V.int (PG.next ns px % 61),V.int (PG.next ns (px + 1) % 10)])) BL=some (.lst [V.int 200,V.int (PG.next ns px % 61),V.int (PG.next ns (px + 1) % 10)]):=ae
   have dk9:=dk8.same s9
   have u59:bD D H5 (upd H8 BL (.lst [V.int 200,V.int (PG.next ns px % 61),V.int (PG.next ns (px + 1) % 10)])):=ux.trans ((bD.of s6).trans (u7.trans (u8.trans (.of s9))))
   have ySM:(upd H8 BL (.lst [V.int 200,V.int (PG.next ns px % 61),V.int (PG.next ns (px + 1) % 10)])) SM=some (.lst (sm.map V.int)):=s9 _ _ (u8 _ _ nSM (u7 _ _ nSM y6))
   clear s9
   generalize upd H8 BL (.lst [V.int 200,V.int (PG.next ns px % 61),V.int (PG.next ns (px + 1) % 10)])=H9 at *
   have u39:bf (·=D) H3 H9:=u35.trans (bf.one u59 rfl)
   obtain ⟨Pw,hPw⟩:∃ Pw:Nat→St→Hp→Prop,∀ j σ Hy,Pw j σ Hy↔∃ (z7 z8 z9 z10:Option V),σ=[some (V.ref a),some (V.ref D),some (V.ref pa),some (V.ref R),some (V.ref FL),some (V.int (0 + (i:Int))),some (V.ref SM),z7,z8,z9,z10]∧aw H9 Hy:=⟨_,fun _ _ _=>Iff.rfl⟩
   refine kW (K:=K) (a:=BL) (xs:=[V.int 200,V.int (PG.next ns px % 61),V.int (PG.next ns (px + 1) % 10)]) Pw ((hPw _ _ _).mpr ⟨_,_,_,_,rfl,aw.refl _⟩) (fun j σ Hy _ hv=>?_) ?_ ?_
   · obtain ⟨_,_,_,_,_,sy⟩:=(hPw _ _ _).mp hv
     exact .of (sy _ _ y9)
   · intro j y σ Hy hj hv
     obtain ⟨z7,z8,z9,z10,rfl,sy⟩:=(hPw _ _ _).mp hv
     clear hv
     have xt:=fun σ H12=>(hPw (j + 1) σ H12).mpr
     obtain ⟨bd,hbd,rfl⟩:∃ bd:Nat,bd≤200∧y=.int bd:=by
       match j,hj with
       | 0,hj=>cases hj; exact ⟨200,by lia,rfl⟩
       | 1,hj=>cases hj; exact ⟨b1,by lia,by rw [eb1]⟩
       | 2,hj=>cases hj; exact ⟨b2,by lia,by rw [eb2]⟩
       | n + 3,hj=>simp at hj
     simp only [gh,List.set]
     have rpY:∀ {H'},aw H9 H'→Rep K H' (kA pr) (.ref pa):=fun {H'} s=>rp (u39.trans (bf.of s))
     have ySy:=fun {H'} (s:aw H9 H')=>s _ _ ySM
     refine ax fun V1 hV1=>?_
     walk_at "rd"
     refine ⟨pa,R,SM,pr,rows,sm,bd,rfl,dr,rpY sy,fR _ (u39.trans (bf.of sy)),by lia,tx,.of (ySy sy),by lia,by lia,fun q1 r1 s1 e1 H10 s10 k1 hr1 hs1 n1 yr1 ys1 ke1=>(hV1 _ _).mpr (ax fun V2 hV2=>?_)⟩
     clear hV1
     have lt:=PG.Hq (qV pr.body) (i9 pr) bd (PG.aQ pr.body 0) (pr.aG.map (·.first)) sm
     have ltk:=PG.Eh (qV pr.body) (i9 pr) bd 200 (PG.aQ pr.body 0) (pr.aG.map (·.first)) sm hbd
     have lmo:=PG.yO (qV pr.body) (i9 pr) bd (PG.aQ pr.body 0) (pr.aG.map (·.first)) sm [7,0]
     have rd1:xl K H10 q1 (hJ pr bd (PG.aQ pr.body 0) (pr.aG.map (·.first)) sm):=⟨r1,s1,e1,k1,yr1,ys1,n1,ke1⟩
     have Rq:=sy.trans s10
     walk_at "rd"
     refine ⟨SM,_,rfl,.inl (.of (ySy Rq)),fun HD hHD=>(hV2 _ _).mpr (ax fun V3 hV3=>?_)⟩
     clear hV2
     have s11:=aw.new hHD (.lst (sm.map V.int))
     have yHD:(upd H10 HD (.lst (sm.map V.int))) HD=some (.lst (sm.map V.int)):=ae
     generalize upd H10 HD (.lst (sm.map V.int))=H11 at *
     have PN:=Rq.trans s11
     walk_at "rd"
     refine ⟨_,HD,pr,sm,bd,rfl,dr,rpY PN,.of yHD,by lia,by lia,fun q2 r2 s2 e2 H12 s12 k2 hr2 hs2 n2 yr2 ys2 ke2=>(hV3 _ _).mpr (ax fun V4 hV4=>?_)⟩
     clear hV3
     have rd2:xl K H12 q2 (hJ pr bd (PG.aQ pr.body 0) (pr.aG.map (·.first)) sm):=⟨r2,s2,e2,k2,yr2,ys2,n2,ke2⟩
     walk_at "rd"
     refine ⟨q2,q1,_,rfl,rd2,rd1.mono (s11.trans s12),by lia,by lia,fun H13 s13=>⟨true,rfl,(if_neg (by decide)).mpr ?_⟩⟩
     have SO:=PN.trans (s12.trans s13)
     refine ⟨_,_,lH (.of (s13 _ _ (s12 _ _ yHD))),lH (.of (ySy SO)),uz _,uz _,?_⟩
     rw [eqv_refl]
     refine ⟨_,rfl,(if_neg (by decide)).mpr ((hV4 _ _).mpr (ax fun V5 hV5=>?_))⟩
     clear hV4
     walk_at "rd"
     have PQ:=s13 _ _ yr2
     have SQ:=s13 _ _ ys2
     have k13:=s13.bC k2
     refine aI k13 (v:=.ref r2) (av (j:=0) rfl) ⟨.inl ⟨rfl,_,.of PQ⟩,r2,_,_,rfl,rfl,PQ,by rw [List.length_map]; lia,(hV5 _ _).mpr (ax fun V6 hV6=>?_)⟩
     clear hV5
     have u14:bD r2 H13 (upd H13 r2 (.lst ((hJ pr bd (PG.aQ pr.body 0) (pr.aG.map (·.first)) sm).rows.map V.int ++ [V.int 0]))):=(bD.refl _ _).put _
     have k14:=k13.Cm PQ u14
     have Rr:=u14 _ _ n2.symm SQ
     have s14:aw H11 (upd H13 r2 (.lst ((hJ pr bd (PG.aQ pr.body 0) (pr.aG.map (·.first)) sm).rows.map V.int ++ [V.int 0]))):=fun z o e=>u14 z o (ao e hr2) (s13 _ _ (s12 z o e))
     clear u14
     generalize upd H13 r2 (.lst ((hJ pr bd (PG.aQ pr.body 0) (pr.aG.map (·.first)) sm).rows.map V.int ++ [V.int 0]))=H14 at *
     walk_at "rd"
     refine aI k14 (v:=.ref s2) (av (j:=1) rfl) ⟨.inl ⟨rfl,_,.of Rr⟩,s2,_,rfl,rfl,Rr,(hV6 _ _).mpr (ax fun V7 hV7=>?_)⟩
     clear hV6
     have s15:aw H11 (upd H14 s2 (.lst [])):=fun z o e=>by rw [az (ao e hs2)]; exact s14 z o e
     generalize upd H14 s2 (.lst [])=H15 at *
     have Rt:=PN.trans s15
     have Ru:=rd1.mono (s11.trans s15)
     clear s14 s13 s12 rd2 k2 k13 k14
     walk_at "rd"
     refine ⟨_,HD,pr,sm,bd,rfl,dr,rpY Rt,.of (s15 _ _ yHD),by lia,by lia,fun q3 r3 s3 e3 H16 s16 k3 _ _ n3 yr3 ys3 ke3=>⟨_,_,qL ⟨r3,s3,e3,k3,yr3,ys3,n3,ke3⟩,qL (Ru.mono s16),qM _,qM _,?_⟩⟩
     rw [eqv_refl]
     have PR:=Rt.trans s16
     refine ⟨_,rfl,(if_neg (by decide)).mpr ⟨_,SM,pr,sm,200,rfl,dr,rpY PR,.of (ySy PR),by lia,by lia,fun q4 r4 s4 e4 H17 s17 k4 _ _ n4 yr4 ys4 ke4=>aI k4 (v:=.ref r4) (av (j:=0) rfl) ?_⟩⟩
     have Rv:=Ru.mono (s16.trans s17)
     obtain ⟨r1',s1',e1',k17,SR,Tn,_,SS⟩:=id Rv
     refine ⟨_,rfl,r4,_,rfl,.of yr4,fun p18 SU=>?_⟩
     rw [CI,← List.map_take,show (hJ pr 200 (PG.aQ pr.body 0) (pr.aG.map (·.first)) sm).rows.take bd=(hJ pr bd (PG.aQ pr.body 0) (pr.aG.map (·.first)) sm).rows from ltk]
     have s18:=aw.new SU (.lst ((hJ pr bd (PG.aQ pr.body 0) (pr.aG.map (·.first)) sm).rows.map V.int))
     refine aI (s18.bC k17) (v:=.ref r1') (av (j:=0) rfl) ⟨_,_,lH (.of ae),lH (.of (s18 _ _ SR)),uz _,uz _,?_⟩
     rw [eqv_refl]
     refine ⟨_,rfl,(if_neg (by decide)).mpr ((hV7 _ _).mpr ?_)⟩
     clear hV7
     have SV:=PR.trans (s17.trans s18)
     have k18:=s18.bC k17
     have SW:=s18.bC SS
     have SX:=Rv.mono s18
     generalize upd H17 p18 (.lst ((hJ pr bd (PG.aQ pr.body 0) (pr.aG.map (·.first)) sm).rows.map V.int))=H18 at *
     walk_at "rd"
     refine aI k18 (v:=.ref e1') (av (j:=2) rfl) fun po hpo=>?_
     have s19:=aw.new hpo (.tup [V.str (Str.ofString "out")])
     refine ⟨_,_,Rep.bj.mpr ⟨e1',_,rfl,s19.bC SW,za _⟩,Rep.bj.mpr ⟨po,_,rfl,.of ae,za .out⟩,Ew _,Ew .out,?_⟩
     obtain ⟨bo,ebo,hbo⟩:=Nu (hJ pr bd (PG.aQ pr.body 0) (pr.aG.map (·.first)) sm).fin
     rw [ebo]
     have PU:=SV.trans s19
     have SY:=SX.mono s19
     generalize upd H18 po (.tup [V.str (Str.ofString "out")])=H19 at *
     cases bo with
     | true=>exact ⟨_,rfl,(if_neg (by decide)).mpr (xt _ _ ⟨_,_,_,_,rfl,PU⟩)⟩
     | false=>
       have S0:(hJ pr bd (PG.aQ pr.body 0) (pr.aG.map (·.first)) sm).fin≠.out:=fun z=>Bool.false_ne_true (hbo.mpr z)
       refine ⟨_,rfl,(if_pos (by decide)).mpr fun l7 hl7=>⟨SM,l7,_,_,rfl,rfl,aw.new hl7 _ _ _ (ySy PU),ae,by simp only [List.length_map,List.length_cons,List.length_nil]; lia,fun pl hpl=>?_⟩⟩
       have s20:=(aw.new hl7 (.lst [V.int 7,V.int 0])).trans (aw.new hpl (.lst (sm.map V.int ++ [V.int 7,V.int 0])))
       have Rw:=PU.trans s20
       refine ⟨_,pl,pr,sm ++ [7,0],bd,rfl,dr,rpY Rw,.of (by rw [List.map_append]; exact ae),by simp only [List.length_append,List.length_cons,List.length_nil]; lia,by lia,fun q5 r5 s5 e5 H21 s21 k5 _ _ n5 yr5 ys5 ke5=>?_⟩
       have em:hJ pr bd (PG.aQ pr.body 0) (pr.aG.map (·.first)) (sm ++ [7,0])=hJ pr bd (PG.aQ pr.body 0) (pr.aG.map (·.first)) sm:=lmo S0
       rw [em] at yr5 ys5 ke5
       refine ⟨_,_,qL ⟨r5,s5,e5,k5,yr5,ys5,n5,ke5⟩,qL (SY.mono (s20.trans s21)),qM _,qM _,?_⟩
       rw [eqv_refl]
       exact ⟨_,rfl,(if_neg (by decide)).mpr (xt _ _ ⟨_,_,_,_,rfl,Rw.trans s21⟩)⟩
   · intro σ Hy hv
     obtain ⟨z7,z8,z9,z10,rfl,sy⟩:=(hPw _ _ _).mp hv
     exact done _ _ ⟨_,_,_,_,_,_,px + 2,rfl,u59.trans (.of sy),by lia,dk9.same sy⟩
 · obtain ⟨z5,z6,z7,z8,z9,z10,px,rfl,ux,hpx,dkx⟩:=(hPv _ _ _).mp hv
   refine (hU5 _ _).mpr ?_
   walk_at "rd"
   exact q _
end
end K16
end
section
set_option maxHeartbeats 4000000
namespace K16
open PySem L2
section
variable {P:Program} {w:World} {K:PySem.W.Frag} {mg:Str→Option Value} {base:Heap}
theorem all_mk {l:PySem.W.OpenLaw} {h:Heap} {fa:Addr} (X:K.In h) (G:h.Ns mainGlobals mg) (hfa:mg "law"=some (.ref fa))
   {mm:Addr} {Nv HV:Option Addr} {Nw:Array (Option Value)} {Nx HW HX HY CJ HZ:Value}
   {cI:Addr} {xQ nJ:Option Addr} {xR:Array (Option Value)} {xS nK nL nM iX nN:Value}
   {cV:Addr} {CK uZ:Option Addr} {CL:Array (Option Value)} {CM u0 vc vd mz ve:Value}
   {dy:Addr} {zr ph:Option Addr} {zt:Array (Option Value)} {zu pj pz pA jL pB:Value}
   {gP:Addr} {Gq zv:Option Addr} {Gr:Array (Option Value)} {Gu zw zx zy tD zz:Value}
   {eE:Addr} {CO vf:Option Addr} {CQ:Array (Option Value)} {CS vg vh vi mB vj:Value}
   {bU:Addr} {wF lK:Option Addr} {wG:Array (Option Value)} {wH lL lM lN iD lO:Value}
   {ju:Addr} {L0 ES:Option Addr} {L1:Array (Option Value)} {L4 ET EU EV zF EW:Value}
   {iz:Addr} {Gv zG:Option Addr} {Gw:Array (Option Value)} {Gx zH zI zJ tG zK:Value}
   {gG:Addr} {EX xu:Option Addr} {EY:Array (Option Value)} {EZ xv xw xx pC xy:Value}
   {gH:Addr} {E1 xA:Option Addr} {E2:Array (Option Value)} {E3 xB xC xD pE xE:Value}
   {mn:Addr} {L5 E4:Option Addr} {L6:Array (Option Value)} {L7 E5 E6 E7 zL E8:Value}
   {zg:Addr} {PV L8:Option Addr} {PX:Array (Option Value)} {PY L9 Ma Mb Gy Mc:Value}
   {iA:Addr} {Gz zM:Option Addr} {GA:Array (Option Value)} {GB zN zO zP tH zQ:Value}
   {cy:Addr} {qX je:Option Addr} {qY:Array (Option Value)} {qZ jf jg jh gk ji:Value}
   {cW:Addr} {CT vk:Option Addr} {CU:Array (Option Value)} {CV vm vn vo mC vp:Value}
   {hX:Addr} {Jv BG:Option Addr} {Jw:Array (Option Value)} {Jx BH BI BJ wI BK:Value}
   {fe:Addr} {AG rK:Option Addr} {AH:Array (Option Value)} {AI rL rM rN kD rO:Value}
   {ff:Addr} {AJ rP:Option Addr} {AK:Array (Option Value)} {AL rQ rR rS kE rT:Value}
   {fh:Addr} {AM rV:Option Addr} {AN:Array (Option Value)} {AO rW rX rY kF rZ:Value}
   {eK:Addr} {zR pF:Option Addr} {zS:Array (Option Value)} {zU pG pH pI jM pJ:Value}
   {dM:Addr} {xT nO:Option Addr} {xU:Array (Option Value)} {xV nP nQ nT iY nU:Value}
   {fM:Addr} {CY vq:Option Addr} {CZ:Array (Option Value)} {C0 vt vv vw mD vx:Value}
   {iB:Addr} {GC zV:Option Addr} {GD:Array (Option Value)} {GF zW zX zY tI zZ:Value}
   {fN:Addr} {C1 vy:Option Addr} {C2:Array (Option Value)} {C3 vz vA vB mE vC:Value}
   {b5:Addr} {tJ jN:Option Addr} {tK:Array (Option Value)} {tL jO jP jQ gJ jR:Value}
   {dq:Addr} {AQ se:Option Addr} {AR:Array (Option Value)} {AS sf si sj kG sk:Value}
   {dN:Addr} {xW nV:Option Addr} {xX:Array (Option Value)} {xY nW nX nY iZ nZ:Value}
   {eL:Addr} {Aa pK:Option Addr} {Ab:Array (Option Value)} {Ac pL pM pN jS pO:Value}
   {fO:Addr} {C4 vD:Option Addr} {C5:Array (Option Value)} {C6 vE vF vG mF vH:Value}
   {By:Addr} {PZ Md:Option Addr} {P0:Array (Option Value)} {Qa Me Mf Mg GG Mh:Value}
   {aX:Addr}
   {du:Addr} {AU sr:Option Addr} {AV:Array (Option Value)} {AW su sF sG kH sH:Value}
   {b3:Addr}
   {eG:Addr} {C7 vI:Option Addr} {C8:Array (Option Value)} {C9 vJ vK vL mG vM:Value}
   {bJ:Addr} {pP iP:Option Addr} {pQ:Array (Option Value)} {pR iQ iR iS fT iT:Value}
   {ck:Addr} {vN kl:Option Addr} {vO:Array (Option Value)} {vP km kn ko ig kr:Value}
   {dv:Addr} {AX sI:Option Addr} {AY:Array (Option Value)} {AZ sJ sL sM kI sN:Value}
   {Rx:_}
   (GH:PySem.W.nsIn K mainGlobals "flow"=some (some (.ref mm)))
   (GI:K.lookup mm=some ⟨Nx,Nv,.func (PySem.W.fnOf "flow" "flow" (aO mh) (aN mh) (aq mh) .none HW HX HY HV CJ HZ),Nw⟩)
   (GJ:PySem.W.codeIn K CJ "flow"=true)
   (GK:PySem.W.keepIn K (.ref mm)=true)
   (jT:PySem.W.nsIn K mainGlobals "flow_of_body"=some (some (.ref cI)))
   (jU:K.lookup cI=some ⟨xS,xQ,.func (PySem.W.fnOf "flow_of_body" "flow_of_body" (aO cF) (aN cF) (aq cF) .none nK nL nM nJ iX nN),xR⟩)
   (jV:PySem.W.codeIn K iX "flow_of_body"=true)
   (jW:PySem.W.keepIn K (.ref cI)=true)
   (pS:PySem.W.nsIn K mainGlobals "first_row"=some (some (.ref cV)))
   (pT:K.lookup cV=some ⟨CM,CK,.func (PySem.W.fnOf "first_row" "first_row" (aO d7) (aN d7) (aq d7) .none u0 vc vd uZ mz ve),CL⟩)
   (pU:PySem.W.codeIn K mz "first_row"=true)
   (pV:PySem.W.keepIn K (.ref cV)=true)
   (kJ:PySem.W.nsIn K mainGlobals "behind_body"=some (some (.ref dy)))
   (kK:K.lookup dy=some ⟨zu,zr,.func (PySem.W.fnOf "behind_body" "behind_body" (aO cO) (aN cO) (aq cO) .none pj pz pA ph jL pB),zt⟩)
   (kL:PySem.W.codeIn K jL "behind_body"=true)
   (kM:PySem.W.keepIn K (.ref dy)=true)
   (wJ:PySem.W.nsIn K mainGlobals "ways_of"=some (some (.ref gP)))
   (wK:K.lookup gP=some ⟨Gu,Gq,.func (PySem.W.fnOf "ways_of" "ways_of" (aO fW) (aN fW) (aq fW) .none zw zx zy zv tD zz),Gr⟩)
   (wL:PySem.W.codeIn K tD "ways_of"=true)
   (wM:PySem.W.keepIn K (.ref gP)=true)
   (pW:PySem.W.nsIn K mainGlobals "bodies_in"=some (some (.ref eE)))
   (pX:K.lookup eE=some ⟨CS,CO,.func (PySem.W.fnOf "bodies_in" "bodies_in" (aO d9) (aN d9) (aq d9) .none vg vh vi vf mB vj),CQ⟩)
   (pY:PySem.W.codeIn K mB "bodies_in"=true)
   (pZ:PySem.W.keepIn K (.ref eE)=true)
   (i0:PySem.W.nsIn K mainGlobals "statements_in"=some (some (.ref bU)))
   (i3:K.lookup bU=some ⟨wH,wF,.func (PySem.W.fnOf "statements_in" "statements_in" (aO cw) (aN cw) (aq cw) .none lL lM lN lK iD lO),wG⟩)
   (i4:PySem.W.codeIn K iD "statements_in"=true)
   (i5:PySem.W.keepIn K (.ref bU)=true)
   (Dc:PySem.W.nsIn K mainGlobals "worth"=some (some (.ref ju)))
   (Dd:K.lookup ju=some ⟨L4,L0,.func (PySem.W.fnOf "worth" "worth" (aO jr) (aN jr) (aq jr) .none ET EU EV ES zF EW),L1⟩)
   (De:PySem.W.codeIn K zF "worth"=true)
   (Df:PySem.W.keepIn K (.ref ju)=true)
   (wN:PySem.W.nsIn K mainGlobals "word_at"=some (some (.ref iz)))
   (wO:K.lookup iz=some ⟨Gx,Gv,.func (PySem.W.fnOf "word_at" "word_at" (aO fX) (aN fX) (aq fX) .none zH zI zJ zG tG zK),Gw⟩)
   (wQ:PySem.W.codeIn K tG "word_at"=true)
   (wR:PySem.W.keepIn K (.ref iz)=true)
   (tM:PySem.W.nsIn K mainGlobals "by_names"=some (some (.ref gG)))
   (tN:K.lookup gG=some ⟨EZ,EX,.func (PySem.W.fnOf "by_names" "by_names" (aO e8) (aN e8) (aq e8) .none xv xw xx xu pC xy),EY⟩)
   (tO:PySem.W.codeIn K pC "by_names"=true)
   (tP:PySem.W.keepIn K (.ref gG)=true)
   (tQ:PySem.W.nsIn K mainGlobals "in_order"=some (some (.ref gH)))
   (tR:K.lookup gH=some ⟨E3,E1,.func (PySem.W.fnOf "in_order" "in_order" (aO fc) (aN fc) (aq fc) .none xB xC xD xA pE xE),E2⟩)
   (tS:PySem.W.codeIn K pE "in_order"=true)
   (tT:PySem.W.keepIn K (.ref gH)=true)
   (Dg:PySem.W.nsIn K mainGlobals "holds"=some (some (.ref mn)))
   (Dh:K.lookup mn=some ⟨L7,L5,.func (PySem.W.fnOf "holds" "holds" (aO js) (aN js) (aq js) .none E5 E6 E7 E4 zL E8),L6⟩)
   (Di:PySem.W.codeIn K zL "holds"=true)
   (Dj:PySem.W.keepIn K (.ref mn)=true)
   (Mi:PySem.W.nsIn K mainGlobals "run"=some (some (.ref zg)))
   (Mj:K.lookup zg=some ⟨PY,PV,.func (PySem.W.fnOf "run" "run" (aO uB) (aN uB) (aq uB) .none L9 Ma Mb L8 Gy Mc),PX⟩)
   (Ml:PySem.W.codeIn K Gy "run"=true)
   (Mn:PySem.W.keepIn K (.ref zg)=true)
   (wU:PySem.W.nsIn K mainGlobals "step_by"=some (some (.ref iA)))
   (wV:K.lookup iA=some ⟨GB,Gz,.func (PySem.W.fnOf "step_by" "step_by" (aO fY) (aN fY) (aq fY) .none zN zO zP zM tH zQ),GA⟩)
   (wW:PySem.W.codeIn K tH "step_by"=true)
   (wX:PySem.W.keepIn K (.ref iA)=true)
   (gK:PySem.W.nsIn K mainGlobals "behind_condition"=some (some (.ref cy)))
   (gL:K.lookup cy=some ⟨qZ,qX,.func (PySem.W.fnOf "behind_condition" "behind_condition" (aO bS) (aN bS) (aq bS) .none jf jg jh je gk ji),qY⟩)
   (gM:PySem.W.codeIn K gk "behind_condition"=true)
   (gN:PySem.W.keepIn K (.ref cy)=true)
   (p0:PySem.W.nsIn K mainGlobals "_law_next"=some (some (.ref cW)))
   (p9:K.lookup cW=some ⟨CV,CT,.func (PySem.W.fnOf "_law_next" "_law_next" (aO eu) (aN eu) (aq eu) .none vm vn vo vk mC vp),CU⟩)
   (qb:PySem.W.codeIn K mC "_law_next"=true)
   (qc:PySem.W.keepIn K (.ref cW)=true)
   (Ae:PySem.W.nsIn K mainGlobals "_law_e"=some (some (.ref hX)))
   (Ag:K.lookup hX=some ⟨Jx,Jv,.func (PySem.W.fnOf "_law_e" "_law_e" (aO hV) (aN hV) (aq hV) .none BH BI BJ BG wI BK),Jw⟩)
   (Ah:PySem.W.codeIn K wI "_law_e"=true)
   (Ai:PySem.W.keepIn K (.ref hX)=true)
   (mH:PySem.W.nsIn K mainGlobals "_law_boxes"=some (some (.ref fe)))
   (mI:K.lookup fe=some ⟨AI,AG,.func (PySem.W.fnOf "_law_boxes" "_law_boxes" (aO dc) (aN dc) (aq dc) .none rL rM rN rK kD rO),AH⟩)
   (mJ:PySem.W.codeIn K kD "_law_boxes"=true)
   (mK:PySem.W.keepIn K (.ref fe)=true)
   (mL:PySem.W.nsIn K mainGlobals "_law_plain"=some (some (.ref ff)))
   (mM:K.lookup ff=some ⟨AL,AJ,.func (PySem.W.fnOf "_law_plain" "_law_plain" (aO de) (aN de) (aq de) .none rQ rR rS rP kE rT),AK⟩)
   (mO:PySem.W.codeIn K kE "_law_plain"=true)
   (mQ:PySem.W.keepIn K (.ref ff)=true)
   (mS:PySem.W.nsIn K mainGlobals "_law_close"=some (some (.ref fh)))
   (mT:K.lookup fh=some ⟨AO,AM,.func (PySem.W.fnOf "_law_close" "_law_close" (aO df) (aN df) (aq df) .none rW rX rY rV kF rZ),AN⟩)
   (mU:PySem.W.codeIn K kF "_law_close"=true)
   (mV:PySem.W.keepIn K (.ref fh)=true)
   (kN:PySem.W.nsIn K mainGlobals "_law_number"=some (some (.ref eK)))
   (kO:K.lookup eK=some ⟨zU,zR,.func (PySem.W.fnOf "_law_number" "_law_number" (aO cP) (aN cP) (aq cP) .none pG pH pI pF jM pJ),zS⟩)
   (kP:PySem.W.codeIn K jM "_law_number"=true)
   (kQ:PySem.W.keepIn K (.ref eK)=true)
   (jX:PySem.W.nsIn K mainGlobals "_law_program"=some (some (.ref dM)))
   (jY:K.lookup dM=some ⟨xV,xT,.func (PySem.W.fnOf "_law_program" "_law_program" (aO cG) (aN cG) (aq cG) .none nP nQ nT nO iY nU),xU⟩)
   (jZ:PySem.W.codeIn K iY "_law_program"=true)
   (j0:PySem.W.keepIn K (.ref dM)=true)
   (qd:PySem.W.nsIn K mainGlobals "_law_ends"=some (some (.ref fM)))
   (qe:K.lookup fM=some ⟨C0,CY,.func (PySem.W.fnOf "_law_ends" "_law_ends" (aO eA) (aN eA) (aq eA) .none vt vv vw vq mD vx),CZ⟩)
   (qf:PySem.W.codeIn K mD "_law_ends"=true)
   (qg:PySem.W.keepIn K (.ref fM)=true)
   (wY:PySem.W.nsIn K mainGlobals "_law_to"=some (some (.ref iB)))
   (wZ:K.lookup iB=some ⟨GF,GC,.func (PySem.W.fnOf "_law_to" "_law_to" (aO fZ) (aN fZ) (aq fZ) .none zW zX zY zV tI zZ),GD⟩)
   (w5:PySem.W.codeIn K tI "_law_to"=true)
   (w9:PySem.W.keepIn K (.ref iB)=true)
   (qh:PySem.W.nsIn K mainGlobals "_law_ways"=some (some (.ref fN)))
   (qi:K.lookup fN=some ⟨C3,C1,.func (PySem.W.fnOf "_law_ways" "_law_ways" (aO eB) (aN eB) (aq eB) .none vz vA vB vy mE vC),C2⟩)
   (qj:PySem.W.codeIn K mE "_law_ways"=true)
   (qk:PySem.W.keepIn K (.ref fN)=true)
   (ij:PySem.W.nsIn K mainGlobals "_law_statements"=some (some (.ref b5)))
   (ik:K.lookup b5=some ⟨tL,tJ,.func (PySem.W.fnOf "_law_statements" "_law_statements" (aO b4) (aN b4) (aq b4) .none jO jP jQ jN gJ jR),tK⟩)
   (il:PySem.W.codeIn K gJ "_law_statements"=true)
   (ip:PySem.W.keepIn K (.ref b5)=true)
   (mW:PySem.W.nsIn K mainGlobals "_law_worth"=some (some (.ref dq)))
   (mX:K.lookup dq=some ⟨AS,AQ,.func (PySem.W.fnOf "_law_worth" "_law_worth" (aO dg) (aN dg) (aq dg) .none sf si sj se kG sk),AR⟩)
   (mY:PySem.W.codeIn K kG "_law_worth"=true)
   (mZ:PySem.W.keepIn K (.ref dq)=true)
   (j3:PySem.W.nsIn K mainGlobals "_law_stepped"=some (some (.ref dN)))
   (j4:K.lookup dN=some ⟨xY,xW,.func (PySem.W.fnOf "_law_stepped" "_law_stepped" (aO cH) (aN cH) (aq cH) .none nW nX nY nV iZ nZ),xX⟩)
   (j5:PySem.W.codeIn K iZ "_law_stepped"=true)
   (j6:PySem.W.keepIn K (.ref dN)=true)
   (kR:PySem.W.nsIn K mainGlobals "_law_walked"=some (some (.ref eL)))
   (kS:K.lookup eL=some ⟨Ac,Aa,.func (PySem.W.fnOf "_law_walked" "_law_walked" (aO cQ) (aN cQ) (aq cQ) .none pL pM pN pK jS pO),Ab⟩)
   (kT:PySem.W.codeIn K jS "_law_walked"=true)
   (kU:PySem.W.keepIn K (.ref eL)=true)
   (ql:PySem.W.nsIn K mainGlobals "_law_same"=some (some (.ref fO)))
   (qm:K.lookup fO=some ⟨C6,C4,.func (PySem.W.fnOf "_law_same" "_law_same" (aO eC) (aN eC) (aq eC) .none vE vF vG vD mF vH),C5⟩)
   (qo:PySem.W.codeIn K mF "_law_same"=true)
   (qp:PySem.W.keepIn K (.ref fO)=true)
   (Ia:PySem.W.nsIn K mainGlobals "law"=some (some (.ref By)))
   (Mo:K.lookup By=some ⟨Qa,PZ,.func (PySem.W.fnOf "law" "law" (aO uC) (aN uC) (aq uC) .none Me Mf Mg Md GG Mh),P0⟩)
   (Mp:PySem.W.codeIn K GG "law"=true)
   (Mq:PySem.W.keepIn K (.ref By)=true)
   (Dl:PySem.W.nsIn K mainGlobals "Chart"=some (some (.ref aX)))
   (Aj:PySem.W.plainGet K aX Str.empty=true)
   (Ak:PySem.W.hasDictIn K aX=true)
   (Al:PySem.W.plainOver K aX=true)
   (Am:PySem.W.findIn K (.ref aX) "__setattr__"=some (some (.builtin "object.__setattr__")))
   (m7:PySem.W.findIn K (.ref aX) "__init__"=some (some (.ref du)))
   (m8:K.lookup du=some ⟨AW,AU,.func (PySem.W.fnOf "__init__" "Chart.__init__" (aO dh) (aN dh) (aq dh) .none su sF sG sr kH sH),AV⟩)
   (m9:PySem.W.codeIn K kH "Chart.__init__"=true)
   (ng:PySem.W.keepIn K (.ref du)=true)
   (nh:PySem.W.isFn K (.ref du)=true)
   (o8:PySem.W.makesIn K aX=true)
   (An:PySem.W.keepIn K (.ref aX)=true)
   (dP:PySem.W.findIn K (.ref aX) "names"=some none)
   (dQ:PySem.W.findIn K (.ref aX) "sizes"=some none)
   (eW:PySem.W.findIn K (.ref aX) "first"=some none)
   (bZ:PySem.W.findIn K (.ref aX) "statements"=some none)
   (dC:PySem.W.findIn K (.ref aX) "ways"=some none)
   (GL:PySem.W.nsIn K mainGlobals "Walk"=some (some (.ref b3)))
   (Dm:PySem.W.plainGet K b3 Str.empty=true)
   (Dn:PySem.W.hasDictIn K b3=true)
   (Dq:PySem.W.plainOver K b3=true)
   (Dr:PySem.W.findIn K (.ref b3) "__setattr__"=some (some (.builtin "object.__setattr__")))
   (qr:PySem.W.findIn K (.ref b3) "__init__"=some (some (.ref eG)))
   (qt:K.lookup eG=some ⟨C9,C7,.func (PySem.W.fnOf "__init__" "Walk.__init__" (aO eD) (aN eD) (aq eD) .none vJ vK vL vI mG vM),C8⟩)
   (qu:PySem.W.codeIn K mG "Walk.__init__"=true)
   (qv:PySem.W.keepIn K (.ref eG)=true)
   (qw:PySem.W.isFn K (.ref eG)=true)
   (uQ:PySem.W.makesIn K b3=true)
   (Ds:PySem.W.keepIn K (.ref b3)=true)
   (gm:PySem.W.findIn K (.ref b3) "look_for_end"=some (some (.ref bJ)))
   (gn:K.lookup bJ=some ⟨pR,pP,.func (PySem.W.fnOf "look_for_end" "Walk.look_for_end" (aO bI) (aN bI) (aq bI) .none iQ iR iS iP fT iT),pQ⟩)
   (gp:PySem.W.codeIn K fT "Walk.look_for_end"=true)
   (eS:PySem.W.keepIn K (.ref bJ)=true)
   (gu:PySem.W.isFn K (.ref bJ)=true)
   (iE:PySem.W.findIn K (.ref b3) "is_at_ask"=some (some (.ref ck)))
   (iF:K.lookup ck=some ⟨vP,vN,.func (PySem.W.fnOf "is_at_ask" "Walk.is_at_ask" (aO cg) (aN cg) (aq cg) .none km kn ko kl ig kr),vO⟩)
   (iG:PySem.W.codeIn K ig "Walk.is_at_ask"=true)
   (gg:PySem.W.keepIn K (.ref ck)=true)
   (iH:PySem.W.isFn K (.ref ck)=true)
   (nj:PySem.W.findIn K (.ref b3) "go_on"=some (some (.ref dv)))
   (nr:K.lookup dv=some ⟨AZ,AX,.func (PySem.W.fnOf "go_on" "Walk.go_on" (aO di) (aN di) (aq di) .none sJ sL sM sI kI sN),AY⟩)
   (nu:PySem.W.codeIn K kI "Walk.go_on"=true)
   (jz:PySem.W.keepIn K (.ref dv)=true)
   (nv:PySem.W.isFn K (.ref dv)=true)
   (eO:PySem.W.findIn K (.ref b3) "chart"=some none)
   (c6:PySem.W.findIn K (.ref b3) "figures"=some none)
   (dE:PySem.W.findIn K (.ref b3) "taken"=some none)
   (bL:PySem.W.findIn K (.ref b3) "standing"=some none)
   (cK:PySem.W.findIn K (.ref b3) "end"=some none)
   (Mr:PySem.W.nsIn K mainGlobals "END"=some (some (.int 0 Rx)))
   (fE:PySem.W.nsIn K mainGlobals "len"=some none)
   (ic:PySem.W.nsIn K mainGlobals "range"=some none)
   (EB:PySem.W.nsIn K mainGlobals "int"=some none)
   (zk:PySem.W.nsIn K mainGlobals "bool"=some none)
   (mw:PySem.W.nsIn K mainGlobals "dict"=some none)
   (tj:PySem.W.nsIn K mainGlobals "list"=some none)
   (ki:PySem.W.nsIn K mainGlobals "tuple"=some none)
   (EC:PySem.W.nsIn K mainGlobals "max"=some none)
   (ED:PySem.W.nsIn K mainGlobals "min"=some none)
   (fq:PySem.W.nsIn K mainGlobals "isinstance"=some none)
   (iO:PySem.W.nsIn K mainGlobals "enumerate"=some none)
   (Bz:PySem.W.nsIn K mainGlobals "zip"=some none)
   : ∃ fd:FuncData,(∀ (s:Shared) (v:Value),BindsTo s fd ⟨[v],[]⟩ [("script",v)])∧∀ base:Heap,K.In base→base.Ns mainGlobals mg→bW l.prog w K mg base CX0 30 fa fd ["script"] (Hi K):=by
 have e:=hfa.symm.trans (PySem.W.mg_of X G Ia)
 cases e
 have Ms:=b7 (st:=mh) GI GJ GK
 have Qb:=Ms.binds (ps:=["program"]) fun _ _ _ _ _ _ us hl=>match us,hl with | [_],_=>rfl
 have qx:=b7 (st:=cF) jU jV jW
 have Ao:=qx.binds (ps:=["body", "behind"]) fun _ _ _ _ _ _ us hl=>match us,hl with | [_,_],_=>rfl
 have xF:=b7 (st:=d7) pT pU pV
 have E9:=xF.binds (ps:=["body", "behind"]) fun _ _ _ _ _ _ us hl=>match us,hl with | [_,_],_=>rfl
 have sO:=b7 (st:=cO) kK kL kM
 have A0:=sO.binds (ps:=["statement", "after"]) fun _ _ _ _ _ _ us hl=>match us,hl with | [_,_],_=>rfl
 have BM:=b7 (st:=fW) wK wL wM
 have Jy:=BM.binds (ps:=["statement", "after"]) fun _ _ _ _ _ _ us hl=>match us,hl with | [_,_],_=>rfl
 have xG:=b7 (st:=d9) pX pY pZ
 have Fb:=xG.binds (ps:=["statement"]) fun _ _ _ _ _ _ us hl=>match us,hl with | [_],_=>rfl
 have n9:=b7 (st:=cw) i3 i4 i5
 have xZ:=n9.binds (ps:=["body"]) fun _ _ _ _ _ _ us hl=>match us,hl with | [_],_=>rfl
 have Ib:=b7 (st:=jr) Dd De Df
 have Ny:=Ib.binds (ps:=["e", "values"]) fun _ _ _ _ _ _ us hl=>match us,hl with | [_,_],_=>rfl
 have BN:=b7 (st:=fX) wO wQ wR
 have Jz:=BN.binds (ps:=["chart", "row"]) fun _ _ _ _ _ _ us hl=>match us,hl with | [_,_],_=>rfl
 have Ap:=b7 (st:=e8) tN tO tP
 have GN:=Ap.binds (ps:=["chart", "parts"]) fun _ _ _ _ _ _ us hl=>match us,hl with | [_,_],_=>rfl
 have Aq:=b7 (st:=fc) tR tS tT
 have GO:=Aq.binds (ps:=["chart", "named"]) fun _ _ _ _ _ _ us hl=>match us,hl with | [_,_],_=>rfl
 have Ic:=b7 (st:=js) Dh Di Dj
 have Nz:=Ic.binds (ps:=["chart", "standing"]) fun _ _ _ _ _ _ us hl=>match us,hl with | [_,_],_=>rfl
 have N6:=b7 (st:=uB) Mj Ml Mn
 have Ry:=N6.binds (ps:=["program", "figures", "bound"]) fun _ _ _ _ _ _ us hl=>match us,hl with | [_,_,_],_=>rfl
 have BO:=b7 (st:=fY) wV wW wX
 have JA:=BO.binds (ps:=["chart", "standing", "figure"]) fun _ _ _ _ _ _ us hl=>match us,hl with | [_,_,_],_=>rfl
 have j7:=b7 (st:=bS) gL gM gN
 have tU:=j7.binds (ps:=["chart", "standing"]) fun _ _ _ _ _ _ us hl=>match us,hl with | [_,_],_=>rfl
 have xH:=b7 (st:=eu) p9 qb qc
 have Fc:=xH.binds (ps:=["deck"]) fun _ _ _ _ _ _ us hl=>match us,hl with | [_],_=>rfl
 have Fd:=b7 (st:=hV) Ag Ah Ai
 have Mu:=Fd.binds (ps:=["deck", "boxes", "deep"]) fun _ _ _ _ _ _ us hl=>match us,hl with | [_,_,_],_=>rfl
 have vQ:=b7 (st:=dc) mI mJ mK
 have Dt:=vQ.binds (ps:=["deck"]) fun _ _ _ _ _ _ us hl=>match us,hl with | [_],_=>rfl
 have vR:=b7 (st:=de) mM mO mQ
 have Du:=vR.binds (ps:=["deck", "boxes", "k"]) fun _ _ _ _ _ _ us hl=>match us,hl with | [_,_,_],_=>rfl
 have vS:=b7 (st:=df) mT mU mV
 have Dv:=vS.binds (ps:=["pile"]) fun _ _ _ _ _ _ us hl=>match us,hl with | [_],_=>rfl
 have sP:=b7 (st:=cP) kO kP kQ
 have A1:=sP.binds (ps:=["boxes", "rows", "mode"]) fun _ _ _ _ _ _ us hl=>match us,hl with | [_,_,_],_=>rfl
 have qy:=b7 (st:=cG) jY jZ j0
 have Ar:=qy.binds (ps:=["deck", "many"]) fun _ _ _ _ _ _ us hl=>match us,hl with | [_,_],_=>rfl
 have xI:=b7 (st:=eA) qe qf qg
 have Fe:=xI.binds (ps:=["rows"]) fun _ _ _ _ _ _ us hl=>match us,hl with | [_],_=>rfl
 have BP:=b7 (st:=fZ) wZ w5 w9
 have JB:=BP.binds (ps:=["rows", "matches", "at"]) fun _ _ _ _ _ _ us hl=>match us,hl with | [_,_,_],_=>rfl
 have xJ:=b7 (st:=eB) qi qj qk
 have Ff:=xJ.binds (ps:=["rows"]) fun _ _ _ _ _ _ us hl=>match us,hl with | [_],_=>rfl
 have kx:=b7 (st:=b4) ik il ip
 have vT:=kx.binds (ps:=["body"]) fun _ _ _ _ _ _ us hl=>match us,hl with | [_],_=>rfl
 have vU:=b7 (st:=dg) mX mY mZ
 have Dw:=vU.binds (ps:=["e", "values"]) fun _ _ _ _ _ _ us hl=>match us,hl with | [_,_],_=>rfl
 have qz:=b7 (st:=cH) j4 j5 j6
 have As:=qz.binds (ps:=["boxes", "statement", "ways", "values", "figure"]) fun _ _ _ _ _ _ us hl=>match us,hl with | [_,_,_,_,_],_=>rfl
 have sQ:=b7 (st:=cQ) kS kT kU
 have A2:=sQ.binds (ps:=["program", "rows", "figures", "bound"]) fun _ _ _ _ _ _ us hl=>match us,hl with | [_,_,_,_],_=>rfl
 have xK:=b7 (st:=eC) qm qo qp
 have Fg:=xK.binds (ps:=["found", "due"]) fun _ _ _ _ _ _ us hl=>match us,hl with | [_,_],_=>rfl
 have N7:=b7 (st:=uC) Mo Mp Mq
 have Rz:=N7.binds (ps:=["script"]) fun _ _ _ _ _ _ us hl=>match us,hl with | [_],_=>rfl
 have jx:=b7 (st:=dh) m8 m9 ng
 have Dx:=jx.binds (ps:=["self", "program"]) fun _ _ _ _ _ _ us hl=>match us,hl with | [_,_],_=>rfl
 have kh:=b7 (st:=eD) qt qu qv
 have Fh:=kh.binds (ps:=["self", "chart", "figures"]) fun _ _ _ _ _ _ us hl=>match us,hl with | [_,_,_],_=>rfl
 have eR:=b7 (st:=bI) gn gp eS
 have rg:=eR.binds (ps:=["self"]) fun _ _ _ _ _ _ us hl=>match us,hl with | [_],_=>rfl
 have gf:=b7 (st:=cg) iF iG gg
 have xa:=gf.binds (ps:=["self"]) fun _ _ _ _ _ _ us hl=>match us,hl with | [_],_=>rfl
 have jy:=b7 (st:=di) nr nu jz
 have Dy:=jy.binds (ps:=["self"]) fun _ _ _ _ _ _ us hl=>match us,hl with | [_],_=>rfl
 let t:Ad:=⟨mm,
   PySem.W.fnOf "flow" "flow" (aO mh) (aN mh) (aq mh) .none HW HX HY HV CJ HZ,
   cI,
   PySem.W.fnOf "flow_of_body" "flow_of_body" (aO cF) (aN cF) (aq cF) .none nK nL nM nJ iX nN,
   cV,
   PySem.W.fnOf "first_row" "first_row" (aO d7) (aN d7) (aq d7) .none u0 vc vd uZ mz ve,
   dy,
   PySem.W.fnOf "behind_body" "behind_body" (aO cO) (aN cO) (aq cO) .none pj pz pA ph jL pB,
   gP,
   PySem.W.fnOf "ways_of" "ways_of" (aO fW) (aN fW) (aq fW) .none zw zx zy zv tD zz,
   eE,
   PySem.W.fnOf "bodies_in" "bodies_in" (aO d9) (aN d9) (aq d9) .none vg vh vi vf mB vj,
   bU,
   PySem.W.fnOf "statements_in" "statements_in" (aO cw) (aN cw) (aq cw) .none lL lM lN lK iD lO,
   ju,
   PySem.W.fnOf "worth" "worth" (aO jr) (aN jr) (aq jr) .none ET EU EV ES zF EW,
   iz,
   PySem.W.fnOf "word_at" "word_at" (aO fX) (aN fX) (aq fX) .none zH zI zJ zG tG zK,
   gG,
   PySem.W.fnOf "by_names" "by_names" (aO e8) (aN e8) (aq e8) .none xv xw xx xu pC xy,
   gH,
   PySem.W.fnOf "in_order" "in_order" (aO fc) (aN fc) (aq fc) .none xB xC xD xA pE xE,
   mn,
   PySem.W.fnOf "holds" "holds" (aO js) (aN js) (aq js) .none E5 E6 E7 E4 zL E8,
   zg,
   PySem.W.fnOf "run" "run" (aO uB) (aN uB) (aq uB) .none L9 Ma Mb L8 Gy Mc,
   iA,
   PySem.W.fnOf "step_by" "step_by" (aO fY) (aN fY) (aq fY) .none zN zO zP zM tH zQ,
   cy,
   PySem.W.fnOf "behind_condition" "behind_condition" (aO bS) (aN bS) (aq bS) .none jf jg jh je gk ji,
   cW,
   PySem.W.fnOf "_law_next" "_law_next" (aO eu) (aN eu) (aq eu) .none vm vn vo vk mC vp,
   hX,
   PySem.W.fnOf "_law_e" "_law_e" (aO hV) (aN hV) (aq hV) .none BH BI BJ BG wI BK,
   fe,
   PySem.W.fnOf "_law_boxes" "_law_boxes" (aO dc) (aN dc) (aq dc) .none rL rM rN rK kD rO,
   ff,
   PySem.W.fnOf "_law_plain" "_law_plain" (aO de) (aN de) (aq de) .none rQ rR rS rP kE rT,
   fh,
   PySem.W.fnOf "_law_close" "_law_close" (aO df) (aN df) (aq df) .none rW rX rY rV kF rZ,
   eK,
   PySem.W.fnOf "_law_number" "_law_number" (aO cP) (aN cP) (aq cP) .none pG pH pI pF jM pJ,
   dM,
   PySem.W.fnOf "_law_program" "_law_program" (aO cG) (aN cG) (aq cG) .none nP nQ nT nO iY nU,
   fM,
   PySem.W.fnOf "_law_ends" "_law_ends" (aO eA) (aN eA) (aq eA) .none vt vv vw vq mD vx,
   iB,
   PySem.W.fnOf "_law_to" "_law_to" (aO fZ) (aN fZ) (aq fZ) .none zW zX zY zV tI zZ,
   fN,
   PySem.W.fnOf "_law_ways" "_law_ways" (aO eB) (aN eB) (aq eB) .none vz vA vB vy mE vC,
   b5,
   PySem.W.fnOf "_law_statements" "_law_statements" (aO b4) (aN b4) (aq b4) .none jO jP jQ jN gJ jR,
   dq,
   PySem.W.fnOf "_law_worth" "_law_worth" (aO dg) (aN dg) (aq dg) .none sf si sj se kG sk,
   dN,
   PySem.W.fnOf "_law_stepped" "_law_stepped" (aO cH) (aN cH) (aq cH) .none nW nX nY nV iZ nZ,
   eL,
   PySem.W.fnOf "_law_walked" "_law_walked" (aO cQ) (aN cQ) (aq cQ) .none pL pM pN pK jS pO,
   fO,
   PySem.W.fnOf "_law_same" "_law_same" (aO eC) (aN eC) (aq eC) .none vE vF vG vD mF vH,
   fa,
   PySem.W.fnOf "law" "law" (aO uC) (aN uC) (aq uC) .none Me Mf Mg Md GG Mh,
   du,
   PySem.W.fnOf "__init__" "Chart.__init__" (aO dh) (aN dh) (aq dh) .none su sF sG sr kH sH,
   eG,
   PySem.W.fnOf "__init__" "Walk.__init__" (aO eD) (aN eD) (aq eD) .none vJ vK vL vI mG vM,
   bJ,
   PySem.W.fnOf "look_for_end" "Walk.look_for_end" (aO bI) (aN bI) (aq bI) .none iQ iR iS iP fT iT,
   ck,
   PySem.W.fnOf "is_at_ask" "Walk.is_at_ask" (aO cg) (aN cg) (aq cg) .none km kn ko kl ig kr,
   dv,
   PySem.W.fnOf "go_on" "Walk.go_on" (aO di) (aN di) (aq di) .none sJ sL sM sI kI sN,
   aX,
   b3⟩
 have T:Tx K mg t:=⟨⟨Ms,Qb,PySem.W.mg_of X G GH⟩,
   ⟨qx,Ao,PySem.W.mg_of X G jT⟩,
   ⟨xF,E9,PySem.W.mg_of X G pS⟩,
   ⟨sO,A0,PySem.W.mg_of X G kJ⟩,
   ⟨BM,Jy,PySem.W.mg_of X G wJ⟩,
   ⟨xG,Fb,PySem.W.mg_of X G pW⟩,
   ⟨n9,xZ,PySem.W.mg_of X G i0⟩,
   ⟨Ib,Ny,PySem.W.mg_of X G Dc⟩,
   ⟨BN,Jz,PySem.W.mg_of X G wN⟩,
   ⟨Ap,GN,PySem.W.mg_of X G tM⟩,
   ⟨Aq,GO,PySem.W.mg_of X G tQ⟩,
   ⟨Ic,Nz,PySem.W.mg_of X G Dg⟩,
   ⟨N6,Ry,PySem.W.mg_of X G Mi⟩,
   ⟨BO,JA,PySem.W.mg_of X G wU⟩,
   ⟨j7,tU,PySem.W.mg_of X G gK⟩,
   ⟨xH,Fc,PySem.W.mg_of X G p0⟩,
   ⟨Fd,Mu,PySem.W.mg_of X G Ae⟩,
   ⟨vQ,Dt,PySem.W.mg_of X G mH⟩,
   ⟨vR,Du,PySem.W.mg_of X G mL⟩,
   ⟨vS,Dv,PySem.W.mg_of X G mS⟩,
   ⟨sP,A1,PySem.W.mg_of X G kN⟩,
   ⟨qy,Ar,PySem.W.mg_of X G jX⟩,
   ⟨xI,Fe,PySem.W.mg_of X G qd⟩,
   ⟨BP,JB,PySem.W.mg_of X G wY⟩,
   ⟨xJ,Ff,PySem.W.mg_of X G qh⟩,
   ⟨kx,vT,PySem.W.mg_of X G ij⟩,
   ⟨vU,Dw,PySem.W.mg_of X G mW⟩,
   ⟨qz,As,PySem.W.mg_of X G j3⟩,
   ⟨sQ,A2,PySem.W.mg_of X G kR⟩,
   ⟨xK,Fg,PySem.W.mg_of X G ql⟩,
   ⟨N7,Rz,PySem.W.mg_of X G Ia⟩,
   jx,
   Dx,
   kh,
   Fh,
   eR,
   rg,
   ⟨gm,gu,eS⟩,
   gf,
   xa,
   ⟨iE,iH,gg⟩,
   jy,
   Dy,
   ⟨nj,nv,jz⟩,
   ⟨Aj,Ak,Al,Am⟩,
   PySem.W.mg_of X G Dl,
   ⟨o8,m7,nh,An⟩,
   dP,
   dQ,
   eW,
   bZ,
   dC,
   ⟨Dm,Dn,Dq,Dr⟩,
   PySem.W.mg_of X G GL,
   ⟨uQ,qr,qw,Ds⟩,
   eO,
   c6,
   dE,
   bL,
   cK,
   ⟨_,PySem.W.mg_of X G Mr,_,rfl⟩,
   PySem.W.mg_none_of X G fE,
   PySem.W.mg_none_of X G ic,
   PySem.W.mg_none_of X G EB,
   PySem.W.mg_none_of X G zk,
   PySem.W.mg_none_of X G mw,
   PySem.W.mg_none_of X G tj,
   PySem.W.mg_none_of X G ki,
   PySem.W.mg_none_of X G EC,
   PySem.W.mg_none_of X G ED,
   PySem.W.mg_none_of X G fq,
   PySem.W.mg_none_of X G iO,
   PySem.W.mg_none_of X G Bz⟩
 refine ⟨t.Ga,?_,fun base _ _=>PL T⟩
 exact fun s v=>.of_eq rfl
theorem walk {l:PySem.W.OpenLaw} {q:Program} {loose:List Str} {XP:(Str→Option Value)→Heap→Prop} {YP:World→Heap→Prop} {d:DefRec} {K:Params→PySem.W.Frag} (hn:l.most=some 63) (hdf:d.params.defaults=[])
   (hY:∀ (w:World) (h:Heap),YP w h→(K w.params).In h)
   (F:∀ (w:World) (mg:Str→Option Value) (fa:Addr) (h:Heap),(K w.params).In h→h.Ns mainGlobals mg→mg d.name=some (.ref fa)→
     ∃ fd:FuncData,(∀ (s:Shared) (u:Value),BindsTo s fd ⟨[u],[]⟩ [("script",u)])∧∀ base:Heap,(K w.params).In base→base.Ns mainGlobals mg→bW l.prog w (K w.params) mg base CX0 30 fa fd ["script"] (Hi (K w.params))) :
   PySem.W.WalkO q loose XP YP l.row.toRowW d [] (fun f vs=>PySem.call f vs):=
 L2.MG (n:=63) (k:=30) (x:="script") (CX:=fun _=>CX0) (sp:=fun w=>Hi (K w.params)) hn (by decide) hdf ⟨rfl,by decide,by decide⟩ hY F (fun _ _ a ns hl _ hS=>⟨a,ns,rfl,hS,hl,fun _=>rfl⟩) fun _ _ _ _ _ z=>z
end
end K16
end
theorem PySem.W.Fast.tw12701612644647669021 : True := trivial
theorem PySem.W.Fast.tw10865075954128960603 : True := trivial
theorem PySem.W.Fast.tw3145827882627088184 : True := trivial
theorem PySem.W.Fast.tw15240905873026875396 : True := trivial
theorem PySem.W.Fast.tw9781368978242862908 : True := trivial
theorem PySem.W.Fast.tw8786331486417710928 : True := trivial
theorem PySem.W.Fast.tw14889693589865252586 : True := trivial
theorem PySem.W.Fast.tw15775672802260633160 : True := trivial
theorem PySem.W.Fast.tw1782482278055631189 : True := trivial
theorem PySem.W.Fast.tw10921069234049561896 : True := trivial
theorem PySem.W.Fast.tw11007744324103220012 : True := trivial
theorem PySem.W.Fast.tw3935472075003336744 : True := trivial
theorem PySem.W.Fast.tw6781234988507721948 : True := trivial
theorem PySem.W.Fast.tw15502825472670894970 : True := trivial
theorem PySem.W.Fast.tw8264636630100380072 : True := trivial
theorem PySem.W.Fast.tw9293429686252946952 : True := trivial
theorem PySem.W.Fast.tw17897572750739810926 : True := trivial
theorem PySem.W.Fast.tw4649969378599565448 : True := trivial
theorem PySem.W.Fast.tw8246284885938484950 : True := trivial
theorem PySem.W.Fast.tw750960549154458766 : True := trivial
theorem PySem.W.Fast.tw17104111752513422841 : True := trivial
theorem PySem.W.Fast.tw7880353944819875606 : True := trivial
theorem PySem.W.Fast.tw76949330841219206 : True := trivial
theorem PySem.W.Fast.tw2489270508700057213 : True := trivial
theorem PySem.W.Fast.tw7269814114578012017 : True := trivial
theorem PySem.W.Fast.tw745129416229633345 : True := trivial
theorem PySem.W.Fast.tw10476572284635365385 : True := trivial
theorem PySem.W.Fast.tw13787771331314811146 : True := trivial
theorem PySem.W.Fast.tw13519615720521248719 : True := trivial
theorem PySem.W.Fast.tw6051766388507216949 : True := trivial
theorem PySem.W.Fast.tw8852471238889372296 : True := trivial
theorem PySem.W.Fast.tw3926196836792553577 : True := trivial
theorem PySem.W.Fast.tw317295696428602121 : True := trivial
open PySem PySem.W PyProof.Rows
set_option maxRecDepth 100000 in
set_option maxHeartbeats 0 in
theorem PySem.Challenge.cw_everyrow_k16_whole_runs_by_rows_holds : PySem.Challenge.rw_everyrow_k16_whole_runs_by_rows.Holds := by
 w_on; o_law; k_head; (case hw=>w_witness2)
 k_fill
 refine K16.walk (l:=PySem.Challenge.rw_everyrow_k16_whole_runs_by_rows) rfl rfl (fun w h Y=>PySem.W.kIn_of Y) ?F
 case F=>
   intro w mg fa h KX G hmg
   refine' K16.all_mk KX G hmg ?GH ?GI ?GJ ?GK ?jT ?jU ?jV ?jW ?pS ?pT ?pU ?pV ?kJ ?kK ?kL ?kM ?wJ ?wK ?wL ?wM ?pW ?pX ?pY ?pZ ?i0 ?i3 ?i4 ?i5 ?Dc ?Dd ?De ?Df ?wN ?wO ?wQ ?wR ?tM ?tN ?tO ?tP ?tQ ?tR ?tS ?tT ?Dg ?Dh ?Di ?Dj ?Mi ?Mj ?Ml ?Mn ?wU ?wV ?wW ?wX ?gK ?gL ?gM ?gN ?p0 ?p9 ?qb ?qc ?Ae ?Ag ?Ah ?Ai ?mH ?mI ?mJ ?mK ?mL ?mM ?mO ?mQ ?mS ?mT ?mU ?mV ?kN ?kO ?kP ?kQ ?jX ?jY ?jZ ?j0 ?qd ?qe ?qf ?qg ?wY ?wZ ?w5 ?w9 ?qh ?qi ?qj ?qk ?ij ?ik ?il ?ip ?mW ?mX ?mY ?mZ ?j3 ?j4 ?j5 ?j6 ?kR ?kS ?kT ?kU ?ql ?qm ?qo ?qp ?Ia ?Mo ?Mp ?Mq ?Dl ?Aj ?Ak ?Al ?Am ?m7 ?m8 ?m9 ?ng ?nh ?o8 ?An ?dP ?dQ ?eW ?bZ ?dC ?GL ?Dm ?Dn ?Dq ?Dr ?qr ?qt ?qu ?qv ?qw ?uQ ?Ds ?gm ?gn ?gp ?eS ?gu ?iE ?iF ?iG ?gg ?iH ?nj ?nr ?nu ?jz ?nv ?eO ?c6 ?dE ?bL ?cK ?Mr ?fE ?ic ?EB ?zk ?mw ?tj ?ki ?EC ?ED ?fq ?iO ?Bz
   (case GH=>k_is)
   (case GI=>k_is)
   (case GJ=>k_is)
   (case GK=>k_is)
   (case jT=>k_is)
   (case jU=>k_is)
   (case jV=>k_is)
   (case jW=>k_is)
   (case pS=>k_is)
   (case pT=>k_is)
   (case pU=>k_is)
   (case pV=>k_is)
   (case kJ=>k_is)
   (case kK=>k_is)
   (case kL=>k_is)
   (case kM=>k_is)
   (case wJ=>k_is)
   (case wK=>k_is)
   (case wL=>k_is)
   (case wM=>k_is)
   (case pW=>k_is)
   (case pX=>k_is)
   (case pY=>k_is)
   (case pZ=>k_is)
   (case i0=>k_is)
   (case i3=>k_is)
   (case i4=>k_is)
   (case i5=>k_is)
   (case Dc=>k_is)
   (case Dd=>k_is)
   (case De=>k_is)
   (case Df=>k_is)
   (case wN=>k_is)
   (case wO=>k_is)
   (case wQ=>k_is)
   (case wR=>k_is)
   (case tM=>k_is)
   (case tN=>k_is)
   (case tO=>k_is)
   (case tP=>k_is)
   (case tQ=>k_is)
   (case tR=>k_is)
   (case tS=>k_is)
   (case tT=>k_is)
   (case Dg=>k_is)
   (case Dh=>k_is)
   (case Di=>k_is)
   (case Dj=>k_is)
   (case Mi=>k_is)
   (case Mj=>k_is)
   (case Ml=>k_is)
   (case Mn=>k_is)
   (case wU=>k_is)
   (case wV=>k_is)
   (case wW=>k_is)
   (case wX=>k_is)
   (case gK=>k_is)
   (case gL=>k_is)
   (case gM=>k_is)
   (case gN=>k_is)
   (case p0=>k_is)
   (case p9=>k_is)
   (case qb=>k_is)
   (case qc=>k_is)
   (case Ae=>k_is)
   (case Ag=>k_is)
   (case Ah=>k_is)
   (case Ai=>k_is)
   (case mH=>k_is)
   (case mI=>k_is)
   (case mJ=>k_is)
   (case mK=>k_is)
   (case mL=>k_is)
   (case mM=>k_is)
   (case mO=>k_is)
   (case mQ=>k_is)
   (case mS=>k_is)
   (case mT=>k_is)
   (case mU=>k_is)
   (case mV=>k_is)
   (case kN=>k_is)
   (case kO=>k_is)
   (case kP=>k_is)
   (case kQ=>k_is)
   (case jX=>k_is)
   (case jY=>k_is)
   (case jZ=>k_is)
   (case j0=>k_is)
   (case qd=>k_is)
   (case qe=>k_is)
   (case qf=>k_is)
   (case qg=>k_is)
   (case wY=>k_is)
   (case wZ=>k_is)
   (case w5=>k_is)
   (case w9=>k_is)
   (case qh=>k_is)
   (case qi=>k_is)
   (case qj=>k_is)
   (case qk=>k_is)
   (case ij=>k_is)
   (case ik=>k_is)
   (case il=>k_is)
   (case ip=>k_is)
   (case mW=>k_is)
   (case mX=>k_is)
   (case mY=>k_is)
   (case mZ=>k_is)
   (case j3=>k_is)
   (case j4=>k_is)
   (case j5=>k_is)
   (case j6=>k_is)
   (case kR=>k_is)
   (case kS=>k_is)
   (case kT=>k_is)
   (case kU=>k_is)
   (case ql=>k_is)
   (case qm=>k_is)
   (case qo=>k_is)
   (case qp=>k_is)
   (case Ia=>k_is)
   (case Mo=>k_is)
   (case Mp=>k_is)
   (case Mq=>k_is)
   (case Dl=>k_is)
   (case Aj=>k_is)
   (case Ak=>k_is)
   (case Al=>k_is)
   (case Am=>k_is)
   (case m7=>k_is)
   (case m8=>k_is)
   (case m9=>k_is)
   (case ng=>k_is)
   (case nh=>k_is)
   (case o8=>k_is)
   (case An=>k_is)
   (case dP=>k_is)
   (case dQ=>k_is)
   (case eW=>k_is)
   (case bZ=>k_is)
   (case dC=>k_is)
   (case GL=>k_is)
   (case Dm=>k_is)
   (case Dn=>k_is)
   (case Dq=>k_is)
   (case Dr=>k_is)
   (case qr=>k_is)
   (case qt=>k_is)
   (case qu=>k_is)
   (case qv=>k_is)
   (case qw=>k_is)
   (case uQ=>k_is)
   (case Ds=>k_is)
   (case gm=>k_is)
   (case gn=>k_is)
   (case gp=>k_is)
   (case eS=>k_is)
   (case gu=>k_is)
   (case iE=>k_is)
   (case iF=>k_is)
   (case iG=>k_is)
   (case gg=>k_is)
   (case iH=>k_is)
   (case nj=>k_is)
   (case nr=>k_is)
   (case nu=>k_is)
   (case jz=>k_is)
   (case nv=>k_is)
   (case eO=>k_is)
   (case c6=>k_is)
   (case dE=>k_is)
   (case bL=>k_is)
   (case cK=>k_is)
   (case Mr=>k_is)
   (case fE=>k_is)
   (case ic=>k_is)
   (case EB=>k_is)
   (case zk=>k_is)
   (case mw=>k_is)
   (case tj=>k_is)
   (case ki=>k_is)
   (case EC=>k_is)
   (case ED=>k_is)
   (case fq=>k_is)
   (case iO=>k_is)
   (case Bz=>k_is)
