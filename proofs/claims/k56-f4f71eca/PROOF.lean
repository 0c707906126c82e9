import PyProof.Rows.All
import Wide.All
import OpenK.AllK
import Wide.FinOn
import Lean
import PyProof.EqAt
import PyProof.EqKinds
import PyProof.TupleCall
import PyProof.AttrMiss
import PyProof.IsiH_list
import PyProof.ZipIter
import PyProof.P3In
import PySem.Challenge.RW_everyrow_k56_changes_in_order
set_option compiler.extract_closed false
set_option Elab.async false
set_option linter.all false
set_option maxRecDepth 100000
open PySem.W renaming Frag->Za,kitOne->ZZ,kia_one->Z1,nsIn->Xj,mg_none_of->Xn,fnOf->XA,kitx_list->X0,mg_of->X7,kia_tup->WO,keepIn->WR,codeIn->WS,kitAny->WT,kitx_tuple->WV,methodObj->WX,instObj->Ye,cellsFrom_some->Yf,lookIn->Yk,findIn->Yl
open List renaming length_map->Zb,length_append->Zc,getElem?_eq_getElem->Zd,length_cons->Ze,mem_cons->Zf,mem_append->Zg,mem_singleton->Zh,getElem?_eq_some_iff->Zi,mem_cons_of_mem->Zk,map_append->Zl,length_singleton->Zm,mem_map->Zp,getElem?_map->Zq,append_nil->Zr,mem_cons_self->Zt,getElem_mem->Zu,size_toArray->Zv,take_length->Zw,mem_append_right->Zz,append_assoc->ZA,flatten_append->ZC,map_cons->ZD,replicate->ZF,flatten_cons->ZG,getD_eq_getElem?_getD->ZH,not_mem_nil->ZI,length_nil->ZJ,length_take->ZK,map_map->ZL,take_succ_eq_append_getElem->ZM,range->ZO,flatMap_append->ZR,mem_append_left->ZU,take_add_one->ZV,length_drop->ZW,mem_flatten->ZY,nodup_cons->Z0,getElem?_append_right->Z3,mem_of_getElem?->Z4,length->Z6,pairwise_cons->Z7,mem_iff_getElem->Z9,flatten_nil->Xa,flatMap_cons->Xc,nodup_append->Xd,getElem?_append_left->Xe,nil_append->Xf,cons_append->Xg,lookup_cons->Xh,set->Xi,take_of_length_le->Xl,take_append_drop->Xm,length_set->Xq,map_congr_left->Xs,nodup_nil->Xt,map_flatMap->Xu,getElem?_set_self->Xv,getElem?_set_ne->Xx,pairwise_append->Xy,map_nil->Xz,replicate_succ->XD,length_pos_iff->XE,find?_cons->XF,drop_zero->XJ,take_zero->XM,pairwise_iff_getElem->XO,getLast?_eq_getElem?->XR,drop_eq_getElem_cons->XS,getElem_append_left->XU,pairwise_singleton->XY,drop_of_length_le->X4,any_cons->X6,filterMap_cons->WQ,mem_filterMap->WU,reverse_cons->WW,mem_or_eq_of_mem_set->WY,getElem_append_right->WZ,getElem_inj->W2,mem_flatMap->W6,flatMap_nil->W8,getElem?_replicate->W9,getElem?_cons_succ->Ya,length_eq_zero_iff->Yb,of_mem_zip->Yd,length_replicate->Yh,tail_cons->Yi,take_succ->Yj,mem_of_mem_take->Ym,map_take->Yo,getElem_of_mem->Yp,zipWith->Yt,getElem?_take->Yw,map_singleton->Yx,take_sublist->Yy,foldl->YD
open PySem.Str renaming ofString->Zj
open Nat renaming le_refl->Zn,zero_le->ZN,pow_le_pow_right->ZP,lt_of_lt_of_le->ZQ,le_trans->ZT,ne_of_lt->Xb,lt_irrefl->Xw,le_succ_of_le->XI,min_eq_left->WM,le_of_lt->W0,sub_zero->W5,min_eq_right->W7,lt_of_le_of_lt->Ys,pow_succ->Yu
open Bool renaming false_ne_true->Zo,and_eq_true->Z8,false_eq_true->XG,eq_iff_iff->X9,true_and->Yn
open PySem.F renaming plainAttrs_list->Zs,slot_list_append->Zx,type_list_append->Zy,slot_list_extend->XB,type_list_extend->XC,args_tuple_add_2->XX,entry_tuple_add->XZ,slot_tuple_add->X5,slot_dict_get->X8,args_dict_get_3->Yc,entry_dict_get->Yg
open Or renaming inl->ZE,inr->XT
open Option renaming map_eq_some_iff->ZS,some->Z5,map_some->Xk,isSome_iff_exists->W4,toList_some->Yv,isSome_map->Yz,none->YA
open Array renaming length_toList->ZX,append_assoc->Yq,toList->Yr
open Int renaming toNat_natCast->Z2,le_refl->Xp,mul_le_mul_of_nonneg_right->Xr,emod_lt_of_pos->XH,emod_nonneg->XQ,le_trans->XW,mul_le_mul_of_nonpos_right->WN,add_mul->YB,one_mul->YC
open PyProof.Rows renaming slot_tuple_getitem->Xo,callWith_type1->XN
open PySem renaming Addr->YE,Value->YF,World->YG,wpAny_bind->YH,wpAny_pure->YI,wpAny_holding->YJ,starEach->YK,mainGlobals->YL,sizeLine->YM,FuncData->YN,Shared->YO,Around->YQ,Program->YR
noncomputable section
namespace L2
open PySem PySem.Spec PyProof.Rows
abbrev Key:=Sum Int Str
def rW:Key->YF->Bool
 |.inl k,v=>Value.isInt k v
 |.inr x,v=>Value.isStrOf x v
def N2 (w:YG):Key->Int
 |.inl k=>hashInt k
 |.inr x=>hashStr w x
theorem dJ:∀ {k:Key} {v:YF},rW k v=true->(∃i t,k=Sum.inl i/\v=Value.int i t)\/(∃x t,k=Sum.inr x/\v=Value.str x t)
 |.inl i,v,h=>by
  obtain⟨t,e⟩:=Value.isInt_shape (k:=i) (v:=v) h;exact .inl ⟨i,t,rfl,e⟩
 |.inr x,v,h=>by
  obtain⟨t,e⟩:=Value.isStrOf_shape (x:=x) (v:=v) h;exact .inr ⟨x,t,rfl,e⟩
theorem A1(i:Int)(t:Tok):rW (.inl i) (.int i t)=true:=by simp[rW,Value.isInt]
theorem A2(x:Str)(t:Tok):rW (.inr x) (.str x t)=true:=by simp[rW,Value.isStrOf]
theorem Ht(a b:Int):decide ((Sum.inl a:Key)=Sum.inl b)=(a==b):=by
 by_cases e:a=b
 ·subst e;simp
 ·have h:¬(Sum.inl a:Key)=Sum.inl b:=fun q=>e (Sum.inl.inj q);rw[decide_eq_false h];exact(beq_eq_false_iff_ne.mpr e).symm
theorem Hu(a b:Str):decide ((Sum.inr a:Key)=Sum.inr b)=decide (a=b):=by
 by_cases e:a=b
 ·subst e;simp
 ·have h:¬(Sum.inr a:Key)=Sum.inr b:=fun q=>e (Sum.inr.inj q);rw[decide_eq_false h,decide_eq_false e]
theorem Hv(a:Int)(b:Str):decide ((Sum.inl a:Key)=Sum.inr b)=false:=decide_eq_false (fun q=>nomatch q)
theorem Hw(a:Str)(b:Int):decide ((Sum.inr a:Key)=Sum.inl b)=false:=decide_eq_false (fun q=>nomatch q)
def cn (prog:YR) (w:YG):PySem.KeyKind prog w Key where
 is:=rW
 hash:=N2 w
 inj:=fun v a b ha hb=>by
  rcases dJ ha with ⟨i,t,rfl,rfl⟩ |⟨x,t,rfl,rfl⟩
  ·rcases dJ hb with ⟨j,u,rfl,e⟩ |⟨y,u,rfl,e⟩
   ·injection e with e1 _;rw[e1]
   ·exact nomatch e
  ·rcases dJ hb with ⟨j,u,rfl,e⟩ |⟨y,u,rfl,e⟩
   ·exact nomatch e
   ·injection e with e1 _;rw[e1]
 byValue:=fun k v h=>by
  rcases dJ h with ⟨i,t,rfl,rfl⟩ |⟨x,t,rfl,rfl⟩<;>rfl
 pyHash:=fun hv h=>by
  rcases dJ hv with ⟨i,t,rfl,rfl⟩ |⟨x,t,rfl,rfl⟩
  ·exact wpAny_pyHash_int h
  ·exact wpAny_pyHash_str h
 eqBool:=fun hu hv h=>by
  rcases dJ hu with ⟨i,t,rfl,rfl⟩ |⟨x,t,rfl,rfl⟩
  ·rcases dJ hv with ⟨j,u,rfl,rfl⟩ |⟨y,u,rfl,rfl⟩
   ·rw[Ht] at h;exact wpAny_eqBool_int h
   ·rw[Hv] at h;exact SeqAt.EqAt.int_str i t y u _ _ _ _ h
  ·rcases dJ hv with ⟨j,u,rfl,rfl⟩ |⟨y,u,rfl,rfl⟩
   ·rw[Hw] at h;exact SeqAt.EqAt.str_int x t j u _ _ _ _ h
   ·rw[Hu] at h;exact wpAny_eqBool_str h
 «strs»:=fun k x t v h=>by
  rcases dJ h with ⟨i,u,rfl,e⟩ |⟨y,u,rfl,e⟩
  ·exact nomatch e
  ·injection e with e1 _
   subst e1;cases v<;>rfl
theorem w5(prog:YR)(w:YG)(i:Int)(t:Tok):(cn prog w).is (.inl i) (.int i t)=true:=A1 i t
theorem w6(prog:YR)(w:YG)(x:Str)(t:Tok):(cn prog w).is (.inr x) (.str x t)=true:=A2 x t
inductive V where
 |f9 |bl (b:Bool) |int (i:Int) |str (x:Str) |B4 (b:Array UInt8) |JE (b:UInt64) |ref (a:YE) |ty (n:String)
 deriving DecidableEq
def RelV:V->YF->Prop
 |.f9,u=>u=Value.none
 |.bl b,u=>u=Value.bool b
 |.int i,u=>∃t,u=Value.int i t
 |.str x,u=>∃t,u=Value.str x t
 |.B4 b,u=>∃t,u=Value.bytes b t
 |.JE b,u=>∃t,u=Value.float b t
 |.ref a,u=>u=Value.ref a
 |.ty n,u=>u=Value.type n
abbrev Vals:List V->List YF->Prop:=Paired RelV
theorem Vals.length{xs:List V}{us:List YF}(r:Vals xs us):xs.length=us.length:=Paired.length r
theorem Vals.get:∀ {xs:List V} {us:List YF} {i:Nat} {x:V},Vals xs us->xs[i]?=some x->∃u,us[i]?=some u/\RelV x u
 |_,_,_,_,.nil,e=>by simp at e
 |_,_,0,_,.cons r _,e=>by simp at e;subst e;exact⟨_,rfl,r⟩
 |_,_,i+1,x,.cons _ t,e=>by
  obtain⟨u,h1,h2⟩:=Vals.get (i:=i) (x:=x) t (by simpa using e);exact⟨u,by simpa using h1,h2⟩
theorem Vals.set{x:V}{u:YF}(r:RelV x u):∀ {xs:List V} {us:List YF} (i:Nat),Vals xs us->Vals (xs.set i x) (us.set i u)
 |_,_,_,.nil=>.nil
 |_,_,0,.cons _ t=>.cons r t
 |_,_,i+1,.cons q t=>.cons q (Vals.set r i t)
theorem Vals.append:∀ {xs ys:List V} {us ws:List YF},Vals xs us->Vals ys ws->Vals (xs++ys) (us++ws)
 |_,_,_,_,.nil,s=>s
 |_,_,_,_,.cons r t,s=>.cons r (Vals.append t s)
theorem Vals.take:∀ {xs:List V} {us:List YF} (n:Nat),Vals xs us->Vals (xs.take n) (us.take n)
 |_,_,0,_=>.nil
 |_,_,_+1,.nil=>.nil
 |_,_,n+1,.cons r t=>.cons r (Vals.take n t)
theorem Vals.drop:∀ {xs:List V} {us:List YF} (n:Nat),Vals xs us->Vals (xs.drop n) (us.drop n)
 |_,_,0,r=>r
 |_,_,_+1,.nil=>.nil
 |_,_,n+1,.cons _ t=>Vals.drop n t
def ow:Option V->Option YF->Prop
 |some v,some u=>RelV v u
 |none,none=>True
 |_,_=>False
def KV {κ:Type}:List (κ×V)->List (κ×YF)->Prop:=Paired fun (p:κ×V) (q:κ×YF)=>p.1=q.1/\RelV p.2 q.2
def kV:Key->V
 |.inl i=>.int i
 |.inr x=>.str x
inductive HO where
 |lst (xs:List V)
 |tup (xs:List V)
 |dK (aJ:List (Key×V)) |dT (aJ:List (List Key×V))
 |set (S:Int->Bool) (n:Nat)
 |ins (C dx:YE) (fs:List (Str×V))
 |own (x:YE)
 |xd (fs:List (Str×V))
 |met (f x:YE)
 |JF (lo hi:Int)
 |yw (o:Obj) (u:HO)
 |EE (ps:Array YF)
 |ext (φ:Heap->Prop)
abbrev Hp:=YE->Option HO
def upd (H:Hp) (a:YE) (o:HO):Hp:=fun b=>if b=a then some o else H b
theorem af{H:Hp}{a:YE}{o:HO}:upd H a o a=some o:=by unfold upd;rw[if_pos rfl]
theorem aL{H:Hp}{a b:YE}{o:HO}(h:b≠a):upd H a o b=H b:=by unfold upd;rw[if_neg h]
theorem cY{H:Hp}{a b:YE}{o u:HO}(h:H a=some o)(h':H b=some u)(d:o≠u):a≠b:=by
 intro e;subst e;rw[h] at h';exact d (Z5.inj h')
theorem ao{H:Hp}{a b:YE}{o:HO}(h:H a=some o)(h':H b=none):a≠b:=by
 intro e;subst e;rw[h] at h';cases h'
section
variable(P:YR)(w:YG)
def dF (H:Hp) (h:Heap) (a:YE):HO->Prop
 |.lst xs=>xs.length<=YM/\∃(bC:List YF) (n:Nat),Vals xs bC/\h.get? a=some {cls:=.type "list",data:=.seq bC.toArray n}
 |.tup xs=>xs.length<=YM/\∃bC:List YF,Vals xs bC/\IsTup h a bC.toArray
 |.dK aJ=>aJ.length<=YM/\(a==sysModules)=false/\∃vs,KV aJ vs/\h.DictOf (cn P w) a vs
 |.dT aJ=>aJ.length<=YM/\(a==sysModules)=false/\∃xs:List (List Key×YE×YF),
  Paired (fun (p:List Key×V) (q:List Key×YE×YF)=>p.1=q.1/\H q.2.1=some (.tup (p.1.map kV))/\RelV p.2 q.2.2) aJ xs/\
  ∃o es ep,h.get? a=some o/\o.ExactDict/\o.data=.dict es ep/\es.toList=xs.map (entryOfKey (tupleKind (cn P w)))/\(xs.map (·.1)).Nodup
 |.set S n=>h.SetOf (intKind P w) a S n
 |.ins C dx fs=>H dx=some (.own a)/\fs.length<=1000/\dx≠a/\h.get? a=some (Ye C dx)/\
  ∃mA,h.Ns1 dx mA/\(∀f,ow (fs.lookup f) (mA f))/\PySem.Within mA (fs.map (·.1))
 |.own _=>∃o,h.get? a=some o
 |.xd fs=>∃mA,h.Ns1 a mA/\∀f,ow (fs.lookup f) (mA f)
 |.JF lo hi=>∃t u v,h.get? a=some {cls:=.type "range",data:=.fields #[.int lo t,.int hi u,.int 1 v]}
 |.yw o u=>h.get? a=some o/\dF H h a u
 |.EE ps=>h.get? a=some {cls:=.none,data:=.fields ps}
 |.met f x=>h.get? a=some (WX (.ref f) (.ref x))
 |.ext φ=>φ h/\(∃o,h.get? a=some o)/\∀h1 h2:Heap,φ h1->(∀o,h1.get? a=some o->h2.get? a=some o)->φ h2
def oW (H:Hp) (h:Heap):Prop:=∀a o,H a=some o->dF P w H h a o
end
section
variable{P:YR}{w:YG}{H H':Hp}{h h':Heap}{a:YE}{o:HO}
theorem dF.lt(x:dF P w H h a o):a<h.objs.size:=by
 cases o with
 |lst xs=>obtain⟨_,_,_,_,e⟩:=x;exact Heap.lt_size e
 |tup xs=>obtain⟨_,_,_,p⟩:=x;exact p.lt
 |dK aJ=>obtain⟨_,_,_,_,o,_,_,e,_⟩:=x;exact Heap.lt_size e
 |dT aJ=>obtain⟨_,_,_,_,o,_,_,e,_⟩:=x;exact Heap.lt_size e
 |set S n=>obtain⟨o,_,_,_,e,_⟩:=x;exact Heap.lt_size e
 |ins C dx fs=>obtain⟨_,_,_,e,_⟩:=x;exact Heap.lt_size e
 |own y=>obtain⟨_,e⟩:=x;exact Heap.lt_size e
 |xd fs=>obtain⟨_,⟨_,_,_,e,_⟩,_⟩:=x;exact Heap.lt_size e
 |JF lo hi=>obtain⟨_,_,_,e⟩:=x;exact Heap.lt_size e
 |yw ob u=>obtain⟨e,_⟩:=x;exact Heap.lt_size e
 |EE ps=>exact Heap.lt_size (show h.get? a=some _ from x)
 |met f y=>exact Heap.lt_size (show h.get? a=some _ from x)
 |ext φ=>obtain⟨_,⟨_,e⟩,_⟩:=x;exact Heap.lt_size e
theorem Paired.w8{α β:Type}{F G:α->β->Prop}:∀ {l₁:List α} {l₂:List β},Paired F l₁ l₂->(∀a b,F a b->G a b)->Paired G l₁ l₂
 |_,_,.nil,_=>.nil
 |_,_,.cons r t,f=>.cons (f _ _ r) (Paired.w8 t f)
theorem dF.iL(x:dF P w H h a o)(k:∀b u,(b=a\/H b=some (.own a))->h.get? b=some u->h'.get? b=some u)
 (ho:∀b,H b=some (.own a)->H' b=some (.own a)) (ht:∀b xs,H b=some (.tup xs)->H' b=some (.tup xs)):dF P w H' h' a o:=by
 induction o with
 |lst xs=>obtain⟨z,bC,n,r,e⟩:=x;exact⟨z,bC,n,r,k _ _ (.inl rfl) e⟩
 |tup xs=>obtain⟨z,bC,r,ob,e,c⟩:=x;exact⟨z,bC,r,ob,k _ _ (.inl rfl) e,c⟩
 |dK aJ=>obtain⟨z,y,vs,r,ob,es,ep,e,c⟩:=x;exact⟨z,y,vs,r,ob,es,ep,k _ _ (.inl rfl) e,c⟩
 |dT aJ=>
  obtain⟨z,y,xs,r,ob,es,ep,e,c⟩:=x;exact⟨z,y,xs,Paired.w8 r fun p q z=>⟨z.1,ht _ _ z.2.1,z.2.2⟩,ob,es,ep,k _ _ (.inl rfl) e,c⟩
 |set S n=>obtain⟨ob,es,ep,t,e,c⟩:=x;exact⟨ob,es,ep,t,k _ _ (.inl rfl) e,c⟩
 |ins C dx fs=>
  obtain⟨d,z,ne,e,mA,⟨od,es,ep,e2,c⟩,r⟩:=x;exact⟨ho _ d,z,ne,k _ _ (.inl rfl) e,mA,⟨od,es,ep,k _ _ (.inr d) e2,c⟩,r⟩
 |own y=>obtain⟨ob,e⟩:=x;exact⟨ob,k _ _ (.inl rfl) e⟩
 |xd fs=>obtain⟨mA,⟨od,es,ep,e,c⟩,r⟩:=x;exact⟨mA,⟨od,es,ep,k _ _ (.inl rfl) e,c⟩,r⟩
 |JF lo hi=>obtain⟨t,u,v,e⟩:=x;exact⟨t,u,v,k _ _ (.inl rfl) e⟩
 |yw ob u ih=>obtain⟨e,q⟩:=x;exact⟨k _ _ (.inl rfl) e,ih q⟩
 |EE ps=>
  have e:h.get? a=some {cls:=.none,data:=.fields ps}:=x;show h'.get? a=some {cls:=.none,data:=.fields ps};exact k a _ (.inl rfl) e
 |met f y=>
  have e:h.get? a=some (WX (.ref f) (.ref y)):=x;show h'.get? a=some (WX (.ref f) (.ref y));exact k a _ (.inl rfl) e
 |ext φ=>obtain⟨p,⟨o,e⟩,st⟩:=x;exact⟨st _ _ p fun o q=>k _ _ (.inl rfl) q,⟨o,k _ _ (.inl rfl) e⟩,st⟩
theorem oW.lt(x:oW P w H h)(e:H a=some o):a<h.objs.size:=(x a o e).lt
theorem oW.fresh(x:oW P w H h)(e:h.objs.size<=a):H a=none:=by
 cases q:H a with
 |none=>rfl
 |some u=>exact absurd (ZQ (x.lt q) e) (Xw _)
theorem oW.kept(x:oW P w H h)(k:∀b u,h.get? b=some u->h'.get? b=some u):oW P w H h':=fun a o e=>
 (x a o e).iL (fun b u _ q=>k b u q) (fun _ q=>q) fun _ _ q=>q
theorem oW.laid(x:oW P w H h)(k:∀b u,h.get? b=some u->h'.get? b=some u)(hp:h.objs.size<=a)(new:dF P w (upd H a o) h' a o):oW P w (upd H a o) h':=fun b u e=>by
 have hn:=x.fresh hp;by_cases hb:b=a
 ·subst hb;rw[af] at e;cases e;exact new
 ·rw[aL hb] at e;exact(x b u e).iL (fun c v _ q=>k c v q) (fun c q=>by rw[aL (ao q hn)];exact q) fun c xs q=>by rw[aL (ao q hn)];exact q
end
def Rd (H:Hp) (a:YE) (u:HO):Prop:=H a=some u\/∃o,H a=some (.yw o u)
theorem Rd.ok{P:YR}{w:YG}{H:Hp}{h:Heap}{a:YE}{u:HO}(r:Rd H a u)(x:oW P w H h):dF P w H h a u:=by
 rcases r with r |⟨o,r⟩
 ·exact x a u r
 ·obtain⟨_,q⟩:=x a _ r;exact q
def Kc:Option HO->Prop
 |some (.lst _)=>True
 |some (.dK _)=>True
 |some (.dT _)=>True
 |some (.set _ _)=>True
 |some (.ins _ _ _)=>True
 |some (.ext _)=>True
 |_=>False
section
variable{P:YR}{w:YG}{H:Hp}{h h':Heap}{x e:YE}{o':HO}
theorem oW.write(ok:oW P w H h)(mu:Kc (H x))(he:e=x\/H e=some (.own x))(k:∀b u,b≠e->h.get? b=some u->h'.get? b=some u)(JG:∃u,h'.get? e=some u)
 (new:dF P w (upd H x o') h' x o'):oW P w (upd H x o') h':=fun b u q=>by
 have Kd:∀c y,H c=some (.own y)->c≠x:=fun c y r z=>by subst z;rw[r] at mu;exact mu
 have N3:∀c xs,H c=some (.tup xs)->c≠x:=fun c xs r z=>by subst z;rw[r] at mu;exact mu
 by_cases hb:b=x
 ·subst hb;rw[af] at q;cases q;exact new
 ·rw[aL hb] at q;by_cases HB:b=e
  ·have q':H b=some (.own x):=by
    rcases he with z |z
    ·exact absurd (HB.trans z) hb
    ·rw[HB];exact z
   rw[q] at q';cases q';obtain⟨v,hv⟩:=JG;exact⟨v,by rw[HB];exact hv⟩
  ·refine(ok b u q).iL (fun c v hc r=>k c v ?_ r) (fun c r=>by rw[aL (Kd c b r)];exact r) fun c xs r=>by rw[aL (N3 c xs r)];exact r
   rcases hc with rfl |hc
   ·exact HB
   ·rintro rfl
    rcases he with z |z
    ·exact Kd c b hc z
    ·rw[hc] at z;cases z;exact hb rfl
end
structure Un(fs ex:List YE)(H H':Hp)(h h':Heap):Prop where
 keep:∀b o,h.get? b=some o->H b=none->b ∉ fs->b ∉ ex->h'.get? b=some o
 slot:∀b o,h.get? b=some o->H b=none->b∈fs->b ∉ ex->∃sl,h'.get? b=some {o with slots:=sl}
 free:∀b o,h.get? b=some o->H b=none->b ∉ ex->H' b=none
 there:∀b o,h.get? b=some o->b ∉ ex->∃o',h'.get? b=some o'
 qY:∀b xs,H b=some (.tup xs)->H' b=some (.tup xs)
 qg:∀b o u,H b=some (.yw o u)->H' b=some (.yw o u)
 qZ:∀b ps,H b=some (.EE ps)->∃more,H' b=some (.EE (ps++more))
section
variable{fs HC ex QS:List YE}{H H1 H2:Hp}{h h1 h2 h':Heap}{a x e:YE}{o:HO}
theorem Un.any(u:Un fs ex H H1 h h1){b:YE}{ob:Obj}(q:h.get? b=some ob)(n:H b=none)(hx:b ∉ ex):∃sl,h1.get? b=some {ob with slots:=sl}:=by
 by_cases hb:b∈fs
 ·exact u.slot b ob q n hb hx
 ·exact⟨ob.slots,u.keep b ob q n hb hx⟩
theorem Un.trans(a:Un fs ex H H1 h h1)(b:Un fs ex H1 H2 h1 h2):Un fs ex H H2 h h2 where
 keep:=fun c ob q n hc hx=>b.keep c ob (a.keep c ob q n hc hx) (a.free c ob q n hx) hc hx
 slot:=fun c ob q n hc hx=>by
  obtain⟨sl,e1⟩:=a.slot c ob q n hc hx;obtain⟨N4,e2⟩:=b.slot c _ e1 (a.free c ob q n hx) hc hx;exact⟨N4,e2⟩
 free:=fun c ob q n hx=>by
  obtain⟨o',e1⟩:=a.there c ob q hx;exact b.free c o' e1 (a.free c ob q n hx) hx
 there:=fun c ob q hx=>by
  obtain⟨o',e1⟩:=a.there c ob q hx;exact b.there c o' e1 hx
 qY:=fun c xs q=>b.qY c xs (a.qY c xs q)
 qg:=fun c ob xs q=>b.qg c ob xs (a.qg c ob xs q)
 qZ:=fun c ps q=>by
  obtain⟨m1,e1⟩:=a.qZ c ps q;obtain⟨m2,e2⟩:=b.qZ c _ e1;exact⟨m1++m2,by rw[e2,Yq]⟩
theorem Un.kept(k:∀b u,h.get? b=some u->h'.get? b=some u):Un fs ex H H h h':=
 ⟨fun b ob q _ _ _=>k b ob q,fun b ob q _ _ _=>⟨ob.slots,k b ob q⟩,fun _ _ _ n _=>n,fun b ob q _=>⟨ob,k b ob q⟩,fun _ _ q=>q,fun _ _ _ q=>q,fun _ ps q=>⟨#[],by rw[q];simp⟩⟩
theorem Un.refl:Un fs ex H H h h:=Un.kept fun _ _ q=>q
theorem Un.laid(k:∀b u,h.get? b=some u->h'.get? b=some u)(hp:h.objs.size<=a)(hn:H a=none):Un fs ex H (upd H a o) h h' where
 keep:=fun b u q _ _ _=>k b u q
 slot:=fun b u q _ _ _=>⟨u.slots,k b u q⟩
 free:=fun b u q n _=>by rw[aL (Xb (ZQ (Heap.lt_size q) hp))];exact n
 there:=fun b u q _=>⟨u,k b u q⟩
 qY:=fun b xs q=>by rw[aL (ao q hn)];exact q
 qg:=fun b u xs q=>by rw[aL (ao q hn)];exact q
 qZ:=fun b ps q=>⟨#[],by rw[aL (ao q hn),q];simp⟩
theorem Un.write(mu:Kc (H x))(he:e=x\/H e=some (.own x))(k:∀b u,b≠e->h.get? b=some u->h'.get? b=some u)(JG:∃u,h'.get? e=some u):Un fs ex H (upd H x o) h h':=by
 have hx:∀b,H b=none->b≠x:=fun b n z=>by subst z;rw[n] at mu;exact mu
 have hb:∀b,H b=none->b≠e:=fun b n z=>by
  subst z;rcases he with r |r
  ·exact hx b n r
  ·rw[n] at r;cases r
 have hm:∀b u,H b=some u->¬Kc (some u)->b≠x:=fun b u q nm z=>by subst z;rw[q] at mu;exact nm mu
 refine⟨fun b u q n _ _=>k b u (hb b n) q,fun b u q n _ _=>⟨u.slots,k b u (hb b n) q⟩,fun b u q n _=>by rw[aL (hx b n)];exact n,fun b u q _=>?_,
  fun b xs q=>by rw[aL (hm b _ q fun z=>z)];exact q,fun b u xs q=>by rw[aL (hm b _ q fun z=>z)];exact q,fun b ps q=>⟨#[],by rw[aL (hm b _ q fun z=>z),q];simp⟩⟩
 by_cases HB:b=e
 ·subst HB;exact JG
 ·exact⟨u,k b u HB q⟩
theorem Un.mono(u:Un fs ex H H1 h h1)(hs:∀b∈fs,b∈HC)(hx:∀b∈ex,b∈QS):Un HC QS H H1 h h1:=
 ⟨fun b ob q n hb he=>u.keep b ob q n (fun z=>hb (hs b z)) fun z=>he (hx b z),fun _ _ q n _ he=>u.any q n fun z=>he (hx _ z),fun b ob q n he=>u.free b ob q n fun z=>he (hx b z),fun b ob q he=>u.there b ob q fun z=>he (hx b z),u.qY,u.qg,u.qZ⟩
end
def Na (h:Heap) (H:Hp):List YE:=(ZO h.objs.size).filter fun a=>(H a).isSome
def vM (h:Heap) (H:Hp):Heap:=PySem.W.hideAll h (Na h H)
theorem A3(h:Heap)(H:Hp):(vM h H).objs.size=h.objs.size:=PySem.W.hideAll_size _ _
theorem B5{h:Heap}{H:Hp}{b:YE}{o:Obj}(e:h.get? b=some o)(n:H b=none):(vM h H).get? b=some o:=
 PySem.W.hideAll_get _ e fun hm=>by
  have q:(H b).isSome=true:=(List.mem_filter.mp hm).2;rw[n] at q;simp at q
theorem ET{h:Heap}{H:Hp}{b:YE}{o:Obj}(e:(vM h H).get? b=some o):h.get? b=some o/\H b=none:=by
 have e':h.get? b=some o:=PySem.W.of_hideAll (Na h H) e;refine⟨e',?_⟩;cases q:H b with
 |none=>rfl
 |some x=>
  have hm:b∈Na h H:=List.mem_filter.mpr ⟨List.mem_range.mpr (Heap.lt_size e'),by simp[q]⟩;have z:(vM h H).get? b=none:=PySem.W.hideAll_none (Na h H) hm;rw[z] at e;cases e
def EU (g h:Heap) (L:YE):List (YE×Obj):=(ZO h.objs.size).filterMap fun a=>if a=L\/(g.get? a).isSome=true then none else (h.get? a).map fun o=>(a,o)
def rest (g h:Heap) (L d:YE):List (YE×Obj):=(EU g h L).filter fun p=>decide (p.1≠d)
structure Mod(K:Za)(mg:Str->Option YF)(base:Heap):Prop where
 N5:K.In base
 glob:base.Ns YL mg
 blt:∃mb,base.Ns builtinsNs mb/\∀x:Str,x≠"__name__"->mb x=bootBuiltins x
 nolimit:base.NoLimit
structure Cx where
 prog:YR
 w:YG
 K:Za
 mg:Str->Option YF
 base:Heap
 A:YQ
 N:List Str
 s₀:YO
 H₀:Hp
 env:Env
 outer:List Env
 stack:List Env
 ex:List YE
 fn:Str->Bool
 calm:Bool
 pn:List (YE×Obj)
 xe:YF->YO->Prop
def jg (l:List Env):List YE:=l.filterMap (·.frame)
abbrev Cx.fs (X:Cx):List YE:=jg X.outer
def Ke (sc:Scope) (x:Str):Prop:=sc.names.lookup x=some .local\/sc.names.lookup x=some .cell\/sc.names.lookup x=some .free
def Loc (sc:Scope) (x:Str):Prop:=sc.names.lookup x=some .local\/sc.names.lookup x=some .cell
def Look (env:Env) (h:Heap) (m:Str->Option YF) (x:Str) (u:YF):Prop:=
 (env.kindOf x=some .local/\m x=some u)\/((env.kindOf x=some .cell\/env.kindOf x=some .free)/\∃c,env.cells.lookup x=some c/\h.IsCell c (some u))
structure Cx.Ok(X:Cx):Prop where
 mod:Mod X.K X.mg X.base
 kind:X.env.scope.kind=.function
 glob:X.env.globals=YL
 blt:X.env.builtins=builtinsNs
 above:X.s₀.heap.objs.size<=X.env.locals
 inj:∀x y c,X.env.cells.lookup x=some c->X.env.cells.lookup y=some c->x=y
 has:∀x,(X.env.kindOf x=some .cell\/X.env.kindOf x=some .free)->∃c,X.env.cells.lookup x=some c
 Kf:∀x c,X.fn x=true->X.env.cells.lookup x=some c->X.s₀.heap.objs.size<=c
 hd:X.calm=true->X.A.handled=none
 frames:X.A.frames=some X.stack
 Nb:X.stack=X.outer\/(X.stack=X.env::X.outer/\X.env.frame=some X.env.locals)
 QT:∀b∈X.ex,b≠X.env.locals/\∀x c,X.env.cells.lookup x=some c->c≠b
 bs:∀b o,X.base.get? b=some o->X.s₀.heap.get? b=some o/\X.H₀ b=none
 EF:X.base.objs.size<=X.s₀.heap.objs.size
 B6:∀b o,X.base.get? b=some o->b ∉ X.ex
 EW:∀b∈X.ex,b ∉ X.fs
 q0:X.s₀.heap.FunFrames X.base X.outer
 HD:∀b∈X.fs,X.H₀ b=none
structure Inv(X:Cx)(pins:List (YE×Obj))(σ:List (Option V))(H:Hp)(s:YO):Prop where
 ok:X.Ok
 os:s.os=X.s₀.os
 bare:AllBare s.gens
 base:Un X.fs X.ex X.H₀ H X.s₀.heap s.heap
 loc:∃m,s.heap.Ns X.env.locals m/\∀(i:Nat) (x:Str) (v:V),X.N[i]?=some x->σ[i]?=some (some v)->Ke X.env.scope x->∃u,RelV v u/\Look X.env s.heap m x u
 cell:∀x c,X.env.cells.lookup x=some c->∃v,s.heap.IsCell c v
 free:H X.env.locals=none
 nW:∀x c,X.env.cells.lookup x=some c->H c=none
 pin:∀p∈X.pn++pins,s.heap.get? p.1=some p.2/\H p.1=none/\p.1≠X.env.locals/\p.1 ∉ X.fs/\∀v,p.2.data≠.cell v
 fK:oW X.prog X.w H s.heap
 len:σ.length=X.N.length
section
variable{X:Cx}{pins:List (YE×Obj)}{σ:List (Option V)}{H H':Hp}{s:YO}{h':Heap}
theorem Cx.Ok.N6(ok:X.Ok){b:YE}{o:Obj}(e:X.base.get? b=some o):b ∉ X.fs:=fun hb=>by
 have:=(ok.q0.mem hb).1;rw[e] at this;cases this
theorem Inv.bs(I:Inv X pins σ H s):∀b o,X.base.get? b=some o->s.heap.get? b=some o/\H b=none:=fun b o e=>
 ⟨I.base.keep b o (I.ok.bs b o e).1 (I.ok.bs b o e).2 (I.ok.N6 e) (I.ok.B6 b o e),I.base.free b o (I.ok.bs b o e).1 (I.ok.bs b o e).2 (I.ok.B6 b o e)⟩
theorem Inv.bk(I:Inv X pins σ H s):∀b o,X.base.get? b=some o->s.heap.get? b=some o:=fun b o e=>(I.bs b o e).1
theorem Inv.mod(I:Inv X pins σ H s):Mod X.K X.mg X.base:=I.ok.mod
theorem Inv.rG(I:Inv X pins σ H s):X.K.In s.heap:=I.ok.mod.N5.keeps I.bk
theorem Inv.fr(I:Inv X pins σ H s):∃m,Fr X.base X.env.locals s.heap m:=
 let ⟨m,hn,_⟩:=I.loc
 ⟨m,hn,I.bk,ZT I.ok.EF I.ok.above⟩
theorem Inv.lt(I:Inv X pins σ H s):X.env.locals<s.heap.objs.size:=let ⟨_,hn,_⟩:=I.loc;hn.lt
theorem Inv.sz(I:Inv X pins σ H s):X.s₀.heap.objs.size<=s.heap.objs.size:=ZT I.ok.above (W0 I.lt)
theorem Inv.N7(I:Inv X pins σ H s){a:YE}(h:s.heap.objs.size<=a):a ∉ X.fs:=fun hb=>by
 obtain⟨_,o,ho,_⟩:=I.ok.q0.mem hb;exact absurd (ZQ (Heap.lt_size ho) (ZT I.sz h)) (Xw _)
theorem Inv.HE(I:Inv X pins σ H s):∀x c,X.env.cells.lookup x=some c->c≠X.env.locals:=fun x c e z=>by
 obtain⟨v,o,ho,hd⟩:=I.cell x c e;obtain⟨m,⟨o',es,ep,HF,S0,_⟩,_⟩:=I.loc;rw[z,HF] at ho;cases ho;rw[S0] at hd;cases hd
theorem Inv.q0(I:Inv X pins σ H s):s.heap.FunFrames X.base X.outer:=by
 have all:∀(l:List Env),(∀b∈jg l,b∈X.fs)->X.s₀.heap.FunFrames X.base l->s.heap.FunFrames X.base l:=by
  intro l
  induction l with
  |nil=>intro _ _;trivial
  |cons env r ih=>
   intro hs hl;obtain⟨hk,⟨L,o,hf,hn,ho,hd⟩,hr⟩:=hl;have hL:L∈X.fs:=hs L (by unfold jg;rw[WQ,hf];exact Zt);obtain⟨sl,e⟩:=I.base.slot L o ho (I.ok.HD L hL) hL fun z=>I.ok.EW L z hL;exact⟨hk,⟨L,_,hf,hn,e,hd⟩,ih (fun b hb=>hs b (by unfold jg;rw[WQ,hf];exact Zk _ hb)) hr⟩
 exact all X.outer (fun _ hb=>hb) I.ok.q0
theorem Inv.stack(I:Inv X pins σ H s):s.heap.FunFrames X.base X.stack:=by
 rcases I.ok.Nb with e |⟨e,hf⟩
 ·rw[e];exact I.q0
 ·rw[e];obtain⟨m,hn,_⟩:=I.loc;refine .cons (by rw[I.ok.kind];decide) hf hn ?_ I.q0;exact Heap.get?_none_of_le (ZT I.ok.EF I.ok.above)
theorem Inv.vN(I:Inv X pins σ H s):∀b∈jg X.stack,b∈X.env.locals::X.fs:=fun b hb=>by
 rcases I.ok.Nb with e |⟨e,hf⟩
 ·rw[e] at hb;exact Zk _ hb
 ·rw[e] at hb;unfold jg at hb;rw[WQ,hf] at hb;exact hb
theorem Inv.zy(I:Inv X pins σ H s):∀b∈jg X.stack,H b=none:=fun b hb=>by
 rcases Zf.mp (I.vN b hb) with e |hb
 ·rw[e];exact I.free
 ·obtain⟨_,o,ho,_⟩:=I.ok.q0.mem hb;exact I.base.free b o ho (I.ok.HD b hb) fun z=>I.ok.EW b z hb
theorem Inv.step{g':Array GenState}{t':Nat}{d':Drawn}{ch:List YE}(I:Inv X pins σ H s)
 (EG:∀b∈ch,(b∈X.ex\/X.s₀.heap.objs.size<=b)/\b≠X.env.locals/\(∀x c,X.env.cells.lookup x=some c->c≠b)/\∀p∈X.pn++pins,p.1≠b)
 (keep:∀b o,b≠X.env.locals->b ∉ X.fs->b ∉ ch->s.heap.get? b=some o->H b=none->h'.get? b=some o)
 (slot:∀b o,b≠X.env.locals->b∈X.fs->b ∉ ch->s.heap.get? b=some o->H b=none->∃sl,h'.get? b=some {o with slots:=sl}) (free:∀b o,b ∉ ch->s.heap.get? b=some o->H b=none->H' b=none)
 (there:∀b o,b ∉ ch->s.heap.get? b=some o->∃o',h'.get? b=some o')
 (qY:∀b xs,H b=some (.tup xs)->H' b=some (.tup xs)) (qg:∀b o u,H b=some (.yw o u)->H' b=some (.yw o u)) (qZ:∀b ps,H b=some (.EE ps)->∃more,H' b=some (.EE (ps++more)))
 (ns:∀m,s.heap.Ns X.env.locals m->h'.Ns X.env.locals m) (fK:oW X.prog X.w H' h') (hg:AllBare g') :
 Inv X pins σ H' {s with heap:=h',gens:=g',drawn:=d',toks:=t' }:=by
 have QU:∀b o,X.s₀.heap.get? b=some o->b≠X.env.locals:=fun b o e=>Xb (ZQ (Heap.lt_size e) I.ok.above);have Nc:∀b o,X.s₀.heap.get? b=some o->b ∉ X.ex->b ∉ ch:=fun b o e hx hb=>by
  rcases(EG b hb).1 with z |z
  ·exact hx z
  ·exact absurd (ZQ (Heap.lt_size e) z) (Xw _)
 have cellK:∀x c,X.env.cells.lookup x=some c->∀v,s.heap.IsCell c v->h'.IsCell c v:=fun x c e v ⟨o,ho,hd⟩=>by
  have Kg:c ∉ ch:=fun z=>(EG c z).2.2.1 x c e rfl;by_cases hc:c∈X.fs
  ·obtain⟨sl,q⟩:=slot c o (I.HE x c e) hc Kg ho (I.nW x c e);exact⟨_,q,hd⟩
  ·exact⟨o,keep c o (I.HE x c e) hc Kg ho (I.nW x c e),hd⟩
 refine⟨I.ok,I.os,hg,⟨fun b o e n hb hx=>?_,fun b o e n hb hx=>?_,fun b o e n hx=>?_,fun b o e hx=>?_,fun b xs e=>qY b xs (I.base.qY b xs e),fun b o xs e=>qg b o xs (I.base.qg b o xs e),fun b ps e=>?_⟩,?_,fun x c e=>?_,?_,fun x c e=>?_,fun p hp=>?_,fK,I.len⟩
 ·exact keep b o (QU b o e) hb (Nc b o e hx) (I.base.keep b o e n hb hx) (I.base.free b o e n hx)
 ·obtain⟨sl,e1⟩:=I.base.slot b o e n hb hx;obtain⟨N4,e2⟩:=slot b _ (QU b o e) hb (Nc b o e hx) e1 (I.base.free b o e n hx);exact⟨N4,e2⟩
 ·obtain⟨o',e1⟩:=I.base.there b o e hx;exact free b o' (Nc b o e hx) e1 (I.base.free b o e n hx)
 ·obtain⟨o',e1⟩:=I.base.there b o e hx;exact there b o' (Nc b o e hx) e1
 ·obtain⟨m1,e1⟩:=I.base.qZ b ps e;obtain⟨m2,e2⟩:=qZ b _ e1;exact⟨m1++m2,by rw[e2,Yq]⟩
 ·obtain⟨m,hn,hl⟩:=I.loc;refine⟨m,ns m hn,fun i x v e1 e2 e3=>?_⟩;obtain⟨u,r,l⟩:=hl i x v e1 e2 e3;refine⟨u,r,?_⟩;rcases l with l |⟨k,c,e,z⟩
  ·exact .inl l
  ·exact .inr ⟨k,c,e,cellK x c e _ z⟩
 ·obtain⟨v,z⟩:=I.cell x c e;exact⟨v,cellK x c e v z⟩
 ·obtain⟨m,⟨o,_,_,ho,_⟩,_⟩:=I.loc;exact free _ o (fun z=>(EG _ z).2.1 rfl) ho I.free
 ·obtain⟨v,o,ho,hd⟩:=I.cell x c e;exact free c o (fun z=>(EG c z).2.2.1 x c e rfl) ho (I.nW x c e)
 ·obtain⟨e,n,ne,nf,d⟩:=I.pin p hp;have Kg:p.1 ∉ ch:=fun z=>(EG p.1 z).2.2.2 p hp rfl;exact⟨keep p.1 p.2 ne nf Kg e n,free p.1 p.2 Kg e n,ne,nf,d⟩
theorem Inv.un{t':Nat}(I:Inv X pins σ H s)(u:Un X.fs [] H H' s.heap h')(fK:oW X.prog X.w H' h'):Inv X pins σ H' {s with heap:=h',toks:=t' }:=by
 obtain⟨m,⟨o,es,ep,ho,r⟩,_⟩:=id I.loc;obtain⟨sl,hL⟩:=u.any ho I.free (by simp);exact I.step (g':=s.gens) (d':=s.drawn) (ch:=[]) (fun _ z=>nomatch z) (fun b o _ hb _ e n=>u.keep b o e n hb (by simp)) (fun b o _ hb _ e n=>u.slot b o e n hb (by simp)) (fun b o _ e n=>u.free b o e n (by simp)) (fun b o _ e=>u.there b o e (by simp)) u.qY u.qg u.qZ (fun m' hm=>by
  obtain⟨o',N8,N9,HF,r'⟩:=hm;rw[ho] at HF;cases HF;exact⟨_,N8,N9,hL,r'⟩) fK I.bare
theorem Inv.call{g':Array GenState}{t':Nat}{d':Drawn}{ch:List YE}(I:Inv X pins σ H s)(u:Un (jg X.stack) ch H H' s.heap h')(fK:oW X.prog X.w H' h')(hg:AllBare g')
 (EG:∀b∈ch,(b∈X.ex\/X.s₀.heap.objs.size<=b)/\b≠X.env.locals/\(∀x c,X.env.cells.lookup x=some c->c≠b)/\∀p∈X.pn++pins,p.1≠b) :
 Inv X pins σ H' {s with heap:=h',gens:=g',drawn:=d',toks:=t' }:=by
 obtain⟨m,⟨o,es,ep,ho,r⟩,_⟩:=id I.loc;obtain⟨sl,hL⟩:=u.any ho I.free fun z=>(EG _ z).2.1 rfl;exact I.step (ch:=ch) EG (fun b o hL hb hc e n=>u.keep b o e n (fun z=>(Zf.mp (I.vN b z)).elim hL hb) hc) (fun b o _ _ hc e n=>u.any e n hc) (fun b o hc e n=>u.free b o e n hc) (fun b o hc e=>u.there b o e hc) u.qY u.qg u.qZ (fun m' hm=>by
  obtain⟨o',N8,N9,HF,r'⟩:=hm;rw[ho] at HF;cases HF;exact⟨_,N8,N9,hL,r'⟩) fK hg
theorem Inv.turned{t':Nat}{it:YE}(I:Inv X pins σ H s)(k:∀b o,b≠it->s.heap.get? b=some o->h'.get? b=some o)(hn:H it=none)(hL:it≠X.env.locals)
 (h1:it∈X.ex\/X.s₀.heap.objs.size<=it) (h2:∀x c,X.env.cells.lookup x=some c->c≠it) (h3:∀p∈X.pn++pins,p.1≠it):Inv X pins σ H {s with heap:=h',toks:=t' }:=by
 have QV:∀b u,H b=some u->b≠it:=fun b u e z=>by rw[z,hn] at e;cases e
 refine I.step (g':=s.gens) (d':=s.drawn) (ch:=[it]) (fun b hb=>?_) (fun b o _ _ hc e _=>k b o (fun z=>hc (by simp[z])) e) (fun b o _ _ hc e _=>⟨o.slots,k b o (fun z=>hc (by simp[z])) e⟩) (fun _ _ _ _ n=>n)
  (fun b o hc e=>⟨o,k b o (fun z=>hc (by simp[z])) e⟩) (fun _ _ e=>e) (fun _ _ _ e=>e) (fun b ps e=>⟨#[],by rw[e];simp⟩) (fun m hm=>?_) (fun b u e=>?_) I.bare
 ·have e:b=it:=by simpa using hb
  subst e;exact⟨h1,hL,h2,h3⟩
 ·obtain⟨o,es,ep,ho,r⟩:=hm;exact⟨o,es,ep,k _ o (Ne.symm hL) ho,r⟩
 ·refine(I.fK b u e).iL (fun c v hc q=>k c v ?_ q) (fun _ q=>q) fun _ _ q=>q;rcases hc with z |z
  ·rw[z];exact QV b u e
  ·exact QV c _ z
theorem Inv.tok(I:Inv X pins σ H s)(t:Nat):Inv X pins σ H {s with toks:=t}:=I.un (h':=s.heap) (t':=t) Un.refl I.fK
theorem Inv.kept{t':Nat}(I:Inv X pins σ H s)(k:∀b u,s.heap.get? b=some u->h'.get? b=some u):Inv X pins σ H {s with heap:=h',toks:=t' }:=I.un (Un.kept k) (I.fK.kept k)
theorem Inv.laid{a:YE}{o:HO}{t':Nat}(I:Inv X pins σ H s)(k:∀b u,s.heap.get? b=some u->h'.get? b=some u)(hp:s.heap.objs.size<=a)(new:dF X.prog X.w (upd H a o) h' a o) :
 Inv X pins σ (upd H a o) {s with heap:=h',toks:=t' }:=I.un (Un.laid k hp (I.fK.fresh hp)) (I.fK.laid k hp new)
theorem Inv.write{x e:YE}{o:HO}{t':Nat}(I:Inv X pins σ H s)(mu:Kc (H x))(he:e=x\/H e=some (.own x))(k:∀b u,b≠e->s.heap.get? b=some u->h'.get? b=some u)(JG:∃u,h'.get? e=some u)
 (new:dF X.prog X.w (upd H x o) h' x o):Inv X pins σ (upd H x o) {s with heap:=h',toks:=t' }:=I.un (Un.write mu he k JG) (I.fK.write mu he k JG new)
theorem Inv.zz{zA:List (YE×Obj)}(I:Inv X pins σ H s)(h:∀p∈zA,s.heap.get? p.1=some p.2/\H p.1=none/\p.1≠X.env.locals/\p.1 ∉ X.fs/\∀v,p.2.data≠.cell v):Inv X zA σ H s:=
 ⟨I.ok,I.os,I.bare,I.base,I.loc,I.cell,I.free,I.nW,fun p hp=>(Zg.mp hp).elim (fun z=>I.pin p (ZU _ z)) (h p),I.fK,I.len⟩
theorem w9{N:List Str}(hN:N.Nodup){i j:Nat}{x:Str}(a:N[i]?=some x)(b:N[j]?=some x):i=j:=by
 obtain⟨h1,e1⟩:=Zi.mp a;obtain⟨h2,e2⟩:=Zi.mp b;exact(W2 hN).mp (e1.trans e2.symm)
theorem uN{M:Model}{A:YQ}{E:YF->YO->Prop}{i:Nat}{x:Str}{v:V}{u:YF}{Q:Unit->YO->Prop}(I:Inv X pins σ H s)(hN:X.N.Nodup)(hi:X.N[i]?=some x)(hx:Loc X.env.scope x)(r:RelV v u)
 (h:∀s',Inv X pins (σ.set i (some v)) H s'->(∃a,Heap.SameBut a s.heap s'.heap/\(a=X.env.locals\/X.env.cells.lookup x=some a))->Q () s') (hf:X.fn x=true\/X.env.scope.names.lookup x=some .local:=by first |exact .inl rfl |exact .inr rfl |assumption):wpAny M A (storeName X.env x u) Q E s:=by
 obtain⟨m,hn,hl⟩:=id I.loc;have Oa:(X.env.scope.kind==.class ||(X.env.scope.kind==.module&&X.env.locals != X.env.globals))=false:=by rw[I.ok.kind];rfl
 have Kh:i<σ.length:=by rw[I.len];exact(Zi.mp hi).1
 have HE:=I.HE;have tracked:∀ {a:YE} {h':Heap},(∃o,s.heap.get? a=some o/\H a=none)->Heap.SameBut a s.heap h'->oW X.prog X.w H h':=fun {a h'} ha hs b ob e=>by
  obtain⟨_,_,oY⟩:=ha;refine(I.fK b ob e).iL (fun c w' hc q=>(hs.2 c ?_).trans q) (fun _ q=>q) fun _ _ q=>q
  rintro rfl
  rcases hc with rfl |hc
  ·rw[oY] at e;cases e
  ·rw[oY] at hc;cases hc
 rcases hx with hk |hk
 ·refine wpAny_storeName_local hk hn (fun h' S2 hs=>?_) Oa;obtain⟨oL,_,_,S4,_⟩:=id hn;refine h _ ⟨I.ok,I.os,I.bare,⟨fun b o e n hb hx=>?_,fun b o e n hb hx=>?_,I.base.free,fun b o e hx=>?_,I.base.qY,I.base.qg,I.base.qZ⟩,⟨_,S2,fun j y v' e1 e2 e3=>?_⟩,fun y c e=>?_,I.free,I.nW,fun p hp=>?_,tracked ⟨oL,S4,I.free⟩ hs,by simpa using I.len⟩ ⟨_,hs,.inl rfl⟩
  ·exact(hs.2 b (Xb (ZQ (Heap.lt_size e) I.ok.above))).trans (I.base.keep b o e n hb hx)
  ·obtain⟨sl,e1⟩:=I.base.slot b o e n hb hx;exact⟨sl,(hs.2 b (Xb (ZQ (Heap.lt_size e) I.ok.above))).trans e1⟩
  ·obtain⟨o',e1⟩:=I.base.there b o e hx;exact⟨o',(hs.2 b (Xb (ZQ (Heap.lt_size e) I.ok.above))).trans e1⟩
  ·by_cases hj:j=i
   ·subst hj;rw[hi] at e1;cases e1;rw[Xv Kh] at e2;cases e2;exact⟨u,r,.inl ⟨hk,by simp⟩⟩
   ·rw[Xx (Ne.symm hj)] at e2;obtain⟨u',r',q⟩:=hl j y v' e1 e2 e3;refine⟨u',r',?_⟩;rcases q with ⟨k,e⟩ |⟨k,c,e,z⟩
    ·refine .inl ⟨k,?_⟩;have:y≠x:=fun e=>hj (w9 hN e1 (e▸hi));simp[this,e]
    ·exact .inr ⟨k,c,e,z.sameBut hs (HE y c e)⟩
  ·obtain⟨w',z⟩:=I.cell y c e;exact⟨w',z.sameBut hs (HE y c e)⟩
  ·obtain⟨e,n,ne,nf,d⟩:=I.pin p hp;exact⟨(hs.2 p.1 ne).trans e,n,ne,nf,d⟩
 ·have Ki:X.fn x=true:=by
   rcases hf with z |z
   ·exact z
   ·rw[z] at hk;cases hk
  obtain⟨c,hc⟩:=I.ok.has x (.inl hk);obtain⟨w',z⟩:=I.cell x c hc;refine wpAny_storeName_cell I.ok.kind hk hc z (fun h' QW hs=>?_);obtain⟨oc,QX,Ob⟩:=id z;refine h {s with heap:=h' } ⟨I.ok,I.os,I.bare,⟨fun b o e n hb hx=>?_,fun b o e n hb hx=>?_,I.base.free,fun b o e hx=>?_,I.base.qY,I.base.qg,I.base.qZ⟩,⟨m,hn.sameBut hs (Ne.symm (HE x c hc)),fun j y v' e1 e2 e3=>?_⟩,fun y c' e=>?_,I.free,I.nW,fun p hp=>?_,tracked ⟨oc,QX,I.nW x c hc⟩ hs,by simpa using I.len⟩ ⟨c,hs,.inr hc⟩
  ·exact(hs.2 b (Xb (ZQ (Heap.lt_size e) (I.ok.Kf x c Ki hc)))).trans (I.base.keep b o e n hb hx)
  ·obtain⟨sl,e1⟩:=I.base.slot b o e n hb hx;exact⟨sl,(hs.2 b (Xb (ZQ (Heap.lt_size e) (I.ok.Kf x c Ki hc)))).trans e1⟩
  ·obtain⟨o',e1⟩:=I.base.there b o e hx;exact⟨o',(hs.2 b (Xb (ZQ (Heap.lt_size e) (I.ok.Kf x c Ki hc)))).trans e1⟩
  ·by_cases hj:j=i
   ·subst hj;rw[hi] at e1;cases e1;rw[Xv Kh] at e2;cases e2;exact⟨u,r,.inr ⟨.inl hk,c,hc,QW⟩⟩
   ·rw[Xx (Ne.symm hj)] at e2;obtain⟨u',r',q⟩:=hl j y v' e1 e2 e3;refine⟨u',r',?_⟩;rcases q with q |⟨k,c',e,z'⟩
    ·exact .inl q
    ·refine .inr ⟨k,c',e,z'.sameBut hs ?_⟩
     rintro rfl
     exact hj (w9 hN e1 (I.ok.inj _ _ _ e hc▸hi))
  ·by_cases QY:c'=c
   ·subst QY;exact⟨_,QW⟩
   ·obtain⟨w2,z2⟩:=I.cell y c' e;exact⟨w2,z2.sameBut hs QY⟩
  ·obtain⟨e,n,ne,nf,d⟩:=I.pin p hp;refine⟨(hs.2 p.1 ?_).trans e,n,ne,nf,d⟩;intro q;rw[q,QX] at e;have q':oc=p.2:=Z5.inj e;exact d w' (by rw[<- q'];exact Ob)
theorem xf{M:Model}{A:YQ}{E:YF->YO->Prop}{i:Nat}{x:Str}{v:V}{u:YF}{Q:Unit->YO->Prop}(I:Inv X pins σ H s)(hN:X.N.Nodup)(hi:X.N[i]?=some x)(hx:Loc X.env.scope x)(r:RelV v u)
 (h:∀s',Inv X pins (σ.set i (some v)) H s'->Q () s') (hf:X.fn x=true\/X.env.scope.names.lookup x=some .local:=by first |exact .inl rfl |exact .inr rfl |assumption):wpAny M A (storeName X.env x u) Q E s:=
 uN I hN hi hx r (fun s' I' _=>h s' I') hf
theorem Inv.Kj{s':YO}{ch:List YE}(I:Inv X pins σ H s)(ho:s'.os=s.os)(u:Un (jg X.stack) ch H H' s.heap s'.heap)(fK:oW X.prog X.w H' s'.heap)(hg:AllBare s'.gens)
 (EG:∀b∈ch,(b∈X.ex\/X.s₀.heap.objs.size<=b)/\b≠X.env.locals/\(∀x c,X.env.cells.lookup x=some c->c≠b)/\∀p∈X.pn++pins,p.1≠b):Inv X pins σ H' s':=by
 obtain⟨h',g',d',t',o'⟩:=s';have e:o'=s.os:=ho;subst e;exact I.call (g':=g') (t':=t') (d':=d') u fK hg EG
end
abbrev XK:=YF->Option YE->Hp->Prop
abbrev St:=List (Option V)
abbrev VK:=V->Hp->Prop
abbrev TE:=St->Hp->VK->Prop
abbrev TT:=St->Hp->(Bool->Hp->Prop)->Prop
abbrev TA:=St->Hp->(List V->Hp->Prop)->Prop
structure Ends where
 nx:St->Hp->Prop
 rt:VK
 bk:St->Hp->Prop:=fun _ _=>False
 ct:St->Hp->Prop:=fun _ _=>False
abbrev TS:=Ends->St->Hp->Prop
def EP (X:Cx) (pins:List (YE×Obj)) (σ:St) (Q:VK) (u:YF) (s':YO):Prop:=∃v H',Inv X pins σ H' s'/\RelV v u/\Q v H'
def TP (X:Cx) (pins:List (YE×Obj)) (σ:St) (Q:Bool->Hp->Prop) (b:Bool) (s':YO):Prop:=∃H',Inv X pins σ H' s'/\Q b H'
def AP (X:Cx) (pins:List (YE×Obj)) (σ:St) (Q:List V->Hp->Prop) (us:List YF) (s':YO):Prop:=∃vs H',Inv X pins σ H' s'/\Vals vs us/\Q vs H'
def SP (X:Cx) (pins:List (YE×Obj)) (D:Ends) (f:Flow) (s':YO):Prop:=
 match f with
 |.next=>∃σ' H',Inv X pins σ' H' s'/\D.nx σ' H'
 |.brk=>∃σ' H',Inv X pins σ' H' s'/\D.bk σ' H'
 |.cont=>∃σ' H',Inv X pins σ' H' s'/\D.ct σ' H'
 |.ret u=>∃v σ' H',Inv X pins σ' H' s'/\RelV v u/\D.rt v H'
def PE (X:Cx) (e:Expr) (t:TE):Prop:=
 ∀(pins:List (YE×Obj)) (s:YO) (σ:St) (H:Hp) (Q:VK),Inv X pins σ H s->t σ H Q->wpAny (model X.prog X.w) X.A (eval e X.env) (EP X pins σ Q) X.xe s
def PT (X:Cx) (e:Expr) (t:TT):Prop:=
 ∀(pins:List (YE×Obj)) (s:YO) (σ:St) (H:Hp) (Q:Bool->Hp->Prop),Inv X pins σ H s->t σ H Q->wpAny (model X.prog X.w) X.A (isTrue e X.env (eval e X.env)) (TP X pins σ Q) X.xe s
def PW (X:Cx) (e:Expr) (t:TT):Prop:=
 ∀(whole:Sem YF) (pins:List (YE×Obj)) (s:YO) (σ:St) (H:Hp) (Q:Bool->Hp->Prop),Inv X pins σ H s->t σ H Q->wpAny (model X.prog X.w) X.A (isTrue e X.env whole) (TP X pins σ Q) X.xe s
theorem PW.pt{X:Cx}{e:Expr}{t:TT}(h:PW X e t):PT X e t:=h _
def PA (X:Cx) (es:List Expr) (t:TA):Prop:=
 ∀(pos:Pos) (pins:List (YE×Obj)) (s:YO) (σ:St) (H:Hp) (Q:List V->Hp->Prop),Inv X pins σ H s->t σ H Q->wpAny (model X.prog X.w) X.A (spliced (backTo pos (YK es X.env))) (AP X pins σ Q) X.xe s
def PS (X:Cx) (st:Stmt) (t:TS):Prop:=
 ∀(pins:List (YE×Obj)) (s:YO) (σ:St) (H:Hp) (D:Ends),Inv X pins σ H s->t D σ H->wpAny (model X.prog X.w) X.A (exec st X.env) (SP X pins D) X.xe s
def A4 (X:Cx) (st:List Stmt) (t:TS):Prop:=
 ∀(pins:List (YE×Obj)) (s:YO) (σ:St) (H:Hp) (D:Ends),Inv X pins σ H s->t D σ H->wpAny (model X.prog X.w) X.A (execs st X.env) (SP X pins D) X.xe s
theorem gO{α:Type}{t:Sem α}{Q Q':α->YO->Prop}{M:Model}{A:YQ}{E:YF->YO->Prop}{s:YO}(h:wpAny M A t Q E s)(hQ:∀a s,Q a s->Q' a s):wpAny M A t Q' E s:=wpAny_mono h hQ fun _ _ x=>x
section
variable{X:Cx}
theorem bin{a b:Expr}{ta tb:TE}(ha:PE X a ta)(hb:PE X b tb){pins:List (YE×Obj)}{s:YO}{σ:St}{H:Hp}{R:V->V->Hp->Prop}(I:Inv X pins σ H s)(h:ta σ H fun x H1=>tb σ H1 fun y H2=>R x y H2)
 {α:Type} {Q:α->YO->Prop} {f:YF->YF->Sem α}
 (hf:∀v u s2 x y H2,Inv X pins σ H2 s2->RelV x v->RelV y u->R x y H2->wpAny (model X.prog X.w) X.A (f v u) Q X.xe s2) :
 wpAny (model X.prog X.w) X.A (eval a X.env) (fun v s₁=>wpAny (model X.prog X.w) X.A (eval b X.env) (fun u s₂=>wpAny (model X.prog X.w) X.A (f v u) Q X.xe s₂) X.xe s₁) X.xe s:=by
 refine gO (ha pins s σ H _ I h) fun v s1 zqz=>?_;obtain⟨x,H1,I1,r1,q1⟩:=zqz;refine gO (hb pins s1 σ H1 _ I1 q1) fun u s2 zqz=>?_;obtain⟨y,H2,I2,r2,q2⟩:=zqz;exact hf v u s2 x y H2 I2 r1 r2 q2
def QZ (Q:V->Prop):Option (Option V)->Prop
 |some (some v)=>Q v
 |_=>False
theorem HG{Q:V->Prop}:∀ {o:Option (Option V)},QZ Q o->∃v,o=some (some v)/\Q v
 |some (some v),h=>⟨v,rfl,h⟩
 |some none,h=>h.elim
 |none,h=>h.elim
def gz (i:Nat):TE:=fun σ H Q=>QZ (fun v=>Q v H) σ[i]?
def tC (v:V):TE:=fun _ H Q=>Q v H
theorem HH{i:Nat}{x:Str}{pos:Pos}(hN:X.N[i]?=some x)(hv:Ke X.env.scope x)(hd:(x==("__debug__":Str))=false:=by decide)(A5:(x==("__classdict__":Str))=false:=by decide):PE X (.Name x pos) (gz i):=by
 intro pins s σ H Q I h;obtain⟨v,e,h⟩:=HG h;obtain⟨m,hn,hl⟩:=I.loc;obtain⟨u,r,l⟩:=hl i x v hN e hv;have fin:EP X pins σ Q u s:=⟨v,H,I,r,h⟩
 rcases l with ⟨hk,hm⟩ |⟨hk,c,hc,zB⟩
 ·exact wpAny_Name (wpAny_loadName_local I.ok.kind hk hn hm fin) hd
 ·rcases hk with hk |hk
  ·exact wpAny_Name (wpAny_loadName_cell I.ok.kind hk hc zB fin) hd
  ·exact wpAny_Name (wpAny_loadName_free I.ok.kind hk hc zB fin A5) hd
theorem ah{i j pos}:PE X (.Constant (.int i) j pos) (tC (.int i)):=fun _ _ _ H _ I h=>wpAny_Constant_int ⟨.int i,H,I.tok _,⟨_,rfl⟩,h⟩
theorem B7{b j pos}:PE X (.Constant (.bool b) j pos) (tC (.bl b)):=fun _ _ _ H _ I h=>Constant_bool ⟨.bl b,H,I,rfl,h⟩
theorem HI{j pos}:PE X (.Constant .none j pos) (tC .f9):=fun _ _ _ H _ I h=>Constant_none ⟨.f9,H,I,rfl,h⟩
theorem bQ{x j pos}:PE X (.Constant (.str x) j pos) (tC (.str x)):=fun _ _ _ H _ I h=>Calls.Constant_str ⟨.str x,H,I.tok _,⟨_,rfl⟩,h⟩
def Gl (X:Cx) (x:Str):Prop:=X.env.kindOf x=some .globalImplicit
theorem zC{E:YF->YO->Prop}{pins:List (YE×Obj)}{s:YO}{σ:St}{H:Hp}{x:Str}{u:YF}{pos:Pos}{Q:YF->YO->Prop}(I:Inv X pins σ H s)(hg:Gl X x)(hm:X.mg x=some u)(h:Q u s)
 (hd:(x==("__debug__":Str))=false:=by decide):wpAny (model X.prog X.w) X.A (eval (.Name x pos) X.env) Q E s:=
 Calls.Name_function_global I.ok.kind hg (Calls.loadGlobal_global (by rw[I.ok.glob];exact I.mod.glob.keeps I.bk) hm h) hd
theorem rX{E:YF->YO->Prop}{pins:List (YE×Obj)}{s:YO}{σ:St}{H:Hp}{x:Str}{u:YF}{pos:Pos}{Q:YF->YO->Prop}(I:Inv X pins σ H s)(hg:Gl X x)(hm:X.mg x=none)(hv:bootBuiltins x=some u)(h:Q u s)
 (hn:x≠"__name__":=by decide) (hd:(x==("__debug__":Str))=false:=by decide):wpAny (model X.prog X.w) X.A (eval (.Name x pos) X.env) Q E s:=by
 obtain⟨mb,h1,h2⟩:=I.mod.blt;exact Calls.Name_function_global I.ok.kind hg (Calls.loadGlobal_builtin (by rw[I.ok.glob];exact I.mod.glob.keeps I.bk) hm (by rw[I.ok.blt];exact h1.keeps I.bk) ((h2 x hn).trans hv) h) hd
theorem rH{x:Str}{v:V}{u:YF}{pos:Pos}(hg:Gl X x)(hm:X.mg x=some u)(r:RelV v u)(hd:(x==("__debug__":Str))=false:=by decide):PE X (.Name x pos) (tC v):=
 fun _ _ _ H _ I h=>zC I hg hm ⟨v,H,I,r,h⟩ hd
theorem gG{x:Str}{v:V}{u:YF}{pos:Pos}(hg:Gl X x)(hm:X.mg x=none)(hv:bootBuiltins x=some u)(r:RelV v u)(hn:x≠"__name__":=by decide)(hd:(x==("__debug__":Str))=false:=by decide):PE X (.Name x pos) (tC v):=
 fun _ _ _ H _ I h=>rX I hg hm hv ⟨v,H,I,r,h⟩ hn hd
variable{a b:Expr}{ta tb:TE}{pos:Pos}
def tB (t:TE):TT:=fun σ H Q=>t σ H fun x H1=>∃c,x=.bl c/\Q c H1
theorem jX{e:Expr}{t:TE}(h:PE X e t)(he:∀whole,isTrue e X.env whole=(do let v <- whole;standAt e.pos;holding [v] (truthy v)):=by intro _;rfl):PT X e (tB t):=by
 intro pins s σ H Q I hw;refine isTrue_plain (gO (h pins s σ H _ I hw) fun v s1 zqz=>?_) (he _);obtain⟨x,H1,I1,r1,q1⟩:=zqz;obtain⟨d,rfl,q⟩:=q1;cases r1;exact wpAny_truthy_bool ⟨H1,I1,q⟩
variable{tA Nd:TT}{rest:List Expr}
def HJ (t u:TT):TT:=fun σ H Q=>t σ H fun c H1=>if c=true then u σ H1 Q else Q false H1
def Oc (t u:TT):TT:=fun σ H Q=>t σ H fun c H1=>if c=true then Q true H1 else u σ H1 Q
def Kk (t:TT):TT:=fun σ H Q=>t σ H fun c H1=>Q (!c) H1
theorem pw_and1(ha:PT X a tA):PW X (.BoolOp .And [a] pos) tA:=by
 intro wh pins s σ H Q I h;refine isTrue_and (gO (ha pins s σ H Q I h) fun c s1 e=>?_);cases c with
 |true=>exact isTrue_and_nil e
 |false=>exact e
theorem pw_or1(ha:PT X a tA):PW X (.BoolOp .Or [a] pos) tA:=by
 intro wh pins s σ H Q I h;refine isTrue_or (gO (ha pins s σ H Q I h) fun c s1 e=>?_);cases c with
 |false=>exact isTrue_or_nil e
 |true=>exact e
theorem pw_and(ha:PT X a tA)(hb:PW X (.BoolOp .And (b::rest) pos) Nd):PW X (.BoolOp .And (a::b::rest) pos) (HJ tA Nd):=by
 intro wh pins s σ H Q I h;refine isTrue_and (gO (ha pins s σ H _ I h) fun c s1 zqz=>?_);obtain⟨H1,I1,q1⟩:=zqz;cases c with
 |true=>exact hb wh pins s1 σ H1 Q I1 q1
 |false=>exact⟨H1,I1,q1⟩
theorem pw_or(ha:PT X a tA)(hb:PW X (.BoolOp .Or (b::rest) pos) Nd):PW X (.BoolOp .Or (a::b::rest) pos) (Oc tA Nd):=by
 intro wh pins s σ H Q I h;refine isTrue_or (gO (ha pins s σ H _ I h) fun c s1 zqz=>?_);obtain⟨H1,I1,q1⟩:=zqz;cases c with
 |true=>exact⟨H1,I1,q1⟩
 |false=>exact hb wh pins s1 σ H1 Q I1 q1
theorem HK(ha:PT X a tA):PT X (.UnaryOp .Not a pos) (Kk tA):=by
 intro pins s σ H Q I h;exact isTrue_not (ha pins s σ H (fun c H1=>Q (!c) H1) I h)
def B8 (ta tb:TE):TE:=fun σ H Q=>ta σ H fun x H1=>∃c,x=.bl c/\if c=true then tb σ H1 Q else Q (.bl false) H1
def Kl (ta tb:TE):TE:=fun σ H Q=>ta σ H fun x H1=>∃c,x=.bl c/\if c=true then Q (.bl true) H1 else tb σ H1 Q
def Gb (ta:TE):TE:=fun σ H Q=>ta σ H fun x H1=>∃c,x=.bl c/\Q (.bl (!c)) H1
theorem HL{op}{t:TE}(h:PE X a t):PE X (.BoolOp op [a] pos) t:=fun pins s σ H Q I hw=>BoolOp_one (h pins s σ H Q I hw)
theorem HM(ha:PE X a ta)(hb:PE X (.BoolOp .And (b::rest) pos) tb):PE X (.BoolOp .And (a::b::rest) pos) (B8 ta tb):=by
 intro pins s σ H Q I h;refine BoolOp_and (gO (ha pins s σ H _ I h) fun v s1 zqz=>?_);obtain⟨x,H1,I1,r1,q1⟩:=zqz;obtain⟨c,rfl,q1⟩:=q1;cases r1;refine wpAny_truthy_bool ?_;cases c with
 |true=>exact hb pins s1 σ H1 Q I1 q1
 |false=>exact⟨.bl false,H1,I1,rfl,q1⟩
def Q0 (t:TT) (ta tb:TE):TE:=fun σ H Q=>t σ H fun c H1=>if c=true then ta σ H1 Q else tb σ H1 Q
end
def gX (K:Za) (H:Hp) (a:YE) (xs:List V):Prop:=
 Rd H a (.lst xs)\/
  ∃(o:Obj) (bC:Array YF) (n:Nat),K.lookup a=some o/\o.cls=.type "list"/\o.dict=none/\o.data=.seq bC n/\bC.size<=YM/\Vals xs bC.toList
def bU (K:Za) (H:Hp) (a:YE) (xs:List V):Prop:=
 Rd H a (.tup xs)\/
  ∃(o:Obj) (bC:Array YF) (n:Nat),K.lookup a=some o/\o.cls=.type "tuple"/\o.data=.seq bC n/\bC.size<=YM/\Vals xs bC.toList
def Od:YF->Option V
 |.none=>some .f9
 |.bool b=>some (.bl b)
 |.int i _=>some (.int i)
 |.str x _=>some (.str x)
 |.bytes b _=>some (.B4 b)
 |.float b _=>some (.JE b)
 |.ref a=>some (.ref a)
 |.type n=>some (.ty n)
 |_=>none
theorem RelV.abs{x:V}{u:YF}(r:RelV x u):Od u=some x:=by
 cases x with
 |f9=>cases r;rfl
 |bl _=>cases r;rfl
 |int _=>obtain⟨t,rfl⟩:=r;rfl
 |str _=>obtain⟨t,rfl⟩:=r;rfl
 |B4 _=>obtain⟨t,rfl⟩:=r;rfl
 |JE _=>obtain⟨t,rfl⟩:=r;rfl
 |ref _=>cases r;rfl
 |ty _=>cases r;rfl
theorem RelV.inj{x y:V}{u:YF}(r:RelV x u)(q:RelV y u):x=y:=Z5.inj (r.abs.symm.trans q.abs)
theorem Vals.inj:∀ {xs ys:List V} {us:List YF},Vals xs us->Vals ys us->xs=ys
 |_,_,_,.nil,.nil=>rfl
 |_,_,_,.cons r t,.cons r' t'=>by rw[r.inj r',Vals.inj t t']
section
variable{X:Cx}{pins:List (YE×Obj)}{σ:St}{H:Hp}{s:YO}{a:YE}{xs ys:List V}
theorem gX.of{K:Za}(h:H a=some (.lst xs)):gX K H a xs:=.inl (.inl h)
theorem bU.of{K:Za}(h:H a=some (.tup xs)):bU K H a xs:=.inl (.inl h)
theorem Inv.list(I:Inv X pins σ H s)(h:gX X.K H a xs):∃bC:List YF,Vals xs bC/\PlainL s.heap a bC.toArray/\xs.length<=YM:=by
 rcases h with h |⟨o,bC,n,hk,hc,hd,hs,hz,r⟩
 ·obtain⟨z,bC,n,r,e⟩:=h.ok I.fK;exact⟨bC,r,⟨_,n,e,rfl,rfl,rfl⟩,z⟩
 ·refine⟨bC.toList,r,⟨o,n,I.rG a o hk,hc,hd,by simpa using hs⟩,?_⟩;have e:=r.length;simp only[ZX] at e;lia
theorem Inv.tuple(I:Inv X pins σ H s)(h:bU X.K H a xs):∃bC:List YF,Vals xs bC/\IsTup s.heap a bC.toArray/\xs.length<=YM:=by
 rcases h with h |⟨o,bC,n,hk,hc,hs,hz,r⟩
 ·obtain⟨z,bC,r,p⟩:=h.ok I.fK;exact⟨bC,r,p,z⟩
 ·refine⟨bC.toList,r,⟨o,I.rG a o hk,hc,n,by simpa using hs⟩,?_⟩;have e:=r.length;simp only[ZX] at e;lia
theorem Inv.B9(I:Inv X pins σ H s)(h:gX X.K H a xs)(h':gX X.K H a ys):xs=ys:=by
 obtain⟨bC,r,⟨o,n,e,_,_,d⟩,_⟩:=I.list h;obtain⟨its',r',⟨o',n',e',_,_,d'⟩,_⟩:=I.list h';rw[e] at e';cases e';rw[d] at d'
 injection d' with d1 _
 have:bC=its':=by simpa using congrArg Yr d1
 subst this;exact r.inj r'
theorem Inv.A6(I:Inv X pins σ H s)(h:bU X.K H a xs)(h':bU X.K H a ys):xs=ys:=by
 obtain⟨bC,r,⟨o,e,_,n,d⟩,_⟩:=I.tuple h;obtain⟨its',r',⟨o',e',_,n',d'⟩,_⟩:=I.tuple h';rw[e] at e';cases e';rw[d] at d'
 injection d' with d1 _
 have:bC=its':=by simpa using congrArg Yr d1
 subst this;exact r.inj r'
end
abbrev Cx.t7 (X:Cx) (E:YF->YO->Prop):Cx:={X with xe:=E}
abbrev Cx.Km (X:Cx):Cx:=X.t7 fun _ _=>False
theorem Cx.Ok.t7{X:Cx}(ok:X.Ok)(E:YF->YO->Prop):(X.t7 E).Ok:=
 ⟨ok.mod,ok.kind,ok.glob,ok.blt,ok.above,ok.inj,ok.has,ok.Kf,ok.hd,ok.frames,ok.Nb,ok.QT,ok.bs,ok.EF,ok.B6,ok.EW,ok.q0,ok.HD⟩
theorem Cx.Ok.lY{X:Cx}{E:YF->YO->Prop}(ok:(X.t7 E).Ok):X.Ok:=
 ⟨ok.mod,ok.kind,ok.glob,ok.blt,ok.above,ok.inj,ok.has,ok.Kf,ok.hd,ok.frames,ok.Nb,ok.QT,ok.bs,ok.EF,ok.B6,ok.EW,ok.q0,ok.HD⟩
section
variable{X:Cx}{pins:List (YE×Obj)}{σ:St}{H:Hp}{s:YO}{E:YF->YO->Prop}
theorem Inv.t7(I:Inv X pins σ H s)(E:YF->YO->Prop):Inv (X.t7 E) pins σ H s:=⟨I.ok.t7 E,I.os,I.bare,I.base,I.loc,I.cell,I.free,I.nW,I.pin,I.fK,I.len⟩
theorem Inv.lY(I:Inv (X.t7 E) pins σ H s):Inv X pins σ H s:=⟨I.ok.lY,I.os,I.bare,I.base,I.loc,I.cell,I.free,I.nW,I.pin,I.fK,I.len⟩
theorem SP.lY{D:Ends}{f:Flow}{s':YO}(h:SP (X.t7 E) pins D f s'):SP X pins D f s':=by
 cases f with
 |next=>obtain⟨σ',H',I,q⟩:=h;exact⟨σ',H',I.lY,q⟩
 |brk=>obtain⟨σ',H',I,q⟩:=h;exact⟨σ',H',I.lY,q⟩
 |cont=>obtain⟨σ',H',I,q⟩:=h;exact⟨σ',H',I.lY,q⟩
 |ret u=>obtain⟨v,σ',H',I,r,q⟩:=h;exact⟨v,σ',H',I.lY,r,q⟩
theorem A4.Km{st:List Stmt}{t:TS}(h:A4 X.Km st t):A4 X st t:=fun pins s σ H D I hw=>
 wpAny_mono (h pins s σ H D (I.t7 _) hw) (fun _ _ q=>q.lY) fun _ _ z=>False.elim z
end
section
variable{X:Cx}{st:Stmt}{rest:List Stmt}{t u:TS}{e:Expr}{te:TE}{pos:Pos}
def Ca:TS:=fun D σ H=>D.nx σ H
def EX (t u:TS):TS:=fun D σ H=>t {D with nx:=u D} σ H
theorem aU:A4 X [] Ca:=fun _ _ σ H _ I h=>wpAny_execs_nil ⟨σ,H,I,h⟩
theorem aj(h1:PS X st t)(h2:A4 X rest u):A4 X (st::rest) (EX t u):=by
 intro pins s σ H D I h;refine wpAny_execs_cons (gO (h1 pins s σ H {D with nx:=u D} I h) fun f s1 q=>?_);cases f with
 |next=>
  obtain⟨σ',H',I',q⟩:=q;exact h2 pins s1 σ' H' D I' q
 |ret v=>exact q
 |brk=>exact q
 |cont=>exact q
theorem ay(h1:PS X st t):A4 X [st] t:=by
 intro pins s σ H D I h;refine wpAny_execs_cons (gO (h1 pins s σ H D I h) fun f s1 q=>?_);cases f with
 |next=>exact wpAny_execs_nil q
 |ret v=>exact q
 |brk=>exact q
 |cont=>exact q
def Cb:TS:=fun D σ H=>D.bk σ H
def Gd:TS:=fun D σ H=>D.ct σ H
theorem Inv.quiet{pins:List (YE×Obj)}{σ:St}{H:Hp}{s:YO}(I:Inv X pins σ H s):interactive X.env=false:=by simp[interactive,I.ok.kind]
def Cc (te:TE):TS:=fun D σ H=>te σ H fun _ H1=>D.nx σ H1
theorem cp(he:PE X e te)(hs:swapsWith e none pos.line X.env=pure false:=by rfl):PS X (.Expr e pos) (Cc te):=by
 intro pins s σ H D I h;exact wpAny_Expr_any (gO (he pins s σ H _ I h) fun v s1 ⟨x,H1,I1,r1,q1⟩=>⟨σ,H1,I1,q1⟩) I.quiet hs
def HN (te:TE):TS:=fun D σ H=>te σ H D.rt
theorem aT(he:PE X e te):PS X (.Return (some e) pos) (HN te):=by
 intro pins s σ H D I h;exact wpAny_Return_some (gO (he pins s σ H _ I h) fun v s1 ⟨x,H1,I1,r1,q1⟩=>⟨x,σ,H1,I1,r1,q1⟩)
def Ge:TS:=fun D _ H=>D.rt .f9 H
def EY (c:TT) (t u:TS):TS:=fun D σ H=>c σ H fun b H1=>if b=true then t D σ H1 else u D σ H1
theorem ck{c:Expr}{a b:List Stmt}{tc:TT}(hc:PT X c tc)(ha:A4 X a t)(hb:A4 X b u):PS X (.If c a b pos) (EY tc t u):=by
 intro pins s σ H D I h;refine wpAny_If (gO (hc pins s σ H _ I h) fun d s1 zqz=>?_);obtain⟨H1,I1,q1⟩:=zqz;cases d with
 |true=>exact ha pins s1 σ H1 D I1 q1
 |false=>exact hb pins s1 σ H1 D I1 q1
end
abbrev TG:=V->St->Hp->(St->Hp->Prop)->Prop
abbrev Kn:=List V->St->Hp->(St->Hp->Prop)->Prop
def PG (X:Cx) (target:Expr) (t:TG):Prop:=
 ∀(pins:List (YE×Obj)) (s:YO) (σ:St) (H:Hp) (v:V) (u:YF) (Q:St->Hp->Prop),Inv X pins σ H s->RelV v u->t v σ H Q->
  wpAny (model X.prog X.w) X.A (assign target X.env u) (fun _ s'=>∃σ' H',Inv X pins σ' H' s'/\Q σ' H') X.xe s
abbrev HP:=V->V->V->Hp->(Hp->Prop)->Prop
def Ko (X:Cx) (t:HP):Prop:=
 ∀(pins:List (YE×Obj)) (s:YO) (σ:St) (H:Hp) (o i v:V) (ov iv u:YF) (Q:Hp->Prop),Inv X pins σ H s->RelV o ov->RelV i iv->RelV v u->t o i v H Q->
  wpAny (model X.prog X.w) X.A (setItem ov iv u) (fun _ s'=>∃H',Inv X pins σ H' s'/\Q H') X.xe s
abbrev S5:=V->V->Hp->VK->Prop
section
variable{X:Cx}{pos:Pos}
def bV (i:Nat):TG:=fun v σ H Q=>Q (σ.set i (some v)) H
theorem br{i:Nat}{x:Str}(hN:X.N.Nodup)(hi:X.N[i]?=some x)(hx:Loc X.env.scope x)(hf:X.fn x=true\/X.env.scope.names.lookup x=some .local:=by first |exact .inl rfl |exact .inr rfl |assumption):PG X (.Name x pos) (bV i):=by
 intro pins s σ H v u Q I r h;exact wpAny_assign_Name (xf I hN hi hx r (fun s' I'=>⟨_,H,I',h⟩) hf)
def Kq:Kn:=fun vs σ H Q=>vs=[]/\Q σ H
def Gf (t:TG) (u:Kn):Kn:=fun vs σ H Q=>∃v r,vs=v::r/\t v σ H fun σ' H'=>u r σ' H' Q
def Kr (K:Za) (n:Nat) (t:Kn):TG:=fun v σ H Q=>∃a xs,v=.ref a/\bU K H a xs/\xs.length=n/\t xs σ H Q
def HQ (to ti:TE) (t:HP):TG:=fun v σ H Q=>to σ H fun o H1=>ti σ H1 fun i H2=>t o i v H2 fun H3=>Q σ H3
theorem jA{o i:Expr}{to ti:TE}{t:HP}(ho:PE X o to)(hi:PE X i ti)(hs:Ko X t)
 (ha:∀v,assign (.Subscript o i pos) X.env v=(do
  let ov <- holding [v] (eval o X.env)
  let iv <- holding [v,ov] (eval i X.env)
  standAt pos
  holding [v,ov,iv] (setItem ov iv v)
  release [v,ov,iv] []):=by intro _;rfl):PG X (.Subscript o i pos) (HQ to ti t):=by
 intro pins s σ H v u Q I r h;rw[ha];refine YH (YJ (gO (ho pins s σ H _ I h) fun ov s1 zqz=>?_));obtain⟨x,H1,I1,r1,q1⟩:=zqz;refine YH (YJ (gO (hi pins s1 σ H1 _ I1 q1) fun iv s2 zqz=>?_));obtain⟨y,H2,I2,r2,q2⟩:=zqz;refine YH (wpAny_standAt (YH (YJ (gO (hs pins s2 σ H2 x y v ov iv u _ I2 r1 r2 r q2) fun _ s3 zqz=>?_))));obtain⟨H3,I3,q3⟩:=zqz;exact wpAny_release ⟨σ,H3,I3,q3⟩
def A7 (te:TE) (g:TG):TS:=fun D σ H=>te σ H fun x H1=>g x σ H1 D.nx
theorem jB{tg e:Expr}{te:TE}{g:TG}(he:PE X e te)(hg:PG X tg g)(hs:swapsWithSole [tg] e pos.line X.env=pure false:=by rfl)(hw:swappedStores [tg] e X.env=pure none:=by rfl)
 (h1:(assignEach [tg] X.env).map (·.2)=[assign tg X.env]:=by rfl):PS X (.Assign [tg] e pos) (A7 te g):=by
 intro pins s σ H D I h;refine wpAny_Assign_stores (gO (he pins s σ H _ I h) fun v s1 zqz=>?_) hs hw;obtain⟨x,H1,I1,r1,q1⟩:=zqz;rw[h1];exact gO (hg pins s1 σ H1 x v _ I1 r1 q1) fun _ s2 q=>q
theorem gv{i:Nat}{x:Str}{e:Expr}{te:TE}{pos':Pos}(hN:X.N.Nodup)(hi:X.N[i]?=some x)(hx:Loc X.env.scope x)(he:PE X e te)(hs:swapsWith e (some (.Name x pos')) pos.line X.env=pure false:=by rfl)(hf:X.fn x=true\/X.env.scope.names.lookup x=some .local:=by first |exact .inl rfl |exact .inr rfl |assumption) :
 PS X (.Assign [.Name x pos'] e pos) (A7 te (bV i)):=by
 intro pins s σ H D I h;refine wpAny_Assign_Name (gO (he pins s σ H _ I h) fun v s1 zqz=>?_) hs;obtain⟨y,H1,I1,r1,q1⟩:=zqz;exact xf I1 hN hi hx r1 (fun s2 I2=>⟨_,H1,I2,q1⟩) hf
def Ks (i:Nat) (te:TE) (ti:S5):TS:=fun D σ H=>∃x,σ[i]?=some (some x)/\te σ H fun y H1=>ti x y H1 fun z H2=>D.nx (σ.set i (some z)) H2
end
structure It where
 go:Nat->Hp->Prop
 A8:Nat->Hp->V->Hp->Prop
 stop:Nat->Hp->Prop
def qh (X:Cx) (pins:List (YE×Obj)) (H:Hp) (b:YE):Prop:=
 H b=none/\b≠X.env.locals/\b ∉ X.fs/\(b∈X.ex\/X.s₀.heap.objs.size<=b)/\(∀x c,X.env.cells.lookup x=some c->c≠b)/\∀p∈X.pn++pins,p.1≠b
theorem Inv.HR{X:Cx}{pins:List (YE×Obj)}{σ:St}{H H':Hp}{s:YO}{b:YE}(I:Inv X pins σ H s)(hb:s.heap.objs.size<=b)(hn:H' b=none):qh X pins H' b:=by
 refine⟨hn,Nat.ne_of_gt (ZQ I.lt hb),I.N7 hb,.inr (ZT I.sz hb),fun x c e z=>?_,fun p hp z=>?_⟩
 ·obtain⟨v,q⟩:=I.cell x c e;exact absurd (ZQ q.lt (by rw[z];exact hb)) (Xw _)
 ·exact absurd (ZQ (Heap.lt_size (I.pin p hp).1) (by rw[z];exact hb)) (Xw _)
structure Turn(P:YR)(w:YG)(K:Za)(tg:Expr)(J:It)(fp:List YE)(it:YE)(tn:Nat->Heap->Prop):Prop where
 mem:it∈fp
 obj:∀i h,tn i h->∀b∈fp,∃o,h.get? b=some o/\∀v,o.data≠.cell v
 keep:∀i h h',tn i h->(∀b∈fp,∀o,h.get? b=some o->h'.get? b=some o)->tn i h'
 item:∀(X:Cx),X.prog=P->X.w=w->X.K=K->X.calm=true->∀(i:Nat) (pins:List (YE×Obj)) (s:YO) (σ:St) (H:Hp) (E:YF->YO->Prop),Inv X pins σ H s->(∀b∈fp,qh X pins H b)->tn i s.heap->J.go i H->
  wpAny (model P w) X.A (pyNext (.ref it)) (fun r s1=>∃u,r=some u/\
   wpAny (model P w) X.A (letOwnedTupleGo tg (.ref it) u) (fun _ s2=>∃x H',Inv X pins σ H' s2/\RelV x u/\J.A8 i H x H'/\tn (i+1) s2.heap/\∀b∈fp,H' b=none) E s1) E s
 done:∀(X:Cx),X.prog=P->X.w=w->X.K=K->X.calm=true->∀(i:Nat) (pins:List (YE×Obj)) (s:YO) (σ:St) (H:Hp) (E:YF->YO->Prop),Inv X pins σ H s->(∀b∈fp,qh X pins H b)->tn i s.heap->J.stop i H->
  wpAny (model P w) X.A (pyNext (.ref it)) (fun r s1=>r=none/\Inv X pins σ H s1) E s
 self:∀(A:YQ) (i:Nat) (s:YO) (Q:YF->YO->Prop) (E:YF->YO->Prop),tn i s.heap->Q (.ref it) s->wpAny (model P w) A (pyIter (.ref it)) Q E s
abbrev TI:=St->Hp->(It->Hp->Prop)->Prop
def Q1 (X:Cx) (pins:List (YE×Obj)) (σ:St) (tg:Expr) (R:It->Hp->Prop) (Oe:YF) (s2:YO):Prop:=
 ∃(it:YE) (fp:List YE) (tn:Nat->Heap->Prop) (J:It) (H':Hp),Oe=.ref it/\Inv X pins σ H' s2/\Turn X.prog X.w X.K tg J fp it tn/\tn 0 s2.heap/\(∀b∈fp,qh X pins H' b)/\R J H'
def PI (X:Cx) (tg iter:Expr) (wi:TI):Prop:=
 ∀(pins:List (YE×Obj)) (s:YO) (σ:St) (H:Hp) (R:It->Hp->Prop),Inv X pins σ H s->wi σ H R->
  wpAny (model X.prog X.w) X.A (eval iter X.env) (fun v s1=>wpAny (model X.prog X.w) X.A (pyIter v) (Q1 X pins σ tg R) X.xe s1) X.xe s
theorem Ce{M:Model}{A:YQ}{E:YF->YO->Prop}{s:YO}{tg:Expr}{it:YE}{u:YF}{o:Obj}{n:String}{vs:Array YF}{Q:Unit->YO->Prop}(ho:s.heap.get? it=some o)(hc:o.cls=.type n)(hd:o.data=.fields vs)
 (hn:["enumerate", "zip", "dict_itemiterator", "dict_reverseitemiterator", "odict_iterator", "itertools.zip_longest", "itertools.pairwise"].contains n=false) (hQ:Q () s):wpAny M A (letOwnedTupleGo tg (.ref it) u) Q E s:=by
 unfold letOwnedTupleGo;cases tg<;>first
  |exact YI hQ
  |(cases u<;>first
     |exact YI hQ
     |(refine YH (wpAny_load ho ?_)
       rw[hc,hd];show wpAny M A (if (["enumerate", "zip", "dict_itemiterator", "dict_reverseitemiterator", "odict_iterator", "itertools.zip_longest", "itertools.pairwise"].contains n&&vs[0]?==some (rawInt _))=true then _ else _) Q E s;rw[if_neg (by intro h;rw[hn,Bool.false_and] at h;cases h)];exact YI hQ))
def qe (K:Za) (a:YE):It:=
 ⟨fun i H=>∃xs x,gX K H a xs/\xs[i]?=some x,fun i H x H'=>H'=H/\∀xs,gX K H a xs->xs[i]?=some x,fun i H=>∃xs,gX K H a xs/\xs.length<=i⟩
def Cf (K:Za) (a:YE):It:=
 ⟨fun i H=>∃xs x,bU K H a xs/\xs[i]?=some x,fun i H x H'=>H'=H/\∀xs,bU K H a xs->xs[i]?=some x,fun i H=>∃xs,bU K H a xs/\xs.length<=i⟩
def A9 (lo:Int) (n:Nat):It:=⟨fun i _=>i<n,fun i H x H'=>H'=H/\x=.int (lo+i),fun i _=>n<=i⟩
theorem Ba{P:YR}{w:YG}{K:Za}{tg:Expr}(a it:YE):Turn P w K tg (qe K a) [it] it (fun i h=>h.IsListIter it a i) where
 mem:=by simp
 obj:=fun i h st b hb=>by
  have e:b=it:=by simpa using hb
  subst e;obtain⟨o,e,c,d⟩:=st;exact⟨o,e,fun v z=>by rw[d] at z;cases z⟩
 keep:=fun i h h' st k=>st.at fun o e=>k it (by simp) o e
 item:=by
  intro X hP hw hK hc i pins s σ H E I hf st hg;subst hP hw hK;obtain⟨xs,x,hq,hx⟩:=hg;obtain⟨bC,rv,p,hz⟩:=I.list hq;obtain⟨u,hu,ru⟩:=rv.get hx;obtain⟨f0,f1,f2,f3,f4,f5⟩:=hf it (by simp);refine wpAny_pyNext_list_item st p.isList (x:=u) (by simpa using hu) fun h' Gg sb=>?_;have I1:Inv X pins σ H {s with heap:=h' }:=I.turned (t':=s.toks) (fun b o hb e=>(sb.2 b hb).trans e) f0 f1 f3 f4 f5;obtain⟨o,e,c,d⟩:=id Gg;exact⟨u,rfl,Ce (s:={s with heap:=h' }) e c d (by decide) ⟨x,H,I1,ru,⟨rfl,fun ys hy=>by rw[I.B9 hy hq];exact hx⟩,Gg,fun b hb=>(hf b hb).1⟩⟩
 done:=by
  intro X hP hw hK hc i pins s σ H E I hf st hg;subst hP hw hK;obtain⟨xs,hq,hx⟩:=hg;obtain⟨bC,rv,p,hz⟩:=I.list hq;obtain⟨f0,f1,f2,f3,f4,f5⟩:=hf it (by simp);have hl:=rv.length;exact wpAny_pyNext_list_end (I.ok.hd hc) st p.isList (by simp;lia) fun h' eb=>⟨rfl,I.turned (t':=s.toks) (fun b o hb e=>eb b o hb e) f0 f1 f3 f4 f5⟩
 self:=fun _ _ _ _ _ st h=>wpAny_pyIter_listiter st h
theorem yA{P:YR}{w:YG}{K:Za}{tg:Expr}(a it:YE):Turn P w K tg (Cf K a) [it] it (fun i h=>h.IsTupleIter it a i) where
 mem:=by simp
 obj:=fun i h st b hb=>by
  have e:b=it:=by simpa using hb
  subst e;obtain⟨o,e,c,d⟩:=st;exact⟨o,e,fun v z=>by rw[d] at z;cases z⟩
 keep:=fun i h h' st k=>st.at fun o e=>k it (by simp) o e
 item:=by
  intro X hP hw hK hc i pins s σ H E I hf st hg;subst hP hw hK;obtain⟨xs,x,hq,hx⟩:=hg;obtain⟨bC,rv,p,hz⟩:=I.tuple hq;obtain⟨u,hu,ru⟩:=rv.get hx;obtain⟨f0,f1,f2,f3,f4,f5⟩:=hf it (by simp);refine wpAny_pyNext_tuple_item st (show s.heap.IsTuple a bC.toArray from p) (x:=u) (by simpa using hu) fun h' Gg sb=>?_;have I1:Inv X pins σ H {s with heap:=h' }:=I.turned (t':=s.toks) (fun b o hb e=>(sb.2 b hb).trans e) f0 f1 f3 f4 f5;obtain⟨o,e,c,d⟩:=id Gg;exact⟨u,rfl,Ce (s:={s with heap:=h' }) e c d (by decide) ⟨x,H,I1,ru,⟨rfl,fun ys hy=>by rw[I.A6 hy hq];exact hx⟩,Gg,fun b hb=>(hf b hb).1⟩⟩
 done:=by
  intro X hP hw hK hc i pins s σ H E I hf st hg;subst hP hw hK;obtain⟨xs,hq,hx⟩:=hg;obtain⟨bC,rv,p,hz⟩:=I.tuple hq;obtain⟨f0,f1,f2,f3,f4,f5⟩:=hf it (by simp);have hl:=rv.length;exact wpAny_pyNext_tuple_end (I.ok.hd hc) st (show s.heap.IsTuple a bC.toArray from p) (by simp;lia) fun h' eb=>⟨rfl,I.turned (t':=s.toks) (fun b o hb e=>eb b o hb e) f0 f1 f3 f4 f5⟩
 self:=fun _ _ _ _ _ st h=>wpAny_pyIter_tupleiter st h
theorem yB{P:YR}{w:YG}{K:Za}{tg:Expr}(it:YE)(lo:Int)(n:Nat):Turn P w K tg (A9 lo n) [it] it (fun i h=>IsRangeIter h it (lo+(i:Nat)*1) ((n:Int)-(i:Nat)) 1) where
 mem:=by simp
 obj:=fun i h st b hb=>by
  have e:b=it:=by simpa using hb
  subst e;exact⟨_,st,fun v z=>by
   have z':Data.fields _=Data.cell v:=z;cases z'⟩
 keep:=fun i h h' st k=>k it (by simp) _ st
 item:=by
  intro X hP hw hK hc i pins s σ H E I hf st hg;subst hP hw hK;obtain⟨f0,f1,f2,f3,f4,f5⟩:=hf it (by simp);have W:=Walks.range (prog:=X.prog) (w:=X.w) (I.ok.hd hc) it lo 1 n;refine W.item i s _ _ hg st fun v h' tk hv Gg kk=>?_;obtain⟨t,rfl⟩:=hv;have I1:Inv X pins σ H {s with heap:=h',toks:=tk}:=I.turned (fun b o hb e=>kk b o (by simpa using hb) e) f0 f1 f3 f4 f5;refine⟨_,rfl,Ce (s:={s with heap:=h',toks:=tk}) (n:="range_iterator") Gg rfl rfl (by decide) ⟨.int (lo+i),H,I1,⟨t,?_⟩,⟨rfl,rfl⟩,Gg,fun b hb=>(hf b hb).1⟩⟩;rw[Int.mul_one]
 done:=by
  intro X hP hw hK hc i pins s σ H E I hf st hg;subst hP hw hK;obtain⟨f0,f1,f2,f3,f4,f5⟩:=hf it (by simp);exact wpAny_pyNext_range_end (I.ok.hd hc) st (by have:n<=i:=hg;lia) fun h' eb=>⟨rfl,I.turned (t':=s.toks) (fun b o hb e=>eb b o hb e) f0 f1 f3 f4 f5⟩
 self:=fun _ _ _ _ _ st h=>wpAny_pyIter_rangeiter st h
section
variable{X:Cx}{tg:Expr}
def zE (K:Za) (tl:TE):TI:=fun σ H R=>tl σ H fun x H1=>∃a,x=.ref a/\(∃xs,gX K H1 a xs)/\R (qe K a) H1
def Kt (K:Za) (tl:TE):TI:=fun σ H R=>tl σ H fun x H1=>∃a,x=.ref a/\(∃xs,bU K H1 a xs)/\R (Cf K a) H1
theorem ba{l:Expr}{tl:TE}(hl:PE X l tl):PI X tg l (zE X.K tl):=by
 intro pins s σ H R I h;refine gO (hl pins s σ H _ I h) fun v s1 zqz=>?_;obtain⟨x,H1,I1,r1,q1⟩:=zqz;obtain⟨a,e,⟨xs,hq⟩,q⟩:=q1;subst e;cases r1;obtain⟨bC,rv,p,hz⟩:=I1.list hq;refine wpAny_pyIter_list p.isList ?_;refine⟨s1.heap.objs.size,[s1.heap.objs.size],_,_,H1,rfl,I1.kept (t':=s1.toks) fun b o e=>Heap.get?_push_of_some _ e,Ba a _,⟨_,Heap.get?_push_size _ rfl,rfl,rfl⟩,fun b hb=>?_,q⟩;have e:b=s1.heap.objs.size:=by simpa using hb
 subst e;exact I1.HR (Zn _) (I1.fK.fresh (Zn _))
theorem vO{l:Expr}{tl:TE}(hl:PE X l tl):PI X tg l (Kt X.K tl):=by
 intro pins s σ H R I h;refine gO (hl pins s σ H _ I h) fun v s1 zqz=>?_;obtain⟨x,H1,I1,r1,q1⟩:=zqz;obtain⟨a,e,⟨xs,hq⟩,q⟩:=q1;subst e;cases r1;obtain⟨bC,rv,p,hz⟩:=I1.tuple hq;refine wpAny_pyIter_tuple (show s1.heap.IsTuple a bC.toArray from p) ?_;refine⟨s1.heap.objs.size,[s1.heap.objs.size],_,_,H1,rfl,I1.kept (t':=s1.toks) fun b o e=>Heap.get?_push_of_some _ e,yA a _,⟨_,Heap.get?_push_size _ rfl,rfl,rfl⟩,fun b hb=>?_,q⟩;have e:b=s1.heap.objs.size:=by simpa using hb
 subst e;exact I1.HR (Zn _) (I1.fK.fresh (Zn _))
theorem xg{pins:List (YE×Obj)}{σ:St}{H:Hp}{s:YO}{R:It->Hp->Prop}{E:YF->YO->Prop}{lo hi:Int}{t u v:Tok}{tk:Nat}(I:Inv X pins σ H s)(h1 : -(2 ^ 62)<=lo)(h2:lo<2 ^ 62)(h3 : -(2 ^ 62)<=hi)(h4:hi<2 ^ 62)
 (q:R (A9 lo (hi-lo).toNat) H):wpAny (model X.prog X.w) X.A (pyIter (.ref s.heap.objs.size)) (Q1 X pins σ tg R) E {s with heap:=s.heap.push {cls:=.type "range",data:=.fields #[.int lo t,.int hi u,.int 1 v]},toks:=tk}:=by
 refine wpAny_pyIter_range (IsRange.new ..) (small_one h1 h2 h3 h4) ?_;have I1:Inv X pins σ H {s with heap:=s.heap.push {cls:=.type "range",data:=.fields #[.int lo t,.int hi u,.int 1 v]},toks:=tk}:=I.kept fun b o e=>Heap.get?_push_of_some _ e;refine⟨(s.heap.push {cls:=.type "range",data:=.fields #[.int lo t,.int hi u,.int 1 v]}).objs.size,[(s.heap.push {cls:=.type "range",data:=.fields #[.int lo t,.int hi u,.int 1 v]}).objs.size],_,_,H,rfl,
  I1.kept (t':=tk) fun b o e=>Heap.get?_push_of_some _ e,yB _ lo (hi-lo).toNat,?_,fun b hb=>?_,q⟩
 ·have e1:lo+((0:Nat):Int)*1=lo:=by simp
  have e2:(((hi-lo).toNat:Nat):Int)-((0:Nat):Int)=Builtin.Range.rangeSize lo hi 1:=by rw[rangeSize_one];split<;>lia
  show IsRangeIter _ _ (lo+((0:Nat):Int)*1) ((((hi-lo).toNat:Nat):Int)-((0:Nat):Int)) 1;rw[e1,e2];exact Heap.get?_push_size _ rfl
 ·have e:b=(s.heap.push {cls:=.type "range",data:=.fields #[.int lo t,.int hi u,.int 1 v]}).objs.size:=by simpa using hb
  subst e;exact I1.HR (Zn _) (I1.fK.fresh (Zn _))
def zF (ta:TA):TI:=fun σ H R=>ta σ H fun vs H1=>∃j:Int,vs=[.int j]/\-(2 ^ 62)<=j/\j<2 ^ 62/\R (A9 0 j.toNat) H1
def zG (ta:TA):TI:=fun σ H R=>ta σ H fun vs H1=>∃i j:Int,vs=[.int i,.int j]/\(-(2 ^ 62)<=i/\i<2 ^ 62/\-(2 ^ 62)<=j/\j<2 ^ 62)/\R (A9 i (j-i).toNat) H1
theorem uO{a:Expr}{ta:TA}{p pos:Pos}(hg:Gl X "range")(hm:X.mg "range"=none)(ha:PA X [a] ta)(hs:YK [a] X.env=[(false,eval a X.env)]:=by rfl):PI X tg (.Call (.Name "range" p) [a] [] pos) (zF ta):=by
 intro pins s σ H R I h;refine Call_ (rX I hg hm boot_range (XN (gO (ha pos pins s σ H _ I h) fun us s1 zqz=>?_) hs rfl));obtain⟨vs,H1,I1,r1,q1⟩:=zqz;obtain⟨j,e,q1,q2,q⟩:=q1;subst e;cases r1 with
 |cons r rr=>
  cases rr;obtain⟨t,rfl⟩:=r;exact call_range_1 (xg I1 (by lia) (by lia) q1 q2 (by simpa using q))
theorem uP{a b:Expr}{ta:TA}{p pos:Pos}(hg:Gl X "range")(hm:X.mg "range"=none)(ha:PA X [a,b] ta)(hs:YK [a,b] X.env=[(false,eval a X.env),(false,eval b X.env)]:=by rfl)(Q2:YK [b] X.env=[(false,eval b X.env)]:=by rfl) :
 PI X tg (.Call (.Name "range" p) [a,b] [] pos) (zG ta):=by
 intro pins s σ H R I h;refine Call_ (rX I hg hm boot_range (XN (gO (ha pos pins s σ H _ I h) fun us s1 ⟨vs,H1,I1,r1,q1⟩=>?_) (by rw[hs,Q2]) (by rw[Q2];rfl)));obtain⟨i,j,e,⟨q1,q2,q3,q4⟩,q⟩:=q1;subst e;cases r1 with
 |cons r rr=>
  cases rr with
  |cons r' rr=>
   cases rr;obtain⟨t,rfl⟩:=r;obtain⟨t',rfl⟩:=r';exact call_range_2 (xg I1 q1 q2 q3 q4 q)
def Cg (wi:TI) (g:TG) (tb:TS):TS:=fun D σ H=>wi σ H fun J H1=>∃W:Nat->Nat->St->Hp->Prop,(∃m,W 0 m σ H1)/\∀i m σ H,W i m σ H->
 (J.stop i H/\D.nx σ H)\/(J.go i H/\∃N:St->Hp->Prop,(∀σ' H',N σ' H'->∃m',m'<m/\W (i+1) m' σ' H')/\∀x H',J.A8 i H x H'->g x σ H' fun σ2 H2=>tb {D with nx:=N,ct:=N,bk:=D.nx} σ2 H2)
def rY (fp:List YE) (h:Heap):List (YE×Obj):=fp.filterMap fun b=>(h.get? b).map fun o=>(b,o)
theorem kG{fp:List YE}{h:Heap}{b:YE}{o:Obj}(hb:b∈fp)(e:h.get? b=some o):(b,o)∈rY fp h:=WU.mpr ⟨b,hb,by rw[e];rfl⟩
theorem Bb{fp:List YE}{h:Heap}{p:YE×Obj}(hp:p∈rY fp h):p.1∈fp/\h.get? p.1=some p.2:=by
 obtain⟨b,hb,e⟩:=WU.mp hp;cases q:h.get? b with
 |none=>rw[q] at e;cases e
 |some o=>
  rw[q] at e;have e':(b,o)=p:=Z5.inj e;subst e';exact⟨hb,q⟩
theorem Inv.pinned{pins:List (YE×Obj)}{σ:St}{H:Hp}{s:YO}{fp:List YE}(I:Inv X pins σ H s)(hf:∀b∈fp,qh X pins H b)(ho:∀b∈fp,∃o,s.heap.get? b=some o/\∀v,o.data≠.cell v):Inv X (pins++rY fp s.heap) σ H s:=
 I.zz fun p hp=>(Zg.mp hp).elim (fun z=>I.pin p (Zz _ z)) fun z=>by
  obtain⟨hb,e⟩:=Bb z;obtain⟨f0,f1,f2,_⟩:=hf p.1 hb;obtain⟨o,e',d⟩:=ho p.1 hb;rw[e] at e';cases e';exact⟨e,f0,f1,f2,d⟩
theorem Inv.oZ{pins pl:List (YE×Obj)}{σ:St}{H:Hp}{s:YO}(I:Inv X (pins++pl) σ H s):Inv X pins σ H s:=I.zz fun p hp=>I.pin p (Zz _ (ZU _ hp))
theorem dQ{iter:Expr}{body:List Stmt}{wi:TI}{g:TG}{tb:TS}{pos:Pos}(hp:PassesOwn (model X.prog X.w) X.A X.env X.xe)(hc:X.calm=true)(hi:PI X tg iter wi)(hg:PG X tg g)(hb:A4 X body tb)
 (hs:∀x,foldedSetIterable iter X.env x=pure x:=by intro _;rfl):PS X (.For tg iter body [] pos) (Cg wi g tb):=by
 intro pins s σ H D I h;refine wpAny_For (gO (hi pins s σ H _ I h) fun v s1 h1=>gO h1 fun Oe s2 h2=>?_) hs;obtain⟨it,fp,tn,J,H2,e,I2,T,Nf,f2,W,⟨m0,w0⟩,turn⟩:=h2;subst e;have stat:∀ {H':Hp},(∀b∈fp,H' b=none)->∀b∈fp,qh X pins H' b:=fun hn b hb=>⟨hn b hb,(f2 b hb).2⟩
 refine codeAny_forLoop_any (fun n s'=>∃i σ' H',Inv X pins σ' H' s'/\tn i s'.heap/\(∀b∈fp,H' b=none)/\W i n σ' H') ?_ m0 ⟨0,σ,H2,I2,Nf,fun b hb=>(f2 b hb).1,w0⟩
 rintro n s3 ⟨i,σ3,H3,I3,Gh,Ku,w3⟩
 rcases turn i n σ3 H3 w3 with ⟨stop,qn⟩ |⟨go,N,hN,step⟩
 ·refine wpAny_passesOwn hp (gO (T.done X rfl rfl rfl hc i pins s3 σ3 H3 X.xe I3 (stat Ku) Gh stop) fun r s4 zqz=>?_);obtain⟨hr,I4⟩:=zqz;subst hr;exact wpAny_execs_nil ⟨σ3,H3,I4,qn⟩
 ·refine wpAny_passesOwn hp (gO (T.item X rfl rfl rfl hc i pins s3 σ3 H3 X.xe I3 (stat Ku) Gh go) fun r s4 zqz=>?_);obtain⟨u,hr,h4⟩:=zqz;subst hr;refine wpAny_passesOwn hp (gO h4 fun _ s5 zqz=>?_);obtain⟨x,H5,I5,r5,y5,HS,Of⟩:=zqz;have Og:=I5.pinned (stat Of) (T.obj _ _ HS);refine wpAny_passesOwn hp (gO (hg _ s5 σ3 H5 x u _ Og r5 (step x H5 y5)) fun _ s6 zqz=>?_);obtain⟨σ6,H6,I6,q6⟩:=zqz;refine wpAny_passesOwn hp (gO (hb _ s6 σ6 H6 _ I6 q6) fun f s7 q7=>?_);have again:∀ {σ7:St} {H7:Hp},Inv X (pins++rY fp s5.heap) σ7 H7 s7->N σ7 H7->∃m,m<n/\∃i σ' H',Inv X pins σ' H' s7/\tn i s7.heap/\(∀b∈fp,H' b=none)/\W i m σ' H':=fun {σ7 H7} I7 n7=>by
   obtain⟨m',hm,w7⟩:=hN σ7 H7 n7;refine⟨m',hm,i+1,σ7,H7,I7.oZ,T.keep _ _ _ HS fun b hb o e=>(I7.pin (b,o) (Zz _ (Zz _ (kG hb e)))).1,fun b hb=>?_,w7⟩;obtain⟨o,e,d⟩:=T.obj _ _ HS b hb;exact(I7.pin (b,o) (Zz _ (Zz _ (kG hb e)))).2.1
  cases f with
  |next=>obtain⟨σ7,H7,I7,n7⟩:=q7;exact again I7 n7
  |cont=>obtain⟨σ7,H7,I7,n7⟩:=q7;exact again I7 n7
  |brk=>obtain⟨σ7,H7,I7,q7⟩:=q7;exact⟨σ7,H7,I7.oZ,q7⟩
  |ret v=>obtain⟨x7,σ7,H7,I7,r7,q7⟩:=q7;exact⟨x7,σ7,H7,I7.oZ,r7,q7⟩
end
theorem eE{K:Za}{a:YE}{xs:List V}{g:TG}{tb:TS}{D:Ends}{σ:St}{H:Hp}(Pv:Nat->St->Hp->Prop)(h0:Pv 0 σ H)(hl:∀i σ H,i<=xs.length->Pv i σ H->gX K H a xs)
 (hs:∀i x σ H,xs[i]?=some x->Pv i σ H->g x σ H fun σ2 H2=>tb {D with nx:=Pv (i+1),ct:=Pv (i+1),bk:=D.nx} σ2 H2) (hd:∀σ H,Pv xs.length σ H->D.nx σ H) :
 ∃W:Nat->Nat->St->Hp->Prop,(∃m,W 0 m σ H)/\∀i m σ H,W i m σ H->
  ((qe K a).stop i H/\D.nx σ H)\/((qe K a).go i H/\∃N:St->Hp->Prop,(∀σ' H',N σ' H'->∃m',m'<m/\W (i+1) m' σ' H')/\∀x H',(qe K a).A8 i H x H'->g x σ H' fun σ2 H2=>tb {D with nx:=N,ct:=N,bk:=D.nx} σ2 H2):=by
 refine⟨fun i m σ H=>m=xs.length-i/\i<=xs.length/\Pv i σ H,⟨xs.length,by simp,ZN _,h0⟩,?_⟩
 rintro i m σ H ⟨rfl,hi,p⟩
 have q:=hl i σ H hi p;by_cases yo:i<xs.length
 ·refine .inr ⟨⟨xs,xs[i],q,by simp[yo]⟩,Pv (i+1),fun σ' H' p'=>⟨xs.length-(i+1),by lia,rfl,yo,p'⟩,fun x H' y=>?_⟩;obtain⟨e,y⟩:=y;subst e;exact hs i x σ _ (y xs q) p
 ·have e:i=xs.length:=by lia
  subst e;exact .inl ⟨⟨xs,q,Zn _⟩,hd σ H p⟩
theorem vP{K:Za}{a:YE}{xs:List V}{g:TG}{tb:TS}{D:Ends}{σ:St}{H:Hp}(Pv:Nat->St->Hp->Prop)(h0:Pv 0 σ H)(hl:∀i σ H,i<=xs.length->Pv i σ H->bU K H a xs)
 (hs:∀i x σ H,xs[i]?=some x->Pv i σ H->g x σ H fun σ2 H2=>tb {D with nx:=Pv (i+1),ct:=Pv (i+1),bk:=D.nx} σ2 H2) (hd:∀σ H,Pv xs.length σ H->D.nx σ H) :
 ∃W:Nat->Nat->St->Hp->Prop,(∃m,W 0 m σ H)/\∀i m σ H,W i m σ H->
  ((Cf K a).stop i H/\D.nx σ H)\/((Cf K a).go i H/\∃N:St->Hp->Prop,(∀σ' H',N σ' H'->∃m',m'<m/\W (i+1) m' σ' H')/\∀x H',(Cf K a).A8 i H x H'->g x σ H' fun σ2 H2=>tb {D with nx:=N,ct:=N,bk:=D.nx} σ2 H2):=by
 refine⟨fun i m σ H=>m=xs.length-i/\i<=xs.length/\Pv i σ H,⟨xs.length,by simp,ZN _,h0⟩,?_⟩
 rintro i m σ H ⟨rfl,hi,p⟩
 have q:=hl i σ H hi p;by_cases yo:i<xs.length
 ·refine .inr ⟨⟨xs,xs[i],q,by simp[yo]⟩,Pv (i+1),fun σ' H' p'=>⟨xs.length-(i+1),by lia,rfl,yo,p'⟩,fun x H' y=>?_⟩;obtain⟨e,y⟩:=y;subst e;exact hs i x σ _ (y xs q) p
 ·have e:i=xs.length:=by lia
  subst e;exact .inl ⟨⟨xs,q,Zn _⟩,hd σ H p⟩
theorem nh{lo:Int}{n:Nat}{g:TG}{tb:TS}{D:Ends}{σ:St}{H:Hp}(Pv:Nat->St->Hp->Prop)(h0:Pv 0 σ H)
 (hs:∀i σ H,i<n->Pv i σ H->g (.int (lo+i)) σ H fun σ2 H2=>tb {D with nx:=Pv (i+1),ct:=Pv (i+1),bk:=D.nx} σ2 H2) (hd:∀σ H,Pv n σ H->D.nx σ H) :
 ∃W:Nat->Nat->St->Hp->Prop,(∃m,W 0 m σ H)/\∀i m σ H,W i m σ H->
  ((A9 lo n).stop i H/\D.nx σ H)\/((A9 lo n).go i H/\∃N:St->Hp->Prop,(∀σ' H',N σ' H'->∃m',m'<m/\W (i+1) m' σ' H')/\∀x H',(A9 lo n).A8 i H x H'->g x σ H' fun σ2 H2=>tb {D with nx:=N,ct:=N,bk:=D.nx} σ2 H2):=by
 refine⟨fun i m σ H=>m=n-i/\i<=n/\Pv i σ H,⟨n,by simp,ZN _,h0⟩,?_⟩
 rintro i m σ H ⟨rfl,hi,p⟩
 by_cases yo:i<n
 ·refine .inr ⟨yo,Pv (i+1),fun σ' H' p'=>⟨n-(i+1),by lia,rfl,yo,p'⟩,fun x H' y=>?_⟩;obtain⟨e,y⟩:=y;subst e y;exact hs i σ _ yo p
 ·have e:i=n:=by lia
  subst e;exact .inl ⟨Zn _,hd σ H p⟩
abbrev R2:=V->V->Hp->VK->Prop
def nX (X:Cx) (f:YF->YF->Sem YF) (r:R2):Prop:=
 ∀(pins:List (YE×Obj)) (s:YO) (σ:St) (H:Hp) (x y:V) (v u:YF) (Q:VK),Inv X pins σ H s->RelV x v->RelV y u->r x y H Q->
  wpAny (model X.prog X.w) X.A (f v u) (EP X pins σ Q) X.xe s
def Oh (X:Cx) (f:YF->Sem YF) (r:V->Hp->VK->Prop):Prop:=
 ∀(pins:List (YE×Obj)) (s:YO) (σ:St) (H:Hp) (x:V) (v:YF) (Q:VK),Inv X pins σ H s->RelV x v->r x H Q->
  wpAny (model X.prog X.w) X.A (f v) (EP X pins σ Q) X.xe s
def jl (X:Cx) (f:YF) (r:List V->Hp->VK->Prop):Prop:=
 ∀(pins:List (YE×Obj)) (s:YO) (σ:St) (H:Hp) (xs:List V) (us:List YF) (Q:VK),Inv X pins σ H s->Vals xs us->r xs H Q->
  wpAny (model X.prog X.w) X.A (call f us) (EP X pins σ Q) X.xe s
def Kv (r:R2) (ta tb:TE):TE:=fun σ H Q=>ta σ H fun x H1=>tb σ H1 fun y H2=>r x y H2 Q
def Oi (r:V->Hp->VK->Prop) (ta:TE):TE:=fun σ H Q=>ta σ H fun x H1=>r x H1 Q
def rI (C:Int->Int->Prop) (g:Int->Int->V):R2:=fun x y H Q=>∃i j,x=.int i/\y=.int j/\C i j/\Q (g i j) H
def EZ (g:Int->Int->V):R2:=fun x y H Q=>∃i j,x=.int i/\y=.int j/\Q (g i j) H
def rU (g:Int->V):V->Hp->VK->Prop:=fun x H Q=>∃i,x=.int i/\Q (g i) H
section
variable{X:Cx}{a b c:Expr}{ta tb tc:TE}{pos:Pos}
theorem HU(ha:PE X a ta)(hb:PE X b tb){pins:List (YE×Obj)}{s:YO}{σ:St}{H:Hp}{R:V->V->Hp->Prop}(I:Inv X pins σ H s)
 (h:ta σ H fun x H1=>tb σ H1 fun y H2=>R x y H2) {Q:YF->YO->Prop} {f:YF->YF->Sem YF}
 (hf:∀v u s2 x y H2,Inv X pins σ H2 s2->RelV x v->RelV y u->R x y H2->wpAny (model X.prog X.w) X.A (f v u) Q X.xe s2) :
 wpAny (model X.prog X.w) X.A (eval a X.env) (fun v s₁=>wpAny (model X.prog X.w) X.A (eval b X.env) (fun u s₂=>wpAny (model X.prog X.w) X.A (f v u) Q X.xe s₂) X.xe s₁) X.xe s:=by
 refine gO (ha pins s σ H _ I h) fun v s1 zqz=>?_;obtain⟨x,H1,I1,r1,q1⟩:=zqz;refine gO (hb pins s1 σ H1 _ I1 q1) fun u s2 zqz=>?_;obtain⟨y,H2,I2,r2,q2⟩:=zqz;exact hf v u s2 x y H2 I2 r1 r2 q2
theorem aG{op:Operator}{r:R2}(ho:nX X (binaryOp op) r)(ha:PE X a ta)(hb:PE X b tb):PE X (.BinOp a op b pos) (Kv r ta tb):=by
 intro pins s σ H Q I h;exact wpAny_BinOp (HU ha hb I h fun v u s2 x y H2 I2 rx ry q=>ho pins s2 σ H2 x y v u Q I2 rx ry q)
theorem Kw{op:UnaryOp}{r:V->Hp->VK->Prop}(ho:Oh X (unaryOp op) r)(ha:PE X a ta):PE X (.UnaryOp op a pos) (Oi r ta):=by
 intro pins s σ H Q I h;exact UnaryOp_ (gO (ha pins s σ H _ I h) fun v s1 ⟨x,H1,I1,r1,q1⟩=>ho pins s1 σ H1 x v Q I1 r1 q1)
theorem Ng{f:YF->YF->Sem YF}{C:Int->Int->Prop}{g:Int->Int->Int}
 (rule:∀(i j:Int) (t u:Tok) (s:YO) (Q:YF->YO->Prop) (E:YF->YO->Prop),C i j->Q (.int (g i j) s.toks) {s with toks:=s.toks+1}->wpAny (model X.prog X.w) X.A (f (.int i t) (.int j u)) Q E s) :
 nX X f (rI C fun i j=>.int (g i j)):=by
 intro pins s σ H x y v u Q I rx ry h;obtain⟨i,j,rfl,rfl,hc,q⟩:=h;obtain⟨t,rfl⟩:=rx;obtain⟨t',rfl⟩:=ry;exact rule i j t t' s _ _ hc ⟨.int (g i j),H,I.tok _,⟨_,rfl⟩,q⟩
theorem Kx{f:YF->YF->Sem YF}{g:Int->Int->Int}
 (rule:∀(i j:Int) (t u:Tok) (s:YO) (Q:YF->YO->Prop) (E:YF->YO->Prop),Q (.int (g i j) s.toks) {s with toks:=s.toks+1}->wpAny (model X.prog X.w) X.A (f (.int i t) (.int j u)) Q E s) :
 nX X f (EZ fun i j=>.int (g i j)):=by
 intro pins s σ H x y v u Q I rx ry h;obtain⟨i,j,rfl,rfl,q⟩:=h;obtain⟨t,rfl⟩:=rx;obtain⟨t',rfl⟩:=ry;exact rule i j t t' s _ _ ⟨.int (g i j),H,I.tok _,⟨_,rfl⟩,q⟩
theorem HV{f:YF->YF->Sem YF}{g:Int->Int->Bool}
 (rule:∀(i j:Int) (t u:Tok) (s:YO) (Q:YF->YO->Prop) (E:YF->YO->Prop),Q (.bool (g i j)) s->wpAny (model X.prog X.w) X.A (f (.int i t) (.int j u)) Q E s) :
 nX X f (EZ fun i j=>.bl (g i j)):=by
 intro pins s σ H x y v u Q I rx ry h;obtain⟨i,j,rfl,rfl,q⟩:=h;obtain⟨t,rfl⟩:=rx;obtain⟨t',rfl⟩:=ry;exact rule i j t t' s _ _ ⟨.bl (g i j),H,I,rfl,q⟩
def Ky (i j:Int):Prop:=0<j/\j<1073741824
def Kz (i j:Int):Prop:=0<=j/\j<=1000000/\i.natAbs<2 ^ 64
def Bc (i j:Int):Prop:=(-(2 ^ 64)<i/\i<2 ^ 64)\/(-(2 ^ 64)<j/\j<2 ^ 64)
theorem Bc.ok{i j:Int}(h:Bc i j):IntMulOk i j:=by
 rcases h with ⟨h1,h2⟩ |⟨h1,h2⟩
 ·exact .of_left (intBits_le_64 h1 h2)
 ·exact .of_right (intBits_le_64 h1 h2)
theorem cT:nX X (binaryOp .Add) (EZ fun i j=>.int (i+j)):=Kx fun _ _ _ _ _ _ _ q=>add_int q
theorem oy:nX X (binaryOp .Sub) (EZ fun i j=>.int (i-j)):=Kx fun _ _ _ _ _ _ _ q=>sub_int q
theorem jh:nX X (binaryOp .Mult) (rI Bc fun i j=>.int (i*j)):=Ng fun _ _ _ _ _ _ _ hc q=>mul_int q hc.ok
theorem vQ:nX X (binaryOp .FloorDiv) (rI Ky fun i j=>.int (i/j)):=Ng fun i j _ _ _ _ _ hc q=>by
 have h1:(0:Int)<j:=hc.1;have h2:j<1073741824:=hc.2;exact floordiv_int (by lia) (by rw[Int.fdiv_eq_ediv_of_nonneg i (by lia)];exact q) (.inl (PyProof.noPylong_small (by lia)))
theorem iM:nX X (binaryOp .Mod) (rI (fun _ j=>0<j) fun i j=>.int (i%j)):=Ng fun i j _ _ _ _ _ hc q=>by
 have h1:(0:Int)<j:=hc;exact mod_int' (by lia) (by rw[Int.fmod_eq_emod_of_nonneg i (by lia)];exact q)
theorem yC:nX X (binaryOp .Pow) (rI Kz fun i j=>.int (i ^ j.toNat)):=Ng fun _ _ _ _ _ _ _ hc q=>pow_int_small hc.1 hc.2.1 hc.2.2 q
theorem S6{f:YF->Sem YF}{g:Int->Int}
 (rule:∀(i:Int) (t:Tok) (s:YO) (Q:YF->YO->Prop) (E:YF->YO->Prop),Q (.int (g i) s.toks) {s with toks:=s.toks+1}->wpAny (model X.prog X.w) X.A (f (.int i t)) Q E s) :
 Oh X f (rU fun i=>.int (g i)):=by
 intro pins s σ H x v Q I rx h;obtain⟨i,rfl,q⟩:=h;obtain⟨t,rfl⟩:=rx;exact rule i t s _ _ ⟨.int (g i),H,I.tok _,⟨_,rfl⟩,q⟩
theorem HW:Oh X (unaryOp .USub) (rU fun i=>.int (-i)):=S6 fun _ _ _ _ _ q=>neg_int q
end
def rg:V->V->Bool
 |.f9,.f9=>true |.f9,.int _=>true |.int _,.f9=>true |.f9,.bl _=>true |.bl _,.f9=>true |.f9,.str _=>true |.str _,.f9=>true
 |.int _,.int _=>true |.bl _,.bl _=>true |.str _,.str _=>true |.B4 _,.B4 _=>true
 |.int _,.str _=>true |.str _,.int _=>true |.bl _,.str _=>true |.str _,.bl _=>true
 |_,_=>false
def Q3:R2:=fun x y H Q=>rg x y=true/\Q (.bl (decide (x=y))) H
def Q4:R2:=fun x y H Q=>rg x y=true/\Q (.bl (!decide (x=y))) H
theorem zH{i j:Int}:decide (V.int i=V.int j)=(i==j):=by
 rw[X9];simp
theorem Ci{i j:Bool}:decide (V.bl i=V.bl j)=(i==j):=by
 rw[X9];simp
theorem zI{i j:Str}:decide (V.str i=V.str j)=(i==j):=by
 rw[X9];simp
theorem zJ{i j:Array UInt8}:decide (V.B4 i=V.B4 j)=(i.toList==j.toList):=by
 rw[X9];cases i;cases j;simp
section
variable{X:Cx}{a b c:Expr}{ta tb tc:TE}{pos:Pos}
theorem cj{pins:List (YE×Obj)}{σ:St}{H:Hp}{s:YO}{Q:VK}{k k':Bool}(I:Inv X pins σ H s)(q:Q (.bl k) H)(e:k=k'):EP X pins σ Q (.bool k') s:=by
 subst e;exact⟨.bl k,H,I,rfl,q⟩
theorem kc:nX X (compareOp .Eq) Q3:=by
 intro pins s σ H x y v u Q I rx ry h;obtain⟨hs,q⟩:=h;cases x with
 |f9=>
  cases rx;cases y with
  |f9=>cases ry;exact PySem.EqNone.eq_none_none (cj I q (by simp))
  |bl j=>cases ry;exact PySem.EqNone.eq_none_bool (cj I q (by simp))
  |int j=>obtain⟨t',rfl⟩:=ry;exact PySem.EqNone.eq_none_int (cj I q (by simp))
  |str j=>obtain⟨t',rfl⟩:=ry;exact PySem.EqNone.eq_none_str (cj I q (by simp))
  |_=>exact absurd (show false=true from hs) Zo
 |bl i=>
  cases rx;cases y with
  |f9=>cases ry;exact PySem.EqNone.eq_bool_none (cj I q (by simp))
  |bl j=>cases ry;exact eq_bool (cj I q Ci)
  |str j=>obtain⟨t',rfl⟩:=ry;exact PySem.EqMixed.eq_bool_str (cj I q (by simp))
  |_=>exact absurd (show false=true from hs) Zo
 |int i=>
  obtain⟨t,rfl⟩:=rx;cases y with
  |f9=>cases ry;exact PySem.EqNone.eq_int_none (cj I q (by simp))
  |int j=>obtain⟨t',rfl⟩:=ry;exact eq_int (cj I q zH)
  |str j=>obtain⟨t',rfl⟩:=ry;exact PySem.EqMixed.eq_int_str (cj I q (by simp))
  |_=>exact absurd (show false=true from hs) Zo
 |str i=>
  obtain⟨t,rfl⟩:=rx;cases y with
  |f9=>cases ry;exact PySem.EqNone.eq_str_none (cj I q (by simp))
  |bl j=>cases ry;exact PySem.EqMixed.eq_str_bool (cj I q (by simp))
  |int j=>obtain⟨t',rfl⟩:=ry;exact PySem.EqMixed.eq_str_int (cj I q (by simp))
  |str j=>obtain⟨t',rfl⟩:=ry;exact eq_str (cj I q zI)
  |_=>exact absurd (show false=true from hs) Zo
 |B4 i=>
  obtain⟨t,rfl⟩:=rx;cases y with
  |B4 j=>obtain⟨t',rfl⟩:=ry;exact PySem.W.eq_bytes (cj I q zJ)
  |_=>exact absurd (show false=true from hs) Zo
 |_=>cases y<;>exact absurd (show false=true from hs) Zo
theorem Cj:nX X (compareOp .NotEq) Q4:=by
 intro pins s σ H x y v u Q I rx ry h;obtain⟨hs,q⟩:=h;cases x with
 |f9=>
  cases rx;cases y with
  |f9=>cases ry;exact PySem.EqNone.ne_none_none (cj I q (by simp))
  |bl j=>cases ry;exact PySem.EqNone.ne_none_bool (cj I q (by simp))
  |int j=>obtain⟨t',rfl⟩:=ry;exact PySem.EqNone.ne_none_int (cj I q (by simp))
  |str j=>obtain⟨t',rfl⟩:=ry;exact PySem.EqNone.ne_none_str (cj I q (by simp))
  |_=>exact absurd (show false=true from hs) Zo
 |bl i=>
  cases rx;cases y with
  |f9=>cases ry;exact PySem.EqNone.ne_bool_none (cj I q (by simp))
  |bl j=>cases ry;exact ne_bool (cj I q (congrArg not Ci))
  |str j=>obtain⟨t',rfl⟩:=ry;exact PySem.EqMixed.ne_bool_str (cj I q (by simp))
  |_=>exact absurd (show false=true from hs) Zo
 |int i=>
  obtain⟨t,rfl⟩:=rx;cases y with
  |f9=>cases ry;exact PySem.EqNone.ne_int_none (cj I q (by simp))
  |int j=>obtain⟨t',rfl⟩:=ry;exact ne_int (cj I q (congrArg not zH))
  |str j=>obtain⟨t',rfl⟩:=ry;exact PySem.EqMixed.ne_int_str (cj I q (by simp))
  |_=>exact absurd (show false=true from hs) Zo
 |str i=>
  obtain⟨t,rfl⟩:=rx;cases y with
  |f9=>cases ry;exact PySem.EqNone.ne_str_none (cj I q (by simp))
  |bl j=>cases ry;exact PySem.EqMixed.ne_str_bool (cj I q (by simp))
  |int j=>obtain⟨t',rfl⟩:=ry;exact PySem.EqMixed.ne_str_int (cj I q (by simp))
  |str j=>obtain⟨t',rfl⟩:=ry;exact ne_str (cj I q (congrArg not zI))
  |_=>exact absurd (show false=true from hs) Zo
 |B4 i=>
  obtain⟨t,rfl⟩:=rx;cases y with
  |B4 j=>obtain⟨t',rfl⟩:=ry;exact PySem.W.ne_bytes (cj I q (congrArg not zJ))
  |_=>exact absurd (show false=true from hs) Zo
 |_=>cases y<;>exact absurd (show false=true from hs) Zo
theorem qJ:nX X (compareOp .Lt) (EZ fun i j=>.bl (decide (i<j))):=HV fun _ _ _ _ _ _ _ q=>lt_int q
theorem uQ:nX X (compareOp .Gt) (EZ fun i j=>.bl (decide (j<i))):=HV fun _ _ _ _ _ _ _ q=>gt_int q
theorem Gi:nX X (compareOp .GtE) (EZ fun i j=>.bl (decide (j<=i))):=HV fun _ _ _ _ _ _ _ q=>ge_int q
theorem nX.or{f:YF->YF->Sem YF}{r r':R2}(h:nX X f r)(h':nX X f r'):nX X f (fun x y H Q=>r x y H Q\/r' x y H Q):=by
 intro pins s σ H x y v u Q I rx ry q;rcases q with q |q
 ·exact h pins s σ H x y v u Q I rx ry q
 ·exact h' pins s σ H x y v u Q I rx ry q
theorem bu(b:Expr){op:CmpOp}(h:op≠.In:=by decide)(h2:op≠.NotIn:=by decide):behindInMarks op b=false:=by
 have e1:(op==CmpOp.In)=false:=by cases op<;>first |rfl |exact absurd rfl h
 have e2:(op==CmpOp.NotIn)=false:=by cases op<;>first |rfl |exact absurd rfl h2
 cases b<;>simp[behindInMarks,e1,e2]
theorem gY{op:CmpOp}{r:R2}(ho:nX X (compareOp op) r)(ha:PE X a ta)(hb:PE X b tb)(hm:behindInMarks op b=false):PE X (.Compare a [op] [b] pos) (Kv r ta tb):=by
 intro pins s σ H Q I h;exact wpAny_Compare1 (HU ha hb I h fun v u s2 x y H2 I2 rx ry q=>ho pins s2 σ H2 x y v u Q I2 rx ry q) hm
def zK (t:TE):TT:=fun σ H Q=>t σ H fun x H'=>∃k,x=.bl k/\Q k H'
theorem aY{op:CmpOp}{r:R2}(ho:nX X (compareOp op) r)(ha:PE X a ta)(hb:PE X b tb)(hm:behindInMarks op b=false):PT X (.Compare a [op] [b] pos) (zK (Kv r ta tb)):=by
 intro pins s σ H Q I h;refine wpAny_isTrue_Compare1 (gO (ha pins s σ H _ I h) fun v s1 zqz=>?_) hm;obtain⟨x,H1,I1,r1,q1⟩:=zqz;refine gO (hb pins s1 σ H1 _ I1 q1) fun u s2 zqz=>?_;obtain⟨y,H2,I2,r2,q2⟩:=zqz;refine gO (ho pins s2 σ H2 x y v u _ I2 r1 r2 q2) fun c s3 zqz=>?_;obtain⟨z,H3,I3,r3,k,e,q3⟩:=zqz;subst e;cases r3;exact wpAny_truthy_bool ⟨H3,I3,q3⟩
def Ck (r r':R2) (ta tb tc:TE):TE:=fun σ H Q=>ta σ H fun x H1=>tb σ H1 fun y H2=>r x y H2 fun z H3=>∃k,z=.bl k/\
 (if k=true then tc σ H3 fun w' H4=>r' y w' H4 Q else Q (.bl false) H3)
theorem rZ:(YM:Nat)<2 ^ 63:=by rw[sizeLine_eq];decide
theorem vals1{x:V}{us:List YF}(r:Vals [x] us):∃u,us=[u]/\RelV x u:=by
 cases r with
 |cons r1 r2=>cases r2;exact⟨_,rfl,r1⟩
theorem vals2{x y:V}{us:List YF}(r:Vals [x,y] us):∃u w',us=[u,w']/\RelV x u/\RelV y w':=by
 cases r with
 |cons r1 r2=>
  cases r2 with
  |cons r3 r4=>cases r4;exact⟨_,_,rfl,r1,r3⟩
theorem Bd(hc:X.calm=true):jl X (.builtin "min") (fun xs H Q=>∃i j,xs=[.int i,.int j]/\Q (.int (if j<i then j else i)) H):=by
 intro pins s σ H xs us Q I r h;obtain⟨i,j,rfl,q⟩:=h;obtain⟨u,w',rfl,⟨t,rfl⟩,⟨t',rfl⟩⟩:=vals2 r;refine min_two_ints (I.ok.hd hc) fun h' tk k=>⟨_,H,I.kept k,?_,q⟩
 by_cases hj:j<i
 ·rw[if_pos hj,if_pos hj];exact⟨_,rfl⟩
 ·rw[if_neg hj,if_neg hj];exact⟨_,rfl⟩
end
structure HX(h:Heap)(x dx C:YE)(mA:Str->Option YF):Prop where
 obj:h.get? x=some (Ye C dx)
 ns:h.Ns1 dx mA
 ne:dx≠x
theorem Be{h:Heap}{dx:YE}{mA:Str->Option YF}(n:h.Ns1 dx mA):∃od,h.get? dx=some od/\∀name,Yk name od=some (mA name):=by
 obtain⟨o,es,ep,ho,hd,hk,_,hm⟩:=n;refine⟨o,ho,fun name=>?_⟩;have e:=hm name;unfold nsFind findBy at e;rw[<- Array.find?_toList] at e;unfold Yk;rw[hd];dsimp only;split
 ·rename_i y q;rw[q] at e;exact congrArg some e
 ·rename_i q;rw[q] at e;have a:es.toList.any (·.refKey)=false:=by
   rw[List.any_eq_false];intro y hy;obtain⟨z,t,Oj⟩:=hk y (Array.mem_toList_iff.mp hy);simp[DictEntry.refKey,Oj]
  have a':¬es.toList.any (·.refKey)=true:=by rw[a];exact Zo
  rw[if_neg a'];exact congrArg some e
theorem HX.look{h:Heap}{x dx C:YE}{mA:Str->Option YF}(I:HX h x dx C mA):∃od,PySem.W.InstAt h x (Ye C dx) C (some od)/\∀name,Yk name od=some (mA name):=
 let ⟨od,ho,hl⟩:=Be I.ns
 ⟨od,⟨I.obj,rfl,rfl,ho⟩,hl⟩
def HY (f:Str) (v:V):List (Str×V)->List (Str×V)
 |[]=>[(f,v)]
 |(g,x)::r=>if g=f then (g,v)::r else (g,x)::HY f v r
theorem ow.some_of{v:V}{o:Option YF}(r:ow (some v) o):∃u,o=some u/\RelV v u:=by
 cases o with
 |none=>exact(show False from r).elim
 |some u=>exact⟨u,rfl,r⟩
section
variable{P:YR}{w:YG}{H H':Hp}{h h':Heap}{a C dx:YE}{fs HC:List (Str×V)}
theorem E1(fK:oW P w H h)(e:H a=some (.ins C dx fs)):∃mA,HX h a dx C mA/\(∀f,ow (fs.lookup f) (mA f))/\PySem.Within mA (fs.map (·.1))/\fs.length<=1000/\H dx=some (.own a):=by
 obtain⟨d,z,ne,ob,mA,n,r,q⟩:=(show dF P w H h a (.ins C dx fs) from fK a _ e)
 exact⟨mA,⟨ob,n,ne⟩,r,q,z,d⟩
end
structure JH(K:Za)(C:YE):Prop where
 pg:PySem.W.plainGet K C Str.empty=true
 hd:PySem.W.hasDictIn K C=true
 po:PySem.W.plainOver K C=true
 sa:Yl K (.ref C) "__setattr__"=some (some (.builtin "object.__setattr__"))
theorem JH.get{K:Za}{C:YE}(c:JH K C)(f:Str):PySem.W.plainGet K C f=true:=c.pg
def yE (K:Za) (C:YE) (f:Str):Prop:=Yl K (.ref C) f=some none
def KA (K:Za) (ta:TE) (f:Str):TE:=fun σ H Q=>ta σ H fun x H1=>∃a C dx fs v,x=.ref a/\H1 a=some (.ins C dx fs)/\JH K C/\yE K C f/\fs.lookup f=some v/\Q v H1
def KC (K:Za) (ta tv:TE) (f:Str):TS:=fun D σ H=>tv σ H fun y H1=>ta σ H1 fun x H2=>∃a C dx fs,x=.ref a/\H2 a=some (.ins C dx fs)/\JH K C/\yE K C f/\fs.length<1000/\
 D.nx σ (upd H2 a (.ins C dx (HY f y fs)))
def zL (K:Za) (ta tv:TE) (rd:V->V->Hp->VK->Prop) (f:Str):TS:=fun D σ H=>ta σ H fun x H1=>∃a C dx fs v,x=.ref a/\H1 a=some (.ins C dx fs)/\JH K C/\yE K C f/\fs.lookup f=some v/\
 tv σ H1 fun y H2=>rd v y H2 fun z H3=>∃Q5 HC,H3 a=some (.ins C Q5 HC)/\HC.length<1000/\D.nx σ (upd H3 a (.ins C Q5 (HY f z HC)))
section
variable{X:Cx}{pins:List (YE×Obj)}{σ:St}{H:Hp}{s:YO}{A:YQ}{E:YF->YO->Prop}{Q:YF->YO->Prop}{c:YF}{b:Bool}
inductive rh(K:Za)(H:Hp):V->YF->Prop where
 |f9:rh K H .f9 (.type "NoneType")
 |bl (x:Bool):rh K H (.bl x) (.type "bool")
 |int (i:Int):rh K H (.int i) (.type "int")
 |str (x:Str):rh K H (.str x) (.type "str")
 |JE (x:UInt64):rh K H (.JE x) (.type "float")
 |lst {a:YE} {xs:List V} (e:H a=some (.lst xs)):rh K H (.ref a) (.type "list")
 |yw {a:YE} {o:Obj} {xs:List V} (e:H a=some (.yw o (.lst xs))):rh K H (.ref a) (.type "list")
 |tup {a:YE} {xs:List V} (e:H a=some (.tup xs)):rh K H (.ref a) (.type "tuple")
 |dK {a:YE} {aJ:List (Key×V)} (e:H a=some (.dK aJ)):rh K H (.ref a) (.type "dict")
 |dT {a:YE} {aJ:List (List Key×V)} (e:H a=some (.dT aJ)):rh K H (.ref a) (.type "dict")
 |ins {a C dx:YE} {fs:List (Str×V)} (e:H a=some (.ins C dx fs)) (cl:JH K C) (ha:Yl K (.ref C) "__class__"=some (some (.builtin "object.__class__")))
  (hn:PySem.W.specialIn K (.builtin "object.__class__") "__get__"=some (some (.builtin "getset_descriptor.__get__"))) (Q6:PySem.W.takesIn K (.builtin "object.__class__")=some true)
  (hm:PySem.W.mroIn K C (.type "object")=some true):rh K H (.ref a) (.ref C)
theorem uR{x:V}{u t:YF}(I:Inv X pins σ H s)(rx:RelV x u)(ty:rh X.K H x t)(e:ZZ X.K t c=some b)(h:∀tk,Q (.bool b) {s with toks:=tk}) :
 wpAny (model X.prog X.w) A (call (.builtin "isinstance") [u,c]) Q E s:=by
 cases ty with
 |f9=>cases (show u=Value.none from rx);exact Z1 PySem.W.kitx_none I.rG True.intro e (fun z=>nomatch z) h
 |bl y=>cases (show u=Value.bool y from rx);exact Z1 PySem.W.kitx_bool I.rG True.intro e (fun z=>nomatch z) h
 |int i=>obtain⟨t,q⟩:=(show ∃t,u=Value.int i t from rx);cases q;exact Z1 PySem.W.kitx_int I.rG True.intro e (fun z=>nomatch z) h
 |str y=>obtain⟨t,q⟩:=(show ∃t,u=Value.str y t from rx);cases q;exact Z1 PySem.W.kitx_str I.rG True.intro e (fun z=>nomatch z) h
 |JE y=>obtain⟨t,q⟩:=(show ∃t,u=Value.float y t from rx);cases q;exact Z1 PySem.W.kitx_float I.rG True.intro e (fun z=>nomatch z) h
 |@lst a xs ea=>
  cases (show u=Value.ref a from rx);obtain⟨_,_,n,_,h1⟩:=(show dF X.prog X.w H s.heap a (.lst xs) from I.fK a _ ea)
  exact Z1 X0 I.rG ⟨_,h1,rfl⟩ e (fun z=>nomatch z) h
 |@yw a ob xs ea=>
  cases (show u=Value.ref a from rx);obtain⟨_,_,_,n,_,h1⟩:=(show dF X.prog X.w H s.heap a (.yw ob (.lst xs)) from I.fK a _ ea)
  exact Z1 X0 I.rG ⟨_,h1,rfl⟩ e (fun z=>nomatch z) h
 |@tup a xs ea=>
  cases (show u=Value.ref a from rx);obtain⟨_,_,_,p⟩:=(show dF X.prog X.w H s.heap a (.tup xs) from I.fK a _ ea)
  obtain⟨o,h1,h2,_⟩:=p;exact Z1 WV I.rG ⟨o,h1,h2⟩ e (fun z=>nomatch z) h
 |@dK a aJ ea=>
  cases (show u=Value.ref a from rx);obtain⟨_,_,vs,_,p⟩:=(show dF X.prog X.w H s.heap a (.dK aJ) from I.fK a _ ea)
  obtain⟨o,es,ep,h1,h2,_⟩:=p;exact Z1 PySem.W.kitx_dict I.rG ⟨o,h1,h2.1⟩ e (fun z=>nomatch z) h
 |@dT a aJ ea=>
  cases (show u=Value.ref a from rx);obtain⟨_,_,xs,_,o,es,ep,h1,h2,_⟩:=(show dF X.prog X.w H s.heap a (.dT aJ) from I.fK a _ ea)
  exact Z1 PySem.W.kitx_dict I.rG ⟨o,h1,h2.1⟩ e (fun z=>nomatch z) h
 |@ins a C dx fs ea cl ha hn Q6 hm=>
  cases (show u=Value.ref a from rx);obtain⟨mA,O,_⟩:=E1 I.fK ea;obtain⟨od,J,_⟩:=O.look;exact Z1 (PySem.W.kitx_own (cl.get _) cl.hd ha hn Q6 hm) I.rG J e (fun z=>nomatch z) h
end
structure jr(k:Nat)(A:YQ):Prop where
 hd:A.handled=none
 dp:A.depth+3*k+5<recursionLimit
 un:A.units+16*k+200<cLine
theorem jr.mono{j k:Nat}{A:YQ}(r:jr k A)(h:j<=k):jr j A:=⟨r.hd,by have:=r.dp;lia,by have:=r.un;lia⟩
theorem jr.deeper{k:Nat}{A:YQ}(r:jr (k+1) A)(env:Env):jr k (A.deeper env):=
 ⟨r.hd,by have:=r.dp;show A.depth+1+3*k+5<_;lia,by have:=r.un;show A.units+3+16*k+200<_;lia⟩
theorem jr.in1{k:Nat}{A:YQ}(r:jr (k+1) A):jr k A.in1:=
 ⟨r.hd,by have:=r.dp;show A.depth+3*k+5<_;lia,by have:=r.un;show A.units+1+16*k+200<_;lia⟩
theorem jr.depth{k:Nat}{A:YQ}(r:jr k A):A.depth<recursionLimit:=by have:=r.dp;lia
theorem jr.units{k:Nat}{A:YQ}(r:jr k A):A.units+64<cLine:=by have:=r.un;lia
def KD:TA:=fun _ H Q=>Q [] H
def Cn (ta:TE) (tr:TA):TA:=fun σ H Q=>ta σ H fun x H1=>tr σ H1 fun xs H2=>Q (x::xs) H2
section
variable{X:Cx}{e:Expr}{es:List Expr}{te:TE}{t:TA}{pos:Pos}
theorem ag:PA X [] KD:=fun _ _ _ _ H Q I h=>Calls.spliced_nil ⟨[],H,I,.nil,h⟩
theorem ae(ha:PE X e te)(hr:PA X es t)(hs:YK (e::es) X.env=(false,eval e X.env)::YK es X.env:=by rfl):PA X (e::es) (Cn te t):=by
 intro pos pins s σ H Q I h;rw[hs];show wpAny _ _ (spliced ((false,eval e X.env)::backTo pos (YK es X.env))) _ _ s;refine Calls.spliced_cons (gO (ha pins s σ H _ I h) fun u s1 zqz=>?_);obtain⟨x,H1,I1,r1,q1⟩:=zqz;exact gO (hr pos pins s1 σ H1 _ I1 q1) fun us s2 ⟨xs,H2,I2,r2,q2⟩=>⟨x::xs,H2,I2,.cons r1 r2,q2⟩
def KG (t:TA):TE:=fun σ H Q=>t σ H fun xs H1=>xs.length<=YM/\∀p,H1 p=none->Q (.ref p) (upd H1 p (.tup xs))
def KI (t:TA):TE:=fun σ H Q=>t σ H fun xs H1=>xs.length<=YM/\∀p,H1 p=none->Q (.ref p) (upd H1 p (.lst xs))
theorem bR{x1}(h:PA X es t):PE X (.Tuple es x1 pos) (KG t):=by
 intro pins s σ H Q I hq;refine wpAny_Tuple_spliced (gO (h pos pins s σ H _ I hq) fun us s1 ⟨xs,H1,I1,r,z,q⟩=>⟨by rw[<- r.length];exact z,?_⟩);have hf:H1 s1.heap.objs.size=none:=I1.fK.fresh (Zn _);refine⟨.ref s1.heap.objs.size,upd H1 s1.heap.objs.size (.tup xs),I1.laid (t':=s1.toks) (fun b u e=>Heap.get?_push_of_some _ e) (Zn _) ?_,rfl,q _ hf⟩;exact⟨z,us,r,⟨_,Heap.get?_push_size _ rfl,rfl,_,rfl⟩⟩
theorem aQ(h:PA X es t):PE X (.List es pos) (KI t):=by
 intro pins s σ H Q I hq;refine wpAny_List_spliced (gO (h pos pins s σ H _ I hq) fun us s1 ⟨xs,H1,I1,r,z,q⟩=>⟨by rw[<- r.length];exact z,?_⟩);have hf:H1 s1.heap.objs.size=none:=I1.fK.fresh (Zn _);refine⟨.ref s1.heap.objs.size,upd H1 s1.heap.objs.size (.lst xs),I1.laid (t':=s1.toks) (fun b u e=>Heap.get?_push_of_some _ e) (Zn _) ?_,rfl,q _ hf⟩;exact⟨z,us,0,r,Heap.get?_push_size _ rfl⟩
end
abbrev Sp:=List V->Hp->VK->XK->Prop
abbrev yG:=List Env->Hp->YO->XK->YF->YO->Prop
structure yH(P:YR)(w:YG)(K:Za)(mg:Str->Option YF)(base:Heap)(A:YQ)(outer:List Env)(s:YO)(H:Hp):Prop where
 frames:A.frames=some outer
 mod:Mod K mg base
 bs:∀b o,base.get? b=some o->s.heap.get? b=some o/\H b=none
 EF:base.objs.size<=s.heap.objs.size
 q0:s.heap.FunFrames base outer
 HD:∀b∈jg outer,H b=none
 fK:oW P w H s.heap
 bare:AllBare s.gens
def CE (outer:List Env) (P:YR) (w:YG) (H:Hp) (s:YO) (Q:VK) (u:YF) (s':YO):Prop:=
 ∃v H',s'.os=s.os/\AllBare s'.gens/\Un (jg outer) [] H H' s.heap s'.heap/\oW P w H' s'.heap/\RelV v u/\Q v H'
def CR (CX:yG) (outer:List Env) (P:YR) (w:YG) (H:Hp) (s:YO) (Q:VK) (E:XK) (r:Result) (s':YO):Prop:=
 match r with
 |.ok (.ret u)=>CE outer P w H s Q u s'
 |.ok _=>False
 |.error e=>CX outer H s E e s'
structure bP(P:YR)(w:YG)(K:Za)(mg:Str->Option YF)(base:Heap)(CX:yG)(k:Nat)(f:YE)(fd:YN)(ps:List Str)(sp:Sp):Prop where
 len:∀vs H Q E,sp vs H Q E->vs.length=ps.length
 run:∀(A:YQ) (outer:List Env) (s:YO) (H:Hp) (args:Args) (us:List YF) (vs:List V) (Q:VK) (E:XK),jr k A->yH P w K mg base A outer s H->BindsTo s fd args (ps.zip us)->Vals vs us->sp vs H Q E->
  codeAny (model P w) A (.call (.ref f) args) (CR CX outer P w H s Q E) s
theorem bP.mono{P:YR}{w:YG}{K:Za}{mg:Str->Option YF}{base:Heap}{CX:yG}{j k:Nat}{f:YE}{fd:YN}{ps:List Str}{sp:Sp}(F:bP P w K mg base CX j f fd ps sp)(h:j<=k) :
 bP P w K mg base CX k f fd ps sp:=⟨F.len,fun A outer s H args us vs Q E hr=>F.run A outer s H args us vs Q E (hr.mono h)⟩
theorem bP.imp{P:YR}{w:YG}{K:Za}{mg:Str->Option YF}{base:Heap}{CX:yG}{k:Nat}{f:YE}{fd:YN}{ps:List Str}{sp Q7:Sp}(F:bP P w K mg base CX k f fd ps sp)
 (h:∀vs H Q E,Q7 vs H Q E->sp vs H Q E):bP P w K mg base CX k f fd ps Q7:=
 ⟨fun vs H Q E q=>F.len vs H Q E (h _ _ _ _ q),fun A outer s H args us vs Q E hr he hb hv hs=>F.run A outer s H args us vs Q E hr he hb hv (h _ _ _ _ hs)⟩
theorem yH.in1{P:YR}{w:YG}{K:Za}{mg:Str->Option YF}{base:Heap}{A:YQ}{outer:List Env}{s:YO}{H:Hp}(e:yH P w K mg base A outer s H) :
 yH P w K mg base A.in1 outer s H:=⟨e.frames,e.mod,e.bs,e.EF,e.q0,e.HD,e.fK,e.bare⟩
section
variable{X:Cx}{pins:List (YE×Obj)}{σ:St}{H:Hp}{s s':YO}
theorem Inv.Ol(I:Inv X pins σ H s):yH X.prog X.w X.K X.mg X.base X.A X.stack s H:=
 ⟨I.ok.frames,I.ok.mod,I.bs,ZT I.ok.EF I.sz,I.stack,I.zy,I.fK,I.bare⟩
theorem Inv.after{Q:VK}{u:YF}(I:Inv X pins σ H s)(h:CE X.stack X.prog X.w H s Q u s'):EP X pins σ Q u s':=by
 obtain⟨v,H',os,bare,un,fK,r,q⟩:=h;obtain⟨hh,g,d,t,S7⟩:=s';obtain rfl:S7=s.os:=os;exact⟨v,H',I.call (h':=hh) (g':=g) (d':=d) (t':=t) (ch:=[]) un fK bare (fun b z=>absurd z (by simp)),r,q⟩
end
def Co (sp:Sp) (yI:List V) (E:XK) (t:TA):TE:=fun σ H Q=>t σ H fun vs H1=>sp (vs++yI) H1 Q E
def Gj (C:YE) (m:Str) (sp:Sp) (yI:List V) (E:XK) (ta:TE) (t:TA):TE:=fun σ H Q=>ta σ H fun x H1=>∃a dx fs,x=.ref a/\H1 a=some (.ins C dx fs)/\fs.lookup m=none/\
 t σ H1 fun vs H2=>sp (x::(vs++yI)) H2 Q E
def Gk (C:YE) (sp:Sp) (yI:List V) (E:XK) (t:TA):TE:=fun σ H Q=>t σ H fun vs H1=>∀x dx,H1 x=none->H1 dx=none->dx≠x->
 sp (.ref x::(vs++yI)) (upd (upd H1 dx (.own x)) x (.ins C dx [])) (fun v H2=>v=.f9/\Q (.ref x) H2) E
def Binds (K:Za) (fd:YN) (ps:List Str) (ds:List YF):Prop:=
 ∀(s:YO) (us:List YF),K.In s.heap->(us++ds).length=ps.length->BindsTo s fd ⟨us,[]⟩ (ps.zip (us++ds))
theorem Binds.all{K:Za}{fd:YN}{ps:List Str}(h:∀us:List YF,us.length=ps.length->bindArgs fd ⟨us,[]⟩=pure (ps.zip us)):Binds K fd ps []:=fun s us _ hl=>by
 rw[Zr] at hl ⊢;exact .of_eq (h us hl)
def Passes (CX:yG) (X:Cx) (E:XK):Prop:=∀(pins:List (YE×Obj)) (σ:St) (H:Hp) (s:YO) (e:YF) (s':YO),Inv X pins σ H s->CX X.stack H s E e s'->X.xe e s'
section
variable{X:Cx}{CX:yG}{k:Nat}{f C:YE}{fd:YN}{ps:List Str}{sp:Sp}{yI:List V}{ds:List YF}{E:XK}{x m:Str}{p pos apos:Pos}{e o:Expr}{es:List Expr}{ta:TE}{t:TA}
theorem HZ{pins:List (YE×Obj)}{σ:St}{H:Hp}{s:YO}{Q:VK}{us:List YF}{vs:List V}(F:bP X.prog X.w X.K X.mg X.base CX k f fd ps sp)(hr:jr k X.A)(hb:Binds X.K fd ps ds)(hd:Vals yI ds)(hx:Passes CX X E)
 (I:Inv X pins σ H s) (r:Vals vs us) (h:sp (vs++yI) H Q E):wpAny (model X.prog X.w) X.A (call (.ref f) us) (EP X pins σ Q) X.xe s:=by
 have r2:Vals (vs++yI) (us++ds):=r.append hd;have hl:(us++ds).length=ps.length:=by rw[<- r2.length];exact F.len _ _ _ _ h
 refine wpAny_call (codeAny_mono (F.run X.A X.stack s H ⟨us,[]⟩ (us++ds) (vs++yI) Q E hr I.Ol (hb s us I.rG hl) r2 h) fun r s' hq=>?_);cases r with
 |error e=>exact hx pins σ H s e s' I hq
 |ok fl=>
  cases fl with
  |ret u=>exact I.after hq
  |next=>exact False.elim hq
  |brk=>exact False.elim hq
  |cont=>exact False.elim hq
theorem eD(F:bP X.prog X.w X.K X.mg X.base CX k f fd ps sp)(hr:jr k X.A)(hg:Gl X x)(hm:X.mg x=some (.ref f))(hk:WR X.K (.ref f)=true)(hb:Binds X.K fd ps ds)(hd:Vals yI ds)(hx:Passes CX X E)
 (ha:PA X (e::es) t) (Ia:(x==("__debug__":Str))=false:=by decide) (he:YK (e::es) X.env=(false,eval e X.env)::YK es X.env:=by rfl) (Bf:(backTo pos (YK es X.env)).any (·.1)=false:=by rfl) :
 PE X (.Call (.Name x p) (e::es) [] pos) (Co sp yI E t):=by
 intro pins s σ H Q I h;refine wpAny_Call_Name_kw (zC I hg hm ?_ Ia);refine PySem.W.callWith_K (h₀:=X.base) I.ok.mod.N5 hk (gO (ha pos pins s σ H _ I h) fun us s1 ⟨vs,H1,I1,r,q⟩=>⟨I1.rG,?_⟩) he Bf;exact HZ F hr hb hd hx I1 r q
end
structure bD(N P:List Str)(sc:Scope):Prop where
 kind:sc.kind=.function
 co:sc.isCoroutine=false
 gen:sc.isGenerator=false
 nd:N.Nodup
 pre:N.take P.length=P
 par:∀x∈P,sc.names.lookup x=some .local\/sc.names.lookup x=some .cell
 Ib:∀y∈sc.names,y.2≠.free
theorem uT{kindOf:Str->Option NameKind}{x:Str}:∀ {binds:List (Str×YF)} {m:Str->Option YF},(∀v,(x,v) ∉ binds)->bindL kindOf binds m x=m x
 |[],_,_=>rfl
 |(n,v)::r,m,h=>by
  unfold bindL;rw[uT fun w hw=>h w (Zk _ hw)];split
  ·have:x≠n:=by rintro rfl;exact h v Zt
   simp[this]
  ·rfl
theorem uU{kindOf:Str->Option NameKind}{x:Str}:∀ {binds:List (Str×YF)} {m:Str->Option YF},(∀v,(x,v) ∉ binds)->bindC kindOf binds m x=m x
 |[],_,_=>rfl
 |(n,v)::r,m,h=>by
  unfold bindC;rw[uU fun w hw=>h w (Zk _ hw)];split
  ·rfl
  ·have:x≠n:=by rintro rfl;exact h v Zt
   simp[this]
theorem uV{kindOf:Str->Option NameKind}{x:Str}{v:YF}:∀ {P:List Str} {vs:List YF} {i:Nat} {m:Str->Option YF},P.Nodup->P[i]?=some x->vs[i]?=some v->kindOf x=some .local->
 bindL kindOf (P.zip vs) m x=some v
 |[],_,_,_,_,h,_,_=>by simp at h
 |_::_,[],_,_,_,_,h,_=>by simp at h
 |p::P,w::vs,0,m,nd,h1,h2,hk=>by
  simp at h1 h2;subst h1;subst h2;show bindL kindOf ((p,w)::P.zip vs) m p=_;unfold bindL;rw[uT fun v hv=>(Z0.mp nd).1 (Yd hv).1,if_pos hk];simp
 |p::P,w::vs,i+1,m,nd,h1,h2,hk=>by
  show bindL kindOf ((p,w)::P.zip vs) m x=_;unfold bindL;exact uV (i:=i) (Z0.mp nd).2 (by simpa using h1) (by simpa using h2) hk
theorem uW{kindOf:Str->Option NameKind}{x:Str}{v:YF}:∀ {P:List Str} {vs:List YF} {i:Nat} {m:Str->Option YF},P.Nodup->P[i]?=some x->vs[i]?=some v->kindOf x≠some .local->
 bindC kindOf (P.zip vs) m x=some v
 |[],_,_,_,_,h,_,_=>by simp at h
 |_::_,[],_,_,_,_,h,_=>by simp at h
 |p::P,w::vs,0,m,nd,h1,h2,hk=>by
  simp at h1 h2;subst h1;subst h2;show bindC kindOf ((p,w)::P.zip vs) m p=_;unfold bindC;rw[uU fun v hv=>(Z0.mp nd).1 (Yd hv).1,if_neg hk];simp
 |p::P,w::vs,i+1,m,nd,h1,h2,hk=>by
  show bindC kindOf ((p,w)::P.zip vs) m x=_;unfold bindC;exact uW (i:=i) (Z0.mp nd).2 (by simpa using h1) (by simpa using h2) hk
def start (N:List Str) (vs:List V):St:=vs.map some++ZF (N.length-vs.length) none
def t8 (CX:yG) (P:YR) (w:YG) (K:Za) (mg:Str->Option YF) (base:Heap) (N:List Str) (qual:Str) (scope:Scope) (f:YE) (cd:YF) (A:YQ) (outer:List Env) (s:YO) (H:Hp) (E:XK):Cx where
 prog:=P
 w:=w
 K:=K
 mg:=mg
 base:=base
 A:=A.deeper (envOfC qual scope s.heap.objs.size f cd)
 N:=N
 s₀:=s
 H₀:=H
 env:=envOfC qual scope s.heap.objs.size f cd
 outer:=outer
 stack:=envOfC qual scope s.heap.objs.size f cd::outer
 ex:=[]
 calm:=true
 fn:=fun _=>true
 pn:=[]
 xe:=fun e s'=>wpAny (model P w) (A.deeper (envOfC qual scope s.heap.objs.size f cd)) (leaving (envOfC qual scope s.heap.objs.size f cd) e) (fun _ Om=>CX outer H s E e Om) (fun e' Om=>CX outer H s E e' Om) s'
theorem xh{sc:Scope}{n:Nat}{x:Str}(h:sc.names.lookup x=some .cell):∃c,(cellsFrom n sc.names []).lookup x=some c:=by
 have q:=Yf sc.names n [] (.inl h);exact W4.mp q
theorem Bg{CX:yG}{P:YR}{w:YG}{K:Za}{mg:Str->Option YF}{base:Heap}{N ps:List Str}{qual:Str}{scope:Scope}{f:YE}{cd:YF}{A:YQ}{outer:List Env}{s s1:YO}{H:Hp}{E:XK}{us:List YF}{vs:List V}
 (S:bD N ps scope) (hd:A.handled=none) (e0:yH P w K mg base A outer s H) (hl:vs.length=ps.length) (r:Vals vs us)
 (x:InCallC s s.heap.objs.size (bindL (envOfC qual scope s.heap.objs.size f cd).kindOf (ps.zip us) fun _=>none) (cellsFrom (s.heap.objs.size+1) scope.names []) (bindC (envOfC qual scope s.heap.objs.size f cd).kindOf (ps.zip us) fun _=>none) s1) :
 Inv (t8 CX P w K mg base N qual scope f cd A outer s H E) [] (start N vs) H s1:=by
 have Bf:ps.length<=N.length:=by have:=congrArg Z6 S.pre;rw[ZK] at this;lia
 obtain⟨h1,tk,rfl,hk⟩:=x.done;have KJ:∀b:YE,b ∉ (t8 CX P w K mg base N qual scope f cd A outer s H E).ex:=fun b z=>absurd (show b∈([]:List YE) from z) (by simp);refine⟨⟨e0.mod,S.kind,rfl,rfl,Zn _,fun y z c h1 h2=>?_,fun y hy=>?_,fun y c _ h=>?_,fun _=>hd,Around.frames_deeper e0.frames,.inr ⟨rfl,rfl⟩,fun b z=>absurd z (KJ b),e0.bs,e0.EF,fun b _ _=>KJ b,fun b z=>absurd z (KJ b),e0.q0,e0.HD⟩,
  rfl,e0.bare,Un.kept hk,⟨_,x.toInCall.ns,fun i y v h1 h2 h3=>?_⟩,fun y c h=>⟨_,x.cell y c h⟩,e0.fK.fresh (Zn _),fun y c h=>?_,fun p hp=>absurd (show p∈([]:List (YE×Obj)) from hp) (by simp),e0.fK.kept hk,?_⟩
 ·exact name_of_addr x.apart (PySem.mem_of_lookup h1) (PySem.mem_of_lookup h2)
 ·have hy:scope.names.lookup y=some .cell\/scope.names.lookup y=some .free:=hy;rcases hy with hy |hy
  ·exact xh hy
  ·exact absurd rfl (S.Ib _ (PySem.mem_of_lookup hy))
 ·exact W0 (x.above y c (PySem.mem_of_lookup h))
 ·have hi:i<vs.length:=by
   unfold start at h2;by_cases hi:i<vs.length
   ·exact hi
   ·rw[Z3 (by simpa using hi)] at h2;rw[W9] at h2;split at h2<;>cases h2
  have ha:vs[i]?=some v:=by
   unfold start at h2;rw[Xe (by simpa using hi),Zq] at h2;cases e:vs[i]? with
   |none=>rw[e] at h2;cases h2
   |some a=>rw[e] at h2;cases h2;rfl
  obtain⟨u,hu,rv⟩:=r.get ha;have hp:ps[i]?=some y:=by
   rw[<- S.pre,List.getElem?_take_of_lt (by lia)];exact h1
  have Q8:ps.Nodup:=by rw[<- S.pre];exact S.nd.sublist (Yy _ _)
  refine⟨u,rv,?_⟩;rcases S.par y (Z4 hp) with k |k
  ·exact .inl ⟨k,uV Q8 hp hu k⟩
  ·obtain⟨c,e⟩:=xh (n:=s.heap.objs.size+1) k;refine .inr ⟨.inl k,c,e,?_⟩;have q:=x.cell y c e;rw[uW Q8 hp hu (by show scope.names.lookup y≠_;rw[k];decide)] at q;exact q
 ·exact e0.fK.fresh (W0 (x.above y c (PySem.mem_of_lookup h)))
 ·unfold start;show _=N.length;rw[Zc,Zb,Yh];lia
theorem KL{CX:yG}{P:YR}{w:YG}{K:Za}{mg:Str->Option YF}{base:Heap}{k:Nat}{f:YE}{name qual:Str}{params:Arguments}{body:List Stmt}{scope:Scope}{dV kV doc pm gP ct oc:YF}{an od:Option YE}
 {EH:Array (Option YF)} {N ps:List Str} {sp:Sp} (lk:K.lookup f=some ⟨oc,od,.func (XA name qual params body scope dV kV doc pm an gP ct),EH⟩) (A5:WS K gP qual=true) (S:bD N ps scope)
 (len:∀vs H Q E,sp vs H Q E->vs.length=ps.length)
 (xi:∀(A:YQ) (outer:List Env) (s:YO) (H:Hp) (vs:List V) (Q:VK) (E:XK),jr k (A.deeper (envOfC qual scope s.heap.objs.size f gP))->sp vs H Q E->
  ∃t,A4 (t8 CX P w K mg base N qual scope f gP A outer s H E) body t/\t {nx:=fun _ H'=>Q .f9 H',rt:=Q} (start N vs) H) :
 bP P w K mg base CX (k+1) f (XA name qual params body scope dV kV doc pm an gP ct) ps sp:=by
 refine⟨len,fun A outer s H args us vs Q E hr e0 hb r Gm=>?_⟩;have hl:=len _ _ _ _ Gm;have KX:K.In s.heap:=e0.mod.N5.keeps fun b o e=>(e0.bs b o e).1;have lim:s.heap.NoLimit:=e0.mod.nolimit.keeps fun b o e=>(e0.bs b o e).1;have KN:∀y∈ps.zip us,scope.names.lookup y.1=some .local\/(scope.names.lookup y.1=some .cell/\((cellsFrom (s.heap.objs.size+1) scope.names []).lookup y.1).isSome=true):=fun ⟨n,v⟩ hy=>by
  rcases S.par n (Yd hy).1 with q |q
  ·exact .inl q
  ·exact .inr ⟨q,Yf _ _ _ (.inl q)⟩
 refine codeAny_call_function hr.depth (KX _ _ lk) rfl S.co S.gen rfl (PySem.W.codeRec_of KX A5) (hb _ _ _ _ ?_);refine wpAny_newFunctionEnv_cells S.kind KN fun env he s1 x=>?_;subst he;refine⟨lim.keeps x.toInCall.keep,codeAny_func ?_⟩;obtain⟨t,ht,hq⟩:=xi A outer s H vs Q E (hr.deeper _) Gm;have I:Inv (t8 CX P w K mg base N qual scope f gP A outer s H E) [] (start N vs) H s1:=Bg S hr.hd e0 hl r x;refine wpAny_mono (ht [] s1 (start N vs) H _ I hq) (fun fl s' hs=>?_) fun e s' hs=>hs;have fin:∀ {σ':St} {H':Hp} {v:V} {u:YF},Inv (t8 CX P w K mg base N qual scope f gP A outer s H E) [] σ' H' s'->RelV v u->Q v H'->CE outer P w H s Q u s':=
  fun {σ' H' v u} J rv q=>⟨v,H',J.os,J.bare,J.base,J.fK,rv,q⟩
 cases fl with
 |ret u=>
  obtain⟨v,σ',H',J,rv,q⟩:=hs;exact fin J rv q
 |next=>
  obtain⟨σ',H',J,q⟩:=hs;exact fin (v:=V.f9) (u:=Value.none) J rfl q
 |brk=>
  obtain⟨_,_,_,q⟩:=hs;exact False.elim q
 |cont=>
  obtain⟨_,_,_,q⟩:=hs;exact False.elim q
section
variable{X:Cx}{x:Str}{p pos:Pos}{e:Expr}{es:List Expr}{t:TA}{id T:String}{r:List V->Hp->VK->Prop}
def Oq (r:List V->Hp->VK->Prop) (t:TA):TE:=fun σ H Q=>t σ H fun vs H1=>r vs H1 Q
theorem bF(hc:jl X (.builtin id) r)(hg:Gl X x)(hm:X.mg x=none)(hv:bootBuiltins x=some (.builtin id))(ha:PA X (e::es) t)(hn:x≠"__name__":=by decide)(Ia:(x==("__debug__":Str))=false:=by decide)
 (he:YK (e::es) X.env=(false,eval e X.env)::YK es X.env:=by rfl) (Bf:(backTo pos (YK es X.env)).any (·.1)=false:=by rfl):PE X (.Call (.Name x p) (e::es) [] pos) (Oq r t):=by
 intro pins s σ H Q I h;refine wpAny_Call_Name_kw (rX I hg hm hv ?_ hn Ia);exact PyProof.Rows.callWith_builtin1 (gO (ha pos pins s σ H _ I h) fun us s1 ⟨vs,H1,I1,r1,q1⟩=>hc pins s1 σ H1 vs us Q I1 r1 q1) he Bf
theorem eG(hc:jl X (.type T) r)(hg:Gl X x)(hm:X.mg x=none)(hv:bootBuiltins x=some (.type T))(ha:PA X (e::es) t)(hn:x≠"__name__":=by decide)(Ia:(x==("__debug__":Str))=false:=by decide)
 (he:YK (e::es) X.env=(false,eval e X.env)::YK es X.env:=by rfl) (Bf:(backTo pos (YK es X.env)).any (·.1)=false:=by rfl):PE X (.Call (.Name x p) (e::es) [] pos) (Oq r t):=by
 intro pins s σ H Q I h;refine wpAny_Call_Name_kw (rX I hg hm hv ?_ hn Ia);exact XN (gO (ha pos pins s σ H _ I h) fun us s1 ⟨vs,H1,I1,r1,q1⟩=>hc pins s1 σ H1 vs us Q I1 r1 q1) he Bf
end
end L2
namespace HT
open PySem PyProof.Rows
section
variable{prog:YR}{w:YG}{A:YQ}{E:YF->YO->Prop}{s:YO}
theorem E2{t b:YE}{vs ws:List YF}{Q:YF->YO->Prop}(ht:IsTup s.heap t vs.toArray)(hb:IsTup s.heap b ws.toArray)(hv:vs≠[])
 (h1:ws=[]->Q (.ref t) s) (h2:ws≠[]->Q (.ref s.heap.objs.size) {s with heap:=s.heap.push {cls:=.type "tuple",data:=.seq (vs++ws).toArray} })
 (KO:vs.length+ws.length<=YM):wpAny (model prog w) A (binaryOp .Add (.ref t) (.ref b)) Q E s:=by
 obtain⟨⟨cls,dd,data,sl⟩,ho,hc,n,hd⟩:=id ht;obtain⟨⟨KP,KQ,data2,JI⟩,Ic,Ie,n2,hd2⟩:=id hb;simp only at hc hd Ie hd2;subst hc hd Ie hd2;have e:vs.toArray++ws.toArray=(vs++ws).toArray:=by simp
 by_cases hw:ws=[]
 ·exact concat_meets ⟨_,ho,rfl⟩ ⟨_,Ic,rfl⟩ noFill_tuple_add seq_tuple_add X5 XZ (XX _ _)
   (tuple_addW1 t b vs.toArray ws.toArray n n2 dd KQ sl JI (by simpa using hv) (by simp[hw])) ⟨ho,Ic,h1 hw⟩
 ·refine concat_meets ⟨_,ho,rfl⟩ ⟨_,Ic,rfl⟩ noFill_tuple_add seq_tuple_add X5 XZ (XX _ _)
   (tuple_addW2 t b vs.toArray ws.toArray n n2 dd KQ sl JI (by simpa using hv) (by simpa using hw) (by rw[Zv,Zv];exact KO)) ⟨ho,Ic,?_⟩
  rw[e];exact h2 hw
def gc (n d:Nat):Option Int->Nat
 |none=>d
 |some v=>if v<0 then (v+(n:Int)).toNat else min v.toNat n
theorem ke(n d:Nat):gc n d none=d:=rfl
theorem ni(n d k:Nat):gc n d (some (k:Int))=min k n:=by
 show (if (k:Int)<0 then ((k:Int)+(n:Int)).toNat else min (k:Int).toNat n)=min k n;rw[if_neg (by lia),Z2]
theorem Cp(n d:Nat)(hd:d<=n)(o:Option Int):gc n d o<=n:=by
 cases o with
 |none=>exact hd
 |some v=>
  show (if v<0 then (v+(n:Int)).toNat else min v.toNat n)<=n;by_cases hv:v<0
  ·rw[if_pos hv];lia
  ·rw[if_neg hv];exact Nat.min_le_right _ _
theorem zM(v:Int)(n d:Nat):(if v<0 then max (v+(n:Int)) 0 else min v (n:Int))=((gc n d (some v):Nat):Int):=by
 show (if v<0 then max (v+(n:Int)) 0 else min v (n:Int))=(((if v<0 then (v+(n:Int)).toNat else min v.toNat n):Nat):Int);by_cases hv:v<0
 ·simp only[if_pos hv];lia
 ·simp only[if_neg hv];lia
theorem yJ(lo hi:Option Int)(n:Nat):Builtin.Slice.sliceAdjust lo hi 1 (n:Int)=(((gc n 0 lo:Nat):Int),((gc n n hi:Nat):Int)):=by
 have h1:¬((1:Int)<0):=by lia
 unfold Builtin.Slice.sliceAdjust;simp only[h1,if_false];refine Prod.ext ?_ ?_
 ·cases lo with
  |none=>rfl
  |some v=>exact zM v n 0
 ·cases hi with
  |none=>rfl
  |some v=>exact zM v n n
theorem yK(i j:Nat):Builtin.Slice.slicePlaces (i:Int) (j:Int) 1=j-i:=by
 unfold Builtin.Slice.slicePlaces;have h1:(1:Int)>0:=by lia
 simp only[h1,if_true,Int.ediv_one];split<;>lia
theorem r9{v:YF}{o:Option Int}{Q:Option Int->YO->Prop}(p:IsPart v o)(h:Q o s):wpAny (model prog w) A (Builtin.Slice.slicePartIndex v) Q E s:=by
 cases p with
 |none=>exact slicePart_none h
 |int i t=>exact slicePart_int h
theorem kf{sl:YE}{vl vu:YF}{lo hi:Option Int}{n:Nat}{Q:Int×Int×Nat->YO->Prop}(hs:s.heap.IsSliceOf sl vl vu .none)(pl:IsPart vl lo)(pu:IsPart vu hi)
 (h:Q (((gc n 0 lo:Nat):Int),1,gc n n hi-gc n 0 lo) s):wpAny (model prog w) A (Builtin.Slice.sliceApplied (.ref sl) (pure (n:Int))) Q E s:=by
 obtain⟨os,EI,E3,Gn⟩:=id hs;unfold Builtin.Slice.sliceApplied Builtin.Slice.sliceFields;refine YH (YH (wpAny_field EI Gn (x:=vl) rfl (YH (wpAny_field EI Gn (x:=vu) rfl (YH (wpAny_field EI Gn (x:=.none) rfl (YI ?_)))))));refine YH (slicePart_none ?_);show wpAny _ _ (if ((1:Int)==0)=true then _ else _) _ _ s;rw[if_neg (by decide)];refine YH (r9 pl (YH (r9 pu (YH (YI ?_)))));show wpAny _ _ (match Builtin.Slice.sliceAdjust lo hi 1 (n:Int) with |(lo,hi)=>pure (lo,(1:Int),Builtin.Slice.slicePlaces lo hi 1)) _ _ s;rw[yJ lo hi n];show wpAny _ _ (pure (((gc n 0 lo:Nat):Int),(1:Int),Builtin.Slice.slicePlaces ((gc n 0 lo:Nat):Int) ((gc n n hi:Nat):Int) 1)) _ _ s;rw[yK];exact YI h
theorem Cq(xs:Array YF)(i k:Nat):((ZO k).filterMap fun (m:Nat)=>xs[((i:Int)+(m:Int)*1).toNat]?).toArray=((xs.toList.drop i).take k).toArray:=by
 have e:(fun (m:Nat)=>xs[((i:Int)+(m:Int)*1).toNat]?)=fun m=>xs[i+m]?:=by
  funext m
  have:((i:Int)+(m:Int)*1).toNat=i+m:=by lia
  rw[this]
 rw[e];have:=pick_run xs i k;rw[List.filterMap_map] at this;have e2:((fun x=>xs[x]?) ∘ fun x=>i+x)=fun m=>xs[i+m]?:=rfl;rw[e2] at this;rw[this]
theorem o6{t sl:YE}{items:Array YF}{vl vu:YF}{lo hi:Option Int}{Q:YF->YO->Prop}(ht:IsTup s.heap t items)(hs:s.heap.IsSliceOf sl vl vu .none)(pl:IsPart vl lo)(pu:IsPart vu hi)
 (hw:¬(gc items.size 0 lo=0/\gc items.size items.size hi=items.size))
 (h:Q (.ref s.heap.objs.size) {s with heap:=s.heap.push {cls:=.type "tuple",data:=.seq ((items.toList.drop (gc items.size 0 lo)).take (gc items.size items.size hi-gc items.size 0 lo)).toArray} })
 (KO:items.size<=YM):wpAny (model prog w) A (getItem (.ref t) (.ref sl)) Q E s:=by
 have zN:sizeOk (.seq ((items.toList.drop (gc items.size 0 lo)).take (gc items.size items.size hi-gc items.size 0 lo)).toArray):=by
  show ((items.toList.drop (gc items.size 0 lo)).take (gc items.size items.size hi-gc items.size 0 lo)).toArray.size<=YM;rw[Zv,ZK,ZW,ZX];lia
 have hj:gc items.size items.size hi<=items.size:=Cp _ _ (Zn _) hi;obtain⟨os,EI,E3,Gn⟩:=id hs;have Ot:s.TypeIs (.ref sl) "slice":=⟨os,EI,E3⟩
 unfold getItem
 try with_reducible refine YJ ?_
 first |refine YH (YI ?_) |skip
 refine YH (wpAny_sequenceKey ht.typeIs (by decide) ?_);refine YH (wpAny_callSpecial?_slot (name:=Zj "__getitem__") ht.typeIs Xo
  (wpAny_call_entry Xo ht.typeIs entry_tuple_getitem ?_ (args_tuple_getitem _ _)))
 show wpAny _ _ (Builtin.Tuple.tupleItemsOf (.ref t) >>= _) _ _ s;refine YH (tupleItemsOf_ ht ?_);refine YH (wpAny_typeOf Ot ?_);rw[if_pos (by decide)];refine YH (kf hs pl pu ?_);have S8:¬((((gc items.size 0 lo:Nat):Int)==0&&(1:Int)==1&&(gc items.size items.size hi-gc items.size 0 lo)==items.size)=true):=by
  intro q;rw[Z8,Z8] at q;have q1:((gc items.size 0 lo:Nat):Int)=0:=eq_of_beq q.1.1;have q2:gc items.size items.size hi-gc items.size 0 lo=items.size:=eq_of_beq q.2;exact hw ⟨by lia,by lia⟩
 show wpAny _ _ (if (((gc items.size 0 lo:Nat):Int)==0&&(1:Int)==1&&(gc items.size items.size hi-gc items.size 0 lo)==items.size)=true then _ else _) _ _ s;rw[if_neg S8,Cq]
 first
  |exact YH (m:=Builtin.Tuple.tupleExact _) (wpAny_newObj_type (YI ⟨_,rfl,YI h⟩) zN)
  |exact YH (m:=Builtin.Tuple.tupleExact _) (wpAny_newObj_type (YH (YI (YI ⟨_,rfl,YI h⟩))) zN)
  |exact YH (YH (m:=Builtin.Tuple.tupleExact _) (wpAny_newObj_type (YI (YI ⟨_,rfl,YI h⟩)) zN))
  |exact YH (YH (m:=Builtin.Tuple.tupleExact _) (wpAny_newObj_type (YI ⟨_,rfl,YI h⟩) zN))
end
end HT
namespace L2
open PySem PySem.Spec PyProof.Rows
abbrev TO:=St->Hp->(Option Int->Hp->Prop)->Prop
def PO (X:Cx) (e:Option Expr) (t:TO):Prop:=
 ∀(pins:List (YE×Obj)) (s:YO) (σ:St) (H:Hp) (Q:Option Int->Hp->Prop),Inv X pins σ H s->t σ H Q->
  wpAny (model X.prog X.w) X.A (evalPart e X.env) (fun u s'=>∃o H',Inv X pins σ H' s'/\IsPart u o/\Q o H') X.xe s
def vR:TO:=fun _ H Q=>Q none H
def Cr (t:TE):TO:=fun σ H Q=>t σ H fun x H1=>∃i,x=.int i/\Q (some i) H1
section
variable{X:Cx}{e:Expr}{te:TE}{lo hi:Option Expr}{tl th:TO}{pos p2:Pos}
theorem cq:PO X none vR:=by
 intro pins s σ H Q I h;rw[evalPart_none];exact YI ⟨none,H,I,.none,h⟩
theorem b6(h:PE X e te):PO X (some e) (Cr te):=by
 intro pins s σ H Q I hw;rw[evalPart_some];refine gO (h pins s σ H _ I hw) fun u s1 zqz=>?_;obtain⟨x,H1,I1,r1,q1⟩:=zqz;obtain⟨i,rfl,q⟩:=q1;obtain⟨t,rfl⟩:=r1;exact⟨some i,H1,I1,.int i t,q⟩
def E4 (X:Cx) (r:V->Option Int->Option Int->Hp->VK->Prop):Prop:=
 ∀(pins:List (YE×Obj)) (s:YO) (σ:St) (H:Hp) (x:V) (v vl vu:YF) (lo hi:Option Int) (sl:YE) (Q:VK),Inv X pins σ H s->RelV x v->s.heap.IsSliceOf sl vl vu .none->IsPart vl lo->IsPart vu hi->r x lo hi H Q->
  ∃T id,typeLookup (.type T) "__getitem__"=pure (some (.builtin id))/\s.TypeIs v T/\wpAny (model X.prog X.w) X.A (getItem v (.ref sl)) (EP X pins σ Q) X.xe s
theorem E4.or{r r':V->Option Int->Option Int->Hp->VK->Prop}(h:E4 X r)(h':E4 X r'):E4 X (fun x lo hi H Q=>r x lo hi H Q\/r' x lo hi H Q):=by
 intro pins s σ H x v vl vu lo hi sl Q I rx hs pl pu q;rcases q with q |q
 ·exact h pins s σ H x v vl vu lo hi sl Q I rx hs pl pu q
 ·exact h' pins s σ H x v vl vu lo hi sl Q I rx hs pl pu q
def Nh (r:V->Option Int->Option Int->Hp->VK->Prop) (te:TE) (tl th:TO):TE:=fun σ H Q=>te σ H fun x H1=>tl σ H1 fun l H2=>th σ H2 fun u H3=>r x l u H3 Q
theorem bJ{r:V->Option Int->Option Int->Hp->VK->Prop}(hr:E4 X r)(he:PE X e te)(hl:PO X lo tl)(hu:PO X hi th):PE X (.Subscript e (.Slice lo hi none p2) pos) (Nh r te tl th):=by
 intro pins s σ H Q I h;refine Subscript_ (gO (he pins s σ H _ I h) fun v s1 zqz=>?_);obtain⟨x,H1,I1,r1,q1⟩:=zqz;refine wpAny_Slice (gO (hl pins s1 σ H1 _ I1 q1) fun vl s2 zqz=>?_);obtain⟨l,H2,I2,pl,q2⟩:=zqz;refine gO (hu pins s2 σ H2 _ I2 q2) fun vu s3 zqz=>?_;obtain⟨u,H3,I3,pu,q3⟩:=zqz;rw[evalPart_none];refine YI ?_;have I4:Inv X pins σ H3 {s3 with heap:=s3.heap.push {cls:=.type "slice",data:=.fields #[vl,vu,.none]} }:=I3.kept (t':=s3.toks) fun b ob q=>Heap.get?_push_of_some _ q;obtain⟨T,id,hT,ht,hg⟩:=hr pins {s3 with heap:=s3.heap.push {cls:=.type "slice",data:=.fields #[vl,vu,.none]} } σ H3 x v vl vu l u s3.heap.objs.size Q I4 r1 (Heap.IsSliceOf.new ..) pl pu q3;show wpAny (model X.prog X.w) X.A (subscriptTail e (.Slice lo hi none p2) v (.ref s3.heap.objs.size)) (EP X pins σ Q) X.xe {s3 with heap:=s3.heap.push {cls:=.type "slice",data:=.fields #[vl,vu,.none]} };exact tail_any (ops:=[.ref s3.heap.objs.size,v]) ht hT hg (by with_unfolding_all rfl)
def cO (xs:List V) (lo hi:Option Int):List V:=(xs.drop (HT.gc xs.length 0 lo)).take (HT.gc xs.length xs.length hi-HT.gc xs.length 0 lo)
theorem qK(xs:List V)(lo hi:Option Int):(cO xs lo hi).length<=xs.length:=by
 unfold cO;rw[ZK,ZW];lia
def Ou (K:Za):V->Option Int->Option Int->Hp->VK->Prop:=fun x lo hi H Q=>∃a xs,x=.ref a/\bU K H a xs/\
 ¬(HT.gc xs.length 0 lo=0/\HT.gc xs.length xs.length hi=xs.length)/\∀p,H p=none->Q (.ref p) (upd H p (.tup (cO xs lo hi)))
theorem Ig:E4 X (Ou X.K):=by
 intro pins s σ H x v vl vu lo hi sl Q I rx hs pl pu h;obtain⟨a,xs,rfl,hx,hw,q⟩:=h;cases rx;obtain⟨bC,r,ht,hz⟩:=I.tuple hx;have hlen:bC.toArray.size=xs.length:=by rw[Zv];exact r.length.symm
 refine⟨"tuple",_,Xo.lookup,ht.typeIs,?_⟩;refine HT.o6 ht hs pl pu (by rw[hlen];exact hw) ?_ (by rw[hlen];exact hz);rw[hlen];refine⟨.ref s.heap.objs.size,_,I.laid (t':=s.toks) (o:=.tup (cO xs lo hi)) (fun b ob q=>Heap.get?_push_of_some _ q) (Zn _) ?_,rfl,q _ (I.fK.fresh (Zn _))⟩;exact⟨ZT (qK xs lo hi) hz,_,(r.drop (HT.gc xs.length 0 lo)).take (HT.gc xs.length xs.length hi-HT.gc xs.length 0 lo),IsTup.new _ _⟩
def KR (K:Za):R2:=fun x y H Q=>∃a b xs ys,x=.ref a/\y=.ref b/\bU K H a xs/\bU K H b ys/\xs≠[]/\xs.length+ys.length<=YM/\
 (ys=[]->Q (.ref a) H)/\(ys≠[]->∀p,H p=none->Q (.ref p) (upd H p (.tup (xs++ys))))
theorem Vals.aD{xs:List V}{us:List YF}(r:Vals xs us):us=[]↔xs=[]:=by
 cases r with
 |nil=>simp
 |cons _ _=>simp
theorem zO:nX X (binaryOp .Add) (KR X.K):=by
 intro pins s σ H x y v u Q I rx ry h;obtain⟨a,b,xs,ys,rfl,rfl,ha,hb,hx,hz,q1,q2⟩:=h;cases rx;cases ry;obtain⟨bC,r1,p1,_⟩:=I.tuple ha;obtain⟨qi,r2,p2,_⟩:=I.tuple hb;refine HT.E2 p1 p2 (fun z=>hx (r1.aD.mp z)) (fun z=>⟨.ref a,H,I,rfl,q1 (r2.aD.mp z)⟩) (fun z=>?_) (by rw[<- r1.length,<- r2.length];exact hz);refine⟨.ref s.heap.objs.size,_,I.laid (t':=s.toks) (o:=.tup (xs++ys)) (fun b ob q=>Heap.get?_push_of_some _ q) (Zn _) ?_,rfl,q2 (fun w=>z (r2.aD.mpr w)) _ (I.fK.fresh (Zn _))⟩;exact⟨by rw[Zc];exact hz,_,r1.append r2,IsTup.new _ _⟩
end
def Gp (n:Nat) (i:Int):Option Nat:=if 0<=i then (if i<n then some i.toNat else none) else if -(n:Int)<=i then some (i+n).toNat else none
def Bh {α:Type} (xs:List α) (i:Int):Option α:=(Gp xs.length i).bind fun j=>xs[j]?
theorem zP{n:Nat}{i:Int}{j:Nat}(h:Gp n i=some j):seqIndex? i n=some j/\j<n/\-(n:Int)<=i/\i<n:=by
 unfold Gp at h;by_cases h0:0<=i
 ·rw[if_pos h0] at h;by_cases h1:i<n
  ·rw[if_pos h1] at h;have e:i.toNat=j:=Z5.inj h;exact⟨by rw[seqIndex_of h0 h1,e],by lia,by lia,h1⟩
  ·rw[if_neg h1] at h;cases h
 ·rw[if_neg h0] at h;by_cases h1 : -(n:Int)<=i
  ·rw[if_pos h1] at h;have e:(i+n).toNat=j:=Z5.inj h;exact⟨by rw[seqIndex_neg (by lia) h1,e],by lia,h1,by lia⟩
  ·rw[if_neg h1] at h;cases h
theorem vS{α:Type}{xs:List α}{i:Int}{v:α}(h:Bh xs i=some v):∃j,seqIndex? i xs.length=some j/\xs[j]?=some v/\j<xs.length/\-(xs.length:Int)<=i/\i<xs.length:=by
 unfold Bh at h;cases e:Gp xs.length i with
 |none=>rw[e] at h;cases h
 |some j=>
  rw[e] at h;obtain⟨h1,h2,h3,h4⟩:=zP e;exact⟨j,h1,h,h2,h3,h4⟩
theorem av{α:Type}{xs:List α}{j:Nat}{v:α}(h:xs[j]?=some v):Bh xs (j:Int)=some v:=by
 have hj:j<xs.length:=(Zi.mp h).1;have e:Gp xs.length (j:Int)=some j:=by
  unfold Gp;rw[if_pos (by lia),if_pos (by lia)];simp
 unfold Bh;rw[e];exact h
def o7 (b:Expr):Prop:=∀o i,subscripted b false o i=operate [o,i] (getItem o i)
def E5 (X:Cx) (r:R2):Prop:=
 ∀(value slice:Expr) (pins:List (YE×Obj)) (s:YO) (σ:St) (H:Hp) (x y:V) (v u:YF) (Q:VK),Inv X pins σ H s->RelV x v->RelV y u->r x y H Q->
  subscripted slice false v u=operate [v,u] (getItem v u)->wpAny (model X.prog X.w) X.A (subscriptTail value slice v u) (EP X pins σ Q) X.xe s
def KU (X:Cx) (id:String) (r:V->List V->Hp->VK->Prop):Prop:=
 ∀(pins:List (YE×Obj)) (s:YO) (σ:St) (H:Hp) (x:V) (xs:List V) (v:YF) (us:List YF) (Q:VK),Inv X pins σ H s->RelV x v->Vals xs us->r x xs H Q->
  wpAny (model X.prog X.w) X.A (call (.builtin id) (v::us)) (EP X pins σ Q) X.xe s
section
variable{X:Cx}{a b:Expr}{ta tb:TE}{pos:Pos}
theorem E5.or{r r':R2}(h:E5 X r)(h':E5 X r'):E5 X (fun x y H Q=>r x y H Q\/r' x y H Q):=by
 intro value slice pins s σ H x y v u Q I rx ry q hs;rcases q with q |q
 ·exact h value slice pins s σ H x y v u Q I rx ry q hs
 ·exact h' value slice pins s σ H x y v u Q I rx ry q hs
theorem KU.or{id:String}{r r':V->List V->Hp->VK->Prop}(h:KU X id r)(h':KU X id r'):KU X id (fun x xs H Q=>r x xs H Q\/r' x xs H Q):=by
 intro pins s σ H x xs v us Q I rx rs q;rcases q with q |q
 ·exact h pins s σ H x xs v us Q I rx rs q
 ·exact h' pins s σ H x xs v us Q I rx rs q
theorem aH{r:R2}(hr:E5 X r)(ha:PE X a ta)(hb:PE X b tb)(hs:o7 b):PE X (.Subscript a b pos) (Kv r ta tb):=by
 intro pins s σ H Q I h;exact Subscript_ (HU ha hb I h fun v u s2 x y H2 I2 rx ry q=>hr a b pins s2 σ H2 x y v u Q I2 rx ry q (hs _ _))
def E6 (K:Za):R2:=fun x y H Q=>∃p xs i v,x=.ref p/\y=.int i/\gX K H p xs/\Bh xs i=some v/\Q v H
def E7 (K:Za):R2:=fun x y H Q=>∃p xs i v,x=.ref p/\y=.int i/\bU K H p xs/\Bh xs i=some v/\Q v H
def Ov:R2:=fun x y H Q=>∃z i c,x=.str z/\y=.int i/\z.length<=YM/\Bh z.cps.toList i=some c/\Q (.str ⟨#[c]⟩) H
theorem bh:E5 X (E6 X.K):=by
 intro value slice pins s σ H x y v u Q I rx ry h hs;obtain⟨p,xs,i,z,rfl,rfl,hq,he,q⟩:=h;cases rx;obtain⟨t,rfl⟩:=ry;obtain⟨bC,r,pl,hz⟩:=I.list hq;obtain⟨j,h1,h2,h3,h4,h5⟩:=vS he;obtain⟨w,ew,yM⟩:=r.get h2;have hl:=r.length;have hn:=rZ;have fin:EP X pins σ Q w s:=⟨z,H,I,yM,q⟩
 by_cases h0:0<=i
 ·have hj:i.toNat=j:=by
   rw[seqIndex_of h0 h5] at h1;exact Z5.inj h1
  exact item_listR pl.isList h0 (by lia) (by rw[hj];simpa using ew) fin hs
 ·have hj:(i+(bC.toArray.size:Int)).toNat=j:=by
   rw[seqIndex_neg (by lia) h4] at h1;rw[Zv,<- hl];exact Z5.inj h1
  exact subscriptTail_builtinR (x:=w) pl.isList.typeIs slot_list_getitem.lookup
   (wpAny_getItem_list_neg (Q:=fun r s'=>r=w/\EP X pins σ Q r s') pl.isList (by lia) (by rw[Zv]<;>lia) (by lia) (by rw[hj];simpa using ew) ⟨rfl,fin⟩) hs
theorem aZ:E5 X (E7 X.K):=by
 intro value slice pins s σ H x y v u Q I rx ry h hs;obtain⟨p,xs,i,z,rfl,rfl,hq,he,q⟩:=h;cases rx;obtain⟨t,rfl⟩:=ry;obtain⟨bC,r,pl,hz⟩:=I.tuple hq;obtain⟨j,h1,h2,h3,h4,h5⟩:=vS he;obtain⟨w,ew,yM⟩:=r.get h2;have hl:=r.length;have hn:=rZ;have fin:EP X pins σ Q w s:=⟨z,H,I,yM,q⟩
 exact subscriptTail_builtinR (x:=w) pl.typeIs slot_tuple_getitem.lookup
  (getItem_tuple (j:=j) (Q:=fun r s'=>r=w/\EP X pins σ Q r s') pl (by lia) (by lia) (by rw[Zv,<- hl];exact h1) (by simpa using ew) ⟨rfl,fin⟩) hs
theorem Cs:E5 X Ov:=by
 intro value slice pins s σ H x y v u Q I rx ry h hs;obtain⟨z,i,c,rfl,rfl,hz,he,q⟩:=h;obtain⟨t,rfl⟩:=rx;obtain⟨t',rfl⟩:=ry;obtain⟨j,h1,h2,h3,h4,h5⟩:=vS he;have hl:z.cps.toList.length=z.length:=by simp[Str.length]
 rw[hl] at h1 h4 h5;have hn:=rZ;exact tail_any (typeIs_str s z t) slot_str_getitem.lookup (getItem_str (c:=c) (by
  have e1:decide (i < -(2 ^ 63:Int))=false:=decide_eq_false (by lia);have e2:decide (i ≥ 2 ^ 63)=false:=decide_eq_false (by lia);rw[e1,e2,Bool.or_false]) (by rw[h1];simpa using h2) ⟨.str ⟨#[c]⟩,H,I.tok _,⟨_,rfl⟩,q⟩) hs
theorem yN(bC:List YF)(n j:Nat)(u:YF):Obj.mapSeq (·.setIfInBounds j u) {cls:=.type "list",data:=.seq bC.toArray n}={cls:=.type "list",data:=.seq (bC.set j u).toArray n}:=by
 simp[Obj.mapSeq]
theorem Inv.lst{pins:List (YE×Obj)}{σ:St}{H:Hp}{s:YO}{p:YE}{xs:List V}(I:Inv X pins σ H s)(h:H p=some (.lst xs)) :
 ∃(bC:List YF) (n:Nat),Vals xs bC/\s.heap.get? p=some {cls:=.type "list",data:=.seq bC.toArray n}/\xs.length<=YM:=by
 obtain⟨z,bC,n,r,e⟩:=I.fK p _ h;exact⟨bC,n,r,e,z⟩
theorem Inv.Ih{pins:List (YE×Obj)}{σ:St}{H:Hp}{s:YO}{p:YE}{xs ys:List V}{bC its':List YF}{n n':Nat}{f:Obj->Obj}(I:Inv X pins σ H s)(h:H p=some (.lst xs))
 (ho:s.heap.get? p=some {cls:=.type "list",data:=.seq bC.toArray n}) (hf:f {cls:=.type "list",data:=.seq bC.toArray n}={cls:=.type "list",data:=.seq its'.toArray n' }) (r:Vals ys its') (hz:ys.length<=YM) (t:Nat) :
 Inv X pins σ (upd H p (.lst ys)) {s with heap:=s.heap.update p f,toks:=t}:=by
 have e:(s.heap.update p f).get? p=some {cls:=.type "list",data:=.seq its'.toArray n' }:=by
  rw[Heap.get?_update_self f ho (by rw[hf]<;>rfl),hf]
 refine I.write (x:=p) (e:=p) (by rw[h];trivial) (.inl rfl) (fun b u hb q=>(Heap.get?_update_other _ _ (Ne.symm hb)).trans q) ⟨_,e⟩ ?_;exact⟨hz,its',n',r,e⟩
def Gq:V->V->V->Hp->(Hp->Prop)->Prop:=fun o i v H Q=>∃p xs k j,o=.ref p/\i=.int k/\H p=some (.lst xs)/\Gp xs.length k=some j/\Q (upd H p (.lst (xs.set j v)))
theorem set_list:Ko X Gq:=by
 intro pins s σ H o i v ov iv u Q I ro ri rv h;obtain⟨p,xs,k,j,rfl,rfl,hp,hj,q⟩:=h;cases ro;obtain⟨t,rfl⟩:=ri;obtain⟨bC,n,r,ho,hz⟩:=I.lst hp;obtain⟨h1,h2,h3,h4⟩:=zP hj;have hl:=r.length;have hn:=rZ;have I':Inv X pins σ (upd H p (.lst (xs.set j v))) {s with heap:=s.heap.update p (Obj.mapSeq (·.setIfInBounds j u))}:=
  I.Ih hp ho (yN bC n j u) (r.set rv j) (by rw[Xq];exact hz) s.toks
 by_cases h0:0<=k
 ·have hk:k.toNat=j:=by
   rw[seqIndex_of h0 h4] at h1;exact Z5.inj h1
  exact PySem.W.ki_setAt ho h0 (by lia) (by rw[Zv,<- hl];exact h4) (by rw[hk];exact⟨_,I',q⟩)
 ·have hk:(k+(bC.toArray.size:Int)).toNat=j:=by
   rw[seqIndex_neg (by lia) h3] at h1;rw[Zv,<- hl];exact Z5.inj h1
  exact PySem.W.ki_setBack ho (by lia) (by rw[Zv,<- hl];exact h3) (by lia) (by rw[hk];exact⟨_,I',q⟩)
theorem vT(lo hi:Option Int)(n:Nat):(sliceBounds lo hi none n).1=((HT.gc n 0 lo:Nat):Int)/\(sliceBounds lo hi none n).2.1=((HT.gc n n hi:Nat):Int)/\(sliceBounds lo hi none n).2.2=1:=by
 refine⟨?_,?_,rfl⟩
 ·cases lo with
  |none=>simp[sliceBounds,HT.gc]
  |some i=>
   simp only[sliceBounds,HT.gc,Option.getD_none,show (1:Int)>0 by decide,if_true];by_cases h:i<0
   ·simp only[h,if_true]<;>lia
   ·simp only[h,if_false]<;>lia
 ·cases hi with
  |none=>simp[sliceBounds,HT.gc]
  |some i=>
   simp only[sliceBounds,HT.gc,Option.getD_none,show (1:Int)>0 by decide,if_true];by_cases h:i<0
   ·simp only[h,if_true]<;>lia
   ·simp only[h,if_false]<;>lia
theorem t9(bC:List YF)(lo hi:Option Int):slicePick bC.toArray lo hi none=((bC.drop (HT.gc bC.length 0 lo)).take (HT.gc bC.length bC.length hi-HT.gc bC.length 0 lo)).toArray:=by
 obtain⟨h1,h2,h3⟩:=vT lo hi bC.toArray.size;unfold slicePick;rw[h1,h2,h3];simp only[sliceRange_one,pick_run,Zv]<;>rfl
def Ow (K:Za):V->Option Int->Option Int->Hp->VK->Prop:=fun x lo hi H Q=>∃a xs,x=.ref a/\gX K H a xs/\∀p,H p=none->Q (.ref p) (upd H p (.lst (cO xs lo hi)))
theorem gH:E4 X (Ow X.K):=by
 intro pins s σ H x v vl vu lo hi sl Q I rx hs pl pu h;obtain⟨a,xs,rfl,hx,q⟩:=h;cases rx;obtain⟨bC,r,ht,hz⟩:=I.list hx;have hlen:=r.length;refine⟨"list",_,slot_list_getitem.lookup,ht.isList.typeIs,?_⟩;refine wpAny_getItem_list_slice ht.isList hs pl pu .none (by simp) ?_ (by rw[Zv]<;>lia);rw[t9,<- hlen];refine⟨.ref s.heap.objs.size,_,I.laid (t':=s.toks) (o:=.lst (cO xs lo hi)) (fun b ob q=>Heap.get?_push_of_some _ q) (Zn _) ?_,rfl,q _ (I.fK.fresh (Zn _))⟩;exact⟨ZT (qK xs lo hi) hz,_,0,(r.drop (HT.gc xs.length 0 lo)).take (HT.gc xs.length xs.length hi-HT.gc xs.length 0 lo),Heap.get?_push_size _ rfl⟩
def qL:V->Bool
 |.f9=>true
 |.bl _=>true
 |.int _=>true
 |.str _=>true
 |_=>false
def yO:V->V->Bool
 |.f9,.f9=>true
 |.bl a,.bl b=>a==b
 |.bl a,.int b=>(if a then 1 else 0)==b
 |.int a,.bl b=>a==(if b then 1 else 0)
 |.int a,.int b=>a==b
 |.str a,.str b=>a==b
 |_,_=>false
theorem Ii{A:YQ}{s:YO}{y x:V}{u v:YF}(ry:RelV y u)(rx:RelV x v)(fy:qL y=true)(fx:qL x=true):SeqAt.EqAt A s u v (yO y x):=by
 cases y with
 |f9=>
  cases ry;cases x with
  |f9=>cases rx;exact SeqAt.EqAt.same _
  |bl b=>cases rx;exact SeqAt.EqAt.none_bool b
  |int b=>obtain⟨t,rfl⟩:=rx;exact SeqAt.EqAt.none_int b t
  |str b=>obtain⟨t,rfl⟩:=rx;exact SeqAt.EqAt.none_str b t
  |_=>exact absurd (show false=true from fx) Zo
 |bl a=>
  cases ry;cases x with
  |f9=>cases rx;exact SeqAt.EqAt.bool_none a
  |bl b=>cases rx;exact SeqAt.EqAt.bool_bool a b
  |int b=>obtain⟨t,rfl⟩:=rx;exact SeqAt.EqAt.bool_int a b t
  |str b=>obtain⟨t,rfl⟩:=rx;exact SeqAt.EqAt.bool_str a b t
  |_=>exact absurd (show false=true from fx) Zo
 |int a=>
  obtain⟨t',rfl⟩:=ry;cases x with
  |f9=>cases rx;exact SeqAt.EqAt.int_none a t'
  |bl b=>cases rx;exact SeqAt.EqAt.int_bool a t' b
  |int b=>obtain⟨t,rfl⟩:=rx;exact SeqAt.EqAt.int_int a t' b t
  |str b=>obtain⟨t,rfl⟩:=rx;exact SeqAt.EqAt.int_str a t' b t
  |_=>exact absurd (show false=true from fx) Zo
 |str a=>
  obtain⟨t',rfl⟩:=ry;cases x with
  |f9=>cases rx;exact SeqAt.EqAt.str_none a t'
  |bl b=>cases rx;exact SeqAt.EqAt.str_bool a t' b
  |int b=>obtain⟨t,rfl⟩:=rx;exact SeqAt.EqAt.str_int a t' b t
  |str b=>obtain⟨t,rfl⟩:=rx;exact SeqAt.EqAt.str_str a t' b t
  |_=>exact absurd (show false=true from fx) Zo
 |_=>exact absurd (show false=true from fy) Zo
def E8 (x:V) (u:YF):Bool:=match u with
 |.none=>yO .f9 x
 |.bool b=>yO (.bl b) x
 |.int i _=>yO (.int i) x
 |.str z _=>yO (.str z) x
 |_=>false
theorem Ct{x y:V}{u:YF}(r:RelV y u)(f:qL y=true):E8 x u=yO y x:=by
 cases y with
 |f9=>cases r;rfl
 |bl b=>cases r;rfl
 |int i=>obtain⟨t,rfl⟩:=r;rfl
 |str z=>obtain⟨t,rfl⟩:=r;rfl
 |_=>exact absurd (show false=true from f) Zo
theorem vU{x:V}:∀ {xs:List V} {us:List YF},Vals xs us->xs.all qL=true->us.any (E8 x)=xs.any fun y=>yO y x
 |_,_,.nil,_=>rfl
 |y::xs,u::us,.cons r t,f=>by
  rw[List.all_cons,Z8] at f;rw[X6,X6,Ct r f.1,vU t f.2]
theorem se{A:YQ}{s:YO}{x:V}{v:YF}(rx:RelV x v)(fx:qL x=true):∀ {xs:List V} {us:List YF},Vals xs us->xs.all qL=true->∀u∈us,SeqAt.EqAt A s u v (E8 x u)
 |_,_,.nil,_=>fun u hu=>by cases hu
 |y::xs,u::us,.cons r t,f=>fun u' hu=>by
  rw[List.all_cons,Z8] at f;rcases Zf.mp hu with rfl |hu
  ·rw[Ct r f.1];exact Ii r rx f.1 fx
  ·exact se rx fx t f.2 u' hu
def E9 (x:V) (xs:List V):Bool:=xs.any fun y=>yO y x
def Q9 (K:Za) (neg:Bool):R2:=fun x y H Q=>∃p xs,y=.ref p/\(gX K H p xs\/bU K H p xs)/\qL x=true/\xs.all qL=true/\Q (.bl (if neg then !E9 x xs else E9 x xs)) H
theorem iN:nX X (compareOp .In) (Q9 X.K false):=by
 intro pins s σ H x y v u Q I rx ry h;obtain⟨p,xs,rfl,hq,fx,fs,q⟩:=h;cases ry;rcases hq with hq |hq
 ·obtain⟨bC,r,pl,hz⟩:=I.list hq;refine SeqAt.in_listAt (E8 x) pl.isList (fun w hw=>se rx fx r fs w (by simpa using hw)) ⟨.bl _,H,I,rfl,?_⟩;rw[show bC.toArray.any (E8 x)=bC.any (E8 x) by simp,vU r fs];exact q
 ·obtain⟨bC,r,pl,hz⟩:=I.tuple hq;refine SeqAt.in_tupleAt (E8 x) pl (fun w hw=>se rx fx r fs w (by simpa using hw)) ⟨.bl _,H,I,rfl,?_⟩;rw[show bC.toArray.any (E8 x)=bC.any (E8 x) by simp,vU r fs];exact q
theorem bK:jl X (.builtin "len") (fun xs H Q=>∃p ys,xs=[.ref p]/\(gX X.K H p ys\/bU X.K H p ys)/\Q (.int ys.length) H):=by
 intro pins s σ H xs us Q I r h;obtain⟨p,ys,rfl,hq,q⟩:=h;obtain⟨u,rfl,rx⟩:=vals1 r;cases rx;have hn:=rZ;rcases hq with hq |hq
 ·obtain⟨bC,r',pl,hz⟩:=I.list hq;have hlen:=r'.length;exact Calls.call_len_list pl.isList (by simp only[Zv]<;>lia) ⟨.int ys.length,H,I.tok _,⟨s.toks+1,by rw[Zv,hlen]⟩,q⟩
 ·obtain⟨bC,r',pl,hz⟩:=I.tuple hq;have hlen:=r'.length;exact len_tuple pl (by simp only[Zv]<;>lia) ⟨.int ys.length,H,I.tok _,⟨s.toks+1,by rw[Zv,hlen]⟩,q⟩
theorem jl.or{f:YF}{r r':List V->Hp->VK->Prop}(h:jl X f r)(h':jl X f r'):jl X f (fun xs H Q=>r xs H Q\/r' xs H Q):=by
 intro pins s σ H xs us Q I rs q;rcases q with q |q
 ·exact h pins s σ H xs us Q I rs q
 ·exact h' pins s σ H xs us Q I rs q
theorem vV:jl X (.type "list") (fun xs H Q=>∃p ys,xs=[.ref p]/\(gX X.K H p ys\/bU X.K H p ys)/\∀l,H l=none->Q (.ref l) (upd H l (.lst ys))):=by
 intro pins s σ H xs us Q I r h;obtain⟨p,ys,rfl,hq,q⟩:=h;obtain⟨u,rfl,rx⟩:=vals1 r;cases rx;have fin:∀(bC:List YF),Vals ys bC->ys.length<=YM->∀(h':Heap) (c':Nat),(∀b o',s.heap.get? b=some o'->h'.get? b=some o')->
  h'.get? s.heap.objs.size=some {cls:=.type "list",dict:=none,data:=.seq bC.toArray c',slots:=#[]}->EP X pins σ Q (.ref s.heap.objs.size) {s with heap:=h' }:=fun bC r' hz h' c' kp e=>
  ⟨.ref s.heap.objs.size,_,I.laid (t':=s.toks) kp (Zn _) (show dF X.prog X.w _ h' _ (.lst ys) from ⟨hz,bC,c',r',e⟩),rfl,q _ (I.fK.fresh (Zn _))⟩
 rcases hq with hq |hq
 ·obtain⟨bC,r',pl,hz⟩:=I.list hq;have hlen:=r'.length;obtain⟨o,ho,hc,n,hd⟩:=pl.isList;exact call_list_seq p (.inl rfl) ho hc hd (fun h' c' kp e=>fin bC r' hz h' c' kp e) (by simp only[Zv]<;>lia)
 ·obtain⟨bC,r',pl,hz⟩:=I.tuple hq;have hlen:=r'.length;obtain⟨o,ho,hc,n,hd⟩:=pl;exact call_list_seq p (.inr rfl) ho hc hd (fun h' c' kp e=>fin bC r' hz h' c' kp e) (by simp only[Zv]<;>lia)
theorem nY:jl X (.type "tuple") (fun xs H Q=>∃p ys,xs=[.ref p]/\((gX X.K H p ys/\∀l,H l=none->Q (.ref l) (upd H l (.tup ys)))\/(bU X.K H p ys/\Q (.ref p) H))):=by
 intro pins s σ H xs us Q I r h;obtain⟨p,ys,rfl,h⟩:=h;obtain⟨u,rfl,rx⟩:=vals1 r;cases rx;rcases h with ⟨hq,q⟩ |⟨hq,q⟩
 ·obtain⟨bC,r',pl,hz⟩:=I.list hq;have hlen:=r'.length;refine call_tuple_list pl.isList (fun h' kp=>?_) (by simp only[Zv]<;>lia);have I1:Inv X pins σ H {s with heap:=h' }:=I.kept (t':=s.toks) kp;have I2:Inv X pins σ (upd H h'.objs.size (.tup ys)) {s with heap:=h'.push {cls:=.type "tuple",data:=.seq bC.toArray} }:=
   I1.laid (t':=s.toks) (fun b o e=>Heap.get?_push_of_some _ e) (Zn _) (show dF X.prog X.w _ _ _ (.tup ys) from ⟨hz,bC,r',IsTup.new _ _⟩)
  exact⟨.ref h'.objs.size,_,I2,rfl,q _ (I1.fK.fresh (Zn _))⟩
 ·obtain⟨bC,r',pl,hz⟩:=I.tuple hq;exact call_tuple_same pl ⟨.ref p,H,I,rfl,q⟩
def Ox (K:Za) (T:String) (x:V) (H:Hp):Prop:=match x with
 |.str _=>T = "str"
 |.int _=>T = "int"
 |.ref p=>(T = "list"/\∃xs,gX K H p xs)\/(T = "tuple"/\∃o,K.lookup p=some o/\o.cls=.type "tuple"/\o.dict=none)\/
  (T = "dict"/\((∃aJ,H p=some (.dK aJ))\/∃aJ,H p=some (.dT aJ)))\/(T = "set"/\∃S n,H p=some (.set S n))
 |_=>False
theorem Ij{pins:List (YE×Obj)}{σ:St}{H:Hp}{s:YO}{T:String}{x:V}{v:YF}(I:Inv X pins σ H s)(r:RelV x v)(ty:Ox X.K T x H) :
 s.TypeIs v T/\∀a,v=.ref a->∃ob,s.heap.get? a=some ob/\ob.dict=none:=by
 cases x with
 |str z=>
  obtain⟨t,rfl⟩:=r;cases (show T = "str" from ty);exact⟨typeIs_str s z t,fun _ e=>nomatch e⟩
 |int i=>
  obtain⟨t,rfl⟩:=r;cases (show T = "int" from ty);exact⟨typeIs_int s i t,fun _ e=>nomatch e⟩
 |ref p=>
  cases r;rcases ty with ⟨rfl,xs,hq⟩ |⟨rfl,o,hk,hc,hd⟩ |⟨rfl,hk⟩ |⟨rfl,S,n,hk⟩
  ·obtain⟨bC,_,pl,_⟩:=I.list hq;refine⟨pl.isList.typeIs,fun a e=>?_⟩;cases e;obtain⟨o,n,e,c,hd,_⟩:=pl;exact⟨o,e,hd⟩
  ·refine⟨⟨o,I.rG p o hk,hc⟩,fun a e=>?_⟩;cases e;exact⟨o,I.rG _ o hk,hd⟩
  ·have z:∃o,s.heap.get? p=some o/\o.ExactDict:=by
    rcases hk with ⟨aJ,hk⟩ |⟨aJ,hk⟩
    ·obtain⟨_,_,_,_,o,_,_,e,ex,_⟩:=I.fK p _ hk;exact⟨o,e,ex⟩
    ·obtain⟨_,_,_,_,o,_,_,e,ex,_⟩:=I.fK p _ hk;exact⟨o,e,ex⟩
   obtain⟨o,e,ex⟩:=z;refine⟨⟨o,e,ex.1⟩,fun a e2=>?_⟩;cases e2;exact⟨o,e,ex.2.1⟩
  ·obtain⟨o,_,_,_,e,ex,_⟩:=I.fK p _ hk;refine⟨⟨o,e,ex.1⟩,fun a e2=>?_⟩;cases e2;exact⟨o,e,ex.2.1⟩
 |_=>exact False.elim ty
def KW (K:Za) (T:String) (r:V->List V->Hp->VK->Prop) (to:TE):TE:=fun σ H Q=>to σ H fun x H1=>Ox K T x H1/\r x [] H1 Q
def Oy (K:Za) (T:String) (r:V->List V->Hp->VK->Prop) (to:TE) (t:TA):TE:=fun σ H Q=>to σ H fun x H1=>Ox K T x H1/\t σ H1 fun xs H2=>r x xs H2 Q
variable{o e:Expr}{es:List Expr}{to:TE}{t:TA}{name:Str}{apos nI:Pos}{T id:String}{r:V->List V->Hp->VK->Prop}
theorem fL(pa:PlainAttrs T)(slot:Slot T name id)(S9:typeOf (.builtin id)=pure (.type "method_descriptor"))(hm:KU X id r)(ho:PE X o to)(ha:PA X (e::es) t)
 (KY:attributeBase o name X.env (eval o X.env)=eval o X.env:=by rfl)
 (Oz:((backTo nI (YK (e::es) X.env)).all (fun x=>!x.1)&&(backToKw nI (keywordEach [] X.env)).all (fun x=>x.1.isSome)
  && decide ((e::es).length+([]:List Keyword).length+(if ([]:List Keyword).isEmpty then 0 else 1)<30))=true:=by rfl)
 (KZ:(apos.endLine==nI.line)=true:=by rfl) (hs:YK (e::es) X.env=(false,eval e X.env)::YK es X.env:=by rfl) (Ik:(backTo nI (YK es X.env)).any (·.1)=false:=by rfl) :
 PE X (.Call (.Attribute o name apos) (e::es) [] nI) (Oy X.K T r to t):=by
 intro pins s σ H Q I h;refine wpAny_Call_method_late KY Oz KZ rfl (gO (ho pins s σ H _ I h) fun v s1 zqz=>?_);obtain⟨x,H1,I1,r1,ty,q1⟩:=zqz;obtain⟨h1,h2⟩:=Ij I1 r1 ty;refine⟨T,id,pa,slot,S9,h1,h2,?_⟩;have hA:=ha nI pins s1 σ H1 _ I1 q1;rw[hs] at hA ⊢;refine Calls.callWith_builtin (by show (false ||(backTo nI (YK es X.env)).any (·.1))=false;rw[Ik]<;>rfl) (Calls.evalArgs_plain ?_);exact gO hA fun us s2 ⟨vs,H2,I2,r2,q2⟩=>hm pins s2 σ H2 x vs v us Q I2 r1 r2 q2
end
def Ra (X:Cx) (id:String) (r:V->List V->Hp->VK->Prop):Prop:=
 ∀(pins:List (YE×Obj)) (s:YO) (σ:St) (H:Hp) (x:V) (xs:List V) (v:YF) (us:List YF) (Q:VK),Inv X pins σ H s->RelV x v->Vals xs us->r x xs H Q->
  wpAny (model X.prog X.w) X.A (call (.builtin id) (v::us)) (EP X pins σ Q) X.xe s
theorem Vals.one:∀ {x:V} {us:List YF},Vals [x] us->∃u,us=[u]/\RelV x u
 |_,_,.cons r .nil=>⟨_,rfl,r⟩
theorem Vals.reverse{xs:List V}{us:List YF}(h:Vals xs us):Vals xs.reverse us.reverse:=by
 induction h with
 |nil=>exact .nil
 |cons r t ih=>rw[WW,WW];exact Vals.append ih (.cons r .nil)
theorem Vals.rep{xs:List V}{us:List YF}(h:Vals xs us):∀k:Nat,Vals (ZF k xs).flatten (ZF k us).flatten
 |0=>.nil
 |k+1=>by
  rw[XD,XD,ZG,ZG];exact Vals.append h (Vals.rep h k)
theorem foldl_rep(bC:List YF):∀(k:Nat) (acc:List YF),
 YD (fun x1 x2=>x1++x2) acc.toArray (ZF k bC.toArray)=(acc++(ZF k bC).flatten).toArray
 |0,acc=>by simp
 |k+1,acc=>by
  have e:acc.toArray++bC.toArray=(acc++bC).toArray:=by simp
  have e2:(acc++bC)++(ZF k bC).flatten=acc++(ZF (k+1) bC).flatten:=by
   rw[XD,ZG,ZA]
  rw[<- e2,<- foldl_rep bC k (acc++bC),<- e,XD,List.foldl_cons]
section
variable{X:Cx}{pins:List (YE×Obj)}{σ:St}{H:Hp}{s:YO}{l b:YE}{xs ys zs:List V}
theorem Inv.K0{bC its':List YF}{n:Nat}{f:Array YF->Array YF}{t':Nat}(I:Inv X pins σ H s)(hH:H l=some (.lst xs))
 (e:s.heap.get? l=some {cls:=.type "list",data:=.seq bC.toArray n}) (hf:f bC.toArray=its'.toArray) (hv:Vals ys its') (hz:ys.length<=YM) :
 Inv X pins σ (upd H l (.lst ys)) {s with heap:=s.heap.update l (Obj.mapSeq f),toks:=t' }:=by
 have q:=PySem.IsL.update e f;rw[hf] at q;refine I.write (x:=l) (e:=l) (by rw[hH];exact trivial) (.inl rfl) (fun b' u hb hu=>(Heap.get?_update_other s.heap (Obj.mapSeq f) (Ne.symm hb)).trans hu) ⟨_,q⟩ ?_;exact⟨hz,its',_,hv,q⟩
theorem Inv.Il{bC:List YF}{t':Nat}(I:Inv X pins σ H s)(hv:Vals ys bC)(hz:ys.length<=YM) :
 Inv X pins σ (upd H s.heap.objs.size (.lst ys)) {s with heap:=s.heap.push {cls:=.type "list",data:=.seq bC.toArray},toks:=t' }:=
 I.laid (fun _ _ q=>Heap.get?_push_of_some _ q) (Zn _) ⟨hz,bC,0,hv,Heap.get?_push_size _ rfl⟩
theorem Inv.fresh(I:Inv X pins σ H s):H s.heap.objs.size=none:=I.fK.fresh (Zn _)
theorem Inv.Bi(I:Inv X pins σ H s)(hH:H l=some (.lst xs)):xs.length<=YM/\∃(bC:List YF) (n:Nat),Vals xs bC/\xs.length=bC.length/\s.heap.get? l=some {cls:=.type "list",data:=.seq bC.toArray n}:=by
 obtain⟨z,bC,n,r,e⟩:=I.fK l _ hH;exact⟨z,bC,n,r,r.length,e⟩
theorem xj{n:Nat}(h:n<=YM):Builtin.List.listTooLong n=false:=by
 unfold Builtin.List.listTooLong;exact decide_eq_false (by lia)
end
section
variable{X:Cx}
def Fc:V->List V->Hp->VK->Prop:=fun x vs H Q=>∃l xs y,x=.ref l/\vs=[y]/\H l=some (.lst xs)/\xs.length<YM/\Q .f9 (upd H l (.lst (xs++[y])))
theorem bN:Ra X "list.append" Fc:=by
 intro pins s σ H x vs v us Q I rx rv h;obtain⟨l,xs,y,rfl,rfl,hH,hz,q⟩:=h;cases rx;obtain⟨u,rfl,ru⟩:=rv.one;obtain⟨z,bC,n,r,hl,e⟩:=I.Bi hH;refine call_meets F.slot_list_append ⟨_,e,rfl⟩ F.entry_list_append (F.args_list_append_2 _ _) (PySem.list_append l bC.toArray n u (by rw[Zv];lia)) ⟨e,?_⟩;refine⟨.f9,_,I.K0 (its':=bC++[u]) hH e (by simp) (r.append (.cons ru .nil)) ?_,rfl,q⟩;rw[Zc,Zm];lia
def Fd:V->List V->Hp->VK->Prop:=fun x vs H Q=>∃l b xs zs,x=.ref l/\vs=[.ref b]/\H l=some (.lst xs)/\H b=some (.lst zs)/\xs.length+zs.length<=YM/\Q .f9 (upd H l (.lst (xs++zs)))
theorem nk:Ra X "list.extend" Fd:=by
 intro pins s σ H x vs v us Q I rx rv h;obtain⟨l,b,xs,zs,rfl,rfl,hH,hB,hz,q⟩:=h;cases rx;obtain⟨u,rfl,ru⟩:=rv.one;cases ru;obtain⟨z,bC,n,r,hl,e⟩:=I.Bi hH;obtain⟨z2,qi,n2,r2,Rb,e2⟩:=I.Bi hB;have KO:bC.toArray.size+qi.toArray.size<=YM:=by rw[Zv,Zv];lia
 have Cu:¬(!bC.toArray.isEmpty&&Builtin.List.listTooLong (bC.toArray.size+qi.toArray.size))=true:=by
  rw[xj KO,Bool.and_false];exact Zo
 refine call_meets F.slot_list_extend ⟨_,e,rfl⟩ F.entry_list_extend (F.args_list_extend_2 _ _)
  (AutoSeq1.list_extend_list_list_0 l bC.toArray n b qi.toArray n2 Cu (by rw[Zv];lia) (by lia)) ⟨e,e2,?_⟩
 refine⟨.f9,_,I.K0 (its':=bC++qi) hH e (by simp) (r.append r2) ?_,rfl,q⟩;rw[Zc];lia
def K6:R2:=fun x y H Q=>∃l b xs zs,x=.ref l/\y=.ref b/\H l=some (.lst xs)/\H b=some (.lst zs)/\xs.length+zs.length<=YM/\∀p,H p=none->Q (.ref p) (upd H p (.lst (xs++zs)))
theorem fe:nX X (binaryOp .Add) K6:=by
 intro pins s σ H x y v u Q I rx ry h;obtain⟨l,b,xs,zs,rfl,rfl,hH,hB,hz,q⟩:=h;cases rx;cases ry;obtain⟨z,bC,n,r,hl,e⟩:=I.Bi hH;obtain⟨z2,qi,n2,r2,Rb,e2⟩:=I.Bi hB;refine PySem.P.add_list e e2 ?_ (by rw[Zv,Zv];lia);have ea:bC.toArray++qi.toArray=(bC++qi).toArray:=by simp
 rw[ea];exact⟨.ref _,_,I.Il (t':=s.toks) (r.append r2) (by rw[Zc];lia),rfl,q _ I.fresh⟩
def K7:R2:=fun x y H Q=>∃l k xs,x=.ref l/\y=.int k/\H l=some (.lst xs)/\-(2 ^ 63)<=k/\k<2 ^ 63/\xs.length*k.toNat<=YM/\
 ∀p,H p=none->Q (.ref p) (upd H p (.lst (ZF k.toNat xs).flatten))
theorem len_rep{α:Type}(xs:List α)(k:Nat):(ZF k xs).flatten.length=k*xs.length:=by
 induction k with
 |zero=>simp
 |succ k ih=>rw[XD,ZG,Zc,ih,Nat.succ_mul,Nat.add_comm]
theorem Im:nX X (binaryOp .Mult) K7:=by
 intro pins s σ H x y v u Q I rx ry h;obtain⟨l,k,xs,rfl,rfl,hH,h1,h2,hz,q⟩:=h;cases rx;obtain⟨t,rfl⟩:=ry;obtain⟨z,bC,n,r,hl,e⟩:=I.Bi hH;have hlen:bC.toArray.size*k.toNat<=YM:=by rw[Zv,<- hl];exact hz
 have OA:¬bC.toArray.size*k.toNat>(2 ^ 63-1)/8:=by
  have:(YM:Nat)<=(2 ^ 63-1)/8:=by decide
  lia
 have OB:¬(!Builtin.List.listFitsIndex k)=true:=by
  rw[fitsIndex_both h1 h2];exact Zo
 have Cu:¬Builtin.List.listTooLong (bC.toArray.size*k.toNat)=true:=by
  rw[xj hlen];exact Zo
 have OC:YD (fun x1 x2=>x1++x2) #[] (ZF (if bC.toArray.isEmpty=true then 0 else k.toNat) bC.toArray)=(ZF k.toNat bC).flatten.toArray:=by
  have f0:∀m:Nat,YD (fun x1 x2=>x1++x2) #[] (ZF m bC.toArray)=(ZF m bC).flatten.toArray:=fun m=>by
   have:=foldl_rep bC m [];rw[Xf] at this;exact this
  rw[f0];cases bC with
  |nil=>simp
  |cons a r'=>rw[if_neg (by simp)]
 refine wpAny_binaryOp_repeat_ref (T:="list") (U:="int") (by decide) ⟨_,e,rfl⟩ (fun s'=>typeIs_int s' k t) noFill_list_mul F.fills_int_mul F.slot_int_rmul repeat_list F.slot_int_index.lookup
  (call_meets F.slot_int_rmul (typeIs_int s k t) F.entry_int_rmul (F.args_int_rmul_2 _ _) (int___rmul___int_list k t l bC.toArray n)
   ⟨e,rfl,⟨_,e,rfl⟩,call_meets F.slot_list_mul ⟨_,e,rfl⟩ F.entry_list_mul (F.args_list_mul_2 _ _) (AutoListH.list___mul___list_int_3 l bC.toArray n k t OB OA Cu) ⟨e,?_⟩⟩)
 rw[OC];exact⟨.ref _,_,I.Il (t':=s.toks) (r.rep k.toNat) (by rw[len_rep,Nat.mul_comm];exact hz),rfl,q _ I.fresh⟩
end
end L2
namespace Rc
open PySem PySem.W PySem.Calls PyProof.Rows
theorem rm{P:Params}{h:Heap}:∀(ns:List Int) (vs:List YF),WellAll P h vs (ns.map WData.int)->IntsAre vs ns:=by
 intro ns
 induction ns with
 |nil=>
  intro vs w;rw[Xz] at w;cases w;exact .nil
 |cons n ns ih=>
  intro vs w;rw[ZD] at w;cases w with
  |cons a b=>
   cases a;exact .cons _ _ (ih _ b)
theorem Bj{l:OpenLaw}{n:Nat}(hn:l.most=some n){P:Params}{h:Heap}{args:List WData}{vals:List YF}
 (Fe:l.row.toRowW.claim.pre args=true) (OD:WellAll P h vals args) :
 ∃a vs ns,vals=[Value.ref a]/\args=[WData.list (ns.map WData.int)]/\h.get? a=some {cls:=.type "list",data:=.seq vs.toArray}/\IntsAre vs ns/\ns.length<=n:=by
 have Ta:WShape.hasAll [] args [.list .int]=true:=(pre_splitW Fe).1;have hc:l.pre.holds [] {args:=args}=true:=(pre_splitW Fe).2;obtain⟨d,r,rfl,h1,h2⟩:=hasAllW_cons Ta;obtain rfl:=hasAllW_nil h2;obtain⟨xs,rfl,h3⟩:=hasW_list h1;obtain⟨ns,rfl⟩:=items_int h3;have hlen:ns.length<=n:=by
  unfold OpenLaw.pre at hc;have h4:(WTm.not (.lt (.lit (.int (n:Int))) (.len (.arg 0)))).holds [] {args:=[.list (ns.map .int)]}=true:=by
   have h4:=(holds_andW hc).1;rw[hn] at h4;exact h4
  have h5:=condW_of h4 (w_not (w_lt w_lit (w_len_list (w_arg rfl))));rw[Zb] at h5;refine Nat.le_of_not_lt fun q=>?_;have q':(n:Int)<((ns.length:Nat):Int):=by lia
  first
   |(rw[decide_eq_true q'] at h5;exact absurd h5 (by decide))
   |(simp at h5;lia)
 cases OD with
 |cons w1 w2=>
  cases w2;cases w1 with
  |list ho Io=>exact⟨_,_,ns,rfl,rfl,ho,rm ns _ Io,hlen⟩
theorem Bk(l:OpenLaw)(args:List WData):l.row.toRowW.claim.post args (.bool true) args=true:=
 postW_of (r:=l.row.toRowW) (X:=(true==true))
  (show WShape.has [] (.bool true) .bool=true by first |rfl |decide |simp[WShape.has,WShape.arms,WShape.armsAll])
  (show (WTm.eq .res (.lit (.bool true))).value [] {args:=args,res:=some (.bool true),after:=args}=some (.bool (true==true)) from w_eq_bool (w_res rfl) w_lit) rfl
theorem xk{l:OpenLaw}{n:Nat}{q:YR}{loose:List Str}{XP:(Str->Option YF)->Heap->Prop}{YP:YG->Heap->Prop}{d:DefRec}
 (hn:l.most=some n) (K8:d.params.defaults=[])
 (call:∀(w:YG) (s₀ s₁:YO) (mg mb:Str->Option YF) (fa:YE) (o:Obj) (pm cd doc:YF) (a:YE) (vs:List YF) (ns:List Int),
  Ground q loose [] XP w s₀ mg mb s₁.heap->YP w s₁.heap->
  s₁.heap.get? fa=some o->o.data=.func (docDef d.name d.params d.body d.scope pm cd doc)->s₁.heap.CodeRec cd d.name->mg d.name=some (.ref fa)->
  s₁.heap.get? a=some {cls:=.type "list",data:=.seq vs.toArray}->IntsAre vs ns->ns.length<=n->s₁.gens = #[]->
  codeAny (model l.prog w) callerA (.call (.ref fa) ⟨[.ref a],[]⟩) (fun r s'=>r=.ok (.ret (.bool true))/\OldK s₁.heap s'.heap/\s'.os=s₁.os/\AllBare s'.gens) s₁) :
 WalkO q loose XP YP l.row.toRowW d [] (fun f vs=>PySem.call f vs):=by
 intro w s₀ s₁ mg mb G Y fa o pm cd doc dV kV ho hd A5 hD K9 hg args vals as Fe Tb Wa OD Wb;obtain rfl:dV=.none:=Dflts.none hD K8;obtain rfl:kV=.none:=Dflts.noKw hD;obtain⟨a,vs,ns,rfl,rfl,Ip,hints,hlen⟩:=Bj hn Fe OD;refine enter_call (codeAny_mono (call w s₀ s₁ mg mb fa o pm cd doc a vs ns G Y ho (fd_plain hd) A5 K9 Ip hints hlen hg) fun r s' hq=>?_);obtain⟨rfl,h2,h3,h4⟩:=hq;exact⟨.inl ⟨.bool true,.bool true,[],rfl,fun _=>rfl,.bool true,Bk l _,fun _=>⟨List.Pairwise.nil,fun _ hm=>(nomatch hm)⟩⟩,h2,h3,h4⟩
end Rc
namespace L2
open PySem PySem.Spec PyProof.Rows
theorem uX:∀ {vs:List YF} {ns:List Int},IntsAre vs ns->Vals (ns.map V.int) vs
 |_,_,.nil=>.nil
 |_,_,.cons n t h=>.cons ⟨t,rfl⟩ (uX h)
def Iq (H:Hp):Prop:=∀b,H b=none\/∃o xs,H b=some (.yw o (.lst xs))
theorem Cv{P:YR}{w:YG}{K:Za}{mg mb:Str->Option YF}{CX:yG}{k:Nat}{fa a:YE}{fd:YN}{x:Str}{sp:Sp}{s₁:YO}{vs:List YF}{ns:List Int}
 (KX:K.In s₁.heap) (Ni:s₁.heap.Ns YL mg) (hb:s₁.heap.Ns builtinsNs mb) (Tc:∀x:Str,x≠"__name__"->mb x=bootBuiltins x) (OE:s₁.heap.NoLimit) (hg:s₁.gens = #[])
 (ha:s₁.heap.get? a=some {cls:=.type "list",data:=.seq vs.toArray}) (hi:IntsAre vs ns) (hl:ns.length<=YM) (hr:jr k callerA)
 (F:∀base:Heap,K.In base->base.Ns YL mg->bP P w K mg base CX k fa fd [x] sp) (Ld:∀(s:YO) (u:YF),BindsTo s fd ⟨[u],[]⟩ [(x,u)])
 (Gm:∀H:Hp,Iq H->gX K H a (ns.map V.int)->sp [.ref a] H (fun v _=>v=.bl true) fun _ _ _=>False)
 (OF:∀H e s',CX [] H s₁ (fun _ _ _=>False) e s'->False) :
 codeAny (model P w) callerA (.call (.ref fa) ⟨[.ref a],[]⟩) (fun r s'=>r=.ok (.ret (.bool true))/\OldK s₁.heap s'.heap/\s'.os=s₁.os/\AllBare s'.gens) s₁:=by
 have rv:=uX hi;have OG:=hi.length;have core:∀H:Hp,Iq H->gX K H a (ns.map V.int)->oW P w H s₁.heap->(∀b,H b≠none->b=a)->(H a≠none->K.lookup a=none)->
  codeAny (model P w) callerA (.call (.ref fa) ⟨[.ref a],[]⟩) (fun r s'=>r=.ok (.ret (.bool true))/\OldK s₁.heap s'.heap/\s'.os=s₁.os/\AllBare s'.gens) s₁:=by
  intro H hO hS fK hA hK;have zQ:∀ {b:YE} {o:Obj},s₁.heap.get? b=some o->H b=none->(vM s₁.heap H).get? b=some o:=fun e n=>B5 e n;have KJ:∀ {b:YE} {o:Obj} {es:Array DictEntry} {ep:Nat},s₁.heap.get? b=some o->o.data=.dict es ep->H b=none:=fun {b o es ep} e d=>by
   cases q:H b with
   |none=>rfl
   |some u=>
    have e':b=a:=hA b (by rw[q];simp);subst e';rw[ha] at e;cases e;have d':Data.seq vs.toArray _=Data.dict es ep:=d;cases d'
  have Nj:∀ {b:YE} {m:Str->Option YF},s₁.heap.Ns b m->(vM s₁.heap H).Ns b m:=fun {b m} ⟨o,es,ep,e,d,r⟩=>⟨o,es,ep,zQ e (KJ e d),d,r⟩
  have Rf:K.In (vM s₁.heap H):=fun b o e=>zQ (KX b o e) (by
   cases q:H b with
   |none=>rfl
   |some u=>
    have e':b=a:=hA b (by rw[q];simp);subst e';rw[hK (by rw[q];simp)] at e;cases e)
  have hM:Mod K mg (vM s₁.heap H):=⟨Rf,Nj Ni,⟨mb,Nj hb,Tc⟩,let ⟨mc,h1,h2⟩:=OE;⟨mc,Nj h1,h2⟩⟩
  have e0:yH P w K mg (vM s₁.heap H) callerA [] s₁ H:=⟨rfl,hM,fun b o e=>ET e,Nat.le_of_eq (A3 _ _),trivial,fun b hb=>absurd (show b∈([]:List YE) from hb) (by simp),fK,.of_eq hg⟩
  refine codeAny_mono ((F _ Rf (Nj Ni)).run callerA [] s₁ H ⟨[.ref a],[]⟩ [.ref a] [.ref a] _ _ hr e0 (Ld s₁ (.ref a)) (.cons rfl .nil) (Gm H hO hS)) fun r s' h=>?_;cases r with
  |error e=>exact(OF H e s' h).elim
  |ok fl=>
   cases fl with
   |next=>exact False.elim h
   |brk=>exact False.elim h
   |cont=>exact False.elim h
   |ret u=>
    obtain⟨v,H',os,bare,un,OH,r',q⟩:=h;have q':v=.bl true:=q;subst q';obtain rfl:u=Value.bool true:=r';refine⟨rfl,OldK.of_keep fun b o e=>?_,os,bare⟩;cases q:H b with
    |none=>exact un.keep b o e q (by intro z;exact absurd (show b∈([]:List YE) from z) (by simp)) (by simp)
    |some u=>
     rcases hO b with z |⟨ob,xs,z⟩
     ·rw[q] at z;cases z
     ·have z2:=un.qg b ob _ z;obtain⟨e1,_⟩:=fK b _ z;obtain⟨e2,_⟩:=OH b _ z2;rw[e] at e1;cases e1;exact e2
 cases hk:K.lookup a with
 |some o=>
  have e:=KX a o hk;rw[ha] at e;cases e;refine core (fun _=>none) (fun _=>.inl rfl) (.inr ⟨_,vs.toArray,_,hk,rfl,rfl,rfl,by rw[Zv,OG];exact hl,by simpa using rv⟩) (fun b u z=>by have z':(none:Option HO)=some u:=z;cases z') (fun b z=>absurd rfl z) fun z=>absurd rfl z
 |none=>
  refine core (fun b=>if b=a then some (.yw {cls:=.type "list",data:=.seq vs.toArray} (.lst (ns.map V.int))) else none) (fun b=>?_) (.inl (.inr ⟨{cls:=.type "list",data:=.seq vs.toArray},if_pos rfl⟩)) (fun b u z=>?_) (fun b z=>?_) fun _=>hk
  ·by_cases hb:b=a
   ·exact .inr ⟨_,_,if_pos hb⟩
   ·exact .inl (if_neg hb)
  ·by_cases hb:b=a
   ·have z':=(if_pos hb).symm.trans z;cases z';subst hb;exact⟨ha,by rw[Zb];exact hl,vs,_,rv,ha⟩
   ·have z':=(if_neg hb).symm.trans z;cases z'
  ·by_cases hb:b=a
   ·exact hb
   ·exact absurd (if_neg hb) z
theorem Ff{l:PySem.W.OpenLaw}{n k:Nat}{q:YR}{loose:List Str}{XP:(Str->Option YF)->Heap->Prop}{YP:YG->Heap->Prop}{d:DefRec}{K:Params->Za}{CX:YG->yG}{sp:YG->Sp}{x:Str}
 (hn:l.most=some n) (Td:n<=YM) (K8:d.params.defaults=[]) (hr:jr k callerA)
 (hY:∀(w:YG) (h:Heap),YP w h->(K w.params).In h)
 (F:∀(w:YG) (mg:Str->Option YF) (fa:YE) (h:Heap),(K w.params).In h->h.Ns YL mg->mg d.name=some (.ref fa)->
  ∃fd:YN,(∀(s:YO) (u:YF),BindsTo s fd ⟨[u],[]⟩ [(x,u)])/\
   ∀base:Heap,(K w.params).In base->base.Ns YL mg->bP l.prog w (K w.params) mg base (CX w) k fa fd [x] (sp w))
 (Gm:∀(w:YG) (H:Hp) (a:YE) (ns:List Int),ns.length<=n->Iq H->gX (K w.params) H a (ns.map V.int)->sp w [.ref a] H (fun v _=>v=.bl true) fun _ _ _=>False)
 (OF:∀(w:YG) (H:Hp) (s:YO) (e:YF) (s':YO),CX w [] H s (fun _ _ _=>False) e s'->False) :
 PySem.W.WalkO q loose XP YP l.row.toRowW d [] (fun f vs=>PySem.call f vs):=by
 refine Rc.xk hn K8 fun w s₀ s₁ mg mb fa o pm cd doc a vs ns G Y ho hd A5 K9 Ip hints hlen hg=>?_;have KX:=hY w _ Y;obtain⟨fd,hb,hF⟩:=F w mg fa _ KX G.T.g K9;exact Cv KX G.T.g G.T.b G.T.builtins G.T.nolimit hg Ip hints (ZT hlen Td) hr hF hb (fun H hO hS=>Gm w H a ns hlen hO hS) fun H e s'=>OF w H s₁ e s'
def nr (s:Stmt):Arguments:=match s with
 |.FunctionDef _ a _ _ _ _ _ _ _ _=>a
 |_=>{posonlyargs:=[],args:=[],vararg:=none,kwonlyargs:=[],kw_defaults:=[],kwarg:=none,defaults:=[]}
def jP (s:Stmt):List Stmt:=match s with
 |.FunctionDef _ _ b _ _ _ _ _ _ _=>b
 |_=>[]
def aO (s:Stmt):Scope:=match s with
 |.FunctionDef _ _ _ _ _ _ sc _ _ _=>sc
 |_=>{kind:=.function,names:=[],isGenerator:=false,isCoroutine:=false}
abbrev gA:yG:=fun _ _ _ _ _ _=>False
abbrev E0:XK:=fun _ _ _=>False
theorem jm{X:Cx}:Passes gA X E0:=fun _ _ _ _ _ _ _ h=>h.elim
structure Fg(K:Za)(x qual:Str)(st:Stmt)(f:YE)(fd:YN):Prop where
 ex:∃(oc:YF) (od:Option YE) (kV doc pm:YF) (an:Option YE) (gP ct:YF) (EH:Array (Option YF)),
  fd=XA x qual (nr st) (jP st) (aO st) .none kV doc pm an gP ct/\K.lookup f=some ⟨oc,od,.func fd,EH⟩/\WS K gP qual=true
 kp:WR K (.ref f)=true
section
variable{P:YR}{w:YG}{K:Za}{mg:Str->Option YF}{base:Heap}
theorem Fg.ok{x qual:Str}{st:Stmt}{f:YE}{fd:YN}{N ps:List Str}{k:Nat}{sp:Sp}(F:Fg K x qual st f fd)(S:bD N ps (aO st))(len:∀vs H Q E,sp vs H Q E->vs.length=ps.length)
 (xi:∀(gP:YF) (A:YQ) (outer:List Env) (s:YO) (H:Hp) (vs:List V) (Q:VK) (E:XK),jr k (A.deeper (envOfC qual (aO st) s.heap.objs.size f gP))->sp vs H Q E->
  ∃t,A4 (t8 gA P w K mg base N qual (aO st) f gP A outer s H E).Km (jP st) t/\t {nx:=fun _ H'=>Q .f9 H',rt:=Q} (start N vs) H):bP P w K mg base gA (k+1) f fd ps sp:=by
 obtain⟨oc,od,kV,doc,pm,an,gP,ct,EH,rfl,lk,A5⟩:=F.ex;refine KL lk A5 S len fun A outer s H vs Q E hr Gm=>?_;obtain⟨t,h,q⟩:=xi gP A outer s H vs Q E hr Gm;exact⟨t,h.Km,q⟩
theorem Fg.binds{x qual:Str}{st:Stmt}{f:YE}{fd:YN}{ps:List Str}(F:Fg K x qual st f fd)
 (h:∀(kV doc pm:YF) (an:Option YE) (gP ct:YF) (us:List YF),us.length=ps.length->bindArgs (XA x qual (nr st) (jP st) (aO st) .none kV doc pm an gP ct) ⟨us,[]⟩=pure (ps.zip us)):Binds K fd ps []:=by
 obtain⟨oc,od,kV,doc,pm,an,gP,ct,EH,rfl,lk,A5⟩:=F.ex;exact .all (h kV doc pm an gP ct)
theorem Ir{x qual:Str}{st:Stmt}{f:YE}{oc:YF}{od an:Option YE}{EH:Array (Option YF)}{kV doc pm gP ct:YF}(l:K.lookup f=some ⟨oc,od,.func (XA x qual (nr st) (jP st) (aO st) .none kV doc pm an gP ct),EH⟩)
 (c:WS K gP qual=true) (k:WR K (.ref f)=true):Fg K x qual st f (XA x qual (nr st) (jP st) (aO st) .none kV doc pm an gP ct):=⟨⟨oc,od,kV,doc,pm,an,gP,ct,EH,rfl,l,c⟩,k⟩
end
theorem jC{A:YQ}{k:Nat}(hr:jr k A):A.units+1<cLine:=Ys (Nat.add_le_add_left (by decide:1<=64) _) hr.units
theorem Bl{n:Nat}(h:n<=1000):n<YM:=Ys h (by decide)
section
variable{X:Cx}
theorem pv(i:Nat){x:Str}{pos:Pos}(hN:X.N[i]?=some x:=by rfl)(hv:Ke X.env.scope x:=by first |exact ZE rfl |exact XT (ZE rfl) |exact XT (XT rfl))(hd:(x==("__debug__":Str))=false:=by decide)
 (A5:(x==("__classdict__":Str))=false:=by decide):PE X (.Name x pos) (gz i):=HH hN hv hd A5
end
theorem oz{c A B:Prop}[Decidable c](h1:c->A)(h2:¬c->B):if c then A else B:=by
 by_cases h:c
 ·rw[if_pos h];exact h1 h
 ·rw[if_neg h];exact h2 h
def ai (H H':Hp):Prop:=∀b o,H b=some o->H' b=some o
theorem ai.refl(H:Hp):ai H H:=fun _ _ h=>h
theorem ai.trans{H H1 H2:Hp}(a:ai H H1)(b:ai H1 H2):ai H H2:=fun c o h=>b c o (a c o h)
theorem ai.free{H H':Hp}(e:ai H H'){l:YE}(h:H' l=YA):H l=YA:=by
 cases q:H l with
 |none=>rfl
 |some o=>
  rw[e l o q] at h;cases h
theorem ai.seq{K:Za}{H H':Hp}{a:YE}{xs:List V}(e:ai H H')(h:gX K H a xs):gX K H' a xs:=by
 rcases h with (h |⟨o,h⟩) |h
 ·exact .inl (.inl (e _ _ h))
 ·exact .inl (.inr ⟨o,e _ _ h⟩)
 ·exact .inr h
section
variable{κ:Type}[DecidableEq κ]
def dR (aJ:List (κ×V)) (k:κ):Option V:=(aJ.find? fun kv=>decide (kv.1=k)).map (·.2)
def putK (aJ:List (κ×V)) (k:κ) (v:V):List (κ×V):=
 if (aJ.any fun kv=>decide (kv.1=k))=true then aJ.map (fun kv=>if kv.1=k then (kv.1,v) else kv) else aJ++[(k,v)]
theorem dM{p:κ×V}{r:List (κ×V)}{k:κ}(e:p.1=k):dR (p::r) k=some p.2:=by simp[dR,XF,e]
theorem dN{p:κ×V}{r:List (κ×V)}{k:κ}(e:¬p.1=k):dR (p::r) k=dR r k:=by simp[dR,XF,e]
theorem kg(k:κ):∀aJ:List (κ×V),(aJ.any fun kv=>decide (kv.1=k))=(dR aJ k).isSome
 |[]=>rfl
 |p::r=>by
  rw[X6];by_cases e:p.1=k
  ·simp only[dM e,decide_eq_true e,Bool.true_or,Option.isSome_some]
  ·rw[dN e,decide_eq_false e,Bool.false_or];exact kg k r
theorem xl(k j:κ)(y:V):∀aJ:List (κ×V),dR (aJ.map fun kv=>if kv.1=k then (kv.1,y) else kv) j=(dR aJ j).map fun x=>if j=k then y else x
 |[]=>rfl
 |p::r=>by
  have ih:=xl k j y r;rw[ZD];by_cases h:p.1=k
  ·rw[if_pos h];by_cases e:p.1=j
   ·rw[dM (p:=(p.1,y)) e,dM e,Xk,if_pos (e.symm.trans h)]
   ·rw[dN (p:=(p.1,y)) e,dN e,ih]
  ·rw[if_neg h];by_cases e:p.1=j
   ·rw[dM (p:=p) e,dM e,Xk,if_neg (fun z=>h (e.trans z))]
   ·rw[dN (p:=p) e,dN e,ih]
theorem uY(k j:κ)(y:V):∀aJ:List (κ×V),dR aJ k=none->dR (aJ++[(k,y)]) j=if j=k then some y else dR aJ j
 |[],_=>by
  by_cases e:k=j
  ·rw[if_pos e.symm];exact dM (p:=(k,y)) e
  ·rw[if_neg (fun z=>e z.symm)];exact dN (p:=(k,y)) e
 |p::r,hn=>by
  rw[Xg];have hk:¬p.1=k:=fun z=>by rw[dM z] at hn;cases hn
  rw[dN hk] at hn;have ih:=uY k j y r hn;by_cases e:p.1=j
  ·rw[dM e,dM e,if_neg (fun z=>hk (e.trans z))]
  ·rw[dN e,dN e,ih]
theorem si(aJ:List (κ×V))(k j:κ)(y:V):dR (putK aJ k y) j=if j=k then some y else dR aJ j:=by
 unfold putK;by_cases a:(aJ.any fun kv=>decide (kv.1=k))=true
 ·rw[if_pos a,xl];rw[kg] at a;by_cases e:j=k
  ·obtain⟨x,hx⟩:=W4.mp a;rw[if_pos e,e,hx,Xk,if_pos rfl]
  ·rw[if_neg e];cases dR aJ j with
   |none=>rfl
   |some x=>rw[Xk,if_neg e]
 ·rw[if_neg a];refine uY k j y aJ ?_;rw[kg] at a;cases q:dR aJ k with
  |none=>rfl
  |some x=>rw[q] at a;exact(a rfl).elim
theorem xm(aJ:List (κ×V))(k:κ)(v:V):(putK aJ k v).length<=aJ.length+1:=by
 unfold putK;split
 ·rw[Zb];lia
 ·rw[Zc,Ze,ZJ];lia
theorem ow.uZ{o:Option V}{u:Option YF}(r:ow o u):o.isSome=u.isSome:=by
 cases o with
 |none=>cases u with
  |none=>rfl
  |some _=>exact(show False from r).elim
 |some _=>cases u with
  |none=>exact(show False from r).elim
  |some _=>rfl
theorem ow.getD{o:Option V}{u:Option YF}{d:V}{d':YF}(r:ow o u)(rd:RelV d d'):RelV (o.getD d) (u.getD d'):=by
 cases o with
 |none=>cases u with
  |none=>exact rd
  |some _=>exact(show False from r).elim
 |some _=>cases u with
  |none=>exact(show False from r).elim
  |some _=>exact r
theorem KV.val{aJ:List (κ×V)}{vs:List (κ×YF)}(r:KV aJ vs)(k:κ):ow (dR aJ k) (valueAt vs k):=by
 unfold KV at r
 induction r with
 |nil=>exact True.intro
 |@cons p q ps qs h t ih=>
  obtain⟨h1,h2⟩:=h;by_cases e:p.1=k
  ·have e':q.1=k:=h1.symm.trans e;have b:valueAt (q::qs) k=some q.2:=by simp[valueAt,XF,e']
   rw[dM e,b];exact h2
  ·have e':¬q.1=k:=fun z=>e (h1.trans z);have b:valueAt (q::qs) k=valueAt qs k:=by simp[valueAt,XF,e']
   rw[dN e,b];exact ih
theorem KV.any{aJ:List (κ×V)}{vs:List (κ×YF)}(r:KV aJ vs)(k:κ):(aJ.any fun kv=>decide (kv.1=k))=vs.any fun kv=>decide (kv.1=k):=by
 unfold KV at r
 induction r with
 |nil=>rfl
 |cons h t ih=>rw[X6,X6,ih,h.1]
theorem KV.Iu{aJ:List (κ×V)}{vs:List (κ×YF)}(r:KV aJ vs)(k:κ){y:V}{u:YF}(ry:RelV y u) :
 KV (aJ.map fun kv=>if kv.1=k then (kv.1,y) else kv) (vs.map fun kv=>if kv.1=k then (kv.1,u) else kv):=by
 unfold KV at r ⊢
 induction r with
 |nil=>exact .nil
 |@cons p q ps qs h t ih=>
  rw[ZD,ZD];refine .cons ?_ ih;obtain⟨h1,h2⟩:=h;by_cases e:p.1=k
  ·rw[if_pos e,if_pos (h1.symm.trans e)];exact⟨h1,ry⟩
  ·rw[if_neg e,if_neg (fun z=>e (h1.trans z))];exact⟨h1,h2⟩
theorem KV.put{aJ:List (κ×V)}{vs:List (κ×YF)}(r:KV aJ vs)(k:κ){y:V}{u:YF}(ry:RelV y u):KV (putK aJ k y) (stored vs k u):=by
 unfold putK stored;rw[r.any k];by_cases e:(vs.any fun kv=>decide (kv.1=k))=true
 ·rw[if_pos e,if_pos e];exact r.Iu k ry
 ·rw[if_neg e,if_neg e];exact Paired.snoc r ⟨rfl,ry⟩
theorem KV.length{aJ:List (κ×V)}{vs:List (κ×YF)}(r:KV aJ vs):aJ.length=vs.length:=Paired.length r
end
theorem sj{P:YR}{w:YG}{k:Key}{u:YF}(r:RelV (kV k) u):(cn P w).is k u=true:=by
 cases k with
 |inl i=>obtain⟨t,e⟩:=(show ∃t,u=Value.int i t from r);subst e;exact w5 P w i t
 |inr x=>obtain⟨t,e⟩:=(show ∃t,u=Value.str x t from r);subst e;exact w6 P w x t
theorem u0{P:YR}{w:YG}:∀ {ks:List Key} {us:List YF},Vals (ks.map kV) us->ItemsAre (cn P w) ks us
 |[],_,r=>by rw[Xz] at r;cases r;exact .nil
 |k::ks,_,r=>by
  rw[ZD] at r;cases r with
  |cons h t=>exact .cons (sj h) (u0 t)
abbrev KT (H:Hp):List (List Key×V)->List (List Key×YE×YF)->Prop:=Paired fun p q=>p.1=q.1/\H q.2.1=some (.tup (p.1.map kV))/\RelV p.2 q.2.2
theorem KT.val{H:Hp}{aJ:List (List Key×V)}{xs:List (List Key×YE×YF)}(r:KT H aJ xs)(k:List Key):ow (dR aJ k) ((atKey xs k).map (·.2)):=by
 induction r with
 |nil=>exact True.intro
 |@cons p q ps qs h t ih=>
  obtain⟨h1,_,h2⟩:=h;by_cases e:p.1=k
  ·have e':q.1=k:=h1.symm.trans e;have b:atKey (q::qs) k=some q.2:=by simp[atKey,XF,e']
   rw[dM e,b];exact h2
  ·have e':¬q.1=k:=fun z=>e (h1.trans z);have b:atKey (q::qs) k=atKey qs k:=by simp[atKey,XF,e']
   rw[dN e,b];exact ih
theorem KT.Iu{H:Hp}{aJ:List (List Key×V)}{xs:List (List Key×YE×YF)}(r:KT H aJ xs)(k:List Key){y:V}{u:YF}(ry:RelV y u) :
 KT H (aJ.map fun kv=>if kv.1=k then (kv.1,y) else kv) (xs.map (putAt k u)):=by
 induction r with
 |nil=>exact .nil
 |@cons p q ps qs h t ih=>
  rw[ZD,ZD];refine .cons ?_ ih;obtain⟨h1,h2,h3⟩:=h;unfold putAt;by_cases e:p.1=k
  ·rw[if_pos e,if_pos (h1.symm.trans e)];exact⟨h1,h2,ry⟩
  ·rw[if_neg e,if_neg (fun z=>e (h1.trans z))];exact⟨h1,h2,h3⟩
theorem KT.put{H:Hp}{aJ:List (List Key×V)}{xs:List (List Key×YE×YF)}(r:KT H aJ xs)(k:List Key){b:YE}{y:V}{u:YF}(hb:H b=some (.tup (k.map kV)))(ry:RelV y u) :
 KT H (putK aJ k y) (storedH xs k b u):=by
 have e:(aJ.any fun kv=>decide (kv.1=k))=(atKey xs k).isSome:=by
  rw[kg,(r.val k).uZ,Yz]
 unfold putK storedH;rw[e];by_cases q:(atKey xs k).isSome=true
 ·rw[if_pos q,if_pos q];exact r.Iu k ry
 ·rw[if_neg q,if_neg q];exact Paired.snoc r ⟨rfl,hb,ry⟩
section
variable{P:YR}{w:YG}{H:Hp}{h:Heap}{a:YE}
theorem Gr{u:HO}(ok:oW P w H h)(e:Rd H a u):dF P w H h a u:=e.ok ok
theorem xn{aJ:List (Key×V)}(ok:oW P w H h)(e:Rd H a (.dK aJ)):aJ.length<=YM/\(a==sysModules)=false/\∃vs,KV aJ vs/\h.DictOf (cn P w) a vs:=
 show dF P w H h a (.dK aJ) from Gr ok e
theorem Lg{aJ:List (Key×V)}(ok:oW P w H h)(e:H a=some (.dK aJ)):aJ.length<=YM/\(a==sysModules)=false/\∃vs,KV aJ vs/\h.DictOf (cn P w) a vs:=xn ok (.inl e)
theorem yP{ks:List Key}(ok:oW P w H h)(e:H a=some (.tup (ks.map kV))):(tupleKind (cn P w)).is h ks a:=by
 obtain⟨_,bC,r,o,h1,h2,n,h3⟩:=(show dF P w H h a (.tup (ks.map kV)) from ok a _ e)
 exact⟨o,bC.toArray,n,h1,h2,h3,by simpa using u0 r⟩
theorem zR{aJ:List (List Key×V)}(ok:oW P w H h)(e:Rd H a (.dT aJ)):aJ.length<=YM/\(a==sysModules)=false/\
 ∃xs,KT H aJ xs/\h.DictOfH (tupleKind (cn P w)) a xs:=by
 obtain⟨z,y,xs,r,o,es,ep,h1,h2,h3,h4,h5⟩:=(show dF P w H h a (.dT aJ) from Gr ok e)
 refine⟨z,y,xs,r,o,es,ep,h1,h2,h3,h4,fun x hx=>?_,h5⟩;have all:∀ {l:List (List Key×V)} {m:List (List Key×YE×YF)},KT H l m->∀x∈m,(tupleKind (cn P w)).is h x.1 x.2.1:=by
  intro l m q
  induction q with
  |nil=>intro x hx;exact nomatch hx
  |@cons p q ps qs hq t ih=>
   intro x hx;rcases Zf.mp hx with e |hx
   ·subst e;exact yP ok (by rw[<- hq.1];exact hq.2.1)
   ·exact ih x hx
 exact all r x hx
end
def sk (H:Hp) (a:YE) (y:V) (r:Option V):Prop:=
 (∃aJ k,Rd H a (.dK aJ)/\y=kV k/\r=dR aJ k)\/∃aJ k b,Rd H a (.dT aJ)/\y=.ref b/\H b=some (.tup (k.map kV))/\r=dR aJ k
def Fh (H:Hp) (a:YE) (y v:V) (H':Hp):Prop:=
 (∃aJ k,H a=some (.dK aJ)/\y=kV k/\aJ.length<YM/\H'=upd H a (.dK (putK aJ k v)))\/
 ∃aJ k b,H a=some (.dT aJ)/\y=.ref b/\H b=some (.tup (k.map kV))/\aJ.length<YM/\H'=upd H a (.dT (putK aJ k v))
theorem sk.k{H:Hp}{a:YE}{aJ:List (Key×V)}{k:Key}(e:H a=some (.dK aJ)):sk H a (kV k) (dR aJ k):=.inl ⟨aJ,k,.inl e,rfl,rfl⟩
theorem Fh.k{H:Hp}{a:YE}{aJ:List (Key×V)}{k:Key}{v:V}(e:H a=some (.dK aJ))(hl:aJ.length<YM):Fh H a (kV k) v (upd H a (.dK (putK aJ k v))):=.inl ⟨aJ,k,e,rfl,hl,rfl⟩
section
variable{X:Cx}{pins:List (YE×Obj)}{σ:St}{H:Hp}{s:YO}{a:YE}{y v:V}{u r:YF}{o:Option V}{A:YQ}{E:YF->YO->Prop}
theorem Inv.big(I:Inv X pins σ H s):sysModules<s.heap.objs.size:=by
 have h:YL<s.heap.objs.size:=(I.mod.glob.keeps I.bk).lt;exact Nat.lt_trans (by decide) h
theorem Bm{Q:YF->YO->Prop}(hu:A.units+1<cLine)(I:Inv X pins σ H s)(g:sk H a y (some v))(ry:RelV y u)(h:∀w' s',Inv X pins σ H s'->RelV v w'->Q w' s') :
 wpAny (model X.prog X.w) A (getItem (.ref a) u) Q E s:=by
 rcases g with ⟨aJ,k,e,ey,l⟩ |⟨aJ,k,b,e,ey,eb,l⟩
 ·subst ey;obtain⟨z,hd,vs,rel,dd⟩:=xn I.fK e;obtain⟨w',hw,yM⟩:=ow.some_of (v:=v) (o:=valueAt vs k) (by rw[l];exact rel.val k);exact wpAny_getItem_of (sj ry) dd.mapOf hw (h w' _ (I.tok _) yM)
 ·subst ey;cases (show u=Value.ref b from ry);obtain⟨z,hd,xs,rel,dd⟩:=zR I.fK e;obtain⟨w',hw,yM⟩:=ow.some_of (v:=v) (o:=(atKey xs k).map (·.2)) (by rw[l];exact rel.val k);obtain⟨p,hp,pf⟩:=ZS.mp hw;refine wpAny_getItem_heap (tupleKind_room_in1 hu) (yP I.fK eb) dd hp ?_;rw[pf];exact h w' _ (I.tok _) yM
theorem Fi{h':Heap}{t':Nat}{ob:HO}(I:Inv X pins σ H s)(mu:Kc (H a))(hs:Heap.SameBut a s.heap h')(he:∃q,h'.get? a=some q)(new:dF X.prog X.w (upd H a ob) h' a ob) :
 Inv X pins σ (upd H a ob) {s with heap:=h',toks:=t' }:=
 I.write (x:=a) (e:=a) mu (.inl rfl) (fun b q hb z=>(hs.2 b hb).trans z) he new
theorem Iw{P:YR}{w:YG}{H':Hp}{h':Heap}{aJ:List (Key×V)}{vs:List (Key×YF)}(z:aJ.length<=YM)(hd:(a==sysModules)=false)(rel:KV aJ vs)(dd:h'.DictOf (cn P w) a vs) :
 dF P w H' h' a (.dK aJ):=⟨z,hd,vs,rel,dd⟩
end
def Iy (i:Expr):Prop:=∀ov iv,subscripted i false ov iv=operate [ov,iv] (getItem ov iv)
theorem zS{prog:YR}{w:YG}{A:YQ}{E:YF->YO->Prop}{s:YO}{env:Env}{value slice:Expr}{pos:Pos}{T id:String}{Q:YF->YO->Prop}
 (hl:typeLookup (.type T) "__getitem__"=pure (some (.builtin id))) (hs:Iy slice)
 (h:wpAny (model prog w) A (eval value env) (fun o s₁=>wpAny (model prog w) A (eval slice env) (fun i s₂=>s₂.TypeIs o T/\wpAny (model prog w) A (getItem o i) Q E s₂) E s₁) E s) :
 wpAny (model prog w) A (eval (.Subscript value slice pos) env) Q E s:=by
 refine Subscript_ (wpAny_mono h (fun o s₁ h₁=>wpAny_mono h₁ (fun i s₂ h₂=>?_) fun _ _ x=>x) fun _ _ x=>x);obtain⟨hT,h₂⟩:=h₂;unfold subscriptTail;refine YH ?_;rw[getitemInPython_of_ne hT.not_modules];refine YH (wpAny_specialOf hT hl ?_);have fin:wpAny (model prog w) A (subscripted slice false o i) (fun r s₃=>wpAny (model prog w) A (letTemporaryGo value o r >>= fun _=>pure r) Q E s₃) E s₂:=by
  rw[hs o i];exact wpAny_operating (wpAny_mono h₂ (fun r s₃ h₃=>YH (wpAny_letTemporaryGo (YI h₃))) fun _ _ x=>x)
 first
  |exact YI (YH fin)
  |exact YH (YI (YH fin))
  |exact YH fin
theorem xo{X:Cx}{pins:List (YE×Obj)}{σ:St}{H:Hp}{s:YO}{a:YE}{y:V}{o:Option V}(I:Inv X pins σ H s)(g:sk H a y o):s.TypeIs (.ref a) "dict":=by
 rcases g with ⟨aJ,k,e,_,_⟩ |⟨aJ,k,b,e,_,_,_⟩
 ·obtain⟨_,_,vs,_,dd⟩:=xn I.fK e;exact dd.typeIs
 ·obtain⟨_,_,xs,_,dd⟩:=zR I.fK e;exact dd.typeIs
def Cw (td ty:TE):TE:=fun σ H Q=>td σ H fun x H1=>ty σ H1 fun y H2=>∃a v,x=.ref a/\sk H2 a y (some v)/\Q v H2
def Lh (td ty tv:TE):TS:=fun D σ H=>tv σ H fun v H1=>td σ H1 fun x H2=>ty σ H2 fun y H3=>∃a H4,x=.ref a/\Fh H3 a y v H4/\D.nx σ H4
section
variable{X:Cx}{o i e value:Expr}{pos pos' Te:Pos}{td ty tv:TE}
theorem zT(hu:X.A.units+1<cLine)(ho:PE X o td)(hi:PE X i ty)(hs:Iy i):PE X (.Subscript o i pos) (Cw td ty):=by
 intro pins s σ H Q I h;refine zS PySem.F.slot_dict_getitem.lookup hs (gO (ho pins s σ H _ I h) fun u s1 zqz=>?_);obtain⟨x,H1,I1,rx,q1⟩:=zqz;refine gO (hi pins s1 σ H1 _ I1 q1) fun iv s2 zqz=>?_;obtain⟨y,H2,I2,ry,a,v,ex,g,q2⟩:=zqz;subst ex;obtain rfl:u=Value.ref a:=rx;exact⟨xo I2 g,Bm hu I2 g ry fun w' s3 I3 yM=>⟨v,H2,I3,yM,q2⟩⟩
end
theorem Cy{P:YR}{w:YG}{H:Hp}(h:Heap)(hb:sysModules<h.objs.size):dF P w H (h.push {cls:=.type "dict",data:=.dict #[]}) h.objs.size (.dK []):=
 ⟨ZN _,beq_eq_false_iff_ne.mpr (Ne.symm (Xb hb)),[],.nil,Heap.DictOf.new h⟩
def Iz:TE:=fun _ H Q=>∀p,H p=none->Q (.ref p) (upd H p (.dK []))
def qj:List (TE×TE)->St->Hp->(List (V×V)->Hp->Prop)->Prop
 |[],_,H,Q=>Q [] H
 |(tk,tv)::r,σ,H,Q=>tk σ H fun x H1=>tv σ H1 fun y H2=>qj r σ H2 fun ps H3=>Q ((x,y)::ps) H3
abbrev VV:List (V×V)->List (YF×YF)->Prop:=Paired fun p q=>RelV p.1 q.1/\RelV p.2 q.2
def Nk (X:Cx) (pos:Pos) (keys:List (Option Expr)) (values:List Expr) (Fj:List (TE×TE)):Prop:=
 ∀(pins:List (YE×Obj)) (s:YO) (σ:St) (H:Hp) (Q:List (V×V)->Hp->Prop),Inv X pins σ H s->qj Fj σ H Q->
  wpAny (model X.prog X.w) X.A (evalPairs (pairTrees keys values X.env pos)) (fun vs s'=>∃ps H',Inv X pins σ H' s'/\VV ps vs/\Q ps H') X.xe s
theorem vW{X:Cx}{pos:Pos}:Nk X pos [] [] []:=fun pins s σ H Q I h=>pairTrees_nil_walk ⟨[],H,I,.nil,h⟩
theorem gB{X:Cx}{pos:Pos}{k v:Expr}{ks:List (Option Expr)}{vs:List Expr}{tk tv:TE}{Fj:List (TE×TE)}(hk:PE X k tk)(hv:PE X v tv)(hr:Nk X pos ks vs Fj) :
 Nk X pos (some k::ks) (v::vs) ((tk,tv)::Fj):=fun pins s σ H Q I h=>
 pairTrees_cons_walk (gO (hk pins s σ H _ I h) fun u s1 ⟨x,H1,I1,rx,q1⟩=>gO (hv pins s1 σ H1 _ I1 q1) fun w2 s2 ⟨y,H2,I2,ry,q2⟩=>
  gO (hr pins s2 σ H2 _ I2 q2) fun ws s3 ⟨ps,H3,I3,rel,q3⟩=>⟨(x,y)::ps,H3,I3,.cons ⟨rx,ry⟩ rel,q3⟩)
def fM (aJ more:List (Key×V)):List (Key×V):=more.foldl (fun acc kv=>putK acc kv.1 kv.2) aJ
theorem KV.merge:∀ {more:List (Key×V)} {rs:List (Key×YF)} {aJ:List (Key×V)} {vs:List (Key×YF)},KV more rs->KV aJ vs->KV (fM aJ more) (merged vs rs):=by
 intro more rs aJ vs r;unfold KV at r
 induction r generalizing aJ vs with
 |nil=>intro q;exact q
 |@cons p q ps qs h t ih=>
  intro r0;have e:KV (putK aJ p.1 p.2) (stored vs q.1 q.2):=by
   have:=r0.put p.1 h.2;rw[<- h.1];exact this
  exact ih e
theorem nZ:∀(more aJ:List (Key×V)),(fM aJ more).length<=aJ.length+more.length
 |[],aJ=>by show aJ.length<=aJ.length+0;lia
 |p::r,aJ=>by
  have h1:=nZ r (putK aJ p.1 p.2);have h2:=xm aJ p.1 p.2;show (fM (putK aJ p.1 p.2) r).length<=_;rw[Ze];lia
theorem so{P:YR}{w:YG}:∀ {aJ:List (Key×V)} {ws:List (YF×YF)},VV (aJ.map fun kv=>(kV kv.1,kv.2)) ws->∃rs,Carries (cn P w) ws rs/\KV aJ rs
 |[],_,r=>by rw[Xz] at r;cases r;exact⟨[],True.intro,.nil⟩
 |p::aJ,_,r=>by
  rw[ZD] at r;cases r with
  |@cons a b as bs h t=>
   obtain⟨rs,c,q⟩:=so (P:=P) (w:=w) t;obtain⟨b1,b2⟩:=b;exact⟨(p.1,b2)::rs,⟨sj h.1,rfl,c⟩,.cons ⟨rfl,h.2⟩ q⟩
def zU (Fj:List (TE×TE)):TE:=fun σ H Q=>∀p,H p=none->qj Fj σ (upd H p (.dK [])) fun ps H2=>H2 p=some (.dK [])/\∃aJ:List (Key×V),ps=aJ.map (fun kv=>(kV kv.1,kv.2))/\aJ.length<=15/\Q (.ref p) (upd H2 p (.dK (fM [] aJ)))
theorem vX{X:Cx}{pos:Pos}{keys:List (Option Expr)}{values:List Expr}{Fj:List (TE×TE)}(h:Nk X pos keys values Fj)(Io:keys.all (·.isSome)=true)(hl:keys.length=values.length)(h0:keys≠[])
 (Tf:keys.length<=15):PE X (.Dict keys values pos) (zU Fj):=by
 intro pins s σ H Q I q;have hn:=I.fK.fresh (Zn s.heap.objs.size);have I1:=I.laid (a:=s.heap.objs.size) (o:=.dK []) (h':=s.heap.push {cls:=.type "dict",data:=.dict #[]}) (t':=s.toks) (fun _ _ q=>Heap.get?_push_of_some _ q) (Zn _) (Cy s.heap I.big);refine wpAny_Dict_walk (knd:=cn X.prog X.w) Io hl h0 Tf (gO (h pins _ σ _ _ I1 (q _ hn)) fun ws s2 zqz=>?_);obtain⟨ps,H2,I2,rel,e,aJ,ep,lk,q2⟩:=zqz;subst ep;obtain⟨rs,c,rk⟩:=so (P:=X.prog) (w:=X.w) rel;obtain⟨z,hd,Wc,r0,dd⟩:=Lg I2.fK e;cases r0;refine⟨rs,c,dd,fun h' Rh hs=>⟨.ref s.heap.objs.size,_,?_,rfl,q2⟩⟩;have hz:(fM [] aJ).length<=YM:=by
  have h1:=nZ aJ [];rw[ZJ] at h1;rw[sizeLine_eq];lia
 have he:∃q,h'.get? s.heap.objs.size=some q:=let ⟨q,_,_,hq,_⟩:=Rh;⟨q,hq⟩;exact Fi I2 (by rw[e];exact True.intro) hs he (Iw hz hd (rk.merge .nil) Rh)
structure M2(X:Cx)(o:Expr)(m:Str)(apos:Pos)(e f:Expr)(nI:Pos):Prop where
 base:attributeBase o m X.env (eval o X.env)=eval o X.env
 n8:((backTo nI (YK [e,f] X.env)).all (fun x=>!x.1)&&(backToKw nI (keywordEach [] X.env)).all (fun x=>x.1.isSome)
  && decide (([e,f]:List Expr).length+([]:List Keyword).length+(if ([]:List Keyword).isEmpty then 0 else 1)<30))=true
 line:(apos.endLine==nI.line)=true
 trees:backTo nI (YK [e,f] X.env)=[(false,eval e X.env),(false,eval f X.env)]
def Ri (H:Hp) (a:YE):Prop:=(∃aJ,Rd H a (.dK aJ))\/∃aJ,Rd H a (.dT aJ)
theorem IA{X:Cx}{pins:List (YE×Obj)}{σ:St}{H:Hp}{s:YO}{a:YE}(I:Inv X pins σ H s)(d:Ri H a) :
 s.TypeIs (.ref a) "dict"/\(∀b,Value.ref a=.ref b->∃ob,s.heap.get? b=some ob/\ob.dict=none)/\(a==sysModules)=false:=by
 rcases d with ⟨aJ,e⟩ |⟨aJ,e⟩
 ·obtain⟨_,hd,vs,_,dd⟩:=xn I.fK e;refine⟨dd.typeIs,fun b q=>?_,hd⟩;cases q;obtain⟨ob,_,_,h1,h2,_⟩:=dd;exact⟨ob,h1,h2.2.1⟩
 ·obtain⟨_,hd,xs,_,dd⟩:=zR I.fK e;refine⟨dd.typeIs,fun b q=>?_,hd⟩;cases q;obtain⟨ob,_,_,h1,h2,_⟩:=dd;exact⟨ob,h1,h2.2.1⟩
section
variable{X:Cx}{pins:List (YE×Obj)}{σ:St}{H:Hp}{s:YO}{a:YE}{y d:V}{u r:YF}{o:Option V}{A:YQ}{E:YF->YO->Prop}
theorem IB{Q:YF->YO->Prop}(hu:A.units+1<cLine)(I:Inv X pins σ H s)(g:sk H a y o)(ry:RelV y u)(rd:RelV d r)(h:∀w' s',Inv X pins σ H s'->RelV (o.getD d) w'->Q w' s') :
 wpAny (model X.prog X.w) A (call (.builtin "dict.get") [.ref a,u,r]) Q E s:=by
 rcases g with ⟨aJ,k,e,ey,l⟩ |⟨aJ,k,b,e,ey,eb,l⟩
 ·subst ey;obtain⟨z,hd,vs,rel,dd⟩:=xn I.fK e;refine call_meetsIn X8 dd.typeIs Yg (Yc _ _ _) (meets_dict_get_default (cn X.prog X.w) a (sj ry) hd r) ⟨_,dd.mapOf,h _ _ (I.tok _) ?_⟩;rw[l];exact(rel.val k).getD rd
 ·subst ey;cases (show u=Value.ref b from ry);obtain⟨z,hd,xs,rel,dd⟩:=zR I.fK e;refine call_meetsIn X8 dd.typeIs Yg (Yc _ _ _) (meetsH_dict_get_default (tupleKind (cn X.prog X.w)) a b hd r) ⟨tupleKind_room_in1 hu,k,xs,yP I.fK eb,dd,h _ _ (I.tok _) ?_⟩;rw[l];exact(rel.val k).getD rd
end
def Cz (td ty tx:TE):TE:=fun σ H Q=>td σ H fun x H1=>∃a,x=.ref a/\Ri H1 a/\ty σ H1 fun y H2=>tx σ H2 fun z H3=>∃o,sk H3 a y o/\Q (o.getD z) H3
section
variable{X:Cx}{o e f:Expr}{apos nI:Pos}{td ty tx:TE}
theorem CA(hu:X.A.units+1<cLine)(ho:PE X o td)(he:PE X e ty)(hf:PE X f tx)(m:M2 X o "get" apos e f nI):PE X (.Call (.Attribute o "get" apos) [e,f] [] nI) (Cz td ty tx):=by
 intro pins s σ H Q I h;refine wpAny_Call_method m.base m.n8 m.line PySem.F.plainAttrs_dict X8 PySem.F.type_dict_get (gO (ho pins s σ H _ I h) fun u s1 zqz=>?_);obtain⟨x,H1,I1,rx,a,ex,d,q1⟩:=zqz;subst ex;obtain rfl:u=Value.ref a:=rx;obtain⟨t1,t2,_⟩:=IA I1 d;refine⟨t1,t2,?_⟩;rw[m.trees];refine Calls.callWith_builtin rfl (Calls.evalArgs_plain (Calls.spliced_cons (gO (he pins s1 σ H1 _ I1 q1) fun iv s2 ⟨y,H2,I2,ry,q2⟩=>Calls.spliced_cons (gO (hf pins s2 σ H2 _ I2 q2) fun fv s3 ⟨z,H3,I3,rz,ov,g,q3⟩=>Calls.spliced_nil ?_))));exact IB hu I3 g ry rz fun w' s4 I4 yM=>⟨_,H3,I4,yM,q3⟩
end
def qk (env:Env):List (Str×NameKind)->List (Str×YE)->List (Str×YE)
 |[],cs=>cs
 |(n,k)::r,cs=>qk env r (if k==.free then (n,(env.cells.lookup n).getD 0)::cs else cs)
theorem rn{scope:Scope}{env:Env}(h:∀p∈scope.names,p.2=.free->∃c,env.cells.lookup p.1=some c):closureFor scope env=pure (qk env scope.names []):=by
 have all:∀(l:List (Str×NameKind)) (cs:List (Str×YE)),(∀p∈l,p.2=.free->∃c,env.cells.lookup p.1=some c)->
  (forIn l cs fun (x:Str×NameKind) (r:List (Str×YE))=>if (x.2==NameKind.free)=true then do let a <- cellOf env x.1;pure (ForInStep.yield ((x.1,a)::r)) else (pure (ForInStep.yield r):Sem _))=pure (qk env l cs):=by
  intro l
  induction l with
  |nil=>intro cs _;rfl
  |cons p r ih=>
   intro cs hp;obtain⟨n,k⟩:=p;rw[List.forIn_cons];by_cases hk:k=.free
   ·subst hk;obtain⟨c,e⟩:=hp (n,.free) Zt rfl;have e1:cellOf env n=pure c:=by unfold cellOf;rw[e]
    simp only[beq_self_eq_true,if_true,e1,pure_bind];rw[ih _ fun p OI=>hp p (Zk _ OI)];simp[qk,e]
   ·have hb:(k==NameKind.free)=false:=by simpa using hk
    simp only[hb,XG,if_false,pure_bind];rw[ih _ fun p OI=>hp p (Zk _ OI)];simp[qk,hb]
 simp only[closureFor];rw[all scope.names [] h];simp
theorem pq{env:Env}{x:Str}{c:YE}:∀ {l:List (Str×NameKind)} {cs:List (Str×YE)},(∀p∈l,p.2=.free->∃c,env.cells.lookup p.1=some c)->(∀x c,cs.lookup x=some c->env.cells.lookup x=some c)->
 (qk env l cs).lookup x=some c->env.cells.lookup x=some c
 |[],_,_,h,e=>h x c e
 |(n,k)::r,cs,hp,h,e=>by
  unfold qk at e;refine pq (fun p q=>hp p (Zk _ q)) ?_ e;intro y d q;by_cases hk:k=.free
  ·subst hk;obtain⟨c',e'⟩:=hp (n,.free) Zt rfl;simp only[beq_self_eq_true,if_true] at q;rw[Xh] at q;cases hy:y==n with
   |true=>
    rw[hy] at q;have:y=n:=by simpa using hy
    subst this;simp only at e';rw[e'] at q ⊢;exact q
   |false=>rw[hy] at q;exact h y d q
  ·have hb:(k==NameKind.free)=false:=by simpa using hk
   simp only[hb,XG,if_false] at q;exact h y d q
theorem sr{env:Env}{x:Str}:∀ {l:List (Str×NameKind)} {cs:List (Str×YE)},((∃c,cs.lookup x=some c)\/(x,NameKind.free)∈l)->∃c,(qk env l cs).lookup x=some c
 |[],_,h=>by
  rcases h with h |h
  ·exact h
  ·exact absurd h (by simp)
 |(n,k)::r,cs,h=>by
  unfold qk
  apply sr
  rcases h with ⟨c,h⟩ |h
  ·left
   by_cases hk:k=.free
   ·subst hk;simp only[beq_self_eq_true,if_true];rw[Xh];cases hy:x==n with
    |true=>exact⟨_,rfl⟩
    |false=>exact⟨c,h⟩
   ·have hb:(k==NameKind.free)=false:=by simpa using hk
    simp only[hb,XG,if_false];exact⟨c,h⟩
  ·rcases Zf.mp h with e |h
   ·injection e with e1 e2
    subst e1;subst e2
    left
    simp only[beq_self_eq_true,if_true];rw[Xh];simp
   ·exact .inr h
theorem lZ{scope:Scope}{env:Env}{x:Str}:(relabel scope env).names.lookup x=(scope.names.lookup x).map fun k=>if (k==NameKind.free&&env.scope.kind==.function&&env.kindOf x==some .cell)=true then .cell else k:=by
 unfold relabel;show List.lookup x (scope.names.map _)=_;generalize scope.names=l
 induction l with
 |nil=>rfl
 |cons p r ih=>
  obtain⟨n,k⟩:=p;rw[ZD,Xh (as:=r)];show List.lookup x ((if (k==NameKind.free&&env.scope.kind==.function&&env.kindOf n==some .cell)=true then (n,NameKind.cell) else (n,k))::_)=_;cases hx:x==n with
  |true=>
   have e:x=n:=by simpa using hx
   subst e;by_cases hc:(k==NameKind.free&&env.scope.kind==.function&&env.kindOf x==some .cell)=true
   ·rw[if_pos hc];simp only[Xh,beq_self_eq_true,Xk];rw[if_pos hc]
   ·rw[if_neg hc];simp only[Xh,beq_self_eq_true,Xk];rw[if_neg hc]
  |false=>
   by_cases hc:(k==NameKind.free&&env.scope.kind==.function&&env.kindOf n==some .cell)=true
   ·rw[if_pos hc];simp only[Xh,hx];exact ih
   ·rw[if_neg hc];simp only[Xh,hx];exact ih
theorem mem_of_lookup{x:Str}{k:NameKind}:∀ {l:List (Str×NameKind)},l.lookup x=some k->(x,k)∈l
 |[],h=>by simp at h
 |(n,j)::r,h=>by
  rw[Xh] at h;cases hx:x==n with
  |true=>
   rw[hx] at h;have e:x=n:=by simpa using hx
   cases h;subst e;exact Zt
  |false=>rw[hx] at h;exact Zk _ (mem_of_lookup h)
def js (sc out:Scope):Bool:=
 (sc.names.all fun p=>p.2 != .cell&&(p.2 != .free ||out.names.lookup p.1==some .cell ||out.names.lookup p.1==some .free)&&(p.2 != .local ||sc.names.lookup p.1==some .local))&&decide (sc.kind=.function)
def rJ (sc out:Scope) (N:List Str) (ix:List Nat):Bool:=
 ix.all fun i=>sc.names.lookup (N.getD i "")==some .free&&(out.names.lookup (N.getD i "")==some .cell ||out.names.lookup (N.getD i "")==some .free)
def CB (σ:St) (ix:List Nat):St:=ix.map fun i=>σ.getD i none
abbrev zV (N:List Str) (ix:List Nat):List Str:=ix.map fun i=>N.getD i ""
def jD (X:Cx) (scope:Scope) (own:List Str) (ix:List Nat) (C:YE) (s₀:YO) (H₀:Hp) (ex:List YE):Cx where
 prog:=X.prog
 w:=X.w
 K:=X.K
 mg:=X.mg
 base:=X.base
 A:=X.A
 N:=own++zV X.N ix
 s₀:=s₀
 H₀:=H₀
 env:=compEnvC scope (qk X.env scope.names []) C X.env
 outer:=X.stack
 stack:=X.stack
 ex:=ex
 fn:=fun _=>false
 calm:=X.calm
 pn:=[]
 xe:=fun _ _=>False
section
variable{X:Cx}{pins:List (YE×Obj)}{σ:St}{H:Hp}{s:YO}
theorem l4{sc out:Scope}(h:js sc out=true):∀p∈sc.names,p.2≠.cell/\(p.2=.free->out.names.lookup p.1=some .cell\/out.names.lookup p.1=some .free)/\(p.2=.local->sc.names.lookup p.1=some .local):=by
 intro p hp;unfold js at h;rw[Z8] at h;have:=List.all_eq_true.mp h.1 p hp;simp only[Z8,Bool.or_eq_true,bne_iff_ne,beq_iff_eq,ne_eq] at this;obtain⟨⟨h1,h2⟩,h3⟩:=this;refine⟨h1,fun e=>?_,fun e=>?_⟩
 ·rcases h2 with (h2 |h2) |h2
  ·exact absurd e h2
  ·exact .inl h2
  ·exact .inr h2
 ·rcases h3 with h3 |h3
  ·exact absurd e h3
  ·exact h3
theorem kH{sc out:Scope}(h:js sc out=true):sc.kind=.function:=by
 unfold js at h;rw[Z8] at h;exact of_decide_eq_true h.2
theorem Fl{scope:Scope}{own:List Str}{ix:List Nat}{ex:List YE}(I:Inv X pins σ H s)(hf:js scope X.env.scope=true)(hx:∀b∈ex,qh X pins H b/\b<s.heap.objs.size):(jD X scope own ix s.heap.objs.size s H ex).Ok:=by
 have fits:=(l4 hf)
 have oY:∀p∈scope.names,p.2=.free->∃c,X.env.cells.lookup p.1=some c:=fun p hp e=>I.ok.has p.1 ((fits p hp).2.1 e);have sub:∀ {x:Str} {c:YE},(qk X.env scope.names []).lookup x=some c->X.env.cells.lookup x=some c:=fun {x c} e=>pq oY (fun x c e=>by simp at e) e;refine⟨I.ok.mod,(show scope.kind=.function from kH hf),I.ok.glob,I.ok.blt,Zn _,fun x y c a b=>I.ok.inj x y c (sub a) (sub b),fun x hk=>?_,fun x c e=>(by cases e),I.ok.hd,I.ok.frames,.inl rfl,fun b hb=>⟨Xb (hx b hb).2,fun x c e=>(hx b hb).1.2.2.2.2.1 x c (sub e)⟩,I.bs,ZT I.ok.EF I.sz,fun b o e hb=>?_,fun b hb hs=>?_,I.stack,I.zy⟩
 ·refine sr (.inr ?_);have JJ:(relabel scope X.env).names.lookup x=some .cell\/(relabel scope X.env).names.lookup x=some .free:=hk;rw[lZ] at JJ;cases q:scope.names.lookup x with
  |none=>rw[q] at JJ;rcases JJ with z |z<;>cases z
  |some k=>
   have hm:=mem_of_lookup q;by_cases OJ:k=.free
   ·subst OJ;exact hm
   ·rw[q] at JJ;have hb:(k==NameKind.free)=false:=by simpa using OJ
    simp only[Xk,hb,Bool.false_and,XG,if_false,Z5.injEq] at JJ;rcases JJ with z |z
    ·exact absurd z (fits _ hm).1
    ·exact absurd z OJ
 ·rcases(hx b hb).1.2.2.2.1 with z |z
  ·exact I.ok.B6 b o e z
  ·exact absurd (ZQ (Heap.lt_size e) (ZT I.ok.EF z)) (Xw _)
 ·rcases Zf.mp (I.vN b hs) with z |z
  ·exact(hx b hb).1.2.1 z
  ·exact(hx b hb).1.2.2.1 z
theorem CF{scope:Scope}{own:List Str}{ix:List Nat}{ex:List YE}{h':Heap}{tk:Nat}(I:Inv X pins σ H s)(hf:js scope X.env.scope=true)(hc:rJ scope X.env.scope X.N ix=true)(hx:∀b∈ex,qh X pins H b/\b<s.heap.objs.size)
 (hn:h'.Ns s.heap.objs.size fun _=>none) (hk:∀b o,s.heap.get? b=some o->h'.get? b=some o):Inv (jD X scope own ix s.heap.objs.size s H ex) [] (ZF own.length none++CB σ ix) H {s with heap:=h',toks:=tk}:=by
 have fits:=(l4 hf)
 have oY:∀p∈scope.names,p.2=.free->∃c,X.env.cells.lookup p.1=some c:=fun p hp e=>I.ok.has p.1 ((fits p hp).2.1 e);have sub:∀ {x:Str} {c:YE},(qk X.env scope.names []).lookup x=some c->X.env.cells.lookup x=some c:=fun {x c} e=>pq oY (fun x c e=>by simp at e) e;refine⟨Fl I hf hx,rfl,I.bare,Un.kept hk,⟨_,hn,fun i x v e1 e2 e3=>?_⟩,fun x c e=>?_,I.fK.fresh (Zn _),fun x c e=>I.nW x c (sub e),fun p hp=>absurd (show p∈([]:List (YE×Obj))++[] from hp) (by simp),I.fK.kept hk,?_⟩
 ·have e1:(own++zV X.N ix)[i]?=some x:=e1;by_cases hi:i<own.length
  ·rw[Xe (by simpa using hi),W9,if_pos hi] at e2;cases e2
  ·have Rj:own.length<=i:=Nat.le_of_not_lt hi;rw[Z3 (by simpa using Rj),Yh] at e2;rw[Z3 Rj] at e1;unfold CB at e2;unfold zV at e1;rw[Zq] at e1 e2;cases q:ix[i-own.length]? with
   |none=>rw[q] at e2;cases e2
   |some j=>
    rw[q] at e1 e2;simp only[Xk,Z5.injEq] at e1 e2;have hj:j∈ix:=Z4 q;have fit:=List.all_eq_true.mp hc j hj;simp only[Z8,Bool.or_eq_true,beq_iff_eq] at fit;rw[e1] at fit;have ej:σ[j]?=some (some v):=by
     rw[ZH] at e2;cases r:σ[j]? with
     |none=>rw[r] at e2;cases e2
     |some z=>rw[r] at e2;simp only[Option.getD_some] at e2;rw[e2]
    have Th:j<X.N.length:=by rw[<- I.len];exact(Zi.mp ej).1
    have en:X.N[j]?=some x:=by
     rw[ZH] at e1;rw[Zd Th] at e1 ⊢;simp only[Option.getD_some] at e1;rw[e1]
    obtain⟨m,hm,hl⟩:=I.loc;have hv:Ke X.env.scope x:=by
     rcases fit.2 with z |z
     ·exact .inr (.inl z)
     ·exact .inr (.inr z)
    obtain⟨u,r,l⟩:=hl j x v en ej hv;refine⟨u,r,.inr ⟨?_,?_⟩⟩
    ·show (relabel scope X.env).names.lookup x=some .cell\/(relabel scope X.env).names.lookup x=some .free;rw[lZ,fit.1];simp only[Xk];split
     ·exact .inl rfl
     ·exact .inr rfl
    ·rcases l with ⟨k1,_⟩ |⟨_,c,ec,zB⟩
     ·have k1:X.env.scope.names.lookup x=some .local:=k1;rcases fit.2 with z |z<;>(rw[z] at k1;cases k1)
     ·obtain⟨c',e'⟩:∃c,(qk X.env scope.names []).lookup x=some c:=sr (.inr (mem_of_lookup fit.1));have:=sub e';rw[ec] at this;cases this;exact⟨c,e',zB.keeps hk⟩
 ·obtain⟨v,z⟩:=I.cell x c (sub e);exact⟨v,z.keeps hk⟩
 ·show (ZF own.length none++CB σ ix).length=(own++zV X.N ix).length;simp[CB]
theorem comp_back{scope:Scope}{own:List Str}{ix:List Nat}{ex:List YE}{τ:St}{H':Hp}{s':YO}{zA:List (YE×Obj)}(I:Inv X pins σ H s)(hx:∀b∈ex,qh X pins H b/\b<s.heap.objs.size)
 (I':Inv (jD X scope own ix s.heap.objs.size s H ex) zA τ H' s'):Inv X pins σ H' s'/\H' s.heap.objs.size=none/\s.heap.objs.size≠X.env.locals/\X.s₀.heap.objs.size<=s.heap.objs.size/\(∀x c,X.env.cells.lookup x=some c->c≠s.heap.objs.size)/\∀p∈X.pn++pins,p.1≠s.heap.objs.size:=by
 refine⟨I.Kj (ch:=ex) I'.os I'.base I'.fK I'.bare fun b hb=>?_,I'.free,Nat.ne_of_gt I.lt,I.sz,fun x c e z=>?_,fun p hp z=>?_⟩
 ·obtain⟨f0,f1,f2,f3,f4,f5⟩:=(hx b hb).1;exact⟨f3,f1,f4,f5⟩
 ·obtain⟨v,q⟩:=I.cell x c e;exact absurd q.lt (by rw[z];exact Xw _)
 ·exact absurd (Heap.lt_size (I.pin p hp).1) (by rw[z];exact Xw _)
end
def Li (X:Cx) (ifs:List Expr) (t:TT):Prop:=
 ∀(pins:List (YE×Obj)) (s:YO) (σ:St) (H:Hp) (Q:Bool->Hp->Prop),Inv X pins σ H s->t σ H Q->
  wpAny (model X.prog X.w) X.A (forIn ifs true fun c r=>if r=true then do let ok <- isTrue c X.env (eval c X.env);pure (ForInStep.yield ok) else pure (ForInStep.yield r)) (TP X pins σ Q) X.xe s
def iO:TT:=fun _ H Q=>Q true H
theorem cu{X:Cx}:Li X [] iO:=fun _ _ _ H _ I h=>wpAny_tests_nil ⟨H,I,h⟩
def eX (J:It) (D:YE) (g:TG) (tc:TT) (te:TE) (Q:VK) (τ:St) (H:Hp):Prop:=∃W:Nat->Nat->St->Hp->Prop,(∃m,W 0 m τ H)/\∀i m τ H,W i m τ H->
 (J.stop i H/\Q (.ref D) H)\/(J.go i H/\∃N:St->Hp->Prop,(∀τ' H',N τ' H'->∃m',m'<m/\W (i+1) m' τ' H')/\∀x H',J.A8 i H x H'->g x τ H' fun τ2 H2=>tc τ2 H2 fun b H3=>if b=true then
  te τ2 H3 fun y H4=>∃ys,H4 D=some (.lst ys)/\ys.length<YM/\N τ2 (upd H4 D (.lst (ys++[y]))) else N τ2 H3)
def ft (wi:TI) (k:Nat) (ix:List Nat) (g:TG) (tc:TT) (te:TE):TE:=fun σ H Q=>wi σ H fun J H1=>∀D,H1 D=none->eX J D g tc te Q (ZF k none++CB σ ix) (upd H1 D (.lst []))
section
variable{X:Cx}{tg iter elt:Expr}{ifs:List Expr}{scope:Scope}{pos:Pos}{own:List Str}{ix:List Nat}{wi:TI}{g:TG}{tc:TT}{te:TE}
theorem Bn{it D:YE}{fp:List YE}{tn:Nat->Heap->Prop}{J:It}{Q:VK}{R:Result->YO->Prop}{s:YO}{τ:St}{H:Hp}(qM:X.calm=true)(Ti:X.xe=fun _ _=>False)(We:X.pn=[])(T:Turn X.prog X.w X.K tg J fp it tn)
 (he:PE X elt te) (hg:PG X tg g) (ht:Li X ifs tc) (I:Inv X [] τ H s) (Rk:∀b∈fp,qh X [] H b) (h0:tn 0 s.heap) (hW:eX J D g tc te Q τ H)
 (hR:∀τ' H' s',Inv X [] τ' H' s'->Q (.ref D) H'->R (.ok .next) s') :
 codeAny (model X.prog X.w) X.A (.compLoop (.ListComp elt [⟨tg,iter,ifs,0⟩] scope pos) 0 (.ref it) (.ref D) X.env) R s:=by
 obtain⟨W,⟨m0,w0⟩,turn⟩:=hW;have no:∀ {E:YF->YO->Prop} (e:YF) (s':YO),X.xe e s'->E e s':=fun e s' z=>by rw[Ti] at z;exact z.elim
 have stat:∀ {H':Hp},(∀b∈fp,H' b=none)->∀b∈fp,qh X [] H' b:=fun hn b hb=>⟨hn b hb,(Rk b hb).2⟩
 refine codeAny_loop rfl (fun n s'=>∃i τ' H',Inv X [] τ' H' s'/\tn i s'.heap/\(∀b∈fp,H' b=none)/\W i n τ' H') (fun n s3 hI=>?_) m0 ⟨0,τ,H,I,h0,fun b hb=>(Rk b hb).1,w0⟩;obtain⟨i,τ3,H3,I3,Gh,Ku,w3⟩:=hI;show wpAny _ X.A ((compTurn (.ListComp elt [⟨tg,iter,ifs,0⟩] scope pos) 0 (.ref it) (.ref D) X.env).onRaise (fun x=>do noteFrame x X.env;theTreesLotGoes x)) _ _ s3;refine wpAny_noted ?_;rw[compTurn_list];refine YH (wpAny_standAt (YH ?_));rcases turn i n τ3 H3 w3 with ⟨stop,q⟩ |⟨go,N,hN,step⟩
 ·refine wpAny_mono (T.done X rfl rfl rfl qM i [] s3 τ3 H3 X.xe I3 (stat Ku) Gh stop) (fun r s4 zqz=>?_) no;obtain⟨hr,I4⟩:=zqz;subst hr;exact YI (hR τ3 H3 s4 I4 q)
 ·refine wpAny_mono (T.item X rfl rfl rfl qM i [] s3 τ3 H3 X.xe I3 (stat Ku) Gh go) (fun r s4 zqz=>?_) no;obtain⟨u,hr,h4⟩:=zqz;subst hr;refine YH (wpAny_mono h4 (fun _ s5 zqz=>?_) no);obtain⟨x,H5,I5,r5,y5,HS,Of⟩:=zqz;have Og:=I5.pinned (stat Of) (T.obj _ _ HS);refine YH (wpAny_mono (hg _ s5 τ3 H5 x u _ Og r5 (step x H5 y5)) (fun _ s6 zqz=>?_) no);obtain⟨τ6,H6,I6,q6⟩:=zqz;refine YH (wpAny_mono (ht _ s6 τ6 H6 _ I6 q6) (fun b s7 zqz=>?_) no);obtain⟨H7,I7,q7⟩:=zqz;have again:∀ {τ7:St} {H7:Hp} {s7:YO},Inv X ([]++rY fp s5.heap) τ7 H7 s7->N τ7 H7->∃m,m<n/\∃i σ' H',Inv X [] σ' H' s7/\tn i s7.heap/\(∀b∈fp,H' b=none)/\W i m σ' H':=fun {τ7 H7 s7} I7 n7=>by
   obtain⟨m',hm,w7⟩:=hN τ7 H7 n7;refine⟨m',hm,i+1,τ7,H7,I7.oZ,T.keep _ _ _ HS fun b hb o e=>(I7.pin (b,o) (Zz _ (Zz _ (kG hb e)))).1,fun b hb=>?_,w7⟩;obtain⟨o,e,d⟩:=T.obj _ _ HS b hb;exact(I7.pin (b,o) (Zz _ (Zz _ (kG hb e)))).2.1
  cases b with
  |false=>exact YI ⟨rfl,again I7 q7⟩
  |true=>
   refine YH (YH (wpAny_mono (he _ s7 τ6 H7 _ I7 q7) (fun v s8 ⟨y,H8,I8,r8,ys,hD,hl,q8⟩=>YH ?_) no));refine wpAny_mono (bN _ s8 τ6 H8 (.ref D) [y] (.ref D) [v] (fun _ H'=>N τ6 H') I8 rfl (.cons r8 .nil) ⟨D,ys,y,rfl,rfl,hD,hl,q8⟩) (fun _ s9 zqz=>?_) no;obtain⟨_,H9,I9,_,q9⟩:=zqz;exact YI (YI ⟨rfl,again I9 q9⟩)
theorem xp{pins:List (YE×Obj)}{s:YO}{σ:St}{H:Hp}{Q:VK}{use:Option (YF->Sem Unit)}{Q':YF->YO->Prop}(qM:X.calm=true)(hf:js scope X.env.scope=true)(hc:rJ scope X.env.scope X.N ix=true)
 (hi:PI X tg iter wi) (hg:∀C s₀ H₀ ex,PG (jD X scope own ix C s₀ H₀ ex) tg g) (ht:∀C s₀ H₀ ex,Li (jD X scope own ix C s₀ H₀ ex) ifs tc) (he:∀C s₀ H₀ ex,PE (jD X scope own ix C s₀ H₀ ex) elt te)
 (I:Inv X pins σ H s) (h:ft wi own.length ix g tc te σ H Q)
 (hU:∀(D C:YE) (H':Hp) (s':YO) (m:Str->Option YF),Inv X pins σ H' s'->Q (.ref D) H'->s'.heap.Ns C m->H' C=none->C≠X.env.locals->X.s₀.heap.objs.size<=C->(∀x c,X.env.cells.lookup x=some c->c≠C)->(∀p∈X.pn++pins,p.1≠C)->compPost (model X.prog X.w) X.A X.xe use Q' (.ref D) C (.ok .next) s')
 (hs:∀x,foldedSetIterable iter X.env x=pure x) :
 wpAny (model X.prog X.w) X.A (comprehension (.ListComp elt [⟨tg,iter,ifs,0⟩] scope pos) scope X.env (firstIterPos [⟨tg,iter,ifs,0⟩] pos) (newList []) false (eval iter X.env) use) Q' X.xe s:=by
 have fits:=(l4 hf)
 have oY:∀p∈scope.names,p.2=.free->∃c,X.env.cells.lookup p.1=some c:=fun p hp e=>I.ok.has p.1 ((fits p hp).2.1 e);refine wpAny_comprehension_free (use:=use) rfl hs (rn oY) (kH hf) (fun x hx=>(fits x hx).2.2) ?_;refine gO (hi pins s σ H _ I h) fun v s1 h1=>gO h1 fun Oe s2 h2=>?_;obtain⟨it,fp,tn,J,H2,e,I2,T,Nf,f2,hW⟩:=h2;subst e;refine wpAny_newObj_type (hd:=by size_fits) ?_;have hD:H2 s2.heap.objs.size=none:=I2.fK.fresh (Zn _);have I3:Inv X pins σ (upd H2 s2.heap.objs.size (.lst [])) {s2 with heap:=s2.heap.push {cls:=.type "list",dict:=none,data:=.seq ([]:List YF).toArray} }:=
  I2.laid (t':=s2.toks) (fun b u e=>Heap.get?_push_of_some _ e) (Zn _) ⟨ZN _,[],0,.nil,Heap.get?_push_size _ rfl⟩
 have W3:=hW s2.heap.objs.size hD;have Rl:∀b∈fp,b<s2.heap.objs.size:=fun b hb=>let ⟨o,e,_⟩:=T.obj _ _ Nf b hb;Heap.lt_size e;have Lj:∀b∈fp,qh X pins (upd H2 s2.heap.objs.size (.lst [])) b/\b<(s2.heap.push {cls:=.type "list",dict:=none,data:=.seq ([]:List YF).toArray}).objs.size:=fun b hb=>
  ⟨⟨by rw[aL (Xb (Rl b hb))];exact(f2 b hb).1,(f2 b hb).2⟩,by rw[Heap.size_push];exact Nat.lt_succ_of_lt (Rl b hb)⟩
 have Gh:tn 0 (s2.heap.push {cls:=.type "list",dict:=none,data:=.seq ([]:List YF).toArray}):=T.keep _ _ _ Nf fun b _ o e=>Heap.get?_push_of_some _ e;generalize Tj:({s2 with heap:=s2.heap.push {cls:=.type "list",dict:=none,data:=.seq ([]:List YF).toArray} }:YO)=s3 at I3;generalize Wf:upd H2 s2.heap.objs.size (.lst [])=H3 at I3 W3 Lj;have eh:s2.heap.push {cls:=.type "list",dict:=none,data:=.seq ([]:List YF).toArray}=s3.heap:=by rw[<- Tj]
 rw[eh] at Lj Gh;refine wpAny_newFunctionEnv (fun x hx=>(fits x hx).1) (by intro y hy;simp at hy) (fun h4 Ni Tn=>?_) (kH hf);have kept:∀b o,s3.heap.get? b=some o->h4.get? b=some o:=fun b o e=>Tn.extBut b o (Xb (Heap.lt_size e)) (Heap.get?_push_of_some _ e);have I4:=CF (own:=own) (tk:=s3.toks+([]:List (Str×YF)).length) I3 hf hc Lj Ni kept;have To:∀b∈fp,qh (jD X scope own ix s3.heap.objs.size s3 H3 fp) [] H3 b:=fun b hb=>by
  obtain⟨⟨f0,f1,Tp,f3,f4,f5⟩,lt⟩:=Lj b hb;refine⟨f0,Xb lt,fun z=>?_,.inl hb,fun x c e=>f4 x c (pq oY (fun x c e=>by simp at e) e),fun p hp=>absurd (show p∈([]:List (YE×Obj))++[] from hp) (by simp)⟩;rcases Zf.mp (I3.vN b z) with z |z
  ·exact f1 z
  ·exact Tp z
 have Rm:tn 0 h4:=T.keep _ _ _ Gh fun b _ o e=>kept b o e;have loop:=Bn (X:=jD X scope own ix s3.heap.objs.size s3 H3 fp) (iter:=iter) (scope:=scope) (pos:=pos) (R:=compPost (model X.prog X.w) X.A X.xe use Q' (.ref s2.heap.objs.size) s3.heap.objs.size) qM rfl rfl T (he _ _ _ _) (hg _ _ _ _) (ht _ _ _ _) I4 To Rm W3
  (fun τ' H' s' I' q=>by
   obtain⟨J1,J2,J3,J4,J5,J6⟩:=comp_back I3 Lj I';obtain⟨m,hm,_⟩:=I'.loc;exact hU _ _ H' s' m J1 q hm J2 J3 J4 J5 J6)
 exact codeAny_compStart_list loop (T.self X.A 0 _ _ _ Rm loop)
theorem fH(qM:X.calm=true)(hf:js scope X.env.scope=true)(hc:rJ scope X.env.scope X.N ix=true)
 (hi:PI X tg iter wi) (hg:∀C s₀ H₀ ex,PG (jD X scope own ix C s₀ H₀ ex) tg g) (ht:∀C s₀ H₀ ex,Li (jD X scope own ix C s₀ H₀ ex) ifs tc) (he:∀C s₀ H₀ ex,PE (jD X scope own ix C s₀ H₀ ex) elt te)
 (hs:∀x,foldedSetIterable iter X.env x=pure x:=by intro _;rfl):PE X (.ListComp elt [⟨tg,iter,ifs,0⟩] scope pos) (ft wi own.length ix g tc te):=by
 intro pins s σ H Q I h;rw[eval_ListComp];refine xp (use:=none) qM hf hc hi hg ht he I h (fun D C H' s' m I' q hm n1 n2 n3 n4 n5=>?_) hs;refine⟨m,hm,fun h' sb=>⟨.ref D,H',?_,rfl,q⟩⟩;exact I'.turned (t':=s'.toks) (it:=C) (fun b o hb e=>sb.extBut b o hb e) n1 (Ne.symm (Ne.symm n2)) (.inr n3) n4 n5
theorem jt{i:Nat}{y:Str}{py Lk:Pos}(hN:X.N.Nodup)(Tq:X.N[i]?=some y)(hy:Loc X.env.scope y)(qM:X.calm=true)(hf:js scope X.env.scope=true)(hc:rJ scope X.env.scope X.N ix=true)
 (hi:PI X tg iter wi) (hg:∀C s₀ H₀ ex,PG (jD X scope own ix C s₀ H₀ ex) tg g) (ht:∀C s₀ H₀ ex,Li (jD X scope own ix C s₀ H₀ ex) ifs tc) (he:∀C s₀ H₀ ex,PE (jD X scope own ix C s₀ H₀ ex) elt te)
 (Ts:swapsWith (.ListComp elt [⟨tg,iter,ifs,0⟩] scope pos) (some (.Name y py)) Lk.line X.env=pure true:=by rfl)
 (hs:∀x,foldedSetIterable iter X.env x=pure x:=by intro _;rfl) (Ki:X.fn y=true\/X.env.scope.names.lookup y=some .local:=by first |exact .inl rfl |exact .inr rfl |assumption) :
 PS X (.Assign [.Name y py] (.ListComp elt [⟨tg,iter,ifs,0⟩] scope pos) Lk) (A7 (ft wi own.length ix g tc te) (bV i)):=by
 intro pins s σ H D I h;rw[exec_Assign_Name_used _ _ _ _ Ts];refine YH (wpAny_standAt (YH ?_));show wpAny _ _ (do let _ <- comprehension (.ListComp elt [⟨tg,iter,ifs,0⟩] scope pos) scope X.env _ (newList []) false (eval iter X.env) (some (assign (.Name y py) X.env))) _ _ s;refine YH (wpAny_mono (xp (use:=some (assign (.Name y py) X.env)) (Q':=fun _ s'=>SP X pins D .next s') qM hf hc hi hg ht he I h (fun L C H' s' m I' q hm n1 n2 n3 n4 n5=>?_) hs) (fun _ s' hq=>YI (YI hq)) fun _ _ e=>e);show wpAny _ _ (assign (.Name y py) X.env (.ref L)) _ _ _;refine wpAny_assign_Name (uN I' hN Tq hy (v:=.ref L) rfl (fun s2 I2 zqz=>?_) Ki);obtain⟨a,sb,ha⟩:=zqz;have Tt:C≠a:=by
  rcases ha with rfl |ha
  ·exact n2
  ·exact fun z=>n4 y a ha z.symm
 refine⟨m,hm.sameBut sb Tt,fun h' OK=>⟨_,H',?_,q⟩⟩;exact I2.turned (t':=s2.toks) (it:=C) (fun b o hb e=>OK.extBut b o hb e) n1 n2 (.inr n3) n4 n5
end
inductive Dp where
 |f9 |bl (b:Bool) |int (i:Int) |str (x:Str) |tup (l:List Dp) |lst (l:List Dp)
mutual
def Rep (K:Za) (H:Hp):Dp->V->Prop
 |.f9,v=>v=.f9
 |.bl b,v=>v=.bl b
 |.int i,v=>v=.int i
 |.str x,v=>v=.str x
 |.tup l,v=>∃a xs,v=.ref a/\bU K H a xs/\aw K H l xs
 |.lst l,v=>∃a xs,v=.ref a/\gX K H a xs/\aw K H l xs
def aw (K:Za) (H:Hp):List Dp->List V->Prop
 |[],vs=>vs=[]
 |d::ds,vs=>∃v r,vs=v::r/\Rep K H d v/\aw K H ds r
end
mutual
def Dp.deep:Dp->Nat
 |.tup l=>Dp.CG l+1
 |.lst l=>Dp.CG l+1
 |_=>0
def Dp.CG:List Dp->Nat
 |[]=>0
 |d::ds=>max d.deep (Dp.CG ds)
end
theorem ai.a7{K:Za}{H H':Hp}{a:YE}{xs:List V}(e:ai H H')(h:bU K H a xs):bU K H' a xs:=by
 rcases h with (h |⟨o,h⟩) |h
 ·exact .inl (.inl (e _ _ h))
 ·exact .inl (.inr ⟨o,e _ _ h⟩)
 ·exact .inr h
mutual
theorem Rep.mono{K:Za}{H H':Hp}(e:ai H H'):∀ {d:Dp} {v:V},Rep K H d v->Rep K H' d v
 |.f9,_,h=>h
 |.bl _,_,h=>h
 |.int _,_,h=>h
 |.str _,_,h=>h
 |.tup l,_,h=>by
  unfold Rep at h ⊢;obtain⟨a,xs,e1,e2,e3⟩:=h;exact⟨a,xs,e1,e.a7 e2,aw.mono e e3⟩
 |.lst l,_,h=>by
  unfold Rep at h ⊢;obtain⟨a,xs,e1,e2,e3⟩:=h;exact⟨a,xs,e1,e.seq e2,aw.mono e e3⟩
theorem aw.mono{K:Za}{H H':Hp}(e:ai H H'):∀ {ds:List Dp} {vs:List V},aw K H ds vs->aw K H' ds vs
 |[],_,h=>h
 |d::ds,_,h=>by
  unfold aw at h ⊢;obtain⟨v,r,e1,e2,e3⟩:=h;exact⟨v,r,e1,Rep.mono e e2,aw.mono e e3⟩
end
theorem aw.length{K:Za}{H:Hp}:∀ {ds:List Dp} {vs:List V},aw K H ds vs->vs.length=ds.length
 |[],_,h=>by unfold aw at h;rw[h];rfl
 |d::ds,_,h=>by
  unfold aw at h;obtain⟨v,r,e1,_,e3⟩:=h;rw[e1,Ze,Ze,aw.length e3]
theorem aw.get{K:Za}{H:Hp}:∀ {ds:List Dp} {vs:List V} {i:Nat} {d:Dp},aw K H ds vs->ds[i]?=some d->∃v,vs[i]?=some v/\Rep K H d v
 |[],_,_,_,_,e=>by simp at e
 |d::ds,_,0,_,h,e=>by
  unfold aw at h;obtain⟨v,r,e1,e2,e3⟩:=h;simp only[List.getElem?_cons_zero,Z5.injEq] at e;subst e;exact⟨v,by rw[e1];rfl,e2⟩
 |d::ds,_,i+1,d',h,e=>by
  unfold aw at h;obtain⟨v,r,e1,e2,e3⟩:=h;rw[Ya] at e;obtain⟨v',h1,h2⟩:=aw.get e3 e;exact⟨v',by rw[e1,Ya];exact h1,h2⟩
theorem aw.append{K:Za}{H:Hp}:∀ {ds es:List Dp} {vs us:List V},aw K H ds vs->aw K H es us->aw K H (ds++es) (vs++us)
 |[],_,_,_,h,h'=>by unfold aw at h;rw[h];exact h'
 |d::ds,_,_,_,h,h'=>by
  unfold aw at h;obtain⟨v,r,e1,e2,e3⟩:=h;rw[e1];show aw K H (d::(ds++_)) (v::(r++_));unfold aw;exact⟨v,_,rfl,e2,aw.append e3 h'⟩
theorem aw.nil{K:Za}{H:Hp}:aw K H [] []:=by unfold aw;rfl
theorem aw.cons{K:Za}{H:Hp}{d:Dp}{ds:List Dp}{v:V}{vs:List V}(h:Rep K H d v)(h':aw K H ds vs):aw K H (d::ds) (v::vs):=by unfold aw;exact⟨v,vs,rfl,h,h'⟩
theorem aw.ints{K:Za}{H:Hp}:∀ {ns:List Int},aw K H (ns.map Dp.int) (ns.map V.int)
 |[]=>.nil
 |_::_=>.cons (by unfold Rep;rfl) aw.ints
theorem Rep.az{K:Za}{H:Hp}{l:List Dp}{v:V}:Rep K H (.tup l) v↔∃a xs,v=.ref a/\bU K H a xs/\aw K H l xs:=by unfold Rep;exact Iff.rfl
theorem Rep.bT{K:Za}{H:Hp}{l:List Dp}{v:V}:Rep K H (.lst l) v↔∃a xs,v=.ref a/\gX K H a xs/\aw K H l xs:=by unfold Rep;exact Iff.rfl
theorem Rep.aB{K:Za}{H:Hp}{i:Int}{v:V}:Rep K H (.int i) v↔v=.int i:=by unfold Rep;exact Iff.rfl
theorem Rep.au{K:Za}{H:Hp}{x:Str}{v:V}:Rep K H (.str x) v↔v=.str x:=by unfold Rep;exact Iff.rfl
theorem Rep.ql{K:Za}{H:Hp}{b:Bool}{v:V}:Rep K H (.bl b) v↔v=.bl b:=by unfold Rep;exact Iff.rfl
theorem Rep.nt{K:Za}{H:Hp}{v:V}:Rep K H .f9 v↔v=.f9:=by unfold Rep;exact Iff.rfl
theorem aw.aD{K:Za}{H:Hp}{vs:List V}:aw K H [] vs↔vs=[]:=by unfold aw;exact Iff.rfl
theorem aw.ar{K:Za}{H:Hp}{d:Dp}{ds:List Dp}{vs:List V}:aw K H (d::ds) vs↔∃v r,vs=v::r/\Rep K H d v/\aw K H ds r:=by conv=>lhs;unfold aw
theorem ai.new{H:Hp}{p:YE}(h:H p=none)(o:HO):ai H (upd H p o):=fun b u q=>by rw[aL (ao q h)];exact q
section
variable{X:Cx}
def Gu (K:Za) (b:Bool):R2:=fun x y H Q=>∃d,Rep K H d x/\Rep K H d y/\d.deep<=150/\Q (.bl b) H
end
structure dO(K:Za)(mg:Str->Option YF)(x:Str)(st:Stmt)(ps:List Str)(f:YE)(fd:YN):Prop where
 F:Fg K x x st f fd
 b:Binds K fd ps []
 m:mg x=some (.ref f)
end L2
namespace L2
open PySem PySem.Spec PyProof.Rows
theorem Ll{g:Int->Int->V}{i j:Int}{H:Hp}{Q:VK}:EZ g (.int i) (.int j) H Q↔Q (g i j) H:=⟨fun ⟨_,_,e1,e2,q⟩=>by cases e1;cases e2;exact q,fun q=>⟨_,_,rfl,rfl,q⟩⟩
theorem OL{C:Int->Int->Prop}{g:Int->Int->V}{i j:Int}{H:Hp}{Q:VK}:rI C g (.int i) (.int j) H Q↔C i j/\Q (g i j) H:=⟨fun ⟨_,_,e1,e2,c,q⟩=>by cases e1;cases e2;exact⟨c,q⟩,fun q=>⟨_,_,rfl,rfl,q⟩⟩
theorem CH{a:V}{r:St}{H:Hp}{Q:VK}:(gz 0 (some a::r) H Q)=(Q a H):=rfl
theorem CI{a:Option V}{r:St}{H:Hp}{Q:VK}:(gz 1 (a::r) H Q)=(gz 0 r H Q):=rfl
theorem CJ{a:Option V}{r:St}{H:Hp}{Q:VK}:(gz 2 (a::r) H Q)=(gz 1 r H Q):=rfl
theorem CK{a:Option V}{r:St}{H:Hp}{Q:VK}:(gz 3 (a::r) H Q)=(gz 2 r H Q):=rfl
theorem CL{a:Option V}{r:St}{H:Hp}{Q:VK}:(gz 4 (a::r) H Q)=(gz 3 r H Q):=rfl
theorem CM{a:Option V}{r:St}{H:Hp}{Q:VK}:(gz 5 (a::r) H Q)=(gz 4 r H Q):=rfl
theorem CN{a:Option V}{r:St}{H:Hp}{Q:VK}:(gz 6 (a::r) H Q)=(gz 5 r H Q):=rfl
theorem CO{a:Option V}{r:St}{H:Hp}{Q:VK}:(gz 7 (a::r) H Q)=(gz 6 r H Q):=rfl
theorem CQ{a:Option V}{r:St}{H:Hp}{Q:VK}:(gz 8 (a::r) H Q)=(gz 7 r H Q):=rfl
theorem CS{a:Option V}{r:St}{H:Hp}{Q:VK}:(gz 9 (a::r) H Q)=(gz 8 r H Q):=rfl
theorem Lm{v:V}{σ:St}{H:Hp}{Q:VK}:(tC v σ H Q)=(Q v H):=rfl
theorem Gv{r:R2}{ta tb:TE}{σ:St}{H:Hp}{Q:VK}:(Kv r ta tb σ H Q)=(ta σ H fun x H1=>tb σ H1 fun y H2=>r x y H2 Q):=rfl
theorem Ln{b:Bool}{p:Bool->Prop}:(∃k,V.bl b=.bl k/\p k)↔p b:=⟨fun ⟨_,e,q⟩=>by cases e;exact q,fun q=>⟨_,rfl,q⟩⟩
theorem IC{b:Int}{p:Int->Prop}:(∃k,V.int b=.int k/\p k)↔p b:=⟨fun ⟨_,e,q⟩=>by cases e;exact q,fun q=>⟨_,rfl,q⟩⟩
theorem ID{b:YE}{p:YE->Prop}:(∃k,V.ref b=.ref k/\p k)↔p b:=⟨fun ⟨_,e,q⟩=>by cases e;exact q,fun q=>⟨_,rfl,q⟩⟩
theorem zW{t:TE}{σ:St}{H:Hp}{Q:Bool->Hp->Prop}:(zK t σ H Q)=(t σ H fun x H'=>∃k,x=.bl k/\Q k H'):=rfl
theorem Gw{x y:V}{H:Hp}{Q:VK}:(Q3 x y H Q)=(rg x y=true/\Q (.bl (decide (x=y))) H):=rfl
theorem Gx{x y:V}{H:Hp}{Q:VK}:(Q4 x y H Q)=(rg x y=true/\Q (.bl (!decide (x=y))) H):=rfl
theorem IE{i j:Int}:(V.int i=V.int j)=(i=j):=by simp
theorem IF{i j:Str}:(V.str i=V.str j)=(i=j):=by simp
theorem Fm{c:Prop}[Decidable c]{A B:Prop}:(if decide c=true then A else B)↔if c then A else B:=by simp
theorem CT{c:Prop}[Decidable c]{A B:Prop}:(if (!decide c)=true then A else B)↔if c then B else A:=by by_cases h:c<;>simp[h]
theorem aN{K:Za}{p:YE}{i:Int}{H:Hp}{Q:VK}{xs:List V}{v:V}(h:bU K H p xs)(hv:Bh xs i=some v)(q:Q v H):E7 K (.ref p) (.int i) H Q:=⟨p,xs,i,v,rfl,rfl,h,hv,q⟩
theorem bY{K:Za}{p:YE}{i:Int}{H:Hp}{Q:VK}{xs:List V}{v:V}(h:gX K H p xs)(hv:Bh xs i=some v)(q:Q v H):E6 K (.ref p) (.int i) H Q:=⟨p,xs,i,v,rfl,rfl,h,hv,q⟩
section
variable{P:YR}{w:YG}{K:Za}{mg:Str->Option YF}{base:Heap}
theorem Fg.oA{x qual:Str}{st:Stmt}{f:YE}{fd:YN}{N ps:List Str}{k:Nat}{sp:Sp}(F:Fg K x qual st f fd)(S:bD N ps (aO st))(len:∀vs H Q E,sp vs H Q E->vs.length=ps.length)
 (xi:∀(gP:YF) (A:YQ) (outer:List Env) (s:YO) (H:Hp) (vs:List V) (Q:VK) (E:XK),jr k (A.deeper (envOfC qual (aO st) s.heap.objs.size f gP))->sp vs H Q E->
  ∃t σ,A4 (t8 gA P w K mg base N qual (aO st) f gP A outer s H E).Km (jP st) t/\L2.start N vs=σ/\t {nx:=fun _ H'=>Q .f9 H',rt:=Q} σ H):bP P w K mg base gA (k+1) f fd ps sp:=
 F.ok S len fun gP A outer s H vs Q E hr h=>let ⟨t,_,h1,h2,h3⟩:=xi gP A outer s H vs Q E hr h;⟨t,h1,by rw[h2];exact h3⟩
end
theorem zX{sp:Sp}{yI:List V}{E:XK}{t:TA}{σ:St}{H:Hp}{Q:VK}:(Co sp yI E t σ H Q)=(t σ H fun vs H1=>sp (vs++yI) H1 Q E):=rfl
theorem zY{ta:TE}{tr:TA}{σ:St}{H:Hp}{Q:List V->Hp->Prop}:(Cn ta tr σ H Q)=(ta σ H fun x H1=>tr σ H1 fun xs H2=>Q (x::xs) H2):=rfl
theorem CU{σ:St}{H:Hp}{Q:List V->Hp->Prop}:(KD σ H Q)=(Q [] H):=rfl
theorem CV{t:TA}{σ:St}{H:Hp}{Q:VK}:(KG t σ H Q)=(t σ H fun xs H1=>xs.length<=YM/\∀p,H1 p=none->Q (.ref p) (upd H1 p (.tup xs))):=rfl
theorem CY{t:TA}{σ:St}{H:Hp}{Q:VK}:(KI t σ H Q)=(t σ H fun xs H1=>xs.length<=YM/\∀p,H1 p=none->Q (.ref p) (upd H1 p (.lst xs))):=rfl
theorem Fn{n:Nat}(h:n<=1000):n<=YM:=W0 (Bl h)
theorem Rep.new{K:Za}{H:Hp}{p:YE}{vs:List V}{ds:List Dp}(h:H p=none)(r:aw K H ds vs):Rep K (upd H p (.tup vs)) (.tup ds) (.ref p):=Rep.az.mpr ⟨p,vs,rfl,.of af,r.mono (ai.new h _)⟩
theorem Fo{i j:Int}:rg (.int i) (.int j)=true:=rfl
theorem Fp{i j:Str}:rg (.str i) (.str j)=true:=rfl
theorem Fq{n:Nat}(h:n<=1000):(n<=YM)=True:=eq_true (Fn h)
theorem CZ{i j:Int}:(Ky i j)=(0<j/\j<1073741824):=rfl
theorem C0{CX:yG}{P:YR}{w:YG}{K:Za}{mg:Str->Option YF}{base:Heap}{N:List Str}{qual:Str}{scope:Scope}{f:YE}{cd:YF}{A:YQ}{outer:List Env}{s:YO}{H:Hp}{E:XK}:(t8 CX P w K mg base N qual scope f cd A outer s H E).K=K:=rfl
theorem zZ{X:Cx}{scope:Scope}{own:List Str}{ix:List Nat}{C:YE}{s₀:YO}{H₀:Hp}{ex:List YE}:(jD X scope own ix C s₀ H₀ ex).K=X.K:=rfl
theorem mulR{z b:Int}(h1 : -18446744073709551616<b)(h2:b<18446744073709551616):Bc z b:=.inr ⟨h1,h2⟩
theorem mulL{z b:Int}(h1 : -18446744073709551616<z)(h2:z<18446744073709551616):Bc z b:=.inl ⟨h1,h2⟩
theorem iV{x:Str}{pos:Pos}:o7 (.Name x pos):=fun _ _=>rfl
theorem ax{c:Const}{k:Nat}{pos:Pos}:o7 (.Constant c k pos):=fun _ _=>rfl
theorem C1{a b:Expr}{pos:Pos}:o7 (.Subscript a b pos):=fun _ _=>rfl
theorem jQ{f:Expr}{as:List Expr}{ks:List Keyword}{pos:Pos}:o7 (.Call f as ks pos):=fun _ _=>rfl
theorem eI{a b:Expr}{op:Operator}{pos:Pos}{es:List Expr}{env:Env}:YK (.BinOp a op b pos::es) env=(false,eval (.BinOp a op b pos) env)::YK es env:=rfl
theorem aR{x:Str}{pos:Pos}{es:List Expr}{env:Env}:YK (.Name x pos::es) env=(false,eval (.Name x pos) env)::YK es env:=rfl
theorem aK{c:Const}{k:Nat}{pos:Pos}{es:List Expr}{env:Env}:YK (.Constant c k pos::es) env=(false,eval (.Constant c k pos) env)::YK es env:=rfl
theorem a8{a b:Expr}{pos:Pos}{es:List Expr}{env:Env}:YK (.Subscript a b pos::es) env=(false,eval (.Subscript a b pos) env)::YK es env:=rfl
theorem b7{f:Expr}{as:List Expr}{ks:List Keyword}{pos:Pos}{es:List Expr}{env:Env}:YK (.Call f as ks pos::es) env=(false,eval (.Call f as ks pos) env)::YK es env:=rfl
theorem kI{as:List Expr}{pos:Pos}{es:List Expr}{env:Env}:YK (.List as pos::es) env=(false,eval (.List as pos) env)::YK es env:=rfl
theorem l7{as:List Expr}{k}{pos:Pos}{es:List Expr}{env:Env}:YK (.Tuple as k pos::es) env=(false,eval (.Tuple as k pos) env)::YK es env:=rfl
theorem l8{a:Expr}{ops:List CmpOp}{cs:List Expr}{pos:Pos}{es:List Expr}{env:Env}:YK (.Compare a ops cs pos::es) env=(false,eval (.Compare a ops cs pos) env)::YK es env:=rfl
theorem kJ{a:Expr}{gs:List Comprehension}{sc:Scope}{pos:Pos}{es:List Expr}{env:Env}:YK (.ListComp a gs sc pos::es) env=(false,eval (.ListComp a gs sc pos) env)::YK es env:=rfl
def C2:Expr->Option V
 |.Constant (.int i) _ _=>some (.int i)
 |.Constant (.str x) _ _=>some (.str x)
 |.Constant (.bool b) _ _=>some (.bl b)
 |.Constant .none _ _=>some .f9
 |_=>none
def C3 (vs:List V):TA:=fun _ H Q=>Q vs H
theorem dH{X:Cx}:∀ {es:List Expr} {vs:List V},es.map C2=vs.map some->PA X es (C3 vs)
 |[],[],_=>ag
 |[],_::_,h=>by cases h
 |_::_,[],h=>by cases h
 |e::es,v::vs,h=>by
  rw[ZD,ZD] at h
  injection h with h1 h2
  have ih:=dH (X:=X) h2;have one:∀ {e:Expr} {v:V},PE X e (tC v)->(YK (e::es) X.env=(false,eval e X.env)::YK es X.env)->PA X (e::es) (C3 (v::vs)):=fun he hs pos pins s σ H Q I q=>ae he ih hs pos pins s σ H Q I q;unfold C2 at h1;split at h1
  ·cases h1;exact one ah aK
  ·cases h1;exact one bQ aK
  ·cases h1;exact one B7 aK
  ·cases h1;exact one HI aK
  ·cases h1
theorem z0{vs:List V}{σ:St}{H:Hp}{Q:List V->Hp->Prop}:(C3 vs σ H Q)=(Q vs H):=rfl
theorem z1{td ty:TE}{σ:St}{H:Hp}{Q:VK}:(Cw td ty σ H Q)=(td σ H fun x H1=>ty σ H1 fun y H2=>∃a v,x=.ref a/\sk H2 a y (some v)/\Q v H2):=rfl
theorem xq{σ:St}{H:Hp}{Q:VK}:(Iz σ H Q)=(∀p,H p=none->Q (.ref p) (upd H p (.dK []))):=rfl
theorem z8{td ty tv:TE}{D:Ends}{σ:St}{H:Hp}:(Lh td ty tv D σ H)=(tv σ H fun v H1=>td σ H1 fun x H2=>ty σ H2 fun y H3=>∃a H4,x=.ref a/\Fh H3 a y v H4/\D.nx σ H4):=rfl
theorem Gy{r:List V->Hp->VK->Prop}{t:TA}{σ:St}{H:Hp}{Q:VK}:(Oq r t σ H Q)=(t σ H fun vs H1=>r vs H1 Q):=rfl
theorem Lo{t:TE}{σ:St}{H:Hp}{Q:Bool->Hp->Prop}:(tB t σ H Q)=(t σ H fun x H1=>∃c,x=.bl c/\Q c H1):=rfl
theorem C4{t:TT}{σ:St}{H:Hp}{Q:Bool->Hp->Prop}:(Kk t σ H Q)=(t σ H fun c H1=>Q (!c) H1):=rfl
theorem sk.s{H:Hp}{a:YE}{aJ:List (Key×V)}{x:Str}{v:V}(e:H a=some (.dK aJ))(h:dR aJ (Sum.inr x)=some v):sk H a (.str x) (some v):=by
 have:=sk.k (k:=Sum.inr x) e;rw[h] at this;exact this
end L2
namespace PM
abbrev W:=List Nat
inductive Tr where
 |num (n:Int) |box (x:W) |bin (o:W) (l r:Tr)
 deriving DecidableEq
def isLetter (c:Nat):Bool:=decide (97<=c)&&decide (c<=122)
def xr (c:Nat):Bool:=decide (48<=c)&&decide (c<=57)
def kind (c:Nat):Nat:=if isLetter c then 0 else if xr c then 1 else 2
def su (st:List W×Nat) (c:Nat):List W×Nat:=
 if kind c≠2/\kind c=st.2 then (st.1.dropLast++[st.1.getLastD []++[c]],kind c) else (st.1++[[c]],kind c)
def C5 (w:W):List W×Nat:=w.foldl su ([],3)
def pieces (w:W):List W:=(C5 w).1
def Ft:List W:=[[98,111,120],[97,115,107],[112,117,116],[115,97,121],[105,102],[101,108,115,101],[119,104,105,108,101],[109,117,115,116],[115,116,111,112],[101,110,100]]
def isName (p:W):Bool:=decide (1<=p.length)&&decide (p.length<=8)&&p.all isLetter && !Ft.contains p
def isNumber (p:W):Bool:=decide (1<=p.length)&&decide (p.length<=3)&&p.all xr&&(decide (p=[48]) || !decide (p.head?=some 48))
def vY (p:W):Int:=p.foldl (fun (a:Int) (c:Nat)=>a*10+((c:Int)-48)) 0
abbrev P:=List W->Option (Tr×List W)
def z9 (sub:P):P
 |[]=>none
 |p::r=>if isNumber p then some (.num (vY p),r) else if isName p then some (.box p,r) else if p=[40] then
  (match sub r with
  |some (e,q::r')=>if q=[41] then some (e,r') else none
  |_=>none) else none
theorem yQ(sub:P)(p:W)(r:List W):z9 sub (p::r)=if isNumber p then some (.num (vY p),r) else if isName p then some (.box p,r) else if p=[40] then
 (match sub r with
 |some (e,q::r')=>if q=[41] then some (e,r') else none
 |_=>none) else none:=rfl
def xt (ops:List W) (f:P):Nat->Tr->List W->Option (Tr×List W)
 |0,e,ps=>some (e,ps)
 |_+1,e,[]=>some (e,[])
 |k+1,e,p::r=>if p∈ops then (match f r with
  |none=>none
  |some (e2,r')=>xt ops f k (.bin p e e2) r') else some (e,p::r)
def sC (f:P):P:=fun ps=>match f ps with
 |none=>none
 |some (e,r)=>xt [[42]] f r.length e r
def IG (f:P):P:=fun ps=>match sC f ps with
 |none=>none
 |some (e,r)=>xt [[43],[45]] (sC f) r.length e r
def factor:Nat->P
 |0=>z9 fun _=>none
 |n+1=>z9 (IG (factor n))
def loop (ops:List W) (f:P) (e:Tr) (ps:List W):Option (Tr×List W):=xt ops f ps.length e ps
theorem Bo{ops:List W}{f:P}{e:Tr}{p:W}{r:List W}(h:p ∉ ops):loop ops f e (p::r)=some (e,p::r):=by
 unfold loop;rw[Ze];unfold xt;rw[if_neg h]
theorem C6(f:P)(ps:List W):sC f ps=match f ps with
 |none=>none
 |some (e,r)=>loop [[42]] f e r:=rfl
theorem Fu(f:P)(ps:List W):IG f ps=match sC f ps with
 |none=>none
 |some (e,r)=>loop [[43],[45]] (sC f) e r:=rfl
def Tu (p:W):Bool:=isNumber p ||isName p
def IH:List W:=[[43],[45],[42]]
def step (p:W):Nat×Bool->Option (Nat×Bool)
 |(d,true)=>if p=[40] then (if d+1>5 then none else some (d+1,true)) else if Tu p then some (d,false) else none
 |(d,false)=>if p=[41] then (if d=0 then none else some (d-1,false)) else if p∈IH then some (d,true) else none
def run:List W->Nat×Bool->Option (Nat×Bool)
 |[],s=>some s
 |p::r,s=>match step p s with
  |none=>none
  |some s'=>run r s'
structure Walk(d:Nat)(f:P)(nx:List W->Prop):Prop where
 yes:∀ps e r,f ps=some (e,r)->run ps (d,true)=run r (d,false)/\nx r
 no:∀ps,f ps=none->run ps (d,true)≠some (0,false)
def wU (_:List W):Prop:=True
def Rn (r:List W):Prop:=r=[]\/∃q t,r=q::t/\q≠[42]
def RF (n:Nat) (t:Tr) (L:List W):Prop:=∀rest,factor n (L++rest)=some (t,rest)
def RP (n:Nat) (t:Tr) (L:List W):Prop:=∀rest,sC (factor n) (L++rest)=loop [[42]] (factor n) t rest
def RS (n:Nat) (t:Tr) (L:List W):Prop:=∀rest,Rn rest->IG (factor n) (L++rest)=loop [[43],[45]] (sC (factor n)) t rest
theorem Fv{n:Nat}{t:Tr}{rest:List W}(h:Rn rest):loop [[42]] (factor n) t rest=some (t,rest):=by
 rcases h with rfl |⟨q,r,rfl,hq⟩
 ·rfl
 ·exact Bo (by simpa using hq)
theorem RF.p{n:Nat}{t:Tr}{L:List W}(h:RF n t L):RP n t L:=fun rest=>by rw[C6,h rest]
theorem RP.s{n:Nat}{t:Tr}{L:List W}(h:RP n t L):RS n t L:=fun rest hn=>by rw[Fu,h rest,Fv hn]
theorem xu(n:Nat)(p:W)(r:List W)(h:isNumber p=true\/isName p=true):factor n (p::r)=if isNumber p then some (.num (vY p),r) else some (.box p,r):=by
 have key:∀sub:P,z9 sub (p::r)=if isNumber p then some (.num (vY p),r) else some (.box p,r):=fun sub=>by
  rw[yQ];by_cases h1:isNumber p=true
  ·rw[if_pos h1,if_pos h1]
  ·rw[if_neg h1,if_neg h1,if_pos (h.resolve_left h1)]
 cases n with
 |zero=>exact key _
 |succ n=>exact key _
theorem RF.box{n:Nat}{p:W}(h:isName p=true)(h':isNumber p=false):RF n (.box p) [p]:=fun rest=>by
 show factor n (p::rest)=_;rw[xu n p rest (.inr h),if_neg (by rw[h'];simp)]
def Gz:Tr->Bool
 |.bin o _ _=>decide (o=[43]) ||decide (o=[45])
 |_=>false
def isMul:Tr->Bool
 |.bin o _ _=>decide (o=[42])
 |_=>false
def Tv (o:W) (l:Tr) (m:Int):Bool:=(decide (o=[42])&&Gz l) ||decide (m%5=1)
def Tw (o:W) (r:Tr) (m:Int):Bool:=(Gz r ||(decide (o=[42])&&isMul r)) ||decide (m%7=1)
def put (b:Bool) (w:W):W:=if b then [40]++w++[41] else w
def Ro (b:Bool):Nat:=if b then 1 else 0
def dep:Tr->Int->Nat
 |.bin o l r,m=>max (Ro (Tv o l m)+dep l (m/2)) (Ro (Tw o r m)+dep r (m/3))
 |_,_=>0
def OM (w:W):Prop:=∀c∈w,c≠43/\c≠45/\c≠42
end PM
namespace L2
open PySem PySem.Spec PyProof.Rows
section
variable{P:YR}{w:YG}{H H':Hp}{h h' B:Heap}{a:YE}{o:HO}
theorem dF.there(x:dF P w H h a o):∃ob,h.get? a=some ob:=by
 induction o with
 |lst xs=>obtain⟨_,_,_,_,e⟩:=x;exact⟨_,e⟩
 |tup xs=>obtain⟨_,_,_,_,e,_⟩:=x;exact⟨_,e⟩
 |dK aJ=>obtain⟨_,_,_,_,o,_,_,e,_⟩:=x;exact⟨_,e⟩
 |dT aJ=>obtain⟨_,_,_,_,o,_,_,e,_⟩:=x;exact⟨_,e⟩
 |set S n=>obtain⟨o,_,_,_,e,_⟩:=x;exact⟨_,e⟩
 |ins C dx fs=>obtain⟨_,_,_,e,_⟩:=x;exact⟨_,e⟩
 |own y=>exact x
 |xd fs=>obtain⟨_,⟨_,_,_,e,_⟩,_⟩:=x;exact⟨_,e⟩
 |JF lo hi=>obtain⟨_,_,_,e⟩:=x;exact⟨_,e⟩
 |yw ob u=>obtain⟨e,_⟩:=x;exact⟨_,e⟩
 |EE ps=>exact⟨_,(show h.get? a=some _ from x)⟩
 |met f y=>exact⟨_,(show h.get? a=some _ from x)⟩
 |ext φ=>obtain⟨_,e,_⟩:=x;exact e
end
def Tz (z:Str):It:=⟨fun i _=>i<z.cps.size,fun i H x H'=>H'=H/\∃c,z.cps[i]?=some c/\x=.str ⟨#[c]⟩,fun i _=>z.cps.size<=i⟩
section
variable{X:Cx}{tg:Expr}
def Lr (tl:TE):TI:=fun σ H R=>tl σ H fun x H1=>∃z,x=.str z/\R (Tz z) H1
end
abbrev W:=PM.W
def S (w:W):Str:=⟨w.toArray⟩
def sv (w:W):V:=.str (S w)
theorem Lu{a b:W}:S a=S b↔a=b:=⟨fun h=>by have:=congrArg (fun z:Str=>z.cps.toList) h;simpa[S] using this,fun h=>by rw[h]⟩
def cR:PM.Tr->Dp
 |.num n=>.tup [.str "number",.int n]
 |.box x=>.tup [.str "box",.str (S x)]
 |.bin o l r=>.tup [.str (S o),cR l,cR r]
def bw (p:YE) (H H':Hp):Prop:=∀b o,b≠p->H b=some o->H' b=some o
theorem bw.refl(p:YE)(H:Hp):bw p H H:=fun _ _ _ h=>h
theorem bw.trans{p:YE}{H H1 H2:Hp}(a:bw p H H1)(b:bw p H1 H2):bw p H H2:=fun c o n h=>b c o n (a c o n h)
theorem bw.of{p:YE}{H H':Hp}(s:ai H H'):bw p H H':=fun b o _ h=>s b o h
theorem bw.put{p:YE}{H H1:Hp}(a:bw p H H1)(o:HO):bw p H (upd H1 p o):=fun b u n h=>by rw[aL n];exact a b u n h
theorem bw.new{p q:YE}{H H1:Hp}(a:bw p H H1)(h:H1 q=none)(o:HO):bw p H (upd H1 q o):=fun b u n e=>by rw[aL (ao (a b u n e) h)];exact a b u n e
theorem bw.same{p:YE}{H H':Hp}(a:bw p H H')(h:H p=none):ai H H':=fun b o e=>a b o (ao e h) e
structure Rp(CP:YE)(H:Hp)(p l dx:YE)(ps:List W)(k:Nat):Prop where
 ins:H p=some (.ins CP dx [("pieces",.ref l),("place",.int k)])
 own:H dx=some (.own p)
 lst:H l=some (.lst (ps.map sv))
 le:k<=ps.length
 pos:∀q∈ps,q≠[]
 len:∀q∈ps,q.length<=60
 many:ps.length<=60
theorem Rp.nd{CP p l dx:YE}{H:Hp}{ps:List W}{k:Nat}(o:Rp CP H p l dx ps k):dx≠p:=cY o.own o.ins (by intro z;cases z)
theorem Rep.nJ{K:Za}{H H':Hp}{p C dx:YE}{fs:List (Str×V)}(hp:H p=some (.ins C dx fs))(u:bw p H H'):(∀(d:Dp) (v:V),Rep K H d v->Rep K H' d v)/\∀(ds:List Dp) (vs:List V),aw K H ds vs->aw K H' ds vs:=by
 have st:∀a xs,bU K H a xs->bU K H' a xs:=fun a xs h=>by
  rcases h with (h |⟨o,h⟩) |h
  ·exact .inl (.inl (u _ _ (cY h hp (by intro z;cases z)) h))
  ·exact .inl (.inr ⟨o,u _ _ (cY h hp (by intro z;cases z)) h⟩)
  ·exact .inr h
 have sl:∀a xs,gX K H a xs->gX K H' a xs:=fun a xs h=>by
  rcases h with (h |⟨o,h⟩) |h
  ·exact .inl (.inl (u _ _ (cY h hp (by intro z;cases z)) h))
  ·exact .inl (.inr ⟨o,u _ _ (cY h hp (by intro z;cases z)) h⟩)
  ·exact .inr h
 refine⟨fun d=>?_,fun ds=>?_⟩
 ·exact Dp.rec (motive_1:=fun d=>∀v,Rep K H d v->Rep K H' d v) (motive_2:=fun ds=>∀vs,aw K H ds vs->aw K H' ds vs)
   (fun v h=>by rw[Rep.nt] at h ⊢;exact h) (fun b v h=>by rw[Rep.ql] at h ⊢;exact h) (fun i v h=>by rw[Rep.aB] at h ⊢;exact h) (fun x v h=>by rw[Rep.au] at h ⊢;exact h)
   (fun l ih v h=>by rw[Rep.az] at h ⊢;obtain⟨a,xs,e,q,r⟩:=h;exact⟨a,xs,e,st a xs q,ih xs r⟩)
   (fun l ih v h=>by rw[Rep.bT] at h ⊢;obtain⟨a,xs,e,q,r⟩:=h;exact⟨a,xs,e,sl a xs q,ih xs r⟩)
   (fun vs h=>by rw[aw.aD] at h ⊢;exact h)
   (fun d ds i1 i2 vs h=>by rw[aw.ar] at h ⊢;obtain⟨v,r,e,x,y⟩:=h;exact⟨v,r,e,i1 v x,i2 r y⟩) d
 ·exact Dp.rec_1 (motive_1:=fun d=>∀v,Rep K H d v->Rep K H' d v) (motive_2:=fun ds=>∀vs,aw K H ds vs->aw K H' ds vs)
   (fun v h=>by rw[Rep.nt] at h ⊢;exact h) (fun b v h=>by rw[Rep.ql] at h ⊢;exact h) (fun i v h=>by rw[Rep.aB] at h ⊢;exact h) (fun x v h=>by rw[Rep.au] at h ⊢;exact h)
   (fun l ih v h=>by rw[Rep.az] at h ⊢;obtain⟨a,xs,e,q,r⟩:=h;exact⟨a,xs,e,st a xs q,ih xs r⟩)
   (fun l ih v h=>by rw[Rep.bT] at h ⊢;obtain⟨a,xs,e,q,r⟩:=h;exact⟨a,xs,e,sl a xs q,ih xs r⟩)
   (fun vs h=>by rw[aw.aD] at h ⊢;exact h)
   (fun d ds i1 i2 vs h=>by rw[aw.ar] at h ⊢;obtain⟨v,r,e,x,y⟩:=h;exact⟨v,r,e,i1 v x,i2 r y⟩) ds
mutual
def Dp.py:Dp->PyData
 |.f9=>.none
 |.bl b=>.bool b
 |.int i=>.int i
 |.str x=>.str x
 |.tup l=>.tuple (Dp.lW l)
 |.lst l=>.list (Dp.lW l)
def Dp.lW:List Dp->List PyData
 |[]=>[]
 |d::r=>d.py::Dp.lW r
end
section
variable{X:Cx}{pins:List (YE×Obj)}{σ:St}{H:Hp}{s:YO}
mutual
theorem l9(I:Inv X pins σ H s):∀ {d:Dp} {v:V} {u:YF},Rep X.K H d v->RelV v u->∃as,Reads s.heap u d.py as
 |.f9,v,u,h,r=>by rw[Rep.nt] at h;subst h;cases (show u=Value.none from r);exact⟨_,.none⟩
 |.bl b,v,u,h,r=>by rw[Rep.ql] at h;subst h;cases (show u=Value.bool b from r);exact⟨_,.bool b⟩
 |.int i,v,u,h,r=>by rw[Rep.aB] at h;subst h;obtain⟨t,rfl⟩:=(show ∃t,u=Value.int i t from r);exact⟨_,.int i t⟩
 |.str x,v,u,h,r=>by rw[Rep.au] at h;subst h;obtain⟨t,rfl⟩:=(show ∃t,u=Value.str x t from r);exact⟨_,.str x t⟩
 |.tup l,v,u,h,r=>by
  rw[Rep.az] at h;obtain⟨p,xs,rfl,q,w⟩:=h;cases (show u=Value.ref p from r);obtain⟨bC,v1,t1,_⟩:=I.tuple q;obtain⟨as,ra⟩:=qm I w v1;obtain⟨o,h1,h2,n,h3⟩:=t1;unfold Dp.py;exact⟨as,.tuple h1 h2 h3 (by simpa using ra)⟩
 |.lst l,v,u,h,r=>by
  rw[Rep.bT] at h;obtain⟨p,xs,rfl,q,w⟩:=h;cases (show u=Value.ref p from r);obtain⟨bC,v1,t1,_⟩:=I.list q;obtain⟨as,ra⟩:=qm I w v1;obtain⟨o,h1,h2,n,h3⟩:=t1.isList;unfold Dp.py;exact⟨_,.list h1 h2 h3 (by simpa using ra)⟩
theorem qm(I:Inv X pins σ H s):∀ {ds:List Dp} {vs:List V} {us:List YF},aw X.K H ds vs->Vals vs us->∃as,ReadsAll s.heap us (Dp.lW ds) as
 |[],_,_,h,r=>by rw[aw.aD] at h;subst h;cases r;unfold Dp.lW;exact⟨_,.nil⟩
 |d::ds,_,_,h,r=>by
  rw[aw.ar] at h;obtain⟨v,vs,rfl,x,y⟩:=h;cases r with
  |cons r1 r2=>
   obtain⟨a,ra⟩:=l9 I x r1;obtain⟨b,rb⟩:=qm I y r2;unfold Dp.lW;exact⟨_,.cons ra rb⟩
end
end
section
variable{X:Cx}
def Lv (K:Za) (neg:Bool):R2:=fun x y H Q=>∃d e,Rep K H d x/\Rep K H e y/\SeqAt.shaped d.py=true/\SeqAt.shaped e.py=true/\Q (.bl (if neg then !PyData.eqv d.py e.py else PyData.eqv d.py e.py)) H
theorem C7(hu:X.A.units+64<cLine):nX X (compareOp .Eq) (Lv X.K false):=by
 intro pins s σ H x y v u Q I rx ry h;obtain⟨d,e,h1,h2,s1,s2,q⟩:=h;obtain⟨as,ra⟩:=l9 I h1 rx;obtain⟨bs,rb⟩:=l9 I h2 ry;exact eq_dataH ra rb s1 s2 hu ⟨.bl (PyData.eqv d.py e.py),H,I,rfl,q⟩
theorem yR(hu:X.A.units+64<cLine):nX X (compareOp .NotEq) (Lv X.K true):=by
 intro pins s σ H x y v u Q I rx ry h;obtain⟨d,e,h1,h2,s1,s2,q⟩:=h;obtain⟨as,ra⟩:=l9 I h1 rx;obtain⟨bs,rb⟩:=l9 I h2 ry;exact ne_dataH ra rb s1 s2 hu ⟨.bl (!PyData.eqv d.py e.py),H,I,rfl,q⟩
end
mutual
theorem eqv_refl:∀d:Dp,PyData.eqv d.py d.py=true
 |.f9=>rfl
 |.bl b=>by simp[Dp.py,PyData.eqv]
 |.int i=>by simp[Dp.py,PyData.eqv]
 |.str x=>by simp[Dp.py,PyData.eqv]
 |.tup l=>by simp only[Dp.py,PyData.eqv];exact qo l
 |.lst l=>by simp only[Dp.py,PyData.eqv];exact qo l
theorem qo:∀l:List Dp,PyData.eqvAll (Dp.lW l) (Dp.lW l)=true
 |[]=>rfl
 |d::r=>by simp only[Dp.lW,PyData.eqvAll,eqv_refl d,qo r,Bool.and_true]
end
theorem aq{t u:TS}{D:Ends}{σ:St}{H:Hp}(h:∀U:St->Hp->Prop,(∀σ' H',U σ' H'↔u D σ' H')->t {D with nx:=U} σ H):EX t u D σ H:=h (u D) fun _ _=>Iff.rfl
theorem C8{A:YQ}{k:Nat}(hr:jr k A):A.units+64<cLine:=hr.units
end L2
namespace L2
open PySem
theorem xv{ta:TA}{g:TG}{tb:TS}{D:Ends}{σ:St}{H:Hp} (h:∀U:Int->Hp->Prop,(∀j H1,(∃W:Nat->Nat->St->Hp->Prop,(∃m,W 0 m σ H1)/\∀i m σ H,W i m σ H->
 ((A9 0 j.toNat).stop i H/\D.nx σ H)\/((A9 0 j.toNat).go i H/\∃N:St->Hp->Prop,(∀σ' H',N σ' H'->∃m',m'<m/\W (i+1) m' σ' H')/\∀x H',(A9 0 j.toNat).A8 i H x H'->g x σ H' fun σ2 H2=>tb {D with nx:=N,ct:=N,bk:=D.nx} σ2 H2))->U j H1)->
 ta σ H fun vs H1=>∃j:Int,vs=[.int j]/\-(2 ^ 62)<=j/\j<2 ^ 62/\U j H1):Cg (zF ta) g tb D σ H:=h _ fun _ _ x=>x
def Aa (K:Za):Sp:=fun vs H Q _=>∃(a:YE) (ns:List Int),vs=[.ref a]/\gX K H a (ns.map .int)/\ns.length<=63/\∀H',Q (.bl true) H'
theorem GA(ns:List Int)(h:ns.length<=63):cO (ns.map V.int) none (some 63)=ns.map V.int:=by
 unfold cO;rw[HT.ke,show (63:Int)=((63:Nat):Int) from rfl,HT.ni,Zb,XJ,W5];exact Xl (by rw[Zb];lia)
theorem eY{X:Cx}:jl X (.type "int") (fun xs H Q=>∃b:Bool,xs=[.bl b]/\Q (.int (if b then 1 else 0)) H):=by
 intro pins s σ H xs us Q I r h;obtain⟨b,rfl,q⟩:=h;obtain⟨u,rfl,ru⟩:=vals1 r;cases (show u=Value.bool b from ru);exact PySem.call_int_bool ⟨.int (if b then 1 else 0),H,I.tok _,⟨_,rfl⟩,q⟩
open PyProof.Rows PySem.Spec
def Lw (K:Za) (n:Nat) (t:Kn):TG:=fun v σ H Q=>∃a xs,v=.ref a/\gX K H a xs/\xs.length=n/\t xs σ H Q
open PySem.SeqAt
theorem qp{X:Cx}(hu:X.A.units+1<cLine):nX X (compareOp .NotEq) (fun x y H Q=>∃a b xs,x=.ref a/\y=.ref b/\gX X.K H a xs/\gX X.K H b []/\Q (.bl (!xs.isEmpty)) H):=by
 intro pins s σ H x y v u Q I rx ry h;obtain⟨a,b,xs,rfl,rfl,h1,h2,q⟩:=h;cases (show v=Value.ref a from rx);cases (show u=Value.ref b from ry);obtain⟨bC,v1,p1,_⟩:=I.list h1;obtain⟨its',v2,p2,_⟩:=I.list h2;cases v2;cases xs with
 |nil=>
  cases v1;exact(RcNeAt.lists (e:=fun _=>true) p1.isList p2.isList rfl (by lia) (fun j h1=>absurd h1 (by simp))) _ _ _ _ ⟨.bl false,H,I,rfl,q⟩
 |cons z zs=>
  cases v1;exact(RcNeAt.lists_lengths p1.isList p2.isList (by simp) (by lia)) _ _ _ _ ⟨.bl true,H,I,rfl,q⟩
def oC (val:W->Int):PM.Tr->Int
 |.num n=>n
 |.box x=>val x
 |.bin o l r=>if o=[43] then oC val l+oC val r else if o=[45] then oC val l-oC val r else oC val l*oC val r
theorem eJ{K:Za}{tl:TE}{g:TG}{tb:TS}{D:Ends}{σ:St}{H:Hp} (h:∀U:YE->Hp->Prop,(∀a H1,(∃W:Nat->Nat->St->Hp->Prop,(∃m,W 0 m σ H1)/\∀i m σ H,W i m σ H->
 ((qe K a).stop i H/\D.nx σ H)\/((qe K a).go i H/\∃N:St->Hp->Prop,(∀σ' H',N σ' H'->∃m',m'<m/\W (i+1) m' σ' H')/\∀x H',(qe K a).A8 i H x H'->g x σ H' fun σ2 H2=>tb {D with nx:=N,ct:=N,bk:=D.nx} σ2 H2))->U a H1)->
 tl σ H fun x H1=>∃a,x=.ref a/\(∃xs,gX K H1 a xs)/\U a H1):Cg (zE K tl) g tb D σ H:=h _ fun _ _ x=>x
theorem Ab{a:Option V}{r:St}{H:Hp}{Q:VK}:(gz 10 (a::r) H Q)=(gz 9 r H Q):=rfl
theorem Ac{a:Option V}{r:St}{H:Hp}{Q:VK}:(gz 11 (a::r) H Q)=(gz 10 r H Q):=rfl
theorem Ae{a:Option V}{r:St}{H:Hp}{Q:VK}:(gz 12 (a::r) H Q)=(gz 11 r H Q):=rfl
def ON (z:Str):Prop:=PM.OM z.cps.toList
theorem ON.one{a:Str}(ha:ON a){c:Nat}(hc:c∈a.cps.toList):ON ⟨#[c]⟩:=fun x hx=>by
 have:x=c:=by simpa using hx
 rw[this];exact ha c hc
theorem u6{X:Cx}(hu:X.A.units+1<cLine):nX X (compareOp .Eq) (fun x y H Q=>∃a b xs,x=.ref a/\y=.ref b/\gX X.K H a xs/\gX X.K H b []/\Q (.bl xs.isEmpty) H):=by
 intro pins s σ H x y v u Q I rx ry h;obtain⟨a,b,xs,rfl,rfl,h1,h2,q⟩:=h;cases (show v=Value.ref a from rx);cases (show u=Value.ref b from ry);obtain⟨bC,v1,p1,_⟩:=I.list h1;obtain⟨its',v2,p2,_⟩:=I.list h2;cases v2;cases xs with
 |nil=>
  cases v1;exact(RcAt.lists (e:=fun _=>true) p1.isList p2.isList rfl (by lia) (fun j h1=>absurd h1 (by simp))) _ _ _ _ ⟨.bl true,H,I,rfl,q⟩
 |cons z zs=>
  cases v1;exact(RcAt.lists_lengths p1.isList p2.isList (by simp) (by lia)) _ _ _ _ ⟨.bl false,H,I,rfl,q⟩
theorem Ly{K:Za}:ZZ K (.type "tuple") (.type "tuple")=some true:=by unfold ZZ;rw[if_pos (beq_self_eq_true _)]
end L2
namespace PG
open PM (W Tr)
structure eK where
 name:W
 size:Int
 first:Int
inductive aF where
 |ask (k:Int) (b:W)
 |put (k:Int) (b:W) (e:Tr)
 |say (k:Int) (e:Tr)
 |bH (k:Int) (sg:W) (l r:Tr)
 |stop (k:Int)
 |ifs (k:Int) (sg:W) (l r:Tr) (a b:List aF)
 |cZ (k:Int) (sg:W) (l r:Tr) (a:List aF)
def aF.row:aF->Int
 |.ask k _=>k |.put k _ _=>k |.say k _=>k |.bH k _ _ _=>k |.stop k=>k |.ifs k _ _ _ _ _=>k |.cZ k _ _ _ _=>k
inductive Wd where
 |ask |put |say |bH |stop |ifs |cZ |JK |fin
 deriving DecidableEq
def aF.wd:aF->Wd
 |.ask _ _=>.ask |.put _ _ _=>.put |.say _ _=>.say |.bH _ _ _ _=>.bH |.stop _=>.stop |.ifs _ _ _ _ _ _=>.ifs |.cZ _ _ _ _ _=>.cZ
def Lz:Nat->Int->Int
 |0,c=>c
 |n+1,c=>Lz n (c/1000003)
def next (sc:List Int) (p:Nat):Int:=
 let many:=max 1 sc.length
 let cell:=if sc=[] then 0 else sc.getD (p%many) 0
 if cell ≥ 10 ^ 18 then Lz (min 60 (p/many)) cell%1000003 else
  let a:=(cell%2147483629+51437*((p:Int)+1)*((p:Int)+3)+1409)%2147483629
  let b:=a*a%2147483587
  let c:=(b*69621+401*(p:Int)+7)%2147483579
  c*c%2147483563/16
def pick {α:Type} (d:α) (l:List α) (n:Int):α:=l.getD n.toNat d
def ud (sc:List Int) (bs:List eK):Nat->Nat->Tr×Nat
 |0,p=>
  let kind:=next sc p%7
  if bs≠[]/\kind<5 then (.box (pick ⟨[],0,0⟩ bs (next sc (p+1)%bs.length)).name,p+2) else (.num (next sc (p+1)%pick 1 [3,12,1000] (next sc (p+2)%3)),p+3)
 |d+1,p=>
  let kind:=next sc p%7
  if kind<3 then
   let one:=ud sc bs d (p+1)
   let two:=ud sc bs d one.2
   (.bin (pick [] [[43],[45],[42]] kind) one.1 two.1,two.2)
  else if bs≠[]/\kind<5 then (.box (pick ⟨[],0,0⟩ bs (next sc (p+1)%bs.length)).name,p+2) else (.num (next sc (p+1)%pick 1 [3,12,1000] (next sc (p+2)%3)),p+3)
def C9:List W:=[[99],[98,98],[97,97,97],[98,111,120,101,115]]
def sF (sc:List Int) (LA:Int):Nat->Nat->Nat->List eK×Nat
 |0,_,p=>([],p)
 |n+1,k,p=>
  let size:=2+next sc p%3
  let r:=sF sc LA n (k+1) (p+2)
  (⟨pick [] C9 (((k:Int)-LA)%4),size,next sc (p+1)%size⟩::r.1,r.2)
def px:List W:=[[60],[61]]
def Dc (sc:List Int) (bs:List eK) (k:Int) (p:Nat):aF×Nat:=
 let kind:=next sc p%10
 if bs≠[]/\kind<3 then (.ask k (pick ⟨[],0,0⟩ bs (next sc (p+1)%bs.length)).name,p+2)
 else if bs≠[]/\kind<6 then
  let e:=ud sc bs 2 (p+2)
  (.put k (pick ⟨[],0,0⟩ bs (next sc (p+1)%bs.length)).name e.1,e.2)
 else if kind=6 then
  let l:=ud sc bs 1 (p+2)
  let r:=ud sc bs 1 l.2
  (.bH k (pick [] px (next sc (p+1)%2)) l.1 r.1,r.2)
 else if kind=7 then
  if next sc (p+1)%3=0 then (.stop k,p+2) else
   let e:=ud sc bs 2 (p+2)
   (.say k e.1,e.2)
 else
  let e:=ud sc bs 2 (p+1)
  (.say k e.1,e.2)
structure Frame where
 kind:Nat
 body:List aF
 k:Int:=0
 sg:W:=[]
 l:Tr:=.num 0
 r:Tr:=.num 0
 first:List aF:=[]
def Frame.told (f:Frame):aF:=if f.kind=1 then .ifs f.k f.sg f.l f.r f.body [] else if f.kind=2 then .ifs f.k f.sg f.l f.r f.first f.body else .cZ f.k f.sg f.l f.r f.body
def close:List Frame->List Frame
 |f::g::r=>{g with body:=g.body++[f.told]}::r
 |fs=>fs
abbrev Row:=Int×Wd
def number (n:Nat) (rows:List Row) (mode:Int):Int:=
 if mode=2 then n+1+20*rows.length else if mode=3 then n+1+(rows.filter fun r=>r.2≠.JK/\r.2≠.fin).length else n+1+rows.length
structure Walk where
 p:Nat
 kh:List Frame
 rows:List Row
def turn (sc:List Int) (bs:List eK) (mode:Int) (w:Walk):Walk:=
 let k:=number bs.length w.rows mode
 let way:=next sc w.p%12
 if way<2/\w.kh.length>1 then ⟨w.p+1,close w.kh,w.rows++[(k,.fin)]⟩
 else match w.kh with
 |[]=>w
 |f::r=>
  if way=2/\f.kind=1 then ⟨w.p+1,{f with kind:=2,body:=[],first:=f.body}::r,w.rows++[(k,.JK)]⟩
  else if way<6/\w.kh.length<4 then
   let l:=ud sc bs 1 (w.p+2)
   let e:=ud sc bs 1 l.2
   let kd:=pick 1 [1,1,3] (way%3)
   ⟨e.2,{kind:=kd,body:=[],k:=k,sg:=pick [] px (next sc (w.p+1)%2),l:=l.1,r:=e.1}::w.kh,w.rows++[(k,if kd=3 then .cZ else .ifs)]⟩
  else
   let s:=Dc sc bs k (w.p+1)
   ⟨s.2,{f with body:=f.body++[s.1]}::r,w.rows++[(k,s.1.wd)]⟩
def turns (sc:List Int) (bs:List eK) (mode:Int):Nat->Walk->Walk
 |0,w=>w
 |n+1,w=>turns sc bs mode n (turn sc bs mode w)
def ends (n:Nat) (mode:Int):Nat->Walk->Walk
 |0,w=>w
 |m+1,w=>if w.kh.length>1 then ends n mode m ⟨w.p,close w.kh,w.rows++[(number n w.rows mode,.fin)]⟩ else w
structure Prog where
 aS:List eK
 body:List aF
def Af (sc:List Int) (many:Nat) (p:Nat):Prog×List Row:=
 let bs:=sF sc (next sc p%4) (next sc (p+1)%4).toNat 0 (p+2)
 let w:=ends bs.1.length (next sc bs.2%4) 4 (turns sc bs.1 (next sc bs.2%4) many ⟨bs.2+1,[{kind:=0,body:=[]}],[]⟩)
 (⟨bs.1,(w.kh.head?.map (·.body)).getD []⟩,w.rows)
end PG
namespace PG
open PM (W Tr)
mutual
def cK:aF->List Row
 |.ifs k _ _ _ a b=>(k,.ifs)::(fI a++fI b)
 |.cZ k _ _ _ a=>(k,.cZ)::fI a
 |.ask k _=>[(k,.ask)]
 |.put k _ _=>[(k,.put)]
 |.say k _=>[(k,.say)]
 |.bH k _ _ _=>[(k,.bH)]
 |.stop k=>[(k,.stop)]
def fI:List aF->List Row
 |[]=>[]
 |s::r=>cK s++fI r
end
end PG
namespace PG
open PM (W Tr)
abbrev jR:=Int×Wd×List Int
def fO:List aF->Int->Int
 |[],x=>x
 |s::_,_=>s.row
mutual
def gQ:aF->Int->List jR
 |.ifs k _ _ _ a b,x=>(k,.ifs,[fO a x,fO b x])::(cA a x++cA b x)
 |.cZ k _ _ _ a,x=>(k,.cZ,[fO a k,x])::cA a k
 |.ask k _,x=>[(k,.ask,[x])]
 |.put k _ _,x=>[(k,.put,[x])]
 |.say k _,x=>[(k,.say,[x])]
 |.bH k _ _ _,x=>[(k,.bH,[x])]
 |.stop k,_=>[(k,.stop,[0])]
def cA:List aF->Int->List jR
 |[],_=>[]
 |s::r,x=>gQ s (fO r x)++cA r x
end
mutual
theorem Bp:∀(s:aF) (x:Int),(gQ s x).map (fun r=>(r.1,r.2.1))=cK s
 |.ifs k _ _ _ a b,x=>by simp[gQ,cK,ki a x,ki b x]
 |.cZ k _ _ _ a,x=>by simp[gQ,cK,ki a k]
 |.ask k _,x=>rfl
 |.put k _ _,x=>rfl
 |.say k _,x=>rfl
 |.bH k _ _ _,x=>rfl
 |.stop k,_=>rfl
theorem ki:∀(b:List aF) (x:Int),(cA b x).map (fun r=>(r.1,r.2.1))=fI b
 |[],_=>rfl
 |s::r,x=>by simp[cA,fI,Bp s _,ki r x]
end
inductive Tg where
 |row (k:Int) |side (k:Int) (b:Bool) |bH (k:Int) |fin
 deriving DecidableEq
end PG
namespace PG
open PM (W Tr)
mutual
def GB:aF->List Row->Prop
 |.ifs k _ _ _ a b,rs=>(∃ra n,k8 a ra/\b=[]/\rs=(k,.ifs)::(ra++[(n,.fin)]))\/(∃ra rb n m,k8 a ra/\k8 b rb/\rs=(k,.ifs)::(ra++(n,.JK)::(rb++[(m,.fin)])))
 |.cZ k _ _ _ a,rs=>∃ra n,k8 a ra/\rs=(k,.cZ)::(ra++[(n,.fin)])
 |.ask k _,rs=>rs=[(k,.ask)]
 |.put k _ _,rs=>rs=[(k,.put)]
 |.say k _,rs=>rs=[(k,.say)]
 |.bH k _ _ _,rs=>rs=[(k,.bH)]
 |.stop k,rs=>rs=[(k,.stop)]
def k8:List aF->List Row->Prop
 |[],rs=>rs=[]
 |s::r,rs=>∃r1 r2,GB s r1/\k8 r r2/\rs=r1++r2
end
theorem k8.one{s:aF}{rs:List Row}(h:GB s rs):k8 [s] rs:=by
 rw[k8];exact⟨rs,[],h,by rw[k8],by simp⟩
theorem k8.nil:k8 [] []:=by rw[k8]
def qN (n:Nat) (w:Walk):Prop:=(∀f∈w.kh,f.body.length<=n)/\w.rows.length<=n
theorem Dd(sc:List Int)(bs:List eK)(mode:Int){n:Nat}{w:Walk}(h:qN n w):qN (n+1) (turn sc bs mode w):=by
 obtain⟨p,kh,rows⟩:=w;obtain⟨h1,h2⟩:=h;simp only at h1 h2;have up:∀f∈kh,f.body.length<=n+1:=fun f hf=>XI (h1 f hf);have cl:∀l:List Frame,(∀f∈l,f.body.length<=n)->∀f∈close l,f.body.length<=n+1:=by
  intro l hl f hf
  match l,hl,hf with
  |[],_,hf=>cases hf
  |[x],hl,hf=>exact XI (hl f hf)
  |x::y::r,hl,hf=>
   rcases Zf.mp hf with rfl |hf
   ·simp;have:=hl y (by simp);lia
   ·exact XI (hl f (by simp[hf]))
 unfold turn;simp only;split
 ·exact⟨cl kh h1,by simp;lia⟩
 ·cases kh with
  |nil=>exact⟨up,by simp only;lia⟩
  |cons f r=>
   simp only;split
   ·refine⟨fun x hx=>?_,by simp;lia⟩;rcases Zf.mp hx with rfl |hx
    ·simp
    ·exact up x (by simp[hx])
   ·split
    ·refine⟨fun x hx=>?_,by simp;lia⟩;rcases Zf.mp hx with rfl |hx
     ·simp
     ·exact up x hx
    ·refine⟨fun x hx=>?_,by simp;lia⟩;rcases Zf.mp hx with rfl |hx
     ·have:=h1 f (by simp);simp;lia
     ·exact up x (by simp[hx])
theorem Bq{n:Nat}{w:Walk}(h:qN n w)(k:Int):qN (n+1) ⟨w.p,close w.kh,w.rows++[(k,.fin)]⟩:=by
 obtain⟨h1,h2⟩:=h;refine⟨?_,by simp;lia⟩;intro f hf;obtain⟨p,kh,rows⟩:=w;simp only at h1 hf
 match kh,h1,hf with
 |[],_,hf=>cases hf
 |[x],hl,hf=>exact XI (hl f hf)
 |x::y::r,hl,hf=>
  rcases Zf.mp hf with rfl |hf
  ·have:=hl y (by simp);simp;lia
  ·exact XI (hl f (by simp[hf]))
mutual
def cU:aF->Nat
 |.ifs _ _ _ _ a b=>max (bA a) (bA b)+1
 |.cZ _ _ _ _ a=>bA a+1
 |_=>0
def bA:List aF->Nat
 |[]=>0
 |s::r=>max (cU s) (bA r)
end
theorem pz:∀a b:List aF,bA (a++b)=max (bA a) (bA b)
 |[],b=>by simp[bA]
 |s::r,b=>by
  show bA (s::(r++b))=_;rw[bA,bA,pz r b,Nat.max_assoc]
end PG
namespace PG
open PM (W Tr)
section
variable(nm:W->Prop)(ex:Tr->Prop)(sg:W->Prop)
mutual
def xw:aF->Prop
 |.ask _ b=>nm b
 |.put _ b e=>nm b/\ex e
 |.say _ e=>ex e
 |.bH _ s l r=>sg s/\ex l/\ex r
 |.stop _=>True
 |.ifs _ s l r a b=>sg s/\ex l/\ex r/\Ag a/\Ag b
 |.cZ _ s l r a=>sg s/\ex l/\ex r/\Ag a
def Ag:List aF->Prop
 |[]=>True
 |s::r=>xw s/\Ag r
end
end
section
variable{nm:W->Prop}{ex:Tr->Prop}{sg:W->Prop}
section
end
end
def cB:Tr->Nat
 |.bin _ l r=>max (cB l) (cB r)+1
 |_=>0
theorem u9(sc:List Int)(bs:List eK)(mode:Int):∀(n m:Nat) {w:Walk},qN m w->qN (m+n) (turns sc bs mode n w)
 |0,m,_,h=>h
 |n+1,m,_,h=>by
  have:=u9 sc bs mode n (m+1) (Dd sc bs mode h);rw[show m+(n+1)=m+1+n by lia];exact this
theorem xx(n:Nat)(mode:Int):∀(k m:Nat) {w:Walk},qN m w->(ends n mode k w).rows.length<=m+k
 |0,m,w,h=>h.2
 |k+1,m,w,h=>by
  unfold ends;split
  ·have:=xx n mode k (m+1) (Bq h (number n w.rows mode));lia
  ·have:=h.2;lia
theorem sI(sc:List Int)(many p:Nat):(Af sc many p).2.length<=many+4:=by
 unfold Af;simp only;generalize sF sc (next sc p%4) (next sc (p+1)%4).toNat 0 (p+2)=bs;have h0:qN 0 ⟨bs.2+1,[{kind:=0,body:=[]}],[]⟩:=⟨fun f hf=>by rw[Zh.mp hf];exact Zn _,Zn _⟩
 have:=xx bs.1.length (next sc bs.2%4) 4 _ (u9 sc bs.1 (next sc bs.2%4) many 0 h0);lia
end PG
namespace PG
open PM (W Tr)
inductive Mt where
 |op (JK fin:Option Nat)
 |back (i:Nat)
 deriving DecidableEq
abbrev Mm:=Nat->Option Mt
def Mm.set (m:Mm) (i:Nat) (x:Mt):Mm:=fun j=>if j=i then some x else m j
end PG
namespace PG
open PM (W Tr)
def to (R:List Row) (m:Mm) (p:Nat):Int:=
 if h:p<R.length then
  match (R[p]).2 with
  |.JK=>match m p with
   |some (.back o)=>match m o with
    |some (.op _ (some e))=>if he:p<=e then to R m (e+1) else 0
    |_=>0
   |_=>0
  |.fin=>match m p with
   |some (.back o)=>match R[o]? with
    |some (k,.cZ)=>k
    |_=>to R m (p+1)
   |_=>0
  |_=>(R[p]).1
 else 0
termination_by R.length-p
decreasing_by all_goals lia
def At (R:List Row) (i:Nat) (rs:List Row):Prop:=∀j,j<rs.length->R[i+j]?=rs[j]?
theorem At.head{R:List Row}{i:Nat}{x:Row}{b:List Row}(h:At R i (x::b)):R[i]?=some x:=by
 have:=h 0 (by simp);simpa using this
end PG
namespace PG
open PM (W Tr)
mutual
def aP:aF->List aF
 |.ifs k sg l r a b=>.ifs k sg l r a b::(aA a++aA b)
 |.cZ k sg l r a=>.cZ k sg l r a::aA a
 |s=>[s]
def aA:List aF->List aF
 |[]=>[]
 |s::r=>aP s++aA r
end
mutual
theorem Br:∀s:aF,(aP s).map (fun x=>(x.row,x.wd))=cK s
 |.ifs k sg l r a b=>by
  rw[aP,cK,ZD,Zl,iP a,iP b];rfl
 |.cZ k sg l r a=>by
  rw[aP,cK,ZD,iP a];rfl
 |.ask k _=>rfl
 |.put k _ _=>rfl
 |.say k _=>rfl
 |.bH k _ _ _=>rfl
 |.stop k=>rfl
theorem iP:∀b:List aF,(aA b).map (fun x=>(x.row,x.wd))=fI b
 |[]=>rfl
 |s::r=>by simp[aA,fI,Br s,iP r]
end
end PG
namespace PG
open PM (W Tr)
section
variable{nm:W->Prop}{ex:Tr->Prop}{sg:W->Prop}
mutual
theorem Fw:∀(s x:aF),xw nm ex sg s->x∈aP s->xw nm ex sg x
 |.ifs k s l r a b,x,h,m=>by
  rw[aP] at m;rcases Zf.mp m with rfl |m
  ·exact h
  ·rw[xw] at h;rcases Zg.mp m with m |m
   ·exact kK a x h.2.2.2.1 m
   ·exact kK b x h.2.2.2.2 m
 |.cZ k s l r a,x,h,m=>by
  rw[aP] at m;rcases Zf.mp m with rfl |m
  ·exact h
  ·rw[xw] at h;exact kK a x h.2.2.2 m
 |.ask k b,x,h,m=>by simp only[aP,Zh] at m;subst m;exact h
 |.put k b e,x,h,m=>by simp only[aP,Zh] at m;subst m;exact h
 |.say k e,x,h,m=>by simp only[aP,Zh] at m;subst m;exact h
 |.bH k s l r,x,h,m=>by simp only[aP,Zh] at m;subst m;exact h
 |.stop k,x,h,m=>by simp only[aP,Zh] at m;subst m;exact h
theorem kK:∀(b:List aF) (x:aF),Ag nm ex sg b->x∈aA b->xw nm ex sg x
 |[],x,_,m=>by simp[aA] at m
 |s::r,x,h,m=>by
  rw[aA] at m;rw[Ag] at h;rcases Zg.mp m with m |m
  ·exact Fw s x h.1 m
  ·exact kK r x h.2 m
end
end
end PG
namespace PG
open PM (W Tr)
def jE (bs:List eK):Tr->Prop
 |.num n=>0<=n/\n<1000
 |.box x=>x∈bs.map (·.name)
 |.bin o l r=>o∈([[43],[45],[42]]:List W)/\jE bs l/\jE bs r
end PG
namespace PG
def kL (r:jR):Prop:=0<r.2.2.length/\(r.2.1=.ifs\/r.2.1=.cZ->1<r.2.2.length)
mutual
theorem Bs:∀(s:aF) (x:Int),∀r∈gQ s x,kL r
 |.ifs k sg l r a b,x,y,h=>by
  rw[gQ] at h;simp only[Zf,Zg] at h;rcases h with rfl |h |h
  ·simp[kL]
  ·exact kl a x y h
  ·exact kl b x y h
 |.cZ k sg l r a,x,y,h=>by
  rw[gQ] at h;simp only[Zf] at h;rcases h with rfl |h
  ·simp[kL]
  ·exact kl a k y h
 |.ask k _,x,y,h=>by simp[gQ] at h;subst h;simp[kL]
 |.put k _ _,x,y,h=>by simp[gQ] at h;subst h;simp[kL]
 |.say k _,x,y,h=>by simp[gQ] at h;subst h;simp[kL]
 |.bH k _ _ _,x,y,h=>by simp[gQ] at h;subst h;simp[kL]
 |.stop k,x,y,h=>by simp[gQ] at h;subst h;simp[kL]
theorem kl:∀(b:List aF) (x:Int),∀r∈cA b x,kL r
 |[],x,y,h=>by simp[cA] at h
 |s::r,x,y,h=>by
  rw[cA,Zg] at h;rcases h with h |h
  ·exact Bs s _ y h
  ·exact kl r x y h
end
end PG
namespace PG
theorem ma:∀(b:List aF) (x:Int),fO b x=x\/∃t∈aA b,t.row=fO b x
 |[],x=>.inl rfl
 |s::r,x=>.inr ⟨s,by rw[aA];exact ZU _ (by cases s<;>simp[aP]),rfl⟩
mutual
theorem De:∀(s:aF) (x:Int),∀r∈gQ s x,∀w∈r.2.2,w=0\/w=x\/∃t∈aP s,t.row=w
 |.ifs k sg l r a b,x,y,h,w,hw=>by
  rw[gQ] at h;simp only[Zf,Zg] at h;rw[aP];rcases h with rfl |h |h
  ·simp only[Zf,List.mem_nil_iff,or_false] at hw;rcases hw with rfl |rfl
   ·rcases ma a x with e |⟨t,ht,e⟩
    ·exact .inr (.inl e)
    ·exact .inr (.inr ⟨t,by simp[ht],e⟩)
   ·rcases ma b x with e |⟨t,ht,e⟩
    ·exact .inr (.inl e)
    ·exact .inr (.inr ⟨t,by simp[ht],e⟩)
  ·rcases mf a x y h w hw with e |e |⟨t,ht,e⟩
   ·exact .inl e
   ·exact .inr (.inl e)
   ·exact .inr (.inr ⟨t,by simp[ht],e⟩)
  ·rcases mf b x y h w hw with e |e |⟨t,ht,e⟩
   ·exact .inl e
   ·exact .inr (.inl e)
   ·exact .inr (.inr ⟨t,by simp[ht],e⟩)
 |.cZ k sg l r a,x,y,h,w,hw=>by
  rw[gQ] at h;simp only[Zf] at h;rw[aP];have self:w=k->∃t∈(aF.cZ k sg l r a::aA a),t.row=w:=fun e=>⟨_,Zt ..,e.symm⟩
  rcases h with rfl |h
  ·simp only[Zf,List.mem_nil_iff,or_false] at hw;rcases hw with rfl |rfl
   ·rcases ma a k with e |⟨t,ht,e⟩
    ·exact .inr (.inr (self e))
    ·exact .inr (.inr ⟨t,by simp[ht],e⟩)
   ·exact .inr (.inl rfl)
  ·rcases mf a k y h w hw with e |e |⟨t,ht,e⟩
   ·exact .inl e
   ·exact .inr (.inr (self e))
   ·exact .inr (.inr ⟨t,by simp[ht],e⟩)
 |.ask k _,x,y,h,w,hw=>by simp[gQ] at h;subst h;simp at hw;exact .inr (.inl hw)
 |.put k _ _,x,y,h,w,hw=>by simp[gQ] at h;subst h;simp at hw;exact .inr (.inl hw)
 |.say k _,x,y,h,w,hw=>by simp[gQ] at h;subst h;simp at hw;exact .inr (.inl hw)
 |.bH k _ _ _,x,y,h,w,hw=>by simp[gQ] at h;subst h;simp at hw;exact .inr (.inl hw)
 |.stop k,x,y,h,w,hw=>by simp[gQ] at h;subst h;simp at hw;exact .inl hw
theorem mf:∀(b:List aF) (x:Int),∀r∈cA b x,∀w∈r.2.2,w=0\/w=x\/∃t∈aA b,t.row=w
 |[],x,y,h,_,_=>by simp[cA] at h
 |s::r,x,y,h,w,hw=>by
  rw[cA,Zg] at h;rw[aA];rcases h with h |h
  ·rcases De s _ y h w hw with e |e |⟨t,ht,e⟩
   ·exact .inl e
   ·rcases ma r x with e2 |⟨t,ht,e2⟩
    ·exact .inr (.inl (e.trans e2))
    ·exact .inr (.inr ⟨t,Zz _ ht,e2.trans e.symm⟩)
   ·exact .inr (.inr ⟨t,ZU _ ht,e⟩)
  ·rcases mf r x y h w hw with e |e |⟨t,ht,e⟩
   ·exact .inl e
   ·exact .inr (.inl e)
   ·exact .inr (.inr ⟨t,Zz _ ht,e⟩)
end
def Fx (b:List aF) (row:Int):Nat:=(aA b).findIdx (fun s=>s.row==row)
theorem Ah{b:List aF}(pw:(aA b).Pairwise (fun a b=>a.row<b.row))(i:Nat)(hi:i<(aA b).length):Fx b (aA b)[i].row=i:=by
 unfold Fx;rw[List.findIdx_eq hi];refine⟨by simp,fun j hj=>?_⟩;have:=XO.mp pw j i (by lia) hi hj;simp only[beq_eq_false_iff_ne,ne_eq];lia
inductive jF where
 |on |out |bH (row:Int) |fin
deriving DecidableEq
structure Rq where
 rows:List Int
 OP:List Int
 fin:jF
section
variable(ask:Int->Bool)(step:Int->List Int->Int->Option (Int×List Int)×Option Int)
def take1 (a:Bool) (iQ:List Int):Option (Int×List Int):=if a then (match iQ with |[]=>none |f::r=>some (f,r)) else some (0,iQ)
end
end PG
namespace L2
open PySem
def Ai:PG.Wd->Str
 |.ask=>"ask" |.put=>"put" |.say=>"say" |.bH=>"must" |.stop=>"stop" |.ifs=>"if" |.cZ=>"while" |.JK=>"else" |.fin=>"end"
mutual
def bp:PG.aF->Dp
 |.ask k b=>.tup [.str "ask",.int k,.str (S b)]
 |.put k b e=>.tup [.str "put",.int k,.str (S b),cR e]
 |.say k e=>.tup [.str "say",.int k,cR e]
 |.bH k sg l r=>.tup [.str "must",.int k,.str (S sg),cR l,cR r]
 |.stop k=>.tup [.str "stop",.int k]
 |.ifs k sg l r a b=>.tup [.str "if",.int k,.str (S sg),cR l,cR r,.lst (uf a),.lst (uf b)]
 |.cZ k sg l r a=>.tup [.str "while",.int k,.str (S sg),cR l,cR r,.lst (uf a)]
def uf:List PG.aF->List Dp
 |[]=>[]
 |s::r=>bp s::uf r
end
theorem aI:∀l:List PG.aF,uf l=l.map bp
 |[]=>rfl
 |s::r=>by rw[uf,aI r];rfl
def gZ (b:PG.eK):Dp:=.tup [.str (S b.name),.int b.size,.int b.first]
def fF (p:PG.Prog):Dp:=.tup [.lst (p.aS.map gZ),.lst (p.body.map bp)]
def LC (r:PG.Row):Dp:=.lst [.int r.1,.str (Ai r.2)]
def LD:PG.Tg->Dp
 |.row k=>.tup [.str "row",.int k]
 |.side k b=>.tup [.str "side",.int k,.bl b]
 |.bH k=>.tup [.str "must",.int k]
 |.fin=>.tup [.str "end"]
def aE (O:YE->Prop) (H H':Hp):Prop:=∀b o,¬O b->H b=some o->H' b=some o
def Fix (K:Za) (O:YE->Prop) (H:Hp) (d:Dp) (v:V):Prop:=∀H',aE O H H'->Rep K H' d v
def aM (K:Za) (O:YE->Prop) (H:Hp) (ds:List Dp) (vs:List V):Prop:=∀H',aE O H H'->aw K H' ds vs
section
variable{K:Za}{O O':YE->Prop}{H H1 H2:Hp}{d:Dp}{ds:List Dp}{v:V}{vs:List V}{p:YE}{o:HO}
theorem aE.refl:aE O H H:=fun _ _ _ e=>e
theorem aE.trans(a:aE O H H1)(b:aE O H1 H2):aE O H H2:=fun c u n e=>b c u n (a c u n e)
theorem aE.of(s:ai H H1):aE O H H1:=fun b u _ e=>s b u e
theorem aE.mono(a:aE O H H1)(i:∀b,O b->O' b):aE O' H H1:=fun b u n e=>a b u (fun z=>n (i b z)) e
theorem aE.one(a:bw p H H1)(hp:O p):aE O H H1:=fun b u n e=>a b u (fun z=>n (by rw[z];exact hp)) e
theorem aE.put(a:aE O H H1)(hp:O p)(u:HO):aE O H (upd H1 p u):=fun b w n e=>by rw[aL (fun z=>n (by rw[z];exact hp))];exact a b w n e
theorem aE.new(a:aE O H H1)(hp:H1 p=none)(u:HO):aE O H (upd H1 p u):=fun b w n e=>by rw[aL (ao (a b w n e) hp)];exact a b w n e
theorem Fix.up(f:Fix K O H d v)(u:aE O H H1):Fix K O H1 d v:=fun H2 u2=>f H2 (u.trans u2)
theorem aM.up(f:aM K O H ds vs)(u:aE O H H1):aM K O H1 ds vs:=fun H2 u2=>f H2 (u.trans u2)
theorem Fix.rep(f:Fix K O H d v):Rep K H d v:=f H .refl
theorem aM.nK(f:aM K O H ds vs):aw K H ds vs:=f H .refl
theorem Fix.sub(f:Fix K O H d v)(i:∀b,O' b->O b):Fix K O' H d v:=fun H2 u=>f H2 (u.mono i)
theorem aM.sub(f:aM K O H ds vs)(i:∀b,O' b->O b):aM K O' H ds vs:=fun H2 u=>f H2 (u.mono i)
theorem aM.apart(f:aM K O H ds vs)(hp:H p=none):aM K (fun b=>O b\/b=p) (upd H p o) ds vs:=fun H2 u=>f H2 fun b w n e=>by
 have np:b≠p:=ao e hp;exact u b w (fun z=>z.elim n np) (by rw[aL np];exact e)
theorem aM.nil:aM K O H [] []:=fun _ _=>.nil
theorem aM.cons(a:Fix K O H d v)(b:aM K O H ds vs):aM K O H (d::ds) (v::vs):=fun H2 u=>.cons (a H2 u) (b H2 u)
theorem aM.snoc(b:aM K O H ds vs)(a:Fix K O H d v):aM K O H (ds++[d]) (vs++[v]):=fun H2 u=>(b H2 u).append (.cons (a H2 u) .nil)
theorem Fix.int{i:Int}:Fix K O H (.int i) (.int i):=fun _ _=>Rep.aB.mpr rfl
theorem Fix.str{x:Str}:Fix K O H (.str x) (.str x):=fun _ _=>Rep.au.mpr rfl
theorem Fix.tup(h:H p=some (.tup vs))(n:¬O p)(f:aM K O H ds vs):Fix K O H (.tup ds) (.ref p):=fun H2 u=>Rep.az.mpr ⟨p,vs,rfl,.of (u p _ n h),f H2 u⟩
theorem Fix.lst(h:H p=some (.lst vs))(n:¬O p)(f:aM K O H ds vs):Fix K O H (.lst ds) (.ref p):=fun H2 u=>Rep.bT.mpr ⟨p,vs,rfl,.of (u p _ n h),f H2 u⟩
end
structure Df(K:Za)(H:Hp)(D S:YE)(sc:List Int)(p:Nat):Prop where
 cy:H D=some (.lst [.ref S,.int p])
 yS:H S=some (.lst (sc.map .int))
 ne:S≠D
 len:sc.length<=63
end L2
namespace L2
open PySem
theorem Df.same{K:Za}{H H':Hp}{D S:YE}{sc:List Int}{p:Nat}(d:Df K H D S sc p)(s:ai H H'):Df K H' D S sc p:=⟨s _ _ d.cy,s _ _ d.yS,d.ne,d.len⟩
theorem gX.nJ{K:Za}{H H':Hp}{D a:YE}{xs:List V}(h:gX K H a xs)(u:bw D H H')(n:a≠D):gX K H' a xs:=by
 rcases h with (h |⟨o,h⟩) |h
 ·exact .inl (.inl (u _ _ n h))
 ·exact .inl (.inr ⟨o,u _ _ n h⟩)
 ·exact .inr h
theorem Aj{a:Option V}{r:St}{H:Hp}{Q:VK}:(gz 13 (a::r) H Q)=(gz 12 r H Q):=rfl
theorem Ak{a:Option V}{r:St}{H:Hp}{Q:VK}:(gz 14 (a::r) H Q)=(gz 13 r H Q):=rfl
def qO (K:Za) (O:YE->Prop) (H:Hp) (B:YE) (bs:List PG.eK):Prop:=Fix K O H (.lst (bs.map gZ)) (.ref B)/\bs.length<=10
def Own (K:Za) (H0 H:Hp) (d:Dp) (v:V):Prop:=∀O:YE->Prop,(∀b,O b->H0 b≠none)->Fix K O H d v
section
variable{K:Za}{O:YE->Prop}{H0 H H1:Hp}{d:Dp}{v:V}{D B:YE}{bs:List PG.eK}
theorem Own.up(f:Own K H0 H d v)(u:bw D H H1)(hD:H0 D≠none):Own K H0 H1 d v:=fun O hO=>by
 have:=f (fun b=>O b\/b=D) (fun b hb=>hb.elim (hO b) (fun e=>e▸hD));exact(this.up (aE.one u (.inr rfl))).sub fun b hb=>.inl hb
theorem Own.same(f:Own K H0 H d v)(s:ai H H1):Own K H0 H1 d v:=fun O hO=>(f O hO).up (.of s)
theorem Own.back{Rr:Hp}(f:Own K H0 H d v)(h:∀b,Rr b≠none->H0 b≠none):Own K Rr H d v:=fun O hO=>f O fun b hb=>h b (hO b hb)
theorem qO.up(f:qO K (·=D) H B bs)(u:bw D H H1):qO K (·=D) H1 B bs:=⟨f.1.up (aE.one u rfl),f.2⟩
theorem qO.same(f:qO K (·=D) H B bs)(s:ai H H1):qO K (·=D) H1 B bs:=⟨f.1.up (.of s),f.2⟩
theorem bw.jn(u:bw D H H1)(hD:H1 D≠none):∀b,H b≠none->H1 b≠none:=fun b hb=>by
 by_cases e:b=D
 ·rw[e];exact hD
 ·cases z:H b with
  |none=>exact absurd z hb
  |some o=>rw[u b o e z];simp
end
def a9 (K:Za) (H0 H:Hp) (ds:List Dp) (vs:List V):Prop:=∀O:YE->Prop,(∀b,O b->H0 b≠none)->aM K O H ds vs
section
variable{K:Za}{H0 H H1:Hp}{d:Dp}{v:V}{ds:List Dp}{vs:List V}{D p:YE}
theorem a9.nil:a9 K H0 H [] []:=fun _ _=>aM.nil
theorem a9.cons(a:Own K H0 H d v)(b:a9 K H0 H ds vs):a9 K H0 H (d::ds) (v::vs):=fun O h=>aM.cons (a O h) (b O h)
theorem Own.int{i:Int}:Own K H0 H (.int i) (.int i):=fun _ _=>Fix.int
theorem Own.str{x:Str}:Own K H0 H (.str x) (.str x):=fun _ _=>Fix.str
theorem a9.same(f:a9 K H0 H ds vs)(s:ai H H1):a9 K H0 H1 ds vs:=fun O hO=>(f O hO).up (.of s)
theorem gI(hp:H p=none)(jn:∀b,H0 b≠none->H b≠none)(f:a9 K H0 H ds vs):Own K H0 (upd H p (.tup vs)) (.tup ds) (.ref p):=fun O hO=>by
 have np:¬O p:=fun z=>jn p (hO p z) hp;exact Fix.tup af np ((f.same (ai.new hp _)) O hO)
end
theorem a9.up{K:Za}{H0 H H1:Hp}{ds:List Dp}{vs:List V}{D:YE}(f:a9 K H0 H ds vs)(u:bw D H H1)(hD:H0 D≠none):a9 K H0 H1 ds vs:=fun O hO=>by
 have:=f (fun b=>O b\/b=D) (fun b hb=>hb.elim (hO b) (fun e=>e▸hD));exact(this.up (aE.one u (.inr rfl))).sub fun b hb=>.inl hb
theorem a9.snoc{K:Za}{H0 H:Hp}{d:Dp}{v:V}{ds:List Dp}{vs:List V}(b:a9 K H0 H ds vs)(a:Own K H0 H d v):a9 K H0 H (ds++[d]) (vs++[v]):=fun O h=>aM.snoc (b O h) (a O h)
def TB:Nat->Str
 |0=>"all"
 |1=>"if"
 |2=>"else"
 |_=>"while"
structure jS(K:Za)(Oo:YE->Prop)(H:Hp)(f:PG.Frame)(a b:YE)(hd fi:V)(xs:List V):Prop where
 fr:H a=some (.lst [.str (TB f.kind),.ref b,hd,fi])
 bd:H b=some (.lst xs)
 ok:aM K Oo H (f.body.map bp) xs
 LF:f.kind≠0->∃c ys,hd=.ref c/\H c=some (.tup ys)/\¬Oo c/\aM K Oo H [.str (if f.kind=3 then "while" else "if"),.int f.k,.str (S f.sg),cR f.l,cR f.r] ys
 LG:f.kind=2->Fix K Oo H (.lst (f.first.map bp)) fi
 len:xs.length=f.body.length
abbrev Nm:=PG.Frame×YE×YE
def vd (D P R:YE) (jg:List Nm):List YE:=D::P::R::jg.flatMap fun x=>[x.2.1,x.2.2]
def O (D P R:YE) (jg:List Nm) (E:List YE):YE->Prop:=fun b=>b∈vd D P R jg\/b∈E
structure wV(K:Za)(H:Hp)(D S:YE)(sc:List Int)(p:Nat)(B:YE)(bs:List PG.eK)(P R:YE)(jg:List Nm)(rows:List PG.Row)(E:List YE):Prop where
 cy:Df K H D S sc p
 box:Fix K (O D P R jg E) H (.lst (bs.map gZ)) (.ref B)
 n8:bs.length<=10
 kh:H P=some (.lst (jg.reverse.map fun x=>.ref x.2.1))
 frames:∀x∈jg,∃hd fi xs,jS K (O D P R jg E) H x.1 x.2.1 x.2.2 hd fi xs
 rows:∃BY,H R=some (.lst BY)/\aM K (O D P R jg E) H (rows.map LC) BY/\BY.length=rows.length
 nd:(vd D P R jg).Nodup
 nS:S ∉ vd D P R jg
section
variable{K:Za}{H H':Hp}{D S B P R:YE}{sc:List Int}{p p':Nat}{bs:List PG.eK}{jg:List Nm}{rows:List PG.Row}{E E':List YE}
theorem jS.up{Oo:YE->Prop}{f:PG.Frame}{a b:YE}{hd fi:V}{xs:List V}(x:jS K Oo H f a b hd fi xs)(u:aE Oo H H')(ha:H' a=H a)(hb:H' b=H b):jS K Oo H' f a b hd fi xs:=
 ⟨ha.trans x.fr,hb.trans x.bd,x.ok.up u,fun z=>let ⟨c,ys,e,h,n,g⟩:=x.LF z;⟨c,ys,e,u _ _ n h,n,g.up u⟩,fun z=>(x.LG z).up u,x.len⟩
theorem jS.sub{O1 O2:YE->Prop}{f:PG.Frame}{a b:YE}{hd fi:V}{xs:List V}(x:jS K O1 H f a b hd fi xs)(i:∀c,O2 c->O1 c):jS K O2 H f a b hd fi xs:=
 ⟨x.fr,x.bd,x.ok.sub i,fun z=>let ⟨c,ys,e,h,n,g⟩:=x.LF z;⟨c,ys,e,h,fun w=>n (i c w),g.sub i⟩,fun z=>(x.LG z).sub i,x.len⟩
theorem wV.ne(s:wV K H D S sc p B bs P R jg rows E):D≠P/\D≠R/\P≠R/\∀x∈jg,x.2.1≠D/\x.2.2≠D/\x.2.1≠P/\x.2.2≠P/\x.2.1≠R/\x.2.2≠R:=by
 have nd:=s.nd;unfold vd at nd;rw[Z0,Z0,Z0] at nd;obtain⟨h1,h2,h3,h4⟩:=nd;simp only[Zf,not_or] at h1 h2;refine⟨h1.1,h1.2.1,h2.1,fun x hx=>?_⟩;have m1:x.2.1∈jg.flatMap fun x=>[x.2.1,x.2.2]:=W6.mpr ⟨x,hx,by simp⟩;have m2:x.2.2∈jg.flatMap fun x=>[x.2.1,x.2.2]:=W6.mpr ⟨x,hx,by simp⟩;exact⟨fun e=>h1.2.2 (e▸m1),fun e=>h1.2.2 (e▸m2),fun e=>h2.2 (e▸m1),fun e=>h2.2 (e▸m2),fun e=>h3 (e▸m1),fun e=>h3 (e▸m2)⟩
theorem wV.jn(s:wV K H D S sc p B bs P R jg rows E):∀b,b∈vd D P R jg->H b≠none:=fun b hb=>by
 unfold vd at hb;simp only[Zf,W6] at hb;rcases hb with rfl |rfl |rfl |⟨x,hx,hb⟩
 ·rw[s.cy.cy];simp
 ·rw[s.kh];simp
 ·obtain⟨BY,h,_⟩:=s.rows;rw[h];simp
 ·obtain⟨hd,fi,xs,fa⟩:=s.frames x hx;simp only[ZI,or_false] at hb;rcases hb with rfl |rfl
  ·rw[fa.fr];simp
  ·rw[fa.bd];simp
theorem wV.draw(s:wV K H D S sc p B bs P R jg rows E)(u:bw D H H')(dk:Df K H' D S sc p'):wV K H' D S sc p' B bs P R jg rows E:=by
 obtain⟨n1,n2,n3,n4⟩:=s.ne;have uS:aE (O D P R jg E) H H':=aE.one u (.inl (by simp[vd]));refine⟨dk,s.box.up uS,s.n8,u _ _ n1.symm s.kh,fun x hx=>?_,?_,s.nd,s.nS⟩
 ·obtain⟨hd,fi,xs,fa⟩:=s.frames x hx;obtain⟨m1,m2,_⟩:=n4 x hx;exact⟨hd,fi,xs,fa.up uS ((u _ _ m1 fa.fr).trans fa.fr.symm) ((u _ _ m2 fa.bd).trans fa.bd.symm)⟩
 ·obtain⟨BY,h,f,l⟩:=s.rows;exact⟨BY,u _ _ n2.symm h,f.up uS,l⟩
theorem wV.same(s:wV K H D S sc p B bs P R jg rows E)(e:ai H H'):wV K H' D S sc p B bs P R jg rows E:=s.draw (.of e) (s.cy.same e)
theorem wV.aS(s:wV K H D S sc p B bs P R jg rows E):qO K (·=D) H B bs:=⟨s.box.sub fun b hb=>.inl (by rw[show b=D from hb];simp[vd]),s.n8⟩
theorem wV.row(s:wV K H D S sc p B bs P R jg rows E){BY:List V}(hR:H R=some (.lst BY)){k:Int}{w:PG.Wd}{q:YE}(hq:H q=some (.lst [.int k,.str (Ai w)]))(nq:¬O D P R jg E q):wV K (upd H R (.lst (BY++[.ref q]))) D S sc p B bs P R jg (rows++[(k,w)]) E:=by
 obtain⟨n1,n2,n3,n4⟩:=s.ne;have mR:R∈vd D P R jg:=by simp[vd]
 have uS:aE (O D P R jg E) H (upd H R (.lst (BY++[.ref q]))):=aE.refl.put (.inl mR) _;have TC:S≠R:=fun e=>s.nS (by rw[e];exact mR);refine⟨⟨by rw[aL n2];exact s.cy.cy,by rw[aL TC];exact s.cy.yS,s.cy.ne,s.cy.len⟩,s.box.up uS,s.n8,by rw[aL n3];exact s.kh,fun x hx=>?_,?_,s.nd,s.nS⟩
 ·obtain⟨hd,fi,xs,fa⟩:=s.frames x hx;obtain⟨_,_,_,_,m1,m2⟩:=n4 x hx;exact⟨hd,fi,xs,fa.up uS (aL m1) (aL m2)⟩
 ·obtain⟨TF,h,f,l⟩:=s.rows;rw[hR] at h;cases h;refine⟨_,af,?_,by simp[l]⟩;rw[Zl];exact(f.up uS).snoc (Fix.lst (by rw[aL (fun e=>nq (.inl (by rw[e];exact mR)))];exact hq) nq (.cons .int (.cons .str .nil)))
theorem wV.push(s:wV K H D S sc p B bs P R jg rows E){f:PG.Frame}{a b:YE}{hd fi:V}{xs:List V}(fa:jS K (O D P R jg E) H f a b hd fi xs)(ha:a ∉ vd D P R jg)(hb:b ∉ vd D P R jg)(TH:a≠b)(TJ:S≠a)(TK:S≠b)(ea:a∈E)(eb:b∈E) :
 wV K (upd H P (.lst ((jg.reverse.map fun x=>.ref x.2.1)++[.ref a]))) D S sc p B bs P R ((f,a,b)::jg) rows E:=by
 obtain⟨n1,n2,n3,n4⟩:=s.ne;have mP:P∈vd D P R jg:=by simp[vd]
 have uS:aE (O D P R jg E) H (upd H P (.lst ((jg.reverse.map fun x=>.ref x.2.1)++[.ref a]))):=aE.refl.put (.inl mP) _;have j:∀c,O D P R ((f,a,b)::jg) E c->O D P R jg E c:=fun c hc=>by
  simp only[O,vd,Zf,Xc,Xg,Xf] at hc ⊢;rcases hc with (h |h |h |h |h |h) |h
  ·exact .inl (.inl h)
  ·exact .inl (.inr (.inl h))
  ·exact .inl (.inr (.inr (.inl h)))
  ·exact .inr (by rw[h];exact ea)
  ·exact .inr (by rw[h];exact eb)
  ·exact .inl (.inr (.inr (.inr h)))
  ·exact .inr h
 have TL:S≠P:=fun e=>s.nS (by rw[e];exact mP);unfold vd at ha hb;simp only[Zf,not_or] at ha hb;have nd:=s.nd;unfold vd at nd;simp only[Z0,Zf,not_or] at nd;obtain⟨⟨d1,d2,d5⟩,⟨p1,p4⟩,r3,fl⟩:=nd;have nS:=s.nS;unfold vd at nS;simp only[Zf,not_or] at nS;refine⟨⟨by rw[aL n1];exact s.cy.cy,by rw[aL TL];exact s.cy.yS,s.cy.ne,s.cy.len⟩,(s.box.up uS).sub j,s.n8,by rw[af,WW,Zl];rfl,fun x hx=>?_,?_,?_,?_⟩
 ·rcases Zf.mp hx with rfl |hx
  ·exact⟨hd,fi,xs,(fa.up uS (aL ha.2.1) (aL hb.2.1)).sub j⟩
  ·obtain⟨hd,fi,Fy,fa⟩:=s.frames x hx;obtain⟨_,_,k3,k4,_,_⟩:=n4 x hx;exact⟨hd,fi,Fy,(fa.up uS (aL k3) (aL k4)).sub j⟩
 ·obtain⟨BY,h,g,l⟩:=s.rows;exact⟨BY,by rw[aL n3.symm];exact h,(g.up uS).sub j,l⟩
 ·unfold vd;rw[Xc];simp only[Xg,Xf,Z0,Zf,not_or];exact⟨⟨d1,d2,fun e=>ha.1 e.symm,fun e=>hb.1 e.symm,d5⟩,⟨p1,fun e=>ha.2.1 e.symm,fun e=>hb.2.1 e.symm,p4⟩,⟨fun e=>ha.2.2.1 e.symm,fun e=>hb.2.2.1 e.symm,r3⟩,⟨TH,ha.2.2.2⟩,hb.2.2.2,fl⟩
 ·unfold vd;rw[Xc];simp only[Xg,Xf,Zf,not_or];exact⟨nS.1,nS.2.1,nS.2.2.1,TJ,TK,nS.2.2.2⟩
end
theorem gJ{X:Cx}{K:Za}(h:X.K=K):E5 X (E7 K):=h▸aZ
def Kept (D:YE) (H H':Hp):Prop:=bw D H H'/\∀b,H b≠none->H' b≠none
theorem Kept.up{D:YE}{H H1 H2:Hp}(k:Kept D H H1)(u:bw D H1 H2)(hD:H2 D≠none):Kept D H H2:=⟨k.1.trans u,fun b hb=>u.jn hD b (k.2 b hb)⟩
theorem Kept.same{D:YE}{H H1 H2:Hp}(k:Kept D H H1)(s:ai H1 H2):Kept D H H2:=⟨k.1.trans (.of s),fun b hb=>by
 have:=k.2 b hb;cases z:H1 b with
 |none=>exact absurd z this
 |some o=>rw[s _ _ z];simp⟩
theorem Kept.put{D q:YE}{H H1:Hp}(k:Kept D H H1)(hq:H q=none)(o:HO):Kept D H (upd H1 q o):=⟨fun b u n e=>by rw[aL (ao e hq)];exact k.1 b u n e,fun b hb=>by
 by_cases z:b=q
 ·rw[z,af];simp
 ·rw[aL z];exact k.2 b hb⟩
def aC:PG.aF->List (List PG.aF)
 |.ifs _ _ _ _ a b=>[a,b]
 |.cZ _ _ _ _ a=>[a]
 |_=>[]
def II (r:PG.jR):Dp:=.tup [.int r.1,.str (Ai r.2.1),.tup (r.2.2.map .int)]
section
variable(K:Za)
def pB:Sp:=fun vs H Q _=>∃(v:V) (st:PG.aF) (H0:Hp),vs=[v]/\Rep K H0 (bp st) v/\ai H0 H/\∀l us H',ai H H'->H l=none->H' l=some (.lst us)->aw K H0 ((aC st).map fun b=>.lst (b.map bp)) us->Q (.ref l) H'
end
theorem vf{K:Za}{H:Hp}:∀(s:PG.aF) {v:V},Rep K H (bp s) v->∃a ys,v=.ref a/\bU K H a (.str (Ai s.wd) :: .int s.row::ys):=by
 intro s v h;have key:∃ds,bp s=.tup (.str (Ai s.wd) :: .int s.row::ds):=by
  cases s<;>exact⟨_,by rw[bp];rfl⟩
 obtain⟨ds,e⟩:=key;rw[e,Rep.az] at h;obtain⟨a,xs,rfl,q,r⟩:=h;rw[aw.ar] at r;obtain⟨v1,t1,rfl,e1,r⟩:=r;rw[aw.ar] at r;obtain⟨v2,t2,rfl,e2,_⟩:=r;rw[Rep.au] at e1;rw[Rep.aB] at e2;subst e1 e2;exact⟨a,t2,rfl,q⟩
mutual
def Al:Dp->Bool
 |.lst _=>false
 |.tup l=>pC l
 |_=>true
def pC:List Dp->Bool
 |[]=>true
 |d::r=>Al d&&pC r
end
mutual
theorem kM:∀(s:PG.aF) (b:List PG.aF),b∈aC s->(PG.fI b).length+1<=(PG.cK s).length/\PG.bA b+1<=PG.cU s
 |.ifs k _ _ _ x y,b,h=>by
  simp only[aC,Zf,ZI,or_false] at h;rw[PG.cK,PG.cU];simp only[Ze,Zc];rcases h with rfl |rfl<;>lia
 |.cZ k _ _ _ x,b,h=>by
  simp only[aC,Zf,ZI,or_false] at h;rw[PG.cK,PG.cU];simp only[Ze];subst h;lia
 |.ask _ _,b,h=>by cases h
 |.put _ _ _,b,h=>by cases h
 |.say _ _,b,h=>by cases h
 |.bH _ _ _ _,b,h=>by cases h
 |.stop _,b,h=>by cases h
end
theorem nu:∀(l:List PG.aF) (s:PG.aF),s∈l->(PG.cK s).length<=(PG.fI l).length/\PG.cU s<=PG.bA l
 |[],s,h=>by cases h
 |a::r,s,h=>by
  rw[PG.fI,PG.bA,Zc];rcases Zf.mp h with rfl |h
  ·lia
  ·have:=nu r s h;lia
theorem Bt(s:PG.aF):1<=(PG.cK s).length:=by cases s<;>simp[PG.cK]
theorem nv:∀l:List PG.aF,l.length<=(PG.fI l).length
 |[]=>ZN _
 |s::r=>by
  rw[PG.fI,Zc,Ze];have:=Bt s;have:=nv r;lia
end L2
namespace L2
open PySem
structure OQ(K:Za)(H H2:Hp)(tl:YE)(H3:Hp)(us:List V)(pre:List PG.Tg):Prop where
 s:ai H H3
 u:aE (·=tl) H2 H3
 y:H3 tl=some (.lst us)
 f:aM K (·=tl) H3 (pre.map LD) us
 l:us.length=pre.length
section
variable{K:Za}{H H2 H3 H4:Hp}{tl p:YE}{us vs:List V}{pre:List PG.Tg}{ds:List Dp}{g:PG.Tg}
theorem OQ.same(a:OQ K H H2 tl H3 us pre)(s:ai H3 H4):OQ K H H2 tl H4 us pre:=⟨a.s.trans s,a.u.trans (.of s),s _ _ a.y,a.f.up (.of s),a.l⟩
end
def LH:Option Nat->V
 |none=>.f9
 |some e=>.int e
def TM (A:Nat->YE) (p:Nat):Option PG.Mt->Option V
 |none=>none
 |some (.back q)=>some (.int q)
 |some (.op _ _)=>some (.ref (A p))
structure GC(H:Hp)(d:YE)(m:PG.Mm)(A:Nat->YE)(Hx:Hp)(aJ:List (Key×V)):Prop where
 s:ai H Hx
 dn:H d=none
 dd:Hx d=some (.dK aJ)
 at_:∀p:Nat,dR aJ (.inl (p:Int))=TM A p (m p)
 ls:∀p e f,m p=some (.op e f)->Hx (A p)=some (.lst [LH e,LH f])/\H (A p)=none
 inj:∀p q e f e' f',m p=some (.op e f)->m q=some (.op e' f')->A p=A q->p=q
section
variable{H Hx H':Hp}{d b:YE}{m:PG.Mm}{A:Nat->YE}{aJ:List (Key×V)}{o:HO}
theorem GC.ne(t:GC H d m A Hx aJ){p:Nat}{e f:Option Nat}(h:m p=some (.op e f)):A p≠d:=cY (t.ls p e f h).1 t.dd (by intro z;cases z)
theorem GC.same(t:GC H d m A Hx aJ)(s:ai Hx H'):GC H d m A H' aJ:=⟨t.s.trans s,t.dn,s _ _ t.dd,t.at_,fun p e f h=>⟨s _ _ (t.ls p e f h).1,(t.ls p e f h).2⟩,t.inj⟩
theorem GC.put(t:GC H d m A Hx aJ)(hb:H b=none)(nd:b≠d)(nl:∀p e f,m p=some (.op e f)->A p≠b)(o:HO):GC H d m A (upd Hx b o) aJ:=
 ⟨fun z u e=>by rw[aL (ao e hb)];exact t.s z u e,t.dn,by rw[aL nd.symm];exact t.dd,t.at_,fun p e f h=>⟨by rw[aL (nl p e f h)];exact(t.ls p e f h).1,(t.ls p e f h).2⟩,t.inj⟩
end
structure sJ(K:Za)(H:Hp)(tl:YE)(H3:Hp)(us:List V)(ds:List Dp):Prop where
 s:ai H H3
 y:H3 tl=some (.lst us)
 f:aM K (·=tl) H3 ds us
 l:us.length=ds.length
section
variable{K:Za}{H H3 H4:Hp}{tl p p1 p2:YE}{us vs:List V}{ds es:List Dp}{d:Dp}{v:V}
theorem sJ.new(h:H tl=none):sJ K H tl (upd H tl (.lst [])) [] []:=⟨ai.new h _,af,.nil,rfl⟩
theorem sJ.same(a:sJ K H tl H3 us ds)(s:ai H3 H4):sJ K H tl H4 us ds:=⟨a.s.trans s,s _ _ a.y,a.f.up (.of s),a.l⟩
theorem sJ.push(a:sJ K H tl H3 us ds)(ht:H tl=none)(fv:Fix K (·=tl) H3 d v):sJ K H tl (upd H3 tl (.lst (us++[v]))) (us++[v]) (ds++[d]):=by
 have uu:aE (·=tl) H3 (upd H3 tl (.lst (us++[v]))):=aE.refl.put (O:=(·=tl)) rfl _;exact⟨fun z o e=>by rw[aL (ao e ht)];exact a.s z o e,af,(a.f.snoc fv).up uu,by simp[a.l]⟩
theorem sJ.row(a:sJ K H tl H3 us ds)(ht:H tl=none){k:Int}{w:PG.Wd}{ws:List Int}(h1:H3 p1=none)(h2:(upd H3 p1 (.tup (ws.map V.int))) p2=none) :
 (upd (upd H3 p1 (.tup (ws.map V.int))) p2 (.tup [.int k,.str (Ai w),.ref p1])) tl=some (.lst us)/\
 sJ K H tl (upd (upd (upd H3 p1 (.tup (ws.map V.int))) p2 (.tup [.int k,.str (Ai w),.ref p1])) tl (.lst (us++[.ref p2]))) (us++[.ref p2]) (ds++[II (k,w,ws)]):=by
 have s1:=ai.new h1 (.tup (ws.map V.int));have a1:=a.same s1;have t1:(upd H3 p1 (.tup (ws.map V.int))) p1=some (.tup (ws.map V.int)):=af;have n1:p1≠tl:=(ao a.y h1).symm;generalize upd H3 p1 (.tup (ws.map V.int))=H5 at *;have s2:=ai.new h2 (.tup [.int k,.str (Ai w),.ref p1]);have a2:=a1.same s2;have t2:(upd H5 p2 (.tup [.int k,.str (Ai w),.ref p1])) p2=some (.tup [.int k,.str (Ai w),.ref p1]):=af;have n2:p2≠tl:=(ao a1.y h2).symm;have t1:=s2 _ _ t1;generalize upd H5 p2 (.tup [.int k,.str (Ai w),.ref p1])=H6 at *;refine⟨a2.y,a2.push ht (Fix.tup t2 n2 (.cons .int (.cons .str (.cons (Fix.tup t1 n1 ?_) .nil))))⟩;have allI:∀l:List Int,aM K (·=tl) H6 (l.map Dp.int) (l.map V.int):=fun l=>by
  induction l with
  |nil=>exact .nil
  |cons i r ih=>exact .cons .int ih
 exact allI ws
end
def qP (ss:List PG.aF) (vs:List V):List (Key×V):=Yt (fun s v=>(Sum.inl s.row,v)) ss vs
theorem xy:∀(ss:List PG.aF) (vs:List V),vs.length=ss.length->ss.Pairwise (fun a b=>a.row<b.row)->∀i (hi:i<ss.length) v,vs[i]?=some v->dR (qP ss vs) (.inl ss[i].row)=some v
 |[],_,_,_,i,hi,_,_=>by simp at hi
 |_::_,[],h,_,_,_,_,_=>by simp at h
 |s::ss,v::vs,h,hp,0,hi,u,hu=>by
  simp at hu;subst hu;show dR ((_,v)::qP ss vs) _=_;exact dM rfl
 |s::ss,v::vs,h,hp,i+1,hi,u,hu=>by
  rw[Z7] at hp;have lt:=hp.1 (ss[i]'(by simpa using hi)) (Zu _);show dR ((.inl s.row,v)::qP ss vs) (.inl (ss[i]'(by simpa using hi)).row)=_;rw[dN (fun e=>by have e:=Sum.inl.inj e;lia)];exact xy ss vs (by simpa using h) hp.2 i (by simpa using hi) u (by simpa using hu)
theorem vZ(s:PG.aF):PG.aP s=s::(aC s).flatMap PG.aA:=by
 cases s<;>simp[PG.aP,aC]
section
variable(K:Za)
def rK (n:Nat):Sp:=fun vs H Q _=>∃(b:YE) (body:List PG.aF) (H0:Hp),vs=[.ref b]/\ai H0 H/\Rep K H0 (.lst (body.map bp)) (.ref b)/\PG.bA body<n/\(PG.fI body).length<=1000/\
 ∀l us H',ai H H'->H l=none->H' l=some (.lst us)->aw K H0 ((PG.aA body).map bp) us->Q (.ref l) H'
end
theorem sM{K:Za}{tl:TE}{g:TG}{tb:TS}{D:Ends}{σ:St}{H:Hp} (h:∀U:YE->Hp->Prop,(∀a H1,(∃W:Nat->Nat->St->Hp->Prop,(∃m,W 0 m σ H1)/\∀i m σ H,W i m σ H->
 ((Cf K a).stop i H/\D.nx σ H)\/((Cf K a).go i H/\∃N:St->Hp->Prop,(∀σ' H',N σ' H'->∃m',m'<m/\W (i+1) m' σ' H')/\∀x H',(Cf K a).A8 i H x H'->g x σ H' fun σ2 H2=>tb {D with nx:=N,ct:=N,bk:=D.nx} σ2 H2))->U a H1)->
 tl σ H fun x H1=>∃a,x=.ref a/\(∃xs,bU K H1 a xs)/\U a H1):Cg (Kt K tl) g tb D σ H:=h _ fun _ _ x=>x
theorem i6:∀a b:List PG.aF,PG.aA (a++b)=PG.aA a++PG.aA b
 |[],b=>by simp[PG.aA]
 |s::r,b=>by
  show PG.aA (s::(r++b))=_;rw[PG.aA,PG.aA,i6 r b,ZA]
theorem Dh(s:PG.aF):PG.aA [s]=PG.aP s:=by rw[PG.aA,PG.aA,Zr]
theorem sN(b:List PG.aF):(PG.aA b).length=(PG.fI b).length:=by rw[<- PG.iP,Zb]
end L2
namespace HT
open PySem PySem.Spec PyProof.Rows
section
variable{prog:YR}{w:YG}{A:YQ}{E:YF->YO->Prop}{s:YO}
theorem nM{t sl:YE}{items:Array YF}{vl vu:YF}{lo hi:Option Int}{Q:YF->YO->Prop}(ht:IsTup s.heap t items)(hs:s.heap.IsSliceOf sl vl vu .none)(pl:IsPart vl lo)(pu:IsPart vu hi)
 (hw:gc items.size 0 lo=0/\gc items.size items.size hi=items.size) (h:Q (.ref t) s):wpAny (model prog w) A (getItem (.ref t) (.ref sl)) Q E s:=by
 have hj:gc items.size items.size hi<=items.size:=Cp _ _ (Zn _) hi;obtain⟨os,EI,E3,Gn⟩:=id hs;have Ot:s.TypeIs (.ref sl) "slice":=⟨os,EI,E3⟩
 unfold getItem
 try with_reducible refine YJ ?_
 first |refine YH (YI ?_) |skip
 refine YH (wpAny_sequenceKey ht.typeIs (by decide) ?_);refine YH (wpAny_callSpecial?_slot (name:=Zj "__getitem__") ht.typeIs Xo
  (wpAny_call_entry Xo ht.typeIs entry_tuple_getitem ?_ (args_tuple_getitem _ _)))
 show wpAny _ _ (Builtin.Tuple.tupleItemsOf (.ref t) >>= _) _ _ s;refine YH (tupleItemsOf_ ht ?_);refine YH (wpAny_typeOf Ot ?_);rw[if_pos (by decide)];refine YH (kf hs pl pu ?_);have OR:((((gc items.size 0 lo:Nat):Int)==0&&(1:Int)==1&&(gc items.size items.size hi-gc items.size 0 lo)==items.size)=true):=by
  rw[hw.1,hw.2];simp
 show wpAny _ _ (if (((gc items.size 0 lo:Nat):Int)==0&&(1:Int)==1&&(gc items.size items.size hi-gc items.size 0 lo)==items.size)=true then _ else _) _ _ s;rw[if_pos OR];refine YH (m:=Builtin.Tuple.tupleIsExact _) ?_;unfold Builtin.Tuple.tupleIsExact;refine YH (wpAny_typeOf ht.typeIs (YI ?_));rw[if_pos (by simp)]
 first
  |exact YH (wpAny_rule (YI ⟨_,rfl,YI h⟩))
  |exact YH (YI (YI ⟨_,rfl,YI h⟩))
end
end HT
namespace L2
open PySem PySem.Spec PyProof.Rows
def LJ (K:Za):V->Option Int->Option Int->Hp->VK->Prop:=fun x lo hi H Q=>∃a xs,x=.ref a/\bU K H a xs/\
 ((HT.gc xs.length 0 lo=0/\HT.gc xs.length xs.length hi=xs.length)->Q (.ref a) H)/\
 (¬(HT.gc xs.length 0 lo=0/\HT.gc xs.length xs.length hi=xs.length)->∀p,H p=none->Q (.ref p) (upd H p (.tup (cO xs lo hi))))
theorem Am{X:Cx}:E4 X (LJ X.K):=by
 intro pins s σ H x v vl vu lo hi sl Q I rx hs pl pu h;obtain⟨a,xs,rfl,hx,h1,h2⟩:=h;by_cases hw:HT.gc xs.length 0 lo=0/\HT.gc xs.length xs.length hi=xs.length
 ·cases rx;obtain⟨bC,r,ht,hz⟩:=I.tuple hx;have hlen:bC.toArray.size=xs.length:=by rw[Zv];exact r.length.symm
  refine⟨"tuple",_,Xo.lookup,ht.typeIs,?_⟩;exact HT.nM ht hs pl pu (by rw[hlen];exact hw) ⟨.ref a,H,I,rfl,h1 hw⟩
 ·exact Ig pins s σ H (.ref a) v vl vu lo hi sl Q I rx hs pl pu ⟨a,xs,rfl,hx,hw,h2 hw⟩
def bB {α β γ:Type} (R:α->β->γ->Prop):List α->List β->List γ->Prop
 |[],[],[]=>True
 |a::as,b::bs,c::cs=>R a b c/\bB R as bs cs
 |_,_,_=>False
section
variable{α β γ:Type}{R S:α->β->γ->Prop}
theorem bB.aD{bs:List β}{cs:List γ}:bB R [] bs cs↔bs=[]/\cs=[]:=by
 cases bs<;>cases cs<;>simp[bB]
theorem bB.ar{a:α}{as:List α}{bs:List β}{cs:List γ}:bB R (a::as) bs cs↔∃b An c Ao,bs=b::An/\cs=c::Ao/\R a b c/\bB R as An Ao:=by
 constructor
 ·intro h;cases bs with
  |nil=>simp[bB] at h
  |cons b bs=>
   cases cs with
   |nil=>simp[bB] at h
   |cons c cs=>exact⟨b,bs,c,cs,rfl,rfl,h.1,h.2⟩
 ·rintro ⟨b,An,c,Ao,rfl,rfl,h1,h2⟩
  exact⟨h1,h2⟩
theorem bB.length:∀ {as:List α} {bs:List β} {cs:List γ},bB R as bs cs->bs.length=as.length/\cs.length=as.length
 |[],_,_,h=>by obtain⟨rfl,rfl⟩:=bB.aD.mp h;exact⟨rfl,rfl⟩
 |a::as,_,_,h=>by
  obtain⟨b,An,c,Ao,rfl,rfl,_,h2⟩:=bB.ar.mp h;have:=bB.length h2;simp[this]
theorem bB.imp:∀ {as:List α} {bs:List β} {cs:List γ},bB R as bs cs->(∀a b c,a∈as->c∈cs->R a b c->S a b c)->bB S as bs cs
 |[],_,_,h,_=>by obtain⟨rfl,rfl⟩:=bB.aD.mp h;trivial
 |a::as,_,_,h,f=>by
  obtain⟨b,An,c,Ao,rfl,rfl,h1,h2⟩:=bB.ar.mp h;exact⟨f a b c (Zt ..) (Zt ..) h1,h2.imp fun a' b' c' m1 m2=>f a' b' c' (Zk _ m1) (Zk _ m2)⟩
theorem bB.snoc:∀ {as:List α} {bs:List β} {cs:List γ} {a:α} {b:β} {c:γ},bB R as bs cs->R a b c->bB R (as++[a]) (bs++[b]) (cs++[c])
 |[],_,_,a,b,c,h,r=>by obtain⟨rfl,rfl⟩:=bB.aD.mp h;exact⟨r,trivial⟩
 |x::as,_,_,a,b,c,h,r=>by
  obtain⟨b',An,c',Ao,rfl,rfl,h1,h2⟩:=bB.ar.mp h;exact⟨h1,bB.snoc h2 r⟩
end
def rL:PG.aF->List Dp
 |.ask k b=>[.str "ask",.int k,.str (S b)]
 |.put k b e=>[.str "put",.int k,.str (S b),cR e]
 |.say k e=>[.str "say",.int k,cR e]
 |.bH k sg l r=>[.str "must",.int k,.str (S sg),cR l,cR r]
 |.stop k=>[.str "stop",.int k]
 |.ifs k sg l r _ _=>[.str "if",.int k,.str (S sg),cR l,cR r]
 |.cZ k sg l r _=>[.str "while",.int k,.str (S sg),cR l,cR r]
theorem qq(s:PG.aF):bp s=.tup (rL s++(aC s).map fun b=>.lst (b.map bp)):=by
 cases s<;>simp[bp,rL,aC,aI]
theorem pD(s:PG.aF):2<=(rL s).length/\(rL s).length<=5/\(aC s≠[]->(rL s).length=5):=by
 cases s<;>simp[rL,aC]
mutual
theorem sO:∀t:PM.Tr,Al (cR t)=true
 |.num n=>by simp[cR,Al,pC]
 |.box n=>by simp[cR,Al,pC]
 |.bin o l r=>by simp[cR,Al,pC,sO l,sO r]
end
theorem v7(s:PG.aF):pC (rL s)=true:=by cases s<;>simp[rL,pC,Al,sO]
section
variable{K:Za}{H H':Hp}{O:YE->Prop}
theorem eL(hO:∀g,O g->∃ys,H g=some (.lst ys))(u:aE O H H'){a:YE}{ys:List V}(q:bU K H a ys):bU K H' a ys:=by
 rcases q with (q |⟨o,q⟩) |q
 ·exact .inl (.inl (u _ _ (fun z=>by obtain⟨_,e⟩:=hO a z;rw[e] at q;cases q) q))
 ·exact .inl (.inr ⟨o,u _ _ (fun z=>by obtain⟨_,e⟩:=hO a z;rw[e] at q;cases q) q⟩)
 ·exact .inr q
mutual
theorem km(hO:∀g,O g->∃ys,H g=some (.lst ys))(u:aE O H H'):∀(d:Dp) (v:V),Al d=true->Rep K H d v->Rep K H' d v
 |.f9,v,_,r=>by rw[Rep.nt] at r ⊢;exact r
 |.bl b,v,_,r=>by rw[Rep.ql] at r ⊢;exact r
 |.int b,v,_,r=>by rw[Rep.aB] at r ⊢;exact r
 |.str b,v,_,r=>by rw[Rep.au] at r ⊢;exact r
 |.lst l,v,e,_=>by rw[Al] at e;cases e
 |.tup l,v,e,r=>by
  rw[Al] at e;rw[Rep.az] at r ⊢;obtain⟨a,ys,rfl,q,rs⟩:=r;exact⟨a,ys,rfl,eL hO u q,jG hO u l ys e rs⟩
theorem jG(hO:∀g,O g->∃ys,H g=some (.lst ys))(u:aE O H H'):∀(ds:List Dp) (vs:List V),pC ds=true->aw K H ds vs->aw K H' ds vs
 |[],vs,_,r=>by rw[aw.aD] at r ⊢;exact r
 |d::ds,vs,e,r=>by
  rw[pC,Z8] at e;rw[aw.ar] at r ⊢;obtain⟨v,t,rfl,r1,r2⟩:=r;exact⟨v,t,rfl,km hO u d v e.1 r1,jG hO u ds t e.2 r2⟩
end
end
section
variable(K:Za)(H:Hp)
def jT:Nat->List PG.aF->YE->List YE->Prop
 |0,_,_,_=>False
 |n+1,body,b,F=>∃vs Fs,H b=some (.lst vs)/\bB (fun s v G=>∃a hs bs Gs,v=.ref a/\bU K H a (hs++bs.map V.ref)/\aw K H (rL s) hs/\bB (jT n) (aC s) bs Gs/\G=Gs.flatten) body vs Fs/\F=b::Fs.flatten
def wW (n:Nat) (s:PG.aF) (v:V) (G:List YE):Prop:=∃a hs bs Gs,v=.ref a/\bU K H a (hs++bs.map V.ref)/\aw K H (rL s) hs/\bB (jT K H n) (aC s) bs Gs/\G=Gs.flatten
end
section
variable{K:Za}{H H':Hp}{O:YE->Prop}
theorem fP{n:Nat}{body:List PG.aF}{b:YE}{F:List YE}:jT K H (n+1) body b F↔∃vs Fs,H b=some (.lst vs)/\bB (wW K H n) body vs Fs/\F=b::Fs.flatten:=Iff.rfl
theorem jT.iL(hO:∀g,O g->∃ys,H g=some (.lst ys))(u:aE O H H'):∀(n:Nat) (body:List PG.aF) (b:YE) (F:List YE),(∀f∈F,¬O f)->jT K H n body b F->jT K H' n body b F
 |0,_,_,_,_,h=>h.elim
 |n+1,body,b,F,hF,h=>by
  obtain⟨vs,Fs,hb,all,rfl⟩:=fP.mp h;refine fP.mpr ⟨vs,Fs,u _ _ (hF b (Zt ..)) hb,all.imp fun s v G _ mG hs=>?_,rfl⟩;obtain⟨a,hs,bs,Gs,rfl,q,r,al,rfl⟩:=hs;refine⟨a,hs,bs,Gs,rfl,eL hO u q,jG hO u _ _ (v7 s) r,al.imp fun bd b' G' _ v8 ht=>jT.iL hO u n bd b' G' (fun f hf=>?_) ht,rfl⟩;exact hF f (Zk _ (ZY.mpr ⟨_,mG,ZY.mpr ⟨_,v8,hf⟩⟩))
theorem wW.iL(hO:∀g,O g->∃ys,H g=some (.lst ys))(u:aE O H H'){n:Nat}{s:PG.aF}{v:V}{G:List YE}(hG:∀f∈G,¬O f)(h:wW K H n s v G):wW K H' n s v G:=by
 obtain⟨a,hs,bs,Gs,rfl,q,r,al,rfl⟩:=h;exact⟨a,hs,bs,Gs,rfl,eL hO u q,jG hO u _ _ (v7 s) r,al.imp fun bd b' G' _ v8 ht=>jT.iL hO u n bd b' G' (fun f hf=>hG f (ZY.mpr ⟨_,v8,hf⟩)) ht,rfl⟩
theorem jT.lists:∀(n:Nat) (body:List PG.aF) (b:YE) (F:List YE),jT K H n body b F->∀f∈F,∃ys,H f=some (.lst ys)
 |0,_,_,_,h=>h.elim
 |n+1,body,b,F,h=>by
  obtain⟨vs,Fs,hb,all,rfl⟩:=fP.mp h;intro f hf;rcases Zf.mp hf with rfl |hf
  ·exact⟨vs,hb⟩
  ·have key:∀ {as:List PG.aF} {bs:List V} {cs:List (List YE)},bB (wW K H n) as bs cs->∀f∈cs.flatten,∃ys,H f=some (.lst ys):=by
    intro as
    induction as with
    |nil=>intro bs cs h f hf;obtain⟨rfl,rfl⟩:=bB.aD.mp h;simp at hf
    |cons a as ih=>
     intro bs cs h f hf;obtain⟨b',An,c,Ao,rfl,rfl,h1,h2⟩:=bB.ar.mp h;rw[ZG,Zg] at hf;rcases hf with hf |hf
     ·obtain⟨a',hs,bb,Gs,rfl,q,r,al,rfl⟩:=h1;have IJ:∀ {as:List (List PG.aF)} {bs:List YE} {cs:List (List YE)},bB (jT K H n) as bs cs->∀f∈cs.flatten,∃ys,H f=some (.lst ys):=by
       intro as
       induction as with
       |nil=>intro bs cs h f hf;obtain⟨rfl,rfl⟩:=bB.aD.mp h;simp at hf
       |cons x as OS=>
        intro bs cs h f hf;obtain⟨b',An,c,Ao,rfl,rfl,h1,h2⟩:=bB.ar.mp h;rw[ZG,Zg] at hf;rcases hf with hf |hf
        ·exact jT.lists n _ _ _ h1 f hf
        ·exact OS h2 f hf
      exact IJ al f hf
     ·exact ih h2 f hf
   exact key all f hf
mutual
theorem jT.rep:∀(n:Nat) (body:List PG.aF) (b:YE) (F:List YE),jT K H n body b F->Rep K H (.lst (body.map bp)) (.ref b)
 |0,_,_,_,h=>h.elim
 |n+1,body,b,F,h=>by
  obtain⟨vs,Fs,hb,all,rfl⟩:=fP.mp h;refine Rep.bT.mpr ⟨b,vs,rfl,.of hb,?_⟩;have key:∀ {as:List PG.aF} {bs:List V} {cs:List (List YE)},bB (wW K H n) as bs cs->aw K H (as.map bp) bs:=by
   intro as
   induction as with
   |nil=>intro bs cs h;obtain⟨rfl,rfl⟩:=bB.aD.mp h;exact .nil
   |cons a as ih=>
    intro bs cs h;obtain⟨b',An,c,Ao,rfl,rfl,h1,h2⟩:=bB.ar.mp h;refine .cons ?_ (ih h2);obtain⟨a',hs,bb,Gs,rfl,q,r,al,rfl⟩:=h1;rw[qq];refine Rep.az.mpr ⟨a',_,rfl,q,r.append ?_⟩;have IJ:∀ {as:List (List PG.aF)} {bs:List YE} {cs:List (List YE)},bB (jT K H n) as bs cs->aw K H (as.map fun b=>.lst (b.map bp)) (bs.map V.ref):=by
     intro as
     induction as with
     |nil=>intro bs cs h;obtain⟨rfl,rfl⟩:=bB.aD.mp h;exact .nil
     |cons x as OS=>
      intro bs cs h;obtain⟨b',An,c,Ao,rfl,rfl,h1,h2⟩:=bB.ar.mp h;exact .cons (jT.rep n _ _ _ h1) (OS h2)
    exact IJ al
  exact key all
end
end
section
variable(K:Za)
def Ap (n:Nat):Sp:=fun vs H Q _=>∃(v:V) (st:PG.aF) (H0:Hp),vs=[v]/\ai H0 H/\Rep K H0 (bp st) v/\PG.cU st<n+1/\(PG.cK st).length<=1000/\∀u G H',ai H H'->wW K H' n st u G->G.Nodup->(∀f∈G,H f=none)->Q u H'
def rM (n:Nat):Sp:=fun vs H Q _=>∃(b:YE) (body:List PG.aF) (H0:Hp),vs=[.ref b]/\ai H0 H/\Rep K H0 (.lst (body.map bp)) (.ref b)/\PG.bA body<n/\(PG.fI body).length<=1000/\∀l F H',ai H H'->jT K H' n body l F->F.Nodup->(∀f∈F,H f=none)->Q (.ref l) H'
def IK:Sp:=fun vs H Q _=>∃(a l:YE) (hs ws:List V) (bs:List V),vs=[.ref a,.ref l]/\bU K H a (hs++ws)/\hs≠[]/\hs.length<=10/\ws.length=bs.length/\bs.length<=10/\H l=some (.lst bs)/\∀p H',ai H H'->bU K H' p (hs++bs)->Q (.ref p) H'
end
theorem dv{K:Za}{a D:YE}{xs:List V}{te:TE}{Q:VK}{r:St}{H:Hp}(Pv:Nat->List V->Hp->Prop)(hS:gX K H a xs)(hl:xs.length<=16000000)(hD:H D=none)(h0:Pv 0 [] (upd H D (.lst [])))
 (step:∀i x ys H2,xs[i]?=some x->ai H H2->H2 D=some (.lst ys)->ys.length=i->Pv i ys H2->∀R:VK,(∀v H3,ai H2 H3->Pv (i+1) (ys++[v]) (upd H3 D (.lst (ys++[v])))->R v H3)->te (some x::r) H2 R)
 (q:∀ys H2,ai H H2->H2 D=some (.lst ys)->Pv xs.length ys H2->Q (.ref D) H2):eX (qe K a) D (bV 0) iO te Q (none::r) (upd H D (.lst [])):=by
 refine⟨fun i m τ H2=>m=xs.length-i/\i<=xs.length/\(∃x,τ=x::r)/\ai H H2/\∃ys,H2 D=some (.lst ys)/\ys.length=i/\Pv i ys H2,⟨xs.length,by simp,ZN _,⟨none,rfl⟩,ai.new hD _,[],af,rfl,h0⟩,?_⟩
 rintro i m τ H2 ⟨rfl,hi,⟨x,rfl⟩,s2,ys,h2,ly,p2⟩
 by_cases yo:i<xs.length
 ·refine .inr ⟨⟨xs,xs[i],s2.seq hS,by simp[yo]⟩,fun τ' H'=>(∃x,τ'=x::r)/\ai H H'/\∃ys,H' D=some (.lst ys)/\ys.length=i+1/\Pv (i+1) ys H',fun τ' H' ⟨h1,h3,h4⟩=>⟨xs.length-(i+1),by lia,rfl,yo,h1,h3,h4⟩,fun y H' hy=>?_⟩;obtain⟨rfl,hy⟩:=hy;have ey:=hy _ (s2.seq hS);simp only[bV,Xi,iO];rw[if_pos trivial];refine step i y ys _ ey s2 h2 ly p2 _ fun v H3 s3 p3=>⟨ys,s3 _ _ h2,?_,⟨_,rfl⟩,?_,ys++[v],af,by simp[ly],p3⟩
  ·have:YM=2 ^ 24:=rfl;lia
  ·intro b o e;rw[aL (ao e hD)];exact s3 _ _ (s2 _ _ e)
 ·have e:i=xs.length:=by lia
  subst e;exact .inl ⟨⟨xs,s2.seq hS,Zn _⟩,q ys H2 s2 h2 p2⟩
end L2
namespace L2
open PySem
theorem yT:∀b∈PG.px,PyData.canLay0 (.str (S b))=true:=by decide +kernel
theorem IL:∀b∈([[43],[45],[42]]:List PM.W),PyData.canLay0 (.str (S b))=true:=by decide +kernel
theorem Aq:∀l:List Int,PyData.canLayAll0 (Dp.lW (l.map Dp.int))=true/\PyData.depthAll (Dp.lW (l.map Dp.int))=0
 |[]=>by simp[Dp.lW,PyData.canLayAll0,PyData.depthAll]
 |i::r=>by
  obtain⟨h1,h2⟩:=Aq r;simp[Dp.lW,Dp.py,PyData.canLayAll0,PyData.depthAll,PyData.canLay0,PyData.depth,h1,h2]
section
variable{K:Za}{H H':Hp}{p C dx:YE}{fs:List (Str×V)}
mutual
theorem Fz(h:H p=some (.ins C dx fs))(u:aE (·=p) H H'):∀(d:Dp) (v:V),Rep K H d v->Rep K H' d v
 |.f9,v,r=>by rw[Rep.nt] at r ⊢;exact r
 |.bl b,v,r=>by rw[Rep.ql] at r ⊢;exact r
 |.int b,v,r=>by rw[Rep.aB] at r ⊢;exact r
 |.str b,v,r=>by rw[Rep.au] at r ⊢;exact r
 |.lst l,v,r=>by
  rw[Rep.bT] at r ⊢;obtain⟨a,ys,rfl,q,rs⟩:=r;refine⟨a,ys,rfl,?_,pE h u l ys rs⟩;rcases q with (q |⟨o,q⟩) |q
  ·exact .inl (.inl (u _ _ (cY q h (by intro z;cases z)) q))
  ·exact .inl (.inr ⟨o,u _ _ (cY q h (by intro z;cases z)) q⟩)
  ·exact .inr q
 |.tup l,v,r=>by
  rw[Rep.az] at r ⊢;obtain⟨a,ys,rfl,q,rs⟩:=r;refine⟨a,ys,rfl,?_,pE h u l ys rs⟩;rcases q with (q |⟨o,q⟩) |q
  ·exact .inl (.inl (u _ _ (cY q h (by intro z;cases z)) q))
  ·exact .inl (.inr ⟨o,u _ _ (cY q h (by intro z;cases z)) q⟩)
  ·exact .inr q
theorem pE(h:H p=some (.ins C dx fs))(u:aE (·=p) H H'):∀(ds:List Dp) (vs:List V),aw K H ds vs->aw K H' ds vs
 |[],vs,r=>by rw[aw.aD] at r ⊢;exact r
 |d::ds,vs,r=>by
  rw[aw.ar] at r ⊢;obtain⟨v,t,rfl,r1,r2⟩:=r;exact⟨v,t,rfl,Fz h u d v r1,pE h u ds t r2⟩
end
end
structure BZ(K:Za)(C:YE)(H:Hp)(p:YE)(pr:PG.Prog):Prop where
 at_:∃(dx nl sd fa va st wy:YE) (us ws:List V),H p=some (.ins C dx [("names",.ref nl),("sizes",.ref sd),("first",.ref fa),("statements",.ref st),("ways",.ref wy)])/\H dx=some (.own p)/\
  H nl=some (.lst (pr.aS.map fun b=>.str (S b.name)))/\H sd=some (.dK (pr.aS.map fun b=>(.inr (S b.name),.int b.size)))/\
  H fa=some (.tup [.int (PG.fO pr.body 0),.ref va])/\H va=some (.tup (pr.aS.map fun b=>.int b.first))/\
  us.length=(PG.aA pr.body).length/\H st=some (.dK (qP (PG.aA pr.body) us))/\aw K H ((PG.aA pr.body).map bp) us/\
  ws.length=(PG.cA pr.body 0).length/\H wy=some (.dK (Yt (fun r v=>(Sum.inl r.1,v)) (PG.cA pr.body 0) ws))/\∀i (hi:i<(PG.cA pr.body 0).length),∃q,ws[i]?=some (.ref q)/\bU K H q ((PG.cA pr.body 0)[i].2.2.map V.int)
end L2
namespace L2
open PySem
def TN (aJ:List (Key×V)) (x:W):Int:=match dR aJ (.inr (S x)) with
 |some (.int i)=>i
 |_=>0
theorem BZ.mono{K:Za}{C p:YE}{H H':Hp}{pr:PG.Prog}(c:BZ K C H p pr)(s:ai H H'):BZ K C H' p pr:=by
 obtain⟨dx,nl,sd,fa,va,st,wy,us,ws,h1,h2,h3,h4,h5,h6,h7,h8,h9,IM,FA,JL⟩:=c.at_;exact⟨⟨dx,nl,sd,fa,va,st,wy,us,ws,s _ _ h1,s _ _ h2,s _ _ h3,s _ _ h4,s _ _ h5,s _ _ h6,h7,s _ _ h8,h9.mono s,IM,s _ _ FA,fun i hi=>let ⟨q,e,r⟩:=JL i hi;⟨q,e,s.a7 r⟩⟩⟩
def IP (bs:List PG.eK) (vs:List V):List (Key×V):=Yt (fun b v=>(Sum.inr (S b.name),v)) bs vs
def LK:PG.aF->Option (W×PM.Tr×PM.Tr)
 |.bH _ sg l r=>some (sg,l,r)
 |.ifs _ sg l r _ _=>some (sg,l,r)
 |.cZ _ sg l r _=>some (sg,l,r)
 |_=>none
def IQ (sg:W) (a b:Int):Bool:=if sg=[60] then decide (a<b) else decide (a=b)
def wv (bs:List PG.eK) (vals:List Int) (e:PM.Tr):Int:=oC (TN (IP bs (vals.map V.int))) e
def gC (K:Za) (H:Hp) (sa:YE) (row:Int) (vals:List Int):Prop:=∃va,bU K H sa [.int row,.ref va]/\bU K H va (vals.map V.int)
theorem gC.mono{K:Za}{H H':Hp}{sa:YE}{row:Int}{vals:List Int}(h:gC K H sa row vals)(s:ai H H'):gC K H' sa row vals:=let ⟨va,h1,h2⟩:=h;⟨va,s.a7 h1,s.a7 h2⟩
structure IS(pr:PG.Prog):Prop where
 pw:(PG.aA pr.body).Pairwise (fun a b=>a.row<b.row)
 nb:(pr.aS.map (·.name)).Nodup
 n8:pr.aS.length<=10
 pos:∀s∈PG.aA pr.body,0<s.row
theorem sP(b:List PG.aF)(i:Nat)(hi:i<(PG.aA b).length):∃hf:i<(PG.cA b 0).length,(PG.cA b 0)[i].1=(PG.aA b)[i].row/\(PG.cA b 0)[i].2.1=(PG.aA b)[i].wd:=by
 have e:((PG.cA b 0).map fun r=>(r.1,r.2.1))=(PG.aA b).map fun x=>(x.row,x.wd):=by rw[PG.ki,PG.iP]
 have l:=congrArg Z6 e;rw[Zb,Zb] at l;have hf:i<(PG.cA b 0).length:=by lia
 refine⟨hf,?_⟩;have h1:((PG.cA b 0).map fun r=>(r.1,r.2.1))[i]?=((PG.aA b).map fun x=>(x.row,x.wd))[i]?:=by rw[e]
 rw[Zq,Zq,Zd hf,Zd hi] at h1;have h1:=Z5.inj h1;exact⟨congrArg Prod.fst h1,congrArg Prod.snd h1⟩
def Di (K:Za) (H:Hp):Option (Int×List Int)->V->Prop
 |none,v=>v=.f9
 |some x,v=>∃a,v=.ref a/\gC K H a x.1 x.2
def mh (bs:List PG.eK) (st:PG.aF) (ws:List Int) (vals:List Int):Option (Int×List Int):=match LK st with
 |none=>none
 |some (sg,l,r)=>if IQ sg (wv bs vals l) (wv bs vals r) then some (ws.getD 0 0,vals) else if st.wd=.bH then none else some (ws.getD 1 0,vals)
open PyProof.Rows
def vg (bs:List PG.eK) (x:W):Nat:=(bs.map (·.name)).idxOf x
def v9 (bs:List PG.eK) (vals:List Int) (x:W) (v:Int):List Int:=vals.set (vg bs x) v
def k9 (bs:List PG.eK) (x:W):Int:=((bs[vg bs x]?).map (·.size)).getD 1
def su (bs:List PG.eK) (st:PG.aF) (ws vals:List Int) (TQ:Int):Option (Int×List Int)×Option Int:=match st with
 |.ask _ b=>(some (ws.getD 0 0,v9 bs vals b (TQ%k9 bs b)),none)
 |.put _ b e=>(some (ws.getD 0 0,v9 bs vals b (wv bs vals e%k9 bs b)),none)
 |.say _ e=>(some (ws.getD 0 0,vals),some (wv bs vals e))
 |.stop _=>(some (ws.getD 0 0,vals),none)
 |st=>(mh bs st ws vals,none)
theorem xA{bs:List PG.eK}{x:W}(h:x∈bs.map (·.name)):∃hi:vg bs x<bs.length,bs[vg bs x].name=x:=by
 have l:vg bs x<(bs.map (·.name)).length:=List.idxOf_lt_length_iff.mpr h;have e:(bs.map (·.name))[vg bs x]=x:=List.getElem_idxOf l;rw[Zb] at l;rw[List.getElem_map] at e;exact⟨l,e⟩
open PySem.Spec
def LL (K:Za):R2:=fun x y H Q=>∃a b xs ys,x=.ref a/\y=.ref b/\bU K H a xs/\bU K H b ys/\xs.length+ys.length<=YM/\∀p H',ai H H'->bU K H' p (xs++ys)->Q (.ref p) H'
theorem g7{X:Cx}:nX X (binaryOp .Add) (LL X.K):=by
 intro pins s σ H x y v u Q I rx ry h;by_cases hx:∃Nn,(∃a b ys,x=.ref a/\y=.ref b/\bU X.K H a Nn/\bU X.K H b ys/\Nn.length+ys.length<=YM/\∀p H',ai H H'->bU X.K H' p (Nn++ys)->Q (.ref p) H')/\Nn=[]
 ·obtain⟨xs,⟨a,b,ys,rfl,rfl,ha,hb,hz,q⟩,rfl⟩:=hx;cases rx;cases ry;obtain⟨bC,r1,p1,_⟩:=I.tuple ha;obtain⟨qi,r2,p2,_⟩:=I.tuple hb;obtain⟨⟨cls,dd,data,sl⟩,ho,hc,n,hd⟩:=id p1;obtain⟨⟨KP,KQ,data2,JI⟩,Ic,Ie,n2,hd2⟩:=id p2;simp only at hc hd Ie hd2;subst hc hd Ie hd2;cases r1;exact concat_meets ⟨_,ho,rfl⟩ ⟨_,Ic,rfl⟩ noFill_tuple_add seq_tuple_add X5 XZ (XX _ _)
   (tuple_addW0 a b _ qi.toArray n n2 dd KQ sl JI rfl) ⟨ho,Ic,⟨.ref b,H,I,rfl,q _ _ (ai.refl _) hb⟩⟩
 ·obtain⟨a,b,xs,ys,rfl,rfl,ha,hb,hz,q⟩:=h;refine zO pins s σ H _ _ v u Q I rx ry ⟨a,b,xs,ys,rfl,rfl,ha,hb,fun e=>hx ⟨xs,⟨a,b,ys,rfl,rfl,ha,hb,hz,q⟩,e⟩,hz,fun e=>q _ _ (ai.refl _) ?_,fun _ p hp=>q _ _ (ai.new hp _) (.of af)⟩;rw[e,Zr];exact ha
def LM (K:Za):V->Option Int->Option Int->Hp->VK->Prop:=fun x lo hi H Q=>∃a xs,x=.ref a/\bU K H a xs/\∀p H',ai H H'->bU K H' p (cO xs lo hi)->Q (.ref p) H'
theorem hE{X:Cx}:E4 X (LM X.K):=by
 intro pins s σ H x v vl vu lo hi sl Q I rx hs pl pu h;obtain⟨a,xs,rfl,hx,q⟩:=h;refine Am pins s σ H _ v vl vu lo hi sl Q I rx hs pl pu ⟨a,xs,rfl,hx,fun e=>q _ _ (ai.refl _) ?_,fun _ p hp=>q _ _ (ai.new hp _) (.of af)⟩;have:cO xs lo hi=xs:=by
  unfold cO;rw[e.1,e.2];simp
 rw[this];exact hx
theorem vk{K:Za}{H:Hp}:∀l:List Int,aw K H (l.map Dp.int) (l.map V.int)
 |[]=>by rw[Xz,Xz,aw.aD]
 |x::r=>by rw[ZD,ZD,aw.ar];exact⟨_,_,rfl,by rw[Rep.aB],vk r⟩
theorem fB{H H':Hp}{b:YE}(s:ai H H')(h:H' b=none):H b=none:=by
 cases z:H b with
 |none=>rfl
 |some o=>rw[s _ _ z] at h;cases h
theorem bU.nJ{K:Za}{H H':Hp}{D a:YE}{xs ys:List V}(h:bU K H a xs)(hD:H D=some (.lst ys))(u:bw D H H'):bU K H' a xs:=by
 rcases h with (q |⟨o,q⟩) |q
 ·exact .inl (.inl (u _ _ (cY q hD (by intro z;cases z)) q))
 ·exact .inl (.inr ⟨o,u _ _ (cY q hD (by intro z;cases z)) q⟩)
 ·exact .inr q
theorem Di.keep{K:Za}{H H':Hp}{o:Option (Int×List Int)}{v:V}(h:Di K H o v)(s:ai H H'):Di K H' o v:=by
 cases o with
 |none=>exact h
 |some x=>obtain⟨a,e,sa⟩:=h;exact⟨a,e,sa.mono s⟩
section
variable{K:Za}{H H':Hp}{p C dx a:YE}{fs:List (Str×V)}{xs:List V}
theorem bU.ins(h:bU K H a xs)(hp:H p=some (.ins C dx fs))(u:bw p H H'):bU K H' a xs:=by
 rcases h with (q |⟨o,q⟩) |q
 ·exact .inl (.inl (u _ _ (cY q hp (by intro z;cases z)) q))
 ·exact .inl (.inr ⟨o,u _ _ (cY q hp (by intro z;cases z)) q⟩)
 ·exact .inr q
theorem gX.ins(h:gX K H a xs)(hp:H p=some (.ins C dx fs))(u:bw p H H'):gX K H' a xs:=by
 rcases h with (q |⟨o,q⟩) |q
 ·exact .inl (.inl (u _ _ (cY q hp (by intro z;cases z)) q))
 ·exact .inl (.inr ⟨o,u _ _ (cY q hp (by intro z;cases z)) q⟩)
 ·exact .inr q
theorem gC.ins{row:Int}{vals:List Int}(h:gC K H a row vals)(hp:H p=some (.ins C dx fs))(u:bw p H H'):gC K H' a row vals:=let ⟨va,h1,h2⟩:=h;⟨va,h1.ins hp u,h2.ins hp u⟩
theorem BZ.ins{CC ch:YE}{pr:PG.Prog}(c:BZ K CC H ch pr)(hp:H p=some (.ins C dx fs))(n:ch≠p)(u:bw p H H'):BZ K CC H' ch pr:=by
 obtain⟨dx,nl,sd,fa,va,st,wy,us,ws,h1,h2,h3,h4,h5,h6,h7,h8,h9,IM,FA,JL⟩:=c.at_;have k:∀ {b:YE} {o:HO},H b=some o->(∀C dx fs,o≠.ins C dx fs)->H' b=some o:=fun e no=>u _ _ (cY e hp (no _ _ _)) e;exact⟨⟨dx,nl,sd,fa,va,st,wy,us,ws,u _ _ n h1,k h2 (by intro _ _ _ z;cases z),k h3 (by intro _ _ _ z;cases z),k h4 (by intro _ _ _ z;cases z),k h5 (by intro _ _ _ z;cases z),k h6 (by intro _ _ _ z;cases z),h7,k h8 (by intro _ _ _ z;cases z),pE hp (aE.one u rfl) _ _ h9,IM,k FA (by intro _ _ _ z;cases z),fun i hi=>let ⟨q,e,r⟩:=JL i hi;⟨q,e,r.ins hp u⟩⟩⟩
end
def LN:PG.jF->List V
 |.on=>[.str "on"]
 |.out=>[.str "out"]
 |.bH r=>[.str "must",.int r]
 |.fin=>[.str "end"]
def sQ (K:Za) (H:Hp):Option PG.jF->V->Prop
 |none,v=>v=.f9
 |some e,v=>∃a,v=.ref a/\bU K H a (LN e)
theorem sQ.mono{K:Za}{H H':Hp}{e:Option PG.jF}{v:V}(h:sQ K H e v)(s:ai H H'):sQ K H' e v:=by
 cases e with
 |none=>exact h
 |some x=>obtain⟨a,e,q⟩:=h;exact⟨a,e,s.a7 q⟩
theorem sQ.ins{K:Za}{H H':Hp}{p C dx:YE}{fs:List (Str×V)}{e:Option PG.jF}{v:V}(h:sQ K H e v)(hp:H p=some (.ins C dx fs))(u:bw p H H'):sQ K H' e v:=by
 cases e with
 |none=>exact h
 |some x=>obtain⟨a,e,q⟩:=h;exact⟨a,e,q.ins hp u⟩
def Np (ch fl:YE) (n:Nat) (sa:YE) (ev:V):List (Str×V):=[("chart",.ref ch),("figures",.ref fl),("taken",.int n),("standing",.ref sa),("end",ev)]
structure B0(K:Za)(CC CW:YE)(H:Hp)(wk ch fl:YE)(pr:PG.Prog)(iQ:List Int)(n:Nat)(row:Int)(vals:List Int)(e:Option PG.jF):Prop where
 at_:∃(dx sa:YE) (ev:V),H wk=some (.ins CW dx (Np ch fl n sa ev))/\gC K H sa row vals/\sQ K H e ev
 Rt:BZ K CC H ch pr
 Ru:gX K H fl (iQ.map V.int)
 LO:ch≠wk
theorem B0.mono{K:Za}{CC CW:YE}{H H':Hp}{wk ch fl:YE}{pr:PG.Prog}{iQ:List Int}{n:Nat}{row:Int}{vals:List Int}{e:Option PG.jF}(h:B0 K CC CW H wk ch fl pr iQ n row vals e)(s:ai H H'):B0 K CC CW H' wk ch fl pr iQ n row vals e:=
 let ⟨dx,sa,ev,h1,h2,h3⟩:=h.at_
 ⟨⟨dx,sa,ev,s _ _ h1,h2.mono s,h3.mono s⟩,h.Rt.mono s,s.seq h.Ru,h.LO⟩
theorem B0.put{K:Za}{CC CW:YE}{H:Hp}{wk ch fl dx sa Nq:YE}{pr:PG.Prog}{iQ:List Int}{n n':Nat}{row LP:Int}{vals GD:List Int}{e e':Option PG.jF}{ev Nr:V}(h:B0 K CC CW H wk ch fl pr iQ n row vals e)(hw:H wk=some (.ins CW dx (Np ch fl n sa ev)))
 (hs:gC K H Nq LP GD) (he:sQ K H e' Nr):B0 K CC CW (upd H wk (.ins CW dx (Np ch fl n' Nq Nr))) wk ch fl pr iQ n' LP GD e':=by
 have u:bw wk H (upd H wk (.ins CW dx (Np ch fl n' Nq Nr))):=(bw.refl _ _).put _;exact⟨⟨dx,Nq,Nr,af,hs.ins hw u,he.ins hw u⟩,h.Rt.ins hw h.LO u,h.Ru.ins hw u,h.LO⟩
theorem B0.lst{K:Za}{CC CW:YE}{H H':Hp}{wk ch fl rl:YE}{pr:PG.Prog}{iQ:List Int}{n:Nat}{row:Int}{vals:List Int}{e:Option PG.jF}{xs:List V}(h:B0 K CC CW H wk ch fl pr iQ n row vals e)(hr:H rl=some (.lst xs))(u:bw rl H H')(c:BZ K CC H' ch pr)(f:gX K H' fl (iQ.map V.int)):B0 K CC CW H' wk ch fl pr iQ n row vals e:=by
 obtain⟨dx,sa,ev,h1,⟨va,h2,h3⟩,h4⟩:=h.at_;refine⟨⟨dx,sa,ev,u _ _ (cY h1 hr (by intro z;cases z)) h1,⟨va,h2.nJ hr u,h3.nJ hr u⟩,?_⟩,c,f,h.LO⟩;cases e with
 |none=>exact h4
 |some x=>obtain⟨a,e,q⟩:=h4;exact⟨a,e,q.nJ hr u⟩
def FC (b:List PG.aF) (row:Int):PG.aF:=((PG.aA b)[PG.Fx b row]?).getD (.stop 0)
def IT (b:List PG.aF) (row:Int):List Int:=(((PG.cA b 0)[PG.Fx b row]?).map (·.2.2)).getD []
def OT (b:List PG.aF) (row:Int):Bool:=decide ((FC b row).wd=.ask)
def Ar (pr:PG.Prog) (row:Int) (vals:List Int) (f:Int):Option (Int×List Int)×Option Int:=su pr.aS (FC pr.body row) (IT pr.body row) vals f
theorem FD{b:List PG.aF}(pw:(PG.aA b).Pairwise (fun a b=>a.row<b.row))(i:Nat)(hi:i<(PG.aA b).length):FC b (PG.aA b)[i].row=(PG.aA b)[i]:=by
 unfold FC;rw[PG.Ah pw i hi,Zd hi];rfl
theorem FE{b:List PG.aF}(pw:(PG.aA b).Pairwise (fun a b=>a.row<b.row))(i:Nat)(hi:i<(PG.aA b).length)(hf:i<(PG.cA b 0).length):IT b (PG.aA b)[i].row=(PG.cA b 0)[i].2.2:=by
 unfold IT;rw[PG.Ah pw i hi,Zd hf];rfl
structure xB(pr:PG.Prog)(row:Int)(vals:List Int):Prop where
 row:row=0\/∃i,∃hi:i<(PG.aA pr.body).length,(PG.aA pr.body)[i].row=row
 len:vals.length=pr.aS.length
 small:∀v∈vals,v.natAbs<=2 ^ 12
structure wa(pr:PG.Prog):Prop where
 ok:IS pr
 dep:PG.bA pr.body<=3
 n8:(PG.fI pr.body).length<=1000
 own:PG.Ag (·∈pr.aS.map (·.name)) (fun e=>PG.jE pr.aS e/\PG.cB e<=2) (·∈PG.px) pr.body
 size:∀b∈pr.aS,2<=b.size/\b.size<=10/\0<=b.first/\b.first<b.size
theorem As{pr:PG.Prog}{w:Int}(h:w=0\/w=0\/∃t∈PG.aA pr.body,t.row=w):w=0\/∃i,∃hi:i<(PG.aA pr.body).length,(PG.aA pr.body)[i].row=w:=by
 rcases h with h |h |⟨t,ht,e⟩
 ·exact .inl h
 ·exact .inl h
 ·obtain⟨i,hi,e2⟩:=Z9.mp ht;exact .inr ⟨i,hi,by rw[e2];exact e⟩
theorem wa.first{pr:PG.Prog}(d:wa pr):xB pr (PG.fO pr.body 0) (pr.aS.map (·.first)):=by
 refine⟨As (.inr ?_),by simp,fun v hv=>?_⟩
 ·rcases PG.ma pr.body 0 with e |e
  ·exact .inl e
  ·exact .inr e
 ·obtain⟨b,hb,rfl⟩:=Zp.mp hv;have:=d.size b hb;lia
theorem xC{pr:PG.Prog}(d:wa pr){x:W}(h:x∈pr.aS.map (·.name)):2<=k9 pr.aS x/\k9 pr.aS x<=10:=by
 obtain⟨hx,_⟩:=xA h;unfold k9;rw[Zd hx];have:=d.size _ (Zu hx);exact⟨this.1,this.2.1⟩
theorem xB.step{pr:PG.Prog}(d:wa pr){i:Nat}(hi:i<(PG.aA pr.body).length)(hf:i<(PG.cA pr.body 0).length){vals:List Int}{f:Int}(lv:vals.length=pr.aS.length)(sm:∀v∈vals,v.natAbs<=2 ^ 12){x:Int×List Int}{s:Option Int}
 (h:su pr.aS (PG.aA pr.body)[i] (PG.cA pr.body 0)[i].2.2 vals f=(some x,s)):xB pr x.1 x.2:=by
 have Dj:=PG.kK pr.body _ d.own (Zu hi);obtain⟨w0,w1⟩:=PG.kl pr.body 0 _ (Zu hf);have TR:=PG.mf pr.body 0 _ (Zu hf);obtain⟨_,_,ew⟩:=sP pr.body i hi;rw[ew] at w1;generalize (PG.cA pr.body 0)[i].2.2=ws at *;generalize (PG.aA pr.body)[i]=st at *;have r0:∀j,j<ws.length->ws.getD j 0=0\/∃i,∃hi:i<(PG.aA pr.body).length,(PG.aA pr.body)[i].row=ws.getD j 0:=fun j hj=>by
  rw[ZH,Zd hj];exact As (TR _ (Zu hj))
 have set:∀(b:W) (z:Int),b∈pr.aS.map (·.name)->(v9 pr.aS vals b (z%k9 pr.aS b)).length=pr.aS.length/\∀v∈v9 pr.aS vals b (z%k9 pr.aS b),v.natAbs<=2 ^ 12:=fun b z hb=>by
  unfold v9;refine⟨by rw[Xq];exact lv,fun v hv=>?_⟩;rcases WY hv with hv |rfl
  ·exact sm v hv
  ·have:=xC d hb;have m1:=XQ z (b:=k9 pr.aS b) (by lia);have m2:=XH z (b:=k9 pr.aS b) (by lia);lia
 have cs:mh pr.aS st ws vals=some x->(st.wd=.bH\/st.wd=.ifs\/st.wd=.cZ)->xB pr x.1 x.2:=by
  intro e hw;unfold mh at e;split at e
  ·cases e
  ·split at e
   ·cases e;exact⟨r0 0 w0,lv,sm⟩
   ·split at e
    ·cases e
    ·rename_i nm;cases e;exact⟨r0 1 (w1 (hw.resolve_left nm)),lv,sm⟩
 have JM:∀(y:Int×List Int) (s':Option Int),(some y,s')=(some x,s)->xB pr y.1 y.2->xB pr x.1 x.2:=fun y s' e h=>by cases e;exact h
 cases st<;>rw[PG.xw] at Dj
 ·exact JM _ _ h ⟨r0 0 w0,(set _ _ Dj).1,(set _ _ Dj).2⟩
 ·exact JM _ _ h ⟨r0 0 w0,(set _ _ Dj.1).1,(set _ _ Dj.1).2⟩
 ·exact JM _ _ h ⟨r0 0 w0,lv,sm⟩
 ·exact cs (congrArg Prod.fst h) (.inl rfl)
 ·exact JM _ _ h ⟨r0 0 w0,lv,sm⟩
 ·exact cs (congrArg Prod.fst h) (.inr (.inl rfl))
 ·exact cs (congrArg Prod.fst h) (.inr (.inr rfl))
section
variable(K:Za)(CC CW:YE)
def Dl (H:Hp) (q:YE) (o:PG.Rq):Prop:=∃(r s e:YE),bU K H q [.ref r,.ref s,.ref e]/\H r=some (.lst (o.rows.map V.int))/\H s=some (.lst (o.OP.map V.int))/\r≠s/\bU K H e (LN o.fin)
end
theorem gC.nJ{K:Za}{H H':Hp}{D a:YE}{ys:List V}{row:Int}{vals:List Int}(h:gC K H a row vals)(hD:H D=some (.lst ys))(u:bw D H H'):gC K H' a row vals:=let ⟨va,h1,h2⟩:=h;⟨va,h1.nJ hD u,h2.nJ hD u⟩
theorem Dl.mono{K:Za}{H H':Hp}{q:YE}{o:PG.Rq}(h:Dl K H q o)(s:ai H H'):Dl K H' q o:=let ⟨r,t,e,h1,h2,h3,h4,h5⟩:=h;⟨r,t,e,s.a7 h1,s _ _ h2,s _ _ h3,h4,s.a7 h5⟩
section
variable{sa sb sc:Int}{a b c g:Int}{l:List Int}
def eM (sa:Nat):List Int:=[6,7]++(ZF sa [8,9]).flatten++[8,11]
end
section
variable{prog:YR}{w:YG}
def IU (prog:YR) (w:YG) (h:Heap) (x:Key×List Key) (a:YE):Prop:=∃(o:Obj) (n:Nat) (u:YF) (b:YE),h.get? a=some o/\o.cls=.type "tuple"/\o.data=.seq #[u,.ref b] n/\rW x.1 u=true/\IsTupleKey (cn prog w) h x.2 b
theorem IU.one{h:Heap}{a:YE}{x y:Key×List Key}(hx:IU prog w h x a)(hy:IU prog w h y a):x=y:=by
 obtain⟨o,n,u,b,e,_,d,i,t⟩:=hx;obtain⟨o',n',u',b',e',_,d',i',t'⟩:=hy;rw[e] at e';cases e';rw[d] at d'
 injection d' with d1 _
 have d1:=congrArg Yr d1;simp only[List.cons.injEq,Value.ref.injEq,and_true] at d1;obtain⟨rfl,rfl⟩:=d1;exact Prod.ext ((cn prog w).inj _ _ _ i i') (t.inj t')
variable{A:YQ}{E:YF->YO->Prop}{s:YO}
end
def tN (b:Bool):Int:=if b then 1 else 0
theorem IV{a b:Bool}:(tN a==tN b)=(a==b):=by cases a<;>cases b<;>rfl
structure KH(κ:Type)[DecidableEq κ] where
 knd:∀(P:YR) (w:YG),HeapKind P w κ
 on:Za->Hp->κ->YE->Prop
 up:∀ {K:Za} {H H':Hp} {x:κ} {a:YE},(∀b ys,bU K H b ys->bU K H' b ys)->on K H x a->on K H' x a
 of:∀ {X:Cx} {pins:List (YE×Obj)} {σ:St} {H:Hp} {s:YO} {x:κ} {a:YE},Inv X pins σ H s->on X.K H x a->(knd X.prog X.w).is s.heap x a
 room:∀ {P:YR} {w:YG} {A:YQ},A.units+16<cLine->(knd P w).room A.in1
section
variable{κ:Type}[DecidableEq κ](J:KH κ)
def GF (P:YR) (w:YG) (a:YE) (xs:List (κ×YE×YF)):Heap->Prop:=fun h=>∃o es ep,h.get? a=some o/\o.ExactDict/\o.data=.dict es ep/\es.toList=xs.map (entryOfKey (J.knd P w))
abbrev KS (K:Za) (H:Hp):List (κ×V)->List (κ×YE×YF)->Prop:=Paired fun p q=>p.1=q.1/\J.on K H p.1 q.2.1/\RelV p.2 q.2.2
structure DS(P:YR)(w:YG)(K:Za)(H:Hp)(a:YE)(aJ:List (κ×V)):Prop where
 len:aJ.length<=YM
 sys:(a==sysModules)=false
 at_:∃xs,H a=some (.ext (GF J P w a xs))/\KS J K H aJ xs/\(xs.map (·.1)).Nodup
variable{J}
section
variable{K:Za}{H H':Hp}{aJ:List (κ×V)}{xs:List (κ×YE×YF)}
theorem KS.val(r:KS J K H aJ xs)(k:κ):ow (dR aJ k) ((atKey xs k).map (·.2)):=by
 induction r with
 |nil=>exact True.intro
 |@cons p q ps qs h t ih=>
  by_cases e:p.1=k
  ·rw[dM e,show atKey (q::qs) k=some q.2 by simp[atKey,h.1.symm.trans e]];exact h.2.2
  ·have e':¬q.1=k:=fun z=>e (h.1.trans z);rw[dN e,show atKey (q::qs) k=atKey qs k by simp[atKey,e']];exact ih
theorem KS.put(r:KS J K H aJ xs)(k:κ){b:YE}{y:V}{u:YF}(hb:J.on K H k b)(ry:RelV y u):KS J K H (putK aJ k y) (storedH xs k b u):=by
 have e:(aJ.any fun kv=>decide (kv.1=k))=(atKey xs k).isSome:=by rw[kg,(r.val k).uZ,Yz]
 unfold putK storedH;rw[e];by_cases q:(atKey xs k).isSome=true
 ·rw[if_pos q,if_pos q];clear e q
  induction r with
  |nil=>exact .nil
  |@cons p q ps qs h t ih=>
   refine .cons ?_ ih;dsimp only;unfold putAt;by_cases e:p.1=k
   ·rw[if_pos e];rw[if_pos (h.1.symm.trans e)];exact⟨h.1,h.2.1,ry⟩
   ·rw[if_neg e];rw[if_neg fun z=>e (h.1.trans z)];exact h
 ·rw[if_neg q,if_neg q];exact Paired.snoc r ⟨rfl,hb,ry⟩
theorem KS.up(r:KS J K H aJ xs)(t:∀b ys,bU K H b ys->bU K H' b ys):KS J K H' aJ xs:=Paired.w8 r fun _ _ z=>⟨z.1,J.up t z.2.1,z.2.2⟩
end
section
variable{X:Cx}{pins:List (YE×Obj)}{σ:St}{H:Hp}{s:YO}{a b:YE}{v:V}{u r:YF}{A:YQ}{E:YF->YO->Prop}{aJ:List (κ×V)}{k:κ}
theorem bU.ext{K:Za}{H:Hp}{a c:YE}{φ:Heap->Prop}{o:HO}{ys:List V}(h:bU K H c ys)(e:H a=some (.ext φ)):bU K (upd H a o) c ys:=by
 rcases h with (q |⟨o',q⟩) |q
 ·exact .inl (.inl (by rw[aL (cY q e (by intro z;cases z))];exact q))
 ·exact .inl (.inr ⟨o',by rw[aL (cY q e (by intro z;cases z))];exact q⟩)
 ·exact .inr q
end
theorem DS.OU{P:YR}{w:YG}{K:Za}{H H':Hp}{a:YE}{aJ:List (κ×V)}(d:DS J P w K H a aJ)(e:∀o,H a=some o->H' a=some o)(t:∀b ys,bU K H b ys->bU K H' b ys):DS J P w K H' a aJ:=⟨d.len,d.sys,let ⟨xs,h,r,nd⟩:=d.at_;⟨xs,e _ h,r.up t,nd⟩⟩
theorem DS.mono{P:YR}{w:YG}{K:Za}{H H':Hp}{a:YE}{aJ:List (κ×V)}(d:DS J P w K H a aJ)(s:ai H H'):DS J P w K H' a aJ:=d.OU (fun o h=>s _ _ h) fun b ys q=>s.a7 q
section
variable{X:Cx}{o i value:Expr}{pos pos':Pos}{td ty tv:TE}
def Dm (J:KH κ) (P:YR) (w:YG):TE:=fun _ H Q=>∀p,H p=none->(p==sysModules)=false->Q (.ref p) (upd H p (.ext (GF J P w p [])))
def Dn (J:KH κ) (P:YR) (w:YG) (K:Za) (td ty tv:TE):TS:=fun D σ H=>tv σ H fun v H1=>td σ H1 fun x H2=>ty σ H2 fun y H3=>∃(a b:YE) (aJ:List (κ×V)) (k:κ),x=.ref a/\y=.ref b/\DS J P w K H3 a aJ/\J.on K H3 k b/\aJ.length<YM/\
 ∀H4,DS J P w K H4 a (putK aJ k v)->(∃φ,H4=upd H3 a (.ext φ))->D.nx σ H4
def Dq (J:KH κ) (P:YR) (w:YG) (K:Za) (td ty:TE):TE:=fun σ H Q=>td σ H fun x H1=>ty σ H1 fun y H2=>∃(a b:YE) (aJ:List (κ×V)) (k:κ) (v:V),x=.ref a/\y=.ref b/\DS J P w K H2 a aJ/\J.on K H2 k b/\dR aJ k=some v/\Q v H2
end
end
abbrev yU:=Key×List Key
def Dr (h:Heap) (d:YE) (es:Array DictEntry) (ep:Nat):Prop:=∃o,h.get? d=some o/\o.ExactDict/\o.data=.dict es ep
section
variable{prog:YR}{w:YG}{A:YQ}{E:YF->YO->Prop}{s:YO}{d it:YE}{es:Array DictEntry}{ep i:Nat}
theorem Dr.OU{h h':Heap}(x:Dr h d es ep)(e:∀o,h.get? d=some o->h'.get? d=some o):Dr h' d es ep:=let ⟨o,g,r⟩:=x;⟨o,e _ g,r⟩
end
end L2
namespace PG
section
variable{β:Type}(ask:Int->Bool)(step:Int->List Int->Int->Option (Int×List Int)×Option Int)(tg:Int×List Int->List β)
abbrev eB:=Int×List Int
def wU (x:eB×List Int):Option (eB×List Int):=if x.1.1=0 then none else match take1 (ask x.1.1) x.2 with
 |none=>none
 |some (f,r)=>(step x.1.1 x.1.2 f).1.map fun y=>(y,r)
inductive Met:eB×List Int->β->Prop
 |here {s t}:t∈tg s.1->Met s t
 |on {s s' t}:wU ask step s=some s'->Met s' t->Met s t
variable{ask step tg}
theorem qr{s:eB}{l:List Int}(h0:s.1≠0)(ha:ask s.1=false):wU ask step (s,l)=(step s.1 s.2 0).1.map fun y=>(y,l):=by
 unfold wU;rw[if_neg h0];simp only[take1,ha,XG,if_false]
theorem FF{s:eB}{f:Int}{l:List Int}(h0:s.1≠0)(ha:ask s.1=true):wU ask step (s,f::l)=(step s.1 s.2 f).1.map fun y=>(y,l):=by
 unfold wU;rw[if_neg h0];simp only[take1,ha,if_true]
theorem Ds{s:eB}{l:List Int}(h0:s.1=0):wU ask step (s,l)=none:=by
 unfold wU;rw[if_pos h0]
structure MI(ask:Int->Bool)(step:Int->List Int->Int->Option (Int×List Int)×Option Int)(tg:Int×List Int->List β)(s0:eB×List Int)(ms:List β)(seen:List eB)(s:eB×List Int):Prop where
 a:∀t,Met ask step tg s0 t->t∈ms\/Met ask step tg s t
 b:∀t∈ms,Met ask step tg s0 t
 c:∀t,Met ask step tg s t->Met ask step tg s0 t
 d:∀x∈seen,(∀t∈tg x,t∈ms)/\x.1≠0/\ask x.1=false/\∀y,(step x.1 x.2 0).1=some y->y∈seen\/y=s.1
variable{s0 s s':eB×List Int}{ms IW:List β}{seen:List eB}
theorem FG(h:wU ask step s=none){t:β}(m:Met ask step tg s t):t∈tg s.1:=by
 cases m with
 |here m=>exact m
 |on e _=>rw[h] at e;cases e
theorem MI.fin(h:MI ask step tg s0 ms seen s)(hm:∀t,t∈IW↔t∈ms\/t∈tg s.1)(he:wU ask step s=none\/s.1∈seen)(t:β):t∈IW↔Met ask step tg s0 t:=by
 rw[hm];refine⟨fun z=>z.elim (h.b t) fun z=>h.c t (.here z),fun z=>?_⟩;rcases h.a t z with z |z
 ·exact .inl z
 rcases he with he |he
 ·exact .inr (FG he z)
 ·have key:∀s' t,Met ask step tg s' t->s'.1∈seen->t∈ms:=by
   intro s' t m
   induction m with
   |here m=>exact fun q=>(h.d _ q).1 _ m
   |@on a b t e _ ih=>
    intro q;obtain⟨_,h0,ha,hs⟩:=h.d _ q;obtain⟨a1,a2⟩:=a;rw[qr h0 ha] at e;obtain⟨y,hy,rfl⟩:=ZS.mp e;rcases hs y hy with q2 |rfl
    ·exact ih q2
    ·exact ih he
  exact .inl (key _ _ z he)
theorem MI.next(h:MI ask step tg s0 ms seen s)(hm:∀t,t∈IW↔t∈ms\/t∈tg s.1)(hn:wU ask step s=some s'\/wU ask step s=none/\s'=s) :
 (∀t,Met ask step tg s0 t->t∈IW\/Met ask step tg s' t)/\(∀t∈IW,Met ask step tg s0 t)/\∀t,Met ask step tg s' t->Met ask step tg s0 t:=by
 refine⟨fun t m=>?_,fun t m=>?_,fun t m=>?_⟩
 ·rw[hm];rcases h.a t m with z |z
  ·exact .inl (.inl z)
  ·rcases hn with hn |⟨hn,rfl⟩
   ·cases z with
    |here z=>exact .inl (.inr z)
    |on e z=>rw[hn] at e;cases e;exact .inr z
   ·exact .inr z
 ·rcases(hm t).mp m with z |z
  ·exact h.b t z
  ·exact h.c t (.here z)
 ·rcases hn with hn |⟨hn,rfl⟩
  ·exact h.c t (.on hn m)
  ·exact h.c t m
structure Seg(ask:Int->Bool)(step:Int->List Int->Int->Option (Int×List Int)×Option Int)(s:eB)(g:List eB):Prop where
 head:g[0]?=some s
 mid:∀i (h:i+1<g.length),g[i].1≠0/\ask g[i].1=false/\(step g[i].1 g[i].2 0).1=some g[i+1]
 last:∀x,g.getLast?=some x->x.1=0\/ask x.1=true\/(step x.1 x.2 0).1=none\/∃y∈g,(step x.1 x.2 0).1=some y
section
variable{s:eB}{g:List eB}{l:List Int}
theorem Seg.nx(h:Seg ask step s g)(i:Nat)(hi:i+1<g.length):wU ask step (g[i],l)=some (g[i+1],l):=by
 obtain⟨h0,ha,e⟩:=h.mid i hi;rw[qr h0 ha,e];rfl
theorem Seg.up(h:Seg ask step s g):∀(i:Nat) (hi:i<g.length) (t:β),Met ask step tg (g[i],l) t->Met ask step tg (s,l) t
 |0,hi,t,m=>by
  have:=h.head;rw[Zd hi] at this;cases this;exact m
 |i+1,hi,t,m=>h.up i (by lia) t (.on (h.nx i hi) m)
theorem Seg.met(h:Seg ask step s g){x:eB}(hx:x∈g){t:β}(ht:t∈tg x):Met ask step tg (s,l) t:=by
 obtain⟨i,hi,rfl⟩:=Z9.mp hx;exact h.up i hi t (.here ht)
theorem Seg.FI{x:eB}(hx:g.getLast?=some x):∃hi:g.length-1<g.length,g[g.length-1]=x:=by
 rw[XR] at hx;exact Zi.mp hx
theorem Seg.all(h:Seg ask step s g){t:β}(m:Met ask step tg (s,l) t):(∃x∈g,t∈tg x)\/∃x s',g.getLast?=some x/\x.1≠0/\ask x.1=true/\wU ask step (x,l)=some s'/\Met ask step tg s' t:=by
 have key:∀s' t,Met ask step tg s' t->s'.2=l->s'.1∈g->(∃x∈g,t∈tg x)\/∃x s',g.getLast?=some x/\x.1≠0/\ask x.1=true/\wU ask step (x,l)=some s'/\Met ask step tg s' t:=by
  intro s' t m
  induction m with
  |here m=>exact fun _ q=>.inl ⟨_,q,m⟩
  |@on a b t e mm ih=>
   intro el q;obtain⟨a1,a2⟩:=a;simp only at el q;subst el;obtain⟨i,hi,rfl⟩:=Z9.mp q;by_cases hl:i+1<g.length
   ·rw[h.nx i hl] at e;cases e;exact ih rfl (Zu hl)
   ·have ei:g.length-1=i:=by lia
    have hx:g.getLast?=some g[i]:=by rw[XR,ei,Zd hi]
    by_cases h0:g[i].1=0
    ·rw[Ds h0] at e;cases e
    cases ha:ask g[i].1 with
    |true=>exact .inr ⟨_,_,hx,h0,ha,e,mm⟩
    |false=>
     rw[qr h0 ha] at e;rcases h.last _ hx with z |z |z |⟨y,hy,z⟩
     ·exact absurd z h0
     ·rw[ha] at z;cases z
     ·rw[z] at e;cases e
     ·rw[z] at e;cases e;exact ih rfl hy
 refine key _ _ m rfl ?_;exact List.mem_iff_getElem?.mpr ⟨0,h.head⟩
end
structure LI(ask:Int->Bool)(step:Int->List Int->Int->Option (Int×List Int)×Option Int)(tg:Int×List Int->List β)(s0:eB×List Int)(ms:List β)(o:Option eB)(l:List Int):Prop where
 a:∀t,Met ask step tg s0 t->t∈ms\/∃s,o=some s/\Met ask step tg (s,l) t
 b:∀t∈ms,Met ask step tg s0 t
 c:∀s t,o=some s->Met ask step tg (s,l) t->Met ask step tg s0 t
theorem LI.fin{l:List Int}(h:LI ask step tg s0 ms none l)(t:β):t∈ms↔Met ask step tg s0 t:=⟨h.b t,fun z=>(h.a t z).elim (fun z=>z) fun ⟨_,e,_⟩=>by cases e⟩
section
variable{s x y:eB}{g:List eB}{l r:List Int}{f:Int}
theorem LI.on(h:LI ask step tg s0 ms (some s) l)(q:Seg ask step s g)(hm:∀t,t∈IW↔t∈ms\/∃x∈g,t∈tg x)(hx:g.getLast?=some x)(h0:x.1≠0)(ha:ask x.1=true)(hl:l=f::r)(hy:(step x.1 x.2 f).1=some y):LI ask step tg s0 IW (some y) r:=by
 subst hl;have e:wU ask step (x,f::r)=some (y,r):=by rw[FF h0 ha,hy];rfl
 refine⟨fun t m=>?_,fun t m=>?_,fun s' t e' m=>?_⟩
 ·rw[hm];rcases h.a t m with z |⟨_,z,m⟩
  ·exact .inl (.inl z)
  ·cases z;rcases q.all m with z |⟨x',s',xD,_,_,e',m'⟩
   ·exact .inl (.inr z)
   ·rw[hx] at xD;cases xD;rw[e] at e';cases e';exact .inr ⟨y,rfl,m'⟩
 ·rcases(hm t).mp m with z |⟨x,hx,ht⟩
  ·exact h.b t z
  ·exact h.c _ t rfl (q.met hx ht)
 ·cases e';obtain⟨hi,e1⟩:=Seg.FI hx;exact h.c _ t rfl (q.up _ hi t (by rw[e1];exact .on e m))
end
structure TI(ask:Int->Bool)(step:Int->List Int->Int->Option (Int×List Int)×Option Int)(s:eB)(g:List eB)(o:Option eB):Prop where
 nil:g=[]->o=some s
 head:g≠[]->g[0]?=some s
 mid:∀i (h:i+1<g.length),g[i].1≠0/\ask g[i].1=false/\(step g[i].1 g[i].2 0).1=some g[i+1]
 last:∀x,g.getLast?=some x->x.1≠0/\ask x.1=false/\(step x.1 x.2 0).1=o
section
variable{s x:eB}{g:List eB}{o:Option eB}
theorem TI.LQ(h:TI ask step s g (some x)):(g++[x])[0]?=some s/\∀i (hi:i+1<(g++[x]).length),(g++[x])[i].1≠0/\ask (g++[x])[i].1=false/\(step (g++[x])[i].1 (g++[x])[i].2 0).1=some (g++[x])[i+1]:=by
 refine⟨?_,fun i hi=>?_⟩
 ·cases g with
  |nil=>exact h.nil rfl
  |cons a r=>exact h.head (by simp)
 ·simp only[Zc,Zm] at hi;have l1:i<g.length:=by lia
  rw[XU l1];by_cases hl:i+1<g.length
  ·rw[XU hl];exact h.mid i hl
  ·have ei:g.length-1=i:=by lia
   have hx:g.getLast?=some g[i]:=by rw[XR,ei,Zd l1]
   obtain⟨a,b,c⟩:=h.last _ hx;refine⟨a,b,?_⟩;rw[c,WZ (by lia)];simp
theorem TI.push(h:TI ask step s g (some x))(h0:x.1≠0)(ha:ask x.1=false):TI ask step s (g++[x]) (step x.1 x.2 0).1:=
 ⟨fun e=>(by simp at e),fun _=>h.LQ.1,h.LQ.2,fun y hy=>by simp only[List.getLast?_append,List.getLast?_singleton,Option.some_or,Z5.injEq] at hy;subst hy;exact⟨h0,ha,rfl⟩⟩
theorem TI.fin(h:TI ask step s g o)(ho:o=YA\/∃x∈g,o=some x):Seg ask step s g:=by
 have ne:g≠[]:=fun e=>by
  have:=h.nil e;subst e;rcases ho with rfl |⟨x,hx,_⟩
  ·cases this
  ·cases hx
 refine⟨h.head ne,h.mid,fun y hy=>.inr (.inr ?_)⟩;obtain⟨_,_,c⟩:=h.last y hy;rcases ho with rfl |⟨x,hx,rfl⟩
 ·exact .inl c
 ·exact .inr ⟨x,hx,c⟩
end
end
def oD:List Int->List Int->Prop
 |[],[]=>True
 |s::r,v::t=>(0<=v/\v<s)/\oD r t
 |[],_::_=>False
 |_::_,[]=>False
theorem oD.len:∀ {ss vs:List Int},oD ss vs->vs.length=ss.length
 |[],[],_=>rfl
 |s::r,v::t,h=>by
  rw[oD] at h;simp[h.2.len]
 |[],v::t,h=>by rw[oD] at h;exact h.elim
 |s::r,[],h=>by rw[oD] at h;exact h.elim
theorem oD.set:∀ {ss vs:List Int} (i:Nat) (v:Int),oD ss vs->(∀s,ss[i]?=some s->0<=v/\v<s)->oD ss (vs.set i v)
 |[],[],i,v,h,_=>h
 |s::r,u::t,0,v,h,q=>by
  rw[oD] at h;rw[List.set_cons_zero,oD];exact⟨q s rfl,h.2⟩
 |s::r,u::t,i+1,v,h,q=>by
  rw[oD] at h;rw[List.set_cons_succ,oD];exact⟨h.1,h.2.set i v fun z hz=>q z (by simpa using hz)⟩
 |[],u::t,i,v,h,q=>by rw[oD] at h;exact h.elim
 |s::r,[],i,v,h,q=>by rw[oD] at h;exact h.elim
end PG
namespace L2
open PySem
def FH (K:Za) (x:Str) (st:Stmt) (f:YE):Prop:=Xj K YL x=some (some (.ref f))/\∃fd,Fg K x x st f fd
theorem FH.of{K:Za}{x:Str}{st:Stmt}{f:YE}{oc:YF}{od an:Option YE}{EH:Array (Option YF)}{kV doc pm gP ct:YF}(a:Xj K YL x=some (some (.ref f)))(l:K.lookup f=some ⟨oc,od,.func (XA x x (nr st) (jP st) (aO st) .none kV doc pm an gP ct),EH⟩)
 (c:WS K gP x=true) (k:WR K (.ref f)=true):FH K x st f:=⟨a,_,Ir l c k⟩
theorem yr{α:Type}{P:List α->Prop}(h:∀a,P [a])(us:List α)(e:us.length=1):P us:=match us,e with |[a],_=>h a
theorem LR{α:Type}{P:List α->Prop}(h:∀a b,P [a,b])(us:List α)(e:us.length=2):P us:=match us,e with |[a,b],_=>h a b
theorem JN{α:Type}{P:List α->Prop}(h:∀a b c,P [a,b,c])(us:List α)(e:us.length=3):P us:=match us,e with |[a,b,c],_=>h a b c
theorem qt{K:Za}{mg:Str->Option YF}{h:Heap}{x:Str}{st:Stmt}{f:YE}{ps:List Str}(X:K.In h)(G:h.Ns YL mg)(q:FH K x st f)
 (b:∀(kV doc pm:YF) (an:Option YE) (gP ct:YF) (us:List YF),us.length=ps.length->bindArgs (XA x x (nr st) (jP st) (aO st) .none kV doc pm an gP ct) ⟨us,[]⟩=pure (ps.zip us)):∃fd,dO K mg x st ps f fd:=
 let ⟨a,fd,F⟩:=q
 ⟨fd,F,F.binds b,X7 X G a⟩
theorem Dt{CX:yG}{P:YR}{w:YG}{K:Za}{mg:Str->Option YF}{base:Heap}{N:List Str}{qual:Str}{scope:Scope}{f:YE}{cd:YF}{A:YQ}{outer:List Env}{s:YO}{H:Hp}{E:XK}:(t8 CX P w K mg base N qual scope f cd A outer s H E).prog=P:=rfl
theorem Du{CX:yG}{P:YR}{w:YG}{K:Za}{mg:Str->Option YF}{base:Heap}{N:List Str}{qual:Str}{scope:Scope}{f:YE}{cd:YF}{A:YQ}{outer:List Env}{s:YO}{H:Hp}{E:XK}:(t8 CX P w K mg base N qual scope f cd A outer s H E).w=w:=rfl
theorem cV{tt:TT}{a b:TS}{D:Ends}{σ:St}{H:Hp}(h:∀U:St->Hp->Prop,(∀σ' H',U σ' H'↔a D σ' H')->tt σ H fun c H1=>if c=true then U σ H1 else b D σ H1):EY tt a b D σ H:=h (a D) fun _ _=>Iff.rfl
def xE:PG.Tg->List Key
 |.row k=>[.inr "row",.inl k]
 |.side k b=>[.inr "side",.inl k,.inl (tN b)]
 |.bH k=>[.inr "must",.inl k]
 |.fin=>[.inr "end"]
theorem Bu{a b:PG.Tg}(h:xE a=xE b):a=b:=by
 have s1:(Zj "row":Str)≠Zj "must":=by decide +kernel
 cases a<;>cases b<;>simp only[xE,List.cons.injEq,Sum.inl.injEq,Sum.inr.injEq,and_true,reduceCtorEq,and_false] at h
 ·rw[h.2]
 ·exact absurd h.1 s1
 ·obtain⟨_,rfl,e⟩:=h;have e:=(beq_iff_eq (α:=Int)).mpr e;rw[IV] at e;rw[beq_iff_eq.mp e]
 ·exact absurd h.1.symm s1
 ·rw[h.2]
 ·rfl
def Bv (s:PG.eB):yU:=(.inl s.1,s.2.map .inl)
theorem Dv{a b:PG.eB}(h:Bv a=Bv b):a=b:=by
 obtain⟨a1,a2⟩:=a;obtain⟨b1,b2⟩:=b;simp only[Bv,Prod.mk.injEq,Sum.inl.injEq] at h;obtain⟨rfl,h⟩:=h;have h:=(List.map_inj_right (fun x y (e:(Sum.inl x:Key)=.inl y)=>Sum.inl.inj e)).mp h;rw[h]
section
variable{κ:Type}[DecidableEq κ]{J:KH κ}{P:YR}{w:YG}{K:Za}{H H':Hp}{a b p C dx:YE}{aJ:List (κ×V)}{φ:Heap->Prop}{fs:List (Str×V)}{xs:List V}
theorem DS.OV(d:DS J P w K H a aJ):∃φ,H a=some (.ext φ):=let ⟨xs,h,_⟩:=d.at_;⟨_,h⟩
theorem DS.ins(d:DS J P w K H a aJ)(hp:H p=some (.ins C dx fs))(u:bw p H H'):DS J P w K H' a aJ:=by
 obtain⟨φ,e⟩:=d.OV;exact d.OU (fun o h=>u _ _ (cY e hp (by intro z;cases z)) h) fun b ys q=>q.ins hp u
theorem bU.yV(h:bU K H a xs)(hb:H b=some (.ext φ))(u:bw b H H'):bU K H' a xs:=by
 rcases h with (q |⟨o',q⟩) |q
 ·exact .inl (.inl (u _ _ (cY q hb (by intro z;cases z)) q))
 ·exact .inl (.inr ⟨o',u _ _ (cY q hb (by intro z;cases z)) q⟩)
 ·exact .inr q
theorem gC.ext{row:Int}{vals:List Int}(h:gC K H a row vals)(hb:H b=some (.ext φ))(u:bw b H H'):gC K H' a row vals:=let ⟨va,h1,h2⟩:=h;⟨va,h1.yV hb u,h2.yV hb u⟩
theorem sQ.ext{e:Option PG.jF}{v:V}(h:sQ K H e v)(hb:H b=some (.ext φ))(u:bw b H H'):sQ K H' e v:=by
 cases e with
 |none=>exact h
 |some x=>obtain⟨a,e,q⟩:=h;exact⟨a,e,q.yV hb u⟩
theorem B0.ext{CC CW wk ch fl:YE}{pr:PG.Prog}{iQ:List Int}{n:Nat}{row:Int}{vals:List Int}{e:Option PG.jF}(h:B0 K CC CW H wk ch fl pr iQ n row vals e)(hb:H b=some (.ext φ))(u:bw b H H')(c:BZ K CC H' ch pr)(f:gX K H' fl (iQ.map V.int)):B0 K CC CW H' wk ch fl pr iQ n row vals e:=by
 obtain⟨dx,sa,ev,h1,h2,h3⟩:=h.at_;exact⟨⟨dx,sa,ev,u _ _ (cY h1 hb (by intro z;cases z)) h1,h2.ext hb u,h3.ext hb u⟩,c,f,h.LO⟩
end
def oE (pr:PG.Prog):List Int:=pr.aS.map (·.size)
structure xF(pr:PG.Prog)(s:PG.eB):Prop where
 ok:xB pr s.1 s.2
 inv:PG.oD (oE pr) s.2
theorem oD.first:∀ {bs:List PG.eK},(∀b∈bs,2<=b.size/\b.size<=10/\0<=b.first/\b.first<b.size)->PG.oD (bs.map (·.size)) (bs.map (·.first))
 |[],_=>trivial
 |b::r,h=>by
  simp only[ZD,PG.oD];have:=h b (Zt ..);exact⟨⟨by lia,by lia⟩,oD.first fun x hx=>h x (Zk _ hx)⟩
theorem xF.first{pr:PG.Prog}(d:wa pr):xF pr (PG.fO pr.body 0,pr.aS.map (·.first)):=⟨d.first,oD.first d.size⟩
theorem oD.v9{pr:PG.Prog}(d:wa pr){vals:List Int}(h:PG.oD (oE pr) vals){b:W}(hb:b∈pr.aS.map (·.name))(z:Int):PG.oD (oE pr) (v9 pr.aS vals b (z%k9 pr.aS b)):=by
 refine h.set _ _ fun s hs=>?_;obtain⟨hx,_⟩:=xA hb;have e:k9 pr.aS b=s:=by
  unfold k9;rw[oE,Zq,Zd hx] at hs;rw[Zd hx];exact Z5.inj hs
 have:=xC d hb;rw[e] at this ⊢;exact⟨XQ z (by lia),XH z (by lia)⟩
theorem oD.step{pr:PG.Prog}(d:wa pr){st:PG.aF}(ok:PG.xw (·∈pr.aS.map (·.name)) (fun e=>PG.jE pr.aS e/\PG.cB e<=2) (·∈PG.px) st){ws vals:List Int}{f:Int}(h:PG.oD (oE pr) vals){x:PG.eB}(e:(su pr.aS st ws vals f).1=some x):PG.oD (oE pr) x.2:=by
 have cs:mh pr.aS st ws vals=some x->PG.oD (oE pr) x.2:=by
  intro e;unfold mh at e;split at e
  ·cases e
  ·split at e
   ·cases e;exact h
   ·split at e
    ·cases e
    ·cases e;exact h
 cases st<;>rw[PG.xw] at ok
 ·cases e;exact oD.v9 d h ok _
 ·cases e;exact oD.v9 d h ok.1 _
 ·cases e;exact h
 ·exact cs e
 ·cases e;exact h
 ·exact cs e
 ·exact cs e
theorem Dw{pr:PG.Prog}(ok:IS pr){i:Nat}(hi:i<(PG.aA pr.body).length)(hf:i<(PG.cA pr.body 0).length)(vals:List Int)(f:Int):Ar pr (PG.aA pr.body)[i].row vals f=su pr.aS (PG.aA pr.body)[i] (PG.cA pr.body 0)[i].2.2 vals f:=by
 unfold Ar;rw[FD ok.pw i hi,FE ok.pw i hi hf]
theorem xF.next{pr:PG.Prog}(d:wa pr){s x:PG.eB}(h:xF pr s)(h0:s.1≠0){f:Int}(e:(Ar pr s.1 s.2 f).1=some x):xF pr x:=by
 obtain⟨row,vals⟩:=s;obtain⟨i,hi,rfl⟩:=h.ok.row.resolve_left h0;obtain⟨hf,_,_⟩:=sP pr.body i hi;rw[Dw d.ok hi hf] at e;refine⟨?_,oD.step d (PG.kK pr.body _ d.own (Zu hi)) h.inv e⟩;rcases hs:su pr.aS (PG.aA pr.body)[i] (PG.cA pr.body 0)[i].2.2 vals f with ⟨o,sd⟩
 rw[hs] at e;exact xB.step d hi hf h.ok.len h.ok.small (by rw[hs];exact congrArg (·,sd) e)
theorem xF.nx{pr:PG.Prog}(d:wa pr){s s':PG.eB×List Int}(h:xF pr s.1)(e:PG.wU (OT pr.body) (Ar pr) s=some s'):xF pr s'.1:=by
 unfold PG.wU at e;split at e
 ·cases e
 ·rename_i h0;split at e
  ·cases e
  ·obtain⟨y,hy,rfl⟩:=ZS.mp e;exact h.next d h0 hy
structure ml(K:Za)(H:Hp)(md:YE)(pr:PG.Prog):Prop where
 at_:∃(B d8 wy fa:YE) (us:List V) (aJ:List (Key×V)),gX K H md [.ref B,.ref d8,.ref wy,.ref fa]/\Rep K H (.lst (pr.aS.map gZ)) (.ref B)/\H d8=some (.dK (qP (PG.aA pr.body) us))/\us.length=(PG.aA pr.body).length/\aw K H ((PG.aA pr.body).map bp) us/\
  H wy=some (.dK aJ)/\(∀i (hi:i<(PG.cA pr.body 0).length),∃y,dR aJ (.inl (PG.cA pr.body 0)[i].1)=some (.ref y)/\bU K H y ((PG.cA pr.body 0)[i].2.2.map V.int))/\gC K H fa (PG.fO pr.body 0) (pr.aS.map (·.first))
theorem ml.mono{K:Za}{H H':Hp}{md:YE}{pr:PG.Prog}(m:ml K H md pr)(s:ai H H'):ml K H' md pr:=by
 obtain⟨B,d8,wy,fa,us,aJ,h1,h2,h3,h4,h5,h6,h7,h8⟩:=m.at_;exact⟨⟨B,d8,wy,fa,us,aJ,s.seq h1,h2.mono s,s _ _ h3,h4,h5.mono s,s _ _ h6,fun i hi=>let ⟨y,e,k⟩:=h7 i hi;⟨y,e,s.a7 k⟩,h8.mono s⟩⟩
theorem ml.row{K:Za}{H:Hp}{md:YE}{pr:PG.Prog}(m:ml K H md pr)(ok:IS pr){i:Nat}(hi:i<(PG.aA pr.body).length)(hf:i<(PG.cA pr.body 0).length) :
 ∃(B d8 wy fa ta y:YE) (us ys:List V) (aJ:List (Key×V)),gX K H md [.ref B,.ref d8,.ref wy,.ref fa]/\Rep K H (.lst (pr.aS.map gZ)) (.ref B)/\H d8=some (.dK (qP (PG.aA pr.body) us))/\dR (qP (PG.aA pr.body) us) (.inl (PG.aA pr.body)[i].row)=some (.ref ta)/\Rep K H (bp (PG.aA pr.body)[i]) (.ref ta)/\bU K H ta (.str (Ai (PG.aA pr.body)[i].wd)::ys)/\
  H wy=some (.dK aJ)/\dR aJ (.inl (PG.aA pr.body)[i].row)=some (.ref y)/\bU K H y ((PG.cA pr.body 0)[i].2.2.map V.int):=by
 obtain⟨B,d8,wy,fa,us,aJ,h1,h2,h3,h4,h5,h6,h7,h8⟩:=m.at_;obtain⟨v,hv,rv⟩:=h5.get (i:=i) (d:=bp (PG.aA pr.body)[i]) (by rw[Zq,Zd hi];rfl);have g:=xy _ _ h4 ok.pw i hi v hv;obtain⟨ta,ys,rfl,TU⟩:=vf _ rv;obtain⟨y,e,k⟩:=h7 i hf;obtain⟨_,e1,_⟩:=sP pr.body i hi;rw[e1] at e;exact⟨B,d8,wy,fa,ta,y,us,_,aJ,h1,h2,h3,g,rv,TU,h6,e,k⟩
section
variable(P:YR)(w:YG)(K:Za)(CC:YE)
def Dx (H:Hp) (l:YE) (us:List V) (ts:List PG.Tg):Prop:=H l=some (.lst us)/\aw K H (ts.map LD) us
def vm (H:Hp) (g:List PG.eB) (us:List V):Prop:=Paired (fun (s:PG.eB) v=>∃a,v=.ref a/\gC K H a s.1 s.2) g us
end
theorem vm.mono{K:Za}{H H':Hp}{g:List PG.eB}{us:List V}(h:vm K H g us)(s:ai H H'):vm K H' g us:=Paired.w8 h fun _ _ ⟨a,e,q⟩=>⟨a,e,q.mono s⟩
theorem Dx.mono{K:Za}{H H':Hp}{l:YE}{us:List V}{ts:List PG.Tg}(h:Dx K H l us ts)(s:ai H H'):Dx K H' l us ts:=⟨s _ _ h.1,h.2.mono s⟩
open PyProof.Rows
theorem xG{J:It}{D:YE}{g:TG}{te:TE}{Q:VK}{τ0:St}{H:Hp}(G:St->Prop)(xs:List V)(Pv:Nat->List V->Hp->Prop)
 (go:∀i H2,ai H H2->i<xs.length->J.go i H2) (stop:∀H2,ai H H2->J.stop xs.length H2) (A8:∀i H2 x H3,ai H H2->i<xs.length->J.A8 i H2 x H3->H3=H2/\xs[i]?=some x)
 (hl:xs.length<=16000000) (hD:H D=none) (g0:G τ0) (h0:Pv 0 [] (upd H D (.lst [])))
 (step:∀i x ys τ H2,xs[i]?=some x->G τ->ai H H2->H2 D=some (.lst ys)->ys.length=i->Pv i ys H2->∀R:St->VK,(∀τ' v H3,G τ'->ai H2 H3->Pv (i+1) (ys++[v]) (upd H3 D (.lst (ys++[v])))->R τ' v H3)->g x τ H2 fun τ' H'=>te τ' H' (R τ'))
 (q:∀ys H2,ai H H2->H2 D=some (.lst ys)->ys.length=xs.length->Pv xs.length ys H2->Q (.ref D) H2):eX J D g iO te Q τ0 (upd H D (.lst [])):=by
 refine⟨fun i m τ H2=>m=xs.length-i/\i<=xs.length/\G τ/\ai H H2/\∃ys,H2 D=some (.lst ys)/\ys.length=i/\Pv i ys H2,⟨xs.length,by simp,ZN _,g0,ai.new hD _,[],af,rfl,h0⟩,?_⟩
 rintro i m τ H2 ⟨rfl,hi,gt,s2,ys,h2,ly,p2⟩
 by_cases yo:i<xs.length
 ·refine .inr ⟨go i H2 s2 yo,fun τ' H'=>G τ'/\ai H H'/\∃ys,H' D=some (.lst ys)/\ys.length=i+1/\Pv (i+1) ys H',fun τ' H' ⟨h1,h3,h4⟩=>⟨xs.length-(i+1),by lia,rfl,yo,h1,h3,h4⟩,fun y H' hy=>?_⟩;obtain⟨rfl,ey⟩:=A8 i H2 y H' s2 yo hy;simp only[iO,if_true];refine step i y ys τ _ ey gt s2 h2 ly p2 (fun τ' v H4=>_) fun τ' v H3 TV s3 p3=>⟨ys,s3 _ _ h2,?_,TV,?_,ys++[v],af,by simp[ly],p3⟩
  ·have:YM=2 ^ 24:=rfl;lia
  ·intro b o e;rw[aL (ao e hD)];exact s3 _ _ (s2 _ _ e)
 ·have e:i=xs.length:=by lia
  subst e;exact .inl ⟨stop H2 s2,q ys H2 s2 h2 ly p2⟩
theorem Bw{K:Za}{a D:YE}{xs:List V}{g:TG}{te:TE}{Q:VK}{τ0:St}{H:Hp}(G:St->Prop)(Pv:Nat->List V->Hp->Prop)(hS:gX K H a xs)
 (hl:xs.length<=16000000) (hD:H D=none) (g0:G τ0) (h0:Pv 0 [] (upd H D (.lst [])))
 (step:∀i x ys τ H2,xs[i]?=some x->G τ->ai H H2->H2 D=some (.lst ys)->ys.length=i->Pv i ys H2->∀R:St->VK,(∀τ' v H3,G τ'->ai H2 H3->Pv (i+1) (ys++[v]) (upd H3 D (.lst (ys++[v])))->R τ' v H3)->g x τ H2 fun τ' H'=>te τ' H' (R τ'))
 (q:∀ys H2,ai H H2->H2 D=some (.lst ys)->ys.length=xs.length->Pv xs.length ys H2->Q (.ref D) H2):eX (qe K a) D g iO te Q τ0 (upd H D (.lst [])):=
 xG G xs Pv (fun i H2 s2 h=>⟨xs,xs[i],s2.seq hS,by simp[h]⟩) (fun H2 s2=>⟨xs,s2.seq hS,Zn _⟩) (fun i H2 x H3 s2 h y=>⟨y.1,y.2 _ (s2.seq hS)⟩) hl hD g0 h0 step q
theorem Bx{K:Za}{a D:YE}{xs:List V}{g:TG}{te:TE}{Q:VK}{τ0:St}{H:Hp}(G:St->Prop)(Pv:Nat->List V->Hp->Prop)(hS:bU K H a xs)
 (hl:xs.length<=16000000) (hD:H D=none) (g0:G τ0) (h0:Pv 0 [] (upd H D (.lst [])))
 (step:∀i x ys τ H2,xs[i]?=some x->G τ->ai H H2->H2 D=some (.lst ys)->ys.length=i->Pv i ys H2->∀R:St->VK,(∀τ' v H3,G τ'->ai H2 H3->Pv (i+1) (ys++[v]) (upd H3 D (.lst (ys++[v])))->R τ' v H3)->g x τ H2 fun τ' H'=>te τ' H' (R τ'))
 (q:∀ys H2,ai H H2->H2 D=some (.lst ys)->ys.length=xs.length->Pv xs.length ys H2->Q (.ref D) H2):eX (Cf K a) D g iO te Q τ0 (upd H D (.lst [])):=
 xG G xs Pv (fun i H2 s2 h=>⟨xs,xs[i],s2.a7 hS,by simp[h]⟩) (fun H2 s2=>⟨xs,s2.a7 hS,Zn _⟩) (fun i H2 x H3 s2 h y=>⟨y.1,y.2 _ (s2.a7 hS)⟩) hl hD g0 h0 step q
open PySem.Spec
def Dy (a:YE) (o:Obj):HO:=.ext fun h=>h.get? a=some o
section
variable{P:YR}{w:YG}{H:Hp}{h:Heap}{a:YE}{o:Obj}
theorem Dy.get(x:oW P w H h)(e:H a=some (Dy a o)):h.get? a=some o:=(x a _ e).1
theorem Dy.ok{H':Hp}(e:h.get? a=some o):dF P w H' h a (Dy a o):=⟨e,⟨o,e⟩,fun _ _ p k=>k _ p⟩
end
def LS (y name qual:Str) (params:Arguments) (body:Expr) (scope:Scope) (H:Hp) (fo cc:YE) (IX:Obj) (vc:V):Prop:=
 ∃(c':YE) (pm OW uc:YF) (oc:Obj) (vs:Array YF) (tk:Nat),H fo=some (Dy fo (PySem.W.kla_obj name qual params body scope [(y,cc)] pm c' OW))/\H c'=some (Dy c' oc)/\oc.data=.fields vs/\vs[1]?=some (.str qual tk)/\
  H cc=some (Dy cc IX)/\IX.data=.cell (some uc)/\RelV vc uc
def TabOk (qual:Str) (lp:Pos) (H:Hp) (ps:Array YF):Prop:=
 ps = #[]\/∃(c':YE) (oc:Obj) (vs:Array YF) (tk:Nat),ps = #[rawInt lp.line,rawInt lp.col,.ref c']/\H c'=some (Dy c' oc)/\oc.data=.fields vs/\vs[1]?=some (.str qual tk)
def IY (H:Hp) (P:YE) (ps:Array YF) (c':YE) (oc:Obj) (fo:YE) (ob:Obj):Hp:=upd (upd (upd H P (.EE ps)) c' (Dy c' oc)) fo (Dy fo ob)
section
variable{H:Hp}{P:YE}{ps:Array YF}{c':YE}{oc:Obj}{fo:YE}{ob:Obj}
theorem IY.keep(hF:H fo=none)(hc:H c'=some (Dy c' oc)\/H c'=none){b:YE}{o:HO}(n:b≠P)(e:H b=some o):IY H P ps c' oc fo ob b=some o:=by
 unfold IY;rw[aL (ao e hF)];by_cases z:b=c'
 ·subst z;rcases hc with q |q
  ·rw[af,<- q,e]
  ·rw[q] at e;cases e
 ·rw[aL z,aL n,e]
end
def IZ:Expr->Arguments
 |.Lambda p _ _ _=>p
 |_=>{posonlyargs:=[],args:=[],vararg:=none,kwonlyargs:=[],kw_defaults:=[],kwarg:=none,defaults:=[]}
def FJ:Expr->Expr
 |.Lambda _ b _ _=>b
 |e=>e
def Dz:Expr->Scope
 |.Lambda _ _ s _=>s
 |_=>{kind:=.function,names:=[],isGenerator:=false,isCoroutine:=false}
def I0 (y qual:Str) (l:Expr) (H:Hp) (fo cc:YE) (IX:Obj) (vc:V):Prop:=LS y "<lambda>" qual (IZ l) (FJ l) (Dz l) H fo cc IX vc
theorem FK{K:Za}{H H':Hp}{g:List PG.eB}{us:List V}(h:vm K H g us)(f:∀a row vals,gC K H a row vals->gC K H' a row vals):vm K H' g us:=Paired.w8 h fun _ _ ⟨a,e,q⟩=>⟨a,e,f _ _ _ q⟩
abbrev tV:=List (PG.eB×List Int)
def yW (led:PG.eB->List PG.eB):Nat->tV->PG.eB->List Int->tV×Option (List PG.eB)
 |0,f,_,_=>(f,none)
 |n+1,f,s,g=>if s∈f.map (·.1) then (f,none) else match led s with
  |[t]=>yW led n (f++[(s,g)]) t g
  |l=>(f++[(s,g)],some l)
def mn (K:Za) (H:Hp) (f:tV) (aJ:List (yU×V)):Prop:=Paired (fun (x:PG.eB×List Int) (kv:yU×V)=>kv.1=Bv x.1/\∃a,kv.2=.ref a/\bU K H a (x.2.map V.int)) f aJ
section
variable{K:Za}{H H':Hp}
theorem mn.imp{f:tV}{aJ:List (yU×V)}(h:mn K H f aJ)(t:∀a xs,bU K H a xs->bU K H' a xs):mn K H' f aJ:=Paired.w8 h fun _ _ ⟨e,a,e2,q⟩=>⟨e,a,e2,t _ _ q⟩
theorem mn.OX:∀ {f:tV} {aJ:List (yU×V)},mn K H f aJ->∀s:PG.eB,(dR aJ (Bv s)).isSome=decide (s∈f.map (·.1))
 |[],_,h,s=>by cases h;rfl
 |x::r,_,h,s=>by
  cases h with
  |@cons _ kv _ _ a b=>
   obtain⟨k,v⟩:=kv;obtain⟨e,_⟩:=a;simp only at e;subst e;by_cases z:x.1=s
   ·rw[dM (by rw[z]),ZD,z];simp
   ·rw[dN (fun y=>z (Dv y)),mn.OX b s,ZD];simp[Ne.symm z]
theorem mn.len{f:tV}{aJ:List (yU×V)}(h:mn K H f aJ):aJ.length=f.length:=(Paired.length h).symm
theorem mn.put{f:tV}{aJ:List (yU×V)}(h:mn K H f aJ){s:PG.eB}{g:List Int}{a:YE}(n:s ∉ f.map (·.1))(q:bU K H a (g.map V.int)):mn K H (f++[(s,g)]) (putK aJ (Bv s) (.ref a)):=by
 unfold putK;rw[kg,h.OX,decide_eq_false n,if_neg Zo];exact Paired.snoc h ⟨rfl,a,rfl,q⟩
end
theorem I0.mono{y qual:Str}{l:Expr}{H H':Hp}{fo cc:YE}{IX:Obj}{vc:V}(h:I0 y qual l H fo cc IX vc)(s:ai H H'):I0 y qual l H' fo cc IX vc:=by
 obtain⟨c',pm,OW,uc,oc,vs,tk,g1,g2,d2,q2,g3,d3,rc⟩:=h;exact⟨c',pm,OW,uc,oc,vs,tk,s _ _ g1,s _ _ g2,d2,q2,s _ _ g3,d3,rc⟩
section
variable{K:Za}{H H':Hp}{p:YE}{φ:Heap->Prop}
mutual
theorem Au(h:H p=some (.ext φ))(u:bw p H H'):∀(d:Dp) (v:V),Rep K H d v->Rep K H' d v
 |.f9,v,r=>by rw[Rep.nt] at r ⊢;exact r
 |.bl b,v,r=>by rw[Rep.ql] at r ⊢;exact r
 |.int b,v,r=>by rw[Rep.aB] at r ⊢;exact r
 |.str b,v,r=>by rw[Rep.au] at r ⊢;exact r
 |.lst l,v,r=>by
  rw[Rep.bT] at r ⊢;obtain⟨a,ys,rfl,q,rs⟩:=r;refine⟨a,ys,rfl,?_,mq h u l ys rs⟩;rcases q with (q |⟨o,q⟩) |q
  ·exact .inl (.inl (u _ _ (cY q h (by intro z;cases z)) q))
  ·exact .inl (.inr ⟨o,u _ _ (cY q h (by intro z;cases z)) q⟩)
  ·exact .inr q
 |.tup l,v,r=>by
  rw[Rep.az] at r ⊢;obtain⟨a,ys,rfl,q,rs⟩:=r;exact⟨a,ys,rfl,q.yV h u,mq h u l ys rs⟩
theorem mq(h:H p=some (.ext φ))(u:bw p H H'):∀(ds:List Dp) (vs:List V),aw K H ds vs->aw K H' ds vs
 |[],vs,r=>by rw[aw.aD] at r ⊢;exact r
 |d::ds,vs,r=>by
  rw[aw.ar] at r ⊢;obtain⟨v,t,rfl,r1,r2⟩:=r;exact⟨v,t,rfl,Au h u d v r1,mq h u ds t r2⟩
end
theorem BZ.ext{C ch:YE}{pr:PG.Prog}(c:BZ K C H ch pr)(h:H p=some (.ext φ))(u:bw p H H'):BZ K C H' ch pr:=by
 obtain⟨dx,nl,sd,fa,va,st,wy,us,ws,h1,h2,h3,h4,h5,h6,h7,h8,h9,IM,FA,JL⟩:=c.at_;have k:∀ {b:YE} {o:HO},H b=some o->(∀ψ,o≠.ext ψ)->H' b=some o:=fun {b o} e n=>u _ _ (cY e h (n φ)) e;exact⟨⟨dx,nl,sd,fa,va,st,wy,us,ws,k h1 (fun _ z=>by cases z),k h2 (fun _ z=>by cases z),k h3 (fun _ z=>by cases z),k h4 (fun _ z=>by cases z),k h5 (fun _ z=>by cases z),k h6 (fun _ z=>by cases z),h7,k h8 (fun _ z=>by cases z),mq h u _ _ h9,IM,k FA (fun _ z=>by cases z),fun i hi=>let ⟨q,e,r⟩:=JL i hi;⟨q,e,r.yV h u⟩⟩⟩
end
end L2
namespace L2
open PySem PySem.Spec PyProof.Rows
def Av (g:List Int):Option (List PG.eB)->List (List Int×List PG.eB)
 |none=>[]
 |some l=>[(g,l)]
def Aw (led:PG.eB->List PG.eB) (n:Nat):tV->tV->tV×List (List Int×List PG.eB)
 |f,[]=>(f,[])
 |f,(s,g)::r=>((Aw led n (yW led n f s g).1 r).1,Av g (yW led n f s g).2++(Aw led n (yW led n f s g).1 r).2)
section
variable{led:PG.eB->List PG.eB}{S:PG.eB->Prop}
structure DA(S:PG.eB->Prop)(f:tV):Prop where
 nd:(f.map (·.1)).Nodup
 OY:∀x∈f,S x.1
theorem DA.nil:DA S []:=⟨Xt,fun x h=>by cases h⟩
theorem DA.put{f:tV}{s:PG.eB}{g:List Int}(h:DA S f)(n:s ∉ f.map (·.1))(hs:S s):DA S (f++[(s,g)]):=by
 refine⟨?_,fun x hx=>?_⟩
 ·rw[Zl];exact Xd.mpr ⟨h.nd,by simp,fun a ha b hb=>by rw[ZD,Xz,Zh] at hb;rw[hb];exact fun y=>n (by rw[<- show a=s from y];exact ha)⟩
 ·rcases Zg.mp hx with hx |hx
  ·exact h.OY x hx
  ·rw[Zh.mp hx];exact hs
structure Ja(S:PG.eB->Prop)(m:Nat)(as:List (List Int×List PG.eB)):Prop where
 OY:∀a∈as,∀x∈a.2,S x
 len:∀a∈as,a.1.length<=m
theorem Ja.nil{m:Nat}:Ja S m []:=⟨fun a h=>(by cases h),fun a h=>(by cases h)⟩
theorem DB(li:∀s,S s->∀x∈led s,S x){m:Nat}:∀(n:Nat) (f:tV) (s:PG.eB) (g:List Int),DA S f->S s->g.length<=m->DA S (yW led n f s g).1/\Ja S m (Av g (yW led n f s g).2)/\f.length+(Av g (yW led n f s g).2).length<=(yW led n f s g).1.length
 |0,f,s,g,h,_,_=>⟨h,.nil,Zn _⟩
 |n+1,f,s,g,h,hs,hg=>by
  rw[yW];split
  ·exact⟨h,.nil,Zn _⟩
  ·rename_i hn;have h1:=h.put (g:=g) hn hs;split
   ·rename_i t e;have:=DB li n (f++[(s,g)]) t g h1 (li s hs t (by rw[e];exact Zh.mpr rfl)) hg;refine⟨this.1,this.2.1,?_⟩;have:=this.2.2;rw[Zc,Zm] at this;lia
   ·refine⟨h1,⟨fun a ha x hx=>?_,fun a ha=>?_⟩,?_⟩
    ·rw[Zh.mp ha] at hx;exact li s hs x hx
    ·rw[Zh.mp ha];exact hg
    ·rw[Zc];exact Zn _
end
section
variable(K:Za)
def kN (H:Hp) (as:List (List Int×List PG.eB)) (us:List V):Prop:=Paired (fun (a:List Int×List PG.eB) (v:V)=>∃ta ga la EJ,v=.ref ta/\bU K H ta [.ref ga,.ref la]/\bU K H ga (a.1.map V.int)/\H la=some (.lst EJ)/\vm K H a.2 EJ) as us
end
section
variable{K:Za}{H H':Hp}
theorem kN.imp{as:List (List Int×List PG.eB)}{us:List V}(h:kN K H as us)(t:∀a xs,bU K H a xs->bU K H' a xs)(l:∀a xs,H a=some (.lst xs)->H' a=some (.lst xs)):kN K H' as us:=
 Paired.w8 h fun _ _ ⟨ta,ga,la,EJ,e,q1,q2,q3,q4⟩=>⟨ta,ga,la,EJ,e,t _ _ q1,t _ _ q2,l _ _ q3,FK q4 fun a row vals ⟨va,h1,h2⟩=>⟨va,t _ _ h1,t _ _ h2⟩⟩
theorem kN.mono{as:List (List Int×List PG.eB)}{us:List V}(h:kN K H as us)(s:ai H H'):kN K H' as us:=h.imp (fun a xs q=>s.a7 q) fun a xs q=>s _ _ q
theorem kN.ext{as:List (List Int×List PG.eB)}{us:List V}{D:YE}{φ:Heap->Prop}(h:kN K H as us)(hD:H D=some (.ext φ))(u:bw D H H'):kN K H' as us:=h.imp (fun a xs q=>q.yV hD u) fun a xs q=>u _ _ (cY q hD (by intro z;cases z)) q
end
def Kp (H H':Hp):Prop:=∀b o,H b=some o->(∀ps,o≠.EE ps)->H' b=some o
section
variable{K:Za}{H H':Hp}
theorem Kp.same(s:ai H H'):Kp H H':=fun b o e _=>s b o e
end
section
variable(P:YR)(w:YG)(K:Za)(CC:YE)
def Jb (H:Hp) (lv:tV) (us:List V):Prop:=Paired (fun (x:PG.eB×List Int) (v:V)=>∃ta ga sa,v=.ref ta/\bU K H ta [.ref ga,.ref sa]/\bU K H ga (x.2.map V.int)/\gC K H sa x.1.1 x.1.2) lv us
end
section
variable{K:Za}{H H':Hp}
theorem Jb.imp{lv:tV}{us:List V}(h:Jb K H lv us)(t:∀a xs,bU K H a xs->bU K H' a xs):Jb K H' lv us:=
 Paired.w8 h fun _ _ ⟨ta,ga,sa,e,q1,q2,va,q3,q4⟩=>⟨ta,ga,sa,e,t _ _ q1,t _ _ q2,va,t _ _ q3,t _ _ q4⟩
end
theorem TabOk.up{H H':Hp}{qual:Str}{lp:Pos}{ps:Array YF}(h:TabOk qual lp H ps)(k:∀b φ,H b=some (.ext φ)->H' b=some (.ext φ)):TabOk qual lp H' ps:=by
 rcases h with h |⟨c',oc,vs,tk,e,h1,h2,h3⟩
 ·exact .inl h
 ·exact .inr ⟨c',oc,vs,tk,e,k _ _ h1,h2,h3⟩
def EV (ps:List (YE×V)) (es:Array DictEntry):Prop:=Paired (fun (p:YE×V) (e:DictEntry)=>e.key=.ref p.1/\RelV p.2 e.val) ps es.toList
theorem EV.size{ps:List (YE×V)}{es:Array DictEntry}(h:EV ps es):es.size=ps.length:=by rw[<- ZX];exact(Paired.length h).symm
section
variable(P:YR)(w:YG)(K:Za)(CC:YE)
def sR (H:Hp):Option (List Int)->Option V->Prop
 |none,r=>r=none
 |some g,r=>∃a,r=some (.ref a)/\bU K H a (g.map V.int)
def vn (H:Hp) (M:PG.Tg->Option (List Int)) (aJ:List (List Key×V)):Prop:=∀t,sR K H (M t) (dR aJ (xE t))
end
section
variable{K:Za}{H H':Hp}
theorem sR.imp{o:Option (List Int)}{r:Option V}(h:sR K H o r)(t:∀a xs,bU K H a xs->bU K H' a xs):sR K H' o r:=by
 cases o with
 |none=>exact h
 |some y=>obtain⟨a,h1,h2⟩:=h;exact⟨a,h1,t _ _ h2⟩
theorem vn.imp{M:PG.Tg->Option (List Int)}{aJ:List (List Key×V)}(h:vn K H M aJ)(t:∀a xs,bU K H a xs->bU K H' a xs):vn K H' M aJ:=fun g=>(h g).imp t
theorem vn.put{M:PG.Tg->Option (List Int)}{aJ:List (List Key×V)}{t:PG.Tg}{g:List Int}{a:YE}(h:vn K H M aJ)(n:M t=none)(q:bU K H a (g.map V.int)):vn K H (fun u=>(M u).or (if u=t then some g else none)) (putK aJ (xE t) (.ref a)):=fun u=>by
 show sR K H ((M u).or (if u=t then some g else none)) _;rw[si];by_cases e:u=t
 ·subst e;rw[n,if_pos rfl,if_pos rfl];exact⟨a,rfl,q⟩
 ·rw[if_neg e,if_neg (fun z=>e (Bu z)),Option.or_none];exact h u
theorem ml.ext{md p:YE}{pr:PG.Prog}{φ:Heap->Prop}(m:ml K H md pr)(h:H p=some (.ext φ))(u:bw p H H'):ml K H' md pr:=by
 obtain⟨B,d8,wy,fa,us,aJ,h1,h2,h3,h4,h5,h6,h7,h8⟩:=m.at_;refine⟨⟨B,d8,wy,fa,us,aJ,?_,Au h u _ _ h2,u _ _ (cY h3 h (by intro z;cases z)) h3,h4,mq h u _ _ h5,u _ _ (cY h6 h (by intro z;cases z)) h6,fun i hi=>let ⟨y,e,k⟩:=h7 i hi;⟨y,e,k.yV h u⟩,h8.ext h u⟩⟩;rcases h1 with (q |⟨o,q⟩) |q
 ·exact .inl (.inl (u _ _ (cY q h (by intro z;cases z)) q))
 ·exact .inl (.inr ⟨o,u _ _ (cY q h (by intro z;cases z)) q⟩)
 ·exact .inr q
end
theorem n9{X:Cx}{K:Za}(e:X.K=K):jl X (.builtin "len") (fun xs H Q=>∃p ys,xs=[.ref p]/\(gX K H p ys\/bU K H p ys)/\Q (.int ys.length) H):=e▸bK
section
variable{K:Za}{H H':Hp}
theorem Kp.trans{H2:Hp}(a:Kp H H')(b:Kp H' H2):Kp H H2:=fun c o e n=>b c o (a c o e n) n
end
theorem Nt{α β γ:Type}(F:α->β->γ->Prop->Prop):∃X:α->β->γ->Prop,(∀a b c,(∀zq,F a b c zq->zq)->X a b c)/\∀a b c,X a b c->∀zq,F a b c zq->zq:=⟨fun a b c=>∀zq,F a b c zq->zq,fun _ _ _ h=>h,fun _ _ _ h=>h⟩
section
variable{X:Cx}{k n:Nat}{f:YE}{fd:YN}{ps:List Str}{sp:Sp}{x:Str}{st:Stmt}{e:Expr}{es:List Expr}{t:TA}{te:TE}{p pos pos':Pos}
theorem gR(F:bP X.prog X.w X.K X.mg X.base gA k f fd ps sp)(D:dO X.K X.mg x st ps f fd)(hr:jr n X.A)(ha:PA X (e::es) t)(h:k<=n:=by first |decide |omega)(hg:Gl X x:=by rfl)(Ia:(x==("__debug__":Str))=false:=by decide)
 (he:YK (e::es) X.env=(false,eval e X.env)::YK es X.env:=by rfl) (Bf:(backTo pos (YK es X.env)).any (·.1)=false:=by rfl):PE X (.Call (.Name x p) (e::es) [] pos) (Co sp [] E0 t):=
 eD F (hr.mono h) hg D.m D.F.kp D.b .nil jm ha Ia he Bf
theorem nz(i:Nat)(hN:X.N.Nodup)(he:PE X e te)(hi:X.N[i]?=some x:=by rfl)(hx:Loc X.env.scope x:=by exact ZE rfl)(hs:swapsWith e (some (.Name x pos')) pos.line X.env=pure false:=by rfl)(hf:X.fn x=true\/X.env.scope.names.lookup x=some .local:=by first |exact .inl rfl |exact .inr rfl |assumption) :
 PS X (.Assign [.Name x pos'] e pos) (A7 te (bV i)):=gv hN hi hx he hs hf
theorem DC(i:Nat)(hN:X.N.Nodup)(hi:X.N[i]?=some x:=by rfl)(hx:Loc X.env.scope x:=by exact ZE rfl)(hf:X.fn x=true\/X.env.scope.names.lookup x=some .local:=by first |exact .inl rfl |exact .inr rfl |assumption):PG X (.Name x pos) (bV i):=br hN hi hx hf
theorem b8(i:Nat)(hr:PA X es t)(hN:X.N[i]?=some x:=by rfl)(hv:Ke X.env.scope x:=by first |exact ZE rfl |exact XT (ZE rfl) |exact XT (XT rfl))(hd:(x==("__debug__":Str))=false:=by decide)(A5:(x==("__classdict__":Str))=false:=by decide):PA X (.Name x pos::es) (Cn (gz i) t):=ae (pv i hN hv hd A5) hr aR
end
def nA (a:Int):List Int->Int
 |[]=>a
 |d::r=>nA (10*a+d+1) r
def Dg (g:List Int):Prop:=∀d∈g,0<=d/\d<=9
section
variable(led:PG.eB->List PG.eB)(s0:PG.eB)
inductive Cm:PG.eB->List Int->Prop
 |start:Cm s0 []
 |one {s t g}:Cm s g->led s=[t]->Cm t g
 |many {s t g} {i:Nat}:Cm s g->(led s).length≠1->(led s)[i]?=some t->Cm t (g++[(i:Int)])
end
section
variable{led:PG.eB->List PG.eB}{s0:PG.eB}
theorem Cm.OY{S:PG.eB->Prop}(li:∀s,S s->∀x∈led s,S x)(h0:S s0){s:PG.eB}{g:List Int}(h:Cm led s0 s g):S s:=by
 induction h with
 |start=>exact h0
 |one _ e ih=>exact li _ ih _ (by rw[e];exact Zh.mpr rfl)
 |many _ _ e ih=>exact li _ ih _ (Z4 e)
structure BI(led:PG.eB->List PG.eB)(s0:PG.eB)(k:Nat)(f l:tV)(as:List (List Int×List PG.eB)):Prop where
 Rv:f.Pairwise fun x y=>nA 0 x.2<=nA 0 y.2
 fl:∀x∈f,∀y∈l,nA 0 x.2<=nA 0 y.2
 ll:l.Pairwise fun x y=>nA 0 x.2<nA 0 y.2
 al:∀a∈as,∀y∈l,nA 0 a.1<nA 0 y.2
 aa:as.Pairwise fun a b=>nA 0 a.1<nA 0 b.1
 fk:∀x∈f,x.2.length<=k
 lk:∀x∈l,x.2.length=k
 ak:∀a∈as,a.1.length=k
 sf:∀x∈f,Cm led s0 x.1 x.2
 sl:∀x∈l,Cm led s0 x.1 x.2
 sa:∀a∈as,∃s,Cm led s0 s a.1/\a.2=led s/\(led s).length≠1
 c1:∀x∈f,∀t,led x.1=[t]->(∃y∈f,y.1=t/\nA 0 y.2<=nA 0 x.2)\/(t,x.2)∈l
 c2:∀x∈f,(led x.1).length≠1->∀(i:Nat) t,(led x.1)[i]?=some t->(∃y∈f,y.1=t/\nA 0 y.2<=nA 0 (x.2++[(i:Int)]))\/(t,x.2++[(i:Int)])∈l\/(x.2,led x.1)∈as
 st:(∃y∈f,y.1=s0/\nA 0 y.2<=0)\/(s0,[])∈l
section
variable{k:Nat}{f r:tV}{s:PG.eB}{g:List Int}{as:List (List Int×List PG.eB)}
theorem BI.skip(h:BI led s0 k f ((s,g)::r) as)(hs:s∈f.map (·.1)):BI led s0 k f r as:=by
 obtain⟨y,hy,ey⟩:=Zp.mp hs;have ny:=h.fl y hy (s,g) (Zt ..);refine⟨h.Rv,fun x hx z hz=>h.fl x hx z (Zk _ hz),(Z7.mp h.ll).2,fun a ha z hz=>h.al a ha z (Zk _ hz),h.aa,h.fk,fun x hx=>h.lk x (Zk _ hx),h.ak,h.sf,fun x hx=>h.sl x (Zk _ hx),h.sa,fun x hx t e=>?_,fun x hx n i t e=>?_,?_⟩
 ·rcases h.c1 x hx t e with z |z
  ·exact .inl z
  ·rcases Zf.mp z with z |z
   ·cases z;exact .inl ⟨y,hy,ey,ny⟩
   ·exact .inr z
 ·rcases h.c2 x hx n i t e with z |z |z
  ·exact .inl z
  ·rcases Zf.mp z with z |z
   ·cases z;exact .inl ⟨y,hy,ey,ny⟩
   ·exact .inr (.inl z)
  ·exact .inr (.inr z)
 ·rcases h.st with z |z
  ·exact .inl z
  ·rcases Zf.mp z with z |z
   ·cases z;exact .inl ⟨y,hy,ey,ny⟩
   ·exact .inr z
theorem BI.put(h:BI led s0 k f ((s,g)::r) as){l:tV}{bs:List (List Int×List PG.eB)}(hl:l=r/\bs=[(g,led s)]/\(led s).length≠1\/∃t,led s=[t]/\l=(t,g)::r/\bs=[]):BI led s0 k (f++[(s,g)]) l (as++bs):=by
 have hg:=Zt (a:=(s,g)) (l:=r);obtain⟨gr,rr⟩:=Z7.mp h.ll;have inr:∀x∈r,x∈l:=fun x hx=>by
  rcases hl with ⟨rfl,_⟩ |⟨t,_,rfl,_⟩
  ·exact hx
  ·exact Zk _ hx
 have Nu:∀x∈l,x∈r\/x.2=g/\led s=[x.1]:=fun x hx=>by
  rcases hl with ⟨rfl,_⟩ |⟨t,e,rfl,_⟩
  ·exact .inl hx
  ·rcases Zf.mp hx with rfl |hx
   ·exact .inr ⟨rfl,e⟩
   ·exact .inl hx
 have bin:∀a∈bs,a=(g,led s)/\l=r/\(led s).length≠1:=fun a ha=>by
  rcases hl with ⟨e,rfl,n⟩ |⟨t,e,rfl,rfl⟩
  ·exact⟨Zh.mp ha,e,n⟩
  ·cases ha
 have nf:∀x∈f++[(s,g)],nA 0 x.2<=nA 0 g:=fun x hx=>by
  rcases Zg.mp hx with hx |hx
  ·exact h.fl x hx _ hg
  ·rw[Zh.mp hx];exact Xp _
 have ng:∀y∈l,nA 0 g<=nA 0 y.2:=fun y hy=>by
  rcases Nu y hy with z |⟨z,_⟩
  ·exact Int.le_of_lt (gr y z)
  ·rw[z];exact Xp _
 have me:(s,g)∈f++[(s,g)]:=Zz _ (Zh.mpr rfl);have up:∀ {P:PG.eB×List Int->Prop},(∃y∈f,P y)->∃y∈f++[(s,g)],P y:=fun ⟨y,hy,p⟩=>⟨y,ZU _ hy,p⟩
 refine⟨Xy.mpr ⟨h.Rv,XY _ _,fun x hx y hy=>?_⟩,fun x hx y hy=>XW (nf x hx) (ng y hy),?_,?_,?_,?_,?_,?_,?_,?_,?_,fun x hx t e=>?_,fun x hx n i t e=>?_,?_⟩
 ·rw[Zh.mp hy];exact h.fl x hx _ hg
 ·rcases hl with ⟨rfl,_⟩ |⟨t,_,rfl,_⟩
  ·exact rr
  ·exact Z7.mpr ⟨fun y hy=>gr y hy,rr⟩
 ·intro a ha y hy;rcases Zg.mp ha with ha |ha
  ·exact Int.lt_of_lt_of_le (h.al a ha _ hg) (ng y hy)
  ·obtain⟨rfl,rfl,_⟩:=bin a ha;exact gr y hy
 ·refine Xy.mpr ⟨h.aa,?_,fun a ha b hb=>?_⟩
  ·rcases hl with ⟨_,rfl,_⟩ |⟨_,_,_,rfl⟩
   ·exact XY _ _
   ·exact .nil
  ·rw[(bin b hb).1];exact h.al a ha _ hg
 ·intro x hx;rcases Zg.mp hx with hx |hx
  ·exact h.fk x hx
  ·rw[Zh.mp hx];exact Nat.le_of_eq (h.lk _ hg)
 ·intro x hx;rcases Nu x hx with z |⟨z,_⟩
  ·exact h.lk x (Zk _ z)
  ·rw[z];exact h.lk _ hg
 ·intro a ha;rcases Zg.mp ha with ha |ha
  ·exact h.ak a ha
  ·rw[(bin a ha).1];exact h.lk _ hg
 ·intro x hx;rcases Zg.mp hx with hx |hx
  ·exact h.sf x hx
  ·rw[Zh.mp hx];exact h.sl _ hg
 ·intro x hx;rcases Nu x hx with z |⟨z,e⟩
  ·exact h.sl x (Zk _ z)
  ·rw[z];exact .one (h.sl _ hg) e
 ·intro a ha;rcases Zg.mp ha with ha |ha
  ·exact h.sa a ha
  ·obtain⟨rfl,_,n⟩:=bin a ha;exact⟨s,h.sl _ hg,rfl,n⟩
 ·rcases Zg.mp hx with hx |hx
  ·rcases h.c1 x hx t e with z |z
   ·exact .inl (up z)
   ·rcases Zf.mp z with z |z
    ·cases z;exact .inl ⟨_,me,rfl,Xp _⟩
    ·exact .inr (inr _ z)
  ·rw[Zh.mp hx] at e ⊢;rcases hl with ⟨_,_,n⟩ |⟨t',e',rfl,_⟩
   ·exact absurd (by rw[show led s=[t] from e];rfl) n
   ·rw[show led s=[t] from e] at e';cases e';exact .inr (Zt ..)
 ·rcases Zg.mp hx with hx |hx
  ·rcases h.c2 x hx n i t e with z |z |z
   ·exact .inl (up z)
   ·rcases Zf.mp z with z |z
    ·cases z;exact .inl ⟨_,me,rfl,Xp _⟩
    ·exact .inr (.inl (inr _ z))
   ·exact .inr (.inr (ZU _ z))
  ·rw[Zh.mp hx] at n ⊢;rcases hl with ⟨_,rfl,_⟩ |⟨t',e',_⟩
   ·exact .inr (.inr (Zz _ (Zh.mpr rfl)))
   ·exact absurd (by rw[show led s=[t'] from e'];rfl) n
 ·rcases h.st with z |z
  ·exact .inl (up z)
  ·rcases Zf.mp z with z |z
   ·cases z;exact .inl ⟨_,me,rfl,Xp _⟩
   ·exact .inr (inr _ z)
end
variable{S:PG.eB->Prop}{M:Nat}
theorem BI.yW(li:∀s,S s->∀x∈led s,S x)(hM:∀f:tV,DA S f->f.length<=M){k:Nat}:∀(n:Nat) (f r:tV) (s:PG.eB) (g:List Int) (as:List (List Int×List PG.eB)),M<f.length+n->DA S f->S s->BI led s0 k f ((s,g)::r) as->BI led s0 k (yW led n f s g).1 r (as++Av g (yW led n f s g).2)
 |0,f,r,s,g,as,hn,o,_,_=>absurd (hM f o) (by lia)
 |n+1,f,r,s,g,as,hn,o,hs,h=>by
  rw[L2.yW];split
  ·rename_i OZ;show BI led s0 k f r (as++[]);rw[Zr];exact h.skip OZ
  ·rename_i OZ;have o1:=o.put (g:=g) OZ hs;split
   ·rename_i t e;have h2:=h.put (l:=(t,g)::r) (bs:=[]) (.inr ⟨t,e,rfl,rfl⟩);rw[Zr] at h2;exact BI.yW li hM n _ r t g as (by rw[Zc,Zm];lia) o1 (li s hs t (by rw[e];exact Zh.mpr rfl)) h2
   ·rename_i l1 ne;refine h.put (.inl ⟨rfl,rfl,fun z=>?_⟩);obtain⟨t,e⟩:=List.length_eq_one_iff.mp z;exact ne t e
theorem BI.all(li:∀s,S s->∀x∈led s,S x)(hM:∀f:tV,DA S f->f.length<=M){k n:Nat}(hn:M<n):∀(l f:tV) (as:List (List Int×List PG.eB)),DA S f->(∀x∈l,S x.1)->BI led s0 k f l as->BI led s0 k (Aw led n f l).1 [] (as++(Aw led n f l).2)
 |[],f,as,_,_,h=>by
  show BI led s0 k f [] (as++[]);rw[Zr];exact h
 |(s,g)::r,f,as,o,hl,h=>by
  have h1:=BI.yW li hM n f r s g as (by lia) o (hl _ (Zt ..)) h;have o1:=(DB li (m:=g.length) n f s g o (hl _ (Zt ..)) (Zn _)).1;have:=BI.all li hM hn r _ _ o1 (fun x hx=>hl x (Zk _ hx)) h1;rw[ZA] at this;exact this
end
def qQ (N:YE->Prop) (H:Hp) (P:List Int->Prop) (us:List V):Prop:=∀u∈us,∃a iQ,u=.ref a/\N a/\H a=some (.lst (iQ.map V.int))/\Dg iQ/\P iQ
theorem qQ.nil{N:YE->Prop}{H:Hp}{P:List Int->Prop}:qQ N H P []:=fun u h=>by cases h
theorem qQ.snoc{N:YE->Prop}{H:Hp}{P:List Int->Prop}{us:List V}(h:qQ N H P us){a:YE}{iQ:List Int}(n:N a)(y:H a=some (.lst (iQ.map V.int)))(d:Dg iQ)(p:P iQ):qQ N H P (us++[.ref a]):=fun u hu=>by
 rcases Zg.mp hu with hu |hu
 ·exact h u hu
 ·rw[Zh.mp hu];exact⟨a,iQ,rfl,n,y,d,p⟩
theorem qQ.keep{N M:YE->Prop}{H H':Hp}{P:List Int->Prop}{us:List V}(h:qQ N H P us)(k:∀a xs,N a->H a=some (.lst xs)->M a/\H' a=some (.lst xs)):qQ M H' P us:=fun u hu=>by
 obtain⟨a,f,e,n,y,d⟩:=h u hu;exact⟨a,f,e,(k a _ n y).1,(k a _ n y).2,d⟩
end L2
namespace PG
open PM
structure Dk where
 cs:List Int
 gs:List Bool
 pos:Int
 left:Int
 row:Int
 gap:Int
def draw (d:Dk) (many:Int):Int×Dk:=
 if d.cs=[] then ((d.pos*d.pos*7+d.pos/3)%many,{d with pos:=d.pos+1})
 else if d.gs.getD (d.pos%d.cs.length).toNat false=true then (d.cs.getD (d.pos%d.cs.length).toNat 0%many,{d with pos:=d.pos+1,cs:=d.cs.set (d.pos%d.cs.length).toNat (d.cs.getD (d.pos%d.cs.length).toNat 0/many)})
 else ((d.cs.getD (d.pos%d.cs.length).toNat 0%2147483629+62233*(d.pos+1))*48271%2147483629*((d.cs.getD (d.pos%d.cs.length).toNat 0%2147483629+62233*(d.pos+1))*48271%2147483629)%2147483587*69621%2147483579/8%many,{d with pos:=d.pos+1})
structure dS(d d':Dk):Prop where
 left:d'.left=d.left
 row:d'.row=d.row
 gap:d'.gap=d.gap
theorem dS.refl{d:Dk}:dS d d:=⟨rfl,rfl,rfl⟩
theorem dS.trans{a b c:Dk}(h:dS a b)(h2:dS b c):dS a c:=⟨h2.left.trans h.left,h2.row.trans h.row,h2.gap.trans h.gap⟩
theorem qu(d:Dk)(many:Int):dS d (draw d many).2:=by
 unfold draw;split
 ·exact⟨rfl,rfl,rfl⟩
 ·split<;>exact⟨rfl,rfl,rfl⟩
theorem Ax(d:Dk){many:Int}(h:0<many):0<=(draw d many).1/\(draw d many).1<many:=by
 have k:∀x:Int,0<=x%many/\x%many<many:=fun x=>⟨XQ _ (by lia),XH _ h⟩
 unfold draw;split
 ·exact k _
 ·split<;>exact k _
def fG (st:Dk->aF×Dk):Nat->Dk->List aF×Dk
 |0,d=>([],d)
 |k+1,d=>if d.left>0 then ((st d).1::(fG st k (st d).2).1,(fG st k (st d).2).2) else fG st k d
def cP (st:Dk->aF×Dk) (d:Dk):List aF×Dk:=fG st (draw d 5).1.toNat (draw d 5).2
def hJ (d:Dk):Dk:={d with row:=d.row+(if d.gap=1 then 0 else 1)}
def aV (d:Dk):Dk:=
 if d.gap>1 then match draw {d with left:=d.left-1,row:=d.row+1} d.gap with
  |(x,d1)=>{d1 with row:=d1.row+x}
 else {d with left:=d.left-1,row:=d.row+1}
def wb (st:Option (Dk->aF×Dk)) (row kind:Int) (sg:W) (l r:Tr) (d:Dk):aF×Dk:=
 match st with
 |none=>(.bH row sg l r,d)
 |some st=>if kind<9 then (.bH row sg l r,d) else match cP st d with
  |(a,d1)=>if kind<11 then (.cZ row sg l r a,hJ d1) else match draw d1 2 with
   |(t,d2)=>if t=1 then match cP st (hJ d2) with
      |(b,d3)=>(.ifs row sg l r a b,hJ d3)
    else (.ifs row sg l r a [],hJ d2)
def cG:List W:=[[97],[97,98],[98]]
def gf:List W->Dk->List eK×Dk
 |[],d=>([],d)
 |n::r,d=>match draw d 4 with
  |(j,d1)=>match draw d1 (pick 2 [2,2,3,4] j) with
   |(f,d2)=>match gf r d2 with
    |(bs,d3)=>(⟨n,pick 2 [2,2,3,4] j,f⟩::bs,d3)
def oF (sc:List Int):Dk:=⟨sc.map fun c=>if c ≥ 10 ^ 18 then c-10 ^ 18 else c,sc.map fun c=>decide (c ≥ 10 ^ 18),0,0,0,0⟩
theorem bG{d d':Dk}{many x:Int}(h:draw d many=(x,d')):dS d d':=by have:=qu d many;rw[h] at this;exact this
theorem bL{d d':Dk}{many x:Int}(h:draw d many=(x,d'))(p:0<many):0<=x/\x<many:=by have:=Ax d p;rw[h] at this;exact this
theorem hV{α:Type}{l:List α}(d:α){i:Int}(h0:0<=i)(h1:i<l.length):pick d l i∈l:=by
 unfold pick;rw[ZH,Zd (by lia)];exact Zu _
abbrev oX (bs:List eK):List W:=bs.map (·.name)
theorem FL{bs:List eK}{a b c:Int}(ha:0<=a/\a<4)(hb:0<=b/\b<10)(hc:0<=c/\c<6):jE bs (.num (pick 0 [a,b,999] (pick (0:Int) [0,0,0,1,1,2] c))):=by
 have h1:=hV (0:Int) (l:=[0,0,0,1,1,2]) hc.1 hc.2;generalize (pick 0 [0,0,0,1,1,2] c:Int)=j at *;have hj:0<=j/\j<3:=by
  simp only[Zf,ZI,or_false] at h1;lia
 have h2:=hV (0:Int) (l:=[a,b,999]) hj.1 hj.2;generalize (pick 0 [a,b,999] j:Int)=v at *;rw[jE];simp only[Zf,ZI,or_false] at h2;lia
structure vo(bs:List eK)(n:Nat)(d:Dk)(x:Tr×Dk):Prop where
 own:jE bs x.1
 dep:cB x.1<=n
 same:dS d x.2
theorem FN{bs:List eK}{n:Nat}{d d1:Dk}(s:dS d d1):vo bs n d (match draw d1 4 with
 |(a,d2)=>match draw d2 10 with
  |(b,d3)=>match draw d3 6 with
   |(c,d4)=>(.num (pick 0 [a,b,999] (pick (0:Int) [0,0,0,1,1,2] c)),d4)):=by
 rcases h2:draw d1 4 with ⟨a,d2⟩
 rcases h3:draw d2 10 with ⟨b,d3⟩
 rcases h4:draw d3 6 with ⟨c,d4⟩
 simp only[h3,h4];exact⟨FL (bL h2 (by decide)) (bL h3 (by decide)) (bL h4 (by decide)),ZN _,((s.trans (bG h2)).trans (bG h3)).trans (bG h4)⟩
theorem FO{bs:List eK}{n:Nat}{d d1:Dk}(s:dS d d1)(h:oX bs≠[]):vo bs n d (match draw d1 (oX bs).length with
 |(j,d2)=>(.box (pick [] (oX bs) j),d2)):=by
 rcases h2:draw d1 (oX bs).length with ⟨j,d2⟩
 have p:(0:Int)<(oX bs).length:=by have:=XE.mpr h;lia
 exact⟨hV [] (bL h2 p).1 (bL h2 p).2,ZN _,s.trans (bG h2)⟩
structure gq(d:Dk)(l:List aF)(d':Dk):Prop where
 rows:∀s∈l,d.row<s.row/\s.row<=d'.row
 pw:l.Pairwise fun a b=>a.row<b.row
 up:d.row<=d'.row
 cnt:(l.length:Int)=d.left-d'.left
 nn:0<=d'.left
 gap:d'.gap=d.gap
theorem gq.nil{d d':Dk}(s:dS d d')(h:0<=d.left):gq d [] d':=⟨fun s h=>(by cases h),.nil,by rw[s.row];exact Xp _,by rw[s.left];simp,by rw[s.left];exact h,s.gap⟩
theorem gq.app{d d1 d2:Dk}{a b:List aF}(h:gq d a d1)(q:gq d1 b d2):gq d (a++b) d2:=by
 refine⟨fun s hs=>?_,Xy.mpr ⟨h.pw,q.pw,fun s hs t ht=>?_⟩,XW h.up q.up,?_,q.nn,q.gap.trans h.gap⟩
 ·rcases Zg.mp hs with hs |hs
  ·have:=h.rows s hs;have:=q.up;lia
  ·have:=q.rows s hs;have:=h.up;lia
 ·have:=h.rows s hs;have:=q.rows t ht;lia
 ·have:=h.cnt;have:=q.cnt;rw[Zc];lia
theorem gq.pre{d d0 d1:Dk}{a:List aF}(h:gq d0 a d1)(s:dS d d0):gq d a d1:=⟨fun x hx=>by have:=h.rows x hx;rw[s.row] at this;exact this,h.pw,by have:=h.up;rw[s.row] at this;exact this,by rw[<- s.left];exact h.cnt,h.nn,h.gap.trans s.gap⟩
theorem gq.post{d d1 d2:Dk}{a:List aF}(h:gq d a d1)(e1:d2.left=d1.left)(e2:d1.row<=d2.row)(e3:d2.gap=d1.gap):gq d a d2:=⟨fun x hx=>by have:=h.rows x hx;lia,h.pw,by have:=h.up;lia,by rw[e1];exact h.cnt,by rw[e1];exact h.nn,e3.trans h.gap⟩
theorem gq.LU{d d1 d2:Dk}{a:List aF}(h:gq d a d1)(s:dS d1 d2):gq d a d2:=h.post s.left (by rw[s.row];exact Xp _) s.gap
theorem kO{d d1:Dk}{a:List aF}(h:gq d a d1):gq d a (hJ d1):=h.post rfl (by unfold hJ;simp only;split<;>lia) rfl
abbrev dG (d:Dk):Prop:=d.gap=0\/d.gap=1\/d.gap=30
theorem qv{d:Dk}(g:dG d):(aV d).left=d.left-1/\(aV d).gap=d.gap/\d.row<(aV d).row:=by
 unfold aV;split
 ·rename_i hg;rcases h:draw {d with left:=d.left-1,row:=d.row+1} d.gap with ⟨x,d1⟩
  have s:=bG h;have:=bL h (by lia);have s1:=s.left;have s2:=s.row;have s3:=s.gap;simp only at *;exact⟨s1,s3,by lia⟩
 ·exact⟨rfl,rfl,by simp only;lia⟩
theorem ko{d d':Dk}{s:aF}(g:dG d)(hl:0<d.left)(e:aP s=[s])(hr:s.row=(aV d).row)(q:dS (aV d) d'):gq d (aP s) d':=by
 obtain⟨h1,h2,h3⟩:=qv g;have q1:=q.left;have q2:=q.row;rw[e];refine⟨fun x hx=>?_,XY _ _,by lia,?_,by lia,q.gap.trans h2⟩
 ·rw[Zh.mp hx,hr];lia
 ·simp only[Zm];lia
theorem qw{d d1 d2:Dk}{s:aF}{l:List aF}(g:dG d)(e:aP s=s::l)(hr:s.row=(aV d).row)(q:dS (aV d) d1)(b:gq d1 l d2):gq d (aP s) d2:=by
 obtain⟨h1,h2,h3⟩:=qv g;have q1:=q.left;have q2:=q.row;have b1:=b.up;have b2:=b.cnt;rw[e];refine⟨fun x hx=>?_,Z7.mpr ⟨fun x hx=>?_,b.pw⟩,by lia,?_,b.nn,b.gap.trans (q.gap.trans h2)⟩
 ·rcases Zf.mp hx with rfl |hx
  ·rw[hr];lia
  ·have:=b.rows x hx;lia
 ·have:=b.rows x hx;lia
 ·rw[Ze];lia
theorem oG:∀(ns:List W) (d:Dk),((gf ns d).1.map (·.name))=ns/\(∀b∈(gf ns d).1,2<=b.size/\b.size<=4/\0<=b.first/\b.first<b.size)
 |[],d=>⟨rfl,fun b h=>by cases h⟩
 |n::r,d=>by
  rw[gf];rcases h1:draw d 4 with ⟨j,d1⟩
  simp only;have pj:=hV (2:Int) (l:=[2,2,3,4]) (bL h1 (by decide)).1 (bL h1 (by decide)).2;generalize (pick 2 [2,2,3,4] j:Int)=sz at *;have hs:2<=sz/\sz<=4:=by
   simp only[Zf,ZI,or_false] at pj;lia
  rcases h2:draw d1 sz with ⟨f,d2⟩
  simp only;obtain⟨a,b⟩:=oG r d2;rcases h3:gf r d2 with ⟨bs,d3⟩
  rw[h3] at a b;simp only at a b ⊢;refine⟨by rw[ZD,a],fun x hx=>?_⟩;rcases Zf.mp hx with rfl |hx
  ·have:=bL h2 (by lia);exact⟨hs.1,hs.2,this.1,this.2⟩
  ·exact b x hx
theorem rN{nm:W->Prop}{ex:Tr->Prop}{sg:W->Prop}:∀(a b:List aF),Ag nm ex sg a->Ag nm ex sg b->Ag nm ex sg (a++b)
 |[],b,_,h=>h
 |s::r,b,h,h2=>⟨h.1,rN r b h.2 h2⟩
theorem i6:∀(a b:List aF),aA (a++b)=aA a++aA b
 |[],b=>rfl
 |s::r,b=>by
  show aP s++aA (r++b)=(aP s++aA r)++aA b;rw[i6 r b,ZA]
theorem bq{d d':Dk}{many x:Int}(h:draw d many=(x,d')):d'.pos=d.pos+1:=by
 unfold draw at h;split at h
 ·cases h;rfl
 ·split at h<;>cases h<;>rfl
theorem oH{st:Dk->aF×Dk}{c:Int}(hc:0<=c)(h:∀d,(st d).2.pos<=d.pos+c):∀(k:Nat) (d:Dk),(fG st k d).2.pos<=d.pos+k*c
 |0,d=>by rw[fG];simp
 |k+1,d=>by
  rw[fG];have e:((k+1:Nat):Int)*c=k*c+c:=by rw[Int.natCast_succ,YB,YC]
  rw[e];split
  ·have:=oH hc h k (st d).2;have:=h d;simp only;lia
  ·have:=oH hc h k d;lia
theorem kP{st:Dk->aF×Dk}{c:Int}(hc:0<=c)(h:∀d,(st d).2.pos<=d.pos+c)(d:Dk):(cP st d).2.pos<=d.pos+1+4*c:=by
 unfold cP;rcases h1:draw d 5 with ⟨k,d1⟩
 have p:=bq h1;have q:=bL h1 (by decide);have:=oH hc h k.toNat d1;simp only;have:(k.toNat:Int)*c<=4*c:=Xr (by lia) hc;lia
theorem DD{st:Option (Dk->aF×Dk)}{c:Int}(hc:0<=c)(h:∀s,st=some s->∀d,(s d).2.pos<=d.pos+c)(row kind:Int)(sg:W)(l r:Tr)(d:Dk):(wb st row kind sg l r d).2.pos<=d.pos+3+8*c:=by
 unfold wb;cases st with
 |none=>simp only;lia
 |some s=>
  simp only;split
  ·simp only;lia
  ·have a:=kP hc (h s rfl) d;rcases ha:cP s d with ⟨x,d1⟩
   rw[ha] at a;simp only at a ⊢;split
   ·show d1.pos<=_;lia
   ·rcases ht:draw d1 2 with ⟨t,d2⟩
    have p:=bq ht;simp only;split
    ·have b:=kP hc (h s rfl) (hJ d2);rcases hb:cP s (hJ d2) with ⟨y,d3⟩
     rw[hb] at b;have e:(hJ d2).pos=d2.pos:=rfl;show d3.pos<=_;simp only at b;lia
    ·show d2.pos<=_;lia
theorem sS(d:Dk):(aV d).pos<=d.pos+1:=by
 unfold aV;split
 ·rcases h:draw {d with left:=d.left-1,row:=d.row+1} d.gap with ⟨x,d1⟩
  have p:=bq h;simp only at *;lia
 ·simp only;lia
theorem Jc(ns:List W):oX (ns.map fun n=>⟨n,0,0⟩)=ns:=by
 unfold oX;rw[ZL];exact List.map_id _
theorem oI{st:Dk->aF×Dk}(h:∀d,(st d).2.gap=d.gap):∀(k:Nat) (d:Dk),(fG st k d).2.gap=d.gap
 |0,d=>rfl
 |k+1,d=>by
  rw[fG];split
  ·exact(oI h k (st d).2).trans (h d)
  ·exact oI h k d
theorem kQ{st:Dk->aF×Dk}(h:∀d,(st d).2.gap=d.gap)(d:Dk):(cP st d).2.gap=d.gap:=(oI h _ _).trans (qu d 5).gap
theorem DE{st:Option (Dk->aF×Dk)}(h:∀s,st=some s->∀d,(s d).2.gap=d.gap)(row kind:Int)(sg:W)(l r:Tr)(d:Dk):(wb st row kind sg l r d).2.gap=d.gap:=by
 unfold wb;cases st with
 |none=>rfl
 |some s=>
  simp only;split
  ·rfl
  ·have a:=kQ (h s rfl) d;rcases ha:cP s d with ⟨x,d1⟩
   rw[ha] at a;simp only at a ⊢;split
   ·exact a
   ·rcases ht:draw d1 2 with ⟨t,d2⟩
    have p:=(bG ht).gap;simp only;split
    ·have b:=kQ (h s rfl) (hJ d2);rcases hb:cP s (hJ d2) with ⟨y,d3⟩
     rw[hb] at b;exact b.trans (p.trans a)
    ·exact p.trans a
theorem sT(d:Dk):(aV d).gap=d.gap:=by
 unfold aV;split
 ·rcases h:draw {d with left:=d.left-1,row:=d.row+1} d.gap with ⟨x,d1⟩
  exact(bG h).gap
 ·rfl
end PG
namespace L2
open PySem PySem.Spec PyProof.Rows
structure gw(H:Hp)(D C G:YE)(d:PG.Dk):Prop where
 cy:H D=some (.lst [.ref C,.int d.pos,.ref G,.int d.left,.int d.row,.int d.gap])
 cs:H C=some (.lst (d.cs.map V.int))
 gs:H G=some (.lst (d.gs.map V.bl))
 Jd:D≠C
 JO:D≠G
 JP:C≠G
 len:d.cs.length<=63
 gl:d.gs.length=d.cs.length
 pos:0<=d.pos
abbrev O2 (D C:YE):YE->Prop:=fun b=>b=D\/b=C
section
variable{H H':Hp}{D C G:YE}{d:PG.Dk}
theorem gw.same(h:gw H D C G d)(s:ai H H'):gw H' D C G d:=⟨s _ _ h.cy,s _ _ h.cs,s _ _ h.gs,h.Jd,h.JO,h.JP,h.len,h.gl,h.pos⟩
theorem gw.put(h:gw H D C G d){d':PG.Dk}(u:bw D H H')(y:H' D=some (.lst [.ref C,.int d'.pos,.ref G,.int d'.left,.int d'.row,.int d'.gap]))(e1:d'.cs=d.cs)(e2:d'.gs=d.gs)(p:0<=d'.pos):gw H' D C G d':=by
 refine⟨y,?_,?_,h.Jd,h.JO,h.JP,?_,?_,p⟩
 ·rw[e1];exact u _ _ h.Jd.symm h.cs
 ·rw[e2];exact u _ _ h.JO.symm h.gs
 ·rw[e1];exact h.len
 ·rw[e1,e2];exact h.gl
theorem gw.dD(h:gw H D C G d):H D≠none:=by rw[h.cy];simp
theorem gw.dC(h:gw H D C G d):H C≠none:=by rw[h.cs];simp
end
structure eV(D C:YE)(H H':Hp):Prop where
 u:aE (O2 D C) H H'
 jn:∀b,H b≠none->H' b≠none
section
variable{K:Za}{H0 H H1 H2:Hp}{D C:YE}
theorem eV.refl:eV D C H H:=⟨.refl,fun _ h=>h⟩
theorem eV.trans(a:eV D C H H1)(b:eV D C H1 H2):eV D C H H2:=⟨a.u.trans b.u,fun z h=>b.jn z (a.jn z h)⟩
theorem eV.of(s:ai H H1):eV D C H H1:=⟨.of s,fun b h=>by
 cases e:H b with
 |none=>exact absurd e h
 |some o=>rw[s b o e];simp⟩
theorem eV.put(o:HO){p:YE}(hp:p=D\/p=C):eV D C H (upd H p o):=⟨aE.refl.put hp o,fun b h=>by
 by_cases z:b=p
 ·subst z;rw[af];simp
 ·rw[aL z];exact h⟩
theorem eV.get(a:eV D C H H1){b:YE}{o:HO}(h:H b=some o)(n1:b≠D)(n2:b≠C):H1 b=some o:=a.u b o (fun z=>z.elim n1 n2) h
theorem Own.chg{d:Dp}{v:V}(f:Own K H0 H d v)(c:eV D C H H1)(hD:H0 D≠none)(hC:H0 C≠none):Own K H0 H1 d v:=fun O hO=>by
 have:=f (fun b=>O b\/O2 D C b) fun b hb=>by
  rcases hb with hb |rfl |rfl
  ·exact hO b hb
  ·exact hD
  ·exact hC
 exact(this.up (c.u.mono fun b hb=>.inr hb)).sub fun b hb=>.inl hb
theorem a9.chg{ds:List Dp}{vs:List V}(f:a9 K H0 H ds vs)(c:eV D C H H1)(hD:H0 D≠none)(hC:H0 C≠none):a9 K H0 H1 ds vs:=fun O hO=>by
 have:=f (fun b=>O b\/O2 D C b) fun b hb=>by
  rcases hb with hb |rfl |rfl
  ·exact hO b hb
  ·exact hD
  ·exact hC
 exact(this.up (c.u.mono fun b hb=>.inr hb)).sub fun b hb=>.inl hb
end
section
variable(K:Za)
def Je:Sp:=fun vs H Q _=>∃(D C G:YE) (d:PG.Dk) (many:Int),vs=[.ref D,.int many]/\gw H D C G d/\0<many/\many<=1000/\d.pos<=2 ^ 50/\
 ∀x d' H',PG.draw d many=(x,d')->eV D C H H'->gw H' D C G d'->Q (.int x) H'
def Jf:Sp:=fun vs H Q _=>∃(a:YE) (ns:List Int),vs=[.ref a]/\gX K H a (ns.map V.int)/\ns.length<=63/\
 ∀D C G H',ai H H'->H D=none->H C=none->gw H' D C G (PG.oF ns)->Q (.ref D) H'
def pF (H:Hp) (N:YE) (ns:List PM.W):Prop:=H N=some (.lst (ns.map fun n=>V.str (L2.S n)))
end
theorem rO{l:List Int}{c:Int}(x:Int)(h0:0<=c)(h1:c<l.length):Bh (l.map V.int) c=some (V.int (PG.pick x l c)):=by
 obtain⟨j,rfl⟩:∃j:Nat,c=j:=⟨c.toNat,by lia⟩
 have hj:j<l.length:=by lia
 refine av ?_;unfold PG.pick;rw[Zq,Z2,ZH,Zd hj];rfl
theorem wc{ns:List PM.W}{c:Int}(h0:0<=c)(h1:c<ns.length):Bh (ns.map fun n=>V.str (L2.S n)) c=some (V.str (L2.S (PG.pick [] ns c))):=by
 obtain⟨j,rfl⟩:∃j:Nat,c=j:=⟨c.toNat,by lia⟩
 have hj:j<ns.length:=by lia
 refine av ?_;unfold PG.pick;rw[Zq,Z2,ZH,Zd hj];rfl
theorem DF{z:Int}(h0:0<=z)(h3:z<3):∃c,Bh (Zj "+-*").cps.toList z=some c/\V.str ⟨#[c]⟩=V.str (L2.S (PG.pick [] [[43],[45],[42]] z)):=by
 have z3:z=0\/z=1\/z=2:=by lia
 rcases z3 with rfl |rfl |rfl
 ·exact⟨43,av (j:=0) (by decide +kernel),rfl⟩
 ·exact⟨45,av (j:=1) (by decide +kernel),rfl⟩
 ·exact⟨42,av (j:=2) (by decide +kernel),rfl⟩
theorem Jg{z:Int}(h0:0<=z)(h3:z<2):∃c,Bh (Zj "<=").cps.toList z=some c/\V.str ⟨#[c]⟩=V.str (L2.S (PG.pick [] PG.px z)):=by
 have z3:z=0\/z=1:=by lia
 rcases z3 with rfl |rfl
 ·exact⟨60,av (j:=0) (by decide +kernel),rfl⟩
 ·exact⟨61,av (j:=1) (by decide +kernel),rfl⟩
def mr (K:Za) (H:Hp) (ss:List PG.aF) (fl:List PG.jR) (ps:List V):Prop:=∀(i:Nat) (s:PG.aF) (f:PG.jR),ss[i]?=some s->fl[i]?=some f->∃p u wl,ps[i]?=some (.ref p)/\bU K H p [u,.ref wl]/\Rep K H (bp s) u/\H wl=some (.lst (f.2.2.map V.int))
structure O3(K:Za)(H:Hp)(md:YE)(pr:PG.Prog):Prop where
 at_:∃(F N Z fa:YE) (ps:List V),H md=some (.lst [.ref F,.ref N,.ref Z,.ref fa])/\ps.length=(PG.aA pr.body).length/\H F=some (.dK (qP (PG.aA pr.body) ps))/\mr K H (PG.aA pr.body) (PG.cA pr.body 0) ps/\H N=some (.lst (pr.aS.map fun b=>V.str (S b.name)))/\H Z=some (.lst (pr.aS.map fun b=>V.int b.size))/\gC K H fa (PG.fO pr.body 0) (pr.aS.map (·.first))
theorem mr.mono{K:Za}{H H':Hp}{ss:List PG.aF}{fl:List PG.jR}{ps:List V}(h:mr K H ss fl ps)(s:ai H H'):mr K H' ss fl ps:=fun i x f e1 e2=>by
 obtain⟨p,u,wl,h1,h2,h3,h4⟩:=h i x f e1 e2;exact⟨p,u,wl,h1,s.a7 h2,h3.mono s,s _ _ h4⟩
theorem O3.mono{K:Za}{H H':Hp}{md:YE}{pr:PG.Prog}(h:O3 K H md pr)(s:ai H H'):O3 K H' md pr:=by
 obtain⟨F,N,Z,fa,ps,h1,h2,h3,h4,h5,h6,h7⟩:=h.at_;exact⟨⟨F,N,Z,fa,ps,s _ _ h1,h2,s _ _ h3,h4.mono s,s _ _ h5,s _ _ h6,h7.mono s⟩⟩
theorem mr.nil{K:Za}{H:Hp}:mr K H [] [] []:=fun i s f e=>by simp at e
theorem mr.one{K:Za}{H:Hp}{s:PG.aF}{f:PG.jR}{p wl:YE}{u:V}(h1:bU K H p [u,.ref wl])(h2:Rep K H (bp s) u)(h3:H wl=some (.lst (f.2.2.map V.int))):mr K H [s] [f] [.ref p]:=fun i x g e1 e2=>by
 cases i with
 |zero=>cases e1;cases e2;exact⟨p,u,wl,rfl,h1,h2,h3⟩
 |succ i=>simp at e1
end L2
namespace PG
open PM (W Tr)
abbrev Rg:=Int×Int
end PG
namespace L2
open PySem
def oJ (K:Za) (H:Hp) (v:V) (r:PG.Rg):Prop:=∃a,v=.ref a/\bU K H a [.int r.1,.int r.2]
theorem oJ.mono{K:Za}{H H':Hp}{v:V}{r:PG.Rg}(h:oJ K H v r)(s:ai H H'):oJ K H' v r:=let ⟨a,e,q⟩:=h;⟨a,e,s.a7 q⟩
theorem oJ.new{K:Za}{H H':Hp}{p:YE}{r:PG.Rg}(e:upd H p (.tup [.int r.1,.int r.2])=H'):oJ K H' (.ref p) r:=⟨p,rfl,.of (e▸af)⟩
def O4 (k:Nat) (r:PG.Rg):Prop:=r.1.natAbs<=k/\r.2.natAbs<=k
def DG (K:Za) (H:Hp) (aJ:List (Key×V)) (f:W->PG.Rg):PM.Tr->Prop
 |.num n=>n.natAbs<=2 ^ 12
 |.box x=>(∃v,dR aJ (.inr (S x))=some v/\oJ K H v (f x))/\O4 (2 ^ 12) (f x)
 |.bin o l r=>(o=[43]\/o=[45]\/o=[42])/\DG K H aJ f l/\DG K H aJ f r
theorem DG.mono{K:Za}{H H':Hp}{aJ:List (Key×V)}{f:W->PG.Rg}(s:ai H H'):∀ {t:PM.Tr},DG K H aJ f t->DG K H' aJ f t
 |.num n,h=>h
 |.box x,h=>let ⟨⟨v,e,r⟩,b⟩:=h;⟨⟨v,e,r.mono s⟩,b⟩
 |.bin o l r,h=>⟨h.1,DG.mono s h.2.1,DG.mono s h.2.2⟩
def Nv (f:W->PG.Rg):PM.Tr->Prop
 |.num n=>n.natAbs<=2 ^ 12
 |.box x=>O4 (2 ^ 12) (f x)
 |.bin _ l r=>Nv f l/\Nv f r
theorem DG.u{K:Za}{H:Hp}{aJ:List (Key×V)}{f:W->PG.Rg}:∀ {t:PM.Tr},DG K H aJ f t->Nv f t
 |.num n,h=>h
 |.box x,h=>h.2
 |.bin o l r,h=>⟨DG.u h.2.1,DG.u h.2.2⟩
end L2
namespace L3
open PySem PyProof.Rows
abbrev tA (h:Heap) (l:YE):Heap:=h.push {cls:=.type "tuple_iterator",data:=.fields #[.ref l,.int 0 0]}
abbrev tB (h:Heap) (l tp:YE):Heap:=(tA h l).push {cls:=.type "tuple_iterator",data:=.fields #[.ref tp,.int 0 0]}
abbrev tC (h:Heap) (l tp:YE):Heap:=(tB h l tp).push {cls:=.type "tuple",data:=.seq #[.ref h.objs.size,.ref (tA h l).objs.size]}
end L3
namespace PG
open PM (W Tr)
def ug (bs:List eK) (x:W):Nat:=bs.findIdx fun b=>decide (b.name=x)
def uh (bs:List eK) (rs:List Rg) (x:W):Rg:=rs.getD (ug bs x) (0,0)
def sU (bs:List eK) (rs:List Rg) (x:W) (r:Rg):List Rg:=rs.set (ug bs x) r
theorem sV{bs:List eK}(nb:(bs.map (·.name)).Nodup){i:Nat}(hi:i<bs.length):ug bs bs[i].name=i:=by
 unfold ug;rw[List.findIdx_eq (by simpa using hi)];refine⟨by simp,fun j hj=>?_⟩;have h:=XO.mp nb j i (by simp;lia) (by simp;lia) hj;exact decide_eq_false (by simpa using h)
end PG
namespace L2
open PySem
def GG (K:Za) (H:Hp) (bs:List PG.eK) (aJ:List (Key×V)) (rs:List PG.Rg):Prop:=rs.length=bs.length/\∀i (hi:i<bs.length),∃v,dR aJ (.inr (S bs[i].name))=some v/\∃r,rs[i]?=some r/\oJ K H v r
theorem GG.mono{K:Za}{H H':Hp}{bs:List PG.eK}{aJ:List (Key×V)}{rs:List PG.Rg}(h:GG K H bs aJ rs)(s:ai H H'):GG K H' bs aJ rs:=
 ⟨h.1,fun i hi=>let ⟨v,e,r,er,q⟩:=h.2 i hi;⟨v,e,r,er,q.mono s⟩⟩
def JQ (bs:List PG.eK) (rs:List PG.Rg):PM.Tr->Prop
 |.num n=>n.natAbs<=2 ^ 12
 |.box x=>x∈bs.map (·.name)/\O4 (2 ^ 12) (PG.uh bs rs x)
 |.bin o l r=>(o=[43]\/o=[45]\/o=[42])/\JQ bs rs l/\JQ bs rs r
theorem GG.at_{K:Za}{H:Hp}{bs:List PG.eK}{aJ:List (Key×V)}{rs:List PG.Rg}(h:GG K H bs aJ rs)(nb:(bs.map (·.name)).Nodup){x:W}(hx:x∈bs.map (·.name)):∃v,dR aJ (.inr (S x))=some v/\oJ K H v (PG.uh bs rs x):=by
 obtain⟨b,hb,rfl⟩:=Zp.mp hx;obtain⟨i,hi,rfl⟩:=Yp hb;obtain⟨v,e,r,er,q⟩:=h.2 i hi;refine⟨v,e,?_⟩;unfold PG.uh;rw[PG.sV nb hi,ZH,er];exact q
theorem GG.put{K:Za}{H:Hp}{bs:List PG.eK}{aJ:List (Key×V)}{rs:List PG.Rg}(h:GG K H bs aJ rs)(nb:(bs.map (·.name)).Nodup){x:W}(hx:x∈bs.map (·.name)){v:V}{r:PG.Rg}(hv:oJ K H v r):GG K H bs (putK aJ (.inr (S x)) v) (PG.sU bs rs x r):=by
 obtain⟨b,hb,rfl⟩:=Zp.mp hx;obtain⟨j,hj,rfl⟩:=Yp hb;unfold PG.sU;rw[PG.sV nb hj];refine⟨by rw[Xq];exact h.1,fun i hi=>?_⟩;by_cases e:i=j
 ·subst e;exact⟨v,by rw[si,if_pos rfl],r,by rw[Xv (by rw[h.1];exact hi)],hv⟩
 ·obtain⟨u,e1,r1,er,q⟩:=h.2 i hi;refine⟨u,?_,r1,by rw[Xx (Ne.symm e)];exact er,q⟩;rw[si,if_neg fun z=>e ?_]
  ·exact e1
  ·have z:=Lu.mp (Sum.inr.inj z);have l:i<(bs.map (·.name)).length:=by simpa using hi
   have:=PG.sV nb hi;rw[<- PG.sV nb hi,<- PG.sV nb hj,z]
def yX (K:Za) (H:Hp) (us:List V) (rs:List PG.Rg):Prop:=us.length=rs.length/\∀i (hi:i<us.length),∃r,rs[i]?=some r/\oJ K H us[i] r
theorem yX.mono{K:Za}{H H':Hp}{us:List V}{rs:List PG.Rg}(h:yX K H us rs)(s:ai H H'):yX K H' us rs:=⟨h.1,fun i hi=>let ⟨r,e,q⟩:=h.2 i hi;⟨r,e,q.mono s⟩⟩
def sW (K:Za) (H:Hp) (v:V) (rs:List PG.Rg):Prop:=∃a us,v=.ref a/\bU K H a us/\yX K H us rs
theorem sW.mono{K:Za}{H H':Hp}{v:V}{rs:List PG.Rg}(h:sW K H v rs)(s:ai H H'):sW K H' v rs:=let ⟨a,us,e,q,r⟩:=h;⟨a,us,e,s.a7 q,r.mono s⟩
def DH (K:Za) (H:Hp) (v:V):Option (List PG.Rg)->Prop
 |none=>v=.f9
 |some rs=>sW K H v rs
theorem DH.mono{K:Za}{H H':Hp}{v:V}:∀ {o:Option (List PG.Rg)},DH K H v o->ai H H'->DH K H' v o
 |none,h,_=>h
 |some _,h,s=>sW.mono h s
theorem oJ.nJ{K:Za}{H H':Hp}{D:YE}{v:V}{r:PG.Rg}{ys:List V}(h:oJ K H v r)(hD:H D=some (.lst ys))(u:bw D H H'):oJ K H' v r:=let ⟨a,e,q⟩:=h;⟨a,e,q.nJ hD u⟩
theorem sW.nJ{K:Za}{H H':Hp}{D:YE}{v:V}{rs:List PG.Rg}{ys:List V}(h:sW K H v rs)(hD:H D=some (.lst ys))(u:bw D H H'):sW K H' v rs:=
 let ⟨a,us,e,q,l,r⟩:=h;⟨a,us,e,q.nJ hD u,l,fun i hi=>let ⟨r1,e1,q1⟩:=r i hi;⟨r1,e1,q1.nJ hD u⟩⟩
def ui (K:Za) (H:Hp) (v:V) (w:Int×List PG.Rg):Prop:=∃a u,v=.ref a/\bU K H a [.int w.1,u]/\sW K H u w.2
theorem ui.mono{K:Za}{H H':Hp}{v:V}{w:Int×List PG.Rg}(h:ui K H v w)(s:ai H H'):ui K H' v w:=let ⟨a,u,e,q,r⟩:=h;⟨a,u,e,s.a7 q,r.mono s⟩
theorem ui.nJ{K:Za}{H H':Hp}{D:YE}{v:V}{w:Int×List PG.Rg}{ys:List V}(h:ui K H v w)(hD:H D=some (.lst ys))(u:bw D H H'):ui K H' v w:=let ⟨a,x,e,q,r⟩:=h;⟨a,x,e,q.nJ hD u,r.nJ hD u⟩
inductive sX(K:Za)(H:Hp):List V->List (Int×List PG.Rg)->Prop
 |nil:sX K H [] []
 |cons {v w us ws}:ui K H v w->sX K H us ws->sX K H (v::us) (w::ws)
theorem sX.map{K:Za}{H H':Hp}{us:List V}{ws:List (Int×List PG.Rg)}(h:sX K H us ws)(f:∀v w,ui K H v w->ui K H' v w):sX K H' us ws:=by
 induction h with
 |nil=>exact .nil
 |cons a _ ih=>exact .cons (f _ _ a) ih
theorem sX.snoc{K:Za}{H:Hp}{us:List V}{ws:List (Int×List PG.Rg)}{v:V}{w:Int×List PG.Rg}(h:sX K H us ws)(q:ui K H v w):sX K H (us++[v]) (ws++[w]):=by
 induction h with
 |nil=>exact .cons q .nil
 |cons a _ ih=>exact .cons a ih
theorem sX.len{K:Za}{H:Hp}{us:List V}{ws:List (Int×List PG.Rg)}(h:sX K H us ws):us.length=ws.length:=by
 induction h with
 |nil=>rfl
 |cons a _ ih=>simp[ih]
def GH (H:Hp) (s:YE):Prop:=∃n m:Int,H s=some (.lst [.int n,.int m])
theorem GH.same{H H':Hp}{s:YE}(h:GH H s)(e:ai H H'):GH H' s:=let ⟨n,m,q⟩:=h;⟨n,m,e _ _ q⟩
def DI (bs:List PG.eK):PM.Tr->Prop
 |.num n=>0<=n/\n<1000
 |.box x=>x∈bs.map (·.name)
 |.bin o l r=>(o=[43]\/o=[45]\/o=[42])/\DI bs l/\DI bs r
def O5 (bs:List PG.eK) (sg:W) (l r:PM.Tr):Prop:=(sg=[60]\/sg=[61])/\DI bs l/\DI bs r/\PG.cB l<=2/\PG.cB r<=2
def Rw (row:Int) (b:List PG.aF):Prop:=b=[]\/b=[.say (row+1) (.num 1)]
def TX (row:Int) (b:List PG.aF):Prop:=b=[]\/b=[.stop (row+3)]
def LV (bs:List PG.eK) (row:Int):PG.aF->Prop
 |.ask k b=>k=row/\b∈bs.map (·.name)
 |.put k b e=>k=row/\b∈bs.map (·.name)/\DI bs e/\PG.cB e<=2
 |.say k e=>k=row/\DI bs e/\PG.cB e<=2
 |.stop k=>k=row
 |.bH k sg l r=>k=row/\O5 bs sg l r
 |.cZ k sg l r a=>k=row/\O5 bs sg l r/\Rw row a
 |.ifs k sg l r a b=>k=row/\O5 bs sg l r/\Rw row a/\TX row b
def LW (K:Za) (s:YE) (H:Hp) (B:YE) (bs:List PG.eK):Prop:=B≠s/\bs.length<=10/\∃xs,H B=some (.lst xs)/\aM K (·=s) H (bs.map gZ) xs
theorem LW.aS{K:Za}{s B:YE}{H:Hp}{bs:List PG.eK}(h:LW K s H B bs):qO K (·=s) H B bs:=let ⟨n,l,xs,e,f⟩:=h;⟨Fix.lst e n f,l⟩
theorem LW.up{K:Za}{s B:YE}{H H1:Hp}{bs:List PG.eK}(h:LW K s H B bs)(u:bw s H H1):LW K s H1 B bs:=let ⟨n,l,xs,e,f⟩:=h;⟨n,l,xs,u _ _ n e,f.up (aE.one u rfl)⟩
section
variable(K:Za)(C:YE)
def By:PM.Tr->List PM.Tr
 |.bin o l r=>.bin o l r::(By l++By r)
 |t=>[t]
end
open PyProof.Rows
theorem FP{l b:YE}{a1 a2:Array YF}{n n2:Nat}{u u2:Obj}(c1:u.cls=.type "list")(d1:u.data=.seq a1 n)(c2:u2.cls=.type "list")(d2:u2.data=.seq a2 n2)(hc:a1.size+a2.size<=YM) :
 Meets (Builtin.«list.__add__» ⟨[.ref l,.ref b],[]⟩) (fun _ R s=>(s.heap.get? l=some u/\s.heap.get? b=some u2)/\R (.ok (.ret (Value.ref s.heap.objs.size))) {s with heap:=s.heap.push {cls:=Value.type "list",data:=Data.seq (a1++a2)},toks:=s.toks}):=by
 obtain⟨cls,dd,data,sl⟩:=u;obtain⟨KP,KQ,data2,JI⟩:=u2;simp only at c1 d1 c2 d2;subst c1 d1 c2 d2;refine .of_wp fun prog w A R s h=>?_;obtain⟨hp,g,d,tk,os⟩:=s;obtain⟨⟨hl,hb⟩,h⟩:=h;have f1:=AutoSeq1.sub_list_list
 wp_walk using wpAny_loadPart' hl,wpAny_loadPart' hb
 exact⟨_,rfl,h⟩
def GI (K:Za):R2:=fun x y H Q=>∃l b xs zs,x=.ref l/\y=.ref b/\gX K H l xs/\gX K H b zs/\xs.length+zs.length<=1000/\∀p,H p=none->Q (.ref p) (upd H p (.lst (xs++zs)))
theorem Ay{X:Cx}:nX X (binaryOp .Add) (GI X.K):=by
 intro pins s σ H x y v u Q I rx ry h;obtain⟨l,b,xs,zs,rfl,rfl,hH,hB,hz,q⟩:=h;cases rx;cases ry;obtain⟨bC,r,⟨o,n,e,c1,_,d1⟩,_⟩:=I.list hH;obtain⟨qi,r2,⟨o2,n2,e2,c2,_,d2⟩,_⟩:=I.list hB;have hl:=r.length;have Rb:=r2.length;have line:YM=2 ^ 24:=rfl;refine concat_meets ⟨_,e,c1⟩ ⟨_,e2,c2⟩ noFill_list_add seq_list_add F.slot_list_add F.entry_list_add (F.args_list_add_2 _ _) (FP c1 d1 c2 d2 (by rw[Zv,Zv];lia)) ⟨⟨e,e2⟩,?_⟩;have ea:bC.toArray++qi.toArray=(bC++qi).toArray:=by simp
 rw[ea];exact⟨.ref _,_,I.Il (t':=s.toks) (r.append r2) (by rw[Zc];lia),rfl,q _ I.fresh⟩
theorem GH.ne{H:Hp}{s p:YE}(h:GH H s)(hp:H p=none):p≠s:=by
 obtain⟨n,m,e⟩:=h;exact(ao e hp).symm
theorem GH.new{H:Hp}{s p:YE}(h:GH H s)(hp:H p=none)(o:HO):GH (upd H p o) s:=h.same (ai.new hp o)
theorem JQ.u{bs:List PG.eK}{rs:List PG.Rg}:∀ {t:PM.Tr},JQ bs rs t->Nv (PG.uh bs rs) t
 |.num n,h=>h
 |.box x,h=>h.2
 |.bin o l r,h=>⟨JQ.u h.2.1,JQ.u h.2.2⟩
theorem sW.get{K:Za}{H:Hp}{bs:List PG.eK}{rs:List PG.Rg}{rv:V}(h:sW K H rv rs)(ll:rs.length=bs.length){x:W}(hx:x∈bs.map (·.name)){Q:VK}(q:∀u,oJ K H u (PG.uh bs rs x)->Q u H):E7 K rv (.int (PG.ug bs x)) H Q:=by
 obtain⟨a,us,rfl,hS,l,g⟩:=h;have lt:PG.ug bs x<bs.length:=by
  unfold PG.ug;rw[List.findIdx_lt_length];obtain⟨b,hb,e⟩:=Zp.mp hx;exact⟨b,hb,by simp[e]⟩
 obtain⟨r,er,hr⟩:=g (PG.ug bs x) (by lia);refine aN hS (v:=us[PG.ug bs x]) (av (Zd (by lia))) (q _ ?_);unfold PG.uh;rw[ZH,er];exact hr
theorem mv(xs:List V){x:Int}(h:0<=x):cO xs none (some x)=xs.take x.toNat:=by
 obtain⟨j,rfl⟩:∃j:Nat,x=j:=⟨x.toNat,by lia⟩
 unfold cO;rw[HT.ke,HT.ni,XJ,W5,Z2];by_cases h:j<=xs.length
 ·rw[WM h]
 ·rw[W7 (by lia),Zw,Xl (by lia)]
theorem fQ(xs:List V)(j:Nat):cO xs (some (j:Int)) none=xs.drop j:=by
 unfold cO;rw[HT.ke,HT.ni];by_cases h:j<=xs.length
 ·rw[WM h,Xl (by rw[ZW];lia)]
 ·rw[W7 (by lia),X4 (by lia),X4 (by lia),List.take_nil]
theorem we(xs:List V){j:Nat}(hj:j<xs.length)(x:V):cO xs none (some (j:Int))++[x]++cO xs (some ((j:Int)+1)) none=xs.set j x:=by
 rw[mv xs (by lia),show ((j:Int)+1)=((j+1:Nat):Int) by lia,fQ,Z2,List.set_eq_take_append_cons_drop,if_pos hj,ZA];rfl
structure sY(H:Hp)(ps:List YE)(rs:List PG.Rg):Prop where
 l:ps.length=rs.length
 nd:ps.Nodup
 at_:∀j (hj:j<ps.length),∃r,rs[j]?=some r/\H ps[j]=some (.lst [.int r.1,.int r.2])
theorem sY.up{H H':Hp}{ps:List YE}{rs:List PG.Rg}(h:sY H ps rs)(u:∀p o,p∈ps->H p=some o->H' p=some o):sY H' ps rs:=
 ⟨h.l,h.nd,fun j hj=>let ⟨r,e,q⟩:=h.at_ j hj;⟨r,e,u _ _ (Zu hj) q⟩⟩
theorem sY.put{H H':Hp}{ps:List YE}{rs:List PG.Rg}(h:sY H ps rs){j:Nat}(hj:j<ps.length){r:PG.Rg}(u:bw ps[j] H H')(e:H' ps[j]=some (.lst [.int r.1,.int r.2])):sY H' ps (rs.set j r):=by
 refine⟨by rw[Xq];exact h.l,h.nd,fun i hi=>?_⟩;have lj:j<rs.length:=by rw[<- h.l];exact hj
 by_cases z:i=j
 ·subst z;exact⟨r,by rw[Xv lj],e⟩
 ·obtain⟨r1,e1,q1⟩:=h.at_ i hi;refine⟨r1,by rw[Xx (Ne.symm z)];exact e1,u _ _ (fun y=>z ?_) q1⟩;exact(W2 h.nd).mp y
theorem sY.snoc{H:Hp}{ps:List YE}{rs:List PG.Rg}(h:sY H ps rs){p:YE}{r:PG.Rg}(np:p ∉ ps)(e:H p=some (.lst [.int r.1,.int r.2])):sY H (ps++[p]) (rs++[r]):=by
 refine⟨by simp[h.l],Xd.mpr ⟨h.nd,by simp,fun a ha b hb=>?_⟩,fun i hi=>?_⟩
 ·rw[Zh.mp hb];exact fun z=>np (z▸ha)
 ·by_cases z:i<ps.length
  ·obtain⟨r1,e1,q1⟩:=h.at_ i z;exact⟨r1,by rw[Xe (by rw[<- h.l];exact z)];exact e1,by rw[XU z];exact q1⟩
  ·have:i=ps.length:=by simp at hi;lia
   subst this;exact⟨r,by rw[Z3 (by rw[h.l];exact Zn _),h.l];simp,by rw[WZ (Zn _)];simp only[Nat.sub_self,List.getElem_singleton];exact e⟩
theorem yX.put{K:Za}{H:Hp}{us:List V}{rs:List PG.Rg}(h:yX K H us rs){j:Nat}{v:V}{r:PG.Rg}(g:oJ K H v r):yX K H (us.set j v) (rs.set j r):=by
 refine⟨by rw[Xq,Xq];exact h.1,fun i hi=>?_⟩;rw[Xq] at hi;by_cases z:j=i
 ·subst z;exact⟨r,by rw[Xv (by rw[<- h.1];exact hi)],by rw[List.getElem_set_self];exact g⟩
 ·obtain⟨r1,e1,q1⟩:=h.2 i hi;exact⟨r1,by rw[Xx z];exact e1,by rw[List.getElem_set_ne z];exact q1⟩
theorem sY.nil{H:Hp}:sY H [] []:=⟨rfl,Xt,fun j hj=>by simp at hj⟩
theorem LX{K:Za}:ZZ K (.type "str") (.type "tuple")=some false:=by kernel_rfl
theorem LY{K:Za}:ZZ K (.type "list") (.type "tuple")=some false:=by kernel_rfl
theorem DJ:∀ {bs:List PG.eK},(∀x∈bs.map (·.name),PyData.canLay0 (.str (S x))=true)->PyData.canLayAll0 (Dp.lW (bs.map gZ))=true/\PyData.depthAll (Dp.lW (bs.map gZ))<=1
 |[],_=>by simp[Dp.lW,PyData.canLayAll0,PyData.depthAll]
 |b::bs,h=>by
  obtain⟨h1,h2⟩:=DJ (bs:=bs) fun x hx=>h x (by simp only[ZD,Zf];exact .inr hx);have e:=h b.name (by simp);simp only[PyData.canLay0] at e;simp only[ZD,gZ,Dp.lW,Dp.py,PyData.canLayAll0,PyData.depthAll,PyData.canLay0,PyData.depth,e,h1];exact⟨rfl,by lia⟩
theorem LV.OX{bs:List PG.eK}{row:Int}{st:PG.aF}(h:LV bs row st):∃r,PG.aP st=st::r/\(∀s∈r,row<s.row/\s.row<=row+3)/\r.Pairwise (fun a b=>a.row<b.row)/\r.length<=2/\PG.cU st<=1:=by
 cases st with
 |cZ k sg a b i=>
  obtain⟨rfl,_,hi⟩:=h;rcases hi with rfl |rfl
  ·exact⟨[],by simp[PG.aP,PG.aA],by simp,by simp,by simp,by simp[PG.cU,PG.bA]⟩
  ·exact⟨_,by simp[PG.aP,PG.aA];rfl,by simp[PG.aF.row];lia,by simp,by simp,by simp[PG.cU,PG.bA]⟩
 |ifs k sg a b i e=>
  obtain⟨rfl,_,hi,he⟩:=h;rcases hi with rfl |rfl<;>rcases he with rfl |rfl
  ·exact⟨[],by simp[PG.aP,PG.aA],by simp,by simp,by simp,by simp[PG.cU,PG.bA]⟩
  ·exact⟨_,by simp[PG.aP,PG.aA];rfl,by simp[PG.aF.row];lia,by simp,by simp,by simp[PG.cU,PG.bA]⟩
  ·exact⟨_,by simp[PG.aP,PG.aA];rfl,by simp[PG.aF.row];lia,by simp,by simp,by simp[PG.cU,PG.bA]⟩
  ·exact⟨[.say (k+1) (.num 1),.stop (k+3)],by simp[PG.aP,PG.aA],by simp[PG.aF.row];lia,by simp[PG.aF.row],by simp,by simp[PG.cU,PG.bA]⟩
 |_=>exact⟨[],by simp[PG.aP],by simp,by simp,by simp,by simp[PG.cU]⟩
theorem DI.sub{bs:List PG.eK}:∀ {t:PM.Tr},DI bs t->∀x∈By t,DI bs x/\PG.cB x<=PG.cB t/\∀o l r,x=.bin o l r->S o≠"box"/\S o≠"number"
 |.num n,h,x,hx=>by
  rw[By,Zh] at hx
  ·subst hx;exact⟨h,Zn _,fun o l r e=>by cases e⟩
  ·intro o l r z;cases z
 |.box n,h,x,hx=>by
  rw[By,Zh] at hx
  ·subst hx;exact⟨h,Zn _,fun o l r e=>by cases e⟩
  ·intro o l r z;cases z
 |.bin o l r,h,x,hx=>by
  rw[By,Zf,Zg] at hx;rcases hx with rfl |hx |hx
  ·refine⟨h,Zn _,fun o' l' r' e=>?_⟩;cases e;rcases h.1 with rfl |rfl |rfl<;>exact⟨by decide +kernel,by decide +kernel⟩
  ·obtain⟨a,b,c⟩:=DI.sub h.2.1 x hx;exact⟨a,by rw[PG.cB];lia,c⟩
  ·obtain⟨a,b,c⟩:=DI.sub h.2.2 x hx;exact⟨a,by rw[PG.cB];lia,c⟩
end L2
namespace PG
open PM (W Tr)
inductive rq where
 |cZ (k:Int) (sg:W) (l r:Tr)
 |if1 (k:Int) (sg:W) (l r:Tr)
 |if2 (k:Int) (sg:W) (l r:Tr) (a:List aF)
def rq.fill:rq->List aF->aF
 |.cZ k sg l r,b=>.cZ k sg l r b
 |.if1 k sg l r,b=>.ifs k sg l r b []
 |.if2 k sg l r a,b=>.ifs k sg l r a b
def jY:List (List aF×rq)->List aF->List aF
 |[],b=>b
 |(s,h)::o,b=>jY o (s++[h.fill b])
def eM (b:List aF):List Int:=(aA b).map (·.row)
theorem sZ:∀a b:List aF,aA (a++b)=aA a++aA b
 |[],b=>by simp[aA]
 |s::r,b=>by
  show aA (s::(r++b))=_;rw[aA,aA,sZ r b,ZA]
theorem kq(a b:List aF):eM (a++b)=eM a++eM b:=by unfold eM;rw[sZ,Zl]
theorem Bz(h:rq)(a b:List aF):eM [h.fill (a++b)]=eM [h.fill a]++eM b:=by
 cases h<;>simp[rq.fill,eM,aA,aP,sZ,aF.row]
theorem yY:∀(o:List (List aF×rq)) (a b:List aF),eM (jY o (a++b))=eM (jY o a)++eM b
 |[],a,b=>kq a b
 |(s,h)::o,a,b=>by
  rw[jY,jY];have gen:∀(o:List (List aF×rq)) (x y:List aF) (c:List Int),eM x=eM y++c->eM (jY o x)=eM (jY o y)++c:=by
   intro o
   induction o with
   |nil=>exact fun x y c h=>h
   |cons q o ih=>
    intro x y c e;obtain⟨s,h⟩:=q;rw[jY,jY];refine ih _ _ _ ?_;rw[kq,kq,ZA]
    congr 1
    cases h<;>simp only[rq.fill,eM,aA,aP,Zr,ZD,Zl]<;>(unfold eM at e;rw[e];simp[aF.row])
  refine gen o _ _ _ ?_;rw[kq,kq,ZA,Bz]
theorem xH:∀ {l:List Int} {a b:Int},l.Pairwise (· < ·)->(∀x∈l,a<x/\x<=b)->(l.length:Int)<=max 0 (b-a)
 |[],a,b,_,_=>by simp;lia
 |x::r,a,b,p,h=>by
  rw[Z7] at p;have h1:=h x (Zt ..);have:=xH (a:=x) (b:=b) p.2 fun y hy=>⟨p.1 y hy,(h y (Zk _ hy)).2⟩
  rw[Ze];lia
structure Nw(nm:W->Prop)(ex:Tr->Prop)(sg:W->Prop)(r0 row:Int)(body:List aF):Prop where
 ok:Ag nm ex sg body
 rise:(eM body).Pairwise (· < ·)
 rows:∀x∈eM body,r0<x/\x<=row
 dep:bA body<=4
 le:r0<=row
theorem Nw.nil{nm:W->Prop}{ex:Tr->Prop}{sg:W->Prop}{r0:Int}:Nw nm ex sg r0 r0 []:=⟨trivial,by simp[eM,aA],by simp[eM,aA],by simp[bA],Xp _⟩
theorem yZ{st:aF}(h:∀k s l r a b,st≠.ifs k s l r a b)(h2:∀k s l r a,st≠.cZ k s l r a):eM [st]=[st.row]/\cU st=0:=by
 cases st with
 |ifs k s l r a b=>exact absurd rfl (h _ _ _ _ _ _)
 |cZ k s l r a=>exact absurd rfl (h2 _ _ _ _ _)
 |_=>exact⟨by simp[eM,aA,aP],by simp[cU]⟩
end PG
namespace PG
open PM (W Tr)
def iR (n:Int):List Int:=(if n<999 then [n+1] else [])++if 0<n then [n-1] else []
def eC:Tr->List Tr
 |.num n=>(iR n).map .num
 |.box _=>[]
 |.bin o l r=>(eC l).map (fun x=>.bin o x r)++(eC r).map fun x=>.bin o l x
def cL (o:W):W:=if o=[43] then [45] else if o=[60] then [61] else if o=[61] then [60] else [43]
def eW:Tr->List Tr
 |.bin o l r=>(eW l).map (fun x=>.bin o x r)++(.bin (cL o) l r::(eW r).map fun x=>.bin o l x)
 |_=>[]
def eO (f:Tr->List Tr):aF->List aF
 |.put k b e=>(f e).map fun x=>.put k b x
 |.say k e=>(f e).map fun x=>.say k x
 |.bH k sg l r=>(f l).map (fun x=>.bH k sg x r)++(f r).map fun x=>.bH k sg l x
 |.ifs k sg l r a b=>(f l).map (fun x=>.ifs k sg x r a b)++(f r).map fun x=>.ifs k sg l x a b
 |.cZ k sg l r a=>(f l).map (fun x=>.cZ k sg x r a)++(f r).map fun x=>.cZ k sg l x a
 |_=>[]
def oK:aF->List (List aF)
 |.bH k sg l r=>[[.bH k (cL sg) l r]]
 |.ifs k sg l r a b=>[[.ifs k (cL sg) l r a b]]
 |.cZ k sg l r a=>[[.cZ k (cL sg) l r a]]
 |_=>[]
def rA:aF->List (List aF)
 |.ifs k sg l r a b=>[[.ifs k sg r l a b]]
 |.cZ k sg l r a=>[[.cZ k sg r l a]]
 |_=>[]
def uj:aF->List (List aF)
 |.put ..=>[[]]
 |.say ..=>[[]]
 |_=>[]
def bM (s:aF):List (List aF):=(eO eC s++eO eW s).map (fun x=>[x])++(oK s++(rA s++uj s))
mutual
def dU (row:Int) (o:List aF):aF->aF
 |.ifs k sg l r a b=>.ifs k sg l r (dg row o a) (dg row o b)
 |.cZ k sg l r a=>.cZ k sg l r (dg row o a)
 |s=>s
def dg (row:Int) (o:List aF):List aF->List aF
 |[]=>[]
 |s::r=>(if s.row=row then o else [dU row o s])++dg row o r
end
def BA (b:List aF):List (List aF):=(aA b).flatMap fun s=>(bM s).map fun o=>dg s.row o b
mutual
def hX:aF->List aF
 |.ifs k sg l r a b=>(fu a).map (fun x=>.ifs k sg l r x b)++(fu b).map fun x=>.ifs k sg l r a x
 |.cZ k sg l r a=>(fu a).map fun x=>.cZ k sg l r x
 |_=>[]
def fu:List aF->List (List aF)
 |[]=>[]
 |s::r=>((bM s).map fun o=>o++r)++((hX s).map (fun x=>x::r)++(fu r).map fun x=>s::x)
end
mutual
theorem vq(row:Int)(o:List aF):∀s:aF,(∀t∈aP s,t.row≠row)->dU row o s=s
 |.ifs k sg l r a b,h=>by
  rw[aP] at h;rw[dU,i7 row o a fun t ht=>h t (by simp[ht]),i7 row o b fun t ht=>h t (by simp[ht])]
 |.cZ k sg l r a,h=>by
  rw[aP] at h;rw[dU,i7 row o a fun t ht=>h t (by simp[ht])]
 |.ask _ _,_=>by rw[dU]<;>simp
 |.put _ _ _,_=>by rw[dU]<;>simp
 |.say _ _,_=>by rw[dU]<;>simp
 |.bH _ _ _ _,_=>by rw[dU]<;>simp
 |.stop _,_=>by rw[dU]<;>simp
theorem i7(row:Int)(o:List aF):∀b:List aF,(∀t∈aA b,t.row≠row)->dg row o b=b
 |[],_=>by rw[dg]
 |s::r,h=>by
  rw[aA] at h;have h0:s.row≠row:=h s (Zg.mpr (.inl (by cases s<;>simp[aP])));rw[dg,if_neg h0,vq row o s fun t ht=>h t (Zg.mpr (.inl ht)),i7 row o r fun t ht=>h t (Zg.mpr (.inr ht))];rfl
end
theorem eZ{α β:Type}{f g:α->List β}:∀ {l:List α},(∀x∈l,f x=g x)->l.flatMap f=l.flatMap g
 |[],_=>rfl
 |a::r,h=>by rw[Xc,Xc,h a (Zt ..),eZ fun x hx=>h x (Zk _ hx)]
theorem kr(s:aF):∃r,aP s=s::r:=by cases s<;>simp[aP]
mutual
theorem DK:∀s:aF,(aP s).Pairwise (fun a b=>a.row<b.row)->((aP s).tail.flatMap fun t=>(bM t).map fun o=>dU t.row o s)=hX s
 |.ifs k sg l r a b,h=>by
  rw[aP,Z7,Xy] at h;rw[aP,Yi,ZR,hX,<- mw a h.2.1,<- mw b h.2.2.1];unfold BA;rw[Xu,Xu]
  congr 1
  ·refine eZ fun t ht=>?_;rw[ZL];refine Xs fun o _=>?_;rw[dU,i7 t.row o b fun u hu=>by have:=h.2.2.2 t ht u hu;lia];rfl
  ·refine eZ fun t ht=>?_;rw[ZL];refine Xs fun o _=>?_;rw[dU,i7 t.row o a fun u hu=>by have:=h.2.2.2 u hu t ht;lia];rfl
 |.cZ k sg l r a,h=>by
  rw[aP,Z7] at h;rw[aP,Yi,hX,<- mw a h.2];unfold BA;rw[Xu];refine eZ fun t ht=>?_;rw[ZL];refine Xs fun o _=>?_;rw[dU];rfl
 |.ask _ _,_=>by simp[aP,hX]
 |.put _ _ _,_=>by simp[aP,hX]
 |.say _ _,_=>by simp[aP,hX]
 |.bH _ _ _ _,_=>by simp[aP,hX]
 |.stop _,_=>by simp[aP,hX]
theorem mw:∀b:List aF,(aA b).Pairwise (fun a b=>a.row<b.row)->BA b=fu b
 |[],_=>by simp[BA,aA,fu]
 |s::r,h=>by
  rw[aA,Xy] at h;obtain⟨t,et⟩:=kr s;have hs:=DK s h.1;have hr:=mw r h.2.1;rw[fu,<- hs,<- hr];unfold BA;rw[aA,ZR,et,Xc,Yi,ZA];rw[et,Z7] at h
  congr 1
  ·refine Xs fun o _=>?_;rw[dg,if_pos rfl,i7 s.row o r fun u hu=>by have:=h.2.2 s (by simp) u hu;lia]
  ·congr 1
   ·rw[Xu];refine eZ fun u hu=>?_;rw[ZL];refine Xs fun o _=>?_;have n1:s.row≠u.row:=by have:=h.1.1 u hu;lia
    rw[dg,if_neg n1,i7 u.row o r fun v hv=>by have:=h.2.2 u (by simp[hu]) v hv;lia];rfl
   ·rw[Xu];refine eZ fun u hu=>?_;rw[ZL];refine Xs fun o _=>?_;have n1:s.row≠u.row:=by have:=h.2.2 s (by simp) u hu;lia
    rw[dg,if_neg n1,vq u.row o s fun v hv=>by
     have:=h.2.2 v (by rw[et] at hv;exact hv) u hu;lia]
    rfl
end
end PG
namespace L2
open PySem PySem.Spec PyProof.Rows
def GJ (P:YR) (w:YG) (K:Za) (a:YE) (aJ:List (Key×V)):Prop:=∀h:Heap,K.In h->aJ.length<=YM/\(a==sysModules)=false/\∃vs,KV aJ vs/\h.DictOf (cn P w) a vs
def LZ (P:YR) (w:YG) (K:Za) (x y:V) (o:Option V):Prop:=∃a aJ k,x=.ref a/\GJ P w K a aJ/\y=kV k/\o=dR aJ k
def y0 (P:YR) (w:YG) (K:Za) (td ty:TE):TE:=fun σ H Q=>td σ H fun x H1=>ty σ H1 fun y H2=>∃v,LZ P w K x y (some v)/\Q v H2
def Az (P:YR) (w:YG) (K:Za) (td ty tx:TE):TE:=fun σ H Q=>td σ H fun x H1=>∃a aJ,x=.ref a/\GJ P w K a aJ/\ty σ H1 fun y H2=>tx σ H2 fun z H3=>∃k,y=kV k/\Q ((dR aJ k).getD z) H3
section
variable{X:Cx}{o i e f:Expr}{pos apos nI:Pos}{td ty tx:TE}
theorem tf(ho:PE X o td)(hi:PE X i ty)(hs:Iy i):PE X (.Subscript o i pos) (y0 X.prog X.w X.K td ty):=by
 intro pins s σ H Q I h;refine zS PySem.F.slot_dict_getitem.lookup hs (gO (ho pins s σ H _ I h) fun u s1 zqz=>?_);obtain⟨x,H1,I1,rx,q1⟩:=zqz;refine gO (hi pins s1 σ H1 _ I1 q1) fun iv s2 zqz=>?_;obtain⟨y,H2,I2,ry,v,g,q2⟩:=zqz;obtain⟨a,aJ,k,rfl,dc,rfl,l⟩:=g;obtain rfl:u=Value.ref a:=rx;obtain⟨z,hd,vs,rel,dd⟩:=dc _ I2.rG;obtain⟨w',hw,yM⟩:=ow.some_of (v:=v) (o:=valueAt vs k) (by rw[l];exact rel.val k);exact⟨dd.typeIs,wpAny_getItem_of (sj ry) dd.mapOf hw ⟨v,H2,I2.tok _,yM,q2⟩⟩
end
inductive GK(P:YR)(w:YG):List (Key×V)->List DictEntry->Prop
 |nil:GK P w [] []
 |cons {k v e aJ es}:e.hash=(cn P w).hash k->RelV (kV k) e.key->RelV v e.val->GK P w aJ es->GK P w ((k,v)::aJ) (e::es)
theorem GK.of{P:YR}{w:YG}{aJ:List (Key×V)}{es:List DictEntry}(h:GK P w aJ es):∃vs,KV aJ vs/\Pairs (cn P w) es vs/\∀e∈es,∃k,(cn P w).is k e.key=true/\e.hash=(cn P w).hash k:=by
 induction h with
 |nil=>exact⟨[],.nil,.nil,fun e he=>by cases he⟩
 |@cons k v e aJ es a b c _ ih=>
  obtain⟨vs,h1,h2,h3⟩:=ih;refine⟨(k,e.val)::vs,.cons ⟨rfl,c⟩ h1,(.cons (sj b) rfl h2),fun x hx=>?_⟩;rcases Zf.mp hx with rfl |hx
  ·exact⟨k,sj b,a⟩
  ·exact h3 x hx
theorem GJ.mk{P:YR}{w:YG}{K:Za}{a:YE}{aJ:List (Key×V)}{es:Array DictEntry}{ep:Nat}(l:K.lookup a=some ⟨.type "dict",none,.dict es ep, #[]⟩)(ha:(a==sysModules)=false)(hd:GK P w aJ es.toList)(nd:(aJ.map (·.1)).Nodup)(len:aJ.length<=YM):GJ P w K a aJ:=fun h hK=>by
 obtain⟨vs,h1,h2,h3⟩:=hd.of;refine⟨len,ha,vs,h1,_,es,ep,hK _ _ l,⟨rfl,rfl,rfl⟩,rfl,fun e he=>h3 e (by simpa using he),h2,?_⟩;have ek:∀ {l:List (Key×V)} {m:List (Key×YF)},KV l m->l.map (·.1)=m.map (·.1):=by
  intro l m r;unfold KV at r
  induction r with
  |nil=>rfl
  |cons a _ ih=>rw[ZD,ZD,ih,a.1]
 rw[<- ek h1];exact nd
end L2
namespace PG
open PM
def GL (ns:List W) (k:Int) (d1:Dk):Tr×Dk:=
 if k%3<2/\ns≠[] then match draw d1 ns.length with
  |(j,d2)=>(.box (pick [] ns j),d2)
 else match draw d1 4 with
  |(a,d2)=>match draw d2 10 with
   |(b,d3)=>match draw d3 6 with
    |(c,d4)=>(.num (pick 0 [a,b,999] (pick (0:Int) [0,0,0,1,1,2] c)),d4)
def lX (ns:List W):Nat->Dk->Tr×Dk
 |0,d=>match draw d 6 with
  |(k,d1)=>GL ns k d1
 |n+1,d=>match draw d 6 with
  |(k,d1)=>if k>2 then match draw d1 3 with
     |(g,d2)=>match lX ns n d2 with
      |(l,d3)=>match lX ns n d3 with
       |(r,d4)=>(.bin (pick [] [[43],[45],[42]] g) l r,d4)
   else GL ns k d1
def nP (k:Int):Nat:=if k%2=1 then 3 else 1
theorem tj(k:Int):nP k<=3:=by unfold nP;split<;>decide
theorem rP(k:Int):1+2*(k%2)=((nP k:Nat):Int):=by unfold nP;split<;>lia
theorem xI{bs:List eK}{n:Nat}{d d1:Dk}(k:Int)(s:dS d d1):vo bs n d (GL (oX bs) k d1):=by
 unfold GL;split
 ·rename_i h;exact FO s h.2
 ·exact FN s
theorem jH(bs:List eK):∀(n:Nat) (d:Dk),vo bs n d (lX (oX bs) n d)
 |0,d=>by
  rw[lX];rcases h1:draw d 6 with ⟨k,d1⟩
  exact xI k (bG h1)
 |n+1,d=>by
  rw[lX];rcases h1:draw d 6 with ⟨k,d1⟩
  simp only;split
  ·rcases h2:draw d1 3 with ⟨g,d2⟩
   simp only;have l:=jH bs n d2;rcases h3:lX (oX bs) n d2 with ⟨a,d3⟩
   rw[h3] at l;have r:=jH bs n d3;simp only;rcases h4:lX (oX bs) n d3 with ⟨b,d4⟩
   rw[h4] at r;refine⟨⟨hV [] (bL h2 (by decide)).1 (bL h2 (by decide)).2,l.own,r.own⟩,?_,(((bG h1).trans (bG h2)).trans l.same).trans r.same⟩;have:=l.dep;have:=r.dep;show max (cB a) (cB b)+1<=n+1;simp only at *;lia
  ·exact xI k (bG h1)
theorem AA(ns:List W)(k:Int)(d1:Dk):(GL ns k d1).2.pos<=d1.pos+3:=by
 unfold GL;split
 ·rcases h2:draw d1 ns.length with ⟨a,d2⟩
  have p2:=bq h2;simp only;lia
 ·rcases h2:draw d1 4 with ⟨a,d2⟩
  have p2:=bq h2;simp only;rcases h3:draw d2 10 with ⟨b,d3⟩
  have p3:=bq h3;simp only;rcases h4:draw d3 6 with ⟨c,d4⟩
  have p4:=bq h4;simp only;lia
theorem rQ(ns:List W):∀(n:Nat) (d:Dk),(lX ns n d).2.pos+2<=d.pos+6*2 ^ n
 |0,d=>by
  rw[lX];rcases h1:draw d 6 with ⟨k,d1⟩
  have p1:=bq h1;have:=AA ns k d1;simp only;lia
 |n+1,d=>by
  rw[lX];have pw:1<=2 ^ n:=Nat.one_le_two_pow;have pe:(2:Int) ^ (n+1)=2*2 ^ n:=by rw[Int.pow_succ,Int.mul_comm]
  have pc:((2 ^ n:Nat):Int)=(2:Int) ^ n:=by simp
  rcases h1:draw d 6 with ⟨k,d1⟩
  have p1:=bq h1;simp only;rw[pe];split
  ·rcases h2:draw d1 3 with ⟨g,d2⟩
   have p2:=bq h2;simp only;have l:=rQ ns n d2;rcases h3:lX ns n d2 with ⟨a,d3⟩
   rw[h3] at l;simp only at l ⊢;have r:=rQ ns n d3;rcases h4:lX ns n d3 with ⟨b,d4⟩
   rw[h4] at r;simp only at r ⊢;generalize (2:Int) ^ n=z at *;lia
  ·have:=AA ns k d1;generalize (2:Int) ^ n=z at *;lia
theorem pG(k:Int):6*(2:Int) ^ nP k<=48:=by unfold nP;split<;>decide
theorem ku{ns:List W}{d d':Dk}{t:Tr}{k:Int}(h:lX ns (nP k) d=(t,d')):d'.pos<=d.pos+46:=by
 have h1:=rQ ns (nP k) d;have:=pG k;rw[h] at h1;simp only at h1;lia
def jZ (st:Option (Dk->aF×Dk)) (ns:List W) (row kind:Int) (d:Dk):aF×Dk:=
 match draw d 2 with
 |(g,d1)=>match lX ns (nP row) d1 with
  |(l,d2)=>match lX ns (nP row) d2 with
   |(r,d3)=>wb st row kind (pick [] px g) l r d3
def og (st:Option (Dk->aF×Dk)) (ns:List W) (d:Dk):aF×Dk:=
 match draw (aV d) 13 with
 |(kind,d1)=>if kind<3/\ns≠[] then match draw d1 ns.length with
    |(j,d2)=>(.ask (aV d).row (pick [] ns j),d2)
  else if kind<5/\ns≠[] then match draw d1 ns.length with
   |(j,d2)=>match lX ns (nP (aV d).row) d2 with
    |(e,d3)=>(.put (aV d).row (pick [] ns j) e,d3)
  else if kind<7 then match lX ns (nP (aV d).row) d1 with
   |(e,d2)=>(.say (aV d).row e,d2)
  else if kind=7 then match draw d1 3 with
   |(z,d2)=>if z=0 then (.stop (aV d).row,d2) else jZ st ns (aV d).row kind d2
  else jZ st ns (aV d).row kind d1
def fR (ns:List W):Nat->Dk->aF×Dk
 |0,d=>og none ns d
 |n+1,d=>og (some (fR ns n)) ns d
def qx (most:Int) (d:Dk):Prog×Dk:=
 match draw d 4 with
 |(m,d1)=>match gf (cG.take m.toNat) d1 with
  |(bs,d2)=>match draw d2 4 with
   |(g,d3)=>match cP (fR (bs.map (·.name)) 3) {d3 with gap:=pick 0 [0,0,1,30] g,left:=most,row:=bs.length} with
    |(a,d4)=>match cP (fR (bs.map (·.name)) 3) d4 with
     |(b,d5)=>match cP (fR (bs.map (·.name)) 3) d5 with
      |(c,d6)=>(⟨bs,a++b++c⟩,d6)
abbrev L0 (bs:List eK):aF->Prop:=xw (·∈oX bs) (fun e=>jE bs e/\cB e<=3) (·∈px)
abbrev Jh (bs:List eK):List aF->Prop:=Ag (·∈oX bs) (fun e=>jE bs e/\cB e<=3) (·∈px)
structure j0(bs:List eK)(n:Nat)(d:Dk)(x:aF×Dk):Prop where
 l:gq d (aP x.1) x.2
 dep:cU x.1<=n
 own:L0 bs x.1
structure DL(bs:List eK)(n:Nat)(d:Dk)(x:List aF×Dk):Prop where
 l:gq d (aA x.1) x.2
 dep:bA x.1<=n
 own:Jh bs x.1
theorem mx{bs:List eK}{n:Nat}{st:Dk->aF×Dk}(AB:∀d:Dk,d.left>0->dG d->j0 bs n d (st d)):∀(k:Nat) (d:Dk),0<=d.left->dG d->DL bs n d (fG st k d)
 |0,d,h,_=>⟨.nil .refl h,ZN _,trivial⟩
 |k+1,d,h,g=>by
  rw[fG];split
  ·rename_i hl;have a:=AB d hl g;have b:=mx AB k (st d).2 a.l.nn (by unfold dG;rw[a.l.gap];exact g);refine⟨a.l.app b.l,?_,a.own,b.own⟩;have:=a.dep;have:=b.dep;show max (cU (st d).1) (bA (fG st k (st d).2).1)<=n;lia
  ·exact mx AB k d h g
theorem i8{bs:List eK}{n:Nat}{st:Dk->aF×Dk}(AB:∀d:Dk,d.left>0->dG d->j0 bs n d (st d))(d:Dk)(h:0<=d.left)(g:dG d):DL bs n d (cP st d):=by
 have s:=qu d 5;have b:=mx AB (draw d 5).1.toNat (draw d 5).2 (by rw[s.left];exact h) (by unfold dG;rw[s.gap];exact g);exact⟨b.l.pre s,b.dep,b.own⟩
theorem vo.three{bs:List eK}{d:Dk}{x:Tr×Dk}{k:Int}(h:vo bs (nP k) d x):jE bs x.1/\cB x.1<=3:=⟨h.own,ZT h.dep (tj k)⟩
theorem BB{bs:List eK}{n:Nat}{st:Option (Dk->aF×Dk)}(AB:∀s,st=some s->∃m,n=m+1/\∀d:Dk,d.left>0->dG d->j0 bs m d (s d)){d0 d:Dk}{kind:Int}{sg:W}{l r:Tr}(g:dG d0)(hl:0<d0.left)(q:dS (aV d0) d)(h1:sg∈px)(h2:jE bs l/\cB l<=3)(h3:jE bs r/\cB r<=3):j0 bs n d0 (wb st (aV d0).row kind sg l r d):=by
 have bH:j0 bs n d0 (.bH (aV d0).row sg l r,d):=⟨ko g hl rfl rfl q,ZN _,h1,h2,h3⟩
 unfold wb;cases st with
 |none=>exact bH
 |some s=>
  obtain⟨m,rfl,hs⟩:=AB s rfl;simp only;split
  ·exact bH
  ·obtain⟨e1,e2,e3⟩:=qv g;have l0:0<=d.left:=by have:=q.left;lia
   have g0:dG d:=by unfold dG;rw[q.gap,e2];exact g
   have a:=i8 hs d l0 g0;rcases ha:cP s d with ⟨xs,d1⟩
   rw[ha] at a;simp only;have da:=a.dep;simp only at da;split
   ·exact⟨qw g rfl rfl q (kO a.l),by show bA xs+1<=m+1;lia,h1,h2,h3,a.own⟩
   ·rcases ht:draw d1 2 with ⟨t,d2⟩
    simp only;have a2:=a.l.LU (bG ht);split
    ·have a3:=kO a2;have b:=i8 hs (hJ d2) a3.nn (by unfold dG;rw[a3.gap,q.gap,e2];exact g);rcases hb:cP s (hJ d2) with ⟨ys,d3⟩
     rw[hb] at b;have db:=b.dep;simp only at db;simp only;exact⟨qw g rfl rfl q (kO (a3.app b.l)),by show max (bA xs) (bA ys)+1<=m+1;lia,h1,h2,h3,a.own,b.own⟩
    ·have a3:=kO a2;refine⟨qw (l:=aA xs++aA []) g rfl rfl q (by rw[aA,Zr];exact a3),?_,h1,h2,h3,a.own,trivial⟩;show max (bA xs) (bA [])+1<=m+1;rw[bA];lia
theorem qR{bs:List eK}{n:Nat}{st:Option (Dk->aF×Dk)}(AB:∀s,st=some s->∃m,n=m+1/\∀d:Dk,d.left>0->dG d->j0 bs m d (s d)){d0 d:Dk}{kind:Int}(g:dG d0)(hl:0<d0.left)(q:dS (aV d0) d):j0 bs n d0 (jZ st (oX bs) (aV d0).row kind d):=by
 unfold jZ;rcases h1:draw d 2 with ⟨z,d1⟩
 simp only;have a:=jH bs (nP (aV d0).row) d1;rcases h2:lX (oX bs) (nP (aV d0).row) d1 with ⟨l,d2⟩
 rw[h2] at a;simp only;have b:=jH bs (nP (aV d0).row) d2;rcases h3:lX (oX bs) (nP (aV d0).row) d2 with ⟨r,d3⟩
 rw[h3] at b;exact BB AB g hl (((q.trans (bG h1)).trans a.same).trans b.same) (hV [] (bL h1 (by decide)).1 (bL h1 (by decide)).2) a.three b.three
theorem tm{bs:List eK}{n:Nat}{st:Option (Dk->aF×Dk)}(AB:∀s,st=some s->∃m,n=m+1/\∀d:Dk,d.left>0->dG d->j0 bs m d (s d)){d:Dk}(hl:0<d.left)(g:dG d):j0 bs n d (og st (oX bs) d):=by
 have nm:∀ {d1 d2:Dk} {j:Int},oX bs≠[]->draw d1 (oX bs).length=(j,d2)->pick [] (oX bs) j∈oX bs:=fun {d1 d2 j} ne e=>by
  have p:(0:Int)<(oX bs).length:=by have:=XE.mpr ne;lia
  exact hV [] (bL e p).1 (bL e p).2
 unfold og;rcases h1:draw (aV d) 13 with ⟨kind,d1⟩
 have q1:=bG h1;simp only;split
 ·rename_i c;rcases h2:draw d1 (oX bs).length with ⟨j,d2⟩
  exact⟨ko g hl rfl rfl (q1.trans (bG h2)),ZN _,nm c.2 h2⟩
 ·split
  ·rename_i c;rcases h2:draw d1 (oX bs).length with ⟨j,d2⟩
   simp only;have a:=jH bs (nP (aV d).row) d2;rcases h3:lX (oX bs) (nP (aV d).row) d2 with ⟨e,d3⟩
   rw[h3] at a;exact⟨ko g hl rfl rfl ((q1.trans (bG h2)).trans a.same),ZN _,nm c.2 h2,a.three⟩
  ·split
   ·have a:=jH bs (nP (aV d).row) d1;rcases h3:lX (oX bs) (nP (aV d).row) d1 with ⟨e,d3⟩
    rw[h3] at a;exact⟨ko g hl rfl rfl (q1.trans a.same),ZN _,a.three⟩
   ·split
    ·rcases h2:draw d1 3 with ⟨z,d2⟩
     simp only;split
     ·exact⟨ko g hl rfl rfl (q1.trans (bG h2)),ZN _,trivial⟩
     ·exact qR AB g hl (q1.trans (bG h2))
    ·exact qR AB g hl q1
theorem kR(bs:List eK):∀(n:Nat) (d:Dk),d.left>0->dG d->j0 bs n d (fR (oX bs) n d)
 |0,d,h,g=>tm (fun s e=>by cases e) h g
 |n+1,d,h,g=>tm (fun s e=>by cases e;exact⟨n,rfl,kR bs n⟩) h g
structure DM(most:Int)(pr:Prog):Prop where
 pw:(aA pr.body).Pairwise fun a b=>a.row<b.row
 pos:∀s∈aA pr.body,0<s.row
 n8:((aA pr.body).length:Int)<=most
 dep:bA pr.body<=3
 own:Jh pr.aS pr.body
 nb:(pr.aS.map (·.name)).Nodup
 len:pr.aS.length<=3
 size:∀b∈pr.aS,2<=b.size/\b.size<=4/\0<=b.first/\b.first<b.size
theorem BC{most:Int}(hm:0<=most)(d:Dk):DM most (qx most d).1:=by
 unfold qx;rcases h1:draw d 4 with ⟨m,d1⟩
 simp only;obtain⟨a,b⟩:=oG (cG.take m.toNat) d1;rcases h2:gf (cG.take m.toNat) d1 with ⟨bs,d2⟩
 rw[h2] at a b;simp only at a b ⊢;rcases h3:draw d2 4 with ⟨j,d3⟩
 simp only;have pj:=hV (0:Int) (l:=[0,0,1,30]) (bL h3 (by decide)).1 (bL h3 (by decide)).2;generalize (pick 0 [0,0,1,30] j:Int)=gp at *;have g0:dG {d3 with gap:=gp,left:=most,row:=bs.length}:=by
  show gp=0\/gp=1\/gp=30;simp only[Zf,ZI,or_false] at pj;lia
 generalize Ji:({d3 with gap:=gp,left:=most,row:=bs.length}:Dk)=d0 at *;have el:d0.left=most:=by rw[<- Ji]
 have er:d0.row=bs.length:=by rw[<- Ji]
 have x:=i8 (kR bs 3) d0 (by rw[el];exact hm) g0;rcases k1:cP (fR (oX bs) 3) d0 with ⟨xa,d4⟩
 rw[k1] at x;simp only;have y:=i8 (kR bs 3) d4 x.l.nn (by unfold dG;rw[x.l.gap];exact g0);rcases k2:cP (fR (oX bs) 3) d4 with ⟨xb,d5⟩
 rw[k2] at y;simp only;have z:=i8 (kR bs 3) d5 y.l.nn (by unfold dG;rw[y.l.gap,x.l.gap];exact g0);rcases k3:cP (fR (oX bs) 3) d5 with ⟨xc,d6⟩
 rw[k3] at z;simp only;have l:=(x.l.app y.l).app z.l;rw[<- i6,<- i6] at l;have dx:=x.dep;have dy:=y.dep;have dz:=z.dep;refine⟨l.pw,fun s hs=>?_,?_,?_,rN _ _ (rN _ _ x.own y.own) z.own,?_,?_,b⟩
 ·have:=(l.rows s hs).1;rw[er] at this;lia
 ·have:=l.cnt;have:=l.nn;rw[el] at *;simp only;lia
 ·show bA (xa++xb++xc)<=3;rw[pz,pz];simp only at dx dy dz;lia
 ·rw[a];exact(by decide:cG.Nodup).sublist (Yy _ _)
 ·have:=congrArg Z6 a;rw[Zb,ZK] at this;have:cG.length=3:=rfl;lia
theorem DN(ns:List W)(n:Nat)(d:Dk):dS d (lX ns n d).2:=by
 have:=(jH (ns.map fun n=>⟨n,0,0⟩) n d).same;rw[Jc] at this;exact this
theorem qy{ns:List W}{n:Nat}{d d':Dk}{t:Tr}(h:lX ns n d=(t,d')):dS d d':=by have:=DN ns n d;rw[h] at this;exact this
def wB:Nat->Int
 |0=>100
 |n+1=>100+8*wB n
theorem qz:∀n,0<=wB n
 |0=>by decide
 |n+1=>by have:=qz n;rw[wB];lia
theorem tw{st:Option (Dk->aF×Dk)}{c:Int}(hc:0<=c)(h:∀s,st=some s->∀d,(s d).2.pos<=d.pos+c)(ns:List W)(row kind:Int)(d:Dk):(jZ st ns row kind d).2.pos<=d.pos+96+8*c:=by
 unfold jZ;rcases h1:draw d 2 with ⟨z,d1⟩
 have p1:=bq h1;simp only;rcases h2:lX ns (nP row) d1 with ⟨l,d2⟩
 have p2:=ku h2;simp only;rcases h3:lX ns (nP row) d2 with ⟨r,d3⟩
 have p3:=ku h3;simp only;have:=DD hc h row kind (pick [] px z) l r d3;lia
theorem vt{st:Option (Dk->aF×Dk)}{c:Int}(hc:0<=c)(h:∀s,st=some s->∀d,(s d).2.pos<=d.pos+c)(ns:List W)(d:Dk):(og st ns d).2.pos<=d.pos+99+8*c:=by
 unfold og;have p0:=sS d;rcases h1:draw (aV d) 13 with ⟨kind,d1⟩
 have p1:=bq h1;simp only;split
 ·rcases h2:draw d1 ns.length with ⟨j,d2⟩
  have p2:=bq h2;simp only;lia
 ·split
  ·rcases h2:draw d1 ns.length with ⟨j,d2⟩
   have p2:=bq h2;simp only;rcases h3:lX ns (nP (aV d).row) d2 with ⟨e,d3⟩
   have p3:=ku h3;simp only;lia
  ·split
   ·rcases h3:lX ns (nP (aV d).row) d1 with ⟨e,d3⟩
    have p3:=ku h3;simp only;lia
   ·split
    ·rcases h2:draw d1 3 with ⟨z,d2⟩
     have p2:=bq h2;simp only;split
     ·simp only;lia
     ·have:=tw hc h ns (aV d).row kind d2;lia
    ·have:=tw hc h ns (aV d).row kind d1;lia
theorem nE(ns:List W):∀(n:Nat) (d:Dk),(fR ns n d).2.pos<=d.pos+wB n
 |0,d=>by
  have:=vt (st:=none) (c:=0) (Xp _) (fun s e=>by cases e) ns d;rw[fR,wB];lia
 |n+1,d=>by
  have:=vt (st:=some (fR ns n)) (qz n) (fun s e=>by cases e;exact nE ns n) ns d;rw[fR,wB];lia
theorem tD{st:Option (Dk->aF×Dk)}(h:∀s,st=some s->∀d,(s d).2.gap=d.gap)(ns:List W)(row kind:Int)(d:Dk):(jZ st ns row kind d).2.gap=d.gap:=by
 unfold jZ;rcases h1:draw d 2 with ⟨z,d1⟩
 simp only;rcases h2:lX ns (nP row) d1 with ⟨l,d2⟩
 simp only;rcases h3:lX ns (nP row) d2 with ⟨r,d3⟩
 simp only;rw[DE h,(qy h3).gap,(qy h2).gap,(bG h1).gap]
theorem vv{st:Option (Dk->aF×Dk)}(h:∀s,st=some s->∀d,(s d).2.gap=d.gap)(ns:List W)(d:Dk):(og st ns d).2.gap=d.gap:=by
 unfold og;have p0:=sT d;rcases h1:draw (aV d) 13 with ⟨kind,d1⟩
 have p1:=(bG h1).gap.trans p0;simp only;split
 ·rcases h2:draw d1 ns.length with ⟨j,d2⟩
  exact(bG h2).gap.trans p1
 ·split
  ·rcases h2:draw d1 ns.length with ⟨j,d2⟩
   simp only;rcases h3:lX ns (nP (aV d).row) d2 with ⟨e,d3⟩
   exact(qy h3).gap.trans ((bG h2).gap.trans p1)
  ·split
   ·rcases h3:lX ns (nP (aV d).row) d1 with ⟨e,d3⟩
    exact(qy h3).gap.trans p1
   ·split
    ·rcases h2:draw d1 3 with ⟨z,d2⟩
     simp only;split
     ·exact(bG h2).gap.trans p1
     ·rw[tD h];exact(bG h2).gap.trans p1
    ·rw[tD h];exact p1
theorem nG(ns:List W):∀(n:Nat) (d:Dk),(fR ns n d).2.gap=d.gap
 |0,d=>vv (fun s e=>by cases e) ns d
 |n+1,d=>vv (fun s e=>by cases e;exact nG ns n) ns d
end PG
namespace L2
open PySem PyProof.Rows
section
variable(K:Za)
def DO (n:Nat):Sp:=fun vs H Q _=>∃(D C G N:YE) (d:PG.Dk) (ns:List PM.W) (k:Nat),vs=[.ref D,.ref N,.int k]/\k<n/\d.pos+6*2 ^ k<=2 ^ 50/\gw H D C G d/\pF H N ns/\N≠D/\N≠C/\ns.length<=10/\
 ∀t d' v H',PG.lX ns k d=(t,d')->eV D C H H'->gw H' D C G d'->Own K H H' (cR t) v->Q v H'
def AD (n:Nat):Sp:=fun vs H Q _=>∃(D C G N:YE) (d:PG.Dk) (ns:List PM.W) (m:Nat),vs=[.ref D,.ref N,.int (3-(m:Int))]/\m<n/\m<=3/\d.pos+PG.wB m<=2 ^ 49/\PG.dG d/\gw H D C G d/\pF H N ns/\N≠D/\N≠C/\ns.length<=10/\
 ∀s d' v H',PG.fR ns m d=(s,d')->eV D C H H'->gw H' D C G d'->Own K H H' (bp s) v->Q v H'
def GN (n:Nat):Sp:=fun vs H Q _=>∃(D C G N:YE) (d:PG.Dk) (ns:List PM.W) (m:Nat),vs=[.ref D,.ref N,.int (3-(m:Int))]/\m<n/\m<=3/\d.pos+1+4*PG.wB m<=2 ^ 49/\PG.dG d/\gw H D C G d/\pF H N ns/\N≠D/\N≠C/\ns.length<=10/\
 ∀b d' l us H',PG.cP (PG.fR ns m) d=(b,d')->eV D C H H'->gw H' D C G d'->H l=none->H' l=some (.lst us)->a9 K H H' (b.map bp) us->Q (.ref l) H'
def FQ:Sp:=fun vs H Q _=>∃(D C G:YE) (d:PG.Dk) (most:Int),vs=[.ref D,.int most]/\gw H D C G d/\0<=most/\d.pos<=2 ^ 48/\
 ∀pr d' v H',PG.qx most d=(pr,d')->eV D C H H'->gw H' D C G d'->Own K H H' (fF pr) v->Q v H'
end
end L2
namespace PG
open PM (W Tr)
def xJ:Tr->Prop
 |.num n=>0<=n/\n<=999
 |.box _=>True
 |.bin o l r=>o∈([[43],[45],[42]]:List W)/\xJ l/\xJ r
theorem kS(n:Int):(iR n).length<=2:=by
 unfold iR;split<;>split<;>simp
theorem ky:∀t:Tr,(eC t).length<=2*2 ^ cB t
 |.num n=>by
  rw[eC,Zb];have:=kS n;simp[cB];lia
 |.box _=>by simp[eC]
 |.bin o l r=>by
  have h1:=ky l;have h2:=ky r;have a1:2 ^ cB l<=2 ^ max (cB l) (cB r):=ZP (by decide) (by lia);have a2:2 ^ cB r<=2 ^ max (cB l) (cB r):=ZP (by decide) (by lia);rw[eC,Zc,Zb,Zb,cB,Yu];lia
theorem kz:∀t:Tr,(eW t).length+1<=2 ^ cB t
 |.num n=>by simp[eW,cB]
 |.box _=>by simp[eW,cB]
 |.bin o l r=>by
  have h1:=kz l;have h2:=kz r;have a1:2 ^ cB l<=2 ^ max (cB l) (cB r):=ZP (by decide) (by lia);have a2:2 ^ cB r<=2 ^ max (cB l) (cB r):=ZP (by decide) (by lia);rw[eW,Zc,Ze,Zb,Zb,cB,Yu];lia
end PG
namespace L2
open PySem PyProof.Rows
section
variable(K:Za)
def DP:Sp:=fun vs H Q _=>∃n:Int,vs=[.int n]/\∀L H',ai H H'->H L=none->H' L=some (.lst ((PG.iR n).map V.int))->Q (.ref L) H'
def my (f:PM.Tr->List PM.Tr) (n:Nat):Sp:=fun vs H Q _=>∃(v:V) (t:PM.Tr),vs=[v]/\Rep K H (cR t) v/\PG.xJ t/\PG.cB t<n/\PG.cB t<=6/\∀L us H',ai H H'->H L=none->H' L=some (.lst us)->aw K H' ((f t).map cR) us->Q (.ref L) H'
def Jj:Sp:=fun vs H Q _=>∃(a:YE) (xs:List V) (j:Nat) (x:V),vs=[.ref a,.int j,x]/\bU K H a xs/\j<xs.length/\xs.length<=10/\∀p H',ai H H'->bU K H' p (xs.set j x)->Q (.ref p) H'
end
theorem AE{o:W}(h:o∈([[43],[45],[42]]:List W)\/o∈PG.px):dR ([(.inr "+",.str "-"),(.inr "-",.str "+"),(.inr "*",.str "+"),(.inr "<",.str "="),(.inr "=",.str "<")]:List (Key×V)) (.inr (S o))=some (.str (S (PG.cL o))):=by
 have h:o=[43]\/o=[45]\/o=[42]\/o=[60]\/o=[61]:=by
  rcases h with h |h
  ·simp at h;rcases h with h |h |h
   ·exact .inl h
   ·exact .inr (.inl h)
   ·exact .inr (.inr (.inl h))
  ·simp[PG.px] at h;rcases h with h |h
   ·exact .inr (.inr (.inr (.inl h)))
   ·exact .inr (.inr (.inr (.inr h)))
 rcases h with rfl |rfl |rfl |rfl |rfl<;>decide +kernel
theorem iS{K:Za}{α β:Type}{a D:YE}{xs:List V}{te:TE}{Q:VK}{r:St}{H:Hp}{F:α->Dp}{G:β->Dp}(f:α->β)(as:List α)(hS:gX K H a xs)(hr:aw K H (as.map F) xs)(hl:xs.length<=16000000)(hD:H D=none)
 (step:∀(i:Nat) x y H2,as[i]?=some y->xs[i]?=some x->Rep K H (F y) x->(∀d v,Rep K H d v->Fix K (·=D) H2 d v)->ai H H2->H2 D≠none->(∃ys,H2 D=some (.lst ys))->∀R:VK,(∀v H3,ai H2 H3->Fix K (·=D) H3 (G (f y)) v->R v H3)->te (some x::r) H2 R)
 (q:∀ys H2,ai H H2->H2 D=some (.lst ys)->aw K H2 ((as.map f).map G) ys->Q (.ref D) H2):eX (qe K a) D (bV 0) iO te Q (none::r) (upd H D (.lst [])):=by
 have lx:xs.length=as.length:=by rw[hr.length,Zb]
 refine dv (K:=K) (fun i ys H2=>aM K (·=D) H2 (((as.take i).map f).map G) ys) hS hl hD ?_ ?_ ?_
 ·exact aM.nil
 ·intro i x ys H2 hx s2 jI ly pv R hR;have li:i<as.length:=by have:=(Zi.mp hx).1;lia
  obtain⟨v,hv,rv⟩:=hr.get (i:=i) (d:=F as[i]) (by rw[Zq,Zd li];rfl);rw[hx] at hv;cases hv;refine step i x as[i] H2 (Zd li) hx rv (fun d v h H3 u=>h.mono fun b o e=>u b o (ao e hD) (s2 b o e)) s2 (by rw[jI];simp) ⟨_,jI⟩ R fun v H3 s3 fv=>?_;refine hR _ _ s3 ?_;have e:((as.take (i+1)).map f).map G=((as.take i).map f).map G++[G (f as[i])]:=by
   rw[ZV,Zd li,Yv,Zl,Zl];rfl
  rw[e];exact((pv.up (.of s3)).snoc fv).up (aE.put (O:=(·=D)) aE.refl rfl _)
 ·intro ys H2 s2 jI pv;rw[lx,Zw] at pv;exact q ys H2 s2 jI pv.nK
def O6 (a0 a1 a2 a3 a4 a5 a6:YE):List (Key×V):=[(.inr "ask",.ref a0),(.inr "put",.ref a1),(.inr "say",.ref a2),(.inr "must",.ref a3),(.inr "if",.ref a4),(.inr "while",.ref a5),(.inr "stop",.ref a6)]
def xK:PG.aF->Prop
 |.put _ _ e=>PG.xJ e/\PG.cB e<=6
 |.say _ e=>PG.xJ e/\PG.cB e<=6
 |.bH _ sg l r=>sg∈PG.px/\(PG.xJ l/\PG.cB l<=6)/\PG.xJ r/\PG.cB r<=6
 |.ifs _ sg l r _ _=>sg∈PG.px/\(PG.xJ l/\PG.cB l<=6)/\PG.xJ r/\PG.cB r<=6
 |.cZ _ sg l r _=>sg∈PG.px/\(PG.xJ l/\PG.cB l<=6)/\PG.xJ r/\PG.cB r<=6
 |_=>True
structure O7(K:Za)(H:Hp)(st:PG.aF)(xs:List V)(pl:List Nat)(ex:Nat->PM.Tr)(re:Nat->PM.Tr->PG.aF):Prop where
 len:xs.length<=7
 n8:pl.length<=2
 lt:∀j∈pl,j<xs.length
 at_:∀j∈pl,∃v,xs[j]?=some v/\Rep K H (cR (ex j)) v/\PG.xJ (ex j)/\PG.cB (ex j)<=6
 put:∀j∈pl,∀H4:Hp,(∀d v,Rep K H d v->Rep K H4 d v)->∀p v' e',bU K H4 p (xs.set j v')->Rep K H4 (cR e') v'->Rep K H4 (bp (re j e')) (.ref p)
 all:∀f,PG.eO f st=pl.flatMap fun j=>(f (ex j)).map (re j)
theorem L4{K:Za}{H:Hp}{st:PG.aF}{v:V}(h:Rep K H (bp st) v)(c:xK st)(a0 a1 a2 a3 a4 a5 a6:YE)(h0:bU K H a0 [])(h1:bU K H a1 [.int 3])(h2:bU K H a2 [.int 2])(h3:bU K H a3 [.int 3,.int 4])(h4:bU K H a4 [.int 3,.int 4])(h5:bU K H a5 [.int 3,.int 4])(h6:bU K H a6 []) :
 ∃a w0 xs pl ex re b,v=.ref a/\bU K H a (.str w0::xs)/\O7 K H st (.str w0::xs) pl ex re/\dR (O6 a0 a1 a2 a3 a4 a5 a6) (.inr w0)=some (.ref b)/\bU K H b (pl.map fun j=>V.int (j:Nat)):=by
 cases st with
 |ask k b=>
  simp only[bp,Rep.az,aw.ar,aw.aD,Rep.au,Rep.aB] at h;obtain⟨a,xs,rfl,hS,_,_,rfl,rfl,_,_,rfl,rfl,_,_,rfl,rfl,rfl⟩:=h;exact⟨a,_,_,[],fun _=>.num 0,fun _ _=>.stop 0,a0,rfl,hS,⟨by simp,by simp,by simp,by simp,by simp,fun f=>rfl⟩,by rfl,h0⟩
 |stop k=>
  simp only[bp,Rep.az,aw.ar,aw.aD,Rep.au,Rep.aB] at h;obtain⟨a,xs,rfl,hS,_,_,rfl,rfl,_,_,rfl,rfl,rfl⟩:=h;exact⟨a,_,_,[],fun _=>.num 0,fun _ _=>.stop 0,a6,rfl,hS,⟨by simp,by simp,by simp,by simp,by simp,fun f=>rfl⟩,by rfl,h6⟩
 |put k b e=>
  simp only[bp,Rep.az,aw.ar,aw.aD,Rep.au,Rep.aB] at h;obtain⟨a,xs,rfl,hS,_,_,rfl,rfl,_,_,rfl,rfl,_,_,rfl,rfl,ve,_,rfl,he,rfl⟩:=h;refine⟨a,_,_,[3],fun _=>e,fun _ x=>.put k b x,a1,rfl,hS,⟨by simp,by simp,by simp,fun j hj=>?_,fun j hj H4 tr p v' e' hp B1=>?_,fun f=>by simp[PG.eO]⟩,by rfl,h1⟩
  ·rw[Zh.mp hj];exact⟨ve,rfl,he,c⟩
  ·rw[Zh.mp hj] at hp;unfold bp;exact Rep.az.mpr ⟨p,_,rfl,hp,.cons (Rep.au.mpr rfl) (.cons (Rep.aB.mpr rfl) (.cons (Rep.au.mpr rfl) (.cons B1 .nil)))⟩
 |say k e=>
  simp only[bp,Rep.az,aw.ar,aw.aD,Rep.au,Rep.aB] at h;obtain⟨a,xs,rfl,hS,_,_,rfl,rfl,_,_,rfl,rfl,ve,_,rfl,he,rfl⟩:=h;refine⟨a,_,_,[2],fun _=>e,fun _ x=>.say k x,a2,rfl,hS,⟨by simp,by simp,by simp,fun j hj=>?_,fun j hj H4 tr p v' e' hp B1=>?_,fun f=>by simp[PG.eO]⟩,by rfl,h2⟩
  ·rw[Zh.mp hj];exact⟨ve,rfl,he,c⟩
  ·rw[Zh.mp hj] at hp;unfold bp;exact Rep.az.mpr ⟨p,_,rfl,hp,.cons (Rep.au.mpr rfl) (.cons (Rep.aB.mpr rfl) (.cons B1 .nil))⟩
 |bH k sg l r=>
  simp only[bp,Rep.az,aw.ar,aw.aD,Rep.au,Rep.aB] at h;obtain⟨a,xs,rfl,hS,_,_,rfl,rfl,_,_,rfl,rfl,_,_,rfl,rfl,vl,_,rfl,hl,vr,_,rfl,hr,rfl⟩:=h;refine⟨a,_,_,[3,4],fun j=>if j=3 then l else r,fun j x=>if j=3 then .bH k sg x r else .bH k sg l x,a3,rfl,hS,⟨by simp,by simp,by simp,fun j hj=>?_,fun j hj H4 tr p v' e' hp B1=>?_,fun f=>by simp[PG.eO]⟩,by rfl,h3⟩
  ·simp only[Zf,ZI,or_false] at hj;rcases hj with rfl |rfl
   ·exact⟨vl,rfl,hl,c.2.1⟩
   ·exact⟨vr,rfl,hr,c.2.2⟩
  ·simp only[Zf,ZI,or_false] at hj;rcases hj with rfl |rfl
   ·rw[if_pos rfl];unfold bp;exact Rep.az.mpr ⟨p,_,rfl,hp,.cons (Rep.au.mpr rfl) (.cons (Rep.aB.mpr rfl) (.cons (Rep.au.mpr rfl) (.cons B1 (.cons (tr _ _ hr) .nil))))⟩
   ·rw[if_neg (by decide)];unfold bp;exact Rep.az.mpr ⟨p,_,rfl,hp,.cons (Rep.au.mpr rfl) (.cons (Rep.aB.mpr rfl) (.cons (Rep.au.mpr rfl) (.cons (tr _ _ hl) (.cons B1 .nil))))⟩
 |ifs k sg l r x y=>
  unfold bp at h;rw[aI,aI] at h;rw[Rep.az] at h;simp only[aw.ar,aw.aD,Rep.au,Rep.aB] at h;obtain⟨a,xs,rfl,hS,_,_,rfl,rfl,_,_,rfl,rfl,_,_,rfl,rfl,vl,_,rfl,hl,vr,_,rfl,hr,vx,_,rfl,hx,vy,_,rfl,hy,rfl⟩:=h;refine⟨a,_,_,[3,4],fun j=>if j=3 then l else r,fun j z=>if j=3 then .ifs k sg z r x y else .ifs k sg l z x y,a4,rfl,hS,⟨by simp,by simp,by simp,fun j hj=>?_,fun j hj H4 tr p v' e' hp B1=>?_,fun f=>by simp[PG.eO]⟩,by rfl,h4⟩
  ·simp only[Zf,ZI,or_false] at hj;rcases hj with rfl |rfl
   ·exact⟨vl,rfl,hl,c.2.1⟩
   ·exact⟨vr,rfl,hr,c.2.2⟩
  ·simp only[Zf,ZI,or_false] at hj;rcases hj with rfl |rfl
   ·rw[if_pos rfl];unfold bp;rw[aI,aI];exact Rep.az.mpr ⟨p,_,rfl,hp,.cons (Rep.au.mpr rfl) (.cons (Rep.aB.mpr rfl) (.cons (Rep.au.mpr rfl) (.cons B1 (.cons (tr _ _ hr) (.cons (tr _ _ hx) (.cons (tr _ _ hy) .nil))))))⟩
   ·rw[if_neg (by decide)];unfold bp;rw[aI,aI];exact Rep.az.mpr ⟨p,_,rfl,hp,.cons (Rep.au.mpr rfl) (.cons (Rep.aB.mpr rfl) (.cons (Rep.au.mpr rfl) (.cons (tr _ _ hl) (.cons B1 (.cons (tr _ _ hx) (.cons (tr _ _ hy) .nil))))))⟩
 |cZ k sg l r x=>
  unfold bp at h;rw[aI] at h;rw[Rep.az] at h;simp only[aw.ar,aw.aD,Rep.au,Rep.aB] at h;obtain⟨a,xs,rfl,hS,_,_,rfl,rfl,_,_,rfl,rfl,_,_,rfl,rfl,vl,_,rfl,hl,vr,_,rfl,hr,vx,_,rfl,hx,rfl⟩:=h;refine⟨a,_,_,[3,4],fun j=>if j=3 then l else r,fun j z=>if j=3 then .cZ k sg z r x else .cZ k sg l z x,a5,rfl,hS,⟨by simp,by simp,by simp,fun j hj=>?_,fun j hj H4 tr p v' e' hp B1=>?_,fun f=>by simp[PG.eO]⟩,by rfl,h5⟩
  ·simp only[Zf,ZI,or_false] at hj;rcases hj with rfl |rfl
   ·exact⟨vl,rfl,hl,c.2.1⟩
   ·exact⟨vr,rfl,hr,c.2.2⟩
  ·simp only[Zf,ZI,or_false] at hj;rcases hj with rfl |rfl
   ·rw[if_pos rfl];unfold bp;rw[aI];exact Rep.az.mpr ⟨p,_,rfl,hp,.cons (Rep.au.mpr rfl) (.cons (Rep.aB.mpr rfl) (.cons (Rep.au.mpr rfl) (.cons B1 (.cons (tr _ _ hr) (.cons (tr _ _ hx) .nil)))))⟩
   ·rw[if_neg (by decide)];unfold bp;rw[aI];exact Rep.az.mpr ⟨p,_,rfl,hp,.cons (Rep.au.mpr rfl) (.cons (Rep.aB.mpr rfl) (.cons (Rep.au.mpr rfl) (.cons (tr _ _ hl) (.cons B1 (.cons (tr _ _ hx) .nil)))))⟩
section
variable(K:Za)
def Jk:Sp:=fun vs H Q _=>∃(v:V) (st:PG.aF) (H0:Hp) (O:YE->Prop),vs=[v]/\ai H0 H/\Rep K H0 (bp st) v/\xK st/\(∀g,O g->H0 g=none/\∃ys,H g=some (.lst ys))/\∀L us H',ai H H'->H L=none->H' L=some (.lst us)->aM K O H' ((PG.eO PG.eC st++PG.eO PG.eW st).map bp) us->Q (.ref L) H'
def xM:Sp:=fun vs H Q _=>∃(v:V) (st:PG.aF) (H0:Hp) (O:YE->Prop),vs=[v]/\ai H0 H/\Rep K H0 (bp st) v/\xK st/\(∀g,O g->H0 g=none/\∃ys,H g=some (.lst ys))/\∀L us H',ai H H'->H L=none->H' L=some (.lst us)->aM K O H' ((PG.bM st).map fun o=>.lst (o.map bp)) us->Q (.ref L) H'
end
theorem aw.fix{K:Za}{H:Hp}{ds:List Dp}{vs:List V}(h:aw K H ds vs):aM K (fun _=>False) H ds vs:=fun H' u=>h.mono fun b o e=>u b o (fun z=>z) e
theorem kT{K:Za}{α β:Type}{a D:YE}{xs:List V}{te:TE}{Q:VK}{r:St}{H:Hp}{F:α->Dp}{G:β->Dp}{O0:YE->Prop}(O:YE->Prop)(L5:O D)(hO:∀g,O g->g=D\/∃ys,H g=some (.lst ys))(f:α->β)(as:List α)(hS:gX K H a xs)(hr:aM K O0 H (as.map F) xs)(hl:xs.length<=16000000)(hD:H D=none)
 (step:∀(i:Nat) x y H2,as[i]?=some y->xs[i]?=some x->Fix K O0 H (F y) x->ai H H2->(∀g,O g->∃ys,H2 g=some (.lst ys))->∀R:VK,(∀v H3,ai H2 H3->Fix K O H3 (G (f y)) v->R v H3)->te (some x::r) H2 R)
 (q:∀ys H2,ai H H2->H2 D=some (.lst ys)->aM K O H2 ((as.map f).map G) ys->Q (.ref D) H2):eX (qe K a) D (bV 0) iO te Q (none::r) (upd H D (.lst [])):=by
 have lx:xs.length=as.length:=by rw[hr.nK.length,Zb]
 refine dv (K:=K) (fun i ys H2=>aM K O H2 (((as.take i).map f).map G) ys) hS hl hD ?_ ?_ ?_
 ·exact aM.nil
 ·intro i x ys H2 hx s2 jI ly pv R hR;have li:i<as.length:=by have:=(Zi.mp hx).1;lia
  have rv:Fix K O0 H (F as[i]) x:=fun H4 u4=>by
   obtain⟨v,hv,rv⟩:=(hr H4 u4).get (i:=i) (d:=F as[i]) (by rw[Zq,Zd li];rfl);rw[hx] at hv;cases hv;exact rv
  refine step i x as[i] H2 (Zd li) hx rv s2 (fun g hg=>(hO g hg).elim (fun e=>by rw[e];exact⟨_,jI⟩) fun ⟨zs,e⟩=>⟨zs,s2 _ _ e⟩) R fun v H3 s3 fv=>?_;refine hR _ _ s3 ?_;have e:((as.take (i+1)).map f).map G=((as.take i).map f).map G++[G (f as[i])]:=by
   rw[ZV,Zd li,Yv,Zl,Zl];rfl
  rw[e];exact((pv.up (.of s3)).snoc fv).up (aE.put (O:=O) aE.refl L5 _)
 ·intro ys H2 s2 jI pv;rw[lx,Zw] at pv;exact q ys H2 s2 jI pv
structure O8(K:Za)(H:Hp)(st:PG.aF)(w0:Str)(xs:List V):Prop where
 len:xs.length<=7
 c1:(w0 = "must"\/w0 = "if"\/w0 = "while")->∃sg s',xs[2]?=some (.str (S sg))/\sg∈PG.px/\PG.oK st=[[s']]/\∀H4:Hp,(∀d v,Rep K H d v->Rep K H4 d v)->∀p,bU K H4 p (xs.set 2 (.str (S (PG.cL sg))))->Rep K H4 (bp s') (.ref p)
 c0:¬(w0 = "must"\/w0 = "if"\/w0 = "while")->PG.oK st=[]
 b1:(w0 = "if"\/w0 = "while")->∃vl vr s',xs[3]?=some vl/\xs[4]?=some vr/\PG.rA st=[[s']]/\∀H4:Hp,(∀d v,Rep K H d v->Rep K H4 d v)->∀p,bU K H4 p (xs.take 3++[vr,vl]++xs.drop 5)->Rep K H4 (bp s') (.ref p)
 b0:¬(w0 = "if"\/w0 = "while")->PG.rA st=[]
 p1:(w0 = "put"\/w0 = "say")->PG.uj st=[[]]
 p0:¬(w0 = "put"\/w0 = "say")->PG.uj st=[]
theorem L6{K:Za}{H:Hp}{st:PG.aF}{v:V}(h:Rep K H (bp st) v)(c:xK st):∃a w0 xs,v=.ref a/\bU K H a (.str w0::xs)/\O8 K H st w0 (.str w0::xs):=by
 cases st with
 |ask k b=>
  simp only[bp,Rep.az,aw.ar,aw.aD,Rep.au,Rep.aB] at h;obtain⟨a,xs,rfl,hS,_,_,rfl,rfl,_,_,rfl,rfl,_,_,rfl,rfl,rfl⟩:=h;exact⟨a,_,_,rfl,hS,by simp,fun z=>absurd z (by decide +kernel),fun _=>rfl,fun z=>absurd z (by decide +kernel),fun _=>rfl,fun z=>absurd z (by decide +kernel),fun _=>rfl⟩
 |stop k=>
  simp only[bp,Rep.az,aw.ar,aw.aD,Rep.au,Rep.aB] at h;obtain⟨a,xs,rfl,hS,_,_,rfl,rfl,_,_,rfl,rfl,rfl⟩:=h;exact⟨a,_,_,rfl,hS,by simp,fun z=>absurd z (by decide +kernel),fun _=>rfl,fun z=>absurd z (by decide +kernel),fun _=>rfl,fun z=>absurd z (by decide +kernel),fun _=>rfl⟩
 |put k b e=>
  simp only[bp,Rep.az,aw.ar,aw.aD,Rep.au,Rep.aB] at h;obtain⟨a,xs,rfl,hS,_,_,rfl,rfl,_,_,rfl,rfl,_,_,rfl,rfl,ve,_,rfl,he,rfl⟩:=h;exact⟨a,_,_,rfl,hS,by simp,fun z=>absurd z (by decide +kernel),fun _=>rfl,fun z=>absurd z (by decide +kernel),fun _=>rfl,fun _=>rfl,fun z=>absurd (.inl rfl) z⟩
 |say k e=>
  simp only[bp,Rep.az,aw.ar,aw.aD,Rep.au,Rep.aB] at h;obtain⟨a,xs,rfl,hS,_,_,rfl,rfl,_,_,rfl,rfl,ve,_,rfl,he,rfl⟩:=h;exact⟨a,_,_,rfl,hS,by simp,fun z=>absurd z (by decide +kernel),fun _=>rfl,fun z=>absurd z (by decide +kernel),fun _=>rfl,fun _=>rfl,fun z=>absurd (.inr rfl) z⟩
 |bH k sg l r=>
  simp only[bp,Rep.az,aw.ar,aw.aD,Rep.au,Rep.aB] at h;obtain⟨a,xs,rfl,hS,_,_,rfl,rfl,_,_,rfl,rfl,_,_,rfl,rfl,vl,_,rfl,hl,vr,_,rfl,hr,rfl⟩:=h;refine⟨a,_,_,rfl,hS,by simp,fun _=>⟨sg,.bH k (PG.cL sg) l r,rfl,c.1,rfl,fun H4 tr p hp=>?_⟩,fun z=>absurd (.inl rfl) z,fun z=>absurd z (by decide +kernel),fun _=>rfl,fun z=>absurd z (by decide +kernel),fun _=>rfl⟩;unfold bp;exact Rep.az.mpr ⟨p,_,rfl,hp,.cons (Rep.au.mpr rfl) (.cons (Rep.aB.mpr rfl) (.cons (Rep.au.mpr rfl) (.cons (tr _ _ hl) (.cons (tr _ _ hr) .nil))))⟩
 |ifs k sg l r x y=>
  unfold bp at h;rw[aI,aI,Rep.az] at h;simp only[aw.ar,aw.aD,Rep.au,Rep.aB] at h;obtain⟨a,xs,rfl,hS,_,_,rfl,rfl,_,_,rfl,rfl,_,_,rfl,rfl,vl,_,rfl,hl,vr,_,rfl,hr,vx,_,rfl,hx,vy,_,rfl,hy,rfl⟩:=h;refine⟨a,_,_,rfl,hS,by simp,fun _=>⟨sg,.ifs k (PG.cL sg) l r x y,rfl,c.1,rfl,fun H4 tr p hp=>?_⟩,fun z=>absurd (.inr (.inl rfl)) z,fun _=>⟨vl,vr,.ifs k sg r l x y,rfl,rfl,rfl,fun H4 tr p hp=>?_⟩,fun z=>absurd (.inl rfl) z,fun z=>absurd z (by decide +kernel),fun _=>rfl⟩
  ·unfold bp;rw[aI,aI];exact Rep.az.mpr ⟨p,_,rfl,hp,.cons (Rep.au.mpr rfl) (.cons (Rep.aB.mpr rfl) (.cons (Rep.au.mpr rfl) (.cons (tr _ _ hl) (.cons (tr _ _ hr) (.cons (tr _ _ hx) (.cons (tr _ _ hy) .nil))))))⟩
  ·unfold bp;rw[aI,aI];exact Rep.az.mpr ⟨p,_,rfl,hp,.cons (Rep.au.mpr rfl) (.cons (Rep.aB.mpr rfl) (.cons (Rep.au.mpr rfl) (.cons (tr _ _ hr) (.cons (tr _ _ hl) (.cons (tr _ _ hx) (.cons (tr _ _ hy) .nil))))))⟩
 |cZ k sg l r x=>
  unfold bp at h;rw[aI,Rep.az] at h;simp only[aw.ar,aw.aD,Rep.au,Rep.aB] at h;obtain⟨a,xs,rfl,hS,_,_,rfl,rfl,_,_,rfl,rfl,_,_,rfl,rfl,vl,_,rfl,hl,vr,_,rfl,hr,vx,_,rfl,hx,rfl⟩:=h;refine⟨a,_,_,rfl,hS,by simp,fun _=>⟨sg,.cZ k (PG.cL sg) l r x,rfl,c.1,rfl,fun H4 tr p hp=>?_⟩,fun z=>absurd (.inr (.inr rfl)) z,fun _=>⟨vl,vr,.cZ k sg r l x,rfl,rfl,rfl,fun H4 tr p hp=>?_⟩,fun z=>absurd (.inr rfl) z,fun z=>absurd z (by decide +kernel),fun _=>rfl⟩
  ·unfold bp;rw[aI];exact Rep.az.mpr ⟨p,_,rfl,hp,.cons (Rep.au.mpr rfl) (.cons (Rep.aB.mpr rfl) (.cons (Rep.au.mpr rfl) (.cons (tr _ _ hl) (.cons (tr _ _ hr) (.cons (tr _ _ hx) .nil)))))⟩
  ·unfold bp;rw[aI];exact Rep.az.mpr ⟨p,_,rfl,hp,.cons (Rep.au.mpr rfl) (.cons (Rep.aB.mpr rfl) (.cons (Rep.au.mpr rfl) (.cons (tr _ _ hr) (.cons (tr _ _ hl) (.cons (tr _ _ hx) .nil)))))⟩
end L2
namespace PG
theorem vw(row:Int)(o:List aF):∀a b:List aF,dg row o (a++b)=dg row o a++dg row o b
 |[],b=>by simp[dg]
 |s::r,b=>by
  show dg row o (s::(r++b))=_;rw[dg,dg,vw row o r b,ZA]
theorem BD(row:Int)(o:List aF)(s:aF):dg row o [s]=if s.row=row then o else [dU row o s]:=by
 rw[dg,dg,Zr]
end PG
namespace L2
open PySem PyProof.Rows
theorem L7(row:Int)(o:List PG.aF)(s:PG.aF):rL (PG.dU row o s)=rL s:=by
 cases s<;>simp[PG.dU,rL]
theorem za(row:Int)(o:List PG.aF)(s:PG.aF):aC (PG.dU row o s)=(aC s).map (PG.dg row o):=by
 cases s<;>simp[PG.dU,aC]
theorem FR{s:PG.aF}{b:List PG.aF}(h:b∈aC s):∀x∈PG.aA b,x∈PG.aP s:=fun x hx=>by
 cases s with
 |ifs k sg l r a c=>
  simp only[aC,Zf,ZI,or_false] at h;rw[PG.aP];rcases h with rfl |rfl<;>simp[hx]
 |cZ k sg l r a=>
  simp only[aC,Zf,ZI,or_false] at h;rw[PG.aP];rw[h] at hx;simp[hx]
 |_=>cases h
theorem wg:∀ {b:List PG.aF} {s x:PG.aF},s∈b->x∈PG.aP s->x∈PG.aA b
 |y::r,s,x,h,hx=>by
  rw[PG.aA];rcases Zf.mp h with rfl |h
  ·exact Zg.mpr (.inl hx)
  ·exact Zg.mpr (.inr (wg h hx))
def rR (K:Za) (n:Nat):Sp:=fun vs H Q _=>∃(b l:YE) (body o:List PG.aF) (row:Int) (H0:Hp),vs=[.ref b,.int row,.ref l]/\ai H0 H/\Rep K H0 (.lst (body.map bp)) (.ref b)/\Rep K H0 (.lst (o.map bp)) (.ref l)/\PG.bA body<n/\(PG.fI body).length<=1000/\o.length<=1/\(∀x∈o,(PG.cK x).length<=1000)/\(∀s∈PG.aA body,s.row=row->∀x∈o,PG.cU x<=PG.cU s)/\
 ∀l' F H',ai H H'->jT K H' n (PG.dg row o body) l' F->F.Nodup->(∀f∈F,H f=none)->Q (.ref l') H'
theorem bB.app{α β γ:Type}{R:α->β->γ->Prop}:∀ {a1 a2:List α} {b1 b2:List β} {c1 c2:List γ},bB R a1 b1 c1->bB R a2 b2 c2->bB R (a1++a2) (b1++b2) (c1++c2)
 |[],a2,b1,b2,c1,c2,h1,h2=>by obtain⟨rfl,rfl⟩:=bB.aD.mp h1;exact h2
 |x::a1,a2,b1,b2,c1,c2,h1,h2=>by
  obtain⟨y,ys,z,zs,rfl,rfl,h3,h4⟩:=bB.ar.mp h1;exact bB.ar.mpr ⟨y,ys++b2,z,zs++c2,rfl,rfl,h3,bB.app h4 h2⟩
end L2
namespace PG
def zb (pr:Prog):List Prog:=(aA pr.body).flatMap fun s=>(bM s).map fun o=>⟨pr.aS,dg s.row o pr.body⟩
theorem xN{pr:Prog}(h:(aA pr.body).Pairwise (fun a b=>a.row<b.row)):zb pr=(fu pr.body).map fun b=>⟨pr.aS,b⟩:=by
 rw[<- mw _ h];unfold zb BA;rw[Xu];refine eZ fun s _=>?_;rw[ZL];rfl
theorem jJ{s:aF}:∀o∈bM s,o.length<=1/\∀x∈o,cU x=cU s/\(cK x).length=(cK s).length:=by
 intro o ho;unfold bM at ho;rcases Zg.mp ho with ho |ho
 ·obtain⟨x,hx,rfl⟩:=Zp.mp ho;refine⟨Zn _,fun y hy=>?_⟩;rw[Zh.mp hy];have key:∀f:PM.Tr->List PM.Tr,x∈eO f s->cU x=cU s/\(cK x).length=(cK s).length:=by
   intro f hx;cases s with
   |put k b e=>obtain⟨z,_,rfl⟩:=Zp.mp hx;exact⟨rfl,rfl⟩
   |say k e=>obtain⟨z,_,rfl⟩:=Zp.mp hx;exact⟨rfl,rfl⟩
   |bH k sg l r=>
    rcases Zg.mp hx with hx |hx<;>(obtain⟨z,_,rfl⟩:=Zp.mp hx;exact⟨rfl,rfl⟩)
   |ifs k sg l r a b=>
    rcases Zg.mp hx with hx |hx<;>(obtain⟨z,_,rfl⟩:=Zp.mp hx;exact⟨by simp[cU],by simp[cK]⟩)
   |cZ k sg l r a=>
    rcases Zg.mp hx with hx |hx<;>(obtain⟨z,_,rfl⟩:=Zp.mp hx;exact⟨by simp[cU],by simp[cK]⟩)
   |_=>cases hx
  rcases Zg.mp hx with hx |hx
  ·exact key _ hx
  ·exact key _ hx
 ·have fin:∀x:aF,cU x=cU s->(cK x).length=(cK s).length->([x]:List aF).length<=1/\∀y∈[x],cU y=cU s/\(cK y).length=(cK s).length:=fun x h1 h2=>⟨Zn _,fun y hy=>by rw[Zh.mp hy];exact⟨h1,h2⟩⟩
  rcases Zg.mp ho with ho |ho
  ·cases s with
   |bH k sg l r=>rw[Zh.mp ho];exact fin _ rfl rfl
   |ifs k sg l r a b=>rw[Zh.mp ho];exact fin _ (by simp[cU]) (by simp[cK])
   |cZ k sg l r a=>rw[Zh.mp ho];exact fin _ (by simp[cU]) (by simp[cK])
   |_=>cases ho
  ·rcases Zg.mp ho with ho |ho
   ·cases s with
    |ifs k sg l r a b=>rw[Zh.mp ho];exact fin _ (by simp[cU]) (by simp[cK])
    |cZ k sg l r a=>rw[Zh.mp ho];exact fin _ (by simp[cU]) (by simp[cK])
    |_=>cases ho
   ·cases s with
    |put k b e=>rw[Zh.mp ho];exact⟨by simp,fun y hy=>by cases hy⟩
    |say k e=>rw[Zh.mp ho];exact⟨by simp,fun y hy=>by cases hy⟩
    |_=>cases ho
end PG
namespace L2
open PySem PyProof.Rows
def DQ (K:Za) (H:Hp) (pr:PG.Prog) (v:V) (F:List YE):Prop:=∃p B b wX Fb,v=.ref p/\bU K H p [.ref B,.ref b]/\H B=some (.lst wX)/\aw K H (pr.aS.map gZ) wX/\jT K H 4 pr.body b Fb/\F=B::Fb
theorem zc:∀bs:List PG.eK,pC (bs.map gZ)=true
 |[]=>rfl
 |b::r=>by rw[ZD,pC,zc r];simp[gZ,Al,pC]
theorem DQ.iL{K:Za}{H H':Hp}{O:YE->Prop}{pr:PG.Prog}{v:V}{F:List YE}(hO:∀g,O g->∃ys,H g=some (.lst ys))(u:aE O H H')(hF:∀f∈F,¬O f)(h:DQ K H pr v F):DQ K H' pr v F:=by
 obtain⟨p,B,b,wX,Fb,rfl,h1,h2,h3,h4,rfl⟩:=h;exact⟨p,B,b,wX,Fb,rfl,eL hO u h1,u _ _ (hF B (by simp)) h2,jG hO u _ _ (zc _) h3,jT.iL hO u 4 _ _ _ (fun f hf=>hF f (Zk _ hf)) h4,rfl⟩
theorem DQ.lists{K:Za}{H:Hp}{pr:PG.Prog}{v:V}{F:List YE}(h:DQ K H pr v F):∀f∈F,∃ys,H f=some (.lst ys):=by
 obtain⟨p,B,b,wX,Fb,rfl,h1,h2,h3,h4,rfl⟩:=h;intro f hf;rcases Zf.mp hf with rfl |hf
 ·exact⟨_,h2⟩
 ·exact jT.lists _ _ _ _ h4 f hf
theorem qA{K:Za}{H:Hp}:∀ {ps:List PG.Prog} {us:List V} {Fs:List (List YE)},bB (DQ K H) ps us Fs->∀f∈Fs.flatten,∃ys,H f=some (.lst ys)
 |[],us,Fs,h,f,hf=>by obtain⟨rfl,rfl⟩:=bB.aD.mp h;cases hf
 |p::ps,us,Fs,h,f,hf=>by
  obtain⟨v,vs,F,Gs,rfl,rfl,h1,h2⟩:=bB.ar.mp h;rw[ZG] at hf;rcases Zg.mp hf with hf |hf
  ·exact h1.lists f hf
  ·exact qA h2 f hf
structure O9(pr:PG.Prog):Prop where
 pw:(PG.aA pr.body).Pairwise (fun a b=>a.row<b.row)
 dep:PG.bA pr.body<=3
 n8:(PG.fI pr.body).length<=1000
 bx:pr.aS.length<=10
 st:∀s∈PG.aA pr.body,xK s
def BE (K:Za):Sp:=fun vs H Q _=>∃(v:V) (pr:PG.Prog),vs=[v]/\Rep K H (fF pr) v/\O9 pr/\
 ∀L us Fs H',ai H H'->H L=none->H' L=some (.lst us)->bB (DQ K H') (PG.zb pr) us Fs->Fs.flatten.Nodup->(∀f∈Fs.flatten,H f=none/\f≠L)->Q (.ref L) H'
end L2
namespace PG
mutual
theorem DR:∀s:aF,∀x∈aP s,(cK x).length<=(cK s).length
 |.ifs k sg l r a b,x,h=>by
  rw[aP] at h;rcases Zf.mp h with rfl |h
  ·exact Zn _
  ·rw[cK,Ze,Zc];rcases Zg.mp h with h |h
   ·have:=mz a x h;lia
   ·have:=mz b x h;lia
 |.cZ k sg l r a,x,h=>by
  rw[aP] at h;rcases Zf.mp h with rfl |h
  ·exact Zn _
  ·rw[cK,Ze];have:=mz a x h;lia
 |.ask k b,x,h=>by simp[aP] at h;rw[h];exact Zn _
 |.put k b e,x,h=>by simp[aP] at h;rw[h];exact Zn _
 |.say k e,x,h=>by simp[aP] at h;rw[h];exact Zn _
 |.bH k sg l r,x,h=>by simp[aP] at h;rw[h];exact Zn _
 |.stop k,x,h=>by simp[aP] at h;rw[h];exact Zn _
theorem mz:∀b:List aF,∀x∈aA b,(cK x).length<=(fI b).length
 |[],x,h=>by cases h
 |s::r,x,h=>by
  rw[aA] at h;rw[fI,Zc];rcases Zg.mp h with h |h
  ·have:=DR s x h;lia
  ·have:=mz r x h;lia
end
theorem DT{l:List aF}(h:l.Pairwise (fun a b=>a.row<b.row)){a b:aF}(ha:a∈l)(hb:b∈l)(e:a.row=b.row):a=b:=by
 obtain⟨i,hi,rfl⟩:=Z9.mp ha;obtain⟨j,hj,rfl⟩:=Z9.mp hb;rw[XO] at h;rcases Nat.lt_trichotomy i j with z |z |z
 ·have:=h i j hi hj z;lia
 ·subst z;rfl
 ·have:=h j i hj hi z;lia
theorem xO(s:aF):(oK s++(rA s++uj s)).length<=3:=by
 cases s<;>simp[oK,rA,uj]
end PG
namespace L2
open PySem PyProof.Rows
def less (H:Hp) (L:YE):Hp:=fun b=>if b=L then none else H b
theorem BF{H:Hp}{L:YE}:ai (less H L) H:=fun b o e=>by
 unfold less at e;split at e
 ·cases e
 ·exact e
theorem AF{H:Hp}{L b:YE}{o:HO}(n:b≠L)(e:H b=some o):less H L b=some o:=by
 unfold less;rw[if_neg n];exact e
theorem DU{K:Za}{H:Hp}{st:PG.aF}{v:V}(h:Rep K H (bp st) v):∃a w0 ys,v=.ref a/\bU K H a (.str w0 :: .int st.row::ys):=by
 cases st<;>(unfold bp at h;rw[Rep.az] at h;simp only[aw.ar,Rep.au,Rep.aB] at h;obtain⟨a,xs,rfl,hS,_,_,rfl,rfl,_,ys,rfl,rfl,_⟩:=h;exact⟨a,_,_,rfl,hS⟩)
end L2
namespace PG
open PM (W Tr)
def vz:Tr->List Nat->List (List Nat)
 |.bin _ l r,p=>vz l (p++[1])++[p]++vz r (p++[2])
 |_,p=>[p]
theorem pH:∀(t:Tr) (a p:List Nat),vz t (a++p)=(vz t p).map (a ++ ·)
 |.num _,a,p=>rfl
 |.box _,a,p=>rfl
 |.bin o l r,a,p=>by
  rw[vz,vz,ZA a p,ZA a p,pH l a,pH r a,Zl,Zl];rfl
structure Ent(α:Type) where
 p:List Nat
 u:Tr
 g:Tr->α
def Ent.up {α β:Type} (i:Nat) (f:α->β) (e:Ent α):Ent β:=⟨i::e.p,e.u,fun x=>f (e.g x)⟩
def iA:Tr->List (Ent Tr)
 |.bin o l r=>(iA l).map (Ent.up 1 fun x=>.bin o x r)++[⟨[],.bin o l r,id⟩]++(iA r).map (Ent.up 2 fun x=>.bin o l x)
 |t=>[⟨[],t,id⟩]
def iT:aF->List (Ent aF)
 |.put k b e=>(iA e).map (Ent.up 3 fun x=>.put k b x)
 |.say k e=>(iA e).map (Ent.up 2 fun x=>.say k x)
 |.bH k sg l r=>(iA l).map (Ent.up 3 fun x=>.bH k sg x r)++(iA r).map (Ent.up 4 fun x=>.bH k sg l x)
 |.ifs k sg l r a b=>(iA l).map (Ent.up 3 fun x=>.ifs k sg x r a b)++(iA r).map (Ent.up 4 fun x=>.ifs k sg l x a b)
 |.cZ k sg l r a=>(iA l).map (Ent.up 3 fun x=>.cZ k sg x r a)++(iA r).map (Ent.up 4 fun x=>.cZ k sg l x a)
 |_=>[]
theorem hZ:∀t:Tr,vz t []=(iA t).map (·.p)
 |.num _=>rfl
 |.box _=>rfl
 |.bin o l r=>by
  rw[vz,iA,Xf,Xf,show ([1]:List Nat)=[1]++[] from rfl,show ([2]:List Nat)=[2]++[] from rfl,pH,pH,hZ l,hZ r,Zl,Zl,ZL,ZL,ZL,ZL];rfl
def eN {α:Type} (e:Ent α):List α:=match e.u with
 |.num n=>(iR n).map fun m=>e.g (.num m)
 |_=>[]
def eS {α:Type} (e:Ent α):List α:=match e.u with
 |.bin o l r=>[e.g (.bin (cL o) l r)]
 |_=>[]
theorem DV{α β:Type}(i:Nat)(f:α->β)(e:Ent α):eN (e.up i f)=(eN e).map f:=by
 obtain⟨p,u,g⟩:=e;cases u<;>simp[eN,Ent.up]
theorem DW{α β:Type}(i:Nat)(f:α->β)(e:Ent α):eS (e.up i f)=(eS e).map f:=by
 obtain⟨p,u,g⟩:=e;cases u<;>simp[eS,Ent.up]
theorem xP{α β:Type}{h:∀ {γ:Type},Ent γ->List γ}(hh:∀ {γ δ:Type} (i:Nat) (f:γ->δ) (e:Ent γ),h (e.up i f)=(h e).map f)(i:Nat)(f:α->β)(l:List (Ent α)):(l.map (Ent.up i f)).flatMap h=(l.flatMap h).map f:=by
 rw[List.flatMap_map,Xu];exact eZ fun x _=>hh i f x
theorem tE:∀t:Tr,eC t=(iA t).flatMap eN
 |.num n=>by simp[eC,iA,eN]
 |.box _=>by simp[eC,iA,eN]
 |.bin o l r=>by
  rw[eC,iA,ZR,ZR,xP DV,xP DV,<- tE l,<- tE r];simp[eN]
theorem tF:∀t:Tr,eW t=(iA t).flatMap eS
 |.num n=>by simp[eW,iA,eS]
 |.box _=>by simp[eW,iA,eS]
 |.bin o l r=>by
  rw[eW,iA,ZR,ZR,xP DW,xP DW,<- tF l,<- tF r];simp[eS]
theorem xQ{f:Tr->List Tr}{h:∀ {γ:Type},Ent γ->List γ}(hh:∀ {γ δ:Type} (i:Nat) (f:γ->δ) (e:Ent γ),h (e.up i f)=(h e).map f)(hf:∀t,f t=(iA t).flatMap h)(s:aF):eO f s=(iT s).flatMap h:=by
 cases s<;>simp only[eO,iT,ZR,xP hh,hf,W8]
theorem GO(s:aF):eO eC s=(iT s).flatMap eN:=xQ DV tE s
theorem GP(s:aF):eO eW s=(iT s).flatMap eS:=xQ DW tF s
theorem pI:∀t:Tr,(iA t).length+1<=2*2 ^ cB t
 |.num _=>by simp[iA,cB]
 |.box _=>by simp[iA,cB]
 |.bin o l r=>by
  have h1:=pI l;have h2:=pI r;have a1:2 ^ cB l<=2 ^ max (cB l) (cB r):=ZP (by decide) (by lia);have a2:2 ^ cB r<=2 ^ max (cB l) (cB r):=ZP (by decide) (by lia);rw[iA,Zc,Zc,Zb,Zb,cB,Yu,Zm];lia
theorem wj(t:Tr)(p:List Nat):(vz t p).length+1<=2*2 ^ cB t:=by
 have e:=pH t p [];rw[Zr] at e;rw[e,Zb,hZ,Zb];exact pI t
end PG
namespace L2
open PySem PyProof.Rows
def vA:List Nat->Dp->Option Dp
 |[],d=>some d
 |i::p,.tup ds=>match ds[i]? with
  |some d=>vA p d
  |none=>none
 |_::_,_=>none
def zd (x:Dp):List Nat->Dp->Dp
 |[],_=>x
 |i::p,.tup ds=>match ds[i]? with
  |some d=>.tup (ds.set i (zd x p d))
  |none=>.tup ds
 |_::_,d=>d
def L8:List Nat->Dp->Prop
 |i::p,.tup ds=>ds.length<=10/\∀d,ds[i]?=some d->L8 p d
 |_,_=>True
def tG (p:List Nat):Dp:=.lst (p.map fun n=>Dp.int (n:Nat))
structure pJ{α:Type}(d:Dp)(D:α->Dp)(n:Nat)(e:PG.Ent α):Prop where
 at_:vA e.p d=some (cR e.u)
 put:∀x,zd (cR x) e.p d=D (e.g x)
 sh:L8 e.p d
 c:PG.xJ e.u
 len:e.p.length<=n
theorem pJ.up{α β:Type}{d:Dp}{D:α->Dp}{n:Nat}{e:PG.Ent α}(h:pJ d D n e){ds:List Dp}{D':β->Dp}(i:Nat)(f:α->β)(hi:ds[i]?=some d)(IM:ds.length<=10)(hf:∀a,Dp.tup (ds.set i (D a))=D' (f a)):pJ (.tup ds) D' (n+1) (e.up i f):=by
 refine⟨?_,fun x=>?_,⟨IM,fun d1 e1=>by rw[hi] at e1;cases e1;exact h.sh⟩,h.c,by have:=h.len;show (i::e.p).length<=n+1;rw[Ze];lia⟩
 ·show vA (i::e.p) (.tup ds)=_;rw[vA,hi];exact h.at_
 ·show zd (cR x) (i::e.p) (.tup ds)=D' (f (e.g x));rw[zd,hi];simp only;rw[h.put x];exact hf _
theorem pJ.le{α:Type}{d:Dp}{D:α->Dp}{n m:Nat}{e:PG.Ent α}(h:pJ d D n e)(hm:n<=m):pJ d D m e:=⟨h.at_,h.put,h.sh,h.c,ZT h.len hm⟩
theorem iW:∀t:PM.Tr,PG.xJ t->∀e∈PG.iA t,pJ (cR t) cR (PG.cB t) e
 |.num n,c,e,he=>by
  cases Zh.mp he;exact⟨rfl,fun x=>rfl,trivial,c,ZN _⟩
 |.box n,c,e,he=>by
  cases Zh.mp he;exact⟨rfl,fun x=>rfl,trivial,c,ZN _⟩
 |.bin o l r,c,e,he=>by
  rw[PG.iA] at he;rcases Zg.mp he with he |he
  ·rcases Zg.mp he with he |he
   ·obtain⟨x,hx,rfl⟩:=Zp.mp he;refine((iW l c.2.1 x hx).up (ds:=[.str (S o),cR l,cR r]) (D':=cR) 1 _ rfl (by simp[Z6]) fun a=>rfl).le (by rw[PG.cB];lia)
   ·cases Zh.mp he;exact⟨rfl,fun x=>rfl,trivial,c,ZN _⟩
  ·obtain⟨x,hx,rfl⟩:=Zp.mp he;refine((iW r c.2.2 x hx).up (ds:=[.str (S o),cR l,cR r]) (D':=cR) 2 _ rfl (by simp[Z6]) fun a=>rfl).le (by rw[PG.cB];lia)
theorem FT(s:PG.aF)(c:xK s):∀e∈PG.iT s,pJ (bp s) bp 7 e:=by
 intro e he;cases s with
 |ask=>cases he
 |stop=>cases he
 |put k b t=>
  obtain⟨x,hx,rfl⟩:=Zp.mp he;exact((iW t c.1 x hx).up (D':=bp) 3 _ rfl (by simp[Z6]) fun a=>rfl).le (by have:=c.2;lia)
 |say k t=>
  obtain⟨x,hx,rfl⟩:=Zp.mp he;exact((iW t c.1 x hx).up (D':=bp) 2 _ rfl (by simp[Z6]) fun a=>rfl).le (by have:=c.2;lia)
 |bH k sg l r=>
  rcases Zg.mp he with he |he
  ·obtain⟨x,hx,rfl⟩:=Zp.mp he;exact((iW l c.2.1.1 x hx).up (D':=bp) 3 _ rfl (by simp[Z6]) fun a=>rfl).le (by have:=c.2.1.2;lia)
  ·obtain⟨x,hx,rfl⟩:=Zp.mp he;exact((iW r c.2.2.1 x hx).up (D':=bp) 4 _ rfl (by simp[Z6]) fun a=>rfl).le (by have:=c.2.2.2;lia)
 |ifs k sg l r a b=>
  rcases Zg.mp he with he |he
  ·obtain⟨x,hx,rfl⟩:=Zp.mp he;exact((iW l c.2.1.1 x hx).up (D':=bp) 3 _ rfl (by simp[Z6]) fun a=>rfl).le (by have:=c.2.1.2;lia)
  ·obtain⟨x,hx,rfl⟩:=Zp.mp he;exact((iW r c.2.2.1 x hx).up (D':=bp) 4 _ rfl (by simp[Z6]) fun a=>rfl).le (by have:=c.2.2.2;lia)
 |cZ k sg l r a=>
  rcases Zg.mp he with he |he
  ·obtain⟨x,hx,rfl⟩:=Zp.mp he;exact((iW l c.2.1.1 x hx).up (D':=bp) 3 _ rfl (by simp[Z6]) fun a=>rfl).le (by have:=c.2.1.2;lia)
  ·obtain⟨x,hx,rfl⟩:=Zp.mp he;exact((iW r c.2.2.1 x hx).up (D':=bp) 4 _ rfl (by simp[Z6]) fun a=>rfl).le (by have:=c.2.2.2;lia)
section
variable(K:Za)
def pK (n:Nat):Sp:=fun vs H Q _=>∃(v:V) (t:PM.Tr) (a:YE) (p:List Nat),vs=[v,.ref a]/\Rep K H (cR t) v/\PG.cB t<n/\PG.cB t<=6/\H a=some (.lst (p.map fun n=>V.int (n:Nat)))/\p.length+PG.cB t<=10/\∀L us H',ai H H'->H L=none->H' L=some (.lst us)->aw K H' ((PG.vz t p).map tG) us->Q (.ref L) H'
def L9:Sp:=fun vs H Q _=>∃(v:V) (d d':Dp) (a:YE) (p:List Nat),vs=[v,.ref a]/\Rep K H d v/\gX K H a (p.map fun n=>V.int (n:Nat))/\p.length<=10/\vA p d=some d'/\∀v',Rep K H d' v'->Q v' H
def wo (n:Nat):Sp:=fun vs H Q _=>∃(v x:V) (d d' dx:Dp) (a:YE) (p:List Nat) (H0:Hp) (O:YE->Prop),vs=[v,.ref a,x]/\ai H0 H/\Rep K H0 d v/\Fix K O H dx x/\(∀g,O g->H0 g=none/\∃ys,H g=some (.lst ys))/\gX K H a (p.map fun n=>V.int (n:Nat))/\p.length<n/\p.length<=10/\vA p d=some d'/\L8 p d/\∀v' H',ai H H'->Fix K O H' (zd dx p d) v'->Q v' H'
end
open PG
open PM (W Tr)
def In (r:Rg) (v:Int):Prop:=r.1<=v/\v<=r.2
def Ma (rs:List Rg) (vals:List Int):Prop:=vals.length=rs.length/\∀(i:Nat) (v:Int) (r:Rg),vals[i]?=some v->rs[i]?=some r->In r v
theorem Nu{a b x y:Int}(h1:a<=x)(h2:x<=b):min (a*y) (b*y)<=x*y/\x*y<=max (a*y) (b*y):=by
 by_cases hy:0<=y
 ·have e1:=Xr h1 hy;have e2:=Xr h2 hy;exact⟨XW (Int.min_le_left _ _) e1,XW e2 (Int.le_max_right _ _)⟩
 ·have hy:y<=0:=by lia
  have e1:=WN h1 hy;have e2:=WN h2 hy;exact⟨XW (Int.min_le_right _ _) e2,XW e1 (Int.le_max_left _ _)⟩
theorem vC{bs:List eK}{x:W}(h:x∈bs.map (·.name)):ug bs x<bs.length:=by
 unfold ug;obtain⟨b,hb,rfl⟩:=Zp.mp h;exact List.findIdx_lt_length_of_exists ⟨b,hb,by simp⟩
theorem Ma.at_{bs:List eK}{rs:List Rg}{vals:List Int}{x:W}(h:Ma rs vals)(l:vals.length=bs.length)(hx:x∈bs.map (·.name)):In (uh bs rs x) (vals.getD (ug bs x) 0):=by
 have hi:=vC hx;have l2:=h.1;unfold uh;rw[ZH,ZH,Zd (show ug bs x<vals.length by lia),Zd (show ug bs x<rs.length by lia)];exact h.2 _ _ _ (Zd (by lia)) (Zd (by lia))
end L2
namespace L2
open PySem PG
open PM (W Tr)
def one (vals:List Int):List Rg:=vals.map fun v=>(v,v)
end L2
namespace L2
open PySem PG
open PM (W Tr)
def Nx (b:eK) (r:Rg):Prop:=0<=r.1/\r.2<=b.size-1
def JR (bs:List eK) (rs:List Rg):Prop:=rs.length=bs.length/\∀(i:Nat) (r:Rg) (b:eK),rs[i]?=some r->bs[i]?=some b->Nx b r
structure Jl(bs:List eK)(rs:List Rg):Prop where
 bd:JR bs rs
 le:∀r∈rs,r.1<=r.2
theorem JR.at_{bs:List eK}{rs:List Rg}(h:JR bs rs){x:W}(hx:x∈bs.map (·.name)):Nx (bs[ug bs x]'(vC hx)) (uh bs rs x):=by
 have hi:=vC hx;have l:=h.1;refine h.2 (ug bs x) _ _ ?_ (Zd hi);unfold uh;rw[ZH,Zd (show ug bs x<rs.length by lia)];rfl
theorem JR.put{bs:List eK}{rs:List Rg}(h:JR bs rs){x:W}(hx:x∈bs.map (·.name)){r:Rg}(hr:Nx (bs[ug bs x]'(vC hx)) r):JR bs (sU bs rs x r):=by
 refine⟨by unfold sU;rw[Xq];exact h.1,fun i q b e1 e2=>?_⟩;unfold sU at e1;rw[List.getElem?_set] at e1;by_cases c:ug bs x=i
 ·rw[if_pos c] at e1;subst c;by_cases d:ug bs x<rs.length
  ·rw[if_pos d] at e1;cases e1;rw[Zd (vC hx)] at e2;cases e2;exact hr
  ·rw[if_neg d] at e1;cases e1
 ·rw[if_neg c] at e1;exact h.2 i q b e1 e2
theorem Jl.put{bs:List eK}{rs:List Rg}(h:Jl bs rs){x:W}(hx:x∈bs.map (·.name)){r:Rg}(hr:Nx (bs[ug bs x]'(vC hx)) r)(hl:r.1<=r.2):Jl bs (sU bs rs x r):=⟨h.bd.put hx hr,fun q hq=>by
 unfold sU at hq;rcases WY hq with hq |rfl
 ·exact h.le q hq
 ·exact hl⟩
end L2
namespace L2
open PySem PyProof.Rows
section
variable{K:Za}{D D' O:YE->Prop}{H0 H H1:Hp}{d:Dp}{v:V}{s p:YE}
theorem Own.tup{ds:List Dp}{vs:List V}(h:a9 K H0 H ds vs)(dm:∀b,H0 b≠none->H b≠none)(hp:H p=none):Own K H0 (upd H p (.tup vs)) (.tup ds) (.ref p):=fun O hO=>Fix.tup af (fun z=>dm p (hO p z) hp) ((h O hO).up (.of (ai.new hp _)))
theorem ai.jn(h:ai H H1):∀b,H b≠none->H1 b≠none:=fun b hb=>by
 cases z:H b with
 |none=>exact absurd z hb
 |some o=>rw[h b o z];simp
end
abbrev Pd (bs:List PG.eK) (e:PM.Tr):Prop:=PG.jE bs e/\PG.cB e<=2
def Plain:PG.aF->Prop
 |.ifs ..=>False
 |.cZ ..=>False
 |_=>True
theorem Plain.rows{st:PG.aF}(h:Plain st):PG.eM [st]=[st.row]/\PG.cU st=0:=PG.yZ (fun _ _ _ _ _ _ z=>by rw[z] at h;exact h) (fun _ _ _ _ _ z=>by rw[z] at h;exact h)
abbrev TY (bs:List PG.eK):Int->Int->List PG.aF->Prop:=PG.Nw (·∈bs.map (·.name)) (Pd bs) (·∈PG.px)
section
variable(K:Za)(D:YE->Prop)(H:Hp)
inductive lg:List (List PG.aF×PG.rq)->YE->List YE->List V->Prop
 |root {p:YE}:lg [] p [] [.f9]
 |cZ {o GQ k sg l r p q c ps ss vs vl vr}:H q=some (.lst (vs++[.ref c]))->aM K D H (GQ.map bp) vs->¬D c->H c=some (.tup [.str "while",.int k,.str (S sg),vl,vr,.ref p])->Fix K D H (cR l) vl->Fix K D H (cR r) vr->lg o q ps ss->lg ((GQ,.cZ k sg l r)::o) p (q::ps) (.f9::ss)
 |if1 {o GQ k sg l r p q c b ps ss vs vl vr}:H q=some (.lst (vs++[.ref c]))->aM K D H (GQ.map bp) vs->¬D c->H c=some (.tup [.str "if",.int k,.str (S sg),vl,vr,.ref p,.ref b])->Fix K D H (cR l) vl->Fix K D H (cR r) vr->H b=some (.lst [])->lg o q ps ss->lg ((GQ,.if1 k sg l r)::o) p (q::ps) (.ref b::ss)
 |if2 {o GQ k sg l r a p q c va ps ss vs vl vr}:H q=some (.lst (vs++[.ref c]))->aM K D H (GQ.map bp) vs->¬D c->H c=some (.tup [.str "if",.int k,.str (S sg),vl,vr,va,.ref p])->Fix K D H (cR l) vl->Fix K D H (cR r) vr->Fix K D H (.lst (a.map bp)) va->lg o q ps ss->lg ((GQ,.if2 k sg l r a)::o) p (q::ps) (.f9::ss)
end
section
variable{K:Za}{D D':YE->Prop}{H H1:Hp}{o:List (List PG.aF×PG.rq)}{p:YE}{ps:List YE}{ss:List V}
theorem lg.len(h:lg K D H o p ps ss):ps.length=o.length/\ss.length=o.length+1:=by
 induction h with
 |root=>exact⟨rfl,rfl⟩
 |cZ _ _ _ _ _ _ _ ih=>exact⟨by rw[Ze,Ze,ih.1],by rw[Ze,Ze,ih.2]⟩
 |if1 _ _ _ _ _ _ _ _ ih=>exact⟨by rw[Ze,Ze,ih.1],by rw[Ze,Ze,ih.2]⟩
 |if2 _ _ _ _ _ _ _ _ ih=>exact⟨by rw[Ze,Ze,ih.1],by rw[Ze,Ze,ih.2]⟩
theorem lg.up(h:lg K D H o p ps ss)(u:aE D H H1)(h1:∀q∈ps,H1 q=H q)(h2:∀b,V.ref b∈ss->H1 b=H b):lg K D H1 o p ps ss:=by
 induction h with
 |root=>exact .root
 |cZ a b c d e f g ih=>exact .cZ (by rw[h1 _ (Zt ..)];exact a) (b.up u) c (u _ _ c d) (e.up u) (f.up u) (ih (fun q hq=>h1 q (Zk _ hq)) fun b hb=>h2 b (Zk _ hb))
 |if1 a b c d e f x g ih=>exact .if1 (by rw[h1 _ (Zt ..)];exact a) (b.up u) c (u _ _ c d) (e.up u) (f.up u) (by rw[h2 _ (Zt ..)];exact x) (ih (fun q hq=>h1 q (Zk _ hq)) fun b hb=>h2 b (Zk _ hb))
 |if2 a b c d e f x g ih=>exact .if2 (by rw[h1 _ (Zt ..)];exact a) (b.up u) c (u _ _ c d) (e.up u) (f.up u) (x.up u) (ih (fun q hq=>h1 q (Zk _ hq)) fun b hb=>h2 b (Zk _ hb))
theorem lg.jn(h:lg K D H o p ps ss):(∀q∈ps,H q≠none)/\∀b,V.ref b∈ss->H b≠none:=by
 have nn:∀ {q:YE} {u:HO},H q=some u->H q≠none:=fun e z=>by rw[e] at z;cases z
 induction h with
 |root=>exact⟨fun q hq=>(by cases hq),fun b hb=>(by simp at hb)⟩
 |cZ a _ _ _ _ _ _ ih=>exact⟨fun q hq=>(Zf.mp hq).elim (fun e=>e▸nn a) (ih.1 q),fun b hb=>(Zf.mp hb).elim (fun e=>by cases e) (ih.2 b)⟩
 |if1 a _ _ _ _ _ x _ ih=>exact⟨fun q hq=>(Zf.mp hq).elim (fun e=>e▸nn a) (ih.1 q),fun b hb=>(Zf.mp hb).elim (fun e=>by cases e;exact nn x) (ih.2 b)⟩
 |if2 a _ _ _ _ _ _ _ ih=>exact⟨fun q hq=>(Zf.mp hq).elim (fun e=>e▸nn a) (ih.1 q),fun b hb=>(Zf.mp hb).elim (fun e=>by cases e) (ih.2 b)⟩
theorem lg.same(h:lg K D H o p ps ss)(s:ai H H1):lg K D H1 o p ps ss:=by
 have e:∀ {q:YE},H q≠none->H1 q=H q:=fun {q} n=>by
  cases z:H q with
  |none=>exact absurd z n
  |some u=>exact s _ _ z
 exact h.up (.of s) (fun q hq=>e (h.jn.1 q hq)) fun b hb=>e (h.jn.2 b hb)
def rootOf (p:YE):List YE->YE
 |[]=>p
 |q::ps=>rootOf q ps
end
theorem xR{ta:TA}{g:TG}{tb:TS}{D:Ends}{σ:St}{H:Hp} (h:∀U:Int->Int->Hp->Prop,(∀i0 j H1,(∃W:Nat->Nat->St->Hp->Prop,(∃m,W 0 m σ H1)/\∀i m σ H,W i m σ H->
 ((A9 i0 (j-i0).toNat).stop i H/\D.nx σ H)\/((A9 i0 (j-i0).toNat).go i H/\∃N:St->Hp->Prop,(∀σ' H',N σ' H'->∃m',m'<m/\W (i+1) m' σ' H')/\∀x H',(A9 i0 (j-i0).toNat).A8 i H x H'->g x σ H' fun σ2 H2=>tb {D with nx:=N,ct:=N,bk:=D.nx} σ2 H2))->U i0 j H1)->
 ta σ H fun vs H1=>∃i j:Int,vs=[.int i,.int j]/\(-(2 ^ 62)<=i/\i<2 ^ 62/\-(2 ^ 62)<=j/\j<2 ^ 62)/\U i j H1):Cg (zG ta) g tb D σ H:=h _ fun _ _ _ x=>x
def Ny (ss:List V):List YE:=ss.filterMap fun v=>match v with |.ref b=>some b |_=>none
theorem FU{ss:List V}{b:YE}:b∈Ny ss↔V.ref b∈ss:=by
 unfold Ny;rw[WU]
 constructor
 ·rintro ⟨v,hv,e⟩
  cases v with
  |ref c=>cases e;exact hv
  |_=>cases e
 ·exact fun h=>⟨_,h,rfl⟩
def GR (pl sc p:YE) (ps:List YE) (ss:List V):List YE:=pl::sc::p::(ps++Ny ss)
theorem AG{pl sc p a:YE}{ps:List YE}{ss:List V}:a∈GR pl sc p ps ss↔a=pl\/a=sc\/a=p\/a∈ps\/V.ref a∈ss:=by
 unfold GR;simp only[Zf,Zg,FU]
structure PZ(K:Za)(bs:List PG.eK)(r0 row:Int)(R pl sc:YE)(H0 H:Hp)(o:List (List PG.aF×PG.rq))(cur:List PG.aF)(p:YE)(ps:List YE)(ss vs:List V):Prop where
 Bf:H pl=some (.lst ((p::ps).reverse.map V.ref))
 Nz:H sc=some (.lst ss.reverse)
 hp:H p=some (.lst vs)
 nd:(GR pl sc p ps ss).Nodup
 fx:aM K (·∈GR pl sc p ps ss) H (cur.map bp) vs
 pa:lg K (·∈GR pl sc p ps ss) H o p ps ss
 rt:rootOf p ps=R
 zk:TY bs r0 row (PG.jY o cur)
 len:o.length<=4
 sm:ai H0 H
 fr:∀a∈GR pl sc p ps ss,H0 a=none
section
variable{K:Za}{bs:List PG.eK}{r0 row:Int}{R pl sc:YE}{H0 H H1:Hp}{o:List (List PG.aF×PG.rq)}{cur:List PG.aF}{p:YE}{ps:List YE}{ss vs:List V}
theorem PZ.jn(h:PZ K bs r0 row R pl sc H0 H o cur p ps ss vs):∀a∈GR pl sc p ps ss,H a≠none:=fun a ha=>by
 rcases AG.mp ha with rfl |rfl |rfl |ha |ha
 ·rw[h.Bf];simp
 ·rw[h.Nz];simp
 ·rw[h.hp];simp
 ·exact h.pa.jn.1 a ha
 ·exact h.pa.jn.2 a ha
theorem PZ.same(h:PZ K bs r0 row R pl sc H0 H o cur p ps ss vs)(s:ai H H1):PZ K bs r0 row R pl sc H0 H1 o cur p ps ss vs:=
 ⟨s _ _ h.Bf,s _ _ h.Nz,s _ _ h.hp,h.nd,h.fx.up (.of s),h.pa.same s,h.rt,h.zk,h.len,h.sm.trans s,h.fr⟩
theorem sI:∀b:List PG.aF,b.length<=(PG.eM b).length
 |[]=>ZN _
 |s::r=>by
  have ih:=sI r;unfold PG.eM at ih ⊢;rw[Zb] at ih ⊢;rw[PG.aA,Zc,Ze];have:0<(PG.aP s).length:=by cases s<;>simp[PG.aP]
  lia
theorem PZ.n8(h:PZ K bs r0 row R pl sc H0 H o cur p ps ss vs):(vs.length:Int)<=max 0 (row-r0):=by
 have h1:=PG.xH h.zk.rise h.zk.rows;have h2:=PG.yY o [] cur;rw[Xf] at h2;have h3:=congrArg Z6 h2;rw[Zc] at h3;have h4:=sI cur;have h5:=h.fx.nK.length;rw[Zb] at h5;lia
theorem PZ.one(hR:H0 R=none)(Bf:H0 pl=none)(Nz:H0 sc=none)(n1:pl≠sc)(n2:pl≠R)(n3:sc≠R)(s:ai H0 H)(e1:H R=some (.lst []))(e2:H pl=some (.lst [.ref R]))(e3:H sc=some (.lst [.f9])):PZ K bs r0 r0 R pl sc H0 H [] [] R [] [.f9] []:=
 ⟨e2,e3,e1,by unfold GR;simp[Ny,n1,n2,n3],.nil,.root,rfl,PG.Nw.nil,by simp,s,fun a ha=>by
  rcases AG.mp ha with rfl |rfl |rfl |h |h
  ·exact Bf
  ·exact Nz
  ·exact hR
  ·cases h
  ·simp at h⟩
end
def zf:List (Key×V):=[(.inr "say",.int 2),(.inr "put",.int 3),(.inr "must",.int 3),(.inr "if",.int 3),(.inr "while",.int 3)]
structure Pe(K:Za)(H:Hp)(st:PG.aF)(w0:Str)(xs:List V)(f n:Nat)(ex:Nat->PM.Tr):Prop where
 get:(dR zf (.inr w0)).getD (.int 9)=.int f
 len:xs.length<=7
 JF:(if (xs.length:Int)<5 then (xs.length:Int) else 5)-f=n\/((if (xs.length:Int)<5 then (xs.length:Int) else 5)<=f/\n=0)
 n8:n<=2
 TZ:f<=9
 at_:∀i,i<n->∃v,xs[f+i]?=some v/\Rep K H (cR (ex i)) v/\PG.cB (ex i)<=6
 all:(PG.iT st).map (·.p)=(ZO n).flatMap fun i=>(PG.vz (ex i) []).map ((f+i) :: ·)
theorem qS{α β:Type}(i:Nat)(f:α->β)(l:List (PG.Ent α)):(l.map (PG.Ent.up i f)).map (·.p)=(l.map (·.p)).map (i :: ·):=by
 rw[ZL,ZL];rfl
theorem Mb{K:Za}{H:Hp}{st:PG.aF}{v:V}(h:Rep K H (bp st) v)(c:xK st):∃a w0 xs f n ex,v=.ref a/\bU K H a (.str w0::xs)/\Pe K H st w0 (.str w0::xs) f n ex:=by
 cases st with
 |ask k b=>
  simp only[bp,Rep.az,aw.ar,aw.aD,Rep.au,Rep.aB] at h;obtain⟨a,xs,rfl,hS,_,_,rfl,rfl,_,_,rfl,rfl,_,_,rfl,rfl,rfl⟩:=h;exact⟨a,_,_,9,0,fun _=>.num 0,rfl,hS,by decide +kernel,by simp,.inr ⟨by simp,rfl⟩,by decide,by decide,fun i hi=>by lia,rfl⟩
 |stop k=>
  simp only[bp,Rep.az,aw.ar,aw.aD,Rep.au,Rep.aB] at h;obtain⟨a,xs,rfl,hS,_,_,rfl,rfl,_,_,rfl,rfl,rfl⟩:=h;exact⟨a,_,_,9,0,fun _=>.num 0,rfl,hS,by decide +kernel,by simp,.inr ⟨by simp,rfl⟩,by decide,by decide,fun i hi=>by lia,rfl⟩
 |put k b e=>
  simp only[bp,Rep.az,aw.ar,aw.aD,Rep.au,Rep.aB] at h;obtain⟨a,xs,rfl,hS,_,_,rfl,rfl,_,_,rfl,rfl,_,_,rfl,rfl,ve,_,rfl,he,rfl⟩:=h;refine⟨a,_,_,3,1,fun _=>e,rfl,hS,by decide +kernel,by simp,.inl (by simp),by decide,by decide,fun i hi=>?_,?_⟩
  ·obtain rfl:i=0:=by lia
   exact⟨ve,rfl,he,c.2⟩
  ·rw[PG.iT,qS,<- PG.hZ];simp[ZO,ZO.loop]
 |say k e=>
  simp only[bp,Rep.az,aw.ar,aw.aD,Rep.au,Rep.aB] at h;obtain⟨a,xs,rfl,hS,_,_,rfl,rfl,_,_,rfl,rfl,ve,_,rfl,he,rfl⟩:=h;refine⟨a,_,_,2,1,fun _=>e,rfl,hS,by decide +kernel,by simp,.inl (by simp),by decide,by decide,fun i hi=>?_,?_⟩
  ·obtain rfl:i=0:=by lia
   exact⟨ve,rfl,he,c.2⟩
  ·rw[PG.iT,qS,<- PG.hZ];simp[ZO,ZO.loop]
 |bH k sg l r=>
  simp only[bp,Rep.az,aw.ar,aw.aD,Rep.au,Rep.aB] at h;obtain⟨a,xs,rfl,hS,_,_,rfl,rfl,_,_,rfl,rfl,_,_,rfl,rfl,vl,_,rfl,hl,vr,_,rfl,hr,rfl⟩:=h;refine⟨a,_,_,3,2,fun i=>if i=0 then l else r,rfl,hS,by decide +kernel,by simp,.inl (by simp),by decide,by decide,fun i hi=>?_,?_⟩
  ·obtain rfl |rfl:i=0\/i=1:=by lia
   ·exact⟨vl,rfl,hl,c.2.1.2⟩
   ·exact⟨vr,rfl,hr,c.2.2.2⟩
  ·rw[PG.iT,Zl,qS,qS,<- PG.hZ,<- PG.hZ];simp[ZO,ZO.loop]
 |ifs k sg l r x y=>
  unfold bp at h;rw[aI,aI,Rep.az] at h;simp only[aw.ar,aw.aD,Rep.au,Rep.aB] at h;obtain⟨a,xs,rfl,hS,_,_,rfl,rfl,_,_,rfl,rfl,_,_,rfl,rfl,vl,_,rfl,hl,vr,_,rfl,hr,vx,_,rfl,hx,vy,_,rfl,hy,rfl⟩:=h;refine⟨a,_,_,3,2,fun i=>if i=0 then l else r,rfl,hS,by decide +kernel,by simp,.inl (by simp),by decide,by decide,fun i hi=>?_,?_⟩
  ·obtain rfl |rfl:i=0\/i=1:=by lia
   ·exact⟨vl,rfl,hl,c.2.1.2⟩
   ·exact⟨vr,rfl,hr,c.2.2.2⟩
  ·rw[PG.iT,Zl,qS,qS,<- PG.hZ,<- PG.hZ];simp[ZO,ZO.loop]
 |cZ k sg l r x=>
  unfold bp at h;rw[aI,Rep.az] at h;simp only[aw.ar,aw.aD,Rep.au,Rep.aB] at h;obtain⟨a,xs,rfl,hS,_,_,rfl,rfl,_,_,rfl,rfl,_,_,rfl,rfl,vl,_,rfl,hl,vr,_,rfl,hr,vx,_,rfl,hx,rfl⟩:=h;refine⟨a,_,_,3,2,fun i=>if i=0 then l else r,rfl,hS,by decide +kernel,by simp,.inl (by simp),by decide,by decide,fun i hi=>?_,?_⟩
  ·obtain rfl |rfl:i=0\/i=1:=by lia
   ·exact⟨vl,rfl,hl,c.2.1.2⟩
   ·exact⟨vr,rfl,hr,c.2.2.2⟩
  ·rw[PG.iT,Zl,qS,qS,<- PG.hZ,<- PG.hZ];simp[ZO,ZO.loop]
def pL (l:List PG.aF):Dp:=.lst (l.map bp)
theorem xS(s:PG.aF)(c:xK s):(PG.iT s).length<=256:=by
 have pw:∀k,k<=6->2 ^ k<=2 ^ 6:=fun k h=>ZP (by decide) h;have one:∀t:PM.Tr,PG.cB t<=6->(PG.iA t).length<=128:=fun t h=>by
  have:=PG.pI t;have:=pw _ h;lia
 cases s with
 |ask=>exact ZN _
 |stop=>exact ZN _
 |put k b t=>rw[PG.iT,Zb];have:=one t c.2;lia
 |say k t=>rw[PG.iT,Zb];have:=one t c.2;lia
 |bH k sg l r=>rw[PG.iT,Zc,Zb,Zb];have:=one l c.2.1.2;have:=one r c.2.2.2;lia
 |ifs k sg l r a b=>rw[PG.iT,Zc,Zb,Zb];have:=one l c.2.1.2;have:=one r c.2.2.2;lia
 |cZ k sg l r a=>rw[PG.iT,Zc,Zb,Zb];have:=one l c.2.1.2;have:=one r c.2.2.2;lia
theorem qB:∀(t:PM.Tr) (p q:List Nat),q∈PG.vz t p->q.length<=p.length+PG.cB t
 |.num _,p,q,h=>by cases Zh.mp h;lia
 |.box _,p,q,h=>by cases Zh.mp h;lia
 |.bin o l r,p,q,h=>by
  rw[PG.vz] at h;rw[PG.cB];rcases Zg.mp h with h |h
  ·rcases Zg.mp h with h |h
   ·have:=qB l _ q h;rw[Zc,Zm] at this;lia
   ·cases Zh.mp h;lia
  ·have:=qB r _ q h;rw[Zc,Zm] at this;lia
theorem DX{K:Za}{O:YE->Prop}{H:Hp}(p:List Nat):aM K O H (p.map fun n=>Dp.int (n:Nat)) (p.map fun n=>V.int (n:Nat)):=by
 induction p with
 |nil=>exact aM.nil
 |cons n p ih=>exact aM.cons Fix.int ih
theorem DY{X:Cx}{K:Za}(h:X.K=K):nX X (binaryOp .Add) (GI K):=h▸Ay
theorem DZ:fM [] zf=zf:=by decide +kernel
def zg:List (Key×V):=[(.inr "+",.str "-"),(.inr "-",.str "+"),(.inr "*",.str "+")]
def zh:List (Key×V):=[(.inr "<",.str "="),(.inr "=",.str "<")]
theorem D0:fM [] zg=zg:=by decide +kernel
theorem D3:fM [] zh=zh:=by decide +kernel
theorem Mc{o:PM.W}(h:o∈([[43],[45],[42]]:List PM.W)):dR zg (.inr (S o))=some (.str (S (PG.cL o))):=by
 simp at h;rcases h with rfl |rfl |rfl<;>decide +kernel
theorem Md{o:PM.W}(h:o∈PG.px):dR zh (.inr (S o))=some (.str (S (PG.cL o))):=by
 simp[PG.px] at h;rcases h with rfl |rfl<;>decide +kernel
theorem oM{α:Type}(n i:Nat)(f:Nat->List α):(ZO (i+1)).flatMap f=(ZO i).flatMap f++f i:=by
 rw[List.range_succ,ZR];simp
structure T1(K:Za)(H:Hp)(st:PG.aF)(w0:Str)(xs:List V):Prop where
 len:xs.length<=7
 c1:(w0 = "must"\/w0 = "if"\/w0 = "while")->∃sg s',xs[2]?=some (.str (S sg))/\sg∈PG.px/\PG.oK st=[[s']]/\∀H4:Hp,(∀d v,Rep K H d v->Rep K H4 d v)->∀p,bU K H4 p (xs.set 2 (.str (S (PG.cL sg))))->Rep K H4 (bp s') (.ref p)
 c0:¬(w0 = "must"\/w0 = "if"\/w0 = "while")->PG.oK st=[]
 b1:(w0 = "if"\/w0 = "while")->∃vl vr s',xs[3]?=some vl/\xs[4]?=some vr/\PG.rA st=[[s']]/\∀H4:Hp,(∀d v,Rep K H d v->Rep K H4 d v)->∀p,bU K H4 p (xs.take 3++[vr,vl]++xs.drop 5)->Rep K H4 (bp s') (.ref p)
 b0:¬(w0 = "if"\/w0 = "while")->PG.rA st=[]
 p1:(w0 = "put"\/w0 = "say")->PG.uj st=[[]]
 p0:¬(w0 = "put"\/w0 = "say")->PG.uj st=[]
 c2:(w0 = "must"\/w0 = "if"\/w0 = "while")->∃sg s',xs[2]?=some (.str (S sg))/\sg∈PG.px/\PG.oK st=[[s']]/\vA [2] (bp st)=some (.str (S sg))/\L8 [2] (bp st)/\zd (.str (S (PG.cL sg))) [2] (bp st)=bp s'
theorem Me{K:Za}{H:Hp}{st:PG.aF}{v:V}(h:Rep K H (bp st) v)(c:xK st):∃a w0 xs,v=.ref a/\bU K H a (.str w0::xs)/\T1 K H st w0 (.str w0::xs):=by
 cases st with
 |ask k b=>
  simp only[bp,Rep.az,aw.ar,aw.aD,Rep.au,Rep.aB] at h;obtain⟨a,xs,rfl,hS,_,_,rfl,rfl,_,_,rfl,rfl,_,_,rfl,rfl,rfl⟩:=h;exact⟨a,_,_,rfl,hS,by simp,fun z=>absurd z (by decide +kernel),fun _=>rfl,fun z=>absurd z (by decide +kernel),fun _=>rfl,fun z=>absurd z (by decide +kernel),fun _=>rfl,fun z=>absurd z (by decide +kernel)⟩
 |stop k=>
  simp only[bp,Rep.az,aw.ar,aw.aD,Rep.au,Rep.aB] at h;obtain⟨a,xs,rfl,hS,_,_,rfl,rfl,_,_,rfl,rfl,rfl⟩:=h;exact⟨a,_,_,rfl,hS,by simp,fun z=>absurd z (by decide +kernel),fun _=>rfl,fun z=>absurd z (by decide +kernel),fun _=>rfl,fun z=>absurd z (by decide +kernel),fun _=>rfl,fun z=>absurd z (by decide +kernel)⟩
 |put k b e=>
  simp only[bp,Rep.az,aw.ar,aw.aD,Rep.au,Rep.aB] at h;obtain⟨a,xs,rfl,hS,_,_,rfl,rfl,_,_,rfl,rfl,_,_,rfl,rfl,ve,_,rfl,he,rfl⟩:=h;exact⟨a,_,_,rfl,hS,by simp,fun z=>absurd z (by decide +kernel),fun _=>rfl,fun z=>absurd z (by decide +kernel),fun _=>rfl,fun _=>rfl,fun z=>absurd (.inl rfl) z,fun z=>absurd z (by decide +kernel)⟩
 |say k e=>
  simp only[bp,Rep.az,aw.ar,aw.aD,Rep.au,Rep.aB] at h;obtain⟨a,xs,rfl,hS,_,_,rfl,rfl,_,_,rfl,rfl,ve,_,rfl,he,rfl⟩:=h;exact⟨a,_,_,rfl,hS,by simp,fun z=>absurd z (by decide +kernel),fun _=>rfl,fun z=>absurd z (by decide +kernel),fun _=>rfl,fun _=>rfl,fun z=>absurd (.inr rfl) z,fun z=>absurd z (by decide +kernel)⟩
 |bH k sg l r=>
  simp only[bp,Rep.az,aw.ar,aw.aD,Rep.au,Rep.aB] at h;obtain⟨a,xs,rfl,hS,_,_,rfl,rfl,_,_,rfl,rfl,_,_,rfl,rfl,vl,_,rfl,hl,vr,_,rfl,hr,rfl⟩:=h;refine⟨a,_,_,rfl,hS,by simp,fun _=>⟨sg,.bH k (PG.cL sg) l r,rfl,c.1,rfl,fun H4 tr p hp=>?_⟩,fun z=>absurd (.inl rfl) z,fun z=>absurd z (by decide +kernel),fun _=>rfl,fun z=>absurd z (by decide +kernel),fun _=>rfl,fun _=>⟨sg,_,rfl,c.1,rfl,rfl,⟨by simp,fun _ _=>trivial⟩,rfl⟩⟩;unfold bp;exact Rep.az.mpr ⟨p,_,rfl,hp,.cons (Rep.au.mpr rfl) (.cons (Rep.aB.mpr rfl) (.cons (Rep.au.mpr rfl) (.cons (tr _ _ hl) (.cons (tr _ _ hr) .nil))))⟩
 |ifs k sg l r x y=>
  unfold bp at h;rw[aI,aI,Rep.az] at h;simp only[aw.ar,aw.aD,Rep.au,Rep.aB] at h;obtain⟨a,xs,rfl,hS,_,_,rfl,rfl,_,_,rfl,rfl,_,_,rfl,rfl,vl,_,rfl,hl,vr,_,rfl,hr,vx,_,rfl,hx,vy,_,rfl,hy,rfl⟩:=h;refine⟨a,_,_,rfl,hS,by simp,fun _=>⟨sg,.ifs k (PG.cL sg) l r x y,rfl,c.1,rfl,fun H4 tr p hp=>?_⟩,fun z=>absurd (.inr (.inl rfl)) z,fun _=>⟨vl,vr,.ifs k sg r l x y,rfl,rfl,rfl,fun H4 tr p hp=>?_⟩,fun z=>absurd (.inl rfl) z,fun z=>absurd z (by decide +kernel),fun _=>rfl,fun _=>⟨sg,_,rfl,c.1,rfl,rfl,⟨by simp,fun _ _=>trivial⟩,rfl⟩⟩
  ·unfold bp;rw[aI,aI];exact Rep.az.mpr ⟨p,_,rfl,hp,.cons (Rep.au.mpr rfl) (.cons (Rep.aB.mpr rfl) (.cons (Rep.au.mpr rfl) (.cons (tr _ _ hl) (.cons (tr _ _ hr) (.cons (tr _ _ hx) (.cons (tr _ _ hy) .nil))))))⟩
  ·unfold bp;rw[aI,aI];exact Rep.az.mpr ⟨p,_,rfl,hp,.cons (Rep.au.mpr rfl) (.cons (Rep.aB.mpr rfl) (.cons (Rep.au.mpr rfl) (.cons (tr _ _ hr) (.cons (tr _ _ hl) (.cons (tr _ _ hx) (.cons (tr _ _ hy) .nil))))))⟩
 |cZ k sg l r x=>
  unfold bp at h;rw[aI,Rep.az] at h;simp only[aw.ar,aw.aD,Rep.au,Rep.aB] at h;obtain⟨a,xs,rfl,hS,_,_,rfl,rfl,_,_,rfl,rfl,_,_,rfl,rfl,vl,_,rfl,hl,vr,_,rfl,hr,vx,_,rfl,hx,rfl⟩:=h;refine⟨a,_,_,rfl,hS,by simp,fun _=>⟨sg,.cZ k (PG.cL sg) l r x,rfl,c.1,rfl,fun H4 tr p hp=>?_⟩,fun z=>absurd (.inr (.inr rfl)) z,fun _=>⟨vl,vr,.cZ k sg r l x,rfl,rfl,rfl,fun H4 tr p hp=>?_⟩,fun z=>absurd (.inr rfl) z,fun z=>absurd z (by decide +kernel),fun _=>rfl,fun _=>⟨sg,_,rfl,c.1,rfl,rfl,⟨by simp,fun _ _=>trivial⟩,rfl⟩⟩
  ·unfold bp;rw[aI];exact Rep.az.mpr ⟨p,_,rfl,hp,.cons (Rep.au.mpr rfl) (.cons (Rep.aB.mpr rfl) (.cons (Rep.au.mpr rfl) (.cons (tr _ _ hl) (.cons (tr _ _ hr) (.cons (tr _ _ hx) .nil)))))⟩
  ·unfold bp;rw[aI];exact Rep.az.mpr ⟨p,_,rfl,hp,.cons (Rep.au.mpr rfl) (.cons (Rep.aB.mpr rfl) (.cons (Rep.au.mpr rfl) (.cons (tr _ _ hr) (.cons (tr _ _ hl) (.cons (tr _ _ hx) .nil)))))⟩
end L2
namespace PG
open PM (W Tr)
def xT:List aF->List aF->List (List aF)
 |_,[]=>[]
 |pre,s::r=>((bM s).map fun o=>pre++o++r)++(((hX s).map fun x=>pre++[x]++r)++xT (pre++[s]) r)
theorem xU:∀(b pre:List aF),xT pre b=(fu b).map (pre ++ ·)
 |[],pre=>by rw[xT,fu];rfl
 |s::r,pre=>by
  rw[xT,fu,xU r,Zl,Zl,ZL,ZL,ZL];have e1:((fun x=>pre++x) ∘ fun o=>o++r)=fun o=>pre++o++r:=by funext o;simp
  have e2:((fun x=>pre++x) ∘ fun x=>x::r)=fun x=>pre++[x]++r:=by funext o;simp
  have e3:((fun x=>pre++x) ∘ fun x=>s::x)=fun x=>pre++[s]++x:=by funext o;simp
  rw[e1,e2,e3]
theorem D4(b:List aF):xT [] b=fu b:=by
 rw[xU];simp
theorem zi{α β:Type}{h:α->List β}{k:Nat}:∀(l:List α),(∀x∈l,(h x).length<=k)->(l.flatMap h).length<=k*l.length
 |[],_=>by simp
 |x::l,hh=>by
  have h1:=zi l fun y hy=>hh y (Zk _ hy);have h2:=hh x (Zt ..);rw[Xc,Zc,Ze,Nat.mul_succ];lia
end PG
namespace L2
open PySem PyProof.Rows
theorem AH(s:PG.aF)(c:xK s):(PG.bM s).length<=1000:=by
 have l:=xS s c;have h1:=PG.zi (h:=PG.eN) (k:=2) (PG.iT s) fun e _=>by
  obtain⟨p,u,g⟩:=e;cases u<;>simp[PG.eN]
  exact PG.kS _
 have h2:=PG.zi (h:=PG.eS) (k:=1) (PG.iT s) fun e _=>by
  obtain⟨p,u,g⟩:=e;cases u<;>simp[PG.eS]
 have h3:=PG.xO s;unfold PG.bM;rw[Zc,Zb,Zc,PG.GO,PG.GP];lia
mutual
theorem D5:∀s:PG.aF,(∀x∈PG.aP s,xK x)->(PG.hX s).length+1000<=1000*(PG.aP s).length
 |.ask ..,h=>by simp[PG.hX,PG.aP]
 |.put ..,h=>by simp[PG.hX,PG.aP]
 |.say ..,h=>by simp[PG.hX,PG.aP]
 |.stop ..,h=>by simp[PG.hX,PG.aP]
 |.bH ..,h=>by simp[PG.hX,PG.aP]
 |.ifs k sg l r a b,h=>by
  have h1:=kA a fun x hx=>h x (by rw[PG.aP];exact Zk _ (ZU _ hx));have h2:=kA b fun x hx=>h x (by rw[PG.aP];exact Zk _ (Zz _ hx));rw[PG.hX,PG.aP,Zc,Zb,Zb,Ze,Zc];lia
 |.cZ k sg l r a,h=>by
  have h1:=kA a fun x hx=>h x (by rw[PG.aP];exact Zk _ hx);rw[PG.hX,PG.aP,Zb,Ze];lia
theorem kA:∀b:List PG.aF,(∀x∈PG.aA b,xK x)->(PG.fu b).length<=1000*(PG.aA b).length
 |[],h=>by simp[PG.fu]
 |s::r,h=>by
  have hs:∀x∈PG.aP s,xK x:=fun x hx=>h x (by rw[PG.aA];exact ZU _ hx);have h1:=D5 s hs;have h2:=kA r fun x hx=>h x (by rw[PG.aA];exact Zz _ hx);have h3:=AH s (hs s (by obtain⟨q,e⟩:=PG.kr s;rw[e];exact Zt ..));rw[PG.fu,PG.aA,Zc,Zc,Zb,Zb,Zb,Zc];lia
end
structure Pf(K:Za)(H:Hp)(st:PG.aF)(xs:List V)(n:Nat)(bd:Nat->List PG.aF)(re:Nat->List PG.aF->PG.aF):Prop where
 len:xs.length<=7
 n_:xs.length-5=n
 at_:∀j,j<n->∃v,xs[5+j]?=some v/\Rep K H (pL (bd j)) v/\(∀x∈PG.aA (bd j),x∈PG.aP st)/\PG.bA (bd j)+1<=PG.cU st/\(PG.aA (bd j)).length<=(PG.aP st).length
 put:∀j,j<n->∀H4:Hp,(∀d v,Rep K H d v->Rep K H4 d v)->∀p v' x,bU K H4 p (xs.set (5+j) v')->Rep K H4 (pL x) v'->Rep K H4 (bp (re j x)) (.ref p)
 all:PG.hX st=(ZO n).flatMap fun j=>(PG.fu (bd j)).map (re j)
theorem Mf{K:Za}{H:Hp}{st:PG.aF}{v:V}(h:Rep K H (bp st) v):∃a xs n bd re,v=.ref a/\bU K H a xs/\Pf K H st xs n bd re:=by
 cases st with
 |ask k b=>
  simp only[bp,Rep.az,aw.ar,aw.aD,Rep.au,Rep.aB] at h;obtain⟨a,xs,rfl,hS,_,_,rfl,rfl,_,_,rfl,rfl,_,_,rfl,rfl,rfl⟩:=h;exact⟨a,_,0,fun _=>[],fun _ _=>.stop 0,rfl,hS,by simp,by simp,fun j hj=>by lia,fun j hj=>by lia,rfl⟩
 |stop k=>
  simp only[bp,Rep.az,aw.ar,aw.aD,Rep.au,Rep.aB] at h;obtain⟨a,xs,rfl,hS,_,_,rfl,rfl,_,_,rfl,rfl,rfl⟩:=h;exact⟨a,_,0,fun _=>[],fun _ _=>.stop 0,rfl,hS,by simp,by simp,fun j hj=>by lia,fun j hj=>by lia,rfl⟩
 |put k b e=>
  simp only[bp,Rep.az,aw.ar,aw.aD,Rep.au,Rep.aB] at h;obtain⟨a,xs,rfl,hS,_,_,rfl,rfl,_,_,rfl,rfl,_,_,rfl,rfl,ve,_,rfl,he,rfl⟩:=h;exact⟨a,_,0,fun _=>[],fun _ _=>.stop 0,rfl,hS,by simp,by simp,fun j hj=>by lia,fun j hj=>by lia,rfl⟩
 |say k e=>
  simp only[bp,Rep.az,aw.ar,aw.aD,Rep.au,Rep.aB] at h;obtain⟨a,xs,rfl,hS,_,_,rfl,rfl,_,_,rfl,rfl,ve,_,rfl,he,rfl⟩:=h;exact⟨a,_,0,fun _=>[],fun _ _=>.stop 0,rfl,hS,by simp,by simp,fun j hj=>by lia,fun j hj=>by lia,rfl⟩
 |bH k sg l r=>
  simp only[bp,Rep.az,aw.ar,aw.aD,Rep.au,Rep.aB] at h;obtain⟨a,xs,rfl,hS,_,_,rfl,rfl,_,_,rfl,rfl,_,_,rfl,rfl,vl,_,rfl,hl,vr,_,rfl,hr,rfl⟩:=h;exact⟨a,_,0,fun _=>[],fun _ _=>.stop 0,rfl,hS,by simp,by simp,fun j hj=>by lia,fun j hj=>by lia,rfl⟩
 |ifs k sg l r x y=>
  unfold bp at h;rw[aI,aI,Rep.az] at h;simp only[aw.ar,aw.aD,Rep.au,Rep.aB] at h;obtain⟨a,xs,rfl,hS,_,_,rfl,rfl,_,_,rfl,rfl,_,_,rfl,rfl,vl,_,rfl,hl,vr,_,rfl,hr,vx,_,rfl,hx,vy,_,rfl,hy,rfl⟩:=h;refine⟨a,_,2,fun j=>if j=0 then x else y,fun j z=>if j=0 then .ifs k sg l r z y else .ifs k sg l r x z,rfl,hS,by simp,by simp,fun j hj=>?_,fun j hj H4 tr p v' z hp hz=>?_,?_⟩
  ·obtain rfl |rfl:j=0\/j=1:=by lia
   ·exact⟨vx,rfl,hx,fun q hq=>by rw[PG.aP];exact Zk _ (ZU _ hq),by show PG.bA x+1<=max (PG.bA x) (PG.bA y)+1;lia,by show (PG.aA x).length<=(PG.aP (.ifs k sg l r x y)).length;rw[PG.aP,Ze,Zc];lia⟩
   ·exact⟨vy,rfl,hy,fun q hq=>by rw[PG.aP];exact Zk _ (Zz _ hq),by show PG.bA y+1<=max (PG.bA x) (PG.bA y)+1;lia,by show (PG.aA y).length<=(PG.aP (.ifs k sg l r x y)).length;rw[PG.aP,Ze,Zc];lia⟩
  ·obtain rfl |rfl:j=0\/j=1:=by lia
   ·show Rep K H4 (bp (.ifs k sg l r z y)) _;unfold bp;rw[aI,aI];exact Rep.az.mpr ⟨p,_,rfl,hp,.cons (Rep.au.mpr rfl) (.cons (Rep.aB.mpr rfl) (.cons (Rep.au.mpr rfl) (.cons (tr _ _ hl) (.cons (tr _ _ hr) (.cons hz (.cons (tr _ _ hy) .nil))))))⟩
   ·show Rep K H4 (bp (.ifs k sg l r x z)) _;unfold bp;rw[aI,aI];exact Rep.az.mpr ⟨p,_,rfl,hp,.cons (Rep.au.mpr rfl) (.cons (Rep.aB.mpr rfl) (.cons (Rep.au.mpr rfl) (.cons (tr _ _ hl) (.cons (tr _ _ hr) (.cons (tr _ _ hx) (.cons hz .nil))))))⟩
  ·rw[PG.hX];simp[ZO,ZO.loop]
 |cZ k sg l r x=>
  unfold bp at h;rw[aI,Rep.az] at h;simp only[aw.ar,aw.aD,Rep.au,Rep.aB] at h;obtain⟨a,xs,rfl,hS,_,_,rfl,rfl,_,_,rfl,rfl,_,_,rfl,rfl,vl,_,rfl,hl,vr,_,rfl,hr,vx,_,rfl,hx,rfl⟩:=h;refine⟨a,_,1,fun j=>x,fun j z=>.cZ k sg l r z,rfl,hS,by simp,by simp,fun j hj=>?_,fun j hj H4 tr p v' z hp hz=>?_,?_⟩
  ·obtain rfl:j=0:=by lia
   exact⟨vx,rfl,hx,fun q hq=>by rw[PG.aP];exact Zk _ hq,by show PG.bA x+1<=PG.bA x+1;lia,by rw[PG.aP,Ze];lia⟩
  ·obtain rfl:j=0:=by lia
   unfold bp;rw[aI];exact Rep.az.mpr ⟨p,_,rfl,hp,.cons (Rep.au.mpr rfl) (.cons (Rep.aB.mpr rfl) (.cons (Rep.au.mpr rfl) (.cons (tr _ _ hl) (.cons (tr _ _ hr) (.cons hz .nil)))))⟩
  ·rw[PG.hX];simp[ZO,ZO.loop]
def wq (K:Za) (n:Nat):Sp:=fun vs H Q _=>∃(v:V) (b:List PG.aF) (H0:Hp) (O:YE->Prop),vs=[v]/\ai H0 H/\Rep K H0 (pL b) v/\PG.bA b<n/\(∀s∈PG.aA b,xK s)/\(PG.aA b).length<=1000/\(∀g,O g->H0 g=none/\∃ys,H g=some (.lst ys))/\∀L us H',ai H H'->H L=none->H' L=some (.lst us)->aM K O H' ((PG.fu b).map pL) us->Q (.ref L) H'
end L2
namespace L2
open PySem PyProof.Rows
open Classical in
def xV (H:Hp) (O:YE->Prop):Hp:=fun c=>if O c then none else H c
theorem zj{H:Hp}{O:YE->Prop}:aE O H (xV H O):=fun b o n e=>by
 unfold xV;rw[if_neg n];exact e
theorem tH{H:Hp}{O:YE->Prop}{b:YE}{o:HO}(h:xV H O b=some o):¬O b/\H b=some o:=by
 unfold xV at h;by_cases z:O b
 ·rw[if_pos z] at h;cases h
 ·rw[if_neg z] at h;exact⟨z,h⟩
theorem zl{H:Hp}{O:YE->Prop}:ai (xV H O) H:=fun b o e=>(tH e).2
theorem pM:∀b:List PG.aF,b.length<=(PG.aA b).length
 |[]=>ZN _
 |s::r=>by
  have:=pM r;obtain⟨q,e⟩:=PG.kr s;rw[PG.aA,Zc,e,Ze,Ze];lia
theorem aw.GS{K:Za}{H:Hp}{ds:List Dp}{vs:List V}(h:aw K H ds vs)(i:Nat):aw K H (ds.take i) (vs.take i):=by
 induction i generalizing ds vs with
 |zero=>exact .nil
 |succ i ih=>
  cases ds with
  |nil=>cases aw.aD.mp h;exact .nil
  |cons d ds=>obtain⟨v,r,rfl,h1,h2⟩:=aw.ar.mp h;exact .cons h1 (ih h2)
theorem aw.GU{K:Za}{H:Hp}{ds:List Dp}{vs:List V}(h:aw K H ds vs)(i:Nat):aw K H (ds.drop i) (vs.drop i):=by
 induction i generalizing ds vs with
 |zero=>exact h
 |succ i ih=>
  cases ds with
  |nil=>cases aw.aD.mp h;exact .nil
  |cons d ds=>obtain⟨v,r,rfl,h1,h2⟩:=aw.ar.mp h;exact ih h2
theorem wt:∀ {b:List PG.aF} {s:PG.aF},s∈b->PG.cU s<=PG.bA b
 |x::r,s,h=>by
  rw[PG.bA];rcases Zf.mp h with rfl |h
  ·exact Nat.le_max_left _ _
  ·exact ZT (wt h) (Nat.le_max_right _ _)
theorem wu:∀ {b:List PG.aF} {s:PG.aF},s∈b->(PG.aP s).length<=(PG.aA b).length
 |x::r,s,h=>by
  rw[PG.aA,Zc];rcases Zf.mp h with rfl |h
  ·lia
  ·have:=wu h;lia
theorem xW{K:Za}{O:YE->Prop}{H:Hp}{ds:List Dp}{vs:List V}{i:Nat}{d:Dp}{v:V}(h:aM K O H ds vs)(hd:ds[i]?=some d)(hv:vs[i]?=some v):Fix K O H d v:=fun H4 u4=>by
 obtain⟨v',pN,r⟩:=(h H4 u4).get hd;rw[hv] at pN;cases pN;exact r
theorem GV{L:YE}{O:YE->Prop}{H H':Hp}(u:bw L H H'):aE (fun g=>O g\/g=L) H H':=fun b o n e=>u b o (fun z=>n (.inr z)) e
def Mg (K:Za) (H:Hp) (x:V) (no tu li:Prop):Prop:=((∃z,x=.str z)/\no)\/((∃i,x=.int i)/\no)\/((∃a l,x=.ref a/\bU K H a l)/\tu)\/((∃a l,x=.ref a/\gX K H a l)/\li)
def Mh (K:Za):List V->Hp->VK->Prop:=fun xs H Q=>∃x,xs=[x,.ty "list"]/\Mg K H x (Q (.bl false) H) (Q (.bl false) H) (Q (.bl true) H)
def Pg (K:Za):List V->Hp->VK->Prop:=fun xs H Q=>∃x,xs=[x,.ty "tuple"]/\Mg K H x (Q (.bl false) H) (Q (.bl true) H) (Q (.bl false) H)
def Mi (K:Za):List V->Hp->VK->Prop:=fun xs H Q=>∃x p,xs=[x,.ref p]/\bU K H p [.ty "list",.ty "tuple"]/\Mg K H x (Q (.bl false) H) (Q (.bl true) H) (Q (.bl true) H)
theorem Mj{K:Za}:ZZ K (.type "str") (.type "list")=some false:=by kernel_rfl
theorem Mk{K:Za}:ZZ K (.type "int") (.type "list")=some false:=by kernel_rfl
theorem Ml{K:Za}:ZZ K (.type "tuple") (.type "list")=some false:=by kernel_rfl
theorem Mn{K:Za}:ZZ K (.type "list") (.type "list")=some true:=by kernel_rfl
theorem Mo{K:Za}:ZZ K (.type "int") (.type "tuple")=some false:=by kernel_rfl
theorem Ph{K:Za}:WT K (.type "str") [.type "list",.type "tuple"]=some false:=by kernel_rfl
theorem Pj{K:Za}:WT K (.type "int") [.type "list",.type "tuple"]=some false:=by kernel_rfl
theorem Pk{K:Za}:WT K (.type "tuple") [.type "list",.type "tuple"]=some true:=by kernel_rfl
theorem Pl{K:Za}:WT K (.type "list") [.type "list",.type "tuple"]=some true:=by kernel_rfl
section
variable{X:Cx}
theorem D6{T:String}{bs bi bt bl:Bool}(es:∀K,ZZ K (.type "str") (.type T)=some bs)(ei:∀K,ZZ K (.type "int") (.type T)=some bi)(et:∀K,ZZ K (.type "tuple") (.type T)=some bt)(el:∀K,ZZ K (.type "list") (.type T)=some bl)(e0:bs=bi) :
 jl X (.builtin "isinstance") (fun xs H Q=>∃x,xs=[x,.ty T]/\Mg X.K H x (Q (.bl bs) H) (Q (.bl bt) H) (Q (.bl bl) H)):=by
 intro pins s σ H xs us Q I r h;obtain⟨x,rfl,h⟩:=h;obtain⟨u1,u2,rfl,r1,r2⟩:=vals2 r;cases (show u2=Value.type T from r2);rcases h with ⟨⟨z,rfl⟩,q⟩ |⟨⟨i,rfl⟩,q⟩ |⟨⟨a,l,rfl,hS⟩,q⟩ |⟨⟨a,l,rfl,hS⟩,q⟩
 ·exact uR I r1 (.str z) (es _) fun tk=>⟨.bl bs,H,I.tok tk,rfl,q⟩
 ·subst e0;exact uR I r1 (.int i) (ei _) fun tk=>⟨.bl bs,H,I.tok tk,rfl,q⟩
 ·cases (show u1=Value.ref a from r1);obtain⟨bC,_,⟨o,h1,h2,_⟩,_⟩:=I.tuple hS;exact Z1 WV I.rG ⟨o,h1,h2⟩ (et _) (fun z=>nomatch z) fun tk=>⟨.bl bt,H,I.tok tk,rfl,q⟩
 ·cases (show u1=Value.ref a from r1);obtain⟨bC,_,⟨o,n,h1,h2,_⟩,_⟩:=I.list hS;exact Z1 X0 I.rG ⟨o,h1,h2⟩ (el _) (fun z=>nomatch z) fun tk=>⟨.bl bl,H,I.tok tk,rfl,q⟩
theorem mB:jl X (.builtin "isinstance") (Mh X.K):=D6 (fun _=>Mj) (fun _=>Mk) (fun _=>Ml) (fun _=>Mn) rfl
theorem D7:jl X (.builtin "isinstance") (Pg X.K):=D6 (fun _=>LX) (fun _=>Mo) (fun _=>Ly) (fun _=>LY) rfl
theorem qC:jl X (.builtin "isinstance") (Mi X.K):=by
 intro pins s σ H xs us Q I r h;obtain⟨x,p,rfl,hp,h⟩:=h;obtain⟨u1,u2,rfl,r1,r2⟩:=vals2 r;cases (show u2=Value.ref p from r2);obtain⟨bC,rv,⟨o,k1,k2,n,k3⟩,_⟩:=I.tuple hp;obtain⟨t1,t2,rfl,q1,q2⟩:=vals2 rv;cases (show t1=Value.type "list" from q1);cases (show t2=Value.type "tuple" from q2);obtain⟨oc,dd,od,sl⟩:=o;cases (show oc=_ from k2);cases (show od=_ from k3);rcases h with ⟨⟨z,rfl⟩,q⟩ |⟨⟨i,rfl⟩,q⟩ |⟨⟨a,l,rfl,hS⟩,q⟩ |⟨⟨a,l,rfl,hS⟩,q⟩
 ·obtain⟨u,rfl⟩:∃u,u1=Value.str z u:=r1;exact WO PySem.W.kitx_str I.rG trivial k1 Ph (fun z=>nomatch z) fun tk=>⟨.bl false,H,I.tok tk,rfl,q⟩
 ·obtain⟨u,rfl⟩:∃u,u1=Value.int i u:=r1;exact WO PySem.W.kitx_int I.rG trivial k1 Pj (fun z=>nomatch z) fun tk=>⟨.bl false,H,I.tok tk,rfl,q⟩
 ·cases (show u1=Value.ref a from r1);obtain⟨bC,_,⟨o,h1,h2,_⟩,_⟩:=I.tuple hS;exact WO WV I.rG ⟨o,h1,h2⟩ k1 Pk (fun z=>nomatch z) fun tk=>⟨.bl true,H,I.tok tk,rfl,q⟩
 ·cases (show u1=Value.ref a from r1);obtain⟨bC,_,⟨o,n,h1,h2,_⟩,_⟩:=I.list hS;exact WO X0 I.rG ⟨o,h1,h2⟩ k1 Pl (fun z=>nomatch z) fun tk=>⟨.bl true,H,I.tok tk,rfl,q⟩
end
def EK:Nat->Dp->Prop
 |n+1,.tup ds=>ds.length<=2000/\∀d∈ds,EK n d
 |n+1,.lst ds=>ds.length<=2000/\∀d∈ds,EK n d
 |_+1,.str _=>True
 |_+1,.int _=>True
 |_,_=>False
def wx (K:Za) (n:Nat):Sp:=fun vs H Q _=>∃(v:V) (d:Dp) (H0:Hp) (O:YE->Prop),vs=[v]/\ai H0 H/\Rep K H0 d v/\EK n d/\(∀g,O g->H0 g=none/\∃ys,H g=some (.lst ys))/\∀v' H',ai H H'->Fix K O H' d v'->Q v' H'
section
variable{K:Za}{a D:YE}{xs:List V}{te:TE}{Q:VK}{r:St}{H:Hp}{O:YE->Prop}{ds:List Dp}
theorem BG(L5:O D)(hO:∀g,O g->g=D\/∃ys,H g=some (.lst ys))(hS:gX K H a xs)(lx:xs.length=ds.length)(hl:xs.length<=16000000)(hD:H D=none)
 (step:∀(i:Nat) x d H2,ds[i]?=some d->xs[i]?=some x->ai H H2->(∀g,O g->∃ys,H2 g=some (.lst ys))->∀R:VK,(∀v H3,ai H2 H3->Fix K O H3 d v->R v H3)->te (some x::r) H2 R)
 (q:∀ys H2,ai H H2->H2 D=some (.lst ys)->aM K O H2 ds ys->Q (.ref D) H2):eX (qe K a) D (bV 0) iO te Q (none::r) (upd H D (.lst [])):=by
 refine Bw (K:=K) (fun τ=>∃y,τ=y::r) (fun i ys H2=>aM K O H2 (ds.take i) ys) hS hl hD ⟨_,rfl⟩ aM.nil ?_ ?_
 ·intro i x ys τ H2 hx hτ s2 jI ly pv R hR;obtain⟨y,rfl⟩:=hτ;have li:i<ds.length:=by have:=(Zi.mp hx).1;lia
  refine step i x ds[i] H2 (Zd li) hx s2 (fun g hg=>(hO g hg).elim (fun e=>by rw[e];exact⟨_,jI⟩) fun ⟨zs,e⟩=>⟨zs,s2 _ _ e⟩) (R (some x::r)) fun v H3 s3 fv=>hR _ _ _ ⟨_,rfl⟩ s3 ?_;rw[ZV,Zd li];exact((pv.up (.of s3)).snoc fv).up (aE.put (O:=O) aE.refl L5 _)
 ·intro ys H2 s2 jI _ pv;rw[lx,Zw] at pv;exact q ys H2 s2 jI pv
theorem BH(L5:O D)(hO:∀g,O g->g=D\/∃ys,H g=some (.lst ys))(hS:bU K H a xs)(lx:xs.length=ds.length)(hl:xs.length<=16000000)(hD:H D=none)
 (step:∀(i:Nat) x d H2,ds[i]?=some d->xs[i]?=some x->ai H H2->(∀g,O g->∃ys,H2 g=some (.lst ys))->∀R:VK,(∀v H3,ai H2 H3->Fix K O H3 d v->R v H3)->te (some x::r) H2 R)
 (q:∀ys H2,ai H H2->H2 D=some (.lst ys)->aM K O H2 ds ys->Q (.ref D) H2):eX (Cf K a) D (bV 0) iO te Q (none::r) (upd H D (.lst [])):=by
 refine Bx (K:=K) (fun τ=>∃y,τ=y::r) (fun i ys H2=>aM K O H2 (ds.take i) ys) hS hl hD ⟨_,rfl⟩ aM.nil ?_ ?_
 ·intro i x ys τ H2 hx hτ s2 jI ly pv R hR;obtain⟨y,rfl⟩:=hτ;have li:i<ds.length:=by have:=(Zi.mp hx).1;lia
  refine step i x ds[i] H2 (Zd li) hx s2 (fun g hg=>(hO g hg).elim (fun e=>by rw[e];exact⟨_,jI⟩) fun ⟨zs,e⟩=>⟨zs,s2 _ _ e⟩) (R (some x::r)) fun v H3 s3 fv=>hR _ _ _ ⟨_,rfl⟩ s3 ?_;rw[ZV,Zd li];exact((pv.up (.of s3)).snoc fv).up (aE.put (O:=O) aE.refl L5 _)
 ·intro ys H2 s2 jI _ pv;rw[lx,Zw] at pv;exact q ys H2 s2 jI pv
end
def AI (K:Za) (H:Hp):Nat->V->List YE->Prop
 |0,_,_=>False
 |n+1,v,F=>(((∃z,v=.str z)\/∃i,v=.int i)/\F=[])\/
  (∃(a:YE) (xs:List V) (Fs:List (List YE)),v=.ref a/\bU K H a xs/\xs.length<=2000/\Fs.length=xs.length/\(∀(i:Nat) x G,xs[i]?=some x->Fs[i]?=some G->AI K H n x G)/\F=Fs.flatten)\/
  ∃(a:YE) (xs:List V) (Fs:List (List YE)),v=.ref a/\H a=some (.lst xs)/\xs.length<=2000/\Fs.length=xs.length/\(∀(i:Nat) x G,xs[i]?=some x->Fs[i]?=some G->AI K H n x G)/\F=a::Fs.flatten
theorem AI.mono{K:Za}{H H':Hp}(s:ai H H'):∀ {n:Nat} {v:V} {F:List YE},AI K H n v F->AI K H' n v F
 |0,_,_,h=>h.elim
 |n+1,v,F,h=>by
  rcases h with h |⟨a,xs,Fs,e,hS,l,lf,hh,eF⟩ |⟨a,xs,Fs,e,hS,l,lf,hh,eF⟩
  ·exact .inl h
  ·exact .inr (.inl ⟨a,xs,Fs,e,s.a7 hS,l,lf,fun i x G h1 h2=>(hh i x G h1 h2).mono s,eF⟩)
  ·exact .inr (.inr ⟨a,xs,Fs,e,s _ _ hS,l,lf,fun i x G h1 h2=>(hh i x G h1 h2).mono s,eF⟩)
def rS (K:Za) (n:Nat):Sp:=fun vs H Q _=>∃(v:V) (F:List YE),vs=[v]/\AI K H n v F/\F.length<=1000000/\∀L H',ai H H'->H L=none->H' L=some (.lst (F.map V.ref))->Q (.ref L) H'
theorem AJ{α:Type}(Fs:List (List α))(i:Nat):((Fs.take i).flatten).length<=Fs.flatten.length:=by
 have:=congrArg (fun l=>l.flatten.length) (Xm i Fs);simp only[ZC,Zc] at this;lia
end L2
namespace PG
open PM (W Tr)
def xX:Tr->Prop
 |.num _=>True
 |.box x=>x∈cG
 |.bin o l r=>o∈([[43],[45],[42]]:List W)/\xX l/\xX r
theorem FV{o:W}(h:o∈([[43],[45],[42]]:List W)):cL o∈([[43],[45],[42]]:List W):=by
 simp at h;rcases h with rfl |rfl |rfl<;>decide
theorem wz{o:W}(h:o∈px):cL o∈px:=by
 simp[px] at h;rcases h with rfl |rfl<;>decide
theorem zm:∀t:Tr,xX t->∀x∈eC t,xX x/\cB x=cB t
 |.num n,h,x,hx=>by
  obtain⟨m,_,rfl⟩:=Zp.mp hx;exact⟨trivial,rfl⟩
 |.box _,h,x,hx=>by cases hx
 |.bin o l r,h,x,hx=>by
  rw[eC] at hx;rcases Zg.mp hx with hx |hx
  ·obtain⟨y,hy,rfl⟩:=Zp.mp hx;obtain⟨h1,h2⟩:=zm l h.2.1 y hy;exact⟨⟨h.1,h1,h.2.2⟩,by rw[cB,cB,h2]⟩
  ·obtain⟨y,hy,rfl⟩:=Zp.mp hx;obtain⟨h1,h2⟩:=zm r h.2.2 y hy;exact⟨⟨h.1,h.2.1,h1⟩,by rw[cB,cB,h2]⟩
theorem zo:∀t:Tr,xX t->∀x∈eW t,xX x/\cB x=cB t
 |.num n,h,x,hx=>by cases hx
 |.box _,h,x,hx=>by cases hx
 |.bin o l r,h,x,hx=>by
  rw[eW] at hx;rcases Zg.mp hx with hx |hx
  ·obtain⟨y,hy,rfl⟩:=Zp.mp hx;obtain⟨h1,h2⟩:=zo l h.2.1 y hy;exact⟨⟨h.1,h1,h.2.2⟩,by rw[cB,cB,h2]⟩
  ·rcases Zf.mp hx with rfl |hx
   ·exact⟨⟨FV h.1,h.2.1,h.2.2⟩,rfl⟩
   ·obtain⟨y,hy,rfl⟩:=Zp.mp hx;obtain⟨h1,h2⟩:=zo r h.2.2 y hy;exact⟨⟨h.1,h.2.1,h1⟩,by rw[cB,cB,h2]⟩
abbrev AK:aF->Prop:=xw (·∈cG) (fun e=>xX e/\cB e<=3) (·∈px)
abbrev oN:List aF->Prop:=Ag (·∈cG) (fun e=>xX e/\cB e<=3) (·∈px)
theorem D8{f:Tr->List Tr}(hf:∀t,xX t->∀x∈f t,xX x/\cB x=cB t)(s:aF)(h:AK s):∀x∈eO f s,AK x:=by
 have hf:∀t,xX t/\cB t<=3->∀x∈f t,xX x/\cB x<=3:=fun t ht x hx=>by obtain⟨h1,h2⟩:=hf t ht.1 x hx;exact⟨h1,by rw[h2];exact ht.2⟩
 intro x hx;cases s with
 |ask=>cases hx
 |stop=>cases hx
 |put k b e=>
  obtain⟨y,hy,rfl⟩:=Zp.mp hx;exact⟨h.1,hf _ h.2 y hy⟩
 |say k e=>
  obtain⟨y,hy,rfl⟩:=Zp.mp hx;exact hf _ h y hy
 |bH k sg l r=>
  rcases Zg.mp hx with hx |hx
  ·obtain⟨y,hy,rfl⟩:=Zp.mp hx;exact⟨h.1,hf _ h.2.1 y hy,h.2.2⟩
  ·obtain⟨y,hy,rfl⟩:=Zp.mp hx;exact⟨h.1,h.2.1,hf _ h.2.2 y hy⟩
 |ifs k sg l r a b=>
  rcases Zg.mp hx with hx |hx
  ·obtain⟨y,hy,rfl⟩:=Zp.mp hx;exact⟨h.1,hf _ h.2.1 y hy,h.2.2⟩
  ·obtain⟨y,hy,rfl⟩:=Zp.mp hx;exact⟨h.1,h.2.1,hf _ h.2.2.1 y hy,h.2.2.2⟩
 |cZ k sg l r a=>
  rcases Zg.mp hx with hx |hx
  ·obtain⟨y,hy,rfl⟩:=Zp.mp hx;exact⟨h.1,hf _ h.2.1 y hy,h.2.2⟩
  ·obtain⟨y,hy,rfl⟩:=Zp.mp hx;exact⟨h.1,h.2.1,hf _ h.2.2.1 y hy,h.2.2.2⟩
theorem D9(s:aF)(h:AK s):∀o∈bM s,oN o:=by
 intro o ho;unfold bM at ho;rcases Zg.mp ho with ho |ho
 ·obtain⟨x,hx,rfl⟩:=Zp.mp ho;refine⟨?_,trivial⟩;rcases Zg.mp hx with hx |hx
  ·exact D8 zm s h x hx
  ·exact D8 zo s h x hx
 ·rcases Zg.mp ho with ho |ho
  ·cases s with
   |bH k sg l r=>cases Zh.mp ho;exact⟨⟨wz h.1,h.2⟩,trivial⟩
   |ifs k sg l r a b=>cases Zh.mp ho;exact⟨⟨wz h.1,h.2⟩,trivial⟩
   |cZ k sg l r a=>cases Zh.mp ho;exact⟨⟨wz h.1,h.2⟩,trivial⟩
   |_=>cases ho
  ·rcases Zg.mp ho with ho |ho
   ·cases s with
    |ifs k sg l r a b=>cases Zh.mp ho;exact⟨⟨h.1,h.2.2.1,h.2.1,h.2.2.2⟩,trivial⟩
    |cZ k sg l r a=>cases Zh.mp ho;exact⟨⟨h.1,h.2.2.1,h.2.1,h.2.2.2⟩,trivial⟩
    |_=>cases ho
   ·cases s with
    |put=>cases Zh.mp ho;exact trivial
    |say=>cases Zh.mp ho;exact trivial
    |_=>cases ho
mutual
theorem Jm:∀s:aF,AK s->∀x∈hX s,AK x/\cU x<=cU s
 |.ask ..,h,x,hx=>by cases hx
 |.put ..,h,x,hx=>by cases hx
 |.say ..,h,x,hx=>by cases hx
 |.stop ..,h,x,hx=>by cases hx
 |.bH ..,h,x,hx=>by cases hx
 |.ifs k sg l r a b,h,x,hx=>by
  rw[hX] at hx;rcases Zg.mp hx with hx |hx
  ·obtain⟨y,hy,rfl⟩:=Zp.mp hx;obtain⟨h1,h2⟩:=tI a h.2.2.2.1 y hy;exact⟨⟨h.1,h.2.1,h.2.2.1,h1,h.2.2.2.2⟩,by show max (bA y) (bA b)+1<=max (bA a) (bA b)+1;lia⟩
  ·obtain⟨y,hy,rfl⟩:=Zp.mp hx;obtain⟨h1,h2⟩:=tI b h.2.2.2.2 y hy;exact⟨⟨h.1,h.2.1,h.2.2.1,h.2.2.2.1,h1⟩,by show max (bA a) (bA y)+1<=max (bA a) (bA b)+1;lia⟩
 |.cZ k sg l r a,h,x,hx=>by
  rw[hX] at hx;obtain⟨y,hy,rfl⟩:=Zp.mp hx;obtain⟨h1,h2⟩:=tI a h.2.2.2 y hy;exact⟨⟨h.1,h.2.1,h.2.2.1,h1⟩,by show bA y+1<=bA a+1;lia⟩
theorem tI:∀b:List aF,oN b->∀x∈fu b,oN x/\bA x<=bA b
 |[],h,x,hx=>by cases hx
 |s::r,h,x,hx=>by
  rw[fu] at hx;rcases Zg.mp hx with hx |hx
  ·obtain⟨o,ho,rfl⟩:=Zp.mp hx;refine⟨rN _ _ (D9 s h.1 o ho) h.2,?_⟩;obtain⟨l1,hd⟩:=jJ o ho;have:bA o<=cU s:=by
    match o,l1,hd with
    |[],_,_=>exact ZN _
    |[y],_,hd=>rw[bA,bA,(hd y (Zh.mpr rfl)).1];simp
   rw[pz,bA];lia
  ·rcases Zg.mp hx with hx |hx
   ·obtain⟨y,hy,rfl⟩:=Zp.mp hx;obtain⟨h1,h2⟩:=Jm s h.1 y hy;exact⟨⟨h1,h.2⟩,by rw[bA,bA];lia⟩
   ·obtain⟨y,hy,rfl⟩:=Zp.mp hx;obtain⟨h1,h2⟩:=tI r h.2 y hy;exact⟨⟨h.1,h1⟩,by rw[bA,bA];lia⟩
end
end PG
namespace L2
open PySem
open PG (AK oN)
theorem wA:∀b∈PG.cG,PyData.canLay0 (.str (S b))=true:=by decide +kernel
theorem cw_T:∀t:PM.Tr,PG.xX t->(cR t).py.canLay0=true/\(cR t).py.depth<=PG.cB t+1
 |.num n,h=>by
  simp only[cR,Dp.py,Dp.lW,PyData.canLay0,PyData.canLayAll0,PyData.depth,PyData.depthAll];exact⟨by decide +kernel,by simp⟩
 |.box x,h=>by
  rw[PG.xX] at h;have:=wA x h;simp only[PyData.canLay0] at this;simp only[cR,Dp.py,Dp.lW,PyData.canLay0,PyData.canLayAll0,PyData.depth,PyData.depthAll,this];exact⟨by decide +kernel,by simp⟩
 |.bin o l r,h=>by
  rw[PG.xX] at h;have e:=IL o h.1;simp only[PyData.canLay0] at e;obtain⟨l1,l2⟩:=cw_T l h.2.1;obtain⟨r1,r2⟩:=cw_T r h.2.2;simp only[cR,Dp.py,Dp.lW,PyData.canLay0,PyData.canLayAll0,PyData.depth,PyData.depthAll,e,l1,r1,PG.cB];exact⟨rfl,by lia⟩
mutual
theorem cw_S:∀s:PG.aF,AK s->(bp s).py.canLay0=true/\(bp s).py.depth<=2*PG.cU s+5
 |.ask k b,h=>by
  simp only[PG.xw] at h;have e:=wA b h;simp only[PyData.canLay0] at e;simp only[bp,Dp.py,Dp.lW,PyData.canLay0,PyData.canLayAll0,PyData.depth,PyData.depthAll,e];exact⟨by decide +kernel,by lia⟩
 |.put k b x,h=>by
  simp only[PG.xw] at h;have e:=wA b h.1;simp only[PyData.canLay0] at e;obtain⟨l1,l2⟩:=cw_T x h.2.1;have:=h.2.2;simp only[bp,Dp.py,Dp.lW,PyData.canLay0,PyData.canLayAll0,PyData.depth,PyData.depthAll,e,l1];exact⟨by decide +kernel,by lia⟩
 |.say k x,h=>by
  simp only[PG.xw] at h;obtain⟨l1,l2⟩:=cw_T x h.1;have:=h.2;simp only[bp,Dp.py,Dp.lW,PyData.canLay0,PyData.canLayAll0,PyData.depth,PyData.depthAll,l1];exact⟨by decide +kernel,by lia⟩
 |.bH k sg l r,h=>by
  simp only[PG.xw] at h;have e:=yT sg h.1;simp only[PyData.canLay0] at e;obtain⟨l1,l2⟩:=cw_T l h.2.1.1;obtain⟨r1,r2⟩:=cw_T r h.2.2.1;have:=h.2.1.2;have:=h.2.2.2;simp only[bp,Dp.py,Dp.lW,PyData.canLay0,PyData.canLayAll0,PyData.depth,PyData.depthAll,e,l1,r1];exact⟨by decide +kernel,by lia⟩
 |.stop k,h=>by
  simp only[bp,Dp.py,Dp.lW,PyData.canLay0,PyData.canLayAll0,PyData.depth,PyData.depthAll];exact⟨by decide +kernel,by lia⟩
 |.ifs k sg l r a b,h=>by
  simp only[PG.xw] at h;have e:=yT sg h.1;simp only[PyData.canLay0] at e;obtain⟨l1,l2⟩:=cw_T l h.2.1.1;obtain⟨r1,r2⟩:=cw_T r h.2.2.1.1;obtain⟨a1,a2⟩:=cw_Ss a h.2.2.2.1;obtain⟨b1,b2⟩:=cw_Ss b h.2.2.2.2;have:=h.2.1.2;have:=h.2.2.1.2;simp only[bp,Dp.py,Dp.lW,PyData.canLay0,PyData.canLayAll0,PyData.depth,PyData.depthAll,e,l1,r1,a1,b1,PG.cU];exact⟨by decide +kernel,by lia⟩
 |.cZ k sg l r a,h=>by
  simp only[PG.xw] at h;have e:=yT sg h.1;simp only[PyData.canLay0] at e;obtain⟨l1,l2⟩:=cw_T l h.2.1.1;obtain⟨r1,r2⟩:=cw_T r h.2.2.1.1;obtain⟨a1,a2⟩:=cw_Ss a h.2.2.2;have:=h.2.1.2;have:=h.2.2.1.2;simp only[bp,Dp.py,Dp.lW,PyData.canLay0,PyData.canLayAll0,PyData.depth,PyData.depthAll,e,l1,r1,a1,PG.cU];exact⟨by decide +kernel,by lia⟩
theorem cw_Ss:∀b:List PG.aF,oN b->PyData.canLayAll0 (Dp.lW (uf b))=true/\PyData.depthAll (Dp.lW (uf b))<=2*PG.bA b+5
 |[],h=>by simp[uf,Dp.lW,PyData.canLayAll0,PyData.depthAll]
 |s::r,h=>by
  simp only[PG.Ag] at h;obtain⟨a1,a2⟩:=cw_S s h.1;obtain⟨b1,b2⟩:=cw_Ss r h.2;simp only[uf,Dp.lW,PyData.canLayAll0,PyData.depthAll,a1,b1,PG.bA];exact⟨rfl,by lia⟩
end
end L2
namespace PG
open PM (W Tr)
mutual
theorem Ea:∀s:aF,∀x∈hX s,(aP x).length<=(aP s).length
 |.ask ..,x,hx=>by cases hx
 |.put ..,x,hx=>by cases hx
 |.say ..,x,hx=>by cases hx
 |.stop ..,x,hx=>by cases hx
 |.bH ..,x,hx=>by cases hx
 |.ifs k sg l r a b,x,hx=>by
  rw[hX] at hx;rcases Zg.mp hx with hx |hx
  ·obtain⟨y,hy,rfl⟩:=Zp.mp hx;have:=mC a y hy;rw[aP,aP,Ze,Ze,Zc,Zc];lia
  ·obtain⟨y,hy,rfl⟩:=Zp.mp hx;have:=mC b y hy;rw[aP,aP,Ze,Ze,Zc,Zc];lia
 |.cZ k sg l r a,x,hx=>by
  rw[hX] at hx;obtain⟨y,hy,rfl⟩:=Zp.mp hx;have:=mC a y hy;rw[aP,aP,Ze,Ze];lia
theorem mC:∀b:List aF,∀x∈fu b,(aA x).length<=(aA b).length
 |[],x,hx=>by cases hx
 |s::r,x,hx=>by
  rw[fu] at hx;rcases Zg.mp hx with hx |hx
  ·obtain⟨o,ho,rfl⟩:=Zp.mp hx;obtain⟨l1,hd⟩:=jJ o ho;have:(aA o).length<=(aP s).length:=by
    match o,l1,hd with
    |[],_,_=>exact ZN _
    |[y],_,hd=>
     have e:=(hd y (Zh.mpr rfl)).2;have k:∀z:aF,(aP z).length=(cK z).length:=fun z=>by
      have:=L2.sN [z];rw[aA,aA,Zr,fI,fI,Zr] at this;exact this
     rw[aA,aA,Zr,k,k,e];exact Zn _
   rw[i6,aA,Zc,Zc];lia
  ·rcases Zg.mp hx with hx |hx
   ·obtain⟨y,hy,rfl⟩:=Zp.mp hx;have:=Ea s y hy;rw[aA,aA,Zc,Zc];lia
   ·obtain⟨y,hy,rfl⟩:=Zp.mp hx;have:=mC r y hy;rw[aA,aA,Zc,Zc];lia
end
end PG
namespace L2
open PySem
open PG (AK oN)
theorem pO{α β:Type}:∀l:List β,(l.map fun _=>([]:List α)).flatten=[]
 |[]=>rfl
 |_::l=>by rw[ZD,ZG,pO l];rfl
theorem pP:∀ {ds:List Dp},pC ds=true->∀d∈ds,Al d=true
 |e::ds,h,d,hd=>by
  rw[pC,Z8] at h;rcases Zf.mp hd with rfl |hd
  ·exact h.1
  ·exact pP h.2 d hd
theorem wC{K:Za}{H:Hp}:∀(n:Nat) (d:Dp) (v:V),Al d=true->EK n d->Rep K H d v->AI K H n v []
 |0,d,v,_,h,_=>by cases d<;>exact h.elim
 |n+1,d,v,hn,h,r=>by
  cases d with
  |str z=>exact .inl ⟨.inl ⟨z,Rep.au.mp r⟩,rfl⟩
  |int z=>exact .inl ⟨.inr ⟨z,Rep.aB.mp r⟩,rfl⟩
  |f9=>exact h.elim
  |bl b=>exact h.elim
  |lst ds=>rw[Al] at hn;cases hn
  |tup ds=>
   obtain⟨a,xs,rfl,hS,rs⟩:=Rep.az.mp r;obtain⟨l2,hd⟩:=h;rw[Al] at hn;have lx:xs.length=ds.length:=rs.length;refine .inr (.inl ⟨a,xs,xs.map fun _=>[],rfl,hS,by lia,by rw[Zb],fun i x G hx hG=>?_,(pO _).symm⟩);rw[Zq,hx] at hG;cases hG;have li:i<ds.length:=by have:=(Zi.mp hx).1;lia
   obtain⟨x',xD,rx⟩:=rs.get (i:=i) (d:=ds[i]) (Zd li);rw[hx] at xD;cases xD;exact wC n _ x (pP hn _ (Zu li)) (hd _ (Zu li)) rx
theorem wD{α β γ:Type}{R:α->β->γ->Prop}:∀ {as:List α} {bs:List β} {cs:List γ},bB R as bs cs->as.length=bs.length/\cs.length=bs.length/\∀(i:Nat) x G,bs[i]?=some x->cs[i]?=some G->∃a∈as,R a x G
 |[],bs,cs,h=>by obtain⟨rfl,rfl⟩:=bB.aD.mp h;exact⟨rfl,rfl,fun i x G h=>by simp at h⟩
 |a::as,bs,cs,h=>by
  obtain⟨b,bs,c,cs,rfl,rfl,h1,h2⟩:=bB.ar.mp h;obtain⟨l1,l2,h3⟩:=wD h2;refine⟨by rw[Ze,Ze,l1],by rw[Ze,Ze,l2],fun i x G hx hG=>?_⟩;cases i with
  |zero=>cases hx;cases hG;exact⟨a,Zt ..,h1⟩
  |succ i=>obtain⟨a',m,r⟩:=h3 i x G hx hG;exact⟨a',Zk _ m,r⟩
theorem Eb:∀(t:PM.Tr) (n:Nat),PG.cB t+2<=n->EK n (cR t)
 |.num m,n,h=>by
  obtain⟨k,rfl⟩:∃k,n=k+1+1:=⟨n-2,by lia⟩
  refine⟨by simp,fun d hd=>?_⟩;simp at hd;rcases hd with rfl |rfl<;>trivial
 |.box m,n,h=>by
  obtain⟨k,rfl⟩:∃k,n=k+1+1:=⟨n-2,by lia⟩
  refine⟨by simp,fun d hd=>?_⟩;simp at hd;rcases hd with rfl |rfl<;>trivial
 |.bin o l r,n,h=>by
  rw[PG.cB] at h;obtain⟨k,rfl⟩:∃k,n=k+1+1:=⟨n-2,by lia⟩
  unfold cR;refine⟨by simp,fun d hd=>?_⟩;simp at hd;rcases hd with rfl |rfl |rfl
  ·trivial
  ·exact Eb l _ (by lia)
  ·exact Eb r _ (by lia)
theorem zp(s:PG.aF)(h:AK s)(n:Nat)(hn:5<=n):∀d∈rL s,EK n d:=by
 obtain⟨k,rfl⟩:∃k,n=k+1:=⟨n-1,by lia⟩
 have e:∀t:PM.Tr,PG.xX t/\PG.cB t<=3->EK (k+1) (cR t):=fun t h=>Eb t _ (by have:=h.2;lia);intro d hd;cases s with
 |ask k b=>simp[rL] at hd;rcases hd with rfl |rfl |rfl<;>trivial
 |stop k=>simp[rL] at hd;rcases hd with rfl |rfl<;>trivial
 |put k b t=>
  simp[rL] at hd;rcases hd with rfl |rfl |rfl |rfl
  ·trivial
  ·trivial
  ·trivial
  ·exact e _ h.2
 |say k t=>
  simp[rL] at hd;rcases hd with rfl |rfl |rfl
  ·trivial
  ·trivial
  ·exact e _ h
 |bH k sg l r=>
  simp[rL] at hd;rcases hd with rfl |rfl |rfl |rfl |rfl
  ·trivial
  ·trivial
  ·trivial
  ·exact e _ h.2.1
  ·exact e _ h.2.2
 |ifs k sg l r a b=>
  simp[rL] at hd;rcases hd with rfl |rfl |rfl |rfl |rfl
  ·trivial
  ·trivial
  ·trivial
  ·exact e _ h.2.1
  ·exact e _ h.2.2.1
 |cZ k sg l r a=>
  simp[rL] at hd;rcases hd with rfl |rfl |rfl |rfl |rfl
  ·trivial
  ·trivial
  ·trivial
  ·exact e _ h.2.1
  ·exact e _ h.2.2.1
end L2
namespace L2
open PySem
open PG (AK oN)
theorem pQ:∀ {b:List PG.aF} {s:PG.aF},oN b->s∈b->AK s
 |x::r,s,h,hs=>by
  rcases Zf.mp hs with rfl |hs
  ·exact h.1
  ·exact pQ h.2 hs
theorem Ec{s:PG.aF}(h:AK s):∀b∈aC s,oN b:=by
 intro b hb;cases s with
 |ifs k sg l r a c=>
  simp[aC] at hb;rcases hb with rfl |rfl
  ·exact h.2.2.2.1
  ·exact h.2.2.2.2
 |cZ k sg l r a=>
  simp[aC] at hb;cases hb;exact h.2.2.2
 |_=>simp[aC] at hb
theorem rT(s:PG.aF):(aC s).length<=2:=by cases s<;>simp[aC]
theorem Ed{K:Za}{H:Hp}:∀(n:Nat) (body:List PG.aF) (b:YE) (F:List YE),jT K H n body b F->F.length<=1+2*(PG.aA body).length
 |0,_,_,_,h=>h.elim
 |n+1,body,b,F,h=>by
  obtain⟨vs,Fs,hb,all,rfl⟩:=fP.mp h;have k2:∀ {as:List (List PG.aF)} {bs:List YE} {cs:List (List YE)},bB (jT K H n) as bs cs->cs.flatten.length<=as.length+2*(as.flatMap PG.aA).length:=by
   intro as
   induction as with
   |nil=>intro bs cs h;obtain⟨rfl,rfl⟩:=bB.aD.mp h;simp
   |cons a as ih=>
    intro bs cs h;obtain⟨b',An,c,Ao,rfl,rfl,h1,h2⟩:=bB.ar.mp h;have e1:=Ed n a b' c h1;have e2:=ih h2;rw[ZG,Zc,Ze,Xc,Zc];lia
  have k1:∀ {as:List PG.aF} {bs:List V} {cs:List (List YE)},bB (wW K H n) as bs cs->cs.flatten.length<=2*(PG.aA as).length:=by
   intro as
   induction as with
   |nil=>intro bs cs h;obtain⟨rfl,rfl⟩:=bB.aD.mp h;simp
   |cons a as ih=>
    intro bs cs h;obtain⟨b',An,c,Ao,rfl,rfl,h1,h2⟩:=bB.ar.mp h;obtain⟨a',hs,bb,Gs,rfl,q,r,al,rfl⟩:=h1;have e1:=k2 al;have e2:=ih h2;have e3:=rT a;rw[ZG,Zc,PG.aA,Zc,vZ,Ze];lia
  have:=k1 all;rw[Ze];lia
theorem GW{K:Za}{H:Hp}:∀(n:Nat) (body:List PG.aF) (b:YE) (F:List YE),jT K H n body b F->oN body->(PG.aA body).length<=1000->AI K H (2*n+5) (.ref b) F
 |0,_,_,_,h,_,_=>h.elim
 |n+1,body,b,F,h,ok,l1=>by
  obtain⟨vs,Fs,hb,all,rfl⟩:=fP.mp h;obtain⟨e1,e2,e3⟩:=wD all;have lb:=pM body;refine .inr (.inr ⟨b,vs,Fs,rfl,hb,by lia,e2,fun i x G hx hG=>?_,rfl⟩);obtain⟨s,ms,a,hs,bs,Gs,rfl,q,r,al,rfl⟩:=e3 i x G hx hG;obtain⟨f1,f2,f3⟩:=wD al;have oA:=pQ ok ms;have hl:=pD s;have bf:=rT s;have lh:hs.length=(rL s).length:=r.length;show AI K H (2*n+6+1-1) (.ref a) Gs.flatten;refine .inr (.inl ⟨a,hs++bs.map V.ref,(hs.map fun _=>[])++Gs,rfl,q,by rw[Zc,Zb];lia,by rw[Zc,Zc,Zb,Zb,f2],fun j x G hx hG=>?_,by rw[ZC,pO];rfl⟩);by_cases hj:j<hs.length
  ·rw[Xe hj] at hx;rw[Xe (by rw[Zb];exact hj),Zq,hx] at hG;cases hG;obtain⟨x',xD,rx⟩:=r.get (i:=j) (d:=(rL s)[j]'(by lia)) (Zd _);rw[hx] at xD;cases xD;exact wC _ _ x (pP (v7 s) _ (Zu _)) (zp s oA _ (by lia) _ (Zu _)) rx
  ·rw[Z3 (by lia),Zq] at hx;rw[Z3 (by rw[Zb];lia),Zb] at hG;obtain⟨b',JS,rfl⟩:=ZS.mp hx;obtain⟨bd,mb,tb⟩:=f3 _ b' G JS hG;have li:(PG.aA bd).length<=(PG.aP s).length:=by
    rw[vZ,Ze];have:∀ {l:List (List PG.aF)},bd∈l->(PG.aA bd).length<=(l.flatMap PG.aA).length:=by
     intro l
     induction l with
     |nil=>intro h;cases h
     |cons y l ih=>
      intro h;rw[Xc,Zc];rcases Zf.mp h with rfl |h
      ·lia
      ·have:=ih h;lia
    have:=this mb;lia
   have:=wu ms;exact GW n bd b' G tb (Ec oA bd mb) (by lia)
theorem Ee(bs:List PG.eK)(n:Nat):∀d∈bs.map gZ,EK (n+2) d:=by
 intro d hd;obtain⟨b,_,rfl⟩:=Zp.mp hd;refine⟨by simp,fun d hd=>?_⟩;simp at hd;rcases hd with rfl |rfl |rfl<;>trivial
theorem Mp{K:Za}{H:Hp}{pr:PG.Prog}{v:V}{F:List YE}(h:DQ K H pr v F)(ok:oN pr.body)(l1:(PG.aA pr.body).length<=1000)(lb:pr.aS.length<=10):AI K H 14 v F/\F.length<=2+2*(PG.aA pr.body).length/\Rep K H (fF pr) v:=by
 obtain⟨p,B,b,wX,Fb,rfl,hS,hB,rb,tb,rfl⟩:=h;have lx:wX.length=pr.aS.length:=by rw[rb.length,Zb]
 refine⟨.inr (.inl ⟨p,_,[[B],Fb],rfl,hS,by simp,rfl,fun i x G hx hG=>?_,by simp⟩),by have:=Ed _ _ _ _ tb;rw[Ze];lia,Rep.az.mpr ⟨p,_,rfl,hS,.cons (Rep.bT.mpr ⟨B,wX,rfl,.of hB,rb⟩) (.cons (jT.rep _ _ _ _ tb) .nil)⟩⟩
 match i,hx,hG with
 |0,hx,hG=>
  cases hx;cases hG;refine .inr (.inr ⟨B,wX,wX.map fun _=>[],rfl,hB,by lia,by rw[Zb],fun i x G hx hG=>?_,by rw[pO]⟩);rw[Zq,hx] at hG;cases hG;have li:i<(pr.aS.map gZ).length:=by have:=(Zi.mp hx).1;rw[Zb];lia
  obtain⟨x',xD,rx⟩:=rb.get (i:=i) (d:=(pr.aS.map gZ)[i]) (Zd li);rw[hx] at xD;cases xD;exact wC 12 _ x (pP (zc _) _ (Zu li)) (Ee _ 10 _ (Zu li)) rx
 |1,hx,hG=>
  cases hx;cases hG;exact GW 4 _ _ _ tb ok l1
end L2
namespace PG
open PM (W Tr)
theorem mD{bs:List eK}(hb:∀x∈bs.map (·.name),x∈cG):∀t:Tr,jE bs t->xX t/\xJ t
 |.num n,h=>⟨trivial,by have:=h.2;exact⟨h.1,by lia⟩⟩
 |.box x,h=>⟨hb x h,trivial⟩
 |.bin o l r,h=>by
  obtain⟨l1,l2⟩:=mD hb l h.2.1;obtain⟨r1,r2⟩:=mD hb r h.2.2;exact⟨⟨h.1,l1,r1⟩,⟨h.1,l2,r2⟩⟩
mutual
theorem Mq{bs:List eK}(hb:∀x∈bs.map (·.name),x∈cG):∀s:aF,L0 bs s->AK s
 |.ask k b,h=>hb b h
 |.put k b e,h=>⟨hb b h.1,(mD hb e h.2.1).1,h.2.2⟩
 |.say k e,h=>⟨(mD hb e h.1).1,h.2⟩
 |.stop k,h=>trivial
 |.bH k sg l r,h=>⟨h.1,⟨(mD hb l h.2.1.1).1,h.2.1.2⟩,(mD hb r h.2.2.1).1,h.2.2.2⟩
 |.ifs k sg l r a b,h=>⟨h.1,⟨(mD hb l h.2.1.1).1,h.2.1.2⟩,⟨(mD hb r h.2.2.1.1).1,h.2.2.1.2⟩,xY hb a h.2.2.2.1,xY hb b h.2.2.2.2⟩
 |.cZ k sg l r a,h=>⟨h.1,⟨(mD hb l h.2.1.1).1,h.2.1.2⟩,⟨(mD hb r h.2.2.1.1).1,h.2.2.1.2⟩,xY hb a h.2.2.2⟩
theorem xY{bs:List eK}(hb:∀x∈bs.map (·.name),x∈cG):∀b:List aF,Jh bs b->oN b
 |[],h=>trivial
 |s::r,h=>⟨Mq hb s h.1,xY hb r h.2⟩
end
theorem wF{most:Int}(d:Dk):∀x∈(qx most d).1.aS.map (·.name),x∈cG:=by
 unfold qx;rcases h1:draw d 4 with ⟨m,d1⟩
 try simp only
 obtain⟨a,b⟩:=oG (cG.take m.toNat) d1;rcases h2:gf (cG.take m.toNat) d1 with ⟨bs,d2⟩
 rw[h2] at a;simp only at a ⊢;rcases h3:draw d2 4 with ⟨j,d3⟩
 try simp only
 generalize ({d3 with gap:=pick 0 [0,0,1,30] j,left:=most,row:=(bs.length:Int)}:Dk)=d0;rcases k1:cP (fR (bs.map (·.name)) 3) d0 with ⟨xa,d4⟩
 try simp only
 rcases k2:cP (fR (bs.map (·.name)) 3) d4 with ⟨xb,d5⟩
 try simp only
 rcases k3:cP (fR (bs.map (·.name)) 3) d5 with ⟨xc,d6⟩
 try simp only
 rw[a];exact fun x hx=>Ym hx
end PG
namespace L2
open PySem
open PG (AK oN)
structure FW(pr:PG.Prog):Prop where
 nm:∀x∈pr.aS.map (·.name),x∈PG.cG
 ok:oN pr.body
 dep:PG.bA pr.body<=3
 n8:(PG.aA pr.body).length<=24
 bx:pr.aS.length<=3
theorem Pm{pr:PG.Prog}(h:PG.DM 24 pr)(nm:∀x∈pr.aS.map (·.name),x∈PG.cG):O9 pr/\FW pr:=by
 have n8:=h.n8;refine⟨⟨h.pw,h.dep,by rw[<- sN];lia,ZT h.len (by decide),fun s hs=>?_⟩,⟨nm,PG.xY nm _ h.own,h.dep,by lia,h.len⟩⟩;have e:=PG.kK _ _ h.own hs;have t:∀x:PM.Tr,PG.jE pr.aS x/\PG.cB x<=3->PG.xJ x/\PG.cB x<=6:=fun x hx=>⟨(PG.mD nm x hx.1).2,ZT hx.2 (by decide)⟩
 cases s with
 |ask=>trivial
 |stop=>trivial
 |put k b x=>exact t x e.2
 |say k x=>exact t x e
 |bH k sg l r=>exact⟨e.1,t l e.2.1,t r e.2.2⟩
 |ifs k sg l r a b=>exact⟨e.1,t l e.2.1,t r e.2.2.1⟩
 |cZ k sg l r a=>exact⟨e.1,t l e.2.1,t r e.2.2.1⟩
theorem xZ{pr:PG.Prog}(h:FW pr):(fF pr).py.canLay0=true/\(fF pr).py.depth<=13:=by
 obtain⟨b1,b2⟩:=DJ (bs:=pr.aS) fun x hx=>wA x (h.nm x hx);obtain⟨s1,s2⟩:=cw_Ss pr.body h.ok;have:=h.dep;rw[aI] at s1 s2;simp only[fF,Dp.py,Dp.lW,PyData.canLay0,PyData.canLayAll0,PyData.depth,PyData.depthAll,b1,s1];exact⟨rfl,by lia⟩
theorem vD:∀ {ps:List PG.Prog},(∀p∈ps,FW p)->PyData.canLayAll0 (Dp.lW (ps.map fF))=true/\PyData.depthAll (Dp.lW (ps.map fF))<=13
 |[],h=>by simp[Dp.lW,PyData.canLayAll0,PyData.depthAll]
 |p::ps,h=>by
  obtain⟨a1,a2⟩:=xZ (h p (Zt ..));obtain⟨b1,b2⟩:=vD fun q hq=>h q (Zk _ hq);simp only[ZD,Dp.lW,PyData.canLayAll0,PyData.depthAll,a1,b1];exact⟨rfl,by lia⟩
theorem x3{pr:PG.Prog}(h:FW pr):SeqAt.shaped (fF pr).py=true:=by
 obtain⟨h1,h2⟩:=xZ h;unfold SeqAt.shaped;rw[h1,Yn,decide_eq_true_iff];lia
theorem wG{ps:List PG.Prog}(h:∀p∈ps,FW p):SeqAt.shaped (Dp.lst (ps.map fF)).py=true:=by
 obtain⟨h1,h2⟩:=vD h;unfold SeqAt.shaped;rw[Dp.py,PyData.canLay0,h1,Yn,decide_eq_true_iff,PyData.depth];lia
theorem Mr{pr:PG.Prog}(h:FW pr)(c:O9 pr):∀p∈PG.zb pr,FW p:=by
 rw[PG.xN c.pw];intro p hp;obtain⟨b,hb,rfl⟩:=Zp.mp hp;obtain⟨h1,h2⟩:=PG.tI _ h.ok b hb;exact⟨h.nm,h1,ZT h2 h.dep,ZT (PG.mC _ b hb) h.n8,h.bx⟩
theorem Ef{s:PG.aF}{b:List PG.aF}(h:b∈aC s):PG.bA b+1<=PG.cU s/\(PG.aA b).length<=(PG.aP s).length:=by
 cases s with
 |ifs k sg l r a c=>
  simp[aC] at h;rw[PG.aP,Ze,Zc];rcases h with rfl |rfl
  ·exact⟨by show PG.bA b+1<=max (PG.bA b) (PG.bA c)+1;lia,by lia⟩
  ·exact⟨by show PG.bA b+1<=max (PG.bA a) (PG.bA b)+1;lia,by lia⟩
 |cZ k sg l r a=>
  simp[aC] at h;cases h;rw[PG.aP,Ze];exact⟨by show PG.bA b+1<=PG.bA b+1;lia,by lia⟩
 |_=>simp[aC] at h
theorem Ms:∀(n:Nat) (b:List PG.aF),oN b->(PG.aA b).length<=1000->PG.bA b<=n->EK (2*n+7) (.lst (b.map bp)):=by
 intro n
 induction n with
 |zero=>
  intro b ok l hn;refine⟨by rw[Zb];have:=pM b;lia,fun d hd=>?_⟩;obtain⟨s,hs,rfl⟩:=Zp.mp hd;rw[qq];have h1:=pD s;have h2:=rT s;refine⟨by rw[Zc,Zb];lia,fun d hd=>?_⟩;rcases Zg.mp hd with hd |hd
  ·exact zp s (pQ ok hs) _ (by lia) d hd
  ·obtain⟨b',JS,rfl⟩:=Zp.mp hd;have:=(Ef JS).1;have:=wt hs;lia
 |succ n ih=>
  intro b ok l hn;refine⟨by rw[Zb];have:=pM b;lia,fun d hd=>?_⟩;obtain⟨s,hs,rfl⟩:=Zp.mp hd;rw[qq];have h1:=pD s;have h2:=rT s;refine⟨by rw[Zc,Zb];lia,fun d hd=>?_⟩;rcases Zg.mp hd with hd |hd
  ·exact zp s (pQ ok hs) _ (by lia) d hd
  ·obtain⟨b',JS,rfl⟩:=Zp.mp hd;obtain⟨k1,k2⟩:=Ef JS;have:=wt hs;have:=wu hs;exact ih b' (Ec (pQ ok hs) b' JS) (by lia) (by lia)
theorem Mu{pr:PG.Prog}(h:FW pr):EK 14 (fF pr):=by
 have hd:=h.dep;have hf:=h.n8;refine⟨by simp,fun d hd=>?_⟩;simp at hd;rcases hd with rfl |rfl
 ·exact⟨by rw[Zb];have:=h.bx;lia,Ee _ 10⟩
 ·exact Ms 3 _ h.ok (by lia) h.dep
end L2
namespace L2
open PySem
theorem Eg(xs:List V):cO xs (some (-6)) none=xs.drop (xs.length-6):=by
 unfold cO;have e:HT.gc xs.length 0 (some (-6))=xs.length-6:=by
  show (if (-6:Int)<0 then ((-6:Int)+(xs.length:Int)).toNat else min (-6:Int).toNat xs.length)=_;rw[if_pos (by decide)];lia
 rw[e,HT.ke,Xl (by rw[ZW];lia)]
def qT (H:Hp) (f:YE):List V:=match H f with
 |some (.lst ys)=>ys
 |_=>[]
theorem x4{H:Hp}{f:YE}{ys:List V}(h:H f=some (.lst ys)):qT H f=ys:=by unfold qT;rw[h]
theorem six{us:List V}{Fs:List (List YE)}(l:Fs.length=us.length)(nd:Fs.flatten.Nodup){R:V->List YE->Prop}(h:∀(i:Nat) x G,us[i]?=some x->Fs[i]?=some G->R x G) :
 ∃Gs:List (List YE),Gs.length=(us.take 6++cO (us.drop (us.length-6)) (some ((if decide ((us.length:Int)<12)=true then 1 else 0)*6)) none).length/\Gs.length<=12/\(∀(i:Nat) x G,(us.take 6++cO (us.drop (us.length-6)) (some ((if decide ((us.length:Int)<12)=true then 1 else 0)*6)) none)[i]?=some x->Gs[i]?=some G->R x G)/\Gs.flatten.Nodup/\∀f∈Gs.flatten,f∈Fs.flatten:=by
 by_cases JL:us.length<12
 ·rw[if_pos (by rw[decide_eq_true_iff];lia)];have e:cO (us.drop (us.length-6)) (some ((1:Int)*6)) none=[]:=by
   rw[show ((1:Int)*6)=((6:Nat):Int) from rfl,fQ];exact X4 (by rw[ZW];lia)
  rw[e,Zr];have sp:Fs.flatten=(Fs.take 6).flatten++(Fs.drop 6).flatten:=by rw[<- ZC,Xm]
  refine⟨Fs.take 6,by rw[ZK,ZK,l],by rw[ZK];lia,fun i x G hx hG=>?_,?_,fun f hf=>by rw[sp];exact ZU _ hf⟩
  ·rw[Yw] at hx hG;split at hx
   ·rw[if_pos (by assumption)] at hG;exact h i x G hx hG
   ·cases hx
  ·rw[sp] at nd;exact(Xd.mp nd).1
 ·rw[if_neg (by rw[decide_eq_true_iff];lia)];have e:cO (us.drop (us.length-6)) (some ((0:Int)*6)) none=us.drop (us.length-6):=by
   rw[show ((0:Int)*6)=((0:Nat):Int) from rfl,fQ];exact XJ
  rw[e];have sp:Fs.flatten=(Fs.take 6).flatten++(((Fs.drop 6).take (us.length-12)).flatten++(Fs.drop (us.length-6)).flatten):=by
   have e1:Fs.drop (us.length-6)=(Fs.drop 6).drop (us.length-12):=by rw[List.drop_drop];congr 1;lia
   rw[e1,<- ZC,Xm,<- ZC,Xm]
  have l6:(us.take 6).length=6:=by rw[ZK];lia
  have Pn:(Fs.take 6).length=6:=by rw[ZK];lia
  refine⟨Fs.take 6++Fs.drop (us.length-6),by rw[Zc,Zc,l6,Pn,ZW,ZW,l],by rw[Zc,Pn,ZW];lia,fun i x G hx hG=>?_,?_,fun f hf=>?_⟩
  ·by_cases hi:i<6
   ·rw[Xe (by lia),Yw,if_pos hi] at hx hG;exact h i x G hx hG
   ·rw[Z3 (by lia),List.getElem?_drop] at hx hG;rw[l6] at hx;rw[Pn] at hG;exact h _ x G hx hG
  ·rw[sp] at nd;rw[ZC];exact nd.sublist (List.Sublist.append (List.Sublist.refl _) (List.sublist_append_right _ _))
  ·rw[sp];rw[ZC] at hf;rcases Zg.mp hf with hf |hf
   ·exact ZU _ hf
   ·exact Zz _ (Zz _ hf)
theorem Po{Gs:List (List YE)}{k:Nat}(h:∀G∈Gs,G.length<=k):Gs.flatten.length<=k*Gs.length:=by
 induction Gs with
 |nil=>simp
 |cons G Gs ih=>
  have h1:=h G (Zt ..);have h2:=ih fun G hG=>h G (Zk _ hG);rw[ZG,Zc,Ze,Nat.mul_succ];lia
theorem AL{K:Za}{H:Hp}:∀(n:Nat) (v:V) (F:List YE),AI K H n v F->∀f∈F,∃ys,H f=some (.lst ys)/\ys.length<=2000
 |0,_,_,h,_,_=>h.elim
 |n+1,v,F,h,f,hf=>by
  have go:∀ {xs:List V} {Fs:List (List YE)},Fs.length=xs.length->(∀(i:Nat) x G,xs[i]?=some x->Fs[i]?=some G->AI K H n x G)->f∈Fs.flatten->∃ys,H f=some (.lst ys)/\ys.length<=2000:=by
   intro xs Fs lf hh hf;obtain⟨G,hG,hf⟩:=ZY.mp hf;obtain⟨i,hi,rfl⟩:=Z9.mp hG;have Pp:i<xs.length:=by lia
   exact AL n _ _ (hh i _ _ (Zd Pp) (Zd hi)) f hf
  rcases h with ⟨_,rfl⟩ |⟨a,xs,Fs,e,hS,l,lf,hh,rfl⟩ |⟨a,xs,Fs,e,hS,l,lf,hh,rfl⟩
  ·cases hf
  ·exact go lf hh hf
  ·rcases Zf.mp hf with rfl |hf
   ·exact⟨xs,hS,l⟩
   ·exact go lf hh hf
theorem qU(l:List Int):SeqAt.shaped (Dp.lst (l.map Dp.int)).py=true:=by
 obtain⟨h1,h2⟩:=Aq l;unfold SeqAt.shaped;rw[Dp.py,PyData.canLay0,h1,Yn,decide_eq_true_iff,PyData.depth];lia
end L2
section
set_option maxHeartbeats 4000000
namespace Jn
open PySem L2
def top (i:Nat):Stmt:=PySem.Challenge.pw_everyrow_k56_changes_in_order.main.body.getD i (.Pass ⟨0,0,0,0⟩)
abbrev mE:Stmt:=top 1
abbrev ji:Stmt:=top 2
abbrev gK:Stmt:=top 3
abbrev j1:Stmt:=top 4
abbrev j2:Stmt:=top 5
abbrev qD:Stmt:=top 10
abbrev mH:Stmt:=top 11
abbrev kU:Stmt:=top 12
abbrev dW:Stmt:=top 13
abbrev mI:Stmt:=top 14
abbrev fS:Stmt:=top 15
abbrev iU:Stmt:=top 16
abbrev gL:Stmt:=top 17
abbrev mJ:Stmt:=top 19
abbrev mK:Stmt:=top 20
abbrev jK:Stmt:=top 21
abbrev ff:Stmt:=top 22
abbrev ia:Stmt:=top 23
abbrev kW:Stmt:=top 24
abbrev j3:Stmt:=top 25
abbrev qE:Stmt:=top 26
abbrev oO:Stmt:=top 27
abbrev j4:Stmt:=top 28
abbrev j5:Stmt:=top 29
abbrev kX:Stmt:=top 30
abbrev j6:Stmt:=top 31
abbrev Eh:Stmt:=top 32
theorem pR:bD ["statement"] ["statement"] (aO mE):=⟨rfl,rfl,rfl,by decide +kernel,rfl,by decide +kernel,by decide +kernel⟩
theorem kB:bD ["body", "found", "statement", "inner"] ["body"] (aO ji):=⟨rfl,rfl,rfl,by decide +kernel,rfl,by decide +kernel,by decide +kernel⟩
theorem jo:bD ["statement"] ["statement"] (aO gK):=⟨rfl,rfl,rfl,by decide +kernel,rfl,by decide +kernel,by decide +kernel⟩
theorem mL:bD ["body"] ["body"] (aO j1):=⟨rfl,rfl,rfl,by decide +kernel,rfl,by decide +kernel,by decide +kernel⟩
theorem mM:bD ["statement", "bodies"] ["statement", "bodies"] (aO j2):=⟨rfl,rfl,rfl,by decide +kernel,rfl,by decide +kernel,by decide +kernel⟩
theorem tJ:bD ["program", "told", "statement", "others"] ["program"] (aO qD):=⟨rfl,rfl,rfl,by decide +kernel,rfl,by decide +kernel,by decide +kernel⟩
theorem pS:bD ["body", "row", "others", "told", "statement"] ["body", "row", "others"] (aO mH):=⟨rfl,rfl,rfl,by decide +kernel,rfl,by decide +kernel,by decide +kernel⟩
theorem oh:bD ["statement", "word", "told"] ["statement"] (aO kU):=⟨rfl,rfl,rfl,by decide +kernel,rfl,by decide +kernel,by decide +kernel⟩
theorem gu:bD ["statement", "places", "told", "place"] ["statement"] (aO dW):=⟨rfl,rfl,rfl,by decide +kernel,rfl,by decide +kernel,by decide +kernel⟩
theorem pT:bD ["statement", "place", "part"] ["statement", "place", "part"] (aO mI):=⟨rfl,rfl,rfl,by decide +kernel,rfl,by decide +kernel,by decide +kernel⟩
theorem iB:bD ["e", "left", "right"] ["e"] (aO fS):=⟨rfl,rfl,rfl,by decide +kernel,rfl,by decide +kernel,by decide +kernel⟩
theorem jU:bD ["number", "told"] ["number"] (aO iU):=⟨rfl,rfl,rfl,by decide +kernel,rfl,by decide +kernel,by decide +kernel⟩
theorem jq:bD ["e", "left", "right"] ["e"] (aO gL):=⟨rfl,rfl,rfl,by decide +kernel,rfl,by decide +kernel,by decide +kernel⟩
theorem pU:bD ["deck", "many", "at", "place", "found", "number"] ["deck", "many"] (aO mJ):=⟨rfl,rfl,rfl,by decide +kernel,rfl,by decide +kernel,by decide +kernel⟩
theorem pV:bD ["script", "great"] ["script"] (aO mK):=⟨rfl,rfl,rfl,by decide +kernel,rfl,by decide +kernel,by decide +kernel⟩
theorem jj:bD ["deck", "names", "deep", "kind", "sign", "one"] ["deck", "names", "deep"] (aO jK):=⟨rfl,rfl,rfl,by decide +kernel,rfl,by decide +kernel,by decide +kernel⟩
theorem gS:bD ["deck", "names", "deep", "k", "kind", "sign", "one", "other", "first", "second"] ["deck", "names", "deep"] (aO ff):=⟨rfl,rfl,rfl,by decide +kernel,rfl,by decide +kernel,by decide +kernel⟩
theorem jL:bD ["deck", "names", "deep", "found", "k"] ["deck", "names", "deep"] (aO ia):=⟨rfl,rfl,rfl,by decide +kernel,rfl,by decide +kernel,by decide +kernel⟩
theorem oi:bD ["deck", "most", "boxes", "name", "size", "names", "body"] ["deck", "most"] (aO kW):=⟨rfl,rfl,rfl,by decide +kernel,rfl,by decide +kernel,by decide +kernel⟩
theorem mN:bD ["e", "path"] ["e", "path"] (aO j3):=⟨rfl,rfl,rfl,by decide +kernel,rfl,by decide +kernel,by decide +kernel⟩
theorem tK:bD ["e", "path", "side"] ["e", "path"] (aO qE):=⟨rfl,rfl,rfl,by decide +kernel,rfl,by decide +kernel,by decide +kernel⟩
theorem qV:bD ["e", "path", "part"] ["e", "path", "part"] (aO oO):=⟨rfl,rfl,rfl,by decide +kernel,rfl,by decide +kernel,by decide +kernel⟩
theorem mO:bD ["statement", "first", "paths", "place", "found", "path", "part", "some"] ["statement"] (aO j4):=⟨rfl,rfl,rfl,by decide +kernel,rfl,by decide +kernel,by decide +kernel⟩
theorem mQ:bD ["body", "found", "at", "statement", "others", "place", "inner", "other"] ["body"] (aO j5):=⟨rfl,rfl,rfl,by decide +kernel,rfl,by decide +kernel,by decide +kernel⟩
theorem oj:bD ["thing", "found", "part"] ["thing"] (aO kX):=⟨rfl,rfl,rfl,by decide +kernel,rfl,by decide +kernel,by decide +kernel⟩
theorem mS:bD ["thing"] ["thing"] (aO j6):=⟨rfl,rfl,rfl,by decide +kernel,rfl,by decide +kernel,by decide +kernel⟩
theorem Ei:bD ["script", "program", "due", "handed", "found", "lists", "sizes", "some"] ["script"] (aO Eh):=⟨rfl,rfl,rfl,by decide +kernel,rfl,by decide +kernel,by decide +kernel⟩
set_option genInjectivity false in
structure Ad where
 fc:YE
 fg:YN
 cQ:YE
 du:YN
 cD:YE
 cS:YN
 dX:YE
 eP:YN
 gD:YE
 ib:YN
 kC:YE
 kY:YN
 fT:YE
 gg:YN
 ic:YE
 iX:YN
 bZ:YE
 cz:YN
 i9:YE
 ju:YN
 bS:YE
 bX:YN
 eQ:YE
 fJ:YN
 b9:YE
 cx:YN
 ja:YE
 jv:YN
 jb:YE
 jw:YN
 dw:YE
 dI:YN
 bE:YE
 bO:YN
 cM:YE
 dA:YN
 ig:YE
 iY:YN
 dY:YE
 eR:YN
 kD:YE
 kZ:YN
 gM:YE
 gT:YN
 gE:YE
 ij:YN
 dZ:YE
 eT:YN
 fj:YE
 fC:YN
 eA:YE
 eU:YN
 AM:YE
 qF:YN
 bI:YE
 cH:YE
set_option genInjectivity false in
structure Tx(K:Za)(mg:Str->Option YF)(t:Ad):Prop where
 gU:dO K mg "bodies_in" mE ["statement"] t.fc t.fg
 fA:dO K mg "statements_in" ji ["body"] t.cQ t.du
 dB:dO K mg "copied_statement" gK ["statement"] t.cD t.cS
 iZ:dO K mg "copied_body" j1 ["body"] t.dX t.eP
 gF:dO K mg "with_bodies" j2 ["statement", "bodies"] t.gD t.ib
 gi:dO K mg "changes" qD ["program"] t.kC t.kY
 jc:dO K mg "body_with" mH ["body", "row", "others"] t.fT t.gg
 jx:dO K mg "others_for" kU ["statement"] t.ic t.iX
 cI:dO K mg "with_other_expressions" dW ["statement"] t.bZ t.cz
 gV:dO K mg "with_part" mI ["statement", "place", "part"] t.i9 t.ju
 cg:dO K mg "with_other_numbers" fS ["e"] t.bS t.bX
 gj:dO K mg "numbers_beside" iU ["number"] t.eQ t.fJ
 cE:dO K mg "with_other_signs" gL ["e"] t.b9 t.cx
 aW:dO K mg "_law_draw" mJ ["deck", "many"] t.ja t.jv
 gW:dO K mg "_law_deck" mK ["script"] t.jb t.jw
 b5:dO K mg "_law_small_e" jK ["deck", "names", "deep"] t.dw t.dI
 cW:dO K mg "_law_small_statement" ff ["deck", "names", "deep"] t.bE t.bO
 bW:dO K mg "_law_small_body" ia ["deck", "names", "deep"] t.cM t.dA
 gm:dO K mg "_law_small" kW ["deck", "most"] t.ig t.iY
 dq:dO K mg "_law_places" j3 ["e", "path"] t.dY t.eR
 gn:dO K mg "_law_at" qE ["e", "path"] t.kD t.kZ
 cF:dO K mg "_law_put" oO ["e", "path", "part"] t.gM t.gT
 fE:dO K mg "_law_others" j4 ["statement"] t.gE t.ij
 cJ:dO K mg "_law_bodies" j5 ["body"] t.dZ t.eT
 cX:dO K mg "_law_lists" kX ["thing"] t.fj t.fC
 dt:dO K mg "_law_copied" j6 ["thing"] t.eA t.eU
 AN:dO K mg "law" Eh ["script"] t.AM t.qF
 oP:∃u,mg "GREATEST_NUMBER"=some u/\RelV (.int 999) u
 mT:mg "EXPRESSION_PLACES"=some (.ref t.bI)
 mU:mg "OTHER_SIGNS"=some (.ref t.cH)
 jd:mg "len"=none
 nH:mg "range"=none
 om:mg "int"=none
 jM:mg "list"=none
 jV:mg "tuple"=none
 Ej:mg "min"=none
 cv:mg "isinstance"=none
structure Cd(P:YR)(w:YG)(K:Za)(t:Ad):Prop where
 nQ:∃a0 a1 a2 a3 a4 a5 a6:YE,GJ P w K t.bI [(.inr "ask",.ref a0),(.inr "put",.ref a1),(.inr "say",.ref a2),(.inr "must",.ref a3),(.inr "if",.ref a4),(.inr "while",.ref a5),(.inr "stop",.ref a6)]/\(∀H:Hp,bU K H a0 [])/\(∀H:Hp,bU K H a1 [.int 3])/\(∀H:Hp,bU K H a2 [.int 2])/\(∀H:Hp,bU K H a3 [.int 3,.int 4])/\(∀H:Hp,bU K H a4 [.int 3,.int 4])/\(∀H:Hp,bU K H a5 [.int 3,.int 4])/\(∀H:Hp,bU K H a6 [])
 oo:GJ P w K t.cH [(.inr "+",.str "-"),(.inr "-",.str "+"),(.inr "*",.str "+"),(.inr "<",.str "="),(.inr "=",.str "<")]
end Jn
end
section
set_option maxHeartbeats 4000000
namespace Jn
open PySem L2
local macro_rules | `(tactic|walk_at "rd")=>`(tactic|((try dsimp only[Ck,Gk,B8,Kl,Gb,Q0,HJ,Cc,Ks,Oy,KW,Nh,Cr,vR,Gj,KA,KC,zL,zK,Oi,rU,Lr,zE,zF,zG,Ge,Cb,Gd,Kr,Gf,Kq,HQ,Gu,EX,EY,zW,Gv,CH,CI,CJ,CK,CL,CM,CN,CO,CQ,CS,Ab,Ac,Ae,Aj,Ak,Lw,Lm,HN,Ca,A7,bV,Gw,Gx,Xi,zX,zY,CU,z0,z1,xq,Dm,Dn,Dq,y0,Az,z8,Gy,Lo,C4,CV,CY,Oc,Xf,Xg,Ze,ZJ,CZ,C0,Dt,Du,zZ]);(try simp only[Ck,Gk,B8,Kl,Gb,Q0,HJ,Cc,Ks,Oy,KW,Nh,Cr,vR,Gj,KA,KC,zL,zK,Oi,rU,Lr,zE,zF,zG,Ge,Cb,Gd,IC,ID,Kr,Gf,Kq,HQ,Gu,EX,EY,zW,Gv,CH,CI,CJ,CK,CL,CM,CN,CO,CQ,CS,Ab,Ac,Ae,Aj,Ak,Lw,Lm,HN,Ca,A7,bV,Ll,OL,Gw,Gx,Ln,Fm,CT,IE,IF,Xi,zX,zY,CU,z0,z1,xq,Dm,Dn,Dq,y0,Az,z8,Gy,Lo,C4,CV,CY,Oc,Zr,Xf,Xg,Fo,Fp,true_and,and_true,Ze,ZJ,Fq,CZ,C0,Dt,Du,zZ,Int.reduceLT,Int.reduceLE,Nat.reduceLeDiff,Nat.reduceAdd,and_self])))
section
variable{P:YR}{w:YG}{K:Za}{mg:Str->Option YF}{base:Heap}{t:Ad}
theorem jy(T:Tx K mg t):bP P w K mg base gA 1 t.ja t.jv ["deck", "many"] Je:=by
 refine T.aW.F.oA pU (fun vs H Q E h=>?_) (fun gP A outer s H vs Q E hr h=>?_)
 ·obtain⟨_,_,_,_,_,rfl,_⟩:=h;rfl
 obtain⟨D,C,G,d,many,rfl,dk,hm,Wg,BJ,q⟩:=h;have nd:=pU.nd;have hu:=jC hr;refine⟨_,[some (V.ref D),some (V.int many),none,none,none,none],(aj (nz 2 nd (aH bh (pv 0) ah ax))
 (aj (jB (aG cT (pv 2) ah) (jA (pv 0) ah set_list))
 (aj (ck (aY (u6 (jC hr)) (aH bh (pv 0) ah ax) (aQ ag) (bu _))
 (ay (aT (aG iM (aG cT (aG jh (aG jh (pv 2) (pv 2)) ah) (aG vQ (pv 2) ah)) (pv 1))))
 aU)
 (aj (nz 3 nd (aG iM (pv 2) (bF bK rfl T.jd PyProof.Rows.Boot.«len» (ae (aH bh (pv 0) ah ax) ag a8))))
 (aj (ck (jX (aH bh (aH bh (pv 0) ah ax) (pv 3) iV))
 (aj (nz 4 nd (aG iM (aH bh (aH bh (pv 0) ah ax) (pv 3) iV) (pv 1)))
 (aj (jB (aG vQ (aH bh (aH bh (pv 0) ah ax) (pv 3) iV) (pv 1)) (jA (aH bh (pv 0) ah ax) (pv 3) set_list))
 (ay (aT (pv 4)))))
 aU)
 (aj (nz 5 nd (aG iM (aG jh (aG cT (aG iM (aH bh (aH bh (pv 0) ah ax) (pv 3) iV) ah) (aG jh ah (aG cT (pv 2) ah))) ah) ah))
 (aj (nz 5 nd (aG iM (aG jh (pv 5) (pv 5)) ah))
 (ay (aT (aG iM (aG vQ (aG iM (aG jh (pv 5) ah) ah) ah) (pv 1))))))))))),rfl,?_⟩
 have line:YM=2 ^ 24:=rfl;refine aq fun U1 gy=>?_;walk_at "rd";refine bY (.of dk.cy) (av (j:=1) rfl) ((gy _ _).mpr (aq fun U2 jz=>?_));clear gy;walk_at "rd";refine⟨D,_,1,1,rfl,rfl,dk.cy,rfl,?_⟩;have u1:bw D H (upd H D (.lst [.ref C,.int (d.pos+1),.ref G,.int d.left,.int d.row,.int d.gap])):=(bw.refl D H).put _;have y1:(upd H D (.lst [.ref C,.int (d.pos+1),.ref G,.int d.left,.int d.row,.int d.gap])) D=_:=af;have c1:eV D C H (upd H D (.lst [.ref C,.int (d.pos+1),.ref G,.int d.left,.int d.row,.int d.gap])):=eV.put _ (.inl rfl);show U2 _ (upd H D (.lst [.ref C,.int (d.pos+1),.ref G,.int d.left,.int d.row,.int d.gap]));generalize upd H D (.lst [.ref C,.int (d.pos+1),.ref G,.int d.left,.int d.row,.int d.gap])=H1 at *;have p0:=dk.pos;have rC:gw H1 D C G {d with pos:=d.pos+1}:=dk.put u1 y1 rfl rfl (show 0<=d.pos+1 by lia);refine(jz _ _).mpr (aq fun U3 kE=>?_);clear jz;walk_at "rd";refine bY (.of rC.cy) (av (j:=0) rfl) fun p hp=>?_;have s2:=ai.new hp (.lst []);have y2:(upd H1 p (.lst [])) p=_:=af;have oq:=rC.same s2;have c2:=c1.trans (eV.of s2);generalize upd H1 p (.lst [])=H2 at *;have cm:Bc d.pos d.pos:=mulL (by lia) (by lia);refine⟨C,p,_,rfl,rfl,.of oq.cs,.of y2,?_⟩;unfold PG.draw at q;cases hc:d.cs with
 |nil=>
  rw[if_pos hc] at q;refine(if_pos (by simp[hc])).mpr ⟨cm,mulR (by decide) (by decide),hm,q _ _ H2 rfl c2 oq⟩
 |cons z zs=>
  have ne:d.cs≠[]:=by rw[hc];simp
  rw[<- hc];refine(if_neg (by simp[hc])).mpr ((kE _ _).mpr (aq fun U4 qf=>?_));clear kE;rw[if_neg ne] at q;have lp:0<d.cs.length:=XE.mpr ne;have m1:=XQ d.pos (b:=(d.cs.length:Int)) (by lia);have m2:=XH d.pos (b:=(d.cs.length:Int)) (by lia);walk_at "rd";refine bY (.of oq.cy) (av (j:=0) rfl) ⟨C,_,rfl,.inl (.of oq.cs),?_⟩;rw[Zb];refine⟨by show (0:Int)<_;simp only;lia,(qf _ _).mpr (aq fun U5 wH=>?_)⟩;clear qf;obtain⟨k,ek⟩:∃k:Nat,d.pos%(d.cs.length:Int)=(k:Int):=⟨_,(Int.toNat_of_nonneg m1).symm⟩
  simp only[ek,Z2] at q ⊢;have lk:k<d.cs.length:=by lia
  have gk:k<d.gs.length:=by rw[dk.gl];exact lk
  have eg:d.gs.getD k false=d.gs[k]:=by rw[ZH,Zd gk];rfl
  have ec:d.cs.getD k 0=d.cs[k]:=by rw[ZH,Zd lk];rfl
  rw[eg,ec] at q;have iC:(d.cs.map V.int)[k]?=some (V.int d.cs[k]):=by rw[Zq,Zd lk];rfl
  have iG:(d.gs.map V.bl)[k]?=some (V.bl d.gs[k]):=by rw[Zq,Zd gk];rfl
  walk_at "rd";refine bY (.of oq.cy) (av (j:=2) rfl) (bY (.of oq.gs) (av iG) ⟨_,rfl,?_⟩);by_cases hg:d.gs[k]=true
  ·rw[if_pos hg] at q;refine(if_pos hg).mpr (bY (.of oq.cy) (av (j:=0) rfl) (bY (.of oq.cs) (av iC) ⟨_,_,rfl,rfl,hm,bY (.of oq.cy) (av (j:=0) rfl) (bY (.of oq.cs) (av iC) ⟨_,_,rfl,rfl,?_,bY (.of oq.cy) (av (j:=0) rfl) ⟨C,_,k,k,rfl,rfl,oq.cs,(by unfold Gp;rw[Zb];simp;lia),?_⟩⟩)⟩))
   ·exact⟨hm,by lia⟩
   ·have cC:eV D C H2 (upd H2 C (.lst ((d.cs.set k (d.cs[k]/many)).map V.int))):=eV.put _ (.inr rfl);have uC:bw C H2 (upd H2 C (.lst ((d.cs.set k (d.cs[k]/many)).map V.int))):=(bw.refl _ _).put _;rw[<- List.map_set];exact q _ _ _ rfl (c2.trans cC) ⟨uC _ _ dk.Jd oq.cy,af,uC _ _ dk.JP.symm oq.gs,dk.Jd,dk.JO,dk.JP,by simpa using dk.len,by simpa using dk.gl,rC.pos⟩
  ·rw[if_neg hg] at q;refine(if_neg hg).mpr ((wH _ _).mpr (aq fun U6 AO=>?_));clear wH;walk_at "rd";refine bY (.of oq.cy) (av (j:=0) rfl) (bY (.of oq.cs) (av iC) ⟨_,_,rfl,rfl,(by decide:(0:Int)<2147483629),mulL (by decide) (by decide),_,_,rfl,rfl,_,_,rfl,rfl,mulR (by decide) (by decide),_,_,rfl,rfl,(by decide:(0:Int)<2147483629),(AO _ _).mpr (aq fun U7 BK=>?_)⟩);clear AO;simp only[];have b1:=XQ ((d.cs[k]%2147483629+62233*(d.pos+1))*48271) (b:=2147483629) (by decide);have b2:=XH ((d.cs[k]%2147483629+62233*(d.pos+1))*48271) (b:=2147483629) (by decide);generalize (d.cs[k]%2147483629+62233*(d.pos+1))*48271%2147483629=n1 at *;walk_at "rd";refine⟨mulL (by lia) (by lia),(BK _ _).mpr ?_⟩;walk_at "rd";exact⟨mulR (by decide) (by decide),hm,q _ _ H2 rfl c2 oq⟩
theorem vE{K:Za}{a D:YE}{ns:List Int}{te:TE}{Q:VK}{r:St}{H:Hp}(f:Int->V)(hS:gX K H a (ns.map V.int))(hl:ns.length<=16000000)(hD:H D=none)
 (step:∀z H2,ai H H2->∀R:VK,R (f z) H2->te (some (.int z)::r) H2 R)
 (q:∀H2,ai H H2->H2 D=some (.lst (ns.map f))->Q (.ref D) H2):eX (qe K a) D (bV 0) iO te Q (none::r) (upd H D (.lst [])):=by
 refine dv (fun i ys _=>ys=(ns.take i).map f) hS (by rw[Zb];exact hl) hD (by simp) (fun i x ys H2 hx s2 h2 ly p2 R hR=>?_) (fun ys H2 s2 h2 p2=>q H2 s2 ?_)
 ·rw[Zq] at hx;obtain⟨z,hz,rfl⟩:=ZS.mp hx;refine step z H2 s2 R (hR _ _ (.refl _) ?_);show ys++[f z]=(ns.take (i+1)).map f;rw[p2,Yj,hz,Zl];rfl
 ·have p2:ys=(ns.take (ns.map V.int).length).map f:=p2;rw[Zb,Zw] at p2;rw[<- p2];exact h2
theorem wI(T:Tx K mg t):bP P w K mg base gA 1 t.jb t.jw ["script"] (Jf K):=by
 refine T.gW.F.oA pV (fun vs H Q E h=>?_) (fun gP A outer s H vs Q E hr h=>?_)
 ·obtain⟨_,_,rfl,_⟩:=h;rfl
 obtain⟨a,ns,rfl,hS,Mv,q⟩:=h;have nd:=pV.nd;have hu:=jC hr;refine⟨_,[some (V.ref a),none],(aj (jt (i:=1) nd rfl (ZE rfl) (own:=["cell"]) (ix:=[]) rfl (by rfl) (by rfl) (ba (bJ gH (pv 0) cq (b6 ah))) (fun _ _ _ _=>(br (i:=0) (by show List.Nodup (["cell"]:List Str);decide +kernel) rfl (ZE rfl))) (fun _ _ _ _=>cu) (fun _ _ _ _=>(gY Gi (pv 0) (aG yC ah ah) (bu _))))
 (ay (aT (aQ (ae (fH (own:=["cell"]) (ix:=[]) rfl (by rfl) (by rfl) (ba (bJ gH (pv 0) cq (b6 ah))) (fun _ _ _ _=>(br (i:=0) (by show List.Nodup (["cell"]:List Str);decide +kernel) rfl (ZE rfl))) (fun _ _ _ _=>cu) (fun _ _ _ _=>(aG oy (pv 0) (aG jh (aG yC ah ah) (eG eY rfl T.om PyProof.Rows.Boot.«int» (ae (gY Gi (pv 0) (aG yC ah ah) (bu _)) ag l8)))))) (ae ah (b8 1 (ae ah (ae ah (ae ah ag aK) aK) aK)) aK) kJ))))),rfl,?_⟩
 have line:YM=2 ^ 24:=rfl;have Mw:Kz 10 18:=⟨by decide,by decide,by decide⟩
 have Wh:(10:Int) ^ Int.toNat 18=10 ^ 18:=rfl;refine aq fun U1 gy=>?_;walk_at "rd";simp only[ft];walk_at "rd";refine⟨_,rfl,a,_,rfl,hS,fun S BL=>⟨S,rfl,?_⟩⟩;rw[GA ns Mv];have s1:=ai.new BL (.lst (ns.map V.int));have y1:(upd H S (.lst (ns.map V.int))) S=_:=af;generalize upd H S (.lst (ns.map V.int))=H1 at *;refine⟨⟨_,.of y1⟩,fun G hG=>vE (fun z=>V.bl (decide (z ≥ 10 ^ 18))) (.of y1) (by lia) hG (fun z H2 s2 R hR=>?_) (fun H2 s2 y2=>(gy _ _).mpr ?_)⟩
 ·walk_at "rd";exact⟨Mw,hR⟩
 clear gy;have Wi:H G=none:=fB s1 hG;have sG:ai H H2:=s1.trans s2;walk_at "rd";simp only[ft];walk_at "rd";refine⟨_,rfl,a,_,rfl,sG.seq hS,fun S3 T2=>⟨S3,rfl,?_⟩⟩;rw[GA ns Mv];have s3:=ai.new T2 (.lst (ns.map V.int));have y3:(upd H2 S3 (.lst (ns.map V.int))) S3=_:=af;generalize upd H2 S3 (.lst (ns.map V.int))=H3 at *;refine⟨⟨_,.of y3⟩,fun C hC=>vE (fun z=>V.int (if z ≥ 10 ^ 18 then z-10 ^ 18 else z)) (.of y3) (by lia) hC (fun z H4 s4 R hR=>?_) (fun H4 s4 y4 D hD=>?_)⟩
 ·walk_at "rd";by_cases hz:z ≥ (10:Int) ^ 18
  ·rw[show decide ((10:Int) ^ Int.toNat 18<=z)=true from decide_eq_true hz];rw[if_pos hz] at hR;refine⟨Mw,Mw,true,rfl,mulR (by decide) (by decide),?_⟩;rw[if_pos rfl,Int.mul_one];exact hR
  ·rw[show decide ((10:Int) ^ Int.toNat 18<=z)=false from decide_eq_false hz];rw[if_neg hz] at hR;refine⟨Mw,Mw,false,rfl,mulR (by decide) (by decide),?_⟩;rw[if_neg Zo,Int.mul_zero,Int.sub_zero];exact hR
 ·have Rx:=sG.trans (s3.trans s4);have EL:=(s3.trans s4) _ _ y2;have sD:=ai.new hD (.lst [V.ref C,V.int 0,V.ref G,V.int 0,V.int 0,V.int 0]);refine q D C G _ (Rx.trans sD) (fB Rx hD) (fB (sG.trans s3) hC) ⟨af,?_,?_,(ao y4 hD).symm,(ao EL hD).symm,(ao (s3 _ _ y2) hC).symm,?_,?_,Xp _⟩
  ·rw[sD _ _ y4];unfold PG.oF;simp only[ZL];rfl
  ·rw[sD _ _ EL];unfold PG.oF;simp only[ZL];rfl
  ·unfold PG.oF;simp only[Zb];exact Mv
  ·unfold PG.oF;simp only[Zb]
theorem Jo(T:Tx K mg t){n:Nat}(dE:bP P w K mg base gA (n+1) t.dw t.dI ["deck", "names", "deep"] (DO K n)) :
 bP P w K mg base gA (n+2) t.dw t.dI ["deck", "names", "deep"] (DO K (n+1)):=by
 have aX:=jy (P:=P) (w:=w) (base:=base) T;refine T.b5.F.oA jj (fun vs H Q E h=>?_) (fun gP A outer s H vs Q E hr h=>?_)
 ·obtain⟨_,_,_,_,_,_,_,rfl,_⟩:=h;rfl
 obtain⟨D,C,G,N,d,ns,k,rfl,hk,BJ,dk,hN,rD,rE,hl,q⟩:=h;have nd:=jj.nd;have hu:=jC hr;refine⟨_,[some (V.ref D),some (V.ref N),some (V.int k),none,none,none],(aj (nz 3 nd (gR aX T.aW hr (b8 0 (ae ah ag aK))))
 (aj (ck (PW.pt (pw_and (aY uQ (pv 2) ah (bu _)) (pw_and1 (aY uQ (pv 3) ah (bu _)))))
 (aj (nz 4 nd (aH Cs bQ (gR aX T.aW hr (b8 0 (ae ah ag aK))) jQ))
 (aj (nz 5 nd (gR dE T.b5 hr (b8 0 (b8 1 (ae (aG oy (pv 2) ah) ag eI)))))
 (ay (aT (bR (b8 4 (b8 5 (ae (gR dE T.b5 hr (b8 0 (b8 1 (ae (aG oy (pv 2) ah) ag eI)))) ag b7))))))))
 aU)
 (aj (ck (PW.pt (pw_and (aY qJ (aG iM (pv 3) ah) ah (bu _)) (pw_and1 (aY (qp (jC hr)) (pv 1) (aQ ag) (bu _)))))
 (ay (aT (bR (ae bQ (ae (aH bh (pv 1) (gR aX T.aW hr (b8 0 (ae (bF bK rfl T.jd PyProof.Rows.Boot.«len» (b8 1 ag)) ag b7))) jQ) ag a8) aK))))
 aU)
 (ay (aT (bR (ae bQ (ae (aH bh (aQ (ae (gR aX T.aW hr (b8 0 (ae ah ag aK))) (ae (gR aX T.aW hr (b8 0 (ae ah ag aK))) (ae ah ag aK) b7) b7)) (aH bh (aQ (dH (vs:=[.int 0,.int 0,.int 0,.int 1,.int 1,.int 2]) (by kernel_rfl))) (gR aX T.aW hr (b8 0 (ae ah ag aK))) jQ) C1) ag a8) aK))))))),rfl,?_⟩
 have line:YM=2 ^ 24:=rfl;have pw:(0:Int)<2 ^ k:=Int.pow_pos (by decide);obtain⟨pk,Ry⟩:∃pk:Int,pk=2 ^ k:=⟨_,rfl⟩
 rw[<- Ry] at BJ pw;refine aq fun U1 gy=>?_;walk_at "rd";refine⟨D,C,G,d,6,rfl,dk,by decide,by decide,by lia,fun kd d1 H1 e1 c1 rC=>(gy _ _).mpr (aq fun U2 jz=>?_)⟩;clear gy;have b1:=PG.bL e1 (by decide);have p1:=PG.bq e1;have NA:=c1.get hN rD rE;have tW:=dk.dD;have tX:=dk.dC;have leaf:∀H2,ai H1 H2->(¬(0<(k:Int)/\2<kd))->U2 [some (V.ref D),some (V.ref N),some (V.int k),some (V.int kd),none,none] H2:=by
  intro H2 s2 T3;have em:PG.lX ns k d=PG.GL ns kd d1:=by
   cases k with
   |zero=>rw[PG.lX];simp only[e1]
   |succ k=>rw[PG.lX];simp only[e1];exact if_neg fun z=>T3 ⟨by lia,z⟩
  rw[em] at q;unfold PG.GL at q;have oq:=rC.same s2;have Pq:=s2 _ _ NA;refine(jz _ _).mpr (aq fun U3 kE=>?_);clear jz;have num:¬(kd%3<2/\ns≠[])->∀Pr,ai H2 Pr->U3 [some (V.ref D),some (V.ref N),some (V.int k),some (V.int kd),none,none] Pr:=by
   intro hn Pr Rz;rw[if_neg hn] at q;refine(kE _ _).mpr ?_;walk_at "rd";refine⟨D,C,G,d1,4,rfl,oq.same Rz,by decide,by decide,by lia,fun a d2 H3 e2 c3 qW=>?_⟩;have p2:=PG.bq e2;refine⟨D,C,G,d2,10,rfl,qW,by decide,by decide,by lia,fun b d3 H4 e3 c4 BM p5 uk p6 yt=>?_⟩;have p3:=PG.bq e3;have s5:=ai.new uk (.lst [V.int a,V.int b,V.int 999]);have y5:(upd H4 p5 (.lst [V.int a,V.int b,V.int 999])) p5=_:=af;have n5:p5≠D/\p5≠C:=⟨(ao BM.cy uk).symm,(ao BM.cs uk).symm⟩
   have BN:=BM.same s5;generalize upd H4 p5 (.lst [V.int a,V.int b,V.int 999])=H5 at *;have s6:=ai.new yt (.lst [V.int 0,V.int 0,V.int 0,V.int 1,V.int 1,V.int 2]);have y6:(upd H5 p6 (.lst [V.int 0,V.int 0,V.int 0,V.int 1,V.int 1,V.int 2])) p6=_:=af;have n6:p6≠D/\p6≠C:=⟨(ao BN.cy yt).symm,(ao BN.cs yt).symm⟩
   have BO:=BN.same s6;have y5:=s6 _ _ y5;generalize upd H5 p6 (.lst [V.int 0,V.int 0,V.int 0,V.int 1,V.int 1,V.int 2])=H6 at *;refine⟨D,C,G,d3,6,rfl,BO,by decide,by decide,by lia,fun c d4 H7 e4 c7 Ek=>?_⟩;have bc:=PG.bL e4 (by decide);have kj:=PG.hV (0:Int) (l:=[0,0,0,1,1,2]) bc.1 bc.2;have hj:0<=PG.pick (0:Int) [0,0,0,1,1,2] c/\PG.pick (0:Int) [0,0,0,1,1,2] c<3:=by
    generalize PG.pick (0:Int) [0,0,0,1,1,2] c=j at *;simp only[Zf,ZI,or_false] at kj;lia
   refine bY (.of (c7.get y6 n6.1 n6.2)) (rO (l:=[0,0,0,1,1,2]) 0 bc.1 bc.2) (bY (.of (c7.get y5 n5.1 n5.2)) (rO (l:=[a,b,999]) 0 hj.1 hj.2) fun p8 wY=>?_);have cc:eV D C H H7:=c1.trans ((eV.of s2).trans ((eV.of Rz).trans (c3.trans (c4.trans ((eV.of s5).trans ((eV.of s6).trans c7))))));have s8:=ai.new wY (.tup [V.str (Zj "number"),V.int (PG.pick 0 [a,b,999] (PG.pick 0 [0,0,0,1,1,2] c))]);refine q (.num (PG.pick 0 [a,b,999] (PG.pick 0 [0,0,0,1,1,2] c))) d4 _ _ ?_ (cc.trans (eV.of s8)) (Ek.same s8) (gI wY cc.jn (a9.cons Own.str (a9.cons Own.int a9.nil)));simp only[e2,e3,e4]
  walk_at "rd";refine oz (fun h5 p hp=>?_) (fun h5=>(if_neg Zo).mpr (num (fun z=>h5 z.1) H2 (.refl _)));have s3:=ai.new hp (.lst []);refine⟨N,p,_,rfl,rfl,.of (s3 _ _ Pq),.of af,?_⟩;cases hc:ns with
  |nil=>exact(if_neg (by simp)).mpr (num (fun z=>z.2 hc) _ s3)
  |cons z zs=>
   refine(if_pos (by simp)).mpr ?_;have ne:ns≠[]:=by rw[hc];simp
   have lp:0<ns.length:=XE.mpr ne;rw[if_pos ⟨h5,ne⟩] at q;have Mx:=s3 _ _ Pq;have Pt:=oq.same s3;have My:eV D C H (upd H2 p (.lst [])):=c1.trans ((eV.of s2).trans (eV.of s3));generalize upd H2 p (.lst [])=Wj at *;refine⟨N,_,rfl,.inl (.of Mx),?_⟩;rw[Zb];refine⟨D,C,G,d1,ns.length,rfl,Pt,by lia,by lia,by lia,fun j d2 H3 e2 c3 qW=>?_⟩;have bj:=PG.bL e2 (by lia);refine bY (.of (c3.get Mx rD rE)) (wc bj.1 bj.2) fun p8 wY=>?_;have cc:eV D C H H3:=My.trans c3;have s8:=ai.new wY (.tup [V.str (Zj "box"),V.str (L2.S (PG.pick [] ns j))]);refine q (.box (PG.pick [] ns j)) d2 _ _ ?_ (cc.trans (eV.of s8)) (qW.same s8) (gI wY cc.jn (a9.cons Own.str (a9.cons Own.str a9.nil)));simp only[e2]
 refine cV fun X1 x5=>?_;walk_at "rd";refine oz (fun RA=>?_) (fun RA=>(if_neg Zo).mpr (leaf H1 (.refl _) fun z=>RA z.1));refine oz (fun Pu=>(x5 _ _).mpr (aq fun U4 qf=>?_)) (fun Pu=>leaf H1 (.refl _) fun z=>Pu z.2);clear leaf x5;obtain⟨k1,rfl⟩:∃k1,k=k1+1:=⟨k-1,by lia⟩
 have pe:pk=2*2 ^ k1:=by rw[Ry,Int.pow_succ,Int.mul_comm]
 have Wk:(0:Int)<2 ^ k1:=Int.pow_pos (by decide);walk_at "rd";refine⟨D,C,G,d1,3,rfl,rC,by decide,by decide,by lia,fun g d2 H3 e2 c3 qW=>?_⟩;have bg:=PG.bL e2 (by decide);have p2:=PG.bq e2;obtain⟨c,hc,ec⟩:=DF bg.1 bg.2;refine⟨_,_,c,rfl,rfl,by decide,hc,?_⟩;rw[ec];refine(qf _ _).mpr (aq fun U5 wH=>?_);clear qf;have Mx:=c3.get NA rD rE;walk_at "rd";refine⟨D,C,G,N,d2,ns,k1,by simp,by lia,by lia,qW,Mx,rD,rE,hl,fun l d3 v1 H4 e3 c4 BM o4=>(wH _ _).mpr ?_⟩;clear wH;have p3:=PG.rQ ns k1 d2;rw[e3] at p3;simp only at p3;have JT:=c4.get Mx rD rE;walk_at "rd";refine⟨D,C,G,N,d3,ns,k1,by simp,by lia,by lia,BM,JT,rD,rE,hl,fun r d4 v2 H5 e4 c5 BN o5 p8 wY=>?_⟩;have My:eV D C H H3:=c1.trans c3;have cc:=My.trans (c4.trans c5);have s8:=ai.new wY (.tup [V.str (L2.S (PG.pick [] [[43],[45],[42]] g)),v1,v2]);have o1:Own K H H5 (cR l) v1:=(o4.back fun b h=>My.jn b h).chg c5 tW tX;have o2:Own K H H5 (cR r) v2:=o5.back fun b h=>(My.trans c4).jn b h;refine q (.bin (PG.pick [] [[43],[45],[42]] g) l r) d4 _ _ ?_ (cc.trans (eV.of s8)) (BN.same s8) (gI wY cc.jn (a9.cons Own.str (a9.cons o1 (a9.cons o2 a9.nil))));rw[PG.lX];simp only[e1];rw[if_pos Pu];simp only[e2,e3,e4]
theorem AQ(T:Tx K mg t):∀n,bP P w K mg base gA (n+1) t.dw t.dI ["deck", "names", "deep"] (DO K n)
 |0=>T.b5.F.oA jj (fun vs H Q E h=>by obtain⟨_,_,_,_,_,_,_,_,h,_⟩:=h;exact absurd h (Nat.not_lt_zero _)) (fun gP A outer s H vs Q E hr h=>by obtain⟨_,_,_,_,_,_,_,_,h,_⟩:=h;exact absurd h (Nat.not_lt_zero _))
 |n+1=>Jo T (AQ T n)
theorem oQ{H:Hp}{D C G:YE}{d d':PG.Dk}(dk:gw H D C G d)(p:d'.pos=d.pos)(e1:d'.cs=d.cs)(e2:d'.gs=d.gs):gw (upd H D (.lst [.ref C,.int d.pos,.ref G,.int d'.left,.int d'.row,.int d'.gap])) D C G d'/\eV D C H (upd H D (.lst [.ref C,.int d.pos,.ref G,.int d'.left,.int d'.row,.int d'.gap])):=
 ⟨dk.put ((bw.refl D H).put _) (by rw[af,p]) e1 e2 (by rw[p];exact dk.pos),eV.put _ (.inl rfl)⟩
theorem El(T:Tx K mg t){n:Nat}(k0:bP P w K mg base gA (2*n+4) t.bE t.bO ["deck", "names", "deep"] (AD K n)) :
 bP P w K mg base gA (2*n+5) t.cM t.dA ["deck", "names", "deep"] (GN K n):=by
 have aX:=jy (P:=P) (w:=w) (base:=base) T;refine T.bW.F.oA jL (fun vs H Q E h=>?_) (fun gP A outer s H vs Q E hr h=>?_)
 ·obtain⟨_,_,_,_,_,_,_,rfl,_⟩:=h;rfl
 obtain⟨D,C,G,N,d,ns,m,rfl,hm,RB,BJ,FX,dk,hN,rD,rE,hl,q⟩:=h;have nd:=jL.nd;have hu:=jC hr;refine⟨_,[some (V.ref D),some (V.ref N),some (V.int (3-(m:Int))),none,none],(aj (nz 3 nd (aQ ag))
 (aj (dQ PassesOwn.never rfl (uO rfl T.nH (ae (gR aX T.aW hr (b8 0 (ae ah ag aK))) ag b7)) (DC 4 nd)
 (ay (ck (aY uQ (aH bh (pv 0) ah ax) ah (bu _))
 (ay (cp (fL Zs Zx Zy bN (pv 3) (ae (gR k0 T.cW hr (b8 0 (b8 1 (b8 2 ag)))) ag b7))))
 aU)))
 (ay (aT (pv 3))))),rfl,?_⟩
 have line:YM=2 ^ 24:=rfl;have sb:=PG.qz m;refine aq fun U1 gy=>?_;walk_at "rd";intro L hL;refine(gy _ _).mpr (aq fun U2 jz=>?_);clear gy;have s1:=ai.new hL (.lst []);have rC:=dk.same s1;have ou:(upd H L (.lst [])) L=some (.lst []):=af;have nL:L≠D/\L≠C/\L≠N:=⟨(ao dk.cy hL).symm,(ao dk.cs hL).symm,(ao hN hL).symm⟩
 have NA:pF (upd H L (.lst [])) N ns:=s1 _ _ hN;have c1:eV D C H (upd H L (.lst [])):=eV.of s1;generalize upd H L (.lst [])=H1 at *;have tW:=dk.dD;have tX:=dk.dC;refine xv fun U hU=>?_;walk_at "rd";refine⟨D,C,G,d,5,rfl,rC,by decide,by decide,by lia,fun kn d1 H2 e1 c2 oq=>?_⟩;have b1:=PG.bL e1 (by decide);have p1:=PG.bq e1;refine⟨_,rfl,by lia,by lia,hU _ _ ?_⟩;clear hU;obtain⟨k,rfl⟩:∃k:Nat,kn=k:=⟨kn.toNat,by lia⟩
 rw[Z2];have T4:=c1.trans c2;have Pq:=c2.get NA rD rE;have FY:=c2.get ou nL.1 nL.2.1;obtain⟨Pv,um,uo⟩:=Nt fun (i:Nat) (σ:St) (Hx:Hp) zq=>∀(z4:Option V) (dx:PG.Dk) (bs:List PG.aF) (us:List V),σ=[some (V.ref D),some (V.ref N),some (V.int (3-(m:Int))),some (V.ref L),z4]->gw Hx D C G dx->Hx L=some (.lst us)->a9 K H1 Hx (bs.map bp) us->us.length=bs.length->bs.length<=i->dx.pos<=d1.pos+i*PG.wB m->dx.gap=d.gap->(∀b o,H b=some o->b≠D->b≠C->Hx b=some o)->(∀b,H1 b≠none->Hx b≠none)->(∀r d',PG.fG (PG.fR ns m) (k-i) dx=(r,d')->PG.fG (PG.fR ns m) k d1=(bs++r,d'))->zq;refine nh (lo:=0) (n:=k) Pv (um _ _ _ fun _ zk=>zk _ d1 [] [] rfl oq FY a9.nil rfl (Zn _) (by simp) (PG.bG e1).gap (fun b o e n1 n2=>T4.get e n1 n2) c2.jn (fun r d' e=>by simpa using e)) (fun i σ Hx hi hv=>?_) (fun σ Hx hv=>?_)
 ·refine uo _ _ _ hv _ fun z4 dx bs us ze BP Mz ox lu lb NB gx kx uq ex=>?_;subst ze;clear hv;have T5:=kx _ _ hN rD rE;simp only[bV,Xi];walk_at "rd";refine bY (.of BP.cy) (av (j:=3) rfl) ⟨_,_,rfl,rfl,?_⟩;refine⟨_,rfl,?_⟩;have kb:k<=4:=by lia
  have im:(i:Int)*PG.wB m+PG.wB m<=4*PG.wB m:=by
   have:=Xr (show ((i:Int)+1)<=4 by lia) sb;rw[YB,YC] at this;exact this
  have ie:((i+1:Nat):Int)*PG.wB m=i*PG.wB m+PG.wB m:=by rw[Int.natCast_succ,YB,YC]
  have ks:k-i=(k-(i+1))+1:=by lia
  by_cases NC:dx.left>0
  ·refine(if_pos (decide_eq_true NC)).mpr ⟨.inl ⟨rfl,_,.of Mz⟩,D,C,G,N,dx,ns,m,rfl,hm,RB,by lia,(by unfold PG.dG;rw[gx];exact FX),BP,T5,rD,rE,hl,fun s d' v H3 e3 c3 qW o3=>?_⟩;have FZ:=c3.get Mz nL.1 nL.2.1;refine⟨L,us,v,rfl,rfl,FZ,by lia,?_⟩;have uL:bw L H3 (upd H3 L (.lst (us++[v]))):=(bw.refl _ _).put _;have nS:G≠L:=ao dk.gs hL;have dL:H1 L≠none:=by rw[ou];simp
   have p3:=PG.nE ns m dx;rw[e3] at p3;have lt:∀(ds:List Dp) (vs:List V),a9 K H1 H3 ds vs->a9 K H1 (upd H3 L (.lst (us++[v]))) ds vs:=fun ds vs f O hO=>by
    have:=f (fun b=>O b\/b=L) fun b hb=>by
     rcases hb with hb |rfl
     ·exact hO b hb
     ·exact dL
    exact(this.up (aE.one uL (.inr rfl))).sub fun b hb=>.inl hb
   refine um _ _ _ fun _ zk=>zk _ d' (bs++[s]) (us++[v]) rfl ⟨uL _ _ nL.1.symm qW.cy,uL _ _ nL.2.1.symm qW.cs,uL _ _ nS qW.gs,qW.Jd,qW.JO,qW.JP,qW.len,qW.gl,qW.pos⟩ af ?_ (by simp[lu]) (by simp;lia) (by simp only at p3;lia) (by have:=PG.nG ns m dx;rw[e3] at this;exact this.trans gx) (fun b o e n1 n2=>?_) (fun b h=>?_) (fun r d2 er=>?_)
   ·rw[Zl];exact lt _ _ (a9.snoc (ox.chg c3 (by rw[rC.cy];simp) (by rw[rC.cs];simp)) (o3.back uq))
   ·exact uL _ _ (ao e hL) (c3.get (kx b o e n1 n2) n1 n2)
   ·by_cases z:b=L
    ·rw[z,af];simp
    ·rw[aL z];exact c3.jn b (uq b h)
   ·rw[ZA];refine ex ([s]++r) d2 ?_;rw[ks,PG.fG,if_pos NC,e3,er];rfl
  ·refine(if_neg (by rw[decide_eq_false NC];exact Zo)).mpr (um _ _ _ fun _ zk=>zk _ dx bs us rfl BP Mz ox lu (by lia) (by lia) gx kx uq fun r d2 er=>?_);refine ex r d2 ?_;rw[ks,PG.fG,if_neg NC];exact er
 ·refine uo _ _ _ hv _ fun z4 dx bs us ze BP Mz ox lu lb NB gx kx uq ex=>?_;subst ze;refine(jz _ _).mpr ?_;walk_at "rd";have e2:=ex [] dx (by rw[Nat.sub_self];rfl);rw[Zr] at e2;refine q bs dx L us Hx ?_ ⟨fun b o n e=>kx b o e (fun z=>n (.inl z)) (fun z=>n (.inr z)),fun b h=>uq b (c1.jn b h)⟩ BP hL Mz (fun O hO=>ox O fun b hb=>c1.jn b (hO b hb));unfold PG.cP;rw[e1,Z2];exact e2
theorem wJ{K:Za}{H:Hp}{D C G:YE}{dd:PG.Dk}(dk:gw H D C G dd)(M:Hp->Prop)(h:∀H',eV D C H H'->gw H' D C G (PG.hJ dd)->M H') :
 E6 K (V.ref D) (V.int 4) H fun x H1=>E6 K (V.ref D) (V.int 5) H1 fun RC H1=>rg RC (V.int 1)=true/\∃b,[V.bl !decide (RC=V.int 1)]=[V.bl b]/\EZ (fun i j=>V.int (i+j)) x (V.int (if b=true then 1 else 0)) H1 fun x H1=>Gq (V.ref D) (V.int 4) x H1 M:=by
 refine bY (.of dk.cy) (av (j:=4) rfl) (bY (.of dk.cy) (av (j:=5) rfl) ⟨rfl,_,rfl,_,_,rfl,rfl,D,_,4,4,rfl,rfl,dk.cy,rfl,?_⟩);obtain⟨rC,c1⟩:=oQ (d':=PG.hJ dd) dk rfl rfl rfl;have e:dd.row+(if (!decide (V.int dd.gap=V.int 1))=true then 1 else 0)=(PG.hJ dd).row:=by
  unfold PG.hJ;by_cases h1:dd.gap=1
  ·simp[h1]
  ·simp[h1]
 show M (upd H D (.lst [.ref C,.int dd.pos,.ref G,.int dd.left,.int (dd.row+(if (!decide (V.int dd.gap=V.int 1))=true then 1 else 0)),.int dd.gap]));rw[e];exact h _ c1 rC
theorem pW{K:Za}{H Ha Hb:Hp}{L:YE}{ds:List Dp}{us:List V}(ob:a9 K Ha Hb ds us)(y:Hb L=some (.lst us))(hL:Ha L=none)(jn:∀b,H b≠none->Ha b≠none):Own K H Hb (.lst ds) (.ref L):=fun O hO=>Fix.lst y (fun z=>jn _ (hO _ z) hL) (ob O fun b hb=>jn b (hO b hb))
theorem Jp(T:Tx K mg t){n:Nat}(cN:bP P w K mg base gA (2*n+5) t.cM t.dA ["deck", "names", "deep"] (GN K n)) :
 bP P w K mg base gA (2*n+6) t.bE t.bO ["deck", "names", "deep"] (AD K (n+1)):=by
 have aX:=jy (P:=P) (w:=w) (base:=base) T;have dE:=AQ (P:=P) (w:=w) (base:=base) T 4;refine T.cW.F.oA gS (fun vs H Q E h=>?_) (fun gP A outer s H vs Q E hr h=>?_)
 ·obtain⟨_,_,_,_,_,_,_,rfl,_⟩:=h;rfl
 obtain⟨D,C,G,N,d,ns,m,rfl,hm,RB,BJ,FX,dk,hN,rD,rE,hl,q⟩:=h;have nd:=gS.nd;have hu:=jC hr;refine⟨_,[some (V.ref D),some (V.ref N),some (V.int (3-(m:Int))),none,none,none,none,none,none,none],(aj (jB (aG oy (aH bh (pv 0) ah ax) ah) (jA (pv 0) ah set_list))
 (aj (jB (aG cT (aH bh (pv 0) ah ax) ah) (jA (pv 0) ah set_list))
 (aj (ck (aY uQ (aH bh (pv 0) ah ax) ah (bu _))
 (ay (jB (aG cT (aH bh (pv 0) ah ax) (gR aX T.aW hr (b8 0 (ae (aH bh (pv 0) ah ax) ag a8)))) (jA (pv 0) ah set_list)))
 aU)
 (aj (nz 3 nd (aH bh (pv 0) ah ax))
 (aj (nz 4 nd (gR aX T.aW hr (b8 0 (ae ah ag aK))))
 (aj (ck (PW.pt (pw_and (aY qJ (pv 4) ah (bu _)) (pw_and1 (aY (qp (jC hr)) (pv 1) (aQ ag) (bu _)))))
 (ay (aT (bR (ae bQ (b8 3 (ae (aH bh (pv 1) (gR aX T.aW hr (b8 0 (ae (bF bK rfl T.jd PyProof.Rows.Boot.«len» (b8 1 ag)) ag b7))) jQ) ag a8)) aK))))
 aU)
 (aj (ck (PW.pt (pw_and (aY qJ (pv 4) ah (bu _)) (pw_and1 (aY (qp (jC hr)) (pv 1) (aQ ag) (bu _)))))
 (ay (aT (bR (ae bQ (b8 3 (ae (aH bh (pv 1) (gR aX T.aW hr (b8 0 (ae (bF bK rfl T.jd PyProof.Rows.Boot.«len» (b8 1 ag)) ag b7))) jQ) (ae (gR dE T.b5 hr (b8 0 (b8 1 (ae (aG cT ah (aG jh ah (aG iM (pv 3) ah))) ag eI)))) ag b7) a8)) aK))))
 aU)
 (aj (ck (aY qJ (pv 4) ah (bu _))
 (ay (aT (bR (ae bQ (b8 3 (ae (gR dE T.b5 hr (b8 0 (b8 1 (ae (aG cT ah (aG jh ah (aG iM (pv 3) ah))) ag eI)))) ag b7)) aK))))
 aU)
 (aj (ck (PW.pt (pw_and (aY kc (pv 4) ah (bu _)) (pw_and1 (aY kc (gR aX T.aW hr (b8 0 (ae ah ag aK))) ah (bu _)))))
 (ay (aT (bR (ae bQ (b8 3 ag) aK))))
 aU)
 (aj (nz 5 nd (aH Cs bQ (gR aX T.aW hr (b8 0 (ae ah ag aK))) jQ))
 (aj (nz 6 nd (gR dE T.b5 hr (b8 0 (b8 1 (ae (aG cT ah (aG jh ah (aG iM (pv 3) ah))) ag eI)))))
 (aj (nz 7 nd (gR dE T.b5 hr (b8 0 (b8 1 (ae (aG cT ah (aG jh ah (aG iM (pv 3) ah))) ag eI)))))
 (aj (ck (PW.pt (pw_or (aY qJ (pv 4) ah (bu _)) (pw_or1 (aY kc (pv 2) ah (bu _)))))
 (ay (aT (bR (ae bQ (b8 3 (b8 5 (b8 6 (b8 7 ag)))) aK))))
 aU)
 (aj (nz 8 nd (gR cN T.bW hr (b8 0 (b8 1 (ae (aG cT (pv 2) ah) ag eI)))))
 (aj (ck (aY qJ (pv 4) ah (bu _))
 (aj (jB (aG cT (aH bh (pv 0) ah ax) (eG eY rfl T.om PyProof.Rows.Boot.«int» (ae (gY Cj (aH bh (pv 0) ah ax) ah (bu _)) ag l8))) (jA (pv 0) ah set_list))
 (ay (aT (bR (ae bQ (b8 3 (b8 5 (b8 6 (b8 7 (b8 8 ag))))) aK)))))
 aU)
 (aj (nz 9 nd (aQ ag))
 (aj (ck (aY kc (gR aX T.aW hr (b8 0 (ae ah ag aK))) ah (bu _))
 (aj (jB (aG cT (aH bh (pv 0) ah ax) (eG eY rfl T.om PyProof.Rows.Boot.«int» (ae (gY Cj (aH bh (pv 0) ah ax) ah (bu _)) ag l8))) (jA (pv 0) ah set_list))
 (ay (nz 9 nd (gR cN T.bW hr (b8 0 (b8 1 (ae (aG cT (pv 2) ah) ag eI)))))))
 aU)
 (aj (jB (aG cT (aH bh (pv 0) ah ax) (eG eY rfl T.om PyProof.Rows.Boot.«int» (ae (gY Cj (aH bh (pv 0) ah ax) ah (bu _)) ag l8))) (jA (pv 0) ah set_list))
 (ay (aT (bR (ae bQ (b8 3 (b8 5 (b8 6 (b8 7 (b8 8 (b8 9 ag)))))) aK)))))))))))))))))))))),rfl,?_⟩
 have line:YM=2 ^ 24:=rfl;have tW:=dk.dD;have tX:=dk.dC;obtain⟨st,AB,T6,JM⟩:∃st:Option (PG.Dk->PG.aF×PG.Dk),PG.fR ns m d=PG.og st ns d/\(m=0->st=none)/\∀m',m=m'+1->st=some (PG.fR ns m'):=by
  cases m with
  |zero=>exact⟨none,rfl,fun _=>rfl,fun m' e=>by lia⟩
  |succ m=>exact⟨some (PG.fR ns m),rfl,fun e=>by lia,fun m' e=>by rw[show m=m' by lia]⟩
 rw[AB] at q;have Wl:100<=PG.wB m:=by
  cases m with
  |zero=>exact Xp _
  |succ m=>have:=PG.qz m;rw[PG.wB];lia
 refine aq fun U1 gy=>?_;walk_at "rd";refine bY (.of dk.cy) (av (j:=3) rfl) ⟨_,_,rfl,rfl,D,_,3,3,rfl,rfl,dk.cy,rfl,?_⟩;obtain⟨rC,c1⟩:=oQ (d':={d with left:=d.left-1}) dk rfl rfl rfl;show U1 _ (upd H D (.lst [.ref C,.int d.pos,.ref G,.int (d.left-1),.int d.row,.int d.gap]));generalize upd H D (.lst [.ref C,.int d.pos,.ref G,.int (d.left-1),.int d.row,.int d.gap])=H1 at *;refine(gy _ _).mpr (aq fun U2 jz=>?_);clear gy;walk_at "rd";refine bY (.of rC.cy) (av (j:=4) rfl) ⟨_,_,rfl,rfl,D,_,4,4,rfl,rfl,rC.cy,rfl,?_⟩;obtain⟨oq,c2⟩:=oQ (d':={d with left:=d.left-1,row:=d.row+1}) rC rfl rfl rfl;show U2 _ (upd H1 D (.lst [.ref C,.int d.pos,.ref G,.int (d.left-1),.int (d.row+1),.int d.gap]));have c2:eV D C H (upd H1 D (.lst [.ref C,.int d.pos,.ref G,.int (d.left-1),.int (d.row+1),.int d.gap])):=c1.trans c2;generalize upd H1 D (.lst [.ref C,.int d.pos,.ref G,.int (d.left-1),.int (d.row+1),.int d.gap])=H2 at *;refine(jz _ _).mpr (aq fun U3 kE=>?_);clear jz;have head:∀H3,eV D C H H3->gw H3 D C G (PG.aV d)->U3 [some (V.ref D),some (V.ref N),some (V.int (3-(m:Int))),none,none,none,none,none,none,none] H3:=by
  intro H3 c3 qW;have ph:=PG.sS d;have gh:=PG.sT d;refine(kE _ _).mpr (aq fun U4 qf=>?_);clear kE;walk_at "rd";refine bY (.of qW.cy) (av (j:=4) rfl) ((qf _ _).mpr (aq fun U5 wH=>?_));clear qf;unfold PG.og at q;generalize PG.aV d=dh at *;walk_at "rd";refine⟨D,C,G,dh,13,rfl,qW,by decide,by decide,by lia,fun kd d4 H4 e4 c4 BM=>(wH _ _).mpr (aq fun U6 AO=>?_)⟩;clear wH;have p4:=PG.bq e4;have g4:=(PG.bG e4).gap;have ND:=c3.trans c4;have JT:=ND.get hN rD rE;simp only[e4] at q;clear qW c3 c4;have NF:ns≠[]->(0:Int)<ns.length:=fun ne=>by have:=XE.mpr ne;lia
  refine cV fun X1 x5=>?_;have ask:kd<3/\ns≠[]->∀H5,ai H4 H5->X1 [some (V.ref D),some (V.ref N),some (V.int (3-(m:Int))),some (V.int dh.row),some (V.int kd),none,none,none,none,none] H5:=by
   intro hc H5 s5;rw[if_pos hc] at q;have Jq:=s5 _ _ JT;refine(x5 _ _).mpr ?_;walk_at "rd";refine⟨N,_,rfl,.inl (.of Jq),?_⟩;rw[Zb];refine⟨D,C,G,d4,ns.length,rfl,BM.same s5,NF hc.2,by lia,by lia,fun j d6 H6 e6 c6 BO=>?_⟩;have bj:=PG.bL e6 (NF hc.2);refine bY (.of (c6.get Jq rD rE)) (wc bj.1 bj.2) fun p7 wZ=>?_;have cc:=ND.trans ((eV.of s5).trans c6);have s7:=ai.new wZ (.tup [V.str (Zj "ask"),V.int dh.row,V.str (L2.S (PG.pick [] ns j))]);refine q (.ask dh.row (PG.pick [] ns j)) d6 _ _ ?_ (cc.trans (eV.of s7)) (BO.same s7) (gI wZ cc.jn (a9.cons Own.str (a9.cons Own.int (a9.cons Own.str a9.nil))));simp only[e6]
  have r1:¬(kd<3/\ns≠[])->∀H5,ai H4 H5->U6 [some (V.ref D),some (V.ref N),some (V.int (3-(m:Int))),some (V.int dh.row),some (V.int kd),none,none,none,none,none] H5:=by
   intro hc H5 s5;rw[if_neg hc] at q;clear ask x5 hc;have Jq:=s5 _ _ JT;have BN:=BM.same s5;have Px:=ND.trans (eV.of s5);clear JT BM ND s5 H4;refine(AO _ _).mpr (aq fun U7 BK=>?_);clear AO;refine cV fun X2 EM=>?_;have put:kd<5/\ns≠[]->∀H6,ai H5 H6->X2 [some (V.ref D),some (V.ref N),some (V.int (3-(m:Int))),some (V.int dh.row),some (V.int kd),none,none,none,none,none] H6:=by
    intro hc H6 s6;rw[if_pos hc] at q;have MA:=s6 _ _ Jq;refine(EM _ _).mpr ?_;walk_at "rd";refine⟨N,_,rfl,.inl (.of MA),?_⟩;rw[Zb];refine⟨D,C,G,d4,ns.length,rfl,BN.same s6,NF hc.2,by lia,by lia,fun j d7 H7 e7 c7 Ek=>?_⟩;have bj:=PG.bL e7 (NF hc.2);have p7:=PG.bq e7;have MB:=c7.get MA rD rE;refine bY (.of MB) (wc bj.1 bj.2) ⟨ZE ⟨by decide,by decide⟩,D,C,G,N,d7,ns,PG.nP dh.row,by rw[PG.rP],by have:=PG.tj dh.row;lia,by have:=PG.pG dh.row;lia,Ek,MB,rD,rE,hl,fun e d8 v H8 e8 c8 tY o8 p9 yu=>?_⟩;have GX:=Px.trans ((eV.of s6).trans c7);have cc:=GX.trans c8;have s9:=ai.new yu (.tup [V.str (Zj "put"),V.int dh.row,V.str (L2.S (PG.pick [] ns j)),v]);refine q (.put dh.row (PG.pick [] ns j) e) d8 _ _ ?_ (cc.trans (eV.of s9)) (tY.same s9) (gI yu cc.jn (a9.cons Own.str (a9.cons Own.int (a9.cons Own.str (a9.cons (o8.back GX.jn) a9.nil)))));simp only[e7,e8]
   have r2:¬(kd<5/\ns≠[])->∀H6,ai H5 H6->U7 [some (V.ref D),some (V.ref N),some (V.int (3-(m:Int))),some (V.int dh.row),some (V.int kd),none,none,none,none,none] H6:=by
    intro hc H6 s6;rw[if_neg hc] at q;clear put EM hc;have MA:=s6 _ _ Jq;have BO:=BN.same s6;have JU:=Px.trans (eV.of s6);clear Jq BN Px s6 H5;refine(BK _ _).mpr (aq fun U8 GY=>?_);clear BK;walk_at "rd";refine oz (fun h7=>?_) (fun h7=>?_)
    ·rw[if_pos h7] at q;refine⟨ZE ⟨by decide,by decide⟩,D,C,G,N,d4,ns,PG.nP dh.row,by rw[PG.rP],by have:=PG.tj dh.row;lia,by have:=PG.pG dh.row;lia,BO,MA,rD,rE,hl,fun e d8 v H8 e8 c8 tY o8 p9 yu=>?_⟩;have cc:=JU.trans c8;have s9:=ai.new yu (.tup [V.str (Zj "say"),V.int dh.row,v]);refine q (.say dh.row e) d8 _ _ ?_ (cc.trans (eV.of s9)) (tY.same s9) (gI yu cc.jn (a9.cons Own.str (a9.cons Own.int (a9.cons (o8.back JU.jn) a9.nil))));simp only[e8]
    ·rw[if_neg h7] at q;refine(GY _ _).mpr (aq fun U9 MC=>?_);clear GY;have cond:∀(d5:PG.Dk) (H7:Hp),eV D C H H7->gw H7 D C G d5->d5.pos<=d.pos+3->d5.gap=d.gap->(∀s d' v H',PG.jZ st ns dh.row kd d5=(s,d')->eV D C H H'->gw H' D C G d'->Own K H H' (bp s) v->Q v H')->U9 [some (V.ref D),some (V.ref N),some (V.int (3-(m:Int))),some (V.int dh.row),some (V.int kd),none,none,none,none,none] H7:=by
      intro d5 H7 GX Ek p5 g5 q;clear JU BO MA;have MB:=GX.get hN rD rE;unfold PG.jZ at q;refine(MC _ _).mpr (aq fun V1 AR=>?_);clear MC;walk_at "rd";refine⟨D,C,G,d5,2,rfl,Ek,by decide,by decide,by lia,fun z d8 H8 e8 c8 tY=>?_⟩;have bz:=PG.bL e8 (by decide);have p8:=PG.bq e8;have g8:=(PG.bG e8).gap;obtain⟨c,hc,ec⟩:=Jg bz.1 bz.2;refine⟨_,_,c,rfl,rfl,by decide,hc,?_⟩;rw[ec];refine(AR _ _).mpr (aq fun V2 GZ=>?_);clear AR;have Py:=c8.get MB rD rE;walk_at "rd";refine⟨ZE ⟨by decide,by decide⟩,D,C,G,N,d8,ns,PG.nP dh.row,by rw[PG.rP],by have:=PG.tj dh.row;lia,by have:=PG.pG dh.row;lia,tY,Py,rD,rE,hl,fun l d9 v1 H9 e9 c9 JV o9=>(GZ _ _).mpr (aq fun V3 RD=>?_)⟩;clear GZ;have p9:=PG.ku e9;have g9:=(PG.qy e9).gap;have Pz:=c9.get Py rD rE;walk_at "rd";refine⟨ZE ⟨by decide,by decide⟩,D,C,G,N,d9,ns,PG.nP dh.row,by rw[PG.rP],by have:=PG.tj dh.row;lia,by have:=PG.pG dh.row;lia,JV,Pz,rD,rE,hl,fun r da v2 Ha ea ca NG oa=>(RD _ _).mpr (aq fun V4 RE=>?_)⟩;clear RD;have pa:=PG.ku ea;have ga:=(PG.qy ea).gap;simp only[e8,e9,ea] at q;have NH:eV D C H Ha:=GX.trans (c8.trans (c9.trans ca));have o1:Own K H Ha (cR l) v1:=(o9.back (GX.trans c8).jn).chg ca tW tX;have o2:Own K H Ha (cR r) v2:=oa.back (GX.trans (c8.trans c9)).jn;have MD:=ca.get Pz rD rE;have ga:da.gap=d.gap:=by rw[ga,g9,g8,g5]
      have pa:da.pos<=d.pos+96:=by lia
      clear p8 p9 g8 g9 Py Pz MB Ek tY JV GX c8 c9 ca o9 oa e8 e9 ea hc ec;generalize PG.pick [] PG.px z=sg at *;refine cV fun X3 RG=>?_;have bH:(kd<9\/m=0)->X3 [some (V.ref D),some (V.ref N),some (V.int (3-(m:Int))),some (V.int dh.row),some (V.int kd),some (V.str (S sg)),some v1,some v2,none,none] Ha:=by
       intro hc;refine(RG _ _).mpr ?_;walk_at "rd";intro p hp;have s9:=ai.new hp (.tup [V.str (Zj "must"),V.int dh.row,V.str (S sg),v1,v2]);refine q (.bH dh.row sg l r) da _ _ ?_ (NH.trans (eV.of s9)) (NG.same s9) (gI hp NH.jn (a9.cons Own.str (a9.cons Own.int (a9.cons Own.str (a9.cons o1 (a9.cons o2 a9.nil))))));unfold PG.wb;rcases hc with hc |hc
       ·cases st with
        |none=>rfl
        |some s=>simp only;rw[if_pos hc]
       ·rw[T6 hc]
      walk_at "rd";refine oz (fun h9=>(if_pos trivial).mpr (bH (.inl h9))) (fun h9=>oz (fun h3=>bH (.inr (by lia))) (fun h3=>(RE _ _).mpr (aq fun V5 RH=>?_)));clear RE bH RG;obtain⟨m',rfl⟩:∃m',m=m'+1:=⟨m-1,by lia⟩
      have T7:=JM m' rfl;subst T7;have OK:=PG.qz m';have RI:d.pos+(100+8*PG.wB m')<=2 ^ 49:=BJ;unfold PG.wb at q;simp only at q;rw[if_neg h9] at q;have RJ:∀dd:PG.Dk,dd.gap=d.gap->PG.dG dd:=fun dd e=>by unfold PG.dG;rw[e];exact FX
      have ME:(3-((m'+1:Nat):Int)+1)=3-(m':Int):=by lia
      walk_at "rd";rw[ME];refine⟨D,C,G,N,da,ns,m',rfl,by lia,by lia,by lia,RJ da ga,NG,MD,rD,rE,hl,fun a db L1 yv Hb eb cb JW AS ou ob=>(RH _ _).mpr (aq fun V6 RK=>?_)⟩;clear RH;have pb:=PG.kP OK (PG.nE ns m') da;have gb:=PG.kQ (PG.nG ns m') da;rw[eb] at pb gb;simp only at pb gb;simp only[eb] at q;walk_at "rd";have NI:=NH.trans cb;have RL:=o1.chg cb tW tX;have RM:=o2.chg cb tW tX;have oL:Own K H Hb (.lst (a.map bp)) (.ref L1):=pW ob ou AS NH.jn;refine oz (fun FA=>wJ JW _ fun Hc cc PB p hp=>?_) (fun FA=>(RK _ _).mpr (aq fun V7 RN=>?_))
      ·rw[if_pos FA] at q;have RO:=NI.trans cc;have s9:=ai.new hp (.tup [V.str (Zj "while"),V.int dh.row,V.str (S sg),v1,v2,V.ref L1]);refine q (.cZ dh.row sg l r a) _ _ _ rfl (RO.trans (eV.of s9)) (PB.same s9) ?_;rw[bp,aI];exact gI hp RO.jn (a9.cons Own.str (a9.cons Own.int (a9.cons Own.str (a9.cons (RL.chg cc tW tX) (a9.cons (RM.chg cc tW tX) (a9.cons (oL.chg cc tW tX) a9.nil))))))
      rw[if_neg FA] at q;clear RK;walk_at "rd";intro L2 G0;refine(RN _ _).mpr (aq fun V8 T8=>?_);clear RN;have G8:=ai.new G0 (.lst []);have T9:(upd Hb L2 (.lst [])) L2=_:=af;have PC:=JW.same G8;have Ua:eV D C Hb (upd Hb L2 (.lst [])):=eV.of G8;generalize upd Hb L2 (.lst [])=Hc at *;have fin:∀(xs:List PG.aF) (de:PG.Dk) (He:Hp) (L3:YE),eV D C Hb He->gw He D C G de->Own K H He (.lst (xs.map bp)) (.ref L3)->(∀v H',eV D C H H'->gw H' D C G (PG.hJ de)->Own K H H' (bp (.ifs dh.row sg l r a xs)) v->Q v H')->V8 [some (V.ref D),some (V.ref N),some (V.int (3-((m'+1:Nat):Int))),some (V.int dh.row),some (V.int kd),some (V.str (S sg)),some v1,some v2,some (V.ref L1),some (V.ref L3)] He:=by
       intro xs de He L3 ce MF oe q;have PD:=NI.trans ce;refine(T8 _ _).mpr (aq fun V9 Ub=>?_);walk_at "rd";refine wJ MF _ fun Hf cf MG=>(Ub _ _).mpr ?_;walk_at "rd";intro p hp;have s9:=ai.new hp (.tup [V.str (Zj "if"),V.int dh.row,V.str (S sg),v1,v2,V.ref L1,V.ref L3]);have RQ:=PD.trans cf;refine q _ _ (RQ.trans (eV.of s9)) (MG.same s9) ?_;rw[bp,aI,aI];exact gI hp RQ.jn (a9.cons Own.str (a9.cons Own.int (a9.cons Own.str (a9.cons ((RL.chg ce tW tX).chg cf tW tX) (a9.cons ((RM.chg ce tW tX).chg cf tW tX) (a9.cons ((oL.chg ce tW tX).chg cf tW tX) (a9.cons (oe.chg cf tW tX) a9.nil)))))))
      walk_at "rd";refine⟨D,C,G,db,2,rfl,PC,by decide,by decide,by lia,fun tt dd Hd ed cd RR=>⟨rfl,?_⟩⟩;have pd:=PG.bq ed;have gd:=(PG.bG ed).gap;simp only[ed] at q;have NJ:=Ua.trans cd;by_cases ht:tt=1
      ·subst ht;rw[if_pos rfl] at q;refine(if_pos rfl).mpr (wJ RR _ fun He ce MF=>?_);rw[ME];have Uc:=(cb.trans (NJ.trans ce)).get MD rD rE;refine⟨D,C,G,N,PG.hJ dd,ns,m',rfl,by lia,by lia,by show dd.pos+1+4*PG.wB m'<=2 ^ 49;lia,RJ _ (by show dd.gap=d.gap;rw[gd,gb,ga]),MF,Uc,rD,rE,hl,fun b df L3 RT Hf ef cf MG PF FZ Ud=>?_⟩;simp only[ef] at q;exact fin b df Hf L3 ((NJ.trans ce).trans cf) MG (pW Ud FZ PF (NI.trans (NJ.trans ce)).jn) fun v H'=>q _ _ v H' rfl
      ·rw[if_neg ht] at q;refine(if_neg (by intro y;cases y;exact ht rfl)).mpr (fin [] dd Hd L2 NJ RR ?_ fun v H'=>q _ _ v H' rfl);exact(pW (ds:=[]) (us:=[]) a9.nil T9 G0 NI.jn).chg cd tW tX
     have RU:d4.gap=d.gap:=by rw[g4,gh]
     walk_at "rd";refine oz (fun PH=>?_) (fun PH=>(if_neg Zo).mpr (cond d4 H6 JU BO (by lia) RU (fun s d' v H' e=>q s d' v H' (by rw[if_neg PH];exact e))));rw[if_pos PH] at q;refine⟨D,C,G,d4,3,rfl,BO,by decide,by decide,by lia,fun z d8 H8 e8 c8 tY=>?_⟩;simp only[e8] at q;have p8:=PG.bq e8;have g8:=(PG.bG e8).gap;refine⟨rfl,?_⟩;by_cases hz:z=0
     ·subst hz;rw[if_pos rfl] at q;refine(if_pos rfl).mpr fun p9 yu=>?_;have cc:=JU.trans c8;have s9:=ai.new yu (.tup [V.str (Zj "stop"),V.int dh.row]);exact q (.stop dh.row) d8 _ _ rfl (cc.trans (eV.of s9)) (tY.same s9) (gI yu cc.jn (a9.cons Own.str (a9.cons Own.int a9.nil)))
     ·rw[if_neg hz] at q;exact(if_neg (by intro y;cases y;exact hz rfl)).mpr (cond d8 H8 (JU.trans c8) tY (by lia) (by rw[g8,RU]) q)
   walk_at "rd";refine oz (fun h5 p hp=>?_) (fun h5=>(if_neg Zo).mpr (r2 (fun z=>h5 z.1) H5 (.refl _)));have s6:=ai.new hp (.lst []);refine⟨N,p,_,rfl,rfl,.of (s6 _ _ Jq),.of af,?_⟩;cases hc:ns with
   |nil=>exact(if_neg (by simp)).mpr (r2 (fun z=>z.2 hc) _ s6)
   |cons z zs=>exact(if_pos (by simp)).mpr (put ⟨h5,by rw[hc];simp⟩ _ s6)
  walk_at "rd";refine oz (fun h3 p hp=>?_) (fun h3=>(if_neg Zo).mpr (r1 (fun z=>h3 z.1) H4 (.refl _)));have s6:=ai.new hp (.lst []);refine⟨N,p,_,rfl,rfl,.of (s6 _ _ JT),.of af,?_⟩;cases hc:ns with
  |nil=>exact(if_neg (by simp)).mpr (r1 (fun z=>z.2 hc) _ s6)
  |cons z zs=>exact(if_pos (by simp)).mpr (ask ⟨h3,by rw[hc];simp⟩ _ s6)
 walk_at "rd";refine bY (.of oq.cy) (av (j:=5) rfl) ⟨_,_,rfl,rfl,?_⟩;refine⟨_,rfl,?_⟩;have gl:d.gap<=30:=by rcases FX with h |h |h<;>rw[h]<;>decide
 by_cases hg:d.gap>1
 ·refine(if_pos (decide_eq_true hg)).mpr (bY (.of oq.cy) (av (j:=4) rfl) (bY (.of oq.cy) (av (j:=5) rfl) ⟨D,C,G,_,d.gap,rfl,oq,by lia,by lia,by simp only;lia,fun x d3 H3 e3 c3 qW=>⟨_,_,rfl,rfl,D,_,4,4,rfl,rfl,qW.cy,rfl,?_⟩⟩));obtain⟨BM,c4⟩:=oQ (d':={d3 with row:=d3.row+x}) qW rfl rfl rfl;have er:d3.row=d.row+1:=(PG.bG e3).row;have eh:PG.aV d={d3 with row:=d3.row+x}:=by
   unfold PG.aV;rw[if_pos hg,e3]
  show U3 _ (upd H3 D (.lst [.ref C,.int d3.pos,.ref G,.int d3.left,.int (d.row+1+x),.int d3.gap]));rw[<- er];exact head _ (c2.trans (c3.trans c4)) (by rw[eh];exact BM)
 ·refine(if_neg (by rw[decide_eq_false hg];exact Zo)).mpr (head H2 c2 ?_);have eh:PG.aV d={d with left:=d.left-1,row:=d.row+1}:=by
   unfold PG.aV;rw[if_neg hg]
  rw[eh];exact oq
theorem AU(T:Tx K mg t):∀n,bP P w K mg base gA (2*n+4) t.bE t.bO ["deck", "names", "deep"] (AD K n)
 |0=>by
  have no:∀vs H Q E,¬AD K 0 vs H Q E:=fun vs H Q E h=>by obtain⟨_,_,_,_,_,_,_,_,h,_⟩:=h;lia
  exact⟨fun vs H Q E h=>absurd h (no vs H Q E),fun A outer s H args us vs Q E _ _ _ _ h=>absurd h (no vs H Q E)⟩
 |n+1=>Jp T (El T (AU T n))
theorem oR{st:PG.Dk->PG.aF×PG.Dk}:∀(k:Nat) (d:PG.Dk),(PG.fG st k d).1.length<=k
 |0,d=>Zn _
 |k+1,d=>by
  rw[PG.fG];split
  ·have:=oR (st:=st) k (st d).2;simp only[Ze];lia
  ·have:=oR (st:=st) k d;lia
theorem oS{st:PG.Dk->PG.aF×PG.Dk}{d d':PG.Dk}{b:List PG.aF}(h:PG.cP st d=(b,d')):b.length<=4:=by
 have:=oR (st:=st) (PG.draw d 5).1.toNat (PG.draw d 5).2;have e:=congrArg (fun x=>x.1) h;unfold PG.cP at e;simp only at e;rw[e] at this;have:=PG.Ax d (many:=5) (by decide);lia
theorem tL{K:Za}{H0 H:Hp}{ds:List Dp}{us:List V}(o:a9 K H0 H ds us):us.length=ds.length:=(o (fun _=>False) fun _ h=>h.elim).nK.length
theorem PJ(xs:List V)(j:Nat):cO xs none (some (j:Int))=xs.take j:=by
 unfold cO;rw[HT.ke,HT.ni,XJ,W5];by_cases h:j<=xs.length
 ·rw[WM h]
 ·rw[W7 (by lia),Zw,Xl (by lia)]
theorem ur(T:Tx K mg t):bP P w K mg base gA 14 t.ig t.iY ["deck", "most"] (FQ K):=by
 have aX:=jy (P:=P) (w:=w) (base:=base) T;have cN:=El (P:=P) (w:=w) (base:=base) T (AU (P:=P) (w:=w) (base:=base) T 4);refine T.gm.F.oA oi (fun vs H Q E h=>?_) (fun gP A outer s H vs Q E hr h=>?_)
 ·obtain⟨_,_,_,_,_,rfl,_⟩:=h;rfl
 obtain⟨D,C,G,d,most,rfl,dk,hm,BJ,q⟩:=h;have nd:=oi.nd;have hu:=jC hr;refine⟨_,[some (V.ref D),some (V.int most),none,none,none,none,none],(aj (nz 2 nd (aQ ag))
 (aj (dQ PassesOwn.never rfl (ba (bJ gH (aQ (dH (vs:=[.str "a",.str "ab",.str "b"]) (by kernel_rfl))) cq (b6 (gR aX T.aW hr (b8 0 (ae ah ag aK)))))) (DC 3 nd)
 (aj (nz 4 nd (aH bh (aQ (dH (vs:=[.int 2,.int 2,.int 3,.int 4]) (by kernel_rfl))) (gR aX T.aW hr (b8 0 (ae ah ag aK))) jQ))
 (ay (cp (fL Zs Zx Zy bN (pv 2) (ae (bR (b8 3 (b8 4 (ae (gR aX T.aW hr (b8 0 (b8 4 ag))) ag b7)))) ag l7))))))
 (aj (jB (aH bh (aQ (dH (vs:=[.int 0,.int 0,.int 1,.int 30]) (by kernel_rfl))) (gR aX T.aW hr (b8 0 (ae ah ag aK))) jQ) (jA (pv 0) ah set_list))
 (aj (jB (pv 1) (jA (pv 0) ah set_list))
 (aj (jB (bF bK rfl T.jd PyProof.Rows.Boot.«len» (b8 2 ag)) (jA (pv 0) ah set_list))
 (aj (jt (i:=5) nd rfl (ZE rfl) (own:=["box"]) (ix:=[]) rfl (by rfl) (by rfl) (ba (pv 2)) (fun _ _ _ _=>(br (i:=0) (by show List.Nodup (["box"]:List Str);decide +kernel) rfl (ZE rfl))) (fun _ _ _ _=>cu) (fun _ _ _ _=>(aH (gJ (K:=K) rfl) (pv 0) ah ax)))
 (aj (nz 6 nd (aG fe (aG fe (gR cN T.bW hr (b8 0 (b8 5 (ae ah ag aK)))) (gR cN T.bW hr (b8 0 (b8 5 (ae ah ag aK))))) (gR cN T.bW hr (b8 0 (b8 5 (ae ah ag aK))))))
 (ay (aT (bR (b8 2 (b8 6 ag)))))))))))),rfl,?_⟩
 have line:YM=2 ^ 24:=rfl;have tW:=dk.dD;have tX:=dk.dC;refine aq fun U1 gy=>?_;walk_at "rd";intro B hB;refine(gy _ _).mpr (aq fun U2 jz=>?_);clear gy;have s1:=ai.new hB (.lst []);have rC:=dk.same s1;have RV:(upd H B (.lst [])) B=some (.lst []):=af;have nB:B≠D/\B≠C/\G≠B:=⟨(ao dk.cy hB).symm,(ao dk.cs hB).symm,ao dk.gs hB⟩
 have c1:eV D C H (upd H B (.lst [])):=eV.of s1;generalize upd H B (.lst [])=H1 at *;refine eJ fun U hU=>?_;walk_at "rd";intro A0 PK;have s2:=ai.new PK (.lst [V.str (Zj "a"),V.str (Zj "ab"),V.str (Zj "b")]);have Ue:(upd H1 A0 (.lst [V.str (Zj "a"),V.str (Zj "ab"),V.str (Zj "b")])) A0=_:=af;have oq:=rC.same s2;have Ug:=s2 _ _ RV;have RW:A0≠D/\A0≠C:=⟨(ao rC.cy PK).symm,(ao rC.cs PK).symm⟩
 generalize upd H1 A0 (.lst [V.str (Zj "a"),V.str (Zj "ab"),V.str (Zj "b")])=H2 at *;refine⟨D,C,G,d,4,rfl,oq,by decide,by decide,by lia,fun mm d1 H3 e1 c3 qW=>⟨_,rfl,A0,_,rfl,.of (c3.get Ue RW.1 RW.2),fun S1 NK=>⟨S1,rfl,⟨_,.of af⟩,hU _ _ ?_⟩⟩⟩;clear hU;have bm:=PG.bL e1 (by decide);have p1:=PG.bq e1;obtain⟨m,rfl⟩:∃m:Nat,mm=m:=⟨mm.toNat,by lia⟩
 rw[PJ,show [V.str (Zj "a"),V.str (Zj "ab"),V.str (Zj "b")]=PG.cG.map (fun n=>V.str (S n)) from rfl,<- Yo];have Wm:(PG.cG.take m).length<=3:=ZT (by rw[ZK];exact Nat.min_le_right _ _) (Zn 3);unfold PG.qx at q;simp only[e1,Z2] at q;generalize PG.cG.take m=ns at *;have s4:=ai.new NK (.lst (ns.map fun n=>V.str (S n)));have Uh:(upd H3 S1 (.lst (ns.map fun n=>V.str (S n)))) S1=_:=af;have RX:=c3.get Ug nB.1 nB.2.1;have PL:S1≠D/\S1≠C/\S1≠B:=⟨(ao qW.cy NK).symm,(ao qW.cs NK).symm,(ao RX NK).symm⟩
 have BM:=qW.same s4;have Ui:=s4 _ _ RX;have RY:eV D C H1 (upd H3 S1 (.lst (ns.map fun n=>V.str (S n)))):=(eV.of s2).trans (c3.trans (eV.of s4));generalize upd H3 S1 (.lst (ns.map fun n=>V.str (S n)))=H4 at *;have Uj:H1 B≠none:=by rw[RV];simp
 have NL:=rC.dD;have RZ:=rC.dC;have up:∀(Hx:Hp) (ys:List V) (ds:List Dp) (vs:List V),a9 K H1 Hx ds vs->a9 K H1 (upd Hx B (.lst ys)) ds vs:=fun Hx ys ds vs f=>f.up ((bw.refl B Hx).put _) Uj;obtain⟨Pv,um,uo⟩:=Nt fun (i:Nat) (σ:St) (Hx:Hp) zq=>∀(z3 z4:Option V) (dx:PG.Dk) (bs:List PG.eK) (us:List V),σ=[some (V.ref D),some (V.int most),some (V.ref B),z3,z4,none,none]->gw Hx D C G dx->Hx B=some (.lst us)->a9 K H1 Hx (bs.map gZ) us->us.length=bs.length->bs.length<=i->dx.pos<=d1.pos+2*i->Hx S1=some (.lst (ns.map fun n=>V.str (S n)))->(∀b o,H b=some o->b≠D->b≠C->Hx b=some o)->(∀b,H1 b≠none->Hx b≠none)->(∀r d',PG.gf (ns.drop i) dx=(r,d')->PG.gf ns d1=(bs++r,d'))->zq;refine eE (K:=K) (a:=S1) (xs:=ns.map fun n=>V.str (S n)) Pv (um _ _ _ fun _ zk=>zk _ _ d1 [] [] rfl BM Ui a9.nil rfl (Zn _) (by lia) Uh (fun b o e n1 n2=>RY.get (s1 _ _ e) n1 n2) RY.jn (fun r d' e=>by simpa using e)) (fun i σ Hx _ hv=>?_) (fun i y σ Hx hi hv=>?_) (fun σ Hx hv=>?_)
 ·refine uo _ _ _ hv _ fun _ _ _ _ _ _ _ _ _ _ _ _ y _ _ _=>.of y
 ·refine uo _ _ _ hv _ fun z3 z4 dx bs us ze BP MH ox lu lb NB R0 kx uq ex=>?_;subst ze;clear hv;rw[Zq] at hi;obtain⟨nm,Nl,rfl⟩:=ZS.mp hi;have li:=(Zi.mp Nl).1;have dr:ns.drop i=nm::ns.drop (i+1):=by rw[XS li,(Zi.mp Nl).2]
  simp only[bV,Xi];refine aq fun V1 AR=>?_;walk_at "rd";intro p5 uk;have s5:=ai.new uk (.lst [V.int 2,V.int 2,V.int 3,V.int 4]);have y5:(upd Hx p5 (.lst [V.int 2,V.int 2,V.int 3,V.int 4])) p5=_:=af;have n5:p5≠D/\p5≠C:=⟨(ao BP.cy uk).symm,(ao BP.cs uk).symm⟩
  have BN:=BP.same s5;generalize upd Hx p5 (.lst [V.int 2,V.int 2,V.int 3,V.int 4])=H5 at *;refine⟨D,C,G,dx,4,rfl,BN,by decide,by decide,by lia,fun j d6 H6 e6 c6 BO=>?_⟩;have bj:=PG.bL e6 (by decide);have p6:=PG.bq e6;refine bY (.of (c6.get y5 n5.1 n5.2)) (rO (l:=[2,2,3,4]) 2 bj.1 bj.2) ((AR _ _).mpr ?_);clear AR;have pj:=PG.hV (2:Int) (l:=[2,2,3,4]) bj.1 bj.2;rw[dr] at ex;have ex:∀r d',(match PG.draw d6 (PG.pick 2 [2,2,3,4] j) with |(f,d2)=>match PG.gf (ns.drop (i+1)) d2 with |(bs,d3)=>((⟨nm,PG.pick 2 [2,2,3,4] j,f⟩:PG.eK)::bs,d3))=(r,d')->PG.gf ns d1=(bs++r,d'):=fun r d' e=>ex r d' (by rw[PG.gf];simp only[e6];exact e);generalize (PG.pick 2 [2,2,3,4] j:Int)=sz at *;have KO:2<=sz/\sz<=4:=by
   simp only[Zf,ZI,or_false] at pj;lia
  have R1:=c6.get (s5 _ _ MH) nB.1 nB.2.1;walk_at "rd";refine⟨.inl ⟨rfl,_,.of R1⟩,D,C,G,d6,sz,rfl,BO,by lia,by lia,by lia,fun f d7 H7 e7 c7 Ek p8 wY=>?_⟩;have p7:=PG.bq e7;have s8:=ai.new wY (.tup [V.str (S nm),V.int sz,V.int f]);have Uk:=c7.get R1 nB.1 nB.2.1;have R3:eV D C Hx H7:=(eV.of s5).trans (c6.trans c7);have PN:∀b,H1 b≠none->H7 b≠none:=fun b h=>R3.jn b (uq b h);have o8:Own K H1 (upd H7 p8 (.tup [V.str (S nm),V.int sz,V.int f])) (gZ ⟨nm,sz,f⟩) (.ref p8):=gI wY PN (a9.cons Own.str (a9.cons Own.int (a9.cons Own.int a9.nil)));have NM:eV D C Hx (upd H7 p8 (.tup [V.str (S nm),V.int sz,V.int f])):=R3.trans (eV.of s8);have tY:=Ek.same s8;have PQ:=s8 _ _ Uk;generalize upd H7 p8 (.tup [V.str (S nm),V.int sz,V.int f])=H8 at *;refine⟨B,us,.ref p8,rfl,rfl,PQ,by lia,?_⟩;have uB:bw B H8 (upd H8 B (.lst (us++[.ref p8]))):=(bw.refl _ _).put _;refine um _ _ _ fun _ zk=>zk _ _ d7 (bs++[⟨nm,sz,f⟩]) (us++[.ref p8]) rfl ⟨uB _ _ nB.1.symm tY.cy,uB _ _ nB.2.1.symm tY.cs,uB _ _ nB.2.2 tY.gs,tY.Jd,tY.JO,tY.JP,tY.len,tY.gl,tY.pos⟩ af ?_ (by simp[lu]) (by simp;lia) (by lia) (uB _ _ PL.2.2 (NM.get R0 PL.1 PL.2.1)) (fun b o e n1 n2=>uB _ _ (ao e hB) (NM.get (kx b o e n1 n2) n1 n2)) (fun b h=>?_) (fun r d2 er=>?_)
  ·rw[Zl];exact up _ _ _ _ (a9.snoc (ox.chg NM NL RZ) o8)
  ·by_cases z:b=B
   ·rw[z,af];simp
   ·rw[aL z];exact NM.jn b (uq b h)
  ·rw[ZA];refine ex ([⟨nm,sz,f⟩]++r) d2 ?_;simp only[e7,er];rfl
 ·refine uo _ _ _ hv _ fun z3 z4 dx bs us ze BP MH ox lu lb NB R0 kx uq ex=>?_;subst ze;clear hv;have e2:=ex [] dx (by rw[Zb,List.drop_length];rfl);rw[Zr] at e2;simp only[e2] at q;rw[Zb] at lb NB;refine(jz _ _).mpr (aq fun U3 kE=>?_);clear jz;walk_at "rd";intro p5 uk;have s5:=ai.new uk (.lst [V.int 0,V.int 0,V.int 1,V.int 30]);have y5:(upd Hx p5 (.lst [V.int 0,V.int 0,V.int 1,V.int 30])) p5=_:=af;have n5:p5≠D/\p5≠C:=⟨(ao BP.cy uk).symm,(ao BP.cs uk).symm⟩
  have BN:=BP.same s5;generalize upd Hx p5 (.lst [V.int 0,V.int 0,V.int 1,V.int 30])=H5 at *;refine⟨D,C,G,dx,4,rfl,BN,by decide,by decide,by lia,fun j d6 H6 e6 c6 BO=>?_⟩;have bj:=PG.bL e6 (by decide);have p6:=PG.bq e6;refine bY (.of (c6.get y5 n5.1 n5.2)) (rO (l:=[0,0,1,30]) 0 bj.1 bj.2) ⟨D,_,5,5,rfl,rfl,BO.cy,rfl,?_⟩;have pj:=PG.hV (0:Int) (l:=[0,0,1,30]) bj.1 bj.2;simp only[e6] at q;generalize (PG.pick 0 [0,0,1,30] j:Int)=gp at *;have Ul:gp=0\/gp=1\/gp=30:=by
   simp only[Zf,ZI,or_false] at pj;lia
  obtain⟨Ek,c7⟩:=oQ (d':={d6 with gap:=gp}) BO rfl rfl rfl;show U3 _ (upd H6 D (.lst [.ref C,.int d6.pos,.ref G,.int d6.left,.int d6.row,.int gp]));have Um:eV D C Hx (upd H6 D (.lst [.ref C,.int d6.pos,.ref G,.int d6.left,.int d6.row,.int gp])):=(eV.of s5).trans (c6.trans c7);generalize upd H6 D (.lst [.ref C,.int d6.pos,.ref G,.int d6.left,.int d6.row,.int gp])=H7 at *;refine(kE _ _).mpr (aq fun U4 qf=>?_);clear kE;walk_at "rd";refine⟨D,_,3,3,rfl,rfl,Ek.cy,rfl,?_⟩;obtain⟨tY,c8⟩:=oQ (d':={d6 with gap:=gp,left:=most}) Ek rfl rfl rfl;show U4 _ (upd H7 D (.lst [.ref C,.int d6.pos,.ref G,.int most,.int d6.row,.int gp]));have R4:eV D C Hx (upd H7 D (.lst [.ref C,.int d6.pos,.ref G,.int most,.int d6.row,.int gp])):=Um.trans c8;generalize upd H7 D (.lst [.ref C,.int d6.pos,.ref G,.int most,.int d6.row,.int gp])=H8 at *;refine(qf _ _).mpr (aq fun U5 wH=>?_);clear qf;have PQ:=R4.get MH nB.1 nB.2.1;walk_at "rd";refine⟨B,us,rfl,.inl (.of PQ),D,_,4,4,rfl,rfl,tY.cy,rfl,?_⟩;rw[lu];obtain⟨JV,c9⟩:=oQ (d':={d6 with gap:=gp,left:=most,row:=bs.length}) tY rfl rfl rfl;show U5 _ (upd H8 D (.lst [.ref C,.int d6.pos,.ref G,.int most,.int bs.length,.int gp]));have PR:eV D C Hx (upd H8 D (.lst [.ref C,.int d6.pos,.ref G,.int most,.int bs.length,.int gp])):=R4.trans c9;generalize upd H8 D (.lst [.ref C,.int d6.pos,.ref G,.int most,.int bs.length,.int gp])=H9 at *;have p9:({d6 with gap:=gp,left:=most,row:=(bs.length:Int)}:PG.Dk).pos=d6.pos:=rfl;have g9:PG.dG ({d6 with gap:=gp,left:=most,row:=(bs.length:Int)}:PG.Dk):=Ul;generalize ({d6 with gap:=gp,left:=most,row:=(bs.length:Int)}:PG.Dk)=d9 at *;refine(wH _ _).mpr (aq fun U6 AO=>?_);clear wH;have R5:=PR.get MH nB.1 nB.2.1;have o9:=ox.chg PR NL RZ;walk_at "rd";simp only[ft];walk_at "rd";refine⟨⟨us,.of R5⟩,fun N hN=>?_⟩;refine dv (K:=K) (r:=[]) (fun i ys _=>ys=(bs.take i).map fun b=>V.str (S b.name)) (.of R5) (by lia) hN (by simp) (fun i x ys PU hx G8 _ ly Em R hR=>?_) (fun ys HA sA Uo pA=>(AO _ _).mpr (aq fun U7 BK=>?_))
  ·have li:i<bs.length:=by have:=(Zi.mp hx).1;lia
   obtain⟨v',pN,r⟩:=((o9 (fun _=>False) fun _ h=>h.elim).nK.mono G8).get (i:=i) (d:=gZ bs[i]) (by rw[Zq,Zd li];rfl);rw[hx] at pN;cases pN;obtain⟨tp,tv,rfl,tq,tr⟩:=Rep.az.mp r;obtain⟨x1,t1,rfl,r1,_⟩:=aw.ar.mp tr;cases Rep.au.mp r1;walk_at "rd";refine aN tq (av (j:=0) rfl) (hR _ _ (.refl _) ?_);show ys++[V.str (S bs[i].name)]=(bs.take (i+1)).map fun b=>V.str (S b.name);rw[Em,Yj,Zd li,Zl];rfl
  clear AO;rw[lu,Zw] at pA;have R6:pF HA N (bs.map (·.name)):=by
   unfold pF;rw[Uo,pA,ZL];rfl
  have nN:N≠D/\N≠C:=⟨(ao JV.cy hN).symm,(ao JV.cs hN).symm⟩
  have PV:=JV.same sA;have Wn:PG.wB 3=58500:=rfl;have PX:(bs.map (·.name)).length<=10:=by rw[Zb];lia
  have R7:=fun dd:PG.Dk=>PG.kP (PG.qz 3) (PG.nE (bs.map (·.name)) 3) dd;have R8:=fun dd:PG.Dk=>PG.kQ (PG.nG (bs.map (·.name)) 3) dd;have g3:∀ {dd:PG.Dk},dd.gap=d9.gap->PG.dG dd:=fun {dd} e=>by unfold PG.dG;rw[e];exact g9
  walk_at "rd";refine⟨D,C,G,N,d9,bs.map (·.name),3,rfl,by decide,by decide,by lia,g9,PV,R6,nN.1,nN.2,PX,fun a da La ua Ha ea ca NG NN NO oa=>?_⟩;have pa:=R7 d9;have ga:=R8 d9;rw[ea] at pa ga;simp only at pa ga;simp only[ea] at q;have MD:pF Ha N (bs.map (·.name)):=ca.get R6 nN.1 nN.2;refine⟨D,C,G,N,da,bs.map (·.name),3,rfl,by decide,by decide,by lia,g3 ga,NG,MD,nN.1,nN.2,PX,fun b db Lb ub Hb eb cb JW R9 NP ob=>?_⟩;have pb:=R7 da;have gb:=R8 da;rw[eb] at pb gb;simp only at pb gb;simp only[eb] at q;have Up:pF Hb N (bs.map (·.name)):=cb.get MD nN.1 nN.2;have PY:La≠D/\La≠C:=⟨(ao PV.cy NN).symm,(ao PV.cs NN).symm⟩
  have P0:=cb.get NO PY.1 PY.2;have la:ua.length<=4:=by rw[tL oa,Zb];exact oS ea
  have Uq:ub.length<=4:=by rw[tL ob,Zb];exact oS eb
  refine⟨La,Lb,ua,ub,rfl,rfl,P0,NP,by lia,fun Lc Qa=>?_⟩;have sc:=ai.new Qa (.lst (ua++ub));have Ur:(upd Hb Lc (.lst (ua++ub))) Lc=_:=af;have Sa:Lc≠D/\Lc≠C:=⟨(ao JW.cy Qa).symm,(ao JW.cs Qa).symm⟩
  have PB:=JW.same sc;have Us:pF (upd Hb Lc (.lst (ua++ub))) N (bs.map (·.name)):=sc _ _ Up;have cc:eV D C Hb (upd Hb Lc (.lst (ua++ub))):=eV.of sc;generalize upd Hb Lc (.lst (ua++ub))=Hc at *;refine⟨D,C,G,N,db,bs.map (·.name),3,rfl,by decide,by decide,by lia,g3 (gb.trans ga),PB,Us,nN.1,nN.2,PX,fun e de Le ue He ee ce MF Wo Ut oe=>?_⟩;simp only[ee] at q;have Wq:ue.length<=4:=by rw[tL oe,Zb];exact oS ee
  refine⟨Lc,Le,_,_,rfl,rfl,ce.get Ur Sa.1 Sa.2,Ut,by rw[Zc];lia,fun Lf Sb=>(BK _ _).mpr ?_⟩;clear BK;have sf:=ai.new Sb (.lst (ua++ub++ue));have Uu:(upd He Lf (.lst (ua++ub++ue))) Lf=_:=af;have MG:=MF.same sf;have cf:eV D C He (upd He Lf (.lst (ua++ub++ue))):=eV.of sf;generalize upd He Lf (.lst (ua++ub++ue))=Hf at *;walk_at "rd";intro pp MJ;have sp:=ai.new MJ (.tup [V.ref B,V.ref Lf]);have Uv:eV D C H Hx:=⟨fun b o n e=>kx b o e (fun z=>n (.inl z)) (fun z=>n (.inr z)),fun b h=>uq b (c1.jn b h)⟩
  have Sd:=PR.trans (eV.of sA);have JX:=Uv.trans Sd;have Uw:=ce.trans cf;have Se:=cc.trans Uw;have Sf:=cb.trans Se;have Qb:=ca.trans Sf;have oB:Own K H Hf (.lst (bs.map gZ)) (.ref B):=(pW (fun O hO=>ox O fun b hb=>c1.jn b (hO b hb)) MH hB fun _ h=>h).chg (Sd.trans Qb) tW tX;have Ux:a9 K H Hf (a.map bp) ua:=a9.chg (fun O hO=>oa O fun b hb=>JX.jn b (hO b hb)) Sf tW tX;have Uy:a9 K H Hf (b.map bp) ub:=a9.chg (fun O hO=>ob O fun z hb=>(JX.trans ca).jn z (hO z hb)) Se tW tX;have Uz:a9 K H Hf (e.map bp) ue:=a9.chg (fun O hO=>oe O fun z hb=>(JX.trans (ca.trans (cb.trans cc))).jn z (hO z hb)) cf tW tX;have PD:=JX.trans (ca.trans (cb.trans (cc.trans ce)));have oL:Own K H Hf (.lst ((a++b++e).map bp)) (.ref Lf):=fun O hO=>Fix.lst Uu (fun z=>PD.jn _ (hO _ z) Sb) fun H2 u=>by
   rw[Zl,Zl];exact((Ux O hO H2 u).append (Uy O hO H2 u)).append (Uz O hO H2 u)
  exact q _ _ _ _ rfl ((JX.trans Qb).trans (eV.of sp)) (MG.same sp) (gI MJ (JX.trans Qb).jn (a9.cons oB (a9.cons oL a9.nil)))
theorem pX(T:Tx K mg t):bP P w K mg base gA 1 t.eQ t.fJ ["number"] (DP):=by
 obtain⟨AV,pY,pZ⟩:=T.oP;refine T.gj.F.oA jU (fun vs H Q E h=>?_) (fun gP A outer s H vs Q E hr h=>?_)
 ·obtain⟨_,rfl,_⟩:=h;rfl
 obtain⟨n,rfl,q⟩:=h;have nd:=jU.nd;have line:YM=2 ^ 24:=rfl;refine⟨_,[some (.int n),none],(aj (nz 1 nd (aQ ag))
 (aj (ck (aY qJ (pv 0) (rH rfl pY pZ) (bu _))
 (ay (cp (fL Zs Zx Zy bN (pv 1) (ae (aG cT (pv 0) ah) ag eI))))
 aU)
 (aj (ck (aY uQ (pv 0) ah (bu _))
 (ay (cp (fL Zs Zx Zy bN (pv 1) (ae (aG oy (pv 0) ah) ag eI))))
 aU)
 (ay (aT (pv 1)))))),rfl,?_⟩
 refine aq fun U1 gy=>?_;walk_at "rd";intro L hL;refine(gy _ _).mpr (aq fun U2 jz=>?_);clear gy;have s1:=ai.new hL (.lst []);have y1:(upd H L (.lst [])) L=some (.lst []):=af;have last:∀(xs:List Int) (H2:Hp),bw L H H2->H2 L=some (.lst (xs.map V.int))->xs=(if n<999 then [n+1] else [])->U2 [some (.int n),some (.ref L)] H2:=by
  intro xs H2 u2 y2 ex;refine(jz _ _).mpr (aq fun U3 kE=>?_);clear jz;have lx:xs.length<=1:=by rw[ex];split<;>simp
  have fin:∀(ys:List Int) (H3:Hp),bw L H H3->H3 L=some (.lst (ys.map V.int))->ys=PG.iR n->U3 [some (.int n),some (.ref L)] H3:=by
   intro ys H3 u3 y3 ey;refine(kE _ _).mpr ?_;walk_at "rd";rw[ey] at y3;exact q L H3 (u3.same hL) hL y3
  walk_at "rd";refine oz (fun e=>?_) (fun e=>?_)
  ·refine⟨.inl ⟨rfl,_,.of y2⟩,L,_,_,rfl,rfl,y2,by rw[Zb];lia,fin (xs++[n-1]) _ (u2.put _) ?_ ?_⟩
   ·rw[af,Zl];rfl
   ·rw[ex];unfold PG.iR;rw[if_pos (show 0<n by lia)]
  ·exact fin xs _ u2 y2 (by rw[ex];unfold PG.iR;rw[if_neg (show ¬0<n by lia),Zr])
 walk_at "rd";refine oz (fun e=>?_) (fun e=>?_)
 ·refine⟨.inl ⟨rfl,_,.of y1⟩,L,_,_,rfl,rfl,y1,by simp;lia,last [n+1] _ ((bw.of s1).put _) af ?_⟩;rw[if_pos e]
 ·exact last [] _ (.of s1) y1 (by rw[if_neg e])
theorem zr{K:Za}{H:Hp}{tr:PM.Tr}{v:V}(h:Rep K H (cR tr) v)(c:PG.xJ tr):∃a w0 ys,v=.ref a/\bU K H a (.str w0::ys)/\((∃n,tr=.num n/\w0 = "number"/\ys=[.int n])\/(∃x,tr=.box x/\w0 = "box")\/∃o l r vl vr,tr=.bin o l r/\w0=S o/\ys=[vl,vr]/\Rep K H (cR l) vl/\Rep K H (cR r) vr/\w0≠"number"/\w0≠"box"):=by
 cases tr with
 |num n=>
  unfold cR at h;simp only[Rep.az,aw.ar,aw.aD,Rep.au,Rep.aB] at h;obtain⟨a,xs,rfl,hS,_,_,rfl,rfl,_,_,rfl,rfl,rfl⟩:=h;exact⟨a,_,_,rfl,hS,.inl ⟨n,rfl,rfl,rfl⟩⟩
 |box x=>
  unfold cR at h;simp only[Rep.az,aw.ar,aw.aD,Rep.au,Rep.aB] at h;obtain⟨a,xs,rfl,hS,_,_,rfl,rfl,_,_,rfl,rfl,rfl⟩:=h;exact⟨a,_,_,rfl,hS,.inr (.inl ⟨x,rfl,rfl⟩)⟩
 |bin o l r=>
  unfold cR at h;simp only[Rep.az,aw.ar,aw.aD,Rep.au,Rep.aB] at h;obtain⟨a,xs,rfl,hS,_,_,rfl,rfl,vl,_,rfl,hl,vr,_,rfl,UA,rfl⟩:=h;have ho:=c.1;refine⟨a,_,_,rfl,hS,.inr (.inr ⟨o,l,r,vl,vr,rfl,rfl,rfl,hl,UA,?_,?_⟩)⟩
  ·simp only[Zf,ZI,or_false] at ho;rcases ho with rfl |rfl |rfl<;>decide +kernel
  ·simp only[Zf,ZI,or_false] at ho;rcases ho with rfl |rfl |rfl<;>decide +kernel
theorem lq(T:Tx K mg t){n:Nat}(dP:bP P w K mg base gA (n+1) t.bS t.bX ["e"] (my K PG.eC n)) :
 bP P w K mg base gA (n+2) t.bS t.bX ["e"] (my K PG.eC (n+1)):=by
 have qG:=pX (P:=P) (w:=w) (K:=K) (base:=base) T;refine T.cg.F.oA iB (fun vs H Q E h=>?_) (fun gP A outer s H vs Q E hr h=>?_)
 ·obtain⟨_,_,rfl,_⟩:=h;rfl
 obtain⟨v,tr,rfl,hv,tc,ht,h6,q⟩:=h;have nd:=iB.nd;have line:YM=2 ^ 24:=rfl;refine⟨_,[some v,none,none],(aj (ck (aY kc (aH aZ (pv 0) ah ax) bQ (bu _))
 (ay (aT (fH (own:=["number"]) (ix:=[]) rfl (by rfl) (by rfl) (ba (gR qG T.gj hr (ae (aH aZ (pv 0) ah ax) ag a8))) (fun _ _ _ _=>(br (i:=0) (by show List.Nodup (["number"]:List Str);decide +kernel) rfl (ZE rfl))) (fun _ _ _ _=>cu) (fun _ _ _ _=>(bR (ae bQ (b8 0 ag) aK))))))
 aU)
 (aj (ck (aY kc (aH aZ (pv 0) ah ax) bQ (bu _))
 (ay (aT (aQ ag)))
 aU)
 (aj (jt (i:=1) nd rfl (ZE rfl) (own:=["other"]) (ix:=[0]) rfl (by rfl) (by rfl) (ba (gR dP T.cg hr (ae (aH aZ (pv 0) ah ax) ag a8))) (fun _ _ _ _=>(br (i:=0) (by show List.Nodup (["other", "e"]:List Str);decide +kernel) rfl (ZE rfl))) (fun _ _ _ _=>cu) (fun _ _ _ _=>(bR (ae (aH (gJ (K:=K) rfl) (pv 1) ah ax) (b8 0 (ae (aH (gJ (K:=K) rfl) (pv 1) ah ax) ag a8)) a8))))
 (aj (jt (i:=2) nd rfl (ZE rfl) (own:=["other"]) (ix:=[0]) rfl (by rfl) (by rfl) (ba (gR dP T.cg hr (ae (aH aZ (pv 0) ah ax) ag a8))) (fun _ _ _ _=>(br (i:=0) (by show List.Nodup (["other", "e"]:List Str);decide +kernel) rfl (ZE rfl))) (fun _ _ _ _=>cu) (fun _ _ _ _=>(bR (ae (aH (gJ (K:=K) rfl) (pv 1) ah ax) (ae (aH (gJ (K:=K) rfl) (pv 1) ah ax) (b8 0 ag) a8) a8))))
 (ay (aT (aG fe (pv 1) (pv 2)))))))),rfl,?_⟩
 obtain⟨a,w0,ys,rfl,hS,cs⟩:=zr hv tc;refine aq fun U1 gy=>?_;walk_at "rd";refine aN hS (v:=.str w0) (av (j:=0) rfl) ?_;rcases cs with ⟨m,rfl,rfl,rfl⟩ |⟨x,rfl,rfl⟩ |⟨o,l,r,vl,vr,rfl,ew,rfl,hl,BQ,n1,n2⟩
 ·refine⟨rfl,(if_pos rfl).mpr ?_⟩;clear gy;simp only[ft];walk_at "rd";refine aN hS (v:=.int m) (av (j:=1) rfl) ⟨m,rfl,fun L H1 s1 hL yL=>⟨L,rfl,⟨_,.of yL⟩,fun D hD=>?_⟩⟩;have lb:=PG.kS m;refine iS (K:=K) (F:=Dp.int) (G:=cR) PM.Tr.num (PG.iR m) (.of yL) (vk _) (by rw[Zb];lia) hD (fun i x y H2 hy hx rx keep s2 nD _ R hR=>?_) fun ys H2 s2 yD rs=>?_
  ·rw[Rep.aB] at rx;subst rx;walk_at "rd";intro p hp;exact hR _ _ (ai.new hp _) (Fix.tup af (fun z=>by rw[z] at hp;exact nD hp) (.cons .str (.cons .int .nil)))
  ·refine q D ys H2 (s1.trans s2) (s1.free hD) yD ?_;rw[PG.eC];exact rs
 ·refine⟨rfl,(if_neg (by decide +kernel)).mpr ((gy _ _).mpr (aq fun U2 jz=>?_))⟩;clear gy;walk_at "rd";refine aN hS (v:=.str "box") (av (j:=0) rfl) ⟨rfl,(if_pos rfl).mpr fun p hp=>?_⟩;exact q p [] _ (ai.new hp _) hp af .nil
 ·refine⟨rfl,(if_neg (fun z=>n1 (by injection z))).mpr ((gy _ _).mpr (aq fun U2 jz=>?_))⟩;clear gy;walk_at "rd";refine aN hS (v:=.str w0) (av (j:=0) rfl) ⟨rfl,(if_neg (fun z=>n2 (by injection z))).mpr ((jz _ _).mpr (aq fun U3 kE=>?_))⟩;clear jz;subst ew;rw[PG.cB] at ht h6;have pw:∀k,k<=6->2 ^ k<=2 ^ 6:=fun k h=>ZP (by decide) h;have b1:=PG.ky l;have b2:=PG.ky r;have p1:=pw (PG.cB l) (by lia);have p2:=pw (PG.cB r) (by lia);simp only[ft];walk_at "rd";refine aN hS (v:=vl) (av (j:=1) rfl) ⟨vl,l,rfl,hl,tc.2.1,by lia,by lia,fun L1 yv H1 s1 AS ou x6=>⟨L1,rfl,⟨_,.of ou⟩,fun D hD=>?_⟩⟩;show eX (qe K L1) D (bV 0) iO _ _ [none,some (.ref a)] _;refine iS (K:=K) (r:=[some (.ref a)]) (F:=cR) (G:=cR) (fun x=>PM.Tr.bin o x r) (PG.eC l) (.of ou) x6 (by rw[x6.length,Zb];lia) hD (fun i x y H2 hy hx rx keep s2 nD _ R hR=>?_) fun wK H2 s2 yD rV=>(kE _ _).mpr (aq fun U4 qf=>?_)
  ·have BL:=(s1.trans s2).a7 hS;walk_at "rd";refine aN BL (v:=.str (S o)) (av (j:=0) rfl) ?_;refine aN BL (v:=vr) (av (j:=2) rfl) fun p hp=>?_;exact hR _ _ (ai.new hp _) (Fix.tup af (fun z=>by rw[z] at hp;exact nD hp) (.cons .str (.cons ((keep _ _ rx).up (.of (ai.new hp _))) (.cons ((keep _ _ (BQ.mono s1)).up (.of (ai.new hp _))) .nil))))
  clear kE;have qX:=s1.trans s2;simp only[ft];walk_at "rd";refine aN (qX.a7 hS) (v:=vr) (av (j:=2) rfl) ⟨vr,r,rfl,BQ.mono qX,tc.2.2,by lia,by lia,fun L3 RT H3 s3 PF FZ MK=>⟨L3,rfl,⟨_,.of FZ⟩,fun D2 Qc=>?_⟩⟩;show eX (qe K L3) D2 (bV 0) iO _ _ [none,some (.ref a)] _;refine iS (K:=K) (r:=[some (.ref a)]) (F:=cR) (G:=cR) (fun x=>PM.Tr.bin o l x) (PG.eC r) (.of FZ) MK (by rw[MK.length,Zb];lia) Qc (fun i x y H4 hy hx rx keep s4 nD _ R hR=>?_) fun Jr H4 s4 Qd En=>(qf _ _).mpr ?_
  ·have BL:=((qX.trans s3).trans s4).a7 hS;walk_at "rd";refine aN BL (v:=.str (S o)) (av (j:=0) rfl) ?_;refine aN BL (v:=vl) (av (j:=1) rfl) fun p hp=>?_;exact hR _ _ (ai.new hp _) (Fix.tup af (fun z=>by rw[z] at hp;exact nD hp) (.cons .str (.cons ((keep _ _ (hl.mono (qX.trans s3))).up (.of (ai.new hp _))) (.cons ((keep _ _ rx).up (.of (ai.new hp _))) .nil))))
  clear qf;walk_at "rd";have l1:wK.length=(PG.eC l).length:=by rw[rV.length,Zb,Zb]
  have l2:Jr.length=(PG.eC r).length:=by rw[En.length,Zb,Zb]
  refine⟨D,D2,_,_,rfl,rfl,s4 _ _ (s3 _ _ yD),Qd,by lia,fun p hp=>?_⟩;have s5:=ai.new hp (.lst (wK++Jr));have Js:=s3.trans s4;refine q p _ _ ((qX.trans Js).trans s5) ((qX.trans Js).free hp) af ?_;rw[PG.eC,Zl];exact((rV.mono Js).mono s5).append (En.mono s5)
theorem x8(T:Tx K mg t):∀n,bP P w K mg base gA (n+1) t.bS t.bX ["e"] (my K PG.eC n)
 |0=>by
  have no:∀vs H Q E,¬my K PG.eC 0 vs H Q E:=fun vs H Q E h=>by obtain⟨_,_,_,_,_,h,_⟩:=h;lia
  exact⟨fun vs H Q E h=>absurd h (no vs H Q E),fun A outer s H args us vs Q E _ _ _ _ h=>absurd h (no vs H Q E)⟩
 |n+1=>lq T (x8 T n)
theorem nR(T:Tx K mg t)(C:Cd P w K t){n:Nat}(fq:bP P w K mg base gA (n+1) t.b9 t.cx ["e"] (my K PG.eW n)) :
 bP P w K mg base gA (n+2) t.b9 t.cx ["e"] (my K PG.eW (n+1)):=by
 refine T.cE.F.oA jq (fun vs H Q E h=>?_) (fun gP A outer s H vs Q E hr h=>?_)
 ·obtain⟨_,_,rfl,_⟩:=h;rfl
 obtain⟨v,tr,rfl,hv,tc,ht,h6,q⟩:=h;have nd:=jq.nd;have line:YM=2 ^ 24:=rfl;refine⟨_,[some v,none,none],(aj (ck (aY iN (aH aZ (pv 0) ah ax) (bR (dH (vs:=[.str "number",.str "box"]) (by kernel_rfl))) rfl)
 (ay (aT (aQ ag)))
 aU)
 (aj (jt (i:=1) nd rfl (ZE rfl) (own:=["other"]) (ix:=[0]) rfl (by rfl) (by rfl) (ba (gR fq T.cE hr (ae (aH aZ (pv 0) ah ax) ag a8))) (fun _ _ _ _=>(br (i:=0) (by show List.Nodup (["other", "e"]:List Str);decide +kernel) rfl (ZE rfl))) (fun _ _ _ _=>cu) (fun _ _ _ _=>(bR (ae (aH (gJ (K:=K) rfl) (pv 1) ah ax) (b8 0 (ae (aH (gJ (K:=K) rfl) (pv 1) ah ax) ag a8)) a8))))
 (aj (jt (i:=2) nd rfl (ZE rfl) (own:=["other"]) (ix:=[0]) rfl (by rfl) (by rfl) (ba (gR fq T.cE hr (ae (aH aZ (pv 0) ah ax) ag a8))) (fun _ _ _ _=>(br (i:=0) (by show List.Nodup (["other", "e"]:List Str);decide +kernel) rfl (ZE rfl))) (fun _ _ _ _=>cu) (fun _ _ _ _=>(bR (ae (aH (gJ (K:=K) rfl) (pv 1) ah ax) (ae (aH (gJ (K:=K) rfl) (pv 1) ah ax) (b8 0 ag) a8) a8))))
 (ay (aT (aG fe (aG fe (pv 1) (aQ (ae (bR (ae (tf (rH (v:=.ref t.cH) rfl T.mU rfl) (aH aZ (pv 0) ah ax) (fun _ _=>rfl)) (ae (aH aZ (pv 0) ah ax) (ae (aH aZ (pv 0) ah ax) ag a8) a8) a8)) ag l7))) (pv 2))))))),rfl,?_⟩
 obtain⟨a,w0,ys,rfl,hS,cs⟩:=zr hv tc;refine aq fun U3 kE=>?_;walk_at "rd";refine aN hS (v:=.str w0) (av (j:=0) rfl) ?_;have none_:(w0 = "number"\/w0 = "box")->PG.eW tr=[]->∀p,H p=none->Q9 K false (.str w0) (.ref p) (upd H p (.tup [.str "number",.str "box"])) fun x H'=>∃k,x=V.bl k/\if k=true then ∀(p:YE),H' p=none->Q (V.ref p) (upd H' p (.lst [])) else U3 [some (.ref a),none,none] H':=by
  intro hw eo p hp;refine⟨p,_,rfl,.inr (.of af),rfl,rfl,_,rfl,(if_pos ?_).mpr fun p2 pf=>?_⟩
  ·rcases hw with rfl |rfl<;>decide +kernel
  ·refine q p2 [] _ ((ai.new hp _).trans (ai.new pf _)) ((ai.new hp _).free pf) af ?_;rw[eo];exact .nil
 rcases cs with ⟨m,rfl,rfl,rfl⟩ |⟨x,rfl,rfl⟩ |⟨o,l,r,vl,vr,rfl,ew,rfl,hl,BQ,n1,n2⟩
 ·exact none_ (.inl rfl) rfl
 ·exact none_ (.inr rfl) rfl
 ·clear none_;intro p hp;refine⟨p,_,rfl,.inr (.of af),rfl,rfl,_,rfl,(if_neg ?_).mpr ?_⟩
  ·intro z;simp[E9,yO] at z;rcases z with z |z
   ·exact n1 z.symm
   ·exact n2 z.symm
  have s0:=ai.new hp (.tup [V.str (Zj "number"),V.str (Zj "box")]);generalize upd H p _=Hz at *;replace q:=fun L us H' (s':ai Hz H') (hL:Hz L=none) y r=>q L us H' (s0.trans s') (s0.free hL) y r;replace hS:=s0.a7 hS;replace hl:=hl.mono s0;replace BQ:=BQ.mono s0;clear s0 hp;refine(kE _ _).mpr (aq fun U3 kE=>?_);subst ew;rw[PG.cB] at ht h6;have pw:∀k,k<=6->2 ^ k<=2 ^ 6:=fun k h=>ZP (by decide) h;have b1:=PG.kz l;have b2:=PG.kz r;have p1:=pw (PG.cB l) (by lia);have p2:=pw (PG.cB r) (by lia);simp only[ft];walk_at "rd";refine aN hS (v:=vl) (av (j:=1) rfl) ⟨vl,l,rfl,hl,tc.2.1,by lia,by lia,fun L1 yv H1 s1 AS ou x6=>⟨L1,rfl,⟨_,.of ou⟩,fun D hD=>?_⟩⟩;show eX (qe K L1) D (bV 0) iO _ _ [none,some (.ref a)] _;refine iS (K:=K) (r:=[some (.ref a)]) (F:=cR) (G:=cR) (fun x=>PM.Tr.bin o x r) (PG.eW l) (.of ou) x6 (by rw[x6.length,Zb];lia) hD (fun i x y H2 hy hx rx keep s2 nD _ R hR=>?_) fun wK H2 s2 yD rV=>(kE _ _).mpr (aq fun U4 qf=>?_)
  ·have BL:=(s1.trans s2).a7 hS;walk_at "rd";refine aN BL (v:=.str (S o)) (av (j:=0) rfl) ?_;refine aN BL (v:=vr) (av (j:=2) rfl) fun p hp=>?_;exact hR _ _ (ai.new hp _) (Fix.tup af (fun z=>by rw[z] at hp;exact nD hp) (.cons .str (.cons ((keep _ _ rx).up (.of (ai.new hp _))) (.cons ((keep _ _ (BQ.mono s1)).up (.of (ai.new hp _))) .nil))))
  clear kE;have qX:=s1.trans s2;simp only[ft];walk_at "rd";refine aN (qX.a7 hS) (v:=vr) (av (j:=2) rfl) ⟨vr,r,rfl,BQ.mono qX,tc.2.2,by lia,by lia,fun L3 RT H3 s3 PF FZ MK=>⟨L3,rfl,⟨_,.of FZ⟩,fun D2 Qc=>?_⟩⟩;show eX (qe K L3) D2 (bV 0) iO _ _ [none,some (.ref a)] _;refine iS (K:=K) (r:=[some (.ref a)]) (F:=cR) (G:=cR) (fun x=>PM.Tr.bin o l x) (PG.eW r) (.of FZ) MK (by rw[MK.length,Zb];lia) Qc (fun i x y H4 hy hx rx keep s4 nD _ R hR=>?_) fun Jr H4 s4 Qd En=>(qf _ _).mpr ?_
  ·have BL:=((qX.trans s3).trans s4).a7 hS;walk_at "rd";refine aN BL (v:=.str (S o)) (av (j:=0) rfl) ?_;refine aN BL (v:=vl) (av (j:=1) rfl) fun p hp=>?_;exact hR _ _ (ai.new hp _) (Fix.tup af (fun z=>by rw[z] at hp;exact nD hp) (.cons .str (.cons ((keep _ _ (hl.mono (qX.trans s3))).up (.of (ai.new hp _))) (.cons ((keep _ _ rx).up (.of (ai.new hp _))) .nil))))
  clear qf;have Eo:=((qX.trans s3).trans s4).a7 hS;have UC:=((hl.mono qX).mono s3).mono s4;have UD:=((BQ.mono qX).mono s3).mono s4;have l1:wK.length=(PG.eW l).length:=by rw[rV.length,Zb,Zb]
  have l2:Jr.length=(PG.eW r).length:=by rw[En.length,Zb,Zb]
  have y1:=s4 _ _ (s3 _ _ yD);have Js:=s3.trans s4;walk_at "rd";refine aN Eo (v:=.str (S o)) (av (j:=0) rfl) ⟨.str (S (PG.cL o)),⟨_,_,.inr (S o),rfl,C.oo,rfl,(AE (.inl tc.1)).symm⟩,?_⟩;refine aN Eo (v:=vl) (av (j:=1) rfl) ?_;refine aN Eo (v:=vr) (av (j:=2) rfl) fun p5 uk p6 yt=>?_;have s5:=ai.new uk (.tup [V.str (S (PG.cL o)),vl,vr]);have y5:(upd H4 p5 (.tup [V.str (S (PG.cL o)),vl,vr])) p5=_:=af;generalize upd H4 p5 (.tup [V.str (S (PG.cL o)),vl,vr])=H5 at *;have s6:=ai.new yt (.lst [V.ref p5]);have y6:(upd H5 p6 (.lst [V.ref p5])) p6=_:=af;have UE:=s6 _ _ y5;generalize upd H5 p6 (.lst [V.ref p5])=H6 at *;have F1:=s5.trans s6;refine⟨D,p6,_,_,rfl,rfl,F1 _ _ y1,y6,by simp only[Zm];lia,fun p7 wZ=>?_⟩;have s7:=ai.new wZ (.lst (wK++[V.ref p5]));have y7:(upd H6 p7 (.lst (wK++[V.ref p5]))) p7=_:=af;generalize upd H6 p7 (.lst (wK++[V.ref p5]))=H7 at *;have JY:=F1.trans s7;refine⟨p7,D2,_,_,rfl,rfl,y7,JY _ _ Qd,by simp only[Zc,Zm];lia,fun p8 wY=>?_⟩;have s8:=ai.new wY (.lst (wK++[V.ref p5]++Jr));have y8:(upd H7 p8 (.lst (wK++[V.ref p5]++Jr))) p8=_:=af;generalize upd H7 p8 (.lst (wK++[V.ref p5]++Jr))=H8 at *;have ML:=JY.trans s8;have MM:=(qX.trans Js).trans ML;refine q p8 _ _ MM ((qX.trans Js).free (JY.free wY)) y8 ?_;rw[PG.eW,Zl,ZD,ZA];refine((rV.mono Js).mono ML).append (.cons ?_ (En.mono ML));unfold cR;exact Rep.az.mpr ⟨p5,_,rfl,.of (s8 _ _ (s7 _ _ UE)),.cons (Rep.au.mpr rfl) (.cons (UC.mono ML) (.cons (UD.mono ML) .nil))⟩
theorem x9(T:Tx K mg t)(C:Cd P w K t):∀n,bP P w K mg base gA (n+1) t.b9 t.cx ["e"] (my K PG.eW n)
 |0=>by
  have no:∀vs H Q E,¬my K PG.eW 0 vs H Q E:=fun vs H Q E h=>by obtain⟨_,_,_,_,_,h,_⟩:=h;lia
  exact⟨fun vs H Q E h=>absurd h (no vs H Q E),fun A outer s H args us vs Q E _ _ _ _ h=>absurd h (no vs H Q E)⟩
 |n+1=>nR T C (x9 T C n)
theorem qa(T:Tx K mg t):bP P w K mg base gA 1 t.i9 t.ju ["statement", "place", "part"] (Jj K):=by
 refine T.gV.F.oA pT (fun vs H Q E h=>?_) (fun gP A outer s H vs Q E hr h=>?_)
 ·obtain⟨_,_,_,_,rfl,_⟩:=h;rfl
 obtain⟨a,xs,j,x,rfl,hS,hj,UG,q⟩:=h;have nd:=pT.nd;have line:YM=2 ^ 24:=rfl;refine⟨_,[some (.ref a),some (.int j),some x],(ay (aT (aG g7 (aG g7 (bJ hE (pv 0) cq (b6 (pv 1))) (bR (b8 2 ag))) (bJ hE (pv 0) (b6 (aG cT (pv 1) ah)) cq)))),rfl,?_⟩;walk_at "rd";refine⟨_,rfl,a,xs,rfl,hS,fun p1 H1 s1 h1 p2 pf=>?_⟩;have s2:=ai.new pf (.tup [x]);have y2:(upd H1 p2 (.tup [x])) p2=_:=af;generalize upd H1 p2 (.tup [x])=H2 at *;have e1:=mv xs (x:=(j:Int)) (by lia);have e2:cO xs (some ((j:Int)+1)) none=xs.drop (j+1):=by rw[show ((j:Int)+1)=((j+1:Nat):Int) by lia];exact fQ xs (j+1)
 have l1:(cO xs none (some (j:Int))).length<=10:=by rw[e1,ZK];lia
 have l2:(cO xs (some ((j:Int)+1)) none).length<=10:=by rw[e2,ZW];lia
 refine⟨p1,p2,_,_,rfl,rfl,s2.a7 h1,.of y2,by simp only[Zm];lia,fun p3 H3 s3 h3=>⟨_,rfl,a,xs,rfl,((s1.trans s2).trans s3).a7 hS,fun p4 H4 s4 h4=>⟨p3,p4,_,_,rfl,rfl,s4.a7 h3,h4,by simp only[Zc,Zm];lia,fun p5 H5 s5 h5=>?_⟩⟩⟩;rw[we xs hj] at h5;exact q p5 H5 ((((s1.trans s2).trans s3).trans s4).trans s5) h5
theorem jO(T:Tx K mg t)(C:Cd P w K t):bP P w K mg base gA 9 t.bZ t.cz ["statement"] (Jk K):=by
 have jW:=qa (P:=P) (w:=w) (base:=base) T;have dP:=x8 (P:=P) (w:=w) (base:=base) T 7;have fq:=x9 (base:=base) T C 7;refine T.cI.F.oA gu (fun vs H Q E h=>?_) (fun gP A outer s H vs Q E hr h=>?_)
 ·obtain⟨_,_,_,_,rfl,_⟩:=h;rfl
 obtain⟨v,st,H0,O,rfl,s0,hv,sc,tZ,q⟩:=h;have nd:=gu.nd;have line:YM=2 ^ 24:=rfl;obtain⟨a0,a1,a2,a3,a4,a5,a6,dc,h0,h1,h2,h3,h4,h5,h6⟩:=C.nQ;obtain⟨a,w0,xs,pl,ex,re,b,rfl,hS,po,ev,hb⟩:=L4 hv sc a0 a1 a2 a3 a4 a5 a6 (h0 H0) (h1 H0) (h2 H0) (h3 H0) (h4 H0) (h5 H0) (h6 H0);replace hS:=s0.a7 hS;replace hb:=s0.a7 hb;refine⟨_,[some (.ref a),none,none,none],(aj (nz 1 nd (tf (rH (v:=.ref t.bI) rfl T.mT rfl) (aH aZ (pv 0) ah ax) (fun _ _=>rfl)))
 (aj (nz 2 nd (aQ ag))
 (aj (dQ PassesOwn.never rfl (vO (pv 1)) (br (i:=3) nd rfl (XT rfl))
 (ay (cp (fL Zs XB XC nk (pv 2) (ae (fH (own:=["e"]) (ix:=[0,3]) rfl (by rfl) (by rfl) (ba (gR dP T.cg hr (ae (aH aZ (pv 0) (pv 3) iV) ag a8))) (fun _ _ _ _=>(br (i:=0) (by show List.Nodup (["e", "statement", "place"]:List Str);decide +kernel) rfl (ZE rfl))) (fun _ _ _ _=>cu) (fun _ _ _ _=>(gR jW T.gV hr (b8 1 (b8 2 (b8 0 ag)))))) ag kJ)))))
 (aj (dQ PassesOwn.never rfl (vO (pv 1)) (br (i:=3) nd rfl (XT rfl))
 (ay (cp (fL Zs XB XC nk (pv 2) (ae (fH (own:=["e"]) (ix:=[0,3]) rfl (by rfl) (by rfl) (ba (gR fq T.cE hr (ae (aH aZ (pv 0) (pv 3) iV) ag a8))) (fun _ _ _ _=>(br (i:=0) (by show List.Nodup (["e", "statement", "place"]:List Str);decide +kernel) rfl (ZE rfl))) (fun _ _ _ _=>cu) (fun _ _ _ _=>(gR jW T.gV hr (b8 1 (b8 2 (b8 0 ag)))))) ag kJ)))))
 (ay (aT (pv 2))))))),rfl,?_⟩
 refine aq fun U1 gy=>?_;walk_at "rd";refine aN hS (v:=.str w0) (av (j:=0) rfl) ⟨.ref b,⟨_,_,.inr w0,rfl,dc,rfl,ev.symm⟩,(gy _ _).mpr (aq fun U2 jz=>?_)⟩;clear gy;walk_at "rd";intro L hL;refine(jz _ _).mpr (aq fun U3 kE=>?_);clear jz;refine sM fun U hU=>?_;walk_at "rd";refine⟨⟨_,(ai.new hL (.lst [])).a7 hb⟩,hU _ _ ?_⟩;clear hU;obtain⟨UH,BR⟩:∃Pv:Nat->St->Hp->Prop,∀i σ Hx,Pv i σ Hx↔∃(z3:Option V) (us:List V),σ=[some (.ref a),some (.ref b),some (.ref L),z3]/\ai H Hx/\Hx L=some (.lst us)/\us.length<=0+1000*i/\aM K (fun g=>g=L\/O g) Hx (((pl.take i).flatMap fun j=>(PG.eC (ex j)).map (re j)).map bp) us:=⟨_,fun _ _ _=>Iff.rfl⟩
 refine vP (K:=K) (a:=b) (xs:=pl.map fun j=>V.int (j:Nat)) UH ((BR _ _ _).mpr ⟨none,[],rfl,ai.new hL _,af,by simp,aM.nil⟩) ?_ ?_ ?_
 ·intro i σ Hx hi hv;obtain⟨_,_,_,sx,_⟩:=(BR _ _ _).mp hv;exact sx.a7 hb
 ·intro i x σ Hx hx hv;obtain⟨z3,us,rfl,sx,yx,lu,fx⟩:=(BR _ _ _).mp hv;clear hv;rw[Zq] at hx;obtain⟨j,hj,rfl⟩:=ZS.mp hx;have mj:=Z4 hj;have li:=(Zi.mp hj).1;have Qe:=po.n8;obtain⟨vj,MN,rj,Qf,dj⟩:=po.at_ j mj;have Qg:=po.lt j mj;have Qh:=po.len;have tk:(pl.take (i+1)).flatMap (fun j=>(PG.eC (ex j)).map (re j))=(pl.take i).flatMap (fun j=>(PG.eC (ex j)).map (re j))++(PG.eC (ex j)).map (re j):=by
   rw[ZV,hj,ZR];simp
  have bl:=PG.ky (ex j);have pw:2 ^ PG.cB (ex j)<=2 ^ 6:=ZP (by decide) dj;simp only[ft];walk_at "rd";refine⟨.inl ⟨rfl,_,.of yx⟩,aN (sx.a7 hS) (v:=vj) (av MN) ⟨vj,ex j,rfl,rj.mono (s0.trans sx),Qf,by lia,dj,fun L1 yv H1 s1 AS ou x6=>⟨L1,rfl,⟨_,.of ou⟩,fun D hD=>?_⟩⟩⟩;have Sg:L≠D:=ao (s1 _ _ yx) hD;show eX (qe K L1) D (bV 0) iO _ _ [none,some (.ref a),some (.int j)] _;have hO:∀g,(g=D\/(g=L\/O g))->g=D\/∃ys,H1 g=some (.lst ys):=fun g h=>h.imp id fun z=>z.elim (fun z=>by rw[z];exact⟨_,s1 _ _ yx⟩) fun z=>let ⟨zs,e⟩:=(tZ g z).2;⟨zs,s1 _ _ (sx _ _ e)⟩;refine kT (K:=K) (r:=[some (.ref a),some (.int j)]) (F:=cR) (G:=bp) (fun g=>g=D\/(g=L\/O g)) (.inl rfl) hO (re j) (PG.eC (ex j)) (.of ou) x6.fix (by rw[x6.length,Zb];lia) hD (fun i2 x y H2 hy hx rx s2 F2 R hR=>?_) fun ys H2 s2 yD rV=>?_
  ·walk_at "rd";refine⟨a,_,j,x,rfl,((sx.trans s1).trans s2).a7 hS,Qg,by lia,fun p H3 s3 h3=>hR _ _ s3 fun H4 u4=>?_⟩;have Hg:∀g,(g=D\/(g=L\/O g))->∃ys,H3 g=some (.lst ys):=fun g hg=>let ⟨zs,e⟩:=F2 g hg;⟨zs,s3 _ _ e⟩;refine po.put j mj H4 (fun d v h=>h.mono fun b o e=>u4 b o ?_ (s3 _ _ (s2 _ _ (s1 _ _ (sx _ _ (s0 _ _ e)))))) p x y (eL Hg u4 h3) (km Hg u4 _ _ (sO y) (rx.rep.mono (s2.trans s3)));have eH:=s0 _ _ e
   rintro (z |z |z)
   ·rw[z] at eH;have:=s1 _ _ (sx _ _ eH);rw[hD] at this;cases this
   ·rw[z,hL] at eH;cases eH
   ·rw[(tZ _ z).1] at e;cases e
  have JZ:ys.length=(PG.eC (ex j)).length:=by rw[rV.nK.length,Zb,Zb]
  have Jt:=s1.trans s2;have Qi:=Jt _ _ yx;refine⟨L,D,us,ys,rfl,rfl,Qi,yD,by lia,(BR _ _ _).mpr ⟨_,us++ys,rfl,?_,af,by rw[Zc];lia,?_⟩⟩
  ·exact((bw.of (sx.trans Jt)).put _).same hL
  ·rw[tk,Zl];have f1:=fx.up (.of Jt);have f2:aM K (fun g=>g=L\/O g) H2 _ ys:=rV.sub fun g hg=>.inr hg;exact aM.up (O:=fun g=>g=L\/O g) (H:=H2) (fun H3 u=>(f1 H3 u).append (f2 H3 u)) (aE.put (O:=fun g=>g=L\/O g) aE.refl (.inl rfl) _)
 ·intro σ Hx hv;obtain⟨z3,us,rfl,sx,yx,lu,fx⟩:=(BR _ _ _).mp hv;rw[Zb,Zw] at fx;clear hv BR;refine(kE _ _).mpr (aq fun U4 qf=>?_);clear kE;refine sM fun U hU=>?_;walk_at "rd";refine⟨⟨_,sx.a7 hb⟩,hU _ _ ?_⟩;clear hU;obtain⟨UI,Ep⟩:∃Pv:Nat->St->Hp->Prop,∀i σ Hx,Pv i σ Hx↔∃(z3:Option V) (us:List V),σ=[some (.ref a),some (.ref b),some (.ref L),z3]/\ai H Hx/\Hx L=some (.lst us)/\us.length<=2000+1000*i/\aM K (fun g=>g=L\/O g) Hx ((PG.eO PG.eC st++(pl.take i).flatMap fun j=>(PG.eW (ex j)).map (re j)).map bp) us:=⟨_,fun _ _ _=>Iff.rfl⟩
  refine vP (K:=K) (a:=b) (xs:=pl.map fun j=>V.int (j:Nat)) UI ((Ep _ _ _).mpr ⟨z3,us,rfl,sx,yx,by have:=po.n8;rw[Zb] at lu;lia,by rw[po.all];simpa using fx⟩) ?_ ?_ ?_
  ·intro i σ Hx hi hv;obtain⟨_,_,_,sx,_⟩:=(Ep _ _ _).mp hv;exact sx.a7 hb
  ·intro i x σ Hx hx hv;obtain⟨z3,us,rfl,sx,yx,lu,fx⟩:=(Ep _ _ _).mp hv;clear hv;rw[Zq] at hx;obtain⟨j,hj,rfl⟩:=ZS.mp hx;have mj:=Z4 hj;have li:=(Zi.mp hj).1;have Qe:=po.n8;obtain⟨vj,MN,rj,Qf,dj⟩:=po.at_ j mj;have Qg:=po.lt j mj;have Qh:=po.len;have tk:(pl.take (i+1)).flatMap (fun j=>(PG.eW (ex j)).map (re j))=(pl.take i).flatMap (fun j=>(PG.eW (ex j)).map (re j))++(PG.eW (ex j)).map (re j):=by
    rw[ZV,hj,ZR];simp
   have bl:=PG.kz (ex j);have pw:2 ^ PG.cB (ex j)<=2 ^ 6:=ZP (by decide) dj;simp only[ft];walk_at "rd";refine⟨.inl ⟨rfl,_,.of yx⟩,aN (sx.a7 hS) (v:=vj) (av MN) ⟨vj,ex j,rfl,rj.mono (s0.trans sx),Qf,by lia,dj,fun L1 yv H1 s1 AS ou x6=>⟨L1,rfl,⟨_,.of ou⟩,fun D hD=>?_⟩⟩⟩;have Sg:L≠D:=ao (s1 _ _ yx) hD;show eX (qe K L1) D (bV 0) iO _ _ [none,some (.ref a),some (.int j)] _;have hO:∀g,(g=D\/(g=L\/O g))->g=D\/∃ys,H1 g=some (.lst ys):=fun g h=>h.imp id fun z=>z.elim (fun z=>by rw[z];exact⟨_,s1 _ _ yx⟩) fun z=>let ⟨zs,e⟩:=(tZ g z).2;⟨zs,s1 _ _ (sx _ _ e)⟩;refine kT (K:=K) (r:=[some (.ref a),some (.int j)]) (F:=cR) (G:=bp) (fun g=>g=D\/(g=L\/O g)) (.inl rfl) hO (re j) (PG.eW (ex j)) (.of ou) x6.fix (by rw[x6.length,Zb];lia) hD (fun i2 x y H2 hy hx rx s2 F2 R hR=>?_) fun ys H2 s2 yD rV=>?_
   ·walk_at "rd";refine⟨a,_,j,x,rfl,((sx.trans s1).trans s2).a7 hS,Qg,by lia,fun p H3 s3 h3=>hR _ _ s3 fun H4 u4=>?_⟩;have Hg:∀g,(g=D\/(g=L\/O g))->∃ys,H3 g=some (.lst ys):=fun g hg=>let ⟨zs,e⟩:=F2 g hg;⟨zs,s3 _ _ e⟩;refine po.put j mj H4 (fun d v h=>h.mono fun b o e=>u4 b o ?_ (s3 _ _ (s2 _ _ (s1 _ _ (sx _ _ (s0 _ _ e)))))) p x y (eL Hg u4 h3) (km Hg u4 _ _ (sO y) (rx.rep.mono (s2.trans s3)));have eH:=s0 _ _ e
    rintro (z |z |z)
    ·rw[z] at eH;have:=s1 _ _ (sx _ _ eH);rw[hD] at this;cases this
    ·rw[z,hL] at eH;cases eH
    ·rw[(tZ _ z).1] at e;cases e
   have JZ:ys.length=(PG.eW (ex j)).length:=by rw[rV.nK.length,Zb,Zb]
   have Jt:=s1.trans s2;have Qi:=Jt _ _ yx;refine⟨L,D,us,ys,rfl,rfl,Qi,yD,by lia,(Ep _ _ _).mpr ⟨_,us++ys,rfl,?_,af,by rw[Zc];lia,?_⟩⟩
   ·exact((bw.of (sx.trans Jt)).put _).same hL
   ·rw[tk,<- ZA,Zl];have f1:=fx.up (.of Jt);have f2:aM K (fun g=>g=L\/O g) H2 _ ys:=rV.sub fun g hg=>.inr hg;exact aM.up (O:=fun g=>g=L\/O g) (H:=H2) (fun H3 u=>(f1 H3 u).append (f2 H3 u)) (aE.put (O:=fun g=>g=L\/O g) aE.refl (.inl rfl) _)
  ·intro σ Hx hv;obtain⟨z3,us,rfl,sx,yx,lu,fx⟩:=(Ep _ _ _).mp hv;rw[Zb,Zw,<- po.all] at fx;refine(qf _ _).mpr ?_;walk_at "rd";exact q L us Hx sx hL yx (fx.sub fun g hg=>.inr hg)
theorem yb{st:PG.aF}(c:xK st):(PG.eO PG.eC st++PG.eO PG.eW st).length<=1000:=by
 have pw:∀ {e:PM.Tr},PG.cB e<=6->(PG.eC e).length<=128/\(PG.eW e).length<=64:=fun {e} h=>by
  have h1:=PG.ky e;have h2:=PG.kz e;have:2 ^ PG.cB e<=2 ^ 6:=ZP (by decide) h;lia
 cases st with
 |put k b e=>have:=pw c.2;simp only[PG.eO,Zc,Zb];lia
 |say k e=>have:=pw c.2;simp only[PG.eO,Zc,Zb];lia
 |bH k sg l r=>have:=pw c.2.1.2;have:=pw c.2.2.2;simp only[PG.eO,Zc,Zb];lia
 |ifs k sg l r x y=>have:=pw c.2.1.2;have:=pw c.2.2.2;simp only[PG.eO,Zc,Zb];lia
 |cZ k sg l r x=>have:=pw c.2.1.2;have:=pw c.2.2.2;simp only[PG.eO,Zc,Zb];lia
 |ask k b=>simp[PG.eO]
 |stop k=>simp[PG.eO]
theorem uv(T:Tx K mg t)(C:Cd P w K t):bP P w K mg base gA 10 t.ic t.iX ["statement"] (xM K):=by
 have jW:=qa (P:=P) (w:=w) (base:=base) T;have j7:=jO (base:=base) T C;refine T.jx.F.oA oh (fun vs H Q E h=>?_) (fun gP A outer s H vs Q E hr h=>?_)
 ·obtain⟨_,_,_,_,rfl,_⟩:=h;rfl
 obtain⟨v,st,H0,O,rfl,s0,hv,sc,tZ,q⟩:=h;have nd:=oh.nd;have line:YM=2 ^ 24:=rfl;obtain⟨a,w0,xs,rfl,hS,ot⟩:=L6 hv sc;replace hS:=s0.a7 hS;have lx:=ot.len;refine⟨_,[some (.ref a),none,none],(aj (nz 1 nd (aH aZ (pv 0) ah ax))
 (aj (jt (i:=2) nd rfl (ZE rfl) (own:=["other"]) (ix:=[]) rfl (by rfl) (by rfl) (ba (gR j7 T.cI hr (b8 0 ag))) (fun _ _ _ _=>(br (i:=0) (by show List.Nodup (["other"]:List Str);decide +kernel) rfl (ZE rfl))) (fun _ _ _ _=>cu) (fun _ _ _ _=>(aQ (b8 0 ag))))
 (aj (ck (aY iN (pv 1) (bR (dH (vs:=[.str "must",.str "if",.str "while"]) (by kernel_rfl))) rfl)
 (ay (cp (fL Zs Zx Zy bN (pv 2) (ae (aQ (ae (gR jW T.gV hr (b8 0 (ae ah (ae (tf (rH (v:=.ref t.cH) rfl T.mU rfl) (aH aZ (pv 0) ah ax) (fun _ _=>rfl)) ag a8) aK))) ag b7)) ag kI))))
 aU)
 (aj (ck (aY iN (pv 1) (bR (dH (vs:=[.str "if",.str "while"]) (by kernel_rfl))) rfl)
 (ay (cp (fL Zs Zx Zy bN (pv 2) (ae (aQ (ae (aG g7 (aG g7 (bJ hE (pv 0) cq (b6 ah)) (bR (ae (aH aZ (pv 0) ah ax) (ae (aH aZ (pv 0) ah ax) ag a8) a8))) (bJ hE (pv 0) (b6 ah) cq)) ag eI)) ag kI))))
 aU)
 (aj (ck (aY iN (pv 1) (bR (dH (vs:=[.str "put",.str "say"]) (by kernel_rfl))) rfl)
 (ay (cp (fL Zs Zx Zy bN (pv 2) (ae (aQ ag) ag kI))))
 aU)
 (ay (aT (pv 2)))))))),rfl,?_⟩
 refine aq fun U1 gy=>?_;walk_at "rd";refine aN hS (v:=.str w0) (av (j:=0) rfl) ((gy _ _).mpr (aq fun U2 jz=>?_));clear gy;simp only[ft];walk_at "rd";refine⟨.ref a,st,H0,O,rfl,s0,hv,sc,tZ,fun L us H1 s1 hL yL rs=>⟨L,rfl,⟨_,.of yL⟩,fun D hD=>?_⟩⟩;have fD:H D=none:=s1.free hD;have UJ:((PG.eO PG.eC st++PG.eO PG.eW st).length)<=1000:=yb sc;refine kT (K:=K) (F:=bp) (G:=fun o:List PG.aF=>.lst (o.map bp)) (fun g=>g=D\/O g) (.inl rfl) (fun g hg=>hg.imp id fun z=>let ⟨zs,e⟩:=(tZ g z).2;⟨zs,s1 _ _ e⟩) (fun x=>[x]) (PG.eO PG.eC st++PG.eO PG.eW st) (.of yL) rs (by rw[rs.nK.length,Zb];lia) hD (fun i x y H2 hy hx rx s2 F2 R hR=>?_) fun ys H2 s2 yD rV=>(jz _ _).mpr ?_
 ·walk_at "rd";intro p hp;have UK:¬(p=D\/O p):=fun z=>by obtain⟨_,e⟩:=F2 p z;rw[e] at hp;cases hp
  refine hR _ _ (ai.new hp _) (Fix.lst af UK (.cons (fun H4 u4=>rx H4 fun b o nO e=>u4 b o (fun z=>z.elim (ao e hD) nO) (ai.new hp _ _ _ (s2 _ _ e))) .nil))
 clear jz;have JZ:ys.length<=1000:=by rw[rV.nK.length,Zb,Zb];exact UJ
 have Sh:∀ {H3 H4:Hp},ai H H3->aE (fun g=>g=D\/O g) H3 H4->∀d v,Rep K H0 d v->Rep K H4 d v:=fun s3 u4 d v h=>h.mono fun b o e=>u4 b o (fun z=>z.elim (ao (s0 _ _ e) fD) fun z=>by rw[(tZ _ z).1] at e;cases e) (s3 _ _ (s0 _ _ e));have Qj:∀ {H3:Hp} {zs:List V} {p:YE},ai H H3->H3 D=some (.lst zs)->H3 p=none->¬(p=D\/O p):=fun {H3 zs p} s3 e hp z=>z.elim (fun z=>by rw[z,e] at hp;cases hp) fun z=>by
  obtain⟨ws,e2⟩:=(tZ p z).2;rw[s3 _ _ e2] at hp;cases hp
 have Ju:∀ {H3:Hp} {zs:List V} {os:List (List PG.aF)} {p:YE} {o:List PG.aF} {ps:List V},aM K (fun g=>g=D\/O g) H3 (os.map fun o=>.lst (o.map bp)) zs->H3 p=none->¬(p=D\/O p)->aM K (fun g=>g=D\/O g) H3 (o.map bp) ps->aM K (fun g=>g=D\/O g) (upd (upd H3 p (.lst ps)) D (.lst (zs++[.ref p]))) ((os++[o]).map fun o=>.lst (o.map bp)) (zs++[.ref p]):=by
  intro H3 zs os p o ps f hp np fo;rw[Zl];refine aM.up (O:=fun g=>g=D\/O g) (H:=upd H3 p (.lst ps)) ?_ (aE.put (O:=fun g=>g=D\/O g) aE.refl (.inl rfl) _);exact(f.up (.of (ai.new hp _))).snoc (Fix.lst af np (fo.up (.of (ai.new hp _))))
 have qX:=s1.trans s2;obtain⟨B,hB⟩:∃B:List (List PG.aF),((PG.eO PG.eC st++PG.eO PG.eW st).map fun x=>[x])=B:=⟨_,rfl⟩
 rw[hB] at rV;have F3:PG.bM st=B++(PG.oK st++(PG.rA st++PG.uj st)):=by rw[<- hB];rfl
 refine aq fun U3 kE=>?_;have last:∀(H3:Hp) (zs:List V),ai H H3->H3 D=some (.lst zs)->zs.length<=1001->aM K (fun g=>g=D\/O g) H3 ((B++PG.oK st).map fun o=>.lst (o.map bp)) zs->U3 [some (.ref a),some (.str w0),some (.ref D)] H3:=by
  intro H3 zs s3 yz lz fz;refine(kE _ _).mpr (aq fun U4 qf=>?_);clear kE;have Hh:∀(H3:Hp) (zs:List V),ai H H3->H3 D=some (.lst zs)->zs.length<=1002->aM K (fun g=>g=D\/O g) H3 ((B++PG.oK st++PG.rA st).map fun o=>.lst (o.map bp)) zs->U4 [some (.ref a),some (.str w0),some (.ref D)] H3:=by
   intro H3 zs s3 yz lz fz;refine(qf _ _).mpr (aq fun U5 wH=>?_);clear qf;have Hi:∀(H3:Hp) (zs:List V),ai H H3->H3 D=some (.lst zs)->aM K (fun g=>g=D\/O g) H3 ((B++PG.oK st++PG.rA st++PG.uj st).map fun o=>.lst (o.map bp)) zs->U5 [some (.ref a),some (.str w0),some (.ref D)] H3:=by
    intro H3 zs s3 yz fz;refine(wH _ _).mpr ?_;walk_at "rd";refine q D zs H3 s3 fD yz ?_;rw[F3,<- ZA,<- ZA];exact fz.sub fun g hg=>.inr hg
   refine cV fun UB Er=>?_;walk_at "rd";intro p hp;have sp:=ai.new hp (.tup [V.str (Zj "put"),V.str (Zj "say")]);have yp:bU K (upd H3 p (.tup [V.str (Zj "put"),V.str (Zj "say")])) p _:=.of af;have B2:=sp _ _ yz;have s4:=s3.trans sp;have Hj:=fz.up (.of sp);generalize upd H3 p (.tup [V.str (Zj "put"),V.str (Zj "say")])=H4 at *;refine⟨p,_,rfl,.inr yp,rfl,rfl,_,rfl,?_⟩;by_cases z:w0 = "put"\/w0 = "say"
   ·refine(if_pos (by rcases z with z |z<;>rw[z]<;>decide +kernel)).mpr ((Er _ _).mpr ?_);clear Er;walk_at "rd";refine⟨.inl ⟨rfl,_,.of B2⟩,fun p5 uk=>⟨D,zs,_,rfl,rfl,ai.new uk _ _ _ B2,by lia,?_⟩⟩;refine Hi _ (zs++[.ref p5]) (((bw.of (s4.trans (ai.new uk _))).put _).same fD) af ?_;rw[ot.p1 z];exact Ju (o:=[]) Hj uk (Qj s4 B2 uk) .nil
   ·refine(if_neg (fun y=>z ?_)).mpr (Hi _ zs s4 B2 (by rw[ot.p0 z,Zr];exact Hj));simp[E9,yO] at y;exact y.imp Eq.symm Eq.symm
  refine cV fun UB Er=>?_;walk_at "rd";intro p hp;have sp:=ai.new hp (.tup [V.str (Zj "if"),V.str (Zj "while")]);have yp:bU K (upd H3 p (.tup [V.str (Zj "if"),V.str (Zj "while")])) p _:=.of af;have B2:=sp _ _ yz;have s4:=s3.trans sp;have Hj:=fz.up (.of sp);generalize upd H3 p (.tup [V.str (Zj "if"),V.str (Zj "while")])=H4 at *;refine⟨p,_,rfl,.inr yp,rfl,rfl,_,rfl,?_⟩;by_cases z:w0 = "if"\/w0 = "while"
  ·refine(if_pos (by rcases z with z |z<;>rw[z]<;>decide +kernel)).mpr ((Er _ _).mpr ?_);clear Er;obtain⟨vl,vr,s',e3,e4,eo,put⟩:=ot.b1 z;have Eo:=s4.a7 hS;walk_at "rd";refine⟨.inl ⟨rfl,_,.of B2⟩,?_⟩;refine⟨_,rfl,a,_,rfl,Eo,fun p1 H5 s5 h5=>?_⟩;refine aN (s5.a7 Eo) (v:=vr) (av e4) ?_;refine aN (s5.a7 Eo) (v:=vl) (av e3) fun p2 pf=>?_;have s6:=ai.new pf (.tup [vr,vl]);have y6:bU K (upd H5 p2 (.tup [vr,vl])) p2 [vr,vl]:=.of af;generalize upd H5 p2 (.tup [vr,vl])=H6 at *;have c1:=mv (.str w0::xs) (x:=3) (by decide);have c2:cO (.str w0::xs) (some 5) none=(V.str w0::xs).drop 5:=fQ _ 5;rw[c1] at h5;refine⟨p1,p2,_,_,rfl,rfl,s6.a7 h5,y6,by simp only[ZK,Ze,ZJ] at lx ⊢;lia,fun p3 H7 s7 h7=>?_⟩;have JY:=s5.trans (s6.trans s7);refine⟨_,rfl,a,_,rfl,JY.a7 Eo,fun p4 H8 s8 h8=>?_⟩;rw[c2] at h8;refine⟨p3,p4,_,_,rfl,rfl,s8.a7 h7,h8,by simp only[Zc,ZK,ZW,Ze,ZJ] at lx ⊢;lia,fun p9 H9 s9 h9 Em wL=>?_⟩;have J0:=(JY.trans s8).trans s9;have Jv:=J0 _ _ B2;refine⟨D,zs,_,rfl,rfl,ai.new wL _ _ _ Jv,by lia,?_⟩;refine Hh _ (zs++[.ref Em]) (((bw.of ((s4.trans J0).trans (ai.new wL _))).put _).same fD) af (by rw[Zc,Zm];lia) ?_;rw[eo];have Qk:∀g,(g=D\/O g)->∃ys,H9 g=some (.lst ys):=fun g hg=>hg.elim (fun hg=>by rw[hg];exact⟨_,Jv⟩) fun z=>let ⟨zs,e⟩:=(tZ g z).2;⟨zs,(s4.trans J0) _ _ e⟩;exact Ju (o:=[s']) (Hj.up (.of J0)) wL (Qj (s4.trans J0) Jv wL) (.cons (fun Hx ux=>put Hx (Sh (s4.trans J0) ux) p9 (eL Qk ux h9)) .nil)
  ·refine(if_neg (fun y=>z ?_)).mpr (Hh _ zs s4 B2 (by lia) (by rw[ot.b0 z,Zr];exact Hj));simp[E9,yO] at y;exact y.imp Eq.symm Eq.symm
 refine cV fun UB Er=>?_;walk_at "rd";intro p hp;have sp:=ai.new hp (.tup [V.str (Zj "must"),V.str (Zj "if"),V.str (Zj "while")]);have yp:bU K (upd H2 p (.tup [V.str (Zj "must"),V.str (Zj "if"),V.str (Zj "while")])) p _:=.of af;have B2:=sp _ _ yD;have s4:=qX.trans sp;have Hj:=rV.up (.of sp);generalize upd H2 p (.tup [V.str (Zj "must"),V.str (Zj "if"),V.str (Zj "while")])=H4 at *;refine⟨p,_,rfl,.inr yp,rfl,rfl,_,rfl,?_⟩;by_cases z:w0 = "must"\/w0 = "if"\/w0 = "while"
 ·refine(if_pos (by rcases z with z |z |z<;>rw[z]<;>decide +kernel)).mpr ((Er _ _).mpr ?_);clear Er;obtain⟨sg,s',e2,UL,eo,put⟩:=ot.c1 z;have Eo:=s4.a7 hS;walk_at "rd";refine⟨.inl ⟨rfl,_,.of B2⟩,aN Eo (v:=.str (S sg)) (av e2) ?_⟩;refine⟨.str (S (PG.cL sg)),⟨_,_,.inr (S sg),rfl,C.oo,rfl,(AE (.inr UL)).symm⟩,a,_,2,_,rfl,Eo,(Zi.mp e2).1,by lia,fun p9 H9 s9 h9 Em wL=>?_⟩;have Jv:=s9 _ _ B2;refine⟨D,ys,_,rfl,rfl,ai.new wL _ _ _ Jv,by lia,?_⟩;refine last _ (ys++[.ref Em]) (((bw.of ((s4.trans s9).trans (ai.new wL _))).put _).same fD) af (by rw[Zc,Zm];lia) ?_;rw[eo];have Qk:∀g,(g=D\/O g)->∃ys,H9 g=some (.lst ys):=fun g hg=>hg.elim (fun hg=>by rw[hg];exact⟨_,Jv⟩) fun z=>let ⟨zs,e⟩:=(tZ g z).2;⟨zs,(s4.trans s9) _ _ e⟩;exact Ju (o:=[s']) (Hj.up (.of s9)) wL (Qj (s4.trans s9) Jv wL) (.cons (fun Hx ux=>put Hx (Sh (s4.trans s9) ux) p9 (eL Qk ux h9)) .nil)
 ·refine(if_neg (fun y=>z ?_)).mpr (last _ ys s4 B2 (by lia) (by rw[ot.c0 z,Zr];exact Hj));simp[E9,yO] at y;exact y.imp Eq.symm fun y=>y.imp Eq.symm Eq.symm
theorem Es:∀s:PG.aF,(V.str (Ai s.wd)=V.str (Zj "while"))↔s.wd=.cZ:=by
 intro s;cases s<;>simp only[PG.aF.wd]<;>decide +kernel
theorem Et:∀s:PG.aF,(V.str (Ai s.wd)=V.str (Zj "if"))↔s.wd=.ifs:=by
 intro s;cases s<;>simp only[PG.aF.wd]<;>decide +kernel
theorem Hk{K:Za}{H:Hp}{d0 d1 d2 d3 d4 d5:Dp}{xs:List V}{ds:List Dp}(h:aw K H (d0::d1::d2::d3::d4::d5::ds) xs):∃v0 v1 v2 v3 v4 v5 r,xs=v0::v1::v2::v3::v4::v5::r/\Rep K H d5 v5/\aw K H ds r:=by
 rw[aw.ar] at h;obtain⟨v0,t0,rfl,_,h⟩:=h;rw[aw.ar] at h;obtain⟨v1,t1,rfl,_,h⟩:=h;rw[aw.ar] at h;obtain⟨v2,t2,rfl,_,h⟩:=h;rw[aw.ar] at h;obtain⟨v3,t3,rfl,_,h⟩:=h;rw[aw.ar] at h;obtain⟨v4,t4,rfl,_,h⟩:=h;rw[aw.ar] at h;obtain⟨v5,t5,rfl,e5,h⟩:=h;exact⟨v0,v1,v2,v3,v4,v5,t5,rfl,e5,h⟩
theorem k6(T:Tx K mg t):bP P w K mg base gA 1 t.fc t.fg ["statement"] (pB K):=by
 refine T.gU.F.oA pR (fun vs H Q E h=>?_) (fun gP A outer s H vs Q E hr h=>?_)
 ·obtain⟨_,_,_,rfl,_⟩:=h;rfl
 obtain⟨v,st,H0,rfl,rv,s0,q⟩:=h;have nd:=pR.nd;refine⟨_,[some v],(aj (ck (aY kc (aH aZ (pv 0) ah ax) bQ (bu _))
 (ay (aT (aQ (ae (aH aZ (pv 0) ah ax) (ae (aH aZ (pv 0) ah ax) ag a8) a8))))
 aU)
 (aj (ck (aY kc (aH aZ (pv 0) ah ax) bQ (bu _))
 (ay (aT (aQ (ae (aH aZ (pv 0) ah ax) ag a8))))
 aU)
 (ay (aT (aQ ag))))),rfl,?_⟩
 obtain⟨a,ys,rfl,hs⟩:=vf st rv;have hs:=s0.a7 hs;walk_at "rd";refine aN hs (av (j:=0) rfl) ⟨rfl,oz (fun e=>?_) (fun e=>aN hs (av (j:=0) rfl) ⟨rfl,oz (fun e2=>?_) (fun e2=>?_)⟩)⟩
 ·have ew:=(Et st).mp e;cases st<;>first |(exfalso;cases ew;done) |skip
  rename_i k sg l r x y;rw[bp,Rep.az] at rv;obtain⟨_,xs,e0,hx,rs⟩:=rv;cases e0;obtain⟨v0,v1,v2,v3,v4,v5,rr,rfl,r5,rs⟩:=Hk rs;rw[aw.ar] at rs;obtain⟨v6,t6,rfl,r6,_⟩:=rs;refine aN (s0.a7 hx) (v:=v5) (av (j:=5) rfl) (aN (s0.a7 hx) (v:=v6) (av (j:=6) rfl) fun p hp=>?_);rw[aI] at r5 r6;exact q p _ _ (ai.new hp _) hp af (.cons r5 (.cons r6 .nil))
 ·have ew:=(Es st).mp e2;cases st<;>first |(exfalso;cases ew;done) |skip
  rename_i k sg l r x;rw[bp,Rep.az] at rv;obtain⟨_,xs,e0,hx,rs⟩:=rv;cases e0;obtain⟨v0,v1,v2,v3,v4,v5,rr,rfl,r5,rs⟩:=Hk rs;refine aN (s0.a7 hx) (v:=v5) (av (j:=5) rfl) fun p hp=>?_;rw[aI] at r5;exact q p _ _ (ai.new hp _) hp af (.cons r5 .nil)
 ·intro p hp;have e1:st.wd≠.ifs:=fun z=>e ((Et st).mpr z);have UM:st.wd≠.cZ:=fun z=>e2 ((Es st).mpr z);refine q p [] _ (ai.new hp _) hp af ?_;cases st<;>first |exact .nil |exact absurd rfl e1 |exact absurd rfl UM
theorem fB{H H':Hp}{b:YE}(s:ai H H')(h:H' b=none):H b=none:=by
 cases z:H b with
 |none=>rfl
 |some o=>rw[s _ _ z] at h;cases h
theorem oT{K:Za}{H:Hp}:∀ {ds es:List Dp} {xs:List V},aw K H (ds++es) xs->∃hs ws,xs=hs++ws/\aw K H ds hs/\aw K H es ws
 |[],es,xs,h=>⟨[],xs,rfl,.nil,h⟩
 |d::ds,es,xs,h=>by
  rw[Xg,aw.ar] at h;obtain⟨v,t,rfl,h1,h2⟩:=h;obtain⟨hs,ws,rfl,h3,h4⟩:=oT h2;exact⟨v::hs,ws,rfl,.cons h1 h3,h4⟩
theorem AW(T:Tx K mg t):bP P w K mg base gA 1 t.gD t.ib ["statement", "bodies"] (IK K):=by
 refine T.gF.F.oA mM (fun vs H Q E h=>?_) (fun gP A outer s H vs Q E hr h=>?_)
 ·obtain⟨_,_,_,_,_,rfl,_⟩:=h;rfl
 obtain⟨a,l,hs,ws,bs,rfl,ha,hn,l5,lw,lb,hl,q⟩:=h;have nd:=mM.nd;refine⟨_,[some (V.ref a),some (V.ref l)],(ay (aT (aG zO (bJ Am (pv 0) cq (b6 (aG oy (bF bK rfl T.jd PyProof.Rows.Boot.«len» (b8 0 ag)) (bF bK rfl T.jd PyProof.Rows.Boot.«len» (b8 1 ag))))) (eG nY rfl T.jV PyProof.Rows.Boot.«tuple» (b8 1 ag))))),rfl,?_⟩;have line:YM=2 ^ 24:=rfl;simp only[Nh];walk_at "rd";have len:((hs++ws).length:Int)-(bs.length:Int)=((hs.length:Nat):Int):=by rw[Zc];lia
 refine⟨a,_,rfl,.inr ha,l,bs,rfl,.inl (.of hl),_,rfl,a,_,rfl,ha,fun hw=>?_,fun hw p hp=>?_⟩
 ·rw[len,HT.ni,Zc] at hw;have hb:bs=[]:=Yb.mp (by have:=hw.2;lia);have UN:ws=[]:=Yb.mp (by have:=hw.2;lia);subst hb UN;refine⟨l,[],rfl,.inl ⟨.of hl,fun p2 pf=>?_⟩⟩;have s2:=ai.new pf (.tup []);refine⟨a,p2,_,[],rfl,rfl,s2.a7 ha,.of af,by simpa using hn,by simp only[Zr,ZJ];lia,fun _=>q a _ s2 (s2.a7 ha),fun z=>absurd rfl z⟩
 ·have ec:cO (hs++ws) none (some (((hs++ws).length:Int)-(bs.length:Int)))=hs:=by
   rw[len];unfold cO;rw[HT.ke,HT.ni,Zc,WM (by lia),XJ,W5,List.take_left]
  rw[ec];have s1:=ai.new hp (.tup hs);have h1:(upd H p (.tup hs)) p=some (.tup hs):=af;generalize upd H p (.tup hs)=H1 at *;refine⟨l,bs,rfl,.inl ⟨.of (s1 _ _ hl),fun p2 pf=>?_⟩⟩;have s2:=ai.new pf (.tup bs);have h2:(upd H1 p2 (.tup bs)) p2=some (.tup bs):=af;have Si:=s2 _ _ h1;generalize upd H1 p2 (.tup bs)=H2 at *;refine⟨p,p2,hs,bs,rfl,rfl,.of Si,.of h2,hn,by lia,fun z=>?_,fun z p3 tM=>?_⟩
  ·subst z;exact q p _ (s1.trans s2) (by rw[Zr];exact .of Si)
  ·exact q p3 _ ((s1.trans s2).trans (ai.new tM _)) (.of af)
theorem yc(T:Tx K mg t){n:Nat}(uw:bP P w K mg base gA (2*n+2) t.dX t.eP ["body"] (rM K n)) :
 bP P w K mg base gA (2*n+3) t.cD t.cS ["statement"] (Ap K n):=by
 have j8:=AW (P:=P) (w:=w) (base:=base) T;have je:bP P w K mg base gA 1 t.fc t.fg ["statement"] (pB K):=k6 T;refine T.dB.F.oA jo (fun vs H Q E h=>?_) (fun gP A outer s H vs Q E hr h=>?_)
 ·obtain⟨_,_,_,rfl,_⟩:=h;rfl
 obtain⟨v,st,H0,rfl,s0,rv,hd,hf,q⟩:=h;have nd:=jo.nd;refine⟨_,[some v],(ay (aT (gR j8 T.gF hr (b8 0 (ae (fH (own:=["inner"]) (ix:=[]) rfl (by rfl) (by rfl) (ba (gR je T.gU hr (b8 0 ag))) (fun _ _ _ _=>(br (i:=0) (by show List.Nodup (["inner"]:List Str);decide +kernel) rfl (ZE rfl))) (fun _ _ _ _=>cu) (fun _ _ _ _=>(gR uw T.iZ hr (b8 0 ag)))) ag kJ))))),rfl,?_⟩;have line:YM=2 ^ 24:=rfl;walk_at "rd";simp only[ft];walk_at "rd";refine⟨v,st,H0,rfl,rv,s0,fun l bv H1 s1 hl y1 rc=>⟨l,rfl,⟨_,.of y1⟩,fun D hD=>?_⟩⟩;have MO:bv.length=(aC st).length:=by rw[rc.length,Zb]
 have n8:(aC st).length<=2:=by cases st<;>simp[aC]
 have UO:H D=none:=fB s1 hD;refine dv (K:=K) (r:=[]) (fun i ys H2=>∃(bs:List YE) (Gs:List (List YE)),ys=bs.map V.ref/\bB (jT K H2 n) ((aC st).take i) bs Gs/\Gs.flatten.Nodup/\∀f∈Gs.flatten,H f=none/\f≠D) (.of y1) (by lia) hD ⟨[],[],rfl,trivial,Xt,by simp⟩ ?_ ?_
 ·rintro i x ys H2 hx s2 jI ly ⟨bs,Gs,rfl,al,BS,new⟩ R hR
  have li:i<(aC st).length:=by have:=(Zi.mp hx).1;lia
  obtain⟨v',pN,rb⟩:=rc.get (i:=i) (d:=.lst ((aC st)[i].map bp)) (by rw[Zq,Zd li];rfl);rw[hx] at pN;cases pN;have mi:(aC st)[i]∈aC st:=Zu li;obtain⟨fb,db⟩:=kM st _ mi;obtain⟨ab,_,rfl,_⟩:=Rep.bT.mp rb;walk_at "rd";refine⟨ab,(aC st)[i],H0,rfl,(s0.trans s1).trans s2,rb,by lia,by lia,fun l2 F H3 s3 tr zt kF=>hR _ H3 s3 ⟨bs++[l2],Gs++[F],by simp,?_,?_,?_⟩⟩
  ·rw[ZM li];have u2:aE (·=D) H2 (upd H3 D (.lst (bs.map V.ref++[V.ref l2]))):=(aE.of s3).trans (aE.refl.put (O:=(·=D)) rfl _);have u3:aE (·=D) H3 (upd H3 D (.lst (bs.map V.ref++[V.ref l2]))):=aE.refl.put (O:=(·=D)) rfl _;refine(al.imp fun bd b' G' _ v8 ht=>jT.iL (O:=(·=D)) (fun g z=>⟨_,z▸jI⟩) u2 n bd b' G' (fun f hf z=>(new f (ZY.mpr ⟨_,v8,hf⟩)).2 z) ht).snoc ?_;exact jT.iL (O:=(·=D)) (fun g z=>⟨_,z▸s3 _ _ jI⟩) u3 n _ _ _ (fun f hf z=>by have:=kF f hf;rw[z,jI] at this;cases this) tr
  ·rw[ZC,ZG,Xa,Zr];refine Xd.mpr ⟨BS,zt,fun f hf g hg z=>?_⟩;subst z;have no:=kF f hg;obtain⟨G',v8,Ql⟩:=ZY.mp hf;have key:∀ {as:List (List PG.aF)} {bs:List YE} {cs:List (List YE)},bB (jT K H2 n) as bs cs->G'∈cs->∃ys,H2 f=some (.lst ys):=by
    intro as
    induction as with
    |nil=>intro bs cs h m;obtain⟨rfl,rfl⟩:=bB.aD.mp h;cases m
    |cons x as ih=>
     intro bs cs h m;obtain⟨b',An,c,Ao,rfl,rfl,h1,h2⟩:=bB.ar.mp h;rcases Zf.mp m with rfl |m
     ·exact jT.lists n _ _ _ h1 f Ql
     ·exact ih h2 m
   obtain⟨_,e⟩:=key al v8;rw[e] at no;cases no
  ·intro f hf;rw[ZC,ZG,Xa,Zr] at hf;rcases Zg.mp hf with hf |hf
   ·exact new f hf
   ·have no:=kF f hf;exact⟨fB (s1.trans s2) no,fun z=>by rw[z,jI] at no;cases no⟩
 ·rintro ys H2 s2 jI ⟨bs,Gs,rfl,al,BS,new⟩
  rw[MO,Zw] at al;rw[qq] at rv;obtain⟨a,xs,rfl,hx,rs⟩:=Rep.az.mp rv;obtain⟨hs,ws,rfl,r1,r2⟩:=oT rs;have lh:=r1.length;obtain⟨h1,h2,_⟩:=pD st;have lw:=r2.length;rw[Zb] at lw;have Sj:=(al.length).1;have qX:=(s0.trans s1).trans s2;refine⟨a,D,hs,ws,bs.map V.ref,rfl,qX.a7 hx,fun z=>by rw[z] at lh;simp at lh;lia,by lia,by rw[Zb];lia,by rw[Zb];lia,jI,fun p H3 s3 tM=>?_⟩;refine q (.ref p) Gs.flatten H3 ((s1.trans s2).trans s3) ⟨p,hs,bs,Gs,rfl,tM,r1.mono (qX.trans s3),al.imp fun bd b' G' _ _ ht=>jT.iL (O:=fun _=>False) (fun g z=>z.elim) (.of s3) n bd b' G' (fun f _ z=>z) ht,rfl⟩ BS fun f hf=>(new f hf).1
theorem Eu(T:Tx K mg t){n:Nat}(gN:bP P w K mg base gA (2*n+3) t.cD t.cS ["statement"] (Ap K n)) :
 bP P w K mg base gA (2*n+4) t.dX t.eP ["body"] (rM K (n+1)):=by
 refine T.iZ.F.oA mL (fun vs H Q E h=>?_) (fun gP A outer s H vs Q E hr h=>?_)
 ·obtain⟨_,_,_,rfl,_⟩:=h;rfl
 obtain⟨b,body,H0,rfl,s0,rb,hd,hf,q⟩:=h;have nd:=mL.nd;refine⟨_,[some (V.ref b)],(ay (aT (fH (own:=["statement"]) (ix:=[]) rfl (by rfl) (by rfl) (ba (pv 0)) (fun _ _ _ _=>(br (i:=0) (by show List.Nodup (["statement"]:List Str);decide +kernel) rfl (ZE rfl))) (fun _ _ _ _=>cu) (fun _ _ _ _=>(gR gN T.dB hr (b8 0 ag)))))),rfl,?_⟩;have line:YM=2 ^ 24:=rfl;rw[Rep.bT] at rb;obtain⟨_,xs,e,hx,rs⟩:=rb;cases e;have lx:xs.length=body.length:=by rw[rs.length,Zb]
 have lb:=nv body;walk_at "rd";simp only[ft];walk_at "rd";refine⟨⟨_,s0.seq hx⟩,fun D hD=>?_⟩;refine dv (K:=K) (r:=[]) (fun i ys H2=>∃Gs:List (List YE),bB (wW K H2 n) (body.take i) ys Gs/\Gs.flatten.Nodup/\∀f∈Gs.flatten,H f=none/\f≠D) (s0.seq hx) (by lia) hD ⟨[],trivial,Xt,by simp⟩ ?_ ?_
 ·rintro i x ys H2 AX s2 jI ly ⟨Gs,al,BS,new⟩ R hR
  have li:i<body.length:=by have:=(Zi.mp AX).1;lia
  obtain⟨v',pN,rv⟩:=rs.get (i:=i) (d:=bp body[i]) (by rw[Zq,Zd li];rfl);rw[AX] at pN;cases pN;obtain⟨fm,dm⟩:=nu body _ (Zu li);walk_at "rd";refine⟨x,body[i],H0,rfl,s0.trans s2,rv,by lia,by lia,fun u F H3 s3 tr zt kF=>hR _ H3 s3 ⟨Gs++[F],?_,?_,?_⟩⟩
  ·rw[ZM li];have u2:aE (·=D) H2 (upd H3 D (.lst (ys++[u]))):=(aE.of s3).trans (aE.refl.put (O:=(·=D)) rfl _);have u3:aE (·=D) H3 (upd H3 D (.lst (ys++[u]))):=aE.refl.put (O:=(·=D)) rfl _;refine(al.imp fun bd b' G' _ v8 ht=>wW.iL (O:=(·=D)) (fun g z=>⟨_,z▸jI⟩) u2 (fun f hf z=>(new f (ZY.mpr ⟨_,v8,hf⟩)).2 z) ht).snoc ?_;exact wW.iL (O:=(·=D)) (fun g z=>⟨_,z▸s3 _ _ jI⟩) u3 (fun f hf z=>by have:=kF f hf;rw[z,jI] at this;cases this) tr
  ·rw[ZC,ZG,Xa,Zr];refine Xd.mpr ⟨BS,zt,fun f hf g hg z=>?_⟩;subst z;have no:=kF f hg;have tb:jT K (upd H2 D (.lst ys)) (n+1) (body.take i) D (D::Gs.flatten):=by
    have e:upd H2 D (.lst ys)=H2:=by
     funext z
     by_cases zD:z=D
     ·rw[zD,af,jI]
     ·rw[aL zD]
    rw[e];exact fP.mpr ⟨ys,Gs,jI,al,rfl⟩
   obtain⟨_,e⟩:=jT.lists _ _ _ _ tb f (Zk _ hf);rw[aL (new f hf).2,no] at e;cases e
  ·intro f hf;rw[ZC,ZG,Xa,Zr] at hf;rcases Zg.mp hf with hf |hf
   ·exact new f hf
   ·have no:=kF f hf;exact⟨fB s2 no,fun z=>by rw[z,jI] at no;cases no⟩
 ·rintro ys H2 s2 jI ⟨Gs,al,BS,new⟩
  rw[lx,Zw] at al;exact q D (D::Gs.flatten) H2 s2 (fP.mpr ⟨ys,Gs,jI,al,rfl⟩) (Z0.mpr ⟨fun z=>(new D z).2 rfl,BS⟩) fun f hf=>(Zf.mp hf).elim (fun z=>z▸hD) fun z=>(new f z).1
theorem vF(T:Tx K mg t):∀n,bP P w K mg base gA (2*n+2) t.dX t.eP ["body"] (rM K n)
 |0=>by
  have no:∀vs H Q E,¬rM K 0 vs H Q E:=fun vs H Q E h=>by obtain⟨_,_,_,_,_,_,h,_⟩:=h;lia
  exact⟨fun vs H Q E h=>absurd h (no vs H Q E),fun A outer s H args us vs Q E _ _ _ _ h=>absurd h (no vs H Q E)⟩
 |n+1=>Eu T (yc T (vF T n))
theorem Ew(T:Tx K mg t){n:Nat}(mV:bP P w K mg base gA (2*n+3) t.fT t.gg ["body", "row", "others"] (rR K n)) :
 bP P w K mg base gA (2*n+5) t.fT t.gg ["body", "row", "others"] (rR K (n+1)):=by
 have gN:=yc (P:=P) (w:=w) (base:=base) T (vF T n);have j8:=AW (P:=P) (w:=w) (base:=base) T;have je:bP P w K mg base gA 1 t.fc t.fg ["statement"] (pB K):=k6 T;refine T.jc.F.oA pS (fun vs H Q E h=>?_) (fun gP A outer s H vs Q E hr h=>?_)
 ·obtain⟨_,_,_,_,_,_,rfl,_⟩:=h;rfl
 obtain⟨b,l,body,o,row,H0,rfl,s0,rb,ro,hd,hf,lo,fo,Qm,q⟩:=h;have nd:=pS.nd;have line:YM=2 ^ 24:=rfl;obtain⟨_,xs,e,hx,rs⟩:=Rep.bT.mp rb;cases e;obtain⟨_,os,e,EI,Sk⟩:=Rep.bT.mp ro;cases e;have lx:xs.length=body.length:=by rw[rs.length,Zb]
 have UP:os.length=o.length:=by rw[Sk.length,Zb]
 have lb:=nv body;refine⟨_,[some (.ref b),some (.int row),some (.ref l),none,none],(aj (nz 3 nd (aQ ag))
 (aj (dQ PassesOwn.never rfl (ba (pv 0)) (DC 4 nd)
 (ay (ck (aY kc (aH aZ (pv 4) ah ax) (pv 1) (bu _))
 (ay (cp (fL Zs XB XC nk (pv 3) (ae (fH (own:=["other"]) (ix:=[]) rfl (by rfl) (by rfl) (ba (pv 2)) (fun _ _ _ _=>(br (i:=0) (by show List.Nodup (["other"]:List Str);decide +kernel) rfl (ZE rfl))) (fun _ _ _ _=>cu) (fun _ _ _ _=>(gR gN T.dB hr (b8 0 ag)))) ag kJ))))
 (ay (cp (fL Zs Zx Zy bN (pv 3) (ae (gR j8 T.gF hr (b8 4 (ae (fH (own:=["inner"]) (ix:=[1,2]) rfl (by rfl) (by rfl) (ba (gR je T.gU hr (b8 4 ag))) (fun _ _ _ _=>(br (i:=0) (by show List.Nodup (["inner", "row", "others"]:List Str);decide +kernel) rfl (ZE rfl))) (fun _ _ _ _=>cu) (fun _ _ _ _=>(gR mV T.jc hr (b8 0 (b8 1 (b8 2 ag)))))) ag kJ))) ag b7)))))))
 (ay (aT (pv 3))))),rfl,?_⟩
 refine aq fun U1 gy=>?_;walk_at "rd";intro L hL;refine(gy _ _).mpr (aq fun U2 jz=>?_);clear gy;have s1:=ai.new hL (.lst []);have y1:(upd H L (.lst [])) L=some (.lst []):=af;generalize upd H L (.lst [])=H1 at *;refine eJ fun U hU=>?_;walk_at "rd";refine⟨⟨_,s1.seq (s0.seq hx)⟩,hU _ _ ?_⟩;clear hU;obtain⟨Pv,um⟩:∃Pv:Nat->St->Hp->Prop,∀i σ Hx,Pv i σ Hx↔∃(z4:Option V) (ys:List V) (Gs:List (List YE)),σ=[some (.ref b),some (.int row),some (.ref l),some (.ref L),z4]/\ai H Hx/\Hx L=some (.lst ys)/\ys.length<=i/\bB (wW K Hx n) (PG.dg row o (body.take i)) ys Gs/\Gs.flatten.Nodup/\∀f∈Gs.flatten,H f=none/\f≠L:=⟨_,fun _ _ _=>Iff.rfl⟩
 refine eE (K:=K) (a:=b) (xs:=xs) Pv ((um _ _ _).mpr ⟨none,[],[],rfl,s1,y1,Zn _,by simp[PG.dg,bB],Xt,by simp⟩) ?_ ?_ ?_
 ·intro i σ Hx hi hv;obtain⟨_,_,_,_,sx,_⟩:=(um _ _ _).mp hv;exact sx.seq (s0.seq hx)
 ·intro i x σ Hx AX hv;obtain⟨z4,ys,Gs,rfl,sx,yx,ly,al,BS,new⟩:=(um _ _ _).mp hv;clear hv;have li:i<body.length:=by have:=(Zi.mp AX).1;lia
  obtain⟨v',pN,rv⟩:=rs.get (i:=i) (d:=bp body[i]) (by rw[Zq,Zd li];rfl);rw[AX] at pN;cases pN;obtain⟨fm,dm⟩:=nu body _ (Zu li);have tk:PG.dg row o (body.take (i+1))=PG.dg row o (body.take i)++(if body[i].row=row then o else [PG.dU row o body[i]]):=by
   rw[ZM li,PG.vw,PG.BD]
  have MP:∀s∈PG.aP body[i],s.row=row->∀x∈o,PG.cU x<=PG.cU s:=fun s hs=>Qm s (wg (Zu li) hs);have UQ:body[i]∈PG.aP body[i]:=by obtain⟨r,e⟩:=PG.kr body[i];rw[e];simp
  generalize body[i]=st at *;have EN:=s0.trans sx;have add:∀(H3:Hp) (us:List V) (ss:List PG.aF) (Fs:List (List YE)),ai Hx H3->us.length<=1->bB (wW K H3 n) ss us Fs->Fs.flatten.Nodup->(∀f∈Fs.flatten,Hx f=none)->ss=(if st.row=row then o else [PG.dU row o st])->Pv (i+1) [some (.ref b),some (.int row),some (.ref l),some (.ref L),some x] (upd H3 L (.lst (ys++us))):=by
   intro H3 us ss Fs s3 lu zu UR qH US;have tb:jT K Hx (n+1) (PG.dg row o (body.take i)) L (L::Gs.flatten):=fP.mpr ⟨ys,Gs,yx,al,rfl⟩;refine(um _ _ _).mpr ⟨_,ys++us,Gs++Fs,rfl,((bw.of (sx.trans s3)).put _).same hL,af,by rw[Zc];lia,?_,?_,?_⟩
   ·rw[tk,<- US];have u2:aE (·=L) Hx (upd H3 L (.lst (ys++us))):=(aE.of s3).trans (aE.refl.put (O:=(·=L)) rfl _);have u3:aE (·=L) H3 (upd H3 L (.lst (ys++us))):=aE.refl.put (O:=(·=L)) rfl _;refine bB.app (al.imp fun bd b' G' _ v8 ht=>wW.iL (O:=(·=L)) (fun g z=>⟨_,z▸yx⟩) u2 (fun f hf z=>(new f (ZY.mpr ⟨_,v8,hf⟩)).2 z) ht) (zu.imp fun bd b' G' _ v8 ht=>wW.iL (O:=(·=L)) (fun g z=>⟨_,z▸s3 _ _ yx⟩) u3 (fun f hf z=>?_) ht);have:=qH f (ZY.mpr ⟨_,v8,hf⟩);rw[z,yx] at this;cases this
   ·rw[ZC];refine Xd.mpr ⟨BS,UR,fun f hf g hg z=>?_⟩;subst z;have no:=qH f hg;obtain⟨_,e⟩:=jT.lists _ _ _ _ tb f (Zk _ hf);rw[no] at e;cases e
   ·intro f hf;rw[ZC] at hf;rcases Zg.mp hf with hf |hf
    ·exact new f hf
    ·have no:=qH f hf;exact⟨sx.free no,fun z=>by rw[z,yx] at no;cases no⟩
  refine cV fun UB Er=>?_;rw[qq] at rv;have Sl:=rv;obtain⟨a,Wr,rfl,Sm,NQ⟩:=Rep.az.mp rv;obtain⟨hs,ws,rfl,r1,r2⟩:=oT NQ;have lh:=r1.length;obtain⟨h1,h2,_⟩:=pD st;have lw:=r2.length;rw[Zb] at lw;rw[<- qq] at Sl;have e1:(hs++ws)[1]?=some (.int st.row):=by
   have UT:∃d0 ds,rL st=d0 :: .int st.row::ds:=by cases st<;>exact⟨_,_,rfl⟩
   obtain⟨d0,ds,ed⟩:=UT;rw[ed] at r1;simp only[aw.ar,Rep.aB] at r1;obtain⟨_,_,rfl,_,_,_,rfl,rfl,_⟩:=r1;rfl
  walk_at "rd";refine aN (EN.a7 Sm) (v:=.int st.row) (av e1) ⟨rfl,oz (fun e=>(Er _ _).mpr ?_) (fun e=>?_)⟩
  ·clear Er;have e:st.row=row:=by injection e
   rw[if_pos e] at add;simp only[ft];walk_at "rd";refine⟨.inl ⟨rfl,_,.of yx⟩,l,rfl,⟨_,EN.seq EI⟩,fun D hD=>?_⟩;have Sg:L≠D:=ao yx hD;refine dv (K:=K) (r:=[]) (fun i EO H2=>∃Gs:List (List YE),bB (wW K H2 n) (o.take i) EO Gs/\Gs.flatten.Nodup/\∀f∈Gs.flatten,Hx f=none/\f≠D) (EN.seq EI) (by lia) hD ⟨[],trivial,Xt,by simp⟩ ?_ ?_
   ·rintro i2 x2 EO H2 MQ s2 jI UU ⟨ER,zu,zv,qH⟩ R hR
    have Hl:i2<o.length:=by have:=(Zi.mp MQ).1;lia
    obtain⟨v',pN,UW⟩:=Sk.get (i:=i2) (d:=bp o[i2]) (by rw[Zq,Zd Hl];rfl);rw[MQ] at pN;cases pN;have dx:=MP st UQ e _ (Zu Hl);have fx:=fo _ (Zu Hl);walk_at "rd";refine⟨x2,o[i2],H0,rfl,EN.trans s2,UW,by lia,fx,fun u F H3 s3 tr zt kF=>hR _ H3 s3 ⟨ER++[F],?_,?_,?_⟩⟩
    ·rw[ZM Hl];have u2:aE (·=D) H2 (upd H3 D (.lst (EO++[u]))):=(aE.of s3).trans (aE.refl.put (O:=(·=D)) rfl _);have u3:aE (·=D) H3 (upd H3 D (.lst (EO++[u]))):=aE.refl.put (O:=(·=D)) rfl _;refine(zu.imp fun bd b' G' _ v8 ht=>wW.iL (O:=(·=D)) (fun g z=>⟨_,z▸jI⟩) u2 (fun f hf z=>(qH f (ZY.mpr ⟨_,v8,hf⟩)).2 z) ht).snoc ?_;exact wW.iL (O:=(·=D)) (fun g z=>⟨_,z▸s3 _ _ jI⟩) u3 (fun f hf z=>by have:=kF f hf;rw[z,jI] at this;cases this) tr
    ·rw[ZC,ZG,Xa,Zr];refine Xd.mpr ⟨zv,zt,fun f hf g hg z=>?_⟩;subst z;have no:=kF f hg;obtain⟨_,e⟩:=jT.lists _ _ _ _ (fP.mpr ⟨EO,ER,jI,zu,rfl⟩:jT K H2 (n+1) (o.take i2) D (D::ER.flatten)) f (Zk _ hf);rw[no] at e;cases e
    ·intro f hf;rw[ZC,ZG,Xa,Zr] at hf;rcases Zg.mp hf with hf |hf
     ·exact qH f hf
     ·have no:=kF f hf;exact⟨fB s2 no,fun z=>by rw[z,jI] at no;cases no⟩
   ·rintro EO H2 s2 jI ⟨ER,zu,zv,qH⟩
    rw[UP,Zw] at zu;have l2:=zu.length.1;exact⟨L,D,ys,EO,rfl,rfl,s2 _ _ yx,jI,by lia,add H2 EO o ER s2 (by lia) zu zv (fun f hf=>(qH f hf).1) rfl⟩
  ·have e:st.row≠row:=fun z=>e (by rw[z]);rw[if_neg e] at add;refine⟨.inl ⟨rfl,_,.of yx⟩,?_⟩;simp only[ft];walk_at "rd";refine⟨.ref a,st,H0,rfl,Sl,EN,fun l2 bv H1 s1 hl y1 rc=>⟨l2,rfl,⟨_,.of y1⟩,fun D hD=>?_⟩⟩;have MO:bv.length=(aC st).length:=by rw[rc.length,Zb]
   have n8:(aC st).length<=2:=by cases st<;>simp[aC]
   have UO:Hx D=none:=fB s1 hD;show eX (qe K l2) D (bV 0) iO _ _ [none,some (.int row),some (.ref l)] _;refine dv (K:=K) (r:=[some (.int row),some (.ref l)]) (fun i ys H2=>∃(bs:List YE) (Gs:List (List YE)),ys=bs.map V.ref/\bB (jT K H2 n) (((aC st).take i).map (PG.dg row o)) bs Gs/\Gs.flatten.Nodup/\∀f∈Gs.flatten,Hx f=none/\f≠D) (.of y1) (by lia) hD ⟨[],[],rfl,trivial,Xt,by simp⟩ ?_ ?_
   ·rintro i2 x2 EO H2 MR s2 jI UU ⟨bs,ER,rfl,zu,zv,qH⟩ R hR
    have Hl:i2<(aC st).length:=by have:=(Zi.mp MR).1;lia
    obtain⟨v',pN,Sn⟩:=rc.get (i:=i2) (d:=.lst ((aC st)[i2].map bp)) (by rw[Zq,Zd Hl];rfl);rw[MR] at pN;cases pN;have mi:(aC st)[i2]∈aC st:=Zu Hl;obtain⟨fb,db⟩:=kM st _ mi;obtain⟨ab,_,rfl,_⟩:=Rep.bT.mp Sn;walk_at "rd";refine⟨ab,l,(aC st)[i2],o,row,H0,rfl,(EN.trans s1).trans s2,Sn,ro,by lia,by lia,lo,fo,fun s hs=>MP s (FR mi s hs),fun l3 F H3 s3 tr zt kF=>hR _ H3 s3 ⟨bs++[l3],ER++[F],by simp,?_,?_,?_⟩⟩
    ·rw[ZM Hl,Zl];have u2:aE (·=D) H2 (upd H3 D (.lst (bs.map V.ref++[V.ref l3]))):=(aE.of s3).trans (aE.refl.put (O:=(·=D)) rfl _);have u3:aE (·=D) H3 (upd H3 D (.lst (bs.map V.ref++[V.ref l3]))):=aE.refl.put (O:=(·=D)) rfl _;refine(zu.imp fun bd b' G' _ v8 ht=>jT.iL (O:=(·=D)) (fun g z=>⟨_,z▸jI⟩) u2 n bd b' G' (fun f hf z=>(qH f (ZY.mpr ⟨_,v8,hf⟩)).2 z) ht).snoc ?_;exact jT.iL (O:=(·=D)) (fun g z=>⟨_,z▸s3 _ _ jI⟩) u3 n _ _ _ (fun f hf z=>by have:=kF f hf;rw[z,jI] at this;cases this) tr
    ·rw[ZC,ZG,Xa,Zr];refine Xd.mpr ⟨zv,zt,fun f hf g hg z=>?_⟩;subst z;have no:=kF f hg;obtain⟨G',v8,Ql⟩:=ZY.mp hf;have key:∀ {as:List (List PG.aF)} {bs:List YE} {cs:List (List YE)},bB (jT K H2 n) as bs cs->G'∈cs->∃ys,H2 f=some (.lst ys):=by
      intro as
      induction as with
      |nil=>intro bs cs h m;obtain⟨rfl,rfl⟩:=bB.aD.mp h;cases m
      |cons x as ih=>
       intro bs cs h m;obtain⟨b',An,c,Ao,rfl,rfl,h1,h2⟩:=bB.ar.mp h;rcases Zf.mp m with rfl |m
       ·exact jT.lists n _ _ _ h1 f Ql
       ·exact ih h2 m
     obtain⟨_,e⟩:=key zu v8;rw[e] at no;cases no
    ·intro f hf;rw[ZC,ZG,Xa,Zr] at hf;rcases Zg.mp hf with hf |hf
     ·exact qH f hf
     ·have no:=kF f hf;exact⟨fB (s1.trans s2) no,fun z=>by rw[z,jI] at no;cases no⟩
   ·rintro EO H2 s2 jI ⟨bs,ER,rfl,zu,zv,qH⟩
    rw[MO,Zw] at zu;have Sj:=(zu.length).1;rw[Zb] at Sj;have qX:=(EN.trans s1).trans s2;refine⟨a,D,hs,ws,bs.map V.ref,rfl,qX.a7 Sm,fun z=>by rw[z] at lh;simp at lh;lia,by lia,by rw[Zb];lia,by rw[Zb];lia,jI,fun p H3 s3 tM=>?_⟩;have So:=(s1.trans s2).trans s3;refine⟨L,ys,_,rfl,rfl,So _ _ yx,by lia,add H3 [.ref p] [PG.dU row o st] [ER.flatten] So (Zn _) (bB.ar.mpr ⟨_,_,_,_,rfl,rfl,?_,bB.aD.mpr ⟨rfl,rfl⟩⟩) (by simpa using zv) (fun f hf=>(qH f (by simpa using hf)).1) rfl⟩;refine⟨p,hs,bs,ER,rfl,tM,?_,?_,rfl⟩
    ·rw[L7];exact r1.mono (qX.trans s3)
    ·rw[za];exact zu.imp fun bd b' G' _ _ ht=>jT.iL (O:=fun _=>False) (fun g z=>z.elim) (.of s3) n bd b' G' (fun f _ z=>z) ht
 ·intro σ Hx hv;obtain⟨z4,ys,Gs,rfl,sx,yx,ly,al,BS,new⟩:=(um _ _ _).mp hv;rw[lx,Zw] at al;refine(jz _ _).mpr ?_;walk_at "rd";exact q L (L::Gs.flatten) Hx sx (fP.mpr ⟨ys,Gs,yx,al,rfl⟩) (Z0.mpr ⟨fun z=>(new L z).2 rfl,BS⟩) fun f hf=>(Zf.mp hf).elim (fun z=>z▸hL) fun z=>(new f z).1
theorem vG(T:Tx K mg t):∀n,bP P w K mg base gA (2*n+3) t.fT t.gg ["body", "row", "others"] (rR K n)
 |0=>by
  have no:∀vs H Q E,¬rR K 0 vs H Q E:=fun vs H Q E h=>by obtain⟨_,_,_,_,_,_,_,_,_,_,h,_⟩:=h;lia
  exact⟨fun vs H Q E h=>absurd h (no vs H Q E),fun A outer s H args us vs Q E _ _ _ _ h=>absurd h (no vs H Q E)⟩
 |n+1=>Ew T (vG T n)
theorem Ex(T:Tx K mg t){n:Nat}(jk:bP P w K mg base gA (n+2) t.cQ t.du ["body"] (rK K n)) :
 bP P w K mg base gA (n+3) t.cQ t.du ["body"] (rK K (n+1)):=by
 have je:bP P w K mg base gA 1 t.fc t.fg ["statement"] (pB K):=k6 T;refine T.fA.F.oA kB (fun vs H Q E h=>?_) (fun gP A outer s H vs Q E hr h=>?_)
 ·obtain⟨_,_,_,rfl,_⟩:=h;rfl
 obtain⟨b,body,H0,rfl,s0,rb,hd,hf,q⟩:=h;have nd:=kB.nd;refine⟨_,[some (V.ref b),none,none,none],(aj (nz 1 nd (aQ ag))
 (aj (dQ PassesOwn.never rfl (ba (pv 0)) (DC 2 nd)
 (aj (cp (fL Zs Zx Zy bN (pv 1) (b8 2 ag)))
 (ay (dQ PassesOwn.never rfl (ba (gR je T.gU hr (b8 2 ag))) (DC 3 nd)
 (ay (cp (fL Zs XB XC nk (pv 1) (ae (gR jk T.fA hr (b8 3 ag)) ag b7))))))))
 (ay (aT (pv 1))))),rfl,?_⟩
 have line:YM=2 ^ 24:=rfl;rw[Rep.bT] at rb;obtain⟨_,xs,e,hx,rs⟩:=rb;cases e;have lx:xs.length=body.length:=by rw[rs.length,Zb]
 have lb:=nv body;have sl:=sN body;refine aq fun U1 gy=>?_;walk_at "rd";intro d Ji;have s1:=ai.new Ji (.lst []);have y1:(upd H d (.lst [])) d=some (.lst []):=af;generalize upd H d (.lst [])=H1 at *;refine(gy _ _).mpr (aq fun U2 jz=>?_);clear gy;refine eJ fun U hU=>?_;walk_at "rd";refine⟨⟨xs,(s0.trans s1).seq hx⟩,hU _ _ ?_⟩;clear hU;obtain⟨Pv,um,uo⟩:=Nt fun (i:Nat) (σ:St) (H3:Hp) zq=>∀(z2 z3:Option V) (us:List V),σ=[some (V.ref b),some (V.ref d),z2,z3]->ai H H3->us.length=(PG.aA (body.take i)).length->H3 d=some (.lst us)->aw K H0 ((PG.aA (body.take i)).map bp) us->zq;refine eE (K:=K) (a:=b) (xs:=xs) Pv ((um _ _ _ fun _ zk=>zk none none [] rfl s1 rfl y1 .nil)) (fun i σ H3 _ hv=>?_) ?_ ?_
 ·refine uo _ _ _ hv _ fun _ _ _ _ s3 _ _ _=>?_;exact(s0.trans s3).seq hx
 ·intro i y σ H3 hi hv;refine uo _ _ _ hv _ fun z2 z3 us Qn s3 lu y3 r3=>?_;subst Qn;clear hv;have done:=fun σ H7=>um (i+1) σ H7;have li:i<body.length:=by have:=(Zi.mp hi).1;lia
  obtain⟨v,hv,rv⟩:=rs.get (i:=i) (d:=bp body[i]) (by rw[Zq,Zd li];rfl);rw[hi] at hv;cases hv;have mem:body[i]∈body:=Zu li;obtain⟨fm,dm⟩:=nu body _ mem;have et:PG.aA (body.take (i+1))=PG.aA (body.take i)++body[i]::(aC body[i]).flatMap PG.aA:=by
   rw[ZM li,i6,Dh,vZ]
  rw[et] at done;have eb:PG.aA body=(PG.aA (body.take i)++body[i]::(aC body[i]).flatMap PG.aA)++PG.aA (body.drop (i+1)):=by
   rw[<- et,<- i6,Xm]
  rw[eb] at sl;have sl:(PG.aA (body.take i)++body[i]::(aC body[i]).flatMap PG.aA).length<=1000:=by
   rw[Zc] at sl;lia
  generalize body[i]=st at *;generalize PG.aA (body.take i)=pre at *;simp only[bV,Xi];refine aq fun U3 kE=>?_;walk_at "rd";refine⟨.inl ⟨rfl,_,.of y3⟩,d,us,y,rfl,rfl,y3,by simp only[Zc,Ze] at sl;lia,(kE _ _).mpr ?_⟩;clear kE;have y4:(upd H3 d (.lst (us++[y]))) d=some (.lst (us++[y])):=af;have s4:ai H (upd H3 d (.lst (us++[y]))):=fun z o e=>by rw[aL (ao e Ji)];exact s3 z o e
  generalize upd H3 d (.lst (us++[y]))=H4 at *;refine eJ fun U hU=>?_;walk_at "rd";refine⟨y,st,H0,rfl,rv,s0.trans s4,fun p bv H5 Sq hp h5 rc=>⟨p,rfl,⟨_,.of h5⟩,hU _ _ ?_⟩⟩;clear hU;have s5:=s4.trans Sq;have y5:=Sq _ _ y4;have UX:p≠d:=(ao y4 hp).symm;have MO:bv.length=(aC st).length:=by rw[rc.length,Zb]
  obtain⟨Pw,Hm,Jw⟩:=Nt fun (j:Nat) (σ:St) (H6:Hp) zq=>∀(z3:Option V) (F4:List V),σ=[some (V.ref b),some (V.ref d),some y,z3]->ai H H6->H6 p=some (.lst bv)->F4.length=(pre++st::((aC st).take j).flatMap PG.aA).length->H6 d=some (.lst F4)->aw K H0 ((pre++st::((aC st).take j).flatMap PG.aA).map bp) F4->zq;refine eE (K:=K) (a:=p) (xs:=bv) Pw ((Hm _ _ _ fun _ zk=>zk z3 (us++[y]) rfl s5 h5 (by simp[lu]) y5 ?_)) (fun j σ H6 _ hv=>?_) ?_ ?_
  ·rw[XM,W8,Zl];exact r3.append (.cons rv .nil)
  ·refine Jw _ _ _ hv _ fun _ _ _ _ h6 _ _ _=>?_;exact .of h6
  ·intro j y' σ H6 hj hv;refine Jw _ _ _ hv _ fun Qo F4 Qn s6 h6 Qp y6 r6=>?_;subst Qn;clear hv;have Hn:=fun σ H7=>Hm (j+1) σ H7;have lj:j<(aC st).length:=by have:=(Zi.mp hj).1;lia
   obtain⟨v,hv,Sr⟩:=rc.get (i:=j) (d:=.lst ((aC st)[j].map bp)) (by rw[Zq,Zd lj];rfl);rw[hj] at hv;cases hv;have mj:(aC st)[j]∈aC st:=Zu lj;obtain⟨fb,db⟩:=kM st _ mj;have ej:((aC st).take (j+1)).flatMap PG.aA=((aC st).take j).flatMap PG.aA++PG.aA (aC st)[j]:=by
    rw[ZM lj,ZR];simp
   have ea:(aC st).flatMap PG.aA=((aC st).take j).flatMap PG.aA++PG.aA (aC st)[j]++((aC st).drop (j+1)).flatMap PG.aA:=by
    rw[<- ej,<- ZR,Xm]
   rw[ej] at Hn;rw[ea] at sl;generalize (aC st)[j]=bb at *;generalize ((aC st).take j).flatMap PG.aA=mid at *;generalize ((aC st).drop (j+1)).flatMap PG.aA=rest at *;have JI:(pre++st::mid).length+(PG.aA bb).length<=1000:=by
    simp only[Zc,Ze] at sl ⊢;lia
   obtain⟨ab,_,rfl,_⟩:=Rep.bT.mp Sr;simp only[bV,Xi];walk_at "rd";refine⟨.inl ⟨rfl,_,.of y6⟩,ab,bb,H0,rfl,s0.trans s6,Sr,by lia,by lia,fun d2 Ey H7 s7 hd2 y7 r7=>?_⟩;have l2:Ey.length=(PG.aA bb).length:=by rw[r7.length,Zb]
   refine⟨d,d2,_,_,rfl,rfl,s7 _ _ y6,y7,by lia,?_⟩;refine Hn _ _ (fun _ zk=>zk _ (F4++Ey) rfl (fun z o e=>by rw[aL (ao e Ji)];exact s7 _ _ (s6 z o e)) (by rw[aL UX];exact s7 _ _ h6) (by simp only[Zc,Ze] at *;lia) af ?_);rw[show pre++st::(mid++PG.aA bb)=(pre++st::mid)++PG.aA bb by simp,Zl];exact r6.append r7
  ·intro σ H6 hv;refine Jw _ _ _ hv _ fun Qo F4 Qq s6 h6 Qp y6 r6=>?_;subst Qq;rw[MO,Zw] at Qp r6;exact done _ _ (fun _ zk=>zk _ _ F4 rfl s6 Qp y6 r6)
 ·intro σ H3 hv;refine uo _ _ _ hv _ fun z2 z3 us Qq s3 lu y3 r3=>?_;subst Qq;rw[lx,Zw] at lu r3;refine(jz _ _).mpr ?_;walk_at "rd";exact q d us H3 s3 Ji y3 r3
theorem vH(T:Tx K mg t):∀n,bP P w K mg base gA (n+2) t.cQ t.du ["body"] (rK K n)
 |0=>by
  have no:∀vs H Q E,¬rK K 0 vs H Q E:=fun vs H Q E h=>by obtain⟨_,_,_,_,_,_,h,_⟩:=h;lia
  exact⟨fun vs H Q E h=>absurd h (no vs H Q E),fun A outer s H args us vs Q E _ _ _ _ h=>absurd h (no vs H Q E)⟩
 |n+1=>Ex T (vH T n)
theorem zw(T:Tx K mg t)(C:Cd P w K t):bP P w K mg base gA 13 t.kC t.kY ["program"] (BE K):=by
 have jk:=vH (P:=P) (w:=w) (base:=base) T 4;have wM:=uv (base:=base) T C;have mV:=vG (P:=P) (w:=w) (base:=base) T 4;refine T.gi.F.oA tJ (fun vs H Q E h=>?_) (fun gP A outer s H vs Q E hr h=>?_)
 ·obtain⟨_,_,rfl,_⟩:=h;rfl
 obtain⟨v,pr,rfl,rp,pc,q⟩:=h;have nd:=tJ.nd;have line:YM=2 ^ 24:=rfl;obtain⟨pp,Ws,rfl,MJ,Ss⟩:=Rep.az.mp rp;simp only[aw.ar,aw.aD] at Ss;obtain⟨vB,_,rfl,rB,vb,_,rfl,rb,rfl⟩:=Ss;obtain⟨B,wX,rfl,hB,Su⟩:=Rep.bT.mp rB;obtain⟨b,Wt,rfl,hb,Wu⟩:=Rep.bT.mp rb;have UY:=pc.dep;have Wv:wX.length=pr.aS.length:=by rw[Su.length,Zb]
 have UZ:=pc.bx;have n8:=pc.n8;have lst:(PG.aA pr.body).length=(PG.fI pr.body).length:=by rw[<- PG.iP,Zb]
 refine⟨_,[some (.ref pp),none,none,none],(aj (nz 1 nd (aQ ag))
 (aj (dQ PassesOwn.never rfl (ba (gR jk T.fA hr (ae (aH aZ (pv 0) ah ax) ag a8))) (DC 2 nd)
 (ay (dQ PassesOwn.never rfl (ba (gR wM T.jx hr (b8 2 ag))) (DC 3 nd)
 (ay (cp (fL Zs Zx Zy bN (pv 1) (ae (bR (ae (eG vV rfl T.jM PyProof.Rows.Boot.«list» (ae (aH aZ (pv 0) ah ax) ag a8)) (ae (gR mV T.jc hr (ae (aH aZ (pv 0) ah ax) (ae (aH aZ (pv 2) ah ax) (b8 3 ag) a8) a8)) ag b7) b7)) ag l7)))))))
 (ay (aT (pv 1))))),rfl,?_⟩
 refine aq fun U1 gy=>?_;walk_at "rd";intro L hL;refine(gy _ _).mpr (aq fun U2 jz=>?_);clear gy;have s1:=ai.new hL (.lst []);have y1:(upd H L (.lst [])) L=some (.lst []):=af;generalize upd H L (.lst [])=H1 at *;refine eJ fun U hU=>?_;walk_at "rd";refine aN (s1.a7 MJ) (v:=.ref b) (av (j:=1) rfl) ?_;refine⟨b,pr.body,H,rfl,s1,rb,by lia,n8,fun l us H2 s2 hl yl rs=>⟨l,rfl,⟨_,.of yl⟩,hU _ _ ?_⟩⟩;clear hU;have EJ:us.length=(PG.aA pr.body).length:=by rw[rs.length,Zb]
 have U0:l≠L:=(ao y1 hl).symm;have y2:=s2 _ _ y1;have qX:=s1.trans s2;obtain⟨cs,E3⟩:∃cs:PG.aF->List PG.Prog,cs=fun s=>(PG.bM s).map fun o=>⟨pr.aS,PG.dg s.row o pr.body⟩:=⟨_,rfl⟩
 have F3:PG.zb pr=(PG.aA pr.body).flatMap cs:=by rw[E3];rfl
 rw[F3] at q;clear F3;obtain⟨Iv,F5⟩:∃Iv:List PG.Prog->Nat->Hp->Prop,∀ps n Hx,Iv ps n Hx↔∃(ys:List V) (Fs:List (List YE)),ai H Hx/\aE (·=L) H2 Hx/\Hx L=some (.lst ys)/\ys.length<=n/\bB (DQ K Hx) ps ys Fs/\Fs.flatten.Nodup/\∀f∈Fs.flatten,H f=none/\f≠L:=⟨_,fun _ _ _=>Iff.rfl⟩
 obtain⟨Pv,um⟩:∃Pv:Nat->St->Hp->Prop,∀i σ Hx,Pv i σ Hx↔∃(z2 z3:Option V),σ=[some (.ref pp),some (.ref L),z2,z3]/\Iv (((PG.aA pr.body).take i).flatMap cs) (1003*i) Hx:=⟨_,fun _ _ _=>Iff.rfl⟩
 refine eE (K:=K) (a:=l) (xs:=us) Pv ((um _ _ _).mpr ⟨none,none,rfl,(F5 _ _ _).mpr ⟨[],[],qX,.refl,y2,Zn _,by simp[bB],Xt,by simp⟩⟩) ?_ ?_ ?_
 ·intro i σ Hx hi hv;obtain⟨_,_,_,J7⟩:=(um _ _ _).mp hv;obtain⟨_,_,_,ux,_⟩:=(F5 _ _ _).mp J7;exact .of (ux _ _ U0 yl)
 ·intro i x σ Hx AX hv;obtain⟨z2,z3,rfl,J7⟩:=(um _ _ _).mp hv;have li:i<(PG.aA pr.body).length:=by have:=(Zi.mp AX).1;lia
  obtain⟨v',pN,rv⟩:=rs.get (i:=i) (d:=bp (PG.aA pr.body)[i]) (by rw[Zq,Zd li];rfl);rw[AX] at pN;cases pN;have Qr:=Zu li;have tk:((PG.aA pr.body).take (i+1)).flatMap cs=((PG.aA pr.body).take i).flatMap cs++cs (PG.aA pr.body)[i]:=by
   rw[ZM li,ZR];simp
  generalize (PG.aA pr.body)[i]=st at *;have sc:=pc.st st Qr;have fst:=PG.mz _ _ Qr;have dst:∀o∈PG.bM st,∀s∈PG.aA pr.body,s.row=st.row->∀x∈o,PG.cU x<=PG.cU s:=fun o ho s hs e y hy=>by
   rw[PG.DT pc.pw hs Qr e];have:=(PG.jJ o ho).2 y hy;lia
  have Va:(PG.bM st).length<=1003:=by
   have h1:=yb sc;have h2:=PG.xO st;unfold PG.bM;rw[Zc,Zb];lia
  generalize ((PG.aA pr.body).take i).flatMap cs=Vb at *;obtain⟨Vc,Vd,sx,ux,yx,Ve,Vf,Vg,Qs⟩:=(F5 _ _ _).mp J7;refine eJ fun U hU=>?_;walk_at "rd";refine⟨x,st,H,(·=L),rfl,sx,rv,sc,fun g hg=>by rw[hg];exact⟨hL,_,yx⟩,fun L2 Ey H3 s3 G0 FY Sv=>⟨L2,rfl,⟨_,.of FY⟩,hU _ _ ?_⟩⟩;clear hU;have Qt:L2≠L:=(ao yx G0).symm;have Qu:Ey.length=(PG.bM st).length:=by rw[Sv.nK.length,Zb]
  obtain⟨a,w0,zs,rfl,hS⟩:=DU rv;obtain⟨Pw,Hm⟩:∃Pw:Nat->St->Hp->Prop,∀k σ Hy,Pw k σ Hy↔∃(z3:Option V),σ=[some (.ref pp),some (.ref L),some (.ref a),z3]/\aE (·=L) H3 Hy/\Iv (Vb++(cs st).take k) (1003*i+k) Hy:=⟨_,fun _ _ _=>Iff.rfl⟩
  refine eE (K:=K) (a:=L2) (xs:=Ey) Pw ((Hm _ _ _).mpr ⟨_,rfl,.refl,(F5 _ _ _).mpr ⟨Vc,Vd,sx.trans s3,ux.trans (.of s3),s3 _ _ yx,Ve,by rw[XM,Zr];exact Vf.imp fun p' v' F' _ _ h=>h.iL (O:=fun _=>False) (fun g z=>z.elim) (.of s3) (fun f _ z=>z),Vg,Qs⟩⟩) ?_ ?_ ?_
  ·intro k σ Hy hk hw;obtain⟨_,_,uy,_⟩:=(Hm _ _ _).mp hw;exact .of (uy _ _ Qt FY)
  ·intro k y σ Hy hy hw;obtain⟨Qo,rfl,uy,NR⟩:=(Hm _ _ _).mp hw;obtain⟨ys,Fs,sy,Qv,yy,ly,al,zt,new⟩:=(F5 _ _ _).mp NR;clear hw NR hv J7;have lk:k<(PG.bM st).length:=by have:=(Zi.mp hy).1;lia
   have mo:=Zu lk;obtain⟨lo1,Qm⟩:=PG.jJ _ mo;have Vh:(cs st).take (k+1)=(cs st).take k++[⟨pr.aS,PG.dg st.row (PG.bM st)[k] pr.body⟩]:=by
    have Ho:k<(cs st).length:=by rw[E3];simpa using lk
    rw[ZM Ho]
    congr 2
    subst E3;simp
   have Qw:=dst _ mo;have uL:aE (·=L) H3 (less Hy L):=fun b o n e=>AF n (uy b o n e);obtain⟨v',pN,ro⟩:=(Sv _ uL).get (i:=k) (d:=.lst ((PG.bM st)[k].map bp)) (by rw[Zq,Zd lk];rfl);rw[hy] at pN;cases pN;generalize (PG.bM st)[k]=o at *;obtain⟨lo,_,rfl,_⟩:=Rep.bT.mp ro;have Vi:ai H (less Hy L):=fun b o e=>AF (ao e hL) (sy _ _ e);have MS:=sy.a7 MJ;walk_at "rd";refine⟨.inl ⟨rfl,_,.of yy⟩,aN MS (v:=.ref B) (av (j:=0) rfl) ⟨B,wX,rfl,.inl (sy.seq hB),fun LB NS=>?_⟩⟩;have s4:=ai.new NS (.lst wX);have Sw:(upd Hy LB (.lst wX)) LB=some (.lst wX):=af;have Sx:LB≠L:=(ao yy NS).symm;have Vj:H LB=none:=sy.free NS;generalize upd Hy LB (.lst wX)=H4 at *;refine aN (s4.a7 MS) (v:=.ref b) (av (j:=1) rfl) ?_;refine aN (s4.a7 (sy.a7 hS)) (v:=.int st.row) (av (j:=1) rfl) ?_;refine⟨b,lo,pr.body,o,st.row,less Hy L,rfl,BF.trans s4,rb.mono Vi,ro,by lia,n8,lo1,fun z hz=>by have:=(Qm z hz).2;lia,Qw,fun l' F H5 s5 tr Qx kF p hp=>?_⟩;have Vk:=s4.trans s5;have s6:=ai.new hp (.tup [V.ref LB,V.ref l']);have yp:bU K (upd H5 p (.tup [V.ref LB,V.ref l'])) p [V.ref LB,V.ref l']:=.of af;generalize upd H5 p (.tup [V.ref LB,V.ref l'])=H6 at *;have F1:=Vk.trans s6;have Sy:=F1 _ _ yy;refine⟨L,ys,_,rfl,rfl,Sy,by lia,(Hm _ _ _).mpr ⟨_,rfl,?_,(F5 _ _ _).mpr ⟨ys++[.ref p],Fs++[LB::F],((bw.of (sy.trans F1)).put _).same hL,?_,af,by rw[Zc,Zm];lia,?_,?_,?_⟩⟩⟩
   ·exact(uy.trans (.of F1)).trans (aE.put (O:=(·=L)) aE.refl rfl _)
   ·exact(Qv.trans (.of F1)).trans (aE.put (O:=(·=L)) aE.refl rfl _)
   ·rw[Vh,<- ZA];have u2:aE (·=L) Hy (upd H6 L (.lst (ys++[V.ref p]))):=(aE.of F1).trans (aE.put (O:=(·=L)) aE.refl rfl _);have u3:aE (·=L) H6 (upd H6 L (.lst (ys++[V.ref p]))):=aE.put (O:=(·=L)) aE.refl rfl _;refine(al.imp fun p' v' F' _ mF h=>h.iL (O:=(·=L)) (fun g z=>⟨_,z▸yy⟩) u2 (fun f hf z=>(new f (ZY.mpr ⟨_,mF,hf⟩)).2 z)).snoc ?_;refine DQ.iL (O:=(·=L)) (fun g z=>⟨_,z▸Sy⟩) u3 (fun f hf z=>?_) ⟨p,LB,l',wX,F,rfl,yp,s6 _ _ (s5 _ _ Sw),Su.mono (sy.trans F1),jT.iL (O:=fun _=>False) (fun g z=>z.elim) (.of s6) 4 _ _ _ (fun f _ z=>z) tr,rfl⟩;rcases Zf.mp hf with hf |hf
    ·exact Sx (hf.symm.trans z)
    ·have:=kF f hf;rw[z,s4 _ _ yy] at this;cases this
   ·rw[ZC,ZG,Xa,Zr];refine Xd.mpr ⟨zt,Z0.mpr ⟨fun z=>?_,Qx⟩,fun f hf g hg z=>?_⟩
    ·have:=kF LB z;rw[Sw] at this;cases this
    ·subst z;obtain⟨_,e⟩:=qA al f hf;rcases Zf.mp hg with hg |hg
     ·rw[hg,NS] at e;cases e
     ·have:=kF f hg;rw[s4 _ _ e] at this;cases this
   ·intro f hf;rw[ZC,ZG,Xa,Zr] at hf;rcases Zg.mp hf with hf |hf
    ·exact new f hf
    ·rcases Zf.mp hf with hf |hf
     ·rw[hf];exact⟨Vj,Sx⟩
     ·have no:=kF f hf;exact⟨(sy.trans s4).free no,fun z=>by rw[z,s4 _ _ yy] at no;cases no⟩
  ·intro σ Hy hw;obtain⟨Qo,rfl,uy,NR⟩:=(Hm _ _ _).mp hw;refine(um _ _ _).mpr ⟨_,_,rfl,?_⟩;rw[tk];obtain⟨ys,Fs,sy,Qv,yy,ly,al,zt,new⟩:=(F5 _ _ _).mp NR;refine(F5 _ _ _).mpr ⟨ys,Fs,sy,Qv,yy,by lia,?_,zt,new⟩;rw[Qu,Xl (by subst E3;simp)] at al;exact al
 ·intro σ Hx hv;obtain⟨z2,z3,rfl,J7⟩:=(um _ _ _).mp hv;obtain⟨ys,Fs,sx,ux,yx,ly,al,zt,new⟩:=(F5 _ _ _).mp J7;refine(jz _ _).mpr ?_;walk_at "rd";rw[EJ,Zw] at al;exact q L ys Fs Hx sx hL yx al zt new
theorem aw.MT{K:Za}{H:Hp}{d:Dp}{v:V}(hd:Rep K H d v):∀ {ds:List Dp} {vs:List V},aw K H ds vs->∀i:Nat,aw K H (ds.set i d) (vs.set i v)
 |[],vs,h,i=>by cases aw.aD.mp h;exact .nil
 |e::ds,vs,h,i=>by
  obtain⟨v0,r,rfl,h0,h1⟩:=aw.ar.mp h;cases i with
  |zero=>exact .cons hd h1
  |succ i=>exact .cons h0 (aw.MT hd h1 i)
theorem leaf_len{K:Za}{H:Hp}{t:PM.Tr}{v:V}(h:Rep K H (cR t) v):∃a xs,v=.ref a/\bU K H a xs/\((xs.length=2/\∀p,PG.vz t p=[p])\/∃o l r vl vr,t=.bin o l r/\xs=[.str (S o),vl,vr]/\Rep K H (cR l) vl/\Rep K H (cR r) vr):=by
 cases t with
 |num n=>
  simp only[cR,Rep.az,aw.ar,aw.aD,Rep.au,Rep.aB] at h;obtain⟨a,xs,rfl,hS,_,_,rfl,rfl,_,_,rfl,rfl,rfl⟩:=h;exact⟨a,_,rfl,hS,.inl ⟨rfl,fun p=>rfl⟩⟩
 |box n=>
  simp only[cR,Rep.az,aw.ar,aw.aD,Rep.au,Rep.aB] at h;obtain⟨a,xs,rfl,hS,_,_,rfl,rfl,_,_,rfl,rfl,rfl⟩:=h;exact⟨a,_,rfl,hS,.inl ⟨rfl,fun p=>rfl⟩⟩
 |bin o l r=>
  simp only[cR,Rep.az,aw.ar,aw.aD,Rep.au] at h;obtain⟨a,xs,rfl,hS,_,_,rfl,rfl,vl,_,rfl,hl,vr,_,rfl,hr,rfl⟩:=h;exact⟨a,_,rfl,hS,.inr ⟨o,l,r,vl,vr,rfl,rfl,hl,hr⟩⟩
theorem AY{K:Za}{H:Hp}{a:YE}{p:List Nat}(h:H a=some (.lst (p.map fun n=>V.int (n:Nat)))):Rep K H (tG p) (.ref a):=by
 refine Rep.bT.mpr ⟨a,_,rfl,.of h,?_⟩;clear h
 induction p with
 |nil=>exact .nil
 |cons n p ih=>exact .cons (Rep.aB.mpr rfl) ih
theorem BU(T:Tx K mg t){n:Nat}(i3:bP P w K mg base gA (n+1) t.dY t.eR ["e", "path"] (pK K n)) :
 bP P w K mg base gA (n+2) t.dY t.eR ["e", "path"] (pK K (n+1)):=by
 refine T.dq.F.oA mN (fun vs H Q E h=>?_) (fun gP A outer s H vs Q E hr h=>?_)
 ·obtain⟨_,_,_,_,rfl,_⟩:=h;rfl
 obtain⟨v,tr,a,path,rfl,hv,ht,h6,ha,lp,q⟩:=h;have nd:=mN.nd;have line:YM=2 ^ 24:=rfl;refine⟨_,[some v,some (.ref a)],(aj (ck (aY kc (bF bK rfl T.jd PyProof.Rows.Boot.«len» (b8 0 ag)) ah (bu _))
 (ay (aT (aQ (b8 1 ag))))
 aU)
 (ay (aT (aG fe (aG fe (gR i3 T.dq hr (ae (aH aZ (pv 0) ah ax) (ae (aG fe (pv 1) (aQ (ae ah ag aK))) ag eI) a8)) (aQ (b8 1 ag))) (gR i3 T.dq hr (ae (aH aZ (pv 0) ah ax) (ae (aG fe (pv 1) (aQ (ae ah ag aK))) ag eI) a8)))))),rfl,?_⟩
 obtain⟨e,xs,rfl,hS,cs⟩:=leaf_len hv;refine aq fun U1 gy=>?_;walk_at "rd";refine⟨e,xs,rfl,.inr hS,?_⟩;rcases cs with ⟨l2,ep⟩ |⟨o,l,r,vl,vr,rfl,rfl,hl,BQ⟩
 ·refine(if_pos (by rw[l2];rfl)).mpr fun L hL=>?_;refine q L _ _ (ai.new hL _) hL af ?_;rw[ep];exact .cons (AY (ai.new hL _ _ _ ha)) .nil
 ·refine(if_neg (by show ¬((3:Int)=2);decide)).mpr ((gy _ _).mpr ?_);clear gy;rw[PG.cB] at ht h6 lp;have b1:=PG.wj l (path++[1]);have b2:=PG.wj r (path++[2]);have pw:∀k,k<=6->2 ^ k<=2 ^ 6:=fun k h=>ZP (by decide) h;have p1:=pw (PG.cB l) (by lia);have p2:=pw (PG.cB r) (by lia);walk_at "rd";refine aN hS (v:=vl) (av (j:=1) rfl) fun c1 Vl=>?_;have s1:=ai.new Vl (.lst [V.int 1]);have y1:(upd H c1 (.lst [V.int 1])) c1=_:=af;generalize upd H c1 (.lst [V.int 1])=H1 at *;refine⟨a,c1,_,_,rfl,rfl,s1 _ _ ha,y1,by simp only[Zb,Zm];lia,fun c2 Ie=>?_⟩;have e2:(path.map fun n=>V.int (n:Nat))++[V.int 1]=(path++[1]).map fun n=>V.int (n:Nat):=by rw[Zl];rfl
  rw[e2];have s2:=ai.new Ie (.lst ((path++[1]).map fun n=>V.int (n:Nat)));have y2:(upd H1 c2 (.lst ((path++[1]).map fun n=>V.int (n:Nat)))) c2=_:=af;generalize upd H1 c2 (.lst ((path++[1]).map fun n=>V.int (n:Nat)))=H2 at *;refine⟨vl,l,c2,path++[1],rfl,(hl.mono s1).mono s2,by lia,by lia,y2,by rw[Zc,Zm];lia,fun L1 yv H3 s3 AS ou x6 c4 Vm=>?_⟩;have s4:=ai.new Vm (.lst [V.ref a]);have y4:(upd H3 c4 (.lst [V.ref a])) c4=_:=af;generalize upd H3 c4 (.lst [V.ref a])=H4 at *;have MU:yv.length=(PG.vz l (path++[1])).length:=by rw[x6.length,Zb]
  refine⟨L1,c4,_,_,rfl,rfl,s4 _ _ ou,y4,by simp only[Zm];lia,fun c5 Vn=>?_⟩;have s5:=ai.new Vn (.lst (yv++[V.ref a]));have y5:(upd H4 c5 (.lst (yv++[V.ref a]))) c5=_:=af;generalize upd H4 c5 (.lst (yv++[V.ref a]))=H5 at *;have Vo:=s2.trans (s3.trans (s4.trans s5));have Jx:=s1.trans Vo;refine aN (Jx.a7 hS) (v:=vr) (av (j:=2) rfl) fun c6 Qy=>?_;have s6:=ai.new Qy (.lst [V.int 2]);have y6:(upd H5 c6 (.lst [V.int 2])) c6=_:=af;generalize upd H5 c6 (.lst [V.int 2])=H6 at *;have Sz:=Jx.trans s6;refine⟨a,c6,_,_,rfl,rfl,Sz _ _ ha,y6,by simp only[Zb,Zm];lia,fun c7 Vp=>?_⟩;have e7:(path.map fun n=>V.int (n:Nat))++[V.int 2]=(path++[2]).map fun n=>V.int (n:Nat):=by rw[Zl];rfl
  rw[e7];have s7:=ai.new Vp (.lst ((path++[2]).map fun n=>V.int (n:Nat)));have y7:(upd H6 c7 (.lst ((path++[2]).map fun n=>V.int (n:Nat)))) c7=_:=af;generalize upd H6 c7 (.lst ((path++[2]).map fun n=>V.int (n:Nat)))=H7 at *;refine⟨vr,r,c7,path++[2],rfl,(BQ.mono Sz).mono s7,by lia,by lia,y7,by rw[Zc,Zm];lia,fun L2 Ey H8 s8 G0 FY NQ=>?_⟩;have Qz:Ey.length=(PG.vz r (path++[2])).length:=by rw[NQ.length,Zb]
  have QA:=s6.trans (s7.trans s8);refine⟨c5,L2,_,_,rfl,rfl,QA _ _ y5,FY,by simp only[Zc,Zm];lia,fun c9 SA=>?_⟩;have s9:=ai.new SA (.lst (yv++[V.ref a]++Ey));have MM:=Jx.trans QA;refine q c9 _ _ (MM.trans s9) (MM.free SA) af ?_;rw[PG.vz,Zl,Zl];exact(((x6.mono (s4.trans s5)).mono (QA.trans s9)).append (.cons (AY ((MM.trans s9) _ _ ha)) .nil)).append (NQ.mono s9)
theorem tO(T:Tx K mg t):∀n,bP P w K mg base gA (n+1) t.dY t.eR ["e", "path"] (pK K n)
 |0=>by
  have no:∀vs H Q E,¬pK K 0 vs H Q E:=fun vs H Q E h=>by obtain⟨_,_,_,_,_,_,h,_⟩:=h;lia
  exact⟨fun vs H Q E h=>absurd h (no vs H Q E),fun A outer s H args us vs Q E _ _ _ _ h=>absurd h (no vs H Q E)⟩
 |n+1=>BU T (tO T n)
theorem Ez{p:List Nat}{d d':Dp}(h:vA p d=some d')(i:Nat):∀ {di:Dp},vA (p.take i) d=some di->vA (p.drop i) di=some d':=by
 induction i generalizing p d with
 |zero=>intro di e;cases e;exact h
 |succ i ih=>
  intro di e;cases p with
  |nil=>cases e;exact h
  |cons j p=>
   cases d with
   |tup ds=>
    rw[vA] at h;rw[List.take_succ_cons,vA] at e;cases hj:ds[j]? with
    |none=>rw[hj] at h;cases h
    |some x=>rw[hj] at h e;exact ih h e
   |_=>cases h
theorem Jy(T:Tx K mg t):bP P w K mg base gA 1 t.kD t.kZ ["e", "path"] (L9 K):=by
 refine T.gn.F.oA tK (fun vs H Q E h=>?_) (fun gP A outer s H vs Q E hr h=>?_)
 ·obtain⟨_,_,_,_,_,rfl,_⟩:=h;rfl
 obtain⟨v,d,d',a,path,rfl,hv,ha,lp,hd,q⟩:=h;have nd:=tK.nd;have line:YM=2 ^ 24:=rfl;refine⟨_,[some v,some (.ref a),none],(aj (dQ PassesOwn.never rfl (ba (pv 1)) (DC 2 nd)
 (ay (nz 0 nd (aH aZ (pv 0) (pv 2) iV))))
 (ay (aT (pv 0)))),rfl,?_⟩
 refine aq fun U1 gy=>?_;refine eJ fun U hU=>?_;walk_at "rd";refine⟨⟨_,ha⟩,hU _ _ ?_⟩;clear hU;refine eE (K:=K) (a:=a) (xs:=path.map fun n=>V.int (n:Nat)) (fun i σ Hx=>∃vx di z,σ=[some vx,some (.ref a),z]/\Hx=H/\Rep K H di vx/\vA (path.take i) d=some di) ⟨v,d,none,rfl,rfl,hv,rfl⟩ ?_ ?_ ?_
 ·intro i σ Hx _ h;obtain⟨_,_,_,_,rfl,_⟩:=h;exact ha
 ·intro i x σ Hx hx h;obtain⟨vx,di,z,rfl,rfl,QB,MV⟩:=h;rw[Zq] at hx;obtain⟨j,hj,rfl⟩:=ZS.mp hx;have rest:=Ez hd i MV;have li:=(Zi.mp hj).1;rw[XS li,(Zi.mp hj).2] at rest;cases di with
  |tup ds=>
   rw[vA] at rest;obtain⟨b,xs,rfl,hS,rs⟩:=Rep.az.mp QB;cases hk:ds[j]? with
   |none=>rw[hk] at rest;cases rest
   |some dj=>
    obtain⟨vj,Vq,rj⟩:=rs.get hk;simp only[bV,Xi];walk_at "rd";refine aN hS (v:=vj) (av (j:=j) Vq) ⟨vj,dj,_,rfl,rfl,rj,?_⟩;rw[Yj,hj];clear rest hv q hd;have:∀(p:List Nat) (d0:Dp),vA p d0=some (.tup ds)->vA (p++[j]) d0=some dj:=by
     intro p
     induction p with
     |nil=>intro d0 e;cases e;rw[Xf,vA,hk];rfl
     |cons k p ih=>
      intro d0 e;cases d0 with
      |tup es=>
       rw[vA] at e;rw[Xg,vA];cases hq:es[k]? with
       |none=>rw[hq] at e;cases e
       |some x=>rw[hq] at e;exact ih x e
      |_=>cases e
    exact this _ _ MV
  |_=>cases rest
 ·intro σ Hx h;obtain⟨vx,di,z,rfl,rfl,QB,MV⟩:=h;refine(gy _ _).mpr ?_;walk_at "rd";rw[Zb,Zw,hd] at MV;cases MV;exact q vx QB
theorem EA{K:Za}{H:Hp}{v:V}{p:List Nat}(h:Rep K H (tG p) v):∃a,v=.ref a/\gX K H a (p.map fun n=>V.int (n:Nat)):=by
 obtain⟨a,xs,rfl,hS,rs⟩:=Rep.bT.mp h;refine⟨a,rfl,?_⟩;have e:∀(p:List Nat) (xs:List V),aw K H (p.map fun n=>Dp.int (n:Nat)) xs->xs=p.map fun n=>V.int (n:Nat):=by
  intro p
  induction p with
  |nil=>intro xs h;exact aw.aD.mp h
  |cons n p ih=>
   intro xs h;obtain⟨v,r,rfl,h1,h2⟩:=aw.ar.mp h;rw[Rep.aB.mp h1,ih r h2];rfl
 rw[<- e p xs rs];exact hS
theorem F6(T:Tx K mg t){n:Nat}(jN:bP P w K mg base gA (n+1) t.gM t.gT ["e", "path", "part"] (wo K n)) :
 bP P w K mg base gA (n+2) t.gM t.gT ["e", "path", "part"] (wo K (n+1)):=by
 refine T.cF.F.oA qV (fun vs H Q E h=>?_) (fun gP A outer s H vs Q E hr h=>?_)
 ·obtain⟨_,_,_,_,_,_,_,_,_,rfl,_⟩:=h;rfl
 obtain⟨v,x,d,d',dx,a,path,H0,O,rfl,sz,hv,hx,hO,ha,ln,lp,hd,sh,q⟩:=h;have nd:=qV.nd;have line:YM=2 ^ 24:=rfl;refine⟨_,[some v,some (.ref a),some x],(aj (ck (aY (u6 (jC hr)) (pv 1) (aQ ag) (bu _))
 (ay (aT (pv 2)))
 aU)
 (ay (aT (aG g7 (aG g7 (bJ hE (pv 0) cq (b6 (aH bh (pv 1) ah ax))) (bR (ae (gR jN T.cF hr (ae (aH aZ (pv 0) (aH bh (pv 1) ah ax) C1) (ae (bJ gH (pv 1) (b6 ah) cq) (b8 2 ag) a8) a8)) ag b7))) (bJ hE (pv 0) (b6 (aG cT (aH bh (pv 1) ah ax) ah)) cq))))),rfl,?_⟩
 refine aq fun U1 gy=>?_;walk_at "rd";intro p0 Vr;have s0:=ai.new Vr (.lst []);refine⟨a,p0,_,rfl,rfl,s0.seq ha,.of af,?_⟩;generalize upd H p0 (.lst [])=Hz at *;cases path with
 |nil=>exact(if_pos rfl).mpr (q x _ s0 (hx.up (.of s0)))
 |cons i path=>
  refine(if_neg (by simp)).mpr ((gy _ _).mpr ?_);clear gy;have ha:=s0.seq ha;have hx:=hx.up (.of s0);cases d with
  |tup ds=>
   rw[vA] at hd;rw[L8] at sh;obtain⟨b,xs,rfl,EB,rs⟩:=Rep.az.mp hv;have hS:=(sz.trans s0).a7 EB;cases hk:ds[i]? with
   |none=>rw[hk] at hd;cases hd
   |some di=>
    rw[hk] at hd;obtain⟨vi,NT,ri⟩:=rs.get hk;have lx:xs.length=ds.length:=rs.length;have ii:=(Zi.mp NT).1;have UG:=sh.1;have e1:=mv xs (x:=(i:Int)) (by lia);have e2:cO xs (some ((i:Int)+1)) none=xs.drop (i+1):=by rw[show ((i:Int)+1)=((i+1:Nat):Int) by lia];exact fQ xs (i+1)
    have l1:(cO xs none (some (i:Int))).length<=10:=by rw[e1,ZK];lia
    have l2:(cO xs (some ((i:Int)+1)) none).length<=10:=by rw[e2,ZW];lia
    walk_at "rd";refine bY ha (v:=.int i) (av (j:=0) rfl) ⟨_,rfl,b,xs,rfl,hS,fun p1 H1 s1 h1=>?_⟩;refine bY (s1.seq ha) (v:=.int i) (av (j:=0) rfl) (aN (s1.a7 hS) (v:=vi) (av (j:=i) NT) ?_);refine⟨_,rfl,a,_,rfl,s1.seq ha,fun p2 pf=>?_⟩;have s2:=ai.new pf (.lst (cO ((i::path).map fun n=>V.int (n:Nat)) (some 1) none));have y2:(upd H1 p2 (.lst (cO ((i::path).map fun n=>V.int (n:Nat)) (some 1) none))) p2=_:=af;have ec:cO ((i::path).map fun n=>V.int (n:Nat)) (some 1) none=path.map fun n=>V.int (n:Nat):=fQ _ 1;generalize upd H1 p2 (.lst (cO ((i::path).map fun n=>V.int (n:Nat)) (some 1) none))=H2 at *;rw[ec] at y2;refine⟨vi,x,di,d',dx,p2,path,H0,O,rfl,(sz.trans s0).trans (s1.trans s2),ri,hx.up (.of (s1.trans s2)),fun g hg=>let ⟨n0,zs,e⟩:=hO g hg;⟨n0,zs,(s0.trans (s1.trans s2)) _ _ e⟩,.of y2,by rw[Ze] at ln;lia,by rw[Ze] at lp;lia,hd,sh.2 di hk,fun v' H3 s3 r3 p4 yd=>?_⟩;have s4:=ai.new yd (.tup [v']);have y4:(upd H3 p4 (.tup [v'])) p4=_:=af;generalize upd H3 p4 (.tup [v'])=H4 at *;have SD:=s2.trans (s3.trans s4);refine⟨p1,p4,_,_,rfl,rfl,SD.a7 h1,.of y4,by simp only[Zm];lia,fun p5 H5 s5 h5=>?_⟩;have Jx:=s1.trans (SD.trans s5);refine bY (Jx.seq ha) (v:=.int i) (av (j:=0) rfl) ⟨_,_,rfl,rfl,_,rfl,b,xs,rfl,Jx.a7 hS,fun p6 H6 s6 h6=>⟨p5,p6,_,_,rfl,rfl,s6.a7 h5,h6,by simp only[Zc,Zm];lia,fun p7 H7 s7 h7=>?_⟩⟩;rw[we xs ii] at h7;have QC:=Jx.trans (s6.trans s7);refine q (.ref p7) H7 (s0.trans QC) fun H8 u8=>?_;rw[zd,hk];have Vs:∀g,O g->∃ys,H7 g=some (.lst ys):=fun g hg=>let ⟨_,zs,e⟩:=hO g hg;⟨zs,(s0.trans QC) _ _ e⟩;refine Rep.az.mpr ⟨p7,_,rfl,eL Vs u8 h7,?_⟩;refine aw.MT ((r3.up (.of (s4.trans (s5.trans (s6.trans s7))))) H8 u8) (rs.mono fun b o e=>u8 b o (fun z=>?_) ((sz.trans (s0.trans QC)) _ _ e)) i;rw[(hO _ z).1] at e;cases e
  |_=>cases hd
theorem ye(T:Tx K mg t):∀n,bP P w K mg base gA (n+1) t.gM t.gT ["e", "path", "part"] (wo K n)
 |0=>by
  have no:∀vs H Q E,¬wo K 0 vs H Q E:=fun vs H Q E h=>by obtain⟨_,_,_,_,_,_,_,_,_,_,_,_,_,_,_,h,_⟩:=h;lia
  exact⟨fun vs H Q E h=>absurd h (no vs H Q E),fun A outer s H args us vs Q E _ _ _ _ h=>absurd h (no vs H Q E)⟩
 |n+1=>F6 T (ye T n)
theorem MW{K:Za}{H:Hp}{t:PM.Tr}{v:V}(h:Rep K H (cR t) v):∃a xs,v=.ref a/\bU K H a xs/\((xs.length=2/\∀e:PG.Ent PG.aF,e.u=t->PG.eS e=[])\/∃o l r vl vr,t=.bin o l r/\xs=[.str (S o),vl,vr]/\Rep K H (cR l) vl/\Rep K H (cR r) vr):=by
 cases t with
 |num n=>
  simp only[cR,Rep.az,aw.ar,aw.aD,Rep.au,Rep.aB] at h;obtain⟨a,xs,rfl,hS,_,_,rfl,rfl,_,_,rfl,rfl,rfl⟩:=h;exact⟨a,_,rfl,hS,.inl ⟨rfl,fun e z=>by unfold PG.eS;rw[z]⟩⟩
 |box n=>
  simp only[cR,Rep.az,aw.ar,aw.aD,Rep.au,Rep.aB] at h;obtain⟨a,xs,rfl,hS,_,_,rfl,rfl,_,_,rfl,rfl,rfl⟩:=h;exact⟨a,_,rfl,hS,.inl ⟨rfl,fun e z=>by unfold PG.eS;rw[z]⟩⟩
 |bin o l r=>
  simp only[cR,Rep.az,aw.ar,aw.aD,Rep.au] at h;obtain⟨a,xs,rfl,hS,_,_,rfl,rfl,vl,_,rfl,hl,vr,_,rfl,hr,rfl⟩:=h;exact⟨a,_,rfl,hS,.inr ⟨o,l,r,vl,vr,rfl,rfl,hl,hr⟩⟩
theorem uz(T:Tx K mg t):bP P w K mg base gA 10 t.gE t.ij ["statement"] (xM K):=by
 have i3:=tO (P:=P) (w:=w) (base:=base) T 7;have vI:=Jy (P:=P) (w:=w) (base:=base) T;have jN:=ye (P:=P) (w:=w) (base:=base) T 8;refine T.fE.F.oA mO (fun vs H Q E h=>?_) (fun gP A outer s H vs Q E hr h=>?_)
 ·obtain⟨_,_,_,_,rfl,_⟩:=h;rfl
 obtain⟨v,st,H0,O,rfl,s0,hv,sc,tZ,q⟩:=h;have nd:=mO.nd;have line:YM=2 ^ 24:=rfl;obtain⟨a,w0,xs,f,n,ex,rfl,EB,fo⟩:=Mb hv sc;have hS:=s0.a7 EB;refine⟨_,[some (.ref a),none,none,none,none,none,none,none],(@aj _ _ _ _ _ (@gv _ _ 1 _ _ _ _ nd rfl (ZE rfl) (@CA _ _ _ _ _ _ _ _ _ (jC hr) (@vX _ _ _ _ _ (@gB _ _ _ _ _ _ _ _ _ (@bQ _ _ _ _) (@ah _ _ _ _) (@gB _ _ _ _ _ _ _ _ _ (@bQ _ _ _ _) (@ah _ _ _ _) (@gB _ _ _ _ _ _ _ _ _ (@bQ _ _ _ _) (@ah _ _ _ _) (@gB _ _ _ _ _ _ _ _ _ (@bQ _ _ _ _) (@ah _ _ _ _) (@gB _ _ _ _ _ _ _ _ _ (@bQ _ _ _ _) (@ah _ _ _ _) (@vW _ _)))))) rfl rfl (by simp) (by decide)) (@aH _ _ _ _ _ _ _ (@gJ _ K rfl) (pv 0) (@ah _ _ _ _) (@ax _ _ _)) (@ah _ _ _ _) ⟨rfl,rfl,rfl,rfl⟩) (by first |rfl |exact .inl rfl |exact .inr rfl |decide |(intro _;rfl) |assumption) (by first |rfl |exact .inl rfl |exact .inr rfl |decide |(intro _;rfl) |assumption)) (@aj _ _ _ _ _ (@gv _ _ 2 _ _ _ _ nd rfl (ZE rfl) (@aQ _ _ _ _ (@ag _)) (by first |rfl |exact .inl rfl |exact .inr rfl |decide |(intro _;rfl) |assumption) (by first |rfl |exact .inl rfl |exact .inr rfl |decide |(intro _;rfl) |assumption)) (@aj _ _ _ _ _ (@dQ _ _ _ _ _ _ _ _ PassesOwn.never rfl (@uP _ _ _ _ _ _ _ rfl T.nH (@ae _ _ _ _ _ (pv 1) (@ae _ _ _ _ _ (@bF _ _ _ _ _ _ _ _ _ (@Bd _ rfl) rfl T.Ej PyProof.Rows.Boot.«min» (@ae _ _ _ _ _ (@ah _ _ _ _) (@ae _ _ _ _ _ (@bF _ _ _ _ _ _ _ _ _ (@bK _) rfl T.jd PyProof.Rows.Boot.«len» (@ae _ _ _ _ _ (pv 0) (@ag _) (@aR _ _ _ _)) (by first |rfl |exact .inl rfl |exact .inr rfl |decide |(intro _;rfl) |assumption) (by first |rfl |exact .inl rfl |exact .inr rfl |decide |(intro _;rfl) |assumption) (by first |rfl |exact .inl rfl |exact .inr rfl |decide |(intro _;rfl) |assumption) (by first |rfl |exact .inl rfl |exact .inr rfl |decide |(intro _;rfl) |assumption)) (@ag _) (@b7 _ _ _ _ _ _)) (@aK _ _ _ _ _)) (by first |rfl |exact .inl rfl |exact .inr rfl |decide |(intro _;rfl) |assumption) (by first |rfl |exact .inl rfl |exact .inr rfl |decide |(intro _;rfl) |assumption) (by first |rfl |exact .inl rfl |exact .inr rfl |decide |(intro _;rfl) |assumption) (by first |rfl |exact .inl rfl |exact .inr rfl |decide |(intro _;rfl) |assumption)) (@ag _) (@b7 _ _ _ _ _ _)) (@aR _ _ _ _)) (by first |rfl |exact .inl rfl |exact .inr rfl |decide |(intro _;rfl) |assumption) (by first |rfl |exact .inl rfl |exact .inr rfl |decide |(intro _;rfl) |assumption)) (@br _ _ 3 _ nd rfl (XT rfl) (by first |rfl |exact .inl rfl |exact .inr rfl |decide |(intro _;rfl) |assumption)) (@ay _ _ _ (@gv _ _ 2 _ _ _ _ nd rfl (ZE rfl) (@aG _ _ _ _ _ _ _ _ (@fe _) (pv 2) (@fH _ _ _ _ _ _ _ ["path"] [3] _ _ _ _ rfl (by rfl) (by rfl) (@ba _ _ _ _ (@eD _ _ _ _ _ _ _ _ _ _ _ _ _ _ _ _ i3 (hr.mono (by first|decide|omega)) rfl T.dq.m T.dq.F.kp T.dq.b .nil jm (@ae _ _ _ _ _ (@aH _ _ _ _ _ _ _ (@aZ _) (pv 0) (pv 3) (@iV _ _)) (@ae _ _ _ _ _ (@aQ _ _ _ _ (@ag _)) (@ag _) (@kI _ _ _ _)) (@a8 _ _ _ _ _)) (by first |rfl |exact .inl rfl |exact .inr rfl |decide |(intro _;rfl) |assumption) (by first |rfl |exact .inl rfl |exact .inr rfl |decide |(intro _;rfl) |assumption) (by first |rfl |exact .inl rfl |exact .inr rfl |decide |(intro _;rfl) |assumption))) (fun _ _ _ _=>(@br _ _ 0 _ (by show List.Nodup (["path", "place"]:List Str);decide +kernel) rfl (ZE rfl) (by first |rfl |exact .inl rfl |exact .inr rfl |decide |(intro _;rfl) |assumption))) (fun _ _ _ _=>(@cu _)) (fun _ _ _ _=>(@aG _ _ _ _ _ _ _ _ (DY (K:=K) rfl) (@aQ _ _ _ _ (@ae _ _ _ _ _ (pv 1) (@ag _) (@aR _ _ _ _))) (pv 0))) (by first |rfl |exact .inl rfl |exact .inr rfl |decide |(intro _;rfl) |assumption))) (by first |rfl |exact .inl rfl |exact .inr rfl |decide |(intro _;rfl) |assumption) (by first |rfl |exact .inl rfl |exact .inr rfl |decide |(intro _;rfl) |assumption))) (by first |rfl |exact .inl rfl |exact .inr rfl |decide |(intro _;rfl) |assumption)) (@aj _ _ _ _ _ (@gv _ _ 4 _ _ _ _ nd rfl (ZE rfl) (@aQ _ _ _ _ (@ag _)) (by first |rfl |exact .inl rfl |exact .inr rfl |decide |(intro _;rfl) |assumption) (by first |rfl |exact .inl rfl |exact .inr rfl |decide |(intro _;rfl) |assumption)) (@aj _ _ _ _ _ (@dQ _ _ _ _ _ _ _ _ PassesOwn.never rfl (@ba _ _ _ _ (pv 2)) (@br _ _ 5 _ nd rfl (XT rfl) (by first |rfl |exact .inl rfl |exact .inr rfl |decide |(intro _;rfl) |assumption)) (@aj _ _ _ _ _ (@gv _ _ 6 _ _ _ _ nd rfl (ZE rfl) (@eD _ _ _ _ _ _ _ _ _ _ _ _ _ _ _ _ vI (hr.mono (by first|decide|omega)) rfl T.gn.m T.gn.F.kp T.gn.b .nil jm (@ae _ _ _ _ _ (pv 0) (@ae _ _ _ _ _ (pv 5) (@ag _) (@aR _ _ _ _)) (@aR _ _ _ _)) (by first |rfl |exact .inl rfl |exact .inr rfl |decide |(intro _;rfl) |assumption) (by first |rfl |exact .inl rfl |exact .inr rfl |decide |(intro _;rfl) |assumption) (by first |rfl |exact .inl rfl |exact .inr rfl |decide |(intro _;rfl) |assumption)) (by first |rfl |exact .inl rfl |exact .inr rfl |decide |(intro _;rfl) |assumption) (by first |rfl |exact .inl rfl |exact .inr rfl |decide |(intro _;rfl) |assumption)) (@ay _ _ _ (@ck _ _ _ _ _ _ _ _ (@aY _ _ _ _ _ _ _ _ (@kc _) (@aH _ _ _ _ _ _ _ (@aZ _) (pv 6) (@ah _ _ _ _) (@ax _ _ _)) (@bQ _ _ _ _) (bu _)) (@aj _ _ _ _ _ (@gv _ _ 7 _ _ _ _ nd rfl (ZE rfl) (@bJ _ _ _ _ _ _ _ _ _ _ (@gH _) (@aQ _ _ _ _ (@ae _ _ _ _ _ (@bR _ _ _ _ _ (@ae _ _ _ _ _ (@bQ _ _ _ _) (@ae _ _ _ _ _ (@aG _ _ _ _ _ _ _ _ (@cT _) (@aH _ _ _ _ _ _ _ (@aZ _) (pv 6) (@ah _ _ _ _) (@ax _ _ _)) (@ah _ _ _ _)) (@ag _) (@eI _ _ _ _ _ _)) (@aK _ _ _ _ _))) (@ae _ _ _ _ _ (@bR _ _ _ _ _ (@ae _ _ _ _ _ (@bQ _ _ _ _) (@ae _ _ _ _ _ (@aG _ _ _ _ _ _ _ _ (@oy _) (@aH _ _ _ _ _ _ _ (@aZ _) (pv 6) (@ah _ _ _ _) (@ax _ _ _)) (@ah _ _ _ _)) (@ag _) (@eI _ _ _ _ _ _)) (@aK _ _ _ _ _))) (@ag _) (@l7 _ _ _ _ _)) (@l7 _ _ _ _ _))) (@b6 _ _ _ (@eG _ _ _ _ _ _ _ _ _ (@eY _) rfl T.om PyProof.Rows.Boot.«int» (@ae _ _ _ _ _ (@gY _ _ _ _ _ _ _ _ (@kc _) (@aH _ _ _ _ _ _ _ (@aZ _) (pv 6) (@ah _ _ _ _) (@ax _ _ _)) (@ah _ _ _ _) (bu _)) (@ag _) (@l8 _ _ _ _ _ _)) (by first |rfl |exact .inl rfl |exact .inr rfl |decide |(intro _;rfl) |assumption) (by first |rfl |exact .inl rfl |exact .inr rfl |decide |(intro _;rfl) |assumption) (by first |rfl |exact .inl rfl |exact .inr rfl |decide |(intro _;rfl) |assumption) (by first |rfl |exact .inl rfl |exact .inr rfl |decide |(intro _;rfl) |assumption))) (@b6 _ _ _ (@aG _ _ _ _ _ _ _ _ (@cT _) (@ah _ _ _ _) (@eG _ _ _ _ _ _ _ _ _ (@eY _) rfl T.om PyProof.Rows.Boot.«int» (@ae _ _ _ _ _ (@gY _ _ _ _ _ _ _ _ (@uQ _) (@aH _ _ _ _ _ _ _ (@aZ _) (pv 6) (@ah _ _ _ _) (@ax _ _ _)) (@ah _ _ _ _) (bu _)) (@ag _) (@l8 _ _ _ _ _ _)) (by first |rfl |exact .inl rfl |exact .inr rfl |decide |(intro _;rfl) |assumption) (by first |rfl |exact .inl rfl |exact .inr rfl |decide |(intro _;rfl) |assumption) (by first |rfl |exact .inl rfl |exact .inr rfl |decide |(intro _;rfl) |assumption) (by first |rfl |exact .inl rfl |exact .inr rfl |decide |(intro _;rfl) |assumption))))) (by first |rfl |exact .inl rfl |exact .inr rfl |decide |(intro _;rfl) |assumption) (by first |rfl |exact .inl rfl |exact .inr rfl |decide |(intro _;rfl) |assumption)) (@ay _ _ _ (@gv _ _ 4 _ _ _ _ nd rfl (ZE rfl) (@aG _ _ _ _ _ _ _ _ (@fe _) (pv 4) (@fH _ _ _ _ _ _ _ ["other"] ([0,5]) _ _ _ _ rfl (by rfl) (by rfl) (@ba _ _ _ _ (pv 7)) (fun _ _ _ _=>(@br _ _ 0 _ (by show List.Nodup (["other", "statement", "path"]:List Str);decide +kernel) rfl (ZE rfl) (by first |rfl |exact .inl rfl |exact .inr rfl |decide |(intro _;rfl) |assumption))) (fun _ _ _ _=>(@cu _)) (fun _ _ _ _=>(@aQ _ _ _ _ (@ae _ _ _ _ _ (@eD _ _ _ _ _ _ _ _ _ _ _ _ _ _ _ _ jN (hr.mono (by first|decide|omega)) rfl T.cF.m T.cF.F.kp T.cF.b .nil jm (@ae _ _ _ _ _ (pv 1) (@ae _ _ _ _ _ (pv 2) (@ae _ _ _ _ _ (pv 0) (@ag _) (@aR _ _ _ _)) (@aR _ _ _ _)) (@aR _ _ _ _)) (by first |rfl |exact .inl rfl |exact .inr rfl |decide |(intro _;rfl) |assumption) (by first |rfl |exact .inl rfl |exact .inr rfl |decide |(intro _;rfl) |assumption) (by first |rfl |exact .inl rfl |exact .inr rfl |decide |(intro _;rfl) |assumption)) (@ag _) (@b7 _ _ _ _ _ _)))) (by first |rfl |exact .inl rfl |exact .inr rfl |decide |(intro _;rfl) |assumption))) (by first |rfl |exact .inl rfl |exact .inr rfl |decide |(intro _;rfl) |assumption) (by first |rfl |exact .inl rfl |exact .inr rfl |decide |(intro _;rfl) |assumption)))) (@aU _)))) (by first |rfl |exact .inl rfl |exact .inr rfl |decide |(intro _;rfl) |assumption)) (@aj _ _ _ _ _ (@dQ _ _ _ _ _ _ _ _ PassesOwn.never rfl (@ba _ _ _ _ (pv 2)) (@br _ _ 5 _ nd rfl (XT rfl) (by first |rfl |exact .inl rfl |exact .inr rfl |decide |(intro _;rfl) |assumption)) (@aj _ _ _ _ _ (@gv _ _ 6 _ _ _ _ nd rfl (ZE rfl) (@eD _ _ _ _ _ _ _ _ _ _ _ _ _ _ _ _ vI (hr.mono (by first|decide|omega)) rfl T.gn.m T.gn.F.kp T.gn.b .nil jm (@ae _ _ _ _ _ (pv 0) (@ae _ _ _ _ _ (pv 5) (@ag _) (@aR _ _ _ _)) (@aR _ _ _ _)) (by first |rfl |exact .inl rfl |exact .inr rfl |decide |(intro _;rfl) |assumption) (by first |rfl |exact .inl rfl |exact .inr rfl |decide |(intro _;rfl) |assumption) (by first |rfl |exact .inl rfl |exact .inr rfl |decide |(intro _;rfl) |assumption)) (by first |rfl |exact .inl rfl |exact .inr rfl |decide |(intro _;rfl) |assumption) (by first |rfl |exact .inl rfl |exact .inr rfl |decide |(intro _;rfl) |assumption)) (@ay _ _ _ (@ck _ _ _ _ _ _ _ _ (@aY _ _ _ _ _ _ _ _ (@kc _) (@bF _ _ _ _ _ _ _ _ _ (@bK _) rfl T.jd PyProof.Rows.Boot.«len» (@ae _ _ _ _ _ (pv 6) (@ag _) (@aR _ _ _ _)) (by first |rfl |exact .inl rfl |exact .inr rfl |decide |(intro _;rfl) |assumption) (by first |rfl |exact .inl rfl |exact .inr rfl |decide |(intro _;rfl) |assumption) (by first |rfl |exact .inl rfl |exact .inr rfl |decide |(intro _;rfl) |assumption) (by first |rfl |exact .inl rfl |exact .inr rfl |decide |(intro _;rfl) |assumption)) (@ah _ _ _ _) (bu _)) (@ay _ _ _ (@cp _ _ _ _ (@fL _ _ _ _ _ _ _ _ _ _ _ _ Zs Zx Zy bN (pv 4) (@ae _ _ _ _ _ (@aQ _ _ _ _ (@ae _ _ _ _ _ (@eD _ _ _ _ _ _ _ _ _ _ _ _ _ _ _ _ jN (hr.mono (by first|decide|omega)) rfl T.cF.m T.cF.F.kp T.cF.b .nil jm (@ae _ _ _ _ _ (pv 0) (@ae _ _ _ _ _ (pv 5) (@ae _ _ _ _ _ (@aG _ _ _ _ _ _ _ _ (@g7 _) (@bR _ _ _ _ _ (@ae _ _ _ _ _ (@zT _ _ _ _ _ _ (jC hr) (@vX _ _ _ _ _ (@gB _ _ _ _ _ _ _ _ _ (@bQ _ _ _ _) (@bQ _ _ _ _) (@gB _ _ _ _ _ _ _ _ _ (@bQ _ _ _ _) (@bQ _ _ _ _) (@gB _ _ _ _ _ _ _ _ _ (@bQ _ _ _ _) (@bQ _ _ _ _) (@vW _ _)))) rfl rfl (by simp) (by decide)) (@aH _ _ _ _ _ _ _ (@aZ _) (pv 6) (@ah _ _ _ _) (@ax _ _ _)) (fun _ _=>rfl)) (@ag _) (@a8 _ _ _ _ _))) (@bJ _ _ _ _ _ _ _ _ _ _ (@hE _) (pv 6) (@b6 _ _ _ (@ah _ _ _ _)) (@cq _))) (@ag _) (@eI _ _ _ _ _ _)) (@aR _ _ _ _)) (@aR _ _ _ _)) (by first |rfl |exact .inl rfl |exact .inr rfl |decide |(intro _;rfl) |assumption) (by first |rfl |exact .inl rfl |exact .inr rfl |decide |(intro _;rfl) |assumption) (by first |rfl |exact .inl rfl |exact .inr rfl |decide |(intro _;rfl) |assumption)) (@ag _) (@b7 _ _ _ _ _ _))) (@ag _) (@kI _ _ _ _)) (by first |rfl |exact .inl rfl |exact .inr rfl |decide |(intro _;rfl) |assumption) (by first |rfl |exact .inl rfl |exact .inr rfl |decide |(intro _;rfl) |assumption) (by first |rfl |exact .inl rfl |exact .inr rfl |decide |(intro _;rfl) |assumption) (by first |rfl |exact .inl rfl |exact .inr rfl |decide |(intro _;rfl) |assumption) (by first |rfl |exact .inl rfl |exact .inr rfl |decide |(intro _;rfl) |assumption)) (by first |rfl |exact .inl rfl |exact .inr rfl |decide |(intro _;rfl) |assumption))) (@aU _)))) (by first |rfl |exact .inl rfl |exact .inr rfl |decide |(intro _;rfl) |assumption)) (@aj _ _ _ _ _ (@ck _ _ _ _ _ _ _ _ (@aY _ _ _ _ _ _ _ _ (@iN _) (@aH _ _ _ _ _ _ _ (@aZ _) (pv 0) (@ah _ _ _ _) (@ax _ _ _)) (@aQ _ _ _ _ (@dH _ _ ([.str "must",.str "if",.str "while"]) (by kernel_rfl))) rfl) (@ay _ _ _ (@cp _ _ _ _ (@fL _ _ _ _ _ _ _ _ _ _ _ _ Zs Zx Zy bN (pv 4) (@ae _ _ _ _ _ (@aQ _ _ _ _ (@ae _ _ _ _ _ (@eD _ _ _ _ _ _ _ _ _ _ _ _ _ _ _ _ jN (hr.mono (by first|decide|omega)) rfl T.cF.m T.cF.F.kp T.cF.b .nil jm (@ae _ _ _ _ _ (pv 0) (@ae _ _ _ _ _ (@aQ _ _ _ _ (@ae _ _ _ _ _ (@ah _ _ _ _) (@ag _) (@aK _ _ _ _ _))) (@ae _ _ _ _ _ (@zT _ _ _ _ _ _ (jC hr) (@vX _ _ _ _ _ (@gB _ _ _ _ _ _ _ _ _ (@bQ _ _ _ _) (@bQ _ _ _ _) (@gB _ _ _ _ _ _ _ _ _ (@bQ _ _ _ _) (@bQ _ _ _ _) (@vW _ _))) rfl rfl (by simp) (by decide)) (@aH _ _ _ _ _ _ _ (@gJ _ K rfl) (pv 0) (@ah _ _ _ _) (@ax _ _ _)) (fun _ _=>rfl)) (@ag _) (@a8 _ _ _ _ _)) (@kI _ _ _ _)) (@aR _ _ _ _)) (by first |rfl |exact .inl rfl |exact .inr rfl |decide |(intro _;rfl) |assumption) (by first |rfl |exact .inl rfl |exact .inr rfl |decide |(intro _;rfl) |assumption) (by first |rfl |exact .inl rfl |exact .inr rfl |decide |(intro _;rfl) |assumption)) (@ag _) (@b7 _ _ _ _ _ _))) (@ag _) (@kI _ _ _ _)) (by first |rfl |exact .inl rfl |exact .inr rfl |decide |(intro _;rfl) |assumption) (by first |rfl |exact .inl rfl |exact .inr rfl |decide |(intro _;rfl) |assumption) (by first |rfl |exact .inl rfl |exact .inr rfl |decide |(intro _;rfl) |assumption) (by first |rfl |exact .inl rfl |exact .inr rfl |decide |(intro _;rfl) |assumption) (by first |rfl |exact .inl rfl |exact .inr rfl |decide |(intro _;rfl) |assumption)) (by first |rfl |exact .inl rfl |exact .inr rfl |decide |(intro _;rfl) |assumption))) (@aU _)) (@aj _ _ _ _ _ (@ck _ _ _ _ _ _ _ _ (@aY _ _ _ _ _ _ _ _ (@iN _) (@aH _ _ _ _ _ _ _ (@aZ _) (pv 0) (@ah _ _ _ _) (@ax _ _ _)) (@aQ _ _ _ _ (@dH _ _ ([.str "if",.str "while"]) (by kernel_rfl))) rfl) (@ay _ _ _ (@cp _ _ _ _ (@fL _ _ _ _ _ _ _ _ _ _ _ _ Zs Zx Zy bN (pv 4) (@ae _ _ _ _ _ (@aQ _ _ _ _ (@ae _ _ _ _ _ (@aG _ _ _ _ _ _ _ _ (@g7 _) (@aG _ _ _ _ _ _ _ _ (@g7 _) (@bJ _ _ _ _ _ _ _ _ _ _ (@hE _) (pv 0) (@cq _) (@b6 _ _ _ (@ah _ _ _ _))) (@bR _ _ _ _ _ (@ae _ _ _ _ _ (@aH _ _ _ _ _ _ _ (@aZ _) (pv 0) (@ah _ _ _ _) (@ax _ _ _)) (@ae _ _ _ _ _ (@aH _ _ _ _ _ _ _ (@aZ _) (pv 0) (@ah _ _ _ _) (@ax _ _ _)) (@ag _) (@a8 _ _ _ _ _)) (@a8 _ _ _ _ _)))) (@bJ _ _ _ _ _ _ _ _ _ _ (@hE _) (pv 0) (@b6 _ _ _ (@ah _ _ _ _)) (@cq _))) (@ag _) (@eI _ _ _ _ _ _))) (@ag _) (@kI _ _ _ _)) (by first |rfl |exact .inl rfl |exact .inr rfl |decide |(intro _;rfl) |assumption) (by first |rfl |exact .inl rfl |exact .inr rfl |decide |(intro _;rfl) |assumption) (by first |rfl |exact .inl rfl |exact .inr rfl |decide |(intro _;rfl) |assumption) (by first |rfl |exact .inl rfl |exact .inr rfl |decide |(intro _;rfl) |assumption) (by first |rfl |exact .inl rfl |exact .inr rfl |decide |(intro _;rfl) |assumption)) (by first |rfl |exact .inl rfl |exact .inr rfl |decide |(intro _;rfl) |assumption))) (@aU _)) (@ay _ _ _ (@aT _ _ _ _ (@aG _ _ _ _ _ _ _ _ (@fe _) (pv 4) (@aG _ _ _ _ _ _ _ _ (@Im _) (@aQ _ _ _ _ (@ae _ _ _ _ _ (@aQ _ _ _ _ (@ag _)) (@ag _) (@kI _ _ _ _))) (@eG _ _ _ _ _ _ _ _ _ (@eY _) rfl T.om PyProof.Rows.Boot.«int» (@ae _ _ _ _ _ (@gY _ _ _ _ _ _ _ _ (@iN _) (@aH _ _ _ _ _ _ _ (@aZ _) (pv 0) (@ah _ _ _ _) (@ax _ _ _)) (@aQ _ _ _ _ (@dH _ _ ([.str "put",.str "say"]) (by kernel_rfl))) rfl) (@ag _) (@l8 _ _ _ _ _ _)) (by first |rfl |exact .inl rfl |exact .inr rfl |decide |(intro _;rfl) |assumption) (by first |rfl |exact .inl rfl |exact .inr rfl |decide |(intro _;rfl) |assumption) (by first |rfl |exact .inl rfl |exact .inr rfl |decide |(intro _;rfl) |assumption) (by first |rfl |exact .inl rfl |exact .inr rfl |decide |(intro _;rfl) |assumption)))))))))))))),rfl,?_⟩;refine aq fun U1 gy=>?_;walk_at "rd";simp only[Cz,zU,qj];walk_at "rd";intro pd F7;have s1:ai H (upd (upd H pd (.dK [])) pd (.dK (fM [] zf))):=fun b o e=>by rw[aL (ao e F7),aL (ao e F7)];exact e
 refine⟨af,zf,rfl,by decide,.inl ⟨_,.inl af⟩,?_⟩;have y1:(upd (upd H pd (.dK [])) pd (.dK (fM [] zf))) pd=_:=af;generalize upd (upd H pd (.dK [])) pd (.dK (fM [] zf))=H1 at *;rw[DZ] at y1;refine aN (s1.a7 hS) (v:=.str w0) (av (j:=0) rfl) ⟨_,.inl ⟨_,.inr w0,.inl y1,rfl,rfl⟩,?_⟩;rw[fo.get];refine(gy _ _).mpr (aq fun U2 jz=>?_);clear gy y1 F7;walk_at "rd";intro Lp SE;have s2:=s1.trans (ai.new SE (.lst []));have y2:(upd H1 Lp (.lst [])) Lp=_:=af;generalize upd H1 Lp (.lst [])=H2 at *;refine(jz _ _).mpr (aq fun U3 kE=>?_);clear jz SE s1;refine xR fun U hU=>?_;walk_at "rd";refine⟨a,_,rfl,.inr (s2.a7 hS),?_⟩;have lx:=fo.len;generalize SF:(V.str w0::xs)=ys at *;have ey:∃r,ys=V.str w0::r:=⟨xs,SF.symm⟩
 clear SF;have fl:f<=9/\((if (ys.length:Int)<5 then (ys.length:Int) else 5)-f).toNat=n:=by
  have:=fo.JF;have e9:=fo.TZ;refine⟨e9,?_⟩;split at this<;>split<;>lia
 refine⟨_,_,rfl,_,_,rfl,⟨by lia,by lia,by split<;>lia,by split<;>lia⟩,hU _ _ _ ?_⟩;clear hU;rw[fl.2];obtain⟨Pa,MX⟩:∃Pv:Nat->St->Hp->Prop,∀i σ Hx,Pv i σ Hx↔∃(z3:Option V) (Lx:YE) (us:List V),σ=[some (.ref a),some (.int f),some (.ref Lx),z3,none,none,none,none]/\ai H2 Hx/\Hx Lx=some (.lst us)/\us.length<=200*i/\aw K Hx (((ZO i).flatMap fun i=>(PG.vz (ex i) []).map ((f+i) :: ·)).map tG) us:=⟨_,fun _ _ _=>Iff.rfl⟩
 have Vt:=fo.n8;refine nh (lo:=f) (n:=n) Pa ((MX _ _ _).mpr ⟨none,Lp,[],rfl,.refl _,y2,by simp,.nil⟩) (fun i σ Hx hi hv=>?_) (fun σ Hx hv=>?_)
 ·obtain⟨z3,Lx,us,rfl,sx,yx,lu,rx⟩:=(MX _ _ _).mp hv;clear hv;obtain⟨vi,Vu,ri,di⟩:=fo.at_ i hi;simp only[bV,Xi];walk_at "rd";simp only[ft];walk_at "rd";have EN:=s0.trans (s2.trans sx);rw[show ((f:Int)+(i:Int))=((f+i:Nat):Int) by lia];refine aN (EN.a7 EB) (v:=vi) (av (j:=f+i) Vu) ?_;intro c hc;have s3:=ai.new hc (.lst []);have y3:(upd Hx c (.lst [])) c=_:=af;generalize upd Hx c (.lst [])=H3 at *;refine⟨vi,ex i,c,[],rfl,(ri.mono EN).mono s3,by lia,di,y3,by simp only[ZJ];lia,fun L1 yv H4 s4 AS ou x6=>⟨L1,rfl,⟨_,.of ou⟩,fun D hD=>?_⟩⟩;have bl:=PG.wj (ex i) [];have pw:2 ^ PG.cB (ex i)<=2 ^ 6:=ZP (by decide) di;show eX (qe K L1) D (bV 0) iO _ _ [none,some (.int (f+i:Nat))] _;refine iS (K:=K) (r:=[some (.int (f+i:Nat))]) (F:=tG) (G:=tG) (fun p=>(f+i)::p) (PG.vz (ex i) []) (.of ou) x6 (by rw[x6.length,Zb];lia) hD (fun i2 x y H5 hy hx QD keep s5 nD _ R hR=>?_) fun wK H5 s5 yD rV=>?_
  ·obtain⟨b,rfl,hb⟩:=EA QD;have ly:=qB _ _ _ (Z4 hy);walk_at "rd";intro c6 Qy;have s6:=ai.new Qy (.lst [V.int (f+i:Nat)]);refine⟨c6,b,_,_,rfl,rfl,.of af,(s5.trans s6).seq hb,by simp only[Zm,Zb,ZJ] at *;lia,fun p7 wZ=>?_⟩;have s7:=ai.new wZ (.lst ([V.int (f+i:Nat)]++y.map fun n=>V.int (n:Nat)));refine hR _ _ (s6.trans s7) (Fix.lst af (fun z=>?_) (DX ((f+i)::y)));rw[z] at wZ;cases hq:H5 D with
   |none=>exact nD hq
   |some o=>rw[s6 _ _ hq] at wZ;cases wZ
  ·have JZ:wK.length=(PG.vz (ex i) []).length:=by rw[rV.length,Zb,Zb]
   have QE:=s3.trans (s4.trans s5);refine⟨Lx,D,us,wK,rfl,rfl,QE _ _ yx,yD,by lia,fun p6 yt=>(MX _ _ _).mpr ⟨_,p6,us++wK,rfl,?_,af,by rw[Zc];lia,?_⟩⟩
   ·exact(sx.trans QE).trans (ai.new yt _)
   ·rw[oM n,Zl];exact((rx.mono QE).append rV).mono (ai.new yt _)
 obtain⟨z3,Lx,us,rfl,sx,yx,lu,rx⟩:=(MX _ _ _).mp hv;clear hv MX Pa;rw[<- fo.all] at rx;have eo:=FT st sc;have lE:=xS st sc;refine(kE _ _).mpr (aq fun U4 qf=>?_);clear kE;walk_at "rd";intro F0 QF;refine(qf _ _).mpr (aq fun U5 wH=>?_);clear qf;refine eJ fun U hU=>?_;walk_at "rd";refine⟨⟨_,.of (ai.new QF _ _ _ yx)⟩,hU _ _ ?_⟩;clear hU;have sH:=s0.trans (s2.trans sx);have J8:∀g,O g->H0 g=none/\∃ys,Hx g=some (.lst ys):=fun g hg=>let ⟨n0,zs,e⟩:=tZ g hg;⟨n0,zs,(s2.trans sx) _ _ e⟩;have entry:∀(i:Nat) (x:V),us[i]?=some x->∃e b,x=.ref b/\gX K Hx b (e.p.map fun n=>V.int (n:Nat))/\pJ (bp st) bp 7 e/\∀h:PG.Ent PG.aF->List PG.aF,((PG.iT st).take (i+1)).flatMap h=((PG.iT st).take i).flatMap h++h e:=by
  intro i x hx;have li:i<(PG.iT st).length:=by have:=(Zi.mp hx).1;rw[rx.length,Zb,Zb] at this;exact this
  obtain⟨v',pN,yM⟩:=rx.get (i:=i) (d:=tG (PG.iT st)[i].p) (by rw[Zq,Zq,Zd li];rfl);rw[hx] at pN;cases pN;obtain⟨b,rfl,hb⟩:=EA yM;refine⟨(PG.iT st)[i],b,rfl,hb,eo _ (Zu li),fun h=>?_⟩;rw[ZV,Zd li,ZR];simp
 obtain⟨Pb,Jz⟩:∃Pv:Nat->St->Hp->Prop,∀i σ Hy,Pv i σ Hy↔∃(z5 z6 z7:Option V) (F:YE) (ws:List V),σ=[some (.ref a),some (.int f),some (.ref Lx),z3,some (.ref F),z5,z6,z7]/\ai Hx Hy/\Hx F=none/\Hy F=some (.lst ws)/\ws.length<=2*i/\aM K (fun g=>O g\/g=F) Hy ((((PG.iT st).take i).flatMap PG.eN).map fun s=>pL [s]) ws:=⟨_,fun _ _ _=>Iff.rfl⟩
 refine eE (K:=K) (a:=Lx) (xs:=us) Pb ((Jz _ _ _).mpr ⟨none,none,none,F0,[],rfl,ai.new QF _,QF,af,by simp,aM.nil⟩) (fun i σ Hy _ hw=>?_) (fun i x σ Hy AX hw=>?_) (fun σ Hy hw=>?_)
 ·obtain⟨_,_,_,_,_,_,sy,_⟩:=(Jz _ _ _).mp hw;exact .of (sy _ _ yx)
 ·obtain⟨z5,z6,z7,F,ws,rfl,sy,nF,yF,lw,fx⟩:=(Jz _ _ _).mp hw;clear hw;obtain⟨e,b,rfl,hb,w4,tk⟩:=entry i x AX;have Vv:us.length<=256:=by rw[rx.length,Zb,Zb];exact lE
  have Vw:=(Zi.mp AX).1;simp only[bV,Xi];refine aq fun V1 AR=>?_;walk_at "rd";refine⟨.ref a,bp st,cR e.u,b,e.p,rfl,hv.mono (sH.trans sy),sy.seq hb,by have:=w4.len;lia,w4.at_,fun vp rp=>(AR _ _).mpr ?_⟩;clear AR;obtain⟨c,w1,ks,rfl,hc,cs⟩:=zr rp w4.c;refine cV fun X1 x5=>?_;walk_at "rd";have none_:PG.eN e=[]->Pb (i+1) [some (.ref a),some (.int f),some (.ref Lx),z3,some (.ref F),some (.ref b),some (.ref c),z7] Hy:=fun en=>(Jz _ _ _).mpr ⟨_,_,_,F,ws,rfl,sy,nF,yF,by lia,by rw[tk,en,Zr];exact fx⟩;refine aN hc (v:=.str w1) (av (j:=0) rfl) ⟨rfl,?_⟩;rcases cs with ⟨m,eu,rfl,rfl⟩ |⟨x,eu,rfl⟩ |⟨o,l,r,vl,vr,eu,ew,rfl,hl,BQ,n1,n2⟩
  ·refine(if_pos rfl).mpr ((x5 _ _).mpr (aq fun V2 GZ=>?_));clear x5 none_;walk_at "rd";have hm:0<=m/\m<=999:=by have:=w4.c;rw[eu] at this;exact this
   have nO:∀p,Hy p=none->¬O p:=fun p hp z=>by obtain⟨_,zs,e⟩:=J8 p z;rw[sy _ _ e] at hp;cases hp
   refine aN hc (v:=.int m) (av (j:=1) rfl) ⟨_,_,rfl,rfl,fun p1 B3=>?_⟩;have g1:=ai.new B3 (.tup [V.str (Zj "number"),V.int (m+1)]);have y1:(upd Hy p1 (.tup [V.str (Zj "number"),V.int (m+1)])) p1=_:=af;generalize upd Hy p1 (.tup [V.str (Zj "number"),V.int (m+1)])=G1 at *;refine aN (g1.a7 hc) (v:=.int m) (av (j:=1) rfl) ⟨_,_,rfl,rfl,fun p2 pf p3 tM=>?_⟩;have g2:=ai.new pf (.tup [V.str (Zj "number"),V.int (m-1)]);have EL:(upd G1 p2 (.tup [V.str (Zj "number"),V.int (m-1)])) p2=_:=af;generalize upd G1 p2 (.tup [V.str (Zj "number"),V.int (m-1)])=G2 at *;have g3:=ai.new tM (.lst [V.ref p1,V.ref p2]);have y3:(upd G2 p3 (.lst [V.ref p1,V.ref p2])) p3=_:=af;generalize upd G2 p3 (.lst [V.ref p1,V.ref p2])=G3 at *;have vJ:=g1.trans (g2.trans g3);refine aN (vJ.a7 hc) (v:=.int m) (av (j:=1) rfl) ⟨rfl,_,rfl,_,rfl,aN (vJ.a7 hc) (v:=.int m) (av (j:=1) rfl) ⟨_,_,rfl,rfl,_,rfl,_,rfl,p3,_,rfl,.of y3,fun p4 yd=>(GZ _ _).mpr ?_⟩⟩;clear GZ;have SG:Fix K O G3 (cR (.num (m+1))) (.ref p1):=Fix.tup ((g2.trans g3) _ _ y1) (nO _ B3) (aM.cons Fix.str (aM.cons Fix.int aM.nil));have SH:Fix K O G3 (cR (.num (m-1))) (.ref p2):=Fix.tup (g3 _ _ EL) (nO _ (g1.free pf)) (aM.cons Fix.str (aM.cons Fix.int aM.nil));have ec:∃zs,cO [V.ref p1,V.ref p2] (some (if decide (V.int m=V.int 999)=true then 1 else 0)) (some (1+if decide ((0:Int)<m)=true then 1 else 0))=zs/\zs.length<=2/\aM K O G3 (((PG.iR m).map PM.Tr.num).map cR) zs:=by
    by_cases h9:m=999
    ·subst h9;exact⟨[V.ref p2],rfl,by simp,aM.cons SH aM.nil⟩
    ·have d9:decide (V.int m=V.int 999)=false:=decide_eq_false fun z=>h9 (by injection z);by_cases h0:m=0
     ·subst h0;exact⟨[V.ref p1],rfl,by simp,aM.cons SG aM.nil⟩
     ·have d0:decide ((0:Int)<m)=true:=decide_eq_true (by lia);rw[d9,d0];refine⟨[V.ref p1,V.ref p2],rfl,by simp,?_⟩;unfold PG.iR;rw[if_pos (by lia),if_pos (by lia)];exact aM.cons SG (aM.cons SH aM.nil)
   obtain⟨zs,ez,lz,fz⟩:=ec;rw[ez];have g4:=ai.new yd (.lst zs);have y4:(upd G3 p4 (.lst zs)) p4=_:=af;generalize upd G3 p4 (.lst zs)=G4 at *;have mW:=vJ.trans g4;walk_at "rd";simp only[ft];walk_at "rd";refine⟨⟨_,.of y4⟩,fun D hD=>?_⟩;show eX (qe K p4) D (bV 0) iO _ _ [none,some (.ref a),some (.ref b)] _;have sG:=sH.trans (sy.trans mW);refine kT (K:=K) (r:=[some (.ref a),some (.ref b)]) (F:=cR) (G:=pL) (fun g=>g=D\/O g) (.inl rfl) (fun g hg=>hg.imp id fun z=>let ⟨_,zs,e⟩:=J8 g z;⟨zs,(sy.trans mW) _ _ e⟩) (fun t=>[e.g t]) ((PG.iR m).map PM.Tr.num) (.of y4) (fz.up (.of g4)) (by lia) hD (fun i2 x y H5 hy hx QD s5 MY R hR=>?_) fun wK H5 s5 yD rV=>?_
   ·walk_at "rd";refine⟨.ref a,x,bp st,cR e.u,cR y,b,e.p,H0,fun g=>g=D\/O g,rfl,sG.trans s5,hv,fun H7 u7=>km MY u7 _ _ (sO y) (QD.rep.mono s5),fun g hg=>⟨hg.elim (fun z=>by rw[z];exact sG.free hD) fun z=>(J8 g z).1,MY g hg⟩,(sy.trans (mW.trans s5)).seq hb,by have:=w4.len;lia,by have:=w4.len;lia,w4.at_,w4.sh,fun v' H6 s6 f6 p7 wZ=>hR _ _ (s6.trans (ai.new wZ _)) ?_⟩;rw[w4.put] at f6;refine Fix.lst af (fun z=>?_) (aM.cons (f6.up (.of (ai.new wZ _))) aM.nil);obtain⟨zs,e7⟩:=MY _ z;rw[s6 _ _ e7] at wZ;cases wZ
   ·have JA:=mW.trans s5;have JZ:wK.length<=2:=by rw[rV.nK.length,Zb,Zb,Zb];exact PG.kS m
    refine⟨F,D,ws,wK,rfl,rfl,JA _ _ yF,yD,by lia,fun p8 wY=>(Jz _ _ _).mpr ⟨_,_,_,p8,ws++wK,rfl,(sy.trans JA).trans (ai.new wY _),(sy.trans JA).free wY,af,by rw[Zc];lia,?_⟩⟩;have f1:aM K O H5 _ ws:=(fx.sub fun g hg=>.inl hg).up (.of JA);have f2:aM K O H5 _ wK:=rV.sub fun g hg=>.inr hg;have e3:(PG.eN e).map (fun s=>pL [s])=(((PG.iR m).map PM.Tr.num).map fun t=>[e.g t]).map pL:=by
     unfold PG.eN;rw[eu,ZL,ZL,ZL];rfl
    rw[tk,Zl,e3];exact aM.apart (H:=H5) (fun H6 u=>(f1 H6 u).append (f2 H6 u)) wY
  ·refine(if_neg (by decide +kernel)).mpr (none_ ?_);unfold PG.eN;rw[eu]
  ·refine(if_neg (fun z=>n1 (by injection z))).mpr (none_ ?_);unfold PG.eN;rw[eu]
 obtain⟨z5,z6,z7,F,ws,rfl,sy,nF,yF,lw,fx⟩:=(Jz _ _ _).mp hw;clear hw Jz Pb;have Vv:us.length<=256:=by rw[rx.length,Zb,Zb];exact lE
 have EJ:us.length=(PG.iT st).length:=by rw[rx.length,Zb,Zb]
 rw[EJ,Zw,<- PG.GO] at fx;refine(wH _ _).mpr (aq fun U6 AO=>?_);clear wH;refine eJ fun U hU=>?_;walk_at "rd";refine⟨⟨_,.of (sy _ _ yx)⟩,hU _ _ ?_⟩;clear hU;obtain⟨Pc,JB⟩:∃Pv:Nat->St->Hp->Prop,∀i σ Hy,Pv i σ Hy↔∃(z5 z6:Option V) (ws:List V),σ=[some (.ref a),some (.int f),some (.ref Lx),z3,some (.ref F),z5,z6,z7]/\ai Hx Hy/\Hy F=some (.lst ws)/\ws.length<=512+i/\aM K (fun g=>O g\/g=F) Hy ((PG.eO PG.eC st++((PG.iT st).take i).flatMap PG.eS).map fun s=>pL [s]) ws:=⟨_,fun _ _ _=>Iff.rfl⟩
 refine eE (K:=K) (a:=Lx) (xs:=us) Pc ((JB _ _ _).mpr ⟨_,_,ws,rfl,sy,yF,by lia,by rw[XM,W8,Zr];exact fx⟩) (fun i σ Hz _ hw=>?_) (fun i x σ Hz AX hw=>?_) (fun σ Hz hw=>?_)
 ·obtain⟨_,_,_,_,sz,_⟩:=(JB _ _ _).mp hw;exact .of (sz _ _ yx)
 ·clear z5 z6 lw fx yF sy Hy ws;obtain⟨z5,z6,ws,rfl,sy,yF,lw,fx⟩:=(JB _ _ _).mp hw;clear hw;obtain⟨e,b,rfl,hb,w4,tk⟩:=entry i x AX;have Vw:=(Zi.mp AX).1;simp only[bV,Xi];refine aq fun V1 AR=>?_;walk_at "rd";refine⟨.ref a,bp st,cR e.u,b,e.p,rfl,hv.mono (sH.trans sy),sy.seq hb,by have:=w4.len;lia,w4.at_,fun vp rp=>(AR _ _).mpr ?_⟩;clear AR;obtain⟨c,ks,rfl,hc,cs⟩:=MW rp;refine cV fun X1 x5=>?_;walk_at "rd";refine⟨c,_,rfl,.inr hc,?_⟩;rcases cs with ⟨l2,en⟩ |⟨o,l,r,vl,vr,eu,rfl,hl,BQ⟩
  ·refine(if_neg (by rw[l2];decide)).mpr ((JB _ _ _).mpr ⟨_,_,ws,rfl,sy,yF,by lia,?_⟩);rw[tk,en e rfl,Zr];exact fx
  ·refine(if_pos rfl).mpr ((x5 _ _).mpr ?_);clear x5;walk_at "rd";simp only[Cw,zU,qj];walk_at "rd";refine⟨.inl ⟨rfl,_,.of yF⟩,fun pd F7=>⟨af,zg,rfl,by decide,?_⟩⟩;have g1:ai Hz (upd (upd Hz pd (.dK [])) pd (.dK (fM [] zg))):=fun b o e=>by rw[aL (ao e F7),aL (ao e F7)];exact e
   have y1:(upd (upd Hz pd (.dK [])) pd (.dK (fM [] zg))) pd=_:=af;generalize upd (upd Hz pd (.dK [])) pd (.dK (fM [] zg))=G1 at *;rw[D0] at y1;have co:o∈([[43],[45],[42]]:List PM.W):=by have:=w4.c;rw[eu] at this;exact this.1
   refine aN (g1.a7 hc) (v:=.str (S o)) (av (j:=0) rfl) ⟨pd,.str (S (PG.cL o)),rfl,.inl ⟨_,.inr (S o),.inl y1,rfl,(Mc co).symm⟩,fun p2 pf=>?_⟩;have g2:=ai.new pf (.tup [V.str (S (PG.cL o))]);have EL:(upd G1 p2 (.tup [V.str (S (PG.cL o))])) p2=_:=af;generalize upd G1 p2 (.tup [V.str (S (PG.cL o))])=G2 at *;refine⟨_,rfl,c,_,rfl,(g1.trans g2).a7 hc,fun p3 G3 g3 h3=>?_⟩;have ec:cO [V.str (S o),vl,vr] (some 1) none=[vl,vr]:=fQ _ 1;rw[ec] at h3;refine⟨p2,p3,_,_,rfl,rfl,g3.a7 (.of EL),h3,by simp only[Ze,ZJ];lia,fun p4 G4 g4 h4=>?_⟩;have mW:=g1.trans (g2.trans (g3.trans g4));have QG:∀g,(O g\/g=F)->H0 g=none/\∃ys,G4 g=some (.lst ys):=fun g hg=>hg.elim (fun z=>let ⟨n0,zs,e⟩:=J8 g z;⟨n0,zs,(sy.trans mW) _ _ e⟩) fun z=>by rw[z];exact⟨sH.free nF,_,mW _ _ yF⟩
   have rb:Rep K G4 (cR (.bin (PG.cL o) l r)) (.ref p4):=by
    unfold cR;exact Rep.az.mpr ⟨p4,_,rfl,h4,.cons (Rep.au.mpr rfl) (.cons (hl.mono mW) (.cons (BQ.mono mW) .nil))⟩
   refine⟨.ref a,.ref p4,bp st,cR e.u,cR (.bin (PG.cL o) l r),b,e.p,H0,fun g=>O g\/g=F,rfl,sH.trans (sy.trans mW),hv,fun H7 u7=>km (fun g hg=>(QG g hg).2) u7 _ _ (sO _) rb,QG,(sy.trans mW).seq hb,by have:=w4.len;lia,by have:=w4.len;lia,w4.at_,w4.sh,fun v' H5 s5 f5 p6 yt=>?_⟩;rw[w4.put] at f5;have s6:=ai.new yt (.lst [v']);have y6:(upd H5 p6 (.lst [v'])) p6=_:=af;have fl:Fix K (fun g=>O g\/g=F) (upd H5 p6 (.lst [v'])) (pL [e.g (.bin (PG.cL o) l r)]) (.ref p6):=Fix.lst af (fun z=>by obtain⟨_,zs,e7⟩:=QG _ z;rw[s5 _ _ e7] at yt;cases yt) (aM.cons (f5.up (.of s6)) aM.nil);generalize upd H5 p6 (.lst [v'])=H6 at *;have AZ:=mW.trans (s5.trans s6);refine⟨F,ws,.ref p6,rfl,rfl,AZ _ _ yF,by lia,(JB _ _ _).mpr ⟨_,_,ws++[.ref p6],rfl,((bw.of (sy.trans AZ)).put _).same nF,af,by rw[Zc,Zm];lia,?_⟩⟩;have e3:PG.eS e=[e.g (.bin (PG.cL o) l r)]:=by unfold PG.eS;rw[eu]
   rw[tk,e3,<- ZA,Zl];exact(aM.snoc (fx.up (.of AZ)) fl).up (aE.put (O:=fun g=>O g\/g=F) aE.refl (.inr rfl) _)
 clear z5 z6 lw fx yF sy Hy ws;obtain⟨z5,z6,ws,rfl,sy,yF,lw,fx⟩:=(JB _ _ _).mp hw;clear hw JB Pc entry eo;rw[EJ,Zw,<- PG.GP] at fx;have ES:∀ {Hq:Hp},ai Hx Hq->∀ {ws:List V},Hq F=some (.lst ws)->∀g,(O g\/g=F)->H0 g=none/\∃ys,Hq g=some (.lst ys):=fun {Hq} sq {ws} yq g hg=>hg.elim (fun z=>let ⟨n0,zs,e⟩:=J8 g z;⟨n0,zs,sq _ _ e⟩) fun z=>by rw[z];exact⟨sH.free nF,_,yq⟩
 obtain⟨a',w1,Fy,Vx,Vy,ot⟩:=Me hv sc;cases Vx;have Hr:∀ {Hq:Hp},ai Hx Hq->bU K Hq a (.str w1::Fy):=fun sq=>(sH.trans sq).a7 Vy;have Ww:=ot.len;have QH:aM K (fun g=>O g\/g=F) Hz (((PG.eO PG.eC st++PG.eO PG.eW st).map fun s=>[s]).map pL) ws:=by
  rw[ZL];exact fx
 clear fx;have grow:∀ {Hq H6:Hp} {ws:List V} {p6:YE} {dd:List (List PG.aF)} {o:List PG.aF},ai Hq H6->aM K (fun g=>O g\/g=F) Hq (dd.map pL) ws->Fix K (fun g=>O g\/g=F) H6 (pL o) (.ref p6)->aM K (fun g=>O g\/g=F) (upd H6 F (.lst (ws++[.ref p6]))) ((dd++[o]).map pL) (ws++[.ref p6]):=fun AZ fx fl=>by
  rw[Zl];exact(aM.snoc (fx.up (.of AZ)) fl).up (aE.put (O:=fun g=>O g\/g=F) aE.refl (.inr rfl) _)
 refine(AO _ _).mpr (aq fun U7 BK=>?_);clear AO;have next:∀(Hq:Hp) (ws:List V),ai Hx Hq->Hq F=some (.lst ws)->ws.length<=800->aM K (fun g=>O g\/g=F) Hq (((PG.eO PG.eC st++PG.eO PG.eW st).map (fun s=>[s])++PG.oK st).map pL) ws->U7 [some (.ref a),some (.int f),some (.ref Lx),z3,some (.ref F),z5,z6,z7] Hq:=by
  clear QH yF sy lw ws Hz;intro Hz ws sy yF lw fx;refine(BK _ _).mpr (aq fun U8 GY=>?_);clear BK;have last:∀(Hq:Hp) (ws:List V),ai Hx Hq->Hq F=some (.lst ws)->ws.length<=900->aM K (fun g=>O g\/g=F) Hq (((PG.eO PG.eC st++PG.eO PG.eW st).map (fun s=>[s])++PG.oK st++PG.rA st).map pL) ws->U8 [some (.ref a),some (.int f),some (.ref Lx),z3,some (.ref F),z5,z6,z7] Hq:=by
   clear fx yF sy lw ws Hz;intro Hz ws sy yF lw fx;refine(GY _ _).mpr ?_;clear GY;walk_at "rd";intro p1 B3 p2 pf;have g1:=ai.new B3 (.lst []);have y1:(upd Hz p1 (.lst [])) p1=_:=af;generalize upd Hz p1 (.lst [])=G1 at *;have g2:=ai.new pf (.lst [V.ref p1]);have EL:(upd G1 p2 (.lst [V.ref p1])) p2=_:=af;generalize upd G1 p2 (.lst [V.ref p1])=G2 at *;refine aN (Hr (sy.trans (g1.trans g2))) (v:=.str w1) (av (j:=0) rfl) ?_;intro p3 tM;have g3:=ai.new tM (.lst [V.str (Zj "put"),V.str (Zj "say")]);refine⟨p3,_,rfl,.inl (.of af),rfl,rfl,_,rfl,?_⟩;generalize upd G2 p3 (.lst [V.str (Zj "put"),V.str (Zj "say")])=G3 at *;have vJ:=g1.trans (g2.trans g3);have nO:¬O p1:=fun z=>by obtain⟨_,zs,e⟩:=J8 p1 z;rw[sy _ _ e] at B3;cases B3
   have fin:∀(k:Int) (n:Nat),k=n->n<=1->PG.uj st=ZF n []->K7 (.ref p2) (.int k) G3 fun y H2=>K6 (.ref F) y H2 Q:=by
    intro k n hk hn eo;subst hk;refine⟨p2,_,[.ref p1],rfl,rfl,g3 _ _ EL,by lia,by lia,by simp only[Zm];lia,fun p4 yd=>?_⟩;rw[Z2];have ll:(ZF n [V.ref p1]).flatten.length<=1:=by rw[len_rep];simp only[Zm];lia
    refine⟨F,p4,ws,_,rfl,rfl,ai.new yd _ _ _ (vJ _ _ yF),af,by lia,fun p5 uk=>?_⟩;have g4:=ai.new yd (.lst (ZF n [V.ref p1]).flatten);have g5:=ai.new uk (.lst (ws++(ZF n [V.ref p1]).flatten));have JA:=vJ.trans (g4.trans g5);refine q p5 _ _ ((s2.trans sx).trans (sy.trans JA)) ((s2.trans sx).free ((sy.trans (vJ.trans g4)).free uk)) af ?_;show aM K O _ ((PG.bM st).map pL) _;have eF:PG.bM st=((PG.eO PG.eC st++PG.eO PG.eW st).map (fun s=>[s])++PG.oK st++PG.rA st)++ZF n []:=by
     unfold PG.bM;rw[eo,ZA,ZA]
    rw[eF,Zl];have f1:=((fx.sub (O':=O) fun g hg=>.inl hg).up (.of JA))
    have f2:aM K O (upd (upd G3 p4 (.lst (ZF n [V.ref p1]).flatten)) p5 (.lst (ws++(ZF n [V.ref p1]).flatten))) ((ZF n []).map pL) (ZF n [V.ref p1]).flatten:=by
     obtain rfl |rfl:n=0\/n=1:=by lia
     ·exact aM.nil
     ·exact aM.cons (Fix.lst ((g2.trans (g3.trans (g4.trans g5))) _ _ y1) nO aM.nil) aM.nil
    exact fun H6 u=>(f1 H6 u).append (f2 H6 u)
   by_cases hw:w1 = "put"\/w1 = "say"
   ·exact fin _ 1 (if_pos (by rcases hw with rfl |rfl<;>decide +kernel)) (Zn _) (ot.p1 hw)
   ·refine fin _ 0 (if_neg ?_) (ZN _) (ot.p0 hw);intro z;simp[E9,yO] at z;exact hw (z.imp (fun z=>z.symm) fun z=>z.symm)
  walk_at "rd";refine aN (Hr sy) (v:=.str w1) (av (j:=0) rfl) ?_;intro p hp;have g1:=ai.new hp (.lst [V.str (Zj "if"),V.str (Zj "while")]);refine⟨p,_,rfl,.inl (.of af),rfl,rfl,_,rfl,?_⟩;generalize upd Hz p (.lst [V.str (Zj "if"),V.str (Zj "while")])=G1 at *;by_cases hw:w1 = "if"\/w1 = "while"
  ·refine(if_pos (by rcases hw with rfl |rfl<;>decide +kernel)).mpr ?_;obtain⟨vl,vr,s',e3,e4,eg,rp⟩:=ot.b1 hw;refine⟨.inl ⟨rfl,_,.of (g1 _ _ yF)⟩,_,rfl,a,_,rfl,Hr (sy.trans g1),fun p2 G2 g2 h2=>?_⟩;refine aN (Hr (sy.trans (g1.trans g2))) (v:=vr) (av (j:=4) e4) ?_;refine aN (Hr (sy.trans (g1.trans g2))) (v:=vl) (av (j:=3) e3) ?_;intro p3 tM;have g3:=ai.new tM (.tup [vr,vl]);have y3:(upd G2 p3 (.tup [vr,vl])) p3=_:=af;generalize upd G2 p3 (.tup [vr,vl])=G3 at *;have e1:cO (V.str w1::Fy) none (some (3:Int))=(V.str w1::Fy).take 3:=mv _ (x:=3) (by lia);have e2:cO (V.str w1::Fy) (some (5:Int)) none=(V.str w1::Fy).drop 5:=fQ _ 5;rw[e1] at h2;have l3:((V.str w1::Fy).take 3).length<=3:=by rw[ZK];lia
   refine⟨p2,p3,_,_,rfl,rfl,g3.a7 h2,.of y3,by simp only[Ze,ZJ] at *;lia,fun p4 G4 g4 h4=>?_⟩;have mW:=g1.trans (g2.trans (g3.trans g4));refine⟨_,rfl,a,_,rfl,Hr (sy.trans mW),fun p5 G5 g5 h5=>?_⟩;rw[e2] at h5;have l5:((V.str w1::Fy).drop 5).length<=7:=by rw[ZW];lia
   refine⟨p4,p5,_,_,rfl,rfl,g5.a7 h4,h5,by rw[Zc];simp only[Ze,ZJ] at *;lia,fun p6 G6 g6 h6 p7 wZ=>?_⟩;have AZ:=mW.trans (g5.trans g6);have QI:=ES (sy.trans AZ) (AZ _ _ yF);have s7:=ai.new wZ (.lst [V.ref p6]);have f6:Fix K (fun g=>O g\/g=F) G6 (bp s') (.ref p6):=fun H7 u7=>rp H7 (fun d v h=>h.mono fun b o e=>u7 b o (fun z=>by rw[(QI _ z).1] at e;cases e) ((sH.trans (sy.trans AZ)) _ _ e)) p6 (eL (fun g hg=>(QI g hg).2) u7 h6);have fl:Fix K (fun g=>O g\/g=F) (upd G6 p7 (.lst [V.ref p6])) (pL [s']) (.ref p7):=Fix.lst af (fun z=>by obtain⟨_,zs,e7⟩:=QI _ z;rw[e7] at wZ;cases wZ) (aM.cons (f6.up (.of s7)) aM.nil);generalize upd G6 p7 (.lst [V.ref p6])=G7 at *;have J9:=AZ.trans s7;refine⟨F,ws,.ref p7,rfl,rfl,J9 _ _ yF,by lia,last _ _ (((bw.of (sy.trans J9)).put _).same nF) af (by rw[Zc,Zm];lia) ?_⟩;rw[eg];exact grow J9 fx fl
  ·refine(if_neg ?_).mpr (last _ _ (sy.trans g1) (g1 _ _ yF) (by lia) ?_)
   ·intro z;simp[E9,yO] at z;exact hw (z.imp (fun z=>z.symm) fun z=>z.symm)
   ·rw[ot.b0 hw,Zr];exact fx.up (.of g1)
 walk_at "rd";simp only[zU,qj];walk_at "rd";refine aN (Hr sy) (v:=.str w1) (av (j:=0) rfl) ?_;intro p hp;have g1:=ai.new hp (.lst [V.str (Zj "must"),V.str (Zj "if"),V.str (Zj "while")]);refine⟨p,_,rfl,.inl (.of af),rfl,rfl,_,rfl,?_⟩;generalize upd Hz p (.lst [V.str (Zj "must"),V.str (Zj "if"),V.str (Zj "while")])=G1 at *;by_cases hw:w1 = "must"\/w1 = "if"\/w1 = "while"
 ·refine(if_pos (by rcases hw with rfl |rfl |rfl<;>decide +kernel)).mpr ?_;obtain⟨sg,s',e2,OO,eg,dat,Vz,dput⟩:=ot.c2 hw;refine⟨.inl ⟨rfl,_,.of (g1 _ _ yF)⟩,fun p2 pf pd F7=>⟨af,zh,rfl,by decide,?_⟩⟩;have g2:=ai.new pf (.lst [V.int 2]);have EL:(upd G1 p2 (.lst [V.int 2])) p2=_:=af;generalize upd G1 p2 (.lst [V.int 2])=G2 at *;have g3:ai G2 (upd (upd G2 pd (.dK [])) pd (.dK (fM [] zh))):=fun b o e=>by rw[aL (ao e F7),aL (ao e F7)];exact e
  have y3:(upd (upd G2 pd (.dK [])) pd (.dK (fM [] zh))) pd=_:=af;generalize upd (upd G2 pd (.dK [])) pd (.dK (fM [] zh))=G3 at *;rw[D3] at y3;have vJ:=g1.trans (g2.trans g3);have Hg:=ES (sy.trans vJ) (vJ _ _ yF);refine aN (Hr (sy.trans vJ)) (v:=.str (S sg)) (av (j:=2) e2) ⟨pd,.str (S (PG.cL sg)),rfl,.inl ⟨_,.inr (S sg),.inl y3,rfl,(Md OO).symm⟩,?_⟩;refine⟨.ref a,.str (S (PG.cL sg)),bp st,.str (S sg),.str (S (PG.cL sg)),p2,[2],H0,fun g=>O g\/g=F,rfl,sH.trans (sy.trans vJ),hv,Fix.str,Hg,.of (g3 _ _ EL),by decide,by decide,dat,Vz,fun v' H5 s5 f5 p6 yt=>?_⟩;rw[dput] at f5;have s6:=ai.new yt (.lst [v']);have fl:Fix K (fun g=>O g\/g=F) (upd H5 p6 (.lst [v'])) (pL [s']) (.ref p6):=Fix.lst af (fun z=>by obtain⟨_,zs,e7⟩:=Hg _ z;rw[s5 _ _ e7] at yt;cases yt) (aM.cons (f5.up (.of s6)) aM.nil);generalize upd H5 p6 (.lst [v'])=H6 at *;have AZ:=vJ.trans (s5.trans s6);refine⟨F,ws,.ref p6,rfl,rfl,AZ _ _ yF,by lia,next _ _ (((bw.of (sy.trans AZ)).put _).same nF) af (by rw[Zc,Zm];lia) ?_⟩;rw[eg];exact grow AZ QH fl
 ·refine(if_neg ?_).mpr (next _ _ (sy.trans g1) (g1 _ _ yF) (by lia) ?_)
  ·intro z;simp[E9,yO] at z;exact hw (z.imp (fun z=>z.symm) fun z=>z.imp (fun z=>z.symm) fun z=>z.symm)
  ·rw[ot.c0 hw,Zr];exact QH.up (.of g1)
theorem EC{α:Type}(f:Nat->List α)(j:Nat):∀d,((ZO j).flatMap f).length<=((ZO (j+d)).flatMap f).length
 |0=>Zn _
 |d+1=>by
  have:=EC f j d;rw[<- Nat.add_assoc,oM 0 (j+d) f,Zc];lia
theorem tP{α β:Type}(ds:List β)(l:List α)(o:α)(f:α->β):ds++(l++[o]).map f=(ds++l.map f)++[f o]:=by
 rw[Zl,ZA];rfl
theorem F8(T:Tx K mg t){n:Nat}(j9:bP P w K mg base gA (n+11) t.dZ t.eT ["body"] (wq K n)) :
 bP P w K mg base gA (n+12) t.dZ t.eT ["body"] (wq K (n+1)):=by
 have uA:=uz (P:=P) (w:=w) (base:=base) T;refine T.cJ.F.oA mQ (fun vs H Q E h=>?_) (fun gP A outer s H vs Q E hr h=>?_)
 ·obtain⟨_,_,_,_,rfl,_⟩:=h;rfl
 obtain⟨v,b,H0,O,rfl,s0,hv,hd,sc,lb,tZ,q⟩:=h;have nd:=mQ.nd;have line:YM=2 ^ 24:=rfl;obtain⟨a,xs,rfl,EB,rs⟩:=Rep.bT.mp hv;have lx:xs.length=b.length:=by rw[rs.length,Zb]
 have Uq:=pM b;have Wx:=kA b sc;refine⟨_,[some (.ref a),none,none,none,none,none,none,none],(@aj _ _ _ _ _ (@gv _ _ 1 _ _ _ _ nd rfl (ZE rfl) (@aQ _ _ _ _ (@ag _)) (by first |rfl |exact .inl rfl |exact .inr rfl |decide |(intro _;rfl) |assumption) (by first |rfl |exact .inl rfl |exact .inr rfl |decide |(intro _;rfl) |assumption)) (@aj _ _ _ _ _ (@dQ _ _ _ _ _ _ _ _ PassesOwn.never rfl (@uO _ _ _ _ _ _ rfl T.nH (@ae _ _ _ _ _ (@bF _ _ _ _ _ _ _ _ _ (@bK _) rfl T.jd PyProof.Rows.Boot.«len» (@ae _ _ _ _ _ (pv 0) (@ag _) (@aR _ _ _ _)) (by first |rfl |exact .inl rfl |exact .inr rfl |decide |(intro _;rfl) |assumption) (by first |rfl |exact .inl rfl |exact .inr rfl |decide |(intro _;rfl) |assumption) (by first |rfl |exact .inl rfl |exact .inr rfl |decide |(intro _;rfl) |assumption) (by first |rfl |exact .inl rfl |exact .inr rfl |decide |(intro _;rfl) |assumption)) (@ag _) (@b7 _ _ _ _ _ _)) (by first |rfl |exact .inl rfl |exact .inr rfl |decide |(intro _;rfl) |assumption)) (@br _ _ 2 _ nd rfl (ZE rfl) (by first |rfl |exact .inl rfl |exact .inr rfl |decide |(intro _;rfl) |assumption)) (@aj _ _ _ _ _ (@gv _ _ 3 _ _ _ _ nd rfl (ZE rfl) (@aH _ _ _ _ _ _ _ (@bh _) (pv 0) (pv 2) (@iV _ _)) (by first |rfl |exact .inl rfl |exact .inr rfl |decide |(intro _;rfl) |assumption) (by first |rfl |exact .inl rfl |exact .inr rfl |decide |(intro _;rfl) |assumption)) (@aj _ _ _ _ _ (@dQ _ _ _ _ _ _ _ _ PassesOwn.never rfl (@ba _ _ _ _ (@eD _ _ _ _ _ _ _ _ _ _ _ _ _ _ _ _ uA (hr.mono (by first|decide|omega)) rfl T.fE.m T.fE.F.kp T.fE.b .nil jm (@ae _ _ _ _ _ (pv 3) (@ag _) (@aR _ _ _ _)) (by first |rfl |exact .inl rfl |exact .inr rfl |decide |(intro _;rfl) |assumption) (by first |rfl |exact .inl rfl |exact .inr rfl |decide |(intro _;rfl) |assumption) (by first |rfl |exact .inl rfl |exact .inr rfl |decide |(intro _;rfl) |assumption))) (@br _ _ 4 _ nd rfl (ZE rfl) (by first |rfl |exact .inl rfl |exact .inr rfl |decide |(intro _;rfl) |assumption)) (@ay _ _ _ (@cp _ _ _ _ (@fL _ _ _ _ _ _ _ _ _ _ _ _ Zs Zx Zy bN (pv 1) (@ae _ _ _ _ _ (@aG _ _ _ _ _ _ _ _ (@fe _) (@aG _ _ _ _ _ _ _ _ Ay (@bJ _ _ _ _ _ _ _ _ _ _ (@gH _) (pv 0) (@cq _) (@b6 _ _ _ (pv 2))) (pv 4)) (@bJ _ _ _ _ _ _ _ _ _ _ (@gH _) (pv 0) (@b6 _ _ _ (@aG _ _ _ _ _ _ _ _ (@cT _) (pv 2) (@ah _ _ _ _))) (@cq _))) (@ag _) (@eI _ _ _ _ _ _)) (by first |rfl |exact .inl rfl |exact .inr rfl |decide |(intro _;rfl) |assumption) (by first |rfl |exact .inl rfl |exact .inr rfl |decide |(intro _;rfl) |assumption) (by first |rfl |exact .inl rfl |exact .inr rfl |decide |(intro _;rfl) |assumption) (by first |rfl |exact .inl rfl |exact .inr rfl |decide |(intro _;rfl) |assumption) (by first |rfl |exact .inl rfl |exact .inr rfl |decide |(intro _;rfl) |assumption)) (by first |rfl |exact .inl rfl |exact .inr rfl |decide |(intro _;rfl) |assumption))) (by first |rfl |exact .inl rfl |exact .inr rfl |decide |(intro _;rfl) |assumption)) (@ay _ _ _ (@dQ _ _ _ _ _ _ _ _ PassesOwn.never rfl (@uP _ _ _ _ _ _ _ rfl T.nH (@ae _ _ _ _ _ (@ah _ _ _ _) (@ae _ _ _ _ _ (@bF _ _ _ _ _ _ _ _ _ (@bK _) rfl T.jd PyProof.Rows.Boot.«len» (@ae _ _ _ _ _ (pv 3) (@ag _) (@aR _ _ _ _)) (by first |rfl |exact .inl rfl |exact .inr rfl |decide |(intro _;rfl) |assumption) (by first |rfl |exact .inl rfl |exact .inr rfl |decide |(intro _;rfl) |assumption) (by first |rfl |exact .inl rfl |exact .inr rfl |decide |(intro _;rfl) |assumption) (by first |rfl |exact .inl rfl |exact .inr rfl |decide |(intro _;rfl) |assumption)) (@ag _) (@b7 _ _ _ _ _ _)) (@aK _ _ _ _ _)) (by first |rfl |exact .inl rfl |exact .inr rfl |decide |(intro _;rfl) |assumption) (by first |rfl |exact .inl rfl |exact .inr rfl |decide |(intro _;rfl) |assumption)) (@br _ _ 5 _ nd rfl (ZE rfl) (by first |rfl |exact .inl rfl |exact .inr rfl |decide |(intro _;rfl) |assumption)) (@ay _ _ _ (@dQ _ _ _ _ _ _ _ _ PassesOwn.never rfl (@ba _ _ _ _ (@eD _ _ _ _ _ _ _ _ _ _ _ _ _ _ _ _ j9 (hr.mono (by first|decide|omega)) rfl T.cJ.m T.cJ.F.kp T.cJ.b .nil jm (@ae _ _ _ _ _ (@aH _ _ _ _ _ _ _ (@aZ _) (pv 3) (pv 5) (@iV _ _)) (@ag _) (@a8 _ _ _ _ _)) (by first |rfl |exact .inl rfl |exact .inr rfl |decide |(intro _;rfl) |assumption) (by first |rfl |exact .inl rfl |exact .inr rfl |decide |(intro _;rfl) |assumption) (by first |rfl |exact .inl rfl |exact .inr rfl |decide |(intro _;rfl) |assumption))) (@br _ _ 6 _ nd rfl (ZE rfl) (by first |rfl |exact .inl rfl |exact .inr rfl |decide |(intro _;rfl) |assumption)) (@aj _ _ _ _ _ (@gv _ _ 7 _ _ _ _ nd rfl (ZE rfl) (@aG _ _ _ _ _ _ _ _ (@g7 _) (@aG _ _ _ _ _ _ _ _ (@g7 _) (@bJ _ _ _ _ _ _ _ _ _ _ (@hE _) (pv 3) (@cq _) (@b6 _ _ _ (pv 5))) (@bR _ _ _ _ _ (@ae _ _ _ _ _ (pv 6) (@ag _) (@aR _ _ _ _)))) (@bJ _ _ _ _ _ _ _ _ _ _ (@hE _) (pv 3) (@b6 _ _ _ (@aG _ _ _ _ _ _ _ _ (@cT _) (pv 5) (@ah _ _ _ _))) (@cq _))) (by first |rfl |exact .inl rfl |exact .inr rfl |decide |(intro _;rfl) |assumption) (by first |rfl |exact .inl rfl |exact .inr rfl |decide |(intro _;rfl) |assumption)) (@ay _ _ _ (@cp _ _ _ _ (@fL _ _ _ _ _ _ _ _ _ _ _ _ Zs Zx Zy bN (pv 1) (@ae _ _ _ _ _ (@aG _ _ _ _ _ _ _ _ (@fe _) (@aG _ _ _ _ _ _ _ _ (@fe _) (@bJ _ _ _ _ _ _ _ _ _ _ (@gH _) (pv 0) (@cq _) (@b6 _ _ _ (pv 2))) (@aQ _ _ _ _ (@ae _ _ _ _ _ (pv 7) (@ag _) (@aR _ _ _ _)))) (@bJ _ _ _ _ _ _ _ _ _ _ (@gH _) (pv 0) (@b6 _ _ _ (@aG _ _ _ _ _ _ _ _ (@cT _) (pv 2) (@ah _ _ _ _))) (@cq _))) (@ag _) (@eI _ _ _ _ _ _)) (by first |rfl |exact .inl rfl |exact .inr rfl |decide |(intro _;rfl) |assumption) (by first |rfl |exact .inl rfl |exact .inr rfl |decide |(intro _;rfl) |assumption) (by first |rfl |exact .inl rfl |exact .inr rfl |decide |(intro _;rfl) |assumption) (by first |rfl |exact .inl rfl |exact .inr rfl |decide |(intro _;rfl) |assumption) (by first |rfl |exact .inl rfl |exact .inr rfl |decide |(intro _;rfl) |assumption)) (by first |rfl |exact .inl rfl |exact .inr rfl |decide |(intro _;rfl) |assumption)))) (by first |rfl |exact .inl rfl |exact .inr rfl |decide |(intro _;rfl) |assumption))) (by first |rfl |exact .inl rfl |exact .inr rfl |decide |(intro _;rfl) |assumption))))) (by first |rfl |exact .inl rfl |exact .inr rfl |decide |(intro _;rfl) |assumption)) (@ay _ _ _ (@aT _ _ _ _ (pv 1))))),rfl,?_⟩;refine aq fun U1 gy=>?_;walk_at "rd";intro L hL;have sL:=ai.new hL (.lst []);refine(gy _ _).mpr (aq fun U2 jz=>?_);clear gy;refine xv fun U hU=>?_;walk_at "rd";refine⟨a,_,rfl,.inl ((s0.trans sL).seq EB),_,rfl,by lia,by lia,hU _ _ ?_⟩;clear hU;rw[Z2];have ES:∀ {Hq:Hp},ai H Hq->∀ {ws:List V},Hq L=some (.lst ws)->∀g,(O g\/g=L)->H0 g=none/\∃ys,Hq g=some (.lst ys):=fun {Hq} sq {ws} yq g hg=>hg.elim (fun z=>let ⟨n0,zs,e⟩:=tZ g z;⟨n0,zs,sq _ _ e⟩) fun z=>by rw[z];exact⟨s0.free hL,_,yq⟩
 obtain⟨P1,NU⟩:∃Pv:Nat->St->Hp->Prop,∀i σ Hx,Pv i σ Hx↔∃(z2 z3 z4 z5 z6 z7:Option V) (ws:List V) (ds:List (List PG.aF)),σ=[some (.ref a),some (.ref L),z2,z3,z4,z5,z6,z7]/\ai H Hx/\Hx L=some (.lst ws)/\ws.length=ds.length/\aM K (fun g=>O g\/g=L) Hx (ds.map pL) ws/\ds++PG.xT (b.take i) (b.drop i)=PG.fu b:=⟨_,fun _ _ _=>Iff.rfl⟩
 rw[lx];refine nh (lo:=0) (n:=b.length) P1 ((NU _ _ _).mpr ⟨_,_,_,_,_,_,[],[],rfl,sL,af,rfl,aM.nil,by rw[XM,XJ,PG.D4];rfl⟩) (fun i σ Hx hi hw=>?_) (fun σ Hx hw=>?_)
 ·obtain⟨z2,z3,z4,z5,z6,z7,ws,ds,rfl,sx,yL,lw,fx,ed⟩:=(NU _ _ _).mp hw;clear hw;have VA:b.drop i=b[i]::b.drop (i+1):=XS hi;obtain⟨vi,NT,ri⟩:=rs.get (i:=i) (d:=bp b[i]) (by rw[Zq,Zd hi];rfl);have VB:b.take (i+1)=b.take i++[b[i]]:=by rw[ZV,Zd hi];rfl
  have SI:∀x∈PG.aP b[i],xK x:=fun x hx=>sc x (wg (Zu hi) hx);have Wy:PG.cU b[i]<=PG.bA b:=wt (Zu hi);have Wz:(PG.aP b[i]).length<=(PG.aA b).length:=wu (Zu hi);rw[VA,PG.xT,<- VB] at ed;generalize b[i]=st at *;simp only[bV,Xi];refine aq fun V1 AR=>?_;walk_at "rd";rw[show ((0:Int)+(i:Int))=((i:Nat):Int) by lia];refine bY ((s0.trans sx).seq EB) (v:=vi) (av (j:=i) NT) ((AR _ _).mpr (aq fun V2 GZ=>?_));clear AR;refine eJ fun U hU=>?_;walk_at "rd";have SJ:xK st:=SI st (by obtain⟨q,e⟩:=PG.kr st;rw[e];exact Zt ..);have Va:=AH st SJ;refine⟨vi,st,H0,fun g=>O g\/g=L,rfl,s0.trans sx,ri,SJ,ES sx yL,fun L1 yv H1 s1 AS ou f1=>⟨L1,rfl,⟨_,.of ou⟩,hU _ _ ?_⟩⟩;clear hU;have SK:L1≠L:=fun z=>by rw[z,yL] at AS;cases AS
  have MU:yv.length=(PG.bM st).length:=by rw[f1.nK.length,Zb]
  have bound:ds.length+(PG.bM st).length+(PG.hX st).length<=1000*1000:=by
   have:=congrArg Z6 ed;rw[Zc,Zc,Zc,Zb,Zb] at this;lia
  have F9:∀ {Hq:Hp},ai H Hq->∀ {ws:List V},Hq L=some (.lst ws)->∀ {ys:List V} {es:List Dp},aw K H0 es ys->aM K (fun g=>O g\/g=L) Hq es ys:=fun {Hq} sq {ws} yq {ys es} r H4 u4=>r.mono fun b o e=>u4 b o (fun z=>by rw[(ES sq yq _ z).1] at e;cases e) ((s0.trans sq) _ _ e);have e1:cO xs none (some (i:Int))=xs.take i:=mv xs (x:=(i:Int)) (by lia);have e2:cO xs (some ((i:Int)+1)) none=xs.drop (i+1):=by rw[show ((i:Int)+1)=((i+1:Nat):Int) by lia];exact fQ xs (i+1)
  have lt:(xs.take i).length=i:=by rw[ZK];lia
  have WA:(xs.drop (i+1)).length=b.length-(i+1):=by rw[ZW,lx]
  obtain⟨P2,Ka⟩:∃Pv:Nat->St->Hp->Prop,∀k σ Hy,Pv k σ Hy↔∃(z4:Option V) (ws:List V),σ=[some (.ref a),some (.ref L),some (.int i),some vi,z4,z5,z6,z7]/\ai H Hy/\bw L H1 Hy/\Hy L=some (.lst ws)/\ws.length=ds.length+k/\aM K (fun g=>O g\/g=L) Hy ((ds++((PG.bM st).take k).map fun o=>b.take i++o++b.drop (i+1)).map pL) ws:=⟨_,fun _ _ _=>Iff.rfl⟩
  refine eE (K:=K) (a:=L1) (xs:=yv) P2 ((Ka _ _ _).mpr ⟨_,ws,rfl,sx.trans s1,bw.refl _ _,s1 _ _ yL,lw,by rw[XM,Xz,Zr];exact fx.up (.of s1)⟩) (fun k σ Hy _ hw=>?_) (fun k x σ Hy MZ hw=>?_) (fun σ Hy hw=>?_)
  ·obtain⟨_,_,_,_,u,_⟩:=(Ka _ _ _).mp hw;exact .of (u _ _ SK ou)
  ·obtain⟨VC,M0,rfl,sy,uy,yy,QJ,M1⟩:=(Ka _ _ _).mp hw;clear hw;have lk:=(Zi.mp MZ).1;have Ho:k<(PG.bM st).length:=by lia
   have fo:Fix K (fun g=>O g\/g=L) H1 (pL (PG.bM st)[k]) x:=xW f1 (i:=k) (by rw[Zq,Zd Ho];rfl) MZ;have tk:(PG.bM st).take (k+1)=(PG.bM st).take k++[(PG.bM st)[k]]:=by rw[ZV,Zd Ho];rfl
   have lo1:=(PG.jJ _ (Zu Ho)).1;generalize (PG.bM st)[k]=o at *;have fy:=fo.up (GV (O:=O) uy);obtain⟨c,zs,rfl,hc,rz⟩:=Rep.bT.mp (fy _ zj);have lz:zs.length<=1:=by rw[rz.length,Zb];exact lo1
   simp only[bV,Xi];walk_at "rd";refine⟨.inl ⟨rfl,_,.of yy⟩,?_⟩;refine⟨_,rfl,a,_,rfl,(s0.trans sy).seq EB,fun p1 B3=>?_⟩;rw[e1];have g1:=ai.new B3 (.lst (xs.take i));have y1:(upd Hy p1 (.lst (xs.take i))) p1=_:=af;generalize upd Hy p1 (.lst (xs.take i))=G1 at *;refine⟨p1,c,_,_,rfl,rfl,.of y1,(zl.trans g1).seq hc,by lia,fun p2 pf=>?_⟩;have g2:=ai.new pf (.lst (xs.take i++zs));have y2:(upd G1 p2 (.lst (xs.take i++zs))) p2=_:=af;generalize upd G1 p2 (.lst (xs.take i++zs))=G2 at *;refine⟨_,rfl,a,_,rfl,(s0.trans (sy.trans (g1.trans g2))).seq EB,fun p3 tM=>?_⟩;rw[e2];have g3:=ai.new tM (.lst (xs.drop (i+1)));have y3:(upd G2 p3 (.lst (xs.drop (i+1)))) p3=_:=af;generalize upd G2 p3 (.lst (xs.drop (i+1)))=G3 at *;refine⟨p2,p3,_,_,rfl,rfl,g3 _ _ y2,y3,by rw[Zc];lia,fun p4 yd=>?_⟩;have g4:=ai.new yd (.lst (xs.take i++zs++xs.drop (i+1)));have mW:=g1.trans (g2.trans (g3.trans g4));have JC:=mW _ _ yy;have fN:Fix K (fun g=>O g\/g=L) (upd G3 p4 (.lst (xs.take i++zs++xs.drop (i+1)))) (pL (b.take i++o++b.drop (i+1))) (.ref p4):=by
    refine Fix.lst af (fun z=>?_) fun H5 u5=>?_
    ·obtain⟨_,zs,e7⟩:=ES (sy.trans (g1.trans (g2.trans g3))) ((g1.trans (g2.trans g3)) _ _ yy) _ z;rw[e7] at yd;cases yd
    ·rw[Zl,Zl,Yo,List.map_drop];exact((F9 (sy.trans mW) JC (rs.GS i) H5 u5).append (rz.mono fun b o e=>u5 b o (tH e).1 (mW _ _ (tH e).2))).append (F9 (sy.trans mW) JC (rs.GU (i+1)) H5 u5)
   generalize upd G3 p4 (.lst (xs.take i++zs++xs.drop (i+1)))=G4 at *;refine⟨L,M0,.ref p4,rfl,rfl,JC,by lia,(Ka _ _ _).mpr ⟨_,M0++[.ref p4],rfl,((bw.of (sy.trans mW)).put _).same hL,fun b o n e=>by rw[aL n];exact mW _ _ (uy b o n e),af,by rw[Zc,Zm];lia,?_⟩⟩;rw[tk,tP,Zl];exact(aM.snoc (M1.up (.of mW)) fN).up (aE.put (O:=fun g=>O g\/g=L) aE.refl (.inr rfl) _)
  obtain⟨VC,M0,rfl,sy,_,yy,QJ,M1⟩:=(Ka _ _ _).mp hw;clear hw Ka P2 f1 SK ou AS s1;rw[MU,Zw] at M1;rw[MU] at QJ;clear MU fx lw;obtain⟨a2,ys,nn,bd,re,rfl,QK,bo⟩:=Mf ri;have WB:=bo.len;have WC:=bo.n_;refine(GZ _ _).mpr ?_;clear GZ;refine xR fun U hU=>?_;walk_at "rd";refine⟨a2,_,rfl,.inr ((s0.trans sy).a7 QK),_,_,rfl,⟨by lia,by lia,by lia,by lia⟩,hU _ _ _ ?_⟩;clear hU;rw[show ((ys.length:Int)-5).toNat=nn by lia];generalize Gn:(ds++(PG.bM st).map fun o=>b.take i++o++b.drop (i+1))=M3 at *;have VD:M3.length=ds.length+(PG.bM st).length:=by rw[<- Gn,Zc,Zb]
  obtain⟨P3,NV⟩:∃Pv:Nat->St->Hp->Prop,∀j σ Hy,Pv j σ Hy↔∃(z4 z5 z6 z7:Option V) (ws:List V),σ=[some (.ref a),some (.ref L),some (.int i),some (.ref a2),z4,z5,z6,z7]/\ai H Hy/\Hy L=some (.lst ws)/\ws.length=M3.length+((ZO j).flatMap fun j=>(PG.fu (bd j)).map (re j)).length/\aM K (fun g=>O g\/g=L) Hy ((M3++((ZO j).flatMap fun j=>(PG.fu (bd j)).map (re j)).map fun x=>b.take i++[x]++b.drop (i+1)).map pL) ws:=⟨_,fun _ _ _=>Iff.rfl⟩
  refine nh (lo:=5) (n:=nn) P3 ((NV _ _ _).mpr ⟨_,_,_,_,M0,rfl,sy,yy,by simp;lia,by simpa using M1⟩) (fun j σ Hz hj hw=>?_) (fun σ Hz hw=>?_)
  ·obtain⟨z4,z5,z6,z7,QL,rfl,sz,yz,SM,M4⟩:=(NV _ _ _).mp hw;clear hw sy yy QJ M1 M0;obtain⟨vj,MN,rj,mj,dj,nj⟩:=bo.at_ j hj;have rf:=oM nn j (fun j=>(PG.fu (bd j)).map (re j));have VE:=congrArg Z6 bo.all;have QM:((ZO (j+1)).flatMap fun j=>(PG.fu (bd j)).map (re j)).length<=(PG.hX st).length:=by
    rw[bo.all];have:=EC (fun j=>(PG.fu (bd j)).map (re j)) (j+1) (nn-(j+1));rw[show j+1+(nn-(j+1))=nn by lia] at this;exact this
   rw[rf,Zc,Zb] at QM;generalize WD:((ZO j).flatMap fun j=>(PG.fu (bd j)).map (re j))=dd at *;simp only[bV,Xi];refine eJ fun U hU=>?_;walk_at "rd";rw[show ((5:Int)+(j:Int))=((5+j:Nat):Int) by lia];refine aN ((s0.trans sz).a7 QK) (v:=vj) (av (j:=5+j) MN) ⟨vj,bd j,H0,fun g=>O g\/g=L,rfl,s0.trans sz,rj,by lia,fun x hx=>SI x (mj x hx),by lia,ES sz yz,fun L2 Ey H2 s2 G0 FY f2=>⟨L2,rfl,⟨_,.of FY⟩,hU _ _ ?_⟩⟩;clear hU;have Qt:L2≠L:=fun z=>by rw[z,yz] at G0;cases G0
   have Qz:Ey.length=(PG.fu (bd j)).length:=by rw[f2.nK.length,Zb]
   obtain⟨P4,M5⟩:∃Pv:Nat->St->Hp->Prop,∀k σ Hy,Pv k σ Hy↔∃(z6 z7:Option V) (ws:List V),σ=[some (.ref a),some (.ref L),some (.int i),some (.ref a2),z4,some (.int (5+j:Nat)),z6,z7]/\ai H Hy/\bw L H2 Hy/\Hy L=some (.lst ws)/\ws.length=M3.length+dd.length+k/\aM K (fun g=>O g\/g=L) Hy ((M3++(dd++((PG.fu (bd j)).take k).map (re j)).map fun x=>b.take i++[x]++b.drop (i+1)).map pL) ws:=⟨_,fun _ _ _=>Iff.rfl⟩
   refine eE (K:=K) (a:=L2) (xs:=Ey) P4 ((M5 _ _ _).mpr ⟨_,_,QL,rfl,sz.trans s2,bw.refl _ _,s2 _ _ yz,SM,by rw[XM,Xz,Zr];exact M4.up (.of s2)⟩) (fun k σ Hy _ hw=>?_) (fun k x σ Hy MZ hw=>?_) (fun σ Hy hw=>?_)
   ·obtain⟨_,_,_,_,_,u,_⟩:=(M5 _ _ _).mp hw;exact .of (u _ _ Qt FY)
   ·obtain⟨VF,VG,NW,rfl,sy,uy,yy,SN,NX⟩:=(M5 _ _ _).mp hw;clear hw;have lk:=(Zi.mp MZ).1;have Ho:k<(PG.fu (bd j)).length:=by lia
    have fo:Fix K (fun g=>O g\/g=L) H2 (pL (PG.fu (bd j))[k]) x:=xW f2 (i:=k) (by rw[Zq,Zd Ho];rfl) MZ;have tk:(PG.fu (bd j)).take (k+1)=(PG.fu (bd j)).take k++[(PG.fu (bd j))[k]]:=by rw[ZV,Zd Ho];rfl
    generalize (PG.fu (bd j))[k]=o at *;have fy:=fo.up (GV (O:=O) uy);have hT:=(s0.trans sy).a7 QK;have i5:5+j<ys.length:=by lia
    simp only[bV,Xi];refine aq fun W1 SO=>?_;walk_at "rd";have c1:cO ys none (some ((5+j:Nat):Int))=ys.take (5+j):=mv ys (x:=((5+j:Nat):Int)) (by lia);have c2:cO ys (some (((5+j:Nat):Int)+1)) none=ys.drop (5+j+1):=by rw[show (((5+j:Nat):Int)+1)=((5+j+1:Nat):Int) by lia];exact fQ ys (5+j+1)
    have l1:(cO ys none (some ((5+j:Nat):Int))).length<=10:=by rw[c1,ZK];lia
    have l2:(cO ys (some (((5+j:Nat):Int)+1)) none).length<=10:=by rw[c2,ZW];lia
    refine⟨_,rfl,a2,ys,rfl,hT,fun q1 K1 k1 h1 q2 VH=>?_⟩;have k2:=ai.new VH (.tup [x]);have w2:(upd K1 q2 (.tup [x])) q2=_:=af;generalize upd K1 q2 (.tup [x])=K2 at *;refine⟨q1,q2,_,_,rfl,rfl,k2.a7 h1,.of w2,by simp only[Zm];lia,fun q3 K3 k3 h3=>⟨_,rfl,a2,ys,rfl,(k1.trans (k2.trans k3)).a7 hT,fun q4 K4 k4 h4=>⟨q3,q4,_,_,rfl,rfl,k4.a7 h3,h4,by simp only[Zc,Zm];lia,fun q5 K5 k5 h5=>(SO _ _).mpr ?_⟩⟩⟩;clear SO;rw[we ys i5] at h5;have M6:=k1.trans (k2.trans (k3.trans (k4.trans k5)));have s5:=sy.trans M6;have y5:=M6 _ _ yy;walk_at "rd";refine⟨.inl ⟨rfl,_,.of y5⟩,_,rfl,a,_,rfl,(s0.trans s5).seq EB,fun p1 B3=>?_⟩;rw[e1];have g1:=ai.new B3 (.lst (xs.take i));have y1:(upd K5 p1 (.lst (xs.take i))) p1=_:=af;generalize upd K5 p1 (.lst (xs.take i))=G1 at *;intro p9 yu;have g9:=ai.new yu (.lst [V.ref q5]);have y9:(upd G1 p9 (.lst [V.ref q5])) p9=_:=af;generalize upd G1 p9 (.lst [V.ref q5])=G9 at *;refine⟨p1,p9,_,_,rfl,rfl,g9 _ _ y1,y9,by rw[Zm];lia,fun p2 pf=>?_⟩;have g2:=ai.new pf (.lst (xs.take i++[V.ref q5]));have y2:(upd G9 p2 (.lst (xs.take i++[V.ref q5]))) p2=_:=af;generalize upd G9 p2 (.lst (xs.take i++[V.ref q5]))=G2 at *;refine⟨_,rfl,a,_,rfl,(s0.trans (s5.trans (g1.trans (g9.trans g2)))).seq EB,fun p3 tM=>?_⟩;rw[e2];have g3:=ai.new tM (.lst (xs.drop (i+1)));have y3:(upd G2 p3 (.lst (xs.drop (i+1)))) p3=_:=af;generalize upd G2 p3 (.lst (xs.drop (i+1)))=G3 at *;refine⟨p2,p3,_,_,rfl,rfl,g3 _ _ y2,y3,by rw[Zc,Zm];lia,fun p4 yd=>?_⟩;have g4:=ai.new yd (.lst (xs.take i++[V.ref q5]++xs.drop (i+1)));have vJ:=g1.trans (g9.trans (g2.trans g3));have mW:=vJ.trans g4;have JC:=mW _ _ y5;have MY:=fun g hg=>(ES s5 y5 g hg).2;have fN:Fix K (fun g=>O g\/g=L) (upd G3 p4 (.lst (xs.take i++[V.ref q5]++xs.drop (i+1)))) (pL (b.take i++[re j o]++b.drop (i+1))) (.ref p4):=by
     refine Fix.lst af (fun z=>?_) fun H5 u5=>?_
     ·obtain⟨_,zs,e7⟩:=ES (s5.trans vJ) (vJ _ _ y5) _ z;rw[e7] at yd;cases yd
     ·rw[Zl,Zl,Yo,List.map_drop];have QN:aE (fun g=>O g\/g=L) K5 H5:=(aE.of mW).trans u5;refine((F9 (s5.trans mW) JC (rs.GS i) H5 u5).append (.cons ?_ .nil)).append (F9 (s5.trans mW) JC (rs.GU (i+1)) H5 u5);exact bo.put j hj H5 (fun d v h=>h.mono fun b o e=>QN b o (fun z=>by rw[(ES s5 y5 _ z).1] at e;cases e) ((s0.trans s5) _ _ e)) q5 x o (eL MY QN h5) ((fy.up (.of M6)) H5 QN)
    generalize upd G3 p4 (.lst (xs.take i++[V.ref q5]++xs.drop (i+1)))=G4 at *;refine⟨L,NW,.ref p4,rfl,rfl,JC,by lia,(M5 _ _ _).mpr ⟨_,_,NW++[.ref p4],rfl,((bw.of (s5.trans mW)).put _).same hL,fun b o n e=>by rw[aL n];exact mW _ _ (M6 _ _ (uy b o n e)),af,by rw[Zc,Zm];lia,?_⟩⟩;rw[tk,tP,tP,Zl];exact(aM.snoc (NX.up (.of (M6.trans mW))) fN).up (aE.put (O:=fun g=>O g\/g=L) aE.refl (.inr rfl) _)
   ·obtain⟨VF,VG,NW,rfl,sy,uy,yy,SN,NX⟩:=(M5 _ _ _).mp hw;rw[Qz,Zw] at NX;refine(NV _ _ _).mpr ⟨_,_,_,_,NW,rfl,sy,yy,?_,?_⟩
    ·rw[rf,Zc,Zb,SN,Qz];lia
    ·rw[rf];exact NX
  ·obtain⟨z4,z5,z6,z7,QL,rfl,sz,yz,SM,M4⟩:=(NV _ _ _).mp hw;rw[<- bo.all] at M4;refine(NU _ _ _).mpr ⟨_,_,_,_,_,_,QL,_,rfl,sz,yz,?_,M4,?_⟩
   ·rw[M4.nK.length,Zb]
   ·rw[<- ed,<- Gn];simp only[ZA]
 ·obtain⟨z2,z3,z4,z5,z6,z7,ws,ds,rfl,sx,yL,lw,fx,ed⟩:=(NU _ _ _).mp hw;refine(jz _ _).mpr ?_;walk_at "rd";refine q L ws Hx sx hL yL ?_;rw[List.drop_length,PG.xT,Zr] at ed;rw[<- ed];exact fx.sub fun g hg=>.inl hg
theorem yg(T:Tx K mg t):∀n,bP P w K mg base gA (n+11) t.dZ t.eT ["body"] (wq K n)
 |0=>by
  have no:∀vs H Q E,¬wq K 0 vs H Q E:=fun vs H Q E h=>by obtain⟨_,_,_,_,_,_,_,h,_⟩:=h;lia
  exact⟨fun vs H Q E h=>absurd h (no vs H Q E),fun A outer s H args us vs Q E _ _ _ _ h=>absurd h (no vs H Q E)⟩
 |n+1=>F8 T (yg T n)
theorem BV(T:Tx K mg t){n:Nat}(i4:bP P w K mg base gA (n+1) t.eA t.eU ["thing"] (wx K n)) :
 bP P w K mg base gA (n+2) t.eA t.eU ["thing"] (wx K (n+1)):=by
 refine T.dt.F.oA mS (fun vs H Q E h=>?_) (fun gP A outer s H vs Q E hr h=>?_)
 ·obtain⟨_,_,_,_,rfl,_⟩:=h;rfl
 obtain⟨v,d,H0,O,rfl,s0,hv,dk,tZ,q⟩:=h;have nd:=mS.nd;have line:YM=2 ^ 24:=rfl;refine⟨_,[some v],(aj (ck (jX (bF mB rfl T.cv PyProof.Rows.Boot.«isinstance» (b8 0 (ae (gG (v:=.ty "list") rfl T.jM PyProof.Rows.Boot.«list» rfl) ag aR))))
 (ay (aT (fH (own:=["part"]) (ix:=[]) rfl (by rfl) (by rfl) (ba (pv 0)) (fun _ _ _ _=>(br (i:=0) (by show List.Nodup (["part"]:List Str);decide +kernel) rfl (ZE rfl))) (fun _ _ _ _=>cu) (fun _ _ _ _=>(gR i4 T.dt hr (b8 0 ag))))))
 aU)
 (aj (ck (jX (bF D7 rfl T.cv PyProof.Rows.Boot.«isinstance» (b8 0 (ae (gG (v:=.ty "tuple") rfl T.jV PyProof.Rows.Boot.«tuple» rfl) ag aR))))
 (ay (aT (eG nY rfl T.jV PyProof.Rows.Boot.«tuple» (ae (fH (own:=["part"]) (ix:=[]) rfl (by rfl) (by rfl) (vO (pv 0)) (fun _ _ _ _=>(br (i:=0) (by show List.Nodup (["part"]:List Str);decide +kernel) rfl (ZE rfl))) (fun _ _ _ _=>cu) (fun _ _ _ _=>(gR i4 T.dt hr (b8 0 ag)))) ag kJ))))
 aU)
 (ay (aT (pv 0))))),rfl,?_⟩
 refine aq fun U1 gy=>?_;refine cV fun X1 x5=>?_;walk_at "rd";have rg:((∃z,v=.str z)\/∃i,v=.int i)->(∀H',Fix K O H' d v)->Mh K [v,V.ty "list"] H fun x H1=>∃c,x=V.bl c/\if c=true then X1 [some v] H1 else U1 [some v] H1:=fun hs f=>by
  have fin:U1 [some v] H:=by
   refine(gy _ _).mpr (aq fun U2 jz=>?_);refine cV fun X2 EM=>?_;walk_at "rd";have r:U2 [some v] H:=by
    refine(jz _ _).mpr ?_;walk_at "rd";exact q v H (.refl _) (f H)
   exact⟨v,rfl,hs.elim (fun z=>.inl ⟨z,_,rfl,(if_neg Zo).mpr r⟩) fun z=>.inr (.inl ⟨z,_,rfl,(if_neg Zo).mpr r⟩)⟩
  exact⟨v,rfl,hs.elim (fun z=>.inl ⟨z,_,rfl,(if_neg Zo).mpr fin⟩) fun z=>.inr (.inl ⟨z,_,rfl,(if_neg Zo).mpr fin⟩)⟩
 cases d with
 |str z=>exact rg (.inl ⟨z,Rep.au.mp hv⟩) fun H'=>by rw[Rep.au.mp hv];exact Fix.str
 |int z=>exact rg (.inr ⟨z,Rep.aB.mp hv⟩) fun H'=>by rw[Rep.aB.mp hv];exact Fix.int
 |f9=>exact dk.elim
 |bl b=>exact dk.elim
 |lst ds=>
  clear rg;obtain⟨a,xs,rfl,hS,rs⟩:=Rep.bT.mp hv;obtain⟨l2,dk⟩:=dk;have lx:xs.length=ds.length:=rs.length;refine⟨_,rfl,.inr (.inr (.inr ⟨⟨a,xs,rfl,s0.seq hS⟩,_,rfl,(if_pos rfl).mpr ((x5 _ _).mpr ?_)⟩))⟩;walk_at "rd";simp only[ft];walk_at "rd";refine⟨⟨_,s0.seq hS⟩,fun D hD=>?_⟩;show eX (qe K a) D (bV 0) iO _ _ [none] _;refine BG (K:=K) (r:=[]) (O:=fun g=>g=D\/O g) (ds:=ds) (.inl rfl) (fun g hg=>hg.imp id fun z=>(tZ g z).2) (s0.seq hS) lx (by lia) hD (fun i x d H2 hd hx s2 F2 R hR=>?_) fun ys H2 s2 yD fD=>?_
  ·obtain⟨x',xD,rx⟩:=rs.get hd;rw[hx] at xD;cases xD;walk_at "rd";exact⟨x,d,H0,fun g=>g=D\/O g,rfl,s0.trans s2,rx,dk d (Z4 hd),fun g hg=>⟨hg.elim (fun z=>by rw[z];exact s0.free hD) fun z=>(tZ g z).1,F2 g hg⟩,hR⟩
  ·refine q _ _ s2 ?_;refine Fix.lst yD (fun z=>?_) (fD.sub fun g hg=>.inr hg);obtain⟨_,zs,e⟩:=tZ _ z;rw[hD] at e;cases e
 |tup ds=>
  clear rg;obtain⟨a,xs,rfl,hS,rs⟩:=Rep.az.mp hv;obtain⟨l2,dk⟩:=dk;have lx:xs.length=ds.length:=rs.length;refine⟨_,rfl,.inr (.inr (.inl ⟨⟨a,xs,rfl,s0.a7 hS⟩,_,rfl,(if_neg Zo).mpr ((gy _ _).mpr (aq fun U2 jz=>?_))⟩))⟩;refine cV fun X2 EM=>?_;walk_at "rd";refine⟨_,rfl,.inr (.inr (.inl ⟨⟨a,xs,rfl,s0.a7 hS⟩,_,rfl,(if_pos rfl).mpr ((EM _ _).mpr ?_)⟩))⟩;walk_at "rd";simp only[ft];walk_at "rd";refine⟨a,rfl,⟨_,s0.a7 hS⟩,fun D hD=>?_⟩;show eX (Cf K a) D (bV 0) iO _ _ [none] _;refine BH (K:=K) (r:=[]) (O:=fun g=>g=D\/O g) (ds:=ds) (.inl rfl) (fun g hg=>hg.imp id fun z=>(tZ g z).2) (s0.a7 hS) lx (by lia) hD (fun i x d H2 hd hx s2 F2 R hR=>?_) fun ys H2 s2 yD fD=>?_
  ·obtain⟨x',xD,rx⟩:=rs.get hd;rw[hx] at xD;cases xD;walk_at "rd";exact⟨x,d,H0,fun g=>g=D\/O g,rfl,s0.trans s2,rx,dk d (Z4 hd),fun g hg=>⟨hg.elim (fun z=>by rw[z];exact s0.free hD) fun z=>(tZ g z).1,F2 g hg⟩,hR⟩
  ·refine⟨D,ys,rfl,.inl ⟨.of yD,fun l hl=>q _ _ (s2.trans (ai.new hl _)) ?_⟩⟩;refine Fix.tup af (fun z=>?_) ((fD.sub fun g hg=>.inr hg).up (.of (ai.new hl _)));obtain⟨_,zs,e⟩:=tZ _ z;rw[s2 _ _ e] at hl;cases hl
theorem tQ(T:Tx K mg t):∀n,bP P w K mg base gA (n+1) t.eA t.eU ["thing"] (wx K n)
 |0=>by
  have no:∀vs H Q E,¬wx K 0 vs H Q E:=fun vs H Q E ⟨_,d,_,_,_,_,_,h,_⟩=>by cases d<;>exact h.elim
  exact⟨fun vs H Q E h=>absurd h (no vs H Q E),fun A outer s H args us vs Q E _ _ _ _ h=>absurd h (no vs H Q E)⟩
 |n+1=>BV T (tQ T n)
theorem ED(T:Tx K mg t){n:Nat}(ik:bP P w K mg base gA (n+1) t.fj t.fC ["thing"] (rS K n)) :
 bP P w K mg base gA (n+2) t.fj t.fC ["thing"] (rS K (n+1)):=by
 refine T.cX.F.oA oj (fun vs H Q E h=>?_) (fun gP A outer s H vs Q E hr h=>?_)
 ·obtain⟨_,_,rfl,_⟩:=h;rfl
 obtain⟨v,F,rfl,hv,lF,q⟩:=h;have nd:=oj.nd;have line:YM=2 ^ 24:=rfl;rcases hv with ⟨hs,rfl⟩ |⟨a,xs,Fs,rfl,hS,l2,lf,hh,rfl⟩ |⟨a,xs,Fs,rfl,hS,l2,lf,hh,rfl⟩
 ·refine⟨_,[some v,none,none],(aj (nz 1 nd (aQ ag))
 (aj (ck (jX (bF mB rfl T.cv PyProof.Rows.Boot.«isinstance» (b8 0 (ae (gG (v:=.ty "list") rfl T.jM PyProof.Rows.Boot.«list» rfl) ag aR))))
 (ay (cp (fL Zs Zx Zy bN (pv 1) (b8 0 ag))))
 aU)
 (aj (ck (jX (bF qC rfl T.cv PyProof.Rows.Boot.«isinstance» (b8 0 (ae (bR (ae (gG (v:=.ty "list") rfl T.jM PyProof.Rows.Boot.«list» rfl) (ae (gG (v:=.ty "tuple") rfl T.jV PyProof.Rows.Boot.«tuple» rfl) ag aR) aR)) ag l7))))
 (ay (dQ PassesOwn.never rfl (ba (pv 0)) (DC 2 nd)
 (ay (nz 1 nd (aG fe (pv 1) (gR ik T.cX hr (b8 2 ag)))))))
 aU)
 (ay (aT (pv 1)))))),rfl,?_⟩
  have SQ:∀ {H1:Hp} {no tu li:Prop},no->Mg K H1 v no tu li:=fun h=>hs.elim (fun z=>.inl ⟨z,h⟩) fun z=>.inr (.inl ⟨z,h⟩);refine aq fun U1 gy=>?_;walk_at "rd";intro L hL;refine(gy _ _).mpr (aq fun U2 jz=>?_);refine cV fun X1 x5=>?_;walk_at "rd";refine⟨_,rfl,SQ ⟨_,rfl,(if_neg Zo).mpr ((jz _ _).mpr (aq fun U3 kE=>?_))⟩⟩;refine cV fun X2 EM=>?_;walk_at "rd";intro p hp;refine⟨_,p,rfl,.of af,SQ ⟨_,rfl,(if_neg Zo).mpr ((kE _ _).mpr ?_)⟩⟩;walk_at "rd";exact q L _ ((ai.new hL _).trans (ai.new hp _)) hL (ai.new hp _ _ _ af)
 ·refine⟨_,[some (.ref a),none,none],(aj (nz 1 nd (aQ ag))
 (aj (ck (jX (bF mB rfl T.cv PyProof.Rows.Boot.«isinstance» (b8 0 (ae (gG (v:=.ty "list") rfl T.jM PyProof.Rows.Boot.«list» rfl) ag aR))))
 (ay (cp (fL Zs Zx Zy bN (pv 1) (b8 0 ag))))
 aU)
 (aj (ck (jX (bF qC rfl T.cv PyProof.Rows.Boot.«isinstance» (b8 0 (ae (bR (ae (gG (v:=.ty "list") rfl T.jM PyProof.Rows.Boot.«list» rfl) (ae (gG (v:=.ty "tuple") rfl T.jV PyProof.Rows.Boot.«tuple» rfl) ag aR) aR)) ag l7))))
 (ay (dQ PassesOwn.never rfl (vO (pv 0)) (DC 2 nd)
 (ay (nz 1 nd (aG fe (pv 1) (gR ik T.cX hr (b8 2 ag)))))))
 aU)
 (ay (aT (pv 1)))))),rfl,?_⟩
  refine aq fun U1 gy=>?_;walk_at "rd";intro L hL;refine(gy _ _).mpr (aq fun U2 jz=>?_);have s1:=ai.new hL (.lst []);have y1:(upd H L (.lst [])) L=_:=af;generalize upd H L (.lst [])=H1 at *;refine cV fun X1 x5=>?_;walk_at "rd";refine⟨_,rfl,.inr (.inr (.inl ⟨⟨a,xs,rfl,s1.a7 hS⟩,_,rfl,(if_neg Zo).mpr ((jz _ _).mpr (aq fun U3 kE=>?_))⟩))⟩;refine cV fun X2 EM=>?_;walk_at "rd";intro p hp;have s2:=s1.trans (ai.new hp (.tup [V.ty "list",V.ty "tuple"]));have y2:=ai.new hp (.tup [V.ty "list",V.ty "tuple"]) _ _ y1;refine⟨_,p,rfl,.of af,.inr (.inr (.inl ⟨⟨a,xs,rfl,s2.a7 hS⟩,_,rfl,(if_pos rfl).mpr ((EM _ _).mpr ?_)⟩))⟩;generalize upd H1 p (.tup [V.ty "list",V.ty "tuple"])=H2 at *;refine sM fun U hU=>?_;walk_at "rd";refine⟨⟨_,s2.a7 hS⟩,hU _ _ ?_⟩;clear hU;refine vP (K:=K) (a:=a) (xs:=xs) (fun i σ Hx=>∃z2 Lx,σ=[some (.ref a),some (.ref Lx),z2]/\ai H Hx/\H Lx=none/\Hx Lx=some (.lst (((Fs.take i).flatten).map V.ref))) ⟨none,L,rfl,s2,hL,y2⟩ ?_ ?_ ?_
  ·intro i σ Hx _ hw;obtain⟨_,_,_,sx,_⟩:=hw;exact sx.a7 hS
  ·intro i x σ Hx hx hw;obtain⟨z2,Lx,rfl,sx,nL,yx⟩:=hw;have li:i<Fs.length:=by have:=(Zi.mp hx).1;lia
   have b1:=AJ Fs (i+1);have ef:(Fs.take (i+1)).flatten=(Fs.take i).flatten++Fs[i]:=by rw[ZV,Zd li,ZC];simp
   rw[ef,Zc] at b1;simp only[bV,Xi];walk_at "rd";refine⟨x,Fs[i],rfl,(hh i x Fs[i] hx (Zd li)).mono sx,by lia,fun L1 H3 s3 AS ou=>⟨Lx,L1,_,_,rfl,rfl,s3 _ _ yx,ou,by simp only[Zb];lia,fun p3 tM=>⟨_,p3,rfl,(sx.trans s3).trans (ai.new tM _),(sx.trans s3).free tM,?_⟩⟩⟩;rw[af,ef,Zl]
  ·intro σ Hx hw;obtain⟨z2,Lx,rfl,sx,nL,yx⟩:=hw;refine(kE _ _).mpr ?_;walk_at "rd";rw[<- lf,Zw] at yx;exact q Lx Hx sx nL yx
 ·refine⟨_,[some (.ref a),none,none],(aj (nz 1 nd (aQ ag))
 (aj (ck (jX (bF mB rfl T.cv PyProof.Rows.Boot.«isinstance» (b8 0 (ae (gG (v:=.ty "list") rfl T.jM PyProof.Rows.Boot.«list» rfl) ag aR))))
 (ay (cp (fL Zs Zx Zy bN (pv 1) (b8 0 ag))))
 aU)
 (aj (ck (jX (bF qC rfl T.cv PyProof.Rows.Boot.«isinstance» (b8 0 (ae (bR (ae (gG (v:=.ty "list") rfl T.jM PyProof.Rows.Boot.«list» rfl) (ae (gG (v:=.ty "tuple") rfl T.jV PyProof.Rows.Boot.«tuple» rfl) ag aR) aR)) ag l7))))
 (ay (dQ PassesOwn.never rfl (ba (pv 0)) (DC 2 nd)
 (ay (nz 1 nd (aG fe (pv 1) (gR ik T.cX hr (b8 2 ag)))))))
 aU)
 (ay (aT (pv 1)))))),rfl,?_⟩
  refine aq fun U1 gy=>?_;walk_at "rd";intro L hL;refine(gy _ _).mpr (aq fun U2 jz=>?_);have s1:=ai.new hL (.lst []);have y1:(upd H L (.lst [])) L=_:=af;have PY:a≠L:=ao hS hL;generalize upd H L (.lst [])=H1 at *;refine cV fun X1 x5=>?_;walk_at "rd";refine⟨_,rfl,.inr (.inr (.inr ⟨⟨a,xs,rfl,.of (s1 _ _ hS)⟩,_,rfl,(if_pos rfl).mpr ((x5 _ _).mpr ?_)⟩))⟩;walk_at "rd";refine⟨.inl ⟨rfl,_,.of y1⟩,L,[],.ref a,rfl,rfl,y1,by simp only[ZJ];lia,(jz _ _).mpr (aq fun U3 kE=>?_)⟩;have sa:ai H (upd H1 L (.lst ([]++[V.ref a]))):=((bw.of s1).put _).same hL;have ya:(upd H1 L (.lst ([]++[V.ref a]))) L=_:=af;generalize upd H1 L (.lst ([]++[V.ref a]))=Ha at *;refine cV fun X2 EM=>?_;walk_at "rd";intro p hp;have s2:=sa.trans (ai.new hp (.tup [V.ty "list",V.ty "tuple"]));have y2:=ai.new hp (.tup [V.ty "list",V.ty "tuple"]) _ _ ya;refine⟨_,p,rfl,.of af,.inr (.inr (.inr ⟨⟨a,xs,rfl,.of (s2 _ _ hS)⟩,_,rfl,(if_pos rfl).mpr ((EM _ _).mpr ?_)⟩))⟩;generalize upd Ha p (.tup [V.ty "list",V.ty "tuple"])=H2 at *;refine eJ fun U hU=>?_;walk_at "rd";refine⟨⟨_,.of (s2 _ _ hS)⟩,hU _ _ ?_⟩;clear hU;rw[Ze] at lF;refine eE (K:=K) (a:=a) (xs:=xs) (fun i σ Hx=>∃z2 Lx,σ=[some (.ref a),some (.ref Lx),z2]/\ai H Hx/\H Lx=none/\Hx Lx=some (.lst ((a::(Fs.take i).flatten).map V.ref))) ⟨none,L,rfl,s2,hL,y2⟩ ?_ ?_ ?_
  ·intro i σ Hx _ hw;obtain⟨_,_,_,sx,_⟩:=hw;exact .of (sx _ _ hS)
  ·intro i x σ Hx hx hw;obtain⟨z2,Lx,rfl,sx,nL,yx⟩:=hw;have li:i<Fs.length:=by have:=(Zi.mp hx).1;lia
   have b1:=AJ Fs (i+1);have ef:(Fs.take (i+1)).flatten=(Fs.take i).flatten++Fs[i]:=by rw[ZV,Zd li,ZC];simp
   rw[ef,Zc] at b1;simp only[bV,Xi];walk_at "rd";refine⟨x,Fs[i],rfl,(hh i x Fs[i] hx (Zd li)).mono sx,by lia,fun L1 H3 s3 AS ou=>⟨Lx,L1,_,_,rfl,rfl,s3 _ _ yx,ou,by simp only[Zb,Ze];lia,fun p3 tM=>⟨_,p3,rfl,(sx.trans s3).trans (ai.new tM _),(sx.trans s3).free tM,?_⟩⟩⟩;rw[af,ef,<- Xg,Zl]
  ·intro σ Hx hw;obtain⟨z2,Lx,rfl,sx,nL,yx⟩:=hw;refine(kE _ _).mpr ?_;walk_at "rd";rw[<- lf,Zw] at yx;exact q Lx Hx sx nL yx
theorem vK(T:Tx K mg t):∀n,bP P w K mg base gA (n+1) t.fj t.fC ["thing"] (rS K n)
 |0=>by
  have no:∀vs H Q E,¬rS K 0 vs H Q E:=fun vs H Q E ⟨_,_,_,h,_⟩=>h.elim;exact⟨fun vs H Q E h=>absurd h (no vs H Q E),fun A outer s H args us vs Q E _ _ _ _ h=>absurd h (no vs H Q E)⟩
 |n+1=>ED T (vK T n)
theorem tR{K:Za}{H:Hp}:∀ {ps:List PG.Prog} {us:List V} {Fs:List (List YE)},bB (DQ K H) ps us Fs->(∀p∈ps,FW p)->aw K H (ps.map fF) us/\us.length=ps.length/\Fs.length=us.length/\∀(i:Nat) x G,us[i]?=some x->Fs[i]?=some G->AI K H 14 x G/\G.length<=50
 |[],us,Fs,h,_=>by obtain⟨rfl,rfl⟩:=bB.aD.mp h;exact⟨.nil,rfl,rfl,fun i x G h=>by simp at h⟩
 |p::ps,us,Fs,h,hw=>by
  obtain⟨v,vs,F,Gs,rfl,rfl,h1,h2⟩:=bB.ar.mp h;have w:=hw p (Zt ..);have fw:=w.n8;obtain⟨a1,a2,a3⟩:=Mp h1 w.ok (by lia) (by have:=w.bx;lia);obtain⟨b1,b2,b3,b4⟩:=tR h2 fun q hq=>hw q (Zk _ hq);refine⟨.cons a3 b1,by rw[Ze,Ze,b2],by rw[Ze,Ze,b3],fun i x G hx hG=>?_⟩;cases i with
  |zero=>cases hx;cases hG;exact⟨a1,by lia⟩
  |succ i=>exact b4 i x G hx hG
theorem JD(T:Tx K mg t)(CD:Cd P w K t):bP P w K mg base gA 30 t.AM t.qF ["script"] (Aa K):=by
 have wN:=ur (P:=P) (w:=w) (base:=base) T;have yh:=wI (P:=P) (w:=w) (base:=base) T;have j9:=yg (P:=P) (w:=w) (base:=base) T 4;have i4:=tQ (P:=P) (w:=w) (base:=base) T 14;have ik:=vK (P:=P) (w:=w) (base:=base) T 15;have vL:=zw (base:=base) T CD;refine T.AN.F.oA Ei (fun vs H Q E h=>?_) (fun gP A outer s H vs Q E hr h=>?_)
 ·obtain⟨_,_,rfl,_⟩:=h;rfl
 obtain⟨a,ns,rfl,hS,Mv,q⟩:=h;have nd:=Ei.nd;have hu:=jC hr;refine⟨_,[some (V.ref a),none,none,none,none,none,none,none],(@aj _ _ _ _ _ (@gv _ _ 1 _ _ _ _ nd rfl (XT rfl) (@eD _ _ _ _ _ _ _ _ _ _ _ _ _ _ _ _ wN (hr.mono (by first|decide|omega)) rfl T.gm.m T.gm.F.kp T.gm.b .nil jm (@ae _ _ _ _ _ (@eD _ _ _ _ _ _ _ _ _ _ _ _ _ _ _ _ yh (hr.mono (by first|decide|omega)) rfl T.gW.m T.gW.F.kp T.gW.b .nil jm (@ae _ _ _ _ _ (pv 0) (@ag _) (@aR _ _ _ _)) (by first |rfl |exact .inl rfl |exact .inr rfl |decide |(intro _;rfl) |assumption) (by first |rfl |exact .inl rfl |exact .inr rfl |decide |(intro _;rfl) |assumption) (by first |rfl |exact .inl rfl |exact .inr rfl |decide |(intro _;rfl) |assumption)) (@ae _ _ _ _ _ (@ah _ _ _ _) (@ag _) (@aK _ _ _ _ _)) (@b7 _ _ _ _ _ _)) (by first |rfl |exact .inl rfl |exact .inr rfl |decide |(intro _;rfl) |assumption) (by first |rfl |exact .inl rfl |exact .inr rfl |decide |(intro _;rfl) |assumption) (by first |rfl |exact .inl rfl |exact .inr rfl |decide |(intro _;rfl) |assumption)) (by first |rfl |exact .inl rfl |exact .inr rfl |decide |(intro _;rfl) |assumption) (by first |rfl |exact .inl rfl |exact .inr rfl |decide |(intro _;rfl) |assumption)) (@aj _ _ _ _ _ (@jt _ _ _ _ _ _ _ ["body"] [1] _ _ _ _ 2 _ _ _ nd rfl (ZE rfl) rfl (by rfl) (by rfl) (@ba _ _ _ _ (@eD _ _ _ _ _ _ _ _ _ _ _ _ _ _ _ _ j9 (hr.mono (by first|decide|omega)) rfl T.cJ.m T.cJ.F.kp T.cJ.b .nil jm (@ae _ _ _ _ _ (@aH _ _ _ _ _ _ _ (@aZ _) (pv 1) (@ah _ _ _ _) (@ax _ _ _)) (@ag _) (@a8 _ _ _ _ _)) (by first |rfl |exact .inl rfl |exact .inr rfl |decide |(intro _;rfl) |assumption) (by first |rfl |exact .inl rfl |exact .inr rfl |decide |(intro _;rfl) |assumption) (by first |rfl |exact .inl rfl |exact .inr rfl |decide |(intro _;rfl) |assumption))) (fun _ _ _ _=>(@br _ _ 0 _ (by show List.Nodup (["body", "program"]:List Str);decide +kernel) rfl (ZE rfl) (by first |rfl |exact .inl rfl |exact .inr rfl |decide |(intro _;rfl) |assumption))) (fun _ _ _ _=>(@cu _)) (fun _ _ _ _=>(@bR _ _ _ _ _ (@ae _ _ _ _ _ (@aH _ _ _ _ _ _ _ (@gJ _ K rfl) (pv 1) (@ah _ _ _ _) (@ax _ _ _)) (@ae _ _ _ _ _ (pv 0) (@ag _) (@aR _ _ _ _)) (@a8 _ _ _ _ _)))) (by first |rfl |exact .inl rfl |exact .inr rfl |decide |(intro _;rfl) |assumption) (by first |rfl |exact .inl rfl |exact .inr rfl |decide |(intro _;rfl) |assumption) (by first |rfl |exact .inl rfl |exact .inr rfl |decide |(intro _;rfl) |assumption)) (@aj _ _ _ _ _ (@gv _ _ 3 _ _ _ _ nd rfl (ZE rfl) (@eD _ _ _ _ _ _ _ _ _ _ _ _ _ _ _ _ i4 (hr.mono (by first|decide|omega)) rfl T.dt.m T.dt.F.kp T.dt.b .nil jm (@ae _ _ _ _ _ (pv 1) (@ag _) (@aR _ _ _ _)) (by first |rfl |exact .inl rfl |exact .inr rfl |decide |(intro _;rfl) |assumption) (by first |rfl |exact .inl rfl |exact .inr rfl |decide |(intro _;rfl) |assumption) (by first |rfl |exact .inl rfl |exact .inr rfl |decide |(intro _;rfl) |assumption)) (by first |rfl |exact .inl rfl |exact .inr rfl |decide |(intro _;rfl) |assumption) (by first |rfl |exact .inl rfl |exact .inr rfl |decide |(intro _;rfl) |assumption)) (@aj _ _ _ _ _ (@gv _ _ 4 _ _ _ _ nd rfl (ZE rfl) (@eD _ _ _ _ _ _ _ _ _ _ _ _ _ _ _ _ vL (hr.mono (by first|decide|omega)) rfl T.gi.m T.gi.F.kp T.gi.b .nil jm (@ae _ _ _ _ _ (pv 3) (@ag _) (@aR _ _ _ _)) (by first |rfl |exact .inl rfl |exact .inr rfl |decide |(intro _;rfl) |assumption) (by first |rfl |exact .inl rfl |exact .inr rfl |decide |(intro _;rfl) |assumption) (by first |rfl |exact .inl rfl |exact .inr rfl |decide |(intro _;rfl) |assumption)) (by first |rfl |exact .inl rfl |exact .inr rfl |decide |(intro _;rfl) |assumption) (by first |rfl |exact .inl rfl |exact .inr rfl |decide |(intro _;rfl) |assumption)) (@aj _ _ _ _ _ (@ck _ _ _ _ _ _ _ _ (@PW.pt _ _ _ (@pw_or _ _ _ _ _ _ _ (@HK _ _ _ _ (@jX _ _ _ (@bF _ _ _ _ _ _ _ _ _ mB rfl T.cv PyProof.Rows.Boot.«isinstance» (@ae _ _ _ _ _ (pv 4) (@ae _ _ _ _ _ (gG (v:=.ty "list") rfl T.jM PyProof.Rows.Boot.«list» rfl) (@ag _) (@aR _ _ _ _)) (@aR _ _ _ _)) (by first |rfl |exact .inl rfl |exact .inr rfl |decide |(intro _;rfl) |assumption) (by first |rfl |exact .inl rfl |exact .inr rfl |decide |(intro _;rfl) |assumption) (by first |rfl |exact .inl rfl |exact .inr rfl |decide |(intro _;rfl) |assumption) (by first |rfl |exact .inl rfl |exact .inr rfl |decide |(intro _;rfl) |assumption)) (by first |rfl |exact .inl rfl |exact .inr rfl |decide |(intro _;rfl) |assumption))) (@pw_or _ _ _ _ _ _ _ (@aY _ _ _ _ _ _ _ _ (@yR _ (C8 hr)) (pv 4) (pv 2) (bu _)) (@pw_or1 _ _ _ _ (@aY _ _ _ _ _ _ _ _ (@yR _ (C8 hr)) (pv 3) (pv 1) (bu _)))))) (@ay _ _ _ (@aT _ _ _ _ (@B7 _ _ _ _))) (@aU _)) (@aj _ _ _ _ _ (@gv _ _ 5 _ _ _ _ nd rfl (ZE rfl) (@eD _ _ _ _ _ _ _ _ _ _ _ _ _ _ _ _ ik (hr.mono (by first|decide|omega)) rfl T.cX.m T.cX.F.kp T.cX.b .nil jm (@ae _ _ _ _ _ (@aG _ _ _ _ _ _ _ _ (@fe _) (@bJ _ _ _ _ _ _ _ _ _ _ (@gH _) (pv 4) (@cq _) (@b6 _ _ _ (@ah _ _ _ _))) (@bJ _ _ _ _ _ _ _ _ _ _ (@gH _) (@bJ _ _ _ _ _ _ _ _ _ _ (@gH _) (pv 4) (@b6 _ _ _ (@Kw _ _ _ _ _ _ HW (@ah _ _ _ _))) (@cq _)) (@b6 _ _ _ (@aG _ _ _ _ _ _ _ _ (@jh _) (@eG _ _ _ _ _ _ _ _ _ (@eY _) rfl T.om PyProof.Rows.Boot.«int» (@ae _ _ _ _ _ (@gY _ _ _ _ _ _ _ _ (@qJ _) (@bF _ _ _ _ _ _ _ _ _ (@bK _) rfl T.jd PyProof.Rows.Boot.«len» (@ae _ _ _ _ _ (pv 4) (@ag _) (@aR _ _ _ _)) (by first |rfl |exact .inl rfl |exact .inr rfl |decide |(intro _;rfl) |assumption) (by first |rfl |exact .inl rfl |exact .inr rfl |decide |(intro _;rfl) |assumption) (by first |rfl |exact .inl rfl |exact .inr rfl |decide |(intro _;rfl) |assumption) (by first |rfl |exact .inl rfl |exact .inr rfl |decide |(intro _;rfl) |assumption)) (@ah _ _ _ _) (bu _)) (@ag _) (@l8 _ _ _ _ _ _)) (by first |rfl |exact .inl rfl |exact .inr rfl |decide |(intro _;rfl) |assumption) (by first |rfl |exact .inl rfl |exact .inr rfl |decide |(intro _;rfl) |assumption) (by first |rfl |exact .inl rfl |exact .inr rfl |decide |(intro _;rfl) |assumption) (by first |rfl |exact .inl rfl |exact .inr rfl |decide |(intro _;rfl) |assumption)) (@ah _ _ _ _))) (@cq _))) (@ag _) (@eI _ _ _ _ _ _)) (by first |rfl |exact .inl rfl |exact .inr rfl |decide |(intro _;rfl) |assumption) (by first |rfl |exact .inl rfl |exact .inr rfl |decide |(intro _;rfl) |assumption) (by first |rfl |exact .inl rfl |exact .inr rfl |decide |(intro _;rfl) |assumption)) (by first |rfl |exact .inl rfl |exact .inr rfl |decide |(intro _;rfl) |assumption) (by first |rfl |exact .inl rfl |exact .inr rfl |decide |(intro _;rfl) |assumption)) (@aj _ _ _ _ _ (@jt _ _ _ _ _ _ _ ["some"] [] _ _ _ _ 6 _ _ _ nd rfl (ZE rfl) rfl (by rfl) (by rfl) (@ba _ _ _ _ (pv 5)) (fun _ _ _ _=>(@br _ _ 0 _ (by show List.Nodup (["some"]:List Str);decide +kernel) rfl (ZE rfl) (by first |rfl |exact .inl rfl |exact .inr rfl |decide |(intro _;rfl) |assumption))) (fun _ _ _ _=>(@cu _)) (fun _ _ _ _=>(@bF _ _ _ _ _ _ _ _ _ (n9 (K:=K) rfl) rfl T.jd PyProof.Rows.Boot.«len» (@ae _ _ _ _ _ (pv 0) (@ag _) (@aR _ _ _ _)) (by first |rfl |exact .inl rfl |exact .inr rfl |decide |(intro _;rfl) |assumption) (by first |rfl |exact .inl rfl |exact .inr rfl |decide |(intro _;rfl) |assumption) (by first |rfl |exact .inl rfl |exact .inr rfl |decide |(intro _;rfl) |assumption) (by first |rfl |exact .inl rfl |exact .inr rfl |decide |(intro _;rfl) |assumption))) (by first |rfl |exact .inl rfl |exact .inr rfl |decide |(intro _;rfl) |assumption) (by first |rfl |exact .inl rfl |exact .inr rfl |decide |(intro _;rfl) |assumption) (by first |rfl |exact .inl rfl |exact .inr rfl |decide |(intro _;rfl) |assumption)) (@aj _ _ _ _ _ (@dQ _ _ _ _ _ _ _ _ PassesOwn.never rfl (@ba _ _ _ _ (pv 5)) (@br _ _ 7 _ nd rfl (ZE rfl) (by first |rfl |exact .inl rfl |exact .inr rfl |decide |(intro _;rfl) |assumption)) (@ay _ _ _ (@cp _ _ _ _ (@fL _ _ _ _ _ _ _ _ _ _ _ _ Zs Zx Zy bN (pv 7) (@ae _ _ _ _ _ (@ah _ _ _ _) (@ag _) (@aK _ _ _ _ _)) (by first |rfl |exact .inl rfl |exact .inr rfl |decide |(intro _;rfl) |assumption) (by first |rfl |exact .inl rfl |exact .inr rfl |decide |(intro _;rfl) |assumption) (by first |rfl |exact .inl rfl |exact .inr rfl |decide |(intro _;rfl) |assumption) (by first |rfl |exact .inl rfl |exact .inr rfl |decide |(intro _;rfl) |assumption) (by first |rfl |exact .inl rfl |exact .inr rfl |decide |(intro _;rfl) |assumption)) (by first |rfl |exact .inl rfl |exact .inr rfl |decide |(intro _;rfl) |assumption))) (by first |rfl |exact .inl rfl |exact .inr rfl |decide |(intro _;rfl) |assumption)) (@aj _ _ _ _ _ (@ck _ _ _ _ _ _ _ _ (@aY _ _ _ _ _ _ _ _ (@yR _ (C8 hr)) (@fH _ _ _ _ _ _ _ ["some"] [] _ _ _ _ rfl (by rfl) (by rfl) (@ba _ _ _ _ (pv 5)) (fun _ _ _ _=>(@br _ _ 0 _ (by show List.Nodup (["some"]:List Str);decide +kernel) rfl (ZE rfl) (by first |rfl |exact .inl rfl |exact .inr rfl |decide |(intro _;rfl) |assumption))) (fun _ _ _ _=>(@cu _)) (fun _ _ _ _=>(@bF _ _ _ _ _ _ _ _ _ (n9 (K:=K) rfl) rfl T.jd PyProof.Rows.Boot.«len» (@ae _ _ _ _ _ (pv 0) (@ag _) (@aR _ _ _ _)) (by first |rfl |exact .inl rfl |exact .inr rfl |decide |(intro _;rfl) |assumption) (by first |rfl |exact .inl rfl |exact .inr rfl |decide |(intro _;rfl) |assumption) (by first |rfl |exact .inl rfl |exact .inr rfl |decide |(intro _;rfl) |assumption) (by first |rfl |exact .inl rfl |exact .inr rfl |decide |(intro _;rfl) |assumption))) (by first |rfl |exact .inl rfl |exact .inr rfl |decide |(intro _;rfl) |assumption)) (@fH _ _ _ _ _ _ _ ["size"] [] _ _ _ _ rfl (by rfl) (by rfl) (@ba _ _ _ _ (pv 6)) (fun _ _ _ _=>(@br _ _ 0 _ (by show List.Nodup (["size"]:List Str);decide +kernel) rfl (ZE rfl) (by first |rfl |exact .inl rfl |exact .inr rfl |decide |(intro _;rfl) |assumption))) (fun _ _ _ _=>(@cu _)) (fun _ _ _ _=>(@aG _ _ _ _ _ _ _ _ (@cT _) (pv 0) (@ah _ _ _ _))) (by first |rfl |exact .inl rfl |exact .inr rfl |decide |(intro _;rfl) |assumption)) (bu _)) (@ay _ _ _ (@aT _ _ _ _ (@B7 _ _ _ _))) (@aU _)) (@ay _ _ _ (@aT _ _ _ _ (HM (@gY _ _ _ _ _ _ _ _ (C7 (C8 hr)) (pv 3) (pv 1) (bu _)) (HL (@gY _ _ _ _ _ _ _ _ (C7 (C8 hr)) (@eD _ _ _ _ _ _ _ _ _ _ _ _ _ _ _ _ vL (hr.mono (by first|decide|omega)) rfl T.gi.m T.gi.F.kp T.gi.b .nil jm (@ae _ _ _ _ _ (pv 3) (@ag _) (@aR _ _ _ _)) (by first |rfl |exact .inl rfl |exact .inr rfl |decide |(intro _;rfl) |assumption) (by first |rfl |exact .inl rfl |exact .inr rfl |decide |(intro _;rfl) |assumption) (by first |rfl |exact .inl rfl |exact .inr rfl |decide |(intro _;rfl) |assumption)) (pv 2) (bu _))))))))))))))),rfl,?_⟩;have line:YM=2 ^ 24:=rfl;refine aq fun U1 gy=>?_;walk_at "rd";refine⟨a,ns,rfl,hS,Mv,fun D C G H1 s1 nD nC rC=>⟨D,C,G,_,24,rfl,rC,by decide,by show (0:Int)<=_;decide,fun pr d2 v H2 ep c2 oq SR=>(gy _ _).mpr (aq fun U2 jz=>?_)⟩⟩;clear gy;have wm:PG.DM 24 pr:=by have:=PG.BC (most:=24) (by decide) (PG.oF ns);rw[ep] at this;exact this
 have nm:∀x∈pr.aS.map (·.name),x∈PG.cG:=by have:=PG.wF (most:=24) (PG.oF ns);rw[ep] at this;exact this
 obtain⟨pc,pw⟩:=Pm wm nm;have SS:Rep K H2 (fF pr) v:=(SR (fun _=>False) fun _ h=>h.elim).rep;clear c2 oq SR s1 nD nC rC wm nm;have rp:=SS;unfold fF at rp;rw[Rep.az] at rp;simp only[aw.ar,aw.aD] at rp;obtain⟨p,xs,rfl,hP,vB,_,rfl,rB,vb,_,rfl,rb,rfl⟩:=rp;have fw:=pw.n8;have lw:=kA pr.body pc.st;walk_at "rd";simp only[ft];walk_at "rd";refine aN hP (v:=vb) (av (j:=1) rfl) ⟨vb,pr.body,H2,fun _=>False,rfl,.refl _,rb,by have:=pw.dep;lia,pc.st,by lia,fun g h=>h.elim,fun L1 yv H3 s3 AS ou f1=>⟨L1,rfl,⟨_,.of ou⟩,fun D1 NL=>?_⟩⟩;have MU:yv.length=(PG.fu pr.body).length:=by rw[f1.nK.length,Zb]
 show eX (qe K L1) D1 (bV 0) iO _ _ [none,some (.ref p)] _;refine iS (K:=K) (r:=[some (.ref p)]) (F:=pL) (G:=fF) (fun b=>(⟨pr.aS,b⟩:PG.Prog)) (PG.fu pr.body) (.of ou) f1.nK (by lia) NL (fun i x y H4 hy hx rx keep s4 nD _ R hR=>?_) fun ys H4 s4 yD rV=>?_
 ·walk_at "rd";refine aN ((s3.trans s4).a7 hP) (v:=vB) (av (j:=0) rfl) ?_;intro p9 yu;exact hR _ _ (ai.new yu _) (Fix.tup af (fun z=>by rw[z] at yu;exact nD yu) (aM.cons ((keep _ _ (rB.mono s3)).up (.of (ai.new yu _))) (aM.cons ((keep _ _ rx).up (.of (ai.new yu _))) aM.nil)))
 rw[<- PG.xN pc.pw] at rV;refine(jz _ _).mpr (aq fun U3 kE=>?_);clear jz;have SU:=SS.mono (s3.trans s4);walk_at "rd";refine⟨.ref p,fF pr,H4,fun _=>False,rfl,.refl _,SU,Mu pw,fun g h=>h.elim,fun vh H5 s5 fh=>(kE _ _).mpr (aq fun U4 qf=>?_)⟩;clear kE;walk_at "rd";refine⟨vh,pr,rfl,fh.rep,pc,fun L us Fs H6 s6 nL yL al zt fr=>(qf _ _).mpr (aq fun U5 wH=>?_)⟩;clear qf;have cw:=Mr pw pc;obtain⟨VI,EJ,VJ,VL⟩:=tR al cw;have VM:Rep K H6 (.lst ((PG.zb pr).map fF)) (.ref L):=Rep.bT.mpr ⟨L,us,rfl,.of yL,VI⟩;have SV:Rep K H5 (.lst ((PG.zb pr).map fF)) (.ref D1):=Rep.bT.mpr ⟨D1,ys,rfl,.of (s5 _ _ yD),rV.mono s5⟩;have QO:=fh.rep;have SW:=SU.mono s5;have NY:=x3 pw;have NZ:=wG cw;walk_at "rd";refine⟨_,rfl,.inr (.inr (.inr ⟨⟨L,us,rfl,.of yL⟩,_,rfl,(if_neg (by decide)).mpr ?_⟩))⟩;refine⟨_,_,VM,SV.mono s6,NZ,NZ,_,rfl,(if_neg (by rw[if_pos rfl,eqv_refl];decide)).mpr ?_⟩;refine⟨_,_,QO.mono s6,SW.mono s6,NY,NY,_,rfl,(if_neg (by rw[if_pos rfl,eqv_refl];decide)).mpr ((wH _ _).mpr (aq fun U6 AO=>?_))⟩;clear wH;walk_at "rd";refine⟨_,rfl,L,us,rfl,.of yL,fun p1 B3=>?_⟩;have c6:cO us none (some 6)=us.take 6:=mv us (x:=6) (by decide);rw[c6];have g1:=ai.new B3 (.lst (us.take 6));have y1:(upd H6 p1 (.lst (us.take 6))) p1=_:=af;generalize upd H6 p1 (.lst (us.take 6))=G1 at *;refine⟨_,rfl,_,rfl,L,us,rfl,.of (g1 _ _ yL),fun p2 pf=>?_⟩;rw[Eg];have g2:=ai.new pf (.lst (us.drop (us.length-6)));have y2:(upd G1 p2 (.lst (us.drop (us.length-6)))) p2=_:=af;generalize upd G1 p2 (.lst (us.drop (us.length-6)))=G2 at *;refine⟨L,us,rfl,.inl (.of ((g1.trans g2) _ _ yL)),_,rfl,.inr ⟨by decide,by decide⟩,_,rfl,p2,_,rfl,.of y2,fun p3 tM=>?_⟩;obtain⟨Gs,l1,WE,hG,BS,Ga⟩:=six VJ zt VL;generalize WG:cO (us.drop (us.length-6)) (some ((if decide ((us.length:Int)<12)=true then 1 else 0)*6)) none=zs at *;have g3:=ai.new tM (.lst zs);have y3:(upd G2 p3 (.lst zs)) p3=_:=af;generalize upd G2 p3 (.lst zs)=G3 at *;refine⟨p1,p3,_,_,rfl,rfl,(g2.trans g3) _ _ y1,y3,by rw[Zc] at l1;lia,fun p4 yd=>?_⟩;have g4:=ai.new yd (.lst (us.take 6++zs));have y4:(upd G3 p4 (.lst (us.take 6++zs))) p4=_:=af;have vJ:=g1.trans (g2.trans g3);have f4:H6 p4=none:=vJ.free yd;generalize upd G3 p4 (.lst (us.take 6++zs))=G4 at *;have mW:=vJ.trans g4;have lF:Gs.flatten.length<=50*12:=by
  refine ZT (Po (k:=50) fun G VN=>?_) (by lia);obtain⟨i,hi,rfl⟩:=Z9.mp VN;have Pp:i<(us.take 6++zs).length:=by lia
  exact(hG i _ _ (Zd Pp) (Zd hi)).2
 have QP:=qA al;have VO:(p4::Gs.flatten).Nodup:=Z0.mpr ⟨(fun z=>by obtain⟨zs,e⟩:=QP _ (Ga _ z);rw[f4] at e;cases e),BS⟩;have big:AI K G4 15 (.ref p4) (p4::Gs.flatten):=.inr (.inr ⟨p4,_,Gs,rfl,y4,by lia,l1,fun i x G hx VP=>((hG i x G hx VP).1).mono mW,rfl⟩);refine⟨.ref p4,p4::Gs.flatten,rfl,big,by rw[Ze];lia,fun Lq H7 s7 N0 M7=>(AO _ _).mpr (aq fun U7 BK=>?_)⟩;clear AO;have J9:=mW.trans s7;have N1:∀f∈p4::Gs.flatten,H5 f=none/\∃zs,H7 f=some (.lst zs):=by
  intro f hf;rcases Zf.mp hf with rfl |hf
  ·exact⟨s6.free f4,_,s7 _ _ y4⟩
  ·obtain⟨zs,e⟩:=QP _ (Ga _ hf);exact⟨(fr _ (Ga _ hf)).1,zs,J9 _ _ e⟩
 have nq:Lq ∉ p4::Gs.flatten:=fun z=>by
  rcases Zf.mp z with rfl |z
  ·rw[y4] at N0;cases N0
  ·obtain⟨zs,e⟩:=QP _ (Ga _ z);rw[mW _ _ e] at N0;cases N0
 have n8:∀f∈p4::Gs.flatten,∃zs,H7 f=some (.lst zs)/\zs.length<=2000:=AL _ _ _ (big.mono s7);have WH:(p4::Gs.flatten).length<=1000:=by rw[Ze];lia
 generalize p4::Gs.flatten=F at *;walk_at "rd";simp only[ft];walk_at "rd";refine⟨⟨_,.of M7⟩,fun Ls QQ=>?_⟩;show eX (qe K Lq) Ls (bV 0) iO _ _ [none] _;have ix:∀ {Hq:Hp} {i:Nat} {x:V},(F.map V.ref)[i]?=some x->∃f,x=.ref f/\f∈F/\F[i]?=some f/\F.take (i+1)=F.take i++[f]:=fun {Hq i x} hx=>by
  rw[Zq] at hx;obtain⟨f,hf,rfl⟩:=ZS.mp hx;refine⟨f,rfl,Z4 hf,hf,?_⟩;rw[ZV,hf];rfl
 refine dv (K:=K) (r:=[]) (fun i ys _=>ys=(F.take i).map fun f=>V.int ((qT H7 f).length:Nat)) (.of M7) (by rw[Zb];lia) QQ (by simp) (fun i x ys H8 hx s8 _ ly p8 R hR=>?_) (fun ys H8 s8 VQ p8=>(BK _ _).mpr (aq fun U8 GY=>?_))
 ·obtain⟨f,rfl,hf,_,tk⟩:=ix (Hq:=H8) hx;obtain⟨_,zs,ez⟩:=N1 f hf;walk_at "rd";refine⟨f,zs,rfl,.inl (.of (s8 _ _ ez)),hR _ _ (.refl _) ?_⟩;rw[tk,Zl,p8,Yx,x4 ez]
 clear BK;rw[Zb,Zw] at p8;have VR:Ls ∉ F:=fun z=>by obtain⟨_,zs,e⟩:=N1 _ z;rw[e] at QQ;cases QQ
 refine eJ fun U hU=>?_;walk_at "rd";refine⟨⟨_,.of (s8 _ _ M7)⟩,hU _ _ ?_⟩;clear hU;obtain⟨P9,Kb⟩:∃Pv:Nat->St->Hp->Prop,∀i σ Hx,Pv i σ Hx↔∃z7,σ=[some (V.ref a),some (V.ref p),some (V.ref D1),some vh,some (V.ref L),some (V.ref Lq),some (V.ref Ls),z7]/\(∀b,b ∉ F.take i->Hx b=H8 b)/\∀f∈F.take i,Hx f=some (.lst (qT H7 f++[V.int 0])):=⟨_,fun _ _ _=>Iff.rfl⟩
 refine eE (K:=K) (a:=Lq) (xs:=F.map V.ref) P9 ((Kb _ _ _).mpr ⟨none,rfl,fun b _=>rfl,fun f hf=>by simp at hf⟩) (fun i σ Hx _ hw=>?_) (fun i x σ Hx hx hw=>?_) (fun σ Hx hw=>?_)
 ·obtain⟨_,_,k1,_⟩:=(Kb _ _ _).mp hw;exact .of (by rw[k1 _ fun z=>nq (Ym z)];exact s8 _ _ M7)
 ·obtain⟨z7,rfl,k1,k2⟩:=(Kb _ _ _).mp hw;obtain⟨f,rfl,hf,SX,tk⟩:=ix (Hq:=H8) hx;obtain⟨_,zs,ez⟩:=N1 f hf;have nf:f ∉ F.take i:=fun z=>by
   obtain⟨j,hj,ej⟩:=Z9.mp z;rw[List.getElem_take] at ej;rw[ZK] at hj;have li:=(Zi.mp SX).1;have e2:=(Zi.mp SX).2;have:=(W2 (h₀:=by lia) (h₁:=li) VO).mp (ej.trans e2.symm);lia
  have yf:Hx f=some (.lst zs):=by rw[k1 f nf];exact s8 _ _ ez
  simp only[bV,Xi];walk_at "rd";refine⟨.inl ⟨rfl,_,.of yf⟩,f,zs,.int 0,rfl,rfl,yf,?_,(Kb _ _ _).mpr ⟨_,rfl,fun b hb=>?_,fun g hg=>?_⟩⟩
  ·obtain⟨WI,SY,lz⟩:=n8 f hf;rw[ez] at SY;cases SY;lia
  ·rw[tk] at hb;have n1:b≠f:=fun z=>hb (Zz _ (by rw[z];exact Zh.mpr rfl));rw[aL n1];exact k1 b fun z=>hb (ZU _ z)
  ·rw[tk] at hg;rcases Zg.mp hg with hg |hg
   ·rw[aL (fun z=>nf (by rw[<- z];exact hg))];exact k2 g hg
   ·cases Zh.mp hg;rw[af,x4 ez]
 obtain⟨z7,rfl,k1,k2⟩:=(Kb _ _ _).mp hw;clear hw Kb P9;rw[Zb,Zw] at k1 k2;refine(GY _ _).mpr (aq fun U9 MC=>?_);clear GY;walk_at "rd";simp only[ft];walk_at "rd";have M8:Hx Lq=some (.lst (F.map V.ref)):=by rw[k1 _ nq];exact s8 _ _ M7
 have M9:Hx Ls=some (.lst ys):=by rw[k1 _ VR];exact VQ
 have VS:ai H5 Hx:=fun b o e=>by
  rw[k1 b fun z=>by rw[(N1 b z).1] at e;cases e];exact s8 _ _ (J9 _ _ (s6 _ _ e))
 refine⟨⟨_,.of M8⟩,fun La NN=>?_⟩;show eX (qe K Lq) La (bV 0) iO _ _ [none] _;refine dv (K:=K) (r:=[]) (fun i ys _=>ys=(F.take i).map fun f=>V.int (((qT H7 f).length:Nat)+1:Int)) (.of M8) (by rw[Zb];lia) NN (by simp) (fun i x zs H9 hx s9 _ ly p9 R hR=>?_) (fun zs H9 s9 NO p9=>?_)
 ·obtain⟨f,rfl,hf,_,tk⟩:=ix (Hq:=H8) hx;walk_at "rd";refine⟨f,_,rfl,.inl (.of (s9 _ _ (k2 f hf))),hR _ _ (.refl _) ?_⟩;rw[tk,Zl,p9,Yx,Zc,Zm];rfl
 rw[Zb,Zw] at p9;refine⟨⟨_,.of (s9 _ _ M9)⟩,fun Lb R9=>?_⟩;show eX (qe K Ls) Lb (bV 0) iO _ _ [none] _;have JZ:ys.length=F.length:=by rw[p8,Zb]
 refine dv (K:=K) (r:=[]) (fun i ys _=>ys=(F.take i).map fun f=>V.int (((qT H7 f).length:Nat)+1:Int)) (.of (s9 _ _ M9)) (by lia) R9 (by simp) (fun i x ws PU hx G8 _ ly Em R hR=>?_) (fun ws PU G8 NP Em=>?_)
 ·rw[p8,Zq] at hx;obtain⟨f,hf,rfl⟩:=ZS.mp hx;walk_at "rd";refine hR _ _ (.refl _) ?_;rw[ZV,hf,Zl,Em];rfl
 rw[JZ,Zw] at Em;have ei:∀l:List YE,(l.map fun f=>V.int (((qT H7 f).length:Nat)+1:Int))=(l.map fun f=>(((qT H7 f).length:Nat)+1:Int)).map V.int:=fun l=>by rw[ZL];rfl
 rw[ei] at p9 Em;have ri:∀ {Hq:Hp} {q:YE} {l:List Int},Hq q=some (.lst (l.map V.int))->Rep K Hq (.lst (l.map Dp.int)) (.ref q):=fun h=>Rep.bT.mpr ⟨_,_,rfl,.of h,aw.ints⟩;rw[p9] at NO;rw[Em] at NP;refine⟨_,_,ri (G8 _ _ NO),ri NP,qU _,qU _,_,rfl,(if_neg (by rw[if_pos rfl,eqv_refl];decide)).mpr ((MC _ _).mpr ?_)⟩;clear MC;have sE:ai H5 PU:=VS.trans (s9.trans G8);walk_at "rd";refine⟨_,_,QO.mono sE,SW.mono sE,NY,NY,_,rfl,(if_pos (by rw[if_neg Zo,eqv_refl])).mpr ?_⟩;refine⟨vh,pr,rfl,QO.mono sE,pc,fun L' F4 WJ VT VU WK VW VX VY WL=>?_⟩;obtain⟨QR,_⟩:=tR VX cw;refine⟨_,_,Rep.bT.mpr ⟨L',F4,rfl,.of VW,QR⟩,SV.mono (sE.trans VU),NZ,NZ,?_⟩;rw[if_neg Zo,eqv_refl];exact q VT
end
end Jn
end
section
set_option maxHeartbeats 4000000
namespace Jn
open PySem L2
section
variable{P:YR}{w:YG}{K:Za}{mg:Str->Option YF}{base:Heap}
theorem all_mk{l:PySem.W.OpenLaw}{h:Heap}{fa:YE}(X:K.In h)(G:h.Ns YL mg)(VZ:mg "law"=some (.ref fa))
 {fc cQ cD dX gD kC fT ic bZ i9 bS eQ b9 ja jb dw bE cM ig dY kD gM gE dZ fj eA AM:YE}
 {qb:_}
 {bI:YE} {jf:Array DictEntry} {mX:Nat} {fU fV fW fX fY fZ f7:YE}
 {lr:Option YE} {lA:Array (Option YF)} {mY:Nat} {il:Array YF}
 {lB:Option YE} {lC:Array (Option YF)} {mZ:Nat} {ip:Array YF}
 {lD:Option YE} {lG:Array (Option YF)} {m3:Nat} {iq:Array YF}
 {lH:Option YE} {lI:Array (Option YF)} {m4:Nat} {iu:Array YF}
 {lJ:Option YE} {lK:Array (Option YF)} {m5:Nat} {iw:Array YF}
 {lL:Option YE} {lM:Array (Option YF)} {m6:Nat} {iy:Array YF}
 {lN:Option YE} {lO:Array (Option YF)} {m7:Nat} {iz:Array YF}
 {cH:YE} {m8:Array DictEntry} {tS:Nat}
 (yi:FH K "bodies_in" mE fc)
 (rF:FH K "statements_in" ji cQ)
 (oU:FH K "copied_statement" gK cD)
 (uD:FH K "copied_body" j1 dX)
 (uE:FH K "with_bodies" j2 gD)
 (BW:FH K "changes" qD kC)
 (yj:FH K "body_with" mH fT)
 (wO:FH K "others_for" kU ic)
 (ka:FH K "with_other_expressions" dW bZ)
 (yk:FH K "with_part" mI i9)
 (m9:FH K "with_other_numbers" fS bS)
 (qI:FH K "numbers_beside" iU eQ)
 (oV:FH K "with_other_signs" gL b9)
 (ym:FH K "_law_draw" mJ ja)
 (yn:FH K "_law_deck" mK jb)
 (tT:FH K "_law_small_e" jK dw)
 (k7:FH K "_law_small_statement" ff bE)
 (qc:FH K "_law_small_body" ia cM)
 (wQ:FH K "_law_small" kW ig)
 (uF:FH K "_law_places" j3 dY)
 (BX:FH K "_law_at" qE kD)
 (zx:FH K "_law_put" oO gM)
 (uG:FH K "_law_others" j4 gE)
 (uH:FH K "_law_bodies" j5 dZ)
 (wR:FH K "_law_lists" kX fj)
 (uI:FH K "_law_copied" j6 eA)
 (Hs:FH K "law" Eh AM)
 (qd:Xj K YL "GREATEST_NUMBER"=some (some (.int 999 qb)))
 (nT:Xj K YL "EXPRESSION_PLACES"=some (some (.ref bI)))
 (nU:K.lookup bI=some ⟨.type "dict",none,.dict jf mX, #[]⟩)
 (nc:(bI==sysModules)=false)
 (nV:GK l.prog w [(.inr "ask",.ref fU),(.inr "put",.ref fV),(.inr "say",.ref fW),(.inr "must",.ref fX),(.inr "if",.ref fY),(.inr "while",.ref fZ),(.inr "stop",.ref f7)] jf.toList)
 (lP:K.lookup fU=some ⟨.type "tuple",lr,.seq il mY,lA⟩)
 (iD:Vals [] il.toList)
 (lQ:K.lookup fV=some ⟨.type "tuple",lB,.seq ip mZ,lC⟩)
 (iE:Vals [.int 3] ip.toList)
 (lR:K.lookup fW=some ⟨.type "tuple",lD,.seq iq m3,lG⟩)
 (iF:Vals [.int 2] iq.toList)
 (lS:K.lookup fX=some ⟨.type "tuple",lH,.seq iu m4,lI⟩)
 (iH:Vals [.int 3,.int 4] iu.toList)
 (lT:K.lookup fY=some ⟨.type "tuple",lJ,.seq iw m5,lK⟩)
 (iI:Vals [.int 3,.int 4] iw.toList)
 (lU:K.lookup fZ=some ⟨.type "tuple",lL,.seq iy m6,lM⟩)
 (iJ:Vals [.int 3,.int 4] iy.toList)
 (lV:K.lookup f7=some ⟨.type "tuple",lN,.seq iz m7,lO⟩)
 (iK:Vals [] iz.toList)
 (uJ:Xj K YL "OTHER_SIGNS"=some (some (.ref cH)))
 (uK:K.lookup cH=some ⟨.type "dict",none,.dict m8 tS, #[]⟩)
 (tU:(cH==sysModules)=false)
 (uM:GK l.prog w [(.inr "+",.str "-"),(.inr "-",.str "+"),(.inr "*",.str "+"),(.inr "<",.str "="),(.inr "=",.str "<")] m8.toList)
 (jd:Xj K YL "len"=some none)
 (nH:Xj K YL "range"=some none)
 (om:Xj K YL "int"=some none)
 (jM:Xj K YL "list"=some none)
 (jV:Xj K YL "tuple"=some none)
 (Ej:Xj K YL "min"=some none)
 (cv:Xj K YL "isinstance"=some none)
 : ∃fd:YN,(∀(s:YO) (v:YF),BindsTo s fd ⟨[v],[]⟩ [("script",v)])/\∀base:Heap,K.In base->base.Ns YL mg->bP l.prog w K mg base gA 30 fa fd ["script"] (Aa K):=by
 have e:=VZ.symm.trans (X7 X G Hs.1);cases e;obtain⟨fg,gU⟩:=qt X G yi (ps:=["statement"]) fun _ _ _ _ _ _=>yr fun _=>rfl;obtain⟨du,fA⟩:=qt X G rF (ps:=["body"]) fun _ _ _ _ _ _=>yr fun _=>rfl;obtain⟨cS,dB⟩:=qt X G oU (ps:=["statement"]) fun _ _ _ _ _ _=>yr fun _=>rfl;obtain⟨eP,iZ⟩:=qt X G uD (ps:=["body"]) fun _ _ _ _ _ _=>yr fun _=>rfl;obtain⟨ib,gF⟩:=qt X G uE (ps:=["statement", "bodies"]) fun _ _ _ _ _ _=>LR fun _ _=>rfl;obtain⟨kY,gi⟩:=qt X G BW (ps:=["program"]) fun _ _ _ _ _ _=>yr fun _=>rfl;obtain⟨gg,jc⟩:=qt X G yj (ps:=["body", "row", "others"]) fun _ _ _ _ _ _=>JN fun _ _ _=>rfl;obtain⟨iX,jx⟩:=qt X G wO (ps:=["statement"]) fun _ _ _ _ _ _=>yr fun _=>rfl;obtain⟨cz,cI⟩:=qt X G ka (ps:=["statement"]) fun _ _ _ _ _ _=>yr fun _=>rfl;obtain⟨ju,gV⟩:=qt X G yk (ps:=["statement", "place", "part"]) fun _ _ _ _ _ _=>JN fun _ _ _=>rfl;obtain⟨bX,cg⟩:=qt X G m9 (ps:=["e"]) fun _ _ _ _ _ _=>yr fun _=>rfl;obtain⟨fJ,gj⟩:=qt X G qI (ps:=["number"]) fun _ _ _ _ _ _=>yr fun _=>rfl;obtain⟨cx,cE⟩:=qt X G oV (ps:=["e"]) fun _ _ _ _ _ _=>yr fun _=>rfl;obtain⟨jv,aW⟩:=qt X G ym (ps:=["deck", "many"]) fun _ _ _ _ _ _=>LR fun _ _=>rfl;obtain⟨jw,gW⟩:=qt X G yn (ps:=["script"]) fun _ _ _ _ _ _=>yr fun _=>rfl;obtain⟨dI,b5⟩:=qt X G tT (ps:=["deck", "names", "deep"]) fun _ _ _ _ _ _=>JN fun _ _ _=>rfl;obtain⟨bO,cW⟩:=qt X G k7 (ps:=["deck", "names", "deep"]) fun _ _ _ _ _ _=>JN fun _ _ _=>rfl;obtain⟨dA,bW⟩:=qt X G qc (ps:=["deck", "names", "deep"]) fun _ _ _ _ _ _=>JN fun _ _ _=>rfl;obtain⟨iY,gm⟩:=qt X G wQ (ps:=["deck", "most"]) fun _ _ _ _ _ _=>LR fun _ _=>rfl;obtain⟨eR,dq⟩:=qt X G uF (ps:=["e", "path"]) fun _ _ _ _ _ _=>LR fun _ _=>rfl;obtain⟨kZ,gn⟩:=qt X G BX (ps:=["e", "path"]) fun _ _ _ _ _ _=>LR fun _ _=>rfl;obtain⟨gT,cF⟩:=qt X G zx (ps:=["e", "path", "part"]) fun _ _ _ _ _ _=>JN fun _ _ _=>rfl;obtain⟨ij,fE⟩:=qt X G uG (ps:=["statement"]) fun _ _ _ _ _ _=>yr fun _=>rfl;obtain⟨eT,cJ⟩:=qt X G uH (ps:=["body"]) fun _ _ _ _ _ _=>yr fun _=>rfl;obtain⟨fC,cX⟩:=qt X G wR (ps:=["thing"]) fun _ _ _ _ _ _=>yr fun _=>rfl;obtain⟨eU,dt⟩:=qt X G uI (ps:=["thing"]) fun _ _ _ _ _ _=>yr fun _=>rfl;obtain⟨qF,AN⟩:=qt X G Hs (ps:=["script"]) fun _ _ _ _ _ _=>yr fun _=>rfl
 let t:Ad:=⟨fc,
  fg,
  cQ,
  du,
  cD,
  cS,
  dX,
  eP,
  gD,
  ib,
  kC,
  kY,
  fT,
  gg,
  ic,
  iX,
  bZ,
  cz,
  i9,
  ju,
  bS,
  bX,
  eQ,
  fJ,
  b9,
  cx,
  ja,
  jv,
  jb,
  jw,
  dw,
  dI,
  bE,
  bO,
  cM,
  dA,
  ig,
  iY,
  dY,
  eR,
  kD,
  kZ,
  gM,
  gT,
  gE,
  ij,
  dZ,
  eT,
  fj,
  fC,
  eA,
  eU,
  fa,
  qF,
  bI,
  cH⟩
 have T:Tx K mg t:=⟨gU,
  fA,
  dB,
  iZ,
  gF,
  gi,
  jc,
  jx,
  cI,
  gV,
  cg,
  gj,
  cE,
  aW,
  gW,
  b5,
  cW,
  bW,
  gm,
  dq,
  gn,
  cF,
  fE,
  cJ,
  cX,
  dt,
  AN,
  ⟨_,X7 X G qd,_,rfl⟩,
  X7 X G nT,
  X7 X G uJ,
  Xn X G jd,
  Xn X G nH,
  Xn X G om,
  Xn X G jM,
  Xn X G jV,
  Xn X G Ej,
  Xn X G cv⟩
 have V0:Cd l.prog w K t:=⟨⟨fU,fV,fW,fX,fY,fZ,f7,GJ.mk nU nc nV (by show List.Nodup ([.inr "ask",.inr "put",.inr "say",.inr "must",.inr "if",.inr "while",.inr "stop"]:List Key);decide +kernel) (by show 7<=YM;decide),fun _=>.inr ⟨_,_,_,lP,rfl,rfl,by have:=iD.length;simp only[Ze,ZJ,ZX] at this;rw[<- this];decide,iD⟩,fun _=>.inr ⟨_,_,_,lQ,rfl,rfl,by have:=iE.length;simp only[Ze,ZJ,ZX] at this;rw[<- this];decide,iE⟩,fun _=>.inr ⟨_,_,_,lR,rfl,rfl,by have:=iF.length;simp only[Ze,ZJ,ZX] at this;rw[<- this];decide,iF⟩,fun _=>.inr ⟨_,_,_,lS,rfl,rfl,by have:=iH.length;simp only[Ze,ZJ,ZX] at this;rw[<- this];decide,iH⟩,fun _=>.inr ⟨_,_,_,lT,rfl,rfl,by have:=iI.length;simp only[Ze,ZJ,ZX] at this;rw[<- this];decide,iI⟩,fun _=>.inr ⟨_,_,_,lU,rfl,rfl,by have:=iJ.length;simp only[Ze,ZJ,ZX] at this;rw[<- this];decide,iJ⟩,fun _=>.inr ⟨_,_,_,lV,rfl,rfl,by have:=iK.length;simp only[Ze,ZJ,ZX] at this;rw[<- this];decide,iK⟩⟩,GJ.mk uK tU uM (by show List.Nodup ([.inr "+",.inr "-",.inr "*",.inr "<",.inr "="]:List Key);decide +kernel) (by show 5<=YM;decide)⟩
 obtain⟨_,_,_,_,_,_,_,_,_,z,_⟩:=AN.F.ex;exact⟨t.qF,fun s v=>by rw[show t.qF=_ from z];exact .of_eq rfl,fun base _ _=>JD T V0⟩
theorem walk{l:PySem.W.OpenLaw}{q:YR}{loose:List Str}{XP:(Str->Option YF)->Heap->Prop}{YP:YG->Heap->Prop}{d:DefRec}{K:Params->Za}(hn:l.most=some 63)(K8:d.params.defaults=[])
 (hY:∀(w:YG) (h:Heap),YP w h->(K w.params).In h)
 (F:∀(w:YG) (mg:Str->Option YF) (fa:YE) (h:Heap),(K w.params).In h->h.Ns YL mg->mg d.name=some (.ref fa)->
  ∃fd:YN,(∀(s:YO) (u:YF),BindsTo s fd ⟨[u],[]⟩ [("script",u)])/\∀base:Heap,(K w.params).In base->base.Ns YL mg->bP l.prog w (K w.params) mg base gA 30 fa fd ["script"] (Aa (K w.params))) :
 PySem.W.WalkO q loose XP YP l.row.toRowW d [] (fun f vs=>PySem.call f vs):=
 L2.Ff (n:=63) (k:=30) (x:="script") (CX:=fun _=>gA) (sp:=fun w=>Aa (K w.params)) hn (by decide) K8 ⟨rfl,by decide,by decide⟩ hY F (fun _ _ a ns hl _ hS=>⟨a,ns,rfl,hS,hl,fun _=>rfl⟩) fun _ _ _ _ _ z=>z
end
end Jn
end
namespace PySem.W.Fast
theorem tw14008758830681339679:True:=trivial
theorem tw14909050187179960122:True:=trivial
theorem tw1120809948636634226:True:=trivial
theorem tw860264506788450585:True:=trivial
theorem tw14578975794056971853:True:=trivial
theorem tw548984047898439236:True:=trivial
theorem tw5233305329901179937:True:=trivial
theorem tw13237360819957373086:True:=trivial
theorem tw6406298991935363633:True:=trivial
theorem tw8757213276084170504:True:=trivial
theorem tw7992265662883982458:True:=trivial
theorem tw1894757537524860614:True:=trivial
theorem tw1584811472585028830:True:=trivial
theorem tw17664975604398499056:True:=trivial
theorem tw17782557525101116239:True:=trivial
theorem tw14760083844946031640:True:=trivial
theorem tw1401409992479606675:True:=trivial
theorem tw15383209064722869645:True:=trivial
theorem tw6679284394325278604:True:=trivial
theorem tw11348818060124696424:True:=trivial
theorem tw9636792035885260585:True:=trivial
theorem tw4096314257484243490:True:=trivial
theorem tw1101858444917427951:True:=trivial
theorem tw13794957500307542872:True:=trivial
theorem tw4802148252708292735:True:=trivial
theorem tw12022056691654991238:True:=trivial
theorem tw10019381694496434765:True:=trivial
theorem tw7198315161477630200:True:=trivial
theorem tw10290887101026372131:True:=trivial
theorem tw1704407345754262651:True:=trivial
theorem tw13228522705919678967:True:=trivial
theorem tw5767208247155270077:True:=trivial
theorem tw1852210997678258642:True:=trivial
theorem tw11161087833532461252:True:=trivial
theorem tw14998931805584455503:True:=trivial
theorem tw11418898879580435405:True:=trivial
theorem tw8255590645987181891:True:=trivial
theorem tw17490015470195116977:True:=trivial
theorem tw18125810962262340268:True:=trivial
theorem tw739176548045014415:True:=trivial
theorem tw11520435083568386773:True:=trivial
theorem tw4601206166134776856:True:=trivial
theorem tw8998130155656102452:True:=trivial
theorem tw16650247967919685719:True:=trivial
theorem tw192306960760884037:True:=trivial
theorem tw12389420071195043652:True:=trivial
theorem tw10622682378029782394:True:=trivial
theorem tw16231523756380046250:True:=trivial
theorem tw14275288859434943489:True:=trivial
theorem tw362408416161927042:True:=trivial
theorem tw13947092386927630525:True:=trivial
theorem tw1004115616065971614:True:=trivial
theorem tw15521083420109488847:True:=trivial
theorem tw7868775610866262035:True:=trivial
theorem tw8642177291878397671:True:=trivial
theorem tw18214601795774477206:True:=trivial
theorem tw8259818874266628811:True:=trivial
theorem tw5392028533949149681:True:=trivial
theorem tw1653847856846465186:True:=trivial
theorem tw8488837379571010498:True:=trivial
theorem tw18060152304153011156:True:=trivial
theorem tw1643457092890269380:True:=trivial
theorem tw15523967687577563816:True:=trivial
theorem tw1201561929783778175:True:=trivial
theorem tw3504047875336563591:True:=trivial
theorem tw6037670168966879508:True:=trivial
theorem tw11024768833068369130:True:=trivial
theorem tw11960696453543253268:True:=trivial
theorem tw3009391903297570371:True:=trivial
theorem tw5500794358400458889:True:=trivial
theorem tw14516088895963883856:True:=trivial
theorem tw17217043845731040457:True:=trivial
theorem tw14332225269489515931:True:=trivial
theorem tw4592972345213826008:True:=trivial
theorem tw7823708845051594575:True:=trivial
theorem tw3169571537300194802:True:=trivial
theorem tw17112833790012380338:True:=trivial
theorem tw13646785334313392317:True:=trivial
theorem tw11622971810842147163:True:=trivial
theorem tw16310542188950458533:True:=trivial
theorem tw6280004367072934742:True:=trivial
theorem tw6212777063458349880:True:=trivial
theorem tw1974824563779450865:True:=trivial
theorem tw15513144970086803569:True:=trivial
theorem tw2908558522914782085:True:=trivial
theorem tw3168012000758245685:True:=trivial
theorem tw13786352937524893033:True:=trivial
theorem tw2022001197455917355:True:=trivial
theorem tw17866654281672365182:True:=trivial
theorem tw9781933377078282306:True:=trivial
theorem tw2359580344053259559:True:=trivial
theorem tw3717212442600115508:True:=trivial
theorem tw18175492593260613236:True:=trivial
theorem tw15565563747464736019:True:=trivial
theorem tw32382864591706137:True:=trivial
theorem tw4261620482495502429:True:=trivial
theorem tw8194452026089415202:True:=trivial
theorem tw1421799538731877178:True:=trivial
theorem tw17761108000309332612:True:=trivial
theorem tw6253846682485777948:True:=trivial
theorem tw12879686546360554046:True:=trivial
theorem tw3015162480958180990:True:=trivial
theorem tw12938690592589958968:True:=trivial
theorem tw1911445272405336367:True:=trivial
end PySem.W.Fast
end
open PySem PySem.W PyProof.Rows
set_option maxRecDepth 100000 in
set_option maxHeartbeats 0 in
theorem PySem.Challenge.cw_everyrow_k56_changes_in_order_holds : PySem.Challenge.rw_everyrow_k56_changes_in_order.Holds := by
 w_on; o_law; k_head; (case hw=>w_witness2)
 k_fill
 refine Jn.walk (l:=PySem.Challenge.rw_everyrow_k56_changes_in_order) rfl rfl (fun w h Y=>PySem.W.kIn_of Y) ?F
 case F=>
   intro w mg fa h KX G K9
   refine' Jn.all_mk KX G K9 ?_ ?_ ?_ ?_ ?_ ?_ ?_ ?_ ?_ ?_ ?_ ?_ ?_ ?_ ?_ ?_ ?_ ?_ ?_ ?_ ?_ ?_ ?_ ?_ ?_ ?_ ?_ ?_ ?_ ?_ ?_ ?_ ?_ ?_ ?_ ?_ ?_ ?_ ?_ ?_ ?_ ?_ ?_ ?_ ?_ ?_ ?_ ?_ ?_ ?_ ?_ ?_ ?_ ?_ ?_ ?_ ?_
   rotate_left 69
   iterate 27 (refine' L2.FH.of ?a ?l ?c ?k; (case a=>k_is); (case l=>k_is); (case c=>k_is); (case k=>k_is))
   iterate 3 (k_is)
   iterate 1 (rfl)
   iterate 1 (exact .cons (by rfl) ⟨_,rfl⟩ (by rfl) (.cons (by rfl) ⟨_,rfl⟩ (by rfl) (.cons (by rfl) ⟨_,rfl⟩ (by rfl) (.cons (by rfl) ⟨_,rfl⟩ (by rfl) (.cons (by rfl) ⟨_,rfl⟩ (by rfl) (.cons (by rfl) ⟨_,rfl⟩ (by rfl) (.cons (by rfl) ⟨_,rfl⟩ (by rfl) (.nil))))))))
   iterate 1 (k_is)
   iterate 1 (exact .nil)
   iterate 1 (k_is)
   iterate 1 (exact .cons ⟨_,rfl⟩ (.nil))
   iterate 1 (k_is)
   iterate 1 (exact .cons ⟨_,rfl⟩ (.nil))
   iterate 1 (k_is)
   iterate 1 (exact .cons ⟨_,rfl⟩ (.cons ⟨_,rfl⟩ (.nil)))
   iterate 1 (k_is)
   iterate 1 (exact .cons ⟨_,rfl⟩ (.cons ⟨_,rfl⟩ (.nil)))
   iterate 1 (k_is)
   iterate 1 (exact .cons ⟨_,rfl⟩ (.cons ⟨_,rfl⟩ (.nil)))
   iterate 1 (k_is)
   iterate 1 (exact .nil)
   iterate 2 (k_is)
   iterate 1 (rfl)
   iterate 1 (exact .cons (by rfl) ⟨_,rfl⟩ ⟨_,rfl⟩ (.cons (by rfl) ⟨_,rfl⟩ ⟨_,rfl⟩ (.cons (by rfl) ⟨_,rfl⟩ ⟨_,rfl⟩ (.cons (by rfl) ⟨_,rfl⟩ ⟨_,rfl⟩ (.cons (by rfl) ⟨_,rfl⟩ ⟨_,rfl⟩ (.nil))))))
   iterate 7 (k_is)
