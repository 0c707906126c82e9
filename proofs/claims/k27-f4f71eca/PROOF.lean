import PyProof.Rows.All
import Wide.All
import OpenK.AllK
import Wide.FinOn
import Lean
import PyProof.EqAt
import PyProof.EqKinds
import PyProof.TupleCall
import PyProof.AttrMiss
import PyProof.IsiH_list
import PyProof.ZipIter
import PyProof.P3In
import PySem.Challenge.RW_everyrow_k27_whole_standings_found
set_option compiler.extract_closed false
set_option Elab.async false
set_option linter.all false
set_option maxRecDepth 100000
open PySem.W renaming Frag->k0,nsIn->zau,mg_none_of->zaz,findIn->zaB,kia_one->zaK,emptyDict->zaW,instObj->zba,fnOf->zbb,keepIn->zbe,mg_of->zbk,kla_obj->zbv,envX->zbJ,codeIn->zbO,hasDictIn->zbU,tabIn->zb0,plainGet->zb3,kitOne->zcc,exmOne->zcd,callWith_K->zcg,methodObj->zci,plainOver->zcj,takerIn->zcs,makesIn->zct
open PySem.Str renaming ofString->v9
open List renaming getElem?_eq_getElem->Za,length_map->Zb,length_append->Zc,mem_cons->Zd,length_cons->V0,getElem?_eq_some_iff->WD,getD_eq_getElem?_getD->Y7,map_cons->Y9,getElem?_map->UB,mem_cons_self->UH,size_toArray->zaa,append_nil->zab,mem_singleton->zac,mem_cons_of_mem->zad,map_append->zae,getElem_mem->zah,length_nil->zak,length_singleton->zal,range->zao,mem_append->zap,nodup_cons->zaq,mem_map->zar,flatMap_cons->zas,mem_append_right->zat,cons_append->zav,nil_append->zay,length_eq_zero_iff->zaC,mem_of_getElem?->zaD,lookup_cons->zaF,not_mem_nil->zaG,append_assoc->zaH,filter_append->zaI,mem_flatMap->zaL,set->zaN,length->zaO,forIn_cons->zaP,take_succ_eq_append_getElem->zaQ,map_nil->zaR,zipWith->zaS,pairwise_map->zaV,length_pos_iff->zaY,flatMap_append->zaZ,length_reverse->za0,flatMap_nil->za2,take_length->za3,lookup->za4,reverse_cons->za5,map_map->za8,length_range->zbc,getElem_map->zbd,take_of_length_le->zbf,range_succ->zbg,getElem?_eq_none->zbh,getElem?_append_right->zbi,pairwise_append->zbl,pairwise_iff_getElem->zbm,mem_of_mem_take->zbo,forIn_nil->zbp,length_drop->zbq,find?_cons->zbu,take_append_drop->zbx,mem_append_left->zby,length_take->zbz,ext_getElem->zbA,mem_iff_getElem->zbB,getElem?_append_left->zbC,drop_eq_getElem_cons->zbD,getLast?_eq_getElem?->zbE,mem_range->zbM,nodup_nil->zbN,getElem?_cons_succ->zbP,nodup_append->zbS,take_add_one->zbT,getElem?_set_self->zbV,length_eq_one_iff->zbX,any_cons->zbZ,getElem?_set_ne->zb7,dropLast_concat->zb9,filterMap_cons->zca,replicate->zcb,filter_cons->zcl,mem_nil_iff->zcm,isEmpty_iff->zco,of_mem_zip->zcp,length_set->zcq,head?_drop->zcr
open Nat renaming le_refl->Wr,lt_of_lt_of_le->zaj,ne_of_lt->zam,le_trans->zan,lt_irrefl->zaE,pow_le_pow_right->zaJ,zero_le->zaT,zero_add->zbr,lt_of_le_of_lt->zbt,le_succ_of_le->zbw,ne_of_gt->zbF,one_le_two_pow->zbG,lt_succ_of_lt->zbR,le_of_lt->zb6,min_eq_left->zb8,eq_zero_or_pos->zce,pow_succ->zck
open Or renaming inl->Ws
open Bool renaming false_ne_true->WC,false_eq_true->zai,and_eq_true->za1,not_true->zbj,eq_iff_iff->zbs
open PySem.F renaming plainAttrs_list->Y8,slot_list_append->zaf,type_list_append->zag,args_tuple_add_2->zbI,slot_list_extend->zbK,type_list_extend->zbL,entry_tuple_add->zbQ,slot_tuple_add->zbY,slot_list_pop->zb4,type_list_pop->zb5
open Int renaming emod_lt_of_pos->zaw,emod_nonneg->zaA,toNat_natCast->zaU,zero_add->zcn
open Option renaming some->zax,map_some->za6,toList_some->zbH,map_eq_some_iff->zbW,getD_none->zb1,getD_some->zb2,isSome_map->zch
open Array renaming getElem?_toList->zaM,length_toList->zaX,getElem?_eq_getElem->zbn,forIn_toList->zcf
open PyProof.Rows renaming callWith_type1->za7,slot_tuple_getitem->za9
open PySem renaming wpAny_bind->zcu,wpAny_pure->zcv,wpAny_holding->zcw,starEach->zcx,mainGlobals->zcy,sizeLine->zcz,FuncData->zcA,Shared->zcB,Around->zcC,Program->zcD
noncomputable section
namespace L2
open PySem PySem.Spec PyProof.Rows
abbrev Key:=Sum Int Str
noncomputable def t7:Key->Value->Bool
 |.inl k,v=>Value.isInt k v
 |.inr x,v=>Value.isStrOf x v
noncomputable def Ol (w:World):Key->Int
 |.inl k=>hashInt k
 |.inr x=>hashStr w x
theorem eA:∀ {k:Key} {v:Value},t7 k v=true->(∃i t,k=Sum.inl i/\v=Value.int i t)\/(∃x t,k=Sum.inr x/\v=Value.str x t)
 |.inl i,v,h=>by
  obtain⟨t,e⟩:=Value.isInt_shape (k:=i) (v:=v) h
  exact .inl ⟨i,t,rfl,e⟩
 |.inr x,v,h=>by
  obtain⟨t,e⟩:=Value.isStrOf_shape (x:=x) (v:=v) h
  exact .inr ⟨x,t,rfl,e⟩
theorem E9(i:Int)(t:Tok):t7 (.inl i) (.int i t)=true:=by simp[t7,Value.isInt]
theorem Fb(x:Str)(t:Tok):t7 (.inr x) (.str x t)=true:=by simp[t7,Value.isStrOf]
theorem Om(a b:Int):decide ((Sum.inl a:Key)=Sum.inl b)=(a==b):=by
 by_cases e:a=b
 ·subst e;simp
 ·have h:¬(Sum.inl a:Key)=Sum.inl b:=fun q=>e (Sum.inl.inj q)
  rw[decide_eq_false h]
  exact(beq_eq_false_iff_ne.mpr e).symm
theorem Oq(a b:Str):decide ((Sum.inr a:Key)=Sum.inr b)=decide (a=b):=by
 by_cases e:a=b
 ·subst e;simp
 ·have h:¬(Sum.inr a:Key)=Sum.inr b:=fun q=>e (Sum.inr.inj q)
  rw[decide_eq_false h,decide_eq_false e]
theorem Ot(a:Int)(b:Str):decide ((Sum.inl a:Key)=Sum.inr b)=false:=decide_eq_false (fun q=>nomatch q)
theorem Ou(a:Str)(b:Int):decide ((Sum.inr a:Key)=Sum.inl b)=false:=decide_eq_false (fun q=>nomatch q)
noncomputable def bX (prog:zcD) (w:World):PySem.KeyKind prog w Key where
 is:=t7
 hash:=Ol w
 inj:=fun v a b ha hb=>by
  rcases eA ha with ⟨i,t,rfl,rfl⟩ |⟨x,t,rfl,rfl⟩
  ·rcases eA hb with ⟨j,u,rfl,e⟩ |⟨y,u,rfl,e⟩
   ·injection e with e1 _;rw[e1]
   ·exact nomatch e
  ·rcases eA hb with ⟨j,u,rfl,e⟩ |⟨y,u,rfl,e⟩
   ·exact nomatch e
   ·injection e with e1 _;rw[e1]
 byValue:=fun k v h=>by
  rcases eA h with ⟨i,t,rfl,rfl⟩ |⟨x,t,rfl,rfl⟩<;>rfl
 pyHash:=fun hv h=>by
  rcases eA hv with ⟨i,t,rfl,rfl⟩ |⟨x,t,rfl,rfl⟩
  ·exact wpAny_pyHash_int h
  ·exact wpAny_pyHash_str h
 eqBool:=fun hu hv h=>by
  rcases eA hu with ⟨i,t,rfl,rfl⟩ |⟨x,t,rfl,rfl⟩
  ·rcases eA hv with ⟨j,u,rfl,rfl⟩ |⟨y,u,rfl,rfl⟩
   ·rw[Om] at h;exact wpAny_eqBool_int h
   ·rw[Ot] at h;exact SeqAt.EqAt.int_str i t y u _ _ _ _ h
  ·rcases eA hv with ⟨j,u,rfl,rfl⟩ |⟨y,u,rfl,rfl⟩
   ·rw[Ou] at h;exact SeqAt.EqAt.str_int x t j u _ _ _ _ h
   ·rw[Oq] at h;exact wpAny_eqBool_str h
 «strs»:=fun k x t v h=>by
  rcases eA h with ⟨i,u,rfl,e⟩ |⟨y,u,rfl,e⟩
  ·exact nomatch e
  ·injection e with e1 _
   subst e1
   cases v<;>rfl
theorem Aw(prog:zcD)(w:World)(i:Int)(t:Tok):(bX prog w).is (.inl i) (.int i t)=true:=E9 i t
theorem Ax(prog:zcD)(w:World)(x:Str)(t:Tok):(bX prog w).is (.inr x) (.str x t)=true:=Fb x t
inductive V where
 |cD |bl (b:Bool) |int (i:Int) |str (x:Str) |DD (b:Array UInt8) |Ov (b:UInt64) |ref (a:Addr) |ty (n:String)
 deriving DecidableEq
def RelV:V->Value->Prop
 |.cD,u=>u=Value.none
 |.bl b,u=>u=Value.bool b
 |.int i,u=>∃t,u=Value.int i t
 |.str x,u=>∃t,u=Value.str x t
 |.DD b,u=>∃t,u=Value.bytes b t
 |.Ov b,u=>∃t,u=Value.float b t
 |.ref a,u=>u=Value.ref a
 |.ty n,u=>u=Value.type n
abbrev Vals:List V->List Value->Prop:=Paired RelV
theorem Vals.length{xs:List V}{us:List Value}(r:Vals xs us):xs.length=us.length:=Paired.length r
theorem Vals.get:∀ {xs:List V} {us:List Value} {i:Nat} {x:V},Vals xs us->xs[i]?=some x->∃u,us[i]?=some u/\RelV x u
 |_,_,_,_,.nil,e=>by simp at e
 |_,_,0,_,.cons r _,e=>by simp at e;subst e;exact⟨_,rfl,r⟩
 |_,_,i+1,x,.cons _ t,e=>by
  obtain⟨u,h1,h2⟩:=Vals.get (i:=i) (x:=x) t (by simpa using e)
  exact⟨u,by simpa using h1,h2⟩
theorem Vals.set{x:V}{u:Value}(r:RelV x u):∀ {xs:List V} {us:List Value} (i:Nat),Vals xs us->Vals (xs.set i x) (us.set i u)
 |_,_,_,.nil=>.nil
 |_,_,0,.cons _ t=>.cons r t
 |_,_,i+1,.cons q t=>.cons q (Vals.set r i t)
theorem Vals.append:∀ {xs ys:List V} {us ws:List Value},Vals xs us->Vals ys ws->Vals (xs++ys) (us++ws)
 |_,_,_,_,.nil,s=>s
 |_,_,_,_,.cons r t,s=>.cons r (Vals.append t s)
theorem Vals.take:∀ {xs:List V} {us:List Value} (n:Nat),Vals xs us->Vals (xs.take n) (us.take n)
 |_,_,0,_=>.nil
 |_,_,_+1,.nil=>.nil
 |_,_,n+1,.cons r t=>.cons r (Vals.take n t)
theorem Vals.drop:∀ {xs:List V} {us:List Value} (n:Nat),Vals xs us->Vals (xs.drop n) (us.drop n)
 |_,_,0,r=>r
 |_,_,_+1,.nil=>.nil
 |_,_,n+1,.cons _ t=>Vals.drop n t
def pR:Option V->Option Value->Prop
 |some v,some u=>RelV v u
 |none,none=>True
 |_,_=>False
def KV {κ:Type}:List (κ×V)->List (κ×Value)->Prop:=Paired fun (p:κ×V) (q:κ×Value)=>p.1=q.1/\RelV p.2 q.2
noncomputable def kV:Key->V
 |.inl i=>.int i
 |.inr x=>.str x
inductive HO where
 |lst (xs:List V)
 |tup (xs:List V)
 |dK (aG:List (Key×V)) |dT (aG:List (List Key×V))
 |set (S:Int->Bool) (n:Nat)
 |ins (C dx:Addr) (fs:List (Str×V))
 |own (x:Addr)
 |xd (fs:List (Str×V))
 |met (f x:Addr)
 |Ur (lo hi:Int)
 |Ay (o:Obj) (u:HO)
 |t9 (ps:Array Value)
 |ext (φ:Heap->Prop)
abbrev Hp:=Addr->Option HO
noncomputable def upd (H:Hp) (a:Addr) (o:HO):Hp:=fun b=>if b=a then some o else H b
theorem ae{H:Hp}{a:Addr}{o:HO}:upd H a o a=some o:=by unfold upd;rw[if_pos rfl]
theorem aw{H:Hp}{a b:Addr}{o:HO}(h:b≠a):upd H a o b=H b:=by unfold upd;rw[if_neg h]
theorem K8{H:Hp}{a:Addr}{o u:HO}:upd (upd H a o) a u=upd H a u:=by
 funext b;unfold upd;split<;>rfl
theorem bR{H:Hp}{a b:Addr}{o u:HO}(h:H a=some o)(h':H b=some u)(d:o≠u):a≠b:=by
 intro e;subst e;rw[h] at h';exact d (zax.inj h')
theorem aj{H:Hp}{a b:Addr}{o:HO}(h:H a=some o)(h':H b=none):a≠b:=by
 intro e;subst e;rw[h] at h';cases h'
section
variable(P:zcD)(w:World)
def dg (H:Hp) (h:Heap) (a:Addr):HO->Prop
 |.lst xs=>xs.length<=zcz/\∃(bz:List Value) (n:Nat),Vals xs bz/\h.get? a=some {cls:=.type "list",data:=.seq bz.toArray n}
 |.tup xs=>xs.length<=zcz/\∃bz:List Value,Vals xs bz/\IsTup h a bz.toArray
 |.dK aG=>aG.length<=zcz/\(a==sysModules)=false/\∃vs,KV aG vs/\h.DictOf (bX P w) a vs
 |.dT aG=>aG.length<=zcz/\(a==sysModules)=false/\∃xs:List (List Key×Addr×Value),
  Paired (fun (p:List Key×V) (q:List Key×Addr×Value)=>p.1=q.1/\H q.2.1=some (.tup (p.1.map kV))/\RelV p.2 q.2.2) aG xs/\
  ∃o es ep,h.get? a=some o/\o.ExactDict/\o.data=.dict es ep/\es.toList=xs.map (entryOfKey (tupleKind (bX P w)))/\(xs.map (·.1)).Nodup
 |.set S n=>h.SetOf (intKind P w) a S n
 |.ins C dx fs=>H dx=some (.own a)/\fs.length<=1000/\dx≠a/\h.get? a=some (zba C dx)/\
  ∃mA,h.Ns1 dx mA/\(∀f,pR (fs.lookup f) (mA f))/\PySem.Within mA (fs.map (·.1))
 |.own _=>∃o,h.get? a=some o
 |.xd fs=>∃mA,h.Ns1 a mA/\∀f,pR (fs.lookup f) (mA f)
 |.Ur lo hi=>∃t u v,h.get? a=some {cls:=.type "range",data:=.fields #[.int lo t,.int hi u,.int 1 v]}
 |.Ay o u=>h.get? a=some o/\dg H h a u
 |.t9 ps=>h.get? a=some {cls:=.none,data:=.fields ps}
 |.met f x=>h.get? a=some (zci (.ref f) (.ref x))
 |.ext φ=>φ h/\(∃o,h.get? a=some o)/\∀h1 h2:Heap,φ h1->(∀o,h1.get? a=some o->h2.get? a=some o)->φ h2
def l5 (H:Hp) (h:Heap):Prop:=∀a o,H a=some o->dg P w H h a o
end
section
variable{P:zcD}{w:World}{H H':Hp}{h h':Heap}{a:Addr}{o:HO}
theorem dg.lt(x:dg P w H h a o):a<h.objs.size:=by
 cases o with
 |lst xs=>obtain⟨_,_,_,_,e⟩:=x;exact Heap.lt_size e
 |tup xs=>obtain⟨_,_,_,p⟩:=x;exact p.lt
 |dK aG=>obtain⟨_,_,_,_,o,_,_,e,_⟩:=x;exact Heap.lt_size e
 |dT aG=>obtain⟨_,_,_,_,o,_,_,e,_⟩:=x;exact Heap.lt_size e
 |set S n=>obtain⟨o,_,_,_,e,_⟩:=x;exact Heap.lt_size e
 |ins C dx fs=>obtain⟨_,_,_,e,_⟩:=x;exact Heap.lt_size e
 |own y=>obtain⟨_,e⟩:=x;exact Heap.lt_size e
 |xd fs=>obtain⟨_,⟨_,_,_,e,_⟩,_⟩:=x;exact Heap.lt_size e
 |Ur lo hi=>obtain⟨_,_,_,e⟩:=x;exact Heap.lt_size e
 |Ay ob u=>obtain⟨e,_⟩:=x;exact Heap.lt_size e
 |t9 ps=>exact Heap.lt_size (show h.get? a=some _ from x)
 |met f y=>exact Heap.lt_size (show h.get? a=some _ from x)
 |ext φ=>obtain⟨_,⟨_,e⟩,_⟩:=x;exact Heap.lt_size e
theorem Paired.yK{α β:Type}{F G:α->β->Prop}:∀ {l₁:List α} {l₂:List β},Paired F l₁ l₂->(∀a b,F a b->G a b)->Paired G l₁ l₂
 |_,_,.nil,_=>.nil
 |_,_,.cons r t,f=>.cons (f _ _ r) (Paired.yK t f)
theorem dg.ju(x:dg P w H h a o)(k:∀b u,(b=a\/H b=some (.own a))->h.get? b=some u->h'.get? b=some u)
 (ho:∀b,H b=some (.own a)->H' b=some (.own a)) (ht:∀b xs,H b=some (.tup xs)->H' b=some (.tup xs)):dg P w H' h' a o:=by
 induction o with
 |lst xs=>obtain⟨z,bz,n,r,e⟩:=x;exact⟨z,bz,n,r,k _ _ (.inl rfl) e⟩
 |tup xs=>obtain⟨z,bz,r,ob,e,c⟩:=x;exact⟨z,bz,r,ob,k _ _ (.inl rfl) e,c⟩
 |dK aG=>obtain⟨z,y,vs,r,ob,es,ep,e,c⟩:=x;exact⟨z,y,vs,r,ob,es,ep,k _ _ (.inl rfl) e,c⟩
 |dT aG=>
  obtain⟨z,y,xs,r,ob,es,ep,e,c⟩:=x
  exact⟨z,y,xs,Paired.yK r fun p q z=>⟨z.1,ht _ _ z.2.1,z.2.2⟩,ob,es,ep,k _ _ (.inl rfl) e,c⟩
 |set S n=>obtain⟨ob,es,ep,t,e,c⟩:=x;exact⟨ob,es,ep,t,k _ _ (.inl rfl) e,c⟩
 |ins C dx fs=>
  obtain⟨d,z,ne,e,mA,⟨od,es,ep,e2,c⟩,r⟩:=x
  exact⟨ho _ d,z,ne,k _ _ (.inl rfl) e,mA,⟨od,es,ep,k _ _ (.inr d) e2,c⟩,r⟩
 |own y=>obtain⟨ob,e⟩:=x;exact⟨ob,k _ _ (.inl rfl) e⟩
 |xd fs=>obtain⟨mA,⟨od,es,ep,e,c⟩,r⟩:=x;exact⟨mA,⟨od,es,ep,k _ _ (.inl rfl) e,c⟩,r⟩
 |Ur lo hi=>obtain⟨t,u,v,e⟩:=x;exact⟨t,u,v,k _ _ (.inl rfl) e⟩
 |Ay ob u ih=>obtain⟨e,q⟩:=x;exact⟨k _ _ (.inl rfl) e,ih q⟩
 |t9 ps=>
  have e:h.get? a=some {cls:=.none,data:=.fields ps}:=x
  show h'.get? a=some {cls:=.none,data:=.fields ps}
  exact k a _ (.inl rfl) e
 |met f y=>
  have e:h.get? a=some (zci (.ref f) (.ref y)):=x
  show h'.get? a=some (zci (.ref f) (.ref y))
  exact k a _ (.inl rfl) e
 |ext φ=>obtain⟨p,⟨o,e⟩,st⟩:=x;exact⟨st _ _ p fun o q=>k _ _ (.inl rfl) q,⟨o,k _ _ (.inl rfl) e⟩,st⟩
theorem l5.lt(x:l5 P w H h)(e:H a=some o):a<h.objs.size:=(x a o e).lt
theorem l5.fresh(x:l5 P w H h)(e:h.objs.size<=a):H a=none:=by
 cases q:H a with
 |none=>rfl
 |some u=>exact absurd (zaj (x.lt q) e) (zaE _)
theorem l5.kept(x:l5 P w H h)(k:∀b u,h.get? b=some u->h'.get? b=some u):l5 P w H h':=fun a o e=>
 (x a o e).ju (fun b u _ q=>k b u q) (fun _ q=>q) fun _ _ q=>q
theorem l5.laid(x:l5 P w H h)(k:∀b u,h.get? b=some u->h'.get? b=some u)(hp:h.objs.size<=a)(new:dg P w (upd H a o) h' a o):l5 P w (upd H a o) h':=fun b u e=>by
 have hn:=x.fresh hp
 by_cases hb:b=a
 ·subst hb;rw[ae] at e;cases e;exact new
 ·rw[aw hb] at e
  exact(x b u e).ju (fun c v _ q=>k c v q) (fun c q=>by rw[aw (aj q hn)];exact q) fun c xs q=>by rw[aw (aj q hn)];exact q
end
def Rd (H:Hp) (a:Addr) (u:HO):Prop:=H a=some u\/∃o,H a=some (.Ay o u)
theorem Rd.ok{P:zcD}{w:World}{H:Hp}{h:Heap}{a:Addr}{u:HO}(r:Rd H a u)(x:l5 P w H h):dg P w H h a u:=by
 rcases r with r |⟨o,r⟩
 ·exact x a u r
 ·obtain⟨_,q⟩:=x a _ r
  exact q
def Rw:Option HO->Prop
 |some (.lst _)=>True
 |some (.dK _)=>True
 |some (.dT _)=>True
 |some (.set _ _)=>True
 |some (.ins _ _ _)=>True
 |some (.ext _)=>True
 |_=>False
section
variable{P:zcD}{w:World}{H:Hp}{h h':Heap}{x e:Addr}{o':HO}
theorem l5.write(ok:l5 P w H h)(mu:Rw (H x))(he:e=x\/H e=some (.own x))(k:∀b u,b≠e->h.get? b=some u->h'.get? b=some u)(QX:∃u,h'.get? e=some u)
 (new:dg P w (upd H x o') h' x o'):l5 P w (upd H x o') h':=fun b u q=>by
 have Rx:∀c y,H c=some (.own y)->c≠x:=fun c y r z=>by subst z;rw[r] at mu;exact mu
 have VG:∀c xs,H c=some (.tup xs)->c≠x:=fun c xs r z=>by subst z;rw[r] at mu;exact mu
 by_cases hb:b=x
 ·subst hb;rw[ae] at q;cases q;exact new
 ·rw[aw hb] at q
  by_cases Ow:b=e
  ·have q':H b=some (.own x):=by
    rcases he with z |z
    ·exact absurd (Ow.trans z) hb
    ·rw[Ow];exact z
   rw[q] at q';cases q'
   obtain⟨v,hv⟩:=QX
   exact⟨v,by rw[Ow];exact hv⟩
  ·refine(ok b u q).ju (fun c v hc r=>k c v ?_ r) (fun c r=>by rw[aw (Rx c b r)];exact r) fun c xs r=>by rw[aw (VG c xs r)];exact r
   rcases hc with rfl |hc
   ·exact Ow
   ·rintro rfl
    rcases he with z |z
    ·exact Rx c b hc z
    ·rw[hc] at z;cases z;exact hb rfl
end
structure Un(fs ex:List Addr)(H H':Hp)(h h':Heap):Prop where
 keep:∀b o,h.get? b=some o->H b=none->b ∉ fs->b ∉ ex->h'.get? b=some o
 slot:∀b o,h.get? b=some o->H b=none->b∈fs->b ∉ ex->∃sl,h'.get? b=some {o with slots:=sl}
 free:∀b o,h.get? b=some o->H b=none->b ∉ ex->H' b=none
 there:∀b o,h.get? b=some o->b ∉ ex->∃o',h'.get? b=some o'
 qw:∀b xs,H b=some (.tup xs)->H' b=some (.tup xs)
 nJ:∀b o u,H b=some (.Ay o u)->H' b=some (.Ay o u)
 pS:∀b ps,H b=some (.t9 ps)->∃more,H' b=some (.t9 (ps++more))
section
variable{fs K9 ex VH:List Addr}{H H1 H2:Hp}{h h1 h2 h':Heap}{a x e:Addr}{o:HO}
theorem Un.any(u:Un fs ex H H1 h h1){b:Addr}{ob:Obj}(q:h.get? b=some ob)(n:H b=none)(hx:b ∉ ex):∃sl,h1.get? b=some {ob with slots:=sl}:=by
 by_cases hb:b∈fs
 ·exact u.slot b ob q n hb hx
 ·exact⟨ob.slots,u.keep b ob q n hb hx⟩
theorem Un.trans(a:Un fs ex H H1 h h1)(b:Un fs ex H1 H2 h1 h2):Un fs ex H H2 h h2 where
 keep:=fun c ob q n hc hx=>b.keep c ob (a.keep c ob q n hc hx) (a.free c ob q n hx) hc hx
 slot:=fun c ob q n hc hx=>by
  obtain⟨sl,e1⟩:=a.slot c ob q n hc hx
  obtain⟨VI,e2⟩:=b.slot c _ e1 (a.free c ob q n hx) hc hx
  exact⟨VI,e2⟩
 free:=fun c ob q n hx=>by
  obtain⟨o',e1⟩:=a.there c ob q hx
  exact b.free c o' e1 (a.free c ob q n hx) hx
 there:=fun c ob q hx=>by
  obtain⟨o',e1⟩:=a.there c ob q hx
  exact b.there c o' e1 hx
 qw:=fun c xs q=>b.qw c xs (a.qw c xs q)
 nJ:=fun c ob xs q=>b.nJ c ob xs (a.nJ c ob xs q)
 pS:=fun c ps q=>by
  obtain⟨m1,e1⟩:=a.pS c ps q
  obtain⟨m2,e2⟩:=b.pS c _ e1
  exact⟨m1++m2,by rw[e2,Array.append_assoc]⟩
theorem Un.kept(k:∀b u,h.get? b=some u->h'.get? b=some u):Un fs ex H H h h':=
 ⟨fun b ob q _ _ _=>k b ob q,fun b ob q _ _ _=>⟨ob.slots,k b ob q⟩,fun _ _ _ n _=>n,fun b ob q _=>⟨ob,k b ob q⟩,fun _ _ q=>q,fun _ _ _ q=>q,fun _ ps q=>⟨#[],by rw[q];simp⟩⟩
theorem Un.refl:Un fs ex H H h h:=Un.kept fun _ _ q=>q
theorem Un.laid(k:∀b u,h.get? b=some u->h'.get? b=some u)(hp:h.objs.size<=a)(hn:H a=none):Un fs ex H (upd H a o) h h' where
 keep:=fun b u q _ _ _=>k b u q
 slot:=fun b u q _ _ _=>⟨u.slots,k b u q⟩
 free:=fun b u q n _=>by rw[aw (zam (zaj (Heap.lt_size q) hp))];exact n
 there:=fun b u q _=>⟨u,k b u q⟩
 qw:=fun b xs q=>by rw[aw (aj q hn)];exact q
 nJ:=fun b u xs q=>by rw[aw (aj q hn)];exact q
 pS:=fun b ps q=>⟨#[],by rw[aw (aj q hn),q];simp⟩
theorem Un.write(mu:Rw (H x))(he:e=x\/H e=some (.own x))(k:∀b u,b≠e->h.get? b=some u->h'.get? b=some u)(QX:∃u,h'.get? e=some u):Un fs ex H (upd H x o) h h':=by
 have hx:∀b,H b=none->b≠x:=fun b n z=>by subst z;rw[n] at mu;exact mu
 have hb:∀b,H b=none->b≠e:=fun b n z=>by
  subst z
  rcases he with r |r
  ·exact hx b n r
  ·rw[n] at r;cases r
 have hm:∀b u,H b=some u->¬Rw (some u)->b≠x:=fun b u q nm z=>by subst z;rw[q] at mu;exact nm mu
 refine⟨fun b u q n _ _=>k b u (hb b n) q,fun b u q n _ _=>⟨u.slots,k b u (hb b n) q⟩,fun b u q n _=>by rw[aw (hx b n)];exact n,fun b u q _=>?_,
  fun b xs q=>by rw[aw (hm b _ q fun z=>z)];exact q,fun b u xs q=>by rw[aw (hm b _ q fun z=>z)];exact q,fun b ps q=>⟨#[],by rw[aw (hm b _ q fun z=>z),q];simp⟩⟩
 by_cases Ow:b=e
 ·subst Ow;exact QX
 ·exact⟨u,k b u Ow q⟩
theorem Un.mono(u:Un fs ex H H1 h h1)(hs:∀b∈fs,b∈K9)(hx:∀b∈ex,b∈VH):Un K9 VH H H1 h h1:=
 ⟨fun b ob q n hb he=>u.keep b ob q n (fun z=>hb (hs b z)) fun z=>he (hx b z),fun _ _ q n _ he=>u.any q n fun z=>he (hx _ z),fun b ob q n he=>u.free b ob q n fun z=>he (hx b z),fun b ob q he=>u.there b ob q fun z=>he (hx b z),u.qw,u.nJ,u.pS⟩
end
noncomputable def Us (h:Heap) (H:Hp):List Addr:=(zao h.objs.size).filter fun a=>(H a).isSome
noncomputable def qT (h:Heap) (H:Hp):Heap:=PySem.W.hideAll h (Us h H)
theorem xO(h:Heap)(H:Hp):(qT h H).objs.size=h.objs.size:=PySem.W.hideAll_size _ _
theorem nK{h:Heap}{H:Hp}{b:Addr}{o:Obj}(e:h.get? b=some o)(n:H b=none):(qT h H).get? b=some o:=
 PySem.W.hideAll_get _ e fun hm=>by
  have q:(H b).isSome=true:=(List.mem_filter.mp hm).2
  rw[n] at q;simp at q
theorem DE{h:Heap}{H:Hp}{b:Addr}{o:Obj}(e:(qT h H).get? b=some o):h.get? b=some o/\H b=none:=by
 have e':h.get? b=some o:=PySem.W.of_hideAll (Us h H) e
 refine⟨e',?_⟩
 cases q:H b with
 |none=>rfl
 |some x=>
  have hm:b∈Us h H:=List.mem_filter.mpr ⟨zbM.mpr (Heap.lt_size e'),by simp[q]⟩
  have z:(qT h H).get? b=none:=PySem.W.hideAll_none (Us h H) hm
  rw[z] at e;cases e
noncomputable def La (g h:Heap) (L:Addr):List (Addr×Obj):=(zao h.objs.size).filterMap fun a=>if a=L\/(g.get? a).isSome=true then none else (h.get? a).map fun o=>(a,o)
noncomputable def rest (g h:Heap) (L d:Addr):List (Addr×Obj):=(La g h L).filter fun p=>decide (p.1≠d)
structure Mod(K:k0)(mg:Str->Option Value)(base:Heap):Prop where
 Ry:K.In base
 glob:base.Ns zcy mg
 blt:∃mb,base.Ns builtinsNs mb/\∀x:Str,x≠"__name__"->mb x=bootBuiltins x
 nolimit:base.NoLimit
structure Cx where
 prog:zcD
 w:World
 K:k0
 mg:Str->Option Value
 base:Heap
 A:zcC
 N:List Str
 s₀:zcB
 H₀:Hp
 env:Env
 outer:List Env
 stack:List Env
 ex:List Addr
 fn:Str->Bool
 calm:Bool
 pn:List (Addr×Obj)
 xe:Value->zcB->Prop
noncomputable def dG (l:List Env):List Addr:=l.filterMap (·.frame)
noncomputable abbrev Cx.fs (X:Cx):List Addr:=dG X.outer
def Ut (sc:Scope) (x:Str):Prop:=sc.names.lookup x=some .local\/sc.names.lookup x=some .cell\/sc.names.lookup x=some .free
def Loc (sc:Scope) (x:Str):Prop:=sc.names.lookup x=some .local\/sc.names.lookup x=some .cell
def Look (env:Env) (h:Heap) (m:Str->Option Value) (x:Str) (u:Value):Prop:=
 (env.kindOf x=some .local/\m x=some u)\/((env.kindOf x=some .cell\/env.kindOf x=some .free)/\∃c,env.cells.lookup x=some c/\h.IsCell c (some u))
structure Cx.Ok(X:Cx):Prop where
 mod:Mod X.K X.mg X.base
 kind:X.env.scope.kind=.function
 glob:X.env.globals=zcy
 blt:X.env.builtins=builtinsNs
 above:X.s₀.heap.objs.size<=X.env.locals
 inj:∀x y c,X.env.cells.lookup x=some c->X.env.cells.lookup y=some c->x=y
 has:∀x,(X.env.kindOf x=some .cell\/X.env.kindOf x=some .free)->∃c,X.env.cells.lookup x=some c
 Lb:∀x c,X.fn x=true->X.env.cells.lookup x=some c->X.s₀.heap.objs.size<=c
 hd:X.calm=true->X.A.handled=none
 frames:X.A.frames=some X.stack
 Uu:X.stack=X.outer\/(X.stack=X.env::X.outer/\X.env.frame=some X.env.locals)
 YS:∀b∈X.ex,b≠X.env.locals/\∀x c,X.env.cells.lookup x=some c->c≠b
 bs:∀b o,X.base.get? b=some o->X.s₀.heap.get? b=some o/\X.H₀ b=none
 yM:X.base.objs.size<=X.s₀.heap.objs.size
 GK:∀b o,X.base.get? b=some o->b ∉ X.ex
 Lc:∀b∈X.ex,b ∉ X.fs
 nL:X.s₀.heap.FunFrames X.base X.outer
 GL:∀b∈X.fs,X.H₀ b=none
structure Inv(X:Cx)(pins:List (Addr×Obj))(σ:List (Option V))(H:Hp)(s:zcB):Prop where
 ok:X.Ok
 os:s.os=X.s₀.os
 bare:AllBare s.gens
 base:Un X.fs X.ex X.H₀ H X.s₀.heap s.heap
 loc:∃m,s.heap.Ns X.env.locals m/\∀(i:Nat) (x:Str) (v:V),X.N[i]?=some x->σ[i]?=some (some v)->Ut X.env.scope x->∃u,RelV v u/\Look X.env s.heap m x u
 cell:∀x c,X.env.cells.lookup x=some c->∃v,s.heap.IsCell c v
 free:H X.env.locals=none
 nu:∀x c,X.env.cells.lookup x=some c->H c=none
 pin:∀p∈X.pn++pins,s.heap.get? p.1=some p.2/\H p.1=none/\p.1≠X.env.locals/\p.1 ∉ X.fs/\∀v,p.2.data≠.cell v
 cS:l5 X.prog X.w H s.heap
 len:σ.length=X.N.length
section
variable{X:Cx}{pins:List (Addr×Obj)}{σ:List (Option V)}{H H':Hp}{s:zcB}{h':Heap}
theorem Cx.Ok.VJ(ok:X.Ok){b:Addr}{o:Obj}(e:X.base.get? b=some o):b ∉ X.fs:=fun hb=>by
 have:=(ok.nL.mem hb).1
 rw[e] at this;cases this
theorem Inv.bs(I:Inv X pins σ H s):∀b o,X.base.get? b=some o->s.heap.get? b=some o/\H b=none:=fun b o e=>
 ⟨I.base.keep b o (I.ok.bs b o e).1 (I.ok.bs b o e).2 (I.ok.VJ e) (I.ok.GK b o e),I.base.free b o (I.ok.bs b o e).1 (I.ok.bs b o e).2 (I.ok.GK b o e)⟩
theorem Inv.bk(I:Inv X pins σ H s):∀b o,X.base.get? b=some o->s.heap.get? b=some o:=fun b o e=>(I.bs b o e).1
theorem Inv.mod(I:Inv X pins σ H s):Mod X.K X.mg X.base:=I.ok.mod
theorem Inv.uI(I:Inv X pins σ H s):X.K.In s.heap:=I.ok.mod.Ry.keeps I.bk
theorem Inv.lt(I:Inv X pins σ H s):X.env.locals<s.heap.objs.size:=let ⟨_,hn,_⟩:=I.loc;hn.lt
theorem Inv.sz(I:Inv X pins σ H s):X.s₀.heap.objs.size<=s.heap.objs.size:=zan I.ok.above (zb6 I.lt)
theorem Inv.VL(I:Inv X pins σ H s){a:Addr}(h:s.heap.objs.size<=a):a ∉ X.fs:=fun hb=>by
 obtain⟨_,o,ho,_⟩:=I.ok.nL.mem hb
 exact absurd (zaj (Heap.lt_size ho) (zan I.sz h)) (zaE _)
theorem Inv.M7(I:Inv X pins σ H s):∀x c,X.env.cells.lookup x=some c->c≠X.env.locals:=fun x c e z=>by
 obtain⟨v,o,ho,hd⟩:=I.cell x c e
 obtain⟨m,⟨o',es,ep,Ox,B4,_⟩,_⟩:=I.loc
 rw[z,Ox] at ho;cases ho;rw[B4] at hd;cases hd
theorem Inv.nL(I:Inv X pins σ H s):s.heap.FunFrames X.base X.outer:=by
 have all:∀(l:List Env),(∀b∈dG l,b∈X.fs)->X.s₀.heap.FunFrames X.base l->s.heap.FunFrames X.base l:=by
  intro l
  induction l with
  |nil=>intro _ _;trivial
  |cons env r ih=>
   intro hs hl
   obtain⟨hk,⟨L,o,hf,hn,ho,hd⟩,hr⟩:=hl
   have hL:L∈X.fs:=hs L (by unfold dG;rw[zca,hf];exact UH)
   obtain⟨sl,e⟩:=I.base.slot L o ho (I.ok.GL L hL) hL fun z=>I.ok.Lc L z hL
   exact⟨hk,⟨L,_,hf,hn,e,hd⟩,ih (fun b hb=>hs b (by unfold dG;rw[zca,hf];exact zad _ hb)) hr⟩
 exact all X.outer (fun _ hb=>hb) I.ok.nL
theorem Inv.stack(I:Inv X pins σ H s):s.heap.FunFrames X.base X.stack:=by
 rcases I.ok.Uu with e |⟨e,hf⟩
 ·rw[e];exact I.nL
 ·rw[e]
  obtain⟨m,hn,_⟩:=I.loc
  refine .cons (by rw[I.ok.kind];decide) hf hn ?_ I.nL
  exact Heap.get?_none_of_le (zan I.ok.yM I.ok.above)
theorem Inv.vt(I:Inv X pins σ H s):∀b∈dG X.stack,b∈X.env.locals::X.fs:=fun b hb=>by
 rcases I.ok.Uu with e |⟨e,hf⟩
 ·rw[e] at hb;exact zad _ hb
 ·rw[e] at hb
  unfold dG at hb
  rw[zca,hf] at hb
  exact hb
theorem Inv.yN(I:Inv X pins σ H s):∀b∈dG X.stack,H b=none:=fun b hb=>by
 rcases Zd.mp (I.vt b hb) with e |hb
 ·rw[e];exact I.free
 ·obtain⟨_,o,ho,_⟩:=I.ok.nL.mem hb
  exact I.base.free b o ho (I.ok.GL b hb) fun z=>I.ok.Lc b z hb
theorem Inv.step{g':Array GenState}{t':Nat}{d':Drawn}{ch:List Addr}(I:Inv X pins σ H s)
 (KD:∀b∈ch,(b∈X.ex\/X.s₀.heap.objs.size<=b)/\b≠X.env.locals/\(∀x c,X.env.cells.lookup x=some c->c≠b)/\∀p∈X.pn++pins,p.1≠b)
 (keep:∀b o,b≠X.env.locals->b ∉ X.fs->b ∉ ch->s.heap.get? b=some o->H b=none->h'.get? b=some o)
 (slot:∀b o,b≠X.env.locals->b∈X.fs->b ∉ ch->s.heap.get? b=some o->H b=none->∃sl,h'.get? b=some {o with slots:=sl}) (free:∀b o,b ∉ ch->s.heap.get? b=some o->H b=none->H' b=none)
 (there:∀b o,b ∉ ch->s.heap.get? b=some o->∃o',h'.get? b=some o')
 (qw:∀b xs,H b=some (.tup xs)->H' b=some (.tup xs)) (nJ:∀b o u,H b=some (.Ay o u)->H' b=some (.Ay o u)) (pS:∀b ps,H b=some (.t9 ps)->∃more,H' b=some (.t9 (ps++more)))
 (ns:∀m,s.heap.Ns X.env.locals m->h'.Ns X.env.locals m) (cS:l5 X.prog X.w H' h') (hg:AllBare g') :
 Inv X pins σ H' {s with heap:=h',gens:=g',drawn:=d',toks:=t' }:=by
 have YT:∀b o,X.s₀.heap.get? b=some o->b≠X.env.locals:=fun b o e=>zam (zaj (Heap.lt_size e) I.ok.above)
 have Uv:∀b o,X.s₀.heap.get? b=some o->b ∉ X.ex->b ∉ ch:=fun b o e hx hb=>by
  rcases(KD b hb).1 with z |z
  ·exact hx z
  ·exact absurd (zaj (Heap.lt_size e) z) (zaE _)
 have cellK:∀x c,X.env.cells.lookup x=some c->∀v,s.heap.IsCell c v->h'.IsCell c v:=fun x c e v ⟨o,ho,hd⟩=>by
  have Rz:c ∉ ch:=fun z=>(KD c z).2.2.1 x c e rfl
  by_cases hc:c∈X.fs
  ·obtain⟨sl,q⟩:=slot c o (I.M7 x c e) hc Rz ho (I.nu x c e)
   exact⟨_,q,hd⟩
  ·exact⟨o,keep c o (I.M7 x c e) hc Rz ho (I.nu x c e),hd⟩
 refine⟨I.ok,I.os,hg,⟨fun b o e n hb hx=>?_,fun b o e n hb hx=>?_,fun b o e n hx=>?_,fun b o e hx=>?_,fun b xs e=>qw b xs (I.base.qw b xs e),fun b o xs e=>nJ b o xs (I.base.nJ b o xs e),fun b ps e=>?_⟩,?_,fun x c e=>?_,?_,fun x c e=>?_,fun p hp=>?_,cS,I.len⟩
 ·exact keep b o (YT b o e) hb (Uv b o e hx) (I.base.keep b o e n hb hx) (I.base.free b o e n hx)
 ·obtain⟨sl,e1⟩:=I.base.slot b o e n hb hx
  obtain⟨VI,e2⟩:=slot b _ (YT b o e) hb (Uv b o e hx) e1 (I.base.free b o e n hx)
  exact⟨VI,e2⟩
 ·obtain⟨o',e1⟩:=I.base.there b o e hx
  exact free b o' (Uv b o e hx) e1 (I.base.free b o e n hx)
 ·obtain⟨o',e1⟩:=I.base.there b o e hx
  exact there b o' (Uv b o e hx) e1
 ·obtain⟨m1,e1⟩:=I.base.pS b ps e
  obtain⟨m2,e2⟩:=pS b _ e1
  exact⟨m1++m2,by rw[e2,Array.append_assoc]⟩
 ·obtain⟨m,hn,hl⟩:=I.loc
  refine⟨m,ns m hn,fun i x v e1 e2 e3=>?_⟩
  obtain⟨u,r,l⟩:=hl i x v e1 e2 e3
  refine⟨u,r,?_⟩
  rcases l with l |⟨k,c,e,z⟩
  ·exact .inl l
  ·exact .inr ⟨k,c,e,cellK x c e _ z⟩
 ·obtain⟨v,z⟩:=I.cell x c e
  exact⟨v,cellK x c e v z⟩
 ·obtain⟨m,⟨o,_,_,ho,_⟩,_⟩:=I.loc
  exact free _ o (fun z=>(KD _ z).2.1 rfl) ho I.free
 ·obtain⟨v,o,ho,hd⟩:=I.cell x c e
  exact free c o (fun z=>(KD c z).2.2.1 x c e rfl) ho (I.nu x c e)
 ·obtain⟨e,n,ne,nf,d⟩:=I.pin p hp
  have Rz:p.1 ∉ ch:=fun z=>(KD p.1 z).2.2.2 p hp rfl
  exact⟨keep p.1 p.2 ne nf Rz e n,free p.1 p.2 Rz e n,ne,nf,d⟩
theorem Inv.un{t':Nat}(I:Inv X pins σ H s)(u:Un X.fs [] H H' s.heap h')(cS:l5 X.prog X.w H' h'):Inv X pins σ H' {s with heap:=h',toks:=t' }:=by
 obtain⟨m,⟨o,es,ep,ho,r⟩,_⟩:=id I.loc
 obtain⟨sl,hL⟩:=u.any ho I.free (by simp)
 exact I.step (g':=s.gens) (d':=s.drawn) (ch:=[]) (fun _ z=>nomatch z) (fun b o _ hb _ e n=>u.keep b o e n hb (by simp)) (fun b o _ hb _ e n=>u.slot b o e n hb (by simp)) (fun b o _ e n=>u.free b o e n (by simp)) (fun b o _ e=>u.there b o e (by simp)) u.qw u.nJ u.pS (fun m' hm=>by
  obtain⟨o',VM,VN,Ox,r'⟩:=hm
  rw[ho] at Ox;cases Ox
  exact⟨_,VM,VN,hL,r'⟩) cS I.bare
theorem Inv.call{g':Array GenState}{t':Nat}{d':Drawn}{ch:List Addr}(I:Inv X pins σ H s)(u:Un (dG X.stack) ch H H' s.heap h')(cS:l5 X.prog X.w H' h')(hg:AllBare g')
 (KD:∀b∈ch,(b∈X.ex\/X.s₀.heap.objs.size<=b)/\b≠X.env.locals/\(∀x c,X.env.cells.lookup x=some c->c≠b)/\∀p∈X.pn++pins,p.1≠b) :
 Inv X pins σ H' {s with heap:=h',gens:=g',drawn:=d',toks:=t' }:=by
 obtain⟨m,⟨o,es,ep,ho,r⟩,_⟩:=id I.loc
 obtain⟨sl,hL⟩:=u.any ho I.free fun z=>(KD _ z).2.1 rfl
 exact I.step (ch:=ch) KD (fun b o hL hb hc e n=>u.keep b o e n (fun z=>(Zd.mp (I.vt b z)).elim hL hb) hc) (fun b o _ _ hc e n=>u.any e n hc) (fun b o hc e n=>u.free b o e n hc) (fun b o hc e=>u.there b o e hc) u.qw u.nJ u.pS (fun m' hm=>by
  obtain⟨o',VM,VN,Ox,r'⟩:=hm
  rw[ho] at Ox;cases Ox
  exact⟨_,VM,VN,hL,r'⟩) cS hg
theorem Inv.turned{t':Nat}{it:Addr}(I:Inv X pins σ H s)(k:∀b o,b≠it->s.heap.get? b=some o->h'.get? b=some o)(hn:H it=none)(hL:it≠X.env.locals)
 (h1:it∈X.ex\/X.s₀.heap.objs.size<=it) (h2:∀x c,X.env.cells.lookup x=some c->c≠it) (h3:∀p∈X.pn++pins,p.1≠it):Inv X pins σ H {s with heap:=h',toks:=t' }:=by
 have RA:∀b u,H b=some u->b≠it:=fun b u e z=>by rw[z,hn] at e;cases e
 refine I.step (g':=s.gens) (d':=s.drawn) (ch:=[it]) (fun b hb=>?_) (fun b o _ _ hc e _=>k b o (fun z=>hc (by simp[z])) e) (fun b o _ _ hc e _=>⟨o.slots,k b o (fun z=>hc (by simp[z])) e⟩) (fun _ _ _ _ n=>n)
  (fun b o hc e=>⟨o,k b o (fun z=>hc (by simp[z])) e⟩) (fun _ _ e=>e) (fun _ _ _ e=>e) (fun b ps e=>⟨#[],by rw[e];simp⟩) (fun m hm=>?_) (fun b u e=>?_) I.bare
 ·have e:b=it:=by simpa using hb
  subst e
  exact⟨h1,hL,h2,h3⟩
 ·obtain⟨o,es,ep,ho,r⟩:=hm
  exact⟨o,es,ep,k _ o (Ne.symm hL) ho,r⟩
 ·refine(I.cS b u e).ju (fun c v hc q=>k c v ?_ q) (fun _ q=>q) fun _ _ q=>q
  rcases hc with z |z
  ·rw[z];exact RA b u e
  ·exact RA c _ z
theorem Inv.tok(I:Inv X pins σ H s)(t:Nat):Inv X pins σ H {s with toks:=t}:=I.un (h':=s.heap) (t':=t) Un.refl I.cS
theorem Inv.kept{t':Nat}(I:Inv X pins σ H s)(k:∀b u,s.heap.get? b=some u->h'.get? b=some u):Inv X pins σ H {s with heap:=h',toks:=t' }:=I.un (Un.kept k) (I.cS.kept k)
theorem Inv.laid{a:Addr}{o:HO}{t':Nat}(I:Inv X pins σ H s)(k:∀b u,s.heap.get? b=some u->h'.get? b=some u)(hp:s.heap.objs.size<=a)(new:dg X.prog X.w (upd H a o) h' a o) :
 Inv X pins σ (upd H a o) {s with heap:=h',toks:=t' }:=I.un (Un.laid k hp (I.cS.fresh hp)) (I.cS.laid k hp new)
theorem Inv.write{x e:Addr}{o:HO}{t':Nat}(I:Inv X pins σ H s)(mu:Rw (H x))(he:e=x\/H e=some (.own x))(k:∀b u,b≠e->s.heap.get? b=some u->h'.get? b=some u)(QX:∃u,h'.get? e=some u)
 (new:dg X.prog X.w (upd H x o) h' x o):Inv X pins σ (upd H x o) {s with heap:=h',toks:=t' }:=I.un (Un.write mu he k QX) (I.cS.write mu he k QX new)
theorem Inv.DF{Az:List (Addr×Obj)}(I:Inv X pins σ H s)(h:∀p∈Az,s.heap.get? p.1=some p.2/\H p.1=none/\p.1≠X.env.locals/\p.1 ∉ X.fs/\∀v,p.2.data≠.cell v):Inv X Az σ H s:=
 ⟨I.ok,I.os,I.bare,I.base,I.loc,I.cell,I.free,I.nu,fun p hp=>(zap.mp hp).elim (fun z=>I.pin p (zby _ z)) (h p),I.cS,I.len⟩
theorem AA{N:List Str}(hN:N.Nodup){i j:Nat}{x:Str}(a:N[i]?=some x)(b:N[j]?=some x):i=j:=by
 obtain⟨h1,e1⟩:=WD.mp a
 obtain⟨h2,e2⟩:=WD.mp b
 exact(List.getElem_inj hN).mp (e1.trans e2.symm)
theorem xP{M:Model}{A:zcC}{E:Value->zcB->Prop}{i:Nat}{x:Str}{v:V}{u:Value}{Q:Unit->zcB->Prop}(I:Inv X pins σ H s)(hN:X.N.Nodup)(hi:X.N[i]?=some x)(hx:Loc X.env.scope x)(r:RelV v u)
 (h:∀s',Inv X pins (σ.set i (some v)) H s'->(∃a,Heap.SameBut a s.heap s'.heap/\(a=X.env.locals\/X.env.cells.lookup x=some a))->Q () s') (hf:X.fn x=true\/X.env.scope.names.lookup x=some .local:=by first |exact .inl rfl |exact .inr rfl |assumption):wpAny M A (storeName X.env x u) Q E s:=by
 obtain⟨m,hn,hl⟩:=id I.loc
 have VO:(X.env.scope.kind==.class ||(X.env.scope.kind==.module&&X.env.locals != X.env.globals))=false:=by rw[I.ok.kind];rfl
 have RB:i<σ.length:=by rw[I.len];exact(WD.mp hi).1
 have M7:=I.M7
 have tracked:∀ {a:Addr} {h':Heap},(∃o,s.heap.get? a=some o/\H a=none)->Heap.SameBut a s.heap h'->l5 X.prog X.w H h':=fun {a h'} ha hs b ob e=>by
  obtain⟨_,_,qU⟩:=ha
  refine(I.cS b ob e).ju (fun c w' hc q=>(hs.2 c ?_).trans q) (fun _ q=>q) fun _ _ q=>q
  rintro rfl
  rcases hc with rfl |hc
  ·rw[qU] at e;cases e
  ·rw[qU] at hc;cases hc
 rcases hx with hk |hk
 ·refine wpAny_storeName_local hk hn (fun h' hn' hs=>?_) VO
  obtain⟨oL,_,_,hoL,_⟩:=id hn
  refine h _ ⟨I.ok,I.os,I.bare,⟨fun b o e n hb hx=>?_,fun b o e n hb hx=>?_,I.base.free,fun b o e hx=>?_,I.base.qw,I.base.nJ,I.base.pS⟩,⟨_,hn',fun j y v' e1 e2 e3=>?_⟩,fun y c e=>?_,I.free,I.nu,fun p hp=>?_,tracked ⟨oL,hoL,I.free⟩ hs,by simpa using I.len⟩ ⟨_,hs,.inl rfl⟩
  ·exact(hs.2 b (zam (zaj (Heap.lt_size e) I.ok.above))).trans (I.base.keep b o e n hb hx)
  ·obtain⟨sl,e1⟩:=I.base.slot b o e n hb hx
   exact⟨sl,(hs.2 b (zam (zaj (Heap.lt_size e) I.ok.above))).trans e1⟩
  ·obtain⟨o',e1⟩:=I.base.there b o e hx
   exact⟨o',(hs.2 b (zam (zaj (Heap.lt_size e) I.ok.above))).trans e1⟩
  ·by_cases hj:j=i
   ·subst hj
    rw[hi] at e1;cases e1
    rw[zbV RB] at e2
    cases e2
    exact⟨u,r,.inl ⟨hk,by simp⟩⟩
   ·rw[zb7 (Ne.symm hj)] at e2
    obtain⟨u',r',q⟩:=hl j y v' e1 e2 e3
    refine⟨u',r',?_⟩
    rcases q with ⟨k,e⟩ |⟨k,c,e,z⟩
    ·refine .inl ⟨k,?_⟩
     have:y≠x:=fun e=>hj (AA hN e1 (e▸hi))
     simp[this,e]
    ·exact .inr ⟨k,c,e,z.sameBut hs (M7 y c e)⟩
  ·obtain⟨w',z⟩:=I.cell y c e
   exact⟨w',z.sameBut hs (M7 y c e)⟩
  ·obtain⟨e,n,ne,nf,d⟩:=I.pin p hp
   exact⟨(hs.2 p.1 ne).trans e,n,ne,nf,d⟩
 ·have Oy:X.fn x=true:=by
   rcases hf with z |z
   ·exact z
   ·rw[z] at hk;cases hk
  obtain⟨c,hc⟩:=I.ok.has x (.inl hk)
  obtain⟨w',z⟩:=I.cell x c hc
  refine wpAny_storeName_cell I.ok.kind hk hc z (fun h' RC hs=>?_)
  obtain⟨oc,QY,VP⟩:=id z
  refine h {s with heap:=h' } ⟨I.ok,I.os,I.bare,⟨fun b o e n hb hx=>?_,fun b o e n hb hx=>?_,I.base.free,fun b o e hx=>?_,I.base.qw,I.base.nJ,I.base.pS⟩,⟨m,hn.sameBut hs (Ne.symm (M7 x c hc)),fun j y v' e1 e2 e3=>?_⟩,fun y c' e=>?_,I.free,I.nu,fun p hp=>?_,tracked ⟨oc,QY,I.nu x c hc⟩ hs,by simpa using I.len⟩ ⟨c,hs,.inr hc⟩
  ·exact(hs.2 b (zam (zaj (Heap.lt_size e) (I.ok.Lb x c Oy hc)))).trans (I.base.keep b o e n hb hx)
  ·obtain⟨sl,e1⟩:=I.base.slot b o e n hb hx
   exact⟨sl,(hs.2 b (zam (zaj (Heap.lt_size e) (I.ok.Lb x c Oy hc)))).trans e1⟩
  ·obtain⟨o',e1⟩:=I.base.there b o e hx
   exact⟨o',(hs.2 b (zam (zaj (Heap.lt_size e) (I.ok.Lb x c Oy hc)))).trans e1⟩
  ·by_cases hj:j=i
   ·subst hj
    rw[hi] at e1;cases e1
    rw[zbV RB] at e2
    cases e2
    exact⟨u,r,.inr ⟨.inl hk,c,hc,RC⟩⟩
   ·rw[zb7 (Ne.symm hj)] at e2
    obtain⟨u',r',q⟩:=hl j y v' e1 e2 e3
    refine⟨u',r',?_⟩
    rcases q with q |⟨k,c',e,z'⟩
    ·exact .inl q
    ·refine .inr ⟨k,c',e,z'.sameBut hs ?_⟩
     rintro rfl
     exact hj (AA hN e1 (I.ok.inj _ _ _ e hc▸hi))
  ·by_cases xc:c'=c
   ·subst xc;exact⟨_,RC⟩
   ·obtain⟨w2,z2⟩:=I.cell y c' e
    exact⟨w2,z2.sameBut hs xc⟩
  ·obtain⟨e,n,ne,nf,d⟩:=I.pin p hp
   refine⟨(hs.2 p.1 ?_).trans e,n,ne,nf,d⟩
   intro q
   rw[q,QY] at e
   have q':oc=p.2:=zax.inj e
   exact d w' (by rw[<- q'];exact VP)
theorem AB{M:Model}{A:zcC}{E:Value->zcB->Prop}{i:Nat}{x:Str}{v:V}{u:Value}{Q:Unit->zcB->Prop}(I:Inv X pins σ H s)(hN:X.N.Nodup)(hi:X.N[i]?=some x)(hx:Loc X.env.scope x)(r:RelV v u)
 (h:∀s',Inv X pins (σ.set i (some v)) H s'->Q () s') (hf:X.fn x=true\/X.env.scope.names.lookup x=some .local:=by first |exact .inl rfl |exact .inr rfl |assumption):wpAny M A (storeName X.env x u) Q E s:=
 xP I hN hi hx r (fun s' I' _=>h s' I') hf
theorem Inv.RD{s':zcB}{ch:List Addr}(I:Inv X pins σ H s)(ho:s'.os=s.os)(u:Un (dG X.stack) ch H H' s.heap s'.heap)(cS:l5 X.prog X.w H' s'.heap)(hg:AllBare s'.gens)
 (KD:∀b∈ch,(b∈X.ex\/X.s₀.heap.objs.size<=b)/\b≠X.env.locals/\(∀x c,X.env.cells.lookup x=some c->c≠b)/\∀p∈X.pn++pins,p.1≠b):Inv X pins σ H' s':=by
 obtain⟨h',g',d',t',o'⟩:=s'
 have e:o'=s.os:=ho
 subst e
 exact I.call (g':=g') (t':=t') (d':=d') u cS hg KD
end
abbrev XK:=Value->Option Addr->Hp->Prop
abbrev St:=List (Option V)
abbrev VK:=V->Hp->Prop
abbrev TE:=St->Hp->VK->Prop
abbrev TT:=St->Hp->(Bool->Hp->Prop)->Prop
abbrev TA:=St->Hp->(List V->Hp->Prop)->Prop
structure Ends where
 nx:St->Hp->Prop
 rt:VK
 bk:St->Hp->Prop:=fun _ _=>False
 ct:St->Hp->Prop:=fun _ _=>False
abbrev TS:=Ends->St->Hp->Prop
def EP (X:Cx) (pins:List (Addr×Obj)) (σ:St) (Q:VK) (u:Value) (s':zcB):Prop:=∃v H',Inv X pins σ H' s'/\RelV v u/\Q v H'
def TP (X:Cx) (pins:List (Addr×Obj)) (σ:St) (Q:Bool->Hp->Prop) (b:Bool) (s':zcB):Prop:=∃H',Inv X pins σ H' s'/\Q b H'
def AP (X:Cx) (pins:List (Addr×Obj)) (σ:St) (Q:List V->Hp->Prop) (us:List Value) (s':zcB):Prop:=∃vs H',Inv X pins σ H' s'/\Vals vs us/\Q vs H'
def SP (X:Cx) (pins:List (Addr×Obj)) (D:Ends) (f:Flow) (s':zcB):Prop:=
 match f with
 |.next=>∃σ' H',Inv X pins σ' H' s'/\D.nx σ' H'
 |.brk=>∃σ' H',Inv X pins σ' H' s'/\D.bk σ' H'
 |.cont=>∃σ' H',Inv X pins σ' H' s'/\D.ct σ' H'
 |.ret u=>∃v σ' H',Inv X pins σ' H' s'/\RelV v u/\D.rt v H'
def PE (X:Cx) (e:Expr) (t:TE):Prop:=
 ∀(pins:List (Addr×Obj)) (s:zcB) (σ:St) (H:Hp) (Q:VK),Inv X pins σ H s->t σ H Q->wpAny (model X.prog X.w) X.A (eval e X.env) (EP X pins σ Q) X.xe s
def PT (X:Cx) (e:Expr) (t:TT):Prop:=
 ∀(pins:List (Addr×Obj)) (s:zcB) (σ:St) (H:Hp) (Q:Bool->Hp->Prop),Inv X pins σ H s->t σ H Q->wpAny (model X.prog X.w) X.A (isTrue e X.env (eval e X.env)) (TP X pins σ Q) X.xe s
def PW (X:Cx) (e:Expr) (t:TT):Prop:=
 ∀(whole:Sem Value) (pins:List (Addr×Obj)) (s:zcB) (σ:St) (H:Hp) (Q:Bool->Hp->Prop),Inv X pins σ H s->t σ H Q->wpAny (model X.prog X.w) X.A (isTrue e X.env whole) (TP X pins σ Q) X.xe s
theorem PW.pt{X:Cx}{e:Expr}{t:TT}(h:PW X e t):PT X e t:=h _
def PA (X:Cx) (es:List Expr) (t:TA):Prop:=
 ∀(pos:Pos) (pins:List (Addr×Obj)) (s:zcB) (σ:St) (H:Hp) (Q:List V->Hp->Prop),Inv X pins σ H s->t σ H Q->wpAny (model X.prog X.w) X.A (spliced (backTo pos (zcx es X.env))) (AP X pins σ Q) X.xe s
def PS (X:Cx) (st:Stmt) (t:TS):Prop:=
 ∀(pins:List (Addr×Obj)) (s:zcB) (σ:St) (H:Hp) (D:Ends),Inv X pins σ H s->t D σ H->wpAny (model X.prog X.w) X.A (exec st X.env) (SP X pins D) X.xe s
def B5 (X:Cx) (st:List Stmt) (t:TS):Prop:=
 ∀(pins:List (Addr×Obj)) (s:zcB) (σ:St) (H:Hp) (D:Ends),Inv X pins σ H s->t D σ H->wpAny (model X.prog X.w) X.A (execs st X.env) (SP X pins D) X.xe s
theorem fK{α:Type}{t:Sem α}{Q Q':α->zcB->Prop}{M:Model}{A:zcC}{E:Value->zcB->Prop}{s:zcB}(h:wpAny M A t Q E s)(hQ:∀a s,Q a s->Q' a s):wpAny M A t Q' E s:=wpAny_mono h hQ fun _ _ x=>x
section
variable{X:Cx}
theorem bin{a b:Expr}{ta tb:TE}(ha:PE X a ta)(hb:PE X b tb){pins:List (Addr×Obj)}{s:zcB}{σ:St}{H:Hp}{R:V->V->Hp->Prop}(I:Inv X pins σ H s)(h:ta σ H fun x H1=>tb σ H1 fun y H2=>R x y H2)
 {α:Type} {Q:α->zcB->Prop} {f:Value->Value->Sem α}
 (hf:∀v u s2 x y H2,Inv X pins σ H2 s2->RelV x v->RelV y u->R x y H2->wpAny (model X.prog X.w) X.A (f v u) Q X.xe s2) :
 wpAny (model X.prog X.w) X.A (eval a X.env) (fun v s₁=>wpAny (model X.prog X.w) X.A (eval b X.env) (fun u s₂=>wpAny (model X.prog X.w) X.A (f v u) Q X.xe s₂) X.xe s₁) X.xe s:=by
 refine fK (ha pins s σ H _ I h) fun v s1 zqz=>?_
 obtain⟨x,H1,I1,r1,q1⟩:=zqz
 refine fK (hb pins s1 σ H1 _ I1 q1) fun u s2 zqz=>?_
 obtain⟨y,H2,I2,r2,q2⟩:=zqz
 exact hf v u s2 x y H2 I2 r1 r2 q2
def YU (Q:V->Prop):Option (Option V)->Prop
 |some (some v)=>Q v
 |_=>False
theorem Oz{Q:V->Prop}:∀ {o:Option (Option V)},YU Q o->∃v,o=some (some v)/\Q v
 |some (some v),h=>⟨v,rfl,h⟩
 |some none,h=>h.elim
 |none,h=>h.elim
def gb (i:Nat):TE:=fun σ H Q=>YU (fun v=>Q v H) σ[i]?
def tC (v:V):TE:=fun _ H Q=>Q v H
theorem OA{i:Nat}{x:Str}{pos:Pos}(hN:X.N[i]?=some x)(hv:Ut X.env.scope x)(hd:(x==("__debug__":Str))=false:=by decide)(DG:(x==("__classdict__":Str))=false:=by decide):PE X (.Name x pos) (gb i):=by
 intro pins s σ H Q I h
 obtain⟨v,e,h⟩:=Oz h
 obtain⟨m,hn,hl⟩:=I.loc
 obtain⟨u,r,l⟩:=hl i x v hN e hv
 have fin:EP X pins σ Q u s:=⟨v,H,I,r,h⟩
 rcases l with ⟨hk,hm⟩ |⟨hk,c,hc,ua⟩
 ·exact wpAny_Name (wpAny_loadName_local I.ok.kind hk hn hm fin) hd
 ·rcases hk with hk |hk
  ·exact wpAny_Name (wpAny_loadName_cell I.ok.kind hk hc ua fin) hd
  ·exact wpAny_Name (wpAny_loadName_free I.ok.kind hk hc ua fin DG) hd
theorem ak{i j pos}:PE X (.Constant (.int i) j pos) (tC (.int i)):=fun _ _ _ H _ I h=>wpAny_Constant_int ⟨.int i,H,I.tok _,⟨_,rfl⟩,h⟩
theorem xQ{b j pos}:PE X (.Constant (.bool b) j pos) (tC (.bl b)):=fun _ _ _ H _ I h=>Constant_bool ⟨.bl b,H,I,rfl,h⟩
theorem gQ{j pos}:PE X (.Constant .none j pos) (tC .cD):=fun _ _ _ H _ I h=>Constant_none ⟨.cD,H,I,rfl,h⟩
theorem bq{x j pos}:PE X (.Constant (.str x) j pos) (tC (.str x)):=fun _ _ _ H _ I h=>Calls.Constant_str ⟨.str x,H,I.tok _,⟨_,rfl⟩,h⟩
def Gl (X:Cx) (x:Str):Prop:=X.env.kindOf x=some .globalImplicit
theorem uZ{E:Value->zcB->Prop}{pins:List (Addr×Obj)}{s:zcB}{σ:St}{H:Hp}{x:Str}{u:Value}{pos:Pos}{Q:Value->zcB->Prop}(I:Inv X pins σ H s)(hg:Gl X x)(hm:X.mg x=some u)(h:Q u s)
 (hd:(x==("__debug__":Str))=false:=by decide):wpAny (model X.prog X.w) X.A (eval (.Name x pos) X.env) Q E s:=
 Calls.Name_function_global I.ok.kind hg (Calls.loadGlobal_global (by rw[I.ok.glob];exact I.mod.glob.keeps I.bk) hm h) hd
theorem qx{E:Value->zcB->Prop}{pins:List (Addr×Obj)}{s:zcB}{σ:St}{H:Hp}{x:Str}{u:Value}{pos:Pos}{Q:Value->zcB->Prop}(I:Inv X pins σ H s)(hg:Gl X x)(hm:X.mg x=none)(hv:bootBuiltins x=some u)(h:Q u s)
 (hn:x≠"__name__":=by decide) (hd:(x==("__debug__":Str))=false:=by decide):wpAny (model X.prog X.w) X.A (eval (.Name x pos) X.env) Q E s:=by
 obtain⟨mb,h1,h2⟩:=I.mod.blt
 exact Calls.Name_function_global I.ok.kind hg (Calls.loadGlobal_builtin (by rw[I.ok.glob];exact I.mod.glob.keeps I.bk) hm (by rw[I.ok.blt];exact h1.keeps I.bk) ((h2 x hn).trans hv) h) hd
theorem o9{x:Str}{v:V}{u:Value}{pos:Pos}(hg:Gl X x)(hm:X.mg x=some u)(r:RelV v u)(hd:(x==("__debug__":Str))=false:=by decide):PE X (.Name x pos) (tC v):=
 fun _ _ _ H _ I h=>uZ I hg hm ⟨v,H,I,r,h⟩ hd
theorem vd{x:Str}{v:V}{u:Value}{pos:Pos}(hg:Gl X x)(hm:X.mg x=none)(hv:bootBuiltins x=some u)(r:RelV v u)(hn:x≠"__name__":=by decide)(hd:(x==("__debug__":Str))=false:=by decide):PE X (.Name x pos) (tC v):=
 fun _ _ _ H _ I h=>qx I hg hm hv ⟨v,H,I,r,h⟩ hn hd
variable{a b:Expr}{ta tb:TE}{pos:Pos}
def tB (t:TE):TT:=fun σ H Q=>t σ H fun x H1=>∃c,x=.bl c/\Q c H1
theorem nM{e:Expr}{t:TE}(h:PE X e t)(he:∀whole,isTrue e X.env whole=(do let v <- whole;standAt e.pos;holding [v] (truthy v)):=by intro _;rfl):PT X e (tB t):=by
 intro pins s σ H Q I hw
 refine isTrue_plain (fK (h pins s σ H _ I hw) fun v s1 zqz=>?_) (he _)
 obtain⟨x,H1,I1,r1,q1⟩:=zqz
 obtain⟨d,rfl,q⟩:=q1
 cases r1
 exact wpAny_truthy_bool ⟨H1,I1,q⟩
variable{tA RE:TT}{rest:List Expr}
def OB (t u:TT):TT:=fun σ H Q=>t σ H fun c H1=>if c=true then u σ H1 Q else Q false H1
def VQ (t u:TT):TT:=fun σ H Q=>t σ H fun c H1=>if c=true then Q true H1 else u σ H1 Q
def RG (t:TT):TT:=fun σ H Q=>t σ H fun c H1=>Q (!c) H1
theorem pw_and1(ha:PT X a tA):PW X (.BoolOp .And [a] pos) tA:=by
 intro wh pins s σ H Q I h
 refine isTrue_and (fK (ha pins s σ H Q I h) fun c s1 e=>?_)
 cases c with
 |true=>exact isTrue_and_nil e
 |false=>exact e
theorem pw_or1(ha:PT X a tA):PW X (.BoolOp .Or [a] pos) tA:=by
 intro wh pins s σ H Q I h
 refine isTrue_or (fK (ha pins s σ H Q I h) fun c s1 e=>?_)
 cases c with
 |false=>exact isTrue_or_nil e
 |true=>exact e
theorem pw_and(ha:PT X a tA)(hb:PW X (.BoolOp .And (b::rest) pos) RE):PW X (.BoolOp .And (a::b::rest) pos) (OB tA RE):=by
 intro wh pins s σ H Q I h
 refine isTrue_and (fK (ha pins s σ H _ I h) fun c s1 zqz=>?_)
 obtain⟨H1,I1,q1⟩:=zqz
 cases c with
 |true=>exact hb wh pins s1 σ H1 Q I1 q1
 |false=>exact⟨H1,I1,q1⟩
theorem pw_or(ha:PT X a tA)(hb:PW X (.BoolOp .Or (b::rest) pos) RE):PW X (.BoolOp .Or (a::b::rest) pos) (VQ tA RE):=by
 intro wh pins s σ H Q I h
 refine isTrue_or (fK (ha pins s σ H _ I h) fun c s1 zqz=>?_)
 obtain⟨H1,I1,q1⟩:=zqz
 cases c with
 |true=>exact⟨H1,I1,q1⟩
 |false=>exact hb wh pins s1 σ H1 Q I1 q1
theorem yO(ha:PT X a tA):PT X (.UnaryOp .Not a pos) (RG tA):=by
 intro pins s σ H Q I h
 exact isTrue_not (ha pins s σ H (fun c H1=>Q (!c) H1) I h)
def GN (ta tb:TE):TE:=fun σ H Q=>ta σ H fun x H1=>∃c,x=.bl c/\if c=true then tb σ H1 Q else Q (.bl false) H1
def RH (ta tb:TE):TE:=fun σ H Q=>ta σ H fun x H1=>∃c,x=.bl c/\if c=true then Q (.bl true) H1 else tb σ H1 Q
def M8 (ta:TE):TE:=fun σ H Q=>ta σ H fun x H1=>∃c,x=.bl c/\Q (.bl (!c)) H1
theorem GO{op}{t:TE}(h:PE X a t):PE X (.BoolOp op [a] pos) t:=fun pins s σ H Q I hw=>BoolOp_one (h pins s σ H Q I hw)
theorem GP(ha:PE X a ta)(hb:PE X (.BoolOp .And (b::rest) pos) tb):PE X (.BoolOp .And (a::b::rest) pos) (GN ta tb):=by
 intro pins s σ H Q I h
 refine BoolOp_and (fK (ha pins s σ H _ I h) fun v s1 zqz=>?_)
 obtain⟨x,H1,I1,r1,q1⟩:=zqz
 obtain⟨c,rfl,q1⟩:=q1
 cases r1
 refine wpAny_truthy_bool ?_
 cases c with
 |true=>exact hb pins s1 σ H1 Q I1 q1
 |false=>exact⟨.bl false,H1,I1,rfl,q1⟩
def YV (t:TT) (ta tb:TE):TE:=fun σ H Q=>t σ H fun c H1=>if c=true then ta σ H1 Q else tb σ H1 Q
end
def gS (K:k0) (H:Hp) (a:Addr) (xs:List V):Prop:=
 Rd H a (.lst xs)\/
  ∃(o:Obj) (bz:Array Value) (n:Nat),K.lookup a=some o/\o.cls=.type "list"/\o.dict=none/\o.data=.seq bz n/\bz.size<=zcz/\Vals xs bz.toList
def b8 (K:k0) (H:Hp) (a:Addr) (xs:List V):Prop:=
 Rd H a (.tup xs)\/
  ∃(o:Obj) (bz:Array Value) (n:Nat),K.lookup a=some o/\o.cls=.type "tuple"/\o.data=.seq bz n/\bz.size<=zcz/\Vals xs bz.toList
noncomputable def VR:Value->Option V
 |.none=>some .cD
 |.bool b=>some (.bl b)
 |.int i _=>some (.int i)
 |.str x _=>some (.str x)
 |.bytes b _=>some (.DD b)
 |.float b _=>some (.Ov b)
 |.ref a=>some (.ref a)
 |.type n=>some (.ty n)
 |_=>none
theorem RelV.abs{x:V}{u:Value}(r:RelV x u):VR u=some x:=by
 cases x with
 |cD=>cases r;rfl
 |bl _=>cases r;rfl
 |int _=>obtain⟨t,rfl⟩:=r;rfl
 |str _=>obtain⟨t,rfl⟩:=r;rfl
 |DD _=>obtain⟨t,rfl⟩:=r;rfl
 |Ov _=>obtain⟨t,rfl⟩:=r;rfl
 |ref _=>cases r;rfl
 |ty _=>cases r;rfl
theorem RelV.inj{x y:V}{u:Value}(r:RelV x u)(q:RelV y u):x=y:=zax.inj (r.abs.symm.trans q.abs)
theorem Vals.inj:∀ {xs ys:List V} {us:List Value},Vals xs us->Vals ys us->xs=ys
 |_,_,_,.nil,.nil=>rfl
 |_,_,_,.cons r t,.cons r' t'=>by rw[r.inj r',Vals.inj t t']
section
variable{X:Cx}{pins:List (Addr×Obj)}{σ:St}{H:Hp}{s:zcB}{a:Addr}{xs ys:List V}
theorem gS.of{K:k0}(h:H a=some (.lst xs)):gS K H a xs:=.inl (.inl h)
theorem b8.of{K:k0}(h:H a=some (.tup xs)):b8 K H a xs:=.inl (.inl h)
theorem Inv.list(I:Inv X pins σ H s)(h:gS X.K H a xs):∃bz:List Value,Vals xs bz/\PlainL s.heap a bz.toArray/\xs.length<=zcz:=by
 rcases h with h |⟨o,bz,n,hk,hc,hd,hs,hz,r⟩
 ·obtain⟨z,bz,n,r,e⟩:=h.ok I.cS
  exact⟨bz,r,⟨_,n,e,rfl,rfl,rfl⟩,z⟩
 ·refine⟨bz.toList,r,⟨o,n,I.uI a o hk,hc,hd,by simpa using hs⟩,?_⟩
  have e:=r.length
  simp only[zaX] at e
  lia
theorem Inv.tuple(I:Inv X pins σ H s)(h:b8 X.K H a xs):∃bz:List Value,Vals xs bz/\IsTup s.heap a bz.toArray/\xs.length<=zcz:=by
 rcases h with h |⟨o,bz,n,hk,hc,hs,hz,r⟩
 ·obtain⟨z,bz,r,p⟩:=h.ok I.cS
  exact⟨bz,r,p,z⟩
 ·refine⟨bz.toList,r,⟨o,I.uI a o hk,hc,n,by simpa using hs⟩,?_⟩
  have e:=r.length
  simp only[zaX] at e
  lia
theorem Inv.AD(I:Inv X pins σ H s)(h:gS X.K H a xs)(h':gS X.K H a ys):xs=ys:=by
 obtain⟨bz,r,⟨o,n,e,_,_,d⟩,_⟩:=I.list h
 obtain⟨its',r',⟨o',n',e',_,_,d'⟩,_⟩:=I.list h'
 rw[e] at e';cases e'
 rw[d] at d'
 injection d' with d1 _
 have:bz=its':=by simpa using congrArg Array.toList d1
 subst this
 exact r.inj r'
theorem Inv.Fc(I:Inv X pins σ H s)(h:b8 X.K H a xs)(h':b8 X.K H a ys):xs=ys:=by
 obtain⟨bz,r,⟨o,e,_,n,d⟩,_⟩:=I.tuple h
 obtain⟨its',r',⟨o',e',_,n',d'⟩,_⟩:=I.tuple h'
 rw[e] at e';cases e'
 rw[d] at d'
 injection d' with d1 _
 have:bz=its':=by simpa using congrArg Array.toList d1
 subst this
 exact r.inj r'
end
noncomputable abbrev Cx.xj (X:Cx) (E:Value->zcB->Prop):Cx:={X with xe:=E}
noncomputable abbrev Cx.B6 (X:Cx):Cx:=X.xj fun _ _=>False
theorem Cx.Ok.xj{X:Cx}(ok:X.Ok)(E:Value->zcB->Prop):(X.xj E).Ok:=
 ⟨ok.mod,ok.kind,ok.glob,ok.blt,ok.above,ok.inj,ok.has,ok.Lb,ok.hd,ok.frames,ok.Uu,ok.YS,ok.bs,ok.yM,ok.GK,ok.Lc,ok.nL,ok.GL⟩
theorem Cx.Ok.nN{X:Cx}{E:Value->zcB->Prop}(ok:(X.xj E).Ok):X.Ok:=
 ⟨ok.mod,ok.kind,ok.glob,ok.blt,ok.above,ok.inj,ok.has,ok.Lb,ok.hd,ok.frames,ok.Uu,ok.YS,ok.bs,ok.yM,ok.GK,ok.Lc,ok.nL,ok.GL⟩
section
variable{X:Cx}{pins:List (Addr×Obj)}{σ:St}{H:Hp}{s:zcB}{E:Value->zcB->Prop}
theorem Inv.xj(I:Inv X pins σ H s)(E:Value->zcB->Prop):Inv (X.xj E) pins σ H s:=⟨I.ok.xj E,I.os,I.bare,I.base,I.loc,I.cell,I.free,I.nu,I.pin,I.cS,I.len⟩
theorem Inv.nN(I:Inv (X.xj E) pins σ H s):Inv X pins σ H s:=⟨I.ok.nN,I.os,I.bare,I.base,I.loc,I.cell,I.free,I.nu,I.pin,I.cS,I.len⟩
theorem SP.nN{D:Ends}{f:Flow}{s':zcB}(h:SP (X.xj E) pins D f s'):SP X pins D f s':=by
 cases f with
 |next=>obtain⟨σ',H',I,q⟩:=h;exact⟨σ',H',I.nN,q⟩
 |brk=>obtain⟨σ',H',I,q⟩:=h;exact⟨σ',H',I.nN,q⟩
 |cont=>obtain⟨σ',H',I,q⟩:=h;exact⟨σ',H',I.nN,q⟩
 |ret u=>obtain⟨v,σ',H',I,r,q⟩:=h;exact⟨v,σ',H',I.nN,r,q⟩
theorem B5.B6{st:List Stmt}{t:TS}(h:B5 X.B6 st t):B5 X st t:=fun pins s σ H D I hw=>
 wpAny_mono (h pins s σ H D (I.xj _) hw) (fun _ _ q=>q.nN) fun _ _ z=>False.elim z
end
section
variable{X:Cx}{st:Stmt}{rest:List Stmt}{t u:TS}{e:Expr}{te:TE}{pos:Pos}
def GQ:TS:=fun D σ H=>D.nx σ H
def Ld (t u:TS):TS:=fun D σ H=>t {D with nx:=u D} σ H
theorem aZ:B5 X [] GQ:=fun _ _ σ H _ I h=>wpAny_execs_nil ⟨σ,H,I,h⟩
theorem ai(h1:PS X st t)(h2:B5 X rest u):B5 X (st::rest) (Ld t u):=by
 intro pins s σ H D I h
 refine wpAny_execs_cons (fK (h1 pins s σ H {D with nx:=u D} I h) fun f s1 q=>?_)
 cases f with
 |next=>
  obtain⟨σ',H',I',q⟩:=q
  exact h2 pins s1 σ' H' D I' q
 |ret v=>exact q
 |brk=>exact q
 |cont=>exact q
theorem au(h1:PS X st t):B5 X [st] t:=by
 intro pins s σ H D I h
 refine wpAny_execs_cons (fK (h1 pins s σ H D I h) fun f s1 q=>?_)
 cases f with
 |next=>exact wpAny_execs_nil q
 |ret v=>exact q
 |brk=>exact q
 |cont=>exact q
def GR:TS:=fun D σ H=>D.bk σ H
def M9:TS:=fun D σ H=>D.ct σ H
theorem Inv.quiet{pins:List (Addr×Obj)}{σ:St}{H:Hp}{s:zcB}(I:Inv X pins σ H s):interactive X.env=false:=by simp[interactive,I.ok.kind]
def GS (te:TE):TS:=fun D σ H=>te σ H fun _ H1=>D.nx σ H1
theorem cw(he:PE X e te)(hs:swapsWith e none pos.line X.env=pure false:=by rfl):PS X (.Expr e pos) (GS te):=by
 intro pins s σ H D I h
 exact wpAny_Expr_any (fK (he pins s σ H _ I h) fun v s1 ⟨x,H1,I1,r1,q1⟩=>⟨σ,H1,I1,q1⟩) I.quiet hs
def OC (te:TE):TS:=fun D σ H=>te σ H D.rt
theorem aT(he:PE X e te):PS X (.Return (some e) pos) (OC te):=by
 intro pins s σ H D I h
 exact wpAny_Return_some (fK (he pins s σ H _ I h) fun v s1 ⟨x,H1,I1,r1,q1⟩=>⟨x,σ,H1,I1,r1,q1⟩)
def Na:TS:=fun D _ H=>D.rt .cD H
def GU (c:TT) (t u:TS):TS:=fun D σ H=>c σ H fun b H1=>if b=true then t D σ H1 else u D σ H1
theorem bE{c:Expr}{a b:List Stmt}{tc:TT}(hc:PT X c tc)(ha:B5 X a t)(hb:B5 X b u):PS X (.If c a b pos) (GU tc t u):=by
 intro pins s σ H D I h
 refine wpAny_If (fK (hc pins s σ H _ I h) fun d s1 zqz=>?_)
 obtain⟨H1,I1,q1⟩:=zqz
 cases d with
 |true=>exact ha pins s1 σ H1 D I1 q1
 |false=>exact hb pins s1 σ H1 D I1 q1
def OD:TS:=fun _ _ _=>False
theorem GV:PS X st OD:=fun _ _ _ _ _ _ h=>h.elim
end
abbrev TG:=V->St->Hp->(St->Hp->Prop)->Prop
abbrev Le:=List V->St->Hp->(St->Hp->Prop)->Prop
def PG (X:Cx) (target:Expr) (t:TG):Prop:=
 ∀(pins:List (Addr×Obj)) (s:zcB) (σ:St) (H:Hp) (v:V) (u:Value) (Q:St->Hp->Prop),Inv X pins σ H s->RelV v u->t v σ H Q->
  wpAny (model X.prog X.w) X.A (assign target X.env u) (fun _ s'=>∃σ' H',Inv X pins σ' H' s'/\Q σ' H') X.xe s
def RI (X:Cx) (ts:List Expr) (t:Le):Prop:=
 ∀(pins:List (Addr×Obj)) (s:zcB) (σ:St) (H:Hp) (vs:List V) (us:List Value) (Q:St->Hp->Prop),Inv X pins σ H s->Vals vs us->t vs σ H Q->
  wpAny (model X.prog X.w) X.A (assignInOrder ((assignEach ts X.env).map (·.2)) us) (fun _ s'=>∃σ' H',Inv X pins σ' H' s'/\Q σ' H') X.xe s
abbrev OE:=V->V->V->Hp->(Hp->Prop)->Prop
def RJ (X:Cx) (t:OE):Prop:=
 ∀(pins:List (Addr×Obj)) (s:zcB) (σ:St) (H:Hp) (o i v:V) (ov iv u:Value) (Q:Hp->Prop),Inv X pins σ H s->RelV o ov->RelV i iv->RelV v u->t o i v H Q->
  wpAny (model X.prog X.w) X.A (setItem ov iv u) (fun _ s'=>∃H',Inv X pins σ H' s'/\Q H') X.xe s
abbrev TIp:=V->V->Hp->VK->Prop
section
variable{X:Cx}{pos:Pos}
def gW (i:Nat):TG:=fun v σ H Q=>Q (σ.set i (some v)) H
theorem a9{i:Nat}{x:Str}(hN:X.N.Nodup)(hi:X.N[i]?=some x)(hx:Loc X.env.scope x)(hf:X.fn x=true\/X.env.scope.names.lookup x=some .local:=by first |exact .inl rfl |exact .inr rfl |assumption):PG X (.Name x pos) (gW i):=by
 intro pins s σ H v u Q I r h
 exact wpAny_assign_Name (AB I hN hi hx r (fun s' I'=>⟨_,H,I',h⟩) hf)
def OF:Le:=fun vs σ H Q=>vs=[]/\Q σ H
def GW (t:TG) (u:Le):Le:=fun vs σ H Q=>∃v r,vs=v::r/\t v σ H fun σ' H'=>u r σ' H' Q
theorem i6:RI X [] OF:=by
 intro pins s σ H vs us Q I r h
 obtain⟨e,h⟩:=h
 subst e
 cases r
 exact assignInOrder_nil ⟨σ,H,I,h⟩
theorem bV{e:Expr}{es:List Expr}{t:TG}{u:Le}(h1:PG X e t)(h2:RI X es u)
 (hs:(assignEach (e::es) X.env).map (·.2)=assign e X.env::(assignEach es X.env).map (·.2):=by rfl):RI X (e::es) (GW t u):=by
 intro pins s σ H vs us Q I r h
 obtain⟨v,vr,e1,h⟩:=h
 subst e1
 cases r with
 |cons r rr=>
  rw[hs]
  refine assignInOrder_cons (fK (h1 pins s σ H _ _ _ I r h) fun _ s1 zqz=>?_)
  obtain⟨σ1,H1,I1,q1⟩:=zqz
  exact h2 pins s1 σ1 H1 _ _ Q I1 rr q1
def OG (K:k0) (n:Nat) (t:Le):TG:=fun v σ H Q=>∃a xs,v=.ref a/\b8 K H a xs/\xs.length=n/\t xs σ H Q
theorem sO{es:List Expr}{k:Nat}{t:Le}{n:Nat}(hc:X.calm=true)(h:RI X es t)
 (hn:(assignEach es X.env).length=n:=by rfl) (Nb:(assignEach es X.env).findIdx? (·.1)=none:=by rfl):PG X (.Tuple es k pos) (OG X.K n t):=by
 intro pins s σ H v u Q I r hw
 obtain⟨a,xs,e1,hq,hl,hw⟩:=hw
 subst e1
 cases r
 obtain⟨bz,rv,ht,hz⟩:=I.tuple hq
 refine assign_Tuple_tuple (I.ok.hd hc) ht (by simp[hn,<- hl,rv.length]) Nb fun h' hx=>?_
 have I1:Inv X pins σ H {s with heap:=h' }:=I.kept (t':=s.toks) fun b o e=>hx b o (zam (Heap.lt_size e)) e
 exact h pins _ σ H xs _ Q I1 (by simpa using rv) hw
def OH (to ti:TE) (t:OE):TG:=fun v σ H Q=>to σ H fun o H1=>ti σ H1 fun i H2=>t o i v H2 fun H3=>Q σ H3
theorem B7{o i:Expr}{to ti:TE}{t:OE}(ho:PE X o to)(hi:PE X i ti)(hs:RJ X t)
 (ha:∀v,assign (.Subscript o i pos) X.env v=(do
  let ov <- holding [v] (eval o X.env)
  let iv <- holding [v,ov] (eval i X.env)
  standAt pos
  holding [v,ov,iv] (setItem ov iv v)
  release [v,ov,iv] []):=by intro _;rfl):PG X (.Subscript o i pos) (OH to ti t):=by
 intro pins s σ H v u Q I r h
 rw[ha]
 refine zcu (zcw (fK (ho pins s σ H _ I h) fun ov s1 zqz=>?_))
 obtain⟨x,H1,I1,r1,q1⟩:=zqz
 refine zcu (zcw (fK (hi pins s1 σ H1 _ I1 q1) fun iv s2 zqz=>?_))
 obtain⟨y,H2,I2,r2,q2⟩:=zqz
 refine zcu (wpAny_standAt (zcu (zcw (fK (hs pins s2 σ H2 x y v ov iv u _ I2 r1 r2 r q2) fun _ s3 zqz=>?_))))
 obtain⟨H3,I3,q3⟩:=zqz
 exact wpAny_release ⟨σ,H3,I3,q3⟩
def GX (te:TE) (g:TG):TS:=fun D σ H=>te σ H fun x H1=>g x σ H1 D.nx
theorem qy{tg e:Expr}{te:TE}{g:TG}(he:PE X e te)(hg:PG X tg g)(hs:swapsWithSole [tg] e pos.line X.env=pure false:=by rfl)(hw:swappedStores [tg] e X.env=pure none:=by rfl)
 (h1:(assignEach [tg] X.env).map (·.2)=[assign tg X.env]:=by rfl):PS X (.Assign [tg] e pos) (GX te g):=by
 intro pins s σ H D I h
 refine wpAny_Assign_stores (fK (he pins s σ H _ I h) fun v s1 zqz=>?_) hs hw
 obtain⟨x,H1,I1,r1,q1⟩:=zqz
 rw[h1]
 exact fK (hg pins s1 σ H1 x v _ I1 r1 q1) fun _ s2 q=>q
theorem aQ{i:Nat}{x:Str}{e:Expr}{te:TE}{pos':Pos}(hN:X.N.Nodup)(hi:X.N[i]?=some x)(hx:Loc X.env.scope x)(he:PE X e te)(hs:swapsWith e (some (.Name x pos')) pos.line X.env=pure false:=by rfl)(hf:X.fn x=true\/X.env.scope.names.lookup x=some .local:=by first |exact .inl rfl |exact .inr rfl |assumption) :
 PS X (.Assign [.Name x pos'] e pos) (GX te (gW i)):=by
 intro pins s σ H D I h
 refine wpAny_Assign_Name (fK (he pins s σ H _ I h) fun v s1 zqz=>?_) hs
 obtain⟨y,H1,I1,r1,q1⟩:=zqz
 exact AB I1 hN hi hx r1 (fun s2 I2=>⟨_,H1,I2,q1⟩) hf
def RK (i:Nat) (te:TE) (ti:TIp):TS:=fun D σ H=>∃x,σ[i]?=some (some x)/\te σ H fun y H1=>ti x y H1 fun z H2=>D.nx (σ.set i (some z)) H2
end
section
variable{X:Cx}{pos:Pos}
def B8 (c:TT) (tb:TS):TS:=fun D σ H=>∃W:Nat->St->Hp->Prop,(∃m,W m σ H)/\∀m σ H,W m σ H->
 c σ H fun b H1=>if b=true then ∃N:St->Hp->Prop,(∀σ' H',N σ' H'->∃m',m'<m/\W m' σ' H')/\tb {D with nx:=N,ct:=N,bk:=D.nx} σ H1 else D.nx σ H1
theorem lh{c:Expr}{body:List Stmt}{tc:TT}{tb:TS}(hp:PassesOwn (model X.prog X.w) X.A X.env X.xe)(hc:PT X c tc)(hb:B5 X body tb):PS X (.While c body [] pos) (B8 tc tb):=by
 intro pins s σ H D I h
 obtain⟨W,⟨m0,w0⟩,turn⟩:=h
 refine wpAny_While (codeAny_whileLoop (fun n s'=>∃σ' H',Inv X pins σ' H' s'/\W n σ' H') ?_ m0 ⟨σ,H,I,w0⟩)
 rintro n s1 ⟨σ1,H1,I1,w1⟩
 refine wpAny_passesOwn hp (fK (hc pins s1 σ1 H1 _ I1 (turn n σ1 H1 w1)) fun b s2 zqz=>?_)
 obtain⟨H2,I2,q2⟩:=zqz
 cases b with
 |true=>
  obtain⟨N,hN,q2⟩:=q2
  rw[if_pos rfl]
  refine wpAny_passesOwn hp (fK (hb pins s2 σ1 H2 _ I2 q2) fun f s3 q3=>?_)
  cases f with
  |next=>
   obtain⟨σ3,H3,I3,n3⟩:=q3
   obtain⟨m',hm,w3⟩:=hN σ3 H3 n3
   exact⟨m',hm,σ3,H3,I3,w3⟩
  |cont=>
   obtain⟨σ3,H3,I3,n3⟩:=q3
   obtain⟨m',hm,w3⟩:=hN σ3 H3 n3
   exact⟨m',hm,σ3,H3,I3,w3⟩
  |brk=>exact q3
  |ret v=>exact q3
 |false=>
  rw[if_neg WC]
  exact wpAny_execs_nil ⟨σ1,H2,I2,q2⟩
end
structure It where
 go:Nat->Hp->Prop
 DH:Nat->Hp->V->Hp->Prop
 stop:Nat->Hp->Prop
def qV (X:Cx) (pins:List (Addr×Obj)) (H:Hp) (b:Addr):Prop:=
 H b=none/\b≠X.env.locals/\b ∉ X.fs/\(b∈X.ex\/X.s₀.heap.objs.size<=b)/\(∀x c,X.env.cells.lookup x=some c->c≠b)/\∀p∈X.pn++pins,p.1≠b
theorem Inv.GY{X:Cx}{pins:List (Addr×Obj)}{σ:St}{H H':Hp}{s:zcB}{b:Addr}(I:Inv X pins σ H s)(hb:s.heap.objs.size<=b)(hn:H' b=none):qV X pins H' b:=by
 refine⟨hn,zbF (zaj I.lt hb),I.VL hb,.inr (zan I.sz hb),fun x c e z=>?_,fun p hp z=>?_⟩
 ·obtain⟨v,q⟩:=I.cell x c e
  exact absurd (zaj q.lt (by rw[z];exact hb)) (zaE _)
 ·exact absurd (zaj (Heap.lt_size (I.pin p hp).1) (by rw[z];exact hb)) (zaE _)
structure Turn(P:zcD)(w:World)(K:k0)(tg:Expr)(J:It)(fp:List Addr)(it:Addr)(tn:Nat->Heap->Prop):Prop where
 mem:it∈fp
 obj:∀i h,tn i h->∀b∈fp,∃o,h.get? b=some o/\∀v,o.data≠.cell v
 keep:∀i h h',tn i h->(∀b∈fp,∀o,h.get? b=some o->h'.get? b=some o)->tn i h'
 item:∀(X:Cx),X.prog=P->X.w=w->X.K=K->X.calm=true->∀(i:Nat) (pins:List (Addr×Obj)) (s:zcB) (σ:St) (H:Hp) (E:Value->zcB->Prop),Inv X pins σ H s->(∀b∈fp,qV X pins H b)->tn i s.heap->J.go i H->
  wpAny (model P w) X.A (pyNext (.ref it)) (fun r s1=>∃u,r=some u/\
   wpAny (model P w) X.A (letOwnedTupleGo tg (.ref it) u) (fun _ s2=>∃x H',Inv X pins σ H' s2/\RelV x u/\J.DH i H x H'/\tn (i+1) s2.heap/\∀b∈fp,H' b=none) E s1) E s
 done:∀(X:Cx),X.prog=P->X.w=w->X.K=K->X.calm=true->∀(i:Nat) (pins:List (Addr×Obj)) (s:zcB) (σ:St) (H:Hp) (E:Value->zcB->Prop),Inv X pins σ H s->(∀b∈fp,qV X pins H b)->tn i s.heap->J.stop i H->
  wpAny (model P w) X.A (pyNext (.ref it)) (fun r s1=>r=none/\Inv X pins σ H s1) E s
 self:∀(A:zcC) (i:Nat) (s:zcB) (Q:Value->zcB->Prop) (E:Value->zcB->Prop),tn i s.heap->Q (.ref it) s->wpAny (model P w) A (pyIter (.ref it)) Q E s
abbrev TI:=St->Hp->(It->Hp->Prop)->Prop
def YW (X:Cx) (pins:List (Addr×Obj)) (σ:St) (tg:Expr) (R:It->Hp->Prop) (VS:Value) (s2:zcB):Prop:=
 ∃(it:Addr) (fp:List Addr) (tn:Nat->Heap->Prop) (J:It) (H':Hp),VS=.ref it/\Inv X pins σ H' s2/\Turn X.prog X.w X.K tg J fp it tn/\tn 0 s2.heap/\(∀b∈fp,qV X pins H' b)/\R J H'
def PI (X:Cx) (tg iter:Expr) (wi:TI):Prop:=
 ∀(pins:List (Addr×Obj)) (s:zcB) (σ:St) (H:Hp) (R:It->Hp->Prop),Inv X pins σ H s->wi σ H R->
  wpAny (model X.prog X.w) X.A (eval iter X.env) (fun v s1=>wpAny (model X.prog X.w) X.A (pyIter v) (YW X pins σ tg R) X.xe s1) X.xe s
theorem GZ{M:Model}{A:zcC}{E:Value->zcB->Prop}{s:zcB}{tg:Expr}{it:Addr}{u:Value}{o:Obj}{n:String}{vs:Array Value}{Q:Unit->zcB->Prop}(ho:s.heap.get? it=some o)(hc:o.cls=.type n)(hd:o.data=.fields vs)
 (hn:["enumerate", "zip", "dict_itemiterator", "dict_reverseitemiterator", "odict_iterator", "itertools.zip_longest", "itertools.pairwise"].contains n=false) (hQ:Q () s):wpAny M A (letOwnedTupleGo tg (.ref it) u) Q E s:=by
 unfold letOwnedTupleGo
 cases tg<;>first
  |exact zcv hQ
  |(cases u<;>first
     |exact zcv hQ
     |(refine zcu (wpAny_load ho ?_)
       rw[hc,hd]
       show wpAny M A (if (["enumerate", "zip", "dict_itemiterator", "dict_reverseitemiterator", "odict_iterator", "itertools.zip_longest", "itertools.pairwise"].contains n&&vs[0]?==some (rawInt _))=true then _ else _) Q E s
       rw[if_neg (by intro h;rw[hn,Bool.false_and] at h;cases h)]
       exact zcv hQ))
noncomputable def Gx (K:k0) (a:Addr):It:=
 ⟨fun i H=>∃xs x,gS K H a xs/\xs[i]?=some x,fun i H x H'=>H'=H/\∀xs,gS K H a xs->xs[i]?=some x,fun i H=>∃xs,gS K H a xs/\xs.length<=i⟩
noncomputable def Nc (K:k0) (a:Addr):It:=
 ⟨fun i H=>∃xs x,b8 K H a xs/\xs[i]?=some x,fun i H x H'=>H'=H/\∀xs,b8 K H a xs->xs[i]?=some x,fun i H=>∃xs,b8 K H a xs/\xs.length<=i⟩
noncomputable def G0 (lo:Int) (n:Nat):It:=⟨fun i _=>i<n,fun i H x H'=>H'=H/\x=.int (lo+i),fun i _=>n<=i⟩
theorem Fd{P:zcD}{w:World}{K:k0}{tg:Expr}(a it:Addr):Turn P w K tg (Gx K a) [it] it (fun i h=>h.IsListIter it a i) where
 mem:=by simp
 obj:=fun i h st b hb=>by
  have e:b=it:=by simpa using hb
  subst e
  obtain⟨o,e,c,d⟩:=st
  exact⟨o,e,fun v z=>by rw[d] at z;cases z⟩
 keep:=fun i h h' st k=>st.at fun o e=>k it (by simp) o e
 item:=by
  intro X hP hw hK hc i pins s σ H E I hf st hg
  subst hP hw hK
  obtain⟨xs,x,hq,hx⟩:=hg
  obtain⟨bz,rv,p,hz⟩:=I.list hq
  obtain⟨u,hu,ru⟩:=rv.get hx
  obtain⟨f0,f1,f2,f3,f4,f5⟩:=hf it (by simp)
  refine wpAny_pyNext_list_item st p.isList (x:=u) (by simpa using hu) fun h' KG sb=>?_
  have I1:Inv X pins σ H {s with heap:=h' }:=I.turned (t':=s.toks) (fun b o hb e=>(sb.2 b hb).trans e) f0 f1 f3 f4 f5
  obtain⟨o,e,c,d⟩:=id KG
  exact⟨u,rfl,GZ (s:={s with heap:=h' }) e c d (by decide) ⟨x,H,I1,ru,⟨rfl,fun ys hy=>by rw[I.AD hy hq];exact hx⟩,KG,fun b hb=>(hf b hb).1⟩⟩
 done:=by
  intro X hP hw hK hc i pins s σ H E I hf st hg
  subst hP hw hK
  obtain⟨xs,hq,hx⟩:=hg
  obtain⟨bz,rv,p,hz⟩:=I.list hq
  obtain⟨f0,f1,f2,f3,f4,f5⟩:=hf it (by simp)
  have hl:=rv.length
  exact wpAny_pyNext_list_end (I.ok.hd hc) st p.isList (by simp;lia) fun h' eb=>⟨rfl,I.turned (t':=s.toks) (fun b o hb e=>eb b o hb e) f0 f1 f3 f4 f5⟩
 self:=fun _ _ _ _ _ st h=>wpAny_pyIter_listiter st h
theorem B9{P:zcD}{w:World}{K:k0}{tg:Expr}(a it:Addr):Turn P w K tg (Nc K a) [it] it (fun i h=>h.IsTupleIter it a i) where
 mem:=by simp
 obj:=fun i h st b hb=>by
  have e:b=it:=by simpa using hb
  subst e
  obtain⟨o,e,c,d⟩:=st
  exact⟨o,e,fun v z=>by rw[d] at z;cases z⟩
 keep:=fun i h h' st k=>st.at fun o e=>k it (by simp) o e
 item:=by
  intro X hP hw hK hc i pins s σ H E I hf st hg
  subst hP hw hK
  obtain⟨xs,x,hq,hx⟩:=hg
  obtain⟨bz,rv,p,hz⟩:=I.tuple hq
  obtain⟨u,hu,ru⟩:=rv.get hx
  obtain⟨f0,f1,f2,f3,f4,f5⟩:=hf it (by simp)
  refine wpAny_pyNext_tuple_item st (show s.heap.IsTuple a bz.toArray from p) (x:=u) (by simpa using hu) fun h' KG sb=>?_
  have I1:Inv X pins σ H {s with heap:=h' }:=I.turned (t':=s.toks) (fun b o hb e=>(sb.2 b hb).trans e) f0 f1 f3 f4 f5
  obtain⟨o,e,c,d⟩:=id KG
  exact⟨u,rfl,GZ (s:={s with heap:=h' }) e c d (by decide) ⟨x,H,I1,ru,⟨rfl,fun ys hy=>by rw[I.Fc hy hq];exact hx⟩,KG,fun b hb=>(hf b hb).1⟩⟩
 done:=by
  intro X hP hw hK hc i pins s σ H E I hf st hg
  subst hP hw hK
  obtain⟨xs,hq,hx⟩:=hg
  obtain⟨bz,rv,p,hz⟩:=I.tuple hq
  obtain⟨f0,f1,f2,f3,f4,f5⟩:=hf it (by simp)
  have hl:=rv.length
  exact wpAny_pyNext_tuple_end (I.ok.hd hc) st (show s.heap.IsTuple a bz.toArray from p) (by simp;lia) fun h' eb=>⟨rfl,I.turned (t':=s.toks) (fun b o hb e=>eb b o hb e) f0 f1 f3 f4 f5⟩
 self:=fun _ _ _ _ _ st h=>wpAny_pyIter_tupleiter st h
theorem Ca{P:zcD}{w:World}{K:k0}{tg:Expr}(it:Addr)(lo:Int)(n:Nat):Turn P w K tg (G0 lo n) [it] it (fun i h=>IsRangeIter h it (lo+(i:Nat)*1) ((n:Int)-(i:Nat)) 1) where
 mem:=by simp
 obj:=fun i h st b hb=>by
  have e:b=it:=by simpa using hb
  subst e
  exact⟨_,st,fun v z=>by
   have z':Data.fields _=Data.cell v:=z
   cases z'⟩
 keep:=fun i h h' st k=>k it (by simp) _ st
 item:=by
  intro X hP hw hK hc i pins s σ H E I hf st hg
  subst hP hw hK
  obtain⟨f0,f1,f2,f3,f4,f5⟩:=hf it (by simp)
  have W:=Walks.range (prog:=X.prog) (w:=X.w) (I.ok.hd hc) it lo 1 n
  refine W.item i s _ _ hg st fun v h' tk hv KG kk=>?_
  obtain⟨t,rfl⟩:=hv
  have I1:Inv X pins σ H {s with heap:=h',toks:=tk}:=I.turned (fun b o hb e=>kk b o (by simpa using hb) e) f0 f1 f3 f4 f5
  refine⟨_,rfl,GZ (s:={s with heap:=h',toks:=tk}) (n:="range_iterator") KG rfl rfl (by decide) ⟨.int (lo+i),H,I1,⟨t,?_⟩,⟨rfl,rfl⟩,KG,fun b hb=>(hf b hb).1⟩⟩
  rw[Int.mul_one]
 done:=by
  intro X hP hw hK hc i pins s σ H E I hf st hg
  subst hP hw hK
  obtain⟨f0,f1,f2,f3,f4,f5⟩:=hf it (by simp)
  exact wpAny_pyNext_range_end (I.ok.hd hc) st (by have:n<=i:=hg;lia) fun h' eb=>⟨rfl,I.turned (t':=s.toks) (fun b o hb e=>eb b o hb e) f0 f1 f3 f4 f5⟩
 self:=fun _ _ _ _ _ st h=>wpAny_pyIter_rangeiter st h
section
variable{X:Cx}{tg:Expr}
def DI (K:k0) (tl:TE):TI:=fun σ H R=>tl σ H fun x H1=>∃a,x=.ref a/\(∃xs,gS K H1 a xs)/\R (Gx K a) H1
def RL (K:k0) (tl:TE):TI:=fun σ H R=>tl σ H fun x H1=>∃a,x=.ref a/\(∃xs,b8 K H1 a xs)/\R (Nc K a) H1
theorem df{l:Expr}{tl:TE}(hl:PE X l tl):PI X tg l (DI X.K tl):=by
 intro pins s σ H R I h
 refine fK (hl pins s σ H _ I h) fun v s1 zqz=>?_
 obtain⟨x,H1,I1,r1,q1⟩:=zqz
 obtain⟨a,e,⟨xs,hq⟩,q⟩:=q1
 subst e
 cases r1
 obtain⟨bz,rv,p,hz⟩:=I1.list hq
 refine wpAny_pyIter_list p.isList ?_
 refine⟨s1.heap.objs.size,[s1.heap.objs.size],_,_,H1,rfl,I1.kept (t':=s1.toks) fun b o e=>Heap.get?_push_of_some _ e,Fd a _,⟨_,Heap.get?_push_size _ rfl,rfl,rfl⟩,fun b hb=>?_,q⟩
 have e:b=s1.heap.objs.size:=by simpa using hb
 subst e
 exact I1.GY (Wr _) (I1.cS.fresh (Wr _))
theorem OI{l:Expr}{tl:TE}(hl:PE X l tl):PI X tg l (RL X.K tl):=by
 intro pins s σ H R I h
 refine fK (hl pins s σ H _ I h) fun v s1 zqz=>?_
 obtain⟨x,H1,I1,r1,q1⟩:=zqz
 obtain⟨a,e,⟨xs,hq⟩,q⟩:=q1
 subst e
 cases r1
 obtain⟨bz,rv,p,hz⟩:=I1.tuple hq
 refine wpAny_pyIter_tuple (show s1.heap.IsTuple a bz.toArray from p) ?_
 refine⟨s1.heap.objs.size,[s1.heap.objs.size],_,_,H1,rfl,I1.kept (t':=s1.toks) fun b o e=>Heap.get?_push_of_some _ e,B9 a _,⟨_,Heap.get?_push_size _ rfl,rfl,rfl⟩,fun b hb=>?_,q⟩
 have e:b=s1.heap.objs.size:=by simpa using hb
 subst e
 exact I1.GY (Wr _) (I1.cS.fresh (Wr _))
theorem G1{pins:List (Addr×Obj)}{σ:St}{H:Hp}{s:zcB}{R:It->Hp->Prop}{E:Value->zcB->Prop}{lo hi:Int}{t u v:Tok}{tk:Nat}(I:Inv X pins σ H s)(h1 : -(2 ^ 62)<=lo)(h2:lo<2 ^ 62)(h3 : -(2 ^ 62)<=hi)(h4:hi<2 ^ 62)
 (q:R (G0 lo (hi-lo).toNat) H):wpAny (model X.prog X.w) X.A (pyIter (.ref s.heap.objs.size)) (YW X pins σ tg R) E {s with heap:=s.heap.push {cls:=.type "range",data:=.fields #[.int lo t,.int hi u,.int 1 v]},toks:=tk}:=by
 refine wpAny_pyIter_range (IsRange.new ..) (small_one h1 h2 h3 h4) ?_
 have I1:Inv X pins σ H {s with heap:=s.heap.push {cls:=.type "range",data:=.fields #[.int lo t,.int hi u,.int 1 v]},toks:=tk}:=I.kept fun b o e=>Heap.get?_push_of_some _ e
 refine⟨(s.heap.push {cls:=.type "range",data:=.fields #[.int lo t,.int hi u,.int 1 v]}).objs.size,[(s.heap.push {cls:=.type "range",data:=.fields #[.int lo t,.int hi u,.int 1 v]}).objs.size],_,_,H,rfl,
  I1.kept (t':=tk) fun b o e=>Heap.get?_push_of_some _ e,Ca _ lo (hi-lo).toNat,?_,fun b hb=>?_,q⟩
 ·have e1:lo+((0:Nat):Int)*1=lo:=by simp
  have e2:(((hi-lo).toNat:Nat):Int)-((0:Nat):Int)=Builtin.Range.rangeSize lo hi 1:=by rw[rangeSize_one];split<;>lia
  show IsRangeIter _ _ (lo+((0:Nat):Int)*1) ((((hi-lo).toNat:Nat):Int)-((0:Nat):Int)) 1
  rw[e1,e2]
  exact Heap.get?_push_size _ rfl
 ·have e:b=(s.heap.push {cls:=.type "range",data:=.fields #[.int lo t,.int hi u,.int 1 v]}).objs.size:=by simpa using hb
  subst e
  exact I1.GY (Wr _) (I1.cS.fresh (Wr _))
def DJ (ta:TA):TI:=fun σ H R=>ta σ H fun vs H1=>∃j:Int,vs=[.int j]/\-(2 ^ 62)<=j/\j<2 ^ 62/\R (G0 0 j.toNat) H1
def Nd (ta:TA):TI:=fun σ H R=>ta σ H fun vs H1=>∃i j:Int,vs=[.int i,.int j]/\(-(2 ^ 62)<=i/\i<2 ^ 62/\-(2 ^ 62)<=j/\j<2 ^ 62)/\R (G0 i (j-i).toNat) H1
theorem iW{a:Expr}{ta:TA}{p pos:Pos}(hg:Gl X "range")(hm:X.mg "range"=none)(ha:PA X [a] ta)(hs:zcx [a] X.env=[(false,eval a X.env)]:=by rfl):PI X tg (.Call (.Name "range" p) [a] [] pos) (DJ ta):=by
 intro pins s σ H R I h
 refine Call_ (qx I hg hm boot_range (za7 (fK (ha pos pins s σ H _ I h) fun us s1 zqz=>?_) hs rfl))
 obtain⟨vs,H1,I1,r1,q1⟩:=zqz
 obtain⟨j,e,q1,q2,q⟩:=q1
 subst e
 cases r1 with
 |cons r rr=>
  cases rr
  obtain⟨t,rfl⟩:=r
  exact call_range_1 (G1 I1 (by lia) (by lia) q1 q2 (by simpa using q))
def G2 (wi:TI) (g:TG) (tb:TS):TS:=fun D σ H=>wi σ H fun J H1=>∃W:Nat->Nat->St->Hp->Prop,(∃m,W 0 m σ H1)/\∀i m σ H,W i m σ H->
 (J.stop i H/\D.nx σ H)\/(J.go i H/\∃N:St->Hp->Prop,(∀σ' H',N σ' H'->∃m',m'<m/\W (i+1) m' σ' H')/\∀x H',J.DH i H x H'->g x σ H' fun σ2 H2=>tb {D with nx:=N,ct:=N,bk:=D.nx} σ2 H2)
noncomputable def vv (fp:List Addr) (h:Heap):List (Addr×Obj):=fp.filterMap fun b=>(h.get? b).map fun o=>(b,o)
theorem l6{fp:List Addr}{h:Heap}{b:Addr}{o:Obj}(hb:b∈fp)(e:h.get? b=some o):(b,o)∈vv fp h:=List.mem_filterMap.mpr ⟨b,hb,by rw[e];rfl⟩
theorem Fe{fp:List Addr}{h:Heap}{p:Addr×Obj}(hp:p∈vv fp h):p.1∈fp/\h.get? p.1=some p.2:=by
 obtain⟨b,hb,e⟩:=List.mem_filterMap.mp hp
 cases q:h.get? b with
 |none=>rw[q] at e;cases e
 |some o=>
  rw[q] at e
  have e':(b,o)=p:=zax.inj e
  subst e'
  exact⟨hb,q⟩
theorem Inv.pinned{pins:List (Addr×Obj)}{σ:St}{H:Hp}{s:zcB}{fp:List Addr}(I:Inv X pins σ H s)(hf:∀b∈fp,qV X pins H b)(ho:∀b∈fp,∃o,s.heap.get? b=some o/\∀v,o.data≠.cell v):Inv X (pins++vv fp s.heap) σ H s:=
 I.DF fun p hp=>(zap.mp hp).elim (fun z=>I.pin p (zat _ z)) fun z=>by
  obtain⟨hb,e⟩:=Fe z
  obtain⟨f0,f1,f2,_⟩:=hf p.1 hb
  obtain⟨o,e',d⟩:=ho p.1 hb
  rw[e] at e';cases e'
  exact⟨e,f0,f1,f2,d⟩
theorem Inv.qW{pins pl:List (Addr×Obj)}{σ:St}{H:Hp}{s:zcB}(I:Inv X (pins++pl) σ H s):Inv X pins σ H s:=I.DF fun p hp=>I.pin p (zat _ (zby _ hp))
theorem fh{iter:Expr}{body:List Stmt}{wi:TI}{g:TG}{tb:TS}{pos:Pos}(hp:PassesOwn (model X.prog X.w) X.A X.env X.xe)(hc:X.calm=true)(hi:PI X tg iter wi)(hg:PG X tg g)(hb:B5 X body tb)
 (hs:∀x,foldedSetIterable iter X.env x=pure x:=by intro _;rfl):PS X (.For tg iter body [] pos) (G2 wi g tb):=by
 intro pins s σ H D I h
 refine wpAny_For (fK (hi pins s σ H _ I h) fun v s1 h1=>fK h1 fun VS s2 h2=>?_) hs
 obtain⟨it,fp,tn,J,H2,e,I2,T,AE,f2,W,⟨m0,w0⟩,turn⟩:=h2
 subst e
 have stat:∀ {H':Hp},(∀b∈fp,H' b=none)->∀b∈fp,qV X pins H' b:=fun hn b hb=>⟨hn b hb,(f2 b hb).2⟩
 refine codeAny_forLoop_any (fun n s'=>∃i σ' H',Inv X pins σ' H' s'/\tn i s'.heap/\(∀b∈fp,H' b=none)/\W i n σ' H') ?_ m0 ⟨0,σ,H2,I2,AE,fun b hb=>(f2 b hb).1,w0⟩
 rintro n s3 ⟨i,σ3,H3,I3,Nf,RM,w3⟩
 rcases turn i n σ3 H3 w3 with ⟨stop,qn⟩ |⟨go,N,hN,step⟩
 ·refine wpAny_passesOwn hp (fK (T.done X rfl rfl rfl hc i pins s3 σ3 H3 X.xe I3 (stat RM) Nf stop) fun r s4 zqz=>?_)
  obtain⟨hr,I4⟩:=zqz
  subst hr
  exact wpAny_execs_nil ⟨σ3,H3,I4,qn⟩
 ·refine wpAny_passesOwn hp (fK (T.item X rfl rfl rfl hc i pins s3 σ3 H3 X.xe I3 (stat RM) Nf go) fun r s4 zqz=>?_)
  obtain⟨u,hr,h4⟩:=zqz
  subst hr
  refine wpAny_passesOwn hp (fK h4 fun _ s5 zqz=>?_)
  obtain⟨x,H5,I5,r5,y5,G3,VT⟩:=zqz
  have VU:=I5.pinned (stat VT) (T.obj _ _ G3)
  refine wpAny_passesOwn hp (fK (hg _ s5 σ3 H5 x u _ VU r5 (step x H5 y5)) fun _ s6 zqz=>?_)
  obtain⟨σ6,H6,I6,q6⟩:=zqz
  refine wpAny_passesOwn hp (fK (hb _ s6 σ6 H6 _ I6 q6) fun f s7 q7=>?_)
  have again:∀ {σ7:St} {H7:Hp},Inv X (pins++vv fp s5.heap) σ7 H7 s7->N σ7 H7->∃m,m<n/\∃i σ' H',Inv X pins σ' H' s7/\tn i s7.heap/\(∀b∈fp,H' b=none)/\W i m σ' H':=fun {σ7 H7} I7 n7=>by
   obtain⟨m',hm,w7⟩:=hN σ7 H7 n7
   refine⟨m',hm,i+1,σ7,H7,I7.qW,T.keep _ _ _ G3 fun b hb o e=>(I7.pin (b,o) (zat _ (zat _ (l6 hb e)))).1,fun b hb=>?_,w7⟩
   obtain⟨o,e,d⟩:=T.obj _ _ G3 b hb
   exact(I7.pin (b,o) (zat _ (zat _ (l6 hb e)))).2.1
  cases f with
  |next=>obtain⟨σ7,H7,I7,n7⟩:=q7;exact again I7 n7
  |cont=>obtain⟨σ7,H7,I7,n7⟩:=q7;exact again I7 n7
  |brk=>obtain⟨σ7,H7,I7,q7⟩:=q7;exact⟨σ7,H7,I7.qW,q7⟩
  |ret v=>obtain⟨x7,σ7,H7,I7,r7,q7⟩:=q7;exact⟨x7,σ7,H7,I7.qW,r7,q7⟩
end
theorem gX{K:k0}{a:Addr}{xs:List V}{g:TG}{tb:TS}{D:Ends}{σ:St}{H:Hp}(Pv:Nat->St->Hp->Prop)(h0:Pv 0 σ H)(hl:∀i σ H,i<=xs.length->Pv i σ H->gS K H a xs)
 (hs:∀i x σ H,xs[i]?=some x->Pv i σ H->g x σ H fun σ2 H2=>tb {D with nx:=Pv (i+1),ct:=Pv (i+1),bk:=D.nx} σ2 H2) (hd:∀σ H,Pv xs.length σ H->D.nx σ H) :
 ∃W:Nat->Nat->St->Hp->Prop,(∃m,W 0 m σ H)/\∀i m σ H,W i m σ H->
  ((Gx K a).stop i H/\D.nx σ H)\/((Gx K a).go i H/\∃N:St->Hp->Prop,(∀σ' H',N σ' H'->∃m',m'<m/\W (i+1) m' σ' H')/\∀x H',(Gx K a).DH i H x H'->g x σ H' fun σ2 H2=>tb {D with nx:=N,ct:=N,bk:=D.nx} σ2 H2):=by
 refine⟨fun i m σ H=>m=xs.length-i/\i<=xs.length/\Pv i σ H,⟨xs.length,by simp,zaT _,h0⟩,?_⟩
 rintro i m σ H ⟨rfl,hi,p⟩
 have q:=hl i σ H hi p
 by_cases uJ:i<xs.length
 ·refine .inr ⟨⟨xs,xs[i],q,by simp[uJ]⟩,Pv (i+1),fun σ' H' p'=>⟨xs.length-(i+1),by lia,rfl,uJ,p'⟩,fun x H' y=>?_⟩
  obtain⟨e,y⟩:=y
  subst e
  exact hs i x σ _ (y xs q) p
 ·have e:i=xs.length:=by lia
  subst e
  exact .inl ⟨⟨xs,q,Wr _⟩,hd σ H p⟩
theorem Lf{K:k0}{a:Addr}{xs:List V}{g:TG}{tb:TS}{D:Ends}{σ:St}{H:Hp}(Pv:Nat->St->Hp->Prop)(h0:Pv 0 σ H)(hl:∀i σ H,i<=xs.length->Pv i σ H->b8 K H a xs)
 (hs:∀i x σ H,xs[i]?=some x->Pv i σ H->g x σ H fun σ2 H2=>tb {D with nx:=Pv (i+1),ct:=Pv (i+1),bk:=D.nx} σ2 H2) (hd:∀σ H,Pv xs.length σ H->D.nx σ H) :
 ∃W:Nat->Nat->St->Hp->Prop,(∃m,W 0 m σ H)/\∀i m σ H,W i m σ H->
  ((Nc K a).stop i H/\D.nx σ H)\/((Nc K a).go i H/\∃N:St->Hp->Prop,(∀σ' H',N σ' H'->∃m',m'<m/\W (i+1) m' σ' H')/\∀x H',(Nc K a).DH i H x H'->g x σ H' fun σ2 H2=>tb {D with nx:=N,ct:=N,bk:=D.nx} σ2 H2):=by
 refine⟨fun i m σ H=>m=xs.length-i/\i<=xs.length/\Pv i σ H,⟨xs.length,by simp,zaT _,h0⟩,?_⟩
 rintro i m σ H ⟨rfl,hi,p⟩
 have q:=hl i σ H hi p
 by_cases uJ:i<xs.length
 ·refine .inr ⟨⟨xs,xs[i],q,by simp[uJ]⟩,Pv (i+1),fun σ' H' p'=>⟨xs.length-(i+1),by lia,rfl,uJ,p'⟩,fun x H' y=>?_⟩
  obtain⟨e,y⟩:=y
  subst e
  exact hs i x σ _ (y xs q) p
 ·have e:i=xs.length:=by lia
  subst e
  exact .inl ⟨⟨xs,q,Wr _⟩,hd σ H p⟩
theorem jX{lo:Int}{n:Nat}{g:TG}{tb:TS}{D:Ends}{σ:St}{H:Hp}(Pv:Nat->St->Hp->Prop)(h0:Pv 0 σ H)
 (hs:∀i σ H,i<n->Pv i σ H->g (.int (lo+i)) σ H fun σ2 H2=>tb {D with nx:=Pv (i+1),ct:=Pv (i+1),bk:=D.nx} σ2 H2) (hd:∀σ H,Pv n σ H->D.nx σ H) :
 ∃W:Nat->Nat->St->Hp->Prop,(∃m,W 0 m σ H)/\∀i m σ H,W i m σ H->
  ((G0 lo n).stop i H/\D.nx σ H)\/((G0 lo n).go i H/\∃N:St->Hp->Prop,(∀σ' H',N σ' H'->∃m',m'<m/\W (i+1) m' σ' H')/\∀x H',(G0 lo n).DH i H x H'->g x σ H' fun σ2 H2=>tb {D with nx:=N,ct:=N,bk:=D.nx} σ2 H2):=by
 refine⟨fun i m σ H=>m=n-i/\i<=n/\Pv i σ H,⟨n,by simp,zaT _,h0⟩,?_⟩
 rintro i m σ H ⟨rfl,hi,p⟩
 by_cases uJ:i<n
 ·refine .inr ⟨uJ,Pv (i+1),fun σ' H' p'=>⟨n-(i+1),by lia,rfl,uJ,p'⟩,fun x H' y=>?_⟩
  obtain⟨e,y⟩:=y
  subst e y
  exact hs i σ _ uJ p
 ·have e:i=n:=by lia
  subst e
  exact .inl ⟨Wr _,hd σ H p⟩
abbrev R2:=V->V->Hp->VK->Prop
def qz (X:Cx) (f:Value->Value->Sem Value) (r:R2):Prop:=
 ∀(pins:List (Addr×Obj)) (s:zcB) (σ:St) (H:Hp) (x y:V) (v u:Value) (Q:VK),Inv X pins σ H s->RelV x v->RelV y u->r x y H Q->
  wpAny (model X.prog X.w) X.A (f v u) (EP X pins σ Q) X.xe s
def VW (X:Cx) (f:Value->Sem Value) (r:V->Hp->VK->Prop):Prop:=
 ∀(pins:List (Addr×Obj)) (s:zcB) (σ:St) (H:Hp) (x:V) (v:Value) (Q:VK),Inv X pins σ H s->RelV x v->r x H Q->
  wpAny (model X.prog X.w) X.A (f v) (EP X pins σ Q) X.xe s
def lq (X:Cx) (f:Value) (r:List V->Hp->VK->Prop):Prop:=
 ∀(pins:List (Addr×Obj)) (s:zcB) (σ:St) (H:Hp) (xs:List V) (us:List Value) (Q:VK),Inv X pins σ H s->Vals xs us->r xs H Q->
  wpAny (model X.prog X.w) X.A (call f us) (EP X pins σ Q) X.xe s
def VX (X:Cx) (r:V->Hp->(Bool->Hp->Prop)->Prop):Prop:=
 ∀(pins:List (Addr×Obj)) (s:zcB) (σ:St) (H:Hp) (x:V) (v:Value) (Q:Bool->Hp->Prop),Inv X pins σ H s->RelV x v->r x H Q->
  wpAny (model X.prog X.w) X.A (truthy v) (TP X pins σ Q) X.xe s
def RN (r:R2) (ta tb:TE):TE:=fun σ H Q=>ta σ H fun x H1=>tb σ H1 fun y H2=>r x y H2 Q
def VY (r:V->Hp->VK->Prop) (ta:TE):TE:=fun σ H Q=>ta σ H fun x H1=>r x H1 Q
def rI (C:Int->Int->Prop) (g:Int->Int->V):R2:=fun x y H Q=>∃i j,x=.int i/\y=.int j/\C i j/\Q (g i j) H
def Ng (g:Int->Int->V):R2:=fun x y H Q=>∃i j,x=.int i/\y=.int j/\Q (g i j) H
def rU (g:Int->V):V->Hp->VK->Prop:=fun x H Q=>∃i,x=.int i/\Q (g i) H
section
variable{X:Cx}{a b c:Expr}{ta tb tc:TE}{pos:Pos}
theorem OJ(ha:PE X a ta)(hb:PE X b tb){pins:List (Addr×Obj)}{s:zcB}{σ:St}{H:Hp}{R:V->V->Hp->Prop}(I:Inv X pins σ H s)
 (h:ta σ H fun x H1=>tb σ H1 fun y H2=>R x y H2) {Q:Value->zcB->Prop} {f:Value->Value->Sem Value}
 (hf:∀v u s2 x y H2,Inv X pins σ H2 s2->RelV x v->RelV y u->R x y H2->wpAny (model X.prog X.w) X.A (f v u) Q X.xe s2) :
 wpAny (model X.prog X.w) X.A (eval a X.env) (fun v s₁=>wpAny (model X.prog X.w) X.A (eval b X.env) (fun u s₂=>wpAny (model X.prog X.w) X.A (f v u) Q X.xe s₂) X.xe s₁) X.xe s:=by
 refine fK (ha pins s σ H _ I h) fun v s1 zqz=>?_
 obtain⟨x,H1,I1,r1,q1⟩:=zqz
 refine fK (hb pins s1 σ H1 _ I1 q1) fun u s2 zqz=>?_
 obtain⟨y,H2,I2,r2,q2⟩:=zqz
 exact hf v u s2 x y H2 I2 r1 r2 q2
theorem bf{op:Operator}{r:R2}(ho:qz X (binaryOp op) r)(ha:PE X a ta)(hb:PE X b tb):PE X (.BinOp a op b pos) (RN r ta tb):=by
 intro pins s σ H Q I h
 exact wpAny_BinOp (OJ ha hb I h fun v u s2 x y H2 I2 rx ry q=>ho pins s2 σ H2 x y v u Q I2 rx ry q)
theorem vw{op:UnaryOp}{r:V->Hp->VK->Prop}(ho:VW X (unaryOp op) r)(ha:PE X a ta):PE X (.UnaryOp op a pos) (VY r ta):=by
 intro pins s σ H Q I h
 exact UnaryOp_ (fK (ha pins s σ H _ I h) fun v s1 ⟨x,H1,I1,r1,q1⟩=>ho pins s1 σ H1 x v Q I1 r1 q1)
theorem RO{f:Value->Value->Sem Value}{C:Int->Int->Prop}{g:Int->Int->Int}
 (rule:∀(i j:Int) (t u:Tok) (s:zcB) (Q:Value->zcB->Prop) (E:Value->zcB->Prop),C i j->Q (.int (g i j) s.toks) {s with toks:=s.toks+1}->wpAny (model X.prog X.w) X.A (f (.int i t) (.int j u)) Q E s) :
 qz X f (rI C fun i j=>.int (g i j)):=by
 intro pins s σ H x y v u Q I rx ry h
 obtain⟨i,j,rfl,rfl,hc,q⟩:=h
 obtain⟨t,rfl⟩:=rx
 obtain⟨t',rfl⟩:=ry
 exact rule i j t t' s _ _ hc ⟨.int (g i j),H,I.tok _,⟨_,rfl⟩,q⟩
theorem RQ{f:Value->Value->Sem Value}{g:Int->Int->Int}
 (rule:∀(i j:Int) (t u:Tok) (s:zcB) (Q:Value->zcB->Prop) (E:Value->zcB->Prop),Q (.int (g i j) s.toks) {s with toks:=s.toks+1}->wpAny (model X.prog X.w) X.A (f (.int i t) (.int j u)) Q E s) :
 qz X f (Ng fun i j=>.int (g i j)):=by
 intro pins s σ H x y v u Q I rx ry h
 obtain⟨i,j,rfl,rfl,q⟩:=h
 obtain⟨t,rfl⟩:=rx
 obtain⟨t',rfl⟩:=ry
 exact rule i j t t' s _ _ ⟨.int (g i j),H,I.tok _,⟨_,rfl⟩,q⟩
theorem OK{f:Value->Value->Sem Value}{g:Int->Int->Bool}
 (rule:∀(i j:Int) (t u:Tok) (s:zcB) (Q:Value->zcB->Prop) (E:Value->zcB->Prop),Q (.bool (g i j)) s->wpAny (model X.prog X.w) X.A (f (.int i t) (.int j u)) Q E s) :
 qz X f (Ng fun i j=>.bl (g i j)):=by
 intro pins s σ H x y v u Q I rx ry h
 obtain⟨i,j,rfl,rfl,q⟩:=h
 obtain⟨t,rfl⟩:=rx
 obtain⟨t',rfl⟩:=ry
 exact rule i j t t' s _ _ ⟨.bl (g i j),H,I,rfl,q⟩
def RR (i j:Int):Prop:=0<j/\j<1073741824
def RT (i j:Int):Prop:=0<=j/\j<=1000000/\i.natAbs<2 ^ 64
def G4 (i j:Int):Prop:=(-(2 ^ 64)<i/\i<2 ^ 64)\/(-(2 ^ 64)<j/\j<2 ^ 64)
theorem G4.ok{i j:Int}(h:G4 i j):IntMulOk i j:=by
 rcases h with ⟨h1,h2⟩ |⟨h1,h2⟩
 ·exact .of_left (intBits_le_64 h1 h2)
 ·exact .of_right (intBits_le_64 h1 h2)
theorem dS:qz X (binaryOp .Add) (Ng fun i j=>.int (i+j)):=RQ fun _ _ _ _ _ _ _ q=>add_int q
theorem vx:qz X (binaryOp .Sub) (Ng fun i j=>.int (i-j)):=RQ fun _ _ _ _ _ _ _ q=>sub_int q
theorem qA:qz X (binaryOp .Mult) (rI G4 fun i j=>.int (i*j)):=RO fun _ _ _ _ _ _ _ hc q=>mul_int q hc.ok
theorem yP:qz X (binaryOp .FloorDiv) (rI RR fun i j=>.int (i/j)):=RO fun i j _ _ _ _ _ hc q=>by
 have h1:(0:Int)<j:=hc.1
 have h2:j<1073741824:=hc.2
 exact floordiv_int (by lia) (by rw[Int.fdiv_eq_ediv_of_nonneg i (by lia)];exact q) (.inl (PyProof.noPylong_small (by lia)))
theorem cT:qz X (binaryOp .Mod) (rI (fun _ j=>0<j) fun i j=>.int (i%j)):=RO fun i j _ _ _ _ _ hc q=>by
 have h1:(0:Int)<j:=hc
 exact mod_int' (by lia) (by rw[Int.fmod_eq_emod_of_nonneg i (by lia)];exact q)
theorem OL:qz X (binaryOp .Pow) (rI RT fun i j=>.int (i ^ j.toNat)):=RO fun _ _ _ _ _ _ _ hc q=>pow_int_small hc.1 hc.2.1 hc.2.2 q
theorem unI{f:Value->Sem Value}{g:Int->Int}
 (rule:∀(i:Int) (t:Tok) (s:zcB) (Q:Value->zcB->Prop) (E:Value->zcB->Prop),Q (.int (g i) s.toks) {s with toks:=s.toks+1}->wpAny (model X.prog X.w) X.A (f (.int i t)) Q E s) :
 VW X f (rU fun i=>.int (g i)):=by
 intro pins s σ H x v Q I rx h
 obtain⟨i,rfl,q⟩:=h
 obtain⟨t,rfl⟩:=rx
 exact rule i t s _ _ ⟨.int (g i),H,I.tok _,⟨_,rfl⟩,q⟩
theorem qB:VW X (unaryOp .USub) (rU fun i=>.int (-i)):=unI fun _ _ _ _ _ q=>neg_int q
end
noncomputable def Ff:V->V->Bool
 |.cD,.cD=>true |.cD,.int _=>true |.int _,.cD=>true |.cD,.bl _=>true |.bl _,.cD=>true |.cD,.str _=>true |.str _,.cD=>true
 |.int _,.int _=>true |.bl _,.bl _=>true |.str _,.str _=>true |.DD _,.DD _=>true
 |.int _,.str _=>true |.str _,.int _=>true |.bl _,.str _=>true |.str _,.bl _=>true
 |_,_=>false
def YX:R2:=fun x y H Q=>Ff x y=true/\Q (.bl (decide (x=y))) H
def YY:R2:=fun x y H Q=>Ff x y=true/\Q (.bl (!decide (x=y))) H
theorem DK{i j:Int}:decide (V.int i=V.int j)=(i==j):=by
 rw[zbs]
 simp
theorem G5{i j:Bool}:decide (V.bl i=V.bl j)=(i==j):=by
 rw[zbs]
 simp
theorem DL{i j:Str}:decide (V.str i=V.str j)=(i==j):=by
 rw[zbs]
 simp
theorem DM{i j:Array UInt8}:decide (V.DD i=V.DD j)=(i.toList==j.toList):=by
 rw[zbs]
 cases i
 cases j
 simp
section
variable{X:Cx}{a b c:Expr}{ta tb tc:TE}{pos:Pos}
theorem cn{pins:List (Addr×Obj)}{σ:St}{H:Hp}{s:zcB}{Q:VK}{k k':Bool}(I:Inv X pins σ H s)(q:Q (.bl k) H)(e:k=k'):EP X pins σ Q (.bool k') s:=by
 subst e
 exact⟨.bl k,H,I,rfl,q⟩
theorem b9:qz X (compareOp .Eq) YX:=by
 intro pins s σ H x y v u Q I rx ry h
 obtain⟨hs,q⟩:=h
 cases x with
 |cD=>
  cases rx
  cases y with
  |cD=>cases ry;exact PySem.EqNone.eq_none_none (cn I q (by simp))
  |bl j=>cases ry;exact PySem.EqNone.eq_none_bool (cn I q (by simp))
  |int j=>obtain⟨t',rfl⟩:=ry;exact PySem.EqNone.eq_none_int (cn I q (by simp))
  |str j=>obtain⟨t',rfl⟩:=ry;exact PySem.EqNone.eq_none_str (cn I q (by simp))
  |_=>exact absurd (show false=true from hs) WC
 |bl i=>
  cases rx
  cases y with
  |cD=>cases ry;exact PySem.EqNone.eq_bool_none (cn I q (by simp))
  |bl j=>cases ry;exact eq_bool (cn I q G5)
  |str j=>obtain⟨t',rfl⟩:=ry;exact PySem.EqMixed.eq_bool_str (cn I q (by simp))
  |_=>exact absurd (show false=true from hs) WC
 |int i=>
  obtain⟨t,rfl⟩:=rx
  cases y with
  |cD=>cases ry;exact PySem.EqNone.eq_int_none (cn I q (by simp))
  |int j=>obtain⟨t',rfl⟩:=ry;exact eq_int (cn I q DK)
  |str j=>obtain⟨t',rfl⟩:=ry;exact PySem.EqMixed.eq_int_str (cn I q (by simp))
  |_=>exact absurd (show false=true from hs) WC
 |str i=>
  obtain⟨t,rfl⟩:=rx
  cases y with
  |cD=>cases ry;exact PySem.EqNone.eq_str_none (cn I q (by simp))
  |bl j=>cases ry;exact PySem.EqMixed.eq_str_bool (cn I q (by simp))
  |int j=>obtain⟨t',rfl⟩:=ry;exact PySem.EqMixed.eq_str_int (cn I q (by simp))
  |str j=>obtain⟨t',rfl⟩:=ry;exact eq_str (cn I q DL)
  |_=>exact absurd (show false=true from hs) WC
 |DD i=>
  obtain⟨t,rfl⟩:=rx
  cases y with
  |DD j=>obtain⟨t',rfl⟩:=ry;exact PySem.W.eq_bytes (cn I q DM)
  |_=>exact absurd (show false=true from hs) WC
 |_=>cases y<;>exact absurd (show false=true from hs) WC
theorem Nh:qz X (compareOp .NotEq) YY:=by
 intro pins s σ H x y v u Q I rx ry h
 obtain⟨hs,q⟩:=h
 cases x with
 |cD=>
  cases rx
  cases y with
  |cD=>cases ry;exact PySem.EqNone.ne_none_none (cn I q (by simp))
  |bl j=>cases ry;exact PySem.EqNone.ne_none_bool (cn I q (by simp))
  |int j=>obtain⟨t',rfl⟩:=ry;exact PySem.EqNone.ne_none_int (cn I q (by simp))
  |str j=>obtain⟨t',rfl⟩:=ry;exact PySem.EqNone.ne_none_str (cn I q (by simp))
  |_=>exact absurd (show false=true from hs) WC
 |bl i=>
  cases rx
  cases y with
  |cD=>cases ry;exact PySem.EqNone.ne_bool_none (cn I q (by simp))
  |bl j=>cases ry;exact ne_bool (cn I q (congrArg not G5))
  |str j=>obtain⟨t',rfl⟩:=ry;exact PySem.EqMixed.ne_bool_str (cn I q (by simp))
  |_=>exact absurd (show false=true from hs) WC
 |int i=>
  obtain⟨t,rfl⟩:=rx
  cases y with
  |cD=>cases ry;exact PySem.EqNone.ne_int_none (cn I q (by simp))
  |int j=>obtain⟨t',rfl⟩:=ry;exact ne_int (cn I q (congrArg not DK))
  |str j=>obtain⟨t',rfl⟩:=ry;exact PySem.EqMixed.ne_int_str (cn I q (by simp))
  |_=>exact absurd (show false=true from hs) WC
 |str i=>
  obtain⟨t,rfl⟩:=rx
  cases y with
  |cD=>cases ry;exact PySem.EqNone.ne_str_none (cn I q (by simp))
  |bl j=>cases ry;exact PySem.EqMixed.ne_str_bool (cn I q (by simp))
  |int j=>obtain⟨t',rfl⟩:=ry;exact PySem.EqMixed.ne_str_int (cn I q (by simp))
  |str j=>obtain⟨t',rfl⟩:=ry;exact ne_str (cn I q (congrArg not DL))
  |_=>exact absurd (show false=true from hs) WC
 |DD i=>
  obtain⟨t,rfl⟩:=rx
  cases y with
  |DD j=>obtain⟨t',rfl⟩:=ry;exact PySem.W.ne_bytes (cn I q (congrArg not DM))
  |_=>exact absurd (show false=true from hs) WC
 |_=>cases y<;>exact absurd (show false=true from hs) WC
theorem pY:qz X (compareOp .Lt) (Ng fun i j=>.bl (decide (i<j))):=OK fun _ _ _ _ _ _ _ q=>lt_int q
theorem G6:qz X (compareOp .Gt) (Ng fun i j=>.bl (decide (j<i))):=OK fun _ _ _ _ _ _ _ q=>gt_int q
theorem RU:qz X (compareOp .GtE) (Ng fun i j=>.bl (decide (j<=i))):=OK fun _ _ _ _ _ _ _ q=>ge_int q
theorem OM:qz X (compareOp .Is) (fun x y H Q=>y=.cD/\Q (.bl (decide (x=.cD))) H):=by
 intro pins s σ H x y v u Q I rx ry h
 obtain⟨rfl,q⟩:=h
 cases ry
 refine is_none_gen (cn I q ?_)
 cases x<;>first
  |(cases rx;rfl)
  |(obtain⟨t,rfl⟩:=rx;rfl)
theorem DN:qz X (compareOp .IsNot) (fun x y H Q=>y=.cD/\Q (.bl (!decide (x=.cD))) H):=by
 intro pins s σ H x y v u Q I rx ry h
 obtain⟨rfl,q⟩:=h
 cases ry
 refine isnot_none_gen (cn I q ?_)
 cases x<;>first
  |(cases rx;rfl)
  |(obtain⟨t,rfl⟩:=rx;rfl)
theorem aU(b:Expr){op:CmpOp}(h:op≠.In:=by decide)(h2:op≠.NotIn:=by decide):behindInMarks op b=false:=by
 have e1:(op==CmpOp.In)=false:=by cases op<;>first |rfl |exact absurd rfl h
 have e2:(op==CmpOp.NotIn)=false:=by cases op<;>first |rfl |exact absurd rfl h2
 cases b<;>simp[behindInMarks,e1,e2]
theorem pd{op:CmpOp}{r:R2}(ho:qz X (compareOp op) r)(ha:PE X a ta)(hb:PE X b tb)(hm:behindInMarks op b=false):PE X (.Compare a [op] [b] pos) (RN r ta tb):=by
 intro pins s σ H Q I h
 exact wpAny_Compare1 (OJ ha hb I h fun v u s2 x y H2 I2 rx ry q=>ho pins s2 σ H2 x y v u Q I2 rx ry q) hm
def DO (t:TE):TT:=fun σ H Q=>t σ H fun x H'=>∃k,x=.bl k/\Q k H'
theorem aO{op:CmpOp}{r:R2}(ho:qz X (compareOp op) r)(ha:PE X a ta)(hb:PE X b tb)(hm:behindInMarks op b=false):PT X (.Compare a [op] [b] pos) (DO (RN r ta tb)):=by
 intro pins s σ H Q I h
 refine wpAny_isTrue_Compare1 (fK (ha pins s σ H _ I h) fun v s1 zqz=>?_) hm
 obtain⟨x,H1,I1,r1,q1⟩:=zqz
 refine fK (hb pins s1 σ H1 _ I1 q1) fun u s2 zqz=>?_
 obtain⟨y,H2,I2,r2,q2⟩:=zqz
 refine fK (ho pins s2 σ H2 x y v u _ I2 r1 r2 q2) fun c s3 zqz=>?_
 obtain⟨z,H3,I3,r3,k,e,q3⟩:=zqz
 subst e
 cases r3
 exact wpAny_truthy_bool ⟨H3,I3,q3⟩
def G7 (r r':R2) (ta tb tc:TE):TE:=fun σ H Q=>ta σ H fun x H1=>tb σ H1 fun y H2=>r x y H2 fun z H3=>∃k,z=.bl k/\
 (if k=true then tc σ H3 fun w' H4=>r' y w' H4 Q else Q (.bl false) H3)
def RV (K:k0) (x:V) (H:Hp) (k:Bool):Prop:=
 match x with
 |.cD=>k=false
 |.bl b=>k=b
 |.int i=>k=(i != 0)
 |.str y=>y.length<=zcz/\k=((y.length:Int) != 0)
 |.DD y=>y.size<=zcz/\k=((y.size:Int) != 0)
 |.ref p=>(∃xs,gS K H p xs/\k = !xs.isEmpty)\/(∃xs,b8 K H p xs/\k = !xs.isEmpty)\/∃aG,H p=some (.dK aG)/\k = !aG.isEmpty
 |_=>False
theorem Cb{κ:Type}{aG:List (κ×V)}{vs:List (κ×Value)}(r:KV aG vs):(!vs.isEmpty) = !aG.isEmpty:=by
 cases r<;>rfl
theorem vy{xs:List V}{bz:List Value}(r:Vals xs bz):(!bz.toArray.isEmpty) = !xs.isEmpty:=by
 cases r<;>simp
theorem sP:(zcz:Nat)<2 ^ 63:=by rw[sizeLine_eq];decide
theorem ON:VX X (fun x H Q=>∃k,RV X.K x H k/\Q k H):=by
 intro pins s σ H x v Q I rx h
 obtain⟨k,e,q⟩:=h
 have hl:=sP
 have hs:zcz=16777216:=sizeLine_eq
 cases x with
 |cD=>
  cases rx
  have e':k=false:=e
  subst e'
  exact truthy_none ⟨H,I,q⟩
 |bl b=>
  cases rx
  have e':k=b:=e
  subst e'
  exact wpAny_truthy_bool ⟨H,I,q⟩
 |int i=>
  obtain⟨t,rfl⟩:=rx
  have e':k=(i != 0):=e
  subst e'
  exact PySem.P.truthy_int ⟨H,I,q⟩
 |str y=>
  obtain⟨t,rfl⟩:=rx
  obtain⟨hy,e'⟩:y.length<=zcz/\k=((y.length:Int) != 0):=e
  subst e'
  exact PySem.P.truthy_str (by lia) ⟨H,I.tok _,q⟩
 |DD y=>
  obtain⟨t,rfl⟩:=rx
  obtain⟨hy,e'⟩:y.size<=zcz/\k=((y.size:Int) != 0):=e
  subst e'
  exact PySem.W.truthy_bytes (by lia) ⟨H,I.tok _,q⟩
 |ref p=>
  cases rx
  have e':(∃xs,gS X.K H p xs/\k = !xs.isEmpty)\/(∃xs,b8 X.K H p xs/\k = !xs.isEmpty)\/∃aG,H p=some (.dK aG)/\k = !aG.isEmpty:=e
  rcases e' with ⟨xs,hx,e'⟩ |⟨xs,hx,e'⟩ |⟨aG,hx,e'⟩
  ·subst e'
   obtain⟨bz,r,pl,hz⟩:=I.list hx
   have hlen:=r.length
   exact wpAny_truthy_list pl.isList (by simp only[zaa];lia) ⟨H,I.tok _,by rw[vy r];exact q⟩
  ·subst e'
   obtain⟨bz,r,pl,hz⟩:=I.tuple hx
   have hlen:=r.length
   exact truthy_tuple pl (by simp only[zaa];lia) ⟨H,I.tok _,by rw[vy r];exact q⟩
  ·subst e'
   obtain⟨hz,hS,vs,r,m⟩:aG.length<=zcz/\(p==sysModules)=false/\∃vs,KV aG vs/\s.heap.DictOf (bX X.prog X.w) p vs:=I.cS p _ hx
   have hlen:aG.length=vs.length:=Paired.length r
   exact wpAny_truthy_dict hS m (by lia) ⟨H,I.tok _,by rw[Cb r];exact q⟩
 |_=>exact(show False from e).elim
theorem AF(ha:PE X a ta)(he:∀whole,isTrue a X.env whole=(do let v <- whole;standAt a.pos;holding [v] (truthy v))) :
 PT X a (fun σ H Q=>ta σ H fun x H'=>∃k,RV X.K x H' k/\Q k H'):=by
 intro pins s σ H Q I h
 exact isTrue_plain (fK (ha pins s σ H _ I h) fun v s1 ⟨x,H1,I1,r1,q1⟩=>ON pins s1 σ H1 x v Q I1 r1 q1) (he _)
theorem vals1{x:V}{us:List Value}(r:Vals [x] us):∃u,us=[u]/\RelV x u:=by
 cases r with
 |cons r1 r2=>cases r2;exact⟨_,rfl,r1⟩
theorem vals2{x y:V}{us:List Value}(r:Vals [x,y] us):∃u w',us=[u,w']/\RelV x u/\RelV y w':=by
 cases r with
 |cons r1 r2=>
  cases r2 with
  |cons r3 r4=>cases r4;exact⟨_,_,rfl,r1,r3⟩
theorem Fg(hc:X.calm=true):lq X (.builtin "max") (fun xs H Q=>∃i j,xs=[.int i,.int j]/\Q (.int (if j>i then j else i)) H):=by
 intro pins s σ H xs us Q I r h
 obtain⟨i,j,rfl,q⟩:=h
 obtain⟨u,w',rfl,⟨t,rfl⟩,⟨t',rfl⟩⟩:=vals2 r
 refine max_two_ints (I.ok.hd hc) fun h' tk k=>⟨_,H,I.kept k,?_,q⟩
 by_cases hj:j>i
 ·rw[if_pos hj,if_pos hj];exact⟨_,rfl⟩
 ·rw[if_neg hj,if_neg hj];exact⟨_,rfl⟩
theorem Fh(hc:X.calm=true):lq X (.builtin "min") (fun xs H Q=>∃i j,xs=[.int i,.int j]/\Q (.int (if j<i then j else i)) H):=by
 intro pins s σ H xs us Q I r h
 obtain⟨i,j,rfl,q⟩:=h
 obtain⟨u,w',rfl,⟨t,rfl⟩,⟨t',rfl⟩⟩:=vals2 r
 refine min_two_ints (I.ok.hd hc) fun h' tk k=>⟨_,H,I.kept k,?_,q⟩
 by_cases hj:j<i
 ·rw[if_pos hj,if_pos hj];exact⟨_,rfl⟩
 ·rw[if_neg hj,if_neg hj];exact⟨_,rfl⟩
end
structure Fi(h:Heap)(x dx C:Addr)(mA:Str->Option Value):Prop where
 obj:h.get? x=some (zba C dx)
 ns:h.Ns1 dx mA
 ne:dx≠x
theorem Fj{h:Heap}{dx:Addr}{mA:Str->Option Value}(n:h.Ns1 dx mA):∃od,h.get? dx=some od/\∀name,PySem.W.lookIn name od=some (mA name):=by
 obtain⟨o,es,ep,ho,hd,hk,_,hm⟩:=n
 refine⟨o,ho,fun name=>?_⟩
 have e:=hm name
 unfold nsFind findBy at e
 rw[<- Array.find?_toList] at e
 unfold PySem.W.lookIn
 rw[hd]
 dsimp only
 split
 ·rename_i y q
  rw[q] at e
  exact congrArg some e
 ·rename_i q
  rw[q] at e
  have a:es.toList.any (·.refKey)=false:=by
   rw[List.any_eq_false]
   intro y hy
   obtain⟨z,t,VZ⟩:=hk y (Array.mem_toList_iff.mp hy)
   simp[DictEntry.refKey,VZ]
  have a':¬es.toList.any (·.refKey)=true:=by rw[a];exact WC
  rw[if_neg a']
  exact congrArg some e
theorem Fi.look{h:Heap}{x dx C:Addr}{mA:Str->Option Value}(I:Fi h x dx C mA):∃od,PySem.W.InstAt h x (zba C dx) C (some od)/\∀name,PySem.W.lookIn name od=some (mA name):=
 let ⟨od,ho,hl⟩:=Fj I.ns
 ⟨od,⟨I.obj,rfl,rfl,ho⟩,hl⟩
section
variable{prog:zcD}{w:World}{A:zcC}{E:Value->zcB->Prop}{s:zcB}{K:k0}{x dx C f:Addr}{mA:Str->Option Value}{name:Str}{v:Value}
theorem get_map{expr:Bool}{Q:Value->zcB->Prop}(X:K.In s.heap)(I:Fi s.heap x dx C mA)(hg:zb3 K C name=true)(hh:zbU K C=true)
 (ha:zaB K (.ref C) name=some none) (hv:mA name=some v) (KI:PySem.W.handedIn v=true) (h:Q v {s with toks:=s.toks+1}) :
 wpAny (model prog w) A (getAttr (.ref x) name expr) Q E s:=by
 obtain⟨od,J,hl⟩:=I.look
 exact PySem.W.get_value X J (PySem.W.plainGet_of hg).1 (PySem.W.findObj_own hh ha rfl (by rw[hl,hv])) KI h
theorem yQ{ns:List Str}{Q:Unit->zcB->Prop}(X:K.In s.heap)(I:Fi s.heap x dx C mA)
 (hs:zaB K (.ref C) "__setattr__"=some (some (.builtin "object.__setattr__"))) (hp:zcj K C=true) (ht:zcs K C name=some none) (hh:zbU K C=true)
 (hw:PySem.Within mA ns) (hsz:ns.length<=zcz)
 (h:∀h',Fi h' x dx C (fun y=>if y=name then some v else mA y)->Heap.SameBut dx s.heap h'->Q () {s with heap:=h',toks:=s.toks+2}) :
 wpAny (model prog w) A (setAttr (.ref x) name v) Q E s:=by
 obtain⟨od,J,hl⟩:=I.look
 refine PySem.W.set_plain X J hs (PySem.W.osa_open (s:={s with toks:=s.toks+1}) (r:=none) X J hp ht fun b=>?_)
 obtain⟨cd,hc,B4⟩:=PySem.W.any_some hh
 have hx:s.heap.get? x=some ⟨.ref C,some dx,.plain, #[]⟩:=I.obj
 refine zcu (zcv (zcu (zcu (wpAny_loadPart hx (zcu (PySem.W.Looks.here (s:={s with toks:=s.toks+1}) (PySem.W.looks_clsIn X hc) ?_))))))
 rw[B4]
 refine zcv (a:=some dx) (zcu (zcv (zcu ?_)))
 refine wpAny_nsSet1 (s:={s with toks:=s.toks+1}) I.ns fun h' Lg YZ=>?_
 obtain⟨oD,esD,epD,hoD,hdD,hcD⟩:=Lg.count (PySem.Within.cons name v hw)
 refine zcu (wpAny_lookBehind hoD (by rw[hdD];exact pastItsLine_dict (zan hcD (by rw[V0];lia))) ?_)
 exact zcv (h _ ⟨(YZ.2 _ (Ne.symm I.ne)).trans I.obj,Lg,I.ne⟩ YZ)
theorem G8{R:Result->zcB->Prop}{vs:List Value}{kw:List (Str×Value)}(X:K.In s.heap)(hm:zct K C=true)
 (hi:zaB K (.ref C) "__init__"=some (some (.ref f))) (hf:PySem.W.typeIn K (.ref f)=some (.type "function"))
 (h:codeAny (model prog w) (A.under (.builtin "type.__call__" ⟨.ref C::vs,kw⟩)) (.call (.ref f) ⟨.ref (s.heap.objs.size+1)::vs,kw⟩) (PySem.W.InitBack (s.heap.objs.size+1) R)
  {s with heap:=(s.heap.push zaW).push (zba C s.heap.objs.size)}) :
 codeAny (model prog w) A (.call (.ref C) ⟨vs,kw⟩) R s:=by
 obtain⟨hh,g,d,t,os⟩:=s
 exact PySem.W.make_core (PySem.W.makes_of X hm) (PySem.W.looks_findIn X hi) (fun self=>PySem.W.bind_fn X self hf) (.inl rfl) h
end
noncomputable def kr (f:Str) (v:V):List (Str×V)->List (Str×V)
 |[]=>[(f,v)]
 |(g,x)::r=>if g=f then (g,v)::r else (g,x)::kr f v r
theorem ub(f g:Str)(v:V):∀fs:List (Str×V),(kr f v fs).lookup g=if g=f then some v else fs.lookup g
 |[]=>by
  show za4 g [(f,v)]=_
  by_cases h:g=f
  ·have hb:(g==f)=true:=beq_iff_eq.mpr h
   simp only[za4,hb,if_pos h]
  ·have hb:(g==f)=false:=beq_eq_false_iff_ne.mpr h
   simp only[za4,hb,if_neg h]
 |(k,x)::r=>by
  have ih:=ub f g v r
  rw[show kr f v ((k,x)::r)=(if k=f then (k,v)::r else (k,x)::kr f v r) from rfl]
  by_cases hk:k=f
  ·rw[if_pos hk]
   by_cases h:g=k
   ·have hb:(g==k)=true:=beq_iff_eq.mpr h
    simp only[za4,hb,if_pos (h.trans hk)]
   ·have hb:(g==k)=false:=beq_eq_false_iff_ne.mpr h
    simp only[za4,hb,if_neg (fun e:g=f=>h (e.trans hk.symm))]
  ·rw[if_neg hk]
   by_cases h:g=k
   ·have hb:(g==k)=true:=beq_iff_eq.mpr h
    simp only[za4,hb,if_neg (fun e:g=f=>hk (h.symm.trans e))]
   ·have hb:(g==k)=false:=beq_eq_false_iff_ne.mpr h
    simp only[za4,hb]
    exact ih
theorem sQ(f:Str)(v:V):∀fs:List (Str×V),f∈(kr f v fs).map (·.1)/\∀g,g∈fs.map (·.1)->g∈(kr f v fs).map (·.1)
 |[]=>⟨by simp[kr],fun g h=>by simp at h⟩
 |(k,x)::r=>by
  obtain⟨i1,i2⟩:=sQ f v r
  rw[show kr f v ((k,x)::r)=(if k=f then (k,v)::r else (k,x)::kr f v r) from rfl]
  by_cases hk:k=f
  ·rw[if_pos hk]
   subst hk
   exact⟨by simp,fun g h=>by simpa using h⟩
  ·rw[if_neg hk]
   refine⟨?_,fun g h=>?_⟩
   ·rw[Y9]
    exact zad _ i1
   ·rw[Y9] at h ⊢
    rcases Zd.mp h with e |e
    ·exact Zd.mpr (.inl e)
    ·exact zad _ (i2 g e)
theorem ud(f:Str)(v:V):∀fs:List (Str×V),(kr f v fs).length<=fs.length+1
 |[]=>by simp[kr]
 |(k,x)::r=>by
  have ih:=ud f v r
  rw[show kr f v ((k,x)::r)=(if k=f then (k,v)::r else (k,x)::kr f v r) from rfl]
  by_cases hk:k=f
  ·rw[if_pos hk,V0,V0];lia
  ·rw[if_neg hk,V0,V0];lia
theorem pR.some_of{v:V}{o:Option Value}(r:pR (some v) o):∃u,o=some u/\RelV v u:=by
 cases o with
 |none=>exact(show False from r).elim
 |some u=>exact⟨u,rfl,r⟩
theorem Fl{v:V}{u:Value}(r:RelV v u):PySem.W.handedIn u=true:=by
 cases v with
 |cD=>cases (show u=Value.none from r);rfl
 |bl b=>cases (show u=Value.bool b from r);rfl
 |int i=>obtain⟨t,e⟩:=(show ∃t,u=Value.int i t from r);cases e;rfl
 |str x=>obtain⟨t,e⟩:=(show ∃t,u=Value.str x t from r);cases e;rfl
 |DD b=>obtain⟨t,e⟩:=(show ∃t,u=Value.bytes b t from r);cases e;rfl
 |Ov b=>obtain⟨t,e⟩:=(show ∃t,u=Value.float b t from r);cases e;rfl
 |ref a=>cases (show u=Value.ref a from r);rfl
 |ty n=>cases (show u=Value.type n from r);rfl
section
variable{P:zcD}{w:World}{H H':Hp}{h h':Heap}{a C dx:Addr}{fs K9:List (Str×V)}
theorem yR(cS:l5 P w H h)(e:H a=some (.ins C dx fs)):∃mA,Fi h a dx C mA/\(∀f,pR (fs.lookup f) (mA f))/\PySem.Within mA (fs.map (·.1))/\fs.length<=1000/\H dx=some (.own a):=by
 obtain⟨d,z,ne,ob,mA,n,r,q⟩:=(show dg P w H h a (.ins C dx fs) from cS a _ e)
 exact⟨mA,⟨ob,n,ne⟩,r,q,z,d⟩
end
structure Lh(K:k0)(C:Addr):Prop where
 pg:zb3 K C Str.empty=true
 hd:zbU K C=true
 po:zcj K C=true
 sa:zaB K (.ref C) "__setattr__"=some (some (.builtin "object.__setattr__"))
theorem Lh.get{K:k0}{C:Addr}(c:Lh K C)(f:Str):zb3 K C f=true:=c.pg
def jv (K:k0) (C:Addr) (f:Str):Prop:=zaB K (.ref C) f=some none
theorem jv.RW{K:k0}{C:Addr}{f:Str}(n:jv K C f):zcs K C f=some none:=by
 unfold zcs
 rw[show zaB K (.ref C) f=some none from n]
 rfl
section
variable{X:Cx}{pins:List (Addr×Obj)}{σ:St}{H:Hp}{s:zcB}{a C dx:Addr}{fs:List (Str×V)}{f:Str}{v:V}{A:zcC}{E:Value->zcB->Prop}
theorem Cc{b:Bool}{Q:Value->zcB->Prop}(I:Inv X pins σ H s)(e:H a=some (.ins C dx fs))(c:Lh X.K C)(n:jv X.K C f)(l:fs.lookup f=some v)
 (h:∀u s',Inv X pins σ H s'->RelV v u->Q u s'):wpAny (model X.prog X.w) A (getAttr (.ref a) f b) Q E s:=by
 obtain⟨mA,O,r,_,_,_⟩:=yR I.cS e
 obtain⟨u,hu,ru⟩:=pR.some_of (v:=v) (o:=mA f) (by rw[<- l];exact r f)
 exact get_map I.uI O (c.get f) c.hd n hu (Fl ru) (h u _ (I.tok _) ru)
theorem Cd{y:V}{u:Value}{Q:Unit->zcB->Prop}(I:Inv X pins σ H s)(e:H a=some (.ins C dx fs))(c:Lh X.K C)(n:jv X.K C f)(hl:fs.length<1000)(ry:RelV y u)
 (h:∀s',Inv X pins σ (upd H a (.ins C dx (kr f y fs))) s'->Q () s'):wpAny (model X.prog X.w) A (setAttr (.ref a) f u) Q E s:=by
 obtain⟨mA,O,r,wi,_,ho⟩:=yR I.cS e
 have hz:(fs.map (·.1)).length<=zcz:=by rw[Zb,sizeLine_eq];lia
 refine yQ I.uI O c.sa c.po n.RW c.hd wi hz fun h' O' sb=>h _ ?_
 have hd:∃o,h'.get? dx=some o:=let ⟨o,_,_,e',_⟩:=O'.ns;⟨o,e'⟩
 refine I.write (x:=a) (e:=dx) (by rw[e];exact True.intro) (.inr ho) (fun b q hb z=>(sb.2 b hb).trans z) hd ?_
 refine⟨by rw[aw O.ne];exact ho,?_,O.ne,O'.obj,_,O'.ns,fun g=>?_,fun g hg=>?_⟩
 ·have:=ud f y fs;lia
 ·show pR ((kr f y fs).lookup g) (if g=f then some u else mA g)
  rw[ub]
  by_cases q:g=f
  ·rw[if_pos q,if_pos q];exact ry
  ·rw[if_neg q,if_neg q];exact r g
 ·by_cases q:g=f
  ·rw[q];exact(sQ f y fs).1
  ·refine(sQ f y fs).2 g (wi g fun z=>hg ?_)
   show (if g=f then some u else mA g)=none
   rw[if_neg q];exact z
theorem Inv.made(I:Inv X pins σ H s):Inv X pins σ (upd (upd H s.heap.objs.size (.own (s.heap.objs.size+1))) (s.heap.objs.size+1) (.ins C s.heap.objs.size []))
 {s with heap:=(s.heap.push zaW).push (zba C s.heap.objs.size)}:=by
 have e1:(s.heap.push zaW).get? s.heap.objs.size=some zaW:=Heap.get?_push_size s.heap rfl
 have e2:((s.heap.push zaW).push (zba C s.heap.objs.size)).get? (s.heap.objs.size+1)=some (zba C s.heap.objs.size):=by
  have:=Heap.get?_push_size (s.heap.push zaW) (o:=zba C s.heap.objs.size) rfl
  rwa [Heap.size_push] at this
 have e3:(s.heap.push zaW).Ns s.heap.objs.size (fun _=>none):=⟨zaW, #[],_,e1,rfl,(fun e he=>absurd he (by simp)),fun _=>rfl⟩
 have I1:=I.laid (a:=s.heap.objs.size) (o:=.own (s.heap.objs.size+1)) (h':=s.heap.push zaW) (t':=s.toks) (fun b u q=>Heap.get?_push_of_some _ q) (Wr _) ⟨_,e1⟩
 refine I1.laid (a:=s.heap.objs.size+1) (o:=.ins C s.heap.objs.size []) (t':=s.toks) (fun b u q=>Heap.get?_push_of_some _ q) (Nat.le_of_eq (Heap.size_push _ _)) ?_
 have ne:s.heap.objs.size≠s.heap.objs.size+1:=zam (Nat.lt_succ_self _)
 refine⟨by rw[aw ne,ae],zaT _,ne,e2,fun _=>none,(Heap.Ns1.of_empty e3).at fun o q=>Heap.get?_push_of_some _ q,fun _=>True.intro,fun y hy=>absurd rfl hy⟩
theorem Li{prog:zcD}{w:World}{env:Env}{e:Expr}{f:Str}{pos:Pos}{s:zcB}{Q:Value->zcB->Prop}(hb:attributeBase e f env (eval e env)=eval e env)
 (h:wpAny (model prog w) A (eval e env) (fun o s₁=>wpAny (model prog w) A (getAttr o f true) Q E s₁) E s):wpAny (model prog w) A (eval (.Attribute e f pos) env) Q E s:=
 Attribute_any_ h (by rw[arm_eval_Attribute,hb])
end
def OO (K:k0) (ta:TE) (f:Str):TE:=fun σ H Q=>ta σ H fun x H1=>∃a C dx fs v,x=.ref a/\H1 a=some (.ins C dx fs)/\Lh K C/\jv K C f/\fs.lookup f=some v/\Q v H1
def AG (K:k0) (ta tv:TE) (f:Str):TS:=fun D σ H=>tv σ H fun y H1=>ta σ H1 fun x H2=>∃a C dx fs,x=.ref a/\H2 a=some (.ins C dx fs)/\Lh K C/\jv K C f/\fs.length<1000/\
 D.nx σ (upd H2 a (.ins C dx (kr f y fs)))
def DP (K:k0) (ta tv:TE) (rd:V->V->Hp->VK->Prop) (f:Str):TS:=fun D σ H=>ta σ H fun x H1=>∃a C dx fs v,x=.ref a/\H1 a=some (.ins C dx fs)/\Lh K C/\jv K C f/\fs.lookup f=some v/\
 tv σ H1 fun y H2=>rd v y H2 fun z H3=>∃Y0 K9,H3 a=some (.ins C Y0 K9)/\K9.length<1000/\D.nx σ (upd H3 a (.ins C Y0 (kr f z K9)))
section
variable{X:Cx}{o e value:Expr}{f:Str}{pos pos' Lj:Pos}{ta tv:TE}
theorem j7(he:PE X e ta)(hb:attributeBase e f X.env (eval e X.env)=eval e X.env):PE X (.Attribute e f pos) (OO X.K ta f):=by
 intro pins s σ H Q I h
 refine Li hb (fK (he pins s σ H _ I h) fun u s1 zqz=>?_)
 obtain⟨x,H1,I1,rx,a,C,dx,fs,v,ex,ea,c,n,l,q⟩:=zqz
 subst ex
 obtain rfl:u=Value.ref a:=rx
 exact Cc I1 ea c n l fun u' s2 I2 ru=>⟨v,H1,I2,ru,q⟩
theorem vz(ha:PE X o ta)(hv:PE X value tv)(hs:swapsWith value (some (.Attribute o f pos')) pos.line X.env=pure false):PS X (.Assign [.Attribute o f pos'] value pos) (AG X.K ta tv f):=by
 intro pins s σ H D I h
 refine plainObj_wpAny_Assign_Attribute (fK (hv pins s σ H _ I h) fun u s1 zqz=>?_) hs
 obtain⟨y,H1,I1,ry,q⟩:=zqz
 refine fK (ha pins s1 σ H1 _ I1 q) fun ov s2 zqz=>?_
 obtain⟨x,H2,I2,rx,a,C,dx,fs,ex,ea,c,n,l,q2⟩:=zqz
 subst ex
 obtain rfl:ov=Value.ref a:=rx
 exact Cd I2 ea c n l ry fun s3 I3=>⟨σ,_,I3,q2⟩
end
section
variable{X:Cx}{pins:List (Addr×Obj)}{σ:St}{H:Hp}{s:zcB}{A:zcC}{E:Value->zcB->Prop}{Q:Value->zcB->Prop}{c:Value}{b:Bool}
inductive qX(K:k0)(H:Hp):V->Value->Prop where
 |cD:qX K H .cD (.type "NoneType")
 |bl (x:Bool):qX K H (.bl x) (.type "bool")
 |int (i:Int):qX K H (.int i) (.type "int")
 |str (x:Str):qX K H (.str x) (.type "str")
 |Ov (x:UInt64):qX K H (.Ov x) (.type "float")
 |lst {a:Addr} {xs:List V} (e:H a=some (.lst xs)):qX K H (.ref a) (.type "list")
 |Ay {a:Addr} {o:Obj} {xs:List V} (e:H a=some (.Ay o (.lst xs))):qX K H (.ref a) (.type "list")
 |tup {a:Addr} {xs:List V} (e:H a=some (.tup xs)):qX K H (.ref a) (.type "tuple")
 |dK {a:Addr} {aG:List (Key×V)} (e:H a=some (.dK aG)):qX K H (.ref a) (.type "dict")
 |dT {a:Addr} {aG:List (List Key×V)} (e:H a=some (.dT aG)):qX K H (.ref a) (.type "dict")
 |ins {a C dx:Addr} {fs:List (Str×V)} (e:H a=some (.ins C dx fs)) (cl:Lh K C) (ha:zaB K (.ref C) "__class__"=some (some (.builtin "object.__class__")))
  (hn:PySem.W.specialIn K (.builtin "object.__class__") "__get__"=some (some (.builtin "getset_descriptor.__get__"))) (Uw:PySem.W.takesIn K (.builtin "object.__class__")=some true)
  (hm:PySem.W.mroIn K C (.type "object")=some true):qX K H (.ref a) (.ref C)
theorem Fm{x:V}{u t:Value}(I:Inv X pins σ H s)(rx:RelV x u)(ty:qX X.K H x t)(e:zcc X.K t c=some b)(h:∀tk,Q (.bool b) {s with toks:=tk}) :
 wpAny (model X.prog X.w) A (call (.builtin "isinstance") [u,c]) Q E s:=by
 cases ty with
 |cD=>cases (show u=Value.none from rx);exact zaK PySem.W.kitx_none I.uI True.intro e (fun z=>nomatch z) h
 |bl y=>cases (show u=Value.bool y from rx);exact zaK PySem.W.kitx_bool I.uI True.intro e (fun z=>nomatch z) h
 |int i=>obtain⟨t,q⟩:=(show ∃t,u=Value.int i t from rx);cases q;exact zaK PySem.W.kitx_int I.uI True.intro e (fun z=>nomatch z) h
 |str y=>obtain⟨t,q⟩:=(show ∃t,u=Value.str y t from rx);cases q;exact zaK PySem.W.kitx_str I.uI True.intro e (fun z=>nomatch z) h
 |Ov y=>obtain⟨t,q⟩:=(show ∃t,u=Value.float y t from rx);cases q;exact zaK PySem.W.kitx_float I.uI True.intro e (fun z=>nomatch z) h
 |@lst a xs ea=>
  cases (show u=Value.ref a from rx)
  obtain⟨_,_,n,_,h1⟩:=(show dg X.prog X.w H s.heap a (.lst xs) from I.cS a _ ea)
  exact zaK PySem.W.kitx_list I.uI ⟨_,h1,rfl⟩ e (fun z=>nomatch z) h
 |@Ay a ob xs ea=>
  cases (show u=Value.ref a from rx)
  obtain⟨_,_,_,n,_,h1⟩:=(show dg X.prog X.w H s.heap a (.Ay ob (.lst xs)) from I.cS a _ ea)
  exact zaK PySem.W.kitx_list I.uI ⟨_,h1,rfl⟩ e (fun z=>nomatch z) h
 |@tup a xs ea=>
  cases (show u=Value.ref a from rx)
  obtain⟨_,_,_,p⟩:=(show dg X.prog X.w H s.heap a (.tup xs) from I.cS a _ ea)
  obtain⟨o,h1,h2,_⟩:=p
  exact zaK PySem.W.kitx_tuple I.uI ⟨o,h1,h2⟩ e (fun z=>nomatch z) h
 |@dK a aG ea=>
  cases (show u=Value.ref a from rx)
  obtain⟨_,_,vs,_,p⟩:=(show dg X.prog X.w H s.heap a (.dK aG) from I.cS a _ ea)
  obtain⟨o,es,ep,h1,h2,_⟩:=p
  exact zaK PySem.W.kitx_dict I.uI ⟨o,h1,h2.1⟩ e (fun z=>nomatch z) h
 |@dT a aG ea=>
  cases (show u=Value.ref a from rx)
  obtain⟨_,_,xs,_,o,es,ep,h1,h2,_⟩:=(show dg X.prog X.w H s.heap a (.dT aG) from I.cS a _ ea)
  exact zaK PySem.W.kitx_dict I.uI ⟨o,h1,h2.1⟩ e (fun z=>nomatch z) h
 |@ins a C dx fs ea cl ha hn Uw hm=>
  cases (show u=Value.ref a from rx)
  obtain⟨mA,O,_⟩:=yR I.cS ea
  obtain⟨od,J,_⟩:=O.look
  exact zaK (PySem.W.kitx_own (cl.get _) cl.hd ha hn Uw hm) I.uI J e (fun z=>nomatch z) h
end
structure gg(k:Nat)(A:zcC):Prop where
 hd:A.handled=none
 dp:A.depth+3*k+5<recursionLimit
 un:A.units+16*k+200<cLine
theorem gg.mono{j k:Nat}{A:zcC}(r:gg k A)(h:j<=k):gg j A:=⟨r.hd,by have:=r.dp;lia,by have:=r.un;lia⟩
theorem gg.deeper{k:Nat}{A:zcC}(r:gg (k+1) A)(env:Env):gg k (A.deeper env):=
 ⟨r.hd,by have:=r.dp;show A.depth+1+3*k+5<_;lia,by have:=r.un;show A.units+3+16*k+200<_;lia⟩
theorem Ce{A:zcC}{C:Addr}{us:List Value}{kw:List (Str×Value)}:(A.under (.builtin "type.__call__" ⟨.ref C::us,kw⟩)).depth=A.depth+1:=by
 first |rfl |simp[Around.under,Code.weight,Code.isCreation,Code.isGuard,Code.isCaller,Code.frames,Code.isFrame,guardIds]
theorem Cf{A:zcC}{C:Addr}{us:List Value}{kw:List (Str×Value)}:(A.under (.builtin "type.__call__" ⟨.ref C::us,kw⟩)).units=A.units+1:=by
 first |rfl |simp[Around.under,Code.cUnits,Code.frames,Code.isFrame]
theorem gg.make{k:Nat}{A:zcC}(r:gg (k+1) A)(C:Addr)(us:List Value)(kw:List (Str×Value)):gg k (A.under (.builtin "type.__call__" ⟨.ref C::us,kw⟩)):=
 ⟨r.hd,by have:=r.dp;rw[Ce];lia,by have:=r.un;rw[Cf];lia⟩
theorem gg.depth{k:Nat}{A:zcC}(r:gg k A):A.depth<recursionLimit:=by have:=r.dp;lia
theorem gg.units{k:Nat}{A:zcC}(r:gg k A):A.units+64<cLine:=by have:=r.un;lia
def Lk:TA:=fun _ H Q=>Q [] H
def xR (ta:TE) (tr:TA):TA:=fun σ H Q=>ta σ H fun x H1=>tr σ H1 fun xs H2=>Q (x::xs) H2
section
variable{X:Cx}{e:Expr}{es:List Expr}{te:TE}{t:TA}{pos:Pos}
theorem ah:PA X [] Lk:=fun _ _ _ _ H Q I h=>Calls.spliced_nil ⟨[],H,I,.nil,h⟩
theorem aa(ha:PE X e te)(hr:PA X es t)(hs:zcx (e::es) X.env=(false,eval e X.env)::zcx es X.env:=by rfl):PA X (e::es) (xR te t):=by
 intro pos pins s σ H Q I h
 rw[hs]
 show wpAny _ _ (spliced ((false,eval e X.env)::backTo pos (zcx es X.env))) _ _ s
 refine Calls.spliced_cons (fK (ha pins s σ H _ I h) fun u s1 zqz=>?_)
 obtain⟨x,H1,I1,r1,q1⟩:=zqz
 exact fK (hr pos pins s1 σ H1 _ I1 q1) fun us s2 ⟨xs,H2,I2,r2,q2⟩=>⟨x::xs,H2,I2,.cons r1 r2,q2⟩
def RX (t:TA):TE:=fun σ H Q=>t σ H fun xs H1=>xs.length<=zcz/\∀p,H1 p=none->Q (.ref p) (upd H1 p (.tup xs))
def RY (t:TA):TE:=fun σ H Q=>t σ H fun xs H1=>xs.length<=zcz/\∀p,H1 p=none->Q (.ref p) (upd H1 p (.lst xs))
theorem a7{x1}(h:PA X es t):PE X (.Tuple es x1 pos) (RX t):=by
 intro pins s σ H Q I hq
 refine wpAny_Tuple_spliced (fK (h pos pins s σ H _ I hq) fun us s1 ⟨xs,H1,I1,r,z,q⟩=>⟨by rw[<- r.length];exact z,?_⟩)
 have hf:H1 s1.heap.objs.size=none:=I1.cS.fresh (Wr _)
 refine⟨.ref s1.heap.objs.size,upd H1 s1.heap.objs.size (.tup xs),I1.laid (t':=s1.toks) (fun b u e=>Heap.get?_push_of_some _ e) (Wr _) ?_,rfl,q _ hf⟩
 exact⟨z,us,r,⟨_,Heap.get?_push_size _ rfl,rfl,_,rfl⟩⟩
theorem bF(h:PA X es t):PE X (.List es pos) (RY t):=by
 intro pins s σ H Q I hq
 refine wpAny_List_spliced (fK (h pos pins s σ H _ I hq) fun us s1 ⟨xs,H1,I1,r,z,q⟩=>⟨by rw[<- r.length];exact z,?_⟩)
 have hf:H1 s1.heap.objs.size=none:=I1.cS.fresh (Wr _)
 refine⟨.ref s1.heap.objs.size,upd H1 s1.heap.objs.size (.lst xs),I1.laid (t':=s1.toks) (fun b u e=>Heap.get?_push_of_some _ e) (Wr _) ?_,rfl,q _ hf⟩
 exact⟨z,us,0,r,Heap.get?_push_size _ rfl⟩
end
abbrev Sp:=List V->Hp->VK->XK->Prop
abbrev ve:=List Env->Hp->zcB->XK->Value->zcB->Prop
structure me(P:zcD)(w:World)(K:k0)(mg:Str->Option Value)(base:Heap)(A:zcC)(outer:List Env)(s:zcB)(H:Hp):Prop where
 frames:A.frames=some outer
 mod:Mod K mg base
 bs:∀b o,base.get? b=some o->s.heap.get? b=some o/\H b=none
 yM:base.objs.size<=s.heap.objs.size
 nL:s.heap.FunFrames base outer
 GL:∀b∈dG outer,H b=none
 cS:l5 P w H s.heap
 bare:AllBare s.gens
def CE (outer:List Env) (P:zcD) (w:World) (H:Hp) (s:zcB) (Q:VK) (u:Value) (s':zcB):Prop:=
 ∃v H',s'.os=s.os/\AllBare s'.gens/\Un (dG outer) [] H H' s.heap s'.heap/\l5 P w H' s'.heap/\RelV v u/\Q v H'
def CR (CX:ve) (outer:List Env) (P:zcD) (w:World) (H:Hp) (s:zcB) (Q:VK) (E:XK) (r:Result) (s':zcB):Prop:=
 match r with
 |.ok (.ret u)=>CE outer P w H s Q u s'
 |.ok _=>False
 |.error e=>CX outer H s E e s'
structure bN(P:zcD)(w:World)(K:k0)(mg:Str->Option Value)(base:Heap)(CX:ve)(k:Nat)(f:Addr)(fd:zcA)(ps:List Str)(sp:Sp):Prop where
 len:∀vs H Q E,sp vs H Q E->vs.length=ps.length
 run:∀(A:zcC) (outer:List Env) (s:zcB) (H:Hp) (args:Args) (us:List Value) (vs:List V) (Q:VK) (E:XK),gg k A->me P w K mg base A outer s H->BindsTo s fd args (ps.zip us)->Vals vs us->sp vs H Q E->
  codeAny (model P w) A (.call (.ref f) args) (CR CX outer P w H s Q E) s
theorem bN.mono{P:zcD}{w:World}{K:k0}{mg:Str->Option Value}{base:Heap}{CX:ve}{j k:Nat}{f:Addr}{fd:zcA}{ps:List Str}{sp:Sp}(F:bN P w K mg base CX j f fd ps sp)(h:j<=k) :
 bN P w K mg base CX k f fd ps sp:=⟨F.len,fun A outer s H args us vs Q E hr=>F.run A outer s H args us vs Q E (hr.mono h)⟩
theorem me.make{P:zcD}{w:World}{K:k0}{mg:Str->Option Value}{base:Heap}{A:zcC}{outer:List Env}{s:zcB}{H:Hp}(e:me P w K mg base A outer s H)(C:Addr)(us:List Value)(kw:List (Str×Value)) :
 me P w K mg base (A.under (.builtin "type.__call__" ⟨.ref C::us,kw⟩)) outer s H:=⟨by first |exact e.frames |(simpa[Around.under,Code.envs,Code.isFrame,pushEnvs] using e.frames),e.mod,e.bs,e.yM,e.nL,e.GL,e.cS,e.bare⟩
section
variable{X:Cx}{pins:List (Addr×Obj)}{σ:St}{H:Hp}{s s':zcB}
theorem Inv.Ll(I:Inv X pins σ H s):me X.prog X.w X.K X.mg X.base X.A X.stack s H:=
 ⟨I.ok.frames,I.ok.mod,I.bs,zan I.ok.yM I.sz,I.stack,I.yN,I.cS,I.bare⟩
theorem Inv.after{Q:VK}{u:Value}(I:Inv X pins σ H s)(h:CE X.stack X.prog X.w H s Q u s'):EP X pins σ Q u s':=by
 obtain⟨v,H',os,bare,un,cS,r,q⟩:=h
 obtain⟨hh,g,d,t,os'⟩:=s'
 obtain rfl:os'=s.os:=os
 exact⟨v,H',I.call (h':=hh) (g':=g) (d':=d) (t':=t) (ch:=[]) un cS bare (fun b z=>absurd z (by simp)),r,q⟩
end
def DQ (sp:Sp) (xk:List V) (E:XK) (t:TA):TE:=fun σ H Q=>t σ H fun vs H1=>sp (vs++xk) H1 Q E
def Ni (C:Addr) (m:Str) (sp:Sp) (xk:List V) (E:XK) (ta:TE) (t:TA):TE:=fun σ H Q=>ta σ H fun x H1=>∃a dx fs,x=.ref a/\H1 a=some (.ins C dx fs)/\fs.lookup m=none/\
 t σ H1 fun vs H2=>sp (x::(vs++xk)) H2 Q E
def G9 (C:Addr) (sp:Sp) (xk:List V) (E:XK) (t:TA):TE:=fun σ H Q=>t σ H fun vs H1=>∀x dx,H1 x=none->H1 dx=none->dx≠x->
 sp (.ref x::(vs++xk)) (upd (upd H1 dx (.own x)) x (.ins C dx [])) (fun v H2=>v=.cD/\Q (.ref x) H2) E
def Binds (K:k0) (fd:zcA) (ps:List Str) (ds:List Value):Prop:=
 ∀(s:zcB) (us:List Value),K.In s.heap->(us++ds).length=ps.length->BindsTo s fd ⟨us,[]⟩ (ps.zip (us++ds))
theorem Binds.all{K:k0}{fd:zcA}{ps:List Str}(h:∀us:List Value,us.length=ps.length->bindArgs fd ⟨us,[]⟩=pure (ps.zip us)):Binds K fd ps []:=fun s us _ hl=>by
 rw[zab] at hl ⊢
 exact .of_eq (h us hl)
def Passes (CX:ve) (X:Cx) (E:XK):Prop:=∀(pins:List (Addr×Obj)) (σ:St) (H:Hp) (s:zcB) (e:Value) (s':zcB),Inv X pins σ H s->CX X.stack H s E e s'->X.xe e s'
section
variable{X:Cx}{CX:ve}{k:Nat}{f C:Addr}{fd:zcA}{ps:List Str}{sp:Sp}{xk:List V}{ds:List Value}{E:XK}{x m:Str}{p pos apos:Pos}{e o:Expr}{es:List Expr}{ta:TE}{t:TA}
theorem OP{pins:List (Addr×Obj)}{σ:St}{H:Hp}{s:zcB}{Q:VK}{us:List Value}{vs:List V}(F:bN X.prog X.w X.K X.mg X.base CX k f fd ps sp)(hr:gg k X.A)(hb:Binds X.K fd ps ds)(hd:Vals xk ds)(hx:Passes CX X E)
 (I:Inv X pins σ H s) (r:Vals vs us) (h:sp (vs++xk) H Q E):wpAny (model X.prog X.w) X.A (call (.ref f) us) (EP X pins σ Q) X.xe s:=by
 have r2:Vals (vs++xk) (us++ds):=r.append hd
 have hl:(us++ds).length=ps.length:=by rw[<- r2.length];exact F.len _ _ _ _ h
 refine wpAny_call (codeAny_mono (F.run X.A X.stack s H ⟨us,[]⟩ (us++ds) (vs++xk) Q E hr I.Ll (hb s us I.uI hl) r2 h) fun r s' hq=>?_)
 cases r with
 |error e=>exact hx pins σ H s e s' I hq
 |ok fl=>
  cases fl with
  |ret u=>exact I.after hq
  |next=>exact False.elim hq
  |brk=>exact False.elim hq
  |cont=>exact False.elim hq
theorem az(F:bN X.prog X.w X.K X.mg X.base CX k f fd ps sp)(hr:gg k X.A)(hg:Gl X x)(hm:X.mg x=some (.ref f))(hk:zbe X.K (.ref f)=true)(hb:Binds X.K fd ps ds)(hd:Vals xk ds)(hx:Passes CX X E)
 (ha:PA X (e::es) t) (Lm:(x==("__debug__":Str))=false:=by decide) (he:zcx (e::es) X.env=(false,eval e X.env)::zcx es X.env:=by rfl) (BX:(backTo pos (zcx es X.env)).any (·.1)=false:=by rfl) :
 PE X (.Call (.Name x p) (e::es) [] pos) (DQ sp xk E t):=by
 intro pins s σ H Q I h
 refine wpAny_Call_Name_kw (uZ I hg hm ?_ Lm)
 refine zcg (h₀:=X.base) I.ok.mod.Ry hk (fK (ha pos pins s σ H _ I h) fun us s1 ⟨vs,H1,I1,r,q⟩=>⟨I1.uI,?_⟩) he BX
 exact OP F hr hb hd hx I1 r q
structure Mk(K:k0)(C f:Addr):Prop where
 makes:zct K C=true
 init:zaB K (.ref C) "__init__"=some (some (.ref f))
 fn:PySem.W.isFn K (.ref f)=true
 kp:zbe K (.ref C)=true
theorem Ha{pins:List (Addr×Obj)}{σ:St}{H:Hp}{s:zcB}{Q:VK}{us:List Value}{vs:List V}(M:Mk X.K C f)(F:bN X.prog X.w X.K X.mg X.base CX k f fd ps sp)(hr:gg (k+1) X.A)(hb:Binds X.K fd ps ds)(hd:Vals xk ds)
 (hx:Passes CX X E) (I:Inv X pins σ H s) (r:Vals vs us)
 (h:∀x dx,H x=none->H dx=none->dx≠x->sp (.ref x::(vs++xk)) (upd (upd H dx (.own x)) x (.ins C dx [])) (fun v H2=>v=.cD/\Q (.ref x) H2) E) :
 wpAny (model X.prog X.w) X.A (call (.ref C) us) (EP X pins σ Q) X.xe s:=by
 have hq:=h (s.heap.objs.size+1) s.heap.objs.size (I.cS.fresh (Nat.le_succ _)) (I.cS.fresh (Wr _)) (zam (Nat.lt_succ_self _))
 have I2:=Inv.made (C:=C) I
 have r2:Vals (V.ref (s.heap.objs.size+1)::(vs++xk)) (Value.ref (s.heap.objs.size+1)::(us++ds)):=.cons rfl (r.append hd)
 have hl:(Value.ref (s.heap.objs.size+1)::us++ds).length=ps.length:=by
  have e:=r2.length
  rw[F.len _ _ _ _ hq] at e
  exact e.symm
 refine wpAny_call (G8 (f:=f) I.uI M.makes M.init (beq_iff_eq.mp M.fn) (codeAny_mono (F.run _ X.stack _ _ ⟨Value.ref (s.heap.objs.size+1)::us,[]⟩ (Value.ref (s.heap.objs.size+1)::(us++ds)) _ _ E (hr.make C us [])
  (I2.Ll.make C us []) (hb _ (Value.ref (s.heap.objs.size+1)::us) I2.uI hl) r2 hq) fun r s' RZ=>?_))
 cases r with
 |error e=>exact hx pins σ _ _ e s' I2 RZ
 |ok fl=>
  cases fl with
  |ret u=>
   obtain⟨v,H',I3,rv,ev,q3⟩:=I2.after RZ
   subst ev
   exact⟨rv,⟨V.ref (s.heap.objs.size+1),H',I3,rfl,q3⟩⟩
  |next=>exact False.elim RZ
  |brk=>exact False.elim RZ
  |cont=>exact False.elim RZ
theorem Ln(M:Mk X.K C f)(F:bN X.prog X.w X.K X.mg X.base CX k f fd ps sp)(hr:gg (k+1) X.A)(hg:Gl X x)(hm:X.mg x=some (.ref C))(hb:Binds X.K fd ps ds)(hd:Vals xk ds)(hx:Passes CX X E)
 (ha:PA X (e::es) t) (Lm:(x==("__debug__":Str))=false:=by decide) (he:zcx (e::es) X.env=(false,eval e X.env)::zcx es X.env:=by rfl) (BX:(backTo pos (zcx es X.env)).any (·.1)=false:=by rfl) :
 PE X (.Call (.Name x p) (e::es) [] pos) (G9 C sp xk E t):=by
 intro pins s σ H Q I h
 refine wpAny_Call_Name_kw (uZ I hg hm ?_ Lm)
 refine zcg (h₀:=X.base) I.ok.mod.Ry M.kp (fK (ha pos pins s σ H _ I h) fun us s1 ⟨vs,H1,I1,r,q⟩=>⟨I1.uI,?_⟩) he BX
 exact Ha M F hr hb hd hx I1 r q
end
structure bg(N P:List Str)(sc:Scope):Prop where
 kind:sc.kind=.function
 co:sc.isCoroutine=false
 gen:sc.isGenerator=false
 nd:N.Nodup
 pre:N.take P.length=P
 par:∀x∈P,sc.names.lookup x=some .local\/sc.names.lookup x=some .cell
 OQ:∀y∈sc.names,y.2≠.free
theorem xS{kindOf:Str->Option NameKind}{x:Str}:∀ {binds:List (Str×Value)} {m:Str->Option Value},(∀v,(x,v) ∉ binds)->bindL kindOf binds m x=m x
 |[],_,_=>rfl
 |(n,v)::r,m,h=>by
  unfold bindL
  rw[xS fun w hw=>h w (zad _ hw)]
  split
  ·have:x≠n:=by rintro rfl;exact h v UH
   simp[this]
  ·rfl
theorem xT{kindOf:Str->Option NameKind}{x:Str}:∀ {binds:List (Str×Value)} {m:Str->Option Value},(∀v,(x,v) ∉ binds)->bindC kindOf binds m x=m x
 |[],_,_=>rfl
 |(n,v)::r,m,h=>by
  unfold bindC
  rw[xT fun w hw=>h w (zad _ hw)]
  split
  ·rfl
  ·have:x≠n:=by rintro rfl;exact h v UH
   simp[this]
theorem xU{kindOf:Str->Option NameKind}{x:Str}{v:Value}:∀ {P:List Str} {vs:List Value} {i:Nat} {m:Str->Option Value},P.Nodup->P[i]?=some x->vs[i]?=some v->kindOf x=some .local->
 bindL kindOf (P.zip vs) m x=some v
 |[],_,_,_,_,h,_,_=>by simp at h
 |_::_,[],_,_,_,_,h,_=>by simp at h
 |p::P,w::vs,0,m,nd,h1,h2,hk=>by
  simp at h1 h2;subst h1;subst h2
  show bindL kindOf ((p,w)::P.zip vs) m p=_
  unfold bindL
  rw[xS fun v hv=>(zaq.mp nd).1 (zcp hv).1,if_pos hk]
  simp
 |p::P,w::vs,i+1,m,nd,h1,h2,hk=>by
  show bindL kindOf ((p,w)::P.zip vs) m x=_
  unfold bindL
  exact xU (i:=i) (zaq.mp nd).2 (by simpa using h1) (by simpa using h2) hk
theorem xV{kindOf:Str->Option NameKind}{x:Str}{v:Value}:∀ {P:List Str} {vs:List Value} {i:Nat} {m:Str->Option Value},P.Nodup->P[i]?=some x->vs[i]?=some v->kindOf x≠some .local->
 bindC kindOf (P.zip vs) m x=some v
 |[],_,_,_,_,h,_,_=>by simp at h
 |_::_,[],_,_,_,_,h,_=>by simp at h
 |p::P,w::vs,0,m,nd,h1,h2,hk=>by
  simp at h1 h2;subst h1;subst h2
  show bindC kindOf ((p,w)::P.zip vs) m p=_
  unfold bindC
  rw[xT fun v hv=>(zaq.mp nd).1 (zcp hv).1,if_neg hk]
  simp
 |p::P,w::vs,i+1,m,nd,h1,h2,hk=>by
  show bindC kindOf ((p,w)::P.zip vs) m x=_
  unfold bindC
  exact xV (i:=i) (zaq.mp nd).2 (by simpa using h1) (by simpa using h2) hk
noncomputable def start (N:List Str) (vs:List V):St:=vs.map some++zcb (N.length-vs.length) none
noncomputable def mf (CX:ve) (P:zcD) (w:World) (K:k0) (mg:Str->Option Value) (base:Heap) (N:List Str) (qual:Str) (scope:Scope) (f:Addr) (cd:Value) (A:zcC) (outer:List Env) (s:zcB) (H:Hp) (E:XK):Cx where
 prog:=P
 w:=w
 K:=K
 mg:=mg
 base:=base
 A:=A.deeper (envOfC qual scope s.heap.objs.size f cd)
 N:=N
 s₀:=s
 H₀:=H
 env:=envOfC qual scope s.heap.objs.size f cd
 outer:=outer
 stack:=envOfC qual scope s.heap.objs.size f cd::outer
 ex:=[]
 calm:=true
 fn:=fun _=>true
 pn:=[]
 xe:=fun e s'=>wpAny (model P w) (A.deeper (envOfC qual scope s.heap.objs.size f cd)) (leaving (envOfC qual scope s.heap.objs.size f cd) e) (fun _ Fn=>CX outer H s E e Fn) (fun e' Fn=>CX outer H s E e' Fn) s'
theorem AH{sc:Scope}{n:Nat}{x:Str}(h:sc.names.lookup x=some .cell):∃c,(cellsFrom n sc.names []).lookup x=some c:=by
 have q:=PySem.W.cellsFrom_some sc.names n [] (.inl h)
 exact Option.isSome_iff_exists.mp q
theorem Fo{CX:ve}{P:zcD}{w:World}{K:k0}{mg:Str->Option Value}{base:Heap}{N ps:List Str}{qual:Str}{scope:Scope}{f:Addr}{cd:Value}{A:zcC}{outer:List Env}{s s1:zcB}{H:Hp}{E:XK}{us:List Value}{vs:List V}
 (S:bg N ps scope) (hd:A.handled=none) (e0:me P w K mg base A outer s H) (hl:vs.length=ps.length) (r:Vals vs us)
 (x:InCallC s s.heap.objs.size (bindL (envOfC qual scope s.heap.objs.size f cd).kindOf (ps.zip us) fun _=>none) (cellsFrom (s.heap.objs.size+1) scope.names []) (bindC (envOfC qual scope s.heap.objs.size f cd).kindOf (ps.zip us) fun _=>none) s1) :
 Inv (mf CX P w K mg base N qual scope f cd A outer s H E) [] (start N vs) H s1:=by
 have BX:ps.length<=N.length:=by have:=congrArg zaO S.pre;rw[zbz] at this;lia
 obtain⟨h1,tk,rfl,hk⟩:=x.done
 have Lo:∀b:Addr,b ∉ (mf CX P w K mg base N qual scope f cd A outer s H E).ex:=fun b z=>absurd (show b∈([]:List Addr) from z) (by simp)
 refine⟨⟨e0.mod,S.kind,rfl,rfl,Wr _,fun y z c h1 h2=>?_,fun y hy=>?_,fun y c _ h=>?_,fun _=>hd,Around.frames_deeper e0.frames,.inr ⟨rfl,rfl⟩,fun b z=>absurd z (Lo b),e0.bs,e0.yM,fun b _ _=>Lo b,fun b z=>absurd z (Lo b),e0.nL,e0.GL⟩,
  rfl,e0.bare,Un.kept hk,⟨_,x.toInCall.ns,fun i y v h1 h2 h3=>?_⟩,fun y c h=>⟨_,x.cell y c h⟩,e0.cS.fresh (Wr _),fun y c h=>?_,fun p hp=>absurd (show p∈([]:List (Addr×Obj)) from hp) (by simp),e0.cS.kept hk,?_⟩
 ·exact name_of_addr x.apart (PySem.mem_of_lookup h1) (PySem.mem_of_lookup h2)
 ·have hy:scope.names.lookup y=some .cell\/scope.names.lookup y=some .free:=hy
  rcases hy with hy |hy
  ·exact AH hy
  ·exact absurd rfl (S.OQ _ (PySem.mem_of_lookup hy))
 ·exact zb6 (x.above y c (PySem.mem_of_lookup h))
 ·have hi:i<vs.length:=by
   unfold start at h2
   by_cases hi:i<vs.length
   ·exact hi
   ·rw[zbi (by simpa using hi)] at h2
    rw[List.getElem?_replicate] at h2
    split at h2<;>cases h2
  have ha:vs[i]?=some v:=by
   unfold start at h2
   rw[zbC (by simpa using hi),UB] at h2
   cases e:vs[i]? with
   |none=>rw[e] at h2;cases h2
   |some a=>rw[e] at h2;cases h2;rfl
  obtain⟨u,hu,rv⟩:=r.get ha
  have hp:ps[i]?=some y:=by
   rw[<- S.pre,List.getElem?_take_of_lt (by lia)];exact h1
  have Y1:ps.Nodup:=by rw[<- S.pre];exact S.nd.sublist (List.take_sublist _ _)
  refine⟨u,rv,?_⟩
  rcases S.par y (zaD hp) with k |k
  ·exact .inl ⟨k,xU Y1 hp hu k⟩
  ·obtain⟨c,e⟩:=AH (n:=s.heap.objs.size+1) k
   refine .inr ⟨.inl k,c,e,?_⟩
   have q:=x.cell y c e
   rw[xV Y1 hp hu (by show scope.names.lookup y≠_;rw[k];decide)] at q
   exact q
 ·exact e0.cS.fresh (zb6 (x.above y c (PySem.mem_of_lookup h)))
 ·unfold start
  show _=N.length
  rw[Zc,Zb,List.length_replicate]
  lia
theorem Nj{CX:ve}{P:zcD}{w:World}{K:k0}{mg:Str->Option Value}{base:Heap}{k:Nat}{f:Addr}{name qual:Str}{params:Arguments}{body:List Stmt}{scope:Scope}{dV kV doc pm fc ct oc:Value}{an od:Option Addr}
 {DR:Array (Option Value)} {N ps:List Str} {sp:Sp} (lk:K.lookup f=some ⟨oc,od,.func (zbb name qual params body scope dV kV doc pm an fc ct),DR⟩) (DG:zbO K fc qual=true) (S:bg N ps scope)
 (len:∀vs H Q E,sp vs H Q E->vs.length=ps.length)
 (qY:∀(A:zcC) (outer:List Env) (s:zcB) (H:Hp) (vs:List V) (Q:VK) (E:XK),gg k (A.deeper (envOfC qual scope s.heap.objs.size f fc))->sp vs H Q E->
  ∃t,B5 (mf CX P w K mg base N qual scope f fc A outer s H E) body t/\t {nx:=fun _ H'=>Q .cD H',rt:=Q} (start N vs) H) :
 bN P w K mg base CX (k+1) f (zbb name qual params body scope dV kV doc pm an fc ct) ps sp:=by
 refine⟨len,fun A outer s H args us vs Q E hr e0 hb r DT=>?_⟩
 have hl:=len _ _ _ _ DT
 have KX:K.In s.heap:=e0.mod.Ry.keeps fun b o e=>(e0.bs b o e).1
 have lim:s.heap.NoLimit:=e0.mod.nolimit.keeps fun b o e=>(e0.bs b o e).1
 have R0:∀y∈ps.zip us,scope.names.lookup y.1=some .local\/(scope.names.lookup y.1=some .cell/\((cellsFrom (s.heap.objs.size+1) scope.names []).lookup y.1).isSome=true):=fun ⟨n,v⟩ hy=>by
  rcases S.par n (zcp hy).1 with q |q
  ·exact .inl q
  ·exact .inr ⟨q,PySem.W.cellsFrom_some _ _ _ (.inl q)⟩
 refine codeAny_call_function hr.depth (KX _ _ lk) rfl S.co S.gen rfl (PySem.W.codeRec_of KX DG) (hb _ _ _ _ ?_)
 refine wpAny_newFunctionEnv_cells S.kind R0 fun env he s1 x=>?_
 subst he
 refine⟨lim.keeps x.toInCall.keep,codeAny_func ?_⟩
 obtain⟨t,ht,hq⟩:=qY A outer s H vs Q E (hr.deeper _) DT
 have I:Inv (mf CX P w K mg base N qual scope f fc A outer s H E) [] (start N vs) H s1:=Fo S hr.hd e0 hl r x
 refine wpAny_mono (ht [] s1 (start N vs) H _ I hq) (fun fl s' hs=>?_) fun e s' hs=>hs
 have fin:∀ {σ':St} {H':Hp} {v:V} {u:Value},Inv (mf CX P w K mg base N qual scope f fc A outer s H E) [] σ' H' s'->RelV v u->Q v H'->CE outer P w H s Q u s':=
  fun {σ' H' v u} J rv q=>⟨v,H',J.os,J.bare,J.base,J.cS,rv,q⟩
 cases fl with
 |ret u=>
  obtain⟨v,σ',H',J,rv,q⟩:=hs
  exact fin J rv q
 |next=>
  obtain⟨σ',H',J,q⟩:=hs
  exact fin (v:=V.cD) (u:=Value.none) J rfl q
 |brk=>
  obtain⟨_,_,_,q⟩:=hs
  exact False.elim q
 |cont=>
  obtain⟨_,_,_,q⟩:=hs
  exact False.elim q
section
variable{X:Cx}{x:Str}{p pos:Pos}{e:Expr}{es:List Expr}{t:TA}{id T:String}{r:List V->Hp->VK->Prop}
def V5 (r:List V->Hp->VK->Prop) (t:TA):TE:=fun σ H Q=>t σ H fun vs H1=>r vs H1 Q
theorem bY(hc:lq X (.builtin id) r)(hg:Gl X x)(hm:X.mg x=none)(hv:bootBuiltins x=some (.builtin id))(ha:PA X (e::es) t)(hn:x≠"__name__":=by decide)(Lm:(x==("__debug__":Str))=false:=by decide)
 (he:zcx (e::es) X.env=(false,eval e X.env)::zcx es X.env:=by rfl) (BX:(backTo pos (zcx es X.env)).any (·.1)=false:=by rfl):PE X (.Call (.Name x p) (e::es) [] pos) (V5 r t):=by
 intro pins s σ H Q I h
 refine wpAny_Call_Name_kw (qx I hg hm hv ?_ hn Lm)
 exact PyProof.Rows.callWith_builtin1 (fK (ha pos pins s σ H _ I h) fun us s1 ⟨vs,H1,I1,r1,q1⟩=>hc pins s1 σ H1 vs us Q I1 r1 q1) he BX
theorem eS(hc:lq X (.type T) r)(hg:Gl X x)(hm:X.mg x=none)(hv:bootBuiltins x=some (.type T))(ha:PA X (e::es) t)(hn:x≠"__name__":=by decide)(Lm:(x==("__debug__":Str))=false:=by decide)
 (he:zcx (e::es) X.env=(false,eval e X.env)::zcx es X.env:=by rfl) (BX:(backTo pos (zcx es X.env)).any (·.1)=false:=by rfl):PE X (.Call (.Name x p) (e::es) [] pos) (V5 r t):=by
 intro pins s σ H Q I h
 refine wpAny_Call_Name_kw (qx I hg hm hv ?_ hn Lm)
 exact za7 (fK (ha pos pins s σ H _ I h) fun us s1 ⟨vs,H1,I1,r1,q1⟩=>hc pins s1 σ H1 vs us Q I1 r1 q1) he BX
end
end L2
namespace HT
open PySem PyProof.Rows
section
variable{prog:zcD}{w:World}{A:zcC}{E:Value->zcB->Prop}{s:zcB}
theorem Lp{t b:Addr}{vs ws:List Value}{Q:Value->zcB->Prop}(ht:IsTup s.heap t vs.toArray)(hb:IsTup s.heap b ws.toArray)(hv:vs≠[])
 (h1:ws=[]->Q (.ref t) s) (h2:ws≠[]->Q (.ref s.heap.objs.size) {s with heap:=s.heap.push {cls:=.type "tuple",data:=.seq (vs++ws).toArray} })
 (hsz:vs.length+ws.length<=zcz):wpAny (model prog w) A (binaryOp .Add (.ref t) (.ref b)) Q E s:=by
 obtain⟨⟨cls,dd,data,sl⟩,ho,hc,n,hd⟩:=id ht
 obtain⟨⟨V6,QZ,data2,Q0⟩,OR,R1,n2,hd2⟩:=id hb
 simp only at hc hd R1 hd2
 subst hc hd R1 hd2
 have e:vs.toArray++ws.toArray=(vs++ws).toArray:=by simp
 by_cases hw:ws=[]
 ·exact concat_meets ⟨_,ho,rfl⟩ ⟨_,OR,rfl⟩ noFill_tuple_add seq_tuple_add zbY zbQ (zbI _ _)
   (tuple_addW1 t b vs.toArray ws.toArray n n2 dd QZ sl Q0 (by simpa using hv) (by simp[hw])) ⟨ho,OR,h1 hw⟩
 ·refine concat_meets ⟨_,ho,rfl⟩ ⟨_,OR,rfl⟩ noFill_tuple_add seq_tuple_add zbY zbQ (zbI _ _)
   (tuple_addW2 t b vs.toArray ws.toArray n n2 dd QZ sl Q0 (by simpa using hv) (by simpa using hw) (by rw[zaa,zaa];exact hsz)) ⟨ho,OR,?_⟩
  rw[e]
  exact h2 hw
noncomputable def fZ (n d:Nat):Option Int->Nat
 |none=>d
 |some v=>if v<0 then (v+(n:Int)).toNat else min v.toNat n
theorem nO(n d:Nat):fZ n d none=d:=rfl
theorem pf(n d k:Nat):fZ n d (some (k:Int))=min k n:=by
 show (if (k:Int)<0 then ((k:Int)+(n:Int)).toNat else min (k:Int).toNat n)=min k n
 rw[if_neg (by lia),zaU]
theorem Cg(n d:Nat)(hd:d<=n)(o:Option Int):fZ n d o<=n:=by
 cases o with
 |none=>exact hd
 |some v=>
  show (if v<0 then (v+(n:Int)).toNat else min v.toNat n)<=n
  by_cases hv:v<0
  ·rw[if_pos hv];lia
  ·rw[if_neg hv];exact Nat.min_le_right _ _
theorem DU(v:Int)(n d:Nat):(if v<0 then max (v+(n:Int)) 0 else min v (n:Int))=((fZ n d (some v):Nat):Int):=by
 show (if v<0 then max (v+(n:Int)) 0 else min v (n:Int))=(((if v<0 then (v+(n:Int)).toNat else min v.toNat n):Nat):Int)
 by_cases hv:v<0
 ·simp only[if_pos hv];lia
 ·simp only[if_neg hv];lia
theorem Ci(lo hi:Option Int)(n:Nat):Builtin.Slice.sliceAdjust lo hi 1 (n:Int)=(((fZ n 0 lo:Nat):Int),((fZ n n hi:Nat):Int)):=by
 have h1:¬((1:Int)<0):=by lia
 unfold Builtin.Slice.sliceAdjust
 simp only[h1,if_false]
 refine Prod.ext ?_ ?_
 ·cases lo with
  |none=>rfl
  |some v=>exact DU v n 0
 ·cases hi with
  |none=>rfl
  |some v=>exact DU v n n
theorem Cj(i j:Nat):Builtin.Slice.slicePlaces (i:Int) (j:Int) 1=j-i:=by
 unfold Builtin.Slice.slicePlaces
 have h1:(1:Int)>0:=by lia
 simp only[h1,if_true,Int.ediv_one]
 split<;>lia
theorem vA{v:Value}{o:Option Int}{Q:Option Int->zcB->Prop}(p:IsPart v o)(h:Q o s):wpAny (model prog w) A (Builtin.Slice.slicePartIndex v) Q E s:=by
 cases p with
 |none=>exact slicePart_none h
 |int i t=>exact slicePart_int h
theorem lC{sl:Addr}{vl vu:Value}{lo hi:Option Int}{n:Nat}{Q:Int×Int×Nat->zcB->Prop}(hs:s.heap.IsSliceOf sl vl vu .none)(pl:IsPart vl lo)(pu:IsPart vu hi)
 (h:Q (((fZ n 0 lo:Nat):Int),1,fZ n n hi-fZ n 0 lo) s):wpAny (model prog w) A (Builtin.Slice.sliceApplied (.ref sl) (pure (n:Int))) Q E s:=by
 obtain⟨os,OS,Ux,R3⟩:=id hs
 unfold Builtin.Slice.sliceApplied Builtin.Slice.sliceFields
 refine zcu (zcu (wpAny_field OS R3 (x:=vl) rfl (zcu (wpAny_field OS R3 (x:=vu) rfl (zcu (wpAny_field OS R3 (x:=.none) rfl (zcv ?_)))))))
 refine zcu (slicePart_none ?_)
 show wpAny _ _ (if ((1:Int)==0)=true then _ else _) _ _ s
 rw[if_neg (by decide)]
 refine zcu (vA pl (zcu (vA pu (zcu (zcv ?_)))))
 show wpAny _ _ (match Builtin.Slice.sliceAdjust lo hi 1 (n:Int) with |(lo,hi)=>pure (lo,(1:Int),Builtin.Slice.slicePlaces lo hi 1)) _ _ s
 rw[Ci lo hi n]
 show wpAny _ _ (pure (((fZ n 0 lo:Nat):Int),(1:Int),Builtin.Slice.slicePlaces ((fZ n 0 lo:Nat):Int) ((fZ n n hi:Nat):Int) 1)) _ _ s
 rw[Cj]
 exact zcv h
theorem Hb(xs:Array Value)(i k:Nat):((zao k).filterMap fun (m:Nat)=>xs[((i:Int)+(m:Int)*1).toNat]?).toArray=((xs.toList.drop i).take k).toArray:=by
 have e:(fun (m:Nat)=>xs[((i:Int)+(m:Int)*1).toNat]?)=fun m=>xs[i+m]?:=by
  funext m
  have:((i:Int)+(m:Int)*1).toNat=i+m:=by lia
  rw[this]
 rw[e]
 have:=pick_run xs i k
 rw[List.filterMap_map] at this
 have e2:((fun x=>xs[x]?) ∘ fun x=>i+x)=fun m=>xs[i+m]?:=rfl
 rw[e2] at this
 rw[this]
theorem qZ{t sl:Addr}{items:Array Value}{vl vu:Value}{lo hi:Option Int}{Q:Value->zcB->Prop}(ht:IsTup s.heap t items)(hs:s.heap.IsSliceOf sl vl vu .none)(pl:IsPart vl lo)(pu:IsPart vu hi)
 (hw:¬(fZ items.size 0 lo=0/\fZ items.size items.size hi=items.size))
 (h:Q (.ref s.heap.objs.size) {s with heap:=s.heap.push {cls:=.type "tuple",data:=.seq ((items.toList.drop (fZ items.size 0 lo)).take (fZ items.size items.size hi-fZ items.size 0 lo)).toArray} })
 (hsz:items.size<=zcz):wpAny (model prog w) A (getItem (.ref t) (.ref sl)) Q E s:=by
 have DV:sizeOk (.seq ((items.toList.drop (fZ items.size 0 lo)).take (fZ items.size items.size hi-fZ items.size 0 lo)).toArray):=by
  show ((items.toList.drop (fZ items.size 0 lo)).take (fZ items.size items.size hi-fZ items.size 0 lo)).toArray.size<=zcz
  rw[zaa,zbz,zbq,zaX]
  lia
 have hj:fZ items.size items.size hi<=items.size:=Cg _ _ (Wr _) hi
 obtain⟨os,OS,Ux,R3⟩:=id hs
 have V7:s.TypeIs (.ref sl) "slice":=⟨os,OS,Ux⟩
 unfold getItem
 try with_reducible refine zcw ?_
 first |refine zcu (zcv ?_) |skip
 refine zcu (wpAny_sequenceKey ht.typeIs (by decide) ?_)
 refine zcu (wpAny_callSpecial?_slot (name:=v9 "__getitem__") ht.typeIs za9
  (wpAny_call_entry za9 ht.typeIs entry_tuple_getitem ?_ (args_tuple_getitem _ _)))
 show wpAny _ _ (Builtin.Tuple.tupleItemsOf (.ref t) >>= _) _ _ s
 refine zcu (tupleItemsOf_ ht ?_)
 refine zcu (wpAny_typeOf V7 ?_)
 rw[if_pos (by decide)]
 refine zcu (lC hs pl pu ?_)
 have V8:¬((((fZ items.size 0 lo:Nat):Int)==0&&(1:Int)==1&&(fZ items.size items.size hi-fZ items.size 0 lo)==items.size)=true):=by
  intro q
  rw[za1,za1] at q
  have q1:((fZ items.size 0 lo:Nat):Int)=0:=eq_of_beq q.1.1
  have q2:fZ items.size items.size hi-fZ items.size 0 lo=items.size:=eq_of_beq q.2
  exact hw ⟨by lia,by lia⟩
 show wpAny _ _ (if (((fZ items.size 0 lo:Nat):Int)==0&&(1:Int)==1&&(fZ items.size items.size hi-fZ items.size 0 lo)==items.size)=true then _ else _) _ _ s
 rw[if_neg V8,Hb]
 first
  |exact zcu (m:=Builtin.Tuple.tupleExact _) (wpAny_newObj_type (zcv ⟨_,rfl,zcv h⟩) DV)
  |exact zcu (m:=Builtin.Tuple.tupleExact _) (wpAny_newObj_type (zcu (zcv (zcv ⟨_,rfl,zcv h⟩))) DV)
  |exact zcu (zcu (m:=Builtin.Tuple.tupleExact _) (wpAny_newObj_type (zcv (zcv ⟨_,rfl,zcv h⟩)) DV))
  |exact zcu (zcu (m:=Builtin.Tuple.tupleExact _) (wpAny_newObj_type (zcv ⟨_,rfl,zcv h⟩) DV))
end
end HT
namespace L2
open PySem PySem.Spec PyProof.Rows
abbrev TO:=St->Hp->(Option Int->Hp->Prop)->Prop
def PO (X:Cx) (e:Option Expr) (t:TO):Prop:=
 ∀(pins:List (Addr×Obj)) (s:zcB) (σ:St) (H:Hp) (Q:Option Int->Hp->Prop),Inv X pins σ H s->t σ H Q->
  wpAny (model X.prog X.w) X.A (evalPart e X.env) (fun u s'=>∃o H',Inv X pins σ H' s'/\IsPart u o/\Q o H') X.xe s
def yS:TO:=fun _ H Q=>Q none H
def Hc (t:TE):TO:=fun σ H Q=>t σ H fun x H1=>∃i,x=.int i/\Q (some i) H1
section
variable{X:Cx}{e:Expr}{te:TE}{lo hi:Option Expr}{tl th:TO}{pos p2:Pos}
theorem pj:PO X none yS:=by
 intro pins s σ H Q I h
 rw[evalPart_none]
 exact zcv ⟨none,H,I,.none,h⟩
theorem pz(h:PE X e te):PO X (some e) (Hc te):=by
 intro pins s σ H Q I hw
 rw[evalPart_some]
 refine fK (h pins s σ H _ I hw) fun u s1 zqz=>?_
 obtain⟨x,H1,I1,r1,q1⟩:=zqz
 obtain⟨i,rfl,q⟩:=q1
 obtain⟨t,rfl⟩:=r1
 exact⟨some i,H1,I1,.int i t,q⟩
def R4 (X:Cx) (r:V->Option Int->Option Int->Hp->VK->Prop):Prop:=
 ∀(pins:List (Addr×Obj)) (s:zcB) (σ:St) (H:Hp) (x:V) (v vl vu:Value) (lo hi:Option Int) (sl:Addr) (Q:VK),Inv X pins σ H s->RelV x v->s.heap.IsSliceOf sl vl vu .none->IsPart vl lo->IsPart vu hi->r x lo hi H Q->
  ∃T id,typeLookup (.type T) "__getitem__"=pure (some (.builtin id))/\s.TypeIs v T/\wpAny (model X.prog X.w) X.A (getItem v (.ref sl)) (EP X pins σ Q) X.xe s
def Uy (r:V->Option Int->Option Int->Hp->VK->Prop) (te:TE) (tl th:TO):TE:=fun σ H Q=>te σ H fun x H1=>tl σ H1 fun l H2=>th σ H2 fun u H3=>r x l u H3 Q
theorem lD{r:V->Option Int->Option Int->Hp->VK->Prop}(hr:R4 X r)(he:PE X e te)(hl:PO X lo tl)(hu:PO X hi th):PE X (.Subscript e (.Slice lo hi none p2) pos) (Uy r te tl th):=by
 intro pins s σ H Q I h
 refine Subscript_ (fK (he pins s σ H _ I h) fun v s1 zqz=>?_)
 obtain⟨x,H1,I1,r1,q1⟩:=zqz
 refine wpAny_Slice (fK (hl pins s1 σ H1 _ I1 q1) fun vl s2 zqz=>?_)
 obtain⟨l,H2,I2,pl,q2⟩:=zqz
 refine fK (hu pins s2 σ H2 _ I2 q2) fun vu s3 zqz=>?_
 obtain⟨u,H3,I3,pu,q3⟩:=zqz
 rw[evalPart_none]
 refine zcv ?_
 have I4:Inv X pins σ H3 {s3 with heap:=s3.heap.push {cls:=.type "slice",data:=.fields #[vl,vu,.none]} }:=I3.kept (t':=s3.toks) fun b ob q=>Heap.get?_push_of_some _ q
 obtain⟨T,id,hT,ht,hg⟩:=hr pins {s3 with heap:=s3.heap.push {cls:=.type "slice",data:=.fields #[vl,vu,.none]} } σ H3 x v vl vu l u s3.heap.objs.size Q I4 r1 (Heap.IsSliceOf.new ..) pl pu q3
 show wpAny (model X.prog X.w) X.A (subscriptTail e (.Slice lo hi none p2) v (.ref s3.heap.objs.size)) (EP X pins σ Q) X.xe {s3 with heap:=s3.heap.push {cls:=.type "slice",data:=.fields #[vl,vu,.none]} }
 exact tail_any (ops:=[.ref s3.heap.objs.size,v]) ht hT hg (by with_unfolding_all rfl)
noncomputable def jh (xs:List V) (lo hi:Option Int):List V:=(xs.drop (HT.fZ xs.length 0 lo)).take (HT.fZ xs.length xs.length hi-HT.fZ xs.length 0 lo)
theorem fe(xs:List V)(lo hi:Option Int):(jh xs lo hi).length<=xs.length:=by
 unfold jh
 rw[zbz,zbq]
 lia
def V9 (K:k0):V->Option Int->Option Int->Hp->VK->Prop:=fun x lo hi H Q=>∃a xs,x=.ref a/\b8 K H a xs/\
 ¬(HT.fZ xs.length 0 lo=0/\HT.fZ xs.length xs.length hi=xs.length)/\∀p,H p=none->Q (.ref p) (upd H p (.tup (jh xs lo hi)))
theorem Hd:R4 X (V9 X.K):=by
 intro pins s σ H x v vl vu lo hi sl Q I rx hs pl pu h
 obtain⟨a,xs,rfl,hx,hw,q⟩:=h
 cases rx
 obtain⟨bz,r,ht,hz⟩:=I.tuple hx
 have hlen:bz.toArray.size=xs.length:=by rw[zaa];exact r.length.symm
 refine⟨"tuple",_,za9.lookup,ht.typeIs,?_⟩
 refine HT.qZ ht hs pl pu (by rw[hlen];exact hw) ?_ (by rw[hlen];exact hz)
 rw[hlen]
 refine⟨.ref s.heap.objs.size,_,I.laid (t':=s.toks) (o:=.tup (jh xs lo hi)) (fun b ob q=>Heap.get?_push_of_some _ q) (Wr _) ?_,rfl,q _ (I.cS.fresh (Wr _))⟩
 exact⟨zan (fe xs lo hi) hz,_,(r.drop (HT.fZ xs.length 0 lo)).take (HT.fZ xs.length xs.length hi-HT.fZ xs.length 0 lo),IsTup.new _ _⟩
def Nk (K:k0):R2:=fun x y H Q=>∃a b xs ys,x=.ref a/\y=.ref b/\b8 K H a xs/\b8 K H b ys/\xs≠[]/\xs.length+ys.length<=zcz/\
 (ys=[]->Q (.ref a) H)/\(ys≠[]->∀p,H p=none->Q (.ref p) (upd H p (.tup (xs++ys))))
theorem Vals.bh{xs:List V}{us:List Value}(r:Vals xs us):us=[]↔xs=[]:=by
 cases r with
 |nil=>simp
 |cons _ _=>simp
theorem rg:qz X (binaryOp .Add) (Nk X.K):=by
 intro pins s σ H x y v u Q I rx ry h
 obtain⟨a,b,xs,ys,rfl,rfl,ha,hb,hx,hz,q1,q2⟩:=h
 cases rx
 cases ry
 obtain⟨bz,r1,p1,_⟩:=I.tuple ha
 obtain⟨rh,r2,p2,_⟩:=I.tuple hb
 refine HT.Lp p1 p2 (fun z=>hx (r1.bh.mp z)) (fun z=>⟨.ref a,H,I,rfl,q1 (r2.bh.mp z)⟩) (fun z=>?_) (by rw[<- r1.length,<- r2.length];exact hz)
 refine⟨.ref s.heap.objs.size,_,I.laid (t':=s.toks) (o:=.tup (xs++ys)) (fun b ob q=>Heap.get?_push_of_some _ q) (Wr _) ?_,rfl,q2 (fun w=>z (r2.bh.mpr w)) _ (I.cS.fresh (Wr _))⟩
 exact⟨by rw[Zc];exact hz,_,r1.append r2,IsTup.new _ _⟩
end
noncomputable def He (n:Nat) (i:Int):Option Nat:=if 0<=i then (if i<n then some i.toNat else none) else if -(n:Int)<=i then some (i+n).toNat else none
noncomputable def sI {α:Type} (xs:List α) (i:Int):Option α:=(He xs.length i).bind fun j=>xs[j]?
theorem DW{n:Nat}{i:Int}{j:Nat}(h:He n i=some j):seqIndex? i n=some j/\j<n/\-(n:Int)<=i/\i<n:=by
 unfold He at h
 by_cases h0:0<=i
 ·rw[if_pos h0] at h
  by_cases h1:i<n
  ·rw[if_pos h1] at h
   have e:i.toNat=j:=zax.inj h
   exact⟨by rw[seqIndex_of h0 h1,e],by lia,by lia,h1⟩
  ·rw[if_neg h1] at h;cases h
 ·rw[if_neg h0] at h
  by_cases h1 : -(n:Int)<=i
  ·rw[if_pos h1] at h
   have e:(i+n).toNat=j:=zax.inj h
   exact⟨by rw[seqIndex_neg (by lia) h1,e],by lia,h1,by lia⟩
  ·rw[if_neg h1] at h;cases h
theorem yT{α:Type}{xs:List α}{i:Int}{v:α}(h:sI xs i=some v):∃j,seqIndex? i xs.length=some j/\xs[j]?=some v/\j<xs.length/\-(xs.length:Int)<=i/\i<xs.length:=by
 unfold sI at h
 cases e:He xs.length i with
 |none=>rw[e] at h;cases h
 |some j=>
  rw[e] at h
  obtain⟨h1,h2,h3,h4⟩:=DW e
  exact⟨j,h1,h,h2,h3,h4⟩
theorem av{α:Type}{xs:List α}{j:Nat}{v:α}(h:xs[j]?=some v):sI xs (j:Int)=some v:=by
 have hj:j<xs.length:=(WD.mp h).1
 have e:He xs.length (j:Int)=some j:=by
  unfold He
  rw[if_pos (by lia),if_pos (by lia)];simp
 unfold sI;rw[e];exact h
theorem j8{α:Type}(xs:List α)(v:α):sI (xs++[v]) (-1)=some v:=by
 have hl:(xs++[v]).length=xs.length+1:=by simp
 have e:He (xs++[v]).length (-1)=some xs.length:=by
  unfold He
  rw[hl,if_neg (by decide),if_pos (by lia)]
  congr 1
  lia
 unfold sI
 rw[e]
 show (xs++[v])[xs.length]?=some v
 simp
def pA (b:Expr):Prop:=∀o i,subscripted b false o i=operate [o,i] (getItem o i)
def Hf (X:Cx) (r:R2):Prop:=
 ∀(value slice:Expr) (pins:List (Addr×Obj)) (s:zcB) (σ:St) (H:Hp) (x y:V) (v u:Value) (Q:VK),Inv X pins σ H s->RelV x v->RelV y u->r x y H Q->
  subscripted slice false v u=operate [v,u] (getItem v u)->wpAny (model X.prog X.w) X.A (subscriptTail value slice v u) (EP X pins σ Q) X.xe s
def Y2 (X:Cx) (id:String) (r:V->List V->Hp->VK->Prop):Prop:=
 ∀(pins:List (Addr×Obj)) (s:zcB) (σ:St) (H:Hp) (x:V) (xs:List V) (v:Value) (us:List Value) (Q:VK),Inv X pins σ H s->RelV x v->Vals xs us->r x xs H Q->
  wpAny (model X.prog X.w) X.A (call (.builtin id) (v::us)) (EP X pins σ Q) X.xe s
section
variable{X:Cx}{a b:Expr}{ta tb:TE}{pos:Pos}
theorem Hf.or{r r':R2}(h:Hf X r)(h':Hf X r'):Hf X (fun x y H Q=>r x y H Q\/r' x y H Q):=by
 intro value slice pins s σ H x y v u Q I rx ry q hs
 rcases q with q |q
 ·exact h value slice pins s σ H x y v u Q I rx ry q hs
 ·exact h' value slice pins s σ H x y v u Q I rx ry q hs
theorem aD{r:R2}(hr:Hf X r)(ha:PE X a ta)(hb:PE X b tb)(hs:pA b):PE X (.Subscript a b pos) (RN r ta tb):=by
 intro pins s σ H Q I h
 exact Subscript_ (OJ ha hb I h fun v u s2 x y H2 I2 rx ry q=>hr a b pins s2 σ H2 x y v u Q I2 rx ry q (hs _ _))
def AI (K:k0):R2:=fun x y H Q=>∃p xs i v,x=.ref p/\y=.int i/\gS K H p xs/\sI xs i=some v/\Q v H
def Ck (K:k0):R2:=fun x y H Q=>∃p xs i v,x=.ref p/\y=.int i/\b8 K H p xs/\sI xs i=some v/\Q v H
def R5:R2:=fun x y H Q=>∃z i c,x=.str z/\y=.int i/\z.length<=zcz/\sI z.cps.toList i=some c/\Q (.str ⟨#[c]⟩) H
theorem bj:Hf X (AI X.K):=by
 intro value slice pins s σ H x y v u Q I rx ry h hs
 obtain⟨p,xs,i,z,rfl,rfl,hq,he,q⟩:=h
 cases rx
 obtain⟨t,rfl⟩:=ry
 obtain⟨bz,r,pl,hz⟩:=I.list hq
 obtain⟨j,h1,h2,h3,h4,h5⟩:=yT he
 obtain⟨w,ew,Hg⟩:=r.get h2
 have hl:=r.length
 have hn:=sP
 have fin:EP X pins σ Q w s:=⟨z,H,I,Hg,q⟩
 by_cases h0:0<=i
 ·have hj:i.toNat=j:=by
   rw[seqIndex_of h0 h5] at h1
   exact zax.inj h1
  exact item_listR pl.isList h0 (by lia) (by rw[hj];simpa using ew) fin hs
 ·have hj:(i+(bz.toArray.size:Int)).toNat=j:=by
   rw[seqIndex_neg (by lia) h4] at h1
   rw[zaa,<- hl]
   exact zax.inj h1
  exact subscriptTail_builtinR (x:=w) pl.isList.typeIs slot_list_getitem.lookup
   (wpAny_getItem_list_neg (Q:=fun r s'=>r=w/\EP X pins σ Q r s') pl.isList (by lia) (by rw[zaa]<;>lia) (by lia) (by rw[hj];simpa using ew) ⟨rfl,fin⟩) hs
theorem aR:Hf X (Ck X.K):=by
 intro value slice pins s σ H x y v u Q I rx ry h hs
 obtain⟨p,xs,i,z,rfl,rfl,hq,he,q⟩:=h
 cases rx
 obtain⟨t,rfl⟩:=ry
 obtain⟨bz,r,pl,hz⟩:=I.tuple hq
 obtain⟨j,h1,h2,h3,h4,h5⟩:=yT he
 obtain⟨w,ew,Hg⟩:=r.get h2
 have hl:=r.length
 have hn:=sP
 have fin:EP X pins σ Q w s:=⟨z,H,I,Hg,q⟩
 exact subscriptTail_builtinR (x:=w) pl.typeIs slot_tuple_getitem.lookup
  (getItem_tuple (j:=j) (Q:=fun r s'=>r=w/\EP X pins σ Q r s') pl (by lia) (by lia) (by rw[zaa,<- hl];exact h1) (by simpa using ew) ⟨rfl,fin⟩) hs
theorem yU:Hf X R5:=by
 intro value slice pins s σ H x y v u Q I rx ry h hs
 obtain⟨z,i,c,rfl,rfl,hz,he,q⟩:=h
 obtain⟨t,rfl⟩:=rx
 obtain⟨t',rfl⟩:=ry
 obtain⟨j,h1,h2,h3,h4,h5⟩:=yT he
 have hl:z.cps.toList.length=z.length:=by simp[Str.length]
 rw[hl] at h1 h4 h5
 have hn:=sP
 exact tail_any (typeIs_str s z t) slot_str_getitem.lookup (getItem_str (c:=c) (by
  have e1:decide (i < -(2 ^ 63:Int))=false:=decide_eq_false (by lia)
  have e2:decide (i ≥ 2 ^ 63)=false:=decide_eq_false (by lia)
  rw[e1,e2,Bool.or_false]) (by rw[h1];simpa using h2) ⟨.str ⟨#[c]⟩,H,I.tok _,⟨_,rfl⟩,q⟩) hs
def rIx (K:k0):R2:=fun x y H Q=>AI K x y H Q\/Ck K x y H Q\/R5 x y H Q
theorem yV:Hf X (rIx X.K):=bj.or (aR.or yU)
theorem Cm(bz:List Value)(n j:Nat)(u:Value):Obj.mapSeq (·.setIfInBounds j u) {cls:=.type "list",data:=.seq bz.toArray n}={cls:=.type "list",data:=.seq (bz.set j u).toArray n}:=by
 simp[Obj.mapSeq]
theorem Inv.lst{pins:List (Addr×Obj)}{σ:St}{H:Hp}{s:zcB}{p:Addr}{xs:List V}(I:Inv X pins σ H s)(h:H p=some (.lst xs)) :
 ∃(bz:List Value) (n:Nat),Vals xs bz/\s.heap.get? p=some {cls:=.type "list",data:=.seq bz.toArray n}/\xs.length<=zcz:=by
 obtain⟨z,bz,n,r,e⟩:=I.cS p _ h
 exact⟨bz,n,r,e,z⟩
theorem Inv.OT{pins:List (Addr×Obj)}{σ:St}{H:Hp}{s:zcB}{p:Addr}{xs ys:List V}{bz its':List Value}{n n':Nat}{f:Obj->Obj}(I:Inv X pins σ H s)(h:H p=some (.lst xs))
 (ho:s.heap.get? p=some {cls:=.type "list",data:=.seq bz.toArray n}) (hf:f {cls:=.type "list",data:=.seq bz.toArray n}={cls:=.type "list",data:=.seq its'.toArray n' }) (r:Vals ys its') (hz:ys.length<=zcz) (t:Nat) :
 Inv X pins σ (upd H p (.lst ys)) {s with heap:=s.heap.update p f,toks:=t}:=by
 have e:(s.heap.update p f).get? p=some {cls:=.type "list",data:=.seq its'.toArray n' }:=by
  rw[Heap.get?_update_self f ho (by rw[hf]<;>rfl),hf]
 refine I.write (x:=p) (e:=p) (by rw[h];trivial) (.inl rfl) (fun b u hb q=>(Heap.get?_update_other _ _ (Ne.symm hb)).trans q) ⟨_,e⟩ ?_
 exact⟨hz,its',n',r,e⟩
def R6:V->V->V->Hp->(Hp->Prop)->Prop:=fun o i v H Q=>∃p xs k j,o=.ref p/\i=.int k/\H p=some (.lst xs)/\He xs.length k=some j/\Q (upd H p (.lst (xs.set j v)))
theorem set_list:RJ X R6:=by
 intro pins s σ H o i v ov iv u Q I ro ri rv h
 obtain⟨p,xs,k,j,rfl,rfl,hp,hj,q⟩:=h
 cases ro
 obtain⟨t,rfl⟩:=ri
 obtain⟨bz,n,r,ho,hz⟩:=I.lst hp
 obtain⟨h1,h2,h3,h4⟩:=DW hj
 have hl:=r.length
 have hn:=sP
 have I':Inv X pins σ (upd H p (.lst (xs.set j v))) {s with heap:=s.heap.update p (Obj.mapSeq (·.setIfInBounds j u))}:=
  I.OT hp ho (Cm bz n j u) (r.set rv j) (by rw[zcq];exact hz) s.toks
 by_cases h0:0<=k
 ·have hk:k.toNat=j:=by
   rw[seqIndex_of h0 h4] at h1
   exact zax.inj h1
  exact PySem.W.ki_setAt ho h0 (by lia) (by rw[zaa,<- hl];exact h4) (by rw[hk];exact⟨_,I',q⟩)
 ·have hk:(k+(bz.toArray.size:Int)).toNat=j:=by
   rw[seqIndex_neg (by lia) h3] at h1
   rw[zaa,<- hl]
   exact zax.inj h1
  exact PySem.W.ki_setBack ho (by lia) (by rw[zaa,<- hl];exact h3) (by lia) (by rw[hk];exact⟨_,I',q⟩)
theorem yW(lo hi:Option Int)(n:Nat):(sliceBounds lo hi none n).1=((HT.fZ n 0 lo:Nat):Int)/\(sliceBounds lo hi none n).2.1=((HT.fZ n n hi:Nat):Int)/\(sliceBounds lo hi none n).2.2=1:=by
 refine⟨?_,?_,rfl⟩
 ·cases lo with
  |none=>simp[sliceBounds,HT.fZ]
  |some i=>
   simp only[sliceBounds,HT.fZ,zb1,show (1:Int)>0 by decide,if_true]
   by_cases h:i<0
   ·simp only[h,if_true]<;>lia
   ·simp only[h,if_false]<;>lia
 ·cases hi with
  |none=>simp[sliceBounds,HT.fZ]
  |some i=>
   simp only[sliceBounds,HT.fZ,zb1,show (1:Int)>0 by decide,if_true]
   by_cases h:i<0
   ·simp only[h,if_true]<;>lia
   ·simp only[h,if_false]<;>lia
theorem xl(bz:List Value)(lo hi:Option Int):slicePick bz.toArray lo hi none=((bz.drop (HT.fZ bz.length 0 lo)).take (HT.fZ bz.length bz.length hi-HT.fZ bz.length 0 lo)).toArray:=by
 obtain⟨h1,h2,h3⟩:=yW lo hi bz.toArray.size
 unfold slicePick
 rw[h1,h2,h3]
 simp only[sliceRange_one,pick_run,zaa]<;>rfl
def Wa (K:k0):V->Option Int->Option Int->Hp->VK->Prop:=fun x lo hi H Q=>∃a xs,x=.ref a/\gS K H a xs/\∀p,H p=none->Q (.ref p) (upd H p (.lst (jh xs lo hi)))
theorem yX:R4 X (Wa X.K):=by
 intro pins s σ H x v vl vu lo hi sl Q I rx hs pl pu h
 obtain⟨a,xs,rfl,hx,q⟩:=h
 cases rx
 obtain⟨bz,r,ht,hz⟩:=I.list hx
 have hlen:=r.length
 refine⟨"list",_,slot_list_getitem.lookup,ht.isList.typeIs,?_⟩
 refine wpAny_getItem_list_slice ht.isList hs pl pu .none (by simp) ?_ (by rw[zaa]<;>lia)
 rw[xl,<- hlen]
 refine⟨.ref s.heap.objs.size,_,I.laid (t':=s.toks) (o:=.lst (jh xs lo hi)) (fun b ob q=>Heap.get?_push_of_some _ q) (Wr _) ?_,rfl,q _ (I.cS.fresh (Wr _))⟩
 exact⟨zan (fe xs lo hi) hz,_,0,(r.drop (HT.fZ xs.length 0 lo)).take (HT.fZ xs.length xs.length hi-HT.fZ xs.length 0 lo),Heap.get?_push_size _ rfl⟩
noncomputable def ue:V->Bool
 |.cD=>true
 |.bl _=>true
 |.int _=>true
 |.str _=>true
 |_=>false
noncomputable def Nl:V->V->Bool
 |.cD,.cD=>true
 |.bl a,.bl b=>a==b
 |.bl a,.int b=>(if a then 1 else 0)==b
 |.int a,.bl b=>a==(if b then 1 else 0)
 |.int a,.int b=>a==b
 |.str a,.str b=>a==b
 |_,_=>false
theorem OU{A:zcC}{s:zcB}{y x:V}{u v:Value}(ry:RelV y u)(rx:RelV x v)(fy:ue y=true)(fx:ue x=true):SeqAt.EqAt A s u v (Nl y x):=by
 cases y with
 |cD=>
  cases ry
  cases x with
  |cD=>cases rx;exact SeqAt.EqAt.same _
  |bl b=>cases rx;exact SeqAt.EqAt.none_bool b
  |int b=>obtain⟨t,rfl⟩:=rx;exact SeqAt.EqAt.none_int b t
  |str b=>obtain⟨t,rfl⟩:=rx;exact SeqAt.EqAt.none_str b t
  |_=>exact absurd (show false=true from fx) WC
 |bl a=>
  cases ry
  cases x with
  |cD=>cases rx;exact SeqAt.EqAt.bool_none a
  |bl b=>cases rx;exact SeqAt.EqAt.bool_bool a b
  |int b=>obtain⟨t,rfl⟩:=rx;exact SeqAt.EqAt.bool_int a b t
  |str b=>obtain⟨t,rfl⟩:=rx;exact SeqAt.EqAt.bool_str a b t
  |_=>exact absurd (show false=true from fx) WC
 |int a=>
  obtain⟨t',rfl⟩:=ry
  cases x with
  |cD=>cases rx;exact SeqAt.EqAt.int_none a t'
  |bl b=>cases rx;exact SeqAt.EqAt.int_bool a t' b
  |int b=>obtain⟨t,rfl⟩:=rx;exact SeqAt.EqAt.int_int a t' b t
  |str b=>obtain⟨t,rfl⟩:=rx;exact SeqAt.EqAt.int_str a t' b t
  |_=>exact absurd (show false=true from fx) WC
 |str a=>
  obtain⟨t',rfl⟩:=ry
  cases x with
  |cD=>cases rx;exact SeqAt.EqAt.str_none a t'
  |bl b=>cases rx;exact SeqAt.EqAt.str_bool a t' b
  |int b=>obtain⟨t,rfl⟩:=rx;exact SeqAt.EqAt.str_int a t' b t
  |str b=>obtain⟨t,rfl⟩:=rx;exact SeqAt.EqAt.str_str a t' b t
  |_=>exact absurd (show false=true from fx) WC
 |_=>exact absurd (show false=true from fy) WC
noncomputable def Cn (x:V) (u:Value):Bool:=match u with
 |.none=>Nl .cD x
 |.bool b=>Nl (.bl b) x
 |.int i _=>Nl (.int i) x
 |.str z _=>Nl (.str z) x
 |_=>false
theorem Hh{x y:V}{u:Value}(r:RelV y u)(f:ue y=true):Cn x u=Nl y x:=by
 cases y with
 |cD=>cases r;rfl
 |bl b=>cases r;rfl
 |int i=>obtain⟨t,rfl⟩:=r;rfl
 |str z=>obtain⟨t,rfl⟩:=r;rfl
 |_=>exact absurd (show false=true from f) WC
theorem rj{x:V}:∀ {xs:List V} {us:List Value},Vals xs us->xs.all ue=true->us.any (Cn x)=xs.any fun y=>Nl y x
 |_,_,.nil,_=>rfl
 |y::xs,u::us,.cons r t,f=>by
  rw[List.all_cons,za1] at f
  rw[zbZ,zbZ,Hh r f.1,rj t f.2]
theorem nQ{A:zcC}{s:zcB}{x:V}{v:Value}(rx:RelV x v)(fx:ue x=true):∀ {xs:List V} {us:List Value},Vals xs us->xs.all ue=true->∀u∈us,SeqAt.EqAt A s u v (Cn x u)
 |_,_,.nil,_=>fun u hu=>by cases hu
 |y::xs,u::us,.cons r t,f=>fun u' hu=>by
  rw[List.all_cons,za1] at f
  rcases Zd.mp hu with rfl |hu
  ·rw[Hh r f.1];exact OU r rx f.1 fx
  ·exact nQ rx fx t f.2 u' hu
noncomputable def Nm (x:V) (xs:List V):Bool:=xs.any fun y=>Nl y x
def Wb (K:k0) (neg:Bool):R2:=fun x y H Q=>∃p xs,y=.ref p/\(gS K H p xs\/b8 K H p xs)/\ue x=true/\xs.all ue=true/\Q (.bl (if neg then !Nm x xs else Nm x xs)) H
theorem pB:qz X (compareOp .In) (Wb X.K false):=by
 intro pins s σ H x y v u Q I rx ry h
 obtain⟨p,xs,rfl,hq,fx,fs,q⟩:=h
 cases ry
 rcases hq with hq |hq
 ·obtain⟨bz,r,pl,hz⟩:=I.list hq
  refine SeqAt.in_listAt (Cn x) pl.isList (fun w hw=>nQ rx fx r fs w (by simpa using hw)) ⟨.bl _,H,I,rfl,?_⟩
  rw[show bz.toArray.any (Cn x)=bz.any (Cn x) by simp,rj r fs]
  exact q
 ·obtain⟨bz,r,pl,hz⟩:=I.tuple hq
  refine SeqAt.in_tupleAt (Cn x) pl (fun w hw=>nQ rx fx r fs w (by simpa using hw)) ⟨.bl _,H,I,rfl,?_⟩
  rw[show bz.toArray.any (Cn x)=bz.any (Cn x) by simp,rj r fs]
  exact q
theorem rm:qz X (compareOp .NotIn) (Wb X.K true):=by
 intro pins s σ H x y v u Q I rx ry h
 obtain⟨p,xs,rfl,hq,fx,fs,q⟩:=h
 cases ry
 rcases hq with hq |hq
 ·obtain⟨bz,r,pl,hz⟩:=I.list hq
  refine SeqAt.notIn_listAt (Cn x) pl.isList (fun w hw=>nQ rx fx r fs w (by simpa using hw)) ⟨.bl _,H,I,rfl,?_⟩
  rw[show bz.toArray.any (Cn x)=bz.any (Cn x) by simp,rj r fs]
  exact q
 ·obtain⟨bz,r,pl,hz⟩:=I.tuple hq
  refine SeqAt.notIn_tupleAt (Cn x) pl (fun w hw=>nQ rx fx r fs w (by simpa using hw)) ⟨.bl _,H,I,rfl,?_⟩
  rw[show bz.toArray.any (Cn x)=bz.any (Cn x) by simp,rj r fs]
  exact q
theorem bK:lq X (.builtin "len") (fun xs H Q=>∃p ys,xs=[.ref p]/\(gS X.K H p ys\/b8 X.K H p ys)/\Q (.int ys.length) H):=by
 intro pins s σ H xs us Q I r h
 obtain⟨p,ys,rfl,hq,q⟩:=h
 obtain⟨u,rfl,rx⟩:=vals1 r
 cases rx
 have hn:=sP
 rcases hq with hq |hq
 ·obtain⟨bz,r',pl,hz⟩:=I.list hq
  have hlen:=r'.length
  exact Calls.call_len_list pl.isList (by simp only[zaa]<;>lia) ⟨.int ys.length,H,I.tok _,⟨s.toks+1,by rw[zaa,hlen]⟩,q⟩
 ·obtain⟨bz,r',pl,hz⟩:=I.tuple hq
  have hlen:=r'.length
  exact len_tuple pl (by simp only[zaa]<;>lia) ⟨.int ys.length,H,I.tok _,⟨s.toks+1,by rw[zaa,hlen]⟩,q⟩
theorem yY:lq X (.type "list") (fun xs H Q=>∃p ys,xs=[.ref p]/\(gS X.K H p ys\/b8 X.K H p ys)/\∀l,H l=none->Q (.ref l) (upd H l (.lst ys))):=by
 intro pins s σ H xs us Q I r h
 obtain⟨p,ys,rfl,hq,q⟩:=h
 obtain⟨u,rfl,rx⟩:=vals1 r
 cases rx
 have fin:∀(bz:List Value),Vals ys bz->ys.length<=zcz->∀(h':Heap) (c':Nat),(∀b o',s.heap.get? b=some o'->h'.get? b=some o')->
  h'.get? s.heap.objs.size=some {cls:=.type "list",dict:=none,data:=.seq bz.toArray c',slots:=#[]}->EP X pins σ Q (.ref s.heap.objs.size) {s with heap:=h' }:=fun bz r' hz h' c' kp e=>
  ⟨.ref s.heap.objs.size,_,I.laid (t':=s.toks) kp (Wr _) (show dg X.prog X.w _ h' _ (.lst ys) from ⟨hz,bz,c',r',e⟩),rfl,q _ (I.cS.fresh (Wr _))⟩
 rcases hq with hq |hq
 ·obtain⟨bz,r',pl,hz⟩:=I.list hq
  have hlen:=r'.length
  obtain⟨o,ho,hc,n,hd⟩:=pl.isList
  exact call_list_seq p (.inl rfl) ho hc hd (fun h' c' kp e=>fin bz r' hz h' c' kp e) (by simp only[zaa]<;>lia)
 ·obtain⟨bz,r',pl,hz⟩:=I.tuple hq
  have hlen:=r'.length
  obtain⟨o,ho,hc,n,hd⟩:=pl
  exact call_list_seq p (.inr rfl) ho hc hd (fun h' c' kp e=>fin bz r' hz h' c' kp e) (by simp only[zaa]<;>lia)
theorem kP:lq X (.type "tuple") (fun xs H Q=>∃p ys,xs=[.ref p]/\((gS X.K H p ys/\∀l,H l=none->Q (.ref l) (upd H l (.tup ys)))\/(b8 X.K H p ys/\Q (.ref p) H))):=by
 intro pins s σ H xs us Q I r h
 obtain⟨p,ys,rfl,h⟩:=h
 obtain⟨u,rfl,rx⟩:=vals1 r
 cases rx
 rcases h with ⟨hq,q⟩ |⟨hq,q⟩
 ·obtain⟨bz,r',pl,hz⟩:=I.list hq
  have hlen:=r'.length
  refine call_tuple_list pl.isList (fun h' kp=>?_) (by simp only[zaa]<;>lia)
  have I1:Inv X pins σ H {s with heap:=h' }:=I.kept (t':=s.toks) kp
  have I2:Inv X pins σ (upd H h'.objs.size (.tup ys)) {s with heap:=h'.push {cls:=.type "tuple",data:=.seq bz.toArray} }:=
   I1.laid (t':=s.toks) (fun b o e=>Heap.get?_push_of_some _ e) (Wr _) (show dg X.prog X.w _ _ _ (.tup ys) from ⟨hz,bz,r',IsTup.new _ _⟩)
  exact⟨.ref h'.objs.size,_,I2,rfl,q _ (I1.cS.fresh (Wr _))⟩
 ·obtain⟨bz,r',pl,hz⟩:=I.tuple hq
  exact call_tuple_same pl ⟨.ref p,H,I,rfl,q⟩
def Uz (K:k0) (T:String) (x:V) (H:Hp):Prop:=match x with
 |.str _=>T = "str"
 |.int _=>T = "int"
 |.ref p=>(T = "list"/\∃xs,gS K H p xs)\/(T = "tuple"/\∃o,K.lookup p=some o/\o.cls=.type "tuple"/\o.dict=none)\/
  (T = "dict"/\((∃aG,H p=some (.dK aG))\/∃aG,H p=some (.dT aG)))\/(T = "set"/\∃S n,H p=some (.set S n))
 |_=>False
theorem Hi{pins:List (Addr×Obj)}{σ:St}{H:Hp}{s:zcB}{T:String}{x:V}{v:Value}(I:Inv X pins σ H s)(r:RelV x v)(ty:Uz X.K T x H) :
 s.TypeIs v T/\∀a,v=.ref a->∃ob,s.heap.get? a=some ob/\ob.dict=none:=by
 cases x with
 |str z=>
  obtain⟨t,rfl⟩:=r
  cases (show T = "str" from ty)
  exact⟨typeIs_str s z t,fun _ e=>nomatch e⟩
 |int i=>
  obtain⟨t,rfl⟩:=r
  cases (show T = "int" from ty)
  exact⟨typeIs_int s i t,fun _ e=>nomatch e⟩
 |ref p=>
  cases r
  rcases ty with ⟨rfl,xs,hq⟩ |⟨rfl,o,hk,hc,hd⟩ |⟨rfl,hk⟩ |⟨rfl,S,n,hk⟩
  ·obtain⟨bz,_,pl,_⟩:=I.list hq
   refine⟨pl.isList.typeIs,fun a e=>?_⟩
   cases e
   obtain⟨o,n,e,c,hd,_⟩:=pl
   exact⟨o,e,hd⟩
  ·refine⟨⟨o,I.uI p o hk,hc⟩,fun a e=>?_⟩
   cases e
   exact⟨o,I.uI _ o hk,hd⟩
  ·have z:∃o,s.heap.get? p=some o/\o.ExactDict:=by
    rcases hk with ⟨aG,hk⟩ |⟨aG,hk⟩
    ·obtain⟨_,_,_,_,o,_,_,e,ex,_⟩:=I.cS p _ hk
     exact⟨o,e,ex⟩
    ·obtain⟨_,_,_,_,o,_,_,e,ex,_⟩:=I.cS p _ hk
     exact⟨o,e,ex⟩
   obtain⟨o,e,ex⟩:=z
   refine⟨⟨o,e,ex.1⟩,fun a e2=>?_⟩
   cases e2
   exact⟨o,e,ex.2.1⟩
  ·obtain⟨o,_,_,_,e,ex,_⟩:=I.cS p _ hk
   refine⟨⟨o,e,ex.1⟩,fun a e2=>?_⟩
   cases e2
   exact⟨o,e,ex.2.1⟩
 |_=>exact False.elim ty
def OV (K:k0) (T:String) (r:V->List V->Hp->VK->Prop) (to:TE):TE:=fun σ H Q=>to σ H fun x H1=>Uz K T x H1/\r x [] H1 Q
def Wc (K:k0) (T:String) (r:V->List V->Hp->VK->Prop) (to:TE) (t:TA):TE:=fun σ H Q=>to σ H fun x H1=>Uz K T x H1/\t σ H1 fun xs H2=>r x xs H2 Q
variable{o e:Expr}{es:List Expr}{to:TE}{t:TA}{name:Str}{apos vB:Pos}{T id:String}{r:V->List V->Hp->VK->Prop}
theorem Co(pa:PlainAttrs T)(slot:Slot T name id)(We:typeOf (.builtin id)=pure (.type "method_descriptor"))(hm:Y2 X id r)(ho:PE X o to)
 (Hj:attributeBase o name X.env (eval o X.env)=eval o X.env:=by rfl) (Hk:(apos.endLine==vB.line)=true:=by rfl):PE X (.Call (.Attribute o name apos) [] [] vB) (OV X.K T r to):=by
 intro pins s σ H Q I h
 refine wpAny_Call_method0_late Hj Hk (fK (ho pins s σ H _ I h) fun v s1 zqz=>?_)
 obtain⟨x,H1,I1,r1,ty,q1⟩:=zqz
 obtain⟨h1,h2⟩:=Hi I1 r1 ty
 exact⟨T,id,pa,slot,We,h1,h2,Calls.callWith_builtin rfl (PySem.evalArgs_none (hm pins s1 σ H1 x [] v [] Q I1 r1 .nil q1))⟩
theorem fV(pa:PlainAttrs T)(slot:Slot T name id)(We:typeOf (.builtin id)=pure (.type "method_descriptor"))(hm:Y2 X id r)(ho:PE X o to)(ha:PA X (e::es) t)
 (Hj:attributeBase o name X.env (eval o X.env)=eval o X.env:=by rfl)
 (Wf:((backTo vB (zcx (e::es) X.env)).all (fun x=>!x.1)&&(backToKw vB (keywordEach [] X.env)).all (fun x=>x.1.isSome)
  && decide ((e::es).length+([]:List Keyword).length+(if ([]:List Keyword).isEmpty then 0 else 1)<30))=true:=by rfl)
 (Hk:(apos.endLine==vB.line)=true:=by rfl) (hs:zcx (e::es) X.env=(false,eval e X.env)::zcx es X.env:=by rfl) (OW:(backTo vB (zcx es X.env)).any (·.1)=false:=by rfl) :
 PE X (.Call (.Attribute o name apos) (e::es) [] vB) (Wc X.K T r to t):=by
 intro pins s σ H Q I h
 refine wpAny_Call_method_late Hj Wf Hk rfl (fK (ho pins s σ H _ I h) fun v s1 zqz=>?_)
 obtain⟨x,H1,I1,r1,ty,q1⟩:=zqz
 obtain⟨h1,h2⟩:=Hi I1 r1 ty
 refine⟨T,id,pa,slot,We,h1,h2,?_⟩
 have hA:=ha vB pins s1 σ H1 _ I1 q1
 rw[hs] at hA ⊢
 refine Calls.callWith_builtin (by show (false ||(backTo vB (zcx es X.env)).any (·.1))=false;rw[OW]<;>rfl) (Calls.evalArgs_plain ?_)
 exact fK hA fun us s2 ⟨vs,H2,I2,r2,q2⟩=>hm pins s2 σ H2 x vs v us Q I2 r1 r2 q2
end
def R7 (X:Cx) (id:String) (r:V->List V->Hp->VK->Prop):Prop:=
 ∀(pins:List (Addr×Obj)) (s:zcB) (σ:St) (H:Hp) (x:V) (xs:List V) (v:Value) (us:List Value) (Q:VK),Inv X pins σ H s->RelV x v->Vals xs us->r x xs H Q->
  wpAny (model X.prog X.w) X.A (call (.builtin id) (v::us)) (EP X pins σ Q) X.xe s
theorem Vals.one:∀ {x:V} {us:List Value},Vals [x] us->∃u,us=[u]/\RelV x u
 |_,_,.cons r .nil=>⟨_,rfl,r⟩
theorem Vals.zero:∀ {us:List Value},Vals [] us->us=[]
 |_,.nil=>rfl
theorem Vals.dropLast{xs:List V}{us:List Value}(h:Vals xs us):Vals xs.dropLast us.dropLast:=by
 induction h with
 |nil=>exact .nil
 |cons r t ih=>
  cases t with
  |nil=>exact .nil
  |cons q t'=>exact .cons r ih
theorem Cp{α:Type}(l:List α):l.eraseIdx (l.length-1)=l.dropLast:=by
 induction l with
 |nil=>rfl
 |cons a r ih=>
  cases r with
  |nil=>rfl
  |cons b r=>
   have e:(a::b::r).length-1=((b::r).length-1)+1:=by
    have h1:(a::b::r).length=r.length+2:=rfl
    have h2:(b::r).length=r.length+1:=rfl
    lia
   rw[e,List.eraseIdx_cons_succ,ih]
   all_goals rfl
section
variable{X:Cx}{pins:List (Addr×Obj)}{σ:St}{H:Hp}{s:zcB}{l b:Addr}{xs ys zs:List V}
theorem Inv.OX{bz its':List Value}{n:Nat}{f:Array Value->Array Value}{t':Nat}(I:Inv X pins σ H s)(hH:H l=some (.lst xs))
 (e:s.heap.get? l=some {cls:=.type "list",data:=.seq bz.toArray n}) (hf:f bz.toArray=its'.toArray) (hv:Vals ys its') (hz:ys.length<=zcz) :
 Inv X pins σ (upd H l (.lst ys)) {s with heap:=s.heap.update l (Obj.mapSeq f),toks:=t' }:=by
 have q:=PySem.IsL.update e f
 rw[hf] at q
 refine I.write (x:=l) (e:=l) (by rw[hH];exact trivial) (.inl rfl) (fun b' u hb hu=>(Heap.get?_update_other s.heap (Obj.mapSeq f) (Ne.symm hb)).trans hu) ⟨_,q⟩ ?_
 exact⟨hz,its',_,hv,q⟩
theorem Inv.Wg{bz:List Value}{t':Nat}(I:Inv X pins σ H s)(hv:Vals ys bz)(hz:ys.length<=zcz) :
 Inv X pins σ (upd H s.heap.objs.size (.lst ys)) {s with heap:=s.heap.push {cls:=.type "list",data:=.seq bz.toArray},toks:=t' }:=
 I.laid (fun _ _ q=>Heap.get?_push_of_some _ q) (Wr _) ⟨hz,bz,0,hv,Heap.get?_push_size _ rfl⟩
theorem Inv.fresh(I:Inv X pins σ H s):H s.heap.objs.size=none:=I.cS.fresh (Wr _)
theorem Inv.Cq(I:Inv X pins σ H s)(hH:H l=some (.lst xs)):xs.length<=zcz/\∃(bz:List Value) (n:Nat),Vals xs bz/\xs.length=bz.length/\s.heap.get? l=some {cls:=.type "list",data:=.seq bz.toArray n}:=by
 obtain⟨z,bz,n,r,e⟩:=I.cS l _ hH
 exact⟨z,bz,n,r,r.length,e⟩
theorem Hl{n:Nat}(h:n<=zcz):Builtin.List.listTooLong n=false:=by
 unfold Builtin.List.listTooLong
 exact decide_eq_false (by lia)
end
section
variable{X:Cx}
def yZ:V->List V->Hp->VK->Prop:=fun x vs H Q=>∃l xs y,x=.ref l/\vs=[y]/\H l=some (.lst xs)/\xs.length<zcz/\Q .cD (upd H l (.lst (xs++[y])))
theorem b7:R7 X "list.append" yZ:=by
 intro pins s σ H x vs v us Q I rx rv h
 obtain⟨l,xs,y,rfl,rfl,hH,hz,q⟩:=h
 cases rx
 obtain⟨u,rfl,ru⟩:=rv.one
 obtain⟨z,bz,n,r,hl,e⟩:=I.Cq hH
 refine call_meets F.slot_list_append ⟨_,e,rfl⟩ F.entry_list_append (F.args_list_append_2 _ _) (PySem.list_append l bz.toArray n u (by rw[zaa];lia)) ⟨e,?_⟩
 refine⟨.cD,_,I.OX (its':=bz++[u]) hH e (by simp) (r.append (.cons ru .nil)) ?_,rfl,q⟩
 rw[Zc,zal]
 lia
def Lq:V->List V->Hp->VK->Prop:=fun x vs H Q=>∃l b xs zs,x=.ref l/\vs=[.ref b]/\H l=some (.lst xs)/\H b=some (.lst zs)/\xs.length+zs.length<=zcz/\Q .cD (upd H l (.lst (xs++zs)))
theorem sR:R7 X "list.extend" Lq:=by
 intro pins s σ H x vs v us Q I rx rv h
 obtain⟨l,b,xs,zs,rfl,rfl,hH,hB,hz,q⟩:=h
 cases rx
 obtain⟨u,rfl,ru⟩:=rv.one
 cases ru
 obtain⟨z,bz,n,r,hl,e⟩:=I.Cq hH
 obtain⟨z2,rh,n2,r2,Gy,e2⟩:=I.Cq hB
 have hsz:bz.toArray.size+rh.toArray.size<=zcz:=by rw[zaa,zaa];lia
 have R8:¬(!bz.toArray.isEmpty&&Builtin.List.listTooLong (bz.toArray.size+rh.toArray.size))=true:=by
  rw[Hl hsz,Bool.and_false]
  exact WC
 refine call_meets F.slot_list_extend ⟨_,e,rfl⟩ F.entry_list_extend (F.args_list_extend_2 _ _)
  (AutoSeq1.list_extend_list_list_0 l bz.toArray n b rh.toArray n2 R8 (by rw[zaa];lia) (by lia)) ⟨e,e2,?_⟩
 refine⟨.cD,_,I.OX (its':=bz++rh) hH e (by simp) (r.append r2) ?_,rfl,q⟩
 rw[Zc]
 lia
def Wh:V->List V->Hp->VK->Prop:=fun x vs H Q=>∃l xs y,x=.ref l/\vs=[]/\H l=some (.lst xs)/\xs[xs.length-1]?=some y/\Q y (upd H l (.lst xs.dropLast))
theorem Cr:R7 X "list.pop" Wh:=by
 intro pins s σ H x vs v us Q I rx rv h
 obtain⟨l,xs,y,rfl,rfl,hH,hy,q⟩:=h
 cases rx
 have hus:=rv.zero
 subst hus
 obtain⟨z,bz,n,r,hl,e⟩:=I.Cq hH
 obtain⟨u,hu,ru⟩:=r.get hy
 have UA:bz.toArray[bz.toArray.size-1]?=some u:=by
  show bz.toArray[bz.length-1]?=some u
  rw[<- zaM,<- hl]
  exact hu
 refine call_meets F.slot_list_pop ⟨_,e,rfl⟩ F.entry_list_pop (F.args_list_pop_1 _) (MeetsSeq.list_pop_last l bz.toArray n u UA (by rw[zaa];lia)) ⟨e,?_⟩
 refine⟨y,_,I.OX (its':=bz.dropLast) hH e ?_ r.dropLast ?_,ru,q⟩
 ·show bz.toArray.eraseIdxIfInBounds (bz.toArray.size-1)=bz.dropLast.toArray
  rw[zaa,List.eraseIdxIfInBounds_toArray,Cp]
 ·rw[List.length_dropLast]
  lia
def Wi:R2:=fun x y H Q=>∃l b xs zs,x=.ref l/\y=.ref b/\H l=some (.lst xs)/\H b=some (.lst zs)/\xs.length+zs.length<=zcz/\∀p,H p=none->Q (.ref p) (upd H p (.lst (xs++zs)))
theorem OY:qz X (binaryOp .Add) Wi:=by
 intro pins s σ H x y v u Q I rx ry h
 obtain⟨l,b,xs,zs,rfl,rfl,hH,hB,hz,q⟩:=h
 cases rx
 cases ry
 obtain⟨z,bz,n,r,hl,e⟩:=I.Cq hH
 obtain⟨z2,rh,n2,r2,Gy,e2⟩:=I.Cq hB
 refine PySem.P.add_list e e2 ?_ (by rw[zaa,zaa];lia)
 have ea:bz.toArray++rh.toArray=(bz++rh).toArray:=by simp
 rw[ea]
 exact⟨.ref _,_,I.Wg (t':=s.toks) (r.append r2) (by rw[Zc];lia),rfl,q _ I.fresh⟩
end
end L2
namespace R9
open PySem PySem.W PySem.Calls PyProof.Rows
theorem uK{P:Params}{h:Heap}:∀(ns:List Int) (vs:List Value),WellAll P h vs (ns.map WData.int)->IntsAre vs ns:=by
 intro ns
 induction ns with
 |nil=>
  intro vs w
  rw[zaR] at w
  cases w
  exact .nil
 |cons n ns ih=>
  intro vs w
  rw[Y9] at w
  cases w with
  |cons a b=>
   cases a
   exact .cons _ _ (ih _ b)
theorem Fp{l:OpenLaw}{n:Nat}(hn:l.most=some n){P:Params}{h:Heap}{args:List WData}{vals:List Value}
 (Lr:l.row.toRowW.claim.pre args=true) (Wj:WellAll P h vals args) :
 ∃a vs ns,vals=[Value.ref a]/\args=[WData.list (ns.map WData.int)]/\h.get? a=some {cls:=.type "list",data:=.seq vs.toArray}/\IntsAre vs ns/\ns.length<=n:=by
 have hsh:WShape.hasAll [] args [.list .int]=true:=(pre_splitW Lr).1
 have hc:l.pre.holds [] {args:=args}=true:=(pre_splitW Lr).2
 obtain⟨d,r,rfl,h1,h2⟩:=hasAllW_cons hsh
 obtain rfl:=hasAllW_nil h2
 obtain⟨xs,rfl,h3⟩:=hasW_list h1
 obtain⟨ns,rfl⟩:=items_int h3
 have hlen:ns.length<=n:=by
  unfold OpenLaw.pre at hc
  have h4:(WTm.not (.lt (.lit (.int (n:Int))) (.len (.arg 0)))).holds [] {args:=[.list (ns.map .int)]}=true:=by
   have h4:=(holds_andW hc).1
   rw[hn] at h4
   exact h4
  have h5:=condW_of h4 (w_not (w_lt w_lit (w_len_list (w_arg rfl))))
  rw[Zb] at h5
  refine Nat.le_of_not_lt fun q=>?_
  have q':(n:Int)<((ns.length:Nat):Int):=by lia
  first
   |(rw[decide_eq_true q'] at h5;exact absurd h5 (by decide))
   |(simp at h5;lia)
 cases Wj with
 |cons w1 w2=>
  cases w2
  cases w1 with
  |list ho OZ=>exact⟨_,_,ns,rfl,rfl,ho,uK ns _ OZ,hlen⟩
theorem Fq(l:OpenLaw)(args:List WData):l.row.toRowW.claim.post args (.bool true) args=true:=
 postW_of (r:=l.row.toRowW) (X:=(true==true))
  (show WShape.has [] (.bool true) .bool=true by first |rfl |decide |simp[WShape.has,WShape.arms,WShape.armsAll])
  (show (WTm.eq .res (.lit (.bool true))).value [] {args:=args,res:=some (.bool true),after:=args}=some (.bool (true==true)) from w_eq_bool (w_res rfl) w_lit) rfl
theorem uf{l:OpenLaw}{n:Nat}{q:zcD}{loose:List Str}{XP:(Str->Option Value)->Heap->Prop}{YP:World->Heap->Prop}{d:DefRec}
 (hn:l.most=some n) (O0:d.params.defaults=[])
 (call:∀(w:World) (s₀ s₁:zcB) (mg mb:Str->Option Value) (fa:Addr) (o:Obj) (pm cd doc:Value) (a:Addr) (vs:List Value) (ns:List Int),
  Ground q loose [] XP w s₀ mg mb s₁.heap->YP w s₁.heap->
  s₁.heap.get? fa=some o->o.data=.func (docDef d.name d.params d.body d.scope pm cd doc)->s₁.heap.CodeRec cd d.name->mg d.name=some (.ref fa)->
  s₁.heap.get? a=some {cls:=.type "list",data:=.seq vs.toArray}->IntsAre vs ns->ns.length<=n->s₁.gens = #[]->
  codeAny (model l.prog w) callerA (.call (.ref fa) ⟨[.ref a],[]⟩) (fun r s'=>r=.ok (.ret (.bool true))/\OldK s₁.heap s'.heap/\s'.os=s₁.os/\AllBare s'.gens) s₁) :
 WalkO q loose XP YP l.row.toRowW d [] (fun f vs=>PySem.call f vs):=by
 intro w s₀ s₁ mg mb G Y fa o pm cd doc dV kV ho hd DG hD O3 hg args vals as Lr aaT hrd Wj hlo
 obtain rfl:dV=.none:=Dflts.none hD O0
 obtain rfl:kV=.none:=Dflts.noKw hD
 obtain⟨a,vs,ns,rfl,rfl,Hm,hints,hlen⟩:=Fp hn Lr Wj
 refine enter_call (codeAny_mono (call w s₀ s₁ mg mb fa o pm cd doc a vs ns G Y ho (fd_plain hd) DG O3 Hm hints hlen hg) fun r s' hq=>?_)
 obtain⟨rfl,h2,h3,h4⟩:=hq
 exact⟨.inl ⟨.bool true,.bool true,[],rfl,fun _=>rfl,.bool true,Fq l _,fun _=>⟨List.Pairwise.nil,fun _ hm=>(nomatch hm)⟩⟩,h2,h3,h4⟩
end R9
namespace L2
open PySem PySem.Spec PyProof.Rows
theorem sS:∀ {vs:List Value} {ns:List Int},IntsAre vs ns->Vals (ns.map V.int) vs
 |_,_,.nil=>.nil
 |_,_,.cons n t h=>.cons ⟨t,rfl⟩ (sS h)
noncomputable def inClass (s:Stmt) (j:Nat):Stmt:=match s with
 |.ClassDef _ _ _ body _ _ _ _ _ _ _=>body.getD j (.Pass ⟨0,0,0,0⟩)
 |_=>.Pass ⟨0,0,0,0⟩
noncomputable def kz (s:Stmt):Arguments:=match s with
 |.FunctionDef _ a _ _ _ _ _ _ _ _=>a
 |_=>{posonlyargs:=[],args:=[],vararg:=none,kwonlyargs:=[],kw_defaults:=[],kwarg:=none,defaults:=[]}
noncomputable def hJ (s:Stmt):List Stmt:=match s with
 |.FunctionDef _ _ b _ _ _ _ _ _ _=>b
 |_=>[]
noncomputable def aN (s:Stmt):Scope:=match s with
 |.FunctionDef _ _ _ _ _ _ sc _ _ _=>sc
 |_=>{kind:=.function,names:=[],isGenerator:=false,isCoroutine:=false}
abbrev dU:ve:=fun _ _ _ _ _ _=>False
abbrev E0:XK:=fun _ _ _=>False
theorem aW{X:Cx}:Passes dU X E0:=fun _ _ _ _ _ _ _ h=>h.elim
structure Gz(K:k0)(x qual:Str)(st:Stmt)(f:Addr)(fd:zcA):Prop where
 ex:∃(oc:Value) (od:Option Addr) (kV doc pm:Value) (an:Option Addr) (fc ct:Value) (DR:Array (Option Value)),
  fd=zbb x qual (kz st) (hJ st) (aN st) .none kV doc pm an fc ct/\K.lookup f=some ⟨oc,od,.func fd,DR⟩/\zbO K fc qual=true
 kp:zbe K (.ref f)=true
section
variable{P:zcD}{w:World}{K:k0}{mg:Str->Option Value}{base:Heap}
theorem Gz.ok{x qual:Str}{st:Stmt}{f:Addr}{fd:zcA}{N ps:List Str}{k:Nat}{sp:Sp}(F:Gz K x qual st f fd)(S:bg N ps (aN st))(len:∀vs H Q E,sp vs H Q E->vs.length=ps.length)
 (qY:∀(fc:Value) (A:zcC) (outer:List Env) (s:zcB) (H:Hp) (vs:List V) (Q:VK) (E:XK),gg k (A.deeper (envOfC qual (aN st) s.heap.objs.size f fc))->sp vs H Q E->
  ∃t,B5 (mf dU P w K mg base N qual (aN st) f fc A outer s H E).B6 (hJ st) t/\t {nx:=fun _ H'=>Q .cD H',rt:=Q} (start N vs) H):bN P w K mg base dU (k+1) f fd ps sp:=by
 obtain⟨oc,od,kV,doc,pm,an,fc,ct,DR,rfl,lk,DG⟩:=F.ex
 refine Nj lk DG S len fun A outer s H vs Q E hr DT=>?_
 obtain⟨t,h,q⟩:=qY fc A outer s H vs Q E hr DT
 exact⟨t,h.B6,q⟩
theorem Gz.binds{x qual:Str}{st:Stmt}{f:Addr}{fd:zcA}{ps:List Str}(F:Gz K x qual st f fd)
 (h:∀(kV doc pm:Value) (an:Option Addr) (fc ct:Value) (us:List Value),us.length=ps.length->bindArgs (zbb x qual (kz st) (hJ st) (aN st) .none kV doc pm an fc ct) ⟨us,[]⟩=pure (ps.zip us)):Binds K fd ps []:=by
 obtain⟨oc,od,kV,doc,pm,an,fc,ct,DR,rfl,lk,DG⟩:=F.ex
 exact .all (h kV doc pm an fc ct)
theorem Hq{x qual:Str}{st:Stmt}{f:Addr}{oc:Value}{od an:Option Addr}{DR:Array (Option Value)}{kV doc pm fc ct:Value}(l:K.lookup f=some ⟨oc,od,.func (zbb x qual (kz st) (hJ st) (aN st) .none kV doc pm an fc ct),DR⟩)
 (c:zbO K fc qual=true) (k:zbe K (.ref f)=true):Gz K x qual st f (zbb x qual (kz st) (hJ st) (aN st) .none kV doc pm an fc ct):=⟨⟨oc,od,kV,doc,pm,an,fc,ct,DR,rfl,l,c⟩,k⟩
end
theorem eT{A:zcC}{k:Nat}(hr:gg k A):A.units+1<cLine:=zbt (Nat.add_le_add_left (by decide:1<=64) _) hr.units
theorem Ft{n:Nat}(h:n<=1000):n<zcz:=zbt h (by decide)
section
variable{X:Cx}
theorem pv(i:Nat){x:Str}{pos:Pos}(hN:X.N[i]?=some x:=by rfl)(hv:Ut X.env.scope x:=by first |exact Ws rfl |exact Or.inr (Ws rfl) |exact Or.inr (Or.inr rfl))(hd:(x==("__debug__":Str))=false:=by decide)
 (DG:(x==("__classdict__":Str))=false:=by decide):PE X (.Name x pos) (gb i):=OA hN hv hd DG
end
theorem cE{c A B:Prop}[Decidable c](h1:c->A)(h2:¬c->B):if c then A else B:=by
 by_cases h:c
 ·rw[if_pos h]
  exact h1 h
 ·rw[if_neg h]
  exact h2 h
def aq (H H':Hp):Prop:=∀b o,H b=some o->H' b=some o
theorem aq.refl(H:Hp):aq H H:=fun _ _ h=>h
theorem aq.trans{H H1 H2:Hp}(a:aq H H1)(b:aq H1 H2):aq H H2:=fun c o h=>b c o (a c o h)
theorem aq.free{H H':Hp}(e:aq H H'){l:Addr}(h:H' l=Option.none):H l=Option.none:=by
 cases q:H l with
 |none=>rfl
 |some o=>
  rw[e l o q] at h
  cases h
theorem aq.seq{K:k0}{H H':Hp}{a:Addr}{xs:List V}(e:aq H H')(h:gS K H a xs):gS K H' a xs:=by
 rcases h with (h |⟨o,h⟩) |h
 ·exact .inl (.inl (e _ _ h))
 ·exact .inl (.inr ⟨o,e _ _ h⟩)
 ·exact .inr h
section
variable{κ:Type}[DecidableEq κ]
noncomputable def cY (aG:List (κ×V)) (k:κ):Option V:=(aG.find? fun kv=>decide (kv.1=k)).map (·.2)
noncomputable def putK (aG:List (κ×V)) (k:κ) (v:V):List (κ×V):=
 if (aG.any fun kv=>decide (kv.1=k))=true then aG.map (fun kv=>if kv.1=k then (kv.1,v) else kv) else aG++[(k,v)]
theorem cF{p:κ×V}{r:List (κ×V)}{k:κ}(e:p.1=k):cY (p::r) k=some p.2:=by simp[cY,zbu,e]
theorem cG{p:κ×V}{r:List (κ×V)}{k:κ}(e:¬p.1=k):cY (p::r) k=cY r k:=by simp[cY,zbu,e]
theorem j9(k:κ):∀aG:List (κ×V),(aG.any fun kv=>decide (kv.1=k))=(cY aG k).isSome
 |[]=>rfl
 |p::r=>by
  rw[zbZ]
  by_cases e:p.1=k
  ·simp only[cF e,decide_eq_true e,Bool.true_or,Option.isSome_some]
  ·rw[cG e,decide_eq_false e,Bool.false_or];exact j9 k r
theorem AJ(k j:κ)(y:V):∀aG:List (κ×V),cY (aG.map fun kv=>if kv.1=k then (kv.1,y) else kv) j=(cY aG j).map fun x=>if j=k then y else x
 |[]=>rfl
 |p::r=>by
  have ih:=AJ k j y r
  rw[Y9]
  by_cases h:p.1=k
  ·rw[if_pos h]
   by_cases e:p.1=j
   ·rw[cF (p:=(p.1,y)) e,cF e,za6,if_pos (e.symm.trans h)]
   ·rw[cG (p:=(p.1,y)) e,cG e,ih]
  ·rw[if_neg h]
   by_cases e:p.1=j
   ·rw[cF (p:=p) e,cF e,za6,if_neg (fun z=>h (e.trans z))]
   ·rw[cG (p:=p) e,cG e,ih]
theorem xW(k j:κ)(y:V):∀aG:List (κ×V),cY aG k=none->cY (aG++[(k,y)]) j=if j=k then some y else cY aG j
 |[],_=>by
  by_cases e:k=j
  ·rw[if_pos e.symm];exact cF (p:=(k,y)) e
  ·rw[if_neg (fun z=>e z.symm)];exact cG (p:=(k,y)) e
 |p::r,hn=>by
  rw[zav]
  have hk:¬p.1=k:=fun z=>by rw[cF z] at hn;cases hn
  rw[cG hk] at hn
  have ih:=xW k j y r hn
  by_cases e:p.1=j
  ·rw[cF e,cF e,if_neg (fun z=>hk (e.trans z))]
  ·rw[cG e,cG e,ih]
theorem rq(aG:List (κ×V))(k j:κ)(y:V):cY (putK aG k y) j=if j=k then some y else cY aG j:=by
 unfold putK
 by_cases a:(aG.any fun kv=>decide (kv.1=k))=true
 ·rw[if_pos a,AJ]
  rw[j9] at a
  by_cases e:j=k
  ·obtain⟨x,hx⟩:=Option.isSome_iff_exists.mp a
   rw[if_pos e,e,hx,za6,if_pos rfl]
  ·rw[if_neg e]
   cases cY aG j with
   |none=>rfl
   |some x=>rw[za6,if_neg e]
 ·rw[if_neg a]
  refine xW k j y aG ?_
  rw[j9] at a
  cases q:cY aG k with
  |none=>rfl
  |some x=>rw[q] at a;exact(a rfl).elim
theorem kC(aG:List (κ×V))(k:κ)(v:V):(putK aG k v).length<=aG.length+1:=by
 unfold putK
 split
 ·rw[Zb];lia
 ·rw[Zc,V0,zak];lia
theorem pR.sT{o:Option V}{u:Option Value}(r:pR o u):o.isSome=u.isSome:=by
 cases o with
 |none=>cases u with
  |none=>rfl
  |some _=>exact(show False from r).elim
 |some _=>cases u with
  |none=>exact(show False from r).elim
  |some _=>rfl
theorem KV.val{aG:List (κ×V)}{vs:List (κ×Value)}(r:KV aG vs)(k:κ):pR (cY aG k) (valueAt vs k):=by
 unfold KV at r
 induction r with
 |nil=>exact True.intro
 |@cons p q ps qs h t ih=>
  obtain⟨h1,h2⟩:=h
  by_cases e:p.1=k
  ·have e':q.1=k:=h1.symm.trans e
   have b:valueAt (q::qs) k=some q.2:=by simp[valueAt,zbu,e']
   rw[cF e,b];exact h2
  ·have e':¬q.1=k:=fun z=>e (h1.trans z)
   have b:valueAt (q::qs) k=valueAt qs k:=by simp[valueAt,zbu,e']
   rw[cG e,b];exact ih
theorem KV.any{aG:List (κ×V)}{vs:List (κ×Value)}(r:KV aG vs)(k:κ):(aG.any fun kv=>decide (kv.1=k))=vs.any fun kv=>decide (kv.1=k):=by
 unfold KV at r
 induction r with
 |nil=>rfl
 |cons h t ih=>rw[zbZ,zbZ,ih,h.1]
theorem KV.O8{aG:List (κ×V)}{vs:List (κ×Value)}(r:KV aG vs)(k:κ){y:V}{u:Value}(ry:RelV y u) :
 KV (aG.map fun kv=>if kv.1=k then (kv.1,y) else kv) (vs.map fun kv=>if kv.1=k then (kv.1,u) else kv):=by
 unfold KV at r ⊢
 induction r with
 |nil=>exact .nil
 |@cons p q ps qs h t ih=>
  rw[Y9,Y9]
  refine .cons ?_ ih
  obtain⟨h1,h2⟩:=h
  by_cases e:p.1=k
  ·rw[if_pos e,if_pos (h1.symm.trans e)];exact⟨h1,ry⟩
  ·rw[if_neg e,if_neg (fun z=>e (h1.trans z))];exact⟨h1,h2⟩
theorem KV.put{aG:List (κ×V)}{vs:List (κ×Value)}(r:KV aG vs)(k:κ){y:V}{u:Value}(ry:RelV y u):KV (putK aG k y) (stored vs k u):=by
 unfold putK stored
 rw[r.any k]
 by_cases e:(vs.any fun kv=>decide (kv.1=k))=true
 ·rw[if_pos e,if_pos e];exact r.O8 k ry
 ·rw[if_neg e,if_neg e];exact Paired.snoc r ⟨rfl,ry⟩
theorem KV.length{aG:List (κ×V)}{vs:List (κ×Value)}(r:KV aG vs):aG.length=vs.length:=Paired.length r
end
theorem vC{P:zcD}{w:World}{k:Key}{u:Value}(r:RelV (kV k) u):(bX P w).is k u=true:=by
 cases k with
 |inl i=>obtain⟨t,e⟩:=(show ∃t,u=Value.int i t from r);subst e;exact Aw P w i t
 |inr x=>obtain⟨t,e⟩:=(show ∃t,u=Value.str x t from r);subst e;exact Ax P w x t
theorem sU{P:zcD}{w:World}:∀ {ks:List Key} {us:List Value},Vals (ks.map kV) us->ItemsAre (bX P w) ks us
 |[],_,r=>by rw[zaR] at r;cases r;exact .nil
 |k::ks,_,r=>by
  rw[Y9] at r
  cases r with
  |cons h t=>exact .cons (vC h) (sU t)
abbrev KT (H:Hp):List (List Key×V)->List (List Key×Addr×Value)->Prop:=Paired fun p q=>p.1=q.1/\H q.2.1=some (.tup (p.1.map kV))/\RelV p.2 q.2.2
theorem KT.val{H:Hp}{aG:List (List Key×V)}{xs:List (List Key×Addr×Value)}(r:KT H aG xs)(k:List Key):pR (cY aG k) ((atKey xs k).map (·.2)):=by
 induction r with
 |nil=>exact True.intro
 |@cons p q ps qs h t ih=>
  obtain⟨h1,_,h2⟩:=h
  by_cases e:p.1=k
  ·have e':q.1=k:=h1.symm.trans e
   have b:atKey (q::qs) k=some q.2:=by simp[atKey,zbu,e']
   rw[cF e,b];exact h2
  ·have e':¬q.1=k:=fun z=>e (h1.trans z)
   have b:atKey (q::qs) k=atKey qs k:=by simp[atKey,zbu,e']
   rw[cG e,b];exact ih
theorem KT.O8{H:Hp}{aG:List (List Key×V)}{xs:List (List Key×Addr×Value)}(r:KT H aG xs)(k:List Key){y:V}{u:Value}(ry:RelV y u) :
 KT H (aG.map fun kv=>if kv.1=k then (kv.1,y) else kv) (xs.map (putAt k u)):=by
 induction r with
 |nil=>exact .nil
 |@cons p q ps qs h t ih=>
  rw[Y9,Y9]
  refine .cons ?_ ih
  obtain⟨h1,h2,h3⟩:=h
  unfold putAt
  by_cases e:p.1=k
  ·rw[if_pos e,if_pos (h1.symm.trans e)];exact⟨h1,h2,ry⟩
  ·rw[if_neg e,if_neg (fun z=>e (h1.trans z))];exact⟨h1,h2,h3⟩
theorem KT.put{H:Hp}{aG:List (List Key×V)}{xs:List (List Key×Addr×Value)}(r:KT H aG xs)(k:List Key){b:Addr}{y:V}{u:Value}(hb:H b=some (.tup (k.map kV)))(ry:RelV y u) :
 KT H (putK aG k y) (storedH xs k b u):=by
 have e:(aG.any fun kv=>decide (kv.1=k))=(atKey xs k).isSome:=by
  rw[j9,(r.val k).sT,zch]
 unfold putK storedH
 rw[e]
 by_cases q:(atKey xs k).isSome=true
 ·rw[if_pos q,if_pos q];exact r.O8 k ry
 ·rw[if_neg q,if_neg q];exact Paired.snoc r ⟨rfl,hb,ry⟩
theorem KT.keeps{H H':Hp}{aG:List (List Key×V)}{xs:List (List Key×Addr×Value)}(r:KT H aG xs)(ht:∀b ys,H b=some (.tup ys)->H' b=some (.tup ys)):KT H' aG xs:=
 Paired.yK r fun _ _ z=>⟨z.1,ht _ _ z.2.1,z.2.2⟩
section
variable{P:zcD}{w:World}{H:Hp}{h:Heap}{a:Addr}
theorem Np{u:HO}(ok:l5 P w H h)(e:Rd H a u):dg P w H h a u:=e.ok ok
theorem Hr{aG:List (Key×V)}(ok:l5 P w H h)(e:Rd H a (.dK aG)):aG.length<=zcz/\(a==sysModules)=false/\∃vs,KV aG vs/\h.DictOf (bX P w) a vs:=
 show dg P w H h a (.dK aG) from Np ok e
theorem DY{aG:List (Key×V)}(ok:l5 P w H h)(e:H a=some (.dK aG)):aG.length<=zcz/\(a==sysModules)=false/\∃vs,KV aG vs/\h.DictOf (bX P w) a vs:=Hr ok (.inl e)
theorem Cs{ks:List Key}(ok:l5 P w H h)(e:H a=some (.tup (ks.map kV))):(tupleKind (bX P w)).is h ks a:=by
 obtain⟨_,bz,r,o,h1,h2,n,h3⟩:=(show dg P w H h a (.tup (ks.map kV)) from ok a _ e)
 exact⟨o,bz.toArray,n,h1,h2,h3,by simpa using sU r⟩
theorem Hs{aG:List (List Key×V)}(ok:l5 P w H h)(e:Rd H a (.dT aG)):aG.length<=zcz/\(a==sysModules)=false/\
 ∃xs,KT H aG xs/\h.DictOfH (tupleKind (bX P w)) a xs:=by
 obtain⟨z,y,xs,r,o,es,ep,h1,h2,h3,h4,h5⟩:=(show dg P w H h a (.dT aG) from Np ok e)
 refine⟨z,y,xs,r,o,es,ep,h1,h2,h3,h4,fun x hx=>?_,h5⟩
 have all:∀ {l:List (List Key×V)} {m:List (List Key×Addr×Value)},KT H l m->∀x∈m,(tupleKind (bX P w)).is h x.1 x.2.1:=by
  intro l m q
  induction q with
  |nil=>intro x hx;exact nomatch hx
  |@cons p q ps qs hq t ih=>
   intro x hx
   rcases Zd.mp hx with e |hx
   ·subst e
    exact Cs ok (by rw[<- hq.1];exact hq.2.1)
   ·exact ih x hx
 exact all r x hx
theorem Sd{aG:List (List Key×V)}(ok:l5 P w H h)(e:H a=some (.dT aG)):aG.length<=zcz/\(a==sysModules)=false/\
 ∃xs,KT H aG xs/\h.DictOfH (tupleKind (bX P w)) a xs:=Hs ok (.inl e)
end
def pT (H:Hp) (a:Addr) (y:V) (r:Option V):Prop:=
 (∃aG k,Rd H a (.dK aG)/\y=kV k/\r=cY aG k)\/∃aG k b,Rd H a (.dT aG)/\y=.ref b/\H b=some (.tup (k.map kV))/\r=cY aG k
def O9 (H:Hp) (a:Addr) (y v:V) (H':Hp):Prop:=
 (∃aG k,H a=some (.dK aG)/\y=kV k/\aG.length<zcz/\H'=upd H a (.dK (putK aG k v)))\/
 ∃aG k b,H a=some (.dT aG)/\y=.ref b/\H b=some (.tup (k.map kV))/\aG.length<zcz/\H'=upd H a (.dT (putK aG k v))
theorem pT.k{H:Hp}{a:Addr}{aG:List (Key×V)}{k:Key}(e:H a=some (.dK aG)):pT H a (kV k) (cY aG k):=.inl ⟨aG,k,.inl e,rfl,rfl⟩
section
variable{X:Cx}{pins:List (Addr×Obj)}{σ:St}{H:Hp}{s:zcB}{a:Addr}{y v:V}{u r:Value}{o:Option V}{A:zcC}{E:Value->zcB->Prop}
theorem Inv.big(I:Inv X pins σ H s):sysModules<s.heap.objs.size:=by
 have h:zcy<s.heap.objs.size:=(I.mod.glob.keeps I.bk).lt
 exact Nat.lt_trans (by decide) h
theorem Fu{Q:Value->zcB->Prop}(hu:A.units+1<cLine)(I:Inv X pins σ H s)(g:pT H a y (some v))(ry:RelV y u)(h:∀w' s',Inv X pins σ H s'->RelV v w'->Q w' s') :
 wpAny (model X.prog X.w) A (getItem (.ref a) u) Q E s:=by
 rcases g with ⟨aG,k,e,ey,l⟩ |⟨aG,k,b,e,ey,eb,l⟩
 ·subst ey
  obtain⟨z,hd,vs,rel,dd⟩:=Hr I.cS e
  obtain⟨w',hw,Hg⟩:=pR.some_of (v:=v) (o:=valueAt vs k) (by rw[l];exact rel.val k)
  exact wpAny_getItem_of (vC ry) dd.mapOf hw (h w' _ (I.tok _) Hg)
 ·subst ey
  cases (show u=Value.ref b from ry)
  obtain⟨z,hd,xs,rel,dd⟩:=Hs I.cS e
  obtain⟨w',hw,Hg⟩:=pR.some_of (v:=v) (o:=(atKey xs k).map (·.2)) (by rw[l];exact rel.val k)
  obtain⟨p,hp,xf⟩:=zbW.mp hw
  refine wpAny_getItem_heap (tupleKind_room_in1 hu) (Cs I.cS eb) dd hp ?_
  rw[xf]
  exact h w' _ (I.tok _) Hg
theorem rz{h':Heap}{t':Nat}{ob:HO}(I:Inv X pins σ H s)(mu:Rw (H a))(hs:Heap.SameBut a s.heap h')(he:∃q,h'.get? a=some q)(new:dg X.prog X.w (upd H a ob) h' a ob) :
 Inv X pins σ (upd H a ob) {s with heap:=h',toks:=t' }:=
 I.write (x:=a) (e:=a) mu (.inl rfl) (fun b q hb z=>(hs.2 b hb).trans z) he new
theorem vD{P:zcD}{w:World}{H':Hp}{h':Heap}{aG:List (Key×V)}{vs:List (Key×Value)}(z:aG.length<=zcz)(hd:(a==sysModules)=false)(rel:KV aG vs)(dd:h'.DictOf (bX P w) a vs) :
 dg P w H' h' a (.dK aG):=⟨z,hd,vs,rel,dd⟩
theorem Fv{H':Hp}{Q:Unit->zcB->Prop}(hu:A.units+1<cLine)(I:Inv X pins σ H s)(g:O9 H a y v H')(ry:RelV y u)(rv:RelV v r)(h:∀s',Inv X pins σ H' s'->Q () s') :
 wpAny (model X.prog X.w) A (setItem (.ref a) u r) Q E s:=by
 rcases g with ⟨aG,k,e,ey,l,eH⟩ |⟨aG,k,b,e,ey,eb,l,eH⟩
 ·subst ey eH
  obtain⟨z,hd,vs,rel,dd⟩:=DY I.cS e
  have hz:vs.length<=zcz:=by rw[<- rel.length];exact z
  have hl:(putK aG k v).length<=zcz:=by have:=kC aG k v;lia
  refine wpAny_setItem_pairs (hsz:=hz) (vC ry) dd fun h' GA hs=>h _ ?_
  have he:∃q,h'.get? a=some q:=let ⟨q,_,_,hq,_⟩:=GA;⟨q,hq⟩
  exact rz I (by rw[e];exact True.intro) hs he (vD hl hd (rel.put k rv) GA)
 ·subst ey eH
  cases (show u=Value.ref b from ry)
  obtain⟨z,hd,xs,rel,dd⟩:=Sd I.cS e
  have hz:xs.length<=zcz:=by rw[<- Paired.length rel];exact z
  have hl:(putK aG k v).length<=zcz:=by have:=kC aG k v;lia
  refine wpAny_setItem_heap (hsz:=hz) (tupleKind_room_in1 hu) (Cs I.cS eb) dd fun h' GA hs=>h _ ?_
  obtain⟨q,es,ep,hq,h2,h3,h4,_,h5⟩:=GA
  refine rz I (by rw[e];exact True.intro) hs ⟨q,hq⟩ ⟨hl,hd,_,(rel.put k eb rv).keeps fun c ys ec=>?_,q,es,ep,hq,h2,h3,h4,h5⟩
  rw[aw (bR ec e (fun z=>nomatch z))]
  exact ec
end
def Se (i:Expr):Prop:=∀ov iv,subscripted i false ov iv=operate [ov,iv] (getItem ov iv)
theorem Lv{prog:zcD}{w:World}{A:zcC}{E:Value->zcB->Prop}{s:zcB}{env:Env}{value slice:Expr}{pos:Pos}{T id:String}{Q:Value->zcB->Prop}
 (hl:typeLookup (.type T) "__getitem__"=pure (some (.builtin id))) (hs:Se slice)
 (h:wpAny (model prog w) A (eval value env) (fun o s₁=>wpAny (model prog w) A (eval slice env) (fun i s₂=>s₂.TypeIs o T/\wpAny (model prog w) A (getItem o i) Q E s₂) E s₁) E s) :
 wpAny (model prog w) A (eval (.Subscript value slice pos) env) Q E s:=by
 refine Subscript_ (wpAny_mono h (fun o s₁ h₁=>wpAny_mono h₁ (fun i s₂ h₂=>?_) fun _ _ x=>x) fun _ _ x=>x)
 obtain⟨hT,h₂⟩:=h₂
 unfold subscriptTail
 refine zcu ?_
 rw[getitemInPython_of_ne hT.not_modules]
 refine zcu (wpAny_specialOf hT hl ?_)
 have fin:wpAny (model prog w) A (subscripted slice false o i) (fun r s₃=>wpAny (model prog w) A (letTemporaryGo value o r >>= fun _=>pure r) Q E s₃) E s₂:=by
  rw[hs o i]
  exact wpAny_operating (wpAny_mono h₂ (fun r s₃ h₃=>zcu (wpAny_letTemporaryGo (zcv h₃))) fun _ _ x=>x)
 first
  |exact zcv (zcu fin)
  |exact zcu (zcv (zcu fin))
  |exact zcu fin
theorem AK{X:Cx}{pins:List (Addr×Obj)}{σ:St}{H:Hp}{s:zcB}{a:Addr}{y:V}{o:Option V}(I:Inv X pins σ H s)(g:pT H a y o):s.TypeIs (.ref a) "dict":=by
 rcases g with ⟨aG,k,e,_,_⟩ |⟨aG,k,b,e,_,_,_⟩
 ·obtain⟨_,_,vs,_,dd⟩:=Hr I.cS e
  exact dd.typeIs
 ·obtain⟨_,_,xs,_,dd⟩:=Hs I.cS e
  exact dd.typeIs
def Nq (td ty:TE):TE:=fun σ H Q=>td σ H fun x H1=>ty σ H1 fun y H2=>∃a v,x=.ref a/\pT H2 a y (some v)/\Q v H2
def Nr (td ty tv:TE):TS:=fun D σ H=>tv σ H fun v H1=>td σ H1 fun x H2=>ty σ H2 fun y H3=>∃a H4,x=.ref a/\O9 H3 a y v H4/\D.nx σ H4
section
variable{X:Cx}{o i e value:Expr}{pos pos' Lj:Pos}{td ty tv:TE}
theorem cA(hu:X.A.units+1<cLine)(ho:PE X o td)(hi:PE X i ty)(hs:Se i):PE X (.Subscript o i pos) (Nq td ty):=by
 intro pins s σ H Q I h
 refine Lv PySem.F.slot_dict_getitem.lookup hs (fK (ho pins s σ H _ I h) fun u s1 zqz=>?_)
 obtain⟨x,H1,I1,rx,q1⟩:=zqz
 refine fK (hi pins s1 σ H1 _ I1 q1) fun iv s2 zqz=>?_
 obtain⟨y,H2,I2,ry,a,v,ex,g,q2⟩:=zqz
 subst ex
 obtain rfl:u=Value.ref a:=rx
 exact⟨AK I2 g,Fu hu I2 g ry fun w' s3 I3 Hg=>⟨v,H2,I3,Hg,q2⟩⟩
theorem mh(hu:X.A.units+1<cLine)(ho:PE X o td)(hi:PE X i ty)(hv:PE X value tv)(hs:swapsWith value (some (.Subscript o i pos')) pos.line X.env=pure false) :
 PS X (.Assign [.Subscript o i pos'] value pos) (Nr td ty tv):=by
 intro pins s σ H D I h
 refine wpAny_Assign_Subscript (fK (hv pins s σ H _ I h) fun r s1 zqz=>?_) hs
 obtain⟨v,H1,I1,rv,q1⟩:=zqz
 refine fK (ho pins s1 σ H1 _ I1 q1) fun u s2 zqz=>?_
 obtain⟨x,H2,I2,rx,q2⟩:=zqz
 refine fK (hi pins s2 σ H2 _ I2 q2) fun iv s3 zqz=>?_
 obtain⟨y,H3,I3,ry,a,H4,ex,g,q3⟩:=zqz
 subst ex
 obtain rfl:u=Value.ref a:=rx
 exact Fv hu I3 g ry rv fun s4 I4=>⟨σ,H4,I4,q3⟩
end
theorem AL{P:zcD}{w:World}{H:Hp}(h:Heap)(hb:sysModules<h.objs.size):dg P w H (h.push {cls:=.type "dict",data:=.dict #[]}) h.objs.size (.dK []):=
 ⟨zaT _,beq_eq_false_iff_ne.mpr (Ne.symm (zam hb)),[],.nil,Heap.DictOf.new h⟩
def Ht:TE:=fun _ H Q=>∀p,H p=none->Q (.ref p) (upd H p (.dK []))
section
variable{X:Cx}{pos:Pos}
theorem vE:PE X (.Dict [] [] pos) Ht:=fun pins s σ H Q I h=>
 wpAny_Dict_empty ⟨.ref s.heap.objs.size,_,I.laid (a:=s.heap.objs.size) (o:=.dK []) (t':=s.toks) (fun _ _ q=>Heap.get?_push_of_some _ q) (Wr _) (AL s.heap I.big),rfl,h _ (I.cS.fresh (Wr _))⟩
end
def y0:List (TE×TE)->St->Hp->(List (V×V)->Hp->Prop)->Prop
 |[],_,H,Q=>Q [] H
 |(tk,tv)::r,σ,H,Q=>tk σ H fun x H1=>tv σ H1 fun y H2=>y0 r σ H2 fun ps H3=>Q ((x,y)::ps) H3
abbrev VV:List (V×V)->List (Value×Value)->Prop:=Paired fun p q=>RelV p.1 q.1/\RelV p.2 q.2
def UC (X:Cx) (pos:Pos) (keys:List (Option Expr)) (values:List Expr) (Lw:List (TE×TE)):Prop:=
 ∀(pins:List (Addr×Obj)) (s:zcB) (σ:St) (H:Hp) (Q:List (V×V)->Hp->Prop),Inv X pins σ H s->y0 Lw σ H Q->
  wpAny (model X.prog X.w) X.A (evalPairs (pairTrees keys values X.env pos)) (fun vs s'=>∃ps H',Inv X pins σ H' s'/\VV ps vs/\Q ps H') X.xe s
theorem Lx{X:Cx}{pos:Pos}:UC X pos [] [] []:=fun pins s σ H Q I h=>pairTrees_nil_walk ⟨[],H,I,.nil,h⟩
theorem vF{X:Cx}{pos:Pos}{k v:Expr}{ks:List (Option Expr)}{vs:List Expr}{tk tv:TE}{Lw:List (TE×TE)}(hk:PE X k tk)(hv:PE X v tv)(hr:UC X pos ks vs Lw) :
 UC X pos (some k::ks) (v::vs) ((tk,tv)::Lw):=fun pins s σ H Q I h=>
 pairTrees_cons_walk (fK (hk pins s σ H _ I h) fun u s1 ⟨x,H1,I1,rx,q1⟩=>fK (hv pins s1 σ H1 _ I1 q1) fun w2 s2 ⟨y,H2,I2,ry,q2⟩=>
  fK (hr pins s2 σ H2 _ I2 q2) fun ws s3 ⟨ps,H3,I3,rel,q3⟩=>⟨(x,y)::ps,H3,I3,.cons ⟨rx,ry⟩ rel,q3⟩)
noncomputable def iz (aG more:List (Key×V)):List (Key×V):=more.foldl (fun acc kv=>putK acc kv.1 kv.2) aG
theorem KV.merge:∀ {more:List (Key×V)} {rs:List (Key×Value)} {aG:List (Key×V)} {vs:List (Key×Value)},KV more rs->KV aG vs->KV (iz aG more) (merged vs rs):=by
 intro more rs aG vs r
 unfold KV at r
 induction r generalizing aG vs with
 |nil=>intro q;exact q
 |@cons p q ps qs h t ih=>
  intro r0
  have e:KV (putK aG p.1 p.2) (stored vs q.1 q.2):=by
   have:=r0.put p.1 h.2
   rw[<- h.1];exact this
  exact ih e
theorem gY:∀(more aG:List (Key×V)),(iz aG more).length<=aG.length+more.length
 |[],aG=>by show aG.length<=aG.length+0;lia
 |p::r,aG=>by
  have h1:=gY r (putK aG p.1 p.2)
  have h2:=kC aG p.1 p.2
  show (iz (putK aG p.1 p.2) r).length<=_
  rw[V0];lia
theorem vG{P:zcD}{w:World}:∀ {aG:List (Key×V)} {ws:List (Value×Value)},VV (aG.map fun kv=>(kV kv.1,kv.2)) ws->∃rs,Carries (bX P w) ws rs/\KV aG rs
 |[],_,r=>by rw[zaR] at r;cases r;exact⟨[],True.intro,.nil⟩
 |p::aG,_,r=>by
  rw[Y9] at r
  cases r with
  |@cons a b as bs h t=>
   obtain⟨rs,c,q⟩:=vG (P:=P) (w:=w) t
   obtain⟨b1,b2⟩:=b
   exact⟨(p.1,b2)::rs,⟨vC h.1,rfl,c⟩,.cons ⟨rfl,h.2⟩ q⟩
def Nt (Lw:List (TE×TE)):TE:=fun σ H Q=>∀p,H p=none->y0 Lw σ (upd H p (.dK [])) fun ps H2=>H2 p=some (.dK [])/\∃aG:List (Key×V),ps=aG.map (fun kv=>(kV kv.1,kv.2))/\aG.length<=15/\Q (.ref p) (upd H2 p (.dK (iz [] aG)))
theorem Ly{X:Cx}{pos:Pos}{keys:List (Option Expr)}{values:List Expr}{Lw:List (TE×TE)}(h:UC X pos keys values Lw)(OZ:keys.all (·.isSome)=true)(hl:keys.length=values.length)(h0:keys≠[])
 (Wk:keys.length<=15):PE X (.Dict keys values pos) (Nt Lw):=by
 intro pins s σ H Q I q
 have hn:=I.cS.fresh (Wr s.heap.objs.size)
 have I1:=I.laid (a:=s.heap.objs.size) (o:=.dK []) (h':=s.heap.push {cls:=.type "dict",data:=.dict #[]}) (t':=s.toks) (fun _ _ q=>Heap.get?_push_of_some _ q) (Wr _) (AL s.heap I.big)
 refine wpAny_Dict_walk (knd:=bX X.prog X.w) OZ hl h0 Wk (fK (h pins _ σ _ _ I1 (q _ hn)) fun ws s2 zqz=>?_)
 obtain⟨ps,H2,I2,rel,e,aG,ep,lk,q2⟩:=zqz
 subst ep
 obtain⟨rs,c,rk⟩:=vG (P:=X.prog) (w:=X.w) rel
 obtain⟨z,hd,vs0,r0,dd⟩:=DY I2.cS e
 cases r0
 refine⟨rs,c,dd,fun h' GA hs=>⟨.ref s.heap.objs.size,_,?_,rfl,q2⟩⟩
 have hz:(iz [] aG).length<=zcz:=by
  have h1:=gY aG []
  rw[zak] at h1
  rw[sizeLine_eq];lia
 have he:∃q,h'.get? s.heap.objs.size=some q:=let ⟨q,_,_,hq,_⟩:=GA;⟨q,hq⟩
 exact rz I2 (by rw[e];exact True.intro) hs he (vD hz hd (rk.merge .nil) GA)
noncomputable def sV (env:Env):List (Str×NameKind)->List (Str×Addr)->List (Str×Addr)
 |[],cs=>cs
 |(n,k)::r,cs=>sV env r (if k==.free then (n,(env.cells.lookup n).getD 0)::cs else cs)
theorem uL{scope:Scope}{env:Env}(h:∀p∈scope.names,p.2=.free->∃c,env.cells.lookup p.1=some c):closureFor scope env=pure (sV env scope.names []):=by
 have all:∀(l:List (Str×NameKind)) (cs:List (Str×Addr)),(∀p∈l,p.2=.free->∃c,env.cells.lookup p.1=some c)->
  (forIn l cs fun (x:Str×NameKind) (r:List (Str×Addr))=>if (x.2==NameKind.free)=true then do let a <- cellOf env x.1;pure (ForInStep.yield ((x.1,a)::r)) else (pure (ForInStep.yield r):Sem _))=pure (sV env l cs):=by
  intro l
  induction l with
  |nil=>intro cs _;rfl
  |cons p r ih=>
   intro cs hp
   obtain⟨n,k⟩:=p
   rw[zaP]
   by_cases hk:k=.free
   ·subst hk
    obtain⟨c,e⟩:=hp (n,.free) UH rfl
    have e1:cellOf env n=pure c:=by unfold cellOf;rw[e]
    simp only[beq_self_eq_true,if_true,e1,pure_bind]
    rw[ih _ fun p Q1=>hp p (zad _ Q1)]
    simp[sV,e]
   ·have hb:(k==NameKind.free)=false:=by simpa using hk
    simp only[hb,zai,if_false,pure_bind]
    rw[ih _ fun p Q1=>hp p (zad _ Q1)]
    simp[sV,hb]
 simp only[closureFor]
 rw[all scope.names [] h]
 simp
theorem rA{env:Env}{x:Str}{c:Addr}:∀ {l:List (Str×NameKind)} {cs:List (Str×Addr)},(∀p∈l,p.2=.free->∃c,env.cells.lookup p.1=some c)->(∀x c,cs.lookup x=some c->env.cells.lookup x=some c)->
 (sV env l cs).lookup x=some c->env.cells.lookup x=some c
 |[],_,_,h,e=>h x c e
 |(n,k)::r,cs,hp,h,e=>by
  unfold sV at e
  refine rA (fun p q=>hp p (zad _ q)) ?_ e
  intro y d q
  by_cases hk:k=.free
  ·subst hk
   obtain⟨c',e'⟩:=hp (n,.free) UH rfl
   simp only[beq_self_eq_true,if_true] at q
   rw[zaF] at q
   cases hy:y==n with
   |true=>
    rw[hy] at q
    have:y=n:=by simpa using hy
    subst this
    simp only at e'
    rw[e'] at q ⊢
    exact q
   |false=>rw[hy] at q;exact h y d q
  ·have hb:(k==NameKind.free)=false:=by simpa using hk
   simp only[hb,zai,if_false] at q
   exact h y d q
theorem vH{env:Env}{x:Str}:∀ {l:List (Str×NameKind)} {cs:List (Str×Addr)},((∃c,cs.lookup x=some c)\/(x,NameKind.free)∈l)->∃c,(sV env l cs).lookup x=some c
 |[],_,h=>by
  rcases h with h |h
  ·exact h
  ·exact absurd h (by simp)
 |(n,k)::r,cs,h=>by
  unfold sV
  apply vH
  rcases h with ⟨c,h⟩ |h
  ·left
   by_cases hk:k=.free
   ·subst hk
    simp only[beq_self_eq_true,if_true]
    rw[zaF]
    cases hy:x==n with
    |true=>exact⟨_,rfl⟩
    |false=>exact⟨c,h⟩
   ·have hb:(k==NameKind.free)=false:=by simpa using hk
    simp only[hb,zai,if_false]
    exact⟨c,h⟩
  ·rcases Zd.mp h with e |h
   ·injection e with e1 e2
    subst e1;subst e2
    left
    simp only[beq_self_eq_true,if_true]
    rw[zaF]
    simp
   ·exact .inr h
theorem nT{scope:Scope}{env:Env}{x:Str}:(relabel scope env).names.lookup x=(scope.names.lookup x).map fun k=>if (k==NameKind.free&&env.scope.kind==.function&&env.kindOf x==some .cell)=true then .cell else k:=by
 unfold relabel
 show za4 x (scope.names.map _)=_
 generalize scope.names=l
 induction l with
 |nil=>rfl
 |cons p r ih=>
  obtain⟨n,k⟩:=p
  rw[Y9,zaF (as:=r)]
  show za4 x ((if (k==NameKind.free&&env.scope.kind==.function&&env.kindOf n==some .cell)=true then (n,NameKind.cell) else (n,k))::_)=_
  cases hx:x==n with
  |true=>
   have e:x=n:=by simpa using hx
   subst e
   by_cases hc:(k==NameKind.free&&env.scope.kind==.function&&env.kindOf x==some .cell)=true
   ·rw[if_pos hc];simp only[zaF,beq_self_eq_true,za6];rw[if_pos hc]
   ·rw[if_neg hc];simp only[zaF,beq_self_eq_true,za6];rw[if_neg hc]
  |false=>
   by_cases hc:(k==NameKind.free&&env.scope.kind==.function&&env.kindOf n==some .cell)=true
   ·rw[if_pos hc];simp only[zaF,hx];exact ih
   ·rw[if_neg hc];simp only[zaF,hx];exact ih
theorem mem_of_lookup{x:Str}{k:NameKind}:∀ {l:List (Str×NameKind)},l.lookup x=some k->(x,k)∈l
 |[],h=>by simp at h
 |(n,j)::r,h=>by
  rw[zaF] at h
  cases hx:x==n with
  |true=>
   rw[hx] at h
   have e:x=n:=by simpa using hx
   cases h;subst e
   exact UH
  |false=>rw[hx] at h;exact zad _ (mem_of_lookup h)
noncomputable def jI (sc out:Scope):Bool:=
 (sc.names.all fun p=>p.2 != .cell&&(p.2 != .free ||out.names.lookup p.1==some .cell ||out.names.lookup p.1==some .free)&&(p.2 != .local ||sc.names.lookup p.1==some .local))&&decide (sc.kind=.function)
noncomputable def vf (sc out:Scope) (N:List Str) (ix:List Nat):Bool:=
 ix.all fun i=>sc.names.lookup (N.getD i "")==some .free&&(out.names.lookup (N.getD i "")==some .cell ||out.names.lookup (N.getD i "")==some .free)
noncomputable def Hu (σ:St) (ix:List Nat):St:=ix.map fun i=>σ.getD i none
noncomputable abbrev DZ (N:List Str) (ix:List Nat):List Str:=ix.map fun i=>N.getD i ""
noncomputable def ka (X:Cx) (scope:Scope) (own:List Str) (ix:List Nat) (C:Addr) (s₀:zcB) (H₀:Hp) (ex:List Addr):Cx where
 prog:=X.prog
 w:=X.w
 K:=X.K
 mg:=X.mg
 base:=X.base
 A:=X.A
 N:=own++DZ X.N ix
 s₀:=s₀
 H₀:=H₀
 env:=compEnvC scope (sV X.env scope.names []) C X.env
 outer:=X.stack
 stack:=X.stack
 ex:=ex
 fn:=fun _=>false
 calm:=X.calm
 pn:=[]
 xe:=fun _ _=>False
section
variable{X:Cx}{pins:List (Addr×Obj)}{σ:St}{H:Hp}{s:zcB}
theorem nU{sc out:Scope}(h:jI sc out=true):∀p∈sc.names,p.2≠.cell/\(p.2=.free->out.names.lookup p.1=some .cell\/out.names.lookup p.1=some .free)/\(p.2=.local->sc.names.lookup p.1=some .local):=by
 intro p hp
 unfold jI at h
 rw[za1] at h
 have:=List.all_eq_true.mp h.1 p hp
 simp only[za1,Bool.or_eq_true,bne_iff_ne,beq_iff_eq,ne_eq] at this
 obtain⟨⟨h1,h2⟩,h3⟩:=this
 refine⟨h1,fun e=>?_,fun e=>?_⟩
 ·rcases h2 with (h2 |h2) |h2
  ·exact absurd e h2
  ·exact .inl h2
  ·exact .inr h2
 ·rcases h3 with h3 |h3
  ·exact absurd e h3
  ·exact h3
theorem mn{sc out:Scope}(h:jI sc out=true):sc.kind=.function:=by
 unfold jI at h
 rw[za1] at h
 exact of_decide_eq_true h.2
theorem Lz{scope:Scope}{own:List Str}{ix:List Nat}{ex:List Addr}(I:Inv X pins σ H s)(hf:jI scope X.env.scope=true)(hx:∀b∈ex,qV X pins H b/\b<s.heap.objs.size):(ka X scope own ix s.heap.objs.size s H ex).Ok:=by
 have fits:=(nU hf)
 have qU:∀p∈scope.names,p.2=.free->∃c,X.env.cells.lookup p.1=some c:=fun p hp e=>I.ok.has p.1 ((fits p hp).2.1 e)
 have sub:∀ {x:Str} {c:Addr},(sV X.env scope.names []).lookup x=some c->X.env.cells.lookup x=some c:=fun {x c} e=>rA qU (fun x c e=>by simp at e) e
 refine⟨I.ok.mod,(show scope.kind=.function from mn hf),I.ok.glob,I.ok.blt,Wr _,fun x y c a b=>I.ok.inj x y c (sub a) (sub b),fun x hk=>?_,fun x c e=>(by cases e),I.ok.hd,I.ok.frames,.inl rfl,fun b hb=>⟨zam (hx b hb).2,fun x c e=>(hx b hb).1.2.2.2.2.1 x c (sub e)⟩,I.bs,zan I.ok.yM I.sz,fun b o e hb=>?_,fun b hb hs=>?_,I.stack,I.yN⟩
 ·refine vH (.inr ?_)
  have Hv:(relabel scope X.env).names.lookup x=some .cell\/(relabel scope X.env).names.lookup x=some .free:=hk
  rw[nT] at Hv
  cases q:scope.names.lookup x with
  |none=>rw[q] at Hv;rcases Hv with z |z<;>cases z
  |some k=>
   have hm:=mem_of_lookup q
   by_cases Wl:k=.free
   ·subst Wl;exact hm
   ·rw[q] at Hv
    have hb:(k==NameKind.free)=false:=by simpa using Wl
    simp only[za6,hb,Bool.false_and,zai,if_false,zax.injEq] at Hv
    rcases Hv with z |z
    ·exact absurd z (fits _ hm).1
    ·exact absurd z Wl
 ·rcases(hx b hb).1.2.2.2.1 with z |z
  ·exact I.ok.GK b o e z
  ·exact absurd (zaj (Heap.lt_size e) (zan I.ok.yM z)) (zaE _)
 ·rcases Zd.mp (I.vt b hs) with z |z
  ·exact(hx b hb).1.2.1 z
  ·exact(hx b hb).1.2.2.1 z
theorem Hw{scope:Scope}{own:List Str}{ix:List Nat}{ex:List Addr}{h':Heap}{tk:Nat}(I:Inv X pins σ H s)(hf:jI scope X.env.scope=true)(hc:vf scope X.env.scope X.N ix=true)(hx:∀b∈ex,qV X pins H b/\b<s.heap.objs.size)
 (hn:h'.Ns s.heap.objs.size fun _=>none) (hk:∀b o,s.heap.get? b=some o->h'.get? b=some o):Inv (ka X scope own ix s.heap.objs.size s H ex) [] (zcb own.length none++Hu σ ix) H {s with heap:=h',toks:=tk}:=by
 have fits:=(nU hf)
 have qU:∀p∈scope.names,p.2=.free->∃c,X.env.cells.lookup p.1=some c:=fun p hp e=>I.ok.has p.1 ((fits p hp).2.1 e)
 have sub:∀ {x:Str} {c:Addr},(sV X.env scope.names []).lookup x=some c->X.env.cells.lookup x=some c:=fun {x c} e=>rA qU (fun x c e=>by simp at e) e
 refine⟨Lz I hf hx,rfl,I.bare,Un.kept hk,⟨_,hn,fun i x v e1 e2 e3=>?_⟩,fun x c e=>?_,I.cS.fresh (Wr _),fun x c e=>I.nu x c (sub e),fun p hp=>absurd (show p∈([]:List (Addr×Obj))++[] from hp) (by simp),I.cS.kept hk,?_⟩
 ·have e1:(own++DZ X.N ix)[i]?=some x:=e1
  by_cases hi:i<own.length
  ·rw[zbC (by simpa using hi),List.getElem?_replicate,if_pos hi] at e2
   cases e2
  ·have Y3:own.length<=i:=Nat.le_of_not_lt hi
   rw[zbi (by simpa using Y3),List.length_replicate] at e2
   rw[zbi Y3] at e1
   unfold Hu at e2
   unfold DZ at e1
   rw[UB] at e1 e2
   cases q:ix[i-own.length]? with
   |none=>rw[q] at e2;cases e2
   |some j=>
    rw[q] at e1 e2
    simp only[za6,zax.injEq] at e1 e2
    have hj:j∈ix:=zaD q
    have fit:=List.all_eq_true.mp hc j hj
    simp only[za1,Bool.or_eq_true,beq_iff_eq] at fit
    rw[e1] at fit
    have ej:σ[j]?=some (some v):=by
     rw[Y7] at e2
     cases r:σ[j]? with
     |none=>rw[r] at e2;cases e2
     |some z=>rw[r] at e2;simp only[zb2] at e2;rw[e2]
    have hjl:j<X.N.length:=by rw[<- I.len];exact(WD.mp ej).1
    have en:X.N[j]?=some x:=by
     rw[Y7] at e1
     rw[Za hjl] at e1 ⊢
     simp only[zb2] at e1
     rw[e1]
    obtain⟨m,hm,hl⟩:=I.loc
    have hv:Ut X.env.scope x:=by
     rcases fit.2 with z |z
     ·exact .inr (.inl z)
     ·exact .inr (.inr z)
    obtain⟨u,r,l⟩:=hl j x v en ej hv
    refine⟨u,r,.inr ⟨?_,?_⟩⟩
    ·show (relabel scope X.env).names.lookup x=some .cell\/(relabel scope X.env).names.lookup x=some .free
     rw[nT,fit.1]
     simp only[za6]
     split
     ·exact .inl rfl
     ·exact .inr rfl
    ·rcases l with ⟨k1,_⟩ |⟨_,c,ec,ua⟩
     ·have k1:X.env.scope.names.lookup x=some .local:=k1
      rcases fit.2 with z |z<;>(rw[z] at k1;cases k1)
     ·obtain⟨c',e'⟩:∃c,(sV X.env scope.names []).lookup x=some c:=vH (.inr (mem_of_lookup fit.1))
      have:=sub e'
      rw[ec] at this
      cases this
      exact⟨c,e',ua.keeps hk⟩
 ·obtain⟨v,z⟩:=I.cell x c (sub e)
  exact⟨v,z.keeps hk⟩
 ·show (zcb own.length none++Hu σ ix).length=(own++DZ X.N ix).length
  simp[Hu]
theorem comp_back{scope:Scope}{own:List Str}{ix:List Nat}{ex:List Addr}{τ:St}{H':Hp}{s':zcB}{Az:List (Addr×Obj)}(I:Inv X pins σ H s)(hx:∀b∈ex,qV X pins H b/\b<s.heap.objs.size)
 (I':Inv (ka X scope own ix s.heap.objs.size s H ex) Az τ H' s'):Inv X pins σ H' s'/\H' s.heap.objs.size=none/\s.heap.objs.size≠X.env.locals/\X.s₀.heap.objs.size<=s.heap.objs.size/\(∀x c,X.env.cells.lookup x=some c->c≠s.heap.objs.size)/\∀p∈X.pn++pins,p.1≠s.heap.objs.size:=by
 refine⟨I.RD (ch:=ex) I'.os I'.base I'.cS I'.bare fun b hb=>?_,I'.free,zbF I.lt,I.sz,fun x c e z=>?_,fun p hp z=>?_⟩
 ·obtain⟨f0,f1,f2,f3,f4,f5⟩:=(hx b hb).1
  exact⟨f3,f1,f4,f5⟩
 ·obtain⟨v,q⟩:=I.cell x c e
  exact absurd q.lt (by rw[z];exact zaE _)
 ·exact absurd (Heap.lt_size (I.pin p hp).1) (by rw[z];exact zaE _)
end
def Q2 (X:Cx) (ifs:List Expr) (t:TT):Prop:=
 ∀(pins:List (Addr×Obj)) (s:zcB) (σ:St) (H:Hp) (Q:Bool->Hp->Prop),Inv X pins σ H s->t σ H Q->
  wpAny (model X.prog X.w) X.A (forIn ifs true fun c r=>if r=true then do let ok <- isTrue c X.env (eval c X.env);pure (ForInStep.yield ok) else pure (ForInStep.yield r)) (TP X pins σ Q) X.xe s
def Ct:TT:=fun _ H Q=>Q true H
theorem jJ{X:Cx}:Q2 X [] Ct:=fun _ _ _ H _ I h=>wpAny_tests_nil ⟨H,I,h⟩
theorem D0{X:Cx}{c:Expr}{t:TT}(h:PT X c t):Q2 X [c] t:=fun pins s σ H Q I q=>wpAny_tests_one (h pins s σ H Q I q)
def vI (J:It) (D:Addr) (g:TG) (tc:TT) (te:TE) (Q:VK) (τ:St) (H:Hp):Prop:=∃W:Nat->Nat->St->Hp->Prop,(∃m,W 0 m τ H)/\∀i m τ H,W i m τ H->
 (J.stop i H/\Q (.ref D) H)\/(J.go i H/\∃N:St->Hp->Prop,(∀τ' H',N τ' H'->∃m',m'<m/\W (i+1) m' τ' H')/\∀x H',J.DH i H x H'->g x τ H' fun τ2 H2=>tc τ2 H2 fun b H3=>if b=true then
  te τ2 H3 fun y H4=>∃ys,H4 D=some (.lst ys)/\ys.length<zcz/\N τ2 (upd H4 D (.lst (ys++[y]))) else N τ2 H3)
def kD (wi:TI) (k:Nat) (ix:List Nat) (g:TG) (tc:TT) (te:TE):TE:=fun σ H Q=>wi σ H fun J H1=>∀D,H1 D=none->vI J D g tc te Q (zcb k none++Hu σ ix) (upd H1 D (.lst []))
section
variable{X:Cx}{tg iter elt:Expr}{ifs:List Expr}{scope:Scope}{pos:Pos}{own:List Str}{ix:List Nat}{wi:TI}{g:TG}{tc:TT}{te:TE}
theorem Fw{it D:Addr}{fp:List Addr}{tn:Nat->Heap->Prop}{J:It}{Q:VK}{R:Result->zcB->Prop}{s:zcB}{τ:St}{H:Hp}(uh:X.calm=true)(LA:X.xe=fun _ _=>False)(hpn:X.pn=[])(T:Turn X.prog X.w X.K tg J fp it tn)
 (he:PE X elt te) (hg:PG X tg g) (ht:Q2 X ifs tc) (I:Inv X [] τ H s) (Y4:∀b∈fp,qV X [] H b) (h0:tn 0 s.heap) (hW:vI J D g tc te Q τ H)
 (hR:∀τ' H' s',Inv X [] τ' H' s'->Q (.ref D) H'->R (.ok .next) s') :
 codeAny (model X.prog X.w) X.A (.compLoop (.ListComp elt [⟨tg,iter,ifs,0⟩] scope pos) 0 (.ref it) (.ref D) X.env) R s:=by
 obtain⟨W,⟨m0,w0⟩,turn⟩:=hW
 have no:∀ {E:Value->zcB->Prop} (e:Value) (s':zcB),X.xe e s'->E e s':=fun e s' z=>by rw[LA] at z;exact z.elim
 have stat:∀ {H':Hp},(∀b∈fp,H' b=none)->∀b∈fp,qV X [] H' b:=fun hn b hb=>⟨hn b hb,(Y4 b hb).2⟩
 refine codeAny_loop rfl (fun n s'=>∃i τ' H',Inv X [] τ' H' s'/\tn i s'.heap/\(∀b∈fp,H' b=none)/\W i n τ' H') (fun n s3 hI=>?_) m0 ⟨0,τ,H,I,h0,fun b hb=>(Y4 b hb).1,w0⟩
 obtain⟨i,τ3,H3,I3,Nf,RM,w3⟩:=hI
 show wpAny _ X.A ((compTurn (.ListComp elt [⟨tg,iter,ifs,0⟩] scope pos) 0 (.ref it) (.ref D) X.env).onRaise (fun x=>do noteFrame x X.env;theTreesLotGoes x)) _ _ s3
 refine wpAny_noted ?_
 rw[compTurn_list]
 refine zcu (wpAny_standAt (zcu ?_))
 rcases turn i n τ3 H3 w3 with ⟨stop,q⟩ |⟨go,N,hN,step⟩
 ·refine wpAny_mono (T.done X rfl rfl rfl uh i [] s3 τ3 H3 X.xe I3 (stat RM) Nf stop) (fun r s4 zqz=>?_) no
  obtain⟨hr,I4⟩:=zqz
  subst hr
  exact zcv (hR τ3 H3 s4 I4 q)
 ·refine wpAny_mono (T.item X rfl rfl rfl uh i [] s3 τ3 H3 X.xe I3 (stat RM) Nf go) (fun r s4 zqz=>?_) no
  obtain⟨u,hr,h4⟩:=zqz
  subst hr
  refine zcu (wpAny_mono h4 (fun _ s5 zqz=>?_) no)
  obtain⟨x,H5,I5,r5,y5,G3,VT⟩:=zqz
  have VU:=I5.pinned (stat VT) (T.obj _ _ G3)
  refine zcu (wpAny_mono (hg _ s5 τ3 H5 x u _ VU r5 (step x H5 y5)) (fun _ s6 zqz=>?_) no)
  obtain⟨τ6,H6,I6,q6⟩:=zqz
  refine zcu (wpAny_mono (ht _ s6 τ6 H6 _ I6 q6) (fun b s7 zqz=>?_) no)
  obtain⟨H7,I7,q7⟩:=zqz
  have again:∀ {τ7:St} {H7:Hp} {s7:zcB},Inv X ([]++vv fp s5.heap) τ7 H7 s7->N τ7 H7->∃m,m<n/\∃i σ' H',Inv X [] σ' H' s7/\tn i s7.heap/\(∀b∈fp,H' b=none)/\W i m σ' H':=fun {τ7 H7 s7} I7 n7=>by
   obtain⟨m',hm,w7⟩:=hN τ7 H7 n7
   refine⟨m',hm,i+1,τ7,H7,I7.qW,T.keep _ _ _ G3 fun b hb o e=>(I7.pin (b,o) (zat _ (zat _ (l6 hb e)))).1,fun b hb=>?_,w7⟩
   obtain⟨o,e,d⟩:=T.obj _ _ G3 b hb
   exact(I7.pin (b,o) (zat _ (zat _ (l6 hb e)))).2.1
  cases b with
  |false=>exact zcv ⟨rfl,again I7 q7⟩
  |true=>
   refine zcu (zcu (wpAny_mono (he _ s7 τ6 H7 _ I7 q7) (fun v s8 ⟨y,H8,I8,r8,ys,hD,hl,q8⟩=>zcu ?_) no))
   refine wpAny_mono (b7 _ s8 τ6 H8 (.ref D) [y] (.ref D) [v] (fun _ H'=>N τ6 H') I8 rfl (.cons r8 .nil) ⟨D,ys,y,rfl,rfl,hD,hl,q8⟩) (fun _ s9 zqz=>?_) no
   obtain⟨_,H9,I9,_,q9⟩:=zqz
   exact zcv (zcv ⟨rfl,again I9 q9⟩)
theorem AM{pins:List (Addr×Obj)}{s:zcB}{σ:St}{H:Hp}{Q:VK}{use:Option (Value->Sem Unit)}{Q':Value->zcB->Prop}(uh:X.calm=true)(hf:jI scope X.env.scope=true)(hc:vf scope X.env.scope X.N ix=true)
 (hi:PI X tg iter wi) (hg:∀C s₀ H₀ ex,PG (ka X scope own ix C s₀ H₀ ex) tg g) (ht:∀C s₀ H₀ ex,Q2 (ka X scope own ix C s₀ H₀ ex) ifs tc) (he:∀C s₀ H₀ ex,PE (ka X scope own ix C s₀ H₀ ex) elt te)
 (I:Inv X pins σ H s) (h:kD wi own.length ix g tc te σ H Q)
 (hU:∀(D C:Addr) (H':Hp) (s':zcB) (m:Str->Option Value),Inv X pins σ H' s'->Q (.ref D) H'->s'.heap.Ns C m->H' C=none->C≠X.env.locals->X.s₀.heap.objs.size<=C->(∀x c,X.env.cells.lookup x=some c->c≠C)->(∀p∈X.pn++pins,p.1≠C)->compPost (model X.prog X.w) X.A X.xe use Q' (.ref D) C (.ok .next) s')
 (hs:∀x,foldedSetIterable iter X.env x=pure x) :
 wpAny (model X.prog X.w) X.A (comprehension (.ListComp elt [⟨tg,iter,ifs,0⟩] scope pos) scope X.env (firstIterPos [⟨tg,iter,ifs,0⟩] pos) (newList []) false (eval iter X.env) use) Q' X.xe s:=by
 have fits:=(nU hf)
 have qU:∀p∈scope.names,p.2=.free->∃c,X.env.cells.lookup p.1=some c:=fun p hp e=>I.ok.has p.1 ((fits p hp).2.1 e)
 refine wpAny_comprehension_free (use:=use) rfl hs (uL qU) (mn hf) (fun x hx=>(fits x hx).2.2) ?_
 refine fK (hi pins s σ H _ I h) fun v s1 h1=>fK h1 fun VS s2 h2=>?_
 obtain⟨it,fp,tn,J,H2,e,I2,T,AE,f2,hW⟩:=h2
 subst e
 refine wpAny_newObj_type (hd:=by size_fits) ?_
 have hD:H2 s2.heap.objs.size=none:=I2.cS.fresh (Wr _)
 have I3:Inv X pins σ (upd H2 s2.heap.objs.size (.lst [])) {s2 with heap:=s2.heap.push {cls:=.type "list",dict:=none,data:=.seq ([]:List Value).toArray} }:=
  I2.laid (t':=s2.toks) (fun b u e=>Heap.get?_push_of_some _ e) (Wr _) ⟨zaT _,[],0,.nil,Heap.get?_push_size _ rfl⟩
 have W3:=hW s2.heap.objs.size hD
 have Y5:∀b∈fp,b<s2.heap.objs.size:=fun b hb=>let ⟨o,e,_⟩:=T.obj _ _ AE b hb;Heap.lt_size e
 have Sf:∀b∈fp,qV X pins (upd H2 s2.heap.objs.size (.lst [])) b/\b<(s2.heap.push {cls:=.type "list",dict:=none,data:=.seq ([]:List Value).toArray}).objs.size:=fun b hb=>
  ⟨⟨by rw[aw (zam (Y5 b hb))];exact(f2 b hb).1,(f2 b hb).2⟩,by rw[Heap.size_push];exact zbR (Y5 b hb)⟩
 have Nf:tn 0 (s2.heap.push {cls:=.type "list",dict:=none,data:=.seq ([]:List Value).toArray}):=T.keep _ _ _ AE fun b _ o e=>Heap.get?_push_of_some _ e
 generalize hs3:({s2 with heap:=s2.heap.push {cls:=.type "list",dict:=none,data:=.seq ([]:List Value).toArray} }:zcB)=s3 at I3
 generalize hH3:upd H2 s2.heap.objs.size (.lst [])=H3 at I3 W3 Sf
 have eh:s2.heap.push {cls:=.type "list",dict:=none,data:=.seq ([]:List Value).toArray}=s3.heap:=by rw[<- hs3]
 rw[eh] at Sf Nf
 refine wpAny_newFunctionEnv (fun x hx=>(fits x hx).1) (by intro y hy;simp at hy) (fun h4 Ho Wm=>?_) (mn hf)
 have kept:∀b o,s3.heap.get? b=some o->h4.get? b=some o:=fun b o e=>Wm.extBut b o (zam (Heap.lt_size e)) (Heap.get?_push_of_some _ e)
 have I4:=Hw (own:=own) (tk:=s3.toks+([]:List (Str×Value)).length) I3 hf hc Sf Ho kept
 have fp4:∀b∈fp,qV (ka X scope own ix s3.heap.objs.size s3 H3 fp) [] H3 b:=fun b hb=>by
  obtain⟨⟨f0,f1,f2',f3,f4,f5⟩,lt⟩:=Sf b hb
  refine⟨f0,zam lt,fun z=>?_,.inl hb,fun x c e=>f4 x c (rA qU (fun x c e=>by simp at e) e),fun p hp=>absurd (show p∈([]:List (Addr×Obj))++[] from hp) (by simp)⟩
  rcases Zd.mp (I3.vt b z) with z |z
  ·exact f1 z
  ·exact f2' z
 have Y6:tn 0 h4:=T.keep _ _ _ Nf fun b _ o e=>kept b o e
 have loop:=Fw (X:=ka X scope own ix s3.heap.objs.size s3 H3 fp) (iter:=iter) (scope:=scope) (pos:=pos) (R:=compPost (model X.prog X.w) X.A X.xe use Q' (.ref s2.heap.objs.size) s3.heap.objs.size) uh rfl rfl T (he _ _ _ _) (hg _ _ _ _) (ht _ _ _ _) I4 fp4 Y6 W3
  (fun τ' H' s' I' q=>by
   obtain⟨J1,J2,J3,J4,J5,J6⟩:=comp_back I3 Sf I'
   obtain⟨m,hm,_⟩:=I'.loc
   exact hU _ _ H' s' m J1 q hm J2 J3 J4 J5 J6)
 exact codeAny_compStart_list loop (T.self X.A 0 _ _ _ Y6 loop)
theorem i7(uh:X.calm=true)(hf:jI scope X.env.scope=true)(hc:vf scope X.env.scope X.N ix=true)
 (hi:PI X tg iter wi) (hg:∀C s₀ H₀ ex,PG (ka X scope own ix C s₀ H₀ ex) tg g) (ht:∀C s₀ H₀ ex,Q2 (ka X scope own ix C s₀ H₀ ex) ifs tc) (he:∀C s₀ H₀ ex,PE (ka X scope own ix C s₀ H₀ ex) elt te)
 (hs:∀x,foldedSetIterable iter X.env x=pure x:=by intro _;rfl):PE X (.ListComp elt [⟨tg,iter,ifs,0⟩] scope pos) (kD wi own.length ix g tc te):=by
 intro pins s σ H Q I h
 rw[eval_ListComp]
 refine AM (use:=none) uh hf hc hi hg ht he I h (fun D C H' s' m I' q hm n1 n2 n3 n4 n5=>?_) hs
 refine⟨m,hm,fun h' sb=>⟨.ref D,H',?_,rfl,q⟩⟩
 exact I'.turned (t':=s'.toks) (it:=C) (fun b o hb e=>sb.extBut b o hb e) n1 (Ne.symm (Ne.symm n2)) (.inr n3) n4 n5
theorem LB{i:Nat}{y:Str}{py Sg:Pos}(hN:X.N.Nodup)(hiy:X.N[i]?=some y)(hy:Loc X.env.scope y)(uh:X.calm=true)(hf:jI scope X.env.scope=true)(hc:vf scope X.env.scope X.N ix=true)
 (hi:PI X tg iter wi) (hg:∀C s₀ H₀ ex,PG (ka X scope own ix C s₀ H₀ ex) tg g) (ht:∀C s₀ H₀ ex,Q2 (ka X scope own ix C s₀ H₀ ex) ifs tc) (he:∀C s₀ H₀ ex,PE (ka X scope own ix C s₀ H₀ ex) elt te)
 (hsw:swapsWith (.ListComp elt [⟨tg,iter,ifs,0⟩] scope pos) (some (.Name y py)) Sg.line X.env=pure true:=by rfl)
 (hs:∀x,foldedSetIterable iter X.env x=pure x:=by intro _;rfl) (Oy:X.fn y=true\/X.env.scope.names.lookup y=some .local:=by first |exact .inl rfl |exact .inr rfl |assumption) :
 PS X (.Assign [.Name y py] (.ListComp elt [⟨tg,iter,ifs,0⟩] scope pos) Sg) (GX (kD wi own.length ix g tc te) (gW i)):=by
 intro pins s σ H D I h
 rw[exec_Assign_Name_used _ _ _ _ hsw]
 refine zcu (wpAny_standAt (zcu ?_))
 show wpAny _ _ (do let _ <- comprehension (.ListComp elt [⟨tg,iter,ifs,0⟩] scope pos) scope X.env _ (newList []) false (eval iter X.env) (some (assign (.Name y py) X.env))) _ _ s
 refine zcu (wpAny_mono (AM (use:=some (assign (.Name y py) X.env)) (Q':=fun _ s'=>SP X pins D .next s') uh hf hc hi hg ht he I h (fun L C H' s' m I' q hm n1 n2 n3 n4 n5=>?_) hs) (fun _ s' hq=>zcv (zcv hq)) fun _ _ e=>e)
 show wpAny _ _ (assign (.Name y py) X.env (.ref L)) _ _ _
 refine wpAny_assign_Name (xP I' hN hiy hy (v:=.ref L) rfl (fun s2 I2 zqz=>?_) Oy)
 obtain⟨a,sb,ha⟩:=zqz
 have hCa:C≠a:=by
  rcases ha with rfl |ha
  ·exact n2
  ·exact fun z=>n4 y a ha z.symm
 refine⟨m,hm.sameBut sb hCa,fun h' sb'=>⟨_,H',?_,q⟩⟩
 exact I2.turned (t':=s2.toks) (it:=C) (fun b o hb e=>sb'.extBut b o hb e) n1 n2 (.inr n3) n4 n5
end
inductive Dp where
 |cD |bl (b:Bool) |int (i:Int) |str (x:Str) |tup (l:List Dp) |lst (l:List Dp)
mutual
def Rep (K:k0) (H:Hp):Dp->V->Prop
 |.cD,v=>v=.cD
 |.bl b,v=>v=.bl b
 |.int i,v=>v=.int i
 |.str x,v=>v=.str x
 |.tup l,v=>∃a xs,v=.ref a/\b8 K H a xs/\aP K H l xs
 |.lst l,v=>∃a xs,v=.ref a/\gS K H a xs/\aP K H l xs
def aP (K:k0) (H:Hp):List Dp->List V->Prop
 |[],vs=>vs=[]
 |d::ds,vs=>∃v r,vs=v::r/\Rep K H d v/\aP K H ds r
end
mutual
noncomputable def Dp.deep:Dp->Nat
 |.tup l=>Dp.fF l+1
 |.lst l=>Dp.fF l+1
 |_=>0
noncomputable def Dp.fF:List Dp->Nat
 |[]=>0
 |d::ds=>max d.deep (Dp.fF ds)
end
theorem aq.bo{K:k0}{H H':Hp}{a:Addr}{xs:List V}(e:aq H H')(h:b8 K H a xs):b8 K H' a xs:=by
 rcases h with (h |⟨o,h⟩) |h
 ·exact .inl (.inl (e _ _ h))
 ·exact .inl (.inr ⟨o,e _ _ h⟩)
 ·exact .inr h
mutual
theorem Rep.mono{K:k0}{H H':Hp}(e:aq H H'):∀ {d:Dp} {v:V},Rep K H d v->Rep K H' d v
 |.cD,_,h=>h
 |.bl _,_,h=>h
 |.int _,_,h=>h
 |.str _,_,h=>h
 |.tup l,_,h=>by
  unfold Rep at h ⊢
  obtain⟨a,xs,e1,e2,e3⟩:=h
  exact⟨a,xs,e1,e.bo e2,aP.mono e e3⟩
 |.lst l,_,h=>by
  unfold Rep at h ⊢
  obtain⟨a,xs,e1,e2,e3⟩:=h
  exact⟨a,xs,e1,e.seq e2,aP.mono e e3⟩
theorem aP.mono{K:k0}{H H':Hp}(e:aq H H'):∀ {ds:List Dp} {vs:List V},aP K H ds vs->aP K H' ds vs
 |[],_,h=>h
 |d::ds,_,h=>by
  unfold aP at h ⊢
  obtain⟨v,r,e1,e2,e3⟩:=h
  exact⟨v,r,e1,Rep.mono e e2,aP.mono e e3⟩
end
theorem aP.length{K:k0}{H:Hp}:∀ {ds:List Dp} {vs:List V},aP K H ds vs->vs.length=ds.length
 |[],_,h=>by unfold aP at h;rw[h];rfl
 |d::ds,_,h=>by
  unfold aP at h
  obtain⟨v,r,e1,_,e3⟩:=h
  rw[e1,V0,V0,aP.length e3]
theorem aP.get{K:k0}{H:Hp}:∀ {ds:List Dp} {vs:List V} {i:Nat} {d:Dp},aP K H ds vs->ds[i]?=some d->∃v,vs[i]?=some v/\Rep K H d v
 |[],_,_,_,_,e=>by simp at e
 |d::ds,_,0,_,h,e=>by
  unfold aP at h
  obtain⟨v,r,e1,e2,e3⟩:=h
  simp only[List.getElem?_cons_zero,zax.injEq] at e
  subst e
  exact⟨v,by rw[e1];rfl,e2⟩
 |d::ds,_,i+1,d',h,e=>by
  unfold aP at h
  obtain⟨v,r,e1,e2,e3⟩:=h
  rw[zbP] at e
  obtain⟨v',h1,h2⟩:=aP.get e3 e
  exact⟨v',by rw[e1,zbP];exact h1,h2⟩
theorem aP.append{K:k0}{H:Hp}:∀ {ds es:List Dp} {vs us:List V},aP K H ds vs->aP K H es us->aP K H (ds++es) (vs++us)
 |[],_,_,_,h,h'=>by unfold aP at h;rw[h];exact h'
 |d::ds,_,_,_,h,h'=>by
  unfold aP at h
  obtain⟨v,r,e1,e2,e3⟩:=h
  rw[e1]
  show aP K H (d::(ds++_)) (v::(r++_))
  unfold aP
  exact⟨v,_,rfl,e2,aP.append e3 h'⟩
theorem aP.nil{K:k0}{H:Hp}:aP K H [] []:=by unfold aP;rfl
theorem aP.cons{K:k0}{H:Hp}{d:Dp}{ds:List Dp}{v:V}{vs:List V}(h:Rep K H d v)(h':aP K H ds vs):aP K H (d::ds) (v::vs):=by unfold aP;exact⟨v,vs,rfl,h,h'⟩
theorem Rep.bc{K:k0}{H:Hp}{l:List Dp}{v:V}:Rep K H (.tup l) v↔∃a xs,v=.ref a/\b8 K H a xs/\aP K H l xs:=by unfold Rep;exact Iff.rfl
theorem Rep.bC{K:k0}{H:Hp}{l:List Dp}{v:V}:Rep K H (.lst l) v↔∃a xs,v=.ref a/\gS K H a xs/\aP K H l xs:=by unfold Rep;exact Iff.rfl
theorem Rep.bw{K:k0}{H:Hp}{i:Int}{v:V}:Rep K H (.int i) v↔v=.int i:=by unfold Rep;exact Iff.rfl
theorem Rep.bI{K:k0}{H:Hp}{x:Str}{v:V}:Rep K H (.str x) v↔v=.str x:=by unfold Rep;exact Iff.rfl
theorem Rep.kQ{K:k0}{H:Hp}{b:Bool}{v:V}:Rep K H (.bl b) v↔v=.bl b:=by unfold Rep;exact Iff.rfl
theorem Rep.jK{K:k0}{H:Hp}{v:V}:Rep K H .cD v↔v=.cD:=by unfold Rep;exact Iff.rfl
theorem aP.bh{K:k0}{H:Hp}{vs:List V}:aP K H [] vs↔vs=[]:=by unfold aP;exact Iff.rfl
theorem aP.aI{K:k0}{H:Hp}{d:Dp}{ds:List Dp}{vs:List V}:aP K H (d::ds) vs↔∃v r,vs=v::r/\Rep K H d v/\aP K H ds r:=by conv=>lhs;unfold aP
theorem aq.new{H:Hp}{p:Addr}(h:H p=none)(o:HO):aq H (upd H p o):=fun b u q=>by rw[aw (aj q h)];exact q
section
variable{X:Cx}{pins:List (Addr×Obj)}{σ:St}{H:Hp}{s:zcB}
theorem all_true(n:Nat):(zao n).all (fun _=>true)=true:=by simp
mutual
theorem LC(I:Inv X pins σ H s):∀ {d:Dp} {v u:V} {a b:Value} {A:zcC},Rep X.K H d v->Rep X.K H d u->RelV v a->RelV u b->A.units+d.deep<cLine->SeqAt.EqAt A s a b true
 |.cD,v,u,a,b,A,h1,h2,r1,r2,_=>by
  rw[Rep.jK] at h1 h2
  subst h1;subst h2
  cases (show a=Value.none from r1)
  cases (show b=Value.none from r2)
  exact .same _
 |.bl c,v,u,a,b,A,h1,h2,r1,r2,_=>by
  rw[Rep.kQ] at h1 h2
  subst h1;subst h2
  cases (show a=Value.bool c from r1)
  cases (show b=Value.bool c from r2)
  exact .same _
 |.int i,v,u,a,b,A,h1,h2,r1,r2,_=>by
  rw[Rep.bw] at h1 h2
  subst h1;subst h2
  obtain⟨t,rfl⟩:=(show ∃t,a=Value.int i t from r1)
  obtain⟨t',rfl⟩:=(show ∃t,b=Value.int i t from r2)
  have:=SeqAt.EqAt.int_int (A:=A) (s:=s) i t i t'
  rw[beq_self_eq_true] at this
  exact this
 |.str x,v,u,a,b,A,h1,h2,r1,r2,_=>by
  rw[Rep.bI] at h1 h2
  subst h1;subst h2
  obtain⟨t,rfl⟩:=(show ∃t,a=Value.str x t from r1)
  obtain⟨t',rfl⟩:=(show ∃t,b=Value.str x t from r2)
  have:=SeqAt.EqAt.str_str (A:=A) (s:=s) x t x t'
  rw[beq_self_eq_true] at this
  exact this
 |.tup l,v,u,a,b,A,h1,h2,r1,r2,hu=>by
  rw[Rep.bc] at h1 h2
  obtain⟨p,xs,rfl,q1,w1⟩:=h1
  obtain⟨p',Ea,rfl,q2,w2⟩:=h2
  cases (show a=Value.ref p from r1)
  cases (show b=Value.ref p' from r2)
  by_cases e:p=p'
  ·subst e;exact .same _
  ·obtain⟨bz,v1,t1,_⟩:=I.tuple q1
   obtain⟨its',v2,t2,_⟩:=I.tuple q2
   unfold Dp.deep at hu
   have items:=rC I w1 w2 v1 v2 (A:=A.in1) (by show A.units+1+_<_;lia)
   have n1:bz.length=its'.length:=by rw[<- v1.length,<- v2.length,w1.length,w2.length]
   have q:=SeqAt.RcAt.tuples (A:=A) (s:=s) (e:=fun _=>true) t1 t2 (by lia) (fun j h1 h2=>items j bz[j] its'[j] (by simp at h1;simp[h1]) (by simp at h2;simp[h2]))
   rw[all_true] at q
   refine .of_refs e ?_
   simpa[n1] using q
 |.lst l,v,u,a,b,A,h1,h2,r1,r2,hu=>by
  rw[Rep.bC] at h1 h2
  obtain⟨p,xs,rfl,q1,w1⟩:=h1
  obtain⟨p',Ea,rfl,q2,w2⟩:=h2
  cases (show a=Value.ref p from r1)
  cases (show b=Value.ref p' from r2)
  by_cases e:p=p'
  ·subst e;exact .same _
  ·obtain⟨bz,v1,t1,_⟩:=I.list q1
   obtain⟨its',v2,t2,_⟩:=I.list q2
   unfold Dp.deep at hu
   have items:=rC I w1 w2 v1 v2 (A:=A.in1) (by show A.units+1+_<_;lia)
   have n1:bz.length=its'.length:=by rw[<- v1.length,<- v2.length,w1.length,w2.length]
   have q:=SeqAt.RcAt.lists (A:=A) (s:=s) (e:=fun _=>true) t1.isList t2.isList (by simpa using n1) (by lia) (fun j h1 h2=>items j bz[j] its'[j] (by simp at h1;simp[h1]) (by simp at h2;simp[h2]))
   rw[all_true] at q
   exact .of_refs e q
theorem rC(I:Inv X pins σ H s):∀ {ds:List Dp} {vs us:List V} {as bs:List Value} {A:zcC},aP X.K H ds vs->aP X.K H ds us->Vals vs as->Vals us bs->A.units+Dp.fF ds<cLine->
 ∀(j:Nat) (a b:Value),as[j]?=some a->bs[j]?=some b->SeqAt.EqAt A s a b true
 |[],_,_,_,_,A,h1,h2,r1,r2,_,j,a,b,e1,e2=>by
  rw[aP.bh] at h1
  subst h1
  cases r1
  simp at e1
 |d::ds,_,_,_,_,A,h1,h2,r1,r2,hu,j,a,b,e1,e2=>by
  rw[aP.aI] at h1 h2
  obtain⟨v,r,rfl,x1,y1⟩:=h1
  obtain⟨v',r',rfl,x2,y2⟩:=h2
  unfold Dp.fF at hu
  cases r1 with
  |cons z1 t1=>
   cases r2 with
   |cons z2 t2=>
    cases j with
    |zero=>
     simp only[List.getElem?_cons_zero,zax.injEq] at e1 e2
     subst e1;subst e2
     exact LC I x1 x2 z1 z2 (by lia)
    |succ j=>
     rw[zbP] at e1 e2
     exact rC I y1 y2 t1 t2 (by lia) j a b e1 e2
end
end
section
variable{X:Cx}
def Nu (K:k0) (b:Bool):R2:=fun x y H Q=>∃d,Rep K H d x/\Rep K H d y/\d.deep<=150/\Q (.bl b) H
end
section
variable{X:Cx}
def Sh (i j:Int):Prop:=i.natAbs<2 ^ 4000/\j.natAbs<2 ^ 4000
theorem bits_le{i:Int}(h:i.natAbs<2 ^ 4000):Builtin.Int.intBits i<=2 ^ 20:=zan (intBits_le h) (by decide)
theorem Eb:qz X (binaryOp .Mult) (rI Sh fun i j=>.int (i*j)):=RO fun _ _ _ _ _ _ _ hc q=>mul_int q (IntMulOk.of_bits (bits_le hc.1) (bits_le hc.2))
theorem AN:lq X (.builtin "isinstance") (fun xs H Q=>∃x T t b,xs=[x,.ty T]/\qX X.K H x t/\zcc X.K t (.type T)=some b/\Q (.bl b) H):=by
 intro pins s σ H xs us Q I r h
 obtain⟨x,T,t,b,rfl,ty,e,q⟩:=h
 obtain⟨u1,u2,rfl,r1,r2⟩:=vals2 r
 cases (show u2=Value.type T from r2)
 exact Fm I r1 ty e fun tk=>⟨.bl b,H,I.tok tk,rfl,q⟩
end
structure cJ(K:k0)(mg:Str->Option Value)(x:Str)(st:Stmt)(ps:List Str)(f:Addr)(fd:zcA):Prop where
 F:Gz K x x st f fd
 b:Binds K fd ps []
 m:mg x=some (.ref f)
end L2
namespace L2
open PySem PySem.Spec PyProof.Rows
theorem Hz{g:Int->Int->V}{i j:Int}{H:Hp}{Q:VK}:Ng g (.int i) (.int j) H Q↔Q (g i j) H:=⟨fun ⟨_,_,e1,e2,q⟩=>by cases e1;cases e2;exact q,fun q=>⟨_,_,rfl,rfl,q⟩⟩
theorem Wn{C:Int->Int->Prop}{g:Int->Int->V}{i j:Int}{H:Hp}{Q:VK}:rI C g (.int i) (.int j) H Q↔C i j/\Q (g i j) H:=⟨fun ⟨_,_,e1,e2,c,q⟩=>by cases e1;cases e2;exact⟨c,q⟩,fun q=>⟨_,_,rfl,rfl,q⟩⟩
theorem HD{a:V}{r:St}{H:Hp}{Q:VK}:(gb 0 (some a::r) H Q)=(Q a H):=rfl
theorem HE{a:Option V}{r:St}{H:Hp}{Q:VK}:(gb 1 (a::r) H Q)=(gb 0 r H Q):=rfl
theorem HF{a:Option V}{r:St}{H:Hp}{Q:VK}:(gb 2 (a::r) H Q)=(gb 1 r H Q):=rfl
theorem HG{a:Option V}{r:St}{H:Hp}{Q:VK}:(gb 3 (a::r) H Q)=(gb 2 r H Q):=rfl
theorem HH{a:Option V}{r:St}{H:Hp}{Q:VK}:(gb 4 (a::r) H Q)=(gb 3 r H Q):=rfl
theorem HI{a:Option V}{r:St}{H:Hp}{Q:VK}:(gb 5 (a::r) H Q)=(gb 4 r H Q):=rfl
theorem HJ{a:Option V}{r:St}{H:Hp}{Q:VK}:(gb 6 (a::r) H Q)=(gb 5 r H Q):=rfl
theorem HK{a:Option V}{r:St}{H:Hp}{Q:VK}:(gb 7 (a::r) H Q)=(gb 6 r H Q):=rfl
theorem HL{a:Option V}{r:St}{H:Hp}{Q:VK}:(gb 8 (a::r) H Q)=(gb 7 r H Q):=rfl
theorem HM{a:Option V}{r:St}{H:Hp}{Q:VK}:(gb 9 (a::r) H Q)=(gb 8 r H Q):=rfl
theorem Si{v:V}{σ:St}{H:Hp}{Q:VK}:(tC v σ H Q)=(Q v H):=rfl
theorem Nv{r:R2}{ta tb:TE}{σ:St}{H:Hp}{Q:VK}:(RN r ta tb σ H Q)=(ta σ H fun x H1=>tb σ H1 fun y H2=>r x y H2 Q):=rfl
theorem Sj{b:Bool}{p:Bool->Prop}:(∃k,V.bl b=.bl k/\p k)↔p b:=⟨fun ⟨_,e,q⟩=>by cases e;exact q,fun q=>⟨_,rfl,q⟩⟩
theorem Pa{b:Int}{p:Int->Prop}:(∃k,V.int b=.int k/\p k)↔p b:=⟨fun ⟨_,e,q⟩=>by cases e;exact q,fun q=>⟨_,rfl,q⟩⟩
theorem Pb{b:Addr}{p:Addr->Prop}:(∃k,V.ref b=.ref k/\p k)↔p b:=⟨fun ⟨_,e,q⟩=>by cases e;exact q,fun q=>⟨_,rfl,q⟩⟩
theorem Ec{t:TE}{σ:St}{H:Hp}{Q:Bool->Hp->Prop}:(DO t σ H Q)=(t σ H fun x H'=>∃k,x=.bl k/\Q k H'):=rfl
theorem Nw{x y:V}{H:Hp}{Q:VK}:(YX x y H Q)=(Ff x y=true/\Q (.bl (decide (x=y))) H):=rfl
theorem Nx{x y:V}{H:Hp}{Q:VK}:(YY x y H Q)=(Ff x y=true/\Q (.bl (!decide (x=y))) H):=rfl
theorem Pc{i j:Int}:(V.int i=V.int j)=(i=j):=by simp
theorem Pd{i j:Str}:(V.str i=V.str j)=(i=j):=by simp
theorem LD{c:Prop}[Decidable c]{A B:Prop}:(if decide c=true then A else B)↔if c then A else B:=by simp
theorem HN{c:Prop}[Decidable c]{A B:Prop}:(if (!decide c)=true then A else B)↔if c then B else A:=by by_cases h:c<;>simp[h]
theorem aM{K:k0}{p:Addr}{i:Int}{H:Hp}{Q:VK}{xs:List V}{v:V}(h:b8 K H p xs)(hv:sI xs i=some v)(q:Q v H):Ck K (.ref p) (.int i) H Q:=⟨p,xs,i,v,rfl,rfl,h,hv,q⟩
theorem bJ{K:k0}{p:Addr}{i:Int}{H:Hp}{Q:VK}{xs:List V}{v:V}(h:gS K H p xs)(hv:sI xs i=some v)(q:Q v H):AI K (.ref p) (.int i) H Q:=⟨p,xs,i,v,rfl,rfl,h,hv,q⟩
section
variable{P:zcD}{w:World}{K:k0}{mg:Str->Option Value}{base:Heap}
theorem Gz.mq{x qual:Str}{st:Stmt}{f:Addr}{fd:zcA}{N ps:List Str}{k:Nat}{sp:Sp}(F:Gz K x qual st f fd)(S:bg N ps (aN st))(len:∀vs H Q E,sp vs H Q E->vs.length=ps.length)
 (qY:∀(fc:Value) (A:zcC) (outer:List Env) (s:zcB) (H:Hp) (vs:List V) (Q:VK) (E:XK),gg k (A.deeper (envOfC qual (aN st) s.heap.objs.size f fc))->sp vs H Q E->
  ∃t σ,B5 (mf dU P w K mg base N qual (aN st) f fc A outer s H E).B6 (hJ st) t/\L2.start N vs=σ/\t {nx:=fun _ H'=>Q .cD H',rt:=Q} σ H):bN P w K mg base dU (k+1) f fd ps sp:=
 F.ok S len fun fc A outer s H vs Q E hr h=>let ⟨t,_,h1,h2,h3⟩:=qY fc A outer s H vs Q E hr h;⟨t,h1,by rw[h2];exact h3⟩
end
theorem LF{α β:Type}{f:α->β}{xs:List α}{i:Int}(d:α)(h0:0<=i)(h1:i<xs.length):sI (xs.map f) i=some (f (xs.getD i.toNat d)):=by
 have e:i=((i.toNat:Nat):Int):=by lia
 have h2:i.toNat<xs.length:=by lia
 conv=>lhs;rw[e]
 refine av ?_
 rw[UB,Y7,Za h2]
 rfl
theorem Ed{sp:Sp}{xk:List V}{E:XK}{t:TA}{σ:St}{H:Hp}{Q:VK}:(DQ sp xk E t σ H Q)=(t σ H fun vs H1=>sp (vs++xk) H1 Q E):=rfl
theorem Ee{ta:TE}{tr:TA}{σ:St}{H:Hp}{Q:List V->Hp->Prop}:(xR ta tr σ H Q)=(ta σ H fun x H1=>tr σ H1 fun xs H2=>Q (x::xs) H2):=rfl
theorem HP{σ:St}{H:Hp}{Q:List V->Hp->Prop}:(Lk σ H Q)=(Q [] H):=rfl
theorem HQ{t:TA}{σ:St}{H:Hp}{Q:VK}:(RX t σ H Q)=(t σ H fun xs H1=>xs.length<=zcz/\∀p,H1 p=none->Q (.ref p) (upd H1 p (.tup xs))):=rfl
theorem HR{t:TA}{σ:St}{H:Hp}{Q:VK}:(RY t σ H Q)=(t σ H fun xs H1=>xs.length<=zcz/\∀p,H1 p=none->Q (.ref p) (upd H1 p (.lst xs))):=rfl
theorem LG{n:Nat}(h:n<=1000):n<=zcz:=zb6 (Ft h)
theorem AO{K:k0}{p:Addr}{i:Int}{H:Hp}{Q:VK}{xs:List V}{v:V}(hv:sI xs i=some v)(q:Q v (upd H p (.lst xs))):AI K (.ref p) (.int i) (upd H p (.lst xs)) Q:=⟨p,xs,i,v,rfl,rfl,.of ae,hv,q⟩
theorem Rep.new{K:k0}{H:Hp}{p:Addr}{vs:List V}{ds:List Dp}(h:H p=none)(r:aP K H ds vs):Rep K (upd H p (.tup vs)) (.tup ds) (.ref p):=Rep.bc.mpr ⟨p,vs,rfl,.of ae,r.mono (aq.new h _)⟩
theorem LH{i j:Int}:Ff (.int i) (.int j)=true:=rfl
theorem LJ{i j:Str}:Ff (.str i) (.str j)=true:=rfl
theorem LK{n:Nat}(h:n<=1000):(n<=zcz)=True:=eq_true (LG h)
theorem HS{i j:Int}:(RR i j)=(0<j/\j<1073741824):=rfl
theorem HU{CX:ve}{P:zcD}{w:World}{K:k0}{mg:Str->Option Value}{base:Heap}{N:List Str}{qual:Str}{scope:Scope}{f:Addr}{cd:Value}{A:zcC}{outer:List Env}{s:zcB}{H:Hp}{E:XK}:(mf CX P w K mg base N qual scope f cd A outer s H E).K=K:=rfl
theorem Ef{X:Cx}{scope:Scope}{own:List Str}{ix:List Nat}{C:Addr}{s₀:zcB}{H₀:Hp}{ex:List Addr}:(ka X scope own ix C s₀ H₀ ex).K=X.K:=rfl
theorem mulR{z b:Int}(h1 : -18446744073709551616<b)(h2:b<18446744073709551616):G4 z b:=.inr ⟨h1,h2⟩
theorem mulL{z b:Int}(h1 : -18446744073709551616<z)(h2:z<18446744073709551616):G4 z b:=.inl ⟨h1,h2⟩
theorem mv{a b:Expr}{op:Operator}{pos:Pos}:pA (.BinOp a op b pos):=fun _ _=>rfl
theorem pC{x:Str}{pos:Pos}:pA (.Name x pos):=fun _ _=>rfl
theorem ao{c:Const}{k:Nat}{pos:Pos}:pA (.Constant c k pos):=fun _ _=>rfl
theorem HV{a b:Expr}{pos:Pos}:pA (.Subscript a b pos):=fun _ _=>rfl
theorem vJ{a:Expr}{op:UnaryOp}{pos:Pos}:pA (.UnaryOp op a pos):=fun _ _=>rfl
theorem jw{a b:Expr}{op:Operator}{pos:Pos}{es:List Expr}{env:Env}:zcx (.BinOp a op b pos::es) env=(false,eval (.BinOp a op b pos) env)::zcx es env:=rfl
theorem ag{x:Str}{pos:Pos}{es:List Expr}{env:Env}:zcx (.Name x pos::es) env=(false,eval (.Name x pos) env)::zcx es env:=rfl
theorem ba{c:Const}{k:Nat}{pos:Pos}{es:List Expr}{env:Env}:zcx (.Constant c k pos::es) env=(false,eval (.Constant c k pos) env)::zcx es env:=rfl
theorem a8{a b:Expr}{pos:Pos}{es:List Expr}{env:Env}:zcx (.Subscript a b pos::es) env=(false,eval (.Subscript a b pos) env)::zcx es env:=rfl
theorem bG{f:Expr}{as:List Expr}{ks:List Keyword}{pos:Pos}{es:List Expr}{env:Env}:zcx (.Call f as ks pos::es) env=(false,eval (.Call f as ks pos) env)::zcx es env:=rfl
theorem Eg{a:Expr}{x:Str}{pos:Pos}{es:List Expr}{env:Env}:zcx (.Attribute a x pos::es) env=(false,eval (.Attribute a x pos) env)::zcx es env:=rfl
theorem iX{as:List Expr}{pos:Pos}{es:List Expr}{env:Env}:zcx (.List as pos::es) env=(false,eval (.List as pos) env)::zcx es env:=rfl
theorem dI{as:List Expr}{k}{pos:Pos}{es:List Expr}{env:Env}:zcx (.Tuple as k pos::es) env=(false,eval (.Tuple as k pos) env)::zcx es env:=rfl
theorem mw{a:Expr}{gs:List Comprehension}{sc:Scope}{pos:Pos}{es:List Expr}{env:Env}:zcx (.ListComp a gs sc pos::es) env=(false,eval (.ListComp a gs sc pos) env)::zcx es env:=rfl
noncomputable def HW:Expr->Option V
 |.Constant (.int i) _ _=>some (.int i)
 |.Constant (.str x) _ _=>some (.str x)
 |.Constant (.bool b) _ _=>some (.bl b)
 |.Constant .none _ _=>some .cD
 |_=>none
def HX (vs:List V):TA:=fun _ H Q=>Q vs H
theorem dW{X:Cx}:∀ {es:List Expr} {vs:List V},es.map HW=vs.map some->PA X es (HX vs)
 |[],[],_=>ah
 |[],_::_,h=>by cases h
 |_::_,[],h=>by cases h
 |e::es,v::vs,h=>by
  rw[Y9,Y9] at h
  injection h with h1 h2
  have ih:=dW (X:=X) h2
  have one:∀ {e:Expr} {v:V},PE X e (tC v)->(zcx (e::es) X.env=(false,eval e X.env)::zcx es X.env)->PA X (e::es) (HX (v::vs)):=fun he hs pos pins s σ H Q I q=>aa he ih hs pos pins s σ H Q I q
  unfold HW at h1
  split at h1
  ·cases h1;exact one ak ba
  ·cases h1;exact one bq ba
  ·cases h1;exact one xQ ba
  ·cases h1;exact one gQ ba
  ·cases h1
theorem Eh{vs:List V}{σ:St}{H:Hp}{Q:List V->Hp->Prop}:(HX vs σ H Q)=(Q vs H):=rfl
theorem Ei{td ty:TE}{σ:St}{H:Hp}{Q:VK}:(Nq td ty σ H Q)=(td σ H fun x H1=>ty σ H1 fun y H2=>∃a v,x=.ref a/\pT H2 a y (some v)/\Q v H2):=rfl
theorem AQ{σ:St}{H:Hp}{Q:VK}:(Ht σ H Q)=(∀p,H p=none->Q (.ref p) (upd H p (.dK []))):=rfl
theorem Ej{td ty tv:TE}{D:Ends}{σ:St}{H:Hp}:(Nr td ty tv D σ H)=(tv σ H fun v H1=>td σ H1 fun x H2=>ty σ H2 fun y H3=>∃a H4,x=.ref a/\O9 H3 a y v H4/\D.nx σ H4):=rfl
theorem Ny{r:List V->Hp->VK->Prop}{t:TA}{σ:St}{H:Hp}{Q:VK}:(V5 r t σ H Q)=(t σ H fun vs H1=>r vs H1 Q):=rfl
theorem Sk{t:TE}{σ:St}{H:Hp}{Q:Bool->Hp->Prop}:(tB t σ H Q)=(t σ H fun x H1=>∃c,x=.bl c/\Q c H1):=rfl
theorem HY{t:TT}{σ:St}{H:Hp}{Q:Bool->Hp->Prop}:(RG t σ H Q)=(t σ H fun c H1=>Q (!c) H1):=rfl
theorem pT.s{H:Hp}{a:Addr}{aG:List (Key×V)}{x:Str}{v:V}(e:H a=some (.dK aG))(h:cY aG (Sum.inr x)=some v):pT H a (.str x) (some v):=by
 have:=pT.k (k:=Sum.inr x) e
 rw[h] at this
 exact this
end L2
namespace PM
abbrev W:=List Nat
inductive Tr where
 |num (n:Int) |box (x:W) |bin (o:W) (l r:Tr)
 deriving DecidableEq
noncomputable def isLetter (c:Nat):Bool:=decide (97<=c)&&decide (c<=122)
noncomputable def AR (c:Nat):Bool:=decide (48<=c)&&decide (c<=57)
noncomputable def kind (c:Nat):Nat:=if isLetter c then 0 else if AR c then 1 else 2
noncomputable def LL:List W:=[[98,111,120],[97,115,107],[112,117,116],[115,97,121],[105,102],[101,108,115,101],[119,104,105,108,101],[109,117,115,116],[115,116,111,112],[101,110,100]]
noncomputable def isName (p:W):Bool:=decide (1<=p.length)&&decide (p.length<=8)&&p.all isLetter && !LL.contains p
noncomputable def isNumber (p:W):Bool:=decide (1<=p.length)&&decide (p.length<=3)&&p.all AR&&(decide (p=[48]) || !decide (p.head?=some 48))
noncomputable def qC (p:W):Int:=p.foldl (fun (a:Int) (c:Nat)=>a*10+((c:Int)-48)) 0
abbrev P:=List W->Option (Tr×List W)
noncomputable def Ek (sub:P):P
 |[]=>none
 |p::r=>if isNumber p then some (.num (qC p),r) else if isName p then some (.box p,r) else if p=[40] then
  (match sub r with
  |some (e,q::r')=>if q=[41] then some (e,r') else none
  |_=>none) else none
theorem Cu(sub:P)(p:W)(r:List W):Ek sub (p::r)=if isNumber p then some (.num (qC p),r) else if isName p then some (.box p,r) else if p=[40] then
 (match sub r with
 |some (e,q::r')=>if q=[41] then some (e,r') else none
 |_=>none) else none:=rfl
noncomputable def El (ops:List W) (f:P):Nat->Tr->List W->Option (Tr×List W)
 |0,e,ps=>some (e,ps)
 |_+1,e,[]=>some (e,[])
 |k+1,e,p::r=>if p∈ops then (match f r with
  |none=>none
  |some (e2,r')=>El ops f k (.bin p e e2) r') else some (e,p::r)
noncomputable def AS (f:P):P:=fun ps=>match f ps with
 |none=>none
 |some (e,r)=>El [[42]] f r.length e r
noncomputable def Pe (f:P):P:=fun ps=>match AS f ps with
 |none=>none
 |some (e,r)=>El [[43],[45]] (AS f) r.length e r
noncomputable def factor:Nat->P
 |0=>Ek fun _=>none
 |n+1=>Ek (Pe (factor n))
noncomputable def loop (ops:List W) (f:P) (e:Tr) (ps:List W):Option (Tr×List W):=El ops f ps.length e ps
theorem Ia(f:P)(ps:List W):AS f ps=match f ps with
 |none=>none
 |some (e,r)=>loop [[42]] f e r:=rfl
noncomputable def Wo (p:W):Bool:=isNumber p ||isName p
noncomputable def Cv:List W:=[[43],[45],[42]]
noncomputable def step (p:W):Nat×Bool->Option (Nat×Bool)
 |(d,true)=>if p=[40] then (if d+1>5 then none else some (d+1,true)) else if Wo p then some (d,false) else none
 |(d,false)=>if p=[41] then (if d=0 then none else some (d-1,false)) else if p∈Cv then some (d,true) else none
noncomputable def run:List W->Nat×Bool->Option (Nat×Bool)
 |[],s=>some s
 |p::r,s=>match step p s with
  |none=>none
  |some s'=>run r s'
def xX (_:List W):Prop:=True
def RF (n:Nat) (t:Tr) (L:List W):Prop:=∀rest,factor n (L++rest)=some (t,rest)
def RP (n:Nat) (t:Tr) (L:List W):Prop:=∀rest,AS (factor n) (L++rest)=loop [[42]] (factor n) t rest
theorem RF.p{n:Nat}{t:Tr}{L:List W}(h:RF n t L):RP n t L:=fun rest=>by rw[Ia,h rest]
theorem ui(n:Nat)(p:W)(r:List W)(h:isNumber p=true\/isName p=true):factor n (p::r)=if isNumber p then some (.num (qC p),r) else some (.box p,r):=by
 have key:∀sub:P,Ek sub (p::r)=if isNumber p then some (.num (qC p),r) else some (.box p,r):=fun sub=>by
  rw[Cu]
  by_cases h1:isNumber p=true
  ·rw[if_pos h1,if_pos h1]
  ·rw[if_neg h1,if_neg h1,if_pos (h.resolve_left h1)]
 cases n with
 |zero=>exact key _
 |succ n=>exact key _
theorem RF.num{n:Nat}{p:W}(h:isNumber p=true):RF n (.num (qC p)) [p]:=fun rest=>by
 show factor n (p::rest)=_
 rw[ui n p rest (.inl h),if_pos h]
theorem RF.box{n:Nat}{p:W}(h:isName p=true)(h':isNumber p=false):RF n (.box p) [p]:=fun rest=>by
 show factor n (p::rest)=_
 rw[ui n p rest (.inr h),if_neg (by rw[h'];simp)]
def Wq (w:W):Prop:=∀c∈w,c≠43/\c≠45/\c≠42
end PM
namespace L2
open PySem PySem.Spec PyProof.Rows
section
variable{P:zcD}{w:World}{H H':Hp}{h h' B:Heap}{a:Addr}{o:HO}
theorem dg.there(x:dg P w H h a o):∃ob,h.get? a=some ob:=by
 induction o with
 |lst xs=>obtain⟨_,_,_,_,e⟩:=x;exact⟨_,e⟩
 |tup xs=>obtain⟨_,_,_,_,e,_⟩:=x;exact⟨_,e⟩
 |dK aG=>obtain⟨_,_,_,_,o,_,_,e,_⟩:=x;exact⟨_,e⟩
 |dT aG=>obtain⟨_,_,_,_,o,_,_,e,_⟩:=x;exact⟨_,e⟩
 |set S n=>obtain⟨o,_,_,_,e,_⟩:=x;exact⟨_,e⟩
 |ins C dx fs=>obtain⟨_,_,_,e,_⟩:=x;exact⟨_,e⟩
 |own y=>exact x
 |xd fs=>obtain⟨_,⟨_,_,_,e,_⟩,_⟩:=x;exact⟨_,e⟩
 |Ur lo hi=>obtain⟨_,_,_,e⟩:=x;exact⟨_,e⟩
 |Ay ob u=>obtain⟨e,_⟩:=x;exact⟨_,e⟩
 |t9 ps=>exact⟨_,(show h.get? a=some _ from x)⟩
 |met f y=>exact⟨_,(show h.get? a=some _ from x)⟩
 |ext φ=>obtain⟨_,e,_⟩:=x;exact e
end
structure LN(K:k0)(C:Addr):Prop where
 q:PySem.W.excIn K C [.type "ValueError",.type "Exception",.type "BaseException",.type "object"] "ValueError.__new__"=true
section
variable{X:Cx}{pins:List (Addr×Obj)}{σ:St}{H:Hp}{s:zcB}{x:Addr}
theorem Inv.told{o:HO}(I:Inv X pins σ H s)(n:H x=none)(h0:X.s₀.heap.objs.size<=x)(hL:x≠X.env.locals)(hc:∀y c,X.env.cells.lookup y=some c->c≠x)(hp:∀p∈X.pn++pins,p.1≠x)(ok:dg X.prog X.w (upd H x o) s.heap x o):Inv X pins σ (upd H x o) s:=by
 have nx:∀b u,X.s₀.heap.get? b=some u->b≠x:=fun b u e=>zam (zaj (Heap.lt_size e) h0)
 refine⟨I.ok,I.os,I.bare,⟨I.base.keep,I.base.slot,fun b u e n' hx=>?_,I.base.there,fun b xs e=>?_,fun b ob u e=>?_,fun b ps e=>?_⟩,I.loc,I.cell,?_,fun y c e=>?_,fun p Q1=>?_,fun b u e=>?_,I.len⟩
 ·rw[aw (nx b u e)];exact I.base.free b u e n' hx
 ·have:=I.base.qw b xs e
  rw[aw (aj this n)];exact this
 ·have:=I.base.nJ b ob u e
  rw[aw (aj this n)];exact this
 ·obtain⟨m,e1⟩:=I.base.pS b ps e
  exact⟨m,by rw[aw (aj e1 n)];exact e1⟩
 ·rw[aw (Ne.symm hL)];exact I.free
 ·rw[aw (hc y c e)];exact I.nu y c e
 ·obtain⟨a,b,c⟩:=I.pin p Q1
  exact⟨a,by rw[aw (hp p Q1)];exact b,c⟩
 ·by_cases hb:b=x
  ·subst hb
   rw[ae] at e
   cases e
   exact ok
  ·rw[aw hb] at e
   exact(I.cS b u e).ju (fun _ _ _ q=>q) (fun c q=>by rw[aw (aj q n)];exact q) fun c xs q=>by rw[aw (aj q n)];exact q
end
noncomputable def Its (z:Str):It:=⟨fun i _=>i<z.cps.size,fun i H x H'=>H'=H/\∃c,z.cps[i]?=some c/\x=.str ⟨#[c]⟩,fun i _=>z.cps.size<=i⟩
section
variable{X:Cx}{tg:Expr}
def Sn (tl:TE):TI:=fun σ H R=>tl σ H fun x H1=>∃z,x=.str z/\R (Its z) H1
end
abbrev W:=PM.W
noncomputable def S (w:W):Str:=⟨w.toArray⟩
theorem nV{a b:W}:S a=S b↔a=b:=⟨fun h=>by have:=congrArg (fun z:Str=>z.cps.toList) h;simpa[S] using this,fun h=>by rw[h]⟩
noncomputable def ji:PM.Tr->Dp
 |.num n=>.tup [.str "number",.int n]
 |.box x=>.tup [.str "box",.str (S x)]
 |.bin o l r=>.tup [.str (S o),ji l,ji r]
def bA (p:Addr) (H H':Hp):Prop:=∀b o,b≠p->H b=some o->H' b=some o
theorem bA.refl(p:Addr)(H:Hp):bA p H H:=fun _ _ _ h=>h
theorem bA.trans{p:Addr}{H H1 H2:Hp}(a:bA p H H1)(b:bA p H1 H2):bA p H H2:=fun c o n h=>b c o n (a c o n h)
theorem bA.of{p:Addr}{H H':Hp}(s:aq H H'):bA p H H':=fun b o _ h=>s b o h
theorem bA.put{p:Addr}{H H1:Hp}(a:bA p H H1)(o:HO):bA p H (upd H1 p o):=fun b u n h=>by rw[aw n];exact a b u n h
theorem bA.new{p q:Addr}{H H1:Hp}(a:bA p H H1)(h:H1 q=none)(o:HO):bA p H (upd H1 q o):=fun b u n e=>by rw[aw (aj (a b u n e) h)];exact a b u n e
theorem bA.same{p:Addr}{H H':Hp}(a:bA p H H')(h:H p=none):aq H H':=fun b o e=>a b o (aj e h) e
theorem Rep.lE{K:k0}{H H':Hp}{p C dx:Addr}{fs:List (Str×V)}(hp:H p=some (.ins C dx fs))(u:bA p H H'):(∀(d:Dp) (v:V),Rep K H d v->Rep K H' d v)/\∀(ds:List Dp) (vs:List V),aP K H ds vs->aP K H' ds vs:=by
 have st:∀a xs,b8 K H a xs->b8 K H' a xs:=fun a xs h=>by
  rcases h with (h |⟨o,h⟩) |h
  ·exact .inl (.inl (u _ _ (bR h hp (by intro z;cases z)) h))
  ·exact .inl (.inr ⟨o,u _ _ (bR h hp (by intro z;cases z)) h⟩)
  ·exact .inr h
 have sl:∀a xs,gS K H a xs->gS K H' a xs:=fun a xs h=>by
  rcases h with (h |⟨o,h⟩) |h
  ·exact .inl (.inl (u _ _ (bR h hp (by intro z;cases z)) h))
  ·exact .inl (.inr ⟨o,u _ _ (bR h hp (by intro z;cases z)) h⟩)
  ·exact .inr h
 refine⟨fun d=>?_,fun ds=>?_⟩
 ·exact Dp.rec (motive_1:=fun d=>∀v,Rep K H d v->Rep K H' d v) (motive_2:=fun ds=>∀vs,aP K H ds vs->aP K H' ds vs)
   (fun v h=>by rw[Rep.jK] at h ⊢;exact h) (fun b v h=>by rw[Rep.kQ] at h ⊢;exact h) (fun i v h=>by rw[Rep.bw] at h ⊢;exact h) (fun x v h=>by rw[Rep.bI] at h ⊢;exact h)
   (fun l ih v h=>by rw[Rep.bc] at h ⊢;obtain⟨a,xs,e,q,r⟩:=h;exact⟨a,xs,e,st a xs q,ih xs r⟩)
   (fun l ih v h=>by rw[Rep.bC] at h ⊢;obtain⟨a,xs,e,q,r⟩:=h;exact⟨a,xs,e,sl a xs q,ih xs r⟩)
   (fun vs h=>by rw[aP.bh] at h ⊢;exact h)
   (fun d ds i1 i2 vs h=>by rw[aP.aI] at h ⊢;obtain⟨v,r,e,x,y⟩:=h;exact⟨v,r,e,i1 v x,i2 r y⟩) d
 ·exact Dp.rec_1 (motive_1:=fun d=>∀v,Rep K H d v->Rep K H' d v) (motive_2:=fun ds=>∀vs,aP K H ds vs->aP K H' ds vs)
   (fun v h=>by rw[Rep.jK] at h ⊢;exact h) (fun b v h=>by rw[Rep.kQ] at h ⊢;exact h) (fun i v h=>by rw[Rep.bw] at h ⊢;exact h) (fun x v h=>by rw[Rep.bI] at h ⊢;exact h)
   (fun l ih v h=>by rw[Rep.bc] at h ⊢;obtain⟨a,xs,e,q,r⟩:=h;exact⟨a,xs,e,st a xs q,ih xs r⟩)
   (fun l ih v h=>by rw[Rep.bC] at h ⊢;obtain⟨a,xs,e,q,r⟩:=h;exact⟨a,xs,e,sl a xs q,ih xs r⟩)
   (fun vs h=>by rw[aP.bh] at h ⊢;exact h)
   (fun d ds i1 i2 vs h=>by rw[aP.aI] at h ⊢;obtain⟨v,r,e,x,y⟩:=h;exact⟨v,r,e,i1 v x,i2 r y⟩) ds
mutual
noncomputable def Dp.py:Dp->PyData
 |.cD=>.none
 |.bl b=>.bool b
 |.int i=>.int i
 |.str x=>.str x
 |.tup l=>.tuple (Dp.Ao l)
 |.lst l=>.list (Dp.Ao l)
noncomputable def Dp.Ao:List Dp->List PyData
 |[]=>[]
 |d::r=>d.py::Dp.Ao r
end
section
variable{X:Cx}{pins:List (Addr×Obj)}{σ:St}{H:Hp}{s:zcB}
mutual
theorem nW(I:Inv X pins σ H s):∀ {d:Dp} {v:V} {u:Value},Rep X.K H d v->RelV v u->∃as,Reads s.heap u d.py as
 |.cD,v,u,h,r=>by rw[Rep.jK] at h;subst h;cases (show u=Value.none from r);exact⟨_,.none⟩
 |.bl b,v,u,h,r=>by rw[Rep.kQ] at h;subst h;cases (show u=Value.bool b from r);exact⟨_,.bool b⟩
 |.int i,v,u,h,r=>by rw[Rep.bw] at h;subst h;obtain⟨t,rfl⟩:=(show ∃t,u=Value.int i t from r);exact⟨_,.int i t⟩
 |.str x,v,u,h,r=>by rw[Rep.bI] at h;subst h;obtain⟨t,rfl⟩:=(show ∃t,u=Value.str x t from r);exact⟨_,.str x t⟩
 |.tup l,v,u,h,r=>by
  rw[Rep.bc] at h
  obtain⟨p,xs,rfl,q,w⟩:=h
  cases (show u=Value.ref p from r)
  obtain⟨bz,v1,t1,_⟩:=I.tuple q
  obtain⟨as,ra⟩:=sW I w v1
  obtain⟨o,h1,h2,n,h3⟩:=t1
  unfold Dp.py
  exact⟨as,.tuple h1 h2 h3 (by simpa using ra)⟩
 |.lst l,v,u,h,r=>by
  rw[Rep.bC] at h
  obtain⟨p,xs,rfl,q,w⟩:=h
  cases (show u=Value.ref p from r)
  obtain⟨bz,v1,t1,_⟩:=I.list q
  obtain⟨as,ra⟩:=sW I w v1
  obtain⟨o,h1,h2,n,h3⟩:=t1.isList
  unfold Dp.py
  exact⟨_,.list h1 h2 h3 (by simpa using ra)⟩
theorem sW(I:Inv X pins σ H s):∀ {ds:List Dp} {vs:List V} {us:List Value},aP X.K H ds vs->Vals vs us->∃as,ReadsAll s.heap us (Dp.Ao ds) as
 |[],_,_,h,r=>by rw[aP.bh] at h;subst h;cases r;unfold Dp.Ao;exact⟨_,.nil⟩
 |d::ds,_,_,h,r=>by
  rw[aP.aI] at h
  obtain⟨v,vs,rfl,x,y⟩:=h
  cases r with
  |cons r1 r2=>
   obtain⟨a,ra⟩:=nW I x r1
   obtain⟨b,rb⟩:=sW I y r2
   unfold Dp.Ao
   exact⟨_,.cons ra rb⟩
end
end
section
variable{X:Cx}
def So (K:k0) (neg:Bool):R2:=fun x y H Q=>∃d e,Rep K H d x/\Rep K H e y/\SeqAt.shaped d.py=true/\SeqAt.shaped e.py=true/\Q (.bl (if neg then !PyData.eqv d.py e.py else PyData.eqv d.py e.py)) H
theorem Ph(hu:X.A.units+64<cLine):qz X (compareOp .Eq) (So X.K false):=by
 intro pins s σ H x y v u Q I rx ry h
 obtain⟨d,e,h1,h2,s1,s2,q⟩:=h
 obtain⟨as,ra⟩:=nW I h1 rx
 obtain⟨bs,rb⟩:=nW I h2 ry
 exact eq_dataH ra rb s1 s2 hu ⟨.bl (PyData.eqv d.py e.py),H,I,rfl,q⟩
theorem Pj(hu:X.A.units+64<cLine):qz X (compareOp .NotEq) (So X.K true):=by
 intro pins s σ H x y v u Q I rx ry h
 obtain⟨d,e,h1,h2,s1,s2,q⟩:=h
 obtain⟨as,ra⟩:=nW I h1 rx
 obtain⟨bs,rb⟩:=nW I h2 ry
 exact ne_dataH ra rb s1 s2 hu ⟨.bl (!PyData.eqv d.py e.py),H,I,rfl,q⟩
end
mutual
theorem eqv_refl:∀d:Dp,PyData.eqv d.py d.py=true
 |.cD=>rfl
 |.bl b=>by simp[Dp.py,PyData.eqv]
 |.int i=>by simp[Dp.py,PyData.eqv]
 |.str x=>by simp[Dp.py,PyData.eqv]
 |.tup l=>by simp only[Dp.py,PyData.eqv];exact sX l
 |.lst l=>by simp only[Dp.py,PyData.eqv];exact sX l
theorem sX:∀l:List Dp,PyData.eqvAll (Dp.Ao l) (Dp.Ao l)=true
 |[]=>rfl
 |d::r=>by simp only[Dp.Ao,PyData.eqvAll,eqv_refl d,sX r,Bool.and_true]
end
theorem ax{t u:TS}{D:Ends}{σ:St}{H:Hp}(h:∀U:St->Hp->Prop,(∀σ' H',U σ' H'↔u D σ' H')->t {D with nx:=U} σ H):Ld t u D σ H:=h (u D) fun _ _=>Iff.rfl
theorem LO{A:zcC}{k:Nat}(hr:gg k A):A.units+64<cLine:=hr.units
end L2
namespace L2
open PySem
theorem AU{X:Cx}:lq X (.builtin "isinstance") (fun xs H Q=>∃a T l b,xs=[.ref a,.ty T]/\b8 X.K H a l/\zcc X.K (.type "tuple") (.type T)=some b/\Q (.bl b) H):=by
 intro pins s σ H xs us Q I r h
 obtain⟨a,T,l,b,rfl,hS,e,q⟩:=h
 cases r with
 |cons r1 r2=>
  cases r2 with
  |cons r3 r4=>
   cases r4
   cases (show _=Value.ref a from r1)
   cases (show _=Value.type T from r3)
   obtain⟨bz,_,⟨o,h1,h2,_⟩,_⟩:=I.tuple hS
   exact zaK PySem.W.kitx_tuple I.uI ⟨o,h1,h2⟩ e (fun z=>nomatch z) fun tk=>⟨.bl b,H,I.tok tk,rfl,q⟩
theorem nX{ta:TA}{g:TG}{tb:TS}{D:Ends}{σ:St}{H:Hp} (h:∀U:Int->Hp->Prop,(∀j H1,(∃W:Nat->Nat->St->Hp->Prop,(∃m,W 0 m σ H1)/\∀i m σ H,W i m σ H->
 ((G0 0 j.toNat).stop i H/\D.nx σ H)\/((G0 0 j.toNat).go i H/\∃N:St->Hp->Prop,(∀σ' H',N σ' H'->∃m',m'<m/\W (i+1) m' σ' H')/\∀x H',(G0 0 j.toNat).DH i H x H'->g x σ H' fun σ2 H2=>tb {D with nx:=N,ct:=N,bk:=D.nx} σ2 H2))->U j H1)->
 ta σ H fun vs H1=>∃j:Int,vs=[.int j]/\-(2 ^ 62)<=j/\j<2 ^ 62/\U j H1):G2 (DJ ta) g tb D σ H:=h _ fun _ _ x=>x
theorem NB(ns:List Int)(h:ns.length<=63):jh (ns.map V.int) none (some 63)=ns.map V.int:=by
 unfold jh
 rw[HT.nO,show (63:Int)=((63:Nat):Int) from rfl,HT.pf,Zb,List.drop_zero,Nat.sub_zero]
 exact zbf (by rw[Zb];lia)
open PyProof.Rows PySem.Spec
section
variable{X:Cx}{pins:List (Addr×Obj)}{σ:St}{H:Hp}{s:zcB}{h':Heap}
theorem Inv.xY{t':Nat}{fp:List Addr}(I:Inv X pins σ H s)(k:∀b o,b ∉ fp->s.heap.get? b=some o->h'.get? b=some o)(hf:∀b∈fp,qV X pins H b):Inv X pins σ H {s with heap:=h',toks:=t' }:=by
 have RA:∀b u,H b=some u->b ∉ fp:=fun b u e z=>by rw[(hf b z).1] at e;cases e
 refine I.step (g':=s.gens) (d':=s.drawn) (ch:=fp) (fun b hb=>?_) (fun b o _ _ hc e _=>k b o hc e) (fun b o _ _ hc e _=>⟨o.slots,k b o hc e⟩) (fun _ _ _ _ n=>n)
  (fun b o hc e=>⟨o,k b o hc e⟩) (fun _ _ e=>e) (fun _ _ _ e=>e) (fun b ps e=>⟨#[],by rw[e];simp⟩) (fun m hm=>?_) (fun b u e=>?_) I.bare
 ·obtain⟨_,f1,_,f3,f4,f5⟩:=hf b hb
  exact⟨f3,f1,f4,f5⟩
 ·obtain⟨o,es,ep,ho,r⟩:=hm
  exact⟨o,es,ep,k _ o (fun z=>(hf _ z).2.1 rfl) ho,r⟩
 ·refine(I.cS b u e).ju (fun c v hc q=>k c v ?_ q) (fun _ q=>q) fun _ _ q=>q
  rcases hc with z |z
  ·rw[z];exact RA b u e
  ·exact RA c _ z
end
noncomputable def NC (K:k0) (a:Addr):It:=
 ⟨fun i H=>∃xs x,gS K H a xs/\xs[i]?=some x,fun i H x H'=>∃p y,x=.ref p/\H p=none/\H'=upd H p (.tup [.int i,y])/\∀xs,gS K H a xs->xs[i]?=some y,fun i H=>∃xs,gS K H a xs/\xs.length<=i⟩
theorem Fy{P:zcD}{w:World}{K:k0}{elts:List Expr}{x1}{pos:Pos}(a e it:Addr)(za:e≠it) :
 Turn P w K (.Tuple elts x1 pos) (NC K a) [e,it] e (fun i h=>(∃old,IsEnum h e it i old)/\h.IsListIter it a i) where
 mem:=by simp
 obj:=fun i h st b hb=>by
  obtain⟨⟨old,he⟩,o,eo,c,d⟩:=st
  rcases Zd.mp hb with rfl |hb
  ·exact⟨_,he,fun v z=>by cases (show Data.fields _=Data.cell v from z)⟩
  ·have z:b=it:=by simpa using hb
   subst z
   exact⟨o,eo,fun v z=>by rw[d] at z;cases z⟩
 keep:=fun i h h' st k=>⟨st.1.elim fun old he=>⟨old,k e (by simp) _ he⟩,st.2.at fun o x=>k it (by simp) o x⟩
 item:=by
  intro X hP hw hK hc i pins s σ H E I hf st hg
  subst hP hw hK
  obtain⟨xs,x,hq,hx⟩:=hg
  obtain⟨⟨old,he⟩,hit⟩:=st
  obtain⟨bz,rv,p,hz⟩:=I.list hq
  obtain⟨u,hu,ru⟩:=rv.get hx
  refine wpAny_pyNext_enum_item he hit p.isList (x:=u) (by simpa using hu) za fun h' ho Pk hT hsz hk=>?_
  refine⟨_,rfl,?_⟩
  refine wpAny_letOwnedTupleGo_enum ho fun h2 UD sb=>?_
  have Sq:e<s.heap.objs.size:=Heap.lt_size he
  have Sr:it<s.heap.objs.size:=by obtain⟨_,x,_⟩:=hit;exact Heap.lt_size x
  have I1:Inv X pins σ H {s with heap:=h2,toks:=s.toks+1}:=I.xY (t':=s.toks+1) (fun b o hb q=>(sb.2 b fun z=>hb (by simp[z])).trans (hk b o (fun z=>hb (by simp[z])) (fun z=>hb (by simp[z])) q)) hf
  have fr:H s.heap.objs.size=none:=I.cS.fresh (Wr _)
  obtain⟨g0,g1,g2,g3,g4,g5⟩:=I.GY (Wr _) fr
  have Wt:h2.get? s.heap.objs.size=some {cls:=.type "tuple",data:=.seq #[.int i s.toks,u]}:=(sb.2 _ (zbF Sq)).trans hT
  have I2:=I1.told (o:=.tup [.int i,x]) fr I.sz g1 g4 g5 ⟨(show (2:Nat)<=zcz by decide),[.int i s.toks,u],.cons ⟨_,rfl⟩ (.cons ru .nil),⟨_,Wt,rfl,_,rfl⟩⟩
  refine⟨.ref s.heap.objs.size,_,I2,rfl,⟨_,x,rfl,fr,rfl,fun ys hy=>by rw[I.AD hy hq];exact hx⟩,⟨⟨_,by exact_mod_cast UD⟩,Pk.at fun o q=>(sb.2 it (Ne.symm za)).trans q⟩,fun b hb=>?_⟩
  rw[aw ?_]
  ·exact(hf b hb).1
  ·rcases Zd.mp hb with rfl |hb
   ·exact zam Sq
   ·have z:b=it:=by simpa using hb
    subst z
    exact zam Sr
 done:=by
  intro X hP hw hK hc i pins s σ H E I hf st hg
  subst hP hw hK
  obtain⟨xs,hq,hx⟩:=hg
  obtain⟨⟨old,he⟩,hit⟩:=st
  obtain⟨bz,rv,p,hz⟩:=I.list hq
  have hl:=rv.length
  exact wpAny_pyNext_enum_end (I.ok.hd hc) he hit p.isList (by simp;lia) fun h' eb=>⟨rfl,I.xY (t':=s.toks) (fun b o hb q=>eb b o (fun z=>hb (by simp[z])) q) hf⟩
 self:=fun _ _ _ _ _ st h=>st.1.elim fun _ he=>wpAny_pyIter_enum he h
def ND (K:k0) (ta:TA):TI:=fun σ H R=>ta σ H fun vs H1=>∃a,vs=[.ref a]/\(∃xs,gS K H1 a xs)/\R (NC K a) H1
theorem Em{X:Cx}{elts:List Expr}{x1}{tp:Pos}{a:Expr}{ta:TA}{p pos:Pos}(hg:Gl X "enumerate")(hm:X.mg "enumerate"=none)(ha:PA X [a] ta)(hs:zcx [a] X.env=[(false,eval a X.env)]:=by rfl) :
 PI X (.Tuple elts x1 tp) (.Call (.Name "enumerate" p) [a] [] pos) (ND X.K ta):=by
 intro pins s σ H R I h
 refine Call_ (qx I hg hm PyProof.Rows.Boot.«enumerate» (za7 (fK (ha pos pins s σ H _ I h) fun us s1 zqz=>?_) hs rfl))
 obtain⟨vs,H1,I1,r1,q1⟩:=zqz
 obtain⟨l,e,⟨xs,hq⟩,q⟩:=q1
 subst e
 cases r1 with
 |cons r rr=>
  cases rr
  cases (show _=Value.ref l from r)
  obtain⟨bz,rv,p,hz⟩:=I1.list hq
  refine call_enumerate_list p.isList fun h' he hit hsz hk=>?_
  refine wpAny_pyIter_enum he ?_
  have fr:∀b,s1.heap.objs.size<=b->H1 b=none:=fun b hb=>I1.cS.fresh hb
  refine⟨s1.heap.objs.size+1,[s1.heap.objs.size+1,s1.heap.objs.size],_,_,H1,rfl,I1.kept (t':=s1.toks) hk,Fy l _ _ (Nat.succ_ne_self _),⟨⟨_,he⟩,hit⟩,fun b hb=>?_,q⟩
  have UE:s1.heap.objs.size<=b:=by
   rcases Zd.mp hb with rfl |hb
   ·exact Nat.le_succ _
   ·have z:b=s1.heap.objs.size:=by simpa using hb
    rw[z];exact Wr _
  exact I1.GY UE (fr b UE)
theorem AV{K:k0}{a:Addr}{xs:List V}{g:TG}{tb:TS}{D:Ends}{σ:St}{H:Hp}(Pv:Nat->St->Hp->Prop)(h0:Pv 0 σ H)(hl:∀i σ H,i<=xs.length->Pv i σ H->gS K H a xs)
 (hs:∀i x σ H p,xs[i]?=some x->Pv i σ H->H p=none->g (.ref p) σ (upd H p (.tup [.int i,x])) fun σ2 H2=>tb {D with nx:=Pv (i+1),ct:=Pv (i+1),bk:=D.nx} σ2 H2) (hd:∀σ H,Pv xs.length σ H->D.nx σ H) :
 ∃W:Nat->Nat->St->Hp->Prop,(∃m,W 0 m σ H)/\∀i m σ H,W i m σ H->
  ((NC K a).stop i H/\D.nx σ H)\/((NC K a).go i H/\∃N:St->Hp->Prop,(∀σ' H',N σ' H'->∃m',m'<m/\W (i+1) m' σ' H')/\∀x H',(NC K a).DH i H x H'->g x σ H' fun σ2 H2=>tb {D with nx:=N,ct:=N,bk:=D.nx} σ2 H2):=by
 refine⟨fun i m σ H=>m=xs.length-i/\i<=xs.length/\Pv i σ H,⟨xs.length,by simp,zaT _,h0⟩,?_⟩
 rintro i m σ H ⟨rfl,hi,p⟩
 have q:=hl i σ H hi p
 by_cases uJ:i<xs.length
 ·refine .inr ⟨⟨xs,xs[i],q,by simp[uJ]⟩,Pv (i+1),fun σ' H' p'=>⟨xs.length-(i+1),by lia,rfl,uJ,p'⟩,fun x H' y=>?_⟩
  obtain⟨pp,v,rfl,hn,rfl,y⟩:=y
  exact hs i v σ H pp (y xs q) p hn
 ·have e:i=xs.length:=by lia
  subst e
  exact .inl ⟨⟨xs,q,Wr _⟩,hd σ H p⟩
section
variable{prog:zcD}{w:World}{A:zcC}{E:Value->zcB->Prop}{s:zcB}
theorem AW{it l:Addr}{bz:Array Value}(za:l≠it):∀(n i:Nat) (s:zcB) (Q:List Value->zcB->Prop),s.heap.IsListIter it l i->s.heap.IsList l bz->i+n<=bz.size->
 (∀h',h'.IsListIter it l (i+n)->Heap.SameBut it s.heap h'->Q ((bz.toList.drop i).take n) {s with heap:=h' })->wpAny (model prog w) A (draw (.ref it) n) Q E s
 |0,i,s,Q,a,_,_,q=>by
  show wpAny _ _ (pure []) Q E s
  exact zcv (by simpa using q s.heap a (Heap.SameBut.refl ..))
 |n+1,i,s,Q,a,b,le,q=>by
  have lt:i<bz.size:=by lia
  show wpAny _ _ (pyNext (.ref it) >>= _) Q E s
  refine zcu (wpAny_pyNext_list_item a b (x:=bz[i]) (by simp[lt]) fun h1 a1 s1=>?_)
  have b1:h1.IsList l bz:=by
   obtain⟨o,ho,r⟩:=b
   exact⟨o,(s1.2 l za).trans ho,r⟩
  refine zcu (zcw (AW za n (i+1) _ _ a1 b1 (by lia) fun h2 a2 s2=>zcv ?_))
  have e:bz.toList.drop i=bz[i]::bz.toList.drop (i+1):=by simp[zbD,lt]
  have z:=q h2 (by rw[show i+(n+1)=i+1+n by lia];exact a2) (s1.trans s2)
  rw[e,List.take_succ_cons] at z
  exact z
theorem Cy{l:Addr}{bz:Array Value}{ts:List (Bool×(Value->Sem Unit))}{Q:Unit->zcB->Prop}(hh:A.handled=none)(b:s.heap.IsList l bz)(hn:ts.length=bz.size)(Nb:ts.findIdx? (·.1)=none)
 (h:∀h',Heap.ExtBut s.heap.objs.size s.heap h'->wpAny (model prog w) A (assignInOrder (ts.map (·.2)) bz.toList) Q E {s with heap:=h' }):wpAny (model prog w) A (unpack (.ref l) ts) Q E s:=by
 have lt:l≠s.heap.objs.size:=by obtain⟨o,ho,_⟩:=b;exact zam (Heap.lt_size ho)
 unfold unpack
 rw[hn,Nb]
 refine zcu (zcw ?_)
 unfold unpackItems
 refine zcu ?_
 unfold notIterableAtAll
 refine zcu (wpAny_specialOf b.typeIs slot_list_iter.lookup ?_)
 refine zcv ?_
 simp only[zai,if_false]
 refine zcu (zcw (wpAny_pyIter_list b ?_))
 have ju:∀ {h1 h2:Heap},Heap.ExtBut s.heap.objs.size h1 h2->h1.IsList l bz->h2.IsList l bz:=fun {h1 h2} e x=>by
  obtain⟨o,ho,r⟩:=x
  exact⟨o,e l o lt ho,r⟩
 have b0:(s.heap.push {cls:=.type "list_iterator",data:=.fields #[.ref l,.int 0 0]}).IsList l bz:=by
  obtain⟨o,ho,r⟩:=b
  exact⟨o,Heap.get?_push_of_some _ ho,r⟩
 refine zcu (zcw (AW lt bz.size 0 _ _ ⟨_,Heap.get?_push_size _ rfl,rfl,rfl⟩ b0 (by lia) fun h1 a1 s1=>?_))
 have all:List.take bz.size (List.drop 0 bz.toList)=bz.toList:=by
  rw[List.drop_zero];exact zbf (by simp)
 rw[all,if_neg (by simp)]
 have b1:h1.IsList l bz:=ju s1.extBut b0
 refine zcu (zcw (wpAny_pyNext_list_end hh a1 b1 (by simp) fun h2 e2=>?_))
 simp only[Option.isSome_none,zai,if_false]
 exact zcv (h h2 fun c o hc e=>e2 c o hc (s1.extBut c o hc (Heap.get?_push_of_some _ e)))
end
def Pl (K:k0) (n:Nat) (t:Le):TG:=fun v σ H Q=>∃a xs,v=.ref a/\gS K H a xs/\xs.length=n/\t xs σ H Q
theorem zb{X:Cx}{es:List Expr}{k}{pos:Pos}{t:Le}{n:Nat}(hc:X.calm=true)(h:RI X es t)
 (hn:(assignEach es X.env).length=n:=by rfl) (Nb:(assignEach es X.env).findIdx? (·.1)=none:=by rfl):PG X (.Tuple es k pos) (Pl X.K n t):=by
 intro pins s σ H v u Q I r hw
 obtain⟨a,xs,rfl,hq,hl,hw⟩:=hw
 cases r
 obtain⟨bz,rv,hp,_⟩:=I.list hq
 rw[assign_Tuple]
 refine zcu (wpAny_standAt (Cy (I.ok.hd hc) hp.isList (by simp[hn,<- hl,rv.length]) Nb fun h' hx=>?_))
 have I1:Inv X pins σ H {s with heap:=h' }:=I.kept (t':=s.toks) fun b o e=>hx b o (zam (Heap.lt_size e)) e
 exact h pins _ σ H xs _ Q I1 (by simpa using rv) hw
open PySem.SeqAt
theorem jY{X:Cx}(hu:X.A.units+1<cLine):qz X (compareOp .NotEq) (fun x y H Q=>∃a b xs,x=.ref a/\y=.ref b/\gS X.K H a xs/\gS X.K H b []/\Q (.bl (!xs.isEmpty)) H):=by
 intro pins s σ H x y v u Q I rx ry h
 obtain⟨a,b,xs,rfl,rfl,h1,h2,q⟩:=h
 cases (show v=Value.ref a from rx)
 cases (show u=Value.ref b from ry)
 obtain⟨bz,v1,p1,_⟩:=I.list h1
 obtain⟨its',v2,p2,_⟩:=I.list h2
 cases v2
 cases xs with
 |nil=>
  cases v1
  exact(RcNeAt.lists (e:=fun _=>true) p1.isList p2.isList rfl (by lia) (fun j h1=>absurd h1 (by simp))) _ _ _ _ ⟨.bl false,H,I,rfl,q⟩
 |cons z zs=>
  cases v1
  exact(RcNeAt.lists_lengths p1.isList p2.isList (by simp) (by lia)) _ _ _ _ ⟨.bl true,H,I,rfl,q⟩
noncomputable def cu (val:W->Int):PM.Tr->Int
 |.num n=>n
 |.box x=>val x
 |.bin o l r=>if o=[43] then cu val l+cu val r else if o=[45] then cu val l-cu val r else cu val l*cu val r
theorem gZ{K:k0}{tl:TE}{g:TG}{tb:TS}{D:Ends}{σ:St}{H:Hp} (h:∀U:Addr->Hp->Prop,(∀a H1,(∃W:Nat->Nat->St->Hp->Prop,(∃m,W 0 m σ H1)/\∀i m σ H,W i m σ H->
 ((Gx K a).stop i H/\D.nx σ H)\/((Gx K a).go i H/\∃N:St->Hp->Prop,(∀σ' H',N σ' H'->∃m',m'<m/\W (i+1) m' σ' H')/\∀x H',(Gx K a).DH i H x H'->g x σ H' fun σ2 H2=>tb {D with nx:=N,ct:=N,bk:=D.nx} σ2 H2))->U a H1)->
 tl σ H fun x H1=>∃a,x=.ref a/\(∃xs,gS K H1 a xs)/\U a H1):G2 (DI K tl) g tb D σ H:=h _ fun _ _ x=>x
theorem En{a:Option V}{r:St}{H:Hp}{Q:VK}:(gb 10 (a::r) H Q)=(gb 9 r H Q):=rfl
theorem Eo{a:Option V}{r:St}{H:Hp}{Q:VK}:(gb 11 (a::r) H Q)=(gb 10 r H Q):=rfl
theorem Ep{a:Option V}{r:St}{H:Hp}{Q:VK}:(gb 12 (a::r) H Q)=(gb 11 r H Q):=rfl
def Wu (z:Str):Prop:=PM.Wq z.cps.toList
theorem Wu.one{a:Str}(ha:Wu a){c:Nat}(hc:c∈a.cps.toList):Wu ⟨#[c]⟩:=fun x hx=>by
 have:x=c:=by simpa using hx
 rw[this]
 exact ha c hc
end L2
namespace PG
open PM (W Tr)
structure fW where
 name:W
 size:Int
 first:Int
inductive bH where
 |ask (k:Int) (b:W)
 |put (k:Int) (b:W) (e:Tr)
 |say (k:Int) (e:Tr)
 |c9 (k:Int) (sg:W) (l r:Tr)
 |stop (k:Int)
 |ifs (k:Int) (sg:W) (l r:Tr) (a b:List bH)
 |fj (k:Int) (sg:W) (l r:Tr) (a:List bH)
noncomputable def bH.row:bH->Int
 |.ask k _=>k |.put k _ _=>k |.say k _=>k |.c9 k _ _ _=>k |.stop k=>k |.ifs k _ _ _ _ _=>k |.fj k _ _ _ _=>k
inductive Wd where
 |ask |put |say |c9 |stop |ifs |fj |pU |fin
 deriving DecidableEq
noncomputable def bH.wd:bH->Wd
 |.ask _ _=>.ask |.put _ _ _=>.put |.say _ _=>.say |.c9 _ _ _ _=>.c9 |.stop _=>.stop |.ifs _ _ _ _ _ _=>.ifs |.fj _ _ _ _ _=>.fj
noncomputable def AX:Nat->Int->Int
 |0,c=>c
 |n+1,c=>AX n (c/1000003)
noncomputable def next (sc:List Int) (p:Nat):Int:=
 let many:=max 1 sc.length
 let cell:=if sc=[] then 0 else sc.getD (p%many) 0
 if cell ≥ 10 ^ 18 then AX (min 60 (p/many)) cell%1000003 else
  let a:=(cell%2147483629+51437*((p:Int)+1)*((p:Int)+3)+1409)%2147483629
  let b:=a*a%2147483587
  let c:=(b*69621+401*(p:Int)+7)%2147483579
  c*c%2147483563/16
noncomputable def pick {α:Type} (d:α) (l:List α) (n:Int):α:=l.getD n.toNat d
noncomputable def cH (sc:List Int) (bs:List fW):Nat->Nat->Tr×Nat
 |0,p=>
  let kind:=next sc p%7
  if bs≠[]/\kind<5 then (.box (pick ⟨[],0,0⟩ bs (next sc (p+1)%bs.length)).name,p+2) else (.num (next sc (p+1)%pick 1 [3,12,1000] (next sc (p+2)%3)),p+3)
 |d+1,p=>
  let kind:=next sc p%7
  if kind<3 then
   let one:=cH sc bs d (p+1)
   let two:=cH sc bs d one.2
   (.bin (pick [] [[43],[45],[42]] kind) one.1 two.1,two.2)
  else if bs≠[]/\kind<5 then (.box (pick ⟨[],0,0⟩ bs (next sc (p+1)%bs.length)).name,p+2) else (.num (next sc (p+1)%pick 1 [3,12,1000] (next sc (p+2)%3)),p+3)
noncomputable def da:List W:=[[99],[98,98],[97,97,97],[98,111,120,101,115]]
noncomputable def bL (sc:List Int) (kR:Int):Nat->Nat->Nat->List fW×Nat
 |0,_,p=>([],p)
 |n+1,k,p=>
  let size:=2+next sc p%3
  let r:=bL sc kR n (k+1) (p+2)
  (⟨pick [] da (((k:Int)-kR)%4),size,next sc (p+1)%size⟩::r.1,r.2)
noncomputable def zc:List W:=[[60],[61]]
noncomputable def bW (sc:List Int) (bs:List fW) (k:Int) (p:Nat):bH×Nat:=
 let kind:=next sc p%10
 if bs≠[]/\kind<3 then (.ask k (pick ⟨[],0,0⟩ bs (next sc (p+1)%bs.length)).name,p+2)
 else if bs≠[]/\kind<6 then
  let e:=cH sc bs 2 (p+2)
  (.put k (pick ⟨[],0,0⟩ bs (next sc (p+1)%bs.length)).name e.1,e.2)
 else if kind=6 then
  let l:=cH sc bs 1 (p+2)
  let r:=cH sc bs 1 l.2
  (.c9 k (pick [] zc (next sc (p+1)%2)) l.1 r.1,r.2)
 else if kind=7 then
  if next sc (p+1)%3=0 then (.stop k,p+2) else
   let e:=cH sc bs 2 (p+2)
   (.say k e.1,e.2)
 else
  let e:=cH sc bs 2 (p+1)
  (.say k e.1,e.2)
structure Frame where
 kind:Nat
 body:List bH
 k:Int:=0
 sg:W:=[]
 l:Tr:=.num 0
 r:Tr:=.num 0
 first:List bH:=[]
noncomputable def Frame.told (f:Frame):bH:=if f.kind=1 then .ifs f.k f.sg f.l f.r f.body [] else if f.kind=2 then .ifs f.k f.sg f.l f.r f.first f.body else .fj f.k f.sg f.l f.r f.body
noncomputable def close:List Frame->List Frame
 |f::g::r=>{g with body:=g.body++[f.told]}::r
 |fs=>fs
abbrev Row:=Int×Wd
noncomputable def number (n:Nat) (rows:List Row) (mode:Int):Int:=
 if mode=2 then n+1+20*rows.length else if mode=3 then n+1+(rows.filter fun r=>r.2≠.pU/\r.2≠.fin).length else n+1+rows.length
structure Walk where
 p:Nat
 aX:List Frame
 rows:List Row
noncomputable def turn (sc:List Int) (bs:List fW) (mode:Int) (w:Walk):Walk:=
 let k:=number bs.length w.rows mode
 let way:=next sc w.p%12
 if way<2/\w.aX.length>1 then ⟨w.p+1,close w.aX,w.rows++[(k,.fin)]⟩
 else match w.aX with
 |[]=>w
 |f::r=>
  if way=2/\f.kind=1 then ⟨w.p+1,{f with kind:=2,body:=[],first:=f.body}::r,w.rows++[(k,.pU)]⟩
  else if way<6/\w.aX.length<4 then
   let l:=cH sc bs 1 (w.p+2)
   let e:=cH sc bs 1 l.2
   let kd:=pick 1 [1,1,3] (way%3)
   ⟨e.2,{kind:=kd,body:=[],k:=k,sg:=pick [] zc (next sc (w.p+1)%2),l:=l.1,r:=e.1}::w.aX,w.rows++[(k,if kd=3 then .fj else .ifs)]⟩
  else
   let s:=bW sc bs k (w.p+1)
   ⟨s.2,{f with body:=f.body++[s.1]}::r,w.rows++[(k,s.1.wd)]⟩
noncomputable def turns (sc:List Int) (bs:List fW) (mode:Int):Nat->Walk->Walk
 |0,w=>w
 |n+1,w=>turns sc bs mode n (turn sc bs mode w)
noncomputable def ends (n:Nat) (mode:Int):Nat->Walk->Walk
 |0,w=>w
 |m+1,w=>if w.aX.length>1 then ends n mode m ⟨w.p,close w.aX,w.rows++[(number n w.rows mode,.fin)]⟩ else w
structure Prog where
 aK:List fW
 body:List bH
noncomputable def ck (sc:List Int) (many:Nat) (p:Nat):Prog×List Row:=
 let bs:=bL sc (next sc p%4) (next sc (p+1)%4).toNat 0 (p+2)
 let w:=ends bs.1.length (next sc bs.2%4) 4 (turns sc bs.1 (next sc bs.2%4) many ⟨bs.2+1,[{kind:=0,body:=[]}],[]⟩)
 (⟨bs.1,(w.aX.head?.map (·.body)).getD []⟩,w.rows)
end PG
namespace PG
open PM (W Tr)
mutual
noncomputable def g7:bH->List Row
 |.ifs k _ _ _ a b=>(k,.ifs)::(cK a++cK b)
 |.fj k _ _ _ a=>(k,.fj)::cK a
 |.ask k _=>[(k,.ask)]
 |.put k _ _=>[(k,.put)]
 |.say k _=>[(k,.say)]
 |.c9 k _ _ _=>[(k,.c9)]
 |.stop k=>[(k,.stop)]
noncomputable def cK:List bH->List Row
 |[]=>[]
 |s::r=>g7 s++cK r
end
theorem sY:∀a b:List bH,cK (a++b)=cK a++cK b
 |[],b=>by simp[cK]
 |s::r,b=>by
  show cK (s::(r++b))=_
  rw[cK,cK,sY r b,zaH]
noncomputable def Frame.flat (f:Frame):List Row:=(if f.kind=0 then [] else [(f.k,if f.kind=3 then Wd.fj else .ifs)])++(if f.kind=2 then cK f.first else [])++cK f.body
noncomputable def dh:List Frame->List Row
 |[]=>[]
 |f::r=>dh r++f.flat
noncomputable def plainRow (r:Row):Bool:=decide (r.2≠.pU/\r.2≠.fin)
def nY:List Frame->Prop
 |[]=>False
 |[f]=>f.kind=0
 |f::g::r=>(f.kind=1\/f.kind=2\/f.kind=3)/\nY (g::r)
theorem Fz{f:Frame}(h:f.kind=1\/f.kind=2\/f.kind=3):g7 f.told=f.flat:=by
 rcases h with h |h |h<;>simp[Frame.told,Frame.flat,h,g7,cK]
theorem mx:∀ {l:List Frame},nY l->dh (close l)=dh l
 |[],h=>h.elim
 |[f],_=>rfl
 |f::g::r,h=>by
  have e:=Fz h.1
  show dh r++Frame.flat _=dh r++g.flat++f.flat
  simp only[Frame.flat,sY,cK,e,zab]
  simp[Frame.flat]
theorem nZ:∀ {l:List Frame},nY l->nY (close l)/\(close l).length=max 1 (l.length-1)
 |[],h=>h.elim
 |[f],h=>⟨h,rfl⟩
 |[f,g],h=>⟨h.2,rfl⟩
 |f::g::x::r,h=>⟨⟨h.2.1,h.2.2⟩,by simp[close]⟩
theorem Ib(sc:List Int)(bs:List fW)(k:Int)(p:Nat):g7 (bW sc bs k p).1=[(k,(bW sc bs k p).1.wd)]/\(bW sc bs k p).1.wd≠.pU/\(bW sc bs k p).1.wd≠.fin:=by
 unfold bW
 simp only
 split
 ·simp[g7,bH.wd]
 ·split
  ·simp[g7,bH.wd]
  ·split
   ·simp[g7,bH.wd]
   ·split
    ·split<;>simp[g7,bH.wd]
    ·simp[g7,bH.wd]
structure dJ(w:Walk):Prop where
 aX:nY w.aX
 flat:dh w.aX=w.rows.filter plainRow
 most:w.aX.length<=4
theorem rD(sc:List Int)(bs:List fW)(mode:Int){w:Walk}(h:dJ w):dJ (turn sc bs mode w):=by
 obtain⟨p,aX,rows⟩:=w
 obtain⟨h1,h2,h3⟩:=h
 simp only at h1 h2 h3
 unfold turn
 simp only
 split
 ·obtain⟨a,b⟩:=nZ h1
  refine⟨a,?_,?_⟩
  ·show dh (close aX)=_
   rw[mx h1,h2,zaI]
   simp[plainRow]
  ·show (close aX).length<=4
   lia
 ·cases aX with
  |nil=>exact h1.elim
  |cons f r=>
   simp only
   split
   ·rename_i hc
    obtain⟨_,hk⟩:=hc
    refine⟨?_,?_,h3⟩
    ·cases r with
     |nil=>rw[nY] at h1;lia
     |cons g r=>exact⟨.inr (.inl rfl),h1.2⟩
    ·show dh r++_=_
     rw[zaI,<- h2]
     simp[dh,Frame.flat,plainRow,cK,hk]
   ·split
    ·rename_i hc
     have kk:∀n:Int,pick 1 [1,1,3] n=1\/pick 1 [1,1,3] n=3:=fun n=>by
      unfold pick
      rcases n.toNat with _ |_ |_ |m<;>simp
     have Ss:=kk (next sc p%12%3)
     generalize pick 1 [1,1,3] (next sc p%12%3)=kd at Ss ⊢
     refine⟨⟨?_,h1⟩,?_,?_⟩
     ·simp only;lia
     ·show dh (f::r)++_=_
      rw[zaI,h2]
      rcases Ss with rfl |rfl<;>simp[Frame.flat,plainRow,cK]
     ·simp only[V0] at hc ⊢
      lia
    ·obtain⟨a,b,c⟩:=Ib sc bs (number bs.length rows mode) (p+1)
     refine⟨?_,?_,h3⟩
     ·cases r with
      |nil=>exact h1
      |cons g r=>exact⟨h1.1,h1.2⟩
     ·show dh r++_=_
      rw[zaI,<- h2]
      simp[dh,Frame.flat,sY,cK,a,plainRow,b,c]
theorem rE(sc:List Int)(bs:List fW)(mode:Int):∀(n:Nat) {w:Walk},dJ w->dJ (turns sc bs mode n w)
 |0,_,h=>h
 |n+1,_,h=>rE sc bs mode n (rD sc bs mode h)
theorem zd(n:Nat)(mode:Int):∀(m:Nat) {w:Walk},dJ w->w.aX.length<=m+1->dJ (ends n mode m w)/\(ends n mode m w).aX.length=1
 |0,w,h,hl=>by
  have:w.aX≠[]:=fun e=>by have:=h.aX;rw[e] at this;exact this
  have:0<w.aX.length:=zaY.mpr this
  exact⟨h,by show w.aX.length=1;lia⟩
 |m+1,w,h,hl=>by
  unfold ends
  split
  ·obtain⟨a,b⟩:=nZ h.aX
   refine zd n mode m ⟨a,?_,?_⟩ ?_
   ·show dh (close w.aX)=_
    rw[mx h.aX,h.flat,zaI]
    simp[plainRow]
   ·show (close w.aX).length<=4
    have:=h.most
    lia
   ·show (close w.aX).length<=_
    lia
  ·have:w.aX≠[]:=fun e=>by have:=h.aX;rw[e] at this;exact this
   have:0<w.aX.length:=zaY.mpr this
   exact⟨h,by lia⟩
theorem xZ(sc:List Int)(many p:Nat):cK (ck sc many p).1.body=(ck sc many p).2.filter plainRow:=by
 unfold ck
 simp only
 generalize bL sc (next sc p%4) (next sc (p+1)%4).toNat 0 (p+2)=bs
 have h0:dJ ⟨bs.2+1,[{kind:=0,body:=[]}],[]⟩:=⟨rfl,rfl,by simp⟩
 have h1:=rE sc bs.1 (next sc bs.2%4) many h0
 obtain⟨h2,h3⟩:=zd bs.1.length (next sc bs.2%4) 4 h1 (by have:=h1.most;lia)
 generalize ends bs.1.length (next sc bs.2%4) 4 (turns sc bs.1 (next sc bs.2%4) many ⟨bs.2+1,[{kind:=0,body:=[]}],[]⟩)=w at h2 h3
 obtain⟨pp,aX,rows⟩:=w
 obtain⟨f,rfl⟩:∃f,aX=[f]:=zbX.mp h3
 have hk:f.kind=0:=h2.aX
 have:=h2.flat
 simp[dh,Frame.flat,hk] at this
 simpa using this
end PG
namespace PG
open PM (W Tr)
abbrev fk:=Int×Wd×List Int
noncomputable def bt:List bH->Int->Int
 |[],x=>x
 |s::_,_=>s.row
mutual
noncomputable def dM:bH->Int->List fk
 |.ifs k _ _ _ a b,x=>(k,.ifs,[bt a x,bt b x])::(aS a x++aS b x)
 |.fj k _ _ _ a,x=>(k,.fj,[bt a k,x])::aS a k
 |.ask k _,x=>[(k,.ask,[x])]
 |.put k _ _,x=>[(k,.put,[x])]
 |.say k _,x=>[(k,.say,[x])]
 |.c9 k _ _ _,x=>[(k,.c9,[x])]
 |.stop k,_=>[(k,.stop,[0])]
noncomputable def aS:List bH->Int->List fk
 |[],_=>[]
 |s::r,x=>dM s (bt r x)++aS r x
end
mutual
theorem FA:∀(s:bH) (x:Int),(dM s x).map (fun r=>(r.1,r.2.1))=g7 s
 |.ifs k _ _ _ a b,x=>by simp[dM,g7,eU a x,eU b x]
 |.fj k _ _ _ a,x=>by simp[dM,g7,eU a k]
 |.ask k _,x=>rfl
 |.put k _ _,x=>rfl
 |.say k _,x=>rfl
 |.c9 k _ _ _,x=>rfl
 |.stop k,_=>rfl
theorem eU:∀(b:List bH) (x:Int),(aS b x).map (fun r=>(r.1,r.2.1))=cK b
 |[],_=>rfl
 |s::r,x=>by simp[aS,cK,FA s _,eU r x]
end
inductive Tg where
 |row (k:Int) |side (k:Int) (b:Bool) |c9 (k:Int) |fin
 deriving DecidableEq
theorem jx(sc:List Int)(bs:List fW):∀(d p:Nat),p<=(cH sc bs d p).2/\(cH sc bs d p).2+1<=p+4*2 ^ d
 |0,p=>by
  unfold cH
  simp only
  split<;>simp only<;>lia
 |d+1,p=>by
  have e:(2:Nat) ^ (d+1)=2*2 ^ d:=by rw[zck];lia
  have one:1<=2 ^ d:=zbG
  unfold cH
  simp only
  rw[e]
  split
  ·obtain⟨a1,a2⟩:=jx sc bs d (p+1)
   obtain⟨b1,b2⟩:=jx sc bs d (cH sc bs d (p+1)).2
   simp only
   lia
  ·split<;>simp only<;>lia
theorem Cz(sc:List Int)(bs:List fW)(k:Int)(p:Nat):p<=(bW sc bs k p).2/\(bW sc bs k p).2<=p+18:=by
 have e1:=fun q=>jx sc bs 1 q
 have e2:=fun q=>jx sc bs 2 q
 unfold bW
 simp only
 split
 ·simp only;lia
 ·split
  ·have:=e2 (p+2);simp only;lia
  ·split
   ·have h1:=e1 (p+2)
    have h2:=e1 (cH sc bs 1 (p+2)).2
    simp only;lia
   ·split
    ·split
     ·simp only;lia
     ·have:=e2 (p+2);simp only;lia
    ·have:=e2 (p+1);simp only;lia
theorem Pm(sc:List Int)(bs:List fW)(mode:Int)(w:Walk):w.p<=(turn sc bs mode w).p/\(turn sc bs mode w).p<=w.p+20:=by
 have e1:=fun q=>jx sc bs 1 q
 have e2:=fun k q=>Cz sc bs k q
 obtain⟨p,aX,rows⟩:=w
 unfold turn
 simp only
 split
 ·simp only;lia
 ·cases aX with
  |nil=>simp only;lia
  |cons f r=>
   simp only
   split
   ·simp only;lia
   ·split
    ·have h1:=e1 (p+2)
     have h2:=e1 (cH sc bs 1 (p+2)).2
     simp only;lia
    ·have:=e2 (number bs.length rows mode) (p+1)
     simp only;lia
theorem jy(sc:List Int)(p:Nat):0<=next sc p/\next sc p<2 ^ 28:=by
 unfold next
 simp only
 split
 ·have a:=zaA (AX (min 60 (p/max 1 sc.length)) (if sc=[] then 0 else sc.getD (p%max 1 sc.length) 0)) (show (1000003:Int)≠0 by decide)
  have b:=zaw (AX (min 60 (p/max 1 sc.length)) (if sc=[] then 0 else sc.getD (p%max 1 sc.length) 0)) (show (0:Int)<1000003 by decide)
  lia
 ·generalize (((((if sc=[] then 0 else sc.getD (p%max 1 sc.length) 0)%2147483629+51437*((p:Int)+1)*((p:Int)+3)+1409)%2147483629)*(((if sc=[] then 0 else sc.getD (p%max 1 sc.length) 0)%2147483629+51437*((p:Int)+1)*((p:Int)+3)+1409)%2147483629)%2147483587*69621+401*(p:Int)+7)%2147483579)=c
  have a:=zaA (c*c) (show (2147483563:Int)≠0 by decide)
  have b:=zaw (c*c) (show (0:Int)<2147483563 by decide)
  lia
theorem oa(sc:List Int)(bs:List fW)(k:Int)(p:Nat):PG.bW sc bs k p =
 if bs≠[]/\next sc p%10<3 then (.ask k (pick ⟨[],0,0⟩ bs (next sc (p+1)%bs.length)).name,p+2)
 else if bs≠[]/\next sc p%10<6 then (.put k (pick ⟨[],0,0⟩ bs (next sc (p+1)%bs.length)).name (cH sc bs 2 (p+2)).1,(cH sc bs 2 (p+2)).2)
 else if next sc p%10=6 then (.c9 k (pick [] zc (next sc (p+1)%2)) (cH sc bs 1 (p+2)).1 (cH sc bs 1 (cH sc bs 1 (p+2)).2).1,(cH sc bs 1 (cH sc bs 1 (p+2)).2).2)
 else if next sc p%10=7 then (if next sc (p+1)%3=0 then (.stop k,p+2) else (.say k (cH sc bs 2 (p+2)).1,(cH sc bs 2 (p+2)).2))
 else (.say k (cH sc bs 2 (p+1)).1,(cH sc bs 2 (p+1)).2):=rfl
end PG
namespace PG
open PM (W Tr)
mutual
def eP:bH->List Row->Prop
 |.ifs k _ _ _ a b,rs=>(∃ra n,cL a ra/\b=[]/\rs=(k,.ifs)::(ra++[(n,.fin)]))\/(∃ra rb n m,cL a ra/\cL b rb/\rs=(k,.ifs)::(ra++(n,.pU)::(rb++[(m,.fin)])))
 |.fj k _ _ _ a,rs=>∃ra n,cL a ra/\rs=(k,.fj)::(ra++[(n,.fin)])
 |.ask k _,rs=>rs=[(k,.ask)]
 |.put k _ _,rs=>rs=[(k,.put)]
 |.say k _,rs=>rs=[(k,.say)]
 |.c9 k _ _ _,rs=>rs=[(k,.c9)]
 |.stop k,rs=>rs=[(k,.stop)]
def cL:List bH->List Row->Prop
 |[],rs=>rs=[]
 |s::r,rs=>∃r1 r2,eP s r1/\cL r r2/\rs=r1++r2
end
theorem cL.app:∀ {a b:List bH} {ra rb:List Row},cL a ra->cL b rb->cL (a++b) (ra++rb)
 |[],b,ra,rb,h,h'=>by
  rw[cL] at h
  subst h
  exact h'
 |s::r,b,ra,rb,h,h'=>by
  rw[cL] at h
  obtain⟨r1,r2,h1,h2,rfl⟩:=h
  rw[zav,cL]
  exact⟨r1,r2++rb,h1,cL.app h2 h',by rw[zaH]⟩
theorem cL.one{s:bH}{rs:List Row}(h:eP s rs):cL [s] rs:=by
 rw[cL]
 exact⟨rs,[],h,by rw[cL],by simp⟩
theorem cL.nil:cL [] []:=by rw[cL]
def lF (f:Frame) (rs:List Row):Prop:=
 (f.kind=0/\cL f.body rs)\/(f.kind=1/\∃rb,cL f.body rb/\rs=(f.k,.ifs)::rb)\/
 (f.kind=2/\∃rf rb n,cL f.first rf/\cL f.body rb/\rs=(f.k,.ifs)::(rf++(n,.pU)::rb))\/(f.kind=3/\∃rb,cL f.body rb/\rs=(f.k,.fj)::rb)
def bU:List Frame->List Row->Prop
 |[],rs=>rs=[]
 |f::r,rs=>∃r1 r2,bU r r1/\lF f r2/\rs=r1++r2
theorem FC{f:Frame}{rs:List Row}(hk:f.kind=1\/f.kind=2\/f.kind=3)(h:lF f rs)(n:Int):eP f.told (rs++[(n,.fin)]):=by
 rcases h with ⟨h0,_⟩ |⟨h1,rb,t,rfl⟩ |⟨h2,rf,rb,m,t1,t2,rfl⟩ |⟨h3,rb,t,rfl⟩
 ·lia
 ·unfold Frame.told
  rw[if_pos h1,eP]
  exact .inl ⟨rb,n,t,rfl,rfl⟩
 ·unfold Frame.told
  rw[if_neg (by lia),if_pos h2,eP]
  exact .inr ⟨rf,rb,m,n,t1,t2,by simp⟩
 ·unfold Frame.told
  rw[if_neg (by lia),if_neg (by lia),eP]
  exact⟨rb,n,t,rfl⟩
theorem lF.more{f:Frame}{rs t:List Row}{b:List bH}(h:lF f rs)(ht:cL b t):lF {f with body:=f.body++b} (rs++t):=by
 rcases h with ⟨h0,x⟩ |⟨h1,rb,x,rfl⟩ |⟨h2,rf,rb,m,t1,x,rfl⟩ |⟨h3,rb,x,rfl⟩
 ·exact .inl ⟨h0,x.app ht⟩
 ·exact .inr (.inl ⟨h1,rb++t,x.app ht,rfl⟩)
 ·exact .inr (.inr (.inl ⟨h2,rf,rb++t,m,t1,x.app ht,by simp⟩))
 ·exact .inr (.inr (.inr ⟨h3,rb++t,x.app ht,rfl⟩))
theorem vK{l:List Frame}{rs:List Row}(hp:nY l)(hl:1<l.length)(h:bU l rs)(n:Int):bU (close l) (rs++[(n,.fin)]):=by
 match l,hp,hl,h with
 |f::g::r,hp,_,h=>
  rw[bU] at h
  obtain⟨r1,r2,h1,h2,rfl⟩:=h
  rw[bU] at h1
  obtain⟨r3,r4,h3,h4,rfl⟩:=h1
  show bU ({g with body:=g.body++[f.told]}::r) _
  rw[bU]
  exact⟨r3,r4++(r2++[(n,.fin)]),h3,h4.more (.one (FC hp.1 h2 n)),by simp⟩
theorem plain_text(sc:List Int)(bs:List fW)(k:Int)(p:Nat):eP (bW sc bs k p).1 [(k,(bW sc bs k p).1.wd)]:=by
 unfold bW
 simp only
 split
 ·simp[eP,bH.wd]
 ·split
  ·simp[eP,bH.wd]
  ·split
   ·simp[eP,bH.wd]
   ·split
    ·split<;>simp[eP,bH.wd]
    ·simp[eP,bH.wd]
theorem FD(sc:List Int)(bs:List fW)(mode:Int){w:Walk}(ok:dJ w)(h:bU w.aX w.rows):bU (turn sc bs mode w).aX (turn sc bs mode w).rows:=by
 obtain⟨p,aX,rows⟩:=w
 have h1:=ok.aX
 simp only at h h1
 unfold turn
 simp only
 split
 ·rename_i hc
  exact vK h1 hc.2 h _
 ·cases aX with
  |nil=>exact h1.elim
  |cons f r=>
   simp only
   split
   ·rename_i hc
    rw[bU] at h
    obtain⟨r1,r2,x1,x2,rfl⟩:=h
    show bU ({f with kind:=2,body:=[],first:=f.body}::r) _
    rw[bU]
    rcases x2 with ⟨z,_⟩ |⟨_,rb,t,rfl⟩ |⟨z,_⟩ |⟨z,_⟩
    ·lia
    ·exact⟨r1,_,x1,.inr (.inr (.inl ⟨rfl,rb,[],number bs.length (r1++(f.k,.ifs)::rb) mode,t,.nil,rfl⟩)),by simp⟩
    ·lia
    ·lia
   ·split
    ·have kk:∀n:Int,pick 1 [1,1,3] n=1\/pick 1 [1,1,3] n=3:=fun n=>by
      unfold pick
      rcases n.toNat with _ |_ |_ |m<;>simp
     have Ss:=kk (next sc p%12%3)
     generalize pick 1 [1,1,3] (next sc p%12%3)=kd at Ss ⊢
     show bU ({kind:=kd,body:=[],k:=number bs.length rows mode,sg:=_,l:=_,r:=_}::f::r) _
     rw[bU]
     rcases Ss with rfl |rfl
     ·exact⟨rows,_,h,.inr (.inl ⟨rfl,[],.nil,rfl⟩),rfl⟩
     ·exact⟨rows,_,h,.inr (.inr (.inr ⟨rfl,[],.nil,rfl⟩)),rfl⟩
    ·rw[bU] at h
     obtain⟨r1,r2,x1,x2,rfl⟩:=h
     show bU ({f with body:=f.body++[_]}::r) _
     rw[bU]
     exact⟨r1,_,x1,x2.more (.one (plain_text sc bs _ (p+1))),by simp⟩
theorem vL(sc:List Int)(bs:List fW)(mode:Int):∀(n:Nat) {w:Walk},dJ w->bU w.aX w.rows->bU (turns sc bs mode n w).aX (turns sc bs mode n w).rows
 |0,_,_,h=>h
 |n+1,_,ok,h=>vL sc bs mode n (rD sc bs mode ok) (FD sc bs mode ok h)
theorem x5(n:Nat)(mode:Int):∀(m:Nat) {w:Walk},dJ w->bU w.aX w.rows->bU (ends n mode m w).aX (ends n mode m w).rows
 |0,_,_,h=>h
 |m+1,w,ok,h=>by
  unfold ends
  split
  ·rename_i hl
   obtain⟨a,b⟩:=nZ ok.aX
   refine x5 n mode m ⟨a,?_,?_⟩ (vK ok.aX hl h _)
   ·show dh (close w.aX)=_
    rw[mx ok.aX,ok.flat,zaI]
    simp[plainRow]
   ·show (close w.aX).length<=4
    have:=ok.most
    lia
  ·exact h
theorem FE(sc:List Int)(many p:Nat):cL (ck sc many p).1.body (ck sc many p).2:=by
 unfold ck
 simp only
 generalize bL sc (next sc p%4) (next sc (p+1)%4).toNat 0 (p+2)=bs
 have h0:dJ ⟨bs.2+1,[{kind:=0,body:=[]}],[]⟩:=⟨rfl,rfl,by simp⟩
 have t0:bU [{kind:=0,body:=[]}] []:=by
  rw[bU]
  exact⟨[],[],by rw[bU],.inl ⟨rfl,.nil⟩,rfl⟩
 have h1:=rE sc bs.1 (next sc bs.2%4) many h0
 have t1:=vL sc bs.1 (next sc bs.2%4) many h0 t0
 obtain⟨h2,h3⟩:=zd bs.1.length (next sc bs.2%4) 4 h1 (by have:=h1.most;lia)
 have t2:=x5 bs.1.length (next sc bs.2%4) 4 h1 t1
 generalize ends bs.1.length (next sc bs.2%4) 4 (turns sc bs.1 (next sc bs.2%4) many ⟨bs.2+1,[{kind:=0,body:=[]}],[]⟩)=w at h2 h3 t2
 obtain⟨pp,aX,rows⟩:=w
 obtain⟨f,rfl⟩:∃f,aX=[f]:=zbX.mp h3
 have hk:f.kind=0:=h2.aX
 simp only at t2
 rw[bU] at t2
 obtain⟨r1,r2,x1,x2,rfl⟩:=t2
 rw[bU] at x1
 subst x1
 rcases x2 with ⟨_,t⟩ |⟨z,_⟩ |⟨z,_⟩ |⟨z,_⟩
 ·simpa using t
 ·lia
 ·lia
 ·lia
def og (n:Nat) (w:Walk):Prop:=(∀f∈w.aX,f.body.length<=n)/\w.rows.length<=n
theorem AY(sc:List Int)(bs:List fW)(mode:Int){n:Nat}{w:Walk}(h:og n w):og (n+1) (turn sc bs mode w):=by
 obtain⟨p,aX,rows⟩:=w
 obtain⟨h1,h2⟩:=h
 simp only at h1 h2
 have up:∀f∈aX,f.body.length<=n+1:=fun f hf=>zbw (h1 f hf)
 have cl:∀l:List Frame,(∀f∈l,f.body.length<=n)->∀f∈close l,f.body.length<=n+1:=by
  intro l hl f hf
  match l,hl,hf with
  |[],_,hf=>cases hf
  |[x],hl,hf=>exact zbw (hl f hf)
  |x::y::r,hl,hf=>
   rcases Zd.mp hf with rfl |hf
   ·simp
    have:=hl y (by simp)
    lia
   ·exact zbw (hl f (by simp[hf]))
 unfold turn
 simp only
 split
 ·exact⟨cl aX h1,by simp;lia⟩
 ·cases aX with
  |nil=>exact⟨up,by simp only;lia⟩
  |cons f r=>
   simp only
   split
   ·refine⟨fun x hx=>?_,by simp;lia⟩
    rcases Zd.mp hx with rfl |hx
    ·simp
    ·exact up x (by simp[hx])
   ·split
    ·refine⟨fun x hx=>?_,by simp;lia⟩
     rcases Zd.mp hx with rfl |hx
     ·simp
     ·exact up x hx
    ·refine⟨fun x hx=>?_,by simp;lia⟩
     rcases Zd.mp hx with rfl |hx
     ·have:=h1 f (by simp)
      simp
      lia
     ·exact up x (by simp[hx])
theorem vM(sc:List Int)(bs:List fW)(mode:Int):∀(n:Nat) (w:Walk),turns sc bs mode (n+1) w=turn sc bs mode (turns sc bs mode n w)
 |0,_=>rfl
 |n+1,w=>vM sc bs mode n (turn sc bs mode w)
theorem ze(sc:List Int)(bs:List fW)(mode:Int)(p:Nat)(f:Frame)(r:List Frame)(rows:List Row):turn sc bs mode ⟨p,f::r,rows⟩ =
 if next sc p%12<2/\(f::r).length>1 then ⟨p+1,close (f::r),rows++[(number bs.length rows mode,.fin)]⟩
 else if next sc p%12=2/\f.kind=1 then ⟨p+1,{f with kind:=2,body:=[],first:=f.body}::r,rows++[(number bs.length rows mode,.pU)]⟩
 else if next sc p%12<6/\(f::r).length<4 then
  ⟨(cH sc bs 1 (cH sc bs 1 (p+2)).2).2,{kind:=pick 1 [1,1,3] (next sc p%12%3),body:=[],k:=number bs.length rows mode,sg:=pick [] zc (next sc (p+1)%2),l:=(cH sc bs 1 (p+2)).1,r:=(cH sc bs 1 (cH sc bs 1 (p+2)).2).1}::f::r,rows++[(number bs.length rows mode,if pick 1 [1,1,3] (next sc p%12%3)=3 then .fj else .ifs)]⟩
 else ⟨(bW sc bs (number bs.length rows mode) (p+1)).2,{f with body:=f.body++[(bW sc bs (number bs.length rows mode) (p+1)).1]}::r,rows++[(number bs.length rows mode,(bW sc bs (number bs.length rows mode) (p+1)).1.wd)]⟩:=rfl
theorem jL(sc:List Int)(kR:Int):∀(n k p:Nat),(bL sc kR n k p).1.length=n/\(bL sc kR n k p).2=p+2*n
 |0,_,p=>⟨rfl,rfl⟩
 |n+1,k,p=>by
  obtain⟨a,b⟩:=jL sc kR n (k+1) (p+2)
  unfold bL
  simp only[V0]
  exact⟨by rw[a],by rw[b];lia⟩
theorem vN{w:Walk}(ok:dJ w)(k:Int):dJ ⟨w.p,close w.aX,w.rows++[(k,.fin)]⟩:=by
 obtain⟨a,b⟩:=nZ ok.aX
 refine⟨a,?_,?_⟩
 ·show dh (close w.aX)=_
  rw[mx ok.aX,ok.flat,zaI]
  simp[plainRow]
 ·show (close w.aX).length<=4
  have:=ok.most
  lia
theorem x6{n:Nat}{w:Walk}(h:og n w)(k:Int):og (n+1) ⟨w.p,close w.aX,w.rows++[(k,.fin)]⟩:=by
 obtain⟨h1,h2⟩:=h
 refine⟨?_,by simp;lia⟩
 intro f hf
 obtain⟨p,aX,rows⟩:=w
 simp only at h1 hf
 match aX,h1,hf with
 |[],_,hf=>cases hf
 |[x],hl,hf=>exact zbw (hl f hf)
 |x::y::r,hl,hf=>
  rcases Zd.mp hf with rfl |hf
  ·have:=hl y (by simp)
   simp
   lia
  ·exact zbw (hl f (by simp[hf]))
mutual
noncomputable def kx:bH->Nat
 |.ifs _ _ _ _ a b=>max (fX a) (fX b)+1
 |.fj _ _ _ _ a=>fX a+1
 |_=>0
noncomputable def fX:List bH->Nat
 |[]=>0
 |s::r=>max (kx s) (fX r)
end
theorem vO:∀a b:List bH,fX (a++b)=max (fX a) (fX b)
 |[],b=>by simp[fX]
 |s::r,b=>by
  show fX (s::(r++b))=_
  rw[fX,fX,vO r b,Nat.max_assoc]
theorem AZ(s:bH):fX [s]=kx s:=by rw[fX,fX];simp
def pZ:List Frame->Prop
 |[]=>True
 |f::r=>fX f.body+r.length<=3/\(f.kind=2->fX f.first+r.length<=3)/\pZ r
theorem Ic{f:Frame}{n:Nat}(h1:fX f.body+n<=3)(h2:f.kind=2->fX f.first+n<=3):kx f.told+n<=4:=by
 unfold Frame.told
 split
 ·rw[kx,fX];simp;lia
 ·split
  ·rename_i h
   rw[kx]
   have:=h2 h
   lia
  ·rw[kx];lia
theorem x8:∀ {l:List Frame},pZ l->pZ (close l)
 |[],h=>h
 |[f],h=>h
 |f::g::r,h=>by
  obtain⟨h1,h2,h3,h4,h5⟩:=h
  have:=Ic h1 h2
  refine⟨?_,h4,h5⟩
  rw[vO,AZ]
  simp only[V0] at this ⊢
  lia
theorem FF(sc:List Int)(bs:List fW)(k:Int)(p:Nat):kx (bW sc bs k p).1=0:=by
 rw[oa]
 split
 ·simp[kx]
 ·split
  ·simp[kx]
  ·split
   ·simp[kx]
   ·split
    ·split<;>simp[kx]
    ·simp[kx]
theorem Ie(sc:List Int)(bs:List fW)(mode:Int){w:Walk}(ok:dJ w)(h:pZ w.aX):pZ (turn sc bs mode w).aX:=by
 obtain⟨p,aX,rows⟩:=w
 simp only at h
 cases aX with
 |nil=>exact ok.aX.elim
 |cons f r=>
  rw[ze]
  split
  ·exact x8 h
  ·obtain⟨h1,h2,h3⟩:=h
   split
   ·exact⟨by rw[fX];lia,fun _=>h1,h3⟩
   ·split
    ·rename_i hc
     refine⟨?_,fun z=>?_,h1,h2,h3⟩
     ·rw[fX]
      have:=hc.2
      simp only[V0] at this ⊢
      lia
     ·rw[fX]
      have:=hc.2
      simp only[V0] at this ⊢
      lia
    ·refine⟨?_,h2,h3⟩
     rw[vO,AZ,FF]
     lia
theorem x9(sc:List Int)(bs:List fW)(mode:Int):∀(n:Nat) {w:Walk},dJ w->pZ w.aX->pZ (turns sc bs mode n w).aX
 |0,_,_,h=>h
 |n+1,_,ok,h=>x9 sc bs mode n (rD sc bs mode ok) (Ie sc bs mode ok h)
theorem A0(n:Nat)(mode:Int):∀(m:Nat) {w:Walk},pZ w.aX->pZ (ends n mode m w).aX
 |0,_,h=>h
 |m+1,w,h=>by
  unfold ends
  split
  ·exact A0 n mode m (x8 h)
  ·exact h
theorem A1(sc:List Int)(many p:Nat):fX (ck sc many p).1.body<=3:=by
 unfold ck
 simp only
 generalize bL sc (next sc p%4) (next sc (p+1)%4).toNat 0 (p+2)=bs
 have h0:dJ ⟨bs.2+1,[{kind:=0,body:=[]}],[]⟩:=⟨rfl,rfl,by simp⟩
 have d0:pZ [{kind:=0,body:=[]}]:=⟨by simp[fX],(fun z=>absurd z (show ¬(0=2) by decide)),trivial⟩
 have d2:=A0 bs.1.length (next sc bs.2%4) 4 (x9 sc bs.1 (next sc bs.2%4) many h0 d0)
 generalize ends bs.1.length (next sc bs.2%4) 4 (turns sc bs.1 (next sc bs.2%4) many ⟨bs.2+1,[{kind:=0,body:=[]}],[]⟩)=w at d2
 obtain⟨pp,aX,rows⟩:=w
 cases aX with
 |nil=>simp[fX]
 |cons f r=>
  have:=d2.1
  simp
  lia
end PG
namespace PG
open PM (W Tr)
section
variable(nm:W->Prop)(ex:Tr->Prop)(sg:W->Prop)
mutual
def qS:bH->Prop
 |.ask _ b=>nm b
 |.put _ b e=>nm b/\ex e
 |.say _ e=>ex e
 |.c9 _ s l r=>sg s/\ex l/\ex r
 |.stop _=>True
 |.ifs _ s l r a b=>sg s/\ex l/\ex r/\vP a/\vP b
 |.fj _ s l r a=>sg s/\ex l/\ex r/\vP a
def vP:List bH->Prop
 |[]=>True
 |s::r=>qS s/\vP r
end
def Ze (f:Frame):Prop:=vP nm ex sg f.body/\(f.kind≠0->sg f.sg/\ex f.l/\ex f.r)/\(f.kind=2->vP nm ex sg f.first)
def Ig:List Frame->Prop
 |[]=>True
 |f::r=>Ze nm ex sg f/\Ig r
end
section
variable{nm:W->Prop}{ex:Tr->Prop}{sg:W->Prop}
theorem zf:∀ {a b:List bH},vP nm ex sg a->vP nm ex sg b->vP nm ex sg (a++b)
 |[],b,_,h=>h
 |s::r,b,h1,h2=>by
  rw[vP] at h1
  show vP nm ex sg (s::(r++b))
  rw[vP]
  exact⟨h1.1,zf h1.2 h2⟩
theorem my:vP nm ex sg []:=by rw[vP];trivial
theorem Er{s:bH}(h:qS nm ex sg s):vP nm ex sg [s]:=by rw[vP];exact⟨h,my⟩
theorem CA{f:Frame}(h:Ze nm ex sg f)(k:f.kind=1\/f.kind=2\/f.kind=3):qS nm ex sg f.told:=by
 obtain⟨h1,h2,h3⟩:=h
 have h2:=h2 (by lia)
 unfold Frame.told
 split
 ·rw[qS];exact⟨h2.1,h2.2.1,h2.2.2,h1,my⟩
 ·split
  ·rename_i z
   rw[qS];exact⟨h2.1,h2.2.1,h2.2.2,h3 z,h1⟩
  ·rw[qS];exact⟨h2.1,h2.2.1,h2.2.2,h1⟩
theorem uj:∀ {l:List Frame},nY l->Ig nm ex sg l->Ig nm ex sg (close l)
 |[],_,h=>h
 |[f],_,h=>h
 |f::g::r,ok,h=>by
  obtain⟨h1,⟨h2,h3,h4⟩,h5⟩:=h
  refine⟨⟨zf h2 (Er (CA h1 ?_)),h3,h4⟩,h5⟩
  exact ok.1
section
variable{sc:List Int}{bs:List fW}(NF:bs≠[]->∀q,nm (pick ⟨[],0,0⟩ bs (next sc q%bs.length)).name)(hex:∀d q,d<=2->ex (cH sc bs d q).1)(Ih:∀q,sg (pick [] zc (next sc q%2)))
include NF hex Ih
theorem A2(k:Int)(p:Nat):qS nm ex sg (bW sc bs k p).1:=by
 rw[oa]
 split
 ·rename_i h;rw[qS];exact NF h.1 _
 ·split
  ·rename_i h;rw[qS];exact⟨NF h.1 _,hex _ _ (by decide)⟩
  ·split
   ·rw[qS];exact⟨Ih _,hex _ _ (by decide),hex _ _ (by decide)⟩
   ·split
    ·split
     ·rw[qS];trivial
     ·rw[qS];exact hex _ _ (by decide)
    ·rw[qS];exact hex _ _ (by decide)
theorem CB(mode:Int){w:Walk}(ok:dJ w)(h:Ig nm ex sg w.aX):Ig nm ex sg (turn sc bs mode w).aX:=by
 obtain⟨p,aX,rows⟩:=w
 simp only at h
 cases aX with
 |nil=>exact ok.aX.elim
 |cons f r=>
  rw[ze]
  split
  ·exact uj ok.aX h
  ·obtain⟨⟨h1,h2,h3⟩,h4⟩:=h
   split
   ·rename_i z
    exact⟨⟨my,fun _=>h2 (by rw[z.2];decide),fun _=>h1⟩,h4⟩
   ·split
    ·exact⟨⟨my,fun _=>⟨Ih _,hex _ _ (by decide),hex _ _ (by decide)⟩,fun _=>my⟩,⟨h1,h2,h3⟩,h4⟩
    ·exact⟨⟨zf h1 (Er (A2 NF hex Ih _ _)),h2,h3⟩,h4⟩
theorem uk(mode:Int):∀(n:Nat) {w:Walk},dJ w->Ig nm ex sg w.aX->Ig nm ex sg (turns sc bs mode n w).aX
 |0,_,_,h=>h
 |n+1,_,ok,h=>uk mode n (rD sc bs mode ok) (CB NF hex Ih mode ok h)
end
theorem vQ(n:Nat)(mode:Int):∀(m:Nat) {w:Walk},dJ w->Ig nm ex sg w.aX->Ig nm ex sg (ends n mode m w).aX
 |0,_,_,h=>h
 |m+1,w,ok,h=>by
  unfold ends
  split
  ·exact vQ n mode m (vN ok _) (uj ok.aX h)
  ·exact h
end
noncomputable def fq (sc:List Int) (p:Nat):List fW:=(bL sc (next sc p%4) (next sc (p+1)%4).toNat 0 (p+2)).1
theorem CD(sc:List Int)(many p:Nat):(ck sc many p).1.aK=fq sc p:=rfl
theorem vR(sc:List Int)(many p:Nat){nm:W->Prop}{ex:Tr->Prop}{sg:W->Prop}(NF:fq sc p≠[]->∀q,nm (pick ⟨[],0,0⟩ (fq sc p) (next sc q%(fq sc p).length)).name)(hex:∀d q,d<=2->ex (cH sc (fq sc p) d q).1)(Ih:∀q,sg (pick [] zc (next sc q%2))):vP nm ex sg (ck sc many p).1.body:=by
 unfold fq at NF hex
 unfold ck
 simp only
 generalize bL sc (next sc p%4) (next sc (p+1)%4).toNat 0 (p+2)=bs at *
 have h0:dJ ⟨bs.2+1,[{kind:=0,body:=[]}],[]⟩:=⟨rfl,rfl,by simp⟩
 have d0:Ig nm ex sg [{kind:=0,body:=[]}]:=⟨⟨my,fun z=>absurd rfl z,fun z=>absurd z (show ¬(0=2) by decide)⟩,trivial⟩
 have d2:=vQ bs.1.length (next sc bs.2%4) 4 (rE sc bs.1 (next sc bs.2%4) many h0) (uk NF hex Ih (next sc bs.2%4) many h0 d0)
 generalize ends bs.1.length (next sc bs.2%4) 4 (turns sc bs.1 (next sc bs.2%4) many ⟨bs.2+1,[{kind:=0,body:=[]}],[]⟩)=w at d2
 obtain⟨pp,aX,rows⟩:=w
 cases aX with
 |nil=>exact my
 |cons f r=>exact d2.1.1
noncomputable def mz:Tr->Nat
 |.bin _ l r=>max (mz l) (mz r)+1
 |_=>0
theorem rF(sc:List Int)(bs:List fW):∀(d p:Nat),mz (cH sc bs d p).1<=d
 |0,p=>by
  unfold cH
  simp only
  split<;>simp[mz]
 |d+1,p=>by
  unfold cH
  simp only
  split
  ·rw[mz]
   have:=rF sc bs d (p+1)
   have:=rF sc bs d (cH sc bs d (p+1)).2
   lia
  ·split<;>simp[mz]
theorem yc(sc:List Int)(bs:List fW)(mode:Int):∀(n m:Nat) {w:Walk},og m w->og (m+n) (turns sc bs mode n w)
 |0,m,_,h=>h
 |n+1,m,_,h=>by
  have:=yc sc bs mode n (m+1) (AY sc bs mode h)
  rw[show m+(n+1)=m+1+n by lia]
  exact this
theorem A3(n:Nat)(mode:Int):∀(k m:Nat) {w:Walk},og m w->(ends n mode k w).rows.length<=m+k
 |0,m,w,h=>h.2
 |k+1,m,w,h=>by
  unfold ends
  split
  ·have:=A3 n mode k (m+1) (x6 h (number n w.rows mode))
   lia
  ·have:=h.2
   lia
theorem Ii(sc:List Int)(many p:Nat):(ck sc many p).2.length<=many+4:=by
 unfold ck
 simp only
 generalize bL sc (next sc p%4) (next sc (p+1)%4).toNat 0 (p+2)=bs
 have h0:og 0 ⟨bs.2+1,[{kind:=0,body:=[]}],[]⟩:=⟨fun f hf=>by rw[zac.mp hf];exact Wr _,Wr _⟩
 have:=A3 bs.1.length (next sc bs.2%4) 4 _ (yc sc bs.1 (next sc bs.2%4) many 0 h0)
 lia
end PG
namespace PG
open PM (W Tr)
inductive Mt where
 |op (pU fin:Option Nat)
 |back (i:Nat)
 deriving DecidableEq
abbrev Mm:=Nat->Option Mt
noncomputable def Mm.set (m:Mm) (i:Nat) (x:Mt):Mm:=fun j=>if j=i then some x else m j
theorem Mm.set_same(m:Mm)(i:Nat)(x:Mt):(m.set i x) i=some x:=if_pos rfl
theorem Mm.bT(m:Mm){i j:Nat}(x:Mt)(h:j≠i):(m.set i x) j=m j:=if_neg h
noncomputable def pE (x:Option Mt) (p:Nat):Mt:=match x with
 |some (.op _ f)=>.op (some p) f
 |some y=>y
 |none=>.op (some p) none
noncomputable def rG (x:Option Mt) (p:Nat):Mt:=match x with
 |some (.op e _)=>.op e (some p)
 |some y=>y
 |none=>.op none (some p)
noncomputable def rH (st:Mm×List Nat) (p:Nat):Wd->Mm×List Nat
 |.ifs=>(st.1.set p (.op none none),p::st.2)
 |.fj=>(st.1.set p (.op none none),p::st.2)
 |.pU=>match st.2 with
  |o::_=>((st.1.set o (pE (st.1 o) p)).set p (.back o),st.2)
  |[]=>st
 |.fin=>match st.2 with
  |o::r=>((st.1.set p (.back o)).set o (rG (st.1 o) p),r)
  |[]=>st
 |_=>st
noncomputable def foldM:Nat->List Row->Mm×List Nat->Mm×List Nat
 |_,[],st=>st
 |i,r::l,st=>foldM (i+1) l (rH st i r.2)
theorem iY:∀(a b:List Row) (i:Nat) (st:Mm×List Nat),foldM i (a++b) st=foldM (i+a.length) b (foldM i a st)
 |[],b,i,st=>rfl
 |r::a,b,i,st=>by
  rw[zav,foldM,foldM,iY a b (i+1),V0,show i+1+a.length=i+(a.length+1) by lia]
mutual
def dR (m:Mm):bH->Nat->List Row->Prop
 |.ifs k _ _ _ a b,i,rs=>(∃ra n,ib m a (i+1) ra/\b=[]/\rs=(k,.ifs)::(ra++[(n,.fin)])/\m i=some (.op none (some (i+1+ra.length)))/\m (i+1+ra.length)=some (.back i))\/
  (∃ra rb n x,ib m a (i+1) ra/\ib m b (i+2+ra.length) rb/\rs=(k,.ifs)::(ra++(n,.pU)::(rb++[(x,.fin)]))/\m i=some (.op (some (i+1+ra.length)) (some (i+2+ra.length+rb.length)))/\
   m (i+1+ra.length)=some (.back i)/\m (i+2+ra.length+rb.length)=some (.back i))
 |.fj k _ _ _ a,i,rs=>∃ra n,ib m a (i+1) ra/\rs=(k,.fj)::(ra++[(n,.fin)])/\m i=some (.op none (some (i+1+ra.length)))/\m (i+1+ra.length)=some (.back i)
 |.ask k _,_,rs=>rs=[(k,.ask)]
 |.put k _ _,_,rs=>rs=[(k,.put)]
 |.say k _,_,rs=>rs=[(k,.say)]
 |.c9 k _ _ _,_,rs=>rs=[(k,.c9)]
 |.stop k,_,rs=>rs=[(k,.stop)]
def ib (m:Mm):List bH->Nat->List Row->Prop
 |[],_,rs=>rs=[]
 |s::r,i,rs=>∃r1 r2,dR m s i r1/\ib m r (i+r1.length) r2/\rs=r1++r2
end
mutual
theorem dR.ju{m m':Mm}:∀(s:bH) {i:Nat} {rs:List Row},dR m s i rs->(∀j,i<=j->j<i+rs.length->m' j=m j)->dR m' s i rs
 |.ifs k _ _ _ a b,i,rs,h,q=>by
  rw[dR] at h ⊢
  rcases h with ⟨ra,n,h1,h2,rfl,h3,h4⟩ |⟨ra,rb,n,x,h1,h2,rfl,h3,h4,h5⟩
  ·simp only[V0,Zc,zak] at q
   exact .inl ⟨ra,n,ib.ju a h1 (fun j a b=>q j (by lia) (by lia)),h2,rfl,by rw[q i (by lia) (by lia)];exact h3,by rw[q _ (by lia) (by lia)];exact h4⟩
  ·simp only[V0,Zc,zak] at q
   exact .inr ⟨ra,rb,n,x,ib.ju a h1 (fun j a b=>q j (by lia) (by lia)),ib.ju b h2 (fun j a b=>q j (by lia) (by lia)),rfl,by rw[q i (by lia) (by lia)];exact h3,by rw[q _ (by lia) (by lia)];exact h4,by rw[q _ (by lia) (by lia)];exact h5⟩
 |.fj k _ _ _ a,i,rs,h,q=>by
  rw[dR] at h ⊢
  obtain⟨ra,n,h1,rfl,h3,h4⟩:=h
  simp only[V0,Zc,zak] at q
  exact⟨ra,n,ib.ju a h1 (fun j a b=>q j (by lia) (by lia)),rfl,by rw[q i (by lia) (by lia)];exact h3,by rw[q _ (by lia) (by lia)];exact h4⟩
 |.ask k _,_,rs,h,_=>by rw[dR] at h ⊢;exact h
 |.put k _ _,_,rs,h,_=>by rw[dR] at h ⊢;exact h
 |.say k _,_,rs,h,_=>by rw[dR] at h ⊢;exact h
 |.c9 k _ _ _,_,rs,h,_=>by rw[dR] at h ⊢;exact h
 |.stop k,_,rs,h,_=>by rw[dR] at h ⊢;exact h
theorem ib.ju{m m':Mm}:∀(b:List bH) {i:Nat} {rs:List Row},ib m b i rs->(∀j,i<=j->j<i+rs.length->m' j=m j)->ib m' b i rs
 |[],i,rs,h,_=>by rw[ib] at h ⊢;exact h
 |s::r,i,rs,h,q=>by
  rw[ib] at h ⊢
  obtain⟨r1,r2,h1,h2,rfl⟩:=h
  simp only[Zc] at q
  exact⟨r1,r2,dR.ju s h1 (fun j a b=>q j (by lia) (by lia)),ib.ju r h2 (fun j a b=>q j (by lia) (by lia)),rfl⟩
end
theorem fG{op:List Nat}{i j:Nat}(h:∀o∈op,o<i)(hj:i<j):∀o∈i::op,o<j:=fun o hx=>by
 rcases Zd.mp hx with rfl |hx
 ·exact hj
 ·have:=h o hx
  lia
mutual
theorem NG:∀(s:bH) (rs:List Row),eP s rs->∀(i:Nat) (m:Mm) (op:List Nat),(∀o∈op,o<i)->∃m1,foldM i rs (m,op)=(m1,op)/\dR m1 s i rs/\∀j,(j<i\/i+rs.length<=j)->m1 j=m j
 |.ifs k sg l r a b,rs,h,i,m,op,ho=>by
  rw[eP] at h
  rcases h with ⟨ra,n,h1,rfl,rfl⟩ |⟨ra,rb,n,x,h1,h2,rfl⟩
  ·obtain⟨m1,e1,s1,k1⟩:=nv a ra h1 (i+1) (m.set i (.op none none)) (i::op) (fG ho (by lia))
   have mi:m1 i=some (.op none none):=by rw[k1 i (by lia),Mm.set_same]
   refine⟨(m1.set (i+1+ra.length) (.back i)).set i (rG (m1 i) (i+1+ra.length)),?_,?_,?_⟩
   ·show foldM (i+1) (ra++[(n,.fin)]) (m.set i (.op none none),i::op)=_
    rw[iY,e1]
    rfl
   ·rw[dR]
    refine .inl ⟨ra,n,ib.ju a s1 (fun j a b=>by rw[Mm.bT _ _ (by lia),Mm.bT _ _ (by lia)]),rfl,rfl,?_,?_⟩
    ·rw[Mm.set_same,mi];rfl
    ·rw[Mm.bT _ _ (by lia),Mm.set_same]
   ·intro j hj
    simp only[V0,Zc,zak] at hj
    rw[Mm.bT _ _ (by lia),Mm.bT _ _ (by lia),k1 j (by lia),Mm.bT _ _ (by lia)]
  ·obtain⟨m1,e1,s1,k1⟩:=nv a ra h1 (i+1) (m.set i (.op none none)) (i::op) (fG ho (by lia))
   have mi:m1 i=some (.op none none):=by rw[k1 i (by lia),Mm.set_same]
   obtain⟨m2,e2,s2,k2⟩:=nv b rb h2 (i+2+ra.length) ((m1.set i (pE (m1 i) (i+1+ra.length))).set (i+1+ra.length) (.back i)) (i::op) (fG ho (by lia))
   have Wv:m2 i=some (.op (some (i+1+ra.length)) none):=by rw[k2 i (by lia),Mm.bT _ _ (by lia),Mm.set_same,mi];rfl
   refine⟨(m2.set (i+2+ra.length+rb.length) (.back i)).set i (rG (m2 i) (i+2+ra.length+rb.length)),?_,?_,?_⟩
   ·show foldM (i+1) (ra++(n,.pU)::(rb++[(x,.fin)])) (m.set i (.op none none),i::op)=_
    rw[iY,e1]
    show foldM (i+1+ra.length+1) (rb++[(x,.fin)]) ((m1.set i (pE (m1 i) (i+1+ra.length))).set (i+1+ra.length) (.back i),i::op)=_
    rw[show i+1+ra.length+1=i+2+ra.length by lia,iY,e2]
    rfl
   ·rw[dR]
    refine .inr ⟨ra,rb,n,x,ib.ju a s1 (fun j a b=>?_),ib.ju b s2 (fun j a b=>?_),rfl,?_,?_,?_⟩
    ·rw[Mm.bT _ _ (by lia),Mm.bT _ _ (by lia),k2 j (by lia),Mm.bT _ _ (by lia),Mm.bT _ _ (by lia)]
    ·rw[Mm.bT _ _ (by lia),Mm.bT _ _ (by lia)]
    ·rw[Mm.set_same,Wv];rfl
    ·rw[Mm.bT _ _ (by lia),Mm.bT _ _ (by lia),k2 _ (by lia),Mm.set_same]
    ·rw[Mm.bT _ _ (by lia),Mm.set_same]
   ·intro j hj
    simp only[V0,Zc,zak] at hj
    rw[Mm.bT _ _ (by lia),Mm.bT _ _ (by lia),k2 j (by lia),Mm.bT _ _ (by lia),Mm.bT _ _ (by lia),k1 j (by lia),Mm.bT _ _ (by lia)]
 |.fj k sg l r a,rs,h,i,m,op,ho=>by
  rw[eP] at h
  obtain⟨ra,n,h1,rfl⟩:=h
  obtain⟨m1,e1,s1,k1⟩:=nv a ra h1 (i+1) (m.set i (.op none none)) (i::op) (fG ho (by lia))
  have mi:m1 i=some (.op none none):=by rw[k1 i (by lia),Mm.set_same]
  refine⟨(m1.set (i+1+ra.length) (.back i)).set i (rG (m1 i) (i+1+ra.length)),?_,?_,?_⟩
  ·show foldM (i+1) (ra++[(n,.fin)]) (m.set i (.op none none),i::op)=_
   rw[iY,e1]
   rfl
  ·rw[dR]
   refine⟨ra,n,ib.ju a s1 (fun j a b=>by rw[Mm.bT _ _ (by lia),Mm.bT _ _ (by lia)]),rfl,?_,?_⟩
   ·rw[Mm.set_same,mi];rfl
   ·rw[Mm.bT _ _ (by lia),Mm.set_same]
  ·intro j hj
   simp only[V0,Zc,zak] at hj
   rw[Mm.bT _ _ (by lia),Mm.bT _ _ (by lia),k1 j (by lia),Mm.bT _ _ (by lia)]
 |.ask k _,rs,h,i,m,op,_=>by rw[eP] at h;subst h;exact⟨m,rfl,by rw[dR],fun _ _=>rfl⟩
 |.put k _ _,rs,h,i,m,op,_=>by rw[eP] at h;subst h;exact⟨m,rfl,by rw[dR],fun _ _=>rfl⟩
 |.say k _,rs,h,i,m,op,_=>by rw[eP] at h;subst h;exact⟨m,rfl,by rw[dR],fun _ _=>rfl⟩
 |.c9 k _ _ _,rs,h,i,m,op,_=>by rw[eP] at h;subst h;exact⟨m,rfl,by rw[dR],fun _ _=>rfl⟩
 |.stop k,rs,h,i,m,op,_=>by rw[eP] at h;subst h;exact⟨m,rfl,by rw[dR],fun _ _=>rfl⟩
theorem nv:∀(b:List bH) (rs:List Row),cL b rs->∀(i:Nat) (m:Mm) (op:List Nat),(∀o∈op,o<i)->∃m1,foldM i rs (m,op)=(m1,op)/\ib m1 b i rs/\∀j,(j<i\/i+rs.length<=j)->m1 j=m j
 |[],rs,h,i,m,op,_=>by rw[cL] at h;subst h;exact⟨m,rfl,by rw[ib],fun _ _=>rfl⟩
 |s::r,rs,h,i,m,op,ho=>by
  rw[cL] at h
  obtain⟨r1,r2,h1,h2,rfl⟩:=h
  obtain⟨m1,e1,s1,k1⟩:=NG s r1 h1 i m op ho
  obtain⟨m2,e2,s2,k2⟩:=nv r r2 h2 (i+r1.length) m1 op (fun o hx=>by have:=ho o hx;lia)
  refine⟨m2,?_,?_,?_⟩
  ·rw[iY,e1,e2]
  ·rw[ib]
   exact⟨r1,r2,dR.ju s s1 (fun j a b=>k2 j (by lia)),s2,rfl⟩
  ·intro j hj
   rw[Zc] at hj
   rw[k2 j (by lia),k1 j (by lia)]
end
end PG
namespace PG
open PM (W Tr)
noncomputable def to (R:List Row) (m:Mm) (p:Nat):Int:=
 if h:p<R.length then
  match (R[p]).2 with
  |.pU=>match m p with
   |some (.back o)=>match m o with
    |some (.op _ (some e))=>if he:p<=e then to R m (e+1) else 0
    |_=>0
   |_=>0
  |.fin=>match m p with
   |some (.back o)=>match R[o]? with
    |some (k,.fj)=>k
    |_=>to R m (p+1)
   |_=>0
  |_=>(R[p]).1
 else 0
termination_by R.length-p
decreasing_by all_goals lia
theorem CF{R:List Row}{m:Mm}{p:Nat}(h:R.length<=p):to R m p=0:=by
 rw[to,dif_neg (by lia)]
theorem mB{R:List Row}{p:Nat}{r:Row}(h:R[p]?=some r):∃hp:p<R.length,R[p]=r:=WD.mp h
theorem A4{R:List Row}{m:Mm}{p:Nat}{k:Int}{w:Wd}(h:R[p]?=some (k,w))(h1:w≠.pU)(h2:w≠.fin):to R m p=k:=by
 obtain⟨hp,e⟩:=mB h
 rw[to,dif_pos hp,e]
 cases w<;>first |rfl |exact absurd rfl h1 |exact absurd rfl h2
theorem Ij{R:List Row}{m:Mm}{p o e:Nat}{k:Int}{x:Option Nat}(h:R[p]?=some (k,.pU))(h1:m p=some (.back o))(h2:m o=some (.op x (some e)))(h3:p<=e):to R m p=to R m (e+1):=by
 obtain⟨hp,q⟩:=mB h
 rw[to,dif_pos hp,q]
 simp only[h1,h2]
 rw[dif_pos h3]
theorem Ik{R:List Row}{m:Mm}{p o:Nat}{k k':Int}(h:R[p]?=some (k,.fin))(h1:m p=some (.back o))(h2:R[o]?=some (k',.fj)):to R m p=k':=by
 obtain⟨hp,q⟩:=mB h
 rw[to,dif_pos hp,q]
 simp only[h1,h2]
theorem CG{R:List Row}{m:Mm}{p o:Nat}{k k':Int}(h:R[p]?=some (k,.fin))(h1:m p=some (.back o))(h2:R[o]?=some (k',.ifs)):to R m p=to R m (p+1):=by
 obtain⟨hp,q⟩:=mB h
 rw[to,dif_pos hp,q]
 simp only[h1,h2]
noncomputable def eL (R:List Row) (m:Mm) (p:Nat):List fk:=match R[p]? with
 |none=>[]
 |some (k,.stop)=>[(k,.stop,[0])]
 |some (_,.pU)=>[]
 |some (_,.fin)=>[]
 |some (k,.ifs)=>match m p with
  |some (.op x (some e))=>[(k,.ifs,[to R m (p+1),to R m (x.getD e+1)])]
  |_=>[]
 |some (k,.fj)=>match m p with
  |some (.op x (some e))=>[(k,.fj,[to R m (p+1),to R m (x.getD e+1)])]
  |_=>[]
 |some (k,w)=>[(k,w,[to R m (p+1)])]
noncomputable def cb (R:List Row) (m:Mm):Nat->Nat->List fk
 |_,0=>[]
 |i,n+1=>eL R m i++cb R m (i+1) n
theorem dN(R:List Row)(m:Mm):∀(a b i:Nat),cb R m i (a+b)=cb R m i a++cb R m (i+a) b
 |0,b,i=>by simp[cb]
 |a+1,b,i=>by
  rw[show a+1+b=(a+b)+1 by lia,cb,cb,dN R m a b (i+1),zaH,show i+1+a=i+(a+1) by lia]
def At (R:List Row) (i:Nat) (rs:List Row):Prop:=∀j,j<rs.length->R[i+j]?=rs[j]?
theorem At.left{R:List Row}{i:Nat}{a b:List Row}(h:At R i (a++b)):At R i a:=fun j hj=>by
 rw[h j (by rw[Zc];lia),zbC hj]
theorem At.right{R:List Row}{i:Nat}{a b:List Row}(h:At R i (a++b)):At R (i+a.length) b:=fun j hj=>by
 have:=h (a.length+j) (by rw[Zc];lia)
 rw[zbi (by lia),show a.length+j-a.length=j by lia] at this
 rw[show i+a.length+j=i+(a.length+j) by lia]
 exact this
theorem At.head{R:List Row}{i:Nat}{x:Row}{b:List Row}(h:At R i (x::b)):R[i]?=some x:=by
 have:=h 0 (by simp)
 simpa using this
theorem At.tail{R:List Row}{i:Nat}{x:Row}{b:List Row}(h:At R i (x::b)):At R (i+1) b:=At.right (a:=[x]) h
theorem FG{m:Mm}:∀(s:bH) {i:Nat} {rs:List Row},dR m s i rs->∃t,rs=(s.row,s.wd)::t/\s.wd≠.pU/\s.wd≠.fin
 |.ifs k _ _ _ a b,i,rs,h=>by
  rw[dR] at h
  rcases h with ⟨ra,n,_,_,rfl,_⟩ |⟨ra,rb,n,x,_,_,rfl,_⟩
  ·exact⟨_,rfl,by simp[bH.wd],by simp[bH.wd]⟩
  ·exact⟨_,rfl,by simp[bH.wd],by simp[bH.wd]⟩
 |.fj k _ _ _ a,i,rs,h=>by
  rw[dR] at h
  obtain⟨ra,n,_,rfl,_⟩:=h
  exact⟨_,rfl,by simp[bH.wd],by simp[bH.wd]⟩
 |.ask k _,_,rs,h=>by rw[dR] at h;exact⟨[],h,by simp[bH.wd],by simp[bH.wd]⟩
 |.put k _ _,_,rs,h=>by rw[dR] at h;exact⟨[],h,by simp[bH.wd],by simp[bH.wd]⟩
 |.say k _,_,rs,h=>by rw[dR] at h;exact⟨[],h,by simp[bH.wd],by simp[bH.wd]⟩
 |.c9 k _ _ _,_,rs,h=>by rw[dR] at h;exact⟨[],h,by simp[bH.wd],by simp[bH.wd]⟩
 |.stop k,_,rs,h=>by rw[dR] at h;exact⟨[],h,by simp[bH.wd],by simp[bH.wd]⟩
theorem pF{R:List Row}{m:Mm}:∀(b:List bH) {i:Nat} {rs:List Row},ib m b i rs->At R i rs->to R m i=bt b (to R m (i+rs.length))
 |[],i,rs,h,_=>by rw[ib] at h;subst h;rfl
 |s::r,i,rs,h,ha=>by
  rw[ib] at h
  obtain⟨r1,r2,h1,h2,rfl⟩:=h
  obtain⟨t,rfl,n1,n2⟩:=FG s h1
  rw[A4 (At.head ha.left) n1 n2]
  rfl
mutual
theorem Pn{R:List Row}{m:Mm}:∀(s:bH) {i:Nat} {rs:List Row},dR m s i rs->At R i rs->cb R m i rs.length=dM s (to R m (i+rs.length))
 |.ifs k sg l r a b,i,rs,h,ha=>by
  rw[dR] at h
  rcases h with ⟨ra,n,h1,rfl,rfl,h3,h4⟩ |⟨ra,rb,n,x,h1,h2,rfl,h3,h4,h5⟩
  ·have aH:=ha.head
   have aA:=ha.tail.left
   have aF:=ha.tail.right.head
   have tF:to R m (i+1+ra.length)=to R m (i+1+ra.length+1):=CG aF h4 aH
   have tA:=pF a h1 aA
   have e:((k,Wd.ifs)::(ra++[(n,Wd.fin)])).length=1+(ra.length+1):=by simp;lia
   rw[e,dN,dN,sZ a h1 aA,dM,tF,show i+(1+(ra.length+1))=i+1+ra.length+1 by lia]
   have w1:cb R m i 1=[(k,.ifs,[bt a (to R m (i+1+ra.length+1)),to R m (i+1+ra.length+1)])]:=by
    simp only[cb,eL,aH,h3,zab,zb1]
    rw[tA,tF]
   have w2:cb R m (i+1+ra.length) 1=[]:=by simp only[cb,eL,aF,zab]
   rw[w1,w2]
   simp[aS,bt]
  ·have aH:=ha.head
   have aA:=ha.tail.left
   have aE:=ha.tail.right.head
   have aB:=ha.tail.right.tail.left
   have aF:=ha.tail.right.tail.right.head
   rw[show i+1+ra.length+1=i+2+ra.length by lia] at aB aF
   have tF:to R m (i+2+ra.length+rb.length)=to R m (i+2+ra.length+rb.length+1):=CG aF h5 aH
   have tE:to R m (i+1+ra.length)=to R m (i+2+ra.length+rb.length+1):=Ij aE h4 h3 (by lia)
   have tA:=pF a h1 aA
   have tB:=pF b h2 aB
   have e:((k,Wd.ifs)::(ra++(n,Wd.pU)::(rb++[(x,Wd.fin)]))).length=1+(ra.length+(1+(rb.length+1))):=by simp;lia
   rw[e,dN,dN,dN,dN,sZ a h1 aA,dM,show i+(1+(ra.length+(1+(rb.length+1))))=i+2+ra.length+rb.length+1 by lia,tE,show i+1+ra.length+1=i+2+ra.length by lia,sZ b h2 aB,tF]
   have w1:cb R m i 1=[(k,.ifs,[bt a (to R m (i+2+ra.length+rb.length+1)),bt b (to R m (i+2+ra.length+rb.length+1))])]:=by
    simp only[cb,eL,aH,h3,zab,zb2]
    rw[tA,tE,show i+1+ra.length+1=i+2+ra.length by lia,tB,tF]
   have w2:cb R m (i+1+ra.length) 1=[]:=by simp only[cb,eL,aE,zab]
   have w3:cb R m (i+2+ra.length+rb.length) 1=[]:=by simp only[cb,eL,aF,zab]
   rw[w1,w2,w3]
   simp
 |.fj k sg l r a,i,rs,h,ha=>by
  rw[dR] at h
  obtain⟨ra,n,h1,rfl,h3,h4⟩:=h
  have aH:=ha.head
  have aA:=ha.tail.left
  have aF:=ha.tail.right.head
  have tF:to R m (i+1+ra.length)=k:=Ik aF h4 aH
  have tA:=pF a h1 aA
  have e:((k,Wd.fj)::(ra++[(n,Wd.fin)])).length=1+(ra.length+1):=by simp;lia
  rw[e,dN,dN,sZ a h1 aA,dM,tF,show i+(1+(ra.length+1))=i+1+ra.length+1 by lia]
  have w1:cb R m i 1=[(k,.fj,[bt a k,to R m (i+1+ra.length+1)])]:=by
   simp only[cb,eL,aH,h3,zab,zb1]
   rw[tA,tF]
  have w2:cb R m (i+1+ra.length) 1=[]:=by simp only[cb,eL,aF,zab]
  rw[w1,w2]
  simp
 |.ask k _,i,rs,h,ha=>by rw[dR] at h;subst h;have:=ha.head;simp[cb,eL,this,dM]
 |.put k _ _,i,rs,h,ha=>by rw[dR] at h;subst h;have:=ha.head;simp[cb,eL,this,dM]
 |.say k _,i,rs,h,ha=>by rw[dR] at h;subst h;have:=ha.head;simp[cb,eL,this,dM]
 |.c9 k _ _ _,i,rs,h,ha=>by rw[dR] at h;subst h;have:=ha.head;simp[cb,eL,this,dM]
 |.stop k,i,rs,h,ha=>by rw[dR] at h;subst h;have:=ha.head;simp[cb,eL,this,dM]
theorem sZ{R:List Row}{m:Mm}:∀(b:List bH) {i:Nat} {rs:List Row},ib m b i rs->At R i rs->cb R m i rs.length=aS b (to R m (i+rs.length))
 |[],i,rs,h,_=>by rw[ib] at h;subst h;rfl
 |s::r,i,rs,h,ha=>by
  rw[ib] at h
  obtain⟨r1,r2,h1,h2,rfl⟩:=h
  rw[Zc,dN,Pn s h1 ha.left,sZ r h2 ha.right,aS,pF r h2 ha.right,show i+r1.length+r2.length=i+(r1.length+r2.length) by lia]
end
noncomputable def nG (R:List Row):Mm:=(foldM 0 R (fun _=>none,[])).1
theorem FI{b:List bH}{R:List Row}(h:cL b R):cb R (nG R) 0 R.length=aS b 0:=by
 obtain⟨m1,e,s,_⟩:=nv b R h 0 (fun _=>none) [] (by simp)
 have em:nG R=m1:=by unfold nG;rw[e]
 rw[em,sZ b s (fun j _=>by rw[zbr]),zbr,CF (Wr _)]
end PG
namespace PG
open PM (W Tr)
def oh (n:Nat) (mode:Int) (rows:List Row):Prop:=(rows.filter plainRow).Pairwise (fun a b=>a.1<b.1)/\∀r∈rows.filter plainRow,0<r.1/\r.1<number n rows mode
theorem CI(n:Nat)(rows:List Row)(mode:Int):0<number n rows mode:=by
 unfold number
 split
 ·lia
 ·split<;>lia
theorem A9(n:Nat)(rows:List Row)(mode:Int)(r:Row):number n rows mode<=number n (rows++[r]) mode/\(plainRow r=true->number n rows mode<number n (rows++[r]) mode):=by
 unfold number
 simp only[Zc,zal,zaI]
 split
 ·exact⟨by lia,fun _=>by lia⟩
 ·split
  ·refine⟨by lia,fun h=>?_⟩
   have:(List.filter (fun r:Row=>decide (r.2≠.pU/\r.2≠.fin)) [r]).length=1:=by
    unfold plainRow at h
    rw[zcl,if_pos h]
    rfl
   lia
  ·exact⟨by lia,fun _=>by lia⟩
theorem oh.more{n:Nat}{mode:Int}{rows:List Row}(h:oh n mode rows)(w:Wd):oh n mode (rows++[(number n rows mode,w)]):=by
 obtain⟨h1,h2⟩:=h
 obtain⟨m1,m2⟩:=A9 n rows mode (number n rows mode,w)
 unfold oh
 rw[zaI]
 by_cases hp:plainRow (number n rows mode,w)=true
 ·rw[show [(number n rows mode,w)].filter plainRow=[(number n rows mode,w)] by rw[zcl,if_pos hp];rfl]
  refine⟨zbl.mpr ⟨h1,List.pairwise_singleton _ _,fun a ha b hb=>?_⟩,fun r hr=>?_⟩
  ·rw[zac.mp hb]
   exact(h2 a ha).2
  ·rcases zap.mp hr with hr |hr
   ·have:=h2 r hr
    lia
   ·rw[zac.mp hr]
    exact⟨CI _ _ _,m2 hp⟩
 ·rw[show [(number n rows mode,w)].filter plainRow=[] by rw[zcl,if_neg hp];rfl,zab]
  refine⟨h1,fun r hr=>?_⟩
  have:=h2 r hr
  lia
theorem Il(sc:List Int)(bs:List fW)(mode:Int){w:Walk}(h:oh bs.length mode w.rows):oh bs.length mode (turn sc bs mode w).rows:=by
 obtain⟨p,aX,rows⟩:=w
 unfold turn
 simp only at h ⊢
 split
 ·exact h.more _
 ·cases aX with
  |nil=>exact h
  |cons f r=>
   simp only
   split
   ·exact h.more _
   ·split
    ·exact h.more _
    ·exact h.more _
theorem yd(sc:List Int)(bs:List fW)(mode:Int):∀(n:Nat) {w:Walk},oh bs.length mode w.rows->oh bs.length mode (turns sc bs mode n w).rows
 |0,_,h=>h
 |n+1,_,h=>yd sc bs mode n (Il sc bs mode h)
theorem Ba(n:Nat)(mode:Int):∀(m:Nat) {w:Walk},oh n mode w.rows->oh n mode (ends n mode m w).rows
 |0,_,h=>h
 |m+1,w,h=>by
  unfold ends
  split
  ·exact Ba n mode m (h.more _)
  ·exact h
theorem ye(sc:List Int)(many p:Nat):(cK (ck sc many p).1.body).Pairwise (fun a b=>a.1<b.1)/\∀r∈cK (ck sc many p).1.body,0<r.1:=by
 rw[xZ]
 have key:∃n mode,oh n mode (ck sc many p).2:=by
  unfold ck
  simp only
  generalize bL sc (next sc p%4) (next sc (p+1)%4).toNat 0 (p+2)=bs
  refine⟨bs.1.length,next sc bs.2%4,Ba _ _ _ (yd _ _ _ _ ?_)⟩
  exact⟨List.Pairwise.nil,fun r hr=>by cases hr⟩
 obtain⟨n,mode,h1,h2⟩:=key
 exact⟨h1,fun r hr=>(h2 r hr).1⟩
mutual
noncomputable def mC:bH->List bH
 |.ifs k sg l r a b=>.ifs k sg l r a b::(aC a++aC b)
 |.fj k sg l r a=>.fj k sg l r a::aC a
 |s=>[s]
noncomputable def aC:List bH->List bH
 |[]=>[]
 |s::r=>mC s++aC r
end
mutual
theorem FJ:∀s:bH,(mC s).map (fun x=>(x.row,x.wd))=g7 s
 |.ifs k sg l r a b=>by
  rw[mC,g7,Y9,zae,fL a,fL b]
  rfl
 |.fj k sg l r a=>by
  rw[mC,g7,Y9,fL a]
  rfl
 |.ask k _=>rfl
 |.put k _ _=>rfl
 |.say k _=>rfl
 |.c9 k _ _ _=>rfl
 |.stop k=>rfl
theorem fL:∀b:List bH,(aC b).map (fun x=>(x.row,x.wd))=cK b
 |[]=>rfl
 |s::r=>by simp[aC,cK,FJ s,fL r]
end
theorem Im{b:List bH}(h:(cK b).Pairwise (fun a b=>a.1<b.1)):(aC b).Pairwise (fun a b=>a.row<b.row):=by
 rw[<- fL,zaV] at h
 exact h
theorem rJ(sc:List Int)(kR:Int):∀(n k p:Nat),k+n<=4->((bL sc kR n k p).1.map (·.name))=(zao n).map (fun (i:Nat)=>pick [] da (((k:Int)+i-kR)%4))
 |0,k,p,_=>rfl
 |n+1,k,p,h=>by
  rw[bL,List.range_succ_eq_map]
  simp only[Y9,za8]
  rw[rJ sc kR n (k+1) (p+2) (by lia)]
  congr 1
  simp
  intro i _
  rw[show (k:Int)+1+(i:Int)=(k:Int)+((i:Int)+1) by lia]
theorem Bb(a b:Nat)(ha:a<4)(hb:b<4)(e:pick [] da (a:Int)=pick [] da (b:Int)):a=b:=by
 have key:∀(a b:Fin 4),pick [] da ((a:Nat):Int)=pick [] da ((b:Nat):Int)->a=b:=by decide
 exact congrArg Fin.val (key ⟨a,ha⟩ ⟨b,hb⟩ e)
theorem zg(sc:List Int)(p:Nat):((fq sc p).map (·.name)).Nodup/\(fq sc p).length<=4:=by
 unfold fq
 have b:=jy sc (p+1)
 have l:=(jL sc (next sc p%4) (next sc (p+1)%4).toNat 0 (p+2)).1
 rw[rJ sc _ _ 0 _ (by lia),l]
 refine⟨?_,by lia⟩
 have hn:(next sc (p+1)%4).toNat<=4:=by lia
 generalize (next sc (p+1)%4).toNat=n at *
 generalize next sc p%4=kR at *
 refine zaV.mpr (List.Pairwise.imp_of_mem ?_ (List.nodup_range (n:=n)))
 intro i j hi hj za e
 rw[zbM] at hi hj
 have e1:((((0:Nat):Int)+i-kR)%4)=(((((0:Nat):Int)+i-kR)%4).toNat:Int):=by lia
 have e2:((((0:Nat):Int)+j-kR)%4)=(((((0:Nat):Int)+j-kR)%4).toNat:Int):=by lia
 rw[e1,e2] at e
 have:=Bb _ _ (by lia) (by lia) e
 lia
end PG
namespace PG
open PM (W Tr)
def cW:Nat->List Row->Mm×List Nat->Prop
 |_,[],_=>True
 |i,r::l,st=>(r.2=.pU\/r.2=.fin->∃o t e f,st.2=o::t/\st.1 o=some (.op e f))/\cW (i+1) l (rH st i r.2)
theorem jZ:∀(a b:List Row) (i:Nat) (st:Mm×List Nat),cW i a st->cW (i+a.length) b (foldM i a st)->cW i (a++b) st
 |[],b,i,st,_,h=>h
 |r::a,b,i,st,h1,h2=>by
  rw[zav,cW]
  rw[cW] at h1
  refine⟨h1.1,jZ a b (i+1) _ h1.2 ?_⟩
  rw[foldM,V0,show i+(a.length+1)=i+1+a.length by lia] at h2
  exact h2
theorem Bc:∀(a:List Row) (i:Nat) (st:Mm×List Nat),cW i a st->∀j r,a[j]?=some r->(r.2=.pU\/r.2=.fin)->∃o t e f,(foldM i (a.take j) st).2=o::t/\(foldM i (a.take j) st).1 o=some (.op e f)
 |[],i,st,_,j,r,hj,_=>by simp at hj
 |x::a,i,st,h,0,r,hj,hr=>by
  rw[cW] at h
  simp at hj
  subst hj
  exact h.1 hr
 |x::a,i,st,h,j+1,r,hj,hr=>by
  rw[cW] at h
  rw[List.take_succ_cons,foldM]
  exact Bc a (i+1) _ h.2 j r (by simpa using hj) hr
mutual
theorem Su:∀(s:bH) (rs:List Row),eP s rs->∀(i:Nat) (m:Mm) (op:List Nat),(∀o∈op,o<i)->cW i rs (m,op)
 |.ifs k sg l r a b,rs,h,i,m,op,ho=>by
  rw[eP] at h
  rcases h with ⟨ra,n,h1,rfl,rfl⟩ |⟨ra,rb,n,x,h1,h2,rfl⟩
  ·obtain⟨m1,e1,s1,k1⟩:=nv a ra h1 (i+1) (m.set i (.op none none)) (i::op) (fG ho (by lia))
   have mi:m1 i=some (.op none none):=by rw[k1 i (by lia),Mm.set_same]
   rw[cW]
   refine⟨fun z=>by simp at z,jZ ra _ (i+1) _ (yf a ra h1 (i+1) _ _ (fG ho (by lia))) ?_⟩
   show cW _ _ (foldM (i+1) ra (m.set i (.op none none),i::op))
   rw[e1,cW,cW]
   exact⟨fun _=>⟨i,op,_,_,rfl,mi⟩,trivial⟩
  ·obtain⟨m1,e1,s1,k1⟩:=nv a ra h1 (i+1) (m.set i (.op none none)) (i::op) (fG ho (by lia))
   have mi:m1 i=some (.op none none):=by rw[k1 i (by lia),Mm.set_same]
   obtain⟨m2,e2,s2,k2⟩:=nv b rb h2 (i+1+ra.length+1) ((m1.set i (pE (m1 i) (i+1+ra.length))).set (i+1+ra.length) (.back i)) (i::op) (fG ho (by lia))
   have Wv:m2 i=some (.op (some (i+1+ra.length)) none):=by rw[k2 i (by lia),Mm.bT _ _ (by lia),Mm.set_same,mi];rfl
   rw[cW]
   refine⟨fun z=>by simp at z,jZ ra _ (i+1) _ (yf a ra h1 (i+1) _ _ (fG ho (by lia))) ?_⟩
   show cW _ _ (foldM (i+1) ra (m.set i (.op none none),i::op))
   rw[e1,cW]
   refine⟨fun _=>⟨i,op,_,_,rfl,mi⟩,?_⟩
   show cW _ (rb++[(x,.fin)]) ((m1.set i (pE (m1 i) (i+1+ra.length))).set (i+1+ra.length) (.back i),i::op)
   refine jZ rb _ _ _ (yf b rb h2 _ _ _ (fG ho (by lia))) ?_
   rw[e2,cW,cW]
   exact⟨fun _=>⟨i,op,_,_,rfl,Wv⟩,trivial⟩
 |.fj k sg l r a,rs,h,i,m,op,ho=>by
  rw[eP] at h
  obtain⟨ra,n,h1,rfl⟩:=h
  obtain⟨m1,e1,s1,k1⟩:=nv a ra h1 (i+1) (m.set i (.op none none)) (i::op) (fG ho (by lia))
  have mi:m1 i=some (.op none none):=by rw[k1 i (by lia),Mm.set_same]
  rw[cW]
  refine⟨fun z=>by simp at z,jZ ra _ (i+1) _ (yf a ra h1 (i+1) _ _ (fG ho (by lia))) ?_⟩
  show cW _ _ (foldM (i+1) ra (m.set i (.op none none),i::op))
  rw[e1,cW,cW]
  exact⟨fun _=>⟨i,op,_,_,rfl,mi⟩,trivial⟩
 |.ask k _,rs,h,i,m,op,_=>by rw[eP] at h;subst h;rw[cW,cW];exact⟨fun z=>by simp at z,trivial⟩
 |.put k _ _,rs,h,i,m,op,_=>by rw[eP] at h;subst h;rw[cW,cW];exact⟨fun z=>by simp at z,trivial⟩
 |.say k _,rs,h,i,m,op,_=>by rw[eP] at h;subst h;rw[cW,cW];exact⟨fun z=>by simp at z,trivial⟩
 |.c9 k _ _ _,rs,h,i,m,op,_=>by rw[eP] at h;subst h;rw[cW,cW];exact⟨fun z=>by simp at z,trivial⟩
 |.stop k,rs,h,i,m,op,_=>by rw[eP] at h;subst h;rw[cW,cW];exact⟨fun z=>by simp at z,trivial⟩
theorem yf:∀(b:List bH) (rs:List Row),cL b rs->∀(i:Nat) (m:Mm) (op:List Nat),(∀o∈op,o<i)->cW i rs (m,op)
 |[],rs,h,i,m,op,_=>by rw[cL] at h;subst h;rw[cW];trivial
 |s::r,rs,h,i,m,op,ho=>by
  rw[cL] at h
  obtain⟨r1,r2,h1,h2,rfl⟩:=h
  obtain⟨m1,e1,s1,k1⟩:=NG s r1 h1 i m op ho
  refine jZ r1 r2 i _ (Su s r1 h1 i m op ho) ?_
  rw[e1]
  exact yf r r2 h2 _ _ _ (fun o hx=>by have:=ho o hx;lia)
end
def Ww (R:List Row) (m:Mm) (p:Nat):Prop:=∃x e,m p=some (.op x (some e))/\p<=e/\e<R.length/\∀y,x=some y->y<R.length
def vS (R:List Row) (m:Mm) (p:Nat):Prop:=∀k w,R[p]?=some (k,w)->
 (w=.pU->∃o x e,m p=some (.back o)/\m o=some (.op x (some e))/\p<=e/\e<R.length)/\
 (w=.fin->∃o k' w',m p=some (.back o)/\R[o]?=some (k',w')/\(w'=.ifs\/w'=.fj))/\
 (w=.ifs\/w=.fj->Ww R m p)
theorem jk{R:List Row}{m:Mm}{p:Nat}{k:Int}{w:Wd}(h:R[p]?=some (k,w))(h1:w≠.pU)(h2:w≠.fin)(h3:w≠.ifs)(h4:w≠.fj):vS R m p:=fun k' w' e=>by
 rw[h] at e
 cases e
 exact⟨fun z=>absurd z h1,fun z=>absurd z h2,fun z=>z.elim (fun z=>absurd z h3) (fun z=>absurd z h4)⟩
theorem qD{R:List Row}{m:Mm}{p e:Nat}{x:Option Nat}{k:Int}{w:Wd}(h:R[p]?=some (k,w))(hw:w=.ifs\/w=.fj)(hm:m p=some (.op x (some e)))(he:p<=e)(le:e<R.length)(lx:∀y,x=some y->y<R.length):vS R m p:=fun k' w' q=>by
 rw[h] at q
 cases q
 exact⟨fun z=>(by rcases hw with rfl |rfl<;>cases z),fun z=>(by rcases hw with rfl |rfl<;>cases z),fun _=>⟨x,e,hm,he,le,lx⟩⟩
theorem tj{R:List Row}{m:Mm}{p o:Nat}{k k':Int}{w':Wd}(h:R[p]?=some (k,.fin))(hm:m p=some (.back o))(ho:R[o]?=some (k',w'))(hw:w'=.ifs\/w'=.fj):vS R m p:=fun k2 w2 q=>by
 rw[h] at q
 cases q
 exact⟨fun z=>(by cases z),fun _=>⟨o,k',w',hm,ho,hw⟩,fun z=>(by rcases z with z |z<;>cases z)⟩
theorem FK{R:List Row}{m:Mm}{p o e:Nat}{x:Option Nat}{k:Int}(h:R[p]?=some (k,.pU))(hm:m p=some (.back o))(ho:m o=some (.op x (some e)))(h1:p<=e)(h2:e<R.length):vS R m p:=fun k2 w2 q=>by
 rw[h] at q
 cases q
 exact⟨fun _=>⟨o,x,e,hm,ho,h1,h2⟩,fun z=>(by cases z),fun z=>(by rcases z with z |z<;>cases z)⟩
mutual
theorem LP{R:List Row}{m:Mm}:∀(s:bH) {i:Nat} {rs:List Row},dR m s i rs->At R i rs->∀j,j<rs.length->vS R m (i+j)
 |.ifs k sg l r a b,i,rs,h,ha,j,hj=>by
  rw[dR] at h
  rcases h with ⟨ra,n,h1,rfl,rfl,m1,m2⟩ |⟨ra,rb,n,x,h1,h2,rfl,m1,m2,m3⟩
  ·have r0:=ha.head
   have Sv:=ha.tail.left
   have r2:=ha.tail.right.head
   have l2:=(mB r2).1
   simp only[V0,Zc,zak] at hj
   rcases zce j with rfl |jp
   ·exact qD r0 (.inl rfl) m1 (by lia) l2 (fun _ z=>by cases z)
   ·by_cases hz:j<ra.length+1
    ·have:=pG a h1 Sv (j-1) (by lia)
     rw[show i+1+(j-1)=i+j by lia] at this
     exact this
    ·rw[show i+j=i+1+ra.length by lia]
     exact tj r2 m2 r0 (.inl rfl)
  ·have r0:=ha.head
   have Sv:=ha.tail.left
   have r2:=ha.tail.right.head
   have Zf:=ha.tail.right.tail.left
   have r3:=ha.tail.right.tail.right.head
   rw[show i+1+ra.length+1+rb.length=i+2+ra.length+rb.length by lia] at r3
   rw[show i+1+ra.length+1=i+2+ra.length by lia] at Zf
   have l2:=(mB r2).1
   have l3:=(mB r3).1
   simp only[V0,Zc,zak] at hj
   rcases zce j with rfl |jp
   ·exact qD r0 (.inl rfl) m1 (by lia) l3 (fun _ z=>by cases z;exact l2)
   ·by_cases hz:j<ra.length+1
    ·have:=pG a h1 Sv (j-1) (by lia)
     rw[show i+1+(j-1)=i+j by lia] at this
     exact this
    ·by_cases hy:j=ra.length+1
     ·rw[show i+j=i+1+ra.length by lia]
      exact FK r2 m2 m1 (by lia) l3
     ·by_cases hx:j<ra.length+2+rb.length
      ·have:=pG b h2 Zf (j-2-ra.length) (by lia)
       rw[show i+2+ra.length+(j-2-ra.length)=i+j by lia] at this
       exact this
      ·rw[show i+j=i+2+ra.length+rb.length by lia]
       exact tj r3 m3 r0 (.inl rfl)
 |.fj k sg l r a,i,rs,h,ha,j,hj=>by
  rw[dR] at h
  obtain⟨ra,n,h1,rfl,m1,m2⟩:=h
  have r0:=ha.head
  have Sv:=ha.tail.left
  have r2:=ha.tail.right.head
  have l2:=(mB r2).1
  simp only[V0,Zc,zak] at hj
  rcases zce j with rfl |jp
  ·exact qD r0 (.inr rfl) m1 (by lia) l2 (fun _ z=>by cases z)
  ·by_cases hz:j<ra.length+1
   ·have:=pG a h1 Sv (j-1) (by lia)
    rw[show i+1+(j-1)=i+j by lia] at this
    exact this
   ·rw[show i+j=i+1+ra.length by lia]
    exact tj r2 m2 r0 (.inr rfl)
 |.ask k _,i,rs,h,ha,j,hj=>by rw[dR] at h;subst h;have:=ha.head;simp at hj;subst hj;exact jk this (by simp) (by simp) (by simp) (by simp)
 |.put k _ _,i,rs,h,ha,j,hj=>by rw[dR] at h;subst h;have:=ha.head;simp at hj;subst hj;exact jk this (by simp) (by simp) (by simp) (by simp)
 |.say k _,i,rs,h,ha,j,hj=>by rw[dR] at h;subst h;have:=ha.head;simp at hj;subst hj;exact jk this (by simp) (by simp) (by simp) (by simp)
 |.c9 k _ _ _,i,rs,h,ha,j,hj=>by rw[dR] at h;subst h;have:=ha.head;simp at hj;subst hj;exact jk this (by simp) (by simp) (by simp) (by simp)
 |.stop k,i,rs,h,ha,j,hj=>by rw[dR] at h;subst h;have:=ha.head;simp at hj;subst hj;exact jk this (by simp) (by simp) (by simp) (by simp)
theorem pG{R:List Row}{m:Mm}:∀(b:List bH) {i:Nat} {rs:List Row},ib m b i rs->At R i rs->∀j,j<rs.length->vS R m (i+j)
 |[],i,rs,h,ha,j,hj=>by rw[ib] at h;subst h;simp at hj
 |s::r,i,rs,h,ha,j,hj=>by
  rw[ib] at h
  obtain⟨r1,r2,h1,h2,rfl⟩:=h
  rw[Zc] at hj
  by_cases hz:j<r1.length
  ·exact LP s h1 ha.left j hz
  ·have:=pG r h2 ha.right (j-r1.length) (by lia)
   rw[show i+r1.length+(j-r1.length)=i+j by lia] at this
   exact this
end
theorem yh{b:List bH}{R:List Row}(h:cL b R)(p:Nat)(hp:p<R.length):vS R (nG R) p:=by
 obtain⟨m1,e,s,_⟩:=nv b R h 0 (fun _=>none) [] (by simp)
 have em:nG R=m1:=by unfold nG;rw[e]
 rw[em]
 have:=pG b s (R:=R) (fun j _=>by rw[zbr]) p hp
 rw[zbr] at this
 exact this
end PG
namespace PG
open PM (W Tr)
theorem rK{α:Type}(d:α){l:List α}{i:Int}(h0:0<=i)(h1:i<l.length):pick d l i∈l:=by
 unfold pick
 have lt:i.toNat<l.length:=by lia
 rw[Y7,Za lt]
 exact zah lt
section
variable{nm:W->Prop}{ex:Tr->Prop}{sg:W->Prop}
mutual
theorem LQ:∀(s x:bH),qS nm ex sg s->x∈mC s->qS nm ex sg x
 |.ifs k s l r a b,x,h,m=>by
  rw[mC] at m
  rcases Zd.mp m with rfl |m
  ·exact h
  ·rw[qS] at h
   rcases zap.mp m with m |m
   ·exact kE a x h.2.2.2.1 m
   ·exact kE b x h.2.2.2.2 m
 |.fj k s l r a,x,h,m=>by
  rw[mC] at m
  rcases Zd.mp m with rfl |m
  ·exact h
  ·rw[qS] at h
   exact kE a x h.2.2.2 m
 |.ask k b,x,h,m=>by simp only[mC,zac] at m;subst m;exact h
 |.put k b e,x,h,m=>by simp only[mC,zac] at m;subst m;exact h
 |.say k e,x,h,m=>by simp only[mC,zac] at m;subst m;exact h
 |.c9 k s l r,x,h,m=>by simp only[mC,zac] at m;subst m;exact h
 |.stop k,x,h,m=>by simp only[mC,zac] at m;subst m;exact h
theorem kE:∀(b:List bH) (x:bH),vP nm ex sg b->x∈aC b->qS nm ex sg x
 |[],x,_,m=>by simp[aC] at m
 |s::r,x,h,m=>by
  rw[aC] at m
  rw[vP] at h
  rcases zap.mp m with m |m
  ·exact LQ s x h.1 m
  ·exact kE r x h.2 m
end
end
end PG
namespace PG
open PM (W Tr)
def jl (bs:List fW):Tr->Prop
 |.num n=>0<=n/\n<1000
 |.box x=>x∈bs.map (·.name)
 |.bin o l r=>o∈([[43],[45],[42]]:List W)/\jl bs l/\jl bs r
theorem vT{bs:List fW}(sc:List Int)(q:Nat)(h:bs≠[]):(pick ⟨[],0,0⟩ bs (next sc q%bs.length)).name∈bs.map (·.name):=by
 have hp:0<bs.length:=zaY.mpr h
 exact zar.mpr ⟨_,rK _ (zaA _ (by lia)) (zaw _ (by lia)),rfl⟩
theorem Es(sc:List Int)(p q:Nat):0<=next sc p%pick 1 [3,12,1000] (next sc q%3)/\next sc p%pick 1 [3,12,1000] (next sc q%3)<1000:=by
 have m:=rK (1:Int) (l:=[3,12,1000]) (i:=next sc q%3) (zaA _ (by decide)) (zaw _ (by decide))
 generalize pick (1:Int) [3,12,1000] (next sc q%3)=z at m
 have hz:0<z/\z<=1000:=by
  simp only[Zd,zcm,or_false] at m
  rcases m with rfl |rfl |rfl<;>decide
 have h1:=zaA (next sc p) (b:=z) (by lia)
 have h2:=zaw (next sc p) (b:=z) hz.1
 lia
theorem vU(sc:List Int)(bs:List fW):∀(d p:Nat),jl bs (cH sc bs d p).1
 |0,p=>by
  unfold cH
  simp only
  split
  ·rename_i h;rw[jl];exact vT sc _ h.1
  ·rw[jl];exact Es sc _ _
 |d+1,p=>by
  unfold cH
  simp only
  split
  ·rename_i h
   rw[jl]
   have b:=jy sc p
   refine⟨rK _ (zaA _ (by decide)) (by show next sc p%7<3;exact h),vU sc bs d _,vU sc bs d _⟩
  ·split
   ·rename_i h;rw[jl];exact vT sc _ h.1
   ·rw[jl];exact Es sc _ _
theorem Io(sc:List Int)(many p:Nat):vP (·∈(fq sc p).map (·.name)) (fun e=>jl (fq sc p) e/\mz e<=2) (·∈zc) (ck sc many p).1.body:=
 vR sc many p (fun h q=>vT sc q h) (fun d q hd=>⟨vU sc _ d q,zan (rF _ _ _ _) hd⟩) (fun q=>rK _ (zaA _ (by decide)) (zaw _ (by decide)))
theorem yi(sc:List Int)(kR:Int):∀(n k p:Nat),∀x∈(bL sc kR n k p).1,2<=x.size/\x.size<=10/\0<=x.first/\x.first<x.size
 |0,k,p,x,h=>by simp[bL] at h
 |n+1,k,p,x,h=>by
  rw[bL] at h
  simp only[Zd] at h
  rcases h with rfl |h
  ·simp only
   have h3:=zaA (next sc (p+1)) (b:=2+next sc p%3) (by lia)
   have h4:=zaw (next sc (p+1)) (b:=2+next sc p%3) (by lia)
   lia
  ·exact yi sc kR n (k+1) (p+2) x h
theorem xn(sc:List Int)(p:Nat):∀x∈fq sc p,2<=x.size/\x.size<=10/\0<=x.first/\x.first<x.size:=yi sc _ _ _ _
theorem FL(sc:List Int)(p:Nat):(fq sc p).length<=3:=by
 unfold fq
 have b:=jy sc (p+1)
 rw[(jL sc (next sc p%4) (next sc (p+1)%4).toNat 0 (p+2)).1]
 lia
end PG
namespace PG
theorem Ip{R:List Row}{b:List bH}(h:cL b R):to R (nG R) 0=bt b 0:=by
 obtain⟨m1,e,s,_⟩:=nv b R h 0 (fun _=>none) [] (by simp)
 have em:nG R=m1:=by unfold nG;rw[e]
 rw[em,pF b s (fun j _=>by rw[zbr]),zbr,CF (Wr _)]
def mD (r:fk):Prop:=0<r.2.2.length/\(r.2.1=.ifs\/r.2.1=.fj->1<r.2.2.length)
mutual
theorem FN:∀(s:bH) (x:Int),∀r∈dM s x,mD r
 |.ifs k sg l r a b,x,y,h=>by
  rw[dM] at h
  simp only[Zd,zap] at h
  rcases h with rfl |h |h
  ·simp[mD]
  ·exact iZ a x y h
  ·exact iZ b x y h
 |.fj k sg l r a,x,y,h=>by
  rw[dM] at h
  simp only[Zd] at h
  rcases h with rfl |h
  ·simp[mD]
  ·exact iZ a k y h
 |.ask k _,x,y,h=>by simp[dM] at h;subst h;simp[mD]
 |.put k _ _,x,y,h=>by simp[dM] at h;subst h;simp[mD]
 |.say k _,x,y,h=>by simp[dM] at h;subst h;simp[mD]
 |.c9 k _ _ _,x,y,h=>by simp[dM] at h;subst h;simp[mD]
 |.stop k,x,y,h=>by simp[dM] at h;subst h;simp[mD]
theorem iZ:∀(b:List bH) (x:Int),∀r∈aS b x,mD r
 |[],x,y,h=>by simp[aS] at h
 |s::r,x,y,h=>by
  rw[aS,zap] at h
  rcases h with h |h
  ·exact FN s _ y h
  ·exact iZ r x y h
end
end PG
namespace PG
theorem om:∀(b:List bH) (x:Int),bt b x=x\/∃t∈aC b,t.row=bt b x
 |[],x=>.inl rfl
 |s::r,x=>.inr ⟨s,by rw[aC];exact zby _ (by cases s<;>simp[mC]),rfl⟩
mutual
theorem Iq:∀(s:bH) (x:Int),∀r∈dM s x,∀w∈r.2.2,w=0\/w=x\/∃t∈mC s,t.row=w
 |.ifs k sg l r a b,x,y,h,w,hw=>by
  rw[dM] at h
  simp only[Zd,zap] at h
  rw[mC]
  rcases h with rfl |h |h
  ·simp only[Zd,zcm,or_false] at hw
   rcases hw with rfl |rfl
   ·rcases om a x with e |⟨t,ht,e⟩
    ·exact .inr (.inl e)
    ·exact .inr (.inr ⟨t,by simp[ht],e⟩)
   ·rcases om b x with e |⟨t,ht,e⟩
    ·exact .inr (.inl e)
    ·exact .inr (.inr ⟨t,by simp[ht],e⟩)
  ·rcases oo a x y h w hw with e |e |⟨t,ht,e⟩
   ·exact .inl e
   ·exact .inr (.inl e)
   ·exact .inr (.inr ⟨t,by simp[ht],e⟩)
  ·rcases oo b x y h w hw with e |e |⟨t,ht,e⟩
   ·exact .inl e
   ·exact .inr (.inl e)
   ·exact .inr (.inr ⟨t,by simp[ht],e⟩)
 |.fj k sg l r a,x,y,h,w,hw=>by
  rw[dM] at h
  simp only[Zd] at h
  rw[mC]
  have self:w=k->∃t∈(bH.fj k sg l r a::aC a),t.row=w:=fun e=>⟨_,UH ..,e.symm⟩
  rcases h with rfl |h
  ·simp only[Zd,zcm,or_false] at hw
   rcases hw with rfl |rfl
   ·rcases om a k with e |⟨t,ht,e⟩
    ·exact .inr (.inr (self e))
    ·exact .inr (.inr ⟨t,by simp[ht],e⟩)
   ·exact .inr (.inl rfl)
  ·rcases oo a k y h w hw with e |e |⟨t,ht,e⟩
   ·exact .inl e
   ·exact .inr (.inr (self e))
   ·exact .inr (.inr ⟨t,by simp[ht],e⟩)
 |.ask k _,x,y,h,w,hw=>by simp[dM] at h;subst h;simp at hw;exact .inr (.inl hw)
 |.put k _ _,x,y,h,w,hw=>by simp[dM] at h;subst h;simp at hw;exact .inr (.inl hw)
 |.say k _,x,y,h,w,hw=>by simp[dM] at h;subst h;simp at hw;exact .inr (.inl hw)
 |.c9 k _ _ _,x,y,h,w,hw=>by simp[dM] at h;subst h;simp at hw;exact .inr (.inl hw)
 |.stop k,x,y,h,w,hw=>by simp[dM] at h;subst h;simp at hw;exact .inl hw
theorem oo:∀(b:List bH) (x:Int),∀r∈aS b x,∀w∈r.2.2,w=0\/w=x\/∃t∈aC b,t.row=w
 |[],x,y,h,_,_=>by simp[aS] at h
 |s::r,x,y,h,w,hw=>by
  rw[aS,zap] at h
  rw[aC]
  rcases h with h |h
  ·rcases Iq s _ y h w hw with e |e |⟨t,ht,e⟩
   ·exact .inl e
   ·rcases om r x with e2 |⟨t,ht,e2⟩
    ·exact .inr (.inl (e.trans e2))
    ·exact .inr (.inr ⟨t,zat _ ht,e2.trans e.symm⟩)
   ·exact .inr (.inr ⟨t,zby _ ht,e⟩)
  ·rcases oo r x y h w hw with e |e |⟨t,ht,e⟩
   ·exact .inl e
   ·exact .inr (.inl e)
   ·exact .inr (.inr ⟨t,zat _ ht,e⟩)
end
noncomputable def Ir (b:List bH) (row:Int):Nat:=(aC b).findIdx (fun s=>s.row==row)
theorem Et{b:List bH}(pw:(aC b).Pairwise (fun a b=>a.row<b.row))(i:Nat)(hi:i<(aC b).length):Ir b (aC b)[i].row=i:=by
 unfold Ir
 rw[List.findIdx_eq hi]
 refine⟨by simp,fun j hj=>?_⟩
 have:=zbm.mp pw j i (by lia) hi hj
 simp only[beq_eq_false_iff_ne,ne_eq]
 lia
inductive kb where
 |on |out |c9 (row:Int) |fin
deriving DecidableEq
structure Sw where
 rows:List Int
 LR:List Int
 fin:kb
section
variable(ask:Int->Bool)(step:Int->List Int->Int->Option (Int×List Int)×Option Int)
noncomputable def take1 (a:Bool) (iw:List Int):Option (Int×List Int):=if a then (match iw with |[]=>none |f::r=>some (f,r)) else some (0,iw)
end
end PG
namespace L2
open PySem
noncomputable def hV:PG.Wd->Str
 |.ask=>"ask" |.put=>"put" |.say=>"say" |.c9=>"must" |.stop=>"stop" |.ifs=>"if" |.fj=>"while" |.pU=>"else" |.fin=>"end"
mutual
noncomputable def dq:PG.bH->Dp
 |.ask k b=>.tup [.str "ask",.int k,.str (S b)]
 |.put k b e=>.tup [.str "put",.int k,.str (S b),ji e]
 |.say k e=>.tup [.str "say",.int k,ji e]
 |.c9 k sg l r=>.tup [.str "must",.int k,.str (S sg),ji l,ji r]
 |.stop k=>.tup [.str "stop",.int k]
 |.ifs k sg l r a b=>.tup [.str "if",.int k,.str (S sg),ji l,ji r,.lst (zh a),.lst (zh b)]
 |.fj k sg l r a=>.tup [.str "while",.int k,.str (S sg),ji l,ji r,.lst (zh a)]
noncomputable def zh:List PG.bH->List Dp
 |[]=>[]
 |s::r=>dq s::zh r
end
theorem eV:∀l:List PG.bH,zh l=l.map dq
 |[]=>rfl
 |s::r=>by rw[zh,eV r];rfl
noncomputable def iA (b:PG.fW):Dp:=.tup [.str (S b.name),.int b.size,.int b.first]
noncomputable def i0 (p:PG.Prog):Dp:=.tup [.lst (p.aK.map iA),.lst (p.body.map dq)]
noncomputable def jm (r:PG.Row):Dp:=.lst [.int r.1,.str (hV r.2)]
noncomputable def Sx:PG.Tg->Dp
 |.row k=>.tup [.str "row",.int k]
 |.side k b=>.tup [.str "side",.int k,.bl b]
 |.c9 k=>.tup [.str "must",.int k]
 |.fin=>.tup [.str "end"]
def br (O:Addr->Prop) (H H':Hp):Prop:=∀b o,¬O b->H b=some o->H' b=some o
def Fix (K:k0) (O:Addr->Prop) (H:Hp) (d:Dp) (v:V):Prop:=∀H',br O H H'->Rep K H' d v
def eZ (K:k0) (O:Addr->Prop) (H:Hp) (ds:List Dp) (vs:List V):Prop:=∀H',br O H H'->aP K H' ds vs
section
variable{K:k0}{O O':Addr->Prop}{H H1 H2:Hp}{d:Dp}{ds:List Dp}{v:V}{vs:List V}{p:Addr}{o:HO}
theorem br.refl:br O H H:=fun _ _ _ e=>e
theorem br.trans(a:br O H H1)(b:br O H1 H2):br O H H2:=fun c u n e=>b c u n (a c u n e)
theorem br.of(s:aq H H1):br O H H1:=fun b u _ e=>s b u e
theorem br.mono(a:br O H H1)(i:∀b,O b->O' b):br O' H H1:=fun b u n e=>a b u (fun z=>n (i b z)) e
theorem br.one(a:bA p H H1)(hp:O p):br O H H1:=fun b u n e=>a b u (fun z=>n (by rw[z];exact hp)) e
theorem br.put(a:br O H H1)(hp:O p)(u:HO):br O H (upd H1 p u):=fun b w n e=>by rw[aw (fun z=>n (by rw[z];exact hp))];exact a b w n e
theorem Fix.up(f:Fix K O H d v)(u:br O H H1):Fix K O H1 d v:=fun H2 u2=>f H2 (u.trans u2)
theorem eZ.up(f:eZ K O H ds vs)(u:br O H H1):eZ K O H1 ds vs:=fun H2 u2=>f H2 (u.trans u2)
theorem Fix.rep(f:Fix K O H d v):Rep K H d v:=f H .refl
theorem eZ.Iy(f:eZ K O H ds vs):aP K H ds vs:=f H .refl
theorem Fix.sub(f:Fix K O H d v)(i:∀b,O' b->O b):Fix K O' H d v:=fun H2 u=>f H2 (u.mono i)
theorem eZ.sub(f:eZ K O H ds vs)(i:∀b,O' b->O b):eZ K O' H ds vs:=fun H2 u=>f H2 (u.mono i)
theorem Fix.apart(f:Fix K O H d v)(hp:H p=none):Fix K (fun b=>O b\/b=p) (upd H p o) d v:=fun H2 u=>f H2 fun b w n e=>by
 have np:b≠p:=aj e hp
 exact u b w (fun z=>z.elim n np) (by rw[aw np];exact e)
theorem eZ.apart(f:eZ K O H ds vs)(hp:H p=none):eZ K (fun b=>O b\/b=p) (upd H p o) ds vs:=fun H2 u=>f H2 fun b w n e=>by
 have np:b≠p:=aj e hp
 exact u b w (fun z=>z.elim n np) (by rw[aw np];exact e)
theorem eZ.nil:eZ K O H [] []:=fun _ _=>.nil
theorem eZ.cons(a:Fix K O H d v)(b:eZ K O H ds vs):eZ K O H (d::ds) (v::vs):=fun H2 u=>.cons (a H2 u) (b H2 u)
theorem eZ.snoc(b:eZ K O H ds vs)(a:Fix K O H d v):eZ K O H (ds++[d]) (vs++[v]):=fun H2 u=>(b H2 u).append (.cons (a H2 u) .nil)
theorem Fix.int{i:Int}:Fix K O H (.int i) (.int i):=fun _ _=>Rep.bw.mpr rfl
theorem Fix.str{x:Str}:Fix K O H (.str x) (.str x):=fun _ _=>Rep.bI.mpr rfl
theorem Fix.bl{x:Bool}:Fix K O H (.bl x) (.bl x):=fun _ _=>Rep.kQ.mpr rfl
theorem Fix.tup(h:H p=some (.tup vs))(n:¬O p)(f:eZ K O H ds vs):Fix K O H (.tup ds) (.ref p):=fun H2 u=>Rep.bc.mpr ⟨p,vs,rfl,.of (u p _ n h),f H2 u⟩
theorem Fix.lst(h:H p=some (.lst vs))(n:¬O p)(f:eZ K O H ds vs):Fix K O H (.lst ds) (.ref p):=fun H2 u=>Rep.bC.mpr ⟨p,vs,rfl,.of (u p _ n h),f H2 u⟩
end
structure kS(K:k0)(H:Hp)(D S:Addr)(sc:List Int)(p:Nat):Prop where
 bP:H D=some (.lst [.ref S,.int p])
 gU:H S=some (.lst (sc.map .int))
 ne:S≠D
 len:sc.length<=63
end L2
namespace L2
open PySem
section
variable(K:k0)
def tm:Sp:=fun vs H Q _=>∃(D S:Addr) (sc:List Int) (p:Nat),vs=[.ref D]/\kS K H D S sc p/\p<=100000/\∀H',bA D H H'->kS K H' D S sc (p+1)->Q (.int (PG.next sc p)) H'
end
theorem kS.same{K:k0}{H H':Hp}{D S:Addr}{sc:List Int}{p:Nat}(d:kS K H D S sc p)(s:aq H H'):kS K H' D S sc p:=⟨s _ _ d.bP,s _ _ d.gU,d.ne,d.len⟩
theorem gS.lE{K:k0}{H H':Hp}{D a:Addr}{xs:List V}(h:gS K H a xs)(u:bA D H H')(n:a≠D):gS K H' a xs:=by
 rcases h with (h |⟨o,h⟩) |h
 ·exact .inl (.inl (u _ _ n h))
 ·exact .inl (.inr ⟨o,u _ _ n h⟩)
 ·exact .inr h
theorem Eu{a:Option V}{r:St}{H:Hp}{Q:VK}:(gb 13 (a::r) H Q)=(gb 12 r H Q):=rfl
theorem Ew{a:Option V}{r:St}{H:Hp}{Q:VK}:(gb 14 (a::r) H Q)=(gb 13 r H Q):=rfl
def jE (K:k0) (O:Addr->Prop) (H:Hp) (B:Addr) (bs:List PG.fW):Prop:=Fix K O H (.lst (bs.map iA)) (.ref B)/\bs.length<=10
def Own (K:k0) (H0 H:Hp) (d:Dp) (v:V):Prop:=∀O:Addr->Prop,(∀b,O b->H0 b≠none)->Fix K O H d v
section
variable(K:k0)
def vV (n:Nat):Sp:=fun vs H Q _=>∃(D S B:Addr) (sc:List Int) (p d:Nat) (bs:List PG.fW),vs=[.ref D,.ref B,.int d]/\d<n/\kS K H D S sc p/\p+4*2 ^ d<=100000/\jE K (·=D) H B bs/\
 ∀v H',bA D H H'->kS K H' D S sc (PG.cH sc bs d p).2->Own K H H' (ji (PG.cH sc bs d p).1) v->Q v H'
def CJ:Sp:=fun vs H Q _=>∃(D S:Addr) (sc:List Int) (p:Nat),vs=[.ref D]/\kS K H D S sc p/\p<=90000/\
 ∀B H',bA D H H'->kS K H' D S sc (PG.bL sc (PG.next sc p%4) (PG.next sc (p+1)%4).toNat 0 (p+2)).2->H B=none->
  Own K H H' (.lst ((PG.bL sc (PG.next sc p%4) (PG.next sc (p+1)%4).toNat 0 (p+2)).1.map iA)) (.ref B)->Q (.ref B) H'
def CK:Sp:=fun vs H Q _=>∃(D S B:Addr) (sc:List Int) (p:Nat) (k:Int) (bs:List PG.fW),vs=[.ref D,.ref B,.int k]/\kS K H D S sc p/\p<=90000/\jE K (·=D) H B bs/\
 ∀v H',bA D H H'->kS K H' D S sc (PG.bW sc bs k p).2->Own K H H' (dq (PG.bW sc bs k p).1) v->Q v H'
end
section
variable{K:k0}{O:Addr->Prop}{H0 H H1:Hp}{d:Dp}{v:V}{D B:Addr}{bs:List PG.fW}
theorem Own.up(f:Own K H0 H d v)(u:bA D H H1)(hD:H0 D≠none):Own K H0 H1 d v:=fun O hO=>by
 have:=f (fun b=>O b\/b=D) (fun b hb=>hb.elim (hO b) (fun e=>e▸hD))
 exact(this.up (br.one u (.inr rfl))).sub fun b hb=>.inl hb
theorem Own.back{Zg:Hp}(f:Own K H0 H d v)(h:∀b,Zg b≠none->H0 b≠none):Own K Zg H d v:=fun O hO=>f O fun b hb=>h b (hO b hb)
theorem jE.up(f:jE K (·=D) H B bs)(u:bA D H H1):jE K (·=D) H1 B bs:=⟨f.1.up (br.one u rfl),f.2⟩
theorem jE.same(f:jE K (·=D) H B bs)(s:aq H H1):jE K (·=D) H1 B bs:=⟨f.1.up (.of s),f.2⟩
theorem bA.pV(u:bA D H H1)(hD:H1 D≠none):∀b,H b≠none->H1 b≠none:=fun b hb=>by
 by_cases e:b=D
 ·rw[e];exact hD
 ·cases z:H b with
  |none=>exact absurd z hb
  |some o=>rw[u b o e z];simp
theorem jE.list(f:jE K O H B bs):∃xs,gS K H B xs/\xs.length=bs.length/\∀(i:Nat) (b:PG.fW),bs[i]?=some b->∃a ys,xs[i]?=some (.ref a)/\b8 K H a ys/\ys=[.str (S b.name),.int b.size,.int b.first]:=by
 have r:=f.1.rep
 rw[Rep.bC] at r
 obtain⟨a,xs,e,q,rs⟩:=r
 cases e
 refine⟨xs,q,by rw[rs.length,Zb],fun i b hb=>?_⟩
 obtain⟨v,hv,rv⟩:=rs.get (i:=i) (d:=iA b) (by rw[UB,hb];rfl)
 unfold iA at rv
 rw[Rep.bc] at rv
 obtain⟨a2,ys,rfl,q2,r2⟩:=rv
 refine⟨a2,ys,hv,q2,?_⟩
 rw[aP.aI] at r2
 obtain⟨v1,t1,rfl,e1,r2⟩:=r2
 rw[aP.aI] at r2
 obtain⟨v2,t2,rfl,e2,r2⟩:=r2
 rw[aP.aI] at r2
 obtain⟨v3,t3,rfl,e3,r2⟩:=r2
 rw[aP.bh] at r2
 subst r2
 rw[Rep.bI] at e1
 rw[Rep.bw] at e2 e3
 subst e1 e2 e3
 rfl
end
def lG (K:k0) (H0 H:Hp) (ds:List Dp) (vs:List V):Prop:=∀O:Addr->Prop,(∀b,O b->H0 b≠none)->eZ K O H ds vs
section
variable{K:k0}{H0 H H1:Hp}{d:Dp}{v:V}{ds:List Dp}{vs:List V}{D p:Addr}
theorem lG.nil:lG K H0 H [] []:=fun _ _=>eZ.nil
theorem lG.cons(a:Own K H0 H d v)(b:lG K H0 H ds vs):lG K H0 H (d::ds) (v::vs):=fun O h=>eZ.cons (a O h) (b O h)
theorem Own.int{i:Int}:Own K H0 H (.int i) (.int i):=fun _ _=>Fix.int
theorem Own.str{x:Str}:Own K H0 H (.str x) (.str x):=fun _ _=>Fix.str
theorem Own.bl{x:Bool}:Own K H0 H (.bl x) (.bl x):=fun _ _=>Fix.bl
theorem lG.same(f:lG K H0 H ds vs)(s:aq H H1):lG K H0 H1 ds vs:=fun O hO=>(f O hO).up (.of s)
theorem jM(hp:H p=none)(pV:∀b,H0 b≠none->H b≠none)(f:lG K H0 H ds vs):Own K H0 (upd H p (.tup vs)) (.tup ds) (.ref p):=fun O hO=>by
 have np:¬O p:=fun z=>pV p (hO p z) hp
 exact Fix.tup ae np ((f.same (aq.new hp _)) O hO)
end
theorem jE.pick{K:k0}{O:Addr->Prop}{H:Hp}{B:Addr}{bs:List PG.fW}(f:jE K O H B bs){i:Int}(h0:0<=i)(h1:i<bs.length){Q:VK}(q:Q (.str (S (PG.pick ⟨[],0,0⟩ bs i).name)) H) :
 AI K (.ref B) (.int i) H (fun x H1=>Ck K x (.int 0) H1 Q):=by
 obtain⟨xs,hx,_,get⟩:=f.list
 have lt:i.toNat<bs.length:=by lia
 have e:bs[i.toNat]?=some (PG.pick ⟨[],0,0⟩ bs i):=by
  unfold PG.pick
  rw[Y7,Za lt]
  rfl
 obtain⟨a,ys,hy,q2,rfl⟩:=get _ _ e
 have ei:i=((i.toNat:Nat):Int):=by lia
 refine bJ hx (v:=.ref a) (by rw[ei];exact av hy) (aM q2 (v:=.str (S (PG.pick ⟨[],0,0⟩ bs i).name)) (av (j:=0) rfl) q)
theorem lG.up{K:k0}{H0 H H1:Hp}{ds:List Dp}{vs:List V}{D:Addr}(f:lG K H0 H ds vs)(u:bA D H H1)(hD:H0 D≠none):lG K H0 H1 ds vs:=fun O hO=>by
 have:=f (fun b=>O b\/b=D) (fun b hb=>hb.elim (hO b) (fun e=>e▸hD))
 exact(this.up (br.one u (.inr rfl))).sub fun b hb=>.inl hb
theorem lG.snoc{K:k0}{H0 H:Hp}{d:Dp}{v:V}{ds:List Dp}{vs:List V}(b:lG K H0 H ds vs)(a:Own K H0 H d v):lG K H0 H (ds++[d]) (vs++[v]):=fun O h=>eZ.snoc (b O h) (a O h)
theorem Pq{K:k0}{H0 H:Hp}{ds:List Dp}{vs xs ys:List V}{B:Addr}(h:H B=some (.lst xs))(f:lG K H0 H ds vs)(hB:H0 B≠none):lG K H0 (upd H B (.lst ys)) ds vs:=f.up ((bA.refl B H).put _) hB
noncomputable def rL:Nat->Str
 |0=>"all"
 |1=>"if"
 |2=>"else"
 |_=>"while"
structure fz(K:k0)(Oo:Addr->Prop)(H:Hp)(f:PG.Frame)(a b:Addr)(hd fi:V)(xs:List V):Prop where
 fr:H a=some (.lst [.str (rL f.kind),.ref b,hd,fi])
 bd:H b=some (.lst xs)
 ok:eZ K Oo H (f.body.map dq) xs
 FO:f.kind≠0->∃c ys,hd=.ref c/\H c=some (.tup ys)/\¬Oo c/\eZ K Oo H [.str (if f.kind=3 then "while" else "if"),.int f.k,.str (S f.sg),ji f.l,ji f.r] ys
 Iz:f.kind=2->Fix K Oo H (.lst (f.first.map dq)) fi
 len:xs.length=f.body.length
abbrev xg:=PG.Frame×Addr×Addr
noncomputable def iB (D P R:Addr) (dG:List xg):List Addr:=D::P::R::dG.flatMap fun x=>[x.2.1,x.2.2]
def O (D P R:Addr) (dG:List xg) (E:List Addr):Addr->Prop:=fun b=>b∈iB D P R dG\/b∈E
structure lH(K:k0)(H:Hp)(D S:Addr)(sc:List Int)(p:Nat)(B:Addr)(bs:List PG.fW)(P R:Addr)(dG:List xg)(rows:List PG.Row)(E:List Addr):Prop where
 bP:kS K H D S sc p
 box:Fix K (O D P R dG E) H (.lst (bs.map iA)) (.ref B)
 um:bs.length<=10
 aX:H P=some (.lst (dG.reverse.map fun x=>.ref x.2.1))
 frames:∀x∈dG,∃hd fi xs,fz K (O D P R dG E) H x.1 x.2.1 x.2.2 hd fi xs
 rows:∃xh,H R=some (.lst xh)/\eZ K (O D P R dG E) H (rows.map jm) xh/\xh.length=rows.length
 nd:(iB D P R dG).Nodup
 nS:S ∉ iB D P R dG
section
variable{K:k0}{H H':Hp}{D S B P R:Addr}{sc:List Int}{p p':Nat}{bs:List PG.fW}{dG:List xg}{rows:List PG.Row}{E E':List Addr}
theorem fz.up{Oo:Addr->Prop}{f:PG.Frame}{a b:Addr}{hd fi:V}{xs:List V}(x:fz K Oo H f a b hd fi xs)(u:br Oo H H')(ha:H' a=H a)(hb:H' b=H b):fz K Oo H' f a b hd fi xs:=
 ⟨ha.trans x.fr,hb.trans x.bd,x.ok.up u,fun z=>let ⟨c,ys,e,h,n,g⟩:=x.FO z;⟨c,ys,e,u _ _ n h,n,g.up u⟩,fun z=>(x.Iz z).up u,x.len⟩
theorem fz.sub{O1 O2:Addr->Prop}{f:PG.Frame}{a b:Addr}{hd fi:V}{xs:List V}(x:fz K O1 H f a b hd fi xs)(i:∀c,O2 c->O1 c):fz K O2 H f a b hd fi xs:=
 ⟨x.fr,x.bd,x.ok.sub i,fun z=>let ⟨c,ys,e,h,n,g⟩:=x.FO z;⟨c,ys,e,h,fun w=>n (i c w),g.sub i⟩,fun z=>(x.Iz z).sub i,x.len⟩
theorem fz.apart{O1:Addr->Prop}{f:PG.Frame}{a b q:Addr}{hd fi:V}{xs:List V}{o:HO}(x:fz K O1 H f a b hd fi xs)(hq:H q=none):fz K (fun c=>O1 c\/c=q) (upd H q o) f a b hd fi xs:=
 ⟨by rw[aw (aj x.fr hq)];exact x.fr,by rw[aw (aj x.bd hq)];exact x.bd,x.ok.apart hq,fun z=>let ⟨c,ys,e,h,n,g⟩:=x.FO z;⟨c,ys,e,by rw[aw (aj h hq)];exact h,fun w=>w.elim n (aj h hq),g.apart hq⟩,fun z=>(x.Iz z).apart hq,x.len⟩
theorem lH.ne(s:lH K H D S sc p B bs P R dG rows E):D≠P/\D≠R/\P≠R/\∀x∈dG,x.2.1≠D/\x.2.2≠D/\x.2.1≠P/\x.2.2≠P/\x.2.1≠R/\x.2.2≠R:=by
 have nd:=s.nd
 unfold iB at nd
 rw[zaq,zaq,zaq] at nd
 obtain⟨h1,h2,h3,h4⟩:=nd
 simp only[Zd,not_or] at h1 h2
 refine⟨h1.1,h1.2.1,h2.1,fun x hx=>?_⟩
 have m1:x.2.1∈dG.flatMap fun x=>[x.2.1,x.2.2]:=zaL.mpr ⟨x,hx,by simp⟩
 have m2:x.2.2∈dG.flatMap fun x=>[x.2.1,x.2.2]:=zaL.mpr ⟨x,hx,by simp⟩
 exact⟨fun e=>h1.2.2 (e▸m1),fun e=>h1.2.2 (e▸m2),fun e=>h2.2 (e▸m1),fun e=>h2.2 (e▸m2),fun e=>h3 (e▸m1),fun e=>h3 (e▸m2)⟩
theorem lH.pV(s:lH K H D S sc p B bs P R dG rows E):∀b,b∈iB D P R dG->H b≠none:=fun b hb=>by
 unfold iB at hb
 simp only[Zd,zaL] at hb
 rcases hb with rfl |rfl |rfl |⟨x,hx,hb⟩
 ·rw[s.bP.bP];simp
 ·rw[s.aX];simp
 ·obtain⟨xh,h,_⟩:=s.rows
  rw[h];simp
 ·obtain⟨hd,fi,xs,fa⟩:=s.frames x hx
  simp only[zaG,or_false] at hb
  rcases hb with rfl |rfl
  ·rw[fa.fr];simp
  ·rw[fa.bd];simp
theorem lH.fresh(s:lH K H D S sc p B bs P R dG rows E){q:Addr}(hq:H q=none):q ∉ iB D P R dG:=fun z=>s.pV q z hq
theorem lH.draw(s:lH K H D S sc p B bs P R dG rows E)(u:bA D H H')(dk:kS K H' D S sc p'):lH K H' D S sc p' B bs P R dG rows E:=by
 obtain⟨n1,n2,n3,n4⟩:=s.ne
 have uS:br (O D P R dG E) H H':=br.one u (.inl (by simp[iB]))
 refine⟨dk,s.box.up uS,s.um,u _ _ n1.symm s.aX,fun x hx=>?_,?_,s.nd,s.nS⟩
 ·obtain⟨hd,fi,xs,fa⟩:=s.frames x hx
  obtain⟨m1,m2,_⟩:=n4 x hx
  exact⟨hd,fi,xs,fa.up uS ((u _ _ m1 fa.fr).trans fa.fr.symm) ((u _ _ m2 fa.bd).trans fa.bd.symm)⟩
 ·obtain⟨xh,h,f,l⟩:=s.rows
  exact⟨xh,u _ _ n2.symm h,f.up uS,l⟩
theorem lH.same(s:lH K H D S sc p B bs P R dG rows E)(e:aq H H'):lH K H' D S sc p B bs P R dG rows E:=s.draw (.of e) (s.bP.same e)
theorem lH.aK(s:lH K H D S sc p B bs P R dG rows E):jE K (·=D) H B bs:=⟨s.box.sub fun b hb=>.inl (by rw[show b=D from hb];simp[iB]),s.um⟩
theorem lH.less(s:lH K H D S sc p B bs P R dG rows E)(i:∀b,b∈E'->b∈E):lH K H D S sc p B bs P R dG rows E':=by
 have j:∀b,O D P R dG E' b->O D P R dG E b:=fun b hb=>hb.elim .inl fun z=>.inr (i b z)
 exact⟨s.bP,s.box.sub j,s.um,s.aX,fun x hx=>let ⟨hd,fi,xs,fa⟩:=s.frames x hx;⟨hd,fi,xs,fa.sub j⟩,let ⟨xh,h,f,l⟩:=s.rows;⟨xh,h,f.sub j,l⟩,s.nd,s.nS⟩
theorem lH.more(s:lH K H D S sc p B bs P R dG rows E){q:Addr}(hq:H q=none)(o:HO):lH K (upd H q o) D S sc p B bs P R dG rows (q::E):=by
 have j:∀b,O D P R dG (q::E) b->(O D P R dG E b\/b=q):=fun b hb=>by
  rcases hb with h |h
  ·exact .inl (.inl h)
  ·rcases Zd.mp h with h |h
   ·exact .inr h
   ·exact .inl (.inr h)
 have sm:=aq.new hq o
 exact⟨s.bP.same sm,(s.box.apart hq).sub j,s.um,sm _ _ s.aX,fun x hx=>let ⟨hd,fi,xs,fa⟩:=s.frames x hx;⟨hd,fi,xs,(fa.apart hq).sub j⟩,let ⟨xh,h,f,l⟩:=s.rows;⟨xh,sm _ _ h,(f.apart hq).sub j,l⟩,s.nd,s.nS⟩
theorem lH.row(s:lH K H D S sc p B bs P R dG rows E){xh:List V}(hR:H R=some (.lst xh)){k:Int}{w:PG.Wd}{q:Addr}(hq:H q=some (.lst [.int k,.str (hV w)]))(nq:¬O D P R dG E q):lH K (upd H R (.lst (xh++[.ref q]))) D S sc p B bs P R dG (rows++[(k,w)]) E:=by
 obtain⟨n1,n2,n3,n4⟩:=s.ne
 have mR:R∈iB D P R dG:=by simp[iB]
 have uS:br (O D P R dG E) H (upd H R (.lst (xh++[.ref q]))):=br.refl.put (.inl mR) _
 have nSR:S≠R:=fun e=>s.nS (by rw[e];exact mR)
 refine⟨⟨by rw[aw n2];exact s.bP.bP,by rw[aw nSR];exact s.bP.gU,s.bP.ne,s.bP.len⟩,s.box.up uS,s.um,by rw[aw n3];exact s.aX,fun x hx=>?_,?_,s.nd,s.nS⟩
 ·obtain⟨hd,fi,xs,fa⟩:=s.frames x hx
  obtain⟨_,_,_,_,m1,m2⟩:=n4 x hx
  exact⟨hd,fi,xs,fa.up uS (aw m1) (aw m2)⟩
 ·obtain⟨aba,h,f,l⟩:=s.rows
  rw[hR] at h
  cases h
  refine⟨_,ae,?_,by simp[l]⟩
  rw[zae]
  exact(f.up uS).snoc (Fix.lst (by rw[aw (fun e=>nq (.inl (by rw[e];exact mR)))];exact hq) nq (.cons .int (.cons .str .nil)))
theorem lH.Zh{f:PG.Frame}{a b:Addr}{r:List xg}(s:lH K H D S sc p B bs P R ((f,a,b)::r) rows E){xs:List V}(hb:H b=some (.lst xs)){st:PG.bH}{v:V}(hv:Fix K (O D P R ((f,a,b)::r) E) H (dq st) v) :
 lH K (upd H b (.lst (xs++[v]))) D S sc p B bs P R (({f with body:=f.body++[st]},a,b)::r) rows E:=by
 obtain⟨n1,n2,n3,n4⟩:=s.ne
 have mb:b∈iB D P R ((f,a,b)::r):=by simp[iB]
 have uS:br (O D P R ((f,a,b)::r) E) H (upd H b (.lst (xs++[v]))):=br.refl.put (.inl mb) _
 obtain⟨m1,m2,m3,m4,m5,m6⟩:=n4 _ (UH ..)
 have Sy:S≠b:=fun e=>s.nS (by rw[e];exact mb)
 have nd:=s.nd
 have Q3:a≠b/\∀x∈r,x.2.1≠b/\x.2.2≠b:=by
  unfold iB at nd
  rw[zaq,zaq,zaq,zas] at nd
  obtain⟨_,_,_,h4⟩:=nd
  simp only[zav,zay,zaq,Zd,not_or] at h4
  exact⟨h4.1.1,fun x hx=>⟨fun e=>h4.2.1 (zaL.mpr ⟨x,hx,by simp[e]⟩),fun e=>h4.2.1 (zaL.mpr ⟨x,hx,by simp[e]⟩)⟩⟩
 refine⟨⟨by rw[aw m2.symm];exact s.bP.bP,by rw[aw Sy];exact s.bP.gU,s.bP.ne,s.bP.len⟩,s.box.up uS,s.um,by rw[aw m4.symm,s.aX,za5,za5,zae,zae];rfl,fun x hx=>?_,?_,s.nd,s.nS⟩
 ·rcases Zd.mp hx with rfl |hx
  ·obtain⟨hd,fi,Ea,fa⟩:=s.frames _ (UH ..)
   have e:=fa.bd
   rw[hb] at e
   cases e
   have fu:=(show fz K (O D P R ((f,a,b)::r) E) H f a b hd fi xs from fa)
   refine⟨hd,fi,_,⟨by rw[aw Q3.1];exact fa.fr,ae,?_,fun z=>let ⟨c,ys,e,h,n,g⟩:=fu.FO z;⟨c,ys,e,uS _ _ n h,n,g.up uS⟩,fun z=>(fu.Iz z).up uS,by simp[fu.len]⟩⟩
   show eZ K _ _ ((f.body++[st]).map dq) _
   rw[zae]
   exact(fu.ok.up uS).snoc (hv.up uS)
  ·obtain⟨hd,fi,Ea,fa⟩:=s.frames x (zad _ hx)
   exact⟨hd,fi,Ea,fa.up uS (aw (Q3.2 x hx).1) (aw (Q3.2 x hx).2)⟩
 ·obtain⟨xh,h,g,l⟩:=s.rows
  exact⟨xh,by rw[aw m6.symm];exact h,g.up uS,l⟩
theorem lH.pop{f:PG.Frame}{a b:Addr}{r:List xg}(s:lH K H D S sc p B bs P R ((f,a,b)::r) rows E) :
 lH K (upd H P (.lst (r.reverse.map fun x=>.ref x.2.1))) D S sc p B bs P R r rows (a::b::E)/\(∃hd fi xs,fz K (O D P R r (a::b::E)) (upd H P (.lst (r.reverse.map fun x=>.ref x.2.1))) f a b hd fi xs)/\a ∉ iB D P R r/\b ∉ iB D P R r/\a≠b:=by
 obtain⟨n1,n2,n3,n4⟩:=s.ne
 have mP:P∈iB D P R ((f,a,b)::r):=by simp[iB]
 have uS:br (O D P R ((f,a,b)::r) E) H (upd H P (.lst (r.reverse.map fun x=>.ref x.2.1))):=br.refl.put (.inl mP) _
 have j:∀c,O D P R r (a::b::E) c->O D P R ((f,a,b)::r) E c:=fun c hc=>by
  simp only[O,iB,Zd,zas,zav,zay] at hc ⊢
  rcases hc with (h |h |h |h) |h |h |h
  ·exact .inl (.inl h)
  ·exact .inl (.inr (.inl h))
  ·exact .inl (.inr (.inr (.inl h)))
  ·exact .inl (.inr (.inr (.inr (.inr (.inr h)))))
  ·exact .inl (.inr (.inr (.inr (.inl h))))
  ·exact .inl (.inr (.inr (.inr (.inr (.inl h)))))
  ·exact .inr h
 have sub:∀c,c∈iB D P R r->c∈iB D P R ((f,a,b)::r):=fun c hc=>by
  simp only[iB,Zd,zas,zav,zay] at hc ⊢
  rcases hc with h |h |h |h
  ·exact .inl h
  ·exact .inr (.inl h)
  ·exact .inr (.inr (.inl h))
  ·exact .inr (.inr (.inr (.inr (.inr h))))
 have nd:=s.nd
 unfold iB at nd
 rw[zas] at nd
 simp only[zav,zay,zaq,Zd,not_or] at nd
 obtain⟨⟨d1,d2,d3,d4,d5⟩,⟨p1,p2,p3,p4⟩,⟨r1,r2,r3⟩,⟨a1,a2⟩,b1,fl⟩:=nd
 have Wx:S≠P:=fun e=>s.nS (by rw[e];exact mP)
 obtain⟨m1,m2,m3,m4,m5,m6⟩:=n4 _ (UH ..)
 refine⟨⟨⟨by rw[aw n1];exact s.bP.bP,by rw[aw Wx];exact s.bP.gU,s.bP.ne,s.bP.len⟩,(s.box.up uS).sub j,s.um,ae,fun x hx=>?_,?_,?_,fun z=>s.nS (sub _ z)⟩,?_,?_,?_,a1⟩
 ·obtain⟨hd,fi,Ea,fa⟩:=s.frames x (zad _ hx)
  obtain⟨_,_,k3,k4,_,_⟩:=n4 x (zad _ hx)
  exact⟨hd,fi,Ea,(fa.up uS (aw k3) (aw k4)).sub j⟩
 ·obtain⟨xh,h,g,l⟩:=s.rows
  exact⟨xh,by rw[aw n3.symm];exact h,(g.up uS).sub j,l⟩
 ·unfold iB
  simp only[zaq,Zd,not_or]
  exact⟨⟨d1,d2,d5⟩,⟨p1,p4⟩,r3,fl⟩
 ·obtain⟨hd,fi,Ea,fa⟩:=s.frames _ (UH ..)
  exact⟨hd,fi,Ea,(fa.up uS (aw m3) (aw m4)).sub j⟩
 ·unfold iB
  simp only[Zd,not_or]
  exact⟨m1,m3,m5,a2⟩
 ·unfold iB
  simp only[Zd,not_or]
  exact⟨m2,m4,m6,b1⟩
theorem lH.push(s:lH K H D S sc p B bs P R dG rows E){f:PG.Frame}{a b:Addr}{hd fi:V}{xs:List V}(fa:fz K (O D P R dG E) H f a b hd fi xs)(ha:a ∉ iB D P R dG)(hb:b ∉ iB D P R dG)(Pr:a≠b)(Wy:S≠a)(Sy:S≠b)(ea:a∈E)(eb:b∈E) :
 lH K (upd H P (.lst ((dG.reverse.map fun x=>.ref x.2.1)++[.ref a]))) D S sc p B bs P R ((f,a,b)::dG) rows E:=by
 obtain⟨n1,n2,n3,n4⟩:=s.ne
 have mP:P∈iB D P R dG:=by simp[iB]
 have uS:br (O D P R dG E) H (upd H P (.lst ((dG.reverse.map fun x=>.ref x.2.1)++[.ref a]))):=br.refl.put (.inl mP) _
 have j:∀c,O D P R ((f,a,b)::dG) E c->O D P R dG E c:=fun c hc=>by
  simp only[O,iB,Zd,zas,zav,zay] at hc ⊢
  rcases hc with (h |h |h |h |h |h) |h
  ·exact .inl (.inl h)
  ·exact .inl (.inr (.inl h))
  ·exact .inl (.inr (.inr (.inl h)))
  ·exact .inr (by rw[h];exact ea)
  ·exact .inr (by rw[h];exact eb)
  ·exact .inl (.inr (.inr (.inr h)))
  ·exact .inr h
 have Wx:S≠P:=fun e=>s.nS (by rw[e];exact mP)
 unfold iB at ha hb
 simp only[Zd,not_or] at ha hb
 have nd:=s.nd
 unfold iB at nd
 simp only[zaq,Zd,not_or] at nd
 obtain⟨⟨d1,d2,d5⟩,⟨p1,p4⟩,r3,fl⟩:=nd
 have nS:=s.nS
 unfold iB at nS
 simp only[Zd,not_or] at nS
 refine⟨⟨by rw[aw n1];exact s.bP.bP,by rw[aw Wx];exact s.bP.gU,s.bP.ne,s.bP.len⟩,(s.box.up uS).sub j,s.um,by rw[ae,za5,zae];rfl,fun x hx=>?_,?_,?_,?_⟩
 ·rcases Zd.mp hx with rfl |hx
  ·exact⟨hd,fi,xs,(fa.up uS (aw ha.2.1) (aw hb.2.1)).sub j⟩
  ·obtain⟨hd,fi,Ea,fa⟩:=s.frames x hx
   obtain⟨_,_,k3,k4,_,_⟩:=n4 x hx
   exact⟨hd,fi,Ea,(fa.up uS (aw k3) (aw k4)).sub j⟩
 ·obtain⟨xh,h,g,l⟩:=s.rows
  exact⟨xh,by rw[aw n3.symm];exact h,(g.up uS).sub j,l⟩
 ·unfold iB
  rw[zas]
  simp only[zav,zay,zaq,Zd,not_or]
  exact⟨⟨d1,d2,fun e=>ha.1 e.symm,fun e=>hb.1 e.symm,d5⟩,⟨p1,fun e=>ha.2.1 e.symm,fun e=>hb.2.1 e.symm,p4⟩,⟨fun e=>ha.2.2.1 e.symm,fun e=>hb.2.2.1 e.symm,r3⟩,⟨Pr,ha.2.2.2⟩,hb.2.2.2,fl⟩
 ·unfold iB
  rw[zas]
  simp only[zav,zay,Zd,not_or]
  exact⟨nS.1,nS.2.1,nS.2.2.1,Wy,Sy,nS.2.2.2⟩
end
theorem vW{K:k0}{a D:Addr}{xs:List V}{tc:TT}{te:TE}{Q:VK}{r:St}{H:Hp}(p:Nat->Bool)(f:Nat->V)(hS:gS K H a xs)(hl:xs.length<=16000000)(hD:H D=none)
 (test:∀i x,xs[i]?=some x->∀H2,aq H H2->∀R:Bool->Hp->Prop,(∀H3,aq H2 H3->R (p i) H3)->tc (some x::r) H2 R)
 (step:∀i x,xs[i]?=some x->p i=true->∀H2,aq H H2->∀R:VK,(∀H3,aq H2 H3->R (f i) H3)->te (some x::r) H2 R)
 (q:∀H2,aq H H2->H2 D=some (.lst (((zao xs.length).filter p).map f))->Q (.ref D) H2):vI (Gx K a) D (gW 0) tc te Q (none::r) (upd H D (.lst [])):=by
 refine⟨fun i m τ H2=>m=xs.length-i/\i<=xs.length/\(∃x,τ=x::r)/\aq H H2/\H2 D=some (.lst (((zao i).filter p).map f)),⟨xs.length,by simp,zaT _,⟨none,rfl⟩,aq.new hD _,by rw[ae];simp⟩,?_⟩
 rintro i m τ H2 ⟨rfl,hi,⟨x,rfl⟩,s2,h2⟩
 by_cases uJ:i<xs.length
 ·refine .inr ⟨⟨xs,xs[i],s2.seq hS,by simp[uJ]⟩,fun τ' H'=>(∃x,τ'=x::r)/\aq H H'/\H' D=some (.lst (((zao (i+1)).filter p).map f)),fun τ' H' ⟨h1,h3,h4⟩=>⟨xs.length-(i+1),by lia,rfl,uJ,h1,h3,h4⟩,fun y H' hy=>?_⟩
  obtain⟨rfl,hy⟩:=hy
  have ey:=hy _ (s2.seq hS)
  simp only[gW,zaN]
  refine test i y ey _ s2 _ fun H3 s3=>?_
  have Wz:=s2.trans s3
  have h3:=s3 _ _ h2
  rw[zbg,zaI,zae]
  cases hp:p i with
  |false=>
   rw[if_neg WC]
   exact⟨⟨_,rfl⟩,Wz,by rw[h3];simp[hp]⟩
  |true=>
   rw[if_pos rfl]
   refine step i y ey hp _ Wz _ fun H4 s4=>⟨_,s4 _ _ h3,?_,⟨_,rfl⟩,?_,?_⟩
   ·have h1:(((zao i).filter p).map f).length<=i:=by
     rw[Zb]
     exact zan (List.length_filter_le _ _) (by rw[zbc];lia)
    have:zcz=2 ^ 24:=rfl
    lia
   ·intro b o e
    rw[aw (aj e hD)]
    exact s4 _ _ (Wz _ _ e)
   ·rw[ae]
    simp[hp]
 ·have e:i=xs.length:=by lia
  subst e
  exact .inl ⟨⟨xs,s2.seq hS,Wr _⟩,q H2 s2 h2⟩
theorem Be{α:Type}(p:α->Bool)(d:α):∀l:List α,((zao l.length).filter fun i=>p (l.getD i d)).length=(l.filter p).length:=by
 intro l
 have e:l=(zao l.length).map fun i=>l.getD i d:=by
  apply zbA
  ·simp
  ·intro i h1 h2
   simp[h1]
 conv=>rhs;rw[e]
 rw[List.filter_map,Zb]
 rfl
section
variable(K:k0)
def IA:Sp:=fun vs H Q _=>∃(B R:Addr) (bs:List PG.fW) (rows:List PG.Row) (mode:Int),vs=[.ref B,.ref R,.int mode]/\Rep K H (.lst (bs.map iA)) (.ref B)/\Rep K H (.lst (rows.map jm)) (.ref R)/\bs.length<=10/\rows.length<=1000/\
 ∀H',aq H H'->Q (.int (PG.number bs.length rows mode)) H'
def LS:Sp:=fun vs H Q _=>∃(D S:Addr) (sc:List Int) (p:Nat) (B:Addr) (bs:List PG.fW) (P R:Addr) (f g:PG.Frame) (a b a' b':Addr) (r:List xg) (rows:List PG.Row),vs=[.ref P]/\
 lH K H D S sc p B bs P R ((f,a,b)::(g,a',b')::r) rows []/\(f.kind=1\/f.kind=2\/f.kind=3)/\g.body.length<=1000/\r.length<=10/\
 ∀H',(∀c,H c≠none->H' c≠none)->(∀c o,c ∉ iB D P R ((f,a,b)::(g,a',b')::r)->H c=some o->H' c=some o)->lH K H' D S sc p B bs P R (({g with body:=g.body++[f.told]},a',b')::r) rows []->Q .cD H'
end
theorem IB{X:Cx}{K:k0}(h:X.K=K):Hf X (AI K):=h▸bj
theorem i8{X:Cx}{K:k0}(h:X.K=K):Hf X (Ck K):=h▸aR
theorem FP{X:Cx}{K:k0}(h:X.K=K):qz X (compareOp .NotIn) (Wb K true):=h▸rm
section
variable(K:k0)
noncomputable def FQ (x:PG.Prog×List PG.Row):Dp:=.lst [i0 x.1,.lst (x.2.map jm)]
end
def Kept (D:Addr) (H H':Hp):Prop:=bA D H H'/\∀b,H b≠none->H' b≠none
theorem Kept.up{D:Addr}{H H1 H2:Hp}(k:Kept D H H1)(u:bA D H1 H2)(hD:H2 D≠none):Kept D H H2:=⟨k.1.trans u,fun b hb=>u.pV hD b (k.2 b hb)⟩
theorem Kept.same{D:Addr}{H H1 H2:Hp}(k:Kept D H H1)(s:aq H1 H2):Kept D H H2:=⟨k.1.trans (.of s),fun b hb=>by
 have:=k.2 b hb
 cases z:H1 b with
 |none=>exact absurd z this
 |some o=>rw[s _ _ z];simp⟩
theorem Kept.put{D q:Addr}{H H1:Hp}(k:Kept D H H1)(hq:H q=none)(o:HO):Kept D H (upd H1 q o):=⟨fun b u n e=>by rw[aw (aj e hq)];exact k.1 b u n e,fun b hb=>by
 by_cases z:b=q
 ·rw[z,ae];simp
 ·rw[aw z];exact k.2 b hb⟩
theorem zi{c:TT}{ta tb:TS}{D:Ends}{σ:St}{H:Hp}(h:∀U:St->Hp->Prop,(∀σ' H',tb D σ' H'->U σ' H')->GU c ta (fun _ σ H=>U σ H) D σ H):GU c ta tb D σ H:=h (tb D) fun _ _ x=>x
theorem IC{K:k0}{H:Hp}:∀(s:PG.bH) {v:V},Rep K H (dq s) v->∃a ys,v=.ref a/\b8 K H a (.str (hV s.wd)::ys):=by
 intro s v h
 have key:∃ds,dq s=.tup (.str (hV s.wd)::ds):=by
  cases s<;>exact⟨_,by rw[dq];rfl⟩
 obtain⟨ds,e⟩:=key
 rw[e,Rep.bc] at h
 obtain⟨a,xs,rfl,q,r⟩:=h
 rw[aP.aI] at r
 obtain⟨v1,t1,rfl,e1,_⟩:=r
 rw[Rep.bI] at e1
 subst e1
 exact⟨a,t1,rfl,q⟩
noncomputable def aJ:PG.bH->List (List PG.bH)
 |.ifs _ _ _ _ a b=>[a,b]
 |.fj _ _ _ _ a=>[a]
 |_=>[]
noncomputable def iC (s:PG.bH) (x:Int):Int:=match s with
 |.fj k _ _ _ _=>k
 |_=>x
noncomputable def ou (s:PG.bH) (x:Int):List Int:=match s with
 |.stop _=>[0]
 |.ifs _ _ _ _ a b=>[PG.bt a x,PG.bt b x]
 |.fj k _ _ _ a=>[PG.bt a k,x]
 |_=>[x]
theorem ID(s:PG.bH)(x:Int):PG.dM s x=(s.row,s.wd,ou s x)::((aJ s).flatMap fun b=>PG.aS b (iC s x)):=by
 cases s<;>simp[PG.dM,PG.bH.row,PG.bH.wd,ou,aJ,iC]
noncomputable def gh (r:PG.fk):Dp:=.tup [.int r.1,.str (hV r.2.1),.tup (r.2.2.map .int)]
section
variable(K:k0)
def rM:Sp:=fun vs H Q _=>∃(b:Addr) (body:List PG.bH) (x:Int),vs=[.ref b,.int x]/\Rep K H (.lst (body.map dq)) (.ref b)/\body.length<=100000/\Q (.int (PG.bt body x)) H
def Bf:Sp:=fun vs H Q _=>∃(v:V) (st:PG.bH) (x:Int),vs=[v,.int x]/\Rep K H (dq st) v/\Q (.int (iC st x)) H
def vX:Sp:=fun vs H Q _=>∃(v:V) (st:PG.bH) (H0:Hp),vs=[v]/\Rep K H0 (dq st) v/\aq H0 H/\∀l us H',aq H H'->H l=none->H' l=some (.lst us)->aP K H0 ((aJ st).map fun b=>.lst (b.map dq)) us->Q (.ref l) H'
end
theorem ig{K:k0}{H:Hp}:∀(s:PG.bH) {v:V},Rep K H (dq s) v->∃a ys,v=.ref a/\b8 K H a (.str (hV s.wd) :: .int s.row::ys):=by
 intro s v h
 have key:∃ds,dq s=.tup (.str (hV s.wd) :: .int s.row::ds):=by
  cases s<;>exact⟨_,by rw[dq];rfl⟩
 obtain⟨ds,e⟩:=key
 rw[e,Rep.bc] at h
 obtain⟨a,xs,rfl,q,r⟩:=h
 rw[aP.aI] at r
 obtain⟨v1,t1,rfl,e1,r⟩:=r
 rw[aP.aI] at r
 obtain⟨v2,t2,rfl,e2,_⟩:=r
 rw[Rep.bI] at e1
 rw[Rep.bw] at e2
 subst e1 e2
 exact⟨a,t2,rfl,q⟩
section
variable(K:k0)
def IE (st:PG.bH):Prop:=∀b∈aJ st,b.length<=100000
def IF:Sp:=fun vs H Q _=>∃(v:V) (st:PG.bH) (x:Int),vs=[v,.int x]/\Rep K H (dq st) v/\IE st/\∀u H',aq H H'->Rep K H' (.tup ((ou st x).map .int)) u->Q u H'
end
mutual
noncomputable def BY:Dp->Bool
 |.lst _=>false
 |.tup l=>ox l
 |_=>true
noncomputable def ox:List Dp->Bool
 |[]=>true
 |d::r=>BY d&&ox r
end
section
variable{K:k0}{H H':Hp}{tl:Addr}{xs:List V}
mutual
theorem Bg(h:H tl=some (.lst xs))(u:br (·=tl) H H'):∀(d:Dp) (v:V),BY d=true->Rep K H d v->Rep K H' d v
 |.cD,v,_,r=>by rw[Rep.jK] at r ⊢;exact r
 |.bl b,v,_,r=>by rw[Rep.kQ] at r ⊢;exact r
 |.int b,v,_,r=>by rw[Rep.bw] at r ⊢;exact r
 |.str b,v,_,r=>by rw[Rep.bI] at r ⊢;exact r
 |.lst l,v,e,_=>by rw[BY] at e;cases e
 |.tup l,v,e,r=>by
  rw[BY] at e
  rw[Rep.bc] at r ⊢
  obtain⟨a,ys,rfl,q,rs⟩:=r
  refine⟨a,ys,rfl,?_,tq h u l ys e rs⟩
  rcases q with (q |⟨o,q⟩) |q
  ·exact .inl (.inl (u _ _ (bR q h (by intro z;cases z)) q))
  ·exact .inl (.inr ⟨o,u _ _ (bR q h (by intro z;cases z)) q⟩)
  ·exact .inr q
theorem tq(h:H tl=some (.lst xs))(u:br (·=tl) H H'):∀(ds:List Dp) (vs:List V),ox ds=true->aP K H ds vs->aP K H' ds vs
 |[],vs,_,r=>by rw[aP.bh] at r ⊢;exact r
 |d::ds,vs,e,r=>by
  rw[ox,za1] at e
  rw[aP.aI] at r ⊢
  obtain⟨v,t,rfl,r1,r2⟩:=r
  exact⟨v,t,rfl,Bg h u d v e.1 r1,tq h u ds t e.2 r2⟩
end
theorem LU(h:H tl=some (.lst xs)){ds:List Dp}{vs:List V}(e:ox ds=true)(r:aP K H ds vs):eZ K (·=tl) H ds vs:=fun _ u=>tq h u ds vs e r
theorem Pu(h:H tl=some (.lst xs)){d:Dp}{v:V}(e:BY d=true)(r:Rep K H d v):Fix K (·=tl) H d v:=fun _ u=>Bg h u d v e r
end
theorem tw:∀l:List Int,ox (l.map .int)=true
 |[]=>by simp[ox]
 |i::r=>by rw[Y9,ox,tw r];simp[BY]
theorem IG(r:PG.fk):BY (gh r)=true:=by simp[gh,BY,ox,tw]
theorem yj:∀l:List PG.fk,ox (l.map gh)=true
 |[]=>by simp[ox]
 |r::l=>by rw[Y9,ox,IG,yj l];rfl
section
variable(K:k0)
def vg (n:Nat):Sp:=fun vs H Q _=>∃(b:Addr) (body:List PG.bH) (x:Int),vs=[.ref b,.int x]/\Rep K H (.lst (body.map dq)) (.ref b)/\PG.fX body<n/\(PG.cK body).length<=1000/\
 ∀l us H',aq H H'->H l=none->H' l=some (.lst us)->aP K H' ((PG.aS body x).map gh) us->Q (.ref l) H'
end
mutual
theorem jN:∀(s:PG.bH) (b:List PG.bH),b∈aJ s->(PG.cK b).length+1<=(PG.g7 s).length/\PG.fX b+1<=PG.kx s
 |.ifs k _ _ _ x y,b,h=>by
  simp only[aJ,Zd,zaG,or_false] at h
  rw[PG.g7,PG.kx]
  simp only[V0,Zc]
  rcases h with rfl |rfl<;>lia
 |.fj k _ _ _ x,b,h=>by
  simp only[aJ,Zd,zaG,or_false] at h
  rw[PG.g7,PG.kx]
  simp only[V0]
  subst h
  lia
 |.ask _ _,b,h=>by cases h
 |.put _ _ _,b,h=>by cases h
 |.say _ _,b,h=>by cases h
 |.c9 _ _ _ _,b,h=>by cases h
 |.stop _,b,h=>by cases h
end
theorem pH:∀(l:List PG.bH) (s:PG.bH),s∈l->(PG.g7 s).length<=(PG.cK l).length/\PG.kx s<=PG.fX l
 |[],s,h=>by cases h
 |a::r,s,h=>by
  rw[PG.cK,PG.fX,Zc]
  rcases Zd.mp h with rfl |h
  ·lia
  ·have:=pH r s h
   lia
theorem FR(s:PG.bH):1<=(PG.g7 s).length:=by cases s<;>simp[PG.g7]
theorem j0:∀l:List PG.bH,l.length<=(PG.cK l).length
 |[]=>zaT _
 |s::r=>by
  rw[PG.cK,Zc,V0]
  have:=FR s
  have:=j0 r
  lia
section
variable(K:k0)
def CL:Sp:=fun vs H Q _=>∃(v:V) (pr:PG.Prog),vs=[v]/\Rep K H (i0 pr) v/\PG.fX pr.body<=3/\(PG.cK pr.body).length<=1000/\
 ∀l us H',aq H H'->H l=none->H' l=some (.lst us)->aP K H' ((PG.aS pr.body 0).map gh) us->Q (.ref l) H'
end
end L2
namespace L2
open PySem
section
variable{X:Cx}
def Px (K:k0):R2:=fun x y H Q=>∃d,Rep K H d x/\Rep K H d y/\(∃l,d=.lst l)/\d.deep<=60/\Q (.bl true) H
theorem LV(hu:X.A.units+64<cLine):qz X (compareOp .Eq) (Px X.K):=by
 intro pins s σ H x y v u Q I rx ry h
 obtain⟨d,h1,h2,⟨l,rfl⟩,hd,q⟩:=h
 rw[Rep.bC] at h1 h2
 obtain⟨p,xs,rfl,q1,w1⟩:=h1
 obtain⟨p',Ea,rfl,q2,w2⟩:=h2
 cases (show v=Value.ref p from rx)
 cases (show u=Value.ref p' from ry)
 obtain⟨bz,v1,t1,_⟩:=I.list q1
 obtain⟨its',v2,t2,_⟩:=I.list q2
 unfold Dp.deep at hd
 have items:=rC I w1 w2 v1 v2 (A:=X.A.in1) (by show X.A.units+1+_<_;lia)
 have n1:bz.length=its'.length:=by rw[<- v1.length,<- v2.length,w1.length,w2.length]
 refine SeqAt.eq_listAt (e:=fun _=>true) t1.isList t2.isList (by simpa using n1) (by lia) (fun j h1 h2=>items j bz[j] its'[j] (by simp at h1;simp[h1]) (by simp at h2;simp[h2])) ?_
 rw[all_true]
 exact⟨.bl true,H,I,rfl,q⟩
end
theorem g8:∀t:PM.Tr,(ji t).deep<=PG.mz t+1
 |.num n=>by simp[ji,Dp.deep,Dp.fF]
 |.box n=>by simp[ji,Dp.deep,Dp.fF]
 |.bin o l r=>by
  have:=g8 l
  have:=g8 r
  simp only[ji,Dp.deep,Dp.fF,PG.mz]
  lia
abbrev OkE:PG.bH->Prop:=PG.qS (fun _=>True) (fun e=>PG.mz e<=2) (fun _=>True)
abbrev Sz:List PG.bH->Prop:=PG.vP (fun _=>True) (fun e=>PG.mz e<=2) (fun _=>True)
mutual
theorem IH:∀s:PG.bH,OkE s->(dq s).deep<=2*PG.kx s+4
 |.ask k b,h=>by simp[dq,Dp.deep,Dp.fF]
 |.put k b e,h=>by
  simp only[PG.qS] at h
  have:=g8 e
  simp only[dq,Dp.deep,Dp.fF,PG.kx]
  lia
 |.say k e,h=>by
  simp only[PG.qS] at h
  have:=g8 e
  simp only[dq,Dp.deep,Dp.fF,PG.kx]
  lia
 |.c9 k sg l r,h=>by
  simp only[PG.qS] at h
  have:=g8 l
  have:=g8 r
  simp only[dq,Dp.deep,Dp.fF,PG.kx]
  lia
 |.stop k,h=>by simp[dq,Dp.deep,Dp.fF]
 |.ifs k sg l r a b,h=>by
  simp only[PG.qS] at h
  have:=g8 l
  have:=g8 r
  have:=lI a h.2.2.2.1
  have:=lI b h.2.2.2.2
  simp only[dq,Dp.deep,Dp.fF,PG.kx]
  lia
 |.fj k sg l r a,h=>by
  simp only[PG.qS] at h
  have:=g8 l
  have:=g8 r
  have:=lI a h.2.2.2
  simp only[dq,Dp.deep,Dp.fF,PG.kx]
  lia
theorem lI:∀b:List PG.bH,Sz b->Dp.fF (zh b)<=2*PG.fX b+4
 |[],h=>by simp[zh,Dp.fF]
 |s::r,h=>by
  simp only[PG.vP] at h
  have:=IH s h.1
  have:=lI r h.2
  simp only[zh,Dp.fF,PG.fX]
  lia
end
theorem vY:∀b:List PG.fW,Dp.fF (b.map iA)<=1
 |[]=>by simp[Dp.fF]
 |s::r=>by
  have:=vY r
  simp only[Y9,Dp.fF,iA,Dp.deep]
  lia
theorem yk:∀b:List PG.Row,Dp.fF (b.map jm)<=1
 |[]=>by simp[Dp.fF]
 |s::r=>by
  have:=yk r
  simp only[Y9,Dp.fF,jm,Dp.deep]
  lia
theorem LW(sc:List Int)(many p:Nat):(FQ (PG.ck sc many p)).deep<=60:=by
 have ok:Sz (PG.ck sc many p).1.body:=PG.vR sc many p (fun _ _=>trivial) (fun d q hd=>zan (PG.rF _ _ _ _) hd) (fun _=>trivial)
 have h1:=lI _ ok
 have h2:=PG.A1 sc many p
 have h3:=vY (PG.ck sc many p).1.aK
 have h4:=yk (PG.ck sc many p).2
 rw[eV] at h1
 simp only[FQ,i0,Dp.deep,Dp.fF]
 lia
theorem zj{K:k0}{H:Hp}{rows:List PG.Row}{rv:List V}(rr:aP K H (rows.map jm) rv){i:Nat}{y:V}(hi:rv[i]?=some y)(li:i<rows.length):∃a,y=.ref a/\gS K H a [.int rows[i].1,.str (hV rows[i].2)]:=by
 obtain⟨v',KI,rw_⟩:=rr.get (i:=i) (d:=jm rows[i]) (by rw[UB,Za li];rfl)
 rw[hi] at KI
 cases KI
 unfold jm at rw_
 rw[Rep.bC] at rw_
 obtain⟨a,ys,rfl,hy,ry⟩:=rw_
 rw[aP.aI] at ry
 obtain⟨v1,t1,rfl,e1,ry⟩:=ry
 rw[aP.aI] at ry
 obtain⟨v2,t2,rfl,e2,ry⟩:=ry
 rw[aP.bh] at ry
 subst ry
 rw[Rep.bI] at e2
 rw[Rep.bw] at e1
 subst e1 e2
 exact⟨a,rfl,hy⟩
theorem Ex:∀w:PG.Wd,Nm (V.str (hV w)) [V.str (v9 "if"),V.str (v9 "while")]=decide (w=.ifs\/w=.fj):=by
 intro w
 cases w<;>decide +kernel
theorem Py:∀w:PG.Wd,Nm (V.str (hV w)) [V.str (v9 "else"),V.str (v9 "end")]=decide (w=.pU\/w=.fin):=by
 intro w
 cases w<;>decide +kernel
theorem II:∀w:PG.Wd,(V.str (hV w)=V.str (v9 "must"))↔w=.c9:=by
 intro w
 cases w<;>decide +kernel
end L2
namespace L2
open PySem
noncomputable def vZ:Option Nat->V
 |none=>.cD
 |some e=>.int e
noncomputable def UG (A:Nat->Addr) (p:Nat):Option PG.Mt->Option V
 |none=>none
 |some (.back q)=>some (.int q)
 |some (.op _ _)=>some (.ref (A p))
structure ym(H:Hp)(d:Addr)(m:PG.Mm)(A:Nat->Addr)(Hx:Hp)(aG:List (Key×V)):Prop where
 s:aq H Hx
 dn:H d=none
 dd:Hx d=some (.dK aG)
 at_:∀p:Nat,cY aG (.inl (p:Int))=UG A p (m p)
 ls:∀p e f,m p=some (.op e f)->Hx (A p)=some (.lst [vZ e,vZ f])/\H (A p)=none
 inj:∀p q e f e' f',m p=some (.op e f)->m q=some (.op e' f')->A p=A q->p=q
section
variable{H Hx H':Hp}{d b:Addr}{m:PG.Mm}{A:Nat->Addr}{aG:List (Key×V)}{o:HO}
theorem ym.ne(t:ym H d m A Hx aG){p:Nat}{e f:Option Nat}(h:m p=some (.op e f)):A p≠d:=bR (t.ls p e f h).1 t.dd (by intro z;cases z)
theorem ym.same(t:ym H d m A Hx aG)(s:aq Hx H'):ym H d m A H' aG:=⟨t.s.trans s,t.dn,s _ _ t.dd,t.at_,fun p e f h=>⟨s _ _ (t.ls p e f h).1,(t.ls p e f h).2⟩,t.inj⟩
theorem ym.put(t:ym H d m A Hx aG)(hb:H b=none)(nd:b≠d)(nl:∀p e f,m p=some (.op e f)->A p≠b)(o:HO):ym H d m A (upd Hx b o) aG:=
 ⟨fun z u e=>by rw[aw (aj e hb)];exact t.s z u e,t.dn,by rw[aw nd.symm];exact t.dd,t.at_,fun p e f h=>⟨by rw[aw (nl p e f h)];exact(t.ls p e f h).1,(t.ls p e f h).2⟩,t.inj⟩
theorem rN{κ:Type}[DecidableEq κ](aG:List (κ×V))(k:κ)(v:V):(putK aG k v).length<=aG.length+1:=by
 unfold putK
 split
 ·rw[Zb];lia
 ·rw[Zc];simp
theorem ym.back(t:ym H d m A Hx aG)(p q:Nat):ym H d (m.set p (.back q)) A (upd Hx d (.dK (putK aG (.inl (p:Int)) (.int q)))) (putK aG (.inl (p:Int)) (.int q)):=by
 have key:∀j e f,(m.set p (.back q)) j=some (.op e f)->j≠p/\m j=some (.op e f):=fun j e f h=>by
  by_cases z:j=p
  ·subst z
   rw[PG.Mm.set_same] at h
   cases h
  ·rw[PG.Mm.bT _ _ z] at h
   exact⟨z,h⟩
 refine⟨fun z u e=>by rw[aw (aj e t.dn)];exact t.s z u e,t.dn,ae,fun j=>?_,fun j e f h=>?_,fun a b e f e' f' h1 h2 z=>t.inj a b e f e' f' (key a e f h1).2 (key b e' f' h2).2 z⟩
 ·rw[rq]
  by_cases z:j=p
  ·subst z
   rw[if_pos rfl,PG.Mm.set_same]
   rfl
  ·rw[if_neg (fun e=>z (by injection e with e;lia)),PG.Mm.bT _ _ z,t.at_ j]
 ·have h:=(key j e f h).2
  exact⟨by rw[aw (t.ne h)];exact(t.ls j e f h).1,(t.ls j e f h).2⟩
theorem ym.SA(t:ym H d m A Hx aG)(p:Nat)(hb:Hx b=none):ym H d (m.set p (.op none none)) (fun j=>if j=p then b else A j) (upd (upd Hx b (.lst [.cD,.cD])) d (.dK (putK aG (.inl (p:Int)) (.ref b)))) (putK aG (.inl (p:Int)) (.ref b)):=by
 have nb:b≠d:=(aj t.dd hb).symm
 have FT:H b=none:=by
  cases z:H b with
  |none=>rfl
  |some o=>rw[t.s _ _ z] at hb;cases hb
 have key:∀j e f,(m.set p (.op none none)) j=some (.op e f)->(j=p/\e=none/\f=none)\/(j≠p/\m j=some (.op e f)):=fun j e f h=>by
  by_cases z:j=p
  ·subst z
   rw[PG.Mm.set_same] at h
   cases h
   exact .inl ⟨rfl,rfl,rfl⟩
  ·rw[PG.Mm.bT _ _ z] at h
   exact .inr ⟨z,h⟩
 have old:∀j e f,m j=some (.op e f)->A j≠b:=fun j e f h=>aj (t.ls j e f h).1 hb
 refine⟨fun z u e=>by rw[aw (aj e t.dn),aw (aj e FT)];exact t.s z u e,t.dn,ae,fun j=>?_,fun j e f h=>?_,fun a c e f e' f' h1 h2 z=>?_⟩
 ·rw[rq]
  by_cases z:j=p
  ·subst z
   rw[if_pos rfl,PG.Mm.set_same]
   simp[UG]
  ·rw[if_neg (fun e=>z (by injection e with e;lia)),PG.Mm.bT _ _ z,t.at_ j]
   unfold UG
   cases m j with
   |none=>rfl
   |some x=>cases x<;>simp[z]
 ·rcases key j e f h with ⟨rfl,rfl,rfl⟩ |⟨z,h⟩
  ·rw[if_pos rfl]
   exact⟨by rw[aw nb,ae];rfl,FT⟩
  ·rw[if_neg z]
   exact⟨by rw[aw (t.ne h),aw (old j e f h)];exact(t.ls j e f h).1,(t.ls j e f h).2⟩
 ·rcases key a e f h1 with ⟨rfl,_,_⟩ |⟨z1,g1⟩<;>rcases key c e' f' h2 with ⟨rfl,_,_⟩ |⟨z2,g2⟩
  ·rfl
  ·rw[if_pos rfl,if_neg z2] at z
   exact absurd z.symm (old c _ _ g2)
  ·rw[if_neg z1,if_pos rfl] at z
   exact absurd z (old a _ _ g1)
  ·rw[if_neg z1,if_neg z2] at z
   exact t.inj a c e f e' f' g1 g2 z
theorem ym.list(t:ym H d m A Hx aG){p:Nat}{e f:Option Nat}(h:m p=some (.op e f))(e' f':Option Nat):ym H d (m.set p (.op e' f')) A (upd Hx (A p) (.lst [vZ e',vZ f'])) aG:=by
 have key:∀j x y,(m.set p (.op e' f')) j=some (.op x y)->(j=p/\x=e'/\y=f')\/(j≠p/\m j=some (.op x y)):=fun j x y h=>by
  by_cases z:j=p
  ·subst z
   rw[PG.Mm.set_same] at h
   cases h
   exact .inl ⟨rfl,rfl,rfl⟩
  ·rw[PG.Mm.bT _ _ z] at h
   exact .inr ⟨z,h⟩
 have op:∀j x y,(m.set p (.op e' f')) j=some (.op x y)->∃x y,m j=some (.op x y):=fun j x y hj=>by
  rcases key j x y hj with ⟨rfl,_,_⟩ |⟨_,h'⟩
  ·exact⟨_,_,h⟩
  ·exact⟨_,_,h'⟩
 refine⟨fun z u q=>by rw[aw (aj q (t.ls p e f h).2)];exact t.s z u q,t.dn,by rw[aw (t.ne h).symm];exact t.dd,fun j=>?_,fun j x y hj=>?_,fun a c x y x' y' h1 h2 z=>?_⟩
 ·rw[t.at_ j]
  by_cases z:j=p
  ·subst z
   rw[PG.Mm.set_same,h]
   rfl
  ·rw[PG.Mm.bT _ _ z]
 ·rcases key j x y hj with ⟨rfl,rfl,rfl⟩ |⟨z,hj⟩
  ·exact⟨ae,(t.ls _ _ _ h).2⟩
  ·exact⟨by rw[aw (fun q=>z (t.inj j p _ _ _ _ hj h q))];exact(t.ls j x y hj).1,(t.ls j x y hj).2⟩
 ·obtain⟨_,_,h1⟩:=op a x y h1
  obtain⟨_,_,h2⟩:=op c x' y' h2
  exact t.inj a c _ _ _ _ h1 h2 z
end
section
variable(K:k0)
def SD (H Hx:Hp) (d:Addr) (R:List PG.Row):Prop:=∃A aG,ym H d (PG.nG R) A Hx aG
def Pz:Sp:=fun vs H Q _=>∃(R:Addr) (rows:List PG.Row) (b:List PG.bH),vs=[.ref R]/\Rep K H (.lst (rows.map jm)) (.ref R)/\rows.length<=1000/\PG.cL b rows/\∀d H',SD H H' d rows->Q (.ref d) H'
def WA:Sp:=fun vs H Q _=>∃(R d:Addr) (rows:List PG.Row) (b:List PG.bH) (H0:Hp) (p:Nat),vs=[.ref R,.ref d,.int p]/\Rep K H (.lst (rows.map jm)) (.ref R)/\rows.length<=1000/\PG.cL b rows/\SD H0 H d rows/\Q (.int (PG.to rows (PG.nG rows) p)) H
def LX:Sp:=fun vs H Q _=>∃(R:Addr) (rows:List PG.Row) (b:List PG.bH),vs=[.ref R]/\Rep K H (.lst (rows.map jm)) (.ref R)/\rows.length<=1000/\PG.cL b rows/\
 ∀l us H',aq H H'->H l=none->H' l=some (.lst us)->aP K H' ((PG.aS b 0).map gh) us->Q (.ref l) H'
end
structure qE(K:k0)(H:Hp)(tl:Addr)(H3:Hp)(us:List V)(ds:List Dp):Prop where
 s:aq H H3
 y:H3 tl=some (.lst us)
 f:eZ K (·=tl) H3 ds us
 l:us.length=ds.length
section
variable{K:k0}{H H3 H4:Hp}{tl p p1 p2:Addr}{us vs:List V}{ds es:List Dp}{d:Dp}{v:V}
theorem qE.new(h:H tl=none):qE K H tl (upd H tl (.lst [])) [] []:=⟨aq.new h _,ae,.nil,rfl⟩
theorem qE.same(a:qE K H tl H3 us ds)(s:aq H3 H4):qE K H tl H4 us ds:=⟨a.s.trans s,s _ _ a.y,a.f.up (.of s),a.l⟩
theorem qE.push(a:qE K H tl H3 us ds)(ht:H tl=none)(fv:Fix K (·=tl) H3 d v):qE K H tl (upd H3 tl (.lst (us++[v]))) (us++[v]) (ds++[d]):=by
 have uu:br (·=tl) H3 (upd H3 tl (.lst (us++[v]))):=br.refl.put (O:=(·=tl)) rfl _
 exact⟨fun z o e=>by rw[aw (aj e ht)];exact a.s z o e,ae,(a.f.snoc fv).up uu,by simp[a.l]⟩
theorem qE.row(a:qE K H tl H3 us ds)(ht:H tl=none){k:Int}{w:PG.Wd}{ws:List Int}(h1:H3 p1=none)(h2:(upd H3 p1 (.tup (ws.map V.int))) p2=none) :
 (upd (upd H3 p1 (.tup (ws.map V.int))) p2 (.tup [.int k,.str (hV w),.ref p1])) tl=some (.lst us)/\
 qE K H tl (upd (upd (upd H3 p1 (.tup (ws.map V.int))) p2 (.tup [.int k,.str (hV w),.ref p1])) tl (.lst (us++[.ref p2]))) (us++[.ref p2]) (ds++[gh (k,w,ws)]):=by
 have s1:=aq.new h1 (.tup (ws.map V.int))
 have a1:=a.same s1
 have t1:(upd H3 p1 (.tup (ws.map V.int))) p1=some (.tup (ws.map V.int)):=ae
 have n1:p1≠tl:=(aj a.y h1).symm
 generalize upd H3 p1 (.tup (ws.map V.int))=H5 at *
 have s2:=aq.new h2 (.tup [.int k,.str (hV w),.ref p1])
 have a2:=a1.same s2
 have t2:(upd H5 p2 (.tup [.int k,.str (hV w),.ref p1])) p2=some (.tup [.int k,.str (hV w),.ref p1]):=ae
 have n2:p2≠tl:=(aj a1.y h2).symm
 have t1:=s2 _ _ t1
 generalize upd H5 p2 (.tup [.int k,.str (hV w),.ref p1])=H6 at *
 refine⟨a2.y,a2.push ht (Fix.tup t2 n2 (.cons .int (.cons .str (.cons (Fix.tup t1 n1 ?_) .nil))))⟩
 have allI:∀l:List Int,eZ K (·=tl) H6 (l.map Dp.int) (l.map V.int):=fun l=>by
  induction l with
  |nil=>exact .nil
  |cons i r ih=>exact .cons .int ih
 exact allI ws
end
section
variable{X:Cx}
def LY:V->List V->Hp->VK->Prop:=fun x vs H Q=>∃a b aG more,x=.ref a/\vs=[.ref b]/\a≠b/\H a=some (.dK aG)/\H b=some (.dK more)/\aG.length+more.length<=zcz/\Q .cD (upd H a (.dK (iz aG more)))
theorem FU:R7 X "dict.update" LY:=by
 intro pins s σ H x vs v us Q I rx rv h
 obtain⟨a,b,aG,more,rfl,rfl,Ey,ha,hb,hz,q⟩:=h
 cases rx
 obtain⟨u,rfl,ru⟩:=rv.one
 cases ru
 obtain⟨z,hd,vs,rel,dd⟩:=DY I.cS ha
 obtain⟨z2,hd2,vs2,SE,QZ⟩:=DY I.cS hb
 refine call_meetsIn PySem.F.slot_dict_update dd.typeIs PySem.F.entry_dict_update (PySem.F.args_dict_update_2 _ _) (meets_dict_update (bX X.prog X.w) a b Ey hd2) ⟨vs,vs2,dd,QZ,by rw[<- rel.length,<- SE.length];exact hz,fun h' GA _ hs=>?_⟩
 have he:∃q,h'.get? a=some q:=let ⟨q,_,_,hq,_⟩:=GA;⟨q,hq⟩
 exact⟨.cD,_,rz (t':=s.toks) I (by rw[ha];exact True.intro) hs he (vD (zan (gY more aG) hz) hd (SE.merge rel) GA),rfl,q⟩
end
theorem v8{aG:List (Key×V)}{k:Key}{v:V}(h:k ∉ aG.map (·.1)):putK aG k v=aG++[(k,v)]:=by
 unfold putK
 rw[if_neg]
 intro z
 rw[List.any_eq_true] at z
 obtain⟨x,hx,e⟩:=z
 exact h (zar.mpr ⟨x,hx,of_decide_eq_true e⟩)
theorem i3:∀(more aG:List (Key×V)),((aG++more).map (·.1)).Nodup->iz aG more=aG++more
 |[],aG,_=>by simp[iz]
 |p::r,aG,h=>by
  have hp:p.1 ∉ aG.map (·.1):=fun z=>by
   rw[zae,zbS] at h
   exact h.2.2 _ z _ (by simp) rfl
  show iz (putK aG p.1 p.2) r=_
  rw[v8 hp,i3 r _ (by rw[zaH];exact h),zaH]
  rfl
noncomputable def cX (ss:List PG.bH) (vs:List V):List (Key×V):=zaS (fun s v=>(Sum.inl s.row,v)) ss vs
theorem ic:∀(ss:List PG.bH) (vs:List V),vs.length=ss.length->(cX ss vs).map (·.1)=ss.map fun s=>(Sum.inl s.row:Key)
 |[],[],_=>rfl
 |[],_::_,h=>by simp at h
 |_::_,[],h=>by simp at h
 |s::ss,v::vs,h=>by
  show _::(cX ss vs).map (·.1)=_
  rw[ic ss vs (by simpa using h)]
  rfl
theorem pI:∀(ss tt:List PG.bH) (vs us:List V),vs.length=ss.length->cX (ss++tt) (vs++us)=cX ss vs++cX tt us
 |[],tt,[],us,_=>rfl
 |[],_,_::_,_,h=>by simp at h
 |_::_,_,[],_,h=>by simp at h
 |s::ss,tt,v::vs,us,h=>by
  show _::cX (ss++tt) (vs++us)=_::(cX ss vs++cX tt us)
  rw[pI ss tt vs us (by simpa using h)]
theorem qF{ss:List PG.bH}(h:ss.Pairwise fun a b=>a.row<b.row):(ss.map fun s=>(Sum.inl s.row:Key)).Nodup:=by
 refine zaV.mpr (h.imp fun {a b} Ey e=>?_)
 have:=Sum.inl.inj e
 lia
theorem oy:∀(ss:List PG.bH) (vs:List V),vs.length=ss.length->ss.Pairwise (fun a b=>a.row<b.row)->∀i (hi:i<ss.length) v,vs[i]?=some v->cY (cX ss vs) (.inl ss[i].row)=some v
 |[],_,_,_,i,hi,_,_=>by simp at hi
 |_::_,[],h,_,_,_,_,_=>by simp at h
 |s::ss,v::vs,h,hp,0,hi,u,hu=>by
  simp at hu
  subst hu
  show cY ((_,v)::cX ss vs) _=_
  exact cF rfl
 |s::ss,v::vs,h,hp,i+1,hi,u,hu=>by
  rw[List.pairwise_cons] at hp
  have lt:=hp.1 (ss[i]'(by simpa using hi)) (zah _)
  show cY ((.inl s.row,v)::cX ss vs) (.inl (ss[i]'(by simpa using hi)).row)=_
  rw[cG (fun e=>by have e:=Sum.inl.inj e;lia)]
  exact oy ss vs (by simpa using h) hp.2 i (by simpa using hi) u (by simpa using hu)
theorem Ez(s:PG.bH):PG.mC s=s::(aJ s).flatMap PG.aC:=by
 cases s<;>simp[PG.mC,aJ]
section
variable(K:k0)
def zk (n:Nat):Sp:=fun vs H Q _=>∃(b:Addr) (body:List PG.bH) (H0:Hp),vs=[.ref b]/\aq H0 H/\Rep K H0 (.lst (body.map dq)) (.ref b)/\PG.fX body<n/\(PG.cK body).length<=1000/\(PG.aC body).Pairwise (fun a b=>a.row<b.row)/\
 ∀d us H',aq H H'->H d=none->us.length=(PG.aC body).length->H' d=some (.dK (cX (PG.aC body) us))->aP K H0 ((PG.aC body).map dq) us->Q (.ref d) H'
def pJ (n:Nat):Sp:=fun vs H Q _=>∃(b:Addr) (body:List PG.bH) (H0:Hp),vs=[.ref b]/\aq H0 H/\Rep K H0 (.lst (body.map dq)) (.ref b)/\PG.fX body<n/\(PG.cK body).length<=1000/\
 ∀l us H',aq H H'->H l=none->H' l=some (.lst us)->aP K H0 ((PG.aC body).map dq) us->Q (.ref l) H'
end
theorem LZ{K:k0}{H:Hp}:∀(s:PG.bH) {v:V},Rep K H (dq s) v->∃a xs,v=.ref a/\b8 K H a xs/\2<=xs.length/\xs.length<=7/\xs[1]?=some (.int s.row)/\aP K H ((aJ s).map fun b=>.lst (b.map dq)) (jh xs (some 5) none):=by
 intro s v h
 have cut:∀xs:List V,jh xs (some 5) none=xs.drop 5:=fun xs=>by
  unfold jh
  rw[HT.nO,show (5:Int)=((5:Nat):Int) from rfl,HT.pf]
  by_cases h:5<=xs.length
  ·rw[zb8 h]
   exact zbf (by rw[zbq];lia)
  ·rw[Nat.min_eq_right (by lia),List.drop_eq_nil_of_le (Wr _),List.drop_eq_nil_of_le (by lia),List.take_nil]
 cases s with
 |ask k b=>
  simp only[dq,Rep.bc,aP.aI,aP.bh,Rep.bI,Rep.bw] at h
  obtain⟨a,xs,rfl,hS,_,_,rfl,rfl,_,_,rfl,rfl,_,_,rfl,rfl,rfl⟩:=h
  exact⟨a,_,rfl,hS,by simp,by simp,rfl,by rw[cut];exact .nil⟩
 |put k b e=>
  simp only[dq,Rep.bc,aP.aI,aP.bh,Rep.bI,Rep.bw] at h
  obtain⟨a,xs,rfl,hS,_,_,rfl,rfl,_,_,rfl,rfl,_,_,rfl,_,_,_,rfl,_,rfl⟩:=h
  exact⟨a,_,rfl,hS,by simp,by simp,rfl,by rw[cut];exact .nil⟩
 |say k e=>
  simp only[dq,Rep.bc,aP.aI,aP.bh,Rep.bI,Rep.bw] at h
  obtain⟨a,xs,rfl,hS,_,_,rfl,rfl,_,_,rfl,rfl,_,_,rfl,_,rfl⟩:=h
  exact⟨a,_,rfl,hS,by simp,by simp,rfl,by rw[cut];exact .nil⟩
 |c9 k sg l r=>
  simp only[dq,Rep.bc,aP.aI,aP.bh,Rep.bI,Rep.bw] at h
  obtain⟨a,xs,rfl,hS,_,_,rfl,rfl,_,_,rfl,rfl,_,_,rfl,_,_,_,rfl,_,_,_,rfl,_,rfl⟩:=h
  exact⟨a,_,rfl,hS,by simp,by simp,rfl,by rw[cut];exact .nil⟩
 |stop k=>
  simp only[dq,Rep.bc,aP.aI,aP.bh,Rep.bI,Rep.bw] at h
  obtain⟨a,xs,rfl,hS,_,_,rfl,rfl,_,_,rfl,rfl,rfl⟩:=h
  exact⟨a,_,rfl,hS,by simp,by simp,rfl,by rw[cut];exact .nil⟩
 |ifs k sg l r x y=>
  simp only[dq,Rep.bc,aP.aI,aP.bh,Rep.bI,Rep.bw] at h
  obtain⟨a,xs,rfl,hS,_,_,rfl,rfl,_,_,rfl,rfl,_,_,rfl,_,_,_,rfl,_,_,_,rfl,_,_,_,rfl,h5,_,_,rfl,h6,rfl⟩:=h
  rw[eV] at h5 h6
  exact⟨a,_,rfl,hS,by simp,by simp,rfl,by rw[cut];exact .cons h5 (.cons h6 .nil)⟩
 |fj k sg l r x=>
  simp only[dq,Rep.bc,aP.aI,aP.bh,Rep.bI,Rep.bw] at h
  obtain⟨a,xs,rfl,hS,_,_,rfl,rfl,_,_,rfl,rfl,_,_,rfl,_,_,_,rfl,_,_,_,rfl,_,_,_,rfl,h5,rfl⟩:=h
  rw[eV] at h5
  exact⟨a,_,rfl,hS,by simp,by simp,rfl,by rw[cut];exact .cons h5 .nil⟩
theorem IJ{K:k0}{tl:TE}{g:TG}{tb:TS}{D:Ends}{σ:St}{H:Hp} (h:∀U:Addr->Hp->Prop,(∀a H1,(∃W:Nat->Nat->St->Hp->Prop,(∃m,W 0 m σ H1)/\∀i m σ H,W i m σ H->
 ((Nc K a).stop i H/\D.nx σ H)\/((Nc K a).go i H/\∃N:St->Hp->Prop,(∀σ' H',N σ' H'->∃m',m'<m/\W (i+1) m' σ' H')/\∀x H',(Nc K a).DH i H x H'->g x σ H' fun σ2 H2=>tb {D with nx:=N,ct:=N,bk:=D.nx} σ2 H2))->U a H1)->
 tl σ H fun x H1=>∃a,x=.ref a/\(∃xs,b8 K H1 a xs)/\U a H1):G2 (RL K tl) g tb D σ H:=h _ fun _ _ x=>x
theorem oA:∀a b:List PG.bH,PG.aC (a++b)=PG.aC a++PG.aC b
 |[],b=>by simp[PG.aC]
 |s::r,b=>by
  show PG.aC (s::(r++b))=_
  rw[PG.aC,PG.aC,oA r b,zaH]
theorem Bh(s:PG.bH):PG.aC [s]=PG.mC s:=by rw[PG.aC,PG.aC,zab]
theorem lJ(b:List PG.bH):(PG.aC b).length=(PG.cK b).length:=by rw[<- PG.fL,Zb]
end L2
namespace HT
open PySem PySem.Spec PyProof.Rows
section
variable{prog:zcD}{w:World}{A:zcC}{E:Value->zcB->Prop}{s:zcB}
theorem pW{t sl:Addr}{items:Array Value}{vl vu:Value}{lo hi:Option Int}{Q:Value->zcB->Prop}(ht:IsTup s.heap t items)(hs:s.heap.IsSliceOf sl vl vu .none)(pl:IsPart vl lo)(pu:IsPart vu hi)
 (hw:fZ items.size 0 lo=0/\fZ items.size items.size hi=items.size) (h:Q (.ref t) s):wpAny (model prog w) A (getItem (.ref t) (.ref sl)) Q E s:=by
 have hj:fZ items.size items.size hi<=items.size:=Cg _ _ (Wr _) hi
 obtain⟨os,OS,Ux,R3⟩:=id hs
 have V7:s.TypeIs (.ref sl) "slice":=⟨os,OS,Ux⟩
 unfold getItem
 try with_reducible refine zcw ?_
 first |refine zcu (zcv ?_) |skip
 refine zcu (wpAny_sequenceKey ht.typeIs (by decide) ?_)
 refine zcu (wpAny_callSpecial?_slot (name:=v9 "__getitem__") ht.typeIs za9
  (wpAny_call_entry za9 ht.typeIs entry_tuple_getitem ?_ (args_tuple_getitem _ _)))
 show wpAny _ _ (Builtin.Tuple.tupleItemsOf (.ref t) >>= _) _ _ s
 refine zcu (tupleItemsOf_ ht ?_)
 refine zcu (wpAny_typeOf V7 ?_)
 rw[if_pos (by decide)]
 refine zcu (lC hs pl pu ?_)
 have WB:((((fZ items.size 0 lo:Nat):Int)==0&&(1:Int)==1&&(fZ items.size items.size hi-fZ items.size 0 lo)==items.size)=true):=by
  rw[hw.1,hw.2]
  simp
 show wpAny _ _ (if (((fZ items.size 0 lo:Nat):Int)==0&&(1:Int)==1&&(fZ items.size items.size hi-fZ items.size 0 lo)==items.size)=true then _ else _) _ _ s
 rw[if_pos WB]
 refine zcu (m:=Builtin.Tuple.tupleIsExact _) ?_
 unfold Builtin.Tuple.tupleIsExact
 refine zcu (wpAny_typeOf ht.typeIs (zcv ?_))
 rw[if_pos (by simp)]
 first
  |exact zcu (wpAny_rule (zcv ⟨_,rfl,zcv h⟩))
  |exact zcu (zcv (zcv ⟨_,rfl,zcv h⟩))
end
end HT
namespace L2
open PySem PySem.Spec PyProof.Rows
def SF (K:k0):V->Option Int->Option Int->Hp->VK->Prop:=fun x lo hi H Q=>∃a xs,x=.ref a/\b8 K H a xs/\
 ((HT.fZ xs.length 0 lo=0/\HT.fZ xs.length xs.length hi=xs.length)->Q (.ref a) H)/\
 (¬(HT.fZ xs.length 0 lo=0/\HT.fZ xs.length xs.length hi=xs.length)->∀p,H p=none->Q (.ref p) (upd H p (.tup (jh xs lo hi))))
theorem L1{X:Cx}:R4 X (SF X.K):=by
 intro pins s σ H x v vl vu lo hi sl Q I rx hs pl pu h
 obtain⟨a,xs,rfl,hx,h1,h2⟩:=h
 by_cases hw:HT.fZ xs.length 0 lo=0/\HT.fZ xs.length xs.length hi=xs.length
 ·cases rx
  obtain⟨bz,r,ht,hz⟩:=I.tuple hx
  have hlen:bz.toArray.size=xs.length:=by rw[zaa];exact r.length.symm
  refine⟨"tuple",_,za9.lookup,ht.typeIs,?_⟩
  exact HT.pW ht hs pl pu (by rw[hlen];exact hw) ⟨.ref a,H,I,rfl,h1 hw⟩
 ·exact Hd pins s σ H (.ref a) v vl vu lo hi sl Q I rx hs pl pu ⟨a,xs,rfl,hx,hw,h2 hw⟩
def iy {α β γ:Type} (R:α->β->γ->Prop):List α->List β->List γ->Prop
 |[],[],[]=>True
 |a::as,b::bs,c::cs=>R a b c/\iy R as bs cs
 |_,_,_=>False
section
variable{α β γ:Type}{R S:α->β->γ->Prop}
theorem iy.bh{bs:List β}{cs:List γ}:iy R [] bs cs↔bs=[]/\cs=[]:=by
 cases bs<;>cases cs<;>simp[iy]
theorem iy.aI{a:α}{as:List α}{bs:List β}{cs:List γ}:iy R (a::as) bs cs↔∃b NH c NI,bs=b::NH/\cs=c::NI/\R a b c/\iy R as NH NI:=by
 constructor
 ·intro h
  cases bs with
  |nil=>simp[iy] at h
  |cons b bs=>
   cases cs with
   |nil=>simp[iy] at h
   |cons c cs=>exact⟨b,bs,c,cs,rfl,rfl,h.1,h.2⟩
 ·rintro ⟨b,NH,c,NI,rfl,rfl,h1,h2⟩
  exact⟨h1,h2⟩
theorem iy.length:∀ {as:List α} {bs:List β} {cs:List γ},iy R as bs cs->bs.length=as.length/\cs.length=as.length
 |[],_,_,h=>by obtain⟨rfl,rfl⟩:=iy.bh.mp h;exact⟨rfl,rfl⟩
 |a::as,_,_,h=>by
  obtain⟨b,NH,c,NI,rfl,rfl,_,h2⟩:=iy.aI.mp h
  have:=iy.length h2
  simp[this]
end
theorem wb{K:k0}{a D:Addr}{xs:List V}{te:TE}{Q:VK}{r:St}{H:Hp}(Pv:Nat->List V->Hp->Prop)(hS:gS K H a xs)(hl:xs.length<=16000000)(hD:H D=none)(h0:Pv 0 [] (upd H D (.lst [])))
 (step:∀i x ys H2,xs[i]?=some x->aq H H2->H2 D=some (.lst ys)->ys.length=i->Pv i ys H2->∀R:VK,(∀v H3,aq H2 H3->Pv (i+1) (ys++[v]) (upd H3 D (.lst (ys++[v])))->R v H3)->te (some x::r) H2 R)
 (q:∀ys H2,aq H H2->H2 D=some (.lst ys)->Pv xs.length ys H2->Q (.ref D) H2):vI (Gx K a) D (gW 0) Ct te Q (none::r) (upd H D (.lst [])):=by
 refine⟨fun i m τ H2=>m=xs.length-i/\i<=xs.length/\(∃x,τ=x::r)/\aq H H2/\∃ys,H2 D=some (.lst ys)/\ys.length=i/\Pv i ys H2,⟨xs.length,by simp,zaT _,⟨none,rfl⟩,aq.new hD _,[],ae,rfl,h0⟩,?_⟩
 rintro i m τ H2 ⟨rfl,hi,⟨x,rfl⟩,s2,ys,h2,ly,p2⟩
 by_cases uJ:i<xs.length
 ·refine .inr ⟨⟨xs,xs[i],s2.seq hS,by simp[uJ]⟩,fun τ' H'=>(∃x,τ'=x::r)/\aq H H'/\∃ys,H' D=some (.lst ys)/\ys.length=i+1/\Pv (i+1) ys H',fun τ' H' ⟨h1,h3,h4⟩=>⟨xs.length-(i+1),by lia,rfl,uJ,h1,h3,h4⟩,fun y H' hy=>?_⟩
  obtain⟨rfl,hy⟩:=hy
  have ey:=hy _ (s2.seq hS)
  simp only[gW,zaN,Ct]
  rw[if_pos trivial]
  refine step i y ys _ ey s2 h2 ly p2 _ fun v H3 s3 p3=>⟨ys,s3 _ _ h2,?_,⟨_,rfl⟩,?_,ys++[v],ae,by simp[ly],p3⟩
  ·have:zcz=2 ^ 24:=rfl
   lia
  ·intro b o e
   rw[aw (aj e hD)]
   exact s3 _ _ (s2 _ _ e)
 ·have e:i=xs.length:=by lia
  subst e
  exact .inl ⟨⟨xs,s2.seq hS,Wr _⟩,q ys H2 s2 h2 p2⟩
theorem EA:∀l:List Int,PyData.canLayAll0 (Dp.Ao (l.map Dp.int))=true/\PyData.depthAll (Dp.Ao (l.map Dp.int))=0
 |[]=>by simp[Dp.Ao,PyData.canLayAll0,PyData.depthAll]
 |i::r=>by
  obtain⟨h1,h2⟩:=EA r
  simp[Dp.Ao,Dp.py,PyData.canLayAll0,PyData.depthAll,PyData.canLay0,PyData.depth,h1,h2]
theorem FX{X:Cx}{K:k0}(e:X.K=K):lq X (.builtin "isinstance") (fun xs H Q=>∃x T t b,xs=[x,.ty T]/\qX K H x t/\zcc K t (.type T)=some b/\Q (.bl b) H):=by
 subst e
 exact AN
theorem Bj{K:k0}{H:Hp}{fl:List PG.fk}{fv:List V}(g2:aP K H (fl.map gh) fv){i:Nat}{y:V}(hi:fv[i]?=some y)(li:i<fl.length) :
 ∃a p,y=.ref a/\b8 K H a [.int fl[i].1,.str (hV fl[i].2.1),.ref p]/\b8 K H p (fl[i].2.2.map V.int):=by
 obtain⟨v',KI,rv⟩:=g2.get (i:=i) (d:=gh fl[i]) (by rw[UB,Za li];rfl)
 rw[hi] at KI
 cases KI
 unfold gh at rv
 rw[Rep.bc] at rv
 obtain⟨a,xs,rfl,hx,rs⟩:=rv
 rw[aP.aI] at rs
 obtain⟨v1,t1,rfl,r1,rs⟩:=rs
 rw[aP.aI] at rs
 obtain⟨v2,t2,rfl,r2,rs⟩:=rs
 rw[aP.aI] at rs
 obtain⟨v3,t3,rfl,r3,rs⟩:=rs
 rw[aP.bh] at rs
 rw[Rep.bw] at r1
 rw[Rep.bI] at r2
 obtain⟨p,ys,rfl,hp,ry⟩:=Rep.bc.mp r3
 subst r1 r2 rs
 have key:∀ {l:List Int} {ys:List V},aP K H (l.map Dp.int) ys->ys=l.map V.int:=by
  intro l
  induction l with
  |nil=>intro ys h;rw[zaR,aP.bh] at h;exact h
  |cons i r ih=>
   intro ys h
   rw[Y9,aP.aI] at h
   obtain⟨v,t,rfl,h1,h2⟩:=h
   rw[Rep.bw] at h1
   rw[h1,ih h2]
   rfl
 rw[key ry] at hp
 exact⟨a,p,rfl,hx,hp⟩
end L2
namespace L3
open PySem PyProof.Rows
theorem L4:typeLookup (.type "list") "keys"=pure none:=by rw[typeLookup_type,builtinLookup_eq_fast];kernel_rfl
theorem L5:typeLookup (.type "list") "__getattr__"=pure none:=by rw[typeLookup_type,builtinLookup_eq_fast];kernel_rfl
section
variable{prog:zcD}{w:World}{A:zcC}{E:Value->zcB->Prop}
theorem IL(a:Addr)(u:Tok){hp:Heap}{g:Array GenState}{d:Drawn}{tk:Nat}{os:OsState}{bz:Array Value}{n:Nat}{sl:Array (Option Value)}{Q:Fin->zcB->Prop}(hx:hp.get? a=some ⟨.type "list",none,.seq bz n,sl⟩)(hA:A.handled=none)
 (h:∀h' L6 e,Heap.NewAttrErr hp h' e (.ref a) "keys"->E (.ref e) ⟨h',g,d,L6,os⟩) :
 wpAny (model prog w) A (Builtin.«object.__getattribute__» ⟨[.ref a,.str "keys" u],[]⟩) Q E ⟨hp,g,d,tk,os⟩:=by
 have hT:(⟨hp,g,d,tk,os⟩:zcB).TypeIs (.ref a) "list":=⟨_,hx,rfl⟩
 have f4:=L4
 unfold Builtin.«object.__getattribute__»
 repeat (any_goals (first |assumption |wp_step))
 exact wpAny_raiseAttrError hA h (attrMsg_fits (by decide +kernel) (by size_fits))
theorem FY(a:Addr){s:zcB}{bz:Array Value}{n:Nat}{sl:Array (Option Value)}{Q:Option Value->zcB->Prop}(hx:s.heap.get? a=some ⟨.type "list",none,.seq bz n,sl⟩)(hA:A.handled=none)
 (h:∀h' tk,(∀b ob,s.heap.get? b=some ob->h'.get? b=some ob)->Q none {s with heap:=h',toks:=tk}):wpAny (model prog w) A (getAttr? (.ref a) "keys") Q E s:=by
 obtain⟨hp,g,d,tk,os⟩:=s
 have hT:∀L6,(⟨hp,g,d,L6,os⟩:zcB).TypeIs (.ref a) "list":=fun _=>⟨_,hx,rfl⟩
 have f1:=sub_AttributeError
 have f2:=F.slot_list_getattribute.lookup
 have f3:=F.slot_list_getattribute.bind (.ref a)
 have f5:=L5
 unfold getAttr? getAttrBy? getAttrBy
 repeat (any_goals (first |assumption |exact hT _ |wp_step))
 all_goals
  refine codeAny_call_builtin F.slot_list_getattribute.plain F.entry_list_ga (F.slot_list_getattribute.check _ _ _ _ _ _ _ _ (show (⟨hp,g,d,tk+1,os⟩:zcB).TypeIs (.ref a) "list" from ⟨_,hx,rfl⟩) (F.args_list_getattribute_2 _ _) ?_)
 all_goals
  refine IL a tk hx hA fun h' L6 e ne=>?_
 all_goals
  obtain⟨t',u',he⟩:=ne.there
  show wpAny _ _ (getattributeRaised _ _ _ _ _ _ _) _ _ _
  unfold getattributeRaised
  repeat (any_goals (first |assumption |wp_step))
 all_goals exact h _ _ ne.keeps
theorem mE:entryFor table "dict.update.loop"=some Builtin.«dict.update.loop»:=entryFor_of_tree (by kernel_rfl)
theorem gk:plainId "dict.update.loop"=true:=by decide +kernel
theorem Bk{κ:Type}[DecidableEq κ](knd:KeyKind prog w κ)(d it l:Addr)(items:Array Value)(res:Value)(hA:A.handled=none)(za:it≠d){R:Result->zcB->Prop}:∀(r:List (Addr×κ×Value×Value)) (i:Nat) (j:Int) (u:Tok) (aG:List (κ×Value)) (s:zcB),
 items.toList.drop i=r.map (fun q=>Value.ref q.1)->(∀q∈r,s.heap.IsTuple q.1 #[q.2.2.1,q.2.2.2]/\knd.is q.2.1 q.2.2.1=true)->s.heap.IsListIter it l i->s.heap.IsList l items->s.heap.DictOf knd d aG->aG.length+r.length<=zcz->
 (∀h' tk,h'.DictOf knd d (merged aG (r.map fun q=>(q.2.1,q.2.2.2)))->(∀b o,b≠d->b≠it->s.heap.get? b=some o->h'.get? b=some o)->R (.ok (.ret res)) {s with heap:=h',toks:=tk})->
 codeAny (model prog w) A (.builtin "dict.update.loop" ⟨[.ref d,.ref it,.int j u,res],[]⟩) R s
 |[],i,j,u,aG,s,hi,hp,hit,hl,hd,hz,hR=>by
  refine codeAny_builtin mE ?_
  rw[Around.under_plainId gk _]
  show wpAny _ A.in1 (pyNext (.ref it) >>= _) _ _ s
  refine zcu (wpAny_pyNext_list_end hA hit hl (by rw[<- zaM];rw[zaR] at hi;exact zbh (List.drop_eq_nil_iff.mp hi)) fun h' ext=>?_)
  show wpAny _ _ (Builtin.Dict.addKeywords d [] >>= _) _ _ _
  refine zcu (zcv (zcv (hR h' s.toks ?_ fun b o _ h2 e=>?_)))
  ·obtain⟨o,es,ep,ho,rest⟩:=hd
   exact⟨o,es,ep,ext d o za.symm ho,rest⟩
  ·exact ext b o h2 e
 |q::r,i,j,u,aG,s,hi,hp,hit,hl,hd,hz,hR=>by
  have hx:items[i]?=some (Value.ref q.1):=by
   rw[<- zaM,<- zcr,hi]
   rfl
  refine codeAny_builtin mE ?_
  rw[Around.under_plainId gk _]
  show wpAny _ A.in1 (pyNext (.ref it) >>= _) _ _ s
  refine zcu (wpAny_pyNext_list_item hit hl hx fun h' Pk sb=>?_)
  obtain⟨⟨oq,WE,WG,nq,hdq⟩,kq⟩:=hp q (UH ..)
  have niq:q.1≠it:=fun z=>by
   obtain⟨oi,PD,SG,_⟩:=hit
   rw[z,PD] at WE
   cases WE
   rw[SG] at WG
   exact absurd (Value.type.inj WG) (by decide)
  have SH:h'.get? q.1=some oq:=(sb.2 _ niq).trans WE
  have B4:h'.DictOf knd d aG:=by
   obtain⟨o,es,ep,ho,rest⟩:=hd
   exact⟨o,es,ep,(sb.2 d za.symm).trans ho,rest⟩
  show wpAny _ A.in1 (holding [Value.ref q.1] _ >>= _) _ _ _
  refine zcu (zcw (zcu (wpAny_tryCatch ?_)))
  unfold Builtin.Dict.pairItems
  refine zcu (wpAny_typeOf (T:="tuple") ⟨oq,SH,WG⟩ ?_)
  rw[if_pos (by decide)]
  refine zcu (wpAny_seqItems (s:={s with heap:=h' }) SH hdq (zcv ?_))
  show wpAny _ A.in1 (holding [q.2.2.1,q.2.2.2] (dictSet d q.2.2.1 q.2.2.2)) _ _ _
  refine zcw (wpAny_dictSet_pairs (s:={s with heap:=h' }) kq B4 (fun h2 hd2 PF=>?_) (by simp only[V0] at hz;lia))
  refine zcv ⟨plainId_quiet gk _,?_⟩
  refine Bk knd d it l items res hA za r (i+1) (j+1) _ _ _ ?_ (fun p SI=>?_) ?_ ?_ hd2 ?_ fun h3 tk KJ keep=>hR h3 tk KJ fun b o n1 n2 e=>keep b o n1 n2 ?_
  ·rw[<- List.drop_drop,hi]
   rfl
  ·obtain⟨⟨op,SJ,WH,np,WI⟩,kp⟩:=hp p (zad _ SI)
   refine⟨⟨op,?_,WH,np,WI⟩,kp⟩
   have n1:p.1≠it:=fun z=>by
    obtain⟨oi,PD,SG,_⟩:=hit
    rw[z,PD] at SJ
    cases SJ
    rw[SG] at WH
    exact absurd (Value.type.inj WH) (by decide)
   have n2:p.1≠d:=fun z=>by
    obtain⟨od,_,_,WJ,_,L7,_⟩:=hd
    rw[z,WJ] at SJ
    cases SJ
    rw[L7] at WI
    cases WI
   exact(PF.2 _ n2).trans ((sb.2 _ n1).trans SJ)
  ·obtain⟨oi,PD,rest⟩:=Pk
   exact⟨oi,(PF.2 _ za).trans PD,rest⟩
  ·obtain⟨ol,KL,Q4,nl,SK⟩:=hl
   have n1:l≠it:=fun z=>by
    obtain⟨oi,PD,SG,_⟩:=hit
    rw[z,PD] at KL
    cases KL
    rw[SG] at Q4
    exact absurd (Value.type.inj Q4) (by decide)
   have n2:l≠d:=fun z=>by
    obtain⟨od,_,_,WJ,_,L7,_⟩:=hd
    rw[z,WJ] at KL
    cases KL
    rw[L7] at SK
    cases SK
   exact⟨ol,(PF.2 _ n2).trans ((sb.2 _ n1).trans KL),Q4,nl,SK⟩
  ·have:=stored_length_le aG q.2.1 q.2.2.2
   simp only[V0] at hz
   lia
  ·exact(PF.2 _ n1).trans ((sb.2 _ n2).trans e)
theorem dict_list{κ:Type}[DecidableEq κ](knd:KeyKind prog w κ)(l:Addr){s:zcB}{items:Array Value}{n:Nat}{sl:Array (Option Value)}{Q:Value->zcB->Prop}(hA:A.handled=none)(r:List (Addr×κ×Value×Value))(hx:s.heap.get? l=some ⟨.type "list",none,.seq items n,sl⟩)
 (hi:items.toList=r.map (fun q=>Value.ref q.1)) (hp:∀q∈r,s.heap.IsTuple q.1 #[q.2.2.1,q.2.2.2]/\knd.is q.2.1 q.2.2.1=true) (hz:r.length<=zcz)
 (h:∀h' tk,h'.DictOf knd s.heap.objs.size (merged [] (r.map fun q=>(q.2.1,q.2.2.2)))->(∀b o,s.heap.get? b=some o->h'.get? b=some o)->Q (.ref s.heap.objs.size) {s with heap:=h',toks:=tk}) :
 wpAny (model prog w) A (call (.type "dict") [.ref l]) Q E s:=by
 refine callType_codes (Q₁:=fun obj s₁=>obj=.ref s.heap.objs.size/\s₁={s with heap:=s.heap.push {cls:=.type "dict",data:=.dict #[]} }) F.kt_called_dict (F.kt_typeCall_dict_1 _) F.entry_dict_init (kt_code_dict_new _ ⟨rfl,rfl⟩) ?_
 rintro obj s₁ ⟨rfl,rfl⟩
 have CM:(s.heap.push {cls:=.type "dict",data:=.dict #[]}).DictOf knd s.heap.objs.size []:=Heap.DictOf.new s.heap
 have p0:∀b o,s.heap.get? b=some o->(s.heap.push {cls:=.type "dict",data:=.dict #[]}).get? b=some o:=fun b o e=>Heap.get?_push_of_some _ e
 refine⟨CM.typeIs,F.args_dict_init_2 _ _,?_⟩
 unfold Builtin.«dict.__init__»
 refine zcu ?_
 unfold Builtin.Dict.selfAndRest
 refine zcu (wpAny_notOrdered_dict CM.typeIs ?_)
 show wpAny _ _ (pure (s.heap.objs.size,[Value.ref l])) _ _ _
 refine zcv ?_
 show wpAny _ _ (Builtin.Dict.updateFrom "dict.__init__" s.heap.objs.size (.ref l) [] .none) _ _ _
 unfold Builtin.Dict.updateFrom
 refine zcu (wpAny_typeOf (T:="list") ⟨_,p0 _ _ hx,rfl⟩ ?_)
 rw[if_pos (by decide)]
 refine zcu (FY (n:=n) (sl:=sl) l (p0 _ _ hx) hA fun h2 SM p9=>?_)
 rw[if_pos (show (none:Option Value).isNone=true from rfl)]
 refine zcu (wpAny_rule ?_)
 have Gy:h2.IsList l items:=⟨_,p9 _ _ (p0 _ _ hx),rfl,n,rfl⟩
 have hd2:h2.DictOf knd s.heap.objs.size []:=by
  obtain⟨o,es,ep,ho,rest⟩:=CM
  exact⟨o,es,ep,p9 _ _ ho,rest⟩
 refine zcu (wpAny_pyIter_list (s:={s with heap:=h2,toks:=SM}) Gy ?_)
 have EB:∀b o,h2.get? b=some o->(h2.push {cls:=.type "list_iterator",data:=.fields #[.ref l,.int 0 0]}).get? b=some o:=fun b o e=>Heap.get?_push_of_some _ e
 have nd:h2.objs.size≠s.heap.objs.size:=by
  obtain⟨o,es,ep,ho,_⟩:=hd2
  exact fun e=>absurd (Heap.lt_size ho) (by rw[e];exact zaE _)
 refine zcv ⟨plainId_quiet gk _,?_⟩
 refine Bk (A:=A.in1) knd s.heap.objs.size h2.objs.size l items .none hA nd r 0 0 _ [] _ (by simpa using hi) (fun q hq=>?_) ⟨_,Heap.get?_push_size _ rfl,rfl,rfl⟩ ?_ ?_ (by simpa using hz) fun h4 WK WL IM=>?_
 ·obtain⟨⟨o,ho,rest⟩,kq⟩:=hp q hq
  exact⟨⟨o,EB _ _ (p9 _ _ (p0 _ _ ho)),rest⟩,kq⟩
 ·obtain⟨o,ho,rest⟩:=Gy
  exact⟨o,EB _ _ ho,rest⟩
 ·obtain⟨o,es,ep,ho,rest⟩:=hd2
  exact⟨o,es,ep,EB _ _ ho,rest⟩
 ·refine⟨rfl,h h4 WK WL fun b o e=>IM b o (fun z=>?_) (fun z=>?_) (EB _ _ (p9 _ _ (p0 _ _ e)))⟩
  ·rw[z] at e
   exact absurd (Heap.lt_size e) (zaE _)
  ·have:=Heap.lt_size (p9 _ _ (p0 _ _ e))
   rw[z] at this
   exact absurd this (zaE _)
end
end L3
namespace L2
open PySem PyProof.Rows
theorem qG{X:Cx}(hc:X.calm=true):lq X (.type "dict") (fun xs H Q=>∃(a:Addr) (ps:List (Addr×Key×V)),xs=[.ref a]/\gS X.K H a (ps.map fun q=>V.ref q.1)/\(∀q∈ps,b8 X.K H q.1 [kV q.2.1,q.2.2])/\ps.length<=zcz/\
 ∀p,H p=none->Q (.ref p) (upd H p (.dK (iz [] (ps.map fun q=>(q.2.1,q.2.2)))))):=by
 intro pins s σ H xs us Q I r h
 obtain⟨a,ps,rfl,ha,hp,hz,q⟩:=h
 obtain⟨u,rfl,ru⟩:=vals1 r
 cases (show u=Value.ref a from ru)
 obtain⟨bz,v1,t1,_⟩:=I.list ha
 obtain⟨⟨cls,dct,dat,sl⟩,n,e1,Zi,UI,SN⟩:=t1
 simp only at Zi UI SN
 subst Zi UI SN
 have mk:∀(l:List (Addr×Key×V)) (us:List Value),Vals (l.map fun q=>V.ref q.1) us->(∀q∈l,b8 X.K H q.1 [kV q.2.1,q.2.2])->∃r:List (Addr×Key×Value×Value),us=r.map (fun q=>Value.ref q.1)/\r.length=l.length/\
  (∀q∈r,s.heap.IsTuple q.1 #[q.2.2.1,q.2.2.2]/\(bX X.prog X.w).is q.2.1 q.2.2.1=true)/\KV (l.map fun q=>(q.2.1,q.2.2)) (r.map fun q=>(q.2.1,q.2.2.2)):=by
  intro l
  induction l with
  |nil=>intro us v _;cases v;exact⟨[],rfl,rfl,fun _ z=>(by cases z),.nil⟩
  |cons x l ih=>
   intro us v hp
   rw[Y9] at v
   cases v with
   |cons v1 v2=>
    obtain⟨r,e,lr,hr,kv⟩:=ih _ v2 (fun q hq=>hp q (zad _ hq))
    obtain⟨rh,w1,tu,_⟩:=I.tuple (hp x (UH ..))
    obtain⟨ku,vu,rfl,rk,rv⟩:=vals2 w1
    cases v1
    obtain⟨o,ho,hco,no,hdo⟩:=tu
    refine⟨(x.1,x.2.1,ku,vu)::r,by rw[e];rfl,by simp[lr],fun q hq=>?_,.cons ⟨rfl,rv⟩ kv⟩
    rcases Zd.mp hq with rfl |hq
    ·exact⟨⟨o,ho,hco,no,hdo⟩,vC rk⟩
    ·exact hr q hq
 obtain⟨r',er,lr,hr,kv⟩:=mk ps bz v1 hp
 refine L3.dict_list (bX X.prog X.w) a (I.ok.hd hc) r' e1 (by simpa using er) hr (by lia) fun h' tk dd keep=>?_
 have hn:=I.cS.fresh (Wr s.heap.objs.size)
 have hb:(s.heap.objs.size==sysModules)=false:=beq_eq_false_iff_ne.mpr (Ne.symm (zam I.big))
 refine⟨.ref s.heap.objs.size,_,I.laid keep (Wr _) (vD ?_ hb (kv.merge .nil) dd),rfl,q _ hn⟩
 have h1:=gY (ps.map fun q=>(q.2.1,q.2.2)) []
 rw[zak,Zb] at h1
 lia
end L2
namespace L3
open PySem PyProof.Rows
section
variable{prog:zcD}{w:World}{A:zcC}{E:Value->zcB->Prop}{s:zcB}
theorem wc{j tp:Addr}{k:Nat}{bz:Array Value}{v:Value}{Q:Value->zcB->Prop}(hj:s.heap.IsTupleIter j tp k)(ht:s.heap.IsTuple tp bz)(hv:bz[k]?=some v)
 (hQ:∀h',h'.IsTupleIter j tp (k+1)->Heap.SameBut j s.heap h'->Q v {s with heap:=h' }):wpAny (model prog w) A (Builtin.SmallTypes.nextOf (.ref j)) Q E s:=by
 obtain⟨oj,gj,cj,dj⟩:=id hj
 obtain⟨ot,gt,_,nt,dt⟩:=ht
 unfold Builtin.SmallTypes.nextOf
 refine zcu (wpAny_callSpecial?_slot (name:=v9 "__next__") hj.typeIs F.slot_tuple_iterator_next (wpAny_call_entry F.slot_tuple_iterator_next hj.typeIs F.entry_tuple_iterator_next ?_ (F.args_tuple_iterator_next_1 _)))
 show wpAny _ _ (field (.ref j) 0 >>= _) _ _ s
 refine zcu (wpAny_field gj dj (x:=.ref tp) rfl ?_)
 show wpAny _ _ (if (Value.ref tp==Value.none)=true then _ else _) _ _ s
 rw[if_neg (show ¬((Value.ref tp==Value.none)=true) from WC)]
 show wpAny _ _ (field (.ref j) 1 >>= _) _ _ s
 refine zcu (wpAny_field gj dj (x:=.int k 0) rfl ?_)
 show wpAny _ _ (seqItems? (.ref tp) >>= _) _ _ s
 refine zcu (wpAny_seqItems gt dt ?_)
 simp only[zaU,hv]
 refine zcu (wpAny_setField gj dj (by simp) (zcv ⟨v,rfl,zcv (hQ _ ?_ (Heap.SameBut.update ..))⟩))
 exact⟨_,Heap.get?_update_self _ gj (Obj.isFreed_of_fields (Obj.data_mapFields dj _)),(Obj.cls_mapFields ..).trans cj,by rw[Obj.data_mapFields dj];simp[rawInt]⟩
abbrev zl (h:Heap) (z ti to:Addr) (f g:Value):Prop:=h.get? z=some {cls:=.type "zip",dict:=none,data:=.fields #[f,g,.bool false,.ref ti,.ref to],slots:=#[]}
theorem Bl{z ti to T:Addr}{u:Tok}{o:Obj}{g:Bool}{R:Bool->zcB->Prop}(hz:zl s.heap z ti to (.int T u) (.bool g))(hT:s.heap.get? T=some o)
 (h:∀h₀,zl h₀ z ti to (.int T u) (.bool true)->Heap.SameBut z s.heap h₀->R false {s with heap:=h₀}):wpAny (model prog w) A (Builtin.SmallTypes.ownedTupleIsFree (.ref z)) R E s:=by
 unfold Builtin.SmallTypes.ownedTupleIsFree
 refine zcu (wpAny_field hz rfl (x:=.int T u) rfl ?_)
 show wpAny _ _ (loadIfAlive (T:Int).toNat >>= _) _ _ _
 refine zcu ?_
 have alive:∀ {R:Option Obj->zcB->Prop},R (some o) s->wpAny (model prog w) A (loadIfAlive (T:Int).toNat) R E s:=fun h=>by
  rw[zaU]
  intro Γ p hp
  unfold loadIfAlive
  rw[Sem.wp_loadIfAlive,hT]
  exact h
 refine alive ?_
 rw[if_neg (by simp)]
 refine zcu (wpAny_field hz rfl (x:=.bool g) rfl ?_)
 cases g with
 |false=>
  rw[if_pos (by decide)]
  exact zcu (wpAny_setField_rec hz (by simp) fun h₀ EC sb=>zcv (h h₀ EC sb))
 |true=>
  rw[if_neg (by decide)]
  exact zcv (h s.heap hz (Heap.SameBut.refl _ _))
theorem CO{z ti to j1 j2 l tp T:Addr}{xs ys:Array Value}{i:Nat}{u:Tok}{o:Obj}{g:Bool}{x y:Value}{Q:Value->zcB->Prop}(hz:zl s.heap z ti to (.int T u) (.bool g))(hT:s.heap.get? T=some o)(hI:IsPair s.heap ti (.ref j1) (.ref j2))
 (h1:s.heap.IsListIter j1 l i) (h2:s.heap.IsTupleIter j2 tp i) (hl:s.heap.IsList l xs) (ht:s.heap.IsTuple tp ys) (BZ:z≠j1) (L8:z≠j2) (NK:j1≠j2) (hx:xs[i]?=some x) (hy:ys[i]?=some y)
 (hQ:∀h',zl h' z ti to (.int T u) (.bool true)->h'.IsListIter j1 l (i+1)->h'.IsTupleIter j2 tp (i+1)->IsPair h' s.heap.objs.size x y->h'.objs.size=s.heap.objs.size+1->
  (∀c o,c≠z->c≠j1->c≠j2->s.heap.get? c=some o->h'.get? c=some o)->Q (.ref s.heap.objs.size) {s with heap:=h' }) :
 wpAny (model prog w) A (Builtin.«zip.__next__» ⟨[.ref z],[]⟩) (fun fin s'=>∃v,fin=.done (.ret v)/\Q v s') E s:=by
 have lz:l≠z:=fun e=>by
  obtain⟨q,gq,cq,_⟩:=hl
  rw[e,hz] at gq
  cases gq
  exact absurd (Value.type.inj cq) (by decide)
 have lj1:l≠j1:=fun e=>by
  obtain⟨q,gq,cq,_⟩:=hl
  obtain⟨r,gr,cr,_⟩:=h1
  rw[e,gr] at gq
  cases gq
  rw[cr] at cq
  exact absurd (Value.type.inj cq) (by decide)
 have tz:tp≠z:=fun e=>by
  obtain⟨q,gq,cq,_⟩:=ht
  rw[e,hz] at gq
  cases gq
  exact absurd (Value.type.inj cq) (by decide)
 have WM:tp≠j1:=fun e=>by
  obtain⟨q,gq,cq,_⟩:=ht
  obtain⟨r,gr,cr,_⟩:=h1
  rw[e,gr] at gq
  cases gq
  rw[cr] at cq
  exact absurd (Value.type.inj cq) (by decide)
 show wpAny _ _ (field (.ref z) 2 >>= _) _ _ _
 refine zcu (wpAny_field hz rfl (x:=.bool false) rfl ?_)
 show wpAny _ _ (field (.ref z) 3 >>= _) _ _ _
 refine zcu (wpAny_field hz rfl (x:=.ref ti) rfl ?_)
 refine zcu (wpAny_seqItems hI rfl ?_)
 show wpAny _ _ (Builtin.SmallTypes.ownedTupleIsFree (.ref z) >>= _) _ _ _
 refine zcu (Bl hz hT fun h₀ EC qa=>?_)
 dsimp only
 rw[if_neg WC]
 refine zcu ?_
 simp only[List.forIn_toArray,zaP,zbp]
 refine zcu (zcu (zcw ?_))
 show wpAny _ _ (Builtin.SmallTypes.nextOf (.ref j1) >>= _) _ _ _
 refine zcu (wpAny_nextOf_list_item (s:={s with heap:=h₀}) (h1.extBut qa.extBut BZ.symm) (hl.extBut qa.extBut lz) hx fun h₂ SO jn=>zcv ?_)
 refine zcv ?_
 refine zcu (zcu (zcw ?_))
 show wpAny _ _ (Builtin.SmallTypes.nextOf (.ref j2) >>= _) _ _ _
 have WN:h₂.IsTupleIter j2 tp i:=by
  obtain⟨q,gq,rest⟩:=h2
  exact⟨q,jn.extBut _ _ NK.symm (qa.extBut _ _ L8.symm gq),rest⟩
 have WO:h₂.IsTuple tp ys:=(ht.extBut qa.extBut tz).extBut jn.extBut WM
 refine zcu (wc (s:={s with heap:=h₂}) WN WO hy fun h₃ SQ kF=>zcv ?_)
 refine zcv (zcv ?_)
 show wpAny _ _ (newTuple [x,y] >>= _) _ _ _
 have hsz:h₃.objs.size=s.heap.objs.size:=by rw[kF.1,jn.1,qa.1]
 refine zcu (wpAny_newTuple (s:={s with heap:=h₃}) ?_)
 refine zcv ⟨_,rfl,?_⟩
 show Q (.ref h₃.objs.size) _
 have hp:IsPair (h₃.push {cls:=.type "tuple",data:=.seq #[x,y]}) h₃.objs.size x y:=Heap.get?_push_size _ rfl
 have SN:(h₃.push {cls:=.type "tuple",data:=.seq #[x,y]}).objs.size=h₃.objs.size+1:=Heap.size_push ..
 rw[hsz] at hp SN ⊢
 have up:∀c o,h₃.get? c=some o->(h₃.push {cls:=.type "tuple",data:=.seq #[x,y]}).get? c=some o:=fun c o e=>Heap.get?_push_of_some _ e
 refine hQ _ (up _ _ (kF.extBut _ _ L8 (jn.extBut _ _ BZ EC))) ?_ ?_ hp SN fun c o c1 c2 c3 e=>up _ _ (kF.extBut _ _ c3 (jn.extBut _ _ c2 (qa.extBut _ _ c1 e)))
 ·obtain⟨q,gq,rest⟩:=SO
  exact⟨q,up _ _ (kF.extBut _ _ NK gq),rest⟩
 ·obtain⟨q,gq,rest⟩:=SQ
  exact⟨q,up _ _ gq,rest⟩
theorem FZ{z ti to j1 j2 l T:Addr}{xs:Array Value}{i:Nat}{u:Tok}{o:Obj}{g:Bool}{Q:Fin->zcB->Prop}(hA:A.handled=none)(hz:zl s.heap z ti to (.int T u) (.bool g))(hT:s.heap.get? T=some o)(hI:IsPair s.heap ti (.ref j1) (.ref j2))
 (h1:s.heap.IsListIter j1 l i) (hl:s.heap.IsList l xs) (BZ:z≠j1) (hx:xs[i]?=none)
 (hE:∀h' e,(∀c o,c≠z->c≠j1->s.heap.get? c=some o->h'.get? c=some o)->(∃o,h'.get? e=some o/\o.cls=.type "StopIteration")->E (.ref e) {s with heap:=h' }) :
 wpAny (model prog w) A (Builtin.«zip.__next__» ⟨[.ref z],[]⟩) Q E s:=by
 have lz:l≠z:=fun e=>by
  obtain⟨q,gq,cq,_⟩:=hl
  rw[e,hz] at gq
  cases gq
  exact absurd (Value.type.inj cq) (by decide)
 show wpAny _ _ (field (.ref z) 2 >>= _) _ _ _
 refine zcu (wpAny_field hz rfl (x:=.bool false) rfl ?_)
 show wpAny _ _ (field (.ref z) 3 >>= _) _ _ _
 refine zcu (wpAny_field hz rfl (x:=.ref ti) rfl ?_)
 refine zcu (wpAny_seqItems hI rfl ?_)
 show wpAny _ _ (Builtin.SmallTypes.ownedTupleIsFree (.ref z) >>= _) _ _ _
 refine zcu (Bl hz hT fun h₀ EC qa=>?_)
 dsimp only
 rw[if_neg WC]
 refine zcu ?_
 simp only[List.forIn_toArray,zaP,zbp]
 refine zcu (zcu (zcw ?_))
 show wpAny _ _ (Builtin.SmallTypes.nextOf (.ref j1) >>= _) _ _ _
 exact zcu (wpAny_nextOf_list_end (s:={s with heap:=h₀}) hA (h1.extBut qa.extBut BZ.symm) (hl.extBut qa.extBut lz) hx fun h₂ e jn he=>hE h₂ e (fun c o c1 c2 q=>jn _ _ c2 (qa.extBut _ _ c1 q)) he)
theorem CQ{z ti to j1 j2 l tp:Addr}{xs ys:Array Value}{i:Nat}{a b x y:Value}{Q:Value->zcB->Prop}(hz:zl s.heap z ti to .none (.bool false))(hO:IsPair s.heap to a b)(hI:IsPair s.heap ti (.ref j1) (.ref j2))
 (h1:s.heap.IsListIter j1 l i) (h2:s.heap.IsTupleIter j2 tp i) (hl:s.heap.IsList l xs) (ht:s.heap.IsTuple tp ys) (BZ:z≠j1) (L8:z≠j2) (SR:z≠to) (IP:to≠j1) (IQ:to≠j2) (NK:j1≠j2) (Ma:tp≠to) (hx:xs[i]?=some x) (hy:ys[i]?=some y)
 (hQ:∀h',zl h' z ti to (rawInt s.heap.objs.size) (.bool false)->h'.IsListIter j1 l (i+1)->h'.IsTupleIter j2 tp (i+1)->IsPair h' s.heap.objs.size x y->h'.objs.size=s.heap.objs.size+1->
  (∀c o,c≠z->c≠to->c≠j1->c≠j2->s.heap.get? c=some o->h'.get? c=some o)->Q (.ref s.heap.objs.size) {s with heap:=h' }) :
 wpAny (model prog w) A (Builtin.«zip.__next__» ⟨[.ref z],[]⟩) (fun fin s'=>∃v,fin=.done (.ret v)/\Q v s') E s:=by
 have lz:l≠z:=fun e=>by
  obtain⟨q,gq,cq,_⟩:=hl
  rw[e,hz] at gq
  cases gq
  exact absurd (Value.type.inj cq) (by decide)
 have tz:tp≠z:=fun e=>by
  obtain⟨q,gq,cq,_⟩:=ht
  rw[e,hz] at gq
  cases gq
  exact absurd (Value.type.inj cq) (by decide)
 have WM:tp≠j1:=fun e=>by
  obtain⟨q,gq,cq,_⟩:=ht
  obtain⟨r,gr,cr,_⟩:=h1
  rw[e,gr] at gq
  cases gq
  rw[cr] at cq
  exact absurd (Value.type.inj cq) (by decide)
 show wpAny _ _ (field (.ref z) 2 >>= _) _ _ _
 refine zcu (wpAny_field hz rfl (x:=.bool false) rfl ?_)
 show wpAny _ _ (field (.ref z) 3 >>= _) _ _ _
 refine zcu (wpAny_field hz rfl (x:=.ref ti) rfl ?_)
 refine zcu (wpAny_seqItems hI rfl ?_)
 show wpAny _ _ (Builtin.SmallTypes.ownedTupleIsFree (.ref z) >>= _) _ _ _
 refine zcu ?_
 unfold Builtin.SmallTypes.ownedTupleIsFree
 refine zcu (wpAny_field hz rfl (x:=.none) rfl (zcv ?_))
 simp only[if_true]
 refine zcu (wpAny_rule ?_)
 refine zcu (wpAny_field hz rfl (x:=.ref to) rfl ?_)
 refine zcu (wpAny_setField_rec hz (by simp) fun h₁ z₁ oB=>?_)
 replace z₁:zl h₁ z ti to .ellipsis (.bool false):=z₁
 refine zcu ?_
 simp only[List.zipIdx_cons,List.zipIdx_nil,zaP,zbp]
 refine zcu (zcu (wpAny_onRaise ?_))
 show wpAny _ _ (Builtin.SmallTypes.nextOf (.ref j1) >>= _) _ _ _
 refine zcu (wpAny_nextOf_list_item (h1.extBut oB.extBut BZ.symm) (hl.extBut oB.extBut lz) hx fun h₂ k₂ jn=>zcv ?_)
 have o₂:IsPair h₂ to a b:=jn.extBut _ _ IP (oB.extBut _ _ SR.symm hO)
 refine zcu (wpAny_seqItems o₂ rfl ?_)
 refine zcu (wpAny_updateSeq_pair o₂ fun h₃ o₃ kF=>?_)
 replace o₃:IsPair h₃ to x b:=o₃
 refine zcu (wpAny_letGo (zcv ?_))
 refine zcu (zcu (wpAny_onRaise ?_))
 show wpAny _ _ (Builtin.SmallTypes.nextOf (.ref j2) >>= _) _ _ _
 have WN:h₃.IsTupleIter j2 tp i:=by
  obtain⟨q,gq,rest⟩:=h2
  exact⟨q,kF.extBut _ _ IQ.symm (jn.extBut _ _ NK.symm (oB.extBut _ _ L8.symm gq)),rest⟩
 have WO:h₃.IsTuple tp ys:=((ht.extBut oB.extBut tz).extBut jn.extBut WM).extBut kF.extBut Ma
 refine zcu (wc WN WO hy fun h₄ k₄ Bm=>zcv ?_)
 have o₄:IsPair h₄ to x b:=Bm.extBut _ _ IQ o₃
 refine zcu (wpAny_seqItems o₄ rfl ?_)
 refine zcu (wpAny_updateSeq_pair o₄ fun h₅ o₅ Bn=>?_)
 replace o₅:IsPair h₅ to x y:=o₅
 refine zcu (wpAny_letGo (zcv (zcv ?_)))
 refine zcu (wpAny_seqItems o₅ rfl ?_)
 refine zcu (wpAny_newTuple ?_)
 have hsz:h₅.objs.size=s.heap.objs.size:=by rw[Bn.1,Bm.1,kF.1,jn.1,oB.1]
 have z₅:zl h₅ z ti to .ellipsis (.bool false):=Bn.extBut _ _ SR (Bm.extBut _ _ L8 (kF.extBut _ _ SR (jn.extBut _ _ BZ z₁)))
 have kp:∀c o,c≠z->c≠to->c≠j1->c≠j2->s.heap.get? c=some o->h₅.get? c=some o:=fun c o c1 c2 c3 c4 e=>Bn.extBut _ _ c2 (Bm.extBut _ _ c4 (kF.extBut _ _ c2 (jn.extBut _ _ c3 (oB.extBut _ _ c1 e))))
 have Zj:z<h₅.objs.size:=Heap.lt_size z₅
 show wpAny _ _ (Builtin.SmallTypes.ownedTupleHandOut (.ref z) (.ref h₅.objs.size) >>= _) _ _ _
 refine zcu ?_
 unfold Builtin.SmallTypes.ownedTupleHandOut
 have z₆:zl (h₅.push {cls:=.type "tuple",data:=.seq #[x,y]}) z ti to .ellipsis (.bool false):=Heap.get?_push_of_some _ z₅
 refine zcu (wpAny_setField_rec z₆ (by simp) fun h₇ z₇ IS=>?_)
 replace z₇:zl h₇ z ti to (rawInt h₅.objs.size) (.bool false):=z₇
 refine wpAny_setField_rec z₇ (by simp) fun h₈ z₈ IT=>?_
 replace z₈:zl h₈ z ti to (rawInt h₅.objs.size) (.bool false):=z₈
 have up:∀c o,c≠z->h₅.get? c=some o->h₈.get? c=some o:=fun c o c1 e=>IT.extBut _ _ c1 (IS.extBut _ _ c1 (Heap.get?_push_of_some _ e))
 have t₈:IsPair h₈ h₅.objs.size x y:=IT.extBut _ _ (zbF Zj) (IS.extBut _ _ (zbF Zj) (Heap.get?_push_size _ rfl))
 have n₈:h₈.objs.size=h₅.objs.size+1:=by rw[IT.1,IS.1,Heap.size_push]
 rw[hsz] at z₈ t₈ n₈
 refine zcv ⟨_,rfl,?_⟩
 show Q (.ref h₅.objs.size) _
 rw[hsz]
 refine hQ h₈ z₈ ?_ ?_ t₈ n₈ fun c o c1 c2 c3 c4 e=>up c o c1 (kp c o c1 c2 c3 c4 e)
 ·obtain⟨q,gq,rest⟩:=k₂
  exact⟨q,up _ _ BZ.symm (Bn.extBut _ _ IP.symm (Bm.extBut _ _ NK (kF.extBut _ _ IP.symm gq))),rest⟩
 ·obtain⟨q,gq,rest⟩:=k₄
  exact⟨q,up _ _ L8.symm (Bn.extBut _ _ IQ.symm gq),rest⟩
theorem F0{z ti to j1 j2 l:Addr}{xs:Array Value}{i:Nat}{Q:Fin->zcB->Prop}(hA:A.handled=none)(hz:zl s.heap z ti to .none (.bool false))(hI:IsPair s.heap ti (.ref j1) (.ref j2))
 (h1:s.heap.IsListIter j1 l i) (hl:s.heap.IsList l xs) (BZ:z≠j1) (hx:xs[i]?=none)
 (hE:∀h' e,(∀c o,c≠z->c≠j1->s.heap.get? c=some o->h'.get? c=some o)->(∃o,h'.get? e=some o/\o.cls=.type "StopIteration")->E (.ref e) {s with heap:=h' }) :
 wpAny (model prog w) A (Builtin.«zip.__next__» ⟨[.ref z],[]⟩) Q E s:=by
 have lz:l≠z:=fun e=>by
  obtain⟨q,gq,cq,_⟩:=hl
  rw[e,hz] at gq
  cases gq
  exact absurd (Value.type.inj cq) (by decide)
 show wpAny _ _ (field (.ref z) 2 >>= _) _ _ _
 refine zcu (wpAny_field hz rfl (x:=.bool false) rfl ?_)
 show wpAny _ _ (field (.ref z) 3 >>= _) _ _ _
 refine zcu (wpAny_field hz rfl (x:=.ref ti) rfl ?_)
 refine zcu (wpAny_seqItems hI rfl ?_)
 show wpAny _ _ (Builtin.SmallTypes.ownedTupleIsFree (.ref z) >>= _) _ _ _
 refine zcu ?_
 unfold Builtin.SmallTypes.ownedTupleIsFree
 refine zcu (wpAny_field hz rfl (x:=.none) rfl (zcv ?_))
 simp only[if_true]
 refine zcu (wpAny_rule ?_)
 refine zcu (wpAny_field hz rfl (x:=.ref to) rfl ?_)
 refine zcu (wpAny_setField_rec hz (by simp) fun h₁ z₁ oB=>?_)
 replace z₁:zl h₁ z ti to .ellipsis (.bool false):=z₁
 refine zcu ?_
 simp only[List.zipIdx_cons,List.zipIdx_nil,zaP,zbp]
 refine zcu (zcu (wpAny_onRaise ?_))
 show wpAny _ _ (Builtin.SmallTypes.nextOf (.ref j1) >>= _) _ _ _
 refine zcu (wpAny_nextOf_list_end hA (h1.extBut oB.extBut BZ.symm) (hl.extBut oB.extBut lz) hx fun h₂ e jn he=>?_)
 obtain⟨oe,ge,ce⟩:=he
 have z₂:zl h₂ z ti to .ellipsis (.bool false):=jn _ _ BZ z₁
 have ez:e≠z:=fun q=>by subst q;rw[z₂] at ge;cases ge;simp at ce
 exact wpAny_setField_rec z₂ (by simp) fun h₃ _ kF=>hE h₃ e (fun c o c1 c3 q=>kF.extBut _ _ c1 (jn _ _ c3 (oB.extBut _ _ c1 q))) ⟨oe,kF.extBut _ _ ez ge,ce⟩
structure Q5(z ti to j1 j2 l tp:Addr):Prop where
 zti:z≠ti
 SR:z≠to
 BZ:z≠j1
 L8:z≠j2
 WQ:ti≠to
 WR:ti≠j1
 WS:ti≠j2
 IP:to≠j1
 IQ:to≠j2
 NK:j1≠j2
 WT:l≠to
 Ma:tp≠to
structure KN(h:Heap)(z ti to j1 j2 l tp:Addr)(xs ys:Array Value)(i:Nat):Prop where
 zip:(∃a b,zl h z ti to .none (.bool false)/\IsPair h to a b)\/∃(T:Addr) (u:Tok) (a b:Value) (g:Bool),zl h z ti to (.int T u) (.bool g)/\IsPair h T a b
 ins:IsPair h ti (.ref j1) (.ref j2)
 Mb:h.IsListIter j1 l i
 Q6:h.IsTupleIter j2 tp i
 ls:h.IsList l xs
 tu:h.IsTuple tp ys
theorem mF{h:Heap}{a b:Addr}{o o':Obj}{c c':String}(e:h.get? a=some o)(e':h.get? b=some o')(hc:o.cls=.type c)(RC:o'.cls=.type c')(n:c≠c'):a≠b:=fun q=>by
 rw[q,e'] at e
 cases e
 rw[hc] at RC
 exact n (Value.type.inj RC)
theorem IU{z ti to j1 j2 l tp:Addr}{xs ys:Array Value}{i:Nat}{x y:Value}{Q:Option Value->zcB->Prop}(ap:Q5 z ti to j1 j2 l tp)(st:KN s.heap z ti to j1 j2 l tp xs ys i)(hx:xs[i]?=some x)(hy:ys[i]?=some y)
 (hQ:∀h',KN h' z ti to j1 j2 l tp xs ys (i+1)->IsPair h' s.heap.objs.size x y->(∀c o,c≠z->c≠to->c≠j1->c≠j2->s.heap.get? c=some o->h'.get? c=some o)->Q (some (.ref s.heap.objs.size)) {s with heap:=h' }) :
 wpAny (model prog w) A (pyNext (.ref z)) Q E s:=by
 have zT:s.TypeIs (.ref z) "zip":=by
  rcases st.zip with ⟨a,b,hz,_⟩ |⟨T,u,a,b,g,hz,_⟩
  ·exact⟨_,hz,rfl⟩
  ·exact⟨_,hz,rfl⟩
 obtain⟨o1,g1,c1,_⟩:=st.Mb
 obtain⟨o2,g2,c2,_⟩:=st.Q6
 obtain⟨ol,gl,cl,_⟩:=st.ls
 obtain⟨ot,gt,ct,_⟩:=st.tu
 obtain⟨oz,gz,cz⟩:=zT
 have lk:∀h',(∀c o,c≠z->c≠to->c≠j1->c≠j2->s.heap.get? c=some o->h'.get? c=some o)->IsPair h' ti (.ref j1) (.ref j2)/\h'.IsList l xs/\h'.IsTuple tp ys:=fun h' k=>by
  refine⟨k _ _ ap.zti.symm ap.WQ ap.WR ap.WS st.ins,?_,?_⟩
  ·obtain⟨q,gq,rest⟩:=st.ls
   exact⟨q,k _ _ (mF gl gz cl cz (by decide)) ap.WT (mF gl g1 cl c1 (by decide)) (mF gl g2 cl c2 (by decide)) gq,rest⟩
  ·obtain⟨q,gq,rest⟩:=st.tu
   exact⟨q,k _ _ (mF gt gz ct cz (by decide)) ap.Ma (mF gt g1 ct c1 (by decide)) (mF gt g2 ct c2 (by decide)) gq,rest⟩
 unfold pyNext
 refine zcu (wpAny_attempt (wpAny_callSpecial?_slot (name:=v9 "__next__") ⟨oz,gz,cz⟩ F.slot_zip_next (wpAny_call_entry F.slot_zip_next ⟨oz,gz,cz⟩ F.entry_zip_next ?_ (F.args_zip_next_1 _))))
 rcases st.zip with ⟨a,b,hz,hO⟩ |⟨T,u,a,b,g,hz,hT⟩
 ·refine CQ hz hO st.ins st.Mb st.Q6 st.ls st.tu ap.BZ ap.L8 ap.SR ap.IP ap.IQ ap.NK ap.Ma hx hy fun h' q1 q2 q3 q4 q5 q6=>zcv ?_
  obtain⟨k1,k2,k3⟩:=lk h' q6
  exact hQ h' ⟨.inr ⟨_,_,x,y,false,q1,q4⟩,k1,q2,q3,k2,k3⟩ q4 q6
 ·refine CO hz hT st.ins st.Mb st.Q6 st.ls st.tu ap.BZ ap.L8 ap.NK hx hy fun h' q1 q2 q3 q4 q5 q6=>zcv ?_
  have Zk:∀c o,c≠z->c≠to->c≠j1->c≠j2->s.heap.get? c=some o->h'.get? c=some o:=fun c o a1 _ a3 a4 e=>q6 c o a1 a3 a4 e
  obtain⟨k1,k2,k3⟩:=lk h' Zk
  exact hQ h' ⟨.inr ⟨T,u,a,b,true,q1,q6 _ _ (mF hT gz rfl cz (by decide)) (mF hT g1 rfl c1 (by decide)) (mF hT g2 rfl c2 (by decide)) hT⟩,k1,q2,q3,k2,k3⟩ q4 Zk
theorem Mc{z ti to j1 j2 l tp:Addr}{xs ys:Array Value}{i:Nat}{Q:Option Value->zcB->Prop}(hA:A.handled=none)(ap:Q5 z ti to j1 j2 l tp)(st:KN s.heap z ti to j1 j2 l tp xs ys i)(hx:xs[i]?=none)
 (hQ:∀h',(∀c o,c≠z->c≠j1->s.heap.get? c=some o->h'.get? c=some o)->Q none {s with heap:=h' }):wpAny (model prog w) A (pyNext (.ref z)) Q E s:=by
 have zT:s.TypeIs (.ref z) "zip":=by
  rcases st.zip with ⟨a,b,hz,_⟩ |⟨T,u,a,b,g,hz,_⟩
  ·exact⟨_,hz,rfl⟩
  ·exact⟨_,hz,rfl⟩
 unfold pyNext
 refine zcu (wpAny_attempt (wpAny_callSpecial?_slot (name:=v9 "__next__") zT F.slot_zip_next (wpAny_call_entry F.slot_zip_next zT F.entry_zip_next ?_ (F.args_zip_next_1 _))))
 rcases st.zip with ⟨a,b,hz,hO⟩ |⟨T,u,a,b,g,hz,hT⟩
 ·refine F0 hA hz st.ins st.Mb st.ls ap.BZ hx fun h' e k he=>?_
  obtain⟨oe,ge,ce⟩:=he
  refine zcu (wpAny_isInstance (T:="StopIteration") (b:=true) ⟨oe,ge,ce⟩ isSubtype_stop ?_)
  exact zcv (hQ _ k)
 ·refine FZ hA hz hT st.ins st.Mb st.ls ap.BZ hx fun h' e k he=>?_
  obtain⟨oe,ge,ce⟩:=he
  refine zcu (wpAny_isInstance (T:="StopIteration") (b:=true) ⟨oe,ge,ce⟩ isSubtype_stop ?_)
  exact zcv (hQ _ k)
theorem KN.but{h h':Heap}{z ti to j1 j2 l tp d:Addr}{xs ys:Array Value}{i:Nat}(st:KN h z ti to j1 j2 l tp xs ys i)(sb:Heap.SameBut d h h')(dn:∀a o,h.get? a=some o->(∀es n,o.data≠.dict es n)->a≠d):KN h' z ti to j1 j2 l tp xs ys i:=by
 have k:∀a o,h.get? a=some o->(∀es n,o.data≠.dict es n)->h'.get? a=some o:=fun a o e n=>sb.extBut _ _ (dn a o e n) e
 refine⟨?_,k _ _ st.ins (by intro es n q;cases q),?_,?_,?_,?_⟩
 ·rcases st.zip with ⟨a,b,hz,hO⟩ |⟨T,u,a,b,g,hz,hT⟩
  ·exact .inl ⟨a,b,k _ _ hz (by intro es n q;cases q),k _ _ hO (by intro es n q;cases q)⟩
  ·exact .inr ⟨T,u,a,b,g,k _ _ hz (by intro es n q;cases q),k _ _ hT (by intro es n q;cases q)⟩
 ·obtain⟨o,go,hc,hd⟩:=st.Mb
  exact⟨o,k _ _ go (by intro es n q;rw[hd] at q;cases q),hc,hd⟩
 ·obtain⟨o,go,hc,hd⟩:=st.Q6
  exact⟨o,k _ _ go (by intro es n q;rw[hd] at q;cases q),hc,hd⟩
 ·obtain⟨o,go,hc,n',hd⟩:=st.ls
  exact⟨o,k _ _ go (by intro es n q;rw[hd] at q;cases q),hc,n',hd⟩
 ·obtain⟨o,go,hc,n',hd⟩:=st.tu
  exact⟨o,k _ _ go (by intro es n q;rw[hd] at q;cases q),hc,n',hd⟩
theorem ED{κ:Type}[DecidableEq κ](knd:KeyKind prog w κ)(d z ti to j1 j2 l tp:Addr)(xs ys:Array Value)(res:Value)(hA:A.handled=none)(ap:Q5 z ti to j1 j2 l tp)(Zl:d≠to){R:Result->zcB->Prop}:∀(r:List (κ×Value×Value)) (i:Nat) (j:Int) (u:Tok) (aG:List (κ×Value)) (s:zcB),
 xs.toList.drop i=r.map (·.2.1)->ys.toList.drop i=r.map (·.2.2)->(∀q∈r,knd.is q.1 q.2.1=true)->KN s.heap z ti to j1 j2 l tp xs ys i->s.heap.DictOf knd d aG->aG.length+r.length<=zcz->
 (∀h' tk,h'.DictOf knd d (merged aG (r.map fun q=>(q.1,q.2.2)))->(∀b o,b≠d->b≠z->b≠to->b≠j1->b≠j2->s.heap.get? b=some o->h'.get? b=some o)->R (.ok (.ret res)) {s with heap:=h',toks:=tk})->
 codeAny (model prog w) A (.builtin "dict.update.loop" ⟨[.ref d,.ref z,.int j u,res],[]⟩) R s
 |[],i,j,u,aG,s,hi,hk,hp,st,hd,hz,hR=>by
  refine codeAny_builtin mE ?_
  rw[Around.under_plainId gk _]
  show wpAny _ A.in1 (pyNext (.ref z) >>= _) _ _ s
  have dn:∀a o,s.heap.get? a=some o->(∀es n,o.data≠.dict es n)->a≠d:=fun a o e n q=>by
   obtain⟨od,_,_,SS,_,L7,_⟩:=hd
   rw[q,SS] at e
   cases e
   exact n _ _ L7
  refine zcu (Mc hA ap st (by rw[<- zaM];rw[zaR] at hi;exact zbh (List.drop_eq_nil_iff.mp hi)) fun h' kp=>?_)
  show wpAny _ _ (Builtin.Dict.addKeywords d [] >>= _) _ _ _
  refine zcu (zcv (zcv (hR h' s.toks ?_ fun b o _ c1 _ c3 _ e=>kp b o c1 c3 e)))
  have dz:d≠z:=by
   rcases st.zip with ⟨a,b,gz,_⟩ |⟨T,u,a,b,g,gz,_⟩
   ·exact(dn _ _ gz (by intro es n q;cases q)).symm
   ·exact(dn _ _ gz (by intro es n q;cases q)).symm
  have dj:d≠j1:=by
   obtain⟨o,go,hc,B4⟩:=st.Mb
   exact(dn _ _ go (by intro es n q;rw[B4] at q;cases q)).symm
  obtain⟨o,es,ep,ho,rest⟩:=hd
  exact⟨o,es,ep,kp d o dz dj ho,rest⟩
 |q::r,i,j,u,aG,s,hi,hk,hp,st,hd,hz,hR=>by
  have hx:xs[i]?=some q.2.1:=by
   rw[<- zaM,<- zcr,hi]
   rfl
  have hy:ys[i]?=some q.2.2:=by
   rw[<- zaM,<- zcr,hk]
   rfl
  have dn:∀a o,s.heap.get? a=some o->(∀es n,o.data≠.dict es n)->a≠d:=fun a o e n q=>by
   obtain⟨od,_,_,SS,_,L7,_⟩:=hd
   rw[q,SS] at e
   cases e
   exact n _ _ L7
  have dz:d≠z:=by
   rcases st.zip with ⟨a,b,gz,_⟩ |⟨T,u,a,b,g,gz,_⟩
   ·exact(dn _ _ gz (by intro es n q;cases q)).symm
   ·exact(dn _ _ gz (by intro es n q;cases q)).symm
  have dj1:d≠j1:=by
   obtain⟨o,go,hc,B4⟩:=st.Mb
   exact(dn _ _ go (by intro es n q;rw[B4] at q;cases q)).symm
  have dj2:d≠j2:=by
   obtain⟨o,go,hc,B4⟩:=st.Q6
   exact(dn _ _ go (by intro es n q;rw[B4] at q;cases q)).symm
  refine codeAny_builtin mE ?_
  rw[Around.under_plainId gk _]
  show wpAny _ A.in1 (pyNext (.ref z) >>= _) _ _ s
  refine zcu (IU ap st hx hy fun h' KG pr kp=>?_)
  have B4:h'.DictOf knd d aG:=by
   obtain⟨o,es,ep,ho,rest⟩:=hd
   exact⟨o,es,ep,kp d o dz Zl dj1 dj2 ho,rest⟩
  show wpAny _ A.in1 (holding [Value.ref s.heap.objs.size] _ >>= _) _ _ _
  refine zcu (zcw (zcu (wpAny_tryCatch ?_)))
  unfold Builtin.Dict.pairItems
  refine zcu (wpAny_typeOf (T:="tuple") ⟨_,pr,rfl⟩ ?_)
  rw[if_pos (by decide)]
  refine zcu (wpAny_seqItems (s:={s with heap:=h' }) pr rfl (zcv ?_))
  show wpAny _ A.in1 (holding [q.2.1,q.2.2] (dictSet d q.2.1 q.2.2)) _ _ _
  refine zcw (wpAny_dictSet_pairs (s:={s with heap:=h' }) (hp q (UH ..)) B4 (fun h2 hd2 PF=>?_) (by simp only[V0] at hz;lia))
  refine zcv ⟨plainId_quiet gk _,?_⟩
  refine ED knd d z ti to j1 j2 l tp xs ys res hA ap Zl r (i+1) (j+1) _ _ _ ?_ ?_ (fun p SI=>hp p (zad _ SI)) (KG.but PF fun a o e n w=>?_) hd2 ?_ fun h3 tk KJ keep=>hR h3 tk KJ fun b o n1 n2 n3 n4 n5 e=>keep b o n1 n2 n3 n4 n5 ?_
  ·rw[<- List.drop_drop,hi]
   rfl
  ·rw[<- List.drop_drop,hk]
   rfl
  ·obtain⟨od,_,_,SS,_,L7,_⟩:=B4
   rw[w,SS] at e
   cases e
   exact n _ _ L7
  ·have:=stored_length_le aG q.1 q.2.2
   simp only[V0] at hz
   lia
  ·exact(PF.2 _ n1).trans (kp b o n2 n3 n4 n5 e)
theorem IV:typeLookup (.type "zip") "keys"=pure none:=by rw[typeLookup_type,builtinLookup_eq_fast];kernel_rfl
theorem IW:typeLookup (.type "zip") "__getattr__"=pure none:=by rw[typeLookup_type,builtinLookup_eq_fast];kernel_rfl
theorem zm:entryFor table "zip.__getattribute__"=some Builtin.«object.__getattribute__»:=entryFor_alias (id':="object.__getattribute__") (by kernel_rfl) (by first |rfl |decide +kernel) (by decide +kernel) (by kernel_rfl)
theorem F1(a:Addr)(u:Tok){hp:Heap}{g:Array GenState}{d:Drawn}{tk:Nat}{os:OsState}{vs:Array Value}{Q:Fin->zcB->Prop}(hx:hp.get? a=some ⟨.type "zip",none,.fields vs, #[]⟩)(hA:A.handled=none)
 (h:∀h' L6 e,Heap.NewAttrErr hp h' e (.ref a) "keys"->E (.ref e) ⟨h',g,d,L6,os⟩) :
 wpAny (model prog w) A (Builtin.«object.__getattribute__» ⟨[.ref a,.str "keys" u],[]⟩) Q E ⟨hp,g,d,tk,os⟩:=by
 have hT:(⟨hp,g,d,tk,os⟩:zcB).TypeIs (.ref a) "zip":=⟨_,hx,rfl⟩
 have f4:=IV
 unfold Builtin.«object.__getattribute__»
 repeat (any_goals (first |assumption |wp_step))
 exact wpAny_raiseAttrError hA h (attrMsg_fits (by decide +kernel) (by size_fits))
theorem CS(a:Addr){s:zcB}{vs:Array Value}{Q:Option Value->zcB->Prop}(hx:s.heap.get? a=some ⟨.type "zip",none,.fields vs, #[]⟩)(hA:A.handled=none)
 (h:∀h' tk,(∀b ob,s.heap.get? b=some ob->h'.get? b=some ob)->Q none {s with heap:=h',toks:=tk}):wpAny (model prog w) A (getAttr? (.ref a) "keys") Q E s:=by
 obtain⟨hp,g,d,tk,os⟩:=s
 have hT:∀L6,(⟨hp,g,d,L6,os⟩:zcB).TypeIs (.ref a) "zip":=fun _=>⟨_,hx,rfl⟩
 have f1:=sub_AttributeError
 have f2:=F.slot_zip_getattribute.lookup
 have f3:=F.slot_zip_getattribute.bind (.ref a)
 have f5:=IW
 unfold getAttr? getAttrBy? getAttrBy
 repeat (any_goals (first |assumption |exact hT _ |wp_step))
 all_goals
  refine codeAny_call_builtin F.slot_zip_getattribute.plain zm (F.slot_zip_getattribute.check _ _ _ _ _ _ _ _ (show (⟨hp,g,d,tk+1,os⟩:zcB).TypeIs (.ref a) "zip" from ⟨_,hx,rfl⟩) (F.args_zip_getattribute_2 _ _) ?_)
 all_goals
  refine F1 a tk hx hA fun h' L6 e ne=>?_
 all_goals
  obtain⟨t',u',he⟩:=ne.there
  show wpAny _ _ (getattributeRaised _ _ _ _ _ _ _) _ _ _
  unfold getattributeRaised
  repeat (any_goals (first |assumption |wp_step))
 all_goals exact h _ _ ne.keeps
end
noncomputable abbrev zA (h:Heap) (l:Addr):Heap:=h.push {cls:=.type "list_iterator",data:=.fields #[.ref l,.int 0 0]}
noncomputable abbrev zB (h:Heap) (l tp:Addr):Heap:=(zA h l).push {cls:=.type "tuple_iterator",data:=.fields #[.ref tp,.int 0 0]}
noncomputable abbrev zC (h:Heap) (l tp:Addr):Heap:=(zB h l tp).push {cls:=.type "tuple",data:=.seq #[.ref h.objs.size,.ref (zA h l).objs.size]}
noncomputable abbrev zD (h:Heap) (l tp:Addr):Heap:=(zC h l tp).push {cls:=.type "tuple",data:=.seq #[.none,.none]}
noncomputable abbrev zE (h:Heap) (l tp:Addr):Heap:=(zD h l tp).push {cls:=.type "zip",data:=.fields #[.none,.bool false,.bool false,.ref (zB h l tp).objs.size,.ref (zC h l tp).objs.size]}
theorem IX(l tp:Addr)(xs ys:Array Value):Meets (Builtin.«zip.__new__» ⟨[.type "zip",.ref l,.ref tp],[]⟩) (fun _ R s=>s.heap.IsList l xs/\s.heap.IsTuple tp ys/\R (.ok (.ret (.ref (zD s.heap l tp).objs.size))) {s with heap:=zE s.heap l tp}):=
 .of_wp fun prog w A R s h=>by
  obtain⟨hp,g,d,tk,os⟩:=s
  obtain⟨g1,g2,h⟩:=h
  have abk:=sub_zip
  have k1:Heap.IsList (Shared.heap ⟨hp,g,d,tk,os⟩) l xs:=g1
  have k2:Heap.IsTuple (Shared.heap ⟨hp.push {cls:=.type "list_iterator",data:=.fields #[.ref l,.int 0 0]},g,d,tk,os⟩) tp ys:=by
   obtain⟨o,go,rest⟩:=g2
   exact⟨o,Heap.get?_push_of_some _ go,rest⟩
  wp_walk using wpAny_pyIter_list k1,wpAny_pyIter_tuple k2
  exact⟨_,rfl,h⟩
section
variable{prog:zcD}{w:World}{A:zcC}{E:Value->zcB->Prop}{s:zcB}
theorem Md(n l tp:Nat)(h1:l<n)(h2:tp<n):Q5 (n+4) (n+2) (n+3) n (n+1) l tp:=by
 constructor<;>(show (_:Nat)≠_;lia)
theorem CT{l tp:Addr}{xs ys:Array Value}{Q:Value->zcB->Prop}(hl:s.heap.IsList l xs)(ht:s.heap.IsTuple tp ys)
 (h:∀h',Q5 (s.heap.objs.size+4) (s.heap.objs.size+2) (s.heap.objs.size+3) s.heap.objs.size (s.heap.objs.size+1) l tp->KN h' (s.heap.objs.size+4) (s.heap.objs.size+2) (s.heap.objs.size+3) s.heap.objs.size (s.heap.objs.size+1) l tp xs ys 0->
  zl h' (s.heap.objs.size+4) (s.heap.objs.size+2) (s.heap.objs.size+3) .none (.bool false)->(∀c o,s.heap.get? c=some o->h'.get? c=some o)->Q (.ref (s.heap.objs.size+4)) {s with heap:=h' }) :
 wpAny (model prog w) A (call (.type "zip") [.ref l,.ref tp]) Q E s:=by
 refine callType_new F.called_zip (by decide) (F.typeCall_zip_2 _ _) (F.newCall_zip_2 _ _) (fun obj=>F.args_object_init_3 obj _ _) F.entry_zip_new (IX l tp xs ys) ⟨hl,ht,?_⟩
 have z1:(zA s.heap l).objs.size=s.heap.objs.size+1:=Heap.size_push ..
 have z2:(zB s.heap l tp).objs.size=s.heap.objs.size+2:=by rw[Heap.size_push,z1]
 have z3:(zC s.heap l tp).objs.size=s.heap.objs.size+3:=by rw[Heap.size_push,z2]
 have z4:(zD s.heap l tp).objs.size=s.heap.objs.size+4:=by rw[Heap.size_push,z3]
 have g5:(zE s.heap l tp).get? (zD s.heap l tp).objs.size=some _:=Heap.get?_push_size _ rfl
 have g4:(zE s.heap l tp).get? (zC s.heap l tp).objs.size=some _:=Heap.get?_push_of_some _ (Heap.get?_push_size _ rfl)
 have g3:(zE s.heap l tp).get? (zB s.heap l tp).objs.size=some _:=Heap.get?_push_of_some _ (Heap.get?_push_of_some _ (Heap.get?_push_size _ rfl))
 have g2:(zE s.heap l tp).get? (zA s.heap l).objs.size=some _:=Heap.get?_push_of_some _ (Heap.get?_push_of_some _ (Heap.get?_push_of_some _ (Heap.get?_push_size _ rfl)))
 have g1:(zE s.heap l tp).get? s.heap.objs.size=some _:=Heap.get?_push_of_some _ (Heap.get?_push_of_some _ (Heap.get?_push_of_some _ (Heap.get?_push_of_some _ (Heap.get?_push_size _ rfl))))
 have up:∀c o,s.heap.get? c=some o->(zE s.heap l tp).get? c=some o:=fun c o e=>Heap.get?_push_of_some _ (Heap.get?_push_of_some _ (Heap.get?_push_of_some _ (Heap.get?_push_of_some _ (Heap.get?_push_of_some _ e))))
 show _/\_
 rw[z2,z3,z4] at g5
 rw[z1,z2] at g3
 rw[z3] at g4
 rw[z1] at g2
 rw[z4]
 obtain⟨ol,gl,rl⟩:=id hl
 obtain⟨ot,gt,rt⟩:=id ht
 have ll:=Heap.lt_size gl
 have lt:=Heap.lt_size gt
 refine⟨⟨_,g5,rfl⟩,h _ (Md _ _ _ ll lt) ⟨.inl ⟨_,_,g5,g4⟩,g3,⟨_,g1,rfl,rfl⟩,⟨_,g2,rfl,rfl⟩,⟨ol,up _ _ gl,rl⟩,⟨ot,up _ _ gt,rt⟩⟩ g5 up⟩
theorem IY{κ:Type}[DecidableEq κ](knd:KeyKind prog w κ)(z ti to j1 j2 l tp:Addr){xs ys:Array Value}{Q:Value->zcB->Prop}(hA:A.handled=none)(ap:Q5 z ti to j1 j2 l tp)(st:KN s.heap z ti to j1 j2 l tp xs ys 0)(gz:zl s.heap z ti to .none (.bool false))(r:List (κ×Value×Value))
 (hi:xs.toList=r.map (·.2.1)) (hk:ys.toList=r.map (·.2.2)) (hp:∀q∈r,knd.is q.1 q.2.1=true) (hz:r.length<=zcz) (WT:to<s.heap.objs.size)
 (h:∀h' tk,h'.DictOf knd s.heap.objs.size (merged [] (r.map fun q=>(q.1,q.2.2)))->(∀b o,b≠z->b≠to->b≠j1->b≠j2->s.heap.get? b=some o->h'.get? b=some o)->Q (.ref s.heap.objs.size) {s with heap:=h',toks:=tk}) :
 wpAny (model prog w) A (call (.type "dict") [.ref z]) Q E s:=by
 refine callType_codes (Q₁:=fun obj s₁=>obj=.ref s.heap.objs.size/\s₁={s with heap:=s.heap.push {cls:=.type "dict",data:=.dict #[]} }) F.kt_called_dict (F.kt_typeCall_dict_1 _) F.entry_dict_init (kt_code_dict_new _ ⟨rfl,rfl⟩) ?_
 rintro obj s₁ ⟨rfl,rfl⟩
 have CM:(s.heap.push {cls:=.type "dict",data:=.dict #[]}).DictOf knd s.heap.objs.size []:=Heap.DictOf.new s.heap
 have p0:∀b o,s.heap.get? b=some o->(s.heap.push {cls:=.type "dict",data:=.dict #[]}).get? b=some o:=fun b o e=>Heap.get?_push_of_some _ e
 refine⟨CM.typeIs,F.args_dict_init_2 _ _,?_⟩
 unfold Builtin.«dict.__init__»
 refine zcu ?_
 unfold Builtin.Dict.selfAndRest
 refine zcu (wpAny_notOrdered_dict CM.typeIs ?_)
 show wpAny _ _ (pure (s.heap.objs.size,[Value.ref z])) _ _ _
 refine zcv ?_
 show wpAny _ _ (Builtin.Dict.updateFrom "dict.__init__" s.heap.objs.size (.ref z) [] .none) _ _ _
 unfold Builtin.Dict.updateFrom
 refine zcu (wpAny_typeOf (T:="zip") ⟨_,p0 _ _ gz,rfl⟩ ?_)
 rw[if_pos (by decide)]
 refine zcu (CS z (p0 _ _ gz) hA fun h2 SM p9=>?_)
 rw[if_pos (show (none:Option Value).isNone=true from rfl)]
 refine zcu (wpAny_rule ?_)
 have up:∀b o,s.heap.get? b=some o->h2.get? b=some o:=fun b o e=>p9 _ _ (p0 _ _ e)
 have hd2:h2.DictOf knd s.heap.objs.size []:=by
  obtain⟨o,es,ep,ho,rest⟩:=CM
  exact⟨o,es,ep,p9 _ _ ho,rest⟩
 refine zcu (wpAny_pyIter_zip (s:={s with heap:=h2,toks:=SM}) (up _ _ gz) ?_)
 refine zcv ⟨plainId_quiet gk _,?_⟩
 have AE:KN h2 z ti to j1 j2 l tp xs ys 0:=by
  refine⟨?_,up _ _ st.ins,?_,?_,?_,?_⟩
  ·rcases st.zip with ⟨a,b,e1,e2⟩ |⟨T,u,a,b,g,e1,e2⟩
   ·exact .inl ⟨a,b,up _ _ e1,up _ _ e2⟩
   ·exact .inr ⟨T,u,a,b,g,up _ _ e1,up _ _ e2⟩
  ·obtain⟨o,go,rest⟩:=st.Mb;exact⟨o,up _ _ go,rest⟩
  ·obtain⟨o,go,rest⟩:=st.Q6;exact⟨o,up _ _ go,rest⟩
  ·obtain⟨o,go,rest⟩:=st.ls;exact⟨o,up _ _ go,rest⟩
  ·obtain⟨o,go,rest⟩:=st.tu;exact⟨o,up _ _ go,rest⟩
 refine ED (A:=A.in1) knd s.heap.objs.size z ti to j1 j2 l tp xs ys .none hA ap (zbF WT) r 0 0 _ [] _ (by simpa using hi) (by simpa using hk) hp AE hd2 (by simpa using hz) fun h4 WK WL IM=>?_
 refine⟨rfl,h h4 WK WL fun b o n1 n2 n3 n4 e=>IM b o (fun w=>?_) n1 n2 n3 n4 (up _ _ e)⟩
 rw[w] at e
 exact absurd (Heap.lt_size e) (zaE _)
end
end L3
namespace L2
open PySem PyProof.Rows
theorem CU(c n k:Nat)(h:c<n):c≠n+k:=by lia
def WU (K:k0) (t:TA):TE:=fun σ H Q=>t σ H fun xs H1=>∃(a b:Addr) (ks:List Key) (vs:List V),xs=[.ref a,.ref b]/\gS K H1 a (ks.map kV)/\b8 K H1 b vs/\vs.length=ks.length/\∀p,H1 p=none->Q (.ref p) (upd H1 p (.dK (iz [] (ks.zip vs))))
theorem we{X:Cx}(hc:X.calm=true){ea eb:Expr}{p1 p2 SU F2:Pos}{t:TA}(hg1:Gl X "dict")(hm1:X.mg "dict"=none)(hg2:Gl X "zip")(hm2:X.mg "zip"=none)(ha:PA X [ea,eb] t)
 (he:zcx [ea,eb] X.env=(false,eval ea X.env)::zcx [eb] X.env:=by rfl) (BX:(backTo F2 (zcx [eb] X.env)).any (·.1)=false:=by rfl)
 (UD:zcx [.Call (.Name "zip" p2) [ea,eb] [] F2] X.env=(false,eval (.Call (.Name "zip" p2) [ea,eb] [] F2) X.env)::zcx [] X.env:=by rfl) :
 PE X (.Call (.Name "dict" p1) [.Call (.Name "zip" p2) [ea,eb] [] F2] [] SU) (WU X.K t):=by
 intro pins s σ H Q I h
 refine wpAny_Call_Name_kw (qx I hg1 hm1 PyProof.Rows.Boot.«dict» ?_ (by decide) (by decide))
 refine za7 ?_ UD rfl
 rw[UD]
 show wpAny _ _ (spliced ((false,eval (.Call (.Name "zip" p2) [ea,eb] [] F2) X.env)::backTo SU (zcx [] X.env))) _ _ s
 refine Calls.spliced_cons ?_
 refine wpAny_Call_Name_kw (qx I hg2 hm2 PyProof.Rows.Boot.«zip» ?_ (by decide) (by decide))
 refine za7 (fK (ha F2 pins s σ H _ I h) fun us s1 zqz=>?_) he BX
 obtain⟨xs,H1,I1,r1,q1⟩:=zqz
 obtain⟨a,b,ks,vs,rfl,ha1,NL,lk,q⟩:=q1
 obtain⟨u1,u2,rfl,ru1,ru2⟩:=vals2 r1
 cases (show u1=Value.ref a from ru1)
 cases (show u2=Value.ref b from ru2)
 obtain⟨WV,v1,t1,z1⟩:=I1.list ha1
 obtain⟨rh,v2,t2,z2⟩:=I1.tuple NL
 have mk:∀(ks:List Key) (vs:List V) (UJ EE:List Value),Vals (ks.map kV) UJ->Vals vs EE->vs.length=ks.length->∃r:List (Key×Value×Value),UJ=r.map (·.2.1)/\EE=r.map (·.2.2)/\(∀q∈r,(bX X.prog X.w).is q.1 q.2.1=true)/\KV (ks.zip vs) (r.map fun q=>(q.1,q.2.2))/\r.length=ks.length:=by
  intro ks
  induction ks with
  |nil=>
   intro vs UJ EE w1 w2 l
   have:vs=[]:=zaC.mp l
   subst this
   cases w1
   cases w2
   exact⟨[],rfl,rfl,fun _ z=>(by cases z),.nil,rfl⟩
  |cons k ks ih=>
   intro vs UJ EE w1 w2 l
   cases vs with
   |nil=>simp at l
   |cons v vs=>
    rw[Y9] at w1
    cases w1 with
    |@cons _ ku _ kus w11 w12=>
     cases w2 with
     |@cons _ vu _ vus w21 w22=>
      obtain⟨r,e1,e2,h3,h4,h5⟩:=ih vs kus vus w12 w22 (by simpa using l)
      refine⟨(k,ku,vu)::r,by rw[e1];rfl,by rw[e2];rfl,fun q hq=>?_,.cons ⟨rfl,w21⟩ h4,by simp[h5]⟩
      rcases Zd.mp hq with rfl |hq
      ·exact vC w11
      ·exact h3 q hq
 obtain⟨r,e1,e2,kis,kv,lr⟩:=mk ks vs WV rh v1 v2 lk
 rw[Zb] at z1
 refine L3.CT t1.isList (show s1.heap.IsTuple b rh.toArray from t2) fun h' ap st gz keep=>?_
 refine Calls.spliced_nil ?_
 have big:(s1.heap.objs.size+4:Nat)<h'.objs.size:=Heap.lt_size gz
 have hle:s1.heap.objs.size<=h'.objs.size:=by lia
 refine L3.IY (s:={s1 with heap:=h' }) (bX X.prog X.w) _ _ _ _ _ a b (I1.ok.hd hc) ap st gz r (by simpa using e1) (by simpa using e2) kis (by lia) (show (s1.heap.objs.size+3:Nat)<h'.objs.size by lia) fun h2 tk dd p9=>?_
 have hn:=I1.cS.fresh hle
 have hb:(h'.objs.size==sysModules)=false:=beq_eq_false_iff_ne.mpr (Ne.symm (zam (zaj I1.big hle)))
 refine⟨.ref h'.objs.size,_,I1.laid (fun c o e=>p9 c o ?_ ?_ ?_ ?_ (keep c o e)) hle (vD ?_ hb (kv.merge .nil) dd),rfl,q _ hn⟩
 ·have lc:(c:Nat)<s1.heap.objs.size:=Heap.lt_size e
  exact CU _ _ _ lc
 ·have lc:(c:Nat)<s1.heap.objs.size:=Heap.lt_size e
  exact CU _ _ _ lc
 ·have lc:(c:Nat)<s1.heap.objs.size:=Heap.lt_size e
  exact zam lc
 ·have lc:(c:Nat)<s1.heap.objs.size:=Heap.lt_size e
  exact CU _ _ _ lc
 ·have h1:=gY (ks.zip vs) []
  rw[zak,List.length_zip] at h1
  lia
section
variable{K:k0}{H H':Hp}{p C dx:Addr}{fs:List (Str×V)}
mutual
theorem pK(h:H p=some (.ins C dx fs))(u:br (·=p) H H'):∀(d:Dp) (v:V),Rep K H d v->Rep K H' d v
 |.cD,v,r=>by rw[Rep.jK] at r ⊢;exact r
 |.bl b,v,r=>by rw[Rep.kQ] at r ⊢;exact r
 |.int b,v,r=>by rw[Rep.bw] at r ⊢;exact r
 |.str b,v,r=>by rw[Rep.bI] at r ⊢;exact r
 |.lst l,v,r=>by
  rw[Rep.bC] at r ⊢
  obtain⟨a,ys,rfl,q,rs⟩:=r
  refine⟨a,ys,rfl,?_,lK h u l ys rs⟩
  rcases q with (q |⟨o,q⟩) |q
  ·exact .inl (.inl (u _ _ (bR q h (by intro z;cases z)) q))
  ·exact .inl (.inr ⟨o,u _ _ (bR q h (by intro z;cases z)) q⟩)
  ·exact .inr q
 |.tup l,v,r=>by
  rw[Rep.bc] at r ⊢
  obtain⟨a,ys,rfl,q,rs⟩:=r
  refine⟨a,ys,rfl,?_,lK h u l ys rs⟩
  rcases q with (q |⟨o,q⟩) |q
  ·exact .inl (.inl (u _ _ (bR q h (by intro z;cases z)) q))
  ·exact .inl (.inr ⟨o,u _ _ (bR q h (by intro z;cases z)) q⟩)
  ·exact .inr q
theorem lK(h:H p=some (.ins C dx fs))(u:br (·=p) H H'):∀(ds:List Dp) (vs:List V),aP K H ds vs->aP K H' ds vs
 |[],vs,r=>by rw[aP.bh] at r ⊢;exact r
 |d::ds,vs,r=>by
  rw[aP.aI] at r ⊢
  obtain⟨v,t,rfl,r1,r2⟩:=r
  exact⟨v,t,rfl,pK h u d v r1,lK h u ds t r2⟩
end
end
theorem qH{K:k0}{a D:Addr}{xs:List V}{te:TE}{Q:VK}{r:St}{H:Hp}(kf:Nat->Key×V)(hS:gS K H a xs)(hl:xs.length<=16000000)(hD:H D=none)
 (step:∀i x H2,xs[i]?=some x->aq H H2->∀R:VK,(∀p,H2 p=none->R (.ref p) (upd H2 p (.tup [kV (kf i).1,(kf i).2])))->te (some x::r) H2 R)
 (q:∀(ps:List (Addr×Key×V)) H2,aq H H2->H2 D=some (.lst (ps.map fun q=>V.ref q.1))->(∀q∈ps,H2 q.1=some (.tup [kV q.2.1,q.2.2]))->ps.map (·.2)=(zao xs.length).map kf->Q (.ref D) H2) :
 vI (Gx K a) D (gW 0) Ct te Q (none::r) (upd H D (.lst [])):=by
 refine wb (K:=K) (fun i ys H2=>∃ps:List (Addr×Key×V),ys=ps.map (fun q=>V.ref q.1)/\(∀q∈ps,H2 q.1=some (.tup [kV q.2.1,q.2.2]))/\ps.map (·.2)=(zao i).map kf) hS hl hD ⟨[],rfl,fun _ z=>(by cases z),rfl⟩ ?_ ?_
 ·rintro i x ys H2 hx s2 PH ly ⟨ps,rfl,Me,ep⟩ R hR
  refine step i x H2 hx s2 R fun p hp=>hR _ _ (aq.new hp _) ⟨ps++[(p,kf i)],by simp,fun q hq=>?_,by rw[zae,ep,zbg,zae];rfl⟩
  have pD:D≠p:=aj PH hp
  rcases zap.mp hq with hq |hq
  ·have e:=Me q hq
   rw[aw (bR e PH (by intro z;cases z))]
   exact aq.new hp _ _ _ e
  ·rw[zac.mp hq]
   show upd (upd H2 p _) D _ p=_
   rw[aw pD.symm,ae]
 ·rintro ys H2 s2 PH ⟨ps,rfl,Me,ep⟩
  exact q ps H2 s2 PH Me ep
theorem lL{K:k0}{a D:Addr}{xs:List V}{te:TE}{Q:VK}{r:St}{H:Hp}(f:Nat->V)(hS:gS K H a xs)(hl:xs.length<=16000000)(hD:H D=none)
 (step:∀i x H2,xs[i]?=some x->aq H H2->∀R:VK,R (f i) H2->te (some x::r) H2 R)
 (q:∀H2,aq H H2->H2 D=some (.lst ((zao xs.length).map f))->Q (.ref D) H2):vI (Gx K a) D (gW 0) Ct te Q (none::r) (upd H D (.lst [])):=by
 refine wb (K:=K) (fun i ys H2=>ys=(zao i).map f) hS hl hD rfl ?_ ?_
 ·rintro i x ys H2 hx s2 PH ly rfl R hR
  exact step i x H2 hx s2 R (hR _ _ (aq.refl _) (by rw[zbg,zae];rfl))
 ·rintro ys H2 s2 PH rfl
  exact q H2 s2 PH
structure tD(K:k0)(C:Addr)(H:Hp)(p:Addr)(pr:PG.Prog):Prop where
 at_:∃(dx nl sd fa va st wy:Addr) (us ws:List V),H p=some (.ins C dx [("names",.ref nl),("sizes",.ref sd),("first",.ref fa),("statements",.ref st),("ways",.ref wy)])/\H dx=some (.own p)/\
  H nl=some (.lst (pr.aK.map fun b=>.str (S b.name)))/\H sd=some (.dK (pr.aK.map fun b=>(.inr (S b.name),.int b.size)))/\
  H fa=some (.tup [.int (PG.bt pr.body 0),.ref va])/\H va=some (.tup (pr.aK.map fun b=>.int b.first))/\
  us.length=(PG.aC pr.body).length/\H st=some (.dK (cX (PG.aC pr.body) us))/\aP K H ((PG.aC pr.body).map dq) us/\
  ws.length=(PG.aS pr.body 0).length/\H wy=some (.dK (zaS (fun r v=>(Sum.inl r.1,v)) (PG.aS pr.body 0) ws))/\∀i (hi:i<(PG.aS pr.body 0).length),∃q,ws[i]?=some (.ref q)/\b8 K H q ((PG.aS pr.body 0)[i].2.2.map V.int)
section
variable(K:k0)(C:Addr)
def Mf:Sp:=fun vs H Q _=>∃(p dx:Addr) (v:V) (pr:PG.Prog),vs=[.ref p,v]/\H p=some (.ins C dx [])/\H dx=some (.own p)/\Rep K H (i0 pr) v/\PG.fX pr.body<=3/\(PG.cK pr.body).length<=1000/\(PG.aC pr.body).Pairwise (fun a b=>a.row<b.row)/\(pr.aK.map (·.name)).Nodup/\pr.aK.length<=10/\
 ∀H',bA p H H'->tD K C H' p pr->Q .cD H'
end
end L2
namespace L2
open PySem
noncomputable def xo (aG:List (Key×V)) (x:W):Int:=match cY aG (.inr (S x)) with
 |some (.int i)=>i
 |_=>0
def GB (aG:List (Key×V)):PM.Tr->Prop
 |.num n=>n.natAbs<=2 ^ 12
 |.box x=>∃i:Int,cY aG (.inr (S x))=some (.int i)/\i.natAbs<=2 ^ 12
 |.bin o l r=>(o=[43]\/o=[45]\/o=[42])/\GB aG l/\GB aG r
theorem CV{aG:List (Key×V)}{x:W}{i:Int}(h:cY aG (.inr (S x))=some (.int i)):xo aG x=i:=by
 unfold xo
 rw[h]
theorem lM{aG:List (Key×V)}:∀ {t:PM.Tr},GB aG t->(cu (xo aG) t).natAbs<=2 ^ (14*2 ^ PG.mz t)
 |.num n,h=>by
  rw[GB] at h
  rw[cu]
  simp only[PG.mz]
  exact zan h (zaJ (by decide) (by decide))
 |.box x,h=>by
  rw[GB] at h
  obtain⟨i,e,hi⟩:=h
  rw[cu,CV e]
  simp only[PG.mz]
  exact zan hi (zaJ (by decide) (by decide))
 |.bin o l r,h=>by
  rw[GB] at h
  have hl:=lM h.2.1
  have hr:=lM h.2.2
  have one:∀a b:Nat,1<=2 ^ max a b:=fun a b=>zbG
  have ml:(cu (xo aG) l).natAbs<=2 ^ (14*2 ^ max (PG.mz l) (PG.mz r)):=zan hl (zaJ (by decide) (Nat.mul_le_mul_left _ (zaJ (by decide) (Nat.le_max_left _ _))))
  have mr:(cu (xo aG) r).natAbs<=2 ^ (14*2 ^ max (PG.mz l) (PG.mz r)):=zan hr (zaJ (by decide) (Nat.mul_le_mul_left _ (zaJ (by decide) (Nat.le_max_right _ _))))
  rw[PG.mz,show 14*2 ^ (max (PG.mz l) (PG.mz r)+1)=14*2 ^ max (PG.mz l) (PG.mz r)+14*2 ^ max (PG.mz l) (PG.mz r) by rw[zck];lia]
  have WW:14<=14*2 ^ max (PG.mz l) (PG.mz r):=Nat.le_mul_of_pos_right _ (one _ _)
  generalize 14*2 ^ max (PG.mz l) (PG.mz r)=k at *
  have two:2<=2 ^ k:=zan (by decide:2<=2 ^ 1) (zaJ (by decide) (by lia))
  rw[Nat.pow_add]
  have b2:2*2 ^ k<=2 ^ k*2 ^ k:=Nat.mul_le_mul_right _ two
  rw[cu]
  split
  ·lia
  ·split
   ·lia
   ·rw[Int.natAbs_mul]
    exact Nat.mul_le_mul ml mr
theorem zo{a:Int}{d:Nat}(h:a.natAbs<=2 ^ (14*2 ^ d))(hd:d<=6):a.natAbs<2 ^ 4000:=by
 refine zbt h (Nat.pow_lt_pow_right (by decide) ?_)
 have:2 ^ d<=2 ^ 6:=zaJ (by decide) hd
 lia
section
variable(K:k0)
def NM (n:Nat):Sp:=fun vs H Q _=>∃(v:V) (d:Addr) (tr:PM.Tr) (aG:List (Key×V)),vs=[v,.ref d]/\Rep K H (ji tr) v/\H d=some (.dK aG)/\GB aG tr/\PG.mz tr<n/\PG.mz tr<=6/\∀H',aq H H'->Q (.int (cu (xo aG) tr)) H'
end
theorem tD.mono{K:k0}{C p:Addr}{H H':Hp}{pr:PG.Prog}(c:tD K C H p pr)(s:aq H H'):tD K C H' p pr:=by
 obtain⟨dx,nl,sd,fa,va,st,wy,us,ws,h1,h2,h3,h4,h5,h6,h7,h8,h9,F3,GC,KO⟩:=c.at_
 exact⟨⟨dx,nl,sd,fa,va,st,wy,us,ws,s _ _ h1,s _ _ h2,s _ _ h3,s _ _ h4,s _ _ h5,s _ _ h6,h7,s _ _ h8,h9.mono s,F3,s _ _ GC,fun i hi=>let ⟨q,e,r⟩:=KO i hi;⟨q,e,s.bo r⟩⟩⟩
theorem j3{α β:Type}(g:α->β)(d:α)(l:List α):(zao l.length).map (fun i=>g (l.getD i d))=l.map g:=by
 apply zbA
 ·simp
 ·intro i h1 h2
  simp at h1 h2
  simp[h2]
noncomputable def dc (bs:List PG.fW) (vs:List V):List (Key×V):=zaS (fun b v=>(Sum.inr (S b.name),v)) bs vs
theorem qI:∀(bs:List PG.fW) (vs:List V),(bs.map fun b=>(Sum.inr (S b.name):Key)).zip vs=dc bs vs
 |[],vs=>by simp[dc]
 |b::bs,[]=>by simp[dc]
 |b::bs,v::vs=>by
  show _::(bs.map fun b=>(Sum.inr (S b.name):Key)).zip vs=_::dc bs vs
  rw[qI bs vs]
theorem oC:∀(bs:List PG.fW) (vs:List V),vs.length=bs.length->(dc bs vs).map (·.1)=bs.map fun b=>(Sum.inr (S b.name):Key)
 |[],[],_=>rfl
 |[],_::_,h=>by simp at h
 |_::_,[],h=>by simp at h
 |b::bs,v::vs,h=>by
  show _::(dc bs vs).map (·.1)=_
  rw[oC bs vs (by simpa using h)]
  rfl
theorem names_nodup{bs:List PG.fW}(nb:(bs.map (·.name)).Nodup):(bs.map fun b=>(Sum.inr (S b.name):Key)).Nodup:=by
 refine zaV.mpr ((zaV.mp nb).imp fun {a b} Ey e=>Ey ?_)
 exact nV.mp (Sum.inr.inj e)
theorem lN:∀(bs:List PG.fW) (vs:List V),vs.length=bs.length->(bs.map (·.name)).Nodup->∀i (hi:i<bs.length) v,vs[i]?=some v->cY (dc bs vs) (.inr (S bs[i].name))=some v
 |[],_,_,_,i,hi,_,_=>by simp at hi
 |_::_,[],h,_,_,_,_,_=>by simp at h
 |b::bs,v::vs,h,nb,0,hi,u,hu=>by
  simp at hu
  subst hu
  show cY ((_,v)::dc bs vs) _=_
  exact cF rfl
 |b::bs,v::vs,h,nb,i+1,hi,u,hu=>by
  rw[Y9,zaq] at nb
  have mem:(bs[i]'(by simpa using hi)).name∈bs.map (·.name):=zar.mpr ⟨_,zah _,rfl⟩
  show cY ((.inr (S b.name),v)::dc bs vs) (.inr (S (bs[i]'(by simpa using hi)).name))=_
  rw[cG (fun e=>by have e:=nV.mp (Sum.inr.inj e);exact nb.1 (e▸mem))]
  exact lN bs vs (by simpa using h) nb.2 i (by simpa using hi) u (by simpa using hu)
section
variable(K:k0)(C:Addr)
def F4:Sp:=fun vs H Q _=>∃(p a:Addr) (pr:PG.Prog) (us:List V),vs=[.ref p,.ref a]/\tD K C H p pr/\b8 K H a us/\us.length=pr.aK.length/\(pr.aK.map (·.name)).Nodup/\pr.aK.length<=10/\
 ∀d H',aq H H'->H d=none->H' d=some (.dK (dc pr.aK us))->Q (.ref d) H'
def F5:Sp:=fun vs H Q _=>∃(p d:Addr) (pr:PG.Prog) (aG:List (Key×V)) (us:List V),vs=[.ref p,.ref d]/\tD K C H p pr/\H d=some (.dK aG)/\us.length=pr.aK.length/\(∀i (hi:i<pr.aK.length),cY aG (.inr (S pr.aK[i].name))=us[i]?)/\pr.aK.length<=10/\
 ∀a H',aq H H'->b8 K H' a us->Q (.ref a) H'
def IZ:Sp:=fun vs H Q _=>∃(p:Addr) (pr:PG.Prog) (row:Int),vs=[.ref p,.int row]/\tD K C H p pr/\(PG.aC pr.body).Pairwise (fun a b=>a.row<b.row)/\
 ((row=0/\Q (.str "end") H)\/(row≠0/\∃i,∃hi:i<(PG.aC pr.body).length,(PG.aC pr.body)[i].row=row/\Q (.str (hV (PG.aC pr.body)[i].wd)) H))
end
noncomputable def uo:PG.bH->Option (W×PM.Tr×PM.Tr)
 |.c9 _ sg l r=>some (sg,l,r)
 |.ifs _ sg l r _ _=>some (sg,l,r)
 |.fj _ sg l r _=>some (sg,l,r)
 |_=>none
noncomputable def mG (sg:W) (a b:Int):Bool:=if sg=[60] then decide (a<b) else decide (a=b)
noncomputable def wv (bs:List PG.fW) (vals:List Int) (e:PM.Tr):Int:=cu (xo (dc bs (vals.map V.int))) e
abbrev B0 (bs:List PG.fW) (vals:List Int) (e:PM.Tr):Prop:=GB (dc bs (vals.map V.int)) e/\PG.mz e<=2
theorem wg{K:k0}{H:Hp}{st:PG.bH}{v:V}{sg:W}{l r:PM.Tr}(h:Rep K H (dq st) v)(c:uo st=some (sg,l,r)):∃a w0 vl vr ys,v=.ref a/\b8 K H a (w0 :: .int st.row :: .str (S sg)::vl::vr::ys)/\Rep K H (ji l) vl/\Rep K H (ji r) vr:=by
 have key:∃w ds,dq st=.tup (.str w :: .int st.row :: .str (S sg)::ji l::ji r::ds):=by
  cases st<;>simp only[uo,zax.injEq,Prod.mk.injEq,reduceCtorEq] at c<;>obtain⟨rfl,rfl,rfl⟩:=c<;>exact⟨_,_,by rw[dq];rfl⟩
 obtain⟨w0,ds,e⟩:=key
 rw[e,Rep.bc] at h
 obtain⟨a,xs,rfl,q,rs⟩:=h
 rw[aP.aI] at rs
 obtain⟨v0,t0,rfl,_,rs⟩:=rs
 rw[aP.aI] at rs
 obtain⟨v1,t1,rfl,e1,rs⟩:=rs
 rw[aP.aI] at rs
 obtain⟨v2,t2,rfl,e2,rs⟩:=rs
 rw[aP.aI] at rs
 obtain⟨v3,t3,rfl,e3,rs⟩:=rs
 rw[aP.aI] at rs
 obtain⟨v4,t4,rfl,e4,rs⟩:=rs
 rw[Rep.bw] at e1
 rw[Rep.bI] at e2
 subst e1 e2
 exact⟨a,v0,v3,v4,t4,rfl,q,e3,e4⟩
def cm (K:k0) (H:Hp) (sa:Addr) (row:Int) (vals:List Int):Prop:=∃va,b8 K H sa [.int row,.ref va]/\b8 K H va (vals.map V.int)
theorem cm.mono{K:k0}{H H':Hp}{sa:Addr}{row:Int}{vals:List Int}(h:cm K H sa row vals)(s:aq H H'):cm K H' sa row vals:=let ⟨va,h1,h2⟩:=h;⟨va,s.bo h1,s.bo h2⟩
structure Bo(pr:PG.Prog):Prop where
 pw:(PG.aC pr.body).Pairwise (fun a b=>a.row<b.row)
 nb:(pr.aK.map (·.name)).Nodup
 um:pr.aK.length<=10
 pos:∀s∈PG.aC pr.body,0<s.row
section
variable(K:k0)(C:Addr)
def Mg:Sp:=fun vs H Q _=>∃(p sa:Addr) (pr:PG.Prog) (vals:List Int) (i:Nat) (hi:i<(PG.aC pr.body).length) (sg:W) (l r:PM.Tr),vs=[.ref p,.ref sa]/\tD K C H p pr/\Bo pr/\cm K H sa (PG.aC pr.body)[i].row vals/\vals.length=pr.aK.length/\uo (PG.aC pr.body)[i]=some (sg,l,r)/\B0 pr.aK vals l/\B0 pr.aK vals r/\
 ∀H',aq H H'->Q (.bl (mG sg (wv pr.aK vals l) (wv pr.aK vals r))) H'
end
theorem yn:∀(fl:List PG.fk) (vs:List V),vs.length=fl.length->fl.Pairwise (fun a b=>a.1<b.1)->∀i (hi:i<fl.length) v,vs[i]?=some v->cY (zaS (fun r v=>((Sum.inl r.1:Key),v)) fl vs) (.inl fl[i].1)=some v
 |[],_,_,_,i,hi,_,_=>by simp at hi
 |_::_,[],h,_,_,_,_,_=>by simp at h
 |s::ss,v::vs,h,hp,0,hi,u,hu=>by
  simp at hu
  subst hu
  rw[List.zipWith_cons_cons]
  exact cF rfl
 |s::ss,v::vs,h,hp,i+1,hi,u,hu=>by
  rw[List.pairwise_cons] at hp
  have lt:=hp.1 (ss[i]'(by simpa using hi)) (zah _)
  rw[List.zipWith_cons_cons]
  show cY _ (Sum.inl (ss[i]'(by simpa using hi)).1:Key)=_
  rw[cG (fun e=>by have e:=Sum.inl.inj e;lia)]
  exact yn ss vs (by simpa using h) hp.2 i (by simpa using hi) u (by simpa using hu)
theorem iD(b:List PG.bH)(i:Nat)(hi:i<(PG.aC b).length):∃hf:i<(PG.aS b 0).length,(PG.aS b 0)[i].1=(PG.aC b)[i].row/\(PG.aS b 0)[i].2.1=(PG.aC b)[i].wd:=by
 have e:((PG.aS b 0).map fun r=>(r.1,r.2.1))=(PG.aC b).map fun x=>(x.row,x.wd):=by rw[PG.eU,PG.fL]
 have l:=congrArg zaO e
 rw[Zb,Zb] at l
 have hf:i<(PG.aS b 0).length:=by lia
 refine⟨hf,?_⟩
 have h1:((PG.aS b 0).map fun r=>(r.1,r.2.1))[i]?=((PG.aC b).map fun x=>(x.row,x.wd))[i]?:=by rw[e]
 rw[UB,UB,Za hf,Za hi] at h1
 have h1:=zax.inj h1
 exact⟨congrArg Prod.fst h1,congrArg Prod.snd h1⟩
theorem F6{b:List PG.bH}(pw:(PG.aC b).Pairwise fun a b=>a.row<b.row):(PG.aS b 0).Pairwise fun a b=>a.1<b.1:=by
 have e:((PG.aS b 0).map fun r=>(r.1,r.2.1))=(PG.aC b).map fun x=>(x.row,x.wd):=by rw[PG.eU,PG.fL]
 have h:((PG.aC b).map fun x=>(x.row,x.wd)).Pairwise fun a b=>a.1<b.1:=zaV.mpr pw
 rw[<- e,zaV] at h
 exact h
theorem tD.way{K:k0}{C p:Addr}{H:Hp}{pr:PG.Prog}(c:tD K C H p pr)(ok:Bo pr)(i:Nat)(hi:i<(PG.aC pr.body).length)(hf:i<(PG.aS pr.body 0).length):∃dx fs wy q,H p=some (.ins C dx fs)/\fs.lookup (v9 "ways")=some (V.ref wy)/\pT H wy (.int (PG.aC pr.body)[i].row) (some (.ref q))/\b8 K H q ((PG.aS pr.body 0)[i].2.2.map V.int):=by
 obtain⟨dx,nl,sd,fa,va,st,wy,us,ws,h1,h2,h3,h4,h5,h6,h7,h8,h9,F3,GC,KO⟩:=c.at_
 obtain⟨q,e,hq⟩:=KO i hf
 obtain⟨hf',e1,_⟩:=iD pr.body i hi
 have g:=yn _ _ F3 (F6 ok.pw) i hf _ e
 rw[e1] at g
 exact⟨dx,_,wy,q,h1,rfl,.inl ⟨_,.inl _,.inl GC,rfl,g.symm⟩,hq⟩
def lO (K:k0) (H:Hp):Option (Int×List Int)->V->Prop
 |none,v=>v=.cD
 |some x,v=>∃a,v=.ref a/\cm K H a x.1 x.2
noncomputable def iE (bs:List PG.fW) (st:PG.bH) (ws:List Int) (vals:List Int):Option (Int×List Int):=match uo st with
 |none=>none
 |some (sg,l,r)=>if mG sg (wv bs vals l) (wv bs vals r) then some (ws.getD 0 0,vals) else if st.wd=.c9 then none else some (ws.getD 1 0,vals)
section
variable(K:k0)(C:Addr)
def F7:Sp:=fun vs H Q _=>∃(p sa:Addr) (pr:PG.Prog) (vals:List Int) (i:Nat) (hi:i<(PG.aC pr.body).length) (hf:i<(PG.aS pr.body 0).length) (sg:W) (l r:PM.Tr),vs=[.ref p,.ref sa]/\tD K C H p pr/\Bo pr/\cm K H sa (PG.aC pr.body)[i].row vals/\vals.length=pr.aK.length/\uo (PG.aC pr.body)[i]=some (sg,l,r)/\B0 pr.aK vals l/\B0 pr.aK vals r/\
 0<(PG.aS pr.body 0)[i].2.2.length/\((PG.aC pr.body)[i].wd≠.c9->1<(PG.aS pr.body 0)[i].2.2.length)/\
 ∀v H',aq H H'->lO K H' (iE pr.aK (PG.aC pr.body)[i] (PG.aS pr.body 0)[i].2.2 vals) v->Q v H'
end
open PyProof.Rows
def Mh:V->List V->Hp->VK->Prop:=fun x vs H Q=>∃(l:Addr) (ss:List Str) (y:Str) (j:Nat),x=.ref l/\vs=[.str y]/\H l=some (.lst (ss.map V.str))/\ss[j]?=some y/\(∀m,m<j->ss[m]?≠some y)/\Q (.int j) H
theorem F8{X:Cx}:R7 X "list.index" Mh:=by
 intro pins s σ H x vs v us Q I rx rv h
 obtain⟨l,ss,y,j,rfl,rfl,hH,hj,V8,q⟩:=h
 cases rx
 obtain⟨u,rfl,ru⟩:=rv.one
 obtain⟨t,rfl⟩:=(show ∃t,u=Value.str y t from ru)
 obtain⟨z,bz,n,r,hl,e⟩:=I.Cq hH
 rw[Zb] at z hl
 have line:zcz=2 ^ 24:=rfl
 have get:∀m (hm:m<bz.length),∃t',bz[m]=Value.str (ss[m]'(by lia)) t':=fun m hm=>by
  obtain⟨w',hw,Hg⟩:=r.get (i:=m) (show (ss.map V.str)[m]?=some (V.str (ss[m]'(by lia))) by rw[UB,Za (by lia)];rfl)
  rw[Za hm] at hw
  cases hw
  exact Hg
 have lj:j<ss.length:=(WD.mp hj).1
 have ej:ss[j]=y:=(WD.mp hj).2
 let e0:Value->Bool:=fun v=>match v with
  |.str a _=>a==y
  |_=>false
 refine call_meets F.slot_list_index ⟨_,e,rfl⟩ F.entry_list_index (F.args_list_index_2 _ _)
  (SeqAt.list_indexAt l bz.toArray n none #[] (.str y t) e0 j (by rw[zaa];lia) (by lia) ?_ ?_) ⟨e,?_,?_⟩
 ·obtain⟨t',et⟩:=get j (by lia)
  show e0 bz[j]=true
  rw[et,ej]
  simp[e0]
 ·intro m hm lt
  have hm':m<bz.length:=by simpa using hm
  obtain⟨t',et⟩:=get m hm'
  show e0 bz[m]=false
  rw[et]
  have:=V8 m lt
  rw[Za (by lia)] at this
  simp only[e0]
  exact beq_eq_false_iff_ne.mpr fun w=>this (by rw[w])
 ·intro v hv
  rw[List.mem_toArray] at hv
  obtain⟨m,hm,rfl⟩:=zbB.mp hv
  obtain⟨t',et⟩:=get m hm
  rw[et]
  exact SeqAt.EqAt.str_str _ _ _ _
 ·exact⟨.int j,H,I.tok _,⟨_,rfl⟩,q⟩
noncomputable def du (bs:List PG.fW) (x:W):Nat:=(bs.map (·.name)).idxOf x
noncomputable def rO (bs:List PG.fW) (vals:List Int) (x:W) (v:Int):List Int:=vals.set (du bs x) v
noncomputable def eQ (bs:List PG.fW) (x:W):Int:=((bs[du bs x]?).map (·.size)).getD 1
noncomputable def jD (bs:List PG.fW) (st:PG.bH) (ws vals:List Int) (fig:Int):Option (Int×List Int)×Option Int:=match st with
 |.ask _ b=>(some (ws.getD 0 0,rO bs vals b (fig%eQ bs b)),none)
 |.put _ b e=>(some (ws.getD 0 0,rO bs vals b (wv bs vals e%eQ bs b)),none)
 |.say _ e=>(some (ws.getD 0 0,vals),some (wv bs vals e))
 |.stop _=>(some (ws.getD 0 0,vals),none)
 |st=>(iE bs st ws vals,none)
def EF (bs:List PG.fW) (vals:List Int):PG.bH->Prop
 |.ask _ b=>b∈bs.map (·.name)
 |.put _ b e=>b∈bs.map (·.name)/\B0 bs vals e
 |.say _ e=>B0 bs vals e
 |.c9 _ _ l r=>B0 bs vals l/\B0 bs vals r
 |.ifs _ _ l r _ _=>B0 bs vals l/\B0 bs vals r
 |.fj _ _ l r _=>B0 bs vals l/\B0 bs vals r
 |.stop _=>True
noncomputable def I0:Option Int->V
 |none=>.cD
 |some n=>.int n
theorem kc{bs:List PG.fW}{x:W}(h:x∈bs.map (·.name)):∃hi:du bs x<bs.length,bs[du bs x].name=x:=by
 have l:du bs x<(bs.map (·.name)).length:=List.idxOf_lt_length_iff.mpr h
 have e:(bs.map (·.name))[du bs x]=x:=List.getElem_idxOf l
 rw[Zb] at l
 rw[zbd] at e
 exact⟨l,e⟩
theorem CY{bs:List PG.fW}{vs:List V}(l:vs.length=bs.length)(nb:(bs.map (·.name)).Nodup){x:W}(h:x∈bs.map (·.name))(v:V)(i:Nat)(hi:i<bs.length) :
 cY (putK (dc bs vs) (.inr (S x)) v) (.inr (S bs[i].name))=(vs.set (du bs x) v)[i]?:=by
 obtain⟨hx,ex⟩:=kc h
 rw[rq]
 by_cases e:i=du bs x
 ·subst e
  rw[if_pos (by rw[ex]),zbV (by lia)]
 ·have ne:bs[i].name≠x:=fun z=>e (by
   have p1:=zbm.mp nb
   rw[<- ex] at z
   rcases Nat.lt_trichotomy i (du bs x) with lt |eq |gt
   ·exact absurd (by rw[zbd,zbd];exact z) (p1 i (du bs x) (by simpa using hi) (by simpa using hx) lt)
   ·exact eq
   ·exact absurd (by rw[zbd,zbd];exact z.symm) (p1 (du bs x) i (by simpa using hx) (by simpa using hi) gt))
  rw[if_neg (fun z=>ne (nV.mp (Sum.inr.inj z))),zb7 (fun z=>e z.symm)]
  have li:i<vs.length:=by lia
  rw[lN bs vs l nb i hi vs[i] (Za li),Za li]
theorem Bp{bs:List PG.fW}(nb:(bs.map (·.name)).Nodup){x:W}(h:x∈bs.map (·.name)):cY (bs.map fun b=>((Sum.inr (S b.name):Key),V.int b.size)) (.inr (S x))=some (.int (eQ bs x)):=by
 obtain⟨hx,ex⟩:=kc h
 have e:(bs.map fun b=>((Sum.inr (S b.name):Key),V.int b.size))=dc bs (bs.map fun b=>V.int b.size):=by
  unfold dc
  rw[List.zipWith_map_right,List.zipWith_self]
 rw[e]
 have:=lN bs (bs.map fun b=>V.int b.size) (by simp) nb (du bs x) hx (.int bs[du bs x].size) (by rw[UB,Za hx];rfl)
 rw[ex] at this
 rw[this]
 unfold eQ
 rw[Za hx]
 rfl
section
variable(K:k0)(C:Addr)
def Ja:Sp:=fun vs H Q _=>∃(p sa:Addr) (fv:V) (pr:PG.Prog) (vals:List Int) (fig:Int) (i:Nat) (hi:i<(PG.aC pr.body).length) (hf:i<(PG.aS pr.body 0).length),vs=[.ref p,.ref sa,fv]/\tD K C H p pr/\Bo pr/\(∀b∈pr.aK,0<b.size)/\cm K H sa (PG.aC pr.body)[i].row vals/\vals.length=pr.aK.length/\
 ((PG.aC pr.body)[i].wd=.ask->fv=.int fig)/\EF pr.aK vals (PG.aC pr.body)[i]/\0<(PG.aS pr.body 0)[i].2.2.length/\((PG.aC pr.body)[i].wd=.ifs\/(PG.aC pr.body)[i].wd=.fj->1<(PG.aS pr.body 0)[i].2.2.length)/\
 ∀q sv H',aq H H'->b8 K H' q [sv,I0 (jD pr.aK (PG.aC pr.body)[i] (PG.aS pr.body 0)[i].2.2 vals fig).2]->lO K H' (jD pr.aK (PG.aC pr.body)[i] (PG.aS pr.body 0)[i].2.2 vals fig).1 sv->Q (.ref q) H'
end
open PySem.Spec
def SV (K:k0):R2:=fun x y H Q=>∃a b xs ys,x=.ref a/\y=.ref b/\b8 K H a xs/\b8 K H b ys/\xs.length+ys.length<=zcz/\∀p H',aq H H'->b8 K H' p (xs++ys)->Q (.ref p) H'
theorem vh{X:Cx}:qz X (binaryOp .Add) (SV X.K):=by
 intro pins s σ H x y v u Q I rx ry h
 by_cases hx:∃SW,(∃a b ys,x=.ref a/\y=.ref b/\b8 X.K H a SW/\b8 X.K H b ys/\SW.length+ys.length<=zcz/\∀p H',aq H H'->b8 X.K H' p (SW++ys)->Q (.ref p) H')/\SW=[]
 ·obtain⟨xs,⟨a,b,ys,rfl,rfl,ha,hb,hz,q⟩,rfl⟩:=hx
  cases rx
  cases ry
  obtain⟨bz,r1,p1,_⟩:=I.tuple ha
  obtain⟨rh,r2,p2,_⟩:=I.tuple hb
  obtain⟨⟨cls,dd,data,sl⟩,ho,hc,n,hd⟩:=id p1
  obtain⟨⟨V6,QZ,data2,Q0⟩,OR,R1,n2,hd2⟩:=id p2
  simp only at hc hd R1 hd2
  subst hc hd R1 hd2
  cases r1
  exact concat_meets ⟨_,ho,rfl⟩ ⟨_,OR,rfl⟩ noFill_tuple_add seq_tuple_add zbY zbQ (zbI _ _)
   (tuple_addW0 a b _ rh.toArray n n2 dd QZ sl Q0 rfl) ⟨ho,OR,⟨.ref b,H,I,rfl,q _ _ (aq.refl _) hb⟩⟩
 ·obtain⟨a,b,xs,ys,rfl,rfl,ha,hb,hz,q⟩:=h
  refine rg pins s σ H _ _ v u Q I rx ry ⟨a,b,xs,ys,rfl,rfl,ha,hb,fun e=>hx ⟨xs,⟨a,b,ys,rfl,rfl,ha,hb,hz,q⟩,e⟩,hz,fun e=>q _ _ (aq.refl _) ?_,fun _ p hp=>q _ _ (aq.new hp _) (.of ae)⟩
  rw[e,zab]
  exact ha
def SX (K:k0):V->Option Int->Option Int->Hp->VK->Prop:=fun x lo hi H Q=>∃a xs,x=.ref a/\b8 K H a xs/\∀p H',aq H H'->b8 K H' p (jh xs lo hi)->Q (.ref p) H'
theorem EG{X:Cx}:R4 X (SX X.K):=by
 intro pins s σ H x v vl vu lo hi sl Q I rx hs pl pu h
 obtain⟨a,xs,rfl,hx,q⟩:=h
 refine L1 pins s σ H _ v vl vu lo hi sl Q I rx hs pl pu ⟨a,xs,rfl,hx,fun e=>q _ _ (aq.refl _) ?_,fun _ p hp=>q _ _ (aq.new hp _) (.of ae)⟩
 have:jh xs lo hi=xs:=by
  unfold jh
  rw[e.1,e.2]
  simp
 rw[this]
 exact hx
theorem yq{K:k0}{H:Hp}:∀l:List Int,aP K H (l.map Dp.int) (l.map V.int)
 |[]=>by rw[zaR,zaR,aP.bh]
 |x::r=>by rw[Y9,Y9,aP.aI];exact⟨_,_,rfl,by rw[Rep.bw],yq r⟩
def PJ:PG.bH->Prop
 |.c9 _ sg _ _=>sg∈PG.zc
 |.ifs _ sg _ _ _ _=>sg∈PG.zc
 |.fj _ sg _ _ _=>sg∈PG.zc
 |_=>True
section
variable(K:k0)
def CZ:Sp:=fun vs H Q _=>∃(B ta wa va:Addr) (fv:V) (bs:List PG.fW) (st:PG.bH) (ws vals:List Int) (fig:Int),vs=[.ref B,.ref ta,.ref wa,.ref va,fv]/\Rep K H (.lst (bs.map iA)) (.ref B)/\Rep K H (dq st) (.ref ta)/\b8 K H wa (ws.map V.int)/\b8 K H va (vals.map V.int)/\(bs.map (·.name)).Nodup/\bs.length<=10/\(∀b∈bs,0<b.size)/\vals.length=bs.length/\
 (st.wd=.ask->fv=.int fig)/\EF bs vals st/\PJ st/\0<ws.length/\(st.wd=.ifs\/st.wd=.fj->1<ws.length)/\
 ∀q sv H',aq H H'->b8 K H' q [sv,I0 (jD bs st ws vals fig).2]->lO K H' (jD bs st ws vals fig).1 sv->Q (.ref q) H'
end
theorem yr{H H':Hp}{b:Addr}(s:aq H H')(h:H' b=none):H b=none:=by
 cases z:H b with
 |none=>rfl
 |some o=>rw[s _ _ z] at h;cases h
noncomputable def oE (D:Addr) (H:Hp):Hp:=fun b=>if b=D then none else H b
theorem mH{D b:Addr}{H:Hp}(n:b≠D):oE D H b=H b:=if_neg n
theorem EH{D b:Addr}{H:Hp}{o:HO}(h:oE D H b=some o):b≠D/\H b=some o:=by
 unfold oE at h
 by_cases e:b=D
 ·rw[if_pos e] at h;cases h
 ·rw[if_neg e] at h;exact⟨e,h⟩
theorem pL{D:Addr}{H:Hp}:aq (oE D H) H:=fun b o h=>(EH h).2
theorem b8.lE{K:k0}{H H':Hp}{D a:Addr}{xs ys:List V}(h:b8 K H a xs)(hD:H D=some (.lst ys))(u:bA D H H'):b8 K H' a xs:=by
 rcases h with (q |⟨o,q⟩) |q
 ·exact .inl (.inl (u _ _ (bR q hD (by intro z;cases z)) q))
 ·exact .inl (.inr ⟨o,u _ _ (bR q hD (by intro z;cases z)) q⟩)
 ·exact .inr q
theorem zp{bs:List PG.fW}{vals:List Int}(lv:vals.length=bs.length)(nb:(bs.map (·.name)).Nodup)(hv:∀v∈vals,v.natAbs<=2 ^ 12):∀e:PM.Tr,PG.jl bs e->GB (dc bs (vals.map V.int)) e
 |.num n,h=>by rw[PG.jl] at h;rw[GB];lia
 |.box x,h=>by
  rw[PG.jl] at h
  rw[GB]
  obtain⟨hx,ex⟩:=kc h
  have li:du bs x<vals.length:=by lia
  refine⟨vals[du bs x],?_,hv _ (zah li)⟩
  have:=lN bs (vals.map V.int) (by simpa using lv) nb (du bs x) hx (.int vals[du bs x]) (by rw[UB,Za li];rfl)
  rw[ex] at this
  exact this
 |.bin o l r,h=>by
  rw[PG.jl] at h
  rw[GB]
  exact⟨by simpa using h.1,zp lv nb hv l h.2.1,zp lv nb hv r h.2.2⟩
theorem Jb{bs:List PG.fW}{vals:List Int}(lv:vals.length=bs.length)(nb:(bs.map (·.name)).Nodup)(hv:∀v∈vals,v.natAbs<=2 ^ 12){st:PG.bH}(h:PG.qS (·∈bs.map (·.name)) (fun e=>PG.jl bs e/\PG.mz e<=2) (·∈PG.zc) st):EF bs vals st/\PJ st:=by
 have k:∀e,(PG.jl bs e/\PG.mz e<=2)->B0 bs vals e:=fun e h=>⟨zp lv nb hv e h.1,h.2⟩
 cases st<;>rw[PG.qS] at h
 ·exact⟨h,trivial⟩
 ·exact⟨⟨h.1,k _ h.2⟩,trivial⟩
 ·exact⟨k _ h,trivial⟩
 ·exact⟨⟨k _ h.2.1,k _ h.2.2⟩,h.1⟩
 ·exact⟨trivial,trivial⟩
 ·exact⟨⟨k _ h.2.1,k _ h.2.2.1⟩,h.1⟩
 ·exact⟨⟨k _ h.2.1,k _ h.2.2.1⟩,h.1⟩
theorem lO.keep{K:k0}{H H':Hp}{o:Option (Int×List Int)}{v:V}(h:lO K H o v)(s:aq H H'):lO K H' o v:=by
 cases o with
 |none=>exact h
 |some x=>obtain⟨a,e,sa⟩:=h;exact⟨a,e,sa.mono s⟩
section
variable(K:k0)
def C0:Sp:=fun vs H Q _=>∃(D S:Addr) (sc:List Int) (p many:Nat),vs=[.ref D,.int many]/\kS K H D S sc p/\p<=100/\many<=100/\
 ∀(l t1 B b R:Addr) H',bA D H H'->(∃p',p'<=90000/\kS K H' D S sc p')->H' l=some (.lst [.ref t1,.ref R])->H' t1=some (.tup [.ref B,.ref b])->l≠D->t1≠D->B≠D->b≠D->R≠D->
  Fix K (·=D) H' (.lst ((PG.ck sc many p).1.aK.map iA)) (.ref B)->Fix K (·=D) H' (.lst ((PG.ck sc many p).1.body.map dq)) (.ref b)->Fix K (·=D) H' (.lst ((PG.ck sc many p).2.map jm)) (.ref R)->Q (.ref l) H'
end
section
variable{K:k0}{H H':Hp}{p C dx a:Addr}{fs:List (Str×V)}{xs:List V}
theorem b8.ins(h:b8 K H a xs)(hp:H p=some (.ins C dx fs))(u:bA p H H'):b8 K H' a xs:=by
 rcases h with (q |⟨o,q⟩) |q
 ·exact .inl (.inl (u _ _ (bR q hp (by intro z;cases z)) q))
 ·exact .inl (.inr ⟨o,u _ _ (bR q hp (by intro z;cases z)) q⟩)
 ·exact .inr q
theorem gS.ins(h:gS K H a xs)(hp:H p=some (.ins C dx fs))(u:bA p H H'):gS K H' a xs:=by
 rcases h with (q |⟨o,q⟩) |q
 ·exact .inl (.inl (u _ _ (bR q hp (by intro z;cases z)) q))
 ·exact .inl (.inr ⟨o,u _ _ (bR q hp (by intro z;cases z)) q⟩)
 ·exact .inr q
theorem cm.ins{row:Int}{vals:List Int}(h:cm K H a row vals)(hp:H p=some (.ins C dx fs))(u:bA p H H'):cm K H' a row vals:=let ⟨va,h1,h2⟩:=h;⟨va,h1.ins hp u,h2.ins hp u⟩
theorem tD.ins{CC ch:Addr}{pr:PG.Prog}(c:tD K CC H ch pr)(hp:H p=some (.ins C dx fs))(n:ch≠p)(u:bA p H H'):tD K CC H' ch pr:=by
 obtain⟨dx,nl,sd,fa,va,st,wy,us,ws,h1,h2,h3,h4,h5,h6,h7,h8,h9,F3,GC,KO⟩:=c.at_
 have k:∀ {b:Addr} {o:HO},H b=some o->(∀C dx fs,o≠.ins C dx fs)->H' b=some o:=fun e no=>u _ _ (bR e hp (no _ _ _)) e
 exact⟨⟨dx,nl,sd,fa,va,st,wy,us,ws,u _ _ n h1,k h2 (by intro _ _ _ z;cases z),k h3 (by intro _ _ _ z;cases z),k h4 (by intro _ _ _ z;cases z),k h5 (by intro _ _ _ z;cases z),k h6 (by intro _ _ _ z;cases z),h7,k h8 (by intro _ _ _ z;cases z),lK hp (br.one u rfl) _ _ h9,F3,k GC (by intro _ _ _ z;cases z),fun i hi=>let ⟨q,e,r⟩:=KO i hi;⟨q,e,r.ins hp u⟩⟩⟩
end
theorem zq{tc:TT}{tb:TS}{D:Ends}{σ:St}{H:Hp}(h:∀B:TS,(∀D σ H,tb D σ H->B D σ H)->B8 tc B D σ H):B8 tc tb D σ H:=h tb fun _ _ _ x=>x
noncomputable def SY:PG.kb->List V
 |.on=>[.str "on"]
 |.out=>[.str "out"]
 |.c9 r=>[.str "must",.int r]
 |.fin=>[.str "end"]
def C1 (K:k0) (H:Hp):Option PG.kb->V->Prop
 |none,v=>v=.cD
 |some e,v=>∃a,v=.ref a/\b8 K H a (SY e)
theorem C1.mono{K:k0}{H H':Hp}{e:Option PG.kb}{v:V}(h:C1 K H e v)(s:aq H H'):C1 K H' e v:=by
 cases e with
 |none=>exact h
 |some x=>obtain⟨a,e,q⟩:=h;exact⟨a,e,s.bo q⟩
theorem C1.ins{K:k0}{H H':Hp}{p C dx:Addr}{fs:List (Str×V)}{e:Option PG.kb}{v:V}(h:C1 K H e v)(hp:H p=some (.ins C dx fs))(u:bA p H H'):C1 K H' e v:=by
 cases e with
 |none=>exact h
 |some x=>obtain⟨a,e,q⟩:=h;exact⟨a,e,q.ins hp u⟩
noncomputable def wkF (ch fl:Addr) (n:Nat) (sa:Addr) (ev:V):List (Str×V):=[("chart",.ref ch),("figures",.ref fl),("taken",.int n),("standing",.ref sa),("end",ev)]
structure Q7(K:k0)(CC CW:Addr)(H:Hp)(wk ch fl:Addr)(pr:PG.Prog)(iw:List Int)(n:Nat)(row:Int)(vals:List Int)(e:Option PG.kb):Prop where
 at_:∃(dx sa:Addr) (ev:V),H wk=some (.ins CW dx (wkF ch fl n sa ev))/\cm K H sa row vals/\C1 K H e ev
 ch_:tD K CC H ch pr
 fl_:gS K H fl (iw.map V.int)
 Zm:ch≠wk
theorem Q7.mono{K:k0}{CC CW:Addr}{H H':Hp}{wk ch fl:Addr}{pr:PG.Prog}{iw:List Int}{n:Nat}{row:Int}{vals:List Int}{e:Option PG.kb}(h:Q7 K CC CW H wk ch fl pr iw n row vals e)(s:aq H H'):Q7 K CC CW H' wk ch fl pr iw n row vals e:=
 let ⟨dx,sa,ev,h1,h2,h3⟩:=h.at_
 ⟨⟨dx,sa,ev,s _ _ h1,h2.mono s,h3.mono s⟩,h.ch_.mono s,s.seq h.fl_,h.Zm⟩
theorem Q7.lst{K:k0}{CC CW:Addr}{H H':Hp}{wk ch fl rl:Addr}{pr:PG.Prog}{iw:List Int}{n:Nat}{row:Int}{vals:List Int}{e:Option PG.kb}{xs:List V}(h:Q7 K CC CW H wk ch fl pr iw n row vals e)(hr:H rl=some (.lst xs))(u:bA rl H H')(c:tD K CC H' ch pr)(f:gS K H' fl (iw.map V.int)):Q7 K CC CW H' wk ch fl pr iw n row vals e:=by
 obtain⟨dx,sa,ev,h1,⟨va,h2,h3⟩,h4⟩:=h.at_
 refine⟨⟨dx,sa,ev,u _ _ (bR h1 hr (by intro z;cases z)) h1,⟨va,h2.lE hr u,h3.lE hr u⟩,?_⟩,c,f,h.Zm⟩
 cases e with
 |none=>exact h4
 |some x=>obtain⟨a,e,q⟩:=h4;exact⟨a,e,q.lE hr u⟩
noncomputable def Bq (b:List PG.bH) (row:Int):PG.bH:=((PG.aC b)[PG.Ir b row]?).getD (.stop 0)
noncomputable def Mi (b:List PG.bH) (row:Int):List Int:=(((PG.aS b 0)[PG.Ir b row]?).map (·.2.2)).getD []
noncomputable def cZ (b:List PG.bH) (row:Int):Bool:=decide ((Bq b row).wd=.ask)
noncomputable def bO (pr:PG.Prog) (row:Int) (vals:List Int) (f:Int):Option (Int×List Int)×Option Int:=jD pr.aK (Bq pr.body row) (Mi pr.body row) vals f
theorem rP{b:List PG.bH}(pw:(PG.aC b).Pairwise (fun a b=>a.row<b.row))(i:Nat)(hi:i<(PG.aC b).length):Bq b (PG.aC b)[i].row=(PG.aC b)[i]:=by
 unfold Bq
 rw[PG.Et pw i hi,Za hi]
 rfl
theorem EI{b:List PG.bH}(pw:(PG.aC b).Pairwise (fun a b=>a.row<b.row))(i:Nat)(hi:i<(PG.aC b).length)(hf:i<(PG.aS b 0).length):Mi b (PG.aC b)[i].row=(PG.aS b 0)[i].2.2:=by
 unfold Mi
 rw[PG.Et pw i hi,Za hf]
 rfl
structure xp(pr:PG.Prog)(row:Int)(vals:List Int):Prop where
 row:row=0\/∃i,∃hi:i<(PG.aC pr.body).length,(PG.aC pr.body)[i].row=row
 len:vals.length=pr.aK.length
 small:∀v∈vals,v.natAbs<=2 ^ 12
structure jO(pr:PG.Prog):Prop where
 ok:Bo pr
 dep:PG.fX pr.body<=3
 um:(PG.cK pr.body).length<=1000
 own:PG.vP (·∈pr.aK.map (·.name)) (fun e=>PG.jl pr.aK e/\PG.mz e<=2) (·∈PG.zc) pr.body
 size:∀b∈pr.aK,2<=b.size/\b.size<=10/\0<=b.first/\b.first<b.size
theorem EJ{pr:PG.Prog}{w:Int}(h:w=0\/w=0\/∃t∈PG.aC pr.body,t.row=w):w=0\/∃i,∃hi:i<(PG.aC pr.body).length,(PG.aC pr.body)[i].row=w:=by
 rcases h with h |h |⟨t,ht,e⟩
 ·exact .inl h
 ·exact .inl h
 ·obtain⟨i,hi,e2⟩:=zbB.mp ht
  exact .inr ⟨i,hi,by rw[e2];exact e⟩
theorem jO.first{pr:PG.Prog}(d:jO pr):xp pr (PG.bt pr.body 0) (pr.aK.map (·.first)):=by
 refine⟨EJ (.inr ?_),by simp,fun v hv=>?_⟩
 ·rcases PG.om pr.body 0 with e |e
  ·exact .inl e
  ·exact .inr e
 ·obtain⟨b,hb,rfl⟩:=zar.mp hv
  have:=d.size b hb
  lia
theorem Br{pr:PG.Prog}(d:jO pr){x:W}(h:x∈pr.aK.map (·.name)):2<=eQ pr.aK x/\eQ pr.aK x<=10:=by
 obtain⟨hx,_⟩:=kc h
 unfold eQ
 rw[Za hx]
 have:=d.size _ (zah hx)
 exact⟨this.1,this.2.1⟩
theorem xp.step{pr:PG.Prog}(d:jO pr){i:Nat}(hi:i<(PG.aC pr.body).length)(hf:i<(PG.aS pr.body 0).length){vals:List Int}{f:Int}(lv:vals.length=pr.aK.length)(sm:∀v∈vals,v.natAbs<=2 ^ 12){x:Int×List Int}{s:Option Int}
 (h:jD pr.aK (PG.aC pr.body)[i] (PG.aS pr.body 0)[i].2.2 vals f=(some x,s)):xp pr x.1 x.2:=by
 have Jc:=PG.kE pr.body _ d.own (zah hi)
 obtain⟨w0,w1⟩:=PG.iZ pr.body 0 _ (zah hf)
 have win:=PG.oo pr.body 0 _ (zah hf)
 obtain⟨_,_,ew⟩:=iD pr.body i hi
 rw[ew] at w1
 generalize (PG.aS pr.body 0)[i].2.2=ws at *
 generalize (PG.aC pr.body)[i]=st at *
 have r0:∀j,j<ws.length->ws.getD j 0=0\/∃i,∃hi:i<(PG.aC pr.body).length,(PG.aC pr.body)[i].row=ws.getD j 0:=fun j hj=>by
  rw[Y7,Za hj]
  exact EJ (win _ (zah hj))
 have set:∀(b:W) (z:Int),b∈pr.aK.map (·.name)->(rO pr.aK vals b (z%eQ pr.aK b)).length=pr.aK.length/\∀v∈rO pr.aK vals b (z%eQ pr.aK b),v.natAbs<=2 ^ 12:=fun b z hb=>by
  unfold rO
  refine⟨by rw[zcq];exact lv,fun v hv=>?_⟩
  rcases List.mem_or_eq_of_mem_set hv with hv |rfl
  ·exact sm v hv
  ·have:=Br d hb
   have m1:=zaA z (b:=eQ pr.aK b) (by lia)
   have m2:=zaw z (b:=eQ pr.aK b) (by lia)
   lia
 have cs:iE pr.aK st ws vals=some x->(st.wd=.c9\/st.wd=.ifs\/st.wd=.fj)->xp pr x.1 x.2:=by
  intro e hw
  unfold iE at e
  split at e
  ·cases e
  ·split at e
   ·cases e;exact⟨r0 0 w0,lv,sm⟩
   ·split at e
    ·cases e
    ·rename_i nm
     cases e;exact⟨r0 1 (w1 (hw.resolve_left nm)),lv,sm⟩
 have Aq:∀(y:Int×List Int) (s':Option Int),(some y,s')=(some x,s)->xp pr y.1 y.2->xp pr x.1 x.2:=fun y s' e h=>by cases e;exact h
 cases st<;>rw[PG.qS] at Jc
 ·exact Aq _ _ h ⟨r0 0 w0,(set _ _ Jc).1,(set _ _ Jc).2⟩
 ·exact Aq _ _ h ⟨r0 0 w0,(set _ _ Jc.1).1,(set _ _ Jc.1).2⟩
 ·exact Aq _ _ h ⟨r0 0 w0,lv,sm⟩
 ·exact cs (congrArg Prod.fst h) (.inl rfl)
 ·exact Aq _ _ h ⟨r0 0 w0,lv,sm⟩
 ·exact cs (congrArg Prod.fst h) (.inr (.inl rfl))
 ·exact cs (congrArg Prod.fst h) (.inr (.inr rfl))
section
variable(K:k0)(CC CW:Addr)
def Jd (H:Hp) (q:Addr) (o:PG.Sw):Prop:=∃(r s e:Addr),b8 K H q [.ref r,.ref s,.ref e]/\H r=some (.lst (o.rows.map V.int))/\H s=some (.lst (o.LR.map V.int))/\r≠s/\b8 K H e (SY o.fin)
end
theorem b8.dk{K:k0}{H H':Hp}{D a:Addr}{xs:List V}{aG:List (Key×V)}(h:b8 K H a xs)(hD:H D=some (.dK aG))(u:bA D H H'):b8 K H' a xs:=by
 rcases h with (q |⟨o,q⟩) |q
 ·exact .inl (.inl (u _ _ (bR q hD (by intro z;cases z)) q))
 ·exact .inl (.inr ⟨o,u _ _ (bR q hD (by intro z;cases z)) q⟩)
 ·exact .inr q
theorem cm.lE{K:k0}{H H':Hp}{D a:Addr}{ys:List V}{row:Int}{vals:List Int}(h:cm K H a row vals)(hD:H D=some (.lst ys))(u:bA D H H'):cm K H' a row vals:=let ⟨va,h1,h2⟩:=h;⟨va,h1.lE hD u,h2.lE hD u⟩
theorem Jd.mono{K:k0}{H H':Hp}{q:Addr}{o:PG.Sw}(h:Jd K H q o)(s:aq H H'):Jd K H' q o:=let ⟨r,t,e,h1,h2,h3,h4,h5⟩:=h;⟨r,t,e,s.bo h1,s _ _ h2,s _ _ h3,h4,s.bo h5⟩
section
variable{K:k0}{H H1:Hp}{p:Addr}{vs:List V}{ds:List Dp}
theorem gT(e:upd H p (.tup vs)=H1)(hp:H p=none):aq H H1:=e▸aq.new hp _
theorem gL(e:upd H p (.lst vs)=H1)(hp:H p=none):aq H H1:=e▸aq.new hp _
theorem WX(e:upd H p (.lst vs)=H1):H1 p=some (.lst vs):=e▸ae
end
theorem rI_{K:k0}{H:Hp}{x:Int}:Rep K H (.int x) (.int x):=Rep.bw.mpr rfl
section
variable{prog:zcD}{w:World}
def tG (prog:zcD) (w:World) (h:Heap) (x:Key×List Key) (a:Addr):Prop:=∃(o:Obj) (n:Nat) (u:Value) (b:Addr),h.get? a=some o/\o.cls=.type "tuple"/\o.data=.seq #[u,.ref b] n/\t7 x.1 u=true/\IsTupleKey (bX prog w) h x.2 b
theorem tG.ty{s:zcB}{x:Key×List Key}{a:Addr}(h:tG prog w s.heap x a):s.TypeIs (.ref a) "tuple":=let ⟨o,_,_,_,e,c,_⟩:=h;⟨o,e,c⟩
noncomputable def Je (w:World) (prog:zcD) (x:Key×List Key):Int:=reduceHash (Builtin.Tuple.tupleHashOf [Ol w x.1,tupleKeyHash (bX prog w) x.2])
theorem tG.one{h:Heap}{a:Addr}{x y:Key×List Key}(hx:tG prog w h x a)(hy:tG prog w h y a):x=y:=by
 obtain⟨o,n,u,b,e,_,d,i,t⟩:=hx
 obtain⟨o',n',u',b',e',_,d',i',t'⟩:=hy
 rw[e] at e'
 cases e'
 rw[d] at d'
 injection d' with d1 _
 have d1:=congrArg Array.toList d1
 simp only[List.cons.injEq,Value.ref.injEq,and_true] at d1
 obtain⟨rfl,rfl⟩:=d1
 exact Prod.ext ((bX prog w).inj _ _ _ i i') (t.inj t')
theorem tG.kp{h h':Heap}{x:Key×List Key}{a d:Addr}{o:Obj}{es ep}(hx:tG prog w h x a)(ho:h.get? d=some o)(hd:o.data=.dict es ep)(hs:Heap.SameBut d h h'):tG prog w h' x a:=by
 obtain⟨o',n,u,b,e,c,d',i,t⟩:=hx
 have ne:a≠d:=fun z=>by
  rw[z,ho] at e
  cases e
  rw[hd] at d'
  cases d'
 exact⟨o',n,u,b,(hs.2 a ne).trans e,c,d',i,t.keeps ho hd hs⟩
variable{A:zcC}{E:Value->zcB->Prop}{s:zcB}
theorem Ml{x:Key×List Key}{a:Addr}{Q:Int->zcB->Prop}(hu:A.units+8<cLine)(hk:tG prog w s.heap x a)(h:Q (Je w prog x) {s with toks:=s.toks+(x.2.length+3)}) :
 wpAny (model prog w) A (pyHash (.ref a)) Q E s:=by
 have ty:=hk.ty
 obtain⟨o,n,u,b,e,c,d,i,t⟩:=hk
 refine PySem.W.pyHash_slot (T:="tuple") ty F.slot_tuple_hash F.entry_tuple_hash (F.args_tuple_hash_1 _) (beq_builtin_none _) (.inr (by lia)) ((show wpAny _ _ (Builtin.Tuple.tupleItemsOf (.ref a) >>= _) _ _ s from ?_))
 refine zcu (wpAny_tupleItemsOf e d (zcu ?_))
 rw[<- zcf]
 show wpAny _ _ (forIn [u,Value.ref b] #[] _) _ _ s
 rw[zaP]
 refine zcu (zcu ((bX prog w).pyHash i (zcv ?_)))
 show wpAny _ _ (forIn [Value.ref b] _ _) _ _ _
 rw[zaP]
 refine zcu (zcu (wpAny_pyHash_tuple (ks:=x.2) (by show A.units+1<cLine;lia) (show IsTupleKey (bX prog w) _ x.2 b from t) (zcv ?_)))
 show wpAny _ _ (forIn ([]:List Value) _ _) _ _ _
 rw[zbp]
 refine zcv ?_
 show wpAny _ _ (retInt (Builtin.Tuple.tupleHashOf [Ol w x.1,tupleKeyHash (bX prog w) x.2])) _ _ _
 refine zcu (wpAny_mkInt (zcv ⟨_,_,rfl,?_⟩))
 rw[show s.toks+(x.2.length+3)=s.toks+1+(x.2.length+1)+1 by lia] at h
 exact h
theorem S1{x y:Key×List Key}{a b:Addr}{Q:Bool->zcB->Prop}(hu:A.units+8<cLine)(hx:tG prog w s.heap x a)(hy:tG prog w s.heap y b)(h:Q (decide (x=y)) s):wpAny (model prog w) A (eqBool (.ref a) (.ref b)) Q E s:=by
 unfold eqBool
 try with_reducible refine zcw ?_
 show wpAny _ _ (if (Value.ref a==Value.ref b)=true then _ else _) Q E s
 by_cases Ey:(Value.ref a==Value.ref b)=true
 ·rw[if_pos Ey]
  have e:a=b:=by have:=eq_of_beq Ey;injection this
  subst e
  cases hx.one hy
  exact zcu (wpAny_rule (zcv (by simpa using h)))
 ·rw[if_neg Ey]
  refine zcu (wpAny_richCompare_same_room (op:=.Eq) hx.ty hy.ty F.slot_tuple_eq (wpAny_call_entry F.slot_tuple_eq hx.ty F.entry_tuple_eq ?_ (F.args_tuple_eq_2 _ _)) (by lia))
  have hTb:=hy.ty
  obtain⟨o1,n1,u1,b1,e1,c1,d1,i1,t1⟩:=hx
  obtain⟨o2,n2,u2,b2,e2,c2,d2,i2,t2⟩:=hy
  show wpAny _ _ (isInstance (.ref b) (.type "tuple") >>= _) _ _ s
  refine zcu (wpAny_isInstance hTb isSubtype_tuple_tuple ?_)
  simp only[zbj,zai,if_false]
  refine zcu (wpAny_tupleItemsOf e1 d1 (zcu (wpAny_tupleItemsOf e2 d2 (zcu ?_))))
  show wpAny _ _ (forIn [(u1,u2),(Value.ref b1,Value.ref b2)] _ _) _ _ s
  have fin:∀c:Bool,c=decide (x=y)->∃v,(Fin.done (Flow.ret (Value.bool c)))=Fin.done (Flow.ret v)/\v≠Value.notImplemented/\wpAny (model prog w) A (truthOfDropped v) Q E s:=fun c hc=>⟨_,rfl,(fun z=>nomatch z),wpAny_truthy_bool (hc▸h)⟩
  rw[zaP]
  refine zcu (zcu ((bX prog w).eqBool (a:=x.1) (b:=y.1) i1 i2 ?_))
  by_cases k1:x.1=y.1
  ·rw[decide_eq_true k1]
   simp only[zbj,zai,if_false]
   refine zcv ?_
   show wpAny _ _ (forIn [(Value.ref b1,Value.ref b2)] _ _) _ _ s
   rw[zaP]
   refine zcu (zcu (wpAny_eqBool_tuple (x:=x.2) (y:=y.2) (by show A.units+1<cLine;lia) t1 t2 ?_))
   by_cases k2:x.2=y.2
   ·rw[decide_eq_true k2]
    simp only[zbj,zai,if_false]
    refine zcv ?_
    show wpAny _ _ (forIn ([]:List (Value×Value)) _ _) _ _ s
    rw[zbp]
    exact zcv (zcv (fin true (decide_eq_true (Prod.ext k1 k2)).symm))
   ·rw[decide_eq_false k2]
    simp only[Bool.not_false,if_true]
    exact zcu (zcv (zcv (zcv (zcv (fin false (decide_eq_false fun z=>k2 (congrArg Prod.snd z)).symm)))))
  ·rw[decide_eq_false k1]
   simp only[Bool.not_false,if_true]
   exact zcu (zcv (zcv (zcv (zcv (fin false (decide_eq_false fun z=>k1 (congrArg Prod.fst z)).symm)))))
theorem C3(m:Nat){l:List Key}{b:Addr}{Q:Bool->zcB->Prop}(hk:IsTupleKey (bX prog w) s.heap l b)(h:Q true s):wpAny (model prog w) A (eqIsQuiet (m+1) (.ref b)) Q E s:=by
 have ty:=hk.typeIs
 obtain⟨o,bz,n,e,_,d,hi⟩:=hk
 unfold eqIsQuiet
 refine zcu (wpAny_specialOf ty F.slot_tuple_eq.lookup ((show wpAny _ _ (isInstance (.ref b) (.type "tuple") >>= _) _ _ s from ?_)))
 refine zcu (wpAny_isInstance ty isSubtype_tuple_tuple ?_)
 simp only[zbj,zai,if_false]
 refine zcu (wpAny_seqItems e d (zcu ((show wpAny _ _ (forIn bz _ _) _ _ s from ?_))))
 rw[<- zcf]
 have all:=hi.byValue
 generalize bz.toList=vs at all
 refine wpAny_forIn_list _ (fun r (c:Option Bool×Unit) s'=>c.1=none/\s'=s/\∀v∈r,carriedByValue v=true) _ (fun v r c s' hv=>?_) (fun c s' hv=>?_) _ _ ⟨rfl,rfl,all⟩
 ·obtain⟨_,rfl,hv⟩:=hv
  rw[eqIsQuiet_byValue _ (hv v (UH ..))]
  refine zcu (zcv ?_)
  simp only[zbj,zai,if_false]
  exact zcv ⟨rfl,rfl,fun z hz=>hv z (zad _ hz)⟩
 ·obtain⟨c1,c2⟩:=c
  obtain⟨hc,rfl,_⟩:=hv
  cases (show c1=none from hc)
  exact zcv h
theorem Jf{x:Key×List Key}{a:Addr}{Q:Bool->zcB->Prop}(hk:tG prog w s.heap x a)(h:Q true s):wpAny (model prog w) A (eqIsQuiet 8 (.ref a)) Q E s:=by
 have ty:=hk.ty
 obtain⟨o,n,u,b,e,c,d,i,t⟩:=hk
 unfold eqIsQuiet
 refine zcu (wpAny_specialOf ty F.slot_tuple_eq.lookup ((show wpAny _ _ (isInstance (.ref a) (.type "tuple") >>= _) _ _ s from ?_)))
 refine zcu (wpAny_isInstance ty isSubtype_tuple_tuple ?_)
 simp only[zbj,zai,if_false]
 refine zcu (wpAny_seqItems e d (zcu ?_))
 have key:∀ {z:Value} {k:Key} {m:Nat},t7 k z=true->eqIsQuiet m z=pure true:=fun {z k m} hz=>eqIsQuiet_byValue m ((bX prog w).byValue k z hz)
 show wpAny _ _ (forIn #[u,Value.ref b] _ _) _ _ s
 rw[<- zcf]
 show wpAny _ _ (forIn [u,Value.ref b] _ _) _ _ s
 rw[zaP,key i]
 refine zcu (zcu (zcv ?_))
 simp only[zbj,zai,if_false]
 refine zcv ?_
 show wpAny _ _ (forIn [Value.ref b] _ _) _ _ s
 rw[zaP]
 refine zcu (zcu (C3 6 t ?_))
 simp only[zbj,zai,if_false]
 refine zcv ?_
 show wpAny _ _ (forIn ([]:List Value) _ _) _ _ s
 rw[zbp]
 exact zcv (zcv h)
end
noncomputable def PN (prog:zcD) (w:World):HeapKind prog w (Key×List Key) where
 is:=tG prog w
 hash:=Je w prog
 draws:=fun x=>x.2.length+3
 room:=fun A=>A.units+8<cLine
 inj:=fun hx hy=>hx.one hy
 keeps:=fun hx ho hd hs=>hx.kp ho hd hs
 pyHash:=fun hu hk h=>Ml hu hk h
 eqBool:=fun hu hx hy h=>S1 hu hx hy h
 quiet:=fun hk h=>Jf hk h
structure KH(κ:Type)[DecidableEq κ] where
 knd:∀(P:zcD) (w:World),HeapKind P w κ
 on:k0->Hp->κ->Addr->Prop
 up:∀ {K:k0} {H H':Hp} {x:κ} {a:Addr},(∀b ys,b8 K H b ys->b8 K H' b ys)->on K H x a->on K H' x a
 of:∀ {X:Cx} {pins:List (Addr×Obj)} {σ:St} {H:Hp} {s:zcB} {x:κ} {a:Addr},Inv X pins σ H s->on X.K H x a->(knd X.prog X.w).is s.heap x a
 room:∀ {P:zcD} {w:World} {A:zcC},A.units+16<cLine->(knd P w).room A.in1
section
variable{κ:Type}[DecidableEq κ](J:KH κ)
def kG (P:zcD) (w:World) (a:Addr) (xs:List (κ×Addr×Value)):Heap->Prop:=fun h=>∃o es ep,h.get? a=some o/\o.ExactDict/\o.data=.dict es ep/\es.toList=xs.map (entryOfKey (J.knd P w))
abbrev KS (K:k0) (H:Hp):List (κ×V)->List (κ×Addr×Value)->Prop:=Paired fun p q=>p.1=q.1/\J.on K H p.1 q.2.1/\RelV p.2 q.2.2
structure DS(P:zcD)(w:World)(K:k0)(H:Hp)(a:Addr)(aG:List (κ×V)):Prop where
 len:aG.length<=zcz
 sys:(a==sysModules)=false
 at_:∃xs,H a=some (.ext (kG J P w a xs))/\KS J K H aG xs/\(xs.map (·.1)).Nodup
variable{J}
section
variable{K:k0}{H H':Hp}{aG:List (κ×V)}{xs:List (κ×Addr×Value)}
theorem KS.val(r:KS J K H aG xs)(k:κ):pR (cY aG k) ((atKey xs k).map (·.2)):=by
 induction r with
 |nil=>exact True.intro
 |@cons p q ps qs h t ih=>
  by_cases e:p.1=k
  ·rw[cF e,show atKey (q::qs) k=some q.2 by simp[atKey,h.1.symm.trans e]]
   exact h.2.2
  ·have e':¬q.1=k:=fun z=>e (h.1.trans z)
   rw[cG e,show atKey (q::qs) k=atKey qs k by simp[atKey,e']]
   exact ih
theorem KS.put(r:KS J K H aG xs)(k:κ){b:Addr}{y:V}{u:Value}(hb:J.on K H k b)(ry:RelV y u):KS J K H (putK aG k y) (storedH xs k b u):=by
 have e:(aG.any fun kv=>decide (kv.1=k))=(atKey xs k).isSome:=by rw[j9,(r.val k).sT,zch]
 unfold putK storedH
 rw[e]
 by_cases q:(atKey xs k).isSome=true
 ·rw[if_pos q,if_pos q]
  clear e q
  induction r with
  |nil=>exact .nil
  |@cons p q ps qs h t ih=>
   refine .cons ?_ ih
   dsimp only
   unfold putAt
   by_cases e:p.1=k
   ·rw[if_pos e]
    rw[if_pos (h.1.symm.trans e)]
    exact⟨h.1,h.2.1,ry⟩
   ·rw[if_neg e]
    rw[if_neg fun z=>e (h.1.trans z)]
    exact h
 ·rw[if_neg q,if_neg q]
  exact Paired.snoc r ⟨rfl,hb,ry⟩
theorem KS.up(r:KS J K H aG xs)(t:∀b ys,b8 K H b ys->b8 K H' b ys):KS J K H' aG xs:=Paired.yK r fun _ _ z=>⟨z.1,J.up t z.2.1,z.2.2⟩
end
section
variable{X:Cx}{pins:List (Addr×Obj)}{σ:St}{H:Hp}{s:zcB}{a b:Addr}{v:V}{u r:Value}{A:zcC}{E:Value->zcB->Prop}{aG:List (κ×V)}{k:κ}
theorem EK(I:Inv X pins σ H s){xs:List (κ×Addr×Value)}(e:H a=some (.ext (kG J X.prog X.w a xs)))(r:KS J X.K H aG xs)(nd:(xs.map (·.1)).Nodup):s.heap.DictOfH (J.knd X.prog X.w) a xs:=by
 obtain⟨⟨o,es,ep,h1,h2,h3,h4⟩, -⟩:=(show dg X.prog X.w H s.heap a (.ext (kG J X.prog X.w a xs)) from I.cS a _ e)
 refine⟨o,es,ep,h1,h2,h3,h4,?_,nd⟩
 clear h4 nd e
 induction r with
 |nil=>intro x hx;cases hx
 |@cons p q ps qs hq t ih=>
  intro x hx
  rcases Zd.mp hx with rfl |hx
  ·exact J.of I (hq.1▸hq.2.1)
  ·exact ih x hx
theorem Jg{Q:Value->zcB->Prop}(hu:A.units+16<cLine)(I:Inv X pins σ H s)(d:DS J X.prog X.w X.K H a aG)(hk:J.on X.K H k b)(h:∀s',Inv X pins σ H s'->Q (.bool (!(cY aG k).isSome)) s') :
 wpAny (model X.prog X.w) A (compareOp .NotIn (.ref b) (.ref a)) Q E s:=by
 obtain⟨z,sy,xs,e,r,nd⟩:=d
 refine PyProof.Rows.wpAny_notIn_heap (knd:=J.knd X.prog X.w) (J.room hu) (J.of I hk) sy (EK I e r nd) ?_
 have q:=(r.val k).sT
 rw[zch] at q
 rw[<- q]
 exact h _ (I.tok _)
theorem b8.ext{K:k0}{H:Hp}{a c:Addr}{φ:Heap->Prop}{o:HO}{ys:List V}(h:b8 K H c ys)(e:H a=some (.ext φ)):b8 K (upd H a o) c ys:=by
 rcases h with (q |⟨o',q⟩) |q
 ·exact .inl (.inl (by rw[aw (bR q e (by intro z;cases z))];exact q))
 ·exact .inl (.inr ⟨o',by rw[aw (bR q e (by intro z;cases z))];exact q⟩)
 ·exact .inr q
theorem PQ{Q:Unit->zcB->Prop}(hu:A.units+16<cLine)(I:Inv X pins σ H s)(d:DS J X.prog X.w X.K H a aG)(hk:J.on X.K H k b)(l:aG.length<zcz)(rv:RelV v r)
 (h:∀s' H',Inv X pins σ H' s'->DS J X.prog X.w X.K H' a (putK aG k v)->(∃φ,H'=upd H a (.ext φ))->Q () s') :
 wpAny (model X.prog X.w) A (setItem (.ref a) (.ref b) r) Q E s:=by
 obtain⟨z,sy,xs,e,rel,nd⟩:=d
 have hz:xs.length<=zcz:=by rw[<- Paired.length rel];exact z
 have hl:(putK aG k v).length<=zcz:=by have:=kC aG k v;lia
 refine wpAny_setItem_heap (knd:=J.knd X.prog X.w) (hsz:=hz) (J.room hu) (J.of I hk) (EK I e rel nd) fun h' GA hs=>?_
 obtain⟨q,es,ep,hq,h2,h3,h4,_,h5⟩:=GA
 have ph:kG J X.prog X.w a (storedH xs k b r) h':=⟨q,es,ep,hq,h2,h3,h4⟩
 refine h _ (upd H a (.ext (kG J X.prog X.w a (storedH xs k b r)))) (rz I (by rw[e];exact True.intro) hs ⟨q,hq⟩ ⟨ph,⟨q,hq⟩,fun g1 g2 p1 kp=>?_⟩) ⟨hl,sy,_,ae,(rel.put k hk rv).up fun c ys ec=>ec.ext e,h5⟩ ⟨_,rfl⟩
 obtain⟨o,es,ep,h1,h2,h3,h4⟩:=p1
 exact⟨o,es,ep,kp o h1,h2,h3,h4⟩
end
theorem DS.Jh{P:zcD}{w:World}{K:k0}{H H':Hp}{a:Addr}{aG:List (κ×V)}(d:DS J P w K H a aG)(e:∀o,H a=some o->H' a=some o)(t:∀b ys,b8 K H b ys->b8 K H' b ys):DS J P w K H' a aG:=⟨d.len,d.sys,let ⟨xs,h,r,nd⟩:=d.at_;⟨xs,e _ h,r.up t,nd⟩⟩
theorem DS.mono{P:zcD}{w:World}{K:k0}{H H':Hp}{a:Addr}{aG:List (κ×V)}(d:DS J P w K H a aG)(s:aq H H'):DS J P w K H' a aG:=d.Jh (fun o h=>s _ _ h) fun b ys q=>s.bo q
section
variable{X:Cx}{o i value:Expr}{pos pos':Pos}{td ty tv:TE}
def C4 (J:KH κ) (P:zcD) (w:World):TE:=fun _ H Q=>∀p,H p=none->(p==sysModules)=false->Q (.ref p) (upd H p (.ext (kG J P w p [])))
theorem C5{P:zcD}{w:World}{K:k0}{H:Hp}{p:Addr}(h:(p==sysModules)=false):DS J P w K (upd H p (.ext (kG J P w p []))) p []:=⟨zaT _,h,[],ae,.nil,zbN⟩
theorem wj:PE X (.Dict [] [] pos) (C4 J X.prog X.w):=fun pins s σ H Q I h=>by
 have big:=I.big
 refine wpAny_Dict_empty ⟨.ref s.heap.objs.size,_,I.laid (a:=s.heap.objs.size) (o:=.ext (kG J X.prog X.w s.heap.objs.size [])) (t':=s.toks) (fun _ _ q=>Heap.get?_push_of_some _ q) (Wr _) ⟨⟨_, #[],0,Heap.get?_push_size _ rfl,⟨rfl,rfl,rfl⟩,rfl,rfl⟩,⟨_,Heap.get?_push_size _ rfl⟩,fun g1 g2 p1 kp=>?_⟩,rfl,h _ (I.cS.fresh (Wr _)) (beq_eq_false_iff_ne.mpr (Ne.symm (zam big)))⟩
 obtain⟨ob,es,ep,h1,h2,h3,h4⟩:=p1
 exact⟨ob,es,ep,kp ob h1,h2,h3,h4⟩
theorem tH(hu:X.A.units+16<cLine):qz X (compareOp .NotIn) (fun x y H Q=>∃(a b:Addr) (aG:List (κ×V)) (k:κ),x=.ref b/\y=.ref a/\DS J X.prog X.w X.K H a aG/\J.on X.K H k b/\Q (.bl (!(cY aG k).isSome)) H):=by
 intro pins s σ H x y v u Q I rx ry h
 obtain⟨a,b,aG,k,rfl,rfl,d,hk,q⟩:=h
 cases rx
 cases ry
 exact Jg hu I d hk fun s' I'=>⟨.bl (!(cY aG k).isSome),H,I',rfl,q⟩
def C6 (J:KH κ) (P:zcD) (w:World) (K:k0) (td ty tv:TE):TS:=fun D σ H=>tv σ H fun v H1=>td σ H1 fun x H2=>ty σ H2 fun y H3=>∃(a b:Addr) (aG:List (κ×V)) (k:κ),x=.ref a/\y=.ref b/\DS J P w K H3 a aG/\J.on K H3 k b/\aG.length<zcz/\
 ∀H4,DS J P w K H4 a (putK aG k v)->(∃φ,H4=upd H3 a (.ext φ))->D.nx σ H4
theorem wm(hu:X.A.units+16<cLine)(ho:PE X o td)(hi:PE X i ty)(hv:PE X value tv)(hs:swapsWith value (some (.Subscript o i pos')) pos.line X.env=pure false):PS X (.Assign [.Subscript o i pos'] value pos) (C6 J X.prog X.w X.K td ty tv):=by
 intro pins s σ H D I h
 refine wpAny_Assign_Subscript (fK (hv pins s σ H _ I h) fun r s1 zqz=>?_) hs
 obtain⟨v,H1,I1,rv,q1⟩:=zqz
 refine fK (ho pins s1 σ H1 _ I1 q1) fun u s2 zqz=>?_
 obtain⟨x,H2,I2,rx,q2⟩:=zqz
 refine fK (hi pins s2 σ H2 _ I2 q2) fun iv s3 zqz=>?_
 obtain⟨y,H3,I3,ry,a,b,aG,k,ex,ey,d,hk,l,q3⟩:=zqz
 subst ex ey
 cases rx
 cases ry
 exact PQ hu I3 d hk l rv fun s4 H4 I4 d4 e4=>⟨σ,H4,I4,q3 H4 d4 e4⟩
def Ji (J:KH κ) (P:zcD) (w:World) (K:k0) (td ty:TE):TE:=fun σ H Q=>td σ H fun x H1=>ty σ H1 fun y H2=>∃(a b:Addr) (aG:List (κ×V)) (k:κ) (v:V),x=.ref a/\y=.ref b/\DS J P w K H2 a aG/\J.on K H2 k b/\cY aG k=some v/\Q v H2
end
end
abbrev ky:=Key×List Key
def SkH (K:k0) (H:Hp) (x:ky) (a:Addr):Prop:=∃b,b8 K H a [kV x.1,.ref b]/\b8 K H b (x.2.map kV)
noncomputable def kH:KH ky where
 knd:=PN
 on:=SkH
 up:=fun t ⟨b,h1,h2⟩=>⟨b,t _ _ h1,t _ _ h2⟩
 of:=fun {X pins σ H s x a} I ⟨c,h1,h2⟩=>by
  obtain⟨i1,r1,⟨o1,e1,c1,n1,d1⟩,_⟩:=I.tuple h1
  obtain⟨i2,r2,⟨o2,e2,c2,n2,d2⟩,_⟩:=I.tuple h2
  obtain⟨u1,u2,rfl,q1,q2⟩:=vals2 r1
  cases (show u2=Value.ref c from q2)
  exact⟨o1,n1,u1,c,e1,c1,d1,vC (P:=X.prog) (w:=X.w) q1,o2,i2.toArray,n2,e2,c2,d2,by simpa using sU r2⟩
 room:=fun {P w A} h=>by show A.units+1+8<cLine;lia
def jF (h:Heap) (d:Addr) (es:Array DictEntry) (ep:Nat):Prop:=∃o,h.get? d=some o/\o.ExactDict/\o.data=.dict es ep
section
variable{prog:zcD}{w:World}{A:zcC}{E:Value->zcB->Prop}{s:zcB}{d it:Addr}{es:Array DictEntry}{ep i:Nat}
theorem jF.ty(x:jF s.heap d es ep):s.TypeIs (.ref d) "dict":=let ⟨o,g,c,_⟩:=x;⟨o,g,c.1⟩
theorem jF.Jh{h h':Heap}(x:jF h d es ep)(e:∀o,h.get? d=some o->h'.get? d=some o):jF h' d es ep:=let ⟨o,g,r⟩:=x;⟨o,e _ g,r⟩
theorem jF.lt{h:Heap}(x:jF h d es ep):d<h.objs.size:=let ⟨_,g,_⟩:=x;Heap.lt_size g
theorem Jj{Q:Value->zcB->Prop}(hd:(d==sysModules)=false)(x:jF s.heap d es ep)
 (q:Q (.ref s.heap.objs.size) {s with heap:=s.heap.push {cls:=.type "dict_keyiterator",data:=.fields #[.ref d,.int 0 0,.int es.size 0,.int ep 0]} }):wpAny (model prog w) A (pyIter (.ref d)) Q E s:=by
 have WY:=x.ty
 obtain⟨od,gd,cd,dd⟩:=x
 refine wpAny_pyIter_slot WY F.slot_dict_iter (wpAny_call_entry F.slot_dict_iter WY F.entry_dict_iter ?_ (F.args_dict_iter_1 _))
 unfold Builtin.«dict.__iter__» Builtin.Dict.dictSlotNone
 refine zcu (zcu (wpAny_notOrdered_dict WY ?_))
 show wpAny _ _ (pure (Value.ref d)) _ _ s
 refine zcv ?_
 show wpAny _ _ (Builtin.Dict.showsAll d >>= _) _ _ s
 unfold Builtin.Dict.showsAll
 rw[if_neg (by rw[hd];exact WC)]
 refine zcu (zcv (zcu (wpAny_dictEntries gd dd (zcu (wpAny_dictEpoch gd dd ?_)))))
 refine zcu (wpAny_newObj_type (zcv ⟨_,rfl, "dict_keyiterator",_,⟨_,Heap.get?_push_size _ rfl,rfl⟩,F.slot_dict_keyiterator_next.lookup,?_⟩))
 simpa[rawInt] using q
theorem Jk{Q:Option Value->zcB->Prop}(x:s.heap.IsKeyIter it d i es.size ep)(y:jF s.heap d es ep)(li:i<es.size)
 (q:∀h',h'.IsKeyIter it d (i+1) es.size ep->Heap.SameBut it s.heap h'->Q (some es[i].key) {s with heap:=h' }):wpAny (model prog w) A (pyNext (.ref it)) Q E s:=by
 have KP:=x.typeIs
 obtain⟨oi,gi,ci,di⟩:=id x
 obtain⟨od,gd,_,dd⟩:=id y
 have ow:Builtin.Dict_items.ownsTuple "dict_keyiterator"=false:=by decide
 unfold pyNext
 refine zcu (wpAny_attempt (wpAny_callSpecial?_slot (name:=v9 "__next__") KP F.slot_dict_keyiterator_next (wpAny_call_entry F.slot_dict_keyiterator_next KP F.entry_dict_keyiterator_next ?_ (F.args_dict_keyiterator_next_1 _))))
 refine zcu (zcv (zcu (zcu ?_)))
 refine zcu (wpAny_typeNameOfWhole_keyiter KP (zcv (zcu (wpAny_fieldsOf gi di ?_))))
 simp only[ow,zai,if_false]
 show wpAny _ _ (if (Value.ref d==Value.none)=true then _ else _) _ _ s
 rw[if_neg (show ¬((Value.ref d==Value.none)=true) from WC)]
 refine zcu (zcv (zcu (wpAny_dictEntries gd dd ?_)))
 rw[if_neg (by simp)]
 refine zcu (zcv (zcu (wpAny_dictEpoch gd dd ?_)))
 rw[if_neg (by simp)]
 refine zcv ?_
 simp only[show ¬((i:Int)<0) from by lia,if_false,zaU,zbn li]
 refine zcu (zcu (wpAny_typeNameOfWhole_keyiter KP (zcv (zcu (wpAny_isOneOf_keyiter KP ?_)))))
 show wpAny _ _ (setField (.ref it) 1 (rawInt ((i:Int)+1)) >>= _) _ _ s
 refine zcu (wpAny_setField gi di (by simp) ?_)
 have z:(s.heap.update it (Obj.mapFields (·.setIfInBounds 1 (rawInt ((i:Int)+1))))).IsKeyIter it d (i+1) es.size ep:=
  ⟨_,Heap.get?_update_self _ gi (Obj.isFreed_of_fields (Obj.data_mapFields di _)),(Obj.cls_mapFields ..).trans ci,by rw[Obj.data_mapFields di];simp[rawInt]⟩
 refine zcu (zcw (zcu (wpAny_isOneOf_keyiter (s:={s with heap:=s.heap.update it (Obj.mapFields (·.setIfInBounds 1 (rawInt ((i:Int)+1))))}) z.typeIs ?_)))
 show wpAny _ _ (pure es[i].key) _ _ _
 exact zcv (zcv ⟨_,rfl,zcv (q _ z (Heap.SameBut.update ..))⟩)
theorem Mn{Q:Option Value->zcB->Prop}(hA:A.handled=none)(x:s.heap.IsKeyIter it d i es.size ep)(y:jF s.heap d es ep)(li:es.size<=i)
 (q:∀h',Heap.ExtBut it s.heap h'->Q none {s with heap:=h' }):wpAny (model prog w) A (pyNext (.ref it)) Q E s:=by
 have KP:=x.typeIs
 obtain⟨oi,gi,ci,di⟩:=id x
 obtain⟨od,gd,_,dd⟩:=id y
 have ow:Builtin.Dict_items.ownsTuple "dict_keyiterator"=false:=by decide
 unfold pyNext
 refine zcu (wpAny_attempt (wpAny_callSpecial?_slot (name:=v9 "__next__") KP F.slot_dict_keyiterator_next (wpAny_call_entry F.slot_dict_keyiterator_next KP F.entry_dict_keyiterator_next ?_ (F.args_dict_keyiterator_next_1 _))))
 refine zcu (zcv (zcu (zcu ?_)))
 refine zcu (wpAny_typeNameOfWhole_keyiter KP (zcv (zcu (wpAny_fieldsOf gi di ?_))))
 simp only[ow,zai,if_false]
 show wpAny _ _ (if (Value.ref d==Value.none)=true then _ else _) _ _ s
 rw[if_neg (show ¬((Value.ref d==Value.none)=true) from WC)]
 refine zcu (zcv (zcu (wpAny_dictEntries gd dd ?_)))
 rw[if_neg (by simp)]
 refine zcu (zcv (zcu (wpAny_dictEpoch gd dd ?_)))
 rw[if_neg (by simp)]
 refine zcv ?_
 simp only[show ¬((i:Int)<0) from by lia,if_false,zaU,Array.getElem?_eq_none li]
 refine zcu (zcu (wpAny_typeNameOfWhole_keyiter KP (zcv ?_)))
 show wpAny _ _ (setField (.ref it) 0 .none >>= _) _ _ s
 refine zcu (wpAny_setField gi di (by simp) ?_)
 show wpAny _ _ (newExc (.type "StopIteration") [] >>= _) _ _ _
 refine zcu ?_
 simp only[newExc,newTuple]
 refine zcu (wpAny_newObj_type (zcu (m:=firstArgMember _ _) (wpAny_of_eq (a:=Value.none) (by first |rfl |(simp only[firstArgMember];rfl)) (wpAny_newObj_type ?_ (by size_fits)))) (by size_fits))
 simp only[raiseNew]
 refine zcu (wpAny_handled ?_)
 rw[show A.in1.handled=none from hA]
 refine zcu (zcv (wpAny_throw (zcu ?_)))
 refine wpAny_isInstance (T:="StopIteration") (b:=true) ⟨_,Heap.get?_push_size _ rfl,rfl⟩ isSubtype_stop ?_
 exact zcv (q _ (((Heap.SameBut.update ..).extBut.push _).push _))
theorem F9(hA:A.handled=none)(I d:Addr)(n:d≠I)(es:Array DictEntry)(ep:Nat):Walks prog w A I [I,d] [I] es.size (fun i v=>∃e,es[i]?=some e/\v=e.key) (fun i h=>h.IsKeyIter I d i es.size ep/\jF h d es ep) where
 sub:=fun b hb=>Zd.mpr (.inl (zac.mp hb))
 frame:=fun _ _ _ z k=>⟨z.1.at fun o e=>k I (by simp) o e,z.2.Jh fun o e=>k d (by simp) o e⟩
 item:=fun i s Q E hi z q=>Jk z.1 z.2 hi fun h' a b=>q _ h' s.toks ⟨_,zbn hi,rfl⟩ ⟨a,z.2.Jh fun o e=>b.extBut d o n e⟩ fun c o nc e=>b.extBut c o (fun h=>nc (by simp[h])) e
 done:=fun s Q E z q=>Mn hA z.1 z.2 (Wr _) fun h' a=>q h' s.toks fun c o nc e=>a c o (fun h=>nc (by simp[h])) e
 self:=fun _ _ _ _ z q=>wpAny_pyIter_keyiter z.1 q
theorem Mo(lo:(d==sysModules)=false):PySem.W.KdlSrc prog w "dict" d d es.size (fun i v=>∃e,es[i]?=some e/\v=e.key) (fun h=>jF h d es ep) where
 type:=fun _ m=>m.ty
 there:=fun _ m=>⟨m.lt,m.lt⟩
 keep:=fun _ _ m k=>m.Jh fun o e=>k d (.inl rfl) o e
 notList:=by decide
 notTuple:=by decide
 hint:=fun _ _ _ _ m q=>PySem.W.kdl_hint_dict m.ty q
 iter:=fun _ _ hA m=>⟨_,_,(fun _ _ q=>Jj lo m q),F9 hA _ d (zam m.lt) es ep,⟨⟨_,Heap.get?_push_size _ rfl,rfl,rfl⟩,m.Jh fun o e=>Heap.get?_push_of_some _ e⟩⟩
end
section
variable{κ:Type}[DecidableEq κ]{J:KH κ}{X:Cx}
theorem mI(hc:X.calm=true):lq X (.type "list") (fun xs H Q=>∃(a:Addr) (aG:List (κ×V)),xs=[.ref a]/\DS J X.prog X.w X.K H a aG/\∀l us,H l=none->Paired (fun (p:κ×V) (v:V)=>∃b,v=.ref b/\J.on X.K H p.1 b) aG us->Q (.ref l) (upd H l (.lst us))):=by
 intro pins s σ H xs us Q I r h
 obtain⟨a,aG,rfl,⟨z,sy,ks,e,rel,nd⟩,q⟩:=h
 obtain⟨u,rfl,ru⟩:=vals1 r
 cases (show u=Value.ref a from ru)
 obtain⟨o,es,ep,h1,h2,h3,h4,_,_⟩:=EK I e rel nd
 have le:es.size=aG.length:=by rw[<- zaX,h4,Zb,Paired.length rel]
 have hA:X.A.handled=none:=I.ok.hd hc
 refine PySem.W.kdl_call (Mo sy) hA (⟨o,h1,h2,h3⟩:jF s.heap a es ep) (by rw[le];exact z) fun h' tk acc c kp gl it=>?_
 have key:∀(aG:List (κ×V)) (ks:List (κ×Addr×Value)),KS J X.K H aG ks->Paired (fun (p:κ×V) (v:V)=>∃b,v=.ref b/\J.on X.K H p.1 b) aG (ks.map fun k=>V.ref k.2.1)/\Vals (ks.map fun k=>V.ref k.2.1) (ks.map fun k=>Value.ref k.2.1):=fun aG ks r=>by
  induction r with
  |nil=>exact⟨.nil,.nil⟩
  |cons x _ ih=>exact⟨.cons ⟨_,rfl,x.2.1⟩ ih.1,.cons rfl ih.2⟩
 obtain⟨k1,k2⟩:=key _ _ rel
 have ea:acc.toList=ks.map fun k=>Value.ref k.2.1:=by
  have l1:acc.toList.length=ks.length:=by rw[zaX,it.1,<- zaX,h4,Zb]
  refine List.ext_getElem? fun j=>?_
  by_cases hj:j<ks.length
  ·have Zn:j<acc.size:=by rw[<- zaX,l1];exact hj
   obtain⟨e,he,hv⟩:=it.2 j acc[j] (zbn Zn)
   rw[<- zaM,h4,UB,Za hj] at he
   cases he
   rw[zaM,zbn Zn,hv,UB,Za hj]
   rfl
  ·rw[zbh (by lia),zbh (by rw[Zb];lia)]
 refine⟨.ref s.heap.objs.size,_,I.laid (t':=tk) kp (Wr _) (show dg X.prog X.w _ h' _ (.lst (ks.map fun k=>V.ref k.2.1)) from ⟨?_,acc.toList,c,by rw[ea];exact k2,by simpa using gl⟩),rfl,q _ _ (I.cS.fresh (Wr _)) k1⟩
 rw[Zb,<- Paired.length rel]
 exact z
end
end L2
namespace PG
section
variable{β:Type}(ask:Int->Bool)(step:Int->List Int->Int->Option (Int×List Int)×Option Int)(tg:Int×List Int->List β)
abbrev cg:=Int×List Int
noncomputable def xX (x:cg×List Int):Option (cg×List Int):=if x.1.1=0 then none else match take1 (ask x.1.1) x.2 with
 |none=>none
 |some (f,r)=>(step x.1.1 x.1.2 f).1.map fun y=>(y,r)
inductive Met:cg×List Int->β->Prop
 |here {s t}:t∈tg s.1->Met s t
 |on {s s' t}:xX ask step s=some s'->Met s' t->Met s t
variable{ask step tg}
theorem pM{s:cg}{l:List Int}(h0:s.1≠0)(ha:ask s.1=false):xX ask step (s,l)=(step s.1 s.2 0).1.map fun y=>(y,l):=by
 unfold xX
 rw[if_neg h0]
 simp only[take1,ha,zai,if_false]
theorem Mp{s:cg}{f:Int}{l:List Int}(h0:s.1≠0)(ha:ask s.1=true):xX ask step (s,f::l)=(step s.1 s.2 f).1.map fun y=>(y,l):=by
 unfold xX
 rw[if_neg h0]
 simp only[take1,ha,if_true]
theorem Jl{s:cg}{l:List Int}(h0:s.1=0):xX ask step (s,l)=none:=by
 unfold xX
 rw[if_pos h0]
structure MI(ask:Int->Bool)(step:Int->List Int->Int->Option (Int×List Int)×Option Int)(tg:Int×List Int->List β)(s0:cg×List Int)(ms:List β)(seen:List cg)(s:cg×List Int):Prop where
 a:∀t,Met ask step tg s0 t->t∈ms\/Met ask step tg s t
 b:∀t∈ms,Met ask step tg s0 t
 c:∀t,Met ask step tg s t->Met ask step tg s0 t
 d:∀x∈seen,(∀t∈tg x,t∈ms)/\x.1≠0/\ask x.1=false/\∀y,(step x.1 x.2 0).1=some y->y∈seen\/y=s.1
variable{s0 s s':cg×List Int}{ms Mq:List β}{seen:List cg}
theorem Mr(h:xX ask step s=none){t:β}(m:Met ask step tg s t):t∈tg s.1:=by
 cases m with
 |here m=>exact m
 |on e _=>rw[h] at e;cases e
theorem MI.fin(h:MI ask step tg s0 ms seen s)(hm:∀t,t∈Mq↔t∈ms\/t∈tg s.1)(he:xX ask step s=none\/s.1∈seen)(t:β):t∈Mq↔Met ask step tg s0 t:=by
 rw[hm]
 refine⟨fun z=>z.elim (h.b t) fun z=>h.c t (.here z),fun z=>?_⟩
 rcases h.a t z with z |z
 ·exact .inl z
 rcases he with he |he
 ·exact .inr (Mr he z)
 ·have key:∀s' t,Met ask step tg s' t->s'.1∈seen->t∈ms:=by
   intro s' t m
   induction m with
   |here m=>exact fun q=>(h.d _ q).1 _ m
   |@on a b t e _ ih=>
    intro q
    obtain⟨_,h0,ha,hs⟩:=h.d _ q
    obtain⟨a1,a2⟩:=a
    rw[pM h0 ha] at e
    obtain⟨y,hy,rfl⟩:=zbW.mp e
    rcases hs y hy with q2 |rfl
    ·exact ih q2
    ·exact ih he
  exact .inl (key _ _ z he)
theorem MI.next(h:MI ask step tg s0 ms seen s)(hm:∀t,t∈Mq↔t∈ms\/t∈tg s.1)(hn:xX ask step s=some s'\/xX ask step s=none/\s'=s) :
 (∀t,Met ask step tg s0 t->t∈Mq\/Met ask step tg s' t)/\(∀t∈Mq,Met ask step tg s0 t)/\∀t,Met ask step tg s' t->Met ask step tg s0 t:=by
 refine⟨fun t m=>?_,fun t m=>?_,fun t m=>?_⟩
 ·rw[hm]
  rcases h.a t m with z |z
  ·exact .inl (.inl z)
  ·rcases hn with hn |⟨hn,rfl⟩
   ·cases z with
    |here z=>exact .inl (.inr z)
    |on e z=>rw[hn] at e;cases e;exact .inr z
   ·exact .inr z
 ·rcases(hm t).mp m with z |z
  ·exact h.b t z
  ·exact h.c t (.here z)
 ·rcases hn with hn |⟨hn,rfl⟩
  ·exact h.c t (.on hn m)
  ·exact h.c t m
structure Seg(ask:Int->Bool)(step:Int->List Int->Int->Option (Int×List Int)×Option Int)(s:cg)(g:List cg):Prop where
 head:g[0]?=some s
 mid:∀i (h:i+1<g.length),g[i].1≠0/\ask g[i].1=false/\(step g[i].1 g[i].2 0).1=some g[i+1]
 last:∀x,g.getLast?=some x->x.1=0\/ask x.1=true\/(step x.1 x.2 0).1=none\/∃y∈g,(step x.1 x.2 0).1=some y
section
variable{s:cg}{g:List cg}{l:List Int}
theorem Seg.nx(h:Seg ask step s g)(i:Nat)(hi:i+1<g.length):xX ask step (g[i],l)=some (g[i+1],l):=by
 obtain⟨h0,ha,e⟩:=h.mid i hi
 rw[pM h0 ha,e]
 rfl
theorem Seg.up(h:Seg ask step s g):∀(i:Nat) (hi:i<g.length) (t:β),Met ask step tg (g[i],l) t->Met ask step tg (s,l) t
 |0,hi,t,m=>by
  have:=h.head
  rw[Za hi] at this
  cases this
  exact m
 |i+1,hi,t,m=>h.up i (by lia) t (.on (h.nx i hi) m)
theorem Seg.met(h:Seg ask step s g){x:cg}(hx:x∈g){t:β}(ht:t∈tg x):Met ask step tg (s,l) t:=by
 obtain⟨i,hi,rfl⟩:=zbB.mp hx
 exact h.up i hi t (.here ht)
theorem Seg.Ms{x:cg}(hx:g.getLast?=some x):∃hi:g.length-1<g.length,g[g.length-1]=x:=by
 rw[zbE] at hx
 exact WD.mp hx
theorem Seg.all(h:Seg ask step s g){t:β}(m:Met ask step tg (s,l) t):(∃x∈g,t∈tg x)\/∃x s',g.getLast?=some x/\x.1≠0/\ask x.1=true/\xX ask step (x,l)=some s'/\Met ask step tg s' t:=by
 have key:∀s' t,Met ask step tg s' t->s'.2=l->s'.1∈g->(∃x∈g,t∈tg x)\/∃x s',g.getLast?=some x/\x.1≠0/\ask x.1=true/\xX ask step (x,l)=some s'/\Met ask step tg s' t:=by
  intro s' t m
  induction m with
  |here m=>exact fun _ q=>.inl ⟨_,q,m⟩
  |@on a b t e mm ih=>
   intro el q
   obtain⟨a1,a2⟩:=a
   simp only at el q
   subst el
   obtain⟨i,hi,rfl⟩:=zbB.mp q
   by_cases hl:i+1<g.length
   ·rw[h.nx i hl] at e
    cases e
    exact ih rfl (zah hl)
   ·have ei:g.length-1=i:=by lia
    have hx:g.getLast?=some g[i]:=by rw[zbE,ei,Za hi]
    by_cases h0:g[i].1=0
    ·rw[Jl h0] at e;cases e
    cases ha:ask g[i].1 with
    |true=>exact .inr ⟨_,_,hx,h0,ha,e,mm⟩
    |false=>
     rw[pM h0 ha] at e
     rcases h.last _ hx with z |z |z |⟨y,hy,z⟩
     ·exact absurd z h0
     ·rw[ha] at z;cases z
     ·rw[z] at e;cases e
     ·rw[z] at e;cases e;exact ih rfl hy
 refine key _ _ m rfl ?_
 exact List.mem_iff_getElem?.mpr ⟨0,h.head⟩
end
structure LI(ask:Int->Bool)(step:Int->List Int->Int->Option (Int×List Int)×Option Int)(tg:Int×List Int->List β)(s0:cg×List Int)(ms:List β)(o:Option cg)(l:List Int):Prop where
 a:∀t,Met ask step tg s0 t->t∈ms\/∃s,o=some s/\Met ask step tg (s,l) t
 b:∀t∈ms,Met ask step tg s0 t
 c:∀s t,o=some s->Met ask step tg (s,l) t->Met ask step tg s0 t
theorem LI.fin{l:List Int}(h:LI ask step tg s0 ms none l)(t:β):t∈ms↔Met ask step tg s0 t:=⟨h.b t,fun z=>(h.a t z).elim (fun z=>z) fun ⟨_,e,_⟩=>by cases e⟩
section
variable{s x y:cg}{g:List cg}{l r:List Int}{f:Int}
theorem LI.on(h:LI ask step tg s0 ms (some s) l)(q:Seg ask step s g)(hm:∀t,t∈Mq↔t∈ms\/∃x∈g,t∈tg x)(hx:g.getLast?=some x)(h0:x.1≠0)(ha:ask x.1=true)(hl:l=f::r)(hy:(step x.1 x.2 f).1=some y):LI ask step tg s0 Mq (some y) r:=by
 subst hl
 have e:xX ask step (x,f::r)=some (y,r):=by rw[Mp h0 ha,hy];rfl
 refine⟨fun t m=>?_,fun t m=>?_,fun s' t e' m=>?_⟩
 ·rw[hm]
  rcases h.a t m with z |⟨_,z,m⟩
  ·exact .inl (.inl z)
  ·cases z
   rcases q.all m with z |⟨x',s',Zo,_,_,e',m'⟩
   ·exact .inl (.inr z)
   ·rw[hx] at Zo
    cases Zo
    rw[e] at e'
    cases e'
    exact .inr ⟨y,rfl,m'⟩
 ·rcases(hm t).mp m with z |⟨x,hx,ht⟩
  ·exact h.b t z
  ·exact h.c _ t rfl (q.met hx ht)
 ·cases e'
  obtain⟨hi,e1⟩:=Seg.Ms hx
  exact h.c _ t rfl (q.up _ hi t (by rw[e1];exact .on e m))
end
structure TI(ask:Int->Bool)(step:Int->List Int->Int->Option (Int×List Int)×Option Int)(s:cg)(g:List cg)(o:Option cg):Prop where
 nil:g=[]->o=some s
 head:g≠[]->g[0]?=some s
 mid:∀i (h:i+1<g.length),g[i].1≠0/\ask g[i].1=false/\(step g[i].1 g[i].2 0).1=some g[i+1]
 last:∀x,g.getLast?=some x->x.1≠0/\ask x.1=false/\(step x.1 x.2 0).1=o
section
variable{s x:cg}{g:List cg}{o:Option cg}
theorem TI.start:TI ask step s [] (some s):=⟨fun _=>rfl,fun h=>absurd rfl h,fun i h=>(by simp at h),fun x h=>(by simp at h)⟩
theorem TI.Mu(h:TI ask step s g (some x)):(g++[x])[0]?=some s/\∀i (hi:i+1<(g++[x]).length),(g++[x])[i].1≠0/\ask (g++[x])[i].1=false/\(step (g++[x])[i].1 (g++[x])[i].2 0).1=some (g++[x])[i+1]:=by
 refine⟨?_,fun i hi=>?_⟩
 ·cases g with
  |nil=>exact h.nil rfl
  |cons a r=>exact h.head (by simp)
 ·simp only[Zc,zal] at hi
  have l1:i<g.length:=by lia
  rw[List.getElem_append_left l1]
  by_cases hl:i+1<g.length
  ·rw[List.getElem_append_left hl]
   exact h.mid i hl
  ·have ei:g.length-1=i:=by lia
   have hx:g.getLast?=some g[i]:=by rw[zbE,ei,Za l1]
   obtain⟨a,b,c⟩:=h.last _ hx
   refine⟨a,b,?_⟩
   rw[c,List.getElem_append_right (by lia)]
   simp
theorem TI.push(h:TI ask step s g (some x))(h0:x.1≠0)(ha:ask x.1=false):TI ask step s (g++[x]) (step x.1 x.2 0).1:=
 ⟨fun e=>(by simp at e),fun _=>h.Mu.1,h.Mu.2,fun y hy=>by simp only[List.getLast?_append,List.getLast?_singleton,Option.some_or,zax.injEq] at hy;subst hy;exact⟨h0,ha,rfl⟩⟩
theorem TI.stop(h:TI ask step s g (some x))(hx:x.1=0\/ask x.1=true):Seg ask step s (g++[x]):=
 ⟨h.Mu.1,h.Mu.2,fun y hy=>by
  simp only[List.getLast?_append,List.getLast?_singleton,Option.some_or,zax.injEq] at hy
  subst hy
  rcases hx with z |z
  ·exact .inl z
  ·exact .inr (.inl z)⟩
theorem TI.fin(h:TI ask step s g o)(ho:o=Option.none\/∃x∈g,o=some x):Seg ask step s g:=by
 have ne:g≠[]:=fun e=>by
  have:=h.nil e
  subst e
  rcases ho with rfl |⟨x,hx,_⟩
  ·cases this
  ·cases hx
 refine⟨h.head ne,h.mid,fun y hy=>.inr (.inr ?_)⟩
 obtain⟨_,_,c⟩:=h.last y hy
 rcases ho with rfl |⟨x,hx,rfl⟩
 ·exact .inl c
 ·exact .inr ⟨x,hx,c⟩
end
end
theorem yt{α:Type}[DecidableEq α]:∀(xs ys:List α),xs.Nodup->(∀x∈xs,x∈ys)->xs.length<=ys.length
 |[],ys,_,_=>zaT _
 |x::r,ys,h,q=>by
  obtain⟨nx,nr⟩:=zaq.mp h
  have hx:=q x (UH ..)
  have:=yt r (ys.erase x) nr fun y hy=>(List.mem_erase_of_ne (fun e:y=x=>nx (e▸hy))).mpr (q y (zad _ hy))
  have l:=List.length_erase_of_mem hx
  have p:=List.length_pos_of_mem hx
  simp only[V0]
  lia
noncomputable def tI:List Int->List (List Int)
 |[]=>[[]]
 |s::r=>(zao s.toNat).flatMap fun (v:Nat)=>(tI r).map fun t=>((v:Int)::t)
def nH:List Int->List Int->Prop
 |[],[]=>True
 |s::r,v::t=>(0<=v/\v<s)/\nH r t
 |[],_::_=>False
 |_::_,[]=>False
theorem nH.mem:∀ {ss vs:List Int},nH ss vs->vs∈tI ss
 |[],[],_=>by simp[tI]
 |s::r,v::t,h=>by
  rw[nH] at h
  simp only[tI,zaL,zbM,zar]
  exact⟨v.toNat,by lia,t,h.2.mem,by rw[Int.toNat_of_nonneg h.1.1]⟩
 |[],v::t,h=>by rw[nH] at h;exact h.elim
 |s::r,[],h=>by rw[nH] at h;exact h.elim
theorem nH.len:∀ {ss vs:List Int},nH ss vs->vs.length=ss.length
 |[],[],_=>rfl
 |s::r,v::t,h=>by
  rw[nH] at h
  simp[h.2.len]
 |[],v::t,h=>by rw[nH] at h;exact h.elim
 |s::r,[],h=>by rw[nH] at h;exact h.elim
theorem nH.set:∀ {ss vs:List Int} (i:Nat) (v:Int),nH ss vs->(∀s,ss[i]?=some s->0<=v/\v<s)->nH ss (vs.set i v)
 |[],[],i,v,h,_=>h
 |s::r,u::t,0,v,h,q=>by
  rw[nH] at h
  rw[List.set_cons_zero,nH]
  exact⟨q s rfl,h.2⟩
 |s::r,u::t,i+1,v,h,q=>by
  rw[nH] at h
  rw[List.set_cons_succ,nH]
  exact⟨h.1,h.2.set i v fun z hz=>q z (by simpa using hz)⟩
 |[],u::t,i,v,h,q=>by rw[nH] at h;exact h.elim
 |s::r,[],i,v,h,q=>by rw[nH] at h;exact h.elim
noncomputable def univ (rows ss:List Int):List cg:=(0::rows).flatMap fun r=>(tI ss).map fun v=>(r,v)
theorem Jm{rows ss:List Int}{s:cg}(h:s.1=0\/s.1∈rows)(q:nH ss s.2):s∈univ rows ss:=by
 simp only[univ,zaL,zar,Zd]
 exact⟨s.1,h,s.2,q.mem,rfl⟩
theorem Jn(rows ss:List Int):(univ rows ss).length=(rows.length+1)*(tI ss).length:=by
 have k:∀l:List Int,(l.flatMap fun r=>(tI ss).map fun v=>((r,v):cg)).length=l.length*(tI ss).length:=fun l=>by
  induction l with
  |nil=>simp
  |cons a r ih=>rw[zas,Zc,ih];simp[Nat.succ_mul,Nat.add_comm]
 rw[univ,k]
 simp
end PG
namespace L2
open PySem
def FH (K:k0) (x:Str) (st:Stmt) (f:Addr):Prop:=zau K zcy x=some (some (.ref f))/\∃fd,Gz K x x st f fd
theorem FH.of{K:k0}{x:Str}{st:Stmt}{f:Addr}{oc:Value}{od an:Option Addr}{DR:Array (Option Value)}{kV doc pm fc ct:Value}(a:zau K zcy x=some (some (.ref f)))(l:K.lookup f=some ⟨oc,od,.func (zbb x x (kz st) (hJ st) (aN st) .none kV doc pm an fc ct),DR⟩)
 (c:zbO K fc x=true) (k:zbe K (.ref f)=true):FH K x st f:=⟨a,_,Hq l c k⟩
theorem EL{α:Type}{P:List α->Prop}(h:∀a,P [a])(us:List α)(e:us.length=1):P us:=match us,e with |[a],_=>h a
theorem Ar{α:Type}{P:List α->Prop}(h:∀a b,P [a,b])(us:List α)(e:us.length=2):P us:=match us,e with |[a,b],_=>h a b
theorem Q8{α:Type}{P:List α->Prop}(h:∀a b c,P [a,b,c])(us:List α)(e:us.length=3):P us:=match us,e with |[a,b,c],_=>h a b c
theorem bn4{α:Type}{P:List α->Prop}(h:∀a b c d,P [a,b,c,d])(us:List α)(e:us.length=4):P us:=match us,e with |[a,b,c,d],_=>h a b c d
theorem bn5{α:Type}{P:List α->Prop}(h:∀a b c d f,P [a,b,c,d,f])(us:List α)(e:us.length=5):P us:=match us,e with |[a,b,c,d,f],_=>h a b c d f
theorem mJ{K:k0}{mg:Str->Option Value}{h:Heap}{x:Str}{st:Stmt}{f:Addr}{ps:List Str}(X:K.In h)(G:h.Ns zcy mg)(q:FH K x st f)
 (b:∀(kV doc pm:Value) (an:Option Addr) (fc ct:Value) (us:List Value),us.length=ps.length->bindArgs (zbb x x (kz st) (hJ st) (aN st) .none kV doc pm an fc ct) ⟨us,[]⟩=pure (ps.zip us)):∃fd,cJ K mg x st ps f fd:=
 let ⟨a,fd,F⟩:=q
 ⟨fd,F,F.binds b,zbk X G a⟩
theorem Q9{A:zcC}{k:Nat}(hr:gg k A):A.units+16<cLine:=by have:=LO hr;lia
theorem Jo{CX:ve}{P:zcD}{w:World}{K:k0}{mg:Str->Option Value}{base:Heap}{N:List Str}{qual:Str}{scope:Scope}{f:Addr}{cd:Value}{A:zcC}{outer:List Env}{s:zcB}{H:Hp}{E:XK}:(mf CX P w K mg base N qual scope f cd A outer s H E).prog=P:=rfl
theorem Jp{CX:ve}{P:zcD}{w:World}{K:k0}{mg:Str->Option Value}{base:Heap}{N:List Str}{qual:Str}{scope:Scope}{f:Addr}{cd:Value}{A:zcC}{outer:List Env}{s:zcB}{H:Hp}{E:XK}:(mf CX P w K mg base N qual scope f cd A outer s H E).w=w:=rfl
noncomputable def oF (s:PG.cg):ky:=(.inl s.1,s.2.map .inl)
theorem Bs{a b:PG.cg}(h:oF a=oF b):a=b:=by
 obtain⟨a1,a2⟩:=a
 obtain⟨b1,b2⟩:=b
 simp only[oF,Prod.mk.injEq,Sum.inl.injEq] at h
 obtain⟨rfl,h⟩:=h
 have h:=(List.map_inj_right (fun x y (e:(Sum.inl x:Key)=.inl y)=>Sum.inl.inj e)).mp h
 rw[h]
theorem yu(l:List Int):(l.map (Sum.inl:Int->Key)).map kV=l.map V.int:=by rw[za8];rfl
theorem yv{K:k0}{H:Hp}{a:Addr}{s:PG.cg}(h:cm K H a s.1 s.2):kH.on K H (oF s) a:=let ⟨b,h1,h2⟩:=h;⟨b,h1,by rw[oF,yu];exact h2⟩
theorem Jq{K:k0}{H:Hp}{a:Addr}{s:PG.cg}(h:kH.on K H (oF s) a):cm K H a s.1 s.2:=let ⟨b,h1,h2⟩:=h;⟨b,h1,by rw[oF,yu] at h2;exact h2⟩
noncomputable def qb (l:List PG.cg):List (ky×V):=l.map fun s=>(oF s,V.bl true)
theorem Bt(l:List PG.cg)(s:PG.cg):(cY (qb l) (oF s)).isSome=decide (s∈l):=by
 induction l with
 |nil=>rfl
 |cons a r ih=>
  rw[qb,Y9]
  by_cases e:a=s
  ·rw[cF (by rw[e]),e]
   simp
  ·rw[cG (fun z=>e (Bs z))]
   refine(show _=_ from ih).trans ?_
   simp[Ne.symm e]
theorem Ga{l:List PG.cg}{s:PG.cg}(h:s ∉ l):putK (qb l) (oF s) (.bl true)=qb (l++[s]):=by
 unfold putK
 rw[j9,Bt,decide_eq_false h,if_neg WC]
 simp[qb]
section
variable{κ:Type}[DecidableEq κ]{J:KH κ}{P:zcD}{w:World}{K:k0}{H H':Hp}{a b p C dx:Addr}{aG:List (κ×V)}{φ:Heap->Prop}{fs:List (Str×V)}{xs:List V}
theorem DS.uM(d:DS J P w K H a aG):∃φ,H a=some (.ext φ):=let ⟨xs,h,_⟩:=d.at_;⟨_,h⟩
theorem DS.ins(d:DS J P w K H a aG)(hp:H p=some (.ins C dx fs))(u:bA p H H'):DS J P w K H' a aG:=by
 obtain⟨φ,e⟩:=d.uM
 exact d.Jh (fun o h=>u _ _ (bR e hp (by intro z;cases z)) h) fun b ys q=>q.ins hp u
theorem b8.rQ(h:b8 K H a xs)(hb:H b=some (.ext φ))(u:bA b H H'):b8 K H' a xs:=by
 rcases h with (q |⟨o',q⟩) |q
 ·exact .inl (.inl (u _ _ (bR q hb (by intro z;cases z)) q))
 ·exact .inl (.inr ⟨o',u _ _ (bR q hb (by intro z;cases z)) q⟩)
 ·exact .inr q
theorem DS.other(d:DS J P w K H a aG)(hb:H b=some (.ext φ))(n:a≠b)(u:bA b H H'):DS J P w K H' a aG:=d.Jh (fun o h=>u _ _ n h) fun c ys q=>q.rQ hb u
theorem cm.ext{row:Int}{vals:List Int}(h:cm K H a row vals)(hb:H b=some (.ext φ))(u:bA b H H'):cm K H' a row vals:=let ⟨va,h1,h2⟩:=h;⟨va,h1.rQ hb u,h2.rQ hb u⟩
end
theorem Gb{D:Addr}{H H':Hp}(s:aq H H'):aq (oE D H) (oE D H'):=fun b o h=>by
 obtain⟨n,e⟩:=EH h
 rw[mH n]
 exact s _ _ e
theorem b8.oE{K:k0}{D a:Addr}{H:Hp}{xs ys:List V}(h:b8 K H a xs)(hD:H D=some (.lst ys)):b8 K (oE D H) a xs:=by
 rcases h with (q |⟨o,q⟩) |q
 ·exact .inl (.inl (by rw[mH (bR q hD (by intro z;cases z))];exact q))
 ·exact .inl (.inr ⟨o,by rw[mH (bR q hD (by intro z;cases z))];exact q⟩)
 ·exact .inr q
theorem cm.oE{K:k0}{D a:Addr}{H:Hp}{row:Int}{vals:List Int}{ys:List V}(h:cm K H a row vals)(hD:H D=some (.lst ys)):cm K (oE D H) a row vals:=let ⟨va,h1,h2⟩:=h;⟨va,h1.oE hD,h2.oE hD⟩
noncomputable def jz (pr:PG.Prog):List Int:=pr.aK.map (·.size)
noncomputable def EM (pr:PG.Prog):List Int:=(PG.aC pr.body).map (·.row)
noncomputable def bB (pr:PG.Prog):Nat:=(PG.univ (EM pr) (jz pr)).length
structure dw(pr:PG.Prog)(s:PG.cg):Prop where
 ok:xp pr s.1 s.2
 inv:PG.nH (jz pr) s.2
theorem dw.mem{pr:PG.Prog}{s:PG.cg}(h:dw pr s):s∈PG.univ (EM pr) (jz pr):=by
 refine PG.Jm ?_ h.inv
 rcases h.ok.row with e |⟨i,hi,e⟩
 ·exact .inl e
 ·exact .inr (zar.mpr ⟨_,zah hi,e⟩)
theorem iF{pr:PG.Prog}{l:List PG.cg}(nd:l.Nodup)(h:∀s∈l,dw pr s):l.length<=bB pr:=PG.yt l _ nd fun s hs=>(h s hs).mem
theorem nH.first:∀ {bs:List PG.fW},(∀b∈bs,2<=b.size/\b.size<=10/\0<=b.first/\b.first<b.size)->PG.nH (bs.map (·.size)) (bs.map (·.first))
 |[],_=>trivial
 |b::r,h=>by
  simp only[Y9,PG.nH]
  have:=h b (UH ..)
  exact⟨⟨by lia,by lia⟩,nH.first fun x hx=>h x (zad _ hx)⟩
theorem dw.first{pr:PG.Prog}(d:jO pr):dw pr (PG.bt pr.body 0,pr.aK.map (·.first)):=⟨d.first,nH.first d.size⟩
theorem nH.rO{pr:PG.Prog}(d:jO pr){vals:List Int}(h:PG.nH (jz pr) vals){b:W}(hb:b∈pr.aK.map (·.name))(z:Int):PG.nH (jz pr) (rO pr.aK vals b (z%eQ pr.aK b)):=by
 refine h.set _ _ fun s hs=>?_
 obtain⟨hx,_⟩:=kc hb
 have e:eQ pr.aK b=s:=by
  unfold eQ
  rw[jz,UB,Za hx] at hs
  rw[Za hx]
  exact zax.inj hs
 have:=Br d hb
 rw[e] at this ⊢
 exact⟨zaA z (by lia),zaw z (by lia)⟩
theorem nH.step{pr:PG.Prog}(d:jO pr){st:PG.bH}(ok:PG.qS (·∈pr.aK.map (·.name)) (fun e=>PG.jl pr.aK e/\PG.mz e<=2) (·∈PG.zc) st){ws vals:List Int}{f:Int}(h:PG.nH (jz pr) vals){x:PG.cg}(e:(jD pr.aK st ws vals f).1=some x):PG.nH (jz pr) x.2:=by
 have cs:iE pr.aK st ws vals=some x->PG.nH (jz pr) x.2:=by
  intro e
  unfold iE at e
  split at e
  ·cases e
  ·split at e
   ·cases e;exact h
   ·split at e
    ·cases e
    ·cases e;exact h
 cases st<;>rw[PG.qS] at ok
 ·cases e;exact nH.rO d h ok _
 ·cases e;exact nH.rO d h ok.1 _
 ·cases e;exact h
 ·exact cs e
 ·cases e;exact h
 ·exact cs e
 ·exact cs e
theorem Bu{pr:PG.Prog}(ok:Bo pr){i:Nat}(hi:i<(PG.aC pr.body).length)(hf:i<(PG.aS pr.body 0).length)(vals:List Int)(f:Int):bO pr (PG.aC pr.body)[i].row vals f=jD pr.aK (PG.aC pr.body)[i] (PG.aS pr.body 0)[i].2.2 vals f:=by
 unfold bO
 rw[rP ok.pw i hi,EI ok.pw i hi hf]
theorem dw.next{pr:PG.Prog}(d:jO pr){s x:PG.cg}(h:dw pr s)(h0:s.1≠0){f:Int}(e:(bO pr s.1 s.2 f).1=some x):dw pr x:=by
 obtain⟨row,vals⟩:=s
 obtain⟨i,hi,rfl⟩:=h.ok.row.resolve_left h0
 obtain⟨hf,_,_⟩:=iD pr.body i hi
 rw[Bu d.ok hi hf] at e
 refine⟨?_,nH.step d (PG.kE pr.body _ d.own (zah hi)) h.inv e⟩
 rcases hs:jD pr.aK (PG.aC pr.body)[i] (PG.aS pr.body 0)[i].2.2 vals f with ⟨o,sd⟩
 rw[hs] at e
 exact xp.step d hi hf h.ok.len h.ok.small (by rw[hs];exact congrArg (·,sd) e)
theorem wt{pr:PG.Prog}(row:Int)(vals:List Int)(f:Int)(h:cZ pr.body row=true):(bO pr row vals f).1≠none:=by
 unfold cZ at h
 unfold bO
 obtain⟨k,b,e⟩:∃k b,Bq pr.body row=.ask k b:=by
  generalize Bq pr.body row=st at h
  cases st<;>first |exact⟨_,_,rfl⟩ |(have h:=of_decide_eq_true h;cases h)
 rw[e]
 intro z
 cases z
theorem rR{pr:PG.Prog}(ok:Bo pr):cZ pr.body 0=false:=by
 unfold cZ Bq PG.Ir
 have:(PG.aC pr.body).findIdx (fun s=>s.row==0)=(PG.aC pr.body).length:=List.findIdx_eq_length.mpr fun x hx=>by
  have:=ok.pos x hx
  simp only[beq_eq_false_iff_ne,ne_eq]
  lia
 rw[this,zbh (Wr _)]
 rfl
theorem dw.nx{pr:PG.Prog}(d:jO pr){s s':PG.cg×List Int}(h:dw pr s.1)(e:PG.xX (cZ pr.body) (bO pr) s=some s'):dw pr s'.1:=by
 unfold PG.xX at e
 split at e
 ·cases e
 ·rename_i h0
  split at e
  ·cases e
  ·obtain⟨y,hy,rfl⟩:=zbW.mp e
   exact h.next d h0 hy
structure kT(K:k0)(H:Hp)(md:Addr)(pr:PG.Prog):Prop where
 at_:∃(B d8 wy fa:Addr) (us:List V) (aG:List (Key×V)),gS K H md [.ref B,.ref d8,.ref wy,.ref fa]/\Rep K H (.lst (pr.aK.map iA)) (.ref B)/\H d8=some (.dK (cX (PG.aC pr.body) us))/\us.length=(PG.aC pr.body).length/\aP K H ((PG.aC pr.body).map dq) us/\
  H wy=some (.dK aG)/\(∀i (hi:i<(PG.aS pr.body 0).length),∃y,cY aG (.inl (PG.aS pr.body 0)[i].1)=some (.ref y)/\b8 K H y ((PG.aS pr.body 0)[i].2.2.map V.int))/\cm K H fa (PG.bt pr.body 0) (pr.aK.map (·.first))
theorem kT.mono{K:k0}{H H':Hp}{md:Addr}{pr:PG.Prog}(m:kT K H md pr)(s:aq H H'):kT K H' md pr:=by
 obtain⟨B,d8,wy,fa,us,aG,h1,h2,h3,h4,h5,h6,h7,h8⟩:=m.at_
 exact⟨⟨B,d8,wy,fa,us,aG,s.seq h1,h2.mono s,s _ _ h3,h4,h5.mono s,s _ _ h6,fun i hi=>let ⟨y,e,k⟩:=h7 i hi;⟨y,e,s.bo k⟩,h8.mono s⟩⟩
theorem kT.row{K:k0}{H:Hp}{md:Addr}{pr:PG.Prog}(m:kT K H md pr)(ok:Bo pr){i:Nat}(hi:i<(PG.aC pr.body).length)(hf:i<(PG.aS pr.body 0).length) :
 ∃(B d8 wy fa ta y:Addr) (us ys:List V) (aG:List (Key×V)),gS K H md [.ref B,.ref d8,.ref wy,.ref fa]/\Rep K H (.lst (pr.aK.map iA)) (.ref B)/\H d8=some (.dK (cX (PG.aC pr.body) us))/\cY (cX (PG.aC pr.body) us) (.inl (PG.aC pr.body)[i].row)=some (.ref ta)/\Rep K H (dq (PG.aC pr.body)[i]) (.ref ta)/\b8 K H ta (.str (hV (PG.aC pr.body)[i].wd)::ys)/\
  H wy=some (.dK aG)/\cY aG (.inl (PG.aC pr.body)[i].row)=some (.ref y)/\b8 K H y ((PG.aS pr.body 0)[i].2.2.map V.int):=by
 obtain⟨B,d8,wy,fa,us,aG,h1,h2,h3,h4,h5,h6,h7,h8⟩:=m.at_
 obtain⟨v,hv,rv⟩:=h5.get (i:=i) (d:=dq (PG.aC pr.body)[i]) (by rw[UB,Za hi];rfl)
 have g:=oy _ _ h4 ok.pw i hi v hv
 obtain⟨ta,ys,rfl,Ra⟩:=ig _ rv
 obtain⟨y,e,k⟩:=h7 i hf
 obtain⟨_,e1,_⟩:=iD pr.body i hi
 rw[e1] at e
 exact⟨B,d8,wy,fa,ta,y,us,_,aG,h1,h2,h3,g,rv,Ra,h6,e,k⟩
section
variable(P:zcD)(w:World)(K:k0)(CC:Addr)
def Jr (H:Hp) (l:Addr) (us:List V) (ts:List PG.Tg):Prop:=H l=some (.lst us)/\aP K H (ts.map Sx) us
def PR:Sp:=fun vs H Q _=>∃(pa R D:Addr) (ys:List V) (pr:PG.Prog) (rows:List PG.Row),vs=[.ref pa,.ref R]/\H D=some (.lst ys)/\jO pr/\Rep K (oE D H) (i0 pr) (.ref pa)/\Rep K H (.lst (rows.map jm)) (.ref R)/\rows.length<=1000/\PG.cL pr.body rows/\
 ∀md H',aq H H'->kT K (oE D H') md pr->Q (.ref md) H'
def Js:Sp:=fun vs H Q _=>∃(md sa:Addr) (fv:V) (pr:PG.Prog) (s:PG.cg) (f:Int),vs=[.ref md,.ref sa,fv]/\kT K H md pr/\jO pr/\cm K H sa s.1 s.2/\dw pr s/\s.1≠0/\(cZ pr.body s.1=true->fv=.int f)/\
 ∀v H',aq H H'->lO K H' (bO pr s.1 s.2 f).1 v->Q v H'
def Mv:Sp:=fun vs H Q _=>∃(md sa:Addr) (pr:PG.Prog) (s:PG.cg),vs=[.ref md,.ref sa]/\kT K H md pr/\jO pr/\cm K H sa s.1 s.2/\dw pr s/\Q (.bl (cZ pr.body s.1)) H
def fH (H:Hp) (g:List PG.cg) (us:List V):Prop:=Paired (fun (s:PG.cg) v=>∃a,v=.ref a/\cm K H a s.1 s.2) g us
end
theorem Jt{K:k0}{H:Hp}:∀ {g:List PG.cg} {us:List V},Paired (fun (p:ky×V) (v:V)=>∃b,v=.ref b/\kH.on K H p.1 b) (qb g) us->fH K H g us
 |[],_,h=>by cases h;exact .nil
 |s::r,_,h=>by
  cases h with
  |cons h1 h2=>
   obtain⟨b,e,o⟩:=h1
   exact .cons ⟨b,e,Jq o⟩ (Jt h2)
theorem fH.at{K:k0}{H:Hp}{g:List PG.cg}{us:List V}(h:fH K H g us):us.length=g.length/\∀(i:Nat) (s:PG.cg),g[i]?=some s->∃a,us[i]?=some (V.ref a)/\cm K H a s.1 s.2:=by
 unfold fH at h
 induction h with
 |nil=>exact⟨rfl,fun i s h=>by simp at h⟩
 |@cons x y l1 l2 z t ih=>
  obtain⟨a,e,q⟩:=z
  obtain⟨l,g⟩:=ih
  refine⟨by simp[l],fun i s h=>?_⟩
  cases i with
  |zero=>simp at h;subst h;exact⟨a,by simp[e],q⟩
  |succ i=>simp at h;obtain⟨b,hb,k⟩:=g i s h;exact⟨b,by simp[hb],k⟩
theorem fH.mono{K:k0}{H H':Hp}{g:List PG.cg}{us:List V}(h:fH K H g us)(s:aq H H'):fH K H' g us:=Paired.yK h fun _ _ ⟨a,e,q⟩=>⟨a,e,q.mono s⟩
theorem Jr.mono{K:k0}{H H':Hp}{l:Addr}{us:List V}{ts:List PG.Tg}(h:Jr K H l us ts)(s:aq H H'):Jr K H' l us ts:=⟨s _ _ h.1,h.2.mono s⟩
open PyProof.Rows
theorem Ju{J:It}{D:Addr}{g:TG}{te:TE}{Q:VK}{τ0:St}{H:Hp}(G:St->Prop)(xs:List V)(Pv:Nat->List V->Hp->Prop)
 (go:∀i H2,aq H H2->i<xs.length->J.go i H2) (stop:∀H2,aq H H2->J.stop xs.length H2) (DH:∀i H2 x H3,aq H H2->i<xs.length->J.DH i H2 x H3->H3=H2/\xs[i]?=some x)
 (hl:xs.length<=16000000) (hD:H D=none) (g0:G τ0) (h0:Pv 0 [] (upd H D (.lst [])))
 (step:∀i x ys τ H2,xs[i]?=some x->G τ->aq H H2->H2 D=some (.lst ys)->ys.length=i->Pv i ys H2->∀R:St->VK,(∀τ' v H3,G τ'->aq H2 H3->Pv (i+1) (ys++[v]) (upd H3 D (.lst (ys++[v])))->R τ' v H3)->g x τ H2 fun τ' H'=>te τ' H' (R τ'))
 (q:∀ys H2,aq H H2->H2 D=some (.lst ys)->ys.length=xs.length->Pv xs.length ys H2->Q (.ref D) H2):vI J D g Ct te Q τ0 (upd H D (.lst [])):=by
 refine⟨fun i m τ H2=>m=xs.length-i/\i<=xs.length/\G τ/\aq H H2/\∃ys,H2 D=some (.lst ys)/\ys.length=i/\Pv i ys H2,⟨xs.length,by simp,zaT _,g0,aq.new hD _,[],ae,rfl,h0⟩,?_⟩
 rintro i m τ H2 ⟨rfl,hi,gt,s2,ys,h2,ly,p2⟩
 by_cases uJ:i<xs.length
 ·refine .inr ⟨go i H2 s2 uJ,fun τ' H'=>G τ'/\aq H H'/\∃ys,H' D=some (.lst ys)/\ys.length=i+1/\Pv (i+1) ys H',fun τ' H' ⟨h1,h3,h4⟩=>⟨xs.length-(i+1),by lia,rfl,uJ,h1,h3,h4⟩,fun y H' hy=>?_⟩
  obtain⟨rfl,ey⟩:=DH i H2 y H' s2 uJ hy
  simp only[Ct,if_true]
  refine step i y ys τ _ ey gt s2 h2 ly p2 (fun τ' v H4=>_) fun τ' v H3 gt' s3 p3=>⟨ys,s3 _ _ h2,?_,gt',?_,ys++[v],ae,by simp[ly],p3⟩
  ·have:zcz=2 ^ 24:=rfl
   lia
  ·intro b o e
   rw[aw (aj e hD)]
   exact s3 _ _ (s2 _ _ e)
 ·have e:i=xs.length:=by lia
  subst e
  exact .inl ⟨stop H2 s2,q ys H2 s2 h2 ly p2⟩
theorem Jv{K:k0}{ta:TA}{g:TG}{tb:TS}{D:Ends}{σ:St}{H:Hp} (h:∀U:Addr->Hp->Prop,(∀a H1,(∃W:Nat->Nat->St->Hp->Prop,(∃m,W 0 m σ H1)/\∀i m σ H,W i m σ H->
 ((NC K a).stop i H/\D.nx σ H)\/((NC K a).go i H/\∃N:St->Hp->Prop,(∀σ' H',N σ' H'->∃m',m'<m/\W (i+1) m' σ' H')/\∀x H',(NC K a).DH i H x H'->g x σ H' fun σ2 H2=>tb {D with nx:=N,ct:=N,bk:=D.nx} σ2 H2))->U a H1)->
 ta σ H fun vs H1=>∃a,vs=[.ref a]/\(∃xs,gS K H1 a xs)/\U a H1):G2 (ND K ta) g tb D σ H:=h _ fun _ _ x=>x
section
variable{prog:zcD}{w:World}{A:zcC}{E:Value->zcB->Prop}{s:zcB}{d:Addr}{es:Array DictEntry}{ep:Nat}
theorem Jw(hd:(d==sysModules)=false) :
 MeetsIn prog w (Builtin.«dict.__len__» ⟨[.ref d],[]⟩) (fun _ R s=>∃es ep,jF s.heap d es ep/\R (.ok (.ret (.int es.size s.toks))) {s with toks:=s.toks+1}):=by
 refine .of_wp fun A R s hh=>?_
 obtain⟨es,ep,⟨o,g,_,WZ⟩,h⟩:=hh
 show wpAny _ _ (dictSize d >>= _) _ _ s
 unfold dictSize
 refine zcu (zcu (wpAny_dictEntries g WZ (zcv ?_)))
 show wpAny _ _ (Builtin.Dict.pendingCount d >>= _) _ _ s
 refine zcu (wpAny_pendingCount_other hd (wpAny_ret_mkInt ?_))
 rw[Nat.add_zero]
 exact h
theorem Mw{Q:Value->zcB->Prop}(hd:(d==sysModules)=false)(x:jF s.heap d es ep)(abM:(es.size:Int)<2 ^ 63)(h:Q (.int es.size (s.toks+1)) {s with toks:=s.toks+1+1}):wpAny (model prog w) A (call (.builtin "len") [.ref d]) Q E s:=by
 refine Calls.call_function_entry kind_len plain_len entry_len (args_len1 _) ?_
 unfold Builtin.«len»
 refine zcu (m:=oneArg "len" _) (zcv ?_)
 refine zcu (m:=callSpecial? (.ref d) (v9 "__len__")) (wpAny_callSpecial?_slot (name:=v9 "__len__") x.ty F.slot_dict_len
  (call_meetsIn F.slot_dict_len x.ty F.entry_dict_len (F.args_dict_len_1 _) (Jw hd) ⟨es,ep,x,?_⟩))
 show wpAny _ _ _ _ _ {s with toks:=s.toks+1}
 refine zcu (zcw (zcv (zcu (wpAny_letGo ?_))))
 show wpAny _ _ (if ((es.size:Nat):Int)<0 then _ else _) _ _ _
 rw[if_neg (by first|decide|omega)]
 show wpAny _ _ (if ((es.size:Nat):Int) ≥ 2 ^ 63 then _ else _) _ _ _
 rw[if_neg (by first|decide|omega)]
 exact zcu (wpAny_mkInt (zcv ⟨_,rfl,h⟩))
end
section
variable{κ:Type}[DecidableEq κ]{J:KH κ}{X:Cx}
theorem Gd:lq X (.builtin "len") (fun xs H Q=>∃(a:Addr) (aG:List (κ×V)),xs=[.ref a]/\DS J X.prog X.w X.K H a aG/\Q (.int aG.length) H):=by
 intro pins s σ H xs us Q I r h
 obtain⟨a,aG,rfl,⟨z,sy,ks,e,rel,nd⟩,q⟩:=h
 obtain⟨u,rfl,ru⟩:=vals1 r
 cases (show u=Value.ref a from ru)
 obtain⟨o,es,ep,h1,h2,h3,h4,_,_⟩:=EK I e rel nd
 have le:es.size=aG.length:=by rw[<- zaX,h4,Zb,Paired.length rel]
 have line:zcz=2 ^ 24:=rfl
 exact Mw sy (⟨o,h1,h2,h3⟩:jF s.heap a es ep) (by rw[le];omega) ⟨.int aG.length,H,I.tok _,⟨_,by rw[le]⟩,q⟩
end
open PySem.Spec
noncomputable def Bv (CX:ve) (P:zcD) (w:World) (K:k0) (mg:Str->Option Value) (base:Heap) (N:List Str) (qual:Str) (scope:Scope) (f:Addr) (cd:Value) (cl:List (Str×Addr)) (A:zcC) (outer:List Env) (s:zcB) (H:Hp) (E:XK):Cx where
 prog:=P
 w:=w
 K:=K
 mg:=mg
 base:=base
 A:=A.deeper (zbJ qual scope s.heap.objs.size f cd cl)
 N:=N
 s₀:=s
 H₀:=H
 env:=zbJ qual scope s.heap.objs.size f cd cl
 outer:=outer
 stack:=zbJ qual scope s.heap.objs.size f cd cl::outer
 ex:=[]
 calm:=true
 fn:=fun _=>false
 pn:=[]
 xe:=fun e s'=>wpAny (model P w) (A.deeper (zbJ qual scope s.heap.objs.size f cd cl)) (leaving (zbJ qual scope s.heap.objs.size f cd cl) e) (fun _ Fn=>CX outer H s E e Fn) (fun e' Fn=>CX outer H s E e' Fn) s'
structure rS(x y:Str)(sc:Scope):Prop where
 kind:sc.kind=.function
 co:sc.isCoroutine=false
 gen:sc.isGenerator=false
 px:sc.names.lookup x=some .local
 py:sc.names.lookup y=some .free
 only:∀z,(sc.names.lookup z=some .cell\/sc.names.lookup z=some .free)->z=y
 PU:∀z∈sc.names,z.2≠.cell
theorem Mx{CX:ve}{P:zcD}{w:World}{K:k0}{mg:Str->Option Value}{base:Heap}{x y:Str}{qual:Str}{scope:Scope}{f cc:Addr}{cd:Value}{A:zcC}{outer:List Env}{s:zcB}{H:Hp}{E:XK}{u uc:Value}{v vc:V}{h1:Heap}{tk:Nat}
 (S:rS x y scope) (hd:A.handled=none) (e0:me P w K mg base A outer s H) (rv:RelV v u) (xc:H cc=none) (ua:s.heap.IsCell cc (some uc)) (rc:RelV vc uc)
 (Ho:h1.Ns s.heap.objs.size fun z=>za4 z [(x,u)].reverse) (hk:∀b o,s.heap.get? b=some o->h1.get? b=some o) :
 Inv (Bv CX P w K mg base [x,y] qual scope f cd [(y,cc)] A outer s H E) [] [some v,some vc] H {s with heap:=h1,toks:=tk}:=by
 have Lo:∀b:Addr,b ∉ (Bv CX P w K mg base [x,y] qual scope f cd [(y,cc)] A outer s H E).ex:=fun b z=>absurd (show b∈([]:List Addr) from z) (by simp)
 have lk:∀z c,za4 z [(y,cc)]=some c->z=y/\c=cc:=fun z c e=>by
  rw[zaF] at e
  cases hb:z==y with
  |true=>rw[hb] at e;cases e;exact⟨eq_of_beq hb,rfl⟩
  |false=>rw[hb] at e;cases e
 have Zp:za4 y [(y,cc)]=some cc:=by rw[zaF,beq_self_eq_true]
 have Jx:h1.IsCell cc (some uc):=by obtain⟨o,ho,q⟩:=ua;exact⟨o,hk _ _ ho,q⟩
 refine⟨⟨e0.mod,S.kind,rfl,rfl,Wr _,fun a b c h1 h2=>?_,fun z hz=>?_,fun z c hf _=>?_,fun _=>hd,Around.frames_deeper e0.frames,.inr ⟨rfl,rfl⟩,fun b z=>absurd z (Lo b),e0.bs,e0.yM,fun b _ _=>Lo b,fun b z=>absurd z (Lo b),e0.nL,e0.GL⟩,
  rfl,e0.bare,Un.kept hk,⟨_,Ho,fun i z v' h1 h2 h3=>?_⟩,fun z c h=>?_,e0.cS.fresh (Wr _),fun z c h=>?_,fun p hp=>absurd (show p∈([]:List (Addr×Obj)) from hp) (by simp),e0.cS.kept hk,rfl⟩
 ·exact(lk a c h1).1.trans (lk b c h2).1.symm
 ·have hz:scope.names.lookup z=some .cell\/scope.names.lookup z=some .free:=hz
  rw[S.only z hz]
  exact⟨cc,Zp⟩
 ·cases hf
 ·rcases i with _ |_ |i
  ·cases h1
   cases h2
   refine⟨u,rv,.inl ⟨S.px,?_⟩⟩
   show za4 x [(x,u)].reverse=some u
   rw[List.reverse_singleton,zaF,beq_self_eq_true]
  ·cases h1
   cases h2
   exact⟨uc,rc,.inr ⟨.inr S.py,cc,Zp,Jx⟩⟩
  ·cases h1
 ·rw[(lk z c h).2]
  exact⟨_,Jx⟩
 ·rw[(lk z c h).2]
  exact xc
theorem My{CX:ve}{P:zcD}{w:World}{K:k0}{mg:Str->Option Value}{base:Heap}{k:Nat}{x y:Str}{name qual:Str}{params:Arguments}{body:Expr}{scope:Scope}{fo cc c':Addr}{pm uq:Value}{A:zcC}{outer:List Env}{s:zcB}{H:Hp}{E:XK}{Q:VK}{u uc:Value}{v vc:V}
 (S:rS x y scope) (hr:gg (k+1) A) (e0:me P w K mg base A outer s H) (S2:s.heap.get? fo=some (zbv name qual params body scope [(y,cc)] pm c' uq)) (hcr:s.heap.CodeRec (.ref c') qual)
 (xc:H cc=none) (ua:s.heap.IsCell cc (some uc)) (rc:RelV vc uc) (rv:RelV v u) (rn:bindArgs (PySem.W.kla_fn name qual params body scope [(y,cc)] pm (.ref c') uq) ⟨[u],[]⟩=pure [(x,u)])
 {t:TE} (ht:PE (Bv CX P w K mg base [x,y] qual scope fo (.ref c') [(y,cc)] A outer s H E) body t) (hq:t [some v,some vc] H Q) :
 codeAny (model P w) A (.call (.ref fo) ⟨[u],[]⟩) (CR CX outer P w H s Q E) s:=by
 have lim:s.heap.NoLimit:=e0.mod.nolimit.keeps fun b o e=>(e0.bs b o e).1
 refine PySem.W.kla_callFunE hr.depth S2 rfl S.co S.gen rfl hcr ?_
 rw[rn]
 refine zcv (wpAny_newFunctionEnv S.PU (fun z hz=>?_) (fun h1 Ho Wm=>?_) S.kind)
 ·rw[zac.mp hz]
  exact S.px
 have hk:∀b o,s.heap.get? b=some o->h1.get? b=some o:=fun b o e=>Wm.extBut b o (zam (Heap.lt_size e)) (Heap.get?_push_of_some _ e)
 refine⟨lim.keeps hk,?_⟩
 show codeAny _ _ (.expr body (zbJ qual scope s.heap.objs.size fo (.ref c') [(y,cc)])) _ _
 refine PySem.W.kla_codeExpr (wpAny_mono (ht [] _ _ _ Q (Mx S hr.hd e0 rv xc ua rc Ho hk) hq) (fun u' s' h=>?_) fun e s' z=>z)
 obtain⟨v',H',J,rv',q'⟩:=h
 exact⟨v',H',J.os,J.bare,J.base,J.cS,rv',q'⟩
noncomputable def jt (a:Addr) (o:Obj):HO:=.ext fun h=>h.get? a=some o
noncomputable def wo (H:Hp) (a:Addr):Hp:=fun b=>if b=a then none else H b
theorem i9{H:Hp}{a:Addr}:wo H a a=none:=if_pos rfl
theorem eW{H:Hp}{a b:Addr}(h:b≠a):wo H a b=H b:=if_neg h
section
variable{P:zcD}{w:World}{H:Hp}{h:Heap}{a:Addr}{o:Obj}
theorem jt.get(x:l5 P w H h)(e:H a=some (jt a o)):h.get? a=some o:=(x a _ e).1
theorem jt.ok{H':Hp}(e:h.get? a=some o):dg P w H' h a (jt a o):=⟨e,⟨o,e⟩,fun _ _ p k=>k _ p⟩
theorem l5.add(x:l5 P w H h)(hn:H a=none)(e:h.get? a=some o):l5 P w (upd H a (jt a o)) h:=fun b u q=>by
 by_cases hb:b=a
 ·subst hb
  rw[ae] at q
  cases q
  exact jt.ok e
 ·rw[aw hb] at q
  exact(x b u q).ju (fun c v _ r=>r) (fun c r=>by rw[aw (aj r hn)];exact r) fun c xs r=>by rw[aw (aj r hn)];exact r
theorem l5.wo(x:l5 P w H h)(ha:H a=some (jt a o)):l5 P w (wo H a) h:=fun b u q=>by
 by_cases hb:b=a
 ·subst hb
  rw[i9] at q
  cases q
 ·rw[eW hb] at q
  refine(x b u q).ju (fun c v _ r=>r) (fun c r=>?_) fun c xs r=>?_
  ·rw[eW (bR r ha (by intro z;cases z))];exact r
  ·rw[eW (bR r ha (by intro z;cases z))];exact r
end
def NQ (y name qual:Str) (params:Arguments) (body:Expr) (scope:Scope) (H:Hp) (fo cc:Addr) (lP:Obj) (vc:V):Prop:=
 ∃(c':Addr) (pm uq uc:Value) (oc:Obj) (vs:Array Value) (tk:Nat),H fo=some (jt fo (zbv name qual params body scope [(y,cc)] pm c' uq))/\H c'=some (jt c' oc)/\oc.data=.fields vs/\vs[1]?=some (.str qual tk)/\
  H cc=some (jt cc lP)/\lP.data=.cell (some uc)/\RelV vc uc
def PV (y name qual:Str) (params:Arguments) (body:Expr) (scope:Scope) (tb tf:TE) (ta:TA):TE:=fun σ H Q=>tf σ H fun f H1=>ta σ H1 fun vs H2=>∃(a:V) (fo cc:Addr) (lP:Obj) (vc:V),vs=[a]/\f=.ref fo/\NQ y name qual params body scope H2 fo cc lP vc/\
 tb [some a,some vc] (wo H2 cc) fun v H3=>H3 cc=none->Q v (upd H3 cc (jt cc lP))
theorem me.wo{P:zcD}{w:World}{K:k0}{mg:Str->Option Value}{base:Heap}{A:zcC}{outer:List Env}{s:zcB}{H:Hp}{a:Addr}{o:Obj}(e:me P w K mg base A outer s H)(ha:H a=some (jt a o)):me P w K mg base A outer s (L2.wo H a):=
 ⟨e.frames,e.mod,fun b o hb=>⟨(e.bs b o hb).1,by unfold L2.wo;rw[(e.bs b o hb).2];split<;>rfl⟩,e.yM,e.nL,fun b hb=>by unfold L2.wo;rw[e.GL b hb];split<;>rfl,e.cS.wo ha,e.bare⟩
theorem CE.back{outer:List Env}{P:zcD}{w:World}{H:Hp}{s s':zcB}{Q:VK}{u:Value}{a:Addr}{o:Obj}(cS:l5 P w H s.heap)(ha:H a=some (jt a o))(hf:a ∉ dG outer)(h:CE outer P w (wo H a) s (fun v H3=>H3 a=none->Q v (upd H3 a (jt a o))) u s'):CE outer P w H s Q u s':=by
 obtain⟨v,H3,os,bare,un,Mz,rv,q⟩:=h
 have g0:=jt.get cS ha
 have n3:H3 a=none:=un.free a o g0 i9 (by simp)
 have g1:=un.keep a o g0 i9 hf (by simp)
 have nb:∀ {b:Addr},H b=none->b≠a:=fun {b} n z=>by rw[z,ha] at n;cases n
 refine⟨v,upd H3 a (jt a o),os,bare,⟨fun b ob e n hb hx=>un.keep b ob e (by rw[eW (nb n)];exact n) hb hx,fun b ob e n hb hx=>un.slot b ob e (by rw[eW (nb n)];exact n) hb hx,fun b ob e n hx=>?_,un.there,fun b xs e=>?_,fun b ob x e=>?_,fun b ps e=>?_⟩,Mz.add n3 g1,rv,q n3⟩
 ·rw[aw (nb n)]
  exact un.free b ob e (by rw[eW (nb n)];exact n) hx
 ·have ne:=bR e ha (by intro z;cases z)
  rw[aw ne]
  exact un.qw b xs (by rw[eW ne];exact e)
 ·have ne:=bR e ha (by intro z;cases z)
  rw[aw ne]
  exact un.nJ b ob x (by rw[eW ne];exact e)
 ·have ne:=bR e ha (by intro z;cases z)
  rw[aw ne]
  exact un.pS b ps (by rw[eW ne];exact e)
theorem C7{M:Model}{A:zcC}{E:Value->zcB->Prop}{s:zcB}{env:Env}{pos:Pos}{f:Value}{first:List Value}{Q:Value->zcB->Prop}{P:Heap->Prop}{e:Expr}{rest:List Expr}
 (hk:∀h,P h->∃k,(k=Keeper.frame\/k=Keeper.machine\/k=Keeper.boundFrame)/\PySem.W.Looks M h (keeperOf f) k) (h:wpAny M A (spliced (backTo pos (zcx (e::rest) env))) (fun vs s₁=>P s₁.heap/\wpAny M A (call f (first++vs)) Q E s₁) E s)
 (he:zcx (e::rest) env=(false,eval e env)::zcx rest env) (BX:(backTo pos (zcx rest env)).any (·.1)=false):wpAny M A (callWith pos f first (backTo pos (zcx (e::rest) env)) []) Q E s:=by
 rw[he] at h ⊢
 exact PySem.W.callWith_of (by show ((false ||(backTo pos (zcx rest env)).any (·.1)) ||false)=false;rw[BX];rfl) hk (Calls.evalArgs_plain h)
theorem Jy{X:Cx}{x y z name qual:Str}{params:Arguments}{body e:Expr}{scope:Scope}{tb tf:TE}{ta:TA}{p pos:Pos}{k:Nat}{CX:ve}{E:XK}(hr:gg (k+1) X.A)(S:rS x y scope)(hf:PE X (.Name z p) tf)(ha:PA X [e] ta)(LA:∀pins σ (H:Hp) (s:zcB) e s' a o,Inv X pins σ H s->H a=some (jt a o)->CX X.stack (wo H a) s E e s'->X.xe e s')
 (rn:∀(u:Value) (cc c':Addr) (pm uq:Value),bindArgs (PySem.W.kla_fn name qual params body scope [(y,cc)] pm (.ref c') uq) ⟨[u],[]⟩=pure [(x,u)])
 (hb:∀(fo cc c':Addr) (s:zcB) (H:Hp),PE (Bv CX X.prog X.w X.K X.mg X.base [x,y] qual scope fo (.ref c') [(y,cc)] X.A X.stack s H E) body tb)
 (he:zcx [e] X.env=(false,eval e X.env)::zcx [] X.env:=by rfl) (BX:(backTo pos (zcx [] X.env)).any (·.1)=false:=by rfl) :
 PE X (.Call (.Name z p) [e] [] pos) (PV y name qual params body scope tb tf ta):=by
 intro pins s σ H Q I h
 refine wpAny_Call_Name_kw (fK (hf pins s σ H _ I h) fun u0 s1 zqz=>?_)
 obtain⟨f,H1,I1,rf,h1⟩:=zqz
 refine C7 (P:=fun h=>∃fo cc c' pm uq,u0=.ref fo/\h.get? fo=some (zbv name qual params body scope [(y,cc)] pm c' uq)) (fun h ⟨fo,cc,c',pm,uq,eu,hg⟩=>?_) ?_ he BX
 ·subst eu
  exact⟨.frame,.inl rfl,(PySem.W.Looks.ld (part:=none) hg).andThen .now⟩
 ·refine fK (ha pos pins s1 σ H1 _ I1 h1) fun us s2 zqz=>?_
  obtain⟨vs,H2,I2,r,a,fo,cc,lP,vc,ev,ef,la,hq⟩:=zqz
  subst ev ef
  obtain⟨u,rfl,ru⟩:=r.one
  obtain rfl:u0=Value.ref fo:=rf
  obtain⟨c',pm,uq,uc,oc,ovs,tk,g1,g2,d2,q2,g3,d3,rc⟩:=la
  have e1:=jt.get I2.cS g1
  have e2:=jt.get I2.cS g2
  have e3:=jt.get I2.cS g3
  refine⟨⟨fo,cc,c',pm,uq,rfl,e1⟩,?_⟩
  have W0:cc ∉ dG X.stack:=fun hb=>by rw[I2.yN cc hb] at g3;cases g3
  refine wpAny_call (codeAny_mono (My (CX:=CX) (E:=E) S hr (I2.Ll.wo g3) e1 ⟨c',oc,ovs,tk,rfl,e2,d2,q2⟩ i9 ⟨lP,e3,d3⟩ rc ru (rn u cc c' pm uq) (hb fo cc c' s2 (wo H2 cc)) hq) fun r s' wu=>?_)
  cases r with
  |error e=>exact LA pins σ H2 s2 e s' cc lP I2 g3 wu
  |ok fl=>
   cases fl with
   |ret u'=>exact I2.after (CE.back I2.cS g3 W0 wu)
   |next=>exact False.elim wu
   |brk=>exact False.elim wu
   |cont=>exact False.elim wu
def TabOk (qual:Str) (lp:Pos) (H:Hp) (ps:Array Value):Prop:=
 ps = #[]\/∃(c':Addr) (oc:Obj) (vs:Array Value) (tk:Nat),ps = #[rawInt lp.line,rawInt lp.col,.ref c']/\H c'=some (jt c' oc)/\oc.data=.fields vs/\vs[1]?=some (.str qual tk)
structure jP(K:k0)(mg:Str->Option Value)(base:Heap)(c P:Addr):Prop where
 hd:PySem.W.CodeHd base c P
 bm:∃bm o,mg "__builtins__"=some (.ref bm)/\bm≠builtinsNs/\bm≠zcy/\base.get? bm=some o/\o.cls=.type "module"/\o.dict=some builtinsNs/\o.data=.plain
def W2 (cy:Addr->Prop) (P:Addr) (y qual:Str) (params:Arguments) (body:Expr) (scope:Scope) (lp:Pos):TE:=fun _ H Q=>∃ps,H P=some (.t9 ps)/\TabOk qual lp H ps/\
 ∀(fo cc c':Addr) (pm uq:Value) (oc:Obj) (vs Ge:Array Value) (tk:Nat) (H':Hp),cy cc->H fo=none->(∀b o,b≠P->H b=some o->H' b=some o)->(∀b,H' b≠none->H b≠none\/b=fo\/b=c')->
  H' fo=some (jt fo (zbv "<lambda>" qual params body scope [(y,cc)] pm c' uq))->H' c'=some (jt c' oc)->oc.data=.fields vs->vs[1]?=some (.str qual tk)->H' P=some (.t9 Ge)->TabOk qual lp H' Ge->Q (.ref fo) H'
noncomputable def fY (H:Hp) (P:Addr) (ps:Array Value) (c':Addr) (oc:Obj) (fo:Addr) (ob:Obj):Hp:=upd (upd (upd H P (.t9 ps)) c' (jt c' oc)) fo (jt fo ob)
section
variable{H:Hp}{P:Addr}{ps:Array Value}{c':Addr}{oc:Obj}{fo:Addr}{ob:Obj}
theorem fY.keep(hF:H fo=none)(hc:H c'=some (jt c' oc)\/H c'=none){b:Addr}{o:HO}(n:b≠P)(e:H b=some o):fY H P ps c' oc fo ob b=some o:=by
 unfold fY
 rw[aw (aj e hF)]
 by_cases z:b=c'
 ·subst z
  rcases hc with q |q
  ·rw[ae,<- q,e]
  ·rw[q] at e;cases e
 ·rw[aw z,aw n,e]
theorem fY.back(hP:H P≠none){b:Addr}(n:fY H P ps c' oc fo ob b≠none):H b≠none\/b=fo\/b=c':=by
 by_cases z1:b=fo
 ·exact .inr (.inl z1)
 ·by_cases z2:b=c'
  ·exact .inr (.inr z2)
  ·by_cases z3:b=P
   ·rw[z3];exact .inl hP
   ·unfold fY at n
    rw[aw z1,aw z2,aw z3] at n
    exact .inl n
theorem fY.Zq:fY H P ps c' oc fo ob fo=some (jt fo ob):=ae
theorem fY.c_(n:c'≠fo):fY H P ps c' oc fo ob c'=some (jt c' oc):=by unfold fY;rw[aw n,ae]
theorem fY.P_(n1:P≠fo)(n2:P≠c'):fY H P ps c' oc fo ob P=some (.t9 ps):=by unfold fY;rw[aw n1,aw n2,ae]
end
theorem Inv.lam{X:Cx}{pins:List (Addr×Obj)}{σ:St}{H:Hp}{s:zcB}{P fo c':Addr}{ps more:Array Value}{h1:Heap}{oc ob:Obj}{tk:Nat}(I:Inv X pins σ H s)(hP:H P=some (.t9 ps))(hx:Heap.ExtBut P s.heap h1)(gP:h1.get? P=some (PySem.W.tabObj (ps++more)))
 (S2:s.heap.objs.size<=fo) (hc:H c'=some (jt c' oc)\/s.heap.objs.size<=c') (nf:c'≠fo) (gc:h1.get? c'=some oc) (gf:h1.get? fo=some ob):Inv X pins σ (fY H P (ps++more) c' oc fo ob) {s with heap:=h1,toks:=tk}:=by
 have nP:∀ {b:Addr},H b=none->b≠P:=fun {b} n z=>by rw[z,hP] at n;cases n
 have hF:H fo=none:=I.cS.fresh S2
 have cP:c'≠P:=fun z=>by
  rcases hc with e |e
  ·rw[z,hP] at e;cases e
  ·have:=I.cS.fresh e;rw[z,hP] at this;cases this
 have fP:fo≠P:=nP hF
 have UK:∀ {b:Addr},b≠fo->b≠c'->b≠P->fY H P (ps++more) c' oc fo ob b=H b:=fun n1 n2 n3=>by
  unfold fY
  rw[aw n1,aw n2,aw n3]
 have EN:∀ {b:Addr} {u:HO},H b=some u->(∀Ge,u≠.t9 Ge)->fY H P (ps++more) c' oc fo ob b=some u:=fun {b u} e nt=>by
  have n1:b≠fo:=aj e hF
  have n3:b≠P:=fun z=>by rw[z,hP] at e;cases e;exact nt _ rfl
  by_cases n2:b=c'
  ·subst n2
   rcases hc with z |z
   ·rw[e] at z
    cases z
    unfold fY
    rw[aw n1,ae]
   ·rw[I.cS.fresh z] at e;cases e
  ·rw[UK n1 n2 n3];exact e
 have S3:∀ {b:Addr} {o:Obj},s.heap.get? b=some o->H b=none->fY H P (ps++more) c' oc fo ob b=none:=fun {b o} e n=>by
  have lt:=Heap.lt_size e
  have n1:b≠fo:=fun z=>by rw[z] at lt;exact absurd (zaj lt S2) (zaE _)
  have n2:b≠c':=fun z=>by
   rcases hc with q |q
   ·rw[z,q] at n;cases n
   ·rw[z] at lt;exact absurd (zaj lt q) (zaE _)
  rw[UK n1 n2 (nP n)]
  exact n
 refine I.call (g':=s.gens) (d':=s.drawn) (t':=tk) (ch:=[]) ⟨fun b o e n _ _=>hx b o (nP n) e,fun b o e n _ _=>⟨o.slots,hx b o (nP n) e⟩,fun b o e n _=>S3 e n,fun b o e _=>?_,fun b xs e=>EN e (fun _ z=>by cases z),fun b o u e=>EN e (fun _ z=>by cases z),fun b Ge e=>?_⟩ (fun b u q=>?_) I.bare (fun b z=>absurd z (by simp))
 ·by_cases z:b=P
  ·exact⟨_,by rw[z];exact gP⟩
  ·exact⟨o,hx b o z e⟩
 ·by_cases z:b=P
  ·subst z
   rw[hP] at e
   cases e
   refine⟨more,?_⟩
   unfold fY
   rw[aw fP.symm,aw cP.symm,ae]
  ·refine⟨#[],?_⟩
   have n1:b≠fo:=aj e hF
   have n2:b≠c':=fun y=>by
    rcases hc with q |q
    ·rw[y,q] at e;cases e
    ·rw[y,I.cS.fresh q] at e;cases e
   rw[UK n1 n2 z,e]
   simp
 ·by_cases z1:b=fo
  ·subst z1
   unfold fY at q
   rw[ae] at q
   cases q
   exact jt.ok gf
  ·by_cases z2:b=c'
   ·subst z2
    unfold fY at q
    rw[aw z1,ae] at q
    cases q
    exact jt.ok gc
   ·by_cases z3:b=P
    ·subst z3
     unfold fY at q
     rw[aw z1,aw z2,ae] at q
     cases q
     exact gP
    ·rw[UK z1 z2 z3] at q
     refine(I.cS b u q).ju (fun c v hcv r=>hx c v ?_ r) (fun c r=>EN r (fun _ z=>by cases z)) fun c xs r=>EN r (fun _ z=>by cases z)
     rcases hcv with rfl |r2
     ·exact z3
     ·intro z
      rw[z,hP] at r2
      cases r2
theorem PX{X:Cx}{c P:Addr}{y qual:Str}{params:Arguments}{body:Expr}{scope:Scope}{lp:Pos}(B:jP X.K X.mg X.base c P)(NR:X.env.code=.ref c)(hq:X.env.qual ++ "<lambda>"=qual)
 (hcy:∃cc,X.env.cells.lookup y=some cc/\closureFor scope X.env=pure [(y,cc)]) (W4:defaultsOf params X.env=([],[])) :
 PE X (.Lambda params body scope lp) (W2 (fun cc=>X.env.cells.lookup y=some cc) P y qual params body scope lp):=by
 intro pins s σ H Q I h
 obtain⟨ps,hP,tok,q⟩:=h
 obtain⟨cc,PY,Q4⟩:=hcy
 have gP:s.heap.get? P=some (PySem.W.tabObj ps):=I.cS P _ hP
 have hgP:zcy≠P:=fun z=>by
  obtain⟨o,es,ep,e,_⟩:=I.mod.glob
  have:=(I.bs _ _ e).2
  rw[z,hP] at this
  cases this
 have hb:s.heap.BuiltinsAt X.mg P:=by
  obtain⟨bm,o,e1,e2,e3,e4,r⟩:=B.bm
  have nbP:bm≠P:=fun z=>by
   have:=(I.bs _ _ e4).2
   rw[z,hP] at this
   cases this
  exact⟨bm,o,e1,e2,e3,nbP,(I.bs _ _ e4).1,r⟩
 have C:PySem.W.CodeHd s.heap c P:=B.hd.keeps I.bk
 have Zr:TriplesOk ps.toList:=by
  rcases tok with rfl |⟨c',oc,vs,tk,rfl,_⟩
  ·trivial
  ·exact trivial
 have nP:∀ {b:Addr},H b=none->b≠P:=fun {b} n z=>by rw[z,hP] at n;cases n
 refine PySem.W.kla_eval W4 ?_
 rw[hq]
 rcases tok with rfl |⟨c',oc,vs,tk,rfl,hc,d1,d2⟩
 ·refine PySem.W.kla_makeFunction Q4 I.ok.glob (I.mod.glob.keeps I.bk) NR C gP Zr rfl hgP hb fun c' uq h' tk hx W5 uJ Jz htb=>?_
  obtain⟨c2,oc,vs,t2,e2,QY,d1,d2⟩:=Jz
  cases e2
  have ge:s.heap.objs.size<=h'.objs.size:=zb6 (zbt W5 uJ)
  have NS:H h'.objs.size=none:=I.cS.fresh ge
  have nc:H c'=none:=I.cS.fresh W5
  have PZ:c'≠h'.objs.size:=zam uJ
  have J:=I.lam (more:=#[rawInt lp.line,rawInt lp.col,.ref c']) (tk:=tk) hP (fun b o n e=>Heap.get?_push_of_some _ (hx b o n e)) (Heap.get?_push_of_some _ htb) ge (.inr W5) PZ (Heap.get?_push_of_some _ QY) (Heap.get?_push_size h' (o:=zbv "<lambda>" qual params body scope [(y,cc)] ((X.mg "__name__").getD .none) c' uq) rfl)
  exact⟨.ref h'.objs.size,_,J,rfl,q _ cc c' _ uq oc vs _ t2 _ PY NS (fun b o n e=>fY.keep NS (.inr nc) n e) (fun b n=>fY.back (by rw[hP];simp) n) fY.Zq (fY.c_ PZ) d1 d2 (fY.P_ (nP NS).symm (nP nc).symm) (.inr ⟨c',oc,vs,t2,by simp,fY.c_ PZ,d1,d2⟩)⟩
 ·refine PySem.W.kla_makeFunctionHit (cv:=.ref c') Q4 I.ok.glob (I.mod.glob.keeps I.bk) NR C gP Zr ?_ hb fun uq h' SM hk hsz=>?_
  ·exact codeAmong_snoc [] trivial rfl
  ·have NS:H h'.objs.size=none:=I.cS.fresh hsz
   have PZ:c'≠h'.objs.size:=aj hc NS
   have cP:c'≠P:=fun z=>by rw[z,hP] at hc;cases hc
   have J:=I.lam (more:=#[]) (tk:=SM) hP (fun b o n e=>Heap.get?_push_of_some _ (hk b o e)) (by simpa using Heap.get?_push_of_some _ (hk _ _ gP)) hsz (.inl hc) PZ (Heap.get?_push_of_some _ (hk _ _ (jt.get I.cS hc))) (Heap.get?_push_size h' (o:=zbv "<lambda>" qual params body scope [(y,cc)] ((X.mg "__name__").getD .none) c' uq) rfl)
   exact⟨.ref h'.objs.size,_,J,rfl,q _ cc c' _ uq oc vs _ tk _ PY NS (fun b o n e=>fY.keep NS (.inl hc) n e) (fun b n=>fY.back (by rw[hP];simp) n) fY.Zq (fY.c_ PZ) d1 d2 (fY.P_ (nP NS).symm cP.symm) (.inr ⟨c',oc,vs,tk,by simp,fY.c_ PZ,d1,d2⟩)⟩
theorem me.add{P:zcD}{w:World}{K:k0}{mg:Str->Option Value}{base:Heap}{A:zcC}{outer:List Env}{s:zcB}{H:Hp}{a:Addr}{o:Obj}(e:me P w K mg base A outer s H)(ha:H a=none)(hb:base.get? a=none)(hf:a ∉ dG outer)(g:s.heap.get? a=some o):me P w K mg base A outer s (upd H a (jt a o)):=
 ⟨e.frames,e.mod,fun b ob hB=>⟨(e.bs b ob hB).1,by rw[aw (fun z=>by rw[z,hb] at hB;cases hB)];exact(e.bs b ob hB).2⟩,e.yM,e.nL,fun b hB=>by rw[aw (fun z:b=a=>hf (by rw[<- z];exact hB))];exact e.GL b hB,e.cS.add ha g,e.bare⟩
theorem CE.out{outer:List Env}{P:zcD}{w:World}{H:Hp}{s s':zcB}{Q:VK}{u:Value}{a:Addr}{o:Obj}(ha:H a=none)(g:s.heap.get? a=some o)(h:CE outer P w (upd H a (jt a o)) s (fun v H3=>H3 a=some (jt a o)/\Q v (wo H3 a)) u s'):CE outer P w H s Q u s':=by
 obtain⟨v,H3,os,bare,un,Mz,rv,h3,q⟩:=h
 have g3:=jt.get Mz h3
 refine⟨v,wo H3 a,os,bare,⟨fun b ob e n hb hx=>?_,fun b ob e n hb hx=>?_,fun b ob e n hx=>?_,un.there,fun b xs e=>?_,fun b ob x e=>?_,fun b ps e=>?_⟩,Mz.wo h3,rv,q⟩
 ·by_cases z:b=a
  ·rw[z] at e ⊢
   rw[g] at e
   cases e
   exact g3
  ·exact un.keep b ob e (by rw[aw z];exact n) hb hx
 ·by_cases z:b=a
  ·rw[z] at e ⊢
   rw[g] at e
   cases e
   exact⟨o.slots,g3⟩
  ·exact un.slot b ob e (by rw[aw z];exact n) hb hx
 ·by_cases z:b=a
  ·rw[z];exact i9
  ·rw[eW z]
   exact un.free b ob e (by rw[aw z];exact n) hx
 ·have ne:b≠a:=aj e ha
  rw[eW ne]
  exact un.qw b xs (by rw[aw ne];exact e)
 ·have ne:b≠a:=aj e ha
  rw[eW ne]
  exact un.nJ b ob x (by rw[aw ne];exact e)
 ·have ne:b≠a:=aj e ha
  rw[eW ne]
  exact un.pS b ps (by rw[aw ne];exact e)
def JA (cy:Addr->Prop) (i:Nat) (sp:Sp) (E:XK) (t:TA):TE:=fun σ H Q=>t σ H fun vs H1=>∃vc,σ[i]?=some (some vc)/\∀(cc:Addr) (lP:Obj) (uc:Value),cy cc->H1 cc=none->lP.data=.cell (some uc)->RelV vc uc->
 sp vs (upd H1 cc (jt cc lP)) (fun v H2=>H2 cc=some (jt cc lP)/\Q v (wo H2 cc)) E
theorem JB{X:Cx}{CX:ve}{k i:Nat}{f:Addr}{fd:zcA}{ps:List Str}{sp:Sp}{E:XK}{x y:Str}{p pos:Pos}{e:Expr}{es:List Expr}{t:TA}(F:bN X.prog X.w X.K X.mg X.base CX k f fd ps sp)(hr:gg k X.A)(hg:Gl X x)(hm:X.mg x=some (.ref f))(hk:zbe X.K (.ref f)=true)(hb:Binds X.K fd ps [])
 (LA:∀pins σ (H:Hp) (s:zcB) e s' a o,Inv X pins σ H s->H a=none->s.heap.get? a=some o->CX X.stack (upd H a (jt a o)) s E e s'->X.xe e s')
 (ha:PA X (e::es) t) (hN:X.N[i]?=some y) (hy:X.env.scope.names.lookup y=some .cell) (Oy:X.fn y=true) (Lm:(x==("__debug__":Str))=false:=by decide) (he:zcx (e::es) X.env=(false,eval e X.env)::zcx es X.env:=by rfl) (BX:(backTo pos (zcx es X.env)).any (·.1)=false:=by rfl) :
 PE X (.Call (.Name x p) (e::es) [] pos) (JA (fun cc=>X.env.cells.lookup y=some cc) i sp E t):=by
 intro pins s σ H Q I h
 refine wpAny_Call_Name_kw (uZ I hg hm ?_ Lm)
 refine zcg (h₀:=X.base) I.ok.mod.Ry hk (fK (ha pos pins s σ H _ I h) fun us s1 ⟨vs,H1,I1,r,vc,hσ,q⟩=>⟨I1.uI,?_⟩) he BX
 obtain⟨m,hn,hl⟩:=I1.loc
 obtain⟨uc,rc,lk⟩:=hl i y vc hN hσ (.inr (.inl hy))
 rcases lk with ⟨Hv,_⟩ |⟨_,cc,PY,lP,W6,dcc⟩
 ·have Hv:X.env.scope.names.lookup y=some .local:=Hv
  rw[hy] at Hv
  cases Hv
 have NT:=I1.nu y cc PY
 have Lb:=I1.ok.Lb y cc Oy PY
 have bcc:X.base.get? cc=none:=Heap.get?_none_of_le (zan I1.ok.yM Lb)
 have W0:cc ∉ dG X.stack:=fun hb=>by
  rcases Zd.mp (I1.vt cc hb) with z |z
  ·exact I1.M7 y cc PY z
  ·obtain⟨_,o,ho,_⟩:=I1.ok.nL.mem z
   exact absurd (zaj (Heap.lt_size ho) Lb) (zaE _)
 have P0:=q cc lP uc PY NT dcc rc
 have hl':(us++[]).length=ps.length:=by rw[zab,<- r.length];exact F.len _ _ _ _ P0
 have vi:=hb s1 us I1.uI hl'
 rw[zab] at vi
 refine wpAny_call (codeAny_mono (F.run X.A X.stack s1 (upd H1 cc (jt cc lP)) ⟨us,[]⟩ us vs _ E hr (I1.Ll.add NT bcc W0 W6) vi r P0) fun r s' wu=>?_)
 cases r with
 |error e=>exact LA pins σ H1 s1 e s' cc lP I1 NT W6 wu
 |ok fl=>
  cases fl with
  |ret u'=>exact I1.after (CE.out NT W6 wu)
  |next=>exact False.elim wu
  |brk=>exact False.elim wu
  |cont=>exact False.elim wu
theorem Gf{P:zcD}{w:World}{K:k0}{mg mb:Str->Option Value}{CX:ve}{k:Nat}{fa a c Pt:Addr}{fd:zcA}{x:Str}{sp:Sp}{s₁:zcB}{vs:List Value}{ns:List Int}
 (KX:K.In s₁.heap) (Ho:s₁.heap.Ns zcy mg) (hb:s₁.heap.Ns builtinsNs mb) (Sa:∀x:Str,x≠"__name__"->mb x=bootBuiltins x) (O5:s₁.heap.NoLimit) (hg:s₁.gens = #[])
 (ha:s₁.heap.get? a=some {cls:=.type "list",data:=.seq vs.toArray}) (hi:IntsAre vs ns) (hl:ns.length<=zcz) (hr:gg k callerA) (hd:PySem.W.CodeHd s₁.heap c Pt) (JC:s₁.heap.get? Pt=some (PySem.W.tabObj #[])) (S4:K.lookup Pt=none)
 (W7:∃bm o,mg "__builtins__"=some (.ref bm)/\bm≠builtinsNs/\bm≠zcy/\s₁.heap.get? bm=some o/\o.cls=.type "module"/\o.dict=some builtinsNs/\o.data=.plain)
 (F:∀base:Heap,K.In base->base.Ns zcy mg->jP K mg base c Pt->bN P w K mg base CX k fa fd [x] sp) (rn:∀(s:zcB) (u:Value),BindsTo s fd ⟨[u],[]⟩ [(x,u)])
 (DT:∀H:Hp,gS K H a (ns.map V.int)->H Pt=some (.t9 #[])->sp [.ref a] H (fun v _=>v=.bl true) fun _ _ _=>False)
 (O6:∀H e s',CX [] H s₁ (fun _ _ _=>False) e s'->False) :
 codeAny (model P w) callerA (.call (.ref fa) ⟨[.ref a],[]⟩) (fun r s'=>r=.ok (.ret (.bool true))/\OldK s₁.heap s'.heap/\s'.os=s₁.os/\AllBare s'.gens) s₁:=by
 have rv:=sS hi
 have O7:=hi.length
 have UL:a≠Pt:=fun z=>by rw[z,JC] at ha;cases ha
 obtain⟨H,W8,W9,UM,hS,hK⟩:∃H:Hp,H Pt=some (.t9 #[])/\(H a=none\/H a=some (.Ay {cls:=.type "list",data:=.seq vs.toArray} (.lst (ns.map V.int))))/\(∀b,b≠Pt->b≠a->H b=none)/\gS K H a (ns.map V.int)/\(H a≠none->K.lookup a=none):=by
  cases hk:K.lookup a with
  |some o=>
   have e:=KX a o hk
   rw[ha] at e
   cases e
   exact⟨fun b=>if b=Pt then some (.t9 #[]) else none,if_pos rfl,.inl (if_neg UL),fun b n _=>if_neg n,.inr ⟨_,vs.toArray,_,hk,rfl,rfl,rfl,by rw[zaa,O7];exact hl,by simpa using rv⟩,fun z=>absurd (if_neg UL) z⟩
  |none=>exact⟨fun b=>if b=Pt then some (.t9 #[]) else if b=a then some (.Ay {cls:=.type "list",data:=.seq vs.toArray} (.lst (ns.map V.int))) else none,if_pos rfl,.inr ((if_neg UL).trans (if_pos rfl)),fun b n1 n2=>(if_neg n1).trans (if_neg n2),.inl (.inr ⟨_,(if_neg UL).trans (if_pos rfl)⟩),fun _=>rfl⟩
 have cS:l5 P w H s₁.heap:=fun b u q=>by
  by_cases z:b=Pt
  ·subst z
   rw[W8] at q
   cases q
   exact JC
  ·by_cases z2:b=a
   ·subst z2
    rcases W9 with e |e
    ·rw[e] at q;cases q
    ·rw[e] at q
     cases q
     exact⟨ha,by rw[Zb];exact hl,vs,_,rv,ha⟩
   ·rw[UM b z z2] at q;cases q
 have free:∀ {b:Addr} {o:Obj},s₁.heap.get? b=some o->(∀xs n,o.data≠.seq xs n)->(∀fs,o.data≠.fields fs\/o.cls≠.none)->H b=none:=fun {b o} e n1 n2=>by
  refine UM b (fun z=>?_) (fun z=>?_)
  ·rw[z,JC] at e
   cases e
   exact(n2 #[]).elim (fun q=>q rfl) fun q=>q rfl
  ·rw[z,ha] at e
   cases e
   exact n1 _ _ rfl
 have Ls:∀ {b:Addr} {m:Str->Option Value},s₁.heap.Ns b m->(qT s₁.heap H).Ns b m:=fun {b m} ⟨o,es,ep,e,d,r⟩=>⟨o,es,ep,nK e (free e (fun _ _ z=>by rw[d] at z;cases z) fun _=>.inl fun z=>by rw[d] at z;cases z),d,r⟩
 have Sb:K.In (qT s₁.heap H):=fun b o e=>nK (KX b o e) (by
  by_cases z:b=Pt
  ·rw[z,S4] at e;cases e
  ·by_cases z2:b=a
   ·rcases W9 with q |q
    ·rw[z2];exact q
    ·rw[z2,hK (by rw[q];simp)] at e;cases e
   ·exact UM b z z2)
 have hM:Mod K mg (qT s₁.heap H):=⟨Sb,Ls Ho,⟨mb,Ls hb,Sa⟩,let ⟨mc,h1,h2⟩:=O5;⟨mc,Ls h1,h2⟩⟩
 have e0:me P w K mg (qT s₁.heap H) callerA [] s₁ H:=⟨rfl,hM,fun b o e=>DE e,Nat.le_of_eq (xO _ _),trivial,fun b hb=>absurd (show b∈([]:List Addr) from hb) (by simp),cS,.of_eq hg⟩
 have hL:jP K mg (qT s₁.heap H) c Pt:=by
  refine⟨?_,?_⟩
  ·obtain⟨o,Xa,file,tf,flags,tg,Zs,text,tt,e1,r1,r2,r⟩:=hd
   exact⟨o,Xa,file,tf,flags,tg,Zs,text,tt,nK e1 (free e1 (fun _ _ z=>by rw[r2] at z;cases z) fun _=>.inr fun z=>by rw[r1] at z;cases z),r1,r2,r⟩
  ·obtain⟨bm,o,e1,e2,e3,e4,r1,r2,r3⟩:=W7
   exact⟨bm,o,e1,e2,e3,nK e4 (free e4 (fun _ _ z=>by rw[r3] at z;cases z) fun _=>.inl fun z=>by rw[r3] at z;cases z),r1,r2,r3⟩
 refine codeAny_mono ((F _ Sb (Ls Ho) hL).run callerA [] s₁ H ⟨[.ref a],[]⟩ [.ref a] [.ref a] _ _ hr e0 (rn s₁ (.ref a)) (.cons rfl .nil) (DT H hS W8)) fun r s' h=>?_
 cases r with
 |error e=>exact(O6 H e s' h).elim
 |ok fl=>
  cases fl with
  |next=>exact False.elim h
  |brk=>exact False.elim h
  |cont=>exact False.elim h
  |ret u=>
   obtain⟨v,H',os,bare,un,Lu,r',q⟩:=h
   have q':v=.bl true:=q
   subst q'
   obtain rfl:u=Value.bool true:=r'
   refine⟨rfl,⟨fun b o e=>?_,fun b o e=>un.there b o e (by simp)⟩,os,bare⟩
   by_cases z:b=Pt
   ·subst z
    rw[JC] at e
    cases e
    obtain⟨more,em⟩:=un.pS b _ W8
    have g':=Lu b _ em
    obtain⟨oc,Xa,file,tf,flags,tg,Zs,text,tt,e1,r1,r2,r3,_⟩:=hd
    exact .inr (.inl ⟨⟨c,oc,Xa,e1,r1,r2,r3⟩,rfl, #[],more,rfl,g'⟩)
   ·refine .inl ?_
    by_cases z2:b=a
    ·subst z2
     rcases W9 with n |n
     ·exact un.keep b o e n (by intro z;exact absurd (show b∈([]:List Addr) from z) (by simp)) (by simp)
     ·have z3:=un.nJ b _ _ n
      obtain⟨e2,_⟩:=Lu b _ z3
      rw[ha] at e
      cases e
      exact e2
    ·exact un.keep b o e (UM b z z2) (by intro z;exact absurd (show b∈([]:List Addr) from z) (by simp)) (by simp)
theorem JD{l:PySem.W.OpenLaw}{n k:Nat}{q:zcD}{loose:List Str}{XP:(Str->Option Value)->Heap->Prop}{YP:World->Heap->Prop}{d dF:DefRec}{K:Params->k0}{CX:World->ve}{sp:World->Sp}{x fn:Str}{c Pt:Addr}
 (hn:l.most=some n) (Lg:n<=zcz) (O0:d.params.defaults=[]) (hr:gg k callerA)
 (hY:∀(w:World) (h:Heap),YP w h->(K w.params).In h) (Jz:(recsOf q).find? (fun e=>e.name==fn)=some dF) (JE:∀w:World,zb0 (K w.params) fn=some (c,Pt)) (S4:∀w:World,(K w.params).lookup Pt=none)
 (F:∀(w:World) (mg:Str->Option Value) (fa:Addr) (h:Heap),(K w.params).In h->h.Ns zcy mg->mg d.name=some (.ref fa)->
  ∃fd:zcA,(∀(s:zcB) (u:Value),BindsTo s fd ⟨[u],[]⟩ [(x,u)])/\
   ∀base:Heap,(K w.params).In base->base.Ns zcy mg->jP (K w.params) mg base c Pt->bN l.prog w (K w.params) mg base (CX w) k fa fd [x] (sp w))
 (DT:∀(w:World) (H:Hp) (a:Addr) (ns:List Int),ns.length<=n->gS (K w.params) H a (ns.map V.int)->H Pt=some (.t9 #[])->sp w [.ref a] H (fun v _=>v=.bl true) fun _ _ _=>False)
 (O6:∀(w:World) (H:Hp) (s:zcB) (e:Value) (s':zcB),CX w [] H s (fun _ _ _=>False) e s'->False) :
 PySem.W.WalkO q loose XP YP l.row.toRowW d [] (fun f vs=>PySem.call f vs):=by
 refine R9.uf hn O0 fun w s₀ s₁ mg mb fa o pm cd doc a vs ns G Y ho hd DG O3 Hm hints hlen hg=>?_
 have KX:=hY w _ Y
 obtain⟨fd,hb,hF⟩:=F w mg fa _ KX G.T.g O3
 obtain⟨UI,hd2⟩:=PySem.W.tab_of G.T KX Jz (JE w)
 have W7:∃bm o,mg "__builtins__"=some (.ref bm)/\bm≠builtinsNs/\bm≠zcy/\s₁.heap.get? bm=some o/\o.cls=.type "module"/\o.dict=some builtinsNs/\o.data=.plain:=by
  obtain⟨bm,ob,b1,b2,b3,b4,b5,b6⟩:=G.T.bmain
  refine⟨bm,ob,b1,b2,fun z=>?_,b3,b4,b5,b6⟩
  obtain⟨o,es,ep,e,hd,_⟩:=G.T.g
  rw[z,e] at b3
  cases b3
  rw[hd] at b6
  cases b6
 exact Gf KX G.T.g G.T.b G.T.builtins G.T.nolimit hg Hm hints (zan hlen Lg) hr UI hd2 (S4 w) W7 hF hb (fun H hS hP=>DT w H a ns hlen hS hP) fun H e s'=>O6 w H s₁ e s'
def wx (K:k0) (f c:Addr):Prop:=∀oc od fd DR,K.lookup f=some ⟨oc,od,.func fd,DR⟩->fd.code=.ref c
theorem JF{K:k0}{x:Str}{f c P:Addr}(h:zb0 K x=some (c,P))(hn:zau K zcy x=some (some (.ref f))):wx K f c:=by
 intro oc od fd DR hl
 unfold zb0 at h
 rw[hn] at h
 simp only[hl] at h
 split at h
 ·rename_i c2 hc
  split at h
  ·split at h
   ·cases h
    exact hc
   ·cases h
  ·cases h
 ·cases h
section
variable{P:zcD}{w:World}{K:k0}{mg:Str->Option Value}{base:Heap}
theorem Gz.okC{x qual:Str}{st:Stmt}{f c:Addr}{fd:zcA}{N ps:List Str}{k:Nat}{sp:Sp}(F:Gz K x qual st f fd)(S:bg N ps (aN st))(hc:wx K f c)(len:∀vs H Q E,sp vs H Q E->vs.length=ps.length)
 (qY:∀(A:zcC) (outer:List Env) (s:zcB) (H:Hp) (vs:List V) (Q:VK) (E:XK),gg k (A.deeper (envOfC qual (aN st) s.heap.objs.size f (.ref c)))->sp vs H Q E->
  ∃t σ,B5 (mf dU P w K mg base N qual (aN st) f (.ref c) A outer s H E).B6 (hJ st) t/\start N vs=σ/\t {nx:=fun _ H'=>Q .cD H',rt:=Q} σ H):bN P w K mg base dU (k+1) f fd ps sp:=by
 obtain⟨oc,od,kV,doc,pm,an,fc,ct,DR,rfl,lk,DG⟩:=F.ex
 have e:fc=.ref c:=hc _ _ _ _ lk
 subst e
 refine Nj lk DG S len fun A outer s H vs Q E hr DT=>?_
 obtain⟨t,σ,h,e,q⟩:=qY A outer s H vs Q E hr DT
 subst e
 exact⟨t,h.B6,q⟩
end
noncomputable def jG (st:Stmt):Expr:=match hJ st with
 |[.Return (some (.Call _ [_,l] _ _)) _]=>l
 |_=>.Constant .none 0 ⟨0,0,0,0⟩
noncomputable def C8:Expr->Arguments
 |.Lambda p _ _ _=>p
 |_=>{posonlyargs:=[],args:=[],vararg:=none,kwonlyargs:=[],kw_defaults:=[],kwarg:=none,defaults:=[]}
noncomputable def vj:Expr->Expr
 |.Lambda _ b _ _=>b
 |e=>e
noncomputable def lQ:Expr->Scope
 |.Lambda _ _ s _=>s
 |_=>{kind:=.function,names:=[],isGenerator:=false,isCoroutine:=false}
noncomputable def C9:Expr->Pos
 |.Lambda _ _ _ p=>p
 |_=>⟨0,0,0,0⟩
def Gg (y qual:Str) (l:Expr) (H:Hp) (fo cc:Addr) (lP:Obj) (vc:V):Prop:=NQ y "<lambda>" qual (C8 l) (vj l) (lQ l) H fo cc lP vc
noncomputable def c5 (pr:PG.Prog) (s:PG.cg):List PG.cg:=if s.1=0 then [] else if cZ pr.body s.1=true then (zao 10).map fun f=>((bO pr s.1 s.2 (f:Nat)).1.getD s) else (bO pr s.1 s.2 0).1.toList
theorem vk{pr:PG.Prog}(d:jO pr){s:PG.cg}(h:dw pr s):∀x∈c5 pr s,dw pr x:=by
 intro x hx
 unfold c5 at hx
 split at hx
 ·cases hx
 ·rename_i h0
  split at hx
  ·rename_i ha
   obtain⟨f,_,rfl⟩:=zar.mp hx
   cases e:(bO pr s.1 s.2 (f:Nat)).1 with
   |none=>exact h
   |some y=>exact h.next d h0 e
  ·rw[Option.mem_toList] at hx
   exact h.next d h0 hx
theorem cm.upL{K:k0}{H H':Hp}{D a:Addr}{row:Int}{vals:List Int}{ys:List V}(h:cm K H a row vals)(hD:H D=some (.lst ys))(u:bA D H H'):cm K H' a row vals:=let ⟨va,h1,h2⟩:=h;⟨va,h1.lE hD u,h2.lE hD u⟩
theorem kI{K:k0}{H H':Hp}{g:List PG.cg}{us:List V}(h:fH K H g us)(f:∀a row vals,cm K H a row vals->cm K H' a row vals):fH K H' g us:=Paired.yK h fun _ _ ⟨a,e,q⟩=>⟨a,e,f _ _ _ q⟩
theorem Bw{K:k0}{H:Hp}:∀ {g:List PG.cg} {us:List V} {x:PG.cg} {a:Addr},fH K H g us->cm K H a x.1 x.2->fH K H (g++[x]) (us++[.ref a])
 |[],_,_,_,h,q=>by cases h;exact .cons ⟨_,rfl,q⟩ .nil
 |_::_,_,_,_,h,q=>by
  cases h with
  |cons a b=>exact .cons a (Bw b q)
section
variable(P:zcD)(w:World)(K:k0)(CC:Addr)
def JG:Sp:=fun vs H Q _=>∃(ch sa:Addr) (pr:PG.Prog) (s:PG.cg),vs=[.ref ch,.ref sa]/\tD K CC H ch pr/\jO pr/\cm K H sa s.1 s.2/\dw pr s/\
 ∀l us H',aq H H'->H l=none->H' l=some (.lst us)->fH K H' (c5 pr s) us->Q (.ref l) H'
end
abbrev jA:=List (PG.cg×List Int)
noncomputable def lS (led:PG.cg->List PG.cg):Nat->jA->PG.cg->List Int->jA×Option (List PG.cg)
 |0,f,_,_=>(f,none)
 |n+1,f,s,g=>if s∈f.map (·.1) then (f,none) else match led s with
  |[t]=>lS led n (f++[(s,g)]) t g
  |l=>(f++[(s,g)],some l)
def ff (K:k0) (H:Hp) (f:jA) (aG:List (ky×V)):Prop:=Paired (fun (x:PG.cg×List Int) (kv:ky×V)=>kv.1=oF x.1/\∃a,kv.2=.ref a/\b8 K H a (x.2.map V.int)) f aG
section
variable{K:k0}{H H':Hp}
theorem ff.imp{f:jA}{aG:List (ky×V)}(h:ff K H f aG)(t:∀a xs,b8 K H a xs->b8 K H' a xs):ff K H' f aG:=Paired.yK h fun _ _ ⟨e,a,e2,q⟩=>⟨e,a,e2,t _ _ q⟩
theorem ff.UN:∀ {f:jA} {aG:List (ky×V)},ff K H f aG->∀s:PG.cg,(cY aG (oF s)).isSome=decide (s∈f.map (·.1))
 |[],_,h,s=>by cases h;rfl
 |x::r,_,h,s=>by
  cases h with
  |@cons _ kv _ _ a b=>
   obtain⟨k,v⟩:=kv
   obtain⟨e,_⟩:=a
   simp only at e
   subst e
   by_cases z:x.1=s
   ·rw[cF (by rw[z]),Y9,z]
    simp
   ·rw[cG (fun y=>z (Bs y)),ff.UN b s,Y9]
    simp[Ne.symm z]
theorem ff.len{f:jA}{aG:List (ky×V)}(h:ff K H f aG):aG.length=f.length:=(Paired.length h).symm
theorem ff.put{f:jA}{aG:List (ky×V)}(h:ff K H f aG){s:PG.cg}{g:List Int}{a:Addr}(n:s ∉ f.map (·.1))(q:b8 K H a (g.map V.int)):ff K H (f++[(s,g)]) (putK aG (oF s) (.ref a)):=by
 unfold putK
 rw[j9,h.UN,decide_eq_false n,if_neg WC]
 exact Paired.snoc h ⟨rfl,a,rfl,q⟩
end
section
variable(P:zcD)(w:World)(K:k0)(CC:Addr)(l:Expr)(qual:Str)
def JH (H0 H:Hp) (us:List V) (gv:V):Option (List PG.cg)->Prop
 |none=>us=[]
 |some UO=>∃ta la sJ,us=[.ref ta]/\b8 K H ta [gv,.ref la]/\H0 la=none/\H la=some (.lst sJ)/\fH K H UO sJ
def Qa:Sp:=fun vs H Q _=>∃(sa fo D ga cc ch:Addr) (lP:Obj) (pr:PG.Prog) (s:PG.cg) (f:jA) (g:List Int) (aG:List (ky×V)),vs=[.ref sa,.ref fo,.ref ga,.ref D]/\tD K CC H ch pr/\jO pr/\cm K H sa s.1 s.2/\dw pr s/\Gg "chart" qual l (wo H D) fo cc lP (.ref ch)/\
 b8 K H ga (g.map V.int)/\DS kH P w K H D aG/\ff K H f aG/\(f.map (·.1)).Nodup/\(∀x∈f,dw pr x.1)/\bB pr<2000/\
 ∀L us S5 H',bA D H H'->H L=none->H' L=some (.lst us)->DS kH P w K H' D S5->ff K H' (lS (c5 pr) (bB pr+1) f s g).1 S5->JH K H H' us (.ref ga) (lS (c5 pr) (bB pr+1) f s g).2->Q (.ref L) H'
end
theorem Gg.mono{y qual:Str}{l:Expr}{H H':Hp}{fo cc:Addr}{lP:Obj}{vc:V}(h:Gg y qual l H fo cc lP vc)(s:aq H H'):Gg y qual l H' fo cc lP vc:=by
 obtain⟨c',pm,uq,uc,oc,vs,tk,g1,g2,d2,q2,g3,d3,rc⟩:=h
 exact⟨c',pm,uq,uc,oc,vs,tk,s _ _ g1,s _ _ g2,d2,q2,s _ _ g3,d3,rc⟩
theorem JI{H H':Hp}{D:Addr}(u:bA D H H'):aq (wo H D) H':=fun b o e=>by
 by_cases z:b=D
 ·subst z
  rw[i9] at e
  cases e
 ·rw[eW z] at e
  exact u b o z e
theorem oG{H:Hp}{D:Addr}{o:HO}:wo (upd H D o) D=wo H D:=funext fun b=>by
 by_cases z:b=D
 ·subst z
  rw[i9,i9]
 ·rw[eW z,eW z,aw z]
theorem vm{H H':Hp}{D:Addr}(s:aq H H')(n:H D=none):aq H (wo H' D):=fun b o e=>by
 rw[eW (aj e n)]
 exact s b o e
theorem MA{H H':Hp}{D:Addr}(s:aq H H'):aq (wo H D) (wo H' D):=fun b o e=>by
 by_cases z:b=D
 ·subst z
  rw[i9] at e
  cases e
 ·rw[eW z] at e ⊢
  exact s b o e
theorem ur{H:Hp}{D:Addr}:aq (wo H D) H:=JI (.refl _ _)
theorem Qb{H H':Hp}{D b:Addr}(u:bA D H H'):bA D (wo H b) (wo H' b):=fun a o n e=>by
 by_cases z:a=b
 ·subst z
  rw[i9] at e
  cases e
 ·rw[eW z] at e ⊢
  exact u a o n e
theorem vn{H:Hp}{a:Addr}:bA a H (wo H a):=fun b o n e=>by rw[eW n];exact e
theorem MB{H H3:Hp}{a:Addr}{o:Obj}(ha:H a=some (jt a o))(s:aq (wo H a) H3):aq H (upd H3 a (jt a o)):=fun b u e=>by
 by_cases z:b=a
 ·subst z
  rw[ha] at e
  cases e
  exact ae
 ·rw[aw z]
  exact s b u (by rw[eW z];exact e)
section
variable{K:k0}{H H':Hp}{p:Addr}{φ:Heap->Prop}
mutual
theorem MC(h:H p=some (.ext φ))(u:bA p H H'):∀(d:Dp) (v:V),Rep K H d v->Rep K H' d v
 |.cD,v,r=>by rw[Rep.jK] at r ⊢;exact r
 |.bl b,v,r=>by rw[Rep.kQ] at r ⊢;exact r
 |.int b,v,r=>by rw[Rep.bw] at r ⊢;exact r
 |.str b,v,r=>by rw[Rep.bI] at r ⊢;exact r
 |.lst l,v,r=>by
  rw[Rep.bC] at r ⊢
  obtain⟨a,ys,rfl,q,rs⟩:=r
  refine⟨a,ys,rfl,?_,rT h u l ys rs⟩
  rcases q with (q |⟨o,q⟩) |q
  ·exact .inl (.inl (u _ _ (bR q h (by intro z;cases z)) q))
  ·exact .inl (.inr ⟨o,u _ _ (bR q h (by intro z;cases z)) q⟩)
  ·exact .inr q
 |.tup l,v,r=>by
  rw[Rep.bc] at r ⊢
  obtain⟨a,ys,rfl,q,rs⟩:=r
  exact⟨a,ys,rfl,q.rQ h u,rT h u l ys rs⟩
theorem rT(h:H p=some (.ext φ))(u:bA p H H'):∀(ds:List Dp) (vs:List V),aP K H ds vs->aP K H' ds vs
 |[],vs,r=>by rw[aP.bh] at r ⊢;exact r
 |d::ds,vs,r=>by
  rw[aP.aI] at r ⊢
  obtain⟨v,t,rfl,r1,r2⟩:=r
  exact⟨v,t,rfl,MC h u d v r1,rT h u ds t r2⟩
end
theorem tD.ext{C ch:Addr}{pr:PG.Prog}(c:tD K C H ch pr)(h:H p=some (.ext φ))(u:bA p H H'):tD K C H' ch pr:=by
 obtain⟨dx,nl,sd,fa,va,st,wy,us,ws,h1,h2,h3,h4,h5,h6,h7,h8,h9,F3,GC,KO⟩:=c.at_
 have k:∀ {b:Addr} {o:HO},H b=some o->(∀ψ,o≠.ext ψ)->H' b=some o:=fun {b o} e n=>u _ _ (bR e h (n φ)) e
 exact⟨⟨dx,nl,sd,fa,va,st,wy,us,ws,k h1 (fun _ z=>by cases z),k h2 (fun _ z=>by cases z),k h3 (fun _ z=>by cases z),k h4 (fun _ z=>by cases z),k h5 (fun _ z=>by cases z),k h6 (fun _ z=>by cases z),h7,k h8 (fun _ z=>by cases z),rT h u _ _ h9,F3,k GC (fun _ z=>by cases z),fun i hi=>let ⟨q,e,r⟩:=KO i hi;⟨q,e,r.rQ h u⟩⟩⟩
end
end L2
namespace L2
open PySem PySem.Spec PyProof.Rows
noncomputable def ny (g:List Int):Option (List PG.cg)->List (List Int×List PG.cg)
 |none=>[]
 |some l=>[(g,l)]
noncomputable def dH (led:PG.cg->List PG.cg) (n:Nat):jA->jA->jA×List (List Int×List PG.cg)
 |f,[]=>(f,[])
 |f,(s,g)::r=>((dH led n (lS led n f s g).1 r).1,ny g (lS led n f s g).2++(dH led n (lS led n f s g).1 r).2)
noncomputable def cM (as:List (List Int×List PG.cg)):jA:=as.flatMap fun a=>(zao a.2.length).map fun i:Nat=>(a.2.getD i (0,[]),a.1++[((i:Nat):Int)])
noncomputable def uN (led:PG.cg->List PG.cg) (n:Nat):Nat->jA->List (List Int×List PG.cg)->jA
 |0,f,_=>f
 |m+1,f,as=>if as=[] then f else uN led n m (dH led n f (cM as)).1 (dH led n f (cM as)).2
noncomputable def iG (pr:PG.Prog) (s:PG.cg):jA:=uN (c5 pr) (bB pr+1) (bB pr+2) (lS (c5 pr) (bB pr+1) [] s []).1 (ny [] (lS (c5 pr) (bB pr+1) [] s []).2)
section
variable(P:zcD)(w:World)(K:k0)(CC:Addr)(l:Expr)(qual:Str)
def Bx:Sp:=fun vs H Q _=>∃(sa fo cc ch:Addr) (lP:Obj) (pr:PG.Prog) (s:PG.cg),vs=[.ref sa,.ref fo]/\tD K CC H ch pr/\jO pr/\cm K H sa s.1 s.2/\dw pr s/\Gg "chart" qual l H fo cc lP (.ref ch)/\bB pr<2000/\
 ∀D aG H',aq H H'->H D=none->DS kH P w K H' D aG->ff K H' (iG pr s) aG->Q (.ref D) H'
def Gh (Pt:Addr) (lp:Pos):Sp:=fun vs H Q _=>∃(ch:Addr) (pr:PG.Prog) (ps:Array Value),vs=[.ref ch]/\tD K CC H ch pr/\jO pr/\bB pr<2000/\H Pt=some (.t9 ps)/\TabOk qual lp H ps/\
 ∀D aG H' Ge,bA Pt H H'->H D=none->DS kH P w K H' D aG->ff K H' (iG pr (PG.bt pr.body 0,pr.aK.map (·.first))) aG->H' Pt=some (.t9 Ge)->TabOk qual lp H' Ge->Q (.ref D) H'
end
section
variable{led:PG.cg->List PG.cg}{S:PG.cg->Prop}
structure yw(S:PG.cg->Prop)(f:jA):Prop where
 nd:(f.map (·.1)).Nodup
 B1:∀x∈f,S x.1
theorem yw.nil:yw S []:=⟨zbN,fun x h=>by cases h⟩
theorem yw.put{f:jA}{s:PG.cg}{g:List Int}(h:yw S f)(n:s ∉ f.map (·.1))(hs:S s):yw S (f++[(s,g)]):=by
 refine⟨?_,fun x hx=>?_⟩
 ·rw[zae]
  exact zbS.mpr ⟨h.nd,by simp,fun a ha b hb=>by rw[Y9,zaR,zac] at hb;rw[hb];exact fun y=>n (by rw[<- show a=s from y];exact ha)⟩
 ·rcases zap.mp hx with hx |hx
  ·exact h.B1 x hx
  ·rw[zac.mp hx];exact hs
structure uO(S:PG.cg->Prop)(m:Nat)(as:List (List Int×List PG.cg)):Prop where
 B1:∀a∈as,∀x∈a.2,S x
 len:∀a∈as,a.1.length<=m
theorem uO.nil{m:Nat}:uO S m []:=⟨fun a h=>(by cases h),fun a h=>(by cases h)⟩
theorem uO.app{m:Nat}{as bs:List (List Int×List PG.cg)}(h:uO S m as)(h2:uO S m bs):uO S m (as++bs):=⟨fun a ha=>(zap.mp ha).elim (h.B1 a) (h2.B1 a),fun a ha=>(zap.mp ha).elim (h.len a) (h2.len a)⟩
theorem wz(li:∀s,S s->∀x∈led s,S x){m:Nat}:∀(n:Nat) (f:jA) (s:PG.cg) (g:List Int),yw S f->S s->g.length<=m->yw S (lS led n f s g).1/\uO S m (ny g (lS led n f s g).2)/\f.length+(ny g (lS led n f s g).2).length<=(lS led n f s g).1.length
 |0,f,s,g,h,_,_=>⟨h,.nil,Wr _⟩
 |n+1,f,s,g,h,hs,hg=>by
  rw[lS]
  split
  ·exact⟨h,.nil,Wr _⟩
  ·rename_i hn
   have h1:=h.put (g:=g) hn hs
   split
   ·rename_i t e
    have:=wz li n (f++[(s,g)]) t g h1 (li s hs t (by rw[e];exact zac.mpr rfl)) hg
    refine⟨this.1,this.2.1,?_⟩
    have:=this.2.2
    rw[Zc,zal] at this
    lia
   ·refine⟨h1,⟨fun a ha x hx=>?_,fun a ha=>?_⟩,?_⟩
    ·rw[zac.mp ha] at hx
     exact li s hs x hx
    ·rw[zac.mp ha]
     exact hg
    ·rw[Zc]
     exact Wr _
theorem rV(li:∀s,S s->∀x∈led s,S x){m n:Nat}:∀(l:jA) (f:jA),yw S f->(∀x∈l,S x.1/\x.2.length<=m)->yw S (dH led n f l).1/\uO S m (dH led n f l).2/\f.length+(dH led n f l).2.length<=(dH led n f l).1.length
 |[],f,h,_=>⟨h,.nil,Wr _⟩
 |(s,g)::r,f,h,hl=>by
  obtain⟨a1,a2,a3⟩:=wz li n f s g h (hl _ (UH ..)).1 (hl _ (UH ..)).2
  obtain⟨b1,b2,b3⟩:=rV li r _ a1 fun x hx=>hl x (zad _ hx)
  refine⟨b1,a2.app b2,?_⟩
  show f.length+(ny g (lS led n f s g).2++(dH led n (lS led n f s g).1 r).2).length<=_
  rw[Zc]
  show _<=(dH led n (lS led n f s g).1 r).1.length
  lia
theorem tJ{n:Nat}:∀(l k:jA) (f:jA),dH led n f (l++k)=((dH led n (dH led n f l).1 k).1,(dH led n f l).2++(dH led n (dH led n f l).1 k).2)
 |[],k,f=>rfl
 |(s,g)::r,k,f=>by
  rw[zav,dH,tJ r k]
  simp only[dH,zaH]
theorem tK{n:Nat}{f:jA}{s:PG.cg}{g:List Int}:dH led n f [(s,g)]=((lS led n f s g).1,ny g (lS led n f s g).2):=by simp only[dH,zab]
theorem tL{m:Nat}{as:List (List Int×List PG.cg)}(h:uO S m as):∀x∈cM as,S x.1/\x.2.length<=m+1:=by
 intro x hx
 obtain⟨a,ha,hx⟩:=zaL.mp hx
 obtain⟨i,hi,rfl⟩:=zar.mp hx
 have hi:=zbM.mp hi
 refine⟨h.B1 a ha _ ?_,?_⟩
 ·rw[Y7,Za hi]
  exact zah hi
 ·have:=h.len a ha
  rw[Zc,zal]
  lia
noncomputable def kJ (a:List Int×List PG.cg) (j:Nat):jA:=(zao j).map fun i:Nat=>(a.2.getD i (0,[]),a.1++[((i:Nat):Int)])
theorem By{a:List Int×List PG.cg}{as:List (List Int×List PG.cg)}:cM (as++[a])=cM as++kJ a a.2.length:=by
 unfold cM
 rw[zaZ]
 simp only[zas,za2,zab]
 rfl
theorem zr{a:List Int×List PG.cg}{j:Nat}:kJ a (j+1)=kJ a j++[(a.2.getD j (0,[]),a.1++[((j:Nat):Int)])]:=by
 unfold kJ
 rw[zbg,zae]
 rfl
theorem Dc{m j:Nat}{a:List Int×List PG.cg}(h1:∀x∈a.2,S x)(h2:a.1.length<=m)(hj:j<=a.2.length):∀x∈kJ a j,S x.1/\x.2.length<=m+1:=by
 intro x hx
 obtain⟨i,hi,rfl⟩:=zar.mp hx
 have hi:=zbM.mp hi
 refine⟨h1 _ ?_,?_⟩
 ·rw[Y7,Za (by lia)]
  exact zah (by lia)
 ·rw[Zc,zal]
  lia
theorem wA{n m:Nat}{f:jA}:uN led n m f []=f:=by
 cases m
 ·rfl
 ·rw[uN,if_pos rfl]
end
section
variable(K:k0)
def eM (H:Hp) (as:List (List Int×List PG.cg)) (us:List V):Prop:=Paired (fun (a:List Int×List PG.cg) (v:V)=>∃ta ga la sJ,v=.ref ta/\b8 K H ta [.ref ga,.ref la]/\b8 K H ga (a.1.map V.int)/\H la=some (.lst sJ)/\fH K H a.2 sJ) as us
end
section
variable{K:k0}{H H':Hp}
theorem eM.imp{as:List (List Int×List PG.cg)}{us:List V}(h:eM K H as us)(t:∀a xs,b8 K H a xs->b8 K H' a xs)(l:∀a xs,H a=some (.lst xs)->H' a=some (.lst xs)):eM K H' as us:=
 Paired.yK h fun _ _ ⟨ta,ga,la,sJ,e,q1,q2,q3,q4⟩=>⟨ta,ga,la,sJ,e,t _ _ q1,t _ _ q2,l _ _ q3,kI q4 fun a row vals ⟨va,h1,h2⟩=>⟨va,t _ _ h1,t _ _ h2⟩⟩
theorem eM.mono{as:List (List Int×List PG.cg)}{us:List V}(h:eM K H as us)(s:aq H H'):eM K H' as us:=h.imp (fun a xs q=>s.bo q) fun a xs q=>s _ _ q
theorem eM.ext{as:List (List Int×List PG.cg)}{us:List V}{D:Addr}{φ:Heap->Prop}(h:eM K H as us)(hD:H D=some (.ext φ))(u:bA D H H'):eM K H' as us:=h.imp (fun a xs q=>q.rQ hD u) fun a xs q=>u _ _ (bR q hD (by intro z;cases z)) q
theorem eM.of{H0:Hp}{us:List V}{ga b:Addr}{ys:List V}{g:List Int}{o:Option (List PG.cg)}(h:JH K H0 H us (.ref ga) o)(q:b8 K H ga (g.map V.int))(n:H0 b≠none)(hb:H b=some (.lst ys)):eM K (wo H b) (ny g o) us:=by
 have u:bA b H (wo H b):=vn
 cases o with
 |none=>rw[show us=[] from h];exact .nil
 |some l=>
  obtain⟨ta,la,sJ,rfl,q1,n1,q2,q3⟩:=h
  refine .cons ⟨ta,ga,la,sJ,rfl,q1.lE hb u,q.lE hb u,?_,kI q3 fun a row vals ⟨va,h1,h2⟩=>⟨va,h1.lE hb u,h2.lE hb u⟩⟩ .nil
  rw[eW (fun z=>n (by rw[<- z];exact n1))]
  exact q2
theorem eM.of1{H0:Hp}{us:List V}{ga:Addr}{g:List Int}{o:Option (List PG.cg)}(h:JH K H0 H us (.ref ga) o)(q:b8 K H ga (g.map V.int)):eM K H (ny g o) us:=by
 cases o with
 |none=>rw[show us=[] from h];exact .nil
 |some l=>
  obtain⟨ta,la,sJ,rfl,q1,n1,q2,q3⟩:=h
  exact .cons ⟨ta,ga,la,sJ,rfl,q1,q,q2,q3⟩ .nil
theorem mK{α β:Type}{R:α->β->Prop}:∀ {as:List α} {us:List β} {bs:List α} {vs:List β},Paired R as us->Paired R bs vs->Paired R (as++bs) (us++vs)
 |[],_,_,_,h,h2=>by cases h;exact h2
 |_::_,_,_,_,h,h2=>by
  cases h with
  |cons a b=>exact .cons a (mK b h2)
theorem i4{α β:Type}{R:α->β->Prop}:∀ {as:List α} {us:List β} {i:Nat} {v:β},Paired R as us->us[i]?=some v->∃a,as[i]?=some a/\R a v
 |[],_,_,_,h,e=>by cases h;simp at e
 |_::_,_,0,_,h,e=>by
  cases h with
  |cons a b=>cases e;exact⟨_,rfl,a⟩
 |_::_,_,i+1,_,h,e=>by
  cases h with
  |cons a b=>
   obtain⟨x,e1,e2⟩:=i4 (i:=i) b (by simpa using e)
   exact⟨x,by simpa using e1,e2⟩
end
def Kp (H H':Hp):Prop:=∀b o,H b=some o->(∀ps,o≠.t9 ps)->H' b=some o
section
variable{K:k0}{H H':Hp}
theorem Kp.of{Pt:Addr}{ps:Array Value}(u:bA Pt H H')(h:H Pt=some (.t9 ps)):Kp H H':=fun b o e n=>u b o (bR e h (n ps)) e
theorem b8.kp{a:Addr}{xs:List V}(h:b8 K H a xs)(k:Kp H H'):b8 K H' a xs:=by
 rcases h with (q |⟨o',q⟩) |q
 ·exact .inl (.inl (k _ _ q (by intro _ z;cases z)))
 ·exact .inl (.inr ⟨o',k _ _ q (by intro _ z;cases z)⟩)
 ·exact .inr q
theorem gS.kp{a:Addr}{xs:List V}(h:gS K H a xs)(k:Kp H H'):gS K H' a xs:=by
 rcases h with (q |⟨o',q⟩) |q
 ·exact .inl (.inl (k _ _ q (by intro _ z;cases z)))
 ·exact .inl (.inr ⟨o',k _ _ q (by intro _ z;cases z)⟩)
 ·exact .inr q
mutual
theorem zt(k:Kp H H'):∀(d:Dp) (v:V),Rep K H d v->Rep K H' d v
 |.cD,v,r=>by rw[Rep.jK] at r ⊢;exact r
 |.bl b,v,r=>by rw[Rep.kQ] at r ⊢;exact r
 |.int b,v,r=>by rw[Rep.bw] at r ⊢;exact r
 |.str b,v,r=>by rw[Rep.bI] at r ⊢;exact r
 |.lst l,v,r=>by
  rw[Rep.bC] at r ⊢
  obtain⟨a,ys,rfl,q,rs⟩:=r
  exact⟨a,ys,rfl,gS.kp q k,vo k l ys rs⟩
 |.tup l,v,r=>by
  rw[Rep.bc] at r ⊢
  obtain⟨a,ys,rfl,q,rs⟩:=r
  exact⟨a,ys,rfl,b8.kp q k,vo k l ys rs⟩
theorem vo(k:Kp H H'):∀(ds:List Dp) (vs:List V),aP K H ds vs->aP K H' ds vs
 |[],vs,r=>by rw[aP.bh] at r ⊢;exact r
 |d::ds,vs,r=>by
  rw[aP.aI] at r ⊢
  obtain⟨v,t,rfl,r1,r2⟩:=r
  exact⟨v,t,rfl,zt k d v r1,vo k ds t r2⟩
end
theorem tD.kp{C ch:Addr}{pr:PG.Prog}(c:tD K C H ch pr)(k:Kp H H'):tD K C H' ch pr:=by
 obtain⟨dx,nl,sd,fa,va,st,wy,us,ws,h1,h2,h3,h4,h5,h6,h7,h8,h9,F3,GC,KO⟩:=c.at_
 exact⟨⟨dx,nl,sd,fa,va,st,wy,us,ws,k _ _ h1 (fun _ z=>by cases z),k _ _ h2 (fun _ z=>by cases z),k _ _ h3 (fun _ z=>by cases z),k _ _ h4 (fun _ z=>by cases z),k _ _ h5 (fun _ z=>by cases z),k _ _ h6 (fun _ z=>by cases z),h7,k _ _ h8 (fun _ z=>by cases z),vo k _ _ h9,F3,k _ _ GC (fun _ z=>by cases z),fun i hi=>let ⟨q,e,r⟩:=KO i hi;⟨q,e,r.kp k⟩⟩⟩
theorem cm.kp{a:Addr}{row:Int}{vals:List Int}(h:cm K H a row vals)(k:Kp H H'):cm K H' a row vals:=let ⟨va,h1,h2⟩:=h;⟨va,h1.kp k,h2.kp k⟩
theorem TabOk.kp{qual:Str}{lp:Pos}{ps:Array Value}(h:TabOk qual lp H ps)(k:Kp H H'):TabOk qual lp H' ps:=by
 rcases h with h |⟨c',oc,vs,tk,e,h1,h2,h3⟩
 ·exact .inl h
 ·exact .inr ⟨c',oc,vs,tk,e,k _ _ h1 (fun _ z=>by cases z),h2,h3⟩
theorem Kp.same(s:aq H H'):Kp H H':=fun b o e _=>s b o e
end
section
variable(ask:Int->Bool)(step:Int->List Int->Int->Option (Int×List Int)×Option Int)
noncomputable def e7:jA->List PG.cg->List Int->jA×jA
 |f,[],_=>(f,[])
 |f,x::r,g=>if x∈f.map (·.1) then e7 f r g else ((e7 (f++[(x,g)]) r g).1,(if ask x.1=true then [(x,g)] else [])++(e7 (f++[(x,g)]) r g).2)
noncomputable def nextJ (a:PG.cg×List Int) (j:Nat):jA:=(zao j).map fun i:Nat=>((step a.1.1 a.1.2 i).1.getD a.1,a.2++[((i:Nat):Int)])
noncomputable def kK (as:jA):jA:=as.flatMap fun a=>nextJ step a 10
def Cl (f:jA) (Q:PG.cg->Prop):Prop:=∀x∈f.map (·.1),x.1≠0->ask x.1=false->∀y,(step x.1 x.2 0).1=some y->y∈f.map (·.1)\/Q y
def UP:List PG.cg->Prop
 |x::y::r=>(x.1≠0/\ask x.1=false/\(step x.1 x.2 0).1=some y)/\UP (y::r)
 |_=>True
end
section
variable{ask:Int->Bool}{step:Int->List Int->Int->Option (Int×List Int)×Option Int}
theorem JJ:∀(g:List PG.cg),(∀i (h:i+1<g.length),g[i].1≠0/\ask g[i].1=false/\(step g[i].1 g[i].2 0).1=some g[i+1])->UP ask step g
 |[],_=>trivial
 |[_],_=>trivial
 |x::y::r,h=>⟨h 0 (by simp),JJ (y::r) fun i hi=>h (i+1) (by simp at hi ⊢;lia)⟩
theorem JK{f:jA}(c:Cl ask step f fun _=>False):∀(g:List PG.cg) (s:PG.cg),UP ask step (s::g)->s∈f.map (·.1)->∀x∈s::g,x∈f.map (·.1)
 |[],s,_,h,x,hx=>by rw[zac.mp hx];exact h
 |y::r,s,⟨⟨h0,ha,hs⟩,h2⟩,h,x,hx=>by
  rcases Zd.mp hx with rfl |hx
  ·exact h
  ·exact JK c r y h2 ((c s h h0 ha y hs).resolve_right id) x hx
theorem EO{g:List Int}{f:jA}:∀(l:List PG.cg),(∀x∈l,x∈f.map (·.1))->e7 ask f l g=(f,[])
 |[],_=>rfl
 |x::r,h=>by
  rw[e7,if_pos (h x (UH ..))]
  exact EO r fun y hy=>h y (zad _ hy)
theorem wB{g:List Int}:∀(l k:List PG.cg) (f:jA),e7 ask f (l++k) g=((e7 ask (e7 ask f l g).1 k g).1,(e7 ask f l g).2++(e7 ask (e7 ask f l g).1 k g).2)
 |[],k,f=>rfl
 |x::r,k,f=>by
  rw[zav,e7,e7]
  split
  ·exact wB r k f
  ·rw[wB r k,zaH]
theorem vp{S:PG.cg->Prop}{g:List Int}:∀(l:List PG.cg) (f:jA),yw S f->(∀x∈l,S x)->yw S (e7 ask f l g).1/\(∀a∈(e7 ask f l g).2,S a.1/\ask a.1.1=true/\a.2=g)/\f.length+(e7 ask f l g).2.length<=(e7 ask f l g).1.length
 |[],f,h,_=>⟨h,fun a ha=>(by cases ha),Wr _⟩
 |x::r,f,h,hl=>by
  rw[e7]
  split
  ·exact vp r f h fun y hy=>hl y (zad _ hy)
  ·rename_i hx
   obtain⟨a1,a2,a3⟩:=vp (g:=g) r (f++[(x,g)]) (h.put hx (hl x (UH ..))) fun y hy=>hl y (zad _ hy)
   rw[Zc,zal] at a3
   refine⟨a1,fun a ha=>?_,?_⟩
   ·rcases zap.mp ha with ha |ha
    ·split at ha
     ·rename_i hk
      rw[zac.mp ha]
      exact⟨hl x (UH ..),hk,rfl⟩
     ·cases ha
    ·exact a2 a ha
   ·show f.length+((if ask x.1=true then [(x,g)] else [])++_).length<=_
    rw[Zc]
    show _<=(e7 ask (f++[(x,g)]) r g).1.length
    split
    ·rw[zal];lia
    ·rw[zak];lia
theorem yx{a b:jA}:kK step (a++b)=kK step a++kK step b:=zaZ
theorem Dd{a:PG.cg×List Int}{j:Nat}:nextJ step a (j+1)=nextJ step a j++[((step a.1.1 a.1.2 (j:Nat)).1.getD a.1,a.2++[((j:Nat):Int)])]:=by
 unfold nextJ
 rw[zbg,zae]
 rfl
theorem tM:∀(a:jA),(kK step a).length=10*a.length
 |[]=>rfl
 |x::r=>by
  show ((nextJ step x 10)++kK step r).length=_
  rw[Zc,tM r,V0]
  unfold nextJ
  rw[Zb,zbc]
  lia
end
theorem De{a b:List (List Int×List PG.cg)}:cM (a++b)=cM a++cM b:=zaZ
theorem ER{pr:PG.Prog}(d:jO pr){fig:List Int}:∀(r:List PG.cg) (n:Nat) (f:jA) (s:PG.cg),(s::r).length<=n->UP (cZ pr.body) (bO pr) (s::r)->
 (∀x,(s::r).getLast?=some x->x.1=0\/cZ pr.body x.1=true\/(bO pr x.1 x.2 0).1=none\/∃y,(y∈s::r\/y∈f.map (·.1))/\(bO pr x.1 x.2 0).1=some y)->Cl (cZ pr.body) (bO pr) f (·=s)->
 (lS (c5 pr) n f s fig).1=(e7 (cZ pr.body) f (s::r) fig).1/\cM (ny fig (lS (c5 pr) n f s fig).2)=kK (bO pr) (e7 (cZ pr.body) f (s::r) fig).2/\Cl (cZ pr.body) (bO pr) (e7 (cZ pr.body) f (s::r) fig).1 (fun _=>False)
 |r,0,f,s,hn,_,_,_=>by simp at hn
 |r,n+1,f,s,hn,hc,hl,cl=>by
  by_cases hs:s∈f.map (·.1)
  ·have Zt:Cl (cZ pr.body) (bO pr) f (fun _=>False):=fun x hx h0 ha y hy=>(cl x hx h0 ha y hy).elim .inl fun e=>.inl (e▸hs)
   rw[lS,if_pos hs,EO _ (JK Zt r s hc hs)]
   exact⟨rfl,rfl,Zt⟩
  have fin:∀y,y∈f.map (·.1)\/y=s↔y∈(f++[(s,fig)]).map (·.1):=fun y=>by simp
  have S6:∀Q:PG.cg->Prop,(s.1≠0->cZ pr.body s.1=false->∀y,(bO pr s.1 s.2 0).1=some y->y∈(f++[(s,fig)]).map (·.1)\/Q y)->Cl (cZ pr.body) (bO pr) (f++[(s,fig)]) Q:=fun Q hQ x hx h0 ha y hy=>by
   rcases(fin x).mpr hx with hx |rfl
   ·exact .inl ((fin y).mp (cl x hx h0 ha y hy))
   ·exact hQ h0 ha y hy
  match r,hn,hc,hl with
  |q::r,hn,⟨⟨h0,ha,hq⟩,hc⟩,hl=>
   have el:c5 pr s=[q]:=by unfold c5;rw[if_neg h0,if_neg (by rw[ha];decide),hq];rfl
   rw[lS,if_neg hs,el,e7,if_neg hs,if_neg (by rw[ha];decide),zay]
   refine ER d r n (f++[(s,fig)]) q (by simp at hn ⊢;lia) hc (fun x hx=>?_) (S6 _ fun _ _ y hy=>.inr (by rw[hq] at hy;cases hy;rfl))
   rcases hl x (by rw[List.getLast?_cons_cons];exact hx) with z |z |z |⟨y,hy,z⟩
   ·exact .inl z
   ·exact .inr (.inl z)
   ·exact .inr (.inr (.inl z))
   ·refine .inr (.inr (.inr ⟨y,?_,z⟩))
    rcases hy with hy |hy
    ·rcases Zd.mp hy with rfl |hy
     ·exact .inr ((fin _).mp (.inr rfl))
     ·exact .inl hy
    ·exact .inr ((fin _).mp (.inl hy))
  |[],hn,hc,hl=>
   have ea:e7 (cZ pr.body) f [s] fig=(f++[(s,fig)],if cZ pr.body s.1=true then [(s,fig)] else []):=by rw[e7,if_neg hs,e7,zab]
   rw[ea]
   by_cases h0:s.1=0
   ·have el:c5 pr s=[]:=by unfold c5;rw[if_pos h0]
    rw[lS,if_neg hs,el,h0,rR d.ok]
    exact⟨rfl,rfl,S6 _ fun z=>absurd h0 z⟩
   cases ha:cZ pr.body s.1 with
   |true=>
    have el:c5 pr s=(zao 10).map fun f=>((bO pr s.1 s.2 (f:Nat)).1.getD s):=by unfold c5;rw[if_neg h0,if_pos ha]
    rw[lS,if_neg hs]
    refine⟨?_,?_,S6 _ fun _ z=>by rw[ha] at z;cases z⟩
    ·rw[el]
     rfl
    ·rw[el]
     show cM [(fig,_)]=kK _ [(s,fig)]
     rfl
   |false=>
    have el:c5 pr s=(bO pr s.1 s.2 0).1.toList:=by unfold c5;rw[if_neg h0,if_neg (by rw[ha];decide)]
    rw[lS,if_neg hs,el]
    cases e:(bO pr s.1 s.2 0).1 with
    |none=>exact⟨rfl,rfl,S6 _ fun _ _ y hy=>by rw[e] at hy;cases hy⟩
    |some y=>
     have hy:y∈(f++[(s,fig)]).map (·.1):=by
      rcases hl s rfl with z |z |z |⟨y',hy,z⟩
      ·exact absurd z h0
      ·rw[ha] at z;cases z
      ·rw[e] at z;cases z
      ·rw[e] at z
       cases z
       rcases hy with hy |hy
       ·exact(fin _).mp (.inr (zac.mp hy))
       ·exact(fin _).mp (.inl hy)
     have eg:lS (c5 pr) n (f++[(s,fig)]) y fig=(f++[(s,fig)],none):=by
      cases n with
      |zero=>rfl
      |succ n=>rw[lS,if_pos hy]
     simp only[zbH,eg]
     exact⟨trivial,rfl,S6 _ fun _ _ y' UA=>by rw[e] at UA;cases UA;exact .inl hy⟩
theorem MD{pr:PG.Prog}(d:jO pr){fig:List Int}{n:Nat}{f:jA}{s:PG.cg}{g:List PG.cg}(sg:PG.Seg (cZ pr.body) (bO pr) s g)(hn:g.length<=n)(cl:Cl (cZ pr.body) (bO pr) f fun _=>False) :
 (lS (c5 pr) n f s fig).1=(e7 (cZ pr.body) f g fig).1/\cM (ny fig (lS (c5 pr) n f s fig).2)=kK (bO pr) (e7 (cZ pr.body) f g fig).2/\Cl (cZ pr.body) (bO pr) (e7 (cZ pr.body) f g fig).1 (fun _=>False):=by
 have h:=sg.head
 cases g with
 |nil=>cases h
 |cons x r=>
  cases h
  exact ER d r n f s hn (JJ _ sg.mid) (fun x hx=>by
   rcases sg.last x hx with z |z |z |⟨y,hy,z⟩
   ·exact .inl z
   ·exact .inr (.inl z)
   ·exact .inr (.inr (.inl z))
   ·exact .inr (.inr (.inr ⟨y,.inl hy,z⟩))) fun x hx h0 ha y hy=>.inl ((cl x hx h0 ha y hy).resolve_right id)
end L2
namespace L2
open PySem PySem.Spec PyProof.Rows
noncomputable abbrev tN (pr:PG.Prog):PG.cg:=(PG.bt pr.body 0,pr.aK.map (·.first))
section
variable(P:zcD)(w:World)(K:k0)(CC:Addr)
def ME (qual:Str) (Pt:Addr) (lp:Pos):Sp:=fun vs H Q _=>∃(v:V) (pr:PG.Prog) (ps:Array Value),vs=[v]/\Rep K H (i0 pr) v/\jO pr/\bB pr<2000/\H Pt=some (.t9 ps)/\TabOk qual lp H ps/\
 ∀l us H' Ge,bA Pt H H'->H l=none->H' l=some (.lst us)->fH K H' ((iG pr (tN pr)).map (·.1)) us->H' Pt=some (.t9 Ge)->TabOk qual lp H' Ge->Q (.ref l) H'
def JL:Sp:=fun vs H Q _=>∃(md:Addr) (pr:PG.Prog),vs=[.ref md]/\kT K H md pr/\jO pr/\bB pr<2000/\
 ∀D aG H',aq H H'->H D=none->DS kH P w K H' D aG->ff K H' (iG pr (tN pr)) aG->Q (.ref D) H'
def MF:Sp:=fun vs H Q _=>∃(md sa:Addr) (pr:PG.Prog) (s:PG.cg),vs=[.ref md,.ref sa]/\kT K H md pr/\jO pr/\cm K H sa s.1 s.2/\dw pr s/\bB pr<=2000000/\
 ∀l us g H',aq H H'->H l=none->H' l=some (.lst us)->fH K H' g us->PG.Seg (cZ pr.body) (bO pr) s g->(∀x∈g,dw pr x)->g.length<=bB pr->Q (.ref l) H'
def tO (H:Hp) (lv:jA) (us:List V):Prop:=Paired (fun (x:PG.cg×List Int) (v:V)=>∃ta ga sa,v=.ref ta/\b8 K H ta [.ref ga,.ref sa]/\b8 K H ga (x.2.map V.int)/\cm K H sa x.1.1 x.1.2) lv us
def JM:Sp:=fun vs H Q _=>∃(l:Addr) (us:List V) (g:List PG.cg),vs=[.ref l]/\H l=some (.lst us)/\fH K H g us/\g.length<=2000/\(∀x∈g,x.2.length<=10)/\
 ∀H',aq H H'->Q (.bl true) H'
def zu (Pt:Addr):Sp:=fun vs H Q _=>∃(a:Addr) (ns:List Int),vs=[.ref a]/\gS K H a (ns.map V.int)/\ns.length<=63/\H Pt=some (.t9 #[])/\∀H',Q (.bl true) H'
end
section
variable{K:k0}{H H':Hp}
theorem tO.imp{lv:jA}{us:List V}(h:tO K H lv us)(t:∀a xs,b8 K H a xs->b8 K H' a xs):tO K H' lv us:=
 Paired.yK h fun _ _ ⟨ta,ga,sa,e,q1,q2,va,q3,q4⟩=>⟨ta,ga,sa,e,t _ _ q1,t _ _ q2,va,t _ _ q3,t _ _ q4⟩
theorem zv:∀ {f:jA} {aG:List (ky×V)} {us:List V},ff K H f aG->Paired (fun (p:ky×V) (v:V)=>∃b,v=.ref b/\kH.on K H' p.1 b) aG us->fH K H' (f.map (·.1)) us
 |[],_,_,h,h2=>by cases h;cases h2;exact .nil
 |x::r,_,_,h,h2=>by
  cases h with
  |@cons _ kv _ _ a b=>
   cases h2 with
   |cons c d=>
    obtain⟨b1,e,o⟩:=c
    obtain⟨e1,_⟩:=a
    rw[e1] at o
    exact .cons ⟨b1,e,Jq o⟩ (zv b d)
end
end L2
namespace PG
theorem Bz(sc:List Int)(kR:Int):∀(n k p:Nat),∀x∈(bL sc kR n k p).1,x.size<=4
 |0,k,p,x,h=>by simp[bL] at h
 |n+1,k,p,x,h=>by
  rw[bL] at h
  simp only[Zd] at h
  rcases h with rfl |h
  ·simp only
   lia
  ·exact Bz sc kR n (k+1) (p+2) x h
theorem zw(sc:List Int)(p:Nat):∀x∈fq sc p,x.size<=4:=Bz sc _ _ _ _
theorem yy:∀(ss:List Int),(∀s∈ss,s<=4)->(tI ss).length<=4 ^ ss.length
 |[],_=>by simp[tI]
 |s::r,h=>by
  have ih:=yy r fun x hx=>h x (zad _ hx)
  have hs:=h s (UH ..)
  have k:∀n:Nat,((zao n).flatMap fun (v:Nat)=>(tI r).map fun t=>((v:Int)::t)).length=n*(tI r).length:=fun n=>by
   induction n with
   |zero=>simp
   |succ n ih=>rw[zbg,zaZ,Zc,ih];simp[Nat.succ_mul]
  rw[tI,k,V0,zck,Nat.mul_comm (4 ^ r.length)]
  exact Nat.mul_le_mul (by lia) ih
end PG
namespace L2
open PySem PySem.Spec PyProof.Rows
theorem TabOk.up{H H':Hp}{qual:Str}{lp:Pos}{ps:Array Value}(h:TabOk qual lp H ps)(k:∀b φ,H b=some (.ext φ)->H' b=some (.ext φ)):TabOk qual lp H' ps:=by
 rcases h with h |⟨c',oc,vs,tk,e,h1,h2,h3⟩
 ·exact .inl h
 ·exact .inr ⟨c',oc,vs,tk,e,k _ _ h1,h2,h3⟩
noncomputable def uv (s:PG.cg):Dp:=.tup [.int s.1,.tup (s.2.map Dp.int)]
theorem ES:∀l:List PG.cg,PyData.canLayAll0 (Dp.Ao (l.map uv))=true/\PyData.depthAll (Dp.Ao (l.map uv))<=2
 |[]=>by simp[Dp.Ao,PyData.canLayAll0,PyData.depthAll]
 |s::r=>by
  obtain⟨h1,h2⟩:=ES r
  obtain⟨i1,i2⟩:=EA s.2
  have k:(uv s).py.canLay0=true/\(uv s).py.depth<=2:=by
   unfold uv
   simp only[Dp.py,Dp.Ao,PyData.canLay0,PyData.canLayAll0,PyData.depth,PyData.depthAll,i1,i2,Bool.and_true,Bool.true_and,true_and]
   lia
  rw[Y9,Dp.Ao,PyData.canLayAll0,PyData.depthAll,h1,k.1]
  refine⟨rfl,?_⟩
  have:=k.2
  lia
theorem Df(l:List PG.cg):SeqAt.shaped (Dp.lst (l.map uv)).py=true:=by
 obtain⟨h1,h2⟩:=ES l
 unfold SeqAt.shaped
 rw[Dp.py,PyData.canLay0,h1,Bool.true_and,decide_eq_true_iff,PyData.depth]
 lia
theorem BA{K:k0}{H:Hp}:∀ {g:List PG.cg} {us:List V},fH K H g us->aP K H (g.map uv) us
 |[],_,h=>by cases h;exact .nil
 |s::r,_,h=>by
  cases h with
  |cons a b=>
   obtain⟨x,rfl,va,h1,h2⟩:=a
   exact .cons (Rep.bc.mpr ⟨x,_,rfl,h1,.cons rI_ (.cons (Rep.bc.mpr ⟨va,_,rfl,h2,yq _⟩) .nil)⟩) (BA b)
theorem ET{led:PG.cg->List PG.cg}{S:PG.cg->Prop}(li:∀s,S s->∀x∈led s,S x){n:Nat}:∀(m k:Nat) (f:jA) (as:List (List Int×List PG.cg)),yw S f->uO S k as->yw S (uN led n m f as)
 |0,_,f,as,h,_=>h
 |m+1,k,f,as,h,h2=>by
  rw[uN]
  split
  ·exact h
  ·have:=rV li (n:=n) (m:=k+1) (cM as) f h (tL h2)
   exact ET li m (k+1) _ _ this.1 this.2.1
theorem JN{pr:PG.Prog}(d:jO pr):yw (dw pr) (iG pr (tN pr)):=by
 have li:∀s,dw pr s->∀x∈c5 pr s,dw pr x:=fun s h=>vk d h
 have:=wz li (m:=0) (bB pr+1) [] (tN pr) [] .nil (dw.first d) (Wr _)
 exact ET li _ 0 _ _ this.1 this.2.1
theorem JO{pr:PG.Prog}{n:Nat}(h1:(PG.cK pr.body).length<=n)(h2:∀b∈pr.aK,b.size<=4)(h3:pr.aK.length<=3):bB pr<=(n+1)*64:=by
 unfold bB
 rw[PG.Jn]
 have l1:(EM pr).length+1<=n+1:=by unfold EM;rw[Zb,lJ];lia
 have l2:=PG.yy (jz pr) fun s hs=>by
  obtain⟨b,hb,rfl⟩:=zar.mp hs
  exact h2 b hb
 have l3:4 ^ (jz pr).length<=4 ^ 3:=zaJ (by decide) (by unfold jz;rw[Zb];exact h3)
 exact Nat.mul_le_mul l1 (zan l2 l3)
end L2
section
set_option maxHeartbeats 4000000
namespace Qc
open PySem L2
def top (i:Nat):Stmt:=PySem.Challenge.pw_everyrow_k27_whole_standings_found.main.body.getD i (.Pass ⟨0,0,0,0⟩)
abbrev Dg:Stmt:=top 2
abbrev ke:Stmt:=top 3
abbrev oH:Stmt:=top 4
abbrev kU:Stmt:=top 5
abbrev tP:Stmt:=top 6
abbrev oI:Stmt:=top 7
abbrev jB:Stmt:=top 8
abbrev zx:Stmt:=top 13
abbrev tQ:Stmt:=top 16
abbrev qJ:Stmt:=top 17
abbrev qK:Stmt:=top 18
abbrev zy:Stmt:=top 19
abbrev tR:Stmt:=top 22
abbrev ie:Stmt:=top 23
abbrev mL:Stmt:=top 24
abbrev oJ:Stmt:=top 27
abbrev aY:Stmt:=top 28
abbrev mM:Stmt:=top 29
abbrev ij:Stmt:=top 30
abbrev oK:Stmt:=top 32
abbrev wC:Stmt:=top 33
abbrev mO:Stmt:=top 34
abbrev mQ:Stmt:=top 35
abbrev mS:Stmt:=top 36
abbrev kW:Stmt:=top 37
abbrev kg:Stmt:=top 38
abbrev oM:Stmt:=top 39
abbrev tS:Stmt:=top 40
abbrev oN:Stmt:=top 41
abbrev iH:Stmt:=top 42
abbrev mT:Stmt:=top 43
abbrev kh:Stmt:=top 44
abbrev oO:Stmt:=top 45
abbrev gm:Stmt:=top 46
abbrev kX:Stmt:=top 47
abbrev jC:Stmt:=top 49
abbrev mU:Stmt:=top 50
abbrev mV:Stmt:=top 51
abbrev JP:Stmt:=top 52
abbrev dy:Stmt:=inClass (top 15) 0
theorem EU:bg ["program"] ["program"] (aN Dg):=⟨rfl,rfl,rfl,by decide +kernel,rfl,by decide +kernel,by decide +kernel⟩
theorem nA:bg ["body", "behind", "told", "place", "statement", "after", "inner"] ["body", "behind"] (aN ke):=⟨rfl,rfl,rfl,by decide +kernel,rfl,by decide +kernel,by decide +kernel⟩
theorem rW:bg ["body", "behind"] ["body", "behind"] (aN oH):=⟨rfl,rfl,rfl,by decide +kernel,rfl,by decide +kernel,by decide +kernel⟩
theorem oP:bg ["statement", "after"] ["statement", "after"] (aN kU):=⟨rfl,rfl,rfl,by decide +kernel,rfl,by decide +kernel,by decide +kernel⟩
theorem wD:bg ["statement", "after", "word"] ["statement", "after"] (aN tP):=⟨rfl,rfl,rfl,by decide +kernel,rfl,by decide +kernel,by decide +kernel⟩
theorem rX:bg ["statement"] ["statement"] (aN oI):=⟨rfl,rfl,rfl,by decide +kernel,rfl,by decide +kernel,by decide +kernel⟩
theorem lT:bg ["body", "found", "statement", "inner"] ["body"] (aN jB):=⟨rfl,rfl,rfl,by decide +kernel,rfl,by decide +kernel,by decide +kernel⟩
theorem BB:bg ["e", "values", "kind", "left", "right"] ["e", "values"] (aN zx):=⟨rfl,rfl,rfl,by decide +kernel,rfl,by decide +kernel,by decide +kernel⟩
theorem wF:bg ["chart", "row"] ["chart", "row"] (aN tQ):=⟨rfl,rfl,rfl,by decide +kernel,rfl,by decide +kernel,by decide +kernel⟩
theorem uy:bg ["chart", "parts"] ["chart", "parts"] (aN qJ):=⟨rfl,rfl,rfl,by decide +kernel,rfl,by decide +kernel,by decide +kernel⟩
theorem uz:bg ["chart", "named"] ["chart", "named"] (aN qK):=⟨rfl,rfl,rfl,by decide +kernel,rfl,by decide +kernel,by decide +kernel⟩
theorem BC:bg ["chart", "standing", "statement", "values", "left", "right"] ["chart", "standing"] (aN zy):=⟨rfl,rfl,rfl,by decide +kernel,rfl,by decide +kernel,by decide +kernel⟩
theorem wG:bg ["chart", "standing", "figure", "row", "statement", "word", "values", "said"] ["chart", "standing", "figure"] (aN tR):=⟨rfl,rfl,rfl,by decide +kernel,rfl,by decide +kernel,by decide +kernel⟩
theorem jH:bg ["chart", "standing", "row"] ["chart", "standing"] (aN ie):=⟨rfl,rfl,rfl,by decide +kernel,rfl,by decide +kernel,by decide +kernel⟩
theorem qc:bg ["chart", "standing", "word", "behind"] ["chart", "standing"] (aN mL):=⟨rfl,rfl,rfl,by decide +kernel,rfl,by decide +kernel,by decide +kernel⟩
theorem rY:bg ["program"] ["program"] (aN oJ):=⟨rfl,rfl,rfl,by decide +kernel,rfl,by decide +kernel,by decide +kernel⟩
theorem nC:bg ["chart"] ["chart"] (aN aY):=⟨rfl,rfl,rfl,by decide +kernel,rfl,by decide +kernel,by decide +kernel⟩
theorem qd:bg ["first", "led_from", "found", "asking", "behind", "figures", "led", "figure", "place"] ["first", "led_from"] (aN mM):=⟨rfl,rfl,rfl,by decide +kernel,rfl,by decide +kernel,by decide +kernel⟩
theorem wH:bg ["place", "led_from", "figures", "found", "led"] ["place", "led_from", "figures", "found"] (aN ij):=⟨rfl,rfl,rfl,by decide +kernel,rfl,by decide +kernel,by decide +kernel⟩
theorem rZ:bg ["deck", "at", "many", "cell", "j", "number"] ["deck"] (aN oK):=⟨rfl,rfl,rfl,by decide +kernel,rfl,by decide +kernel,by decide +kernel⟩
theorem yz:bg ["deck", "boxes", "deep", "kind", "one"] ["deck", "boxes", "deep"] (aN wC):=⟨rfl,rfl,rfl,by decide +kernel,rfl,by decide +kernel,by decide +kernel⟩
theorem qe:bg ["deck", "found", "spin", "k", "size"] ["deck"] (aN mO):=⟨rfl,rfl,rfl,by decide +kernel,rfl,by decide +kernel,by decide +kernel⟩
theorem qf:bg ["deck", "boxes", "k", "kind", "sign"] ["deck", "boxes", "k"] (aN mQ):=⟨rfl,rfl,rfl,by decide +kernel,rfl,by decide +kernel,by decide +kernel⟩
theorem qg:bg ["pile", "kind", "body", "head", "first", "told"] ["pile"] (aN mS):=⟨rfl,rfl,rfl,by decide +kernel,rfl,by decide +kernel,by decide +kernel⟩
theorem oQ:bg ["boxes", "rows", "mode"] ["boxes", "rows", "mode"] (aN kW):=⟨rfl,rfl,rfl,by decide +kernel,rfl,by decide +kernel,by decide +kernel⟩
theorem nE:bg ["deck", "many", "boxes", "pile", "rows", "mode", "turn", "k", "way", "kind", "body", "head", "first", "word", "condition"] ["deck", "many"] (aN kg):=⟨rfl,rfl,rfl,by decide +kernel,rfl,by decide +kernel,by decide +kernel⟩
theorem r9:bg ["rows", "matches", "opened", "at", "word"] ["rows"] (aN oM):=⟨rfl,rfl,rfl,by decide +kernel,rfl,by decide +kernel,by decide +kernel⟩
theorem wI:bg ["rows", "matches", "at", "word"] ["rows", "matches", "at"] (aN tS):=⟨rfl,rfl,rfl,by decide +kernel,rfl,by decide +kernel,by decide +kernel⟩
theorem se:bg ["rows", "matches", "found", "at", "row", "word", "near", "other"] ["rows"] (aN oN):=⟨rfl,rfl,rfl,by decide +kernel,rfl,by decide +kernel,by decide +kernel⟩
theorem ki:bg ["body", "found", "one", "part"] ["body"] (aN iH):=⟨rfl,rfl,rfl,by decide +kernel,rfl,by decide +kernel,by decide +kernel⟩
theorem qh:bg ["e", "values", "one", "other"] ["e", "values"] (aN mT):=⟨rfl,rfl,rfl,by decide +kernel,rfl,by decide +kernel,by decide +kernel⟩
theorem nF:bg ["boxes", "statement", "ways", "values", "figure", "names", "known", "word", "number", "at", "one", "other"] ["boxes", "statement", "ways", "values", "figure"] (aN kh):=⟨rfl,rfl,rfl,by decide +kernel,rfl,by decide +kernel,by decide +kernel⟩
theorem sf:bg ["program", "rows", "ways", "row", "word", "some", "first"] ["program", "rows"] (aN oO):=⟨rfl,rfl,rfl,by decide +kernel,rfl,by decide +kernel,by decide +kernel⟩
theorem iU:bg ["made", "standing", "figure", "row"] ["made", "standing", "figure"] (aN gm):=⟨rfl,rfl,rfl,by decide +kernel,rfl,by decide +kernel,by decide +kernel⟩
theorem oR:bg ["made", "standing"] ["made", "standing"] (aN kX):=⟨rfl,rfl,rfl,by decide +kernel,rfl,by decide +kernel,by decide +kernel⟩
theorem lU:bg ["made", "standing", "found"] ["made", "standing"] (aN jC):=⟨rfl,rfl,rfl,by decide +kernel,rfl,by decide +kernel,by decide +kernel⟩
theorem qi:bg ["made", "found", "level", "asks", "figures", "standing", "one", "figure"] ["made"] (aN mU):=⟨rfl,rfl,rfl,by decide +kernel,rfl,by decide +kernel,by decide +kernel⟩
theorem qj:bg ["found", "one"] ["found"] (aN mV):=⟨rfl,rfl,rfl,by decide +kernel,rfl,by decide +kernel,by decide +kernel⟩
theorem JQ:bg ["script", "deck", "many", "program", "rows", "due", "found"] ["script"] (aN JP):=⟨rfl,rfl,rfl,by decide +kernel,rfl,by decide +kernel,by decide +kernel⟩
theorem qk:bg ["self", "program", "boxes", "body"] ["self", "program"] (aN dy):=⟨rfl,rfl,rfl,by decide +kernel,rfl,by decide +kernel,by decide +kernel⟩
set_option genInjectivity false in
structure Ad where
 qL:Addr
 pN:zcA
 dO:Addr
 dX:zcA
 eB:Addr
 eC:zcA
 fM:Addr
 gn:zcA
 j4:Addr
 kj:zcA
 gu:Addr
 gC:zcA
 cB:Addr
 cI:zcA
 mW:Addr
 lV:zcA
 lW:Addr
 mX:zcA
 kl:Addr
 kL:zcA
 km:Addr
 kM:zcA
 sj:Addr
 sk:zcA
 lX:Addr
 mY:zcA
 dP:Addr
 eR:zcA
 iI:Addr
 ja:zcA
 jo:Addr
 jQ:zcA
 cf:Addr
 hX:zcA
 iJ:Addr
 jb:zcA
 fN:Addr
 mZ:zcA
 eD:Addr
 eE:zcA
 kn:Addr
 j5:zcA
 iK:Addr
 jc:zcA
 iL:Addr
 jd:zcA
 iM:Addr
 je:zcA
 g9:Addr
 iN:zcA
 gw:Addr
 hZ:zcA
 jq:Addr
 jR:zcA
 lY:Addr
 m7:zcA
 jr:Addr
 jS:zcA
 cN:Addr
 cU:zcA
 fC:Addr
 fO:zcA
 gx:Addr
 ia:zcA
 js:Addr
 jT:zcA
 de:Addr
 dQ:zcA
 hC:Addr
 iO:zcA
 fI:Addr
 gD:zcA
 iP:Addr
 jf:zcA
 iQ:Addr
 jg:zcA
 EV:Addr
 tT:zcA
 dC:Addr
 kY:zcA
 aV:Addr
 eO:Addr
 fQ:Addr
set_option genInjectivity false in
structure Tx(K:k0)(mg:Str->Option Value)(t:Ad):Prop where
 tU:cJ K mg "flow" Dg ["program"] t.qL t.pN
 cO:cJ K mg "flow_of_body" ke ["body", "behind"] t.dO t.dX
 bQ:cJ K mg "first_row" oH ["body", "behind"] t.eB t.eC
 fS:cJ K mg "behind_body" kU ["statement", "after"] t.fM t.gn
 j6:cJ K mg "ways_of" tP ["statement", "after"] t.j4 t.kj
 eG:cJ K mg "bodies_in" oI ["statement"] t.gu t.gC
 cC:cJ K mg "statements_in" jB ["body"] t.cB t.cI
 c6:cJ K mg "worth" zx ["e", "values"] t.mW t.lV
 gE:cJ K mg "word_at" tQ ["chart", "row"] t.lW t.mX
 fD:cJ K mg "by_names" qJ ["chart", "parts"] t.kl t.kL
 i5:cJ K mg "in_order" qK ["chart", "named"] t.km t.kM
 pO:cJ K mg "holds" zy ["chart", "standing"] t.sj t.sk
 gF:cJ K mg "step_by" tR ["chart", "standing", "figure"] t.lX t.mY
 cV:cJ K mg "behind_condition" ie ["chart", "standing"] t.dP t.eR
 gG:cJ K mg "all_led_to" mL ["chart", "standing"] t.iI t.ja
 eI:cJ K mg "standings" oJ ["program"] t.jo t.jQ
 eX:cJ K mg "first_inputs" aY ["chart"] t.cf t.hX
 gH:cJ K mg "found_from" mM ["first", "led_from"] t.iJ t.jb
 gI:cJ K mg "gone_on" ij ["place", "led_from", "figures", "found"] t.fN t.mZ
 ay:cJ K mg "_law_next" oK ["deck"] t.eD t.eE
 bS:cJ K mg "_law_e" wC ["deck", "boxes", "deep"] t.kn t.j5
 gJ:cJ K mg "_law_boxes" mO ["deck"] t.iK t.jc
 gK:cJ K mg "_law_plain" mQ ["deck", "boxes", "k"] t.iL t.jd
 dE:cJ K mg "_law_close" mS ["pile"] t.iM t.je
 c7:cJ K mg "_law_number" kW ["boxes", "rows", "mode"] t.g9 t.iN
 cQ:cJ K mg "_law_program" kg ["deck", "many"] t.gw t.hZ
 eJ:cJ K mg "_law_ends" oM ["rows"] t.jq t.jR
 dY:cJ K mg "_law_to" tS ["rows", "matches", "at"] t.lY t.m7
 ik:cJ K mg "_law_ways" oN ["rows"] t.jr t.jS
 bZ:cJ K mg "_law_statements" iH ["body"] t.cN t.cU
 bu:cJ K mg "_law_worth" mT ["e", "values"] t.fC t.fO
 eY:cJ K mg "_law_stepped" kh ["boxes", "statement", "ways", "values", "figure"] t.gx t.ia
 ip:cJ K mg "_law_made" oO ["program", "rows"] t.js t.jT
 bM:cJ K mg "_law_next_standing" gm ["made", "standing", "figure"] t.de t.dQ
 c8:cJ K mg "_law_is_ask" kX ["made", "standing"] t.hC t.iO
 dZ:cJ K mg "_law_till_ask" jC ["made", "standing"] t.fI t.gD
 gM:cJ K mg "_law_found" mU ["made"] t.iP t.jf
 gN:cJ K mg "_law_kinds" mV ["found"] t.iQ t.jg
 EW:cJ K mg "law" JP ["script"] t.EV t.tT
 jU:Gz K "__init__" "Chart.__init__" dy t.dC t.kY
 zz:Binds K t.kY ["self", "program"] []
 dv:Lh K t.aV
 JR:mg "Chart"=some (.ref t.aV)
 wJ:Mk K t.aV t.dC
 gy:jv K t.aV "names"
 gA:jv K t.aV "sizes"
 iR:jv K t.aV "first"
 cR:jv K t.aV "statements"
 fT:jv K t.aV "ways"
 wK:LN K t.eO
 uC:zcd K (.ref t.eO) (.ref t.eO)=some true
 NU:mg "RowError"=some (.ref t.eO)
 yA:LN K t.fQ
 wL:zcd K (.ref t.fQ) (.ref t.fQ)=some true
 Qd:mg "TooMany"=some (.ref t.fQ)
 zF:∃u,mg "END"=some u/\RelV (.int 0) u
 uP:∃u,mg "FIGURE_COUNT"=some u/\RelV (.int 10) u
 wM:∃u,mg "MOST_PLACES"=some u/\RelV (.int 2000) u
 iq:mg "len"=none
 jV:mg "range"=none
 Dh:mg "bool"=none
 qM:mg "dict"=none
 oS:mg "list"=none
 m8:mg "tuple"=none
 JS:mg "max"=none
 JT:mg "min"=none
 gO:mg "isinstance"=none
 kN:mg "enumerate"=none
 EX:mg "zip"=none
 sr:mg "ValueError"=none
end Qc
end
section
set_option maxHeartbeats 4000000
namespace Qc
open PySem L2
local macro_rules | `(tactic|walk_at "rd")=>`(tactic|((try dsimp only[G7,G9,GN,RH,M8,YV,OB,GS,RK,Wc,OV,Uy,Hc,yS,Ni,OO,AG,DP,DO,VY,rU,Sn,DI,DJ,Nd,Na,GR,M9,OG,GW,OF,OH,Nu,Ld,GU,Ec,Nv,HD,HE,HF,HG,HH,HI,HJ,HK,HL,HM,En,Eo,Ep,Eu,Ew,Pl,Si,OC,GQ,GX,gW,Nw,Nx,zaN,Ed,Ee,HP,Eh,Ei,AQ,C4,C6,Ji,Ej,Ny,Sk,HY,HQ,HR,VQ,zay,zav,V0,zak,HS,HU,Jo,Jp,Ef]);(try simp only[G7,G9,GN,RH,M8,YV,OB,GS,RK,Wc,OV,Uy,Hc,yS,Ni,OO,AG,DP,DO,VY,rU,Sn,DI,DJ,Nd,Na,GR,M9,Pa,Pb,OG,GW,OF,OH,Nu,Ld,GU,Ec,Nv,HD,HE,HF,HG,HH,HI,HJ,HK,HL,HM,En,Eo,Ep,Eu,Ew,Pl,Si,OC,GQ,GX,gW,Hz,Wn,Nw,Nx,Sj,LD,HN,Pc,Pd,zaN,Ed,Ee,HP,Eh,Ei,AQ,C4,C6,Ji,Ej,Ny,Sk,HY,HQ,HR,VQ,zab,zay,zav,LH,LJ,true_and,and_true,V0,zak,LK,HS,HU,Jo,Jp,Ef,Int.reduceLT,Int.reduceLE,Nat.reduceLeDiff,Nat.reduceAdd,and_self])))
section
variable{P:zcD}{w:World}{K:k0}{mg:Str->Option Value}{base:Heap}{t:Ad}
theorem BD{ss:List PG.bH}{vs:List V}(l:vs.length=ss.length):(zao ss.length).map (fun i=>((Sum.inl (ss.getD i (.stop 0)).row:Key),vs.getD i .cD))=cX ss vs:=by
 apply zbA
 ·simp[cX,l]
 ·intro i h1 h2
  simp at h1
  simp[cX,h1,l]
theorem zG{fl:List PG.fk}{vs:List V}(l:vs.length=fl.length):(zao fl.length).map (fun i=>((Sum.inl (fl.getD i (0,.stop,[])).1:Key),vs.getD i .cD))=zaS (fun r v=>(Sum.inl r.1,v)) fl vs:=by
 apply zbA
 ·simp[l]
 ·intro i h1 h2
  simp at h1
  simp[h1,l]
theorem BE{fl:List PG.fk}{vs:List V}(l:vs.length=fl.length):(zaS (fun r v=>((Sum.inl r.1:Key),v)) fl vs).map (·.1)=fl.map fun r=>(Sum.inl r.1:Key):=by
 apply zbA
 ·simp[l]
 ·intro i h1 h2
  simp
theorem EY{K:k0}{H:Hp}:∀ {fl:List PG.fk} {us:List V},aP K H (fl.map gh) us->∃ws:List V,ws.length=fl.length/\∀i (hi:i<fl.length),∃a q,us[i]?=some (.ref a)/\ws[i]?=some (.ref q)/\b8 K H a [.int fl[i].1,.str (hV fl[i].2.1),.ref q]/\b8 K H q (fl[i].2.2.map V.int)
 |[],us,_=>⟨[],rfl,fun i hi=>by simp at hi⟩
 |r::fl,us,h=>by
  have h0:=h
  rw[Y9,aP.aI] at h
  obtain⟨v,tl,rfl,h1,h2⟩:=h
  obtain⟨ws,l,hw⟩:=EY h2
  obtain⟨a,q,e,s1,s2⟩:=Bj h0 (i:=0) (y:=v) rfl (by simp)
  refine⟨.ref q::ws,by simp[l],fun i hi=>?_⟩
  cases i with
  |zero=>exact⟨a,q,by rw[e];rfl,rfl,s1,s2⟩
  |succ i=>
   obtain⟨a',q',e1,e2,e3,e4⟩:=hw i (by simpa using hi)
   exact⟨a',q',by simpa using e1,by simpa using e2,by simpa using e3,by simpa using e4⟩
theorem Di{b:List PG.bH}(pw:(PG.aC b).Pairwise fun a b=>a.row<b.row):((PG.aS b 0).map fun r=>(Sum.inl r.1:Key)).Nodup:=by
 have e:(PG.aS b 0).map (fun r=>(Sum.inl r.1:Key))=(PG.aC b).map fun s=>(Sum.inl s.row:Key):=by
  have h:((PG.aS b 0).map fun r=>(r.1,r.2.1))=(PG.aC b).map fun x=>(x.row,x.wd):=by rw[PG.eU,PG.fL]
  have h2:=congrArg (List.map fun r:Int×PG.Wd=>(Sum.inl r.1:Key)) h
  rw[za8,za8] at h2
  exact h2
 rw[e]
 exact qF pw
theorem oT{K:k0}{H:Hp}{B:Addr}{bs:List PG.fW}(r:Rep K H (.lst (bs.map iA)) (.ref B)):∃xs,gS K H B xs/\xs.length=bs.length/\∀i x,xs[i]?=some x->∃a,x=.ref a/\b8 K H a [.str (S (bs.getD i ⟨[],0,0⟩).name),.int (bs.getD i ⟨[],0,0⟩).size,.int (bs.getD i ⟨[],0,0⟩).first]:=by
 rw[Rep.bC] at r
 obtain⟨_,xs,e,q,rs⟩:=r
 cases e
 have lx:xs.length=bs.length:=by rw[rs.length,Zb]
 refine⟨xs,q,lx,fun i x hx=>?_⟩
 have li:i<bs.length:=by have:=(WD.mp hx).1;lia
 obtain⟨v,hv,rv⟩:=rs.get (i:=i) (d:=iA bs[i]) (by rw[UB,Za li];rfl)
 rw[hx] at hv
 cases hv
 have eg:bs.getD i ⟨[],0,0⟩=bs[i]:=by rw[Y7,Za li];rfl
 rw[eg]
 simp only[iA,Rep.bc,aP.aI,aP.bh,Rep.bI,Rep.bw] at rv
 obtain⟨a,ys,rfl,hS,_,_,rfl,rfl,_,_,rfl,rfl,_,_,rfl,rfl,rfl⟩:=rv
 exact⟨a,rfl,hS⟩
theorem qN{aG:List (Key×V)}(h:(aG.map (·.1)).Nodup):iz [] aG=aG:=by
 have:=i3 aG [] (by simpa using h)
 simpa using this
theorem xq(T:Tx K mg t)(eK:bN P w K mg base dU 1 t.eB t.eC ["body", "behind"] (rM K))(fJ:bN P w K mg base dU 6 t.cB t.cI ["body"] (pJ K 4))(Dj:bN P w K mg base dU 7 t.qL t.pN ["program"] (CL K)) :
 bN P w K mg base dU 8 t.dC t.kY ["self", "program"] (Mf K t.aV):=by
 refine T.jU.mq qk (fun vs H Q E h=>?_) (fun fc A outer s H vs Q E hr h=>?_)
 ·obtain⟨_,_,_,_,rfl,_⟩:=h
  rfl
 obtain⟨p,dx,v,pr,rfl,hp,UQ,rp,hd,hf,pw,nb,lb,q⟩:=h
 have nd:=qk.nd
 obtain⟨JU,wN,wO⟩:=T.zF
 refine⟨_,[some (.ref p),some v,none,none],(ai (aQ (i:=2) nd rfl (Ws rfl) (aD aR (pv 1) ak ao))
 (ai (aQ (i:=3) nd rfl (Ws rfl) (aD aR (pv 1) ak ao))
 (ai (vz (pv 0) (i7 (own:=["box"]) (ix:=[]) rfl (by rfl) (by rfl) (df (pv 2)) (fun _ _ _ _=>(a9 (i:=0) (by show List.Nodup (["box"]:List Str);decide +kernel) rfl (Ws rfl))) (fun _ _ _ _=>jJ) (fun _ _ _ _=>(aD (i8 (K:=K) rfl) (pv 0) ak ao))) rfl)
 (ai (vz (pv 0) (eS (qG rfl) rfl T.qM PyProof.Rows.Boot.«dict» (aa (i7 (own:=["box"]) (ix:=[]) rfl (by rfl) (by rfl) (df (pv 2)) (fun _ _ _ _=>(a9 (i:=0) (by show List.Nodup (["box"]:List Str);decide +kernel) rfl (Ws rfl))) (fun _ _ _ _=>jJ) (fun _ _ _ _=>(a7 (aa (aD (i8 (K:=K) rfl) (pv 0) ak ao) (aa (aD (i8 (K:=K) rfl) (pv 0) ak ao) ah a8) a8)))) ah mw)) rfl)
 (ai (vz (pv 0) (a7 (aa (az eK (hr.mono (by first|decide|omega)) rfl T.bQ.m T.bQ.F.kp T.bQ.b .nil aW (aa (pv 3) (aa (o9 rfl wN wO) ah ag) ag)) (aa (eS kP rfl T.m8 PyProof.Rows.Boot.«tuple» (aa (i7 (own:=["box"]) (ix:=[]) rfl (by rfl) (by rfl) (df (pv 2)) (fun _ _ _ _=>(a9 (i:=0) (by show List.Nodup (["box"]:List Str);decide +kernel) rfl (Ws rfl))) (fun _ _ _ _=>jJ) (fun _ _ _ _=>(aD (i8 (K:=K) rfl) (pv 0) ak ao))) ah mw)) ah bG) bG)) rfl)
 (ai (vz (pv 0) (eS (qG rfl) rfl T.qM PyProof.Rows.Boot.«dict» (aa (i7 (own:=["statement"]) (ix:=[]) rfl (by rfl) (by rfl) (df (az fJ (hr.mono (by first|decide|omega)) rfl T.cC.m T.cC.F.kp T.cC.b .nil aW (aa (pv 3) ah ag))) (fun _ _ _ _=>(a9 (i:=0) (by show List.Nodup (["statement"]:List Str);decide +kernel) rfl (Ws rfl))) (fun _ _ _ _=>jJ) (fun _ _ _ _=>(a7 (aa (aD (i8 (K:=K) rfl) (pv 0) ak ao) (aa (pv 0) ah ag) a8)))) ah mw)) rfl)
 (au (vz (pv 0) (eS (qG rfl) rfl T.qM PyProof.Rows.Boot.«dict» (aa (i7 (own:=["told"]) (ix:=[]) rfl (by rfl) (by rfl) (df (az Dj (hr.mono (by first|decide|omega)) rfl T.tU.m T.tU.F.kp T.tU.b .nil aW (aa (pv 1) ah ag))) (fun _ _ _ _=>(a9 (i:=0) (by show List.Nodup (["told"]:List Str);decide +kernel) rfl (Ws rfl))) (fun _ _ _ _=>jJ) (fun _ _ _ _=>(a7 (aa (aD (i8 (K:=K) rfl) (pv 0) ak ao) (aa (aD (i8 (K:=K) rfl) (pv 0) ak ao) ah a8) a8)))) ah mw)) rfl)))))))),rfl,?_⟩
 have line:zcz=2 ^ 24:=rfl
 have Xb:=rp
 unfold i0 at Xb
 rw[Rep.bc] at Xb
 obtain⟨pa,pxs,rfl,NV,Dl⟩:=Xb
 rw[aP.aI] at Dl
 obtain⟨v1,t1,rfl,MG,Dl⟩:=Dl
 rw[aP.aI] at Dl
 obtain⟨v2,t2,rfl,Rb,Dl⟩:=Dl
 obtain⟨bb,_,rfl,_⟩:=Rep.bC.mp Rb
 obtain⟨bx,_,rfl,_⟩:=Rep.bC.mp MG
 refine ax fun U1 fU=>?_
 walk_at "rd"
 refine aM NV (v:=.ref bx) (av (j:=0) rfl) ((fU _ _).mpr (ax fun U2 iu=>?_))
 clear fU
 walk_at "rd"
 refine aM NV (v:=.ref bb) (av (j:=1) rfl) ((iu _ _).mpr (ax fun U3 jW=>?_))
 clear iu
 walk_at "rd"
 simp only[AG,kD]
 walk_at "rd"
 obtain⟨xs1,Zu,lx1,g1⟩:=oT MG
 refine⟨⟨_,Zu⟩,fun D1 UR=>lL (K:=K) (r:=[]) (fun i=>.str (S (pr.aK.getD i ⟨[],0,0⟩).name)) Zu (by lia) UR (fun i x H2 hx s2 R hR=>?_) (fun H2 s2 h2=>⟨p,_,dx,[],rfl,s2 _ _ hp,T.dv,T.gy,by decide,(jW _ _).mpr (ax fun U4 lZ=>?_)⟩)⟩
 ·obtain⟨a,rfl,ha⟩:=g1 i x hx
  walk_at "rd"
  exact aM (s2.bo ha) (v:=.str (S (pr.aK.getD i ⟨[],0,0⟩).name)) (av (j:=0) rfl) hR
 clear jW
 rw[lx1,j3 (fun b:PG.fW=>V.str (S b.name))] at h2
 have xf:=s2 _ _ hp
 have n1:D1≠p:=(aj hp UR).symm
 have u3:br (·=p) H (upd H2 p (.ins t.aV dx [("names",.ref D1)])):=(br.of s2).trans (br.refl.put (O:=(·=p)) rfl _)
 have B2:(upd H2 p (.ins t.aV dx [("names",.ref D1)])) p=some (.ins t.aV dx [("names",.ref D1)]):=ae
 have d1:(upd H2 p (.ins t.aV dx [("names",.ref D1)])) D1=some (.lst (pr.aK.map fun b=>.str (S b.name))):=by rw[aw n1];exact h2
 rw[show kr (v9 "names") (V.ref D1) []=[(v9 "names",V.ref D1)] from rfl]
 generalize upd H2 p (.ins t.aV dx [("names",.ref D1)])=H3 at *
 walk_at "rd"
 simp only[AG,kD]
 walk_at "rd"
 have pr3:=pK hp u3 _ _ MG
 obtain⟨xs3,Zv,lx3,g3⟩:=oT pr3
 refine⟨⟨_,Zv⟩,fun D2 KQ=>qH (K:=K) (r:=[]) (fun i=>(.inr (S (pr.aK.getD i ⟨[],0,0⟩).name),.int (pr.aK.getD i ⟨[],0,0⟩).size)) Zv (by lia) KQ (fun i x H2 hx s2 R hR=>?_) (fun ps H4 s4 h4 Me ep=>⟨D2,ps,rfl,.of h4,fun q hq=>.of (Me q hq),?_,fun D3 GD=>⟨p,_,dx,_,rfl,aq.new GD _ _ _ (s4 _ _ B2),T.dv,T.gA,by simp,(lZ _ _).mpr (ax fun U5 xi=>?_)⟩⟩)⟩
 ·obtain⟨a,rfl,ha⟩:=g3 i x hx
  walk_at "rd"
  exact aM (s2.bo ha) (v:=.str (S (pr.aK.getD i ⟨[],0,0⟩).name)) (av (j:=0) rfl) (aM (s2.bo ha) (v:=.int (pr.aK.getD i ⟨[],0,0⟩).size) (av (j:=1) rfl) hR)
 ·have:=congrArg zaO ep
  simp only[Zb,zbc] at this
  lia
 clear lZ
 have ek:ps.map (fun q=>(q.2.1,q.2.2))=pr.aK.map fun b=>(Sum.inr (S b.name),V.int b.size):=by
  rw[show (fun q:Addr×Key×V=>(q.2.1,q.2.2))=(·.2) from rfl,ep,lx3,j3 (fun b:PG.fW=>((Sum.inr (S b.name):Key),V.int b.size))]
 have nk:((pr.aK.map fun b=>((Sum.inr (S b.name):Key),V.int b.size)).map (·.1)).Nodup:=by
  rw[za8]
  refine zaV.mpr ((zaV.mp nb).imp fun {a b} Ey e=>Ey ?_)
  exact nV.mp (Sum.inr.inj e)
 rw[ek,qN nk,show kr (v9 "sizes") (V.ref D3) [(v9 "names",V.ref D1)]=[(v9 "names",V.ref D1),(v9 "sizes",V.ref D3)] from rfl]
 have S7:=s4.trans (aq.new GD (.dK (pr.aK.map fun b=>(Sum.inr (S b.name),V.int b.size))))
 have d3:(upd H4 D3 (.dK (pr.aK.map fun b=>(Sum.inr (S b.name),V.int b.size)))) D3=some (.dK (pr.aK.map fun b=>(Sum.inr (S b.name),V.int b.size))):=ae
 generalize upd H4 D3 (.dK (pr.aK.map fun b=>(Sum.inr (S b.name),V.int b.size)))=H5 at *
 have n3:D3≠p:=bR d3 (S7 _ _ B2) (by intro z;cases z)
 have u6:br (·=p) H3 (upd H5 p (.ins t.aV dx [(v9 "names",V.ref D1),(v9 "sizes",V.ref D3)])):=(br.of S7).trans (br.refl.put (O:=(·=p)) rfl _)
 have l0:(upd H5 p (.ins t.aV dx [(v9 "names",V.ref D1),(v9 "sizes",V.ref D3)])) p=some (.ins t.aV dx [(v9 "names",V.ref D1),(v9 "sizes",V.ref D3)]):=ae
 have d3:(upd H5 p (.ins t.aV dx [(v9 "names",V.ref D1),(v9 "sizes",V.ref D3)])) D3=some (.dK (pr.aK.map fun b=>(Sum.inr (S b.name),V.int b.size))):=by rw[aw n3];exact d3
 generalize upd H5 p (.ins t.aV dx [(v9 "names",V.ref D1),(v9 "sizes",V.ref D3)])=H6 at *
 have d1:=u6 _ _ n1 d1
 have u6:=u3.trans u6
 have pr6:=pK hp u6 _ _ MG
 have pb6:=pK hp u6 _ _ Rb
 walk_at "rd"
 simp only[AG,kD]
 walk_at "rd"
 have lbd:=j0 pr.body
 obtain⟨xs6,Zw,lx6,g6⟩:=oT pr6
 refine⟨bb,pr.body,0,rfl,pb6,by lia,⟨_,Zw⟩,fun D4 hD4=>lL (K:=K) (r:=[]) (fun i=>.int (pr.aK.getD i ⟨[],0,0⟩).first) Zw (by lia) hD4 (fun i x H2 hx s2 R hR=>?_) (fun H7 s7 h7=>⟨D4,_,rfl,.inl ⟨.of h7,fun D5 Zx D6 Rc=>⟨p,_,dx,_,rfl,aq.new Rc _ _ _ (aq.new Zx _ _ _ (s7 _ _ l0)),T.dv,T.iR,by simp,(xi _ _).mpr (ax fun U6 zH=>?_)⟩⟩⟩)⟩
 ·obtain⟨a,rfl,ha⟩:=g6 i x hx
  walk_at "rd"
  exact aM (s2.bo ha) (v:=.int (pr.aK.getD i ⟨[],0,0⟩).first) (av (j:=2) rfl) hR
 clear xi
 rw[show kr (v9 "first") (V.ref D6) [(v9 "names",V.ref D1),(v9 "sizes",V.ref D3)]=[(v9 "names",V.ref D1),(v9 "sizes",V.ref D3),(v9 "first",V.ref D6)] from rfl]
 rw[lx6,j3 (fun b:PG.fW=>V.int b.first)] at Rc ⊢
 have s8:=s7.trans ((aq.new Zx (.tup (pr.aK.map fun b=>V.int b.first))).trans (aq.new Rc (.tup [V.int (PG.bt pr.body 0),V.ref D5])))
 have d5:(upd (upd H7 D5 (.tup (pr.aK.map fun b=>V.int b.first))) D6 (.tup [V.int (PG.bt pr.body 0),V.ref D5])) D5=some (.tup (pr.aK.map fun b=>V.int b.first)):=aq.new Rc _ _ _ ae
 have d6:(upd (upd H7 D5 (.tup (pr.aK.map fun b=>V.int b.first))) D6 (.tup [V.int (PG.bt pr.body 0),V.ref D5])) D6=some (.tup [V.int (PG.bt pr.body 0),V.ref D5]):=ae
 generalize upd (upd H7 D5 (.tup (pr.aK.map fun b=>V.int b.first))) D6 (.tup [V.int (PG.bt pr.body 0),V.ref D5])=H8 at *
 have US:=s8 _ _ l0
 have n5:D5≠p:=bR d5 US (by intro z;cases z)
 have n6:D6≠p:=bR d6 US (by intro z;cases z)
 have u9:br (·=p) H6 (upd H8 p (.ins t.aV dx [(v9 "names",V.ref D1),(v9 "sizes",V.ref D3),(v9 "first",V.ref D6)])):=(br.of s8).trans (br.refl.put (O:=(·=p)) rfl _)
 have Xc:(upd H8 p (.ins t.aV dx [(v9 "names",V.ref D1),(v9 "sizes",V.ref D3),(v9 "first",V.ref D6)])) p=some (.ins t.aV dx [(v9 "names",V.ref D1),(v9 "sizes",V.ref D3),(v9 "first",V.ref D6)]):=ae
 have d5:(upd H8 p (.ins t.aV dx [(v9 "names",V.ref D1),(v9 "sizes",V.ref D3),(v9 "first",V.ref D6)])) D5=some (.tup (pr.aK.map fun b=>V.int b.first)):=by rw[aw n5];exact d5
 have d6:(upd H8 p (.ins t.aV dx [(v9 "names",V.ref D1),(v9 "sizes",V.ref D3),(v9 "first",V.ref D6)])) D6=some (.tup [V.int (PG.bt pr.body 0),V.ref D5]):=by rw[aw n6];exact d6
 generalize upd H8 p (.ins t.aV dx [(v9 "names",V.ref D1),(v9 "sizes",V.ref D3),(v9 "first",V.ref D6)])=H9 at *
 have d1:=u9 _ _ n1 d1
 have d3:=u9 _ _ n3 d3
 have u9:=u6.trans u9
 have pb9:=pK hp u9 _ _ Rb
 walk_at "rd"
 simp only[AG,kD]
 walk_at "rd"
 refine⟨bb,pr.body,H9,rfl,aq.refl _,pb9,by lia,hf,fun UT us sM ql Xd UU Rf=>?_⟩
 have sl:=lJ pr.body
 have sJ:us.length=(PG.aC pr.body).length:=by rw[Rf.length,Zb]
 refine⟨UT,rfl,⟨_,.of UU⟩,fun D7 hD7=>qH (K:=K) (r:=[]) (fun i=>(.inl ((PG.aC pr.body).getD i (.stop 0)).row,us.getD i .cD)) (.of UU) (by lia) hD7 (fun i x H2 hx s2 R hR=>?_) (fun ps JV Qe GC Me ep=>⟨D7,ps,rfl,.of GC,fun q hq=>.of (Me q hq),?_,fun D8 Zy=>⟨p,_,dx,_,rfl,aq.new Zy _ _ _ (Qe _ _ (ql _ _ Xc)),T.dv,T.cR,by simp,(zH _ _).mpr ?_⟩⟩)⟩
 ·have li:i<(PG.aC pr.body).length:=by have:=(WD.mp hx).1;lia
  obtain⟨v',KI,rv⟩:=Rf.get (i:=i) (d:=dq (PG.aC pr.body)[i]) (by rw[UB,Za li];rfl)
  rw[hx] at KI
  cases KI
  have e1:(PG.aC pr.body).getD i (.stop 0)=(PG.aC pr.body)[i]:=by rw[Y7,Za li];rfl
  have e2:us.getD i .cD=x:=by rw[Y7,hx];rfl
  rw[e1,e2] at hR
  obtain⟨sa,ys,rfl,hs⟩:=ig _ rv
  walk_at "rd"
  exact aM ((ql.trans s2).bo hs) (v:=.int (PG.aC pr.body)[i].row) (av (j:=1) rfl) hR
 ·have:=congrArg zaO ep
  simp only[Zb,zbc] at this
  lia
 clear zH
 have ek:ps.map (fun q=>(q.2.1,q.2.2))=cX (PG.aC pr.body) us:=by
  rw[show (fun q:Addr×Key×V=>(q.2.1,q.2.2))=(·.2) from rfl,ep,sJ,BD sJ]
 have nk:((cX (PG.aC pr.body) us).map (·.1)).Nodup:=by
  rw[ic _ _ sJ]
  exact qF pw
 rw[ek,qN nk,show kr (v9 "statements") (V.ref D8) [(v9 "names",V.ref D1),(v9 "sizes",V.ref D3),(v9 "first",V.ref D6)]=[(v9 "names",V.ref D1),(v9 "sizes",V.ref D3),(v9 "first",V.ref D6),(v9 "statements",V.ref D8)] from rfl]
 have Rg:=(ql.trans Qe).trans (aq.new Zy (.dK (cX (PG.aC pr.body) us)))
 have d8:(upd JV D8 (.dK (cX (PG.aC pr.body) us))) D8=some (.dK (cX (PG.aC pr.body) us)):=ae
 generalize upd JV D8 (.dK (cX (PG.aC pr.body) us))=MH at *
 have Xe:=Rg _ _ Xc
 have n8:D8≠p:=bR d8 Xe (by intro z;cases z)
 have As:br (·=p) H9 (upd MH p (.ins t.aV dx [(v9 "names",V.ref D1),(v9 "sizes",V.ref D3),(v9 "first",V.ref D6),(v9 "statements",V.ref D8)])):=(br.of Rg).trans (br.refl.put (O:=(·=p)) rfl _)
 have Qf:(upd MH p (.ins t.aV dx [(v9 "names",V.ref D1),(v9 "sizes",V.ref D3),(v9 "first",V.ref D6),(v9 "statements",V.ref D8)])) p=some (.ins t.aV dx [(v9 "names",V.ref D1),(v9 "sizes",V.ref D3),(v9 "first",V.ref D6),(v9 "statements",V.ref D8)]):=ae
 have d8:(upd MH p (.ins t.aV dx [(v9 "names",V.ref D1),(v9 "sizes",V.ref D3),(v9 "first",V.ref D6),(v9 "statements",V.ref D8)])) D8=some (.dK (cX (PG.aC pr.body) us)):=by rw[aw n8];exact d8
 generalize upd MH p (.ins t.aV dx [(v9 "names",V.ref D1),(v9 "sizes",V.ref D3),(v9 "first",V.ref D6),(v9 "statements",V.ref D8)])=NW at *
 have d1:=As _ _ n1 d1
 have d3:=As _ _ n3 d3
 have d5:=As _ _ n5 d5
 have d6:=As _ _ n6 d6
 have Xf:=lK Xc As _ _ Rf
 have As:=u9.trans As
 have Xg:=pK hp As _ _ rp
 walk_at "rd"
 simp only[AG,kD]
 walk_at "rd"
 refine⟨_,pr,rfl,Xg,hd,hf,fun l14 fv Xh KR ace NX UW=>?_⟩
 obtain⟨ws,Xi,Zz⟩:=EY UW
 have lfv:fv.length=(PG.aS pr.body 0).length:=by rw[UW.length,Zb]
 have lfl:(PG.aS pr.body 0).length=(PG.aC pr.body).length:=by
  have h1:=congrArg zaO (PG.eU pr.body 0)
  rw[Zb] at h1
  lia
 refine⟨l14,rfl,⟨_,.of NX⟩,fun D9 MJ=>qH (K:=K) (r:=[]) (fun i=>(.inl ((PG.aS pr.body 0).getD i (0,.stop,[])).1,ws.getD i .cD)) (.of NX) (by lia) MJ (fun i x H2 hx s2 R hR=>?_) (fun ps NY MK Wk Me ep=>⟨D9,ps,rfl,.of Wk,fun q hq=>.of (Me q hq),?_,fun Qg Qh=>⟨p,_,dx,_,rfl,aq.new Qh _ _ _ (MK _ _ (KR _ _ Qf)),T.dv,T.fT,by simp,?_⟩⟩)⟩
 ·have li:i<(PG.aS pr.body 0).length:=by have:=(WD.mp hx).1;lia
  obtain⟨a,qq,e1,e2,q1,q2⟩:=Zz i li
  rw[hx] at e1
  cases e1
  have g1:(PG.aS pr.body 0).getD i (0,.stop,[])=(PG.aS pr.body 0)[i]:=by rw[Y7,Za li];rfl
  have g2:ws.getD i .cD=V.ref qq:=by rw[Y7,e2];rfl
  rw[g1,g2] at hR
  walk_at "rd"
  exact aM (s2.bo q1) (v:=.int (PG.aS pr.body 0)[i].1) (av (j:=0) rfl) (aM (s2.bo q1) (v:=.ref qq) (av (j:=2) rfl) hR)
 ·have:=congrArg zaO ep
  simp only[Zb,zbc] at this
  lia
 have ek:ps.map (fun q=>(q.2.1,q.2.2))=zaS (fun r v=>(Sum.inl r.1,v)) (PG.aS pr.body 0) ws:=by
  rw[show (fun q:Addr×Key×V=>(q.2.1,q.2.2))=(·.2) from rfl,ep,lfv,zG Xi]
 have nk:((zaS (fun r v=>((Sum.inl r.1:Key),v)) (PG.aS pr.body 0) ws).map (·.1)).Nodup:=by
  rw[BE Xi]
  exact Di pw
 rw[ek,qN nk,show kr (v9 "ways") (V.ref Qg) [(v9 "names",V.ref D1),(v9 "sizes",V.ref D3),(v9 "first",V.ref D6),(v9 "statements",V.ref D8)]=[(v9 "names",V.ref D1),(v9 "sizes",V.ref D3),(v9 "first",V.ref D6),(v9 "statements",V.ref D8),(v9 "ways",V.ref Qg)] from rfl]
 have ML:=(KR.trans MK).trans (aq.new Qh (.dK (zaS (fun r v=>(Sum.inl r.1,v)) (PG.aS pr.body 0) ws)))
 have S8:=MK.trans (aq.new Qh (.dK (zaS (fun r v=>(Sum.inl r.1,v)) (PG.aS pr.body 0) ws)))
 have Rh:(upd NY Qg (.dK (zaS (fun r v=>(Sum.inl r.1,v)) (PG.aS pr.body 0) ws))) Qg=some (.dK (zaS (fun r v=>(Sum.inl r.1,v)) (PG.aS pr.body 0) ws)):=ae
 generalize upd NY Qg (.dK (zaS (fun r v=>(Sum.inl r.1,v)) (PG.aS pr.body 0) ws))=Ta at *
 have Qi:=ML _ _ Qf
 have n10:Qg≠p:=bR Rh Qi (by intro z;cases z)
 have put:∀fs,br (·=p) Ta (upd Ta p (.ins t.aV dx fs)):=fun fs=>br.refl.put (O:=(·=p)) rfl _
 have uE:=fun fs=>(br.of ML).trans (put fs)
 have uA:=fun fs=>As.trans (uE fs)
 refine q _ (fun b o n e=>uA _ b o n e) ⟨⟨dx,D1,D3,D6,D5,D8,Qg,us,ws,ae,uA _ _ _ (bR UQ hp (by intro z;cases z)) UQ,uE _ _ _ n1 d1,uE _ _ _ n3 d3,uE _ _ _ n6 d6,uE _ _ _ n5 d5,sJ,uE _ _ _ n8 d8,lK Qf (uE _) _ _ Xf,Xi,put _ _ _ n10 Rh,fun i hi=>?_⟩⟩
 obtain⟨a,qq,e1,e2,q1,q2⟩:=Zz i hi
 refine⟨qq,e2,?_⟩
 have q2:=S8.bo q2
 rcases q2 with (q2 |⟨o,q2⟩) |q2
 ·exact .inl (.inl (put _ _ _ (bR q2 Qi (by intro z;cases z)) q2))
 ·exact .inl (.inr ⟨o,put _ _ _ (bR q2 Qi (by intro z;cases z)) q2⟩)
 ·exact .inr q2
theorem MM{o:W}(ho:o=[43]\/o=[45]\/o=[42])(a b c:Int):cY (iz [] [((Sum.inr (v9 "+"):Key),V.int a),(Sum.inr (v9 "-"),V.int b),(Sum.inr (v9 "*"),V.int c)]) (Sum.inr (S o))=some (V.int (if o=[43] then a else if o=[45] then b else c)):=by
 have nk:([(Sum.inr (v9 "+"):Key),Sum.inr (v9 "-"),Sum.inr (v9 "*")]).Nodup:=by decide +kernel
 rw[i3 _ [] (by simpa using nk),zay]
 have e1:(Sum.inr (v9 "+"):Key)=Sum.inr (S [43]):=by decide +kernel
 have e2:(Sum.inr (v9 "-"):Key)=Sum.inr (S [45]):=by decide +kernel
 have e3:(Sum.inr (v9 "*"):Key)=Sum.inr (S [42]):=by decide +kernel
 have ne:∀x y:W,x≠y->¬(Sum.inr (S x):Key)=Sum.inr (S y):=fun x y n z=>n (nV.mp (Sum.inr.inj z))
 rw[e1,e2,e3]
 rcases ho with rfl |rfl |rfl
 ·rw[if_pos rfl,cF rfl]
 ·rw[if_neg (by decide),if_pos rfl,cG (ne _ _ (by decide)),cF rfl]
 ·rw[if_neg (by decide),if_neg (by decide),cG (ne _ _ (by decide)),cG (ne _ _ (by decide)),cF rfl]
theorem JW(T:Tx K mg t){n:Nat}(kO:bN P w K mg base dU n t.mW t.lV ["e", "values"] (NM K n)) :
 bN P w K mg base dU (n+1) t.mW t.lV ["e", "values"] (NM K (n+1)):=by
 refine T.c6.F.mq BB (fun vs H Q E h=>?_) (fun fc A outer s H vs Q E hr h=>?_)
 ·obtain⟨_,_,_,_,rfl,_⟩:=h
  rfl
 obtain⟨v,d,tr,kv,rfl,hv,hd,ok,ht,h6,q⟩:=h
 have nd:=BB.nd
 have hu:=eT hr
 refine⟨_,[some v,some (.ref d),none,none,none],(ai (aQ (i:=2) nd rfl (Ws rfl) (aD aR (pv 0) ak ao))
 (ai (bE (aO b9 (pv 2) bq (aU _))
 (au (aT (aD aR (pv 0) ak ao)))
 aZ)
 (ai (bE (aO b9 (pv 2) bq (aU _))
 (au (aT (cA hu (pv 1) (aD aR (pv 0) ak ao) (fun _ _=>rfl))))
 aZ)
 (ai (aQ (i:=3) nd rfl (Ws rfl) (az kO (hr.mono (by first|decide|omega)) rfl T.c6.m T.c6.F.kp T.c6.b .nil aW (aa (aD aR (pv 0) ak ao) (aa (pv 1) ah ag) a8)))
 (ai (aQ (i:=4) nd rfl (Ws rfl) (az kO (hr.mono (by first|decide|omega)) rfl T.c6.m T.c6.F.kp T.c6.b .nil aW (aa (aD aR (pv 0) ak ao) (aa (pv 1) ah ag) a8)))
 (ai (bE (aO b9 (pv 2) bq (aU _))
 (au (aT (bf dS (pv 3) (pv 4))))
 aZ)
 (ai (bE (aO b9 (pv 2) bq (aU _))
 (au (aT (bf vx (pv 3) (pv 4))))
 aZ)
 (au (aT (bf Eb (pv 3) (pv 4))))))))))),rfl,?_⟩
 have n1:¬("box":Str) = "number":=by decide +kernel
 cases tr with
 |num m=>
  unfold ji at hv
  simp only[Rep.bc,aP.aI,aP.bh,Rep.bI,Rep.bw] at hv
  obtain⟨a,xs,rfl,hS,_,_,rfl,rfl,_,_,rfl,rfl,rfl⟩:=hv
  walk_at "rd"
  refine aM hS rfl ?_
  walk_at "rd"
  rw[if_pos trivial]
  exact aM hS rfl (q _ (aq.refl _))
 |box x=>
  unfold ji at hv
  simp only[Rep.bc,aP.aI,aP.bh,Rep.bI,Rep.bw] at hv
  obtain⟨a,xs,rfl,hS,_,_,rfl,rfl,_,_,rfl,rfl,rfl⟩:=hv
  walk_at "rd"
  refine aM hS rfl ?_
  walk_at "rd"
  rw[if_neg n1,if_pos trivial]
  obtain⟨i,e,_⟩:=ok
  have q:=q _ (aq.refl _)
  rw[cu,CV e] at q
  exact aM hS rfl ⟨d,.int i,rfl,pT.s hd e,q⟩
 |bin o l r=>
  unfold ji at hv
  simp only[Rep.bc,aP.aI,aP.bh,Rep.bI,Rep.bw] at hv
  obtain⟨a,xs,rfl,hS,_,_,rfl,rfl,vl,_,rfl,hl,vr,_,rfl,Xj,rfl⟩:=hv
  obtain⟨ho,ol,or'⟩:=ok
  have n2:¬S o = "number":=by rcases ho with rfl |rfl |rfl<;>decide +kernel
  have n3:¬S o = "box":=by rcases ho with rfl |rfl |rfl<;>decide +kernel
  have e1:(S o = "+")↔o=[43]:=by rw[show ("+":Str)=S [43] from rfl,nV]
  have e2:(S o = "-")↔o=[45]:=by rw[show ("-":Str)=S [45] from rfl,nV]
  walk_at "rd"
  refine aM hS rfl ?_
  walk_at "rd"
  rw[if_neg n2,if_neg n3]
  have wl:=lM ol
  have wr:=lM or'
  rw[PG.mz] at ht h6
  refine aM hS rfl ⟨vl,d,l,kv,rfl,hl,hd,ol,by lia,by lia,fun H1 s1=>?_⟩
  refine aM (s1.bo hS) rfl ⟨vr,d,r,kv,rfl,Xj.mono s1,s1 _ _ hd,or',by lia,by lia,fun H2 s2=>?_⟩
  walk_at "rd"
  have q:=q _ (s1.trans s2)
  rw[cu] at q
  refine cE (fun c=>?_) (fun c=>?_)
  ·rw[if_pos (e1.mp c)] at q
   exact q
  rw[if_neg (fun z=>c (e1.mpr z))] at q
  refine cE (fun c=>?_) (fun c=>?_)
  ·rw[if_pos (e2.mp c)] at q
   exact q
  rw[if_neg (fun z=>c (e2.mpr z))] at q
  exact⟨⟨zo wl (by lia),zo wr (by lia)⟩,q⟩
theorem tV(T:Tx K mg t):∀n,bN P w K mg base dU n t.mW t.lV ["e", "values"] (NM K n)
 |0=>by
  have no:∀vs H Q E,¬NM K 0 vs H Q E:=fun vs H Q E h=>by obtain⟨_,_,_,_,_,_,_,_,h,_⟩:=h;lia
  exact⟨fun vs H Q E h=>absurd h (no vs H Q E),fun A outer s H args us vs Q E _ _ _ _ h=>absurd h (no vs H Q E)⟩
 |n+1=>JW T (tV T n)
theorem Gi(T:Tx K mg t){n:Nat}(fE:bN P w K mg base dU n t.fC t.fO ["e", "values"] (NM K n)) :
 bN P w K mg base dU (n+1) t.fC t.fO ["e", "values"] (NM K (n+1)):=by
 refine T.bu.F.mq qh (fun vs H Q E h=>?_) (fun fc A outer s H vs Q E hr h=>?_)
 ·obtain⟨_,_,_,_,rfl,_⟩:=h
  rfl
 obtain⟨v,d,tr,kv,rfl,hv,hd,ok,ht,h6,q⟩:=h
 have nd:=qh.nd
 have hu:=eT hr
 refine⟨_,[some v,some (.ref d),none,none],(ai (bE (aO b9 (aD aR (pv 0) ak ao) bq (aU _))
 (au (aT (aD aR (pv 0) ak ao)))
 aZ)
 (ai (bE (aO b9 (aD aR (pv 0) ak ao) bq (aU _))
 (au (aT (cA hu (pv 1) (aD aR (pv 0) ak ao) (fun _ _=>rfl))))
 aZ)
 (ai (aQ (i:=2) nd rfl (Ws rfl) (az fE (hr.mono (by first|decide|omega)) rfl T.bu.m T.bu.F.kp T.bu.b .nil aW (aa (aD aR (pv 0) ak ao) (aa (pv 1) ah ag) a8)))
 (ai (aQ (i:=3) nd rfl (Ws rfl) (az fE (hr.mono (by first|decide|omega)) rfl T.bu.m T.bu.F.kp T.bu.b .nil aW (aa (aD aR (pv 0) ak ao) (aa (pv 1) ah ag) a8)))
 (au (aT (cA hu (Ly (vF bq (bf dS (pv 2) (pv 3)) (vF bq (bf vx (pv 2) (pv 3)) (vF bq (bf Eb (pv 2) (pv 3)) Lx))) rfl rfl (by simp) (by decide)) (aD aR (pv 0) ak ao) (fun _ _=>rfl)))))))),rfl,?_⟩
 have n1:¬("box":Str) = "number":=by decide +kernel
 cases tr with
 |num m=>
  unfold ji at hv
  simp only[Rep.bc,aP.aI,aP.bh,Rep.bI,Rep.bw] at hv
  obtain⟨a,xs,rfl,hS,_,_,rfl,rfl,_,_,rfl,rfl,rfl⟩:=hv
  walk_at "rd"
  refine aM hS rfl ⟨rfl,?_⟩
  rw[if_pos rfl]
  exact aM hS rfl (q _ (aq.refl _))
 |box x=>
  unfold ji at hv
  simp only[Rep.bc,aP.aI,aP.bh,Rep.bI,Rep.bw] at hv
  obtain⟨a,xs,rfl,hS,_,_,rfl,rfl,_,_,rfl,rfl,rfl⟩:=hv
  walk_at "rd"
  refine aM hS rfl ⟨rfl,?_⟩
  rw[if_neg (fun z=>n1 (V.str.inj z))]
  refine aM hS rfl ⟨rfl,?_⟩
  rw[if_pos rfl]
  obtain⟨i,e,_⟩:=ok
  have q:=q _ (aq.refl _)
  rw[cu,CV e] at q
  exact aM hS rfl ⟨d,.int i,rfl,pT.s hd e,q⟩
 |bin o l r=>
  unfold ji at hv
  simp only[Rep.bc,aP.aI,aP.bh,Rep.bI,Rep.bw] at hv
  obtain⟨a,xs,rfl,hS,_,_,rfl,rfl,vl,_,rfl,hl,vr,_,rfl,Xj,rfl⟩:=hv
  obtain⟨ho,ol,or'⟩:=ok
  have n2:¬S o = "number":=by rcases ho with rfl |rfl |rfl<;>decide +kernel
  have n3:¬S o = "box":=by rcases ho with rfl |rfl |rfl<;>decide +kernel
  walk_at "rd"
  refine aM hS rfl ⟨rfl,?_⟩
  rw[if_neg (fun z=>n2 (V.str.inj z))]
  refine aM hS rfl ⟨rfl,?_⟩
  rw[if_neg (fun z=>n3 (V.str.inj z))]
  have wl:=lM ol
  have wr:=lM or'
  rw[PG.mz] at ht h6
  refine aM hS rfl ⟨vl,d,l,kv,rfl,hl,hd,ol,by lia,by lia,fun H1 s1=>?_⟩
  refine aM (s1.bo hS) rfl ⟨vr,d,r,kv,rfl,Xj.mono s1,s1 _ _ hd,or',by lia,by lia,fun H2 s2=>?_⟩
  simp only[Nt,y0]
  walk_at "rd"
  intro p hp
  refine⟨⟨zo wl (by lia),zo wr (by lia)⟩,ae,[(.inr (v9 "+"),.int (cu (xo kv) l+cu (xo kv) r)),(.inr (v9 "-"),.int (cu (xo kv) l-cu (xo kv) r)),(.inr (v9 "*"),.int (cu (xo kv) l*cu (xo kv) r))],rfl,by simp,?_⟩
  have s3:=aq.new hp (.dK [])
  have sE:aq H2 (upd (upd H2 p (.dK [])) p (.dK (iz [] [(.inr (v9 "+"),.int (cu (xo kv) l+cu (xo kv) r)),(.inr (v9 "-"),.int (cu (xo kv) l-cu (xo kv) r)),(.inr (v9 "*"),.int (cu (xo kv) l*cu (xo kv) r))]))):=by
   rw[K8]
   exact aq.new hp _
  refine aM (((s1.trans s2).trans sE).bo hS) (v:=.str (S o)) (av (j:=0) rfl) ⟨p,.int (cu (xo kv) (.bin o l r)),rfl,pT.s ae ?_,q _ ((s1.trans s2).trans sE)⟩
  rw[cu]
  exact MM ho _ _ _
theorem wQ(T:Tx K mg t):∀n,bN P w K mg base dU n t.fC t.fO ["e", "values"] (NM K n)
 |0=>by
  have no:∀vs H Q E,¬NM K 0 vs H Q E:=fun vs H Q E h=>by obtain⟨_,_,_,_,_,_,_,_,h,_⟩:=h;lia
  exact⟨fun vs H Q E h=>absurd h (no vs H Q E),fun A outer s H args us vs Q E _ _ _ _ h=>absurd h (no vs H Q E)⟩
 |n+1=>Gi T (wQ T n)
theorem uF(T:Tx K mg t):bN P w K mg base dU 1 t.kl t.kL ["chart", "parts"] (F4 K t.aV):=by
 refine T.fD.F.mq uy (fun vs H Q E h=>?_) (fun fc A outer s H vs Q E hr h=>?_)
 ·obtain⟨_,_,_,_,rfl,_⟩:=h
  rfl
 obtain⟨p,a,pr,us,rfl,co,ha,lu,nb,lb,q⟩:=h
 have nd:=uy.nd
 refine⟨_,[some (.ref p),some (.ref a)],(au (aT (we rfl rfl T.qM rfl T.EX (aa (j7 (pv 0) rfl) (aa (pv 1) ah ag) Eg)))),rfl,?_⟩
 obtain⟨dx,nl,sd,fa,va,st,wy,uu,ws,h1,h2,h3,_⟩:=co.at_
 walk_at "rd"
 simp only[WU]
 walk_at "rd"
 refine⟨p,_,dx,_,.ref nl,rfl,h1,T.dv,T.gy,rfl,?_⟩
 refine⟨nl,a,pr.aK.map fun b=>.inr (S b.name),us,rfl,?_,ha,by rw[Zb];exact lu,fun d hd=>?_⟩
 ·rw[za8]
  exact .of h3
 ·rw[qI,i3 _ [] (by rw[zay,oC _ _ lu];exact names_nodup nb),zay]
  exact q d _ (aq.new hd _) hd ae
theorem BF(T:Tx K mg t):bN P w K mg base dU 1 t.km t.kM ["chart", "named"] (F5 K t.aV):=by
 refine T.i5.F.mq uz (fun vs H Q E h=>?_) (fun fc A outer s H vs Q E hr h=>?_)
 ·obtain⟨_,_,_,_,_,rfl,_⟩:=h
  rfl
 obtain⟨p,d,pr,aG,us,rfl,co,hd,lu,hv,lb,q⟩:=h
 have nd:=uz.nd
 have hu:=eT hr
 refine⟨_,[some (.ref p),some (.ref d)],(au (aT (eS kP rfl T.m8 PyProof.Rows.Boot.«tuple» (aa (i7 (own:=["name"]) (ix:=[1]) rfl (by rfl) (by rfl) (df (j7 (pv 0) rfl)) (fun _ _ _ _=>(a9 (i:=0) (by show List.Nodup (["name", "named"]:List Str);decide +kernel) rfl (Ws rfl))) (fun _ _ _ _=>jJ) (fun _ _ _ _=>(cA hu (pv 1) (pv 0) (fun _ _=>rfl)))) ah mw)))),rfl,?_⟩
 obtain⟨dx,nl,sd,fa,va,st,wy,uu,ws,h1,h2,h3,_⟩:=co.at_
 walk_at "rd"
 simp only[kD]
 walk_at "rd"
 have ln:(pr.aK.map fun b=>V.str (S b.name)).length=pr.aK.length:=Zb ..
 refine⟨p,_,dx,_,.ref nl,rfl,h1,T.dv,T.gy,rfl,nl,rfl,⟨_,.of h3⟩,fun D hD=>?_⟩
 refine lL (K:=K) (r:=[some (V.ref d)]) (fun i=>us.getD i .cD) (.of h3) (by rw[ln];lia) hD (fun i x H2 hx s2 R hR=>?_) (fun H2 s2 h2=>⟨D,_,rfl,.inl ⟨.of h2,fun l hl=>?_⟩⟩)
 ·have li:i<pr.aK.length:=by have:=(WD.mp hx).1;rw[ln] at this;exact this
  rw[UB,Za li] at hx
  cases hx
  have g:=hv i li
  have ZA:i<us.length:=by lia
  rw[Za ZA] at g
  have e:us.getD i .cD=us[i]:=by rw[Y7,Za ZA];rfl
  rw[e] at hR
  walk_at "rd"
  exact⟨d,us[i],rfl,pT.s (s2 _ _ hd) g,hR⟩
 ·have e:(zao (pr.aK.map fun b=>V.str (S b.name)).length).map (fun i=>us.getD i .cD)=us:=by
   rw[ln,<- lu]
   have:=j3 (fun v:V=>v) V.cD us
   rw[List.map_id'] at this
   exact this
  rw[e]
  exact q l _ (s2.trans (aq.new hl _)) (.of ae)
theorem wR(T:Tx K mg t):bN P w K mg base dU 1 t.lW t.mX ["chart", "row"] (IZ K t.aV):=by
 refine T.gE.F.mq wF (fun vs H Q E h=>?_) (fun fc A outer s H vs Q E hr h=>?_)
 ·obtain⟨_,_,_,rfl,_⟩:=h
  rfl
 obtain⟨p,pr,row,rfl,co,pw,q⟩:=h
 have nd:=wF.nd
 have hu:=eT hr
 obtain⟨JU,wN,wO⟩:=T.zF
 refine⟨_,[some (.ref p),some (.int row)],(ai (bE (aO b9 (pv 1) (o9 rfl wN wO) (aU _))
 (au (aT bq))
 aZ)
 (au (aT (aD aR (cA hu (j7 (pv 0) rfl) (pv 1) (fun _ _=>rfl)) ak ao)))),rfl,?_⟩
 obtain⟨dx,nl,sd,fa,va,st,wy,uu,ws,h1,h2,h3,h4,h5,h6,h7,h8,h9,_⟩:=co.at_
 walk_at "rd"
 rcases q with ⟨rfl,q⟩ |⟨n0,i,hi,er,q⟩
 ·exact(if_pos rfl).mpr q
 ·refine(if_neg n0).mpr ⟨p,_,dx,_,.ref st,rfl,h1,T.dv,T.cR,rfl,?_⟩
  have li:i<uu.length:=by lia
  obtain⟨v,hv,rv⟩:=h9.get (i:=i) (d:=dq (PG.aC pr.body)[i]) (by rw[UB,Za hi];rfl)
  have g:=oy _ _ h7 pw i hi v hv
  obtain⟨sa,ys,rfl,hs⟩:=ig _ rv
  rw[er] at g
  exact⟨st,.ref sa,rfl,.inl ⟨_,.inl row,.inl h8,rfl,g.symm⟩,aM hs (v:=.str (hV (PG.aC pr.body)[i].wd)) (av (j:=0) rfl) q⟩
theorem JX(T:Tx K mg t):bN P w K mg base dU 4 t.sj t.sk ["chart", "standing"] (Mg K t.aV):=by
 have qO:=uF (P:=P) (w:=w) (base:=base) T
 have kO:=tV (P:=P) (w:=w) (base:=base) T 3
 refine T.pO.F.mq BC (fun vs H Q E h=>?_) (fun fc A outer s H vs Q E hr h=>?_)
 ·obtain⟨_,_,_,_,_,_,_,_,_,rfl,_⟩:=h
  rfl
 obtain⟨p,sa,pr,vals,i,hi,sg,l,r,rfl,co,ok,⟨va,MN,Dm⟩,lv,cp,tl,tr,q⟩:=h
 have nd:=BC.nd
 have hu:=eT hr
 refine⟨_,[some (.ref p),some (.ref sa),none,none,none,none],(ai (aQ (i:=2) nd rfl (Ws rfl) (cA hu (j7 (pv 0) rfl) (aD aR (pv 1) ak ao) (fun _ _=>rfl)))
 (ai (aQ (i:=3) nd rfl (Ws rfl) (az qO (hr.mono (by first|decide|omega)) rfl T.fD.m T.fD.F.kp T.fD.b .nil aW (aa (pv 0) (aa (aD aR (pv 1) ak ao) ah a8) ag)))
 (ai (aQ (i:=4) nd rfl (Ws rfl) (az kO (hr.mono (by first|decide|omega)) rfl T.c6.m T.c6.F.kp T.c6.b .nil aW (aa (aD aR (pv 2) ak ao) (aa (pv 3) ah ag) a8)))
 (ai (aQ (i:=5) nd rfl (Ws rfl) (az kO (hr.mono (by first|decide|omega)) rfl T.c6.m T.c6.F.kp T.c6.b .nil aW (aa (aD aR (pv 2) ak ao) (aa (pv 3) ah ag) a8)))
 (ai (bE (aO b9 (aD aR (pv 2) ak ao) bq (aU _))
 (au (aT (pd pY (pv 4) (pv 5) (aU _))))
 aZ)
 (au (aT (pd b9 (pv 4) (pv 5) (aU _))))))))),rfl,?_⟩
 obtain⟨dx,nl,sd,fa,wa,st,wy,uu,ws,h1,h2,h3,h4,h5,h6,h7,h8,h9,_⟩:=co.at_
 have li:i<uu.length:=by lia
 obtain⟨v,hv,rv⟩:=h9.get (i:=i) (d:=dq (PG.aC pr.body)[i]) (by rw[UB,Za hi];rfl)
 have g:=oy _ _ h7 ok.pw i hi v hv
 obtain⟨ta,w0,vl,vr,ys,rfl,hs,rl,rr⟩:=wg rv cp
 generalize (PG.aC pr.body)[i]=sm at *
 have e1:(V.str (S sg)=V.str (v9 "<"))↔sg=[60]:=by rw[show (v9 "<":Str)=S [60] from rfl,V.str.injEq,nV]
 refine ax fun U1 fU=>?_
 walk_at "rd"
 refine⟨p,_,dx,_,.ref st,rfl,h1,T.dv,T.cR,rfl,?_⟩
 refine aM MN (v:=.int sm.row) (av (j:=0) rfl) ⟨st,.ref ta,rfl,.inl ⟨_,.inl sm.row,.inl h8,rfl,g.symm⟩,(fU _ _).mpr (ax fun U2 iu=>?_)⟩
 clear fU
 walk_at "rd"
 refine aM MN (v:=.ref va) (av (j:=1) rfl) ⟨p,va,pr,vals.map V.int,rfl,co,Dm,by rw[Zb];exact lv,ok.nb,ok.um,fun d H2 s2 hd2 y2=>(iu _ _).mpr (ax fun U3 jW=>?_)⟩
 clear iu
 walk_at "rd"
 refine aM (s2.bo hs) (v:=vl) (av (j:=3) rfl) ⟨vl,d,l,_,rfl,rl.mono s2,y2,tl.1,by have:=tl.2;lia,by have:=tl.2;lia,fun H3 s3=>(jW _ _).mpr (ax fun U4 lZ=>?_)⟩
 clear jW
 walk_at "rd"
 refine aM ((s2.trans s3).bo hs) (v:=vr) (av (j:=4) rfl) ⟨vr,d,r,_,rfl,rr.mono (s2.trans s3),s3 _ _ y2,tr.1,by have:=tr.2;lia,by have:=tr.2;lia,fun H4 s4=>(lZ _ _).mpr ?_⟩
 clear lZ
 have q:=q _ ((s2.trans s3).trans s4)
 unfold mG at q
 walk_at "rd"
 refine aM (((s2.trans s3).trans s4).bo hs) (v:=.str (S sg)) (av (j:=2) rfl) ⟨rfl,cE (fun e=>?_) (fun e=>?_)⟩
 ·rw[if_pos (e1.mp e)] at q
  exact q
 ·rw[if_neg (fun z=>e (e1.mpr z))] at q
  exact q
theorem pX(T:Tx K mg t):bN P w K mg base dU 5 t.dP t.eR ["chart", "standing"] (F7 K t.aV):=by
 have MO:=JX (P:=P) (w:=w) (base:=base) T
 have tW:=wR (P:=P) (w:=w) (base:=base) T
 refine T.cV.F.mq jH (fun vs H Q E h=>?_) (fun fc A outer s H vs Q E hr h=>?_)
 ·obtain⟨_,_,_,_,_,_,_,_,_,_,rfl,_⟩:=h
  rfl
 obtain⟨p,sa,pr,vals,i,hi,hf,sg,l,r,rfl,co,ok,uQ,lv,cp,tl,tr,w0,w1,q⟩:=h
 have nd:=jH.nd
 have hu:=eT hr
 refine⟨_,[some (.ref p),some (.ref sa),none],(ai (aQ (i:=2) nd rfl (Ws rfl) (aD aR (pv 1) ak ao))
 (ai (bE (nM (az MO (hr.mono (by first|decide|omega)) rfl T.pO.m T.pO.F.kp T.pO.b .nil aW (aa (pv 0) (aa (pv 1) ah ag) ag)))
 (au (aT (a7 (aa (aD aR (cA hu (j7 (pv 0) rfl) (pv 2) (fun _ _=>rfl)) ak ao) (aa (aD aR (pv 1) ak ao) ah a8) a8))))
 aZ)
 (ai (bE (aO b9 (az tW (hr.mono (by first|decide|omega)) rfl T.gE.m T.gE.F.kp T.gE.b .nil aW (aa (pv 0) (aa (pv 2) ah ag) ag)) bq (aU _))
 (au (aT gQ))
 aZ)
 (au (aT (a7 (aa (aD aR (cA hu (j7 (pv 0) rfl) (pv 2) (fun _ _=>rfl)) ak ao) (aa (aD aR (pv 1) ak ao) ah a8) a8))))))),rfl,?_⟩
 obtain⟨va,MN,Dm⟩:=id uQ
 have ach:=ok.pos _ (zah hi)
 refine ax fun U1 fU=>?_
 walk_at "rd"
 refine aM MN (v:=.int (PG.aC pr.body)[i].row) (av (j:=0) rfl) ((fU _ _).mpr ?_)
 clear fU
 walk_at "rd"
 refine⟨p,sa,pr,vals,i,hi,sg,l,r,rfl,co,ok,uQ,lv,cp,tl,tr,fun H2 s2=>?_⟩
 obtain⟨dx,fs,wy,wq,g1,g2,g3,g4⟩:=(co.mono s2).way ok i hi hf
 have qq:∀(j:Nat) (x:Int),(PG.aS pr.body 0)[i].2.2[j]?=some x->sI ((PG.aS pr.body 0)[i].2.2.map V.int) (j:Int)=some (V.int x):=fun j x e=>av (by rw[UB,e];rfl)
 have back:∀(x:Int) (H3:Hp),aq H2 H3->∀pp,H3 pp=none->lO K (upd H3 pp (.tup [V.int x,V.ref va])) (some (x,vals)) (.ref pp):=fun x H3 s3 pp BG=>⟨pp,rfl,va,.of ae,((s2.trans s3).trans (aq.new BG _)).bo Dm⟩
 unfold iE at q
 rw[cp] at q
 simp only at q
 refine⟨_,rfl,cE (fun e=>?_) (fun e=>?_)⟩
 ·rw[if_pos e] at q
  have e0:(PG.aS pr.body 0)[i].2.2[0]?=some ((PG.aS pr.body 0)[i].2.2.getD 0 0):=by rw[Y7,Za w0];rfl
  refine⟨p,_,dx,fs,.ref wy,rfl,g1,T.dv,T.fT,g2,wy,.ref wq,rfl,g3,aM g4 (v:=.int ((PG.aS pr.body 0)[i].2.2.getD 0 0)) (qq 0 _ e0) (aM (s2.bo MN) (v:=.ref va) (av (j:=1) rfl) fun pp BG=>?_)⟩
  exact q _ _ (s2.trans (aq.new BG _)) (back _ _ (aq.refl _) pp BG)
 ·rw[if_neg e] at q
  refine⟨p,pr,_,rfl,co.mono s2,ok.pw,.inr ⟨by lia,i,hi,rfl,rfl,cE (fun e2=>?_) (fun e2=>?_)⟩⟩
  ·have ew:(PG.aC pr.body)[i].wd=.c9:=(II _).mp e2
   rw[if_pos ew] at q
   exact q _ _ s2 rfl
  ·have ew:(PG.aC pr.body)[i].wd≠.c9:=fun z=>e2 ((II _).mpr z)
   rw[if_neg ew] at q
   have w1:=w1 ew
   have e1:(PG.aS pr.body 0)[i].2.2[1]?=some ((PG.aS pr.body 0)[i].2.2.getD 1 0):=by rw[Y7,Za w1];rfl
   refine⟨p,_,dx,fs,.ref wy,rfl,g1,T.dv,T.fT,g2,wy,.ref wq,rfl,g3,aM g4 (v:=.int ((PG.aS pr.body 0)[i].2.2.getD 1 0)) (qq 1 _ e1) (aM (s2.bo MN) (v:=.ref va) (av (j:=1) rfl) fun pp BG=>?_)⟩
   exact q _ _ (s2.trans (aq.new BG _)) (back _ _ (aq.refl _) pp BG)
theorem EZ:∀w:PG.Wd,Nm (V.str (hV w)) [V.str (v9 "must"),V.str (v9 "if"),V.str (v9 "while")]=decide (w=.c9\/w=.ifs\/w=.fj):=by
 intro w
 cases w<;>decide +kernel
theorem Dn:∀w:PG.Wd,(hV w=v9 "ask")↔w=.ask:=by
 intro w
 cases w<;>decide +kernel
theorem MP:∀w:PG.Wd,(hV w=v9 "put")↔w=.put:=by
 intro w
 cases w<;>decide +kernel
theorem MQ:∀w:PG.Wd,(hV w=v9 "say")↔w=.say:=by
 intro w
 cases w<;>decide +kernel
theorem lO.mono{H H':Hp}{o:Option (Int×List Int)}{v:V}(h:lO K H o v)(s:aq H H'):lO K H' o v:=by
 cases o with
 |none=>exact h
 |some x=>obtain⟨a,e,sa⟩:=h;exact⟨a,e,sa.mono s⟩
theorem cond_of{bs:List PG.fW}{vals:List Int}{st:PG.bH}(h:st.wd=.c9\/st.wd=.ifs\/st.wd=.fj)(po:EF bs vals st):∃sg l r,uo st=some (sg,l,r)/\B0 bs vals l/\B0 bs vals r/\∀ws fig,jD bs st ws vals fig=(iE bs st ws vals,none):=by
 cases st<;>simp only[PG.bH.wd,reduceCtorEq,or_self,or_false,false_or] at h<;>exact⟨_,_,_,rfl,po.1,po.2,fun _ _=>rfl⟩
theorem JY{st:PG.bH}(h:st.wd=.ask):∃k b,st=.ask k b:=by
 cases st<;>first |exact⟨_,_,rfl⟩ |cases h
theorem JZ{st:PG.bH}(h:st.wd=.put):∃k b e,st=.put k b e:=by
 cases st<;>first |exact⟨_,_,_,rfl⟩ |cases h
theorem J0{st:PG.bH}(h:st.wd=.say):∃k e,st=.say k e:=by
 cases st<;>first |exact⟨_,_,rfl⟩ |cases h
theorem MR{st:PG.bH}(h0:¬(st.wd=.c9\/st.wd=.ifs\/st.wd=.fj))(h1:st.wd≠.ask)(h2:st.wd≠.put)(h3:st.wd≠.say):∃k,st=.stop k:=by
 cases st<;>simp only[PG.bH.wd,reduceCtorEq,or_self,or_false,false_or,not_true,not_false_iff,ne_eq] at h0 h1 h2 h3<;>exact⟨_,rfl⟩
theorem yB{H:Hp}{k:Int}{b:W}{v:V}(h:Rep K H (dq (.ask k b)) v):∃a,v=.ref a/\b8 K H a [.str "ask",.int k,.str (S b)]:=by
 simp only[dq,Rep.bc,aP.aI,aP.bh,Rep.bI,Rep.bw] at h
 obtain⟨a,ys,rfl,hS,_,_,rfl,rfl,_,_,rfl,rfl,_,_,rfl,rfl,rfl⟩:=h
 exact⟨a,rfl,hS⟩
theorem yC{H:Hp}{k:Int}{b:W}{e:PM.Tr}{v:V}(h:Rep K H (dq (.put k b e)) v):∃a u,v=.ref a/\b8 K H a [.str "put",.int k,.str (S b),u]/\Rep K H (ji e) u:=by
 simp only[dq,Rep.bc,aP.aI,aP.bh,Rep.bI,Rep.bw] at h
 obtain⟨a,ys,rfl,hS,_,_,rfl,rfl,_,_,rfl,rfl,_,_,rfl,rfl,u,_,rfl,ru,rfl⟩:=h
 exact⟨a,u,rfl,hS,ru⟩
theorem yE{H:Hp}{k:Int}{e:PM.Tr}{v:V}(h:Rep K H (dq (.say k e)) v):∃a u,v=.ref a/\b8 K H a [.str "say",.int k,u]/\Rep K H (ji e) u:=by
 simp only[dq,Rep.bc,aP.aI,aP.bh,Rep.bI,Rep.bw] at h
 obtain⟨a,ys,rfl,hS,_,_,rfl,rfl,_,_,rfl,rfl,u,_,rfl,ru,rfl⟩:=h
 exact⟨a,u,rfl,hS,ru⟩
theorem yQ(vals:List Int)(j:Nat)(x:Int):(vals.map V.int).set j (.int x)=(vals.set j x).map V.int:=by
 rw[List.map_set]
theorem pP{bs:List PG.fW}(bp:∀b∈bs,0<b.size)(x:W):0<eQ bs x:=by
 unfold eQ
 cases e:bs[du bs x]? with
 |none=>decide
 |some b=>exact bp b (zaD e)
theorem Dq(T:Tx K mg t):bN P w K mg base dU 6 t.lX t.mY ["chart", "standing", "figure"] (Ja K t.aV):=by
 have qP:=pX (P:=P) (w:=w) (base:=base) T
 have qO:=uF (P:=P) (w:=w) (base:=base) T
 have Dr:=BF (P:=P) (w:=w) (base:=base) T
 have kO:=tV (P:=P) (w:=w) (base:=base) T 3
 refine T.gF.F.mq wG (fun vs H Q E h=>?_) (fun fc A outer s H vs Q E hr h=>?_)
 ·obtain⟨_,_,_,_,_,_,_,_,_,rfl,_⟩:=h
  rfl
 obtain⟨p,sa,fv,pr,vals,fig,i,hi,hf,rfl,co,ok,bp,uQ,lv,Tb,po,w0,w1,q⟩:=h
 have nd:=wG.nd
 have hu:=eT hr
 refine⟨_,[some (.ref p),some (.ref sa),some fv,none,none,none,none,none],(ai (aQ (i:=3) nd rfl (Ws rfl) (aD aR (pv 1) ak ao))
 (ai (aQ (i:=4) nd rfl (Ws rfl) (cA hu (j7 (pv 0) rfl) (pv 3) (fun _ _=>rfl)))
 (ai (aQ (i:=5) nd rfl (Ws rfl) (aD aR (pv 4) ak ao))
 (ai (bE (aO pB (pv 5) (a7 (dW (vs:=[.str "must",.str "if",.str "while"]) (by kernel_rfl))) rfl)
 (au (aT (a7 (aa (az qP (hr.mono (by first|decide|omega)) rfl T.cV.m T.cV.F.kp T.cV.b .nil aW (aa (pv 0) (aa (pv 1) ah ag) ag)) (aa gQ ah ba) bG))))
 aZ)
 (ai (aQ (i:=6) nd rfl (Ws rfl) (az qO (hr.mono (by first|decide|omega)) rfl T.fD.m T.fD.F.kp T.fD.b .nil aW (aa (pv 0) (aa (aD aR (pv 1) ak ao) ah a8) ag)))
 (ai (aQ (i:=7) nd rfl (Ws rfl) gQ)
 (ai (bE (aO b9 (pv 5) bq (aU _))
 (au (mh hu (pv 6) (aD aR (pv 4) ak ao) (bf cT (pv 2) (cA hu (j7 (pv 0) rfl) (aD aR (pv 4) ak ao) (fun _ _=>rfl))) rfl))
 (au (bE (aO b9 (pv 5) bq (aU _))
 (au (mh hu (pv 6) (aD aR (pv 4) ak ao) (bf cT (az kO (hr.mono (by first|decide|omega)) rfl T.c6.m T.c6.F.kp T.c6.b .nil aW (aa (aD aR (pv 4) ak ao) (aa (pv 6) ah ag) a8)) (cA hu (j7 (pv 0) rfl) (aD aR (pv 4) ak ao) (fun _ _=>rfl))) rfl))
 (au (bE (aO b9 (pv 5) bq (aU _))
 (au (aQ (i:=7) nd rfl (Ws rfl) (az kO (hr.mono (by first|decide|omega)) rfl T.c6.m T.c6.F.kp T.c6.b .nil aW (aa (aD aR (pv 4) ak ao) (aa (pv 6) ah ag) a8))))
 aZ)))))
 (au (aT (a7 (aa (a7 (aa (aD aR (cA hu (j7 (pv 0) rfl) (pv 3) (fun _ _=>rfl)) ak ao) (aa (az Dr (hr.mono (by first|decide|omega)) rfl T.i5.m T.i5.F.kp T.i5.b .nil aW (aa (pv 0) (aa (pv 6) ah ag) ag)) ah bG) a8)) (aa (pv 7) ah ag) dI))))))))))),rfl,?_⟩
 obtain⟨va,MN,Dm⟩:=id uQ
 obtain⟨dx,nl,sd,fa,va',st,wy,uu,ws,h1,h2,h3,h4,h5,h6,h7,h8,h9,_⟩:=co.at_
 have li:i<uu.length:=by lia
 obtain⟨v,hv,rv⟩:=h9.get (i:=i) (d:=dq (PG.aC pr.body)[i]) (by rw[UB,Za hi];rfl)
 have g:=oy _ _ h7 ok.pw i hi v hv
 have sel:∃ta ds,v=.ref ta/\b8 K H ta (.str (hV (PG.aC pr.body)[i].wd)::ds):=by
  generalize (PG.aC pr.body)[i]=sm at rv
  cases sm<;>(rw[dq,Rep.bc] at rv;obtain⟨ta,ys,rfl,hs,rs⟩:=rv;rw[aP.aI] at rs;obtain⟨v0,t0,rfl,e0,rs⟩:=rs;rw[Rep.bI] at e0;subst e0;exact⟨ta,_,rfl,hs⟩)
 obtain⟨ta,ds,rfl,hs⟩:=sel
 refine ax fun U1 fU=>?_
 walk_at "rd"
 refine aM MN (v:=.int (PG.aC pr.body)[i].row) (av (j:=0) rfl) ((fU _ _).mpr (ax fun U2 iu=>?_))
 clear fU
 walk_at "rd"
 refine⟨p,_,dx,_,.ref st,rfl,h1,T.dv,T.cR,rfl,⟨st,.ref ta,rfl,.inl ⟨_,.inl _,.inl h8,rfl,g.symm⟩,(iu _ _).mpr (ax fun U3 jW=>?_)⟩⟩
 clear iu
 walk_at "rd"
 refine aM hs (v:=.str (hV (PG.aC pr.body)[i].wd)) (av (j:=0) rfl) ((jW _ _).mpr ?_)
 clear jW
 refine ax fun U4 lZ=>?_
 walk_at "rd"
 intro z hz
 have sz:=aq.new hz (HO.tup [V.str (v9 "must"),V.str (v9 "if"),V.str (v9 "while")])
 refine⟨z,_,rfl,.inr (.of ae),rfl,rfl,_,rfl,cE (fun e=>?_) (fun e=>?_)⟩
 ·have e:=e
  simp only[zai,if_false,EZ,decide_eq_true_eq] at e
  obtain⟨sg,l,r,cp,tl,tr,es⟩:=cond_of e po
  rw[es] at q
  refine⟨p,sa,pr,vals,i,hi,hf,sg,l,r,rfl,co.mono sz,ok,uQ.mono sz,lv,cp,tl,tr,w0,fun nm=>w1 (by rcases e with e |e |e;exact absurd e nm;exact .inl e;exact .inr e),fun v H2 s2 os pp BG=>?_⟩
  exact q pp v _ ((sz.trans s2).trans (aq.new BG _)) (.of ae) (lO.mono os (aq.new BG _))
 have e0:=e
 simp only[zai,if_false,EZ,decide_eq_true_eq] at e0
 refine(lZ _ _).mpr (ax fun U5 xi=>?_)
 clear lZ e
 walk_at "rd"
 refine aM (sz.bo MN) (v:=.ref va) (av (j:=1) rfl) ⟨p,va,pr,vals.map V.int,rfl,co.mono sz,sz.bo Dm,by rw[Zb];exact lv,ok.nb,ok.um,fun d H2 s2' hd2 y2=>(xi _ _).mpr (ax fun U6 zH=>?_)⟩
 clear xi
 have s2:=sz.trans s2'
 have hd:=sz.free hd2
 walk_at "rd"
 refine(zH _ _).mpr (ax fun U7 J7=>?_)
 clear zH
 have fin:∀(H5:Hp) (aG:List (Key×V)) (us:List Int) (sd:Option Int),aq H H5->H5 d=some (.dK aG)->us.length=pr.aK.length->(∀i (hi:i<pr.aK.length),cY aG (.inr (S pr.aK[i].name))=(us.map V.int)[i]?)->
  jD pr.aK (PG.aC pr.body)[i] (PG.aS pr.body 0)[i].2.2 vals fig=(some ((PG.aS pr.body 0)[i].2.2.getD 0 0,us),sd)->
  U7 [some (.ref p),some (.ref sa),some fv,some (.int (PG.aC pr.body)[i].row),some (.ref ta),some (.str (hV (PG.aC pr.body)[i].wd)),some (.ref d),some (I0 sd)] H5:=by
  intro H5 aG us sd' s5 hd5 lu look es
  rw[es] at q
  refine(J7 _ _).mpr ?_
  clear J7
  walk_at "rd"
  obtain⟨dx,fs,wy,wq,g1,g2,g3,g4⟩:=(co.mono s5).way ok i hi hf
  have e0:(PG.aS pr.body 0)[i].2.2[0]?=some ((PG.aS pr.body 0)[i].2.2.getD 0 0):=by rw[Y7,Za w0];rfl
  have qq:sI ((PG.aS pr.body 0)[i].2.2.map V.int) ((0:Nat):Int)=some (V.int ((PG.aS pr.body 0)[i].2.2.getD 0 0)):=av (by rw[UB,e0];rfl)
  refine⟨p,_,dx,fs,.ref wy,rfl,g1,T.dv,T.fT,g2,wy,.ref wq,rfl,g3,aM g4 (v:=.int ((PG.aS pr.body 0)[i].2.2.getD 0 0)) qq ?_⟩
  refine⟨p,d,pr,aG,us.map V.int,rfl,co.mono s5,hd5,by rw[Zb];exact lu,look,ok.um,fun a H6 s6 sq p1 Au p2 xf=>?_⟩
  exact q p2 _ _ (((s5.trans s6).trans (aq.new Au _)).trans (aq.new xf _)) (.of ae) ⟨p1,rfl,a,(aq.new xf _).bo (.of ae),((aq.new Au _).trans (aq.new xf _)).bo sq⟩
 have Tc:(dc pr.aK (vals.map V.int)).length<zcz:=by
  have line:zcz=2 ^ 24:=rfl
  have:=ok.um
  unfold dc
  rw[List.length_zipWith]
  lia
 have keep:∀i (hi:i<pr.aK.length),cY (dc pr.aK (vals.map V.int)) (.inr (S pr.aK[i].name))=(vals.map V.int)[i]?:=fun i hi=>by
  have li:i<(vals.map V.int).length:=by rw[Zb];lia
  rw[lN pr.aK (vals.map V.int) (by rw[Zb];exact lv) ok.nb i hi _ (Za li),Za li]
 have put:∀(b:W),b∈pr.aK.map (·.name)->∀(x:Int),(rO pr.aK vals b x).length=pr.aK.length/\∀i (hi:i<pr.aK.length),cY (putK (dc pr.aK (vals.map V.int)) (.inr (S b)) (.int x)) (.inr (S pr.aK[i].name))=((rO pr.aK vals b x).map V.int)[i]?:=fun b hb x=>by
  refine⟨by unfold rO;rw[zcq];exact lv,fun i hi=>?_⟩
  rw[CY (by rw[Zb];exact lv) ok.nb hb,yQ]
  rfl
 have Td:∀H3 o,aq H H3->aq H (upd H3 d o):=fun H3 o s3=>((bA.of s3:bA d H H3).put o).same hd
 walk_at "rd"
 refine cE (fun e=>?_) (fun e=>?_)
 ·obtain⟨k,b,KU⟩:=JY ((Dn _).mp e)
  have rv:=rv
  rw[KU] at rv po
  obtain⟨_,ee,hT⟩:=yB rv
  cases ee
  have Xk:=Tb ((Dn _).mp e)
  subst Xk
  obtain⟨l1,l2⟩:=put b po (fig%eQ pr.aK b)
  refine⟨p,_,dx,_,.ref sd,rfl,s2 _ _ h1,T.dv,T.gA,rfl,aM (s2.bo hT) (v:=.str (S b)) (av (j:=2) rfl) ⟨sd,.int (eQ pr.aK b),rfl,.inl ⟨_,.inr (S b),.inl (s2 _ _ h4),rfl,(Bp ok.nb po).symm⟩,?_⟩⟩
  refine⟨_,_,rfl,rfl,pP bp b,aM (s2.bo hT) (v:=.str (S b)) (av (j:=2) rfl) ⟨d,_,rfl,.inl ⟨_,.inr (S b),y2,rfl,Tc,rfl⟩,?_⟩⟩
  exact fin _ _ _ none (Td _ _ s2) ae l1 l2 (by rw[KU];rfl)
 refine cE (fun e2=>?_) (fun e2=>?_)
 ·obtain⟨k,b,tr,KU⟩:=JZ ((MP _).mp e2)
  have rv:=rv
  rw[KU] at rv po
  obtain⟨_,u,ee,hT,ru⟩:=yC rv
  cases ee
  obtain⟨l1,l2⟩:=put b po.1 (wv pr.aK vals tr%eQ pr.aK b)
  refine aM (s2.bo hT) (v:=u) (av (j:=3) rfl) ⟨u,d,tr,_,rfl,ru.mono s2,y2,po.2.1,by have:=po.2.2;lia,by have:=po.2.2;lia,fun H3 Te=>?_⟩
  have s3:=s2.trans Te
  refine⟨p,_,dx,_,.ref sd,rfl,s3 _ _ h1,T.dv,T.gA,rfl,aM (s3.bo hT) (v:=.str (S b)) (av (j:=2) rfl) ⟨sd,.int (eQ pr.aK b),rfl,.inl ⟨_,.inr (S b),.inl (s3 _ _ h4),rfl,(Bp ok.nb po.1).symm⟩,?_⟩⟩
  refine⟨_,_,rfl,rfl,pP bp b,aM (s3.bo hT) (v:=.str (S b)) (av (j:=2) rfl) ⟨d,_,rfl,.inl ⟨_,.inr (S b),Te _ _ y2,rfl,Tc,rfl⟩,?_⟩⟩
  exact fin _ _ _ none (Td _ _ s3) ae l1 l2 (by rw[KU];rfl)
 refine cE (fun e3=>?_) (fun e3=>?_)
 ·obtain⟨k,tr,KU⟩:=J0 ((MQ _).mp e3)
  have rv:=rv
  rw[KU] at rv po
  obtain⟨_,u,ee,hT,ru⟩:=yE rv
  cases ee
  refine aM (s2.bo hT) (v:=u) (av (j:=2) rfl) ⟨u,d,tr,_,rfl,ru.mono s2,y2,po.1,by have:=po.2;lia,by have:=po.2;lia,fun H3 Te=>?_⟩
  exact fin _ _ _ (some _) (s2.trans Te) (Te _ _ y2) lv keep (by rw[KU];rfl)
 obtain⟨k,KU⟩:=MR e0 (fun z=>e ((Dn _).mpr z)) (fun z=>e2 ((MP _).mpr z)) (fun z=>e3 ((MQ _).mpr z))
 exact fin _ _ _ none s2 y2 lv keep (by rw[KU];rfl)
theorem Gj:∀sm:PG.bH,¬hV sm.wd=v9 "end":=fun sm=>by cases sm<;>(simp only[PG.bH.wd];decide +kernel)
theorem xr(T:Tx K mg t):bN P w K mg base dU 7 t.iI t.ja ["chart", "standing"] (JG K t.aV):=by
 have tW:=wR (P:=P) (w:=w) (base:=base) T
 have yF:=Dq (P:=P) (w:=w) (base:=base) T
 refine T.gG.F.mq qc (fun vs H Q E h=>?_) (fun fc A outer s H vs Q E hr h=>?_)
 ·obtain⟨_,_,_,_,rfl,_⟩:=h
  rfl
 obtain⟨ch,sa,pr,st,rfl,co,dr,uQ,si,q⟩:=h
 have nd:=qc.nd
 obtain⟨J8,wU,wV⟩:=T.uP
 refine⟨_,[some (.ref ch),some (.ref sa),none,none],(ai (aQ (i:=2) nd rfl (Ws rfl) (az tW (hr.mono (by first|decide|omega)) rfl T.gE.m T.gE.F.kp T.gE.b .nil aW (aa (pv 0) (aa (aD aR (pv 1) ak ao) ah a8) ag)))
 (ai (bE (aO b9 (pv 2) bq (aU _))
 (au (aT (bF ah)))
 aZ)
 (ai (bE (aO b9 (pv 2) bq (aU _))
 (au (aT (i7 (own:=["figure"]) (ix:=[0,1]) rfl (by rfl) (by rfl) (iW rfl T.jV (aa (o9 rfl wU wV) ah ag)) (fun _ _ _ _=>(a9 (i:=0) (by show List.Nodup (["figure", "chart", "standing"]:List Str);decide +kernel) rfl (Ws rfl))) (fun _ _ _ _=>jJ) (fun _ _ _ _=>(aD (i8 (K:=K) rfl) (az yF (hr.mono (by first|decide|omega)) rfl T.gF.m T.gF.F.kp T.gF.b .nil aW (aa (pv 1) (aa (pv 2) (aa (pv 0) ah ag) ag) ag)) ak ao)))))
 aZ)
 (ai (aQ (i:=3) nd rfl (Ws rfl) (aD aR (az yF (hr.mono (by first|decide|omega)) rfl T.gF.m T.gF.F.kp T.gF.b .nil aW (aa (pv 0) (aa (pv 1) (aa gQ ah ba) ag) ag)) ak ao))
 (ai (bE (aO OM (pv 3) gQ (aU _))
 (au (aT (bF ah)))
 aZ)
 (au (aT (bF (aa (pv 3) ah ag))))))))),rfl,?_⟩
 obtain⟨row,vals⟩:=st
 obtain⟨va,Aq,AE⟩:=id uQ
 refine ax fun U1 fU=>?_
 walk_at "rd"
 refine aM Aq (v:=.int row) (av (j:=0) rfl) ?_
 rcases si.ok.row with h0 |⟨i,hi,er⟩
 ·replace h0:row=0:=h0
  subst h0
  refine⟨ch,pr,0,rfl,co,dr.ok.pw,.inl ⟨rfl,(fU _ _).mpr ?_⟩⟩
  refine ax fun U2 iu=>?_
  walk_at "rd"
  exact(if_pos trivial).mpr fun L hL=>q L _ _ (aq.new hL _) hL ae .nil
 replace er:(PG.aC pr.body)[i].row=row:=er
 subst er
 have ZC:(PG.aC pr.body)[i].row≠0:=by have:=dr.ok.pos _ (zah hi);lia
 obtain⟨hf,ek,ew⟩:=iD pr.body i hi
 obtain⟨w0,w1⟩:=PG.iZ pr.body 0 _ (zah hf)
 rw[ew] at w1
 obtain⟨po,so⟩:=Jb si.ok.len dr.ok.nb si.ok.small (PG.kE pr.body _ dr.own (zah hi))
 have bp:∀b∈pr.aK,0<b.size:=fun b hb=>by have:=dr.size b hb;lia
 have ea:cZ pr.body (PG.aC pr.body)[i].row=decide ((PG.aC pr.body)[i].wd=.ask):=by unfold cZ;rw[rP dr.ok.pw i hi]
 have es:∀f,bO pr (PG.aC pr.body)[i].row vals f=jD pr.aK (PG.aC pr.body)[i] (PG.aS pr.body 0)[i].2.2 vals f:=fun f=>by unfold bO;rw[rP dr.ok.pw i hi,EI dr.ok.pw i hi hf]
 unfold c5 at q
 simp only[if_neg ZC,ea,decide_eq_true_eq] at q
 refine⟨ch,pr,_,rfl,co,dr.ok.pw,.inr ⟨ZC,i,hi,rfl,(fU _ _).mpr (ax fun U2 iu=>?_)⟩⟩
 clear fU
 walk_at "rd"
 refine(if_neg (Gj _)).mpr ((iu _ _).mpr (ax fun U3 jW=>?_))
 clear iu
 walk_at "rd"
 refine cE (fun e=>?_) (fun e=>(jW _ _).mpr ?_)
 ·have e:=(Dn _).mp e
  simp only[e,if_true] at q
  simp only[kD]
  walk_at "rd"
  refine⟨10,rfl,by decide,by decide,fun D hD=>?_⟩
  refine Ju (J:=G0 0 10) (fun τ=>∃x,τ=[x,some (.ref ch),some (.ref sa)]) ((zao 10).map fun f=>V.int (f:Nat)) (fun j ys H2=>aq H H2/\fH K H2 ((zao j).map fun f=>((bO pr (PG.aC pr.body)[i].row vals (f:Nat)).1.getD ((PG.aC pr.body)[i].row,vals))) ys) ?_ ?_ ?_ (by simp) hD ⟨none,rfl⟩ ⟨aq.new hD _,.nil⟩ ?_ ?_
  ·intro j H2 _ hj
   show j<10
   simpa using hj
  ·intro H2 _
   show 10<=_
   simp
  ·intro j H2 x H3 _ hj hy
   have lj:j<10:=by simpa using hj
   obtain⟨rfl,rfl⟩:=hy
   exact⟨rfl,by simp[lj]⟩
  ·rintro j x ys τ H2 hx ⟨x0,rfl⟩ s2 yD ly ⟨_,sy⟩ R hR
   have lj:j<10:=by have:=(WD.mp hx).1;simpa using this
   have hx:x=.int (j:Nat):=by simpa[lj] using hx.symm
   subst hx
   walk_at "rd"
   refine⟨ch,sa,_,pr,vals,(j:Nat),i,hi,hf,rfl,co.mono s2,dr.ok,bp,uQ.mono s2,si.ok.len,fun _=>rfl,po,w0,w1,fun q1 sv H3 s3 k1 o1=>?_⟩
   rw[<- es] at k1 o1
   have hn:=wt (pr:=pr) (PG.aC pr.body)[i].row vals (j:Nat) (by rw[ea];exact decide_eq_true e)
   refine aM k1 (v:=sv) (av (j:=0) rfl) (hR _ _ _ ⟨_,rfl⟩ s3 ⟨?_,?_⟩)
   ·exact(((bA.of (s2.trans s3)).put _).same hD)
   ·rw[zbg,zae]
    cases ho:(bO pr (PG.aC pr.body)[i].row vals (j:Nat)).1 with
    |none=>exact absurd ho hn
    |some y=>
     rw[ho] at o1
     obtain⟨ya,rfl,Xl⟩:=o1
     have yD3:=s3 _ _ yD
     have z:=Bw (x:=y) (kI sy fun _ _ _ h=>h.mono s3) Xl
     simp only[Y9,zaR,ho,zb2]
     exact kI z fun _ _ _ h=>h.upL yD3 ((bA.refl D H3).put _)
  ·rintro ys H2 s2 yD ly ⟨_,sy⟩
   rw[Zb,zbc] at sy
   exact q D ys H2 s2 hD yD sy
 ·have e:(PG.aC pr.body)[i].wd≠.ask:=fun z=>e ((Dn _).mpr z)
  simp only[if_neg e] at q
  walk_at "rd"
  refine⟨ch,sa,.cD,pr,vals,0,i,hi,hf,rfl,co,dr.ok,bp,uQ,si.ok.len,fun z=>absurd z e,po,w0,w1,fun q1 sv H2 s2 k1 o1=>?_⟩
  rw[<- es] at k1 o1
  refine aM k1 (v:=sv) (av (j:=0) rfl) ?_
  cases ho:(bO pr (PG.aC pr.body)[i].row vals 0).1 with
  |none=>
   rw[ho] at o1 q
   exact(if_pos o1).mpr fun p hp=>q p _ _ (s2.trans (aq.new hp _)) (s2.free hp) ae .nil
  |some x=>
   rw[ho] at o1 q
   obtain⟨xa,rfl,xs⟩:=o1
   exact(if_neg (by intro z;cases z)).mpr fun p hp=>q p _ _ (s2.trans (aq.new hp _)) (s2.free hp) ae (.cons ⟨xa,rfl,xs.mono (aq.new hp _)⟩ .nil)
theorem Xm:rS "standing" "chart" (lQ (jG aY)):=⟨rfl,rfl,rfl,rfl,rfl,fun z h=>by
 have key:∀p∈(lQ (jG aY)).names,(p.2=.cell\/p.2=.free)->p.1 = "chart":=by decide +kernel
 rcases h with h |h
 ·exact key _ (PySem.mem_of_lookup h) (.inl rfl)
 ·exact key _ (PySem.mem_of_lookup h) (.inr rfl),by decide +kernel⟩
theorem Ds(T:Tx K mg t):bN P w K mg base dU 9 t.fN t.mZ ["place", "led_from", "figures", "found"] (Qa P w K t.aV (jG aY) "first_inputs.<locals>.<lambda>"):=by
 have zI:=xr (P:=P) (w:=w) (base:=base) T
 refine T.gI.F.mq wH (fun vs H Q E h=>?_) (fun fc A outer s H vs Q E hr h=>?_)
 ·obtain⟨_,_,_,_,_,_,_,_,_,_,_,_,rfl,_⟩:=h
  rfl
 obtain⟨Tf,fo,D,ga,cc,ch,lP,pr,s0,f0,g,Th,rfl,co,dr,Qj,Xn,lam,hga,ZD,Xo,nd0,ZE,uG,q⟩:=h
 have nd:=wH.nd
 have hu:=eT hr
 obtain⟨KW,xt,xu⟩:=T.wM
 have rn:∀(u:Value) (cc c':Addr) (pm uq:Value),bindArgs (PySem.W.kla_fn "<lambda>" "first_inputs.<locals>.<lambda>" (C8 (jG aY)) (vj (jG aY)) (lQ (jG aY)) [("chart",cc)] pm (.ref c') uq) ⟨[u],[]⟩=(pure [(("standing":Str),u)]:Sem (List (Str×Value))):=fun _ _ _ _ _=>rfl
 have qY:∀(fo cc c':Addr) (s':zcB) (H':Hp),PE (Bv dU P w K mg base ["standing", "chart"] "first_inputs.<locals>.<lambda>" (lQ (jG aY)) fo (.ref c') [("chart",cc)] (mf dU P w K mg base ["place", "led_from", "figures", "found", "led"] "gone_on" (aN ij) t.fN fc A outer s H E).B6.A (mf dU P w K mg base ["place", "led_from", "figures", "found", "led"] "gone_on" (aN ij) t.fN fc A outer s H E).B6.stack s' H' E0) (vj (jG aY)) (DQ (JG K t.aV) [] E0 (xR (gb 1) (xR (gb 0) Lk))):=by
  intro fo cc c' s' H'
  exact az zI (hr.deeper _) rfl T.gG.m T.gG.F.kp T.gG.b .nil aW (aa (pv 1) (aa (pv 0) ah ag) ag)
 have LA:∀pins σ (H':Hp) (s':zcB) e Fn a o,Inv (mf dU P w K mg base ["place", "led_from", "figures", "found", "led"] "gone_on" (aN ij) t.fN fc A outer s H E).B6 pins σ H' s'->H' a=some (jt a o)->dU (mf dU P w K mg base ["place", "led_from", "figures", "found", "led"] "gone_on" (aN ij) t.fN fc A outer s H E).B6.stack (wo H' a) s' E0 e Fn->(mf dU P w K mg base ["place", "led_from", "figures", "found", "led"] "gone_on" (aN ij) t.fN fc A outer s H E).B6.xe e Fn:=fun _ _ _ _ _ _ _ _ _ _ h=>h.elim
 refine⟨_,[some (.ref Tf),some (.ref fo),some (.ref ga),some (.ref D),none],(ai (lh PassesOwn.never (aO (tH (J:=kH) (Q9 hr)) (pv 0) (pv 3) rfl)
 (ai (bE (aO b9 (bY (Gd (J:=kH)) rfl T.iq PyProof.Rows.Boot.«len» (aa (pv 3) ah ag)) (o9 rfl xt xu) (aU _))
 (au GV)
 aZ)
 (ai (wm (J:=kH) (Q9 hr) (pv 3) (pv 0) (pv 2) rfl)
 (ai (aQ (i:=4) nd rfl (Ws rfl) (Jy (CX:=dU) (E:=E0) (x:="standing") (y:="chart") (name:="<lambda>") (qual:="first_inputs.<locals>.<lambda>") (params:=C8 (jG aY)) (body:=vj (jG aY)) (scope:=lQ (jG aY)) (tb:=DQ (JG K t.aV) [] E0 (xR (gb 1) (xR (gb 0) Lk))) (k:=7) (hr.mono (by first|decide|omega)) Xm (pv 1) (aa (pv 0) ah ag) LA rn qY))
 (ai (bE (aO Nh (bY bK rfl T.iq PyProof.Rows.Boot.«len» (aa (pv 4) ah ag)) ak (aU _))
 (au (aT (bF (aa (a7 (aa (pv 2) (aa (pv 4) ah ag) ag)) ah dI))))
 aZ)
 (au (aQ (i:=0) nd rfl (Ws rfl) (aD bj (pv 4) ak ao))))))))
 (au (aT (bF ah)))),rfl,?_⟩
 have line:zcz=2 ^ 24:=rfl
 refine ax fun U2 iu=>?_
 refine zq fun Bd J9=>?_
 walk_at "rd"
 obtain⟨φ0,ZF⟩:=ZD.uM
 obtain⟨Iv,Dt⟩:∃Iv:Nat->St->Hp->Prop,∀m σ Hx,Iv m σ Hx↔∃(sa:Addr) (s':PG.cg) (f:jA) (aG:List (ky×V)) (z:Option V) (k:Nat),σ=[some (.ref sa),some (.ref fo),some (.ref ga),some (.ref D),z]/\bA D H Hx/\DS kH P w K Hx D aG/\ff K Hx f aG/\cm K Hx sa s'.1 s'.2/\dw pr s'/\(f.map (·.1)).Nodup/\(∀x∈f,dw pr x.1)/\lS (c5 pr) (bB pr+1) f0 s0 g=lS (c5 pr) (bB pr+1-k) f s' g/\k<=f.length/\m=bB pr-f.length:=⟨_,fun _ _ _=>Iff.rfl⟩
 refine⟨Iv,⟨_,(Dt _ _ _).mpr ⟨Tf,s0,f0,Th,none,0,rfl,.refl _ _,ZD,Xo,Qj,Xn,nd0,ZE,rfl,zaT _,rfl⟩⟩,?_⟩
 intro m σ Hx hv
 obtain⟨sa,s',f,aG,z,k,rfl,ux,ds,fa,uQ,si,Q3,fi,eg,hk,rfl⟩:=(Dt _ _ _).mp hv
 clear hv
 have aco:f.length<=bB pr:=by
  have:=iF Q3 (fun x hx=>by obtain⟨y,hy,rfl⟩:=zar.mp hx;exact fi y hy)
  rwa [Zb] at this
 obtain⟨n,en⟩:∃n,bB pr+1-k=n+1:=⟨bB pr-k,by lia⟩
 rw[en] at eg
 walk_at "rd"
 refine⟨D,sa,aG,oF s',rfl,rfl,ds,yv uQ,?_⟩
 rw[fa.UN s']
 by_cases hx:s'∈f.map (·.1)
 ·refine(if_neg (by rw[decide_eq_true hx];decide)).mpr ((iu _ _).mpr ?_)
  walk_at "rd"
  intro L hL
  have e2:lS (c5 pr) (n+1) f s' g=(f,none):=by rw[lS,if_pos hx]
  rw[eg,e2] at q
  obtain⟨φx,Ri⟩:=ds.uM
  have nLD:L≠D:=(aj Ri hL).symm
  have UX:H L=none:=by
   cases y:H L with
   |none=>rfl
   |some o=>rw[ux L o nLD y] at hL;cases hL
  have sL:=aq.new hL (.lst [])
  exact q L [] aG _ (ux.trans (.of sL)) UX ae (ds.mono sL) (fa.imp fun a xs h=>sL.bo h) rfl
 refine(if_pos (by rw[decide_eq_false hx];decide)).mpr ?_
 have ZG:((f++[(s',g)]).map (·.1)).Nodup:=by
  rw[zae]
  exact zbS.mpr ⟨Q3,by simp,fun a ha b hb=>by rw[Y9,zaR,zac] at hb;rw[hb];exact fun y=>hx (by rw[<- show a=s' from y];exact ha)⟩
 have ZH:∀x∈f++[(s',g)],dw pr x.1:=fun x hy=>by
  rcases zap.mp hy with hy |hy
  ·exact fi x hy
  ·rw[zac.mp hy];exact si
 have acq:(f++[(s',g)]).length<=bB pr:=by
  have:=iF ZG (fun x hx=>by obtain⟨y,hy,rfl⟩:=zar.mp hx;exact ZH y hy)
  rwa [Zb] at this
 have l1:(f++[(s',g)]).length=f.length+1:=by simp
 refine⟨Iv (bB pr-(f++[(s',g)]).length),fun σ' H' h=>⟨_,by lia,h⟩,?_⟩
 refine J9 _ _ _ (ax fun V1 B3=>?_)
 clear J9 iu
 have lk:=fa.len
 walk_at "rd"
 refine⟨D,aG,rfl,ds,?_⟩
 refine(if_neg (by lia)).mpr ((B3 _ _).mpr (ax fun V2 GF=>?_))
 clear B3
 obtain⟨φx,Ri⟩:=ds.uM
 walk_at "rd"
 refine⟨D,sa,aG,oF s',rfl,rfl,ds,yv uQ,by lia,fun H6 d6 e6=>(GF _ _).mpr (ax fun V3 Qk=>?_)⟩
 clear GF
 obtain⟨φ',rfl⟩:=e6
 have u6:bA D Hx (upd Hx D (.ext φ')):=(bA.refl _ _).put _
 have ZI:(upd Hx D (.ext φ')) D=some (.ext φ'):=ae
 have Ti:=ux.trans u6
 have Ka:=uQ.ext Ri u6
 have Xp:=(hga.rQ ZF ux).rQ Ri u6
 have ZJ:=(fa.imp fun a xs h=>h.rQ Ri u6).put hx Xp
 have co6:=(co.ext ZF ux).ext Ri u6
 have Tj:=lam.mono (JI Ti)
 clear u6
 generalize upd Hx D (.ext φ')=H6 at *
 walk_at "rd"
 have g3:H6 cc=some (jt cc lP):=by
  obtain⟨_,_,_,_,_,_,_,_,_,_,_,g3,_⟩:=Tj
  exact g3
 refine⟨.ref sa,fo,cc,lP,.ref ch,rfl,rfl,Tj,ch,sa,pr,s',rfl,co6.ext g3 vn,dr,Ka.ext g3 vn,si,fun l us H7 s7 hl yl UO n7=>(Qk _ _).mpr (ax fun V4 hV4=>?_)⟩
 clear Qk
 have Tn:=MB g3 s7
 have nl:l≠cc:=fun y=>by rw[y,n7] at yl;cases yl
 have Xq:(upd H7 cc (jt cc lP)) l=some (.lst us):=by rw[aw nl];exact yl
 have Xr:H6 l=none:=by rw[eW nl] at hl;exact hl
 have Ql:fH K (upd H7 cc (jt cc lP)) (c5 pr s') us:=UO.mono (aq.new n7 _)
 generalize upd H7 cc (jt cc lP)=H8 at *
 have sJ:=UO.at.1
 walk_at "rd"
 refine⟨l,us,rfl,.inl (.of Xq),?_⟩
 have ug:∀t1,c5 pr s'=[t1]->lS (c5 pr) (n+1) f s' g=lS (c5 pr) n (f++[(s',g)]) t1 g:=fun t1 e=>by
  rw[lS,if_neg hx]
  split
  ·rename_i t2 e2
   rw[e] at e2
   cases e2
   rfl
  ·rename_i l2 e2
   exact absurd e (e2 t1)
 have Xs:(∀t1,c5 pr s'≠[t1])->lS (c5 pr) (n+1) f s' g=(f++[(s',g)],some (c5 pr s')):=fun e=>by
  rw[lS,if_neg hx]
  split
  ·rename_i t2 e2
   exact absurd e2 (e t2)
  ·rfl
 have li:=vk dr si
 refine cE (fun e=>?_) (fun e=>fun p hp p1 Au=>?_)
 ·obtain⟨t1,et⟩:∃t1,c5 pr s'=[t1]:=zbX.mp (by lia)
  have ug:=ug t1 et
  rw[et] at Ql li
  obtain⟨ls8,at8⟩:=Ql.at
  obtain⟨ta,eta,Xt⟩:=at8 0 t1 rfl
  refine(hV4 _ _).mpr ?_
  walk_at "rd"
  refine bJ (.of Xq) (v:=.ref ta) (av eta) ((Dt _ _ _).mpr ⟨ta,t1,f++[(s',g)],_,some (.ref l),k+1,rfl,Ti.trans (.of Tn),d6.mono Tn,ZJ.imp fun a xs h=>Tn.bo h,Xt,li t1 (by simp),ZG,ZH,?_,by lia,rfl⟩)
  rw[eg,ug,show bB pr+1-(k+1)=n by lia]
 ·have Xs:=Xs fun t1 z=>by rw[z] at sJ;exact e (by rw[sJ];rfl)
  rw[eg,Xs] at q
  have sp:=aq.new hp (.tup [.ref ga,.ref l])
  have yp:(upd H8 p (.tup [.ref ga,.ref l])) p=_:=ae
  have P0:=aq.new Au (.lst [.ref p])
  have sA:=Tn.trans (sp.trans P0)
  have e6:H6 p1=none:=(Tn.trans sp).free Au
  have n1:p1≠D:=(aj ZI e6).symm
  have h0:H p1=none:=by
   cases y:H p1 with
   |none=>rfl
   |some o=>rw[Ti p1 o n1 y] at e6;cases e6
  have Xu:H l=none:=by
   cases y:H l with
   |none=>rfl
   |some o=>rw[Ti l o (aj ZI Xr).symm y] at Xr;cases Xr
  exact q p1 _ _ _ (Ti.trans (.of sA)) h0 ae (d6.mono sA) (ZJ.imp fun a xs h=>sA.bo h) ⟨p,l,us,rfl,.of (P0 _ _ yp),Xu,P0 _ _ (sp _ _ Xq),Ql.mono (sp.trans P0)⟩
theorem su(T:Tx K mg t):bN P w K mg base dU 1 t.eD t.eE ["deck"] (tm K):=by
 refine T.ay.F.mq rZ (fun vs H Q E h=>?_) (fun fc A outer s H vs Q E hr h=>?_)
 ·obtain⟨_,_,_,_,rfl,_⟩:=h
  rfl
 obtain⟨D,S,sc,p,rfl,dk,hp,q⟩:=h
 have nd:=rZ.nd
 refine⟨_,[some (V.ref D),none,none,none,none,none],(ai (aQ (i:=1) nd rfl (Ws rfl) (aD bj (pv 0) ak ao))
 (ai (qy (bf dS (pv 1) ak) (B7 (pv 0) ak set_list))
 (ai (aQ (i:=2) nd rfl (Ws rfl) (bY (Fg rfl) rfl T.JS PyProof.Rows.Boot.«max» (aa ak (aa (bY bK rfl T.iq PyProof.Rows.Boot.«len» (aa (aD bj (pv 0) ak ao) ah a8)) ah bG) ba)))
 (ai (aQ (i:=3) nd rfl (Ws rfl) ak)
 (ai (bE (aO (jY (eT hr)) (aD bj (pv 0) ak ao) (bF ah) (aU _))
 (au (aQ (i:=3) nd rfl (Ws rfl) (aD bj (aD bj (pv 0) ak ao) (bf cT (pv 1) (pv 2)) mv)))
 aZ)
 (ai (bE (aO RU (pv 3) (bf OL ak ak) (aU _))
 (ai (fh PassesOwn.never rfl (iW rfl T.jV (aa (bY (Fh rfl) rfl T.JT PyProof.Rows.Boot.«min» (aa ak (aa (bf yP (pv 1) (pv 2)) ah jw) ba)) ah bG)) (a9 (i:=4) nd rfl (Ws rfl))
 (au (aQ (i:=3) nd rfl (Ws rfl) (bf yP (pv 3) ak))))
 (au (aT (bf cT (pv 3) ak))))
 aZ)
 (ai (aQ (i:=5) nd rfl (Ws rfl) (bf cT (bf dS (bf dS (bf cT (pv 3) ak) (bf qA (bf qA ak (bf dS (pv 1) ak)) (bf dS (pv 1) ak))) ak) ak))
 (ai (aQ (i:=5) nd rfl (Ws rfl) (bf cT (bf qA (pv 5) (pv 5)) ak))
 (ai (aQ (i:=5) nd rfl (Ws rfl) (bf cT (bf dS (bf dS (bf qA (pv 5) ak) (bf qA ak (pv 1))) ak) ak))
 (au (aT (bf yP (bf cT (bf qA (pv 5) (pv 5)) ak) ak)))))))))))),rfl,?_⟩
 have line:zcz=2 ^ 24:=rfl
 refine ax fun U1 fU=>?_
 walk_at "rd"
 refine bJ (.of dk.bP) (av (j:=1) rfl) ((fU _ _).mpr (ax fun U2 iu=>?_))
 clear fU
 walk_at "rd"
 refine⟨D,_,1,1,rfl,rfl,dk.bP,rfl,?_⟩
 have u1:bA D H (upd H D (.lst [.ref S,.int (p+1)])):=(bA.refl D H).put _
 have d1:(upd H D (.lst [.ref S,.int (p+1)])) D=some (.lst [.ref S,.int (p+1)]):=ae
 show U2 _ (upd H D (.lst [.ref S,.int (p+1)]))
 generalize upd H D (.lst [.ref S,.int (p+1)])=H1 at *
 have UY:=u1 _ _ dk.ne dk.gU
 refine(iu _ _).mpr (ax fun U3 jW=>?_)
 clear iu
 walk_at "rd"
 refine bJ (.of d1) (av (j:=0) rfl) ⟨S,_,rfl,.inl (.of UY),1,_,rfl,?_⟩
 rw[Zb]
 have em:(if (sc.length:Int)>1 then (sc.length:Int) else 1)=((max 1 sc.length:Nat):Int):=by split<;>lia
 rw[em]
 have m1:1<=max 1 sc.length:=by lia
 refine(jW _ _).mpr (ax fun U4 lZ=>?_)
 clear jW
 walk_at "rd"
 refine(lZ _ _).mpr (ax fun U5 xi=>?_)
 clear lZ
 have rest:∀H2,aq H1 H2->U5 [some (V.ref D),some (V.int p),some (V.int ((max 1 sc.length:Nat):Int)),some (V.int (if sc=[] then 0 else sc.getD (p%max 1 sc.length) 0)),none,none] H2:=by
  intro H2 s2
  have fin:Q (V.int (PG.next sc p)) H2:=q H2 (u1.trans (.of s2)) ⟨s2 _ _ d1,s2 _ _ UY,dk.ne,dk.len⟩
  unfold PG.next at fin
  simp only at fin
  have mle:max 1 sc.length<=63:=by have:=dk.len;lia
  generalize (if sc=[] then 0 else sc.getD (p%max 1 sc.length) 0)=cell at *
  generalize max 1 sc.length=m at *
  refine(xi _ _).mpr (ax fun U6 zH=>?_)
  walk_at "rd"
  have e18:(10:Int) ^ Int.toNat 18=10 ^ 18:=rfl
  have p18:RT 10 18:=⟨by decide,by decide,by decide⟩
  rw[e18]
  refine⟨p18,cE (fun hc=>?_) (fun hc=>?_)⟩
  ·rw[if_pos hc] at fin
   refine nX fun U hU=>?_
   walk_at "rd"
   have ed:(p:Int)/(m:Int)=((p/m:Nat):Int):=(Int.natCast_ediv p m).symm
   have e60:(if (p:Int)/(m:Int)<60 then (p:Int)/(m:Int) else 60)=((min 60 (p/m):Nat):Int):=by
    rw[ed]
    split<;>lia
   have b60:min 60 (p/m)<=60:=Nat.min_le_left _ _
   refine⟨⟨by lia,by lia⟩,_,_,rfl,_,rfl,?_⟩
   rw[e60]
   generalize min 60 (p/m)=N at *
   refine⟨by lia,by lia,hU _ _ ?_⟩
   rw[zaU]
   refine jX (lo:=0) (n:=N) (fun i σ H3=>H3=H2/\∃(c:Int) (a:Option V),σ=[some (V.ref D),some (V.int p),some (V.int m),some (V.int c),a,none]/\PG.AX (N-i) c=PG.AX N cell) ⟨rfl,cell,none,rfl,rfl⟩ ?_ ?_
   ·rintro i σ H3 hi ⟨rfl,c,a,rfl,e⟩
    rw[zcn]
    walk_at "rd"
    refine⟨_,_,rfl,?_⟩
    rw[<- e,show N-i=(N-(i+1))+1 by lia,PG.AX]
   ·rintro σ H3 ⟨rfl,c,a,rfl,e⟩
    rw[Nat.sub_self,PG.AX] at e
    walk_at "rd"
    rw[e]
    exact fin
  ·rw[if_neg hc] at fin
   refine(zH _ _).mpr ?_
   clear xi zH
   walk_at "rd"
   have b1:=zaA (cell%2147483629+51437*((p:Int)+1)*((p:Int)+3)+1409) (show (2147483629:Int)≠0 by decide)
   have b2:=zaw (cell%2147483629+51437*((p:Int)+1)*((p:Int)+3)+1409) (show (0:Int)<2147483629 by decide)
   refine⟨mulL (by decide) (by decide),mulR (by lia) (by lia),?_⟩
   generalize (cell%2147483629+51437*((p:Int)+1)*((p:Int)+3)+1409)%2147483629=x at *
   refine⟨mulL (by lia) (by lia),mulR (by decide) (by decide),mulL (by decide) (by decide),?_⟩
   have c1:=zaA (x*x%2147483587*69621+401*(p:Int)+7) (show (2147483579:Int)≠0 by decide)
   have c2:=zaw (x*x%2147483587*69621+401*(p:Int)+7) (show (0:Int)<2147483579 by decide)
   generalize (x*x%2147483587*69621+401*(p:Int)+7)%2147483579=y at *
   exact⟨mulL (by lia) (by lia),fin⟩
 walk_at "rd"
 refine bJ (.of d1) (av (j:=0) rfl) fun p1 Au=>?_
 have s2:=aq.new Au (.lst [])
 have d2:=s2 _ _ d1
 refine⟨S,p1,_,rfl,rfl,.of (s2 _ _ UY),.of ae,?_⟩
 have sc2:=s2 _ _ UY
 generalize upd H1 p1 (.lst [])=H2 at *
 have rs:=rest H2 s2
 cases sc with
 |nil=>exact rs
 |cons c r=>
  rw[if_neg (by simp)] at rs
  refine(if_pos rfl).mpr (bJ (.of d2) (av (j:=0) rfl) ⟨by lia,?_⟩)
  have lt:p%max 1 (c::r).length<(c::r).length:=by
   have:max 1 (c::r).length=(c::r).length:=by simp
   rw[this]
   exact Nat.mod_lt _ (by simp)
  refine bJ (.of sc2) (LF (f:=V.int) (xs:=c::r) 0 (by lia) (by lia)) ?_
  have e:((p:Int)%((max 1 (c::r).length:Nat):Int)).toNat=p%max 1 (c::r).length:=by lia
  rw[e]
  exact rs
theorem Xv(T:Tx K mg t){n:Nat}(hG:bN P w K mg base dU (n+1) t.kn t.j5 ["deck", "boxes", "deep"] (vV K n)) :
 bN P w K mg base dU (n+2) t.kn t.j5 ["deck", "boxes", "deep"] (vV K (n+1)):=by
 have bD:bN P w K mg base dU 1 t.eD t.eE ["deck"] (tm K):=su T
 refine T.bS.F.mq yz (fun vs H Q E h=>?_) (fun fc A outer s H vs Q E hr h=>?_)
 ·obtain⟨_,_,_,_,_,_,_,rfl,_⟩:=h
  rfl
 obtain⟨D,S,B,sc,p,d,bs,rfl,hd,dk,hp,hb,q⟩:=h
 have nd:=yz.nd
 refine⟨_,[some (V.ref D),some (V.ref B),some (V.int d),none,none],(ai (aQ (i:=3) nd rfl (Ws rfl) (bf cT (az bD (hr.mono (by first|decide|omega)) rfl T.ay.m T.ay.F.kp T.ay.b .nil aW (aa (pv 0) ah ag)) ak))
 (ai (bE (PW.pt (pw_and (aO G6 (pv 2) ak (aU _)) (pw_and1 (aO pY (pv 3) ak (aU _)))))
 (ai (aQ (i:=4) nd rfl (Ws rfl) (az hG (hr.mono (by first|decide|omega)) rfl T.bS.m T.bS.F.kp T.bS.b .nil aW (aa (pv 0) (aa (pv 1) (aa (bf vx (pv 2) ak) ah jw) ag) ag)))
 (au (aT (a7 (aa (aD yU bq (pv 3) pC) (aa (pv 4) (aa (az hG (hr.mono (by first|decide|omega)) rfl T.bS.m T.bS.F.kp T.bS.b .nil aW (aa (pv 0) (aa (pv 1) (aa (bf vx (pv 2) ak) ah jw) ag) ag)) ah bG) ag) a8)))))
 aZ)
 (ai (bE (PW.pt (pw_and (aO (jY (eT hr)) (pv 1) (bF ah) (aU _)) (pw_and1 (aO pY (pv 3) ak (aU _)))))
 (au (aT (a7 (aa bq (aa (aD aR (aD bj (pv 1) (bf cT (az bD (hr.mono (by first|decide|omega)) rfl T.ay.m T.ay.F.kp T.ay.b .nil aW (aa (pv 0) ah ag)) (bY bK rfl T.iq PyProof.Rows.Boot.«len» (aa (pv 1) ah ag))) mv) ak ao) ah a8) ba))))
 aZ)
 (au (aT (a7 (aa bq (aa (bf cT (az bD (hr.mono (by first|decide|omega)) rfl T.ay.m T.ay.F.kp T.ay.b .nil aW (aa (pv 0) ah ag)) (aD bj (bF (dW (vs:=[.int 3,.int 12,.int 1000]) (by kernel_rfl))) (bf cT (az bD (hr.mono (by first|decide|omega)) rfl T.ay.m T.ay.F.kp T.ay.b .nil aW (aa (pv 0) ah ag)) ak) mv)) ah jw) ba))))))),rfl,?_⟩
 have line:zcz=2 ^ 24:=rfl
 have pw:1<=2 ^ d:=zbG
 refine ax fun U1 fU=>?_
 walk_at "rd"
 refine⟨D,S,sc,p,rfl,dk,by lia,fun H1 u1 Du=>?_⟩
 walk_at "rd"
 refine(fU _ _).mpr (ax fun U2 iu=>?_)
 clear fU
 have NZ:H D≠none:=by rw[dk.bP];simp
 have UR:H1 D≠none:=by rw[Du.bP];simp
 have NL:=hb.up u1
 obtain⟨n0,n1⟩:=PG.jy sc p
 have Dv:=u1.pV UR
 walk_at "rd"
 have leaf:(d=0\/¬PG.next sc p%7<3)->U2 [some (V.ref D),some (V.ref B),some (V.int d),some (V.int (PG.next sc p%7)),none] H1:=by
  intro hl
  have eg:PG.cH sc bs d p=if bs≠[]/\PG.next sc p%7<5 then (.box (PG.pick ⟨[],0,0⟩ bs (PG.next sc (p+1)%bs.length)).name,p+2) else (.num (PG.next sc (p+1)%PG.pick 1 [3,12,1000] (PG.next sc (p+2)%3)),p+3):=by
   cases d with
   |zero=>rfl
   |succ d=>
    unfold PG.cH
    simp only
    rw[if_neg (hl.resolve_left (by lia))]
  refine(iu _ _).mpr (ax fun U3 jW=>?_)
  have num:¬(bs≠[]/\PG.next sc p%7<5)->∀H2,aq H1 H2->U3 [some (V.ref D),some (V.ref B),some (V.int d),some (V.int (PG.next sc p%7)),none] H2:=by
   intro hn H2 s2
   rw[if_neg hn] at eg
   rw[eg] at q
   refine(jW _ _).mpr ?_
   walk_at "rd"
   refine⟨D,S,sc,p+1,rfl,Du.same s2,by lia,fun H3 u3 qm p4 sN=>?_⟩
   have uR:=qm.same (aq.new sN (.lst [.int 3,.int 12,.int 1000]))
   have h4:(upd H3 p4 (.lst [.int 3,.int 12,.int 1000])) p4=some (.lst [.int 3,.int 12,.int 1000]):=ae
   have u4:=u3.new sN (.lst [.int 3,.int 12,.int 1000])
   have n4:p4≠D:=(aj qm.bP sN).symm
   generalize upd H3 p4 (.lst [.int 3,.int 12,.int 1000])=H4 at *
   refine⟨D,S,sc,p+2,rfl,uR,by lia,fun H5 u5 GG=>?_⟩
   obtain⟨m0,m1⟩:=PG.jy sc (p+2)
   have h5:=u5 _ _ n4 h4
   have pk:∀i:Int,0<=i->i<3->sI [V.int 3,V.int 12,V.int 1000] i=some (V.int (PG.pick 1 [3,12,1000] i))/\(0:Int)<PG.pick 1 [3,12,1000] i:=fun i h0 h3=>by
    have z3:i=0\/i=1\/i=2:=by lia
    rcases z3 with rfl |rfl |rfl
    ·exact⟨av (j:=0) rfl,by decide⟩
    ·exact⟨av (j:=1) rfl,by decide⟩
    ·exact⟨av (j:=2) rfl,by decide⟩
   obtain⟨k1,k2⟩:=pk (PG.next sc (p+2)%3) (by lia) (by lia)
   walk_at "rd"
   refine bJ (.of h5) k1 ?_
   walk_at "rd"
   refine⟨k2,fun p6 l0=>?_⟩
   have u2:bA D H1 H2:=.of s2
   refine q _ _ (((u1.trans (u2.trans u4)).trans u5).new l0 _) (GG.same (aq.new l0 _)) ?_
   refine jM l0 ?_ (.cons .str (.cons .int .nil))
   exact fun b Xw=>(u5.pV (by rw[GG.bP];simp)) b ((u4.pV (by rw[uR.bP];simp)) b ((u2.pV (by rw[s2 _ _ Du.bP];simp)) b (Dv b Xw)))
  walk_at "rd"
  intro p2 xf
  have s2:=aq.new xf (.lst [])
  have qQ:=NL.same s2
  have h2:(upd H1 p2 (.lst [])) p2=some (.lst []):=ae
  have xv:=Du.same s2
  generalize upd H1 p2 (.lst [])=H2 at *
  obtain⟨xs,hx,lx,_⟩:=qQ.list
  refine⟨B,p2,xs,rfl,rfl,hx,.of h2,?_⟩
  have em:xs.isEmpty=true↔bs=[]:=by
   rw[zco,<- zaC,lx,zaC]
  by_cases vi:bs=[]
  ·have e1:=em.mpr vi
   rw[e1,if_neg (by decide),if_neg WC]
   exact num (fun z=>z.1 vi) H2 s2
  ·have e1:xs.isEmpty=false:=Bool.eq_false_iff.mpr fun z=>vi (em.mp z)
   rw[e1,if_pos (by decide)]
   refine cE (fun k5=>?_) (fun k5=>num (fun z=>k5 z.2) H2 s2)
   rw[if_pos ⟨vi,k5⟩] at eg
   rw[eg] at q
   refine⟨D,S,sc,p+1,rfl,xv,by lia,fun H3 u3 qm=>?_⟩
   have Kb:=qQ.up u3
   obtain⟨ys,hy,ly,_⟩:=Kb.list
   refine⟨B,ys,rfl,.inl hy,?_⟩
   rw[ly]
   have pos:0<bs.length:=zaY.mpr vi
   walk_at "rd"
   refine⟨by lia,Kb.pick (zaA _ (by lia)) (zaw _ (by lia)) fun p4 sN=>?_⟩
   have u2:bA D H1 H2:=.of s2
   refine q _ _ (((u1.trans u2).trans u3).new sN _) (qm.same (aq.new sN _)) (jM sN ?_ (.cons .str (.cons .str .nil)))
   exact fun b Xw=>(u3.pV (by rw[qm.bP];simp)) b ((u2.pV (by rw[xv.bP];simp)) b (Dv b Xw))
 refine cE (fun d0=>cE (fun k3=>?_) (fun k3=>leaf (.inr k3))) (fun d0=>(if_neg WC).mpr (leaf (.inl (by lia))))
 obtain⟨d,rfl⟩:∃e,d=e+1:=⟨d-1,by lia⟩
 have e1:((d+1:Nat):Int)-1=(d:Int):=by lia
 rw[e1]
 have e2:(2:Nat) ^ (d+1)=2*2 ^ d:=by rw[zck];lia
 have one:1<=2 ^ d:=zbG
 rw[e2] at hp
 have eg:PG.cH sc bs (d+1) p=(.bin (PG.pick [] [[43],[45],[42]] (PG.next sc p%7)) (PG.cH sc bs d (p+1)).1 (PG.cH sc bs d (PG.cH sc bs d (p+1)).2).1,(PG.cH sc bs d (PG.cH sc bs d (p+1)).2).2):=by
  conv=>lhs;unfold PG.cH
  simp only
  rw[if_pos k3]
 rw[eg] at q
 obtain⟨g1,g2⟩:=PG.jx sc bs d (p+1)
 refine⟨D,S,B,sc,p+1,d,bs,rfl,by lia,Du,by lia,NL,fun v2 H2 u2 xv o2=>?_⟩
 have qQ:=NL.up u2
 have sg:∀i:Int,0<=i->i<3->∃c,sI (v9 "+-*").cps.toList i=some c/\V.str ⟨#[c]⟩=V.str (L2.S (PG.pick [] [[43],[45],[42]] i)):=fun i h0 h3=>by
  have z3:i=0\/i=1\/i=2:=by lia
  rcases z3 with rfl |rfl |rfl
  ·exact⟨43,av (j:=0) (by decide +kernel),rfl⟩
  ·exact⟨45,av (j:=1) (by decide +kernel),rfl⟩
  ·exact⟨42,av (j:=2) (by decide +kernel),rfl⟩
 obtain⟨c,hc,ec⟩:=sg (PG.next sc p%7) (by lia) k3
 refine⟨_,_,c,rfl,rfl,by decide,hc,?_⟩
 rw[ec]
 refine⟨D,S,B,sc,_,d,bs,rfl,by lia,xv,by lia,qQ,fun v3 H3 u3 qm o3 p4 sN=>?_⟩
 have KQ:H2 D≠none:=by rw[xv.bP];simp
 have GD:H3 D≠none:=by rw[qm.bP];simp
 refine q _ _ (((u1.trans u2).trans u3).new sN _) (qm.same (aq.new sN _)) (jM sN ?_ (.cons .str (.cons ((o2.back Dv).up u3 NZ) (.cons (o3.back fun b z=>(u2.pV KQ) b (Dv b z)) .nil))))
 exact fun b z=>(u3.pV GD) b ((u2.pV KQ) b (Dv b z))
theorem Kc(T:Tx K mg t):∀n,bN P w K mg base dU (n+1) t.kn t.j5 ["deck", "boxes", "deep"] (vV K n)
 |0=>by
  have no:∀vs H Q E,¬vV K 0 vs H Q E:=fun vs H Q E h=>by obtain⟨_,_,_,_,_,_,_,_,h,_⟩:=h;lia
  exact⟨fun vs H Q E h=>absurd h (no vs H Q E),fun A outer s H args us vs Q E _ _ _ _ h=>absurd h (no vs H Q E)⟩
 |n+1=>Xv T (Kc T n)
theorem Kd(T:Tx K mg t):bN P w K mg base dU 2 t.iK t.jc ["deck"] (CJ K):=by
 have bD:bN P w K mg base dU 1 t.eD t.eE ["deck"] (tm K):=su T
 refine T.gJ.F.mq qe (fun vs H Q E h=>?_) (fun fc A outer s H vs Q E hr h=>?_)
 ·obtain⟨_,_,_,_,rfl,_⟩:=h
  rfl
 obtain⟨D,S,sc,p,rfl,dk,hp,q⟩:=h
 have nd:=qe.nd
 refine⟨_,[some (V.ref D),none,none,none,none],(ai (aQ (i:=1) nd rfl (Ws rfl) (bF ah))
 (ai (aQ (i:=2) nd rfl (Ws rfl) (bf cT (az bD (hr.mono (by first|decide|omega)) rfl T.ay.m T.ay.F.kp T.ay.b .nil aW (aa (pv 0) ah ag)) ak))
 (ai (fh PassesOwn.never rfl (iW rfl T.jV (aa (bf cT (az bD (hr.mono (by first|decide|omega)) rfl T.ay.m T.ay.F.kp T.ay.b .nil aW (aa (pv 0) ah ag)) ak) ah jw)) (a9 (i:=3) nd rfl (Ws rfl))
 (ai (aQ (i:=4) nd rfl (Ws rfl) (bf dS ak (bf cT (az bD (hr.mono (by first|decide|omega)) rfl T.ay.m T.ay.F.kp T.ay.b .nil aW (aa (pv 0) ah ag)) ak)))
 (au (cw (fV Y8 zaf zag b7 (pv 1) (aa (a7 (aa (aD bj (bF (dW (vs:=[.str "c",.str "bb",.str "aaa",.str "boxes"]) (by kernel_rfl))) (bf vx (pv 3) (pv 2)) mv) (aa (pv 4) (aa (bf cT (az bD (hr.mono (by first|decide|omega)) rfl T.ay.m T.ay.F.kp T.ay.b .nil aW (aa (pv 0) ah ag)) (pv 4)) ah jw) ag) a8)) ah dI))))))
 (au (aT (pv 1)))))),rfl,?_⟩
 have line:zcz=2 ^ 24:=rfl
 refine ax fun U1 fU=>?_
 walk_at "rd"
 intro B hB
 have s1:=aq.new hB (.lst [])
 have h1:(upd H B (.lst [])) B=some (.lst []):=ae
 have Du:=dk.same s1
 have nB:B≠D:=(aj dk.bP hB).symm
 have NZ:H D≠none:=by rw[dk.bP];simp
 generalize upd H B (.lst [])=H1 at *
 refine(fU _ _).mpr (ax fun U2 iu=>?_)
 clear fU
 walk_at "rd"
 refine⟨D,S,sc,p,rfl,Du,by lia,fun H2 u2 xv=>?_⟩
 walk_at "rd"
 refine(iu _ _).mpr (ax fun U3 jW=>?_)
 clear iu
 have h2:=u2 _ _ nB h1
 refine nX fun U hU=>?_
 walk_at "rd"
 refine⟨D,S,sc,p+1,rfl,xv,by lia,fun H3 u3 qm=>?_⟩
 walk_at "rd"
 obtain⟨c0,c1⟩:=PG.jy sc (p+1)
 refine⟨_,rfl,by lia,by lia,hU _ _ ?_⟩
 have h3:=u3 _ _ nB h2
 have As:bA D H H3:=((bA.of s1).trans u2).trans u3
 have Gk:∀b,H b≠none->H3 b≠none:=As.pV (by rw[qm.bP];simp)
 generalize hN:(PG.next sc (p+1)%4).toNat=N at *
 have N5:N<=4:=by lia
 clear hU
 refine jX (lo:=0) (n:=N) (fun i σ H4=>∃(a b:Option V) (pi:Nat) (pre:List PG.fW) (xs:List V),σ=[some (V.ref D),some (V.ref B),some (V.int (PG.next sc p%4)),a,b]/\pi<=p+2+2*i/\kS K H4 D S sc pi/\H4 B=some (.lst xs)/\xs.length=i/\pre.length=i/\
  (PG.bL sc (PG.next sc p%4) N 0 (p+2)).1=pre++(PG.bL sc (PG.next sc p%4) (N-i) i pi).1/\(PG.bL sc (PG.next sc p%4) N 0 (p+2)).2=(PG.bL sc (PG.next sc p%4) (N-i) i pi).2/\
  lG K (fun b=>if b=B then some (.lst []) else H b) H4 (pre.map iA) xs/\(∀b o,b≠D->b≠B->H b=some o->H4 b=some o)) ?_ ?_ ?_
 ·exact⟨none,none,p+2,[],[],rfl,by lia,qm,h3,rfl,rfl,rfl,rfl,lG.nil,fun b o n1 n2 e=>As b o n1 e⟩
 ·rintro i σ H4 hi ⟨a,b,pi,pre,xs,rfl,lp,uR,h4,lx,Qm,e1,e2,ow,kp⟩
  rw[zcn]
  refine ax fun U4 lZ=>?_
  walk_at "rd"
  refine⟨D,S,sc,pi,rfl,uR,by lia,fun H7 u7 dk7=>?_⟩
  have h7:=u7 _ _ nB h4
  walk_at "rd"
  refine(lZ _ _).mpr ?_
  clear lZ
  have z0:0<2+PG.next sc pi%3:=by lia
  have eN:N-i=(N-(i+1))+1:=by lia
  rw[eN,PG.bL] at e1 e2
  simp only at e1 e2
  generalize 2+PG.next sc pi%3=size at *
  walk_at "rd"
  refine⟨.inl ⟨rfl,_,.of h7⟩,fun p8 US=>?_⟩
  have s8:=aq.new US (.lst [V.str (v9 "c"),V.str (v9 "bb"),V.str (v9 "aaa"),V.str (v9 "boxes")])
  have dk8:=dk7.same s8
  have h8:=s8 _ _ h7
  have ZK:0<=PG.next sc p%4/\PG.next sc p%4<4:=by lia
  have nm:∀(a:Nat) (b:Int),a<4->0<=b->b<4->sI [V.str (v9 "c"),V.str (v9 "bb"),V.str (v9 "aaa"),V.str (v9 "boxes")] ((a:Int)-b)=some (V.str (L2.S (PG.pick [] PG.da (((a:Int)-b)%4)))):=by
   intro a b ha FT NL
   obtain⟨c,rfl⟩:∃c:Nat,b=c:=⟨b.toNat,by lia⟩
   have key:∀a<4,∀c<4,sI [V.str (v9 "c"),V.str (v9 "bb"),V.str (v9 "aaa"),V.str (v9 "boxes")] (((a:Nat):Int)-((c:Nat):Int))=some (V.str (L2.S (PG.pick [] PG.da ((((a:Nat):Int)-((c:Nat):Int))%4)))):=by decide +kernel
   exact key a ha c (by lia)
  refine AO (nm i _ (by lia) ZK.1 ZK.2) ?_
  generalize upd H7 p8 (.lst [V.str (v9 "c"),V.str (v9 "bb"),V.str (v9 "aaa"),V.str (v9 "boxes")])=H8 at *
  refine⟨D,S,sc,pi+1,rfl,dk8,by lia,fun H9 u9 To=>?_⟩
  walk_at "rd"
  refine⟨z0,fun pa Qn=>?_⟩
  have h9:=u9 _ _ nB h8
  have uD:bA D H4 H9:=u7.trans ((bA.of s8).trans u9)
  have zJ:=To.same (aq.new Qn (.tup [V.str (L2.S (PG.pick [] PG.da (((i:Int)-PG.next sc p%4)%4))),V.int size,V.int (PG.next sc (pi+1)%size)]))
  have F3:=aq.new Qn (.tup [V.str (L2.S (PG.pick [] PG.da (((i:Int)-PG.next sc p%4)%4))),V.int size,V.int (PG.next sc (pi+1)%size)]) _ _ h9
  have Xx:∀b,(fun b=>if b=B then some (HO.lst []) else H b) b≠none->H9 b≠none:=fun b hb=>by
   by_cases eb:b=B
   ·rw[eb,h9];simp
   ·have UE:H b≠none:=by simpa[eb] using hb
    by_cases ed:b=D
    ·rw[ed,To.bP];simp
    ·cases z:H b with
     |none=>exact absurd z UE
     |some o=>rw[uD b o ed (kp b o ed eb z)];simp
  have Rj:(fun b=>if b=B then some (HO.lst []) else H b) D≠none:=by simp[nB.symm];exact NZ
  have nt:=jM (K:=K) Qn Xx (.cons (.str (x:=L2.S (PG.pick [] PG.da (((i:Int)-PG.next sc p%4)%4)))) (.cons (.int (i:=size)) (.cons (.int (i:=PG.next sc (pi+1)%size)) .nil)))
  have ow9:lG K (fun b=>if b=B then some (HO.lst []) else H b) H9 (pre.map iA) xs:=ow.up uD Rj
  have Qo:=ow9.same (aq.new Qn (.tup [V.str (L2.S (PG.pick [] PG.da (((i:Int)-PG.next sc p%4)%4))),V.int size,V.int (PG.next sc (pi+1)%size)]))
  have Ke:∀b o,b≠D->b≠B->H b=some o->(upd H9 pa (.tup [V.str (L2.S (PG.pick [] PG.da (((i:Int)-PG.next sc p%4)%4))),V.int size,V.int (PG.next sc (pi+1)%size)])) b=some o:=fun b o n1 n2 e=>aq.new Qn _ _ _ (uD b o n1 (kp b o n1 n2 e))
  generalize upd H9 pa (.tup [V.str (L2.S (PG.pick [] PG.da (((i:Int)-PG.next sc p%4)%4))),V.int size,V.int (PG.next sc (pi+1)%size)])=sM at *
  refine⟨B,xs,_,rfl,rfl,F3,by lia,?_⟩
  refine⟨_,_,pi+2,pre++[⟨PG.pick [] PG.da (((i:Int)-PG.next sc p%4)%4),size,PG.next sc (pi+1)%size⟩],xs++[V.ref pa],rfl,by lia,?_,ae,by simp[lx],by simp[Qm],?_,e2,?_,?_⟩
  ·have nS:S≠B:=aj dk.gU hB
   exact⟨by rw[aw nB.symm];exact zJ.bP,by rw[aw nS];exact zJ.gU,zJ.ne,zJ.len⟩
  ·rw[e1];simp
  ·rw[zae]
   exact Pq F3 (Qo.snoc nt) (by simp)
  ·intro b o n1 n2 e
   rw[aw n2]
   exact Ke b o n1 n2 e
 ·rintro σ H4 ⟨a,b,pi,pre,xs,rfl,lp,uR,h4,lx,Qm,e1,e2,ow,kp⟩
  refine(jW _ _).mpr ?_
  walk_at "rd"
  rw[Nat.sub_self,PG.bL] at e1 e2
  simp only[zab] at e1 e2
  refine q B H4 (fun b o n1 e=>?_) (by rw[e2];exact uR) hB (fun O hO=>?_)
  ·by_cases eb:b=B
   ·rw[eb,hB] at e;cases e
   ·exact kp b o n1 eb e
  ·rw[e1]
   refine Fix.lst h4 (fun z=>hO B z hB) (ow O fun b hb=>?_)
   by_cases eb:b=B
   ·simp[eb]
   ·simp[eb];exact hO b hb
theorem Kf(T:Tx K mg t):bN P w K mg base dU 5 t.iL t.jd ["deck", "boxes", "k"] (CK K):=by
 have bD:bN P w K mg base dU 1 t.eD t.eE ["deck"] (tm K):=su T
 have hG:=Kc (P:=P) (w:=w) (base:=base) T 3
 refine T.gK.F.mq qf (fun vs H Q E h=>?_) (fun fc A outer s H vs Q E hr h=>?_)
 ·obtain⟨_,_,_,_,_,_,_,rfl,_⟩:=h
  rfl
 obtain⟨D,S,B,sc,p,k,bs,rfl,dk,hp,hb,q⟩:=h
 have nd:=qf.nd
 refine⟨_,[some (V.ref D),some (V.ref B),some (V.int k),none,none],(ai (aQ (i:=3) nd rfl (Ws rfl) (bf cT (az bD (hr.mono (by first|decide|omega)) rfl T.ay.m T.ay.F.kp T.ay.b .nil aW (aa (pv 0) ah ag)) ak))
 (ai (bE (PW.pt (pw_and (aO (jY (eT hr)) (pv 1) (bF ah) (aU _)) (pw_and1 (aO pY (pv 3) ak (aU _)))))
 (au (aT (a7 (aa bq (aa (pv 2) (aa (aD aR (aD bj (pv 1) (bf cT (az bD (hr.mono (by first|decide|omega)) rfl T.ay.m T.ay.F.kp T.ay.b .nil aW (aa (pv 0) ah ag)) (bY bK rfl T.iq PyProof.Rows.Boot.«len» (aa (pv 1) ah ag))) mv) ak ao) ah a8) ag) ba))))
 aZ)
 (ai (bE (PW.pt (pw_and (aO (jY (eT hr)) (pv 1) (bF ah) (aU _)) (pw_and1 (aO pY (pv 3) ak (aU _)))))
 (au (aT (a7 (aa bq (aa (pv 2) (aa (aD aR (aD bj (pv 1) (bf cT (az bD (hr.mono (by first|decide|omega)) rfl T.ay.m T.ay.F.kp T.ay.b .nil aW (aa (pv 0) ah ag)) (bY bK rfl T.iq PyProof.Rows.Boot.«len» (aa (pv 1) ah ag))) mv) ak ao) (aa (az hG (hr.mono (by first|decide|omega)) rfl T.bS.m T.bS.F.kp T.bS.b .nil aW (aa (pv 0) (aa (pv 1) (aa ak ah ba) ag) ag)) ah bG) a8) ag) ba))))
 aZ)
 (ai (bE (aO b9 (pv 3) ak (aU _))
 (ai (aQ (i:=4) nd rfl (Ws rfl) (aD yU bq (bf cT (az bD (hr.mono (by first|decide|omega)) rfl T.ay.m T.ay.F.kp T.ay.b .nil aW (aa (pv 0) ah ag)) ak) mv))
 (au (aT (a7 (aa bq (aa (pv 2) (aa (pv 4) (aa (az hG (hr.mono (by first|decide|omega)) rfl T.bS.m T.bS.F.kp T.bS.b .nil aW (aa (pv 0) (aa (pv 1) (aa ak ah ba) ag) ag)) (aa (az hG (hr.mono (by first|decide|omega)) rfl T.bS.m T.bS.F.kp T.bS.b .nil aW (aa (pv 0) (aa (pv 1) (aa ak ah ba) ag) ag)) ah bG) bG) ag) ag) ba)))))
 aZ)
 (ai (bE (PW.pt (pw_and (aO b9 (pv 3) ak (aU _)) (pw_and1 (aO b9 (bf cT (az bD (hr.mono (by first|decide|omega)) rfl T.ay.m T.ay.F.kp T.ay.b .nil aW (aa (pv 0) ah ag)) ak) ak (aU _)))))
 (au (aT (a7 (aa bq (aa (pv 2) ah ag) ba))))
 aZ)
 (au (aT (a7 (aa bq (aa (pv 2) (aa (az hG (hr.mono (by first|decide|omega)) rfl T.bS.m T.bS.F.kp T.bS.b .nil aW (aa (pv 0) (aa (pv 1) (aa ak ah ba) ag) ag)) ah bG) ag) ba))))))))),rfl,?_⟩
 have line:zcz=2 ^ 24:=rfl
 refine ax fun U1 fU=>?_
 walk_at "rd"
 refine⟨D,S,sc,p,rfl,dk,by lia,fun H1 u1 Du=>?_⟩
 walk_at "rd"
 refine(fU _ _).mpr (ax fun U2 iu=>?_)
 clear fU
 have NZ:H D≠none:=by rw[dk.bP];simp
 obtain⟨n0,n1⟩:=PG.jy sc p
 have Dv:=u1.pV (by rw[Du.bP];simp)
 have NL:=hb.up u1
 have eg:=PG.oa sc bs k p
 generalize hkd:PG.next sc p%10=kd at *
 have say:∀(H2:Hp) (p2:Nat),PG.bW sc bs k p=(.say k (PG.cH sc bs 2 p2).1,(PG.cH sc bs 2 p2).2)->p2<=p+2->bA D H H2->kS K H2 D S sc p2->jE K (·=D) H2 B bs->
  vV K 3 [V.ref D,V.ref B,V.int 2] H2 (fun x H3=>∀p4,H3 p4=none->Q (V.ref p4) (upd H3 p4 (.tup [V.str (v9 "say"),V.int k,x]))) E0:=by
  intro H2 p2 e xf u2 xv qQ
  rw[e] at q
  obtain⟨g1,g2⟩:=PG.jx sc bs 2 p2
  refine⟨D,S,B,sc,p2,2,bs,rfl,by lia,xv,by lia,qQ,fun v H3 u3 qm o3 p4 sN=>?_⟩
  have KQ:H2 D≠none:=by rw[xv.bP];simp
  have GD:H3 D≠none:=by rw[qm.bP];simp
  refine q _ _ ((u2.trans u3).new sN _) (qm.same (aq.new sN _)) (jM sN (fun b z=>(u3.pV GD) b ((u2.pV KQ) b z)) (.cons .str (.cons .int (.cons (o3.back (u2.pV KQ)) .nil))))
 walk_at "rd"
 intro p2 xf
 have s2:=aq.new xf (.lst [])
 have qQ:=NL.same s2
 have h2:(upd H1 p2 (.lst [])) p2=some (.lst []):=ae
 have xv:=Du.same s2
 generalize upd H1 p2 (.lst [])=H2 at *
 obtain⟨xs,hx,lx,_⟩:=qQ.list
 refine⟨B,p2,xs,rfl,rfl,hx,.of h2,?_⟩
 have em:xs.isEmpty=decide (bs=[]):=by
  rw[zbs,zco,decide_eq_true_eq,<- zaC,lx,zaC]
 rw[em]
 have u2:bA D H1 H2:=.of s2
 have Xy:=u2.pV (by rw[xv.bP];simp)
 have box:∀(H3:Hp) (p3:Nat) (R:VK),kS K H3 D S sc p3->p3<=99000->jE K (·=D) H3 B bs->bs≠[]->(∀H4,bA D H3 H4->kS K H4 D S sc (p3+1)->jE K (·=D) H4 B bs->R (V.str (L2.S (PG.pick ⟨[],0,0⟩ bs (PG.next sc p3%bs.length)).name)) H4)->
  tm K [V.ref D] H3 (fun x H1=>∃p ys,[V.ref B]=[V.ref p]/\(gS K H1 p ys\/b8 K H1 p ys)/\rI (fun x j=>0<j) (fun i j=>V.int (i%j)) x (V.int (ys.length:Nat)) H1 fun y H2=>AI K (V.ref B) y H2 fun x H1=>Ck K x (V.int 0) H1 R) E0:=by
  intro H3 p3 R qm l3 Kb vi hR
  refine⟨D,S,sc,p3,rfl,qm,by lia,fun H4 u4 uR=>?_⟩
  have MS:=Kb.up u4
  obtain⟨ys,hy,ly,_⟩:=MS.list
  refine⟨B,ys,rfl,.inl hy,?_⟩
  rw[ly]
  have pos:0<bs.length:=zaY.mpr vi
  walk_at "rd"
  exact⟨by lia,MS.pick (zaA _ (by lia)) (zaw _ (by lia)) (hR H4 u4 uR MS)⟩
 have Rk:=u1.trans u2
 have N0:¬(bs≠[]/\kd<3)->U2 [some (V.ref D),some (V.ref B),some (V.int k),some (V.int kd),none] H2:=by
  intro hn
  rw[if_neg hn] at eg
  refine(iu _ _).mpr (ax fun U3 jW=>?_)
  have N1:¬(bs≠[]/\kd<6)->∀H3,aq H2 H3->U3 [some (V.ref D),some (V.ref B),some (V.int k),some (V.int kd),none] H3:=by
   intro Lg H3 s3
   rw[if_neg Lg] at eg
   have u3:bA D H H3:=Rk.trans (.of s3)
   have qm:=xv.same s3
   have Kb:=qQ.same s3
   have Gk:=u3.pV (by rw[qm.bP];simp)
   refine(jW _ _).mpr (ax fun U4 lZ=>?_)
   walk_at "rd"
   refine cE (fun k6=>?_) (fun k6=>(lZ _ _).mpr (ax fun U5 xi=>?_))
   ·rw[if_pos k6] at eg
    rw[eg] at q
    refine⟨D,S,sc,p+1,rfl,qm,by lia,fun H4 u4 uR=>?_⟩
    walk_at "rd"
    obtain⟨m0,m1⟩:=PG.jy sc (p+1)
    have sg:∀i:Int,0<=i->i<2->∃c,sI (v9 "<=").cps.toList i=some c/\V.str ⟨#[c]⟩=V.str (L2.S (PG.pick [] PG.zc i)):=fun i h0 h3=>by
     have z3:i=0\/i=1:=by lia
     rcases z3 with rfl |rfl
     ·exact⟨60,av (j:=0) (by decide +kernel),rfl⟩
     ·exact⟨61,av (j:=1) (by decide +kernel),rfl⟩
    obtain⟨c,hc,ec⟩:=sg (PG.next sc (p+1)%2) (by lia) (by lia)
    refine⟨_,_,c,rfl,rfl,by decide,hc,?_⟩
    rw[ec]
    have MS:=Kb.up u4
    have BH:=u4.pV (by rw[uR.bP];simp)
    obtain⟨g1,g2⟩:=PG.jx sc bs 1 (p+2)
    refine⟨D,S,B,sc,p+2,1,bs,rfl,by lia,uR,by lia,MS,fun v5 H5 u5 GG o5=>?_⟩
    have hb5:=MS.up u5
    have Qp:=u5.pV (by rw[GG.bP];simp)
    obtain⟨g3,g4⟩:=PG.jx sc bs 1 (PG.cH sc bs 1 (p+2)).2
    refine⟨D,S,B,sc,_,1,bs,rfl,by lia,GG,by lia,hb5,fun v6 H6 u6 Tp o6 p7 tX=>?_⟩
    have Xz:=u6.pV (by rw[Tp.bP];simp)
    have dA:∀b,H b≠none->H4 b≠none:=fun b z=>BH b (Gk b z)
    have dB:∀b,H b≠none->H5 b≠none:=fun b z=>Qp b (dA b z)
    exact q _ _ ((((u3.trans u4).trans u5).trans u6).new tX _) (Tp.same (aq.new tX _)) (jM tX (fun b z=>Xz b (dB b z)) (.cons .str (.cons .int (.cons .str (.cons ((o5.back dA).up u6 NZ) (.cons (o6.back dB) .nil))))))
   ·rw[if_neg k6] at eg
    walk_at "rd"
    refine cE (fun k7=>?_) (fun k7=>(if_neg WC).mpr ((xi _ _).mpr ?_))
    ·rw[if_pos k7] at eg
     refine⟨D,S,sc,p+1,rfl,qm,by lia,fun H4 u4 uR=>?_⟩
     walk_at "rd"
     have BH:=u4.pV (by rw[uR.bP];simp)
     refine cE (fun z3=>?_) (fun z3=>(xi _ _).mpr ?_)
     ·rw[if_pos z3] at eg
      rw[eg] at q
      intro p5 Av
      exact q _ _ ((u3.trans u4).new Av _) (uR.same (aq.new Av _)) (jM Av (fun b z=>BH b (Gk b z)) (.cons .str (.cons .int .nil)))
     ·rw[if_neg z3] at eg
      walk_at "rd"
      exact say H4 (p+2) eg (by lia) (u3.trans u4) uR (Kb.up u4)
    ·rw[if_neg k7] at eg
     walk_at "rd"
     exact say H3 (p+1) eg (by lia) u3 qm Kb
  walk_at "rd"
  intro p3 B2
  have s3:=aq.new B2 (.lst [])
  have Kb:=qQ.same s3
  have h3:(upd H2 p3 (.lst [])) p3=some (.lst []):=ae
  have qm:=xv.same s3
  generalize upd H2 p3 (.lst [])=H3 at *
  obtain⟨ys,hy,ly,_⟩:=Kb.list
  refine⟨B,p3,ys,rfl,rfl,hy,.of h3,?_⟩
  have em3:ys.isEmpty=decide (bs=[]):=by
   rw[zbs,zco,decide_eq_true_eq,<- zaC,ly,zaC]
  rw[em3]
  by_cases vi:bs=[]
  ·rw[decide_eq_true vi,if_neg (by decide),if_neg WC]
   exact N1 (fun z=>z.1 vi) H3 s3
  ·rw[decide_eq_false vi,if_pos (by decide)]
   refine cE (fun k6=>?_) (fun k6=>N1 (fun z=>k6 z.2) H3 s3)
   rw[if_pos ⟨vi,k6⟩] at eg
   rw[eg] at q
   refine box H3 (p+1) _ qm (by lia) Kb vi fun H4 u4 uR MS=>?_
   have u3:bA D H H3:=Rk.trans (.of s3)
   have Gk:=u3.pV (by rw[qm.bP];simp)
   have BH:=u4.pV (by rw[uR.bP];simp)
   obtain⟨g1,g2⟩:=PG.jx sc bs 2 (p+2)
   refine⟨D,S,B,sc,p+2,2,bs,rfl,by lia,uR,by lia,MS,fun v5 H5 u5 GG o5 p6 l0=>?_⟩
   have Qp:=u5.pV (by rw[GG.bP];simp)
   exact q _ _ (((u3.trans u4).trans u5).new l0 _) (GG.same (aq.new l0 _)) (jM l0 (fun b z=>Qp b (BH b (Gk b z))) (.cons .str (.cons .int (.cons .str (.cons (o5.back fun b z=>BH b (Gk b z)) .nil)))))
 by_cases vi:bs=[]
 ·rw[decide_eq_true vi,if_neg (by decide),if_neg WC]
  exact N0 fun z=>z.1 vi
 ·rw[decide_eq_false vi,if_pos (by decide)]
  refine cE (fun k3=>?_) (fun k3=>N0 fun z=>k3 z.2)
  rw[if_pos ⟨vi,k3⟩] at eg
  rw[eg] at q
  refine box H2 (p+1) _ xv (by lia) qQ vi fun H4 u4 uR MS p5 Av=>?_
  have BH:=u4.pV (by rw[uR.bP];simp)
  exact q _ _ ((Rk.trans u4).new Av _) (uR.same (aq.new Av _)) (jM Av (fun b z=>BH b (Xy b (Dv b z))) (.cons .str (.cons .int (.cons .str .nil))))
theorem Kg:∀w:PG.Wd,(!Nm (V.str (hV w)) [V.str (v9 "else"),V.str (v9 "end")])=decide (w≠.pU/\w≠.fin):=by
 intro w
 cases w<;>decide +kernel
theorem Gm(T:Tx K mg t):bN P w K mg base dU 1 t.g9 t.iN ["boxes", "rows", "mode"] (IA K):=by
 refine T.c7.F.mq oQ (fun vs H Q E h=>?_) (fun fc A outer s H vs Q E hr h=>?_)
 ·obtain⟨_,_,_,_,_,rfl,_⟩:=h
  rfl
 obtain⟨B,R,bs,rows,mode,rfl,rb,rr,lb,lr,q⟩:=h
 have nd:=oQ.nd
 refine⟨_,[some (V.ref B),some (V.ref R),some (V.int mode)],(ai (bE (aO b9 (pv 2) ak (aU _))
 (au (aT (bf dS (bf dS (bY bK rfl T.iq PyProof.Rows.Boot.«len» (aa (pv 0) ah ag)) ak) (bf qA ak (bY bK rfl T.iq PyProof.Rows.Boot.«len» (aa (pv 1) ah ag))))))
 aZ)
 (ai (bE (aO b9 (pv 2) ak (aU _))
 (au (aT (bf dS (bf dS (bY bK rfl T.iq PyProof.Rows.Boot.«len» (aa (pv 0) ah ag)) ak) (bY bK rfl T.iq PyProof.Rows.Boot.«len» (aa (i7 (own:=["row"]) (ix:=[]) rfl (by rfl) (by rfl) (df (pv 1)) (fun _ _ _ _=>(a9 (i:=0) (by show List.Nodup (["row"]:List Str);decide +kernel) rfl (Ws rfl))) (fun _ _ _ _=>(D0 (aO (FP (K:=K) rfl) (aD (IB (K:=K) rfl) (pv 0) ak ao) (a7 (dW (vs:=[.str "else",.str "end"]) (by kernel_rfl))) rfl))) (fun _ _ _ _=>(pv 0))) ah mw)))))
 aZ)
 (au (aT (bf dS (bf dS (bY bK rfl T.iq PyProof.Rows.Boot.«len» (aa (pv 0) ah ag)) ak) (bY bK rfl T.iq PyProof.Rows.Boot.«len» (aa (pv 1) ah ag))))))),rfl,?_⟩
 have line:zcz=2 ^ 24:=rfl
 rw[Rep.bC] at rb rr
 obtain⟨_,bv,e,hB,rb⟩:=rb
 cases e
 obtain⟨_,rv,e,hR,rr⟩:=rr
 cases e
 have MT:bv.length=bs.length:=by rw[rb.length,Zb]
 have N2:rv.length=rows.length:=by rw[rr.length,Zb]
 unfold PG.number at q
 walk_at "rd"
 refine cE (fun m2=>?_) (fun m2=>?_)
 ·rw[if_pos m2] at q
  refine⟨B,bv,rfl,.inl hB,R,rv,rfl,.inl hR,?_⟩
  rw[MT,N2]
  exact⟨mulL (by decide) (by decide),q _ (aq.refl _)⟩
 rw[if_neg m2] at q
 refine cE (fun m3=>?_) (fun m3=>?_)
 ·rw[if_pos m3] at q
  refine⟨B,bv,rfl,.inl hB,?_⟩
  simp only[kD]
  walk_at "rd"
  refine⟨⟨rv,hR⟩,fun D hD=>?_⟩
  refine vW (K:=K) (r:=[]) (fun i=>PG.plainRow (rows.getD i (0,.ask))) (fun i=>rv.getD i .cD) hR (by lia) hD (fun i x hx H2 s2 R2 XA=>?_) (fun i x hx _ H2 s2 R2 XA=>?_) (fun H2 s2 h2=>?_)
  ·have li:i<rows.length:=by
    have:=(WD.mp hx).1
    lia
   obtain⟨v,hv,rw_⟩:=rr.get (i:=i) (d:=jm (rows.getD i (0,.ask))) (by rw[UB,Za li,Y7,Za li];rfl)
   rw[hx] at hv
   cases hv
   generalize rows.getD i (0,.ask)=row at *
   unfold jm at rw_
   rw[Rep.bC] at rw_
   obtain⟨a,ys,rfl,hy,ry⟩:=rw_
   rw[aP.aI] at ry
   obtain⟨v1,t1,rfl,e1,ry⟩:=ry
   rw[aP.aI] at ry
   obtain⟨v2,t2,rfl,e2,ry⟩:=ry
   rw[aP.bh] at ry
   subst ry
   rw[Rep.bI] at e2
   subst e2
   walk_at "rd"
   refine bJ (v:=V.str (hV row.2)) (s2.seq hy) (av (j:=1) rfl) fun p3 B2=>?_
   refine⟨p3,_,rfl,.inr (.of ae),rfl,rfl,?_⟩
   have ew:(!Nm (V.str (hV row.2)) [V.str (v9 "else"),V.str (v9 "end")])=PG.plainRow row:=by
    exact Kg row.2
   have:=XA _ (aq.new B2 (.tup [V.str (v9 "else"),V.str (v9 "end")]))
   rw[<- ew] at this
   exact⟨_,rfl,this⟩
  ·walk_at "rd"
   have:=XA H2 (aq.refl _)
   rw[Y7,hx] at this
   exact this
  ·refine⟨D,_,rfl,.inl (.of h2),?_⟩
   rw[Zb,N2,Be,MT]
   exact q _ s2
 ·rw[if_neg m3] at q
  refine⟨B,bv,rfl,.inl hB,R,rv,rfl,.inl hR,?_⟩
  rw[MT,N2]
  exact q _ (aq.refl _)
theorem j8{α:Type}{xs:List α}{x:α}:sI (xs++[x]) (-1)=some x:=by
 have e:He (xs++[x]).length (-1)=some xs.length:=by
  unfold He
  simp
  try lia
 unfold sI
 rw[e]
 simp
theorem sD{K:k0}{Oo:Addr->Prop}{H:Hp}{ds es:List Dp}{vs us:List V}(a:eZ K Oo H ds vs)(b:eZ K Oo H es us):eZ K Oo H (ds++es) (vs++us):=fun H2 u=>(a H2 u).append (b H2 u)
theorem zK{K:k0}{H:Hp}{a b:Addr}{xs ys:List V}{Q:VK}(h1:H a=some (.tup xs))(h2:H b=some (.tup ys))(n1:1<=xs.length/\xs.length<=10)(n2:1<=ys.length/\ys.length<=10)(q:∀p,H p=none->Q (.ref p) (upd H p (.tup (xs++ys)))):Nk K (.ref a) (.ref b) H Q:=by
 have line:zcz=2 ^ 24:=rfl
 refine⟨a,b,xs,ys,rfl,rfl,.of h1,.of h2,by intro z;rw[z] at n1;simp at n1,by lia,fun z=>by rw[z] at n2;simp at n2,fun _=>q⟩
theorem Kh(T:Tx K mg t):bN P w K mg base dU 1 t.iM t.je ["pile"] (LS K):=by
 refine T.dE.F.mq qg (fun vs H Q E h=>?_) (fun fc A outer s H vs Q E hr h=>?_)
 ·obtain⟨_,_,_,_,_,_,_,_,_,_,_,_,_,_,_,_,rfl,_⟩:=h
  rfl
 obtain⟨D,S,sc,p,B,bs,P',R,f,g,a,b,a',b',r,rows,rfl,st,hk,hg,acE,q⟩:=h
 have nd:=qg.nd
 refine⟨_,[some (V.ref P'),none,none,none,none,none],(ai (qy (Co Y8 zb4 zb5 Cr (pv 0)) (zb rfl (bV (a9 (i:=1) nd rfl (Ws rfl)) (bV (a9 (i:=2) nd rfl (Ws rfl)) (bV (a9 (i:=3) nd rfl (Ws rfl)) (bV (a9 (i:=4) nd rfl (Ws rfl)) i6))))))
 (ai (aQ (i:=5) nd rfl (Ws rfl) (bf rg (pv 3) (a7 (aa (pv 2) ah ag))))
 (ai (bE (aO b9 (pv 1) bq (aU _))
 (au (aQ (i:=5) nd rfl (Ws rfl) (bf rg (pv 3) (a7 (aa (pv 2) (aa (bF ah) ah iX) ag)))))
 aZ)
 (ai (bE (aO b9 (pv 1) bq (aU _))
 (au (aQ (i:=5) nd rfl (Ws rfl) (bf rg (pv 3) (a7 (aa (pv 4) (aa (pv 2) ah ag) ag)))))
 aZ)
 (au (cw (fV Y8 zaf zag b7 (aD bj (aD bj (pv 0) (vw qB ak) vJ) ak ao) (aa (pv 5) ah ag)))))))),rfl,?_⟩
 have line:zcz=2 ^ 24:=rfl
 refine ax fun U1 fU=>?_
 walk_at "rd"
 have ep:((f,a,b)::(g,a',b')::r:List xg).reverse.map (fun x=>V.ref x.2.1)=((g,a',b')::r:List xg).reverse.map (fun x=>V.ref x.2.1)++[.ref a]:=by rw[za5,zae];rfl
 obtain⟨Aq,⟨hd,fi,xs,fa⟩,na,nb,Pr⟩:=st.pop
 have kd:∀c,H c≠none->(upd H P' (.lst (((g,a',b')::r:List xg).reverse.map fun x=>V.ref x.2.1))) c≠none:=fun c hc=>by
  by_cases e:c=P'
  ·rw[e,ae];simp
  ·rw[aw e];exact hc
 have kp:∀c o,c ∉ iB D P' R ((f,a,b)::(g,a',b')::r)->H c=some o->(upd H P' (.lst (((g,a',b')::r:List xg).reverse.map fun x=>V.ref x.2.1))) c=some o:=fun c o hc e=>by
  rw[aw (fun z=>hc (by rw[z];simp[iB]))];exact e
 refine⟨.inl ⟨rfl,_,.of st.aX⟩,P',_,.ref a,rfl,rfl,st.aX,by rw[ep];simp,?_⟩
 rw[ep,zb9]
 generalize upd H P' (.lst (((g,a',b')::r:List xg).reverse.map fun x=>V.ref x.2.1))=H1 at *
 refine⟨a,_,rfl,.of fa.fr,rfl,_,_,rfl,_,_,rfl,_,_,rfl,_,_,rfl,rfl,(fU _ _).mpr (ax fun U2 iu=>?_)⟩
 clear fU
 obtain⟨c,ys,rfl,hc,nc,Rl⟩:=fa.FO (by lia)
 have lys:ys.length=5:=by have:=Rl.Iy.length;simpa using this
 have Dw:∀z,O D P' R ((g,a',b')::r) [] z->O D P' R ((g,a',b')::r) [a,b] z:=fun z hz=>hz.elim .inl fun w=>absurd w (by simp)
 have AE:=Aq.less (E':=[]) (fun z hz=>absurd hz (by simp))
 have Qq:=Rl.sub Dw
 have Tq:¬O D P' R ((g,a',b')::r) [] b:=fun z=>z.elim nb (by simp)
 have Ts:Fix K (O D P' R ((g,a',b')::r) []) H1 (.lst (f.body.map dq)) (.ref b):=Fix.lst fa.bd Tq (fa.ok.sub Dw)
 walk_at "rd"
 intro p2 xf
 have s2:=aq.new xf (.tup [.ref b])
 have t2:(upd H1 p2 (.tup [.ref b])) p2=some (.tup [.ref b]):=ae
 generalize upd H1 p2 (.tup [.ref b])=H2 at *
 refine zK (s2 _ _ hc) t2 (by lia) (by simp) fun p3 B2=>?_
 have s3:=s2.trans (aq.new B2 (.tup (ys++[.ref b])))
 have t3:(upd H2 p3 (.tup (ys++[.ref b]))) p3=some (.tup (ys++[.ref b])):=ae
 have n3:p3 ∉ iB D P' R ((g,a',b')::r):=(AE.same s2).fresh B2
 generalize upd H2 p3 (.tup (ys++[.ref b]))=H3 at *
 refine(iu _ _).mpr (ax fun U3 jW=>?_)
 clear iu
 walk_at "rd"
 have Tt:(rL f.kind=v9 "if")↔f.kind=1:=by
  rcases hk with h |h |h<;>rw[h]<;>simp[rL]<;>decide +kernel
 have Tu:(rL f.kind=v9 "else")↔f.kind=2:=by
  rcases hk with h |h |h<;>rw[h]<;>simp[rL]<;>decide +kernel
 have N3:∀(v:V) (H4:Hp),aq H1 H4->(f.kind≠2->Fix K (O D P' R ((g,a',b')::r) []) H4 (dq f.told) v)->U3 [some (V.ref P'),some (V.str (rL f.kind)),some (V.ref b),some (V.ref c),some fi,some v] H4:=by
  intro v H4 s4 hv
  refine(jW _ _).mpr (ax fun U4 lZ=>?_)
  have last:∀(v:V) (H5:Hp),aq H1 H5->Fix K (O D P' R ((g,a',b')::r) []) H5 (dq f.told) v->U4 [some (V.ref P'),some (V.str (rL f.kind)),some (V.ref b),some (V.ref c),some fi,some v] H5:=by
   intro v H5 s5 fv
   refine(lZ _ _).mpr ?_
   have G3:=AE.same s5
   obtain⟨B4,fi',Ea,fg⟩:=G3.frames _ (UH ..)
   have lg:Ea.length<=1000:=by have:=fg.len;simp only at this;lia
   walk_at "rd"
   have pl:H5 P'=some (.lst ((r.reverse.map fun x=>V.ref x.2.1)++[.ref a'])):=by rw[G3.aX,za5,zae];rfl
   refine⟨1,rfl,bJ (v:=.ref a') (.of pl) j8 (bJ (v:=.ref b') (.of fg.fr) (av (j:=1) rfl) ⟨.inl ⟨rfl,_,.of fg.bd⟩,b',Ea,v,rfl,rfl,fg.bd,by lia,?_⟩)⟩
   refine q _ (fun z hz=>?_) (fun z o nz e=>?_) (G3.Zh fg.bd fv)
   ·by_cases e:z=b'
    ·rw[e,ae];simp
    ·rw[aw e]
     have h1:=kd z hz
     cases w:H1 z with
     |none=>exact absurd w h1
     |some o=>rw[s5 _ _ w];simp
   ·rw[aw (fun w=>nz (by rw[w];simp[iB]))]
    exact s5 _ _ (kp z o nz e)
  walk_at "rd"
  refine cE (fun e2=>?_) (fun e2=>last v H4 s4 (hv fun z=>e2 (Tu.mpr z)))
  have k2:=Tu.mp e2
  intro p5 Av
  have s5:=s4.trans (aq.new Av (.tup [fi,.ref b]))
  have t5:(upd H4 p5 (.tup [fi,.ref b])) p5=some (.tup [fi,.ref b]):=ae
  generalize upd H4 p5 (.tup [fi,.ref b])=H5 at *
  refine zK (s5 _ _ hc) t5 (by lia) (by simp) fun p6 l0=>?_
  have s6:=s5.trans (aq.new l0 (.tup (ys++[fi,.ref b])))
  have n6:¬O D P' R ((g,a',b')::r) [] p6:=fun z=>z.elim ((AE.same s5).fresh l0) (by simp)
  refine last _ _ s6 ?_
  have et:dq f.told=.tup ([.str "if",.int f.k,.str (L2.S f.sg),ji f.l,ji f.r]++[.lst (f.first.map dq),.lst (f.body.map dq)]):=by
   unfold PG.Frame.told
   rw[if_neg (by lia),if_pos k2,dq,eV,eV]
   rfl
  rw[et]
  have f5:=Qq
  rw[if_neg (by lia)] at f5
  refine Fix.tup ae n6 ?_
  exact sD (f5.up (.of s6)) (.cons (((fa.Iz k2).sub Dw).up (.of s6)) (.cons (Ts.up (.of s6)) .nil))
 refine cE (fun e1=>?_) (fun e1=>N3 _ H3 s3 fun Lg=>?_)
 ·have k1:=Tt.mp e1
  intro p4 sN p5 Av
  have s4:=s3.trans (aq.new sN (.lst []))
  have t4:(upd H3 p4 (.lst [])) p4=some (.lst []):=ae
  have n4:¬O D P' R ((g,a',b')::r) [] p4:=fun z=>z.elim ((AE.same s3).fresh sN) (by simp)
  generalize upd H3 p4 (.lst [])=H4 at *
  have s5:=s4.trans (aq.new Av (.tup [.ref b,.ref p4]))
  have t45:=aq.new Av (.tup [.ref b,.ref p4]) _ _ t4
  have t5:(upd H4 p5 (.tup [.ref b,.ref p4])) p5=some (.tup [.ref b,.ref p4]):=ae
  generalize upd H4 p5 (.tup [.ref b,.ref p4])=H5 at *
  refine zK (s5 _ _ hc) t5 (by lia) (by simp) fun p6 l0=>?_
  have s6:=s5.trans (aq.new l0 (.tup (ys++[.ref b,.ref p4])))
  have t6:=aq.new l0 (.tup (ys++[.ref b,.ref p4])) _ _ t45
  have n6:¬O D P' R ((g,a',b')::r) [] p6:=fun z=>z.elim ((AE.same s5).fresh l0) (by simp)
  refine N3 _ _ s6 fun _=>?_
  have et:dq f.told=.tup ([.str "if",.int f.k,.str (L2.S f.sg),ji f.l,ji f.r]++[.lst (f.body.map dq),.lst []]):=by
   unfold PG.Frame.told
   rw[if_pos k1,dq,eV]
   rfl
  rw[et]
  have f5:=Qq
  rw[if_neg (by lia)] at f5
  refine Fix.tup ae n6 ?_
  exact sD (f5.up (.of s6)) (.cons (Ts.up (.of s6)) (.cons (Fix.lst t6 n4 .nil) .nil))
 ·have k3:f.kind=3:=by
   have:¬f.kind=1:=fun z=>e1 (Tt.mpr z)
   lia
  have et:dq f.told=.tup ([.str "while",.int f.k,.str (L2.S f.sg),ji f.l,ji f.r]++[.lst (f.body.map dq)]):=by
   unfold PG.Frame.told
   rw[if_neg (by lia),if_neg (by lia),dq,eV]
   rfl
  rw[et]
  have f5:=Qq
  rw[if_pos k3] at f5
  exact Fix.tup t3 (fun z=>z.elim n3 (by simp)) (sD (f5.up (.of s3)) (.cons (Ts.up (.of s3)) .nil))
theorem Dx(T:Tx K mg t):bN P w K mg base dU 6 t.gw t.hZ ["deck", "many"] (C0 K):=by
 have bD:bN P w K mg base dU 1 t.eD t.eE ["deck"] (tm K):=su T
 have hG:=Kc (P:=P) (w:=w) (base:=base) T 2
 have zL:=Kd (P:=P) (w:=w) (base:=base) T
 have zM:=Kf (P:=P) (w:=w) (base:=base) T
 have qo:=Gm (P:=P) (w:=w) (base:=base) T
 have sF:=Kh (P:=P) (w:=w) (base:=base) T
 refine T.cQ.F.mq nE (fun vs H Q E h=>?_) (fun fc A outer s H vs Q E hr h=>?_)
 ·obtain⟨_,_,_,_,_,rfl,_⟩:=h
  rfl
 obtain⟨D,S,sc,p,many,rfl,dk,hp,hm,q⟩:=h
 have nd:=nE.nd
 refine⟨_,[some (V.ref D),some (V.int many),none,none,none,none,none,none,none,none,none,none,none,none,none],(ai (aQ (i:=2) nd rfl (Ws rfl) (az zL (hr.mono (by first|decide|omega)) rfl T.gJ.m T.gJ.F.kp T.gJ.b .nil aW (aa (pv 0) ah ag)))
 (ai (aQ (i:=3) nd rfl (Ws rfl) (bF (aa (bF (aa bq (aa (bF ah) (aa gQ (aa gQ ah ba) ba) iX) ba)) ah iX)))
 (ai (aQ (i:=4) nd rfl (Ws rfl) (bF ah))
 (ai (aQ (i:=5) nd rfl (Ws rfl) (bf cT (az bD (hr.mono (by first|decide|omega)) rfl T.ay.m T.ay.F.kp T.ay.b .nil aW (aa (pv 0) ah ag)) ak))
 (ai (fh PassesOwn.never rfl (iW rfl T.jV (aa (pv 1) ah ag)) (a9 (i:=6) nd rfl (Ws rfl))
 (ai (aQ (i:=7) nd rfl (Ws rfl) (az qo (hr.mono (by first|decide|omega)) rfl T.c7.m T.c7.F.kp T.c7.b .nil aW (aa (pv 2) (aa (pv 4) (aa (pv 5) ah ag) ag) ag)))
 (ai (aQ (i:=8) nd rfl (Ws rfl) (bf cT (az bD (hr.mono (by first|decide|omega)) rfl T.ay.m T.ay.F.kp T.ay.b .nil aW (aa (pv 0) ah ag)) ak))
 (au (bE (PW.pt (pw_and (aO pY (pv 8) ak (aU _)) (pw_and1 (aO G6 (bY bK rfl T.iq PyProof.Rows.Boot.«len» (aa (pv 3) ah ag)) ak (aU _)))))
 (ai (cw (az sF (hr.mono (by first|decide|omega)) rfl T.dE.m T.dE.F.kp T.dE.b .nil aW (aa (pv 3) ah ag)))
 (au (cw (fV Y8 zaf zag b7 (pv 4) (aa (bF (aa (pv 7) (aa bq ah ba) ag)) ah iX)))))
 (au (bE (PW.pt (pw_and (aO b9 (pv 8) ak (aU _)) (pw_and1 (aO b9 (aD bj (aD bj (pv 3) (vw qB ak) vJ) ak ao) bq (aU _)))))
 (ai (qy (Co Y8 zb4 zb5 Cr (pv 3)) (zb rfl (bV (a9 (i:=9) nd rfl (Ws rfl)) (bV (a9 (i:=10) nd rfl (Ws rfl)) (bV (a9 (i:=11) nd rfl (Ws rfl)) (bV (a9 (i:=12) nd rfl (Ws rfl)) i6))))))
 (ai (cw (fV Y8 zaf zag b7 (pv 3) (aa (bF (aa bq (aa (bF ah) (aa (pv 11) (aa (pv 10) ah ag) ag) iX) ba)) ah iX)))
 (au (cw (fV Y8 zaf zag b7 (pv 4) (aa (bF (aa (pv 7) (aa bq ah ba) ag)) ah iX))))))
 (au (bE (PW.pt (pw_and (aO pY (pv 8) ak (aU _)) (pw_and1 (aO pY (bY bK rfl T.iq PyProof.Rows.Boot.«len» (aa (pv 3) ah ag)) ak (aU _)))))
 (ai (aQ (i:=13) nd rfl (Ws rfl) (aD bj (bF (dW (vs:=[.str "if",.str "if",.str "while"]) (by kernel_rfl))) (bf cT (pv 8) ak) mv))
 (ai (aQ (i:=14) nd rfl (Ws rfl) (a7 (aa (aD yU bq (bf cT (az bD (hr.mono (by first|decide|omega)) rfl T.ay.m T.ay.F.kp T.ay.b .nil aW (aa (pv 0) ah ag)) ak) mv) (aa (az hG (hr.mono (by first|decide|omega)) rfl T.bS.m T.bS.F.kp T.bS.b .nil aW (aa (pv 0) (aa (pv 2) (aa ak ah ba) ag) ag)) (aa (az hG (hr.mono (by first|decide|omega)) rfl T.bS.m T.bS.F.kp T.bS.b .nil aW (aa (pv 0) (aa (pv 2) (aa ak ah ba) ag) ag)) ah bG) bG) a8)))
 (ai (cw (fV Y8 zaf zag b7 (pv 3) (aa (bF (aa (pv 13) (aa (bF ah) (aa (bf rg (a7 (aa (pv 13) (aa (pv 7) ah ag) ag)) (pv 14)) (aa gQ ah ba) jw) iX) ag)) ah iX)))
 (au (cw (fV Y8 zaf zag b7 (pv 4) (aa (bF (aa (pv 7) (aa (pv 13) ah ag) ag)) ah iX)))))))
 (ai (cw (fV Y8 zaf zag b7 (aD bj (aD bj (pv 3) (vw qB ak) vJ) ak ao) (aa (az zM (hr.mono (by first|decide|omega)) rfl T.gK.m T.gK.F.kp T.gK.b .nil aW (aa (pv 0) (aa (pv 2) (aa (pv 7) ah ag) ag) ag)) ah bG)))
 (au (cw (fV Y8 zaf zag b7 (pv 4) (aa (bF (aa (pv 7) (aa (aD aR (aD bj (aD bj (aD bj (pv 3) (vw qB ak) vJ) ak ao) (vw qB ak) vJ) ak ao) ah a8) ag)) ah iX))))))))))))))
 (ai (lh PassesOwn.never (aO G6 (bY bK rfl T.iq PyProof.Rows.Boot.«len» (aa (pv 3) ah ag)) ak (aU _))
 (ai (cw (az sF (hr.mono (by first|decide|omega)) rfl T.dE.m T.dE.F.kp T.dE.b .nil aW (aa (pv 3) ah ag)))
 (au (cw (fV Y8 zaf zag b7 (pv 4) (aa (bF (aa (az qo (hr.mono (by first|decide|omega)) rfl T.c7.m T.c7.F.kp T.c7.b .nil aW (aa (pv 2) (aa (pv 4) (aa (pv 5) ah ag) ag) ag)) (aa bq ah ba) bG)) ah iX))))))
 (au (aT (bF (aa (a7 (aa (pv 2) (aa (aD bj (aD bj (pv 3) ak ao) ak ao) ah a8) ag)) (aa (pv 4) ah ag) dI)))))))))),rfl,?_⟩
 have line:zcz=2 ^ 24:=rfl
 have NZ:H D≠none:=by rw[dk.bP];simp
 refine ax fun U1 fU=>?_
 walk_at "rd"
 refine⟨D,S,sc,p,rfl,dk,by lia,fun B H1 u1 Du hB ow1=>(fU _ _).mpr (ax fun U2 iu=>?_)⟩
 clear fU
 unfold PG.ck at q
 simp only at q
 generalize vi:PG.bL sc (PG.next sc p%4) (PG.next sc (p+1)%4).toNat 0 (p+2)=bs at *
 have k1:Kept D H H1:=⟨u1,u1.pV (by rw[Du.bP];simp)⟩
 have bx1:Fix K (·=D) H1 (.lst (bs.1.map iA)) (.ref B):=ow1 _ fun b hb=>by rw[show b=D from hb];exact NZ
 walk_at "rd"
 intro b0 FT
 have x1:=bx1.apart (o:=.lst []) FT
 have y1:(upd H1 b0 (.lst [])) b0=some (.lst []):=ae
 have s1:=aq.new FT (.lst [])
 have xv:=Du.same s1
 have k2:=k1.same s1
 have e1:H b0=none:=by
  cases z:H b0 with
  |none=>rfl
  |some o=>exact absurd FT (k1.2 b0 (by rw[z];simp))
 generalize upd H1 b0 (.lst [])=H2 at *
 intro a0 GH
 have x2:=x1.apart (o:=.lst [V.str (v9 "all"),V.ref b0,V.cD,V.cD]) GH
 have s2:=aq.new GH (.lst [V.str (v9 "all"),V.ref b0,V.cD,V.cD])
 have y2:(upd H2 a0 (.lst [V.str (v9 "all"),V.ref b0,V.cD,V.cD])) a0=some (.lst [V.str (v9 "all"),V.ref b0,V.cD,V.cD]):=ae
 have y1:=s2 _ _ y1
 have Pr:a0≠b0:=fun z=>by rw[z] at GH;rw[‹H2 b0=some (HO.lst [])›] at GH;cases GH
 have qm:=xv.same s2
 have k3:=k2.same s2
 have e2:H a0=none:=by
  cases z:H a0 with
  |none=>rfl
  |some o=>exact absurd GH (k2.2 a0 (by rw[z];simp))
 generalize upd H2 a0 (.lst [V.str (v9 "all"),V.ref b0,V.cD,V.cD])=H3 at *
 intro P' hP
 have x3:=x2.apart (o:=.lst [V.ref a0]) hP
 have s3:=aq.new hP (.lst [V.ref a0])
 have y3:(upd H3 P' (.lst [V.ref a0])) P'=some (.lst [V.ref a0]):=ae
 have nPa:a0≠P':=aj y2 hP
 have nPb:b0≠P':=aj y1 hP
 have nPD:D≠P':=aj qm.bP hP
 have nPS:S≠P':=aj qm.gU hP
 have y2:=s3 _ _ y2
 have y1:=s3 _ _ y1
 have Qr:D≠b0:=aj Du.bP FT
 have Sy:S≠b0:=aj Du.gU FT
 have XB:D≠a0:=aj xv.bP GH
 have Wy:S≠a0:=aj xv.gU GH
 have uR:=qm.same s3
 have k4:=k3.same s3
 have e3:H P'=none:=by
  cases z:H P' with
  |none=>rfl
  |some o=>exact absurd hP (k3.2 P' (by rw[z];simp))
 generalize upd H3 P' (.lst [V.ref a0])=H4 at *
 refine(iu _ _).mpr (ax fun U3 jW=>?_)
 clear iu
 walk_at "rd"
 intro R hR
 have x4:=x3.apart (o:=.lst []) hR
 have s4:=aq.new hR (.lst [])
 have y4:(upd H4 R (.lst [])) R=some (.lst []):=ae
 have nRa:a0≠R:=aj y2 hR
 have nRb:b0≠R:=aj y1 hR
 have nRP:P'≠R:=aj y3 hR
 have nRD:D≠R:=aj uR.bP hR
 have nRS:S≠R:=aj uR.gU hR
 have y1:=s4 _ _ y1
 have y2:=s4 _ _ y2
 have y3:=s4 _ _ y3
 have GG:=uR.same s4
 have k5:=k4.same s4
 have e4:H R=none:=by
  cases z:H R with
  |none=>rfl
  |some o=>exact absurd hR (k4.2 R (by rw[z];simp))
 generalize upd H4 R (.lst [])=H5 at *
 obtain⟨bl,bp⟩:bs.1.length<=10/\bs.2<=p+20:=by
  obtain⟨l1,l2⟩:=PG.jL sc (PG.next sc p%4) (PG.next sc (p+1)%4).toNat 0 (p+2)
  rw[vi] at l1 l2
  have:=PG.jy sc (p+1)
  lia
 have ZL:lH K H5 D S sc bs.2 B bs.1 P' R [({kind:=0,body:=[]},a0,b0)] [] []:=by
  refine⟨GG,x4.sub fun z hz=>?_,bl,y3,fun x hx=>?_,⟨[],y4,.nil,rfl⟩,?_,?_⟩
  ·rcases hz with hz |hz
   ·simp only[iB,zas,za2,zab,Zd,zaG,or_false] at hz
    rcases hz with rfl |rfl |rfl |rfl |rfl
    ·exact .inl (.inl (.inl (.inl rfl)))
    ·exact .inl (.inr rfl)
    ·exact .inr rfl
    ·exact .inl (.inl (.inr rfl))
    ·exact .inl (.inl (.inl (.inr rfl)))
   ·cases hz
  ·rw[zac.mp hx]
   exact⟨.cD,.cD,[],y2,y1,.nil,fun z=>absurd rfl z,fun z=>absurd z (show ¬(0=2) by decide),rfl⟩
  ·simp only[iB,zas,za2,zab,zaq,Zd,zaG,or_false,not_or,not_false_eq_true,zbN,and_true]
   exact⟨⟨nPD,nRD,XB,Qr⟩,⟨nRP,nPa.symm,nPb.symm⟩,⟨nRa.symm,nRb.symm⟩,Pr⟩
  ·simp only[iB,zas,za2,zab,Zd,zaG,or_false,not_or]
   exact⟨GG.ne,nPS,nRS,Wy,Sy⟩
 refine(jW _ _).mpr (ax fun U4 lZ=>?_)
 clear jW x1 x2 x3 x4
 walk_at "rd"
 refine⟨D,S,sc,bs.2,rfl,GG,by lia,fun H6 u6 Tp=>?_⟩
 walk_at "rd"
 have k6:=k5.up u6 (by rw[Tp.bP];simp)
 have st6:=ZL.draw u6 Tp
 clear ZL
 generalize PG.next sc bs.2%4=mode at *
 refine(lZ _ _).mpr (ax fun U5 xi=>?_)
 clear lZ
 generalize Tv:(⟨bs.2+1,[{kind:=0,body:=[]}],[]⟩:PG.Walk)=w0 at *
 have ok0:PG.dJ w0:=by rw[<- Tv];exact⟨rfl,rfl,by simp⟩
 have len0:PG.og 0 w0:=by rw[<- Tv];exact⟨fun f hf=>by rw[zac.mp hf];exact Wr _,Wr _⟩
 refine nX fun U hU=>?_
 walk_at "rd"
 refine⟨_,rfl,by lia,by lia,hU _ _ ?_⟩
 clear hU
 rw[zaU]
 obtain⟨Pv,iT⟩:∃Pv:Nat->St->Hp->Prop,∀i σ H7,Pv i σ H7↔∃(z6 z7 z8 z9 KY KZ K0 K1 K2:Option V) (dG:List xg),σ=[some (V.ref D),some (V.int many),some (V.ref B),some (V.ref P'),some (V.ref R),some (V.int mode),z6,z7,z8,z9,KY,KZ,K0,K1,K2]/\
  dG.map (·.1)=(PG.turns sc bs.1 mode i w0).aX/\lH K H7 D S sc (PG.turns sc bs.1 mode i w0).p B bs.1 P' R dG (PG.turns sc bs.1 mode i w0).rows []/\Kept D H H7/\PG.dJ (PG.turns sc bs.1 mode i w0)/\PG.og i (PG.turns sc bs.1 mode i w0)/\(PG.turns sc bs.1 mode i w0).p<=200+20*i/\
  ∀x∈dG,H x.2.1=none/\H x.2.2=none:=⟨_,fun _ _ _=>Iff.rfl⟩
 refine jX (lo:=0) (n:=many) Pv ?_ ?_ ?_
 ·refine(iT _ _ _).mpr ⟨none,none,none,none,none,none,none,none,none,[({kind:=0,body:=[]},a0,b0)],rfl,?_,?_,k6,ok0,len0,?_,fun x hx=>by rw[zac.mp hx];exact⟨e2,e1⟩⟩
  ·show _=w0.aX
   rw[<- Tv];rfl
  ·show lH K H6 D S sc w0.p B bs.1 P' R _ w0.rows []
   rw[<- Tv];exact st6
  ·show w0.p<=_
   rw[<- Tv]
   simp only
   lia
 ·intro i σ H7 hi hv
  obtain⟨z6,z7,z8,z9,KY,KZ,K0,K1,K2,dG,rfl,ef,st,kp,ok,ln,pb,E1⟩:=(iT _ _ _).mp hv
  clear hv
  rw[zcn]
  have done:=fun σ H7=>(iT (i+1) σ H7).mpr
  rw[PG.vM] at done
  have Ki:=PG.rD sc bs.1 mode ok
  have Kj:=PG.AY sc bs.1 mode ln
  have N4:=(PG.Pm sc bs.1 mode (PG.turns sc bs.1 mode i w0)).2
  generalize PG.turns sc bs.1 mode i w0=wk at *
  obtain⟨pp,aX,rows⟩:=wk
  simp only at ef st pb N4
  have rl:rows.length<=i:=ln.2
  cases aX with
  |nil=>exact ok.aX.elim
  |cons f r=>
  cases dG with
  |nil=>cases ef
  |cons x0 fr=>
  obtain⟨f',a,b⟩:=x0
  simp only[Y9,List.cons.injEq] at ef
  obtain⟨rfl,ef⟩:=ef
  have XC:fr.length=r.length:=by rw[<- ef,Zb]
  rw[PG.ze] at done Ki Kj N4
  simp only[gW,zaN]
  refine ax fun U6 zH=>?_
  walk_at "rd"
  obtain⟨xh,hR7,fR,lR⟩:=st.rows
  refine⟨B,R,bs.1,rows,mode,rfl,st.box.rep,Rep.bC.mpr ⟨R,xh,rfl,.of hR7,fR.Iy⟩,bl,by lia,fun H8 s8=>(zH _ _).mpr (ax fun U7 J7=>?_)⟩
  clear zH
  have XD:=st.same s8
  have kp8:=kp.same s8
  generalize PG.number bs.1.length rows mode=k at *
  walk_at "rd"
  refine⟨D,S,sc,pp,rfl,XD.bP,by lia,fun H9 u9 To=>?_⟩
  walk_at "rd"
  refine(J7 _ _).mpr ?_
  clear J7
  have xw:=XD.draw u9 To
  have Tw:=kp8.up u9 (by rw[To.bP];simp)
  obtain⟨w0',w1'⟩:=PG.jy sc pp
  generalize acW:PG.next sc pp%12=way at *
  have acX:0<=way/\way<12:=by lia
  clear st XD s8 u9
  have Dy:∀(dG:List xg),(∀x∈dG,H x.2.1=none/\H x.2.2=none)->∀z o,z≠D->H z=some o->z ∉ iB D P' R dG:=by
   intro dG hf z o nz e hz
   simp only[iB,Zd,zaL] at hz
   rcases hz with hz |rfl |rfl |⟨x,hx,hz⟩
   ·exact nz hz
   ·rw[e3] at e;cases e
   ·rw[e4] at e;cases e
   ·simp only[zaG,or_false] at hz
    rcases hz with rfl |rfl
    ·rw[(hf x hx).1] at e;cases e
    ·rw[(hf x hx).2] at e;cases e
  have zN:∀(sM:Hp) (w:PG.Wd) (dG:List xg) (pq:Nat) (M:Hp->Prop),lH K sM D S sc pq B bs.1 P' R dG rows []->Kept D H sM->(∀JV,lH K JV D S sc pq B bs.1 P' R dG (rows++[(k,w)]) []->Kept D H JV->M JV)->
   Uz K "list" (V.ref R) sM/\∀q,sM q=none->yZ (V.ref R) [V.ref q] (upd sM q (.lst [.int k,.str (hV w)])) fun _ H1=>M H1:=by
   intro sM w dG pq M ql E2 hM
   obtain⟨rv,hr,_,lr⟩:=ql.rows
   refine⟨.inl ⟨rfl,_,.of hr⟩,fun q hq=>?_⟩
   have Qe:=ql.same (aq.new hq (.lst [.int k,.str (hV w)]))
   have Qs:=E2.same (aq.new hq (.lst [.int k,.str (hV w)]))
   have Tz:=aq.new hq (.lst [.int k,.str (hV w)]) _ _ hr
   refine⟨R,rv,_,rfl,rfl,Tz,by lia,hM _ (Qe.row Tz (k:=k) (w:=w) (q:=q) ae fun z=>z.elim (ql.fresh hq) (by simp)) (Qs.put e4 _)⟩
  have lp:((f',a,b)::fr:List xg).reverse.map (fun x=>V.ref x.2.1)=(fr.reverse.map fun x=>V.ref x.2.1)++[.ref a]:=by rw[za5,zae];rfl
  have Qt:∀(fs:List xg) z,O D P' R fs [] z->z∈iB D P' R fs:=fun fs z hz=>hz.elim id (by simp)
  refine zi fun V1 B3=>?_
  have c1:¬(way<2/\(f'::r).length>1)->V1 [some (V.ref D),some (V.int many),some (V.ref B),some (V.ref P'),some (V.ref R),some (V.int mode),some (V.int i),some (V.int k),some (V.int way),z9,KY,KZ,K0,K1,K2] H9:=by
   intro h1
   rw[if_neg h1] at done Ki Kj N4
   refine B3 _ _ (zi fun V2 GF=>?_)
   have c2:¬(way=2/\f'.kind=1)->V2 [some (V.ref D),some (V.int many),some (V.ref B),some (V.ref P'),some (V.ref R),some (V.int mode),some (V.int i),some (V.int k),some (V.int way),z9,KY,KZ,K0,K1,K2] H9:=by
    intro h2
    rw[if_neg h2] at done Ki Kj N4
    refine GF _ _ (zi fun V3 Qk=>?_)
    have c3:¬(way<6/\(f'::r).length<4)->V3 [some (V.ref D),some (V.int many),some (V.ref B),some (V.ref P'),some (V.ref R),some (V.int mode),some (V.int i),some (V.int k),some (V.int way),z9,KY,KZ,K0,K1,K2] H9:=by
     intro h3
     rw[if_neg h3] at done Ki Kj N4
     refine Qk _ _ ?_
     walk_at "rd"
     have TB:=xw.aX
     rw[lp] at TB
     obtain⟨hd,fi,xs,fa⟩:=xw.frames _ (UH ..)
     refine⟨1,rfl,bJ (v:=.ref a) (.of TB) j8 (bJ (v:=.ref b) (.of fa.fr) (av (j:=1) rfl) ⟨.inl ⟨rfl,_,.of fa.bd⟩,?_⟩)⟩
     refine⟨D,S,B,sc,pp+1,k,bs.1,rfl,xw.bP,by lia,xw.aK,fun v sM ZM zJ Qo=>?_⟩
     have m9:=xw.draw ZM zJ
     have E2:=Tw.up ZM (by rw[zJ.bP];simp)
     obtain⟨hd2,fi2,Qu,XE⟩:=m9.frames _ (UH ..)
     have fv:Fix K (O D P' R ((f',a,b)::fr) []) sM (dq (PG.bW sc bs.1 k (pp+1)).1) v:=Qo _ fun z hz=>xw.pV z (Qt _ z hz)
     have l2:Qu.length<=1000:=by have:=XE.len;have:=ln.1 f' (by simp);simp only at *;lia
     refine⟨b,Qu,v,rfl,rfl,XE.bd,by lia,?_⟩
     have xx:=m9.Zh XE.bd fv
     have Qs:=E2.put (E1 (f',a,b) (by simp)).2 (.lst (Qu++[v]))
     have XF:Rep K (upd sM b (.lst (Qu++[v]))) (dq (PG.bW sc bs.1 k (pp+1)).1) v:=(fv.up (br.refl.put (.inl (by simp[iB])) _)).rep
     have XG:(upd sM b (.lst (Qu++[v]))) b=some (.lst (Qu++[v])):=ae
     have TC:=xx.aX
     obtain⟨KJ,fi3,xs3,UZ⟩:=xx.frames _ (UH ..)
     have XH:=UZ.fr
     generalize upd sM b (.lst (Qu++[v]))=JV at *
     have pe:((({f' with body:=f'.body++[(PG.bW sc bs.1 k (pp+1)).1]}:PG.Frame),a,b)::fr:List xg).reverse.map (fun x=>V.ref x.2.1)=(fr.reverse.map fun x=>V.ref x.2.1)++[.ref a]:=by rw[za5,zae];rfl
     rw[pe] at TC
     obtain⟨ta,ys,rfl,Ra⟩:=IC _ XF
     have ar:=zN JV (PG.bW sc bs.1 k (pp+1)).1.wd _ _ (fun MH=>Pv (i+1) [some (V.ref D),some (V.int many),some (V.ref B),some (V.ref P'),some (V.ref R),some (V.int mode),some (V.int i),some (V.int k),some (V.int way),z9,KY,KZ,K0,K1,K2] MH) xx Qs fun MH BI TF=>done _ _ ⟨_,_,_,_,_,_,_,_,_,_,rfl,by simp only[Y9,ef],BI,TF,Ki,Kj,by lia,fun x hx=>by
      rcases Zd.mp hx with rfl |hx
      ·exact E1 (f',a,b) (by simp)
      ·exact E1 x (by simp[hx])⟩
     exact⟨ar.1,1,rfl,bJ (v:=.ref a) (.of TC) j8 (bJ (v:=.ref b) (.of XH) (av (j:=1) rfl) ⟨1,rfl,bJ (v:=.ref ta) (.of XG) j8 (aM Ra (av (j:=0) rfl) ar.2)⟩)⟩
    walk_at "rd"
    refine cE (fun w6=>⟨P',_,rfl,.inl (.of xw.aX),cE (fun l4=>?_) (fun l4=>c3 fun z=>l4 ?_)⟩) (fun w6=>(if_neg WC).mpr (c3 fun z=>w6 z.1))
    ·rw[lp,Zc,Zb,za0,XC] at l4
     have cond:way<6/\(f'::r).length<4:=⟨w6,by simp only[V0,zak] at l4 ⊢;lia⟩
     rw[if_pos cond] at done Ki Kj N4
     intro p1 Au
     have ql:=aq.new Au (.lst [V.str (v9 "if"),V.str (v9 "if"),V.str (v9 "while")])
     have m9:=xw.same ql
     have E2:=Tw.same ql
     have wk:∀z:Int,0<=z->z<3->sI [V.str (v9 "if"),V.str (v9 "if"),V.str (v9 "while")] z=some (V.str (rL (PG.pick 1 [1,1,3] z)))/\(PG.pick 1 [1,1,3] z=1\/PG.pick 1 [1,1,3] z=3):=fun z h0 h3=>by
      have z3:z=0\/z=1\/z=2:=by lia
      rcases z3 with rfl |rfl |rfl
      ·exact⟨av (j:=0) rfl,.inl rfl⟩
      ·exact⟨av (j:=1) rfl,.inl rfl⟩
      ·exact⟨av (j:=2) rfl,.inr rfl⟩
     obtain⟨wk1,wk2⟩:=wk (way%3) (by lia) (by lia)
     refine AO wk1 ?_
     generalize upd H9 p1 (.lst [V.str (v9 "if"),V.str (v9 "if"),V.str (v9 "while")])=sM at *
     generalize PG.pick 1 [1,1,3] (way%3)=kd at *
     have wd:(if kd=3 then ("while":Str) else "if")=rL kd/\hV (if kd=3 then PG.Wd.fj else PG.Wd.ifs)=rL kd:=by
      rcases wk2 with rfl |rfl<;>exact⟨rfl,rfl⟩
     refine⟨D,S,sc,pp+1,rfl,m9.bP,by lia,fun JV ZN TH=>?_⟩
     have xx:=m9.draw ZN TH
     have Qs:=E2.up ZN (by rw[TH.bP];simp)
     obtain⟨m0,m1⟩:=PG.jy sc (pp+1)
     walk_at "rd"
     have sg:∀z:Int,0<=z->z<2->∃c,sI (v9 "<=").cps.toList z=some c/\V.str ⟨#[c]⟩=V.str (L2.S (PG.pick [] PG.zc z)):=fun z h0 h3=>by
      have z3:z=0\/z=1:=by lia
      rcases z3 with rfl |rfl
      ·exact⟨60,av (j:=0) (by decide +kernel),rfl⟩
      ·exact⟨61,av (j:=1) (by decide +kernel),rfl⟩
     obtain⟨c,hc,ec⟩:=sg (PG.next sc (pp+1)%2) (by lia) (by lia)
     refine⟨_,_,c,rfl,rfl,by decide,hc,?_⟩
     rw[ec]
     obtain⟨g1,g2⟩:=PG.jx sc bs.1 1 (pp+2)
     refine⟨D,S,B,sc,pp+2,1,bs.1,rfl,by lia,xx.bP,by lia,xx.aK,fun v3 MH Rk TJ XI=>?_⟩
     have BI:=xx.draw Rk TJ
     have TF:=Qs.up Rk (by rw[TJ.bP];simp)
     have f3:Fix K (O D P' R ((f',a,b)::fr) []) MH (ji (PG.cH sc bs.1 1 (pp+2)).1) v3:=XI _ fun z hz=>xx.pV z (Qt _ z hz)
     obtain⟨g3,g4⟩:=PG.jx sc bs.1 1 (PG.cH sc bs.1 1 (pp+2)).2
     refine⟨D,S,B,sc,_,1,bs.1,rfl,by lia,BI.bP,by lia,BI.aK,fun v4 NW As TK XJ t0 ht0=>?_⟩
     have XM:=BI.draw As TK
     have k13:=TF.up As (by rw[TK.bP];simp)
     have f4:Fix K (O D P' R ((f',a,b)::fr) []) NW (ji (PG.cH sc bs.1 1 (PG.cH sc bs.1 1 (pp+2)).2).1) v4:=XJ _ fun z hz=>BI.pV z (Qt _ z hz)
     have f3:=f3.up (br.one As (.inl (by simp[iB])))
     generalize PG.cH sc bs.1 1 (PG.cH sc bs.1 1 (pp+2)).2=ZO at *
     generalize PG.cH sc bs.1 1 (pp+2)=ge1 at *
     generalize PG.pick [] PG.zc (PG.next sc (pp+1)%2)=sgn at *
     have KR:=aq.new ht0 (.tup [V.str (L2.S sgn),v3,v4])
     have NX:(upd NW t0 (.tup [V.str (L2.S sgn),v3,v4])) t0=some (.tup [V.str (L2.S sgn),v3,v4]):=ae
     have MU:=XM.same KR
     have WW:=k13.same KR
     have f3:=f3.up (.of KR)
     have f4:=f4.up (.of KR)
     generalize upd NW t0 (.tup [V.str (L2.S sgn),v3,v4])=Xh at *
     refine⟨.inl ⟨rfl,_,.of MU.aX⟩,fun b2 qQ=>?_⟩
     have MK:=aq.new qQ (.lst [])
     have Kk:=MU.more qQ (.lst [])
     have f3:=f3.apart (o:=.lst []) qQ
     have f4:=f4.apart (o:=.lst []) qQ
     have Tq:b2 ∉ iB D P' R ((f',a,b)::fr):=MU.fresh qQ
     have Qv:S≠b2:=aj MU.bP.gU qQ
     have E3:(upd Xh b2 (.lst [])) b2=some (.lst []):=ae
     have U0:=WW.same MK
     have Qw:H b2=none:=by
      cases z:H b2 with
      |none=>rfl
      |some o=>exact absurd qQ (WW.2 b2 (by rw[z];simp))
     have NX:=MK _ _ NX
     generalize upd Xh b2 (.lst [])=NY at *
     intro t1 MV
     have ML:=aq.new MV (.tup [V.str (rL kd),V.int k])
     have y16:(upd NY t1 (.tup [V.str (rL kd),V.int k])) t1=some (.tup [V.str (rL kd),V.int k]):=ae
     have TL:=Kk.same ML
     have k16:=U0.same ML
     have f3:=f3.up (.of ML)
     have f4:=f4.up (.of ML)
     have E3:=ML _ _ E3
     have NX:=ML _ _ NX
     generalize upd NY t1 (.tup [V.str (rL kd),V.int k])=Ta at *
     refine zK y16 NX (by simp) (by simp) fun t2 Va=>?_
     have TM:=aq.new Va (.tup ([V.str (rL kd),V.int k]++[V.str (L2.S sgn),v3,v4]))
     have Vb:(upd Ta t2 (.tup ([V.str (rL kd),V.int k]++[V.str (L2.S sgn),v3,v4]))) t2=some (.tup ([V.str (rL kd),V.int k]++[V.str (L2.S sgn),v3,v4])):=ae
     have Qx:=TL.same TM
     have ZP:=k16.same TM
     have f3:=f3.up (.of TM)
     have f4:=f4.up (.of TM)
     have nt2:t2 ∉ iB D P' R ((f',a,b)::fr):=TL.fresh Va
     have XN:t2≠b2:=fun z=>by rw[z,E3] at Va;cases Va
     have E3:=TM _ _ E3
     generalize upd Ta t2 (.tup ([V.str (rL kd),V.int k]++[V.str (L2.S sgn),v3,v4]))=ZQ at *
     intro a2 xy
     have Qy:=aq.new xy (.lst [V.str (rL kd),V.ref b2,V.ref t2,V.cD])
     have Kl:=Qx.more xy (.lst [V.str (rL kd),V.ref b2,V.ref t2,V.cD])
     have f3:=f3.apart (o:=.lst [V.str (rL kd),V.ref b2,V.ref t2,V.cD]) xy
     have f4:=f4.apart (o:=.lst [V.str (rL kd),V.ref b2,V.ref t2,V.cD]) xy
     have XO:a2 ∉ iB D P' R ((f',a,b)::fr):=Qx.fresh xy
     have Qz:S≠a2:=aj Qx.bP.gU xy
     have QA:a2≠b2:=fun z=>by rw[z,E3] at xy;cases xy
     have XQ:t2≠a2:=aj Vb xy
     have XR:(upd ZQ a2 (.lst [V.str (rL kd),V.ref b2,V.ref t2,V.cD])) a2=some (.lst [V.str (rL kd),V.ref b2,V.ref t2,V.cD]):=ae
     have XS:=ZP.same Qy
     have QB:H a2=none:=by
      cases z:H a2 with
      |none=>rfl
      |some o=>exact absurd xy (ZP.2 a2 (by rw[z];simp))
     have E3:=Qy _ _ E3
     have Vb:=Qy _ _ Vb
     generalize upd ZQ a2 (.lst [V.str (rL kd),V.ref b2,V.ref t2,V.cD])=XT at *
     have j:∀z,O D P' R ((f',a,b)::fr) [a2,b2] z->((O D P' R ((f',a,b)::fr) [] z\/z=b2)\/z=a2):=fun z hz=>by
      rcases hz with h |h
      ·exact .inl (.inl (.inl h))
      ·simp only[Zd,zaG,or_false] at h
       rcases h with h |h
       ·exact .inr h
       ·exact .inl (.inr h)
     have nf:fz K (O D P' R ((f',a,b)::fr) [a2,b2]) XT ({kind:=kd,body:=[],k:=k,sg:=sgn,l:=ge1.1,r:=ZO.1}:PG.Frame) a2 b2 (.ref t2) .cD []:=by
      refine⟨XR,E3,.nil,fun _=>⟨t2,_,rfl,Vb,fun z=>?_,?_⟩,fun z=>?_,rfl⟩
      ·rcases z with z |z
       ·exact nt2 z
       ·simp only[Zd,zaG,or_false] at z
        exact z.elim XQ XN
      ·show eZ K _ _ [.str (if kd=3 then "while" else "if"),.int k,.str (L2.S sgn),ji ge1.1,ji ZO.1] _
       rw[wd.1]
       exact .cons .str (.cons .int (.cons .str (.cons (f3.sub j) (.cons (f4.sub j) .nil))))
      ·have z:kd=2:=z
       lia
     have QC:=(Kl.push nf XO Tq QA Qz Qv (by simp) (by simp)).less (E':=[]) (fun z hz=>absurd hz (by simp))
     have XU:=XS.put e3 (.lst (((f',a,b)::fr:List xg).reverse.map (fun x=>V.ref x.2.1)++[.ref a2]))
     refine⟨P',_,_,rfl,rfl,Kl.aX,by rw[Zb,za0];have:=ok.most;simp only[V0] at this ⊢;lia,?_⟩
     have ar:=zN _ (if kd=3 then PG.Wd.fj else PG.Wd.ifs) _ _ (fun TN=>Pv (i+1) [some (V.ref D),some (V.int many),some (V.ref B),some (V.ref P'),some (V.ref R),some (V.int mode),some (V.int i),some (V.int k),some (V.int way),z9,KY,KZ,K0,some (V.str (rL kd)),some (V.ref t0)] TN) QC XU fun TN QD XW=>done _ _ ⟨_,_,_,_,_,_,_,_,_,_,rfl,by simp only[Y9,ef],QD,XW,Ki,Kj,by lia,fun x hx=>by
      rcases Zd.mp hx with rfl |hx
      ·exact⟨QB,Qw⟩
      ·exact E1 x hx⟩
     rw[wd.2] at ar
     exact ar
    ·rw[lp,Zc,Zb,za0,XC]
     have:=z.2
     simp only[V0,zak] at this ⊢
     lia
   walk_at "rd"
   have TB:=xw.aX
   rw[lp] at TB
   obtain⟨K3,ZE,SW,Xo⟩:=xw.frames _ (UH ..)
   have kk:(V.str (rL f'.kind)=V.str (v9 "if"))↔f'.kind=1:=by
    have:f'.kind=0\/f'.kind=1\/f'.kind=2\/f'.kind=3:=by
     have z:=ok.aX
     cases r with
     |nil=>exact .inl z
     |cons g r2=>exact .inr z.1
    rcases this with h |h |h |h<;>rw[h]<;>decide +kernel
   refine cE (fun w2=>⟨1,rfl,bJ (v:=.ref a) (.of TB) j8 (bJ (v:=.str (rL f'.kind)) (.of Xo.fr) (av (j:=0) rfl) ⟨rfl,cE (fun kf=>?_) (fun kf=>c2 fun z=>kf (kk.mpr z.2))⟩)⟩) (fun w2=>(if_neg WC).mpr (c2 fun z=>w2 z.1))
   have kd1:=kk.mp kf
   rw[if_pos ⟨w2,kd1⟩] at done Ki Kj N4
   obtain⟨m9,⟨hd,fi,xs,fa⟩,na,nb,Pr⟩:=xw.pop
   have E2:=Tw.put e3 (.lst (fr.reverse.map fun x=>V.ref x.2.1))
   refine⟨.inl ⟨rfl,_,.of xw.aX⟩,P',_,.ref a,rfl,rfl,xw.aX,by rw[lp];simp,?_⟩
   rw[lp,zb9]
   generalize upd H9 P' (.lst (fr.reverse.map fun x=>V.ref x.2.1))=sM at *
   obtain⟨cc,ys,rfl,xc,NT,Rl⟩:=fa.FO (by lia)
   have Dw:∀z,O D P' R fr [] z->O D P' R fr [a,b] z:=fun z hz=>hz.elim .inl fun w=>absurd w (by simp)
   have m9:=m9.less (E':=[]) (fun z hz=>absurd hz (by simp))
   have Rl:=Rl.sub Dw
   have NT:¬O D P' R fr [] cc:=fun z=>NT (Dw cc z)
   have Ts:Fix K (O D P' R fr []) sM (.lst (f'.body.map dq)) (.ref b):=Fix.lst fa.bd (fun z=>z.elim nb (by simp)) (fa.ok.sub Dw)
   refine⟨a,_,rfl,.of fa.fr,rfl,_,_,rfl,_,_,rfl,_,_,rfl,_,_,rfl,rfl,.inl ⟨rfl,_,.of m9.aX⟩,fun b2 qQ=>?_⟩
   have MK:=aq.new qQ (.lst [])
   have Kk:=m9.more qQ (.lst [])
   have f3:=Rl.apart (o:=.lst []) qQ
   have f4:=Ts.apart (o:=.lst []) qQ
   have Tq:b2 ∉ iB D P' R fr:=m9.fresh qQ
   have Qv:S≠b2:=aj m9.bP.gU qQ
   have E3:(upd sM b2 (.lst [])) b2=some (.lst []):=ae
   have U0:=E2.same MK
   have Qw:H b2=none:=by
    cases z:H b2 with
    |none=>rfl
    |some o=>exact absurd qQ (E2.2 b2 (by rw[z];simp))
   have ncb:cc≠b2:=aj xc qQ
   have xc:=MK _ _ xc
   generalize upd sM b2 (.lst [])=NY at *
   intro a2 xy
   have Qy:=aq.new xy (.lst [V.str (v9 "else"),V.ref b2,V.ref cc,V.ref b])
   have Kl:=Kk.more xy (.lst [V.str (v9 "else"),V.ref b2,V.ref cc,V.ref b])
   have f3:=f3.apart (o:=.lst [V.str (v9 "else"),V.ref b2,V.ref cc,V.ref b]) xy
   have f4:=f4.apart (o:=.lst [V.str (v9 "else"),V.ref b2,V.ref cc,V.ref b]) xy
   have XO:a2 ∉ iB D P' R fr:=Kk.fresh xy
   have Qz:S≠a2:=aj Kk.bP.gU xy
   have QA:a2≠b2:=fun z=>by rw[z,E3] at xy;cases xy
   have nca:cc≠a2:=aj xc xy
   have XR:(upd NY a2 (.lst [V.str (v9 "else"),V.ref b2,V.ref cc,V.ref b])) a2=some (.lst [V.str (v9 "else"),V.ref b2,V.ref cc,V.ref b]):=ae
   have XS:=U0.same Qy
   have QB:H a2=none:=by
    cases z:H a2 with
    |none=>rfl
    |some o=>exact absurd xy (U0.2 a2 (by rw[z];simp))
   have E3:=Qy _ _ E3
   have xc:=Qy _ _ xc
   generalize upd NY a2 (.lst [V.str (v9 "else"),V.ref b2,V.ref cc,V.ref b])=XT at *
   have j:∀z,O D P' R fr [a2,b2] z->((O D P' R fr [] z\/z=b2)\/z=a2):=fun z hz=>by
    rcases hz with h |h
    ·exact .inl (.inl (.inl h))
    ·simp only[Zd,zaG,or_false] at h
     rcases h with h |h
     ·exact .inr h
     ·exact .inl (.inr h)
   have nf:fz K (O D P' R fr [a2,b2]) XT ({f' with kind:=2,body:=[],first:=f'.body}:PG.Frame) a2 b2 (.ref cc) (.ref b) []:=by
    refine⟨XR,E3,.nil,fun _=>⟨cc,ys,rfl,xc,fun z=>?_,?_⟩,fun _=>f4.sub j,rfl⟩
    ·rcases j cc z with (z |z) |z
     ·exact NT z
     ·exact ncb z
     ·exact nca z
    ·have f5:=f3.sub j
     rw[if_neg (by lia)] at f5
     exact f5
   have QC:=(Kl.push nf XO Tq QA Qz Qv (by simp) (by simp)).less (E':=[]) (fun z hz=>absurd hz (by simp))
   have XU:=XS.put e3 (.lst ((fr.reverse.map fun x=>V.ref x.2.1)++[.ref a2]))
   refine⟨P',_,_,rfl,rfl,Kl.aX,by rw[Zb,za0];have:=ok.most;simp only[V0] at this ⊢;lia,?_⟩
   exact zN _ .pU _ _ (fun TN=>Pv (i+1) [some (V.ref D),some (V.int many),some (V.ref B),some (V.ref P'),some (V.ref R),some (V.int mode),some (V.int i),some (V.int k),some (V.int way),some (V.str (rL f'.kind)),some (V.ref b),some (V.ref cc),some fi,K1,K2] TN) QC XU fun TN QD XW=>done _ _ ⟨_,_,_,_,_,_,_,_,_,_,rfl,by simp only[Y9,ef],QD,XW,Ki,Kj,by lia,fun x hx=>by
    rcases Zd.mp hx with rfl |hx
    ·exact⟨QB,Qw⟩
    ·exact E1 x (by simp[hx])⟩
  walk_at "rd"
  refine cE (fun w2=>⟨P',_,rfl,.inl (.of xw.aX),cE (fun l2=>?_) (fun l2=>c1 fun z=>l2 ?_)⟩) (fun w2=>(if_neg WC).mpr (c1 fun z=>w2 z.1))
  ·rw[lp,Zc,Zb,za0] at l2
   cases fr with
   |nil=>simp at l2
   |cons x1 Vc=>
    obtain⟨g,a',b'⟩:=x1
    cases r with
    |nil=>cases ef
    |cons g' r2=>
    simp only[Y9,List.cons.injEq] at ef
    obtain⟨rfl,ef⟩:=ef
    have cond:way<2/\(f'::g::r2).length>1:=⟨w2,by simp⟩
    rw[if_pos cond] at done Ki Kj N4
    have m4:=ok.most
    simp only[V0] at m4 XC
    refine⟨D,S,sc,pp+1,B,bs.1,P',R,f',g,a,b,a',b',Vc,rows,rfl,xw,ok.aX.1,by have:=ln.1 g (by simp);lia,by lia,fun sM Rh Ke m9=>?_⟩
    have E2:Kept D H sM:=⟨fun z o nz e=>Ke z o (Dy _ E1 z o nz e) (Tw.1 z o nz e),fun z hz=>Rh z (Tw.2 z hz)⟩
    refine zN sM .fin _ _ _ m9 E2 fun JV xx Qs=>done _ _ ⟨_,_,_,_,_,_,_,_,_,_,rfl,?_,xx,Qs,Ki,Kj,by lia,fun x hx=>?_⟩
    ·simp only[Y9,ef]
     rfl
    ·rcases Zd.mp hx with rfl |hx
     ·exact E1 (g,a',b') (by simp)
     ·exact E1 x (by simp[hx])
  ·rw[lp,Zc,Zb,za0]
   have:=z.2
   simp only[V0,zak] at this ⊢
   lia
 ·intro σ H7 hv
  obtain⟨z6,z7,z8,z9,KY,KZ,K0,K1,K2,dG,rfl,ef,st,kp,ok,ln,pb,E1⟩:=(iT _ _ _).mp hv
  clear hv
  generalize PG.turns sc bs.1 mode many w0=wk at *
  show U5 _ H7
  refine(xi _ _).mpr (ax fun U6 zH=>?_)
  walk_at "rd"
  refine⟨fun m σ H8=>∃(dG:List xg) (vq:PG.Walk),σ=[some (V.ref D),some (V.int many),some (V.ref B),some (V.ref P'),some (V.ref R),some (V.int mode),z6,z7,z8,z9,KY,KZ,K0,K1,K2]/\dG.map (·.1)=vq.aX/\lH K H8 D S sc vq.p B bs.1 P' R dG vq.rows []/\Kept D H H8/\PG.dJ vq/\PG.og (many+4-m) vq/\
   PG.ends bs.1.length mode 4 wk=PG.ends bs.1.length mode m vq/\vq.aX.length<=m+1/\m<=4/\vq.p<=90000/\∀x∈dG,H x.2.1=none/\H x.2.2=none,⟨4,dG,wk,rfl,ef,st,kp,ok,by rw[show many+4-4=many by lia];exact ln,rfl,by have:=ok.most;lia,Wr _,by lia,E1⟩,?_⟩
  rintro m σ H8 ⟨dG,vq,rfl,ef,st,kp,ok,ln,ee,pl,m4,ZR,E1⟩
  walk_at "rd"
  refine⟨P',_,rfl,.inl (.of st.aX),?_⟩
  rw[Zb,za0]
  have lf:dG.length=vq.aX.length:=by rw[<- ef,Zb]
  refine cE (fun l1=>?_) (fun l1=>?_)
  ·obtain⟨n,rfl⟩:∃n,m=n+1:=⟨m-1,by lia⟩
   refine⟨fun σ H9=>∃(dG:List xg),σ=[some (V.ref D),some (V.int many),some (V.ref B),some (V.ref P'),some (V.ref R),some (V.int mode),z6,z7,z8,z9,KY,KZ,K0,K1,K2]/\dG.map (·.1)=PG.close vq.aX/\lH K H9 D S sc vq.p B bs.1 P' R dG (vq.rows++[(PG.number bs.1.length vq.rows mode,.fin)]) []/\Kept D H H9/\∀x∈dG,H x.2.1=none/\H x.2.2=none,?_,?_⟩
   ·rintro σ H9 ⟨XX,rfl,ef9,xw,k9,fr9⟩
    obtain⟨_,cl⟩:=PG.nZ ok.aX
    refine⟨n,by lia,XX,⟨vq.p,PG.close vq.aX,vq.rows++[(PG.number bs.1.length vq.rows mode,.fin)]⟩,rfl,ef9,xw,k9,PG.vN ok _,?_,?_,?_,by lia,ZR,fr9⟩
    ·have:=PG.x6 ln (PG.number bs.1.length vq.rows mode)
     rw[show many+4-n=many+4-(n+1)+1 by lia]
     exact this
    ·rw[ee]
     conv=>lhs;unfold PG.ends
     rw[if_pos (by lia)]
    ·show (PG.close vq.aX).length<=n+1
     lia
   ·obtain⟨pp,aX,rows⟩:=vq
    simp only at *
    have rl:rows.length<=200:=by have:=ln.2;simp only at this;lia
    match dG,aX,ef,lf with
    |(f',a,b)::(g,a',b')::Vc,aX,ef,lf=>
     simp only[Y9] at ef
     subst ef
     have m4':=ok.most
     simp only[V0,Zb] at m4'
     refine⟨D,S,sc,pp,B,bs.1,P',R,f',g,a,b,a',b',Vc,rows,rfl,st,ok.aX.1,by have:=ln.1 g (by simp);lia,by lia,fun sM Rh Ke m9=>?_⟩
     have Dy:∀(dG:List xg),(∀x∈dG,H x.2.1=none/\H x.2.2=none)->∀z o,z≠D->H z=some o->z ∉ iB D P' R dG:=by
      intro dG hf z o nz e hz
      simp only[iB,Zd,zaL] at hz
      rcases hz with hz |rfl |rfl |⟨x,hx,hz⟩
      ·exact nz hz
      ·rw[e3] at e;cases e
      ·rw[e4] at e;cases e
      ·simp only[zaG,or_false] at hz
       rcases hz with rfl |rfl
       ·rw[(hf x hx).1] at e;cases e
       ·rw[(hf x hx).2] at e;cases e
     have E2:Kept D H sM:=⟨fun z o nz e=>Ke z o (Dy _ E1 z o nz e) (kp.1 z o nz e),fun z hz=>Rh z (kp.2 z hz)⟩
     obtain⟨rv,TQ,fR,lr⟩:=m9.rows
     refine⟨.inl ⟨rfl,_,.of TQ⟩,B,R,bs.1,rows,mode,rfl,m9.box.rep,Rep.bC.mpr ⟨R,rv,rfl,.of TQ,fR.Iy⟩,bl,by lia,fun JV Qe q2 ZS=>?_⟩
     have Rg:=Qe.trans (aq.new ZS (.lst [.int (PG.number bs.1.length rows mode),.str (hV .fin)]))
     have BI:=m9.same Rg
     have TF:=E2.same Rg
     have TR:=Rg _ _ TQ
     refine⟨R,rv,_,rfl,rfl,TR,by lia,?_⟩
     have nq2:¬O D P' R (({g with body:=g.body++[f'.told]},a',b')::Vc) [] q2:=fun z=>z.elim ((m9.same Qe).fresh ZS) (by simp)
     refine⟨_,trivial,?_,BI.row TR (k:=PG.number bs.1.length rows mode) (w:=.fin) (q:=q2) ae nq2,TF.put e4 _,fun x hx=>?_⟩
     ·simp only[Y9]
      rfl
     ·rcases Zd.mp hx with rfl |hx
      ·exact E1 (g,a',b') (by simp)
      ·exact E1 x (by simp[hx])
  ·have en:PG.ends bs.1.length mode m vq=vq:=by
    cases m with
    |zero=>rfl
    |succ m=>unfold PG.ends;rw[if_neg (by lia)]
   rw[en] at ee
   rw[ee] at q
   refine(zH _ _).mpr ?_
   walk_at "rd"
   obtain⟨pp,aX,rows⟩:=vq
   simp only at *
   match dG,aX,ef,lf,ok,q with
   |[],aX,ef,lf,ok,q=>cases ef;exact ok.aX.elim
   |[(f',a,b)],aX,ef,lf,ok,q=>
    cases ef
    obtain⟨hd,fi,xs,fa⟩:=st.frames _ (UH ..)
    obtain⟨rv,TQ,fR,lr⟩:=st.rows
    refine bJ (v:=.ref a) (.of st.aX) (av (j:=0) rfl) (bJ (v:=.ref b) (.of fa.fr) (av (j:=1) rfl) fun t1 MV=>?_)
    have s9:=aq.new MV (.tup [V.ref B,V.ref b])
    have y9:(upd H8 t1 (.tup [V.ref B,V.ref b])) t1=some (.tup [V.ref B,V.ref b]):=ae
    have xw:=st.same s9
    have k9:=kp.same s9
    intro l2 Gy
    have ql:=aq.new Gy (.lst [V.ref t1,V.ref R])
    have E2:=k9.same ql
    have nD:∀z,z∈iB D P' R [(f',a,b)]->z≠D->¬(fun z=>z=D) z:=fun z _ n=>n
    have XY:=st.nd
    simp only[iB,zas,za2,zab,zaq,Zd,zaG,or_false,not_or] at XY
    have ZT:b≠D:=fun z=>XY.1.2.2.2 z.symm
    have ZU:R≠D:=fun z=>XY.1.2.1 z.symm
    have dD:=xw.bP.bP
    have t1D:t1≠D:=fun z=>by rw[z] at MV;rw[st.bP.bP] at MV;cases MV
    have l2D:l2≠D:=fun z=>by rw[z] at Gy;rw[dD] at Gy;cases Gy
    have QE:∀z,z=D->O D P' R [(f',a,b)] [] z:=fun z e=>.inl (by rw[e];simp[iB])
    have fB:=(xw.box.sub QE).up (br.of ql:br (fun z=>z=D) _ _)
    have fBd:=((fa.ok.sub QE).up (br.of s9:br (fun z=>z=D) _ _)).up (br.of ql:br (fun z=>z=D) _ _)
    have fRw:=((fR.sub QE).up (br.of s9:br (fun z=>z=D) _ _)).up (br.of ql:br (fun z=>z=D) _ _)
    have BnD:B≠D:=fun z=>NZ (by rw[<- z];exact hB)
    exact q l2 t1 B b R _ E2.1 ⟨_,ZR,xw.bP.same ql⟩ ae (ql _ _ y9) l2D t1D BnD ZT ZU fB (Fix.lst (ql _ _ (s9 _ _ fa.bd)) ZT fBd) (Fix.lst (ql _ _ (s9 _ _ TQ)) ZU fRw)
   |x::y::r,aX,ef,lf,ok,q=>exact absurd (by simp only[V0];lia) l1
theorem tY:∀s:PG.bH,(V.str (hV s.wd)=V.str (v9 "while"))↔s.wd=.fj:=by
 intro s
 cases s<;>simp only[PG.bH.wd]<;>decide +kernel
theorem zO:∀s:PG.bH,(V.str (hV s.wd)=V.str (v9 "if"))↔s.wd=.ifs:=by
 intro s
 cases s<;>simp only[PG.bH.wd]<;>decide +kernel
theorem E4:∀s:PG.bH,(V.str (hV s.wd)=V.str (v9 "stop"))↔s.wd=.stop:=by
 intro s
 cases s<;>simp only[PG.bH.wd]<;>decide +kernel
theorem E5{K:k0}{H:Hp}{d0 d1 d2 d3 d4 d5:Dp}{xs:List V}{ds:List Dp}(h:aP K H (d0::d1::d2::d3::d4::d5::ds) xs):∃v0 v1 v2 v3 v4 v5 r,xs=v0::v1::v2::v3::v4::v5::r/\Rep K H d5 v5/\aP K H ds r:=by
 rw[aP.aI] at h
 obtain⟨v0,t0,rfl,_,h⟩:=h
 rw[aP.aI] at h
 obtain⟨v1,t1,rfl,_,h⟩:=h
 rw[aP.aI] at h
 obtain⟨v2,t2,rfl,_,h⟩:=h
 rw[aP.aI] at h
 obtain⟨v3,t3,rfl,_,h⟩:=h
 rw[aP.aI] at h
 obtain⟨v4,t4,rfl,_,h⟩:=h
 rw[aP.aI] at h
 obtain⟨v5,t5,rfl,e5,h⟩:=h
 exact⟨v0,v1,v2,v3,v4,v5,t5,rfl,e5,h⟩
theorem nh(T:Tx K mg t):bN P w K mg base dU 1 t.eB t.eC ["body", "behind"] (rM K):=by
 refine T.bQ.F.mq rW (fun vs H Q E h=>?_) (fun fc A outer s H vs Q E hr h=>?_)
 ·obtain⟨_,_,_,rfl,_⟩:=h
  rfl
 obtain⟨b,body,x,rfl,rb,lb,q⟩:=h
 have nd:=rW.nd
 refine⟨_,[some (V.ref b),some (V.int x)],(ai (bE (AF (pv 0) (fun _=>rfl))
 (au (aT (aD aR (aD bj (pv 0) ak ao) ak ao)))
 aZ)
 (au (aT (pv 1)))),rfl,?_⟩
 walk_at "rd"
 rw[Rep.bC] at rb
 obtain⟨_,xs,e,hx,rs⟩:=rb
 cases e
 have line:zcz=2 ^ 24:=rfl
 cases body with
 |nil=>
  rw[zaR,aP.bh] at rs
  subst rs
  exact⟨false,.inl ⟨_,hx,rfl⟩,q⟩
 |cons st r=>
  rw[Y9,aP.aI] at rs
  obtain⟨v,t,rfl,rv,rs⟩:=rs
  obtain⟨a,ys,rfl,hs⟩:=ig st rv
  refine⟨true,.inl ⟨_,hx,rfl⟩,?_⟩
  refine(if_pos rfl).mpr (bJ (v:=.ref a) hx (av (j:=0) rfl) ?_)
  exact aM hs (v:=.int st.row) (av (j:=1) rfl) q
theorem wW(T:Tx K mg t):bN P w K mg base dU 1 t.fM t.gn ["statement", "after"] (Bf K):=by
 refine T.fS.F.mq oP (fun vs H Q E h=>?_) (fun fc A outer s H vs Q E hr h=>?_)
 ·obtain⟨_,_,_,rfl,_⟩:=h
  rfl
 obtain⟨v,st,x,rfl,rv,q⟩:=h
 have nd:=oP.nd
 refine⟨_,[some v,some (V.int x)],(ai (bE (aO b9 (aD aR (pv 0) ak ao) bq (aU _))
 (au (aT (aD aR (pv 0) ak ao)))
 aZ)
 (au (aT (pv 1)))),rfl,?_⟩
 obtain⟨a,ys,rfl,hs⟩:=ig st rv
 walk_at "rd"
 refine aM hs (av (j:=0) rfl) ⟨rfl,cE (fun e=>?_) (fun e=>?_)⟩
 ·have ew:=(tY st).mp e
  refine aM hs (v:=.int st.row) (av (j:=1) rfl) ?_
  cases st<;>first |exact q |cases ew
 ·have ew:st.wd≠.fj:=fun z=>e ((tY st).mpr z)
  cases st<;>first |exact q |exact absurd rfl ew
theorem sG(T:Tx K mg t):bN P w K mg base dU 1 t.gu t.gC ["statement"] (vX K):=by
 refine T.eG.F.mq rX (fun vs H Q E h=>?_) (fun fc A outer s H vs Q E hr h=>?_)
 ·obtain⟨_,_,_,rfl,_⟩:=h
  rfl
 obtain⟨v,st,H0,rfl,rv,s0,q⟩:=h
 have nd:=rX.nd
 refine⟨_,[some v],(ai (bE (aO b9 (aD aR (pv 0) ak ao) bq (aU _))
 (au (aT (bF (aa (aD aR (pv 0) ak ao) (aa (aD aR (pv 0) ak ao) ah a8) a8))))
 aZ)
 (ai (bE (aO b9 (aD aR (pv 0) ak ao) bq (aU _))
 (au (aT (bF (aa (aD aR (pv 0) ak ao) ah a8))))
 aZ)
 (au (aT (bF ah))))),rfl,?_⟩
 obtain⟨a,ys,rfl,hs⟩:=ig st rv
 have hs:=s0.bo hs
 walk_at "rd"
 refine aM hs (av (j:=0) rfl) ⟨rfl,cE (fun e=>?_) (fun e=>aM hs (av (j:=0) rfl) ⟨rfl,cE (fun e2=>?_) (fun e2=>?_)⟩)⟩
 ·have ew:=(zO st).mp e
  cases st<;>first |(exfalso;cases ew;done) |skip
  rename_i k sg l r x y
  rw[dq,Rep.bc] at rv
  obtain⟨_,xs,e0,hx,rs⟩:=rv
  cases e0
  obtain⟨v0,v1,v2,v3,v4,v5,rr,rfl,r5,rs⟩:=E5 rs
  rw[aP.aI] at rs
  obtain⟨v6,t6,rfl,r6,_⟩:=rs
  refine aM (s0.bo hx) (v:=v5) (av (j:=5) rfl) (aM (s0.bo hx) (v:=v6) (av (j:=6) rfl) fun p hp=>?_)
  rw[eV] at r5 r6
  exact q p _ _ (aq.new hp _) hp ae (.cons r5 (.cons r6 .nil))
 ·have ew:=(tY st).mp e2
  cases st<;>first |(exfalso;cases ew;done) |skip
  rename_i k sg l r x
  rw[dq,Rep.bc] at rv
  obtain⟨_,xs,e0,hx,rs⟩:=rv
  cases e0
  obtain⟨v0,v1,v2,v3,v4,v5,rr,rfl,r5,rs⟩:=E5 rs
  refine aM (s0.bo hx) (v:=v5) (av (j:=5) rfl) fun p hp=>?_
  rw[eV] at r5
  exact q p _ _ (aq.new hp _) hp ae (.cons r5 .nil)
 ·intro p hp
  have e1:st.wd≠.ifs:=fun z=>e ((zO st).mpr z)
  have e2':st.wd≠.fj:=fun z=>e2 ((tY st).mpr z)
  refine q p [] _ (aq.new hp _) hp ae ?_
  cases st<;>first |exact .nil |exact absurd rfl e1 |exact absurd rfl e2'
theorem Dz(T:Tx K mg t):bN P w K mg base dU 2 t.j4 t.kj ["statement", "after"] (IF K):=by
 have eK:bN P w K mg base dU 1 t.eB t.eC ["body", "behind"] (rM K):=nh T
 refine T.j6.F.mq wD (fun vs H Q E h=>?_) (fun fc A outer s H vs Q E hr h=>?_)
 ·obtain⟨_,_,_,rfl,_⟩:=h
  rfl
 obtain⟨v,st,x,rfl,rv,hl,q⟩:=h
 have nd:=wD.nd
 obtain⟨JU,wN,wO⟩:=T.zF
 refine⟨_,[some v,some (V.int x),none],(ai (aQ (i:=2) nd rfl (Ws rfl) (aD aR (pv 0) ak ao))
 (ai (bE (aO b9 (pv 2) bq (aU _))
 (au (aT (a7 (aa (o9 rfl wN wO) ah ag))))
 aZ)
 (ai (bE (aO b9 (pv 2) bq (aU _))
 (au (aT (a7 (aa (az eK (hr.mono (by first|decide|omega)) rfl T.bQ.m T.bQ.F.kp T.bQ.b .nil aW (aa (aD aR (pv 0) ak ao) (aa (pv 1) ah ag) a8)) (aa (az eK (hr.mono (by first|decide|omega)) rfl T.bQ.m T.bQ.F.kp T.bQ.b .nil aW (aa (aD aR (pv 0) ak ao) (aa (pv 1) ah ag) a8)) ah bG) bG))))
 aZ)
 (ai (bE (aO b9 (pv 2) bq (aU _))
 (au (aT (a7 (aa (az eK (hr.mono (by first|decide|omega)) rfl T.bQ.m T.bQ.F.kp T.bQ.b .nil aW (aa (aD aR (pv 0) ak ao) (aa (aD aR (pv 0) ak ao) ah a8) a8)) (aa (pv 1) ah ag) bG))))
 aZ)
 (au (aT (a7 (aa (pv 1) ah ag)))))))),rfl,?_⟩
 obtain⟨a,ys,rfl,hs⟩:=ig st rv
 refine ax fun U1 fU=>?_
 walk_at "rd"
 refine aM hs (av (j:=0) rfl) ((fU _ _).mpr ?_)
 walk_at "rd"
 have Km:∀b∈aJ st,b.length<=100000:=hl
 refine cE (fun e=>?_) (fun e=>cE (fun e1=>?_) (fun e1=>cE (fun e2=>?_) (fun e2=>?_)))
 ·have ew:=(E4 st).mp (by rw[e])
  cases st<;>first |(exfalso;cases ew;done) |skip
  intro p hp
  exact q _ _ (aq.new hp _) (Rep.new hp (.cons (Rep.bw.mpr rfl) .nil))
 ·have ew:=(zO st).mp (by rw[e1])
  cases st<;>first |(exfalso;cases ew;done) |skip
  rename_i k sg l r y z
  rw[dq,Rep.bc] at rv
  obtain⟨_,xs,e0,hx,rs⟩:=rv
  cases e0
  obtain⟨v0,v1,v2,v3,v4,v5,rr,rfl,r5,rs⟩:=E5 rs
  rw[aP.aI] at rs
  obtain⟨v6,t6,rfl,r6,_⟩:=rs
  rw[eV] at r5 r6
  obtain⟨a5,_,rfl,_⟩:=Rep.bC.mp r5
  obtain⟨a6,_,rfl,_⟩:=Rep.bC.mp r6
  refine aM hx (v:=.ref a5) (av (j:=5) rfl) ⟨a5,y,x,rfl,r5,Km y (by simp[aJ]),aM hx (v:=.ref a6) (av (j:=6) rfl) ⟨a6,z,x,rfl,r6,Km z (by simp[aJ]),fun p hp=>?_⟩⟩
  exact q _ _ (aq.new hp _) (Rep.new hp (.cons (Rep.bw.mpr rfl) (.cons (Rep.bw.mpr rfl) .nil)))
 ·have ew:=(tY st).mp (by rw[e2])
  cases st<;>first |(exfalso;cases ew;done) |skip
  rename_i k sg l r y
  rw[dq,Rep.bc] at rv
  obtain⟨_,xs,e0,hx,rs⟩:=rv
  cases e0
  obtain⟨v0,v1,v2,v3,v4,v5,rr,rfl,r5,rs⟩:=E5 rs
  rw[eV] at r5
  obtain⟨a5,_,rfl,_⟩:=Rep.bC.mp r5
  refine aM hx (v:=.ref a5) (av (j:=5) rfl) (aM hs (v:=.int k) (av (j:=1) rfl) ⟨a5,y,k,rfl,r5,Km y (by simp[aJ]),fun p hp=>?_⟩)
  exact q _ _ (aq.new hp _) (Rep.new hp (.cons (Rep.bw.mpr rfl) (.cons (Rep.bw.mpr rfl) .nil)))
 ·intro p hp
  have n1:st.wd≠.stop:=fun z=>e (V.str.inj ((E4 st).mpr z))
  have n2:st.wd≠.ifs:=fun z=>e1 (V.str.inj ((zO st).mpr z))
  have n3:st.wd≠.fj:=fun z=>e2 (V.str.inj ((tY st).mpr z))
  have ew:ou st x=[x]:=by
   cases st<;>first |rfl |exact absurd rfl n1 |exact absurd rfl n2 |exact absurd rfl n3
  rw[ew] at q
  exact q _ _ (aq.new hp _) (Rep.new hp (.cons (Rep.bw.mpr rfl) .nil))
theorem yG{K:k0}{H:Hp}:∀(n:Nat) {ds:List PG.bH} {vs:List V},aP K H (ds.map dq) vs->aP K H ((ds.drop n).map dq) (vs.drop n)
 |0,_,_,h=>h
 |n+1,[],vs,h=>by
  rw[zaR,aP.bh] at h
  subst h
  exact .nil
 |n+1,d::ds,vs,h=>by
  rw[Y9,aP.aI] at h
  obtain⟨v,t,rfl,_,h⟩:=h
  exact yG n h
theorem Kn(T:Tx K mg t){n:Nat}(ko:bN P w K mg base dU (n+2) t.dO t.dX ["body", "behind"] (vg K n)) :
 bN P w K mg base dU (n+3) t.dO t.dX ["body", "behind"] (vg K (n+1)):=by
 have eK:bN P w K mg base dU 1 t.eB t.eC ["body", "behind"] (rM K):=nh T
 have Gn:bN P w K mg base dU 2 t.j4 t.kj ["statement", "after"] (IF K):=Dz T
 have oU:bN P w K mg base dU 1 t.gu t.gC ["statement"] (vX K):=sG T
 have xA:bN P w K mg base dU 1 t.fM t.gn ["statement", "after"] (Bf K):=wW T
 refine T.cO.F.mq nA (fun vs H Q E h=>?_) (fun fc A outer s H vs Q E hr h=>?_)
 ·obtain⟨_,_,_,rfl,_⟩:=h
  rfl
 obtain⟨b,body,x,rfl,rb,hd,hf,q⟩:=h
 have nd:=nA.nd
 refine⟨_,[some (V.ref b),some (V.int x),none,none,none,none,none],(ai (aQ (i:=2) nd rfl (Ws rfl) (bF ah))
 (ai (fh PassesOwn.never rfl (Em rfl T.kN (aa (pv 0) ah ag)) (sO rfl (bV (a9 (i:=3) nd rfl (Ws rfl)) (bV (a9 (i:=4) nd rfl (Ws rfl)) i6)))
 (ai (aQ (i:=5) nd rfl (Ws rfl) (az eK (hr.mono (by first|decide|omega)) rfl T.bQ.m T.bQ.F.kp T.bQ.b .nil aW (aa (lD yX (pv 0) (pz (bf dS (pv 3) ak)) pj) (aa (pv 1) ah ag) a8)))
 (ai (cw (fV Y8 zaf zag b7 (pv 2) (aa (a7 (aa (aD aR (pv 4) ak ao) (aa (aD aR (pv 4) ak ao) (aa (az Gn (hr.mono (by first|decide|omega)) rfl T.j6.m T.j6.F.kp T.j6.b .nil aW (aa (pv 4) (aa (pv 5) ah ag) ag)) ah bG) a8) a8)) ah dI)))
 (au (fh PassesOwn.never rfl (df (az oU (hr.mono (by first|decide|omega)) rfl T.eG.m T.eG.F.kp T.eG.b .nil aW (aa (pv 4) ah ag))) (a9 (i:=6) nd rfl (Ws rfl))
 (au (cw (fV Y8 zbK zbL sR (pv 2) (aa (az ko (hr.mono (by first|decide|omega)) rfl T.cO.m T.cO.F.kp T.cO.b .nil aW (aa (pv 6) (aa (az xA (hr.mono (by first|decide|omega)) rfl T.fS.m T.fS.F.kp T.fS.b .nil aW (aa (pv 4) (aa (pv 5) ah ag) ag)) ah bG) ag)) ah bG)))))))))
 (au (aT (pv 2))))),rfl,?_⟩
 have line:zcz=2 ^ 24:=rfl
 rw[Rep.bC] at rb
 obtain⟨_,xs,e,hx,rs⟩:=rb
 cases e
 have lx:xs.length=body.length:=by rw[rs.length,Zb]
 have lb:=j0 body
 refine ax fun U1 fU=>?_
 walk_at "rd"
 intro tl Vd
 have s1:=aq.new Vd (.lst [])
 have y1:(upd H tl (.lst [])) tl=some (.lst []):=ae
 generalize upd H tl (.lst [])=H1 at *
 refine(fU _ _).mpr (ax fun U2 iu=>?_)
 clear fU
 walk_at "rd"
 obtain⟨Pv,iT⟩:∃Pv:Nat->St->Hp->Prop,∀i σ H2,Pv i σ H2↔∃(z3 z4 z5 z6:Option V) (pre:List PG.fk) (us:List V),σ=[some (V.ref b),some (V.int x),some (V.ref tl),z3,z4,z5,z6]/\aq H H2/\H2 tl=some (.lst us)/\eZ K (·=tl) H2 (pre.map gh) us/\us.length=pre.length/\pre++PG.aS (body.drop i) x=PG.aS body x:=⟨_,fun _ _ _=>Iff.rfl⟩
 refine⟨_,rfl,⟨xs,s1.seq hx⟩,AV (K:=K) (a:=b) (xs:=xs) Pv ((iT _ _ _).mpr ⟨none,none,none,none,[],[],rfl,s1,y1,.nil,rfl,rfl⟩) (fun i σ H2 _ hv=>?_) ?_ ?_⟩
 ·obtain⟨_,_,_,_,_,_,_,s2,_⟩:=(iT _ _ _).mp hv
  exact s2.seq hx
 ·intro i y σ H2 tp hi hv Ve
  obtain⟨z3,z4,z5,z6,pre,us,rfl,s2,y2,f2,lu,ep⟩:=(iT _ _ _).mp hv
  clear hv
  have done:=fun σ H7=>(iT (i+1) σ H7).mpr
  have li:i<body.length:=by have:=(WD.mp hi).1;lia
  obtain⟨v,hv,rv⟩:=rs.get (i:=i) (d:=dq body[i]) (by rw[UB,Za li];rfl)
  rw[hi] at hv
  cases hv
  have ed:body.drop i=body[i]::body.drop (i+1):=zbD li
  rw[ed,PG.aS,ID] at ep
  have mem:body[i]∈body:=zah li
  obtain⟨fm,dm⟩:=pH body _ mem
  generalize Nb:body[i]=st at *
  have s3:=s2.trans (aq.new Ve (.tup [V.int i,y]))
  have n3:tl≠tp:=aj y2 Ve
  have y3:=aq.new Ve (.tup [V.int i,y]) _ _ y2
  have f3:=f2.up (.of (aq.new Ve (.tup [V.int i,y])))
  have t3:(upd H2 tp (.tup [V.int i,y])) tp=some (.tup [V.int i,y]):=ae
  generalize upd H2 tp (.tup [V.int i,y])=H3 at *
  obtain⟨sa,ys,rfl,hs⟩:=ig st rv
  refine⟨tp,_,rfl,.of t3,rfl,_,_,rfl,_,_,rfl,rfl,?_⟩
  refine ax fun U3 jW=>?_
  walk_at "rd"
  refine⟨_,rfl,b,_,rfl,s3.seq hx,fun p4 sN=>?_⟩
  have ec:jh xs (some ((i:Int)+1)) none=xs.drop (i+1):=by
   unfold jh
   rw[HT.nO,show (i:Int)+1=((i+1:Nat):Int) by lia,HT.pf]
   rw[show min (i+1) xs.length=i+1 by lia]
   exact zbf (by rw[zbq];lia)
  rw[ec]
  have s4:=s3.trans (aq.new sN (.lst (xs.drop (i+1))))
  have y4:=aq.new sN (.lst (xs.drop (i+1))) _ _ y3
  have f4:=f3.up (.of (aq.new sN (.lst (xs.drop (i+1)))))
  have l4:(upd H3 p4 (.lst (xs.drop (i+1)))) p4=some (.lst (xs.drop (i+1))):=ae
  generalize upd H3 p4 (.lst (xs.drop (i+1)))=H4 at *
  have rd4:Rep K H4 (.lst ((body.drop (i+1)).map dq)) (.ref p4):=Rep.bC.mpr ⟨p4,_,rfl,.of l4,yG (i+1) (rs.mono s4)⟩
  refine⟨p4,body.drop (i+1),x,rfl,rd4,by rw[zbq];lia,(jW _ _).mpr (ax fun U4 lZ=>?_)⟩
  clear jW
  generalize PG.bt (body.drop (i+1)) x=af at *
  have ZV:=(show b8 K H4 sa _ from s4.bo hs)
  walk_at "rd"
  refine⟨.inl ⟨rfl,_,.of y4⟩,aM ZV (v:=.int st.row) (av (j:=1) rfl) (aM ZV (v:=.str (hV st.wd)) (av (j:=0) rfl) ?_)⟩
  have sh:IE st:=fun bb Sa=>by
   have:=(jN st bb Sa).1
   have:=j0 bb
   lia
  refine⟨.ref sa,st,af,rfl,rv.mono s4,sh,fun u H5 s5 ru p6 l0=>?_⟩
  have y5:=s5 _ _ y4
  have f5:=f4.up (.of s5)
  have fu:Fix K (·=tl) H5 (.tup ((ou st af).map .int)) u:=Pu y5 (by rw[BY];exact tw _) ru
  have n6:p6≠tl:=(aj y5 l0).symm
  have s6:=aq.new l0 (.tup [V.int st.row,V.str (hV st.wd),u])
  have ft:Fix K (·=tl) (upd H5 p6 (.tup [V.int st.row,V.str (hV st.wd),u])) (gh (st.row,st.wd,ou st af)) (.ref p6):=Fix.tup ae n6 (.cons .int (.cons .str (.cons (fu.up (.of s6)) .nil)))
  have f6:=f5.up (.of s6)
  have y6:=s6 _ _ y5
  have s46:=(s4.trans s5).trans s6
  generalize upd H5 p6 (.tup [V.int st.row,V.str (hV st.wd),u])=H6 at *
  have Qm:pre.length<=1000:=by
   have h1:=congrArg zaO ep
   have h2:=congrArg zaO (PG.eU body x)
   simp only[Zc,Zb,V0] at h1 h2
   lia
  refine⟨tl,us,_,rfl,rfl,y6,by lia,?_⟩
  have s7:aq H (upd H6 tl (.lst (us++[V.ref p6]))):=fun z o e=>by rw[aw (aj e Vd)];exact s46 z o e
  have f7:=(f6.snoc ft).up (br.refl.put (O:=(·=tl)) rfl (.lst (us++[V.ref p6])))
  have y7:(upd H6 tl (.lst (us++[V.ref p6]))) tl=some (.lst (us++[V.ref p6])):=ae
  generalize upd H6 tl (.lst (us++[V.ref p6]))=H7 at *
  refine(lZ _ _).mpr ?_
  clear lZ
  refine gZ fun U hU=>?_
  walk_at "rd"
  refine⟨.ref sa,st,H,rfl,rv,s7,fun l8 bv H8 s8 ZW y8 r8=>⟨l8,rfl,⟨bv,.of y8⟩,hU _ _ ?_⟩⟩
  have MT:bv.length=(aJ st).length:=by rw[r8.length,Zb]
  have l8t:l8≠tl:=fun z=>by rw[z,y7] at ZW;cases ZW
  obtain⟨Pw,nI⟩:∃Pw:Nat->St->Hp->Prop,∀j σ H9,Pw j σ H9↔∃(z6:Option V) (us:List V) (BJ:List PG.fk),σ=[some (V.ref b),some (V.int x),some (V.ref tl),some (V.int i),some (V.ref sa),some (V.int af),z6]/\aq H H9/\(∀z o,z≠tl->H8 z=some o->H9 z=some o)/\H9 tl=some (.lst us)/\eZ K (·=tl) H9 (BJ.map gh) us/\us.length=BJ.length/\
   BJ++((aJ st).drop j).flatMap (fun bb=>PG.aS bb (iC st af))=pre++(st.row,st.wd,ou st af)::(aJ st).flatMap (fun bb=>PG.aS bb (iC st af)):=⟨_,fun _ _ _=>Iff.rfl⟩
  refine gX (K:=K) (a:=l8) (xs:=bv) Pw ((nI _ _ _).mpr ⟨z6,_,pre++[(st.row,st.wd,ou st af)],rfl,s7.trans s8,fun z o _ e=>e,s8 _ _ y7,by rw[zae];exact f7.up (.of s8),by simp[lu],by simp⟩) (fun j σ H9 _ hv=>?_) ?_ ?_
  ·obtain⟨_,_,_,_,_,k9,_⟩:=(nI _ _ _).mp hv
   exact .of (k9 _ _ l8t y8)
  ·intro j y σ H9 hj hv
   obtain⟨z6',xB,BJ,rfl,s9,k9,y9,f9,XZ,e9⟩:=(nI _ _ _).mp hv
   clear hv
   have lj:j<(aJ st).length:=by have:=(WD.mp hj).1;lia
   obtain⟨v,hv,rb⟩:=r8.get (i:=j) (d:=.lst ((aJ st)[j].map dq)) (by rw[UB,Za lj];rfl)
   rw[hj] at hv
   cases hv
   have mj:(aJ st)[j]∈aJ st:=zah lj
   obtain⟨fb,db⟩:=jN st _ mj
   have ej:(aJ st).drop j=(aJ st)[j]::(aJ st).drop (j+1):=zbD lj
   rw[ej,zas] at e9
   generalize (aJ st)[j]=bb at *
   obtain⟨ab,_,rfl,_⟩:=Rep.bC.mp rb
   walk_at "rd"
   refine⟨.inl ⟨rfl,_,.of y9⟩,.ref sa,st,af,rfl,rv.mono s9,?_⟩
   refine⟨ab,bb,_,rfl,rb.mono s9,by lia,by lia,fun UT MW sM ql Xd UU Rf=>?_⟩
   have TU:=ql _ _ y9
   have f10:=f9.up (.of ql)
   have g10:eZ K (·=tl) sM ((PG.aS bb (iC st af)).map gh) MW:=LU TU (yj _) Rf
   have UT:MW.length=(PG.aS bb (iC st af)).length:=by rw[Rf.length,Zb]
   have PL:BJ.length+(PG.aS bb (iC st af)).length<=2000:=by
    have h1:=congrArg zaO e9
    have h2:=congrArg zaO ep
    have h3:=congrArg zaO (PG.eU body x)
    simp only[Zc,Zb,V0] at h1 h2 h3
    lia
   refine⟨tl,_,xB,MW,rfl,rfl,TU,UU,by lia,?_⟩
   refine(nI _ _ _).mpr ⟨_,xB++MW,BJ++PG.aS bb (iC st af),rfl,fun z o e=>?_,fun z o nz e=>?_,ae,?_,by simp[XZ,UT],by rw[<- e9];simp⟩
   ·rw[aw (aj e Vd)]
    exact ql _ _ (s9 _ _ e)
   ·rw[aw nz]
    exact ql _ _ (k9 z o nz e)
   ·rw[zae]
    exact(sD f10 g10).up (br.refl.put (O:=(·=tl)) rfl _)
  ·intro σ H9 hv
   obtain⟨z6',xB,BJ,rfl,s9,k9,y9,f9,XZ,e9⟩:=(nI _ _ _).mp hv
   rw[MT,List.drop_length,za2,zab] at e9
   refine done _ _ ⟨_,_,_,_,BJ,xB,rfl,s9,y9,f9,XZ,?_⟩
   rw[e9,<- ep]
   simp
 ·intro σ H2 hv
  obtain⟨z3,z4,z5,z6,pre,us,rfl,s2,y2,f2,lu,ep⟩:=(iT _ _ _).mp hv
  rw[lx,List.drop_length,PG.aS,zab] at ep
  refine(iu _ _).mpr ?_
  walk_at "rd"
  rw[ep] at f2
  exact q tl us H2 s2 Vd y2 f2.Iy
theorem yH(T:Tx K mg t):∀n,bN P w K mg base dU (n+2) t.dO t.dX ["body", "behind"] (vg K n)
 |0=>by
  have no:∀vs H Q E,¬vg K 0 vs H Q E:=fun vs H Q E h=>by obtain⟨_,_,_,_,_,h,_⟩:=h;lia
  exact⟨fun vs H Q E h=>absurd h (no vs H Q E),fun A outer s H args us vs Q E _ _ _ _ h=>absurd h (no vs H Q E)⟩
 |n+1=>Kn T (yH T n)
theorem MX(T:Tx K mg t):bN P w K mg base dU 7 t.qL t.pN ["program"] (CL K):=by
 have ko:=yH (P:=P) (w:=w) (base:=base) T 4
 refine T.tU.F.mq EU (fun vs H Q E h=>?_) (fun fc A outer s H vs Q E hr h=>?_)
 ·obtain⟨_,_,rfl,_⟩:=h
  rfl
 obtain⟨v,pr,rfl,rp,hd,hf,q⟩:=h
 have nd:=EU.nd
 obtain⟨JU,wN,wO⟩:=T.zF
 refine⟨_,[some v],(au (aT (az ko (hr.mono (by first|decide|omega)) rfl T.cO.m T.cO.F.kp T.cO.b .nil aW (aa (aD aR (pv 0) ak ao) (aa (o9 rfl wN wO) ah ag) a8)))),rfl,?_⟩
 unfold i0 at rp
 rw[Rep.bc] at rp
 obtain⟨a,xs,rfl,hx,rs⟩:=rp
 rw[aP.aI] at rs
 obtain⟨v1,t1,rfl,r1,rs⟩:=rs
 rw[aP.aI] at rs
 obtain⟨v2,t2,rfl,r2,rs⟩:=rs
 obtain⟨b,_,rfl,_⟩:=Rep.bC.mp r2
 walk_at "rd"
 refine aM hx (v:=.ref b) (av (j:=1) rfl) ?_
 exact⟨b,pr.body,0,rfl,r2,by lia,hf,fun l us H' s' hl y r=>q l us H' s' hl y r⟩
theorem zP:∀w:PG.Wd,(hV w=v9 "else")↔w=.pU:=by
 intro w
 cases w<;>decide +kernel
theorem zQ:∀w:PG.Wd,(hV w=v9 "end")↔w=.fin:=by
 intro w
 cases w<;>decide +kernel
theorem E6(T:Tx K mg t):bN P w K mg base dU 1 t.jq t.jR ["rows"] (Pz K):=by
 refine T.eJ.F.mq r9 (fun vs H Q E h=>?_) (fun fc A outer s H vs Q E hr h=>?_)
 ·obtain⟨_,_,_,rfl,_⟩:=h
  rfl
 obtain⟨R,rows,b,rfl,rr,lr,tx,q⟩:=h
 have nd:=r9.nd
 have hu:=eT hr
 refine⟨_,[some (V.ref R),none,none,none,none],(ai (aQ (i:=1) nd rfl (Ws rfl) vE)
 (ai (aQ (i:=2) nd rfl (Ws rfl) (bF ah))
 (ai (fh PassesOwn.never rfl (iW rfl T.jV (aa (bY bK rfl T.iq PyProof.Rows.Boot.«len» (aa (pv 0) ah ag)) ah bG)) (a9 (i:=3) nd rfl (Ws rfl))
 (ai (aQ (i:=4) nd rfl (Ws rfl) (aD bj (aD bj (pv 0) (pv 3) pC) ak ao))
 (au (bE (aO pB (pv 4) (a7 (dW (vs:=[.str "if",.str "while"]) (by kernel_rfl))) rfl)
 (ai (cw (fV Y8 zaf zag b7 (pv 2) (aa (pv 3) ah ag)))
 (au (mh hu (pv 1) (pv 3) (bF (dW (vs:=[.cD,.cD]) (by kernel_rfl))) rfl)))
 (au (bE (aO b9 (pv 4) bq (aU _))
 (ai (qy (pv 3) (B7 (cA hu (pv 1) (aD bj (pv 2) (vw qB ak) vJ) (fun _ _=>rfl)) ak set_list))
 (au (mh hu (pv 1) (pv 3) (aD bj (pv 2) (vw qB ak) vJ) rfl)))
 (au (bE (aO b9 (pv 4) bq (aU _))
 (ai (mh hu (pv 1) (pv 3) (Co Y8 zb4 zb5 Cr (pv 2)) rfl)
 (au (qy (pv 3) (B7 (cA hu (pv 1) (cA hu (pv 1) (pv 3) (fun _ _=>rfl)) (fun _ _=>rfl)) ak set_list))))
 aZ))))))))
 (au (aT (pv 1)))))),rfl,?_⟩
 have line:zcz=2 ^ 24:=rfl
 rw[Rep.bC] at rr
 obtain⟨_,rv,e,hR,rr⟩:=rr
 cases e
 have N2:rv.length=rows.length:=by rw[rr.length,Zb]
 have safe:=PG.yf b rows tx 0 (fun _=>none) [] (by simp)
 refine ax fun U1 fU=>?_
 walk_at "rd"
 intro d hd
 refine(fU _ _).mpr (ax fun U2 iu=>?_)
 clear fU
 walk_at "rd"
 intro ol KL
 refine(iu _ _).mpr (ax fun U3 jW=>?_)
 clear iu
 have QF:ol≠d:=(aj ae KL).symm
 have QG:H ol=none:=by
  cases z:H ol with
  |none=>rfl
  |some o=>rw[aq.new hd (.dK []) _ _ z] at KL;cases KL
 have t1:ym H d (fun _=>none) (fun _=>d) (upd (upd H d (.dK [])) ol (.lst [])) []:=⟨(aq.new hd _).trans (aq.new KL _),hd,by rw[aw QF.symm];exact ae,fun p=>rfl,fun p e f z=>(by cases z),fun p q e f e' f' z=>(by cases z)⟩
 have y1:(upd (upd H d (.dK [])) ol (.lst [])) ol=some (.lst []):=ae
 generalize upd (upd H d (.dK [])) ol (.lst [])=H1 at *
 refine nX fun U hU=>?_
 walk_at "rd"
 refine⟨R,rv,rfl,.inl (t1.s.seq hR),_,rfl,by lia,by lia,hU _ _ ?_⟩
 clear hU
 rw[show ((rv.length:Int)).toNat=rv.length from zaU _]
 have eF:∀i (hi:i<rows.length),PG.foldM 0 (rows.take (i+1)) (fun _=>none,[])=PG.rH (PG.foldM 0 (rows.take i) (fun _=>none,[])) i rows[i].2:=fun i hi=>by
  rw[zaQ hi,PG.iY,zbz,zb8 (by lia),zbr]
  rfl
 obtain⟨Pv,iT⟩:∃Pv:Nat->St->Hp->Prop,∀i σ H3,Pv i σ H3↔∃(z3 z4:Option V) (m:PG.Mm) (op:List Nat) (Af:Nat->Addr) (aG:List (Key×V)),σ=[some (V.ref R),some (V.ref d),some (V.ref ol),z3,z4]/\PG.foldM 0 (rows.take i) (fun _=>none,[])=(m,op)/\ym H d m Af H3 aG/\aG.length<=i/\
  H3 ol=some (.lst (op.reverse.map fun x:Nat=>V.int (x:Int)))/\(∀p e f,m p=some (.op e f)->Af p≠ol)/\op.length<=i/\(∀x∈op,x<i):=⟨_,fun _ _ _=>Iff.rfl⟩
 refine jX (lo:=0) (n:=rv.length) Pv ((iT _ _ _).mpr ⟨none,none,_,[],_,[],rfl,rfl,t1,Wr _,y1,fun p e f z=>(by cases z),Wr _,by simp⟩) (fun i σ H3 hi hv=>?_) (fun σ H3 hv=>?_)
 ·obtain⟨z3,z4,m,op,Af,aG,rfl,ef,ti,lk,yo,no,lo,sl⟩:=(iT _ _ _).mp hv
  clear hv
  have done:=fun σ H7=>(iT (i+1) σ H7).mpr
  have li:i<rows.length:=by lia
  rw[eF i li,ef] at done
  have sat:=PG.Bc rows 0 _ safe i rows[i] (Za li)
  rw[ef] at sat
  obtain⟨ra,era,Rm⟩:=zj (rr.mono ti.s) (i:=i) (y:=rv[i]) (Za (by lia)) li
  generalize rows[i]=r at *
  obtain⟨k,wd⟩:=r
  simp only[gW,zaN]
  rw[show (0:Int)+(i:Int)=(i:Int) by lia]
  have X0:=ti.s.seq hR
  refine ax fun U4 lZ=>?_
  walk_at "rd"
  refine bJ (v:=.ref ra) X0 (av (by rw[<- era];exact Za (by lia))) (bJ (v:=.str (hV wd)) Rm (av (j:=1) rfl) ((lZ _ _).mpr ?_))
  clear lZ
  walk_at "rd"
  intro p4 sN
  refine⟨p4,_,rfl,.inr (.of ae),rfl,rfl,_,rfl,?_⟩
  have s4:=aq.new sN (.tup [V.str (v9 "if"),V.str (v9 "while")])
  have N6:=ti.same s4
  have N9:=s4 _ _ yo
  generalize upd H3 p4 (.tup [V.str (v9 "if"),V.str (v9 "while")])=H4 at *
  rw[Ex wd]
  by_cases hl:wd=.ifs\/wd=.fj
  ·refine(if_pos (decide_eq_true hl)).mpr ⟨.inl ⟨rfl,_,.of N9⟩,ol,_,_,rfl,rfl,N9,by rw[Zb,za0];lia,fun p5 Av=>⟨d,_,rfl,.inl ⟨aG,.inl (i:Int),?_,rfl,by lia,rfl⟩,?_⟩⟩
   ·exact((N6.put QG QF no _).same (aq.new Av _)).dd
   ·have K4:=(N6.put QG QF no (.lst (op.reverse.map (fun x:Nat=>V.int (x:Int))++[V.int i]))).SA i Av
    have n5:ol≠p5:=aj ae Av
    have es:PG.rH (m,op) i wd=(m.set i (.op none none),i::op):=by rcases hl with rfl |rfl<;>rfl
    refine done _ _ ⟨_,_,_,_,_,_,rfl,es,K4,zan (rN _ _ _) (by lia),?_,?_,by simp only[V0];lia,fun x hx=>?_⟩
    ·rw[aw QF,aw n5,ae]
     simp
    ·intro p e f hp
     by_cases z:p=i
     ·rw[if_pos z]
      exact n5.symm
     ·rw[if_neg z]
      rw[PG.Mm.bT _ _ z] at hp
      exact no p e f hp
    ·rcases Zd.mp hx with rfl |hx
     ·lia
     ·have:=sl x hx
      lia
  ·refine(if_neg (by rw[decide_eq_false hl];exact WC)).mpr (cE (fun e=>?_) (fun e=>cE (fun e2=>?_) (fun e2=>?_)))
   ·have ew:wd=.pU:=(zP wd).mp e
    subst ew
    obtain⟨o,tt,x,y,eo,mo⟩:=sat (.inl rfl)
    simp only at eo mo
    subst eo
    have last:∀xs:List Nat,sI ((o::xs).reverse.map fun x:Nat=>V.int (x:Int)) (-1)=some (V.int o):=fun xs=>by rw[za5,zae];exact L2.j8 _ _
    refine⟨1,rfl,bJ (v:=.int o) (.of N9) (last tt) ⟨d,.ref (Af o),rfl,.inl ⟨aG,.inl (o:Int),.inl N6.dd,rfl,?_⟩,Af o,_,0,0,rfl,rfl,(N6.ls o x y mo).1,rfl,?_⟩⟩
    ·rw[N6.at_ o,mo];rfl
    ·have TV:=N6.list mo (some i) y
     have Vf:(upd H4 (Af o) (.lst [vZ (some i),vZ y])) ol=some (.lst ((o::tt).reverse.map fun x:Nat=>V.int (x:Int))):=by rw[aw (no o x y mo).symm];exact N9
     show ∃ZX,1=ZX/\AI K (V.ref ol) (V.int (-ZX)) (upd H4 (Af o) (.lst [vZ (some i),vZ y])) _
     generalize upd H4 (Af o) (.lst [vZ (some i),vZ y])=H5 at *
     refine⟨1,rfl,bJ (v:=.int o) (.of Vf) (last tt) ⟨d,_,rfl,.inl ⟨aG,.inl (i:Int),TV.dd,rfl,by lia,rfl⟩,?_⟩⟩
     have K4:=TV.back i o
     have es:PG.rH (m,o::tt) i .pU=((m.set o (.op (some i) y)).set i (.back o),o::tt):=by simp only[PG.rH,mo,PG.pE]
     refine done _ _ ⟨_,_,_,_,_,_,rfl,es,K4,zan (rN _ _ _) (by lia),?_,?_,by lia,fun x hx=>zbR (sl x hx)⟩
     ·rw[aw QF];exact Vf
     ·intro p e f hp
      by_cases z:p=i
      ·subst z
       rw[PG.Mm.set_same] at hp
       cases hp
      ·rw[PG.Mm.bT _ _ z] at hp
       by_cases z2:p=o
       ·subst z2
        exact no p x y mo
       ·rw[PG.Mm.bT _ _ z2] at hp
        exact no p e f hp
   ·have ew:wd=.fin:=(zQ wd).mp e2
    subst ew
    obtain⟨o,tt,x,y,eo,mo⟩:=sat (.inr rfl)
    simp only at eo mo
    subst eo
    have oi:o<i:=sl o (UH ..)
    have er:((o::tt).reverse.map fun x:Nat=>V.int (x:Int))=(tt.reverse.map fun x:Nat=>V.int (x:Int))++[V.int o]:=by simp
    rw[er] at N9
    have TV:=N6.put QG QF no (.lst (tt.reverse.map fun x:Nat=>V.int (x:Int)))
    have Vf:(upd H4 ol (.lst (tt.reverse.map fun x:Nat=>V.int (x:Int)))) ol=some (.lst (tt.reverse.map fun x:Nat=>V.int (x:Int))):=ae
    refine⟨.inl ⟨rfl,_,.of N9⟩,ol,_,.int o,rfl,rfl,N9,by simp,?_⟩
    rw[zb9]
    generalize upd H4 ol (.lst (tt.reverse.map fun x:Nat=>V.int (x:Int)))=H5 at *
    have K4:=TV.back i o
    have yo6:(upd H5 d (.dK (putK aG (.inl (i:Int)) (.int o)))) ol=some (.lst (tt.reverse.map fun x:Nat=>V.int (x:Int))):=by rw[aw QF];exact Vf
    have lk6:(putK aG (.inl (i:Int)) (V.int o)).length<=i+1:=zan (rN _ _ _) (by lia)
    refine⟨d,_,rfl,.inl ⟨aG,.inl (i:Int),TV.dd,rfl,by lia,rfl⟩,?_⟩
    generalize putK aG (.inl (i:Int)) (V.int o)=nj at *
    generalize upd H5 d (.dK nj)=H6 at *
    have X1:(m.set i (.back o)) o=some (.op x y):=by rw[PG.Mm.bT _ _ (by lia)];exact mo
    refine⟨d,.int o,rfl,.inl ⟨nj,.inl (i:Int),.inl K4.dd,rfl,by rw[K4.at_ i,PG.Mm.set_same];rfl⟩,d,.ref (Af o),rfl,.inl ⟨nj,.inl (o:Int),.inl K4.dd,rfl,by rw[K4.at_ o,X1];rfl⟩,Af o,_,1,1,rfl,rfl,(K4.ls o x y X1).1,rfl,?_⟩
    have ti7:=K4.list X1 x (some i)
    have es:PG.rH (m,o::tt) i .fin=((m.set i (.back o)).set o (.op x (some i)),tt):=by simp only[PG.rH,mo,PG.rG]
    refine done _ _ ⟨_,_,_,_,_,_,rfl,es,ti7,lk6,?_,?_,by simp only[V0] at lo;lia,fun z hz=>zbR (sl z (zad _ hz))⟩
    ·rw[aw (no o x y mo).symm];exact yo6
    ·intro p e f hp
     by_cases z2:p=o
     ·subst z2
      exact no p x y mo
     ·rw[PG.Mm.bT _ _ z2] at hp
      by_cases z:p=i
      ·subst z
       rw[PG.Mm.set_same] at hp
       cases hp
      ·rw[PG.Mm.bT _ _ z] at hp
       exact no p e f hp
   ·have es:PG.rH (m,op) i wd=(m,op):=by
     cases wd<;>first |rfl |exact absurd (.inl rfl) hl |exact absurd (.inr rfl) hl |exact absurd ((zP _).mpr rfl) e |exact absurd ((zQ _).mpr rfl) e2
    exact done _ _ ⟨_,_,_,_,_,_,rfl,es,N6,by lia,N9,no,by lia,fun x hx=>zbR (sl x hx)⟩
 ·obtain⟨z3,z4,m,op,Af,aG,rfl,ef,ti,lk,yo,no,lo,sl⟩:=(iT _ _ _).mp hv
  rw[N2,za3] at ef
  refine(jW _ _).mpr ?_
  walk_at "rd"
  refine q d H3 ⟨Af,aG,?_⟩
  unfold PG.nG
  rw[ef]
  exact ti
theorem E7:∀w:PG.Wd,(V.str (hV w)=V.str (v9 "while"))↔w=.fj:=by
 intro w
 cases w<;>decide +kernel
theorem Oa(T:Tx K mg t):bN P w K mg base dU 1 t.lY t.m7 ["rows", "matches", "at"] (WA K):=by
 refine T.dY.F.mq wI (fun vs H Q E h=>?_) (fun fc A outer s H vs Q E hr h=>?_)
 ·obtain⟨_,_,_,_,_,_,rfl,_⟩:=h
  rfl
 obtain⟨R,d,rows,b,H0,p,rfl,rr,lr,tx,⟨Af,aG,ti⟩,q⟩:=h
 have nd:=wI.nd
 have hu:=eT hr
 refine⟨_,[some (V.ref R),some (V.ref d),some (V.int p),none],(ai (lh PassesOwn.never (aO pY (pv 2) (bY bK rfl T.iq PyProof.Rows.Boot.«len» (aa (pv 0) ah ag)) (aU _))
 (ai (aQ (i:=3) nd rfl (Ws rfl) (aD bj (aD bj (pv 0) (pv 2) pC) ak ao))
 (au (bE (aO b9 (pv 3) bq (aU _))
 (au (aQ (i:=2) nd rfl (Ws rfl) (bf dS (aD yV (cA hu (pv 1) (cA hu (pv 1) (pv 2) (fun _ _=>rfl)) (fun _ _=>rfl)) ak ao) ak)))
 (au (bE (PW.pt (pw_and (aO b9 (pv 3) bq (aU _)) (pw_and1 (aO b9 (aD bj (aD bj (pv 0) (cA hu (pv 1) (pv 2) (fun _ _=>rfl)) HV) ak ao) bq (aU _)))))
 (au (aT (aD bj (aD bj (pv 0) (cA hu (pv 1) (pv 2) (fun _ _=>rfl)) HV) ak ao)))
 (au (bE (aO b9 (pv 3) bq (aU _))
 (au (aQ (i:=2) nd rfl (Ws rfl) (bf dS (pv 2) ak)))
 (au (aT (aD bj (aD bj (pv 0) (pv 2) pC) ak ao)))))))))))
 (au (aT ak))),rfl,?_⟩
 have line:zcz=2 ^ 24:=rfl
 rw[Rep.bC] at rr
 obtain⟨_,rv,e,hR,rr⟩:=rr
 cases e
 have N2:rv.length=rows.length:=by rw[rr.length,Zb]
 have ok:=PG.yh tx
 generalize PG.nG rows=m at *
 refine ax fun U1 fU=>?_
 walk_at "rd"
 refine⟨fun n σ H'=>H'=H/\∃(j:Nat) (z:Option V),σ=[some (V.ref R),some (V.ref d),some (V.int j),z]/\n=rows.length-j/\PG.to rows m j=PG.to rows m p,⟨_,rfl,p,none,rfl,rfl,rfl⟩,?_⟩
 rintro n σ H' ⟨rfl,j,z,rfl,rfl,et⟩
 walk_at "rd"
 refine⟨R,rv,rfl,.inl hR,cE (fun lt=>?_) (fun lt=>?_)⟩
 ·have lj:j<rows.length:=by lia
  obtain⟨ra,era,Rm⟩:=zj rr (i:=j) (y:=rv[j]) (Za (by lia)) lj
  have wX:rows[j]?=some rows[j]:=Za lj
  generalize rows[j]=r at *
  obtain⟨k,wd⟩:=r
  obtain⟨o1,o2,_⟩:=ok j lj k wd wX
  refine⟨fun σ' H2=>H2=H'/\∃(j':Nat) (z:Option V),σ'=[some (V.ref R),some (V.ref d),some (V.int j'),z]/\j<j'/\PG.to rows m j'=PG.to rows m p,fun σ' H2 ⟨e1,j',z',e2,e3,e4⟩=>⟨_,by lia,e1,j',z',e2,rfl,e4⟩,?_⟩
  refine bJ (v:=.ref ra) hR (av (by rw[<- era];exact Za (by lia))) (bJ (v:=.str (hV wd)) Rm (av (j:=1) rfl) ?_)
  walk_at "rd"
  have key:∀jj:Nat,cY aG (.inl (jj:Int))=UG Af jj (m jj):=ti.at_
  refine cE (fun e=>?_) (fun e=>cE (fun e2=>?_) (fun e2=>(if_neg (by decide)).mpr ((if_neg e2).mpr ?_)))
  ·have ew:wd=.pU:=(zP wd).mp e
   subst ew
   obtain⟨o,x,ee,m1,m2,h1,h2⟩:=o1 rfl
   refine⟨d,.int o,rfl,.inl ⟨aG,.inl (j:Int),.inl ti.dd,rfl,by rw[key j,m1];rfl⟩,d,.ref (Af o),rfl,.inl ⟨aG,.inl (o:Int),.inl ti.dd,rfl,by rw[key o,m2];rfl⟩,.inl (bJ (v:=.int ee) (.of (ti.ls o x (some ee) m2).1) (av (j:=1) rfl) ⟨_,_,rfl,rfl,rfl,ee+1,some (V.str (hV .pU)),rfl,by lia,?_⟩)⟩
   ·rw[<- et,PG.Ij wX m1 m2 h1]
  ·have ew:wd=.fin:=(zQ wd).mp e2
   subst ew
   obtain⟨o,k',w',m1,ho,hw⟩:=o2 rfl
   obtain⟨lo,eo⟩:=PG.mB ho
   obtain⟨rb,erb,X2⟩:=zj rr (i:=o) (y:=rv[o]) (Za (by lia)) lo
   rw[eo] at X2
   have gR:sI rv (o:Int)=some (V.ref rb):=av (by rw[<- erb];exact Za (by lia))
   have gd:pT H' d (V.int j) (some (.int o)):=.inl ⟨aG,.inl (j:Int),.inl ti.dd,rfl,by rw[key j,m1];rfl⟩
   refine⟨d,.int o,rfl,gd,bJ (v:=.ref rb) hR gR (bJ (v:=.str (hV w')) X2 (av (j:=1) rfl) ⟨rfl,cE (fun e3=>?_) (fun e3=>(if_pos e2).mpr ⟨rfl,j+1,_,rfl,by lia,?_⟩)⟩)⟩
   ·have ew:w'=.fj:=(E7 w').mp e3
    subst ew
    refine⟨d,.int o,rfl,gd,bJ (v:=.ref rb) hR gR (bJ (v:=.int k') X2 (av (j:=0) rfl) ?_)⟩
    rw[<- et,PG.Ik wX m1 ho] at q
    exact q
   ·have ew:w'=.ifs:=hw.resolve_right fun z=>e3 ((E7 w').mpr z)
    subst ew
    rw[<- et,PG.CG wX m1 ho]
  ·refine bJ (v:=.ref ra) hR (av (by rw[<- era];exact Za (by lia))) (bJ (v:=.int k) Rm (av (j:=0) rfl) ?_)
   rw[<- et,PG.A4 wX (fun z=>e ((zP wd).mpr z)) (fun z=>e2 ((zQ wd).mpr z))] at q
   exact q
 ·refine(fU _ _).mpr ?_
  walk_at "rd"
  rw[<- et,PG.CF (by lia)] at q
  exact q
theorem BK:∀w:PG.Wd,(hV w=v9 "stop")↔w=.stop:=by
 intro w
 cases w<;>decide +kernel
theorem MY(T:Tx K mg t):bN P w K mg base dU 2 t.jr t.jS ["rows"] (LX K):=by
 have oV:=E6 (P:=P) (w:=w) (base:=base) T
 have pQ:=Oa (P:=P) (w:=w) (base:=base) T
 refine T.ik.F.mq se (fun vs H Q E h=>?_) (fun fc A outer s H vs Q E hr h=>?_)
 ·obtain⟨_,_,_,rfl,_⟩:=h
  rfl
 obtain⟨R,rows,b,rfl,rr,lr,tx,q⟩:=h
 have nd:=se.nd
 have hu:=eT hr
 refine⟨_,[some (V.ref R),none,none,none,none,none,none,none],(ai (aQ (i:=1) nd rfl (Ws rfl) (az oV (hr.mono (by first|decide|omega)) rfl T.eJ.m T.eJ.F.kp T.eJ.b .nil aW (aa (pv 0) ah ag)))
 (ai (aQ (i:=2) nd rfl (Ws rfl) (bF ah))
 (ai (fh PassesOwn.never rfl (iW rfl T.jV (aa (bY bK rfl T.iq PyProof.Rows.Boot.«len» (aa (pv 0) ah ag)) ah bG)) (a9 (i:=3) nd rfl (Ws rfl))
 (ai (qy (aD bj (pv 0) (pv 3) pC) (zb rfl (bV (a9 (i:=4) nd rfl (Ws rfl)) (bV (a9 (i:=5) nd rfl (Ws rfl)) i6))))
 (ai (aQ (i:=6) nd rfl (Ws rfl) (az pQ (hr.mono (by first|decide|omega)) rfl T.dY.m T.dY.F.kp T.dY.b .nil aW (aa (pv 0) (aa (pv 1) (aa (bf dS (pv 3) ak) ah jw) ag) ag)))
 (au (bE (aO b9 (pv 5) bq (aU _))
 (au (cw (fV Y8 zaf zag b7 (pv 2) (aa (a7 (aa (pv 4) (aa (pv 5) (aa (a7 (aa ak ah ba)) ah dI) ag) ag)) ah dI))))
 (au (bE (aO pB (pv 5) (a7 (dW (vs:=[.str "if",.str "while"]) (by kernel_rfl))) rfl)
 (ai (aQ (i:=7) nd rfl (Ws rfl) (aD yV (cA hu (pv 1) (pv 3) (fun _ _=>rfl)) ak ao))
 (ai (bE (aO DN (aD yV (cA hu (pv 1) (pv 3) (fun _ _=>rfl)) ak ao) gQ (aU _))
 (au (aQ (i:=7) nd rfl (Ws rfl) (aD yV (cA hu (pv 1) (pv 3) (fun _ _=>rfl)) ak ao)))
 aZ)
 (au (cw (fV Y8 zaf zag b7 (pv 2) (aa (a7 (aa (pv 4) (aa (pv 5) (aa (a7 (aa (pv 6) (aa (az pQ (hr.mono (by first|decide|omega)) rfl T.dY.m T.dY.F.kp T.dY.b .nil aW (aa (pv 0) (aa (pv 1) (aa (bf dS (pv 7) ak) ah jw) ag) ag)) ah bG) ag)) ah dI) ag) ag)) ah dI))))))
 (au (bE (aO rm (pv 5) (a7 (dW (vs:=[.str "else",.str "end"]) (by kernel_rfl))) rfl)
 (au (cw (fV Y8 zaf zag b7 (pv 2) (aa (a7 (aa (pv 4) (aa (pv 5) (aa (a7 (aa (pv 6) ah ag)) ah dI) ag) ag)) ah dI))))
 aZ)))))))))
 (au (aT (pv 2)))))),rfl,?_⟩
 have line:zcz=2 ^ 24:=rfl
 have ok:=PG.yh tx
 have wf:=PG.FI tx
 have ZY:=rr
 rw[Rep.bC] at rr
 obtain⟨_,rv,e,hR,rr⟩:=rr
 cases e
 have N2:rv.length=rows.length:=by rw[rr.length,Zb]
 refine ax fun U1 fU=>?_
 walk_at "rd"
 refine⟨R,rows,b,rfl,ZY,lr,tx,fun d H1 mt1=>(fU _ _).mpr (ax fun U2 iu=>?_)⟩
 clear fU
 walk_at "rd"
 intro fl QH
 refine(iu _ _).mpr (ax fun U3 jW=>?_)
 clear iu
 refine nX fun U hU=>?_
 walk_at "rd"
 obtain⟨Af,aG,mi⟩:=mt1
 have ZZ:qE K H1 fl (upd H1 fl (.lst [])) [] []:=qE.new QH
 generalize upd H1 fl (.lst [])=H2 at *
 refine⟨R,rv,rfl,.inl ((mi.s.trans ZZ.s).seq hR),_,rfl,by lia,by lia,hU _ _ ?_⟩
 clear hU
 rw[show ((rv.length:Int)).toNat=rv.length from zaU _]
 obtain⟨Pv,iT⟩:∃Pv:Nat->St->Hp->Prop,∀i σ H3,Pv i σ H3↔∃(z3 z4 z5 z6 z7:Option V) (us:List V),σ=[some (V.ref R),some (V.ref d),some (V.ref fl),z3,z4,z5,z6,z7]/\qE K H1 fl H3 us ((PG.cb rows (PG.nG rows) 0 i).map gh)/\us.length<=i:=⟨_,fun _ _ _=>Iff.rfl⟩
 refine jX (lo:=0) (n:=rv.length) Pv ((iT _ _ _).mpr ⟨none,none,none,none,none,[],rfl,ZZ,Wr _⟩) (fun i σ H3 hi hv=>?_) (fun σ H3 hv=>?_)
 ·obtain⟨z3,z4,z5,z6,z7,us,rfl,ac,lu⟩:=(iT _ _ _).mp hv
  clear hv
  have done:=fun σ H7=>(iT (i+1) σ H7).mpr
  have li:i<rows.length:=by lia
  have ew:PG.cb rows (PG.nG rows) 0 (i+1)=PG.cb rows (PG.nG rows) 0 i++PG.eL rows (PG.nG rows) i:=by
   rw[PG.dN,zbr,PG.cb,PG.cb,zab]
  have TX:=mi.same ac.s
  have rr3:=rr.mono TX.s
  obtain⟨ra,era,Rm⟩:=zj rr3 (i:=i) (y:=rv[i]) (Za (by lia)) li
  have wX:rows[i]?=some rows[i]:=Za li
  generalize rows[i]=r at *
  obtain⟨k,wd⟩:=r
  obtain⟨_,_,o3⟩:=ok i li k wd wX
  simp only[gW,zaN]
  rw[show (0:Int)+(i:Int)=(i:Int) by lia]
  have X0:=TX.s.seq hR
  have TY:Rep K H3 (.lst (rows.map jm)) (.ref R):=ZY.mono TX.s
  refine ax fun U4 lZ=>?_
  walk_at "rd"
  refine bJ (v:=.ref ra) X0 (av (by rw[<- era];exact Za (by lia))) ⟨ra,_,rfl,Rm,rfl,_,_,rfl,_,_,rfl,rfl,(lZ _ _).mpr (ax fun U5 xi=>?_)⟩
  clear lZ
  simp only[zaN]
  walk_at "rd"
  refine⟨R,d,rows,b,H,i+1,by simp,TY,lr,tx,⟨Af,aG,TX⟩,(xi _ _).mpr ?_⟩
  clear xi
  walk_at "rd"
  generalize hm:PG.nG rows=m at *
  have put:∀(H4:Hp) (ws:List Int) (z:Option V),qE K H1 fl H4 us ((PG.cb rows m 0 i).map gh)->PG.eL rows m i=[(k,wd,ws)]->∀p,H4 p=none->∀p1,(upd H4 p (.tup (ws.map V.int))) p1=none->
   yZ (V.ref fl) [V.ref p1] (upd (upd H4 p (.tup (ws.map V.int))) p1 (.tup [V.int k,V.str (hV wd),V.ref p])) fun x H'=>Pv (i+1) [some (V.ref R),some (V.ref d),some (V.ref fl),some (V.int i),some (V.int k),some (V.str (hV wd)),some (V.int (PG.to rows m (i+1))),z] H':=fun H4 ws z ac ea p hp p1 Au=>by
   obtain⟨y5,TZ⟩:=ac.row (k:=k) (w:=wd) QH hp Au
   refine⟨fl,us,_,rfl,rfl,y5,by lia,done _ _ ⟨_,_,_,_,_,us++[V.ref p1],rfl,?_,by simp only[Zc,zal];lia⟩⟩
   rw[ew,zae,ea]
   exact TZ
  refine cE (fun e=>⟨.inl ⟨rfl,_,.of ac.y⟩,fun p hp p1 Au=>?_⟩) (fun e p4 sN=>?_)
  ·have ewd:=(BK wd).mp e
   subst ewd
   exact put H3 [0] _ ac (by unfold PG.eL;rw[wX]) p hp p1 Au
  ·refine⟨p4,_,rfl,.inr (.of ae),rfl,rfl,_,rfl,?_⟩
   have s4:=aq.new sN (.tup [V.str (v9 "if"),V.str (v9 "while")])
   have T1:=ac.same s4
   have T2:=TX.same s4
   have T3:=TY.mono s4
   generalize upd H3 p4 (.tup [V.str (v9 "if"),V.str (v9 "while")])=H4 at *
   rw[Ex wd]
   by_cases hl:wd=.ifs\/wd=.fj
   ·obtain⟨x,ee,m1,h1,h2,h3⟩:=o3 hl
    have gd:pT H4 d (V.int i) (some (.ref (Af i))):=.inl ⟨aG,.inl (i:Int),.inl T2.dd,rfl,by rw[T2.at_ i,m1];rfl⟩
    have gl:=(T2.ls i x (some ee) m1).1
    have ea:PG.eL rows m i=[(k,wd,[PG.to rows m (i+1),PG.to rows m (x.getD ee+1)])]:=by
     unfold PG.eL
     rw[wX]
     rcases hl with rfl |rfl<;>simp only[m1]
    refine(if_pos (decide_eq_true hl)).mpr ⟨d,_,rfl,gd,.inl (bJ (v:=.int ee) (.of gl) (av (j:=1) rfl) ⟨d,_,rfl,gd,.inl (bJ (v:=vZ x) (.of gl) (av (j:=0) rfl) ?_)⟩)⟩
    cases x with
    |none=>
     refine(if_pos rfl).mpr ⟨.inl ⟨rfl,_,.of T1.y⟩,?_⟩
     rw[Hz]
     exact⟨R,d,rows,b,H,ee+1,by simp,T3,lr,tx,⟨Af,aG,by rw[hm];exact T2⟩,by rw[hm];exact put H4 _ _ T1 ea⟩
    |some y=>
     refine(if_neg (by intro z;cases z)).mpr ⟨d,_,rfl,gd,.inl (bJ (v:=.int y) (.of gl) (av (j:=0) rfl) ⟨.inl ⟨rfl,_,.of T1.y⟩,?_⟩)⟩
     rw[Hz]
     exact⟨R,d,rows,b,H,y+1,by simp,T3,lr,tx,⟨Af,aG,by rw[hm];exact T2⟩,by rw[hm];exact put H4 _ _ T1 ea⟩
   ·refine(if_neg (by rw[decide_eq_false hl];exact WC)).mpr fun p5 Av=>?_
    refine⟨p5,_,rfl,.inr (.of ae),rfl,rfl,_,rfl,?_⟩
    have s5:=aq.new Av (.tup [V.str (v9 "else"),V.str (v9 "end")])
    have TZ:=T1.same s5
    generalize upd H4 p5 (.tup [V.str (v9 "else"),V.str (v9 "end")])=H5 at *
    rw[Py wd]
    by_cases hn:wd=.pU\/wd=.fin
    ·refine(if_neg (by rw[decide_eq_true hn];exact WC)).mpr (done _ _ ⟨_,_,_,_,_,us,rfl,?_,by lia⟩)
     have ea:PG.eL rows m i=[]:=by
      unfold PG.eL
      rw[wX]
      rcases hn with rfl |rfl<;>rfl
     rw[ew,ea,zab]
     exact TZ
    ·refine(if_pos (by rw[decide_eq_false hn];rfl)).mpr ⟨.inl ⟨rfl,_,.of TZ.y⟩,put H5 [PG.to rows m (i+1)] _ TZ ?_⟩
     unfold PG.eL
     rw[wX]
     cases wd<;>first |rfl |exact absurd (.inl rfl) hl |exact absurd (.inr rfl) hl |exact absurd (.inl rfl) hn |exact absurd (.inr rfl) hn |exact absurd ((BK _).mpr rfl) e
 ·obtain⟨z3,z4,z5,z6,z7,us,rfl,ac,lu⟩:=(iT _ _ _).mp hv
  rw[N2,wf] at ac
  refine(jW _ _).mpr ?_
  walk_at "rd"
  refine q fl us H3 (mi.s.trans ac.s) ?_ ac.y ac.f.Iy
  cases z:H fl with
  |none=>rfl
  |some o=>rw[mi.s _ _ z] at QH;cases QH
theorem MZ(T:Tx K mg t){n:Nat}(iS:bN P w K mg base dU (n+1) t.cN t.cU ["body"] (zk K n)) :
 bN P w K mg base dU (n+2) t.cN t.cU ["body"] (zk K (n+1)):=by
 refine T.bZ.F.mq ki (fun vs H Q E h=>?_) (fun fc A outer s H vs Q E hr h=>?_)
 ·obtain⟨_,_,_,rfl,_⟩:=h
  rfl
 obtain⟨b,body,H0,rfl,s0,rb,hd,hf,pw,q⟩:=h
 have nd:=ki.nd
 have hu:=eT hr
 refine⟨_,[some (V.ref b),none,none,none],(ai (aQ (i:=1) nd rfl (Ws rfl) vE)
 (ai (fh PassesOwn.never rfl (df (pv 0)) (a9 (i:=2) nd rfl (Ws rfl))
 (ai (mh hu (pv 1) (aD aR (pv 2) ak ao) (pv 2) rfl)
 (au (fh PassesOwn.never rfl (OI (lD Hd (pv 2) (pz ak) pj)) (a9 (i:=3) nd rfl (Ws rfl))
 (au (cw (fV PySem.F.plainAttrs_dict PySem.F.slot_dict_update PySem.F.type_dict_update FU (pv 1) (aa (az iS (hr.mono (by first|decide|omega)) rfl T.bZ.m T.bZ.F.kp T.bZ.b .nil aW (aa (pv 3) ah ag)) ah bG))))))))
 (au (aT (pv 1))))),rfl,?_⟩
 have line:zcz=2 ^ 24:=rfl
 rw[Rep.bC] at rb
 obtain⟨_,xs,e,hx,rs⟩:=rb
 cases e
 have lx:xs.length=body.length:=by rw[rs.length,Zb]
 have lb:=j0 body
 have sl:=lJ body
 refine ax fun U1 fU=>?_
 walk_at "rd"
 intro d K3
 have s1:=aq.new K3 (.dK [])
 have y1:(upd H d (.dK [])) d=some (.dK []):=ae
 generalize upd H d (.dK [])=H1 at *
 refine(fU _ _).mpr (ax fun U2 iu=>?_)
 clear fU
 refine gZ fun U hU=>?_
 walk_at "rd"
 refine⟨⟨xs,(s0.trans s1).seq hx⟩,hU _ _ ?_⟩
 clear hU
 obtain⟨Pv,iT⟩:∃Pv:Nat->St->Hp->Prop,∀i σ H3,Pv i σ H3↔∃(z2 z3:Option V) (us:List V),σ=[some (V.ref b),some (V.ref d),z2,z3]/\aq H H3/\us.length=(PG.aC (body.take i)).length/\H3 d=some (.dK (cX (PG.aC (body.take i)) us))/\aP K H0 ((PG.aC (body.take i)).map dq) us:=⟨_,fun _ _ _=>Iff.rfl⟩
 refine gX (K:=K) (a:=b) (xs:=xs) Pv ((iT _ _ _).mpr ⟨none,none,[],rfl,s1,rfl,y1,.nil⟩) (fun i σ H3 _ hv=>?_) ?_ ?_
 ·obtain⟨_,_,_,_,s3,_⟩:=(iT _ _ _).mp hv
  exact(s0.trans s3).seq hx
 ·intro i y σ H3 hi hv
  obtain⟨z2,z3,us,rfl,s3,lu,y3,r3⟩:=(iT _ _ _).mp hv
  clear hv
  have done:=fun σ H7=>(iT (i+1) σ H7).mpr
  have li:i<body.length:=by have:=(WD.mp hi).1;lia
  obtain⟨v,hv,rv⟩:=rs.get (i:=i) (d:=dq body[i]) (by rw[UB,Za li];rfl)
  rw[hi] at hv
  cases hv
  have mem:body[i]∈body:=zah li
  obtain⟨fm,dm⟩:=pH body _ mem
  have et:PG.aC (body.take (i+1))=PG.aC (body.take i)++body[i]::(aJ body[i]).flatMap PG.aC:=by
   rw[zaQ li,oA,Bh,Ez]
  rw[et] at done
  have eb:PG.aC body=(PG.aC (body.take i)++body[i]::(aJ body[i]).flatMap PG.aC)++PG.aC (body.drop (i+1)):=by
   rw[<- et,<- oA,zbx]
  rw[eb] at pw sl
  have pw:=(zbl.mp pw).1
  have sl:(PG.aC (body.take i)++body[i]::(aJ body[i]).flatMap PG.aC).length<=1000:=by
   rw[Zc] at sl
   lia
  generalize body[i]=st at *
  generalize PG.aC (body.take i)=pre at *
  obtain⟨sa,ys,rfl,hs,l2,l7,e1,rc⟩:=LZ st rv
  simp only[gW,zaN]
  refine ax fun U3 jW=>?_
  walk_at "rd"
  have fresh:(Sum.inl st.row:Key) ∉ (cX pre us).map (·.1):=by
   rw[ic _ _ lu]
   intro z
   obtain⟨x,hx,e⟩:=zar.mp z
   have e:=Sum.inl.inj e
   have:=(zbl.mp pw).2.2 x hx st (UH ..)
   lia
  have lr:(cX pre us).length<=1000:=by
   have:=congrArg zaO (ic _ _ lu)
   rw[Zb,Zb] at this
   rw[Zc] at sl
   lia
  refine aM ((s0.trans s3).bo hs) (v:=.int st.row) (av (j:=1) e1) ⟨d,_,rfl,.inl ⟨_,.inl st.row,y3,rfl,by lia,rfl⟩,(jW _ _).mpr ?_⟩
  clear jW
  rw[v8 fresh]
  have y4:(upd H3 d (.dK (cX pre us++[(Sum.inl st.row,V.ref sa)]))) d=some (.dK (cX (pre++[st]) (us++[V.ref sa]))):=by rw[ae,pI _ _ _ _ lu];rfl
  have s4:aq H (upd H3 d (.dK (cX pre us++[(Sum.inl st.row,V.ref sa)]))):=fun z o e=>by rw[aw (aj e K3)];exact s3 z o e
  generalize upd H3 d (.dK (cX pre us++[(Sum.inl st.row,V.ref sa)]))=H4 at *
  refine IJ fun U hU=>?_
  simp only[Uy]
  walk_at "rd"
  refine⟨5,rfl,sa,ys,rfl,(s0.trans s4).bo hs,?_,fun p hp=>⟨p,rfl,⟨_,.of ae⟩,hU _ _ ?_⟩⟩
  ·intro z
   have z1:=z.1
   rw[show (5:Int)=((5:Nat):Int) from rfl,HT.pf] at z1
   lia
  clear hU
  have s5:=s4.trans (aq.new hp (.tup (jh ys (some 5) none)))
  have y5:=aq.new hp (.tup (jh ys (some 5) none)) _ _ y4
  have h5:(upd H4 p (.tup (jh ys (some 5) none))) p=some (.tup (jh ys (some 5) none)):=ae
  have X3:p≠d:=(aj y4 hp).symm
  generalize upd H4 p (.tup (jh ys (some 5) none))=H5 at *
  generalize jh ys (some 5) none=bv at *
  have MT:bv.length=(aJ st).length:=by rw[rc.length,Zb]
  obtain⟨Pw,nI⟩:∃Pw:Nat->St->Hp->Prop,∀j σ H6,Pw j σ H6↔∃(z3:Option V) (xB:List V),σ=[some (V.ref b),some (V.ref d),some (V.ref sa),z3]/\aq H H6/\H6 p=some (.tup bv)/\xB.length=(pre++st::((aJ st).take j).flatMap PG.aC).length/\H6 d=some (.dK (cX (pre++st::((aJ st).take j).flatMap PG.aC) xB))/\aP K H0 ((pre++st::((aJ st).take j).flatMap PG.aC).map dq) xB:=⟨_,fun _ _ _=>Iff.rfl⟩
  refine Lf (K:=K) (a:=p) (xs:=bv) Pw ((nI _ _ _).mpr ⟨z3,us++[V.ref sa],rfl,s5,h5,by simp[lu],y5,?_⟩) (fun j σ H6 _ hv=>?_) ?_ ?_
  ·rw[List.take_zero,za2,zae]
   exact r3.append (.cons rv .nil)
  ·obtain⟨_,_,_,_,h6,_⟩:=(nI _ _ _).mp hv
   exact .of h6
  ·intro j y σ H6 hj hv
   obtain⟨X4,xB,rfl,s6,h6,K5,y6,r6⟩:=(nI _ _ _).mp hv
   clear hv
   have BL:=fun σ H7=>(nI (j+1) σ H7).mpr
   have lj:j<(aJ st).length:=by have:=(WD.mp hj).1;lia
   obtain⟨v,hv,T4⟩:=rc.get (i:=j) (d:=.lst ((aJ st)[j].map dq)) (by rw[UB,Za lj];rfl)
   rw[hj] at hv
   cases hv
   have mj:(aJ st)[j]∈aJ st:=zah lj
   obtain⟨fb,db⟩:=jN st _ mj
   have ej:((aJ st).take (j+1)).flatMap PG.aC=((aJ st).take j).flatMap PG.aC++PG.aC (aJ st)[j]:=by
    rw[zaQ lj,zaZ]
    simp
   have ea:(aJ st).flatMap PG.aC=((aJ st).take j).flatMap PG.aC++PG.aC (aJ st)[j]++((aJ st).drop (j+1)).flatMap PG.aC:=by
    rw[<- ej,<- zaZ,zbx]
   rw[ej] at BL
   rw[ea] at pw sl
   generalize (aJ st)[j]=bb at *
   generalize ((aJ st).take j).flatMap PG.aC=mid at *
   generalize ((aJ st).drop (j+1)).flatMap PG.aC=rest at *
   have Z0:((pre++st::mid)++PG.aC bb).Pairwise (fun a b=>a.row<b.row):=by
    rw[show pre++st::(mid++PG.aC bb++rest)=((pre++st::mid)++PG.aC bb)++rest by simp] at pw
    exact(zbl.mp pw).1
   have Q0:(pre++st::mid).length+(PG.aC bb).length<=1000:=by
    simp only[Zc,V0] at sl ⊢
    lia
   obtain⟨ab,_,rfl,_⟩:=Rep.bC.mp T4
   simp only[gW,zaN]
   walk_at "rd"
   refine⟨.inr (.inr (.inl ⟨rfl,.inl ⟨_,y6⟩⟩)),ab,bb,H0,rfl,s0.trans s6,T4,by lia,by lia,(zbl.mp Z0).2.1,fun d2 EE H7 s7 hd2 l2 y7 r7=>?_⟩
   have nd2:d≠d2:=aj y6 hd2
   have lk1:(cX (pre++st::mid) xB).length=(pre++st::mid).length:=by
    have:=congrArg zaO (ic _ _ K5)
    rwa [Zb,Zb] at this
   have lk2:(cX (PG.aC bb) EE).length=(PG.aC bb).length:=by
    have:=congrArg zaO (ic _ _ l2)
    rwa [Zb,Zb] at this
   refine⟨d,d2,_,_,rfl,rfl,nd2,s7 _ _ y6,y7,by lia,?_⟩
   rw[i3 _ _ (by rw[<- pI _ _ _ _ K5,ic _ _ (by simp only[Zc] at *;lia)];exact qF Z0),<- pI _ _ _ _ K5]
   refine BL _ _ ⟨_,xB++EE,rfl,fun z o e=>by rw[aw (aj e K3)];exact s7 _ _ (s6 z o e),by rw[aw X3];exact s7 _ _ h6,by simp only[Zc,V0] at *;lia,?_,?_⟩
   ·rw[ae]
    simp
   ·rw[show pre++st::(mid++PG.aC bb)=(pre++st::mid)++PG.aC bb by simp,zae]
    exact r6.append r7
  ·intro σ H6 hv
   obtain⟨X4,xB,rfl,s6,h6,K5,y6,r6⟩:=(nI _ _ _).mp hv
   rw[MT,za3] at K5 y6 r6
   exact done _ _ ⟨_,_,xB,rfl,s6,K5,y6,r6⟩
 ·intro σ H3 hv
  obtain⟨z2,z3,us,rfl,s3,lu,y3,r3⟩:=(iT _ _ _).mp hv
  rw[lx,za3] at lu y3 r3
  refine(iu _ _).mpr ?_
  walk_at "rd"
  exact q d us H3 s3 K3 lu y3 r3
theorem BM(T:Tx K mg t):∀n,bN P w K mg base dU (n+1) t.cN t.cU ["body"] (zk K n)
 |0=>by
  have no:∀vs H Q E,¬zk K 0 vs H Q E:=fun vs H Q E h=>by obtain⟨_,_,_,_,_,_,h,_⟩:=h;lia
  exact⟨fun vs H Q E h=>absurd h (no vs H Q E),fun A outer s H args us vs Q E _ _ _ _ h=>absurd h (no vs H Q E)⟩
 |n+1=>MZ T (BM T n)
theorem Ko(T:Tx K mg t){n:Nat}(fJ:bN P w K mg base dU (n+2) t.cB t.cI ["body"] (pJ K n)) :
 bN P w K mg base dU (n+3) t.cB t.cI ["body"] (pJ K (n+1)):=by
 have oU:bN P w K mg base dU 1 t.gu t.gC ["statement"] (vX K):=sG T
 refine T.cC.F.mq lT (fun vs H Q E h=>?_) (fun fc A outer s H vs Q E hr h=>?_)
 ·obtain⟨_,_,_,rfl,_⟩:=h
  rfl
 obtain⟨b,body,H0,rfl,s0,rb,hd,hf,q⟩:=h
 have nd:=lT.nd
 refine⟨_,[some (V.ref b),none,none,none],(ai (aQ (i:=1) nd rfl (Ws rfl) (bF ah))
 (ai (fh PassesOwn.never rfl (df (pv 0)) (a9 (i:=2) nd rfl (Ws rfl))
 (ai (cw (fV Y8 zaf zag b7 (pv 1) (aa (pv 2) ah ag)))
 (au (fh PassesOwn.never rfl (df (az oU (hr.mono (by first|decide|omega)) rfl T.eG.m T.eG.F.kp T.eG.b .nil aW (aa (pv 2) ah ag))) (a9 (i:=3) nd rfl (Ws rfl))
 (au (cw (fV Y8 zbK zbL sR (pv 1) (aa (az fJ (hr.mono (by first|decide|omega)) rfl T.cC.m T.cC.F.kp T.cC.b .nil aW (aa (pv 3) ah ag)) ah bG))))))))
 (au (aT (pv 1))))),rfl,?_⟩
 have line:zcz=2 ^ 24:=rfl
 rw[Rep.bC] at rb
 obtain⟨_,xs,e,hx,rs⟩:=rb
 cases e
 have lx:xs.length=body.length:=by rw[rs.length,Zb]
 have lb:=j0 body
 have sl:=lJ body
 refine ax fun U1 fU=>?_
 walk_at "rd"
 intro d K3
 have s1:=aq.new K3 (.lst [])
 have y1:(upd H d (.lst [])) d=some (.lst []):=ae
 generalize upd H d (.lst [])=H1 at *
 refine(fU _ _).mpr (ax fun U2 iu=>?_)
 clear fU
 refine gZ fun U hU=>?_
 walk_at "rd"
 refine⟨⟨xs,(s0.trans s1).seq hx⟩,hU _ _ ?_⟩
 clear hU
 obtain⟨Pv,iT⟩:∃Pv:Nat->St->Hp->Prop,∀i σ H3,Pv i σ H3↔∃(z2 z3:Option V) (us:List V),σ=[some (V.ref b),some (V.ref d),z2,z3]/\aq H H3/\us.length=(PG.aC (body.take i)).length/\H3 d=some (.lst us)/\aP K H0 ((PG.aC (body.take i)).map dq) us:=⟨_,fun _ _ _=>Iff.rfl⟩
 refine gX (K:=K) (a:=b) (xs:=xs) Pv ((iT _ _ _).mpr ⟨none,none,[],rfl,s1,rfl,y1,.nil⟩) (fun i σ H3 _ hv=>?_) ?_ ?_
 ·obtain⟨_,_,_,_,s3,_⟩:=(iT _ _ _).mp hv
  exact(s0.trans s3).seq hx
 ·intro i y σ H3 hi hv
  obtain⟨z2,z3,us,rfl,s3,lu,y3,r3⟩:=(iT _ _ _).mp hv
  clear hv
  have done:=fun σ H7=>(iT (i+1) σ H7).mpr
  have li:i<body.length:=by have:=(WD.mp hi).1;lia
  obtain⟨v,hv,rv⟩:=rs.get (i:=i) (d:=dq body[i]) (by rw[UB,Za li];rfl)
  rw[hi] at hv
  cases hv
  have mem:body[i]∈body:=zah li
  obtain⟨fm,dm⟩:=pH body _ mem
  have et:PG.aC (body.take (i+1))=PG.aC (body.take i)++body[i]::(aJ body[i]).flatMap PG.aC:=by
   rw[zaQ li,oA,Bh,Ez]
  rw[et] at done
  have eb:PG.aC body=(PG.aC (body.take i)++body[i]::(aJ body[i]).flatMap PG.aC)++PG.aC (body.drop (i+1)):=by
   rw[<- et,<- oA,zbx]
  rw[eb] at sl
  have sl:(PG.aC (body.take i)++body[i]::(aJ body[i]).flatMap PG.aC).length<=1000:=by
   rw[Zc] at sl
   lia
  generalize body[i]=st at *
  generalize PG.aC (body.take i)=pre at *
  simp only[gW,zaN]
  refine ax fun U3 jW=>?_
  walk_at "rd"
  refine⟨.inl ⟨rfl,_,.of y3⟩,d,us,y,rfl,rfl,y3,by simp only[Zc,V0] at sl;lia,(jW _ _).mpr ?_⟩
  clear jW
  have y4:(upd H3 d (.lst (us++[y]))) d=some (.lst (us++[y])):=ae
  have s4:aq H (upd H3 d (.lst (us++[y]))):=fun z o e=>by rw[aw (aj e K3)];exact s3 z o e
  generalize upd H3 d (.lst (us++[y]))=H4 at *
  refine gZ fun U hU=>?_
  walk_at "rd"
  refine⟨y,st,H0,rfl,rv,s0.trans s4,fun p bv H5 Kq hp h5 rc=>⟨p,rfl,⟨_,.of h5⟩,hU _ _ ?_⟩⟩
  clear hU
  have s5:=s4.trans Kq
  have y5:=Kq _ _ y4
  have X3:p≠d:=(aj y4 hp).symm
  have MT:bv.length=(aJ st).length:=by rw[rc.length,Zb]
  obtain⟨Pw,nI⟩:∃Pw:Nat->St->Hp->Prop,∀j σ H6,Pw j σ H6↔∃(z3:Option V) (xB:List V),σ=[some (V.ref b),some (V.ref d),some y,z3]/\aq H H6/\H6 p=some (.lst bv)/\xB.length=(pre++st::((aJ st).take j).flatMap PG.aC).length/\H6 d=some (.lst xB)/\aP K H0 ((pre++st::((aJ st).take j).flatMap PG.aC).map dq) xB:=⟨_,fun _ _ _=>Iff.rfl⟩
  refine gX (K:=K) (a:=p) (xs:=bv) Pw ((nI _ _ _).mpr ⟨z3,us++[y],rfl,s5,h5,by simp[lu],y5,?_⟩) (fun j σ H6 _ hv=>?_) ?_ ?_
  ·rw[List.take_zero,za2,zae]
   exact r3.append (.cons rv .nil)
  ·obtain⟨_,_,_,_,h6,_⟩:=(nI _ _ _).mp hv
   exact .of h6
  ·intro j y' σ H6 hj hv
   obtain⟨X4,xB,rfl,s6,h6,K5,y6,r6⟩:=(nI _ _ _).mp hv
   clear hv
   have BL:=fun σ H7=>(nI (j+1) σ H7).mpr
   have lj:j<(aJ st).length:=by have:=(WD.mp hj).1;lia
   obtain⟨v,hv,T4⟩:=rc.get (i:=j) (d:=.lst ((aJ st)[j].map dq)) (by rw[UB,Za lj];rfl)
   rw[hj] at hv
   cases hv
   have mj:(aJ st)[j]∈aJ st:=zah lj
   obtain⟨fb,db⟩:=jN st _ mj
   have ej:((aJ st).take (j+1)).flatMap PG.aC=((aJ st).take j).flatMap PG.aC++PG.aC (aJ st)[j]:=by
    rw[zaQ lj,zaZ]
    simp
   have ea:(aJ st).flatMap PG.aC=((aJ st).take j).flatMap PG.aC++PG.aC (aJ st)[j]++((aJ st).drop (j+1)).flatMap PG.aC:=by
    rw[<- ej,<- zaZ,zbx]
   rw[ej] at BL
   rw[ea] at sl
   generalize (aJ st)[j]=bb at *
   generalize ((aJ st).take j).flatMap PG.aC=mid at *
   generalize ((aJ st).drop (j+1)).flatMap PG.aC=rest at *
   have Q0:(pre++st::mid).length+(PG.aC bb).length<=1000:=by
    simp only[Zc,V0] at sl ⊢
    lia
   obtain⟨ab,_,rfl,_⟩:=Rep.bC.mp T4
   simp only[gW,zaN]
   walk_at "rd"
   refine⟨.inl ⟨rfl,_,.of y6⟩,ab,bb,H0,rfl,s0.trans s6,T4,by lia,by lia,fun d2 EE H7 s7 hd2 y7 r7=>?_⟩
   have l2:EE.length=(PG.aC bb).length:=by rw[r7.length,Zb]
   refine⟨d,d2,_,_,rfl,rfl,s7 _ _ y6,y7,by lia,?_⟩
   refine BL _ _ ⟨_,xB++EE,rfl,fun z o e=>by rw[aw (aj e K3)];exact s7 _ _ (s6 z o e),by rw[aw X3];exact s7 _ _ h6,by simp only[Zc,V0] at *;lia,ae,?_⟩
   rw[show pre++st::(mid++PG.aC bb)=(pre++st::mid)++PG.aC bb by simp,zae]
   exact r6.append r7
  ·intro σ H6 hv
   obtain⟨X4,xB,rfl,s6,h6,K5,y6,r6⟩:=(nI _ _ _).mp hv
   rw[MT,za3] at K5 r6
   exact done _ _ ⟨_,_,xB,rfl,s6,K5,y6,r6⟩
 ·intro σ H3 hv
  obtain⟨z2,z3,us,rfl,s3,lu,y3,r3⟩:=(iT _ _ _).mp hv
  rw[lx,za3] at lu r3
  refine(iu _ _).mpr ?_
  walk_at "rd"
  exact q d us H3 s3 K3 y3 r3
theorem yI(T:Tx K mg t):∀n,bN P w K mg base dU (n+2) t.cB t.cI ["body"] (pJ K n)
 |0=>by
  have no:∀vs H Q E,¬pJ K 0 vs H Q E:=fun vs H Q E h=>by obtain⟨_,_,_,_,_,_,h,_⟩:=h;lia
  exact⟨fun vs H Q E h=>absurd h (no vs H Q E),fun A outer s H args us vs Q E _ _ _ _ h=>absurd h (no vs H Q E)⟩
 |n+1=>Ko T (yI T n)
theorem Ob:∀w:PG.Wd,Nm (V.str (hV w)) [V.str (v9 "ask"),V.str (v9 "put")]=decide (w=.ask\/w=.put):=by
 intro w
 cases w<;>decide +kernel
theorem Oc:∀w:PG.Wd,(hV w=v9 "stop")↔w=.stop:=by
 intro w
 cases w<;>decide +kernel
theorem Od:∀w:PG.Wd,(hV w=v9 "must")↔w=.c9:=by
 intro w
 cases w<;>decide +kernel
theorem QI{st:PG.bH}(h:st.wd=.stop):∃k,st=.stop k:=by
 cases st<;>first |exact⟨_,rfl⟩ |cases h
theorem E8(vals:List Int)(j:Nat)(hj:j<vals.length)(x:Int):jh (vals.map V.int) none (some (j:Int))++[V.int x]++jh (vals.map V.int) (some ((j:Int)+1)) none=(vals.set j x).map V.int:=by
 unfold jh
 rw[HT.nO,HT.pf,show ((j:Int)+1)=((j+1:Nat):Int) by lia,HT.pf,HT.nO]
 rw[Zb,zb8 (by lia),zb8 (by lia),List.drop_zero,Nat.sub_zero]
 rw[zbf (l:=List.drop (j+1) (vals.map V.int)) (by rw[zbq,Zb];lia)]
 rw[List.set_eq_take_append_cons_drop,if_pos hj]
 simp
theorem Kr{st:PG.bH}(h:¬(st.wd=.ask\/st.wd=.put))(h1:st.wd≠.say)(h2:st.wd≠.stop):st.wd=.c9\/st.wd=.ifs\/st.wd=.fj:=by
 cases st<;>simp[PG.bH.wd] at h h1 h2 ⊢
theorem T5{st:PG.bH}{sg:W}{l r:PM.Tr}(h:PJ st)(c:uo st=some (sg,l,r)):sg=[60]\/sg=[61]:=by
 have key:sg∈PG.zc:=by
  cases st<;>simp only[uo,zax.injEq,Prod.mk.injEq,reduceCtorEq] at c<;>obtain⟨rfl,rfl,rfl⟩:=c<;>exact h
 simpa[PG.zc] using key
theorem QJ{bs:List PG.fW}(nb:(bs.map (·.name)).Nodup){b:W}(hb:b∈bs.map (·.name)):(bs.map fun b=>S b.name)[du bs b]?=some (S b)/\∀m,m<du bs b->(bs.map fun b=>S b.name)[m]?≠some (S b):=by
 obtain⟨hx,ex⟩:=kc hb
 refine⟨by rw[UB,Za hx];show some (S bs[du bs b].name)=_;rw[ex],fun m hm e=>?_⟩
 have lm:m<bs.length:=by lia
 rw[UB,Za lm] at e
 have e:=nV.mp (zax.inj e)
 have p1:=zbm.mp nb m (du bs b) (by simpa using lm) (by simpa using hx) hm
 rw[zbd,zbd] at p1
 exact p1 (e.trans ex.symm)
theorem uT(T:Tx K mg t):bN P w K mg base dU 4 t.gx t.ia ["boxes", "statement", "ways", "values", "figure"] (CZ K):=by
 have fE:=wQ (P:=P) (w:=w) (base:=base) T 3
 refine T.eY.F.mq nF (fun vs H Q E h=>?_) (fun fc A outer s H vs Q E hr h=>?_)
 ·obtain⟨_,_,_,_,_,_,_,_,_,_,rfl,_⟩:=h
  rfl
 obtain⟨B,ta,wa,va,fv,bs,st,ws,vals,fig,rfl,rB,rv,Rn,Dm,nb,um,bp,lv,Tb,po,so,w0,w1,q⟩:=h
 have nd:=nF.nd
 have hu:=eT hr
 refine⟨_,[some (.ref B),some (.ref ta),some (.ref wa),some (.ref va),some fv,none,none,none,none,none,none,none],(ai (LB (i:=5) nd rfl (Ws rfl) (own:=["box"]) (ix:=[]) rfl (by rfl) (by rfl) (df (pv 0)) (fun _ _ _ _=>(a9 (i:=0) (by show List.Nodup (["box"]:List Str);decide +kernel) rfl (Ws rfl))) (fun _ _ _ _=>jJ) (fun _ _ _ _=>(aD (i8 (K:=K) rfl) (pv 0) ak ao)))
 (ai (aQ (i:=6) nd rfl (Ws rfl) (we rfl rfl T.qM rfl T.EX (aa (pv 5) (aa (pv 3) ah ag) ag)))
 (ai (aQ (i:=7) nd rfl (Ws rfl) (aD aR (pv 1) ak ao))
 (ai (bE (aO pB (pv 7) (a7 (dW (vs:=[.str "ask",.str "put"]) (by kernel_rfl))) rfl)
 (ai (aQ (i:=8) nd rfl (Ws rfl) (pv 4))
 (ai (bE (aO b9 (pv 7) bq (aU _))
 (au (aQ (i:=8) nd rfl (Ws rfl) (az fE (hr.mono (by first|decide|omega)) rfl T.bu.m T.bu.F.kp T.bu.b .nil aW (aa (aD aR (pv 1) ak ao) (aa (pv 6) ah ag) a8))))
 aZ)
 (ai (aQ (i:=9) nd rfl (Ws rfl) (fV Y8 PySem.F.slot_list_index PySem.F.type_list_index F8 (pv 5) (aa (aD aR (pv 1) ak ao) ah a8)))
 (ai (aQ (i:=3) nd rfl (Ws rfl) (bf vh (bf vh (lD EG (pv 3) pj (pz (pv 9))) (a7 (aa (bf cT (pv 8) (aD aR (aD bj (pv 0) (pv 9) pC) ak ao)) ah jw))) (lD EG (pv 3) (pz (bf dS (pv 9) ak)) pj)))
 (au (aT (a7 (aa (a7 (aa (aD aR (pv 2) ak ao) (aa (pv 3) ah ag) a8)) (aa gQ ah ba) dI))))))))
 aZ)
 (ai (bE (aO b9 (pv 7) bq (aU _))
 (au (aT (a7 (aa (a7 (aa (aD aR (pv 2) ak ao) (aa (pv 3) ah ag) a8)) (aa (az fE (hr.mono (by first|decide|omega)) rfl T.bu.m T.bu.F.kp T.bu.b .nil aW (aa (aD aR (pv 1) ak ao) (aa (pv 6) ah ag) a8)) ah bG) dI))))
 aZ)
 (ai (bE (aO b9 (pv 7) bq (aU _))
 (au (aT (a7 (aa (a7 (aa (aD aR (pv 2) ak ao) (aa (pv 3) ah ag) a8)) (aa gQ ah ba) dI))))
 aZ)
 (ai (aQ (i:=10) nd rfl (Ws rfl) (az fE (hr.mono (by first|decide|omega)) rfl T.bu.m T.bu.F.kp T.bu.b .nil aW (aa (aD aR (pv 1) ak ao) (aa (pv 6) ah ag) a8)))
 (ai (aQ (i:=11) nd rfl (Ws rfl) (az fE (hr.mono (by first|decide|omega)) rfl T.bu.m T.bu.F.kp T.bu.b .nil aW (aa (aD aR (pv 1) ak ao) (aa (pv 6) ah ag) a8)))
 (ai (bE (PW.pt (pw_or (PW.pt (pw_and (aO pY (pv 10) (pv 11) (aU _)) (pw_and1 (aO b9 (aD aR (pv 1) ak ao) bq (aU _))))) (pw_or1 (PW.pt (pw_and (aO b9 (pv 10) (pv 11) (aU _)) (pw_and1 (aO b9 (aD aR (pv 1) ak ao) bq (aU _))))))))
 (au (aT (a7 (aa (a7 (aa (aD aR (pv 2) ak ao) (aa (pv 3) ah ag) a8)) (aa gQ ah ba) dI))))
 aZ)
 (ai (bE (aO b9 (pv 7) bq (aU _))
 (au (aT (a7 (dW (vs:=[.cD,.cD]) (by kernel_rfl)))))
 aZ)
 (au (aT (a7 (aa (a7 (aa (aD aR (pv 2) ak ao) (aa (pv 3) ah ag) a8)) (aa gQ ah ba) dI)))))))))))))),rfl,?_⟩
 obtain⟨X5,hB,lB,hb⟩:=oT rB
 refine ax fun U1 fU=>?_
 walk_at "rd"
 simp only[kD]
 walk_at "rd"
 refine⟨⟨_,hB⟩,fun D hD=>?_⟩
 have lb':X5.length<=16000000:=by lia
 refine lL (K:=K) (r:=[]) (fun i=>V.str (S (bs.getD i ⟨[],0,0⟩).name)) hB lb' hD (fun i x H2 hx s2 R hR=>?_) (fun H1 s1 h1=>(fU _ _).mpr (ax fun U2 iu=>?_))
 ·obtain⟨a,rfl,ha⟩:=hb i x hx
  walk_at "rd"
  exact aM (s2.bo ha) (v:=.str (S (bs.getD i ⟨[],0,0⟩).name)) (av (j:=0) rfl) hR
 clear fU
 rw[lB,j3 (fun b:PG.fW=>V.str (S b.name)) ⟨[],0,0⟩ bs] at h1
 walk_at "rd"
 simp only[WU]
 walk_at "rd"
 have lv':(vals.map V.int).length=bs.length:=by rw[Zb];exact lv
 refine⟨D,va,bs.map fun b=>.inr (S b.name),vals.map V.int,rfl,?_,s1.bo Dm,by rw[Zb,Zb];exact lv,fun d hd=>(iu _ _).mpr (ax fun U3 jW=>?_)⟩
 ·rw[za8]
  exact .of h1
 rw[qI,i3 _ [] (by rw[zay,oC _ _ lv'];exact names_nodup nb),zay]
 clear iu
 have s2:=s1.trans (aq.new hd (HO.dK (dc bs (vals.map V.int))))
 have hd2:upd H1 d (HO.dK (dc bs (vals.map V.int))) d=some (.dK (dc bs (vals.map V.int))):=ae
 have KQ:=aq.new hd (HO.dK (dc bs (vals.map V.int))) _ _ h1
 generalize upd H1 d (HO.dK (dc bs (vals.map V.int)))=H2 at s2 hd2 KQ ⊢
 have sel:∃ds,b8 K H ta (.str (hV st.wd)::ds):=by
  cases st<;>(rw[dq,Rep.bc] at rv;obtain⟨ta,ys,ee,hs,rs⟩:=rv;cases ee;rw[aP.aI] at rs;obtain⟨v0,t0,rfl,e0,rs⟩:=rs;rw[Rep.bI] at e0;subst e0;exact⟨_,hs⟩)
 obtain⟨ds,hs⟩:=sel
 walk_at "rd"
 refine aM (s2.bo hs) (v:=.str (hV st.wd)) (av (j:=0) rfl) ((jW _ _).mpr (ax fun U4 lZ=>?_))
 clear jW
 have e0:ws[0]?=some (ws.getD 0 0):=by rw[Y7,Za w0];rfl
 have q0:sI (ws.map V.int) ((0:Nat):Int)=some (V.int (ws.getD 0 0)):=av (by rw[UB,e0];rfl)
 have adE:vals.length<=10:=by lia
 have line:zcz=2 ^ 24:=rfl
 walk_at "rd"
 intro z hz
 have s3:=s2.trans (aq.new hz (HO.tup [V.str (v9 "ask"),V.str (v9 "put")]))
 have KJ:=aq.new hz (HO.tup [V.str (v9 "ask"),V.str (v9 "put")]) _ _ hd2
 have GD:=aq.new hz (HO.tup [V.str (v9 "ask"),V.str (v9 "put")]) _ _ KQ
 have Z1:upd H2 z (HO.tup [V.str (v9 "ask"),V.str (v9 "put")]) z=some (HO.tup [V.str (v9 "ask"),V.str (v9 "put")]):=ae
 generalize upd H2 z (HO.tup [V.str (v9 "ask"),V.str (v9 "put")])=H3 at s3 KJ GD Z1 ⊢
 refine⟨z,_,rfl,.inr (.of Z1),rfl,rfl,_,rfl,cE (fun e=>?_) (fun e=>?_)⟩
 ·clear lZ
  have e1:=e
  simp only[zai,if_false,Ob,decide_eq_true_eq] at e1
  have X6:∃b x y ys,b∈bs.map (·.name)/\b8 K H ta (x::y :: .str (S b)::ys)/\((st.wd=.ask/\jD bs st ws vals fig=(some (ws.getD 0 0,rO bs vals b (fig%eQ bs b)),none))\/(st.wd=.put/\∃tr u,ys=[u]/\Rep K H (ji tr) u/\B0 bs vals tr/\jD bs st ws vals fig=(some (ws.getD 0 0,rO bs vals b (wv bs vals tr%eQ bs b)),none))):=by
   rcases e1 with e1 |e1
   ·obtain⟨k,b,rfl⟩:=JY e1
    obtain⟨_,ee,hT⟩:=yB rv
    cases ee
    exact⟨b,_,_,_,po,hT,.inl ⟨rfl,rfl⟩⟩
   ·obtain⟨k,b,tr,rfl⟩:=JZ e1
    obtain⟨_,u,ee,hT,ru⟩:=yC rv
    cases ee
    exact⟨b,_,_,_,po.1,hT,.inr ⟨rfl,tr,u,rfl,ru,po.2,rfl⟩⟩
  obtain⟨b,c1,c2,c3,qQ,hT,Oe⟩:=X6
  obtain⟨hx,ex⟩:=kc qQ
  obtain⟨ni,nn⟩:=QJ nb qQ
  have lj:du bs b<vals.length:=by lia
  obtain⟨vb,X7⟩:∃vb,X5[du bs b]?=some vb:=⟨_,Za (by lia)⟩
  obtain⟨ab,rfl,Ey⟩:=hb _ _ X7
  have sz:(bs.getD (du bs b) ⟨[],0,0⟩).size=eQ bs b:=by
   unfold eQ
   rw[Y7,Za hx]
   rfl
  rw[sz] at Ey
  refine cE (fun e2=>?_) (fun e2=>?_)
  ·have ep:=(MP _).mp e2
   rcases Oe with ⟨ea,_⟩ |⟨_,tr,u,rfl,ru,tv,es⟩
   ·rw[ep] at ea;cases ea
   rw[es] at q
   refine aM (s3.bo hT) (v:=u) (av (j:=3) rfl) ⟨u,d,tr,_,rfl,ru.mono s3,KJ,tv.1,by have:=tv.2;lia,by have:=tv.2;lia,fun H5 Kq=>?_⟩
   have s5:=s3.trans Kq
   refine⟨.inl ⟨rfl,_,.of (Kq _ _ GD)⟩,aM (s5.bo hT) (v:=.str (S b)) (av (j:=2) rfl) ⟨D,bs.map fun b=>S b.name,S b,du bs b,rfl,rfl,by rw[za8];exact Kq _ _ GD,ni,nn,⟨_,rfl,va,_,rfl,s5.bo Dm,fun p1 H6 X8 k1=>?_⟩⟩⟩
   have s6:=s5.trans X8
   refine bJ (s6.seq hB) (v:=.ref ab) (av X7) (aM (s6.bo Ey) (v:=.int (eQ bs b)) (av (j:=1) rfl) ⟨_,_,rfl,rfl,pP bp b,fun p2 xf=>?_⟩)
   have s7:=s6.trans (aq.new xf (HO.tup [V.int (wv bs vals tr%eQ bs b)]))
   refine⟨p1,p2,_,_,rfl,rfl,(aq.new xf _).bo k1,.of ae,?_,fun p3 H8 X9 k3=>?_⟩
   ·have:=fe (vals.map V.int) none (some (du bs b:Int))
    rw[Zb] at this
    simp only[V0,zak]
    lia
   have s8:=s7.trans X9
   refine⟨_,_,rfl,rfl,_,rfl,va,_,rfl,s8.bo Dm,fun p4 H9 T6 k4=>⟨p3,p4,_,_,rfl,rfl,T6.bo k3,k4,?_,fun p5 sM QK k5=>?_⟩⟩
   ·have h1:=fe (vals.map V.int) none (some (du bs b:Int))
    have h2:=fe (vals.map V.int) (some ((du bs b:Int)+1)) none
    rw[Zb] at h1 h2
    simp only[Zc,V0,zak]
    lia
   have ql:=(s8.trans T6).trans QK
   rw[E8 vals _ lj] at k5
   refine aM (ql.bo Rn) (v:=.int (ws.getD 0 0)) q0 fun p6 l0 p7 tX=>?_
   exact q p7 _ _ ((ql.trans (aq.new l0 _)).trans (aq.new tX _)) (.of ae) ⟨p6,rfl,p5,(aq.new tX _).bo (.of ae),((aq.new l0 _).trans (aq.new tX _)).bo k5⟩
  ·rcases Oe with ⟨ea,es⟩ |⟨ep,_⟩
   rotate_left
   ·exact absurd ((MP _).mpr ep) e2
   have Xk:=Tb ea
   subst Xk
   rw[es] at q
   have Kq:=aq.refl H3
   have s5:=s3
   refine⟨.inl ⟨rfl,_,.of (Kq _ _ GD)⟩,aM (s5.bo hT) (v:=.str (S b)) (av (j:=2) rfl) ⟨D,bs.map fun b=>S b.name,S b,du bs b,rfl,rfl,by rw[za8];exact Kq _ _ GD,ni,nn,⟨_,rfl,va,_,rfl,s5.bo Dm,fun p1 H6 X8 k1=>?_⟩⟩⟩
   have s6:=s5.trans X8
   refine bJ (s6.seq hB) (v:=.ref ab) (av X7) (aM (s6.bo Ey) (v:=.int (eQ bs b)) (av (j:=1) rfl) ⟨_,_,rfl,rfl,pP bp b,fun p2 xf=>?_⟩)
   have s7:=s6.trans (aq.new xf (HO.tup [V.int (fig%eQ bs b)]))
   refine⟨p1,p2,_,_,rfl,rfl,(aq.new xf _).bo k1,.of ae,?_,fun p3 H8 X9 k3=>?_⟩
   ·have:=fe (vals.map V.int) none (some (du bs b:Int))
    rw[Zb] at this
    simp only[V0,zak]
    lia
   have s8:=s7.trans X9
   refine⟨_,_,rfl,rfl,_,rfl,va,_,rfl,s8.bo Dm,fun p4 H9 T6 k4=>⟨p3,p4,_,_,rfl,rfl,T6.bo k3,k4,?_,fun p5 sM QK k5=>?_⟩⟩
   ·have h1:=fe (vals.map V.int) none (some (du bs b:Int))
    have h2:=fe (vals.map V.int) (some ((du bs b:Int)+1)) none
    rw[Zb] at h1 h2
    simp only[Zc,V0,zak]
    lia
   have ql:=(s8.trans T6).trans QK
   rw[E8 vals _ lj] at k5
   refine aM (ql.bo Rn) (v:=.int (ws.getD 0 0)) q0 fun p6 l0 p7 tX=>?_
   exact q p7 _ _ ((ql.trans (aq.new l0 _)).trans (aq.new tX _)) (.of ae) ⟨p6,rfl,p5,(aq.new tX _).bo (.of ae),((aq.new l0 _).trans (aq.new tX _)).bo k5⟩
 have e1:=e
 simp only[zai,if_false,Ob,decide_eq_true_eq] at e1
 refine(lZ _ _).mpr (ax fun U5 xi=>?_)
 clear lZ e
 walk_at "rd"
 refine cE (fun e2=>?_) (fun e2=>?_)
 ·obtain⟨k,tr,rfl⟩:=J0 ((MQ _).mp e2)
  obtain⟨_,u,ee,hT,ru⟩:=yE rv
  cases ee
  refine aM (s3.bo Rn) (v:=.int (ws.getD 0 0)) q0 fun p6 l0=>?_
  have s4:=s3.trans (aq.new l0 (HO.tup [V.int (ws.getD 0 0),V.ref va]))
  refine aM (s4.bo hT) (v:=u) (av (j:=2) rfl) ⟨u,d,tr,_,rfl,ru.mono s4,aq.new l0 _ _ _ KJ,po.1,by have:=po.2;lia,by have:=po.2;lia,fun H5 s5 p7 tX=>?_⟩
  exact q p7 _ _ ((s4.trans s5).trans (aq.new tX _)) (.of ae) ⟨p6,rfl,va,(s5.trans (aq.new tX _)).bo (.of ae),((s4.trans s5).trans (aq.new tX _)).bo Dm⟩
 refine(xi _ _).mpr (ax fun U6 zH=>?_)
 clear xi
 walk_at "rd"
 refine cE (fun e3=>?_) (fun e3=>?_)
 ·obtain⟨k,rfl⟩:=QI ((Oc _).mp e3)
  refine aM (s3.bo Rn) (v:=.int (ws.getD 0 0)) q0 fun p6 l0 p7 tX=>?_
  have s4:=(s3.trans (aq.new l0 (HO.tup [V.int (ws.getD 0 0),V.ref va]))).trans (aq.new tX (HO.tup [V.ref p6,V.cD]))
  exact q p7 _ _ s4 (.of ae) ⟨p6,rfl,va,(aq.new tX _).bo (.of ae),s4.bo Dm⟩
 have ec:=Kr e1 (fun z=>e2 ((MQ _).mpr z)) (fun z=>e3 ((Oc _).mpr z))
 obtain⟨sg,l,r,cp,tl,tr,es⟩:=cond_of ec po
 have Ih:=T5 so cp
 rw[es] at q
 unfold iE at q
 rw[cp] at q
 simp only at q
 obtain⟨_,w0',vl,vr,ys,ee,hT,rl,rr⟩:=wg rv cp
 cases ee
 refine(zH _ _).mpr (ax fun U7 J7=>?_)
 clear zH
 walk_at "rd"
 refine aM (s3.bo hT) (v:=vl) (av (j:=3) rfl) ⟨vl,d,l,_,rfl,rl.mono s3,KJ,tl.1,by have:=tl.2;lia,by have:=tl.2;lia,fun H4 S7=>(J7 _ _).mpr (ax fun U8 Z2=>?_)⟩
 clear J7
 have s4:=s3.trans S7
 walk_at "rd"
 refine aM (s4.bo hT) (v:=vr) (av (j:=4) rfl) ⟨vr,d,r,_,rfl,rr.mono s4,S7 _ _ KJ,tr.1,by have:=tr.2;lia,by have:=tr.2;lia,fun H5 Kq=>(Z2 _ _).mpr (ax fun U9 Z3=>?_)⟩
 clear Z2
 have s5:=s4.trans Kq
 have ea:(V.str (S sg)=V.str (v9 "<"))↔sg=[60]:=by rw[show (v9 "<":Str)=S [60] from rfl,V.str.injEq,nV]
 have eb:(V.str (S sg)=V.str (v9 "="))↔sg=[61]:=by rw[show (v9 "=":Str)=S [61] from rfl,V.str.injEq,nV]
 walk_at "rd"
 have yes:mG sg (wv bs vals l) (wv bs vals r)=true->Ck K (.ref wa) (.int 0) H5 (fun x H1=>∀p,H1 p=none->∀Ya,upd H1 p (.tup [x,.ref va]) Ya=none->Q (.ref Ya) (upd (upd H1 p (.tup [x,.ref va])) Ya (.tup [.ref p,.cD]))):=fun c=>by
  rw[if_pos c] at q
  refine aM (s5.bo Rn) (v:=.int (ws.getD 0 0)) q0 fun p6 l0 p7 tX=>?_
  have s6:=(s5.trans (aq.new l0 (HO.tup [V.int (ws.getD 0 0),V.ref va]))).trans (aq.new tX (HO.tup [V.ref p6,V.cD]))
  exact q p7 _ _ s6 (.of ae) ⟨p6,rfl,va,(aq.new tX _).bo (.of ae),s6.bo Dm⟩
 have no:mG sg (wv bs vals l) (wv bs vals r)≠true->U9 [some (.ref B),some (.ref ta),some (.ref wa),some (.ref va),some fv,some (.ref D),some (.ref d),some (.str (hV st.wd)),none,none,some (.int (wv bs vals l)),some (.int (wv bs vals r))] H5:=fun c=>by
  rw[if_neg c] at q
  refine(Z3 _ _).mpr ?_
  clear Z3 yes
  walk_at "rd"
  refine cE (fun e4=>?_) (fun e4=>?_)
  ·rw[if_pos ((Od _).mp e4)] at q
   intro p6 l0
   exact q p6 _ _ (s5.trans (aq.new l0 _)) (.of ae) rfl
  ·have nm:st.wd≠.c9:=fun z=>e4 ((Od _).mpr z)
   rw[if_neg nm] at q
   have w1:=w1 (by rcases ec with e |e |e;exact absurd e nm;exact .inl e;exact .inr e)
   have e1:ws[1]?=some (ws.getD 1 0):=by rw[Y7,Za w1];rfl
   have q1:sI (ws.map V.int) ((1:Nat):Int)=some (V.int (ws.getD 1 0)):=av (by rw[UB,e1];rfl)
   refine aM (s5.bo Rn) (v:=.int (ws.getD 1 0)) q1 fun p6 l0 p7 tX=>?_
   have s6:=(s5.trans (aq.new l0 (HO.tup [V.int (ws.getD 1 0),V.ref va]))).trans (aq.new tX (HO.tup [V.ref p6,V.cD]))
   exact q p7 _ _ s6 (.of ae) ⟨p6,rfl,va,(aq.new tX _).bo (.of ae),s6.bo Dm⟩
 have Yb:sg=[60]->mG sg (wv bs vals l) (wv bs vals r)=decide (wv bs vals l<wv bs vals r):=fun z=>by unfold mG;rw[if_pos z]
 have T7:sg=[61]->mG sg (wv bs vals l) (wv bs vals r)=decide (wv bs vals l=wv bs vals r):=fun z=>by unfold mG;rw[if_neg (by rw[z];decide)]
 have un:∀e:PM.Tr,cu (xo (dc bs (List.map V.int vals))) e=wv bs vals e:=fun _=>rfl
 rw[un,un] at *
 refine cE (fun c1=>aM (s5.bo hT) (v:=.str (S sg)) (av (j:=2) rfl) ⟨rfl,cE (fun c2=>?_) (fun c2=>?_)⟩) (fun c1=>?_)
 ·refine cE (fun _=>yes ?_) (fun z=>absurd trivial z)
  rw[Yb (ea.mp c2)]
  exact decide_eq_true c1
 ·have T7:=T7 (Ih.resolve_left fun z=>c2 (ea.mpr z))
  refine cE (fun c3=>by lia) (fun c3=>cE (fun z=>by cases z) (fun _=>no ?_))
  rw[T7]
  simpa using c3
 ·refine cE (fun z=>by cases z) (fun _=>cE (fun c3=>aM (s5.bo hT) (v:=.str (S sg)) (av (j:=2) rfl) ⟨rfl,cE (fun c4=>yes ?_) (fun c4=>no ?_)⟩) (fun c3=>cE (fun z=>by cases z) (fun _=>no ?_)))
  ·rw[T7 (eb.mp c4)]
   exact decide_eq_true c3
  ·rw[Yb (Ih.resolve_right fun z=>c4 (eb.mpr z))]
   simpa using c1
  ·rcases Ih with z |z
   ·rw[Yb z]
    simpa using c1
   ·rw[T7 z]
    simpa using c3
theorem zR(T:Tx K mg t):bN P w K mg base dU 8 t.js t.jT ["program", "rows"] (PR K):=by
 have BN:=MY (P:=P) (w:=w) (base:=base) T
 have oV:=E6 (P:=P) (w:=w) (base:=base) T
 have pQ:=Oa (P:=P) (w:=w) (base:=base) T
 have iS:=BM (P:=P) (w:=w) (base:=base) T 4
 refine T.ip.F.mq sf (fun vs H Q E h=>?_) (fun fc A outer s H vs Q E hr h=>?_)
 ·obtain⟨_,_,_,_,_,_,rfl,_⟩:=h
  rfl
 obtain⟨pa,R,Dk,dys,pr,rows,rfl,Vg,dr,rp,rr,lr,tx,q⟩:=h
 have nd:=sf.nd
 have hu:=eT hr
 refine⟨_,[some (.ref pa),some (.ref R),none,none,none,none,none],(ai (aQ (i:=2) nd rfl (Ws rfl) vE)
 (ai (fh PassesOwn.never rfl (df (az BN (hr.mono (by first|decide|omega)) rfl T.ik.m T.ik.F.kp T.ik.b .nil aW (aa (pv 1) ah ag))) (sO rfl (bV (a9 (i:=3) nd rfl (Ws rfl)) (bV (a9 (i:=4) nd rfl (Ws rfl)) (bV (a9 (i:=5) nd rfl (Ws rfl)) i6))))
 (au (mh hu (pv 2) (pv 3) (pv 5) rfl)))
 (ai (aQ (i:=6) nd rfl (Ws rfl) (a7 (aa (az pQ (hr.mono (by first|decide|omega)) rfl T.dY.m T.dY.F.kp T.dY.b .nil aW (aa (pv 1) (aa (az oV (hr.mono (by first|decide|omega)) rfl T.eJ.m T.eJ.F.kp T.eJ.b .nil aW (aa (pv 1) ah ag)) (aa ak ah ba) bG) ag)) (aa (eS kP rfl T.m8 PyProof.Rows.Boot.«tuple» (aa (i7 (own:=["box"]) (ix:=[]) rfl (by rfl) (by rfl) (df (aD aR (pv 0) ak ao)) (fun _ _ _ _=>(a9 (i:=0) (by show List.Nodup (["box"]:List Str);decide +kernel) rfl (Ws rfl))) (fun _ _ _ _=>jJ) (fun _ _ _ _=>(aD (i8 (K:=K) rfl) (pv 0) ak ao))) ah mw)) ah bG) bG)))
 (au (aT (bF (aa (aD aR (pv 0) ak ao) (aa (az iS (hr.mono (by first|decide|omega)) rfl T.bZ.m T.bZ.F.kp T.bZ.b .nil aW (aa (aD aR (pv 0) ak ao) ah a8)) (aa (pv 2) (aa (pv 6) ah ag) ag) bG) a8))))))),rfl,?_⟩
 have line:zcz=2 ^ 24:=rfl
 unfold i0 at rp
 rw[Rep.bc] at rp
 obtain⟨_,pxs,e,NV,Dl⟩:=rp
 cases e
 rw[aP.aI] at Dl
 obtain⟨v1,t1,rfl,MG,Dl⟩:=Dl
 rw[aP.aI] at Dl
 obtain⟨v2,t2,rfl,Rb,Dl⟩:=Dl
 rw[aP.bh] at Dl
 subst Dl
 obtain⟨bb,_,rfl,_⟩:=Rep.bC.mp Rb
 obtain⟨B,_,rfl,_⟩:=Rep.bC.mp MG
 have NV:=pL.bo NV
 have T8:=MG
 have MG:=T8.mono pL
 have pw:=dr.ok.pw
 have um:=dr.um
 have sJ:(PG.aS pr.body 0).length=(PG.aC pr.body).length:=by
  have h1:=congrArg zaO (PG.eU pr.body 0)
  have h2:=lJ pr.body
  rw[Zb] at h1
  lia
 have sl:=lJ pr.body
 refine ax fun U1 fU=>?_
 walk_at "rd"
 intro wy Yc
 refine(fU _ _).mpr (ax fun U2 iu=>?_)
 clear fU
 have s1:=aq.new Yc (.dK [])
 have Z4:(upd H wy (.dK [])) wy=some (.dK []):=ae
 generalize upd H wy (.dK [])=H1 at *
 refine gZ fun U hU=>?_
 walk_at "rd"
 refine⟨R,rows,pr.body,rfl,rr.mono s1,lr,tx,fun l2 EE H2 s2 Gy y2 r2=>⟨l2,rfl,⟨EE,.of y2⟩,hU _ _ ?_⟩⟩
 clear hU
 have Yd:=s2 _ _ Z4
 have nl2:l2≠wy:=fun z=>by rw[z,Z4] at Gy;cases Gy
 have lu2:EE.length=(PG.aS pr.body 0).length:=by rw[r2.length,Zb]
 obtain⟨Pv,iT⟩:∃Pv:Nat->St->Hp->Prop,∀i σ Hx,Pv i σ Hx↔∃(z3 z4 z5:Option V) (aG:List (Key×V)),σ=[some (.ref pa),some (.ref R),some (.ref wy),z3,z4,z5,none]/\bA wy H2 Hx/\Hx wy=some (.dK aG)/\aG.length<=i/\∀j (hj:j<(PG.aS pr.body 0).length),j<i->∃y,cY aG (.inl (PG.aS pr.body 0)[j].1)=some (.ref y)/\b8 K H2 y ((PG.aS pr.body 0)[j].2.2.map V.int):=⟨_,fun _ _ _=>Iff.rfl⟩
 refine gX (K:=K) (a:=l2) (xs:=EE) Pv ((iT _ _ _).mpr ⟨_,_,_,[],rfl,.refl _ _,Yd,Wr _,fun j _ z=>absurd z (Nat.not_lt_zero _)⟩) (fun i σ Hx _ hv=>?_) ?_ ?_
 ·obtain⟨_,_,_,_,_,ux,_⟩:=(iT _ _ _).mp hv
  exact .of (ux _ _ nl2 y2)
 ·intro i y σ Hx hi hv
  obtain⟨z3,z4,z5,aG,rfl,ux,wyx,lk,get⟩:=(iT _ _ _).mp hv
  clear hv
  have li:i<(PG.aS pr.body 0).length:=by have:=(WD.mp hi).1;lia
  obtain⟨ya,yp,rfl,hx,hp⟩:=Bj r2 hi li
  refine⟨ya,_,rfl,hx.dk Yd ux,rfl,_,_,rfl,_,_,rfl,_,_,rfl,rfl,?_⟩
  simp only[zaN]
  walk_at "rd"
  refine⟨wy,_,rfl,.inl ⟨aG,.inl (PG.aS pr.body 0)[i].1,wyx,rfl,by lia,rfl⟩,?_⟩
  refine(iT _ _ _).mpr ⟨_,_,_,_,rfl,ux.put _,ae,zan (rN _ _ _) (by lia),fun j hj lt=>?_⟩
  rw[rq]
  by_cases e:j=i
  ·subst e
   rw[if_pos rfl]
   exact⟨yp,rfl,hp⟩
  ·obtain⟨_,e1,_⟩:=iD pr.body j (by lia)
   obtain⟨_,e2,_⟩:=iD pr.body i (by lia)
   have:=zbm.mp pw j i (by lia) (by lia) (by lia)
   rw[if_neg (fun z=>by have z:=Sum.inl.inj z;lia)]
   exact get j hj (by lia)
 intro σ H3 hv
 obtain⟨z3,z4,z5,aG,rfl,u3,wy3,_,get⟩:=(iT _ _ _).mp hv
 clear hv
 rw[lu2] at get
 have s3:aq H H3:=fun z o e=>u3 z o (aj e Yc) (s2 _ _ (s1 _ _ e))
 refine(iu _ _).mpr (ax fun U4 lZ=>?_)
 clear iu
 walk_at "rd"
 simp only[kD]
 walk_at "rd"
 refine⟨R,rows,pr.body,rfl,rr.mono s3,lr,tx,fun d5 H5 Z5=>?_⟩
 have s5:aq H3 H5:=by obtain⟨_,_,mi⟩:=Z5;exact mi.s
 refine⟨R,d5,rows,pr.body,H3,0,rfl,rr.mono (s3.trans s5),lr,tx,Z5,?_⟩
 have Vh:=s3.trans s5
 obtain⟨X5,hB,lB,hbx⟩:=oT MG
 have adK:=dr.ok.um
 refine aM (Vh.bo NV) (v:=.ref B) (av (j:=0) rfl) ⟨B,rfl,⟨_,Vh.seq hB⟩,fun D6 Rc=>?_⟩
 refine lL (K:=K) (r:=[]) (fun i=>V.int (pr.aK.getD i ⟨[],0,0⟩).first) (Vh.seq hB) (by lia) Rc (fun i x H2 hx s2 R hR=>?_) (fun H6 s6 h6=>?_)
 ·obtain⟨a,rfl,ha⟩:=hbx i x hx
  walk_at "rd"
  exact aM ((Vh.trans s2).bo ha) (v:=.int (pr.aK.getD i ⟨[],0,0⟩).first) (av (j:=2) rfl) hR
 rw[lB,j3 (fun b:PG.fW=>V.int b.first) ⟨[],0,0⟩ pr.aK] at h6
 refine⟨D6,_,rfl,.inl ⟨.of h6,fun t6 ht6 p6 l0=>(lZ _ _).mpr ?_⟩⟩
 clear lZ
 have e6:(pr.aK.map fun b=>V.int b.first)=(pr.aK.map (·.first)).map V.int:=by rw[za8];rfl
 rw[e6] at l0 ⊢
 rw[PG.Ip tx]
 have Z6:=aq.new ht6 (.tup ((pr.aK.map (·.first)).map V.int))
 have Ye:=aq.new l0 (.tup [V.int (PG.bt pr.body 0),V.ref t6])
 have Z7:=s5.trans (s6.trans (Z6.trans Ye))
 have st7:cm K (upd (upd H6 t6 (.tup ((pr.aK.map (·.first)).map V.int))) p6 (.tup [V.int (PG.bt pr.body 0),V.ref t6])) p6 (PG.bt pr.body 0) (pr.aK.map (·.first)):=⟨t6,.of ae,Ye.bo (.of ae)⟩
 clear Z6 Ye
 generalize upd (upd H6 t6 (.tup ((pr.aK.map (·.first)).map V.int))) p6 (.tup [V.int (PG.bt pr.body 0),V.ref t6])=HB at *
 have Ro:=s3.trans Z7
 walk_at "rd"
 refine aM (Ro.bo NV) (v:=.ref B) (av (j:=0) rfl) (aM (Ro.bo NV) (v:=.ref bb) (av (j:=1) rfl) ⟨bb,pr.body,oE Dk H,rfl,pL.trans Ro,Rb,by have:=dr.dep;lia,by lia,pw,fun d8 us8 H8 s8 hd8 l8 y8 r8 md Vi=>?_⟩)
 generalize e9:upd H8 md _=H9
 have s9:=gL e9 Vi
 have M0:=Ro.trans (s8.trans s9)
 have Z8:=Z7.trans (s8.trans s9)
 have Z9:=Gb (D:=Dk) M0
 have MJ:=M0 _ _ Vg
 have nmd:md≠Dk:=(aj ((Ro.trans s8) _ _ Vg) Vi).symm
 have nd8:d8≠Dk:=(aj (Ro _ _ Vg) hd8).symm
 have nwy:wy≠Dk:=(aj Vg Yc).symm
 refine q md H9 M0 ⟨⟨B,d8,wy,p6,us8,aG,.of (by rw[mH nmd];exact WX e9),T8.mono Z9,by rw[mH nd8];exact s9 _ _ y8,l8,r8.mono Z9,by rw[mH nwy];exact Z8 _ _ wy3,fun i hi=>?_,(st7.mono (s8.trans s9)).oE MJ⟩⟩
 obtain⟨y,e,k⟩:=get i hi hi
 exact⟨y,e,(Z8.bo (k.dk Yd u3)).oE MJ⟩
theorem iV(T:Tx K mg t):bN P w K mg base dU 5 t.de t.dQ ["made", "standing", "figure"] (Js K):=by
 have wY:=uT (P:=P) (w:=w) (base:=base) T
 refine T.bM.F.mq iU (fun vs H Q E h=>?_) (fun fc A outer s H vs Q E hr h=>?_)
 ·obtain⟨_,_,_,_,_,_,rfl,_⟩:=h
  rfl
 obtain⟨md,sa,fv,pr,⟨row,vals⟩,f,rfl,ma,dr,uQ,si,h0,Tb,q⟩:=h
 have nd:=iU.nd
 have hu:=eT hr
 refine⟨_,[some (.ref md),some (.ref sa),some fv,none],(ai (aQ (i:=3) nd rfl (Ws rfl) (aD aR (pv 1) ak ao))
 (au (aT (aD aR (az wY (hr.mono (by first|decide|omega)) rfl T.eY.m T.eY.F.kp T.eY.b .nil aW (aa (aD bj (pv 0) ak ao) (aa (cA hu (aD bj (pv 0) ak ao) (pv 3) (fun _ _=>rfl)) (aa (cA hu (aD bj (pv 0) ak ao) (pv 3) (fun _ _=>rfl)) (aa (aD aR (pv 1) ak ao) (aa (pv 2) ah ag) a8) a8) a8) a8)) ak ao)))),rfl,?_⟩
 obtain⟨i,hi,rfl⟩:=si.ok.row.resolve_left h0
 obtain⟨hf,ek,ew⟩:=iD pr.body i hi
 obtain⟨w0,w1⟩:=PG.iZ pr.body 0 _ (zah hf)
 rw[ew] at w1
 obtain⟨po,so⟩:=Jb si.ok.len dr.ok.nb si.ok.small (PG.kE pr.body _ dr.own (zah hi))
 have bp:∀b∈pr.aK,0<b.size:=fun b hb=>by have:=dr.size b hb;lia
 obtain⟨B,d8,wy,fa,ta,y,us,ys,aG,h1,h2,h3,g3,rt,Ra,h6,g6,hy⟩:=ma.row dr.ok hi hf
 obtain⟨va,Aq,AE⟩:=id uQ
 have Yf:(PG.aC pr.body)[i].wd=.ask->fv=.int f:=fun e=>Tb (by unfold cZ;rw[rP dr.ok.pw i hi];exact decide_eq_true e)
 simp only[Bu dr.ok hi hf] at q
 refine ax fun U1 fU=>?_
 walk_at "rd"
 refine aM Aq (v:=.int (PG.aC pr.body)[i].row) (av (j:=0) rfl) ((fU _ _).mpr ?_)
 clear fU
 walk_at "rd"
 refine bJ h1 (v:=.ref B) (av (j:=0) rfl) (bJ h1 (v:=.ref d8) (av (j:=1) rfl) ⟨d8,_,rfl,.inl ⟨_,.inl (PG.aC pr.body)[i].row,.inl h3,rfl,g3.symm⟩,bJ h1 (v:=.ref wy) (av (j:=2) rfl) ⟨wy,_,rfl,.inl ⟨_,.inl (PG.aC pr.body)[i].row,.inl h6,rfl,g6.symm⟩,aM Aq (v:=.ref va) (av (j:=1) rfl) ?_⟩⟩)
 refine⟨B,ta,y,va,fv,pr.aK,(PG.aC pr.body)[i],(PG.aS pr.body 0)[i].2.2,vals,f,rfl,h2,rt,hy,AE,dr.ok.nb,dr.ok.um,bp,si.ok.len,Yf,po,so,w0,w1,fun q1 sv H1 s1 k1 o1=>?_⟩
 exact aM k1 (v:=sv) (av (j:=0) rfl) (q sv H1 s1 o1)
theorem oW(T:Tx K mg t):bN P w K mg base dU 1 t.hC t.iO ["made", "standing"] (Mv K):=by
 refine T.c8.F.mq oR (fun vs H Q E h=>?_) (fun fc A outer s H vs Q E hr h=>?_)
 ·obtain⟨_,_,_,_,rfl,_⟩:=h
  rfl
 obtain⟨md,sa,pr,⟨row,vals⟩,rfl,ma,dr,uQ,si,q⟩:=h
 have nd:=oR.nd
 have hu:=eT hr
 refine⟨_,[some (.ref md),some (.ref sa)],(au (aT (GP (pd Nh (aD aR (pv 1) ak ao) ak (aU _)) (GO (pd b9 (aD aR (cA hu (aD bj (pv 0) ak ao) (aD aR (pv 1) ak ao) (fun _ _=>rfl)) ak ao) bq (aU _)))))),rfl,?_⟩
 obtain⟨va,Aq,AE⟩:=id uQ
 walk_at "rd"
 refine aM Aq (v:=.int row) (av (j:=0) rfl) ⟨rfl,?_⟩
 by_cases h0:row=0
 ·subst h0
  rw[rR dr.ok] at q
  exact(if_pos rfl).mpr q
 ·obtain⟨i,hi,rfl⟩:=si.ok.row.resolve_left h0
  obtain⟨hf,ek,ew⟩:=iD pr.body i hi
  obtain⟨B,d8,wy,fa,ta,y,us,ys,aG,h1,h2,h3,g3,rt,Ra,h6,g6,hy⟩:=ma.row dr.ok hi hf
  unfold cZ at q
  rw[rP dr.ok.pw i hi] at q
  refine(if_neg (fun z=>h0 (V.int.inj z))).mpr (bJ h1 (v:=.ref d8) (av (j:=1) rfl) (aM Aq (v:=.int (PG.aC pr.body)[i].row) (av (j:=0) rfl) ⟨d8,_,rfl,.inl ⟨_,.inl (PG.aC pr.body)[i].row,.inl h3,rfl,g3.symm⟩,aM Ra (v:=.str (hV (PG.aC pr.body)[i].wd)) (av (j:=0) rfl) ⟨rfl,?_⟩⟩))
  have e:decide (V.str (hV (PG.aC pr.body)[i].wd)=V.str (v9 "ask"))=decide ((PG.aC pr.body)[i].wd=.ask):=decide_eq_decide.mpr ⟨fun z=>(Dn _).mp (V.str.inj z),fun z=>congrArg V.str ((Dn _).mpr z)⟩
  rw[e]
  exact q
theorem tZ(T:Tx K mg t):bN P w K mg base dU 6 t.fI t.gD ["made", "standing"] (MF K):=by
 have kZ:=oW (P:=P) (w:=w) (base:=base) T
 have gB:=iV (P:=P) (w:=w) (base:=base) T
 refine T.dZ.F.mq lU (fun vs H Q E h=>?_) (fun fc A outer s H vs Q E hr h=>?_)
 ·obtain⟨_,_,_,_,rfl,_⟩:=h
  rfl
 obtain⟨md,Tf,pr,s0,rfl,ma,dr,Qj,Xn,adS,q⟩:=h
 have nd:=lU.nd
 have hu:=eT hr
 refine⟨_,[some (.ref md),some (.ref Tf),none],(ai (aQ (i:=2) nd rfl (Ws rfl) (wj (J:=kH)))
 (ai (lh PassesOwn.never (PW.pt (pw_and (aO DN (pv 1) gQ (aU _)) (pw_and1 (aO (tH (J:=kH) (Q9 hr)) (pv 1) (pv 2) rfl))))
 (ai (wm (J:=kH) (Q9 hr) (pv 2) (pv 1) xQ rfl)
 (ai (bE (PW.pt (pw_or (aO b9 (aD aR (pv 1) ak ao) ak (aU _)) (pw_or1 (nM (az kZ (hr.mono (by first|decide|omega)) rfl T.c8.m T.c8.F.kp T.c8.b .nil aW (aa (pv 0) (aa (pv 1) ah ag) ag))))))
 (au (aT (eS (mI (J:=kH) rfl) rfl T.oS PyProof.Rows.Boot.«list» (aa (pv 2) ah ag))))
 aZ)
 (au (aQ (i:=1) nd rfl (Ws rfl) (az gB (hr.mono (by first|decide|omega)) rfl T.bM.m T.bM.F.kp T.bM.b .nil aW (aa (pv 0) (aa (pv 1) (aa gQ ah ba) ag) ag)))))))
 (au (aT (eS (mI (J:=kH) rfl) rfl T.oS PyProof.Rows.Boot.«list» (aa (pv 2) ah ag)))))),rfl,?_⟩
 have line:zcz=2 ^ 24:=rfl
 refine ax fun U1 fU=>?_
 walk_at "rd"
 intro sn hsn ysn
 refine(fU _ _).mpr (ax fun U2 iu=>?_)
 clear fU
 have d1:=C5 (J:=kH) (P:=P) (w:=w) (K:=K) (H:=H) ysn
 have s1:=aq.new hsn (.ext (kG kH P w sn []))
 generalize upd H sn (.ext (kG kH P w sn []))=H1 at *
 refine zq fun Bd J9=>?_
 walk_at "rd"
 obtain⟨Iv,Dt⟩:∃Iv:Nat->St->Hp->Prop,∀m σ Hx,Iv m σ Hx↔∃(v:V) (o:Option PG.cg) (g:List PG.cg),σ=[some (.ref md),some v,some (.ref sn)]/\aq H Hx/\DS kH P w K Hx sn (qb g)/\lO K Hx o v/\(∀x,o=some x->dw pr x)/\g.Nodup/\(∀x∈g,dw pr x)/\PG.TI (cZ pr.body) (bO pr) s0 g o/\m=bB pr-g.length:=⟨_,fun _ _ _=>Iff.rfl⟩
 refine⟨Iv,⟨_,(Dt _ _ _).mpr ⟨_,some s0,[],rfl,s1,d1,⟨Tf,rfl,Qj.mono s1⟩,fun x e=>(by cases e;exact Xn),zbN,fun x hx=>(by cases hx),PG.TI.start,rfl⟩⟩,?_⟩
 intro m σ Hx hv
 obtain⟨v,o,g,rfl,sx,ds,ov,oi,ng,gi,ti,rfl⟩:=(Dt _ _ _).mp hv
 clear hv
 have fin:∀(H6:Hp) (g6:List PG.cg) (l:Addr) (us:List V),aq H H6->DS kH P w K H6 sn (qb g6)->PG.Seg (cZ pr.body) (bO pr) s0 g6->g6.Nodup->(∀x∈g6,dw pr x)->H6 l=none->Paired (fun (p:ky×V) (v:V)=>∃b,v=.ref b/\kH.on K H6 p.1 b) (qb g6) us->Q (.ref l) (upd H6 l (.lst us)):=by
  intro H6 g6 l us s6 d6 sg ng6 gi6 hl pu
  have sl:=aq.new hl (.lst us)
  exact q l us g6 _ (s6.trans sl) (s6.free hl) ae ((Jt pu).mono sl) sg gi6 (iF ng6 gi6)
 have out:(o=none\/∃x∈g,o=some x)->U2 [some (.ref md),some v,some (.ref sn)] Hx:=fun ho=>by
  refine(iu _ _).mpr ?_
  clear iu
  walk_at "rd"
  exact⟨sn,_,rfl,ds,fun l us hl pu=>fin Hx g l us sx ds (ti.fin ho) ng gi hl pu⟩
 walk_at "rd"
 cases o with
 |none=>
  have ov:v=.cD:=ov
  subst ov
  exact cE (fun _=>out (.inl rfl)) (fun z=>absurd rfl z)
 |some x=>
  obtain⟨sa,rfl,uQ⟩:=ov
  have si:=oi x rfl
  refine cE (fun z=>by cases z) (fun _=>?_)
  refine⟨sn,sa,_,_,rfl,rfl,ds,yv uQ,?_⟩
  rw[Bt]
  by_cases hx:x∈g
  ·exact(if_neg (by rw[decide_eq_true hx];decide)).mpr (out (.inr ⟨x,hx,rfl⟩))
  refine(if_pos (by rw[decide_eq_false hx];decide)).mpr ?_
  have Vj:(g++[x]).Nodup:=zbS.mpr ⟨ng,by simp,fun a ha b hb=>by rw[zac.mp hb];exact fun z=>hx (z▸ha)⟩
  have Vk:∀y∈g++[x],dw pr y:=fun y hy=>by
   rcases zap.mp hy with hy |hy
   ·exact gi y hy
   ·rw[zac.mp hy];exact si
  have um:=iF Vj Vk
  rw[Zc,zal] at um
  refine⟨Iv (bB pr-(g++[x]).length),fun σ' H' h=>⟨_,by rw[Zc,zal];lia,h⟩,?_⟩
  refine J9 _ _ _ (ax fun V1 B3=>?_)
  clear J9 iu out
  obtain⟨φ,es⟩:=ds.uM
  walk_at "rd"
  refine⟨sn,sa,_,_,rfl,rfl,ds,yv uQ,by rw[qb,Zb];lia,fun H6 d6 e6=>(B3 _ _).mpr (ax fun V2 GF=>?_)⟩
  clear B3
  rw[Ga hx] at d6
  obtain⟨φ',rfl⟩:=e6
  have u6:bA sn Hx (upd Hx sn (.ext φ')):=(bA.refl _ _).put _
  have s6:aq H (upd Hx sn (.ext φ')):=fun z o e=>u6 z o (aj e hsn) (sx z o e)
  have Ka:=uQ.ext es u6
  have ma6:=ma.mono s6
  clear u6
  generalize upd Hx sn (.ext φ')=H6 at *
  obtain⟨va,Aq,AE⟩:=id Ka
  walk_at "rd"
  refine aM Aq (v:=.int x.1) (av (j:=0) rfl) ⟨rfl,?_⟩
  by_cases h0:x.1=0
  ·refine cE (fun _=>?_) (fun z=>absurd (by rw[h0]) z)
   exact⟨sn,_,rfl,d6,fun l us hl pu=>fin H6 _ l us s6 d6 (ti.stop (.inl h0)) Vj Vk hl pu⟩
  refine cE (fun z=>absurd (V.int.inj z) h0) (fun _=>?_)
  refine⟨md,sa,pr,x,rfl,ma6,dr,Ka,si,?_⟩
  cases ha:cZ pr.body x.1 with
  |true=>
   refine⟨_,rfl,(if_pos rfl).mpr ?_⟩
   exact⟨sn,_,rfl,d6,fun l us hl pu=>fin H6 _ l us s6 d6 (ti.stop (.inr ha)) Vj Vk hl pu⟩
  |false=>
   refine⟨_,rfl,(if_neg (by decide)).mpr ((GF _ _).mpr ?_)⟩
   clear GF
   walk_at "rd"
   refine⟨md,sa,.cD,pr,x,0,rfl,ma6,dr,Ka,si,h0,fun z=>(by rw[ha] at z;cases z),fun v7 H7 s7 o7=>?_⟩
   exact(Dt _ _ _).mpr ⟨v7,_,g++[x],rfl,s6.trans s7,d6.mono s7,o7,fun y hy=>si.next dr h0 hy,Vj,Vk,ti.push h0 ha,rfl⟩
theorem xC(T:Tx K mg t):bN P w K mg base dU 10 t.iJ t.jb ["first", "led_from"] (Bx P w K t.aV (jG aY) "first_inputs.<locals>.<lambda>"):=by
 have yJ:=Ds (P:=P) (w:=w) (base:=base) T
 refine T.gH.F.mq qd (fun vs H Q E h=>?_) (fun fc A outer s H vs Q E hr h=>?_)
 ·obtain⟨_,_,_,_,_,_,_,rfl,_⟩:=h
  rfl
 obtain⟨sa,fo,cc,ch,lP,pr,s0,rfl,co,dr,uQ,si,lam,uG,q⟩:=h
 have nd:=qd.nd
 have hu:=eT hr
 refine⟨_,[some (.ref sa),some (.ref fo),none,none,none,none,none,none,none],(ai (aQ (i:=2) nd rfl (Ws rfl) (wj (J:=kH)))
 (ai (aQ (i:=3) nd rfl (Ws rfl) (az yJ (hr.mono (by first|decide|omega)) rfl T.gI.m T.gI.F.kp T.gI.b .nil aW (aa (pv 0) (aa (pv 1) (aa (a7 ah) (aa (pv 2) ah ag) dI) ag) ag)))
 (ai (lh PassesOwn.never (AF (pv 3) (fun _=>rfl))
 (ai (aQ (i:=4) nd rfl (Ws rfl) (bF ah))
 (ai (fh PassesOwn.never rfl (df (pv 3)) (sO rfl (bV (a9 (i:=5) nd rfl (Ws rfl)) (bV (a9 (i:=6) nd rfl (Ws rfl)) i6)))
 (au (fh PassesOwn.never rfl (Em rfl T.kN (aa (pv 6) ah ag)) (sO rfl (bV (a9 (i:=7) nd rfl (Ws rfl)) (bV (a9 (i:=8) nd rfl (Ws rfl)) i6)))
 (au (cw (fV Y8 zbK zbL sR (pv 4) (aa (az yJ (hr.mono (by first|decide|omega)) rfl T.gI.m T.gI.F.kp T.gI.b .nil aW (aa (pv 8) (aa (pv 1) (aa (bf vh (pv 5) (a7 (aa (pv 7) ah ag))) (aa (pv 2) ah ag) jw) ag) ag)) ah bG)))))))
 (au (aQ (i:=3) nd rfl (Ws rfl) (pv 4))))))
 (au (aT (pv 2)))))),rfl,?_⟩
 have line:zcz=2 ^ 24:=rfl
 have li:∀s,dw pr s->∀x∈c5 pr s,dw pr x:=fun s h=>vk dr h
 refine ax fun U1 fU=>?_
 walk_at "rd"
 intro D hD yD
 refine(fU _ _).mpr (ax fun U2 iu=>?_)
 clear fU
 have d1:=C5 (J:=kH) (P:=P) (w:=w) (K:=K) (H:=H) yD
 have s1:=aq.new hD (.ext (kG kH P w D []))
 generalize upd H D (.ext (kG kH P w D []))=H1 at *
 walk_at "rd"
 intro p hp
 generalize e2:upd H1 p _=H2
 have s2:=gT e2 hp
 have yp:H2 p=some (.tup []):=by rw[<- e2];exact ae
 clear e2
 have M1:=s1.trans s2
 obtain⟨T9,Yg,Yh⟩:=wz li (m:=0) (bB pr+1) [] s0 [] .nil si (Wr _)
 refine⟨sa,fo,D,p,cc,ch,lP,pr,s0,[],[],[],rfl,co.mono M1,dr,uQ.mono M1,si,lam.mono (vm M1 hD),.of yp,d1.mono s2,.nil,zbN,fun x hx=>(by cases hx),uG,fun L us aG H3 u3 hL yL d3 UZ ak3=>(iu _ _).mpr (ax fun U3 jW=>?_)⟩
 clear iu
 have s03:aq H H3:=((bA.of M1).trans u3).same hD
 obtain⟨φ1,eD2⟩:=(d1.mono s2).uM
 have B2:b8 K H3 p (([]:List Int).map V.int):=b8.rQ (.of yp) eD2 u3
 have as3:=eM.of1 (g:=[]) ak3 B2
 refine zq fun Bd J9=>?_
 walk_at "rd"
 obtain⟨Iv,Dt⟩:∃Iv:Nat->St->Hp->Prop,∀m σ Hx,Iv m σ Hx↔∃(z4 z5 z6 z7 z8:Option V) (L:Addr) (us:List V) (as:List (List Int×List PG.cg)) (f:jA) (aG:List (ky×V)) (lv:Nat),σ=[some (.ref sa),some (.ref fo),some (.ref D),some (.ref L),z4,z5,z6,z7,z8]/\aq H Hx/\DS kH P w K Hx D aG/\ff K Hx f aG/\yw (dw pr) f/\Hx L=some (.lst us)/\eM K Hx as us/\uO (dw pr) lv as/\iG pr s0=uN (c5 pr) (bB pr+1) (bB pr+2-lv) f as/\(as≠[]->lv<f.length)/\m=bB pr+1-lv:=⟨_,fun _ _ _=>Iff.rfl⟩
 refine⟨Iv,⟨_,(Dt _ _ _).mpr ⟨none,none,none,none,none,L,us,_,_,aG,0,rfl,s03,d3,UZ,T9,yL,as3,Yg,rfl,fun h=>?_,rfl⟩⟩,?_⟩
 ·have:=zaY.mpr h
  rw[zak] at Yh
  lia
 clear T9 Yg Yh as3 B2 eD2 s03 ak3 UZ d3 yL hL u3 M1 yp s2 d1 s1 hp
 intro m σ Hx hv
 obtain⟨z4,z5,z6,z7,z8,L,us,as,f,aG,lv,rfl,sx,dx,fx,ok,yL,Yi,Of,ef,hlv,rfl⟩:=(Dt _ _ _).mp hv
 clear hv
 have sJ:as.length=us.length:=Paired.length Yi
 have um:f.length<=bB pr:=by
  have:=iF ok.nd (fun x hx=>by obtain⟨y,hy,rfl⟩:=zar.mp hx;exact ok.B1 y hy)
  rwa [Zb] at this
 walk_at "rd"
 cases as with
 |nil=>
  have e0:us=[]:=zaC.mp sJ.symm
  subst e0
  refine⟨false,.inl ⟨_,.of yL,rfl⟩,(if_neg (by decide)).mpr ((jW _ _).mpr ?_)⟩
  walk_at "rd"
  rw[wA] at ef
  rw[ef] at q
  exact q D aG Hx sx hD dx fx
 |cons a0 QL=>
 have za:(a0::QL)≠[]:=by simp
 have hlv:=hlv za
 obtain⟨u0,Og,rfl⟩:∃u0 Og,us=u0::Og:=by cases us with |nil=>cases sJ |cons a b=>exact⟨_,_,rfl⟩
 refine⟨true,.inl ⟨_,.of yL,rfl⟩,(if_pos rfl).mpr ?_⟩
 have ef:iG pr s0=uN (c5 pr) (bB pr+1) (bB pr+2-(lv+1)) (dH (c5 pr) (bB pr+1) f (cM (a0::QL))).1 (dH (c5 pr) (bB pr+1) f (cM (a0::QL))).2:=by
  rw[ef,show bB pr+2-lv=(bB pr+2-(lv+1))+1 by lia,uN,if_neg za]
 generalize a0::QL=as at *
 generalize u0::Og=us at *
 refine⟨Iv (bB pr+1-(lv+1)),fun σ' H' h=>⟨_,by lia,h⟩,?_⟩
 refine J9 _ _ _ (ax fun V1 B3=>?_)
 clear J9 jW
 walk_at "rd"
 intro b hb
 refine(B3 _ _).mpr (ax fun V2 GF=>?_)
 clear B3
 have sb:=aq.new hb (.lst [])
 have yb:(upd Hx b (.lst [])) b=some (.lst []):=ae
 have yL1:(wo (upd Hx b (.lst [])) b) L=some (.lst us):=by rw[oG];exact vm (aq.refl _) hb _ _ yL
 have as1:eM K (wo (upd Hx b (.lst [])) b) as us:=by rw[oG];exact Yi.mono (vm (aq.refl _) hb)
 have FT:H b=none:=sx.free hb
 have dx1:=dx.mono sb
 have fx1:=fx.imp fun a xs h=>sb.bo h
 have sx1:=sx.trans sb
 have Qr:D≠b:=by obtain⟨φ,e⟩:=dx.uM;exact aj e hb
 generalize upd Hx b (.lst [])=H1 at *
 clear dx fx sx Yi yL sb hb
 refine gZ fun U hU=>?_
 walk_at "rd"
 refine⟨⟨us,.of (ur _ _ yL1)⟩,hU _ _ ?_⟩
 clear hU
 have gok:∀i,yw (dw pr) (dH (c5 pr) (bB pr+1) f (cM (as.take i))).1/\uO (dw pr) (lv+1) (dH (c5 pr) (bB pr+1) f (cM (as.take i))).2/\f.length+(dH (c5 pr) (bB pr+1) f (cM (as.take i))).2.length<=(dH (c5 pr) (bB pr+1) f (cM (as.take i))).1.length:=fun i=>rV li _ _ ok (tL (m:=lv) ⟨fun a ha=>Of.B1 a (zbo ha),fun a ha=>Of.len a (zbo ha)⟩)
 obtain⟨Pv,iT⟩:∃Pv:Nat->St->Hp->Prop,∀i σ H5,Pv i σ H5↔∃(z5 z6 z7 z8:Option V) (oX:List V) (bs:List (List Int×List PG.cg)) (f5:jA) (oY:List (ky×V)),σ=[some (.ref sa),some (.ref fo),some (.ref D),some (.ref L),some (.ref b),z5,z6,z7,z8]/\aq H H5/\DS kH P w K H5 D oY/\ff K H5 f5 oY/\(wo H5 b) L=some (.lst us)/\eM K (wo H5 b) as us/\H5 b=some (.lst oX)/\eM K (wo H5 b) bs oX/\dH (c5 pr) (bB pr+1) f (cM (as.take i))=(f5,bs):=⟨_,fun _ _ _=>Iff.rfl⟩
 refine gX (K:=K) (a:=L) (xs:=us) Pv ((iT _ _ _).mpr ⟨_,_,_,_,[],[],f,aG,rfl,sx1,dx1,fx1,yL1,as1,yb,.nil,rfl⟩) (fun i σ H5 _ hv=>?_) ?_ ?_
 ·obtain⟨_,_,_,_,_,_,_,_,_,_,_,_,Ks,_⟩:=(iT _ _ _).mp hv
  exact .of (ur _ _ Ks)
 ·intro i y σ H5 hi hv
  obtain⟨z5,z6,z7,z8,oX,bs,f5,oY,rfl,s5,d5,GI,Ks,Vl,Vm,Vn,e5⟩:=(iT _ _ _).mp hv
  clear hv
  obtain⟨a,ha,ta,ga,la,Kt,rfl,q1,q2,q3,q4⟩:=i4 Vl hi
  have Vo:a∈as:=zaD ha
  have hll:a.2.length=Kt.length:=Paired.length q4
  refine⟨ta,_,rfl,ur.bo q1,rfl,_,_,rfl,_,_,rfl,rfl,?_⟩
  simp only[zaN]
  refine Jv fun U hU=>?_
  walk_at "rd"
  refine⟨la,rfl,⟨Kt,.of (ur _ _ q3)⟩,hU _ _ ?_⟩
  clear hU
  obtain⟨Pw,nI⟩:∃Pw:Nat->St->Hp->Prop,∀j σ H6,Pw j σ H6↔∃(z7 z8:Option V) (oX:List V) (bs:List (List Int×List PG.cg)) (f6:jA) (nj:List (ky×V)),σ=[some (.ref sa),some (.ref fo),some (.ref D),some (.ref L),some (.ref b),some (.ref ga),some (.ref la),z7,z8]/\aq H H6/\DS kH P w K H6 D nj/\ff K H6 f6 nj/\(wo H6 b) L=some (.lst us)/\eM K (wo H6 b) as us/\H6 b=some (.lst oX)/\eM K (wo H6 b) bs oX/\b8 K (wo H6 b) ga (a.1.map V.int)/\(wo H6 b) la=some (.lst Kt)/\fH K (wo H6 b) a.2 Kt/\dH (c5 pr) (bB pr+1) f (cM (as.take i)++kJ a j)=(f6,bs):=⟨_,fun _ _ _=>Iff.rfl⟩
  refine AV (K:=K) (a:=la) (xs:=Kt) Pw ((nI _ _ _).mpr ⟨_,_,oX,bs,f5,oY,rfl,s5,d5,GI,Ks,Vl,Vm,Vn,q2,q3,q4,by rw[show kJ a 0=[] from rfl,zab];exact e5⟩) ?_ ?_ ?_
  ·intro j σ H6 _ hv
   obtain⟨_,_,_,_,_,_,_,_,_,_,_,_,_,_,_,yl,_⟩:=(nI _ _ _).mp hv
   exact .of (ur _ _ yl)
  ·intro j x σ H6 pp hx hv BG
   clear q1 q2 q3 q4 e5 Vn Vm Vl Ks GI d5 s5
   obtain⟨z7,z8,oX,bs,f6,nj,rfl,s6,d6,Yj,Vp,Yk,Vq,Vr,q2,q3,q4,e6⟩:=(nI _ _ _).mp hv
   clear hv
   have lj:j<a.2.length:=by have:=(WD.mp hx).1;lia
   obtain⟨t1,MV,xa,rfl,Aq⟩:=i4 q4 hx
   have Ua:=rV li (n:=bB pr+1) (m:=lv+1) (cM (as.take i)++kJ a j) f ok fun x hx=>by
    rcases zap.mp hx with hx |hx
    ·exact tL (m:=lv) ⟨fun a ha=>Of.B1 a (zbo ha),fun a ha=>Of.len a (zbo ha)⟩ x hx
    ·exact Dc (m:=lv) (Of.B1 a Vo) (Of.len a Vo) (by lia) x hx
   rw[e6] at Ua
   obtain⟨QM,_,ln6⟩:=Ua
   have QM:yw (dw pr) f6:=QM
   have ln6:f.length+bs.length<=f6.length:=ln6
   have ad1:f6.length<=bB pr:=by
    have:=iF QM.nd (fun x hx=>by obtain⟨y,hy,rfl⟩:=zar.mp hx;exact QM.B1 y hy)
    rwa [Zb] at this
   have s7:=aq.new BG (.tup [.int j,.ref xa])
   have Rp:(upd H6 pp (.tup [.int j,.ref xa])) pp=_:=ae
   generalize upd H6 pp (.tup [.int j,.ref xa])=H7 at *
   refine⟨pp,_,rfl,.of Rp,rfl,?_⟩
   refine⟨_,_,rfl,_,_,rfl,rfl,?_⟩
   simp only[zaN]
   walk_at "rd"
   refine⟨.inl ⟨rfl,_,.of (s7 _ _ Vq)⟩,fun p hp=>?_⟩
   have s8:=aq.new hp (.tup [.int j])
   have yp:(upd H7 p (.tup [.int j])) p=_:=ae
   generalize upd H7 p (.tup [.int j])=H8 at *
   have la1:=Of.len a Vo
   refine⟨ga,p,_,_,rfl,rfl,(s7.trans s8).bo (ur.bo q2),.of yp,by rw[Zb,zal];lia,fun gp H9 s9 Oh=>?_⟩
   have Rq:=s7.trans (s8.trans s9)
   have M0:=s6.trans Rq
   have Oh:b8 K H9 gp ((a.1++[((j:Nat):Int)]).map V.int):=by rw[zae];exact Oh
   clear s7 s8 s9 yp hp Rp BG
   have si1:dw pr t1:=Of.B1 a Vo t1 (zaD MV)
   have d9:=d6.mono Rq
   have f9a:=Yj.imp (H':=H9) fun a xs h=>Rq.bo h
   have eb9:=Rq _ _ Vq
   refine⟨xa,fo,D,gp,cc,ch,lP,pr,t1,f6,a.1++[((j:Nat):Int)],nj,rfl,co.mono M0,dr,(Aq.mono ur).mono Rq,si1,lam.mono (vm M0 hD),Oh,d9,f9a,QM.nd,QM.B1,uG,fun L9 Yl Ym HA uA hL9 yL9 dA fA akA=>?_⟩
   obtain⟨φ9,eD9⟩:=d9.uM
   have Vs:HA b=some (.lst oX):=uA _ _ Qr.symm eb9
   have s0A:aq H HA:=((bA.of M0).trans uA).same hD
   obtain⟨T9,Yg,Yh⟩:=wz li (m:=lv+1) (bB pr+1) f6 t1 (a.1++[((j:Nat):Int)]) QM si1 (by rw[Zc,zal];lia)
   have ad6:(lS (c5 pr) (bB pr+1) f6 t1 (a.1++[((j:Nat):Int)])).1.length<=bB pr:=by
    have:=iF T9.nd (fun x hx=>by obtain⟨y,hy,rfl⟩:=zar.mp hx;exact T9.B1 y hy)
    rwa [Zb] at this
   have asA:=eM.of akA (Oh.rQ eD9 uA) (by rw[eb9];simp) Vs
   have lb:bs.length=oX.length:=Paired.length Vr
   have l9:=Paired.length asA
   refine⟨b,L9,oX,Yl,rfl,rfl,Vs,yL9,by lia,?_⟩
   have uB:bA b HA (upd HA b (.lst (oX++Yl))):=(bA.refl _ _).put _
   have Rr:(wo H9 b) D=some (.ext φ9):=by rw[eW Qr];exact eD9
   have sw:aq (wo H6 b) (wo H9 b):=MA Rq
   have uw:bA D (wo H9 b) (wo HA b):=Qb uA
   refine(nI _ _ _).mpr ⟨_,_,oX++Yl,bs++ny (a.1++[((j:Nat):Int)]) (lS (c5 pr) (bB pr+1) f6 t1 (a.1++[((j:Nat):Int)])).2,_,Ym,rfl,fun z o e=>uB z o (aj e FT) (s0A z o e),dA.Jh (fun o h=>uB _ _ Qr h) (fun c ys h=>h.lE Vs uB),fA.imp (fun a xs h=>h.lE Vs uB),?_,?_,ae,?_,?_,?_,?_,?_⟩
   ·rw[oG]
    exact uw _ _ (bR (sw _ _ Vp) Rr (by intro z;cases z)) (sw _ _ Vp)
   ·rw[oG]
    exact(Yk.mono sw).ext Rr uw
   ·rw[oG]
    exact mK ((Vr.mono sw).ext Rr uw) asA
   ·rw[oG]
    exact(sw.bo q2).rQ Rr uw
   ·rw[oG]
    exact uw _ _ (bR (sw _ _ q3) Rr (by intro z;cases z)) (sw _ _ q3)
   ·rw[oG]
    exact kI (q4.mono sw) fun a row vals h=>h.ext Rr uw
   ·rw[zr,<- zaH,tJ,e6]
    have:a.2.getD j (0,[])=t1:=by rw[Y7,MV];rfl
    simp only[this,tK]
  ·intro σ H6 hv
   obtain⟨z7,z8,oX,bs,f6,nj,rfl,s6,d6,Yj,Vp,Yk,Vq,Vr,q2,q3,q4,e6⟩:=(nI _ _ _).mp hv
   refine(iT _ _ _).mpr ⟨_,_,_,_,oX,bs,f6,nj,rfl,s6,d6,Yj,Vp,Yk,Vq,Vr,?_⟩
   rw[zbT,ha,zbH,By,hll]
   exact e6
 ·intro σ H5 hv
  obtain⟨z5,z6,z7,z8,oX,bs,f5,oY,rfl,s5,d5,GI,Ks,Vl,Vm,Vn,e5⟩:=(iT _ _ _).mp hv
  refine(GF _ _).mpr ?_
  walk_at "rd"
  have g5:=gok us.length
  rw[<- sJ,za3] at e5 g5
  rw[e5] at g5 ef
  obtain⟨QN,ao5,Vt⟩:=g5
  have Vt:f.length+bs.length<=f5.length:=Vt
  refine(Dt _ _ _).mpr ⟨_,_,_,_,_,b,oX,bs,f5,oY,lv+1,rfl,s5,d5,GI,QN,Vm,Vn.mono ur,ao5,ef,fun h=>?_,rfl⟩
  have:=zaY.mpr h
  lia
theorem uU(T:Tx K mg t){c Pt:Addr}(B:jP K mg base c Pt)(hc:wx K t.cf c) :
 bN P w K mg base dU 11 t.cf t.hX ["chart"] (Gh P w K t.aV "first_inputs.<locals>.<lambda>" Pt (C9 (jG aY))):=by
 have zS:=xC (P:=P) (w:=w) (base:=base) T
 refine T.eX.F.okC nC hc (fun vs H Q E h=>?_) (fun A outer s H vs Q E hr h=>?_)
 ·obtain⟨_,_,_,rfl,_⟩:=h
  rfl
 obtain⟨ch,pr,ps,rfl,co,dr,uG,JC,tok,q⟩:=h
 have nd:=nC.nd
 have LA:∀pins σ (H':Hp) (s':zcB) e Fn a o,Inv (mf dU P w K mg base ["chart"] "first_inputs" (aN aY) t.cf (.ref c) A outer s H E).B6 pins σ H' s'->H' a=none->s'.heap.get? a=some o->dU (mf dU P w K mg base ["chart"] "first_inputs" (aN aY) t.cf (.ref c) A outer s H E).B6.stack (upd H' a (jt a o)) s' E0 e Fn->(mf dU P w K mg base ["chart"] "first_inputs" (aN aY) t.cf (.ref c) A outer s H E).B6.xe e Fn:=fun _ _ _ _ _ _ _ _ _ _ _ h=>h.elim
 refine⟨_,[some (.ref ch)],(au (aT (JB (i:=0) (y:="chart") zS (hr.mono (by first|decide|omega)) rfl T.gH.m T.gH.F.kp T.gH.b LA (aa (j7 (pv 0) rfl) (aa (PX (y:="chart") B rfl rfl ⟨_,rfl,rfl⟩ rfl) ah rfl) Eg) rfl rfl rfl))),rfl,?_⟩
 walk_at "rd"
 simp only[JA]
 walk_at "rd"
 obtain⟨dx,nl,sd,fa,va,stt,wy,us,ws,h1,h2,h3,h4,h5,h6,h7,h8,h9,F3,GC,KO⟩:=co.at_
 have uQ:cm K H fa (PG.bt pr.body 0) (pr.aK.map (·.first)):=⟨va,.of h5,.of (by rw[za8];exact h6)⟩
 refine⟨ch,_,dx,_,.ref fa,rfl,h1,T.dv,T.iR,rfl,?_⟩
 refine⟨ps,JC,tok,fun fo cc c' pm uq oc vs Ge tk H1 ecc S2 kp only yfo yc' QY Uw Vu Yn=>⟨_,rfl,fun cc2 lP uc Yo xc Yp ruc=>?_⟩⟩
 cases ecc.symm.trans Yo
 have u1:bA Pt H H1:=fun b o n e=>kp b o n e
 have k1:Kp H H1:=Kp.of u1 JC
 have sc:=aq.new xc (jt cc lP)
 have Vv:(upd H1 cc (jt cc lP)) cc=some (jt cc lP):=ae
 have Yq:=sc _ _ Vu
 have Yr:H cc=none:=by
  cases y:H cc with
  |none=>rfl
  |some o=>
   by_cases z:cc=Pt
   ·rw[z,Vu] at xc
    cases xc
   ·rw[kp cc o z y] at xc
    cases xc
 have lam:Gg "chart" "first_inputs.<locals>.<lambda>" (jG aY) (upd H1 cc (jt cc lP)) fo cc lP (.ref ch):=⟨c',pm,uq,uc,oc,vs,tk,sc _ _ yfo,sc _ _ yc',QY,Uw,Vv,Yp,ruc⟩
 refine⟨fa,fo,cc,ch,lP,pr,(PG.bt pr.body 0,pr.aK.map (·.first)),rfl,(co.kp k1).mono sc,dr,(uQ.kp k1).mono sc,dw.first dr,lam,uG,fun D aG H3 s3 hD d3 f3=>⟨s3 _ _ Vv,?_⟩⟩
 have nD:D≠cc:=fun z=>by rw[z,Vv] at hD;cases hD
 have Ub:=s3 _ _ Vv
 have uw:bA cc H3 (wo H3 cc):=vn
 have Rj:H D=none:=by
  rw[aw nD] at hD
  cases y:H D with
  |none=>rfl
  |some o=>
   by_cases z:D=Pt
   ·rw[z,Vu] at hD
    cases hD
   ·rw[kp D o z y] at hD
    cases hD
 refine q D aG (wo H3 cc) Ge (fun b o n e=>?_) Rj (d3.other Ub nD uw) (f3.imp fun a xs h=>h.rQ Ub uw) ?_ ?_
 ·rw[eW (aj e Yr)]
  exact s3 _ _ (sc _ _ (kp b o n e))
 ·rw[eW (aj Vu xc)]
  exact s3 _ _ Yq
 ·refine Yn.kp fun b o e _=>?_
  rw[eW (aj e xc)]
  exact s3 _ _ (sc _ _ e)
theorem zU(T:Tx K mg t){c Pt:Addr}(B:jP K mg base c Pt)(hc:wx K t.cf c)(eK:bN P w K mg base dU 1 t.eB t.eC ["body", "behind"] (rM K))(fJ:bN P w K mg base dU 6 t.cB t.cI ["body"] (pJ K 4))(Dj:bN P w K mg base dU 7 t.qL t.pN ["program"] (CL K)) :
 bN P w K mg base dU 12 t.jo t.jQ ["program"] (ME K "first_inputs.<locals>.<lambda>" Pt (C9 (jG aY))):=by
 have zV:=xq (P:=P) (w:=w) (base:=base) T eK fJ Dj
 have wZ:=uU (P:=P) (w:=w) (base:=base) T B hc
 refine T.eI.F.mq rY (fun vs H Q E h=>?_) (fun fc A outer s H vs Q E hr h=>?_)
 ·obtain⟨_,_,_,rfl,_⟩:=h
  rfl
 obtain⟨v,pr,ps,rfl,rp,dr,uG,JC,tok,q⟩:=h
 have nd:=rY.nd
 refine⟨_,[some v],(au (aT (eS (mI (J:=kH) rfl) rfl T.oS PyProof.Rows.Boot.«list» (aa (az wZ (hr.mono (by first|decide|omega)) rfl T.eX.m T.eX.F.kp T.eX.b .nil aW (aa (Ln T.wJ zV (hr.mono (by first|decide|omega)) rfl T.JR T.zz .nil aW (aa (pv 0) ah ag)) ah bG)) ah bG)))),rfl,?_⟩
 walk_at "rd"
 intro p dx hp UQ ne
 have s1:aq H (upd (upd H dx (.own p)) p (.ins t.aV dx [])):=(aq.new UQ _).trans (aq.new (by rw[aw ne.symm];exact hp) _)
 refine⟨p,dx,v,pr,rfl,ae,by rw[aw ne];exact ae,rp.mono s1,dr.dep,dr.um,dr.ok.pw,dr.ok.nb,dr.ok.um,fun H2 u2 co=>⟨rfl,?_⟩⟩
 have s2:aq H H2:=((bA.of s1).trans u2).same hp
 refine⟨p,pr,ps,rfl,co,dr,uG,s2 _ _ JC,tok.kp (.same s2),fun D aG H3 ps3 u3 hD d3 f3 y3 Ys=>⟨D,aG,rfl,d3,fun l us hl pu=>?_⟩⟩
 have u03:bA Pt H H3:=(bA.of s2).trans u3
 have sl:=aq.new hl (.lst us)
 have Xu:H l=none:=by
  cases y:H l with
  |none=>rfl
  |some o=>rw[u03 l o (aj y3 hl).symm y] at hl;cases hl
 exact q l us _ ps3 (u03.trans (.of sl)) Xu ae ((zv f3 pu).mono sl) (sl _ _ y3) (Ys.kp (.same sl))
theorem xD(T:Tx K mg t):bN P w K mg base dU 7 t.iP t.jf ["made"] (JL P w K):=by
 have kZ:=oW (P:=P) (w:=w) (base:=base) T
 have gB:=iV (P:=P) (w:=w) (base:=base) T
 have uV:=tZ (P:=P) (w:=w) (base:=base) T
 refine T.gM.F.mq qi (fun vs H Q E h=>?_) (fun fc A outer s H vs Q E hr h=>?_)
 ·obtain⟨_,_,rfl,_⟩:=h
  rfl
 obtain⟨md,pr,rfl,ma,dr,uG,q⟩:=h
 have nd:=qi.nd
 have hu:=eT hr
 refine⟨_,[some (.ref md),none,none,none,none,none,none,none],(ai (aQ (i:=1) nd rfl (Ws rfl) (wj (J:=kH)))
 (ai (aQ (i:=2) nd rfl (Ws rfl) (bF (aa (a7 (aa (a7 ah) (aa (aD bj (pv 0) ak ao) ah a8) dI)) ah dI)))
 (ai (lh PassesOwn.never (aO (jY (eT hr)) (pv 2) (bF ah) (aU _))
 (ai (aQ (i:=3) nd rfl (Ws rfl) (bF ah))
 (ai (fh PassesOwn.never rfl (df (pv 2)) (sO rfl (bV (a9 (i:=4) nd rfl (Ws rfl)) (bV (a9 (i:=5) nd rfl (Ws rfl)) i6)))
 (au (fh PassesOwn.never rfl (df (az uV (hr.mono (by first|decide|omega)) rfl T.dZ.m T.dZ.F.kp T.dZ.b .nil aW (aa (pv 0) (aa (pv 5) ah ag) ag))) (a9 (i:=6) nd rfl (Ws rfl))
 (au (bE (aO (tH (J:=kH) (Q9 hr)) (pv 6) (pv 1) rfl)
 (ai (wm (J:=kH) (Q9 hr) (pv 1) (pv 6) (pv 4) rfl)
 (au (bE (nM (az kZ (hr.mono (by first|decide|omega)) rfl T.c8.m T.c8.F.kp T.c8.b .nil aW (aa (pv 0) (aa (pv 6) ah ag) ag)))
 (au (cw (fV Y8 zaf zag b7 (pv 3) (aa (a7 (aa (pv 4) (aa (pv 6) ah ag) ag)) ah dI))))
 aZ)))
 aZ)))))
 (ai (aQ (i:=2) nd rfl (Ws rfl) (bF ah))
 (au (fh PassesOwn.never rfl (df (pv 3)) (sO rfl (bV (a9 (i:=4) nd rfl (Ws rfl)) (bV (a9 (i:=6) nd rfl (Ws rfl)) i6)))
 (au (fh PassesOwn.never rfl (iW rfl T.jV (aa ak ah ba)) (a9 (i:=7) nd rfl (Ws rfl))
 (au (cw (fV Y8 zaf zag b7 (pv 2) (aa (a7 (aa (bf vh (pv 4) (a7 (aa (pv 7) ah ag))) (aa (az gB (hr.mono (by first|decide|omega)) rfl T.bM.m T.bM.F.kp T.bM.b .nil aW (aa (pv 0) (aa (pv 6) (aa (pv 7) ah ag) ag) ag)) ah bG) jw)) ah dI))))))))))))
 (au (aT (pv 1)))))),rfl,?_⟩
 have line:zcz=2 ^ 24:=rfl
 have li:∀s,dw pr s->∀x∈c5 pr s,dw pr x:=fun s h=>vk dr h
 obtain⟨B,d8,wy,fa,Og,Th,Vi,_,_,_,_,_,_,Yt⟩:=ma.at_
 refine ax fun U1 fU=>?_
 walk_at "rd"
 intro D hD yD
 refine(fU _ _).mpr (ax fun U2 iu=>?_)
 clear fU
 have d1:=C5 (J:=kH) (P:=P) (w:=w) (K:=K) (H:=H) yD
 have s1:=aq.new hD (.ext (kG kH P w D []))
 generalize upd H D (.ext (kG kH P w D []))=H1 at *
 walk_at "rd"
 intro p hp
 generalize e2:upd H1 p _=H2
 have s2:=gT e2 hp
 have yp:H2 p=some (.tup []):=by rw[<- e2];exact ae
 clear e2
 have M1:=s1.trans s2
 refine bJ (M1.seq Vi) (v:=.ref fa) (av (j:=3) rfl) (fun p3 B2=>?_)
 generalize e3:upd H2 p3 _=H3
 have s3:=gT e3 B2
 have yp3:H3 p3=some (.tup [.ref p,.ref fa]):=by rw[<- e3];exact ae
 clear e3
 intro L0 UX
 generalize e4:upd H3 L0 _=H4
 have s4:=gL e4 UX
 have yL0:H4 L0=some (.lst [.ref p3]):=WX e4
 clear e4
 refine(iu _ _).mpr (ax fun U3 jW=>?_)
 clear iu
 have Yu:=M1.trans (s3.trans s4)
 have lv0:tO K H4 [(tN pr,[])] [.ref p3]:=.cons ⟨p3,p,fa,rfl,.of (s4 _ _ yp3),.of (s4 _ _ (s3 _ _ yp)),Yt.mono Yu⟩ .nil
 refine zq fun Bd J9=>?_
 walk_at "rd"
 obtain⟨Iv,Dt⟩:∃Iv:Nat->St->Hp->Prop,∀m σ Hx,Iv m σ Hx↔∃(z3 z4 z5 z6 z7:Option V) (L:Addr) (us:List V) (lv f:jA) (aG:List (ky×V)) (n:Nat),σ=[some (.ref md),some (.ref D),some (.ref L),z3,z4,z5,z6,z7]/\aq H Hx/\DS kH P w K Hx D aG/\ff K Hx f aG/\yw (dw pr) f/\Cl (cZ pr.body) (bO pr) f (fun _=>False)/\Hx L=some (.lst us)/\tO K Hx lv us/\(∀x∈lv,dw pr x.1/\x.2.length<=n)/\
  iG pr (tN pr)=uN (c5 pr) (bB pr+1) (bB pr+2-n) (dH (c5 pr) (bB pr+1) f lv).1 (dH (c5 pr) (bB pr+1) f lv).2/\(lv≠[]->n<=f.length)/\m=bB pr+2-n:=⟨_,fun _ _ _=>Iff.rfl⟩
 refine⟨Iv,⟨_,(Dt _ _ _).mpr ⟨none,none,none,none,none,L0,_,[(tN pr,[])],[],[],0,rfl,Yu,(d1.mono s2).mono (s3.trans s4),.nil,.nil,fun x hx=>(by cases hx),yL0,lv0,fun x hx=>(by rw[zac.mp hx];exact⟨dw.first dr,Wr _⟩),by rw[tK];rfl,fun _=>Wr _,rfl⟩⟩,?_⟩
 clear lv0 Yu yL0 s4 UX yp3 s3 B2 M1 yp s2 hp d1 s1
 intro m σ Hx hv
 obtain⟨z3,z4,z5,z6,z7,L,us,lv,f,aG,n,rfl,sx,dx,fx,ok,cl,yL,Oi,lok,ef,hn,rfl⟩:=(Dt _ _ _).mp hv
 clear hv
 have sJ:lv.length=us.length:=Paired.length Oi
 have Ku:∀f:jA,yw (dw pr) f->f.length<=bB pr:=fun f ok=>by
  have:=iF ok.nd (fun x hx=>by obtain⟨y,hy,rfl⟩:=zar.mp hx;exact ok.B1 y hy)
  rwa [Zb] at this
 have um:=Ku f ok
 walk_at "rd"
 intro p hp
 generalize e0:upd Hx p _=Hy
 have sy:=gL e0 hp
 have yp:Hy p=some (.lst []):=WX e0
 clear e0
 have sx:=sx.trans sy
 have dx:=dx.mono sy
 have fx:=fx.imp (H':=Hy) fun a xs h=>sy.bo h
 have yL:=sy _ _ yL
 have Oi:=Oi.imp (H':=Hy) fun a xs h=>sy.bo h
 clear sy
 refine⟨L,p,us,rfl,rfl,.of yL,.of yp,?_⟩
 cases lv with
 |nil=>
  have e0:us=[]:=zaC.mp sJ.symm
  subst e0
  refine(if_neg (by decide)).mpr ((jW _ _).mpr ?_)
  walk_at "rd"
  rw[show dH (c5 pr) (bB pr+1) f []=(f,[]) from rfl,wA] at ef
  rw[ef] at q
  exact q D aG Hy sx hD dx fx
 |cons a0 QL=>
 have za:(a0::QL)≠[]:=by simp
 have hn:=hn za
 obtain⟨u0,Og,rfl⟩:∃u0 Og,us=u0::Og:=by cases us with |nil=>cases sJ |cons a b=>exact⟨_,_,rfl⟩
 refine(if_pos rfl).mpr ?_
 generalize a0::QL=lv at *
 generalize u0::Og=us at *
 clear hp yp
 refine⟨Iv (bB pr+2-(n+1)),fun σ' H' h=>⟨_,by lia,h⟩,?_⟩
 refine J9 _ _ _ (ax fun V1 B3=>?_)
 clear J9 jW
 walk_at "rd"
 intro aL Uc
 refine(B3 _ _).mpr (ax fun V2 GF=>?_)
 clear B3
 have sb:=aq.new Uc (.lst [])
 have ya:(upd Hy aL (.lst [])) aL=some (.lst []):=ae
 have Yv:H aL=none:=sx.free Uc
 have nLa:L≠aL:=aj yL Uc
 have XB:D≠aL:=by obtain⟨φ,e⟩:=dx.uM;exact aj e Uc
 have sx:=sx.trans sb
 have dx:=dx.mono sb
 have fx:=fx.imp (H':=upd Hy aL (.lst [])) fun a xs h=>sb.bo h
 have yL:=sb _ _ yL
 have Oi:=Oi.imp (H':=upd Hy aL (.lst [])) fun a xs h=>sb.bo h
 generalize upd Hy aL (.lst [])=H1 at *
 clear sb Uc
 refine gZ fun U hU=>?_
 walk_at "rd"
 refine⟨⟨us,.of yL⟩,hU _ _ ?_⟩
 clear hU
 obtain⟨Pv,iT⟩:∃Pv:Nat->St->Hp->Prop,∀i σ H5,Pv i σ H5↔∃(z4 z5 z6 z7:Option V) (GJ:List V) (A f5:jA) (bs:List (List Int×List PG.cg)) (oY:List (ky×V)),σ=[some (.ref md),some (.ref D),some (.ref L),some (.ref aL),z4,z5,z6,z7]/\aq H H5/\DS kH P w K H5 D oY/\ff K H5 f5 oY/\yw (dw pr) f5/\Cl (cZ pr.body) (bO pr) f5 (fun _=>False)/\H5 L=some (.lst us)/\tO K H5 lv us/\H5 aL=some (.lst GJ)/\tO K H5 A GJ/\
  (∀a∈A,dw pr a.1/\cZ pr.body a.1.1=true/\a.2.length<=n)/\f.length+A.length<=f5.length/\dH (c5 pr) (bB pr+1) f (lv.take i)=(f5,bs)/\cM bs=kK (bO pr) A:=⟨_,fun _ _ _=>Iff.rfl⟩
 refine gX (K:=K) (a:=L) (xs:=us) Pv ((iT _ _ _).mpr ⟨_,_,_,_,[],[],f,[],aG,rfl,sx,dx,fx,ok,cl,yL,Oi,ya,.nil,fun a ha=>(by cases ha),Wr _,rfl,rfl⟩) (fun i σ H5 _ hv=>?_) ?_ ?_
 ·obtain⟨_,_,_,_,_,_,_,_,_,_,_,_,_,_,_,Ks,_⟩:=(iT _ _ _).mp hv
  exact .of Ks
 ·intro i y σ H5 hi hv
  clear dx fx sx Oi yL ya
  obtain⟨z4,z5,z6,z7,GJ,A,f5,bs,oY,rfl,s5,d5,GI,QN,Yw,Ks,Vw,K6,A5,Vx,Vt,e5,eb⟩:=(iT _ _ _).mp hv
  clear hv
  obtain⟨x0,hx0,ta,ga,sa,rfl,q1,q2,q3⟩:=i4 Vw hi
  have lx:=lok x0 (zaD hx0)
  refine⟨ta,_,rfl,q1,rfl,_,_,rfl,_,_,rfl,rfl,?_⟩
  simp only[zaN]
  refine gZ fun U hU=>?_
  walk_at "rd"
  refine⟨md,sa,pr,x0.1,rfl,ma.mono s5,dr,q3,lx.1,by lia,fun gl Ud g H6 s6 Yx Yy Ue sg gi gln=>⟨gl,rfl,⟨Ud,.of Yy⟩,hU _ _ ?_⟩⟩
  clear hU
  obtain⟨eg1,eg2,eg3⟩:=MD dr (fig:=x0.2) (n:=bB pr+1) sg (by lia) Yw
  have lgu:g.length=Ud.length:=Paired.length Ue
  have ngD:gl≠D:=by obtain⟨φ,e⟩:=d5.uM;exact(aj e Yx).symm
  have nga:gl≠aL:=(aj K6 Yx).symm
  obtain⟨Pw,nI⟩:∃Pw:Nat->St->Hp->Prop,∀j σ H6,Pw j σ H6↔∃(z6:Option V) (uW:List V) (nj:List (ky×V)),σ=[some (.ref md),some (.ref D),some (.ref L),some (.ref aL),some (.ref ga),some (.ref sa),z6,z7]/\aq H H6/\DS kH P w K H6 D nj/\ff K H6 (e7 (cZ pr.body) f5 (g.take j) x0.2).1 nj/\H6 L=some (.lst us)/\tO K H6 lv us/\H6 aL=some (.lst uW)/\tO K H6 (A++(e7 (cZ pr.body) f5 (g.take j) x0.2).2) uW/\H6 gl=some (.lst Ud)/\fH K H6 g Ud/\b8 K H6 ga (x0.2.map V.int):=⟨_,fun _ _ _=>Iff.rfl⟩
  refine gX (K:=K) (a:=gl) (xs:=Ud) Pw ((nI _ _ _).mpr ⟨_,GJ,oY,rfl,s5.trans s6,d5.mono s6,GI.imp (fun a xs h=>s6.bo h),s6 _ _ Ks,Vw.imp (fun a xs h=>s6.bo h),s6 _ _ K6,by rw[List.take_zero,e7,zab];exact A5.imp fun a xs h=>s6.bo h,Yy,Ue,s6.bo q2⟩) (fun j σ H7 _ hv=>?_) ?_ ?_
  ·obtain⟨_,_,_,_,_,_,_,_,_,_,_,yg,_⟩:=(nI _ _ _).mp hv
   exact .of yg
  ·intro j y σ H7 hj hv
   clear s6 Yx Yy Ue d5 GI Ks Vw K6 A5 q1 q2 q3 s5
   obtain⟨z6,uW,nj,rfl,s7,d7,f7,Rt,Ug,K7,A7,Uh,Kv,q2⟩:=(nI _ _ _).mp hv
   clear hv
   obtain⟨x,hx,xa,rfl,stx⟩:=i4 Kv hj
   have xm:x∈g:=zaD hx
   have six:=gi x xm
   have tk:g.take (j+1)=g.take j++[x]:=by rw[zbT,hx];rfl
   obtain⟨Vy,QO,ln7⟩:=vp (ask:=cZ pr.body) (g:=x0.2) (g.take j) f5 QN fun y hy=>gi y (zbo hy)
   have ap:=wB (ask:=cZ pr.body) (g:=x0.2) (g.take j) [x] f5
   rw[<- tk] at ap
   generalize e7 (cZ pr.body) f5 (g.take j) x0.2=fa7 at *
   obtain⟨f6,A6⟩:=fa7
   simp only at f7 A7 ap Vy QO ln7
   have fw:=Ku f6 Vy
   have lA:(A++A6).length=uW.length:=Paired.length A7
   rw[Zc] at lA
   have lk7:=f7.len
   obtain⟨φ7,QP⟩:=d7.uM
   simp only[gW,zaN]
   walk_at "rd"
   refine⟨D,xa,nj,oF x,rfl,rfl,d7,yv stx,?_⟩
   rw[f7.UN x]
   by_cases Ui:x∈f6.map (·.1)
   ·refine(if_neg (by rw[decide_eq_true Ui];decide)).mpr ?_
    have ea:e7 (cZ pr.body) f6 [x] x0.2=(f6,[]):=by rw[e7,if_pos Ui,e7]
    rw[ea,zab] at ap
    refine(nI _ _ _).mpr ⟨_,uW,nj,rfl,s7,d7,by rw[ap];exact f7,Rt,Ug,K7,by rw[ap];exact A7,Uh,Kv,q2⟩
   refine(if_pos (by rw[decide_eq_false Ui];decide)).mpr ?_
   have ea:e7 (cZ pr.body) f6 [x] x0.2=(f6++[(x,x0.2)],if cZ pr.body x.1=true then [(x,x0.2)] else []):=by rw[e7,if_neg Ui,e7,zab]
   rw[ea] at ap
   refine⟨D,xa,nj,oF x,rfl,rfl,d7,yv stx,by lia,fun H8 d8 e8=>?_⟩
   obtain⟨φ',rfl⟩:=e8
   have u8:bA D H7 (upd H7 D (.ext φ')):=(bA.refl _ _).put _
   have s8:aq H (upd H7 D (.ext φ')):=fun z o e=>u8 z o (aj e hD) (s7 z o e)
   have tt:∀a xs,b8 K H7 a xs->b8 K (upd H7 D (.ext φ')) a xs:=fun a xs h=>h.rQ QP u8
   have q2:=tt _ _ q2
   have f8:=(f7.imp tt).put Ui q2
   have yL8:=u8 _ _ (bR Rt QP (by intro z;cases z)) Rt
   have QQ:=u8 _ _ (bR K7 QP (by intro z;cases z)) K7
   have yg8:=u8 _ _ (bR Uh QP (by intro z;cases z)) Uh
   have lv8:=Ug.imp tt
   have A8:=A7.imp tt
   have Uj:=kI Kv fun a row vals h=>h.ext QP u8
   have stx:=stx.ext QP u8
   clear u8 tt
   generalize upd H7 D (.ext φ')=H8 at *
   clear d7 f7 Rt Ug K7 A7 Uh Kv s7 QP
   refine⟨md,xa,pr,x,rfl,ma.mono s8,dr,stx,six,?_⟩
   cases ha:cZ pr.body x.1 with
   |false=>
    rw[ha,if_neg (by decide),zab] at ap
    refine⟨_,rfl,(if_neg (by decide)).mpr ?_⟩
    exact(nI _ _ _).mpr ⟨_,uW,_,rfl,s8,d8,by rw[ap];exact f8,yL8,lv8,QQ,by rw[ap];exact A8,yg8,Uj,q2⟩
   |true=>
    rw[ha,if_pos rfl] at ap
    refine⟨_,rfl,(if_pos rfl).mpr ?_⟩
    refine⟨.inl ⟨rfl,_,.of QQ⟩,fun pp BG=>?_⟩
    have s9:=aq.new BG (.tup [.ref ga,.ref xa])
    have Rp:(upd H8 pp (.tup [.ref ga,.ref xa])) pp=_:=ae
    generalize upd H8 pp (.tup [.ref ga,.ref xa])=H9 at *
    have Vz:=s9 _ _ QQ
    refine⟨aL,uW,.ref pp,rfl,rfl,Vz,by lia,?_⟩
    have uB:bA aL H9 (upd H9 aL (.lst (uW++[.ref pp]))):=(bA.refl _ _).put _
    have tt:∀a xs,b8 K H8 a xs->b8 K (upd H9 aL (.lst (uW++[.ref pp]))) a xs:=fun a xs h=>(s9.bo h).lE Vz uB
    have M0:=s8.trans s9
    refine(nI _ _ _).mpr ⟨_,uW++[.ref pp],_,rfl,fun z o e=>uB z o (aj e Yv) (M0 z o e),(d8.mono s9).Jh (fun o h=>uB _ _ XB h) (fun c ys h=>h.lE Vz uB),by rw[ap];exact f8.imp tt,uB _ _ nLa (s9 _ _ yL8),lv8.imp tt,ae,?_,uB _ _ nga (s9 _ _ yg8),kI Uj (fun a row vals ⟨va,h1,h2⟩=>⟨va,tt _ _ h1,tt _ _ h2⟩),tt _ _ q2⟩
    rw[ap,<- zaH]
    obtain⟨va,h1,h2⟩:=stx
    exact mK (A8.imp tt) (.cons ⟨pp,ga,xa,rfl,b8.lE (.of Rp) Vz uB,tt _ _ q2,va,tt _ _ h1,tt _ _ h2⟩ .nil)
  ·intro σ H7 hv
   obtain⟨z6,uW,nj,rfl,s7,d7,f7,Rt,Ug,K7,A7,Uh,Kv,q2⟩:=(nI _ _ _).mp hv
   rw[<- lgu,za3] at f7 A7
   obtain⟨Vy,QO,ln7⟩:=vp (ask:=cZ pr.body) (g:=x0.2) g f5 QN gi
   refine(iT _ _ _).mpr ⟨_,_,_,_,uW,A++(e7 (cZ pr.body) f5 g x0.2).2,_,bs++ny x0.2 (lS (c5 pr) (bB pr+1) f5 x0.1 x0.2).2,nj,rfl,s7,d7,f7,Vy,eg3,Rt,Ug,K7,A7,fun a ha=>?_,by rw[Zc];lia,?_,?_⟩
   ·rcases zap.mp ha with ha |ha
    ·exact Vx a ha
    ·obtain⟨b1,b2,b3⟩:=QO a ha
     exact⟨b1,b2,by rw[b3];exact lx.2⟩
   ·rw[zbT,hx0,zbH,tJ,e5]
    obtain⟨x1,x2⟩:=x0
    rw[tK,eg1]
   ·rw[De,yx,eb,eg2]
 ·intro σ H5 hv
  clear dx fx sx Oi yL ya
  obtain⟨z4,z5,z6,z7,GJ,A,f5,bs,oY,rfl,s5,d5,GI,QN,Yw,Ks,Vw,K6,A5,Vx,Vt,e5,eb⟩:=(iT _ _ _).mp hv
  clear hv iT Pv
  rw[<- sJ,za3] at e5
  refine(GF _ _).mpr (ax fun V3 Qk=>?_)
  clear GF
  walk_at "rd"
  intro b hb
  refine(Qk _ _).mpr ?_
  clear Qk
  have sb:=aq.new hb (.lst [])
  have yb:(upd H5 b (.lst [])) b=some (.lst []):=ae
  have FT:H b=none:=s5.free hb
  have Pr:aL≠b:=aj K6 hb
  have Qr:D≠b:=by obtain⟨φ,e⟩:=d5.uM;exact aj e hb
  have s5:=s5.trans sb
  have d5:=d5.mono sb
  have GI:=GI.imp (H':=upd H5 b (.lst [])) fun a xs h=>sb.bo h
  have K6:=sb _ _ K6
  have A5:=A5.imp (H':=upd H5 b (.lst [])) fun a xs h=>sb.bo h
  generalize upd H5 b (.lst [])=H6 at *
  clear sb hb
  have Yz:A.length=GJ.length:=Paired.length A5
  have ael:=Ku f5 QN
  refine gZ fun U hU=>?_
  walk_at "rd"
  refine⟨⟨GJ,.of K6⟩,hU _ _ ?_⟩
  clear hU
  obtain⟨Pv,iT⟩:∃Pv:Nat->St->Hp->Prop,∀i σ H7,Pv i σ H7↔∃(z4 z5 z6 z7:Option V) (oX:List V),σ=[some (.ref md),some (.ref D),some (.ref b),some (.ref aL),z4,z5,z6,z7]/\aq H H7/\DS kH P w K H7 D oY/\ff K H7 f5 oY/\H7 aL=some (.lst GJ)/\tO K H7 A GJ/\H7 b=some (.lst oX)/\tO K H7 (kK (bO pr) (A.take i)) oX:=⟨_,fun _ _ _=>Iff.rfl⟩
  refine gX (K:=K) (a:=aL) (xs:=GJ) Pv ((iT _ _ _).mpr ⟨_,_,_,_,[],rfl,s5,d5,GI,K6,A5,yb,.nil⟩) (fun i σ H7 _ hv=>?_) ?_ ?_
  ·obtain⟨_,_,_,_,_,_,_,_,_,y,_⟩:=(iT _ _ _).mp hv
   exact .of y
  ·intro i y σ H7 hi hv
   clear s5 d5 GI K6 A5 yb
   obtain⟨z4,z5,z6,z7,oX,rfl,s7,d7,f7,K7,A7,VA,N7⟩:=(iT _ _ _).mp hv
   clear hv
   obtain⟨a0,GH,ta,ga,sa,rfl,q1,q2,q3⟩:=i4 A7 hi
   obtain⟨YA,QR,lna⟩:=Vx a0 (zaD GH)
   have h0:a0.1.1≠0:=fun z=>by rw[z,rR dr.ok] at QR;cases QR
   have il:i<A.length:=(WD.mp GH).1
   refine⟨ta,_,rfl,q1,rfl,_,_,rfl,_,_,rfl,rfl,?_⟩
   simp only[zaN]
   walk_at "rd"
   obtain⟨Pw,nI⟩:∃Pw:Nat->St->Hp->Prop,∀j σ H8,Pw j σ H8↔∃(z7:Option V) (oX:List V),σ=[some (.ref md),some (.ref D),some (.ref b),some (.ref aL),some (.ref ga),z5,some (.ref sa),z7]/\aq H H8/\DS kH P w K H8 D oY/\ff K H8 f5 oY/\H8 aL=some (.lst GJ)/\tO K H8 A GJ/\H8 b=some (.lst oX)/\tO K H8 (kK (bO pr) (A.take i)++nextJ (bO pr) a0 j) oX/\b8 K H8 ga (a0.2.map V.int)/\cm K H8 sa a0.1.1 a0.1.2:=⟨_,fun _ _ _=>Iff.rfl⟩
   refine⟨10,rfl,by decide,by decide,?_⟩
   refine jX (lo:=0) (n:=10) Pw ((nI _ _ _).mpr ⟨_,oX,rfl,s7,d7,f7,K7,A7,VA,by rw[show nextJ (bO pr) a0 0=[] from rfl,zab];exact N7,q2,q3⟩) ?_ ?_
   ·intro j σ H8 hj hv
    clear s7 d7 f7 K7 A7 VA N7 q1 q2 q3
    obtain⟨z7,oX,rfl,s8,d8,f8,QQ,A8,VB,N8,q2,q3⟩:=(nI _ _ _).mp hv
    clear hv
    simp only[gW,zaN]
    walk_at "rd"
    rw[zcn]
    refine⟨.inl ⟨rfl,_,.of VB⟩,fun p1 Au=>?_⟩
    have s9:=aq.new Au (.tup [.int j])
    have yp1:(upd H8 p1 (.tup [.int j])) p1=_:=ae
    generalize upd H8 p1 (.tup [.int j])=H9 at *
    refine⟨ga,p1,_,_,rfl,rfl,s9.bo q2,.of yp1,by rw[Zb,zal];lia,fun gp HA sA Oh=>?_⟩
    have YB:=s9.trans sA
    have Oh:b8 K HA gp ((a0.2++[((j:Nat):Int)]).map V.int):=by rw[zae];exact Oh
    refine⟨md,sa,.int j,pr,a0.1,j,rfl,ma.mono (s8.trans YB),dr,q3.mono YB,YA,h0,fun _=>rfl,fun v HB sB ov=>fun pp BG=>?_⟩
    obtain⟨y1,ey⟩:∃y1,(bO pr a0.1.1 a0.1.2 j).1=some y1:=by
     cases e:(bO pr a0.1.1 a0.1.2 j).1 with
     |none=>exact absurd e (wt _ _ _ QR)
     |some y1=>exact⟨y1,rfl⟩
    rw[ey] at ov
    obtain⟨ya,rfl,Xl⟩:=ov
    have sC:=aq.new BG (.tup [.ref gp,.ref ya])
    have Rp:(upd HB pp (.tup [.ref gp,.ref ya])) pp=_:=ae
    generalize upd HB pp (.tup [.ref gp,.ref ya])=HC at *
    have Uk:=YB.trans (sB.trans sC)
    have ybC:=Uk _ _ VB
    have lb:=Paired.length N8
    have lA1:(kK (bO pr) (A.take i)).length<=20000:=by
     rw[tM,zbz]
     lia
    have lA2:(nextJ (bO pr) a0 j).length=j:=by unfold nextJ;rw[Zb,zbc]
    rw[Zc] at lb
    refine⟨b,oX,.ref pp,rfl,rfl,ybC,by lia,?_⟩
    have uB:bA b HC (upd HC b (.lst (oX++[.ref pp]))):=(bA.refl _ _).put _
    have tt:∀a xs,b8 K HC a xs->b8 K (upd HC b (.lst (oX++[.ref pp]))) a xs:=fun a xs h=>h.lE ybC uB
    have t8:∀a xs,b8 K H8 a xs->b8 K (upd HC b (.lst (oX++[.ref pp]))) a xs:=fun a xs h=>tt _ _ (Uk.bo h)
    have s0C:=s8.trans Uk
    obtain⟨va,h1,h2⟩:=q3
    obtain⟨vb,h3,h4⟩:=Xl.mono sC
    refine(nI _ _ _).mpr ⟨_,oX++[.ref pp],rfl,fun z o e=>uB z o (aj e FT) (s0C z o e),(d8.mono Uk).Jh (fun o h=>uB _ _ Qr h) (fun c ys h=>tt _ _ h),f8.imp t8,uB _ _ Pr (Uk _ _ QQ),A8.imp t8,ae,?_,t8 _ _ q2,⟨va,t8 _ _ h1,t8 _ _ h2⟩⟩
    rw[Dd,<- zaH,ey]
    exact mK (N8.imp t8) (.cons ⟨pp,gp,ya,rfl,tt _ _ (.of Rp),tt _ _ ((sB.trans sC).bo Oh),vb,tt _ _ h3,tt _ _ h4⟩ .nil)
   ·intro σ H8 hv
    obtain⟨z7,oX,rfl,s8,d8,f8,QQ,A8,VB,N8,q2,q3⟩:=(nI _ _ _).mp hv
    refine(iT _ _ _).mpr ⟨_,_,_,_,oX,rfl,s8,d8,f8,QQ,A8,VB,?_⟩
    rw[zbT,GH,zbH,yx]
    exact(show kK (bO pr) [a0]=nextJ (bO pr) a0 10 by unfold kK;rw[zas,za2,zab])▸N8
  ·intro σ H7 hv
   obtain⟨z4,z5,z6,z7,oX,rfl,s7,d7,f7,K7,A7,VA,N7⟩:=(iT _ _ _).mp hv
   rw[<- Yz,za3] at N7
   have lb:=Paired.length N7
   rw[tM] at lb
   refine(Dt _ _ _).mpr ⟨_,_,_,_,_,b,oX,_,f5,oY,n+1,rfl,s7,d7,f7,QN,Yw,VA,N7,fun x hx=>?_,?_,fun h=>?_,rfl⟩
   ·obtain⟨a,ha,hx⟩:=zaL.mp hx
    obtain⟨j,hj,rfl⟩:=zar.mp hx
    obtain⟨YA,QR,lna⟩:=Vx a ha
    have h0:a.1.1≠0:=fun z=>by rw[z,rR dr.ok] at QR;cases QR
    refine⟨?_,by rw[Zc,zal];lia⟩
    cases e:(bO pr a.1.1 a.1.2 j).1 with
    |none=>exact absurd e (wt _ _ _ QR)
    |some y1=>exact YA.next dr h0 e
   ·rw[ef,e5,<- eb,show bB pr+2-n=(bB pr+2-(n+1))+1 by lia,uN]
    show (if bs=[] then f5 else _)=_
    split
    ·rename_i hb
     rw[hb]
     show f5=uN _ _ _ f5 []
     rw[wA]
    ·rfl
   ·have:A≠[]:=fun z=>by rw[z] at h;exact h rfl
    have:=zaY.mpr this
    lia
theorem xE(T:Tx K mg t):bN P w K mg base dU 1 t.iQ t.jg ["found"] (JM K):=by
 refine T.gN.F.mq qj (fun vs H Q E h=>?_) (fun fc A outer s H vs Q E hr h=>?_)
 ·obtain⟨_,_,_,rfl,_⟩:=h
  rfl
 obtain⟨l,us,g,rfl,yl,Ue,aay,hlen,q⟩:=h
 have nd:=qj.nd
 have hu:=eT hr
 refine⟨_,[some (.ref l),none],(ai (fh PassesOwn.never rfl (df (pv 0)) (a9 (i:=1) nd rfl (Ws rfl))
 (ai (bE (PW.pt (pw_or (yO (nM (bY AU rfl T.gO PyProof.Rows.Boot.«isinstance» (aa (pv 1) (aa (vd (v:=.ty "tuple") rfl T.m8 PyProof.Rows.Boot.«tuple» rfl) ah ag) ag)))) (pw_or1 (yO (nM (bY AU rfl T.gO PyProof.Rows.Boot.«isinstance» (aa (aD aR (pv 1) ak ao) (aa (vd (v:=.ty "tuple") rfl T.m8 PyProof.Rows.Boot.«tuple» rfl) ah ag) a8)))))))
 (au (aT xQ))
 aZ)
 (au (bE (aO (jY (eT hr)) (i7 (own:=["number"]) (ix:=[]) rfl (by rfl) (by rfl) (df (bf OY (eS yY rfl T.oS PyProof.Rows.Boot.«list» (aa (aD aR (pv 1) ak ao) ah a8)) (bF (aa (aD aR (pv 1) ak ao) ah a8)))) (fun _ _ _ _=>(a9 (i:=0) (by show List.Nodup (["number"]:List Str);decide +kernel) rfl (Ws rfl))) (fun _ _ _ _=>(D0 (nM (bY (FX (K:=K) rfl) rfl T.gO PyProof.Rows.Boot.«isinstance» (aa (pv 0) (aa (vd (v:=.ty "bool") rfl T.Dh PyProof.Rows.Boot.«bool» rfl) ah ag) ag))))) (fun _ _ _ _=>(pv 0))) (bF ah) (aU _))
 (au (aT xQ))
 aZ))))
 (au (aT xQ))),rfl,?_⟩
 have line:zcz=2 ^ 24:=rfl
 refine ax fun U1 fU=>?_
 refine gZ fun U hU=>?_
 walk_at "rd"
 refine⟨⟨us,.of yl⟩,hU _ _ ?_⟩
 clear hU
 refine gX (K:=K) (a:=l) (xs:=us) (fun i σ H2=>∃z,σ=[some (.ref l),z]/\aq H H2) ⟨none,rfl,aq.refl _⟩ (fun i σ H2 _ hv=>?_) ?_ ?_
 ·obtain⟨z,rfl,s2⟩:=hv
  exact .of (s2 _ _ yl)
 ·intro i y σ H2 hi hv
  obtain⟨z,rfl,s2⟩:=hv
  obtain⟨x,hx,xa,rfl,stx⟩:=i4 Ue hi
  have lx:=hlen x (zaD hx)
  obtain⟨va,h1,h2⟩:=stx.mono s2
  simp only[gW,zaN]
  refine ax fun V1 B3=>?_
  walk_at "rd"
  refine⟨xa, "tuple",_,true,rfl,h1,by kernel_rfl,(if_neg (by decide)).mpr (aM h1 (v:=.ref va) (av (j:=1) rfl) ⟨va, "tuple",_,true,rfl,h2,by kernel_rfl,(if_neg (by decide)).mpr ((B3 _ _).mpr ?_)⟩)⟩
  clear B3
  walk_at "rd"
  simp only[kD]
  walk_at "rd"
  refine aM h1 (v:=.ref va) (av (j:=1) rfl) ⟨va,_,rfl,.inr h2,fun l3 hl3=>?_⟩
  have s3:=aq.new hl3 (.lst (x.2.map V.int))
  have y3:(upd H2 l3 (.lst (x.2.map V.int))) l3=some (.lst (x.2.map V.int)):=ae
  generalize upd H2 l3 (.lst (x.2.map V.int))=H3 at *
  refine aM (s3.bo h1) (v:=.int x.1) (av (j:=0) rfl) (fun p4 sN=>?_)
  have s4:=aq.new sN (.lst [.int x.1])
  have y4:(upd H3 p4 (.lst [.int x.1])) p4=some (.lst [.int x.1]):=ae
  generalize upd H3 p4 (.lst [.int x.1])=H4 at *
  refine⟨l3,p4,_,_,rfl,rfl,s4 _ _ y3,y4,by rw[Zb,zal];lia,fun p hp=>?_⟩
  have s5:=aq.new hp (.lst (x.2.map V.int++[.int x.1]))
  have y5:(upd H4 p (.lst (x.2.map V.int++[.int x.1]))) p=some (.lst (x.2.map V.int++[.int x.1])):=ae
  generalize upd H4 p (.lst (x.2.map V.int++[.int x.1]))=H5 at *
  refine⟨p,rfl,⟨_,.of y5⟩,fun D hD=>?_⟩
  refine vW (K:=K) (r:=[]) (fun _=>false) (fun _=>.cD) (.of y5) (by rw[Zc,Zb,zal];lia) hD (fun i y hy H6 s6 R hR=>?_) (fun i x _ h=>absurd h WC) (fun H6 s6 h6 p7 tX=>?_)
  ·obtain⟨z,rfl⟩:∃z:Int,y=.int z:=by
    rcases zap.mp (zaD hy) with hm |hm
    ·obtain⟨z,_,rfl⟩:=zar.mp hm
     exact⟨z,rfl⟩
    ·exact⟨_,zac.mp hm⟩
   walk_at "rd"
   exact⟨_, "bool",_,false,rfl,.int _,by kernel_rfl,hR _ (aq.refl _)⟩
  have e4:∀n,((zao n).filter fun _=>false).map (fun _=>V.cD)=[]:=fun n=>by simp
  rw[e4] at h6
  refine⟨D,p7,[],rfl,rfl,.of (aq.new tX (.lst []) _ _ h6),.of ae,(if_neg (by decide)).mpr ?_⟩
  exact⟨_,rfl,s2.trans (s3.trans (s4.trans (s5.trans (s6.trans (aq.new tX (.lst []))))))⟩
 ·intro σ H2 hv
  obtain⟨z,rfl,s2⟩:=hv
  refine(fU _ _).mpr ?_
  walk_at "rd"
  exact q _ s2
theorem QS(T:Tx K mg t){c Pt:Addr}(B:jP K mg base c Pt)(hc:wx K t.cf c):bN P w K mg base dU 30 t.EV t.tT ["script"] (zu K Pt):=by
 have bD:=su (P:=P) (w:=w) (base:=base) T
 have oZ:=Dx (P:=P) (w:=w) (base:=base) T
 have g1:=nh (P:=P) (w:=w) (base:=base) T
 have g2:=yI (P:=P) (w:=w) (base:=base) T 4
 have g3:=MX (P:=P) (w:=w) (base:=base) T
 have uH:=zU (P:=P) (w:=w) (base:=base) T B hc g1 g2 g3
 have BO:=zR (P:=P) (w:=w) (base:=base) T
 have zW:=xD (P:=P) (w:=w) (base:=base) T
 have zX:=xE (P:=P) (w:=w) (base:=base) T
 refine T.EW.F.mq JQ (fun vs H Q E h=>?_) (fun fc A outer s H vs Q E hr h=>?_)
 ·obtain⟨_,_,rfl,_⟩:=h
  rfl
 obtain⟨a,ns,rfl,hS,VC,JC,q⟩:=h
 have nd:=JQ.nd
 have hu:=eT hr
 refine⟨_,[some (V.ref a),none,none,none,none,none,none],(ai (aQ (i:=1) nd rfl (Ws rfl) (bF (aa (lD yX (pv 0) pj (pz ak)) (aa ak ah ba) a8)))
 (ai (aQ (i:=2) nd rfl (Ws rfl) (bf cT (az bD (hr.mono (by first|decide|omega)) rfl T.ay.m T.ay.F.kp T.ay.b .nil aW (aa (pv 1) ah ag)) ak))
 (ai (qy (az oZ (hr.mono (by first|decide|omega)) rfl T.cQ.m T.cQ.F.kp T.cQ.b .nil aW (aa (pv 1) (aa (pv 2) ah ag) ag)) (zb rfl (bV (a9 (i:=3) nd rfl (Ws rfl)) (bV (a9 (i:=4) nd rfl (Ws rfl)) i6))))
 (ai (aQ (i:=5) nd rfl (Ws rfl) (eS (mI (J:=kH) rfl) rfl T.oS PyProof.Rows.Boot.«list» (aa (az zW (hr.mono (by first|decide|omega)) rfl T.gM.m T.gM.F.kp T.gM.b .nil aW (aa (az BO (hr.mono (by first|decide|omega)) rfl T.ip.m T.ip.F.kp T.ip.b .nil aW (aa (pv 3) (aa (pv 4) ah ag) ag)) ah bG)) ah bG)))
 (ai (aQ (i:=6) nd rfl (Ws rfl) (az uH (hr.mono (by first|decide|omega)) rfl T.eI.m T.eI.F.kp T.eI.b .nil aW (aa (pv 3) ah ag)))
 (ai (bE (PW.pt (pw_or (yO (nM (bY AN rfl T.gO PyProof.Rows.Boot.«isinstance» (aa (pv 6) (aa (vd (v:=.ty "list") rfl T.oS PyProof.Rows.Boot.«list» rfl) ah ag) ag)))) (pw_or (aO (Pj (LO hr)) (pv 6) (pv 5) (aU _)) (pw_or1 (yO (nM (az zX (hr.mono (by first|decide|omega)) rfl T.gN.m T.gN.F.kp T.gN.b .nil aW (aa (pv 6) ah ag))))))))
 (au (aT xQ))
 aZ)
 (ai (cw (fV Y8 zaf zag b7 (pv 6) (aa (a7 (aa ak (aa (a7 ah) ah dI) ba)) ah dI)))
 (au (aT (GP (pd (Ph (LO hr)) (az uH (hr.mono (by first|decide|omega)) rfl T.eI.m T.eI.F.kp T.eI.b .nil aW (aa (pv 3) ah ag)) (pv 5) (aU _)) (GO (pd (LV (LO hr)) (az oZ (hr.mono (by first|decide|omega)) rfl T.cQ.m T.cQ.F.kp T.cQ.b .nil aW (aa (bF (aa (lD yX (pv 0) pj (pz ak)) (aa ak ah ba) a8)) (aa (pv 2) ah ag) iX)) (bF (aa (pv 3) (aa (pv 4) ah ag) ag)) (aU _))))))))))))),rfl,?_⟩
 have line:zcz=2 ^ 24:=rfl
 refine ax fun U1 fU=>?_
 walk_at "rd"
 refine⟨_,rfl,a,_,rfl,hS,fun S hS2 D hD=>(fU _ _).mpr ?_⟩
 clear fU
 rw[NB ns VC] at hD ⊢
 have sA:=(aq.new hS2 (.lst (ns.map V.int))).trans (aq.new hD (.lst [V.ref S,V.int 0]))
 have nSD:S≠D:=aj ae hD
 have Rj:H D=none:=yr (aq.new hS2 (.lst (ns.map V.int))) hD
 have dk:kS K (upd (upd H S (.lst (ns.map V.int))) D (.lst [V.ref S,V.int 0])) D S ns 0:=⟨ae,by rw[aw nSD];exact ae,nSD,VC⟩
 generalize upd (upd H S (.lst (ns.map V.int))) D (.lst [V.ref S,V.int 0])=H1 at *
 refine ax fun U2 iu=>?_
 walk_at "rd"
 refine⟨D,S,ns,0,rfl,dk,by lia,fun H2 u2 xv=>⟨_,15,rfl,rfl,(by decide:(0:Int)<15),(iu _ _).mpr ?_⟩⟩
 clear iu
 have sB:aq H H2:=fun z o e=>u2 z o (aj e Rj) (sA z o e)
 have nxb:=PG.jy ns 0
 obtain⟨many,em⟩:∃many:Nat,PG.next ns 0%15=(many:Int):=⟨(PG.next ns 0%15).toNat,by lia⟩
 have lm:many<=14:=by lia
 simp only[em]
 refine ax fun U3 jW=>?_
 walk_at "rd"
 refine⟨D,S,ns,1,many,rfl,xv,by decide,by lia,fun l3 pa B bb R H3 u3 qm h3 Qn nl np nB nbb nR fB fb fR=>?_⟩
 have sC:aq H H3:=fun z o e=>u3 z o (aj e Rj) (sB z o e)
 have rl:=PG.Ii ns many 1
 have tx:=PG.FE ns many 1
 have dB:=PG.A1 ns many 1
 have fl:=PG.xZ ns many 1
 have dp:=LW ns many 1
 have YC:=PG.Io ns many 1
 have pw:=PG.Im (PG.ye ns many 1).1
 have pos:=(PG.ye ns many 1).2
 have YD:=PG.zg ns 1
 have yM:=PG.xn ns 1
 have YE:=PG.FL ns 1
 have YF:=PG.zw ns 1
 rw[<- PG.CD ns many 1] at YC YD yM YE YF
 generalize SI:PG.ck ns many 1=pr at *
 obtain⟨pr,rows⟩:=pr
 simp only at rl tx dB fl YC pw pos YD yM YE YF fB fb fR
 obtain⟨nbx,um⟩:=YD
 have f28:(PG.cK pr.body).length<=18:=by
  rw[fl]
  exact zan (List.length_filter_le _ _) (by lia)
 have dr:jO pr:=⟨⟨pw,nbx,by lia,fun s hs=>by
  have:=pos (s.row,s.wd) (by rw[<- PG.fL];exact zar.mpr ⟨s,hs,rfl⟩)
  exact this⟩,dB,by lia,YC,yM⟩
 have rp:∀ {H'},br (·=D) H3 H'->Rep K H' (i0 pr) (.ref pa):=fun {H'} u=>by
  unfold i0
  exact Rep.bc.mpr ⟨pa,_,rfl,.of (u _ _ np Qn),.cons (fB _ u) (.cons (fb _ u) .nil)⟩
 have YG:bB pr<2000:=zbt (JO f28 YF YE) (by decide)
 refine⟨l3,_,rfl,.of h3,rfl,_,_,rfl,_,_,rfl,rfl,(jW _ _).mpr (ax fun U4 lZ=>?_)⟩
 clear jW
 simp only[zaN]
 obtain⟨p3,B2,qm⟩:=qm
 walk_at "rd"
 refine⟨pa,R,D,_,pr,rows,rfl,qm.bP,dr,rp fun b o n e=>by rw[mH n];exact e,fR.rep,by lia,tx,fun md H4 s4 ma=>⟨md,pr,rfl,ma.mono pL,dr,YG,fun F aG H5 s5 hF d5 f5=>⟨F,aG,rfl,d5,fun dl Ru SK pu=>(lZ _ _).mpr (ax fun U5 xi=>?_)⟩⟩⟩
 clear lZ
 have YH:=JN dr
 have aes:(iG pr (tN pr)).length<=bB pr:=by
  have:=iF YH.nd (fun x hx=>by obtain⟨y,hy,rfl⟩:=zar.mp hx;exact YH.B1 y hy)
  rwa [Zb] at this
 have s6:=aq.new SK (.lst Ru)
 have ydl:(upd H5 dl (.lst Ru)) dl=some (.lst Ru):=ae
 have YI:=(zv f5 pu).mono s6
 have VD:=s4.trans (s5.trans s6)
 clear pu d5 f5
 generalize upd H5 dl (.lst Ru)=H6 at *
 have YJ:Rep K H6 (i0 pr) (.ref pa):=rp (.of VD)
 have rR6:Rep K H6 (.lst (rows.map jm)) (.ref R):=fR.rep.mono VD
 have s06:=sC.trans VD
 have QT:=s06 _ _ JC
 have hS6:=s06.seq hS
 clear sA sB sC u2 u3 s4 s5 s6 VD rp fB fb fR
 walk_at "rd"
 refine⟨.ref pa,pr, #[],rfl,YJ,dr,YG,QT,.inl rfl,fun fl QU H7 ps7 u7 QH Rv QV YK YL=>(xi _ _).mpr (ax fun U6 zH=>?_)⟩
 clear xi
 have k7:Kp H6 H7:=Kp.of u7 QT
 have M3:∀ {H'} {l:Addr} {us:List V},H' l=some (.lst us)->fH K H' ((iG pr (tN pr)).map (·.1)) us->Rep K H' (.lst (((iG pr (tN pr)).map (·.1)).map uv)) (.ref l):=fun {H' l us} y h=>Rep.bC.mpr ⟨l,us,rfl,.of y,BA h⟩
 have kst:∀ {H'},Kp H6 H'->fH K H' ((iG pr (tN pr)).map (·.1)) Ru:=fun {H'} k=>kI YI fun a row vals h=>h.kp k
 have kdl:∀ {H'},Kp H6 H'->H' dl=some (.lst Ru):=fun {H'} k=>k _ _ ydl (by intro _ z;cases z)
 have VE:=Df ((iG pr (tN pr)).map (·.1))
 walk_at "rd"
 refine⟨_, "list",_,true,rfl,.lst Rv,by kernel_rfl,(if_neg (by decide)).mpr ⟨_,_,M3 Rv QV,M3 (kdl k7) (kst k7),VE,VE,?_⟩⟩
 rw[eqv_refl]
 refine⟨_,rfl,(if_neg (by decide)).mpr ⟨fl,QU,_,rfl,Rv,QV,by rw[Zb];lia,fun x hx=>?_,fun H8 s8=>⟨_,rfl,(if_neg (by decide)).mpr ((zH _ _).mpr ?_)⟩⟩⟩
 ·obtain⟨y,hy,rfl⟩:=zar.mp hx
  have:=(YH.B1 y hy).ok.len
  lia
 clear zH
 refine ax fun U7 J7=>?_
 walk_at "rd"
 have Ul:=s8 _ _ Rv
 have lfu:((iG pr (tN pr)).map (·.1)).length=QU.length:=Paired.length QV
 rw[Zb] at lfu
 refine⟨.inl ⟨rfl,_,.of Ul⟩,fun p1 Au p2 xf=>?_⟩
 have s9:=(aq.new Au (.tup [])).trans (aq.new xf (.tup [V.int 0,V.ref p1]))
 generalize upd (upd H8 p1 (.tup [])) p2 (.tup [V.int 0,V.ref p1])=H9 at *
 have Um:=s8.trans s9
 refine⟨fl,QU,.ref p2,rfl,rfl,Um _ _ Rv,by lia,(J7 _ _).mpr ?_⟩
 clear J7
 have uA:bA fl H9 (upd H9 fl (.lst (QU++[.ref p2]))):=(bA.refl _ _).put _
 have nPf:Pt≠fl:=aj QT QH
 have kA:Kp H6 (upd H9 fl (.lst (QU++[.ref p2]))):=fun b o e n=>uA _ _ (aj e QH) (Um _ _ (k7 b o e n))
 have Uo:=uA _ _ nPf (Um _ _ YK)
 have YM:TabOk "first_inputs.<locals>.<lambda>" (C9 (jG aY)) (upd H9 fl (.lst (QU++[.ref p2]))) ps7:=YL.up fun b φ e=>uA _ _ (bR e Rv (by intro z;cases z)) (Um _ _ e)
 generalize upd H9 fl (.lst (QU++[.ref p2]))=HA at *
 clear uA Um s9 Au xf s8 Ul
 walk_at "rd"
 refine⟨.ref pa,pr,ps7,rfl,zt kA _ _ YJ,dr,YG,Uo,YM,fun fl2 aey HB psB uB aez YN YO aeA aeB=>?_⟩
 have kB:Kp H6 HB:=fun b o e n=>Kp.of uB Uo b o (kA b o e n) n
 refine⟨_,_,M3 YN YO,M3 (kdl kB) (kst kB),VE,VE,?_⟩
 rw[eqv_refl]
 refine⟨_,rfl,(if_pos rfl).mpr ?_⟩
 have rpB:=zt kB _ _ YJ
 have rRB:=zt kB _ _ rR6
 refine⟨63,rfl,a,ns.map V.int,rfl,hS6.kp kB,fun S9 hS9 D9 MJ=>?_⟩
 rw[NB ns VC] at MJ ⊢
 have ql:=(aq.new hS9 (.lst (ns.map V.int))).trans (aq.new MJ (.lst [V.ref S9,V.int 1]))
 have n9:S9≠D9:=aj ae MJ
 have YQ:HB D9=none:=yr (aq.new hS9 (.lst (ns.map V.int))) MJ
 have zJ:kS K (upd (upd HB S9 (.lst (ns.map V.int))) D9 (.lst [V.ref S9,V.int 1])) D9 S9 ns 1:=⟨ae,by rw[aw n9];exact ae,n9,VC⟩
 generalize upd (upd HB S9 (.lst (ns.map V.int))) D9 (.lst [V.ref S9,V.int 1])=sM at *
 refine⟨D9,S9,ns,1,many,rfl,zJ,by decide,by lia,fun l t1 B' b' R' NW As _ e1 e2 _ _ _ _ _ f1 f2 f3 VF YR=>?_⟩
 rw[SI] at f1 f2 f3
 have KR:=aq.new YR (.lst [V.ref pa,V.ref R])
 have sB3:aq HB (upd NW VF (.lst [V.ref pa,V.ref R])):=fun z o e=>KR _ _ (As z o (aj e YQ) (ql _ _ e))
 have Xf:Rep K NW (FQ (pr,rows)) (.ref l):=by
  unfold FQ i0
  exact Rep.bC.mpr ⟨l,_,rfl,.of e1,.cons (Rep.bc.mpr ⟨t1,_,rfl,.of e2,.cons f1.rep (.cons f2.rep .nil)⟩) (.cons f3.rep .nil)⟩
 have UW:Rep K (upd NW VF (.lst [V.ref pa,V.ref R])) (FQ (pr,rows)) (.ref VF):=by
  unfold FQ
  exact Rep.bC.mpr ⟨VF,_,rfl,.of ae,.cons (rpB.mono sB3) (.cons (rRB.mono sB3) .nil)⟩
 exact⟨_,Xf.mono KR,UW,⟨_,rfl⟩,dp,q _⟩
end
end Qc
end
section
set_option maxHeartbeats 4000000
namespace Qc
open PySem L2
section
variable{P:zcD}{w:World}{K:k0}{mg:Str->Option Value}{base:Heap}
theorem all_mk{l:PySem.W.OpenLaw}{h:Heap}{fa:Addr}(X:K.In h)(G:h.Ns zcy mg)(Yt:mg "law"=some (.ref fa))
 {qL dO eB fM j4 gu cB mW lW kl km sj lX dP iI jo cf iJ fN eD kn iK iL iM g9 gw jq lY jr cN fC gx js de hC fI iP iQ EV:Addr}
 {aV:Addr}
 {dC:Addr} {xF qp:Option Addr} {xG:Array (Option Value)} {xH qr qt qu k8 qv:Value}
 {eO:Addr}
 {fQ:Addr}
 {Up:_}
 {w4:_}
 {xI:_}
 (QW:FH K "flow" Dg qL)
 (w5:FH K "flow_of_body" ke dO)
 (BP:FH K "first_row" oH eB)
 (xJ:FH K "behind_body" kU fM)
 (Gp:FH K "ways_of" tP j4)
 (BQ:FH K "bodies_in" oI gu)
 (uX:FH K "statements_in" jB cB)
 (M4:FH K "worth" zx mW)
 (Gq:FH K "word_at" tQ lW)
 (DA:FH K "by_names" qJ kl)
 (DB:FH K "in_order" qK km)
 (M5:FH K "holds" zy sj)
 (Gr:FH K "step_by" tR lX)
 (qR:FH K "behind_condition" ie dP)
 (zY:FH K "all_led_to" mL iI)
 (BR:FH K "standings" oJ jo)
 (o4:FH K "first_inputs" aY cf)
 (zZ:FH K "found_from" mM iJ)
 (Gu:FH K "gone_on" ij fN)
 (BS:FH K "_law_next" oK eD)
 (Kw:FH K "_law_e" wC kn)
 (Aa:FH K "_law_boxes" mO iK)
 (Ab:FH K "_law_plain" mQ iL)
 (Ac:FH K "_law_close" mS iM)
 (xK:FH K "_law_number" kW g9)
 (w8:FH K "_law_program" kg gw)
 (BU:FH K "_law_ends" oM jq)
 (Gv:FH K "_law_to" tS lY)
 (BV:FH K "_law_ways" oN jr)
 (sH:FH K "_law_statements" iH cN)
 (Ae:FH K "_law_worth" mT fC)
 (w9:FH K "_law_stepped" kh gx)
 (BW:FH K "_law_made" oO js)
 (o8:FH K "_law_next_standing" gm de)
 (xM:FH K "_law_is_ask" kX hC)
 (uY:FH K "_law_till_ask" jC fI)
 (Ag:FH K "_law_found" mU iP)
 (Ah:FH K "_law_kinds" mV iQ)
 (Oj:FH K "law" JP EV)
 (M6:zau K zcy "Chart"=some (some (.ref aV)))
 (Kx:zb3 K aV Str.empty=true)
 (Ky:zbU K aV=true)
 (Kz:zcj K aV=true)
 (KA:zaB K (.ref aV) "__setattr__"=some (some (.builtin "object.__setattr__")))
 (Ai:zaB K (.ref aV) "__init__"=some (some (.ref dC)))
 (Aj:K.lookup dC=some ⟨xH,xF,.func (zbb "__init__" "Chart.__init__" (kz dy) (hJ dy) (aN dy) .none qr qt qu qp k8 qv),xG⟩)
 (Ak:zbO K k8 "Chart.__init__"=true)
 (Al:zbe K (.ref dC)=true)
 (Am:PySem.W.isFn K (.ref dC)=true)
 (wJ:zct K aV=true)
 (KC:zbe K (.ref aV)=true)
 (gy:zaB K (.ref aV) "names"=some none)
 (gA:zaB K (.ref aV) "sizes"=some none)
 (iR:zaB K (.ref aV) "first"=some none)
 (cR:zaB K (.ref aV) "statements"=some none)
 (fT:zaB K (.ref aV) "ways"=some none)
 (DC:zau K zcy "RowError"=some (some (.ref eO)))
 (wK:PySem.W.excIn K eO [.type "ValueError",.type "Exception",.type "BaseException",.type "object"] "ValueError.__new__"=true)
 (uC:zcd K (.ref eO) (.ref eO)=some true)
 (Gw:zau K zcy "TooMany"=some (some (.ref fQ)))
 (yA:PySem.W.excIn K fQ [.type "ValueError",.type "Exception",.type "BaseException",.type "object"] "ValueError.__new__"=true)
 (wL:zcd K (.ref fQ) (.ref fQ)=some true)
 (Uq:zau K zcy "END"=some (some (.int 0 Up)))
 (xb:zau K zcy "FIGURE_COUNT"=some (some (.int 10 w4)))
 (xN:zau K zcy "MOST_PLACES"=some (some (.int 2000 xI)))
 (iq:zau K zcy "len"=some none)
 (jV:zau K zcy "range"=some none)
 (Dh:zau K zcy "bool"=some none)
 (qM:zau K zcy "dict"=some none)
 (oS:zau K zcy "list"=some none)
 (m8:zau K zcy "tuple"=some none)
 (JS:zau K zcy "max"=some none)
 (JT:zau K zcy "min"=some none)
 (gO:zau K zcy "isinstance"=some none)
 (kN:zau K zcy "enumerate"=some none)
 (EX:zau K zcy "zip"=some none)
 (sr:zau K zcy "ValueError"=some none)
 {c Pt:Addr} (JE:zb0 K "first_inputs"=some (c,Pt)):∃fd:zcA,(∀(s:zcB) (v:Value),BindsTo s fd ⟨[v],[]⟩ [("script",v)])/\∀base:Heap,K.In base->base.Ns zcy mg->jP K mg base c Pt->bN l.prog w K mg base dU 30 fa fd ["script"] (zu K Pt):=by
 have e:=Yt.symm.trans (zbk X G Oj.1)
 cases e
 obtain⟨pN,tU⟩:=mJ X G QW (ps:=["program"]) fun _ _ _ _ _ _=>EL fun _=>rfl
 obtain⟨dX,cO⟩:=mJ X G w5 (ps:=["body", "behind"]) fun _ _ _ _ _ _=>Ar fun _ _=>rfl
 obtain⟨eC,bQ⟩:=mJ X G BP (ps:=["body", "behind"]) fun _ _ _ _ _ _=>Ar fun _ _=>rfl
 obtain⟨gn,fS⟩:=mJ X G xJ (ps:=["statement", "after"]) fun _ _ _ _ _ _=>Ar fun _ _=>rfl
 obtain⟨kj,j6⟩:=mJ X G Gp (ps:=["statement", "after"]) fun _ _ _ _ _ _=>Ar fun _ _=>rfl
 obtain⟨gC,eG⟩:=mJ X G BQ (ps:=["statement"]) fun _ _ _ _ _ _=>EL fun _=>rfl
 obtain⟨cI,cC⟩:=mJ X G uX (ps:=["body"]) fun _ _ _ _ _ _=>EL fun _=>rfl
 obtain⟨lV,c6⟩:=mJ X G M4 (ps:=["e", "values"]) fun _ _ _ _ _ _=>Ar fun _ _=>rfl
 obtain⟨mX,gE⟩:=mJ X G Gq (ps:=["chart", "row"]) fun _ _ _ _ _ _=>Ar fun _ _=>rfl
 obtain⟨kL,fD⟩:=mJ X G DA (ps:=["chart", "parts"]) fun _ _ _ _ _ _=>Ar fun _ _=>rfl
 obtain⟨kM,i5⟩:=mJ X G DB (ps:=["chart", "named"]) fun _ _ _ _ _ _=>Ar fun _ _=>rfl
 obtain⟨sk,pO⟩:=mJ X G M5 (ps:=["chart", "standing"]) fun _ _ _ _ _ _=>Ar fun _ _=>rfl
 obtain⟨mY,gF⟩:=mJ X G Gr (ps:=["chart", "standing", "figure"]) fun _ _ _ _ _ _=>Q8 fun _ _ _=>rfl
 obtain⟨eR,cV⟩:=mJ X G qR (ps:=["chart", "standing"]) fun _ _ _ _ _ _=>Ar fun _ _=>rfl
 obtain⟨ja,gG⟩:=mJ X G zY (ps:=["chart", "standing"]) fun _ _ _ _ _ _=>Ar fun _ _=>rfl
 obtain⟨jQ,eI⟩:=mJ X G BR (ps:=["program"]) fun _ _ _ _ _ _=>EL fun _=>rfl
 obtain⟨hX,eX⟩:=mJ X G o4 (ps:=["chart"]) fun _ _ _ _ _ _=>EL fun _=>rfl
 obtain⟨jb,gH⟩:=mJ X G zZ (ps:=["first", "led_from"]) fun _ _ _ _ _ _=>Ar fun _ _=>rfl
 obtain⟨mZ,gI⟩:=mJ X G Gu (ps:=["place", "led_from", "figures", "found"]) fun _ _ _ _ _ _=>bn4 fun _ _ _ _=>rfl
 obtain⟨eE,ay⟩:=mJ X G BS (ps:=["deck"]) fun _ _ _ _ _ _=>EL fun _=>rfl
 obtain⟨j5,bS⟩:=mJ X G Kw (ps:=["deck", "boxes", "deep"]) fun _ _ _ _ _ _=>Q8 fun _ _ _=>rfl
 obtain⟨jc,gJ⟩:=mJ X G Aa (ps:=["deck"]) fun _ _ _ _ _ _=>EL fun _=>rfl
 obtain⟨jd,gK⟩:=mJ X G Ab (ps:=["deck", "boxes", "k"]) fun _ _ _ _ _ _=>Q8 fun _ _ _=>rfl
 obtain⟨je,dE⟩:=mJ X G Ac (ps:=["pile"]) fun _ _ _ _ _ _=>EL fun _=>rfl
 obtain⟨iN,c7⟩:=mJ X G xK (ps:=["boxes", "rows", "mode"]) fun _ _ _ _ _ _=>Q8 fun _ _ _=>rfl
 obtain⟨hZ,cQ⟩:=mJ X G w8 (ps:=["deck", "many"]) fun _ _ _ _ _ _=>Ar fun _ _=>rfl
 obtain⟨jR,eJ⟩:=mJ X G BU (ps:=["rows"]) fun _ _ _ _ _ _=>EL fun _=>rfl
 obtain⟨m7,dY⟩:=mJ X G Gv (ps:=["rows", "matches", "at"]) fun _ _ _ _ _ _=>Q8 fun _ _ _=>rfl
 obtain⟨jS,ik⟩:=mJ X G BV (ps:=["rows"]) fun _ _ _ _ _ _=>EL fun _=>rfl
 obtain⟨cU,bZ⟩:=mJ X G sH (ps:=["body"]) fun _ _ _ _ _ _=>EL fun _=>rfl
 obtain⟨fO,bu⟩:=mJ X G Ae (ps:=["e", "values"]) fun _ _ _ _ _ _=>Ar fun _ _=>rfl
 obtain⟨ia,eY⟩:=mJ X G w9 (ps:=["boxes", "statement", "ways", "values", "figure"]) fun _ _ _ _ _ _=>bn5 fun _ _ _ _ _=>rfl
 obtain⟨jT,ip⟩:=mJ X G BW (ps:=["program", "rows"]) fun _ _ _ _ _ _=>Ar fun _ _=>rfl
 obtain⟨dQ,bM⟩:=mJ X G o8 (ps:=["made", "standing", "figure"]) fun _ _ _ _ _ _=>Q8 fun _ _ _=>rfl
 obtain⟨iO,c8⟩:=mJ X G xM (ps:=["made", "standing"]) fun _ _ _ _ _ _=>Ar fun _ _=>rfl
 obtain⟨gD,dZ⟩:=mJ X G uY (ps:=["made", "standing"]) fun _ _ _ _ _ _=>Ar fun _ _=>rfl
 obtain⟨jf,gM⟩:=mJ X G Ag (ps:=["made"]) fun _ _ _ _ _ _=>EL fun _=>rfl
 obtain⟨jg,gN⟩:=mJ X G Ah (ps:=["found"]) fun _ _ _ _ _ _=>EL fun _=>rfl
 obtain⟨tT,EW⟩:=mJ X G Oj (ps:=["script"]) fun _ _ _ _ _ _=>EL fun _=>rfl
 have jU:=Hq (st:=dy) Aj Ak Al
 have An:=jU.binds (ps:=["self", "program"]) fun _ _ _ _ _ _=>Ar fun _ _=>rfl
 let t:Ad:=⟨qL,
  pN,
  dO,
  dX,
  eB,
  eC,
  fM,
  gn,
  j4,
  kj,
  gu,
  gC,
  cB,
  cI,
  mW,
  lV,
  lW,
  mX,
  kl,
  kL,
  km,
  kM,
  sj,
  sk,
  lX,
  mY,
  dP,
  eR,
  iI,
  ja,
  jo,
  jQ,
  cf,
  hX,
  iJ,
  jb,
  fN,
  mZ,
  eD,
  eE,
  kn,
  j5,
  iK,
  jc,
  iL,
  jd,
  iM,
  je,
  g9,
  iN,
  gw,
  hZ,
  jq,
  jR,
  lY,
  m7,
  jr,
  jS,
  cN,
  cU,
  fC,
  fO,
  gx,
  ia,
  js,
  jT,
  de,
  dQ,
  hC,
  iO,
  fI,
  gD,
  iP,
  jf,
  iQ,
  jg,
  fa,
  tT,
  dC,
  zbb "__init__" "Chart.__init__" (kz dy) (hJ dy) (aN dy) .none qr qt qu qp k8 qv,
  aV,
  eO,
  fQ⟩
 have T:Tx K mg t:=⟨tU,
  cO,
  bQ,
  fS,
  j6,
  eG,
  cC,
  c6,
  gE,
  fD,
  i5,
  pO,
  gF,
  cV,
  gG,
  eI,
  eX,
  gH,
  gI,
  ay,
  bS,
  gJ,
  gK,
  dE,
  c7,
  cQ,
  eJ,
  dY,
  ik,
  bZ,
  bu,
  eY,
  ip,
  bM,
  c8,
  dZ,
  gM,
  gN,
  EW,
  jU,
  An,
  ⟨Kx,Ky,Kz,KA⟩,
  zbk X G M6,
  ⟨wJ,Ai,Am,KC⟩,
  gy,
  gA,
  iR,
  cR,
  fT,
  ⟨wK⟩,
  uC,
  zbk X G DC,
  ⟨yA⟩,
  wL,
  zbk X G Gw,
  ⟨_,zbk X G Uq,_,rfl⟩,
  ⟨_,zbk X G xb,_,rfl⟩,
  ⟨_,zbk X G xN,_,rfl⟩,
  zaz X G iq,
  zaz X G jV,
  zaz X G Dh,
  zaz X G qM,
  zaz X G oS,
  zaz X G m8,
  zaz X G JS,
  zaz X G JT,
  zaz X G gO,
  zaz X G kN,
  zaz X G EX,
  zaz X G sr⟩
 obtain⟨_,_,_,_,_,_,_,_,_,z,_⟩:=EW.F.ex
 exact⟨t.tT,fun s v=>by rw[show t.tT=_ from z];exact .of_eq rfl,fun base _ _ B=>QS T B (JF JE o4.1)⟩
theorem walk{l:PySem.W.OpenLaw}{q:zcD}{loose:List Str}{XP:(Str->Option Value)->Heap->Prop}{YP:World->Heap->Prop}{d dF:DefRec}{K:Params->k0}{c Pt:Addr}(hn:l.most=some 63)(O0:d.params.defaults=[])
 (hY:∀(w:World) (h:Heap),YP w h->(K w.params).In h) (Jz:(PyProof.Rows.recsOf q).find? (fun e=>e.name==("first_inputs":Str))=some dF) (JE:∀w:World,zb0 (K w.params) "first_inputs"=some (c,Pt)) (S4:∀w:World,(K w.params).lookup Pt=none)
 (F:∀(w:World) (mg:Str->Option Value) (fa:Addr) (h:Heap),(K w.params).In h->h.Ns zcy mg->mg d.name=some (.ref fa)->
  ∃fd:zcA,(∀(s:zcB) (u:Value),BindsTo s fd ⟨[u],[]⟩ [("script",u)])/\∀base:Heap,(K w.params).In base->base.Ns zcy mg->jP (K w.params) mg base c Pt->bN l.prog w (K w.params) mg base dU 30 fa fd ["script"] (zu (K w.params) Pt)) :
 PySem.W.WalkO q loose XP YP l.row.toRowW d [] (fun f vs=>PySem.call f vs):=
 L2.JD (n:=63) (k:=30) (x:="script") (CX:=fun _=>dU) (sp:=fun w=>zu (K w.params) Pt) hn (by decide) O0 ⟨rfl,by decide,by decide⟩ hY Jz JE S4 F (fun _ _ a ns hl hS hP=>⟨a,ns,rfl,hS,hl,hP,fun _=>rfl⟩) fun _ _ _ _ _ z=>z
end
end Qc
end
namespace PySem.W.Fast
theorem tw2230384158127016270:True:=trivial
theorem tw9175065448960084846:True:=trivial
theorem tw15783638553356834611:True:=trivial
theorem tw14562975063786254583:True:=trivial
theorem tw11421433981869604877:True:=trivial
theorem tw1164859828220666348:True:=trivial
theorem tw7497083627774033376:True:=trivial
theorem tw11286456927188591856:True:=trivial
theorem tw12155210350292557278:True:=trivial
theorem tw1785538648068790456:True:=trivial
theorem tw2128102855695008226:True:=trivial
theorem tw16691378354594479305:True:=trivial
theorem tw16704308618504144270:True:=trivial
theorem tw13778385339151576217:True:=trivial
theorem tw1461489090679993571:True:=trivial
theorem tw12005266581569226049:True:=trivial
theorem tw2113871330376017295:True:=trivial
theorem tw16887665283288912240:True:=trivial
theorem tw1467477772147234060:True:=trivial
theorem tw4744689127317706477:True:=trivial
theorem tw5694327452725223096:True:=trivial
theorem tw2630092145636035861:True:=trivial
theorem tw12498679600448364913:True:=trivial
theorem tw6293585865346348421:True:=trivial
theorem tw165367768620809162:True:=trivial
theorem tw12972428701706963151:True:=trivial
theorem tw13959886166218661574:True:=trivial
theorem tw11619047197394901212:True:=trivial
theorem tw7611186216089490462:True:=trivial
theorem tw16778211119543455279:True:=trivial
theorem tw13189630320524029827:True:=trivial
theorem tw1913399072842612957:True:=trivial
theorem tw6995412909297105155:True:=trivial
theorem tw16080021345106487856:True:=trivial
theorem tw18272533307579490322:True:=trivial
theorem tw1973619790708593971:True:=trivial
theorem tw11953744745228438987:True:=trivial
theorem tw7908566718508188106:True:=trivial
theorem tw2496992737597724629:True:=trivial
theorem tw9385686354433077712:True:=trivial
theorem tw11918453098428666357:True:=trivial
theorem tw11726061617878554337:True:=trivial
theorem tw2270974724764934266:True:=trivial
theorem tw13613764086448822956:True:=trivial
theorem tw9620425295486032443:True:=trivial
theorem tw11293565195044850667:True:=trivial
theorem tw13155481313447653141:True:=trivial
theorem tw11131170804509931122:True:=trivial
theorem tw16767297000471854936:True:=trivial
theorem tw14106995170195112648:True:=trivial
theorem tw14518448095914594518:True:=trivial
theorem tw3778722046290999633:True:=trivial
theorem tw12829999358502562158:True:=trivial
theorem tw7417050428303104995:True:=trivial
theorem tw7414541142474109501:True:=trivial
theorem tw6076134671669212399:True:=trivial
theorem tw8384085014984385342:True:=trivial
theorem tw12829317819226948954:True:=trivial
theorem tw2679517777749263421:True:=trivial
theorem tw9429419181566265246:True:=trivial
theorem tw494921242471007762:True:=trivial
theorem tw3892998118342028984:True:=trivial
theorem tw4872168489626277084:True:=trivial
theorem tw11011146871121346976:True:=trivial
theorem tw659887388549869610:True:=trivial
theorem tw3200141512651766975:True:=trivial
theorem tw11778919708864302968:True:=trivial
theorem tw4447183349919031615:True:=trivial
theorem tw15875423385285871657:True:=trivial
theorem tw2820534895281414877:True:=trivial
theorem tw14993390254799789737:True:=trivial
theorem tw17540394730627168276:True:=trivial
theorem tw1049845887150451205:True:=trivial
theorem tw5264261191262023893:True:=trivial
theorem tw6827741899628589792:True:=trivial
theorem tw848655621466395374:True:=trivial
theorem tw456113050254412906:True:=trivial
theorem tw2196846422311621854:True:=trivial
theorem tw3749591801888852542:True:=trivial
theorem tw1753772275431080486:True:=trivial
theorem tw9992982572800034171:True:=trivial
theorem tw2645200232749658301:True:=trivial
theorem tw2089412832827687121:True:=trivial
theorem tw15602726066035547867:True:=trivial
theorem tw755859784973267685:True:=trivial
theorem tw15093878311939451032:True:=trivial
theorem tw12001677462710826492:True:=trivial
theorem tw12363901493600961378:True:=trivial
end PySem.W.Fast
end
open PySem PySem.W PyProof.Rows
set_option maxRecDepth 100000 in
set_option maxHeartbeats 0 in
theorem PySem.Challenge.cw_everyrow_k27_whole_standings_found_holds : PySem.Challenge.rw_everyrow_k27_whole_standings_found.Holds := by
 w_on; o_law; k_head; (case hw=>w_witness2)
 k_fill
 refine' Qc.walk (l:=PySem.Challenge.rw_everyrow_k27_whole_standings_found) (c:=172) (Pt:=168) rfl rfl (fun w h Y=>PySem.W.km_in_of Y) ?R ?T ?L ?F
 case R=>exact rfl
 case T=>exact fun w=>by kernel_rfl
 case L=>exact fun w=>by kernel_rfl
 case F=>
   intro w mg fa h KX G O3
   refine' Qc.all_mk KX G O3 ?_ ?_ ?_ ?_ ?_ ?_ ?_ ?_ ?_ ?_ ?_ ?_ ?_ ?_ ?_ ?_ ?_ ?_ ?_ ?_ ?_ ?_ ?_ ?_ ?_ ?_ ?_ ?_ ?_ ?_ ?_ ?_ ?_ ?_ ?_ ?_ ?_ ?_ ?_ ?_ ?_ ?_ ?_ ?_ ?_ ?_ ?_ ?_ ?_ ?_ ?_ ?_ ?_ ?_ ?_ ?_ ?_ ?_ ?_ ?_ ?_ ?_ ?_ ?_ ?_ ?_ ?_ ?_ ?_ ?_ ?_ ?_ ?_ ?_ ?_ ?_ ?_ ?tb
   rotate_left 55
   iterate 39 (refine' L2.FH.of ?a ?l ?c ?k; (case a=>k_is); (case l=>k_is); (case c=>k_is); (case k=>k_is))
   iterate 18 (k_is)
   iterate 1 (k_exc)
   iterate 1 (kts_exm)
   iterate 1 (k_is)
   iterate 1 (k_exc)
   iterate 1 (kts_exm)
   iterate 15 (k_is)
   (case tb=>kernel_rfl)
