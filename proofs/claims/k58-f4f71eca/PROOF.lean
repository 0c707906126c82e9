import PyProof.Rows.All
import Wide.All
import OpenK.AllK
import Wide.FinOn
import Lean
import PyProof.EqAt
import PyProof.EqKinds
import PyProof.TupleCall
import PyProof.AttrMiss
import PyProof.IsiH_list
import PyProof.ZipIter
import PyProof.P3In
import PySem.Challenge.RW_everyrow_k58_alike_papers
set_option compiler.extract_closed false
set_option Elab.async false
set_option linter.all false
set_option maxRecDepth 100000
open PySem.W renaming Frag->zaa,findIn->zaI,nsIn->zaR,mg_none_of->za0,fnOf->zbg,kia_one->zbh,keepIn->zbo,emptyDict->zbp,instObj->zbF,mg_of->zbK,codeIn->zbX,plainGet->zb0,hasDictIn->zb8,isFn->zcg,plainOver->zcl,makesIn->zcv,plainGet_of->zcy,lookIn->zcD,callWith_K->zcH,methodObj->zcI,takerIn->zcY,cellsFrom_some->zc1,pyHash_slot->zdb
open List renaming length_map->zab,getElem?_eq_getElem->zac,length_append->zae,getElem?_map->zaf,mem_singleton->zai,getElem?_eq_some_iff->zaj,mem_append->zak,length_cons->zal,getElem_mem->zam,mem_cons->zan,mem_cons_of_mem->zao,getD_eq_getElem?_getD->zap,map_cons->zaq,mem_map->zar,map_append->zas,size_toArray->zat,append_assoc->zau,mem_cons_self->zaw,append_nil->zax,map_map->zaB,mem_of_getElem?->zaC,length_nil->zaF,take_length->zaH,mem_append_right->zaK,take_succ_eq_append_getElem->zaL,forIn_cons->zaM,length->zaQ,range->zaS,length_drop->zaU,flatten_append->zaW,flatten_cons->zaX,take_of_length_le->zaZ,getElem?_append_right->za2,mem_flatten->za3,pairwise_map->za4,not_mem_nil->za5,length_singleton->za6,mem_append_left->za8,set->zba,getElem?_append_left->zbb,drop_eq_getElem_cons->zbc,nodup_append->zbd,nodup_nil->zbf,mem_iff_getElem->zbj,pairwise_append->zbk,flatten_nil->zbl,forIn_nil->zbn,flatMap_append->zbq,nodup_cons->zbr,length_zip->zbs,length_take->zbt,lookup_cons->zbu,length_eq_zero_iff->zbw,nil_append->zby,getElem_map->zbz,pairwise_cons->zbA,getElem?_zip_eq_some->zbC,map_nil->zbE,flatMap_cons->zbI,length_range->zbJ,length_pos_iff->zbL,map_congr_left->zbM,mem_range->zbN,cons_append->zbO,drop_length->zbP,drop_of_length_le->zbQ,zipWith->zbR,pairwise_iff_getElem->zbU,lookup->zbV,take_succ->zbW,all_eq_true->zbY,map_flatMap->zbZ,filterMap_cons->zb1,any_cons->zb2,find?_cons->zb4,range_succ->zb5,getElem?_eq_none->zca,of_mem_zip->zcd,drop_zero->zci,take_add_one->zck,getElem?_set_self->zcm,ext_getElem->zcr,mem_iff_getElem?->zcs,getElem?_set_ne->zct,length_zipWith->zcx,replicate->zcA,mem_filterMap->zcG,getElem?_eq_none_iff->zcJ,any_eq_true->zcM,mem_flatMap->zcO,map_set->zcQ,getElem?_replicate->zcR,getElem?_cons_succ->zcS,length_set->zcW,zipWith_cons_cons->zc0,length_replicate->zc2,tail_cons->zc4,take_append_drop->zc5,take_zero->zc6,take_nil->zc8
open PySem.Str renaming ofString->zad
open Bool renaming false_ne_true->zag,false_eq_true->zav,not_true->zaY,and_eq_true->za9,eq_iff_iff->zcc,and_true->zco,true_and->zcp,false_and->zcz,not_false->zcC,and_false->zc3,or_false->zc7
open Nat renaming le_refl->zah,ne_of_lt->zay,le_trans->zaz,pow_le_pow_right->zaD,lt_of_lt_of_le->zaE,zero_le->zaG,ne_of_gt->zbm,lt_irrefl->zbv,lt_of_le_of_lt->zb3,min_eq_left->zb7,le_of_lt->zb9,min_eq_right->zcb,mul_le_mul->zcB,le_succ->zcE,sub_zero->zcL,pow_succ->zcN,not_lt_zero->zcX,mul_le_mul_left->zc9,lt_trans->zdc,zero_add->zdd,succ_mul->zde,sub_self->zdf
open PySem.F renaming plainAttrs_list->zaA,slot_list_append->zaN,type_list_append->zaO,slot_list_extend->zbG,type_list_extend->zbH,args_tuple_add_2->zch,entry_tuple_add->zcj,slot_tuple_add->zcn,plain_list_iadd->zcT,slot_list_index->zcU,type_list_index->zcV
open Array renaming length_toList->zaJ,getElem?_toList->zaV,getElem?_eq_getElem->zbB,forIn_toList->zbS,toList->zcK
open Int renaming toNat_natCast->zaP,emod_lt_of_pos->zb6,emod_nonneg->zce,mul_le_mul_of_nonneg_right->zcu,le_refl->zcF,le_trans->zcP,mul_one->zcZ,toNat_of_nonneg->zda,add_mul->zdg,one_mul->zdh
open Option renaming map_eq_some_iff->zaT,some->za1,map_some->zbx,isSome_map->zbT,isSome_iff_exists->zcf,getD_some->zcq
open PyProof.Rows renaming callWith_type1->za7,slot_tuple_getitem->zbD,wpAny_notIn_heap->zcw
open Or renaming inl->zbe,inr->zbi
open PySem renaming Addr->zdi,Value->zdj,World->zdk,wpAny_bind->zdl,wpAny_pure->zdm,wpAny_holding->zdn,starEach->zdo,mainGlobals->zdp,sizeLine->zdq,FuncData->zdr,Shared->zds,Around->zdt,Program->zdu
open PySem renaming wpAny->yaa,Heap->yaf,wpAny_field->yak,sysModules->yal,wpAny_seqItems->yam,wpAny_call_entry->yap,wpAny_newObj_type->yaq,compareOp->yar,Paired->yau,wpAny_mono->yav,wpAny_Call_Name_kw->yax,wpAny_isInstance->yaB,builtinLookup_eq_fast->yaD,wpAny_setField_rec->yaE,wpAny_typeNameOfWhole_keyiter->yaH,wpAny_tupleItemsOf->yaK,wpAny_passesOwn->yaM,wpAny_pyIter_list->yaP,pyNext->yaY,wpAny_specialOf->yaZ,codeAny_builtin->ya0,wpAny_truthy_bool->ya1,wpAny_rule->ya3,wpAny_typeOf->ya6,wpAny_pyNext_list_item->ybc,wpAny_pyNext_list_end->ybe,wpAny_execs_nil->ybf,codeAny_mono->ybg,wpAny_updateSeq->ybj
open PySem.Value renaming ref->yab,none->yas,bool->yaJ,type->ya2,str->ya5,int->ybd
open PySem.Heap renaming get?_push_of_some->yac,lt_size->yad,get?_push_size->yae,SameBut->yat,get?_update_self->yaw,get?_update_other->yaz,size_push->yaC,ExtBut->ybl
open PySem.PassesOwn renaming never->yag
open PySem.Builtin.SmallTypes renaming nextOf->yah,ownedTupleIsFree->yai,ownedTupleHandOut->yba
open PySem.Paired renaming length->yaj
open PySem.PyData renaming canLayAll0->yan,depthAll->yao,eqv->yaS,canLay0->ybb,depth->ybh
open PySem.F renaming slot_dict_keyiterator_next->yay,slot_tuple_eq->yaG,slot_tuple_iterator_next->yaO,slot_list_getattribute->yaV,slot_zip_getattribute->yaX,slot_zip_next->ybi
open PySem.NameKind renaming free->yaA
open PySem.Around renaming under_plainId->yaF
open PySem.Value.type renaming inj->yaI
open PySem.Builtin.List renaming listExtendWith->yaL,listTooLong->ya7,listLengthHint->ybn
open PySem.Builtin.Tuple renaming tupleItemsOf->yaN,tupleHashOf->yaT,tupleExact->yaU,tupleIsExact->ybp
open PySem.Builtin.Slice renaming slicePlaces->yaQ,sliceAdjust->ya4,sliceApplied->ybo
open PySem.Obj renaming mapSeq->yaR,data_mapFields->ya9
open PySem.Heap.SameBut renaming update->yaW
open PySem.SeqAt renaming shaped->ya8
open PySem.Builtin.Dict_items renaming ownsTuple->ybk
open PySem.Calls renaming spliced_cons->ybm
open PyProof.Rows.Boot renaming «all»->ybx,«bool»->yby,«dict»->ybz,«enumerate»->ybA,«int»->ybB,«isinstance»->ybC,«len»->ybD,«list»->ybE,«sorted»->ybF,«tuple»->ybG,«zip»->ybH
theorem ybq{c:Prop}{h:Decidable c}(k:¬c){α:Sort _}{t e:α}:ite c t e=e:=if_neg k
theorem ybr{c:Prop}{h:Decidable c}(k:c){α:Sort _}{t e:α}:ite c t e=t:=if_pos k
theorem ybs{p:Prop}[Decidable p](h:p):decide p=true:=decide_eq_true h
theorem ybt{p:Prop}[Decidable p](h:¬p):decide p=false:=decide_eq_false h
theorem ybu{p:Prop}[Decidable p](h:decide p=true):p:=of_decide_eq_true h
theorem ybv{α:Sort _}{β:Sort _}{a b:α}(f:α->β)(h:a=b):f a=f b:=congrArg f h
theorem ybw{a b:Prop}(x:a)(y:¬a):b:=absurd x y
noncomputable section
namespace L2
open PySem PySem.Spec PyProof.Rows
abbrev Key:=Sum Int Str
noncomputable def v7:Key->zdj->Bool
 |.inl k,v=>Value.isInt k v
 |.inr x,v=>Value.isStrOf x v
noncomputable def Vw (w:zdk):Key->Int
 |.inl k=>hashInt k
 |.inr x=>hashStr w x
theorem eI:∀{k:Key}{v:zdj},v7 k v=true->(∃i t,k=Sum.inl i/\v=ybd i t)\/(∃x t,k=Sum.inr x/\v=ya5 x t)
 |.inl i,v,h=>by
  obtain⟨t,e⟩:=Value.isInt_shape (k:=i) (v:=v) h;exact .inl ⟨i,t,rfl,e⟩
 |.inr x,v,h=>by
  obtain⟨t,e⟩:=Value.isStrOf_shape (x:=x) (v:=v) h;exact .inr ⟨x,t,rfl,e⟩
theorem MP(i:Int)(t:Tok):v7 (.inl i) (.int i t)=true:=by simp[v7,Value.isInt]
theorem MQ(x:Str)(t:Tok):v7 (.inr x) (.str x t)=true:=by simp[v7,Value.isStrOf]
theorem Vx(a b:Int):decide ((Sum.inl a:Key)=Sum.inl b)=(a==b):=by
 by_cases e:a=b
 .subst e;simp
 .have h:¬(Sum.inl a:Key)=Sum.inl b:=fun q=>e (Sum.inl.inj q);rw[ybt h];exact(beq_eq_false_iff_ne.mpr e).symm
theorem Vy(a b:Str):decide ((Sum.inr a:Key)=Sum.inr b)=decide (a=b):=by
 by_cases e:a=b
 .subst e;simp
 .have h:¬(Sum.inr a:Key)=Sum.inr b:=fun q=>e (Sum.inr.inj q);rw[ybt h,ybt e]
theorem Vz(a:Int)(b:Str):decide ((Sum.inl a:Key)=Sum.inr b)=false:=ybt (fun q=>nomatch q)
theorem VA(a:Str)(b:Int):decide ((Sum.inr a:Key)=Sum.inl b)=false:=ybt (fun q=>nomatch q)
def bF (prog:zdu)(w:zdk):PySem.KeyKind prog w Key where
 is:=v7
 hash:=Vw w
 inj:=fun v a b ha hb=>by
  rcases eI ha with ⟨i,t,rfl,rfl⟩ |⟨x,t,rfl,rfl⟩
  .rcases eI hb with ⟨j,u,rfl,e⟩ |⟨y,u,rfl,e⟩
   .injection e with e1 _;rw[e1]
   .exact nomatch e
  .rcases eI hb with ⟨j,u,rfl,e⟩ |⟨y,u,rfl,e⟩
   .exact nomatch e
   .injection e with e1 _;rw[e1]
 byValue:=fun k v h=>by
  rcases eI h with ⟨i,t,rfl,rfl⟩ |⟨x,t,rfl,rfl⟩<;>rfl
 pyHash:=fun hv h=>by
  rcases eI hv with ⟨i,t,rfl,rfl⟩ |⟨x,t,rfl,rfl⟩
  .exact wpAny_pyHash_int h
  .exact wpAny_pyHash_str h
 eqBool:=fun hu hv h=>by
  rcases eI hu with ⟨i,t,rfl,rfl⟩ |⟨x,t,rfl,rfl⟩
  .rcases eI hv with ⟨j,u,rfl,rfl⟩ |⟨y,u,rfl,rfl⟩
   .rw[Vx] at h;exact wpAny_eqBool_int h
   .rw[Vz] at h;exact SeqAt.EqAt.int_str i t y u _ _ _ _ h
  .rcases eI hv with ⟨j,u,rfl,rfl⟩ |⟨y,u,rfl,rfl⟩
   .rw[VA] at h;exact SeqAt.EqAt.str_int x t j u _ _ _ _ h
   .rw[Vy] at h;exact wpAny_eqBool_str h
 «strs»:=fun k x t v h=>by
  rcases eI h with ⟨i,u,rfl,e⟩ |⟨y,u,rfl,e⟩
  .exact nomatch e
  .injection e with e1 _
   subst e1;cases v<;>rfl
theorem GG(prog:zdu)(w:zdk)(i:Int)(t:Tok):(bF prog w).is (.inl i) (.int i t)=true:=MP i t
theorem GH(prog:zdu)(w:zdk)(x:Str)(t:Tok):(bF prog w).is (.inr x) (.str x t)=true:=MQ x t
inductive V where
 |cH |bl (b:Bool) |int (i:Int) |str (x:Str) |KZ (b:Array UInt8) |VB (b:UInt64) |ref (a:zdi) |ty (n:String)
 deriving DecidableEq
def RelV:V->zdj->Prop
 |.cH,u=>u=yas
 |.bl b,u=>u=yaJ b
 |.int i,u=>∃t,u=ybd i t
 |.str x,u=>∃t,u=ya5 x t
 |.KZ b,u=>∃t,u=Value.bytes b t
 |.VB b,u=>∃t,u=Value.float b t
 |.ref a,u=>u=yab a
 |.ty n,u=>u=ya2 n
abbrev Vals:List V->List zdj->Prop:=yau RelV
theorem Vals.length(r:Vals xs us):xs.length=us.length:=yaj r
theorem Vals.get:∀{xs:List V}{us:List zdj}{i:Nat}{x:V},Vals xs us->xs[i]?=some x->∃u,us[i]?=some u/\RelV x u
 |_,_,_,_,.nil,e=>by simp at e
 |_,_,0,_,.cons r _,e=>by simp at e;subst e;exact⟨_,rfl,r⟩
 |_,_,i+1,x,.cons _ t,e=>by
  obtain⟨u,h1,h2⟩:=Vals.get (i:=i) (x:=x) t (by simpa using e);exact⟨u,by simpa using h1,h2⟩
theorem Vals.set(r:RelV x u):∀{xs:List V}{us:List zdj}(i:Nat),Vals xs us->Vals (xs.set i x) (us.set i u)
 |_,_,_,.nil=>.nil
 |_,_,0,.cons _ t=>.cons r t
 |_,_,i+1,.cons q t=>.cons q (Vals.set r i t)
theorem Vals.append:∀{xs ys:List V}{us ws:List zdj},Vals xs us->Vals ys ws->Vals (xs++ys) (us++ws)
 |_,_,_,_,.nil,s=>s
 |_,_,_,_,.cons r t,s=>.cons r (Vals.append t s)
theorem Vals.take:∀{xs:List V}{us:List zdj}(n:Nat),Vals xs us->Vals (xs.take n) (us.take n)
 |_,_,0,_=>.nil
 |_,_,_+1,.nil=>.nil
 |_,_,n+1,.cons r t=>.cons r (Vals.take n t)
theorem Vals.drop:∀{xs:List V}{us:List zdj}(n:Nat),Vals xs us->Vals (xs.drop n) (us.drop n)
 |_,_,0,r=>r
 |_,_,_+1,.nil=>.nil
 |_,_,n+1,.cons _ t=>Vals.drop n t
def qM:Option V->Option zdj->Prop
 |some v,some u=>RelV v u
 |none,none=>True
 |_,_=>False
def KV {Y:Type}:List (Y×V)->List (Y×zdj)->Prop:=yau fun (p:Y×V) (q:Y×zdj)=>p.1=q.1/\RelV p.2 q.2
noncomputable def kV:Key->V
 |.inl i=>.int i
 |.inr x=>.str x
inductive HO where
 |lst (xs:List V)
 |tup (xs:List V)
 |dK (kvs:List (Key×V)) |dT (kvs:List (List Key×V))
 |set (S:Int->Bool) (n:Nat)
 |ins (C dx:zdi) (fs:List (Str×V))
 |own (x:zdi)
 |xd (fs:List (Str×V))
 |met (f x:zdi)
 |rng (lo hi:Int)
 |K0 (o:Obj) (u:HO)
 |VC (ps:Array zdj)
 |ext (φ:yaf->Prop)
abbrev Hp:=zdi->Option HO
noncomputable def upd (H:Hp)(a:zdi)(o:HO):Hp:=fun b=>if b=a then some o else H b
theorem ah:upd H a o a=some o:=by unfold upd;rw[ybr rfl]
theorem aI(h:b≠a):upd H a o b=H b:=by unfold upd;rw[ybq h]
theorem b5{H:Hp}(h:H a=some o)(h':H b=some u)(d:o≠u):a≠b:=by
 intro e;subst e;rw[h] at h';exact d (za1.inj h')
theorem aj{H:Hp}(h:H a=some o)(h':H b=none):a≠b:=by
 intro e;subst e;rw[h] at h';cases h'
section
variable(P:zdu)(w:zdk)
def cE (H:Hp)(h:yaf)(a:zdi):HO->Prop
 |.lst xs=>xs.length<=zdq/\∃(its:List zdj) (n:Nat),Vals xs its/\h.get? a=some {cls:=.type "list",data:=.seq its.toArray n}
 |.tup xs=>xs.length<=zdq/\∃its:List zdj,Vals xs its/\IsTup h a its.toArray
 |.dK kvs=>kvs.length<=zdq/\(a==yal)=false/\∃vs,KV kvs vs/\h.DictOf (bF P w) a vs
 |.dT kvs=>kvs.length<=zdq/\(a==yal)=false/\∃xs:List (List Key×zdi×zdj),
  yau (fun (p:List Key×V) (q:List Key×zdi×zdj)=>p.1=q.1/\H q.2.1=some (.tup (p.1.map kV))/\RelV p.2 q.2.2) kvs xs/\
  ∃o es ep,h.get? a=some o/\o.ExactDict/\o.data=.dict es ep/\es.toList=xs.map (entryOfKey (tupleKind (bF P w)))/\(xs.map (·.1)).Nodup
 |.set S n=>h.SetOf (intKind P w) a S n
 |.ins C dx fs=>H dx=some (.own a)/\fs.length<=1000/\dx≠a/\h.get? a=some (zbF C dx)/\
  ∃mA,h.Ns1 dx mA/\(∀f,qM (fs.lookup f) (mA f))/\PySem.Within mA (fs.map (·.1))
 |.own _=>∃o,h.get? a=some o
 |.xd fs=>∃mA,h.Ns1 a mA/\∀f,qM (fs.lookup f) (mA f)
 |.rng lo hi=>∃t u v,h.get? a=some {cls:=.type "range",data:=.fields #[.int lo t,.int hi u,.int 1 v]}
 |.K0 o u=>h.get? a=some o/\cE H h a u
 |.VC ps=>h.get? a=some {cls:=.none,data:=.fields ps}
 |.met f x=>h.get? a=some (zcI (.ref f) (.ref x))
 |.ext φ=>φ h/\(∃o,h.get? a=some o)/\∀h1 h2:yaf,φ h1->(∀o,h1.get? a=some o->h2.get? a=some o)->φ h2
def sN (H:Hp)(h:yaf):Prop:=∀a o,H a=some o->cE P w H h a o
end
section
variable{P:zdu}{w:zdk}{H H':Hp}{h h':yaf}{a:zdi}{o:HO}
theorem cE.lt(x:cE P w H h a o):a<h.objs.size:=by
 cases o with
 |lst xs=>obtain⟨_,_,_,_,e⟩:=x;exact yad e
 |tup xs=>obtain⟨_,_,_,p⟩:=x;exact p.lt
 |dK kvs=>obtain⟨_,_,_,_,o,_,_,e,_⟩:=x;exact yad e
 |dT kvs=>obtain⟨_,_,_,_,o,_,_,e,_⟩:=x;exact yad e
 |set S n=>obtain⟨o,_,_,_,e,_⟩:=x;exact yad e
 |ins C dx fs=>obtain⟨_,_,_,e,_⟩:=x;exact yad e
 |own y=>obtain⟨_,e⟩:=x;exact yad e
 |xd fs=>obtain⟨_,⟨_,_,_,e,_⟩,_⟩:=x;exact yad e
 |rng lo hi=>obtain⟨_,_,_,e⟩:=x;exact yad e
 |K0 ob u=>obtain⟨e,_⟩:=x;exact yad e
 |VC ps=>exact yad (show h.get? a=some _ from x)
 |met f y=>exact yad (show h.get? a=some _ from x)
 |ext φ=>obtain⟨_,⟨_,e⟩,_⟩:=x;exact yad e
theorem yau.MR{Z L:Type}{F G:Z->L->Prop}:∀{l₁:List Z}{l₂:List L},yau F l₁ l₂->(∀a b,F a b->G a b)->yau G l₁ l₂
 |_,_,.nil,_=>.nil
 |_,_,.cons r t,f=>.cons (f _ _ r) (yau.MR t f)
theorem cE.i9(x:cE P w H h a o)(k:∀b u,(b=a\/H b=some (.own a))->h.get? b=some u->h'.get? b=some u)
 (ho:∀b,H b=some (.own a)->H' b=some (.own a)) (ht:∀b xs,H b=some (.tup xs)->H' b=some (.tup xs)):cE P w H' h' a o:=by
 induction o with
 |lst xs=>obtain⟨z,its,n,r,e⟩:=x;exact⟨z,its,n,r,k _ _ (.inl rfl) e⟩
 |tup xs=>obtain⟨z,its,r,ob,e,c⟩:=x;exact⟨z,its,r,ob,k _ _ (.inl rfl) e,c⟩
 |dK kvs=>obtain⟨z,y,vs,r,ob,es,ep,e,c⟩:=x;exact⟨z,y,vs,r,ob,es,ep,k _ _ (.inl rfl) e,c⟩
 |dT kvs=>
  obtain⟨z,y,xs,r,ob,es,ep,e,c⟩:=x;exact⟨z,y,xs,yau.MR r fun p q z=>⟨z.1,ht _ _ z.2.1,z.2.2⟩,ob,es,ep,k _ _ (.inl rfl) e,c⟩
 |set S n=>obtain⟨ob,es,ep,t,e,c⟩:=x;exact⟨ob,es,ep,t,k _ _ (.inl rfl) e,c⟩
 |ins C dx fs=>
  obtain⟨d,z,ne,e,mA,⟨od,es,ep,e2,c⟩,r⟩:=x;exact⟨ho _ d,z,ne,k _ _ (.inl rfl) e,mA,⟨od,es,ep,k _ _ (.inr d) e2,c⟩,r⟩
 |own y=>obtain⟨ob,e⟩:=x;exact⟨ob,k _ _ (.inl rfl) e⟩
 |xd fs=>obtain⟨mA,⟨od,es,ep,e,c⟩,r⟩:=x;exact⟨mA,⟨od,es,ep,k _ _ (.inl rfl) e,c⟩,r⟩
 |rng lo hi=>obtain⟨t,u,v,e⟩:=x;exact⟨t,u,v,k _ _ (.inl rfl) e⟩
 |K0 ob u ih=>obtain⟨e,q⟩:=x;exact⟨k _ _ (.inl rfl) e,ih q⟩
 |VC ps=>
  have e:h.get? a=some {cls:=.none,data:=.fields ps}:=x;show h'.get? a=some {cls:=.none,data:=.fields ps};exact k a _ (.inl rfl) e
 |met f y=>
  have e:h.get? a=some (zcI (.ref f) (.ref y)):=x;show h'.get? a=some (zcI (.ref f) (.ref y));exact k a _ (.inl rfl) e
 |ext φ=>obtain⟨p,⟨o,e⟩,st⟩:=x;exact⟨st _ _ p fun o q=>k _ _ (.inl rfl) q,⟨o,k _ _ (.inl rfl) e⟩,st⟩
theorem sN.lt(x:sN P w H h)(e:H a=some o):a<h.objs.size:=(x a o e).lt
theorem sN.fresh(x:sN P w H h)(e:h.objs.size<=a):H a=none:=by
 cases q:H a with
 |none=>rfl
 |some u=>exact ybw (zaE (x.lt q) e) (zbv _)
theorem sN.kept(x:sN P w H h)(k:∀b u,h.get? b=some u->h'.get? b=some u):sN P w H h':=fun a o e=>
 (x a o e).i9 (fun b u _ q=>k b u q) (fun _ q=>q) fun _ _ q=>q
theorem sN.laid(x:sN P w H h)(k:∀b u,h.get? b=some u->h'.get? b=some u)(hp:h.objs.size<=a)(new:cE P w (upd H a o) h' a o):sN P w (upd H a o) h':=fun b u e=>by
 have hn:=x.fresh hp;by_cases hb:b=a
 .subst hb;rw[ah] at e;cases e;exact new
 .rw[aI hb] at e;exact(x b u e).i9 (fun c v _ q=>k c v q) (fun c q=>by rw[aI (aj q hn)];exact q) fun c xs q=>by rw[aI (aj q hn)];exact q
end
def Rd (H:Hp)(a:zdi)(u:HO):Prop:=H a=some u\/∃o,H a=some (.K0 o u)
theorem Rd.ok(r:Rd H a u)(x:sN P w H h):cE P w H h a u:=by
 rcases r with r |⟨o,r⟩
 .exact x a u r
 .obtain⟨_,q⟩:=x a _ r;exact q
def Yu:Option HO->Prop
 |some (.lst _)=>True
 |some (.dK _)=>True
 |some (.dT _)=>True
 |some (.set _ _)=>True
 |some (.ins _ _ _)=>True
 |some (.ext _)=>True
 |_=>False
section
variable{P:zdu}{w:zdk}{H:Hp}{h h':yaf}{x e:zdi}{o':HO}
theorem sN.write(ok:sN P w H h)(mu:Yu (H x))(he:e=x\/H e=some (.own x))(k:∀b u,b≠e->h.get? b=some u->h'.get? b=some u)(XF:∃u,h'.get? e=some u)
 (new:cE P w (upd H x o') h' x o'):sN P w (upd H x o') h':=fun b u q=>by
 have Yv:∀c y,H c=some (.own y)->c≠x:=fun c y r z=>by subst z;rw[r] at mu;exact mu
 have acp:∀c xs,H c=some (.tup xs)->c≠x:=fun c xs r z=>by subst z;rw[r] at mu;exact mu
 by_cases hb:b=x
 .subst hb;rw[ah] at q;cases q;exact new
 .rw[aI hb] at q;by_cases VD:b=e
  .have q':H b=some (.own x):=by
    rcases he with z |z
    .exact ybw (VD.trans z) hb
    .rw[VD];exact z
   rw[q] at q';cases q';obtain⟨v,hv⟩:=XF;exact⟨v,by rw[VD];exact hv⟩
  .refine(ok b u q).i9 (fun c v hc r=>k c v ?_ r) (fun c r=>by rw[aI (Yv c b r)];exact r) fun c xs r=>by rw[aI (acp c xs r)];exact r
   rcases hc with rfl |hc
   .exact VD
   .rintro rfl
    rcases he with z |z
    .exact Yv c b hc z
    .rw[hc] at z;cases z;exact hb rfl
end
structure Un(fs ex:List zdi)(H H':Hp)(h h':yaf):Prop where
 keep:∀b o,h.get? b=some o->H b=none->b ∉ fs->b ∉ ex->h'.get? b=some o
 slot:∀b o,h.get? b=some o->H b=none->b∈fs->b ∉ ex->∃sl,h'.get? b=some {o with slots:=sl}
 free:∀b o,h.get? b=some o->H b=none->b ∉ ex->H' b=none
 there:∀b o,h.get? b=some o->b ∉ ex->∃o',h'.get? b=some o'
 Ew:∀b xs,H b=some (.tup xs)->H' b=some (.tup xs)
 CA:∀b o u,H b=some (.K0 o u)->H' b=some (.K0 o u)
 Ex:∀b ps,H b=some (.VC ps)->∃more,H' b=some (.VC (ps++more))
section
variable{fs fs' ex ex':List zdi}{H H1 H2:Hp}{h h1 h2 h':yaf}{a x e:zdi}{o:HO}
theorem Un.any(u:Un fs ex H H1 h h1)(q:h.get? b=some ob)(n:H b=none)(hx:b ∉ ex):∃sl,h1.get? b=some {ob with slots:=sl}:=by
 by_cases hb:b∈fs
 .exact u.slot b ob q n hb hx
 .exact⟨ob.slots,u.keep b ob q n hb hx⟩
theorem Un.kept(k:∀b u,h.get? b=some u->h'.get? b=some u):Un fs ex H H h h':=
 ⟨fun b ob q _ _ _=>k b ob q,fun b ob q _ _ _=>⟨ob.slots,k b ob q⟩,fun _ _ _ n _=>n,fun b ob q _=>⟨ob,k b ob q⟩,fun _ _ q=>q,fun _ _ _ q=>q,fun _ ps q=>⟨#[],by rw[q];simp⟩⟩
theorem Un.refl:Un fs ex H H h h:=Un.kept fun _ _ q=>q
theorem Un.laid(k:∀b u,h.get? b=some u->h'.get? b=some u)(hp:h.objs.size<=a)(hn:H a=none):Un fs ex H (upd H a o) h h' where
 keep:=fun b u q _ _ _=>k b u q
 slot:=fun b u q _ _ _=>⟨u.slots,k b u q⟩
 free:=fun b u q n _=>by rw[aI (zay (zaE (yad q) hp))];exact n
 there:=fun b u q _=>⟨u,k b u q⟩
 Ew:=fun b xs q=>by rw[aI (aj q hn)];exact q
 CA:=fun b u xs q=>by rw[aI (aj q hn)];exact q
 Ex:=fun b ps q=>⟨#[],by rw[aI (aj q hn),q];simp⟩
theorem Un.write(mu:Yu (H x))(he:e=x\/H e=some (.own x))(k:∀b u,b≠e->h.get? b=some u->h'.get? b=some u)(XF:∃u,h'.get? e=some u):Un fs ex H (upd H x o) h h':=by
 have hx:∀b,H b=none->b≠x:=fun b n z=>by subst z;rw[n] at mu;exact mu
 have hb:∀b,H b=none->b≠e:=fun b n z=>by
  subst z;rcases he with r |r
  .exact hx b n r
  .rw[n] at r;cases r
 have hm:∀b u,H b=some u->¬Yu (some u)->b≠x:=fun b u q nm z=>by subst z;rw[q] at mu;exact nm mu
 refine⟨fun b u q n _ _=>k b u (hb b n) q,fun b u q n _ _=>⟨u.slots,k b u (hb b n) q⟩,fun b u q n _=>by rw[aI (hx b n)];exact n,fun b u q _=>?_,
  fun b xs q=>by rw[aI (hm b _ q fun z=>z)];exact q,fun b u xs q=>by rw[aI (hm b _ q fun z=>z)];exact q,fun b ps q=>⟨#[],by rw[aI (hm b _ q fun z=>z),q];simp⟩⟩
 by_cases VD:b=e
 .subst VD;exact XF
 .exact⟨u,k b u VD q⟩
end
noncomputable def trk (h:yaf)(H:Hp):List zdi:=(zaS h.objs.size).filter fun a=>(H a).isSome
def Ey (h:yaf)(H:Hp):yaf:=PySem.W.hideAll h (trk h H)
theorem MS(h:yaf)(H:Hp):(Ey h H).objs.size=h.objs.size:=PySem.W.hideAll_size _ _
theorem Om(e:h.get? b=some o)(n:H b=none):(Ey h H).get? b=some o:=
 PySem.W.hideAll_get _ e fun hm=>by
  have q:(H b).isSome=true:=(List.mem_filter.mp hm).2;rw[n] at q;simp at q
theorem SJ(e:(Ey h H).get? b=some o):h.get? b=some o/\H b=none:=by
 have e':h.get? b=some o:=PySem.W.of_hideAll (trk h H) e;refine⟨e',?_⟩;cases q:H b with
 |none=>rfl
 |some x=>
  have hm:b∈trk h H:=List.mem_filter.mpr ⟨zbN.mpr (yad e'),by simp[q]⟩;have z:(Ey h H).get? b=none:=PySem.W.hideAll_none (trk h H) hm;rw[z] at e;cases e
structure Mod(K:zaa)(mg:Str->Option zdj)(base:yaf):Prop where
 Yw:K.In base
 glob:base.Ns zdp mg
 blt:∃mb,base.Ns builtinsNs mb/\∀x:Str,x≠"__name__"->mb x=bootBuiltins x
 nolimit:base.NoLimit
set_option genInjectivity false in
set_option genSizeOf false in
structure Cx where
 prog:zdu
 w:zdk
 K:zaa
 mg:Str->Option zdj
 base:yaf
 A:zdt
 N:List Str
 s₀:zds
 H₀:Hp
 env:Env
 outer:List Env
 stack:List Env
 ex:List zdi
 fn:Str->Bool
 calm:Bool
 pn:List (zdi×Obj)
 xe:zdj->zds->Prop
noncomputable def Oq (l:List Env):List zdi:=l.filterMap (·.frame)
abbrev Cx.fs (X:Cx):List zdi:=Oq X.outer
def Ut (sc:Scope)(x:Str):Prop:=sc.names.lookup x=some .local\/sc.names.lookup x=some .cell\/sc.names.lookup x=some .free
def Loc (sc:Scope)(x:Str):Prop:=sc.names.lookup x=some .local\/sc.names.lookup x=some .cell
def Look (env:Env)(h:yaf)(m:Str->Option zdj)(x:Str)(u:zdj):Prop:=
 (env.kindOf x=some .local/\m x=some u)\/((env.kindOf x=some .cell\/env.kindOf x=some .free)/\∃c,env.cells.lookup x=some c/\h.IsCell c (some u))
structure Cx.Ok(X:Cx):Prop where
 mod:Mod X.K X.mg X.base
 kind:X.env.scope.kind=.function
 glob:X.env.globals=zdp
 blt:X.env.builtins=builtinsNs
 above:X.s₀.heap.objs.size<=X.env.locals
 inj:∀x y c,X.env.cells.lookup x=some c->X.env.cells.lookup y=some c->x=y
 has:∀x,(X.env.kindOf x=some .cell\/X.env.kindOf x=some .free)->∃c,X.env.cells.lookup x=some c
 Yx:∀x c,X.fn x=true->X.env.cells.lookup x=some c->X.s₀.heap.objs.size<=c
 hd:X.calm=true->X.A.handled=none
 frames:X.A.frames=some X.stack
 stk:X.stack=X.outer\/(X.stack=X.env::X.outer/\X.env.frame=some X.env.locals)
 exf:∀b∈X.ex,b≠X.env.locals/\∀x c,X.env.cells.lookup x=some c->c≠b
 bs:∀b o,X.base.get? b=some o->X.s₀.heap.get? b=some o/\X.H₀ b=none
 SK:X.base.objs.size<=X.s₀.heap.objs.size
 Ot:∀b o,X.base.get? b=some o->b ∉ X.ex
 SM:∀b∈X.ex,b ∉ X.fs
 AJ:X.s₀.heap.FunFrames X.base X.outer
 VE:∀b∈X.fs,X.H₀ b=none
structure Inv(X:Cx)(pins:List (zdi×Obj))(G:List (Option V))(H:Hp)(s:zds):Prop where
 ok:X.Ok
 os:s.os=X.s₀.os
 bare:AllBare s.gens
 base:Un X.fs X.ex X.H₀ H X.s₀.heap s.heap
 loc:∃m,s.heap.Ns X.env.locals m/\∀(i:Nat) (x:Str) (v:V),X.N[i]?=some x->G[i]?=some (some v)->Ut X.env.scope x->∃u,RelV v u/\Look X.env s.heap m x u
 cell:∀x c,X.env.cells.lookup x=some c->∃v,s.heap.IsCell c v
 free:H X.env.locals=none
 tL:∀x c,X.env.cells.lookup x=some c->H c=none
 pin:∀p∈X.pn++pins,s.heap.get? p.1=some p.2/\H p.1=none/\p.1≠X.env.locals/\p.1 ∉ X.fs/\∀v,p.2.data≠.cell v
 dW:sN X.prog X.w H s.heap
 len:G.length=X.N.length
section
variable{X:Cx}{pins:List (zdi×Obj)}{G:List (Option V)}{H H':Hp}{s:zds}{h':yaf}
theorem Cx.Ok.acq(ok:X.Ok)(e:X.base.get? b=some o):b ∉ X.fs:=fun hb=>by
 have:=(ok.AJ.mem hb).1;rw[e] at this;cases this
theorem Inv.bs(I:Inv X pins G H s):∀b o,X.base.get? b=some o->s.heap.get? b=some o/\H b=none:=fun b o e=>
 ⟨I.base.keep b o (I.ok.bs b o e).1 (I.ok.bs b o e).2 (I.ok.acq e) (I.ok.Ot b o e),I.base.free b o (I.ok.bs b o e).1 (I.ok.bs b o e).2 (I.ok.Ot b o e)⟩
theorem Inv.bk(I:Inv X pins G H s):∀b o,X.base.get? b=some o->s.heap.get? b=some o:=fun b o e=>(I.bs b o e).1
theorem Inv.mod(I:Inv X pins G H s):Mod X.K X.mg X.base:=I.ok.mod
theorem Inv.AK(I:Inv X pins G H s):X.K.In s.heap:=I.ok.mod.Yw.keeps I.bk
theorem Inv.lt(I:Inv X pins G H s):X.env.locals<s.heap.objs.size:=let ⟨_,hn,_⟩:=I.loc;hn.lt
theorem Inv.sz(I:Inv X pins G H s):X.s₀.heap.objs.size<=s.heap.objs.size:=zaz I.ok.above (zb9 I.lt)
theorem Inv.acr(I:Inv X pins G H s){a:zdi}(h:s.heap.objs.size<=a):a ∉ X.fs:=fun hb=>by
 obtain⟨_,o,ho,_⟩:=I.ok.AJ.mem hb;exact ybw (zaE (yad ho) (zaz I.sz h)) (zbv _)
theorem Inv.VF(I:Inv X pins G H s):∀x c,X.env.cells.lookup x=some c->c≠X.env.locals:=fun x c e z=>by
 obtain⟨v,o,ho,hd⟩:=I.cell x c e;obtain⟨m,⟨o',es,ep,VG,VH,_⟩,_⟩:=I.loc;rw[z,VG] at ho;cases ho;rw[VH] at hd;cases hd
theorem Inv.AJ(I:Inv X pins G H s):s.heap.FunFrames X.base X.outer:=by
 have all:∀(l:List Env),(∀b∈Oq l,b∈X.fs)->X.s₀.heap.FunFrames X.base l->s.heap.FunFrames X.base l:=by
  intro l
  induction l with
  |nil=>intro _ _;trivial
  |cons env r ih=>
   intro hs hl;obtain⟨hk,⟨L,o,hf,hn,ho,hd⟩,hr⟩:=hl;have hL:L∈X.fs:=hs L (by unfold Oq;rw[zb1,hf];exact zaw);obtain⟨sl,e⟩:=I.base.slot L o ho (I.ok.VE L hL) hL fun z=>I.ok.SM L z hL;exact⟨hk,⟨L,_,hf,hn,e,hd⟩,ih (fun b hb=>hs b (by unfold Oq;rw[zb1,hf];exact zao _ hb)) hr⟩
 exact all X.outer (fun _ hb=>hb) I.ok.AJ
theorem Inv.stack(I:Inv X pins G H s):s.heap.FunFrames X.base X.stack:=by
 rcases I.ok.stk with e |⟨e,hf⟩
 .rw[e];exact I.AJ
 .rw[e];obtain⟨m,hn,_⟩:=I.loc;refine .cons (by rw[I.ok.kind];decide) hf hn ?_ I.AJ;exact Heap.get?_none_of_le (zaz I.ok.SK I.ok.above)
theorem Inv.Ez(I:Inv X pins G H s):∀b∈Oq X.stack,b∈X.env.locals::X.fs:=fun b hb=>by
 rcases I.ok.stk with e |⟨e,hf⟩
 .rw[e] at hb;exact zao _ hb
 .rw[e] at hb;unfold Oq at hb;rw[zb1,hf] at hb;exact hb
theorem Inv.K1(I:Inv X pins G H s):∀b∈Oq X.stack,H b=none:=fun b hb=>by
 rcases zan.mp (I.Ez b hb) with e |hb
 .rw[e];exact I.free
 .obtain⟨_,o,ho,_⟩:=I.ok.AJ.mem hb;exact I.base.free b o ho (I.ok.VE b hb) fun z=>I.ok.SM b z hb
theorem Inv.step{ch:List zdi}(I:Inv X pins G H s)
 (R9:∀b∈ch,(b∈X.ex\/X.s₀.heap.objs.size<=b)/\b≠X.env.locals/\(∀x c,X.env.cells.lookup x=some c->c≠b)/\∀p∈X.pn++pins,p.1≠b)
 (keep:∀b o,b≠X.env.locals->b ∉ X.fs->b ∉ ch->s.heap.get? b=some o->H b=none->h'.get? b=some o)
 (slot:∀b o,b≠X.env.locals->b∈X.fs->b ∉ ch->s.heap.get? b=some o->H b=none->∃sl,h'.get? b=some {o with slots:=sl}) (free:∀b o,b ∉ ch->s.heap.get? b=some o->H b=none->H' b=none)
 (there:∀b o,b ∉ ch->s.heap.get? b=some o->∃o',h'.get? b=some o')
 (Ew:∀b xs,H b=some (.tup xs)->H' b=some (.tup xs)) (CA:∀b o u,H b=some (.K0 o u)->H' b=some (.K0 o u)) (Ex:∀b ps,H b=some (.VC ps)->∃more,H' b=some (.VC (ps++more)))
 (ns:∀m,s.heap.Ns X.env.locals m->h'.Ns X.env.locals m) (dW:sN X.prog X.w H' h') (hg:AllBare g') :
 Inv X pins G H' {s with heap:=h',gens:=g',drawn:=d',toks:=t' }:=by
 have neL:∀b o,X.s₀.heap.get? b=some o->b≠X.env.locals:=fun b o e=>zay (zaE (yad e) I.ok.above);have neC:∀b o,X.s₀.heap.get? b=some o->b ∉ X.ex->b ∉ ch:=fun b o e hx hb=>by
  rcases(R9 b hb).1 with z |z
  .exact hx z
  .exact ybw (zaE (yad e) z) (zbv _)
 have cellK:∀x c,X.env.cells.lookup x=some c->∀v,s.heap.IsCell c v->h'.IsCell c v:=fun x c e v ⟨o,ho,hd⟩=>by
  have Yy:c ∉ ch:=fun z=>(R9 c z).2.2.1 x c e rfl;by_cases hc:c∈X.fs
  .obtain⟨sl,q⟩:=slot c o (I.VF x c e) hc Yy ho (I.tL x c e);exact⟨_,q,hd⟩
  .exact⟨o,keep c o (I.VF x c e) hc Yy ho (I.tL x c e),hd⟩
 refine⟨I.ok,I.os,hg,⟨fun b o e n hb hx=>?_,fun b o e n hb hx=>?_,fun b o e n hx=>?_,fun b o e hx=>?_,fun b xs e=>Ew b xs (I.base.Ew b xs e),fun b o xs e=>CA b o xs (I.base.CA b o xs e),fun b ps e=>?_⟩,?_,fun x c e=>?_,?_,fun x c e=>?_,fun p hp=>?_,dW,I.len⟩
 .exact keep b o (neL b o e) hb (neC b o e hx) (I.base.keep b o e n hb hx) (I.base.free b o e n hx)
 .obtain⟨sl,e1⟩:=I.base.slot b o e n hb hx;obtain⟨sl',e2⟩:=slot b _ (neL b o e) hb (neC b o e hx) e1 (I.base.free b o e n hx);exact⟨sl',e2⟩
 .obtain⟨o',e1⟩:=I.base.there b o e hx;exact free b o' (neC b o e hx) e1 (I.base.free b o e n hx)
 .obtain⟨o',e1⟩:=I.base.there b o e hx;exact there b o' (neC b o e hx) e1
 .obtain⟨m1,e1⟩:=I.base.Ex b ps e;obtain⟨m2,e2⟩:=Ex b _ e1;exact⟨m1++m2,by rw[e2,Array.append_assoc]⟩
 .obtain⟨m,hn,hl⟩:=I.loc;refine⟨m,ns m hn,fun i x v e1 e2 e3=>?_⟩;obtain⟨u,r,l⟩:=hl i x v e1 e2 e3;refine⟨u,r,?_⟩;rcases l with l |⟨k,c,e,z⟩
  .exact .inl l
  .exact .inr ⟨k,c,e,cellK x c e _ z⟩
 .obtain⟨v,z⟩:=I.cell x c e;exact⟨v,cellK x c e v z⟩
 .obtain⟨m,⟨o,_,_,ho,_⟩,_⟩:=I.loc;exact free _ o (fun z=>(R9 _ z).2.1 rfl) ho I.free
 .obtain⟨v,o,ho,hd⟩:=I.cell x c e;exact free c o (fun z=>(R9 c z).2.2.1 x c e rfl) ho (I.tL x c e)
 .obtain⟨e,n,ne,nf,d⟩:=I.pin p hp;have Yy:p.1 ∉ ch:=fun z=>(R9 p.1 z).2.2.2 p hp rfl;exact⟨keep p.1 p.2 ne nf Yy e n,free p.1 p.2 Yy e n,ne,nf,d⟩
theorem Inv.un(I:Inv X pins G H s)(u:Un X.fs [] H H' s.heap h')(dW:sN X.prog X.w H' h'):Inv X pins G H' {s with heap:=h',toks:=t' }:=by
 obtain⟨m,⟨o,es,ep,ho,r⟩,_⟩:=id I.loc;obtain⟨sl,hL⟩:=u.any ho I.free (by simp);exact I.step (g':=s.gens) (d':=s.drawn) (ch:=[]) (fun _ z=>nomatch z) (fun b o _ hb _ e n=>u.keep b o e n hb (by simp)) (fun b o _ hb _ e n=>u.slot b o e n hb (by simp)) (fun b o _ e n=>u.free b o e n (by simp)) (fun b o _ e=>u.there b o e (by simp)) u.Ew u.CA u.Ex (fun m' hm=>by
  obtain⟨o',es',Yz,VG,r'⟩:=hm;rw[ho] at VG;cases VG;exact⟨_,es',Yz,hL,r'⟩) dW I.bare
theorem Inv.call(I:Inv X pins G H s)(u:Un (Oq X.stack) ch H H' s.heap h')(dW:sN X.prog X.w H' h')(hg:AllBare g')
 (R9:∀b∈ch,(b∈X.ex\/X.s₀.heap.objs.size<=b)/\b≠X.env.locals/\(∀x c,X.env.cells.lookup x=some c->c≠b)/\∀p∈X.pn++pins,p.1≠b) :
 Inv X pins G H' {s with heap:=h',gens:=g',drawn:=d',toks:=t' }:=by
 obtain⟨m,⟨o,es,ep,ho,r⟩,_⟩:=id I.loc;obtain⟨sl,hL⟩:=u.any ho I.free fun z=>(R9 _ z).2.1 rfl;exact I.step (ch:=ch) R9 (fun b o hL hb hc e n=>u.keep b o e n (fun z=>(zan.mp (I.Ez b z)).elim hL hb) hc) (fun b o _ _ hc e n=>u.any e n hc) (fun b o hc e n=>u.free b o e n hc) (fun b o hc e=>u.there b o e hc) u.Ew u.CA u.Ex (fun m' hm=>by
  obtain⟨o',es',Yz,VG,r'⟩:=hm;rw[ho] at VG;cases VG;exact⟨_,es',Yz,hL,r'⟩) dW hg
theorem Inv.turned(I:Inv X pins G H s)(k:∀b o,b≠it->s.heap.get? b=some o->h'.get? b=some o)(hn:H it=none)(hL:it≠X.env.locals)
 (h1:it∈X.ex\/X.s₀.heap.objs.size<=it) (h2:∀x c,X.env.cells.lookup x=some c->c≠it) (h3:∀p∈X.pn++pins,p.1≠it):Inv X pins G H {s with heap:=h',toks:=t' }:=by
 have YA:∀b u,H b=some u->b≠it:=fun b u e z=>by rw[z,hn] at e;cases e
 refine I.step (g':=s.gens) (d':=s.drawn) (ch:=[it]) (fun b hb=>?_) (fun b o _ _ hc e _=>k b o (fun z=>hc (by simp[z])) e) (fun b o _ _ hc e _=>⟨o.slots,k b o (fun z=>hc (by simp[z])) e⟩) (fun _ _ _ _ n=>n)
  (fun b o hc e=>⟨o,k b o (fun z=>hc (by simp[z])) e⟩) (fun _ _ e=>e) (fun _ _ _ e=>e) (fun b ps e=>⟨#[],by rw[e];simp⟩) (fun m hm=>?_) (fun b u e=>?_) I.bare
 .have e:b=it:=by simpa using hb
  subst e;exact⟨h1,hL,h2,h3⟩
 .obtain⟨o,es,ep,ho,r⟩:=hm;exact⟨o,es,ep,k _ o (Ne.symm hL) ho,r⟩
 .refine(I.dW b u e).i9 (fun c v hc q=>k c v ?_ q) (fun _ q=>q) fun _ _ q=>q;rcases hc with z |z
  .rw[z];exact YA b u e
  .exact YA c _ z
theorem Inv.tok(I:Inv X pins G H s)(t:Nat):Inv X pins G H {s with toks:=t}:=I.un (h':=s.heap) (t':=t) Un.refl I.dW
theorem Inv.kept(I:Inv X pins G H s)(k:∀b u,s.heap.get? b=some u->h'.get? b=some u):Inv X pins G H {s with heap:=h',toks:=t' }:=I.un (Un.kept k) (I.dW.kept k)
theorem Inv.laid{a:zdi}(I:Inv X pins G H s)(k:∀b u,s.heap.get? b=some u->h'.get? b=some u)(hp:s.heap.objs.size<=a)(new:cE X.prog X.w (upd H a o) h' a o) :
 Inv X pins G (upd H a o) {s with heap:=h',toks:=t' }:=I.un (Un.laid k hp (I.dW.fresh hp)) (I.dW.laid k hp new)
theorem Inv.write(I:Inv X pins G H s)(mu:Yu (H x))(he:e=x\/H e=some (.own x))(k:∀b u,b≠e->s.heap.get? b=some u->h'.get? b=some u)(XF:∃u,h'.get? e=some u)
 (new:cE X.prog X.w (upd H x o) h' x o):Inv X pins G (upd H x o) {s with heap:=h',toks:=t' }:=I.un (Un.write mu he k XF) (I.dW.write mu he k XF new)
theorem Inv.K2(I:Inv X pins G H s)(h:∀p∈K3,s.heap.get? p.1=some p.2/\H p.1=none/\p.1≠X.env.locals/\p.1 ∉ X.fs/\∀v,p.2.data≠.cell v):Inv X K3 G H s:=
 ⟨I.ok,I.os,I.bare,I.base,I.loc,I.cell,I.free,I.tL,fun p hp=>(zak.mp hp).elim (fun z=>I.pin p (za8 _ z)) (h p),I.dW,I.len⟩
theorem GI{N:List Str}(hN:N.Nodup){i j:Nat}(a:N[i]?=some x)(b:N[j]?=some x):i=j:=by
 obtain⟨h1,e1⟩:=zaj.mp a;obtain⟨h2,e2⟩:=zaj.mp b;exact(List.getElem_inj hN).mp (e1.trans e2.symm)
theorem Dt(I:Inv X pins G H s)(hN:X.N.Nodup)(hi:X.N[i]?=some x)(hx:Loc X.env.scope x)(r:RelV v u)
 (h:∀s',Inv X pins (G.set i (some v)) H s'->(∃a,yat a s.heap s'.heap/\(a=X.env.locals\/X.env.cells.lookup x=some a))->Q () s') (hf:X.fn x=true\/X.env.scope.names.lookup x=some .local:=by first |exact .inl rfl |exact .inr rfl |assumption):yaa M A (storeName X.env x u) Q E s:=by
 obtain⟨m,hn,hl⟩:=id I.loc;have acu:(X.env.scope.kind==.class ||(X.env.scope.kind==.module&&X.env.locals != X.env.globals))=false:=by rw[I.ok.kind];rfl
 have YB:i<G.length:=by rw[I.len];exact(zaj.mp hi).1
 have VF:=I.VF;have tracked:∀{a:zdi} {h':yaf},(∃o,s.heap.get? a=some o/\H a=none)->yat a s.heap h'->sN X.prog X.w H h':=fun {a h'} ha hs b ob e=>by
  obtain⟨_,_,xH⟩:=ha;refine(I.dW b ob e).i9 (fun c w' hc q=>(hs.2 c ?_).trans q) (fun _ q=>q) fun _ _ q=>q
  rintro rfl
  rcases hc with rfl |hc
  .rw[xH] at e;cases e
  .rw[xH] at hc;cases hc
 rcases hx with hk |hk
 .refine wpAny_storeName_local hk hn (fun h' hn' hs=>?_) acu;obtain⟨oL,_,_,YC,_⟩:=id hn;refine h _ ⟨I.ok,I.os,I.bare,⟨fun b o e n hb hx=>?_,fun b o e n hb hx=>?_,I.base.free,fun b o e hx=>?_,I.base.Ew,I.base.CA,I.base.Ex⟩,⟨_,hn',fun j y v' e1 e2 e3=>?_⟩,fun y c e=>?_,I.free,I.tL,fun p hp=>?_,tracked ⟨oL,YC,I.free⟩ hs,by simpa using I.len⟩ ⟨_,hs,.inl rfl⟩
  .exact(hs.2 b (zay (zaE (yad e) I.ok.above))).trans (I.base.keep b o e n hb hx)
  .obtain⟨sl,e1⟩:=I.base.slot b o e n hb hx;exact⟨sl,(hs.2 b (zay (zaE (yad e) I.ok.above))).trans e1⟩
  .obtain⟨o',e1⟩:=I.base.there b o e hx;exact⟨o',(hs.2 b (zay (zaE (yad e) I.ok.above))).trans e1⟩
  .by_cases hj:j=i
   .subst hj;rw[hi] at e1;cases e1;rw[zcm YB] at e2;cases e2;exact⟨u,r,.inl ⟨hk,by simp⟩⟩
   .rw[zct (Ne.symm hj)] at e2;obtain⟨u',r',q⟩:=hl j y v' e1 e2 e3;refine⟨u',r',?_⟩;rcases q with ⟨k,e⟩ |⟨k,c,e,z⟩
    .refine .inl ⟨k,?_⟩;have:y≠x:=fun e=>hj (GI hN e1 (e▸hi));simp[this,e]
    .exact .inr ⟨k,c,e,z.sameBut hs (VF y c e)⟩
  .obtain⟨w',z⟩:=I.cell y c e;exact⟨w',z.sameBut hs (VF y c e)⟩
  .obtain⟨e,n,ne,nf,d⟩:=I.pin p hp;exact⟨(hs.2 p.1 ne).trans e,n,ne,nf,d⟩
 .have YD:X.fn x=true:=by
   rcases hf with z |z
   .exact z
   .rw[z] at hk;cases hk
  obtain⟨c,hc⟩:=I.ok.has x (.inl hk);obtain⟨w',z⟩:=I.cell x c hc;refine wpAny_storeName_cell I.ok.kind hk hc z (fun h' hc' hs=>?_);obtain⟨oc,hoc,acv⟩:=id z;refine h {s with heap:=h' } ⟨I.ok,I.os,I.bare,⟨fun b o e n hb hx=>?_,fun b o e n hb hx=>?_,I.base.free,fun b o e hx=>?_,I.base.Ew,I.base.CA,I.base.Ex⟩,⟨m,hn.sameBut hs (Ne.symm (VF x c hc)),fun j y v' e1 e2 e3=>?_⟩,fun y c' e=>?_,I.free,I.tL,fun p hp=>?_,tracked ⟨oc,hoc,I.tL x c hc⟩ hs,by simpa using I.len⟩ ⟨c,hs,.inr hc⟩
  .exact(hs.2 b (zay (zaE (yad e) (I.ok.Yx x c YD hc)))).trans (I.base.keep b o e n hb hx)
  .obtain⟨sl,e1⟩:=I.base.slot b o e n hb hx;exact⟨sl,(hs.2 b (zay (zaE (yad e) (I.ok.Yx x c YD hc)))).trans e1⟩
  .obtain⟨o',e1⟩:=I.base.there b o e hx;exact⟨o',(hs.2 b (zay (zaE (yad e) (I.ok.Yx x c YD hc)))).trans e1⟩
  .by_cases hj:j=i
   .subst hj;rw[hi] at e1;cases e1;rw[zcm YB] at e2;cases e2;exact⟨u,r,.inr ⟨.inl hk,c,hc,hc'⟩⟩
   .rw[zct (Ne.symm hj)] at e2;obtain⟨u',r',q⟩:=hl j y v' e1 e2 e3;refine⟨u',r',?_⟩;rcases q with q |⟨k,c',e,z'⟩
    .exact .inl q
    .refine .inr ⟨k,c',e,z'.sameBut hs ?_⟩
     rintro rfl
     exact hj (GI hN e1 (I.ok.inj _ _ _ e hc▸hi))
  .by_cases hcc:c'=c
   .subst hcc;exact⟨_,hc'⟩
   .obtain⟨w2,z2⟩:=I.cell y c' e;exact⟨w2,z2.sameBut hs hcc⟩
  .obtain⟨e,n,ne,nf,d⟩:=I.pin p hp;refine⟨(hs.2 p.1 ?_).trans e,n,ne,nf,d⟩;intro q;rw[q,hoc] at e;have q':oc=p.2:=za1.inj e;exact d w' (by rw[<- q'];exact acv)
theorem GJ(I:Inv X pins G H s)(hN:X.N.Nodup)(hi:X.N[i]?=some x)(hx:Loc X.env.scope x)(r:RelV v u)
 (h:∀s',Inv X pins (G.set i (some v)) H s'->Q () s') (hf:X.fn x=true\/X.env.scope.names.lookup x=some .local:=by first |exact .inl rfl |exact .inr rfl |assumption):yaa M A (storeName X.env x u) Q E s:=
 Dt I hN hi hx r (fun s' I' _=>h s' I') hf
theorem Inv.YE(I:Inv X pins G H s)(ho:s'.os=s.os)(u:Un (Oq X.stack) ch H H' s.heap s'.heap)(dW:sN X.prog X.w H' s'.heap)(hg:AllBare s'.gens)
 (R9:∀b∈ch,(b∈X.ex\/X.s₀.heap.objs.size<=b)/\b≠X.env.locals/\(∀x c,X.env.cells.lookup x=some c->c≠b)/\∀p∈X.pn++pins,p.1≠b):Inv X pins G H' s':=by
 obtain⟨h',g',d',t',o'⟩:=s';have e:o'=s.os:=ho;subst e;exact I.call (g':=g') (t':=t') (d':=d') u dW hg R9
end
abbrev XK:=zdj->Option zdi->Hp->Prop
abbrev St:=List (Option V)
abbrev VK:=V->Hp->Prop
abbrev TE:=St->Hp->VK->Prop
abbrev TT:=St->Hp->(Bool->Hp->Prop)->Prop
abbrev TA:=St->Hp->(List V->Hp->Prop)->Prop
set_option genInjectivity false in
structure Ends where
 nx:St->Hp->Prop
 rt:VK
 bk:St->Hp->Prop:=fun _ _=>False
 ct:St->Hp->Prop:=fun _ _=>False
abbrev TS:=Ends->St->Hp->Prop
def EP (X:Cx)(pins:List (zdi×Obj))(G:St)(Q:VK)(u:zdj)(s':zds):Prop:=∃v H',Inv X pins G H' s'/\RelV v u/\Q v H'
def TP (X:Cx)(pins:List (zdi×Obj))(G:St)(Q:Bool->Hp->Prop)(b:Bool)(s':zds):Prop:=∃H',Inv X pins G H' s'/\Q b H'
def AP (X:Cx)(pins:List (zdi×Obj))(G:St)(Q:List V->Hp->Prop)(us:List zdj)(s':zds):Prop:=∃vs H',Inv X pins G H' s'/\Vals vs us/\Q vs H'
def SP (X:Cx)(pins:List (zdi×Obj))(D:Ends)(f:Flow)(s':zds):Prop:=
 match f with
 |.next=>∃G' H',Inv X pins G' H' s'/\D.nx G' H'
 |.brk=>∃G' H',Inv X pins G' H' s'/\D.bk G' H'
 |.cont=>∃G' H',Inv X pins G' H' s'/\D.ct G' H'
 |.ret u=>∃v G' H',Inv X pins G' H' s'/\RelV v u/\D.rt v H'
def PE (X:Cx)(e:Expr)(t:TE):Prop:=
 ∀(pins:List (zdi×Obj)) (s:zds) (G:St) (H:Hp) (Q:VK),Inv X pins G H s->t G H Q->yaa (model X.prog X.w) X.A (eval e X.env) (EP X pins G Q) X.xe s
def PT (X:Cx)(e:Expr)(t:TT):Prop:=
 ∀(pins:List (zdi×Obj)) (s:zds) (G:St) (H:Hp) (Q:Bool->Hp->Prop),Inv X pins G H s->t G H Q->yaa (model X.prog X.w) X.A (isTrue e X.env (eval e X.env)) (TP X pins G Q) X.xe s
def PW (X:Cx)(e:Expr)(t:TT):Prop:=
 ∀(whole:Sem zdj) (pins:List (zdi×Obj)) (s:zds) (G:St) (H:Hp) (Q:Bool->Hp->Prop),Inv X pins G H s->t G H Q->yaa (model X.prog X.w) X.A (isTrue e X.env whole) (TP X pins G Q) X.xe s
theorem PW.pt(h:PW X e t):PT X e t:=h _
def PA (X:Cx)(es:List Expr)(t:TA):Prop:=
 ∀(pos:Pos) (pins:List (zdi×Obj)) (s:zds) (G:St) (H:Hp) (Q:List V->Hp->Prop),Inv X pins G H s->t G H Q->yaa (model X.prog X.w) X.A (spliced (backTo pos (zdo es X.env))) (AP X pins G Q) X.xe s
def PS (X:Cx)(st:Stmt)(t:TS):Prop:=
 ∀(pins:List (zdi×Obj)) (s:zds) (G:St) (H:Hp) (D:Ends),Inv X pins G H s->t D G H->yaa (model X.prog X.w) X.A (exec st X.env) (SP X pins D) X.xe s
def Jo (X:Cx)(st:List Stmt)(t:TS):Prop:=
 ∀(pins:List (zdi×Obj)) (s:zds) (G:St) (H:Hp) (D:Ends),Inv X pins G H s->t D G H->yaa (model X.prog X.w) X.A (execs st X.env) (SP X pins D) X.xe s
theorem ib{Z:Type}{t:Sem Z}{Q Q':Z->zds->Prop}(h:yaa M A t Q E s)(hQ:∀a s,Q a s->Q' a s):yaa M A t Q' E s:=yav h hQ fun _ _ x=>x
section
variable{X:Cx}
theorem bin(ha:PE X a ta)(hb:PE X b tb){G:St}{R:V->V->Hp->Prop}(I:Inv X pins G H s)(h:ta G H fun x H1=>tb G H1 fun y H2=>R x y H2)
 {Z:Type} {Q:Z->zds->Prop} {f:zdj->zdj->Sem Z}
 (hf:∀v u s2 x y H2,Inv X pins G H2 s2->RelV x v->RelV y u->R x y H2->yaa (model X.prog X.w) X.A (f v u) Q X.xe s2) :
 yaa (model X.prog X.w) X.A (eval a X.env) (fun v s₁=>yaa (model X.prog X.w) X.A (eval b X.env) (fun u s₂=>yaa (model X.prog X.w) X.A (f v u) Q X.xe s₂) X.xe s₁) X.xe s:=by
 refine ib (ha pins s G H _ I h) fun v s1 zqz=>?_;obtain⟨x,H1,I1,r1,q1⟩:=zqz;refine ib (hb pins s1 G H1 _ I1 q1) fun u s2 zqz=>?_;obtain⟨y,H2,I2,r2,q2⟩:=zqz;exact hf v u s2 x y H2 I2 r1 r2 q2
def vAt (Q:V->Prop):Option (Option V)->Prop
 |some (some v)=>Q v
 |_=>False
theorem VI:∀{o:Option (Option V)},vAt Q o->∃v,o=some (some v)/\Q v
 |some (some v),h=>⟨v,rfl,h⟩
 |some none,h=>h.elim
 |none,h=>h.elim
def iu (i:Nat):TE:=fun G H Q=>vAt (fun v=>Q v H) G[i]?
def tC (v:V):TE:=fun _ H Q=>Q v H
theorem VJ{pos:Pos}(hN:X.N[i]?=some x)(hv:Ut X.env.scope x)(hd:(x==("__debug__":Str))=false:=by decide)(Cu:(x==("__classdict__":Str))=false:=by decide):PE X (.Name x pos) (iu i):=by
 intro pins s G H Q I h;obtain⟨v,e,h⟩:=VI h;obtain⟨m,hn,hl⟩:=I.loc;obtain⟨u,r,l⟩:=hl i x v hN e hv;have fin:EP X pins G Q u s:=⟨v,H,I,r,h⟩
 rcases l with ⟨hk,hm⟩ |⟨hk,c,hc,K4⟩
 .exact wpAny_Name (wpAny_loadName_local I.ok.kind hk hn hm fin) hd
 .rcases hk with hk |hk
  .exact wpAny_Name (wpAny_loadName_cell I.ok.kind hk hc K4 fin) hd
  .exact wpAny_Name (wpAny_loadName_free I.ok.kind hk hc K4 fin Cu) hd
theorem aw{i j pos}:PE X (.Constant (.int i) j pos) (tC (.int i)):=fun _ _ _ H _ I h=>wpAny_Constant_int ⟨.int i,H,I.tok _,⟨_,rfl⟩,h⟩
theorem nU{b j pos}:PE X (.Constant (.bool b) j pos) (tC (.bl b)):=fun _ _ _ H _ I h=>Constant_bool ⟨.bl b,H,I,rfl,h⟩
theorem cS{j pos}:PE X (.Constant .none j pos) (tC .cH):=fun _ _ _ H _ I h=>Constant_none ⟨.cH,H,I,rfl,h⟩
theorem aV{x j pos}:PE X (.Constant (.str x) j pos) (tC (.str x)):=fun _ _ _ H _ I h=>Calls.Constant_str ⟨.str x,H,I.tok _,⟨_,rfl⟩,h⟩
def Gl (X:Cx)(x:Str):Prop:=X.env.kindOf x=some .globalImplicit
theorem EA{G:St}(I:Inv X pins G H s)(hg:Gl X x)(hm:X.mg x=some u)(h:Q u s)
 (hd:(x==("__debug__":Str))=false:=by decide):yaa (model X.prog X.w) X.A (eval (.Name x pos) X.env) Q E s:=
 Calls.Name_function_global I.ok.kind hg (Calls.loadGlobal_global (by rw[I.ok.glob];exact I.mod.glob.keeps I.bk) hm h) hd
theorem qN{E:zdj->zds->Prop}{G:St}{pos:Pos}(I:Inv X pins G H s)(hg:Gl X x)(hm:X.mg x=none)(hv:bootBuiltins x=some u)(h:Q u s)
 (hn:x≠"__name__":=by decide) (hd:(x==("__debug__":Str))=false:=by decide):yaa (model X.prog X.w) X.A (eval (.Name x pos) X.env) Q E s:=by
 obtain⟨mb,h1,h2⟩:=I.mod.blt;exact Calls.Name_function_global I.ok.kind hg (Calls.loadGlobal_builtin (by rw[I.ok.glob];exact I.mod.glob.keeps I.bk) hm (by rw[I.ok.blt];exact h1.keeps I.bk) ((h2 x hn).trans hv) h) hd
theorem mC(hg:Gl X x)(hm:X.mg x=some u)(r:RelV v u)(hd:(x==("__debug__":Str))=false:=by decide):PE X (.Name x pos) (tC v):=
 fun _ _ _ H _ I h=>EA I hg hm ⟨v,H,I,r,h⟩ hd
theorem SN{pos:Pos}(hg:Gl X x)(hm:X.mg x=none)(hv:bootBuiltins x=some u)(r:RelV v u)(hn:x≠"__name__":=by decide)(hd:(x==("__debug__":Str))=false:=by decide):PE X (.Name x pos) (tC v):=
 fun _ _ _ H _ I h=>qN I hg hm hv ⟨v,H,I,r,h⟩ hn hd
variable{a b:Expr}{ta tb:TE}{pos:Pos}
def tB (t:TE):TT:=fun G H Q=>t G H fun x H1=>∃c,x=.bl c/\Q c H1
theorem tM(h:PE X e t)(he:∀whole,isTrue e X.env whole=(do let v <- whole;standAt e.pos;holding [v] (truthy v)):=by intro _;rfl):PT X e (tB t):=by
 intro pins s G H Q I hw;refine isTrue_plain (ib (h pins s G H _ I hw) fun v s1 zqz=>?_) (he _);obtain⟨x,H1,I1,r1,q1⟩:=zqz;obtain⟨d,rfl,q⟩:=q1;cases r1;exact ya1 ⟨H1,I1,q⟩
variable{tA tB':TT}{rest:List Expr}
def VL (t u:TT):TT:=fun G H Q=>t G H fun c H1=>if c=true then u G H1 Q else Q false H1
def tOr (t u:TT):TT:=fun G H Q=>t G H fun c H1=>if c=true then Q true H1 else u G H1 Q
def YF (t:TT):TT:=fun G H Q=>t G H fun c H1=>Q (!c) H1
theorem pw_and1(ha:PT X a tA):PW X (.BoolOp .And [a] pos) tA:=by
 intro wh pins s G H Q I h;refine isTrue_and (ib (ha pins s G H Q I h) fun c s1 e=>?_);cases c with
 |true=>exact isTrue_and_nil e
 |false=>exact e
theorem pw_or1(ha:PT X a tA):PW X (.BoolOp .Or [a] pos) tA:=by
 intro wh pins s G H Q I h;refine isTrue_or (ib (ha pins s G H Q I h) fun c s1 e=>?_);cases c with
 |false=>exact isTrue_or_nil e
 |true=>exact e
theorem pw_and(ha:PT X a tA)(hb:PW X (.BoolOp .And (b::rest) pos) tB'):PW X (.BoolOp .And (a::b::rest) pos) (VL tA tB'):=by
 intro wh pins s G H Q I h;refine isTrue_and (ib (ha pins s G H _ I h) fun c s1 zqz=>?_);obtain⟨H1,I1,q1⟩:=zqz;cases c with
 |true=>exact hb wh pins s1 G H1 Q I1 q1
 |false=>exact⟨H1,I1,q1⟩
theorem pw_or(ha:PT X a tA)(hb:PW X (.BoolOp .Or (b::rest) pos) tB'):PW X (.BoolOp .Or (a::b::rest) pos) (tOr tA tB'):=by
 intro wh pins s G H Q I h;refine isTrue_or (ib (ha pins s G H _ I h) fun c s1 zqz=>?_);obtain⟨H1,I1,q1⟩:=zqz;cases c with
 |true=>exact⟨H1,I1,q1⟩
 |false=>exact hb wh pins s1 G H1 Q I1 q1
theorem EB(ha:PT X a tA):PT X (.UnaryOp .Not a pos) (YF tA):=by
 intro pins s G H Q I h;exact isTrue_not (ha pins s G H (fun c H1=>Q (!c) H1) I h)
end
def jJ (K:zaa)(H:Hp)(a:zdi)(xs:List V):Prop:=
 Rd H a (.lst xs)\/
  ∃(o:Obj) (its:Array zdj) (n:Nat),K.lookup a=some o/\o.cls=.type "list"/\o.dict=none/\o.data=.seq its n/\its.size<=zdq/\Vals xs its.toList
def bG (K:zaa)(H:Hp)(a:zdi)(xs:List V):Prop:=
 Rd H a (.tup xs)\/
  ∃(o:Obj) (its:Array zdj) (n:Nat),K.lookup a=some o/\o.cls=.type "tuple"/\o.data=.seq its n/\its.size<=zdq/\Vals xs its.toList
noncomputable def acx:zdj->Option V
 |.none=>some .cH
 |.bool b=>some (.bl b)
 |.int i _=>some (.int i)
 |.str x _=>some (.str x)
 |.bytes b _=>some (.KZ b)
 |.float b _=>some (.VB b)
 |.ref a=>some (.ref a)
 |.type n=>some (.ty n)
 |_=>none
theorem RelV.abs(r:RelV x u):acx u=some x:=by
 cases x with
 |cH=>cases r;rfl
 |bl _=>cases r;rfl
 |int _=>obtain⟨t,rfl⟩:=r;rfl
 |str _=>obtain⟨t,rfl⟩:=r;rfl
 |KZ _=>obtain⟨t,rfl⟩:=r;rfl
 |VB _=>obtain⟨t,rfl⟩:=r;rfl
 |ref _=>cases r;rfl
 |ty _=>cases r;rfl
theorem RelV.inj(r:RelV x u)(q:RelV y u):x=y:=za1.inj (r.abs.symm.trans q.abs)
theorem Vals.inj:∀{xs ys:List V}{us:List zdj},Vals xs us->Vals ys us->xs=ys
 |_,_,_,.nil,.nil=>rfl
 |_,_,_,.cons r t,.cons r' t'=>by rw[r.inj r',Vals.inj t t']
section
variable{X:Cx}{pins:List (zdi×Obj)}{G:St}{H:Hp}{s:zds}{a:zdi}{xs ys:List V}
theorem jJ.of{K:zaa}(h:H a=some (.lst xs)):jJ K H a xs:=.inl (.inl h)
theorem bG.of{K:zaa}(h:H a=some (.tup xs)):bG K H a xs:=.inl (.inl h)
theorem Inv.list(I:Inv X pins G H s)(h:jJ X.K H a xs):∃its:List zdj,Vals xs its/\PlainL s.heap a its.toArray/\xs.length<=zdq:=by
 rcases h with h |⟨o,its,n,hk,hc,hd,hs,hz,r⟩
 .obtain⟨z,its,n,r,e⟩:=h.ok I.dW;exact⟨its,r,⟨_,n,e,rfl,rfl,rfl⟩,z⟩
 .refine⟨its.toList,r,⟨o,n,I.AK a o hk,hc,hd,by simpa using hs⟩,?_⟩;have e:=r.length;simp only[zaJ] at e;lia
theorem Inv.tuple(I:Inv X pins G H s)(h:bG X.K H a xs):∃its:List zdj,Vals xs its/\IsTup s.heap a its.toArray/\xs.length<=zdq:=by
 rcases h with h |⟨o,its,n,hk,hc,hs,hz,r⟩
 .obtain⟨z,its,r,p⟩:=h.ok I.dW;exact⟨its,r,p,z⟩
 .refine⟨its.toList,r,⟨o,I.AK a o hk,hc,n,by simpa using hs⟩,?_⟩;have e:=r.length;simp only[zaJ] at e;lia
theorem Inv.GK(I:Inv X pins G H s)(h:jJ X.K H a xs)(h':jJ X.K H a ys):xs=ys:=by
 obtain⟨its,r,⟨o,n,e,_,_,d⟩,_⟩:=I.list h;obtain⟨its',r',⟨o',n',e',_,_,d'⟩,_⟩:=I.list h';rw[e] at e';cases e';rw[d] at d'
 injection d' with d1 _
 have:its=its':=by simpa using ybv zcK d1
 subst this;exact r.inj r'
theorem Inv.MT(I:Inv X pins G H s)(h:bG X.K H a xs)(h':bG X.K H a ys):xs=ys:=by
 obtain⟨its,r,⟨o,e,_,n,d⟩,_⟩:=I.tuple h;obtain⟨its',r',⟨o',e',_,n',d'⟩,_⟩:=I.tuple h';rw[e] at e';cases e';rw[d] at d'
 injection d' with d1 _
 have:its=its':=by simpa using ybv zcK d1
 subst this;exact r.inj r'
end
noncomputable abbrev Cx.CB (X:Cx) (E:zdj->zds->Prop):Cx:={X with xe:=E}
noncomputable abbrev Cx.XG (X:Cx):Cx:=X.CB fun _ _=>False
theorem Cx.Ok.CB{X:Cx}(ok:X.Ok)(E:zdj->zds->Prop):(X.CB E).Ok:=
 ⟨ok.mod,ok.kind,ok.glob,ok.blt,ok.above,ok.inj,ok.has,ok.Yx,ok.hd,ok.frames,ok.stk,ok.exf,ok.bs,ok.SK,ok.Ot,ok.SM,ok.AJ,ok.VE⟩
theorem Cx.Ok.tN{X:Cx}(ok:(X.CB E).Ok):X.Ok:=
 ⟨ok.mod,ok.kind,ok.glob,ok.blt,ok.above,ok.inj,ok.has,ok.Yx,ok.hd,ok.frames,ok.stk,ok.exf,ok.bs,ok.SK,ok.Ot,ok.SM,ok.AJ,ok.VE⟩
section
variable{X:Cx}{pins:List (zdi×Obj)}{G:St}{H:Hp}{s:zds}{E:zdj->zds->Prop}
theorem Inv.CB(I:Inv X pins G H s)(E:zdj->zds->Prop):Inv (X.CB E) pins G H s:=⟨I.ok.CB E,I.os,I.bare,I.base,I.loc,I.cell,I.free,I.tL,I.pin,I.dW,I.len⟩
theorem Inv.tN(I:Inv (X.CB E) pins G H s):Inv X pins G H s:=⟨I.ok.tN,I.os,I.bare,I.base,I.loc,I.cell,I.free,I.tL,I.pin,I.dW,I.len⟩
theorem SP.tN(h:SP (X.CB E) pins D f s'):SP X pins D f s':=by
 cases f with
 |next=>obtain⟨G',H',I,q⟩:=h;exact⟨G',H',I.tN,q⟩
 |brk=>obtain⟨G',H',I,q⟩:=h;exact⟨G',H',I.tN,q⟩
 |cont=>obtain⟨G',H',I,q⟩:=h;exact⟨G',H',I.tN,q⟩
 |ret u=>obtain⟨v,G',H',I,r,q⟩:=h;exact⟨v,G',H',I.tN,r,q⟩
theorem Jo.XG{st:List Stmt}(h:Jo X.XG st t):Jo X st t:=fun pins s G H D I hw=>
 yav (h pins s G H D (I.CB _) hw) (fun _ _ q=>q.tN) fun _ _ z=>False.elim z
end
section
variable{X:Cx}{st:Stmt}{rest:List Stmt}{t u:TS}{e:Expr}{te:TE}{pos:Pos}
def Ou:TS:=fun D G H=>D.nx G H
def SO (t u:TS):TS:=fun D G H=>t {D with nx:=u D} G H
theorem aG:Jo X [] Ou:=fun _ _ G H _ I h=>ybf ⟨G,H,I,h⟩
theorem ag(h1:PS X st t)(h2:Jo X rest u):Jo X (st::rest) (SO t u):=by
 intro pins s G H D I h;refine wpAny_execs_cons (ib (h1 pins s G H {D with nx:=u D} I h) fun f s1 q=>?_);cases f with
 |next=>
  obtain⟨G',H',I',q⟩:=q;exact h2 pins s1 G' H' D I' q
 |ret v=>exact q
 |brk=>exact q
 |cont=>exact q
theorem ak(h1:PS X st t):Jo X [st] t:=by
 intro pins s G H D I h;refine wpAny_execs_cons (ib (h1 pins s G H D I h) fun f s1 q=>?_);cases f with
 |next=>exact ybf q
 |ret v=>exact q
 |brk=>exact q
 |cont=>exact q
theorem Inv.quiet{G:St}(I:Inv X pins G H s):interactive X.env=false:=by simp[interactive,I.ok.kind]
def Ov (te:TE):TS:=fun D G H=>te G H fun _ H1=>D.nx G H1
theorem dX(he:PE X e te)(hs:swapsWith e none pos.line X.env=pure false:=by rfl):PS X (.Expr e pos) (Ov te):=by
 intro pins s G H D I h;exact wpAny_Expr_any (ib (he pins s G H _ I h) fun v s1 ⟨x,H1,I1,r1,q1⟩=>⟨G,H1,I1,q1⟩) I.quiet hs
def VM (te:TE):TS:=fun D G H=>te G H D.rt
theorem aB(he:PE X e te):PS X (.Return (some e) pos) (VM te):=by
 intro pins s G H D I h;exact wpAny_Return_some (ib (he pins s G H _ I h) fun v s1 ⟨x,H1,I1,r1,q1⟩=>⟨x,G,H1,I1,r1,q1⟩)
def SQ (c:TT)(t u:TS):TS:=fun D G H=>c G H fun b H1=>if b=true then t D G H1 else u D G H1
theorem aW{c:Expr}{a b:List Stmt}{tc:TT}(hc:PT X c tc)(ha:Jo X a t)(hb:Jo X b u):PS X (.If c a b pos) (SQ tc t u):=by
 intro pins s G H D I h;refine wpAny_If (ib (hc pins s G H _ I h) fun d s1 zqz=>?_);obtain⟨H1,I1,q1⟩:=zqz;cases d with
 |true=>exact ha pins s1 G H1 D I1 q1
 |false=>exact hb pins s1 G H1 D I1 q1
end
abbrev TG:=V->St->Hp->(St->Hp->Prop)->Prop
abbrev SR:=List V->St->Hp->(St->Hp->Prop)->Prop
def PG (X:Cx)(target:Expr)(t:TG):Prop:=
 ∀(pins:List (zdi×Obj)) (s:zds) (G:St) (H:Hp) (v:V) (u:zdj) (Q:St->Hp->Prop),Inv X pins G H s->RelV v u->t v G H Q->
  yaa (model X.prog X.w) X.A (assign target X.env u) (fun _ s'=>∃G' H',Inv X pins G' H' s'/\Q G' H') X.xe s
def YG (X:Cx)(ts:List Expr)(t:SR):Prop:=
 ∀(pins:List (zdi×Obj)) (s:zds) (G:St) (H:Hp) (vs:List V) (us:List zdj) (Q:St->Hp->Prop),Inv X pins G H s->Vals vs us->t vs G H Q->
  yaa (model X.prog X.w) X.A (assignInOrder ((assignEach ts X.env).map (·.2)) us) (fun _ s'=>∃G' H',Inv X pins G' H' s'/\Q G' H') X.xe s
abbrev VN:=V->V->V->Hp->(Hp->Prop)->Prop
def YH (X:Cx)(t:VN):Prop:=
 ∀(pins:List (zdi×Obj)) (s:zds) (G:St) (H:Hp) (o i v:V) (ov iv u:zdj) (Q:Hp->Prop),Inv X pins G H s->RelV o ov->RelV i iv->RelV v u->t o i v H Q->
  yaa (model X.prog X.w) X.A (setItem ov iv u) (fun _ s'=>∃H',Inv X pins G H' s'/\Q H') X.xe s
section
variable{X:Cx}{pos:Pos}
def cF (i:Nat):TG:=fun v G H Q=>Q (G.set i (some v)) H
theorem kM{i:Nat}{x:Str}(hN:X.N.Nodup)(hi:X.N[i]?=some x)(hx:Loc X.env.scope x)(hf:X.fn x=true\/X.env.scope.names.lookup x=some .local:=by first |exact .inl rfl |exact .inr rfl |assumption):PG X (.Name x pos) (cF i):=by
 intro pins s G H v u Q I r h;exact wpAny_assign_Name (GJ I hN hi hx r (fun s' I'=>⟨_,H,I',h⟩) hf)
def VO:SR:=fun vs G H Q=>vs=[]/\Q G H
def Ow (t:TG)(u:SR):SR:=fun vs G H Q=>∃v r,vs=v::r/\t v G H fun G' H'=>u r G' H' Q
theorem mD:YG X [] VO:=by
 intro pins s G H vs us Q I r h;obtain⟨e,h⟩:=h;subst e;cases r;exact assignInOrder_nil ⟨G,H,I,h⟩
theorem cV(h1:PG X e t)(h2:YG X es u)
 (hs:(assignEach (e::es) X.env).map (·.2)=assign e X.env::(assignEach es X.env).map (·.2):=by rfl):YG X (e::es) (Ow t u):=by
 intro pins s G H vs us Q I r h;obtain⟨v,vr,e1,h⟩:=h;subst e1;cases r with
 |cons r rr=>
  rw[hs];refine assignInOrder_cons (ib (h1 pins s G H _ _ _ I r h) fun _ s1 zqz=>?_);obtain⟨G1,H1,I1,q1⟩:=zqz;exact h2 pins s1 G1 H1 _ _ Q I1 rr q1
def VP (K:zaa)(n:Nat)(t:SR):TG:=fun v G H Q=>∃a xs,v=.ref a/\bG K H a xs/\xs.length=n/\t xs G H Q
theorem zl{k:Nat}(hc:X.calm=true)(h:YG X es t)
 (hn:(assignEach es X.env).length=n:=by rfl) (xD:(assignEach es X.env).findIdx? (·.1)=none:=by rfl):PG X (.Tuple es k pos) (VP X.K n t):=by
 intro pins s G H v u Q I r hw;obtain⟨a,xs,e1,hq,hl,hw⟩:=hw;subst e1;cases r;obtain⟨its,rv,ht,hz⟩:=I.tuple hq;refine assign_Tuple_tuple (I.ok.hd hc) ht (by simp[hn,<- hl,rv.length]) xD fun h' hx=>?_;have I1:Inv X pins G H {s with heap:=h' }:=I.kept (t':=s.toks) fun b o e=>hx b o (zay (yad e)) e;exact h pins _ G H xs _ Q I1 (by simpa using rv) hw
def VQ (to ti:TE)(t:VN):TG:=fun v G H Q=>to G H fun o H1=>ti G H1 fun i H2=>t o i v H2 fun H3=>Q G H3
theorem l9(ho:PE X o to)(hi:PE X i ti)(hs:YH X t)
 (ha:∀v,assign (.Subscript o i pos) X.env v=(do
  let ov <- holding [v] (eval o X.env)
  let iv <- holding [v,ov] (eval i X.env)
  standAt pos
  holding [v,ov,iv] (setItem ov iv v)
  release [v,ov,iv] []):=by intro _;rfl):PG X (.Subscript o i pos) (VQ to ti t):=by
 intro pins s G H v u Q I r h;rw[ha];refine zdl (zdn (ib (ho pins s G H _ I h) fun ov s1 zqz=>?_));obtain⟨x,H1,I1,r1,q1⟩:=zqz;refine zdl (zdn (ib (hi pins s1 G H1 _ I1 q1) fun iv s2 zqz=>?_));obtain⟨y,H2,I2,r2,q2⟩:=zqz;refine zdl (wpAny_standAt (zdl (zdn (ib (hs pins s2 G H2 x y v ov iv u _ I2 r1 r2 r q2) fun _ s3 zqz=>?_))));obtain⟨H3,I3,q3⟩:=zqz;exact wpAny_release ⟨G,H3,I3,q3⟩
def MU (te:TE)(g:TG):TS:=fun D G H=>te G H fun x H1=>g x G H1 D.nx
theorem gQ{tg e:Expr}{te:TE}{g:TG}(he:PE X e te)(hg:PG X tg g)(hs:swapsWithSole [tg] e pos.line X.env=pure false:=by rfl)(hw:swappedStores [tg] e X.env=pure none:=by rfl)
 (h1:(assignEach [tg] X.env).map (·.2)=[assign tg X.env]:=by rfl):PS X (.Assign [tg] e pos) (MU te g):=by
 intro pins s G H D I h;refine wpAny_Assign_stores (ib (he pins s G H _ I h) fun v s1 zqz=>?_) hs hw;obtain⟨x,H1,I1,r1,q1⟩:=zqz;rw[h1];exact ib (hg pins s1 G H1 x v _ I1 r1 q1) fun _ s2 q=>q
theorem ma{i:Nat}{x:Str}{e:Expr}{te:TE}{pos':Pos}(hN:X.N.Nodup)(hi:X.N[i]?=some x)(hx:Loc X.env.scope x)(he:PE X e te)(hs:swapsWith e (some (.Name x pos')) pos.line X.env=pure false:=by rfl)(hf:X.fn x=true\/X.env.scope.names.lookup x=some .local:=by first |exact .inl rfl |exact .inr rfl |assumption) :
 PS X (.Assign [.Name x pos'] e pos) (MU te (cF i)):=by
 intro pins s G H D I h;refine wpAny_Assign_Name (ib (he pins s G H _ I h) fun v s1 zqz=>?_) hs;obtain⟨y,H1,I1,r1,q1⟩:=zqz;exact GJ I1 hN hi hx r1 (fun s2 I2=>⟨_,H1,I2,q1⟩) hf
end
section
variable{X:Cx}{pos:Pos}
def Jp (c:TT)(tb:TS):TS:=fun D G H=>∃W:Nat->St->Hp->Prop,(∃m,W m G H)/\∀m G H,W m G H->
 c G H fun b H1=>if b=true then ∃N:St->Hp->Prop,(∀G' H',N G' H'->∃m',m'<m/\W m' G' H')/\tb {D with nx:=N,ct:=N,bk:=D.nx} G H1 else D.nx G H1
theorem xI(hp:PassesOwn (model X.prog X.w) X.A X.env X.xe)(hc:PT X c tc)(hb:Jo X body tb):PS X (.While c body [] pos) (Jp tc tb):=by
 intro pins s G H D I h;obtain⟨W,⟨m0,w0⟩,turn⟩:=h;refine wpAny_While (codeAny_whileLoop (fun n s'=>∃G' H',Inv X pins G' H' s'/\W n G' H') ?_ m0 ⟨G,H,I,w0⟩)
 rintro n s1 ⟨G1,H1,I1,w1⟩
 refine yaM hp (ib (hc pins s1 G1 H1 _ I1 (turn n G1 H1 w1)) fun b s2 zqz=>?_);obtain⟨H2,I2,q2⟩:=zqz;cases b with
 |true=>
  obtain⟨N,hN,q2⟩:=q2;rw[ybr rfl];refine yaM hp (ib (hb pins s2 G1 H2 _ I2 q2) fun f s3 q3=>?_);cases f with
  |next=>
   obtain⟨G3,H3,I3,n3⟩:=q3;obtain⟨m',hm,w3⟩:=hN G3 H3 n3;exact⟨m',hm,G3,H3,I3,w3⟩
  |cont=>
   obtain⟨G3,H3,I3,n3⟩:=q3;obtain⟨m',hm,w3⟩:=hN G3 H3 n3;exact⟨m',hm,G3,H3,I3,w3⟩
  |brk=>exact q3
  |ret v=>exact q3
 |false=>
  rw[ybq zag];exact ybf ⟨G1,H2,I2,q2⟩
end
set_option genInjectivity false in
structure It where
 go:Nat->Hp->Prop
 Gd:Nat->Hp->V->Hp->Prop
 stop:Nat->Hp->Prop
def xJ (X:Cx)(pins:List (zdi×Obj))(H:Hp)(b:zdi):Prop:=
 H b=none/\b≠X.env.locals/\b ∉ X.fs/\(b∈X.ex\/X.s₀.heap.objs.size<=b)/\(∀x c,X.env.cells.lookup x=some c->c≠b)/\∀p∈X.pn++pins,p.1≠b
theorem Inv.MV{G:St}{b:zdi}(I:Inv X pins G H s)(hb:s.heap.objs.size<=b)(hn:H' b=none):xJ X pins H' b:=by
 refine⟨hn,zbm (zaE I.lt hb),I.acr hb,.inr (zaz I.sz hb),fun x c e z=>?_,fun p hp z=>?_⟩
 .obtain⟨v,q⟩:=I.cell x c e;exact ybw (zaE q.lt (by rw[z];exact hb)) (zbv _)
 .exact ybw (zaE (yad (I.pin p hp).1) (by rw[z];exact hb)) (zbv _)
structure Turn(P:zdu)(w:zdk)(K:zaa)(tg:Expr)(J:It)(fp:List zdi)(it:zdi)(tn:Nat->yaf->Prop):Prop where
 mem:it∈fp
 obj:∀i h,tn i h->∀b∈fp,∃o,h.get? b=some o/\∀v,o.data≠.cell v
 keep:∀i h h',tn i h->(∀b∈fp,∀o,h.get? b=some o->h'.get? b=some o)->tn i h'
 item:∀(X:Cx),X.prog=P->X.w=w->X.K=K->X.calm=true->∀(i:Nat) (pins:List (zdi×Obj)) (s:zds) (G:St) (H:Hp) (E:zdj->zds->Prop),Inv X pins G H s->(∀b∈fp,xJ X pins H b)->tn i s.heap->J.go i H->
  yaa (model P w) X.A (yaY (.ref it)) (fun r s1=>∃u,r=some u/\
   yaa (model P w) X.A (letOwnedTupleGo tg (.ref it) u) (fun _ s2=>∃x H',Inv X pins G H' s2/\RelV x u/\J.Gd i H x H'/\tn (i+1) s2.heap/\∀b∈fp,H' b=none) E s1) E s
 done:∀(X:Cx),X.prog=P->X.w=w->X.K=K->X.calm=true->∀(i:Nat) (pins:List (zdi×Obj)) (s:zds) (G:St) (H:Hp) (E:zdj->zds->Prop),Inv X pins G H s->(∀b∈fp,xJ X pins H b)->tn i s.heap->J.stop i H->
  yaa (model P w) X.A (yaY (.ref it)) (fun r s1=>r=none/\Inv X pins G H s1) E s
 self:∀(A:zdt) (i:Nat) (s:zds) (Q:zdj->zds->Prop) (E:zdj->zds->Prop),tn i s.heap->Q (.ref it) s->yaa (model P w) A (pyIter (.ref it)) Q E s
abbrev TI:=St->Hp->(It->Hp->Prop)->Prop
def PIE (X:Cx)(pins:List (zdi×Obj))(G:St)(tg:Expr)(R:It->Hp->Prop)(itv:zdj)(s2:zds):Prop:=
 ∃(it:zdi) (fp:List zdi) (tn:Nat->yaf->Prop) (J:It) (H':Hp),itv=.ref it/\Inv X pins G H' s2/\Turn X.prog X.w X.K tg J fp it tn/\tn 0 s2.heap/\(∀b∈fp,xJ X pins H' b)/\R J H'
def PI (X:Cx)(tg iter:Expr)(wi:TI):Prop:=
 ∀(pins:List (zdi×Obj)) (s:zds) (G:St) (H:Hp) (R:It->Hp->Prop),Inv X pins G H s->wi G H R->
  yaa (model X.prog X.w) X.A (eval iter X.env) (fun v s1=>yaa (model X.prog X.w) X.A (pyIter v) (PIE X pins G tg R) X.xe s1) X.xe s
theorem K5(ho:s.heap.get? it=some o)(hc:o.cls=.type n)(hd:o.data=.fields vs)
 (hn:["enumerate", "zip", "dict_itemiterator", "dict_reverseitemiterator", "odict_iterator", "itertools.zip_longest", "itertools.pairwise"].contains n=false) (hQ:Q () s):yaa M A (letOwnedTupleGo tg (.ref it) u) Q E s:=by
 unfold letOwnedTupleGo;cases tg<;>first
  |exact zdm hQ
  |(cases u<;>first
     |exact zdm hQ
     |(refine zdl (wpAny_load ho ?_)
       rw[hc,hd];show yaa M A (if (["enumerate", "zip", "dict_itemiterator", "dict_reverseitemiterator", "odict_iterator", "itertools.zip_longest", "itertools.pairwise"].contains n&&vs[0]?==some (rawInt _))=true then _ else _) Q E s;rw[ybq (by intro h;rw[hn,zcz] at h;cases h)];exact zdm hQ))
noncomputable def AZ (K:zaa)(a:zdi):It:=
 ⟨fun i H=>∃xs x,jJ K H a xs/\xs[i]?=some x,fun i H x H'=>H'=H/\∀xs,jJ K H a xs->xs[i]?=some x,fun i H=>∃xs,jJ K H a xs/\xs.length<=i⟩
noncomputable def SS (K:zaa)(a:zdi):It:=
 ⟨fun i H=>∃xs x,bG K H a xs/\xs[i]?=some x,fun i H x H'=>H'=H/\∀xs,bG K H a xs->xs[i]?=some x,fun i H=>∃xs,bG K H a xs/\xs.length<=i⟩
noncomputable def Ox (lo:Int)(n:Nat):It:=⟨fun i _=>i<n,fun i H x H'=>H'=H/\x=.int (lo+i),fun i _=>n<=i⟩
theorem MW{K:zaa}(a it:zdi):Turn P w K tg (AZ K a) [it] it (fun i h=>h.IsListIter it a i) where
 mem:=by simp
 obj:=fun i h st b hb=>by
  have e:b=it:=by simpa using hb
  subst e;obtain⟨o,e,c,d⟩:=st;exact⟨o,e,fun v z=>by rw[d] at z;cases z⟩
 keep:=fun i h h' st k=>st.at fun o e=>k it (by simp) o e
 item:=by
  intro X hP hw hK hc i pins s G H E I hf st hg;subst hP hw hK;obtain⟨xs,x,hq,hx⟩:=hg;obtain⟨its,rv,p,hz⟩:=I.list hq;obtain⟨u,hu,ru⟩:=rv.get hx;obtain⟨f0,f1,f2,f3,f4,f5⟩:=hf it (by simp);refine ybc st p.isList (x:=u) (by simpa using hu) fun h' Jq sb=>?_;have I1:Inv X pins G H {s with heap:=h' }:=I.turned (t':=s.toks) (fun b o hb e=>(sb.2 b hb).trans e) f0 f1 f3 f4 f5;obtain⟨o,e,c,d⟩:=id Jq;exact⟨u,rfl,K5 (s:={s with heap:=h' }) e c d (by decide) ⟨x,H,I1,ru,⟨rfl,fun ys hy=>by rw[I.GK hy hq];exact hx⟩,Jq,fun b hb=>(hf b hb).1⟩⟩
 done:=by
  intro X hP hw hK hc i pins s G H E I hf st hg;subst hP hw hK;obtain⟨xs,hq,hx⟩:=hg;obtain⟨its,rv,p,hz⟩:=I.list hq;obtain⟨f0,f1,f2,f3,f4,f5⟩:=hf it (by simp);have hl:=rv.length;exact ybe (I.ok.hd hc) st p.isList (by simp;lia) fun h' eb=>⟨rfl,I.turned (t':=s.toks) (fun b o hb e=>eb b o hb e) f0 f1 f3 f4 f5⟩
 self:=fun _ _ _ _ _ st h=>wpAny_pyIter_listiter st h
theorem Jr{K:zaa}(a it:zdi):Turn P w K tg (SS K a) [it] it (fun i h=>h.IsTupleIter it a i) where
 mem:=by simp
 obj:=fun i h st b hb=>by
  have e:b=it:=by simpa using hb
  subst e;obtain⟨o,e,c,d⟩:=st;exact⟨o,e,fun v z=>by rw[d] at z;cases z⟩
 keep:=fun i h h' st k=>st.at fun o e=>k it (by simp) o e
 item:=by
  intro X hP hw hK hc i pins s G H E I hf st hg;subst hP hw hK;obtain⟨xs,x,hq,hx⟩:=hg;obtain⟨its,rv,p,hz⟩:=I.tuple hq;obtain⟨u,hu,ru⟩:=rv.get hx;obtain⟨f0,f1,f2,f3,f4,f5⟩:=hf it (by simp);refine wpAny_pyNext_tuple_item st (show s.heap.IsTuple a its.toArray from p) (x:=u) (by simpa using hu) fun h' Jq sb=>?_;have I1:Inv X pins G H {s with heap:=h' }:=I.turned (t':=s.toks) (fun b o hb e=>(sb.2 b hb).trans e) f0 f1 f3 f4 f5;obtain⟨o,e,c,d⟩:=id Jq;exact⟨u,rfl,K5 (s:={s with heap:=h' }) e c d (by decide) ⟨x,H,I1,ru,⟨rfl,fun ys hy=>by rw[I.MT hy hq];exact hx⟩,Jq,fun b hb=>(hf b hb).1⟩⟩
 done:=by
  intro X hP hw hK hc i pins s G H E I hf st hg;subst hP hw hK;obtain⟨xs,hq,hx⟩:=hg;obtain⟨its,rv,p,hz⟩:=I.tuple hq;obtain⟨f0,f1,f2,f3,f4,f5⟩:=hf it (by simp);have hl:=rv.length;exact wpAny_pyNext_tuple_end (I.ok.hd hc) st (show s.heap.IsTuple a its.toArray from p) (by simp;lia) fun h' eb=>⟨rfl,I.turned (t':=s.toks) (fun b o hb e=>eb b o hb e) f0 f1 f3 f4 f5⟩
 self:=fun _ _ _ _ _ st h=>wpAny_pyIter_tupleiter st h
theorem Js{K:zaa}(it:zdi)(lo:Int)(n:Nat):Turn P w K tg (Ox lo n) [it] it (fun i h=>IsRangeIter h it (lo+(i:Nat)*1) ((n:Int)-(i:Nat)) 1) where
 mem:=by simp
 obj:=fun i h st b hb=>by
  have e:b=it:=by simpa using hb
  subst e;exact⟨_,st,fun v z=>by
   have z':Data.fields _=Data.cell v:=z;cases z'⟩
 keep:=fun i h h' st k=>k it (by simp) _ st
 item:=by
  intro X hP hw hK hc i pins s G H E I hf st hg;subst hP hw hK;obtain⟨f0,f1,f2,f3,f4,f5⟩:=hf it (by simp);have W:=Walks.range (prog:=X.prog) (w:=X.w) (I.ok.hd hc) it lo 1 n;refine W.item i s _ _ hg st fun v h' tk hv Jq kk=>?_;obtain⟨t,rfl⟩:=hv;have I1:Inv X pins G H {s with heap:=h',toks:=tk}:=I.turned (fun b o hb e=>kk b o (by simpa using hb) e) f0 f1 f3 f4 f5;refine⟨_,rfl,K5 (s:={s with heap:=h',toks:=tk}) (n:="range_iterator") Jq rfl rfl (by decide) ⟨.int (lo+i),H,I1,⟨t,?_⟩,⟨rfl,rfl⟩,Jq,fun b hb=>(hf b hb).1⟩⟩;rw[zcZ]
 done:=by
  intro X hP hw hK hc i pins s G H E I hf st hg;subst hP hw hK;obtain⟨f0,f1,f2,f3,f4,f5⟩:=hf it (by simp);exact wpAny_pyNext_range_end (I.ok.hd hc) st (by have:n<=i:=hg;lia) fun h' eb=>⟨rfl,I.turned (t':=s.toks) (fun b o hb e=>eb b o hb e) f0 f1 f3 f4 f5⟩
 self:=fun _ _ _ _ _ st h=>wpAny_pyIter_rangeiter st h
section
variable{X:Cx}{tg:Expr}
def Du (K:zaa)(tl:TE):TI:=fun G H R=>tl G H fun x H1=>∃a,x=.ref a/\(∃xs,jJ K H1 a xs)/\R (AZ K a) H1
def VR (K:zaa)(tl:TE):TI:=fun G H R=>tl G H fun x H1=>∃a,x=.ref a/\(∃xs,bG K H1 a xs)/\R (SS K a) H1
theorem bt{l:Expr}{tl:TE}(hl:PE X l tl):PI X tg l (Du X.K tl):=by
 intro pins s G H R I h;refine ib (hl pins s G H _ I h) fun v s1 zqz=>?_;obtain⟨x,H1,I1,r1,q1⟩:=zqz;obtain⟨a,e,⟨xs,hq⟩,q⟩:=q1;subst e;cases r1;obtain⟨its,rv,p,hz⟩:=I1.list hq;refine yaP p.isList ?_;refine⟨s1.heap.objs.size,[s1.heap.objs.size],_,_,H1,rfl,I1.kept (t':=s1.toks) fun b o e=>yac _ e,MW a _,⟨_,yae _ rfl,rfl,rfl⟩,fun b hb=>?_,q⟩;have e:b=s1.heap.objs.size:=by simpa using hb
 subst e;exact I1.MV (zah _) (I1.dW.fresh (zah _))
theorem Jt(hl:PE X l tl):PI X tg l (VR X.K tl):=by
 intro pins s G H R I h;refine ib (hl pins s G H _ I h) fun v s1 zqz=>?_;obtain⟨x,H1,I1,r1,q1⟩:=zqz;obtain⟨a,e,⟨xs,hq⟩,q⟩:=q1;subst e;cases r1;obtain⟨its,rv,p,hz⟩:=I1.tuple hq;refine wpAny_pyIter_tuple (show s1.heap.IsTuple a its.toArray from p) ?_;refine⟨s1.heap.objs.size,[s1.heap.objs.size],_,_,H1,rfl,I1.kept (t':=s1.toks) fun b o e=>yac _ e,Jr a _,⟨_,yae _ rfl,rfl,rfl⟩,fun b hb=>?_,q⟩;have e:b=s1.heap.objs.size:=by simpa using hb
 subst e;exact I1.MV (zah _) (I1.dW.fresh (zah _))
theorem Oy{G:St}{lo hi:Int}(I:Inv X pins G H s)(h1 : -(2 ^ 62)<=lo)(h2:lo<2 ^ 62)(h3 : -(2 ^ 62)<=hi)(h4:hi<2 ^ 62)
 (q:R (Ox lo (hi-lo).toNat) H):yaa (model X.prog X.w) X.A (pyIter (.ref s.heap.objs.size)) (PIE X pins G tg R) E {s with heap:=s.heap.push {cls:=.type "range",data:=.fields #[.int lo t,.int hi u,.int 1 v]},toks:=tk}:=by
 refine wpAny_pyIter_range (IsRange.new ..) (small_one h1 h2 h3 h4) ?_;have I1:Inv X pins G H {s with heap:=s.heap.push {cls:=.type "range",data:=.fields #[.int lo t,.int hi u,.int 1 v]},toks:=tk}:=I.kept fun b o e=>yac _ e;refine⟨(s.heap.push {cls:=.type "range",data:=.fields #[.int lo t,.int hi u,.int 1 v]}).objs.size,[(s.heap.push {cls:=.type "range",data:=.fields #[.int lo t,.int hi u,.int 1 v]}).objs.size],_,_,H,rfl,
  I1.kept (t':=tk) fun b o e=>yac _ e,Js _ lo (hi-lo).toNat,?_,fun b hb=>?_,q⟩
 .have e1:lo+((0:Nat):Int)*1=lo:=by simp
  have e2:(((hi-lo).toNat:Nat):Int)-((0:Nat):Int)=Builtin.Range.rangeSize lo hi 1:=by rw[rangeSize_one];split<;>lia
  show IsRangeIter _ _ (lo+((0:Nat):Int)*1) ((((hi-lo).toNat:Nat):Int)-((0:Nat):Int)) 1;rw[e1,e2];exact yae _ rfl
 .have e:b=(s.heap.push {cls:=.type "range",data:=.fields #[.int lo t,.int hi u,.int 1 v]}).objs.size:=by simpa using hb
  subst e;exact I1.MV (zah _) (I1.dW.fresh (zah _))
def K6 (ta:TA):TI:=fun G H R=>ta G H fun vs H1=>∃j:Int,vs=[.int j]/\-(2 ^ 62)<=j/\j<2 ^ 62/\R (Ox 0 j.toNat) H1
theorem kr(hg:Gl X "range")(hm:X.mg "range"=none)(ha:PA X [a] ta)(hs:zdo [a] X.env=[(false,eval a X.env)]:=by rfl):PI X tg (.Call (.Name "range" p) [a] [] pos) (K6 ta):=by
 intro pins s G H R I h;refine Call_ (qN I hg hm boot_range (za7 (ib (ha pos pins s G H _ I h) fun us s1 zqz=>?_) hs rfl));obtain⟨vs,H1,I1,r1,q1⟩:=zqz;obtain⟨j,e,q1,q2,q⟩:=q1;subst e;cases r1 with
 |cons r rr=>
  cases rr;obtain⟨t,rfl⟩:=r;exact call_range_1 (Oy I1 (by lia) (by lia) q1 q2 (by simpa using q))
def Oz (wi:TI)(g:TG)(tb:TS):TS:=fun D G H=>wi G H fun J H1=>∃W:Nat->Nat->St->Hp->Prop,(∃m,W 0 m G H1)/\∀i m G H,W i m G H->
 (J.stop i H/\D.nx G H)\/(J.go i H/\∃N:St->Hp->Prop,(∀G' H',N G' H'->∃m',m'<m/\W (i+1) m' G' H')/\∀x H',J.Gd i H x H'->g x G H' fun G2 H2=>tb {D with nx:=N,ct:=N,bk:=D.nx} G2 H2)
noncomputable def Bf (fp:List zdi)(h:yaf):List (zdi×Obj):=fp.filterMap fun b=>(h.get? b).map fun o=>(b,o)
theorem qO(hb:b∈fp)(e:h.get? b=some o):(b,o)∈Bf fp h:=zcG.mpr ⟨b,hb,by rw[e];rfl⟩
theorem MX(hp:p∈Bf fp h):p.1∈fp/\h.get? p.1=some p.2:=by
 obtain⟨b,hb,e⟩:=zcG.mp hp;cases q:h.get? b with
 |none=>rw[q] at e;cases e
 |some o=>
  rw[q] at e;have e':(b,o)=p:=za1.inj e;subst e';exact⟨hb,q⟩
theorem Inv.pinned{G:St}(I:Inv X pins G H s)(hf:∀b∈fp,xJ X pins H b)(ho:∀b∈fp,∃o,s.heap.get? b=some o/\∀v,o.data≠.cell v):Inv X (pins++Bf fp s.heap) G H s:=
 I.K2 fun p hp=>(zak.mp hp).elim (fun z=>I.pin p (zaK _ z)) fun z=>by
  obtain⟨hb,e⟩:=MX z;obtain⟨f0,f1,f2,_⟩:=hf p.1 hb;obtain⟨o,e',d⟩:=ho p.1 hb;rw[e] at e';cases e';exact⟨e,f0,f1,f2,d⟩
theorem Inv.xK{G:St}(I:Inv X (pins++pl) G H s):Inv X pins G H s:=I.K2 fun p hp=>I.pin p (zaK _ (za8 _ hp))
theorem gR{iter:Expr}{body:List Stmt}{wi:TI}{g:TG}{tb:TS}{pos:Pos}(hp:PassesOwn (model X.prog X.w) X.A X.env X.xe)(hc:X.calm=true)(hi:PI X tg iter wi)(hg:PG X tg g)(hb:Jo X body tb)
 (hs:∀x,foldedSetIterable iter X.env x=pure x:=by intro _;rfl):PS X (.For tg iter body [] pos) (Oz wi g tb):=by
 intro pins s G H D I h;refine wpAny_For (ib (hi pins s G H _ I h) fun v s1 h1=>ib h1 fun itv s2 h2=>?_) hs;obtain⟨it,fp,tn,J,H2,e,I2,T,xE,f2,W,⟨m0,w0⟩,turn⟩:=h2;subst e;have stat:∀{H':Hp},(∀b∈fp,H' b=none)->∀b∈fp,xJ X pins H' b:=fun hn b hb=>⟨hn b hb,(f2 b hb).2⟩
 refine codeAny_forLoop_any (fun n s'=>∃i G' H',Inv X pins G' H' s'/\tn i s'.heap/\(∀b∈fp,H' b=none)/\W i n G' H') ?_ m0 ⟨0,G,H2,I2,xE,fun b hb=>(f2 b hb).1,w0⟩
 rintro n s3 ⟨i,G3,H3,I3,Uu,YI,w3⟩
 rcases turn i n G3 H3 w3 with ⟨stop,qn⟩ |⟨go,N,hN,step⟩
 .refine yaM hp (ib (T.done X rfl rfl rfl hc i pins s3 G3 H3 X.xe I3 (stat YI) Uu stop) fun r s4 zqz=>?_);obtain⟨hr,I4⟩:=zqz;subst hr;exact ybf ⟨G3,H3,I4,qn⟩
 .refine yaM hp (ib (T.item X rfl rfl rfl hc i pins s3 G3 H3 X.xe I3 (stat YI) Uu go) fun r s4 zqz=>?_);obtain⟨u,hr,h4⟩:=zqz;subst hr;refine yaM hp (ib h4 fun _ s5 zqz=>?_);obtain⟨x,H5,I5,r5,y5,VS,fr5⟩:=zqz;have I5':=I5.pinned (stat fr5) (T.obj _ _ VS);refine yaM hp (ib (hg _ s5 G3 H5 x u _ I5' r5 (step x H5 y5)) fun _ s6 zqz=>?_);obtain⟨G6,H6,I6,q6⟩:=zqz;refine yaM hp (ib (hb _ s6 G6 H6 _ I6 q6) fun f s7 q7=>?_);have again:∀{G7:St} {H7:Hp},Inv X (pins++Bf fp s5.heap) G7 H7 s7->N G7 H7->∃m,m<n/\∃i G' H',Inv X pins G' H' s7/\tn i s7.heap/\(∀b∈fp,H' b=none)/\W i m G' H':=fun {G7 H7} I7 n7=>by
   obtain⟨m',hm,w7⟩:=hN G7 H7 n7;refine⟨m',hm,i+1,G7,H7,I7.xK,T.keep _ _ _ VS fun b hb o e=>(I7.pin (b,o) (zaK _ (zaK _ (qO hb e)))).1,fun b hb=>?_,w7⟩;obtain⟨o,e,d⟩:=T.obj _ _ VS b hb;exact(I7.pin (b,o) (zaK _ (zaK _ (qO hb e)))).2.1
  cases f with
  |next=>obtain⟨G7,H7,I7,n7⟩:=q7;exact again I7 n7
  |cont=>obtain⟨G7,H7,I7,n7⟩:=q7;exact again I7 n7
  |brk=>obtain⟨G7,H7,I7,q7⟩:=q7;exact⟨G7,H7,I7.xK,q7⟩
  |ret v=>obtain⟨x7,G7,H7,I7,r7,q7⟩:=q7;exact⟨x7,G7,H7,I7.xK,r7,q7⟩
end
theorem jd{K:zaa}{g:TG}{tb:TS}{D:Ends}(Pv:Nat->St->Hp->Prop)(h0:Pv 0 G H)(hl:∀i G H,i<=xs.length->Pv i G H->jJ K H a xs)
 (hs:∀i x G H,xs[i]?=some x->Pv i G H->g x G H fun G2 H2=>tb {D with nx:=Pv (i+1),ct:=Pv (i+1),bk:=D.nx} G2 H2) (hd:∀G H,Pv xs.length G H->D.nx G H) :
 ∃W:Nat->Nat->St->Hp->Prop,(∃m,W 0 m G H)/\∀i m G H,W i m G H->
  ((AZ K a).stop i H/\D.nx G H)\/((AZ K a).go i H/\∃N:St->Hp->Prop,(∀G' H',N G' H'->∃m',m'<m/\W (i+1) m' G' H')/\∀x H',(AZ K a).Gd i H x H'->g x G H' fun G2 H2=>tb {D with nx:=N,ct:=N,bk:=D.nx} G2 H2):=by
 refine⟨fun i m G H=>m=xs.length-i/\i<=xs.length/\Pv i G H,⟨xs.length,by simp,zaG _,h0⟩,?_⟩
 rintro i m G H ⟨rfl,hi,p⟩
 have q:=hl i G H hi p;by_cases sY:i<xs.length
 .refine .inr ⟨⟨xs,xs[i],q,by simp[sY]⟩,Pv (i+1),fun G' H' p'=>⟨xs.length-(i+1),by lia,rfl,sY,p'⟩,fun x H' y=>?_⟩;obtain⟨e,y⟩:=y;subst e;exact hs i x G _ (y xs q) p
 .have e:i=xs.length:=by lia
  subst e;exact .inl ⟨⟨xs,q,zah _⟩,hd G H p⟩
theorem K7{K:zaa}{g:TG}{tb:TS}{D:Ends}(Pv:Nat->St->Hp->Prop)(h0:Pv 0 G H)(hl:∀i G H,i<=xs.length->Pv i G H->bG K H a xs)
 (hs:∀i x G H,xs[i]?=some x->Pv i G H->g x G H fun G2 H2=>tb {D with nx:=Pv (i+1),ct:=Pv (i+1),bk:=D.nx} G2 H2) (hd:∀G H,Pv xs.length G H->D.nx G H) :
 ∃W:Nat->Nat->St->Hp->Prop,(∃m,W 0 m G H)/\∀i m G H,W i m G H->
  ((SS K a).stop i H/\D.nx G H)\/((SS K a).go i H/\∃N:St->Hp->Prop,(∀G' H',N G' H'->∃m',m'<m/\W (i+1) m' G' H')/\∀x H',(SS K a).Gd i H x H'->g x G H' fun G2 H2=>tb {D with nx:=N,ct:=N,bk:=D.nx} G2 H2):=by
 refine⟨fun i m G H=>m=xs.length-i/\i<=xs.length/\Pv i G H,⟨xs.length,by simp,zaG _,h0⟩,?_⟩
 rintro i m G H ⟨rfl,hi,p⟩
 have q:=hl i G H hi p;by_cases sY:i<xs.length
 .refine .inr ⟨⟨xs,xs[i],q,by simp[sY]⟩,Pv (i+1),fun G' H' p'=>⟨xs.length-(i+1),by lia,rfl,sY,p'⟩,fun x H' y=>?_⟩;obtain⟨e,y⟩:=y;subst e;exact hs i x G _ (y xs q) p
 .have e:i=xs.length:=by lia
  subst e;exact .inl ⟨⟨xs,q,zah _⟩,hd G H p⟩
theorem zm{lo:Int}{g:TG}{tb:TS}{D:Ends}(Pv:Nat->St->Hp->Prop)(h0:Pv 0 G H)
 (hs:∀i G H,i<n->Pv i G H->g (.int (lo+i)) G H fun G2 H2=>tb {D with nx:=Pv (i+1),ct:=Pv (i+1),bk:=D.nx} G2 H2) (hd:∀G H,Pv n G H->D.nx G H) :
 ∃W:Nat->Nat->St->Hp->Prop,(∃m,W 0 m G H)/\∀i m G H,W i m G H->
  ((Ox lo n).stop i H/\D.nx G H)\/((Ox lo n).go i H/\∃N:St->Hp->Prop,(∀G' H',N G' H'->∃m',m'<m/\W (i+1) m' G' H')/\∀x H',(Ox lo n).Gd i H x H'->g x G H' fun G2 H2=>tb {D with nx:=N,ct:=N,bk:=D.nx} G2 H2):=by
 refine⟨fun i m G H=>m=n-i/\i<=n/\Pv i G H,⟨n,by simp,zaG _,h0⟩,?_⟩
 rintro i m G H ⟨rfl,hi,p⟩
 by_cases sY:i<n
 .refine .inr ⟨sY,Pv (i+1),fun G' H' p'=>⟨n-(i+1),by lia,rfl,sY,p'⟩,fun x H' y=>?_⟩;obtain⟨e,y⟩:=y;subst e y;exact hs i G _ sY p
 .have e:i=n:=by lia
  subst e;exact .inl ⟨zah _,hd G H p⟩
abbrev R2:=V->V->Hp->VK->Prop
def vL (X:Cx)(f:zdj->zdj->Sem zdj)(r:R2):Prop:=
 ∀(pins:List (zdi×Obj)) (s:zds) (G:St) (H:Hp) (x y:V) (v u:zdj) (Q:VK),Inv X pins G H s->RelV x v->RelV y u->r x y H Q->
  yaa (model X.prog X.w) X.A (f v u) (EP X pins G Q) X.xe s
def UnR (X:Cx)(f:zdj->Sem zdj)(r:V->Hp->VK->Prop):Prop:=
 ∀(pins:List (zdi×Obj)) (s:zds) (G:St) (H:Hp) (x:V) (v:zdj) (Q:VK),Inv X pins G H s->RelV x v->r x H Q->
  yaa (model X.prog X.w) X.A (f v) (EP X pins G Q) X.xe s
def sP (X:Cx)(f:zdj)(r:List V->Hp->VK->Prop):Prop:=
 ∀(pins:List (zdi×Obj)) (s:zds) (G:St) (H:Hp) (xs:List V) (us:List zdj) (Q:VK),Inv X pins G H s->Vals xs us->r xs H Q->
  yaa (model X.prog X.w) X.A (call f us) (EP X pins G Q) X.xe s
def acC (X:Cx)(r:V->Hp->(Bool->Hp->Prop)->Prop):Prop:=
 ∀(pins:List (zdi×Obj)) (s:zds) (G:St) (H:Hp) (x:V) (v:zdj) (Q:Bool->Hp->Prop),Inv X pins G H s->RelV x v->r x H Q->
  yaa (model X.prog X.w) X.A (truthy v) (TP X pins G Q) X.xe s
def SU (r:R2)(ta tb:TE):TE:=fun G H Q=>ta G H fun x H1=>tb G H1 fun y H2=>r x y H2 Q
def tUn (r:V->Hp->VK->Prop)(ta:TE):TE:=fun G H Q=>ta G H fun x H1=>r x H1 Q
def rI (C:Int->Int->Prop)(g:Int->Int->V):R2:=fun x y H Q=>∃i j,x=.int i/\y=.int j/\C i j/\Q (g i j) H
def SV (g:Int->Int->V):R2:=fun x y H Q=>∃i j,x=.int i/\y=.int j/\Q (g i j) H
def rU (g:Int->V):V->Hp->VK->Prop:=fun x H Q=>∃i,x=.int i/\Q (g i) H
section
variable{X:Cx}{a b c:Expr}{ta tb tc:TE}{pos:Pos}
theorem VT(ha:PE X a ta)(hb:PE X b tb){G:St}{R:V->V->Hp->Prop}(I:Inv X pins G H s)
 (h:ta G H fun x H1=>tb G H1 fun y H2=>R x y H2) {Q:zdj->zds->Prop} {f:zdj->zdj->Sem zdj}
 (hf:∀v u s2 x y H2,Inv X pins G H2 s2->RelV x v->RelV y u->R x y H2->yaa (model X.prog X.w) X.A (f v u) Q X.xe s2) :
 yaa (model X.prog X.w) X.A (eval a X.env) (fun v s₁=>yaa (model X.prog X.w) X.A (eval b X.env) (fun u s₂=>yaa (model X.prog X.w) X.A (f v u) Q X.xe s₂) X.xe s₁) X.xe s:=by
 refine ib (ha pins s G H _ I h) fun v s1 zqz=>?_;obtain⟨x,H1,I1,r1,q1⟩:=zqz;refine ib (hb pins s1 G H1 _ I1 q1) fun u s2 zqz=>?_;obtain⟨y,H2,I2,r2,q2⟩:=zqz;exact hf v u s2 x y H2 I2 r1 r2 q2
theorem aY{op:Operator}{r:R2}(ho:vL X (binaryOp op) r)(ha:PE X a ta)(hb:PE X b tb):PE X (.BinOp a op b pos) (SU r ta tb):=by
 intro pins s G H Q I h;exact wpAny_BinOp (VT ha hb I h fun v u s2 x y H2 I2 rx ry q=>ho pins s2 G H2 x y v u Q I2 rx ry q)
theorem Uv(ho:UnR X (unaryOp op) r)(ha:PE X a ta):PE X (.UnaryOp op a pos) (tUn r ta):=by
 intro pins s G H Q I h;exact UnaryOp_ (ib (ha pins s G H _ I h) fun v s1 ⟨x,H1,I1,r1,q1⟩=>ho pins s1 G H1 x v Q I1 r1 q1)
theorem YJ{g:Int->Int->Int}
 (rule:∀(i j:Int) (t u:Tok) (s:zds) (Q:zdj->zds->Prop) (E:zdj->zds->Prop),C i j->Q (.int (g i j) s.toks) {s with toks:=s.toks+1}->yaa (model X.prog X.w) X.A (f (.int i t) (.int j u)) Q E s) :
 vL X f (rI C fun i j=>.int (g i j)):=by
 intro pins s G H x y v u Q I rx ry h;obtain⟨i,j,rfl,rfl,hc,q⟩:=h;obtain⟨t,rfl⟩:=rx;obtain⟨t',rfl⟩:=ry;exact rule i j t t' s _ _ hc ⟨.int (g i j),H,I.tok _,⟨_,rfl⟩,q⟩
theorem YK{g:Int->Int->Int}
 (rule:∀(i j:Int) (t u:Tok) (s:zds) (Q:zdj->zds->Prop) (E:zdj->zds->Prop),Q (.int (g i j) s.toks) {s with toks:=s.toks+1}->yaa (model X.prog X.w) X.A (f (.int i t) (.int j u)) Q E s) :
 vL X f (SV fun i j=>.int (g i j)):=by
 intro pins s G H x y v u Q I rx ry h;obtain⟨i,j,rfl,rfl,q⟩:=h;obtain⟨t,rfl⟩:=rx;obtain⟨t',rfl⟩:=ry;exact rule i j t t' s _ _ ⟨.int (g i j),H,I.tok _,⟨_,rfl⟩,q⟩
theorem VU{g:Int->Int->Bool}
 (rule:∀(i j:Int) (t u:Tok) (s:zds) (Q:zdj->zds->Prop) (E:zdj->zds->Prop),Q (.bool (g i j)) s->yaa (model X.prog X.w) X.A (f (.int i t) (.int j u)) Q E s) :
 vL X f (SV fun i j=>.bl (g i j)):=by
 intro pins s G H x y v u Q I rx ry h;obtain⟨i,j,rfl,rfl,q⟩:=h;obtain⟨t,rfl⟩:=rx;obtain⟨t',rfl⟩:=ry;exact rule i j t t' s _ _ ⟨.bl (g i j),H,I,rfl,q⟩
def YL (i j:Int):Prop:=0<j/\j<1073741824
def YM (i j:Int):Prop:=0<=j/\j<=1000000/\i.natAbs<2 ^ 64
def MY (i j:Int):Prop:=(-(2 ^ 64)<i/\i<2 ^ 64)\/(-(2 ^ 64)<j/\j<2 ^ 64)
theorem MY.ok(h:MY i j):IntMulOk i j:=by
 rcases h with ⟨h1,h2⟩ |⟨h1,h2⟩
 .exact .of_left (intBits_le_64 h1 h2)
 .exact .of_right (intBits_le_64 h1 h2)
theorem fC:vL X (binaryOp .Add) (SV fun i j=>.int (i+j)):=YK fun _ _ _ _ _ _ _ q=>add_int q
theorem tO:vL X (binaryOp .Sub) (SV fun i j=>.int (i-j)):=YK fun _ _ _ _ _ _ _ q=>sub_int q
theorem tP:vL X (binaryOp .Mult) (rI MY fun i j=>.int (i*j)):=YJ fun _ _ _ _ _ _ _ hc q=>mul_int q hc.ok
theorem EC:vL X (binaryOp .FloorDiv) (rI YL fun i j=>.int (i/j)):=YJ fun i j _ _ _ _ _ hc q=>by
 have h1:(0:Int)<j:=hc.1;have h2:j<1073741824:=hc.2;exact floordiv_int (by lia) (by rw[Int.fdiv_eq_ediv_of_nonneg i (by lia)];exact q) (.inl (PyProof.noPylong_small (by lia)))
theorem nV:vL X (binaryOp .Mod) (rI (fun _ j=>0<j) fun i j=>.int (i%j)):=YJ fun i j _ _ _ _ _ hc q=>by
 have h1:(0:Int)<j:=hc;exact mod_int' (by lia) (by rw[Int.fmod_eq_emod_of_nonneg i (by lia)];exact q)
theorem Ju:vL X (binaryOp .Pow) (rI YM fun i j=>.int (i ^ j.toNat)):=YJ fun _ _ _ _ _ _ _ hc q=>pow_int_small hc.1 hc.2.1 hc.2.2 q
theorem unI{g:Int->Int}
 (rule:∀(i:Int) (t:Tok) (s:zds) (Q:zdj->zds->Prop) (E:zdj->zds->Prop),Q (.int (g i) s.toks) {s with toks:=s.toks+1}->yaa (model X.prog X.w) X.A (f (.int i t)) Q E s) :
 UnR X f (rU fun i=>.int (g i)):=by
 intro pins s G H x v Q I rx h;obtain⟨i,rfl,q⟩:=h;obtain⟨t,rfl⟩:=rx;exact rule i t s _ _ ⟨.int (g i),H,I.tok _,⟨_,rfl⟩,q⟩
theorem OA:UnR X (unaryOp .USub) (rU fun i=>.int (-i)):=unI fun _ _ _ _ _ q=>neg_int q
end
noncomputable def Jv:V->V->Bool
 |.cH,.cH=>true |.cH,.int _=>true |.int _,.cH=>true |.cH,.bl _=>true |.bl _,.cH=>true |.cH,.str _=>true |.str _,.cH=>true
 |.int _,.int _=>true |.bl _,.bl _=>true |.str _,.str _=>true |.KZ _,.KZ _=>true
 |.int _,.str _=>true |.str _,.int _=>true |.bl _,.str _=>true |.str _,.bl _=>true
 |_,_=>false
def rEq:R2:=fun x y H Q=>Jv x y=true/\Q (.bl (decide (x=y))) H
def rNe:R2:=fun x y H Q=>Jv x y=true/\Q (.bl (!decide (x=y))) H
theorem K8:decide (V.int i=V.int j)=(i==j):=by
 rw[zcc];simp
theorem OB:decide (V.bl i=V.bl j)=(i==j):=by
 rw[zcc];simp
theorem K9:decide (V.str i=V.str j)=(i==j):=by
 rw[zcc];simp
theorem Ld:decide (V.KZ i=V.KZ j)=(i.toList==j.toList):=by
 rw[zcc];cases i;cases j;simp
section
variable{X:Cx}{a b c:Expr}{ta tb tc:TE}{pos:Pos}
theorem b9{G:St}(I:Inv X pins G H s)(q:Q (.bl k) H)(e:k=k'):EP X pins G Q (.bool k') s:=by
 subst e;exact⟨.bl k,H,I,rfl,q⟩
theorem bB:vL X (yar .Eq) rEq:=by
 intro pins s G H x y v u Q I rx ry h;obtain⟨hs,q⟩:=h;cases x with
 |cH=>
  cases rx;cases y with
  |cH=>cases ry;exact PySem.EqNone.eq_none_none (b9 I q (by simp))
  |bl j=>cases ry;exact PySem.EqNone.eq_none_bool (b9 I q (by simp))
  |int j=>obtain⟨t',rfl⟩:=ry;exact PySem.EqNone.eq_none_int (b9 I q (by simp))
  |str j=>obtain⟨t',rfl⟩:=ry;exact PySem.EqNone.eq_none_str (b9 I q (by simp))
  |_=>exact ybw (show false=true from hs) zag
 |bl i=>
  cases rx;cases y with
  |cH=>cases ry;exact PySem.EqNone.eq_bool_none (b9 I q (by simp))
  |bl j=>cases ry;exact eq_bool (b9 I q OB)
  |str j=>obtain⟨t',rfl⟩:=ry;exact PySem.EqMixed.eq_bool_str (b9 I q (by simp))
  |_=>exact ybw (show false=true from hs) zag
 |int i=>
  obtain⟨t,rfl⟩:=rx;cases y with
  |cH=>cases ry;exact PySem.EqNone.eq_int_none (b9 I q (by simp))
  |int j=>obtain⟨t',rfl⟩:=ry;exact eq_int (b9 I q K8)
  |str j=>obtain⟨t',rfl⟩:=ry;exact PySem.EqMixed.eq_int_str (b9 I q (by simp))
  |_=>exact ybw (show false=true from hs) zag
 |str i=>
  obtain⟨t,rfl⟩:=rx;cases y with
  |cH=>cases ry;exact PySem.EqNone.eq_str_none (b9 I q (by simp))
  |bl j=>cases ry;exact PySem.EqMixed.eq_str_bool (b9 I q (by simp))
  |int j=>obtain⟨t',rfl⟩:=ry;exact PySem.EqMixed.eq_str_int (b9 I q (by simp))
  |str j=>obtain⟨t',rfl⟩:=ry;exact eq_str (b9 I q K9)
  |_=>exact ybw (show false=true from hs) zag
 |KZ i=>
  obtain⟨t,rfl⟩:=rx;cases y with
  |KZ j=>obtain⟨t',rfl⟩:=ry;exact PySem.W.eq_bytes (b9 I q Ld)
  |_=>exact ybw (show false=true from hs) zag
 |_=>cases y<;>exact ybw (show false=true from hs) zag
theorem Lg:vL X (yar .NotEq) rNe:=by
 intro pins s G H x y v u Q I rx ry h;obtain⟨hs,q⟩:=h;cases x with
 |cH=>
  cases rx;cases y with
  |cH=>cases ry;exact PySem.EqNone.ne_none_none (b9 I q (by simp))
  |bl j=>cases ry;exact PySem.EqNone.ne_none_bool (b9 I q (by simp))
  |int j=>obtain⟨t',rfl⟩:=ry;exact PySem.EqNone.ne_none_int (b9 I q (by simp))
  |str j=>obtain⟨t',rfl⟩:=ry;exact PySem.EqNone.ne_none_str (b9 I q (by simp))
  |_=>exact ybw (show false=true from hs) zag
 |bl i=>
  cases rx;cases y with
  |cH=>cases ry;exact PySem.EqNone.ne_bool_none (b9 I q (by simp))
  |bl j=>cases ry;exact ne_bool (b9 I q (ybv not OB))
  |str j=>obtain⟨t',rfl⟩:=ry;exact PySem.EqMixed.ne_bool_str (b9 I q (by simp))
  |_=>exact ybw (show false=true from hs) zag
 |int i=>
  obtain⟨t,rfl⟩:=rx;cases y with
  |cH=>cases ry;exact PySem.EqNone.ne_int_none (b9 I q (by simp))
  |int j=>obtain⟨t',rfl⟩:=ry;exact ne_int (b9 I q (ybv not K8))
  |str j=>obtain⟨t',rfl⟩:=ry;exact PySem.EqMixed.ne_int_str (b9 I q (by simp))
  |_=>exact ybw (show false=true from hs) zag
 |str i=>
  obtain⟨t,rfl⟩:=rx;cases y with
  |cH=>cases ry;exact PySem.EqNone.ne_str_none (b9 I q (by simp))
  |bl j=>cases ry;exact PySem.EqMixed.ne_str_bool (b9 I q (by simp))
  |int j=>obtain⟨t',rfl⟩:=ry;exact PySem.EqMixed.ne_str_int (b9 I q (by simp))
  |str j=>obtain⟨t',rfl⟩:=ry;exact ne_str (b9 I q (ybv not K9))
  |_=>exact ybw (show false=true from hs) zag
 |KZ i=>
  obtain⟨t,rfl⟩:=rx;cases y with
  |KZ j=>obtain⟨t',rfl⟩:=ry;exact PySem.W.ne_bytes (b9 I q (ybv not Ld))
  |_=>exact ybw (show false=true from hs) zag
 |_=>cases y<;>exact ybw (show false=true from hs) zag
theorem xM:vL X (yar .Lt) (SV fun i j=>.bl (decide (i<j))):=VU fun _ _ _ _ _ _ _ q=>lt_int q
theorem Lh:vL X (yar .Gt) (SV fun i j=>.bl (decide (j<i))):=VU fun _ _ _ _ _ _ _ q=>gt_int q
theorem Uw:vL X (yar .GtE) (SV fun i j=>.bl (decide (j<=i))):=VU fun _ _ _ _ _ _ _ q=>ge_int q
theorem Bg:vL X (yar .Is) (fun x y H Q=>y=.cH/\Q (.bl (decide (x=.cH))) H):=by
 intro pins s G H x y v u Q I rx ry h;obtain⟨rfl,q⟩:=h;cases ry;refine is_none_gen (b9 I q ?_);cases x<;>first
  |(cases rx;rfl)
  |(obtain⟨t,rfl⟩:=rx;rfl)
theorem A4:vL X (yar .IsNot) (fun x y H Q=>y=.cH/\Q (.bl (!decide (x=.cH))) H):=by
 intro pins s G H x y v u Q I rx ry h;obtain⟨rfl,q⟩:=h;cases ry;refine isnot_none_gen (b9 I q ?_);cases x<;>first
  |(cases rx;rfl)
  |(obtain⟨t,rfl⟩:=rx;rfl)
theorem aH(b:Expr)(h:op≠.In:=by decide)(h2:op≠.NotIn:=by decide):behindInMarks op b=false:=by
 have e1:(op==CmpOp.In)=false:=by cases op<;>first |rfl |exact ybw rfl h
 have e2:(op==CmpOp.NotIn)=false:=by cases op<;>first |rfl |exact ybw rfl h2
 cases b<;>simp[behindInMarks,e1,e2]
theorem gu(ho:vL X (yar op) r)(ha:PE X a ta)(hb:PE X b tb)(hm:behindInMarks op b=false):PE X (.Compare a [op] [b] pos) (SU r ta tb):=by
 intro pins s G H Q I h;exact wpAny_Compare1 (VT ha hb I h fun v u s2 x y H2 I2 rx ry q=>ho pins s2 G H2 x y v u Q I2 rx ry q) hm
def Li (t:TE):TT:=fun G H Q=>t G H fun x H'=>∃k,x=.bl k/\Q k H'
theorem az{op:CmpOp}{r:R2}(ho:vL X (yar op) r)(ha:PE X a ta)(hb:PE X b tb)(hm:behindInMarks op b=false):PT X (.Compare a [op] [b] pos) (Li (SU r ta tb)):=by
 intro pins s G H Q I h;refine wpAny_isTrue_Compare1 (ib (ha pins s G H _ I h) fun v s1 zqz=>?_) hm;obtain⟨x,H1,I1,r1,q1⟩:=zqz;refine ib (hb pins s1 G H1 _ I1 q1) fun u s2 zqz=>?_;obtain⟨y,H2,I2,r2,q2⟩:=zqz;refine ib (ho pins s2 G H2 x y v u _ I2 r1 r2 q2) fun c s3 zqz=>?_;obtain⟨z,H3,I3,r3,k,e,q3⟩:=zqz;subst e;cases r3;exact ya1 ⟨H3,I3,q3⟩
def YN (K:zaa)(x:V)(H:Hp)(k:Bool):Prop:=
 match x with
 |.cH=>k=false
 |.bl b=>k=b
 |.int i=>k=(i != 0)
 |.str y=>y.length<=zdq/\k=((y.length:Int) != 0)
 |.KZ y=>y.size<=zdq/\k=((y.size:Int) != 0)
 |.ref p=>(∃xs,jJ K H p xs/\k = !xs.isEmpty)\/(∃xs,bG K H p xs/\k = !xs.isEmpty)\/∃kvs,H p=some (.dK kvs)/\k = !kvs.isEmpty
 |_=>False
theorem Jw{Y:Type}{kvs:List (Y×V)}{vs:List (Y×zdj)}(r:KV kvs vs):(!vs.isEmpty) = !kvs.isEmpty:=by
 cases r<;>rfl
theorem Bh(r:Vals xs its):(!its.toArray.isEmpty) = !xs.isEmpty:=by
 cases r<;>simp
theorem zo:(zdq:Nat)<2 ^ 63:=by rw[sizeLine_eq];decide
theorem VV:acC X (fun x H Q=>∃k,YN X.K x H k/\Q k H):=by
 intro pins s G H x v Q I rx h;obtain⟨k,e,q⟩:=h;have hl:=zo;have hs:zdq=16777216:=sizeLine_eq;cases x with
 |cH=>
  cases rx;have e':k=false:=e;subst e';exact truthy_none ⟨H,I,q⟩
 |bl b=>
  cases rx;have e':k=b:=e;subst e';exact ya1 ⟨H,I,q⟩
 |int i=>
  obtain⟨t,rfl⟩:=rx;have e':k=(i != 0):=e;subst e';exact PySem.P.truthy_int ⟨H,I,q⟩
 |str y=>
  obtain⟨t,rfl⟩:=rx;obtain⟨hy,e'⟩:y.length<=zdq/\k=((y.length:Int) != 0):=e;subst e';exact PySem.P.truthy_str (by lia) ⟨H,I.tok _,q⟩
 |KZ y=>
  obtain⟨t,rfl⟩:=rx;obtain⟨hy,e'⟩:y.size<=zdq/\k=((y.size:Int) != 0):=e;subst e';exact PySem.W.truthy_bytes (by lia) ⟨H,I.tok _,q⟩
 |ref p=>
  cases rx;have e':(∃xs,jJ X.K H p xs/\k = !xs.isEmpty)\/(∃xs,bG X.K H p xs/\k = !xs.isEmpty)\/∃kvs,H p=some (.dK kvs)/\k = !kvs.isEmpty:=e;rcases e' with ⟨xs,hx,e'⟩ |⟨xs,hx,e'⟩ |⟨kvs,hx,e'⟩
  .subst e';obtain⟨its,r,pl,hz⟩:=I.list hx;have hlen:=r.length;exact wpAny_truthy_list pl.isList (by simp only[zat];lia) ⟨H,I.tok _,by rw[Bh r];exact q⟩
  .subst e';obtain⟨its,r,pl,hz⟩:=I.tuple hx;have hlen:=r.length;exact truthy_tuple pl (by simp only[zat];lia) ⟨H,I.tok _,by rw[Bh r];exact q⟩
  .subst e';obtain⟨hz,hS,vs,r,m⟩:kvs.length<=zdq/\(p==yal)=false/\∃vs,KV kvs vs/\s.heap.DictOf (bF X.prog X.w) p vs:=I.dW p _ hx;have hlen:kvs.length=vs.length:=yaj r;exact wpAny_truthy_dict hS m (by lia) ⟨H,I.tok _,by rw[Jw r];exact q⟩
 |_=>exact(show False from e).elim
theorem OC(ha:PE X a ta)(he:∀whole,isTrue a X.env whole=(do let v <- whole;standAt a.pos;holding [v] (truthy v))) :
 PT X a (fun G H Q=>ta G H fun x H'=>∃k,YN X.K x H' k/\Q k H'):=by
 intro pins s G H Q I h;exact isTrue_plain (ib (ha pins s G H _ I h) fun v s1 ⟨x,H1,I1,r1,q1⟩=>VV pins s1 G H1 x v Q I1 r1 q1) (he _)
theorem vals1(r:Vals [x] us):∃u,us=[u]/\RelV x u:=by
 cases r with
 |cons r1 r2=>cases r2;exact⟨_,rfl,r1⟩
theorem vals2(r:Vals [x,y] us):∃u w',us=[u,w']/\RelV x u/\RelV y w':=by
 cases r with
 |cons r1 r2=>
  cases r2 with
  |cons r3 r4=>cases r4;exact⟨_,_,rfl,r1,r3⟩
end
structure Jx(h:yaf)(x dx C:zdi)(mA:Str->Option zdj):Prop where
 obj:h.get? x=some (zbF C dx)
 ns:h.Ns1 dx mA
 ne:dx≠x
theorem MZ{h:yaf}(n:h.Ns1 dx mA):∃od,h.get? dx=some od/\∀name,zcD name od=some (mA name):=by
 obtain⟨o,es,ep,ho,hd,hk,_,hm⟩:=n;refine⟨o,ho,fun name=>?_⟩;have e:=hm name;unfold nsFind findBy at e;rw[<- Array.find?_toList] at e;unfold zcD;rw[hd];dsimp only;split
 .rename_i y q;rw[q] at e;exact ybv some e
 .rename_i q;rw[q] at e;have a:es.toList.any (·.refKey)=false:=by
   rw[List.any_eq_false];intro y hy;obtain⟨z,t,acE⟩:=hk y (Array.mem_toList_iff.mp hy);simp[DictEntry.refKey,acE]
  have a':¬es.toList.any (·.refKey)=true:=by rw[a];exact zag
  rw[ybq a'];exact ybv some e
theorem Jx.look(I:Jx h x dx C mA):∃od,PySem.W.InstAt h x (zbF C dx) C (some od)/\∀name,zcD name od=some (mA name):=
 let ⟨od,ho,hl⟩:=MZ I.ns
 ⟨od,⟨I.obj,rfl,rfl,ho⟩,hl⟩
section
variable{prog:zdu}{w:zdk}{A:zdt}{E:zdj->zds->Prop}{s:zds}{K:zaa}{x dx C f:zdi}{mA:Str->Option zdj}{name:Str}{v:zdj}
theorem get_map(X:K.In s.heap)(I:Jx s.heap x dx C mA)(hg:zb0 K C name=true)(hh:zb8 K C=true)
 (ha:zaI K (.ref C) name=some none) (hv:mA name=some v) (qK:PySem.W.handedIn v=true) (h:Q v {s with toks:=s.toks+1}) :
 yaa (model prog w) A (getAttr (.ref x) name expr) Q E s:=by
 obtain⟨od,J,hl⟩:=I.look;exact PySem.W.get_value X J (zcy hg).1 (PySem.W.findObj_own hh ha rfl (by rw[hl,hv])) qK h
theorem OD(X:K.In s.heap)(I:Jx s.heap x dx C mA)(hg:zb0 K C name=true)
 (hf:zaI K (.ref C) name=some (some (.ref f))) (ht:zcg K (.ref f)=true) (hv:mA name=none) (h:Q (.ref f,[.ref x]) s) :
 yaa (model prog w) A (getMethod (.ref x) name pl) Q E s:=by
 obtain⟨od,J,hl⟩:=I.look;exact PySem.W.method_fn X J (zcy hg).1 (zcy hg).2 hf (beq_iff_eq.mp ht) (by show (zcD name od).map (·.isSome)=some false;rw[hl,hv];rfl) h
theorem ED(X:K.In s.heap)(I:Jx s.heap x dx C mA)
 (hs:zaI K (.ref C) "__setattr__"=some (some (.builtin "object.__setattr__"))) (hp:zcl K C=true) (ht:zcY K C name=some none) (hh:zb8 K C=true)
 (hw:PySem.Within mA ns) (hsz:ns.length<=zdq)
 (h:∀h',Jx h' x dx C (fun y=>if y=name then some v else mA y)->yat dx s.heap h'->Q () {s with heap:=h',toks:=s.toks+2}) :
 yaa (model prog w) A (setAttr (.ref x) name v) Q E s:=by
 obtain⟨od,J,hl⟩:=I.look;refine PySem.W.set_plain X J hs (PySem.W.osa_open (s:={s with toks:=s.toks+1}) (r:=none) X J hp ht fun b=>?_);obtain⟨cd,hc,VH⟩:=PySem.W.any_some hh;have hx:s.heap.get? x=some ⟨.ref C,some dx,.plain, #[]⟩:=I.obj;refine zdl (zdm (zdl (zdl (wpAny_loadPart hx (zdl (PySem.W.Looks.here (s:={s with toks:=s.toks+1}) (PySem.W.looks_clsIn X hc) ?_))))));rw[VH];refine zdm (a:=some dx) (zdl (zdm (zdl ?_)));refine wpAny_nsSet1 (s:={s with toks:=s.toks+1}) I.ns fun h' hn2 hs2=>?_;obtain⟨oD,esD,epD,hoD,hdD,hcD⟩:=hn2.count (PySem.Within.cons name v hw);refine zdl (wpAny_lookBehind hoD (by rw[hdD];exact pastItsLine_dict (zaz hcD (by rw[zal];lia))) ?_);exact zdm (h _ ⟨(hs2.2 _ (Ne.symm I.ne)).trans I.obj,hn2,I.ne⟩ hs2)
theorem OE(X:K.In s.heap)(hm:zcv K C=true)
 (hi:zaI K (.ref C) "__init__"=some (some (.ref f))) (hf:PySem.W.typeIn K (.ref f)=some (.type "function"))
 (h:codeAny (model prog w) (A.under (.builtin "type.__call__" ⟨.ref C::vs,kw⟩)) (.call (.ref f) ⟨.ref (s.heap.objs.size+1)::vs,kw⟩) (PySem.W.InitBack (s.heap.objs.size+1) R)
  {s with heap:=(s.heap.push zbp).push (zbF C s.heap.objs.size)}) :
 codeAny (model prog w) A (.call (.ref C) ⟨vs,kw⟩) R s:=by
 obtain⟨hh,g,d,t,os⟩:=s;exact PySem.W.make_core (PySem.W.makes_of X hm) (PySem.W.looks_findIn X hi) (fun self=>PySem.W.bind_fn X self hf) (.inl rfl) h
end
noncomputable def jK (f:Str)(v:V):List (Str×V)->List (Str×V)
 |[]=>[(f,v)]
 |(g,x)::r=>if g=f then (g,v)::r else (g,x)::jK f v r
theorem Ap(f g:Str)(v:V):∀fs:List (Str×V),(jK f v fs).lookup g=if g=f then some v else fs.lookup g
 |[]=>by
  show zbV g [(f,v)]=_;by_cases h:g=f
  .have hb:(g==f)=true:=beq_iff_eq.mpr h;simp only[zbV,hb,ybr h]
  .have hb:(g==f)=false:=beq_eq_false_iff_ne.mpr h;simp only[zbV,hb,ybq h]
 |(k,x)::r=>by
  have ih:=Ap f g v r;rw[show jK f v ((k,x)::r)=(if k=f then (k,v)::r else (k,x)::jK f v r) from rfl];by_cases hk:k=f
  .rw[ybr hk];by_cases h:g=k
   .have hb:(g==k)=true:=beq_iff_eq.mpr h;simp only[zbV,hb,ybr (h.trans hk)]
   .have hb:(g==k)=false:=beq_eq_false_iff_ne.mpr h;simp only[zbV,hb,ybq (fun e:g=f=>h (e.trans hk.symm))]
  .rw[ybq hk];by_cases h:g=k
   .have hb:(g==k)=true:=beq_iff_eq.mpr h;simp only[zbV,hb,ybq (fun e:g=f=>hk (h.symm.trans e))]
   .have hb:(g==k)=false:=beq_eq_false_iff_ne.mpr h;simp only[zbV,hb];exact ih
theorem zp(f:Str)(v:V):∀fs:List (Str×V),f∈(jK f v fs).map (·.1)/\∀g,g∈fs.map (·.1)->g∈(jK f v fs).map (·.1)
 |[]=>⟨by simp[jK],fun g h=>by simp at h⟩
 |(k,x)::r=>by
  obtain⟨i1,i2⟩:=zp f v r;rw[show jK f v ((k,x)::r)=(if k=f then (k,v)::r else (k,x)::jK f v r) from rfl];by_cases hk:k=f
  .rw[ybr hk];subst hk;exact⟨by simp,fun g h=>by simpa using h⟩
  .rw[ybq hk];refine⟨?_,fun g h=>?_⟩
   .rw[zaq];exact zao _ i1
   .rw[zaq] at h |-;rcases zan.mp h with e |e
    .exact zan.mpr (.inl e)
    .exact zao _ (i2 g e)
theorem Aq(f:Str)(v:V):∀fs:List (Str×V),(jK f v fs).length<=fs.length+1
 |[]=>by simp[jK]
 |(k,x)::r=>by
  have ih:=Aq f v r;rw[show jK f v ((k,x)::r)=(if k=f then (k,v)::r else (k,x)::jK f v r) from rfl];by_cases hk:k=f
  .rw[ybr hk,zal,zal];lia
  .rw[ybq hk,zal,zal];lia
theorem qM.some_of(r:qM (some v) o):∃u,o=some u/\RelV v u:=by
 cases o with
 |none=>exact(show False from r).elim
 |some u=>exact⟨u,rfl,r⟩
theorem qM.none_of(r:qM none o):o=none:=by
 cases o with
 |none=>rfl
 |some u=>exact(show False from r).elim
theorem M0(r:RelV v u):PySem.W.handedIn u=true:=by
 cases v with
 |cH=>cases (show u=yas from r);rfl
 |bl b=>cases (show u=yaJ b from r);rfl
 |int i=>obtain⟨t,e⟩:=(show ∃t,u=ybd i t from r);cases e;rfl
 |str x=>obtain⟨t,e⟩:=(show ∃t,u=ya5 x t from r);cases e;rfl
 |KZ b=>obtain⟨t,e⟩:=(show ∃t,u=Value.bytes b t from r);cases e;rfl
 |VB b=>obtain⟨t,e⟩:=(show ∃t,u=Value.float b t from r);cases e;rfl
 |ref a=>cases (show u=yab a from r);rfl
 |ty n=>cases (show u=ya2 n from r);rfl
section
variable{P:zdu}{w:zdk}{H H':Hp}{h h':yaf}{a C dx:zdi}{fs fs':List (Str×V)}
theorem A5(dW:sN P w H h)(e:H a=some (.ins C dx fs)):∃mA,Jx h a dx C mA/\(∀f,qM (fs.lookup f) (mA f))/\PySem.Within mA (fs.map (·.1))/\fs.length<=1000/\H dx=some (.own a):=by
 obtain⟨d,z,ne,ob,mA,n,r,q⟩:=(show cE P w H h a (.ins C dx fs) from dW a _ e)
 exact⟨mA,⟨ob,n,ne⟩,r,q,z,d⟩
end
structure OF(K:zaa)(C:zdi):Prop where
 pg:zb0 K C Str.empty=true
 hd:zb8 K C=true
 po:zcl K C=true
 sa:zaI K (.ref C) "__setattr__"=some (some (.builtin "object.__setattr__"))
theorem OF.get{K:zaa}(c:OF K C)(f:Str):zb0 K C f=true:=c.pg
def ky (K:zaa)(C:zdi)(f:Str):Prop:=zaI K (.ref C) f=some none
theorem ky.YO{K:zaa}(n:ky K C f):zcY K C f=some none:=by
 unfold zcY;rw[show zaI K (.ref C) f=some none from n];rfl
structure Meth(K:zaa)(C:zdi)(m:Str)(f:zdi):Prop where
 at_:zaI K (.ref C) m=some (some (.ref f))
 fn:zcg K (.ref f)=true
 kp:zbo K (.ref f)=true
section
variable{X:Cx}{pins:List (zdi×Obj)}{G:St}{H:Hp}{s:zds}{a C dx:zdi}{fs:List (Str×V)}{f:Str}{v:V}{A:zdt}{E:zdj->zds->Prop}
theorem Jy(I:Inv X pins G H s)(e:H a=some (.ins C dx fs))(c:OF X.K C)(n:ky X.K C f)(l:fs.lookup f=some v)
 (h:∀u s',Inv X pins G H s'->RelV v u->Q u s'):yaa (model X.prog X.w) A (getAttr (.ref a) f b) Q E s:=by
 obtain⟨mA,O,r,_,_,_⟩:=A5 I.dW e;obtain⟨u,hu,ru⟩:=qM.some_of (v:=v) (o:=mA f) (by rw[<- l];exact r f);exact get_map I.AK O (c.get f) c.hd n hu (M0 ru) (h u _ (I.tok _) ru)
theorem Jz(I:Inv X pins G H s)(e:H a=some (.ins C dx fs))(c:OF X.K C)(k:Meth X.K C m g)(l:fs.lookup m=none)
 (h:Q (.ref g,[.ref a]) s):yaa (model X.prog X.w) A (getMethod (.ref a) m pl) Q E s:=by
 obtain⟨mA,O,r,_,_,_⟩:=A5 I.dW e;have hn:mA m=none:=qM.none_of (by rw[<- l];exact r m);exact OD I.AK O (c.get m) k.at_ k.fn hn h
theorem JA(I:Inv X pins G H s)(e:H a=some (.ins C dx fs))(c:OF X.K C)(n:ky X.K C f)(hl:fs.length<1000)(ry:RelV y u)
 (h:∀s',Inv X pins G (upd H a (.ins C dx (jK f y fs))) s'->Q () s'):yaa (model X.prog X.w) A (setAttr (.ref a) f u) Q E s:=by
 obtain⟨mA,O,r,wi,_,ho⟩:=A5 I.dW e;have hz:(fs.map (·.1)).length<=zdq:=by rw[zab,sizeLine_eq];lia
 refine ED I.AK O c.sa c.po n.YO c.hd wi hz fun h' O' sb=>h _ ?_;have hd:∃o,h'.get? dx=some o:=let ⟨o,_,_,e',_⟩:=O'.ns;⟨o,e'⟩;refine I.write (x:=a) (e:=dx) (by rw[e];exact True.intro) (.inr ho) (fun b q hb z=>(sb.2 b hb).trans z) hd ?_;refine⟨by rw[aI O.ne];exact ho,?_,O.ne,O'.obj,_,O'.ns,fun g=>?_,fun g hg=>?_⟩
 .have:=Aq f y fs;lia
 .show qM ((jK f y fs).lookup g) (if g=f then some u else mA g);rw[Ap];by_cases q:g=f
  .rw[ybr q,ybr q];exact ry
  .rw[ybq q,ybq q];exact r g
 .by_cases q:g=f
  .rw[q];exact(zp f y fs).1
  .refine(zp f y fs).2 g (wi g fun z=>hg ?_);show (if g=f then some u else mA g)=none;rw[ybq q];exact z
theorem Inv.made(I:Inv X pins G H s):Inv X pins G (upd (upd H s.heap.objs.size (.own (s.heap.objs.size+1))) (s.heap.objs.size+1) (.ins C s.heap.objs.size []))
 {s with heap:=(s.heap.push zbp).push (zbF C s.heap.objs.size)}:=by
 have e1:(s.heap.push zbp).get? s.heap.objs.size=some zbp:=yae s.heap rfl;have e2:((s.heap.push zbp).push (zbF C s.heap.objs.size)).get? (s.heap.objs.size+1)=some (zbF C s.heap.objs.size):=by
  have:=yae (s.heap.push zbp) (o:=zbF C s.heap.objs.size) rfl
  rwa [yaC] at this
 have e3:(s.heap.push zbp).Ns s.heap.objs.size (fun _=>none):=⟨zbp, #[],_,e1,rfl,(fun e he=>ybw he (by simp)),fun _=>rfl⟩
 have I1:=I.laid (a:=s.heap.objs.size) (o:=.own (s.heap.objs.size+1)) (h':=s.heap.push zbp) (t':=s.toks) (fun b u q=>yac _ q) (zah _) ⟨_,e1⟩;refine I1.laid (a:=s.heap.objs.size+1) (o:=.ins C s.heap.objs.size []) (t':=s.toks) (fun b u q=>yac _ q) (Nat.le_of_eq (yaC _ _)) ?_;have ne:s.heap.objs.size≠s.heap.objs.size+1:=zay (Nat.lt_succ_self _);refine⟨by rw[aI ne,ah],zaG _,ne,e2,fun _=>none,(Heap.Ns1.of_empty e3).at fun o q=>yac _ q,fun _=>True.intro,fun y hy=>ybw rfl hy⟩
theorem SW(hb:attributeBase e f env (eval e env)=eval e env)
 (h:yaa (model prog w) A (eval e env) (fun o s₁=>yaa (model prog w) A (getAttr o f true) Q E s₁) E s):yaa (model prog w) A (eval (.Attribute e f pos) env) Q E s:=
 Attribute_any_ h (by rw[arm_eval_Attribute,hb])
end
def VW (K:zaa)(ta:TE)(f:Str):TE:=fun G H Q=>ta G H fun x H1=>∃a C dx fs v,x=.ref a/\H1 a=some (.ins C dx fs)/\OF K C/\ky K C f/\fs.lookup f=some v/\Q v H1
def GL (K:zaa)(ta tv:TE)(f:Str):TS:=fun D G H=>tv G H fun y H1=>ta G H1 fun x H2=>∃a C dx fs,x=.ref a/\H2 a=some (.ins C dx fs)/\OF K C/\ky K C f/\fs.length<1000/\
 D.nx G (upd H2 a (.ins C dx (jK f y fs)))
section
variable{X:Cx}{o e value:Expr}{f:Str}{pos pos' acF:Pos}{ta tv:TE}
theorem dY(he:PE X e ta)(hb:attributeBase e f X.env (eval e X.env)=eval e X.env):PE X (.Attribute e f pos) (VW X.K ta f):=by
 intro pins s G H Q I h;refine SW hb (ib (he pins s G H _ I h) fun u s1 zqz=>?_);obtain⟨x,H1,I1,rx,a,C,dx,fs,v,ex,ea,c,n,l,q⟩:=zqz;subst ex;obtain rfl:u=yab a:=rx;exact Jy I1 ea c n l fun u' s2 I2 ru=>⟨v,H1,I2,ru,q⟩
theorem wL(ha:PE X o ta)(hv:PE X value tv)(hs:swapsWith value (some (.Attribute o f pos')) pos.line X.env=pure false):PS X (.Assign [.Attribute o f pos'] value pos) (GL X.K ta tv f):=by
 intro pins s G H D I h;refine plainObj_wpAny_Assign_Attribute (ib (hv pins s G H _ I h) fun u s1 zqz=>?_) hs;obtain⟨y,H1,I1,ry,q⟩:=zqz;refine ib (ha pins s1 G H1 _ I1 q) fun ov s2 zqz=>?_;obtain⟨x,H2,I2,rx,a,C,dx,fs,ex,ea,c,n,l,q2⟩:=zqz;subst ex;obtain rfl:ov=yab a:=rx;exact JA I2 ea c n l ry fun s3 I3=>⟨G,_,I3,q2⟩
end
section
variable{X:Cx}{pins:List (zdi×Obj)}{G:St}{H:Hp}{s:zds}{A:zdt}{E:zdj->zds->Prop}{Q:zdj->zds->Prop}{c:zdj}{b:Bool}
inductive zr(K:zaa)(H:Hp):V->zdj->Prop where
 |cH:zr K H .cH (.type "NoneType")
 |bl (x:Bool):zr K H (.bl x) (.type "bool")
 |int (i:Int):zr K H (.int i) (.type "int")
 |str (x:Str):zr K H (.str x) (.type "str")
 |VB (x:UInt64):zr K H (.VB x) (.type "float")
 |lst {a:zdi} {xs:List V} (e:H a=some (.lst xs)):zr K H (.ref a) (.type "list")
 |K0 {a:zdi} {o:Obj} {xs:List V} (e:H a=some (.K0 o (.lst xs))):zr K H (.ref a) (.type "list")
 |tup {a:zdi} {xs:List V} (e:H a=some (.tup xs)):zr K H (.ref a) (.type "tuple")
 |dK {a:zdi} {kvs:List (Key×V)} (e:H a=some (.dK kvs)):zr K H (.ref a) (.type "dict")
 |dT {a:zdi} {kvs:List (List Key×V)} (e:H a=some (.dT kvs)):zr K H (.ref a) (.type "dict")
 |ins {a C dx:zdi} {fs:List (Str×V)} (e:H a=some (.ins C dx fs)) (cl:OF K C) (ha:zaI K (.ref C) "__class__"=some (some (.builtin "object.__class__")))
  (hn:PySem.W.specialIn K (.builtin "object.__class__") "__get__"=some (some (.builtin "getset_descriptor.__get__"))) (htk:PySem.W.takesIn K (.builtin "object.__class__")=some true)
  (hm:PySem.W.mroIn K C (.type "object")=some true):zr K H (.ref a) (.ref C)
theorem M1(I:Inv X pins G H s)(rx:RelV x u)(ty:zr X.K H x t)(e:PySem.W.kitOne X.K t c=some b)(h:∀tk,Q (.bool b) {s with toks:=tk}) :
 yaa (model X.prog X.w) A (call (.builtin "isinstance") [u,c]) Q E s:=by
 cases ty with
 |cH=>cases (show u=yas from rx);exact zbh PySem.W.kitx_none I.AK True.intro e (fun z=>nomatch z) h
 |bl y=>cases (show u=yaJ y from rx);exact zbh PySem.W.kitx_bool I.AK True.intro e (fun z=>nomatch z) h
 |int i=>obtain⟨t,q⟩:=(show ∃t,u=ybd i t from rx);cases q;exact zbh PySem.W.kitx_int I.AK True.intro e (fun z=>nomatch z) h
 |str y=>obtain⟨t,q⟩:=(show ∃t,u=ya5 y t from rx);cases q;exact zbh PySem.W.kitx_str I.AK True.intro e (fun z=>nomatch z) h
 |VB y=>obtain⟨t,q⟩:=(show ∃t,u=Value.float y t from rx);cases q;exact zbh PySem.W.kitx_float I.AK True.intro e (fun z=>nomatch z) h
 |@lst a xs ea=>
  cases (show u=yab a from rx);obtain⟨_,_,n,_,h1⟩:=(show cE X.prog X.w H s.heap a (.lst xs) from I.dW a _ ea)
  exact zbh PySem.W.kitx_list I.AK ⟨_,h1,rfl⟩ e (fun z=>nomatch z) h
 |@K0 a ob xs ea=>
  cases (show u=yab a from rx);obtain⟨_,_,_,n,_,h1⟩:=(show cE X.prog X.w H s.heap a (.K0 ob (.lst xs)) from I.dW a _ ea)
  exact zbh PySem.W.kitx_list I.AK ⟨_,h1,rfl⟩ e (fun z=>nomatch z) h
 |@tup a xs ea=>
  cases (show u=yab a from rx);obtain⟨_,_,_,p⟩:=(show cE X.prog X.w H s.heap a (.tup xs) from I.dW a _ ea)
  obtain⟨o,h1,h2,_⟩:=p;exact zbh PySem.W.kitx_tuple I.AK ⟨o,h1,h2⟩ e (fun z=>nomatch z) h
 |@dK a kvs ea=>
  cases (show u=yab a from rx);obtain⟨_,_,vs,_,p⟩:=(show cE X.prog X.w H s.heap a (.dK kvs) from I.dW a _ ea)
  obtain⟨o,es,ep,h1,h2,_⟩:=p;exact zbh PySem.W.kitx_dict I.AK ⟨o,h1,h2.1⟩ e (fun z=>nomatch z) h
 |@dT a kvs ea=>
  cases (show u=yab a from rx);obtain⟨_,_,xs,_,o,es,ep,h1,h2,_⟩:=(show cE X.prog X.w H s.heap a (.dT kvs) from I.dW a _ ea)
  exact zbh PySem.W.kitx_dict I.AK ⟨o,h1,h2.1⟩ e (fun z=>nomatch z) h
 |@ins a C dx fs ea cl ha hn htk hm=>
  cases (show u=yab a from rx);obtain⟨mA,O,_⟩:=A5 I.dW ea;obtain⟨od,J,_⟩:=O.look;exact zbh (PySem.W.kitx_own (cl.get _) cl.hd ha hn htk hm) I.AK J e (fun z=>nomatch z) h
end
structure jL(k:Nat)(A:zdt):Prop where
 hd:A.handled=none
 dp:A.depth+3*k+5<recursionLimit
 un:A.units+16*k+200<cLine
theorem jL.mono(r:jL k A)(h:j<=k):jL j A:=⟨r.hd,by have:=r.dp;lia,by have:=r.un;lia⟩
theorem jL.deeper(r:jL (k+1) A)(env:Env):jL k (A.deeper env):=
 ⟨r.hd,by have:=r.dp;show A.depth+1+3*k+5<_;lia,by have:=r.un;show A.units+3+16*k+200<_;lia⟩
theorem JB{A:zdt}:(A.under (.builtin "type.__call__" ⟨.ref C::us,kw⟩)).depth=A.depth+1:=by
 first |rfl |simp[Around.under,Code.weight,Code.isCreation,Code.isGuard,Code.isCaller,Code.frames,Code.isFrame,guardIds]
theorem JC{A:zdt}:(A.under (.builtin "type.__call__" ⟨.ref C::us,kw⟩)).units=A.units+1:=by
 first |rfl |simp[Around.under,Code.cUnits,Code.frames,Code.isFrame]
theorem jL.make(r:jL (k+1) A)(C:zdi)(us:List zdj)(kw:List (Str×zdj)):jL k (A.under (.builtin "type.__call__" ⟨.ref C::us,kw⟩)):=
 ⟨r.hd,by have:=r.dp;rw[JB];lia,by have:=r.un;rw[JC];lia⟩
theorem jL.depth(r:jL k A):A.depth<recursionLimit:=by have:=r.dp;lia
theorem jL.units(r:jL k A):A.units+64<cLine:=by have:=r.un;lia
def YQ:TA:=fun _ H Q=>Q [] H
def OG (ta:TE)(tr:TA):TA:=fun G H Q=>ta G H fun x H1=>tr G H1 fun xs H2=>Q (x::xs) H2
section
variable{X:Cx}{e:Expr}{es:List Expr}{te:TE}{t:TA}{pos:Pos}
theorem ae:PA X [] YQ:=fun _ _ _ _ H Q I h=>Calls.spliced_nil ⟨[],H,I,.nil,h⟩
theorem aa(ha:PE X e te)(hr:PA X es t)(hs:zdo (e::es) X.env=(false,eval e X.env)::zdo es X.env:=by rfl):PA X (e::es) (OG te t):=by
 intro pos pins s G H Q I h;rw[hs];show yaa _ _ (spliced ((false,eval e X.env)::backTo pos (zdo es X.env))) _ _ s;refine ybm (ib (ha pins s G H _ I h) fun u s1 zqz=>?_);obtain⟨x,H1,I1,r1,q1⟩:=zqz;exact ib (hr pos pins s1 G H1 _ I1 q1) fun us s2 ⟨xs,H2,I2,r2,q2⟩=>⟨x::xs,H2,I2,.cons r1 r2,q2⟩
def YR (t:TA):TE:=fun G H Q=>t G H fun xs H1=>xs.length<=zdq/\∀p,H1 p=none->Q (.ref p) (upd H1 p (.tup xs))
def YS (t:TA):TE:=fun G H Q=>t G H fun xs H1=>xs.length<=zdq/\∀p,H1 p=none->Q (.ref p) (upd H1 p (.lst xs))
theorem aK{x1}(h:PA X es t):PE X (.Tuple es x1 pos) (YR t):=by
 intro pins s G H Q I hq;refine wpAny_Tuple_spliced (ib (h pos pins s G H _ I hq) fun us s1 ⟨xs,H1,I1,r,z,q⟩=>⟨by rw[<- r.length];exact z,?_⟩);have hf:H1 s1.heap.objs.size=none:=I1.dW.fresh (zah _);refine⟨.ref s1.heap.objs.size,upd H1 s1.heap.objs.size (.tup xs),I1.laid (t':=s1.toks) (fun b u e=>yac _ e) (zah _) ?_,rfl,q _ hf⟩;exact⟨z,us,r,⟨_,yae _ rfl,rfl,_,rfl⟩⟩
theorem aR(h:PA X es t):PE X (.List es pos) (YS t):=by
 intro pins s G H Q I hq;refine wpAny_List_spliced (ib (h pos pins s G H _ I hq) fun us s1 ⟨xs,H1,I1,r,z,q⟩=>⟨by rw[<- r.length];exact z,?_⟩);have hf:H1 s1.heap.objs.size=none:=I1.dW.fresh (zah _);refine⟨.ref s1.heap.objs.size,upd H1 s1.heap.objs.size (.lst xs),I1.laid (t':=s1.toks) (fun b u e=>yac _ e) (zah _) ?_,rfl,q _ hf⟩;exact⟨z,us,0,r,yae _ rfl⟩
end
abbrev Sp:=List V->Hp->VK->XK->Prop
abbrev M3:=List Env->Hp->zds->XK->zdj->zds->Prop
structure JD(P:zdu)(w:zdk)(K:zaa)(mg:Str->Option zdj)(base:yaf)(A:zdt)(outer:List Env)(s:zds)(H:Hp):Prop where
 frames:A.frames=some outer
 mod:Mod K mg base
 bs:∀b o,base.get? b=some o->s.heap.get? b=some o/\H b=none
 SK:base.objs.size<=s.heap.objs.size
 AJ:s.heap.FunFrames base outer
 VE:∀b∈Oq outer,H b=none
 dW:sN P w H s.heap
 bare:AllBare s.gens
def CE (outer:List Env)(P:zdu)(w:zdk)(H:Hp)(s:zds)(Q:VK)(u:zdj)(s':zds):Prop:=
 ∃v H',s'.os=s.os/\AllBare s'.gens/\Un (Oq outer) [] H H' s.heap s'.heap/\sN P w H' s'.heap/\RelV v u/\Q v H'
def CR (CX:M3)(outer:List Env)(P:zdu)(w:zdk)(H:Hp)(s:zds)(Q:VK)(E:XK)(r:Result)(s':zds):Prop:=
 match r with
 |.ok (.ret u)=>CE outer P w H s Q u s'
 |.ok _=>False
 |.error e=>CX outer H s E e s'
structure bq(P:zdu)(w:zdk)(K:zaa)(mg:Str->Option zdj)(base:yaf)(CX:M3)(k:Nat)(f:zdi)(fd:zdr)(ps:List Str)(sp:Sp):Prop where
 len:∀vs H Q E,sp vs H Q E->vs.length=ps.length
 run:∀(A:zdt) (outer:List Env) (s:zds) (H:Hp) (args:Args) (us:List zdj) (vs:List V) (Q:VK) (E:XK),jL k A->JD P w K mg base A outer s H->BindsTo s fd args (ps.zip us)->Vals vs us->sp vs H Q E->
  codeAny (model P w) A (.call (.ref f) args) (CR CX outer P w H s Q E) s
theorem JD.make{K:zaa}(e:JD P w K mg base A outer s H)(C:zdi)(us:List zdj)(kw:List (Str×zdj)) :
 JD P w K mg base (A.under (.builtin "type.__call__" ⟨.ref C::us,kw⟩)) outer s H:=⟨by first |exact e.frames |(simpa[Around.under,Code.envs,Code.isFrame,pushEnvs] using e.frames),e.mod,e.bs,e.SK,e.AJ,e.VE,e.dW,e.bare⟩
section
variable{X:Cx}{pins:List (zdi×Obj)}{G:St}{H:Hp}{s s':zds}
theorem Inv.YT(I:Inv X pins G H s):JD X.prog X.w X.K X.mg X.base X.A X.stack s H:=
 ⟨I.ok.frames,I.ok.mod,I.bs,zaz I.ok.SK I.sz,I.stack,I.K1,I.dW,I.bare⟩
theorem Inv.after(I:Inv X pins G H s)(h:CE X.stack X.prog X.w H s Q u s'):EP X pins G Q u s':=by
 obtain⟨v,H',os,bare,un,dW,r,q⟩:=h;obtain⟨hh,g,d,t,os'⟩:=s';obtain rfl:os'=s.os:=os;exact⟨v,H',I.call (h':=hh) (g':=g) (d':=d) (t':=t) (ch:=[]) un dW bare (fun b z=>ybw z (by simp)),r,q⟩
end
def OH (sp:Sp)(Cv:List V)(E:XK)(t:TA):TE:=fun G H Q=>t G H fun vs H1=>sp (vs++Cv) H1 Q E
def OI (C:zdi)(m:Str)(sp:Sp)(Cv:List V)(E:XK)(ta:TE)(t:TA):TE:=fun G H Q=>ta G H fun x H1=>∃a dx fs,x=.ref a/\H1 a=some (.ins C dx fs)/\fs.lookup m=none/\
 t G H1 fun vs H2=>sp (x::(vs++Cv)) H2 Q E
def OJ (C:zdi)(sp:Sp)(Cv:List V)(E:XK)(t:TA):TE:=fun G H Q=>t G H fun vs H1=>∀x dx,H1 x=none->H1 dx=none->dx≠x->
 sp (.ref x::(vs++Cv)) (upd (upd H1 dx (.own x)) x (.ins C dx [])) (fun v H2=>v=.cH/\Q (.ref x) H2) E
def Binds (K:zaa)(fd:zdr)(ps:List Str)(ds:List zdj):Prop:=
 ∀(s:zds) (us:List zdj),K.In s.heap->(us++ds).length=ps.length->BindsTo s fd ⟨us,[]⟩ (ps.zip (us++ds))
theorem Binds.all{K:zaa}(h:∀us:List zdj,us.length=ps.length->bindArgs fd ⟨us,[]⟩=pure (ps.zip us)):Binds K fd ps []:=fun s us _ hl=>by
 rw[zax] at hl |-;exact .of_eq (h us hl)
def Passes (CX:M3)(X:Cx)(E:XK):Prop:=∀(pins:List (zdi×Obj)) (G:St) (H:Hp) (s:zds) (e:zdj) (s':zds),Inv X pins G H s->CX X.stack H s E e s'->X.xe e s'
section
variable{X:Cx}{CX:M3}{k:Nat}{f C:zdi}{fd:zdr}{ps:List Str}{sp:Sp}{Cv:List V}{ds:List zdj}{E:XK}{x m:Str}{p pos apos:Pos}{e o:Expr}{es:List Expr}{ta:TE}{t:TA}
theorem OL{G:St}(F:bq X.prog X.w X.K X.mg X.base CX k f fd ps sp)(hr:jL k X.A)(hb:Binds X.K fd ps ds)(hd:Vals Cv ds)(hx:Passes CX X E)
 (I:Inv X pins G H s) (r:Vals vs us) (h:sp (vs++Cv) H Q E):yaa (model X.prog X.w) X.A (call (.ref f) us) (EP X pins G Q) X.xe s:=by
 have r2:Vals (vs++Cv) (us++ds):=r.append hd;have hl:(us++ds).length=ps.length:=by rw[<- r2.length];exact F.len _ _ _ _ h
 refine wpAny_call (ybg (F.run X.A X.stack s H ⟨us,[]⟩ (us++ds) (vs++Cv) Q E hr I.YT (hb s us I.AK hl) r2 h) fun r s' hq=>?_);cases r with
 |error e=>exact hx pins G H s e s' I hq
 |ok fl=>
  cases fl with
  |ret u=>exact I.after hq
  |next=>exact False.elim hq
  |brk=>exact False.elim hq
  |cont=>exact False.elim hq
theorem oO(F:bq X.prog X.w X.K X.mg X.base CX k f fd ps sp)(hr:jL k X.A)(hg:Gl X x)(hm:X.mg x=some (.ref f))(hk:zbo X.K (.ref f)=true)(hb:Binds X.K fd ps ds)(hd:Vals Cv ds)(hx:Passes CX X E)
 (ha:PA X (e::es) t) (SX:(x==("__debug__":Str))=false:=by decide) (he:zdo (e::es) X.env=(false,eval e X.env)::zdo es X.env:=by rfl) (Ge:(backTo pos (zdo es X.env)).any (·.1)=false:=by rfl) :
 PE X (.Call (.Name x p) (e::es) [] pos) (OH sp Cv E t):=by
 intro pins s G H Q I h;refine yax (EA I hg hm ?_ SX);refine zcH (h₀:=X.base) I.ok.mod.Yw hk (ib (ha pos pins s G H _ I h) fun us s1 ⟨vs,H1,I1,r,q⟩=>⟨I1.AK,?_⟩) he Ge;exact OL F hr hb hd hx I1 r q
theorem A6{pl:Sem Bool}(he:PE X o ta)(c:OF X.K C)(hm:Meth X.K C m f)(F:bq X.prog X.w X.K X.mg X.base CX k f fd ps sp)(hr:jL k X.A)(hb:Binds X.K fd ps ds)(hd:Vals Cv ds)(hx:Passes CX X E)(ha:PA X (e::es) t)
 (xD:zdo (e::es) X.env=(false,eval e X.env)::zdo es X.env:=by rfl) (Ge:(backTo pos (zdo es X.env)).any (·.1)=false:=by rfl)
 (ht:eval (.Call (.Attribute o m apos) (e::es) [] pos) X.env=(do
  let ov <- eval o X.env
  standAt apos.atName
  let (f,first) <- holding [ov] (getMethod ov m pl)
  callWith pos f first (backTo pos (zdo (e::es) X.env)) (backToKw pos (keywordEach [] X.env))):=by rfl) :
 PE X (.Call (.Attribute o m apos) (e::es) [] pos) (OI C m sp Cv E ta t):=by
 intro pins s G H Q I h;refine PySem.W.methodCall_KW (pl:=pl) (ib (he pins s G H _ I h) fun u s1 zqz=>?_) ht;obtain⟨x,H1,I1,rx,a,dx,fs,ex,ea,l,q⟩:=zqz;subst ex;obtain rfl:u=yab a:=rx;refine Jz I1 ea c hm l ?_;refine zcH (first:=[.ref a]) (h₀:=X.base) I.ok.mod.Yw hm.kp (ib (ha pos pins s1 G H1 _ I1 q) fun us s2 ⟨vs,H2,I2,r,q2⟩=>⟨I2.AK,?_⟩) xD Ge;exact OL (us:=.ref a::us) (vs:=.ref a::vs) F hr hb hd hx I2 (.cons rfl r) q2
structure Mk(K:zaa)(C f:zdi):Prop where
 makes:zcv K C=true
 init:zaI K (.ref C) "__init__"=some (some (.ref f))
 fn:zcg K (.ref f)=true
 kp:zbo K (.ref C)=true
theorem OM{G:St}(M:Mk X.K C f)(F:bq X.prog X.w X.K X.mg X.base CX k f fd ps sp)(hr:jL (k+1) X.A)(hb:Binds X.K fd ps ds)(hd:Vals Cv ds)
 (hx:Passes CX X E) (I:Inv X pins G H s) (r:Vals vs us)
 (h:∀x dx,H x=none->H dx=none->dx≠x->sp (.ref x::(vs++Cv)) (upd (upd H dx (.own x)) x (.ins C dx [])) (fun v H2=>v=.cH/\Q (.ref x) H2) E) :
 yaa (model X.prog X.w) X.A (call (.ref C) us) (EP X pins G Q) X.xe s:=by
 have hq:=h (s.heap.objs.size+1) s.heap.objs.size (I.dW.fresh (zcE _)) (I.dW.fresh (zah _)) (zay (Nat.lt_succ_self _));have I2:=Inv.made (C:=C) I;have r2:Vals (V.ref (s.heap.objs.size+1)::(vs++Cv)) (yab (s.heap.objs.size+1)::(us++ds)):=.cons rfl (r.append hd);have hl:(yab (s.heap.objs.size+1)::us++ds).length=ps.length:=by
  have e:=r2.length;rw[F.len _ _ _ _ hq] at e;exact e.symm
 refine wpAny_call (OE (f:=f) I.AK M.makes M.init (beq_iff_eq.mp M.fn) (ybg (F.run _ X.stack _ _ ⟨yab (s.heap.objs.size+1)::us,[]⟩ (yab (s.heap.objs.size+1)::(us++ds)) _ _ E (hr.make C us [])
  (I2.YT.make C us []) (hb _ (yab (s.heap.objs.size+1)::us) I2.AK hl) r2 hq) fun r s' Lj=>?_))
 cases r with
 |error e=>exact hx pins G _ _ e s' I2 Lj
 |ok fl=>
  cases fl with
  |ret u=>
   obtain⟨v,H',I3,rv,ev,q3⟩:=I2.after Lj;subst ev;exact⟨rv,⟨V.ref (s.heap.objs.size+1),H',I3,rfl,q3⟩⟩
  |next=>exact False.elim Lj
  |brk=>exact False.elim Lj
  |cont=>exact False.elim Lj
theorem EE(M:Mk X.K C f)(F:bq X.prog X.w X.K X.mg X.base CX k f fd ps sp)(hr:jL (k+1) X.A)(hg:Gl X x)(hm:X.mg x=some (.ref C))(hb:Binds X.K fd ps ds)(hd:Vals Cv ds)(hx:Passes CX X E)
 (ha:PA X (e::es) t) (SX:(x==("__debug__":Str))=false:=by decide) (he:zdo (e::es) X.env=(false,eval e X.env)::zdo es X.env:=by rfl) (Ge:(backTo pos (zdo es X.env)).any (·.1)=false:=by rfl) :
 PE X (.Call (.Name x p) (e::es) [] pos) (OJ C sp Cv E t):=by
 intro pins s G H Q I h;refine yax (EA I hg hm ?_ SX);refine zcH (h₀:=X.base) I.ok.mod.Yw M.kp (ib (ha pos pins s G H _ I h) fun us s1 ⟨vs,H1,I1,r,q⟩=>⟨I1.AK,?_⟩) he Ge;exact OM M F hr hb hd hx I1 r q
end
structure aQ(N P:List Str)(sc:Scope):Prop where
 kind:sc.kind=.function
 co:sc.isCoroutine=false
 gen:sc.isGenerator=false
 nd:N.Nodup
 pre:N.take P.length=P
 par:∀x∈P,sc.names.lookup x=some .local\/sc.names.lookup x=some .cell
 VX:∀y∈sc.names,y.2≠.free
theorem Dv{kindOf:Str->Option NameKind}:∀{binds:List (Str×zdj)}{m:Str->Option zdj},(∀v,(x,v) ∉ binds)->bindL kindOf binds m x=m x
 |[],_,_=>rfl
 |(n,v)::r,m,h=>by
  unfold bindL;rw[Dv fun w hw=>h w (zao _ hw)];split
  .have:x≠n:=by rintro rfl;exact h v zaw
   simp[this]
  .rfl
theorem Dw{kindOf:Str->Option NameKind}:∀{binds:List (Str×zdj)}{m:Str->Option zdj},(∀v,(x,v) ∉ binds)->bindC kindOf binds m x=m x
 |[],_,_=>rfl
 |(n,v)::r,m,h=>by
  unfold bindC;rw[Dw fun w hw=>h w (zao _ hw)];split
  .rfl
  .have:x≠n:=by rintro rfl;exact h v zaw
   simp[this]
theorem Dx{kindOf:Str->Option NameKind}:∀{P:List Str}{vs:List zdj}{i:Nat}{m:Str->Option zdj},P.Nodup->P[i]?=some x->vs[i]?=some v->kindOf x=some .local->
 bindL kindOf (P.zip vs) m x=some v
 |[],_,_,_,_,h,_,_=>by simp at h
 |_::_,[],_,_,_,_,h,_=>by simp at h
 |p::P,w::vs,0,m,nd,h1,h2,hk=>by
  simp at h1 h2;subst h1;subst h2;show bindL kindOf ((p,w)::P.zip vs) m p=_;unfold bindL;rw[Dv fun v hv=>(zbr.mp nd).1 (zcd hv).1,ybr hk];simp
 |p::P,w::vs,i+1,m,nd,h1,h2,hk=>by
  show bindL kindOf ((p,w)::P.zip vs) m x=_;unfold bindL;exact Dx (i:=i) (zbr.mp nd).2 (by simpa using h1) (by simpa using h2) hk
theorem Dy{kindOf:Str->Option NameKind}:∀{P:List Str}{vs:List zdj}{i:Nat}{m:Str->Option zdj},P.Nodup->P[i]?=some x->vs[i]?=some v->kindOf x≠some .local->
 bindC kindOf (P.zip vs) m x=some v
 |[],_,_,_,_,h,_,_=>by simp at h
 |_::_,[],_,_,_,_,h,_=>by simp at h
 |p::P,w::vs,0,m,nd,h1,h2,hk=>by
  simp at h1 h2;subst h1;subst h2;show bindC kindOf ((p,w)::P.zip vs) m p=_;unfold bindC;rw[Dw fun v hv=>(zbr.mp nd).1 (zcd hv).1,ybq hk];simp
 |p::P,w::vs,i+1,m,nd,h1,h2,hk=>by
  show bindC kindOf ((p,w)::P.zip vs) m x=_;unfold bindC;exact Dy (i:=i) (zbr.mp nd).2 (by simpa using h1) (by simpa using h2) hk
noncomputable def start (N:List Str)(vs:List V):St:=vs.map some++zcA (N.length-vs.length) none
noncomputable def Bi (CX:M3)(P:zdu)(w:zdk)(K:zaa)(mg:Str->Option zdj)(base:yaf)(N:List Str)(qual:Str)(scope:Scope)(f:zdi)(cd:zdj)(A:zdt)(outer:List Env)(s:zds)(H:Hp)(E:XK):Cx where
 prog:=P
 w:=w
 K:=K
 mg:=mg
 base:=base
 A:=A.deeper (envOfC qual scope s.heap.objs.size f cd)
 N:=N
 s₀:=s
 H₀:=H
 env:=envOfC qual scope s.heap.objs.size f cd
 outer:=outer
 stack:=envOfC qual scope s.heap.objs.size f cd::outer
 ex:=[]
 calm:=true
 fn:=fun _=>true
 pn:=[]
 xe:=fun e s'=>yaa (model P w) (A.deeper (envOfC qual scope s.heap.objs.size f cd)) (leaving (envOfC qual scope s.heap.objs.size f cd) e) (fun _ s''=>CX outer H s E e s'') (fun e' s''=>CX outer H s E e' s'') s'
theorem GN{sc:Scope}(h:sc.names.lookup x=some .cell):∃c,(cellsFrom n sc.names []).lookup x=some c:=by
 have q:=zc1 sc.names n [] (.inl h);exact zcf.mp q
theorem M4{K:zaa}{cd:zdj}{A:zdt}{outer:List Env}{s s1:zds}{H:Hp}{E:XK}{us:List zdj}{vs:List V}
 (S:aQ N ps scope) (hd:A.handled=none) (e0:JD P w K mg base A outer s H) (hl:vs.length=ps.length) (r:Vals vs us)
 (x:InCallC s s.heap.objs.size (bindL (envOfC qual scope s.heap.objs.size f cd).kindOf (ps.zip us) fun _=>none) (cellsFrom (s.heap.objs.size+1) scope.names []) (bindC (envOfC qual scope s.heap.objs.size f cd).kindOf (ps.zip us) fun _=>none) s1) :
 Inv (Bi CX P w K mg base N qual scope f cd A outer s H E) [] (start N vs) H s1:=by
 have Ge:ps.length<=N.length:=by have:=ybv zaQ S.pre;rw[zbt] at this;lia
 obtain⟨h1,tk,rfl,hk⟩:=x.done;have YU:∀b:zdi,b ∉ (Bi CX P w K mg base N qual scope f cd A outer s H E).ex:=fun b z=>ybw (show b∈([]:List zdi) from z) (by simp);refine⟨⟨e0.mod,S.kind,rfl,rfl,zah _,fun y z c h1 h2=>?_,fun y hy=>?_,fun y c _ h=>?_,fun _=>hd,Around.frames_deeper e0.frames,.inr ⟨rfl,rfl⟩,fun b z=>ybw z (YU b),e0.bs,e0.SK,fun b _ _=>YU b,fun b z=>ybw z (YU b),e0.AJ,e0.VE⟩,
  rfl,e0.bare,Un.kept hk,⟨_,x.toInCall.ns,fun i y v h1 h2 h3=>?_⟩,fun y c h=>⟨_,x.cell y c h⟩,e0.dW.fresh (zah _),fun y c h=>?_,fun p hp=>ybw (show p∈([]:List (zdi×Obj)) from hp) (by simp),e0.dW.kept hk,?_⟩
 .exact name_of_addr x.apart (PySem.mem_of_lookup h1) (PySem.mem_of_lookup h2)
 .have hy:scope.names.lookup y=some .cell\/scope.names.lookup y=some .free:=hy;rcases hy with hy |hy
  .exact GN hy
  .exact ybw rfl (S.VX _ (PySem.mem_of_lookup hy))
 .exact zb9 (x.above y c (PySem.mem_of_lookup h))
 .have hi:i<vs.length:=by
   unfold start at h2;by_cases hi:i<vs.length
   .exact hi
   .rw[za2 (by simpa using hi)] at h2;rw[zcR] at h2;split at h2<;>cases h2
  have ha:vs[i]?=some v:=by
   unfold start at h2;rw[zbb (by simpa using hi),zaf] at h2;cases e:vs[i]? with
   |none=>rw[e] at h2;cases h2
   |some a=>rw[e] at h2;cases h2;rfl
  obtain⟨u,hu,rv⟩:=r.get ha;have hp:ps[i]?=some y:=by
   rw[<- S.pre,List.getElem?_take_of_lt (by lia)];exact h1
  have ndP:ps.Nodup:=by rw[<- S.pre];exact S.nd.sublist (List.take_sublist _ _)
  refine⟨u,rv,?_⟩;rcases S.par y (zaC hp) with k |k
  .exact .inl ⟨k,Dx ndP hp hu k⟩
  .obtain⟨c,e⟩:=GN (n:=s.heap.objs.size+1) k;refine .inr ⟨.inl k,c,e,?_⟩;have q:=x.cell y c e;rw[Dy ndP hp hu (by show scope.names.lookup y≠_;rw[k];decide)] at q;exact q
 .exact e0.dW.fresh (zb9 (x.above y c (PySem.mem_of_lookup h)))
 .unfold start;show _=N.length;rw[zae,zab,zc2];lia
theorem YV{K:zaa}{body:List Stmt}{scope:Scope}{dV kV doc pm fA ct oc:zdj}{an od:Option zdi}
 {Sa:Array (Option zdj)} {N ps:List Str} {sp:Sp} (lk:K.lookup f=some ⟨oc,od,.func (zbg name qual params body scope dV kV doc pm an fA ct),Sa⟩) (Cu:zbX K fA qual=true) (S:aQ N ps scope)
 (len:∀vs H Q E,sp vs H Q E->vs.length=ps.length)
 (Bj:∀(A:zdt) (outer:List Env) (s:zds) (H:Hp) (vs:List V) (Q:VK) (E:XK),jL k (A.deeper (envOfC qual scope s.heap.objs.size f fA))->sp vs H Q E->
  ∃t,Jo (Bi CX P w K mg base N qual scope f fA A outer s H E) body t/\t {nx:=fun _ H'=>Q .cH H',rt:=Q} (start N vs) H) :
 bq P w K mg base CX (k+1) f (zbg name qual params body scope dV kV doc pm an fA ct) ps sp:=by
 refine⟨len,fun A outer s H args us vs Q E hr e0 hb r Ux=>?_⟩;have hl:=len _ _ _ _ Ux;have KX:K.In s.heap:=e0.mod.Yw.keeps fun b o e=>(e0.bs b o e).1;have lim:s.heap.NoLimit:=e0.mod.nolimit.keeps fun b o e=>(e0.bs b o e).1;have YW:∀y∈ps.zip us,scope.names.lookup y.1=some .local\/(scope.names.lookup y.1=some .cell/\((cellsFrom (s.heap.objs.size+1) scope.names []).lookup y.1).isSome=true):=fun ⟨n,v⟩ hy=>by
  rcases S.par n (zcd hy).1 with q |q
  .exact .inl q
  .exact .inr ⟨q,zc1 _ _ _ (.inl q)⟩
 refine codeAny_call_function hr.depth (KX _ _ lk) rfl S.co S.gen rfl (PySem.W.codeRec_of KX Cu) (hb _ _ _ _ ?_);refine wpAny_newFunctionEnv_cells S.kind YW fun env he s1 x=>?_;subst he;refine⟨lim.keeps x.toInCall.keep,codeAny_func ?_⟩;obtain⟨t,ht,hq⟩:=Bj A outer s H vs Q E (hr.deeper _) Ux;have I:Inv (Bi CX P w K mg base N qual scope f fA A outer s H E) [] (start N vs) H s1:=M4 S hr.hd e0 hl r x;refine yav (ht [] s1 (start N vs) H _ I hq) (fun fl s' hs=>?_) fun e s' hs=>hs;have fin:∀{G':St} {H':Hp} {v:V} {u:zdj},Inv (Bi CX P w K mg base N qual scope f fA A outer s H E) [] G' H' s'->RelV v u->Q v H'->CE outer P w H s Q u s':=
  fun {G' H' v u} J rv q=>⟨v,H',J.os,J.bare,J.base,J.dW,rv,q⟩
 cases fl with
 |ret u=>
  obtain⟨v,G',H',J,rv,q⟩:=hs;exact fin J rv q
 |next=>
  obtain⟨G',H',J,q⟩:=hs;exact fin (v:=V.cH) (u:=yas) J rfl q
 |brk=>
  obtain⟨_,_,_,q⟩:=hs;exact False.elim q
 |cont=>
  obtain⟨_,_,_,q⟩:=hs;exact False.elim q
section
variable{X:Cx}{x:Str}{p pos:Pos}{e:Expr}{es:List Expr}{t:TA}{id T:String}{r:List V->Hp->VK->Prop}
def tCB (r:List V->Hp->VK->Prop)(t:TA):TE:=fun G H Q=>t G H fun vs H1=>r vs H1 Q
theorem eT(hc:sP X (.builtin id) r)(hg:Gl X x)(hm:X.mg x=none)(hv:bootBuiltins x=some (.builtin id))(ha:PA X (e::es) t)(hn:x≠"__name__":=by decide)(SX:(x==("__debug__":Str))=false:=by decide)
 (he:zdo (e::es) X.env=(false,eval e X.env)::zdo es X.env:=by rfl) (Ge:(backTo pos (zdo es X.env)).any (·.1)=false:=by rfl):PE X (.Call (.Name x p) (e::es) [] pos) (tCB r t):=by
 intro pins s G H Q I h;refine yax (qN I hg hm hv ?_ hn SX);exact PyProof.Rows.callWith_builtin1 (ib (ha pos pins s G H _ I h) fun us s1 ⟨vs,H1,I1,r1,q1⟩=>hc pins s1 G H1 vs us Q I1 r1 q1) he Ge
theorem bH(hc:sP X (.type T) r)(hg:Gl X x)(hm:X.mg x=none)(hv:bootBuiltins x=some (.type T))(ha:PA X (e::es) t)(hn:x≠"__name__":=by decide)(SX:(x==("__debug__":Str))=false:=by decide)
 (he:zdo (e::es) X.env=(false,eval e X.env)::zdo es X.env:=by rfl) (Ge:(backTo pos (zdo es X.env)).any (·.1)=false:=by rfl):PE X (.Call (.Name x p) (e::es) [] pos) (tCB r t):=by
 intro pins s G H Q I h;refine yax (qN I hg hm hv ?_ hn SX);exact za7 (ib (ha pos pins s G H _ I h) fun us s1 ⟨vs,H1,I1,r1,q1⟩=>hc pins s1 G H1 vs us Q I1 r1 q1) he Ge
end
end L2
namespace HT
open PySem PyProof.Rows
section
variable{prog:zdu}{w:zdk}{A:zdt}{E:zdj->zds->Prop}{s:zds}
theorem SY(ht:IsTup s.heap t vs.toArray)(hb:IsTup s.heap b ws.toArray)(hv:vs≠[])
 (h1:ws=[]->Q (.ref t) s) (h2:ws≠[]->Q (.ref s.heap.objs.size) {s with heap:=s.heap.push {cls:=.type "tuple",data:=.seq (vs++ws).toArray} })
 (hsz:vs.length+ws.length<=zdq):yaa (model prog w) A (binaryOp .Add (.ref t) (.ref b)) Q E s:=by
 obtain⟨⟨cls,dd,data,sl⟩,ho,hc,n,hd⟩:=id ht;obtain⟨⟨acI,dd2,data2,YX⟩,Sb,VY,n2,hd2⟩:=id hb;simp only at hc hd VY hd2;subst hc hd VY hd2;have e:vs.toArray++ws.toArray=(vs++ws).toArray:=by simp
 by_cases hw:ws=[]
 .exact concat_meets ⟨_,ho,rfl⟩ ⟨_,Sb,rfl⟩ noFill_tuple_add seq_tuple_add zcn zcj (zch _ _)
   (tuple_addW1 t b vs.toArray ws.toArray n n2 dd dd2 sl YX (by simpa using hv) (by simp[hw])) ⟨ho,Sb,h1 hw⟩
 .refine concat_meets ⟨_,ho,rfl⟩ ⟨_,Sb,rfl⟩ noFill_tuple_add seq_tuple_add zcn zcj (zch _ _)
   (tuple_addW2 t b vs.toArray ws.toArray n n2 dd dd2 sl YX (by simpa using hv) (by simpa using hw) (by rw[zat,zat];exact hsz)) ⟨ho,Sb,?_⟩
  rw[e];exact h2 hw
noncomputable def iU (n d:Nat):Option Int->Nat
 |none=>d
 |some v=>if v<0 then (v+(n:Int)).toNat else min v.toNat n
theorem lD(n d:Nat):iU n d none=d:=rfl
theorem mE(n d k:Nat):iU n d (some (k:Int))=min k n:=by
 show (if (k:Int)<0 then ((k:Int)+(n:Int)).toNat else min (k:Int).toNat n)=min k n;rw[ybq (by lia),zaP]
theorem JE(n d:Nat)(hd:d<=n)(o:Option Int):iU n d o<=n:=by
 cases o with
 |none=>exact hd
 |some v=>
  show (if v<0 then (v+(n:Int)).toNat else min v.toNat n)<=n;by_cases hv:v<0
  .rw[ybr hv];lia
  .rw[ybq hv];exact Nat.min_le_right _ _
theorem Lk(v:Int)(n d:Nat):(if v<0 then max (v+(n:Int)) 0 else min v (n:Int))=((iU n d (some v):Nat):Int):=by
 show (if v<0 then max (v+(n:Int)) 0 else min v (n:Int))=(((if v<0 then (v+(n:Int)).toNat else min v.toNat n):Nat):Int);by_cases hv:v<0
 .simp only[ybr hv];lia
 .simp only[ybq hv];lia
theorem JF(lo hi:Option Int)(n:Nat):ya4 lo hi 1 (n:Int)=(((iU n 0 lo:Nat):Int),((iU n n hi:Nat):Int)):=by
 have h1:¬((1:Int)<0):=by lia
 unfold ya4;simp only[h1,if_false];refine Prod.ext ?_ ?_
 .cases lo with
  |none=>rfl
  |some v=>exact Lk v n 0
 .cases hi with
  |none=>rfl
  |some v=>exact Lk v n n
theorem JG(i j:Nat):yaQ (i:Int) (j:Int) 1=j-i:=by
 unfold yaQ;have h1:(1:Int)>0:=by lia
 simp only[h1,if_true,Int.ediv_one];split<;>lia
theorem Bk(p:IsPart v o)(h:Q o s):yaa (model prog w) A (Builtin.Slice.slicePartIndex v) Q E s:=by
 cases p with
 |none=>exact slicePart_none h
 |int i t=>exact slicePart_int h
theorem qk{lo hi:Option Int}{Q:Int×Int×Nat->zds->Prop}(hs:s.heap.IsSliceOf sl vl vu .none)(pl:IsPart vl lo)(pu:IsPart vu hi)
 (h:Q (((iU n 0 lo:Nat):Int),1,iU n n hi-iU n 0 lo) s):yaa (model prog w) A (ybo (.ref sl) (pure (n:Int))) Q E s:=by
 obtain⟨os,Sd,S0,YY⟩:=id hs;unfold ybo Builtin.Slice.sliceFields;refine zdl (zdl (yak Sd YY (x:=vl) rfl (zdl (yak Sd YY (x:=vu) rfl (zdl (yak Sd YY (x:=.none) rfl (zdm ?_)))))));refine zdl (slicePart_none ?_);show yaa _ _ (if ((1:Int)==0)=true then _ else _) _ _ s;rw[ybq (by decide)];refine zdl (Bk pl (zdl (Bk pu (zdl (zdm ?_)))));show yaa _ _ (match ya4 lo hi 1 (n:Int) with |(lo,hi)=>pure (lo,(1:Int),yaQ lo hi 1)) _ _ s;rw[JF lo hi n];show yaa _ _ (pure (((iU n 0 lo:Nat):Int),(1:Int),yaQ ((iU n 0 lo:Nat):Int) ((iU n n hi:Nat):Int) 1)) _ _ s;rw[JG];exact zdm h
theorem ON(xs:Array zdj)(i k:Nat):((zaS k).filterMap fun (m:Nat)=>xs[((i:Int)+(m:Int)*1).toNat]?).toArray=((xs.toList.drop i).take k).toArray:=by
 have e:(fun (m:Nat)=>xs[((i:Int)+(m:Int)*1).toNat]?)=fun m=>xs[i+m]?:=by
  funext m
  have:((i:Int)+(m:Int)*1).toNat=i+m:=by lia
  rw[this]
 rw[e];have:=pick_run xs i k;rw[List.filterMap_map] at this;have e2:((fun x=>xs[x]?) ∘ fun x=>i+x)=fun m=>xs[i+m]?:=rfl;rw[e2] at this;rw[this]
theorem xN{lo hi:Option Int}(ht:IsTup s.heap t items)(hs:s.heap.IsSliceOf sl vl vu .none)(pl:IsPart vl lo)(pu:IsPart vu hi)
 (hw:¬(iU items.size 0 lo=0/\iU items.size items.size hi=items.size))
 (h:Q (.ref s.heap.objs.size) {s with heap:=s.heap.push {cls:=.type "tuple",data:=.seq ((items.toList.drop (iU items.size 0 lo)).take (iU items.size items.size hi-iU items.size 0 lo)).toArray} })
 (hsz:items.size<=zdq):yaa (model prog w) A (getItem (.ref t) (.ref sl)) Q E s:=by
 have Ll:sizeOk (.seq ((items.toList.drop (iU items.size 0 lo)).take (iU items.size items.size hi-iU items.size 0 lo)).toArray):=by
  show ((items.toList.drop (iU items.size 0 lo)).take (iU items.size items.size hi-iU items.size 0 lo)).toArray.size<=zdq;rw[zat,zbt,zaU,zaJ];lia
 have hj:iU items.size items.size hi<=items.size:=JE _ _ (zah _) hi;obtain⟨os,Sd,S0,YY⟩:=id hs;have hTs:s.TypeIs (.ref sl) "slice":=⟨os,Sd,S0⟩
 unfold getItem
 try with_reducible refine zdn ?_
 first |refine zdl (zdm ?_) |skip
 refine zdl (wpAny_sequenceKey ht.typeIs (by decide) ?_);refine zdl (wpAny_callSpecial?_slot (name:=zad "__getitem__") ht.typeIs zbD
  (yap zbD ht.typeIs entry_tuple_getitem ?_ (args_tuple_getitem _ _)))
 show yaa _ _ (yaN (.ref t) >>= _) _ _ s;refine zdl (tupleItemsOf_ ht ?_);refine zdl (ya6 hTs ?_);rw[ybr (by decide)];refine zdl (qk hs pl pu ?_);have hno:¬((((iU items.size 0 lo:Nat):Int)==0&&(1:Int)==1&&(iU items.size items.size hi-iU items.size 0 lo)==items.size)=true):=by
  intro q;rw[za9,za9] at q;have q1:((iU items.size 0 lo:Nat):Int)=0:=eq_of_beq q.1.1;have q2:iU items.size items.size hi-iU items.size 0 lo=items.size:=eq_of_beq q.2;exact hw ⟨by lia,by lia⟩
 show yaa _ _ (if (((iU items.size 0 lo:Nat):Int)==0&&(1:Int)==1&&(iU items.size items.size hi-iU items.size 0 lo)==items.size)=true then _ else _) _ _ s;rw[ybq hno,ON]
 first
  |exact zdl (m:=yaU _) (yaq (zdm ⟨_,rfl,zdm h⟩) Ll)
  |exact zdl (m:=yaU _) (yaq (zdl (zdm (zdm ⟨_,rfl,zdm h⟩))) Ll)
  |exact zdl (zdl (m:=yaU _) (yaq (zdm (zdm ⟨_,rfl,zdm h⟩)) Ll))
  |exact zdl (zdl (m:=yaU _) (yaq (zdm ⟨_,rfl,zdm h⟩) Ll))
end
end HT
namespace L2
open PySem PySem.Spec PyProof.Rows
abbrev TO:=St->Hp->(Option Int->Hp->Prop)->Prop
def PO (X:Cx)(e:Option Expr)(t:TO):Prop:=
 ∀(pins:List (zdi×Obj)) (s:zds) (G:St) (H:Hp) (Q:Option Int->Hp->Prop),Inv X pins G H s->t G H Q->
  yaa (model X.prog X.w) X.A (evalPart e X.env) (fun u s'=>∃o H',Inv X pins G H' s'/\IsPart u o/\Q o H') X.xe s
def EF:TO:=fun _ H Q=>Q none H
def OO (t:TE):TO:=fun G H Q=>t G H fun x H1=>∃i,x=.int i/\Q (some i) H1
section
variable{X:Cx}{e:Expr}{te:TE}{lo hi:Option Expr}{tl th:TO}{pos p2:Pos}
theorem fq:PO X none EF:=by
 intro pins s G H Q I h;rw[evalPart_none];exact zdm ⟨none,H,I,.none,h⟩
theorem dZ(h:PE X e te):PO X (some e) (OO te):=by
 intro pins s G H Q I hw;rw[evalPart_some];refine ib (h pins s G H _ I hw) fun u s1 zqz=>?_;obtain⟨x,H1,I1,r1,q1⟩:=zqz;obtain⟨i,rfl,q⟩:=q1;obtain⟨t,rfl⟩:=r1;exact⟨some i,H1,I1,.int i t,q⟩
def YZ (X:Cx)(r:V->Option Int->Option Int->Hp->VK->Prop):Prop:=
 ∀(pins:List (zdi×Obj)) (s:zds) (G:St) (H:Hp) (x:V) (v vl vu:zdj) (lo hi:Option Int) (sl:zdi) (Q:VK),Inv X pins G H s->RelV x v->s.heap.IsSliceOf sl vl vu .none->IsPart vl lo->IsPart vu hi->r x lo hi H Q->
  ∃T id,typeLookup (.type T) "__getitem__"=pure (some (.builtin id))/\s.TypeIs v T/\yaa (model X.prog X.w) X.A (getItem v (.ref sl)) (EP X pins G Q) X.xe s
def tSl (r:V->Option Int->Option Int->Hp->VK->Prop)(te:TE)(tl th:TO):TE:=fun G H Q=>te G H fun x H1=>tl G H1 fun l H2=>th G H2 fun u H3=>r x l u H3 Q
theorem cW(hr:YZ X r)(he:PE X e te)(hl:PO X lo tl)(hu:PO X hi th):PE X (.Subscript e (.Slice lo hi none p2) pos) (tSl r te tl th):=by
 intro pins s G H Q I h;refine Subscript_ (ib (he pins s G H _ I h) fun v s1 zqz=>?_);obtain⟨x,H1,I1,r1,q1⟩:=zqz;refine wpAny_Slice (ib (hl pins s1 G H1 _ I1 q1) fun vl s2 zqz=>?_);obtain⟨l,H2,I2,pl,q2⟩:=zqz;refine ib (hu pins s2 G H2 _ I2 q2) fun vu s3 zqz=>?_;obtain⟨u,H3,I3,pu,q3⟩:=zqz;rw[evalPart_none];refine zdm ?_;have I4:Inv X pins G H3 {s3 with heap:=s3.heap.push {cls:=.type "slice",data:=.fields #[vl,vu,.none]} }:=I3.kept (t':=s3.toks) fun b ob q=>yac _ q;obtain⟨T,id,hT,ht,hg⟩:=hr pins {s3 with heap:=s3.heap.push {cls:=.type "slice",data:=.fields #[vl,vu,.none]} } G H3 x v vl vu l u s3.heap.objs.size Q I4 r1 (Heap.IsSliceOf.new ..) pl pu q3;show yaa (model X.prog X.w) X.A (subscriptTail e (.Slice lo hi none p2) v (.ref s3.heap.objs.size)) (EP X pins G Q) X.xe {s3 with heap:=s3.heap.push {cls:=.type "slice",data:=.fields #[vl,vu,.none]} };exact tail_any (ops:=[.ref s3.heap.objs.size,v]) ht hT hg (by with_unfolding_all rfl)
def je (xs:List V)(lo hi:Option Int):List V:=(xs.drop (HT.iU xs.length 0 lo)).take (HT.iU xs.length xs.length hi-HT.iU xs.length 0 lo)
theorem Ar(xs:List V)(lo hi:Option Int):(je xs lo hi).length<=xs.length:=by
 unfold je;rw[zbt,zaU];lia
def acL (K:zaa):V->Option Int->Option Int->Hp->VK->Prop:=fun x lo hi H Q=>∃a xs,x=.ref a/\bG K H a xs/\
 ¬(HT.iU xs.length 0 lo=0/\HT.iU xs.length xs.length hi=xs.length)/\∀p,H p=none->Q (.ref p) (upd H p (.tup (je xs lo hi)))
theorem VZ:YZ X (acL X.K):=by
 intro pins s G H x v vl vu lo hi sl Q I rx hs pl pu h;obtain⟨a,xs,rfl,hx,hw,q⟩:=h;cases rx;obtain⟨its,r,ht,hz⟩:=I.tuple hx;have hlen:its.toArray.size=xs.length:=by rw[zat];exact r.length.symm
 refine⟨"tuple",_,zbD.lookup,ht.typeIs,?_⟩;refine HT.xN ht hs pl pu (by rw[hlen];exact hw) ?_ (by rw[hlen];exact hz);rw[hlen];refine⟨.ref s.heap.objs.size,_,I.laid (t':=s.toks) (o:=.tup (je xs lo hi)) (fun b ob q=>yac _ q) (zah _) ?_,rfl,q _ (I.dW.fresh (zah _))⟩;exact⟨zaz (Ar xs lo hi) hz,_,(r.drop (HT.iU xs.length 0 lo)).take (HT.iU xs.length xs.length hi-HT.iU xs.length 0 lo),IsTup.new _ _⟩
def Y0 (K:zaa):R2:=fun x y H Q=>∃a b xs ys,x=.ref a/\y=.ref b/\bG K H a xs/\bG K H b ys/\xs≠[]/\xs.length+ys.length<=zdq/\
 (ys=[]->Q (.ref a) H)/\(ys≠[]->∀p,H p=none->Q (.ref p) (upd H p (.tup (xs++ys))))
theorem Vals.aO(r:Vals xs us):us=[]↔xs=[]:=by
 cases r with
 |nil=>simp
 |cons _ _=>simp
theorem Lm:vL X (binaryOp .Add) (Y0 X.K):=by
 intro pins s G H x y v u Q I rx ry h;obtain⟨a,b,xs,ys,rfl,rfl,ha,hb,hx,hz,q1,q2⟩:=h;cases rx;cases ry;obtain⟨its,r1,p1,_⟩:=I.tuple ha;obtain⟨pR,r2,p2,_⟩:=I.tuple hb;refine HT.SY p1 p2 (fun z=>hx (r1.aO.mp z)) (fun z=>⟨.ref a,H,I,rfl,q1 (r2.aO.mp z)⟩) (fun z=>?_) (by rw[<- r1.length,<- r2.length];exact hz);refine⟨.ref s.heap.objs.size,_,I.laid (t':=s.toks) (o:=.tup (xs++ys)) (fun b ob q=>yac _ q) (zah _) ?_,rfl,q2 (fun w=>z (r2.aO.mpr w)) _ (I.dW.fresh (zah _))⟩;exact⟨by rw[zae];exact hz,_,r1.append r2,IsTup.new _ _⟩
end
noncomputable def Se (n:Nat)(i:Int):Option Nat:=if 0<=i then (if i<n then some i.toNat else none) else if -(n:Int)<=i then some (i+n).toNat else none
def CF {Z:Type}(xs:List Z)(i:Int):Option Z:=(Se xs.length i).bind fun j=>xs[j]?
theorem Lo(h:Se n i=some j):seqIndex? i n=some j/\j<n/\-(n:Int)<=i/\i<n:=by
 unfold Se at h;by_cases h0:0<=i
 .rw[ybr h0] at h;by_cases h1:i<n
  .rw[ybr h1] at h;have e:i.toNat=j:=za1.inj h;exact⟨by rw[seqIndex_of h0 h1,e],by lia,by lia,h1⟩
  .rw[ybq h1] at h;cases h
 .rw[ybq h0] at h;by_cases h1 : -(n:Int)<=i
  .rw[ybr h1] at h;have e:(i+n).toNat=j:=za1.inj h;exact⟨by rw[seqIndex_neg (by lia) h1,e],by lia,h1,by lia⟩
  .rw[ybq h1] at h;cases h
theorem EG{Z:Type}{xs:List Z}{v:Z}(h:CF xs i=some v):∃j,seqIndex? i xs.length=some j/\xs[j]?=some v/\j<xs.length/\-(xs.length:Int)<=i/\i<xs.length:=by
 unfold CF at h;cases e:Se xs.length i with
 |none=>rw[e] at h;cases h
 |some j=>
  rw[e] at h;obtain⟨h1,h2,h3,h4⟩:=Lo e;exact⟨j,h1,h,h2,h3,h4⟩
theorem aF{Z:Type}{xs:List Z}{j:Nat}{v:Z}(h:xs[j]?=some v):CF xs (j:Int)=some v:=by
 have hj:j<xs.length:=(zaj.mp h).1;have e:Se xs.length (j:Int)=some j:=by
  unfold Se;rw[ybr (by lia),ybr (by lia)];simp
 unfold CF;rw[e];exact h
def xO (b:Expr):Prop:=∀o i,subscripted b false o i=operate [o,i] (getItem o i)
def XH (X:Cx)(r:R2):Prop:=
 ∀(value slice:Expr) (pins:List (zdi×Obj)) (s:zds) (G:St) (H:Hp) (x y:V) (v u:zdj) (Q:VK),Inv X pins G H s->RelV x v->RelV y u->r x y H Q->
  subscripted slice false v u=operate [v,u] (getItem v u)->yaa (model X.prog X.w) X.A (subscriptTail value slice v u) (EP X pins G Q) X.xe s
def MtR (X:Cx)(id:String)(r:V->List V->Hp->VK->Prop):Prop:=
 ∀(pins:List (zdi×Obj)) (s:zds) (G:St) (H:Hp) (x:V) (xs:List V) (v:zdj) (us:List zdj) (Q:VK),Inv X pins G H s->RelV x v->Vals xs us->r x xs H Q->
  yaa (model X.prog X.w) X.A (call (.builtin id) (v::us)) (EP X pins G Q) X.xe s
section
variable{X:Cx}{a b:Expr}{ta tb:TE}{pos:Pos}
theorem bL{r:R2}(hr:XH X r)(ha:PE X a ta)(hb:PE X b tb)(hs:xO b):PE X (.Subscript a b pos) (SU r ta tb):=by
 intro pins s G H Q I h;exact Subscript_ (VT ha hb I h fun v u s2 x y H2 I2 rx ry q=>hr a b pins s2 G H2 x y v u Q I2 rx ry q (hs _ _))
def M5 (K:zaa):R2:=fun x y H Q=>∃p xs i v,x=.ref p/\y=.int i/\jJ K H p xs/\CF xs i=some v/\Q v H
def M6 (K:zaa):R2:=fun x y H Q=>∃p xs i v,x=.ref p/\y=.int i/\bG K H p xs/\CF xs i=some v/\Q v H
def acM:R2:=fun x y H Q=>∃z i c,x=.str z/\y=.int i/\z.length<=zdq/\CF z.cps.toList i=some c/\Q (.str ⟨#[c]⟩) H
theorem bU:XH X (M5 X.K):=by
 intro value slice pins s G H x y v u Q I rx ry h hs;obtain⟨p,xs,i,z,rfl,rfl,hq,he,q⟩:=h;cases rx;obtain⟨t,rfl⟩:=ry;obtain⟨its,r,pl,hz⟩:=I.list hq;obtain⟨j,h1,h2,h3,h4,h5⟩:=EG he;obtain⟨w,ew,GO⟩:=r.get h2;have hl:=r.length;have hn:=zo;have fin:EP X pins G Q w s:=⟨z,H,I,GO,q⟩
 by_cases h0:0<=i
 .have hj:i.toNat=j:=by
   rw[seqIndex_of h0 h5] at h1;exact za1.inj h1
  exact item_listR pl.isList h0 (by lia) (by rw[hj];simpa using ew) fin hs
 .have hj:(i+(its.toArray.size:Int)).toNat=j:=by
   rw[seqIndex_neg (by lia) h4] at h1;rw[zat,<- hl];exact za1.inj h1
  exact subscriptTail_builtinR (x:=w) pl.isList.typeIs slot_list_getitem.lookup
   (wpAny_getItem_list_neg (Q:=fun r s'=>r=w/\EP X pins G Q r s') pl.isList (by lia) (by rw[zat]<;>lia) (by lia) (by rw[hj];simpa using ew) ⟨rfl,fin⟩) hs
theorem gA:XH X (M6 X.K):=by
 intro value slice pins s G H x y v u Q I rx ry h hs;obtain⟨p,xs,i,z,rfl,rfl,hq,he,q⟩:=h;cases rx;obtain⟨t,rfl⟩:=ry;obtain⟨its,r,pl,hz⟩:=I.tuple hq;obtain⟨j,h1,h2,h3,h4,h5⟩:=EG he;obtain⟨w,ew,GO⟩:=r.get h2;have hl:=r.length;have hn:=zo;have fin:EP X pins G Q w s:=⟨z,H,I,GO,q⟩
 exact subscriptTail_builtinR (x:=w) pl.typeIs slot_tuple_getitem.lookup
  (getItem_tuple (j:=j) (Q:=fun r s'=>r=w/\EP X pins G Q r s') pl (by lia) (by lia) (by rw[zat,<- hl];exact h1) (by simpa using ew) ⟨rfl,fin⟩) hs
theorem OP:XH X acM:=by
 intro value slice pins s G H x y v u Q I rx ry h hs;obtain⟨z,i,c,rfl,rfl,hz,he,q⟩:=h;obtain⟨t,rfl⟩:=rx;obtain⟨t',rfl⟩:=ry;obtain⟨j,h1,h2,h3,h4,h5⟩:=EG he;have hl:z.cps.toList.length=z.length:=by simp[Str.length]
 rw[hl] at h1 h4 h5;have hn:=zo;exact tail_any (typeIs_str s z t) slot_str_getitem.lookup (getItem_str (c:=c) (by
  have e1:decide (i < -(2 ^ 63:Int))=false:=ybt (by lia);have e2:decide (i ≥ 2 ^ 63)=false:=ybt (by lia);rw[e1,e2,zc7]) (by rw[h1];simpa using h2) ⟨.str ⟨#[c]⟩,H,I.tok _,⟨_,rfl⟩,q⟩) hs
theorem JH(its:List zdj)(n j:Nat)(u:zdj):yaR (·.setIfInBounds j u) {cls:=.type "list",data:=.seq its.toArray n}={cls:=.type "list",data:=.seq (its.set j u).toArray n}:=by
 simp[yaR]
theorem Inv.lst{pins:List (zdi×Obj)}{G:St}{H:Hp}{s:zds}{p:zdi}{xs:List V}(I:Inv X pins G H s)(h:H p=some (.lst xs)) :
 ∃(its:List zdj) (n:Nat),Vals xs its/\s.heap.get? p=some {cls:=.type "list",data:=.seq its.toArray n}/\xs.length<=zdq:=by
 obtain⟨z,its,n,r,e⟩:=I.dW p _ h;exact⟨its,n,r,e,z⟩
theorem Inv.V0{G:St}{its its':List zdj}(I:Inv X pins G H s)(h:H p=some (.lst xs))
 (ho:s.heap.get? p=some {cls:=.type "list",data:=.seq its.toArray n}) (hf:f {cls:=.type "list",data:=.seq its.toArray n}={cls:=.type "list",data:=.seq its'.toArray n' }) (r:Vals ys its') (hz:ys.length<=zdq) (t:Nat) :
 Inv X pins G (upd H p (.lst ys)) {s with heap:=s.heap.update p f,toks:=t}:=by
 have e:(s.heap.update p f).get? p=some {cls:=.type "list",data:=.seq its'.toArray n' }:=by
  rw[yaw f ho (by rw[hf]<;>rfl),hf]
 refine I.write (x:=p) (e:=p) (by rw[h];trivial) (.inl rfl) (fun b u hb q=>(yaz _ _ (Ne.symm hb)).trans q) ⟨_,e⟩ ?_;exact⟨hz,its',n',r,e⟩
def Uy:V->V->V->Hp->(Hp->Prop)->Prop:=fun o i v H Q=>∃p xs k j,o=.ref p/\i=.int k/\H p=some (.lst xs)/\Se xs.length k=some j/\Q (upd H p (.lst (xs.set j v)))
theorem set_list:YH X Uy:=by
 intro pins s G H o i v ov iv u Q I ro ri rv h;obtain⟨p,xs,k,j,rfl,rfl,hp,hj,q⟩:=h;cases ro;obtain⟨t,rfl⟩:=ri;obtain⟨its,n,r,ho,hz⟩:=I.lst hp;obtain⟨h1,h2,h3,h4⟩:=Lo hj;have hl:=r.length;have hn:=zo;have I':Inv X pins G (upd H p (.lst (xs.set j v))) {s with heap:=s.heap.update p (yaR (·.setIfInBounds j u))}:=
  I.V0 hp ho (JH its n j u) (r.set rv j) (by rw[zcW];exact hz) s.toks
 by_cases h0:0<=k
 .have hk:k.toNat=j:=by
   rw[seqIndex_of h0 h4] at h1;exact za1.inj h1
  exact PySem.W.ki_setAt ho h0 (by lia) (by rw[zat,<- hl];exact h4) (by rw[hk];exact⟨_,I',q⟩)
 .have hk:(k+(its.toArray.size:Int)).toNat=j:=by
   rw[seqIndex_neg (by lia) h3] at h1;rw[zat,<- hl];exact za1.inj h1
  exact PySem.W.ki_setBack ho (by lia) (by rw[zat,<- hl];exact h3) (by lia) (by rw[hk];exact⟨_,I',q⟩)
theorem EH(lo hi:Option Int)(n:Nat):(sliceBounds lo hi none n).1=((HT.iU n 0 lo:Nat):Int)/\(sliceBounds lo hi none n).2.1=((HT.iU n n hi:Nat):Int)/\(sliceBounds lo hi none n).2.2=1:=by
 refine⟨?_,?_,rfl⟩
 .cases lo with
  |none=>simp[sliceBounds,HT.iU]
  |some i=>
   simp only[sliceBounds,HT.iU,Option.getD_none,show (1:Int)>0 by decide,if_true];by_cases h:i<0
   .simp only[h,if_true]<;>lia
   .simp only[h,if_false]<;>lia
 .cases hi with
  |none=>simp[sliceBounds,HT.iU]
  |some i=>
   simp only[sliceBounds,HT.iU,Option.getD_none,show (1:Int)>0 by decide,if_true];by_cases h:i<0
   .simp only[h,if_true]<;>lia
   .simp only[h,if_false]<;>lia
theorem CG(its:List zdj)(lo hi:Option Int):slicePick its.toArray lo hi none=((its.drop (HT.iU its.length 0 lo)).take (HT.iU its.length its.length hi-HT.iU its.length 0 lo)).toArray:=by
 obtain⟨h1,h2,h3⟩:=EH lo hi its.toArray.size;unfold slicePick;rw[h1,h2,h3];simp only[sliceRange_one,pick_run,zat]<;>rfl
def acN (K:zaa):V->Option Int->Option Int->Hp->VK->Prop:=fun x lo hi H Q=>∃a xs,x=.ref a/\jJ K H a xs/\∀p,H p=none->Q (.ref p) (upd H p (.lst (je xs lo hi)))
theorem jo:YZ X (acN X.K):=by
 intro pins s G H x v vl vu lo hi sl Q I rx hs pl pu h;obtain⟨a,xs,rfl,hx,q⟩:=h;cases rx;obtain⟨its,r,ht,hz⟩:=I.list hx;have hlen:=r.length;refine⟨"list",_,slot_list_getitem.lookup,ht.isList.typeIs,?_⟩;refine wpAny_getItem_list_slice ht.isList hs pl pu .none (by simp) ?_ (by rw[zat]<;>lia);rw[CG,<- hlen];refine⟨.ref s.heap.objs.size,_,I.laid (t':=s.toks) (o:=.lst (je xs lo hi)) (fun b ob q=>yac _ q) (zah _) ?_,rfl,q _ (I.dW.fresh (zah _))⟩;exact⟨zaz (Ar xs lo hi) hz,_,0,(r.drop (HT.iU xs.length 0 lo)).take (HT.iU xs.length xs.length hi-HT.iU xs.length 0 lo),yae _ rfl⟩
noncomputable def As:V->Bool
 |.cH=>true
 |.bl _=>true
 |.int _=>true
 |.str _=>true
 |_=>false
noncomputable def N7:V->V->Bool
 |.cH,.cH=>true
 |.bl a,.bl b=>a==b
 |.bl a,.int b=>(if a then 1 else 0)==b
 |.int a,.bl b=>a==(if b then 1 else 0)
 |.int a,.int b=>a==b
 |.str a,.str b=>a==b
 |_,_=>false
theorem Wa(ry:RelV y u)(rx:RelV x v)(fy:As y=true)(fx:As x=true):SeqAt.EqAt A s u v (N7 y x):=by
 cases y with
 |cH=>
  cases ry;cases x with
  |cH=>cases rx;exact SeqAt.EqAt.same _
  |bl b=>cases rx;exact SeqAt.EqAt.none_bool b
  |int b=>obtain⟨t,rfl⟩:=rx;exact SeqAt.EqAt.none_int b t
  |str b=>obtain⟨t,rfl⟩:=rx;exact SeqAt.EqAt.none_str b t
  |_=>exact ybw (show false=true from fx) zag
 |bl a=>
  cases ry;cases x with
  |cH=>cases rx;exact SeqAt.EqAt.bool_none a
  |bl b=>cases rx;exact SeqAt.EqAt.bool_bool a b
  |int b=>obtain⟨t,rfl⟩:=rx;exact SeqAt.EqAt.bool_int a b t
  |str b=>obtain⟨t,rfl⟩:=rx;exact SeqAt.EqAt.bool_str a b t
  |_=>exact ybw (show false=true from fx) zag
 |int a=>
  obtain⟨t',rfl⟩:=ry;cases x with
  |cH=>cases rx;exact SeqAt.EqAt.int_none a t'
  |bl b=>cases rx;exact SeqAt.EqAt.int_bool a t' b
  |int b=>obtain⟨t,rfl⟩:=rx;exact SeqAt.EqAt.int_int a t' b t
  |str b=>obtain⟨t,rfl⟩:=rx;exact SeqAt.EqAt.int_str a t' b t
  |_=>exact ybw (show false=true from fx) zag
 |str a=>
  obtain⟨t',rfl⟩:=ry;cases x with
  |cH=>cases rx;exact SeqAt.EqAt.str_none a t'
  |bl b=>cases rx;exact SeqAt.EqAt.str_bool a t' b
  |int b=>obtain⟨t,rfl⟩:=rx;exact SeqAt.EqAt.str_int a t' b t
  |str b=>obtain⟨t,rfl⟩:=rx;exact SeqAt.EqAt.str_str a t' b t
  |_=>exact ybw (show false=true from fx) zag
 |_=>exact ybw (show false=true from fy) zag
def S4 (x:V)(u:zdj):Bool:=match u with
 |.none=>N7 .cH x
 |.bool b=>N7 (.bl b) x
 |.int i _=>N7 (.int i) x
 |.str z _=>N7 (.str z) x
 |_=>false
theorem OQ(r:RelV y u)(f:As y=true):S4 x u=N7 y x:=by
 cases y with
 |cH=>cases r;rfl
 |bl b=>cases r;rfl
 |int i=>obtain⟨t,rfl⟩:=r;rfl
 |str z=>obtain⟨t,rfl⟩:=r;rfl
 |_=>exact ybw (show false=true from f) zag
theorem EI:∀{xs:List V}{us:List zdj},Vals xs us->xs.all As=true->us.any (S4 x)=xs.any fun y=>N7 y x
 |_,_,.nil,_=>rfl
 |y::xs,u::us,.cons r t,f=>by
  rw[List.all_cons,za9] at f;rw[zb2,zb2,OQ r f.1,EI t f.2]
theorem Bl(rx:RelV x v)(fx:As x=true):∀{xs:List V}{us:List zdj},Vals xs us->xs.all As=true->∀u∈us,SeqAt.EqAt A s u v (S4 x u)
 |_,_,.nil,_=>fun u hu=>by cases hu
 |y::xs,u::us,.cons r t,f=>fun u' hu=>by
  rw[List.all_cons,za9] at f;rcases zan.mp hu with rfl |hu
  .rw[OQ r f.1];exact Wa r rx f.1 fx
  .exact Bl rx fx t f.2 u' hu
def Sf (x:V)(xs:List V):Bool:=xs.any fun y=>N7 y x
def rIn (K:zaa)(neg:Bool):R2:=fun x y H Q=>∃p xs,y=.ref p/\(jJ K H p xs\/bG K H p xs)/\As x=true/\xs.all As=true/\Q (.bl (if neg then !Sf x xs else Sf x xs)) H
theorem kz:vL X (yar .In) (rIn X.K false):=by
 intro pins s G H x y v u Q I rx ry h;obtain⟨p,xs,rfl,hq,fx,fs,q⟩:=h;cases ry;rcases hq with hq |hq
 .obtain⟨its,r,pl,hz⟩:=I.list hq;refine SeqAt.in_listAt (S4 x) pl.isList (fun w hw=>Bl rx fx r fs w (by simpa using hw)) ⟨.bl _,H,I,rfl,?_⟩;rw[show its.toArray.any (S4 x)=its.any (S4 x) by simp,EI r fs];exact q
 .obtain⟨its,r,pl,hz⟩:=I.tuple hq;refine SeqAt.in_tupleAt (S4 x) pl (fun w hw=>Bl rx fx r fs w (by simpa using hw)) ⟨.bl _,H,I,rfl,?_⟩;rw[show its.toArray.any (S4 x)=its.any (S4 x) by simp,EI r fs];exact q
theorem cn:sP X (.builtin "len") (fun xs H Q=>∃p ys,xs=[.ref p]/\(jJ X.K H p ys\/bG X.K H p ys)/\Q (.int ys.length) H):=by
 intro pins s G H xs us Q I r h;obtain⟨p,ys,rfl,hq,q⟩:=h;obtain⟨u,rfl,rx⟩:=vals1 r;cases rx;have hn:=zo;rcases hq with hq |hq
 .obtain⟨its,r',pl,hz⟩:=I.list hq;have hlen:=r'.length;exact Calls.call_len_list pl.isList (by simp only[zat]<;>lia) ⟨.int ys.length,H,I.tok _,⟨s.toks+1,by rw[zat,hlen]⟩,q⟩
 .obtain⟨its,r',pl,hz⟩:=I.tuple hq;have hlen:=r'.length;exact len_tuple pl (by simp only[zat]<;>lia) ⟨.int ys.length,H,I.tok _,⟨s.toks+1,by rw[zat,hlen]⟩,q⟩
theorem mH:sP X (.type "list") (fun xs H Q=>∃p ys,xs=[.ref p]/\(jJ X.K H p ys\/bG X.K H p ys)/\∀l,H l=none->Q (.ref l) (upd H l (.lst ys))):=by
 intro pins s G H xs us Q I r h;obtain⟨p,ys,rfl,hq,q⟩:=h;obtain⟨u,rfl,rx⟩:=vals1 r;cases rx;have fin:∀(its:List zdj),Vals ys its->ys.length<=zdq->∀(h':yaf) (c':Nat),(∀b o',s.heap.get? b=some o'->h'.get? b=some o')->
  h'.get? s.heap.objs.size=some {cls:=.type "list",dict:=none,data:=.seq its.toArray c',slots:=#[]}->EP X pins G Q (.ref s.heap.objs.size) {s with heap:=h' }:=fun its r' hz h' c' kp e=>
  ⟨.ref s.heap.objs.size,_,I.laid (t':=s.toks) kp (zah _) (show cE X.prog X.w _ h' _ (.lst ys) from ⟨hz,its,c',r',e⟩),rfl,q _ (I.dW.fresh (zah _))⟩
 rcases hq with hq |hq
 .obtain⟨its,r',pl,hz⟩:=I.list hq;have hlen:=r'.length;obtain⟨o,ho,hc,n,hd⟩:=pl.isList;exact call_list_seq p (.inl rfl) ho hc hd (fun h' c' kp e=>fin its r' hz h' c' kp e) (by simp only[zat]<;>lia)
 .obtain⟨its,r',pl,hz⟩:=I.tuple hq;have hlen:=r'.length;obtain⟨o,ho,hc,n,hd⟩:=pl;exact call_list_seq p (.inr rfl) ho hc hd (fun h' c' kp e=>fin its r' hz h' c' kp e) (by simp only[zat]<;>lia)
theorem ig:sP X (.type "tuple") (fun xs H Q=>∃p ys,xs=[.ref p]/\((jJ X.K H p ys/\∀l,H l=none->Q (.ref l) (upd H l (.tup ys)))\/(bG X.K H p ys/\Q (.ref p) H))):=by
 intro pins s G H xs us Q I r h;obtain⟨p,ys,rfl,h⟩:=h;obtain⟨u,rfl,rx⟩:=vals1 r;cases rx;rcases h with ⟨hq,q⟩ |⟨hq,q⟩
 .obtain⟨its,r',pl,hz⟩:=I.list hq;have hlen:=r'.length;refine call_tuple_list pl.isList (fun h' kp=>?_) (by simp only[zat]<;>lia);have I1:Inv X pins G H {s with heap:=h' }:=I.kept (t':=s.toks) kp;have I2:Inv X pins G (upd H h'.objs.size (.tup ys)) {s with heap:=h'.push {cls:=.type "tuple",data:=.seq its.toArray} }:=
   I1.laid (t':=s.toks) (fun b o e=>yac _ e) (zah _) (show cE X.prog X.w _ _ _ (.tup ys) from ⟨hz,its,r',IsTup.new _ _⟩)
  exact⟨.ref h'.objs.size,_,I2,rfl,q _ (I1.dW.fresh (zah _))⟩
 .obtain⟨its,r',pl,hz⟩:=I.tuple hq;exact call_tuple_same pl ⟨.ref p,H,I,rfl,q⟩
def tyV (K:zaa)(T:String)(x:V)(H:Hp):Prop:=match x with
 |.str _=>T = "str"
 |.int _=>T = "int"
 |.ref p=>(T = "list"/\∃xs,jJ K H p xs)\/(T = "tuple"/\∃o,K.lookup p=some o/\o.cls=.type "tuple"/\o.dict=none)\/
  (T = "dict"/\((∃kvs,H p=some (.dK kvs))\/∃kvs,H p=some (.dT kvs)))\/(T = "set"/\∃S n,H p=some (.set S n))
 |_=>False
theorem Wb{G:St}(I:Inv X pins G H s)(r:RelV x v)(ty:tyV X.K T x H) :
 s.TypeIs v T/\∀a,v=.ref a->∃ob,s.heap.get? a=some ob/\ob.dict=none:=by
 cases x with
 |str z=>
  obtain⟨t,rfl⟩:=r;cases (show T = "str" from ty);exact⟨typeIs_str s z t,fun _ e=>nomatch e⟩
 |int i=>
  obtain⟨t,rfl⟩:=r;cases (show T = "int" from ty);exact⟨typeIs_int s i t,fun _ e=>nomatch e⟩
 |ref p=>
  cases r;rcases ty with ⟨rfl,xs,hq⟩ |⟨rfl,o,hk,hc,hd⟩ |⟨rfl,hk⟩ |⟨rfl,S,n,hk⟩
  .obtain⟨its,_,pl,_⟩:=I.list hq;refine⟨pl.isList.typeIs,fun a e=>?_⟩;cases e;obtain⟨o,n,e,c,hd,_⟩:=pl;exact⟨o,e,hd⟩
  .refine⟨⟨o,I.AK p o hk,hc⟩,fun a e=>?_⟩;cases e;exact⟨o,I.AK _ o hk,hd⟩
  .have z:∃o,s.heap.get? p=some o/\o.ExactDict:=by
    rcases hk with ⟨kvs,hk⟩ |⟨kvs,hk⟩
    .obtain⟨_,_,_,_,o,_,_,e,ex,_⟩:=I.dW p _ hk;exact⟨o,e,ex⟩
    .obtain⟨_,_,_,_,o,_,_,e,ex,_⟩:=I.dW p _ hk;exact⟨o,e,ex⟩
   obtain⟨o,e,ex⟩:=z;refine⟨⟨o,e,ex.1⟩,fun a e2=>?_⟩;cases e2;exact⟨o,e,ex.2.1⟩
  .obtain⟨o,_,_,_,e,ex,_⟩:=I.dW p _ hk;refine⟨⟨o,e,ex.1⟩,fun a e2=>?_⟩;cases e2;exact⟨o,e,ex.2.1⟩
 |_=>exact False.elim ty
def tBM (K:zaa)(T:String)(r:V->List V->Hp->VK->Prop)(to:TE)(t:TA):TE:=fun G H Q=>to G H fun x H1=>tyV K T x H1/\t G H1 fun xs H2=>r x xs H2 Q
variable{o e:Expr}{es:List Expr}{to:TE}{t:TA}{name:Str}{apos EJ:Pos}{T id:String}{r:V->List V->Hp->VK->Prop}
theorem j7(pa:PlainAttrs T)(slot:Slot T name id)(hty:typeOf (.builtin id)=pure (.type "method_descriptor"))(hm:MtR X id r)(ho:PE X o to)(ha:PA X (e::es) t)
 (Y1:attributeBase o name X.env (eval o X.env)=eval o X.env:=by rfl)
 (acP:((backTo EJ (zdo (e::es) X.env)).all (fun x=>!x.1)&&(backToKw EJ (keywordEach [] X.env)).all (fun x=>x.1.isSome)
  && decide ((e::es).length+([]:List Keyword).length+(if ([]:List Keyword).isEmpty then 0 else 1)<30))=true:=by rfl)
 (Y2:(apos.endLine==EJ.line)=true:=by rfl) (hs:zdo (e::es) X.env=(false,eval e X.env)::zdo es X.env:=by rfl) (Wc:(backTo EJ (zdo es X.env)).any (·.1)=false:=by rfl) :
 PE X (.Call (.Attribute o name apos) (e::es) [] EJ) (tBM X.K T r to t):=by
 intro pins s G H Q I h;refine wpAny_Call_method_late Y1 acP Y2 rfl (ib (ho pins s G H _ I h) fun v s1 zqz=>?_);obtain⟨x,H1,I1,r1,ty,q1⟩:=zqz;obtain⟨h1,h2⟩:=Wb I1 r1 ty;refine⟨T,id,pa,slot,hty,h1,h2,?_⟩;have hA:=ha EJ pins s1 G H1 _ I1 q1;rw[hs] at hA |-;refine Calls.callWith_builtin (by show (false ||(backTo EJ (zdo es X.env)).any (·.1))=false;rw[Wc]<;>rfl) (Calls.evalArgs_plain ?_);exact ib hA fun us s2 ⟨vs,H2,I2,r2,q2⟩=>hm pins s2 G H2 x vs v us Q I2 r1 r2 q2
end
def MtM (X:Cx)(id:String)(r:V->List V->Hp->VK->Prop):Prop:=
 ∀(pins:List (zdi×Obj)) (s:zds) (G:St) (H:Hp) (x:V) (xs:List V) (v:zdj) (us:List zdj) (Q:VK),Inv X pins G H s->RelV x v->Vals xs us->r x xs H Q->
  yaa (model X.prog X.w) X.A (call (.builtin id) (v::us)) (EP X pins G Q) X.xe s
theorem Vals.one:∀{x:V}{us:List zdj},Vals [x] us->∃u,us=[u]/\RelV x u
 |_,_,.cons r .nil=>⟨_,rfl,r⟩
section
variable{X:Cx}{pins:List (zdi×Obj)}{G:St}{H:Hp}{s:zds}{l b:zdi}{xs ys zs:List V}
theorem Inv.Y3{its its':List zdj}(I:Inv X pins G H s)(hH:H l=some (.lst xs))
 (e:s.heap.get? l=some {cls:=.type "list",data:=.seq its.toArray n}) (hf:f its.toArray=its'.toArray) (hv:Vals ys its') (hz:ys.length<=zdq) :
 Inv X pins G (upd H l (.lst ys)) {s with heap:=s.heap.update l (yaR f),toks:=t' }:=by
 have q:=PySem.IsL.update e f;rw[hf] at q;refine I.write (x:=l) (e:=l) (by rw[hH];exact trivial) (.inl rfl) (fun b' u hb hu=>(yaz s.heap (yaR f) (Ne.symm hb)).trans hu) ⟨_,q⟩ ?_;exact⟨hz,its',_,hv,q⟩
theorem Inv.acR(I:Inv X pins G H s)(hv:Vals ys its)(hz:ys.length<=zdq) :
 Inv X pins G (upd H s.heap.objs.size (.lst ys)) {s with heap:=s.heap.push {cls:=.type "list",data:=.seq its.toArray},toks:=t' }:=
 I.laid (fun _ _ q=>yac _ q) (zah _) ⟨hz,its,0,hv,yae _ rfl⟩
theorem Inv.fresh(I:Inv X pins G H s):H s.heap.objs.size=none:=I.dW.fresh (zah _)
theorem Inv.M7(I:Inv X pins G H s)(hH:H l=some (.lst xs)):xs.length<=zdq/\∃(its:List zdj) (n:Nat),Vals xs its/\xs.length=its.length/\s.heap.get? l=some {cls:=.type "list",data:=.seq its.toArray n}:=by
 obtain⟨z,its,n,r,e⟩:=I.dW l _ hH;exact⟨z,its,n,r,r.length,e⟩
theorem OR(h:n<=zdq):ya7 n=false:=by
 unfold ya7;exact ybt (by lia)
end
section
variable{X:Cx}
def S5:V->List V->Hp->VK->Prop:=fun x vs H Q=>∃l xs y,x=.ref l/\vs=[y]/\H l=some (.lst xs)/\xs.length<zdq/\Q .cH (upd H l (.lst (xs++[y])))
theorem fG:MtM X "list.append" S5:=by
 intro pins s G H x vs v us Q I rx rv h;obtain⟨l,xs,y,rfl,rfl,hH,hz,q⟩:=h;cases rx;obtain⟨u,rfl,ru⟩:=rv.one;obtain⟨z,its,n,r,hl,e⟩:=I.M7 hH;refine call_meets F.slot_list_append ⟨_,e,rfl⟩ F.entry_list_append (F.args_list_append_2 _ _) (PySem.list_append l its.toArray n u (by rw[zat];lia)) ⟨e,?_⟩;refine⟨.cH,_,I.Y3 (its':=its++[u]) hH e (by simp) (r.append (.cons ru .nil)) ?_,rfl,q⟩;rw[zae,za6];lia
def S6:V->List V->Hp->VK->Prop:=fun x vs H Q=>∃l b xs zs,x=.ref l/\vs=[.ref b]/\H l=some (.lst xs)/\H b=some (.lst zs)/\xs.length+zs.length<=zdq/\Q .cH (upd H l (.lst (xs++zs)))
theorem ql:MtM X "list.extend" S6:=by
 intro pins s G H x vs v us Q I rx rv h;obtain⟨l,b,xs,zs,rfl,rfl,hH,hB,hz,q⟩:=h;cases rx;obtain⟨u,rfl,ru⟩:=rv.one;cases ru;obtain⟨z,its,n,r,hl,e⟩:=I.M7 hH;obtain⟨z2,pR,n2,r2,XI,e2⟩:=I.M7 hB;have hsz:its.toArray.size+pR.toArray.size<=zdq:=by rw[zat,zat];lia
 have Y4:¬(!its.toArray.isEmpty&&ya7 (its.toArray.size+pR.toArray.size))=true:=by
  rw[OR hsz,zc3];exact zag
 refine call_meets F.slot_list_extend ⟨_,e,rfl⟩ F.entry_list_extend (F.args_list_extend_2 _ _)
  (AutoSeq1.list_extend_list_list_0 l its.toArray n b pR.toArray n2 Y4 (by rw[zat];lia) (by lia)) ⟨e,e2,?_⟩
 refine⟨.cH,_,I.Y3 (its':=its++pR) hH e (by simp) (r.append r2) ?_,rfl,q⟩;rw[zae];lia
def acS:R2:=fun x y H Q=>∃l b xs zs,x=.ref l/\y=.ref b/\H l=some (.lst xs)/\H b=some (.lst zs)/\xs.length+zs.length<=zdq/\∀p,H p=none->Q (.ref p) (upd H p (.lst (xs++zs)))
theorem fX:vL X (binaryOp .Add) acS:=by
 intro pins s G H x y v u Q I rx ry h;obtain⟨l,b,xs,zs,rfl,rfl,hH,hB,hz,q⟩:=h;cases rx;cases ry;obtain⟨z,its,n,r,hl,e⟩:=I.M7 hH;obtain⟨z2,pR,n2,r2,XI,e2⟩:=I.M7 hB;refine PySem.P.add_list e e2 ?_ (by rw[zat,zat];lia);have ea:its.toArray++pR.toArray=(its++pR).toArray:=by simp
 rw[ea];exact⟨.ref _,_,I.acR (t':=s.toks) (r.append r2) (by rw[zae];lia),rfl,q _ I.fresh⟩
end
end L2
namespace Att
open PySem PySem.W PySem.Calls PyProof.Rows
theorem AM:∀(ns:List Int)(vs:List zdj),WellAll P h vs (ns.map WData.int)->IntsAre vs ns:=by
 intro ns
 induction ns with
 |nil=>
  intro vs w;rw[zbE] at w;cases w;exact .nil
 |cons n ns ih=>
  intro vs w;rw[zaq] at w;cases w with
  |cons a b=>
   cases a;exact .cons _ _ (ih _ b)
theorem M8{l:OpenLaw}(hn:l.most=some n)
 (S7:l.row.toRowW.claim.pre args=true) (hwl:WellAll P h vals args) :
 ∃a vs ns,vals=[yab a]/\args=[WData.list (ns.map WData.int)]/\h.get? a=some {cls:=.type "list",data:=.seq vs.toArray}/\IntsAre vs ns/\ns.length<=n:=by
 have hsh:WShape.hasAll [] args [.list .int]=true:=(pre_splitW S7).1;have hc:l.pre.holds [] {args:=args}=true:=(pre_splitW S7).2;obtain⟨d,r,rfl,h1,h2⟩:=hasAllW_cons hsh;obtain rfl:=hasAllW_nil h2;obtain⟨xs,rfl,h3⟩:=hasW_list h1;obtain⟨ns,rfl⟩:=items_int h3;have hlen:ns.length<=n:=by
  unfold OpenLaw.pre at hc;have h4:(WTm.not (.lt (.lit (.int (n:Int))) (.len (.arg 0)))).holds [] {args:=[.list (ns.map .int)]}=true:=by
   have h4:=(holds_andW hc).1;rw[hn] at h4;exact h4
  have h5:=condW_of h4 (w_not (w_lt w_lit (w_len_list (w_arg rfl))));rw[zab] at h5;refine Nat.le_of_not_lt fun q=>?_;have q':(n:Int)<((ns.length:Nat):Int):=by lia
  first
   |(rw[ybs q'] at h5;exact ybw h5 (by decide))
   |(simp at h5;lia)
 cases hwl with
 |cons w1 w2=>
  cases w2;cases w1 with
  |list ho acU=>exact⟨_,_,ns,rfl,rfl,ho,AM ns _ acU,hlen⟩
theorem M9(l:OpenLaw)(args:List WData):l.row.toRowW.claim.post args (.bool true) args=true:=
 postW_of (r:=l.row.toRowW) (X:=(true==true))
  (show WShape.has [] (.bool true) .bool=true by first |rfl |decide |simp[WShape.has,WShape.arms,WShape.armsAll])
  (show (WTm.eq .res (.lit (.bool true))).value [] {args:=args,res:=some (.bool true),after:=args}=some (.bool (true==true)) from w_eq_bool (w_res rfl) w_lit) rfl
theorem GP{l:OpenLaw}
 (hn:l.most=some n) (Y5:d.params.defaults=[])
 (call:∀(w:zdk) (s₀ s₁:zds) (mg mb:Str->Option zdj) (fa:zdi) (o:Obj) (pm cd doc:zdj) (a:zdi) (vs:List zdj) (ns:List Int),
  Ground q loose [] XP w s₀ mg mb s₁.heap->YP w s₁.heap->
  s₁.heap.get? fa=some o->o.data=.func (docDef d.name d.params d.body d.scope pm cd doc)->s₁.heap.CodeRec cd d.name->mg d.name=some (.ref fa)->
  s₁.heap.get? a=some {cls:=.type "list",data:=.seq vs.toArray}->IntsAre vs ns->ns.length<=n->s₁.gens = #[]->
  codeAny (model l.prog w) callerA (.call (.ref fa) ⟨[.ref a],[]⟩) (fun r s'=>r=.ok (.ret (.bool true))/\OldK s₁.heap s'.heap/\s'.os=s₁.os/\AllBare s'.gens) s₁) :
 WalkO q loose XP YP l.row.toRowW d [] (fun f vs=>PySem.call f vs):=by
 intro w s₀ s₁ mg mb G Y fa o pm cd doc dV kV ho hd Cu hD Y6 hg args vals as S7 ai4 hrd hwl hlo;obtain rfl:dV=.none:=Dflts.none hD Y5;obtain rfl:kV=.none:=Dflts.noKw hD;obtain⟨a,vs,ns,rfl,rfl,We,hints,hlen⟩:=M8 hn S7 hwl;refine enter_call (ybg (call w s₀ s₁ mg mb fa o pm cd doc a vs ns G Y ho (fd_plain hd) Cu Y6 We hints hlen hg) fun r s' hq=>?_);obtain⟨rfl,h2,h3,h4⟩:=hq;exact⟨.inl ⟨.bool true,.bool true,[],rfl,fun _=>rfl,.bool true,M9 l _,fun _=>⟨List.Pairwise.nil,fun _ hm=>(nomatch hm)⟩⟩,h2,h3,h4⟩
end Att
namespace L2
open PySem PySem.Spec PyProof.Rows
theorem Dz:∀{vs:List zdj}{ns:List Int},IntsAre vs ns->Vals (ns.map V.int) vs
 |_,_,.nil=>.nil
 |_,_,.cons n t h=>.cons ⟨t,rfl⟩ (Dz h)
def Wf (H:Hp):Prop:=∀b,H b=none\/∃o xs,H b=some (.K0 o (.lst xs))
theorem OS{K:zaa}{s₁:zds}{vs:List zdj}{ns:List Int}
 (KX:K.In s₁.heap) (hns:s₁.heap.Ns zdp mg) (hb:s₁.heap.Ns builtinsNs mb) (XJ:∀x:Str,x≠"__name__"->mb x=bootBuiltins x) (acV:s₁.heap.NoLimit) (hg:s₁.gens = #[])
 (ha:s₁.heap.get? a=some {cls:=.type "list",data:=.seq vs.toArray}) (hi:IntsAre vs ns) (hl:ns.length<=zdq) (hr:jL k callerA)
 (F:∀base:yaf,K.In base->base.Ns zdp mg->bq P w K mg base CX k fa fd [x] sp) (Y7:∀(s:zds) (u:zdj),BindsTo s fd ⟨[u],[]⟩ [(x,u)])
 (Ux:∀H:Hp,Wf H->jJ K H a (ns.map V.int)->sp [.ref a] H (fun v _=>v=.bl true) fun _ _ _=>False)
 (hCX:∀H e s',CX [] H s₁ (fun _ _ _=>False) e s'->False) :
 codeAny (model P w) callerA (.call (.ref fa) ⟨[.ref a],[]⟩) (fun r s'=>r=.ok (.ret (.bool true))/\OldK s₁.heap s'.heap/\s'.os=s₁.os/\AllBare s'.gens) s₁:=by
 have rv:=Dz hi;have acX:=hi.length;have core:∀H:Hp,Wf H->jJ K H a (ns.map V.int)->sN P w H s₁.heap->(∀b,H b≠none->b=a)->(H a≠none->K.lookup a=none)->
  codeAny (model P w) callerA (.call (.ref fa) ⟨[.ref a],[]⟩) (fun r s'=>r=.ok (.ret (.bool true))/\OldK s₁.heap s'.heap/\s'.os=s₁.os/\AllBare s'.gens) s₁:=by
  intro H hO hS dW hA hK;have Lp:∀{b:zdi} {o:Obj},s₁.heap.get? b=some o->H b=none->(Ey s₁.heap H).get? b=some o:=fun e n=>Om e n;have YU:∀{b:zdi} {o:Obj} {es:Array DictEntry} {ep:Nat},s₁.heap.get? b=some o->o.data=.dict es ep->H b=none:=fun {b o es ep} e d=>by
   cases q:H b with
   |none=>rfl
   |some u=>
    have e':b=a:=hA b (by rw[q];simp);subst e';rw[ha] at e;cases e;have d':Data.seq vs.toArray _=Data.dict es ep:=d;cases d'
  have nsK:∀{b:zdi} {m:Str->Option zdj},s₁.heap.Ns b m->(Ey s₁.heap H).Ns b m:=fun {b m} ⟨o,es,ep,e,d,r⟩=>⟨o,es,ep,Lp e (YU e d),d,r⟩
  have hKb:K.In (Ey s₁.heap H):=fun b o e=>Lp (KX b o e) (by
   cases q:H b with
   |none=>rfl
   |some u=>
    have e':b=a:=hA b (by rw[q];simp);subst e';rw[hK (by rw[q];simp)] at e;cases e)
  have hM:Mod K mg (Ey s₁.heap H):=⟨hKb,nsK hns,⟨mb,nsK hb,XJ⟩,let ⟨mc,h1,h2⟩:=acV;⟨mc,nsK h1,h2⟩⟩
  have e0:JD P w K mg (Ey s₁.heap H) callerA [] s₁ H:=⟨rfl,hM,fun b o e=>SJ e,Nat.le_of_eq (MS _ _),trivial,fun b hb=>ybw (show b∈([]:List zdi) from hb) (by simp),dW,.of_eq hg⟩
  refine ybg ((F _ hKb (nsK hns)).run callerA [] s₁ H ⟨[.ref a],[]⟩ [.ref a] [.ref a] _ _ hr e0 (Y7 s₁ (.ref a)) (.cons rfl .nil) (Ux H hO hS)) fun r s' h=>?_;cases r with
  |error e=>exact(hCX H e s' h).elim
  |ok fl=>
   cases fl with
   |next=>exact False.elim h
   |brk=>exact False.elim h
   |cont=>exact False.elim h
   |ret u=>
    obtain⟨v,H',os,bare,un,acY,r',q⟩:=h;have q':v=.bl true:=q;subst q';obtain rfl:u=yaJ true:=r';refine⟨rfl,OldK.of_keep fun b o e=>?_,os,bare⟩;cases q:H b with
    |none=>exact un.keep b o e q (by intro z;exact ybw (show b∈([]:List zdi) from z) (by simp)) (by simp)
    |some u=>
     rcases hO b with z |⟨ob,xs,z⟩
     .rw[q] at z;cases z
     .have z2:=un.CA b ob _ z;obtain⟨e1,_⟩:=dW b _ z;obtain⟨e2,_⟩:=acY b _ z2;rw[e] at e1;cases e1;exact e2
 cases hk:K.lookup a with
 |some o=>
  have e:=KX a o hk;rw[ha] at e;cases e;refine core (fun _=>none) (fun _=>.inl rfl) (.inr ⟨_,vs.toArray,_,hk,rfl,rfl,rfl,by rw[zat,acX];exact hl,by simpa using rv⟩) (fun b u z=>by have z':(none:Option HO)=some u:=z;cases z') (fun b z=>ybw rfl z) fun z=>ybw rfl z
 |none=>
  refine core (fun b=>if b=a then some (.K0 {cls:=.type "list",data:=.seq vs.toArray} (.lst (ns.map V.int))) else none) (fun b=>?_) (.inl (.inr ⟨{cls:=.type "list",data:=.seq vs.toArray},ybr rfl⟩)) (fun b u z=>?_) (fun b z=>?_) fun _=>hk
  .by_cases hb:b=a
   .exact .inr ⟨_,_,ybr hb⟩
   .exact .inl (ybq hb)
  .by_cases hb:b=a
   .have z':=(ybr hb).symm.trans z;cases z';subst hb;exact⟨ha,by rw[zab];exact hl,vs,_,rv,ha⟩
   .have z':=(ybq hb).symm.trans z;cases z'
  .by_cases hb:b=a
   .exact hb
   .exact ybw (ybq hb) z
theorem S8{l:PySem.W.OpenLaw}{K:Params->zaa}{CX:zdk->M3}{sp:zdk->Sp}{x:Str}
 (hn:l.most=some n) (hn2:n<=zdq) (Y5:d.params.defaults=[]) (hr:jL k callerA)
 (hY:∀(w:zdk) (h:yaf),YP w h->(K w.params).In h)
 (F:∀(w:zdk) (mg:Str->Option zdj) (fa:zdi) (h:yaf),(K w.params).In h->h.Ns zdp mg->mg d.name=some (.ref fa)->
  ∃fd:zdr,(∀(s:zds) (u:zdj),BindsTo s fd ⟨[u],[]⟩ [(x,u)])/\
   ∀base:yaf,(K w.params).In base->base.Ns zdp mg->bq l.prog w (K w.params) mg base (CX w) k fa fd [x] (sp w))
 (Ux:∀(w:zdk) (H:Hp) (a:zdi) (ns:List Int),ns.length<=n->Wf H->jJ (K w.params) H a (ns.map V.int)->sp w [.ref a] H (fun v _=>v=.bl true) fun _ _ _=>False)
 (hCX:∀(w:zdk) (H:Hp) (s:zds) (e:zdj) (s':zds),CX w [] H s (fun _ _ _=>False) e s'->False) :
 PySem.W.WalkO q loose XP YP l.row.toRowW d [] (fun f vs=>PySem.call f vs):=by
 refine Att.GP hn Y5 fun w s₀ s₁ mg mb fa o pm cd doc a vs ns G Y ho hd Cu Y6 We hints hlen hg=>?_;have KX:=hY w _ Y;obtain⟨fd,hb,hF⟩:=F w mg fa _ KX G.T.g Y6;exact OS KX G.T.g G.T.b G.T.builtins G.T.nolimit hg We hints (zaz hlen hn2) hr hF hb (fun H hO hS=>Ux w H a ns hlen hO hS) fun H e s'=>hCX w H s₁ e s'
noncomputable def inClass (s:Stmt)(j:Nat):Stmt:=match s with
 |.ClassDef _ _ _ body _ _ _ _ _ _ _=>body.getD j (.Pass ⟨0,0,0,0⟩)
 |_=>.Pass ⟨0,0,0,0⟩
noncomputable def jq (s:Stmt):Arguments:=match s with
 |.FunctionDef _ a _ _ _ _ _ _ _ _=>a
 |_=>{posonlyargs:=[],args:=[],vararg:=none,kwonlyargs:=[],kw_defaults:=[],kwarg:=none,defaults:=[]}
noncomputable def gS (s:Stmt):List Stmt:=match s with
 |.FunctionDef _ _ b _ _ _ _ _ _ _=>b
 |_=>[]
noncomputable def aD (s:Stmt):Scope:=match s with
 |.FunctionDef _ _ _ _ _ _ sc _ _ _=>sc
 |_=>{kind:=.function,names:=[],isGenerator:=false,isCoroutine:=false}
abbrev dF:M3:=fun _ _ _ _ _ _=>False
abbrev E0:XK:=fun _ _ _=>False
theorem nW:Passes dF X E0:=fun _ _ _ _ _ _ _ h=>h.elim
structure Lq(K:zaa)(x qual:Str)(st:Stmt)(f:zdi)(fd:zdr):Prop where
 ex:∃(oc:zdj) (od:Option zdi) (kV doc pm:zdj) (an:Option zdi) (fA ct:zdj) (Sa:Array (Option zdj)),
  fd=zbg x qual (jq st) (gS st) (aD st) .none kV doc pm an fA ct/\K.lookup f=some ⟨oc,od,.func fd,Sa⟩/\zbX K fA qual=true
 kp:zbo K (.ref f)=true
section
variable{P:zdu}{w:zdk}{K:zaa}{mg:Str->Option zdj}{base:yaf}
theorem Lq.ok{st:Stmt}(F:Lq K x qual st f fd)(S:aQ N ps (aD st))(len:∀vs H Q E,sp vs H Q E->vs.length=ps.length)
 (Bj:∀(fA:zdj) (A:zdt) (outer:List Env) (s:zds) (H:Hp) (vs:List V) (Q:VK) (E:XK),jL k (A.deeper (envOfC qual (aD st) s.heap.objs.size f fA))->sp vs H Q E->
  ∃t,Jo (Bi dF P w K mg base N qual (aD st) f fA A outer s H E).XG (gS st) t/\t {nx:=fun _ H'=>Q .cH H',rt:=Q} (start N vs) H):bq P w K mg base dF (k+1) f fd ps sp:=by
 obtain⟨oc,od,kV,doc,pm,an,fA,ct,Sa,rfl,lk,Cu⟩:=F.ex;refine YV lk Cu S len fun A outer s H vs Q E hr Ux=>?_;obtain⟨t,h,q⟩:=Bj fA A outer s H vs Q E hr Ux;exact⟨t,h.XG,q⟩
theorem Lq.binds{st:Stmt}(F:Lq K x qual st f fd)
 (h:∀(kV doc pm:zdj) (an:Option zdi) (fA ct:zdj) (us:List zdj),us.length=ps.length->bindArgs (zbg x qual (jq st) (gS st) (aD st) .none kV doc pm an fA ct) ⟨us,[]⟩=pure (ps.zip us)):Binds K fd ps []:=by
 obtain⟨oc,od,kV,doc,pm,an,fA,ct,Sa,rfl,lk,Cu⟩:=F.ex;exact .all (h kV doc pm an fA ct)
theorem EK{st:Stmt}{kV doc pm fA ct:zdj}(l:K.lookup f=some ⟨oc,od,.func (zbg x qual (jq st) (gS st) (aD st) .none kV doc pm an fA ct),Sa⟩)
 (c:zbX K fA qual=true) (k:zbo K (.ref f)=true):Lq K x qual st f (zbg x qual (jq st) (gS st) (aD st) .none kV doc pm an fA ct):=⟨⟨oc,od,kV,doc,pm,an,fA,ct,Sa,rfl,l,c⟩,k⟩
end
theorem gc(hr:jL k A):A.units+1<cLine:=zb3 (Nat.add_le_add_left (by decide:1<=64) _) hr.units
theorem Na(h:n<=1000):n<zdq:=zb3 h (by decide)
section
variable{X:Cx}
theorem pv(i:Nat){pos:Pos}(hN:X.N[i]?=some x:=by rfl)(hv:Ut X.env.scope x:=by first |exact zbe rfl |exact zbi (zbe rfl) |exact zbi (zbi rfl))(hd:(x==("__debug__":Str))=false:=by decide)
 (Cu:(x==("__classdict__":Str))=false:=by decide):PE X (.Name x pos) (iu i):=VJ hN hv hd Cu
end
theorem dR{c A B:Prop}[Decidable c](h1:c->A)(h2:¬c->B):if c then A else B:=by
 by_cases h:c
 .rw[ybr h];exact h1 h
 .rw[ybq h];exact h2 h
def ao (H H':Hp):Prop:=∀b o,H b=some o->H' b=some o
theorem ao.refl(H:Hp):ao H H:=fun _ _ h=>h
theorem ao.trans(a:ao H H1)(b:ao H1 H2):ao H H2:=fun c o h=>b c o (a c o h)
theorem ao.free(e:ao H H')(h:H' l=Option.none):H l=Option.none:=by
 cases q:H l with
 |none=>rfl
 |some o=>
  rw[e l o q] at h;cases h
theorem ao.seq{K:zaa}(e:ao H H')(h:jJ K H a xs):jJ K H' a xs:=by
 rcases h with (h |⟨o,h⟩) |h
 .exact .inl (.inl (e _ _ h))
 .exact .inl (.inr ⟨o,e _ _ h⟩)
 .exact .inr h
section
variable{Y:Type}[DecidableEq Y]
noncomputable def bZ (kvs:List (Y×V))(k:Y):Option V:=(kvs.find? fun kv=>decide (kv.1=k)).map (·.2)
noncomputable def putK (kvs:List (Y×V))(k:Y)(v:V):List (Y×V):=
 if (kvs.any fun kv=>decide (kv.1=k))=true then kvs.map (fun kv=>if kv.1=k then (kv.1,v) else kv) else kvs++[(k,v)]
theorem cX{k:Y}(e:p.1=k):bZ (p::r) k=some p.2:=by simp[bZ,zb4,e]
theorem cI{k:Y}(e:¬p.1=k):bZ (p::r) k=bZ r k:=by simp[bZ,zb4,e]
theorem jM(k:Y):∀kvs:List (Y×V),(kvs.any fun kv=>decide (kv.1=k))=(bZ kvs k).isSome
 |[]=>rfl
 |p::r=>by
  rw[zb2];by_cases e:p.1=k
  .simp only[cX e,ybs e,Bool.true_or,Option.isSome_some]
  .rw[cI e,ybt e,Bool.false_or];exact jM k r
theorem GQ(k j:Y)(y:V):∀kvs:List (Y×V),bZ (kvs.map fun kv=>if kv.1=k then (kv.1,y) else kv) j=(bZ kvs j).map fun x=>if j=k then y else x
 |[]=>rfl
 |p::r=>by
  have ih:=GQ k j y r;rw[zaq];by_cases h:p.1=k
  .rw[ybr h];by_cases e:p.1=j
   .rw[cX (p:=(p.1,y)) e,cX e,zbx,ybr (e.symm.trans h)]
   .rw[cI (p:=(p.1,y)) e,cI e,ih]
  .rw[ybq h];by_cases e:p.1=j
   .rw[cX (p:=p) e,cX e,zbx,ybq (fun z=>h (e.trans z))]
   .rw[cI (p:=p) e,cI e,ih]
theorem DA(k j:Y)(y:V):∀kvs:List (Y×V),bZ kvs k=none->bZ (kvs++[(k,y)]) j=if j=k then some y else bZ kvs j
 |[],_=>by
  by_cases e:k=j
  .rw[ybr e.symm];exact cX (p:=(k,y)) e
  .rw[ybq (fun z=>e z.symm)];exact cI (p:=(k,y)) e
 |p::r,hn=>by
  rw[zbO];have hk:¬p.1=k:=fun z=>by rw[cX z] at hn;cases hn
  rw[cI hk] at hn;have ih:=DA k j y r hn;by_cases e:p.1=j
  .rw[cX e,cX e,ybq (fun z=>hk (e.trans z))]
  .rw[cI e,cI e,ih]
theorem OT(kvs:List (Y×V))(k j:Y)(y:V):bZ (putK kvs k y) j=if j=k then some y else bZ kvs j:=by
 unfold putK;by_cases a:(kvs.any fun kv=>decide (kv.1=k))=true
 .rw[ybr a,GQ];rw[jM] at a;by_cases e:j=k
  .obtain⟨x,hx⟩:=zcf.mp a;rw[ybr e,e,hx,zbx,ybr rfl]
  .rw[ybq e];cases bZ kvs j with
   |none=>rfl
   |some x=>rw[zbx,ybq e]
 .rw[ybq a];refine DA k j y kvs ?_;rw[jM] at a;cases q:bZ kvs k with
  |none=>rfl
  |some x=>rw[q] at a;exact(a rfl).elim
theorem lE(kvs:List (Y×V))(k:Y)(v:V):(putK kvs k v).length<=kvs.length+1:=by
 unfold putK;split
 .rw[zab];lia
 .rw[zae,zal,zaF];lia
theorem qM.nJ(r:qM o u):o.isSome=u.isSome:=by
 cases o with
 |none=>cases u with
  |none=>rfl
  |some _=>exact(show False from r).elim
 |some _=>cases u with
  |none=>exact(show False from r).elim
  |some _=>rfl
theorem KV.val(r:KV kvs vs)(k:Y):qM (bZ kvs k) (valueAt vs k):=by
 unfold KV at r
 induction r with
 |nil=>exact True.intro
 |@cons p q ps qs h t ih=>
  obtain⟨h1,h2⟩:=h;by_cases e:p.1=k
  .have e':q.1=k:=h1.symm.trans e;have b:valueAt (q::qs) k=some q.2:=by simp[valueAt,zb4,e']
   rw[cX e,b];exact h2
  .have e':¬q.1=k:=fun z=>e (h1.trans z);have b:valueAt (q::qs) k=valueAt qs k:=by simp[valueAt,zb4,e']
   rw[cI e,b];exact ih
theorem KV.any(r:KV kvs vs)(k:Y):(kvs.any fun kv=>decide (kv.1=k))=vs.any fun kv=>decide (kv.1=k):=by
 unfold KV at r
 induction r with
 |nil=>rfl
 |cons h t ih=>rw[zb2,zb2,ih,h.1]
theorem KV.Wg(r:KV kvs vs)(k:Y)(ry:RelV y u) :
 KV (kvs.map fun kv=>if kv.1=k then (kv.1,y) else kv) (vs.map fun kv=>if kv.1=k then (kv.1,u) else kv):=by
 unfold KV at r |-
 induction r with
 |nil=>exact .nil
 |@cons p q ps qs h t ih=>
  rw[zaq,zaq];refine .cons ?_ ih;obtain⟨h1,h2⟩:=h;by_cases e:p.1=k
  .rw[ybr e,ybr (h1.symm.trans e)];exact⟨h1,ry⟩
  .rw[ybq e,ybq (fun z=>e (h1.trans z))];exact⟨h1,h2⟩
theorem KV.put(r:KV kvs vs)(k:Y)(ry:RelV y u):KV (putK kvs k y) (stored vs k u):=by
 unfold putK stored;rw[r.any k];by_cases e:(vs.any fun kv=>decide (kv.1=k))=true
 .rw[ybr e,ybr e];exact r.Wg k ry
 .rw[ybq e,ybq e];exact Paired.snoc r ⟨rfl,ry⟩
theorem KV.length{vs:List (Y×zdj)}(r:KV kvs vs):kvs.length=vs.length:=yaj r
end
theorem xP(r:RelV (kV k) u):(bF P w).is k u=true:=by
 cases k with
 |inl i=>obtain⟨t,e⟩:=(show ∃t,u=ybd i t from r);subst e;exact GG P w i t
 |inr x=>obtain⟨t,e⟩:=(show ∃t,u=ya5 x t from r);subst e;exact GH P w x t
theorem zt:∀{ks:List Key}{us:List zdj},Vals (ks.map kV) us->ItemsAre (bF P w) ks us
 |[],_,r=>by rw[zbE] at r;cases r;exact .nil
 |k::ks,_,r=>by
  rw[zaq] at r;cases r with
  |cons h t=>exact .cons (xP h) (zt t)
abbrev KT (H:Hp):List (List Key×V)->List (List Key×zdi×zdj)->Prop:=yau fun p q=>p.1=q.1/\H q.2.1=some (.tup (p.1.map kV))/\RelV p.2 q.2.2
theorem KT.val(r:KT H kvs xs)(k:List Key):qM (bZ kvs k) ((atKey xs k).map (·.2)):=by
 induction r with
 |nil=>exact True.intro
 |@cons p q ps qs h t ih=>
  obtain⟨h1,_,h2⟩:=h;by_cases e:p.1=k
  .have e':q.1=k:=h1.symm.trans e;have b:atKey (q::qs) k=some q.2:=by simp[atKey,zb4,e']
   rw[cX e,b];exact h2
  .have e':¬q.1=k:=fun z=>e (h1.trans z);have b:atKey (q::qs) k=atKey qs k:=by simp[atKey,zb4,e']
   rw[cI e,b];exact ih
theorem KT.Wg(r:KT H kvs xs)(k:List Key)(ry:RelV y u) :
 KT H (kvs.map fun kv=>if kv.1=k then (kv.1,y) else kv) (xs.map (putAt k u)):=by
 induction r with
 |nil=>exact .nil
 |@cons p q ps qs h t ih=>
  rw[zaq,zaq];refine .cons ?_ ih;obtain⟨h1,h2,h3⟩:=h;unfold putAt;by_cases e:p.1=k
  .rw[ybr e,ybr (h1.symm.trans e)];exact⟨h1,h2,ry⟩
  .rw[ybq e,ybq (fun z=>e (h1.trans z))];exact⟨h1,h2,h3⟩
theorem KT.put(r:KT H kvs xs)(k:List Key)(hb:H b=some (.tup (k.map kV)))(ry:RelV y u) :
 KT H (putK kvs k y) (storedH xs k b u):=by
 have e:(kvs.any fun kv=>decide (kv.1=k))=(atKey xs k).isSome:=by
  rw[jM,(r.val k).nJ,zbT]
 unfold putK storedH;rw[e];by_cases q:(atKey xs k).isSome=true
 .rw[ybr q,ybr q];exact r.Wg k ry
 .rw[ybq q,ybq q];exact Paired.snoc r ⟨rfl,hb,ry⟩
theorem KT.keeps(r:KT H kvs xs)(ht:∀b ys,H b=some (.tup ys)->H' b=some (.tup ys)):KT H' kvs xs:=
 yau.MR r fun _ _ z=>⟨z.1,ht _ _ z.2.1,z.2.2⟩
section
variable{P:zdu}{w:zdk}{H:Hp}{h:yaf}{a:zdi}
theorem Uz(ok:sN P w H h)(e:Rd H a u):cE P w H h a u:=e.ok ok
theorem OU(ok:sN P w H h)(e:Rd H a (.dK kvs)):kvs.length<=zdq/\(a==yal)=false/\∃vs,KV kvs vs/\h.DictOf (bF P w) a vs:=
 show cE P w H h a (.dK kvs) from Uz ok e
theorem UA(ok:sN P w H h)(e:H a=some (.dK kvs)):kvs.length<=zdq/\(a==yal)=false/\∃vs,KV kvs vs/\h.DictOf (bF P w) a vs:=OU ok (.inl e)
theorem JI(ok:sN P w H h)(e:H a=some (.tup (ks.map kV))):(tupleKind (bF P w)).is h ks a:=by
 obtain⟨_,its,r,o,h1,h2,n,h3⟩:=(show cE P w H h a (.tup (ks.map kV)) from ok a _ e)
 exact⟨o,its.toArray,n,h1,h2,h3,by simpa using zt r⟩
theorem OV(ok:sN P w H h)(e:Rd H a (.dT kvs)):kvs.length<=zdq/\(a==yal)=false/\
 ∃xs,KT H kvs xs/\h.DictOfH (tupleKind (bF P w)) a xs:=by
 obtain⟨z,y,xs,r,o,es,ep,h1,h2,h3,h4,h5⟩:=(show cE P w H h a (.dT kvs) from Uz ok e)
 refine⟨z,y,xs,r,o,es,ep,h1,h2,h3,h4,fun x hx=>?_,h5⟩;have all:∀{l:List (List Key×V)} {m:List (List Key×zdi×zdj)},KT H l m->∀x∈m,(tupleKind (bF P w)).is h x.1 x.2.1:=by
  intro l m q
  induction q with
  |nil=>intro x hx;exact nomatch hx
  |@cons p q ps qs hq t ih=>
   intro x hx;rcases zan.mp hx with e |hx
   .subst e;exact JI ok (by rw[<- hq.1];exact hq.2.1)
   .exact ih x hx
 exact all r x hx
theorem Y8(ok:sN P w H h)(e:H a=some (.dT kvs)):kvs.length<=zdq/\(a==yal)=false/\
 ∃xs,KT H kvs xs/\h.DictOfH (tupleKind (bF P w)) a xs:=OV ok (.inl e)
end
def xQ (H:Hp)(a:zdi)(y:V)(r:Option V):Prop:=
 (∃kvs k,Rd H a (.dK kvs)/\y=kV k/\r=bZ kvs k)\/∃kvs k b,Rd H a (.dT kvs)/\y=.ref b/\H b=some (.tup (k.map kV))/\r=bZ kvs k
def JJ (H:Hp)(a:zdi)(y v:V)(H':Hp):Prop:=
 (∃kvs k,H a=some (.dK kvs)/\y=kV k/\kvs.length<zdq/\H'=upd H a (.dK (putK kvs k v)))\/
 ∃kvs k b,H a=some (.dT kvs)/\y=.ref b/\H b=some (.tup (k.map kV))/\kvs.length<zdq/\H'=upd H a (.dT (putK kvs k v))
theorem xQ.k{k:Key}(e:H a=some (.dK kvs)):xQ H a (kV k) (bZ kvs k):=.inl ⟨kvs,k,.inl e,rfl,rfl⟩
theorem JJ.k{k:Key}(e:H a=some (.dK kvs))(hl:kvs.length<zdq):JJ H a (kV k) v (upd H a (.dK (putK kvs k v))):=.inl ⟨kvs,k,e,rfl,hl,rfl⟩
section
variable{X:Cx}{pins:List (zdi×Obj)}{G:St}{H:Hp}{s:zds}{a:zdi}{y v:V}{u r:zdj}{o:Option V}{A:zdt}{E:zdj->zds->Prop}
theorem Inv.big(I:Inv X pins G H s):yal<s.heap.objs.size:=by
 have h:zdp<s.heap.objs.size:=(I.mod.glob.keeps I.bk).lt;exact zdc (by decide) h
theorem Nb(hu:A.units+1<cLine)(I:Inv X pins G H s)(g:xQ H a y (some v))(ry:RelV y u)(h:∀w' s',Inv X pins G H s'->RelV v w'->Q w' s') :
 yaa (model X.prog X.w) A (getItem (.ref a) u) Q E s:=by
 rcases g with ⟨kvs,k,e,ey,l⟩ |⟨kvs,k,b,e,ey,eb,l⟩
 .subst ey;obtain⟨z,hd,vs,rel,dd⟩:=OU I.dW e;obtain⟨w',hw,GO⟩:=qM.some_of (v:=v) (o:=valueAt vs k) (by rw[l];exact rel.val k);exact wpAny_getItem_of (xP ry) dd.mapOf hw (h w' _ (I.tok _) GO)
 .subst ey;cases (show u=yab b from ry);obtain⟨z,hd,xs,rel,dd⟩:=OV I.dW e;obtain⟨w',hw,GO⟩:=qM.some_of (v:=v) (o:=(atKey xs k).map (·.2)) (by rw[l];exact rel.val k);obtain⟨p,hp,qP⟩:=zaT.mp hw;refine wpAny_getItem_heap (tupleKind_room_in1 hu) (JI I.dW eb) dd hp ?_;rw[qP];exact h w' _ (I.tok _) GO
theorem vm(I:Inv X pins G H s)(mu:Yu (H a))(hs:yat a s.heap h')(he:∃q,h'.get? a=some q)(new:cE X.prog X.w (upd H a ob) h' a ob) :
 Inv X pins G (upd H a ob) {s with heap:=h',toks:=t' }:=
 I.write (x:=a) (e:=a) mu (.inl rfl) (fun b q hb z=>(hs.2 b hb).trans z) he new
theorem JK(z:kvs.length<=zdq)(hd:(a==yal)=false)(rel:KV kvs vs)(dd:h'.DictOf (bF P w) a vs) :
 cE P w H' h' a (.dK kvs):=⟨z,hd,vs,rel,dd⟩
theorem Nc(hu:A.units+1<cLine)(I:Inv X pins G H s)(g:JJ H a y v H')(ry:RelV y u)(rv:RelV v r)(h:∀s',Inv X pins G H' s'->Q () s') :
 yaa (model X.prog X.w) A (setItem (.ref a) u r) Q E s:=by
 rcases g with ⟨kvs,k,e,ey,l,eH⟩ |⟨kvs,k,b,e,ey,eb,l,eH⟩
 .subst ey eH;obtain⟨z,hd,vs,rel,dd⟩:=UA I.dW e;have hz:vs.length<=zdq:=by rw[<- rel.length];exact z
  have hl:(putK kvs k v).length<=zdq:=by have:=lE kvs k v;lia
  refine wpAny_setItem_pairs (hsz:=hz) (xP ry) dd fun h' XM hs=>h _ ?_;have he:∃q,h'.get? a=some q:=let ⟨q,_,_,hq,_⟩:=XM;⟨q,hq⟩;exact vm I (by rw[e];exact True.intro) hs he (JK hl hd (rel.put k rv) XM)
 .subst ey eH;cases (show u=yab b from ry);obtain⟨z,hd,xs,rel,dd⟩:=Y8 I.dW e;have hz:xs.length<=zdq:=by rw[<- yaj rel];exact z
  have hl:(putK kvs k v).length<=zdq:=by have:=lE kvs k v;lia
  refine wpAny_setItem_heap (hsz:=hz) (tupleKind_room_in1 hu) (JI I.dW eb) dd fun h' XM hs=>h _ ?_;obtain⟨q,es,ep,hq,h2,h3,h4,_,h5⟩:=XM;refine vm I (by rw[e];exact True.intro) hs ⟨q,hq⟩ ⟨hl,hd,_,(rel.put k eb rv).keeps fun c ys ec=>?_,q,es,ep,hq,h2,h3,h4,h5⟩;rw[aI (b5 ec e (fun z=>nomatch z))];exact ec
end
def S9 (i:Expr):Prop:=∀ov iv,subscripted i false ov iv=operate [ov,iv] (getItem ov iv)
theorem EL{T id:String}
 (hl:typeLookup (.type T) "__getitem__"=pure (some (.builtin id))) (hs:S9 slice)
 (h:yaa (model prog w) A (eval value env) (fun o s₁=>yaa (model prog w) A (eval slice env) (fun i s₂=>s₂.TypeIs o T/\yaa (model prog w) A (getItem o i) Q E s₂) E s₁) E s) :
 yaa (model prog w) A (eval (.Subscript value slice pos) env) Q E s:=by
 refine Subscript_ (yav h (fun o s₁ h₁=>yav h₁ (fun i s₂ h₂=>?_) fun _ _ x=>x) fun _ _ x=>x);obtain⟨hT,h₂⟩:=h₂;unfold subscriptTail;refine zdl ?_;rw[getitemInPython_of_ne hT.not_modules];refine zdl (yaZ hT hl ?_);have fin:yaa (model prog w) A (subscripted slice false o i) (fun r s₃=>yaa (model prog w) A (letTemporaryGo value o r >>= fun _=>pure r) Q E s₃) E s₂:=by
  rw[hs o i];exact wpAny_operating (yav h₂ (fun r s₃ h₃=>zdl (wpAny_letTemporaryGo (zdm h₃))) fun _ _ x=>x)
 first
  |exact zdm (zdl fin)
  |exact zdl (zdm (zdl fin))
  |exact zdl fin
theorem GR{G:St}(I:Inv X pins G H s)(g:xQ H a y o):s.TypeIs (.ref a) "dict":=by
 rcases g with ⟨kvs,k,e,_,_⟩ |⟨kvs,k,b,e,_,_,_⟩
 .obtain⟨_,_,vs,_,dd⟩:=OU I.dW e;exact dd.typeIs
 .obtain⟨_,_,xs,_,dd⟩:=OV I.dW e;exact dd.typeIs
def UC (td ty:TE):TE:=fun G H Q=>td G H fun x H1=>ty G H1 fun y H2=>∃a v,x=.ref a/\xQ H2 a y (some v)/\Q v H2
def UD (td ty tv:TE):TS:=fun D G H=>tv G H fun v H1=>td G H1 fun x H2=>ty G H2 fun y H3=>∃a H4,x=.ref a/\JJ H3 a y v H4/\D.nx G H4
section
variable{X:Cx}{o i e value:Expr}{pos pos' acF:Pos}{td ty tv:TE}
theorem iV(hu:X.A.units+1<cLine)(ho:PE X o td)(hi:PE X i ty)(hs:S9 i):PE X (.Subscript o i pos) (UC td ty):=by
 intro pins s G H Q I h;refine EL PySem.F.slot_dict_getitem.lookup hs (ib (ho pins s G H _ I h) fun u s1 zqz=>?_);obtain⟨x,H1,I1,rx,q1⟩:=zqz;refine ib (hi pins s1 G H1 _ I1 q1) fun iv s2 zqz=>?_;obtain⟨y,H2,I2,ry,a,v,ex,g,q2⟩:=zqz;subst ex;obtain rfl:u=yab a:=rx;exact⟨GR I2 g,Nb hu I2 g ry fun w' s3 I3 GO=>⟨v,H2,I3,GO,q2⟩⟩
theorem xR(hu:X.A.units+1<cLine)(ho:PE X o td)(hi:PE X i ty)(hv:PE X value tv)(hs:swapsWith value (some (.Subscript o i pos')) pos.line X.env=pure false) :
 PS X (.Assign [.Subscript o i pos'] value pos) (UD td ty tv):=by
 intro pins s G H D I h;refine wpAny_Assign_Subscript (ib (hv pins s G H _ I h) fun r s1 zqz=>?_) hs;obtain⟨v,H1,I1,rv,q1⟩:=zqz;refine ib (ho pins s1 G H1 _ I1 q1) fun u s2 zqz=>?_;obtain⟨x,H2,I2,rx,q2⟩:=zqz;refine ib (hi pins s2 G H2 _ I2 q2) fun iv s3 zqz=>?_;obtain⟨y,H3,I3,ry,a,H4,ex,g,q3⟩:=zqz;subst ex;obtain rfl:u=yab a:=rx;exact Nc hu I3 g ry rv fun s4 I4=>⟨G,H4,I4,q3⟩
end
theorem OW(h:yaf)(hb:yal<h.objs.size):cE P w H (h.push {cls:=.type "dict",data:=.dict #[]}) h.objs.size (.dK []):=
 ⟨zaG _,beq_eq_false_iff_ne.mpr (Ne.symm (zay hb)),[],.nil,Heap.DictOf.new h⟩
def OX:TE:=fun _ H Q=>∀p,H p=none->Q (.ref p) (upd H p (.dK []))
section
variable{X:Cx}{pos:Pos}
theorem OY:PE X (.Dict [] [] pos) OX:=fun pins s G H Q I h=>
 wpAny_Dict_empty ⟨.ref s.heap.objs.size,_,I.laid (a:=s.heap.objs.size) (o:=.dK []) (t':=s.toks) (fun _ _ q=>yac _ q) (zah _) (OW s.heap I.big),rfl,h _ (I.dW.fresh (zah _))⟩
end
def qQ (kvs more:List (Key×V)):List (Key×V):=more.foldl (fun acc kv=>putK acc kv.1 kv.2) kvs
theorem KV.merge:∀{more:List (Key×V)}{rs:List (Key×zdj)}{kvs:List (Key×V)}{vs:List (Key×zdj)},KV more rs->KV kvs vs->KV (qQ kvs more) (merged vs rs):=by
 intro more rs kvs vs r;unfold KV at r
 induction r generalizing kvs vs with
 |nil=>intro q;exact q
 |@cons p q ps qs h t ih=>
  intro r0;have e:KV (putK kvs p.1 p.2) (stored vs q.1 q.2):=by
   have:=r0.put p.1 h.2;rw[<- h.1];exact this
  exact ih e
theorem pS:∀(more kvs:List (Key×V)),(qQ kvs more).length<=kvs.length+more.length
 |[],kvs=>by show kvs.length<=kvs.length+0;lia
 |p::r,kvs=>by
  have h1:=pS r (putK kvs p.1 p.2);have h2:=lE kvs p.1 p.2;show (qQ (putK kvs p.1 p.2) r).length<=_;rw[zal];lia
noncomputable def zu (env:Env):List (Str×NameKind)->List (Str×zdi)->List (Str×zdi)
 |[],cs=>cs
 |(n,k)::r,cs=>zu env r (if k==.free then (n,(env.cells.lookup n).getD 0)::cs else cs)
theorem AN(h:∀p∈scope.names,p.2=.free->∃c,env.cells.lookup p.1=some c):closureFor scope env=pure (zu env scope.names []):=by
 have all:∀(l:List (Str×NameKind)) (cs:List (Str×zdi)),(∀p∈l,p.2=.free->∃c,env.cells.lookup p.1=some c)->
  (forIn l cs fun (x:Str×NameKind) (r:List (Str×zdi))=>if (x.2==yaA)=true then do let a <- cellOf env x.1;pure (ForInStep.yield ((x.1,a)::r)) else (pure (ForInStep.yield r):Sem _))=pure (zu env l cs):=by
  intro l
  induction l with
  |nil=>intro cs _;rfl
  |cons p r ih=>
   intro cs hp;obtain⟨n,k⟩:=p;rw[zaM];by_cases hk:k=.free
   .subst hk;obtain⟨c,e⟩:=hp (n,.free) zaw rfl;have e1:cellOf env n=pure c:=by unfold cellOf;rw[e]
    simp only[beq_self_eq_true,if_true,e1,pure_bind];rw[ih _ fun p XN=>hp p (zao _ XN)];simp[zu,e]
   .have hb:(k==yaA)=false:=by simpa using hk
    simp only[hb,zav,if_false,pure_bind];rw[ih _ fun p XN=>hp p (zao _ XN)];simp[zu,hb]
 simp only[closureFor];rw[all scope.names [] h];simp
theorem xS:∀{l:List (Str×NameKind)}{cs:List (Str×zdi)},(∀p∈l,p.2=.free->∃c,env.cells.lookup p.1=some c)->(∀x c,cs.lookup x=some c->env.cells.lookup x=some c)->
 (zu env l cs).lookup x=some c->env.cells.lookup x=some c
 |[],_,_,h,e=>h x c e
 |(n,k)::r,cs,hp,h,e=>by
  unfold zu at e;refine xS (fun p q=>hp p (zao _ q)) ?_ e;intro y d q;by_cases hk:k=.free
  .subst hk;obtain⟨c',e'⟩:=hp (n,.free) zaw rfl;simp only[beq_self_eq_true,if_true] at q;rw[zbu] at q;cases hy:y==n with
   |true=>
    rw[hy] at q;have:y=n:=by simpa using hy
    subst this;simp only at e';rw[e'] at q |-;exact q
   |false=>rw[hy] at q;exact h y d q
  .have hb:(k==yaA)=false:=by simpa using hk
   simp only[hb,zav,if_false] at q;exact h y d q
theorem Bm:∀{l:List (Str×NameKind)}{cs:List (Str×zdi)},((∃c,cs.lookup x=some c)\/(x,yaA)∈l)->∃c,(zu env l cs).lookup x=some c
 |[],_,h=>by
  rcases h with h |h
  .exact h
  .exact ybw h (by simp)
 |(n,k)::r,cs,h=>by
  unfold zu
  apply Bm
  rcases h with ⟨c,h⟩ |h
  .left
   by_cases hk:k=.free
   .subst hk;simp only[beq_self_eq_true,if_true];rw[zbu];cases hy:x==n with
    |true=>exact⟨_,rfl⟩
    |false=>exact⟨c,h⟩
   .have hb:(k==yaA)=false:=by simpa using hk
    simp only[hb,zav,if_false];exact⟨c,h⟩
  .rcases zan.mp h with e |h
   .injection e with e1 e2
    subst e1;subst e2
    left
    simp only[beq_self_eq_true,if_true];rw[zbu];simp
   .exact .inr h
theorem tQ:(relabel scope env).names.lookup x=(scope.names.lookup x).map fun k=>if (k==yaA&&env.scope.kind==.function&&env.kindOf x==some .cell)=true then .cell else k:=by
 unfold relabel;show zbV x (scope.names.map _)=_;generalize scope.names=l
 induction l with
 |nil=>rfl
 |cons p r ih=>
  obtain⟨n,k⟩:=p;rw[zaq,zbu (as:=r)];show zbV x ((if (k==yaA&&env.scope.kind==.function&&env.kindOf n==some .cell)=true then (n,NameKind.cell) else (n,k))::_)=_;cases hx:x==n with
  |true=>
   have e:x=n:=by simpa using hx
   subst e;by_cases hc:(k==yaA&&env.scope.kind==.function&&env.kindOf x==some .cell)=true
   .rw[ybr hc];simp only[zbu,beq_self_eq_true,zbx];rw[ybr hc]
   .rw[ybq hc];simp only[zbu,beq_self_eq_true,zbx];rw[ybq hc]
  |false=>
   by_cases hc:(k==yaA&&env.scope.kind==.function&&env.kindOf n==some .cell)=true
   .rw[ybr hc];simp only[zbu,hx];exact ih
   .rw[ybq hc];simp only[zbu,hx];exact ih
theorem mem_of_lookup:∀{l:List (Str×NameKind)},l.lookup x=some k->(x,k)∈l
 |[],h=>by simp at h
 |(n,j)::r,h=>by
  rw[zbu] at h;cases hx:x==n with
  |true=>
   rw[hx] at h;have e:x=n:=by simpa using hx
   cases h;subst e;exact zaw
  |false=>rw[hx] at h;exact zao _ (mem_of_lookup h)
noncomputable def kN (sc out:Scope):Bool:=
 (sc.names.all fun p=>p.2 != .cell&&(p.2 != .free ||out.names.lookup p.1==some .cell ||out.names.lookup p.1==some .free)&&(p.2 != .local ||sc.names.lookup p.1==some .local))&&decide (sc.kind=.function)
noncomputable def xT (sc out:Scope)(N:List Str)(ix:List Nat):Bool:=
 ix.all fun i=>sc.names.lookup (N.getD i "")==some .free&&(out.names.lookup (N.getD i "")==some .cell ||out.names.lookup (N.getD i "")==some .free)
noncomputable def OZ (G:St)(ix:List Nat):St:=ix.map fun i=>G.getD i none
noncomputable abbrev Lr (N:List Str) (ix:List Nat):List Str:=ix.map fun i=>N.getD i ""
def lF (X:Cx)(scope:Scope)(own:List Str)(ix:List Nat)(C:zdi)(s₀:zds)(H₀:Hp)(ex:List zdi):Cx where
 prog:=X.prog
 w:=X.w
 K:=X.K
 mg:=X.mg
 base:=X.base
 A:=X.A
 N:=own++Lr X.N ix
 s₀:=s₀
 H₀:=H₀
 env:=compEnvC scope (zu X.env scope.names []) C X.env
 outer:=X.stack
 stack:=X.stack
 ex:=ex
 fn:=fun _=>false
 calm:=X.calm
 pn:=[]
 xe:=fun _ _=>False
section
variable{X:Cx}{pins:List (zdi×Obj)}{G:St}{H:Hp}{s:zds}
theorem tR(h:kN sc out=true):∀p∈sc.names,p.2≠.cell/\(p.2=.free->out.names.lookup p.1=some .cell\/out.names.lookup p.1=some .free)/\(p.2=.local->sc.names.lookup p.1=some .local):=by
 intro p hp;unfold kN at h;rw[za9] at h;have:=zbY.mp h.1 p hp;simp only[za9,Bool.or_eq_true,bne_iff_ne,beq_iff_eq,ne_eq] at this;obtain⟨⟨h1,h2⟩,h3⟩:=this;refine⟨h1,fun e=>?_,fun e=>?_⟩
 .rcases h2 with (h2 |h2) |h2
  .exact ybw e h2
  .exact .inl h2
  .exact .inr h2
 .rcases h3 with h3 |h3
  .exact ybw e h3
  .exact h3
theorem qR(h:kN sc out=true):sc.kind=.function:=by
 unfold kN at h;rw[za9] at h;exact ybu h.2
theorem Ta(I:Inv X pins G H s)(hf:kN scope X.env.scope=true)(hx:∀b∈ex,xJ X pins H b/\b<s.heap.objs.size):(lF X scope own ix s.heap.objs.size s H ex).Ok:=by
 have fits:=(tR hf)
 have xH:∀p∈scope.names,p.2=.free->∃c,X.env.cells.lookup p.1=some c:=fun p hp e=>I.ok.has p.1 ((fits p hp).2.1 e);have sub:∀{x:Str} {c:zdi},(zu X.env scope.names []).lookup x=some c->X.env.cells.lookup x=some c:=fun {x c} e=>xS xH (fun x c e=>by simp at e) e;refine⟨I.ok.mod,(show scope.kind=.function from qR hf),I.ok.glob,I.ok.blt,zah _,fun x y c a b=>I.ok.inj x y c (sub a) (sub b),fun x hk=>?_,fun x c e=>(by cases e),I.ok.hd,I.ok.frames,.inl rfl,fun b hb=>⟨zay (hx b hb).2,fun x c e=>(hx b hb).1.2.2.2.2.1 x c (sub e)⟩,I.bs,zaz I.ok.SK I.sz,fun b o e hb=>?_,fun b hb hs=>?_,I.stack,I.K1⟩
 .refine Bm (.inr ?_);have XO:(relabel scope X.env).names.lookup x=some .cell\/(relabel scope X.env).names.lookup x=some .free:=hk;rw[tQ] at XO;cases q:scope.names.lookup x with
  |none=>rw[q] at XO;rcases XO with z |z<;>cases z
  |some k=>
   have hm:=mem_of_lookup q;by_cases hkf:k=.free
   .subst hkf;exact hm
   .rw[q] at XO;have hb:(k==yaA)=false:=by simpa using hkf
    simp only[zbx,hb,zcz,zav,if_false,za1.injEq] at XO;rcases XO with z |z
    .exact ybw z (fits _ hm).1
    .exact ybw z hkf
 .rcases(hx b hb).1.2.2.2.1 with z |z
  .exact I.ok.Ot b o e z
  .exact ybw (zaE (yad e) (zaz I.ok.SK z)) (zbv _)
 .rcases zan.mp (I.Ez b hs) with z |z
  .exact(hx b hb).1.2.1 z
  .exact(hx b hb).1.2.2.1 z
theorem O1(I:Inv X pins G H s)(hf:kN scope X.env.scope=true)(hc:xT scope X.env.scope X.N ix=true)(hx:∀b∈ex,xJ X pins H b/\b<s.heap.objs.size)
 (hn:h'.Ns s.heap.objs.size fun _=>none) (hk:∀b o,s.heap.get? b=some o->h'.get? b=some o):Inv (lF X scope own ix s.heap.objs.size s H ex) [] (zcA own.length none++OZ G ix) H {s with heap:=h',toks:=tk}:=by
 have fits:=(tR hf)
 have xH:∀p∈scope.names,p.2=.free->∃c,X.env.cells.lookup p.1=some c:=fun p hp e=>I.ok.has p.1 ((fits p hp).2.1 e);have sub:∀{x:Str} {c:zdi},(zu X.env scope.names []).lookup x=some c->X.env.cells.lookup x=some c:=fun {x c} e=>xS xH (fun x c e=>by simp at e) e;refine⟨Ta I hf hx,rfl,I.bare,Un.kept hk,⟨_,hn,fun i x v e1 e2 e3=>?_⟩,fun x c e=>?_,I.dW.fresh (zah _),fun x c e=>I.tL x c (sub e),fun p hp=>ybw (show p∈([]:List (zdi×Obj))++[] from hp) (by simp),I.dW.kept hk,?_⟩
 .have e1:(own++Lr X.N ix)[i]?=some x:=e1;by_cases hi:i<own.length
  .rw[zbb (by simpa using hi),zcR,ybr hi] at e2;cases e2
  .have hi':own.length<=i:=Nat.le_of_not_lt hi;rw[za2 (by simpa using hi'),zc2] at e2;rw[za2 hi'] at e1;unfold OZ at e2;unfold Lr at e1;rw[zaf] at e1 e2;cases q:ix[i-own.length]? with
   |none=>rw[q] at e2;cases e2
   |some j=>
    rw[q] at e1 e2;simp only[zbx,za1.injEq] at e1 e2;have hj:j∈ix:=zaC q;have fit:=zbY.mp hc j hj;simp only[za9,Bool.or_eq_true,beq_iff_eq] at fit;rw[e1] at fit;have ej:G[j]?=some (some v):=by
     rw[zap] at e2;cases r:G[j]? with
     |none=>rw[r] at e2;cases e2
     |some z=>rw[r] at e2;simp only[zcq] at e2;rw[e2]
    have hjl:j<X.N.length:=by rw[<- I.len];exact(zaj.mp ej).1
    have en:X.N[j]?=some x:=by
     rw[zap] at e1;rw[zac hjl] at e1 |-;simp only[zcq] at e1;rw[e1]
    obtain⟨m,hm,hl⟩:=I.loc;have hv:Ut X.env.scope x:=by
     rcases fit.2 with z |z
     .exact .inr (.inl z)
     .exact .inr (.inr z)
    obtain⟨u,r,l⟩:=hl j x v en ej hv;refine⟨u,r,.inr ⟨?_,?_⟩⟩
    .show (relabel scope X.env).names.lookup x=some .cell\/(relabel scope X.env).names.lookup x=some .free;rw[tQ,fit.1];simp only[zbx];split
     .exact .inl rfl
     .exact .inr rfl
    .rcases l with ⟨k1,_⟩ |⟨_,c,ec,K4⟩
     .have k1:X.env.scope.names.lookup x=some .local:=k1;rcases fit.2 with z |z<;>(rw[z] at k1;cases k1)
     .obtain⟨c',e'⟩:∃c,(zu X.env scope.names []).lookup x=some c:=Bm (.inr (mem_of_lookup fit.1));have:=sub e';rw[ec] at this;cases this;exact⟨c,e',K4.keeps hk⟩
 .obtain⟨v,z⟩:=I.cell x c (sub e);exact⟨v,z.keeps hk⟩
 .show (zcA own.length none++OZ G ix).length=(own++Lr X.N ix).length;simp[OZ]
theorem comp_back{τ:St}(I:Inv X pins G H s)(hx:∀b∈ex,xJ X pins H b/\b<s.heap.objs.size)
 (I':Inv (lF X scope own ix s.heap.objs.size s H ex) K3 τ H' s'):Inv X pins G H' s'/\H' s.heap.objs.size=none/\s.heap.objs.size≠X.env.locals/\X.s₀.heap.objs.size<=s.heap.objs.size/\(∀x c,X.env.cells.lookup x=some c->c≠s.heap.objs.size)/\∀p∈X.pn++pins,p.1≠s.heap.objs.size:=by
 refine⟨I.YE (ch:=ex) I'.os I'.base I'.dW I'.bare fun b hb=>?_,I'.free,zbm I.lt,I.sz,fun x c e z=>?_,fun p hp z=>?_⟩
 .obtain⟨f0,f1,f2,f3,f4,f5⟩:=(hx b hb).1;exact⟨f3,f1,f4,f5⟩
 .obtain⟨v,q⟩:=I.cell x c e;exact ybw q.lt (by rw[z];exact zbv _)
 .exact ybw (yad (I.pin p hp).1) (by rw[z];exact zbv _)
end
def XQ (X:Cx)(ifs:List Expr)(t:TT):Prop:=
 ∀(pins:List (zdi×Obj)) (s:zds) (G:St) (H:Hp) (Q:Bool->Hp->Prop),Inv X pins G H s->t G H Q->
  yaa (model X.prog X.w) X.A (forIn ifs true fun c r=>if r=true then do let ok <- isTrue c X.env (eval c X.env);pure (ForInStep.yield ok) else pure (ForInStep.yield r)) (TP X pins G Q) X.xe s
def me:TT:=fun _ H Q=>Q true H
theorem ei{X:Cx}:XQ X [] me:=fun _ _ _ H _ I h=>wpAny_tests_nil ⟨H,I,h⟩
theorem Tb(h:PT X c t):XQ X [c] t:=fun pins s G H Q I q=>wpAny_tests_one (h pins s G H Q I q)
def jf (J:It)(D:zdi)(g:TG)(tc:TT)(te:TE)(Q:VK) (τ:St)(H:Hp):Prop:=∃W:Nat->Nat->St->Hp->Prop,(∃m,W 0 m τ H)/\∀i m τ H,W i m τ H->
 (J.stop i H/\Q (.ref D) H)\/(J.go i H/\∃N:St->Hp->Prop,(∀τ' H',N τ' H'->∃m',m'<m/\W (i+1) m' τ' H')/\∀x H',J.Gd i H x H'->g x τ H' fun τ2 H2=>tc τ2 H2 fun b H3=>if b=true then
  te τ2 H3 fun y H4=>∃ys,H4 D=some (.lst ys)/\ys.length<zdq/\N τ2 (upd H4 D (.lst (ys++[y]))) else N τ2 H3)
def cJ (wi:TI)(k:Nat)(ix:List Nat)(g:TG)(tc:TT)(te:TE):TE:=fun G H Q=>wi G H fun J H1=>∀D,H1 D=none->jf J D g tc te Q (zcA k none++OZ G ix) (upd H1 D (.lst []))
section
variable{X:Cx}{tg iter elt:Expr}{ifs:List Expr}{scope:Scope}{pos:Pos}{own:List Str}{ix:List Nat}{wi:TI}{g:TG}{tc:TT}{te:TE}
theorem Nd{τ:St}(v8:X.calm=true)(hxe:X.xe=fun _ _=>False)(hpn:X.pn=[])(T:Turn X.prog X.w X.K tg J fp it tn)
 (he:PE X elt te) (hg:PG X tg g) (ht:XQ X ifs tc) (I:Inv X [] τ H s) (hfp:∀b∈fp,xJ X [] H b) (h0:tn 0 s.heap) (hW:jf J D g tc te Q τ H)
 (hR:∀τ' H' s',Inv X [] τ' H' s'->Q (.ref D) H'->R (.ok .next) s') :
 codeAny (model X.prog X.w) X.A (.compLoop (.ListComp elt [⟨tg,iter,ifs,0⟩] scope pos) 0 (.ref it) (.ref D) X.env) R s:=by
 obtain⟨W,⟨m0,w0⟩,turn⟩:=hW;have no:∀{E:zdj->zds->Prop} (e:zdj) (s':zds),X.xe e s'->E e s':=fun e s' z=>by rw[hxe] at z;exact z.elim
 have stat:∀{H':Hp},(∀b∈fp,H' b=none)->∀b∈fp,xJ X [] H' b:=fun hn b hb=>⟨hn b hb,(hfp b hb).2⟩
 refine codeAny_loop rfl (fun n s'=>∃i τ' H',Inv X [] τ' H' s'/\tn i s'.heap/\(∀b∈fp,H' b=none)/\W i n τ' H') (fun n s3 hI=>?_) m0 ⟨0,τ,H,I,h0,fun b hb=>(hfp b hb).1,w0⟩;obtain⟨i,τ3,H3,I3,Uu,YI,w3⟩:=hI;show yaa _ X.A ((compTurn (.ListComp elt [⟨tg,iter,ifs,0⟩] scope pos) 0 (.ref it) (.ref D) X.env).onRaise (fun x=>do noteFrame x X.env;theTreesLotGoes x)) _ _ s3;refine wpAny_noted ?_;rw[compTurn_list];refine zdl (wpAny_standAt (zdl ?_));rcases turn i n τ3 H3 w3 with ⟨stop,q⟩ |⟨go,N,hN,step⟩
 .refine yav (T.done X rfl rfl rfl v8 i [] s3 τ3 H3 X.xe I3 (stat YI) Uu stop) (fun r s4 zqz=>?_) no;obtain⟨hr,I4⟩:=zqz;subst hr;exact zdm (hR τ3 H3 s4 I4 q)
 .refine yav (T.item X rfl rfl rfl v8 i [] s3 τ3 H3 X.xe I3 (stat YI) Uu go) (fun r s4 zqz=>?_) no;obtain⟨u,hr,h4⟩:=zqz;subst hr;refine zdl (yav h4 (fun _ s5 zqz=>?_) no);obtain⟨x,H5,I5,r5,y5,VS,fr5⟩:=zqz;have I5':=I5.pinned (stat fr5) (T.obj _ _ VS);refine zdl (yav (hg _ s5 τ3 H5 x u _ I5' r5 (step x H5 y5)) (fun _ s6 zqz=>?_) no);obtain⟨τ6,H6,I6,q6⟩:=zqz;refine zdl (yav (ht _ s6 τ6 H6 _ I6 q6) (fun b s7 zqz=>?_) no);obtain⟨H7,I7,q7⟩:=zqz;have again:∀{τ7:St} {H7:Hp} {s7:zds},Inv X ([]++Bf fp s5.heap) τ7 H7 s7->N τ7 H7->∃m,m<n/\∃i G' H',Inv X [] G' H' s7/\tn i s7.heap/\(∀b∈fp,H' b=none)/\W i m G' H':=fun {τ7 H7 s7} I7 n7=>by
   obtain⟨m',hm,w7⟩:=hN τ7 H7 n7;refine⟨m',hm,i+1,τ7,H7,I7.xK,T.keep _ _ _ VS fun b hb o e=>(I7.pin (b,o) (zaK _ (zaK _ (qO hb e)))).1,fun b hb=>?_,w7⟩;obtain⟨o,e,d⟩:=T.obj _ _ VS b hb;exact(I7.pin (b,o) (zaK _ (zaK _ (qO hb e)))).2.1
  cases b with
  |false=>exact zdm ⟨rfl,again I7 q7⟩
  |true=>
   refine zdl (zdl (yav (he _ s7 τ6 H7 _ I7 q7) (fun v s8 ⟨y,H8,I8,r8,ys,hD,hl,q8⟩=>zdl ?_) no));refine yav (fG _ s8 τ6 H8 (.ref D) [y] (.ref D) [v] (fun _ H'=>N τ6 H') I8 rfl (.cons r8 .nil) ⟨D,ys,y,rfl,rfl,hD,hl,q8⟩) (fun _ s9 zqz=>?_) no;obtain⟨_,H9,I9,_,q9⟩:=zqz;exact zdm (zdm ⟨rfl,again I9 q9⟩)
theorem GS{G:St}(v8:X.calm=true)(hf:kN scope X.env.scope=true)(hc:xT scope X.env.scope X.N ix=true)
 (hi:PI X tg iter wi) (hg:∀C s₀ H₀ ex,PG (lF X scope own ix C s₀ H₀ ex) tg g) (ht:∀C s₀ H₀ ex,XQ (lF X scope own ix C s₀ H₀ ex) ifs tc) (he:∀C s₀ H₀ ex,PE (lF X scope own ix C s₀ H₀ ex) elt te)
 (I:Inv X pins G H s) (h:cJ wi own.length ix g tc te G H Q)
 (hU:∀(D C:zdi) (H':Hp) (s':zds) (m:Str->Option zdj),Inv X pins G H' s'->Q (.ref D) H'->s'.heap.Ns C m->H' C=none->C≠X.env.locals->X.s₀.heap.objs.size<=C->(∀x c,X.env.cells.lookup x=some c->c≠C)->(∀p∈X.pn++pins,p.1≠C)->compPost (model X.prog X.w) X.A X.xe use Q' (.ref D) C (.ok .next) s')
 (hs:∀x,foldedSetIterable iter X.env x=pure x) :
 yaa (model X.prog X.w) X.A (comprehension (.ListComp elt [⟨tg,iter,ifs,0⟩] scope pos) scope X.env (firstIterPos [⟨tg,iter,ifs,0⟩] pos) (newList []) false (eval iter X.env) use) Q' X.xe s:=by
 have fits:=(tR hf)
 have xH:∀p∈scope.names,p.2=.free->∃c,X.env.cells.lookup p.1=some c:=fun p hp e=>I.ok.has p.1 ((fits p hp).2.1 e);refine wpAny_comprehension_free (use:=use) rfl hs (AN xH) (qR hf) (fun x hx=>(fits x hx).2.2) ?_;refine ib (hi pins s G H _ I h) fun v s1 h1=>ib h1 fun itv s2 h2=>?_;obtain⟨it,fp,tn,J,H2,e,I2,T,xE,f2,hW⟩:=h2;subst e;refine yaq (hd:=by size_fits) ?_;have hD:H2 s2.heap.objs.size=none:=I2.dW.fresh (zah _);have I3:Inv X pins G (upd H2 s2.heap.objs.size (.lst [])) {s2 with heap:=s2.heap.push {cls:=.type "list",dict:=none,data:=.seq ([]:List zdj).toArray} }:=
  I2.laid (t':=s2.toks) (fun b u e=>yac _ e) (zah _) ⟨zaG _,[],0,.nil,yae _ rfl⟩
 have W3:=hW s2.heap.objs.size hD;have lt3:∀b∈fp,b<s2.heap.objs.size:=fun b hb=>let ⟨o,e,_⟩:=T.obj _ _ xE b hb;yad e;have Y9:∀b∈fp,xJ X pins (upd H2 s2.heap.objs.size (.lst [])) b/\b<(s2.heap.push {cls:=.type "list",dict:=none,data:=.seq ([]:List zdj).toArray}).objs.size:=fun b hb=>
  ⟨⟨by rw[aI (zay (lt3 b hb))];exact(f2 b hb).1,(f2 b hb).2⟩,by rw[yaC];exact Nat.lt_succ_of_lt (lt3 b hb)⟩
 have Uu:tn 0 (s2.heap.push {cls:=.type "list",dict:=none,data:=.seq ([]:List zdj).toArray}):=T.keep _ _ _ xE fun b _ o e=>yac _ e;generalize hs3:({s2 with heap:=s2.heap.push {cls:=.type "list",dict:=none,data:=.seq ([]:List zdj).toArray} }:zds)=s3 at I3;generalize hH3:upd H2 s2.heap.objs.size (.lst [])=H3 at I3 W3 Y9;have eh:s2.heap.push {cls:=.type "list",dict:=none,data:=.seq ([]:List zdj).toArray}=s3.heap:=by rw[<- hs3]
 rw[eh] at Y9 Uu;refine wpAny_newFunctionEnv (fun x hx=>(fits x hx).1) (by intro y hy;simp at hy) (fun h4 hns hsb=>?_) (qR hf);have kept:∀b o,s3.heap.get? b=some o->h4.get? b=some o:=fun b o e=>hsb.extBut b o (zay (yad e)) (yac _ e);have I4:=O1 (own:=own) (tk:=s3.toks+([]:List (Str×zdj)).length) I3 hf hc Y9 hns kept;have fp4:∀b∈fp,xJ (lF X scope own ix s3.heap.objs.size s3 H3 fp) [] H3 b:=fun b hb=>by
  obtain⟨⟨f0,f1,f2',f3,f4,f5⟩,lt⟩:=Y9 b hb;refine⟨f0,zay lt,fun z=>?_,.inl hb,fun x c e=>f4 x c (xS xH (fun x c e=>by simp at e) e),fun p hp=>ybw (show p∈([]:List (zdi×Obj))++[] from hp) (by simp)⟩;rcases zan.mp (I3.Ez b z) with z |z
  .exact f1 z
  .exact f2' z
 have st4:tn 0 h4:=T.keep _ _ _ Uu fun b _ o e=>kept b o e;have loop:=Nd (X:=lF X scope own ix s3.heap.objs.size s3 H3 fp) (iter:=iter) (scope:=scope) (pos:=pos) (R:=compPost (model X.prog X.w) X.A X.xe use Q' (.ref s2.heap.objs.size) s3.heap.objs.size) v8 rfl rfl T (he _ _ _ _) (hg _ _ _ _) (ht _ _ _ _) I4 fp4 st4 W3
  (fun τ' H' s' I' q=>by
   obtain⟨J1,J2,J3,J4,J5,J6⟩:=comp_back I3 Y9 I';obtain⟨m,hm,_⟩:=I'.loc;exact hU _ _ H' s' m J1 q hm J2 J3 J4 J5 J6)
 exact codeAny_compStart_list loop (T.self X.A 0 _ _ _ st4 loop)
theorem jN(v8:X.calm=true)(hf:kN scope X.env.scope=true)(hc:xT scope X.env.scope X.N ix=true)
 (hi:PI X tg iter wi) (hg:∀C s₀ H₀ ex,PG (lF X scope own ix C s₀ H₀ ex) tg g) (ht:∀C s₀ H₀ ex,XQ (lF X scope own ix C s₀ H₀ ex) ifs tc) (he:∀C s₀ H₀ ex,PE (lF X scope own ix C s₀ H₀ ex) elt te)
 (hs:∀x,foldedSetIterable iter X.env x=pure x:=by intro _;rfl):PE X (.ListComp elt [⟨tg,iter,ifs,0⟩] scope pos) (cJ wi own.length ix g tc te):=by
 intro pins s G H Q I h;rw[eval_ListComp];refine GS (use:=none) v8 hf hc hi hg ht he I h (fun D C H' s' m I' q hm n1 n2 n3 n4 n5=>?_) hs;refine⟨m,hm,fun h' sb=>⟨.ref D,H',?_,rfl,q⟩⟩;exact I'.turned (t':=s'.toks) (it:=C) (fun b o hb e=>sb.extBut b o hb e) n1 (Ne.symm (Ne.symm n2)) (.inr n3) n4 n5
theorem mI{i:Nat}{y:Str}{py Za:Pos}(hN:X.N.Nodup)(hiy:X.N[i]?=some y)(hy:Loc X.env.scope y)(v8:X.calm=true)(hf:kN scope X.env.scope=true)(hc:xT scope X.env.scope X.N ix=true)
 (hi:PI X tg iter wi) (hg:∀C s₀ H₀ ex,PG (lF X scope own ix C s₀ H₀ ex) tg g) (ht:∀C s₀ H₀ ex,XQ (lF X scope own ix C s₀ H₀ ex) ifs tc) (he:∀C s₀ H₀ ex,PE (lF X scope own ix C s₀ H₀ ex) elt te)
 (hsw:swapsWith (.ListComp elt [⟨tg,iter,ifs,0⟩] scope pos) (some (.Name y py)) Za.line X.env=pure true:=by rfl)
 (hs:∀x,foldedSetIterable iter X.env x=pure x:=by intro _;rfl) (YD:X.fn y=true\/X.env.scope.names.lookup y=some .local:=by first |exact .inl rfl |exact .inr rfl |assumption) :
 PS X (.Assign [.Name y py] (.ListComp elt [⟨tg,iter,ifs,0⟩] scope pos) Za) (MU (cJ wi own.length ix g tc te) (cF i)):=by
 intro pins s G H D I h;rw[exec_Assign_Name_used _ _ _ _ hsw];refine zdl (wpAny_standAt (zdl ?_));show yaa _ _ (do let _ <- comprehension (.ListComp elt [⟨tg,iter,ifs,0⟩] scope pos) scope X.env _ (newList []) false (eval iter X.env) (some (assign (.Name y py) X.env))) _ _ s;refine zdl (yav (GS (use:=some (assign (.Name y py) X.env)) (Q':=fun _ s'=>SP X pins D .next s') v8 hf hc hi hg ht he I h (fun L C H' s' m I' q hm n1 n2 n3 n4 n5=>?_) hs) (fun _ s' hq=>zdm (zdm hq)) fun _ _ e=>e);show yaa _ _ (assign (.Name y py) X.env (.ref L)) _ _ _;refine wpAny_assign_Name (Dt I' hN hiy hy (v:=.ref L) rfl (fun s2 I2 zqz=>?_) YD);obtain⟨a,sb,ha⟩:=zqz;have hCa:C≠a:=by
  rcases ha with rfl |ha
  .exact n2
  .exact fun z=>n4 y a ha z.symm
 refine⟨m,hm.sameBut sb hCa,fun h' sb'=>⟨_,H',?_,q⟩⟩;exact I2.turned (t':=s2.toks) (it:=C) (fun b o hb e=>sb'.extBut b o hb e) n1 n2 (.inr n3) n4 n5
end
inductive Dp where
 |cH |bl (b:Bool) |int (i:Int) |str (x:Str) |tup (l:List Dp) |lst (l:List Dp)
mutual
def Rep (K:zaa)(H:Hp):Dp->V->Prop
 |.cH,v=>v=.cH
 |.bl b,v=>v=.bl b
 |.int i,v=>v=.int i
 |.str x,v=>v=.str x
 |.tup l,v=>∃a xs,v=.ref a/\bG K H a xs/\aC K H l xs
 |.lst l,v=>∃a xs,v=.ref a/\jJ K H a xs/\aC K H l xs
def aC (K:zaa)(H:Hp):List Dp->List V->Prop
 |[],vs=>vs=[]
 |d::ds,vs=>∃v r,vs=v::r/\Rep K H d v/\aC K H ds r
end
theorem ao.aS{K:zaa}(e:ao H H')(h:bG K H a xs):bG K H' a xs:=by
 rcases h with (h |⟨o,h⟩) |h
 .exact .inl (.inl (e _ _ h))
 .exact .inl (.inr ⟨o,e _ _ h⟩)
 .exact .inr h
mutual
theorem Rep.mono{K:zaa}(e:ao H H'):∀{d:Dp}{v:V},Rep K H d v->Rep K H' d v
 |.cH,_,h=>h
 |.bl _,_,h=>h
 |.int _,_,h=>h
 |.str _,_,h=>h
 |.tup l,_,h=>by
  unfold Rep at h |-;obtain⟨a,xs,e1,e2,e3⟩:=h;exact⟨a,xs,e1,e.aS e2,aC.mono e e3⟩
 |.lst l,_,h=>by
  unfold Rep at h |-;obtain⟨a,xs,e1,e2,e3⟩:=h;exact⟨a,xs,e1,e.seq e2,aC.mono e e3⟩
theorem aC.mono{K:zaa}(e:ao H H'):∀{ds:List Dp}{vs:List V},aC K H ds vs->aC K H' ds vs
 |[],_,h=>h
 |d::ds,_,h=>by
  unfold aC at h |-;obtain⟨v,r,e1,e2,e3⟩:=h;exact⟨v,r,e1,Rep.mono e e2,aC.mono e e3⟩
end
theorem aC.length{K:zaa}:∀{ds:List Dp}{vs:List V},aC K H ds vs->vs.length=ds.length
 |[],_,h=>by unfold aC at h;rw[h];rfl
 |d::ds,_,h=>by
  unfold aC at h;obtain⟨v,r,e1,_,e3⟩:=h;rw[e1,zal,zal,aC.length e3]
theorem aC.get{K:zaa}:∀{ds:List Dp}{vs:List V}{i:Nat}{d:Dp},aC K H ds vs->ds[i]?=some d->∃v,vs[i]?=some v/\Rep K H d v
 |[],_,_,_,_,e=>by simp at e
 |d::ds,_,0,_,h,e=>by
  unfold aC at h;obtain⟨v,r,e1,e2,e3⟩:=h;simp only[List.getElem?_cons_zero,za1.injEq] at e;subst e;exact⟨v,by rw[e1];rfl,e2⟩
 |d::ds,_,i+1,d',h,e=>by
  unfold aC at h;obtain⟨v,r,e1,e2,e3⟩:=h;rw[zcS] at e;obtain⟨v',h1,h2⟩:=aC.get e3 e;exact⟨v',by rw[e1,zcS];exact h1,h2⟩
theorem aC.append{K:zaa}:∀{ds es:List Dp}{vs us:List V},aC K H ds vs->aC K H es us->aC K H (ds++es) (vs++us)
 |[],_,_,_,h,h'=>by unfold aC at h;rw[h];exact h'
 |d::ds,_,_,_,h,h'=>by
  unfold aC at h;obtain⟨v,r,e1,e2,e3⟩:=h;rw[e1];show aC K H (d::(ds++_)) (v::(r++_));unfold aC;exact⟨v,_,rfl,e2,aC.append e3 h'⟩
theorem aC.nil{K:zaa}:aC K H [] []:=by unfold aC;rfl
theorem aC.cons{K:zaa}{H:Hp}{d:Dp}{ds:List Dp}{v:V}{vs:List V}(h:Rep K H d v)(h':aC K H ds vs):aC K H (d::ds) (v::vs):=by unfold aC;exact⟨v,vs,rfl,h,h'⟩
theorem Rep.aJ{K:zaa}:Rep K H (.tup l) v↔∃a xs,v=.ref a/\bG K H a xs/\aC K H l xs:=by unfold Rep;exact Iff.rfl
theorem Rep.bD{K:zaa}:Rep K H (.lst l) v↔∃a xs,v=.ref a/\jJ K H a xs/\aC K H l xs:=by unfold Rep;exact Iff.rfl
theorem Rep.bu{K:zaa}:Rep K H (.int i) v↔v=.int i:=by unfold Rep;exact Iff.rfl
theorem Rep.aZ{K:zaa}:Rep K H (.str x) v↔v=.str x:=by unfold Rep;exact Iff.rfl
theorem Rep.Bn{K:zaa}:Rep K H (.bl b) v↔v=.bl b:=by unfold Rep;exact Iff.rfl
theorem Rep.kO{K:zaa}:Rep K H .cH v↔v=.cH:=by unfold Rep;exact Iff.rfl
theorem aC.aO{K:zaa}:aC K H [] vs↔vs=[]:=by unfold aC;exact Iff.rfl
theorem aC.av{K:zaa}:aC K H (d::ds) vs↔∃v r,vs=v::r/\Rep K H d v/\aC K H ds r:=by conv=>lhs;unfold aC
theorem ao.new(h:H p=none)(o:HO):ao H (upd H p o):=fun b u q=>by rw[aI (aj q h)];exact q
section
variable{X:Cx}
def Zb (i j:Int):Prop:=i.natAbs<2 ^ 4000/\j.natAbs<2 ^ 4000
theorem bits_le(h:i.natAbs<2 ^ 4000):Builtin.Int.intBits i<=2 ^ 20:=zaz (intBits_le h) (by decide)
theorem Ls:vL X (binaryOp .Mult) (rI Zb fun i j=>.int (i*j)):=YJ fun _ _ _ _ _ _ _ hc q=>mul_int q (IntMulOk.of_bits (bits_le hc.1) (bits_le hc.2))
theorem O3:sP X (.builtin "isinstance") (fun xs H Q=>∃x T t b,xs=[x,.ty T]/\zr X.K H x t/\PySem.W.kitOne X.K t (.type T)=some b/\Q (.bl b) H):=by
 intro pins s G H xs us Q I r h;obtain⟨x,T,t,b,rfl,ty,e,q⟩:=h;obtain⟨u1,u2,rfl,r1,r2⟩:=vals2 r;cases (show u2=ya2 T from r2);exact M1 I r1 ty e fun tk=>⟨.bl b,H,I.tok tk,rfl,q⟩
end
structure bJ(K:zaa)(mg:Str->Option zdj)(x:Str)(st:Stmt)(ps:List Str)(f:zdi)(fd:zdr):Prop where
 F:Lq K x x st f fd
 b:Binds K fd ps []
 m:mg x=some (.ref f)
end L2
namespace L2
open PySem PySem.Spec PyProof.Rows
theorem Zc:SV g (.int i) (.int j) H Q↔Q (g i j) H:=⟨fun ⟨_,_,e1,e2,q⟩=>by cases e1;cases e2;exact q,fun q=>⟨_,_,rfl,rfl,q⟩⟩
theorem ac2:rI C g (.int i) (.int j) H Q↔C i j/\Q (g i j) H:=⟨fun ⟨_,_,e1,e2,c,q⟩=>by cases e1;cases e2;exact⟨c,q⟩,fun q=>⟨_,_,rfl,rfl,q⟩⟩
theorem O4{r:St}:(iu 0 (some a::r) H Q)=(Q a H):=rfl
theorem O5{r:St}:(iu 1 (a::r) H Q)=(iu 0 r H Q):=rfl
theorem O6{r:St}:(iu 2 (a::r) H Q)=(iu 1 r H Q):=rfl
theorem O7{r:St}:(iu 3 (a::r) H Q)=(iu 2 r H Q):=rfl
theorem O8{r:St}:(iu 4 (a::r) H Q)=(iu 3 r H Q):=rfl
theorem O9{r:St}:(iu 5 (a::r) H Q)=(iu 4 r H Q):=rfl
theorem Pa{r:St}:(iu 6 (a::r) H Q)=(iu 5 r H Q):=rfl
theorem Pb{r:St}:(iu 7 (a::r) H Q)=(iu 6 r H Q):=rfl
theorem Pc{r:St}:(iu 8 (a::r) H Q)=(iu 7 r H Q):=rfl
theorem Pd{r:St}:(iu 9 (a::r) H Q)=(iu 8 r H Q):=rfl
theorem Zd:(tC v G H Q)=(Q v H):=rfl
theorem UE:(SU r ta tb G H Q)=(ta G H fun x H1=>tb G H1 fun y H2=>r x y H2 Q):=rfl
theorem Ze{p:Bool->Prop}:(∃k,V.bl b=.bl k/\p k)↔p b:=⟨fun ⟨_,e,q⟩=>by cases e;exact q,fun q=>⟨_,rfl,q⟩⟩
theorem Wh{p:Int->Prop}:(∃k,V.int b=.int k/\p k)↔p b:=⟨fun ⟨_,e,q⟩=>by cases e;exact q,fun q=>⟨_,rfl,q⟩⟩
theorem Wi{p:zdi->Prop}:(∃k,V.ref b=.ref k/\p k)↔p b:=⟨fun ⟨_,e,q⟩=>by cases e;exact q,fun q=>⟨_,rfl,q⟩⟩
theorem Lu:(Li t G H Q)=(t G H fun x H'=>∃k,x=.bl k/\Q k H'):=rfl
theorem UG:(rEq x y H Q)=(Jv x y=true/\Q (.bl (decide (x=y))) H):=rfl
theorem UH:(rNe x y H Q)=(Jv x y=true/\Q (.bl (!decide (x=y))) H):=rfl
theorem Wj:(V.int i=V.int j)=(i=j):=by simp
theorem Wk:(V.str i=V.str j)=(i=j):=by simp
theorem Tc[Decidable c]:(if decide c=true then A else B)↔if c then A else B:=by simp
theorem Pe[Decidable c]:(if (!decide c)=true then A else B)↔if c then B else A:=by by_cases h:c<;>simp[h]
theorem aq{K:zaa}(h:bG K H p xs)(hv:CF xs i=some v)(q:Q v H):M6 K (.ref p) (.int i) H Q:=⟨p,xs,i,v,rfl,rfl,h,hv,q⟩
theorem aL{K:zaa}(h:jJ K H p xs)(hv:CF xs i=some v)(q:Q v H):M5 K (.ref p) (.int i) H Q:=⟨p,xs,i,v,rfl,rfl,h,hv,q⟩
section
variable{P:zdu}{w:zdk}{K:zaa}{mg:Str->Option zdj}{base:yaf}
theorem Lq.Wl{st:Stmt}(F:Lq K x qual st f fd)(S:aQ N ps (aD st))(len:∀vs H Q E,sp vs H Q E->vs.length=ps.length)
 (Bj:∀(fA:zdj) (A:zdt) (outer:List Env) (s:zds) (H:Hp) (vs:List V) (Q:VK) (E:XK),jL k (A.deeper (envOfC qual (aD st) s.heap.objs.size f fA))->sp vs H Q E->
  ∃t G,Jo (Bi dF P w K mg base N qual (aD st) f fA A outer s H E).XG (gS st) t/\L2.start N vs=G/\t {nx:=fun _ H'=>Q .cH H',rt:=Q} G H):bq P w K mg base dF (k+1) f fd ps sp:=
 F.ok S len fun fA A outer s H vs Q E hr h=>let ⟨t,_,h1,h2,h3⟩:=Bj fA A outer s H vs Q E hr h;⟨t,h1,by rw[h2];exact h3⟩
end
theorem Lv:(OH sp Cv E t G H Q)=(t G H fun vs H1=>sp (vs++Cv) H1 Q E):=rfl
theorem Lw:(OG ta tr G H Q)=(ta G H fun x H1=>tr G H1 fun xs H2=>Q (x::xs) H2):=rfl
theorem Pf:(YQ G H Q)=(Q [] H):=rfl
theorem Pg:(YR t G H Q)=(t G H fun xs H1=>xs.length<=zdq/\∀p,H1 p=none->Q (.ref p) (upd H1 p (.tup xs))):=rfl
theorem Ph:(YS t G H Q)=(t G H fun xs H1=>xs.length<=zdq/\∀p,H1 p=none->Q (.ref p) (upd H1 p (.lst xs))):=rfl
theorem Td(h:n<=1000):n<=zdq:=zb9 (Na h)
theorem Rep.new{K:zaa}(h:H p=none)(r:aC K H ds vs):Rep K (upd H p (.tup vs)) (.tup ds) (.ref p):=Rep.aJ.mpr ⟨p,vs,rfl,.of ah,r.mono (ao.new h _)⟩
theorem Te:Jv (.int i) (.int j)=true:=rfl
theorem Tf:Jv (.str i) (.str j)=true:=rfl
theorem Tg(h:n<=1000):(n<=zdq)=True:=eq_true (Td h)
theorem Pj:(YL i j)=(0<j/\j<1073741824):=rfl
theorem Pk{K:zaa}{cd:zdj}{A:zdt}{outer:List Env}{s:zds}{H:Hp}{E:XK}:(Bi CX P w K mg base N qual scope f cd A outer s H E).K=K:=rfl
theorem Lx:(lF X scope own ix C s₀ H₀ ex).K=X.K:=rfl
theorem mulR(h1 : -18446744073709551616<b)(h2:b<18446744073709551616):MY z b:=.inr ⟨h1,h2⟩
theorem mulL(h1 : -18446744073709551616<z)(h2:z<18446744073709551616):MY z b:=.inl ⟨h1,h2⟩
theorem jr:xO (.Name x pos):=fun _ _=>rfl
theorem bI{c:Const}{k:Nat}{pos:Pos}:xO (.Constant c k pos):=fun _ _=>rfl
theorem Wm:xO (.Subscript a b pos):=fun _ _=>rfl
theorem iz:xO (.Call f as ks pos):=fun _ _=>rfl
theorem qS:zdo (.BinOp a op b pos::es) env=(false,eval (.BinOp a op b pos) env)::zdo es env:=rfl
theorem cK{x:Str}{pos:Pos}{es:List Expr}{env:Env}:zdo (.Name x pos::es) env=(false,eval (.Name x pos) env)::zdo es env:=rfl
theorem aE{c:Const}{k:Nat}{pos:Pos}{es:List Expr}{env:Env}:zdo (.Constant c k pos::es) env=(false,eval (.Constant c k pos) env)::zdo es env:=rfl
theorem aA:zdo (.Subscript a b pos::es) env=(false,eval (.Subscript a b pos) env)::zdo es env:=rfl
theorem bw{f:Expr}{as:List Expr}{ks:List Keyword}{pos:Pos}{es:List Expr}{env:Env}:zdo (.Call f as ks pos::es) env=(false,eval (.Call f as ks pos) env)::zdo es env:=rfl
theorem Zf:zdo (.UnaryOp op a pos::es) env=(false,eval (.UnaryOp op a pos) env)::zdo es env:=rfl
theorem oP:zdo (.Attribute a x pos::es) env=(false,eval (.Attribute a x pos) env)::zdo es env:=rfl
theorem jO{as:List Expr}{pos:Pos}{es:List Expr}{env:Env}:zdo (.List as pos::es) env=(false,eval (.List as pos) env)::zdo es env:=rfl
theorem dO{as:List Expr}{k}{pos:Pos}{es:List Expr}{env:Env}:zdo (.Tuple as k pos::es) env=(false,eval (.Tuple as k pos) env)::zdo es env:=rfl
theorem pT:zdo (.Compare a ops cs pos::es) env=(false,eval (.Compare a ops cs pos) env)::zdo es env:=rfl
theorem fK:zdo (.ListComp a gs sc pos::es) env=(false,eval (.ListComp a gs sc pos) env)::zdo es env:=rfl
noncomputable def Pl:Expr->Option V
 |.Constant (.int i) _ _=>some (.int i)
 |.Constant (.str x) _ _=>some (.str x)
 |.Constant (.bool b) _ _=>some (.bl b)
 |.Constant .none _ _=>some .cH
 |_=>none
def Pm (vs:List V):TA:=fun _ H Q=>Q vs H
theorem eQ{X:Cx}:∀{es:List Expr}{vs:List V},es.map Pl=vs.map some->PA X es (Pm vs)
 |[],[],_=>ae
 |[],_::_,h=>by cases h
 |_::_,[],h=>by cases h
 |e::es,v::vs,h=>by
  rw[zaq,zaq] at h
  injection h with h1 h2
  have ih:=eQ (X:=X) h2;have one:∀{e:Expr} {v:V},PE X e (tC v)->(zdo (e::es) X.env=(false,eval e X.env)::zdo es X.env)->PA X (e::es) (Pm (v::vs)):=fun he hs pos pins s G H Q I q=>aa he ih hs pos pins s G H Q I q;unfold Pl at h1;split at h1
  .cases h1;exact one aw aE
  .cases h1;exact one aV aE
  .cases h1;exact one nU aE
  .cases h1;exact one cS aE
  .cases h1
theorem Ly:(Pm vs G H Q)=(Q vs H):=rfl
theorem Lz:(UC td ty G H Q)=(td G H fun x H1=>ty G H1 fun y H2=>∃a v,x=.ref a/\xQ H2 a y (some v)/\Q v H2):=rfl
theorem GU:(OX G H Q)=(∀p,H p=none->Q (.ref p) (upd H p (.dK []))):=rfl
theorem LA:(UD td ty tv D G H)=(tv G H fun v H1=>td G H1 fun x H2=>ty G H2 fun y H3=>∃a H4,x=.ref a/\JJ H3 a y v H4/\D.nx G H4):=rfl
theorem UI:(tCB r t G H Q)=(t G H fun vs H1=>r vs H1 Q):=rfl
theorem Zg:(tB t G H Q)=(t G H fun x H1=>∃c,x=.bl c/\Q c H1):=rfl
theorem Pn:(YF t G H Q)=(t G H fun c H1=>Q (!c) H1):=rfl
theorem xQ.s{kvs:List (Key×V)}(e:H a=some (.dK kvs))(h:bZ kvs (Sum.inr x)=some v):xQ H a (.str x) (some v):=by
 have:=xQ.k (k:=Sum.inr x) e;rw[h] at this;exact this
end L2
namespace PM
abbrev W:=List Nat
inductive Tr where
 |num (n:Int) |box (x:W) |bin (o:W) (l r:Tr)
 deriving DecidableEq
end PM
namespace L2
open PySem PySem.Spec PyProof.Rows
section
variable{X:Cx}{pins:List (zdi×Obj)}{G:St}{H:Hp}{s:zds}{x:zdi}
theorem Inv.told(I:Inv X pins G H s)(n:H x=none)(h0:X.s₀.heap.objs.size<=x)(hL:x≠X.env.locals)(hc:∀y c,X.env.cells.lookup y=some c->c≠x)(hp:∀p∈X.pn++pins,p.1≠x)(ok:cE X.prog X.w (upd H x o) s.heap x o):Inv X pins G (upd H x o) s:=by
 have nx:∀b u,X.s₀.heap.get? b=some u->b≠x:=fun b u e=>zay (zaE (yad e) h0);refine⟨I.ok,I.os,I.bare,⟨I.base.keep,I.base.slot,fun b u e n' hx=>?_,I.base.there,fun b xs e=>?_,fun b ob u e=>?_,fun b ps e=>?_⟩,I.loc,I.cell,?_,fun y c e=>?_,fun p XN=>?_,fun b u e=>?_,I.len⟩
 .rw[aI (nx b u e)];exact I.base.free b u e n' hx
 .have:=I.base.Ew b xs e;rw[aI (aj this n)];exact this
 .have:=I.base.CA b ob u e;rw[aI (aj this n)];exact this
 .obtain⟨m,e1⟩:=I.base.Ex b ps e;exact⟨m,by rw[aI (aj e1 n)];exact e1⟩
 .rw[aI (Ne.symm hL)];exact I.free
 .rw[aI (hc y c e)];exact I.tL y c e
 .obtain⟨a,b,c⟩:=I.pin p XN;exact⟨a,by rw[aI (hp p XN)];exact b,c⟩
 .by_cases hb:b=x
  .subst hb;rw[ah] at e;cases e;exact ok
  .rw[aI hb] at e;exact(I.dW b u e).i9 (fun _ _ _ q=>q) (fun c q=>by rw[aI (aj q n)];exact q) fun c xs q=>by rw[aI (aj q n)];exact q
end
theorem JE(hd:d<=n)(o:Option Int):HT.iU n d o<=n:=by
 cases o with
 |none=>exact hd
 |some i=>
  show (if i<0 then (i+n).toNat else min i.toNat n)<=n;split<;>lia
section
variable{X:Cx}
theorem Po(hc:X.calm=true):sP X (.builtin "all") (fun xs H Q=>∃(p:zdi) (bs:List Bool),xs=[.ref p]/\jJ X.K H p (bs.map V.bl)/\Q (.bl (bs.all id)) H):=by
 intro pins s G H xs us Q I r h;obtain⟨p,bs,rfl,hl,q⟩:=h;obtain⟨u,rfl,ru⟩:=vals1 r;cases (show u=yab p from ru);obtain⟨its,rv,pl,_⟩:=I.list hl;have sY:p<s.heap.objs.size:=by
  obtain⟨o,_,e,_⟩:=pl;exact yad e
 refine call_all_walk (yaP pl.isList ?_);have ne:p≠s.heap.objs.size:=zay sY;refine⟨s.heap.objs.size,_,_,_,_,_,fun i=>bs.getD i true,rfl,Walks.list (show X.A.in1.handled=none from I.ok.hd hc) _ p ne its.toArray,⟨⟨_,yae _ rfl,rfl,rfl⟩,pl.isList.push _⟩,fun i v s' Q' E' hv hq=>?_,fun h' tk hk=>?_⟩
 .have qK:its[i]?=some v:=by simpa using hv
  have hb:∃b,bs[i]?=some b:=by
   have:i<bs.length:=by
    have l1:=rv.length;rw[zab] at l1;have:=(zaj.mp qK).1;lia
   exact⟨bs[i],zac this⟩
  obtain⟨b,hb⟩:=hb;obtain⟨u,hu,ru⟩:=rv.get (i:=i) (x:=.bl b) (by rw[zaf,hb];rfl);rw[qK] at hu;cases hu;cases (show v=yaJ b from ru);have e:bs.getD i true=b:=by rw[zap,hb];rfl
  have Lj:Q' (bs.getD i true) s':=hq;rw[e] at Lj;exact zdm Lj
 .refine⟨.bl (bs.all id),H,I.kept (h':=h') (t':=tk) (fun b o e=>hk b o ?_ (yac _ e)),?_,q⟩
  .have:b≠s.heap.objs.size:=zay (yad e);simpa using this
  .have ln:its.toArray.size=bs.length:=by rw[zat,<- rv.length,zab]
   show yaJ ((zaS its.toArray.size).all fun i=>bs.getD i true)=yaJ (bs.all id);rw[ln]
   congr 1
   have key:∀l:List Bool,((zaS l.length).all fun i=>l.getD i true)=l.all id:=fun l=>by
    rw[zcc,zbY,zbY]
    constructor
    .intro h x hx;obtain⟨i,hi,rfl⟩:=List.getElem_of_mem hx;have:=h i (zbN.mpr hi);rw[zap,zac hi] at this;exact this
    .intro h i hi;have hi:=zbN.mp hi;rw[zap,zac hi];exact h _ (zam hi)
   exact key bs
end
abbrev W:=PM.W
noncomputable def S (w:W):Str:=⟨w.toArray⟩
theorem xU:S a=S b↔a=b:=⟨fun h=>by have:=ybv (fun z:Str=>z.cps.toList) h;simpa[S] using this,fun h=>by rw[h]⟩
def iD:PM.Tr->Dp
 |.num n=>.tup [.str "number",.int n]
 |.box x=>.tup [.str "box",.str (S x)]
 |.bin o l r=>.tup [.str (S o),iD l,iD r]
def a9 (p:zdi)(H H':Hp):Prop:=∀b o,b≠p->H b=some o->H' b=some o
theorem a9.refl(p:zdi)(H:Hp):a9 p H H:=fun _ _ _ h=>h
theorem a9.trans(a:a9 p H H1)(b:a9 p H1 H2):a9 p H H2:=fun c o n h=>b c o n (a c o n h)
theorem a9.of(s:ao H H'):a9 p H H':=fun b o _ h=>s b o h
theorem a9.put(a:a9 p H H1)(o:HO):a9 p H (upd H1 p o):=fun b u n h=>by rw[aI n];exact a b u n h
theorem a9.same(a:a9 p H H')(h:H p=none):ao H H':=fun b o e=>a b o (aj e h) e
mutual
noncomputable def Dp.py:Dp->PyData
 |.cH=>.none
 |.bl b=>.bool b
 |.int i=>.int i
 |.str x=>.str x
 |.tup l=>.tuple (Dp.zv l)
 |.lst l=>.list (Dp.zv l)
noncomputable def Dp.zv:List Dp->List PyData
 |[]=>[]
 |d::r=>d.py::Dp.zv r
end
section
variable{X:Cx}{pins:List (zdi×Obj)}{G:St}{H:Hp}{s:zds}
mutual
theorem tS(I:Inv X pins G H s):∀{d:Dp}{v:V}{u:zdj},Rep X.K H d v->RelV v u->∃as,Reads s.heap u d.py as
 |.cH,v,u,h,r=>by rw[Rep.kO] at h;subst h;cases (show u=yas from r);exact⟨_,.none⟩
 |.bl b,v,u,h,r=>by rw[Rep.Bn] at h;subst h;cases (show u=yaJ b from r);exact⟨_,.bool b⟩
 |.int i,v,u,h,r=>by rw[Rep.bu] at h;subst h;obtain⟨t,rfl⟩:=(show ∃t,u=ybd i t from r);exact⟨_,.int i t⟩
 |.str x,v,u,h,r=>by rw[Rep.aZ] at h;subst h;obtain⟨t,rfl⟩:=(show ∃t,u=ya5 x t from r);exact⟨_,.str x t⟩
 |.tup l,v,u,h,r=>by
  rw[Rep.aJ] at h;obtain⟨p,xs,rfl,q,w⟩:=h;cases (show u=yab p from r);obtain⟨its,v1,t1,_⟩:=I.tuple q;obtain⟨as,ra⟩:=zw I w v1;obtain⟨o,h1,h2,n,h3⟩:=t1;unfold Dp.py;exact⟨as,.tuple h1 h2 h3 (by simpa using ra)⟩
 |.lst l,v,u,h,r=>by
  rw[Rep.bD] at h;obtain⟨p,xs,rfl,q,w⟩:=h;cases (show u=yab p from r);obtain⟨its,v1,t1,_⟩:=I.list q;obtain⟨as,ra⟩:=zw I w v1;obtain⟨o,h1,h2,n,h3⟩:=t1.isList;unfold Dp.py;exact⟨_,.list h1 h2 h3 (by simpa using ra)⟩
theorem zw(I:Inv X pins G H s):∀{ds:List Dp}{vs:List V}{us:List zdj},aC X.K H ds vs->Vals vs us->∃as,ReadsAll s.heap us (Dp.zv ds) as
 |[],_,_,h,r=>by rw[aC.aO] at h;subst h;cases r;unfold Dp.zv;exact⟨_,.nil⟩
 |d::ds,_,_,h,r=>by
  rw[aC.av] at h;obtain⟨v,vs,rfl,x,y⟩:=h;cases r with
  |cons r1 r2=>
   obtain⟨a,ra⟩:=tS I x r1;obtain⟨b,rb⟩:=zw I y r2;unfold Dp.zv;exact⟨_,.cons ra rb⟩
end
end
section
variable{X:Cx}
def Zh (K:zaa)(neg:Bool):R2:=fun x y H Q=>∃d e,Rep K H d x/\Rep K H e y/\ya8 d.py=true/\ya8 e.py=true/\Q (.bl (if neg then !PyData.eqv d.py e.py else yaS d.py e.py)) H
theorem Wn(hu:X.A.units+64<cLine):vL X (yar .Eq) (Zh X.K false):=by
 intro pins s G H x y v u Q I rx ry h;obtain⟨d,e,h1,h2,s1,s2,q⟩:=h;obtain⟨as,ra⟩:=tS I h1 rx;obtain⟨bs,rb⟩:=tS I h2 ry;exact eq_dataH ra rb s1 s2 hu ⟨.bl (yaS d.py e.py),H,I,rfl,q⟩
theorem Pp(hu:X.A.units+64<cLine):vL X (yar .NotEq) (Zh X.K true):=by
 intro pins s G H x y v u Q I rx ry h;obtain⟨d,e,h1,h2,s1,s2,q⟩:=h;obtain⟨as,ra⟩:=tS I h1 rx;obtain⟨bs,rb⟩:=tS I h2 ry;exact ne_dataH ra rb s1 s2 hu ⟨.bl (!PyData.eqv d.py e.py),H,I,rfl,q⟩
end
mutual
theorem eqv_refl:∀d:Dp,yaS d.py d.py=true
 |.cH=>rfl
 |.bl b=>by simp[Dp.py,yaS]
 |.int i=>by simp[Dp.py,yaS]
 |.str x=>by simp[Dp.py,yaS]
 |.tup l=>by simp only[Dp.py,yaS];exact zx l
 |.lst l=>by simp only[Dp.py,yaS];exact zx l
theorem zx:∀l:List Dp,PyData.eqvAll (Dp.zv l) (Dp.zv l)=true
 |[]=>rfl
 |d::r=>by simp only[Dp.zv,PyData.eqvAll,eqv_refl d,zx r,zco]
end
theorem ai(h:∀U:St->Hp->Prop,(∀G' H',U G' H'↔u D G' H')->t {D with nx:=U} G H):SO t u D G H:=h (u D) fun _ _=>Iff.rfl
theorem Pq(hr:jL k A):A.units+64<cLine:=hr.units
end L2
namespace L2
open PySem
theorem Bo (h:∀U:Int->Hp->Prop,(∀j H1,(∃W:Nat->Nat->St->Hp->Prop,(∃m,W 0 m G H1)/\∀i m G H,W i m G H->
 ((Ox 0 j.toNat).stop i H/\D.nx G H)\/((Ox 0 j.toNat).go i H/\∃N:St->Hp->Prop,(∀G' H',N G' H'->∃m',m'<m/\W (i+1) m' G' H')/\∀x H',(Ox 0 j.toNat).Gd i H x H'->g x G H' fun G2 H2=>tb {D with nx:=N,ct:=N,bk:=D.nx} G2 H2))->U j H1)->
 ta G H fun vs H1=>∃j:Int,vs=[.int j]/\-(2 ^ 62)<=j/\j<2 ^ 62/\U j H1):Oz (K6 ta) g tb D G H:=h _ fun _ _ x=>x
def LC (K:zaa):Sp:=fun vs H Q _=>∃(a:zdi) (ns:List Int),vs=[.ref a]/\jJ K H a (ns.map .int)/\ns.length<=63/\∀H',Q (.bl true) H'
theorem UJ(ns:List Int)(h:ns.length<=63):je (ns.map V.int) none (some 63)=ns.map V.int:=by
 unfold je;rw[HT.lD,show (63:Int)=((63:Nat):Int) from rfl,HT.mE,zab,zci,zcL];exact zaZ (by rw[zab];lia)
open PyProof.Rows PySem.Spec
section
variable{X:Cx}{pins:List (zdi×Obj)}{G:St}{H:Hp}{s:zds}{h':yaf}
theorem Inv.DB{fp:List zdi}(I:Inv X pins G H s)(k:∀b o,b ∉ fp->s.heap.get? b=some o->h'.get? b=some o)(hf:∀b∈fp,xJ X pins H b):Inv X pins G H {s with heap:=h',toks:=t' }:=by
 have YA:∀b u,H b=some u->b ∉ fp:=fun b u e z=>by rw[(hf b z).1] at e;cases e
 refine I.step (g':=s.gens) (d':=s.drawn) (ch:=fp) (fun b hb=>?_) (fun b o _ _ hc e _=>k b o hc e) (fun b o _ _ hc e _=>⟨o.slots,k b o hc e⟩) (fun _ _ _ _ n=>n)
  (fun b o hc e=>⟨o,k b o hc e⟩) (fun _ _ e=>e) (fun _ _ _ e=>e) (fun b ps e=>⟨#[],by rw[e];simp⟩) (fun m hm=>?_) (fun b u e=>?_) I.bare
 .obtain⟨_,f1,_,f3,f4,f5⟩:=hf b hb;exact⟨f3,f1,f4,f5⟩
 .obtain⟨o,es,ep,ho,r⟩:=hm;exact⟨o,es,ep,k _ o (fun z=>(hf _ z).2.1 rfl) ho,r⟩
 .refine(I.dW b u e).i9 (fun c v hc q=>k c v ?_ q) (fun _ q=>q) fun _ _ q=>q;rcases hc with z |z
  .rw[z];exact YA b u e
  .exact YA c _ z
end
def Zi (K:zaa)(a:zdi):It:=
 ⟨fun i H=>∃xs x,jJ K H a xs/\xs[i]?=some x,fun i H x H'=>∃p y,x=.ref p/\H p=none/\H'=upd H p (.tup [.int i,y])/\∀xs,jJ K H a xs->xs[i]?=some y,fun i H=>∃xs,jJ K H a xs/\xs.length<=i⟩
theorem Nf{K:zaa}{x1}(a e it:zdi)(JL:e≠it) :
 Turn P w K (.Tuple elts x1 pos) (Zi K a) [e,it] e (fun i h=>(∃old,IsEnum h e it i old)/\h.IsListIter it a i) where
 mem:=by simp
 obj:=fun i h st b hb=>by
  obtain⟨⟨old,he⟩,o,eo,c,d⟩:=st;rcases zan.mp hb with rfl |hb
  .exact⟨_,he,fun v z=>by cases (show Data.fields _=Data.cell v from z)⟩
  .have z:b=it:=by simpa using hb
   subst z;exact⟨o,eo,fun v z=>by rw[d] at z;cases z⟩
 keep:=fun i h h' st k=>⟨st.1.elim fun old he=>⟨old,k e (by simp) _ he⟩,st.2.at fun o x=>k it (by simp) o x⟩
 item:=by
  intro X hP hw hK hc i pins s G H E I hf st hg;subst hP hw hK;obtain⟨xs,x,hq,hx⟩:=hg;obtain⟨⟨old,he⟩,hit⟩:=st;obtain⟨its,rv,p,hz⟩:=I.list hq;obtain⟨u,hu,ru⟩:=rv.get hx;refine wpAny_pyNext_enum_item he hit p.isList (x:=u) (by simpa using hu) JL fun h' ho ac3 hT hsz hk=>?_;refine⟨_,rfl,?_⟩;refine wpAny_letOwnedTupleGo_enum ho fun h2 Wo sb=>?_;have Zj:e<s.heap.objs.size:=yad he;have Zk:it<s.heap.objs.size:=by obtain⟨_,x,_⟩:=hit;exact yad x
  have I1:Inv X pins G H {s with heap:=h2,toks:=s.toks+1}:=I.DB (t':=s.toks+1) (fun b o hb q=>(sb.2 b fun z=>hb (by simp[z])).trans (hk b o (fun z=>hb (by simp[z])) (fun z=>hb (by simp[z])) q)) hf;have fr:H s.heap.objs.size=none:=I.dW.fresh (zah _);obtain⟨g0,g1,g2,g3,g4,g5⟩:=I.MV (zah _) fr;have ac4:h2.get? s.heap.objs.size=some {cls:=.type "tuple",data:=.seq #[.int i s.toks,u]}:=(sb.2 _ (zbm Zj)).trans hT;have I2:=I1.told (o:=.tup [.int i,x]) fr I.sz g1 g4 g5 ⟨(show (2:Nat)<=zdq by decide),[.int i s.toks,u],.cons ⟨_,rfl⟩ (.cons ru .nil),⟨_,ac4,rfl,_,rfl⟩⟩;refine⟨.ref s.heap.objs.size,_,I2,rfl,⟨_,x,rfl,fr,rfl,fun ys hy=>by rw[I.GK hy hq];exact hx⟩,⟨⟨_,by exact_mod_cast Wo⟩,ac3.at fun o q=>(sb.2 it (Ne.symm JL)).trans q⟩,fun b hb=>?_⟩;rw[aI ?_]
  .exact(hf b hb).1
  .rcases zan.mp hb with rfl |hb
   .exact zay Zj
   .have z:b=it:=by simpa using hb
    subst z;exact zay Zk
 done:=by
  intro X hP hw hK hc i pins s G H E I hf st hg;subst hP hw hK;obtain⟨xs,hq,hx⟩:=hg;obtain⟨⟨old,he⟩,hit⟩:=st;obtain⟨its,rv,p,hz⟩:=I.list hq;have hl:=rv.length;exact wpAny_pyNext_enum_end (I.ok.hd hc) he hit p.isList (by simp;lia) fun h' eb=>⟨rfl,I.DB (t':=s.toks) (fun b o hb q=>eb b o (fun z=>hb (by simp[z])) q) hf⟩
 self:=fun _ _ _ _ _ st h=>st.1.elim fun _ he=>wpAny_pyIter_enum he h
def Zl (K:zaa)(ta:TA):TI:=fun G H R=>ta G H fun vs H1=>∃a,vs=[.ref a]/\(∃xs,jJ K H1 a xs)/\R (Zi K a) H1
theorem Th{x1}(hg:Gl X "enumerate")(hm:X.mg "enumerate"=none)(ha:PA X [a] ta)(hs:zdo [a] X.env=[(false,eval a X.env)]:=by rfl) :
 PI X (.Tuple elts x1 tp) (.Call (.Name "enumerate" p) [a] [] pos) (Zl X.K ta):=by
 intro pins s G H R I h;refine Call_ (qN I hg hm ybA (za7 (ib (ha pos pins s G H _ I h) fun us s1 zqz=>?_) hs rfl));obtain⟨vs,H1,I1,r1,q1⟩:=zqz;obtain⟨l,e,⟨xs,hq⟩,q⟩:=q1;subst e;cases r1 with
 |cons r rr=>
  cases rr;cases (show _=yab l from r);obtain⟨its,rv,p,hz⟩:=I1.list hq;refine call_enumerate_list p.isList fun h' he hit hsz hk=>?_;refine wpAny_pyIter_enum he ?_;have fr:∀b,s1.heap.objs.size<=b->H1 b=none:=fun b hb=>I1.dW.fresh hb;refine⟨s1.heap.objs.size+1,[s1.heap.objs.size+1,s1.heap.objs.size],_,_,H1,rfl,I1.kept (t':=s1.toks) hk,Nf l _ _ (Nat.succ_ne_self _),⟨⟨_,he⟩,hit⟩,fun b hb=>?_,q⟩;have hb':s1.heap.objs.size<=b:=by
   rcases zan.mp hb with rfl |hb
   .exact zcE _
   .have z:b=s1.heap.objs.size:=by simpa using hb
    rw[z];exact zah _
  exact I1.MV hb' (fr b hb')
theorem Pr{K:zaa}{g:TG}{tb:TS}{D:Ends}(Pv:Nat->St->Hp->Prop)(h0:Pv 0 G H)(hl:∀i G H,i<=xs.length->Pv i G H->jJ K H a xs)
 (hs:∀i x G H p,xs[i]?=some x->Pv i G H->H p=none->g (.ref p) G (upd H p (.tup [.int i,x])) fun G2 H2=>tb {D with nx:=Pv (i+1),ct:=Pv (i+1),bk:=D.nx} G2 H2) (hd:∀G H,Pv xs.length G H->D.nx G H) :
 ∃W:Nat->Nat->St->Hp->Prop,(∃m,W 0 m G H)/\∀i m G H,W i m G H->
  ((Zi K a).stop i H/\D.nx G H)\/((Zi K a).go i H/\∃N:St->Hp->Prop,(∀G' H',N G' H'->∃m',m'<m/\W (i+1) m' G' H')/\∀x H',(Zi K a).Gd i H x H'->g x G H' fun G2 H2=>tb {D with nx:=N,ct:=N,bk:=D.nx} G2 H2):=by
 refine⟨fun i m G H=>m=xs.length-i/\i<=xs.length/\Pv i G H,⟨xs.length,by simp,zaG _,h0⟩,?_⟩
 rintro i m G H ⟨rfl,hi,p⟩
 have q:=hl i G H hi p;by_cases sY:i<xs.length
 .refine .inr ⟨⟨xs,xs[i],q,by simp[sY]⟩,Pv (i+1),fun G' H' p'=>⟨xs.length-(i+1),by lia,rfl,sY,p'⟩,fun x H' y=>?_⟩;obtain⟨pp,v,rfl,hn,rfl,y⟩:=y;exact hs i v G H pp (y xs q) p hn
 .have e:i=xs.length:=by lia
  subst e;exact .inl ⟨⟨xs,q,zah _⟩,hd G H p⟩
theorem gK:sP X (.type "int") (fun xs H Q=>∃b:Bool,xs=[.bl b]/\Q (.int (if b then 1 else 0)) H):=by
 intro pins s G H xs us Q I r h;obtain⟨b,rfl,q⟩:=h;obtain⟨u,rfl,ru⟩:=vals1 r;cases (show u=yaJ b from ru);exact PySem.call_int_bool ⟨.int (if b then 1 else 0),H,I.tok _,⟨_,rfl⟩,q⟩
section
variable{prog:zdu}{w:zdk}{A:zdt}{E:zdj->zds->Prop}{s:zds}
theorem GV(JL:l≠it):∀(n i:Nat)(s:zds)(Q:List zdj->zds->Prop),s.heap.IsListIter it l i->s.heap.IsList l its->i+n<=its.size->
 (∀h',h'.IsListIter it l (i+n)->yat it s.heap h'->Q ((its.toList.drop i).take n) {s with heap:=h' })->yaa (model prog w) A (draw (.ref it) n) Q E s
 |0,i,s,Q,a,_,_,q=>by
  show yaa _ _ (pure []) Q E s;exact zdm (by simpa using q s.heap a (Heap.SameBut.refl ..))
 |n+1,i,s,Q,a,b,le,q=>by
  have lt:i<its.size:=by lia
  show yaa _ _ (yaY (.ref it) >>= _) Q E s;refine zdl (ybc a b (x:=its[i]) (by simp[lt]) fun h1 a1 s1=>?_);have b1:h1.IsList l its:=by
   obtain⟨o,ho,r⟩:=b;exact⟨o,(s1.2 l JL).trans ho,r⟩
  refine zdl (zdn (GV JL n (i+1) _ _ a1 b1 (by lia) fun h2 a2 s2=>zdm ?_));have e:its.toList.drop i=its[i]::its.toList.drop (i+1):=by simp[zbc,lt]
  have z:=q h2 (by rw[show i+(n+1)=i+1+n by lia];exact a2) (s1.trans s2);rw[e,List.take_succ_cons] at z;exact z
theorem JM(hh:A.handled=none)(b:s.heap.IsList l its)(hn:ts.length=its.size)(xD:ts.findIdx? (·.1)=none)
 (h:∀h',ybl s.heap.objs.size s.heap h'->yaa (model prog w) A (assignInOrder (ts.map (·.2)) its.toList) Q E {s with heap:=h' }):yaa (model prog w) A (unpack (.ref l) ts) Q E s:=by
 have lt:l≠s.heap.objs.size:=by obtain⟨o,ho,_⟩:=b;exact zay (yad ho)
 unfold unpack;rw[hn,xD];refine zdl (zdn ?_);unfold unpackItems;refine zdl ?_;unfold notIterableAtAll;refine zdl (yaZ b.typeIs slot_list_iter.lookup ?_);refine zdm ?_;simp only[zav,if_false];refine zdl (zdn (yaP b ?_));have i9:∀{h1 h2:yaf},ybl s.heap.objs.size h1 h2->h1.IsList l its->h2.IsList l its:=fun {h1 h2} e x=>by
  obtain⟨o,ho,r⟩:=x;exact⟨o,e l o lt ho,r⟩
 have b0:(s.heap.push {cls:=.type "list_iterator",data:=.fields #[.ref l,.int 0 0]}).IsList l its:=by
  obtain⟨o,ho,r⟩:=b;exact⟨o,yac _ ho,r⟩
 refine zdl (zdn (GV lt its.size 0 _ _ ⟨_,yae _ rfl,rfl,rfl⟩ b0 (by lia) fun h1 a1 s1=>?_));have all:List.take its.size (List.drop 0 its.toList)=its.toList:=by
  rw[zci];exact zaZ (by simp)
 rw[all,ybq (by simp)];have b1:h1.IsList l its:=i9 s1.extBut b0;refine zdl (zdn (ybe hh a1 b1 (by simp) fun h2 e2=>?_));simp only[Option.isSome_none,zav,if_false];exact zdm (h h2 fun c o hc e=>e2 c o hc (s1.extBut c o hc (yac _ e)))
end
def Wq (K:zaa)(n:Nat)(t:SR):TG:=fun v G H Q=>∃a xs,v=.ref a/\jJ K H a xs/\xs.length=n/\t xs G H Q
theorem JN{k}{pos:Pos}(hc:X.calm=true)(h:YG X es t)
 (hn:(assignEach es X.env).length=n:=by rfl) (xD:(assignEach es X.env).findIdx? (·.1)=none:=by rfl):PG X (.Tuple es k pos) (Wq X.K n t):=by
 intro pins s G H v u Q I r hw;obtain⟨a,xs,rfl,hq,hl,hw⟩:=hw;cases r;obtain⟨its,rv,hp,_⟩:=I.list hq;rw[assign_Tuple];refine zdl (wpAny_standAt (JM (I.ok.hd hc) hp.isList (by simp[hn,<- hl,rv.length]) xD fun h' hx=>?_));have I1:Inv X pins G H {s with heap:=h' }:=I.kept (t':=s.toks) fun b o e=>hx b o (zay (yad e)) e;exact h pins _ G H xs _ Q I1 (by simpa using rv) hw
open PySem.SeqAt
theorem qm(hu:X.A.units+1<cLine):vL X (yar .NotEq) (fun x y H Q=>∃a b xs,x=.ref a/\y=.ref b/\jJ X.K H a xs/\jJ X.K H b []/\Q (.bl (!xs.isEmpty)) H):=by
 intro pins s G H x y v u Q I rx ry h;obtain⟨a,b,xs,rfl,rfl,h1,h2,q⟩:=h;cases (show v=yab a from rx);cases (show u=yab b from ry);obtain⟨its,v1,p1,_⟩:=I.list h1;obtain⟨its',v2,p2,_⟩:=I.list h2;cases v2;cases xs with
 |nil=>
  cases v1;exact(RcNeAt.lists (e:=fun _=>true) p1.isList p2.isList rfl (by lia) (fun j h1=>ybw h1 (by simp))) _ _ _ _ ⟨.bl false,H,I,rfl,q⟩
 |cons z zs=>
  cases v1;exact(RcNeAt.lists_lengths p1.isList p2.isList (by simp) (by lia)) _ _ _ _ ⟨.bl true,H,I,rfl,q⟩
noncomputable def iw (val:W->Int):PM.Tr->Int
 |.num n=>n
 |.box x=>val x
 |.bin o l r=>if o=[43] then iw val l+iw val r else if o=[45] then iw val l-iw val r else iw val l*iw val r
theorem jg{K:zaa}(h:∀U:zdi->Hp->Prop,(∀a H1,(∃W:Nat->Nat->St->Hp->Prop,(∃m,W 0 m G H1)/\∀i m G H,W i m G H->
 ((AZ K a).stop i H/\D.nx G H)\/((AZ K a).go i H/\∃N:St->Hp->Prop,(∀G' H',N G' H'->∃m',m'<m/\W (i+1) m' G' H')/\∀x H',(AZ K a).Gd i H x H'->g x G H' fun G2 H2=>tb {D with nx:=N,ct:=N,bk:=D.nx} G2 H2))->U a H1)->
 tl G H fun x H1=>∃a,x=.ref a/\(∃xs,jJ K H1 a xs)/\U a H1):Oz (Du K tl) g tb D G H:=h _ fun _ _ x=>x
theorem LD{r:St}:(iu 10 (a::r) H Q)=(iu 9 r H Q):=rfl
theorem LF{r:St}:(iu 11 (a::r) H Q)=(iu 10 r H Q):=rfl
theorem LG{r:St}:(iu 12 (a::r) H Q)=(iu 11 r H Q):=rfl
theorem DC(hu:X.A.units+1<cLine):vL X (yar .Eq) (fun x y H Q=>∃a b xs,x=.ref a/\y=.ref b/\jJ X.K H a xs/\jJ X.K H b []/\Q (.bl xs.isEmpty) H):=by
 intro pins s G H x y v u Q I rx ry h;obtain⟨a,b,xs,rfl,rfl,h1,h2,q⟩:=h;cases (show v=yab a from rx);cases (show u=yab b from ry);obtain⟨its,v1,p1,_⟩:=I.list h1;obtain⟨its',v2,p2,_⟩:=I.list h2;cases v2;cases xs with
 |nil=>
  cases v1;exact(RcAt.lists (e:=fun _=>true) p1.isList p2.isList rfl (by lia) (fun j h1=>ybw h1 (by simp))) _ _ _ _ ⟨.bl true,H,I,rfl,q⟩
 |cons z zs=>
  cases v1;exact(RcAt.lists_lengths p1.isList p2.isList (by simp) (by lia)) _ _ _ _ ⟨.bl false,H,I,rfl,q⟩
end L2
namespace PG
open PM (W Tr)
structure jc where
 name:W
 size:Int
 first:Int
inductive aT where
 |ask (k:Int) (b:W)
 |put (k:Int) (b:W) (e:Tr)
 |say (k:Int) (e:Tr)
 |bE (k:Int) (sg:W) (l r:Tr)
 |stop (k:Int)
 |ifs (k:Int) (sg:W) (l r:Tr) (a b:List aT)
 |fM (k:Int) (sg:W) (l r:Tr) (a:List aT)
noncomputable def aT.row:aT->Int
 |.ask k _=>k |.put k _ _=>k |.say k _=>k |.bE k _ _ _=>k |.stop k=>k |.ifs k _ _ _ _ _=>k |.fM k _ _ _ _=>k
inductive Wd where
 |ask |put |say |bE |stop |ifs |fM |els |fin
 deriving DecidableEq
noncomputable def aT.wd:aT->Wd
 |.ask _ _=>.ask |.put _ _ _=>.put |.say _ _=>.say |.bE _ _ _ _=>.bE |.stop _=>.stop |.ifs _ _ _ _ _ _=>.ifs |.fM _ _ _ _ _=>.fM
noncomputable def pick {Z:Type}(d:Z)(l:List Z)(n:Int):Z:=l.getD n.toNat d
noncomputable def AO:List W:=[[60],[61]]
abbrev Row:=Int×Wd
structure Prog where
 ar:List jc
 body:List aT
end PG
namespace PG
open PM (W Tr)
mutual
noncomputable def dM:aT->List Row
 |.ifs k _ _ _ a b=>(k,.ifs)::(gM a++gM b)
 |.fM k _ _ _ a=>(k,.fM)::gM a
 |.ask k _=>[(k,.ask)]
 |.put k _ _=>[(k,.put)]
 |.say k _=>[(k,.say)]
 |.bE k _ _ _=>[(k,.bE)]
 |.stop k=>[(k,.stop)]
noncomputable def gM:List aT->List Row
 |[]=>[]
 |s::r=>dM s++gM r
end
end PG
namespace PG
open PM (W Tr)
abbrev cT:=Int×Wd×List Int
noncomputable def br:List aT->Int->Int
 |[],x=>x
 |s::_,_=>s.row
mutual
noncomputable def gf:aT->Int->List cT
 |.ifs k _ _ _ a b,x=>(k,.ifs,[br a x,br b x])::(aP a x++aP b x)
 |.fM k _ _ _ a,x=>(k,.fM,[br a k,x])::aP a k
 |.ask k _,x=>[(k,.ask,[x])]
 |.put k _ _,x=>[(k,.put,[x])]
 |.say k _,x=>[(k,.say,[x])]
 |.bE k _ _ _,x=>[(k,.bE,[x])]
 |.stop k,_=>[(k,.stop,[0])]
noncomputable def aP:List aT->Int->List cT
 |[],_=>[]
 |s::r,x=>gf s (br r x)++aP r x
end
mutual
theorem DE:∀(s:aT)(x:Int),(gf s x).map (fun r=>(r.1,r.2.1))=dM s
 |.ifs k _ _ _ a b,x=>by simp[gf,dM,gB a x,gB b x]
 |.fM k _ _ _ a,x=>by simp[gf,dM,gB a k]
 |.ask k _,x=>rfl
 |.put k _ _,x=>rfl
 |.say k _,x=>rfl
 |.bE k _ _ _,x=>rfl
 |.stop k,_=>rfl
theorem gB:∀(b:List aT)(x:Int),(aP b x).map (fun r=>(r.1,r.2.1))=gM b
 |[],_=>rfl
 |s::r,x=>by simp[aP,gM,DE s _,gB r x]
end
end PG
namespace PG
open PM (W Tr)
mutual
noncomputable def gV:aT->Nat
 |.ifs _ _ _ _ a b=>max (dg a) (dg b)+1
 |.fM _ _ _ _ a=>dg a+1
 |_=>0
noncomputable def dg:List aT->Nat
 |[]=>0
 |s::r=>max (gV s) (dg r)
end
theorem Bp:∀a b:List aT,dg (a++b)=max (dg a) (dg b)
 |[],b=>by simp[dg]
 |s::r,b=>by
  show dg (s::(r++b))=_;rw[dg,dg,Bp r b,Nat.max_assoc]
end PG
namespace PG
open PM (W Tr)
section
variable(nm:W->Prop)(ex:Tr->Prop)(sg:W->Prop)
mutual
def LH:aT->Prop
 |.ask _ b=>nm b
 |.put _ b e=>nm b/\ex e
 |.say _ e=>ex e
 |.bE _ s l r=>sg s/\ex l/\ex r
 |.stop _=>True
 |.ifs _ s l r a b=>sg s/\ex l/\ex r/\Pt a/\Pt b
 |.fM _ s l r a=>sg s/\ex l/\ex r/\Pt a
def Pt:List aT->Prop
 |[]=>True
 |s::r=>LH s/\Pt r
end
end
noncomputable def dQ:Tr->Nat
 |.bin _ l r=>max (dQ l) (dQ r)+1
 |_=>0
end PG
namespace PG
open PM (W Tr)
mutual
noncomputable def bA:aT->List aT
 |.ifs k sg l r a b=>.ifs k sg l r a b::(au a++au b)
 |.fM k sg l r a=>.fM k sg l r a::au a
 |s=>[s]
noncomputable def au:List aT->List aT
 |[]=>[]
 |s::r=>bA s++au r
end
mutual
theorem DF:∀s:aT,(bA s).map (fun x=>(x.row,x.wd))=dM s
 |.ifs k sg l r a b=>by
  rw[bA,dM,zaq,zas,ij a,ij b];rfl
 |.fM k sg l r a=>by
  rw[bA,dM,zaq,ij a];rfl
 |.ask k _=>rfl
 |.put k _ _=>rfl
 |.say k _=>rfl
 |.bE k _ _ _=>rfl
 |.stop k=>rfl
theorem ij:∀b:List aT,(au b).map (fun x=>(x.row,x.wd))=gM b
 |[]=>rfl
 |s::r=>by simp[au,gM,DF s,ij r]
end
end PG
namespace PG
open PM (W Tr)
section
variable{nm:W->Prop}{ex:Tr->Prop}{sg:W->Prop}
mutual
theorem Ti:∀(s x:aT),LH nm ex sg s->x∈bA s->LH nm ex sg x
 |.ifs k s l r a b,x,h,m=>by
  rw[bA] at m;rcases zan.mp m with rfl |m
  .exact h
  .rw[LH] at h;rcases zak.mp m with m |m
   .exact iA a x h.2.2.2.1 m
   .exact iA b x h.2.2.2.2 m
 |.fM k s l r a,x,h,m=>by
  rw[bA] at m;rcases zan.mp m with rfl |m
  .exact h
  .rw[LH] at h;exact iA a x h.2.2.2 m
 |.ask k b,x,h,m=>by simp only[bA,zai] at m;subst m;exact h
 |.put k b e,x,h,m=>by simp only[bA,zai] at m;subst m;exact h
 |.say k e,x,h,m=>by simp only[bA,zai] at m;subst m;exact h
 |.bE k s l r,x,h,m=>by simp only[bA,zai] at m;subst m;exact h
 |.stop k,x,h,m=>by simp only[bA,zai] at m;subst m;exact h
theorem iA:∀(b:List aT)(x:aT),Pt nm ex sg b->x∈au b->LH nm ex sg x
 |[],x,_,m=>by simp[au] at m
 |s::r,x,h,m=>by
  rw[au] at m;rw[Pt] at h;rcases zak.mp m with m |m
  .exact Ti s x h.1 m
  .exact iA r x h.2 m
end
end
end PG
namespace PG
open PM (W Tr)
def fN (bs:List jc):Tr->Prop
 |.num n=>0<=n/\n<1000
 |.box x=>x∈bs.map (·.name)
 |.bin o l r=>o∈([[43],[45],[42]]:List W)/\fN bs l/\fN bs r
end PG
namespace PG
def qT (r:cT):Prop:=0<r.2.2.length/\(r.2.1=.ifs\/r.2.1=.fM->1<r.2.2.length)
mutual
theorem Ng:∀(s:aT)(x:Int),∀r∈gf s x,qT r
 |.ifs k sg l r a b,x,y,h=>by
  rw[gf] at h;simp only[zan,zak] at h;rcases h with rfl |h |h
  .simp[qT]
  .exact iW a x y h
  .exact iW b x y h
 |.fM k sg l r a,x,y,h=>by
  rw[gf] at h;simp only[zan] at h;rcases h with rfl |h
  .simp[qT]
  .exact iW a k y h
 |.ask k _,x,y,h=>by simp[gf] at h;subst h;simp[qT]
 |.put k _ _,x,y,h=>by simp[gf] at h;subst h;simp[qT]
 |.say k _,x,y,h=>by simp[gf] at h;subst h;simp[qT]
 |.bE k _ _ _,x,y,h=>by simp[gf] at h;subst h;simp[qT]
 |.stop k,x,y,h=>by simp[gf] at h;subst h;simp[qT]
theorem iW:∀(b:List aT)(x:Int),∀r∈aP b x,qT r
 |[],x,y,h=>by simp[aP] at h
 |s::r,x,y,h=>by
  rw[aP,zak] at h;rcases h with h |h
  .exact Ng s _ y h
  .exact iW r x y h
end
end PG
namespace PG
theorem tT:∀(b:List aT)(x:Int),br b x=x\/∃t∈au b,t.row=br b x
 |[],x=>.inl rfl
 |s::r,x=>.inr ⟨s,by rw[au];exact za8 _ (by cases s<;>simp[bA]),rfl⟩
mutual
theorem Pu:∀(s:aT)(x:Int),∀r∈gf s x,∀w∈r.2.2,w=0\/w=x\/∃t∈bA s,t.row=w
 |.ifs k sg l r a b,x,y,h,w,hw=>by
  rw[gf] at h;simp only[zan,zak] at h;rw[bA];rcases h with rfl |h |h
  .simp only[zan,List.mem_nil_iff,or_false] at hw;rcases hw with rfl |rfl
   .rcases tT a x with e |⟨t,ht,e⟩
    .exact .inr (.inl e)
    .exact .inr (.inr ⟨t,by simp[ht],e⟩)
   .rcases tT b x with e |⟨t,ht,e⟩
    .exact .inr (.inl e)
    .exact .inr (.inr ⟨t,by simp[ht],e⟩)
  .rcases tU a x y h w hw with e |e |⟨t,ht,e⟩
   .exact .inl e
   .exact .inr (.inl e)
   .exact .inr (.inr ⟨t,by simp[ht],e⟩)
  .rcases tU b x y h w hw with e |e |⟨t,ht,e⟩
   .exact .inl e
   .exact .inr (.inl e)
   .exact .inr (.inr ⟨t,by simp[ht],e⟩)
 |.fM k sg l r a,x,y,h,w,hw=>by
  rw[gf] at h;simp only[zan] at h;rw[bA];have self:w=k->∃t∈(aT.fM k sg l r a::au a),t.row=w:=fun e=>⟨_,zaw ..,e.symm⟩
  rcases h with rfl |h
  .simp only[zan,List.mem_nil_iff,or_false] at hw;rcases hw with rfl |rfl
   .rcases tT a k with e |⟨t,ht,e⟩
    .exact .inr (.inr (self e))
    .exact .inr (.inr ⟨t,by simp[ht],e⟩)
   .exact .inr (.inl rfl)
  .rcases tU a k y h w hw with e |e |⟨t,ht,e⟩
   .exact .inl e
   .exact .inr (.inr (self e))
   .exact .inr (.inr ⟨t,by simp[ht],e⟩)
 |.ask k _,x,y,h,w,hw=>by simp[gf] at h;subst h;simp at hw;exact .inr (.inl hw)
 |.put k _ _,x,y,h,w,hw=>by simp[gf] at h;subst h;simp at hw;exact .inr (.inl hw)
 |.say k _,x,y,h,w,hw=>by simp[gf] at h;subst h;simp at hw;exact .inr (.inl hw)
 |.bE k _ _ _,x,y,h,w,hw=>by simp[gf] at h;subst h;simp at hw;exact .inr (.inl hw)
 |.stop k,x,y,h,w,hw=>by simp[gf] at h;subst h;simp at hw;exact .inl hw
theorem tU:∀(b:List aT)(x:Int),∀r∈aP b x,∀w∈r.2.2,w=0\/w=x\/∃t∈au b,t.row=w
 |[],x,y,h,_,_=>by simp[aP] at h
 |s::r,x,y,h,w,hw=>by
  rw[aP,zak] at h;rw[au];rcases h with h |h
  .rcases Pu s _ y h w hw with e |e |⟨t,ht,e⟩
   .exact .inl e
   .rcases tT r x with e2 |⟨t,ht,e2⟩
    .exact .inr (.inl (e.trans e2))
    .exact .inr (.inr ⟨t,zaK _ ht,e2.trans e.symm⟩)
   .exact .inr (.inr ⟨t,za8 _ ht,e⟩)
  .rcases tU r x y h w hw with e |e |⟨t,ht,e⟩
   .exact .inl e
   .exact .inr (.inl e)
   .exact .inr (.inr ⟨t,zaK _ ht,e⟩)
end
def Tj (b:List aT)(row:Int):Nat:=(au b).findIdx (fun s=>s.row==row)
theorem LI(pw:(au b).Pairwise (fun a b=>a.row<b.row))(i:Nat)(hi:i<(au b).length):Tj b (au b)[i].row=i:=by
 unfold Tj;rw[List.findIdx_eq hi];refine⟨by simp,fun j hj=>?_⟩;have:=zbU.mp pw j i (by lia) hi hj;simp only[beq_eq_false_iff_ne,ne_eq];lia
end PG
namespace L2
open PG
open PySem
noncomputable def qj:Wd->Str
 |.ask=>"ask" |.put=>"put" |.say=>"say" |.bE=>"must" |.stop=>"stop" |.ifs=>"if" |.fM=>"while" |.els=>"else" |.fin=>"end"
mutual
noncomputable def b3:aT->Dp
 |.ask k b=>.tup [.str "ask",.int k,.str (S b)]
 |.put k b e=>.tup [.str "put",.int k,.str (S b),iD e]
 |.say k e=>.tup [.str "say",.int k,iD e]
 |.bE k sg l r=>.tup [.str "must",.int k,.str (S sg),iD l,iD r]
 |.stop k=>.tup [.str "stop",.int k]
 |.ifs k sg l r a b=>.tup [.str "if",.int k,.str (S sg),iD l,iD r,.lst (EM a),.lst (EM b)]
 |.fM k sg l r a=>.tup [.str "while",.int k,.str (S sg),iD l,iD r,.lst (EM a)]
noncomputable def EM:List aT->List Dp
 |[]=>[]
 |s::r=>b3 s::EM r
end
theorem ic:∀l:List aT,EM l=l.map b3
 |[]=>rfl
 |s::r=>by rw[EM,ic r];rfl
def tV (b:jc):Dp:=.tup [.str (S b.name),.int b.size,.int b.first]
def gC (p:PG.Prog):Dp:=.tup [.lst (p.ar.map tV),.lst (p.body.map b3)]
def aN (O:zdi->Prop)(H H':Hp):Prop:=∀b o,¬O b->H b=some o->H' b=some o
def Fix (K:zaa)(O:zdi->Prop)(H:Hp)(d:Dp)(v:V):Prop:=∀H',aN O H H'->Rep K H' d v
def dJ (K:zaa)(O:zdi->Prop)(H:Hp)(ds:List Dp)(vs:List V):Prop:=∀H',aN O H H'->aC K H' ds vs
section
variable{K:zaa}{O O':zdi->Prop}{H H1 H2:Hp}{d:Dp}{ds:List Dp}{v:V}{vs:List V}{p:zdi}{o:HO}
theorem aN.refl:aN O H H:=fun _ _ _ e=>e
theorem aN.trans(a:aN O H H1)(b:aN O H1 H2):aN O H H2:=fun c u n e=>b c u n (a c u n e)
theorem aN.of(s:ao H H1):aN O H H1:=fun b u _ e=>s b u e
theorem aN.mono(a:aN O H H1)(i:∀b,O b->O' b):aN O' H H1:=fun b u n e=>a b u (fun z=>n (i b z)) e
theorem aN.one(a:a9 p H H1)(hp:O p):aN O H H1:=fun b u n e=>a b u (fun z=>n (by rw[z];exact hp)) e
theorem aN.put(a:aN O H H1)(hp:O p)(u:HO):aN O H (upd H1 p u):=fun b w n e=>by rw[aI (fun z=>n (by rw[z];exact hp))];exact a b w n e
theorem Fix.up(f:Fix K O H d v)(u:aN O H H1):Fix K O H1 d v:=fun H2 u2=>f H2 (u.trans u2)
theorem dJ.up(f:dJ K O H ds vs)(u:aN O H H1):dJ K O H1 ds vs:=fun H2 u2=>f H2 (u.trans u2)
theorem Fix.rep(f:Fix K O H d v):Rep K H d v:=f H .refl
theorem dJ.CH(f:dJ K O H ds vs):aC K H ds vs:=f H .refl
theorem Fix.sub(f:Fix K O H d v)(i:∀b,O' b->O b):Fix K O' H d v:=fun H2 u=>f H2 (u.mono i)
theorem dJ.sub(f:dJ K O H ds vs)(i:∀b,O' b->O b):dJ K O' H ds vs:=fun H2 u=>f H2 (u.mono i)
theorem dJ.nil:dJ K O H [] []:=fun _ _=>.nil
theorem dJ.cons(a:Fix K O H d v)(b:dJ K O H ds vs):dJ K O H (d::ds) (v::vs):=fun H2 u=>.cons (a H2 u) (b H2 u)
theorem dJ.snoc(b:dJ K O H ds vs)(a:Fix K O H d v):dJ K O H (ds++[d]) (vs++[v]):=fun H2 u=>(b H2 u).append (.cons (a H2 u) .nil)
theorem Fix.int:Fix K O H (.int i) (.int i):=fun _ _=>Rep.bu.mpr rfl
theorem Fix.str:Fix K O H (.str x) (.str x):=fun _ _=>Rep.aZ.mpr rfl
theorem Fix.tup(h:H p=some (.tup vs))(n:¬O p)(f:dJ K O H ds vs):Fix K O H (.tup ds) (.ref p):=fun H2 u=>Rep.aJ.mpr ⟨p,vs,rfl,.of (u p _ n h),f H2 u⟩
theorem Fix.lst(h:H p=some (.lst vs))(n:¬O p)(f:dJ K O H ds vs):Fix K O H (.lst ds) (.ref p):=fun H2 u=>Rep.bD.mpr ⟨p,vs,rfl,.of (u p _ n h),f H2 u⟩
end
end L2
namespace L2
open PG
open PySem
theorem LJ{r:St}:(iu 13 (a::r) H Q)=(iu 12 r H Q):=rfl
theorem LK{r:St}:(iu 14 (a::r) H Q)=(iu 13 r H Q):=rfl
def Own (K:zaa)(H0 H:Hp)(d:Dp)(v:V):Prop:=∀O:zdi->Prop,(∀b,O b->H0 b≠none)->Fix K O H d v
section
variable{K:zaa}{O:zdi->Prop}{H0 H H1:Hp}{d:Dp}{v:V}{D B:zdi}{bs:List jc}
theorem Own.back(f:Own K H0 H d v)(h:∀b,H00 b≠none->H0 b≠none):Own K H00 H d v:=fun O hO=>f O fun b hb=>h b (hO b hb)
end
def bC (K:zaa)(H0 H:Hp)(ds:List Dp)(vs:List V):Prop:=∀O:zdi->Prop,(∀b,O b->H0 b≠none)->dJ K O H ds vs
section
variable{K:zaa}{H0 H H1:Hp}{d:Dp}{v:V}{ds:List Dp}{vs:List V}{D p:zdi}
theorem bC.nil:bC K H0 H [] []:=fun _ _=>dJ.nil
theorem bC.cons(a:Own K H0 H d v)(b:bC K H0 H ds vs):bC K H0 H (d::ds) (v::vs):=fun O h=>dJ.cons (a O h) (b O h)
theorem Own.int:Own K H0 H (.int i) (.int i):=fun _ _=>Fix.int
theorem Own.str:Own K H0 H (.str x) (.str x):=fun _ _=>Fix.str
theorem bC.same(f:bC K H0 H ds vs)(s:ao H H1):bC K H0 H1 ds vs:=fun O hO=>(f O hO).up (.of s)
theorem js(hp:H p=none)(nX:∀b,H0 b≠none->H b≠none)(f:bC K H0 H ds vs):Own K H0 (upd H p (.tup vs)) (.tup ds) (.ref p):=fun O hO=>by
 have np:¬O p:=fun z=>nX p (hO p z) hp;exact Fix.tup ah np ((f.same (ao.new hp _)) O hO)
end
theorem bC.up(f:bC K H0 H ds vs)(u:a9 D H H1)(hD:H0 D≠none):bC K H0 H1 ds vs:=fun O hO=>by
 have:=f (fun b=>O b\/b=D) (fun b hb=>hb.elim (hO b) (fun e=>e▸hD));exact(this.up (aN.one u (.inr rfl))).sub fun b hb=>.inl hb
theorem bC.snoc(b:bC K H0 H ds vs)(a:Own K H0 H d v):bC K H0 H (ds++[d]) (vs++[v]):=fun O h=>dJ.snoc (b O h) (a O h)
theorem Bq(h:X.K=K):XH X (M5 K):=h▸bU
theorem EN{X:Cx}{K:zaa}(h:X.K=K):XH X (M6 K):=h▸gA
theorem GW:∀(s:aT){v:V},Rep K H (b3 s) v->∃a ys,v=.ref a/\bG K H a (.str (qj s.wd)::ys):=by
 intro s v h;have key:∃ds,b3 s=.tup (.str (qj s.wd)::ds):=by
  cases s<;>exact⟨_,by rw[b3];rfl⟩
 obtain⟨ds,e⟩:=key;rw[e,Rep.aJ] at h;obtain⟨a,xs,rfl,q,r⟩:=h;rw[aC.av] at r;obtain⟨v1,t1,rfl,e1,_⟩:=r;rw[Rep.aZ] at e1;subst e1;exact⟨a,t1,rfl,q⟩
noncomputable def ay:aT->List (List aT)
 |.ifs _ _ _ _ a b=>[a,b]
 |.fM _ _ _ _ a=>[a]
 |_=>[]
noncomputable def jP (s:aT)(x:Int):Int:=match s with
 |.fM k _ _ _ _=>k
 |_=>x
def tW (s:aT)(x:Int):List Int:=match s with
 |.stop _=>[0]
 |.ifs _ _ _ _ a b=>[br a x,br b x]
 |.fM k _ _ _ a=>[br a k,x]
 |_=>[x]
theorem Px(s:aT)(x:Int):gf s x=(s.row,s.wd,tW s x)::((ay s).flatMap fun b=>aP b (jP s x)):=by
 cases s<;>simp[gf,aT.row,aT.wd,tW,ay,jP]
def kA (r:cT):Dp:=.tup [.int r.1,.str (qj r.2.1),.tup (r.2.2.map .int)]
section
variable(K:zaa)
inductive qU(vs:List V)(H:Hp)(Q:VK)(E:XK):Prop
 |mk (b:zdi) (body:List aT) (x:Int):vs=[.ref b,.int x]->Rep K H (.lst (body.map b3)) (.ref b)->body.length<=100000->Q (.int (br body x)) H->qU vs H Q E
inductive Br(vs:List V)(H:Hp)(Q:VK)(E:XK):Prop
 |mk (v:V) (st:aT) (x:Int):vs=[v,.int x]->Rep K H (b3 st) v->Q (.int (jP st x)) H->Br vs H Q E
inductive qo(vs:List V)(H:Hp)(Q:VK)(E:XK):Prop
 |mk (v:V) (st:aT) (H0:Hp):vs=[v]->Rep K H0 (b3 st) v->ao H0 H->(∀l us H',ao H H'->H l=none->H' l=some (.lst us)->aC K H0 ((ay st).map fun b=>.lst (b.map b3)) us->Q (.ref l) H')->qo vs H Q E
end
theorem kB:∀(s:aT){v:V},Rep K H (b3 s) v->∃a ys,v=.ref a/\bG K H a (.str (qj s.wd) :: .int s.row::ys):=by
 intro s v h;have key:∃ds,b3 s=.tup (.str (qj s.wd) :: .int s.row::ds):=by
  cases s<;>exact⟨_,by rw[b3];rfl⟩
 obtain⟨ds,e⟩:=key;rw[e,Rep.aJ] at h;obtain⟨a,xs,rfl,q,r⟩:=h;rw[aC.av] at r;obtain⟨v1,t1,rfl,e1,r⟩:=r;rw[aC.av] at r;obtain⟨v2,t2,rfl,e2,_⟩:=r;rw[Rep.aZ] at e1;rw[Rep.bu] at e2;subst e1 e2;exact⟨a,t2,rfl,q⟩
section
variable(K:zaa)
def Py (st:aT):Prop:=∀b∈ay st,b.length<=100000
inductive JO(vs:List V)(H:Hp)(Q:VK)(E:XK):Prop
 |mk (v:V) (st:aT) (x:Int):vs=[v,.int x]->Rep K H (b3 st) v->Py st->(∀u H',ao H H'->Rep K H' (.tup ((tW st x).map .int)) u->Q u H')->JO vs H Q E
end
mutual
noncomputable def Gf:Dp->Bool
 |.lst _=>false
 |.tup l=>oM l
 |_=>true
noncomputable def oM:List Dp->Bool
 |[]=>true
 |d::r=>Gf d&&oM r
end
section
variable{K:zaa}{H H':Hp}{tl:zdi}{xs:List V}
mutual
theorem GX(h:H tl=some (.lst xs))(u:aN (·=tl) H H'):∀(d:Dp)(v:V),Gf d=true->Rep K H d v->Rep K H' d v
 |.cH,v,_,r=>by rw[Rep.kO] at r |-;exact r
 |.bl b,v,_,r=>by rw[Rep.Bn] at r |-;exact r
 |.int b,v,_,r=>by rw[Rep.bu] at r |-;exact r
 |.str b,v,_,r=>by rw[Rep.aZ] at r |-;exact r
 |.lst l,v,e,_=>by rw[Gf] at e;cases e
 |.tup l,v,e,r=>by
  rw[Gf] at e;rw[Rep.aJ] at r |-;obtain⟨a,ys,rfl,q,rs⟩:=r;refine⟨a,ys,rfl,?_,zy h u l ys e rs⟩;rcases q with (q |⟨o,q⟩) |q
  .exact .inl (.inl (u _ _ (b5 q h (by intro z;cases z)) q))
  .exact .inl (.inr ⟨o,u _ _ (b5 q h (by intro z;cases z)) q⟩)
  .exact .inr q
theorem zy(h:H tl=some (.lst xs))(u:aN (·=tl) H H'):∀(ds:List Dp)(vs:List V),oM ds=true->aC K H ds vs->aC K H' ds vs
 |[],vs,_,r=>by rw[aC.aO] at r |-;exact r
 |d::ds,vs,e,r=>by
  rw[oM,za9] at e;rw[aC.av] at r |-;obtain⟨v,t,rfl,r1,r2⟩:=r;exact⟨v,t,rfl,GX h u d v e.1 r1,zy h u ds t e.2 r2⟩
end
theorem Tn(h:H tl=some (.lst xs))(e:oM ds=true)(r:aC K H ds vs):dJ K (·=tl) H ds vs:=fun _ u=>zy h u ds vs e r
theorem Wr(h:H tl=some (.lst xs))(e:Gf d=true)(r:Rep K H d v):Fix K (·=tl) H d v:=fun _ u=>GX h u d v e r
end
theorem zz:∀l:List Int,oM (l.map .int)=true
 |[]=>by simp[oM]
 |i::r=>by rw[zaq,oM,zz r];simp[Gf]
theorem Pz(r:cT):Gf (kA r)=true:=by simp[kA,Gf,oM,zz]
theorem DG:∀l:List cT,oM (l.map kA)=true
 |[]=>by simp[oM]
 |r::l=>by rw[zaq,oM,Pz,DG l];rfl
section
variable(K:zaa)
inductive xV(n:Nat)(vs:List V)(H:Hp)(Q:VK)(E:XK):Prop
 |mk (b:zdi) (body:List aT) (x:Int):vs=[.ref b,.int x]->Rep K H (.lst (body.map b3)) (.ref b)->dg body<n->(gM body).length<=1000->(∀l us H',ao H H'->H l=none->H' l=some (.lst us)->aC K H' ((aP body x).map kA) us->Q (.ref l) H')->xV n vs H Q E
end
mutual
theorem jQ:∀(s:aT)(b:List aT),b∈ay s->(gM b).length+1<=(dM s).length/\dg b+1<=gV s
 |.ifs k _ _ _ x y,b,h=>by
  simp only[ay,zan,za5,or_false] at h;rw[dM,gV];simp only[zal,zae];rcases h with rfl |rfl<;>lia
 |.fM k _ _ _ x,b,h=>by
  simp only[ay,zan,za5,or_false] at h;rw[dM,gV];simp only[zal];subst h;lia
 |.ask _ _,b,h=>by cases h
 |.put _ _ _,b,h=>by cases h
 |.say _ _,b,h=>by cases h
 |.bE _ _ _ _,b,h=>by cases h
 |.stop _,b,h=>by cases h
end
theorem qp:∀(l:List aT)(s:aT),s∈l->(dM s).length<=(gM l).length/\gV s<=dg l
 |[],s,h=>by cases h
 |a::r,s,h=>by
  rw[gM,dg,zae];rcases zan.mp h with rfl |h
  .lia
  .have:=qp r s h;lia
theorem Nh(s:aT):1<=(dM s).length:=by cases s<;>simp[dM]
theorem eR:∀l:List aT,l.length<=(gM l).length
 |[]=>zaG _
 |s::r=>by
  rw[gM,zae,zal];have:=Nh s;have:=eR r;lia
section
variable(K:zaa)
def EO:Sp:=fun vs H Q _=>∃(v:V) (pr:PG.Prog),vs=[v]/\Rep K H (gC pr) v/\dg pr.body<=3/\(gM pr.body).length<=1000/\
 ∀l us H',ao H H'->H l=none->H' l=some (.lst us)->aC K H' ((aP pr.body 0).map kA) us->Q (.ref l) H'
end
end L2
namespace L2
open PG
open PySem
theorem PB:∀w:Wd,(V.str (qj w)=V.str (zad "must"))↔w=.bE:=by
 intro w;cases w<;>decide +kernel
theorem JP{k:Key}(h:k ∉ kvs.map (·.1)):putK kvs k v=kvs++[(k,v)]:=by
 unfold putK;rw[ybq];intro z;rw[zcM] at z;obtain⟨x,hx,e⟩:=z;exact h (zar.mpr ⟨x,hx,ybu e⟩)
theorem wM:∀(more kvs:List (Key×V)),((kvs++more).map (·.1)).Nodup->qQ kvs more=kvs++more
 |[],kvs,_=>by simp[qQ]
 |p::r,kvs,h=>by
  have hp:p.1 ∉ kvs.map (·.1):=fun z=>by
   rw[zas,zbd] at h;exact h.2.2 _ z _ (by simp) rfl
  show qQ (putK kvs p.1 p.2) r=_;rw[JP hp,wM r _ (by rw[zau];exact h),zau];rfl
noncomputable def cP (ss:List aT)(vs:List V):List (Key×V):=zbR (fun s v=>(Sum.inl s.row,v)) ss vs
theorem nY:∀(ss:List aT)(vs:List V),vs.length=ss.length->(cP ss vs).map (·.1)=ss.map fun s=>(Sum.inl s.row:Key)
 |[],[],_=>rfl
 |[],_::_,h=>by simp at h
 |_::_,[],h=>by simp at h
 |s::ss,v::vs,h=>by
  show _::(cP ss vs).map (·.1)=_;rw[nY ss vs (by simpa using h)];rfl
theorem zF:∀(ss tt:List aT)(vs us:List V),vs.length=ss.length->cP (ss++tt) (vs++us)=cP ss vs++cP tt us
 |[],tt,[],us,_=>rfl
 |[],_,_::_,_,h=>by simp at h
 |_::_,_,[],_,h=>by simp at h
 |s::ss,tt,v::vs,us,h=>by
  show _::cP (ss++tt) (vs++us)=_::(cP ss vs++cP tt us);rw[zF ss tt vs us (by simpa using h)]
theorem Bs{ss:List aT}(h:ss.Pairwise fun a b=>a.row<b.row):(ss.map fun s=>(Sum.inl s.row:Key)).Nodup:=by
 refine za4.mpr (h.imp fun {a b} Gg e=>?_);have:=Sum.inl.inj e;lia
theorem tX:∀(ss:List aT)(vs:List V),vs.length=ss.length->ss.Pairwise (fun a b=>a.row<b.row)->∀i (hi:i<ss.length) v,vs[i]?=some v->bZ (cP ss vs) (.inl ss[i].row)=some v
 |[],_,_,_,i,hi,_,_=>by simp at hi
 |_::_,[],h,_,_,_,_,_=>by simp at h
 |s::ss,v::vs,h,hp,0,hi,u,hu=>by
  simp at hu;subst hu;show bZ ((_,v)::cP ss vs) _=_;exact cX rfl
 |s::ss,v::vs,h,hp,i+1,hi,u,hu=>by
  rw[zbA] at hp;have lt:=hp.1 (ss[i]'(by simpa using hi)) (zam _);show bZ ((.inl s.row,v)::cP ss vs) (.inl (ss[i]'(by simpa using hi)).row)=_;rw[cI (fun e=>by have e:=Sum.inl.inj e;lia)];exact tX ss vs (by simpa using h) hp.2 i (by simpa using hi) u (by simpa using hu)
theorem To(s:aT):bA s=s::(ay s).flatMap au:=by
 cases s<;>simp[bA,ay]
section
variable(K:zaa)
inductive oQ(n:Nat)(vs:List V)(H:Hp)(Q:VK)(E:XK):Prop
 |mk (b:zdi) (body:List aT) (H0:Hp):vs=[.ref b]->ao H0 H->Rep K H0 (.lst (body.map b3)) (.ref b)->dg body<n->(gM body).length<=1000->(∀l us H',ao H H'->H l=none->H' l=some (.lst us)->aC K H0 ((au body).map b3) us->Q (.ref l) H')->oQ n vs H Q E
end
theorem GY (h:∀U:zdi->Hp->Prop,(∀a H1,(∃W:Nat->Nat->St->Hp->Prop,(∃m,W 0 m G H1)/\∀i m G H,W i m G H->
 ((SS K a).stop i H/\D.nx G H)\/((SS K a).go i H/\∃N:St->Hp->Prop,(∀G' H',N G' H'->∃m',m'<m/\W (i+1) m' G' H')/\∀x H',(SS K a).Gd i H x H'->g x G H' fun G2 H2=>tb {D with nx:=N,ct:=N,bk:=D.nx} G2 H2))->U a H1)->
 tl G H fun x H1=>∃a,x=.ref a/\(∃xs,bG K H1 a xs)/\U a H1):Oz (VR K tl) g tb D G H:=h _ fun _ _ x=>x
theorem n9:∀a b:List aT,au (a++b)=au a++au b
 |[],b=>by simp[au]
 |s::r,b=>by
  show au (s::(r++b))=_;rw[au,au,L2.n9 r b,zau]
theorem PC(s:aT):au [s]=bA s:=by rw[au,au,zax]
theorem gD(b:List aT):(au b).length=(gM b).length:=by rw[<- ij,zab]
end L2
namespace HT
open PG
open PySem PySem.Spec PyProof.Rows
section
variable{prog:zdu}{w:zdk}{A:zdt}{E:zdj->zds->Prop}{s:zds}
theorem vM{lo hi:Option Int}(ht:IsTup s.heap t items)(hs:s.heap.IsSliceOf sl vl vu .none)(pl:IsPart vl lo)(pu:IsPart vu hi)
 (hw:iU items.size 0 lo=0/\iU items.size items.size hi=items.size) (h:Q (.ref t) s):yaa (model prog w) A (getItem (.ref t) (.ref sl)) Q E s:=by
 have hj:iU items.size items.size hi<=items.size:=JE _ _ (zah _) hi;obtain⟨os,Sd,S0,YY⟩:=id hs;have hTs:s.TypeIs (.ref sl) "slice":=⟨os,Sd,S0⟩
 unfold getItem
 try with_reducible refine zdn ?_
 first |refine zdl (zdm ?_) |skip
 refine zdl (wpAny_sequenceKey ht.typeIs (by decide) ?_);refine zdl (wpAny_callSpecial?_slot (name:=zad "__getitem__") ht.typeIs zbD
  (yap zbD ht.typeIs entry_tuple_getitem ?_ (args_tuple_getitem _ _)))
 show yaa _ _ (yaN (.ref t) >>= _) _ _ s;refine zdl (tupleItemsOf_ ht ?_);refine zdl (ya6 hTs ?_);rw[ybr (by decide)];refine zdl (qk hs pl pu ?_);have ac5:((((iU items.size 0 lo:Nat):Int)==0&&(1:Int)==1&&(iU items.size items.size hi-iU items.size 0 lo)==items.size)=true):=by
  rw[hw.1,hw.2];simp
 show yaa _ _ (if (((iU items.size 0 lo:Nat):Int)==0&&(1:Int)==1&&(iU items.size items.size hi-iU items.size 0 lo)==items.size)=true then _ else _) _ _ s;rw[ybr ac5];refine zdl (m:=ybp _) ?_;unfold ybp;refine zdl (ya6 ht.typeIs (zdm ?_));rw[ybr (by simp)]
 first
  |exact zdl (ya3 (zdm ⟨_,rfl,zdm h⟩))
  |exact zdl (zdm (zdm ⟨_,rfl,zdm h⟩))
end
end HT
namespace L2
open PG
open PySem PySem.Spec PyProof.Rows
def Zm (K:zaa):V->Option Int->Option Int->Hp->VK->Prop:=fun x lo hi H Q=>∃a xs,x=.ref a/\bG K H a xs/\
 ((HT.iU xs.length 0 lo=0/\HT.iU xs.length xs.length hi=xs.length)->Q (.ref a) H)/\
 (¬(HT.iU xs.length 0 lo=0/\HT.iU xs.length xs.length hi=xs.length)->∀p,H p=none->Q (.ref p) (upd H p (.tup (je xs lo hi))))
theorem LM:YZ X (Zm X.K):=by
 intro pins s G H x v vl vu lo hi sl Q I rx hs pl pu h;obtain⟨a,xs,rfl,hx,h1,h2⟩:=h;by_cases hw:HT.iU xs.length 0 lo=0/\HT.iU xs.length xs.length hi=xs.length
 .cases rx;obtain⟨its,r,ht,hz⟩:=I.tuple hx;have hlen:its.toArray.size=xs.length:=by rw[zat];exact r.length.symm
  refine⟨"tuple",_,zbD.lookup,ht.typeIs,?_⟩;exact HT.vM ht hs pl pu (by rw[hlen];exact hw) ⟨.ref a,H,I,rfl,h1 hw⟩
 .exact VZ pins s G H (.ref a) v vl vu lo hi sl Q I rx hs pl pu ⟨a,xs,rfl,hx,hw,h2 hw⟩
def bP {Z L O:Type}(R:Z->L->O->Prop):List Z->List L->List O->Prop
 |[],[],[]=>True
 |a::as,b::bs,c::cs=>R a b c/\bP R as bs cs
 |_,_,_=>False
section
variable{Z L O:Type}{R S:Z->L->O->Prop}
theorem bP.aO:bP R [] bs cs↔bs=[]/\cs=[]:=by
 cases bs<;>cases cs<;>simp[bP]
theorem bP.av:bP R (a::as) bs cs↔∃b N8 c N9,bs=b::N8/\cs=c::N9/\R a b c/\bP R as N8 N9:=by
 constructor
 .intro h;cases bs with
  |nil=>simp[bP] at h
  |cons b bs=>
   cases cs with
   |nil=>simp[bP] at h
   |cons c cs=>exact⟨b,bs,c,cs,rfl,rfl,h.1,h.2⟩
 .rintro ⟨b,N8,c,N9,rfl,rfl,h1,h2⟩
  exact⟨h1,h2⟩
theorem bP.length:∀{as:List Z}{bs:List L}{cs:List O},bP R as bs cs->bs.length=as.length/\cs.length=as.length
 |[],_,_,h=>by obtain⟨rfl,rfl⟩:=bP.aO.mp h;exact⟨rfl,rfl⟩
 |a::as,_,_,h=>by
  obtain⟨b,N8,c,N9,rfl,rfl,_,h2⟩:=bP.av.mp h;have:=bP.length h2;simp[this]
theorem bP.imp:∀{as:List Z}{bs:List L}{cs:List O},bP R as bs cs->(∀a b c,a∈as->c∈cs->R a b c->S a b c)->bP S as bs cs
 |[],_,_,h,_=>by obtain⟨rfl,rfl⟩:=bP.aO.mp h;trivial
 |a::as,_,_,h,f=>by
  obtain⟨b,N8,c,N9,rfl,rfl,h1,h2⟩:=bP.av.mp h;exact⟨f a b c (zaw ..) (zaw ..) h1,h2.imp fun a' b' c' m1 m2=>f a' b' c' (zao _ m1) (zao _ m2)⟩
theorem bP.snoc:∀{as:List Z}{bs:List L}{cs:List O}{a:Z}{b:L}{c:O},bP R as bs cs->R a b c->bP R (as++[a]) (bs++[b]) (cs++[c])
 |[],_,_,a,b,c,h,r=>by obtain⟨rfl,rfl⟩:=bP.aO.mp h;exact⟨r,trivial⟩
 |x::as,_,_,a,b,c,h,r=>by
  obtain⟨b',N8,c',N9,rfl,rfl,h1,h2⟩:=bP.av.mp h;exact⟨h1,bP.snoc h2 r⟩
end
def LN:aT->List Dp
 |.ask k b=>[.str "ask",.int k,.str (S b)]
 |.put k b e=>[.str "put",.int k,.str (S b),iD e]
 |.say k e=>[.str "say",.int k,iD e]
 |.bE k sg l r=>[.str "must",.int k,.str (S sg),iD l,iD r]
 |.stop k=>[.str "stop",.int k]
 |.ifs k sg l r _ _=>[.str "if",.int k,.str (S sg),iD l,iD r]
 |.fM k sg l r _=>[.str "while",.int k,.str (S sg),iD l,iD r]
theorem ER(s:aT):b3 s=.tup (LN s++(ay s).map fun b=>.lst (b.map b3)):=by
 cases s<;>simp[b3,LN,ay,ic]
theorem LO(s:aT):2<=(LN s).length/\(LN s).length<=5/\(ay s≠[]->(LN s).length=5):=by
 cases s<;>simp[LN,ay]
mutual
theorem GZ:∀t:PM.Tr,Gf (iD t)=true
 |.num n=>by simp[iD,Gf,oM]
 |.box n=>by simp[iD,Gf,oM]
 |.bin o l r=>by simp[iD,Gf,oM,GZ l,GZ r]
end
theorem LP(s:aT):oM (LN s)=true:=by cases s<;>simp[LN,oM,Gf,GZ]
section
variable{K:zaa}{H H':Hp}{O:zdi->Prop}
theorem iX(hO:∀g,O g->∃ys,H g=some (.lst ys))(u:aN O H H')(q:bG K H a ys):bG K H' a ys:=by
 rcases q with (q |⟨o,q⟩) |q
 .exact .inl (.inl (u _ _ (fun z=>by obtain⟨_,e⟩:=hO a z;rw[e] at q;cases q) q))
 .exact .inl (.inr ⟨o,u _ _ (fun z=>by obtain⟨_,e⟩:=hO a z;rw[e] at q;cases q) q⟩)
 .exact .inr q
mutual
theorem zG(hO:∀g,O g->∃ys,H g=some (.lst ys))(u:aN O H H'):∀(d:Dp)(v:V),Gf d=true->Rep K H d v->Rep K H' d v
 |.cH,v,_,r=>by rw[Rep.kO] at r |-;exact r
 |.bl b,v,_,r=>by rw[Rep.Bn] at r |-;exact r
 |.int b,v,_,r=>by rw[Rep.bu] at r |-;exact r
 |.str b,v,_,r=>by rw[Rep.aZ] at r |-;exact r
 |.lst l,v,e,_=>by rw[Gf] at e;cases e
 |.tup l,v,e,r=>by
  rw[Gf] at e;rw[Rep.aJ] at r |-;obtain⟨a,ys,rfl,q,rs⟩:=r;exact⟨a,ys,rfl,iX hO u q,og hO u l ys e rs⟩
theorem og(hO:∀g,O g->∃ys,H g=some (.lst ys))(u:aN O H H'):∀(ds:List Dp)(vs:List V),oM ds=true->aC K H ds vs->aC K H' ds vs
 |[],vs,_,r=>by rw[aC.aO] at r |-;exact r
 |d::ds,vs,e,r=>by
  rw[oM,za9] at e;rw[aC.av] at r |-;obtain⟨v,t,rfl,r1,r2⟩:=r;exact⟨v,t,rfl,zG hO u d v e.1 r1,og hO u ds t e.2 r2⟩
end
end
section
variable(K:zaa)(H:Hp)
def qr:Nat->List aT->zdi->List zdi->Prop
 |0,_,_,_=>False
 |n+1,body,b,F=>∃vs Fs,H b=some (.lst vs)/\bP (fun s v G=>∃a hs bs Gs,v=.ref a/\bG K H a (hs++bs.map V.ref)/\aC K H (LN s) hs/\bP (qr n) (ay s) bs Gs/\G=Gs.flatten) body vs Fs/\F=b::Fs.flatten
def G0 (n:Nat)(s:aT)(v:V)(G:List zdi):Prop:=∃a hs bs Gs,v=.ref a/\bG K H a (hs++bs.map V.ref)/\aC K H (LN s) hs/\bP (qr K H n) (ay s) bs Gs/\G=Gs.flatten
end
section
variable{K:zaa}{H H':Hp}{O:zdi->Prop}
theorem jR:qr K H (n+1) body b F↔∃vs Fs,H b=some (.lst vs)/\bP (G0 K H n) body vs Fs/\F=b::Fs.flatten:=Iff.rfl
theorem qr.i9(hO:∀g,O g->∃ys,H g=some (.lst ys))(u:aN O H H'):∀(n:Nat)(body:List aT)(b:zdi)(F:List zdi),(∀f∈F,¬O f)->qr K H n body b F->qr K H' n body b F
 |0,_,_,_,_,h=>h.elim
 |n+1,body,b,F,hF,h=>by
  obtain⟨vs,Fs,hb,all,rfl⟩:=jR.mp h;refine jR.mpr ⟨vs,Fs,u _ _ (hF b (zaw ..)) hb,all.imp fun s v G _ mG hs=>?_,rfl⟩;obtain⟨a,hs,bs,Gs,rfl,q,r,al,rfl⟩:=hs;refine⟨a,hs,bs,Gs,rfl,iX hO u q,og hO u _ _ (LP s) r,al.imp fun bd b' G' _ ES ht=>qr.i9 hO u n bd b' G' (fun f hf=>?_) ht,rfl⟩;exact hF f (zao _ (za3.mpr ⟨_,mG,za3.mpr ⟨_,ES,hf⟩⟩))
theorem G0.i9(hO:∀g,O g->∃ys,H g=some (.lst ys))(u:aN O H H')(hG:∀f∈G,¬O f)(h:G0 K H n s v G):G0 K H' n s v G:=by
 obtain⟨a,hs,bs,Gs,rfl,q,r,al,rfl⟩:=h;exact⟨a,hs,bs,Gs,rfl,iX hO u q,og hO u _ _ (LP s) r,al.imp fun bd b' G' _ ES ht=>qr.i9 hO u n bd b' G' (fun f hf=>hG f (za3.mpr ⟨_,ES,hf⟩)) ht,rfl⟩
theorem qr.lists:∀(n:Nat)(body:List aT)(b:zdi)(F:List zdi),qr K H n body b F->∀f∈F,∃ys,H f=some (.lst ys)
 |0,_,_,_,h=>h.elim
 |n+1,body,b,F,h=>by
  obtain⟨vs,Fs,hb,all,rfl⟩:=jR.mp h;intro f hf;rcases zan.mp hf with rfl |hf
  .exact⟨vs,hb⟩
  .have key:∀{as:List aT} {bs:List V} {cs:List (List zdi)},bP (G0 K H n) as bs cs->∀f∈cs.flatten,∃ys,H f=some (.lst ys):=by
    intro as
    induction as with
    |nil=>intro bs cs h f hf;obtain⟨rfl,rfl⟩:=bP.aO.mp h;simp at hf
    |cons a as ih=>
     intro bs cs h f hf;obtain⟨b',N8,c,N9,rfl,rfl,h1,h2⟩:=bP.av.mp h;rw[zaX,zak] at hf;rcases hf with hf |hf
     .obtain⟨a',hs,bb,Gs,rfl,q,r,al,rfl⟩:=h1;have Ws:∀{as:List (List aT)} {bs:List zdi} {cs:List (List zdi)},bP (qr K H n) as bs cs->∀f∈cs.flatten,∃ys,H f=some (.lst ys):=by
       intro as
       induction as with
       |nil=>intro bs cs h f hf;obtain⟨rfl,rfl⟩:=bP.aO.mp h;simp at hf
       |cons x as ih2=>
        intro bs cs h f hf;obtain⟨b',N8,c,N9,rfl,rfl,h1,h2⟩:=bP.av.mp h;rw[zaX,zak] at hf;rcases hf with hf |hf
        .exact qr.lists n _ _ _ h1 f hf
        .exact ih2 h2 f hf
      exact Ws al f hf
     .exact ih h2 f hf
   exact key all f hf
mutual
theorem qr.rep:∀(n:Nat)(body:List aT)(b:zdi)(F:List zdi),qr K H n body b F->Rep K H (.lst (body.map b3)) (.ref b)
 |0,_,_,_,h=>h.elim
 |n+1,body,b,F,h=>by
  obtain⟨vs,Fs,hb,all,rfl⟩:=jR.mp h;refine Rep.bD.mpr ⟨b,vs,rfl,.of hb,?_⟩;have key:∀{as:List aT} {bs:List V} {cs:List (List zdi)},bP (G0 K H n) as bs cs->aC K H (as.map b3) bs:=by
   intro as
   induction as with
   |nil=>intro bs cs h;obtain⟨rfl,rfl⟩:=bP.aO.mp h;exact .nil
   |cons a as ih=>
    intro bs cs h;obtain⟨b',N8,c,N9,rfl,rfl,h1,h2⟩:=bP.av.mp h;refine .cons ?_ (ih h2);obtain⟨a',hs,bb,Gs,rfl,q,r,al,rfl⟩:=h1;rw[ER];refine Rep.aJ.mpr ⟨a',_,rfl,q,r.append ?_⟩;have Ws:∀{as:List (List aT)} {bs:List zdi} {cs:List (List zdi)},bP (qr K H n) as bs cs->aC K H (as.map fun b=>.lst (b.map b3)) (bs.map V.ref):=by
     intro as
     induction as with
     |nil=>intro bs cs h;obtain⟨rfl,rfl⟩:=bP.aO.mp h;exact .nil
     |cons x as ih2=>
      intro bs cs h;obtain⟨b',N8,c,N9,rfl,rfl,h1,h2⟩:=bP.av.mp h;exact .cons (qr.rep n _ _ _ h1) (ih2 h2)
    exact Ws al
  exact key all
end
end
section
variable(K:zaa)
inductive ET(n:Nat)(vs:List V)(H:Hp)(Q:VK)(E:XK):Prop
 |mk (v:V) (st:aT) (H0:Hp):vs=[v]->ao H0 H->Rep K H0 (b3 st) v->gV st<n+1->(dM st).length<=1000->(∀u G H',ao H H'->G0 K H' n st u G->G.Nodup->(∀f∈G,H f=none)->Q u H')->ET n vs H Q E
inductive xW(n:Nat)(vs:List V)(H:Hp)(Q:VK)(E:XK):Prop
 |mk (b:zdi) (body:List aT) (H0:Hp):vs=[.ref b]->ao H0 H->Rep K H0 (.lst (body.map b3)) (.ref b)->dg body<n->(gM body).length<=1000->(∀l F H',ao H H'->qr K H' n body l F->F.Nodup->(∀f∈F,H f=none)->Q (.ref l) H')->xW n vs H Q E
inductive PD(vs:List V)(H:Hp)(Q:VK)(E:XK):Prop
 |mk (a l:zdi) (hs ws:List V) (bs:List V):vs=[.ref a,.ref l]->bG K H a (hs++ws)->hs≠[]->hs.length<=10->ws.length=bs.length->bs.length<=10->H l=some (.lst bs)->(∀p H',ao H H'->bG K H' p (hs++bs)->Q (.ref p) H')->PD vs H Q E
end
theorem dP{K:zaa}{r:St}(Pv:Nat->List V->Hp->Prop)(hS:jJ K H a xs)(hl:xs.length<=16000000)(hD:H D=none)(h0:Pv 0 [] (upd H D (.lst [])))
 (step:∀i x ys H2,xs[i]?=some x->ao H H2->H2 D=some (.lst ys)->ys.length=i->Pv i ys H2->∀R:VK,(∀v H3,ao H2 H3->Pv (i+1) (ys++[v]) (upd H3 D (.lst (ys++[v])))->R v H3)->te (some x::r) H2 R)
 (q:∀ys H2,ao H H2->H2 D=some (.lst ys)->Pv xs.length ys H2->Q (.ref D) H2):jf (AZ K a) D (cF 0) me te Q (none::r) (upd H D (.lst [])):=by
 refine⟨fun i m τ H2=>m=xs.length-i/\i<=xs.length/\(∃x,τ=x::r)/\ao H H2/\∃ys,H2 D=some (.lst ys)/\ys.length=i/\Pv i ys H2,⟨xs.length,by simp,zaG _,⟨none,rfl⟩,ao.new hD _,[],ah,rfl,h0⟩,?_⟩
 rintro i m τ H2 ⟨rfl,hi,⟨x,rfl⟩,s2,ys,h2,ly,p2⟩
 by_cases sY:i<xs.length
 .refine .inr ⟨⟨xs,xs[i],s2.seq hS,by simp[sY]⟩,fun τ' H'=>(∃x,τ'=x::r)/\ao H H'/\∃ys,H' D=some (.lst ys)/\ys.length=i+1/\Pv (i+1) ys H',fun τ' H' ⟨h1,h3,h4⟩=>⟨xs.length-(i+1),by lia,rfl,sY,h1,h3,h4⟩,fun y H' hy=>?_⟩;obtain⟨rfl,hy⟩:=hy;have ey:=hy _ (s2.seq hS);simp only[cF,zba,me];rw[ybr trivial];refine step i y ys _ ey s2 h2 ly p2 _ fun v H3 s3 p3=>⟨ys,s3 _ _ h2,?_,⟨_,rfl⟩,?_,ys++[v],ah,by simp[ly],p3⟩
  .have:zdq=2 ^ 24:=rfl;lia
  .intro b o e;rw[aI (aj e hD)];exact s3 _ _ (s2 _ _ e)
 .have e:i=xs.length:=by lia
  subst e;exact .inl ⟨⟨xs,s2.seq hS,zah _⟩,q ys H2 s2 h2 p2⟩
end L2
namespace L2
open PG
open PySem
theorem LQ:∀l:List Int,yan (Dp.zv (l.map Dp.int))=true/\yao (Dp.zv (l.map Dp.int))=0
 |[]=>by simp[Dp.zv,yan,yao]
 |i::r=>by
  obtain⟨h1,h2⟩:=LQ r;simp[Dp.zv,Dp.py,yan,yao,ybb,ybh,h1,h2]
theorem PF{fl:List cT}(g2:aC K H (fl.map kA) fv)(hi:fv[i]?=some y)(li:i<fl.length) :
 ∃a p,y=.ref a/\bG K H a [.int fl[i].1,.str (qj fl[i].2.1),.ref p]/\bG K H p (fl[i].2.2.map V.int):=by
 obtain⟨v',qK,rv⟩:=g2.get (i:=i) (d:=kA fl[i]) (by rw[zaf,zac li];rfl);rw[hi] at qK;cases qK;unfold kA at rv;rw[Rep.aJ] at rv;obtain⟨a,xs,rfl,hx,rs⟩:=rv;rw[aC.av] at rs;obtain⟨v1,t1,rfl,r1,rs⟩:=rs;rw[aC.av] at rs;obtain⟨v2,t2,rfl,r2,rs⟩:=rs;rw[aC.av] at rs;obtain⟨v3,t3,rfl,r3,rs⟩:=rs;rw[aC.aO] at rs;rw[Rep.bu] at r1;rw[Rep.aZ] at r2;obtain⟨p,ys,rfl,hp,ry⟩:=Rep.aJ.mp r3;subst r1 r2 rs;have key:∀{l:List Int} {ys:List V},aC K H (l.map Dp.int) ys->ys=l.map V.int:=by
  intro l
  induction l with
  |nil=>intro ys h;rw[zbE,aC.aO] at h;exact h
  |cons i r ih=>
   intro ys h;rw[zaq,aC.av] at h;obtain⟨v,t,rfl,h1,h2⟩:=h;rw[Rep.bu] at h1;rw[h1,ih h2];rfl
 rw[key ry] at hp;exact⟨a,p,rfl,hx,hp⟩
end L2
namespace L3
open PG
open PySem PyProof.Rows
theorem Tp:typeLookup (.type "list") "keys"=pure none:=by rw[typeLookup_type,yaD];kernel_rfl
theorem Tq:typeLookup (.type "list") "__getattr__"=pure none:=by rw[typeLookup_type,yaD];kernel_rfl
section
variable{prog:zdu}{w:zdk}{A:zdt}{E:zdj->zds->Prop}
theorem PH(a:zdi)(u:Tok){os:OsState}(hx:hp.get? a=some ⟨.type "list",none,.seq its n,sl⟩)(hA:A.handled=none)
 (h:∀h' Ts e,Heap.NewAttrErr hp h' e (.ref a) "keys"->E (.ref e) ⟨h',g,d,Ts,os⟩) :
 yaa (model prog w) A (Builtin.«object.__getattribute__» ⟨[.ref a,.str "keys" u],[]⟩) Q E ⟨hp,g,d,tk,os⟩:=by
 have hT:(⟨hp,g,d,tk,os⟩:zds).TypeIs (.ref a) "list":=⟨_,hx,rfl⟩
 have f4:=Tp;unfold Builtin.«object.__getattribute__»
 repeat (any_goals (first |assumption |wp_step))
 exact wpAny_raiseAttrError hA h (attrMsg_fits (by decide +kernel) (by size_fits))
theorem Ni(a:zdi)(hx:s.heap.get? a=some ⟨.type "list",none,.seq its n,sl⟩)(hA:A.handled=none)
 (h:∀h' tk,(∀b ob,s.heap.get? b=some ob->h'.get? b=some ob)->Q none {s with heap:=h',toks:=tk}):yaa (model prog w) A (getAttr? (.ref a) "keys") Q E s:=by
 obtain⟨hp,g,d,tk,os⟩:=s;have hT:∀Ts,(⟨hp,g,d,Ts,os⟩:zds).TypeIs (.ref a) "list":=fun _=>⟨_,hx,rfl⟩
 have f1:=sub_AttributeError;have f2:=yaV.lookup;have f3:=yaV.bind (.ref a);have f5:=Tq;unfold getAttr? getAttrBy? getAttrBy
 repeat (any_goals (first |assumption |exact hT _ |wp_step))
 all_goals
  refine codeAny_call_builtin yaV.plain F.entry_list_ga (yaV.check _ _ _ _ _ _ _ _ (show (⟨hp,g,d,tk+1,os⟩:zds).TypeIs (.ref a) "list" from ⟨_,hx,rfl⟩) (F.args_list_getattribute_2 _ _) ?_)
 all_goals
  refine PH a tk hx hA fun h' Ts e ne=>?_
 all_goals
  obtain⟨t',u',he⟩:=ne.there;show yaa _ _ (getattributeRaised _ _ _ _ _ _ _) _ _ _;unfold getattributeRaised
  repeat (any_goals (first |assumption |wp_step))
 all_goals exact h _ _ ne.keeps
theorem Bt:entryFor table "dict.update.loop"=some Builtin.«dict.update.loop»:=entryFor_of_tree (by kernel_rfl)
theorem qV:plainId "dict.update.loop"=true:=by decide +kernel
def Bu (h h':yaf):Prop:=∀b o,h.get? b=some o->o.cls=.type "tuple"->h'.get? b=some o
structure PW(prog:zdu)(w:zdk)(c:String)(d it:zdi)(ps:List (zdj×zdj))(I:yaf->Nat->Prop)(fp:zdi->Prop)(F:yaf->zdi->Prop):Prop where
 item:∀{A:zdt} {E:zdj->zds->Prop} {s:zds} {i:Nat} {x y:zdj} {Q:Option zdj->zds->Prop},ps[i]?=some (x,y)->I s.heap i->
  (∀h' t,I h' (i+1)->h'.IsTuple t #[x,y]->F s.heap t->(∀b o,¬fp b->s.heap.get? b=some o->h'.get? b=some o)->Q (some (.ref t)) {s with heap:=h' })->yaa (model prog w) A (yaY (.ref it)) Q E s
 fin:∀{A:zdt} {E:zdj->zds->Prop} {s:zds} {i:Nat} {Q:Option zdj->zds->Prop},A.handled=none->ps[i]?=none->I s.heap i->
  (∀h',(∀b o,¬fp b->s.heap.get? b=some o->h'.get? b=some o)->Q none {s with heap:=h' })->yaa (model prog w) A (yaY (.ref it)) Q E s
 kp:∀{h h':yaf} {i:Nat} {o:Obj},h.get? d=some o->o.cls=.type c->yat d h h'->I h i->I h' i
 nd:¬fp d
structure DW(prog:zdu)(w:zdk)(A:zdt)(d:zdi)(ps:List (zdj×zdj))(S:yaf->Nat->Prop):Prop where
 st:∀ {h:yaf} {i:Nat},S h i->∃o,h.get? d=some o/\o.cls=.type "dict"
 set:∀{E:zdj->zds->Prop} {s:zds} {i:Nat} {x y:zdj} {Q:Unit->zds->Prop},ps[i]?=some (x,y)->S s.heap i->(∀h' tk,S h' (i+1)->yat d s.heap h'->Q () {s with heap:=h',toks:=tk})->yaa (model prog w) A (dictSet d x y) Q E s
theorem PJ(W:PW prog w "dict" d it ps I fp F)(D:DW prog w A.in1 d ps S)(ks:∀ {h h' i},I h i->S h i->(∀b o,¬fp b->h.get? b=some o->h'.get? b=some o)->S h' i)(res:zdj)(hA:A.handled=none)(n:Nat):∀(i:Nat) (j:Int) (u:Tok) (s:zds),
 i+n=ps.length->I s.heap i->S s.heap i->
 (∀h' tk,S h' ps.length->(∀b o,b≠d->¬fp b->s.heap.get? b=some o->h'.get? b=some o)->R (.ok (.ret res)) {s with heap:=h',toks:=tk})->
 codeAny (model prog w) A (.builtin "dict.update.loop" ⟨[.ref d,.ref it,.int j u,res],[]⟩) R s:=by
 induction n with
 |zero=>
  intro i j u s hi st sd hR;refine ya0 Bt ?_;rw[yaF qV _];show yaa _ A.in1 (yaY (.ref it) >>= _) _ _ s;refine zdl (W.fin hA (zca (by lia)) st fun h' kp=>?_);show yaa _ _ (Builtin.Dict.addKeywords d [] >>= _) _ _ _;refine zdl (zdm (zdm (hR h' s.toks ?_ fun b o _ n e=>kp b o n e)));cases hi;exact ks st sd kp
 |succ n ih=>
  intro i j u s hi st sd hR;have lt:i<ps.length:=by lia
  refine ya0 Bt ?_;rw[yaF qV _];show yaa _ A.in1 (yaY (.ref it) >>= _) _ _ s;refine zdl (W.item (x:=ps[i].1) (y:=ps[i].2) (zac lt) st fun h' t Jq ⟨oq,hoq,hcq,nq,hdq⟩ _ kp=>?_);show yaa _ A.in1 (holding [yab t] _ >>= _) _ _ _;refine zdl (zdn (zdl (wpAny_tryCatch ?_)));unfold Builtin.Dict.pairItems;refine zdl (ya6 (T:="tuple") ⟨oq,hoq,hcq⟩ ?_);rw[ybr (by decide)];refine zdl (yam (s:={s with heap:=h' }) hoq hdq (zdm ?_));show yaa _ A.in1 (holding [ps[i].1,ps[i].2] (dictSet d ps[i].1 ps[i].2)) _ _ _;have sd':=ks st sd kp;obtain⟨od,hod,cod⟩:=D.st sd';refine zdn (D.set (s:={s with heap:=h' }) (zac lt) sd' fun h2 tk2 sd2 sb2=>zdm ⟨plainId_quiet qV _,?_⟩);exact ih (i+1) (j+1) _ _ (by lia) (W.kp hod cod sb2 Jq) sd2 fun h3 tk sd3 keep=>hR h3 tk sd3 fun b o n1 n2 e=>keep b o n1 n2 ((sb2.2 _ n1).trans (kp b o n2 e))
theorem DH(a:zdi){G:zdi->Prop}(hA:A.handled=none)(hT:∀s':zds,(∀b o,s.heap.get? b=some o->s'.heap.get? b=some o)->s'.TypeIs (.ref a) T)(nT:(ya2 T != .type "dict")=true)
 (D:DW prog w A.in1.in1 s.heap.objs.size ps S) (hS:∀h:yaf,h.get? s.heap.objs.size=some {cls:=.type "dict",data:=.dict #[]}->(∀b o,s.heap.get? b=some o->h.get? b=some o)->S h 0)
 (hk:∀(A:zdt) (E:zdj->zds->Prop) (s1:zds) (Q:Option zdj->zds->Prop),A.handled=none->(∀b o,s.heap.get? b=some o->s1.heap.get? b=some o)->(∀h' tk,(∀b o,s1.heap.get? b=some o->h'.get? b=some o)->Q none {s1 with heap:=h',toks:=tk})->yaa (model prog w) A (getAttr? (.ref a) "keys") Q E s1)
 (hw:∀(A:zdt) (E:zdj->zds->Prop) (s2:zds) (Q:zdj->zds->Prop),(∀b o,s.heap.get? b=some o->s2.heap.get? b=some o)->s.heap.objs.size<s2.heap.objs.size->(∀it h3 (I:yaf->Nat->Prop) fp F,(∀b o,s2.heap.get? b=some o->h3.get? b=some o)->PW prog w "dict" s.heap.objs.size it ps I fp F->I h3 0->(∀ {h h' i},I h i->S h i->(∀b o,¬fp b->h.get? b=some o->h'.get? b=some o)->S h' i)->(∀b o,s.heap.get? b=some o->fp b->G b)->Q (.ref it) {s2 with heap:=h3})->yaa (model prog w) A (pyIter (.ref a)) Q E s2)
 (h:∀h' tk,S h' ps.length->(∀b o,¬G b->s.heap.get? b=some o->h'.get? b=some o)->Q (.ref s.heap.objs.size) {s with heap:=h',toks:=tk}) :
 yaa (model prog w) A (call (.type "dict") [.ref a]) Q E s:=by
 refine callType_codes (Q₁:=fun obj s₁=>obj=.ref s.heap.objs.size/\s₁={s with heap:=s.heap.push {cls:=.type "dict",data:=.dict #[]} }) F.kt_called_dict (F.kt_typeCall_dict_1 _) F.entry_dict_init (kt_code_dict_new _ ⟨rfl,rfl⟩) ?_
 rintro obj s₁ ⟨rfl,rfl⟩
 have ho:(s.heap.push {cls:=.type "dict",data:=.dict #[]}).get? s.heap.objs.size=some {cls:=.type "dict",data:=.dict #[]}:=yae _ rfl;have PK:∀b o,s.heap.get? b=some o->(s.heap.push {cls:=.type "dict",data:=.dict #[]}).get? b=some o:=fun b o e=>yac _ e;refine⟨⟨_,ho,rfl⟩,F.args_dict_init_2 _ _,?_⟩;unfold Builtin.«dict.__init__»;refine zdl ?_;unfold Builtin.Dict.selfAndRest;refine zdl (wpAny_notOrdered_dict ⟨_,ho,rfl⟩ ?_);show yaa _ _ (pure (s.heap.objs.size,[yab a])) _ _ _;refine zdm ?_;show yaa _ _ (Builtin.Dict.updateFrom "dict.__init__" s.heap.objs.size (.ref a) [] .none) _ _ _;unfold Builtin.Dict.updateFrom;refine zdl (ya6 (hT _ PK) ?_);rw[ybr nT];refine zdl (hk _ _ {s with heap:=s.heap.push {cls:=.type "dict",data:=.dict #[]} } _ hA PK fun h2 tk2 DI=>?_);rw[ybr (show (none:Option zdj).isNone=true from rfl)];refine zdl (ya3 ?_);have Sb:=DI _ _ ho;have up:∀b o,s.heap.get? b=some o->h2.get? b=some o:=fun b o e=>DI b o (PK b o e);refine zdl (hw _ _ {s with heap:=h2,toks:=tk2} _ up (yad Sb) fun it h3 I fp F kp3 W st ks hf=>?_);refine zdm ⟨plainId_quiet qV _,?_⟩;refine PJ (A:=A.in1) W D ks .none hA ps.length 0 0 _ _ (zdd _) st (hS _ (kp3 _ _ Sb) fun b o e=>kp3 _ _ (up _ _ e)) fun h4 tk4 hd4 PN=>?_;refine⟨rfl,h h4 tk4 hd4 fun b o n e=>PN b o (fun w=>?_) (fun z=>n (hf b o e z)) (kp3 _ _ (up _ _ e))⟩;rw[w] at e;exact ybw (yad e) (zbv _)
theorem tup_ne{h:yaf}(ht:h.IsTuple t its)(ha:h.get? a=some o)(hc:o.cls=.type c)(n:c≠"tuple"):t≠a:=fun z=>by
 obtain⟨q,gq,cq,_⟩:=ht;rw[z,ha] at gq;cases gq;rw[hc] at cq;exact n (yaI cq)
theorem pw_list{qs:List (zdi×zdj×zdj)}(hi:items.toList=qs.map fun q=>yab q.1)(JL:it≠d) :
 PW prog w "dict" d it (qs.map (·.2)) (fun h i=>h.IsListIter it l i/\h.IsList l items/\∀q∈qs,h.IsTuple q.1 #[q.2.1,q.2.2]) (·=it) (fun _ _=>True) where
 item:=fun {A E s i x y Q} e ⟨h1,h2,h3⟩ hQ=>by
  rw[zaf] at e;obtain⟨q,eq,ex⟩:=zaT.mp e;have hx:items[i]?=some (.ref q.1):=by rw[<- zaV,hi,zaf,eq];rfl
  refine ybc h1 h2 hx fun h' it' sb=>?_;obtain⟨oi,hoi,hci,_⟩:=id h1;have kt:∀q∈qs,h'.IsTuple q.1 #[q.2.1,q.2.2]:=fun q hq=>by
   have n:=tup_ne (h3 q hq) hoi hci (by decide);obtain⟨o,g,r⟩:=h3 q hq;exact⟨o,(sb.2 _ n).trans g,r⟩
  refine hQ h' q.1 ⟨it',?_,kt⟩ (by have:=kt q (zaC eq);rwa [ex] at this) trivial fun b o n g=>(sb.2 b n).trans g;obtain⟨ol,hol,hcl,r⟩:=h2;exact⟨ol,(sb.2 l fun z=>by rw[z,hoi] at hol;cases hol;rw[hci] at hcl;exact ybw (yaI hcl) (by decide)).trans hol,hcl,r⟩
 fin:=fun {A E s i Q} hA e ⟨h1,h2,_⟩ hQ=>ybe hA h1 h2 (by rw[<- zaV,hi,zaf];rw[zaf] at e;cases z:qs[i]? with |none=>rfl |some q=>rw[z] at e;cases e) fun h' ext=>hQ h' fun b o n g=>ext b o n g
 kp:=fun {h h' i o} ho hd sb ⟨⟨oi,gi,ri⟩,⟨ol,gl,cl,r⟩,h3⟩=>by
  refine⟨⟨oi,(sb.2 _ JL).trans gi,ri⟩,⟨ol,(sb.2 _ fun z=>?_).trans gl,cl,r⟩,fun q hq=>?_⟩
  .rw[z,ho] at gl;cases gl;rw[hd] at cl;exact ybw (yaI cl) (by decide)
  .have n:=tup_ne (h3 q hq) ho hd (by decide);obtain⟨ot,gt,rt⟩:=h3 q hq;exact⟨ot,(sb.2 _ n).trans gt,rt⟩
 nd:=fun z=>JL z.symm
theorem G1(l:zdi)(hA:A.handled=none)(qs:List (zdi×zdj×zdj))(hx:s.heap.get? l=some ⟨.type "list",none,.seq items n,sl⟩)
 (hi:items.toList=qs.map fun q=>yab q.1) (hp:∀q∈qs,s.heap.IsTuple q.1 #[q.2.1,q.2.2]) (D:DW prog w A.in1.in1 s.heap.objs.size (qs.map (·.2)) S) (hS:∀h:yaf,h.get? s.heap.objs.size=some {cls:=.type "dict",data:=.dict #[]}->(∀b o,s.heap.get? b=some o->h.get? b=some o)->S h 0)
 (ks:∀{h h':yaf} {i:Nat},S h i->(∀o,h.get? s.heap.objs.size=some o->h'.get? s.heap.objs.size=some o)->Bu h h'->S h' i)
 (h:∀h' tk,S h' qs.length->(∀b o,s.heap.get? b=some o->h'.get? b=some o)->Q (.ref s.heap.objs.size) {s with heap:=h',toks:=tk}) :
 yaa (model prog w) A (call (.type "dict") [.ref l]) Q E s:=by
 refine DH l (T:="list") (G:=fun _=>False) hA (fun s' k=>⟨_,k _ _ hx,rfl⟩) (by decide) D hS (fun A E s1 Q hA k hQ=>Ni l (k _ _ hx) hA hQ) (fun A E s2 Q k lt hQ=>?_) fun h' tk hd kp=>h h' tk (by rwa [zab] at hd) fun b o e=>kp b o (fun z=>z) e;have XI:s2.heap.IsList l items:=⟨_,k _ _ hx,rfl,n,rfl⟩
 have up:∀b o,s2.heap.get? b=some o->(s2.heap.push {cls:=.type "list_iterator",data:=.fields #[.ref l,.int 0 0]}).get? b=some o:=fun b o e=>yac _ e;refine yaP XI (hQ s2.heap.objs.size _ _ (·=s2.heap.objs.size) _ up (pw_list hi (zbm lt)) ⟨⟨_,yae _ rfl,rfl,rfl⟩,?_,fun q hq=>?_⟩ (fun {h h' i} ⟨⟨oi,gi,ci,_⟩,_⟩ sd kp=>ks sd (fun o e=>kp _ _ (zay lt) e) fun b o e c=>kp b o (fun z=>?_) e) fun b o e z=>?_)
 .obtain⟨o,ho,rest⟩:=XI;exact⟨o,up _ _ ho,rest⟩
 .obtain⟨o,ho,rest⟩:=hp q hq;exact⟨o,up _ _ (k _ _ ho),rest⟩
 .rw[z,gi] at e;cases e;rw[ci] at c;exact ybw (yaI c) (by decide)
 .rw[z] at e;exact ybw (yad (k _ _ e)) (zbv _)
section
variable{Y:Type}[DecidableEq Y]
def Zn (knd:KeyKind prog w Y)(d:zdi)(m:List (Y×zdj))(h:yaf)(i:Nat):Prop:=∃kvs,h.DictOf knd d kvs/\merged kvs (m.drop i)=merged [] m/\kvs.length<=i
theorem UK{m:List (Y×zdj)}(h:yaf)(e:h.get? d=some {cls:=.type "dict",data:=.dict #[]}):Zn knd d m h 0:=⟨[],⟨_, #[],0,e,⟨rfl,rfl,rfl⟩,rfl,fun _ he=>by simp at he,.nil,.nil⟩,rfl,zah _⟩
theorem UL{m:List (Y×zdj)}(x:Zn knd d m h i)(k:∀o,h.get? d=some o->h'.get? d=some o):Zn knd d m h' i:=by
 obtain⟨kvs,⟨o,es,ep,ho,rest⟩,r⟩:=x;exact⟨kvs,⟨o,es,ep,k o ho,rest⟩,r⟩
theorem PQ{m:List (Y×zdj)}(x:Zn knd d m h i)(e:i=m.length):h.DictOf knd d (merged [] m):=by
 obtain⟨kvs,hd,e2,_⟩:=x;rw[e,zbP] at e2
 rwa [<- e2]
theorem UM(knd:KeyKind prog w Y){r:List (Y×zdj×zdj)}(hp:∀q∈r,knd.is q.1 q.2.1=true)(hz:r.length<=zdq):DW prog w A d (r.map (·.2)) (Zn knd d (r.map fun q=>(q.1,q.2.2))) where
 st:=fun ⟨_,⟨o,_,_,ho,hc,_⟩,_⟩=>⟨o,ho,hc.1⟩
 set:=fun {E s i x y Q} e ⟨kvs,hd,hm,hl⟩ hQ=>by
  rw[zaf] at e;obtain⟨q,eq,ex⟩:=zaT.mp e;obtain⟨lt,rfl⟩:=zaj.mp eq;obtain⟨rfl,rfl⟩:r[i].2.1=x/\r[i].2.2=y:=by rw[ex];exact⟨rfl,rfl⟩
  refine wpAny_dictSet_pairs (hp _ (zam lt)) hd (fun h' VH sb=>hQ h' _ ⟨_,VH,?_,zaz (stored_length_le ..) (by lia)⟩ sb) (by lia);rw[<- hm,zbc (i:=i) (by rw[zab];exact lt),zbz];rfl
theorem dict_list(knd:KeyKind prog w Y)(l:zdi)(hA:A.handled=none)(r:List (zdi×Y×zdj×zdj))(hx:s.heap.get? l=some ⟨.type "list",none,.seq items n,sl⟩)
 (hi:items.toList=r.map (fun q=>yab q.1)) (hp:∀q∈r,s.heap.IsTuple q.1 #[q.2.2.1,q.2.2.2]/\knd.is q.2.1 q.2.2.1=true) (hz:r.length<=zdq)
 (h:∀h' tk,h'.DictOf knd s.heap.objs.size (merged [] (r.map fun q=>(q.2.1,q.2.2.2)))->(∀b o,s.heap.get? b=some o->h'.get? b=some o)->Q (.ref s.heap.objs.size) {s with heap:=h',toks:=tk}) :
 yaa (model prog w) A (call (.type "dict") [.ref l]) Q E s:=by
 have D:=UM (prog:=prog) (w:=w) (A:=A.in1.in1) knd (d:=s.heap.objs.size) (r:=r.map (·.2)) (fun q hq=>by obtain⟨q',Lj,rfl⟩:=zar.mp hq;exact(hp q' Lj).2) (by rwa [zab]);rw[show (r.map (·.2)).map (·.2)=(r.map fun q=>(q.1,q.2.2)).map (·.2) by rw[zaB,zaB];rfl,show (r.map (·.2)).map (fun q:Y×zdj×zdj=>(q.1,q.2.2))=r.map fun q=>(q.2.1,q.2.2.2) by rw[zaB];rfl] at D;refine G1 l hA (r.map fun q=>(q.1,q.2.2)) hx (by rw[zaB];exact hi) (fun q hq=>by obtain⟨q',Lj,rfl⟩:=zar.mp hq;exact(hp q' Lj).1) D (fun h e _=>UK h e) (fun x k _=>UL x k) fun h' tk hd kp=>h h' tk (PQ hd (by rw[zab,zab])) kp
end
end
end L3
namespace L2
open PG
open PySem PyProof.Rows
theorem wN(hc:X.calm=true):sP X (.type "dict") (fun xs H Q=>∃(a:zdi) (ps:List (zdi×Key×V)),xs=[.ref a]/\jJ X.K H a (ps.map fun q=>V.ref q.1)/\(∀q∈ps,bG X.K H q.1 [kV q.2.1,q.2.2])/\ps.length<=zdq/\
 ∀p,H p=none->Q (.ref p) (upd H p (.dK (qQ [] (ps.map fun q=>(q.2.1,q.2.2)))))):=by
 intro pins s G H xs us Q I r h;obtain⟨a,ps,rfl,ha,hp,hz,q⟩:=h;obtain⟨u,rfl,ru⟩:=vals1 r;cases (show u=yab a from ru);obtain⟨its,v1,t1,_⟩:=I.list ha;obtain⟨⟨cls,dct,dat,sl⟩,n,e1,Wt,Zo,PR⟩:=t1;simp only at Wt Zo PR;subst Wt Zo PR;have mk:∀(l:List (zdi×Key×V)) (us:List zdj),Vals (l.map fun q=>V.ref q.1) us->(∀q∈l,bG X.K H q.1 [kV q.2.1,q.2.2])->∃r:List (zdi×Key×zdj×zdj),us=r.map (fun q=>yab q.1)/\r.length=l.length/\
  (∀q∈r,s.heap.IsTuple q.1 #[q.2.2.1,q.2.2.2]/\(bF X.prog X.w).is q.2.1 q.2.2.1=true)/\KV (l.map fun q=>(q.2.1,q.2.2)) (r.map fun q=>(q.2.1,q.2.2.2)):=by
  intro l
  induction l with
  |nil=>intro us v _;cases v;exact⟨[],rfl,rfl,fun _ z=>(by cases z),.nil⟩
  |cons x l ih=>
   intro us v hp;rw[zaq] at v;cases v with
   |cons v1 v2=>
    obtain⟨r,e,lr,hr,kv⟩:=ih _ v2 (fun q hq=>hp q (zao _ hq));obtain⟨pR,w1,tu,_⟩:=I.tuple (hp x (zaw ..));obtain⟨ku,vu,rfl,rk,rv⟩:=vals2 w1;cases v1;obtain⟨o,ho,hco,no,hdo⟩:=tu;refine⟨(x.1,x.2.1,ku,vu)::r,by rw[e];rfl,by simp[lr],fun q hq=>?_,.cons ⟨rfl,rv⟩ kv⟩;rcases zan.mp hq with rfl |hq
    .exact⟨⟨o,ho,hco,no,hdo⟩,xP rk⟩
    .exact hr q hq
 obtain⟨r',er,lr,hr,kv⟩:=mk ps its v1 hp;refine L3.dict_list (bF X.prog X.w) a (I.ok.hd hc) r' e1 (by simpa using er) hr (by lia) fun h' tk dd keep=>?_;have hn:=I.dW.fresh (zah s.heap.objs.size);have hb:(s.heap.objs.size==yal)=false:=beq_eq_false_iff_ne.mpr (Ne.symm (zay I.big));refine⟨.ref s.heap.objs.size,_,I.laid keep (zah _) (JK ?_ hb (kv.merge .nil) dd),rfl,q _ hn⟩;have h1:=pS (ps.map fun q=>(q.2.1,q.2.2)) [];rw[zaF,zab] at h1;lia
end L2
namespace L3
open PG
open PySem PyProof.Rows
section
variable{prog:zdu}{w:zdk}{A:zdt}{E:zdj->zds->Prop}{s:zds}
theorem JQ(hj:s.heap.IsTupleIter j tp k)(ht:s.heap.IsTuple tp its)(hv:its[k]?=some v)
 (hQ:∀h',h'.IsTupleIter j tp (k+1)->yat j s.heap h'->Q v {s with heap:=h' }):yaa (model prog w) A (yah (.ref j)) Q E s:=by
 obtain⟨oj,gj,cj,dj⟩:=id hj;obtain⟨ot,gt,_,nt,dt⟩:=ht;unfold yah;refine zdl (wpAny_callSpecial?_slot (name:=zad "__next__") hj.typeIs yaO (yap yaO hj.typeIs F.entry_tuple_iterator_next ?_ (F.args_tuple_iterator_next_1 _)));show yaa _ _ (field (.ref j) 0 >>= _) _ _ s;refine zdl (yak gj dj (x:=.ref tp) rfl ?_);show yaa _ _ (if (yab tp==yas)=true then _ else _) _ _ s;rw[ybq (show ¬((yab tp==yas)=true) from zag)];show yaa _ _ (field (.ref j) 1 >>= _) _ _ s;refine zdl (yak gj dj (x:=.int k 0) rfl ?_);show yaa _ _ (seqItems? (.ref tp) >>= _) _ _ s;refine zdl (yam gt dt ?_);simp only[zaP,hv];refine zdl (wpAny_setField gj dj (by simp) (zdm ⟨v,rfl,zdm (hQ _ ?_ (yaW ..))⟩));exact⟨_,yaw _ gj (Obj.isFreed_of_fields (ya9 dj _)),(Obj.cls_mapFields ..).trans cj,by rw[ya9 dj];simp[rawInt]⟩
theorem Bv(hh:A.handled=none)(hj:s.heap.IsTupleIter j tp k)(ht:s.heap.IsTuple tp its)(hv:its[k]?=none)
 (hE:∀h' e,ybl j s.heap h'->(∃o,h'.get? e=some o/\o.cls=.type "StopIteration")->E (.ref e) {s with heap:=h' }):yaa (model prog w) A (yah (.ref j)) Q E s:=by
 obtain⟨oj,gj,cj,dj⟩:=id hj;obtain⟨ot,gt,_,nt,dt⟩:=ht;unfold yah;refine zdl (wpAny_callSpecial?_slot (name:=zad "__next__") hj.typeIs yaO (yap yaO hj.typeIs F.entry_tuple_iterator_next ?_ (F.args_tuple_iterator_next_1 _)));show yaa _ _ (field (.ref j) 0 >>= _) _ _ s;refine zdl (yak gj dj (x:=.ref tp) rfl ?_);show yaa _ _ (if (yab tp==yas)=true then _ else _) _ _ s;rw[ybq (show ¬((yab tp==yas)=true) from zag)];show yaa _ _ (field (.ref j) 1 >>= _) _ _ s;refine zdl (yak gj dj (x:=.int k 0) rfl ?_);show yaa _ _ (seqItems? (.ref tp) >>= _) _ _ s;refine zdl (yam gt dt ?_);simp only[zaP,hv];refine zdl (ya3 (zdl (wpAny_setField gj dj (by simp) ?_)));show yaa _ _ (newExc (.type "StopIteration") [] >>= _) _ _ _;refine zdl ?_;simp only[newExc,newTuple];refine zdl (yaq ?_ (by size_fits));refine zdl (m:=firstArgMember _ _) (wpAny_of_eq (a:=yas) (by first |rfl |(simp only[firstArgMember];rfl)) ?_);refine yaq ?_ (by size_fits);simp only[raiseNew];refine zdl (wpAny_handled ?_)
 first |rw[show A.in1.handled=none from hh] |rw[hh]
 refine zdl (zdm (wpAny_throw ?_));exact hE _ _ (((yaW ..).extBut.push _).push _) ⟨_,yae _ rfl,rfl⟩
structure G2(prog:zdu)(w:zdk)(j tp:zdi)(ys:Array zdj)(I:yaf->Nat->Prop):Prop where
 Nj:∀{A:zdt} {E:zdj->zds->Prop} {s:zds} {i:Nat} {y:zdj} {Q:zdj->zds->Prop},I s.heap i->ys[i]?=some y->(∀h',I h' (i+1)->yat j s.heap h'->Q y {s with heap:=h' })->yaa (model prog w) A (yah (.ref j)) Q E s
 Zp:∀ {A:zdt} {E:zdj->zds->Prop} {s:zds} {i:Nat} {Q:zdj->zds->Prop},A.handled=none->I s.heap i->ys[i]?=none->(∀h' e,ybl j s.heap h'->(∃o,h'.get? e=some o/\o.cls=.type "StopIteration")->E (.ref e) {s with heap:=h' })->yaa (model prog w) A (yah (.ref j)) Q E s
 kp:∀{h h':yaf} {i:Nat},I h i->(∀b o,b=j\/b=tp->h.get? b=some o->h'.get? b=some o)->I h' i
theorem LR:G2 prog w j tp ys (fun h i=>h.IsTupleIter j tp i/\h.IsTuple tp ys) where
 Nj:=fun ⟨hj,ht⟩ hy hQ=>JQ hj ht hy fun h' XR sb=>hQ h' ⟨XR,by
  obtain⟨o,go,c,n,d⟩:=ht;refine⟨o,(sb.2 tp fun e=>?_).trans go,c,n,d⟩;obtain⟨r,gr,cr,_⟩:=hj;rw[e,gr] at go;cases go;rw[cr] at c;exact ybw (yaI c) (by decide)⟩ sb
 Zp:=fun hA ⟨hj,ht⟩ hy hE=>Bv hA hj ht hy hE
 kp:=fun ⟨⟨o,go,r⟩,q,gq,r2⟩ k=>⟨⟨o,k _ _ (.inl rfl) go,r⟩,q,k _ _ (.inr rfl) gq,r2⟩
theorem vn:G2 prog w j tp ys (fun h i=>h.IsListIter j tp i/\h.IsList tp ys) where
 Nj:=fun ⟨hj,ht⟩ hy hQ=>wpAny_nextOf_list_item hj ht hy fun h' XR sb=>hQ h' ⟨XR,by
  obtain⟨o,go,c,n,d⟩:=ht;refine⟨o,(sb.2 tp fun e=>?_).trans go,c,n,d⟩;obtain⟨r,gr,cr,_⟩:=hj;rw[e,gr] at go;cases go;rw[cr] at c;exact ybw (yaI c) (by decide)⟩ sb
 Zp:=fun hA ⟨hj,ht⟩ hy hE=>wpAny_nextOf_list_end hA hj ht hy fun h' e sb he=>hE h' e sb he
 kp:=fun ⟨⟨o,go,r⟩,q,gq,r2⟩ k=>⟨⟨o,k _ _ (.inl rfl) go,r⟩,q,k _ _ (.inr rfl) gq,r2⟩
abbrev CI (h:yaf) (z ti to:zdi) (f g:zdj):Prop:=h.get? z=some {cls:=.type "zip",dict:=none,data:=.fields #[f,g,.bool false,.ref ti,.ref to],slots:=#[]}
theorem G3{z ti to T:zdi}(hz:CI s.heap z ti to (.int T u) (.bool g))(hT:s.heap.get? T=some o)
 (h:∀h₀,CI h₀ z ti to (.int T u) (.bool true)->yat z s.heap h₀->R false {s with heap:=h₀}):yaa (model prog w) A (yai (.ref z)) R E s:=by
 unfold yai;refine zdl (yak hz rfl (x:=.int T u) rfl ?_);show yaa _ _ (loadIfAlive (T:Int).toNat >>= _) _ _ _;refine zdl ?_;have alive:∀{R:Option Obj->zds->Prop},R (some o) s->yaa (model prog w) A (loadIfAlive (T:Int).toNat) R E s:=fun h=>by
  rw[zaP];intro Γ p hp;unfold loadIfAlive;rw[Sem.wp_loadIfAlive,hT];exact h
 refine alive ?_;rw[ybq (by simp)];refine zdl (yak hz rfl (x:=.bool g) rfl ?_);cases g with
 |false=>
  rw[ybr (by decide)];exact zdl (yaE hz (by simp) fun h₀ LS sb=>zdm (h h₀ LS sb))
 |true=>
  rw[ybq (by decide)];exact zdm (h s.heap hz (Heap.SameBut.refl _ _))
section
variable{z ti to j1 j2 l tp:zdi}{xs ys:Array zdj}{I1 I2:yaf->Nat->Prop}{i:Nat}
theorem G2.one(Z1:G2 prog w j1 l xs I1)(D:ZipApart z ti to j1 j2 l tp)(k:∀c o,c≠z->c≠to->c≠j2->h.get? c=some o->h'.get? c=some o)(x:I1 h i):I1 h' i:=Z1.kp x fun b o hb e=>by
 rcases hb with rfl |rfl
 .exact k _ _ D.i1z D.TOi1.symm D.i12 e
 .exact k _ _ D.l1z D.l1TO D.l1i2 e
theorem G2.two(Z2:G2 prog w j2 tp ys I2)(D:ZipApart z ti to j1 j2 l tp)(k:∀c o,c≠z->c≠to->c≠j1->h.get? c=some o->h'.get? c=some o)(x:I2 h i):I2 h' i:=Z2.kp x fun b o hb e=>by
 rcases hb with rfl |rfl
 .exact k _ _ D.i2z D.TOi2.symm D.i12.symm e
 .exact k _ _ D.l2z D.l2TO D.l2i1 e
theorem JR{T:zdi}{Q:zdj->zds->Prop}(Z1:G2 prog w j1 l xs I1)(Z2:G2 prog w j2 tp ys I2)(D:ZipApart z ti to j1 j2 l tp)(hz:CI s.heap z ti to (.int T u) (.bool g))(hT:s.heap.get? T=some o)(hI:IsPair s.heap ti (.ref j1) (.ref j2))
 (h1:I1 s.heap i) (h2:I2 s.heap i) (hx:xs[i]?=some x) (hy:ys[i]?=some y)
 (hQ:∀h',CI h' z ti to (.int T u) (.bool true)->I1 h' (i+1)->I2 h' (i+1)->IsPair h' s.heap.objs.size x y->
  (∀c o,c≠z->c≠j1->c≠j2->s.heap.get? c=some o->h'.get? c=some o)->Q (.ref s.heap.objs.size) {s with heap:=h' }) :
 yaa (model prog w) A (Builtin.«zip.__next__» ⟨[.ref z],[]⟩) (fun fin s'=>∃v,fin=.done (.ret v)/\Q v s') E s:=by
 show yaa _ _ (field (.ref z) 2 >>= _) _ _ _;refine zdl (yak hz rfl (x:=.bool false) rfl ?_);show yaa _ _ (field (.ref z) 3 >>= _) _ _ _;refine zdl (yak hz rfl (x:=.ref ti) rfl ?_);refine zdl (yam hI rfl ?_);show yaa _ _ (yai (.ref z) >>= _) _ _ _;refine zdl (G3 hz hT fun h₀ LS Bw=>?_);dsimp only;rw[ybq zag];refine zdl ?_;simp only[List.forIn_toArray,zaM,zbn];refine zdl (zdl (zdn ?_));show yaa _ _ (yah (.ref j1) >>= _) _ _ _;refine zdl (Z1.Nj (s:={s with heap:=h₀}) (Z1.one D (fun c o n _ _ e=>Bw.extBut _ _ n e) h1) hx fun h₂ Zq jB=>zdm ?_);refine zdm ?_;refine zdl (zdl (zdn ?_));show yaa _ _ (yah (.ref j2) >>= _) _ _ _;refine zdl (Z2.Nj (s:={s with heap:=h₂}) (Z2.two D (fun c o n _ m e=>jB.extBut _ _ m (Bw.extBut _ _ n e)) h2) hy fun h₃ Zr lG=>zdm ?_);refine zdm (zdm ?_);show yaa _ _ (newTuple [x,y] >>= _) _ _ _;have hsz:h₃.objs.size=s.heap.objs.size:=by rw[lG.1,jB.1,Bw.1]
 refine zdl (wpAny_newTuple (s:={s with heap:=h₃}) ?_);refine zdm ⟨_,rfl,?_⟩;show Q (.ref h₃.objs.size) _;have hp:IsPair (h₃.push {cls:=.type "tuple",data:=.seq #[x,y]}) h₃.objs.size x y:=yae _ rfl;have PR:(h₃.push {cls:=.type "tuple",data:=.seq #[x,y]}).objs.size=h₃.objs.size+1:=yaC ..;rw[hsz] at hp PR ⊢;have up:∀c o,h₃.get? c=some o->(h₃.push {cls:=.type "tuple",data:=.seq #[x,y]}).get? c=some o:=fun c o e=>yac _ e;exact hQ _ (up _ _ (lG.extBut _ _ D.i2z.symm (jB.extBut _ _ D.i1z.symm LS))) (Z1.one D (fun c o _ _ n e=>up _ _ (lG.extBut _ _ n e)) Zq) (Z2.two D (fun c o _ _ _ e=>up _ _ e) Zr) hp fun c o c1 c2 c3 e=>up _ _ (lG.extBut _ _ c3 (jB.extBut _ _ c2 (Bw.extBut _ _ c1 e)))
theorem Nk{T:zdi}(Z1:G2 prog w j1 l xs I1)(D:ZipApart z ti to j1 j2 l tp)(hA:A.handled=none)(hz:CI s.heap z ti to (.int T u) (.bool g))(hT:s.heap.get? T=some o)(hI:IsPair s.heap ti (.ref j1) (.ref j2))
 (h1:I1 s.heap i) (hx:xs[i]?=none)
 (hE:∀h' e,(∀c o,c≠z->c≠j1->s.heap.get? c=some o->h'.get? c=some o)->(∃o,h'.get? e=some o/\o.cls=.type "StopIteration")->E (.ref e) {s with heap:=h' }) :
 yaa (model prog w) A (Builtin.«zip.__next__» ⟨[.ref z],[]⟩) Q E s:=by
 show yaa _ _ (field (.ref z) 2 >>= _) _ _ _;refine zdl (yak hz rfl (x:=.bool false) rfl ?_);show yaa _ _ (field (.ref z) 3 >>= _) _ _ _;refine zdl (yak hz rfl (x:=.ref ti) rfl ?_);refine zdl (yam hI rfl ?_);show yaa _ _ (yai (.ref z) >>= _) _ _ _;refine zdl (G3 hz hT fun h₀ LS Bw=>?_);dsimp only;rw[ybq zag];refine zdl ?_;simp only[List.forIn_toArray,zaM,zbn];refine zdl (zdl (zdn ?_));show yaa _ _ (yah (.ref j1) >>= _) _ _ _;exact zdl (Z1.Zp (s:={s with heap:=h₀}) hA (Z1.one D (fun c o n _ _ e=>Bw.extBut _ _ n e) h1) hx fun h₂ e jB he=>hE h₂ e (fun c o c1 c2 q=>jB _ _ c2 (Bw.extBut _ _ c1 q)) he)
theorem JS{Q:zdj->zds->Prop}(Z1:G2 prog w j1 l xs I1)(Z2:G2 prog w j2 tp ys I2)(D:ZipApart z ti to j1 j2 l tp)(hz:CI s.heap z ti to .none (.bool false))(hO:IsPair s.heap to a b)(hI:IsPair s.heap ti (.ref j1) (.ref j2))
 (h1:I1 s.heap i) (h2:I2 s.heap i) (hx:xs[i]?=some x) (hy:ys[i]?=some y)
 (hQ:∀h',CI h' z ti to (rawInt s.heap.objs.size) (.bool false)->IsPair h' to x y->I1 h' (i+1)->I2 h' (i+1)->IsPair h' s.heap.objs.size x y->h'.objs.size=s.heap.objs.size+1->
  (∀c o,c≠z->c≠to->c≠j1->c≠j2->s.heap.get? c=some o->h'.get? c=some o)->Q (.ref s.heap.objs.size) {s with heap:=h' }) :
 yaa (model prog w) A (Builtin.«zip.__next__» ⟨[.ref z],[]⟩) (fun fin s'=>∃v,fin=.done (.ret v)/\Q v s') E s:=by
 show yaa _ _ (field (.ref z) 2 >>= _) _ _ _;refine zdl (yak hz rfl (x:=.bool false) rfl ?_);show yaa _ _ (field (.ref z) 3 >>= _) _ _ _;refine zdl (yak hz rfl (x:=.ref ti) rfl ?_);refine zdl (yam hI rfl ?_);show yaa _ _ (yai (.ref z) >>= _) _ _ _;refine zdl ?_;unfold yai;refine zdl (yak hz rfl (x:=.none) rfl (zdm ?_));simp only[if_true];refine zdl (ya3 ?_);refine zdl (yak hz rfl (x:=.ref to) rfl ?_);refine zdl (yaE hz (by simp) fun h₁ z₁ sQ=>?_);replace z₁:CI h₁ z ti to .ellipsis (.bool false):=z₁;refine zdl ?_;simp only[List.zipIdx_cons,List.zipIdx_nil,zaM,zbn];refine zdl (zdl (wpAny_onRaise ?_));show yaa _ _ (yah (.ref j1) >>= _) _ _ _;refine zdl (Z1.Nj (Z1.one D (fun c o n _ _ e=>sQ.extBut _ _ n e) h1) hx fun h₂ k₂ jB=>zdm ?_);have o₂:IsPair h₂ to a b:=jB.extBut _ _ D.TOi1 (sQ.extBut _ _ D.TOz hO);refine zdl (yam o₂ rfl ?_);refine zdl (wpAny_updateSeq_pair o₂ fun h₃ o₃ lG=>?_);replace o₃:IsPair h₃ to x b:=o₃;refine zdl (wpAny_letGo (zdm ?_));refine zdl (zdl (wpAny_onRaise ?_));show yaa _ _ (yah (.ref j2) >>= _) _ _ _;refine zdl (Z2.Nj (Z2.two D (fun c o n m q e=>lG.extBut _ _ m (jB.extBut _ _ q (sQ.extBut _ _ n e))) h2) hy fun h₄ k₄ Au=>zdm ?_);have o₄:IsPair h₄ to x b:=Au.extBut _ _ D.TOi2 o₃;refine zdl (yam o₄ rfl ?_);refine zdl (wpAny_updateSeq_pair o₄ fun h₅ o₅ Av=>?_);replace o₅:IsPair h₅ to x y:=o₅;refine zdl (wpAny_letGo (zdm (zdm ?_)));refine zdl (yam o₅ rfl ?_);refine zdl (wpAny_newTuple ?_);have hsz:h₅.objs.size=s.heap.objs.size:=by rw[Av.1,Au.1,lG.1,jB.1,sQ.1]
 have z₅:CI h₅ z ti to .ellipsis (.bool false):=Av.extBut _ _ D.TOz.symm (Au.extBut _ _ D.i2z.symm (lG.extBut _ _ D.TOz.symm (jB.extBut _ _ D.i1z.symm z₁)));have kp:∀c o,c≠z->c≠to->c≠j1->c≠j2->s.heap.get? c=some o->h₅.get? c=some o:=fun c o c1 c2 c3 c4 e=>Av.extBut _ _ c2 (Au.extBut _ _ c4 (lG.extBut _ _ c2 (jB.extBut _ _ c3 (sQ.extBut _ _ c1 e))));have zlt:z<h₅.objs.size:=yad z₅;show yaa _ _ (yba (.ref z) (.ref h₅.objs.size) >>= _) _ _ _;refine zdl ?_;unfold yba;have z₆:CI (h₅.push {cls:=.type "tuple",data:=.seq #[x,y]}) z ti to .ellipsis (.bool false):=yac _ z₅;refine zdl (yaE z₆ (by simp) fun h₇ z₇ PU=>?_);replace z₇:CI h₇ z ti to (rawInt h₅.objs.size) (.bool false):=z₇;refine yaE z₇ (by simp) fun h₈ z₈ PV=>?_;replace z₈:CI h₈ z ti to (rawInt h₅.objs.size) (.bool false):=z₈;have up:∀c o,c≠z->h₅.get? c=some o->h₈.get? c=some o:=fun c o c1 e=>PV.extBut _ _ c1 (PU.extBut _ _ c1 (yac _ e));have t₈:IsPair h₈ h₅.objs.size x y:=PV.extBut _ _ (zbm zlt) (PU.extBut _ _ (zbm zlt) (yae _ rfl));have n₈:h₈.objs.size=h₅.objs.size+1:=by rw[PV.1,PU.1,yaC]
 rw[hsz] at z₈ t₈ n₈;refine zdm ⟨_,rfl,?_⟩;show Q (.ref h₅.objs.size) _;rw[hsz];exact hQ h₈ z₈ (up _ _ D.TOz o₅) (Z1.one D (fun c o n m q e=>up _ _ n (Av.extBut _ _ m (Au.extBut _ _ q (lG.extBut _ _ m e)))) k₂) (Z2.two D (fun c o n m _ e=>up _ _ n (Av.extBut _ _ m e)) k₄) t₈ n₈ fun c o c1 c2 c3 c4 e=>up c o c1 (kp c o c1 c2 c3 c4 e)
theorem Nl(Z1:G2 prog w j1 l xs I1)(Z2:G2 prog w j2 tp ys I2)(hh:A.handled=none)(D:ZipApart z ti to j1 j2 l tp)(hz:CI s.heap z ti to .none (.bool false))(hO:IsPair s.heap to a b)(hI:IsPair s.heap ti (.ref j1) (.ref j2))
 (h1:I1 s.heap i) (h2:I2 s.heap i) (ade:xs[i]?=none\/ys[i]?=none)
 (hE:∀h' e,(∀c o,c≠z->c≠to->c≠j1->c≠j2->s.heap.get? c=some o->h'.get? c=some o)->(∃o,h'.get? e=some o/\o.cls=.type "StopIteration")->E (.ref e) {s with heap:=h' }) :
 yaa (model prog w) A (Builtin.«zip.__next__» ⟨[.ref z],[]⟩) Q E s:=by
 show yaa _ _ (field (.ref z) 2 >>= _) _ _ _;refine zdl (yak hz rfl (x:=.bool false) rfl ?_);show yaa _ _ (field (.ref z) 3 >>= _) _ _ _;refine zdl (yak hz rfl (x:=.ref ti) rfl ?_);refine zdl (yam hI rfl ?_);show yaa _ _ (yai (.ref z) >>= _) _ _ _;refine zdl ?_;unfold yai;refine zdl (yak hz rfl (x:=.none) rfl (zdm ?_));simp only[if_true];refine zdl (ya3 ?_);refine zdl (yak hz rfl (x:=.ref to) rfl ?_);refine zdl (yaE hz (by simp) fun h₁ z₁ sQ=>?_);replace z₁:CI h₁ z ti to .ellipsis (.bool false):=z₁;refine zdl ?_;simp only[List.zipIdx_cons,List.zipIdx_nil,zaM,zbn];refine zdl (zdl (wpAny_onRaise ?_));show yaa _ _ (yah (.ref j1) >>= _) _ _ _;cases hx:xs[i]? with
 |none=>
  refine zdl (Z1.Zp hh (Z1.one D (fun c o n _ _ e=>sQ.extBut _ _ n e) h1) hx fun h₂ e jB he=>?_);obtain⟨oe,ge,ce⟩:=he;have z₂:CI h₂ z ti to .ellipsis (.bool false):=jB _ _ D.i1z.symm z₁;have ez:e≠z:=fun q=>by subst q;rw[z₂] at ge;cases ge;simp at ce
  exact yaE z₂ (by simp) fun h₃ _ lG=>hE h₃ e (fun c o c1 _ c3 _ q=>lG.extBut _ _ c1 (jB _ _ c3 (sQ.extBut _ _ c1 q))) ⟨oe,lG.extBut _ _ ez ge,ce⟩
 |some x=>
  have hy:ys[i]?=none:=by
   rcases ade with h |h
   .rw[hx] at h;cases h
   .exact h
  refine zdl (Z1.Nj (Z1.one D (fun c o n _ _ e=>sQ.extBut _ _ n e) h1) hx fun h₂ k₂ jB=>zdm ?_);have o₂:IsPair h₂ to a b:=jB.extBut _ _ D.TOi1 (sQ.extBut _ _ D.TOz hO);refine zdl (yam o₂ rfl ?_);refine zdl (wpAny_updateSeq_pair o₂ fun h₃ o₃ lG=>?_);refine zdl (wpAny_letGo (zdm ?_));refine zdl (zdl (wpAny_onRaise ?_));show yaa _ _ (yah (.ref j2) >>= _) _ _ _;refine zdl (Z2.Zp hh (Z2.two D (fun c o n m q e=>lG.extBut _ _ m (jB.extBut _ _ q (sQ.extBut _ _ n e))) h2) hy fun h₄ e Au he=>?_);obtain⟨oe,ge,ce⟩:=he;have z₄:CI h₄ z ti to .ellipsis (.bool false):=Au _ _ D.i2z.symm (lG.extBut _ _ D.TOz.symm (jB.extBut _ _ D.i1z.symm z₁));have ez:e≠z:=fun q=>by subst q;rw[z₄] at ge;cases ge;simp at ce
  exact yaE z₄ (by simp) fun h₅ _ Av=>hE h₅ e (fun c o c1 c2 c3 c4 q=>Av.extBut _ _ c1 (Au _ _ c4 (lG.extBut _ _ c2 (jB.extBut _ _ c3 (sQ.extBut _ _ c1 q))))) ⟨oe,Av.extBut _ _ ez ge,ce⟩
end
structure Sg(h:yaf)(z ti to j1 j2:zdi)(I1 I2:yaf->Nat->Prop)(i:Nat):Prop where
 zip:(∃a b,CI h z ti to .none (.bool false)/\IsPair h to a b)\/∃(T:zdi) (u:Tok) (a b:zdj) (g:Bool),CI h z ti to (.int T u) (.bool g)/\IsPair h T a b
 ins:IsPair h ti (.ref j1) (.ref j2)
 Wu:I1 h i
 XS:I2 h i
theorem Sg.ty(st:Sg s.heap z ti to j1 j2 I1 I2 i):∃vs,s.heap.get? z=some ⟨.type "zip",none,.fields vs, #[]⟩:=by
 rcases st.zip with ⟨a,b,hz,_⟩ |⟨T,u,a,b,g,hz,_⟩
 .exact⟨_,hz⟩
 .exact⟨_,hz⟩
theorem EU(ht:IsPair h t x y)(ha:h.get? a=some o)(hc:o.cls=.type c)(n:c≠"tuple"):t≠a:=tup_ne (its:=#[x,y]) ⟨_,ht,rfl,_,rfl⟩ ha hc n
theorem pw_zip(nc:c≠"tuple")(Z1:G2 prog w j1 l xs I1)(Z2:G2 prog w j2 tp ys I2)(D:ZipApart z ti to j1 j2 l tp)
 (cl:∀ {h:yaf} {i:Nat},I1 h i->I2 h i->(∃o c,h.get? j1=some o/\o.cls=.type c/\c≠"tuple")/\∃o c,h.get? j2=some o/\o.cls=.type c/\c≠"tuple")
 (hx:xs.toList=ps.map (·.1)) (hy:ys.toList=ps.map (·.2)) (nd:∀c,c=z\/c=ti\/c=to\/c=j1\/c=j2\/c=l\/c=tp->c≠d) :
 PW prog w c d z ps (Sg · z ti to j1 j2 I1 I2) (fun b=>b=z\/b=to\/b=j1\/b=j2) (fun h t=>t=h.objs.size) where
 item:=fun {A E s i x y Q} e st hQ=>by
  have ex:xs[i]?=some x:=by rw[<- zaV,hx,zaf,e];rfl
  have ey:ys[i]?=some y:=by rw[<- zaV,hy,zaf,e];rfl
  obtain⟨vs,gz⟩:=st.ty;have zT:s.TypeIs (.ref z) "zip":=⟨_,gz,rfl⟩
  have tp':∀{h:yaf} {t:zdi},IsPair h t x y->h.IsTuple t #[x,y]:=fun h=>⟨_,h,rfl,_,rfl⟩
  have kn:∀{b:zdi},¬(b=z\/b=to\/b=j1\/b=j2)->b≠z/\b≠to/\b≠j1/\b≠j2:=fun n=>⟨fun z=>n (.inl z),fun z=>n (.inr (.inl z)),fun z=>n (.inr (.inr (.inl z))),fun z=>n (.inr (.inr (.inr z)))⟩
  unfold yaY;refine zdl (wpAny_attempt (wpAny_callSpecial?_slot (name:=zad "__next__") zT ybi (yap ybi zT F.entry_zip_next ?_ (F.args_zip_next_1 _))));rcases st.zip with ⟨a,b,hz,hO⟩ |⟨T,u,a,b,g,hz,hT⟩
  .refine JS Z1 Z2 D hz hO st.ins st.Wu st.XS ex ey fun h' q1 q0 q2 q3 q4 q5 q6=>zdm ?_;exact hQ h' _ ⟨.inr ⟨_,_,x,y,false,q1,q4⟩,q6 _ _ D.TIz D.TITO D.TIi1 D.TIi2 st.ins,q2,q3⟩ (tp' q4) rfl fun b o n e=>q6 b o (kn n).1 (kn n).2.1 (kn n).2.2.1 (kn n).2.2.2 e
  .refine JR Z1 Z2 D hz hT st.ins st.Wu st.XS ex ey fun h' q1 q2 q3 q4 q6=>zdm ?_;obtain⟨⟨o1,c1,g1,e1,n1⟩,o2,c2,g2,e2,n2⟩:=cl st.Wu st.XS;exact hQ h' _ ⟨.inr ⟨T,u,a,b,true,q1,q6 _ _ (EU hT gz rfl (by decide)) (EU hT g1 e1 n1) (EU hT g2 e2 n2) hT⟩,q6 _ _ D.TIz D.TIi1 D.TIi2 st.ins,q2,q3⟩ (tp' q4) rfl fun b o n e=>q6 b o (kn n).1 (kn n).2.2.1 (kn n).2.2.2 e
 fin:=fun {A E s i Q} hA e st hQ=>by
  have ex:xs[i]?=none:=by rw[<- zaV,hx,zaf,e];rfl
  obtain⟨vs,gz⟩:=st.ty;have zT:s.TypeIs (.ref z) "zip":=⟨_,gz,rfl⟩
  unfold yaY;refine zdl (wpAny_attempt (wpAny_callSpecial?_slot (name:=zad "__next__") zT ybi (yap ybi zT F.entry_zip_next ?_ (F.args_zip_next_1 _))));have fin:∀h' e,(∀b o,¬(b=z\/b=to\/b=j1\/b=j2)->s.heap.get? b=some o->h'.get? b=some o)->(∃o,h'.get? e=some o/\o.cls=.type "StopIteration")->yaa (model prog w) A (do if <- isInstance (.ref e) (.type "StopIteration") then pure none else throw (.ref e)) Q E {s with heap:=h' }:=fun h' e k ⟨oe,ge,ce⟩=>
   zdl (yaB (T:="StopIteration") (b:=true) ⟨oe,ge,ce⟩ isSubtype_stop (zdm (hQ _ k)))
  rcases st.zip with ⟨a,b,hz,hO⟩ |⟨T,u,a,b,g,hz,hT⟩
  .exact Nl Z1 Z2 hA D hz hO st.ins st.Wu st.XS (.inl ex) fun h' e k he=>fin h' e (fun b o n g=>k b o (fun z=>n (.inl z)) (fun z=>n (.inr (.inl z))) (fun z=>n (.inr (.inr (.inl z)))) (fun z=>n (.inr (.inr (.inr z)))) g) he
  .exact Nk Z1 D hA hz hT st.ins st.Wu ex fun h' e k he=>fin h' e (fun b o n g=>k b o (fun z=>n (.inl z)) (fun z=>n (.inr (.inr (.inl z)))) g) he
 kp:=fun {h h' i o} ho hd sb st=>by
  have kc:∀c o,c=z\/c=ti\/c=to\/c=j1\/c=j2\/c=l\/c=tp->h.get? c=some o->h'.get? c=some o:=fun c o hc e=>(sb.2 c (nd c hc)).trans e;refine⟨?_,kc _ _ (.inr (.inl rfl)) st.ins,Z1.kp st.Wu fun b o hb e=>kc b o (hb.elim (fun z=>.inr (.inr (.inr (.inl z)))) fun z=>.inr (.inr (.inr (.inr (.inr (.inl z)))))) e,Z2.kp st.XS fun b o hb e=>kc b o (hb.elim (fun z=>.inr (.inr (.inr (.inr (.inl z))))) fun z=>.inr (.inr (.inr (.inr (.inr (.inr z)))))) e⟩;rcases st.zip with ⟨a,b,hz,hO⟩ |⟨T,u,a,b,g,hz,hT⟩
  .exact .inl ⟨a,b,kc _ _ (.inl rfl) hz,kc _ _ (.inr (.inr (.inl rfl))) hO⟩
  .refine .inr ⟨T,u,a,b,g,kc _ _ (.inl rfl) hz,(sb.2 T fun z=>?_).trans hT⟩;have hT:h.get? T=_:=hT;rw[z,ho] at hT;cases hT;exact nc (yaI hd).symm
 nd:=fun z=>by rcases z with z |z |z |z<;>exact nd d (by simp[<- z]) rfl
theorem PX:typeLookup (.type "zip") "keys"=pure none:=by rw[typeLookup_type,yaD];kernel_rfl
theorem PY:typeLookup (.type "zip") "__getattr__"=pure none:=by rw[typeLookup_type,yaD];kernel_rfl
theorem EW:entryFor table "zip.__getattribute__"=some Builtin.«object.__getattribute__»:=entryFor_alias (id':="object.__getattribute__") (by kernel_rfl) (by first |rfl |decide +kernel) (by decide +kernel) (by kernel_rfl)
theorem Nm(a:zdi)(u:Tok){os:OsState}(hx:hp.get? a=some ⟨.type "zip",none,.fields vs, #[]⟩)(hA:A.handled=none)
 (h:∀h' Ts e,Heap.NewAttrErr hp h' e (.ref a) "keys"->E (.ref e) ⟨h',g,d,Ts,os⟩) :
 yaa (model prog w) A (Builtin.«object.__getattribute__» ⟨[.ref a,.str "keys" u],[]⟩) Q E ⟨hp,g,d,tk,os⟩:=by
 have hT:(⟨hp,g,d,tk,os⟩:zds).TypeIs (.ref a) "zip":=⟨_,hx,rfl⟩
 have f4:=PX;unfold Builtin.«object.__getattribute__»
 repeat (any_goals (first |assumption |wp_step))
 exact wpAny_raiseAttrError hA h (attrMsg_fits (by decide +kernel) (by size_fits))
theorem JT(a:zdi)(hx:s.heap.get? a=some ⟨.type "zip",none,.fields vs, #[]⟩)(hA:A.handled=none)
 (h:∀h' tk,(∀b ob,s.heap.get? b=some ob->h'.get? b=some ob)->Q none {s with heap:=h',toks:=tk}):yaa (model prog w) A (getAttr? (.ref a) "keys") Q E s:=by
 obtain⟨hp,g,d,tk,os⟩:=s;have hT:∀Ts,(⟨hp,g,d,Ts,os⟩:zds).TypeIs (.ref a) "zip":=fun _=>⟨_,hx,rfl⟩
 have f1:=sub_AttributeError;have f2:=yaX.lookup;have f3:=yaX.bind (.ref a);have f5:=PY;unfold getAttr? getAttrBy? getAttrBy
 repeat (any_goals (first |assumption |exact hT _ |wp_step))
 all_goals
  refine codeAny_call_builtin yaX.plain EW (yaX.check _ _ _ _ _ _ _ _ (show (⟨hp,g,d,tk+1,os⟩:zds).TypeIs (.ref a) "zip" from ⟨_,hx,rfl⟩) (F.args_zip_getattribute_2 _ _) ?_)
 all_goals
  refine Nm a tk hx hA fun h' Ts e ne=>?_
 all_goals
  obtain⟨t',u',he⟩:=ne.there;show yaa _ _ (getattributeRaised _ _ _ _ _ _ _) _ _ _;unfold getattributeRaised
  repeat (any_goals (first |assumption |wp_step))
 all_goals exact h _ _ ne.keeps
end
noncomputable abbrev zA (h:yaf) (l:zdi):yaf:=h.push {cls:=.type "list_iterator",data:=.fields #[.ref l,.int 0 0]}
abbrev zB (h:yaf) (l tp:zdi) (c:String):yaf:=(zA h l).push {cls:=.type c,data:=.fields #[.ref tp,.int 0 0]}
abbrev zC (h:yaf) (l tp:zdi) (c:String):yaf:=(zB h l tp c).push {cls:=.type "tuple",data:=.seq #[.ref h.objs.size,.ref (zA h l).objs.size]}
abbrev zD (h:yaf) (l tp:zdi) (c:String):yaf:=(zC h l tp c).push {cls:=.type "tuple",data:=.seq #[.none,.none]}
abbrev zE (h:yaf) (l tp:zdi) (c:String):yaf:=(zD h l tp c).push {cls:=.type "zip",data:=.fields #[.none,.bool false,.bool false,.ref (zB h l tp c).objs.size,.ref (zC h l tp c).objs.size]}
def ItC (tp:zdi)(c:String)(P:Obj->Prop):Prop:=∀{prog:zdu} {w:zdk} {A:zdt} {E:zdj->zds->Prop} {s:zds} {Q:zdj->zds->Prop},(∃o,s.heap.get? tp=some o/\P o)->Q (.ref s.heap.objs.size) {s with heap:=s.heap.push {cls:=.type c,data:=.fields #[.ref tp,.int 0 0]} }->yaa (model prog w) A (pyIter (.ref tp)) Q E s
theorem PZ(l tp:zdi)(xs:Array zdj)(k:ItC tp c P):Meets (Builtin.«zip.__new__» ⟨[.type "zip",.ref l,.ref tp],[]⟩) (fun _ R s=>s.heap.IsList l xs/\(∃o,s.heap.get? tp=some o/\P o)/\R (.ok (.ret (.ref (zD s.heap l tp c).objs.size))) {s with heap:=zE s.heap l tp c}):=
 .of_wp fun prog w A R s h=>by
  obtain⟨hp,g,d,tk,os⟩:=s;obtain⟨g1,⟨o,go,po⟩,h⟩:=h;have ajp:=sub_zip;have k1:Heap.IsList (Shared.heap ⟨hp,g,d,tk,os⟩) l xs:=g1;have k2:∀ {A E Q},_->yaa (model prog w) A (pyIter (.ref tp)) Q E (⟨hp.push {cls:=.type "list_iterator",data:=.fields #[.ref l,.int 0 0]},g,d,tk,os⟩:zds):=fun {A E Q}=>k (prog:=prog) (w:=w) (A:=A) (E:=E) (Q:=Q) ⟨o,yac _ go,po⟩
  wp_walk using yaP k1,k2
  exact⟨_,rfl,h⟩
section
variable{prog:zdu}{w:zdk}{A:zdt}{E:zdj->zds->Prop}{s:zds}
theorem JU(n l tp:Nat)(h1:l<n)(h2:tp<n):ZipApart (n+4) (n+2) (n+3) n (n+1) l tp:=by
 constructor<;>(show (_:Nat)≠_;lia)
theorem G4(k:ItC tp c P)(hl:s.heap.IsList l xs)(ht:∃o,s.heap.get? tp=some o/\P o)
 (i2:∀{h':yaf},h'.get? (s.heap.objs.size+1)=some {cls:=.type c,data:=.fields #[.ref tp,.int 0 0]}->(∃o,h'.get? tp=some o/\P o)->I2 h' 0)
 (h:∀h',ZipApart (s.heap.objs.size+4) (s.heap.objs.size+2) (s.heap.objs.size+3) s.heap.objs.size (s.heap.objs.size+1) l tp->Sg h' (s.heap.objs.size+4) (s.heap.objs.size+2) (s.heap.objs.size+3) s.heap.objs.size (s.heap.objs.size+1) (fun h i=>h.IsListIter s.heap.objs.size l i/\h.IsList l xs) I2 0->
  CI h' (s.heap.objs.size+4) (s.heap.objs.size+2) (s.heap.objs.size+3) .none (.bool false)->(∀c o,s.heap.get? c=some o->h'.get? c=some o)->Q (.ref (s.heap.objs.size+4)) {s with heap:=h' }) :
 yaa (model prog w) A (call (.type "zip") [.ref l,.ref tp]) Q E s:=by
 refine callType_new F.called_zip (by decide) (F.typeCall_zip_2 _ _) (F.newCall_zip_2 _ _) (fun obj=>F.args_object_init_3 obj _ _) F.entry_zip_new (PZ l tp xs k) ⟨hl,ht,?_⟩;have z1:(zA s.heap l).objs.size=s.heap.objs.size+1:=yaC ..;have z2:(zB s.heap l tp c).objs.size=s.heap.objs.size+2:=by rw[yaC,z1]
 have z3:(zC s.heap l tp c).objs.size=s.heap.objs.size+3:=by rw[yaC,z2]
 have z4:(zD s.heap l tp c).objs.size=s.heap.objs.size+4:=by rw[yaC,z3]
 have g5:(zE s.heap l tp c).get? (zD s.heap l tp c).objs.size=some _:=yae _ rfl;have u1:∀{h:yaf} {a:zdi} {o:Obj} (p:Obj),h.get? a=some o->(h.push p).get? a=some o:=fun p e=>yac p e;have g4:(zE s.heap l tp c).get? (zC s.heap l tp c).objs.size=some _:=u1 _ (yae _ rfl);have g3:(zE s.heap l tp c).get? (zB s.heap l tp c).objs.size=some _:=u1 _ (u1 _ (yae _ rfl));have g2:(zE s.heap l tp c).get? (zA s.heap l).objs.size=some _:=u1 _ (u1 _ (u1 _ (yae _ rfl)));have g1:(zE s.heap l tp c).get? s.heap.objs.size=some _:=u1 _ (u1 _ (u1 _ (u1 _ (yae _ rfl))));have up:∀a o,s.heap.get? a=some o->(zE s.heap l tp c).get? a=some o:=fun a o e=>u1 _ (u1 _ (u1 _ (u1 _ (u1 _ e))));show _/\_;rw[z2,z3,z4] at g5;rw[z1,z2] at g3;rw[z3] at g4;rw[z1] at g2;rw[z4];obtain⟨ol,gl,rl⟩:=id hl;obtain⟨ot,gt,rt⟩:=id ht;exact⟨⟨_,g5,rfl⟩,h _ (JU _ _ _ (yad gl) (yad gt)) ⟨.inl ⟨_,_,g5,g4⟩,g3,⟨⟨_,g1,rfl,rfl⟩,ol,up _ _ gl,rl⟩,i2 g2 ⟨ot,up _ _ gt,rt⟩⟩ g5 up⟩
theorem G5(Z1:G2 prog w j1 l xs I1)(Z2:G2 prog w j2 tp ys I2)(st:Sg h z ti to j1 j2 I1 I2 i)(k:∀b o,h.get? b=some o->h'.get? b=some o):Sg h' z ti to j1 j2 I1 I2 i:=by
 refine⟨?_,k _ _ st.ins,Z1.kp st.Wu fun b o _ e=>k _ _ e,Z2.kp st.XS fun b o _ e=>k _ _ e⟩;rcases st.zip with ⟨a,b,e1,e2⟩ |⟨T,u,a,b,g,e1,e2⟩
 .exact .inl ⟨a,b,k _ _ e1,k _ _ e2⟩
 .exact .inr ⟨T,u,a,b,g,k _ _ e1,k _ _ e2⟩
theorem P0{Y:Type}[DecidableEq Y](knd:KeyKind prog w Y)(hA:A.handled=none)(D:ZipApart z ti to j1 j2 l tp)(st:Sg s.heap z ti to j1 j2 (fun h i=>h.IsListIter j1 l i/\h.IsList l xs) (fun h i=>h.IsTupleIter j2 tp i/\h.IsTuple tp ys) 0)(gz:CI s.heap z ti to .none (.bool false))(r:List (Y×zdj×zdj))
 (hi:xs.toList=r.map (·.2.1)) (hk:ys.toList=r.map (·.2.2)) (hp:∀q∈r,knd.is q.1 q.2.1=true) (hz:r.length<=zdq) (lt:∀c,c=z\/c=ti\/c=to\/c=j1\/c=j2\/c=l\/c=tp->c<s.heap.objs.size)
 (h:∀h' tk,h'.DictOf knd s.heap.objs.size (merged [] (r.map fun q=>(q.1,q.2.2)))->(∀b o,¬(b=z\/b=to\/b=j1\/b=j2)->s.heap.get? b=some o->h'.get? b=some o)->Q (.ref s.heap.objs.size) {s with heap:=h',toks:=tk}) :
 yaa (model prog w) A (call (.type "dict") [.ref z]) Q E s:=by
 have W:PW prog w "dict" s.heap.objs.size z (r.map (·.2)) (Sg · z ti to j1 j2 (fun h i=>h.IsListIter j1 l i/\h.IsList l xs) (fun h i=>h.IsTupleIter j2 tp i/\h.IsTuple tp ys)) _ _:=pw_zip (by decide) vn LR D (fun {h i} ⟨⟨o1,g1,c1,_⟩,_⟩ ⟨⟨o2,g2,c2,_⟩,_⟩=>⟨⟨o1,_,g1,c1,by decide⟩,o2,_,g2,c2,by decide⟩) (by rw[zaB];exact hi) (by rw[zaB];exact hk) fun c hc=>zay (lt c hc);exact DH z (T:="zip") (G:=fun b=>b=z\/b=to\/b=j1\/b=j2) hA (fun s' k=>⟨_,k _ _ gz,rfl⟩) (by decide) (UM knd hp hz) (fun h e _=>UK h e) (fun A E s1 Q hA k hQ=>JT z (k _ _ gz) hA hQ)
  (fun A E s2 Q k _ hQ=>wpAny_pyIter_zip (k _ _ gz) (hQ z s2.heap _ _ _ (fun b o e=>e) W (G5 (prog:=prog) (w:=w) vn LR st k) (fun _ x kp=>UL x fun o=>kp _ _ W.nd) fun b o _ x=>x)) fun h' tk x=>h h' tk (PQ x (by rw[zab,zab]))
end
end L3
namespace L2
open PG
open PySem PyProof.Rows
def tDZ (K:zaa)(t:TA):TE:=fun G H Q=>t G H fun xs H1=>∃(a b:zdi) (ks:List Key) (vs:List V),xs=[.ref a,.ref b]/\jJ K H1 a (ks.map kV)/\bG K H1 b vs/\vs.length=ks.length/\∀p,H1 p=none->Q (.ref p) (upd H1 p (.dK (qQ [] (ks.zip vs))))
theorem JV(hc:X.calm=true){p1 p2 Qa zH:Pos}(XT:Gl X "dict")(hm1:X.mg "dict"=none)(hg2:Gl X "zip")(XU:X.mg "zip"=none)(ha:PA X [ea,eb] t)
 (he:zdo [ea,eb] X.env=(false,eval ea X.env)::zdo [eb] X.env:=by rfl) (Ge:(backTo zH (zdo [eb] X.env)).any (·.1)=false:=by rfl)
 (Wo:zdo [.Call (.Name "zip" p2) [ea,eb] [] zH] X.env=(false,eval (.Call (.Name "zip" p2) [ea,eb] [] zH) X.env)::zdo [] X.env:=by rfl) :
 PE X (.Call (.Name "dict" p1) [.Call (.Name "zip" p2) [ea,eb] [] zH] [] Qa) (tDZ X.K t):=by
 intro pins s Y H Q I h;refine yax (qN I XT hm1 ybz ?_ (by decide) (by decide));refine za7 ?_ Wo rfl;rw[Wo];show yaa _ _ (spliced ((false,eval (.Call (.Name "zip" p2) [ea,eb] [] zH) X.env)::backTo Qa (zdo [] X.env))) _ _ s;refine ybm ?_;refine yax (qN I hg2 XU ybH ?_ (by decide) (by decide));refine za7 (ib (ha zH pins s Y H _ I h) fun us s1 zqz=>?_) he Ge;obtain⟨xs,H1,I1,r1,q1⟩:=zqz;obtain⟨a,b,ks,vs,rfl,ha1,hb1,lk,q⟩:=q1;obtain⟨u1,u2,rfl,ru1,ru2⟩:=vals2 r1;cases (show u1=yab a from ru1);cases (show u2=yab b from ru2);obtain⟨Tt,v1,t1,z1⟩:=I1.list ha1;obtain⟨pR,v2,t2,z2⟩:=I1.tuple hb1;have mk:∀(ks:List Key) (vs:List V) (Nn LU:List zdj),Vals (ks.map kV) Nn->Vals vs LU->vs.length=ks.length->∃r:List (Key×zdj×zdj),Nn=r.map (·.2.1)/\LU=r.map (·.2.2)/\(∀q∈r,(bF X.prog X.w).is q.1 q.2.1=true)/\KV (ks.zip vs) (r.map fun q=>(q.1,q.2.2))/\r.length=ks.length:=by
  intro ks
  induction ks with
  |nil=>
   intro vs Nn LU w1 w2 l;have:vs=[]:=zbw.mp l;subst this;cases w1;cases w2;exact⟨[],rfl,rfl,fun _ z=>(by cases z),.nil,rfl⟩
  |cons k ks ih=>
   intro vs Nn LU w1 w2 l;cases vs with
   |nil=>simp at l
   |cons v vs=>
    rw[zaq] at w1;cases w1 with
    |@cons _ ku _ kus w11 w12=>
     cases w2 with
     |@cons _ vu _ vus w21 w22=>
      obtain⟨r,e1,e2,h3,h4,h5⟩:=ih vs kus vus w12 w22 (by simpa using l);refine⟨(k,ku,vu)::r,by rw[e1];rfl,by rw[e2];rfl,fun q hq=>?_,.cons ⟨rfl,w21⟩ h4,by simp[h5]⟩;rcases zan.mp hq with rfl |hq
      .exact xP w11
      .exact h3 q hq
 obtain⟨r,e1,e2,kis,kv,lr⟩:=mk ks vs Tt pR v1 v2 lk;rw[zab] at z1;refine L3.G4 (c:="tuple_iterator") (fun a b=>wpAny_pyIter_tuple a b) (I2:=fun h i=>h.IsTupleIter (s1.heap.objs.size+1) b i/\h.IsTuple b pR.toArray) t1.isList (show s1.heap.IsTuple b pR.toArray from t2) (fun e x=>⟨⟨_,e,rfl,rfl⟩,x⟩) fun h' ap st gz keep=>?_;refine Calls.spliced_nil ?_;have big:(s1.heap.objs.size+4:Nat)<h'.objs.size:=yad gz;have hle:s1.heap.objs.size<=h'.objs.size:=by lia
 obtain⟨ol,gl,_⟩:=id t1.isList;obtain⟨ot,gt,_⟩:=id (show s1.heap.IsTuple b pR.toArray from t2);have la:=yad gl;have lb:=yad gt;refine L3.P0 (s:={s1 with heap:=h' }) (bF X.prog X.w) (I1.ok.hd hc) ap st gz r (by simpa using e1) (by simpa using e2) kis (by lia) (fun c hc=>?_) fun h2 tk dd DI=>?_
 .show (c:Nat)<h'.objs.size;rcases hc with rfl |rfl |rfl |rfl |rfl |rfl |rfl<;>lia
 have hn:=I1.dW.fresh hle;have hb:(h'.objs.size==yal)=false:=beq_eq_false_iff_ne.mpr (Ne.symm (zay (zaE I1.big hle)));refine⟨.ref h'.objs.size,_,I1.laid (fun c o e=>DI c o (fun z=>?_) (keep c o e)) hle (JK ?_ hb (kv.merge .nil) dd),rfl,q _ hn⟩
 .have lc:(c:Nat)<s1.heap.objs.size:=yad e;rcases z with rfl |rfl |rfl |rfl<;>lia
 .have h1:=pS (ks.zip vs) [];rw[zaF,zbs] at h1;lia
section
variable{K:zaa}{H H':Hp}{p C dx:zdi}{fs:List (Str×V)}
mutual
theorem vo(h:H p=some (.ins C dx fs))(u:aN (·=p) H H'):∀(d:Dp)(v:V),Rep K H d v->Rep K H' d v
 |.cH,v,r=>by rw[Rep.kO] at r |-;exact r
 |.bl b,v,r=>by rw[Rep.Bn] at r |-;exact r
 |.int b,v,r=>by rw[Rep.bu] at r |-;exact r
 |.str b,v,r=>by rw[Rep.aZ] at r |-;exact r
 |.lst l,v,r=>by
  rw[Rep.bD] at r |-;obtain⟨a,ys,rfl,q,rs⟩:=r;refine⟨a,ys,rfl,?_,qt h u l ys rs⟩;rcases q with (q |⟨o,q⟩) |q
  .exact .inl (.inl (u _ _ (b5 q h (by intro z;cases z)) q))
  .exact .inl (.inr ⟨o,u _ _ (b5 q h (by intro z;cases z)) q⟩)
  .exact .inr q
 |.tup l,v,r=>by
  rw[Rep.aJ] at r |-;obtain⟨a,ys,rfl,q,rs⟩:=r;refine⟨a,ys,rfl,?_,qt h u l ys rs⟩;rcases q with (q |⟨o,q⟩) |q
  .exact .inl (.inl (u _ _ (b5 q h (by intro z;cases z)) q))
  .exact .inl (.inr ⟨o,u _ _ (b5 q h (by intro z;cases z)) q⟩)
  .exact .inr q
theorem qt(h:H p=some (.ins C dx fs))(u:aN (·=p) H H'):∀(ds:List Dp)(vs:List V),aC K H ds vs->aC K H' ds vs
 |[],vs,r=>by rw[aC.aO] at r |-;exact r
 |d::ds,vs,r=>by
  rw[aC.av] at r |-;obtain⟨v,t,rfl,r1,r2⟩:=r;exact⟨v,t,rfl,vo h u d v r1,qt h u ds t r2⟩
end
end
theorem wO{K:zaa}{r:St}(kf:Nat->Key×V)(hS:jJ K H a xs)(hl:xs.length<=16000000)(hD:H D=none)
 (step:∀i x H2,xs[i]?=some x->ao H H2->∀R:VK,(∀p,H2 p=none->R (.ref p) (upd H2 p (.tup [kV (kf i).1,(kf i).2])))->te (some x::r) H2 R)
 (q:∀(ps:List (zdi×Key×V)) H2,ao H H2->H2 D=some (.lst (ps.map fun q=>V.ref q.1))->(∀q∈ps,H2 q.1=some (.tup [kV q.2.1,q.2.2]))->ps.map (·.2)=(zaS xs.length).map kf->Q (.ref D) H2) :
 jf (AZ K a) D (cF 0) me te Q (none::r) (upd H D (.lst [])):=by
 refine dP (K:=K) (fun i ys H2=>∃ps:List (zdi×Key×V),ys=ps.map (fun q=>V.ref q.1)/\(∀q∈ps,H2 q.1=some (.tup [kV q.2.1,q.2.2]))/\ps.map (·.2)=(zaS i).map kf) hS hl hD ⟨[],rfl,fun _ z=>(by cases z),rfl⟩ ?_ ?_
 .rintro i x ys H2 hx s2 oh ly ⟨ps,rfl,LV,ep⟩ R hR
  refine step i x H2 hx s2 R fun p hp=>hR _ _ (ao.new hp _) ⟨ps++[(p,kf i)],by simp,fun q hq=>?_,by rw[zas,ep,zb5,zas];rfl⟩;have pD:D≠p:=aj oh hp;rcases zak.mp hq with hq |hq
  .have e:=LV q hq;rw[aI (b5 e oh (by intro z;cases z))];exact ao.new hp _ _ _ e
  .rw[zai.mp hq];show upd (upd H2 p _) D _ p=_;rw[aI pD.symm,ah]
 .rintro ys H2 s2 oh ⟨ps,rfl,LV,ep⟩
  exact q ps H2 s2 oh LV ep
theorem qu{K:zaa}{r:St}(f:Nat->V)(hS:jJ K H a xs)(hl:xs.length<=16000000)(hD:H D=none)
 (step:∀i x H2,xs[i]?=some x->ao H H2->∀R:VK,R (f i) H2->te (some x::r) H2 R)
 (q:∀H2,ao H H2->H2 D=some (.lst ((zaS xs.length).map f))->Q (.ref D) H2):jf (AZ K a) D (cF 0) me te Q (none::r) (upd H D (.lst [])):=by
 refine dP (K:=K) (fun i ys H2=>ys=(zaS i).map f) hS hl hD rfl ?_ ?_
 .rintro i x ys H2 hx s2 oh ly rfl R hR
  exact step i x H2 hx s2 R (hR _ _ (ao.refl _) (by rw[zb5,zas];rfl))
 .rintro ys H2 s2 oh rfl
  exact q H2 s2 oh
structure A7(K:zaa)(C:zdi)(H:Hp)(p:zdi)(pr:PG.Prog):Prop where
 at_:∃(dx nl sd fa va st wy:zdi) (us ws:List V),H p=some (.ins C dx [("names",.ref nl),("sizes",.ref sd),("first",.ref fa),("statements",.ref st),("ways",.ref wy)])/\H dx=some (.own p)/\
  H nl=some (.lst (pr.ar.map fun b=>.str (S b.name)))/\H sd=some (.dK (pr.ar.map fun b=>(.inr (S b.name),.int b.size)))/\
  H fa=some (.tup [.int (br pr.body 0),.ref va])/\H va=some (.tup (pr.ar.map fun b=>.int b.first))/\
  us.length=(au pr.body).length/\H st=some (.dK (cP (au pr.body) us))/\aC K H ((au pr.body).map b3) us/\
  ws.length=(aP pr.body 0).length/\H wy=some (.dK (zbR (fun r v=>(Sum.inl r.1,v)) (aP pr.body 0) ws))/\∀i (hi:i<(aP pr.body 0).length),∃q,ws[i]?=some (.ref q)/\bG K H q ((aP pr.body 0)[i].2.2.map V.int)
section
variable(K:zaa)(C:zdi)
inductive LW(vs:List V)(H:Hp)(Q:VK)(E:XK):Prop
 |mk (p dx:zdi) (v:V) (pr:PG.Prog):vs=[.ref p,v]->H p=some (.ins C dx [])->H dx=some (.own p)->Rep K H (gC pr) v->dg pr.body<=3->(gM pr.body).length<=1000->(au pr.body).Pairwise (fun a b=>a.row<b.row)->(pr.ar.map (·.name)).Nodup->pr.ar.length<=10->(∀H',a9 p H H'->A7 K C H' p pr->Q .cH H')->LW vs H Q E
end
end L2
namespace L2
open PG
open PySem
def Wv (kvs:List (Key×V))(x:W):Int:=match bZ kvs (.inr (S x)) with
 |some (.int i)=>i
 |_=>0
def Jd (kvs:List (Key×V)):PM.Tr->Prop
 |.num n=>n.natAbs<=2 ^ 12
 |.box x=>∃i:Int,bZ kvs (.inr (S x))=some (.int i)/\i.natAbs<=2 ^ 12
 |.bin o l r=>(o=[43]\/o=[45]\/o=[42])/\Jd kvs l/\Jd kvs r
theorem JW(h:bZ kvs (.inr (S x))=some (.int i)):Wv kvs x=i:=by
 unfold Wv;rw[h]
theorem qv:∀{t:PM.Tr},Jd kvs t->(iw (Wv kvs) t).natAbs<=2 ^ (14*2 ^ dQ t)
 |.num n,h=>by
  rw[Jd] at h;rw[iw];simp only[dQ];exact zaz h (zaD (by decide) (by decide))
 |.box x,h=>by
  rw[Jd] at h;obtain⟨i,e,hi⟩:=h;rw[iw,JW e];simp only[dQ];exact zaz hi (zaD (by decide) (by decide))
 |.bin o l r,h=>by
  rw[Jd] at h;have hl:=qv h.2.1;have hr:=qv h.2.2;have one:∀a b:Nat,1<=2 ^ max a b:=fun a b=>Nat.one_le_two_pow;have ml:(iw (Wv kvs) l).natAbs<=2 ^ (14*2 ^ max (dQ l) (dQ r)):=zaz hl (zaD (by decide) (zc9 _ (zaD (by decide) (Nat.le_max_left _ _))));have mr:(iw (Wv kvs) r).natAbs<=2 ^ (14*2 ^ max (dQ l) (dQ r)):=zaz hr (zaD (by decide) (zc9 _ (zaD (by decide) (Nat.le_max_right _ _))));rw[dQ,show 14*2 ^ (max (dQ l) (dQ r)+1)=14*2 ^ max (dQ l) (dQ r)+14*2 ^ max (dQ l) (dQ r) by rw[zcN];lia];have k14:14<=14*2 ^ max (dQ l) (dQ r):=Nat.le_mul_of_pos_right _ (one _ _);generalize 14*2 ^ max (dQ l) (dQ r)=k at *;have two:2<=2 ^ k:=zaz (by decide:2<=2 ^ 1) (zaD (by decide) (by lia));rw[Nat.pow_add];have b2:2*2 ^ k<=2 ^ k*2 ^ k:=Nat.mul_le_mul_right _ two;have ab:=zaz (Nat.add_le_add ml mr) (by rw[<- Nat.two_mul];exact b2);rw[iw];split
  .exact zaz (Int.natAbs_add_le _ _) ab
  .split
   .rw[Int.sub_eq_add_neg];refine zaz (Int.natAbs_add_le _ _) ?_;rw[Int.natAbs_neg];exact ab
   .rw[Int.natAbs_mul];exact zcB ml mr
theorem EX{a:Int}(h:a.natAbs<=2 ^ (14*2 ^ d))(hd:d<=6):a.natAbs<2 ^ 4000:=by
 refine zb3 h (Nat.pow_lt_pow_right (by decide) ?_);have:2 ^ d<=2 ^ 6:=zaD (by decide) hd;lia
section
variable(K:zaa)
inductive Zs(n:Nat)(vs:List V)(H:Hp)(Q:VK)(E:XK):Prop
 |mk (v:V) (d:zdi) (tr:PM.Tr) (kvs:List (Key×V)):vs=[v,.ref d]->Rep K H (iD tr) v->H d=some (.dK kvs)->Jd kvs tr->dQ tr<n->dQ tr<=6->(∀H',ao H H'->Q (.int (iw (Wv kvs) tr)) H')->Zs n vs H Q E
end
theorem A7.mono(c:A7 K C H p pr)(s:ao H H'):A7 K C H' p pr:=by
 obtain⟨dx,nl,sd,fa,va,st,wy,us,ws,h1,h2,h3,h4,h5,h6,h7,h8,h9,Ww,Np,Wx⟩:=c.at_;exact⟨⟨dx,nl,sd,fa,va,st,wy,us,ws,s _ _ h1,s _ _ h2,s _ _ h3,s _ _ h4,s _ _ h5,s _ _ h6,h7,s _ _ h8,h9.mono s,Ww,s _ _ Np,fun i hi=>let ⟨q,e,r⟩:=Wx i hi;⟨q,e,s.aS r⟩⟩⟩
theorem nK{Z L:Type}(g:Z->L)(d:Z)(l:List Z):(zaS l.length).map (fun i=>g (l.getD i d))=l.map g:=by
 apply zcr
 .simp
 .intro i h1 h2;simp at h1 h2;simp[h2]
def cL (bs:List jc)(vs:List V):List (Key×V):=zbR (fun b v=>(Sum.inr (S b.name),v)) bs vs
theorem Bx:∀(bs:List jc)(vs:List V),(bs.map fun b=>(Sum.inr (S b.name):Key)).zip vs=cL bs vs
 |[],vs=>by simp[cL]
 |b::bs,[]=>by simp[cL]
 |b::bs,v::vs=>by
  show _::(bs.map fun b=>(Sum.inr (S b.name):Key)).zip vs=_::cL bs vs;rw[Bx bs vs]
theorem Aw:∀(bs:List jc)(vs:List V),vs.length=bs.length->(cL bs vs).map (·.1)=bs.map fun b=>(Sum.inr (S b.name):Key)
 |[],[],_=>rfl
 |[],_::_,h=>by simp at h
 |_::_,[],h=>by simp at h
 |b::bs,v::vs,h=>by
  show _::(cL bs vs).map (·.1)=_;rw[Aw bs vs (by simpa using h)];rfl
theorem names_nodup{bs:List jc}(nb:(bs.map (·.name)).Nodup):(bs.map fun b=>(Sum.inr (S b.name):Key)).Nodup:=by
 refine za4.mpr ((za4.mp nb).imp fun {a b} Gg e=>Gg ?_);exact xU.mp (Sum.inr.inj e)
theorem nM:∀(bs:List jc)(vs:List V),vs.length=bs.length->(bs.map (·.name)).Nodup->∀i (hi:i<bs.length) v,vs[i]?=some v->bZ (cL bs vs) (.inr (S bs[i].name))=some v
 |[],_,_,_,i,hi,_,_=>by simp at hi
 |_::_,[],h,_,_,_,_,_=>by simp at h
 |b::bs,v::vs,h,nb,0,hi,u,hu=>by
  simp at hu;subst hu;show bZ ((_,v)::cL bs vs) _=_;exact cX rfl
 |b::bs,v::vs,h,nb,i+1,hi,u,hu=>by
  rw[zaq,zbr] at nb;have mem:(bs[i]'(by simpa using hi)).name∈bs.map (·.name):=zar.mpr ⟨_,zam _,rfl⟩;show bZ ((.inr (S b.name),v)::cL bs vs) (.inr (S (bs[i]'(by simpa using hi)).name))=_;rw[cI (fun e=>by have e:=xU.mp (Sum.inr.inj e);exact nb.1 (e▸mem))];exact nM bs vs (by simpa using h) nb.2 i (by simpa using hi) u (by simpa using hu)
section
variable(K:zaa)(C:zdi)
inductive DJ(vs:List V)(H:Hp)(Q:VK)(E:XK):Prop
 |mk (p a:zdi) (pr:PG.Prog) (us:List V):vs=[.ref p,.ref a]->A7 K C H p pr->bG K H a us->us.length=pr.ar.length->(pr.ar.map (·.name)).Nodup->pr.ar.length<=10->(∀d H',ao H H'->H d=none->H' d=some (.dK (cL pr.ar us))->Q (.ref d) H')->DJ vs H Q E
inductive DK(vs:List V)(H:Hp)(Q:VK)(E:XK):Prop
 |mk (p d:zdi) (pr:PG.Prog) (kvs:List (Key×V)) (us:List V):vs=[.ref p,.ref d]->A7 K C H p pr->H d=some (.dK kvs)->us.length=pr.ar.length->(∀i (hi:i<pr.ar.length),bZ kvs (.inr (S pr.ar[i].name))=us[i]?)->pr.ar.length<=10->(∀a H',ao H H'->bG K H' a us->Q (.ref a) H')->DK vs H Q E
inductive G6(vs:List V)(H:Hp)(Q:VK)(E:XK):Prop
 |mk (p:zdi) (pr:PG.Prog) (row:Int):vs=[.ref p,.int row]->A7 K C H p pr->(au pr.body).Pairwise (fun a b=>a.row<b.row)->((row=0/\Q (.str "end") H)\/(row≠0/\∃i,∃hi:i<(au pr.body).length,(au pr.body)[i].row=row/\Q (.str (qj (au pr.body)[i].wd)) H))->G6 vs H Q E
end
noncomputable def oR:aT->Option (W×PM.Tr×PM.Tr)
 |.bE _ sg l r=>some (sg,l,r)
 |.ifs _ sg l r _ _=>some (sg,l,r)
 |.fM _ sg l r _=>some (sg,l,r)
 |_=>none
noncomputable def ju (sg:W)(a b:Int):Bool:=if sg=[60] then decide (a<b) else decide (a=b)
def wv (bs:List jc)(vals:List Int)(e:PM.Tr):Int:=iw (Wv (cL bs (vals.map V.int))) e
abbrev G7 (bs:List jc) (vals:List Int) (e:PM.Tr):Prop:=Jd (cL bs (vals.map V.int)) e/\dQ e<=2
theorem By(h:Rep K H (b3 st) v)(c:oR st=some (sg,l,r)):∃a w0 vl vr ys,v=.ref a/\bG K H a (w0 :: .int st.row :: .str (S sg)::vl::vr::ys)/\Rep K H (iD l) vl/\Rep K H (iD r) vr:=by
 have key:∃w ds,b3 st=.tup (.str w :: .int st.row :: .str (S sg)::iD l::iD r::ds):=by
  cases st<;>simp only[oR,za1.injEq,Prod.mk.injEq,reduceCtorEq] at c<;>obtain⟨rfl,rfl,rfl⟩:=c<;>exact⟨_,_,by rw[b3];rfl⟩
 obtain⟨w0,ds,e⟩:=key;rw[e,Rep.aJ] at h;obtain⟨a,xs,rfl,q,rs⟩:=h;rw[aC.av] at rs;obtain⟨v0,t0,rfl,_,rs⟩:=rs;rw[aC.av] at rs;obtain⟨v1,t1,rfl,e1,rs⟩:=rs;rw[aC.av] at rs;obtain⟨v2,t2,rfl,e2,rs⟩:=rs;rw[aC.av] at rs;obtain⟨v3,t3,rfl,e3,rs⟩:=rs;rw[aC.av] at rs;obtain⟨v4,t4,rfl,e4,rs⟩:=rs;rw[Rep.bu] at e1;rw[Rep.aZ] at e2;subst e1 e2;exact⟨a,v0,v3,v4,t4,rfl,q,e3,e4⟩
def bR (K:zaa)(H:Hp)(sa:zdi)(row:Int)(vals:List Int):Prop:=∃va,bG K H sa [.int row,.ref va]/\bG K H va (vals.map V.int)
theorem bR.mono(h:bR K H sa row vals)(s:ao H H'):bR K H' sa row vals:=by obtain⟨va,h1,h2⟩:=h;exact⟨va,s.aS h1,s.aS h2⟩
structure Nq(pr:PG.Prog):Prop where
 pw:(au pr.body).Pairwise (fun a b=>a.row<b.row)
 nb:(pr.ar.map (·.name)).Nodup
 om:pr.ar.length<=10
 pos:∀s∈au pr.body,0<s.row
section
variable(K:zaa)(C:zdi)
inductive LX(vs:List V)(H:Hp)(Q:VK)(E:XK):Prop
 |mk (p sa:zdi) (pr:PG.Prog) (vals:List Int) (i:Nat) (hi:i<(au pr.body).length) (sg:W) (l r:PM.Tr):vs=[.ref p,.ref sa]->A7 K C H p pr->Nq pr->bR K H sa (au pr.body)[i].row vals->vals.length=pr.ar.length->oR (au pr.body)[i]=some (sg,l,r)->G7 pr.ar vals l->G7 pr.ar vals r->(∀H',ao H H'->Q (.bl (ju sg (wv pr.ar vals l) (wv pr.ar vals r))) H')->LX vs H Q E
end
theorem DL:∀(fl:List cT)(vs:List V),vs.length=fl.length->fl.Pairwise (fun a b=>a.1<b.1)->∀i (hi:i<fl.length) v,vs[i]?=some v->bZ (zbR (fun r v=>((Sum.inl r.1:Key),v)) fl vs) (.inl fl[i].1)=some v
 |[],_,_,_,i,hi,_,_=>by simp at hi
 |_::_,[],h,_,_,_,_,_=>by simp at h
 |s::ss,v::vs,h,hp,0,hi,u,hu=>by
  simp at hu;subst hu;rw[zc0];exact cX rfl
 |s::ss,v::vs,h,hp,i+1,hi,u,hu=>by
  rw[zbA] at hp;have lt:=hp.1 (ss[i]'(by simpa using hi)) (zam _);rw[zc0];show bZ _ (Sum.inl (ss[i]'(by simpa using hi)).1:Key)=_;rw[cI (fun e=>by have e:=Sum.inl.inj e;lia)];exact DL ss vs (by simpa using h) hp.2 i (by simpa using hi) u (by simpa using hu)
theorem jh(b:List aT)(i:Nat)(hi:i<(au b).length):∃hf:i<(aP b 0).length,(aP b 0)[i].1=(au b)[i].row/\(aP b 0)[i].2.1=(au b)[i].wd:=by
 have e:((aP b 0).map fun r=>(r.1,r.2.1))=(au b).map fun x=>(x.row,x.wd):=by rw[gB,ij]
 have l:=ybv zaQ e;rw[zab,zab] at l;have hf:i<(aP b 0).length:=by lia
 refine⟨hf,?_⟩;have h1:((aP b 0).map fun r=>(r.1,r.2.1))[i]?=((au b).map fun x=>(x.row,x.wd))[i]?:=by rw[e]
 rw[zaf,zaf,zac hf,zac hi] at h1;have h1:=za1.inj h1;exact⟨ybv Prod.fst h1,ybv Prod.snd h1⟩
theorem Nr(pw:(au b).Pairwise fun a b=>a.row<b.row):(aP b 0).Pairwise fun a b=>a.1<b.1:=by
 have e:((aP b 0).map fun r=>(r.1,r.2.1))=(au b).map fun x=>(x.row,x.wd):=by rw[gB,ij]
 have h:((au b).map fun x=>(x.row,x.wd)).Pairwise fun a b=>a.1<b.1:=za4.mpr pw;rw[<- e,za4] at h;exact h
theorem A7.way(c:A7 K C H p pr)(ok:Nq pr)(i:Nat)(hi:i<(au pr.body).length)(hf:i<(aP pr.body 0).length):∃dx fs wy q,H p=some (.ins C dx fs)/\fs.lookup (zad "ways")=some (V.ref wy)/\xQ H wy (.int (au pr.body)[i].row) (some (.ref q))/\bG K H q ((aP pr.body 0)[i].2.2.map V.int):=by
 obtain⟨dx,nl,sd,fa,va,st,wy,us,ws,h1,h2,h3,h4,h5,h6,h7,h8,h9,Ww,Np,Wx⟩:=c.at_;obtain⟨q,e,hq⟩:=Wx i hf;obtain⟨hf',e1,_⟩:=jh pr.body i hi;have g:=DL _ _ Ww (Nr ok.pw) i hf _ e;rw[e1] at g;exact⟨dx,_,wy,q,h1,rfl,.inl ⟨_,.inl _,.inl Np,rfl,g.symm⟩,hq⟩
def xX (K:zaa)(H:Hp):Option (Int×List Int)->V->Prop
 |none,v=>v=.cH
 |some x,v=>∃a,v=.ref a/\bR K H a x.1 x.2
def eU (bs:List jc)(st:aT)(ws:List Int)(vals:List Int):Option (Int×List Int):=match oR st with
 |none=>none
 |some (sg,l,r)=>if ju sg (wv bs vals l) (wv bs vals r) then some (ws.getD 0 0,vals) else if st.wd=.bE then none else some (ws.getD 1 0,vals)
section
variable(K:zaa)(C:zdi)
inductive DM(vs:List V)(H:Hp)(Q:VK)(E:XK):Prop
 |mk (p sa:zdi) (pr:PG.Prog) (vals:List Int) (i:Nat) (hi:i<(au pr.body).length) (hf:i<(aP pr.body 0).length) (sg:W) (l r:PM.Tr):vs=[.ref p,.ref sa]->A7 K C H p pr->Nq pr->bR K H sa (au pr.body)[i].row vals->vals.length=pr.ar.length->oR (au pr.body)[i]=some (sg,l,r)->G7 pr.ar vals l->G7 pr.ar vals r->0<(aP pr.body 0)[i].2.2.length->((au pr.body)[i].wd≠.bE->1<(aP pr.body 0)[i].2.2.length)->(∀v H',ao H H'->xX K H' (eU pr.ar (au pr.body)[i] (aP pr.body 0)[i].2.2 vals) v->Q v H')->DM vs H Q E
end
open PyProof.Rows
def Tu:V->List V->Hp->VK->Prop:=fun x vs H Q=>∃(l:zdi) (ss:List Str) (y:Str) (j:Nat),x=.ref l/\vs=[.str y]/\H l=some (.lst (ss.map V.str))/\ss[j]?=some y/\(∀m,m<j->ss[m]?≠some y)/\Q (.int j) H
theorem DN:MtM X "list.index" Tu:=by
 intro pins s G H x vs v us Q I rx rv h;obtain⟨l,ss,y,j,rfl,rfl,hH,hj,hno,q⟩:=h;cases rx;obtain⟨u,rfl,ru⟩:=rv.one;obtain⟨t,rfl⟩:=(show ∃t,u=ya5 y t from ru)
 obtain⟨z,its,n,r,hl,e⟩:=I.M7 hH;rw[zab] at z hl;have line:zdq=2 ^ 24:=rfl;have get:∀m (hm:m<its.length),∃t',its[m]=ya5 (ss[m]'(by lia)) t':=fun m hm=>by
  obtain⟨w',hw,GO⟩:=r.get (i:=m) (show (ss.map V.str)[m]?=some (V.str (ss[m]'(by lia))) by rw[zaf,zac (by lia)];rfl);rw[zac hm] at hw;cases hw;exact GO
 have lj:j<ss.length:=(zaj.mp hj).1;have ej:ss[j]=y:=(zaj.mp hj).2
 let e0:zdj->Bool:=fun v=>match v with
  |.str a _=>a==y
  |_=>false
 refine call_meets F.slot_list_index ⟨_,e,rfl⟩ F.entry_list_index (F.args_list_index_2 _ _)
  (SeqAt.list_indexAt l its.toArray n none #[] (.str y t) e0 j (by rw[zat];lia) (by lia) ?_ ?_) ⟨e,?_,?_⟩
 .obtain⟨t',et⟩:=get j (by lia);show e0 its[j]=true;rw[et,ej];simp[e0]
 .intro m hm lt;have hm':m<its.length:=by simpa using hm
  obtain⟨t',et⟩:=get m hm';show e0 its[m]=false;rw[et];have:=hno m lt;rw[zac (by lia)] at this;simp only[e0];exact beq_eq_false_iff_ne.mpr fun w=>this (by rw[w])
 .intro v hv;rw[List.mem_toArray] at hv;obtain⟨m,hm,rfl⟩:=zbj.mp hv;obtain⟨t',et⟩:=get m hm;rw[et];exact SeqAt.EqAt.str_str _ _ _ _
 .exact⟨.int j,H,I.tok _,⟨_,rfl⟩,q⟩
noncomputable def cG (bs:List jc)(x:W):Nat:=(bs.map (·.name)).idxOf x
def lH (bs:List jc)(vals:List Int)(x:W)(v:Int):List Int:=vals.set (cG bs x) v
def cQ (bs:List jc)(x:W):Int:=((bs[cG bs x]?).map (·.size)).getD 1
def j8 (bs:List jc)(st:aT)(ws vals:List Int)(Sh:Int):Option (Int×List Int)×Option Int:=match st with
 |.ask _ b=>(some (ws.getD 0 0,lH bs vals b (Sh%cQ bs b)),none)
 |.put _ b e=>(some (ws.getD 0 0,lH bs vals b (wv bs vals e%cQ bs b)),none)
 |.say _ e=>(some (ws.getD 0 0,vals),some (wv bs vals e))
 |.stop _=>(some (ws.getD 0 0,vals),none)
 |st=>(eU bs st ws vals,none)
def Qb (bs:List jc)(vals:List Int):aT->Prop
 |.ask _ b=>b∈bs.map (·.name)
 |.put _ b e=>b∈bs.map (·.name)/\G7 bs vals e
 |.say _ e=>G7 bs vals e
 |.bE _ _ l r=>G7 bs vals l/\G7 bs vals r
 |.ifs _ _ l r _ _=>G7 bs vals l/\G7 bs vals r
 |.fM _ _ l r _=>G7 bs vals l/\G7 bs vals r
 |.stop _=>True
noncomputable def Qc:Option Int->V
 |none=>.cH
 |some n=>.int n
theorem jS(h:x∈bs.map (·.name)):∃hi:cG bs x<bs.length,bs[cG bs x].name=x:=by
 have l:cG bs x<(bs.map (·.name)).length:=List.idxOf_lt_length_iff.mpr h;have e:(bs.map (·.name))[cG bs x]=x:=List.getElem_idxOf l;rw[zab] at l;rw[zbz] at e;exact⟨l,e⟩
theorem JX(l:vs.length=bs.length)(nb:(bs.map (·.name)).Nodup)(h:x∈bs.map (·.name))(v:V)(i:Nat)(hi:i<bs.length) :
 bZ (putK (cL bs vs) (.inr (S x)) v) (.inr (S bs[i].name))=(vs.set (cG bs x) v)[i]?:=by
 obtain⟨hx,ex⟩:=jS h;rw[OT];by_cases e:i=cG bs x
 .subst e;rw[ybr (by rw[ex]),zcm (by lia)]
 .have ne:bs[i].name≠x:=fun z=>e (by
   have p1:=zbU.mp nb;rw[<- ex] at z;rcases Nat.lt_trichotomy i (cG bs x) with lt |eq |gt
   .exact ybw (by rw[zbz,zbz];exact z) (p1 i (cG bs x) (by simpa using hi) (by simpa using hx) lt)
   .exact eq
   .exact ybw (by rw[zbz,zbz];exact z.symm) (p1 (cG bs x) i (by simpa using hx) (by simpa using hi) gt))
  rw[ybq (fun z=>ne (xU.mp (Sum.inr.inj z))),zct (fun z=>e z.symm)];have li:i<vs.length:=by lia
  rw[nM bs vs l nb i hi vs[i] (zac li),zac li]
theorem G8(nb:(bs.map (·.name)).Nodup)(h:x∈bs.map (·.name)):bZ (bs.map fun b=>((Sum.inr (S b.name):Key),V.int b.size)) (.inr (S x))=some (.int (cQ bs x)):=by
 obtain⟨hx,ex⟩:=jS h;have e:(bs.map fun b=>((Sum.inr (S b.name):Key),V.int b.size))=cL bs (bs.map fun b=>V.int b.size):=by
  unfold cL;rw[List.zipWith_map_right,List.zipWith_self]
 rw[e];have:=nM bs (bs.map fun b=>V.int b.size) (by simp) nb (cG bs x) hx (.int bs[cG bs x].size) (by rw[zaf,zac hx];rfl);rw[ex] at this;rw[this];unfold cQ;rw[zac hx];rfl
section
variable(K:zaa)(C:zdi)
inductive G9(vs:List V)(H:Hp)(Q:VK)(E:XK):Prop
 |mk (p sa:zdi) (fv:V) (pr:PG.Prog) (vals:List Int) (Sh:Int) (i:Nat) (hi:i<(au pr.body).length) (hf:i<(aP pr.body 0).length):vs=[.ref p,.ref sa,fv]->A7 K C H p pr->Nq pr->(∀b∈pr.ar,0<b.size)->bR K H sa (au pr.body)[i].row vals->vals.length=pr.ar.length->((au pr.body)[i].wd=.ask->fv=.int Sh)->Qb pr.ar vals (au pr.body)[i]->0<(aP pr.body 0)[i].2.2.length->((au pr.body)[i].wd=.ifs\/(au pr.body)[i].wd=.fM->1<(aP pr.body 0)[i].2.2.length)->(∀q sv H',ao H H'->bG K H' q [sv,Qc (j8 pr.ar (au pr.body)[i] (aP pr.body 0)[i].2.2 vals Sh).2]->xX K H' (j8 pr.ar (au pr.body)[i] (aP pr.body 0)[i].2.2 vals Sh).1 sv->Q (.ref q) H')->G9 vs H Q E
end
open PySem.Spec
def UN (K:zaa):R2:=fun x y H Q=>∃a b xs ys,x=.ref a/\y=.ref b/\bG K H a xs/\bG K H b ys/\xs.length+ys.length<=zdq/\∀p H',ao H H'->bG K H' p (xs++ys)->Q (.ref p) H'
theorem xY:vL X (binaryOp .Add) (UN X.K):=by
 intro pins s G H x y v u Q I rx ry h;by_cases hx:∃xs0,(∃a b ys,x=.ref a/\y=.ref b/\bG X.K H a xs0/\bG X.K H b ys/\xs0.length+ys.length<=zdq/\∀p H',ao H H'->bG X.K H' p (xs0++ys)->Q (.ref p) H')/\xs0=[]
 .obtain⟨xs,⟨a,b,ys,rfl,rfl,ha,hb,hz,q⟩,rfl⟩:=hx;cases rx;cases ry;obtain⟨its,r1,p1,_⟩:=I.tuple ha;obtain⟨pR,r2,p2,_⟩:=I.tuple hb;obtain⟨⟨cls,dd,data,sl⟩,ho,hc,n,hd⟩:=id p1;obtain⟨⟨acI,dd2,data2,YX⟩,Sb,VY,n2,hd2⟩:=id p2;simp only at hc hd VY hd2;subst hc hd VY hd2;cases r1;exact concat_meets ⟨_,ho,rfl⟩ ⟨_,Sb,rfl⟩ noFill_tuple_add seq_tuple_add zcn zcj (zch _ _)
   (tuple_addW0 a b _ pR.toArray n n2 dd dd2 sl YX rfl) ⟨ho,Sb,⟨.ref b,H,I,rfl,q _ _ (ao.refl _) hb⟩⟩
 .obtain⟨a,b,xs,ys,rfl,rfl,ha,hb,hz,q⟩:=h;refine Lm pins s G H _ _ v u Q I rx ry ⟨a,b,xs,ys,rfl,rfl,ha,hb,fun e=>hx ⟨xs,⟨a,b,ys,rfl,rfl,ha,hb,hz,q⟩,e⟩,hz,fun e=>q _ _ (ao.refl _) ?_,fun _ p hp=>q _ _ (ao.new hp _) (.of ah)⟩;rw[e,zax];exact ha
def Zt (K:zaa):V->Option Int->Option Int->Hp->VK->Prop:=fun x lo hi H Q=>∃a xs,x=.ref a/\bG K H a xs/\∀p H',ao H H'->bG K H' p (je xs lo hi)->Q (.ref p) H'
theorem xZ:YZ X (Zt X.K):=by
 intro pins s G H x v vl vu lo hi sl Q I rx hs pl pu h;obtain⟨a,xs,rfl,hx,q⟩:=h;refine LM pins s G H _ v vl vu lo hi sl Q I rx hs pl pu ⟨a,xs,rfl,hx,fun e=>q _ _ (ao.refl _) ?_,fun _ p hp=>q _ _ (ao.new hp _) (.of ah)⟩;have:je xs lo hi=xs:=by
  unfold je;rw[e.1,e.2];simp
 rw[this];exact hx
noncomputable def DO:Option (Int×List Int)->Dp
 |none=>.cH
 |some x=>.tup [.int x.1,.tup (x.2.map Dp.int)]
theorem zI{K:zaa}:∀l:List Int,aC K H (l.map Dp.int) (l.map V.int)
 |[]=>by rw[zbE,zbE,aC.aO]
 |x::r=>by rw[zaq,zaq,aC.av];exact⟨_,_,rfl,by rw[Rep.bu],zI r⟩
theorem vp{K:zaa}(h:bR K H a row vals):Rep K H (.tup [.int row,.tup (vals.map Dp.int)]) (.ref a):=by
 obtain⟨va,h1,h2⟩:=h;rw[Rep.aJ];refine⟨a,_,rfl,h1,?_⟩;rw[aC.av];refine⟨_,_,rfl,by rw[Rep.bu],?_⟩;rw[aC.av];refine⟨_,_,rfl,?_,by rw[aC.aO]⟩;rw[Rep.aJ];exact⟨va,_,rfl,h2,zI _⟩
def adl:aT->Prop
 |.bE _ sg _ _=>sg∈AO
 |.ifs _ sg _ _ _ _=>sg∈AO
 |.fM _ sg _ _ _=>sg∈AO
 |_=>True
theorem ik(s:ao H H')(h:H' b=none):H b=none:=by
 cases z:H b with
 |none=>rfl
 |some o=>rw[s _ _ z] at h;cases h
theorem bG.Qd{K:zaa}(h:bG K H a xs)(hD:H D=some (.lst ys))(u:a9 D H H'):bG K H' a xs:=by
 rcases h with (q |⟨o,q⟩) |q
 .exact .inl (.inl (u _ _ (b5 q hD (by intro z;cases z)) q))
 .exact .inl (.inr ⟨o,u _ _ (b5 q hD (by intro z;cases z)) q⟩)
 .exact .inr q
theorem EY{vals:List Int}(lv:vals.length=bs.length)(nb:(bs.map (·.name)).Nodup)(hv:∀v∈vals,v.natAbs<=2 ^ 12):∀e:PM.Tr,fN bs e->Jd (cL bs (vals.map V.int)) e
 |.num n,h=>by rw[fN] at h;rw[Jd];lia
 |.box x,h=>by
  rw[fN] at h;rw[Jd];obtain⟨hx,ex⟩:=jS h;have li:cG bs x<vals.length:=by lia
  refine⟨vals[cG bs x],?_,hv _ (zam li)⟩;have:=nM bs (vals.map V.int) (by simpa using lv) nb (cG bs x) hx (.int vals[cG bs x]) (by rw[zaf,zac li];rfl);rw[ex] at this;exact this
 |.bin o l r,h=>by
  rw[fN] at h;rw[Jd];exact⟨by simpa using h.1,EY lv nb hv l h.2.1,EY lv nb hv r h.2.2⟩
theorem zJ(lv:vals.length=bs.length)(nb:(bs.map (·.name)).Nodup)(hv:∀v∈vals,v.natAbs<=2 ^ 12){st:aT}(h:LH (·∈bs.map (·.name)) (fun e=>fN bs e/\dQ e<=2) (·∈AO) st):Qb bs vals st/\adl st:=by
 have k:∀e,(fN bs e/\dQ e<=2)->G7 bs vals e:=fun e h=>⟨EY lv nb hv e h.1,h.2⟩
 cases st<;>rw[LH] at h
 .exact⟨h,trivial⟩
 .exact⟨⟨h.1,k _ h.2⟩,trivial⟩
 .exact⟨k _ h,trivial⟩
 .exact⟨⟨k _ h.2.1,k _ h.2.2⟩,h.1⟩
 .exact⟨trivial,trivial⟩
 .exact⟨⟨k _ h.2.1,k _ h.2.2.1⟩,h.1⟩
 .exact⟨⟨k _ h.2.1,k _ h.2.2.1⟩,h.1⟩
section
variable{K:zaa}{H H':Hp}{p C dx a:zdi}{fs:List (Str×V)}{xs:List V}
theorem bG.ins(h:bG K H a xs)(hp:H p=some (.ins C dx fs))(u:a9 p H H'):bG K H' a xs:=by
 rcases h with (q |⟨o,q⟩) |q
 .exact .inl (.inl (u _ _ (b5 q hp (by intro z;cases z)) q))
 .exact .inl (.inr ⟨o,u _ _ (b5 q hp (by intro z;cases z)) q⟩)
 .exact .inr q
theorem A7.ins{CC ch:zdi}{pr:PG.Prog}(c:A7 K CC H ch pr)(hp:H p=some (.ins C dx fs))(n:ch≠p)(u:a9 p H H'):A7 K CC H' ch pr:=by
 obtain⟨dx,nl,sd,fa,va,st,wy,us,ws,h1,h2,h3,h4,h5,h6,h7,h8,h9,Ww,Np,Wx⟩:=c.at_;have k:∀{b:zdi} {o:HO},H b=some o->(∀C dx fs,o≠.ins C dx fs)->H' b=some o:=fun e no=>u _ _ (b5 e hp (no _ _ _)) e;exact⟨⟨dx,nl,sd,fa,va,st,wy,us,ws,u _ _ n h1,k h2 (by intro _ _ _ z;cases z),k h3 (by intro _ _ _ z;cases z),k h4 (by intro _ _ _ z;cases z),k h5 (by intro _ _ _ z;cases z),k h6 (by intro _ _ _ z;cases z),h7,k h8 (by intro _ _ _ z;cases z),qt hp (aN.one u rfl) _ _ h9,Ww,k Np (by intro _ _ _ z;cases z),fun i hi=>let ⟨q,e,r⟩:=Wx i hi;⟨q,e,r.ins hp u⟩⟩⟩
end
theorem EZ(h:∀B:TS,(∀D G H,tb D G H->B D G H)->Jp tc B D G H):Jp tc tb D G H:=h tb fun _ _ _ x=>x
theorem LY:∀{fs:List (Str×V)}{n:Nat},fs.length<=n->(jK f y fs).length<=n+1
 |[],n,h=>by simp[jK]
 |(g,x)::r,n,h=>by
  unfold jK;split
  .simp only[zal] at h |-;lia
  .obtain⟨m,rfl⟩:∃m,n=m+1:=⟨n-1,by simp only[zal] at h;lia⟩
   have:=LY (f:=f) (y:=y) (fs:=r) (n:=m) (by simp only[zal] at h;lia);simp only[zal];lia
def JY (b:List aT)(row:Int):aT:=((au b)[Tj b row]?).getD (.stop 0)
def Wy (b:List aT)(row:Int):List Int:=(((aP b 0)[Tj b row]?).map (·.2.2)).getD []
def mJ (b:List aT)(row:Int):Bool:=decide ((JY b row).wd=.ask)
def gg (pr:PG.Prog)(row:Int)(vals:List Int)(f:Int):Option (Int×List Int)×Option Int:=j8 pr.ar (JY pr.body row) (Wy pr.body row) vals f
theorem qW(pw:(au b).Pairwise (fun a b=>a.row<b.row))(i:Nat)(hi:i<(au b).length):JY b (au b)[i].row=(au b)[i]:=by
 unfold JY;rw[LI pw i hi,zac hi];rfl
theorem LZ(pw:(au b).Pairwise (fun a b=>a.row<b.row))(i:Nat)(hi:i<(au b).length)(hf:i<(aP b 0).length):Wy b (au b)[i].row=(aP b 0)[i].2.2:=by
 unfold Wy;rw[LI pw i hi,zac hf];rfl
structure Hh(pr:PG.Prog)(row:Int)(vals:List Int):Prop where
 row:row=0\/∃i,∃hi:i<(au pr.body).length,(au pr.body)[i].row=row
 len:vals.length=pr.ar.length
 small:∀v∈vals,v.natAbs<=2 ^ 12
structure fO(pr:PG.Prog):Prop where
 ok:Nq pr
 dep:dg pr.body<=3
 om:(gM pr.body).length<=1000
 own:Pt (·∈pr.ar.map (·.name)) (fun e=>fN pr.ar e/\dQ e<=2) (·∈AO) pr.body
 size:∀b∈pr.ar,2<=b.size/\b.size<=10/\0<=b.first/\b.first<b.size
theorem L0{pr:PG.Prog}(h:w=0\/w=0\/∃t∈au pr.body,t.row=w):w=0\/∃i,∃hi:i<(au pr.body).length,(au pr.body)[i].row=w:=by
 rcases h with h |h |⟨t,ht,e⟩
 .exact .inl h
 .exact .inl h
 .obtain⟨i,hi,e2⟩:=zbj.mp ht;exact .inr ⟨i,hi,by rw[e2];exact e⟩
theorem fO.first(d:fO pr):Hh pr (br pr.body 0) (pr.ar.map (·.first)):=by
 refine⟨L0 (.inr ?_),by simp,fun v hv=>?_⟩
 .rcases tT pr.body 0 with e |e
  .exact .inl e
  .exact .inr e
 .obtain⟨b,hb,rfl⟩:=zar.mp hv;have:=d.size b hb;lia
theorem Hi(d:fO pr)(h:x∈pr.ar.map (·.name)):2<=cQ pr.ar x/\cQ pr.ar x<=10:=by
 obtain⟨hx,_⟩:=jS h;unfold cQ;rw[zac hx];have:=d.size _ (zam hx);exact⟨this.1,this.2.1⟩
theorem Hh.step(d:fO pr)(hi:i<(au pr.body).length)(hf:i<(aP pr.body 0).length)(lv:vals.length=pr.ar.length)(sm:∀v∈vals,v.natAbs<=2 ^ 12)
 (h:j8 pr.ar (au pr.body)[i] (aP pr.body 0)[i].2.2 vals f=(some x,s)):Hh pr x.1 x.2:=by
 have Qe:=iA pr.body _ d.own (zam hi);obtain⟨w0,w1⟩:=iW pr.body 0 _ (zam hf);have win:=tU pr.body 0 _ (zam hf);obtain⟨_,_,ew⟩:=jh pr.body i hi;rw[ew] at w1;generalize (aP pr.body 0)[i].2.2=ws at *;generalize (au pr.body)[i]=st at *;have r0:∀j,j<ws.length->ws.getD j 0=0\/∃i,∃hi:i<(au pr.body).length,(au pr.body)[i].row=ws.getD j 0:=fun j hj=>by
  rw[zap,zac hj];exact L0 (win _ (zam hj))
 have set:∀(b:W) (z:Int),b∈pr.ar.map (·.name)->(lH pr.ar vals b (z%cQ pr.ar b)).length=pr.ar.length/\∀v∈lH pr.ar vals b (z%cQ pr.ar b),v.natAbs<=2 ^ 12:=fun b z hb=>by
  unfold lH;refine⟨by rw[zcW];exact lv,fun v hv=>?_⟩;rcases List.mem_or_eq_of_mem_set hv with hv |rfl
  .exact sm v hv
  .have:=Hi d hb;have m1:=zce z (b:=cQ pr.ar b) (by lia);have m2:=zb6 z (b:=cQ pr.ar b) (by lia);lia
 have cs:eU pr.ar st ws vals=some x->(st.wd=.bE\/st.wd=.ifs\/st.wd=.fM)->Hh pr x.1 x.2:=by
  intro e hw;unfold eU at e;split at e
  .cases e
  .split at e
   .cases e;exact⟨r0 0 w0,lv,sm⟩
   .split at e
    .cases e
    .rename_i nm;cases e;exact⟨r0 1 (w1 (hw.resolve_left nm)),lv,sm⟩
 have qX:∀(y:Int×List Int) (s':Option Int),(some y,s')=(some x,s)->Hh pr y.1 y.2->Hh pr x.1 x.2:=fun y s' e h=>by cases e;exact h
 cases st<;>rw[LH] at Qe
 .exact qX _ _ h ⟨r0 0 w0,(set _ _ Qe).1,(set _ _ Qe).2⟩
 .exact qX _ _ h ⟨r0 0 w0,(set _ _ Qe.1).1,(set _ _ Qe.1).2⟩
 .exact qX _ _ h ⟨r0 0 w0,lv,sm⟩
 .exact cs (ybv Prod.fst h) (.inl rfl)
 .exact qX _ _ h ⟨r0 0 w0,lv,sm⟩
 .exact cs (ybv Prod.fst h) (.inr (.inl rfl))
 .exact cs (ybv Prod.fst h) (.inr (.inr rfl))
section
variable{K:zaa}{H H1:Hp}{p:zdi}{vs:List V}{ds:List Dp}
theorem gT(e:upd H p (.tup vs)=H1)(hp:H p=none):ao H H1:=e▸ao.new hp _
theorem gL(e:upd H p (.lst vs)=H1)(hp:H p=none):ao H H1:=e▸ao.new hp _
theorem gLa(e:upd H p (.lst vs)=H1):H1 p=some (.lst vs):=e▸ah
theorem gTa(e:upd H p (.tup vs)=H1):H1 p=some (.tup vs):=e▸ah
end
section
variable{prog:zdu}{w:zdk}
def qY (prog:zdu) (w:zdk) (h:yaf) (x:Key×List Key) (a:zdi):Prop:=∃(o:Obj) (n:Nat) (u:zdj) (b:zdi),h.get? a=some o/\o.cls=.type "tuple"/\o.data=.seq #[u,.ref b] n/\v7 x.1 u=true/\IsTupleKey (bF prog w) h x.2 b
theorem qY.ty{s:zds}(h:qY prog w s.heap x a):s.TypeIs (.ref a) "tuple":=by obtain⟨o,_,_,_,e,c,_⟩:=h;exact⟨o,e,c⟩
def zK (w:zdk)(prog:zdu)(x:Key×List Key):Int:=reduceHash (yaT [Vw w x.1,tupleKeyHash (bF prog w) x.2])
theorem qY.one(hx:qY prog w h x a)(hy:qY prog w h y a):x=y:=by
 obtain⟨o,n,u,b,e,_,d,i,t⟩:=hx;obtain⟨o',n',u',b',e',_,d',i',t'⟩:=hy;rw[e] at e';cases e';rw[d] at d'
 injection d' with d1 _
 have d1:=ybv zcK d1;simp only[List.cons.injEq,Value.ref.injEq,and_true] at d1;obtain⟨rfl,rfl⟩:=d1;exact Prod.ext ((bF prog w).inj _ _ _ i i') (t.inj t')
theorem qY.kp{es ep}(hx:qY prog w h x a)(ho:h.get? d=some o)(hd:o.data=.dict es ep)(hs:yat d h h'):qY prog w h' x a:=by
 obtain⟨o',n,u,b,e,c,d',i,t⟩:=hx;have ne:a≠d:=fun z=>by
  rw[z,ho] at e;cases e;rw[hd] at d';cases d'
 exact⟨o',n,u,b,(hs.2 a ne).trans e,c,d',i,t.keeps ho hd hs⟩
variable{A:zdt}{E:zdj->zds->Prop}{s:zds}
theorem E1(hu:A.units+8<cLine)(hk:qY prog w s.heap x a)(h:Q (zK w prog x) {s with toks:=s.toks+(x.2.length+3)}) :
 yaa (model prog w) A (pyHash (.ref a)) Q E s:=by
 have ty:=hk.ty;obtain⟨o,n,u,b,e,c,d,i,t⟩:=hk;refine zdb (T:="tuple") ty F.slot_tuple_hash F.entry_tuple_hash (F.args_tuple_hash_1 _) (beq_builtin_none _) (.inr (by lia)) ((show yaa _ _ (yaN (.ref a) >>= _) _ _ s from ?_));refine zdl (yaK e d (zdl ?_));rw[<- zbS];show yaa _ _ (forIn [u,yab b] #[] _) _ _ s;rw[zaM];refine zdl (zdl ((bF prog w).pyHash i (zdm ?_)));show yaa _ _ (forIn [yab b] _ _) _ _ _;rw[zaM];refine zdl (zdl (wpAny_pyHash_tuple (ks:=x.2) (by show A.units+1<cLine;lia) (show IsTupleKey (bF prog w) _ x.2 b from t) (zdm ?_)));show yaa _ _ (forIn ([]:List zdj) _ _) _ _ _;rw[zbn];refine zdm ?_;show yaa _ _ (retInt (yaT [Vw w x.1,tupleKeyHash (bF prog w) x.2])) _ _ _;refine zdl (wpAny_mkInt (zdm ⟨_,_,rfl,?_⟩));rw[show s.toks+(x.2.length+3)=s.toks+1+(x.2.length+1)+1 by lia] at h;exact h
theorem Qf(hu:A.units+8<cLine)(hx:qY prog w s.heap x a)(hy:qY prog w s.heap y b)(h:Q (decide (x=y)) s):yaa (model prog w) A (eqBool (.ref a) (.ref b)) Q E s:=by
 unfold eqBool
 try with_reducible refine zdn ?_
 show yaa _ _ (if (yab a==yab b)=true then _ else _) Q E s;by_cases Gg:(yab a==yab b)=true
 .rw[ybr Gg];have e:a=b:=by have:=eq_of_beq Gg;injection this
  subst e;cases hx.one hy;exact zdl (ya3 (zdm (by simpa using h)))
 .rw[ybq Gg];refine zdl (wpAny_richCompare_same_room (op:=.Eq) hx.ty hy.ty yaG (yap yaG hx.ty F.entry_tuple_eq ?_ (F.args_tuple_eq_2 _ _)) (by lia));have hTb:=hy.ty;obtain⟨o1,n1,u1,b1,e1,c1,d1,i1,t1⟩:=hx;obtain⟨o2,n2,u2,b2,e2,c2,d2,i2,t2⟩:=hy;show yaa _ _ (isInstance (.ref b) (.type "tuple") >>= _) _ _ s;refine zdl (yaB hTb isSubtype_tuple_tuple ?_);simp only[zaY,zav,if_false];refine zdl (yaK e1 d1 (zdl (yaK e2 d2 (zdl ?_))));show yaa _ _ (forIn [(u1,u2),(yab b1,yab b2)] _ _) _ _ s;have fin:∀c:Bool,c=decide (x=y)->∃v,(Fin.done (Flow.ret (yaJ c)))=Fin.done (Flow.ret v)/\v≠Value.notImplemented/\yaa (model prog w) A (truthOfDropped v) Q E s:=fun c hc=>⟨_,rfl,(fun z=>nomatch z),ya1 (hc▸h)⟩
  rw[zaM];refine zdl (zdl ((bF prog w).eqBool (a:=x.1) (b:=y.1) i1 i2 ?_));by_cases k1:x.1=y.1
  .rw[ybs k1];simp only[zaY,zav,if_false];refine zdm ?_;show yaa _ _ (forIn [(yab b1,yab b2)] _ _) _ _ s;rw[zaM];refine zdl (zdl (wpAny_eqBool_tuple (x:=x.2) (y:=y.2) (by show A.units+1<cLine;lia) t1 t2 ?_));by_cases k2:x.2=y.2
   .rw[ybs k2];simp only[zaY,zav,if_false];refine zdm ?_;show yaa _ _ (forIn ([]:List (zdj×zdj)) _ _) _ _ s;rw[zbn];exact zdm (zdm (fin true (ybs (Prod.ext k1 k2)).symm))
   .rw[ybt k2];simp only[zcC,if_true];exact zdl (zdm (zdm (zdm (zdm (fin false (ybt fun z=>k2 (ybv Prod.snd z)).symm)))))
  .rw[ybt k1];simp only[zcC,if_true];exact zdl (zdm (zdm (zdm (zdm (fin false (ybt fun z=>k1 (ybv Prod.fst z)).symm)))))
theorem Bz(m:Nat)(hk:IsTupleKey (bF prog w) s.heap l b)(h:Q true s):yaa (model prog w) A (eqIsQuiet (m+1) (.ref b)) Q E s:=by
 have ty:=hk.typeIs;obtain⟨o,its,n,e,_,d,hi⟩:=hk;unfold eqIsQuiet;refine zdl (yaZ ty yaG.lookup ((show yaa _ _ (isInstance (.ref b) (.type "tuple") >>= _) _ _ s from ?_)));refine zdl (yaB ty isSubtype_tuple_tuple ?_);simp only[zaY,zav,if_false];refine zdl (yam e d (zdl ((show yaa _ _ (forIn its _ _) _ _ s from ?_))));rw[<- zbS];have all:=hi.byValue;generalize its.toList=vs at all;refine wpAny_forIn_list _ (fun r (c:Option Bool×Unit) s'=>c.1=none/\s'=s/\∀v∈r,carriedByValue v=true) _ (fun v r c s' hv=>?_) (fun c s' hv=>?_) _ _ ⟨rfl,rfl,all⟩
 .obtain⟨_,rfl,hv⟩:=hv;rw[eqIsQuiet_byValue _ (hv v (zaw ..))];refine zdl (zdm ?_);simp only[zaY,zav,if_false];exact zdm ⟨rfl,rfl,fun z hz=>hv z (zao _ hz)⟩
 .obtain⟨c1,c2⟩:=c;obtain⟨hc,rfl,_⟩:=hv;cases (show c1=none from hc);exact zdm h
theorem Qg(hk:qY prog w s.heap x a)(h:Q true s):yaa (model prog w) A (eqIsQuiet 8 (.ref a)) Q E s:=by
 have ty:=hk.ty;obtain⟨o,n,u,b,e,c,d,i,t⟩:=hk;unfold eqIsQuiet;refine zdl (yaZ ty yaG.lookup ((show yaa _ _ (isInstance (.ref a) (.type "tuple") >>= _) _ _ s from ?_)));refine zdl (yaB ty isSubtype_tuple_tuple ?_);simp only[zaY,zav,if_false];refine zdl (yam e d (zdl ?_));have key:∀ {z:zdj} {k:Key} {m:Nat},v7 k z=true->eqIsQuiet m z=pure true:=fun {z k m} hz=>eqIsQuiet_byValue m ((bF prog w).byValue k z hz);show yaa _ _ (forIn #[u,yab b] _ _) _ _ s;rw[<- zbS];show yaa _ _ (forIn [u,yab b] _ _) _ _ s;rw[zaM,key i];refine zdl (zdl (zdm ?_));simp only[zaY,zav,if_false];refine zdm ?_;show yaa _ _ (forIn [yab b] _ _) _ _ s;rw[zaM];refine zdl (zdl (Bz 6 t ?_));simp only[zaY,zav,if_false];refine zdm ?_;show yaa _ _ (forIn ([]:List zdj) _ _) _ _ s;rw[zbn];exact zdm (zdm h)
end
def Wz (prog:zdu)(w:zdk):HeapKind prog w (Key×List Key) where
 is:=qY prog w
 hash:=zK w prog
 draws:=fun x=>x.2.length+3
 room:=fun A=>A.units+8<cLine
 inj:=fun hx hy=>hx.one hy
 keeps:=fun hx ho hd hs=>hx.kp ho hd hs
 pyHash:=fun hu hk h=>E1 hu hk h
 eqBool:=fun hu hx hy h=>Qf hu hx hy h
 quiet:=fun hk h=>Qg hk h
set_option genInjectivity false in
structure KH(Y:Type)[DecidableEq Y] where
 knd:∀(P:zdu) (w:zdk),HeapKind P w Y
 on:zaa->Hp->Y->zdi->Prop
 up:∀{K:zaa} {H H':Hp} {x:Y} {a:zdi},(∀b ys,bG K H b ys->bG K H' b ys)->on K H x a->on K H' x a
 of:∀{X:Cx} {pins:List (zdi×Obj)} {G:St} {H:Hp} {s:zds} {x:Y} {a:zdi},Inv X pins G H s->on X.K H x a->(knd X.prog X.w).is s.heap x a
 room:∀{P:zdu} {w:zdk} {A:zdt},A.units+16<cLine->(knd P w).room A.in1
section
variable{Y:Type}[DecidableEq Y](J:KH Y)
def j9 (P:zdu)(w:zdk)(a:zdi)(xs:List (Y×zdi×zdj)):yaf->Prop:=fun h=>∃o es ep,h.get? a=some o/\o.ExactDict/\o.data=.dict es ep/\es.toList=xs.map (entryOfKey (J.knd P w))
abbrev KS (K:zaa) (H:Hp):List (Y×V)->List (Y×zdi×zdj)->Prop:=yau fun p q=>p.1=q.1/\J.on K H p.1 q.2.1/\RelV p.2 q.2.2
structure DS(P:zdu)(w:zdk)(K:zaa)(H:Hp)(a:zdi)(kvs:List (Y×V)):Prop where
 len:kvs.length<=zdq
 sys:(a==yal)=false
 at_:∃xs,H a=some (.ext (j9 J P w a xs))/\KS J K H kvs xs/\(xs.map (·.1)).Nodup
variable{J}
section
variable{K:zaa}{H H':Hp}{kvs:List (Y×V)}{xs:List (Y×zdi×zdj)}
theorem KS.val(r:KS J K H kvs xs)(k:Y):qM (bZ kvs k) ((atKey xs k).map (·.2)):=by
 induction r with
 |nil=>exact True.intro
 |@cons p q ps qs h t ih=>
  by_cases e:p.1=k
  .rw[cX e,show atKey (q::qs) k=some q.2 by simp[atKey,h.1.symm.trans e]];exact h.2.2
  .have e':¬q.1=k:=fun z=>e (h.1.trans z);rw[cI e,show atKey (q::qs) k=atKey qs k by simp[atKey,e']];exact ih
theorem KS.put(r:KS J K H kvs xs)(k:Y)(hb:J.on K H k b)(ry:RelV y u):KS J K H (putK kvs k y) (storedH xs k b u):=by
 have e:(kvs.any fun kv=>decide (kv.1=k))=(atKey xs k).isSome:=by rw[jM,(r.val k).nJ,zbT]
 unfold putK storedH;rw[e];by_cases q:(atKey xs k).isSome=true
 .rw[ybr q,ybr q];clear e q
  induction r with
  |nil=>exact .nil
  |@cons p q ps qs h t ih=>
   refine .cons ?_ ih;dsimp only;unfold putAt;by_cases e:p.1=k
   .rw[ybr e];rw[ybr (h.1.symm.trans e)];exact⟨h.1,h.2.1,ry⟩
   .rw[ybq e];rw[ybq fun z=>e (h.1.trans z)];exact h
 .rw[ybq q,ybq q];exact Paired.snoc r ⟨rfl,hb,ry⟩
theorem KS.up(r:KS J K H kvs xs)(t:∀b ys,bG K H b ys->bG K H' b ys):KS J K H' kvs xs:=yau.MR r fun _ _ z=>⟨z.1,J.up t z.2.1,z.2.2⟩
end
section
variable{X:Cx}{pins:List (zdi×Obj)}{G:St}{H:Hp}{s:zds}{a b:zdi}{v:V}{u r:zdj}{A:zdt}{E:zdj->zds->Prop}{kvs:List (Y×V)}{k:Y}
theorem DP(I:Inv X pins G H s)(e:H a=some (.ext (j9 J X.prog X.w a xs)))(r:KS J X.K H kvs xs)(nd:(xs.map (·.1)).Nodup):s.heap.DictOfH (J.knd X.prog X.w) a xs:=by
 obtain⟨⟨o,es,ep,h1,h2,h3,h4⟩, -⟩:=(show cE X.prog X.w H s.heap a (.ext (j9 J X.prog X.w a xs)) from I.dW a _ e)
 refine⟨o,es,ep,h1,h2,h3,h4,?_,nd⟩;clear h4 nd e
 induction r with
 |nil=>intro x hx;cases hx
 |@cons p q ps qs hq t ih=>
  intro x hx;rcases zan.mp hx with rfl |hx
  .exact J.of I (hq.1▸hq.2.1)
  .exact ih x hx
theorem Zu(hu:A.units+16<cLine)(I:Inv X pins G H s)(d:DS J X.prog X.w X.K H a kvs)(hk:J.on X.K H k b)(h:∀s',Inv X pins G H s'->Q (.bool (bZ kvs k).isSome) s') :
 yaa (model X.prog X.w) A (yar .In (.ref b) (.ref a)) Q E s:=by
 obtain⟨z,sy,xs,e,r,nd⟩:=d;refine wpAny_in_heap (knd:=J.knd X.prog X.w) (J.room hu) (J.of I hk) sy (DP I e r nd) ?_;have q:=(r.val k).nJ;rw[zbT] at q;rw[<- q];exact h _ (I.tok _)
theorem Qh(hu:A.units+16<cLine)(I:Inv X pins G H s)(d:DS J X.prog X.w X.K H a kvs)(hk:J.on X.K H k b)(h:∀s',Inv X pins G H s'->Q (.bool (!(bZ kvs k).isSome)) s') :
 yaa (model X.prog X.w) A (yar .NotIn (.ref b) (.ref a)) Q E s:=by
 obtain⟨z,sy,xs,e,r,nd⟩:=d;refine zcw (knd:=J.knd X.prog X.w) (J.room hu) (J.of I hk) sy (DP I e r nd) ?_;have q:=(r.val k).nJ;rw[zbT] at q;rw[<- q];exact h _ (I.tok _)
theorem WA(hu:A.units+16<cLine)(I:Inv X pins G H s)(d:DS J X.prog X.w X.K H a kvs)(hk:J.on X.K H k b)(l:bZ kvs k=some v)(h:∀w' s',Inv X pins G H s'->RelV v w'->Q w' s') :
 yaa (model X.prog X.w) A (getItem (.ref a) (.ref b)) Q E s:=by
 obtain⟨z,sy,xs,e,r,nd⟩:=d;obtain⟨w',hw,GO⟩:=qM.some_of (v:=v) (o:=(atKey xs k).map (·.2)) (by rw[<- l];exact r.val k);obtain⟨p,hp,qP⟩:=zaT.mp hw;refine wpAny_getItem_heap (knd:=J.knd X.prog X.w) (J.room hu) (J.of I hk) (DP I e r nd) hp ?_;rw[qP];exact h w' _ (I.tok _) GO
theorem bG.ext{K:zaa}(h:bG K H c ys)(e:H a=some (.ext φ)):bG K (upd H a o) c ys:=by
 rcases h with (q |⟨o',q⟩) |q
 .exact .inl (.inl (by rw[aI (b5 q e (by intro z;cases z))];exact q))
 .exact .inl (.inr ⟨o',by rw[aI (b5 q e (by intro z;cases z))];exact q⟩)
 .exact .inr q
theorem WB(hu:A.units+16<cLine)(I:Inv X pins G H s)(d:DS J X.prog X.w X.K H a kvs)(hk:J.on X.K H k b)(l:kvs.length<zdq)(rv:RelV v r)
 (h:∀s' H',Inv X pins G H' s'->DS J X.prog X.w X.K H' a (putK kvs k v)->(∃φ,H'=upd H a (.ext φ))->Q () s') :
 yaa (model X.prog X.w) A (setItem (.ref a) (.ref b) r) Q E s:=by
 obtain⟨z,sy,xs,e,rel,nd⟩:=d;have hz:xs.length<=zdq:=by rw[<- yaj rel];exact z
 have hl:(putK kvs k v).length<=zdq:=by have:=lE kvs k v;lia
 refine wpAny_setItem_heap (knd:=J.knd X.prog X.w) (hsz:=hz) (J.room hu) (J.of I hk) (DP I e rel nd) fun h' XM hs=>?_;obtain⟨q,es,ep,hq,h2,h3,h4,_,h5⟩:=XM;have ph:j9 J X.prog X.w a (storedH xs k b r) h':=⟨q,es,ep,hq,h2,h3,h4⟩
 refine h _ (upd H a (.ext (j9 J X.prog X.w a (storedH xs k b r)))) (vm I (by rw[e];exact True.intro) hs ⟨q,hq⟩ ⟨ph,⟨q,hq⟩,fun g1 g2 p1 kp=>?_⟩) ⟨hl,sy,_,ah,(rel.put k hk rv).up fun c ys ec=>ec.ext e,h5⟩ ⟨_,rfl⟩;obtain⟨o,es,ep,h1,h2,h3,h4⟩:=p1;exact⟨o,es,ep,kp o h1,h2,h3,h4⟩
end
theorem DS.lZ{K:zaa}(d:DS J P w K H a kvs)(e:∀o,H a=some o->H' a=some o)(t:∀b ys,bG K H b ys->bG K H' b ys):DS J P w K H' a kvs:=⟨d.len,d.sys,let ⟨xs,h,r,nd⟩:=d.at_;⟨xs,e _ h,r.up t,nd⟩⟩
theorem DS.mono{K:zaa}(d:DS J P w K H a kvs)(s:ao H H'):DS J P w K H' a kvs:=d.lZ (fun o h=>s _ _ h) fun b ys q=>s.aS q
section
variable{X:Cx}{o i value:Expr}{pos pos':Pos}{td ty tv:TE}
def JZ (J:KH Y)(P:zdu)(w:zdk):TE:=fun _ H Q=>∀p,H p=none->(p==yal)=false->Q (.ref p) (upd H p (.ext (j9 J P w p [])))
theorem BA{K:zaa}(h:(p==yal)=false):DS J P w K (upd H p (.ext (j9 J P w p []))) p []:=⟨zaG _,h,[],ah,.nil,zbf⟩
theorem tY:PE X (.Dict [] [] pos) (JZ J X.prog X.w):=fun pins s G H Q I h=>by
 have big:=I.big;refine wpAny_Dict_empty ⟨.ref s.heap.objs.size,_,I.laid (a:=s.heap.objs.size) (o:=.ext (j9 J X.prog X.w s.heap.objs.size [])) (t':=s.toks) (fun _ _ q=>yac _ q) (zah _) ⟨⟨_, #[],0,yae _ rfl,⟨rfl,rfl,rfl⟩,rfl,rfl⟩,⟨_,yae _ rfl⟩,fun g1 g2 p1 kp=>?_⟩,rfl,h _ (I.dW.fresh (zah _)) (beq_eq_false_iff_ne.mpr (Ne.symm (zay big)))⟩;obtain⟨ob,es,ep,h1,h2,h3,h4⟩:=p1;exact⟨ob,es,ep,kp ob h1,h2,h3,h4⟩
theorem Qi(hu:X.A.units+16<cLine):vL X (yar .In) (fun x y H Q=>∃(a b:zdi)(kvs:List (Y×V))(k:Y),x=.ref b/\y=.ref a/\DS J X.prog X.w X.K H a kvs/\J.on X.K H k b/\Q (.bl (bZ kvs k).isSome) H):=by
 intro pins s G H x y v u Q I rx ry h;obtain⟨a,b,kvs,k,rfl,rfl,d,hk,q⟩:=h;cases rx;cases ry;exact Zu hu I d hk fun s' I'=>⟨.bl (bZ kvs k).isSome,H,I',rfl,q⟩
theorem nP(hu:X.A.units+16<cLine):vL X (yar .NotIn) (fun x y H Q=>∃(a b:zdi)(kvs:List (Y×V))(k:Y),x=.ref b/\y=.ref a/\DS J X.prog X.w X.K H a kvs/\J.on X.K H k b/\Q (.bl (!(bZ kvs k).isSome)) H):=by
 intro pins s G H x y v u Q I rx ry h;obtain⟨a,b,kvs,k,rfl,rfl,d,hk,q⟩:=h;cases rx;cases ry;exact Qh hu I d hk fun s' I'=>⟨.bl (!(bZ kvs k).isSome),H,I',rfl,q⟩
def J0 (J:KH Y)(P:zdu)(w:zdk)(K:zaa)(td ty tv:TE):TS:=fun D G H=>tv G H fun v H1=>td G H1 fun x H2=>ty G H2 fun y H3=>∃(a b:zdi) (kvs:List (Y×V)) (k:Y),x=.ref a/\y=.ref b/\DS J P w K H3 a kvs/\J.on K H3 k b/\kvs.length<zdq/\
 ∀H4,DS J P w K H4 a (putK kvs k v)->(∃φ,H4=upd H3 a (.ext φ))->D.nx G H4
theorem qw(hu:X.A.units+16<cLine)(ho:PE X o td)(hi:PE X i ty)(hv:PE X value tv)(hs:swapsWith value (some (.Subscript o i pos')) pos.line X.env=pure false):PS X (.Assign [.Subscript o i pos'] value pos) (J0 J X.prog X.w X.K td ty tv):=by
 intro pins s G H D I h;refine wpAny_Assign_Subscript (ib (hv pins s G H _ I h) fun r s1 zqz=>?_) hs;obtain⟨v,H1,I1,rv,q1⟩:=zqz;refine ib (ho pins s1 G H1 _ I1 q1) fun u s2 zqz=>?_;obtain⟨x,H2,I2,rx,q2⟩:=zqz;refine ib (hi pins s2 G H2 _ I2 q2) fun iv s3 zqz=>?_;obtain⟨y,H3,I3,ry,a,b,kvs,k,ex,ey,d,hk,l,q3⟩:=zqz;subst ex ey;cases rx;cases ry;exact WB hu I3 d hk l rv fun s4 H4 I4 d4 e4=>⟨G,H4,I4,q3 H4 d4 e4⟩
def J7 (J:KH Y)(P:zdu)(w:zdk)(K:zaa)(td ty:TE):TE:=fun G H Q=>td G H fun x H1=>ty G H1 fun y H2=>∃(a b:zdi) (kvs:List (Y×V)) (k:Y) (v:V),x=.ref a/\y=.ref b/\DS J P w K H2 a kvs/\J.on K H2 k b/\bZ kvs k=some v/\Q v H2
theorem Qj(hu:X.A.units+16<cLine)(ho:PE X o td)(hi:PE X i ty)(hs:S9 i):PE X (.Subscript o i pos) (J7 J X.prog X.w X.K td ty):=by
 intro pins s G H Q I h;refine EL PySem.F.slot_dict_getitem.lookup hs (ib (ho pins s G H _ I h) fun u s1 zqz=>?_);obtain⟨x,H1,I1,rx,q1⟩:=zqz;refine ib (hi pins s1 G H1 _ I1 q1) fun iv s2 zqz=>?_;obtain⟨y,H2,I2,ry,a,b,kvs,k,v,ex,ey,d,hk,l,q2⟩:=zqz;subst ex ey;cases rx;cases ry;have dd:=d;obtain⟨z,sy,xs,e,r,nd⟩:=dd;exact⟨(DP I2 e r nd).typeIs,WA hu I2 d hk l fun w' s3 I3 GO=>⟨v,H2,I3,GO,q2⟩⟩
end
end
abbrev eV:=Key×List Key
def SkH (K:zaa)(H:Hp)(x:eV)(a:zdi):Prop:=∃b,bG K H a [kV x.1,.ref b]/\bG K H b (x.2.map kV)
def sR:KH eV where
 knd:=Wz
 on:=SkH
 up:=fun t ⟨b,h1,h2⟩=>⟨b,t _ _ h1,t _ _ h2⟩
 of:=fun {X pins G H s x a} I ⟨c,h1,h2⟩=>by
  obtain⟨i1,r1,⟨o1,e1,c1,n1,d1⟩,_⟩:=I.tuple h1;obtain⟨i2,r2,⟨o2,e2,c2,n2,d2⟩,_⟩:=I.tuple h2;obtain⟨u1,u2,rfl,q1,q2⟩:=vals2 r1;cases (show u2=yab c from q2);exact⟨o1,n1,u1,c,e1,c1,d1,xP (P:=X.prog) (w:=X.w) q1,o2,i2.toArray,n2,e2,c2,d2,by simpa using zt r2⟩
 room:=fun {P w A} h=>by show A.units+1+8<cLine;lia
def qx (h:yaf)(d:zdi)(es:Array DictEntry)(ep:Nat):Prop:=∃o,h.get? d=some o/\o.ExactDict/\o.data=.dict es ep
section
variable{prog:zdu}{w:zdk}{A:zdt}{E:zdj->zds->Prop}{s:zds}{d it:zdi}{es:Array DictEntry}{ep i:Nat}
theorem qx.ty(x:qx s.heap d es ep):s.TypeIs (.ref d) "dict":=by obtain⟨o,g,c,_⟩:=x;exact⟨o,g,c.1⟩
theorem qx.lZ(x:qx h d es ep)(e:∀o,h.get? d=some o->h'.get? d=some o):qx h' d es ep:=by obtain⟨o,g,r⟩:=x;exact⟨o,e _ g,r⟩
theorem qx.lt(x:qx h d es ep):d<h.objs.size:=by obtain⟨_,g,_⟩:=x;exact yad g
theorem Hj(hd:(d==yal)=false)(x:qx s.heap d es ep)
 (q:Q (.ref s.heap.objs.size) {s with heap:=s.heap.push {cls:=.type "dict_keyiterator",data:=.fields #[.ref d,.int 0 0,.int es.size 0,.int ep 0]} }):yaa (model prog w) A (pyIter (.ref d)) Q E s:=by
 have tyd:=x.ty;obtain⟨od,gd,cd,dd⟩:=x;refine wpAny_pyIter_slot tyd F.slot_dict_iter (yap F.slot_dict_iter tyd F.entry_dict_iter ?_ (F.args_dict_iter_1 _));unfold Builtin.«dict.__iter__» Builtin.Dict.dictSlotNone;refine zdl (zdl (wpAny_notOrdered_dict tyd ?_));show yaa _ _ (pure (yab d)) _ _ s;refine zdm ?_;show yaa _ _ (Builtin.Dict.showsAll d >>= _) _ _ s;unfold Builtin.Dict.showsAll;rw[ybq (by rw[hd];exact zag)];refine zdl (zdm (zdl (wpAny_dictEntries gd dd (zdl (wpAny_dictEpoch gd dd ?_)))));refine zdl (yaq (zdm ⟨_,rfl, "dict_keyiterator",_,⟨_,yae _ rfl,rfl⟩,yay.lookup,?_⟩));simpa[rawInt] using q
theorem Hk(x:s.heap.IsKeyIter it d i es.size ep)(y:qx s.heap d es ep)(li:i<es.size)
 (q:∀h',h'.IsKeyIter it d (i+1) es.size ep->yat it s.heap h'->Q (some es[i].key) {s with heap:=h' }):yaa (model prog w) A (yaY (.ref it)) Q E s:=by
 have Si:=x.typeIs;obtain⟨oi,gi,ci,di⟩:=id x;obtain⟨od,gd,_,dd⟩:=id y;have ow:ybk "dict_keyiterator"=false:=by decide
 unfold yaY;refine zdl (wpAny_attempt (wpAny_callSpecial?_slot (name:=zad "__next__") Si yay (yap yay Si F.entry_dict_keyiterator_next ?_ (F.args_dict_keyiterator_next_1 _))));refine zdl (zdm (zdl (zdl ?_)));refine zdl (yaH Si (zdm (zdl (wpAny_fieldsOf gi di ?_))));simp only[ow,zav,if_false];show yaa _ _ (if (yab d==yas)=true then _ else _) _ _ s;rw[ybq (show ¬((yab d==yas)=true) from zag)];refine zdl (zdm (zdl (wpAny_dictEntries gd dd ?_)));rw[ybq (by simp)];refine zdl (zdm (zdl (wpAny_dictEpoch gd dd ?_)));rw[ybq (by simp)];refine zdm ?_;simp only[show ¬((i:Int)<0) from by lia,if_false,zaP,zbB li];refine zdl (zdl (yaH Si (zdm (zdl (wpAny_isOneOf_keyiter Si ?_)))));show yaa _ _ (setField (.ref it) 1 (rawInt ((i:Int)+1)) >>= _) _ _ s;refine zdl (wpAny_setField gi di (by simp) ?_);have z:(s.heap.update it (Obj.mapFields (·.setIfInBounds 1 (rawInt ((i:Int)+1))))).IsKeyIter it d (i+1) es.size ep:=
  ⟨_,yaw _ gi (Obj.isFreed_of_fields (ya9 di _)),(Obj.cls_mapFields ..).trans ci,by rw[ya9 di];simp[rawInt]⟩
 refine zdl (zdn (zdl (wpAny_isOneOf_keyiter (s:={s with heap:=s.heap.update it (Obj.mapFields (·.setIfInBounds 1 (rawInt ((i:Int)+1))))}) z.typeIs ?_)));show yaa _ _ (pure es[i].key) _ _ _;exact zdm (zdm ⟨_,rfl,zdm (q _ z (yaW ..))⟩)
theorem L5(hA:A.handled=none)(x:s.heap.IsKeyIter it d i es.size ep)(y:qx s.heap d es ep)(li:es.size<=i)
 (q:∀h',ybl it s.heap h'->Q none {s with heap:=h' }):yaa (model prog w) A (yaY (.ref it)) Q E s:=by
 have Si:=x.typeIs;obtain⟨oi,gi,ci,di⟩:=id x;obtain⟨od,gd,_,dd⟩:=id y;have ow:ybk "dict_keyiterator"=false:=by decide
 unfold yaY;refine zdl (wpAny_attempt (wpAny_callSpecial?_slot (name:=zad "__next__") Si yay (yap yay Si F.entry_dict_keyiterator_next ?_ (F.args_dict_keyiterator_next_1 _))));refine zdl (zdm (zdl (zdl ?_)));refine zdl (yaH Si (zdm (zdl (wpAny_fieldsOf gi di ?_))));simp only[ow,zav,if_false];show yaa _ _ (if (yab d==yas)=true then _ else _) _ _ s;rw[ybq (show ¬((yab d==yas)=true) from zag)];refine zdl (zdm (zdl (wpAny_dictEntries gd dd ?_)));rw[ybq (by simp)];refine zdl (zdm (zdl (wpAny_dictEpoch gd dd ?_)));rw[ybq (by simp)];refine zdm ?_;simp only[show ¬((i:Int)<0) from by lia,if_false,zaP,Array.getElem?_eq_none li];refine zdl (zdl (yaH Si (zdm ?_)));show yaa _ _ (setField (.ref it) 0 .none >>= _) _ _ s;refine zdl (wpAny_setField gi di (by simp) ?_);show yaa _ _ (newExc (.type "StopIteration") [] >>= _) _ _ _;refine zdl ?_;simp only[newExc,newTuple];refine zdl (yaq (zdl (m:=firstArgMember _ _) (wpAny_of_eq (a:=yas) (by first |rfl |(simp only[firstArgMember];rfl)) (yaq ?_ (by size_fits)))) (by size_fits));simp only[raiseNew];refine zdl (wpAny_handled ?_);rw[show A.in1.handled=none from hA];refine zdl (zdm (wpAny_throw (zdl ?_)));refine yaB (T:="StopIteration") (b:=true) ⟨_,yae _ rfl,rfl⟩ isSubtype_stop ?_;exact zdm (q _ (((yaW ..).extBut.push _).push _))
theorem Nt(hA:A.handled=none)(I d:zdi)(n:d≠I)(es:Array DictEntry)(ep:Nat):Walks prog w A I [I,d] [I] es.size (fun i v=>∃e,es[i]?=some e/\v=e.key) (fun i h=>h.IsKeyIter I d i es.size ep/\qx h d es ep) where
 sub:=fun b hb=>zan.mpr (.inl (zai.mp hb))
 frame:=fun _ _ _ z k=>⟨z.1.at fun o e=>k I (by simp) o e,z.2.lZ fun o e=>k d (by simp) o e⟩
 item:=fun i s Q E hi z q=>Hk z.1 z.2 hi fun h' a b=>q _ h' s.toks ⟨_,zbB hi,rfl⟩ ⟨a,z.2.lZ fun o e=>b.extBut d o n e⟩ fun c o nc e=>b.extBut c o (fun h=>nc (by simp[h])) e
 done:=fun s Q E z q=>L5 hA z.1 z.2 (zah _) fun h' a=>q h' s.toks fun c o nc e=>a c o (fun h=>nc (by simp[h])) e
 self:=fun _ _ _ _ z q=>wpAny_pyIter_keyiter z.1 q
theorem Tv(lo:(d==yal)=false):PySem.W.KdlSrc prog w "dict" d d es.size (fun i v=>∃e,es[i]?=some e/\v=e.key) (fun h=>qx h d es ep) where
 type:=fun _ m=>m.ty
 there:=fun _ m=>⟨m.lt,m.lt⟩
 keep:=fun _ _ m k=>m.lZ fun o e=>k d (.inl rfl) o e
 notList:=by decide
 notTuple:=by decide
 hint:=fun _ _ _ _ m q=>PySem.W.kdl_hint_dict m.ty q
 iter:=fun _ _ hA m=>⟨_,_,(fun _ _ q=>Hj lo m q),Nt hA _ d (zay m.lt) es ep,⟨⟨_,yae _ rfl,rfl,rfl⟩,m.lZ fun o e=>yac _ e⟩⟩
end
section
variable{Y:Type}[DecidableEq Y]{J:KH Y}{X:Cx}
theorem J8(hc:X.calm=true):sP X (.type "list") (fun xs H Q=>∃(a:zdi) (kvs:List (Y×V)),xs=[.ref a]/\DS J X.prog X.w X.K H a kvs/\∀l us,H l=none->yau (fun (p:Y×V) (v:V)=>∃b,v=.ref b/\J.on X.K H p.1 b) kvs us->Q (.ref l) (upd H l (.lst us))):=by
 intro pins s G H xs us Q I r h;obtain⟨a,kvs,rfl,⟨z,sy,ks,e,rel,nd⟩,q⟩:=h;obtain⟨u,rfl,ru⟩:=vals1 r;cases (show u=yab a from ru);obtain⟨o,es,ep,h1,h2,h3,h4,_,_⟩:=DP I e rel nd;have le:es.size=kvs.length:=by rw[<- zaJ,h4,zab,yaj rel]
 have hA:X.A.handled=none:=I.ok.hd hc;refine PySem.W.kdl_call (Tv sy) hA (⟨o,h1,h2,h3⟩:qx s.heap a es ep) (by rw[le];exact z) fun h' tk acc c kp gl it=>?_;have key:∀(kvs:List (Y×V)) (ks:List (Y×zdi×zdj)),KS J X.K H kvs ks->yau (fun (p:Y×V) (v:V)=>∃b,v=.ref b/\J.on X.K H p.1 b) kvs (ks.map fun k=>V.ref k.2.1)/\Vals (ks.map fun k=>V.ref k.2.1) (ks.map fun k=>yab k.2.1):=fun kvs ks r=>by
  induction r with
  |nil=>exact⟨.nil,.nil⟩
  |cons x _ ih=>exact⟨.cons ⟨_,rfl,x.2.1⟩ ih.1,.cons rfl ih.2⟩
 obtain⟨k1,k2⟩:=key _ _ rel;have ea:acc.toList=ks.map fun k=>yab k.2.1:=by
  have l1:acc.toList.length=ks.length:=by rw[zaJ,it.1,<- zaJ,h4,zab]
  refine List.ext_getElem? fun j=>?_;by_cases hj:j<ks.length
  .have XR:j<acc.size:=by rw[<- zaJ,l1];exact hj
   obtain⟨e,he,hv⟩:=it.2 j acc[j] (zbB XR);rw[<- zaV,h4,zaf,zac hj] at he;cases he;rw[zaV,zbB XR,hv,zaf,zac hj];rfl
  .rw[zca (by lia),zca (by rw[zab];lia)]
 refine⟨.ref s.heap.objs.size,_,I.laid (t':=tk) kp (zah _) (show cE X.prog X.w _ h' _ (.lst (ks.map fun k=>V.ref k.2.1)) from ⟨?_,acc.toList,c,by rw[ea];exact k2,by simpa using gl⟩),rfl,q _ _ (I.dW.fresh (zah _)) k1⟩;rw[zab,<- yaj rel];exact z
end
end L2
namespace PG
section
variable{L:Type}(ask:Int->Bool)(step:Int->List Int->Int->Option (Int×List Int)×Option Int)(tg:Int×List Int->List L)
abbrev gw:=Int×List Int
variable{ask step tg}
variable{s0 s s':gw×List Int}{ms ms':List L}{seen:List gw}
end
theorem zL{Z:Type}[DecidableEq Z]:∀(xs ys:List Z),xs.Nodup->(∀x∈xs,x∈ys)->xs.length<=ys.length
 |[],ys,_,_=>zaG _
 |x::r,ys,h,q=>by
  obtain⟨nx,nr⟩:=zbr.mp h;have hx:=q x (zaw ..);have:=zL r (ys.erase x) nr fun y hy=>(List.mem_erase_of_ne (fun e:y=x=>nx (e▸hy))).mpr (q y (zao _ hy));have l:=List.length_erase_of_mem hx;have p:=List.length_pos_of_mem hx;simp only[zal];lia
noncomputable def zM:List Int->List (List Int)
 |[]=>[[]]
 |s::r=>(zaS s.toNat).flatMap fun (v:Nat)=>(zM r).map fun t=>((v:Int)::t)
def vN:List Int->List Int->Prop
 |[],[]=>True
 |s::r,v::t=>(0<=v/\v<s)/\vN r t
 |[],_::_=>False
 |_::_,[]=>False
theorem vN.mem:∀{ss vs:List Int},vN ss vs->vs∈zM ss
 |[],[],_=>by simp[zM]
 |s::r,v::t,h=>by
  rw[vN] at h;simp only[zM,zcO,zbN,zar];exact⟨v.toNat,by lia,t,h.2.mem,by rw[zda h.1.1]⟩
 |[],v::t,h=>by rw[vN] at h;exact h.elim
 |s::r,[],h=>by rw[vN] at h;exact h.elim
theorem vN.set:∀{ss vs:List Int}(i:Nat)(v:Int),vN ss vs->(∀s,ss[i]?=some s->0<=v/\v<s)->vN ss (vs.set i v)
 |[],[],i,v,h,_=>h
 |s::r,u::t,0,v,h,q=>by
  rw[vN] at h;rw[List.set_cons_zero,vN];exact⟨q s rfl,h.2⟩
 |s::r,u::t,i+1,v,h,q=>by
  rw[vN] at h;rw[List.set_cons_succ,vN];exact⟨h.1,h.2.set i v fun z hz=>q z (by simpa using hz)⟩
 |[],u::t,i,v,h,q=>by rw[vN] at h;exact h.elim
 |s::r,[],i,v,h,q=>by rw[vN] at h;exact h.elim
def univ (rows ss:List Int):List gw:=(0::rows).flatMap fun r=>(zM ss).map fun v=>(r,v)
theorem Qk(h:s.1=0\/s.1∈rows)(q:vN ss s.2):s∈univ rows ss:=by
 simp only[univ,zcO,zar,zan];exact⟨s.1,h,s.2,q.mem,rfl⟩
theorem Ql(rows ss:List Int):(univ rows ss).length=(rows.length+1)*(zM ss).length:=by
 have k:∀l:List Int,(l.flatMap fun r=>(zM ss).map fun v=>((r,v):gw)).length=l.length*(zM ss).length:=fun l=>by
  induction l with
  |nil=>simp
  |cons a r ih=>rw[zbI,zae,ih];simp[zde,Nat.add_comm]
 rw[univ,k];simp
end PG
namespace L2
open PG
open PySem
def FH (K:zaa)(x:Str)(st:Stmt)(f:zdi):Prop:=zaR K zdp x=some (some (.ref f))/\∃fd,Lq K x x st f fd
theorem FH.of{kV doc pm fA ct:zdj}(a:zaR K zdp x=some (some (.ref f)))(l:K.lookup f=some ⟨oc,od,.func (zbg x x (jq st) (gS st) (aD st) .none kV doc pm an fA ct),Sa⟩)
 (c:zbX K fA x=true) (k:zbo K (.ref f)=true):FH K x st f:=⟨a,_,EK l c k⟩
theorem J9{Z:Type}{P:List Z->Prop}(h:∀a,P [a])(us:List Z)(e:us.length=1):P us:=match us,e with |[a],_=>h a
theorem zN{Z:Type}{P:List Z->Prop}(h:∀a b,P [a,b])(us:List Z)(e:us.length=2):P us:=match us,e with |[a,b],_=>h a b
theorem Oa{Z:Type}{P:List Z->Prop}(h:∀a b c,P [a,b,c])(us:List Z)(e:us.length=3):P us:=match us,e with |[a,b,c],_=>h a b c
theorem bn4{Z:Type}{P:List Z->Prop}(h:∀a b c d,P [a,b,c,d])(us:List Z)(e:us.length=4):P us:=match us,e with |[a,b,c,d],_=>h a b c d
theorem l7(X:K.In h)(G:h.Ns zdp mg)(q:FH K x st f)
 (b:∀(kV doc pm:zdj) (an:Option zdi) (fA ct:zdj) (us:List zdj),us.length=ps.length->bindArgs (zbg x x (jq st) (gS st) (aD st) .none kV doc pm an fA ct) ⟨us,[]⟩=pure (ps.zip us)):∃fd,bJ K mg x st ps f fd:=
 let ⟨a,fd,F⟩:=q
 ⟨fd,F,F.binds b,zbK X G a⟩
theorem Hl(hr:jL k A):A.units+16<cLine:=by have:=Pq hr;lia
theorem Qm:(Bi CX P w K mg base N qual scope f cd A outer s H E).prog=P:=rfl
theorem Qn:(Bi CX P w K mg base N qual scope f cd A outer s H E).w=w:=rfl
theorem mK(h:∀U:St->Hp->Prop,(∀G' H',U G' H'↔a D G' H')->tt G H fun c H1=>if c=true then U G H1 else b D G H1):SQ tt a b D G H:=h (a D) fun _ _=>Iff.rfl
noncomputable def ji (s:gw):eV:=(.inl s.1,s.2.map .inl)
theorem x3(h:ji a=ji b):a=b:=by
 obtain⟨a1,a2⟩:=a;obtain⟨b1,b2⟩:=b;simp only[ji,Prod.mk.injEq,Sum.inl.injEq] at h;obtain⟨rfl,h⟩:=h;have h:=(List.map_inj_right (fun x y (e:(Sum.inl x:Key)=.inl y)=>Sum.inl.inj e)).mp h;rw[h]
theorem DQ(l:List Int):(l.map (Sum.inl:Int->Key)).map kV=l.map V.int:=by rw[zaB];rfl
theorem tZ(h:bR K H a s.1 s.2):sR.on K H (ji s) a:=by obtain⟨b,h1,h2⟩:=h;exact⟨b,h1,by rw[ji,DQ];exact h2⟩
theorem Qo(h:sR.on K H (ji s) a):bR K H a s.1 s.2:=by obtain⟨b,h1,h2⟩:=h;exact⟨b,h1,by rw[ji,DQ] at h2;exact h2⟩
def sS (l:List gw):List (eV×V):=l.map fun s=>(ji s,V.bl true)
theorem x4(l:List gw)(s:gw):(bZ (sS l) (ji s)).isSome=decide (s∈l):=by
 induction l with
 |nil=>rfl
 |cons a r ih=>
  rw[sS,zaq];by_cases e:a=s
  .rw[cX (by rw[e]),e];simp
  .rw[cI (fun z=>e (x3 z))];refine(show _=_ from ih).trans ?_;simp[Ne.symm e]
theorem DR(h:s ∉ l):putK (sS l) (ji s) (.bl true)=sS (l++[s]):=by
 unfold putK;rw[jM,x4,ybt h,ybq zag];simp[sS]
section
variable{Y:Type}[DecidableEq Y]{J:KH Y}{P:zdu}{w:zdk}{K:zaa}{H H':Hp}{a b p C dx:zdi}{kvs:List (Y×V)}{φ:yaf->Prop}{fs:List (Str×V)}{xs:List V}
theorem DS.wQ(d:DS J P w K H a kvs):∃φ,H a=some (.ext φ):=by obtain⟨xs,h,_⟩:=d.at_;exact⟨_,h⟩
theorem DS.ins(d:DS J P w K H a kvs)(hp:H p=some (.ins C dx fs))(u:a9 p H H'):DS J P w K H' a kvs:=by
 obtain⟨φ,e⟩:=d.wQ;exact d.lZ (fun o h=>u _ _ (b5 e hp (by intro z;cases z)) h) fun b ys q=>q.ins hp u
theorem bG.sZ(h:bG K H a xs)(hb:H b=some (.ext φ))(u:a9 b H H'):bG K H' a xs:=by
 rcases h with (q |⟨o',q⟩) |q
 .exact .inl (.inl (u _ _ (b5 q hb (by intro z;cases z)) q))
 .exact .inl (.inr ⟨o',u _ _ (b5 q hb (by intro z;cases z)) q⟩)
 .exact .inr q
theorem DS.other(d:DS J P w K H a kvs)(hb:H b=some (.ext φ))(n:a≠b)(u:a9 b H H'):DS J P w K H' a kvs:=d.lZ (fun o h=>u _ _ n h) fun c ys q=>q.sZ hb u
theorem bR.ext(h:bR K H a row vals)(hb:H b=some (.ext φ))(u:a9 b H H'):bR K H' a row vals:=by obtain⟨va,h1,h2⟩:=h;exact⟨va,h1.sZ hb u,h2.sZ hb u⟩
end
noncomputable def jT (pr:PG.Prog):List Int:=pr.ar.map (·.size)
def DT (pr:PG.Prog):List Int:=(au pr.body).map (·.row)
def cw (pr:PG.Prog):Nat:=(PG.univ (DT pr) (jT pr)).length
structure eW(pr:PG.Prog)(s:gw):Prop where
 ok:Hh pr s.1 s.2
 inv:PG.vN (jT pr) s.2
theorem eW.mem(h:eW pr s):s∈PG.univ (DT pr) (jT pr):=by
 refine Qk ?_ h.inv;rcases h.ok.row with e |⟨i,hi,e⟩
 .exact .inl e
 .exact .inr (zar.mpr ⟨_,zam hi,e⟩)
theorem qy{l:List gw}(nd:l.Nodup)(h:∀s∈l,eW pr s):l.length<=cw pr:=zL l _ nd fun s hs=>(h s hs).mem
theorem vN.first:∀{bs:List jc},(∀b∈bs,2<=b.size/\b.size<=10/\0<=b.first/\b.first<b.size)->PG.vN (bs.map (·.size)) (bs.map (·.first))
 |[],_=>trivial
 |b::r,h=>by
  simp only[zaq,PG.vN];have:=h b (zaw ..);exact⟨⟨by lia,by lia⟩,vN.first fun x hx=>h x (zao _ hx)⟩
theorem eW.first(d:fO pr):eW pr (br pr.body 0,pr.ar.map (·.first)):=⟨d.first,vN.first d.size⟩
theorem vN.lH(d:fO pr)(h:PG.vN (jT pr) vals)(hb:b∈pr.ar.map (·.name))(z:Int):PG.vN (jT pr) (lH pr.ar vals b (z%cQ pr.ar b)):=by
 refine h.set _ _ fun s hs=>?_;obtain⟨hx,_⟩:=jS hb;have e:cQ pr.ar b=s:=by
  unfold cQ;rw[jT,zaf,zac hx] at hs;rw[zac hx];exact za1.inj hs
 have:=Hi d hb;rw[e] at this |-;exact⟨zce z (by lia),zb6 z (by lia)⟩
theorem vN.step(d:fO pr)(ok:LH (·∈pr.ar.map (·.name)) (fun e=>fN pr.ar e/\dQ e<=2) (·∈AO) st)(h:PG.vN (jT pr) vals){x:gw}(e:(j8 pr.ar st ws vals f).1=some x):PG.vN (jT pr) x.2:=by
 have cs:eU pr.ar st ws vals=some x->PG.vN (jT pr) x.2:=by
  intro e;unfold eU at e;split at e
  .cases e
  .split at e
   .cases e;exact h
   .split at e
    .cases e
    .cases e;exact h
 cases st<;>rw[LH] at ok
 .cases e;exact vN.lH d h ok _
 .cases e;exact vN.lH d h ok.1 _
 .cases e;exact h
 .exact cs e
 .cases e;exact h
 .exact cs e
 .exact cs e
theorem x5(ok:Nq pr)(hi:i<(au pr.body).length)(hf:i<(aP pr.body 0).length)(vals:List Int)(f:Int):gg pr (au pr.body)[i].row vals f=j8 pr.ar (au pr.body)[i] (aP pr.body 0)[i].2.2 vals f:=by
 unfold gg;rw[qW ok.pw i hi,LZ ok.pw i hi hf]
theorem eW.next(d:fO pr){s x:gw}(h:eW pr s)(h0:s.1≠0)(e:(gg pr s.1 s.2 f).1=some x):eW pr x:=by
 obtain⟨row,vals⟩:=s;obtain⟨i,hi,rfl⟩:=h.ok.row.resolve_left h0;obtain⟨hf,_,_⟩:=jh pr.body i hi;rw[x5 d.ok hi hf] at e;refine⟨?_,vN.step d (iA pr.body _ d.own (zam hi)) h.inv e⟩;rcases hs:j8 pr.ar (au pr.body)[i] (aP pr.body 0)[i].2.2 vals f with ⟨o,sd⟩
 rw[hs] at e;exact Hh.step d hi hf h.ok.len h.ok.small (by rw[hs];exact ybv (·,sd) e)
theorem Qp(row:Int)(vals:List Int)(f:Int)(h:mJ pr.body row=true):(gg pr row vals f).1≠none:=by
 unfold mJ at h;unfold gg;obtain⟨k,b,e⟩:∃k b,JY pr.body row=.ask k b:=by
  generalize JY pr.body row=st at h;cases st<;>first |exact⟨_,_,rfl⟩ |(have h:=ybu h;cases h)
 rw[e];intro z;cases z
section
variable(P:zdu)(w:zdk)(K:zaa)(CC:zdi)
def BB (H:Hp)(g:List gw)(us:List V):Prop:=yau (fun (s:gw) v=>∃a,v=.ref a/\bR K H a s.1 s.2) g us
end
open PyProof.Rows
theorem Hm(G:St->Prop)(xs:List V)(Pv:Nat->List V->Hp->Prop)
 (go:∀i H2,ao H H2->i<xs.length->J.go i H2) (stop:∀H2,ao H H2->J.stop xs.length H2) (Gd:∀i H2 x H3,ao H H2->i<xs.length->J.Gd i H2 x H3->H3=H2/\xs[i]?=some x)
 (hl:xs.length<=16000000) (hD:H D=none) (g0:G τ0) (h0:Pv 0 [] (upd H D (.lst [])))
 (step:∀i x ys τ H2,xs[i]?=some x->G τ->ao H H2->H2 D=some (.lst ys)->ys.length=i->Pv i ys H2->∀R:St->VK,(∀τ' v H3,G τ'->ao H2 H3->Pv (i+1) (ys++[v]) (upd H3 D (.lst (ys++[v])))->R τ' v H3)->g x τ H2 fun τ' H'=>te τ' H' (R τ'))
 (q:∀ys H2,ao H H2->H2 D=some (.lst ys)->ys.length=xs.length->Pv xs.length ys H2->Q (.ref D) H2):jf J D g me te Q τ0 (upd H D (.lst [])):=by
 refine⟨fun i m τ H2=>m=xs.length-i/\i<=xs.length/\G τ/\ao H H2/\∃ys,H2 D=some (.lst ys)/\ys.length=i/\Pv i ys H2,⟨xs.length,by simp,zaG _,g0,ao.new hD _,[],ah,rfl,h0⟩,?_⟩
 rintro i m τ H2 ⟨rfl,hi,gt,s2,ys,h2,ly,p2⟩
 by_cases sY:i<xs.length
 .refine .inr ⟨go i H2 s2 sY,fun τ' H'=>G τ'/\ao H H'/\∃ys,H' D=some (.lst ys)/\ys.length=i+1/\Pv (i+1) ys H',fun τ' H' ⟨h1,h3,h4⟩=>⟨xs.length-(i+1),by lia,rfl,sY,h1,h3,h4⟩,fun y H' hy=>?_⟩;obtain⟨rfl,ey⟩:=Gd i H2 y H' s2 sY hy;simp only[me,if_true];refine step i y ys τ _ ey gt s2 h2 ly p2 (fun τ' v H4=>_) fun τ' v H3 gt' s3 p3=>⟨ys,s3 _ _ h2,?_,gt',?_,ys++[v],ah,by simp[ly],p3⟩
  .have:zdq=2 ^ 24:=rfl;lia
  .intro b o e;rw[aI (aj e hD)];exact s3 _ _ (s2 _ _ e)
 .have e:i=xs.length:=by lia
  subst e;exact .inl ⟨stop H2 s2,q ys H2 s2 h2 ly p2⟩
theorem Nu{K:zaa}(G:St->Prop)(Pv:Nat->List V->Hp->Prop)(hS:bG K H a xs)
 (hl:xs.length<=16000000) (hD:H D=none) (g0:G τ0) (h0:Pv 0 [] (upd H D (.lst [])))
 (step:∀i x ys τ H2,xs[i]?=some x->G τ->ao H H2->H2 D=some (.lst ys)->ys.length=i->Pv i ys H2->∀R:St->VK,(∀τ' v H3,G τ'->ao H2 H3->Pv (i+1) (ys++[v]) (upd H3 D (.lst (ys++[v])))->R τ' v H3)->g x τ H2 fun τ' H'=>te τ' H' (R τ'))
 (q:∀ys H2,ao H H2->H2 D=some (.lst ys)->ys.length=xs.length->Pv xs.length ys H2->Q (.ref D) H2):jf (SS K a) D g me te Q τ0 (upd H D (.lst [])):=
 Hm G xs Pv (fun i H2 s2 h=>⟨xs,xs[i],s2.aS hS,by simp[h]⟩) (fun H2 s2=>⟨xs,s2.aS hS,zah _⟩) (fun i H2 x H3 s2 h y=>⟨y.1,y.2 _ (s2.aS hS)⟩) hl hD g0 h0 step q
open PySem.Spec
noncomputable def kC (a:zdi)(o:Obj):HO:=.ext fun h=>h.get? a=some o
noncomputable def wo (H:Hp)(a:zdi):Hp:=fun b=>if b=a then none else H b
theorem x6:wo H a a=none:=ybr rfl
theorem x8(h:b≠a):wo H a b=H b:=ybq h
section
variable{P:zdu}{w:zdk}{H:Hp}{h:yaf}{a:zdi}{o:Obj}
theorem kC.get(x:sN P w H h)(e:H a=some (kC a o)):h.get? a=some o:=(x a _ e).1
theorem kC.ok(e:h.get? a=some o):cE P w H' h a (kC a o):=⟨e,⟨o,e⟩,fun _ _ p k=>k _ p⟩
end
def vO (pr:PG.Prog)(s:gw):List gw:=if s.1=0 then [] else if mJ pr.body s.1=true then (zaS 10).map fun f=>((gg pr s.1 s.2 (f:Nat)).1.getD s) else (gg pr s.1 s.2 0).1.toList
theorem L6(d:fO pr)(h:eW pr s):∀x∈vO pr s,eW pr x:=by
 intro x hx;unfold vO at hx;split at hx
 .cases hx
 .rename_i h0;split at hx
  .rename_i ha;obtain⟨f,_,rfl⟩:=zar.mp hx;cases e:(gg pr s.1 s.2 (f:Nat)).1 with
   |none=>exact h
   |some y=>exact h.next d h0 e
  .rw[Option.mem_toList] at hx;exact h.next d h0 hx
theorem bR.upL{K:zaa}(h:bR K H a row vals)(hD:H D=some (.lst ys))(u:a9 D H H'):bR K H' a row vals:=by obtain⟨va,h1,h2⟩:=h;exact⟨va,h1.Qd hD u,h2.Qd hD u⟩
theorem L7{K:zaa}(h:BB K H g us)(f:∀a row vals,bR K H a row vals->bR K H' a row vals):BB K H' g us:=yau.MR h fun _ _ ⟨a,e,q⟩=>⟨a,e,f _ _ _ q⟩
theorem Hn{K:zaa}:∀{g:List gw}{us:List V}{x:gw}{a:zdi},BB K H g us->bR K H a x.1 x.2->BB K H (g++[x]) (us++[.ref a])
 |[],_,_,_,h,q=>by cases h;exact .cons ⟨_,rfl,q⟩ .nil
 |_::_,_,_,_,h,q=>by
  cases h with
  |cons a b=>exact .cons a (Hn b q)
section
variable(P:zdu)(w:zdk)(K:zaa)(CC:zdi)
inductive UO(vs:List V)(H:Hp)(Q:VK)(E:XK):Prop
 |mk (ch sa:zdi) (pr:PG.Prog) (s:gw):vs=[.ref ch,.ref sa]->A7 K CC H ch pr->fO pr->bR K H sa s.1 s.2->eW pr s->(∀l us H',ao H H'->H l=none->H' l=some (.lst us)->BB K H' (vO pr s) us->Q (.ref l) H')->UO vs H Q E
end
theorem Qq(u:a9 D H H'):ao (wo H D) H':=fun b o e=>by
 by_cases z:b=D
 .subst z;rw[x6] at e;cases e
 .rw[x8 z] at e;exact u b o z e
theorem WC:wo (upd H D o) D=wo H D:=funext fun b=>by
 by_cases z:b=D
 .subst z;rw[x6,x6]
 .rw[x8 z,x8 z,aI z]
theorem L8(s:ao H H'):ao (wo H D) (wo H' D):=fun b o e=>by
 by_cases z:b=D
 .subst z;rw[x6] at e;cases e
 .rw[x8 z] at e |-;exact s b o e
theorem Zv:ao (wo H D) H:=Qq (.refl _ _)
section
variable{K:zaa}{H H':Hp}{p:zdi}{φ:yaf->Prop}
mutual
theorem mL(h:H p=some (.ext φ))(u:a9 p H H'):∀(d:Dp)(v:V),Rep K H d v->Rep K H' d v
 |.cH,v,r=>by rw[Rep.kO] at r |-;exact r
 |.bl b,v,r=>by rw[Rep.Bn] at r |-;exact r
 |.int b,v,r=>by rw[Rep.bu] at r |-;exact r
 |.str b,v,r=>by rw[Rep.aZ] at r |-;exact r
 |.lst l,v,r=>by
  rw[Rep.bD] at r |-;obtain⟨a,ys,rfl,q,rs⟩:=r;refine⟨a,ys,rfl,?_,x9 h u l ys rs⟩;rcases q with (q |⟨o,q⟩) |q
  .exact .inl (.inl (u _ _ (b5 q h (by intro z;cases z)) q))
  .exact .inl (.inr ⟨o,u _ _ (b5 q h (by intro z;cases z)) q⟩)
  .exact .inr q
 |.tup l,v,r=>by
  rw[Rep.aJ] at r |-;obtain⟨a,ys,rfl,q,rs⟩:=r;exact⟨a,ys,rfl,q.sZ h u,x9 h u l ys rs⟩
theorem x9(h:H p=some (.ext φ))(u:a9 p H H'):∀(ds:List Dp)(vs:List V),aC K H ds vs->aC K H' ds vs
 |[],vs,r=>by rw[aC.aO] at r |-;exact r
 |d::ds,vs,r=>by
  rw[aC.av] at r |-;obtain⟨v,t,rfl,r1,r2⟩:=r;exact⟨v,t,rfl,mL h u d v r1,x9 h u ds t r2⟩
end
theorem A7.ext(c:A7 K C H ch pr)(h:H p=some (.ext φ))(u:a9 p H H'):A7 K C H' ch pr:=by
 obtain⟨dx,nl,sd,fa,va,st,wy,us,ws,h1,h2,h3,h4,h5,h6,h7,h8,h9,Ww,Np,Wx⟩:=c.at_;have k:∀{b:zdi} {o:HO},H b=some o->(∀M,o≠.ext M)->H' b=some o:=fun {b o} e n=>u _ _ (b5 e h (n φ)) e;exact⟨⟨dx,nl,sd,fa,va,st,wy,us,ws,k h1 (fun _ z=>by cases z),k h2 (fun _ z=>by cases z),k h3 (fun _ z=>by cases z),k h4 (fun _ z=>by cases z),k h5 (fun _ z=>by cases z),k h6 (fun _ z=>by cases z),h7,k h8 (fun _ z=>by cases z),x9 h u _ _ h9,Ww,k Np (fun _ z=>by cases z),fun i hi=>let ⟨q,e,r⟩:=Wx i hi;⟨q,e,r.sZ h u⟩⟩⟩
end
end L2
namespace L2
open PG
open PySem PySem.Spec PyProof.Rows
section
variable{K:zaa}{H H':Hp}
theorem kE{Z L:Type}{R:Z->L->Prop}:∀{as:List Z}{us:List L}{i:Nat}{v:L},yau R as us->us[i]?=some v->∃a,as[i]?=some a/\R a v
 |[],_,_,_,h,e=>by cases h;simp at e
 |_::_,_,0,_,h,e=>by
  cases h with
  |cons a b=>cases e;exact⟨_,rfl,a⟩
 |_::_,_,i+1,_,h,e=>by
  cases h with
  |cons a b=>
   obtain⟨x,e1,e2⟩:=kE (i:=i) b (by simpa using e);exact⟨x,by simpa using e1,e2⟩
end
abbrev qz (pr:PG.Prog):gw:=(br pr.body 0,pr.ar.map (·.first))
end L2
namespace PG
theorem DU:∀(ss:List Int),(∀s∈ss,s<=4)->(zM ss).length<=4 ^ ss.length
 |[],_=>by simp[zM]
 |s::r,h=>by
  have ih:=DU r fun x hx=>h x (zao _ hx);have hs:=h s (zaw ..);have k:∀n:Nat,((zaS n).flatMap fun (v:Nat)=>(zM r).map fun t=>((v:Int)::t)).length=n*(zM r).length:=fun n=>by
   induction n with
   |zero=>simp
   |succ n ih=>rw[zb5,zbq,zae,ih];simp[zde]
  rw[zM,k,zal,zcN,Nat.mul_comm (4 ^ r.length)];exact zcB (by lia) ih
end PG
namespace L2
open PG
open PySem PySem.Spec PyProof.Rows
noncomputable def t9 (s:gw):Dp:=.tup [.int s.1,.tup (s.2.map Dp.int)]
theorem L9:∀l:List gw,yan (Dp.zv (l.map t9))=true/\yao (Dp.zv (l.map t9))<=2
 |[]=>by simp[Dp.zv,yan,yao]
 |s::r=>by
  obtain⟨h1,h2⟩:=L9 r;obtain⟨i1,i2⟩:=LQ s.2;have k:(t9 s).py.canLay0=true/\(t9 s).py.depth<=2:=by
   unfold t9;simp only[Dp.py,Dp.zv,ybb,yan,ybh,yao,i1,i2,zco,zcp,true_and];lia
  rw[zaq,Dp.zv,yan,yao,h1,k.1];refine⟨rfl,?_⟩;have:=k.2;lia
theorem Qr(h1:(gM pr.body).length<=n)(h2:∀b∈pr.ar,b.size<=4)(h3:pr.ar.length<=3):cw pr<=(n+1)*64:=by
 unfold cw;rw[Ql];have l1:(DT pr).length+1<=n+1:=by unfold DT;rw[zab,gD];lia
 have l2:=DU (jT pr) fun s hs=>by
  obtain⟨b,hb,rfl⟩:=zar.mp hs;exact h2 b hb
 have l3:4 ^ (jT pr).length<=4 ^ 3:=zaD (by decide) (by unfold jT;rw[zab];exact h3);exact zcB l1 (zaz l2 l3)
def EV (ps:List (zdi×V))(es:Array DictEntry):Prop:=yau (fun (p:zdi×V) (e:DictEntry)=>e.key=.ref p.1/\RelV p.2 e.val) ps es.toList
theorem EV.size(h:EV ps es):es.size=ps.length:=by rw[<- zaJ];exact(yaj h).symm
theorem EV.at(h:EV ps es)(hi:i<es.size):∃b v,ps[i]?=some (b,v)/\es[i].key=.ref b/\RelV v es[i].val:=by
 obtain⟨⟨b,v⟩,e,e2⟩:=kE h (i:=i) (v:=es[i]) (by rw[zaV,zbB hi]);exact⟨b,v,e,e2.1,e2.2⟩
def XW (d:zdi)(o:Obj)(ps:List (zdi×V)):It:=
 ⟨fun i H=>H d=some (kC d o)/\i<ps.length,fun i H x H'=>H'=H/\∃b v,x=.ref b/\ps[i]?=some (b,v),fun i H=>H d=some (kC d o)/\ps.length<=i⟩
theorem Nv{K:zaa}(hx:o.ExactDict)(hd:o.data=.dict es ep)(ev:EV ps es) :
 Turn P w K tg (XW d o ps) [it] it (fun i h=>h.IsKeyIter it d i es.size ep) where
 mem:=by simp
 obj:=fun i h st b hb=>by
  obtain⟨oi,eo,c,dd⟩:=st;have z:b=it:=by simpa using hb
  subst z;exact⟨oi,eo,fun v z=>by rw[dd] at z;cases z⟩
 keep:=fun i h h' st k=>st.at fun o x=>k it (by simp) o x
 item:=by
  intro X hP hw hK hc i pins s G H E I hf st hg;subst hP hw hK;obtain⟨hH,hi⟩:=hg;rw[<- ev.size] at hi;obtain⟨f0,f1,f2,f3,f4,f5⟩:=hf it (by simp);obtain⟨b,v,e1,e2,_⟩:=ev.at hi;refine Hk st ⟨o,kC.get I.dW hH,hx,hd⟩ hi fun h' Jq sb=>?_;obtain⟨oi,eo,c,dd⟩:=id Jq;refine⟨_,rfl,K5 (s:={s with heap:=h' }) (n:="dict_keyiterator") eo c dd (by decide) ⟨.ref b,H,I.turned (t':=s.toks) (fun b o hb e=>sb.extBut b o hb e) f0 f1 f3 f4 f5,e2,⟨rfl,b,v,rfl,e1⟩,Jq,fun b hb=>(hf b hb).1⟩⟩
 done:=by
  intro X hP hw hK hc i pins s G H E I hf st hg;subst hP hw hK;obtain⟨hH,hi⟩:=hg;rw[<- ev.size] at hi;obtain⟨f0,f1,f2,f3,f4,f5⟩:=hf it (by simp);exact L5 (I.ok.hd hc) st ⟨o,kC.get I.dW hH,hx,hd⟩ hi fun h' eb=>⟨rfl,I.turned (t':=s.toks) (fun b o hb e=>eb b o hb e) f0 f1 f3 f4 f5⟩
 self:=fun _ _ _ _ _ st h=>wpAny_pyIter_keyiter st h
section
variable{Y:Type}[DecidableEq Y](J:KH Y)
structure Fz(P:zdu)(w:zdk)(K:zaa)(H:Hp)(d:zdi)(kvs:List (Y×V))(o:Obj):Prop where
 len:kvs.length<=zdq
 sys:(d==yal)=false
 at_:∃xs,(∀h:yaf,h.get? d=some o->j9 J P w d xs h)/\KS J K H kvs xs/\(xs.map (·.1)).Nodup
def WD (K:zaa)(H:Hp)(kvs:List (Y×V))(ps:List (zdi×V)):Prop:=yau (fun (kv:Y×V) (p:zdi×V)=>J.on K H kv.1 p.1/\p.2=kv.2) kvs ps
def Ma (P:zdu)(w:zdk)(K:zaa)(tl:TE):TI:=fun G H R=>tl G H fun x H1=>∃d kvs,x=.ref d/\DS J P w K H1 d kvs/\∀o ps,Fz J P w K H1 d kvs o->WD J K H1 kvs ps->R (XW d o ps) (upd H1 d (kC d o))
variable{J}
theorem UP{K:zaa}:∀{kvs:List (Y×V)}{xs:List (Y×zdi×zdj)},KS J K H kvs xs->∃ps,WD J K H kvs ps/\yau (fun (p:zdi×V)(e:DictEntry)=>e.key=.ref p.1/\RelV p.2 e.val) ps (xs.map (entryOfKey (J.knd P w)))
 |[],_,h=>by cases h;exact⟨[],.nil,.nil⟩
 |(k,v)::r,_,h=>by
  cases h with
  |cons a b=>
   obtain⟨ps,p1,p2⟩:=UP (P:=P) (w:=w) b;exact⟨(_,v)::ps,.cons ⟨a.2.1,rfl⟩ p1,.cons ⟨rfl,a.2.2⟩ p2⟩
section
variable{X:Cx}{tg l e e1 e2:Expr}{es:List Expr}{tl te to:TE}{ta:TA}{pins:List (zdi×Obj)}{G:St}{H:Hp}{s:zds}{apos EJ:Pos}
theorem freeze(I:Inv X pins G H s)(ds:DS J X.prog X.w X.K H d kvs):∃o es ep ps,s.heap.get? d=some o/\o.ExactDict/\o.data=.dict es ep/\EV ps es/\Fz J X.prog X.w X.K H d kvs o/\WD J X.K H kvs ps/\Inv X pins G (upd H d (kC d o)) s:=by
 obtain⟨z,sy,xs,e,rel,nd⟩:=ds;obtain⟨⟨o,es,ep,h1,h2,h3,h4⟩, -⟩:=(show cE X.prog X.w H s.heap d (.ext (j9 J X.prog X.w d xs)) from I.dW d _ e)
 obtain⟨ps,p1,p2⟩:=UP (P:=X.prog) (w:=X.w) rel;refine⟨o,es,ep,ps,h1,h2,h3,?_,⟨z,sy,xs,fun h eh=>⟨o,es,ep,eh,h2,h3,h4⟩,rel,nd⟩,p1,vm (h':=s.heap) (t':=s.toks) I (by rw[e];exact True.intro) ⟨rfl,fun _ _=>rfl⟩ ⟨o,h1⟩ (kC.ok h1)⟩;unfold EV;rw[h4];exact p2
theorem BC(hl:PE X l tl):PI X tg l (Ma J X.prog X.w X.K tl):=by
 intro pins s G H R I h;refine ib (hl pins s G H _ I h) fun v s1 zqz=>?_;obtain⟨x,H1,I1,r1,q1⟩:=zqz;obtain⟨d,kvs,rfl,ds,q⟩:=q1;cases r1;obtain⟨o,es,ep,ps,h1,h2,h3,ev,fz,po,I2⟩:=freeze I1 ds;refine Hj ds.sys ⟨o,h1,h2,h3⟩ ?_;have I3:=I2.kept (t':=s1.toks) (h':=s1.heap.push {cls:=.type "dict_keyiterator",data:=.fields #[.ref d,.int 0 0,.int es.size 0,.int ep 0]}) fun b o e=>yac _ e;refine⟨s1.heap.objs.size,[s1.heap.objs.size],_,XW d o ps,_,rfl,I3,Nv h2 h3 ev,⟨_,yae _ rfl,rfl,rfl⟩,fun b hb=>?_,q o ps fz po⟩;have e:b=s1.heap.objs.size:=by simpa using hb
 subst e;exact I2.MV (zah _) (I2.dW.fresh (zah _))
end
end
theorem BD (h:∀U:It->Hp->Prop,(∀J H1,(∃W:Nat->Nat->St->Hp->Prop,(∃m,W 0 m G H1)/\∀i m G H,W i m G H->
 (J.stop i H/\D.nx G H)\/(J.go i H/\∃N:St->Hp->Prop,(∀G' H',N G' H'->∃m',m'<m/\W (i+1) m' G' H')/\∀x H',J.Gd i H x H'->g x G H' fun G2 H2=>tb {D with nx:=N,ct:=N,bk:=D.nx} G2 H2))->U J H1)->wi G H U):Oz wi g tb D G H:=h _ fun _ _ x=>x
theorem E2{g:TG}{tb:TS}{D:Ends}(Pv:Nat->St->Hp->Prop)(h0:Pv 0 G H)(hl:∀i G H,i<=ps.length->Pv i G H->H d=some (kC d o))
 (hs:∀i b v G H,ps[i]?=some (b,v)->Pv i G H->g (.ref b) G H fun G2 H2=>tb {D with nx:=Pv (i+1),ct:=Pv (i+1),bk:=D.nx} G2 H2) (hd:∀G H,Pv ps.length G H->D.nx G H) :
 ∃W:Nat->Nat->St->Hp->Prop,(∃m,W 0 m G H)/\∀i m G H,W i m G H->
  ((XW d o ps).stop i H/\D.nx G H)\/((XW d o ps).go i H/\∃N:St->Hp->Prop,(∀G' H',N G' H'->∃m',m'<m/\W (i+1) m' G' H')/\∀x H',(XW d o ps).Gd i H x H'->g x G H' fun G2 H2=>tb {D with nx:=N,ct:=N,bk:=D.nx} G2 H2):=by
 refine⟨fun i m G H=>m=ps.length-i/\i<=ps.length/\Pv i G H,⟨ps.length,by simp,zaG _,h0⟩,?_⟩
 rintro i m G H ⟨rfl,hi,p⟩
 have q:=hl i G H hi p;by_cases sY:i<ps.length
 .refine .inr ⟨⟨q,sY⟩,Pv (i+1),fun G' H' p'=>⟨ps.length-(i+1),by lia,rfl,sY,p'⟩,fun x H' y=>?_⟩;obtain⟨rfl,b,v,rfl,e⟩:=y;exact hs i b v G H' e p
 .have e:i=ps.length:=by lia
  subst e;exact .inl ⟨⟨q,zah _⟩,hd G H p⟩
end L2
namespace PG
open PM
structure Dk where
 cs:List Int
 gs:List Bool
 pos:Int
 left:Int
 row:Int
 gap:Int
noncomputable def draw (d:Dk)(many:Int):Int×Dk:=
 if d.cs=[] then ((d.pos*d.pos*7+d.pos/3)%many,{d with pos:=d.pos+1})
 else if d.gs.getD (d.pos%d.cs.length).toNat false=true then (d.cs.getD (d.pos%d.cs.length).toNat 0%many,{d with pos:=d.pos+1,cs:=d.cs.set (d.pos%d.cs.length).toNat (d.cs.getD (d.pos%d.cs.length).toNat 0/many)})
 else ((d.cs.getD (d.pos%d.cs.length).toNat 0%2147483629+62233*(d.pos+1))*48271%2147483629*((d.cs.getD (d.pos%d.cs.length).toNat 0%2147483629+62233*(d.pos+1))*48271%2147483629)%2147483587*69621%2147483579/8%many,{d with pos:=d.pos+1})
structure gE(d d':Dk):Prop where
 left:d'.left=d.left
 row:d'.row=d.row
 gap:d'.gap=d.gap
theorem gE.refl:gE d d:=⟨rfl,rfl,rfl⟩
theorem gE.trans(h:gE a b)(h2:gE b c):gE a c:=⟨h2.left.trans h.left,h2.row.trans h.row,h2.gap.trans h.gap⟩
theorem zO(d:Dk)(many:Int):gE d (draw d many).2:=by
 unfold draw;split
 .exact⟨rfl,rfl,rfl⟩
 .split<;>exact⟨rfl,rfl,rfl⟩
theorem Mb(d:Dk)(h:0<many):0<=(draw d many).1/\(draw d many).1<many:=by
 have k:∀x:Int,0<=x%many/\x%many<many:=fun x=>⟨zce _ (by lia),zb6 _ h⟩
 unfold draw;split
 .exact k _
 .split<;>exact k _
def tK (ns:List W):Nat->Dk->Tr×Dk
 |0,d=>match draw d 6 with
  |(k,d1)=>if k<2\/ns=[] then match draw d1 4 with
     |(a,d2)=>match draw d2 10 with
      |(b,d3)=>match draw d3 6 with
       |(c,d4)=>(.num (pick 0 [a,b,999] (pick (0:Int) [0,0,0,1,1,2] c)),d4)
   else match draw d1 ns.length with
    |(j,d2)=>(.box (pick [] ns j),d2)
 |n+1,d=>match draw d 6 with
  |(k,d1)=>if k<2\/ns=[] then match draw d1 4 with
     |(a,d2)=>match draw d2 10 with
      |(b,d3)=>match draw d3 6 with
       |(c,d4)=>(.num (pick 0 [a,b,999] (pick (0:Int) [0,0,0,1,1,2] c)),d4)
   else if k<5 then match draw d1 ns.length with
    |(j,d2)=>(.box (pick [] ns j),d2)
   else match draw d1 3 with
    |(g,d2)=>match tK ns n d2 with
     |(l,d3)=>match tK ns n d3 with
      |(r,d4)=>(.bin (pick [] [[43],[45],[42]] g) l r,d4)
noncomputable def iy (st:Dk->aT×Dk):Nat->Dk->List aT×Dk
 |0,d=>([],d)
 |k+1,d=>if d.left>0 then ((st d).1::(iy st k (st d).2).1,(iy st k (st d).2).2) else iy st k d
def gW (st:Dk->aT×Dk)(d:Dk):List aT×Dk:=iy st (draw d 5).1.toNat (draw d 5).2
noncomputable def jU (d:Dk):Dk:={d with row:=d.row+(if d.gap=1 then 0 else 1)}
def bS (d:Dk):Dk:=
 if d.gap>1 then match draw {d with left:=d.left-1,row:=d.row+1} d.gap with
  |(x,d1)=>{d1 with row:=d1.row+x}
 else {d with left:=d.left-1,row:=d.row+1}
def E3 (st:Option (Dk->aT×Dk))(row kind:Int)(sg:W)(l r:Tr)(d:Dk):aT×Dk:=
 match st with
 |none=>(.bE row sg l r,d)
 |some st=>if kind<9 then (.bE row sg l r,d) else match gW st d with
  |(a,d1)=>if kind<11 then (.fM row sg l r a,jU d1) else match draw d1 2 with
   |(t,d2)=>if t=1 then match gW st (jU d2) with
      |(b,d3)=>(.ifs row sg l r a b,jU d3)
    else (.ifs row sg l r a [],jU d2)
def pU (st:Option (Dk->aT×Dk))(ns:List W)(row kind:Int)(d:Dk):aT×Dk:=
 match draw d 2 with
 |(g,d1)=>match tK ns 1 d1 with
  |(l,d2)=>match tK ns 1 d2 with
   |(r,d3)=>E3 st row kind (pick [] AO g) l r d3
def v9 (st:Option (Dk->aT×Dk))(ns:List W)(d:Dk):aT×Dk:=
 match draw (bS d) 13 with
 |(kind,d1)=>if kind<3/\ns≠[] then match draw d1 ns.length with
    |(j,d2)=>(.ask (bS d).row (pick [] ns j),d2)
  else if kind<5/\ns≠[] then match draw d1 ns.length with
   |(j,d2)=>match tK ns 1 d2 with
    |(e,d3)=>(.put (bS d).row (pick [] ns j) e,d3)
  else if kind<7 then match tK ns 1 d1 with
   |(e,d2)=>(.say (bS d).row e,d2)
  else if kind=7 then match draw d1 3 with
   |(z,d2)=>if z=0 then (.stop (bS d).row,d2) else pU st ns (bS d).row kind d2
  else pU st ns (bS d).row kind d1
def lI (ns:List W):Nat->Dk->aT×Dk
 |0,d=>v9 none ns d
 |n+1,d=>v9 (some (lI ns n)) ns d
noncomputable def zP (sc:List Int):Dk:=⟨sc.map fun c=>if c ≥ 10 ^ 18 then c-10 ^ 18 else c,sc.map fun c=>decide (c ≥ 10 ^ 18),0,0,0,0⟩
theorem bK(h:draw d many=(x,d')):gE d d':=by have:=zO d many;rw[h] at this;exact this
theorem bO(h:draw d many=(x,d'))(p:0<many):0<=x/\x<many:=by have:=Mb d p;rw[h] at this;exact this
theorem oS{Z:Type}{l:List Z}(d:Z){i:Int}(h0:0<=i)(h1:i<l.length):pick d l i∈l:=by
 unfold pick;rw[zap,zac (by lia)];exact zam _
noncomputable abbrev xF (bs:List jc):List W:=bs.map (·.name)
theorem Tw(ha:0<=a/\a<4)(hb:0<=b/\b<10)(hc:0<=c/\c<6):fN bs (.num (pick 0 [a,b,999] (pick (0:Int) [0,0,0,1,1,2] c))):=by
 have h1:=oS (0:Int) (l:=[0,0,0,1,1,2]) hc.1 hc.2;generalize (pick 0 [0,0,0,1,1,2] c:Int)=j at *;have hj:0<=j/\j<3:=by
  simp only[zan,za5,or_false] at h1;lia
 have h2:=oS (0:Int) (l:=[a,b,999]) hj.1 hj.2;generalize (pick 0 [a,b,999] j:Int)=v at *;rw[fN];simp only[zan,za5,or_false] at h2;lia
structure Ho(bs:List jc)(n:Nat)(d:Dk)(x:Tr×Dk):Prop where
 own:fN bs x.1
 dep:dQ x.1<=n
 same:gE d x.2
theorem Mc(s:gE d d1):Ho bs n d (match draw d1 4 with
 |(a,d2)=>match draw d2 10 with
  |(b,d3)=>match draw d3 6 with
   |(c,d4)=>(.num (pick 0 [a,b,999] (pick (0:Int) [0,0,0,1,1,2] c)),d4)):=by
 rcases h2:draw d1 4 with ⟨a,d2⟩
 rcases h3:draw d2 10 with ⟨b,d3⟩
 rcases h4:draw d3 6 with ⟨c,d4⟩
 simp only[h3,h4];exact⟨Tw (bO h2 (by decide)) (bO h3 (by decide)) (bO h4 (by decide)),zaG _,((s.trans (bK h2)).trans (bK h3)).trans (bK h4)⟩
theorem Md(s:gE d d1)(h:xF bs≠[]):Ho bs n d (match draw d1 (xF bs).length with
 |(j,d2)=>(.box (pick [] (xF bs) j),d2)):=by
 rcases h2:draw d1 (xF bs).length with ⟨j,d2⟩
 have p:(0:Int)<(xF bs).length:=by have:=zbL.mpr h;lia
 exact⟨oS [] (bO h2 p).1 (bO h2 p).2,zaG _,s.trans (bK h2)⟩
theorem oo(bs:List jc):∀(n:Nat)(d:Dk),Ho bs n d (tK (xF bs) n d)
 |0,d=>by
  rw[tK];rcases h1:draw d 6 with ⟨k,d1⟩
  simp only;split
  .exact Mc (bK h1)
  .rename_i h;exact Md (bK h1) fun z=>h (.inr z)
 |n+1,d=>by
  rw[tK];rcases h1:draw d 6 with ⟨k,d1⟩
  simp only;split
  .exact Mc (bK h1)
  .rename_i h;split
   .exact Md (bK h1) fun z=>h (.inr z)
   .rcases h2:draw d1 3 with ⟨g,d2⟩
    simp only;have l:=oo bs n d2;rcases h3:tK (xF bs) n d2 with ⟨a,d3⟩
    rw[h3] at l;have r:=oo bs n d3;simp only;rcases h4:tK (xF bs) n d3 with ⟨b,d4⟩
    rw[h4] at r;refine⟨⟨oS [] (bO h2 (by decide)).1 (bO h2 (by decide)).2,l.own,r.own⟩,?_,(((bK h1).trans (bK h2)).trans l.same).trans r.same⟩;have:=l.dep;have:=r.dep;show max (dQ a) (dQ b)+1<=n+1;simp only at *;lia
structure i7(d:Dk)(l:List aT)(d':Dk):Prop where
 rows:∀s∈l,d.row<s.row/\s.row<=d'.row
 pw:l.Pairwise fun a b=>a.row<b.row
 up:d.row<=d'.row
 cnt:(l.length:Int)=d.left-d'.left
 nn:0<=d'.left
 gap:d'.gap=d.gap
abbrev SOk (bs:List jc):aT->Prop:=LH (·∈xF bs) (fun e=>fN bs e/\dQ e<=2) (·∈AO)
abbrev BOk (bs:List jc):List aT->Prop:=Pt (·∈xF bs) (fun e=>fN bs e/\dQ e<=2) (·∈AO)
structure wb(bs:List jc)(n:Nat)(d:Dk)(x:aT×Dk):Prop where
 l:i7 d (bA x.1) x.2
 dep:gV x.1<=n
 own:SOk bs x.1
structure UQ(bs:List jc)(n:Nat)(d:Dk)(x:List aT×Dk):Prop where
 l:i7 d (au x.1) x.2
 dep:dg x.1<=n
 own:BOk bs x.1
theorem i7.nil(s:gE d d')(h:0<=d.left):i7 d [] d':=⟨fun s h=>(by cases h),.nil,by rw[s.row];exact zcF _,by rw[s.left];simp,by rw[s.left];exact h,s.gap⟩
theorem i7.app(h:i7 d a d1)(q:i7 d1 b d2):i7 d (a++b) d2:=by
 refine⟨fun s hs=>?_,zbk.mpr ⟨h.pw,q.pw,fun s hs t ht=>?_⟩,zcP h.up q.up,?_,q.nn,q.gap.trans h.gap⟩
 .rcases zak.mp hs with hs |hs
  .have:=h.rows s hs;have:=q.up;lia
  .have:=q.rows s hs;have:=h.up;lia
 .have:=h.rows s hs;have:=q.rows t ht;lia
 .have:=h.cnt;have:=q.cnt;rw[zae];lia
theorem i7.pre(h:i7 d0 a d1)(s:gE d d0):i7 d a d1:=⟨fun x hx=>by have:=h.rows x hx;rw[s.row] at this;exact this,h.pw,by have:=h.up;rw[s.row] at this;exact this,by rw[<- s.left];exact h.cnt,h.nn,h.gap.trans s.gap⟩
theorem i7.post(h:i7 d a d1)(e1:d2.left=d1.left)(e2:d1.row<=d2.row)(e3:d2.gap=d1.gap):i7 d a d2:=⟨fun x hx=>by have:=h.rows x hx;lia,h.pw,by have:=h.up;lia,by rw[e1];exact h.cnt,by rw[e1];exact h.nn,e3.trans h.gap⟩
theorem i7.Zw(h:i7 d a d1)(s:gE d1 d2):i7 d a d2:=h.post s.left (by rw[s.row];exact zcF _) s.gap
theorem qZ(h:i7 d a d1):i7 d a (jU d1):=h.post rfl (by unfold jU;simp only;split<;>lia) rfl
abbrev fB (d:Dk):Prop:=d.gap=0\/d.gap=1\/d.gap=30
theorem uc(xD:∀d:Dk,d.left>0->fB d->wb bs n d (st d)):∀(k:Nat)(d:Dk),0<=d.left->fB d->UQ bs n d (iy st k d)
 |0,d,h,_=>⟨.nil .refl h,zaG _,trivial⟩
 |k+1,d,h,g=>by
  rw[iy];split
  .rename_i hl;have a:=xD d hl g;have b:=uc xD k (st d).2 a.l.nn (by unfold fB;rw[a.l.gap];exact g);refine⟨a.l.app b.l,?_,a.own,b.own⟩;have:=a.dep;have:=b.dep;show max (gV (st d).1) (dg (iy st k (st d).2).1)<=n;lia
  .exact uc xD k d h g
theorem lJ(xD:∀d:Dk,d.left>0->fB d->wb bs n d (st d))(d:Dk)(h:0<=d.left)(g:fB d):UQ bs n d (gW st d):=by
 have s:=zO d 5;have b:=uc xD (draw d 5).1.toNat (draw d 5).2 (by rw[s.left];exact h) (by unfold fB;rw[s.gap];exact g);exact⟨b.l.pre s,b.dep,b.own⟩
theorem zQ(g:fB d):(bS d).left=d.left-1/\(bS d).gap=d.gap/\d.row<(bS d).row:=by
 unfold bS;split
 .rename_i hg;rcases h:draw {d with left:=d.left-1,row:=d.row+1} d.gap with ⟨x,d1⟩
  have s:=bK h;have:=bO h (by lia);have s1:=s.left;have s2:=s.row;have s3:=s.gap;simp only at *;exact⟨s1,s3,by lia⟩
 .exact⟨rfl,rfl,by simp only;lia⟩
theorem qA(g:fB d)(hl:0<d.left)(e:bA s=[s])(hr:s.row=(bS d).row)(q:gE (bS d) d'):i7 d (bA s) d':=by
 obtain⟨h1,h2,h3⟩:=zQ g;have q1:=q.left;have q2:=q.row;rw[e];refine⟨fun x hx=>?_,List.pairwise_singleton _ _,by lia,?_,by lia,q.gap.trans h2⟩
 .rw[zai.mp hx,hr];lia
 .simp only[za6];lia
theorem zR(g:fB d)(e:bA s=s::l)(hr:s.row=(bS d).row)(q:gE (bS d) d1)(b:i7 d1 l d2):i7 d (bA s) d2:=by
 obtain⟨h1,h2,h3⟩:=zQ g;have q1:=q.left;have q2:=q.row;have b1:=b.up;have b2:=b.cnt;rw[e];refine⟨fun x hx=>?_,zbA.mpr ⟨fun x hx=>?_,b.pw⟩,by lia,?_,b.nn,b.gap.trans (q.gap.trans h2)⟩
 .rcases zan.mp hx with rfl |hx
  .rw[hr];lia
  .have:=b.rows x hx;lia
 .have:=b.rows x hx;lia
 .rw[zal];lia
theorem Ho.two(h:Ho bs 1 d x):fN bs x.1/\dQ x.1<=2:=⟨h.own,zaz h.dep (by decide)⟩
theorem Nw(xD:∀s,st=some s->∃m,n=m+1/\∀d:Dk,d.left>0->fB d->wb bs m d (s d))(g:fB d0)(hl:0<d0.left)(q:gE (bS d0) d)(h1:sg∈AO)(h2:fN bs l/\dQ l<=2)(h3:fN bs r/\dQ r<=2):wb bs n d0 (E3 st (bS d0).row kind sg l r d):=by
 have bE:wb bs n d0 (.bE (bS d0).row sg l r,d):=⟨qA g hl rfl rfl q,zaG _,h1,h2,h3⟩
 unfold E3;cases st with
 |none=>exact bE
 |some s=>
  obtain⟨m,rfl,hs⟩:=xD s rfl;simp only;split
  .exact bE
  .obtain⟨e1,e2,e3⟩:=zQ g;have l0:0<=d.left:=by have:=q.left;lia
   have g0:fB d:=by unfold fB;rw[q.gap,e2];exact g
   have a:=lJ hs d l0 g0;rcases ha:gW s d with ⟨xs,d1⟩
   rw[ha] at a;simp only;have da:=a.dep;simp only at da;split
   .exact⟨zR g rfl rfl q (qZ a.l),by show dg xs+1<=m+1;lia,h1,h2,h3,a.own⟩
   .rcases ht:draw d1 2 with ⟨t,d2⟩
    simp only;have a2:=a.l.Zw (bK ht);split
    .have a3:=qZ a2;have b:=lJ hs (jU d2) a3.nn (by unfold fB;rw[a3.gap,q.gap,e2];exact g);rcases hb:gW s (jU d2) with ⟨ys,d3⟩
     rw[hb] at b;have db:=b.dep;simp only at db;simp only;exact⟨zR g rfl rfl q (qZ (a3.app b.l)),by show max (dg xs) (dg ys)+1<=m+1;lia,h1,h2,h3,a.own,b.own⟩
    .have a3:=qZ a2;refine⟨zR (l:=au xs++au []) g rfl rfl q (by rw[au,zax];exact a3),?_,h1,h2,h3,a.own,trivial⟩;show max (dg xs) (dg [])+1<=m+1;rw[dg];lia
theorem Ax(xD:∀s,st=some s->∃m,n=m+1/\∀d:Dk,d.left>0->fB d->wb bs m d (s d))(g:fB d0)(hl:0<d0.left)(q:gE (bS d0) d):wb bs n d0 (pU st (xF bs) (bS d0).row kind d):=by
 unfold pU;rcases h1:draw d 2 with ⟨z,d1⟩
 simp only;have a:=oo bs 1 d1;rcases h2:tK (xF bs) 1 d1 with ⟨l,d2⟩
 rw[h2] at a;simp only;have b:=oo bs 1 d2;rcases h3:tK (xF bs) 1 d2 with ⟨r,d3⟩
 rw[h3] at b;exact Nw xD g hl (((q.trans (bK h1)).trans a.same).trans b.same) (oS [] (bO h1 (by decide)).1 (bO h1 (by decide)).2) a.two b.two
theorem BE(xD:∀s,st=some s->∃m,n=m+1/\∀d:Dk,d.left>0->fB d->wb bs m d (s d))(hl:0<d.left)(g:fB d):wb bs n d (v9 st (xF bs) d):=by
 have nm:∀{d1 d2:Dk} {j:Int},xF bs≠[]->draw d1 (xF bs).length=(j,d2)->pick [] (xF bs) j∈xF bs:=fun {d1 d2 j} ne e=>by
  have p:(0:Int)<(xF bs).length:=by have:=zbL.mpr ne;lia
  exact oS [] (bO e p).1 (bO e p).2
 unfold v9;rcases h1:draw (bS d) 13 with ⟨kind,d1⟩
 have q1:=bK h1;simp only;split
 .rename_i c;rcases h2:draw d1 (xF bs).length with ⟨j,d2⟩
  exact⟨qA g hl rfl rfl (q1.trans (bK h2)),zaG _,nm c.2 h2⟩
 .split
  .rename_i c;rcases h2:draw d1 (xF bs).length with ⟨j,d2⟩
   simp only;have a:=oo bs 1 d2;rcases h3:tK (xF bs) 1 d2 with ⟨e,d3⟩
   rw[h3] at a;exact⟨qA g hl rfl rfl ((q1.trans (bK h2)).trans a.same),zaG _,nm c.2 h2,a.two⟩
  .split
   .have a:=oo bs 1 d1;rcases h3:tK (xF bs) 1 d1 with ⟨e,d3⟩
    rw[h3] at a;exact⟨qA g hl rfl rfl (q1.trans a.same),zaG _,a.two⟩
   .split
    .rcases h2:draw d1 3 with ⟨z,d2⟩
     simp only;split
     .exact⟨qA g hl rfl rfl (q1.trans (bK h2)),zaG _,trivial⟩
     .exact Ax xD g hl (q1.trans (bK h2))
    .exact Ax xD g hl q1
theorem rg(bs:List jc):∀(n:Nat)(d:Dk),d.left>0->fB d->wb bs n d (lI (xF bs) n d)
 |0,d,h,g=>BE (fun s e=>by cases e) h g
 |n+1,d,h,g=>BE (fun s e=>by cases e;exact⟨n,rfl,rg bs n⟩) h g
structure tf(most:Int)(pr:Prog):Prop where
 pw:(au pr.body).Pairwise fun a b=>a.row<b.row
 pos:∀s∈au pr.body,0<s.row
 om:((au pr.body).length:Int)<=most
 dep:dg pr.body<=3
 own:BOk pr.ar pr.body
 nb:(pr.ar.map (·.name)).Nodup
 len:pr.ar.length<=3
 size:∀b∈pr.ar,2<=b.size/\b.size<=4/\0<=b.first/\b.first<b.size
theorem E4:∀(a b:List aT),Pt nm ex sg a->Pt nm ex sg b->Pt nm ex sg (a++b)
 |[],b,_,h=>h
 |s::r,b,h,h2=>⟨h.1,E4 r b h.2 h2⟩
theorem n9:∀(a b:List aT),au (a++b)=au a++au b
 |[],b=>rfl
 |s::r,b=>by
  show bA s++au (r++b)=(bA s++au r)++au b;rw[n9 r b,zau]
theorem ba(h:draw d many=(x,d')):d'.pos=d.pos+1:=by
 unfold draw at h;split at h
 .cases h;rfl
 .split at h<;>cases h<;>rfl
theorem A8(ns:List W):∀(n:Nat)(d:Dk),(tK ns n d).2.pos+2<=d.pos+6*2 ^ n
 |0,d=>by
  rw[tK];rcases h1:draw d 6 with ⟨k,d1⟩
  have p1:=ba h1;simp only;split
  .rcases h2:draw d1 4 with ⟨a,d2⟩
   have p2:=ba h2;simp only;rcases h3:draw d2 10 with ⟨b,d3⟩
   have p3:=ba h3;simp only;rcases h4:draw d3 6 with ⟨c,d4⟩
   have p4:=ba h4;simp only;lia
  .rcases h2:draw d1 ns.length with ⟨a,d2⟩
   have p2:=ba h2;simp only;lia
 |n+1,d=>by
  rw[tK];have pw:1<=2 ^ n:=Nat.one_le_two_pow;have pe:(2:Int) ^ (n+1)=2*2 ^ n:=by rw[Int.pow_succ,Int.mul_comm]
  have pc:((2 ^ n:Nat):Int)=(2:Int) ^ n:=by simp
  rcases h1:draw d 6 with ⟨k,d1⟩
  have p1:=ba h1;simp only;split
  .rcases h2:draw d1 4 with ⟨a,d2⟩
   have p2:=ba h2;simp only;rcases h3:draw d2 10 with ⟨b,d3⟩
   have p3:=ba h3;simp only;rcases h4:draw d3 6 with ⟨c,d4⟩
   have p4:=ba h4;simp only;rw[pe];generalize (2:Int) ^ n=z at *;lia
  .split
   .rcases h2:draw d1 ns.length with ⟨a,d2⟩
    have p2:=ba h2;simp only;rw[pe];generalize (2:Int) ^ n=z at *;lia
   .rcases h2:draw d1 3 with ⟨g,d2⟩
    have p2:=ba h2;simp only;have l:=A8 ns n d2;rcases h3:tK ns n d2 with ⟨a,d3⟩
    rw[h3] at l;simp only at l |-;have r:=A8 ns n d3;rcases h4:tK ns n d3 with ⟨b,d4⟩
    rw[h4] at r;simp only at r |-;rw[pe];generalize (2:Int) ^ n=z at *;lia
theorem qB(h:tK ns 1 d=(t,d')):d'.pos<=d.pos+10:=by
 have:=A8 ns 1 d;rw[h] at this;simp only at this;have e:(2:Int) ^ 1=2:=rfl;rw[e] at this;lia
noncomputable def sB:Nat->Int
 |0=>30
 |n+1=>30+8*sB n
theorem zS:∀n,0<=sB n
 |0=>by decide
 |n+1=>by have:=zS n;rw[sB];lia
theorem wR(hc:0<=c)(h:∀d,(st d).2.pos<=d.pos+c):∀(k:Nat)(d:Dk),(iy st k d).2.pos<=d.pos+k*c
 |0,d=>by rw[iy];simp
 |k+1,d=>by
  rw[iy];have e:((k+1:Nat):Int)*c=k*c+c:=by rw[Int.natCast_succ,zdg,zdh]
  rw[e];split
  .have:=wR hc h k (st d).2;have:=h d;simp only;lia
  .have:=wR hc h k d;lia
theorem rh(hc:0<=c)(h:∀d,(st d).2.pos<=d.pos+c)(d:Dk):(gW st d).2.pos<=d.pos+1+4*c:=by
 unfold gW;rcases h1:draw d 5 with ⟨k,d1⟩
 have p:=ba h1;have q:=bO h1 (by decide);have:=wR hc h k.toNat d1;simp only;have:(k.toNat:Int)*c<=4*c:=zcu (by lia) hc;lia
theorem Qs(hc:0<=c)(h:∀s,st=some s->∀d,(s d).2.pos<=d.pos+c)(row kind:Int)(sg:W)(l r:Tr)(d:Dk):(E3 st row kind sg l r d).2.pos<=d.pos+3+8*c:=by
 unfold E3;cases st with
 |none=>simp only;lia
 |some s=>
  simp only;split
  .simp only;lia
  .have a:=rh hc (h s rfl) d;rcases ha:gW s d with ⟨x,d1⟩
   rw[ha] at a;simp only at a |-;split
   .show d1.pos<=_;lia
   .rcases ht:draw d1 2 with ⟨t,d2⟩
    have p:=ba ht;simp only;split
    .have b:=rh hc (h s rfl) (jU d2);rcases hb:gW s (jU d2) with ⟨y,d3⟩
     rw[hb] at b;have e:(jU d2).pos=d2.pos:=rfl;show d3.pos<=_;simp only at b;lia
    .show d2.pos<=_;lia
theorem BF(hc:0<=c)(h:∀s,st=some s->∀d,(s d).2.pos<=d.pos+c)(ns:List W)(row kind:Int)(d:Dk):(pU st ns row kind d).2.pos<=d.pos+24+8*c:=by
 unfold pU;rcases h1:draw d 2 with ⟨z,d1⟩
 have p1:=ba h1;simp only;rcases h2:tK ns 1 d1 with ⟨l,d2⟩
 have p2:=qB h2;simp only;rcases h3:tK ns 1 d2 with ⟨r,d3⟩
 have p3:=qB h3;simp only;have:=Qs hc h row kind (pick [] AO z) l r d3;lia
theorem BG(d:Dk):(bS d).pos<=d.pos+1:=by
 unfold bS;split
 .rcases h:draw {d with left:=d.left-1,row:=d.row+1} d.gap with ⟨x,d1⟩
  have p:=ba h;simp only at *;lia
 .simp only;lia
theorem DV(hc:0<=c)(h:∀s,st=some s->∀d,(s d).2.pos<=d.pos+c)(ns:List W)(d:Dk):(v9 st ns d).2.pos<=d.pos+27+8*c:=by
 unfold v9;have p0:=BG d;rcases h1:draw (bS d) 13 with ⟨kind,d1⟩
 have p1:=ba h1;simp only;split
 .rcases h2:draw d1 ns.length with ⟨j,d2⟩
  have p2:=ba h2;simp only;lia
 .split
  .rcases h2:draw d1 ns.length with ⟨j,d2⟩
   have p2:=ba h2;simp only;rcases h3:tK ns 1 d2 with ⟨e,d3⟩
   have p3:=qB h3;simp only;lia
  .split
   .rcases h3:tK ns 1 d1 with ⟨e,d3⟩
    have p3:=qB h3;simp only;lia
   .split
    .rcases h2:draw d1 3 with ⟨z,d2⟩
     have p2:=ba h2;simp only;split
     .simp only;lia
     .have:=BF hc h ns (bS d).row kind d2;lia
    .have:=BF hc h ns (bS d).row kind d1;lia
theorem vq(ns:List W):∀(n:Nat)(d:Dk),(lI ns n d).2.pos<=d.pos+sB n
 |0,d=>by
  have:=DV (st:=none) (c:=0) (zcF _) (fun s e=>by cases e) ns d;rw[lI,sB];lia
 |n+1,d=>by
  have:=DV (st:=some (lI ns n)) (zS n) (fun s e=>by cases e;exact vq ns n) ns d;rw[lI,sB];lia
theorem WE(ns:List W):xF (ns.map fun n=>⟨n,0,0⟩)=ns:=by
 unfold xF;rw[zaB];exact List.map_id _
theorem Qt(ns:List W)(n:Nat)(d:Dk):gE d (tK ns n d).2:=by
 have:=(oo (ns.map fun n=>⟨n,0,0⟩) n d).same;rw[WE] at this;exact this
theorem zU(h:tK ns n d=(t,d')):gE d d':=by have:=Qt ns n d;rw[h] at this;exact this
theorem wU(h:∀d,(st d).2.gap=d.gap):∀(k:Nat)(d:Dk),(iy st k d).2.gap=d.gap
 |0,d=>rfl
 |k+1,d=>by
  rw[iy];split
  .exact(wU h k (st d).2).trans (h d)
  .exact wU h k d
theorem rm(h:∀d,(st d).2.gap=d.gap)(d:Dk):(gW st d).2.gap=d.gap:=(wU h _ _).trans (zO d 5).gap
theorem Qu(h:∀s,st=some s->∀d,(s d).2.gap=d.gap)(row kind:Int)(sg:W)(l r:Tr)(d:Dk):(E3 st row kind sg l r d).2.gap=d.gap:=by
 unfold E3;cases st with
 |none=>rfl
 |some s=>
  simp only;split
  .rfl
  .have a:=rm (h s rfl) d;rcases ha:gW s d with ⟨x,d1⟩
   rw[ha] at a;simp only at a |-;split
   .exact a
   .rcases ht:draw d1 2 with ⟨t,d2⟩
    have p:=(bK ht).gap;simp only;split
    .have b:=rm (h s rfl) (jU d2);rcases hb:gW s (jU d2) with ⟨y,d3⟩
     rw[hb] at b;exact b.trans (p.trans a)
    .exact p.trans a
theorem BH(h:∀s,st=some s->∀d,(s d).2.gap=d.gap)(ns:List W)(row kind:Int)(d:Dk):(pU st ns row kind d).2.gap=d.gap:=by
 unfold pU;rcases h1:draw d 2 with ⟨z,d1⟩
 simp only;rcases h2:tK ns 1 d1 with ⟨l,d2⟩
 simp only;rcases h3:tK ns 1 d2 with ⟨r,d3⟩
 simp only;rw[Qu h,(zU h3).gap,(zU h2).gap,(bK h1).gap]
theorem BI(d:Dk):(bS d).gap=d.gap:=by
 unfold bS;split
 .rcases h:draw {d with left:=d.left-1,row:=d.row+1} d.gap with ⟨x,d1⟩
  exact(bK h).gap
 .rfl
theorem DX(h:∀s,st=some s->∀d,(s d).2.gap=d.gap)(ns:List W)(d:Dk):(v9 st ns d).2.gap=d.gap:=by
 unfold v9;have p0:=BI d;rcases h1:draw (bS d) 13 with ⟨kind,d1⟩
 have p1:=(bK h1).gap.trans p0;simp only;split
 .rcases h2:draw d1 ns.length with ⟨j,d2⟩
  exact(bK h2).gap.trans p1
 .split
  .rcases h2:draw d1 ns.length with ⟨j,d2⟩
   simp only;rcases h3:tK ns 1 d2 with ⟨e,d3⟩
   exact(zU h3).gap.trans ((bK h2).gap.trans p1)
  .split
   .rcases h3:tK ns 1 d1 with ⟨e,d3⟩
    exact(zU h3).gap.trans p1
   .split
    .rcases h2:draw d1 3 with ⟨z,d2⟩
     simp only;split
     .exact(bK h2).gap.trans p1
     .rw[BH h];exact(bK h2).gap.trans p1
    .rw[BH h];exact p1
theorem vt(ns:List W):∀(n:Nat)(d:Dk),(lI ns n d).2.gap=d.gap
 |0,d=>DX (fun s e=>by cases e) ns d
 |n+1,d=>DX (fun s e=>by cases e;exact vt ns n) ns d
end PG
namespace L2
open PG
open PySem PyProof.Rows
theorem Qv{K:zaa}(e:X.K=K)(hl:PE X l tl):PI X tg l (Du K tl):=e▸bt hl
theorem Ka(xs:List V)(h:0<=x):je xs none (some x)=xs.take x.toNat:=by
 obtain⟨j,rfl⟩:∃j:Nat,x=j:=⟨x.toNat,by lia⟩
 unfold je;rw[HT.lD,HT.mE,zci,zcL,zaP];by_cases h:j<=xs.length
 .rw[zb7 h]
 .rw[zcb (by lia),zaH,zaZ (by lia)]
theorem BJ(xs:List V)(j:Nat):je xs (some (j:Int)) none=xs.drop j:=by
 unfold je;rw[HT.lD,HT.mE];by_cases h:j<=xs.length
 .rw[zb7 h,zaZ (by rw[zaU];lia)]
 .rw[zcb (by lia),zbQ (by lia),zbQ (by lia),zc8]
theorem Tz(xs:List V)(hj:j<xs.length)(x:V):je xs none (some (j:Int))++[x]++je xs (some ((j:Int)+1)) none=xs.set j x:=by
 rw[Ka xs (by lia),show ((j:Int)+1)=((j+1:Nat):Int) by lia,BJ,zaP,List.set_eq_take_append_cons_drop,ybr hj,zau];rfl
end L2
namespace PG
open PM (W Tr)
noncomputable def rn (n:Int):List Int:=(if n<999 then [n+1] else [])++if 0<n then [n-1] else []
def ja:Tr->List Tr
 |.num n=>(rn n).map .num
 |.box _=>[]
 |.bin o l r=>(ja l).map (fun x=>.bin o x r)++(ja r).map fun x=>.bin o l x
noncomputable def oT (o:W):W:=if o=[43] then [45] else if o=[60] then [61] else if o=[61] then [60] else [43]
def jj:Tr->List Tr
 |.bin o l r=>(jj l).map (fun x=>.bin o x r)++(.bin (oT o) l r::(jj r).map fun x=>.bin o l x)
 |_=>[]
noncomputable def iE (f:Tr->List Tr):aT->List aT
 |.put k b e=>(f e).map fun x=>.put k b x
 |.say k e=>(f e).map fun x=>.say k x
 |.bE k sg l r=>(f l).map (fun x=>.bE k sg x r)++(f r).map fun x=>.bE k sg l x
 |.ifs k sg l r a b=>(f l).map (fun x=>.ifs k sg x r a b)++(f r).map fun x=>.ifs k sg l x a b
 |.fM k sg l r a=>(f l).map (fun x=>.fM k sg x r a)++(f r).map fun x=>.fM k sg l x a
 |_=>[]
def E5:aT->List (List aT)
 |.bE k sg l r=>[[.bE k (oT sg) l r]]
 |.ifs k sg l r a b=>[[.ifs k (oT sg) l r a b]]
 |.fM k sg l r a=>[[.fM k (oT sg) l r a]]
 |_=>[]
noncomputable def Hq:aT->List (List aT)
 |.ifs k sg l r a b=>[[.ifs k sg r l a b]]
 |.fM k sg l r a=>[[.fM k sg r l a]]
 |_=>[]
noncomputable def Kb:aT->List (List aT)
 |.put ..=>[[]]
 |.say ..=>[[]]
 |_=>[]
def fE (s:aT):List (List aT):=(iE ja s++iE jj s).map (fun x=>[x])++(E5 s++(Hq s++Kb s))
mutual
noncomputable def fY (row:Int)(o:List aT):aT->aT
 |.ifs k sg l r a b=>.ifs k sg l r (dS row o a) (dS row o b)
 |.fM k sg l r a=>.fM k sg l r (dS row o a)
 |s=>s
noncomputable def dS (row:Int)(o:List aT):List aT->List aT
 |[]=>[]
 |s::r=>(if s.row=row then o else [fY row o s])++dS row o r
end
def Nx (b:List aT):List (List aT):=(au b).flatMap fun s=>(fE s).map fun o=>dS s.row o b
mutual
noncomputable def AQ:aT->List aT
 |.ifs k sg l r a b=>(CJ a).map (fun x=>.ifs k sg l r x b)++(CJ b).map fun x=>.ifs k sg l r a x
 |.fM k sg l r a=>(CJ a).map fun x=>.fM k sg l r x
 |_=>[]
noncomputable def CJ:List aT->List (List aT)
 |[]=>[]
 |s::r=>((fE s).map fun o=>o++r)++((AQ s).map (fun x=>x::r)++(CJ r).map fun x=>s::x)
end
mutual
theorem DY(row:Int)(o:List aT):∀s:aT,(∀t∈bA s,t.row≠row)->fY row o s=s
 |.ifs k sg l r a b,h=>by
  rw[bA] at h;rw[fY,lK row o a fun t ht=>h t (by simp[ht]),lK row o b fun t ht=>h t (by simp[ht])]
 |.fM k sg l r a,h=>by
  rw[bA] at h;rw[fY,lK row o a fun t ht=>h t (by simp[ht])]
 |.ask _ _,_=>by rw[fY]<;>simp
 |.put _ _ _,_=>by rw[fY]<;>simp
 |.say _ _,_=>by rw[fY]<;>simp
 |.bE _ _ _ _,_=>by rw[fY]<;>simp
 |.stop _,_=>by rw[fY]<;>simp
theorem lK(row:Int)(o:List aT):∀b:List aT,(∀t∈au b,t.row≠row)->dS row o b=b
 |[],_=>by rw[dS]
 |s::r,h=>by
  rw[au] at h;have h0:s.row≠row:=h s (zak.mpr (.inl (by cases s<;>simp[bA])));rw[dS,ybq h0,DY row o s fun t ht=>h t (zak.mpr (.inl ht)),lK row o r fun t ht=>h t (zak.mpr (.inr ht))];rfl
end
theorem iH{Z L:Type}{f g:Z->List L}:∀{l:List Z},(∀x∈l,f x=g x)->l.flatMap f=l.flatMap g
 |[],_=>rfl
 |a::r,h=>by rw[zbI,zbI,h a (zaw ..),iH fun x hx=>h x (zao _ hx)]
theorem DZ(s:aT):∃r,bA s=s::r:=by cases s<;>simp[bA]
mutual
theorem Qw:∀s:aT,(bA s).Pairwise (fun a b=>a.row<b.row)->((bA s).tail.flatMap fun t=>(fE t).map fun o=>fY t.row o s)=AQ s
 |.ifs k sg l r a b,h=>by
  rw[bA,zbA,zbk] at h;rw[bA,zc4,zbq,AQ,<- ud a h.2.1,<- ud b h.2.2.1];unfold Nx;rw[zbZ,zbZ]
  congr 1
  .refine iH fun t ht=>?_;rw[zaB];refine zbM fun o _=>?_;rw[fY,lK t.row o b fun u hu=>by have:=h.2.2.2 t ht u hu;lia];rfl
  .refine iH fun t ht=>?_;rw[zaB];refine zbM fun o _=>?_;rw[fY,lK t.row o a fun u hu=>by have:=h.2.2.2 u hu t ht;lia];rfl
 |.fM k sg l r a,h=>by
  rw[bA,zbA] at h;rw[bA,zc4,AQ,<- ud a h.2];unfold Nx;rw[zbZ];refine iH fun t ht=>?_;rw[zaB];refine zbM fun o _=>?_;rw[fY];rfl
 |.ask _ _,_=>by simp[bA,AQ]
 |.put _ _ _,_=>by simp[bA,AQ]
 |.say _ _,_=>by simp[bA,AQ]
 |.bE _ _ _ _,_=>by simp[bA,AQ]
 |.stop _,_=>by simp[bA,AQ]
theorem ud:∀b:List aT,(au b).Pairwise (fun a b=>a.row<b.row)->Nx b=CJ b
 |[],_=>by simp[Nx,au,CJ]
 |s::r,h=>by
  rw[au,zbk] at h;obtain⟨t,et⟩:=DZ s;have hs:=Qw s h.1;have hr:=ud r h.2.1;rw[CJ,<- hs,<- hr];unfold Nx;rw[au,zbq,et,zbI,zc4,zau];rw[et,zbA] at h
  congr 1
  .refine zbM fun o _=>?_;rw[dS,ybr rfl,lK s.row o r fun u hu=>by have:=h.2.2 s (by simp) u hu;lia]
  .congr 1
   .rw[zbZ];refine iH fun u hu=>?_;rw[zaB];refine zbM fun o _=>?_;have n1:s.row≠u.row:=by have:=h.1.1 u hu;lia
    rw[dS,ybq n1,lK u.row o r fun v hv=>by have:=h.2.2 u (by simp[hu]) v hv;lia];rfl
   .rw[zbZ];refine iH fun u hu=>?_;rw[zaB];refine zbM fun o _=>?_;have n1:s.row≠u.row:=by have:=h.2.2 s (by simp) u hu;lia
    rw[dS,ybq n1,DY u.row o s fun v hv=>by
     have:=h.2.2 v (by rw[et] at hv;exact hv) u hu;lia]
    rfl
end
end PG
namespace L2
open PG
open PySem PySem.Spec PyProof.Rows
def WG (P:zdu)(w:zdk)(K:zaa)(a:zdi)(kvs:List (Key×V)):Prop:=∀h:yaf,K.In h->kvs.length<=zdq/\(a==yal)=false/\∃vs,KV kvs vs/\h.DictOf (bF P w) a vs
def Zx (P:zdu)(w:zdk)(K:zaa)(x y:V)(o:Option V):Prop:=∃a kvs k,x=.ref a/\WG P w K a kvs/\y=kV k/\o=bZ kvs k
def Kc (P:zdu)(w:zdk)(K:zaa)(td ty:TE):TE:=fun G H Q=>td G H fun x H1=>ty G H1 fun y H2=>∃v,Zx P w K x y (some v)/\Q v H2
section
variable{X:Cx}{o i e f:Expr}{pos apos EJ:Pos}{td ty tx:TE}
theorem BK(ho:PE X o td)(hi:PE X i ty)(hs:S9 i):PE X (.Subscript o i pos) (Kc X.prog X.w X.K td ty):=by
 intro pins s G H Q I h;refine EL PySem.F.slot_dict_getitem.lookup hs (ib (ho pins s G H _ I h) fun u s1 zqz=>?_);obtain⟨x,H1,I1,rx,q1⟩:=zqz;refine ib (hi pins s1 G H1 _ I1 q1) fun iv s2 zqz=>?_;obtain⟨y,H2,I2,ry,v,g,q2⟩:=zqz;obtain⟨a,kvs,k,rfl,dc,rfl,l⟩:=g;obtain rfl:u=yab a:=rx;obtain⟨z,hd,vs,rel,dd⟩:=dc _ I2.AK;obtain⟨w',hw,GO⟩:=qM.some_of (v:=v) (o:=valueAt vs k) (by rw[l];exact rel.val k);exact⟨dd.typeIs,wpAny_getItem_of (xP ry) dd.mapOf hw ⟨v,H2,I2.tok _,GO,q2⟩⟩
end
inductive UR(P:zdu)(w:zdk):List (Key×V)->List DictEntry->Prop
 |nil:UR P w [] []
 |cons {k v e kvs es}:e.hash=(bF P w).hash k->RelV (kV k) e.key->RelV v e.val->UR P w kvs es->UR P w ((k,v)::kvs) (e::es)
theorem UR.of(h:UR P w kvs es):∃vs,KV kvs vs/\Pairs (bF P w) es vs/\∀e∈es,∃k,(bF P w).is k e.key=true/\e.hash=(bF P w).hash k:=by
 induction h with
 |nil=>exact⟨[],.nil,.nil,fun e he=>by cases he⟩
 |@cons k v e kvs es a b c _ ih=>
  obtain⟨vs,h1,h2,h3⟩:=ih;refine⟨(k,e.val)::vs,.cons ⟨rfl,c⟩ h1,(.cons (xP b) rfl h2),fun x hx=>?_⟩;rcases zan.mp hx with rfl |hx
  .exact⟨k,xP b,a⟩
  .exact h3 x hx
theorem WG.mk{K:zaa}(l:K.lookup a=some ⟨.type "dict",none,.dict es ep, #[]⟩)(ha:(a==yal)=false)(hd:UR P w kvs es.toList)(nd:(kvs.map (·.1)).Nodup)(len:kvs.length<=zdq):WG P w K a kvs:=fun h hK=>by
 obtain⟨vs,h1,h2,h3⟩:=hd.of;refine⟨len,ha,vs,h1,_,es,ep,hK _ _ l,⟨rfl,rfl,rfl⟩,rfl,fun e he=>h3 e (by simpa using he),h2,?_⟩;have ek:∀{l:List (Key×V)} {m:List (Key×zdj)},KV l m->l.map (·.1)=m.map (·.1):=by
  intro l m r;unfold KV at r
  induction r with
  |nil=>rfl
  |cons a _ ih=>rw[zaq,zaq,ih,a.1]
 rw[<- ek h1];exact nd
section
variable{prog:zdu}{w:zdk}
def wV (prog:zdu) (w:zdk) (h:yaf) (x:eV×eV) (a:zdi):Prop:=∃(o:Obj) (n:Nat) (b c:zdi),h.get? a=some o/\o.cls=.type "tuple"/\o.data=.seq #[.ref b,.ref c] n/\qY prog w h x.1 b/\qY prog w h x.2 c
theorem wV.ty{s:zds}(h:wV prog w s.heap x a):s.TypeIs (.ref a) "tuple":=by obtain⟨o,_,_,_,e,c,_⟩:=h;exact⟨o,e,c⟩
def Qx (w:zdk)(prog:zdu)(x:eV×eV):Int:=reduceHash (yaT [zK w prog x.1,zK w prog x.2])
theorem wV.one(hx:wV prog w h x a)(hy:wV prog w h y a):x=y:=by
 obtain⟨o,n,b,c,e,_,d,i,t⟩:=hx;obtain⟨o',n',b',c',e',_,d',i',t'⟩:=hy;rw[e] at e';cases e';rw[d] at d'
 injection d' with d1 _
 have d1:=ybv zcK d1;simp only[List.cons.injEq,Value.ref.injEq,and_true] at d1;obtain⟨rfl,rfl⟩:=d1;exact Prod.ext (i.one i') (t.one t')
theorem wV.kp{es ep}(hx:wV prog w h x a)(ho:h.get? d=some o)(hd:o.data=.dict es ep)(hs:yat d h h'):wV prog w h' x a:=by
 obtain⟨o',n,b,c,e,k,d',i,t⟩:=hx;have ne:a≠d:=fun z=>by
  rw[z,ho] at e;cases e;rw[hd] at d';cases d'
 exact⟨o',n,b,c,(hs.2 a ne).trans e,k,d',i.kp ho hd hs,t.kp ho hd hs⟩
variable{A:zdt}{E:zdj->zds->Prop}{s:zds}
theorem TB(hu:A.units+12<cLine)(hk:wV prog w s.heap x a)(h:Q (Qx w prog x) {s with toks:=s.toks+(x.1.2.length+x.2.2.length+7)}) :
 yaa (model prog w) A (pyHash (.ref a)) Q E s:=by
 have ty:=hk.ty;obtain⟨o,n,b,c,e,k,d,i,t⟩:=hk;refine zdb (T:="tuple") ty F.slot_tuple_hash F.entry_tuple_hash (F.args_tuple_hash_1 _) (beq_builtin_none _) (.inr (by lia)) ((show yaa _ _ (yaN (.ref a) >>= _) _ _ s from ?_));refine zdl (yaK e d (zdl ?_));rw[<- zbS];show yaa _ _ (forIn [yab b,yab c] #[] _) _ _ s;rw[zaM];refine zdl (zdl (E1 (by show A.units+1+8<cLine;lia) i (zdm ?_)));show yaa _ _ (forIn [yab c] _ _) _ _ _;rw[zaM];refine zdl (zdl (E1 (x:=x.2) (by show A.units+1+8<cLine;lia) (show qY prog w _ x.2 c from t) (zdm ?_)));show yaa _ _ (forIn ([]:List zdj) _ _) _ _ _;rw[zbn];refine zdm ?_;show yaa _ _ (retInt (yaT [zK w prog x.1,zK w prog x.2])) _ _ _;refine zdl (wpAny_mkInt (zdm ⟨_,_,rfl,?_⟩));rw[show s.toks+(x.1.2.length+x.2.2.length+7)=s.toks+(x.1.2.length+3)+(x.2.2.length+3)+1 by lia] at h;exact h
theorem Zy(hu:A.units+12<cLine)(hx:wV prog w s.heap x a)(hy:wV prog w s.heap y b)(h:Q (decide (x=y)) s):yaa (model prog w) A (eqBool (.ref a) (.ref b)) Q E s:=by
 unfold eqBool
 try with_reducible refine zdn ?_
 show yaa _ _ (if (yab a==yab b)=true then _ else _) Q E s;by_cases Gg:(yab a==yab b)=true
 .rw[ybr Gg];have e:a=b:=by have:=eq_of_beq Gg;injection this
  subst e;cases hx.one hy;exact zdl (ya3 (zdm (by simpa using h)))
 .rw[ybq Gg];refine zdl (wpAny_richCompare_same_room (op:=.Eq) hx.ty hy.ty yaG (yap yaG hx.ty F.entry_tuple_eq ?_ (F.args_tuple_eq_2 _ _)) (by lia));have hTb:=hy.ty;obtain⟨o1,n1,b1,c1,e1,k1,d1,i1,t1⟩:=hx;obtain⟨o2,n2,b2,c2,e2,k2,d2,i2,t2⟩:=hy;show yaa _ _ (isInstance (.ref b) (.type "tuple") >>= _) _ _ s;refine zdl (yaB hTb isSubtype_tuple_tuple ?_);simp only[zaY,zav,if_false];refine zdl (yaK e1 d1 (zdl (yaK e2 d2 (zdl ?_))));show yaa _ _ (forIn [(yab b1,yab b2),(yab c1,yab c2)] _ _) _ _ s;have fin:∀c:Bool,c=decide (x=y)->∃v,(Fin.done (Flow.ret (yaJ c)))=Fin.done (Flow.ret v)/\v≠Value.notImplemented/\yaa (model prog w) A (truthOfDropped v) Q E s:=fun c hc=>⟨_,rfl,(fun z=>nomatch z),ya1 (hc▸h)⟩
  rw[zaM];refine zdl (zdl (Qf (by show A.units+1+8<cLine;lia) i1 i2 ?_));by_cases k1:x.1=y.1
  .rw[ybs k1];simp only[zaY,zav,if_false];refine zdm ?_;show yaa _ _ (forIn [(yab c1,yab c2)] _ _) _ _ s;rw[zaM];refine zdl (zdl (Qf (by show A.units+1+8<cLine;lia) t1 t2 ?_));by_cases k2:x.2=y.2
   .rw[ybs k2];simp only[zaY,zav,if_false];refine zdm ?_;show yaa _ _ (forIn ([]:List (zdj×zdj)) _ _) _ _ s;rw[zbn];exact zdm (zdm (fin true (ybs (Prod.ext k1 k2)).symm))
   .rw[ybt k2];simp only[zcC,if_true];exact zdl (zdm (zdm (zdm (zdm (fin false (ybt fun z=>k2 (ybv Prod.snd z)).symm)))))
  .rw[ybt k1];simp only[zcC,if_true];exact zdl (zdm (zdm (zdm (zdm (fin false (ybt fun z=>k1 (ybv Prod.fst z)).symm)))))
theorem D0(m:Nat){x:eV}(hk:qY prog w s.heap x a)(h:Q true s):yaa (model prog w) A (eqIsQuiet (m+2) (.ref a)) Q E s:=by
 have ty:=hk.ty;obtain⟨o,n,u,b,e,c,d,i,t⟩:=hk;unfold eqIsQuiet;refine zdl (yaZ ty yaG.lookup ((show yaa _ _ (isInstance (.ref a) (.type "tuple") >>= _) _ _ s from ?_)));refine zdl (yaB ty isSubtype_tuple_tuple ?_);simp only[zaY,zav,if_false];refine zdl (yam e d (zdl ?_));have key:∀ {z:zdj} {k:Key} {m:Nat},v7 k z=true->eqIsQuiet m z=pure true:=fun {z k m} hz=>eqIsQuiet_byValue m ((bF prog w).byValue k z hz);show yaa _ _ (forIn #[u,yab b] _ _) _ _ s;rw[<- zbS];show yaa _ _ (forIn [u,yab b] _ _) _ _ s;rw[zaM,key i];refine zdl (zdl (zdm ?_));simp only[zaY,zav,if_false];refine zdm ?_;show yaa _ _ (forIn [yab b] _ _) _ _ s;rw[zaM];refine zdl (zdl (Bz m t ?_));simp only[zaY,zav,if_false];refine zdm ?_;show yaa _ _ (forIn ([]:List zdj) _ _) _ _ s;rw[zbn];exact zdm (zdm h)
theorem Qy(hk:wV prog w s.heap x a)(h:Q true s):yaa (model prog w) A (eqIsQuiet 8 (.ref a)) Q E s:=by
 have ty:=hk.ty;obtain⟨o,n,b,c,e,k,d,i,t⟩:=hk;unfold eqIsQuiet;refine zdl (yaZ ty yaG.lookup ((show yaa _ _ (isInstance (.ref a) (.type "tuple") >>= _) _ _ s from ?_)));refine zdl (yaB ty isSubtype_tuple_tuple ?_);simp only[zaY,zav,if_false];refine zdl (yam e d (zdl ?_));show yaa _ _ (forIn #[yab b,yab c] _ _) _ _ s;rw[<- zbS];show yaa _ _ (forIn [yab b,yab c] _ _) _ _ s;rw[zaM];refine zdl (zdl (D0 5 i ?_));simp only[zaY,zav,if_false];refine zdm ?_;show yaa _ _ (forIn [yab c] _ _) _ _ s;rw[zaM];refine zdl (zdl (D0 5 t ?_));simp only[zaY,zav,if_false];refine zdm ?_;show yaa _ _ (forIn ([]:List zdj) _ _) _ _ s;rw[zbn];exact zdm (zdm h)
end
def WH (prog:zdu)(w:zdk):HeapKind prog w (eV×eV) where
 is:=wV prog w
 hash:=Qx w prog
 draws:=fun x=>x.1.2.length+x.2.2.length+7
 room:=fun A=>A.units+12<cLine
 inj:=fun hx hy=>hx.one hy
 keeps:=fun hx ho hd hs=>hx.kp ho hd hs
 pyHash:=fun hu hk h=>TB hu hk h
 eqBool:=fun hu hx hy h=>Zy hu hx hy h
 quiet:=fun hk h=>Qy hk h
def Ay:KH (eV×eV) where
 knd:=WH
 on:=fun K H x a=>∃b c,bG K H a [.ref b,.ref c]/\SkH K H x.1 b/\SkH K H x.2 c
 up:=fun t ⟨b,c,h1,h2,h3⟩=>⟨b,c,t _ _ h1,sR.up t h2,sR.up t h3⟩
 of:=fun {X pins G H s x a} I ⟨b,c,h1,h2,h3⟩=>by
  obtain⟨i1,r1,⟨o1,e1,c1,n1,d1⟩,_⟩:=I.tuple h1;obtain⟨u1,u2,rfl,q1,q2⟩:=vals2 r1;cases (show u1=yab b from q1);cases (show u2=yab c from q2);exact⟨o1,n1,b,c,e1,c1,d1,sR.of I h2,sR.of I h3⟩
 room:=fun {P w A} h=>by show A.units+1+12<cLine;lia
end L2
namespace L3
open PG
open PySem PyProof.Rows
noncomputable def vw {Y:Type} [DecidableEq Y] (xs:List (Y×zdi×zdj))(r:List (zdi×Y×zdi×zdj)):List (Y×zdi×zdj):=r.foldl (fun acc q=>storedH acc q.2.1 q.2.2.1 q.2.2.2) xs
theorem Hr{Y:Type}[DecidableEq Y](xs:List (Y×zdi×zdj))(k:Y)(a:zdi)(v:zdj):(storedH xs k a v).length<=xs.length+1:=by
 unfold storedH;split<;>simp
section
variable{prog:zdu}{w:zdk}{A:zdt}{E:zdj->zds->Prop}{Y:Type}[DecidableEq Y]{knd:HeapKind prog w Y}
theorem TC(kp:∀(h h':yaf)(x:Y)(a:zdi),knd.is h x a->Bu h h'->knd.is h' x a)(hd:h.DictOfH knd d xs)(t:Bu h h')(e:∀o,h.get? d=some o->h'.get? d=some o):h'.DictOfH knd d xs:=by
 obtain⟨o,es,ep,ho,hc,hd,he,his,hn⟩:=hd;exact⟨o,es,ep,e _ ho,hc,hd,he,fun x hx=>kp _ _ _ _ (his x hx) t,hn⟩
def DH0 (knd:HeapKind prog w Y)(d:zdi)(r:List (zdi×Y×zdi×zdj))(h:yaf)(i:Nat):Prop:=(∃xs,h.DictOfH knd d xs/\vw xs (r.drop i)=vw [] r/\xs.length<=i)/\∀q∈r,knd.is h q.2.1 q.2.2.1
theorem Kd(kp:∀(h h':yaf) (x:Y) (a:zdi),knd.is h x a->Bu h h'->knd.is h' x a)(l:zdi)(hA:A.handled=none)(hu:knd.room A.in1.in1)(r:List (zdi×Y×zdi×zdj))(hx:s.heap.get? l=some ⟨.type "list",none,.seq items n,sl⟩)
 (hi:items.toList=r.map (fun q=>yab q.1)) (hp:∀q∈r,s.heap.IsTuple q.1 #[.ref q.2.2.1,q.2.2.2]/\knd.is s.heap q.2.1 q.2.2.1) (hz:r.length<=zdq)
 (h:∀h' tk,h'.DictOfH knd s.heap.objs.size (vw [] r)->(∀b o,s.heap.get? b=some o->h'.get? b=some o)->Q (.ref s.heap.objs.size) {s with heap:=h',toks:=tk}) :
 yaa (model prog w) A (call (.type "dict") [.ref l]) Q E s:=by
 refine G1 (S:=DH0 knd s.heap.objs.size r) l hA (r.map fun q=>(q.1,.ref q.2.2.1,q.2.2.2)) hx (by rw[zaB];exact hi) (fun q hq=>by obtain⟨q',Lj,rfl⟩:=zar.mp hq;exact(hp q' Lj).1) ⟨fun ⟨⟨_,⟨o,_,_,ho,hc,_⟩,_⟩,_⟩=>⟨o,ho,hc.1⟩,fun {E s1 i x y Q} e ⟨⟨xs,hd,hm,hl⟩,hk⟩ hQ=>?_⟩
  (fun h e k=>⟨⟨[],⟨_, #[],0,e,⟨rfl,rfl,rfl⟩,rfl,rfl,fun _ hx=>by simp at hx,zbf⟩,rfl,zah _⟩,fun q hq=>kp _ _ _ _ (hp q hq).2 fun b o e _=>k b o e⟩) (fun ⟨⟨xs,hd,r⟩,hk⟩ k t=>⟨⟨xs,TC kp hd t k,r⟩,fun q hq=>kp _ _ _ _ (hk q hq) t⟩) fun h' tk ⟨⟨xs,hd,e,_⟩,_⟩=>h h' tk (by rw[zab,zbP] at e;rwa [<- e])
 rw[zaB,zaf] at e;obtain⟨q,eq,ex⟩:=zaT.mp e;obtain⟨lt,rfl⟩:=zaj.mp eq;obtain⟨rfl,rfl⟩:yab r[i].2.2.1=x/\r[i].2.2.2=y:=Prod.mk.inj ex;obtain⟨o,_,_,ho,hc,_⟩:=id hd;refine wpAny_dictSet_heap hu (hk _ (zam lt)) hd (fun h' VH sb=>hQ h' _ ⟨⟨_,VH,?_,zaz (Hr ..) (by lia)⟩,fun p hp=>kp _ _ _ _ (hk p hp) fun b u e c=>(sb.2 b fun z=>?_).trans e⟩ sb) (by lia)
 .rw[<- hm,zbc (i:=i) lt];rfl
 .rw[z,ho] at e;cases e;rw[hc.1] at c;exact ybw (yaI c) (by decide)
end
end L3
namespace L2
open PG
open PySem PyProof.Rows
theorem Qz{x:eV}(hx:qY P w h x a)(t:L3.Bu h h'):qY P w h' x a:=by
 obtain⟨o,n,u,b,e,c,d,i,o2,its,n2,e2,c2,d2,it⟩:=hx;exact⟨o,n,u,b,t _ _ e c,c,d,i,o2,its,n2,t _ _ e2 c2,c2,d2,it⟩
theorem WI(hx:wV P w h x a)(t:L3.Bu h h'):wV P w h' x a:=by
 obtain⟨o,n,b,c,e,k,d,i,j⟩:=hx;exact⟨o,n,b,c,t _ _ e k,k,d,Qz i t,Qz j t⟩
section
variable{Y:Type}[DecidableEq Y]
def pV (kvs more:List (Y×V)):List (Y×V):=more.foldl (fun acc kv=>putK acc kv.1 kv.2) kvs
theorem wW:∀(more kvs:List (Y×V)),(pV kvs more).length<=kvs.length+more.length
 |[],kvs=>zah _
 |kv::r,kvs=>by
  have h1:=wW r (putK kvs kv.1 kv.2);have h2:=lE kvs kv.1 kv.2;show (pV (putK kvs kv.1 kv.2) r).length<=_;rw[zal];lia
theorem Ke(kp:∀(h h':yaf) (x:Y) (a:zdi),(J.knd X.prog X.w).is h x a->L3.Bu h h'->(J.knd X.prog X.w).is h' x a)(hc:X.calm=true)(hu:X.A.units+64<cLine):sP X (.type "dict") (fun xs H Q=>∃(a:zdi) (ps:List (zdi×Y×zdi×V)),xs=[.ref a]/\jJ X.K H a (ps.map fun q=>V.ref q.1)/\(∀q∈ps,bG X.K H q.1 [.ref q.2.2.1,q.2.2.2]/\J.on X.K H q.2.1 q.2.2.1)/\ps.length<=zdq/\
 ∀p H',H p=none->(∃φ,H'=upd H p (.ext φ))->DS J X.prog X.w X.K H' p (pV [] (ps.map fun q=>(q.2.1,q.2.2.2)))->Q (.ref p) H'):=by
 intro pins s G H xs us Q I r h;obtain⟨a,ps,rfl,ha,hp,hz,q⟩:=h;obtain⟨u,rfl,ru⟩:=vals1 r;cases (show u=yab a from ru);obtain⟨its,v1,t1,_⟩:=I.list ha;obtain⟨⟨cls,dct,dat,sl⟩,n,e1,Wt,Zo,PR⟩:=t1;simp only at Wt Zo PR;subst Wt Zo PR;have mk:∀(l:List (zdi×Y×zdi×V)) (us:List zdj),Vals (l.map fun q=>V.ref q.1) us->(∀q∈l,bG X.K H q.1 [.ref q.2.2.1,q.2.2.2]/\J.on X.K H q.2.1 q.2.2.1)->∃r:List (zdi×Y×zdi×zdj),us=r.map (fun q=>yab q.1)/\r.length=l.length/\
  (∀q∈r,s.heap.IsTuple q.1 #[.ref q.2.2.1,q.2.2.2]/\(J.knd X.prog X.w).is s.heap q.2.1 q.2.2.1)/\yau (fun (p:zdi×Y×zdi×V) (q:zdi×Y×zdi×zdj)=>p.2.1=q.2.1/\J.on X.K H p.2.1 q.2.2.1/\RelV p.2.2.2 q.2.2.2) l r:=by
  intro l
  induction l with
  |nil=>intro us v _;cases v;exact⟨[],rfl,rfl,fun _ z=>(by cases z),.nil⟩
  |cons x l ih=>
   intro us v hp;rw[zaq] at v;cases v with
   |cons v1 v2=>
    obtain⟨r,e,lr,hr,kv⟩:=ih _ v2 (fun q hq=>hp q (zao _ hq));obtain⟨hx1,Zz⟩:=hp x (zaw ..);obtain⟨pR,w1,tu,_⟩:=I.tuple hx1;obtain⟨ku,vu,rfl,rk,rv⟩:=vals2 w1;cases v1;cases (show ku=yab x.2.2.1 from rk);refine⟨(x.1,x.2.1,x.2.2.1,vu)::r,by rw[e];rfl,by simp[lr],fun q hq=>?_,.cons ⟨rfl,Zz,rv⟩ kv⟩;rcases zan.mp hq with rfl |hq
    .exact⟨tu,J.of I Zz⟩
    .exact hr q hq
 obtain⟨r',er,lr,hr,kv⟩:=mk ps its v1 hp;refine L3.Kd kp a (I.ok.hd hc) (J.room (A:=X.A.in1) (by show X.A.units+1+16<cLine;lia)) r' e1 (by simpa using er) hr (by lia) fun h' tk dd keep=>?_;have hn:=I.dW.fresh (zah s.heap.objs.size);have hb:(s.heap.objs.size==yal)=false:=beq_eq_false_iff_ne.mpr (Ne.symm (zay I.big));obtain⟨o,es,ep,ho,hx,hd,he,_,nd⟩:=dd;have ks:∀(l:List (zdi×Y×zdi×V)) (r:List (zdi×Y×zdi×zdj)) (kvs:List (Y×V)) (xs:List (Y×zdi×zdj)),yau (fun (p:zdi×Y×zdi×V) (q:zdi×Y×zdi×zdj)=>p.2.1=q.2.1/\J.on X.K H p.2.1 q.2.2.1/\RelV p.2.2.2 q.2.2.2) l r->KS J X.K H kvs xs->KS J X.K H (pV kvs (l.map fun q=>(q.2.1,q.2.2.2))) (L3.vw xs r):=by
  intro l r kvs xs hp
  induction hp generalizing kvs xs with
  |nil=>exact id
  |@cons p q ps qs h t ih=>
   intro k;refine ih _ _ ?_;show KS J X.K H (putK kvs p.2.1 p.2.2.2) (storedH xs q.2.1 q.2.2.1 q.2.2.2);rw[<- h.1];exact k.put _ h.2.1 h.2.2
 have k0:=ks ps r' [] [] kv .nil;have ph:j9 J X.prog X.w s.heap.objs.size (L3.vw [] r') h':=⟨o,es,ep,ho,hx,hd,he⟩
 refine⟨.ref s.heap.objs.size,_,I.laid (o:=.ext (j9 J X.prog X.w s.heap.objs.size (L3.vw [] r'))) keep (zah _) ⟨ph,⟨o,ho⟩,fun g1 g2 p1 kp2=>?_⟩,rfl,q _ _ hn ⟨_,rfl⟩ ⟨?_,hb,_,ah,k0.up fun b ys q=>(ao.new hn _).aS q,nd⟩⟩
 .obtain⟨ob,es,ep,h1,h2,h3,h4⟩:=p1;exact⟨ob,es,ep,kp2 ob h1,h2,h3,h4⟩
 .have h1:=wW (ps.map fun q=>(q.2.1,q.2.2.2)) [];rw[zaF,zab] at h1;lia
end
end L2
namespace L4
open PG
open PySem PyProof.Rows L3
section
variable{prog:zdu}{w:zdk}{A:zdt}{E:zdj->zds->Prop}{s:zds}
abbrev ZA (h:yaf) (S:zdi) (acc:Array zdj) (c:Nat):Prop:=h.get? S=some {cls:=.type "list",dict:=none,data:=.seq acc c,slots:=#[]}
theorem QA(W:PW prog w "list" S it ps I fp fun h t=>t=h.objs.size)(res:zdj)(hA:A.handled=none)(r:List (zdj×zdj)):∀(i:Nat) (acc:Array zdj) (c:Nat) (s:zds),
 ps.drop i=r->I s.heap i->ZA s.heap S acc c->acc.size+r.length<=zdq->(∀b,fp b->b<s.heap.objs.size)->
 (∀h' tk c' (as:List zdi),as.length=r.length->(∀a∈as,(s.heap.objs.size:Nat)<=a)->as.Pairwise (· < ·)->ZA h' S (acc++(as.map yab).toArray) c'->(∀(k:Nat) a q,as[k]?=some a->r[k]?=some q->h'.IsTuple a #[q.1,q.2])->(∀b o,b≠S->¬fp b->s.heap.get? b=some o->h'.get? b=some o)->R (.ok (.ret res)) {s with heap:=h',toks:=tk})->
 codeAny (model prog w) A (.builtin "list.extend.loop" ⟨[.ref S,.ref it,res],[]⟩) R s:=by
 induction r with
 |nil=>
  intro i acc c s hi st hS hz lf hR;refine ya0 F.entry_extend_loop ?_;rw[yaF F.plain_extend_loop _];show yaa _ A.in1 (yaY (.ref it) >>= _) _ _ s;refine zdl (W.fin hA (zca (List.drop_eq_nil_iff.mp hi)) st fun h' kp=>zdm (hR h' s.toks c [] rfl (fun _ z=>by cases z) .nil ?_ (fun k a q e=>by cases e) fun b o _ n e=>kp b o n e));simpa using kp _ _ W.nd hS
 |cons q r ih=>
  intro i acc c s hi st hS hz lf hR;rw[zal] at hz;refine ya0 F.entry_extend_loop ?_;rw[yaF F.plain_extend_loop _];show yaa _ A.in1 (yaY (.ref it) >>= _) _ _ s;refine zdl (W.item (x:=q.1) (y:=q.2) (by rw[<- List.head?_drop,hi];rfl) st fun h' t Jq pr te kp=>?_);subst te;have hS':ZA h' S acc c:=kp _ _ W.nd hS;show yaa _ A.in1 (updateSeq S (·.push (.ref s.heap.objs.size)) >>= _) _ _ _;have nS:s.heap.objs.size≠S:=zbm (yad hS);have oth:∀b o,b≠S->h'.get? b=some o->(h'.update S (yaR (·.push (.ref s.heap.objs.size)))).get? b=some o:=fun b o hb e=>(yaz _ _ (Ne.symm hb)).trans e;obtain⟨ot,gt,rt⟩:=pr;have lt:=yad (oth _ _ nS gt);refine zdl (ybj hS' rfl (zdm ⟨plainId_quiet F.plain_extend_loop _,?_⟩) (by lia) (by show (acc.push _).size<=zdq+1;rw[Array.size_push];lia));refine ih (i+1) (acc.push (.ref s.heap.objs.size)) _ _ (by rw[<- List.drop_drop,hi];rfl) (W.kp hS' rfl (yaW ..) Jq) (yaw _ hS' rfl) (by rw[Array.size_push];lia) (fun b hb=>zdc (lf b hb) lt)
   fun h3 tk c' as la lo pw ha hp keep=>hR h3 tk c' (s.heap.objs.size::as) (by simp[la]) (fun a ha=>?_) (.cons (fun a ha=>zaE lt (lo a ha)) pw) ?_ (fun k a q' e1 e2=>?_) fun b o m1 m2 e=>keep b o m1 m2 (oth b o m1 (kp b o m2 e))
  .rcases zan.mp ha with rfl |ha
   .exact zah _
   .exact zb9 (zaE lt (lo a ha))
  .have e:acc++(List.map yab (s.heap.objs.size::as)).toArray=acc.push (.ref s.heap.objs.size)++(as.map yab).toArray:=by
    apply Array.toList_inj.mp
    simp
   rw[e];exact ha
  .cases k with
   |zero=>
    cases e1;cases e2;exact⟨ot,keep _ _ nS (fun z=>zbv _ (lf _ z)) (oth _ _ nS gt),rt⟩
   |succ k=>exact hp k a q' e1 e2
theorem TF:typeLookup (.type "zip") "__len__"=pure none:=by rw[typeLookup_type,yaD];kernel_rfl
theorem QB:typeLookup (.type "zip") "__length_hint__"=pure none:=by rw[typeLookup_type,yaD];kernel_rfl
theorem QC(hT:s.TypeIs (.ref z) "zip")(h:Q true s):yaa (model prog w) A (ybn (.ref z)) Q E s:=by
 have f1:=TF;have f2:=QB;unfold ybn
 repeat (any_goals (first |assumption |wp_step))
theorem QD(hA:A.handled=none)(D:ZipApart z ti to j1 j2 l tp)(st:Sg s.heap z ti to j1 j2 (fun h i=>h.IsListIter j1 l i/\h.IsList l xs) (fun h i=>h.IsListIter j2 tp i/\h.IsList tp ys) 0)(gz:CI s.heap z ti to .none (.bool false))(r:List (zdj×zdj))
 (hi:xs.toList=r.map (·.1)) (hk:ys.toList=r.map (·.2)) (hz:r.length<=zdq) (lt:∀c,c=z\/c=ti\/c=to\/c=j1\/c=j2\/c=l\/c=tp->c<s.heap.objs.size)
 (h:∀h' tk c' (as:List zdi),as.length=r.length->(∀a∈as,(s.heap.objs.size:Nat)<a)->as.Pairwise (· < ·)->ZA h' s.heap.objs.size (as.map yab).toArray c'->(∀(k:Nat) a q,as[k]?=some a->r[k]?=some q->h'.IsTuple a #[q.1,q.2])->(∀b o,¬(b=z\/b=to\/b=j1\/b=j2)->s.heap.get? b=some o->h'.get? b=some o)->Q (.ref s.heap.objs.size) {s with heap:=h',toks:=tk}) :
 yaa (model prog w) A (call (.type "list") [.ref z]) Q E s:=by
 have W:PW prog w "list" s.heap.objs.size z r (Sg · z ti to j1 j2 (fun h i=>h.IsListIter j1 l i/\h.IsList l xs) (fun h i=>h.IsListIter j2 tp i/\h.IsList tp ys)) _ _:=pw_zip (by decide) vn vn D (fun {h i} ⟨⟨o1,g1,c1,_⟩,_⟩ ⟨⟨o2,g2,c2,_⟩,_⟩=>⟨⟨o1,_,g1,c1,by decide⟩,o2,_,g2,c2,by decide⟩) hi hk fun c hc=>zay (lt c hc);refine callType_codes (Q₁:=fun obj s₁=>obj=.ref s.heap.objs.size/\s₁={s with heap:=s.heap.push {cls:=.type "list",data:=.seq #[]} }) PySem.F.called_list (PySem.F.typeCall_list_1 _) PySem.F.entry_list_init
  (code_list_new _ ⟨rfl,rfl⟩) fun obj s₁ h₁=>?_
 obtain⟨rfl,rfl⟩:=h₁;have hS:(s.heap.push {cls:=.type "list",data:=.seq #[]}).get? s.heap.objs.size=some {cls:=.type "list",data:=.seq #[]}:=yae _ rfl;have up:∀b o,s.heap.get? b=some o->(s.heap.push {cls:=.type "list",data:=.seq #[]}).get? b=some o:=fun b o e=>yac _ e;refine⟨⟨_,hS,rfl⟩,PySem.F.args_list_init_2 _ _,?_⟩;have nz:(s.heap.objs.size:Nat)≠z:=zbm (yad gz);show yaa _ _ (do let old <- Builtin.List.listItems (.ref s.heap.objs.size);Builtin.List.listUpdate (.ref s.heap.objs.size) (fun _=>#[]);letGo old.toList.reverse;yaL (.ref s.heap.objs.size) (.ref z) .none) _ _ _;refine zdl ?_;unfold Builtin.List.listItems;refine zdl (yam hS rfl (zdm ?_));show yaa _ _ (updateSeq s.heap.objs.size (fun _=>#[]) >>= fun _=>letGo (#[]:Array zdj).toList.reverse >>= fun _=>yaL (.ref s.heap.objs.size) (.ref z) .none) _ _ _;refine zdl (ybj hS rfl ?_);have US:=yaw (yaR (fun _=>(#[]:Array zdj))) hS rfl;have k2:∀b o,s.heap.get? b=some o->((s.heap.push {cls:=.type "list",data:=.seq #[]}).update s.heap.objs.size (yaR (fun _=>(#[]:Array zdj)))).get? b=some o:=fun b o e=>(yaz _ _ (zbm (yad e))).trans (up b o e);refine zdl (wpAny_letGo ?_);have key:∀(h1:yaf) (tk c₁:Nat),(∀b o,s.heap.get? b=some o->h1.get? b=some o)->ZA h1 s.heap.objs.size #[] c₁->codeAny (model prog w) A.in1 (.builtin "list.extend.loop" ⟨[.ref s.heap.objs.size,.ref z,.none],[]⟩) (wants (fun r s₂=>r=yas/\Q (.ref s.heap.objs.size) s₂) E) {s with heap:=h1,toks:=tk}:=by
  intro h1 tk c₁ k1 Ob;have l1:=yad Ob;exact QA (A:=A.in1) W .none hA r 0 #[] c₁ _ rfl (G5 (prog:=prog) (w:=w) vn vn st k1) Ob (by simpa using hz) (fun b hb=>zdc (lt b (by rcases hb with h |h |h |h<;>simp[h])) l1) fun h4 tk4 c4 as la lo pw ha hp PN=>⟨rfl,h h4 tk4 c4 as la (fun a ha=>zaE l1 (lo a ha)) pw (by simpa using ha) hp fun b o n e=>PN b o (zay (yad e)) n (k1 b o e)⟩
 unfold yaL;refine zdl (ya6 (T:="zip") ⟨_,k2 _ _ gz,rfl⟩ ?_);have h1:Builtin.List.listSameRef (.ref s.heap.objs.size) (.ref z)=false:=by simp[Builtin.List.listSameRef,nz]
 have nL:(ya2 "zip"==ya2 "list")=false:=by decide
 have nT:(ya2 "zip"==ya2 "tuple")=false:=by decide
 simp only[h1,nL,nT,zc7,zav,if_false];refine zdl (wpAny_pyIter_zip (k2 _ _ gz) ?_);refine zdl (zdn (QC ⟨_,k2 _ _ gz,rfl⟩ ?_));refine wpAny_ite_split (fun _=>?_) (fun Gg=>ybw rfl Gg);refine zdl (ya3 ?_);refine zdl ?_;show yaa _ _ (updateSeq s.heap.objs.size (·.push .none) >>= fun _=>updateSeq s.heap.objs.size (·.pop)) _ _ _;refine zdl (ybj US rfl ?_);have UT:=yaw (yaR (·.push yas)) US rfl;refine ybj (hz:=by seq_fits) UT rfl ?_;have ZC:=yaw (yaR (·.pop)) UT rfl;refine zdm ⟨plainId_quiet PySem.F.plain_extend_loop _,key _ _ _ (fun b o e=>?_) ZC⟩;have nb:(s.heap.objs.size:Nat)≠b:=zbm (yad e);exact(yaz _ _ nb).trans ((yaz _ _ nb).trans (k2 b o e))
end
end L4
namespace L2
open PG
open PySem PyProof.Rows
def tLZ (K:zaa)(t:TA):TE:=fun G H Q=>t G H fun xs H1=>∃(a b:zdi) (as bs:List V),xs=[.ref a,.ref b]/\jJ K H1 a as/\jJ K H1 b bs/\as.length=bs.length/\
 ∀p (ps:List zdi) H',H1 p=none->ao H1 H'->H' p=some (.lst (ps.map V.ref))->ps.length=as.length->(∀(k:Nat) q x y,ps[k]?=some q->as[k]?=some x->bs[k]?=some y->H1 q=none/\H' q=some (.tup [x,y]))->Q (.ref p) H'
theorem sN.new(x:sN P w H h)(hn:H a=none)(new:cE P w (upd H a o) h a o):sN P w (upd H a o) h:=fun b u q=>by
 by_cases hb:b=a
 .subst hb;rw[ah] at q;cases q;exact new
 .rw[aI hb] at q;exact(x b u q).i9 (fun c v _ r=>r) (fun c r=>by rw[aI (aj r hn)];exact r) fun c xs r=>by rw[aI (aj r hn)];exact r
theorem BL:∀(L:List (zdi×V×V))(H:Hp),sN P w H h->(∀q∈L,H q.1=none/\∃x y,RelV q.2.1 x/\RelV q.2.2 y/\IsTup h q.1 [x,y].toArray)->L.Pairwise (fun p q=>p.1≠q.1)->
 ∃H',ao H H'/\sN P w H' h/\(∀b,(∀q∈L,b≠q.1)->H' b=H b)/\∀q∈L,H' q.1=some (.tup [q.2.1,q.2.2])
 |[],H,x,_,_=>⟨H,ao.refl _,x,fun _ _=>rfl,fun _ z=>by cases z⟩
 |q::L,H,x,hq,pw=>by
  obtain⟨hn,u,v,ru,rv,it⟩:=hq q (zaw ..);rw[zbA] at pw;have line:zdq=2 ^ 24:=rfl;have x1:sN P w (upd H q.1 (.tup [q.2.1,q.2.2])) h:=x.new hn (show cE P w _ _ _ (.tup [q.2.1,q.2.2]) from ⟨by show 2<=zdq;lia,[u,v],.cons ru (.cons rv .nil),it⟩);obtain⟨H',s,x2,k,t⟩:=BL L _ x1 (fun p hp=>⟨by rw[aI (pw.1 p hp).symm];exact(hq p (zao _ hp)).1,(hq p (zao _ hp)).2⟩) pw.2;refine⟨H',(ao.new hn _).trans s,x2,fun b hb=>?_,fun p hp=>?_⟩
  .rw[k b fun z hz=>hb z (zao _ hz),aI (hb q (zaw ..))]
  .rcases zan.mp hp with rfl |hp
   .exact s _ _ ah
   .exact t p hp
theorem Kf(hc:X.calm=true){p1 p2 Qa zH:Pos}(XT:Gl X "list")(hm1:X.mg "list"=none)(hg2:Gl X "zip")(XU:X.mg "zip"=none)(ha:PA X [ea,eb] t)
 (he:zdo [ea,eb] X.env=(false,eval ea X.env)::zdo [eb] X.env:=by rfl) (Ge:(backTo zH (zdo [eb] X.env)).any (·.1)=false:=by rfl)
 (Wo:zdo [.Call (.Name "zip" p2) [ea,eb] [] zH] X.env=(false,eval (.Call (.Name "zip" p2) [ea,eb] [] zH) X.env)::zdo [] X.env:=by rfl) :
 PE X (.Call (.Name "list" p1) [.Call (.Name "zip" p2) [ea,eb] [] zH] [] Qa) (tLZ X.K t):=by
 intro pins s Y H Q I h;refine yax (qN I XT hm1 ybE ?_ (by decide) (by decide));refine za7 ?_ Wo rfl;rw[Wo];show yaa _ _ (spliced ((false,eval (.Call (.Name "zip" p2) [ea,eb] [] zH) X.env)::backTo Qa (zdo [] X.env))) _ _ s;refine ybm ?_;refine yax (qN I hg2 XU ybH ?_ (by decide) (by decide));refine za7 (ib (ha zH pins s Y H _ I h) fun us s1 zqz=>?_) he Ge;obtain⟨xs,H1,I1,r1,q1⟩:=zqz;obtain⟨a,b,as,bs,rfl,ha1,hb1,lk,q⟩:=q1;obtain⟨u1,u2,rfl,ru1,ru2⟩:=vals2 r1;cases (show u1=yab a from ru1);cases (show u2=yab b from ru2);obtain⟨Tt,v1,t1,z1⟩:=I1.list ha1;obtain⟨pR,v2,t2,z2⟩:=I1.list hb1;have l1:=v1.length;have l2:=v2.length;have lz:(Tt.zip pR).length=as.length:=by rw[zbs];lia
 refine L3.G4 (c:="list_iterator") (fun a b=>yaP a b) (I2:=fun h i=>h.IsListIter (s1.heap.objs.size+1) b i/\h.IsList b pR.toArray) t1.isList t2.isList (fun e x=>⟨⟨_,e,rfl,rfl⟩,x⟩) fun h' ap st gz keep=>?_;refine Calls.spliced_nil ?_;have big:(s1.heap.objs.size+4:Nat)<h'.objs.size:=yad gz;have hle:s1.heap.objs.size<=h'.objs.size:=by lia
 obtain⟨ol,gl,_⟩:=id t1.isList;obtain⟨ot,gt,_⟩:=id t2.isList;have la:=yad gl;have lb:=yad gt;refine L4.QD (s:={s1 with heap:=h' }) (I1.ok.hd hc) ap st gz (Tt.zip pR) (by rw[List.map_fst_zip (by lia)]) (by rw[List.map_snd_zip (by lia)]) (by lia) (fun c hc=>?_) fun h2 tk c' ps lp lo pw hS hP DI=>?_
 .show (c:Nat)<h'.objs.size;rcases hc with rfl |rfl |rfl |rfl |rfl |rfl |rfl<;>lia
 have kp:∀c o,s1.heap.get? c=some o->h2.get? c=some o:=fun c o e=>DI c o (fun z=>by have:=yad e;rcases z with rfl |rfl |rfl |rfl<;>lia) (keep c o e);have hn:=I1.dW.fresh hle;have vps:∀l:List zdi,Vals (l.map V.ref) (l.map yab):=by
  intro l
  induction l with
  |nil=>exact .nil
  |cons x l ih=>exact .cons rfl ih
 have x1:sN X.prog X.w (upd H1 h'.objs.size (.lst (ps.map V.ref))) h2:=I1.dW.laid kp hle (show cE X.prog X.w _ _ _ (.lst (ps.map V.ref)) from ⟨by rw[zab];lia,ps.map yab,c',vps ps,hS⟩);have hL:∀z∈ps.zip (as.zip bs),upd H1 h'.objs.size (.lst (ps.map V.ref)) z.1=none/\∃x y,RelV z.2.1 x/\RelV z.2.2 y/\IsTup h2 z.1 [x,y].toArray:=fun z hz=>by
  obtain⟨k,hk,ez⟩:=zbj.mp hz;rw[zbs,zbs] at hk;rw[List.getElem_zip,List.getElem_zip] at ez;subst ez;have lq:=lo _ (zam (show k<ps.length by lia));have k1:k<as.length:=by lia
  have k2:k<bs.length:=by lia
  have k3:k<ps.length:=by lia
  obtain⟨x,ex,rx⟩:=v1.get (zac k1);obtain⟨y,ey,ry⟩:=v2.get (zac k2);refine⟨?_,x,y,rx,ry,?_⟩
  .show upd H1 h'.objs.size _ ps[k]=none;rw[aI (zbm lq)];exact I1.dW.fresh (zaz hle (zb9 lq))
  .exact hP k ps[k] (x,y) (zac k3) (by rw[zbC];exact⟨ex,ey⟩)
 have XX:(ps.zip (as.zip bs)).Pairwise (fun p q=>p.1≠q.1):=by
  have e:(ps.zip (as.zip bs)).map (·.1)=ps:=List.map_fst_zip (by rw[zbs];lia);rw[<- e,za4] at pw;exact pw.imp fun h=>zay h
 obtain⟨H',s',x2,k2,t3⟩:=BL _ _ x1 hL XX;have far:∀z∈ps.zip (as.zip bs),(s1.heap.objs.size:Nat)<=z.1:=fun z hz=>by
  have:=lo z.1 (zcd (a:=z.1) (b:=z.2) hz).1;have h1:(h'.objs.size:Nat)<z.1:=this;lia
 have sH:ao H1 H':=(ao.new hn _).trans s';refine⟨.ref h'.objs.size,H',I1.un (t':=tk) ⟨fun c o e _ _ _=>kp c o e,fun c o e _ _ _=>⟨o.slots,kp c o e⟩,fun c o e n _=>?_,fun c o e _=>⟨o,kp c o e⟩,fun c xs e=>sH _ _ e,fun c o u e=>sH _ _ e,fun c ps e=>⟨#[],by rw[sH _ _ e];simp⟩⟩ x2,rfl,q _ ps H' hn sH (s' _ _ ah) (by lia) fun k p x y e1 e2 e3=>?_⟩
 .have lc:(c:Nat)<s1.heap.objs.size:=yad e;rw[k2 c fun z hz e=>by have:=far z hz;rw[<- e] at this;lia,aI (zay (zaE lc hle))];exact n
 .have hz:(p,x,y)∈ps.zip (as.zip bs):=zaC (i:=k) (by rw[zbC];exact⟨e1,by rw[zbC];exact⟨e2,e3⟩⟩);exact⟨I1.dW.fresh (far _ hz),t3 _ hz⟩
theorem Je{Z L O:Type}(F:Z->L->O->Prop->Prop):∃X:Z->L->O->Prop,(∀a b c,(∀zq,F a b c zq->zq)->X a b c)/\∀a b c,X a b c->∀zq,F a b c zq->zq:=⟨fun a b c=>∀zq,F a b c zq->zq,fun _ _ _ h=>h,fun _ _ _ h=>h⟩
open PySem.Spec
section
variable{X:Cx}{k n:Nat}{f:zdi}{fd:zdr}{ps:List Str}{sp:Sp}{x:Str}{st:Stmt}{e:Expr}{es:List Expr}{t:TA}{te:TE}{p pos pos':Pos}
theorem cz(F:bq X.prog X.w X.K X.mg X.base dF k f fd ps sp)(D:bJ X.K X.mg x st ps f fd)(hr:jL n X.A)(ha:PA X (e::es) t)(h:k<=n:=by first |decide |omega)(hg:Gl X x:=by rfl)(SX:(x==("__debug__":Str))=false:=by decide)
 (he:zdo (e::es) X.env=(false,eval e X.env)::zdo es X.env:=by rfl) (Ge:(backTo pos (zdo es X.env)).any (·.1)=false:=by rfl):PE X (.Call (.Name x p) (e::es) [] pos) (OH sp [] E0 t):=
 oO F (hr.mono h) hg D.m D.F.kp D.b .nil nW ha SX he Ge
theorem fw(i:Nat)(hN:X.N.Nodup)(he:PE X e te)(hi:X.N[i]?=some x:=by rfl)(hx:Loc X.env.scope x:=by exact zbe rfl)(hs:swapsWith e (some (.Name x pos')) pos.line X.env=pure false:=by rfl)(hf:X.fn x=true\/X.env.scope.names.lookup x=some .local:=by first |exact .inl rfl |exact .inr rfl |assumption) :
 PS X (.Assign [.Name x pos'] e pos) (MU te (cF i)):=ma hN hi hx he hs hf
theorem oK(i:Nat)(hN:X.N.Nodup)(hi:X.N[i]?=some x:=by rfl)(hx:Loc X.env.scope x:=by exact zbe rfl)(hf:X.fn x=true\/X.env.scope.names.lookup x=some .local:=by first |exact .inl rfl |exact .inr rfl |assumption):PG X (.Name x pos) (cF i):=kM hN hi hx hf
theorem a8(i:Nat)(hr:PA X es t)(hN:X.N[i]?=some x:=by rfl)(hv:Ut X.env.scope x:=by first |exact zbe rfl |exact zbi (zbe rfl) |exact zbi (zbi rfl))(hd:(x==("__debug__":Str))=false:=by decide)(Cu:(x==("__classdict__":Str))=false:=by decide):PA X (.Name x pos::es) (OG (iu i) t):=aa (pv i hN hv hd Cu) hr cK
end
structure eX(H:Hp)(D C G:zdi)(d:Dk):Prop where
 cY:H D=some (.lst [.ref C,.int d.pos,.ref G,.int d.left,.int d.row,.int d.gap])
 cs:H C=some (.lst (d.cs.map V.int))
 gs:H G=some (.lst (d.gs.map V.bl))
 Me:D≠C
 Sj:D≠G
 Sk:C≠G
 len:d.cs.length<=63
 gl:d.gs.length=d.cs.length
 pos:0<=d.pos
abbrev O2 (D C:zdi):zdi->Prop:=fun b=>b=D\/b=C
section
variable{H H':Hp}{D C G:zdi}{d:Dk}
theorem eX.same(h:eX H D C G d)(s:ao H H'):eX H' D C G d:=⟨s _ _ h.cY,s _ _ h.cs,s _ _ h.gs,h.Me,h.Sj,h.Sk,h.len,h.gl,h.pos⟩
theorem eX.put(h:eX H D C G d)(u:a9 D H H')(y:H' D=some (.lst [.ref C,.int d'.pos,.ref G,.int d'.left,.int d'.row,.int d'.gap]))(e1:d'.cs=d.cs)(e2:d'.gs=d.gs)(p:0<=d'.pos):eX H' D C G d':=by
 refine⟨y,?_,?_,h.Me,h.Sj,h.Sk,?_,?_,p⟩
 .rw[e1];exact u _ _ h.Me.symm h.cs
 .rw[e2];exact u _ _ h.Sj.symm h.gs
 .rw[e1];exact h.len
 .rw[e1,e2];exact h.gl
theorem eX.dD(h:eX H D C G d):H D≠none:=by rw[h.cY];simp
theorem eX.dC(h:eX H D C G d):H C≠none:=by rw[h.cs];simp
end
structure eL(D C:zdi)(H H':Hp):Prop where
 u:aN (O2 D C) H H'
 nX:∀b,H b≠none->H' b≠none
section
variable{K:zaa}{H0 H H1 H2:Hp}{D C:zdi}
theorem eL.refl:eL D C H H:=⟨.refl,fun _ h=>h⟩
theorem eL.trans(a:eL D C H H1)(b:eL D C H1 H2):eL D C H H2:=⟨a.u.trans b.u,fun z h=>b.nX z (a.nX z h)⟩
theorem eL.of(s:ao H H1):eL D C H H1:=⟨.of s,fun b h=>by
 cases e:H b with
 |none=>exact ybw e h
 |some o=>rw[s b o e];simp⟩
theorem eL.put(o:HO)(hp:p=D\/p=C):eL D C H (upd H p o):=⟨aN.refl.put hp o,fun b h=>by
 by_cases z:b=p
 .subst z;rw[ah];simp
 .rw[aI z];exact h⟩
theorem eL.get(a:eL D C H H1)(h:H b=some o)(n1:b≠D)(n2:b≠C):H1 b=some o:=a.u b o (fun z=>z.elim n1 n2) h
theorem Own.chg(f:Own K H0 H d v)(c:eL D C H H1)(hD:H0 D≠none)(hC:H0 C≠none):Own K H0 H1 d v:=fun O hO=>by
 have:=f (fun b=>O b\/O2 D C b) fun b hb=>by
  rcases hb with hb |rfl |rfl
  .exact hO b hb
  .exact hD
  .exact hC
 exact(this.up (c.u.mono fun b hb=>.inr hb)).sub fun b hb=>.inl hb
theorem bC.chg(f:bC K H0 H ds vs)(c:eL D C H H1)(hD:H0 D≠none)(hC:H0 C≠none):bC K H0 H1 ds vs:=fun O hO=>by
 have:=f (fun b=>O b\/O2 D C b) fun b hb=>by
  rcases hb with hb |rfl |rfl
  .exact hO b hb
  .exact hD
  .exact hC
 exact(this.up (c.u.mono fun b hb=>.inr hb)).sub fun b hb=>.inl hb
end
section
variable(K:zaa)
inductive QE(vs:List V)(H:Hp)(Q:VK)(E:XK):Prop
 |mk (D C G:zdi) (d:Dk) (many:Int):vs=[.ref D,.int many]->eX H D C G d->0<many->many<=1000000000->d.pos<=2 ^ 50->(∀x d' H',PG.draw d many=(x,d')->eL D C H H'->eX H' D C G d'->Q (.int x) H')->QE vs H Q E
def WJ:Sp:=fun vs H Q _=>∃(a:zdi) (ns:List Int),vs=[.ref a]/\jJ K H a (ns.map V.int)/\ns.length<=63/\
 ∀D C G H',ao H H'->H D=none->H C=none->eX H' D C G (zP ns)->Q (.ref D) H'
def yd (H:Hp)(N:zdi)(ns:List PM.W):Prop:=H N=some (.lst (ns.map fun n=>V.str (L2.S n)))
inductive Mf(n:Nat)(vs:List V)(H:Hp)(Q:VK)(E:XK):Prop
 |mk (D C G N:zdi) (d:Dk) (ns:List PM.W) (k:Nat):vs=[.ref D,.ref N,.int k]->k<n->d.pos+6*2 ^ k<=2 ^ 50->eX H D C G d->yd H N ns->N≠D->N≠C->ns.length<=10->(∀t d' v H',tK ns k d=(t,d')->eL D C H H'->eX H' D C G d'->Own K H H' (iD t) v->Q v H')->Mf n vs H Q E
inductive Hs(n:Nat)(vs:List V)(H:Hp)(Q:VK)(E:XK):Prop
 |mk (D C G N:zdi) (d:Dk) (ns:List PM.W) (m:Nat):vs=[.ref D,.ref N,.int (3-(m:Int))]->m<n->m<=3->d.pos+PG.sB m<=2 ^ 49->fB d->eX H D C G d->yd H N ns->N≠D->N≠C->ns.length<=10->(∀s d' v H',lI ns m d=(s,d')->eL D C H H'->eX H' D C G d'->Own K H H' (b3 s) v->Q v H')->Hs n vs H Q E
inductive QF(n:Nat)(vs:List V)(H:Hp)(Q:VK)(E:XK):Prop
 |mk (D C G N:zdi) (d:Dk) (ns:List PM.W) (m:Nat):vs=[.ref D,.ref N,.int (3-(m:Int))]->m<n->m<=3->d.pos+1+4*PG.sB m<=2 ^ 49->fB d->eX H D C G d->yd H N ns->N≠D->N≠C->ns.length<=10->(∀b d' l us H',gW (lI ns m) d=(b,d')->eL D C H H'->eX H' D C G d'->H l=none->H' l=some (.lst us)->bC K H H' (b.map b3) us->Q (.ref l) H')->QF n vs H Q E
end
theorem E6(x:Int)(h0:0<=c)(h1:c<l.length):CF (l.map V.int) c=some (V.int (PG.pick x l c)):=by
 obtain⟨j,rfl⟩:∃j:Nat,c=j:=⟨c.toNat,by lia⟩
 have hj:j<l.length:=by lia
 refine aF ?_;unfold PG.pick;rw[zaf,zaP,zap,zac hj];rfl
theorem E7{ns:List PM.W}{c:Int}(h0:0<=c)(h1:c<ns.length):CF (ns.map fun n=>V.str (L2.S n)) c=some (V.str (L2.S (PG.pick [] ns c))):=by
 obtain⟨j,rfl⟩:∃j:Nat,c=j:=⟨c.toNat,by lia⟩
 have hj:j<ns.length:=by lia
 refine aF ?_;unfold PG.pick;rw[zaf,zaP,zap,zac hj];rfl
theorem QG(h0:0<=z)(h3:z<3):∃c,CF (zad "+-*").cps.toList z=some c/\V.str ⟨#[c]⟩=V.str (L2.S (PG.pick [] [[43],[45],[42]] z)):=by
 have z3:z=0\/z=1\/z=2:=by lia
 rcases z3 with rfl |rfl |rfl
 .exact⟨43,aF (j:=0) (by decide +kernel),rfl⟩
 .exact⟨45,aF (j:=1) (by decide +kernel),rfl⟩
 .exact⟨42,aF (j:=2) (by decide +kernel),rfl⟩
theorem WK(h0:0<=z)(h3:z<2):∃c,CF (zad "<=").cps.toList z=some c/\V.str ⟨#[c]⟩=V.str (L2.S (PG.pick [] AO z)):=by
 have z3:z=0\/z=1:=by lia
 rcases z3 with rfl |rfl
 .exact⟨60,aF (j:=0) (by decide +kernel),rfl⟩
 .exact⟨61,aF (j:=1) (by decide +kernel),rfl⟩
inductive Sn where
 |ask (s:gw) |say (n:Int) (s:gw) |fin |bE |round
def E8:Sn->Dp
 |.ask s=>.tup [.tup [.str "ask"],DO (some s)]
 |.say n s=>.tup [.tup [.str "say",.int n],DO (some s)]
 |.fin=>.tup [.tup [.str "end"],.cH]
 |.bE=>.tup [.tup [.str "must"],.cH]
 |.round=>.tup [.tup [.str "round"],.cH]
def eY (pr:PG.Prog)(s:gw):Option Sn:=if s.1=0 then some .fin else if mJ pr.body s.1=true then some (.ask s) else match gg pr s.1 s.2 0 with
 |(none,_)=>some .bE
 |(some y,some n)=>some (.say n y)
 |(some _,none)=>none
def qC (pr:PG.Prog)(s:gw):gw:=(gg pr s.1 s.2 0).1.getD s
def E9 (pr:PG.Prog):Nat->List gw->gw->Sn
 |0,_,_=>.round
 |n+1,gone,s=>if s∈gone then .round else match eY pr s with
  |some x=>x
  |none=>E9 pr n (gone++[s]) (qC pr s)
theorem Ht(h:eY pr s=none):s.1≠0/\mJ pr.body s.1=false/\(gg pr s.1 s.2 0).1=some (qC pr s)/\(gg pr s.1 s.2 0).2=none:=by
 unfold eY at h;split at h
 .cases h
 .rename_i h0;split at h
  .cases h
  .rename_i ha;unfold qC;rcases e:gg pr s.1 s.2 0 with ⟨o,sd⟩
   rw[e] at h;cases o with
   |none=>cases h
   |some y=>
    cases sd with
    |none=>exact⟨h0,by simpa using ha,rfl,rfl⟩
    |some n=>cases h
theorem eW.Nj(d:fO pr)(h:eW pr s)(e:eY pr s=none):eW pr (qC pr s):=by
 obtain⟨h0,_,h1,_⟩:=Ht e;exact h.next d h0 h1
section
variable(P:zdu)(w:zdk)(K:zaa)(CC CW:zdi)
inductive Hu(vs:List V)(H:Hp)(Q:VK)(E:XK):Prop
 |mk (ch sa:zdi) (pr:PG.Prog) (s:gw):vs=[.ref ch,.ref sa]->A7 K CC H ch pr->fO pr->bR K H sa s.1 s.2->eW pr s->(∀H',ao H H'->Q (.bl (eY pr s).isNone) H')->Hu vs H Q E
inductive Hv(vs:List V)(H:Hp)(Q:VK)(E:XK):Prop
 |mk (ch sa:zdi) (pr:PG.Prog) (s:gw) (x:Sn):vs=[.ref ch,.ref sa]->A7 K CC H ch pr->fO pr->bR K H sa s.1 s.2->eW pr s->eY pr s=some x->(∀v H',ao H H'->Rep K H' (E8 x) v->Q v H')->Hv vs H Q E
def WtO (H:Hp) (wt sg:zdi) (pr:PG.Prog):Prop:=∃dx ch,H wt=some (.ins CW dx [("chart",.ref ch),("sights",.ref sg)])/\H dx=some (.own wt)/\A7 K CC H ch pr/\DS sR P w K H sg []
end
def gF (K:zaa)(H:Hp)(ss:List aT)(fl:List cT)(ps:List V):Prop:=∀(i:Nat) (s:aT) (f:cT),ss[i]?=some s->fl[i]?=some f->∃p u wl,ps[i]?=some (.ref p)/\bG K H p [u,.ref wl]/\Rep K H (b3 s) u/\H wl=some (.lst (f.2.2.map V.int))
structure zV(K:zaa)(H:Hp)(md:zdi)(pr:PG.Prog):Prop where
 at_:∃(F N Z fa:zdi) (ps:List V),H md=some (.lst [.ref F,.ref N,.ref Z,.ref fa])/\ps.length=(au pr.body).length/\H F=some (.dK (cP (au pr.body) ps))/\gF K H (au pr.body) (aP pr.body 0) ps/\H N=some (.lst (pr.ar.map fun b=>V.str (S b.name)))/\H Z=some (.lst (pr.ar.map fun b=>V.int b.size))/\bR K H fa (br pr.body 0) (pr.ar.map (·.first))
theorem gF.mono{K:zaa}(h:gF K H ss fl ps)(s:ao H H'):gF K H' ss fl ps:=fun i x f e1 e2=>by
 obtain⟨p,u,wl,h1,h2,h3,h4⟩:=h i x f e1 e2;exact⟨p,u,wl,h1,s.aS h2,h3.mono s,s _ _ h4⟩
theorem zV.mono{K:zaa}(h:zV K H md pr)(s:ao H H'):zV K H' md pr:=by
 obtain⟨F,N,Z,fa,ps,h1,h2,h3,h4,h5,h6,h7⟩:=h.at_;exact⟨⟨F,N,Z,fa,ps,s _ _ h1,h2,s _ _ h3,h4.mono s,s _ _ h5,s _ _ h6,h7.mono s⟩⟩
section
variable(K:zaa)
inductive QH(n:Nat)(vs:List V)(H:Hp)(Q:VK)(E:XK):Prop
 |mk (v:V) (N va:zdi) (bs:List jc) (vals:List Int) (e:PM.Tr):vs=[v,.ref N,.ref va]->Rep K H (iD e) v->H N=some (.lst (bs.map fun b=>V.str (S b.name)))->bG K H va (vals.map V.int)->vals.length=bs.length->(bs.map (·.name)).Nodup->(∀x,Jd (cL bs (vals.map V.int)) (.box x)->x∈bs.map (·.name))->Jd (cL bs (vals.map V.int)) e->dQ e<n->dQ e<=2->(∀H',ao H H'->Q (.int (wv bs vals e)) H')->QH n vs H Q E
inductive HD(vs:List V)(H:Hp)(Q:VK)(E:XK):Prop
 |mk (md sa:zdi) (pr:PG.Prog) (vals:List Int) (i:Nat) (hi:i<(au pr.body).length) (sg:W) (l r:PM.Tr):vs=[.ref md,.ref sa]->zV K H md pr->fO pr->bR K H sa (au pr.body)[i].row vals->eW pr ((au pr.body)[i].row,vals)->oR (au pr.body)[i]=some (sg,l,r)->(∀H',ao H H'->Q (.bl (ju sg (wv pr.ar vals l) (wv pr.ar vals r))) H')->HD vs H Q E
inductive Mg(vs:List V)(H:Hp)(Q:VK)(E:XK):Prop
 |mk (md sa:zdi) (pr:PG.Prog) (s:gw):vs=[.ref md,.ref sa]->zV K H md pr->fO pr->bR K H sa s.1 s.2->eW pr s->((s.1=0->Q (.str "end") H)/\∀i (hi:i<(au pr.body).length),(au pr.body)[i].row=s.1->Q (.str (qj (au pr.body)[i].wd)) H)->Mg vs H Q E
inductive Mh(vs:List V)(H:Hp)(Q:VK)(E:XK):Prop
 |mk (md sa:zdi) (pr:PG.Prog) (s:gw):vs=[.ref md,.ref sa]->zV K H md pr->fO pr->bR K H sa s.1 s.2->eW pr s->cw pr<=20000->(∀v H',ao H H'->Rep K H' (E8 (E9 pr (cw pr+1) [] s)) v->Q v H')->Mh vs H Q E
end
theorem QI:∀{x:W}{v:V},bZ (cL bs vs) (.inr (S x))=some v->x∈bs.map (·.name):=by
 induction bs generalizing vs with
 |nil=>intro x v h;unfold cL at h;rw[List.zipWith_nil_left] at h;cases h
 |cons b r ih=>
  intro x v h;cases vs with
  |nil=>unfold cL at h;rw[List.zipWith_nil_right] at h;cases h
  |cons y ys=>
   rw[show cL (b::r) (y::ys)=(Sum.inr (S b.name),y)::cL r ys from rfl] at h;by_cases e:(Sum.inr (S b.name):Key)=.inr (S x)
   .have:b.name=x:=xU.mp (Sum.inr.inj e);rw[<- this];exact zaw ..
   .rw[cI e] at h;exact zao _ (ih h)
theorem gF.app{K:zaa}(h1:gF K H s1 f1 p1)(h2:gF K H s2 f2 p2)(l1:p1.length=s1.length)(l2:f1.length=s1.length):gF K H (s1++s2) (f1++f2) (p1++p2):=fun i s f e1 e2=>by
 by_cases h:i<s1.length
 .rw[zbb h] at e1;rw[zbb (by lia)] at e2;obtain⟨p,u,wl,a,b⟩:=h1 i s f e1 e2;exact⟨p,u,wl,by rw[zbb (by lia)];exact a,b⟩
 .rw[za2 (by lia)] at e1;rw[za2 (by lia),l2] at e2;obtain⟨p,u,wl,a,b⟩:=h2 _ s f e1 e2;exact⟨p,u,wl,by rw[za2 (by lia),l1];exact a,b⟩
theorem gF.nil{K:zaa}:gF K H [] [] []:=fun i s f e=>by simp at e
theorem gF.one{K:zaa}(h1:bG K H p [u,.ref wl])(h2:Rep K H (b3 s) u)(h3:H wl=some (.lst (f.2.2.map V.int))):gF K H [s] [f] [.ref p]:=fun i x g e1 e2=>by
 cases i with
 |zero=>cases e1;cases e2;exact⟨p,u,wl,rfl,h1,h2,h3⟩
 |succ i=>simp at e1
section
variable(K:zaa)
inductive zW(n:Nat)(vs:List V)(H:Hp)(Q:VK)(E:XK):Prop
 |mk (b F:zdi) (x:Int) (body:List aT) (H0:Hp) (kvs:List (Key×V)):vs=[.ref b,.int x,.ref F]->Rep K H0 (.lst (body.map b3)) (.ref b)->H0 F=none->ao H0 H->H F=some (.dK kvs)->(∀s∈au body,∀kv∈kvs,kv.1≠.inl s.row)->(au body).Pairwise (fun a b=>a.row<b.row)->kvs.length+(au body).length<=1000->dg body<n->(∀ps H',a9 F H H'->ps.length=(au body).length->H' F=some (.dK (kvs++cP (au body) ps))->gF K (wo H' F) (au body) (aP body x) ps->Q (.ref F) H')->zW n vs H Q E
end
theorem Ny(h:IntsAre vs ns):Vals (ns.map V.int) vs:=by
 induction h with
 |nil=>exact .nil
 |cons _ _ _ ih=>exact .cons ⟨_,rfl⟩ ih
theorem ints_of(l:vs.length=ns.length)(h:∀(j:Nat)(v:zdj),vs[j]?=some v->∀n:Int,ns[j]?=some n->∃t:PySem.Tok,v=ybd n t):IntsAre vs ns:=by
 induction vs generalizing ns with
 |nil=>cases ns with
  |nil=>exact .nil
  |cons _ _=>cases l
 |cons v r ih=>cases ns with
  |nil=>cases l
  |cons n m=>
   obtain⟨t,rfl⟩:=h 0 v rfl n rfl;exact .cons _ _ (ih (Nat.succ.inj l) fun j v e n e2=>h (j+1) v e n e2)
theorem Fc(C:PySem.W.KdlSrc prog w "dict" d d n P OK)(hh:A.handled=none)(ok:OK s.heap)(hn:n<=zdq)
 (h:∀(h':yaf) (tk:Nat) (acc:Array zdj),(∀b o,s.heap.get? b=some o->h'.get? b=some o)->s.heap.objs.size<h'.objs.size->ItemsOf P acc n->R acc.toList {s with heap:=h',toks:=tk}):yaa (model prog w) A (collect (.ref d)) R E s:=by
 have lt:=C.there _ ok;unfold collect;refine zdl (wpAny_runValue (ya0 entry_proto_collect' ?_));rw[yaF PySem.F.plain_proto_collect _];show yaa _ A.in1 (newList [] >>= fun l=>again (.builtin "list.__iadd__" ⟨[l,.ref d],[]⟩)) _ _ s;refine zdl (yaq (zdm ⟨plainId_quiet zcT _,ya0 entry_list_iadd' ?_⟩));rw[yaF zcT _];show yaa _ A.in1 (yaL (.ref s.heap.objs.size) (.ref d) (.ref s.heap.objs.size)) _ _ _;have key:=PySem.W.kdl_extend (A:=A) (s:={s with heap:=s.heap.push {cls:=.type "list",data:=.seq ([]:List zdj).toArray} }) (R:=fun (q:Result) (s':zds)=>q=.ok (.ret (.ref s.heap.objs.size))/\yaa (model prog w) A (load s.heap.objs.size >>= fun o=>match o.data with |.seq xs _=>pure xs.toList |_=>unsupported "internal:collect") R E s') C hh (C.keep _ _ ok fun b _ o e=>yac _ e) s.heap.objs.size (zbm lt.1) (zbm lt.2) (.ref s.heap.objs.size) 0 (yae _ rfl)
  (fun h' tk acc c k g it=>⟨rfl,zdl (wpAny_load g (zdm (h h' tk acc (fun b o e=>k b o (zay (yad e)) (yac _ e)) (yad g) it)))⟩) hn
 refine yav key (fun fin s' x=>?_) fun e s' x=>by cases x.1
 cases fin with
 |done f=>
  obtain⟨e,x⟩:=x;cases e;exact x
 |again c=>
  refine⟨x.1,ybg x.2 fun q s2 y=>?_⟩;obtain⟨e,y⟩:=y;cases e;exact y
theorem TH{vs:List (Key×zdj)}(r:KV kvs vs):kvs.map (·.1)=vs.map (·.1):=by
 unfold KV at r
 induction r with
 |nil=>rfl
 |cons h _ ih=>rw[zaq,zaq,h.1,ih]
theorem Fd(hc:X.calm=true):sP X (.builtin "sorted") (fun xs H Q=>∃(a:zdi) (kvs:List (Key×V)) (ns:List Int),xs=[.ref a]/\H a=some (.dK kvs)/\kvs.map (·.1)=ns.map Sum.inl/\ns.Pairwise (·<=·)/\ns.length<64/\∀l,H l=none->Q (.ref l) (upd H l (.lst (ns.map V.int)))):=by
 intro pins s G H xs us Q I r h;obtain⟨a,kvs,ns,rfl,ha,hk,pw,hl,q⟩:=h;obtain⟨u,rfl,ru⟩:=vals1 r;cases (show u=yab a from ru);obtain⟨z,hd,vs,rel,dd⟩:=UA I.dW ha;have hA:X.A.handled=none:=I.ok.hd hc;obtain⟨ep,dat⟩:=dd.dictAt;have ln:kvs.length=ns.length:=by have:=ybv zaQ hk;simpa using this
 have lv:vs.length=ns.length:=by rw[<- rel.length,ln]
 refine Calls.call_function_entry kind_sorted plain_sorted entry_sorted (args_sorted1 _) ?_;unfold Builtin.«sorted»;refine zdl (m:=checkCount "sorted" 1 1 _) (zdm ?_);refine zdl (Fc (A:=X.A.in1) (PySem.W.kdl_dict (knd:=bF X.prog X.w) (kvs:=vs) (ep:=ep) hd) hA dat (by rw[lv];have:zdq=2 ^ 24:=rfl;lia) fun h' tk acc kp sY ZD=>?_);have al:acc.toList.length=ns.length:=by rw[zaJ,ZD.1,lv]
 have hI:IntsAre acc.toList ns:=by
  refine ints_of al fun j v e n e2=>?_;obtain⟨k,x,e3,ki⟩:=ZD.2 j v (by rw[<- zaV];exact e);have ej:(vs.map (·.1))[j]?=some (.inl n):=by
   rw[show vs.map (·.1)=ns.map Sum.inl from by rw[<- hk];exact(TH rel).symm,zaf,e2];rfl
  rw[zaf,e3] at ej;cases ej;rcases eI (show v7 (.inl n) v=true from ki) with ⟨i,t,e4,e5⟩ |⟨x,t,e4,e5⟩
  .cases e4;exact⟨t,e5⟩
  .cases e4
 refine zdl (wpAny_newList ?_ (by rw[al];have:zdq=2 ^ 24:=rfl;lia));have YC:(h'.push (seqObj "list" acc.toList.toArray 0)).get? h'.objs.size=some (seqObj "list" acc.toList.toArray 0):=yae _ rfl;refine zdl (zdn (yap slot_list_sort ⟨_,YC,rfl⟩ entry_list_sort (list_sort_tree YC hI (by rw[al];exact hl) fun out ns' a1 a2 a3=>⟨_,rfl,?_⟩) (args_list_sort _)));have e:=List.Perm.eq_of_pairwise (fun a b _ _ x y=>Int.le_antisymm x y) a3 pw a2;subst e;have hle:s.heap.objs.size<=h'.objs.size:=zb9 sY;have old:∀b o,s.heap.get? b=some o->(sortedHeap (h'.push (seqObj "list" acc.toList.toArray 0)) h'.objs.size acc.toList out).get? b=some o:=fun b o e=>by
  have h1:=kp b o e;have h2:=yad h1;rw[sortedHeap_old (zay h2) (by rw[size_push'];lia),Heap.get?_push_ne _ _ _ (zay h2)];exact h1
 obtain⟨Yz,ZE⟩:=sortedHeap_at (out:=out) YC;exact zdm ⟨_,rfl,.ref h'.objs.size,_,I.laid (t':=tk) old hle (show cE X.prog X.w _ _ _ (.lst (ns'.map V.int)) from ⟨by rw[zab];have:zdq=2 ^ 24:=rfl;lia,out.toList,Yz,Ny a1,by simpa[seqObj] using ZE⟩),rfl,q _ (I.dW.fresh hle)⟩
section
variable(K:zaa)
def Mi:Sp:=fun vs H Q _=>∃(v:V) (pr:PG.Prog),vs=[v]/\Rep K H (gC pr) v/\fO pr/\∀md H',ao H H'->zV K H' md pr->Q (.ref md) H'
end
theorem TJ(h:tf 16 pr):cw pr<=1088:=by
 exact Qr (n:=16) (by rw[<- gD];have:=h.om;lia) (fun b hb=>(h.size b hb).2.1) h.len
theorem ZF(h:tf 16 pr):fO pr:=⟨⟨h.pw,h.nb,zaz h.len (by decide),h.pos⟩,zaz h.dep (by decide),by rw[<- gD];have:=h.om;lia,h.own,fun b hb=>⟨(h.size b hb).1,zcP (h.size b hb).2.1 (by decide),(h.size b hb).2.2⟩⟩
theorem Mj(s:gw):(t9 s).py.canLay0=true/\(t9 s).py.depth<=2:=by
 obtain⟨h1,h2⟩:=L9 [s];rw[zaq,zbE,Dp.zv,Dp.zv] at h1 h2;simp only[yan,yao,zco] at h1 h2;exact⟨h1,by lia⟩
end L2
namespace PG
open PM (W Tr)
def HE:Tr->Prop
 |.num n=>0<=n/\n<=999
 |.box _=>True
 |.bin o l r=>o∈([[43],[45],[42]]:List W)/\HE l/\HE r
theorem BM(n:Int):(rn n).length<=2:=by
 unfold rn;split<;>split<;>simp
theorem ou:∀t:Tr,(ja t).length<=2*2 ^ dQ t
 |.num n=>by
  rw[ja,zab];have:=BM n;simp[dQ];lia
 |.box _=>by simp[ja]
 |.bin o l r=>by
  have h1:=ou l;have h2:=ou r;have a1:2 ^ dQ l<=2 ^ max (dQ l) (dQ r):=zaD (by decide) (by lia);have a2:2 ^ dQ r<=2 ^ max (dQ l) (dQ r):=zaD (by decide) (by lia);rw[ja,zae,zab,zab,dQ,zcN];lia
theorem oy:∀t:Tr,(jj t).length+1<=2 ^ dQ t
 |.num n=>by simp[jj,dQ]
 |.box _=>by simp[jj,dQ]
 |.bin o l r=>by
  have h1:=oy l;have h2:=oy r;have a1:2 ^ dQ l<=2 ^ max (dQ l) (dQ r):=zaD (by decide) (by lia);have a2:2 ^ dQ r<=2 ^ max (dQ l) (dQ r):=zaD (by decide) (by lia);rw[jj,zae,zal,zab,zab,dQ,zcN];lia
end PG
namespace L2
open PG
open PySem PyProof.Rows
section
variable(K:zaa)
def QJ:Sp:=fun vs H Q _=>∃n:Int,vs=[.int n]/\∀L H',ao H H'->H L=none->H' L=some (.lst ((rn n).map V.int))->Q (.ref L) H'
def uh (f:PM.Tr->List PM.Tr)(n:Nat):Sp:=fun vs H Q _=>∃(v:V) (t:PM.Tr),vs=[v]/\Rep K H (iD t) v/\HE t/\dQ t<n/\dQ t<=6/\∀L us H',ao H H'->H L=none->H' L=some (.lst us)->aC K H' ((f t).map iD) us->Q (.ref L) H'
inductive QK(vs:List V)(H:Hp)(Q:VK)(E:XK):Prop
 |mk (a:zdi) (xs:List V) (j:Nat) (x:V):vs=[.ref a,.int j,x]->bG K H a xs->j<xs.length->xs.length<=10->(∀p H',ao H H'->bG K H' p (xs.set j x)->Q (.ref p) H')->QK vs H Q E
end
theorem Ml(h:o∈([[43],[45],[42]]:List W)\/o∈AO):bZ ([(.inr "+",.str "-"),(.inr "-",.str "+"),(.inr "*",.str "+"),(.inr "<",.str "="),(.inr "=",.str "<")]:List (Key×V)) (.inr (S o))=some (.str (S (oT o))):=by
 have h:o=[43]\/o=[45]\/o=[42]\/o=[60]\/o=[61]:=by
  rcases h with h |h
  .simp at h;rcases h with h |h |h
   .exact .inl h
   .exact .inr (.inl h)
   .exact .inr (.inr (.inl h))
  .simp[AO] at h;rcases h with h |h
   .exact .inr (.inr (.inr (.inl h)))
   .exact .inr (.inr (.inr (.inr h)))
 rcases h with rfl |rfl |rfl |rfl |rfl<;>decide +kernel
theorem qE{K:zaa}{Z L:Type}{r:St}{F:Z->Dp}{G:L->Dp}(f:Z->L)(as:List Z)(hS:jJ K H a xs)(hr:aC K H (as.map F) xs)(hl:xs.length<=16000000)(hD:H D=none)
 (step:∀(i:Nat) x y H2,as[i]?=some y->xs[i]?=some x->Rep K H (F y) x->(∀d v,Rep K H d v->Fix K (·=D) H2 d v)->ao H H2->H2 D≠none->(∃ys,H2 D=some (.lst ys))->∀R:VK,(∀v H3,ao H2 H3->Fix K (·=D) H3 (G (f y)) v->R v H3)->te (some x::r) H2 R)
 (q:∀ys H2,ao H H2->H2 D=some (.lst ys)->aC K H2 ((as.map f).map G) ys->Q (.ref D) H2):jf (AZ K a) D (cF 0) me te Q (none::r) (upd H D (.lst [])):=by
 have lx:xs.length=as.length:=by rw[hr.length,zab]
 refine dP (K:=K) (fun i ys H2=>dJ K (·=D) H2 (((as.take i).map f).map G) ys) hS hl hD ?_ ?_ ?_
 .exact dJ.nil
 .intro i x ys H2 hx s2 oh ly pv R hR;have li:i<as.length:=by have:=(zaj.mp hx).1;lia
  obtain⟨v,hv,rv⟩:=hr.get (i:=i) (d:=F as[i]) (by rw[zaf,zac li];rfl);rw[hx] at hv;cases hv;refine step i x as[i] H2 (zac li) hx rv (fun d v h H3 u=>h.mono fun b o e=>u b o (aj e hD) (s2 b o e)) s2 (by rw[oh];simp) ⟨_,oh⟩ R fun v H3 s3 fv=>?_;refine hR _ _ s3 ?_;have e:((as.take (i+1)).map f).map G=((as.take i).map f).map G++[G (f as[i])]:=by
   rw[zck,zac li,Option.toList_some,zas,zas];rfl
  rw[e];exact((pv.up (.of s3)).snoc fv).up (aN.put (O:=(·=D)) aN.refl rfl _)
 .intro ys H2 s2 oh pv;rw[lx,zaH] at pv;exact q ys H2 s2 oh pv.CH
noncomputable def adu (a0 a1 a2 a3 a4 a5 a6:zdi):List (Key×V):=[(.inr "ask",.ref a0),(.inr "put",.ref a1),(.inr "say",.ref a2),(.inr "must",.ref a3),(.inr "if",.ref a4),(.inr "while",.ref a5),(.inr "stop",.ref a6)]
def XY:aT->Prop
 |.put _ _ e=>HE e/\dQ e<=6
 |.say _ e=>HE e/\dQ e<=6
 |.bE _ sg l r=>sg∈AO/\(HE l/\dQ l<=6)/\HE r/\dQ r<=6
 |.ifs _ sg l r _ _=>sg∈AO/\(HE l/\dQ l<=6)/\HE r/\dQ r<=6
 |.fM _ sg l r _=>sg∈AO/\(HE l/\dQ l<=6)/\HE r/\dQ r<=6
 |_=>True
structure ZG(K:zaa)(H:Hp)(st:aT)(xs:List V)(pl:List Nat)(ex:Nat->PM.Tr)(re:Nat->PM.Tr->aT):Prop where
 len:xs.length<=7
 om:pl.length<=2
 lt:∀j∈pl,j<xs.length
 at_:∀j∈pl,∃v,xs[j]?=some v/\Rep K H (iD (ex j)) v/\HE (ex j)/\dQ (ex j)<=6
 put:∀j∈pl,∀H4:Hp,(∀d v,Rep K H d v->Rep K H4 d v)->∀p v' e',bG K H4 p (xs.set j v')->Rep K H4 (iD e') v'->Rep K H4 (b3 (re j e')) (.ref p)
 all:∀f,iE f st=pl.flatMap fun j=>(f (ex j)).map (re j)
theorem aC.imp{K:zaa}(tr:∀d v,Rep K H d v->Rep K H' d v):∀{ds:List Dp}{vs:List V},aC K H ds vs->aC K H' ds vs
 |[],_,r=>aC.aO.mpr (aC.aO.mp r)
 |d::_,_,r=>by
  obtain⟨v,t,rfl,e,r1⟩:=aC.av.mp r;exact .cons (tr _ _ e) (aC.imp tr r1)
theorem eS{K:zaa}(h:Rep K H (.tup (.str w :: .int k::ds)) v):∃a xs,v=.ref a/\bG K H a (.str w :: .int k::xs)/\aC K H ds xs:=by
 obtain⟨a,_,rfl,hS,h1⟩:=Rep.aJ.mp h;obtain⟨_,_,rfl,e,h2⟩:=aC.av.mp h1;obtain⟨_,_,rfl,e2,h3⟩:=aC.av.mp h2;cases Rep.aZ.mp e;cases Rep.bu.mp e2;exact⟨a,_,rfl,hS,h3⟩
theorem jC{K:zaa}(h:aC K H (.str w::ds) xs):∃r,xs=.str w::r/\aC K H ds r:=by
 obtain⟨_,_,rfl,e,h1⟩:=aC.av.mp h;cases Rep.aZ.mp e;exact⟨_,rfl,h1⟩
theorem iY{K:zaa}(hp:bG K H p (.str w :: .int k::xs))(r:aC K H ds xs):Rep K H (.tup (.str w :: .int k::ds)) (.ref p):=
 Rep.aJ.mpr ⟨p,_,rfl,hp,.cons (Rep.aZ.mpr rfl) (.cons (Rep.bu.mpr rfl) r)⟩
theorem Kg{K:zaa}{st:aT}(re:Nat->PM.Tr->aT)(lt:ds.length<=2)(h:Rep K H (b3 st) v)(e:b3 st=.tup (.str w :: .int k :: .str sg::iD l::iD r::ds))(e3:∀x,b3 (re 3 x)=.tup (.str w :: .int k :: .str sg::iD x::iD r::ds))(e4:∀x,b3 (re 4 x)=.tup (.str w :: .int k :: .str sg::iD l::iD x::ds))(c:(HE l/\dQ l<=6)/\HE r/\dQ r<=6)(al:∀f,iE f st=(f l).map (re 3)++(f r).map (re 4)) :
 ∃a xs,v=.ref a/\bG K H a (.str w::xs)/\ZG K H st (.str w::xs) [3,4] (fun j=>if j=3 then l else r) re:=by
 rw[e] at h;obtain⟨a,_,rfl,hS,h1⟩:=eS h;obtain⟨_,rfl,h2⟩:=jC h1;obtain⟨vl,_,rfl,hl,h3⟩:=aC.av.mp h2;obtain⟨vr,xs,rfl,hr,h4⟩:=aC.av.mp h3;have lx:=h4.length;refine⟨a,_,rfl,hS,⟨by simp only[zal];lia,zah _,fun j hj=>?_,fun j hj=>?_,fun j hj H4 tr p v' e' hp XZ=>?_,fun f=>?_⟩⟩
 .rcases zan.mp hj with rfl |hj
  .simp
  .rw[zai.mp hj];simp
 .rcases zan.mp hj with rfl |hj
  .exact⟨vl,rfl,hl,c.1⟩
  .rw[zai.mp hj];exact⟨vr,rfl,hr,c.2⟩
 .rcases zan.mp hj with rfl |hj
  .rw[e3];exact iY hp (.cons (Rep.aZ.mpr rfl) (.cons XZ (.cons (tr _ _ hr) (aC.imp tr h4))))
  .rw[zai.mp hj] at hp |-;rw[e4];exact iY hp (.cons (Rep.aZ.mpr rfl) (.cons (tr _ _ hl) (.cons XZ (aC.imp tr h4))))
 .rw[al];simp
theorem ZH{K:zaa}{st:aT}(h:Rep K H (b3 st) v)(c:XY st)(a0 a1 a2 a3 a4 a5 a6:zdi)(h0:bG K H a0 [])(h1:bG K H a1 [.int 3])(h2:bG K H a2 [.int 2])(h3:bG K H a3 [.int 3,.int 4])(h4:bG K H a4 [.int 3,.int 4])(h5:bG K H a5 [.int 3,.int 4])(h6:bG K H a6 []) :
 ∃a w0 xs pl ex re b,v=.ref a/\bG K H a (.str w0::xs)/\ZG K H st (.str w0::xs) pl ex re/\bZ (adu a0 a1 a2 a3 a4 a5 a6) (.inr w0)=some (.ref b)/\bG K H b (pl.map fun j=>V.int (j:Nat)):=by
 cases st with
 |ask k b=>
  obtain⟨a,_,rfl,hS,q1⟩:=eS h;obtain⟨_,rfl,q2⟩:=jC q1;cases aC.aO.mp q2;exact⟨a,_,_,[],fun _=>.num 0,fun _ _=>.stop 0,a0,rfl,hS,⟨by simp,zaG _,nofun,nofun,nofun,fun f=>rfl⟩,by rfl,h0⟩
 |stop k=>
  obtain⟨a,_,rfl,hS,q1⟩:=eS h;cases aC.aO.mp q1;exact⟨a,_,_,[],fun _=>.num 0,fun _ _=>.stop 0,a6,rfl,hS,⟨by simp,zaG _,nofun,nofun,nofun,fun f=>rfl⟩,by rfl,h6⟩
 |put k b e=>
  obtain⟨a,_,rfl,hS,q1⟩:=eS h;obtain⟨_,rfl,q2⟩:=jC q1;obtain⟨ve,_,rfl,he,q3⟩:=aC.av.mp q2;cases aC.aO.mp q3;refine⟨a,_,_,[3],fun _=>e,fun _ x=>.put k b x,a1,rfl,hS,⟨by simp,zcE _,fun j hj=>?_,fun j hj=>?_,fun j hj H4 tr p v' e' hp XZ=>?_,fun f=>by simp[iE]⟩,by rfl,h1⟩
  .rw[zai.mp hj];simp
  .rw[zai.mp hj];exact⟨ve,rfl,he,c⟩
  .rw[zai.mp hj] at hp;exact iY hp (.cons (Rep.aZ.mpr rfl) (.cons XZ .nil))
 |say k e=>
  obtain⟨a,_,rfl,hS,q1⟩:=eS h;obtain⟨ve,_,rfl,he,q2⟩:=aC.av.mp q1;cases aC.aO.mp q2;refine⟨a,_,_,[2],fun _=>e,fun _ x=>.say k x,a2,rfl,hS,⟨by simp,zcE _,fun j hj=>?_,fun j hj=>?_,fun j hj H4 tr p v' e' hp XZ=>?_,fun f=>by simp[iE]⟩,by rfl,h2⟩
  .rw[zai.mp hj];simp
  .rw[zai.mp hj];exact⟨ve,rfl,he,c⟩
  .rw[zai.mp hj] at hp;exact iY hp (.cons XZ .nil)
 |bE k sg l r=>
  obtain⟨a,xs,rfl,hS,p⟩:=Kg (fun j x=>if j=3 then .bE k sg x r else .bE k sg l x) (zaG _) h (by rw[b3]) (fun x=>by rw[ybr rfl,b3]) (fun x=>by rw[ybq (by decide),b3]) c.2 (fun f=>by simp[iE]);exact⟨a,_,_,_,_,_,a3,rfl,hS,p,by rfl,h3⟩
 |ifs k sg l r x y=>
  obtain⟨a,xs,rfl,hS,p⟩:=Kg (fun j z=>if j=3 then .ifs k sg z r x y else .ifs k sg l z x y) (zah _) h (by rw[b3]) (fun x=>by rw[ybr rfl,b3]) (fun x=>by rw[ybq (by decide),b3]) c.2 (fun f=>by simp[iE]);exact⟨a,_,_,_,_,_,a4,rfl,hS,p,by rfl,h4⟩
 |fM k sg l r x=>
  obtain⟨a,xs,rfl,hS,p⟩:=Kg (fun j z=>if j=3 then .fM k sg z r x else .fM k sg l z x) (zcE _) h (by rw[b3]) (fun x=>by rw[ybr rfl,b3]) (fun x=>by rw[ybq (by decide),b3]) c.2 (fun f=>by simp[iE]);exact⟨a,_,_,_,_,_,a5,rfl,hS,p,by rfl,h5⟩
section
variable(K:zaa)
inductive QL(vs:List V)(H:Hp)(Q:VK)(E:XK):Prop
 |mk (v:V) (st:aT) (H0:Hp) (O:zdi->Prop):vs=[v]->ao H0 H->Rep K H0 (b3 st) v->XY st->(∀g,O g->H0 g=none/\∃ys,H g=some (.lst ys))->(∀L us H',ao H H'->H L=none->H' L=some (.lst us)->dJ K O H' ((iE ja st++iE jj st).map b3) us->Q (.ref L) H')->QL vs H Q E
inductive HF(vs:List V)(H:Hp)(Q:VK)(E:XK):Prop
 |mk (v:V) (st:aT) (H0:Hp) (O:zdi->Prop):vs=[v]->ao H0 H->Rep K H0 (b3 st) v->XY st->(∀g,O g->H0 g=none/\∃ys,H g=some (.lst ys))->(∀L us H',ao H H'->H L=none->H' L=some (.lst us)->dJ K O H' ((fE st).map fun o=>.lst (o.map b3)) us->Q (.ref L) H')->HF vs H Q E
end
theorem aC.fix{K:zaa}(h:aC K H ds vs):dJ K (fun _=>False) H ds vs:=fun H' u=>h.mono fun b o e=>u b o (fun z=>z) e
theorem wX{K:zaa}{Z L:Type}{r:St}{F:Z->Dp}{G:L->Dp}(O:zdi->Prop)(hOD:O D)(hO:∀g,O g->g=D\/∃ys,H g=some (.lst ys))(f:Z->L)(as:List Z)(hS:jJ K H a xs)(hr:dJ K O0 H (as.map F) xs)(hl:xs.length<=16000000)(hD:H D=none)
 (step:∀(i:Nat) x y H2,as[i]?=some y->xs[i]?=some x->Fix K O0 H (F y) x->ao H H2->(∀g,O g->∃ys,H2 g=some (.lst ys))->∀R:VK,(∀v H3,ao H2 H3->Fix K O H3 (G (f y)) v->R v H3)->te (some x::r) H2 R)
 (q:∀ys H2,ao H H2->H2 D=some (.lst ys)->dJ K O H2 ((as.map f).map G) ys->Q (.ref D) H2):jf (AZ K a) D (cF 0) me te Q (none::r) (upd H D (.lst [])):=by
 have lx:xs.length=as.length:=by rw[hr.CH.length,zab]
 refine dP (K:=K) (fun i ys H2=>dJ K O H2 (((as.take i).map f).map G) ys) hS hl hD ?_ ?_ ?_
 .exact dJ.nil
 .intro i x ys H2 hx s2 oh ly pv R hR;have li:i<as.length:=by have:=(zaj.mp hx).1;lia
  have rv:Fix K O0 H (F as[i]) x:=fun H4 u4=>by
   obtain⟨v,hv,rv⟩:=(hr H4 u4).get (i:=i) (d:=F as[i]) (by rw[zaf,zac li];rfl);rw[hx] at hv;cases hv;exact rv
  refine step i x as[i] H2 (zac li) hx rv s2 (fun g hg=>(hO g hg).elim (fun e=>by rw[e];exact⟨_,oh⟩) fun ⟨zs,e⟩=>⟨zs,s2 _ _ e⟩) R fun v H3 s3 fv=>?_;refine hR _ _ s3 ?_;have e:((as.take (i+1)).map f).map G=((as.take i).map f).map G++[G (f as[i])]:=by
   rw[zck,zac li,Option.toList_some,zas,zas];rfl
  rw[e];exact((pv.up (.of s3)).snoc fv).up (aN.put (O:=O) aN.refl hOD _)
 .intro ys H2 s2 oh pv;rw[lx,zaH] at pv;exact q ys H2 s2 oh pv
structure adv(K:zaa)(H:Hp)(st:aT)(w0:Str)(xs:List V):Prop where
 len:xs.length<=7
 c1:(w0 = "must"\/w0 = "if"\/w0 = "while")->∃sg s',xs[2]?=some (.str (S sg))/\sg∈AO/\E5 st=[[s']]/\∀H4:Hp,(∀d v,Rep K H d v->Rep K H4 d v)->∀p,bG K H4 p (xs.set 2 (.str (S (oT sg))))->Rep K H4 (b3 s') (.ref p)
 c0:¬(w0 = "must"\/w0 = "if"\/w0 = "while")->E5 st=[]
 b1:(w0 = "if"\/w0 = "while")->∃vl vr s',xs[3]?=some vl/\xs[4]?=some vr/\Hq st=[[s']]/\∀H4:Hp,(∀d v,Rep K H d v->Rep K H4 d v)->∀p,bG K H4 p (xs.take 3++[vr,vl]++xs.drop 5)->Rep K H4 (b3 s') (.ref p)
 b0:¬(w0 = "if"\/w0 = "while")->Hq st=[]
 p1:(w0 = "put"\/w0 = "say")->Kb st=[[]]
 p0:¬(w0 = "put"\/w0 = "say")->Kb st=[]
theorem ZI{K:zaa}{st:aT}(h:Rep K H (b3 st) v)(c:XY st):∃a w0 xs,v=.ref a/\bG K H a (.str w0::xs)/\adv K H st w0 (.str w0::xs):=by
 cases st with
 |ask k b=>
  obtain⟨a,_,rfl,hS,q⟩:=eS h;obtain⟨_,rfl,q1⟩:=jC q;cases aC.aO.mp q1;exact⟨a,_,_,rfl,hS,by simp,fun z=>ybw z (by decide +kernel),fun _=>rfl,fun z=>ybw z (by decide +kernel),fun _=>rfl,fun z=>ybw z (by decide +kernel),fun _=>rfl⟩
 |stop k=>
  obtain⟨a,_,rfl,hS,q⟩:=eS h;cases aC.aO.mp q;exact⟨a,_,_,rfl,hS,by simp,fun z=>ybw z (by decide +kernel),fun _=>rfl,fun z=>ybw z (by decide +kernel),fun _=>rfl,fun z=>ybw z (by decide +kernel),fun _=>rfl⟩
 |put k b e=>
  obtain⟨a,_,rfl,hS,q⟩:=eS h;obtain⟨_,rfl,q1⟩:=jC q;obtain⟨ve,_,rfl,he,q2⟩:=aC.av.mp q1;cases aC.aO.mp q2;exact⟨a,_,_,rfl,hS,by simp,fun z=>ybw z (by decide +kernel),fun _=>rfl,fun z=>ybw z (by decide +kernel),fun _=>rfl,fun _=>rfl,fun z=>ybw (.inl rfl) z⟩
 |say k e=>
  obtain⟨a,_,rfl,hS,q⟩:=eS h;obtain⟨ve,_,rfl,he,q1⟩:=aC.av.mp q;cases aC.aO.mp q1;exact⟨a,_,_,rfl,hS,by simp,fun z=>ybw z (by decide +kernel),fun _=>rfl,fun z=>ybw z (by decide +kernel),fun _=>rfl,fun _=>rfl,fun z=>ybw (.inr rfl) z⟩
 |bE k sg l r=>
  obtain⟨a,_,rfl,hS,q⟩:=eS h;obtain⟨_,rfl,q1⟩:=jC q;obtain⟨vl,_,rfl,hl,q2⟩:=aC.av.mp q1;obtain⟨vr,_,rfl,hr,q3⟩:=aC.av.mp q2;cases aC.aO.mp q3;exact⟨a,_,_,rfl,hS,by simp,fun _=>⟨sg,.bE k (oT sg) l r,rfl,c.1,rfl,fun H4 tr p hp=>iY hp (.cons (Rep.aZ.mpr rfl) (.cons (tr _ _ hl) (.cons (tr _ _ hr) .nil)))⟩,fun z=>ybw (.inl rfl) z,fun z=>ybw z (by decide +kernel),fun _=>rfl,fun z=>ybw z (by decide +kernel),fun _=>rfl⟩
 |ifs k sg l r x y=>
  obtain⟨a,_,rfl,hS,q⟩:=eS h;obtain⟨_,rfl,q1⟩:=jC q;obtain⟨vl,_,rfl,hl,q2⟩:=aC.av.mp q1;obtain⟨vr,_,rfl,hr,q3⟩:=aC.av.mp q2;obtain⟨vx,_,rfl,hx,q4⟩:=aC.av.mp q3;obtain⟨vy,_,rfl,hy,q5⟩:=aC.av.mp q4;cases aC.aO.mp q5;exact⟨a,_,_,rfl,hS,by simp,fun _=>⟨sg,.ifs k (oT sg) l r x y,rfl,c.1,rfl,fun H4 tr p hp=>iY hp (.cons (Rep.aZ.mpr rfl) (.cons (tr _ _ hl) (.cons (tr _ _ hr) (.cons (tr _ _ hx) (.cons (tr _ _ hy) .nil)))))⟩,fun z=>ybw (.inr (.inl rfl)) z,fun _=>⟨vl,vr,.ifs k sg r l x y,rfl,rfl,rfl,fun H4 tr p hp=>iY hp (.cons (Rep.aZ.mpr rfl) (.cons (tr _ _ hr) (.cons (tr _ _ hl) (.cons (tr _ _ hx) (.cons (tr _ _ hy) .nil)))))⟩,fun z=>ybw (.inl rfl) z,fun z=>ybw z (by decide +kernel),fun _=>rfl⟩
 |fM k sg l r x=>
  obtain⟨a,_,rfl,hS,q⟩:=eS h;obtain⟨_,rfl,q1⟩:=jC q;obtain⟨vl,_,rfl,hl,q2⟩:=aC.av.mp q1;obtain⟨vr,_,rfl,hr,q3⟩:=aC.av.mp q2;obtain⟨vx,_,rfl,hx,q4⟩:=aC.av.mp q3;cases aC.aO.mp q4;exact⟨a,_,_,rfl,hS,by simp,fun _=>⟨sg,.fM k (oT sg) l r x,rfl,c.1,rfl,fun H4 tr p hp=>iY hp (.cons (Rep.aZ.mpr rfl) (.cons (tr _ _ hl) (.cons (tr _ _ hr) (.cons (tr _ _ hx) .nil))))⟩,fun z=>ybw (.inr (.inr rfl)) z,fun _=>⟨vl,vr,.fM k sg r l x,rfl,rfl,rfl,fun H4 tr p hp=>iY hp (.cons (Rep.aZ.mpr rfl) (.cons (tr _ _ hr) (.cons (tr _ _ hl) (.cons (tr _ _ hx) .nil))))⟩,fun z=>ybw (.inr rfl) z,fun z=>ybw z (by decide +kernel),fun _=>rfl⟩
end L2
namespace PG
theorem Ea(row:Int)(o:List aT):∀a b:List aT,dS row o (a++b)=dS row o a++dS row o b
 |[],b=>by simp[dS]
 |s::r,b=>by
  show dS row o (s::(r++b))=_;rw[dS,dS,Ea row o r b,zau]
theorem Nz(row:Int)(o:List aT)(s:aT):dS row o [s]=if s.row=row then o else [fY row o s]:=by
 rw[dS,dS,zax]
end PG
namespace L2
open PG
open PySem PyProof.Rows
theorem ZJ(row:Int)(o:List aT)(s:aT):LN (fY row o s)=LN s:=by
 cases s<;>simp[fY,LN]
theorem Kh(row:Int)(o:List aT)(s:aT):ay (fY row o s)=(ay s).map (dS row o):=by
 cases s<;>simp[fY,ay]
theorem TK(h:b∈ay s):∀x∈au b,x∈bA s:=fun x hx=>by
 cases s with
 |ifs k sg l r a c=>
  simp only[ay,zan,za5,or_false] at h;rw[bA];rcases h with rfl |rfl<;>simp[hx]
 |fM k sg l r a=>
  simp only[ay,zan,za5,or_false] at h;rw[bA];rw[h] at hx;simp[hx]
 |_=>cases h
theorem Mm:∀{b:List aT}{s x:aT},s∈b->x∈bA s->x∈au b
 |y::r,s,x,h,hx=>by
  rw[au];rcases zan.mp h with rfl |h
  .exact zak.mpr (.inl hx)
  .exact zak.mpr (.inr (Mm h hx))
inductive yh(K:zaa)(n:Nat)(vs:List V)(H:Hp)(Q:VK)(E:XK):Prop
 |mk (b l:zdi) (body o:List aT) (row:Int) (H0:Hp):vs=[.ref b,.int row,.ref l]->ao H0 H->Rep K H0 (.lst (body.map b3)) (.ref b)->Rep K H0 (.lst (o.map b3)) (.ref l)->dg body<n->(gM body).length<=1000->o.length<=1->(∀x∈o,(dM x).length<=1000)->(∀s∈au body,s.row=row->∀x∈o,gV x<=gV s)->(∀l' F H',ao H H'->qr K H' n (dS row o body) l' F->F.Nodup->(∀f∈F,H f=none)->Q (.ref l') H')->yh K n vs H Q E
theorem bP.app{Z L O:Type}{R:Z->L->O->Prop}:∀{a1 a2:List Z}{b1 b2:List L}{c1 c2:List O},bP R a1 b1 c1->bP R a2 b2 c2->bP R (a1++a2) (b1++b2) (c1++c2)
 |[],a2,b1,b2,c1,c2,h1,h2=>by obtain⟨rfl,rfl⟩:=bP.aO.mp h1;exact h2
 |x::a1,a2,b1,b2,c1,c2,h1,h2=>by
  obtain⟨y,ys,z,zs,rfl,rfl,h3,h4⟩:=bP.av.mp h1;exact bP.av.mpr ⟨y,ys++b2,z,zs++c2,rfl,rfl,h3,bP.app h4 h2⟩
end L2
namespace PG
def Ki (pr:Prog):List Prog:=(au pr.body).flatMap fun s=>(fE s).map fun o=>⟨pr.ar,dS s.row o pr.body⟩
theorem QM(h:(au pr.body).Pairwise (fun a b=>a.row<b.row)):Ki pr=(CJ pr.body).map fun b=>⟨pr.ar,b⟩:=by
 rw[<- ud _ h];unfold Ki Nx;rw[zbZ];refine iH fun s _=>?_;rw[zaB];rfl
theorem BN:∀o∈fE s,o.length<=1/\∀x∈o,gV x=gV s/\(dM x).length=(dM s).length:=by
 intro o ho;unfold fE at ho;rcases zak.mp ho with ho |ho
 .obtain⟨x,hx,rfl⟩:=zar.mp ho;refine⟨zah _,fun y hy=>?_⟩;rw[zai.mp hy];have key:∀f:PM.Tr->List PM.Tr,x∈iE f s->gV x=gV s/\(dM x).length=(dM s).length:=by
   intro f hx;cases s with
   |put k b e=>obtain⟨z,_,rfl⟩:=zar.mp hx;exact⟨rfl,rfl⟩
   |say k e=>obtain⟨z,_,rfl⟩:=zar.mp hx;exact⟨rfl,rfl⟩
   |bE k sg l r=>
    rcases zak.mp hx with hx |hx<;>(obtain⟨z,_,rfl⟩:=zar.mp hx;exact⟨rfl,rfl⟩)
   |ifs k sg l r a b=>
    rcases zak.mp hx with hx |hx<;>(obtain⟨z,_,rfl⟩:=zar.mp hx;exact⟨by simp[gV],by simp[dM]⟩)
   |fM k sg l r a=>
    rcases zak.mp hx with hx |hx<;>(obtain⟨z,_,rfl⟩:=zar.mp hx;exact⟨by simp[gV],by simp[dM]⟩)
   |_=>cases hx
  rcases zak.mp hx with hx |hx
  .exact key _ hx
  .exact key _ hx
 .have fin:∀x:aT,gV x=gV s->(dM x).length=(dM s).length->([x]:List aT).length<=1/\∀y∈[x],gV y=gV s/\(dM y).length=(dM s).length:=fun x h1 h2=>⟨zah _,fun y hy=>by rw[zai.mp hy];exact⟨h1,h2⟩⟩
  rcases zak.mp ho with ho |ho
  .cases s with
   |bE k sg l r=>rw[zai.mp ho];exact fin _ rfl rfl
   |ifs k sg l r a b=>rw[zai.mp ho];exact fin _ (by simp[gV]) (by simp[dM])
   |fM k sg l r a=>rw[zai.mp ho];exact fin _ (by simp[gV]) (by simp[dM])
   |_=>cases ho
  .rcases zak.mp ho with ho |ho
   .cases s with
    |ifs k sg l r a b=>rw[zai.mp ho];exact fin _ (by simp[gV]) (by simp[dM])
    |fM k sg l r a=>rw[zai.mp ho];exact fin _ (by simp[gV]) (by simp[dM])
    |_=>cases ho
   .cases s with
    |put k b e=>rw[zai.mp ho];exact⟨by simp,fun y hy=>by cases hy⟩
    |say k e=>rw[zai.mp ho];exact⟨by simp,fun y hy=>by cases hy⟩
    |_=>cases ho
end PG
namespace L2
open PG
open PySem PyProof.Rows
def QN (K:zaa)(H:Hp)(pr:PG.Prog)(v:V)(F:List zdi):Prop:=∃p B b HG Fb,v=.ref p/\bG K H p [.ref B,.ref b]/\H B=some (.lst HG)/\aC K H (pr.ar.map tV) HG/\qr K H 4 pr.body b Fb/\F=B::Fb
theorem QO:∀bs:List jc,oM (bs.map tV)=true
 |[]=>rfl
 |b::r=>by rw[zaq,oM,QO r];simp[tV,Gf,oM]
theorem QN.i9{K:zaa}(hO:∀g,O g->∃ys,H g=some (.lst ys))(u:aN O H H')(hF:∀f∈F,¬O f)(h:QN K H pr v F):QN K H' pr v F:=by
 obtain⟨p,B,b,HG,Fb,rfl,h1,h2,h3,h4,rfl⟩:=h;exact⟨p,B,b,HG,Fb,rfl,iX hO u h1,u _ _ (hF B (by simp)) h2,og hO u _ _ (QO _) h3,qr.i9 hO u 4 _ _ _ (fun f hf=>hF f (zao _ hf)) h4,rfl⟩
theorem QN.lists{K:zaa}(h:QN K H pr v F):∀f∈F,∃ys,H f=some (.lst ys):=by
 obtain⟨p,B,b,HG,Fb,rfl,h1,h2,h3,h4,rfl⟩:=h;intro f hf;rcases zan.mp hf with rfl |hf
 .exact⟨_,h2⟩
 .exact qr.lists _ _ _ _ h4 f hf
theorem Eb{K:zaa}:∀{ps:List PG.Prog}{us:List V}{Fs:List (List zdi)},bP (QN K H) ps us Fs->∀f∈Fs.flatten,∃ys,H f=some (.lst ys)
 |[],us,Fs,h,f,hf=>by obtain⟨rfl,rfl⟩:=bP.aO.mp h;cases hf
 |p::ps,us,Fs,h,f,hf=>by
  obtain⟨v,vs,F,Gs,rfl,rfl,h1,h2⟩:=bP.av.mp h;rw[zaX] at hf;rcases zak.mp hf with hf |hf
  .exact h1.lists f hf
  .exact Eb h2 f hf
structure PrC(pr:PG.Prog):Prop where
 pw:(au pr.body).Pairwise (fun a b=>a.row<b.row)
 dep:dg pr.body<=3
 om:(gM pr.body).length<=1000
 bx:pr.ar.length<=10
 st:∀s∈au pr.body,XY s
def NA (K:zaa):Sp:=fun vs H Q _=>∃(v:V) (pr:PG.Prog),vs=[v]/\Rep K H (gC pr) v/\PrC pr/\
 ∀L us Fs H',ao H H'->H L=none->H' L=some (.lst us)->bP (QN K H') (Ki pr) us Fs->Fs.flatten.Nodup->(∀f∈Fs.flatten,H f=none/\f≠L)->Q (.ref L) H'
end L2
namespace PG
mutual
theorem QP:∀s:aT,∀x∈bA s,(dM x).length<=(dM s).length
 |.ifs k sg l r a b,x,h=>by
  rw[bA] at h;rcases zan.mp h with rfl |h
  .exact zah _
  .rw[dM,zal,zae];rcases zak.mp h with h |h
   .have:=ui a x h;lia
   .have:=ui b x h;lia
 |.fM k sg l r a,x,h=>by
  rw[bA] at h;rcases zan.mp h with rfl |h
  .exact zah _
  .rw[dM,zal];have:=ui a x h;lia
 |.ask k b,x,h=>by simp[bA] at h;rw[h];exact zah _
 |.put k b e,x,h=>by simp[bA] at h;rw[h];exact zah _
 |.say k e,x,h=>by simp[bA] at h;rw[h];exact zah _
 |.bE k sg l r,x,h=>by simp[bA] at h;rw[h];exact zah _
 |.stop k,x,h=>by simp[bA] at h;rw[h];exact zah _
theorem ui:∀b:List aT,∀x∈au b,(dM x).length<=(gM b).length
 |[],x,h=>by cases h
 |s::r,x,h=>by
  rw[au] at h;rw[gM,zae];rcases zak.mp h with h |h
  .have:=QP s x h;lia
  .have:=ui r x h;lia
end
theorem QQ{l:List aT}(h:l.Pairwise (fun a b=>a.row<b.row))(ha:a∈l)(hb:b∈l)(e:a.row=b.row):a=b:=by
 obtain⟨i,hi,rfl⟩:=zbj.mp ha;obtain⟨j,hj,rfl⟩:=zbj.mp hb;rw[zbU] at h;rcases Nat.lt_trichotomy i j with z |z |z
 .have:=h i j hi hj z;lia
 .subst z;rfl
 .have:=h j i hj hi z;lia
theorem HH(s:aT):(E5 s++(Hq s++Kb s)).length<=3:=by
 cases s<;>simp[E5,Hq,Kb]
end PG
namespace L2
open PG
open PySem PyProof.Rows
noncomputable def less (H:Hp)(L:zdi):Hp:=fun b=>if b=L then none else H b
theorem NB:ao (less H L) H:=fun b o e=>by
 unfold less at e;split at e
 .cases e
 .exact e
theorem Mn(n:b≠L)(e:H b=some o):less H L b=some o:=by
 unfold less;rw[ybq n];exact e
theorem QR{K:zaa}{st:aT}(h:Rep K H (b3 st) v):∃a w0 ys,v=.ref a/\bG K H a (.str w0 :: .int st.row::ys):=by
 obtain⟨w,ds,e⟩:∃w ds,b3 st=.tup (.str w :: .int st.row::ds):=by cases st<;>exact⟨_,_,by rw[b3];rfl⟩
 rw[e] at h;obtain⟨a,xs,rfl,hS,_⟩:=eS h;exact⟨a,_,_,rfl,hS⟩
end L2
namespace PG
open PM (W Tr)
theorem QS(h:o∈([[43],[45],[42]]:List W)):oT o∈([[43],[45],[42]]:List W):=by
 simp at h;rcases h with rfl |rfl |rfl<;>decide
theorem BO(h:o∈AO):oT o∈AO:=by
 simp[AO] at h;rcases h with rfl |rfl<;>decide
theorem Kj(bs:List jc):∀t:Tr,fN bs t->∀x∈ja t,fN bs x/\dQ x=dQ t
 |.num n,h,x,hx=>by
  obtain⟨m,hm,rfl⟩:=zar.mp hx;refine⟨?_,rfl⟩;unfold rn at hm;have h1:=h.1;have h2:=h.2;rcases zak.mp hm with hm |hm
  .split at hm
   .cases zai.mp hm;exact⟨by lia,by lia⟩
   .cases hm
  .split at hm
   .cases zai.mp hm;exact⟨by lia,by lia⟩
   .cases hm
 |.box _,h,x,hx=>by cases hx
 |.bin o l r,h,x,hx=>by
  rw[ja] at hx;rcases zak.mp hx with hx |hx
  .obtain⟨y,hy,rfl⟩:=zar.mp hx;obtain⟨h1,h2⟩:=Kj bs l h.2.1 y hy;exact⟨⟨h.1,h1,h.2.2⟩,by rw[dQ,dQ,h2]⟩
  .obtain⟨y,hy,rfl⟩:=zar.mp hx;obtain⟨h1,h2⟩:=Kj bs r h.2.2 y hy;exact⟨⟨h.1,h.2.1,h1⟩,by rw[dQ,dQ,h2]⟩
theorem Kk(bs:List jc):∀t:Tr,fN bs t->∀x∈jj t,fN bs x/\dQ x=dQ t
 |.num n,h,x,hx=>by cases hx
 |.box _,h,x,hx=>by cases hx
 |.bin o l r,h,x,hx=>by
  rw[jj] at hx;rcases zak.mp hx with hx |hx
  .obtain⟨y,hy,rfl⟩:=zar.mp hx;obtain⟨h1,h2⟩:=Kk bs l h.2.1 y hy;exact⟨⟨h.1,h1,h.2.2⟩,by rw[dQ,dQ,h2]⟩
  .rcases zan.mp hx with rfl |hx
   .exact⟨⟨QS h.1,h.2.1,h.2.2⟩,rfl⟩
   .obtain⟨y,hy,rfl⟩:=zar.mp hx;obtain⟨h1,h2⟩:=Kk bs r h.2.2 y hy;exact⟨⟨h.1,h.2.1,h1⟩,by rw[dQ,dQ,h2]⟩
abbrev X0 (bs:List jc):aT->Prop:=LH (·∈xF bs) (fun e=>fN bs e/\dQ e<=2) (·∈AO)
abbrev rws (l:List aT):List Int:=(au l).map (·.row)
abbrev Sl (s:aT):List Int:=(bA s).map (·.row)
theorem QT(hf:∀t,fN bs t->∀x∈f t,fN bs x/\dQ x=dQ t)(s:aT)(h:X0 bs s):∀x∈iE f s,X0 bs x/\Sl x=Sl s/\gV x=gV s:=by
 have hf:∀t,fN bs t/\dQ t<=2->∀x∈f t,fN bs x/\dQ x<=2:=fun t ht x hx=>by obtain⟨h1,h2⟩:=hf t ht.1 x hx;exact⟨h1,by rw[h2];exact ht.2⟩
 intro x hx;cases s with
 |ask=>cases hx
 |stop=>cases hx
 |put k b e=>
  obtain⟨y,hy,rfl⟩:=zar.mp hx;exact⟨⟨h.1,hf _ h.2 y hy⟩,rfl,rfl⟩
 |say k e=>
  obtain⟨y,hy,rfl⟩:=zar.mp hx;exact⟨hf _ h y hy,rfl,rfl⟩
 |bE k sg l r=>
  rcases zak.mp hx with hx |hx
  .obtain⟨y,hy,rfl⟩:=zar.mp hx;exact⟨⟨h.1,hf _ h.2.1 y hy,h.2.2⟩,rfl,rfl⟩
  .obtain⟨y,hy,rfl⟩:=zar.mp hx;exact⟨⟨h.1,h.2.1,hf _ h.2.2 y hy⟩,rfl,rfl⟩
 |ifs k sg l r a b=>
  rcases zak.mp hx with hx |hx
  .obtain⟨y,hy,rfl⟩:=zar.mp hx;exact⟨⟨h.1,hf _ h.2.1 y hy,h.2.2⟩,rfl,rfl⟩
  .obtain⟨y,hy,rfl⟩:=zar.mp hx;exact⟨⟨h.1,h.2.1,hf _ h.2.2.1 y hy,h.2.2.2⟩,rfl,rfl⟩
 |fM k sg l r a=>
  rcases zak.mp hx with hx |hx
  .obtain⟨y,hy,rfl⟩:=zar.mp hx;exact⟨⟨h.1,hf _ h.2.1 y hy,h.2.2⟩,rfl,rfl⟩
  .obtain⟨y,hy,rfl⟩:=zar.mp hx;exact⟨⟨h.1,h.2.1,hf _ h.2.2.1 y hy,h.2.2.2⟩,rfl,rfl⟩
theorem QU(s:aT)(h:X0 bs s):∀o∈fE s,o=[]\/∃x,o=[x]/\X0 bs x/\Sl x=Sl s/\gV x=gV s:=by
 intro o ho;unfold fE at ho;rcases zak.mp ho with ho |ho
 .obtain⟨x,hx,rfl⟩:=zar.mp ho;refine .inr ⟨x,rfl,?_⟩;rcases zak.mp hx with hx |hx
  .exact QT (Kj bs) s h x hx
  .exact QT (Kk bs) s h x hx
 .rcases zak.mp ho with ho |ho
  .cases s with
   |bE k sg l r=>cases zai.mp ho;exact .inr ⟨_,rfl,⟨BO h.1,h.2⟩,rfl,rfl⟩
   |ifs k sg l r a b=>cases zai.mp ho;exact .inr ⟨_,rfl,⟨BO h.1,h.2⟩,rfl,rfl⟩
   |fM k sg l r a=>cases zai.mp ho;exact .inr ⟨_,rfl,⟨BO h.1,h.2⟩,rfl,rfl⟩
   |_=>cases ho
  .rcases zak.mp ho with ho |ho
   .cases s with
    |ifs k sg l r a b=>cases zai.mp ho;exact .inr ⟨_,rfl,⟨h.1,h.2.2.1,h.2.1,h.2.2.2⟩,rfl,rfl⟩
    |fM k sg l r a=>cases zai.mp ho;exact .inr ⟨_,rfl,⟨h.1,h.2.2.1,h.2.1,h.2.2.2⟩,rfl,rfl⟩
    |_=>cases ho
   .cases s with
    |put=>cases zai.mp ho;exact .inl rfl
    |say=>cases zai.mp ho;exact .inl rfl
    |_=>cases ho
mutual
theorem WL:∀s:aT,X0 bs s->∀x∈AQ s,X0 bs x/\(Sl x).Sublist (Sl s)/\gV x<=gV s
 |.ask ..,h,x,hx=>by cases hx
 |.put ..,h,x,hx=>by cases hx
 |.say ..,h,x,hx=>by cases hx
 |.stop ..,h,x,hx=>by cases hx
 |.bE ..,h,x,hx=>by cases hx
 |.ifs k sg l r a b,h,x,hx=>by
  rw[AQ] at hx;rcases zak.mp hx with hx |hx
  .obtain⟨y,hy,rfl⟩:=zar.mp hx;obtain⟨h1,h2,h3⟩:=BP a h.2.2.2.1 y hy;refine⟨⟨h.1,h.2.1,h.2.2.1,h1,h.2.2.2.2⟩,?_,by show max (dg y) (dg b)+1<=max (dg a) (dg b)+1;lia⟩;show ((bA (.ifs k sg l r y b)).map (·.row)).Sublist ((bA (.ifs k sg l r a b)).map (·.row));rw[bA,bA,zaq,zaq,zas,zas];exact(List.Sublist.append h2 (List.Sublist.refl _)).cons₂ _
  .obtain⟨y,hy,rfl⟩:=zar.mp hx;obtain⟨h1,h2,h3⟩:=BP b h.2.2.2.2 y hy;refine⟨⟨h.1,h.2.1,h.2.2.1,h.2.2.2.1,h1⟩,?_,by show max (dg a) (dg y)+1<=max (dg a) (dg b)+1;lia⟩;show ((bA (.ifs k sg l r a y)).map (·.row)).Sublist ((bA (.ifs k sg l r a b)).map (·.row));rw[bA,bA,zaq,zaq,zas,zas];exact(List.Sublist.append (List.Sublist.refl _) h2).cons₂ _
 |.fM k sg l r a,h,x,hx=>by
  rw[AQ] at hx;obtain⟨y,hy,rfl⟩:=zar.mp hx;obtain⟨h1,h2,h3⟩:=BP a h.2.2.2 y hy;refine⟨⟨h.1,h.2.1,h.2.2.1,h1⟩,?_,by show dg y+1<=dg a+1;lia⟩;show ((bA (.fM k sg l r y)).map (·.row)).Sublist ((bA (.fM k sg l r a)).map (·.row));rw[bA,bA,zaq,zaq];exact h2.cons₂ _
theorem BP:∀b:List aT,BOk bs b->∀x∈CJ b,BOk bs x/\(rws x).Sublist (rws b)/\dg x<=dg b
 |[],h,x,hx=>by cases hx
 |s::r,h,x,hx=>by
  have e:rws (s::r)=Sl s++rws r:=by show (au (s::r)).map (·.row)=_;rw[au,zas]
  rw[CJ] at hx;rcases zak.mp hx with hx |hx
  .obtain⟨o,ho,rfl⟩:=zar.mp hx;rcases QU s h.1 o ho with rfl |⟨y,rfl,h1,h2,h3⟩
   .refine⟨h.2,?_,by rw[zby,dg];lia⟩;rw[e,zby];exact List.sublist_append_right _ _
   .refine⟨⟨h1,h.2⟩,?_,by rw[zbO,zby,dg,dg,h3];lia⟩;have e2:rws ([y]++r)=Sl y++rws r:=by show (au (y::r)).map (·.row)=_;rw[au,zas]
    rw[e,e2,h2];exact List.Sublist.refl _
  .rcases zak.mp hx with hx |hx
   .obtain⟨y,hy,rfl⟩:=zar.mp hx;obtain⟨h1,h2,h3⟩:=WL s h.1 y hy;refine⟨⟨h1,h.2⟩,?_,by rw[dg,dg];lia⟩;have e2:rws (y::r)=Sl y++rws r:=by show (au (y::r)).map (·.row)=_;rw[au,zas]
    rw[e,e2];exact List.Sublist.append h2 (List.Sublist.refl _)
   .obtain⟨y,hy,rfl⟩:=zar.mp hx;obtain⟨h1,h2,h3⟩:=BP r h.2 y hy;refine⟨⟨h.1,h1⟩,?_,by rw[dg,dg];lia⟩;have e2:rws (s::y)=Sl s++rws y:=by show (au (s::y)).map (·.row)=_;rw[au,zas]
    rw[e,e2];exact List.Sublist.append (List.Sublist.refl _) h2
end
theorem WM(h:tf most pr):∀p∈Ki pr,tf most p:=by
 rw[QM h.pw];intro p hp;obtain⟨b,hb,rfl⟩:=zar.mp hp;obtain⟨h1,h2,h3⟩:=BP _ h.own b hb;have pw:(rws pr.body).Pairwise (· < ·):=by
  show ((au pr.body).map (·.row)).Pairwise (· < ·);rw[za4];exact h.pw
 have XX:=pw.sublist h2;rw[show rws b=(au b).map (·.row) from rfl,za4] at XX;have ln:=h2.length_le;rw[zab,zab] at ln;refine⟨XX,fun s hs=>?_,zcP (by exact Int.ofNat_le.mpr ln) h.om,zaz h3 h.dep,h1,h.nb,h.len,h.size⟩;obtain⟨t,ht,e⟩:=zar.mp (h2.subset (zar.mpr ⟨s,hs,rfl⟩));have:=h.pos t ht;have e:t.row=s.row:=e;lia
end PG
namespace L2
open PG
open PySem PySem.Spec PyProof.Rows
def jv (pr:PG.Prog)(s:gw):Sn:=E9 pr (cw pr+1) [] s
def zj (pr:PG.Prog):Nat->gw->gw
 |0,s=>s
 |n+1,s=>zj pr n (qC pr s)
theorem Fe:∀(a t:Nat)(s:gw),zj pr (a+t) s=zj pr t (zj pr a s)
 |0,t,s=>by rw[zdd];rfl
 |a+1,t,s=>by rw[show a+1+t=(a+t)+1 by lia,zj,zj,Fe a t]
theorem vz:∀(n:Nat)(gone:List gw)(s:gw),(∀m,eY pr (zj pr m s)=none)->E9 pr n gone s=.round
 |0,gone,s,h=>rfl
 |n+1,gone,s,h=>by
  rw[E9];split
  .rfl
  .rw[show eY pr s=none from h 0];exact vz n _ _ fun m=>h (m+1)
theorem Ec:∀(k n:Nat)(gone:List gw)(s:gw)(x:Sn),k<n->(∀m,m<k->eY pr (zj pr m s)=none)->eY pr (zj pr k s)=some x->(∀m,m<=k->zj pr m s ∉ gone)->(∀i j,i<j->j<=k->zj pr i s≠zj pr j s)->E9 pr n gone s=x
 |0,n+1,gone,s,x,hn,h0,h1,hg,hd=>by
  rw[E9,ybq (show s ∉ gone from hg 0 (zah _)),show eY pr s=some x from h1]
 |k+1,n+1,gone,s,x,hn,h0,h1,hg,hd=>by
  rw[E9,ybq (show s ∉ gone from hg 0 (zaG _)),show eY pr s=none from h0 0 (by lia)];refine Ec k n (gone++[s]) (qC pr s) x (by lia) (fun m hm=>h0 (m+1) (by lia)) h1 (fun m hm z=>?_) (fun i j hij hj=>hd (i+1) (j+1) (by lia) (by lia));rcases zak.mp z with z |z
  .exact hg (m+1) (by lia) z
  .exact hd 0 (m+1) (by lia) (by lia) (zai.mp z).symm
theorem QV(d:fO pr):∀(n:Nat)(s:gw),eW pr s->(∀m,m<n->eY pr (zj pr m s)=none)->eW pr (zj pr n s)
 |0,s,h,_=>h
 |n+1,s,h,h0=>QV d n _ (h.Nj d (h0 0 (by lia))) fun m hm=>h0 (m+1) (by lia)
theorem Kl(h0:∀m,m<k->eY pr (zj pr m s)=none)(h1:eY pr (zj pr k s)=some x):∀i j,i<j->j<=k->zj pr i s≠zj pr j s:=fun i j hij hj e=>by
 have a:=Fe (pr:=pr) i (k-j) s;have b:=Fe (pr:=pr) j (k-j) s;rw[e,<- b,show j+(k-j)=k by lia] at a;have:=h0 (i+(k-j)) (by lia);rw[a,h1] at this;cases this
theorem BQ(d:fO pr)(si:eW pr s)(h0:∀m,m<k->eY pr (zj pr m s)=none)(h1:eY pr (zj pr k s)=some x):jv pr s=x:=by
 have un:=Kl h0 h1;refine Ec k _ [] s x ?_ h0 h1 (fun m _ z=>by cases z) un;have nd:((zaS (k+1)).map fun m=>zj pr m s).Nodup:=by
  rw[List.nodup_iff_pairwise_ne,za4];refine List.Pairwise.imp_of_mem (R:=(· < ·)) (fun {a b} ha hb Gg=>?_) List.pairwise_lt_range;exact un a b Gg (by have:=zbN.mp hb;lia)
 have:=qy (pr:=pr) nd fun y hy=>by
  obtain⟨m,hm,rfl⟩:=zar.mp hy;have:=zbN.mp hm;exact QV d m s si fun i hi=>h0 i (by lia)
 rw[zab,zbJ] at this;lia
theorem NC(s:gw):(∀m,eY pr (zj pr m s)=none)\/∃k x,(∀m,m<k->eY pr (zj pr m s)=none)/\eY pr (zj pr k s)=some x:=by
 by_cases h:∃k,eY pr (zj pr k s)≠none
 .refine .inr ?_;obtain⟨k,hk⟩:=h
  induction k using Nat.strongRecOn with
  |_ k ih=>
   by_cases h2:∃m,m<k/\eY pr (zj pr m s)≠none
   .obtain⟨m,hm,XU⟩:=h2;exact ih m hm XU
   .cases e:eY pr (zj pr k s) with
    |none=>exact ybw e hk
    |some x=>exact⟨k,x,fun m hm=>Classical.byContradiction fun z=>h2 ⟨m,hm,z⟩,e⟩
 .exact .inl fun m=>Classical.byContradiction fun z=>h ⟨m,z⟩
theorem WN(d:fO pr)(si:eW pr s)(h:eY pr s=some x):jv pr s=x:=BQ d si (k:=0) (fun m hm=>by lia) h
theorem TL(d:fO pr)(si:eW pr s)(h:eY pr s=none):jv pr (qC pr s)=jv pr s:=by
 rcases NC (pr:=pr) s with a |⟨k,x,a,b⟩
 .exact(vz _ _ _ fun m=>a (m+1)).trans (vz _ _ _ a).symm
 .cases k with
  |zero=>rw[show eY pr s=some x from b] at h;cases h
  |succ k=>rw[BQ d si a b,BQ d (si.Nj d h) (k:=k) (fun m hm=>a (m+1) (by lia)) b]
theorem WO{gone:List gw}(h:∀g∈gone,eY pr g=none/\qC pr g∈gone)(hg:g∈gone):jv pr g=.round:=by
 refine vz _ _ _ fun m=>?_;have:∀m g,g∈gone->zj pr m g∈gone:=by
  intro m
  induction m with
  |zero=>exact fun g h=>h
  |succ m ih=>exact fun g hg=>ih _ (h g hg).2
 exact(h _ (this m g hg)).1
inductive Hd where
 |ask |say (n:Int) |fin |bE |round
 deriving DecidableEq
noncomputable def A9:Sn->Hd
 |.ask _=>.ask
 |.say n _=>.say n
 |.fin=>.fin
 |.bE=>.bE
 |.round=>.round
noncomputable def Ed:Hd->Str
 |.ask=>"ask"
 |.say _=>"say"
 |.fin=>"end"
 |.bE=>"must"
 |.round=>"round"
def BR:Hd->Dp
 |.say n=>.tup [.str "say",.int n]
 |h=>.tup [.str (Ed h)]
noncomputable def TM:Sn->Option gw
 |.ask s=>some s
 |.say _ s=>some s
 |_=>none
theorem TN(x:Sn):E8 x=.tup [BR (A9 x),DO (TM x)]:=by cases x<;>rfl
theorem QW(a b:Hd):yaS (BR a).py (BR b).py=decide (a=b):=by
 have i1:∀x y:Int,(x==y)=decide (x=y):=fun x y=>rfl;have e:∀x y:Hd,(Ed x==Ed y)=decide (Ed x=Ed y):=fun x y=>by
  by_cases h:Ed x=Ed y
  .rw[h];simp
  .rw[ybt h];exact beq_eq_false_iff_ne.mpr h
 cases a<;>cases b<;>simp only[BR,Dp.py,Dp.zv,yaS,PyData.eqvAll,i1,zco,zc3]<;>first |decide +kernel |(simp only[Hd.say.injEq];rw[show ((zad "say":Str)==zad "say")=true by decide +kernel,zcp]) |(exact(ybt (by simp)).symm)
theorem vA(h:Hd):ya8 (BR h).py=true:=by
 cases h with
 |say n=>
  simp only[BR,ya8,Dp.py,Dp.zv,ybb,yan,ybh,yao,za9,decide_eq_true_eq];exact⟨⟨by decide +kernel,trivial,trivial⟩,by lia⟩
 |ask=>decide +kernel
 |fin=>decide +kernel
 |bE=>decide +kernel
 |round=>decide +kernel
theorem wY(d:fO pr):∀(n:Nat)(gone:List gw)(s y:gw),eW pr s->TM (E9 pr n gone s)=some y->eW pr y
 |0,_,_,_,_,h=>by cases h
 |n+1,gone,s,y,si,h=>by
  rw[E9] at h;split at h
  .cases h
  .cases e:eY pr s with
   |none=>rw[e] at h;exact wY d n _ _ y (si.Nj d e) h
   |some x=>
    rw[e] at h;simp only at h;unfold eY at e;split at e
    .cases e;cases h
    .rename_i h0;split at e
     .cases e;cases h;exact si
     .split at e
      .cases e;cases h
      .rename_i y' n' es;cases e;cases h;exact si.next d h0 (f:=0) (by rw[es])
      .cases e
theorem rq:∀(n:Nat)(gone:List gw)(s y:gw),E9 pr n gone s=.ask y->y.1≠0/\mJ pr.body y.1=true
 |0,_,_,_,h=>by cases h
 |n+1,gone,s,y,h=>by
  rw[E9] at h;split at h
  .cases h
  .cases e:eY pr s with
   |none=>rw[e] at h;exact rq n _ _ y h
   |some x=>
    rw[e] at h;simp only at h;subst h;unfold eY at e;split at e
    .cases e
    .rename_i h0;split at e
     .rename_i ha;cases e;exact⟨h0,ha⟩
     .split at e<;>cases e
abbrev jw:=gw×gw
def kF (p:jw):eV×eV:=(ji p.1,ji p.2)
theorem yi(h:kF a=kF b):a=b:=Prod.ext (x3 (ybv Prod.fst h)) (x3 (ybv Prod.snd h))
def mM (K:zaa)(H:Hp)(a:zdi)(p:jw):Prop:=∃b c,bG K H a [.ref b,.ref c]/\bR K H b p.1.1 p.1.2/\bR K H c p.2.1 p.2.2
theorem yj{K:zaa}(h:mM K H a p):Ay.on K H (kF p) a:=by obtain⟨b,c,h1,h2,h3⟩:=h;exact⟨b,c,h1,tZ h2,tZ h3⟩
theorem Ff{K:zaa}(h:Ay.on K H (kF p) a):mM K H a p:=by obtain⟨b,c,h1,h2,h3⟩:=h;exact⟨b,c,h1,Qo h2,Qo h3⟩
theorem mM.lZ{K:zaa}(h:mM K H a p)(t:∀b ys,bG K H b ys->bG K H' b ys):mM K H' a p:=Ff (Ay.up t (yj h))
theorem mM.mono{K:zaa}(h:mM K H a p)(s:ao H H'):mM K H' a p:=h.lZ fun _ _ q=>s.aS q
def HI (p:jw):Dp:=.tup [t9 p.1,t9 p.2]
structure BS(aX a7:PG.Prog)(p:jw):Prop where
 one:eW aX p.1
 two:eW a7 p.2
def wZ (aX a7:PG.Prog)(p:jw):List jw:=if A9 (jv aX p.1)≠A9 (jv a7 p.2) then [] else match jv aX p.1,jv a7 p.2 with
 |.say _ a,.say _ b=>[(a,b)]
 |.ask a,.ask b=>(vO aX a).zip (vO a7 b)
 |_,_=>[]
def AR (aX a7:PG.Prog)(p:jw):Bool:=decide (A9 (jv aX p.1)=A9 (jv a7 p.2))
def pW (aX a7:PG.Prog)(l:List jw):Bool:=decide ((qz aX,qz a7)∈l)&&l.all fun p=>AR aX a7 p&&(wZ aX a7 p).all fun b=>decide (b∈l)
theorem WQ(d1:fO aX)(d2:fO a7)(h:BS aX a7 p):∀q∈wZ aX a7 p,BS aX a7 q:=by
 intro q hq;unfold wZ at hq;split at hq
 .cases hq
 .have t1:∀y,TM (jv aX p.1)=some y->eW aX y:=fun y=>wY d1 _ [] p.1 y h.one;have t2:∀y,TM (jv a7 p.2)=some y->eW a7 y:=fun y=>wY d2 _ [] p.2 y h.two;cases e1:jv aX p.1<;>cases e2:jv a7 p.2<;>rw[e1,e2] at hq<;>simp only at hq<;>try cases hq
  .rename_i a b;have:=zcd (a:=q.1) (b:=q.2) hq;exact⟨L6 d1 (t1 a (by rw[e1];rfl)) _ this.1,L6 d2 (t2 b (by rw[e2];rfl)) _ this.2⟩
  .exact⟨t1 _ (by rw[e1];rfl),t2 _ (by rw[e2];rfl)⟩
  .rename_i z;cases z
section
variable{Y:Type}[DecidableEq Y]
theorem QX(kvs:List (Y×V))(k k':Y)(v:V):(bZ (putK kvs k v) k').isSome=(decide (k=k') ||(bZ kvs k').isSome):=by
 rw[<- jM,<- jM];unfold putK;by_cases h:(kvs.any fun kv=>decide (kv.1=k))=true
 .rw[ybr h];have:(kvs.map (fun kv=>if kv.1=k then (kv.1,v) else kv)).any (fun kv=>decide (kv.1=k'))=kvs.any fun kv=>decide (kv.1=k'):=by
   rw[List.any_map]
   congr 1
   funext kv
   show decide ((if kv.1=k then (kv.1,v) else kv).1=k')=_;split<;>rfl
  rw[this];by_cases e:k=k'
  .subst e;rw[h,ybs rfl];rfl
  .rw[ybt e];rfl
 .rw[ybq h,List.any_append,zb2,List.any_nil,zc7,Bool.or_comm]
end
def sT (K:zaa)(H:Hp)(pr:PG.Prog)(kvs:List (eV×V)):Prop:=∀kv∈kvs,∃s,kv.1=ji s/\eW pr s/\Rep K H (E8 (jv pr s)) kv.2
theorem sT.mono{K:zaa}(h:sT K H pr kvs)(s:ao H H'):sT K H' pr kvs:=fun kv m=>by obtain⟨x,a,b,c⟩:=h kv m;exact⟨x,a,b,c.mono s⟩
theorem sT.ext{K:zaa}(h:sT K H pr kvs)(hb:H b=some (.ext φ))(u:a9 b H H'):sT K H' pr kvs:=fun kv m=>by obtain⟨x,a,z,c⟩:=h kv m;exact⟨x,a,z,mL hb u _ _ c⟩
theorem sT.put{K:zaa}(h:sT K H pr kvs)(si:eW pr s)(r:Rep K H (E8 (jv pr s)) v):sT K H pr (putK kvs (ji s) v):=by
 intro kv m;unfold putK at m;split at m
 .obtain⟨z,hz,rfl⟩:=zar.mp m;by_cases e:z.1=ji s
  .rw[ybr e];exact⟨s,e,si,r⟩
  .rw[ybq e];exact h z hz
 .rcases zak.mp m with m |m
  .exact h kv m
  .cases zai.mp m;exact⟨s,rfl,si,r⟩
theorem HJ{Y:Type}[DecidableEq Y]{kvs:List (Y×V)}{k:Y}(h:bZ kvs k=some v):(k,v)∈kvs:=by
 induction kvs with
 |nil=>cases h
 |cons a r ih=>
  by_cases e:a.1=k
  .rw[cX e] at h;cases h;subst e;exact zaw ..
  .rw[cI e] at h;exact zao _ (ih h)
theorem TQ{Y:Type}[DecidableEq Y]{J:KH Y}{K:zaa}{kvs:List (Y×V)}{xs:List (Y×zdi×zdj)}(r:KS J K H kvs xs):kvs.map (·.1)=xs.map (·.1):=by
 induction r with
 |nil=>rfl
 |cons h t ih=>rw[zaq,zaq,h.1,ih]
theorem DS.nodup{Y:Type}[DecidableEq Y]{J:KH Y}{K:zaa}{kvs:List (Y×V)}(d:DS J P w K H a kvs):(kvs.map (·.1)).Nodup:=by
 obtain⟨xs,_,r,nd⟩:=d.at_;rw[TQ r];exact nd
theorem Mo{K:zaa}(nd:(kvs.map (·.1)).Nodup)(h:sT K H pr kvs):kvs.length<=cw pr:=by
 have:∀l:List (eV×V),(∀kv∈l,∃s,kv.1=ji s/\eW pr s)->∃ss:List gw,l.map (·.1)=ss.map ji/\∀s∈ss,eW pr s:=by
  intro l
  induction l with
  |nil=>exact fun _=>⟨[],rfl,fun _ z=>by cases z⟩
  |cons a r ih=>
   intro hl;obtain⟨ss,e,hs⟩:=ih fun kv m=>hl kv (zao _ m);obtain⟨s,es,si⟩:=hl a (zaw ..);refine⟨s::ss,by rw[zaq,zaq,es,e],fun x hx=>?_⟩;rcases zan.mp hx with rfl |hx
   .exact si
   .exact hs x hx
 obtain⟨ss,e,hs⟩:=this kvs fun kv m=>let ⟨s,a,b,_⟩:=h kv m;⟨s,a,b⟩;rw[e] at nd;have l:=ybv zaQ e;rw[zab,zab] at l;rw[l];exact qy (List.Pairwise.of_map ji (fun a b Gg z=>Gg (by rw[z])) nd) hs
section
variable(P:zdu)(w:zdk)(K:zaa)(CC CW:zdi)
def Jf (H:Hp) (wt sg:zdi) (pr:PG.Prog):Prop:=∃dx ch kvs,H wt=some (.ins CW dx [("chart",.ref ch),("sights",.ref sg)])/\H dx=some (.own wt)/\A7 K CC H ch pr/\DS sR P w K H sg kvs/\sT K H pr kvs
inductive HK(vs:List V)(H:Hp)(Q:VK)(E:XK):Prop
 |mk (p sg sa:zdi) (pr:PG.Prog) (s:gw):vs=[.ref p,.ref sa]->Jf P w K CC CW H p sg pr->fO pr->bR K H sa s.1 s.2->eW pr s->cw pr<=20000->(∀v H',a9 sg H H'->Jf P w K CC CW H' p sg pr->Rep K H' (E8 (jv pr s)) v->Q v H')->HK vs H Q E
inductive QY(vs:List V)(H:Hp)(Q:VK)(E:XK):Prop
 |mk (p dx:zdi) (v:V) (pr:PG.Prog):vs=[.ref p,v]->H p=some (.ins CW dx [])->H dx=some (.own p)->Rep K H (gC pr) v->fO pr->(∀sg H',a9 p H H'->H sg=none->Jf P w K CC CW H' p sg pr->Q .cH H')->QY vs H Q E
end
section
variable{P:zdu}{w:zdk}{K:zaa}{CC CW:zdi}{H H':Hp}{wt sg:zdi}{pr:PG.Prog}
theorem Jf.mono(h:Jf P w K CC CW H wt sg pr)(s:ao H H'):Jf P w K CC CW H' wt sg pr:=by obtain⟨dx,ch,kvs,h1,h2,h3,h4,h5⟩:=h;exact⟨dx,ch,kvs,s _ _ h1,s _ _ h2,h3.mono s,h4.mono s,h5.mono s⟩
theorem Jf.other(h:Jf P w K CC CW H wt sg pr)(hb:H b=some (.ext φ))(n:sg≠b)(u:a9 b H H'):Jf P w K CC CW H' wt sg pr:=
 let ⟨dx,ch,kvs,h1,h2,h3,h4,h5⟩:=h
 ⟨dx,ch,kvs,u _ _ (b5 h1 hb (by intro z;cases z)) h1,u _ _ (b5 h2 hb (by intro z;cases z)) h2,h3.ext hb u,h4.other hb n u,h5.ext hb u⟩
theorem Jf.QZ(h:Jf P w K CC CW H wt sg pr):∃φ,H sg=some (.ext φ):=by obtain⟨_,_,_,_,_,_,h4,_⟩:=h;exact h4.wQ
theorem WtO.toM(h:WtO P w K CC CW H wt sg pr):Jf P w K CC CW H wt sg pr:=by obtain⟨dx,ch,h1,h2,h3,h4⟩:=h;exact⟨dx,ch,[],h1,h2,h3,h4,fun _ z=>by cases z⟩
end
section
variable{Y:Type}[DecidableEq Y]{J:KH Y}
theorem Fz.up{K:zaa}(f:Fz J P w K H d kvs o)(t:∀b ys,bG K H b ys->bG K H' b ys):Fz J P w K H' d kvs o:=by obtain⟨xs,h1,h2,h3⟩:=f.at_;exact⟨f.len,f.sys,xs,h1,h2.up t,h3⟩
def ZK (J:KH Y)(P:zdu)(w:zdk)(K:zaa)(g:Bool->Bool):R2:=fun x y H Q=>∃(a b:zdi) (kvs:List (Y×V)) (k:Y) (o:Obj),x=.ref b/\y=.ref a/\H a=some (kC a o)/\Fz J P w K H a kvs o/\J.on K H k b/\Q (.bl (g (bZ kvs k).isSome)) H
theorem Mp{G:St}(I:Inv X pins G H s)(e:H a=some (kC a o))(f:Fz J X.prog X.w X.K H a kvs o):∃xs,s.heap.DictOfH (J.knd X.prog X.w) a xs/\KS J X.K H kvs xs:=by
 obtain⟨hg, -⟩:=(show cE X.prog X.w H s.heap a (kC a o) from I.dW a _ e)
 obtain⟨xs,h1,h2,h3⟩:=f.at_;obtain⟨o',es,ep,g1,g2,g3,g4⟩:=h1 s.heap hg;refine⟨xs,⟨o',es,ep,g1,g2,g3,g4,?_,h3⟩,h2⟩;clear h1 h3 g4 f
 induction h2 with
 |nil=>intro x hx;cases hx
 |@cons p q ps qs hq t ih=>
  intro x hx;rcases zan.mp hx with rfl |hx
  .exact J.of I (hq.1▸hq.2.1)
  .exact ih x hx
theorem WR{K:zaa}(eP:X.prog=P)(ew:X.w=w)(eK:X.K=K)(hu:X.A.units+16<cLine):vL X (yar .In) (ZK J P w K id):=by
 subst eP ew eK;intro pins s G H x y v u Q I rx ry h;obtain⟨a,b,kvs,k,o,rfl,rfl,e,f,hk,q⟩:=h;cases rx;cases ry;obtain⟨xs,dd,ks⟩:=Mp I e f;refine wpAny_in_heap (knd:=J.knd X.prog X.w) (J.room hu) (J.of I hk) f.sys dd ?_;have z:=(ks.val k).nJ;rw[zbT] at z;rw[<- z];exact⟨.bl _,H,I.tok _,rfl,q⟩
theorem ND{K:zaa}(eP:X.prog=P)(ew:X.w=w)(eK:X.K=K)(hu:X.A.units+16<cLine):vL X (yar .NotIn) (ZK J P w K (!·)):=by
 subst eP ew eK;intro pins s G H x y v u Q I rx ry h;obtain⟨a,b,kvs,k,o,rfl,rfl,e,f,hk,q⟩:=h;cases rx;cases ry;obtain⟨xs,dd,ks⟩:=Mp I e f;refine zcw (knd:=J.knd X.prog X.w) (J.room hu) (J.of I hk) f.sys dd ?_;have z:=(ks.val k).nJ;rw[zbT] at z;rw[<- z];exact⟨.bl _,H,I.tok _,rfl,q⟩
end
def w4 (a b:zdi)(H H':Hp):Prop:=∀c o,c≠a->c≠b->H c=some o->H' c=some o
theorem w4.refl:w4 a b H H:=fun _ _ _ _ h=>h
theorem w4.trans(u:w4 a b H H1)(v:w4 a b H1 H2):w4 a b H H2:=fun c o n m h=>v c o n m (u c o n m h)
theorem w4.one(u:a9 a H H'):w4 a b H H':=fun c o n _ h=>u c o n h
theorem w4.two(u:a9 b H H'):w4 a b H H':=fun c o _ n h=>u c o n h
theorem w4.of(s:ao H H'):w4 a b H H':=fun c o _ _ h=>s c o h
theorem bG.up2{K:zaa}(h:bG K H a xs)(h1:H s1=some (.ext φ))(h2:H s2=some (.ext M))(u:w4 s1 s2 H H'):bG K H' a xs:=by
 rcases h with (q |⟨o',q⟩) |q
 .exact .inl (.inl (u _ _ (b5 q h1 (by intro z;cases z)) (b5 q h2 (by intro z;cases z)) q))
 .exact .inl (.inr ⟨o',u _ _ (b5 q h1 (by intro z;cases z)) (b5 q h2 (by intro z;cases z)) q⟩)
 .exact .inr q
def gN (K:zaa)(H:Hp)(l:List jw)(us:List V):Prop:=yau (fun p v=>∃a,v=.ref a/\mM K H a p) l us
theorem gN.lZ{K:zaa}(h:gN K H l us)(t:∀b ys,bG K H b ys->bG K H' b ys):gN K H' l us:=yau.MR h fun _ _ ⟨a,e,q⟩=>⟨a,e,q.lZ t⟩
theorem gN.mono{K:zaa}(h:gN K H l us)(s:ao H H'):gN K H' l us:=h.lZ fun _ _ q=>s.aS q
theorem gN.get{K:zaa}(h:gN K H l us){i:Nat}(e:us[i]?=some v):∃p a,l[i]?=some p/\v=.ref a/\mM K H a p:=by obtain⟨p,h1,a,h2,h3⟩:=kE h e;exact⟨p,a,h1,h2,h3⟩
theorem gN.snoc{K:zaa}(h:gN K H l us)(q:mM K H a p):gN K H (l++[p]) (us++[.ref a]):=Paired.snoc h ⟨a,rfl,q⟩
structure BU(P:zdu)(w:zdk)(K:zaa)(CC CW:zdi)(H:Hp)(b w1 s1 w2 s2:zdi)(aX a7:PG.Prog):Prop where
 b_:bG K H b [.ref w1,.ref w2]
 one:Jf P w K CC CW H w1 s1 aX
 two:Jf P w K CC CW H w2 s2 a7
 ne:s1≠s2
section
variable{P:zdu}{w:zdk}{K:zaa}{CC CW:zdi}{H H':Hp}{b w1 s1 w2 s2:zdi}{aX a7:PG.Prog}
theorem BU.mono(h:BU P w K CC CW H b w1 s1 w2 s2 aX a7)(s:ao H H'):BU P w K CC CW H' b w1 s1 w2 s2 aX a7:=⟨s.aS h.b_,h.one.mono s,h.two.mono s,h.ne⟩
theorem BU.tup(h:BU P w K CC CW H b w1 s1 w2 s2 aX a7)(u:w4 s1 s2 H H'):∀a xs,bG K H a xs->bG K H' a xs:=fun a xs q=>by
 obtain⟨φ,e1⟩:=h.one.QZ;obtain⟨M,e2⟩:=h.two.QZ;exact q.up2 e1 e2 u
theorem BU.UU(h:BU P w K CC CW H b w1 s1 w2 s2 aX a7)(u:a9 s1 H H')(n:Jf P w K CC CW H' w1 s1 aX):BU P w K CC CW H' b w1 s1 w2 s2 aX a7:=by
 obtain⟨φ,e1⟩:=h.one.QZ;exact⟨h.b_.sZ e1 u,n,h.two.other e1 h.ne.symm u,h.ne⟩
theorem BU.UW(h:BU P w K CC CW H b w1 s1 w2 s2 aX a7)(u:a9 s2 H H')(n:Jf P w K CC CW H' w2 s2 a7):BU P w K CC CW H' b w1 s1 w2 s2 aX a7:=by
 obtain⟨φ,e2⟩:=h.two.QZ;exact⟨h.b_.sZ e2 u,h.one.other e2 h.ne u,n,h.ne⟩
theorem BU.free(h:BU P w K CC CW H' b w1 s1 w2 s2 aX a7)(u:w4 s1 s2 H H')(n:H' l=none):H l=none:=by
 obtain⟨φ,e1⟩:=h.one.QZ;obtain⟨M,e2⟩:=h.two.QZ;cases e:H l with
 |none=>rfl
 |some o=>rw[u l o (aj e1 n).symm (aj e2 n).symm e] at n;cases n
theorem BU.other(h:BU P w K CC CW H b w1 s1 w2 s2 aX a7)(hd:H d=some (.ext φ))(n1:s1≠d)(n2:s2≠d)(u:a9 d H H'):BU P w K CC CW H' b w1 s1 w2 s2 aX a7:=⟨h.b_.sZ hd u,h.one.other hd n1 u,h.two.other hd n2 u,h.ne⟩
end
section
variable(P:zdu)(w:zdk)(K:zaa)(CC CW:zdi)
inductive HL(vs:List V)(H:Hp)(Q:VK)(E:XK):Prop
 |mk (b w1 s1 w2 s2:zdi) (aX a7:PG.Prog):vs=[.ref b]->BU P w K CC CW H b w1 s1 w2 s2 aX a7->(∀p H',ao H H'->mM K H' p (qz aX,qz a7)->Q (.ref p) H')->HL vs H Q E
inductive Q0(vs:List V)(H:Hp)(Q:VK)(E:XK):Prop
 |mk (b w1 s1 w2 s2 pa:zdi) (aX a7:PG.Prog) (p:jw):vs=[.ref b,.ref pa]->BU P w K CC CW H b w1 s1 w2 s2 aX a7->fO aX->fO a7->mM K H pa p->BS aX a7 p->cw aX<=20000->cw a7<=20000->(∀H',w4 s1 s2 H H'->BU P w K CC CW H' b w1 s1 w2 s2 aX a7->Q (.bl (AR aX a7 p)) H')->Q0 vs H Q E
inductive HM(vs:List V)(H:Hp)(Q:VK)(E:XK):Prop
 |mk (b w1 s1 w2 s2 pa:zdi) (aX a7:PG.Prog) (p:jw):vs=[.ref b,.ref pa]->BU P w K CC CW H b w1 s1 w2 s2 aX a7->fO aX->fO a7->mM K H pa p->BS aX a7 p->cw aX<=20000->cw a7<=20000->(∀l us H',w4 s1 s2 H H'->BU P w K CC CW H' b w1 s1 w2 s2 aX a7->H l=none->H' l=some (.lst us)->gN K H' (wZ aX a7 p) us->Q (.ref l) H')->HM vs H Q E
inductive HN(vs:List V)(H:Hp)(Q:VK)(E:XK):Prop
 |mk (v1 v2:V) (pa:zdi) (aX a7:PG.Prog) (l:List jw) (us:List V):vs=[v1,v2,.ref pa]->Rep K H (gC aX) v1->Rep K H (gC a7) v2->fO aX->fO a7->cw aX<=20000->cw a7<=20000->jJ K H pa us->gN K H l us->(∀p∈l,BS aX a7 p)->l.length<=4000000->(∀H',ao H H'->Q (.bl (pW aX a7 l)) H')->HN vs H Q E
end
theorem lL(h0:s.1≠0)(h:mJ pr.body s.1=true):(vO pr s).length=10:=by
 unfold vO;rw[ybq h0,ybr h,zab,zbJ]
theorem Mq{K:zaa}(h:BB K H l us){i:Nat}(e:us[i]?=some v):∃s a,l[i]?=some s/\v=.ref a/\bR K H a s.1 s.2:=by obtain⟨p,h1,a,h2,h3⟩:=kE h e;exact⟨p,a,h1,h2,h3⟩
theorem Ee{Z L:Type}{R:Z->L->Prop}:∀{as:List Z}{bs:List L},as.length=bs.length->(∀(i:Nat) a b,as[i]?=some a->bs[i]?=some b->R a b)->yau R as bs
 |[],[],_,_=>.nil
 |a::as,b::bs,l,h=>.cons (h 0 a b rfl rfl) (Ee (by simpa using l) fun i x y e1 e2=>h (i+1) x y e1 e2)
 |[],b::bs,l,_=>by simp at l
 |a::as,[],l,_=>by simp at l
def Gh (l:List jw):List ((eV×eV)×V):=pV [] (l.map fun p=>(kF p,V.bl true))
section
variable{Y:Type}[DecidableEq Y]
theorem BV:∀(m kvs:List (Y×V))(k:Y),(bZ (pV kvs m) k).isSome=((m.any fun kv=>decide (kv.1=k)) ||(bZ kvs k).isSome)
 |[],kvs,k=>rfl
 |x::m,kvs,k=>by
  show (bZ (pV (putK kvs x.1 x.2) m) k).isSome=_;rw[BV m,QX,zb2];cases (m.any fun kv=>decide (kv.1=k))<;>cases decide (x.1=k)<;>rfl
theorem Q1{kv:Y×V}(h:kv∈putK kvs k v):kv.1=k\/∃z∈kvs,z.1=kv.1:=by
 unfold putK at h;split at h
 .obtain⟨z,hz,rfl⟩:=zar.mp h;refine .inr ⟨z,hz,?_⟩;show z.1=(if z.1=k then (z.1,v) else z).1;split<;>rfl
 .rcases zak.mp h with h |h
  .exact .inr ⟨kv,h,rfl⟩
  .cases zai.mp h;exact .inl rfl
theorem BW:∀(m kvs:List (Y×V))(kv:Y×V),kv∈pV kvs m->(∃z∈m,z.1=kv.1)\/∃z∈kvs,z.1=kv.1
 |[],kvs,kv,h=>.inr ⟨kv,h,rfl⟩
 |x::m,kvs,kv,h=>by
  rcases BW m (putK kvs x.1 x.2) kv h with ⟨z,hz,e⟩ |⟨z,hz,e⟩
  .exact .inl ⟨z,zao _ hz,e⟩
  .rcases Q1 hz with e2 |⟨y,hy,e2⟩
   .exact .inl ⟨x,zaw ..,e2.symm.trans e⟩
   .exact .inr ⟨y,hy,e2.trans e⟩
end
theorem BX(l:List jw)(p:jw):(bZ (Gh l) (kF p)).isSome=decide (p∈l):=by
 rw[Gh,BV];by_cases h:p∈l
 .rw[ybs h,zcM.mpr ⟨_,zar.mpr ⟨p,h,rfl⟩,by simp⟩];rfl
 .rw[ybt h,List.any_eq_false.mpr fun x hx=>?_]
  .rfl
  .obtain⟨y,hy,rfl⟩:=zar.mp hx;simp only[decide_eq_true_eq];exact fun e=>h (yi e▸hy)
theorem HP(h:kv∈Gh l):∃p∈l,kv.1=kF p:=by
 rcases BW _ _ _ h with ⟨z,hz,e⟩ |⟨z,hz,e⟩
 .obtain⟨p,hp,rfl⟩:=zar.mp hz;exact⟨p,hp,e.symm⟩
 .cases hz
theorem TR(h:p∈l):∃kv∈Gh l,kv.1=kF p:=by
 have e:=BX l p;rw[ybs h,zcf] at e;obtain⟨v,hv⟩:=e;exact⟨_,HJ hv,rfl⟩
theorem TU(l:List jw):(Gh l).length<=l.length:=by
 have:=wW (l.map fun p=>(kF p,V.bl true)) [];rw[zab,zaF,zdd] at this;exact this
def Km (aX a7:PG.Prog)(l:List jw)(p:jw):Bool:=AR aX a7 p&&(wZ aX a7 p).all fun b=>decide (b∈l)
theorem Az(h:p∈l)(g:Km aX a7 l p=false):pW aX a7 l=false:=by
 unfold pW;have:(l.all fun p=>Km aX a7 l p)=false:=by
  rw[List.all_eq_false];exact⟨p,h,by rw[g];exact zag⟩
 show (_&&l.all fun p=>Km aX a7 l p)=false;rw[this,zc3]
theorem BY(h0:(qz aX,qz a7)∈l)(h:∀kv∈Gh l,∀p,kv.1=kF p->Km aX a7 l p=true):pW aX a7 l=true:=by
 unfold pW;show (_&&l.all fun p=>Km aX a7 l p)=true;rw[ybs h0,zcp,zbY];intro p hp;obtain⟨kv,hk,e⟩:=TR hp;exact h kv hk p e
section
variable(P:zdu)(w:zdk)(K:zaa)
inductive Q2(vs:List V)(H:Hp)(Q:VK)(E:XK):Prop
 |mk (md sa:zdi) (fv:V) (f:Int) (pr:PG.Prog) (s:gw):vs=[.ref md,.ref sa,fv]->zV K H md pr->fO pr->bR K H sa s.1 s.2->eW pr s->s.1≠0->((mJ pr.body s.1=false/\f=0)\/(mJ pr.body s.1=true/\fv=.int f))->(∀l sv H',ao H H'->H' l=some (.lst [sv,Qc (gg pr s.1 s.2 f).2])->xX K H' (gg pr s.1 s.2 f).1 sv->Q (.ref l) H')->Q2 vs H Q E
def hdV (K:zaa)(H:Hp)(o:Option Hd)(v:V):Prop:=match o with
 |none=>v=.cH
 |some h=>Rep K H (BR h) v
inductive Ef(vs:List V)(H:Hp)(Q:VK)(E:XK):Prop
 |mk (m1 m2 pa:zdi) (aX a7:PG.Prog) (p:jw):vs=[.ref m1,.ref m2,.ref pa]->zV K H m1 aX->zV K H m2 a7->fO aX->fO a7->mM K H pa p->BS aX a7 p->cw aX<=20000->cw a7<=20000->(∀l sv lb us H',ao H H'->H' l=some (.lst [sv,.ref lb])->hdV K H' (if AR aX a7 p=true then some (A9 (jv aX p.1)) else none) sv->H' lb=some (.lst us)->gN K H' (wZ aX a7 p) us->Q (.ref l) H')->Ef vs H Q E
inductive HQ(vs:List V)(H:Hp)(Q:VK)(E:XK):Prop
 |mk (m1 m2 pa:zdi) (aX a7:PG.Prog) (l:List jw) (us:List V):vs=[.ref m1,.ref m2,.ref pa]->zV K H m1 aX->zV K H m2 a7->fO aX->fO a7->cw aX<=20000->cw a7<=20000->jJ K H pa us->gN K H l us->(∀p∈l,BS aX a7 p)->l.length<=4000000->(∀H',ao H H'->Q (.bl (pW aX a7 l)) H')->HQ vs H Q E
inductive HR(vs:List V)(H:Hp)(Q:VK)(E:XK):Prop
 |mk (m1 m2:zdi) (aX a7:PG.Prog):vs=[.ref m1,.ref m2]->zV K H m1 aX->zV K H m2 a7->fO aX->fO a7->cw aX<=1088->cw a7<=1088->(∀r L dv l us H',ao H H'->H L=none->H' r=some (.lst [.ref L,dv])->H' L=some (.lst us)->gN K H' l us->(∀p∈l,BS aX a7 p)->l≠[]->l.length<=1200000->Q (.ref r) H')->HR vs H Q E
end
theorem bX(e:upd H p o=H')(hn:H p=none):ao H H'/\H' p=some o:=by
 subst e;exact⟨.new hn o,ah⟩
theorem Kn(e:upd H p o=H'):aN (·=p) H H'/\H' p=some o/\∀{q},q≠p->H' q=H q:=by
 subst e;exact⟨aN.refl.put (O:=(·=p)) rfl _,ah,fun n=>aI n⟩
section
variable{Z:Type}{a b c:Z}{l:List Z}
theorem fP:CF (a::l) 0=some a:=aF (j:=0) rfl
theorem jV:CF (a::b::l) 1=some b:=aF (j:=1) rfl
theorem at2:CF (a::b::c::l) 2=some c:=aF (j:=2) rfl
end
section
variable{X:Cx}{x:Str}{e:Expr}{te:TE}{p pos pos':Pos}{k:Int}{j:Nat}
theorem iT(i:Nat)(hN:X.N[i]?=some x:=by rfl)(hv:Ut X.env.scope x:=by first |exact zbe rfl |exact zbi (zbe rfl) |exact zbi (zbi rfl))(hd:(x==("__debug__":Str))=false:=by decide)(Cu:(x==("__classdict__":Str))=false:=by decide):PE X (.Subscript (.Name x p) (.Constant (.int k) j pos) pos') (SU (M6 X.K) (iu i) (tC (.int k))):=bL gA (pv i hN hv hd Cu) aw bI
theorem iL(i:Nat)(hN:X.N[i]?=some x:=by rfl)(hv:Ut X.env.scope x:=by first |exact zbe rfl |exact zbi (zbe rfl) |exact zbi (zbi rfl))(hd:(x==("__debug__":Str))=false:=by decide)(Cu:(x==("__classdict__":Str))=false:=by decide):PE X (.Subscript (.Name x p) (.Constant (.int k) j pos) pos') (SU (M5 X.K) (iu i) (tC (.int k))):=bL bU (pv i hN hv hd Cu) aw bI
theorem iK{K:zaa}(i:Nat)(hK:X.K=K:=by rfl)(hN:X.N[i]?=some x:=by rfl)(hv:Ut X.env.scope x:=by first |exact zbe rfl |exact zbi (zbe rfl) |exact zbi (zbi rfl))(hd:(x==("__debug__":Str))=false:=by decide)(Cu:(x==("__classdict__":Str))=false:=by decide):PE X (.Subscript (.Name x p) (.Constant (.int k) j pos) pos') (SU (M6 K) (iu i) (tC (.int k))):=bL (EN hK) (pv i hN hv hd Cu) aw bI
theorem lM(hi:PI X (.Name x p) iter wi)(he:∀C s₀ H₀ ex,PE (lF X scope [x] [] C s₀ H₀ ex) elt te)(v8:X.calm=true:=by rfl)(hf:kN scope X.env.scope=true:=by rfl)(hc:xT scope X.env.scope X.N []=true:=by rfl)
 (hl:∀C s₀ H₀ ex,(lF X scope [x] [] C s₀ H₀ ex).env.scope.names.lookup x=some .local:=by intro _ _ _ _;rfl) (hs:∀s,foldedSetIterable iter X.env s=pure s:=by intro _;rfl):PE X (.ListComp elt [⟨.Name x p,iter,[],0⟩] scope pos) (cJ wi [x].length [] (cF 0) me te):=
 jN v8 hf hc hi (fun _ _ _ _=>kM (i:=0) (zbr.mpr ⟨za5,zbf⟩) rfl (.inl (hl _ _ _ _)) (.inr (hl _ _ _ _))) (fun _ _ _ _=>ei) he hs
end
section
variable{P:zdu}{w:zdk}{K:zaa}{mg:Str->Option zdj}{base:yaf}
theorem Lq.okN{st:Stmt}(F:Lq K x qual st f fd)(S:aQ N ps (aD st))
 (Bj:∀(fA:zdj) (A:zdt) (outer:List Env) (s:zds) (H:Hp) (vs:List V) (Q:VK) (E:XK),jL k (A.deeper (envOfC qual (aD st) s.heap.objs.size f fA))->sp vs H Q E->
  ∃t G,Jo (Bi dF P w K mg base N qual (aD st) f fA A outer s H E).XG (gS st) t/\L2.start N vs=G/\t {nx:=fun _ H'=>Q .cH H',rt:=Q} G H)
 (len:∀vs H Q E,sp vs H Q E->vs.length=ps.length:=by
  intro _ _ _ _ h
  first
  |(obtain⟨_,rfl,_⟩:=h;rfl) |(obtain⟨_,_,rfl,_⟩:=h;rfl) |(obtain⟨_,_,_,rfl,_⟩:=h;rfl) |(obtain⟨_,_,_,_,rfl,_⟩:=h;rfl) |(obtain⟨_,_,_,_,_,rfl,_⟩:=h;rfl) |(obtain⟨_,_,_,_,_,_,rfl,_⟩:=h;rfl)
  |(obtain⟨_,_,_,_,_,_,_,rfl,_⟩:=h;rfl) |(obtain⟨_,_,_,_,_,_,_,_,rfl,_⟩:=h;rfl) |(obtain⟨_,_,_,_,_,_,_,_,_,rfl,_⟩:=h;rfl) |(obtain⟨_,_,_,_,_,_,_,_,_,_,rfl,_⟩:=h;rfl) |(obtain⟨_,_,_,_,_,_,_,_,_,_,_,rfl,_⟩:=h;rfl)):bq P w K mg base dF (k+1) f fd ps sp:=F.Wl S len Bj
end
theorem Q3(G:St->Prop)(xs:List V)(p:Nat->Bool)
 (go:∀i H2,ao H H2->i<xs.length->J.go i H2) (stop:∀H2,ao H H2->J.stop xs.length H2) (Gd:∀i H2 x H3,ao H H2->i<xs.length->J.Gd i H2 x H3->H3=H2/\xs[i]?=some x)
 (hl:xs.length<=16000000) (hD:H D=none) (g0:G τ0)
 (step:∀i x τ H2,xs[i]?=some x->G τ->ao H H2->∀R:St->Bool->Hp->Prop,(∀τ' H3,G τ'->ao H2 H3->(∃v,∀R':VK,R' v H3->te τ' H3 R')->R τ' (p i) H3)->g x τ H2 fun τ' H'=>tc τ' H' (R τ'))
 (q:∀ys H2,ao H H2->H2 D=some (.lst ys)->ys.length=((zaS xs.length).filter p).length->Q (.ref D) H2):jf J D g tc te Q τ0 (upd H D (.lst [])):=by
 refine⟨fun i m τ H2=>m=xs.length-i/\i<=xs.length/\G τ/\ao H H2/\∃ys,H2 D=some (.lst ys)/\ys.length=((zaS i).filter p).length,⟨xs.length,by simp,zaG _,g0,ao.new hD _,[],ah,rfl⟩,?_⟩
 rintro i m τ H2 ⟨rfl,hi,gt,s2,ys,h2,ly⟩
 by_cases sY:i<xs.length
 .refine .inr ⟨go i H2 s2 sY,fun τ' H'=>G τ'/\ao H H'/\∃ys,H' D=some (.lst ys)/\ys.length=((zaS (i+1)).filter p).length,fun τ' H' ⟨h1,h3,h4⟩=>⟨xs.length-(i+1),by lia,rfl,sY,h1,h3,h4⟩,fun y H' hy=>?_⟩;obtain⟨rfl,ey⟩:=Gd i H2 y H' s2 sY hy;refine step i y τ _ ey gt s2 (fun τ' b H3=>_) fun τ' H3 gt' s3 zqz=>?_;obtain⟨v,hv⟩:=zqz;have lf:((zaS i).filter p).length<=i:=by
   have:=List.length_filter_le p (zaS i)
   rwa [zbJ] at this
  cases hp:p i with
  |false=>
   rw[ybq (by decide)];refine⟨gt',s2.trans s3,ys,s3 _ _ h2,?_⟩;rw[zb5,List.filter_append,zae,ly];simp[hp]
  |true=>
   rw[ybr rfl];refine hv _ ⟨ys,s3 _ _ h2,?_,gt',?_,ys++[v],ah,?_⟩
   .have:zdq=2 ^ 24:=rfl;lia
   .intro b o e;rw[aI (aj e hD)];exact s3 _ _ (s2 _ _ e)
   .rw[zb5,List.filter_append,zae,zae,ly];simp[hp]
 .have e:i=xs.length:=by lia
  subst e;exact .inl ⟨stop H2 s2,q ys H2 s2 h2 ly⟩
theorem Eg{its:Array zdj}(r:Vals xs its.toList):∀is:List Nat,Vals (is.filterMap (xs[·]?)) (is.filterMap (its[·]?))
 |[]=>.nil
 |i::is=>by
  rw[zb1,zb1];have ih:=Eg r is;cases e:xs[i]? with
  |none=>
   have:its[i]?=none:=by
    rw[<- zaV,zcJ,<- r.length];exact zcJ.mp e
   rw[this];exact ih
  |some v=>
   obtain⟨u,eu,ru⟩:=r.get e;rw[show its[i]?=some u by rw[<- zaV];exact eu];exact .cons ru ih
def ZL (K:zaa)(te:TE)(ts:TO):TE:=fun G H Q=>te G H fun x H1=>ts G H1 fun o H2=>∃a xs n,x=.ref a/\o=some n/\n≠0/\jJ K H2 a xs/\∀(is:List Nat) p,H2 p=none->(is.filterMap (xs[·]?)).length<=xs.length->Q (.ref p) (upd H2 p (.lst (is.filterMap (xs[·]?))))
theorem WS{e st:Expr}(he:PE X e te)(xD:PO X (some st) ts):PE X (.Subscript e (.Slice none none (some st) p2) pos) (ZL X.K te ts):=by
 intro pins s G H Q I h;refine Subscript_ (ib (he pins s G H _ I h) fun v s1 zqz=>?_);obtain⟨x,H1,I1,r1,q1⟩:=zqz;refine wpAny_Slice ?_;rw[evalPart_none];refine zdm (zdm (ib (xD pins s1 G H1 _ I1 q1) fun vs s2 zqz=>?_));obtain⟨o,H2,I2,ps,q2⟩:=zqz;obtain⟨a,xs,n,rfl,rfl,h0,hx,q⟩:=q2;cases r1;have I4:Inv X pins G H2 {s2 with heap:=s2.heap.push {cls:=.type "slice",data:=.fields #[.none,.none,vs]} }:=I2.kept (t':=s2.toks) fun b ob q=>yac _ q;obtain⟨its,rv,pl,hz⟩:=I4.list hx;have hlen:its.toArray.size=xs.length:=by rw[zat];exact rv.length.symm
 refine tail_any (ops:=[.ref a,.ref s2.heap.objs.size]) pl.isList.typeIs list_getitem_lookup ?_ (by with_unfolding_all rfl);refine wpAny_getItem_list_slice (lo:=none) (hi:=none) (st:=some n) pl.isList (Heap.IsSliceOf.new ..) .none .none ps (fun z=>h0 (za1.inj z)) ?_ (by rw[hlen];exact hz);have sz:=slicePick_size_le its.toArray none none (some n);unfold slicePick at sz |-;generalize sliceRange (sliceBounds none none (some n) its.toArray.size).1 (sliceBounds none none (some n) its.toArray.size).2.1 (sliceBounds none none (some n) its.toArray.size).2.2=is at *;have vv:=Eg (its:=its.toArray) rv is;rw[zat] at sz;have lv:=vv.length;refine⟨.ref _,_,I4.laid (t':=s2.toks) (o:=.lst (is.filterMap (xs[·]?))) (fun b ob q=>yac _ q) (zah _) ?_,rfl,q is _ (I4.dW.fresh (zah _)) (by lia)⟩;exact⟨by lia,_,0,vv,yae _ rfl⟩
theorem NF{K:zaa}{r:St}(Pv:Nat->List V->Hp->Prop)(hl:xs.length<=16000000)(hS:∀i ys H2,Pv i ys H2->jJ K H2 a xs)(hD:∀i ys H2,Pv i ys H2->H2 D=some (.lst ys)/\ys.length=i)(h0:Pv 0 [] (upd H D (.lst [])))
 (step:∀i x ys H2,xs[i]?=some x->Pv i ys H2->∀R:VK,(∀v H3,H3 D=some (.lst ys)->Pv (i+1) (ys++[v]) (upd H3 D (.lst (ys++[v])))->R v H3)->te (some x::r) H2 R)
 (q:∀ys H2,Pv xs.length ys H2->Q (.ref D) H2):jf (AZ K a) D (cF 0) me te Q (none::r) (upd H D (.lst [])):=by
 refine⟨fun i m τ H2=>m=xs.length-i/\i<=xs.length/\(∃x,τ=x::r)/\∃ys,Pv i ys H2,⟨xs.length,by simp,zaG _,⟨none,rfl⟩,[],h0⟩,?_⟩
 rintro i m τ H2 ⟨rfl,hi,⟨x,rfl⟩,ys,p2⟩
 have s2:=hS i ys H2 p2;by_cases sY:i<xs.length
 .refine .inr ⟨⟨xs,xs[i],s2,by simp[sY]⟩,fun τ' H'=>(∃x,τ'=x::r)/\∃ys,Pv (i+1) ys H',fun τ' H' ⟨h1,h4⟩=>⟨xs.length-(i+1),by lia,rfl,sY,h1,h4⟩,fun y H' hy=>?_⟩;obtain⟨rfl,hy⟩:=hy;have ey:=hy _ s2;simp only[cF,zba,me];rw[ybr trivial];have ly:=(hD i ys _ p2).2;refine step i y ys _ ey p2 _ fun v H3 h3 p3=>⟨ys,h3,?_,⟨_,rfl⟩,ys++[v],p3⟩
  have:zdq=2 ^ 24:=rfl;lia
 .have e:i=xs.length:=by lia
  subst e;exact .inl ⟨⟨xs,s2,zah _⟩,q ys H2 p2⟩
theorem zX{r:St}(Pv:Nat->List V->Hp->Prop)(hl:n<=16000000)(hD:∀i ys H2,Pv i ys H2->H2 D=some (.lst ys)/\ys.length=i)(h0:Pv 0 [] (upd H D (.lst [])))
 (step:∀(i:Nat) ys H2,i<n->Pv i ys H2->∀R:VK,(∀v H3,H3 D=some (.lst ys)->Pv (i+1) (ys++[v]) (upd H3 D (.lst (ys++[v])))->R v H3)->te (some (.int i)::r) H2 R)
 (q:∀ys H2,Pv n ys H2->Q (.ref D) H2):jf (Ox 0 n) D (cF 0) me te Q (none::r) (upd H D (.lst [])):=by
 refine⟨fun i m τ H2=>m=n-i/\i<=n/\(∃x,τ=x::r)/\∃ys,Pv i ys H2,⟨n,by simp,zaG _,⟨none,rfl⟩,[],h0⟩,?_⟩
 rintro i m τ H2 ⟨rfl,hi,⟨x,rfl⟩,ys,p2⟩
 by_cases sY:i<n
 .refine .inr ⟨by show i<n;exact sY,fun τ' H'=>(∃x,τ'=x::r)/\∃ys,Pv (i+1) ys H',fun τ' H' ⟨h1,h4⟩=>⟨n-(i+1),by lia,rfl,sY,h1,h4⟩,fun y H' hy=>?_⟩;obtain⟨rfl,rfl⟩:=hy;simp only[cF,zba,me];rw[ybr trivial];have ly:=(hD i ys _ p2).2;rw[show (0:Int)+(i:Int)=i by lia];refine step i ys _ sY p2 _ fun v H3 h3 p3=>⟨ys,h3,?_,⟨_,rfl⟩,ys++[v],p3⟩
  have:zdq=2 ^ 24:=rfl;lia
 .have e:i=n:=by lia
  subst e;exact .inl ⟨zah i,q ys H2 p2⟩
theorem Q4{K:zaa}(h:X.K=K):vL X (binaryOp .Add) (UN K):=h▸xY
theorem HS{s:gw}(h:mJ pr.body s.1=true)(f:Int):∃y,(gg pr s.1 s.2 f).1=some y:=by
 unfold mJ at h;unfold gg;generalize JY pr.body s.1=st at *;cases st<;>first |exact⟨_,rfl⟩ |cases (ybu h)
theorem Q5(h0:s.1≠0)(h:mJ pr.body s.1=true)(hi:i<10){y:gw}(e:(gg pr s.1 s.2 (i:Nat)).1=some y):(vO pr s)[i]?=some y:=by
 unfold vO;rw[ybq h0,ybr h,zaf,List.getElem?_range hi];show some ((gg pr s.1 s.2 (i:Nat)).1.getD s)=_;rw[e];rfl
theorem Q6(l:List jw)(p:jw):putK (Gh l) (kF p) (.bl true)=Gh (l++[p]):=by
 unfold Gh pV;rw[zas,List.foldl_append];rfl
theorem yk{K:zaa}(m:zV K H md pr):∃F N Z fa:zdi,H md=some (.lst [.ref F,.ref N,.ref Z,.ref fa])/\bR K H fa (qz pr).1 (qz pr).2:=by obtain⟨F,N,Z,fa,_,h1,_,_,_,_,_,h7⟩:=m.at_;exact⟨F,N,Z,fa,h1,h7⟩
theorem filter_none{l:List jw}{m:List jw}:((zaS m.length).filter fun i=>!decide (m.getD i ((0,[]),(0,[]))∈l)).length=0↔(m.all fun b=>decide (b∈l))=true:=by
 rw[zbw,List.filter_eq_nil_iff,zbY]
 constructor
 .intro h x hx;obtain⟨i,hi,rfl⟩:=zbj.mp hx;have:=h i (zbN.mpr hi);rw[zap,zac hi] at this;simpa using this
 .intro h i hi;have hi:=zbN.mp hi;have:=h m[i] (zam hi);rw[zap,zac hi];simpa using this
theorem Mr(aX a7:PG.Prog)(p:jw):(wZ aX a7 p).length<=10:=by
 unfold wZ;split
 .exact zaG _
 .split
  .simp
  .rw[zbs];refine zaz (Nat.min_le_left _ _) ?_;rename_i a _ _ _;unfold vO;split
   .simp
   .split
    .simp
    .cases (gg aX a.1 a.2 0).1<;>simp
  .exact zaG _
def sU (l:List jw):List ((eV×eV)×V):=l.map fun p=>(kF p,V.bl true)
theorem HU(l:List jw)(p:jw):(bZ (sU l) (kF p)).isSome=decide (p∈l):=by
 induction l with
 |nil=>rfl
 |cons a r ih=>
  rw[sU,zaq];by_cases e:a=p
  .rw[cX (by rw[e]),e];simp
  .rw[cI (fun z=>e (yi z))];refine(show _=_ from ih).trans ?_;simp[Ne.symm e]
theorem NG(h:p ∉ l):putK (sU l) (kF p) (.bl true)=sU (l++[p]):=by
 unfold putK;rw[jM,HU,ybt h,ybq zag];simp[sU]
theorem HV{Z L:Type}(ys:List L):∀xs:List Z,(xs.flatMap fun a=>ys.map fun b=>(a,b)).length=xs.length*ys.length
 |[]=>by simp
 |x::xs=>by rw[zbI,zae,zab,HV ys xs,zal,zde,Nat.add_comm]
theorem NH{l:List jw}(nd:l.Nodup)(h:∀p∈l,BS aX a7 p):l.length<=cw aX*cw a7:=by
 have:=zL l ((PG.univ (DT aX) (jT aX)).flatMap fun a=>(PG.univ (DT a7) (jT a7)).map fun b=>(a,b)) nd fun p hp=>zcO.mpr ⟨p.1,(h p hp).one.mem,zar.mpr ⟨p.2,(h p hp).two.mem,rfl⟩⟩;rw[HV] at this;exact this
def wc (K:zaa)(aX a7:PG.Prog)(H:Hp)(n:Nat)(us:List V):Prop:=∀v∈us,∃(a fa pa:zdi) (ns:List Int) (p:jw),v=.ref a/\bG K H a [.ref fa,.ref pa]/\bG K H fa (ns.map V.int)/\ns.length<=n/\mM K H pa p/\BS aX a7 p
theorem wc.lZ{K:zaa}(h:wc K aX a7 H n us)(l:n<=m)(t:∀b ys,bG K H b ys->bG K H' b ys):wc K aX a7 H' m us:=fun v hv=>by obtain⟨a,fa,pa,ns,p,e,h1,h2,h3,h4,h5⟩:=h v hv;exact⟨a,fa,pa,ns,p,e,t _ _ h1,t _ _ h2,zaz h3 l,h4.lZ t,h5⟩
def ZM (K:zaa)(aX a7:PG.Prog)(H:Hp)(v:V):Prop:=v=.cH\/∃pa p,v=.ref pa/\mM K H pa p/\BS aX a7 p
end L2
namespace PG
theorem TV(hm:0<=most)(nb:(bs.map (·.name)).Nodup)(lb:bs.length<=3)(b:∀b∈bs,2<=b.size/\b.size<=4/\0<=b.first/\b.first<b.size)(g0:fB d0)(el:d0.left=most)(er:d0.row=bs.length)
 (k1:gW (lI (xF bs) 3) d0=(xa,d4)) (k2:gW (lI (xF bs) 3) d4=(xb,d5)) (k3:gW (lI (xF bs) 3) d5=(xc,d6)):tf most ⟨bs,xa++xb++xc⟩:=by
 have x:=lJ (rg bs 3) d0 (by rw[el];exact hm) g0;rw[k1] at x;have y:=lJ (rg bs 3) d4 x.l.nn (by unfold fB;rw[x.l.gap];exact g0);rw[k2] at y;have z:=lJ (rg bs 3) d5 y.l.nn (by unfold fB;rw[y.l.gap,x.l.gap];exact g0);rw[k3] at z;have l:=(x.l.app y.l).app z.l;rw[<- n9,<- n9] at l;have dx:=x.dep;have dy:=y.dep;have dz:=z.dep;refine⟨l.pw,fun s hs=>?_,?_,?_,E4 _ _ (E4 _ _ x.own y.own) z.own,nb,lb,b⟩
 .have:=(l.rows s hs).1;rw[er] at this;lia
 .have:=l.cnt;have:=l.nn;rw[el] at *;simp only;lia
 .show dg (xa++xb++xc)<=3;rw[Bp,Bp];simp only at dx dy dz;lia
end PG
namespace L2
open PG
open PySem PySem.Spec PyProof.Rows
section
variable(K:zaa)
inductive HW(vs:List V)(H:Hp)(Q:VK)(E:XK):Prop
 |mk (D C G:zdi) (d:Dk) (most:Int):vs=[.ref D,.int most]->eX H D C G d->0<=most->d.pos<=2 ^ 48->(∀pr d' v H',tf most pr->d'.pos<=d.pos+300000->eL D C H H'->eX H' D C G d'->Own K H H' (gC pr) v->Q v H')->HW vs H Q E
end
def Q7 (te:TE):TE:=fun G H Q=>∃c xs,H c=some (.lst xs)/\∀o,te G (upd H c (kC c o)) fun v H'=>H' c=some (kC c o)/\Q v (upd H' c (.lst xs))
theorem Ba(he:PE X e te):PE X e (Q7 te):=by
 intro pins s G H Q I h;obtain⟨c,xs,hc,q⟩:=h;obtain⟨hl,its,n,hv,hg⟩:=(show cE X.prog X.w H s.heap c (.lst xs) from I.dW c _ hc)
 have I2:Inv X pins G (upd H c (kC c {cls:=.type "list",data:=.seq its.toArray n})) s:=vm (h':=s.heap) (t':=s.toks) I (by rw[hc];exact True.intro) ⟨rfl,fun _ _=>rfl⟩ ⟨_,hg⟩ (kC.ok hg);refine ib (he pins s G _ _ I2 (q _)) fun v s1 zqz=>?_;obtain⟨x,H1,I1,r1,hx,q1⟩:=zqz;obtain⟨XT, -⟩:=(show cE X.prog X.w H1 s1.heap c (kC c {cls:=.type "list",data:=.seq its.toArray n}) from I1.dW c _ hx)
 exact⟨x,_,vm (h':=s1.heap) (t':=s1.toks) I1 (by rw[hx];exact True.intro) ⟨rfl,fun _ _=>rfl⟩ ⟨_,XT⟩ (show cE X.prog X.w _ _ _ (.lst xs) from ⟨hl,its,n,hv,XT⟩),r1,q1⟩
theorem zV.ext{K:zaa}(m:zV K H md pr)(hb:H b=some (.ext φ))(u:a9 b H H'):zV K H' md pr:=by
 obtain⟨F,N,Z,fa,ps,h1,h2,h3,h4,h5,h6,h7⟩:=m.at_;have k:∀{c:zdi} {o:HO},H c=some o->(∀M,o≠.ext M)->H' c=some o:=fun {c o} e n=>u _ _ (b5 e hb (fun z=>n _ z)) e;refine⟨⟨F,N,Z,fa,ps,k h1 (by intro _ z;cases z),h2,k h3 (by intro _ z;cases z),fun i s f e1 e2=>?_,k h5 (by intro _ z;cases z),k h6 (by intro _ z;cases z),h7.ext hb u⟩⟩;obtain⟨p,v,wl,g1,g2,g3,g4⟩:=h4 i s f e1 e2;exact⟨p,v,wl,g1,g2.sZ hb u,mL hb u _ _ g3,k g4 (by intro _ z;cases z)⟩
noncomputable def adx (D C:zdi)(H:Hp):Hp:=fun b=>if b=D\/b=C then some (.ext fun _=>True) else H b
theorem zV.ext2{K:zaa}(m:zV K H md pr)(hD:H D=some (.ext φ))(hC:H C=some (.ext M))(u:w4 D C H H'):zV K H' md pr:=by
 have m1:=m.ext (H':=fun b=>if b=D then H' D else H b) hD fun b o n e=>by
  show (if b=D then _ else _)=_;rw[ybq n];exact e
 by_cases hDC:C=D
 .subst hDC;refine m.ext hC fun b o n e=>u b o n n e
 .refine m1.ext (b:=C) (φ:=M) ?_ fun b o n e=>?_
  .show (if C=D then _ else _)=_;rw[ybq hDC];exact hC
  .by_cases z:b=D
   .subst z;have e:(if b=b then H' b else H b)=some o:=e;rw[ybr rfl] at e;exact e
   .have e:(if b=D then H' D else H b)=some o:=e;rw[ybq z] at e;exact u b o z n e
def Oc (K:zaa)(D C:zdi)(H:Hp)(md:zdi)(pr:PG.Prog):Prop:=zV K (adx D C H) md pr
theorem Oc.of{K:zaa}(m:zV K H md pr)(hD:H D=some (.ext φ))(hC:H C=some (.ext M))(u:w4 D C H H'):Oc K D C H' md pr:=m.ext2 hD hC fun b o n1 n2 e=>by
 show (if b=D\/b=C then _ else _)=_;rw[ybq fun z=>z.elim n1 n2];exact u b o n1 n2 e
theorem Oc.X4{K:zaa}(m:Oc K D C H md pr):zV K H md pr:=zV.ext2 (D:=D) (C:=C) m (ybr (.inl rfl)) (ybr (.inr rfl)) fun b o n1 n2 e=>by
 have e:(if b=D\/b=C then _ else _)=some o:=e;rw[ybq fun z=>z.elim n1 n2] at e;exact e
theorem Oc.chg{K:zaa}(m:Oc K D C H md pr)(c:eL D C H H'):Oc K D C H' md pr:=zV.mono m fun b o e=>by
 have e:(if b=D\/b=C then _ else _)=some o:=e;show (if b=D\/b=C then _ else _)=_;by_cases z:b=D\/b=C
 .rw[ybr z] at e |-;exact e
 .rw[ybq z] at e |-;exact c.u b o z e
section
variable(K:zaa)
inductive HX(vs:List V)(H:Hp)(Q:VK)(E:XK):Prop
 |mk (D C G:zdi) (v:V) (d:Dk) (pr:PG.Prog):vs=[.ref D,v]->eX H D C G d->d.pos<=2 ^ 47->Fix K (O2 D C) H (gC pr) v->tf 8 pr->(∀pr' d' v' H',tf 8 pr'->d'.pos<=d.pos+400000->eL D C H H'->eX H' D C G d'->Fix K (O2 D C) H' (gC pr') v'->Q v' H')->HX vs H Q E
inductive Q8(vs:List V)(H:Hp)(Q:VK)(E:XK):Prop
 |mk (D C G md:zdi) (d:Dk) (pr:PG.Prog):vs=[.ref D,.ref md]->eX H D C G d->d.pos<=2 ^ 49->Oc K D C H md pr->tf 8 pr->(∀s a d' H',eW pr s->d'.pos<=d.pos+5->eL D C H H'->eX H' D C G d'->bR K H' a s.1 s.2->Q (.ref a) H')->Q8 vs H Q E
inductive HY(vs:List V)(H:Hp)(Q:VK)(E:XK):Prop
 |mk (D C G m1 m2 pa:zdi) (d:Dk) (aX a7:PG.Prog) (l:List jw) (us:List V):vs=[.ref D,.ref m1,.ref m2,.ref pa]->eX H D C G d->d.pos<=2 ^ 48->Oc K D C H m1 aX->Oc K D C H m2 a7->tf 8 aX->tf 8 a7->H pa=some (.lst us)->pa≠D->pa≠C->gN K H l us->(∀p∈l,BS aX a7 p)->l≠[]->l.length<=1200000->(∀p' l' BZ d' H',d'.pos<=d.pos+20->eL D C H H'->eX H' D C G d'->H p'=none->H' p'=some (.lst BZ)->gN K H' l' BZ->(∀p∈l',BS aX a7 p)->l'.length<=1200001->Q (.ref p') H')->HY vs H Q E
end
theorem Q9:∀t:PM.Tr,fN bs t->HE t
 |.num n,h=>⟨h.1,by have:=h.2;lia⟩
 |.box x,h=>trivial
 |.bin o l r,h=>⟨h.1,Q9 l h.2.1,Q9 r h.2.2⟩
theorem ady(h:tf 16 pr):PrC pr:=by
 refine⟨h.pw,h.dep,by rw[<- gD];have:=h.om;lia,zaz h.len (by decide),fun s hs=>?_⟩;have e:=iA _ _ h.own hs;have t:∀x:PM.Tr,fN pr.ar x/\dQ x<=2->HE x/\dQ x<=6:=fun x hx=>⟨Q9 x hx.1,zaz hx.2 (by decide)⟩
 cases s with
 |ask=>trivial
 |stop=>trivial
 |put k b x=>exact t x e.2
 |say k x=>exact t x e
 |bE k sg l r=>exact⟨e.1,t l e.2.1,t r e.2.2⟩
 |ifs k sg l r a b=>exact⟨e.1,t l e.2.1,t r e.2.2.1⟩
 |fM k sg l r a=>exact⟨e.1,t l e.2.1,t r e.2.2.1⟩
theorem HZ(h:tf m pr)(l:m<=n):tf n pr:=⟨h.pw,h.pos,zcP h.om l,h.dep,h.own,h.nb,h.len,h.size⟩
theorem TX{K:zaa}(hO:∀g,O g->∃ys,H g=some (.lst ys))(hF:∀f∈F,¬O f)(h:QN K H pr v F):Fix K O H (gC pr) v:=fun H' u=>by
 obtain⟨p,B,b,HG,Fb,rfl,h1,h2,h3,h4,rfl⟩:=QN.i9 hO u hF h;exact Rep.aJ.mpr ⟨p,_,rfl,h1,.cons (Rep.bD.mpr ⟨B,HG,rfl,.of h2,h3⟩) (.cons (qr.rep 4 _ _ _ h4) .nil)⟩
theorem Ko(h:tf 8 pr):fO pr:=ZF (HZ h (by decide))
theorem Ia(h:tf 8 pr):cw pr<=1088:=TJ (HZ h (by decide))
theorem Ib{Z:Type}{R:Z->V->List zdi->Prop}:∀{as:List Z}{us:List V}{Fs:List (List zdi)},bP R as us Fs->as.length=us.length/\∀(i:Nat) u,us[i]?=some u->∃a F,as[i]?=some a/\F∈Fs/\R a u F
 |[],us,Fs,h=>by obtain⟨rfl,rfl⟩:=bP.aO.mp h;exact⟨rfl,fun i u e=>by cases e⟩
 |p::ps,us,Fs,h=>by
  obtain⟨v,vs,F,Gs,rfl,rfl,h1,h2⟩:=bP.av.mp h;obtain⟨e,k⟩:=Ib h2;refine⟨by simp[e],fun i u eu=>?_⟩;cases i with
  |zero=>cases eu;exact⟨p,F,rfl,zaw ..,h1⟩
  |succ i=>obtain⟨a,G,x,y,z⟩:=k i u eu;exact⟨a,G,x,zao _ y,z⟩
end L2
namespace PG
open PM (W Tr)
theorem Ic{Z L:Type}{f:Z->List L}:∀{l:List Z},(∀x∈l,(f x).length<=c)->(l.flatMap f).length<=c*l.length
 |[],_=>by simp
 |a::r,h=>by
  rw[zbI,zae,zal,Nat.mul_succ];have:=h a (zaw ..);have:=Ic (l:=r) fun x hx=>h x (zao _ hx);lia
theorem TY(h:tf 16 pr):(Ki pr).length<=1000:=by
 have om:=h.om;have e:∀t:Tr,dQ t<=2->(ja t).length<=8/\(jj t).length<=3:=fun t ht=>by
  have a:=ou t;have b:=oy t;have:2 ^ dQ t<=2 ^ 2:=zaD (by decide) ht;lia
 have k:∀s∈au pr.body,(fE s).length<=30:=fun s hs=>by
  have o:=iA _ _ h.own hs;unfold fE;rw[zae,zab,zae];have l3:=HH s;cases s with
  |ask=>simp only[iE,zaF] at *;lia
  |stop=>simp only[iE,zaF] at *;lia
  |put k b x=>have:=e x o.2.2;simp only[iE,zab] at *;lia
  |say k x=>have:=e x o.2;simp only[iE,zab] at *;lia
  |bE k sg l r=>have:=e l o.2.1.2;have:=e r o.2.2.2;simp only[iE,zab,zae] at *;lia
  |ifs k sg l r a b=>have:=e l o.2.1.2;have:=e r o.2.2.1.2;simp only[iE,zab,zae] at *;lia
  |fM k sg l r a=>have:=e l o.2.1.2;have:=e r o.2.2.1.2;simp only[iE,zab,zae] at *;lia
 have:=Ic (c:=30) (l:=au pr.body) (f:=fun s=>(fE s).map fun o=>(⟨pr.ar,dS s.row o pr.body⟩:Prog)) fun x hx=>by rw[zab];exact k x hx
 unfold Ki;lia
end PG
namespace L2
open PG
open PySem PySem.Spec PyProof.Rows
def gU (K:zaa)(aX a7:PG.Prog)(H:Hp)(us:List V):Prop:=∀v∈us,∃a p,v=.ref a/\mM K H a p/\BS aX a7 p
theorem gU.lZ{K:zaa}(h:gU K aX a7 H us)(t:∀b ys,bG K H b ys->bG K H' b ys):gU K aX a7 H' us:=fun v hv=>by obtain⟨a,p,e,q,i⟩:=h v hv;exact⟨a,p,e,q.lZ t,i⟩
theorem gU.app{K:zaa}(h:gU K aX a7 H us)(h2:gU K aX a7 H vs):gU K aX a7 H (us++vs):=fun v hv=>(zak.mp hv).elim (h v) (h2 v)
theorem gU.sub{K:zaa}(h:gU K aX a7 H us)(s:∀v∈vs,v∈us):gU K aX a7 H vs:=fun v hv=>h v (s v hv)
theorem gU.one{K:zaa}(q:mM K H a p)(i:BS aX a7 p):gU K aX a7 H [.ref a]:=fun v hv=>by cases zai.mp hv;exact⟨a,p,rfl,q,i⟩
theorem gU.of{K:zaa}(h:gN K H l us)(i:∀p∈l,BS aX a7 p):gU K aX a7 H us:=fun v hv=>by
 obtain⟨j,hj⟩:=zcs.mp hv;obtain⟨p,a,ep,rfl,q⟩:=h.get hj;exact⟨a,p,rfl,q,i p (zaC ep)⟩
theorem gU.w5{K:zaa}:∀{us:List V},gU K aX a7 H us->∃l,gN K H l us/\(∀p∈l,BS aX a7 p)/\l.length=us.length
 |[],_=>⟨[],.nil,fun _ z=>(by cases z),rfl⟩
 |v::us,h=>by
  obtain⟨l,h1,h2,h3⟩:=gU.w5 (us:=us) fun x hx=>h x (zao _ hx);obtain⟨a,p,rfl,q,i⟩:=h v (zaw ..);refine⟨p::l,.cons ⟨a,rfl,q⟩ h1,fun x hx=>?_,by simp[h3]⟩;rcases zan.mp hx with rfl |hx
  .exact i
  .exact h2 x hx
theorem eX.tup{K:zaa}{H H':Hp}{D C G:zdi}{d:Dk}(dk:eX H D C G d)(c:eL D C H H'):∀a xs,bG K H a xs->bG K H' a xs:=fun a xs h=>iX (O:=O2 D C) (fun g hg=>by
 rcases hg with rfl |rfl
 .exact⟨_,dk.cY⟩
 .exact⟨_,dk.cs⟩) c.u h
theorem bR.lZ{K:zaa}(h:bR K H a row vals)(t:∀b ys,bG K H b ys->bG K H' b ys):bR K H' a row vals:=by obtain⟨va,h1,h2⟩:=h;exact⟨va,t _ _ h1,t _ _ h2⟩
theorem Ra:∀l:List jw,yan (Dp.zv (l.map HI))=true/\yao (Dp.zv (l.map HI))<=3
 |[]=>by simp[Dp.zv,yan,yao]
 |p::r=>by
  obtain⟨h1,h2⟩:=Ra r;obtain⟨a1,a2⟩:=Mj p.1;obtain⟨b1,b2⟩:=Mj p.2;have k:(HI p).py.canLay0=true/\(HI p).py.depth<=3:=by
   unfold HI;simp only[Dp.py,Dp.zv,ybb,yan,ybh,yao,a1,b1,zco,zcp,true_and];lia
  rw[zaq,Dp.zv,yan,yao,h1,k.1];refine⟨rfl,?_⟩;have:=k.2;lia
theorem Eh(l:List jw):ya8 (Dp.lst (l.map HI)).py=true:=by
 obtain⟨h1,h2⟩:=Ra l;unfold ya8;rw[Dp.py,ybb,h1,zcp,decide_eq_true_iff,ybh];lia
theorem Ms{K:zaa}:∀{l:List jw}{us:List V},gN K H l us->aC K H (l.map HI) us
 |[],_,h=>by cases h;exact .nil
 |p::r,_,h=>by
  cases h with
  |cons a b=>
   obtain⟨x,rfl,y,z,h1,h2,h3⟩:=a;exact .cons (Rep.aJ.mpr ⟨x,_,rfl,h1,.cons (show Rep K H (t9 p.1) _ from vp h2) (.cons (show Rep K H (t9 p.2) _ from vp h3) .nil)⟩) (Ms b)
def ym (K:zaa)(aX a7:PG.Prog)(H:Hp)(y:V):Prop:=∃p us,y=.ref p/\H p=some (.lst us)/\gU K aX a7 H us/\us.length<=1200001
theorem ym.mono{K:zaa}(h:ym K aX a7 H y)(s:ao H H'):ym K aX a7 H' y:=by obtain⟨p,us,e,y,g,l⟩:=h;exact⟨p,us,e,s _ _ y,g.lZ fun _ _ h=>s.aS h,l⟩
theorem ym.chg{K:zaa}(h:ym K aX a7 H y)(n:y≠.ref D/\y≠.ref C)(dk:eX H D C G d)(c:eL D C H H'):ym K aX a7 H' y:=by obtain⟨p,us,e,y,g,l⟩:=h;exact⟨p,us,e,c.get y (fun z=>n.1 (by rw[e,z])) (fun z=>n.2 (by rw[e,z])),g.lZ (dk.tup c),l⟩
end L2
section
set_option maxHeartbeats 4000000
namespace WT
open PG
open PySem L2
noncomputable def top (i:Nat):Stmt:=PySem.Challenge.pw_everyrow_k58_alike_papers.main.body.getD i (.Pass ⟨0,0,0,0⟩)
abbrev Kp:Stmt:=top 2
abbrev oz:Stmt:=top 3
abbrev uj:Stmt:=top 4
abbrev pX:Stmt:=top 5
abbrev zY:Stmt:=top 6
abbrev uk:Stmt:=top 7
abbrev mn:Stmt:=top 8
abbrev jx:Stmt:=top 9
abbrev pY:Stmt:=top 10
abbrev pZ:Stmt:=top 11
abbrev Fg:Stmt:=top 13
abbrev zZ:Stmt:=top 16
abbrev w6:Stmt:=top 17
abbrev w8:Stmt:=top 18
abbrev Fh:Stmt:=top 19
abbrev z0:Stmt:=top 22
abbrev jy:Stmt:=top 23
abbrev rA:Stmt:=top 24
abbrev qa:Stmt:=top 26
abbrev um:Stmt:=top 28
abbrev Aa:Stmt:=top 29
abbrev rC:Stmt:=top 30
abbrev uo:Stmt:=top 31
abbrev oA:Stmt:=top 32
abbrev Ab:Stmt:=top 37
abbrev uq:Stmt:=top 38
abbrev rD:Stmt:=top 39
abbrev fZ:Stmt:=top 40
abbrev ur:Stmt:=top 41
abbrev iI:Stmt:=top 42
abbrev kG:Stmt:=top 43
abbrev jz:Stmt:=top 44
abbrev uv:Stmt:=top 46
abbrev uz:Stmt:=top 47
abbrev oC:Stmt:=top 48
abbrev gX:Stmt:=top 49
abbrev jW:Stmt:=top 50
abbrev rE:Stmt:=top 51
abbrev uD:Stmt:=top 52
abbrev uG:Stmt:=top 53
abbrev rF:Stmt:=top 54
abbrev rG:Stmt:=top 55
abbrev uI:Stmt:=top 56
abbrev uJ:Stmt:=top 57
abbrev uK:Stmt:=top 58
abbrev qb:Stmt:=top 59
abbrev rH:Stmt:=top 60
abbrev rJ:Stmt:=top 61
abbrev rK:Stmt:=top 62
abbrev xf:Stmt:=top 63
abbrev qc:Stmt:=top 64
abbrev Rb:Stmt:=top 65
abbrev eA:Stmt:=inClass (top 15) 0
abbrev eB:Stmt:=inClass (top 27) 0
abbrev bM:Stmt:=inClass (top 27) 1
theorem Mt:aQ ["program"] ["program"] (aD Kp):=⟨rfl,rfl,rfl,by decide +kernel,rfl,by decide +kernel,by decide +kernel⟩
theorem sV:aQ ["body", "behind", "told", "place", "statement", "after", "inner"] ["body", "behind"] (aD oz):=⟨rfl,rfl,rfl,by decide +kernel,rfl,by decide +kernel,by decide +kernel⟩
theorem yn:aQ ["body", "behind"] ["body", "behind"] (aD uj):=⟨rfl,rfl,rfl,by decide +kernel,rfl,by decide +kernel,by decide +kernel⟩
theorem uM:aQ ["statement", "after"] ["statement", "after"] (aD pX):=⟨rfl,rfl,rfl,by decide +kernel,rfl,by decide +kernel,by decide +kernel⟩
theorem B0:aQ ["statement", "after", "word"] ["statement", "after"] (aD zY):=⟨rfl,rfl,rfl,by decide +kernel,rfl,by decide +kernel,by decide +kernel⟩
theorem yo:aQ ["statement"] ["statement"] (aD uk):=⟨rfl,rfl,rfl,by decide +kernel,rfl,by decide +kernel,by decide +kernel⟩
theorem qF:aQ ["body", "found", "statement", "inner"] ["body"] (aD mn):=⟨rfl,rfl,rfl,by decide +kernel,rfl,by decide +kernel,by decide +kernel⟩
theorem mv:aQ ["statement"] ["statement"] (aD jx):=⟨rfl,rfl,rfl,by decide +kernel,rfl,by decide +kernel,by decide +kernel⟩
theorem uN:aQ ["body"] ["body"] (aD pY):=⟨rfl,rfl,rfl,by decide +kernel,rfl,by decide +kernel,by decide +kernel⟩
theorem uO:aQ ["statement", "bodies"] ["statement", "bodies"] (aD pZ):=⟨rfl,rfl,rfl,by decide +kernel,rfl,by decide +kernel,by decide +kernel⟩
theorem Ie:aQ ["e", "values", "kind", "left", "right"] ["e", "values"] (aD Fg):=⟨rfl,rfl,rfl,by decide +kernel,rfl,by decide +kernel,by decide +kernel⟩
theorem B1:aQ ["chart", "row"] ["chart", "row"] (aD zZ):=⟨rfl,rfl,rfl,by decide +kernel,rfl,by decide +kernel,by decide +kernel⟩
theorem AA:aQ ["chart", "parts"] ["chart", "parts"] (aD w6):=⟨rfl,rfl,rfl,by decide +kernel,rfl,by decide +kernel,by decide +kernel⟩
theorem AB:aQ ["chart", "named"] ["chart", "named"] (aD w8):=⟨rfl,rfl,rfl,by decide +kernel,rfl,by decide +kernel,by decide +kernel⟩
theorem Ig:aQ ["chart", "standing", "statement", "values", "left", "right"] ["chart", "standing"] (aD Fh):=⟨rfl,rfl,rfl,by decide +kernel,rfl,by decide +kernel,by decide +kernel⟩
theorem B2:aQ ["chart", "standing", "figure", "row", "statement", "word", "values", "said"] ["chart", "standing", "figure"] (aD z0):=⟨rfl,rfl,rfl,by decide +kernel,rfl,by decide +kernel,by decide +kernel⟩
theorem mw:aQ ["chart", "standing", "row"] ["chart", "standing"] (aD jy):=⟨rfl,rfl,rfl,by decide +kernel,rfl,by decide +kernel,by decide +kernel⟩
theorem we:aQ ["chart", "standing", "word", "behind"] ["chart", "standing"] (aD rA):=⟨rfl,rfl,rfl,by decide +kernel,rfl,by decide +kernel,by decide +kernel⟩
theorem uP:aQ ["one", "other", "paper", "both", "listed", "pair"] ["one", "other", "paper"] (aD qa):=⟨rfl,rfl,rfl,by decide +kernel,rfl,by decide +kernel,by decide +kernel⟩
theorem yq:aQ ["chart", "standing", "word"] ["chart", "standing"] (aD um):=⟨rfl,rfl,rfl,by decide +kernel,rfl,by decide +kernel,by decide +kernel⟩
theorem B3:aQ ["chart", "standing", "word", "told"] ["chart", "standing"] (aD Aa):=⟨rfl,rfl,rfl,by decide +kernel,rfl,by decide +kernel,by decide +kernel⟩
theorem wg:aQ ["both"] ["both"] (aD rC):=⟨rfl,rfl,rfl,by decide +kernel,rfl,by decide +kernel,by decide +kernel⟩
theorem yt:aQ ["both", "pair"] ["both", "pair"] (aD uo):=⟨rfl,rfl,rfl,by decide +kernel,rfl,by decide +kernel,by decide +kernel⟩
theorem sW:aQ ["both", "pair", "one", "other"] ["both", "pair"] (aD oA):=⟨rfl,rfl,rfl,by decide +kernel,rfl,by decide +kernel,by decide +kernel⟩
theorem B4:aQ ["program", "told", "statement", "others"] ["program"] (aD Ab):=⟨rfl,rfl,rfl,by decide +kernel,rfl,by decide +kernel,by decide +kernel⟩
theorem yv:aQ ["body", "row", "others", "told", "statement"] ["body", "row", "others"] (aD uq):=⟨rfl,rfl,rfl,by decide +kernel,rfl,by decide +kernel,by decide +kernel⟩
theorem wj:aQ ["statement", "word", "told"] ["statement"] (aD rD):=⟨rfl,rfl,rfl,by decide +kernel,rfl,by decide +kernel,by decide +kernel⟩
theorem i8:aQ ["statement", "places", "told", "place"] ["statement"] (aD fZ):=⟨rfl,rfl,rfl,by decide +kernel,rfl,by decide +kernel,by decide +kernel⟩
theorem yE:aQ ["statement", "place", "part"] ["statement", "place", "part"] (aD ur):=⟨rfl,rfl,rfl,by decide +kernel,rfl,by decide +kernel,by decide +kernel⟩
theorem ka:aQ ["e", "left", "right"] ["e"] (aD iI):=⟨rfl,rfl,rfl,by decide +kernel,rfl,by decide +kernel,by decide +kernel⟩
theorem oU:aQ ["number", "told"] ["number"] (aD kG):=⟨rfl,rfl,rfl,by decide +kernel,rfl,by decide +kernel,by decide +kernel⟩
theorem mx:aQ ["e", "left", "right"] ["e"] (aD jz):=⟨rfl,rfl,rfl,by decide +kernel,rfl,by decide +kernel,by decide +kernel⟩
theorem yG:aQ ["deck", "many", "at", "place", "found", "number"] ["deck", "many"] (aD uv):=⟨rfl,rfl,rfl,by decide +kernel,rfl,by decide +kernel,by decide +kernel⟩
theorem yH:aQ ["script", "great"] ["script"] (aD uz):=⟨rfl,rfl,rfl,by decide +kernel,rfl,by decide +kernel,by decide +kernel⟩
theorem mq:aQ ["deck", "names", "deep", "kind", "sign", "one"] ["deck", "names", "deep"] (aD oC):=⟨rfl,rfl,rfl,by decide +kernel,rfl,by decide +kernel,by decide +kernel⟩
theorem jD:aQ ["deck", "names", "deep", "k", "kind", "sign", "one", "other", "first", "second"] ["deck", "names", "deep"] (aD gX):=⟨rfl,rfl,rfl,by decide +kernel,rfl,by decide +kernel,by decide +kernel⟩
theorem oE:aQ ["deck", "names", "deep", "found", "k"] ["deck", "names", "deep"] (aD jW):=⟨rfl,rfl,rfl,by decide +kernel,rfl,by decide +kernel,by decide +kernel⟩
theorem wk:aQ ["deck", "most", "boxes", "names", "name", "size", "body"] ["deck", "most"] (aD rE):=⟨rfl,rfl,rfl,by decide +kernel,rfl,by decide +kernel,by decide +kernel⟩
theorem yI:aQ ["body", "then", "found", "at", "statement", "row", "later", "inner"] ["body", "then", "found"] (aD uD):=⟨rfl,rfl,rfl,by decide +kernel,rfl,by decide +kernel,by decide +kernel⟩
theorem yJ:aQ ["program", "boxes", "body", "first", "flat"] ["program"] (aD uG):=⟨rfl,rfl,rfl,by decide +kernel,rfl,by decide +kernel,by decide +kernel⟩
theorem wm:aQ ["e", "names", "values", "one", "other"] ["e", "names", "values"] (aD rF):=⟨rfl,rfl,rfl,by decide +kernel,rfl,by decide +kernel,by decide +kernel⟩
theorem wu:aQ ["made", "standing", "statement", "apart"] ["made", "standing"] (aD rG):=⟨rfl,rfl,rfl,by decide +kernel,rfl,by decide +kernel,by decide +kernel⟩
theorem yK:aQ ["made", "standing"] ["made", "standing"] (aD uI):=⟨rfl,rfl,rfl,by decide +kernel,rfl,by decide +kernel,by decide +kernel⟩
theorem yM:aQ ["made", "standing", "figure", "statement", "ways", "values", "at", "number"] ["made", "standing", "figure"] (aD uJ):=⟨rfl,rfl,rfl,by decide +kernel,rfl,by decide +kernel,by decide +kernel⟩
theorem yO:aQ ["made", "standing", "gone", "word", "there", "said"] ["made", "standing"] (aD uK):=⟨rfl,rfl,rfl,by decide +kernel,rfl,by decide +kernel,by decide +kernel⟩
theorem uQ:aQ ["one", "other", "pair", "seen", "here", "also", "there", "some"] ["one", "other", "pair"] (aD qb):=⟨rfl,rfl,rfl,by decide +kernel,rfl,by decide +kernel,by decide +kernel⟩
theorem wx:aQ ["one", "other", "found", "differs", "due", "later", "figures", "pair", "seen", "more"] ["one", "other"] (aD rH):=⟨rfl,rfl,rfl,by decide +kernel,rfl,by decide +kernel,by decide +kernel⟩
theorem wz:aQ ["deck", "program", "way", "turn", "some"] ["deck", "program"] (aD rJ):=⟨rfl,rfl,rfl,by decide +kernel,rfl,by decide +kernel,by decide +kernel⟩
theorem wB:aQ ["one", "other", "paper", "known", "pair", "seen", "more"] ["one", "other", "paper"] (aD rK):=⟨rfl,rfl,rfl,by decide +kernel,rfl,by decide +kernel,by decide +kernel⟩
theorem AD:aQ ["deck", "made", "rows"] ["deck", "made"] (aD xf):=⟨rfl,rfl,rfl,by decide +kernel,rfl,by decide +kernel,by decide +kernel⟩
theorem uR:aQ ["deck", "one", "other", "paper", "at", "pair", "way"] ["deck", "one", "other", "paper"] (aD qc):=⟨rfl,rfl,rfl,by decide +kernel,rfl,by decide +kernel,by decide +kernel⟩
theorem Rc:aQ ["script", "deck", "program", "changed", "one", "other", "pairs", "papers", "paper", "handed", "found"] ["script"] (aD Rb):=⟨rfl,rfl,rfl,by decide +kernel,rfl,by decide +kernel,by decide +kernel⟩
theorem wC:aQ ["self", "program", "boxes", "body"] ["self", "program"] (aD eA):=⟨rfl,rfl,rfl,by decide +kernel,rfl,by decide +kernel,by decide +kernel⟩
theorem wD:aQ ["self", "program"] ["self", "program"] (aD eB):=⟨rfl,rfl,rfl,by decide +kernel,rfl,by decide +kernel,by decide +kernel⟩
theorem my:aQ ["self", "standing", "passed", "here", "told", "each"] ["self", "standing"] (aD bM):=⟨rfl,rfl,rfl,by decide +kernel,rfl,by decide +kernel,by decide +kernel⟩
set_option genInjectivity false in
set_option genInjectivity false in
set_option genSizeOf false in
structure Ad where
 xg:zdi
 rL:zdr
 gG:zdi
 fH:zdr
 fQ:zdi
 eC:zdr
 jk:zdi
 iJ:zdr
 qG:zdi
 oF:zdr
 gO:zdi
 fR:zdr
 cu:zdi
 bV:zdr
 eZ:zdi
 dU:zdr
 il:zdi
 gH:zdr
 kP:zdi
 jX:zdr
 vC:zdi
 qH:zdr
 vD:zdi
 rM:zdr
 rN:zdi
 oV:zdr
 rO:zdi
 oW:zdr
 Bb:zdi
 yP:zdr
 vE:zdi
 rP:zdr
 gY:zdi
 gy:zdr
 mN:zdi
 kQ:zdr
 kR:zdi
 jY:zdr
 oX:zdi
 mO:zdr
 vF:zdi
 rQ:zdr
 mP:zdi
 kS:zdr
 oY:zdi
 mQ:zdr
 jZ:zdi
 jt:zdr
 vG:zdi
 rR:zdr
 jE:zdi
 iZ:zdr
 mR:zdi
 kT:zdr
 dB:zdi
 cU:zdr
 oZ:zdi
 mS:zdr
 cA:zdi
 b4:zdr
 i3:zdi
 iB:zdr
 dn:zdi
 cN:zdr
 o6:zdi
 mT:zdr
 o7:zdi
 mU:zdr
 gI:zdi
 fI:zdr
 bW:zdi
 bQ:zdr
 fS:zdi
 fc:zdr
 mV:zdi
 kU:zdr
 jF:zdi
 i4:zdr
 pq:zdi
 mW:zdr
 i5:zdi
 ip:zdr
 mX:zdi
 kW:zdr
 pE:zdi
 mY:zdr
 pF:zdi
 mZ:zdr
 pG:zdi
 m3:zdr
 kX:zdi
 j0:zdr
 m4:zdi
 kY:zdr
 m5:zdi
 kZ:zdr
 m6:zdi
 k5:zdr
 rS:zdi
 pH:zdr
 k7:zdi
 j3:zdr
 Mu:zdi
 Ac:zdr
 fT:zdi
 qd:zdr
 fU:zdi
 qe:zdr
 bT:zdi
 jb:zdr
 bh:zdi
 bN:zdi
 bY:zdi
 eN:zdi
set_option genInjectivity false in
structure Tx(K:zaa)(mg:Str->Option zdj)(t:Ad):Prop where
 Fi:bJ K mg "flow" Kp ["program"] t.xg t.rL
 iM:bJ K mg "flow_of_body" oz ["body", "behind"] t.gG t.fH
 gP:bJ K mg "first_row" uj ["body", "behind"] t.fQ t.eC
 k8:bJ K mg "behind_body" pX ["statement", "after"] t.jk t.iJ
 vH:bJ K mg "ways_of" zY ["statement", "after"] t.qG t.oF
 iN:bJ K mg "bodies_in" uk ["statement"] t.gO t.fR
 fJ:bJ K mg "statements_in" mn ["body"] t.cu t.bV
 fe:bJ K mg "copied_statement" jx ["statement"] t.eZ t.dU
 lg:bJ K mg "copied_body" pY ["body"] t.il t.gH
 jl:bJ K mg "with_bodies" pZ ["statement", "bodies"] t.kP t.jX
 m7:bJ K mg "worth" Fg ["e", "values"] t.vC t.qH
 kJ:bJ K mg "word_at" zZ ["chart", "row"] t.vD t.rM
 oG:bJ K mg "by_names" w6 ["chart", "parts"] t.rN t.oV
 rT:bJ K mg "in_order" w8 ["chart", "named"] t.rO t.oW
 yQ:bJ K mg "holds" Fh ["chart", "standing"] t.Bb t.yP
 kK:bJ K mg "step_by" z0 ["chart", "standing", "figure"] t.vE t.rP
 gZ:bJ K mg "behind_condition" jy ["chart", "standing"] t.gY t.gy
 j4:bJ K mg "all_led_to" rA ["chart", "standing"] t.mN t.kQ
 lA:bJ K mg "right_alike" qa ["one", "other", "paper"] t.kR t.jY
 pJ:bJ K mg "is_unseen" um ["chart", "standing"] t.oX t.mO
 vI:bJ K mg "seen_at" Aa ["chart", "standing"] t.vF t.rQ
 m8:bJ K mg "first_pair" rC ["both"] t.mP t.kS
 lN:bJ K mg "see_alike" uo ["both", "pair"] t.oY t.mQ
 j5:bJ K mg "pairs_behind" oA ["both", "pair"] t.jZ t.jt
 vJ:bJ K mg "changes" Ab ["program"] t.vG t.rR
 lO:bJ K mg "body_with" uq ["body", "row", "others"] t.jE t.iZ
 m9:bJ K mg "others_for" rD ["statement"] t.mR t.kT
 dE:bJ K mg "with_other_expressions" fZ ["statement"] t.dB t.cU
 jG:bJ K mg "with_part" ur ["statement", "place", "part"] t.oZ t.mS
 cB:bJ K mg "with_other_numbers" iI ["e"] t.cA t.b4
 i6:bJ K mg "numbers_beside" kG ["number"] t.i3 t.iB
 dq:bJ K mg "with_other_signs" jz ["e"] t.dn t.cN
 aM:bJ K mg "_law_draw" uv ["deck", "many"] t.o6 t.mT
 pK:bJ K mg "_law_deck" uz ["script"] t.o7 t.mU
 cg:bJ K mg "_law_small_e" oC ["deck", "names", "deep"] t.gI t.fI
 eE:bJ K mg "_law_small_statement" gX ["deck", "names", "deep"] t.bW t.bQ
 bo:bJ K mg "_law_small_body" jW ["deck", "names", "deep"] t.fS t.fc
 j6:bJ K mg "_law_small" rE ["deck", "most"] t.mV t.kU
 iO:bJ K mg "_law_flat" uD ["body", "then", "found"] t.jF t.i4
 lP:bJ K mg "_law_made" uG ["program"] t.pq t.mW
 eF:bJ K mg "_law_worth" rF ["e", "names", "values"] t.i5 t.ip
 ng:bJ K mg "_law_holds" rG ["made", "standing"] t.mX t.kW
 pL:bJ K mg "_law_word" uI ["made", "standing"] t.pE t.mY
 jH:bJ K mg "_law_step" uJ ["made", "standing", "figure"] t.pF t.mZ
 lQ:bJ K mg "_law_seen" uK ["made", "standing"] t.pG t.m3
 jm:bJ K mg "_law_behind" qb ["one", "other", "pair"] t.kX t.j0
 nh:bJ K mg "_law_pairs" rH ["one", "other"] t.m4 t.kY
 nj:bJ K mg "_law_other" rJ ["deck", "program"] t.m5 t.kZ
 nu:bJ K mg "_law_right" rK ["one", "other", "paper"] t.m6 t.k5
 oH:bJ K mg "_law_any" xf ["deck", "made"] t.rS t.pH
 lC:bJ K mg "_law_spoilt" qc ["deck", "one", "other", "paper"] t.k7 t.j3
 Mv:bJ K mg "law" Rb ["script"] t.Mu t.Ac
 nv:Lq K "__init__" "Chart.__init__" eA t.fT t.qd
 Fj:Binds K t.qd ["self", "program"] []
 ny:Lq K "__init__" "Watch.__init__" eB t.fU t.qe
 yS:Binds K t.qe ["self", "program"] []
 g7:Lq K "sight_from" "Watch.sight_from" bM t.bT t.jb
 hJ:Binds K t.jb ["self", "standing"] []
 hV:Meth K t.bN "sight_from" t.bT
 dH:OF K t.bh
 Rf:mg "Chart"=some (.ref t.bh)
 B5:Mk K t.bh t.fT
 iP:ky K t.bh "names"
 iQ:ky K t.bh "sizes"
 iR:ky K t.bh "first"
 cO:ky K t.bh "statements"
 iq:ky K t.bh "ways"
 cZ:OF K t.bN
 Ih:mg "Watch"=some (.ref t.bN)
 yT:Mk K t.bN t.fU
 ck:ky K t.bN "chart"
 cR:ky K t.bN "sights"
 Fl:∃u,mg "END"=some u/\RelV (.int 0) u
 AS:∃u,mg "FIGURE_COUNT"=some u/\RelV (.int 10) u
 xh:∃u,mg "GREATEST_NUMBER"=some u/\RelV (.int 999) u
 uS:mg "EXPRESSION_PLACES"=some (.ref t.bY)
 uT:mg "OTHER_SIGNS"=some (.ref t.eN)
 pM:mg "len"=none
 nE:mg "range"=none
 wF:mg "int"=none
 Kq:mg "bool"=none
 xi:mg "dict"=none
 uU:mg "list"=none
 pN:mg "tuple"=none
 Rg:mg "all"=none
 rV:mg "isinstance"=none
 uV:mg "enumerate"=none
 Mw:mg "zip"=none
 B6:mg "sorted"=none
structure Cd(P:zdu)(w:zdk)(K:zaa)(t:Ad):Prop where
 vP:∃a0 a1 a2 a3 a4 a5 a6:zdi,WG P w K t.bY [(.inr "ask",.ref a0),(.inr "put",.ref a1),(.inr "say",.ref a2),(.inr "must",.ref a3),(.inr "if",.ref a4),(.inr "while",.ref a5),(.inr "stop",.ref a6)]/\(∀H:Hp,bG K H a0 [])/\(∀H:Hp,bG K H a1 [.int 3])/\(∀H:Hp,bG K H a2 [.int 2])/\(∀H:Hp,bG K H a3 [.int 3,.int 4])/\(∀H:Hp,bG K H a4 [.int 3,.int 4])/\(∀H:Hp,bG K H a5 [.int 3,.int 4])/\(∀H:Hp,bG K H a6 [])
 wG:WG P w K t.eN [(.inr "+",.str "-"),(.inr "-",.str "+"),(.inr "*",.str "+"),(.inr "<",.str "="),(.inr "=",.str "<")]
end WT
end
section
set_option maxHeartbeats 4000000
namespace WT
open PG
open PySem L2
local macro_rules | `(tactic|walk_at "")=>`(tactic|((try dsimp only[ OJ,VL,Ov,tBM,tSl,OO,EF,OI,VW,GL,Li,tUn,rU,Du,K6,VP,Ow,VO,VQ,SO,SQ,Lu,UE,O4,O5,O6,O7,O8,O9,Pa,Pb,Pc,Pd,LD,LF,LG,LJ,LK,Wq,Zd,VM,Ou,MU,cF,UG,UH,zba,Lv,Lw,Pf,Ly,Lz,GU,JZ,J0,J7,Kc,LA,UI,Zg,Pn,Pg,Ph,tOr,zby,zbO,zal,zaF,Pj,Pk,Qm,Qn,Lx]);(try simp only[ OJ,VL,Ov,tBM,tSl,OO,EF,OI,VW,GL,Li,tUn,rU,Du,K6,Wh,Wi,VP,Ow,VO,VQ,SO,SQ,Lu,UE,O4,O5,O6,O7,O8,O9,Pa,Pb,Pc,Pd,LD,LF,LG,LJ,LK,Wq,Zd,VM,Ou,MU,cF,Zc,ac2,UG,UH,Ze,Tc,Pe,Wj,Wk,zba,Lv,Lw,Pf,Ly,Lz,GU,JZ,J0,J7,Kc,LA,UI,Zg,Pn,Pg,Ph,tOr,zax,zby,zbO,Te,Tf,true_and,and_true,zal,zaF,Tg,Pj,Pk,Qm,Qn,Lx,Int.reduceLT,Int.reduceLE,Nat.reduceLeDiff,Nat.reduceAdd,and_self])))
local macro_rules | `(tactic|walk_at "x")=>`(tactic|first |rfl |exact .inl rfl |exact .inr rfl |decide |(intro _;rfl) |assumption)
section
variable{P:zdu}{w:zdk}{K:zaa}{mg:Str->Option zdj}{base:yaf}{t:Ad}
theorem hX(T:Tx K mg t):bq P w K mg base dF 1 t.o6 t.mT ["deck", "many"] QE:=by
 refine T.aM.F.okN yG fun _ _ _ _ H vs Q E hr h=>?_;obtain⟨D,C,G,d,many,rfl,dk,hm,XU,Fm,q⟩:=h;have nd:=yG.nd;refine⟨_,[some (V.ref D),some (V.int many),none,none,none,none],(ag (fw 2 nd (iL 0))
 (ag (gQ (aY fC (pv 2) aw) (l9 (pv 0) aw set_list))
 (ag (aW (az (DC (gc hr)) (iL 0) (aR ae) (aH _))
 (ak (aB (aY nV (aY fC (aY tP (aY tP (pv 2) (pv 2)) aw) (aY EC (pv 2) aw)) (pv 1))))
 aG)
 (ag (fw 3 nd (aY nV (pv 2) (eT cn rfl T.pM ybD (aa (iL 0) ae aA))))
 (ag (aW (tM (bL bU (iL 0) (pv 3) jr))
 (ag (fw 4 nd (aY nV (bL bU (iL 0) (pv 3) jr) (pv 1)))
 (ag (gQ (aY EC (bL bU (iL 0) (pv 3) jr) (pv 1)) (l9 (iL 0) (pv 3) set_list))
 (ak (aB (pv 4)))))
 aG)
 (ag (fw 5 nd (aY nV (aY tP (aY fC (aY nV (bL bU (iL 0) (pv 3) jr) aw) (aY tP aw (aY fC (pv 2) aw))) aw) aw))
 (ag (fw 5 nd (aY nV (aY tP (pv 5) (pv 5)) aw))
 (ak (aB (aY nV (aY EC (aY nV (aY tP (pv 5) aw) aw) aw) (pv 1))))))))))),rfl,?_⟩
 have line:zdq=2 ^ 24:=rfl;refine ai fun U1 cM=>?_;walk_at "";refine aL (.of dk.cY) jV ((cM _ _).mpr (ai fun U2 fh=>?_));clear cM;walk_at "";refine⟨D,_,1,1,rfl,rfl,dk.cY,rfl,?_⟩;have u1:a9 D H (upd H D (.lst [.ref C,.int (d.pos+1),.ref G,.int d.left,.int d.row,.int d.gap])):=(a9.refl D H).put _;have y1:(upd H D (.lst [.ref C,.int (d.pos+1),.ref G,.int d.left,.int d.row,.int d.gap])) D=_:=ah;have c1:eL D C H (upd H D (.lst [.ref C,.int (d.pos+1),.ref G,.int d.left,.int d.row,.int d.gap])):=eL.put _ (.inl rfl);show U2 _ (upd H D (.lst [.ref C,.int (d.pos+1),.ref G,.int d.left,.int d.row,.int d.gap]));generalize upd H D (.lst [.ref C,.int (d.pos+1),.ref G,.int d.left,.int d.row,.int d.gap])=H1 at *;have p0:=dk.pos;have uW:eX H1 D C G {d with pos:=d.pos+1}:=dk.put u1 y1 rfl rfl (show 0<=d.pos+1 by lia);refine(fh _ _).mpr (ai fun U3 gJ=>?_);clear fh;walk_at "";refine aL (.of uW.cY) fP fun p hp=>?_;generalize nG:upd H1 p (.lst [])=H2 at *;obtain⟨s2,y2⟩:=bX nG hp;have sX:=uW.same s2;have c2:=c1.trans (eL.of s2);have cm:MY d.pos d.pos:=mulL (by lia) (by lia);refine⟨C,p,_,rfl,rfl,.of sX.cs,.of y2,?_⟩;unfold PG.draw at q;cases hc:d.cs with
 |nil=>
  rw[ybr hc] at q;refine(ybr (by simp[hc])).mpr ⟨cm,mulR (by decide) (by decide),hm,q _ _ H2 rfl c2 sX⟩
 |cons z zs=>
  have ne:d.cs≠[]:=by rw[hc];simp
  rw[<- hc];refine(ybq (by simp[hc])).mpr ((gJ _ _).mpr (ai fun U4 jI=>?_));clear gJ;rw[ybq ne] at q;have lp:0<d.cs.length:=zbL.mpr ne;have m1:=zce d.pos (b:=(d.cs.length:Int)) (by lia);have m2:=zb6 d.pos (b:=(d.cs.length:Int)) (by lia);walk_at "";refine aL (.of sX.cY) fP ⟨C,_,rfl,.inl (.of sX.cs),?_⟩;rw[zab];refine⟨by show (0:Int)<_;simp only;lia,(jI _ _).mpr (ai fun U5 tj=>?_)⟩;clear jI;obtain⟨k,ek⟩:∃k:Nat,d.pos%(d.cs.length:Int)=(k:Int):=⟨_,(zda m1).symm⟩
  simp only[ek,zaP] at q |-;have lk:k<d.cs.length:=by lia
  have gk:k<d.gs.length:=by rw[dk.gl];exact lk
  have eg:d.gs.getD k false=d.gs[k]:=by rw[zap,zac gk];rfl
  have ec:d.cs.getD k 0=d.cs[k]:=by rw[zap,zac lk];rfl
  rw[eg,ec] at q;have iC:(d.cs.map V.int)[k]?=some (V.int d.cs[k]):=by rw[zaf,zac lk];rfl
  have iG:(d.gs.map V.bl)[k]?=some (V.bl d.gs[k]):=by rw[zaf,zac gk];rfl
  walk_at "";refine aL (.of sX.cY) at2 (aL (.of sX.gs) (aF iG) ⟨_,rfl,?_⟩);by_cases hg:d.gs[k]=true
  .rw[ybr hg] at q;refine(ybr hg).mpr (aL (.of sX.cY) fP (aL (.of sX.cs) (aF iC) ⟨_,_,rfl,rfl,hm,aL (.of sX.cY) fP (aL (.of sX.cs) (aF iC) ⟨_,_,rfl,rfl,?_,aL (.of sX.cY) fP ⟨C,_,k,k,rfl,rfl,sX.cs,(by unfold Se;rw[zab];simp;lia),?_⟩⟩)⟩))
   .exact⟨hm,by lia⟩
   .have cC:eL D C H2 (upd H2 C (.lst ((d.cs.set k (d.cs[k]/many)).map V.int))):=eL.put _ (.inr rfl);have uC:a9 C H2 (upd H2 C (.lst ((d.cs.set k (d.cs[k]/many)).map V.int))):=(a9.refl _ _).put _;rw[<- zcQ];exact q _ _ _ rfl (c2.trans cC) ⟨uC _ _ dk.Me sX.cY,ah,uC _ _ dk.Sk.symm sX.gs,dk.Me,dk.Sj,dk.Sk,by simpa using dk.len,by simpa using dk.gl,uW.pos⟩
  .rw[ybq hg] at q;refine(ybq hg).mpr ((tj _ _).mpr (ai fun U6 AU=>?_));clear tj;walk_at "";refine aL (.of sX.cY) fP (aL (.of sX.cs) (aF iC) ⟨_,_,rfl,rfl,(by decide:(0:Int)<2147483629),mulL (by decide) (by decide),_,_,rfl,rfl,_,_,rfl,rfl,mulR (by decide) (by decide),_,_,rfl,rfl,(by decide:(0:Int)<2147483629),(AU _ _).mpr (ai fun U7 Jg=>?_)⟩);clear AU;simp only[];have b1:=zce ((d.cs[k]%2147483629+62233*(d.pos+1))*48271) (b:=2147483629) (by decide);have b2:=zb6 ((d.cs[k]%2147483629+62233*(d.pos+1))*48271) (b:=2147483629) (by decide);generalize (d.cs[k]%2147483629+62233*(d.pos+1))*48271%2147483629=n1 at *;walk_at "";refine⟨mulL (by lia) (by lia),(Jg _ _).mpr ?_⟩;walk_at "";exact⟨mulR (by decide) (by decide),hm,q _ _ H2 rfl c2 sX⟩
theorem WU(T:Tx K mg t)(fi:bq P w K mg base dF (n+1) t.gI t.fI ["deck", "names", "deep"] (Mf K n)) :
 bq P w K mg base dF (n+2) t.gI t.fI ["deck", "names", "deep"] (Mf K (n+1)):=by
 have aU:=hX (P:=P) (w:=w) (base:=base) T;refine T.cg.F.okN mq fun _ _ _ _ H vs Q E hr h=>?_;obtain⟨D,C,G,N,d,ns,k,rfl,hk,Fm,dk,hN,AV,AW,hl,q⟩:=h;have nd:=mq.nd;refine⟨_,[some (V.ref D),some (V.ref N),some (V.int k),none,none,none],(ag (fw 3 nd (cz aU T.aM hr (a8 0 (aa aw ae aE))))
 (ag (aW (PW.pt (pw_or (az xM (pv 3) aw (aH _)) (pw_or1 (az (DC (gc hr)) (pv 1) (aR ae) (aH _)))))
 (ak (aB (aK (aa aV (aa (bL bU (aR (aa (cz aU T.aM hr (a8 0 (aa aw ae aE))) (aa (cz aU T.aM hr (a8 0 (aa aw ae aE))) (aa aw ae aE) bw) bw)) (bL bU (aR (eQ (vs:=[.int 0,.int 0,.int 0,.int 1,.int 1,.int 2]) (by kernel_rfl))) (cz aU T.aM hr (a8 0 (aa aw ae aE))) iz) Wm) ae aA) aE))))
 aG)
 (ag (aW (PW.pt (pw_or (az xM (pv 3) aw (aH _)) (pw_or1 (az bB (pv 2) aw (aH _)))))
 (ak (aB (aK (aa aV (aa (bL bU (pv 1) (cz aU T.aM hr (a8 0 (aa (eT cn rfl T.pM ybD (a8 1 ae)) ae bw))) iz) ae aA) aE))))
 aG)
 (ag (fw 4 nd (bL OP aV (cz aU T.aM hr (a8 0 (aa aw ae aE))) iz))
 (ag (fw 5 nd (cz fi T.cg hr (a8 0 (a8 1 (aa (aY tO (pv 2) aw) ae qS)))))
 (ak (aB (aK (a8 4 (a8 5 (aa (cz fi T.cg hr (a8 0 (a8 1 (aa (aY tO (pv 2) aw) ae qS)))) ae bw))))))))))),rfl,?_⟩
 have line:zdq=2 ^ 24:=rfl;have pw:(0:Int)<2 ^ k:=Int.pow_pos (by decide);obtain⟨pk,hpk⟩:∃pk:Int,pk=2 ^ k:=⟨_,rfl⟩
 rw[<- hpk] at Fm pw;refine ai fun U1 cM=>?_;walk_at "";refine⟨D,C,G,d,6,rfl,dk,by decide,by decide,by lia,fun kd d1 H1 e1 c1 uW=>(cM _ _).mpr (ai fun U2 fh=>?_)⟩;clear cM;have b1:=bO e1 (by decide);have p1:=ba e1;have hN1:=c1.get hN AV AW;have Cw:=dk.dD;have Cy:=dk.dC;refine mK fun X1 hX1=>?_;have num:(kd<2\/ns=[])->∀H2,ao H1 H2->X1 [some (V.ref D),some (V.ref N),some (V.int k),some (V.int kd),none,none] H2:=by
  intro hn H2 s2;refine(hX1 _ _).mpr ?_;walk_at "";refine⟨D,C,G,d1,4,rfl,uW.same s2,by decide,by decide,by lia,fun a d2 H3 e2 c3 xj=>?_⟩;have p2:=ba e2;refine⟨D,C,G,d2,10,rfl,xj,by decide,by decide,by lia,fun b d3 H4 e3 c4 Ii p5 Ei p6 Rh=>?_⟩;have p3:=ba e3;generalize nG:upd H4 p5 (.lst [V.int a,V.int b,V.int 999])=H5 at *;obtain⟨s5,y5⟩:=bX nG Ei;have n5:p5≠D/\p5≠C:=⟨(aj Ii.cY Ei).symm,(aj Ii.cs Ei).symm⟩
  have AE:=Ii.same s5;generalize Ae:upd H5 p6 (.lst [V.int 0,V.int 0,V.int 0,V.int 1,V.int 1,V.int 2])=H6 at *;obtain⟨s6,y6⟩:=bX Ae Rh;have n6:p6≠D/\p6≠C:=⟨(aj AE.cY Rh).symm,(aj AE.cs Rh).symm⟩
  have Fn:=AE.same s6;have y5:=s6 _ _ y5;refine⟨D,C,G,d3,6,rfl,Fn,by decide,by decide,by lia,fun c d4 H7 e4 c7 qL=>?_⟩;have bc:=bO e4 (by decide);have kj:=oS (0:Int) (l:=[0,0,0,1,1,2]) bc.1 bc.2;have hj:0<=PG.pick (0:Int) [0,0,0,1,1,2] c/\PG.pick (0:Int) [0,0,0,1,1,2] c<3:=by
   generalize PG.pick (0:Int) [0,0,0,1,1,2] c=j at *;simp only[zan,za5,or_false] at kj;lia
  refine aL (.of (c7.get y6 n6.1 n6.2)) (E6 (l:=[0,0,0,1,1,2]) 0 bc.1 bc.2) (aL (.of (c7.get y5 n5.1 n5.2)) (E6 (l:=[a,b,999]) 0 hj.1 hj.2) fun p8 Fo=>?_);have cc:eL D C H H7:=c1.trans ((eL.of s2).trans (c3.trans (c4.trans ((eL.of s5).trans ((eL.of s6).trans c7)))));have s8:=ao.new Fo (.tup [V.str (zad "number"),V.int (PG.pick 0 [a,b,999] (PG.pick 0 [0,0,0,1,1,2] c))]);refine q (.num (PG.pick 0 [a,b,999] (PG.pick 0 [0,0,0,1,1,2] c))) d4 _ _ ?_ (cc.trans (eL.of s8)) (qL.same s8) (js Fo cc.nX (bC.cons Own.str (bC.cons Own.int bC.nil)));cases k<;>(rw[tK];simp only[e1];rw[ybr hn];simp only[e2,e3,e4])
 have rest:¬(kd<2\/ns=[])->∀H2,ao H1 H2->U2 [some (V.ref D),some (V.ref N),some (V.int k),some (V.int kd),none,none] H2:=by
  intro hn H2 s2;have ne:ns≠[]:=fun z=>hn (.inr z);have lp:0<ns.length:=zbL.mpr ne;have sX:=uW.same s2;have hN2:=s2 _ _ hN1;refine(fh _ _).mpr (ai fun U3 gJ=>?_);clear fh;refine mK fun X2 hX2=>?_;have box:(kd<5\/k=0)->X2 [some (V.ref D),some (V.ref N),some (V.int k),some (V.int kd),none,none] H2:=by
   intro hb;refine(hX2 _ _).mpr ?_;walk_at "";refine⟨N,_,rfl,.inl (.of hN2),?_⟩;rw[zab];refine⟨D,C,G,d1,ns.length,rfl,sX,by lia,by lia,by lia,fun j d2 H3 e2 c3 xj=>?_⟩;have bj:=bO e2 (by lia);refine aL (.of (c3.get hN2 AV AW)) (E7 bj.1 bj.2) fun p8 Fo=>?_;have cc:eL D C H H3:=c1.trans ((eL.of s2).trans c3);have s8:=ao.new Fo (.tup [V.str (zad "box"),V.str (L2.S (PG.pick [] ns j))]);refine q (.box (PG.pick [] ns j)) d2 _ _ ?_ (cc.trans (eL.of s8)) (xj.same s8) (js Fo cc.nX (bC.cons Own.str (bC.cons Own.str bC.nil)));cases k with
   |zero=>rw[tK];simp only[e1];rw[ybq hn];simp only[e2]
   |succ k=>rw[tK];simp only[e1];rw[ybq hn,ybr (hb.resolve_right (by lia))];simp only[e2]
  walk_at "";refine dR (fun h5=>(ybr trivial).mpr (box (.inl h5))) (fun h5=>?_);refine dR (fun hz=>box (.inr (by lia))) (fun hz=>(gJ _ _).mpr (ai fun U4 jI=>?_));clear gJ;obtain⟨k1,rfl⟩:∃k1,k=k1+1:=⟨k-1,by lia⟩
  have pe:pk=2*2 ^ k1:=by rw[hpk,Int.pow_succ,Int.mul_comm]
  have pw1:(0:Int)<2 ^ k1:=Int.pow_pos (by decide);walk_at "";refine⟨D,C,G,d1,3,rfl,sX,by decide,by decide,by lia,fun g d2 H3 e2 c3 xj=>?_⟩;have bg:=bO e2 (by decide);have p2:=ba e2;obtain⟨c,hc,ec⟩:=QG bg.1 bg.2;refine⟨_,_,c,rfl,rfl,by decide,hc,?_⟩;rw[ec];refine(jI _ _).mpr (ai fun U5 tj=>?_);clear jI;have hN3:=c3.get hN2 AV AW;walk_at "";refine⟨D,C,G,N,d2,ns,k1,by simp,by lia,by lia,xj,hN3,AV,AW,hl,fun l d3 v1 H4 e3 c4 Ii o4=>(tj _ _).mpr ?_⟩;clear tj;have p3:=A8 ns k1 d2;rw[e3] at p3;simp only at p3;have X5:=c4.get hN3 AV AW;walk_at "";refine⟨D,C,G,N,d3,ns,k1,by simp,by lia,by lia,Ii,X5,AV,AW,hl,fun r d4 v2 H5 e4 c5 AE o5 p8 Fo=>?_⟩;have c03:eL D C H H3:=c1.trans ((eL.of s2).trans c3);have cc:=c03.trans (c4.trans c5);have s8:=ao.new Fo (.tup [V.str (L2.S (PG.pick [] [[43],[45],[42]] g)),v1,v2]);have o1:Own K H H5 (iD l) v1:=(o4.back fun b h=>c03.nX b h).chg c5 Cw Cy;have o2:Own K H H5 (iD r) v2:=o5.back fun b h=>(c03.trans c4).nX b h;refine q (.bin (PG.pick [] [[43],[45],[42]] g) l r) d4 _ _ ?_ (cc.trans (eL.of s8)) (AE.same s8) (js Fo cc.nX (bC.cons Own.str (bC.cons o1 (bC.cons o2 bC.nil))));rw[tK];simp only[e1];rw[ybq hn,ybq h5];simp only[e2,e3,e4]
 walk_at "";refine dR (fun h2=>(ybr trivial).mpr (num (.inl h2) H1 (.refl _))) (fun h2 p hp=>?_);have s2:=ao.new hp (.lst []);refine⟨N,p,_,rfl,rfl,.of (s2 _ _ hN1),.of ah,?_⟩;cases hc:ns with
 |nil=>exact(ybr rfl).mpr (num (.inr hc) _ s2)
 |cons z zs=>exact(ybq (by simp)).mpr (rest (fun y=>y.elim h2 fun y=>by rw[hc] at y;cases y) _ s2)
theorem Mx(T:Tx K mg t):∀n,bq P w K mg base dF (n+1) t.gI t.fI ["deck", "names", "deep"] (Mf K n)
 |0=>T.cg.F.Wl mq (fun vs H Q E h=>by obtain⟨_,_,_,_,_,_,_,_,h,_⟩:=h;exact ybw h (zcX _)) (fun _ _ _ _ H vs Q E hr h=>by obtain⟨_,_,_,_,_,_,_,_,h,_⟩:=h;exact ybw h (zcX _))
 |n+1=>WU T (Mx T n)
theorem xk(dk:eX H D C G d)(p:d'.pos=d.pos)(e1:d'.cs=d.cs)(e2:d'.gs=d.gs):eX (upd H D (.lst [.ref C,.int d.pos,.ref G,.int d'.left,.int d'.row,.int d'.gap])) D C G d'/\eL D C H (upd H D (.lst [.ref C,.int d.pos,.ref G,.int d'.left,.int d'.row,.int d'.gap])):=
 ⟨dk.put ((a9.refl D H).put _) (by rw[ah,p]) e1 e2 (by rw[p];exact dk.pos),eL.put _ (.inl rfl)⟩
theorem Ri(T:Tx K mg t)(rW:bq P w K mg base dF (2*n+2) t.bW t.bQ ["deck", "names", "deep"] (Hs K n)) :
 bq P w K mg base dF (2*n+3) t.fS t.fc ["deck", "names", "deep"] (QF K n):=by
 have aU:=hX (P:=P) (w:=w) (base:=base) T;refine T.bo.F.okN oE fun _ _ _ s H vs Q E hr h=>?_;obtain⟨D,C,G,N,d,ns,m,rfl,hm,hm3,Fm,TZ,dk,hN,AV,AW,hl,q⟩:=h;have nd:=oE.nd;refine⟨_,[some (V.ref D),some (V.ref N),some (V.int (3-(m:Int))),none,none],(ag (fw 3 nd (aR ae))
 (ag (gR yag rfl (kr rfl T.nE (aa (cz aU T.aM hr (a8 0 (aa aw ae aE))) ae bw)) (oK 4 nd)
 (ak (aW (az Lh (iL 0) aw (aH _))
 (ak (dX (j7 zaA zaN zaO fG (pv 3) (aa (cz rW T.eE hr (a8 0 (a8 1 (a8 2 ae)))) ae bw))))
 aG)))
 (ak (aB (pv 3))))),rfl,?_⟩
 have line:zdq=2 ^ 24:=rfl;have sb:=zS m;refine ai fun U1 cM=>?_;walk_at "";intro L hL;refine(cM _ _).mpr (ai fun U2 fh=>?_);clear cM;generalize nG:upd H L (.lst [])=H1 at *;obtain⟨s1,Jh⟩:=bX nG hL;have uW:=dk.same s1;have nL:L≠D/\L≠C/\L≠N:=⟨(aj dk.cY hL).symm,(aj dk.cs hL).symm,(aj hN hL).symm⟩
 have hN1:yd H1 N ns:=s1 _ _ hN;have c1:eL D C H H1:=eL.of s1;have Cw:=dk.dD;have Cy:=dk.dC;refine Bo fun U hU=>?_;walk_at "";refine⟨D,C,G,d,5,rfl,uW,by decide,by decide,by lia,fun kn d1 H2 e1 c2 sX=>?_⟩;have b1:=bO e1 (by decide);have p1:=ba e1;refine⟨_,rfl,by lia,by lia,hU _ _ ?_⟩;clear hU;obtain⟨k,rfl⟩:∃k:Nat,kn=k:=⟨kn.toNat,by lia⟩
 rw[zaP];have c02:=c1.trans c2;have hN2:=c2.get hN1 AV AW;have yL2:=c2.get Jh nL.1 nL.2.1;obtain⟨Pv,nH,iF⟩:=Je fun (i:Nat) (Y:St) (Hx:Hp) zq=>∀(z4:Option V) (dx:Dk) (bs:List aT) (us:List V),Y=[some (V.ref D),some (V.ref N),some (V.int (3-(m:Int))),some (V.ref L),z4]->eX Hx D C G dx->Hx L=some (.lst us)->bC K H1 Hx (bs.map b3) us->us.length=bs.length->bs.length<=i->dx.pos<=d1.pos+i*PG.sB m->dx.gap=d.gap->(∀b o,H b=some o->b≠D->b≠C->Hx b=some o)->(∀b,H1 b≠none->Hx b≠none)->(∀r d',iy (lI ns m) (k-i) dx=(r,d')->iy (lI ns m) k d1=(bs++r,d'))->zq;refine zm (lo:=0) (n:=k) Pv (nH _ _ _ fun _ zk=>zk _ d1 [] [] rfl sX yL2 bC.nil rfl (zah _) (by simp) (bK e1).gap (fun b o e n1 n2=>c02.get e n1 n2) c2.nX (fun r d' e=>by simpa using e)) (fun i Y Hx hi hv=>?_) (fun Y Hx hv=>?_)
 .refine iF _ _ _ hv _ fun z4 dx bs us ze Ej ZN ox lu lb T1 gx kx CK ex=>?_;subst ze;clear hv;have hNx:=kx _ _ hN AV AW;simp only[cF,zba];walk_at "";refine aL (.of Ej.cY) (aF (j:=3) rfl) ⟨_,_,rfl,rfl,?_⟩;refine⟨_,rfl,?_⟩;have kb:k<=4:=by lia
  have im:(i:Int)*PG.sB m+PG.sB m<=4*PG.sB m:=by
   have:=zcu (show ((i:Int)+1)<=4 by lia) sb;rw[zdg,zdh] at this;exact this
  have ie:((i+1:Nat):Int)*PG.sB m=i*PG.sB m+PG.sB m:=by rw[Int.natCast_succ,zdg,zdh]
  have ks:k-i=(k-(i+1))+1:=by lia
  by_cases hl0:dx.left>0
  .refine(ybr (ybs hl0)).mpr ⟨.inl ⟨rfl,_,.of ZN⟩,D,C,G,N,dx,ns,m,rfl,hm,hm3,by lia,(by unfold fB;rw[gx];exact TZ),Ej,hNx,AV,AW,hl,fun s d' v H3 e3 c3 xj o3=>?_⟩;have T2:=c3.get ZN nL.1 nL.2.1;refine⟨L,us,v,rfl,rfl,T2,by lia,?_⟩;have uL:a9 L H3 (upd H3 L (.lst (us++[v]))):=(a9.refl _ _).put _;have nS:G≠L:=aj dk.gs hL;have dL:H1 L≠none:=by rw[Jh];simp
   have p3:=vq ns m dx;rw[e3] at p3;have lt:∀(ds:List Dp) (vs:List V),bC K H1 H3 ds vs->bC K H1 (upd H3 L (.lst (us++[v]))) ds vs:=fun ds vs f O hO=>by
    have:=f (fun b=>O b\/b=L) fun b hb=>by
     rcases hb with hb |rfl
     .exact hO b hb
     .exact dL
    exact(this.up (aN.one uL (.inr rfl))).sub fun b hb=>.inl hb
   refine nH _ _ _ fun _ zk=>zk _ d' (bs++[s]) (us++[v]) rfl ⟨uL _ _ nL.1.symm xj.cY,uL _ _ nL.2.1.symm xj.cs,uL _ _ nS xj.gs,xj.Me,xj.Sj,xj.Sk,xj.len,xj.gl,xj.pos⟩ ah ?_ (by simp[lu]) (by simp;lia) (by simp only at p3;lia) (by have:=vt ns m dx;rw[e3] at this;exact this.trans gx) (fun b o e n1 n2=>?_) (fun b h=>?_) (fun r d2 er=>?_)
   .rw[zas];exact lt _ _ (bC.snoc (ox.chg c3 (by rw[uW.cY];simp) (by rw[uW.cs];simp)) (o3.back CK))
   .exact uL _ _ (aj e hL) (c3.get (kx b o e n1 n2) n1 n2)
   .by_cases z:b=L
    .rw[z,ah];simp
    .rw[aI z];exact c3.nX b (CK b h)
   .rw[zau];refine ex ([s]++r) d2 ?_;rw[ks,iy,ybr hl0,e3,er];rfl
  .refine(ybq (by rw[ybt hl0];exact zag)).mpr (nH _ _ _ fun _ zk=>zk _ dx bs us rfl Ej ZN ox lu (by lia) (by lia) gx kx CK fun r d2 er=>?_);refine ex r d2 ?_;rw[ks,iy,ybq hl0];exact er
 .refine iF _ _ _ hv _ fun z4 dx bs us ze Ej ZN ox lu lb T1 gx kx CK ex=>?_;subst ze;refine(fh _ _).mpr ?_;walk_at "";have e2:=ex [] dx (by rw[zdf];rfl);rw[zax] at e2;refine q bs dx L us Hx ?_ ⟨fun b o n e=>kx b o e (fun z=>n (.inl z)) (fun z=>n (.inr z)),fun b h=>CK b (c1.nX b h)⟩ Ej hL ZN (fun O hO=>ox O fun b hb=>c1.nX b (hO b hb));unfold gW;rw[e1,zaP];exact e2
theorem Fp(dk:eX H D C G dd)(M:Hp->Prop)(h:∀H',eL D C H H'->eX H' D C G (jU dd)->M H') :
 M5 K (V.ref D) (V.int 4) H fun x H1=>M5 K (V.ref D) (V.int 5) H1 fun x_1 H1=>Jv x_1 (V.int 1)=true/\∃b,[V.bl !decide (x_1=V.int 1)]=[V.bl b]/\SV (fun i j=>V.int (i+j)) x (V.int (if b=true then 1 else 0)) H1 fun x H1=>Uy (V.ref D) (V.int 4) x H1 M:=by
 refine aL (.of dk.cY) (aF (j:=4) rfl) (aL (.of dk.cY) (aF (j:=5) rfl) ⟨rfl,_,rfl,_,_,rfl,rfl,D,_,4,4,rfl,rfl,dk.cY,rfl,?_⟩);obtain⟨uW,c1⟩:=xk (d':=jU dd) dk rfl rfl rfl;have e:dd.row+(if (!decide (V.int dd.gap=V.int 1))=true then 1 else 0)=(jU dd).row:=by
  unfold jU;by_cases h1:dd.gap=1
  .simp[h1]
  .simp[h1]
 show M (upd H D (.lst [.ref C,.int dd.pos,.ref G,.int dd.left,.int (dd.row+(if (!decide (V.int dd.gap=V.int 1))=true then 1 else 0)),.int dd.gap]));rw[e];exact h _ c1 uW
theorem yU(ob:bC K Ha Hb ds us)(y:Hb L=some (.lst us))(hL:Ha L=none)(nX:∀b,H b≠none->Ha b≠none):Own K H Hb (.lst ds) (.ref L):=fun O hO=>Fix.lst y (fun z=>nX _ (hO _ z) hL) (ob O fun b hb=>nX b (hO b hb))
theorem WV(T:Tx K mg t)(dN:bq P w K mg base dF (2*n+3) t.fS t.fc ["deck", "names", "deep"] (QF K n)) :
 bq P w K mg base dF (2*n+4) t.bW t.bQ ["deck", "names", "deep"] (Hs K (n+1)):=by
 have aU:=hX (P:=P) (w:=w) (base:=base) T;have fi:=Mx (P:=P) (w:=w) (base:=base) T 2;refine T.eE.F.okN jD fun _ _ _ s H vs Q E hr h=>?_;obtain⟨D,C,G,N,d,ns,m,rfl,hm,hm3,Fm,TZ,dk,hN,AV,AW,hl,q⟩:=h;have nd:=jD.nd;refine⟨_,[some (V.ref D),some (V.ref N),some (V.int (3-(m:Int))),none,none,none,none,none,none,none],(ag (gQ (aY tO (iL 0) aw) (l9 (pv 0) aw set_list))
 (ag (gQ (aY fC (iL 0) aw) (l9 (pv 0) aw set_list))
 (ag (aW (az Lh (iL 0) aw (aH _))
 (ak (gQ (aY fC (iL 0) (cz aU T.aM hr (a8 0 (aa (iL 0) ae aA)))) (l9 (pv 0) aw set_list)))
 aG)
 (ag (fw 3 nd (iL 0))
 (ag (fw 4 nd (cz aU T.aM hr (a8 0 (aa aw ae aE))))
 (ag (aW (PW.pt (pw_and (az xM (pv 4) aw (aH _)) (pw_and1 (az (qm (gc hr)) (pv 1) (aR ae) (aH _)))))
 (ak (aB (aK (aa aV (a8 3 (aa (bL bU (pv 1) (cz aU T.aM hr (a8 0 (aa (eT cn rfl T.pM ybD (a8 1 ae)) ae bw))) iz) ae aA)) aE))))
 aG)
 (ag (aW (PW.pt (pw_and (az xM (pv 4) aw (aH _)) (pw_and1 (az (qm (gc hr)) (pv 1) (aR ae) (aH _)))))
 (ak (aB (aK (aa aV (a8 3 (aa (bL bU (pv 1) (cz aU T.aM hr (a8 0 (aa (eT cn rfl T.pM ybD (a8 1 ae)) ae bw))) iz) (aa (cz fi T.cg hr (a8 0 (a8 1 (aa aw ae aE)))) ae bw) aA)) aE))))
 aG)
 (ag (aW (az xM (pv 4) aw (aH _))
 (ak (aB (aK (aa aV (a8 3 (aa (cz fi T.cg hr (a8 0 (a8 1 (aa aw ae aE)))) ae bw)) aE))))
 aG)
 (ag (aW (PW.pt (pw_and (az bB (pv 4) aw (aH _)) (pw_and1 (az bB (cz aU T.aM hr (a8 0 (aa aw ae aE))) aw (aH _)))))
 (ak (aB (aK (aa aV (a8 3 ae) aE))))
 aG)
 (ag (fw 5 nd (bL OP aV (cz aU T.aM hr (a8 0 (aa aw ae aE))) iz))
 (ag (fw 6 nd (cz fi T.cg hr (a8 0 (a8 1 (aa aw ae aE)))))
 (ag (fw 7 nd (cz fi T.cg hr (a8 0 (a8 1 (aa aw ae aE)))))
 (ag (aW (PW.pt (pw_or (az xM (pv 4) aw (aH _)) (pw_or1 (az bB (pv 2) aw (aH _)))))
 (ak (aB (aK (aa aV (a8 3 (a8 5 (a8 6 (a8 7 ae)))) aE))))
 aG)
 (ag (fw 8 nd (cz dN T.bo hr (a8 0 (a8 1 (aa (aY fC (pv 2) aw) ae qS)))))
 (ag (aW (az xM (pv 4) aw (aH _))
 (ag (gQ (aY fC (iL 0) (bH gK rfl T.wF ybB (aa (gu Lg (iL 0) aw (aH _)) ae pT))) (l9 (pv 0) aw set_list))
 (ak (aB (aK (aa aV (a8 3 (a8 5 (a8 6 (a8 7 (a8 8 ae))))) aE)))))
 aG)
 (ag (fw 9 nd (aR ae))
 (ag (aW (az bB (cz aU T.aM hr (a8 0 (aa aw ae aE))) aw (aH _))
 (ag (gQ (aY fC (iL 0) (bH gK rfl T.wF ybB (aa (gu Lg (iL 0) aw (aH _)) ae pT))) (l9 (pv 0) aw set_list))
 (ak (fw 9 nd (cz dN T.bo hr (a8 0 (a8 1 (aa (aY fC (pv 2) aw) ae qS)))))))
 aG)
 (ag (gQ (aY fC (iL 0) (bH gK rfl T.wF ybB (aa (gu Lg (iL 0) aw (aH _)) ae pT))) (l9 (pv 0) aw set_list))
 (ak (aB (aK (aa aV (a8 3 (a8 5 (a8 6 (a8 7 (a8 8 (a8 9 ae)))))) aE)))))))))))))))))))))),rfl,?_⟩
 have line:zdq=2 ^ 24:=rfl;have Cw:=dk.dD;have Cy:=dk.dC;obtain⟨st,xD,st0,qX⟩:∃st:Option (Dk->aT×Dk),lI ns m d=v9 st ns d/\(m=0->st=none)/\∀m',m=m'+1->st=some (lI ns m'):=by
  cases m with
  |zero=>exact⟨none,rfl,fun _=>rfl,fun m' e=>by lia⟩
  |succ m=>exact⟨some (lI ns m),rfl,fun e=>by lia,fun m' e=>by rw[show m=m' by lia]⟩
 rw[xD] at q;have sbp:30<=PG.sB m:=by
  cases m with
  |zero=>exact zcF _
  |succ m=>have:=zS m;rw[PG.sB];lia
 refine ai fun U1 cM=>?_;walk_at "";refine aL (.of dk.cY) (aF (j:=3) rfl) ⟨_,_,rfl,rfl,D,_,3,3,rfl,rfl,dk.cY,rfl,?_⟩;obtain⟨uW,c1⟩:=xk (d':={d with left:=d.left-1}) dk rfl rfl rfl;show U1 _ (upd H D (.lst [.ref C,.int d.pos,.ref G,.int (d.left-1),.int d.row,.int d.gap]));generalize upd H D (.lst [.ref C,.int d.pos,.ref G,.int (d.left-1),.int d.row,.int d.gap])=H1 at *;refine(cM _ _).mpr (ai fun U2 fh=>?_);clear cM;walk_at "";refine aL (.of uW.cY) (aF (j:=4) rfl) ⟨_,_,rfl,rfl,D,_,4,4,rfl,rfl,uW.cY,rfl,?_⟩;obtain⟨sX,c2⟩:=xk (d':={d with left:=d.left-1,row:=d.row+1}) uW rfl rfl rfl;show U2 _ (upd H1 D (.lst [.ref C,.int d.pos,.ref G,.int (d.left-1),.int (d.row+1),.int d.gap]));have c2:eL D C H (upd H1 D (.lst [.ref C,.int d.pos,.ref G,.int (d.left-1),.int (d.row+1),.int d.gap])):=c1.trans c2;generalize upd H1 D (.lst [.ref C,.int d.pos,.ref G,.int (d.left-1),.int (d.row+1),.int d.gap])=H2 at *;refine(fh _ _).mpr (ai fun U3 gJ=>?_);clear fh;have head:∀H3,eL D C H H3->eX H3 D C G (bS d)->U3 [some (V.ref D),some (V.ref N),some (V.int (3-(m:Int))),none,none,none,none,none,none,none] H3:=by
  intro H3 c3 xj;have ph:=BG d;have gh:=BI d;refine(gJ _ _).mpr (ai fun U4 jI=>?_);clear gJ;walk_at "";refine aL (.of xj.cY) (aF (j:=4) rfl) ((jI _ _).mpr (ai fun U5 tj=>?_));clear jI;unfold v9 at q;generalize bS d=dh at *;walk_at "";refine⟨D,C,G,dh,13,rfl,xj,by decide,by decide,by lia,fun kd d4 H4 e4 c4 Ii=>(tj _ _).mpr (ai fun U6 AU=>?_)⟩;clear tj;have p4:=ba e4;have g4:=(bK e4).gap;have T3:=c3.trans c4;have X5:=T3.get hN AV AW;simp only[e4] at q;clear xj c3 c4;have nmp:ns≠[]->(0:Int)<ns.length:=fun ne=>by have:=zbL.mpr ne;lia
  refine mK fun X1 hX1=>?_;have ask:kd<3/\ns≠[]->∀H5,ao H4 H5->X1 [some (V.ref D),some (V.ref N),some (V.int (3-(m:Int))),some (V.int dh.row),some (V.int kd),none,none,none,none,none] H5:=by
   intro hc H5 s5;rw[ybr hc] at q;have WW:=s5 _ _ X5;refine(hX1 _ _).mpr ?_;walk_at "";refine⟨N,_,rfl,.inl (.of WW),?_⟩;rw[zab];refine⟨D,C,G,d4,ns.length,rfl,Ii.same s5,nmp hc.2,by lia,by lia,fun j d6 H6 e6 c6 Fn=>?_⟩;have bj:=bO e6 (nmp hc.2);refine aL (.of (c6.get WW AV AW)) (E7 bj.1 bj.2) fun p7 UX=>?_;have cc:=T3.trans ((eL.of s5).trans c6);have s7:=ao.new UX (.tup [V.str (zad "ask"),V.int dh.row,V.str (L2.S (PG.pick [] ns j))]);refine q (.ask dh.row (PG.pick [] ns j)) d6 _ _ ?_ (cc.trans (eL.of s7)) (Fn.same s7) (js UX cc.nX (bC.cons Own.str (bC.cons Own.int (bC.cons Own.str bC.nil))));simp only[e6]
  have r1:¬(kd<3/\ns≠[])->∀H5,ao H4 H5->U6 [some (V.ref D),some (V.ref N),some (V.int (3-(m:Int))),some (V.int dh.row),some (V.int kd),none,none,none,none,none] H5:=by
   intro hc H5 s5;rw[ybq hc] at q;clear ask hX1 hc;have WW:=s5 _ _ X5;have AE:=Ii.same s5;have c05:=T3.trans (eL.of s5);clear X5 Ii T3 s5 H4;refine(AU _ _).mpr (ai fun U7 Jg=>?_);clear AU;refine mK fun X2 hX2=>?_;have put:kd<5/\ns≠[]->∀H6,ao H5 H6->X2 [some (V.ref D),some (V.ref N),some (V.int (3-(m:Int))),some (V.int dh.row),some (V.int kd),none,none,none,none,none] H6:=by
    intro hc H6 s6;rw[ybr hc] at q;have ZO:=s6 _ _ WW;refine(hX2 _ _).mpr ?_;walk_at "";refine⟨N,_,rfl,.inl (.of ZO),?_⟩;rw[zab];refine⟨D,C,G,d4,ns.length,rfl,AE.same s6,nmp hc.2,by lia,by lia,fun j d7 H7 e7 c7 qL=>?_⟩;have bj:=bO e7 (nmp hc.2);have p7:=ba e7;have ZP:=c7.get ZO AV AW;refine aL (.of ZP) (E7 bj.1 bj.2) ⟨D,C,G,N,d7,ns,1,rfl,by decide,by have e:(2:Int) ^ 1=2:=rfl;rw[e];lia,qL,ZP,AV,AW,hl,fun e d8 v H8 e8 c8 wH o8 p9 Gi=>?_⟩;have NI:=c05.trans ((eL.of s6).trans c7);have cc:=NI.trans c8;have s9:=ao.new Gi (.tup [V.str (zad "put"),V.int dh.row,V.str (L2.S (PG.pick [] ns j)),v]);refine q (.put dh.row (PG.pick [] ns j) e) d8 _ _ ?_ (cc.trans (eL.of s9)) (wH.same s9) (js Gi cc.nX (bC.cons Own.str (bC.cons Own.int (bC.cons Own.str (bC.cons (o8.back NI.nX) bC.nil)))));simp only[e7,e8]
   have r2:¬(kd<5/\ns≠[])->∀H6,ao H5 H6->U7 [some (V.ref D),some (V.ref N),some (V.int (3-(m:Int))),some (V.int dh.row),some (V.int kd),none,none,none,none,none] H6:=by
    intro hc H6 s6;rw[ybq hc] at q;clear put hX2 hc;have ZO:=s6 _ _ WW;have Fn:=AE.same s6;have X6:=c05.trans (eL.of s6);clear WW AE c05 s6 H5;refine(Jg _ _).mpr (ai fun U8 WX=>?_);clear Jg;walk_at "";refine dR (fun h7=>?_) (fun h7=>?_)
    .rw[ybr h7] at q;refine⟨D,C,G,N,d4,ns,1,rfl,by decide,by have e:(2:Int) ^ 1=2:=rfl;rw[e];lia,Fn,ZO,AV,AW,hl,fun e d8 v H8 e8 c8 wH o8 p9 Gi=>?_⟩;have cc:=X6.trans c8;have s9:=ao.new Gi (.tup [V.str (zad "say"),V.int dh.row,v]);refine q (.say dh.row e) d8 _ _ ?_ (cc.trans (eL.of s9)) (wH.same s9) (js Gi cc.nX (bC.cons Own.str (bC.cons Own.int (bC.cons (o8.back X6.nX) bC.nil))));simp only[e8]
    .rw[ybq h7] at q;refine(WX _ _).mpr (ai fun U9 ZQ=>?_);clear WX;have cond:∀(d5:Dk) (H7:Hp),eL D C H H7->eX H7 D C G d5->d5.pos<=d.pos+3->d5.gap=d.gap->(∀s d' v H',pU st ns dh.row kd d5=(s,d')->eL D C H H'->eX H' D C G d'->Own K H H' (b3 s) v->Q v H')->U9 [some (V.ref D),some (V.ref N),some (V.int (3-(m:Int))),some (V.int dh.row),some (V.int kd),none,none,none,none,none] H7:=by
      intro d5 H7 NI qL p5 g5 q;clear X6 Fn ZO;have ZP:=NI.get hN AV AW;unfold pU at q;refine(ZQ _ _).mpr (ai fun V1 yV=>?_);clear ZQ;walk_at "";refine⟨D,C,G,d5,2,rfl,qL,by decide,by decide,by lia,fun z d8 H8 e8 c8 wH=>?_⟩;have bz:=bO e8 (by decide);have p8:=ba e8;have g8:=(bK e8).gap;obtain⟨c,hc,ec⟩:=WK bz.1 bz.2;refine⟨_,_,c,rfl,rfl,by decide,hc,?_⟩;rw[ec];refine(yV _ _).mpr (ai fun V2 Gj=>?_);clear yV;have hN8:=c8.get ZP AV AW;walk_at "";refine⟨D,C,G,N,d8,ns,1,rfl,by decide,by have e:(2:Int) ^ 1=2:=rfl;rw[e];lia,wH,hN8,AV,AW,hl,fun l d9 v1 H9 e9 c9 X7 o9=>(Gj _ _).mpr (ai fun V3 T4=>?_)⟩;clear Gj;have p9:=qB e9;have g9:=(zU e9).gap;have hN9:=c9.get hN8 AV AW;walk_at "";refine⟨D,C,G,N,d9,ns,1,rfl,by decide,by have e:(2:Int) ^ 1=2:=rfl;rw[e];lia,X7,hN9,AV,AW,hl,fun r da v2 Ha ea ca dka oa=>(T4 _ _).mpr (ai fun V4 UY=>?_)⟩;clear T4;have pa:=qB ea;have ga:=(zU ea).gap;simp only[e8,e9,ea] at q;have c0a:eL D C H Ha:=NI.trans (c8.trans (c9.trans ca));have o1:Own K H Ha (iD l) v1:=(o9.back (NI.trans c8).nX).chg ca Cw Cy;have o2:Own K H Ha (iD r) v2:=oa.back (NI.trans (c8.trans c9)).nX;have ZR:=ca.get hN9 AV AW;have ga:da.gap=d.gap:=by rw[ga,g9,g8,g5]
      have pa:da.pos<=d.pos+24:=by lia
      clear p8 p9 g8 g9 hN8 hN9 ZP qL wH X7 NI c8 c9 ca o9 oa e8 e9 ea hc ec;generalize PG.pick [] AO z=sg at *;refine mK fun X3 hX3=>?_;have bE:(kd<9\/m=0)->X3 [some (V.ref D),some (V.ref N),some (V.int (3-(m:Int))),some (V.int dh.row),some (V.int kd),some (V.str (S sg)),some v1,some v2,none,none] Ha:=by
       intro hc;refine(hX3 _ _).mpr ?_;walk_at "";intro p hp;have s9:=ao.new hp (.tup [V.str (zad "must"),V.int dh.row,V.str (S sg),v1,v2]);refine q (.bE dh.row sg l r) da _ _ ?_ (c0a.trans (eL.of s9)) (dka.same s9) (js hp c0a.nX (bC.cons Own.str (bC.cons Own.int (bC.cons Own.str (bC.cons o1 (bC.cons o2 bC.nil))))));unfold E3;rcases hc with hc |hc
       .cases st with
        |none=>rfl
        |some s=>simp only;rw[ybr hc]
       .rw[st0 hc]
      walk_at "";refine dR (fun h9=>(ybr trivial).mpr (bE (.inl h9))) (fun h9=>dR (fun h3=>bE (.inr (by lia))) (fun h3=>(UY _ _).mpr (ai fun V5 ZS=>?_)));clear UY bE hX3;obtain⟨m',rfl⟩:∃m',m=m'+1:=⟨m-1,by lia⟩
      have est:=qX m' rfl;subst est;have sb':=zS m';have agH:d.pos+(30+8*PG.sB m')<=2 ^ 49:=Fm;unfold E3 at q;simp only at q;rw[ybq h9] at q;have gok:∀dd:Dk,dd.gap=d.gap->fB dd:=fun dd e=>by unfold fB;rw[e];exact TZ
      have ZT:(3-((m'+1:Nat):Int)+1)=3-(m':Int):=by lia
      walk_at "";rw[ZT];refine⟨D,C,G,N,da,ns,m',rfl,by lia,by lia,by lia,gok da ga,dka,ZR,AV,AW,hl,fun a db L1 Nn Hb eb cb X8 ZU Jh ob=>(ZS _ _).mpr (ai fun V6 ZV=>?_)⟩;clear ZS;have pb:=rh sb' (vq ns m') da;have gb:=rm (vt ns m') da;rw[eb] at pb gb;simp only at pb gb;simp only[eb] at q;walk_at "";have c0b:=c0a.trans cb;have o1b:=o1.chg cb Cw Cy;have o2b:=o2.chg cb Cw Cy;have oL:Own K H Hb (.lst (a.map b3)) (.ref L1):=yU ob Jh ZU c0a.nX;refine dR (fun Np=>Fp X8 _ fun Hc cc dkc p hp=>?_) (fun Np=>(ZV _ _).mpr (ai fun V7 hV7=>?_))
      .rw[ybr Np] at q;have c0c:=c0b.trans cc;have s9:=ao.new hp (.tup [V.str (zad "while"),V.int dh.row,V.str (S sg),v1,v2,V.ref L1]);refine q (.fM dh.row sg l r a) _ _ _ rfl (c0c.trans (eL.of s9)) (dkc.same s9) ?_;rw[b3,ic];exact js hp c0c.nX (bC.cons Own.str (bC.cons Own.int (bC.cons Own.str (bC.cons (o1b.chg cc Cw Cy) (bC.cons (o2b.chg cc Cw Cy) (bC.cons (oL.chg cc Cw Cy) bC.nil))))))
      rw[ybq Np] at q;clear ZV;walk_at "";intro L2 hL2;refine(hV7 _ _).mpr (ai fun V8 hV8=>?_);clear hV7;generalize nG:upd Hb L2 (.lst [])=Hc at *;obtain⟨Fq,Sm⟩:=bX nG hL2;have adE:=X8.same Fq;have c10:eL D C Hb Hc:=eL.of Fq;have fin:∀(xs:List aT) (de:Dk) (He:Hp) (L3:zdi),eL D C Hb He->eX He D C G de->Own K H He (.lst (xs.map b3)) (.ref L3)->(∀v H',eL D C H H'->eX H' D C G (jU de)->Own K H H' (b3 (.ifs dh.row sg l r a xs)) v->Q v H')->V8 [some (V.ref D),some (V.ref N),some (V.int (3-((m'+1:Nat):Int))),some (V.int dh.row),some (V.int kd),some (V.str (S sg)),some v1,some v2,some (V.ref L1),some (V.ref L3)] He:=by
       intro xs de He L3 ce ZW oe q;have c0e:=c0b.trans ce;refine(hV8 _ _).mpr (ai fun V9 hV9=>?_);walk_at "";refine Fp ZW _ fun Hf cf ZX=>(hV9 _ _).mpr ?_;walk_at "";intro p hp;have s9:=ao.new hp (.tup [V.str (zad "if"),V.int dh.row,V.str (S sg),v1,v2,V.ref L1,V.ref L3]);have c0f:=c0e.trans cf;refine q _ _ (c0f.trans (eL.of s9)) (ZX.same s9) ?_;rw[b3,ic,ic];exact js hp c0f.nX (bC.cons Own.str (bC.cons Own.int (bC.cons Own.str (bC.cons ((o1b.chg ce Cw Cy).chg cf Cw Cy) (bC.cons ((o2b.chg ce Cw Cy).chg cf Cw Cy) (bC.cons ((oL.chg ce Cw Cy).chg cf Cw Cy) (bC.cons (oe.chg cf Cw Cy) bC.nil)))))))
      walk_at "";refine⟨D,C,G,db,2,rfl,adE,by decide,by decide,by lia,fun tt dd Hd ed cd dkd=>⟨rfl,?_⟩⟩;have pd:=ba ed;have gd:=(bK ed).gap;simp only[ed] at q;have cbd:=c10.trans cd;by_cases ht:tt=1
      .subst ht;rw[ybr rfl] at q;refine(ybr rfl).mpr (Fp dkd _ fun He ce ZW=>?_);rw[ZT];have hNe:=(cb.trans (cbd.trans ce)).get ZR AV AW;refine⟨D,C,G,N,jU dd,ns,m',rfl,by lia,by lia,by show dd.pos+1+4*PG.sB m'<=2 ^ 49;lia,gok _ (by show dd.gap=d.gap;rw[gd,gb,ga]),ZW,hNe,AV,AW,hl,fun b df L3 us3 Hf ef cf ZX hL3 T2 of3=>?_⟩;simp only[ef] at q;exact fin b df Hf L3 ((cbd.trans ce).trans cf) ZX (yU of3 T2 hL3 (c0b.trans (cbd.trans ce)).nX) fun v H'=>q _ _ v H' rfl
      .rw[ybq ht] at q;refine(ybq (by intro y;cases y;exact ht rfl)).mpr (fin [] dd Hd L2 cbd dkd ?_ fun v H'=>q _ _ v H' rfl);exact(yU (ds:=[]) (us:=[]) bC.nil Sm hL2 c0b.nX).chg cd Cw Cy
     have g4':d4.gap=d.gap:=by rw[g4,gh]
     walk_at "";refine dR (fun h7e=>?_) (fun h7e=>(ybq zag).mpr (cond d4 H6 X6 Fn (by lia) g4' (fun s d' v H' e=>q s d' v H' (by rw[ybq h7e];exact e))));rw[ybr h7e] at q;refine⟨D,C,G,d4,3,rfl,Fn,by decide,by decide,by lia,fun z d8 H8 e8 c8 wH=>?_⟩;simp only[e8] at q;have p8:=ba e8;have g8:=(bK e8).gap;refine⟨rfl,?_⟩;by_cases hz:z=0
     .subst hz;rw[ybr rfl] at q;refine(ybr rfl).mpr fun p9 Gi=>?_;have cc:=X6.trans c8;have s9:=ao.new Gi (.tup [V.str (zad "stop"),V.int dh.row]);exact q (.stop dh.row) d8 _ _ rfl (cc.trans (eL.of s9)) (wH.same s9) (js Gi cc.nX (bC.cons Own.str (bC.cons Own.int bC.nil)))
     .rw[ybq hz] at q;exact(ybq (by intro y;cases y;exact hz rfl)).mpr (cond d8 H8 (X6.trans c8) wH (by lia) (by rw[g8,g4']) q)
   walk_at "";refine dR (fun h5 p hp=>?_) (fun h5=>(ybq zag).mpr (r2 (fun z=>h5 z.1) H5 (.refl _)));have s6:=ao.new hp (.lst []);refine⟨N,p,_,rfl,rfl,.of (s6 _ _ WW),.of ah,?_⟩;cases hc:ns with
   |nil=>exact(ybq (by simp)).mpr (r2 (fun z=>z.2 hc) _ s6)
   |cons z zs=>exact(ybr (by simp)).mpr (put ⟨h5,by rw[hc];simp⟩ _ s6)
  walk_at "";refine dR (fun h3 p hp=>?_) (fun h3=>(ybq zag).mpr (r1 (fun z=>h3 z.1) H4 (.refl _)));have s6:=ao.new hp (.lst []);refine⟨N,p,_,rfl,rfl,.of (s6 _ _ X5),.of ah,?_⟩;cases hc:ns with
  |nil=>exact(ybq (by simp)).mpr (r1 (fun z=>z.2 hc) _ s6)
  |cons z zs=>exact(ybr (by simp)).mpr (ask ⟨h3,by rw[hc];simp⟩ _ s6)
 walk_at "";refine aL (.of sX.cY) (aF (j:=5) rfl) ⟨_,_,rfl,rfl,?_⟩;refine⟨_,rfl,?_⟩;have gl:d.gap<=30:=by rcases TZ with h |h |h<;>rw[h]<;>decide
 by_cases hg:d.gap>1
 .refine(ybr (ybs hg)).mpr (aL (.of sX.cY) (aF (j:=4) rfl) (aL (.of sX.cY) (aF (j:=5) rfl) ⟨D,C,G,_,d.gap,rfl,sX,by lia,by lia,by simp only;lia,fun x d3 H3 e3 c3 xj=>⟨_,_,rfl,rfl,D,_,4,4,rfl,rfl,xj.cY,rfl,?_⟩⟩));obtain⟨Ii,c4⟩:=xk (d':={d3 with row:=d3.row+x}) xj rfl rfl rfl;have er:d3.row=d.row+1:=(bK e3).row;have eh:bS d={d3 with row:=d3.row+x}:=by
   unfold bS;rw[ybr hg,e3]
  show U3 _ (upd H3 D (.lst [.ref C,.int d3.pos,.ref G,.int d3.left,.int (d.row+1+x),.int d3.gap]));rw[<- er];exact head _ (c2.trans (c3.trans c4)) (by rw[eh];exact Ii)
 .refine(ybq (by rw[ybt hg];exact zag)).mpr (head H2 c2 ?_);have eh:bS d={d with left:=d.left-1,row:=d.row+1}:=by
   unfold bS;rw[ybq hg]
  rw[eh];exact sX
theorem My(T:Tx K mg t):∀n,bq P w K mg base dF (2*n+2) t.bW t.bQ ["deck", "names", "deep"] (Hs K n)
 |0=>by
  have no:∀vs H Q E,¬Hs K 0 vs H Q E:=fun vs H Q E h=>by cases h;lia
  exact⟨fun vs H Q E h=>ybw h (no vs H Q E),fun A outer s H args us vs Q E _ _ _ _ h=>ybw h (no vs H Q E)⟩
 |n+1=>WV T (Ri T (My T n))
theorem Ek{ns:List Int}{r:St}(f:Int->V)(hS:jJ K H a (ns.map V.int))(hl:ns.length<=16000000)(hD:H D=none)
 (step:∀z H2,ao H H2->∀R:VK,R (f z) H2->te (some (.int z)::r) H2 R)
 (q:∀H2,ao H H2->H2 D=some (.lst (ns.map f))->Q (.ref D) H2):jf (AZ K a) D (cF 0) me te Q (none::r) (upd H D (.lst [])):=by
 refine dP (fun i ys _=>ys=(ns.take i).map f) hS (by rw[zab];exact hl) hD (by simp) (fun i x ys H2 hx s2 h2 ly p2 R hR=>?_) (fun ys H2 s2 h2 p2=>q H2 s2 ?_)
 .rw[zaf] at hx;obtain⟨z,hz,rfl⟩:=zaT.mp hx;refine step z H2 s2 R (hR _ _ (.refl _) ?_);show ys++[f z]=(ns.take (i+1)).map f;rw[p2,zbW,hz,zas];rfl
 .have p2:ys=(ns.take (ns.map V.int).length).map f:=p2;rw[zab,zaH] at p2;rw[<- p2];exact h2
theorem Ft(T:Tx K mg t):bq P w K mg base dF 1 t.o7 t.mU ["script"] (WJ K):=by
 refine T.pK.F.okN yH fun _ _ _ _ H vs Q E hr h=>?_;obtain⟨a,ns,rfl,hS,ZY,q⟩:=h;have nd:=yH.nd;refine⟨_,[some (V.ref a),none],(ag (mI (i:=1) nd rfl (zbe rfl) (own:=["cell"]) (ix:=[]) rfl (by rfl) (by rfl) (bt (cW jo (pv 0) fq (dZ aw))) (fun _ _ _ _=>(oK 0 (by show List.Nodup (["cell"]:List Str);decide +kernel))) (fun _ _ _ _=>ei) (fun _ _ _ _=>(gu Uw (pv 0) (aY Ju aw aw) (aH _))))
 (ak (aB (aR (aa (lM (bt (cW jo (pv 0) fq (dZ aw))) (fun _ _ _ _=>(aY tO (pv 0) (aY tP (aY Ju aw aw) (bH gK rfl T.wF ybB (aa (gu Uw (pv 0) (aY Ju aw aw) (aH _)) ae pT)))))) (aa aw (a8 1 (aa aw (aa aw (aa aw ae aE) aE) aE)) aE) fK))))),rfl,?_⟩
 have line:zdq=2 ^ 24:=rfl;have ZZ:YM 10 18:=⟨by decide,by decide,by decide⟩
 have e18:(10:Int) ^ Int.toNat 18=10 ^ 18:=rfl;refine ai fun U1 cM=>?_;walk_at "";simp only[cJ];walk_at "";refine⟨_,rfl,a,_,rfl,hS,fun S CL=>⟨S,rfl,?_⟩⟩;rw[UJ ns ZY];generalize nG:upd H S (.lst (ns.map V.int))=H1 at *;obtain⟨s1,y1⟩:=bX nG CL;refine⟨⟨_,.of y1⟩,fun G hG=>Ek (fun z=>V.bl (decide (z ≥ 10 ^ 18))) (.of y1) (by lia) hG (fun z H2 s2 R hR=>?_) (fun H2 s2 y2=>(cM _ _).mpr ?_)⟩
 .walk_at "";exact⟨ZZ,hR⟩
 clear cM;have hG0:H G=none:=ik s1 hG;have sG:ao H H2:=s1.trans s2;walk_at "";simp only[cJ];walk_at "";refine⟨_,rfl,a,_,rfl,sG.seq hS,fun S3 hS3=>⟨S3,rfl,?_⟩⟩;rw[UJ ns ZY];generalize Ae:upd H2 S3 (.lst (ns.map V.int))=H3 at *;obtain⟨s3,y3⟩:=bX Ae hS3;refine⟨⟨_,.of y3⟩,fun C hC=>Ek (fun z=>V.int (if z ≥ 10 ^ 18 then z-10 ^ 18 else z)) (.of y3) (by lia) hC (fun z H4 s4 R hR=>?_) (fun H4 s4 y4 D hD=>?_)⟩
 .walk_at "";by_cases hz:z ≥ (10:Int) ^ 18
  .rw[show decide ((10:Int) ^ Int.toNat 18<=z)=true from ybs hz];rw[ybr hz] at hR;refine⟨ZZ,ZZ,true,rfl,mulR (by decide) (by decide),?_⟩;rw[ybr rfl,zcZ];exact hR
  .rw[show decide ((10:Int) ^ Int.toNat 18<=z)=false from ybt hz];rw[ybq hz] at hR;refine⟨ZZ,ZZ,false,rfl,mulR (by decide) (by decide),?_⟩;rw[ybq zag,Int.mul_zero,Int.sub_zero];exact hR
 .have uX:=sG.trans (s3.trans s4);have y2':=(s3.trans s4) _ _ y2;have sD:=ao.new hD (.lst [V.ref C,V.int 0,V.ref G,V.int 0,V.int 0,V.int 0]);refine q D C G _ (uX.trans sD) (ik uX hD) (ik (sG.trans s3) hC) ⟨ah,?_,?_,(aj y4 hD).symm,(aj y2' hD).symm,(aj (s3 _ _ y2) hC).symm,?_,?_,zcF _⟩
  .rw[sD _ _ y4];unfold zP;simp only[zaB];rfl
  .rw[sD _ _ y2'];unfold zP;simp only[zaB];rfl
  .unfold zP;simp only[zab];exact ZY
  .unfold zP;simp only[zab]
theorem xl:∀(k:Nat)(d:Dk),(iy st k d).1.length<=k
 |0,d=>zah _
 |k+1,d=>by
  rw[iy];split
  .have:=xl (st:=st) k (st d).2;simp only[zal];lia
  .have:=xl (st:=st) k d;lia
theorem xm(h:gW st d=(b,d')):b.length<=4:=by
 have:=xl (st:=st) (PG.draw d 5).1.toNat (PG.draw d 5).2;have e:=ybv (fun x=>x.1) h;unfold gW at e;simp only at e;rw[e] at this;have:=Mb d (many:=5) (by decide);lia
theorem B7(o:bC K H0 H ds us):us.length=ds.length:=(o (fun _=>False) fun _ h=>h.elim).CH.length
theorem wI(T:Tx K mg t):bq P w K mg base dF 12 t.mV t.kU ["deck", "most"] (HW K):=by
 have aU:=hX (P:=P) (w:=w) (base:=base) T;have dN:=Ri (P:=P) (w:=w) (base:=base) T (My (P:=P) (w:=w) (base:=base) T 4);refine T.j6.F.okN wk fun _ _ _ _ H vs Q E hr h=>?_;obtain⟨D,C,G,d,most,rfl,dk,hm,Fm,q⟩:=h;have nd:=wk.nd;refine⟨_,[some (V.ref D),some (V.int most),none,none,none,none,none],(@ag _ _ _ _ _ (@ma _ _ 2 _ _ _ _ nd rfl (zbe rfl) (@aR _ _ _ _ (@ae _)) (by walk_at "x") (by walk_at "x")) (@ag _ _ _ _ _ (@ma _ _ 3 _ _ _ _ nd rfl (zbe rfl) (@bL _ _ _ _ _ _ _ (@bU _) (@aR _ _ _ _ (@aa _ _ _ _ _ (@aR _ _ _ _ (@ae _)) (@aa _ _ _ _ _ (@aR _ _ _ _ (@aa _ _ _ _ _ (@aV _ _ _ _) (@ae _) (@aE _ _ _ _ _))) (@aa _ _ _ _ _ (@aR _ _ _ _ (@eQ _ _ ([.str "a",.str "ab"]) (by kernel_rfl))) (@aa _ _ _ _ _ (@aR _ _ _ _ (@eQ _ _ ([.str "ab",.str "a"]) (by kernel_rfl))) (@ae _) (@jO _ _ _ _)) (@jO _ _ _ _)) (@jO _ _ _ _)) (@jO _ _ _ _))) (@oO _ _ _ _ _ _ _ _ _ _ _ _ _ _ _ _ aU (hr.mono (by first|decide|omega)) rfl T.aM.m T.aM.F.kp T.aM.b .nil nW (@aa _ _ _ _ _ (pv 0) (@aa _ _ _ _ _ (@aw _ _ _ _) (@ae _) (@aE _ _ _ _ _)) (@cK _ _ _ _)) (by walk_at "x") (by walk_at "x") (by walk_at "x")) iz) (by walk_at "x") (by walk_at "x")) (@ag _ _ _ _ _ (@gR _ _ _ _ _ _ _ _ yag rfl (@bt _ _ _ _ (pv 3)) (@kM _ _ 4 _ nd rfl (zbe rfl) (by walk_at "x")) (@ag _ _ _ _ _ (@ma _ _ 5 _ _ _ _ nd rfl (zbe rfl) (@aw _ _ _ _) (by walk_at "x") (by walk_at "x")) (@ag _ _ _ _ _ (@aW _ _ _ _ _ _ _ _ (@az _ _ _ _ _ _ _ _ (@bB _) (@eT _ _ _ _ _ _ _ _ _ (@cn _) rfl T.pM ybD (@aa _ _ _ _ _ (pv 3) (@ae _) (@cK _ _ _ _)) (by walk_at "x") (by walk_at "x") (by walk_at "x") (by walk_at "x")) (@aw _ _ _ _) (aH _)) (@ak _ _ _ (@ma _ _ 5 _ _ _ _ nd rfl (zbe rfl) (@aY _ _ _ _ _ _ _ _ (@fC _) (@aw _ _ _ _) (@oO _ _ _ _ _ _ _ _ _ _ _ _ _ _ _ _ aU (hr.mono (by first|decide|omega)) rfl T.aM.m T.aM.F.kp T.aM.b .nil nW (@aa _ _ _ _ _ (pv 0) (@aa _ _ _ _ _ (@aw _ _ _ _) (@ae _) (@aE _ _ _ _ _)) (@cK _ _ _ _)) (by walk_at "x") (by walk_at "x") (by walk_at "x"))) (by walk_at "x") (by walk_at "x"))) (@aG _)) (@ak _ _ _ (@dX _ _ _ _ (@j7 _ _ _ _ _ _ _ _ _ _ _ _ zaA zaN zaO fG (pv 2) (@aa _ _ _ _ _ (@aK _ _ _ _ _ (@aa _ _ _ _ _ (pv 4) (@aa _ _ _ _ _ (pv 5) (@aa _ _ _ _ _ (@oO _ _ _ _ _ _ _ _ _ _ _ _ _ _ _ _ aU (hr.mono (by first|decide|omega)) rfl T.aM.m T.aM.F.kp T.aM.b .nil nW (@aa _ _ _ _ _ (pv 0) (@aa _ _ _ _ _ (pv 5) (@ae _) (@cK _ _ _ _)) (@cK _ _ _ _)) (by walk_at "x") (by walk_at "x") (by walk_at "x")) (@ae _) (@bw _ _ _ _ _ _)) (@cK _ _ _ _)) (@cK _ _ _ _))) (@ae _) (@dO _ _ _ _ _)) (by walk_at "x") (by walk_at "x") (by walk_at "x") (by walk_at "x") (by walk_at "x")) (by walk_at "x"))))) (by walk_at "x")) (@ag _ _ _ _ _ (@gQ _ _ _ _ _ _ (@bL _ _ _ _ _ _ _ (@bU _) (@aR _ _ _ _ (@eQ _ _ ([.int 0,.int 0,.int 1,.int 30]) (by kernel_rfl))) (@oO _ _ _ _ _ _ _ _ _ _ _ _ _ _ _ _ aU (hr.mono (by first|decide|omega)) rfl T.aM.m T.aM.F.kp T.aM.b .nil nW (@aa _ _ _ _ _ (pv 0) (@aa _ _ _ _ _ (@aw _ _ _ _) (@ae _) (@aE _ _ _ _ _)) (@cK _ _ _ _)) (by walk_at "x") (by walk_at "x") (by walk_at "x")) iz) (l9 (pv 0) (@aw _ _ _ _) set_list) (by walk_at "x") (by walk_at "x") (by walk_at "x")) (@ag _ _ _ _ _ (@gQ _ _ _ _ _ _ (pv 1) (l9 (pv 0) (@aw _ _ _ _) set_list) (by walk_at "x") (by walk_at "x") (by walk_at "x")) (@ag _ _ _ _ _ (@gQ _ _ _ _ _ _ (@eT _ _ _ _ _ _ _ _ _ (@cn _) rfl T.pM ybD (@aa _ _ _ _ _ (pv 2) (@ae _) (@cK _ _ _ _)) (by walk_at "x") (by walk_at "x") (by walk_at "x") (by walk_at "x")) (l9 (pv 0) (@aw _ _ _ _) set_list) (by walk_at "x") (by walk_at "x") (by walk_at "x")) (@ag _ _ _ _ _ (@mI _ _ _ _ _ _ _ ["box"] [] _ _ _ _ 3 _ _ _ nd rfl (zbe rfl) rfl (by rfl) (by rfl) (@bt _ _ _ _ (pv 2)) (fun _ _ _ _=>(@kM _ _ 0 _ (by show List.Nodup (["box"]:List Str);decide +kernel) rfl (zbe rfl) (by walk_at "x"))) (fun _ _ _ _=>(@ei _)) (fun _ _ _ _=>(@bL _ _ _ _ _ _ _ (@EN _ K rfl) (pv 0) (@aw _ _ _ _) (@bI _ _ _))) (by walk_at "x") (by walk_at "x") (by walk_at "x")) (@ag _ _ _ _ _ (@ma _ _ 6 _ _ _ _ nd rfl (zbe rfl) (@aY _ _ _ _ _ _ _ _ (@fX _) (@aY _ _ _ _ _ _ _ _ (@fX _) (@oO _ _ _ _ _ _ _ _ _ _ _ _ _ _ _ _ dN (hr.mono (by first|decide|omega)) rfl T.bo.m T.bo.F.kp T.bo.b .nil nW (@aa _ _ _ _ _ (pv 0) (@aa _ _ _ _ _ (pv 3) (@aa _ _ _ _ _ (@aw _ _ _ _) (@ae _) (@aE _ _ _ _ _)) (@cK _ _ _ _)) (@cK _ _ _ _)) (by walk_at "x") (by walk_at "x") (by walk_at "x")) (@oO _ _ _ _ _ _ _ _ _ _ _ _ _ _ _ _ dN (hr.mono (by first|decide|omega)) rfl T.bo.m T.bo.F.kp T.bo.b .nil nW (@aa _ _ _ _ _ (pv 0) (@aa _ _ _ _ _ (pv 3) (@aa _ _ _ _ _ (@aw _ _ _ _) (@ae _) (@aE _ _ _ _ _)) (@cK _ _ _ _)) (@cK _ _ _ _)) (by walk_at "x") (by walk_at "x") (by walk_at "x"))) (@oO _ _ _ _ _ _ _ _ _ _ _ _ _ _ _ _ dN (hr.mono (by first|decide|omega)) rfl T.bo.m T.bo.F.kp T.bo.b .nil nW (@aa _ _ _ _ _ (pv 0) (@aa _ _ _ _ _ (pv 3) (@aa _ _ _ _ _ (@aw _ _ _ _) (@ae _) (@aE _ _ _ _ _)) (@cK _ _ _ _)) (@cK _ _ _ _)) (by walk_at "x") (by walk_at "x") (by walk_at "x"))) (by walk_at "x") (by walk_at "x")) (@ak _ _ _ (@aB _ _ _ _ (@aK _ _ _ _ _ (@aa _ _ _ _ _ (pv 2) (@aa _ _ _ _ _ (pv 6) (@ae _) (@cK _ _ _ _)) (@cK _ _ _ _))))))))))))),rfl,?_⟩;have line:zdq=2 ^ 24:=rfl;have Cw:=dk.dD;have Cy:=dk.dC;refine ai fun U1 cM=>?_;walk_at "";intro B hB;refine(cM _ _).mpr (ai fun U2 fh=>?_);clear cM;generalize nG:upd H B (.lst [])=H1 at *;obtain⟨s1,yB1⟩:=bX nG hB;have uW:=dk.same s1;have nB:B≠D/\B≠C/\G≠B:=⟨(aj dk.cY hB).symm,(aj dk.cs hB).symm,aj dk.gs hB⟩
 have c1:eL D C H H1:=eL.of s1;have Rj:=uW.dD;have hC1:=uW.dC;have dB1:H1 B≠none:=by rw[yB1];simp
 walk_at "";intro A0 Z0 A1 hA1 A2 hA2 A3 hA3 AL hAL;have sa:=ao.new Z0 (.lst []);have sb:=ao.new hA1 (.lst [V.str (zad "a")]);have sc:=ao.new hA2 (.lst [V.str (zad "a"),V.str (zad "ab")]);have sd:=ao.new hA3 (.lst [V.str (zad "ab"),V.str (zad "a")]);have se:=ao.new hAL (.lst [V.ref A0,V.ref A1,V.ref A2,V.ref A3]);have y0:=se _ _ (sd _ _ (sc _ _ (sb _ _ (ah (H:=H1) (a:=A0) (o:=.lst [])))));have y1:=se _ _ (sd _ _ (sc _ _ (ah (a:=A1) (o:=.lst [V.str (zad "a")]))));have y2:=se _ _ (sd _ _ (ah (a:=A2) (o:=.lst [V.str (zad "a"),V.str (zad "ab")])));have y3:=se _ _ (ah (a:=A3) (o:=.lst [V.str (zad "ab"),V.str (zad "a")]));have y4:=ah (H:=upd (upd (upd (upd H1 A0 (.lst [])) A1 (.lst [V.str (zad "a")])) A2 (.lst [V.str (zad "a"),V.str (zad "ab")])) A3 (.lst [V.str (zad "ab"),V.str (zad "a")])) (a:=AL) (o:=.lst [V.ref A0,V.ref A1,V.ref A2,V.ref A3]);have B8:=sa.trans (sb.trans (sc.trans (sd.trans se)));have nA:∀(x:zdi),H1 x=none->x≠D/\x≠C/\x≠B:=fun x hx=>⟨(aj uW.cY hx).symm,(aj uW.cs hx).symm,(aj yB1 hx).symm⟩
 have f1:H1 A1=none:=sa.free hA1;have f2:H1 A2=none:=(sa.trans sb).free hA2;have f3:H1 A3=none:=(sa.trans (sb.trans sc)).free hA3;have f4:H1 AL=none:=(sa.trans (sb.trans (sc.trans sd))).free hAL;clear sa sb sc sd se;generalize upd (upd (upd (upd (upd H1 A0 (.lst [])) A1 (.lst [V.str (zad "a")])) A2 (.lst [V.str (zad "a"),V.str (zad "ab")])) A3 (.lst [V.str (zad "ab"),V.str (zad "a")])) AL (.lst [V.ref A0,V.ref A1,V.ref A2,V.ref A3])=H2 at *;refine⟨D,C,G,d,4,rfl,uW.same B8,by decide,by decide,by lia,fun mm d1 H3 e1 c3 xj=>?_⟩;have bm:=bO e1 (by decide);have p1:=ba e1;obtain⟨Ln,ns,jV,yLn,nLn,ndn,lns⟩:∃(Ln:zdi) (ns:List PM.W),CF [V.ref A0,V.ref A1,V.ref A2,V.ref A3] mm=some (.ref Ln)/\H3 Ln=some (.lst (ns.map fun n=>V.str (S n)))/\(Ln≠D/\Ln≠C/\Ln≠B)/\ns.Nodup/\ns.length<=2:=by
  have z4:mm=0\/mm=1\/mm=2\/mm=3:=by lia
  rcases z4 with rfl |rfl |rfl |rfl
  .exact⟨A0,[],aF (j:=0) rfl,c3.get y0 (nA _ Z0).1 (nA _ Z0).2.1,nA _ Z0,by decide,by decide⟩
  .exact⟨A1,[[97]],aF (j:=1) rfl,c3.get y1 (nA _ f1).1 (nA _ f1).2.1,nA _ f1,by decide,by decide⟩
  .exact⟨A2,[[97],[97,98]],aF (j:=2) rfl,c3.get y2 (nA _ f2).1 (nA _ f2).2.1,nA _ f2,by decide,by decide⟩
  .exact⟨A3,[[97,98],[97]],aF (j:=3) rfl,c3.get y3 (nA _ f3).1 (nA _ f3).2.1,nA _ f3,by decide,by decide⟩
 refine aL (.of (c3.get y4 (nA _ f4).1 (nA _ f4).2.1)) jV ((fh _ _).mpr (ai fun U9 ZQ=>?_));clear fh;have yB3:=c3.get (B8 _ _ yB1) nB.1 nB.2.1;have Z3:eL D C H1 H3:=(eL.of B8).trans c3;clear y0 y1 y2 y3 y4 jV Z0 f1 f2 f3 f4 nA e1 c3 B8;have up:∀(Hx:Hp) (ys:List V) (ds:List Dp) (vs:List V),bC K H1 Hx ds vs->bC K H1 (upd Hx B (.lst ys)) ds vs:=fun Hx ys ds vs f=>f.up ((a9.refl B Hx).put _) dB1;refine jg fun U hU=>?_;walk_at "";refine⟨⟨_,.of yLn⟩,hU _ _ ?_⟩;clear hU;obtain⟨Pv,nH,iF⟩:=Je fun (i:Nat) (Y:St) (Hx:Hp) zq=>∀(z4 z5:Option V) (dx:Dk) (bs:List jc) (us:List V),Y=[some (V.ref D),some (V.int most),some (V.ref B),some (V.ref Ln),z4,z5,none]->eX Hx D C G dx->Hx B=some (.lst us)->bC K H1 Hx (bs.map tV) us->us.length=bs.length->bs.map (·.name)=ns.take i->(∀b∈bs,2<=b.size/\b.size<=4/\0<=b.first/\b.first<b.size)->dx.pos<=d1.pos+2*i->Hx Ln=some (.lst (ns.map fun n=>V.str (S n)))->(∀b o,H b=some o->b≠D->b≠C->Hx b=some o)->(∀b,H1 b≠none->Hx b≠none)->zq;refine jd (K:=K) (a:=Ln) (xs:=ns.map fun n=>V.str (S n)) Pv (nH _ _ _ fun _ zk=>zk _ _ d1 [] [] rfl xj yB3 bC.nil rfl (by simp) (fun _ z=>by cases z) (by lia) yLn (fun b o e n1 n2=>Z3.get (s1 _ _ e) n1 n2) Z3.nX) (fun i Y Hx _ hv=>?_) (fun i y Y Hx hi hv=>?_) (fun Y Hx hv=>?_)
 .exact iF _ _ _ hv _ fun _ _ _ _ _ _ _ _ _ _ _ _ _ y _ _=>.of y
 .refine iF _ _ _ hv _ fun z4 z5 dx bs us ze Ej Z4 ox lu lb szs T1 ySx kx CK=>?_;subst ze;clear hv;rw[zaf] at hi;obtain⟨nm,hnm,rfl⟩:=zaT.mp hi;have li:=(zaj.mp hnm).1;simp only[cF,zba];refine ai fun V1 yV=>?_;walk_at "";refine(yV _ _).mpr (ai fun V2 Gj=>?_);clear yV;have rest:∀(sz:Int) (d6:Dk) (H6:Hp),2<=sz->sz<=4->eL D C Hx H6->eX H6 D C G d6->d6.pos<=dx.pos+1->V2 [some (V.ref D),some (V.int most),some (V.ref B),some (V.ref Ln),some (V.str (S nm)),some (V.int sz),none] H6:=by
   intro sz d6 H6 h2 h4 c6 Fn p6;refine(Gj _ _).mpr ?_;clear Gj;have yB6:=c6.get Z4 nB.1 nB.2.1;walk_at "";refine⟨.inl ⟨rfl,_,.of yB6⟩,D,C,G,d6,sz,rfl,Fn,by lia,by lia,by lia,fun f d7 H7 e7 c7 qL p8 Fo=>?_⟩;have p7:=ba e7;have bf:=bO e7 (by lia);have s8:=ao.new Fo (.tup [V.str (S nm),V.int sz,V.int f]);have yB7:=c7.get yB6 nB.1 nB.2.1;have c57:eL D C Hx H7:=c6.trans c7;have adM:∀b,H1 b≠none->H7 b≠none:=fun b h=>c57.nX b (CK b h);have o8:Own K H1 (upd H7 p8 (.tup [V.str (S nm),V.int sz,V.int f])) (tV ⟨nm,sz,f⟩) (.ref p8):=js Fo adM (bC.cons Own.str (bC.cons Own.int (bC.cons Own.int bC.nil)));have c58:eL D C Hx (upd H7 p8 (.tup [V.str (S nm),V.int sz,V.int f])):=c57.trans (eL.of s8);have wH:=qL.same s8;have yB8:=s8 _ _ yB7;generalize upd H7 p8 (.tup [V.str (S nm),V.int sz,V.int f])=H8 at *;have lbl:bs.length<=2:=by have:=ybv zaQ lb;rw[zab,zbt] at this;lia
   refine⟨B,us,.ref p8,rfl,rfl,yB8,by lia,?_⟩;have uB:a9 B H8 (upd H8 B (.lst (us++[.ref p8]))):=(a9.refl _ _).put _;refine nH _ _ _ fun _ zk=>zk _ _ d7 (bs++[⟨nm,sz,f⟩]) (us++[.ref p8]) rfl ⟨uB _ _ nB.1.symm wH.cY,uB _ _ nB.2.1.symm wH.cs,uB _ _ nB.2.2 wH.gs,wH.Me,wH.Sj,wH.Sk,wH.len,wH.gl,wH.pos⟩ ah ?_ (by simp[lu]) (by rw[zas,lb,zbW,hnm];rfl) (fun b hb=>?_) (by lia) (uB _ _ nLn.2.2 (c58.get ySx nLn.1 nLn.2.1)) (fun b o e n1 n2=>uB _ _ (aj e hB) (c58.get (kx b o e n1 n2) n1 n2)) (fun b h=>?_)
   .rw[zas];exact up _ _ _ _ (bC.snoc (ox.chg c58 Rj hC1) o8)
   .rcases zak.mp hb with hb |hb
    .exact szs b hb
    .cases zai.mp hb;exact⟨h2,h4,bf.1,bf.2⟩
   .by_cases z:b=B
    .rw[z,ah];simp
    .rw[aI z];exact c58.nX b (CK b h)
  walk_at "";refine⟨Ln,_,rfl,.inl (.of ySx),dR (fun _=>?_) (fun _=>rest 2 dx Hx (by decide) (by decide) .refl Ej (by lia))⟩;refine⟨D,C,G,dx,3,rfl,Ej,by decide,by decide,by lia,fun j d6 H6 e6 c6 Fn=>⟨_,_,rfl,rfl,?_⟩⟩;have bj:=bO e6 (by decide);have p6:=ba e6;exact rest (2+j) d6 H6 (by lia) (by lia) c6 Fn (by lia)
 .refine iF _ _ _ hv _ fun z4 z5 dx bs us ze Ej Z4 ox lu lb szs T1 ySx kx CK=>?_;subst ze;clear hv;rw[zab] at lb T1;rw[zaH] at lb;have lbl:bs.length<=2:=by have:=ybv zaQ lb;rw[zab] at this;lia
  refine(ZQ _ _).mpr (ai fun U3 gJ=>?_);clear ZQ;walk_at "";intro p5 Ei;generalize NJ:upd Hx p5 (.lst [V.int 0,V.int 0,V.int 1,V.int 30])=H5 at *;obtain⟨s5,y5⟩:=bX NJ Ei;have n5:p5≠D/\p5≠C:=⟨(aj Ej.cY Ei).symm,(aj Ej.cs Ei).symm⟩
  have AE:=Ej.same s5;refine⟨D,C,G,dx,4,rfl,AE,by decide,by decide,by lia,fun j d6 H6 e6 c6 Fn=>?_⟩;have bj:=bO e6 (by decide);have p6:=ba e6;refine aL (.of (c6.get y5 n5.1 n5.2)) (E6 (l:=[0,0,1,30]) 0 bj.1 bj.2) ⟨D,_,5,5,rfl,rfl,Fn.cY,rfl,?_⟩;have pj:=oS (0:Int) (l:=[0,0,1,30]) bj.1 bj.2;generalize (PG.pick 0 [0,0,1,30] j:Int)=gp at *;have hgp:gp=0\/gp=1\/gp=30:=by
   simp only[zan,za5,or_false] at pj;lia
  obtain⟨qL,c7⟩:=xk (d':={d6 with gap:=gp}) Fn rfl rfl rfl;show U3 _ (upd H6 D (.lst [.ref C,.int d6.pos,.ref G,.int d6.left,.int d6.row,.int gp]));have cx7:eL D C Hx (upd H6 D (.lst [.ref C,.int d6.pos,.ref G,.int d6.left,.int d6.row,.int gp])):=(eL.of s5).trans (c6.trans c7);generalize upd H6 D (.lst [.ref C,.int d6.pos,.ref G,.int d6.left,.int d6.row,.int gp])=H7 at *;refine(gJ _ _).mpr (ai fun U4 jI=>?_);clear gJ;walk_at "";refine⟨D,_,3,3,rfl,rfl,qL.cY,rfl,?_⟩;obtain⟨wH,c8⟩:=xk (d':={d6 with gap:=gp,left:=most}) qL rfl rfl rfl;show U4 _ (upd H7 D (.lst [.ref C,.int d6.pos,.ref G,.int most,.int d6.row,.int gp]));have cx8:eL D C Hx (upd H7 D (.lst [.ref C,.int d6.pos,.ref G,.int most,.int d6.row,.int gp])):=cx7.trans c8;generalize upd H7 D (.lst [.ref C,.int d6.pos,.ref G,.int most,.int d6.row,.int gp])=H8 at *;refine(jI _ _).mpr (ai fun U5 tj=>?_);clear jI;have yB8:=cx8.get Z4 nB.1 nB.2.1;walk_at "";refine⟨B,us,rfl,.inl (.of yB8),D,_,4,4,rfl,rfl,wH.cY,rfl,?_⟩;rw[lu];obtain⟨X7,c9⟩:=xk (d':={d6 with gap:=gp,left:=most,row:=bs.length}) wH rfl rfl rfl;show U5 _ (upd H8 D (.lst [.ref C,.int d6.pos,.ref G,.int most,.int bs.length,.int gp]));have cx9:eL D C Hx (upd H8 D (.lst [.ref C,.int d6.pos,.ref G,.int most,.int bs.length,.int gp])):=cx8.trans c9;generalize upd H8 D (.lst [.ref C,.int d6.pos,.ref G,.int most,.int bs.length,.int gp])=H9 at *;have p9:({d6 with gap:=gp,left:=most,row:=(bs.length:Int)}:Dk).pos=d6.pos:=rfl;have el9:({d6 with gap:=gp,left:=most,row:=(bs.length:Int)}:Dk).left=most:=rfl;have er9:({d6 with gap:=gp,left:=most,row:=(bs.length:Int)}:Dk).row=bs.length:=rfl;have g9:fB ({d6 with gap:=gp,left:=most,row:=(bs.length:Int)}:Dk):=hgp;generalize ({d6 with gap:=gp,left:=most,row:=(bs.length:Int)}:Dk)=d9 at *;refine(tj _ _).mpr (ai fun U6 AU=>?_);clear tj;have yB9:=cx9.get Z4 nB.1 nB.2.1;have o9:=ox.chg cx9 Rj hC1;walk_at "";simp only[cJ];walk_at "";refine⟨⟨us,.of yB9⟩,fun N hN=>?_⟩;refine dP (K:=K) (r:=[]) (fun i ys _=>ys=(bs.take i).map fun b=>V.str (S b.name)) (.of yB9) (by lia) hN (by simp) (fun i x ys UZ hx Fq _ ly Kr R hR=>?_) (fun ys HA sA yNA pA=>(AU _ _).mpr (ai fun U7 Jg=>?_))
  .have li:i<bs.length:=by have:=(zaj.mp hx).1;lia
   obtain⟨v',qK,r⟩:=((o9 (fun _=>False) fun _ h=>h.elim).CH.mono Fq).get (i:=i) (d:=tV bs[i]) (by rw[zaf,zac li];rfl);rw[hx] at qK;cases qK;obtain⟨tp,tv,rfl,tq,tr⟩:=Rep.aJ.mp r;obtain⟨x1,t1,rfl,r1,_⟩:=aC.av.mp tr;cases Rep.aZ.mp r1;walk_at "";refine aq tq fP (hR _ _ (.refl _) ?_);show ys++[V.str (S bs[i].name)]=(bs.take (i+1)).map fun b=>V.str (S b.name);rw[Kr,zbW,zac li,zas];rfl
  clear AU;rw[lu,zaH] at pA;have hNm:yd HA N (bs.map (·.name)):=by
   unfold yd;rw[yNA,pA,zaB];rfl
  have nN:N≠D/\N≠C:=⟨(aj X7.cY hN).symm,(aj X7.cs hN).symm⟩
  have dkA:=X7.same sA;have sb3:PG.sB 3=17550:=rfl;have lnm:(bs.map (·.name)).length<=10:=by rw[zab];lia
  have Od:=fun dd:Dk=>rh (zS 3) (vq (bs.map (·.name)) 3) dd;have hBg:=fun dd:Dk=>rm (vt (bs.map (·.name)) 3) dd;have g3:∀{dd:Dk},dd.gap=d9.gap->fB dd:=fun {dd} e=>by unfold fB;rw[e];exact g9
  walk_at "";refine⟨D,C,G,N,d9,bs.map (·.name),3,rfl,by decide,by decide,by lia,g9,dkA,hNm,nN.1,nN.2,lnm,fun a da La ua Ha ea ca dka hLa yLa oa=>?_⟩;have pa:=Od d9;have ga:=hBg d9;rw[ea] at pa ga;simp only at pa ga;have ZR:yd Ha N (bs.map (·.name)):=ca.get hNm nN.1 nN.2;refine⟨D,C,G,N,da,bs.map (·.name),3,rfl,by decide,by decide,by lia,g3 ga,dka,ZR,nN.1,nN.2,lnm,fun b db Lb ub Hb eb cb X8 hLb yLb ob=>?_⟩;have pb:=Od da;have gb:=hBg da;rw[eb] at pb gb;simp only at pb gb;have hNb:yd Hb N (bs.map (·.name)):=cb.get ZR nN.1 nN.2;have nLa:La≠D/\La≠C:=⟨(aj dkA.cY hLa).symm,(aj dkA.cs hLa).symm⟩
  have adR:=cb.get yLa nLa.1 nLa.2;have la:ua.length<=4:=by rw[B7 oa,zab];exact xm ea
  have lb2:ub.length<=4:=by rw[B7 ob,zab];exact xm eb
  refine⟨La,Lb,ua,ub,rfl,rfl,adR,yLb,by lia,fun Lc hLc=>?_⟩;generalize T5:upd Hb Lc (.lst (ua++ub))=Hc at *;obtain⟨sc,yLc⟩:=bX T5 hLc;have nLc:Lc≠D/\Lc≠C:=⟨(aj X8.cY hLc).symm,(aj X8.cs hLc).symm⟩
  have dkc:=X8.same sc;have hNc:yd Hc N (bs.map (·.name)):=sc _ _ hNb;have cc:eL D C Hb Hc:=eL.of sc;refine⟨D,C,G,N,db,bs.map (·.name),3,rfl,by decide,by decide,by lia,g3 (gb.trans ga),dkc,hNc,nN.1,nN.2,lnm,fun e de Le ue He ee ce ZW hLe yLe oe=>?_⟩;have pe:=Od db;rw[ee] at pe;simp only at pe;have le3:ue.length<=4:=by rw[B7 oe,zab];exact xm ee
  refine⟨Lc,Le,_,_,rfl,rfl,ce.get yLc nLc.1 nLc.2,yLe,by rw[zae];lia,fun Lf hLf=>(Jg _ _).mpr ?_⟩;clear Jg;generalize eN5:upd He Lf (.lst (ua++ub++ue))=Hf at *;obtain⟨sf,yLf⟩:=bX eN5 hLf;have ZX:=ZW.same sf;have cf:eL D C He Hf:=eL.of sf;walk_at "";intro pp Gk;have sp:=ao.new Gk (.tup [V.ref B,V.ref Lf]);have c0x:eL D C H Hx:=⟨fun b o n e=>kx b o e (fun z=>n (.inl z)) (fun z=>n (.inr z)),fun b h=>CK b (c1.nX b h)⟩
  have cxA:=cx9.trans (eL.of sA);have X9:=c0x.trans cxA;have cef:=ce.trans cf;have cbf:=cc.trans cef;have caf:=cb.trans cbf;have cAf:=ca.trans caf;have oB:Own K H Hf (.lst (bs.map tV)) (.ref B):=(yU (fun O hO=>ox O fun b hb=>c1.nX b (hO b hb)) Z4 hB fun _ h=>h).chg (cxA.trans cAf) Cw Cy;have oa':bC K H Hf (a.map b3) ua:=bC.chg (fun O hO=>oa O fun b hb=>X9.nX b (hO b hb)) caf Cw Cy;have ob':bC K H Hf (b.map b3) ub:=bC.chg (fun O hO=>ob O fun z hb=>(X9.trans ca).nX z (hO z hb)) cbf Cw Cy;have oe':bC K H Hf (e.map b3) ue:=bC.chg (fun O hO=>oe O fun z hb=>(X9.trans (ca.trans (cb.trans cc))).nX z (hO z hb)) cf Cw Cy;have c0e:=X9.trans (ca.trans (cb.trans (cc.trans ce)));have oL:Own K H Hf (.lst ((a++b++e).map b3)) (.ref Lf):=fun O hO=>Fix.lst yLf (fun z=>c0e.nX _ (hO _ z) hLf) fun H2 u=>by
   rw[zas,zas];exact((oa' O hO H2 u).append (ob' O hO H2 u)).append (oe' O hO H2 u)
  exact q ⟨bs,a++b++e⟩ de _ _ (TV hm (by rw[lb];exact ndn) (by lia) szs g9 el9 er9 ea eb ee) (by lia) ((X9.trans cAf).trans (eL.of sp)) (ZX.same sp) (js Gk (X9.trans cAf).nX (bC.cons oB (bC.cons oL bC.nil)))
theorem yW(T:Tx K mg t):bq P w K mg base dF 1 t.i3 t.iB ["number"] (QJ):=by
 obtain⟨Mz,yX,yY⟩:=T.xh;refine T.i6.F.okN oU fun _ _ _ _ H vs Q E hr h=>?_;obtain⟨n,rfl,q⟩:=h;have nd:=oU.nd;have line:zdq=2 ^ 24:=rfl;refine⟨_,[some (.int n),none],(ag (fw 1 nd (aR ae))
 (ag (aW (az xM (pv 0) (mC rfl yX yY) (aH _))
 (ak (dX (j7 zaA zaN zaO fG (pv 1) (aa (aY fC (pv 0) aw) ae qS))))
 aG)
 (ag (aW (az Lh (pv 0) aw (aH _))
 (ak (dX (j7 zaA zaN zaO fG (pv 1) (aa (aY tO (pv 0) aw) ae qS))))
 aG)
 (ak (aB (pv 1)))))),rfl,?_⟩
 refine ai fun U1 cM=>?_;walk_at "";intro L hL;refine(cM _ _).mpr (ai fun U2 fh=>?_);clear cM;have s1:=ao.new hL (.lst []);have y1:(upd H L (.lst [])) L=some (.lst []):=ah;have last:∀(xs:List Int) (H2:Hp),a9 L H H2->H2 L=some (.lst (xs.map V.int))->xs=(if n<999 then [n+1] else [])->U2 [some (.int n),some (.ref L)] H2:=by
  intro xs H2 u2 y2 ex;refine(fh _ _).mpr (ai fun U3 gJ=>?_);clear fh;have lx:xs.length<=1:=by rw[ex];split<;>simp
  have fin:∀(ys:List Int) (H3:Hp),a9 L H H3->H3 L=some (.lst (ys.map V.int))->ys=rn n->U3 [some (.int n),some (.ref L)] H3:=by
   intro ys H3 u3 y3 ey;refine(gJ _ _).mpr ?_;walk_at "";rw[ey] at y3;exact q L H3 (u3.same hL) hL y3
  walk_at "";refine dR (fun e=>?_) (fun e=>?_)
  .refine⟨.inl ⟨rfl,_,.of y2⟩,L,_,_,rfl,rfl,y2,by rw[zab];lia,fin (xs++[n-1]) _ (u2.put _) ?_ ?_⟩
   .rw[ah,zas];rfl
   .rw[ex];unfold rn;rw[ybr (show 0<n by lia)]
  .exact fin xs _ u2 y2 (by rw[ex];unfold rn;rw[ybq (show ¬0<n by lia),zax])
 walk_at "";refine dR (fun e=>?_) (fun e=>?_)
 .refine⟨.inl ⟨rfl,_,.of y1⟩,L,_,_,rfl,rfl,y1,by simp;lia,last [n+1] _ ((a9.of s1).put _) ah ?_⟩;rw[ybr e]
 .exact last [] _ (.of s1) y1 (by rw[ybq e])
theorem Rk(h:Rep K H (iD tr) v)(c:HE tr):∃a w0 ys,v=.ref a/\bG K H a (.str w0::ys)/\((∃n,tr=.num n/\w0 = "number"/\ys=[.int n])\/(∃x,tr=.box x/\w0 = "box")\/∃o l r vl vr,tr=.bin o l r/\w0=S o/\ys=[vl,vr]/\Rep K H (iD l) vl/\Rep K H (iD r) vr/\w0≠"number"/\w0≠"box"):=by
 cases tr with
 |num n=>
  unfold iD at h;simp only[Rep.aJ,aC.av,aC.aO,Rep.aZ,Rep.bu] at h;obtain⟨a,xs,rfl,hS,_,_,rfl,rfl,_,_,rfl,rfl,rfl⟩:=h;exact⟨a,_,_,rfl,hS,.inl ⟨n,rfl,rfl,rfl⟩⟩
 |box x=>
  unfold iD at h;simp only[Rep.aJ,aC.av,aC.aO,Rep.aZ,Rep.bu] at h;obtain⟨a,xs,rfl,hS,_,_,rfl,rfl,_,_,rfl,rfl,rfl⟩:=h;exact⟨a,_,_,rfl,hS,.inr (.inl ⟨x,rfl,rfl⟩)⟩
 |bin o l r=>
  unfold iD at h;simp only[Rep.aJ,aC.av,aC.aO,Rep.aZ,Rep.bu] at h;obtain⟨a,xs,rfl,hS,_,_,rfl,rfl,vl,_,rfl,hl,vr,_,rfl,Z5,rfl⟩:=h;have ho:=c.1;refine⟨a,_,_,rfl,hS,.inr (.inr ⟨o,l,r,vl,vr,rfl,rfl,rfl,hl,Z5,?_,?_⟩)⟩
  .simp only[zan,za5,or_false] at ho;rcases ho with rfl |rfl |rfl<;>decide +kernel
  .simp only[zan,za5,or_false] at ho;rcases ho with rfl |rfl |rfl<;>decide +kernel
theorem tm(T:Tx K mg t)(fV:bq P w K mg base dF (n+1) t.cA t.b4 ["e"] (uh K ja n)) :
 bq P w K mg base dF (n+2) t.cA t.b4 ["e"] (uh K ja (n+1)):=by
 have Af:=yW (P:=P) (w:=w) (K:=K) (base:=base) T;refine T.cB.F.okN ka fun _ _ _ _ H vs Q E hr h=>?_;obtain⟨v,tr,rfl,hv,tc,ht,h6,q⟩:=h;have nd:=ka.nd;have line:zdq=2 ^ 24:=rfl;refine⟨_,[some v,none,none],(ag (aW (az bB (iT 0) aV (aH _))
 (ak (aB (lM (bt (cz Af T.i6 hr (aa (iT 0) ae aA))) (fun _ _ _ _=>(aK (aa aV (a8 0 ae) aE))))))
 aG)
 (ag (aW (az bB (iT 0) aV (aH _))
 (ak (aB (aR ae)))
 aG)
 (ag (mI (i:=1) nd rfl (zbe rfl) (own:=["other"]) (ix:=[0]) rfl (by rfl) (by rfl) (bt (cz fV T.cB hr (aa (iT 0) ae aA))) (fun _ _ _ _=>(oK 0 (by show List.Nodup (["other", "e"]:List Str);decide +kernel))) (fun _ _ _ _=>ei) (fun _ _ _ _=>(aK (aa (iK (K:=K) 1) (a8 0 (aa (iK (K:=K) 1) ae aA)) aA))))
 (ag (mI (i:=2) nd rfl (zbe rfl) (own:=["other"]) (ix:=[0]) rfl (by rfl) (by rfl) (bt (cz fV T.cB hr (aa (iT 0) ae aA))) (fun _ _ _ _=>(oK 0 (by show List.Nodup (["other", "e"]:List Str);decide +kernel))) (fun _ _ _ _=>ei) (fun _ _ _ _=>(aK (aa (iK (K:=K) 1) (aa (iK (K:=K) 1) (a8 0 ae) aA) aA))))
 (ak (aB (aY fX (pv 1) (pv 2)))))))),rfl,?_⟩
 obtain⟨a,w0,ys,rfl,hS,cs⟩:=Rk hv tc;refine ai fun U1 cM=>?_;walk_at "";refine aq hS (v:=.str w0) fP ?_;rcases cs with ⟨m,rfl,rfl,rfl⟩ |⟨x,rfl,rfl⟩ |⟨o,l,r,vl,vr,rfl,ew,rfl,hl,U0,n1,n2⟩
 .refine⟨rfl,(ybr rfl).mpr ?_⟩;clear cM;simp only[cJ];walk_at "";refine aq hS (v:=.int m) jV ⟨m,rfl,fun L H1 s1 hL yL=>⟨L,rfl,⟨_,.of yL⟩,fun D hD=>?_⟩⟩;have lb:=BM m;refine qE (K:=K) (F:=Dp.int) (G:=iD) PM.Tr.num (rn m) (.of yL) (zI _) (by rw[zab];lia) hD (fun i x y H2 hy hx rx keep s2 nD _ R hR=>?_) fun ys H2 s2 yD rs=>?_
  .rw[Rep.bu] at rx;subst rx;walk_at "";intro p hp;exact hR _ _ (ao.new hp _) (Fix.tup ah (fun z=>by rw[z] at hp;exact nD hp) (.cons .str (.cons .int .nil)))
  .refine q D ys H2 (s1.trans s2) (s1.free hD) yD ?_;rw[ja];exact rs
 .refine⟨rfl,(ybq (by decide +kernel)).mpr ((cM _ _).mpr (ai fun U2 fh=>?_))⟩;clear cM;walk_at "";refine aq hS (v:=.str "box") fP ⟨rfl,(ybr rfl).mpr fun p hp=>?_⟩;exact q p [] _ (ao.new hp _) hp ah .nil
 .refine⟨rfl,(ybq (fun z=>n1 (by injection z))).mpr ((cM _ _).mpr (ai fun U2 fh=>?_))⟩;clear cM;walk_at "";refine aq hS (v:=.str w0) fP ⟨rfl,(ybq (fun z=>n2 (by injection z))).mpr ((fh _ _).mpr (ai fun U3 gJ=>?_))⟩;clear fh;subst ew;rw[dQ] at ht h6;have pw:∀k,k<=6->2 ^ k<=2 ^ 6:=fun k h=>zaD (by decide) h;have b1:=ou l;have b2:=ou r;have p1:=pw (dQ l) (by lia);have p2:=pw (dQ r) (by lia);simp only[cJ];walk_at "";refine aq hS (v:=vl) jV ⟨vl,l,rfl,hl,tc.2.1,by lia,by lia,fun L1 Nn H1 s1 ZU Jh Rl=>⟨L1,rfl,⟨_,.of Jh⟩,fun D hD=>?_⟩⟩;show jf (AZ K L1) D (cF 0) me _ _ [none,some (.ref a)] _;refine qE (K:=K) (r:=[some (.ref a)]) (F:=iD) (G:=iD) (fun x=>PM.Tr.bin o x r) (ja l) (.of Jh) Rl (by rw[Rl.length,zab];lia) hD (fun i x y H2 hy hx rx keep s2 nD _ R hR=>?_) fun Ya H2 s2 yD Ks=>(gJ _ _).mpr (ai fun U4 jI=>?_)
  .have CL:=(s1.trans s2).aS hS;walk_at "";refine aq CL (v:=.str (S o)) fP ?_;refine aq CL (v:=vr) at2 fun p hp=>?_;exact hR _ _ (ao.new hp _) (Fix.tup ah (fun z=>by rw[z] at hp;exact nD hp) (.cons .str (.cons ((keep _ _ rx).up (.of (ao.new hp _))) (.cons ((keep _ _ (U0.mono s1)).up (.of (ao.new hp _))) .nil))))
  clear gJ;have xG:=s1.trans s2;simp only[cJ];walk_at "";refine aq (xG.aS hS) (v:=vr) at2 ⟨vr,r,rfl,U0.mono xG,tc.2.2,by lia,by lia,fun L3 us3 H3 s3 hL3 T2 Z6=>⟨L3,rfl,⟨_,.of T2⟩,fun D2 MA=>?_⟩⟩;show jf (AZ K L3) D2 (cF 0) me _ _ [none,some (.ref a)] _;refine qE (K:=K) (r:=[some (.ref a)]) (F:=iD) (G:=iD) (fun x=>PM.Tr.bin o l x) (ja r) (.of T2) Z6 (by rw[Z6.length,zab];lia) MA (fun i x y H4 hy hx rx keep s4 nD _ R hR=>?_) fun Z7 H4 s4 Rm Rn=>(jI _ _).mpr ?_
  .have CL:=((xG.trans s3).trans s4).aS hS;walk_at "";refine aq CL (v:=.str (S o)) fP ?_;refine aq CL (v:=vl) jV fun p hp=>?_;exact hR _ _ (ao.new hp _) (Fix.tup ah (fun z=>by rw[z] at hp;exact nD hp) (.cons .str (.cons ((keep _ _ (hl.mono (xG.trans s3))).up (.of (ao.new hp _))) (.cons ((keep _ _ rx).up (.of (ao.new hp _))) .nil))))
  clear jI;walk_at "";have l1:Ya.length=(ja l).length:=by rw[Ks.length,zab,zab]
  have l2:Z7.length=(ja r).length:=by rw[Rn.length,zab,zab]
  refine⟨D,D2,_,_,rfl,rfl,s4 _ _ (s3 _ _ yD),Rm,by lia,fun p hp=>?_⟩;have s5:=ao.new hp (.lst (Ya++Z7));have WY:=s3.trans s4;refine q p _ _ ((xG.trans WY).trans s5) ((xG.trans WY).free hp) ah ?_;rw[ja,zas];exact((Ks.mono WY).mono s5).append (Rn.mono s5)
theorem Ij(T:Tx K mg t):∀n,bq P w K mg base dF (n+1) t.cA t.b4 ["e"] (uh K ja n)
 |0=>by
  have no:∀vs H Q E,¬uh K ja 0 vs H Q E:=fun vs H Q E h=>by cases h;lia
  exact⟨fun vs H Q E h=>ybw h (no vs H Q E),fun A outer s H args us vs Q E _ _ _ _ h=>ybw h (no vs H Q E)⟩
 |n+1=>tm T (Ij T n)
theorem vQ(T:Tx K mg t)(C:Cd P w K t)(ia:bq P w K mg base dF (n+1) t.dn t.cN ["e"] (uh K jj n)) :
 bq P w K mg base dF (n+2) t.dn t.cN ["e"] (uh K jj (n+1)):=by
 refine T.dq.F.okN mx fun _ _ _ _ H vs Q E hr h=>?_;obtain⟨v,tr,rfl,hv,tc,ht,h6,q⟩:=h;have nd:=mx.nd;have line:zdq=2 ^ 24:=rfl;refine⟨_,[some v,none,none],(ag (aW (az kz (iT 0) (aK (eQ (vs:=[.str "number",.str "box"]) (by kernel_rfl))) rfl)
 (ak (aB (aR ae)))
 aG)
 (ag (mI (i:=1) nd rfl (zbe rfl) (own:=["other"]) (ix:=[0]) rfl (by rfl) (by rfl) (bt (cz ia T.dq hr (aa (iT 0) ae aA))) (fun _ _ _ _=>(oK 0 (by show List.Nodup (["other", "e"]:List Str);decide +kernel))) (fun _ _ _ _=>ei) (fun _ _ _ _=>(aK (aa (iK (K:=K) 1) (a8 0 (aa (iK (K:=K) 1) ae aA)) aA))))
 (ag (mI (i:=2) nd rfl (zbe rfl) (own:=["other"]) (ix:=[0]) rfl (by rfl) (by rfl) (bt (cz ia T.dq hr (aa (iT 0) ae aA))) (fun _ _ _ _=>(oK 0 (by show List.Nodup (["other", "e"]:List Str);decide +kernel))) (fun _ _ _ _=>ei) (fun _ _ _ _=>(aK (aa (iK (K:=K) 1) (aa (iK (K:=K) 1) (a8 0 ae) aA) aA))))
 (ak (aB (aY fX (aY fX (pv 1) (aR (aa (aK (aa (BK (mC (v:=.ref t.eN) rfl T.uT rfl) (iT 0) (fun _ _=>rfl)) (aa (iT 0) (aa (iT 0) ae aA) aA) aA)) ae dO))) (pv 2))))))),rfl,?_⟩
 obtain⟨a,w0,ys,rfl,hS,cs⟩:=Rk hv tc;refine ai fun U3 gJ=>?_;walk_at "";refine aq hS (v:=.str w0) fP ?_;have none_:(w0 = "number"\/w0 = "box")->jj tr=[]->∀p,H p=none->rIn K false (.str w0) (.ref p) (upd H p (.tup [.str "number",.str "box"])) fun x H'=>∃k,x=V.bl k/\if k=true then ∀(p:zdi),H' p=none->Q (V.ref p) (upd H' p (.lst [])) else U3 [some (.ref a),none,none] H':=by
  intro hw eo p hp;refine⟨p,_,rfl,.inr (.of ah),rfl,rfl,_,rfl,(ybr ?_).mpr fun p2 qP=>?_⟩
  .rcases hw with rfl |rfl<;>decide +kernel
  .refine q p2 [] _ ((ao.new hp _).trans (ao.new qP _)) ((ao.new hp _).free qP) ah ?_;rw[eo];exact .nil
 rcases cs with ⟨m,rfl,rfl,rfl⟩ |⟨x,rfl,rfl⟩ |⟨o,l,r,vl,vr,rfl,ew,rfl,hl,U0,n1,n2⟩
 .exact none_ (.inl rfl) rfl
 .exact none_ (.inr rfl) rfl
 .clear none_;intro p hp;refine⟨p,_,rfl,.inr (.of ah),rfl,rfl,_,rfl,(ybq ?_).mpr ?_⟩
  .intro z;simp[Sf,N7] at z;rcases z with z |z
   .exact n1 z.symm
   .exact n2 z.symm
  have s0:=ao.new hp (.tup [V.str (zad "number"),V.str (zad "box")]);generalize upd H p _=Hz at *;replace q:=fun L us H' (s':ao Hz H') (hL:Hz L=none) y r=>q L us H' (s0.trans s') (s0.free hL) y r;replace hS:=s0.aS hS;replace hl:=hl.mono s0;replace U0:=U0.mono s0;clear s0 hp;refine(gJ _ _).mpr (ai fun U3 gJ=>?_);subst ew;rw[dQ] at ht h6;have pw:∀k,k<=6->2 ^ k<=2 ^ 6:=fun k h=>zaD (by decide) h;have b1:=oy l;have b2:=oy r;have p1:=pw (dQ l) (by lia);have p2:=pw (dQ r) (by lia);simp only[cJ];walk_at "";refine aq hS (v:=vl) jV ⟨vl,l,rfl,hl,tc.2.1,by lia,by lia,fun L1 Nn H1 s1 ZU Jh Rl=>⟨L1,rfl,⟨_,.of Jh⟩,fun D hD=>?_⟩⟩;show jf (AZ K L1) D (cF 0) me _ _ [none,some (.ref a)] _;refine qE (K:=K) (r:=[some (.ref a)]) (F:=iD) (G:=iD) (fun x=>PM.Tr.bin o x r) (jj l) (.of Jh) Rl (by rw[Rl.length,zab];lia) hD (fun i x y H2 hy hx rx keep s2 nD _ R hR=>?_) fun Ya H2 s2 yD Ks=>(gJ _ _).mpr (ai fun U4 jI=>?_)
  .have CL:=(s1.trans s2).aS hS;walk_at "";refine aq CL (v:=.str (S o)) fP ?_;refine aq CL (v:=vr) at2 fun p hp=>?_;exact hR _ _ (ao.new hp _) (Fix.tup ah (fun z=>by rw[z] at hp;exact nD hp) (.cons .str (.cons ((keep _ _ rx).up (.of (ao.new hp _))) (.cons ((keep _ _ (U0.mono s1)).up (.of (ao.new hp _))) .nil))))
  clear gJ;have xG:=s1.trans s2;simp only[cJ];walk_at "";refine aq (xG.aS hS) (v:=vr) at2 ⟨vr,r,rfl,U0.mono xG,tc.2.2,by lia,by lia,fun L3 us3 H3 s3 hL3 T2 Z6=>⟨L3,rfl,⟨_,.of T2⟩,fun D2 MA=>?_⟩⟩;show jf (AZ K L3) D2 (cF 0) me _ _ [none,some (.ref a)] _;refine qE (K:=K) (r:=[some (.ref a)]) (F:=iD) (G:=iD) (fun x=>PM.Tr.bin o l x) (jj r) (.of T2) Z6 (by rw[Z6.length,zab];lia) MA (fun i x y H4 hy hx rx keep s4 nD _ R hR=>?_) fun Z7 H4 s4 Rm Rn=>(jI _ _).mpr ?_
  .have CL:=((xG.trans s3).trans s4).aS hS;walk_at "";refine aq CL (v:=.str (S o)) fP ?_;refine aq CL (v:=vl) jV fun p hp=>?_;exact hR _ _ (ao.new hp _) (Fix.tup ah (fun z=>by rw[z] at hp;exact nD hp) (.cons .str (.cons ((keep _ _ (hl.mono (xG.trans s3))).up (.of (ao.new hp _))) (.cons ((keep _ _ rx).up (.of (ao.new hp _))) .nil))))
  clear jI;have Ro:=((xG.trans s3).trans s4).aS hS;have WZ:=((hl.mono xG).mono s3).mono s4;have hr4:=((U0.mono xG).mono s3).mono s4;have l1:Ya.length=(jj l).length:=by rw[Ks.length,zab,zab]
  have l2:Z7.length=(jj r).length:=by rw[Rn.length,zab,zab]
  have y1:=s4 _ _ (s3 _ _ yD);have WY:=s3.trans s4;walk_at "";refine aq Ro (v:=.str (S o)) fP ⟨.str (S (oT o)),⟨_,_,.inr (S o),rfl,C.wG,rfl,(Ml (.inl tc.1)).symm⟩,?_⟩;refine aq Ro (v:=vl) jV ?_;refine aq Ro (v:=vr) at2 fun p5 Ei p6 Rh=>?_;generalize nG:upd H4 p5 (.tup [V.str (S (oT o)),vl,vr])=H5 at *;obtain⟨s5,y5⟩:=bX nG Ei;generalize Ae:upd H5 p6 (.lst [V.ref p5])=H6 at *;obtain⟨s6,y6⟩:=bX Ae Rh;have y56:=s6 _ _ y5;have NK:=s5.trans s6;refine⟨D,p6,_,_,rfl,rfl,NK _ _ y1,y6,by simp only[za6];lia,fun p7 UX=>?_⟩;generalize NJ:upd H6 p7 (.lst (Ya++[V.ref p5]))=H7 at *;obtain⟨s7,y7⟩:=bX NJ UX;have Yb:=NK.trans s7;refine⟨p7,D2,_,_,rfl,rfl,y7,Yb _ _ Rm,by simp only[zae,za6];lia,fun p8 Fo=>?_⟩;generalize T5:upd H7 p8 (.lst (Ya++[V.ref p5]++Z7))=H8 at *;obtain⟨s8,y8⟩:=bX T5 Fo;have Z8:=Yb.trans s8;have s08:=(xG.trans WY).trans Z8;refine q p8 _ _ s08 ((xG.trans WY).free (Yb.free Fo)) y8 ?_;rw[jj,zas,zaq,zau];refine((Ks.mono WY).mono Z8).append (.cons ?_ (Rn.mono Z8));unfold iD;exact Rep.aJ.mpr ⟨p5,_,rfl,.of (s8 _ _ (s7 _ _ y56)),.cons (Rep.aZ.mpr rfl) (.cons (WZ.mono Z8) (.cons (hr4.mono Z8) .nil))⟩
theorem Ik(T:Tx K mg t)(C:Cd P w K t):∀n,bq P w K mg base dF (n+1) t.dn t.cN ["e"] (uh K jj n)
 |0=>by
  have no:∀vs H Q E,¬uh K jj 0 vs H Q E:=fun vs H Q E h=>by cases h;lia
  exact⟨fun vs H Q E h=>ybw h (no vs H Q E),fun A outer s H args us vs Q E _ _ _ _ h=>ybw h (no vs H Q E)⟩
 |n+1=>vQ T C (Ik T C n)
theorem za(T:Tx K mg t):bq P w K mg base dF 1 t.oZ t.mS ["statement", "place", "part"] (QK K):=by
 refine T.jG.F.okN yE fun _ _ _ _ H vs Q E hr h=>?_;obtain⟨a,xs,j,x,rfl,hS,hj,Va,q⟩:=h;have nd:=yE.nd;have line:zdq=2 ^ 24:=rfl;refine⟨_,[some (.ref a),some (.int j),some x],(ak (aB (aY xY (aY xY (cW xZ (pv 0) fq (dZ (pv 1))) (aK (a8 2 ae))) (cW xZ (pv 0) (dZ (aY fC (pv 1) aw)) fq)))),rfl,?_⟩;walk_at "";refine⟨_,rfl,a,xs,rfl,hS,fun p1 H1 s1 h1 p2 qP=>?_⟩;generalize nG:upd H1 p2 (.tup [x])=H2 at *;obtain⟨s2,y2⟩:=bX nG qP;have e1:=Ka xs (x:=(j:Int)) (by lia);have e2:je xs (some ((j:Int)+1)) none=xs.drop (j+1):=by rw[show ((j:Int)+1)=((j+1:Nat):Int) by lia];exact BJ xs (j+1)
 have l1:(je xs none (some (j:Int))).length<=10:=by rw[e1,zbt];lia
 have l2:(je xs (some ((j:Int)+1)) none).length<=10:=by rw[e2,zaU];lia
 refine⟨p1,p2,_,_,rfl,rfl,s2.aS h1,.of y2,by simp only[za6];lia,fun p3 H3 s3 h3=>⟨_,rfl,a,xs,rfl,((s1.trans s2).trans s3).aS hS,fun p4 H4 s4 h4=>⟨p3,p4,_,_,rfl,rfl,s4.aS h3,h4,by simp only[zae,za6];lia,fun p5 H5 s5 h5=>?_⟩⟩⟩;rw[Tz xs hj] at h5;exact q p5 H5 ((((s1.trans s2).trans s3).trans s4).trans s5) h5
theorem oN(T:Tx K mg t)(C:Cd P w K t):bq P w K mg base dF 9 t.dB t.cU ["statement"] (QL K):=by
 have pO:=za (P:=P) (w:=w) (base:=base) T;have fV:=Ij (P:=P) (w:=w) (base:=base) T 7;have ia:=Ik (base:=base) T C 7;refine T.dE.F.okN i8 fun _ _ _ _ H vs Q E hr h=>?_;obtain⟨v,st,H0,O,rfl,s0,hv,sc,Rp,q⟩:=h;have nd:=i8.nd;have line:zdq=2 ^ 24:=rfl;obtain⟨a0,a1,a2,a3,a4,a5,a6,dc,h0,h1,h2,h3,h4,h5,h6⟩:=C.vP;obtain⟨a,w0,xs,pl,ex,re,b,rfl,hS,po,ev,hb⟩:=ZH hv sc a0 a1 a2 a3 a4 a5 a6 (h0 H0) (h1 H0) (h2 H0) (h3 H0) (h4 H0) (h5 H0) (h6 H0);replace hS:=s0.aS hS;replace hb:=s0.aS hb;refine⟨_,[some (.ref a),none,none,none],(ag (fw 1 nd (BK (mC (v:=.ref t.bY) rfl T.uS rfl) (iT 0) (fun _ _=>rfl)))
 (ag (fw 2 nd (aR ae))
 (ag (gR yag rfl (Jt (pv 1)) (kM (i:=3) nd rfl (zbi rfl))
 (ak (dX (j7 zaA zbG zbH ql (pv 2) (aa (jN (own:=["e"]) (ix:=[0,3]) rfl (by rfl) (by rfl) (bt (cz fV T.cB hr (aa (bL gA (pv 0) (pv 3) jr) ae aA))) (fun _ _ _ _=>(oK 0 (by show List.Nodup (["e", "statement", "place"]:List Str);decide +kernel))) (fun _ _ _ _=>ei) (fun _ _ _ _=>(cz pO T.jG hr (a8 1 (a8 2 (a8 0 ae)))))) ae fK)))))
 (ag (gR yag rfl (Jt (pv 1)) (kM (i:=3) nd rfl (zbi rfl))
 (ak (dX (j7 zaA zbG zbH ql (pv 2) (aa (jN (own:=["e"]) (ix:=[0,3]) rfl (by rfl) (by rfl) (bt (cz ia T.dq hr (aa (bL gA (pv 0) (pv 3) jr) ae aA))) (fun _ _ _ _=>(oK 0 (by show List.Nodup (["e", "statement", "place"]:List Str);decide +kernel))) (fun _ _ _ _=>ei) (fun _ _ _ _=>(cz pO T.jG hr (a8 1 (a8 2 (a8 0 ae)))))) ae fK)))))
 (ak (aB (pv 2))))))),rfl,?_⟩
 refine ai fun U1 cM=>?_;walk_at "";refine aq hS (v:=.str w0) fP ⟨.ref b,⟨_,_,.inr w0,rfl,dc,rfl,ev.symm⟩,(cM _ _).mpr (ai fun U2 fh=>?_)⟩;clear cM;walk_at "";intro L hL;refine(fh _ _).mpr (ai fun U3 gJ=>?_);clear fh;refine GY fun U hU=>?_;walk_at "";refine⟨⟨_,(ao.new hL (.lst [])).aS hb⟩,hU _ _ ?_⟩;clear hU;obtain⟨Pv1,NL⟩:∃Pv:Nat->St->Hp->Prop,∀i Y Hx,Pv i Y Hx↔∃(z3:Option V) (us:List V),Y=[some (.ref a),some (.ref b),some (.ref L),z3]/\ao H Hx/\Hx L=some (.lst us)/\us.length<=0+1000*i/\dJ K (fun g=>g=L\/O g) Hx (((pl.take i).flatMap fun j=>(ja (ex j)).map (re j)).map b3) us:=⟨_,fun _ _ _=>Iff.rfl⟩
 refine K7 (K:=K) (a:=b) (xs:=pl.map fun j=>V.int (j:Nat)) Pv1 ((NL _ _ _).mpr ⟨none,[],rfl,ao.new hL _,ah,by simp,dJ.nil⟩) ?_ ?_ ?_
 .intro i Y Hx hi hv;obtain⟨_,_,_,sx,_⟩:=(NL _ _ _).mp hv;exact sx.aS hb
 .intro i x Y Hx hx hv;obtain⟨z3,us,rfl,sx,yx,lu,fx⟩:=(NL _ _ _).mp hv;clear hv;rw[zaf] at hx;obtain⟨j,hj,rfl⟩:=zaT.mp hx;have mj:=zaC hj;have li:=(zaj.mp hj).1;have adV:=po.om;obtain⟨vj,evj,rj,tcj,dj⟩:=po.at_ j mj;have ltj:=po.lt j mj;have adZ:=po.len;have tk:(pl.take (i+1)).flatMap (fun j=>(ja (ex j)).map (re j))=(pl.take i).flatMap (fun j=>(ja (ex j)).map (re j))++(ja (ex j)).map (re j):=by
   rw[zck,hj,zbq];simp
  have bl:=ou (ex j);have pw:2 ^ dQ (ex j)<=2 ^ 6:=zaD (by decide) dj;simp only[cJ];walk_at "";refine⟨.inl ⟨rfl,_,.of yx⟩,aq (sx.aS hS) (v:=vj) (aF evj) ⟨vj,ex j,rfl,rj.mono (s0.trans sx),tcj,by lia,dj,fun L1 Nn H1 s1 ZU Jh Rl=>⟨L1,rfl,⟨_,.of Jh⟩,fun D hD=>?_⟩⟩⟩;have nLD:L≠D:=aj (s1 _ _ yx) hD;show jf (AZ K L1) D (cF 0) me _ _ [none,some (.ref a),some (.int j)] _;have hO:∀g,(g=D\/(g=L\/O g))->g=D\/∃ys,H1 g=some (.lst ys):=fun g h=>h.imp id fun z=>z.elim (fun z=>by rw[z];exact⟨_,s1 _ _ yx⟩) fun z=>let ⟨zs,e⟩:=(Rp g z).2;⟨zs,s1 _ _ (sx _ _ e)⟩;refine wX (K:=K) (r:=[some (.ref a),some (.int j)]) (F:=iD) (G:=b3) (fun g=>g=D\/(g=L\/O g)) (.inl rfl) hO (re j) (ja (ex j)) (.of Jh) Rl.fix (by rw[Rl.length,zab];lia) hD (fun i2 x y H2 hy hx rx s2 Z9 R hR=>?_) fun ys H2 s2 yD Ks=>?_
  .walk_at "";refine⟨a,_,j,x,rfl,((sx.trans s1).trans s2).aS hS,ltj,by lia,fun p H3 s3 h3=>hR _ _ s3 fun H4 u4=>?_⟩;have hO3:∀g,(g=D\/(g=L\/O g))->∃ys,H3 g=some (.lst ys):=fun g hg=>let ⟨zs,e⟩:=Z9 g hg;⟨zs,s3 _ _ e⟩;refine po.put j mj H4 (fun d v h=>h.mono fun b o e=>u4 b o ?_ (s3 _ _ (s2 _ _ (s1 _ _ (sx _ _ (s0 _ _ e)))))) p x y (iX hO3 u4 h3) (zG hO3 u4 _ _ (GZ y) (rx.rep.mono (s2.trans s3)));have eH:=s0 _ _ e
   rintro (z |z |z)
   .rw[z] at eH;have:=s1 _ _ (sx _ _ eH);rw[hD] at this;cases this
   .rw[z,hL] at eH;cases eH
   .rw[(Rp _ z).1] at e;cases e
  have W0:ys.length=(ja (ex j)).length:=by rw[Ks.CH.length,zab,zab]
  have B8:=s1.trans s2;have yx2:=B8 _ _ yx;refine⟨L,D,us,ys,rfl,rfl,yx2,yD,by lia,(NL _ _ _).mpr ⟨_,us++ys,rfl,?_,ah,by rw[zae];lia,?_⟩⟩
  .exact((a9.of (sx.trans B8)).put _).same hL
  .rw[tk,zas];have f1:=fx.up (.of B8);have f2:dJ K (fun g=>g=L\/O g) H2 _ ys:=Ks.sub fun g hg=>.inr hg;exact dJ.up (O:=fun g=>g=L\/O g) (H:=H2) (fun H3 u=>(f1 H3 u).append (f2 H3 u)) (aN.put (O:=fun g=>g=L\/O g) aN.refl (.inl rfl) _)
 .intro Y Hx hv;obtain⟨z3,us,rfl,sx,yx,lu,fx⟩:=(NL _ _ _).mp hv;rw[zab,zaH] at fx;clear hv NL;refine(gJ _ _).mpr (ai fun U4 jI=>?_);clear gJ;refine GY fun U hU=>?_;walk_at "";refine⟨⟨_,sx.aS hb⟩,hU _ _ ?_⟩;clear hU;obtain⟨Pv2,Rq⟩:∃Pv:Nat->St->Hp->Prop,∀i Y Hx,Pv i Y Hx↔∃(z3:Option V) (us:List V),Y=[some (.ref a),some (.ref b),some (.ref L),z3]/\ao H Hx/\Hx L=some (.lst us)/\us.length<=2000+1000*i/\dJ K (fun g=>g=L\/O g) Hx ((iE ja st++(pl.take i).flatMap fun j=>(jj (ex j)).map (re j)).map b3) us:=⟨_,fun _ _ _=>Iff.rfl⟩
  refine K7 (K:=K) (a:=b) (xs:=pl.map fun j=>V.int (j:Nat)) Pv2 ((Rq _ _ _).mpr ⟨z3,us,rfl,sx,yx,by have:=po.om;rw[zab] at lu;lia,by rw[po.all];simpa using fx⟩) ?_ ?_ ?_
  .intro i Y Hx hi hv;obtain⟨_,_,_,sx,_⟩:=(Rq _ _ _).mp hv;exact sx.aS hb
  .intro i x Y Hx hx hv;obtain⟨z3,us,rfl,sx,yx,lu,fx⟩:=(Rq _ _ _).mp hv;clear hv;rw[zaf] at hx;obtain⟨j,hj,rfl⟩:=zaT.mp hx;have mj:=zaC hj;have li:=(zaj.mp hj).1;have adV:=po.om;obtain⟨vj,evj,rj,tcj,dj⟩:=po.at_ j mj;have ltj:=po.lt j mj;have adZ:=po.len;have tk:(pl.take (i+1)).flatMap (fun j=>(jj (ex j)).map (re j))=(pl.take i).flatMap (fun j=>(jj (ex j)).map (re j))++(jj (ex j)).map (re j):=by
    rw[zck,hj,zbq];simp
   have bl:=oy (ex j);have pw:2 ^ dQ (ex j)<=2 ^ 6:=zaD (by decide) dj;simp only[cJ];walk_at "";refine⟨.inl ⟨rfl,_,.of yx⟩,aq (sx.aS hS) (v:=vj) (aF evj) ⟨vj,ex j,rfl,rj.mono (s0.trans sx),tcj,by lia,dj,fun L1 Nn H1 s1 ZU Jh Rl=>⟨L1,rfl,⟨_,.of Jh⟩,fun D hD=>?_⟩⟩⟩;have nLD:L≠D:=aj (s1 _ _ yx) hD;show jf (AZ K L1) D (cF 0) me _ _ [none,some (.ref a),some (.int j)] _;have hO:∀g,(g=D\/(g=L\/O g))->g=D\/∃ys,H1 g=some (.lst ys):=fun g h=>h.imp id fun z=>z.elim (fun z=>by rw[z];exact⟨_,s1 _ _ yx⟩) fun z=>let ⟨zs,e⟩:=(Rp g z).2;⟨zs,s1 _ _ (sx _ _ e)⟩;refine wX (K:=K) (r:=[some (.ref a),some (.int j)]) (F:=iD) (G:=b3) (fun g=>g=D\/(g=L\/O g)) (.inl rfl) hO (re j) (jj (ex j)) (.of Jh) Rl.fix (by rw[Rl.length,zab];lia) hD (fun i2 x y H2 hy hx rx s2 Z9 R hR=>?_) fun ys H2 s2 yD Ks=>?_
   .walk_at "";refine⟨a,_,j,x,rfl,((sx.trans s1).trans s2).aS hS,ltj,by lia,fun p H3 s3 h3=>hR _ _ s3 fun H4 u4=>?_⟩;have hO3:∀g,(g=D\/(g=L\/O g))->∃ys,H3 g=some (.lst ys):=fun g hg=>let ⟨zs,e⟩:=Z9 g hg;⟨zs,s3 _ _ e⟩;refine po.put j mj H4 (fun d v h=>h.mono fun b o e=>u4 b o ?_ (s3 _ _ (s2 _ _ (s1 _ _ (sx _ _ (s0 _ _ e)))))) p x y (iX hO3 u4 h3) (zG hO3 u4 _ _ (GZ y) (rx.rep.mono (s2.trans s3)));have eH:=s0 _ _ e
    rintro (z |z |z)
    .rw[z] at eH;have:=s1 _ _ (sx _ _ eH);rw[hD] at this;cases this
    .rw[z,hL] at eH;cases eH
    .rw[(Rp _ z).1] at e;cases e
   have W0:ys.length=(jj (ex j)).length:=by rw[Ks.CH.length,zab,zab]
   have B8:=s1.trans s2;have yx2:=B8 _ _ yx;refine⟨L,D,us,ys,rfl,rfl,yx2,yD,by lia,(Rq _ _ _).mpr ⟨_,us++ys,rfl,?_,ah,by rw[zae];lia,?_⟩⟩
   .exact((a9.of (sx.trans B8)).put _).same hL
   .rw[tk,<- zau,zas];have f1:=fx.up (.of B8);have f2:dJ K (fun g=>g=L\/O g) H2 _ ys:=Ks.sub fun g hg=>.inr hg;exact dJ.up (O:=fun g=>g=L\/O g) (H:=H2) (fun H3 u=>(f1 H3 u).append (f2 H3 u)) (aN.put (O:=fun g=>g=L\/O g) aN.refl (.inl rfl) _)
  .intro Y Hx hv;obtain⟨z3,us,rfl,sx,yx,lu,fx⟩:=(Rq _ _ _).mp hv;rw[zab,zaH,<- po.all] at fx;refine(jI _ _).mpr ?_;walk_at "";exact q L us Hx sx hL yx (fx.sub fun g hg=>.inr hg)
theorem Il(c:XY st):(iE ja st++iE jj st).length<=1000:=by
 have pw:∀{e:PM.Tr},dQ e<=6->(ja e).length<=128/\(jj e).length<=64:=fun {e} h=>by
  have h1:=ou e;have h2:=oy e;have:2 ^ dQ e<=2 ^ 6:=zaD (by decide) h;lia
 cases st with
 |put k b e=>have:=pw c.2;simp only[iE,zae,zab];lia
 |say k e=>have:=pw c.2;simp only[iE,zae,zab];lia
 |bE k sg l r=>have:=pw c.2.1.2;have:=pw c.2.2.2;simp only[iE,zae,zab];lia
 |ifs k sg l r x y=>have:=pw c.2.1.2;have:=pw c.2.2.2;simp only[iE,zae,zab];lia
 |fM k sg l r x=>have:=pw c.2.1.2;have:=pw c.2.2.2;simp only[iE,zae,zab];lia
 |ask k b=>simp[iE]
 |stop k=>simp[iE]
theorem CM(T:Tx K mg t)(C:Cd P w K t):bq P w K mg base dF 10 t.mR t.kT ["statement"] (HF K):=by
 have pO:=za (P:=P) (w:=w) (base:=base) T;have qf:=oN (base:=base) T C;refine T.m9.F.okN wj fun _ _ _ _ H vs Q E hr h=>?_;obtain⟨v,st,H0,O,rfl,s0,hv,sc,Rp,q⟩:=h;have nd:=wj.nd;have line:zdq=2 ^ 24:=rfl;obtain⟨a,w0,xs,rfl,hS,ot⟩:=ZI hv sc;replace hS:=s0.aS hS;have lx:=ot.len;refine⟨_,[some (.ref a),none,none],(ag (fw 1 nd (iT 0))
 (ag (mI (i:=2) nd rfl (zbe rfl) (own:=["other"]) (ix:=[]) rfl (by rfl) (by rfl) (bt (cz qf T.dE hr (a8 0 ae))) (fun _ _ _ _=>(oK 0 (by show List.Nodup (["other"]:List Str);decide +kernel))) (fun _ _ _ _=>ei) (fun _ _ _ _=>(aR (a8 0 ae))))
 (ag (aW (az kz (pv 1) (aK (eQ (vs:=[.str "must",.str "if",.str "while"]) (by kernel_rfl))) rfl)
 (ak (dX (j7 zaA zaN zaO fG (pv 2) (aa (aR (aa (cz pO T.jG hr (a8 0 (aa aw (aa (BK (mC (v:=.ref t.eN) rfl T.uT rfl) (iT 0) (fun _ _=>rfl)) ae aA) aE))) ae bw)) ae jO))))
 aG)
 (ag (aW (az kz (pv 1) (aK (eQ (vs:=[.str "if",.str "while"]) (by kernel_rfl))) rfl)
 (ak (dX (j7 zaA zaN zaO fG (pv 2) (aa (aR (aa (aY xY (aY xY (cW xZ (pv 0) fq (dZ aw)) (aK (aa (iT 0) (aa (iT 0) ae aA) aA))) (cW xZ (pv 0) (dZ aw) fq)) ae qS)) ae jO))))
 aG)
 (ag (aW (az kz (pv 1) (aK (eQ (vs:=[.str "put",.str "say"]) (by kernel_rfl))) rfl)
 (ak (dX (j7 zaA zaN zaO fG (pv 2) (aa (aR ae) ae jO))))
 aG)
 (ak (aB (pv 2)))))))),rfl,?_⟩
 refine ai fun U1 cM=>?_;walk_at "";refine aq hS (v:=.str w0) fP ((cM _ _).mpr (ai fun U2 fh=>?_));clear cM;simp only[cJ];walk_at "";refine⟨.ref a,st,H0,O,rfl,s0,hv,sc,Rp,fun L us H1 s1 hL yL rs=>⟨L,rfl,⟨_,.of yL⟩,fun D hD=>?_⟩⟩;have fD:H D=none:=s1.free hD;have lsm:((iE ja st++iE jj st).length)<=1000:=Il sc;refine wX (K:=K) (F:=b3) (G:=fun o:List aT=>.lst (o.map b3)) (fun g=>g=D\/O g) (.inl rfl) (fun g hg=>hg.imp id fun z=>let ⟨zs,e⟩:=(Rp g z).2;⟨zs,s1 _ _ e⟩) (fun x=>[x]) (iE ja st++iE jj st) (.of yL) rs (by rw[rs.CH.length,zab];lia) hD (fun i x y H2 hy hx rx s2 Z9 R hR=>?_) fun ys H2 s2 yD Ks=>(fh _ _).mpr ?_
 .walk_at "";intro p hp;have npD:¬(p=D\/O p):=fun z=>by obtain⟨_,e⟩:=Z9 p z;rw[e] at hp;cases hp
  refine hR _ _ (ao.new hp _) (Fix.lst ah npD (.cons (fun H4 u4=>rx H4 fun b o nO e=>u4 b o (fun z=>z.elim (aj e hD) nO) (ao.new hp _ _ _ (s2 _ _ e))) .nil))
 clear fh;have W0:ys.length<=1000:=by rw[Ks.CH.length,zab,zab];exact lsm
 have tr0:∀{H3 H4:Hp},ao H H3->aN (fun g=>g=D\/O g) H3 H4->∀d v,Rep K H0 d v->Rep K H4 d v:=fun s3 u4 d v h=>h.mono fun b o e=>u4 b o (fun z=>z.elim (aj (s0 _ _ e) fD) fun z=>by rw[(Rp _ z).1] at e;cases e) (s3 _ _ (s0 _ _ e));have nin:∀{H3:Hp} {zs:List V} {p:zdi},ao H H3->H3 D=some (.lst zs)->H3 p=none->¬(p=D\/O p):=fun {H3 zs p} s3 e hp z=>z.elim (fun z=>by rw[z,e] at hp;cases hp) fun z=>by
  obtain⟨ws,e2⟩:=(Rp p z).2;rw[s3 _ _ e2] at hp;cases hp
 have W5:∀{H3:Hp} {zs:List V} {os:List (List aT)} {p:zdi} {o:List aT} {ps:List V},dJ K (fun g=>g=D\/O g) H3 (os.map fun o=>.lst (o.map b3)) zs->H3 p=none->¬(p=D\/O p)->dJ K (fun g=>g=D\/O g) H3 (o.map b3) ps->dJ K (fun g=>g=D\/O g) (upd (upd H3 p (.lst ps)) D (.lst (zs++[.ref p]))) ((os++[o]).map fun o=>.lst (o.map b3)) (zs++[.ref p]):=by
  intro H3 zs os p o ps f hp np fo;rw[zas];refine dJ.up (O:=fun g=>g=D\/O g) (H:=upd H3 p (.lst ps)) ?_ (aN.put (O:=fun g=>g=D\/O g) aN.refl (.inl rfl) _);exact(f.up (.of (ao.new hp _))).snoc (Fix.lst ah np (fo.up (.of (ao.new hp _))))
 have xG:=s1.trans s2;obtain⟨B,hB⟩:∃B:List (List aT),((iE ja st++iE jj st).map fun x=>[x])=B:=⟨_,rfl⟩
 rw[hB] at Ks;have T6:fE st=B++(E5 st++(Hq st++Kb st)):=by rw[<- hB];rfl
 refine ai fun U3 gJ=>?_;have last:∀(H3:Hp) (zs:List V),ao H H3->H3 D=some (.lst zs)->zs.length<=1001->dJ K (fun g=>g=D\/O g) H3 ((B++E5 st).map fun o=>.lst (o.map b3)) zs->U3 [some (.ref a),some (.str w0),some (.ref D)] H3:=by
  intro H3 zs s3 yz lz fz;refine(gJ _ _).mpr (ai fun U4 jI=>?_);clear gJ;have Vb:∀(H3:Hp) (zs:List V),ao H H3->H3 D=some (.lst zs)->zs.length<=1002->dJ K (fun g=>g=D\/O g) H3 ((B++E5 st++Hq st).map fun o=>.lst (o.map b3)) zs->U4 [some (.ref a),some (.str w0),some (.ref D)] H3:=by
   intro H3 zs s3 yz lz fz;refine(jI _ _).mpr (ai fun U5 tj=>?_);clear jI;have Vc:∀(H3:Hp) (zs:List V),ao H H3->H3 D=some (.lst zs)->dJ K (fun g=>g=D\/O g) H3 ((B++E5 st++Hq st++Kb st).map fun o=>.lst (o.map b3)) zs->U5 [some (.ref a),some (.str w0),some (.ref D)] H3:=by
    intro H3 zs s3 yz fz;refine(tj _ _).mpr ?_;walk_at "";refine q D zs H3 s3 fD yz ?_;rw[T6,<- zau,<- zau];exact fz.sub fun g hg=>.inr hg
   refine mK fun UB Rr=>?_;walk_at "";intro p hp;generalize nG:upd H3 p (.tup [V.str (zad "put"),V.str (zad "say")])=H4 at *;obtain⟨sp,W6⟩:=bX nG hp;have yp:bG K H4 p _:=.of W6;have Oe:=sp _ _ yz;have s4:=s3.trans sp;have Vd:=fz.up (.of sp);refine⟨p,_,rfl,.inr yp,rfl,rfl,_,rfl,?_⟩;by_cases z:w0 = "put"\/w0 = "say"
   .refine(ybr (by rcases z with z |z<;>rw[z]<;>decide +kernel)).mpr ((Rr _ _).mpr ?_);clear Rr;walk_at "";refine⟨.inl ⟨rfl,_,.of Oe⟩,fun p5 Ei=>⟨D,zs,_,rfl,rfl,ao.new Ei _ _ _ Oe,by lia,?_⟩⟩;refine Vc _ (zs++[.ref p5]) (((a9.of (s4.trans (ao.new Ei _))).put _).same fD) ah ?_;rw[ot.p1 z];exact W5 (o:=[]) Vd Ei (nin s4 Oe Ei) .nil
   .refine(ybq (fun y=>z ?_)).mpr (Vc _ zs s4 Oe (by rw[ot.p0 z,zax];exact Vd));simp[Sf,N7] at y;exact y.imp Eq.symm Eq.symm
  refine mK fun UB Rr=>?_;walk_at "";intro p hp;generalize Ae:upd H3 p (.tup [V.str (zad "if"),V.str (zad "while")])=H4 at *;obtain⟨sp,W7⟩:=bX Ae hp;have yp:bG K H4 p _:=.of W7;have Oe:=sp _ _ yz;have s4:=s3.trans sp;have Vd:=fz.up (.of sp);refine⟨p,_,rfl,.inr yp,rfl,rfl,_,rfl,?_⟩;by_cases z:w0 = "if"\/w0 = "while"
  .refine(ybr (by rcases z with z |z<;>rw[z]<;>decide +kernel)).mpr ((Rr _ _).mpr ?_);clear Rr;obtain⟨vl,vr,s',e3,e4,eo,put⟩:=ot.b1 z;have Ro:=s4.aS hS;walk_at "";refine⟨.inl ⟨rfl,_,.of Oe⟩,?_⟩;refine⟨_,rfl,a,_,rfl,Ro,fun p1 H5 s5 h5=>?_⟩;refine aq (s5.aS Ro) (v:=vr) (aF e4) ?_;refine aq (s5.aS Ro) (v:=vl) (aF e3) fun p2 qP=>?_;generalize NJ:upd H5 p2 (.tup [vr,vl])=H6 at *;obtain⟨s6,yN3⟩:=bX NJ qP;have y6:bG K H6 p2 [vr,vl]:=.of yN3;have c1:=Ka (.str w0::xs) (x:=3) (by decide);have c2:je (.str w0::xs) (some 5) none=(V.str w0::xs).drop 5:=BJ _ 5;rw[c1] at h5;refine⟨p1,p2,_,_,rfl,rfl,s6.aS h5,y6,by simp only[zbt,zal,zaF] at lx ⊢;lia,fun p3 H7 s7 h7=>?_⟩;have Yb:=s5.trans (s6.trans s7);refine⟨_,rfl,a,_,rfl,Yb.aS Ro,fun p4 H8 s8 h8=>?_⟩;rw[c2] at h8;refine⟨p3,p4,_,_,rfl,rfl,s8.aS h7,h8,by simp only[zae,zbt,zaU,zal,zaF] at lx ⊢;lia,fun p9 H9 s9 h9 Kr Ag=>?_⟩;have Yc:=(Yb.trans s8).trans s9;have W8:=Yc _ _ Oe;refine⟨D,zs,_,rfl,rfl,ao.new Ag _ _ _ W8,by lia,?_⟩;refine Vb _ (zs++[.ref Kr]) (((a9.of ((s4.trans Yc).trans (ao.new Ag _))).put _).same fD) ah (by rw[zae,za6];lia) ?_;rw[eo];have hO9:∀g,(g=D\/O g)->∃ys,H9 g=some (.lst ys):=fun g hg=>hg.elim (fun hg=>by rw[hg];exact⟨_,W8⟩) fun z=>let ⟨zs,e⟩:=(Rp g z).2;⟨zs,(s4.trans Yc) _ _ e⟩;exact W5 (o:=[s']) (Vd.up (.of Yc)) Ag (nin (s4.trans Yc) W8 Ag) (.cons (fun Hx ux=>put Hx (tr0 (s4.trans Yc) ux) p9 (iX hO9 ux h9)) .nil)
  .refine(ybq (fun y=>z ?_)).mpr (Vb _ zs s4 Oe (by lia) (by rw[ot.b0 z,zax];exact Vd));simp[Sf,N7] at y;exact y.imp Eq.symm Eq.symm
 refine mK fun UB Rr=>?_;walk_at "";intro p hp;generalize T5:upd H2 p (.tup [V.str (zad "must"),V.str (zad "if"),V.str (zad "while")])=H4 at *;obtain⟨sp,yN4⟩:=bX T5 hp;have yp:bG K H4 p _:=.of yN4;have Oe:=sp _ _ yD;have s4:=xG.trans sp;have Vd:=Ks.up (.of sp);refine⟨p,_,rfl,.inr yp,rfl,rfl,_,rfl,?_⟩;by_cases z:w0 = "must"\/w0 = "if"\/w0 = "while"
 .refine(ybr (by rcases z with z |z |z<;>rw[z]<;>decide +kernel)).mpr ((Rr _ _).mpr ?_);clear Rr;obtain⟨sg,s',e2,osg,eo,put⟩:=ot.c1 z;have Ro:=s4.aS hS;walk_at "";refine⟨.inl ⟨rfl,_,.of Oe⟩,aq Ro (v:=.str (S sg)) (aF e2) ?_⟩;refine⟨.str (S (oT sg)),⟨_,_,.inr (S sg),rfl,C.wG,rfl,(Ml (.inr osg)).symm⟩,a,_,2,_,rfl,Ro,(zaj.mp e2).1,by lia,fun p9 H9 s9 h9 Kr Ag=>?_⟩;have W8:=s9 _ _ Oe;refine⟨D,ys,_,rfl,rfl,ao.new Ag _ _ _ W8,by lia,?_⟩;refine last _ (ys++[.ref Kr]) (((a9.of ((s4.trans s9).trans (ao.new Ag _))).put _).same fD) ah (by rw[zae,za6];lia) ?_;rw[eo];have hO9:∀g,(g=D\/O g)->∃ys,H9 g=some (.lst ys):=fun g hg=>hg.elim (fun hg=>by rw[hg];exact⟨_,W8⟩) fun z=>let ⟨zs,e⟩:=(Rp g z).2;⟨zs,(s4.trans s9) _ _ e⟩;exact W5 (o:=[s']) (Vd.up (.of s9)) Ag (nin (s4.trans s9) W8 Ag) (.cons (fun Hx ux=>put Hx (tr0 (s4.trans s9) ux) p9 (iX hO9 ux h9)) .nil)
 .refine(ybq (fun y=>z ?_)).mpr (last _ ys s4 Oe (by lia) (by rw[ot.c0 z,zax];exact Vd));simp[Sf,N7] at y;exact y.imp Eq.symm fun y=>y.imp Eq.symm Eq.symm
theorem Ah:∀s:aT,(V.str (qj s.wd)=V.str (zad "while"))↔s.wd=.fM:=by
 intro s;cases s<;>simp only[aT.wd]<;>decide +kernel
theorem Fu:∀s:aT,(V.str (qj s.wd)=V.str (zad "if"))↔s.wd=.ifs:=by
 intro s;cases s<;>simp only[aT.wd]<;>decide +kernel
theorem MB:∀s:aT,(V.str (qj s.wd)=V.str (zad "stop"))↔s.wd=.stop:=by
 intro s;cases s<;>simp only[aT.wd]<;>decide +kernel
theorem MC(h:aC K H (d0::d1::d2::d3::d4::d5::ds) xs):∃v0 v1 v2 v3 v4 v5 r,xs=v0::v1::v2::v3::v4::v5::r/\Rep K H d5 v5/\aC K H ds r:=by
 rw[aC.av] at h;obtain⟨v0,t0,rfl,_,h⟩:=h;rw[aC.av] at h;obtain⟨v1,t1,rfl,_,h⟩:=h;rw[aC.av] at h;obtain⟨v2,t2,rfl,_,h⟩:=h;rw[aC.av] at h;obtain⟨v3,t3,rfl,_,h⟩:=h;rw[aC.av] at h;obtain⟨v4,t4,rfl,_,h⟩:=h;rw[aC.av] at h;obtain⟨v5,t5,rfl,e5,h⟩:=h;exact⟨v0,v1,v2,v3,v4,v5,t5,rfl,e5,h⟩
theorem rX(T:Tx K mg t):bq P w K mg base dF 1 t.fQ t.eC ["body", "behind"] (qU K):=by
 refine T.gP.F.okN yn fun _ _ _ _ H vs Q E hr h=>?_;obtain⟨b,body,x,rfl,rb,lb,q⟩:=h;have nd:=yn.nd;refine⟨_,[some (V.ref b),some (V.int x)],(ag (aW (OC (pv 0) (fun _=>rfl))
 (ak (aB (bL gA (iL 0) aw bI)))
 aG)
 (ak (aB (pv 1)))),rfl,?_⟩
 walk_at "";rw[Rep.bD] at rb;obtain⟨_,xs,e,hx,rs⟩:=rb;cases e;have line:zdq=2 ^ 24:=rfl;cases body with
 |nil=>
  rw[zbE,aC.aO] at rs;subst rs;exact⟨false,.inl ⟨_,hx,rfl⟩,q⟩
 |cons st r=>
  rw[zaq,aC.av] at rs;obtain⟨v,t,rfl,rv,rs⟩:=rs;obtain⟨a,ys,rfl,hs⟩:=kB st rv;refine⟨true,.inl ⟨_,hx,rfl⟩,?_⟩;refine(ybr rfl).mpr (aL (v:=.ref a) hx fP ?_);exact aq hs (v:=.int st.row) jV q
theorem B9(T:Tx K mg t):bq P w K mg base dF 1 t.jk t.iJ ["statement", "after"] (Br K):=by
 refine T.k8.F.okN uM fun _ _ _ _ H vs Q E hr h=>?_;obtain⟨v,st,x,rfl,rv,q⟩:=h;have nd:=uM.nd;refine⟨_,[some v,some (V.int x)],(ag (aW (az bB (iT 0) aV (aH _))
 (ak (aB (iT 0)))
 aG)
 (ak (aB (pv 1)))),rfl,?_⟩
 obtain⟨a,ys,rfl,hs⟩:=kB st rv;walk_at "";refine aq hs fP ⟨rfl,dR (fun e=>?_) (fun e=>?_)⟩
 .have ew:=(Ah st).mp e;refine aq hs (v:=.int st.row) jV ?_;cases st<;>first |exact q |cases ew
 .have ew:st.wd≠.fM:=fun z=>e ((Ah st).mpr z);cases st<;>first |exact q |exact ybw rfl ew
theorem nI(T:Tx K mg t):bq P w K mg base dF 1 t.gO t.fR ["statement"] (qo K):=by
 refine T.iN.F.okN yo fun _ _ _ _ H vs Q E hr h=>?_;obtain⟨v,st,H0,rfl,rv,s0,q⟩:=h;have nd:=yo.nd;refine⟨_,[some v],(ag (aW (az bB (iT 0) aV (aH _))
 (ak (aB (aR (aa (iT 0) (aa (iT 0) ae aA) aA))))
 aG)
 (ag (aW (az bB (iT 0) aV (aH _))
 (ak (aB (aR (aa (iT 0) ae aA))))
 aG)
 (ak (aB (aR ae))))),rfl,?_⟩
 obtain⟨a,ys,rfl,hs⟩:=kB st rv;have hs:=s0.aS hs;walk_at "";refine aq hs fP ⟨rfl,dR (fun e=>?_) (fun e=>aq hs fP ⟨rfl,dR (fun e2=>?_) (fun e2=>?_)⟩)⟩
 .have ew:=(Fu st).mp e;cases st<;>first |(exfalso;cases ew;done) |skip
  rename_i k sg l r x y;rw[b3,Rep.aJ] at rv;obtain⟨_,xs,e0,hx,rs⟩:=rv;cases e0;obtain⟨v0,v1,v2,v3,v4,v5,rr,rfl,r5,rs⟩:=MC rs;rw[aC.av] at rs;obtain⟨v6,t6,rfl,r6,_⟩:=rs;refine aq (s0.aS hx) (v:=v5) (aF (j:=5) rfl) (aq (s0.aS hx) (v:=v6) (aF (j:=6) rfl) fun p hp=>?_);rw[ic] at r5 r6;exact q p _ _ (ao.new hp _) hp ah (.cons r5 (.cons r6 .nil))
 .have ew:=(Ah st).mp e2;cases st<;>first |(exfalso;cases ew;done) |skip
  rename_i k sg l r x;rw[b3,Rep.aJ] at rv;obtain⟨_,xs,e0,hx,rs⟩:=rv;cases e0;obtain⟨v0,v1,v2,v3,v4,v5,rr,rfl,r5,rs⟩:=MC rs;refine aq (s0.aS hx) (v:=v5) (aF (j:=5) rfl) fun p hp=>?_;rw[ic] at r5;exact q p _ _ (ao.new hp _) hp ah (.cons r5 .nil)
 .intro p hp;have e1:st.wd≠.ifs:=fun z=>e ((Fu st).mpr z);have Ve:st.wd≠.fM:=fun z=>e2 ((Ah st).mpr z);refine q p [] _ (ao.new hp _) hp ah ?_;cases st<;>first |exact .nil |exact ybw rfl e1 |exact ybw rfl Ve
theorem Kt(T:Tx K mg t):bq P w K mg base dF 2 t.qG t.oF ["statement", "after"] (JO K):=by
 have dI:bq P w K mg base dF 1 t.fQ t.eC ["body", "behind"] (qU K):=rX T;refine T.vH.F.okN B0 fun _ _ _ _ H vs Q E hr h=>?_;obtain⟨v,st,x,rfl,rv,hl,q⟩:=h;have nd:=B0.nd;obtain⟨Rt,Ca,Cb⟩:=T.Fl;refine⟨_,[some v,some (V.int x),none],(ag (fw 2 nd (iT 0))
 (ag (aW (az bB (pv 2) aV (aH _))
 (ak (aB (aK (aa (mC rfl Ca Cb) ae cK))))
 aG)
 (ag (aW (az bB (pv 2) aV (aH _))
 (ak (aB (aK (aa (cz dI T.gP hr (aa (iT 0) (a8 1 ae) aA)) (aa (cz dI T.gP hr (aa (iT 0) (a8 1 ae) aA)) ae bw) bw))))
 aG)
 (ag (aW (az bB (pv 2) aV (aH _))
 (ak (aB (aK (aa (cz dI T.gP hr (aa (iT 0) (aa (iT 0) ae aA) aA)) (a8 1 ae) bw))))
 aG)
 (ak (aB (aK (a8 1 ae)))))))),rfl,?_⟩
 obtain⟨a,ys,rfl,hs⟩:=kB st rv;refine ai fun U1 cM=>?_;walk_at "";refine aq hs fP ((cM _ _).mpr ?_);walk_at "";have Ru:∀b∈ay st,b.length<=100000:=hl;refine dR (fun e=>?_) (fun e=>dR (fun e1=>?_) (fun e1=>dR (fun e2=>?_) (fun e2=>?_)))
 .have ew:=(MB st).mp (by rw[e]);cases st<;>first |(exfalso;cases ew;done) |skip
  intro p hp;exact q _ _ (ao.new hp _) (Rep.new hp (.cons (Rep.bu.mpr rfl) .nil))
 .have ew:=(Fu st).mp (by rw[e1]);cases st<;>first |(exfalso;cases ew;done) |skip
  rename_i k sg l r y z;rw[b3,Rep.aJ] at rv;obtain⟨_,xs,e0,hx,rs⟩:=rv;cases e0;obtain⟨v0,v1,v2,v3,v4,v5,rr,rfl,r5,rs⟩:=MC rs;rw[aC.av] at rs;obtain⟨v6,t6,rfl,r6,_⟩:=rs;rw[ic] at r5 r6;obtain⟨a5,_,rfl,_⟩:=Rep.bD.mp r5;obtain⟨a6,_,rfl,_⟩:=Rep.bD.mp r6;refine aq hx (v:=.ref a5) (aF (j:=5) rfl) ⟨a5,y,x,rfl,r5,Ru y (by simp[ay]),aq hx (v:=.ref a6) (aF (j:=6) rfl) ⟨a6,z,x,rfl,r6,Ru z (by simp[ay]),fun p hp=>?_⟩⟩;exact q _ _ (ao.new hp _) (Rep.new hp (.cons (Rep.bu.mpr rfl) (.cons (Rep.bu.mpr rfl) .nil)))
 .have ew:=(Ah st).mp (by rw[e2]);cases st<;>first |(exfalso;cases ew;done) |skip
  rename_i k sg l r y;rw[b3,Rep.aJ] at rv;obtain⟨_,xs,e0,hx,rs⟩:=rv;cases e0;obtain⟨v0,v1,v2,v3,v4,v5,rr,rfl,r5,rs⟩:=MC rs;rw[ic] at r5;obtain⟨a5,_,rfl,_⟩:=Rep.bD.mp r5;refine aq hx (v:=.ref a5) (aF (j:=5) rfl) (aq hs (v:=.int k) jV ⟨a5,y,k,rfl,r5,Ru y (by simp[ay]),fun p hp=>?_⟩);exact q _ _ (ao.new hp _) (Rep.new hp (.cons (Rep.bu.mpr rfl) (.cons (Rep.bu.mpr rfl) .nil)))
 .intro p hp;have n1:st.wd≠.stop:=fun z=>e (V.str.inj ((MB st).mpr z));have n2:st.wd≠.ifs:=fun z=>e1 (V.str.inj ((Fu st).mpr z));have n3:st.wd≠.fM:=fun z=>e2 (V.str.inj ((Ah st).mpr z));have ew:tW st x=[x]:=by
   cases st<;>first |rfl |exact ybw rfl n1 |exact ybw rfl n2 |exact ybw rfl n3
  rw[ew] at q;exact q _ _ (ao.new hp _) (Rep.new hp (.cons (Rep.bu.mpr rfl) .nil))
theorem ik(s:ao H H')(h:H' b=none):H b=none:=by
 cases z:H b with
 |none=>rfl
 |some o=>rw[s _ _ z] at h;cases h
theorem xn:∀{ds es:List Dp}{xs:List V},aC K H (ds++es) xs->∃hs ws,xs=hs++ws/\aC K H ds hs/\aC K H es ws
 |[],es,xs,h=>⟨[],xs,rfl,.nil,h⟩
 |d::ds,es,xs,h=>by
  rw[zbO,aC.av] at h;obtain⟨v,t,rfl,h1,h2⟩:=h;obtain⟨hs,ws,rfl,h3,h4⟩:=xn h2;exact⟨v::hs,ws,rfl,.cons h1 h3,h4⟩
theorem MD(T:Tx K mg t):bq P w K mg base dF 1 t.kP t.jX ["statement", "bodies"] (PD K):=by
 refine T.jl.F.okN uO fun _ _ _ _ H vs Q E hr h=>?_;obtain⟨a,l,hs,ws,bs,rfl,ha,hn,l5,lw,lb,hl,q⟩:=h;have nd:=uO.nd;refine⟨_,[some (V.ref a),some (V.ref l)],(ak (aB (aY Lm (cW LM (pv 0) fq (dZ (aY tO (eT cn rfl T.pM ybD (a8 0 ae)) (eT cn rfl T.pM ybD (a8 1 ae))))) (bH ig rfl T.pN ybG (a8 1 ae))))),rfl,?_⟩;have line:zdq=2 ^ 24:=rfl;simp only[tSl];walk_at "";have len:((hs++ws).length:Int)-(bs.length:Int)=((hs.length:Nat):Int):=by rw[zae];lia
 refine⟨a,_,rfl,.inr ha,l,bs,rfl,.inl (.of hl),_,rfl,a,_,rfl,ha,fun hw=>?_,fun hw p hp=>?_⟩
 .rw[len,HT.mE,zae] at hw;have hb:bs=[]:=zbw.mp (by have:=hw.2;lia);have hw':ws=[]:=zbw.mp (by have:=hw.2;lia);subst hb hw';refine⟨l,[],rfl,.inl ⟨.of hl,fun p2 qP=>?_⟩⟩;have s2:=ao.new qP (.tup []);refine⟨a,p2,_,[],rfl,rfl,s2.aS ha,.of ah,by simpa using hn,by simp only[zax,zaF];lia,fun _=>q a _ s2 (s2.aS ha),fun z=>ybw rfl z⟩
 .have ec:je (hs++ws) none (some (((hs++ws).length:Int)-(bs.length:Int)))=hs:=by
   rw[len];unfold je;rw[HT.lD,HT.mE,zae,zb7 (by lia),zci,zcL,List.take_left]
  rw[ec];generalize nG:upd H p (.tup hs)=H1 at *;obtain⟨s1,h1⟩:=bX nG hp;refine⟨l,bs,rfl,.inl ⟨.of (s1 _ _ hl),fun p2 qP=>?_⟩⟩;generalize Ae:upd H1 p2 (.tup bs)=H2 at *;obtain⟨s2,h2⟩:=bX Ae qP;have h1':=s2 _ _ h1;refine⟨p,p2,hs,bs,rfl,rfl,.of h1',.of h2,hn,by lia,fun z=>?_,fun z p3 ME=>?_⟩
  .subst z;exact q p _ (s1.trans s2) (by rw[zax];exact .of h1')
  .exact q p3 _ ((s1.trans s2).trans (ao.new ME _)) (.of ah)
theorem Im(T:Tx K mg t)(CN:bq P w K mg base dF (2*n+2) t.il t.gH ["body"] (xW K n)) :
 bq P w K mg base dF (2*n+3) t.eZ t.dU ["statement"] (ET K n):=by
 have qg:=MD (P:=P) (w:=w) (base:=base) T;have iS:bq P w K mg base dF 1 t.gO t.fR ["statement"] (qo K):=nI T;refine T.fe.F.okN mv fun _ _ _ _ H vs Q E hr h=>?_;obtain⟨v,st,H0,rfl,s0,rv,hd,hf,q⟩:=h;have nd:=mv.nd;refine⟨_,[some v],(ak (aB (cz qg T.jl hr (a8 0 (aa (lM (bt (cz iS T.iN hr (a8 0 ae))) (fun _ _ _ _=>(cz CN T.lg hr (a8 0 ae)))) ae fK))))),rfl,?_⟩;have line:zdq=2 ^ 24:=rfl;walk_at "";simp only[cJ];walk_at "";refine⟨v,st,H0,rfl,rv,s0,fun l bv H1 s1 hl y1 rc=>⟨l,rfl,⟨_,.of y1⟩,fun D hD=>?_⟩⟩;have W9:bv.length=(ay st).length:=by rw[rc.length,zab]
 have om:(ay st).length<=2:=by cases st<;>simp[ay]
 have hDH:H D=none:=ik s1 hD;refine dP (K:=K) (r:=[]) (fun i ys H2=>∃(bs:List zdi) (Gs:List (List zdi)),ys=bs.map V.ref/\bP (qr K H2 n) ((ay st).take i) bs Gs/\Gs.flatten.Nodup/\∀f∈Gs.flatten,H f=none/\f≠D) (.of y1) (by lia) hD ⟨[],[],rfl,trivial,zbf,by simp⟩ ?_ ?_
 .rintro i x ys H2 hx s2 oh ly ⟨bs,Gs,rfl,al,Rv,new⟩ R hR
  have li:i<(ay st).length:=by have:=(zaj.mp hx).1;lia
  obtain⟨v',qK,rb⟩:=rc.get (i:=i) (d:=.lst ((ay st)[i].map b3)) (by rw[zaf,zac li];rfl);rw[hx] at qK;cases qK;have mi:(ay st)[i]∈ay st:=zam li;obtain⟨fb,db⟩:=jQ st _ mi;obtain⟨ab,_,rfl,_⟩:=Rep.bD.mp rb;walk_at "";refine⟨ab,(ay st)[i],H0,rfl,(s0.trans s1).trans s2,rb,by lia,by lia,fun l2 F H3 s3 tr NM qI=>hR _ H3 s3 ⟨bs++[l2],Gs++[F],by simp,?_,?_,?_⟩⟩
  .rw[zaL li];have u2:aN (·=D) H2 (upd H3 D (.lst (bs.map V.ref++[V.ref l2]))):=(aN.of s3).trans (aN.refl.put (O:=(·=D)) rfl _);have u3:aN (·=D) H3 (upd H3 D (.lst (bs.map V.ref++[V.ref l2]))):=aN.refl.put (O:=(·=D)) rfl _;refine(al.imp fun bd b' G' _ ES ht=>qr.i9 (O:=(·=D)) (fun g z=>⟨_,z▸oh⟩) u2 n bd b' G' (fun f hf z=>(new f (za3.mpr ⟨_,ES,hf⟩)).2 z) ht).snoc ?_;exact qr.i9 (O:=(·=D)) (fun g z=>⟨_,z▸s3 _ _ oh⟩) u3 n _ _ _ (fun f hf z=>by have:=qI f hf;rw[z,oh] at this;cases this) tr
  .rw[zaW,zaX,zbl,zax];refine zbd.mpr ⟨Rv,NM,fun f hf g hg z=>?_⟩;subst z;have no:=qI f hg;obtain⟨G',ES,hf'⟩:=za3.mp hf;have key:∀{as:List (List aT)} {bs:List zdi} {cs:List (List zdi)},bP (qr K H2 n) as bs cs->G'∈cs->∃ys,H2 f=some (.lst ys):=by
    intro as
    induction as with
    |nil=>intro bs cs h m;obtain⟨rfl,rfl⟩:=bP.aO.mp h;cases m
    |cons x as ih=>
     intro bs cs h m;obtain⟨b',N8,c,N9,rfl,rfl,h1,h2⟩:=bP.av.mp h;rcases zan.mp m with rfl |m
     .exact qr.lists n _ _ _ h1 f hf'
     .exact ih h2 m
   obtain⟨_,e⟩:=key al ES;rw[e] at no;cases no
  .intro f hf;rw[zaW,zaX,zbl,zax] at hf;rcases zak.mp hf with hf |hf
   .exact new f hf
   .have no:=qI f hf;exact⟨ik (s1.trans s2) no,fun z=>by rw[z,oh] at no;cases no⟩
 .rintro ys H2 s2 oh ⟨bs,Gs,rfl,al,Rv,new⟩
  rw[W9,zaH] at al;rw[ER] at rv;obtain⟨a,xs,rfl,hx,rs⟩:=Rep.aJ.mp rv;obtain⟨hs,ws,rfl,r1,r2⟩:=xn rs;have lh:=r1.length;obtain⟨h1,h2,_⟩:=LO st;have lw:=r2.length;rw[zab] at lw;have lbs:=(al.length).1;have xG:=(s0.trans s1).trans s2;refine⟨a,D,hs,ws,bs.map V.ref,rfl,xG.aS hx,fun z=>by rw[z] at lh;simp at lh;lia,by lia,by rw[zab];lia,by rw[zab];lia,oh,fun p H3 s3 ME=>?_⟩;refine q (.ref p) Gs.flatten H3 ((s1.trans s2).trans s3) ⟨p,hs,bs,Gs,rfl,ME,r1.mono (xG.trans s3),al.imp fun bd b' G' _ _ ht=>qr.i9 (O:=fun _=>False) (fun g z=>z.elim) (.of s3) n bd b' G' (fun f _ z=>z) ht,rfl⟩ Rv fun f hf=>(new f hf).1
theorem Rw(T:Tx K mg t)(jA:bq P w K mg base dF (2*n+3) t.eZ t.dU ["statement"] (ET K n)) :
 bq P w K mg base dF (2*n+4) t.il t.gH ["body"] (xW K (n+1)):=by
 refine T.lg.F.okN uN fun _ _ _ _ H vs Q E hr h=>?_;obtain⟨b,body,H0,rfl,s0,rb,hd,hf,q⟩:=h;have nd:=uN.nd;refine⟨_,[some (V.ref b)],(ak (aB (lM (bt (pv 0)) (fun _ _ _ _=>(cz jA T.fe hr (a8 0 ae)))))),rfl,?_⟩;have line:zdq=2 ^ 24:=rfl;rw[Rep.bD] at rb;obtain⟨_,xs,e,hx,rs⟩:=rb;cases e;have lx:xs.length=body.length:=by rw[rs.length,zab]
 have lb:=eR body;walk_at "";simp only[cJ];walk_at "";refine⟨⟨_,s0.seq hx⟩,fun D hD=>?_⟩;refine dP (K:=K) (r:=[]) (fun i ys H2=>∃Gs:List (List zdi),bP (G0 K H2 n) (body.take i) ys Gs/\Gs.flatten.Nodup/\∀f∈Gs.flatten,H f=none/\f≠D) (s0.seq hx) (by lia) hD ⟨[],trivial,zbf,by simp⟩ ?_ ?_
 .rintro i x ys H2 Vf s2 oh ly ⟨Gs,al,Rv,new⟩ R hR
  have li:i<body.length:=by have:=(zaj.mp Vf).1;lia
  obtain⟨v',qK,rv⟩:=rs.get (i:=i) (d:=b3 body[i]) (by rw[zaf,zac li];rfl);rw[Vf] at qK;cases qK;obtain⟨fm,dm⟩:=qp body _ (zam li);walk_at "";refine⟨x,body[i],H0,rfl,s0.trans s2,rv,by lia,by lia,fun u F H3 s3 tr NM qI=>hR _ H3 s3 ⟨Gs++[F],?_,?_,?_⟩⟩
  .rw[zaL li];have u2:aN (·=D) H2 (upd H3 D (.lst (ys++[u]))):=(aN.of s3).trans (aN.refl.put (O:=(·=D)) rfl _);have u3:aN (·=D) H3 (upd H3 D (.lst (ys++[u]))):=aN.refl.put (O:=(·=D)) rfl _;refine(al.imp fun bd b' G' _ ES ht=>G0.i9 (O:=(·=D)) (fun g z=>⟨_,z▸oh⟩) u2 (fun f hf z=>(new f (za3.mpr ⟨_,ES,hf⟩)).2 z) ht).snoc ?_;exact G0.i9 (O:=(·=D)) (fun g z=>⟨_,z▸s3 _ _ oh⟩) u3 (fun f hf z=>by have:=qI f hf;rw[z,oh] at this;cases this) tr
  .rw[zaW,zaX,zbl,zax];refine zbd.mpr ⟨Rv,NM,fun f hf g hg z=>?_⟩;subst z;have no:=qI f hg;have tb:qr K (upd H2 D (.lst ys)) (n+1) (body.take i) D (D::Gs.flatten):=by
    have e:upd H2 D (.lst ys)=H2:=by
     funext z
     by_cases zD:z=D
     .rw[zD,ah,oh]
     .rw[aI zD]
    rw[e];exact jR.mpr ⟨ys,Gs,oh,al,rfl⟩
   obtain⟨_,e⟩:=qr.lists _ _ _ _ tb f (zao _ hf);rw[aI (new f hf).2,no] at e;cases e
  .intro f hf;rw[zaW,zaX,zbl,zax] at hf;rcases zak.mp hf with hf |hf
   .exact new f hf
   .have no:=qI f hf;exact⟨ik s2 no,fun z=>by rw[z,oh] at no;cases no⟩
 .rintro ys H2 s2 oh ⟨Gs,al,Rv,new⟩
  rw[lx,zaH] at al;exact q D (D::Gs.flatten) H2 s2 (jR.mpr ⟨ys,Gs,oh,al,rfl⟩) (zbr.mpr ⟨fun z=>(new D z).2 rfl,Rv⟩) fun f hf=>(zan.mp hf).elim (fun z=>z▸hD) fun z=>(new f z).1
theorem El(T:Tx K mg t):∀n,bq P w K mg base dF (2*n+2) t.il t.gH ["body"] (xW K n)
 |0=>by
  have no:∀vs H Q E,¬xW K 0 vs H Q E:=fun vs H Q E h=>by cases h;lia
  exact⟨fun vs H Q E h=>ybw h (no vs H Q E),fun A outer s H args us vs Q E _ _ _ _ h=>ybw h (no vs H Q E)⟩
 |n+1=>Rw T (Im T (El T n))
theorem Rx(T:Tx K mg t)(uY:bq P w K mg base dF (2*n+3) t.jE t.iZ ["body", "row", "others"] (yh K n)) :
 bq P w K mg base dF (2*n+5) t.jE t.iZ ["body", "row", "others"] (yh K (n+1)):=by
 have jA:=Im (P:=P) (w:=w) (base:=base) T (El T n);have qg:=MD (P:=P) (w:=w) (base:=base) T;have iS:bq P w K mg base dF 1 t.gO t.fR ["statement"] (qo K):=nI T;refine T.lO.F.okN yv fun _ _ _ s H vs Q E hr h=>?_;obtain⟨b,l,body,o,row,H0,rfl,s0,rb,ro,hd,hf,lo,fo,dpo,q⟩:=h;have nd:=yv.nd;have line:zdq=2 ^ 24:=rfl;obtain⟨_,xs,e,hx,rs⟩:=Rep.bD.mp rb;cases e;obtain⟨_,os,e,Sd,rso⟩:=Rep.bD.mp ro;cases e;have lx:xs.length=body.length:=by rw[rs.length,zab]
 have los:os.length=o.length:=by rw[rso.length,zab]
 have lb:=eR body;refine⟨_,[some (.ref b),some (.int row),some (.ref l),none,none],(ag (fw 3 nd (aR ae))
 (ag (gR yag rfl (bt (pv 0)) (oK 4 nd)
 (ak (aW (az bB (iT 4) (pv 1) (aH _))
 (ak (dX (j7 zaA zbG zbH ql (pv 3) (aa (lM (bt (pv 2)) (fun _ _ _ _=>(cz jA T.fe hr (a8 0 ae)))) ae fK))))
 (ak (dX (j7 zaA zaN zaO fG (pv 3) (aa (cz qg T.jl hr (a8 4 (aa (jN (own:=["inner"]) (ix:=[1,2]) rfl (by rfl) (by rfl) (bt (cz iS T.iN hr (a8 4 ae))) (fun _ _ _ _=>(oK 0 (by show List.Nodup (["inner", "row", "others"]:List Str);decide +kernel))) (fun _ _ _ _=>ei) (fun _ _ _ _=>(cz uY T.lO hr (a8 0 (a8 1 (a8 2 ae)))))) ae fK))) ae bw)))))))
 (ak (aB (pv 3))))),rfl,?_⟩
 refine ai fun U1 cM=>?_;walk_at "";intro L hL;refine(cM _ _).mpr (ai fun U2 fh=>?_);clear cM;generalize nG:upd H L (.lst [])=H1 at *;obtain⟨s1,y1⟩:=bX nG hL;refine jg fun U hU=>?_;walk_at "";refine⟨⟨_,s1.seq (s0.seq hx)⟩,hU _ _ ?_⟩;clear hU;obtain⟨Pv,nH⟩:∃Pv:Nat->St->Hp->Prop,∀i Y Hx,Pv i Y Hx↔∃(z4:Option V) (ys:List V) (Gs:List (List zdi)),Y=[some (.ref b),some (.int row),some (.ref l),some (.ref L),z4]/\ao H Hx/\Hx L=some (.lst ys)/\ys.length<=i/\bP (G0 K Hx n) (dS row o (body.take i)) ys Gs/\Gs.flatten.Nodup/\∀f∈Gs.flatten,H f=none/\f≠L:=⟨_,fun _ _ _=>Iff.rfl⟩
 refine jd (K:=K) (a:=b) (xs:=xs) Pv ((nH _ _ _).mpr ⟨none,[],[],rfl,s1,y1,zah _,by simp[dS,bP],zbf,by simp⟩) ?_ ?_ ?_
 .intro i Y Hx hi hv;obtain⟨_,_,_,_,sx,_⟩:=(nH _ _ _).mp hv;exact sx.seq (s0.seq hx)
 .intro i x Y Hx Vf hv;obtain⟨z4,ys,Gs,rfl,sx,yx,ly,al,Rv,new⟩:=(nH _ _ _).mp hv;clear hv;have li:i<body.length:=by have:=(zaj.mp Vf).1;lia
  obtain⟨v',qK,rv⟩:=rs.get (i:=i) (d:=b3 body[i]) (by rw[zaf,zac li];rfl);rw[Vf] at qK;cases qK;obtain⟨fm,dm⟩:=qp body _ (zam li);have tk:dS row o (body.take (i+1))=dS row o (body.take i)++(if body[i].row=row then o else [fY row o body[i]]):=by
   rw[zaL li,Ea,Nz]
  have aab:∀s∈bA body[i],s.row=row->∀x∈o,gV x<=gV s:=fun s hs=>dpo s (Mm (zam li) hs);have hme:body[i]∈bA body[i]:=by obtain⟨r,e⟩:=DZ body[i];rw[e];simp
  generalize body[i]=st at *;have NN:=s0.trans sx;have add:∀(H3:Hp) (us:List V) (ss:List aT) (Fs:List (List zdi)),ao Hx H3->us.length<=1->bP (G0 K H3 n) ss us Fs->Fs.flatten.Nodup->(∀f∈Fs.flatten,Hx f=none)->ss=(if st.row=row then o else [fY row o st])->Pv (i+1) [some (.ref b),some (.int row),some (.ref l),some (.ref L),some x] (upd H3 L (.lst (ys++us))):=by
   intro H3 us ss Fs s3 lu Ku nd2 Ai ess;have tb:qr K Hx (n+1) (dS row o (body.take i)) L (L::Gs.flatten):=jR.mpr ⟨ys,Gs,yx,al,rfl⟩;refine(nH _ _ _).mpr ⟨_,ys++us,Gs++Fs,rfl,((a9.of (sx.trans s3)).put _).same hL,ah,by rw[zae];lia,?_,?_,?_⟩
   .rw[tk,<- ess];have u2:aN (·=L) Hx (upd H3 L (.lst (ys++us))):=(aN.of s3).trans (aN.refl.put (O:=(·=L)) rfl _);have u3:aN (·=L) H3 (upd H3 L (.lst (ys++us))):=aN.refl.put (O:=(·=L)) rfl _;refine bP.app (al.imp fun bd b' G' _ ES ht=>G0.i9 (O:=(·=L)) (fun g z=>⟨_,z▸yx⟩) u2 (fun f hf z=>(new f (za3.mpr ⟨_,ES,hf⟩)).2 z) ht) (Ku.imp fun bd b' G' _ ES ht=>G0.i9 (O:=(·=L)) (fun g z=>⟨_,z▸s3 _ _ yx⟩) u3 (fun f hf z=>?_) ht);have:=Ai f (za3.mpr ⟨_,ES,hf⟩);rw[z,yx] at this;cases this
   .rw[zaW];refine zbd.mpr ⟨Rv,nd2,fun f hf g hg z=>?_⟩;subst z;have no:=Ai f hg;obtain⟨_,e⟩:=qr.lists _ _ _ _ tb f (zao _ hf);rw[no] at e;cases e
   .intro f hf;rw[zaW] at hf;rcases zak.mp hf with hf |hf
    .exact new f hf
    .have no:=Ai f hf;exact⟨sx.free no,fun z=>by rw[z,yx] at no;cases no⟩
  refine mK fun UB Rr=>?_;rw[ER] at rv;have rv2:=rv;obtain⟨a,xs2,rfl,Zz,rs2⟩:=Rep.aJ.mp rv;obtain⟨hs,ws,rfl,r1,r2⟩:=xn rs2;have lh:=r1.length;obtain⟨h1,h2,_⟩:=LO st;have lw:=r2.length;rw[zab] at lw;rw[<- ER] at rv2;have e1:(hs++ws)[1]?=some (.int st.row):=by
   have hr1:∃d0 ds,LN st=d0 :: .int st.row::ds:=by cases st<;>exact⟨_,_,rfl⟩
   obtain⟨d0,ds,ed⟩:=hr1;rw[ed] at r1;simp only[aC.av,Rep.bu] at r1;obtain⟨_,_,rfl,_,_,_,rfl,rfl,_⟩:=r1;rfl
  walk_at "";refine aq (NN.aS Zz) (v:=.int st.row) (aF e1) ⟨rfl,dR (fun e=>(Rr _ _).mpr ?_) (fun e=>?_)⟩
  .clear Rr;have e:st.row=row:=by injection e
   rw[ybr e] at add;simp only[cJ];walk_at "";refine⟨.inl ⟨rfl,_,.of yx⟩,l,rfl,⟨_,NN.seq Sd⟩,fun D hD=>?_⟩;have nLD:L≠D:=aj yx hD;refine dP (K:=K) (r:=[]) (fun i So H2=>∃Gs:List (List zdi),bP (G0 K H2 n) (o.take i) So Gs/\Gs.flatten.Nodup/\∀f∈Gs.flatten,Hx f=none/\f≠D) (NN.seq Sd) (by lia) hD ⟨[],trivial,zbf,by simp⟩ ?_ ?_
   .rintro i2 x2 So H2 aad s2 oh ly2 ⟨Sq,Ku,Kv,Ai⟩ R hR
    have Ry:i2<o.length:=by have:=(zaj.mp aad).1;lia
    obtain⟨v',qK,rv'⟩:=rso.get (i:=i2) (d:=b3 o[i2]) (by rw[zaf,zac Ry];rfl);rw[aad] at qK;cases qK;have dx:=aab st hme e _ (zam Ry);have fx:=fo _ (zam Ry);walk_at "";refine⟨x2,o[i2],H0,rfl,NN.trans s2,rv',by lia,fx,fun u F H3 s3 tr NM qI=>hR _ H3 s3 ⟨Sq++[F],?_,?_,?_⟩⟩
    .rw[zaL Ry];have u2:aN (·=D) H2 (upd H3 D (.lst (So++[u]))):=(aN.of s3).trans (aN.refl.put (O:=(·=D)) rfl _);have u3:aN (·=D) H3 (upd H3 D (.lst (So++[u]))):=aN.refl.put (O:=(·=D)) rfl _;refine(Ku.imp fun bd b' G' _ ES ht=>G0.i9 (O:=(·=D)) (fun g z=>⟨_,z▸oh⟩) u2 (fun f hf z=>(Ai f (za3.mpr ⟨_,ES,hf⟩)).2 z) ht).snoc ?_;exact G0.i9 (O:=(·=D)) (fun g z=>⟨_,z▸s3 _ _ oh⟩) u3 (fun f hf z=>by have:=qI f hf;rw[z,oh] at this;cases this) tr
    .rw[zaW,zaX,zbl,zax];refine zbd.mpr ⟨Kv,NM,fun f hf g hg z=>?_⟩;subst z;have no:=qI f hg;obtain⟨_,e⟩:=qr.lists _ _ _ _ (jR.mpr ⟨So,Sq,oh,Ku,rfl⟩:qr K H2 (n+1) (o.take i2) D (D::Sq.flatten)) f (zao _ hf);rw[no] at e;cases e
    .intro f hf;rw[zaW,zaX,zbl,zax] at hf;rcases zak.mp hf with hf |hf
     .exact Ai f hf
     .have no:=qI f hf;exact⟨ik s2 no,fun z=>by rw[z,oh] at no;cases no⟩
   .rintro So H2 s2 oh ⟨Sq,Ku,Kv,Ai⟩
    rw[los,zaH] at Ku;have l2:=Ku.length.1;exact⟨L,D,ys,So,rfl,rfl,s2 _ _ yx,oh,by lia,add H2 So o Sq s2 (by lia) Ku Kv (fun f hf=>(Ai f hf).1) rfl⟩
  .have e:st.row≠row:=fun z=>e (by rw[z]);rw[ybq e] at add;refine⟨.inl ⟨rfl,_,.of yx⟩,?_⟩;simp only[cJ];walk_at "";refine⟨.ref a,st,H0,rfl,rv2,NN,fun l2 bv H1 s1 hl y1 rc=>⟨l2,rfl,⟨_,.of y1⟩,fun D hD=>?_⟩⟩;have W9:bv.length=(ay st).length:=by rw[rc.length,zab]
   have om:(ay st).length<=2:=by cases st<;>simp[ay]
   have hDH:Hx D=none:=ik s1 hD;show jf (AZ K l2) D (cF 0) me _ _ [none,some (.int row),some (.ref l)] _;refine dP (K:=K) (r:=[some (.int row),some (.ref l)]) (fun i ys H2=>∃(bs:List zdi) (Gs:List (List zdi)),ys=bs.map V.ref/\bP (qr K H2 n) (((ay st).take i).map (dS row o)) bs Gs/\Gs.flatten.Nodup/\∀f∈Gs.flatten,Hx f=none/\f≠D) (.of y1) (by lia) hD ⟨[],[],rfl,trivial,zbf,by simp⟩ ?_ ?_
   .rintro i2 x2 So H2 aae s2 oh ly2 ⟨bs,Sq,rfl,Ku,Kv,Ai⟩ R hR
    have Ry:i2<(ay st).length:=by have:=(zaj.mp aae).1;lia
    obtain⟨v',qK,rb'⟩:=rc.get (i:=i2) (d:=.lst ((ay st)[i2].map b3)) (by rw[zaf,zac Ry];rfl);rw[aae] at qK;cases qK;have mi:(ay st)[i2]∈ay st:=zam Ry;obtain⟨fb,db⟩:=jQ st _ mi;obtain⟨ab,_,rfl,_⟩:=Rep.bD.mp rb';walk_at "";refine⟨ab,l,(ay st)[i2],o,row,H0,rfl,(NN.trans s1).trans s2,rb',ro,by lia,by lia,lo,fo,fun s hs=>aab s (TK mi s hs),fun l3 F H3 s3 tr NM qI=>hR _ H3 s3 ⟨bs++[l3],Sq++[F],by simp,?_,?_,?_⟩⟩
    .rw[zaL Ry,zas];have u2:aN (·=D) H2 (upd H3 D (.lst (bs.map V.ref++[V.ref l3]))):=(aN.of s3).trans (aN.refl.put (O:=(·=D)) rfl _);have u3:aN (·=D) H3 (upd H3 D (.lst (bs.map V.ref++[V.ref l3]))):=aN.refl.put (O:=(·=D)) rfl _;refine(Ku.imp fun bd b' G' _ ES ht=>qr.i9 (O:=(·=D)) (fun g z=>⟨_,z▸oh⟩) u2 n bd b' G' (fun f hf z=>(Ai f (za3.mpr ⟨_,ES,hf⟩)).2 z) ht).snoc ?_;exact qr.i9 (O:=(·=D)) (fun g z=>⟨_,z▸s3 _ _ oh⟩) u3 n _ _ _ (fun f hf z=>by have:=qI f hf;rw[z,oh] at this;cases this) tr
    .rw[zaW,zaX,zbl,zax];refine zbd.mpr ⟨Kv,NM,fun f hf g hg z=>?_⟩;subst z;have no:=qI f hg;obtain⟨G',ES,hf'⟩:=za3.mp hf;have key:∀{as:List (List aT)} {bs:List zdi} {cs:List (List zdi)},bP (qr K H2 n) as bs cs->G'∈cs->∃ys,H2 f=some (.lst ys):=by
      intro as
      induction as with
      |nil=>intro bs cs h m;obtain⟨rfl,rfl⟩:=bP.aO.mp h;cases m
      |cons x as ih=>
       intro bs cs h m;obtain⟨b',N8,c,N9,rfl,rfl,h1,h2⟩:=bP.av.mp h;rcases zan.mp m with rfl |m
       .exact qr.lists n _ _ _ h1 f hf'
       .exact ih h2 m
     obtain⟨_,e⟩:=key Ku ES;rw[e] at no;cases no
    .intro f hf;rw[zaW,zaX,zbl,zax] at hf;rcases zak.mp hf with hf |hf
     .exact Ai f hf
     .have no:=qI f hf;exact⟨ik (s1.trans s2) no,fun z=>by rw[z,oh] at no;cases no⟩
   .rintro So H2 s2 oh ⟨bs,Sq,rfl,Ku,Kv,Ai⟩
    rw[W9,zaH] at Ku;have lbs:=(Ku.length).1;rw[zab] at lbs;have xG:=(NN.trans s1).trans s2;refine⟨a,D,hs,ws,bs.map V.ref,rfl,xG.aS Zz,fun z=>by rw[z] at lh;simp at lh;lia,by lia,by rw[zab];lia,by rw[zab];lia,oh,fun p H3 s3 ME=>?_⟩;have Vg:=(s1.trans s2).trans s3;refine⟨L,ys,_,rfl,rfl,Vg _ _ yx,by lia,add H3 [.ref p] [fY row o st] [Sq.flatten] Vg (zah _) (bP.av.mpr ⟨_,_,_,_,rfl,rfl,?_,bP.aO.mpr ⟨rfl,rfl⟩⟩) (by simpa using Kv) (fun f hf=>(Ai f (by simpa using hf)).1) rfl⟩;refine⟨p,hs,bs,Sq,rfl,ME,?_,?_,rfl⟩
    .rw[ZJ];exact r1.mono (xG.trans s3)
    .rw[Kh];exact Ku.imp fun bd b' G' _ _ ht=>qr.i9 (O:=fun _=>False) (fun g z=>z.elim) (.of s3) n bd b' G' (fun f _ z=>z) ht
 .intro Y Hx hv;obtain⟨z4,ys,Gs,rfl,sx,yx,ly,al,Rv,new⟩:=(nH _ _ _).mp hv;rw[lx,zaH] at al;refine(fh _ _).mpr ?_;walk_at "";exact q L (L::Gs.flatten) Hx sx (jR.mpr ⟨ys,Gs,yx,al,rfl⟩) (zbr.mpr ⟨fun z=>(new L z).2 rfl,Rv⟩) fun f hf=>(zan.mp hf).elim (fun z=>z▸hL) fun z=>(new f z).1
theorem Em(T:Tx K mg t):∀n,bq P w K mg base dF (2*n+3) t.jE t.iZ ["body", "row", "others"] (yh K n)
 |0=>by
  have no:∀vs H Q E,¬yh K 0 vs H Q E:=fun vs H Q E h=>by cases h;lia
  exact⟨fun vs H Q E h=>ybw h (no vs H Q E),fun A outer s H args us vs Q E _ _ _ _ h=>ybw h (no vs H Q E)⟩
 |n+1=>Rx T (Em T n)
theorem Rz(T:Tx K mg t)(cv:bq P w K mg base dF (n+2) t.cu t.bV ["body"] (oQ K n)) :
 bq P w K mg base dF (n+3) t.cu t.bV ["body"] (oQ K (n+1)):=by
 have iS:bq P w K mg base dF 1 t.gO t.fR ["statement"] (qo K):=nI T;refine T.fJ.F.okN qF fun _ _ _ _ H vs Q E hr h=>?_;obtain⟨b,body,H0,rfl,s0,rb,hd,hf,q⟩:=h;have nd:=qF.nd;refine⟨_,[some (V.ref b),none,none,none],(ag (fw 1 nd (aR ae))
 (ag (gR yag rfl (bt (pv 0)) (oK 2 nd)
 (ag (dX (j7 zaA zaN zaO fG (pv 1) (a8 2 ae)))
 (ak (gR yag rfl (bt (cz iS T.iN hr (a8 2 ae))) (oK 3 nd)
 (ak (dX (j7 zaA zbG zbH ql (pv 1) (aa (cz cv T.fJ hr (a8 3 ae)) ae bw))))))))
 (ak (aB (pv 1))))),rfl,?_⟩
 have line:zdq=2 ^ 24:=rfl;rw[Rep.bD] at rb;obtain⟨_,xs,e,hx,rs⟩:=rb;cases e;have lx:xs.length=body.length:=by rw[rs.length,zab]
 have lb:=eR body;have sl:=gD body;refine ai fun U1 cM=>?_;walk_at "";intro d hd0;generalize nG:upd H d (.lst [])=H1 at *;obtain⟨s1,y1⟩:=bX nG hd0;refine(cM _ _).mpr (ai fun U2 fh=>?_);clear cM;refine jg fun U hU=>?_;walk_at "";refine⟨⟨xs,(s0.trans s1).seq hx⟩,hU _ _ ?_⟩;clear hU;obtain⟨Pv,nH,iF⟩:=Je fun (i:Nat) (G:St) (H3:Hp) zq=>∀(z2 z3:Option V) (us:List V),G=[some (V.ref b),some (V.ref d),z2,z3]->ao H H3->us.length=(au (body.take i)).length->H3 d=some (.lst us)->aC K H0 ((au (body.take i)).map b3) us->zq;refine jd (K:=K) (a:=b) (xs:=xs) Pv ((nH _ _ _ fun _ zk=>zk none none [] rfl s1 rfl y1 .nil)) (fun i G H3 _ hv=>?_) ?_ ?_
 .refine iF _ _ _ hv _ fun _ _ _ _ s3 _ _ _=>?_;exact(s0.trans s3).seq hx
 .intro i y G H3 hi hv;refine iF _ _ _ hv _ fun z2 z3 us ze1 s3 lu y3 r3=>?_;subst ze1;clear hv;have done:=fun G H7=>nH (i+1) G H7;have li:i<body.length:=by have:=(zaj.mp hi).1;lia
  obtain⟨v,hv,rv⟩:=rs.get (i:=i) (d:=b3 body[i]) (by rw[zaf,zac li];rfl);rw[hi] at hv;cases hv;have mem:body[i]∈body:=zam li;obtain⟨fm,dm⟩:=qp body _ mem;have et:au (body.take (i+1))=au (body.take i)++body[i]::(ay body[i]).flatMap au:=by
   rw[zaL li,L2.n9,PC,To]
  rw[et] at done;have eb:au body=(au (body.take i)++body[i]::(ay body[i]).flatMap au)++au (body.drop (i+1)):=by
   rw[<- et,<- L2.n9,zc5]
  rw[eb] at sl;have sl:(au (body.take i)++body[i]::(ay body[i]).flatMap au).length<=1000:=by
   rw[zae] at sl;lia
  generalize body[i]=st at *;generalize au (body.take i)=pre at *;simp only[cF,zba];refine ai fun U3 gJ=>?_;walk_at "";refine⟨.inl ⟨rfl,_,.of y3⟩,d,us,y,rfl,rfl,y3,by simp only[zae,zal] at sl;lia,(gJ _ _).mpr ?_⟩;clear gJ;have y4:(upd H3 d (.lst (us++[y]))) d=some (.lst (us++[y])):=ah;have s4:ao H (upd H3 d (.lst (us++[y]))):=fun z o e=>by rw[aI (aj e hd0)];exact s3 z o e
  generalize upd H3 d (.lst (us++[y]))=H4 at *;refine jg fun U hU=>?_;walk_at "";refine⟨y,st,H0,rfl,rv,s0.trans s4,fun p bv H5 Yd hp h5 rc=>⟨p,rfl,⟨_,.of h5⟩,hU _ _ ?_⟩⟩;clear hU;have s5:=s4.trans Yd;have y5:=Yd _ _ y4;have npd:p≠d:=(aj y4 hp).symm;have W9:bv.length=(ay st).length:=by rw[rc.length,zab]
  obtain⟨Pw,Io,Kw⟩:=Je fun (j:Nat) (G:St) (H6:Hp) zq=>∀(z3:Option V) (BZ:List V),G=[some (V.ref b),some (V.ref d),some y,z3]->ao H H6->H6 p=some (.lst bv)->BZ.length=(pre++st::((ay st).take j).flatMap au).length->H6 d=some (.lst BZ)->aC K H0 ((pre++st::((ay st).take j).flatMap au).map b3) BZ->zq;refine jd (K:=K) (a:=p) (xs:=bv) Pw ((Io _ _ _ fun _ zk=>zk z3 (us++[y]) rfl s5 h5 (by simp[lu]) y5 ?_)) (fun j G H6 _ hv=>?_) ?_ ?_
  .rw[zc6,List.flatMap_nil,zas];exact r3.append (.cons rv .nil)
  .refine Kw _ _ _ hv _ fun _ _ _ _ h6 _ _ _=>?_;exact .of h6
  .intro j y' G H6 hj hv;refine Kw _ _ _ hv _ fun z3' BZ ze1 s6 h6 lu6 y6 r6=>?_;subst ze1;clear hv;have Vh:=fun G H7=>Io (j+1) G H7;have lj:j<(ay st).length:=by have:=(zaj.mp hj).1;lia
   obtain⟨v,hv,rbj⟩:=rc.get (i:=j) (d:=.lst ((ay st)[j].map b3)) (by rw[zaf,zac lj];rfl);rw[hj] at hv;cases hv;have mj:(ay st)[j]∈ay st:=zam lj;obtain⟨fb,db⟩:=jQ st _ mj;have ej:((ay st).take (j+1)).flatMap au=((ay st).take j).flatMap au++au (ay st)[j]:=by
    rw[zaL lj,zbq];simp
   have ea:(ay st).flatMap au=((ay st).take j).flatMap au++au (ay st)[j]++((ay st).drop (j+1)).flatMap au:=by
    rw[<- ej,<- zbq,zc5]
   rw[ej] at Vh;rw[ea] at sl;generalize (ay st)[j]=bb at *;generalize ((ay st).take j).flatMap au=mid at *;generalize ((ay st).drop (j+1)).flatMap au=rest at *;have YX:(pre++st::mid).length+(au bb).length<=1000:=by
    simp only[zae,zal] at sl |-;lia
   obtain⟨ab,_,rfl,_⟩:=Rep.bD.mp rbj;simp only[cF,zba];walk_at "";refine⟨.inl ⟨rfl,_,.of y6⟩,ab,bb,H0,rfl,s0.trans s6,rbj,by lia,by lia,fun d2 LU H7 s7 hd2 y7 r7=>?_⟩;have l2:LU.length=(au bb).length:=by rw[r7.length,zab]
   refine⟨d,d2,_,_,rfl,rfl,s7 _ _ y6,y7,by lia,?_⟩;refine Vh _ _ (fun _ zk=>zk _ (BZ++LU) rfl (fun z o e=>by rw[aI (aj e hd0)];exact s7 _ _ (s6 z o e)) (by rw[aI npd];exact s7 _ _ h6) (by simp only[zae,zal] at *;lia) ah ?_);rw[show pre++st::(mid++au bb)=(pre++st::mid)++au bb by simp,zas];exact r6.append r7
  .intro G H6 hv;refine Kw _ _ _ hv _ fun z3' BZ ze2 s6 h6 lu6 y6 r6=>?_;subst ze2;rw[W9,zaH] at lu6 r6;exact done _ _ (fun _ zk=>zk _ _ BZ rfl s6 lu6 y6 r6)
 .intro G H3 hv;refine iF _ _ _ hv _ fun z2 z3 us ze2 s3 lu y3 r3=>?_;subst ze2;rw[lx,zaH] at lu r3;refine(fh _ _).mpr ?_;walk_at "";exact q d us H3 s3 hd0 y3 r3
theorem Aj(T:Tx K mg t):∀n,bq P w K mg base dF (n+2) t.cu t.bV ["body"] (oQ K n)
 |0=>by
  have no:∀vs H Q E,¬oQ K 0 vs H Q E:=fun vs H Q E h=>by cases h;lia
  exact⟨fun vs H Q E h=>ybw h (no vs H Q E),fun A outer s H args us vs Q E _ _ _ _ h=>ybw h (no vs H Q E)⟩
 |n+1=>Rz T (Aj T n)
theorem Kx(T:Tx K mg t)(C:Cd P w K t):bq P w K mg base dF 13 t.vG t.rR ["program"] (NA K):=by
 have cv:=Aj (P:=P) (w:=w) (base:=base) T 4;have Fv:=CM (base:=base) T C;have uY:=Em (P:=P) (w:=w) (base:=base) T 4;refine T.vJ.F.okN B4 fun _ _ _ s H vs Q E hr h=>?_;obtain⟨v,pr,rfl,rp,pc,q⟩:=h;have nd:=B4.nd;have line:zdq=2 ^ 24:=rfl;obtain⟨pp,ppx,rfl,Gk,rpp⟩:=Rep.aJ.mp rp;simp only[aC.av,aC.aO] at rpp;obtain⟨vB,_,rfl,rB,vb,_,rfl,rb,rfl⟩:=rpp;obtain⟨B,HG,rfl,hB,rbx⟩:=Rep.bD.mp rB;obtain⟨b,bvs,rfl,hb,rbv⟩:=Rep.bD.mp rb;have akA:=pc.dep;have lbx:HG.length=pr.ar.length:=by rw[rbx.length,zab]
 have akB:=pc.bx;have om:=pc.om;have lst:(au pr.body).length=(gM pr.body).length:=by rw[<- ij,zab]
 refine⟨_,[some (.ref pp),none,none,none],(ag (fw 1 nd (aR ae))
 (ag (gR yag rfl (bt (cz cv T.fJ hr (aa (iT 0) ae aA))) (oK 2 nd)
 (ak (gR yag rfl (bt (cz Fv T.m9 hr (a8 2 ae))) (oK 3 nd)
 (ak (dX (j7 zaA zaN zaO fG (pv 1) (aa (aK (aa (bH mH rfl T.uU ybE (aa (iT 0) ae aA)) (aa (cz uY T.lO hr (aa (iT 0) (aa (iT 2) (a8 3 ae) aA) aA)) ae bw) bw)) ae dO)))))))
 (ak (aB (pv 1))))),rfl,?_⟩
 refine ai fun U1 cM=>?_;walk_at "";intro L hL;refine(cM _ _).mpr (ai fun U2 fh=>?_);clear cM;generalize nG:upd H L (.lst [])=H1 at *;obtain⟨s1,y1⟩:=bX nG hL;refine jg fun U hU=>?_;walk_at "";refine aq (s1.aS Gk) (v:=.ref b) jV ?_;refine⟨b,pr.body,H,rfl,s1,rb,by lia,om,fun l us H2 s2 hl yl rs=>⟨l,rfl,⟨_,.of yl⟩,hU _ _ ?_⟩⟩;clear hU;have qJ:us.length=(au pr.body).length:=by rw[rs.length,zab]
 have nlL:l≠L:=(aj y1 hl).symm;have y2:=s2 _ _ y1;have xG:=s1.trans s2;obtain⟨cs,S0⟩:∃cs:aT->List PG.Prog,cs=fun s=>(fE s).map fun o=>⟨pr.ar,dS s.row o pr.body⟩:=⟨_,rfl⟩
 have T6:Ki pr=(au pr.body).flatMap cs:=by rw[S0];rfl
 rw[T6] at q;clear T6;obtain⟨Iv,Gm⟩:∃Iv:List PG.Prog->Nat->Hp->Prop,∀ps n Hx,Iv ps n Hx↔∃(ys:List V) (Fs:List (List zdi)),ao H Hx/\aN (·=L) H2 Hx/\Hx L=some (.lst ys)/\ys.length<=n/\bP (QN K Hx) ps ys Fs/\Fs.flatten.Nodup/\∀f∈Fs.flatten,H f=none/\f≠L:=⟨_,fun _ _ _=>Iff.rfl⟩
 obtain⟨Pv,nH⟩:∃Pv:Nat->St->Hp->Prop,∀i G Hx,Pv i G Hx↔∃(z2 z3:Option V),G=[some (.ref pp),some (.ref L),z2,z3]/\Iv (((au pr.body).take i).flatMap cs) (1003*i) Hx:=⟨_,fun _ _ _=>Iff.rfl⟩
 refine jd (K:=K) (a:=l) (xs:=us) Pv ((nH _ _ _).mpr ⟨none,none,rfl,(Gm _ _ _).mpr ⟨[],[],xG,.refl,y2,zah _,by simp[bP],zbf,by simp⟩⟩) ?_ ?_ ?_
 .intro i G Hx hi hv;obtain⟨_,_,_,Ye⟩:=(nH _ _ _).mp hv;obtain⟨_,_,_,ux,_⟩:=(Gm _ _ _).mp Ye;exact .of (ux _ _ nlL yl)
 .intro i x G Hx Vf hv;obtain⟨z2,z3,rfl,Ye⟩:=(nH _ _ _).mp hv;have li:i<(au pr.body).length:=by have:=(zaj.mp Vf).1;lia
  obtain⟨v',qK,rv⟩:=rs.get (i:=i) (d:=b3 (au pr.body)[i]) (by rw[zaf,zac li];rfl);rw[Vf] at qK;cases qK;have mst:=zam li;have tk:((au pr.body).take (i+1)).flatMap cs=((au pr.body).take i).flatMap cs++cs (au pr.body)[i]:=by
   rw[zaL li,zbq];simp
  generalize (au pr.body)[i]=st at *;have sc:=pc.st st mst;have fst:=ui _ _ mst;have dst:∀o∈fE st,∀s∈au pr.body,s.row=st.row->∀x∈o,gV x<=gV s:=fun o ho s hs e y hy=>by
   rw[QQ pc.pw hs mst e];have:=(BN o ho).2 y hy;lia
  have lof:(fE st).length<=1003:=by
   have h1:=Il sc;have h2:=HH st;unfold fE;rw[zae,zab];lia
  generalize ((au pr.body).take i).flatMap cs=ps0 at *;obtain⟨ys0,Fs0,sx,ux,yx,ly0,al0,nd0,aea⟩:=(Gm _ _ _).mp Ye;refine jg fun U hU=>?_;walk_at "";refine⟨x,st,H,(·=L),rfl,sx,rv,sc,fun g hg=>by rw[hg];exact⟨hL,_,yx⟩,fun L2 LU H3 s3 hL2 yL2 fs2=>⟨L2,rfl,⟨_,.of yL2⟩,hU _ _ ?_⟩⟩;clear hU;have nL2:L2≠L:=(aj yx hL2).symm;have aaf:LU.length=(fE st).length:=by rw[fs2.CH.length,zab]
  obtain⟨a,w0,zs,rfl,hS⟩:=QR rv;obtain⟨Pw,Io⟩:∃Pw:Nat->St->Hp->Prop,∀k G Hy,Pw k G Hy↔∃(z3:Option V),G=[some (.ref pp),some (.ref L),some (.ref a),z3]/\aN (·=L) H3 Hy/\Iv (ps0++(cs st).take k) (1003*i+k) Hy:=⟨_,fun _ _ _=>Iff.rfl⟩
  refine jd (K:=K) (a:=L2) (xs:=LU) Pw ((Io _ _ _).mpr ⟨_,rfl,.refl,(Gm _ _ _).mpr ⟨ys0,Fs0,sx.trans s3,ux.trans (.of s3),s3 _ _ yx,ly0,by rw[zc6,zax];exact al0.imp fun p' v' F' _ _ h=>h.i9 (O:=fun _=>False) (fun g z=>z.elim) (.of s3) (fun f _ z=>z),nd0,aea⟩⟩) ?_ ?_ ?_
  .intro k G Hy hk hw;obtain⟨_,_,uy,_⟩:=(Io _ _ _).mp hw;exact .of (uy _ _ nL2 yL2)
  .intro k y G Hy hy hw;obtain⟨z3',rfl,uy,Ji⟩:=(Io _ _ _).mp hw;obtain⟨ys,Fs,sy,u2y,yy,ly,al,NM,new⟩:=(Gm _ _ _).mp Ji;clear hw Ji hv Ye;have lk:k<(fE st).length:=by have:=(zaj.mp hy).1;lia
   have mo:=zam lk;obtain⟨lo1,dpo⟩:=BN _ mo;have csk:(cs st).take (k+1)=(cs st).take k++[⟨pr.ar,dS st.row (fE st)[k] pr.body⟩]:=by
    have lk2:k<(cs st).length:=by rw[S0];simpa using lk
    rw[zaL lk2]
    congr 2
    subst S0;simp
   have aed:=dst _ mo;have uL:aN (·=L) H3 (less Hy L):=fun b o n e=>Mn n (uy b o n e);obtain⟨v',qK,ro⟩:=(fs2 _ uL).get (i:=k) (d:=.lst ((fE st)[k].map b3)) (by rw[zaf,zac lk];rfl);rw[hy] at qK;cases qK;generalize (fE st)[k]=o at *;obtain⟨lo,_,rfl,_⟩:=Rep.bD.mp ro;have sHL:ao H (less Hy L):=fun b o e=>Mn (aj e hL) (sy _ _ e);have aag:=sy.aS Gk;walk_at "";refine⟨.inl ⟨rfl,_,.of yy⟩,aq aag (v:=.ref B) fP ⟨B,HG,rfl,.inl (sy.seq hB),fun LB hLB=>?_⟩⟩;generalize Ae:upd Hy LB (.lst HG)=H4 at *;obtain⟨s4,yLB⟩:=bX Ae hLB;have nLB:LB≠L:=(aj yy hLB).symm;have fLB:H LB=none:=sy.free hLB;refine aq (s4.aS aag) (v:=.ref b) jV ?_;refine aq (s4.aS (sy.aS hS)) (v:=.int st.row) jV ?_;refine⟨b,lo,pr.body,o,st.row,less Hy L,rfl,NB.trans s4,rb.mono sHL,ro,by lia,om,lo1,fun z hz=>by have:=(dpo z hz).2;lia,aed,fun l' F H5 s5 tr aee qI p hp=>?_⟩;have s45:=s4.trans s5;generalize NJ:upd H5 p (.tup [V.ref LB,V.ref l'])=H6 at *;obtain⟨s6,yN3⟩:=bX NJ hp;have yp:bG K H6 p [V.ref LB,V.ref l']:=.of yN3;have NK:=s45.trans s6;have yL6:=NK _ _ yy;refine⟨L,ys,_,rfl,rfl,yL6,by lia,(Io _ _ _).mpr ⟨_,rfl,?_,(Gm _ _ _).mpr ⟨ys++[.ref p],Fs++[LB::F],((a9.of (sy.trans NK)).put _).same hL,?_,ah,by rw[zae,za6];lia,?_,?_,?_⟩⟩⟩
   .exact(uy.trans (.of NK)).trans (aN.put (O:=(·=L)) aN.refl rfl _)
   .exact(u2y.trans (.of NK)).trans (aN.put (O:=(·=L)) aN.refl rfl _)
   .rw[csk,<- zau];have u2:aN (·=L) Hy (upd H6 L (.lst (ys++[V.ref p]))):=(aN.of NK).trans (aN.put (O:=(·=L)) aN.refl rfl _);have u3:aN (·=L) H6 (upd H6 L (.lst (ys++[V.ref p]))):=aN.put (O:=(·=L)) aN.refl rfl _;refine(al.imp fun p' v' F' _ mF h=>h.i9 (O:=(·=L)) (fun g z=>⟨_,z▸yy⟩) u2 (fun f hf z=>(new f (za3.mpr ⟨_,mF,hf⟩)).2 z)).snoc ?_;refine QN.i9 (O:=(·=L)) (fun g z=>⟨_,z▸yL6⟩) u3 (fun f hf z=>?_) ⟨p,LB,l',HG,F,rfl,yp,s6 _ _ (s5 _ _ yLB),rbx.mono (sy.trans NK),qr.i9 (O:=fun _=>False) (fun g z=>z.elim) (.of s6) 4 _ _ _ (fun f _ z=>z) tr,rfl⟩;rcases zan.mp hf with hf |hf
    .exact nLB (hf.symm.trans z)
    .have:=qI f hf;rw[z,s4 _ _ yy] at this;cases this
   .rw[zaW,zaX,zbl,zax];refine zbd.mpr ⟨NM,zbr.mpr ⟨fun z=>?_,aee⟩,fun f hf g hg z=>?_⟩
    .have:=qI LB z;rw[yLB] at this;cases this
    .subst z;obtain⟨_,e⟩:=Eb al f hf;rcases zan.mp hg with hg |hg
     .rw[hg,hLB] at e;cases e
     .have:=qI f hg;rw[s4 _ _ e] at this;cases this
   .intro f hf;rw[zaW,zaX,zbl,zax] at hf;rcases zak.mp hf with hf |hf
    .exact new f hf
    .rcases zan.mp hf with hf |hf
     .rw[hf];exact⟨fLB,nLB⟩
     .have no:=qI f hf;exact⟨(sy.trans s4).free no,fun z=>by rw[z,s4 _ _ yy] at no;cases no⟩
  .intro G Hy hw;obtain⟨z3',rfl,uy,Ji⟩:=(Io _ _ _).mp hw;refine(nH _ _ _).mpr ⟨_,_,rfl,?_⟩;rw[tk];obtain⟨ys,Fs,sy,u2y,yy,ly,al,NM,new⟩:=(Gm _ _ _).mp Ji;refine(Gm _ _ _).mpr ⟨ys,Fs,sy,u2y,yy,by lia,?_,NM,new⟩;rw[aaf,zaZ (by subst S0;simp)] at al;exact al
 .intro G Hx hv;obtain⟨z2,z3,rfl,Ye⟩:=(nH _ _ _).mp hv;obtain⟨ys,Fs,sx,ux,yx,ly,al,NM,new⟩:=(Gm _ _ _).mp Ye;refine(fh _ _).mpr ?_;walk_at "";rw[qJ,zaH] at al;exact q L ys Fs Hx sx hL yx al NM new
theorem CO(T:Tx K mg t)(CD:Cd P w K t):bq P w K mg base dF 15 t.m5 t.kZ ["deck", "program"] (HX K):=by
 have aU:=hX (P:=P) (w:=w) (base:=base) T;have rY:=wI (P:=P) (w:=w) (base:=base) T;have NO:=Kx (P:=P) (w:=w) (base:=base) T CD;refine T.nj.F.okN wz fun _ _ _ _ H vs Q E hr h=>?_;obtain⟨D,C,G,v,d,pr,rfl,dk,Fm,fx,sm,q⟩:=h;have nd:=wz.nd;have line:zdq=2 ^ 24:=rfl;refine⟨_,[some (.ref D),some v,none,none,none],(ag (fw 2 nd (cz aU T.aM hr (a8 0 (aa aw ae aE))))
 (ag (aW (az bB (pv 2) aw (aH _))
 (ak (aB (pv 1)))
 aG)
 (ag (aW (az bB (pv 2) aw (aH _))
 (ak (aB (cz rY T.j6 hr (a8 0 (aa aw ae aE)))))
 aG)
 (ag (gR yag rfl (kr rfl T.nE (aa (aY fC aw (bH gK rfl T.wF ybB (aa (gu bB (pv 2) aw (aH _)) ae pT))) ae qS)) (oK 3 nd)
 (ag (fw 4 nd (cz NO T.vJ hr (a8 1 ae)))
 (ak (aW (az (qm (gc hr)) (pv 4) (aR ae) (aH _))
 (ak (fw 1 nd (bL bU (pv 4) (cz aU T.aM hr (a8 0 (aa (eT cn rfl T.pM ybD (a8 4 ae)) ae bw))) iz)))
 aG))))
 (ak (aB (pv 1))))))),rfl,?_⟩
 refine ai fun U1 cM=>?_;walk_at "";refine⟨D,C,G,d,8,rfl,dk,by decide,by decide,by lia,fun way d1 H1 e1 c1 uW=>(cM _ _).mpr (ai fun U2 fh=>?_)⟩;clear cM;have p1:=ba e1;have b1:=bO e1 (by decide);have fx1:=fx.up c1.u;walk_at "";refine dR (fun e=>q pr d1 v H1 sm (by lia) c1 uW fx1) (fun e=>(fh _ _).mpr (ai fun U3 gJ=>?_));clear fh;walk_at "";refine dR (fun e=>?_) (fun e=>(gJ _ _).mpr (ai fun U4 jI=>?_))
 .refine⟨D,C,G,d1,6,rfl,uW,by decide,by lia,fun pr' d' v' H' sm' p' c' RA ow=>q pr' d' v' H' (HZ sm' (by decide)) (by lia) (c1.trans c') RA (ow (O2 D C) fun b hb=>?_)⟩;rcases hb with rfl |rfl
  .exact uW.dD
  .exact uW.dC
 clear gJ;refine Bo fun U hU=>?_;walk_at "";obtain⟨k,hk,hk2⟩:∃k:Nat,(1+if decide (way=2)=true then (1:Int) else 0)=k/\k<=2:=by
  by_cases h:way=2
  .exact⟨2,by simp[h],zah _⟩
  .exact⟨1,by simp[h],by decide⟩
 refine⟨_,rfl,(k:Int),by rw[hk],by lia,by lia,hU _ _ ?_⟩;clear hU;rw[zaP];obtain⟨Pv,nH,iF⟩:=Je fun (i:Nat) (Y:St) (Hx:Hp) zq=>∀(z3 z4:Option V) (v:V) (pr:PG.Prog) (dx:Dk),Y=[some (V.ref D),some v,some (.int way),z3,z4]->eX Hx D C G dx->dx.pos<=d1.pos+i->Fix K (O2 D C) Hx (gC pr) v->tf 8 pr->eL D C H Hx->zq;refine zm (lo:=0) (n:=k) Pv (nH _ _ _ fun _ zk=>zk _ _ v pr d1 rfl uW (by lia) fx1 sm c1) (fun i Y Hx hi hv=>?_) (fun Y Hx hv=>?_)
 .refine iF _ _ _ hv _ fun z3 z4 v pr dx ze Ej px fxx Yf cx=>?_;subst ze;clear hv;simp only[cF,zba];refine ai fun V1 yV=>?_;walk_at "";refine⟨v,pr,rfl,fxx.rep,ady (HZ Yf (by decide)),fun L us Fs H2 s2 hL yL all nF fF=>(yV _ _).mpr ?_⟩;clear yV;have sX:=Ej.same s2;have nL:L≠D/\L≠C:=⟨(aj Ej.cY hL).symm,(aj Ej.cs hL).symm⟩
  obtain⟨la,ga⟩:=Ib all;have qJ:us.length<=1000:=by rw[<- la];exact TY (HZ Yf (by decide))
  walk_at "";intro p5 Ei;generalize nG:upd H2 p5 (.lst [])=H5 at *;obtain⟨s5,W6⟩:=bX nG Ei;refine⟨L,p5,us,rfl,rfl,.of (s5 _ _ yL),.of W6,?_⟩;have yL5:=s5 _ _ yL;have AE:=sX.same s5;have s25:=s2.trans s5;have fx5:=fxx.up (aN.of s25);have cx5:=cx.trans (eL.of s25);have Yd:ao H2 H5:=s5;clear s5;cases us with
  |nil=>exact(ybq zag).mpr (nH _ _ _ fun _ zk=>zk _ _ v pr dx rfl AE (by lia) fx5 Yf cx5)
  |cons u0 ut=>
  generalize Vi:u0::ut=us at *;have Ge:0<us.length:=by rw[<- Vi];simp
  rw[show (!us.isEmpty)=true by rw[<- Vi];rfl];refine(ybr rfl).mpr ⟨L,us,rfl,.inl (.of yL5),D,C,G,dx,(us.length:Int),rfl,AE,by lia,by lia,by lia,fun j d6 H6 e6 c6 Fn=>?_⟩;have p6:=ba e6;have b6:=bO e6 (by lia);obtain⟨jn,rfl⟩:∃jn:Nat,j=jn:=⟨j.toNat,by lia⟩
  have lj:jn<us.length:=by lia
  obtain⟨pa,F,ep,mF,prt⟩:=ga jn us[jn] (zac lj);refine aL (.of (c6.get yL5 nL.1 nL.2)) (v:=us[jn]) (aF (zac lj)) ?_;have hO:∀g,O2 D C g->∃ys,H2 g=some (.lst ys):=fun g hg=>by
   rcases hg with rfl |rfl
   .exact⟨_,sX.cY⟩
   .exact⟨_,sX.cs⟩
  have fx2:Fix K (O2 D C) H2 (gC pa) us[jn]:=TX hO (fun f hf z=>by
   have:=(fF f (za3.mpr ⟨F,mF,hf⟩)).1;rcases z with rfl |rfl
   .exact Ej.dD this
   .exact Ej.dC this) prt
  exact nH _ _ _ fun _ zk=>zk _ _ us[jn] pa d6 rfl Fn (by lia) ((fx2.up (aN.of Yd)).up c6.u) (WM Yf pa (zaC ep)) (cx5.trans c6)
 .refine iF _ _ _ hv _ fun z3 z4 v pr dx ze Ej px fxx Yf cx=>?_;subst ze;clear hv;refine(jI _ _).mpr ?_;walk_at "";exact q pr dx v Hx Yf (by lia) cx Ej fxx
theorem RB:∀{bs:List jc}{vs:List Int},vs.length=bs.length->(∀(j:Nat)(x:Int)(b:jc),vs[j]?=some x->bs[j]?=some b->0<=x/\x<b.size)->PG.vN (bs.map (·.size)) vs
 |[],[],_,_=>trivial
 |[],_::_,l,_=>by cases l
 |_::_,[],l,_=>by cases l
 |b::bs,v::vs,l,h=>⟨h 0 v b rfl rfl,RB (Nat.succ.inj l) fun j x b e1 e2=>h (j+1) x b e1 e2⟩
theorem Ip(T:Tx K mg t):bq P w K mg base dF 3 t.rS t.pH ["deck", "made"] (Q8 K):=by
 have aU:=hX (P:=P) (w:=w) (base:=base) T;refine T.oH.F.okN AD fun _ _ _ _ H vs Q E hr h=>?_;obtain⟨D,C,G,md,d,pr,rfl,dk,Fm,mh,sm,q⟩:=h;have nd:=AD.nd;have line:zdq=2 ^ 24:=rfl;have dr:=Ko sm;refine⟨_,[some (.ref D),some (.ref md),none],(ag (fw 2 nd (aY fX (eT (Fd rfl) rfl T.B6 ybF (aa (iL 1) ae aA)) (aR (aa aw ae aE))))
 (ak (aB (aK (aa (bL bU (pv 2) (cz aU T.aM hr (a8 0 (aa (eT cn rfl T.pM ybD (a8 2 ae)) ae bw))) iz) (aa (bH ig rfl T.pN ybG (aa (jN (own:=["size"]) (ix:=[0]) rfl (by rfl) (by rfl) (bt (iL 1)) (fun _ _ _ _=>(oK 0 (by show List.Nodup (["size", "deck"]:List Str);decide +kernel))) (fun _ _ _ _=>ei) (fun _ _ _ _=>(cz aU T.aM hr (a8 1 (a8 0 ae))))) ae fK)) ae bw) aA))))),rfl,?_⟩
 obtain⟨F,N,Z,fa,ps,ymd,Ky,yF,fk,yN,yZ,stf⟩:=mh.X4.at_;have hZ:Z≠D/\Z≠C:=by
  obtain⟨F',N',Z',fa',ps',CP,_,_,_,_,yZ',_⟩:=mh.at_;have Xa:¬(md=D\/md=C):=fun z=>by
   have CP:(if md=D\/md=C then _ else _)=some (HO.lst _):=CP;rw[ybr z] at CP;cases CP
  have Vj:(if md=D\/md=C then _ else _)=some (HO.lst _):=CP;rw[ybq Xa,ymd] at Vj;cases Vj;have nZ:¬(Z=D\/Z=C):=fun z=>by
   have yZ':(if Z=D\/Z=C then _ else _)=some (HO.lst _):=yZ';rw[ybr z] at yZ';cases yZ'
  exact⟨fun z=>nZ (.inl z),fun z=>nZ (.inr z)⟩
 have e0:(cP (au pr.body) ps).map (·.1)=((au pr.body).map (·.row)).map Sum.inl:=by rw[nY _ _ Ky,zaB];rfl
 have lss:(au pr.body).length<=8:=by have:=sm.om;lia
 refine ai fun U1 cM=>?_;walk_at "";refine aL (.of ymd) fP ⟨F,_,_,rfl,yF,e0,?_,by rw[zab];lia,fun l hl=>?_⟩
 .rw[za4];exact dr.ok.pw.imp Int.le_of_lt
 generalize e4:upd H l _=H4;have s4:=gL e4 hl;have yl:=gLa e4;intro p hp;generalize e5:upd H4 p _=H5;have s5:=gL e5 hp;have yp:=gLa e5;refine⟨l,p,_,_,rfl,rfl,s5 _ _ yl,yp,by rw[zab,zab];simp only[zal,zaF];lia,fun R hR=>(cM _ _).mpr ?_⟩;clear cM;generalize e6:upd H5 R _=H6;have s6:=gL e6 hR;have yR:=gLa e6;have s36:=s4.trans (s5.trans s6);have AE:=(dk.same s4).same s5;have nR:R≠D/\R≠C:=⟨(aj AE.cY hR).symm,(aj AE.cs hR).symm⟩
 clear e4 e5 e6 s4 s5 s6 yl yp hl hp hR e0;obtain⟨rws,er⟩:∃rws:List Int,rws=(au pr.body).map (·.row)++[0]:=⟨_,rfl⟩
 have lr:rws.length=(au pr.body).length+1:=by rw[er];simp
 have yR:H6 R=some (.lst (rws.map V.int)):=by rw[er,zas];exact yR
 have Fn:=dk.same s36;have lrm:(rws.map V.int).length=rws.length:=zab ..;walk_at "";refine⟨R,_,rfl,.inl (.of yR),?_⟩;rw[lrm];refine⟨D,C,G,d,(rws.length:Int),rfl,Fn,by lia,by lia,by lia,fun j d7 H7 e7 c7 qL=>?_⟩;have p7:=ba e7;have b7:=bO e7 (by lia);obtain⟨jn,rfl⟩:∃jn:Nat,j=jn:=⟨j.toNat,by lia⟩
 have hj:jn<rws.length:=by lia
 refine aL (v:=V.int rws[jn]) (.of (c7.get yR nR.1 nR.2)) (aF (by rw[zaf,zac hj];rfl)) ?_;have NI:eL D C H H7:=(eL.of s36).trans c7;obtain⟨F2,N2,Z2,Kz,ps2,aeg,_,_,_,_,yZ2,_⟩:=(mh.chg NI).X4.at_;have yZ7:=NI.get yZ hZ.1 hZ.2;have aei:H7 md=some (.lst [.ref F,.ref N,.ref Z,.ref fa]):=by
  have Xa:md≠D/\md≠C:=by
   have:=mh.at_;obtain⟨F',N',Z',fa',ps',CP,_⟩:=this;have Xa:¬(md=D\/md=C):=fun z=>by
    have CP:(if md=D\/md=C then _ else _)=some (HO.lst _):=CP;rw[ybr z] at CP;cases CP
   exact⟨fun z=>Xa (.inl z),fun z=>Xa (.inr z)⟩
  exact NI.get ymd Xa.1 Xa.2
 clear aeg yZ2;simp only[cJ];walk_at "";have lb3:=sm.len;refine aL (.of aei) (v:=.ref Z) at2 ⟨Z,rfl,⟨_,.of yZ7⟩,fun DD Of=>?_⟩;have Iq:DD≠D/\DD≠C/\DD≠G:=⟨(aj qL.cY Of).symm,(aj qL.cs Of).symm,(aj qL.gs Of).symm⟩
 have nZD:Z≠DD:=aj yZ7 Of;refine NF (K:=K) (a:=Z) (xs:=pr.ar.map fun b=>V.int b.size) (r:=[some (.ref D)]) (fun i ys Hy=>∃(vs:List Int) (dy:Dk),ys=vs.map V.int/\vs.length=i/\(∀(j:Nat) (x:Int) (b:jc),vs[j]?=some x->pr.ar[j]?=some b->0<=x/\x<b.size)/\Hy DD=some (.lst ys)/\eX Hy D C G dy/\dy.pos<=d7.pos+i/\(∀b o,b≠D->b≠C->H7 b=some o->Hy b=some o)/\∀b,H7 b≠none->Hy b≠none) (by rw[zab];lia) (fun i ys Hy h=>?_) (fun i ys Hy h=>?_) ?_ (fun i x ys Hy hx h R0 hR0=>?_) (fun ys Hy h=>?_)
 .obtain⟨_,_,_,_,_,_,_,_,k,_⟩:=h;exact .of (k _ _ hZ.1 hZ.2 yZ7)
 .obtain⟨vs,_,rfl,l,_,y,_⟩:=h;exact⟨y,by rw[zab];exact l⟩
 .refine⟨[],d7,rfl,rfl,fun j x b e=>by simp at e,ah,⟨by rw[aI Iq.1.symm];exact qL.cY,by rw[aI Iq.2.1.symm];exact qL.cs,by rw[aI Iq.2.2.symm];exact qL.gs,qL.Me,qL.Sj,qL.Sk,qL.len,qL.gl,qL.pos⟩,by lia,fun b o n1 n2 e=>by rw[aI (aj e Of)];exact e,fun b h=>?_⟩;by_cases z:b=DD
  .rw[z,ah];simp
  .rw[aI z];exact h
 .obtain⟨vs,dy,rfl,lv,hvs,yD,Sr,py,k,nX⟩:=h;rw[zaf] at hx;obtain⟨bx,ebx,rfl⟩:=zaT.mp hx;have li:=(zaj.mp ebx).1;have sb:=sm.size bx (zaC ebx);walk_at "";refine⟨D,C,G,dy,bx.size,rfl,Sr,by lia,by lia,by lia,fun x d8 H8 e8 c8 wH=>?_⟩;have p8:=ba e8;have b8:=bO e8 (by lia);refine hR0 _ _ (c8.get yD Iq.1 Iq.2.1) ⟨vs++[x],d8,by rw[zas];rfl,by simp[lv],fun j y b e1 e2=>?_,ah,⟨by rw[aI Iq.1.symm];exact wH.cY,by rw[aI Iq.2.1.symm];exact wH.cs,by rw[aI Iq.2.2.symm];exact wH.gs,wH.Me,wH.Sj,wH.Sk,wH.len,wH.gl,wH.pos⟩,by lia,fun b o n1 n2 e=>by rw[aI (aj e Of)];exact c8.get (k _ _ n1 n2 e) n1 n2,fun b h=>?_⟩
  .by_cases hj:j<vs.length
   .rw[zbb hj] at e1;exact hvs j y b e1 e2
   .have:j=i:=by
     have:=(zaj.mp e1).1;simp at this;lia
    subst this;rw[za2 (by lia),lv,zdf] at e1;cases e1;rw[ebx] at e2;cases e2;exact b8
  .by_cases z:b=DD
   .rw[z,ah];simp
   .rw[aI z];exact c8.nX b (nX b h)
 obtain⟨vs,dy,rfl,lv,hvs,yD,Sr,py,k,nX⟩:=h;rw[zab] at lv py;refine⟨DD,_,rfl,.inl ⟨.of yD,fun va KA sa RC=>?_⟩⟩;generalize e8:upd Hy va _=H8 at *;have s8:=gT e8 KA;have yva:=gTa e8;generalize e9:upd H8 sa _=H9;have s9:=gT e9 RC;have ysa:=gTa e9;have s89:=s8.trans s9;have cyy:eL D C H7 Hy:=⟨fun b o n e=>k b o (fun z=>n (.inl z)) (fun z=>n (.inr z)) e,nX⟩
 refine q (rws[jn],vs) sa dy H9 ?_ (by lia) (NI.trans (cyy.trans (eL.of s89))) (Sr.same s89) ⟨va,.of ysa,.of (s9 _ _ yva)⟩;refine⟨⟨?_,lv,fun x hx=>?_⟩,RB lv hvs⟩
 .have hm:=zam hj;show rws[jn]=0\/_;generalize rws[jn]=y at hm |-;rw[er] at hm;rcases zak.mp hm with h |h
  .obtain⟨t,ht,rfl⟩:=zar.mp h;obtain⟨i,hi,e⟩:=zbj.mp ht;exact .inr ⟨i,hi,by rw[e]⟩
  .exact .inl (zai.mp h)
 .obtain⟨i,hi,rfl⟩:=zbj.mp hx;have hi:i<vs.length:=hi;have:=hvs i vs[i] pr.ar[i] (zac hi) (zac (by lia));have:=sm.size pr.ar[i] (zam _);show vs[i].natAbs<=_;lia
theorem MF(xs:List V)(j:Nat):je xs (some (j:Int)) none=xs.drop j:=by
 unfold je;rw[HT.lD,HT.mE];by_cases h:j<=xs.length
 .rw[zb7 h,zaZ (by rw[zaU];lia)]
 .rw[zcb (by lia),zbP,zbQ (by lia),zc8]
theorem En(xs:List V)(j:Nat):je xs none (some (j:Int))=xs.take j:=by
 unfold je;rw[HT.lD,HT.mE,zci,zcL];by_cases h:j<=xs.length
 .rw[zb7 h]
 .rw[zcb (by lia),zaH,zaZ (by lia)]
theorem Cc(T:Tx K mg t):bq P w K mg base dF 5 t.k7 t.j3 ["deck", "one", "other", "paper"] (HY K):=by
 have aU:=hX (P:=P) (w:=w) (base:=base) T;have Ce:=Ip (P:=P) (w:=w) (base:=base) T;refine T.lC.F.okN uR fun _ _ _ s H vs Q E hr h=>?_;obtain⟨D,C,G,m1,m2,pa,d,aX,a7,l,us,rfl,dk,Fm,mh1,Yg,Yh,sm2,ypa,nD,nC,w5,uZ,JL,om,q⟩:=h;have nd:=uR.nd;have line:zdq=2 ^ 24:=rfl;have qJ:us.length=l.length:=(yaj w5).symm;have Ge:0<us.length:=by rw[qJ];exact zbL.mpr JL
 have g0:=gU.of w5 uZ;refine⟨_,[some (.ref D),some (.ref m1),some (.ref m2),some (.ref pa),none,none,none],(ag (fw 4 nd (cz aU T.aM hr (a8 0 (aa (eT cn rfl T.pM ybD (a8 3 ae)) ae bw))))
 (ag (fw 5 nd (aK (aa (cz Ce T.oH hr (a8 0 (a8 1 ae))) (aa (cz Ce T.oH hr (a8 0 (a8 2 ae))) ae bw) bw)))
 (ag (fw 6 nd (cz aU T.aM hr (a8 0 (aa aw ae aE))))
 (ag (aW (az bB (pv 6) aw (aH _))
 (ak (aB (aY fX (cW jo (pv 3) fq (dZ (pv 4))) (cW jo (pv 3) (dZ (aY fC (pv 4) aw)) fq))))
 aG)
 (ag (aW (az bB (pv 6) aw (aH _))
 (ak (aB (aY fX (aY fX (cW jo (pv 3) fq (dZ (pv 4))) (aR (a8 5 ae))) (cW jo (pv 3) (dZ (pv 4)) fq))))
 aG)
 (ag (aW (az bB (pv 6) aw (aH _))
 (ak (aB (aY fX (aY fX (cW jo (pv 3) fq (dZ (pv 4))) (aR (a8 5 ae))) (cW jo (pv 3) (dZ (aY fC (pv 4) aw)) fq))))
 aG)
 (ag (aW (az bB (pv 6) aw (aH _))
 (ak (aB (WS (pv 3) (dZ (Uv OA aw)))))
 aG)
 (ag (aW (az bB (pv 6) aw (aH _))
 (ak (aB (aY fX (pv 3) (aR (aa (bL bU (pv 3) (pv 4) jr) ae aA)))))
 aG)
 (ak (aB (aY fX (aY fX (cW jo (pv 3) fq (dZ (pv 4))) (aR (aa (aK (aa (bL gA (bL bU (pv 3) (pv 4) jr) aw bI) (aa (iT 5) ae aA) aA)) ae dO))) (cW jo (pv 3) (dZ (aY fC (pv 4) aw)) fq)))))))))))),rfl,?_⟩
 refine ai fun U1 cM=>?_;walk_at "";refine⟨pa,us,rfl,.inl (.of ypa),D,C,G,d,(us.length:Int),rfl,dk,by lia,by lia,by lia,fun fP d1 H1 e1 c1 uW=>(cM _ _).mpr (ai fun U2 fh=>?_)⟩;clear cM;have p1:=ba e1;have b1:=bO e1 (by lia);obtain⟨jn,rfl⟩:∃jn:Nat,fP=jn:=⟨fP.toNat,by lia⟩
 have hj:jn<us.length:=by lia
 walk_at "";refine⟨D,C,G,m1,d1,aX,rfl,uW,by lia,mh1.chg c1,Yh,fun x1 a1 d2 H2 si1 p2 c2 sX qX=>?_⟩;refine⟨D,C,G,m2,d2,a7,rfl,sX,by lia,Yg.chg (c1.trans c2),sm2,fun x2 a2 d3 H3 Yi p3 c3 xj xE pp Gk=>(fh _ _).mpr (ai fun U3 gJ=>?_)⟩;clear fh;generalize nG:upd H3 pp (.tup [V.ref a1,V.ref a2])=H3' at *;obtain⟨sp,W6⟩:=bX nG Gk;have pat:mM K H3' pp (x1,x2):=⟨a1,a2,.of W6,(qX.lZ (sX.tup c3)).mono sp,xE.mono sp⟩
 have pin:BS aX a7 (x1,x2):=⟨si1,Yi⟩
 have Z3:=c1.trans (c2.trans (c3.trans (eL.of sp)));have Xb:=xj.same sp;clear c1 c2 c3 sp qX xE;walk_at "";refine⟨D,C,G,d3,6,rfl,Xb,by decide,by decide,by lia,fun way d4 H4 e4 c4 Ii=>(gJ _ _).mpr (ai fun U4 jI=>?_)⟩;clear gJ;have p4:=ba e4;have T3:=Z3.trans c4;have Xc:=pat.lZ (Xb.tup c4);have y4:H4 pa=some (.lst us):=T3.get ypa nD nC;have g4:gU K aX a7 H4 us:=g0.lZ (dk.tup T3);have fin:∀p' BZ H',ao H4 H'->H4 p'=none->H' p'=some (.lst BZ)->gU K aX a7 H' BZ->BZ.length<=us.length+1->Q (.ref p') H':=fun p' BZ H' s' f' y' g' l'=>by
  obtain⟨l2,r1,r2,r3⟩:=g'.w5;refine q p' l2 BZ d4 H' (by lia) (T3.trans (eL.of s')) (Ii.same s') ?_ y' r1 r2 (by lia);cases e:H p' with
  |none=>rfl
  |some o=>exact ybw f' (T3.nX p' (by rw[e];simp))
 have tk:∀v∈us.take jn,v∈us:=fun v h=>List.mem_of_mem_take h;have dp:∀n,∀v∈us.drop n,v∈us:=fun n v h=>List.mem_of_mem_drop h;clear q mh1 Yg e1 e4 Z3 c4 pat xj Xb w5 g0 ypa;walk_at "";have e1:((jn:Int)+1)=((jn+1:Nat):Int):=by lia
 have T7:(us.take jn).length=jn:=by rw[zbt];lia
 have ld1:(us.drop (jn+1)).length=us.length-(jn+1):=zaU ..;have ld0:(us.drop jn).length=us.length-jn:=zaU ..;have f3:∀{H1 H2:Hp} {b:zdi},ao H1 H2->H2 b=none->H1 b=none:=fun s h=>s.free h;refine dR (fun e=>?_) (fun e=>(jI _ _).mpr (ai fun U5 tj=>?_))
 .refine⟨_,rfl,pa,us,rfl,.of y4,fun l1 Ss=>?_⟩;rw[En];have s1:=ao.new Ss (.lst (us.take jn));refine⟨_,rfl,pa,us,rfl,.of (s1 _ _ y4),fun l2 XI=>?_⟩;rw[e1,MF];have s2:=ao.new XI (.lst (us.drop (jn+1)));refine⟨l1,l2,_,_,rfl,rfl,s2 _ _ ah,ah,by lia,fun l3 KC=>?_⟩;have s3:=ao.new KC (.lst (us.take jn++us.drop (jn+1)));have sA:=s1.trans (s2.trans s3);exact fin l3 _ _ sA (f3 (s1.trans s2) KC) ah (((g4.sub tk).app (g4.sub (dp _))).lZ fun _ _ h=>sA.aS h) (by rw[zae];lia)
 clear jI;walk_at "";refine dR (fun e=>?_) (fun e=>(tj _ _).mpr (ai fun U6 AU=>?_))
 .refine⟨_,rfl,pa,us,rfl,.of y4,fun l1 Ss lp T8=>?_⟩;rw[En];rw[En] at T8;have s1:=ao.new Ss (.lst (us.take jn));have s2:=ao.new T8 (.lst [V.ref pp]);refine⟨l1,lp,_,_,rfl,rfl,s2 _ _ ah,ah,by rw[T7];simp;lia,fun l3 KC=>?_⟩;have s3:=ao.new KC (.lst (us.take jn++[V.ref pp]));refine⟨_,rfl,pa,us,rfl,.of (s3 _ _ (s2 _ _ (s1 _ _ y4))),fun l4 WZ=>?_⟩;rw[MF];have s4:=ao.new WZ (.lst (us.drop jn));refine⟨l3,l4,_,_,rfl,rfl,s4 _ _ ah,ah,by rw[zae,T7,ld0];simp;lia,fun l5 Gn=>?_⟩;have s5:=ao.new Gn (.lst ((us.take jn++[V.ref pp])++us.drop jn));have sA:=s1.trans (s2.trans (s3.trans (s4.trans s5)));exact fin l5 _ _ sA (f3 (s1.trans (s2.trans (s3.trans s4))) Gn) ah ((((g4.sub tk).app (.one Xc pin)).app (g4.sub (dp _))).lZ fun _ _ h=>sA.aS h) (by rw[zae,zae,T7,ld0];simp;lia)
 clear tj;walk_at "";refine dR (fun e=>?_) (fun e=>(AU _ _).mpr (ai fun U7 Jg=>?_))
 .refine⟨_,rfl,pa,us,rfl,.of y4,fun l1 Ss lp T8=>?_⟩;rw[En];rw[En] at T8;have s1:=ao.new Ss (.lst (us.take jn));have s2:=ao.new T8 (.lst [V.ref pp]);refine⟨l1,lp,_,_,rfl,rfl,s2 _ _ ah,ah,by rw[T7];simp;lia,fun l3 KC=>?_⟩;have s3:=ao.new KC (.lst (us.take jn++[V.ref pp]));refine⟨_,rfl,pa,us,rfl,.of (s3 _ _ (s2 _ _ (s1 _ _ y4))),fun l4 WZ=>?_⟩;rw[e1,MF];have s4:=ao.new WZ (.lst (us.drop (jn+1)));refine⟨l3,l4,_,_,rfl,rfl,s4 _ _ ah,ah,by rw[zae,T7,ld1];simp;lia,fun l5 Gn=>?_⟩;have s5:=ao.new Gn (.lst ((us.take jn++[V.ref pp])++us.drop (jn+1)));have sA:=s1.trans (s2.trans (s3.trans (s4.trans s5)));exact fin l5 _ _ sA (f3 (s1.trans (s2.trans (s3.trans s4))) Gn) ah ((((g4.sub tk).app (.one Xc pin)).app (g4.sub (dp _))).lZ fun _ _ h=>sA.aS h) (by rw[zae,zae,T7,ld1];simp;lia)
 clear AU;walk_at "";refine dR (fun e=>?_) (fun e=>(Jg _ _).mpr (ai fun U8 WX=>?_))
 .simp only[ZL];walk_at "";refine⟨1,rfl,_,rfl,pa,us,_,rfl,rfl,by decide,.of y4,fun is l1 Ss ll=>?_⟩;have s1:=ao.new Ss (.lst (is.filterMap (us[·]?)));refine fin l1 _ _ s1 Ss ah ((g4.sub fun v hv=>?_).lZ fun _ _ h=>s1.aS h) (by lia);obtain⟨k,_,ek⟩:=zcG.mp hv;exact zaC ek
 clear Jg;have ZE:us[jn]?=some us[jn]:=zac hj;have mat:us[jn]∈us:=zam hj;walk_at "";refine dR (fun e=>?_) (fun e=>(WX _ _).mpr ?_)
 .refine aL (.of y4) (v:=us[jn]) (aF ZE) fun lp T8=>?_;have s2:=ao.new T8 (.lst [us[jn]]);refine⟨pa,lp,_,_,rfl,rfl,s2 _ _ y4,ah,by simp;lia,fun l3 KC=>?_⟩;have s3:=ao.new KC (.lst (us++[us[jn]]));have sA:=s2.trans s3;exact fin l3 _ _ sA (f3 s2 KC) ah ((g4.app (g4.sub fun v hv=>by cases zai.mp hv;exact mat)).lZ fun _ _ h=>sA.aS h) (by simp)
 clear WX;walk_at "";refine⟨_,rfl,pa,us,rfl,.of y4,fun l1 Ss=>?_⟩;rw[En];have s1:=ao.new Ss (.lst (us.take jn));obtain⟨ax,px,eax,Xd,ael⟩:=g4 _ mat;rw[eax] at ZE;obtain⟨bx,cx,hx,sx1,sx2⟩:=id Xd;obtain⟨by1,cy,hy,sy1,sy2⟩:=id Xc;refine aL (.of (s1 _ _ y4)) (v:=.ref ax) (aF ZE) (aq (s1.aS hx) (v:=.ref bx) fP (aq (s1.aS hy) (v:=.ref cy) jV fun tq htq lp T8=>?_));have s2:=ao.new htq (.tup [V.ref bx,V.ref cy]);have s3:=ao.new T8 (.lst [V.ref tq]);refine⟨l1,lp,_,_,rfl,rfl,s3 _ _ (s2 _ _ ah),ah,by rw[T7];simp;lia,fun l3 KC=>?_⟩;have s4:=ao.new KC (.lst (us.take jn++[V.ref tq]));refine⟨_,rfl,pa,us,rfl,.of (s4 _ _ (s3 _ _ (s2 _ _ (s1 _ _ y4)))),fun l4 WZ=>?_⟩;rw[e1,MF];have s5:=ao.new WZ (.lst (us.drop (jn+1)));refine⟨l3,l4,_,_,rfl,rfl,s5 _ _ ah,ah,by rw[zae,T7,ld1];simp;lia,fun l5 Gn=>?_⟩;have s6:=ao.new Gn (.lst ((us.take jn++[V.ref tq])++us.drop (jn+1)));have sA:=s1.trans (s2.trans (s3.trans (s4.trans (s5.trans s6))));have s26:=s2.trans (s3.trans (s4.trans (s5.trans s6)));have s36:=s3.trans (s4.trans (s5.trans s6));refine fin l5 _ _ sA (f3 (s1.trans (s2.trans (s3.trans (s4.trans s5)))) Gn) ah ((((g4.sub tk).lZ fun _ _ h=>sA.aS h).app (.one (p:=(px.1,x2)) ⟨bx,cy,.of (s36 _ _ ah),sx1.mono sA,sy2.mono sA⟩ ⟨ael.one,Yi⟩)).app ((g4.sub (dp _)).lZ fun _ _ h=>sA.aS h)) (by rw[zae,zae,T7,ld1];simp;lia)
theorem Ir(l:vs.length=ss.length):(zaS ss.length).map (fun i=>((Sum.inl (ss.getD i (.stop 0)).row:Key),vs.getD i .cH))=cP ss vs:=by
 apply zcr
 .simp[cP,l]
 .intro i h1 h2;simp at h1;simp[cP,h1,l]
theorem Fw{fl:List cT}{vs:List V}(l:vs.length=fl.length):(zaS fl.length).map (fun i=>((Sum.inl (fl.getD i (0,.stop,[])).1:Key),vs.getD i .cH))=zbR (fun r v=>(Sum.inl r.1,v)) fl vs:=by
 apply zcr
 .simp[l]
 .intro i h1 h2;simp at h1;simp[h1,l]
theorem Iu{fl:List cT}{vs:List V}(l:vs.length=fl.length):(zbR (fun r v=>((Sum.inl r.1:Key),v)) fl vs).map (·.1)=fl.map fun r=>(Sum.inl r.1:Key):=by
 apply zcr
 .simp[l]
 .intro i h1 h2;simp
theorem MG:∀{fl:List cT}{us:List V},aC K H (fl.map kA) us->∃ws:List V,ws.length=fl.length/\∀i (hi:i<fl.length),∃a q,us[i]?=some (.ref a)/\ws[i]?=some (.ref q)/\bG K H a [.int fl[i].1,.str (qj fl[i].2.1),.ref q]/\bG K H q (fl[i].2.2.map V.int)
 |[],us,_=>⟨[],rfl,fun i hi=>by simp at hi⟩
 |r::fl,us,h=>by
  have h0:=h;rw[zaq,aC.av] at h;obtain⟨v,tl,rfl,h1,h2⟩:=h;obtain⟨ws,l,hw⟩:=MG h2;obtain⟨a,q,e,s1,s2⟩:=PF h0 (i:=0) (y:=v) rfl (by simp);refine⟨.ref q::ws,by simp[l],fun i hi=>?_⟩;cases i with
  |zero=>exact⟨a,q,by rw[e];rfl,rfl,s1,s2⟩
  |succ i=>
   obtain⟨a',q',e1,e2,e3,e4⟩:=hw i (by simpa using hi);exact⟨a',q',by simpa using e1,by simpa using e2,by simpa using e3,by simpa using e4⟩
theorem KD(pw:(au b).Pairwise fun a b=>a.row<b.row):((aP b 0).map fun r=>(Sum.inl r.1:Key)).Nodup:=by
 have e:(aP b 0).map (fun r=>(Sum.inl r.1:Key))=(au b).map fun s=>(Sum.inl s.row:Key):=by
  have h:((aP b 0).map fun r=>(r.1,r.2.1))=(au b).map fun x=>(x.row,x.wd):=by rw[gB,ij]
  have h2:=ybv (List.map fun r:Int×Wd=>(Sum.inl r.1:Key)) h;rw[zaB,zaB] at h2;exact h2
 rw[e];exact Bs pw
theorem zb{bs:List jc}(r:Rep K H (.lst (bs.map tV)) (.ref B)):∃xs,jJ K H B xs/\xs.length=bs.length/\∀i x,xs[i]?=some x->∃a,x=.ref a/\bG K H a [.str (S (bs.getD i ⟨[],0,0⟩).name),.int (bs.getD i ⟨[],0,0⟩).size,.int (bs.getD i ⟨[],0,0⟩).first]:=by
 rw[Rep.bD] at r;obtain⟨_,xs,e,q,rs⟩:=r;cases e;have lx:xs.length=bs.length:=by rw[rs.length,zab]
 refine⟨xs,q,lx,fun i x hx=>?_⟩;have li:i<bs.length:=by have:=(zaj.mp hx).1;lia
 obtain⟨v,hv,rv⟩:=rs.get (i:=i) (d:=tV bs[i]) (by rw[zaf,zac li];rfl);rw[hx] at hv;cases hv;have eg:bs.getD i ⟨[],0,0⟩=bs[i]:=by rw[zap,zac li];rfl
 rw[eg];simp only[tV,Rep.aJ,aC.av,aC.aO,Rep.aZ,Rep.bu] at rv;obtain⟨a,ys,rfl,hS,_,_,rfl,rfl,_,_,rfl,rfl,_,_,rfl,rfl,rfl⟩:=rv;exact⟨a,rfl,hS⟩
theorem xo(h:(kvs.map (·.1)).Nodup):qQ [] kvs=kvs:=by
 have:=wM kvs [] (by simpa using h);simpa using this
theorem CQ(T:Tx K mg t)(dI:bq P w K mg base dF 1 t.fQ t.eC ["body", "behind"] (qU K))(cv:bq P w K mg base dF 6 t.cu t.bV ["body"] (oQ K 4))(Cf:bq P w K mg base dF 7 t.xg t.rL ["program"] (EO K)) :
 bq P w K mg base dF 8 t.fT t.qd ["self", "program"] (LW K t.bh):=by
 refine T.nv.okN wC fun _ _ _ _ H vs Q E hr h=>?_;obtain⟨p,dx,v,pr,rfl,hp,RD,rp,hd,hf,pw,nb,lb,q⟩:=h;have nd:=wC.nd;obtain⟨Rt,Ca,Cb⟩:=T.Fl;refine⟨_,[some (.ref p),some v,none,none],(ag (fw 2 nd (iT 1))
 (ag (fw 3 nd (iT 1))
 (ag (wL (pv 0) (lM (bt (pv 2)) (fun _ _ _ _=>(iK (K:=K) 0))) rfl)
 (ag (wL (pv 0) (bH (wN rfl) rfl T.xi ybz (aa (lM (bt (pv 2)) (fun _ _ _ _=>(aK (aa (iK (K:=K) 0) (aa (iK (K:=K) 0) ae aA) aA)))) ae fK)) rfl)
 (ag (wL (pv 0) (aK (aa (cz dI T.gP hr (a8 3 (aa (mC rfl Ca Cb) ae cK))) (aa (bH ig rfl T.pN ybG (aa (lM (bt (pv 2)) (fun _ _ _ _=>(iK (K:=K) 0))) ae fK)) ae bw) bw)) rfl)
 (ag (wL (pv 0) (bH (wN rfl) rfl T.xi ybz (aa (lM (bt (cz cv T.fJ hr (a8 3 ae))) (fun _ _ _ _=>(aK (aa (iK (K:=K) 0) (a8 0 ae) aA)))) ae fK)) rfl)
 (ak (wL (pv 0) (bH (wN rfl) rfl T.xi ybz (aa (lM (bt (cz Cf T.Fi hr (a8 1 ae))) (fun _ _ _ _=>(aK (aa (iK (K:=K) 0) (aa (iK (K:=K) 0) ae aA) aA)))) ae fK)) rfl)))))))),rfl,?_⟩
 have line:zdq=2 ^ 24:=rfl;have rp':=rp;unfold gC at rp';rw[Rep.aJ] at rp';obtain⟨pa,pxs,rfl,T1,w5⟩:=rp';rw[aC.av] at w5;obtain⟨v1,t1,rfl,aX,w5⟩:=w5;rw[aC.av] at w5;obtain⟨v2,t2,rfl,a7,w5⟩:=w5;obtain⟨bb,_,rfl,_⟩:=Rep.bD.mp a7;obtain⟨bx,_,rfl,_⟩:=Rep.bD.mp aX;refine ai fun U1 cM=>?_;walk_at "";refine aq T1 (v:=.ref bx) fP ((cM _ _).mpr (ai fun U2 fh=>?_));clear cM;walk_at "";refine aq T1 (v:=.ref bb) jV ((fh _ _).mpr (ai fun U3 gJ=>?_));clear fh;walk_at "";simp only[GL,cJ];walk_at "";obtain⟨xs1,hx1,lx1,g1⟩:=zb aX;refine⟨⟨_,hx1⟩,fun D1 Rj=>qu (K:=K) (r:=[]) (fun i=>.str (S (pr.ar.getD i ⟨[],0,0⟩).name)) hx1 (by lia) Rj (fun i x H2 hx s2 R hR=>?_) (fun H2 s2 h2=>⟨p,_,dx,[],rfl,s2 _ _ hp,T.dH,T.iP,by decide,(gJ _ _).mpr (ai fun U4 jI=>?_)⟩)⟩
 .obtain⟨a,rfl,ha⟩:=g1 i x hx;walk_at "";exact aq (s2.aS ha) (v:=.str (S (pr.ar.getD i ⟨[],0,0⟩).name)) fP hR
 clear gJ;rw[lx1,nK (fun b:jc=>V.str (S b.name))] at h2;have qP:=s2 _ _ hp;have n1:D1≠p:=(aj hp Rj).symm;rw[show jK (zad "names") (V.ref D1) []=[(zad "names",V.ref D1)] from rfl];generalize eu3:upd H2 p (.ins t.bh dx [("names",.ref D1)])=H3 at *;obtain⟨u3,ME,k3⟩:=Kn eu3;have u3:=(aN.of s2).trans u3;have d1:=(k3 n1).trans h2;walk_at "";simp only[GL,cJ];walk_at "";have pr3:=vo hp u3 _ _ aX;obtain⟨xs3,hx3,lx3,g3⟩:=zb pr3;refine⟨⟨_,hx3⟩,fun D2 MA=>wO (K:=K) (r:=[]) (fun i=>(.inr (S (pr.ar.getD i ⟨[],0,0⟩).name),.int (pr.ar.getD i ⟨[],0,0⟩).size)) hx3 (by lia) MA (fun i x H2 hx s2 R hR=>?_) (fun ps H4 s4 h4 LV ep=>⟨D2,ps,rfl,.of h4,fun q hq=>.of (LV q hq),?_,fun D3 hD3=>⟨p,_,dx,_,rfl,ao.new hD3 _ _ _ (s4 _ _ ME),T.dH,T.iQ,by simp,(jI _ _).mpr (ai fun U5 tj=>?_)⟩⟩)⟩
 .obtain⟨a,rfl,ha⟩:=g3 i x hx;walk_at "";exact aq (s2.aS ha) (v:=.str (S (pr.ar.getD i ⟨[],0,0⟩).name)) fP (aq (s2.aS ha) (v:=.int (pr.ar.getD i ⟨[],0,0⟩).size) jV hR)
 .have:=ybv zaQ ep;simp only[zab,zbJ] at this;lia
 clear jI;have ek:ps.map (fun q=>(q.2.1,q.2.2))=pr.ar.map fun b=>(Sum.inr (S b.name),V.int b.size):=by
  rw[show (fun q:zdi×Key×V=>(q.2.1,q.2.2))=(·.2) from rfl,ep,lx3,nK (fun b:jc=>((Sum.inr (S b.name):Key),V.int b.size))]
 have nk:((pr.ar.map fun b=>((Sum.inr (S b.name):Key),V.int b.size)).map (·.1)).Nodup:=by
  rw[zaB];refine za4.mpr ((za4.mp nb).imp fun {a b} Gg e=>Gg ?_);exact xU.mp (Sum.inr.inj e)
 rw[ek,xo nk,show jK (zad "sizes") (V.ref D3) [(zad "names",V.ref D1)]=[(zad "names",V.ref D1),(zad "sizes",V.ref D3)] from rfl];generalize eJ:upd H4 D3 (.dK (pr.ar.map fun b=>(Sum.inr (S b.name),V.int b.size)))=H5 at *;obtain⟨s5,d3⟩:=bX eJ hD3;have s4':=s4.trans s5;have n3:D3≠p:=b5 d3 (s4' _ _ ME) (by intro z;cases z);generalize eu6:upd H5 p (.ins t.bh dx [(zad "names",V.ref D1),(zad "sizes",V.ref D3)])=H6 at *;obtain⟨u6,Rh,k6⟩:=Kn eu6;have u6:=(aN.of s4').trans u6;have d3:=(k6 n3).trans d3;have d1:=u6 _ _ n1 d1;have u6:=u3.trans u6;have pr6:=vo hp u6 _ _ aX;have pb6:=vo hp u6 _ _ a7;walk_at "";simp only[GL,cJ];walk_at "";have lbd:=eR pr.body;obtain⟨xs6,hx6,lx6,g6⟩:=zb pr6;refine⟨bb,pr.body,0,rfl,pb6,by lia,⟨_,hx6⟩,fun D4 hD4=>qu (K:=K) (r:=[]) (fun i=>.int (pr.ar.getD i ⟨[],0,0⟩).first) hx6 (by lia) hD4 (fun i x H2 hx s2 R hR=>?_) (fun H7 s7 h7=>⟨D4,_,rfl,.inl ⟨.of h7,fun D5 hD5 D6 hD6=>⟨p,_,dx,_,rfl,ao.new hD6 _ _ _ (ao.new hD5 _ _ _ (s7 _ _ Rh)),T.dH,T.iR,by simp,(tj _ _).mpr (ai fun U6 AU=>?_)⟩⟩⟩)⟩
 .obtain⟨a,rfl,ha⟩:=g6 i x hx;walk_at "";exact aq (s2.aS ha) (v:=.int (pr.ar.getD i ⟨[],0,0⟩).first) at2 hR
 clear tj;rw[show jK (zad "first") (V.ref D6) [(zad "names",V.ref D1),(zad "sizes",V.ref D3)]=[(zad "names",V.ref D1),(zad "sizes",V.ref D3),(zad "first",V.ref D6)] from rfl];rw[lx6,nK (fun b:jc=>V.int b.first)] at hD6 ⊢;generalize e5:upd H7 D5 (.tup (pr.ar.map fun b=>V.int b.first))=H7' at *;obtain⟨Yd,d5⟩:=bX e5 hD5;generalize e6:upd H7' D6 (.tup [V.int (br pr.body 0),V.ref D5])=H8 at *;obtain⟨s6',d6⟩:=bX e6 hD6;have d5:=s6' _ _ d5;have s8:=s7.trans (Yd.trans s6');have Fo:=s8 _ _ Rh;have n5:D5≠p:=b5 d5 Fo (by intro z;cases z);have n6:D6≠p:=b5 d6 Fo (by intro z;cases z);generalize eu9:upd H8 p (.ins t.bh dx [(zad "names",V.ref D1),(zad "sizes",V.ref D3),(zad "first",V.ref D6)])=H9 at *;obtain⟨u9,Gi,k9⟩:=Kn eu9;have u9:=(aN.of s8).trans u9;have d5:=(k9 n5).trans d5;have d6:=(k9 n6).trans d6;have d1:=u9 _ _ n1 d1;have d3:=u9 _ _ n3 d3;have u9:=u6.trans u9;have pb9:=vo hp u9 _ _ a7;walk_at "";simp only[GL,cJ];walk_at "";refine⟨bb,pr.body,H9,rfl,ao.refl _,pb9,by lia,hf,fun Va us UZ Fq aeo Sm Yj=>?_⟩;have sl:=gD pr.body;have qJ:us.length=(au pr.body).length:=by rw[Yj.length,zab]
 refine⟨Va,rfl,⟨_,.of Sm⟩,fun D7 hD7=>wO (K:=K) (r:=[]) (fun i=>(.inl ((au pr.body).getD i (.stop 0)).row,us.getD i .cH)) (.of Sm) (by lia) hD7 (fun i x H2 hx s2 R hR=>?_) (fun ps H11 s11 Np LV ep=>⟨D7,ps,rfl,.of Np,fun q hq=>.of (LV q hq),?_,fun D8 hD8=>⟨p,_,dx,_,rfl,ao.new hD8 _ _ _ (s11 _ _ (Fq _ _ Gi)),T.dH,T.cO,by simp,(AU _ _).mpr ?_⟩⟩)⟩
 .have li:i<(au pr.body).length:=by have:=(zaj.mp hx).1;lia
  obtain⟨v',qK,rv⟩:=Yj.get (i:=i) (d:=b3 (au pr.body)[i]) (by rw[zaf,zac li];rfl);rw[hx] at qK;cases qK;have e1:(au pr.body).getD i (.stop 0)=(au pr.body)[i]:=by rw[zap,zac li];rfl
  have e2:us.getD i .cH=x:=by rw[zap,hx];rfl
  rw[e1,e2] at hR;obtain⟨sa,ys,rfl,hs⟩:=kB _ rv;walk_at "";exact aq ((Fq.trans s2).aS hs) (v:=.int (au pr.body)[i].row) jV hR
 .have:=ybv zaQ ep;simp only[zab,zbJ] at this;lia
 clear AU;have ek:ps.map (fun q=>(q.2.1,q.2.2))=cP (au pr.body) us:=by
  rw[show (fun q:zdi×Key×V=>(q.2.1,q.2.2))=(·.2) from rfl,ep,qJ,Ir qJ]
 have nk:((cP (au pr.body) us).map (·.1)).Nodup:=by
  rw[nY _ _ qJ];exact Bs pw
 rw[ek,xo nk,show jK (zad "statements") (V.ref D8) [(zad "names",V.ref D1),(zad "sizes",V.ref D3),(zad "first",V.ref D6)]=[(zad "names",V.ref D1),(zad "sizes",V.ref D3),(zad "first",V.ref D6),(zad "statements",V.ref D8)] from rfl];generalize eM:upd H11 D8 (.dK (cP (au pr.body) us))=H12 at *;obtain⟨sM,d8⟩:=bX eM hD8;have B8:=(Fq.trans s11).trans sM;have aep:=B8 _ _ Gi;have n8:D8≠p:=b5 d8 aep (by intro z;cases z);generalize aeq:upd H12 p (.ins t.bh dx [(zad "names",V.ref D1),(zad "sizes",V.ref D3),(zad "first",V.ref D6),(zad "statements",V.ref D8)])=H13 at *;obtain⟨MH,Xe,k13⟩:=Kn aeq;have MH:=(aN.of B8).trans MH;have d8:=(k13 n8).trans d8;have d1:=MH _ _ n1 d1;have d3:=MH _ _ n3 d3;have d5:=MH _ _ n5 d5;have d6:=MH _ _ n6 d6;have r13:=qt Gi MH _ _ Yj;have MH:=u9.trans MH;have aer:=vo hp MH _ _ rp;walk_at "";simp only[GL,cJ];walk_at "";refine⟨_,pr,rfl,aer,hd,hf,fun l14 fv H14 Vk alo y14 r14=>?_⟩;obtain⟨ws,lws,hws⟩:=MG r14;have lfv:fv.length=(aP pr.body 0).length:=by rw[r14.length,zab]
 have lfl:(aP pr.body 0).length=(au pr.body).length:=by
  have h1:=ybv zaQ (gB pr.body 0);rw[zab] at h1;lia
 refine⟨l14,rfl,⟨_,.of y14⟩,fun D9 hD9=>wO (K:=K) (r:=[]) (fun i=>(.inl ((aP pr.body 0).getD i (0,.stop,[])).1,ws.getD i .cH)) (.of y14) (by lia) hD9 (fun i x H2 hx s2 R hR=>?_) (fun ps H15 s15 h15 LV ep=>⟨D9,ps,rfl,.of h15,fun q hq=>.of (LV q hq),?_,fun D10 aan=>⟨p,_,dx,_,rfl,ao.new aan _ _ _ (s15 _ _ (Vk _ _ Xe)),T.dH,T.iq,by simp,?_⟩⟩)⟩
 .have li:i<(aP pr.body 0).length:=by have:=(zaj.mp hx).1;lia
  obtain⟨a,qq,e1,e2,q1,q2⟩:=hws i li;rw[hx] at e1;cases e1;have g1:(aP pr.body 0).getD i (0,.stop,[])=(aP pr.body 0)[i]:=by rw[zap,zac li];rfl
  have g2:ws.getD i .cH=V.ref qq:=by rw[zap,e2];rfl
  rw[g1,g2] at hR;walk_at "";exact aq (s2.aS q1) (v:=.int (aP pr.body 0)[i].1) fP (aq (s2.aS q1) (v:=.ref qq) at2 hR)
 .have:=ybv zaQ ep;simp only[zab,zbJ] at this;lia
 have ek:ps.map (fun q=>(q.2.1,q.2.2))=zbR (fun r v=>(Sum.inl r.1,v)) (aP pr.body 0) ws:=by
  rw[show (fun q:zdi×Key×V=>(q.2.1,q.2.2))=(·.2) from rfl,ep,lfv,Fw lws]
 have nk:((zbR (fun r v=>((Sum.inl r.1:Key),v)) (aP pr.body 0) ws).map (·.1)).Nodup:=by
  rw[Iu lws];exact KD pw
 rw[ek,xo nk,show jK (zad "ways") (V.ref D10) [(zad "names",V.ref D1),(zad "sizes",V.ref D3),(zad "first",V.ref D6),(zad "statements",V.ref D8)]=[(zad "names",V.ref D1),(zad "sizes",V.ref D3),(zad "first",V.ref D6),(zad "statements",V.ref D8),(zad "ways",V.ref D10)] from rfl];generalize eO:upd H15 D10 (.dK (zbR (fun r v=>(Sum.inl r.1,v)) (aP pr.body 0) ws))=H16 at *;obtain⟨sO,d10⟩:=bX eO aan;have Vl:=s15.trans sO;have s16:=Vk.trans Vl;have Xf:=s16 _ _ Xe;have n10:D10≠p:=b5 d10 Xf (by intro z;cases z);have put:∀fs,aN (·=p) H16 (upd H16 p (.ins t.bh dx fs)):=fun fs=>aN.refl.put (O:=(·=p)) rfl _;have uE:=fun fs=>(aN.of s16).trans (put fs);have uA:=fun fs=>MH.trans (uE fs);refine q _ (fun b o n e=>uA _ b o n e) ⟨⟨dx,D1,D3,D6,D5,D8,D10,us,ws,ah,uA _ _ _ (b5 RD hp (by intro z;cases z)) RD,uE _ _ _ n1 d1,uE _ _ _ n3 d3,uE _ _ _ n6 d6,uE _ _ _ n5 d5,qJ,uE _ _ _ n8 d8,qt Xe (uE _) _ _ r13,lws,put _ _ _ n10 d10,fun i hi=>?_⟩⟩;obtain⟨a,qq,e1,e2,q1,q2⟩:=hws i hi;refine⟨qq,e2,?_⟩;have q2:=Vl.aS q2;rcases q2 with (q2 |⟨o,q2⟩) |q2
 .exact .inl (.inl (put _ _ _ (b5 q2 Xf (by intro z;cases z)) q2))
 .exact .inl (.inr ⟨o,put _ _ _ (b5 q2 Xf (by intro z;cases z)) q2⟩)
 .exact .inr q2
theorem RE(T:Tx K mg t)(pP:bq P w K mg base dF n t.vC t.qH ["e", "values"] (Zs K n)) :
 bq P w K mg base dF (n+1) t.vC t.qH ["e", "values"] (Zs K (n+1)):=by
 refine T.m7.F.okN Ie fun _ _ _ _ H vs Q E hr h=>?_;obtain⟨v,d,tr,kv,rfl,hv,hd,ok,ht,h6,q⟩:=h;have nd:=Ie.nd;have hu:=gc hr;refine⟨_,[some v,some (.ref d),none,none,none],(ag (fw 2 nd (iT 0))
 (ag (aW (az bB (pv 2) aV (aH _))
 (ak (aB (iT 0)))
 aG)
 (ag (aW (az bB (pv 2) aV (aH _))
 (ak (aB (iV hu (pv 1) (iT 0) (fun _ _=>rfl))))
 aG)
 (ag (fw 3 nd (cz pP T.m7 hr (aa (iT 0) (a8 1 ae) aA)))
 (ag (fw 4 nd (cz pP T.m7 hr (aa (iT 0) (a8 1 ae) aA)))
 (ag (aW (az bB (pv 2) aV (aH _))
 (ak (aB (aY fC (pv 3) (pv 4))))
 aG)
 (ag (aW (az bB (pv 2) aV (aH _))
 (ak (aB (aY tO (pv 3) (pv 4))))
 aG)
 (ak (aB (aY Ls (pv 3) (pv 4))))))))))),rfl,?_⟩
 have n1:¬("box":Str) = "number":=by decide +kernel
 cases tr with
 |num m=>
  unfold iD at hv;simp only[Rep.aJ,aC.av,aC.aO,Rep.aZ,Rep.bu] at hv;obtain⟨a,xs,rfl,hS,_,_,rfl,rfl,_,_,rfl,rfl,rfl⟩:=hv;walk_at "";refine aq hS rfl ?_;walk_at "";rw[ybr trivial];exact aq hS rfl (q _ (ao.refl _))
 |box x=>
  unfold iD at hv;simp only[Rep.aJ,aC.av,aC.aO,Rep.aZ,Rep.bu] at hv;obtain⟨a,xs,rfl,hS,_,_,rfl,rfl,_,_,rfl,rfl,rfl⟩:=hv;walk_at "";refine aq hS rfl ?_;walk_at "";rw[ybq n1,ybr trivial];obtain⟨i,e,_⟩:=ok;have q:=q _ (ao.refl _);rw[iw,JW e] at q;exact aq hS rfl ⟨d,.int i,rfl,xQ.s hd e,q⟩
 |bin o l r=>
  unfold iD at hv;simp only[Rep.aJ,aC.av,aC.aO,Rep.aZ,Rep.bu] at hv;obtain⟨a,xs,rfl,hS,_,_,rfl,rfl,vl,_,rfl,hl,vr,_,rfl,Z5,rfl⟩:=hv;obtain⟨ho,ol,or'⟩:=ok;have n2:¬S o = "number":=by rcases ho with rfl |rfl |rfl<;>decide +kernel
  have n3:¬S o = "box":=by rcases ho with rfl |rfl |rfl<;>decide +kernel
  have e1:(S o = "+")↔o=[43]:=by rw[show ("+":Str)=S [43] from rfl,xU]
  have e2:(S o = "-")↔o=[45]:=by rw[show ("-":Str)=S [45] from rfl,xU]
  walk_at "";refine aq hS rfl ?_;walk_at "";rw[ybq n2,ybq n3];have wl:=qv ol;have wr:=qv or';rw[dQ] at ht h6;refine aq hS rfl ⟨vl,d,l,kv,rfl,hl,hd,ol,by lia,by lia,fun H1 s1=>?_⟩;refine aq (s1.aS hS) rfl ⟨vr,d,r,kv,rfl,Z5.mono s1,s1 _ _ hd,or',by lia,by lia,fun H2 s2=>?_⟩;walk_at "";have q:=q _ (s1.trans s2);rw[iw] at q;refine dR (fun c=>?_) (fun c=>?_)
  .rw[ybr (e1.mp c)] at q;exact q
  rw[ybq (fun z=>c (e1.mpr z))] at q;refine dR (fun c=>?_) (fun c=>?_)
  .rw[ybr (e2.mp c)] at q;exact q
  rw[ybq (fun z=>c (e2.mpr z))] at q;exact⟨⟨EX wl (by lia),EX wr (by lia)⟩,q⟩
theorem Ak(T:Tx K mg t):∀n,bq P w K mg base dF n t.vC t.qH ["e", "values"] (Zs K n)
 |0=>by
  have no:∀vs H Q E,¬Zs K 0 vs H Q E:=fun vs H Q E h=>by cases h;lia
  exact⟨fun vs H Q E h=>ybw h (no vs H Q E),fun A outer s H args us vs Q E _ _ _ _ h=>ybw h (no vs H Q E)⟩
 |n+1=>RE T (Ak T n)
theorem AF(T:Tx K mg t):bq P w K mg base dF 1 t.rN t.oV ["chart", "parts"] (DJ K t.bh):=by
 refine T.oG.F.okN AA fun _ _ _ _ H vs Q E hr h=>?_;obtain⟨p,a,pr,us,rfl,co,ha,lu,nb,lb,q⟩:=h;have nd:=AA.nd;refine⟨_,[some (.ref p),some (.ref a)],(ak (aB (JV rfl rfl T.xi rfl T.Mw (aa (dY (pv 0) rfl) (a8 1 ae) oP)))),rfl,?_⟩;obtain⟨dx,nl,sd,fa,va,st,wy,uu,ws,h1,h2,h3,_⟩:=co.at_;walk_at "";simp only[tDZ];walk_at "";refine⟨p,_,dx,_,.ref nl,rfl,h1,T.dH,T.iP,rfl,?_⟩;refine⟨nl,a,pr.ar.map fun b=>.inr (S b.name),us,rfl,?_,ha,by rw[zab];exact lu,fun d hd=>?_⟩
 .rw[zaB];exact .of h3
 .rw[Bx,wM _ [] (by rw[zby,Aw _ _ lu];exact names_nodup nb),zby];exact q d _ (ao.new hd _) hd ah
theorem Iy(T:Tx K mg t):bq P w K mg base dF 1 t.rO t.oW ["chart", "named"] (DK K t.bh):=by
 refine T.rT.F.okN AB fun _ _ _ _ H vs Q E hr h=>?_;obtain⟨p,d,pr,kvs,us,rfl,co,hd,lu,hv,lb,q⟩:=h;have nd:=AB.nd;have hu:=gc hr;refine⟨_,[some (.ref p),some (.ref d)],(ak (aB (bH ig rfl T.pN ybG (aa (jN (own:=["name"]) (ix:=[1]) rfl (by rfl) (by rfl) (bt (dY (pv 0) rfl)) (fun _ _ _ _=>(oK 0 (by show List.Nodup (["name", "named"]:List Str);decide +kernel))) (fun _ _ _ _=>ei) (fun _ _ _ _=>(iV hu (pv 1) (pv 0) (fun _ _=>rfl)))) ae fK)))),rfl,?_⟩;obtain⟨dx,nl,sd,fa,va,st,wy,uu,ws,h1,h2,h3,_⟩:=co.at_;walk_at "";simp only[cJ];walk_at "";have ln:(pr.ar.map fun b=>V.str (S b.name)).length=pr.ar.length:=zab ..;refine⟨p,_,dx,_,.ref nl,rfl,h1,T.dH,T.iP,rfl,nl,rfl,⟨_,.of h3⟩,fun D hD=>?_⟩;refine qu (K:=K) (r:=[some (V.ref d)]) (fun i=>us.getD i .cH) (.of h3) (by rw[ln];lia) hD (fun i x H2 hx s2 R hR=>?_) (fun H2 s2 h2=>⟨D,_,rfl,.inl ⟨.of h2,fun l hl=>?_⟩⟩)
 .have li:i<pr.ar.length:=by have:=(zaj.mp hx).1;rw[ln] at this;exact this
  rw[zaf,zac li] at hx;cases hx;have g:=hv i li;have Ry:i<us.length:=by lia
  rw[zac Ry] at g;have e:us.getD i .cH=us[i]:=by rw[zap,zac Ry];rfl
  rw[e] at hR;walk_at "";exact⟨d,us[i],rfl,xQ.s (s2 _ _ hd) g,hR⟩
 .have e:(zaS (pr.ar.map fun b=>V.str (S b.name)).length).map (fun i=>us.getD i .cH)=us:=by
   rw[ln,<- lu];have:=nK (fun v:V=>v) V.cH us;rw[List.map_id'] at this;exact this
  rw[e];exact q l _ (s2.trans (ao.new hl _)) (.of ah)
theorem rZ(T:Tx K mg t):bq P w K mg base dF 1 t.vD t.rM ["chart", "row"] (G6 K t.bh):=by
 refine T.kJ.F.okN B1 fun _ _ _ _ H vs Q E hr h=>?_;obtain⟨p,pr,row,rfl,co,pw,q⟩:=h;have nd:=B1.nd;have hu:=gc hr;obtain⟨Rt,Ca,Cb⟩:=T.Fl;refine⟨_,[some (.ref p),some (.int row)],(ag (aW (az bB (pv 1) (mC rfl Ca Cb) (aH _))
 (ak (aB aV))
 aG)
 (ak (aB (bL gA (iV hu (dY (pv 0) rfl) (pv 1) (fun _ _=>rfl)) aw bI)))),rfl,?_⟩
 obtain⟨dx,nl,sd,fa,va,st,wy,uu,ws,h1,h2,h3,h4,h5,h6,h7,h8,h9,_⟩:=co.at_;walk_at "";rcases q with ⟨rfl,q⟩ |⟨n0,i,hi,er,q⟩
 .exact(ybr rfl).mpr q
 .refine(ybq n0).mpr ⟨p,_,dx,_,.ref st,rfl,h1,T.dH,T.cO,rfl,?_⟩;have li:i<uu.length:=by lia
  obtain⟨v,hv,rv⟩:=h9.get (i:=i) (d:=b3 (au pr.body)[i]) (by rw[zaf,zac hi];rfl);have g:=tX _ _ h7 pw i hi v hv;obtain⟨sa,ys,rfl,hs⟩:=kB _ rv;rw[er] at g;exact⟨st,.ref sa,rfl,.inl ⟨_,.inl row,.inl h8,rfl,g.symm⟩,aq hs (v:=.str (qj (au pr.body)[i].wd)) fP q⟩
theorem Iz(T:Tx K mg t):bq P w K mg base dF 4 t.Bb t.yP ["chart", "standing"] (LX K t.bh):=by
 have xp:=AF (P:=P) (w:=w) (base:=base) T;have pP:=Ak (P:=P) (w:=w) (base:=base) T 3;refine T.yQ.F.okN Ig fun _ _ _ _ H vs Q E hr h=>?_;obtain⟨p,sa,pr,vals,i,hi,sg,l,r,rfl,co,ok,⟨va,RC,KA⟩,lv,cp,tl,tr,q⟩:=h;have nd:=Ig.nd;have hu:=gc hr;refine⟨_,[some (.ref p),some (.ref sa),none,none,none,none],(ag (fw 2 nd (iV hu (dY (pv 0) rfl) (iT 1) (fun _ _=>rfl)))
 (ag (fw 3 nd (cz xp T.oG hr (a8 0 (aa (iT 1) ae aA))))
 (ag (fw 4 nd (cz pP T.m7 hr (aa (iT 2) (a8 3 ae) aA)))
 (ag (fw 5 nd (cz pP T.m7 hr (aa (iT 2) (a8 3 ae) aA)))
 (ag (aW (az bB (iT 2) aV (aH _))
 (ak (aB (gu xM (pv 4) (pv 5) (aH _))))
 aG)
 (ak (aB (gu bB (pv 4) (pv 5) (aH _))))))))),rfl,?_⟩
 obtain⟨dx,nl,sd,fa,wa,st,wy,uu,ws,h1,h2,h3,h4,h5,h6,h7,h8,h9,_⟩:=co.at_;have li:i<uu.length:=by lia
 obtain⟨v,hv,rv⟩:=h9.get (i:=i) (d:=b3 (au pr.body)[i]) (by rw[zaf,zac hi];rfl);have g:=tX _ _ h7 ok.pw i hi v hv;obtain⟨ta,w0,vl,vr,ys,rfl,hs,rl,rr⟩:=By rv cp;generalize (au pr.body)[i]=sm at *;have e1:(V.str (S sg)=V.str (zad "<"))↔sg=[60]:=by rw[show (zad "<":Str)=S [60] from rfl,V.str.injEq,xU]
 refine ai fun U1 cM=>?_;walk_at "";refine⟨p,_,dx,_,.ref st,rfl,h1,T.dH,T.cO,rfl,?_⟩;refine aq RC (v:=.int sm.row) fP ⟨st,.ref ta,rfl,.inl ⟨_,.inl sm.row,.inl h8,rfl,g.symm⟩,(cM _ _).mpr (ai fun U2 fh=>?_)⟩;clear cM;walk_at "";refine aq RC (v:=.ref va) jV ⟨p,va,pr,vals.map V.int,rfl,co,KA,by rw[zab];exact lv,ok.nb,ok.om,fun d H2 s2 hd2 y2=>(fh _ _).mpr (ai fun U3 gJ=>?_)⟩;clear fh;walk_at "";refine aq (s2.aS hs) (v:=vl) (aF (j:=3) rfl) ⟨vl,d,l,_,rfl,rl.mono s2,y2,tl.1,by have:=tl.2;lia,by have:=tl.2;lia,fun H3 s3=>(gJ _ _).mpr (ai fun U4 jI=>?_)⟩;clear gJ;walk_at "";refine aq ((s2.trans s3).aS hs) (v:=vr) (aF (j:=4) rfl) ⟨vr,d,r,_,rfl,rr.mono (s2.trans s3),s3 _ _ y2,tr.1,by have:=tr.2;lia,by have:=tr.2;lia,fun H4 s4=>(jI _ _).mpr ?_⟩;clear jI;have q:=q _ ((s2.trans s3).trans s4);unfold ju at q;walk_at "";refine aq (((s2.trans s3).trans s4).aS hs) (v:=.str (S sg)) at2 ⟨rfl,dR (fun e=>?_) (fun e=>?_)⟩
 .rw[ybr (e1.mp e)] at q;exact q
 .rw[ybq (fun z=>e (e1.mpr z))] at q;exact q
theorem vR(T:Tx K mg t):bq P w K mg base dF 5 t.gY t.gy ["chart", "standing"] (DM K t.bh):=by
 have Fx:=Iz (P:=P) (w:=w) (base:=base) T;have kL:=rZ (P:=P) (w:=w) (base:=base) T;refine T.gZ.F.okN mw fun _ _ _ _ H vs Q E hr h=>?_;obtain⟨p,sa,pr,vals,i,hi,hf,sg,l,r,rfl,co,ok,Al,lv,cp,tl,tr,w0,w1,q⟩:=h;have nd:=mw.nd;have hu:=gc hr;refine⟨_,[some (.ref p),some (.ref sa),none],(ag (fw 2 nd (iT 1))
 (ag (aW (tM (cz Fx T.yQ hr (a8 0 (a8 1 ae))))
 (ak (aB (aK (aa (bL gA (iV hu (dY (pv 0) rfl) (pv 2) (fun _ _=>rfl)) aw bI) (aa (iT 1) ae aA) aA))))
 aG)
 (ag (aW (az bB (cz kL T.kJ hr (a8 0 (a8 2 ae))) aV (aH _))
 (ak (aB cS))
 aG)
 (ak (aB (aK (aa (bL gA (iV hu (dY (pv 0) rfl) (pv 2) (fun _ _=>rfl)) aw bI) (aa (iT 1) ae aA) aA))))))),rfl,?_⟩
 obtain⟨va,RC,KA⟩:=id Al;have alv:=ok.pos _ (zam hi);refine ai fun U1 cM=>?_;walk_at "";refine aq RC (v:=.int (au pr.body)[i].row) fP ((cM _ _).mpr ?_);clear cM;walk_at "";refine⟨p,sa,pr,vals,i,hi,sg,l,r,rfl,co,ok,Al,lv,cp,tl,tr,fun H2 s2=>?_⟩;obtain⟨dx,fs,wy,wq,g1,g2,g3,g4⟩:=(co.mono s2).way ok i hi hf;have qq:∀(j:Nat) (x:Int),(aP pr.body 0)[i].2.2[j]?=some x->CF ((aP pr.body 0)[i].2.2.map V.int) (j:Int)=some (V.int x):=fun j x e=>aF (by rw[zaf,e];rfl);have back:∀(x:Int) (H3:Hp),ao H2 H3->∀pp,H3 pp=none->xX K (upd H3 pp (.tup [V.int x,V.ref va])) (some (x,vals)) (.ref pp):=fun x H3 s3 pp Gk=>⟨pp,rfl,va,.of ah,((s2.trans s3).trans (ao.new Gk _)).aS KA⟩
 unfold eU at q;rw[cp] at q;simp only at q;refine⟨_,rfl,dR (fun e=>?_) (fun e=>?_)⟩
 .rw[ybr e] at q;have e0:(aP pr.body 0)[i].2.2[0]?=some ((aP pr.body 0)[i].2.2.getD 0 0):=by rw[zap,zac w0];rfl
  refine⟨p,_,dx,fs,.ref wy,rfl,g1,T.dH,T.iq,g2,wy,.ref wq,rfl,g3,aq g4 (v:=.int ((aP pr.body 0)[i].2.2.getD 0 0)) (qq 0 _ e0) (aq (s2.aS RC) (v:=.ref va) jV fun pp Gk=>?_)⟩;exact q _ _ (s2.trans (ao.new Gk _)) (back _ _ (ao.refl _) pp Gk)
 .rw[ybq e] at q;refine⟨p,pr,_,rfl,co.mono s2,ok.pw,.inr ⟨by lia,i,hi,rfl,rfl,dR (fun e2=>?_) (fun e2=>?_)⟩⟩
  .have ew:(au pr.body)[i].wd=.bE:=(PB _).mp e2;rw[ybr ew] at q;exact q _ _ s2 rfl
  .have ew:(au pr.body)[i].wd≠.bE:=fun z=>e2 ((PB _).mpr z);rw[ybq ew] at q;have w1:=w1 ew;have e1:(aP pr.body 0)[i].2.2[1]?=some ((aP pr.body 0)[i].2.2.getD 1 0):=by rw[zap,zac w1];rfl
   refine⟨p,_,dx,fs,.ref wy,rfl,g1,T.dH,T.iq,g2,wy,.ref wq,rfl,g3,aq g4 (v:=.int ((aP pr.body 0)[i].2.2.getD 1 0)) (qq 1 _ e1) (aq (s2.aS RC) (v:=.ref va) jV fun pp Gk=>?_)⟩;exact q _ _ (s2.trans (ao.new Gk _)) (back _ _ (ao.refl _) pp Gk)
theorem MI:∀w:Wd,Sf (V.str (qj w)) [V.str (zad "must"),V.str (zad "if"),V.str (zad "while")]=decide (w=.bE\/w=.ifs\/w=.fM):=by
 intro w;cases w<;>decide +kernel
theorem Fy:∀w:Wd,(qj w=zad "ask")↔w=.ask:=by
 intro w;cases w<;>decide +kernel
theorem aao:∀w:Wd,(qj w=zad "put")↔w=.put:=by
 intro w;cases w<;>decide +kernel
theorem RF:∀w:Wd,(qj w=zad "say")↔w=.say:=by
 intro w;cases w<;>decide +kernel
theorem xX.mono(h:xX K H o v)(s:ao H H'):xX K H' o v:=by
 cases o with
 |none=>exact h
 |some x=>obtain⟨a,e,sa⟩:=h;exact⟨a,e,sa.mono s⟩
theorem cond_of(h:st.wd=.bE\/st.wd=.ifs\/st.wd=.fM)(po:Qb bs vals st):∃sg l r,oR st=some (sg,l,r)/\G7 bs vals l/\G7 bs vals r/\∀ws Sh,j8 bs st ws vals Sh=(eU bs st ws vals,none):=by
 cases st<;>simp only[aT.wd,reduceCtorEq,or_self,or_false,false_or] at h<;>exact⟨_,_,_,rfl,po.1,po.2,fun _ _=>rfl⟩
theorem RG{st:aT}(h:st.wd=.ask):∃k b,st=.ask k b:=by
 cases st<;>first |exact⟨_,_,rfl⟩ |cases h
theorem RH{st:aT}(h:st.wd=.put):∃k b e,st=.put k b e:=by
 cases st<;>first |exact⟨_,_,_,rfl⟩ |cases h
theorem KG{st:aT}(h:st.wd=.say):∃k e,st=.say k e:=by
 cases st<;>first |exact⟨_,_,rfl⟩ |cases h
theorem T9{st:aT}(h0:¬(st.wd=.bE\/st.wd=.ifs\/st.wd=.fM))(h1:st.wd≠.ask)(h2:st.wd≠.put)(h3:st.wd≠.say):∃k,st=.stop k:=by
 cases st<;>simp only[aT.wd,reduceCtorEq,or_self,or_false,false_or,not_true,not_false_iff,ne_eq] at h0 h1 h2 h3<;>exact⟨_,rfl⟩
theorem Eo{b:W}(h:Rep K H (b3 (.ask k b)) v):∃a,v=.ref a/\bG K H a [.str "ask",.int k,.str (S b)]:=by
 simp only[b3,Rep.aJ,aC.av,aC.aO,Rep.aZ,Rep.bu] at h;obtain⟨a,ys,rfl,hS,_,_,rfl,rfl,_,_,rfl,rfl,_,_,rfl,rfl,rfl⟩:=h;exact⟨a,rfl,hS⟩
theorem Ep{b:W}(h:Rep K H (b3 (.put k b e)) v):∃a u,v=.ref a/\bG K H a [.str "put",.int k,.str (S b),u]/\Rep K H (iD e) u:=by
 simp only[b3,Rep.aJ,aC.av,aC.aO,Rep.aZ,Rep.bu] at h;obtain⟨a,ys,rfl,hS,_,_,rfl,rfl,_,_,rfl,rfl,_,_,rfl,rfl,u,_,rfl,ru,rfl⟩:=h;exact⟨a,u,rfl,hS,ru⟩
theorem Er(h:Rep K H (b3 (.say k e)) v):∃a u,v=.ref a/\bG K H a [.str "say",.int k,u]/\Rep K H (iD e) u:=by
 simp only[b3,Rep.aJ,aC.av,aC.aO,Rep.aZ,Rep.bu] at h;obtain⟨a,ys,rfl,hS,_,_,rfl,rfl,_,_,rfl,rfl,u,_,rfl,ru,rfl⟩:=h;exact⟨a,u,rfl,hS,ru⟩
theorem ED(vals:List Int)(j:Nat)(x:Int):(vals.map V.int).set j (.int x)=(vals.set j x).map V.int:=by
 rw[zcQ]
theorem vK(bp:∀b∈bs,0<b.size)(x:W):0<cQ bs x:=by
 unfold cQ;cases e:bs[cG bs x]? with
 |none=>decide
 |some b=>exact bp b (zaC e)
theorem xq(T:Tx K mg t):bq P w K mg base dF 6 t.vE t.rP ["chart", "standing", "figure"] (G9 K t.bh):=by
 have xr:=vR (P:=P) (w:=w) (base:=base) T;have xp:=AF (P:=P) (w:=w) (base:=base) T;have KI:=Iy (P:=P) (w:=w) (base:=base) T;have pP:=Ak (P:=P) (w:=w) (base:=base) T 3;refine T.kK.F.okN B2 fun _ _ _ _ H vs Q E hr h=>?_;obtain⟨p,sa,fv,pr,vals,Sh,i,hi,hf,rfl,co,ok,bp,Al,lv,hfv,po,w0,w1,q⟩:=h;have nd:=B2.nd;have hu:=gc hr;refine⟨_,[some (.ref p),some (.ref sa),some fv,none,none,none,none,none],(ag (fw 3 nd (iT 1))
 (ag (fw 4 nd (iV hu (dY (pv 0) rfl) (pv 3) (fun _ _=>rfl)))
 (ag (fw 5 nd (iT 4))
 (ag (aW (az kz (pv 5) (aK (eQ (vs:=[.str "must",.str "if",.str "while"]) (by kernel_rfl))) rfl)
 (ak (aB (aK (aa (cz xr T.gZ hr (a8 0 (a8 1 ae))) (aa cS ae aE) bw))))
 aG)
 (ag (fw 6 nd (cz xp T.oG hr (a8 0 (aa (iT 1) ae aA))))
 (ag (fw 7 nd cS)
 (ag (aW (az bB (pv 5) aV (aH _))
 (ak (xR hu (pv 6) (iT 4) (aY nV (pv 2) (iV hu (dY (pv 0) rfl) (iT 4) (fun _ _=>rfl))) rfl))
 (ak (aW (az bB (pv 5) aV (aH _))
 (ak (xR hu (pv 6) (iT 4) (aY nV (cz pP T.m7 hr (aa (iT 4) (a8 6 ae) aA)) (iV hu (dY (pv 0) rfl) (iT 4) (fun _ _=>rfl))) rfl))
 (ak (aW (az bB (pv 5) aV (aH _))
 (ak (fw 7 nd (cz pP T.m7 hr (aa (iT 4) (a8 6 ae) aA))))
 aG)))))
 (ak (aB (aK (aa (aK (aa (bL gA (iV hu (dY (pv 0) rfl) (pv 3) (fun _ _=>rfl)) aw bI) (aa (cz KI T.rT hr (a8 0 (a8 6 ae))) ae bw) aA)) (a8 7 ae) dO))))))))))),rfl,?_⟩
 obtain⟨va,RC,KA⟩:=id Al;obtain⟨dx,nl,sd,fa,va',st,wy,uu,ws,h1,h2,h3,h4,h5,h6,h7,h8,h9,_⟩:=co.at_;have li:i<uu.length:=by lia
 obtain⟨v,hv,rv⟩:=h9.get (i:=i) (d:=b3 (au pr.body)[i]) (by rw[zaf,zac hi];rfl);have g:=tX _ _ h7 ok.pw i hi v hv;have sel:∃ta ds,v=.ref ta/\bG K H ta (.str (qj (au pr.body)[i].wd)::ds):=by
  generalize (au pr.body)[i]=sm at rv;cases sm<;>(rw[b3,Rep.aJ] at rv;obtain⟨ta,ys,rfl,hs,rs⟩:=rv;rw[aC.av] at rs;obtain⟨v0,t0,rfl,e0,rs⟩:=rs;rw[Rep.aZ] at e0;subst e0;exact⟨ta,_,rfl,hs⟩)
 obtain⟨ta,ds,rfl,hs⟩:=sel;refine ai fun U1 cM=>?_;walk_at "";refine aq RC (v:=.int (au pr.body)[i].row) fP ((cM _ _).mpr (ai fun U2 fh=>?_));clear cM;walk_at "";refine⟨p,_,dx,_,.ref st,rfl,h1,T.dH,T.cO,rfl,⟨st,.ref ta,rfl,.inl ⟨_,.inl _,.inl h8,rfl,g.symm⟩,(fh _ _).mpr (ai fun U3 gJ=>?_)⟩⟩;clear fh;walk_at "";refine aq hs (v:=.str (qj (au pr.body)[i].wd)) fP ((gJ _ _).mpr ?_);clear gJ;refine ai fun U4 jI=>?_;walk_at "";intro z hz;have sz:=ao.new hz (HO.tup [V.str (zad "must"),V.str (zad "if"),V.str (zad "while")]);refine⟨z,_,rfl,.inr (.of ah),rfl,rfl,_,rfl,dR (fun e=>?_) (fun e=>?_)⟩
 .have e:=e;simp only[zav,if_false,MI,decide_eq_true_eq] at e;obtain⟨sg,l,r,cp,tl,tr,es⟩:=cond_of e po;rw[es] at q;refine⟨p,sa,pr,vals,i,hi,hf,sg,l,r,rfl,co.mono sz,ok,Al.mono sz,lv,cp,tl,tr,w0,fun nm=>w1 (by rcases e with e |e |e;exact ybw e nm;exact .inl e;exact .inr e),fun v H2 s2 os pp Gk=>?_⟩;exact q pp v _ ((sz.trans s2).trans (ao.new Gk _)) (.of ah) (xX.mono os (ao.new Gk _))
 have e0:=e;simp only[zav,if_false,MI,decide_eq_true_eq] at e0;refine(jI _ _).mpr (ai fun U5 tj=>?_);clear jI e;walk_at "";refine aq (sz.aS RC) (v:=.ref va) jV ⟨p,va,pr,vals.map V.int,rfl,co.mono sz,sz.aS KA,by rw[zab];exact lv,ok.nb,ok.om,fun d H2 s2' hd2 y2=>(tj _ _).mpr (ai fun U6 AU=>?_)⟩;clear tj;have s2:=sz.trans s2';have hd:=sz.free hd2;walk_at "";refine(AU _ _).mpr (ai fun U7 Jg=>?_);clear AU;have fin:∀(H5:Hp) (kvs:List (Key×V)) (us:List Int) (sd:Option Int),ao H H5->H5 d=some (.dK kvs)->us.length=pr.ar.length->(∀i (hi:i<pr.ar.length),bZ kvs (.inr (S pr.ar[i].name))=(us.map V.int)[i]?)->
  j8 pr.ar (au pr.body)[i] (aP pr.body 0)[i].2.2 vals Sh=(some ((aP pr.body 0)[i].2.2.getD 0 0,us),sd)->
  U7 [some (.ref p),some (.ref sa),some fv,some (.int (au pr.body)[i].row),some (.ref ta),some (.str (qj (au pr.body)[i].wd)),some (.ref d),some (Qc sd)] H5:=by
  intro H5 kvs us sd' s5 hd5 lu look es;rw[es] at q;refine(Jg _ _).mpr ?_;clear Jg;walk_at "";obtain⟨dx,fs,wy,wq,g1,g2,g3,g4⟩:=(co.mono s5).way ok i hi hf;have e0:(aP pr.body 0)[i].2.2[0]?=some ((aP pr.body 0)[i].2.2.getD 0 0):=by rw[zap,zac w0];rfl
  have qq:CF ((aP pr.body 0)[i].2.2.map V.int) ((0:Nat):Int)=some (V.int ((aP pr.body 0)[i].2.2.getD 0 0)):=aF (by rw[zaf,e0];rfl);refine⟨p,_,dx,fs,.ref wy,rfl,g1,T.dH,T.iq,g2,wy,.ref wq,rfl,g3,aq g4 (v:=.int ((aP pr.body 0)[i].2.2.getD 0 0)) qq ?_⟩;refine⟨p,d,pr,kvs,us.map V.int,rfl,co.mono s5,hd5,by rw[zab];exact lu,look,ok.om,fun a H6 s6 sq p1 hp1 p2 qP=>?_⟩;exact q p2 _ _ (((s5.trans s6).trans (ao.new hp1 _)).trans (ao.new qP _)) (.of ah) ⟨p1,rfl,a,(ao.new qP _).aS (.of ah),((ao.new hp1 _).trans (ao.new qP _)).aS sq⟩
 have aap:(cL pr.ar (vals.map V.int)).length<zdq:=by
  have line:zdq=2 ^ 24:=rfl;have:=ok.om;unfold cL;rw[zcx];lia
 have keep:∀i (hi:i<pr.ar.length),bZ (cL pr.ar (vals.map V.int)) (.inr (S pr.ar[i].name))=(vals.map V.int)[i]?:=fun i hi=>by
  have li:i<(vals.map V.int).length:=by rw[zab];lia
  rw[nM pr.ar (vals.map V.int) (by rw[zab];exact lv) ok.nb i hi _ (zac li),zac li]
 have put:∀(b:W),b∈pr.ar.map (·.name)->∀(x:Int),(lH pr.ar vals b x).length=pr.ar.length/\∀i (hi:i<pr.ar.length),bZ (putK (cL pr.ar (vals.map V.int)) (.inr (S b)) (.int x)) (.inr (S pr.ar[i].name))=((lH pr.ar vals b x).map V.int)[i]?:=fun b hb x=>by
  refine⟨by unfold lH;rw[zcW];exact lv,fun i hi=>?_⟩;rw[JX (by rw[zab];exact lv) ok.nb hb,ED];rfl
 have Kn:∀H3 o,ao H H3->ao H (upd H3 d o):=fun H3 o s3=>((a9.of s3:a9 d H H3).put o).same hd;walk_at "";refine dR (fun e=>?_) (fun e=>?_)
 .obtain⟨k,b,Su⟩:=RG ((Fy _).mp e);have rv:=rv;rw[Su] at rv po;obtain⟨_,ee,hT⟩:=Eo rv;cases ee;have efv:=hfv ((Fy _).mp e);subst efv;obtain⟨l1,l2⟩:=put b po (Sh%cQ pr.ar b);refine⟨p,_,dx,_,.ref sd,rfl,s2 _ _ h1,T.dH,T.iQ,rfl,aq (s2.aS hT) (v:=.str (S b)) at2 ⟨sd,.int (cQ pr.ar b),rfl,.inl ⟨_,.inr (S b),.inl (s2 _ _ h4),rfl,(G8 ok.nb po).symm⟩,?_⟩⟩;refine⟨_,_,rfl,rfl,vK bp b,aq (s2.aS hT) (v:=.str (S b)) at2 ⟨d,_,rfl,.inl ⟨_,.inr (S b),y2,rfl,aap,rfl⟩,?_⟩⟩;exact fin _ _ _ none (Kn _ _ s2) ah l1 l2 (by rw[Su];rfl)
 refine dR (fun e2=>?_) (fun e2=>?_)
 .obtain⟨k,b,tr,Su⟩:=RH ((aao _).mp e2);have rv:=rv;rw[Su] at rv po;obtain⟨_,u,ee,hT,ru⟩:=Ep rv;cases ee;obtain⟨l1,l2⟩:=put b po.1 (wv pr.ar vals tr%cQ pr.ar b);refine aq (s2.aS hT) (v:=u) (aF (j:=3) rfl) ⟨u,d,tr,_,rfl,ru.mono s2,y2,po.2.1,by have:=po.2.2;lia,by have:=po.2.2;lia,fun H3 s3'=>?_⟩;have s3:=s2.trans s3';refine⟨p,_,dx,_,.ref sd,rfl,s3 _ _ h1,T.dH,T.iQ,rfl,aq (s3.aS hT) (v:=.str (S b)) at2 ⟨sd,.int (cQ pr.ar b),rfl,.inl ⟨_,.inr (S b),.inl (s3 _ _ h4),rfl,(G8 ok.nb po.1).symm⟩,?_⟩⟩;refine⟨_,_,rfl,rfl,vK bp b,aq (s3.aS hT) (v:=.str (S b)) at2 ⟨d,_,rfl,.inl ⟨_,.inr (S b),s3' _ _ y2,rfl,aap,rfl⟩,?_⟩⟩;exact fin _ _ _ none (Kn _ _ s3) ah l1 l2 (by rw[Su];rfl)
 refine dR (fun e3=>?_) (fun e3=>?_)
 .obtain⟨k,tr,Su⟩:=KG ((RF _).mp e3);have rv:=rv;rw[Su] at rv po;obtain⟨_,u,ee,hT,ru⟩:=Er rv;cases ee;refine aq (s2.aS hT) (v:=u) at2 ⟨u,d,tr,_,rfl,ru.mono s2,y2,po.1,by have:=po.2;lia,by have:=po.2;lia,fun H3 s3'=>?_⟩;exact fin _ _ _ (some _) (s2.trans s3') (s3' _ _ y2) lv keep (by rw[Su];rfl)
 obtain⟨k,Su⟩:=T9 e0 (fun z=>e ((Fy _).mpr z)) (fun z=>e2 ((aao _).mpr z)) (fun z=>e3 ((RF _).mpr z));exact fin _ _ _ none s2 y2 lv keep (by rw[Su];rfl)
theorem KJ(nb:(bs.map (·.name)).Nodup)(hb:b∈bs.map (·.name)):(bs.map fun b=>S b.name)[cG bs b]?=some (S b)/\∀m,m<cG bs b->(bs.map fun b=>S b.name)[m]?≠some (S b):=by
 obtain⟨hx,ex⟩:=jS hb;refine⟨by rw[zaf,zac hx];show some (S bs[cG bs b].name)=_;rw[ex],fun m hm e=>?_⟩;have lm:m<bs.length:=by lia
 rw[zaf,zac lm] at e;have e:=xU.mp (za1.inj e);have p1:=zbU.mp nb m (cG bs b) (by simpa using lm) (by simpa using hx) hm;rw[zbz,zbz] at p1;exact p1 (e.trans ex.symm)
theorem aar(T:Tx K mg t)(fW:bq P w K mg base dF n t.i5 t.ip ["e", "names", "values"] (QH K n)) :
 bq P w K mg base dF (n+1) t.i5 t.ip ["e", "names", "values"] (QH K (n+1)):=by
 refine T.eF.F.okN wm fun _ _ _ _ H vs Q E hr h=>?_;obtain⟨v,N,va,bs,vals,tr,rfl,hv,hN,KA,lv,nb,KL,ok,ht,h6,q⟩:=h;have nd:=wm.nd;refine⟨_,[some v,some (.ref N),some (.ref va),none,none],(ag (aW (az bB (iT 0) aV (aH _))
 (ak (aB (iT 0)))
 aG)
 (ag (aW (az bB (iT 0) aV (aH _))
 (ak (aB (bL gA (pv 2) (j7 zaA zcU zcV DN (pv 1) (aa (iT 0) ae aA)) iz)))
 aG)
 (ag (fw 3 nd (cz fW T.eF hr (aa (iT 0) (a8 1 (a8 2 ae)) aA)))
 (ag (fw 4 nd (cz fW T.eF hr (aa (iT 0) (a8 1 (a8 2 ae)) aA)))
 (ag (aW (az bB (iT 0) aV (aH _))
 (ak (aB (aY Ls (pv 3) (pv 4))))
 aG)
 (ak (aB (aY fC (pv 3) (aY tP (pv 4) (bL bU (aR (aa (Uv OA aw) (aa aw ae aE) Zf)) (bH gK rfl T.wF ybB (aa (gu bB (iT 0) aV (aH _)) ae pT)) iz)))))))))),rfl,?_⟩
 have n1:¬("box":Str) = "number":=by decide +kernel
 cases tr with
 |num m=>
  unfold iD at hv;simp only[Rep.aJ,aC.av,aC.aO,Rep.aZ,Rep.bu] at hv;obtain⟨a,xs,rfl,hS,_,_,rfl,rfl,_,_,rfl,rfl,rfl⟩:=hv;walk_at "";refine aq hS rfl ⟨rfl,?_⟩;rw[ybr rfl];exact aq hS rfl (q _ (ao.refl _))
 |box x=>
  unfold iD at hv;simp only[Rep.aJ,aC.av,aC.aO,Rep.aZ,Rep.bu] at hv;obtain⟨a,xs,rfl,hS,_,_,rfl,rfl,_,_,rfl,rfl,rfl⟩:=hv;have Sv:=KL x ok;obtain⟨hx,ex⟩:=jS Sv;obtain⟨ni,nn⟩:=KJ nb Sv;have lj:cG bs x<vals.length:=by lia
  have gv:(vals.map V.int)[cG bs x]?=some (V.int vals[cG bs x]):=by rw[zaf,zac lj];rfl
  have ew:wv bs vals (.box x)=vals[cG bs x]:=by
   have:=nM bs (vals.map V.int) (by rw[zab];exact lv) nb (cG bs x) hx _ gv;rw[ex] at this;unfold wv;rw[iw,JW this]
  rw[ew] at q;walk_at "";refine aq hS rfl ⟨rfl,?_⟩;rw[ybq (fun z=>n1 (V.str.inj z))];refine aq hS rfl ⟨rfl,?_⟩;rw[ybr rfl];refine⟨.inl ⟨rfl,_,.of hN⟩,aq hS rfl ⟨N,bs.map fun b=>S b.name,S x,cG bs x,rfl,rfl,by rw[zaB];exact hN,ni,nn,aq KA (aF gv) (q _ (ao.refl _))⟩⟩
 |bin o l r=>
  unfold iD at hv;simp only[Rep.aJ,aC.av,aC.aO,Rep.aZ,Rep.bu] at hv;obtain⟨a,xs,rfl,hS,_,_,rfl,rfl,vl,_,rfl,hl,vr,_,rfl,Z5,rfl⟩:=hv;obtain⟨ho,ol,or'⟩:=ok;have n2:¬S o = "number":=by rcases ho with rfl |rfl |rfl<;>decide +kernel
  have n3:¬S o = "box":=by rcases ho with rfl |rfl |rfl<;>decide +kernel
  have wl:=qv ol;have wr:=qv or';rw[dQ] at ht h6;walk_at "";refine aq hS rfl ⟨rfl,?_⟩;rw[ybq (fun z=>n2 (V.str.inj z))];refine aq hS rfl ⟨rfl,?_⟩;rw[ybq (fun z=>n3 (V.str.inj z))];refine aq hS rfl ⟨vl,N,va,bs,vals,l,rfl,hl,hN,KA,lv,nb,KL,ol,by lia,by lia,fun H1 s1=>?_⟩;refine aq (s1.aS hS) rfl ⟨vr,N,va,bs,vals,r,rfl,Z5.mono s1,s1 _ _ hN,s1.aS KA,lv,nb,KL,or',by lia,by lia,fun H2 s2=>?_⟩;have B8:=s1.trans s2;refine aq (B8.aS hS) rfl ⟨rfl,?_⟩;have q2:∀H',ao H2 H'->Q (.int (wv bs vals (.bin o l r))) H':=fun H' s'=>q H' (B8.trans s');have ew:wv bs vals (.bin o l r)=if o=[43] then wv bs vals l+wv bs vals r else if o=[45] then wv bs vals l-wv bs vals r else wv bs vals l*wv bs vals r:=by
   unfold wv;rw[iw]
  rw[ew] at q2;have ll:(wv bs vals l).natAbs<2 ^ 4000:=EX wl (by lia);have lr:(wv bs vals r).natAbs<2 ^ 4000:=EX wr (by lia);rcases ho with rfl |rfl |rfl
  .refine(ybq (by decide +kernel)).mpr ⟨1,rfl,fun p hp=>?_⟩;have sp:=ao.new hp (.lst [V.int (-1),V.int 1]);refine aq (sp.aS (B8.aS hS)) rfl ⟨rfl,_,rfl,?_⟩;rw[show decide (V.str (S [43])=V.str (zad "+"))=true by decide +kernel];refine aL (.of ah) jV ⟨_,_,rfl,rfl,mulR (by decide) (by decide),_,_,rfl,rfl,?_⟩;have:=q2 _ sp;rw[ybr rfl] at this;simp only[zcZ];exact this
  .refine(ybq (by decide +kernel)).mpr ⟨1,rfl,fun p hp=>?_⟩;have sp:=ao.new hp (.lst [V.int (-1),V.int 1]);refine aq (sp.aS (B8.aS hS)) rfl ⟨rfl,_,rfl,?_⟩;rw[show decide (V.str (S [45])=V.str (zad "+"))=false by decide +kernel];refine aL (.of ah) fP ⟨_,_,rfl,rfl,mulR (by decide) (by decide),_,_,rfl,rfl,?_⟩;have:=q2 _ sp;rw[ybq (by decide),ybr rfl,Int.sub_eq_add_neg] at this;simp only[Int.mul_neg,zcZ];exact this
  .refine(ybr (by decide +kernel)).mpr ⟨_,_,rfl,rfl,⟨ll,lr⟩,?_⟩;have:=q2 _ (ao.refl _);rw[ybq (by decide),ybq (by decide)] at this;exact this
theorem KN(T:Tx K mg t):∀n,bq P w K mg base dF n t.i5 t.ip ["e", "names", "values"] (QH K n)
 |0=>by
  have no:∀vs H Q E,¬QH K 0 vs H Q E:=fun vs H Q E h=>by cases h;lia
  exact⟨fun vs H Q E h=>ybw h (no vs H Q E),fun A outer s H args us vs Q E _ _ _ _ h=>ybw h (no vs H Q E)⟩
 |n+1=>aar T (KN T n)
theorem KO(e:H a=some (.dK kvs))(h:bZ kvs (.inl n)=some v):xQ H a (.int n) (some v):=by
 have:=xQ.k (k:=.inl n) e;rw[h] at this;exact this
theorem RI(m:zV K H md pr)(dr:fO pr)(hi:i<(au pr.body).length)(hf:i<(aP pr.body 0).length):∃(F N Z fa:zdi)(kvs:List (Key×V))(p wl:zdi)(u:V),H md=some (.lst [.ref F,.ref N,.ref Z,.ref fa])/\H F=some (.dK kvs)/\bZ kvs (.inl (au pr.body)[i].row)=some (.ref p)/\bG K H p [u,.ref wl]/\Rep K H (b3 (au pr.body)[i]) u/\H wl=some (.lst ((aP pr.body 0)[i].2.2.map V.int))/\H N=some (.lst (pr.ar.map fun b=>V.str (S b.name)))/\H Z=some (.lst (pr.ar.map fun b=>V.int b.size)):=by
 obtain⟨F,N,Z,fa,ps,h1,h2,h3,h4,h5,h6,h7⟩:=m.at_;obtain⟨p,u,wl,g1,g2,g3,g4⟩:=h4 i _ _ (zac hi) (zac hf);exact⟨F,N,Z,fa,_,p,wl,u,h1,h3,tX _ ps h2 dr.ok.pw i hi _ g1,g2,g3,g4,h5,h6⟩
theorem FA(T:Tx K mg t):bq P w K mg base dF 1 t.pE t.mY ["made", "standing"] (Mg K):=by
 refine T.pL.F.okN yK fun _ _ _ _ H vs Q E hr h=>?_;obtain⟨md,sa,pr,⟨row,vals⟩,rfl,m,dr,Al,si,q0,q1⟩:=h;have nd:=yK.nd;have hu:=gc hr;refine⟨_,[some (.ref md),some (.ref sa)],(ag (aW (az bB (iT 1) aw (aH _))
 (ak (aB aV))
 aG)
 (ak (aB (bL gA (bL gA (iV hu (iL 0) (iT 1) (fun _ _=>rfl)) aw bI) aw bI)))),rfl,?_⟩
 obtain⟨va,qX,xE⟩:=id Al;refine ai fun U1 cM=>?_;walk_at "";refine aq qX (v:=.int row) fP ⟨rfl,?_⟩;rcases si.ok.row with h0 |⟨i,hi,er⟩
 .replace h0:row=0:=h0;subst h0;exact(ybr rfl).mpr (q0 rfl)
 replace er:(au pr.body)[i].row=row:=er;subst er;have MJ:(au pr.body)[i].row≠0:=by have:=dr.ok.pos _ (zam hi);lia
 obtain⟨hf,ek,ew⟩:=jh pr.body i hi;obtain⟨F,N,Z,fa,kvs,p,wl,u,h1,h2,h3,h4,h5,h6,h7,h8⟩:=RI m dr hi hf;refine(ybq (fun z=>MJ (V.int.inj z))).mpr ((cM _ _).mpr ?_);walk_at "";obtain⟨ta,ys,rfl,MK⟩:=GW _ h5;exact aL (.of h1) fP (aq qX (v:=.int (au pr.body)[i].row) fP ⟨F,.ref p,rfl,KO h2 h3,aq h4 fP (aq MK fP (q1 i hi rfl))⟩)
theorem aas{nm:W->Prop}(h:LH nm ex (·∈AO) st)(c:oR st=some (sg,l,r)):sg=[60]\/sg=[61]:=by
 cases st<;>simp only[oR,za1.injEq,Prod.mk.injEq,reduceCtorEq] at c<;>obtain⟨rfl,_⟩:=c<;>simpa[AO] using h.1
theorem CS(T:Tx K mg t):bq P w K mg base dF 5 t.mX t.kW ["made", "standing"] (HD K):=by
 have fW:=KN (P:=P) (w:=w) (base:=base) T 3;refine T.ng.F.okN wu fun _ _ _ _ H vs Q E hr h=>?_;obtain⟨md,sa,pr,vals,i,hi,sg,l,r,rfl,m,dr,Al,si,cp,q⟩:=h;have nd:=wu.nd;have hu:=gc hr;refine⟨_,[some (.ref md),some (.ref sa),none,none],(ag (fw 2 nd (bL gA (iV hu (iL 0) (iT 1) (fun _ _=>rfl)) aw bI))
 (ag (fw 3 nd (aY tO (cz fW T.eF hr (aa (iT 2) (aa (iL 0) (aa (iT 1) ae aA) aA) aA)) (cz fW T.eF hr (aa (iT 2) (aa (iL 0) (aa (iT 1) ae aA) aA) aA))))
 (ak (aB (bL bU (aR (aa (gu Lh (pv 3) aw (aH _)) (aa (gu bB (pv 3) aw (aH _)) ae pT) pT)) (bH gK rfl T.wF ybB (aa (gu bB (iT 2) aV (aH _)) ae pT)) iz))))),rfl,?_⟩
 obtain⟨va,qX,xE⟩:=id Al;obtain⟨hf,ek,ew⟩:=jh pr.body i hi;obtain⟨F,N,Z,fa,kvs,p,wl,u,h1,h2,h3,h4,h5,h6,h7,h8⟩:=RI m dr hi hf;have Wl:=iA pr.body _ dr.own (zam hi);obtain⟨po,so⟩:=zJ si.ok.len dr.ok.nb si.ok.small Wl;have hsg:=aas Wl cp;have KL:∀x,Jd (cL pr.ar (vals.map V.int)) (.box x)->x∈pr.ar.map (·.name):=fun x ⟨_,e,_⟩=>QI e;have Yk:G7 pr.ar vals l/\G7 pr.ar vals r:=by
  obtain⟨sg',l',r',cp',tl,tr,_⟩:=cond_of (st:=(au pr.body)[i]) (by
   generalize (au pr.body)[i]=sm at cp;cases sm<;>first |exact .inl rfl |exact .inr (.inl rfl) |exact .inr (.inr rfl) |cases cp) po
  rw[cp] at cp';cases cp';exact⟨tl,tr⟩
 obtain⟨ta,w0,vl,vr,ys,rfl,MK,rl,rr⟩:=By h5 cp;refine ai fun U1 cM=>?_;walk_at "";refine aL (.of h1) fP (aq qX (v:=.int (au pr.body)[i].row) fP ⟨F,.ref p,rfl,KO h2 h3,aq h4 fP ((cM _ _).mpr (ai fun U2 fh=>?_))⟩);clear cM;walk_at "";refine aq MK (aF (j:=4) rfl) (aL (.of h1) jV (aq qX (v:=.ref va) jV ⟨vr,N,va,pr.ar,vals,r,rfl,rr,h7,xE,si.ok.len,dr.ok.nb,KL,Yk.2.1,by have:=Yk.2.2;lia,Yk.2.2,fun H1 s1=>?_⟩));refine aq (s1.aS MK) (aF (j:=3) rfl) (aL (.of (s1 _ _ h1)) jV (aq (s1.aS qX) (v:=.ref va) jV ⟨vl,N,va,pr.ar,vals,l,rfl,rl.mono s1,s1 _ _ h7,s1.aS xE,si.ok.len,dr.ok.nb,KL,Yk.1.1,by have:=Yk.1.2;lia,Yk.1.2,fun H2 s2=>?_⟩));have B8:=s1.trans s2;refine⟨_,_,rfl,rfl,(fh _ _).mpr ?_⟩;clear fh;walk_at "";intro p2 qP;have sp:=ao.new qP (.lst [V.bl (decide (0<wv pr.ar vals r-wv pr.ar vals l)),V.bl (decide (wv pr.ar vals r-wv pr.ar vals l=0))]);have q2:=q _ (B8.trans sp);refine aq (sp.aS (B8.aS MK)) at2 ⟨rfl,_,rfl,?_⟩;rcases hsg with rfl |rfl
 .rw[show decide (V.str (S [60])=V.str (zad "="))=false by decide +kernel];refine aL (.of ah) fP ?_;rw[show ju [60] (wv pr.ar vals l) (wv pr.ar vals r)=decide (0<wv pr.ar vals r-wv pr.ar vals l) by
   unfold ju;rw[ybr rfl];exact decide_eq_decide.mpr ⟨fun h=>by lia,fun h=>by lia⟩] at q2
  exact q2
 .rw[show decide (V.str (S [61])=V.str (zad "="))=true by decide +kernel];refine aL (.of ah) jV ?_;rw[show ju [61] (wv pr.ar vals l) (wv pr.ar vals r)=decide (wv pr.ar vals r-wv pr.ar vals l=0) by
   unfold ju;rw[ybq (by decide)];exact decide_eq_decide.mpr ⟨fun h=>by lia,fun h=>by lia⟩] at q2
  exact q2
theorem aat:∀w:Wd,Sf (V.str (qj w)) [V.str (zad "ask"),V.str (zad "put")]=decide (w=.ask\/w=.put):=by
 intro w;cases w<;>decide +kernel
theorem Xg:∀w:Wd,(qj w=zad "stop")↔w=.stop:=by
 intro w;cases w<;>decide +kernel
theorem Xh:∀w:Wd,(qj w=zad "must")↔w=.bE:=by
 intro w;cases w<;>decide +kernel
theorem zc(T:Tx K mg t):bq P w K mg base dF 6 t.pF t.mZ ["made", "standing", "figure"] (Q2 K):=by
 have fW:=KN (P:=P) (w:=w) (base:=base) T 3;have FC:=CS (P:=P) (w:=w) (base:=base) T;refine T.jH.F.okN yM fun _ _ _ _ H vs Q E hr h=>?_;obtain⟨md,sa,fv,f,pr,⟨row,vals⟩,rfl,m,dr,Al,si,h0,hfa,q⟩:=h;have nd:=yM.nd;have hu:=gc hr;refine⟨_,[some (.ref md),some (.ref sa),some fv,none,none,none,none,none],(ag (gQ (iV hu (iL 0) (iT 1) (fun _ _=>rfl)) (zl rfl (cV (oK 3 nd) (cV (oK 4 nd) mD))))
 (ag (fw 5 nd (bH mH rfl T.uU ybE (aa (iT 1) ae aA)))
 (ag (aW (az kz (iT 3) (aR (eQ (vs:=[.str "ask",.str "put"]) (by kernel_rfl))) rfl)
 (ag (fw 6 nd (j7 zaA zcU zcV DN (iL 0) (aa (iT 3) ae aA)))
 (ag (fw 7 nd (pv 2))
 (ag (aW (az bB (iT 3) aV (aH _))
 (ak (fw 7 nd (cz fW T.eF hr (aa (iT 3) (aa (iL 0) (aa (iT 1) ae aA) aA) aA))))
 aG)
 (ag (gQ (aY nV (pv 7) (bL bU (iL 0) (pv 6) jr)) (l9 (pv 5) (pv 6) set_list))
 (ak (aB (aR (aa (aK (aa (iL 4) (aa (bH ig rfl T.pN ybG (a8 5 ae)) ae bw) aA)) (aa cS ae aE) dO))))))))
 aG)
 (ag (aW (az bB (iT 3) aV (aH _))
 (ak (aB (aR (aa (aK (aa (iL 4) (aa (iT 1) ae aA) aA)) (aa (cz fW T.eF hr (aa (iT 3) (aa (iL 0) (aa (iT 1) ae aA) aA) aA)) ae bw) dO))))
 aG)
 (ag (aW (PW.pt (pw_or (az bB (iT 3) aV (aH _)) (pw_or1 (tM (cz FC T.ng hr (a8 0 (a8 1 ae)))))))
 (ak (aB (aR (aa (aK (aa (iL 4) (aa (iT 1) ae aA) aA)) (aa cS ae aE) dO))))
 aG)
 (ag (aW (az bB (iT 3) aV (aH _))
 (ak (aB (aR (eQ (vs:=[.cH,.cH]) (by kernel_rfl)))))
 aG)
 (ak (aB (aR (aa (aK (aa (iL 4) (aa (iT 1) ae aA) aA)) (aa cS ae aE) dO)))))))))),rfl,?_⟩
 obtain⟨va,qX,xE⟩:=id Al;obtain⟨i,hi,er⟩:=si.ok.row.resolve_left h0;replace er:(au pr.body)[i].row=row:=er;subst er;obtain⟨hf,ek,ew⟩:=jh pr.body i hi;obtain⟨w0,w1⟩:=iW pr.body 0 _ (zam hf);rw[ew] at w1;obtain⟨F,N,Z,fa,kvs,p,wl,u,h1,h2,h3,h4,h5,h6,h7,h8⟩:=RI m dr hi hf;have Wl:=iA pr.body _ dr.own (zam hi);obtain⟨po,so⟩:=zJ si.ok.len dr.ok.nb si.ok.small Wl;have KL:∀x,Jd (cL pr.ar (vals.map V.int)) (.box x)->x∈pr.ar.map (·.name):=fun x ⟨_,e,_⟩=>QI e;have bp:∀b∈pr.ar,0<b.size:=fun b hb=>by have:=dr.size b hb;lia
 have ea:mJ pr.body (au pr.body)[i].row=decide ((au pr.body)[i].wd=.ask):=by unfold mJ;rw[qW dr.ok.pw i hi]
 simp only[x5 dr.ok hi hf] at q;obtain⟨ta,ys,rfl,MK⟩:=GW _ h5;have hv:jJ K H wl ((aP pr.body 0)[i].2.2.map V.int):=.of h6;have Vm:=si.ok.len;obtain⟨ws,ews⟩:∃ws,(aP pr.body 0)[i].2.2=ws:=⟨_,rfl⟩
 rw[ews] at q h6 hv w0 w1;have i0:(ws.map V.int)[0]?=some (V.int (ws.getD 0 0)):=by
  rw[zaf,zap,zac w0];rfl
 refine ai fun U1 cM=>?_;walk_at "";refine aL (.of h1) fP (aq qX (v:=.int (au pr.body)[i].row) fP ⟨F,.ref p,rfl,KO h2 h3,p,_,rfl,h4,rfl,_,_,rfl,_,_,rfl,rfl,(cM _ _).mpr (ai fun U2 fh=>?_)⟩);clear cM;simp only[zba];walk_at "";refine aq qX (v:=.ref va) jV ⟨va,_,rfl,.inr xE,fun L hL=>(fh _ _).mpr (ai fun U3 gJ=>?_)⟩;clear fh;generalize nG:upd H L (.lst (vals.map V.int))=H1 at *;obtain⟨sL,yL⟩:=bX nG hL;have stm:=Al.mono sL;have mm:=m.mono sL;have way:∀(k:Int) (sd:V) (Hx:Hp) (pt:zdi),ao H Hx->Hx pt=none->(∀l sv H',ao H H'->H' l=some (.lst [sv,sd])->xX K H' (some (k,vals)) sv->Q (.ref l) H')->∀(l:zdi),(upd Hx pt (.tup [V.int k,V.ref va])) l=none->Q (.ref l) (upd (upd Hx pt (.tup [V.int k,V.ref va])) l (.lst [V.ref pt,sd])):=by
  intro k sd Hx pt sx hpt q l hl;have s1:=ao.new hpt (.tup [V.int k,V.ref va]);have s2:=ao.new hl (.lst [V.ref pt,sd]);exact q l (.ref pt) _ (sx.trans (s1.trans s2)) ah ⟨pt,rfl,va,.of (s2 _ _ ah),(sx.trans (s1.trans s2)).aS xE⟩
 have aau:=sL.aS MK;walk_at "";refine aq aau fP fun pz hpz=>⟨pz,_,rfl,.inl (.of ah),rfl,rfl,_,rfl,?_⟩
 generalize Ae:upd H1 pz (.lst [V.str (zad "ask"),V.str (zad "put")])=Hz at *;have sz:=(bX Ae hpz).1;have Cz:=sL.trans sz;have yLz:=sz _ _ yL;rw[aat];by_cases na:(au pr.body)[i].wd=.ask
 .refine(ybr (ybs (.inl na))).mpr ?_;have hff:fv=.int f:=by
   rcases hfa with ⟨z,_⟩ |⟨_,z⟩
   .have z:mJ pr.body (au pr.body)[i].row=false:=z;rw[ea,ybs na] at z;cases z
   .exact z
  subst hff;obtain⟨k,b,es⟩:=RG na;rw[es] at h5 q po;obtain⟨_,ee,hT⟩:=Eo h5;cases ee;have Yl:=Cz.aS hT;obtain⟨hx,ex⟩:=jS po;obtain⟨ni,nn⟩:=KJ dr.ok.nb po;have lj:cG pr.ar b<vals.length:=by lia
  have szv:(pr.ar.map fun b=>V.int b.size)[cG pr.ar b]?=some (V.int (cQ pr.ar b)):=by
   unfold cQ;rw[zaf,zac hx];rfl
  have h1z:=Cz _ _ h1;refine aL (.of h1z) jV ⟨.inl ⟨rfl,_,.of (Cz _ _ h7)⟩,aq Yl at2 ⟨N,pr.ar.map fun b=>S b.name,S b,cG pr.ar b,rfl,rfl,by rw[zaB];exact Cz _ _ h7,ni,nn,aq Yl fP ⟨rfl,(ybq (by intro z;exact ybw (V.str.inj z) (by decide +kernel))).mpr ?_⟩⟩⟩;refine aL (.of h1z) at2 (aL (.of (Cz _ _ h8)) (aF szv) ⟨_,_,rfl,rfl,vK bp b,L,_,cG pr.ar b,cG pr.ar b,rfl,rfl,yLz,(by unfold Se;rw[zab];simp;lia),?_⟩);rw[show ((vals.map V.int).set (cG pr.ar b) (V.int (f%cQ pr.ar b)))=(lH pr.ar vals b (f%cQ pr.ar b)).map V.int from by unfold lH;rw[zcQ]];have u5:a9 L Hz (upd Hz L (.lst ((lH pr.ar vals b (f%cQ pr.ar b)).map V.int))):=(a9.refl _ _).put _;have y5:(upd Hz L (.lst ((lH pr.ar vals b (f%cQ pr.ar b)).map V.int))) L=_:=ah;have NP:ao H (upd Hz L (.lst ((lH pr.ar vals b (f%cQ pr.ar b)).map V.int))):=fun z o e=>u5 z o (aj e hL) (Cz z o e);generalize upd Hz L (.lst ((lH pr.ar vals b (f%cQ pr.ar b)).map V.int))=H5 at *;refine aL (.of (NP _ _ h6)) (aF i0) ⟨L,_,rfl,.inl ⟨.of y5,fun t1 ht1 t2 ht2 l3 KC=>?_⟩⟩;have s6:=ao.new ht1 (.tup ((lH pr.ar vals b (f%cQ pr.ar b)).map V.int));have s7:=ao.new ht2 (.tup [V.int (ws.getD 0 0),V.ref t1]);have s8:=ao.new KC (.lst [V.ref t2,V.cH]);exact q l3 (.ref t2) _ (NP.trans (s6.trans (s7.trans s8))) ah ⟨t2,rfl,t1,.of (s8 _ _ ah),.of (s8 _ _ (s7 _ _ ah))⟩
 by_cases hp:(au pr.body)[i].wd=.put
 .refine(ybr (ybs (.inr hp))).mpr ?_;obtain⟨k,b,tr,es⟩:=RH hp;rw[es] at h5 q po;obtain⟨_,u,ee,hT,ru⟩:=Ep h5;cases ee;have Yl:=Cz.aS hT;obtain⟨hx,ex⟩:=jS po.1;obtain⟨ni,nn⟩:=KJ dr.ok.nb po.1;have lj:cG pr.ar b<vals.length:=by lia
  have szv:(pr.ar.map fun b=>V.int b.size)[cG pr.ar b]?=some (V.int (cQ pr.ar b)):=by
   unfold cQ;rw[zaf,zac hx];rfl
  have h1z:=Cz _ _ h1;refine aL (.of h1z) jV ⟨.inl ⟨rfl,_,.of (Cz _ _ h7)⟩,aq Yl at2 ⟨N,pr.ar.map fun b=>S b.name,S b,cG pr.ar b,rfl,rfl,by rw[zaB];exact Cz _ _ h7,ni,nn,aq Yl fP ⟨rfl,(ybr rfl).mpr (aq Yl (aF (j:=3) rfl) (aL (.of h1z) jV (aq (Cz.aS qX) (v:=.ref va) jV ⟨u,N,va,pr.ar,vals,tr,rfl,ru.mono Cz,Cz _ _ h7,Cz.aS xE,Vm,dr.ok.nb,KL,po.2.1,by have:=po.2.2;lia,po.2.2,fun H4 s4=>?_⟩)))⟩⟩⟩;have uX:=Cz.trans s4;refine aL (.of (uX _ _ h1)) at2 (aL (.of (uX _ _ h8)) (aF szv) ⟨_,_,rfl,rfl,vK bp b,L,_,cG pr.ar b,cG pr.ar b,rfl,rfl,s4 _ _ yLz,(by unfold Se;rw[zab];simp;lia),?_⟩);rw[show ((vals.map V.int).set (cG pr.ar b) (V.int (wv pr.ar vals tr%cQ pr.ar b)))=(lH pr.ar vals b (wv pr.ar vals tr%cQ pr.ar b)).map V.int from by unfold lH;rw[zcQ]];have u5:a9 L H4 (upd H4 L (.lst ((lH pr.ar vals b (wv pr.ar vals tr%cQ pr.ar b)).map V.int))):=(a9.refl _ _).put _;have y5:(upd H4 L (.lst ((lH pr.ar vals b (wv pr.ar vals tr%cQ pr.ar b)).map V.int))) L=_:=ah;have NP:ao H (upd H4 L (.lst ((lH pr.ar vals b (wv pr.ar vals tr%cQ pr.ar b)).map V.int))):=fun z o e=>u5 z o (aj e hL) (uX z o e);generalize upd H4 L (.lst ((lH pr.ar vals b (wv pr.ar vals tr%cQ pr.ar b)).map V.int))=H5 at *;refine aL (.of (NP _ _ h6)) (aF i0) ⟨L,_,rfl,.inl ⟨.of y5,fun t1 ht1 t2 ht2 l3 KC=>?_⟩⟩;have s6:=ao.new ht1 (.tup ((lH pr.ar vals b (wv pr.ar vals tr%cQ pr.ar b)).map V.int));have s7:=ao.new ht2 (.tup [V.int (ws.getD 0 0),V.ref t1]);have s8:=ao.new KC (.lst [V.ref t2,V.cH]);exact q l3 (.ref t2) _ (NP.trans (s6.trans (s7.trans s8))) ah ⟨t2,rfl,t1,.of (s8 _ _ ah),.of (s8 _ _ (s7 _ _ ah))⟩
 refine(ybq (by rw[ybt (fun z=>z.elim na hp)];exact zag)).mpr ((gJ _ _).mpr (ai fun U4 jI=>?_));clear gJ;have htz:=sz.aS aau;walk_at "";refine aq htz fP ⟨rfl,?_⟩;by_cases hs:(au pr.body)[i].wd=.say
 .refine(ybr (by rw[hs];rfl)).mpr ?_;obtain⟨k,e,es⟩:=KG hs;rw[es] at h5 q po;obtain⟨_,u,ee,hT,ru⟩:=Er h5;cases ee;refine aL (.of (Cz _ _ h6)) (aF i0) (aq (Cz.aS qX) (v:=.ref va) jV fun p4 RJ=>?_);generalize NJ:upd Hz p4 (.tup [V.int (ws.getD 0 0),V.ref va])=H4 at *;obtain⟨s4,y4⟩:=bX NJ RJ;have uX:=Cz.trans s4;refine aq (uX.aS hT) at2 (aL (.of (uX _ _ h1)) jV (aq (uX.aS qX) (v:=.ref va) jV ⟨u,N,va,pr.ar,vals,e,rfl,ru.mono uX,uX _ _ h7,uX.aS xE,Vm,dr.ok.nb,KL,po.1,by have:=po.2;lia,po.2,fun H5 s5 l6 hl6=>?_⟩));have s6:=ao.new hl6 (.lst [V.ref p4,V.int (wv pr.ar vals e)]);exact q l6 (.ref p4) _ (uX.trans (s5.trans s6)) ah ⟨p4,rfl,va,.of ((s5.trans s6) _ _ y4),(uX.trans (s5.trans s6)).aS xE⟩
 refine(ybq (fun z=>hs ((RF _).mp (V.str.inj z)))).mpr ((jI _ _).mpr (ai fun U5 tj=>?_));clear jI;walk_at "";refine aq htz fP ⟨rfl,?_⟩;have aey:=Cz.aS qX;by_cases ht:(au pr.body)[i].wd=.stop
 .refine(ybr (by rw[ht];rfl)).mpr ((ybr trivial).mpr (aL (.of (Cz _ _ h6)) (aF i0) (aq aey (v:=.ref va) jV fun p4 RJ l5 Gn=>?_)));obtain⟨k,es⟩:∃k,(au pr.body)[i]=.stop k:=by
   generalize (au pr.body)[i]=sm at ht;cases sm<;>first |exact⟨_,rfl⟩ |cases ht
  rw[es] at q;exact way _ V.cH Hz p4 Cz RJ q l5 Gn
 have hc3:(au pr.body)[i].wd=.bE\/(au pr.body)[i].wd=.ifs\/(au pr.body)[i].wd=.fM:=by
  generalize (au pr.body)[i]=sm at na hp hs ht;cases sm<;>first |exact ybw rfl na |exact ybw rfl hp |exact ybw rfl hs |exact ybw rfl ht |exact .inl rfl |exact .inr (.inl rfl) |exact .inr (.inr rfl)
 obtain⟨sg,l,r,cp,tl,tr,es⟩:=cond_of hc3 po;rw[es] at q;unfold eU at q;simp only[cp] at q;refine(ybq (fun z=>ht ((Xg _).mp (V.str.inj z)))).mpr ⟨md,sa,pr,vals,i,hi,sg,l,r,rfl,mm.mono sz,dr,stm.mono sz,si,cp,fun H4 s4=>⟨_,rfl,?_⟩⟩;have uX:=Cz.trans s4;cases Cu:ju sg (wv pr.ar vals l) (wv pr.ar vals r) with
 |true=>
  rw[Cu,ybr rfl] at q;exact(ybr rfl).mpr (aL (.of (uX _ _ h6)) (aF i0) (aq (uX.aS qX) (v:=.ref va) jV fun p4 RJ l5 Gn=>way _ V.cH H4 p4 uX RJ q l5 Gn))
 |false=>
  rw[Cu,ybq zag] at q;refine(ybq zag).mpr ((tj _ _).mpr (ai fun U6 AU=>?_));clear tj;walk_at "";refine aq (s4.aS htz) fP ⟨rfl,?_⟩;by_cases hm:(au pr.body)[i].wd=.bE
  .rw[ybr hm] at q;refine(ybr (by rw[hm];rfl)).mpr fun l5 Gn=>?_;have s5:=ao.new Gn (.lst [V.cH,V.cH]);exact q l5 .cH _ (uX.trans s5) ah rfl
  .rw[ybq hm] at q;refine(ybq (fun z=>hm ((Xh _).mp (V.str.inj z)))).mpr ((AU _ _).mpr ?_);have w1':=w1 (hc3.resolve_left hm);have i1:(ws.map V.int)[1]?=some (V.int (ws.getD 1 0)):=by
    rw[zaf,zap,zac w1'];rfl
   walk_at "";exact aL (.of (uX _ _ h6)) (aF i1) (aq (uX.aS qX) (v:=.ref va) jV fun p4 RJ l5 Gn=>way _ V.cH H4 p4 uX RJ q l5 Gn)
theorem FD(T:Tx K mg t):bq P w K mg base dF 7 t.pG t.m3 ["made", "standing"] (Mh K):=by
 have IA:=FA (P:=P) (w:=w) (base:=base) T;have pQ:=zc (P:=P) (w:=w) (base:=base) T;refine T.lQ.F.okN yO fun _ _ _ _ H vs Q E hr h=>?_;obtain⟨md,sa,pr,s0,rfl,mm,dr,Al,si,aaw,q⟩:=h;have nd:=yO.nd;refine⟨_,[some (.ref md),some (.ref sa),none,none,none,none],(ag (fw 2 nd (tY (J:=sR)))
 (ag (xI yag (az (nP (J:=sR) (Hl hr)) (pv 1) (pv 2) rfl)
 (ag (qw (J:=sR) (Hl hr) (pv 2) (pv 1) nU rfl)
 (ag (fw 3 nd (cz IA T.pL hr (a8 0 (a8 1 ae))))
 (ag (aW (az bB (pv 3) aV (aH _))
 (ak (aB (aK (aa (aK (aa aV ae aE)) (aa cS ae aE) dO))))
 aG)
 (ag (aW (az bB (pv 3) aV (aH _))
 (ak (aB (aK (aa (aK (aa aV ae aE)) (a8 1 ae) dO))))
 aG)
 (ag (gQ (cz pQ T.jH hr (a8 0 (a8 1 (aa cS ae aE)))) (JN rfl (cV (oK 4 nd) (cV (oK 5 nd) mD))))
 (ag (aW (az Bg (pv 4) cS (aH _))
 (ak (aB (aK (aa (aK (aa aV ae aE)) (aa cS ae aE) dO))))
 aG)
 (ag (aW (az A4 (pv 5) cS (aH _))
 (ak (aB (aK (aa (aK (aa aV (a8 5 ae) aE)) (a8 4 ae) dO))))
 aG)
 (ak (fw 1 nd (pv 4)))))))))))
 (ak (aB (aK (aa (aK (aa aV ae aE)) (aa cS ae aE) dO)))))),rfl,?_⟩
 have line:zdq=2 ^ 24:=rfl;refine ai fun U1 cM=>?_;walk_at "";intro Gl hG yGs;refine(cM _ _).mpr (ai fun U2 fh=>?_);clear cM;have s1:=ao.new hG (.ext (j9 sR P w Gl []));have d1:=BA (J:=sR) (P:=P) (w:=w) (K:=K) (H:=H) yGs;generalize upd H Gl (.ext (j9 sR P w Gl []))=H1 at *;refine EZ fun Bd Od=>?_;walk_at "";obtain⟨Iv,Gm,RK⟩:=Je fun (m:Nat) (G:St) (Hx:Hp) zq=>∀(ha:zdi) (cur:gw) (gone:List gw) (z3 z4 z5:Option V),G=[some (.ref md),some (.ref ha),some (.ref Gl),z3,z4,z5]->ao H Hx->DS sR P w K Hx Gl (sS gone)->bR K Hx ha cur.1 cur.2->eW pr cur->gone.Nodup->(∀x∈gone,eW pr x)->E9 pr (cw pr+1) [] s0=E9 pr (cw pr+1-gone.length) gone cur->m=cw pr+1-gone.length->zq;refine⟨Iv,⟨_,Gm _ _ _ fun _ zk=>zk sa s0 [] _ _ _ rfl s1 d1 (Al.mono s1) si zbf (fun x h=>by cases h) rfl rfl⟩,?_⟩;intro m G Hx hv;refine RK _ _ _ hv _ fun ha cur gone z3 z4 z5 ze sx dG stx six ndg ing es em=>?_;subst ze em;clear hv;have om:=qy ndg ing;obtain⟨n,en⟩:∃n,cw pr+1-gone.length=n+1:=⟨cw pr-gone.length,by lia⟩
 have e2:E9 pr (n+1) gone cur=if cur∈gone then .round else match eY pr cur with |some x=>x |none=>E9 pr n (gone++[cur]) (qC pr cur):=rfl
 rw[en,e2] at es;walk_at "";refine⟨Gl,ha,_,ji cur,rfl,rfl,dG,tZ stx,?_⟩;rw[x4];by_cases uZ:cur∈gone
 .rw[ybr uZ] at es;rw[ybs uZ];refine(ybq zag).mpr ((fh _ _).mpr ?_);walk_at "";intro p hp p2 qP;have RL:=ao.new hp (.tup [V.str (zad "round")]);have Jj:=ao.new qP (.tup [V.ref p,V.cH]);refine q _ _ (sx.trans (RL.trans Jj)) ?_;rw[es];exact Rep.aJ.mpr ⟨p2,_,rfl,.of ah,.cons (Rep.aJ.mpr ⟨p,_,rfl,.of (Jj _ _ ah),.cons (Rep.aZ.mpr rfl) .nil⟩) (.cons (Rep.kO.mpr rfl) .nil)⟩
 rw[ybq uZ] at es;rw[ybt uZ];refine(ybr rfl).mpr ⟨fun G' H'=>∃m',m'<cw pr+1-gone.length/\Iv m' G' H',fun G' H' h=>h,Od _ _ _ (ai fun V1 yV=>?_)⟩;clear Od fh;walk_at "";refine⟨Gl,ha,_,ji cur,rfl,rfl,dG,tZ stx,by rw[sS,zab];lia,fun H2 d2 Ve=>(yV _ _).mpr (ai fun V2 Gj=>?_)⟩;clear yV;obtain⟨φ2,Ve⟩:=Ve;obtain⟨φG,eG⟩:=dG.wQ;have u2:a9 Gl Hx H2:=by rw[Ve];exact(a9.refl _ _).put _
 have s2:ao H H2:=fun z o e=>u2 z o (aj e hG) (sx z o e);have Xi:=stx.ext eG u2;rw[DR uZ] at d2;clear Ve;have Vn:=mm.mono s2;have told:∀(w0:Str) (x:Sn),E8 x=.tup [.tup [.str w0],.cH]->E9 pr (cw pr+1) [] s0=x->∀Hy,ao H Hy->∀p,Hy p=none->∀p2,(upd Hy p (.tup [V.str w0])) p2=none->Q (.ref p2) (upd (upd Hy p (.tup [V.str w0])) p2 (.tup [V.ref p,V.cH])):=by
  intro w0 x ex e Hy sy p hp p2 qP;have RL:=ao.new hp (.tup [V.str w0]);have Jj:=ao.new qP (.tup [V.ref p,V.cH]);refine q _ _ (sy.trans (RL.trans Jj)) ?_;rw[e,ex];exact Rep.aJ.mpr ⟨p2,_,rfl,.of ah,.cons (Rep.aJ.mpr ⟨p,_,rfl,.of (Jj _ _ ah),.cons (Rep.aZ.mpr rfl) .nil⟩) (.cons (Rep.kO.mpr rfl) .nil)⟩
 walk_at "";refine⟨md,ha,pr,cur,rfl,Vn,dr,Xi,six,fun h0=>(Gj _ _).mpr ?_,fun i hi er=>(Gj _ _).mpr (ai fun V3 T4=>?_)⟩
 .have eo:eY pr cur=some .fin:=by unfold eY;rw[ybr h0]
  rw[eo] at es;refine ai fun V3 T4=>?_;walk_at "";exact(ybr trivial).mpr (told "end" .fin rfl es H2 s2)
 clear Gj;have MJ:cur.1≠0:=by rw[<- er];have:=dr.ok.pos _ (zam hi);lia
 have wne:¬qj (au pr.body)[i].wd=zad "end":=by
  generalize (au pr.body)[i]=sm;cases sm<;>(simp only[aT.wd];decide +kernel)
 have ea:mJ pr.body cur.1=decide ((au pr.body)[i].wd=.ask):=by rw[<- er];unfold mJ;rw[qW dr.ok.pw i hi]
 walk_at "";refine(ybq wne).mpr ((T4 _ _).mpr (ai fun V4 UY=>?_));clear T4;walk_at "";refine dR (fun e=>fun p hp p2 qP=>?_) (fun e=>(UY _ _).mpr (ai fun V5 ZS=>?_))
 .have e:=(Fy _).mp e;have eo:eY pr cur=some (.ask cur):=by unfold eY;rw[ybq MJ,ea,ybr (ybs e)]
  rw[eo] at es;have RL:=ao.new hp (.tup [V.str (zad "ask")]);have Jj:=ao.new qP (.tup [V.ref p,V.ref ha]);refine q _ _ (s2.trans (RL.trans Jj)) ?_;rw[es];exact Rep.aJ.mpr ⟨p2,_,rfl,.of ah,.cons (Rep.aJ.mpr ⟨p,_,rfl,.of (Jj _ _ ah),.cons (Rep.aZ.mpr rfl) .nil⟩) (.cons (vp (Xi.mono (RL.trans Jj))) .nil)⟩
 clear UY;have hna:mJ pr.body cur.1=false:=by rw[ea];exact ybt fun z=>e ((Fy _).mpr z)
 have eo:eY pr cur=match gg pr cur.1 cur.2 0 with |(none,_)=>some Sn.bE |(some y,some n)=>some (.say n y) |(some _,none)=>none:=by
  unfold eY;rw[ybq MJ,hna,ybq zag]
  try rfl
 walk_at "";refine⟨md,ha,.cH,0,pr,cur,rfl,Vn,dr,Xi,six,MJ,.inl ⟨hna,rfl⟩,fun l sv H4 s4 y4 o4=>⟨l,_,rfl,.of y4,rfl,_,_,rfl,_,_,rfl,rfl,(ZS _ _).mpr (ai fun V6 ZV=>?_)⟩⟩;clear ZS;simp only[zba];have uX:=s2.trans s4;rcases xD:gg pr cur.1 cur.2 0 with ⟨o,sd⟩
 rw[xD] at eo o4;cases o with
 |none=>
  rw[eo] at es;cases (show sv=.cH from o4);walk_at "";exact(ybr trivial).mpr (told "must" .bE rfl es H4 uX)
 |some y=>
  obtain⟨ya,rfl,Og⟩:=o4;walk_at "";refine(ybq (by intro z;cases z)).mpr ((ZV _ _).mpr (ai fun V7 hV7=>?_));clear ZV;cases sd with
  |some nn=>
   rw[eo] at es;walk_at "";refine dR (fun z=>by cases z) (fun _ p hp p2 qP=>?_);have RL:=ao.new hp (.tup [V.str (zad "say"),V.int nn]);have Jj:=ao.new qP (.tup [V.ref p,V.ref ya]);refine q _ _ (uX.trans (RL.trans Jj)) ?_;rw[es];exact Rep.aJ.mpr ⟨p2,_,rfl,.of ah,.cons (Rep.aJ.mpr ⟨p,_,rfl,.of (Jj _ _ ah),.cons (Rep.aZ.mpr rfl) (.cons (Rep.bu.mpr rfl) .nil)⟩) (.cons (vp (Og.mono (RL.trans Jj))) .nil)⟩
  |none=>
   rw[eo] at es;have NQ:(gone++[cur]).Nodup:=zbd.mpr ⟨ndg,by simp,fun a ha b hb=>by rw[zai.mp hb];exact fun z=>uZ (z▸ha)⟩;have in1:∀x∈gone++[cur],eW pr x:=fun x hx=>by
    rcases zak.mp hx with hx |hx
    .exact ing x hx
    .rw[zai.mp hx];exact six
   have Ua:=qy NQ in1;have l1:(gone++[cur]).length=gone.length+1:=by simp
   have enx:qC pr cur=y:=by unfold qC;rw[xD];rfl
   walk_at "";refine dR (fun _=>(hV7 _ _).mpr ?_) (fun z=>ybw rfl z);walk_at "";refine⟨_,?_,Gm _ _ _ fun _ zk=>zk ya y (gone++[cur]) _ _ _ rfl uX (d2.mono s4) Og (by rw[<- enx];exact six.Nj dr eo) NQ in1 ?_ rfl⟩
   .rw[l1] at Ua |-;lia
   .rw[es,enx,show cw pr+1-(gone++[cur]).length=n by rw[l1];lia]
theorem aay:∀w:Wd,Sf (V.str (qj w)) [V.str (zad "put"),V.str (zad "if"),V.str (zad "while"),V.str (zad "stop")]=decide (w=.put\/w=.ifs\/w=.fM\/w=.stop):=by
 intro w;cases w<;>decide +kernel
theorem Vo:∀w:Wd,(qj w=zad "must")↔w=.bE:=by
 intro w;cases w<;>decide +kernel
theorem RM(dr:fO pr)(hi:i<(au pr.body).length)(hf:i<(aP pr.body 0).length) :
 eY pr ((au pr.body)[i].row,vals)=if (au pr.body)[i].wd=.ask then some (.ask ((au pr.body)[i].row,vals)) else match j8 pr.ar (au pr.body)[i] (aP pr.body 0)[i].2.2 vals 0 with
  |(none,_)=>some .bE
  |(some y,some n)=>some (.say n y)
  |(some _,none)=>none:=by
 have MJ:(au pr.body)[i].row≠0:=by have:=dr.ok.pos _ (zam hi);lia
 unfold eY;rw[ybq MJ,x5 dr.ok hi hf];have ea:mJ pr.body (au pr.body)[i].row=decide ((au pr.body)[i].wd=.ask):=by unfold mJ;rw[qW dr.ok.pw i hi]
 simp only[ea,decide_eq_true_eq]
 try rfl
theorem FE(T:Tx K mg t):bq P w K mg base dF 5 t.oX t.mO ["chart", "standing"] (Hu K t.bh):=by
 have kL:=rZ (P:=P) (w:=w) (base:=base) T;have Fx:=Iz (P:=P) (w:=w) (base:=base) T;refine T.pJ.F.okN yq fun _ _ _ _ H vs Q E hr h=>?_;obtain⟨ch,sa,pr,⟨row,vals⟩,rfl,co,dr,Al,si,q⟩:=h;have nd:=yq.nd;refine⟨_,[some (.ref ch),some (.ref sa),none],(ag (fw 2 nd (cz kL T.kJ hr (a8 0 (aa (iT 1) ae aA))))
 (ag (aW (az bB (pv 2) aV (aH _))
 (ak (aB (cz Fx T.yQ hr (a8 0 (a8 1 ae)))))
 aG)
 (ak (aB (gu kz (pv 2) (aK (eQ (vs:=[.str "put",.str "if",.str "while",.str "stop"]) (by kernel_rfl))) rfl))))),rfl,?_⟩
 obtain⟨va,qX,xE⟩:=id Al;refine ai fun U1 cM=>?_;walk_at "";refine aq qX (v:=.int row) fP ?_;rcases si.ok.row with h0 |⟨i,hi,er⟩
 .replace h0:row=0:=h0;subst h0;refine⟨ch,pr,0,rfl,co,dr.ok.pw,.inl ⟨rfl,(cM _ _).mpr (ai fun U2 fh=>?_)⟩⟩;walk_at "";refine(ybq (by decide +kernel)).mpr ((fh _ _).mpr ?_);walk_at "";intro p hp;refine⟨p,_,rfl,.inr (.of ah),rfl,rfl,?_⟩;have:=q _ (ao.new hp (.tup [V.str (zad "put"),V.str (zad "if"),V.str (zad "while"),V.str (zad "stop")]));unfold eY at this;rw[ybr rfl] at this;rw[show (Sf (V.str (zad "end")) [V.str (zad "put"),V.str (zad "if"),V.str (zad "while"),V.str (zad "stop")])=false by decide +kernel];exact this
 replace er:(au pr.body)[i].row=row:=er;subst er;have MJ:(au pr.body)[i].row≠0:=by have:=dr.ok.pos _ (zam hi);lia
 obtain⟨hf,ek,ew⟩:=jh pr.body i hi;obtain⟨po,so⟩:=zJ si.ok.len dr.ok.nb si.ok.small (iA pr.body _ dr.own (zam hi));rw[RM dr hi hf] at q;refine⟨ch,pr,_,rfl,co,dr.ok.pw,.inr ⟨MJ,i,hi,rfl,(cM _ _).mpr (ai fun U2 fh=>?_)⟩⟩;clear cM;walk_at "";refine dR (fun e=>?_) (fun e=>(fh _ _).mpr ?_)
 .have e:=(Vo _).mp e;obtain⟨sg,l,r,cp,tl,tr,es⟩:=cond_of (.inl e) po;refine⟨ch,sa,pr,vals,i,hi,sg,l,r,rfl,co,dr.ok,Al,si.ok.len,cp,tl,tr,fun H' s'=>?_⟩;rw[ybq (by rw[e];decide),es] at q;have:=q H' s';unfold eU at this;simp only[cp] at this;cases hc:ju sg (wv pr.ar vals l) (wv pr.ar vals r) with
  |true=>rw[hc,ybr rfl] at this;exact this
  |false=>rw[hc,ybq zag,ybr e] at this;exact this
 .have e:(au pr.body)[i].wd≠.bE:=fun z=>e ((Vo _).mpr z);walk_at "";intro p hp;refine⟨p,_,rfl,.inr (.of ah),rfl,rfl,?_⟩;have:=q _ (ao.new hp (.tup [V.str (zad "put"),V.str (zad "if"),V.str (zad "while"),V.str (zad "stop")]));rw[aay];have eo:(if (au pr.body)[i].wd=.ask then some (Sn.ask ((au pr.body)[i].row,vals)) else match j8 pr.ar (au pr.body)[i] (aP pr.body 0)[i].2.2 vals 0 with
   |(none,_)=>some Sn.bE
   |(some y,some n)=>some (.say n y)
   |(some _,none)=>none).isNone=decide ((au pr.body)[i].wd=.put\/(au pr.body)[i].wd=.ifs\/(au pr.body)[i].wd=.fM\/(au pr.body)[i].wd=.stop):=by
   generalize (au pr.body)[i]=sm at *;cases sm with
   |ask=>rfl
   |put=>rfl
   |say=>rfl
   |bE=>exact ybw rfl e
   |stop=>rfl
   |ifs k sg l r a b=>
    simp only[j8,eU,oR,aT.wd];cases ju sg (wv pr.ar vals l) (wv pr.ar vals r)<;>rfl
   |fM k sg l r a=>
    simp only[j8,eU,oR,aT.wd];cases ju sg (wv pr.ar vals l) (wv pr.ar vals r)<;>rfl
  rw[<- eo];exact this
theorem KP(T:Tx K mg t):bq P w K mg base dF 7 t.vF t.rQ ["chart", "standing"] (Hv K t.bh):=by
 have kL:=rZ (P:=P) (w:=w) (base:=base) T;have nQ:=xq (P:=P) (w:=w) (base:=base) T;refine T.vI.F.okN B3 fun _ _ _ _ H vs Q E hr h=>?_;obtain⟨ch,sa,pr,⟨row,vals⟩,x,rfl,co,dr,Al,si,ob,q⟩:=h;have nd:=B3.nd;refine⟨_,[some (.ref ch),some (.ref sa),none,none],(ag (fw 2 nd (cz kL T.kJ hr (a8 0 (aa (iT 1) ae aA))))
 (ag (aW (az bB (pv 2) aV (aH _))
 (ak (aB (aK (aa (aK (aa aV ae aE)) (a8 1 ae) dO))))
 aG)
 (ag (aW (az bB (pv 2) aV (aH _))
 (ag (fw 3 nd (cz nQ T.kK hr (a8 0 (a8 1 (aa cS ae aE)))))
 (ak (aB (aK (aa (aK (aa aV (aa (iT 3) ae aA) aE)) (aa (iT 3) ae aA) dO)))))
 aG)
 (ak (aB (aK (aa (aK (a8 2 ae)) (aa cS ae aE) dO))))))),rfl,?_⟩
 obtain⟨va,qX,xE⟩:=id Al;refine ai fun U1 cM=>?_;walk_at "";refine aq qX (v:=.int row) fP ?_;rcases si.ok.row with h0 |⟨i,hi,er⟩
 .replace h0:row=0:=h0;subst h0;have ex:x=.fin:=by
   unfold eY at ob;rw[ybr rfl] at ob;cases ob;rfl
  subst ex;refine⟨ch,pr,0,rfl,co,dr.ok.pw,.inl ⟨rfl,(cM _ _).mpr (ai fun U2 fh=>?_)⟩⟩;walk_at "";refine(ybq (by decide +kernel)).mpr ((fh _ _).mpr (ai fun U3 gJ=>?_));walk_at "";refine(ybq (by decide +kernel)).mpr ((gJ _ _).mpr ?_);walk_at "";intro p hp p2 qP;have s1:=ao.new hp (.tup [V.str (zad "end")]);have s2:=ao.new qP (.tup [V.ref p,V.cH]);refine q _ _ (s1.trans s2) (Rep.aJ.mpr ⟨p2,_,rfl,.of ah,.cons (Rep.aJ.mpr ⟨p,_,rfl,.of (s2 _ _ ah),.cons (Rep.aZ.mpr rfl) .nil⟩) (.cons (Rep.kO.mpr rfl) .nil)⟩)
 replace er:(au pr.body)[i].row=row:=er;subst er;have MJ:(au pr.body)[i].row≠0:=by have:=dr.ok.pos _ (zam hi);lia
 obtain⟨hf,ek,ew⟩:=jh pr.body i hi;obtain⟨w0,w1⟩:=iW pr.body 0 _ (zam hf);rw[ew] at w1;obtain⟨po,so⟩:=zJ si.ok.len dr.ok.nb si.ok.small (iA pr.body _ dr.own (zam hi));have bp:∀b∈pr.ar,0<b.size:=fun b hb=>by have:=dr.size b hb;lia
 rw[RM dr hi hf] at ob;refine⟨ch,pr,_,rfl,co,dr.ok.pw,.inr ⟨MJ,i,hi,rfl,(cM _ _).mpr (ai fun U2 fh=>?_)⟩⟩;clear cM;walk_at "";refine dR (fun e=>?_) (fun e=>(fh _ _).mpr (ai fun U3 gJ=>?_))
 .have e:=(Fy _).mp e;rw[ybr e] at ob;cases ob;intro p hp p2 qP;have s1:=ao.new hp (.tup [V.str (zad "ask")]);have s2:=ao.new qP (.tup [V.ref p,V.ref sa]);exact q _ _ (s1.trans s2) (Rep.aJ.mpr ⟨p2,_,rfl,.of ah,.cons (Rep.aJ.mpr ⟨p,_,rfl,.of (s2 _ _ ah),.cons (Rep.aZ.mpr rfl) .nil⟩) (.cons (vp (Al.mono (s1.trans s2))) .nil)⟩)
 clear fh;have e:(au pr.body)[i].wd≠.ask:=fun z=>e ((Fy _).mpr z);rw[ybq e] at ob;walk_at "";refine dR (fun e2=>?_) (fun e2=>(gJ _ _).mpr ?_)
 .have e2:=(RF _).mp e2;obtain⟨k,ee,es⟩:=KG e2;refine⟨ch,sa,.cH,pr,vals,0,i,hi,hf,rfl,co,dr.ok,bp,Al,si.ok.len,fun z=>ybw z e,po,w0,w1,fun q1 sv H2 s2 k1 o1=>?_⟩;rw[es] at ob k1 o1;simp only[j8] at ob k1 o1;cases ob;obtain⟨ya,rfl,Og⟩:=o1;refine aq k1 jV fun p hp=>?_;have s3:=ao.new hp (.tup [V.str (zad "say"),V.int (wv pr.ar vals ee)]);refine aq (s3.aS k1) fP fun p2 qP=>?_;have s4:=ao.new qP (.tup [V.ref p,V.ref ya]);exact q _ _ (s2.trans (s3.trans s4)) (Rep.aJ.mpr ⟨p2,_,rfl,.of ah,.cons (Rep.aJ.mpr ⟨p,_,rfl,.of (s4 _ _ ah),.cons (Rep.aZ.mpr rfl) (.cons (Rep.bu.mpr rfl) .nil)⟩) (.cons (vp (Og.mono (s3.trans s4))) .nil)⟩)
 .have e2:(au pr.body)[i].wd≠.say:=fun z=>e2 ((RF _).mpr z);have em:(au pr.body)[i].wd=.bE/\x=.bE:=by
   generalize (au pr.body)[i]=sm at *;cases sm with
   |ask=>exact ybw rfl e
   |put=>cases ob
   |say=>exact ybw rfl e2
   |bE k sg l r=>
    refine⟨rfl,?_⟩;simp only[j8,eU,oR,aT.wd] at ob;cases hc:ju sg (wv pr.ar vals l) (wv pr.ar vals r)<;>rw[hc] at ob<;>cases ob
    rfl
   |stop=>cases ob
   |ifs k sg l r a b=>
    simp only[j8,eU,oR,aT.wd] at ob;cases hc:ju sg (wv pr.ar vals l) (wv pr.ar vals r)<;>rw[hc] at ob<;>cases ob
   |fM k sg l r a=>
    simp only[j8,eU,oR,aT.wd] at ob;cases hc:ju sg (wv pr.ar vals l) (wv pr.ar vals r)<;>rw[hc] at ob<;>cases ob
  obtain⟨em,rfl⟩:=em;rw[em];walk_at "";intro p hp p2 qP;have s1:=ao.new hp (.tup [V.str (qj .bE)]);have s2:=ao.new qP (.tup [V.ref p,V.cH]);exact q _ _ (s1.trans s2) (Rep.aJ.mpr ⟨p2,_,rfl,.of ah,.cons (Rep.aJ.mpr ⟨p,_,rfl,.of (s2 _ _ ah),.cons (Rep.aZ.mpr rfl) .nil⟩) (.cons (Rep.kO.mpr rfl) .nil)⟩)
theorem mz(T:Tx K mg t):bq P w K mg base dF 8 t.bT t.jb ["self", "standing"] (HK P w K t.bh t.bN):=by
 have IB:=FE (P:=P) (w:=w) (base:=base) T;have NR:=KP (P:=P) (w:=w) (base:=base) T;have nQ:=xq (P:=P) (w:=w) (base:=base) T;refine T.g7.okN my fun _ _ _ _ H vs Q E hr h=>?_;obtain⟨wt,sg,sa,pr,s0,rfl,wo,dr,Al,si,aaw,q⟩:=h;have nd:=my.nd;obtain⟨dx,ch,FF,hw,RD,co,dsg,aez⟩:=wo;refine⟨_,[some (.ref wt),some (.ref sa),none,none,none,none],(ag (fw 2 nd (tY (J:=sR)))
 (ag (fw 3 nd (pv 1))
 (ag (xI yag (PW.pt (pw_and (az (nP (J:=sR) (Hl hr)) (pv 3) (dY (pv 0) rfl) rfl) (pw_and (az (nP (J:=sR) (Hl hr)) (pv 3) (pv 2) rfl) (pw_and1 (tM (cz IB T.pJ hr (aa (dY (pv 0) rfl) (a8 3 ae) oP)))))))
 (ag (qw (J:=sR) (Hl hr) (pv 2) (pv 3) nU rfl)
 (ak (fw 3 nd (bL gA (cz nQ T.kK hr (aa (dY (pv 0) rfl) (a8 3 (aa cS ae aE)) oP)) aw bI)))))
 (ag (aW (az (Qi (J:=sR) (Hl hr)) (pv 3) (dY (pv 0) rfl) rfl)
 (ak (fw 4 nd (Qj (J:=sR) (Hl hr) (dY (pv 0) rfl) (pv 3) jr)))
 (ak (aW (az (Qi (J:=sR) (Hl hr)) (pv 3) (pv 2) rfl)
 (ak (fw 4 nd (aK (aa (aK (aa aV ae aE)) (aa cS ae aE) dO))))
 (ak (fw 4 nd (cz NR T.vI hr (aa (dY (pv 0) rfl) (a8 3 ae) oP)))))))
 (ag (gR yag rfl (BC (J:=sR) (pv 2)) (oK 5 nd)
 (ak (qw (J:=sR) (Hl hr) (dY (pv 0) rfl) (pv 5) (pv 4) rfl)))
 (ag (qw (J:=sR) (Hl hr) (dY (pv 0) rfl) (pv 3) (pv 4) rfl)
 (ak (aB (pv 4))))))))),rfl,?_⟩
 have line:zdq=2 ^ 24:=rfl;refine ai fun U1 cM=>?_;walk_at "";intro D hD yD;refine(cM _ _).mpr (ai fun U2 fh=>?_);clear cM;have d1:=BA (J:=sR) (P:=P) (w:=w) (K:=K) (H:=H) yD;generalize nG:upd H D (.ext (j9 sR P w D []))=H1 at *;have s1:=(bX nG hD).1;walk_at "";refine(fh _ _).mpr (ai fun U3 gJ=>?_);clear fh;obtain⟨φD,eD⟩:=d1.wQ;obtain⟨φg,eg⟩:=dsg.wQ;have ngD:sg≠D:=aj eg hD;have nwD:wt≠D:=aj hw hD;have nwg:wt≠sg:=b5 hw eg (by intro z;cases z);have co1:=co.mono s1;have aaA:=dsg.mono s1;have aeB:=Al.mono s1;have Oh:=s1 _ _ hw;have aeC:=s1 _ _ RD;have aeD:=aez.mono s1;have ndD:dx≠D:=aj RD hD;have ndg:dx≠sg:=b5 RD eg (by intro z;cases z);have fin:∀(ha:zdi) (cur:gw) (gone:List gw) (Hx:Hp),a9 D H1 Hx->DS sR P w K Hx D (sS gone)->bR K Hx ha cur.1 cur.2->eW pr cur->gone.length<=cw pr->(s0∈gone\/s0=cur)->(∀g∈gone,eW pr g/\eY pr g=none/\jv pr g=jv pr cur/\(qC pr g∈gone\/qC pr g=cur))->((bZ FF (ji cur)).isSome=true\/cur∈gone\/∃x,eY pr cur=some x)->U3 [some (.ref wt),some (.ref sa),some (.ref D),some (.ref ha),none,none] Hx:=by
  intro ha cur gone Hx ux dD stx six om Ym es hc;have e0:jv pr s0=jv pr cur:=Ym.elim (fun h=>(es _ h).2.2.1) fun h=>by rw[h]
  have Yn:DS sR P w K Hx sg FF:=aaA.other eD ngD ux;have Xj:=aeD.ext eD ux;have aaB:=ux _ _ ndD aeC;have Vp:=ux _ _ nwD Oh;have cox:=co1.ext eD ux;have kD:∀b o,H b=some o->Hx b=some o:=fun b o e=>ux b o (aj e hD) (s1 b o e);refine(gJ _ _).mpr (ai fun U4 jI=>?_);clear gJ;have keep:∀(v:V) (Hy:Hp),ao Hx Hy->Rep K Hy (E8 (jv pr cur)) v->U4 [some (.ref wt),some (.ref sa),some (.ref D),some (.ref ha),some v,none] Hy:=by
   intro v Hy sy rv;have dDy:=dD.mono sy;have dgy:=Yn.mono sy;have aeE:=Xj.mono sy;have coy:=cox.mono sy;have aeF:=sy _ _ aaB;have hwy:=sy _ _ Vp;have Og:=stx.mono sy;have kDy:∀b o,H b=some o->Hy b=some o:=fun b o e=>sy _ _ (kD b o e);clear dD Yn Vp cox stx ux Xj aaB;refine(jI _ _).mpr (ai fun U5 tj=>?_);clear jI;refine BD fun U hU=>?_;simp only[Ma];walk_at "";refine⟨D,_,rfl,dDy,fun o ps fz po=>hU _ _ ?_⟩;clear hU;obtain⟨φy,eDy⟩:=dDy.wQ;have uF:a9 D Hy (upd Hy D (kC D o)):=(a9.refl _ _).put _;have NS:∀a xs,bG K Hy a xs->bG K (upd Hy D (kC D o)) a xs:=fun a xs h=>h.sZ eDy uF;have yF1:(upd Hy D (kC D o)) D=some (kC D o):=ah;have rv1:=mL eDy uF _ _ rv;have Xk:=uF _ _ nwD hwy;have dg1:=dgy.other eDy ngD uF;have aeG:=aeE.ext eDy uF;have co2:=coy.ext eDy uF;have aeI:=uF _ _ ndD aeF;have aeJ:bR K (upd Hy D (kC D o)) ha cur.1 cur.2:=by
    obtain⟨va,k1,k2⟩:=Og;exact⟨va,NS _ _ k1,NS _ _ k2⟩
   have kD1:∀b o',H b=some o'->(upd Hy D (kC D o)) b=some o':=fun b o' e=>uF _ _ (aj e hD) (kDy b o' e);have Ky:ps.length=gone.length:=by have:=yaj po;rw[sS,zab] at this;exact this.symm
   have po1:∀i b w',ps[i]?=some (b,w')->∃g∈gone,sR.on K (upd Hy D (kC D o)) (ji g) b:=fun i b w' hi=>by
    obtain⟨kv,KQ,on,_⟩:=kE po hi;have hm:=zaC KQ;unfold sS at hm;obtain⟨g,hg,rfl⟩:=zar.mp hm;exact⟨g,hg,sR.up NS on⟩
   generalize upd Hy D (kC D o)=Hz at *;obtain⟨φz,Yo⟩:=dg1.wQ;obtain⟨Pv,nH,iF⟩:=Je fun (i:Nat) (G:St) (Hw:Hp) zq=>∀(z:Option V) (kvs:List (eV×V)),G=[some (.ref wt),some (.ref sa),some (.ref D),some (.ref ha),some v,z]->a9 sg Hz Hw->DS sR P w K Hw sg kvs->sT K Hw pr kvs->zq;refine E2 (d:=D) (o:=o) (ps:=ps) Pv (nH _ _ _ fun _ zk=>zk none FF rfl (.refl _ _) dg1 aeG) (fun i G Hw _ hv=>?_) (fun i b w' G Hw hi hv=>?_) (fun G Hw hv=>?_)
   .exact iF _ _ _ hv _ fun _ _ _ u _ _=>u _ _ ngD.symm yF1
   .refine iF _ _ _ hv _ fun z kvs ze uw dw lw=>?_;subst ze;clear hv;obtain⟨g,hg,on⟩:=po1 i b w' hi;have lw2:=Mo dw.nodup lw;have on1:=sR.up (fun c ys q=>bG.sZ q Yo uw) on;simp only[cF,zba];walk_at "";refine⟨wt,_,dx,_,.ref sg,rfl,uw _ _ nwg Xk,T.cZ,T.cR,rfl,sg,b,kvs,ji g,rfl,rfl,dw,on1,by lia,fun H4 d4 e4=>?_⟩;obtain⟨φ,rfl⟩:=e4;have u4:a9 sg Hz (upd Hw sg (.ext φ)):=uw.put _;obtain⟨φw,egw⟩:=dw.wQ;exact nH _ _ _ fun _ zk=>zk _ _ rfl u4 d4 ((lw.ext egw ((a9.refl _ _).put _)).put (es g hg).1 (by rw[(es g hg).2.2.1];exact mL Yo u4 _ _ rv1))
   .refine iF _ _ _ hv _ fun z kvs ze uw dw lw=>?_;subst ze;clear hv;refine(tj _ _).mpr (ai fun U6 AU=>?_);clear tj;walk_at "";have xE:bR K Hw ha cur.1 cur.2:=by
     obtain⟨va,k1,k2⟩:=aeJ;exact⟨va,k1.sZ Yo uw,k2.sZ Yo uw⟩
    have lw2:=Mo dw.nodup lw;refine⟨wt,_,dx,_,.ref sg,rfl,uw _ _ nwg Xk,T.cZ,T.cR,rfl,sg,ha,kvs,ji cur,rfl,rfl,dw,tZ xE,by lia,fun H4 d4 e4=>(AU _ _).mpr ?_⟩;clear AU;obtain⟨φ,rfl⟩:=e4;have u4:=uw.put (.ext φ);walk_at "";obtain⟨φw,egw⟩:=dw.wQ;have r4:=mL Yo u4 _ _ rv1;refine q v _ (fun b o' n e=>u4 b o' n (kD1 b o' e)) ⟨dx,ch,_,u4 _ _ nwg Xk,u4 _ _ ndg aeI,co2.ext Yo u4,d4,(lw.ext egw ((a9.refl _ _).put _)).put six r4⟩ ?_;rw[e0];exact r4
  walk_at "";refine⟨wt,_,dx,_,.ref sg,rfl,Vp,T.cZ,T.cR,rfl,sg,ha,FF,ji cur,rfl,rfl,Yn,tZ stx,?_⟩;cases hv0:bZ FF (ji cur) with
  |some v0=>
   refine(ybr rfl).mpr ⟨wt,_,dx,_,.ref sg,rfl,Vp,T.cZ,T.cR,rfl,sg,ha,FF,ji cur,v0,rfl,rfl,Yn,tZ stx,hv0,keep v0 Hx (.refl _) ?_⟩;obtain⟨s',e',_,r'⟩:=Xj _ (HJ hv0);rw[x3 e'];exact r'
  |none=>
  refine(ybq zag).mpr ?_;refine⟨D,ha,_,ji cur,rfl,rfl,dD,tZ stx,?_⟩;rw[x4];by_cases uZ:cur∈gone
  .rw[ybs uZ];refine(ybr rfl).mpr fun p hp p2 qP=>?_;have RL:=ao.new hp (.tup [V.str (zad "round")]);have Jj:=ao.new qP (.tup [V.ref p,V.cH]);refine keep _ _ (RL.trans Jj) ?_;rw[WO (gone:=gone) (fun g hg=>⟨(es g hg).2.1,(es g hg).2.2.2.elim id fun z=>z▸uZ⟩) uZ];exact Rep.aJ.mpr ⟨p2,_,rfl,.of ah,.cons (Rep.aJ.mpr ⟨p,_,rfl,.of (Jj _ _ ah),.cons (Rep.aZ.mpr rfl) .nil⟩) (.cons (Rep.kO.mpr rfl) .nil)⟩
  .rw[ybt uZ];obtain⟨x,hx⟩:=(hc.resolve_left (by rw[hv0];exact zag)).resolve_left uZ;refine(ybq zag).mpr ⟨wt,_,dx,_,.ref ch,rfl,Vp,T.cZ,T.ck,rfl,ch,ha,pr,cur,x,rfl,cox,dr,stx,six,hx,fun v Hy sy rv=>keep v Hy sy ?_⟩;rw[WN dr six hx];exact rv
 refine EZ fun Bd Od=>?_;walk_at "";obtain⟨Iv,Gm,RK⟩:=Je fun (m:Nat) (G:St) (Hx:Hp) zq=>∀(ha:zdi) (cur:gw) (gone:List gw),G=[some (.ref wt),some (.ref sa),some (.ref D),some (.ref ha),none,none]->a9 D H1 Hx->DS sR P w K Hx D (sS gone)->bR K Hx ha cur.1 cur.2->eW pr cur->gone.Nodup->(s0∈gone\/s0=cur)->(∀g∈gone,eW pr g/\eY pr g=none/\jv pr g=jv pr cur/\(qC pr g∈gone\/qC pr g=cur))->m=cw pr-gone.length->zq;refine⟨Iv,⟨_,Gm _ _ _ fun _ zk=>zk sa s0 [] rfl (.refl _ _) d1 aeB si zbf (.inr rfl) (fun x h=>by cases h) rfl⟩,?_⟩;intro m G Hx hv;refine RK _ _ _ hv _ fun ha cur gone ze ux Sw stx six aaG Ym es em=>?_;subst ze em;clear hv;have om:=qy aaG fun x hx=>(es x hx).1;have Yn:DS sR P w K Hx sg FF:=aaA.other eD ngD ux;have Vp:=ux _ _ nwD Oh;have cox:=co1.ext eD ux;walk_at "";refine⟨wt,_,dx,_,.ref sg,rfl,Vp,T.cZ,T.cR,rfl,sg,ha,FF,ji cur,rfl,rfl,Yn,tZ stx,?_⟩;cases hv0:bZ FF (ji cur) with
 |some v0=>exact(ybq zag).mpr (fin ha cur gone Hx ux Sw stx six om Ym es (.inl (by rw[hv0];rfl)))
 |none=>
 refine(ybr rfl).mpr ?_;refine⟨D,ha,_,ji cur,rfl,rfl,Sw,tZ stx,?_⟩;rw[x4];by_cases uZ:cur∈gone
 .rw[ybs uZ];exact fin ha cur gone Hx ux Sw stx six om Ym es (.inr (.inl uZ))
 rw[ybt uZ];refine(ybr rfl).mpr ⟨wt,_,dx,_,.ref ch,rfl,Vp,T.cZ,T.ck,rfl,ch,ha,pr,cur,rfl,cox,dr,stx,six,fun H4 s4=>⟨_,rfl,?_⟩⟩;have ux4:a9 D H1 H4:=ux.trans (.of s4);have dx4:=Sw.mono s4;have Xl:=stx.mono s4;cases ho:eY pr cur with
 |some x=>exact(ybq (by simp)).mpr (fin ha cur gone H4 ux4 dx4 Xl six om Ym es (.inr (.inr ⟨x,ho⟩)))
 |none=>
  have NQ:(gone++[cur]).Nodup:=zbd.mpr ⟨aaG,by simp,fun a ha b hb=>by rw[zai.mp hb];exact fun z=>uZ (z▸ha)⟩;have es1:∀g∈gone++[cur],eW pr g/\eY pr g=none/\jv pr g=jv pr (qC pr cur)/\(qC pr g∈gone++[cur]\/qC pr g=qC pr cur):=fun g hg=>by
   rw[TL dr six ho];rcases zak.mp hg with hg |hg
   .obtain⟨a1,a2,a3,a4⟩:=es g hg;exact⟨a1,a2,a3,.inl (zak.mpr (a4.imp id fun z=>zai.mpr z))⟩
   .rw[zai.mp hg];exact⟨six,ho,rfl,.inr rfl⟩
  have es2:s0∈gone++[cur]\/s0=qC pr cur:=.inl (zak.mpr (Ym.imp id fun z=>zai.mpr z));have Ua:=qy NQ fun x hx=>(es1 x hx).1;have l1:(gone++[cur]).length=gone.length+1:=by simp
  obtain⟨h0,hna,xD,hsd⟩:=Ht ho;refine(ybr rfl).mpr ⟨Iv (cw pr-(gone++[cur]).length),fun G' H' h=>⟨_,by lia,h⟩,Od _ _ _ (ai fun V1 yV=>?_)⟩;clear fin Od;walk_at "";refine⟨D,ha,_,ji cur,rfl,rfl,dx4,tZ Xl,by rw[sS,zab];lia,fun H6 d6 e6=>(yV _ _).mpr ?_⟩;clear yV;obtain⟨φ6,e6⟩:=e6;obtain⟨φ4,eD4⟩:=dx4.wQ;have u46:a9 D H4 H6:=by rw[e6];exact(a9.refl _ _).put _
  rw[DR uZ] at d6;have ux6:=ux4.trans u46;have hw6:=ux6 _ _ nwD Oh;have co6:=co1.ext eD ux6;have aeO:bR K H6 ha cur.1 cur.2:=by
   obtain⟨va,k1,k2⟩:=Xl;exact⟨va,k1.sZ eD4 u46,k2.sZ eD4 u46⟩
  clear e6;obtain⟨row,vals⟩:=cur;obtain⟨i,hi,er⟩:=six.ok.row.resolve_left h0;replace er:(au pr.body)[i].row=row:=er;subst er;obtain⟨hf,ek,ew⟩:=jh pr.body i hi;obtain⟨w0,w1⟩:=iW pr.body 0 _ (zam hf);rw[ew] at w1;obtain⟨po,so⟩:=zJ six.ok.len dr.ok.nb six.ok.small (iA pr.body _ dr.own (zam hi));have bp:∀b∈pr.ar,0<b.size:=fun b hb=>by have:=dr.size b hb;lia
  have ea:mJ pr.body (au pr.body)[i].row=decide ((au pr.body)[i].wd=.ask):=by unfold mJ;rw[qW dr.ok.pw i hi]
  have e:(au pr.body)[i].wd≠.ask:=fun z=>by
   rw[ea,ybs z] at hna;cases hna
  walk_at "";refine⟨wt,_,dx,_,.ref ch,rfl,hw6,T.cZ,T.ck,rfl,ch,ha,.cH,pr,vals,0,i,hi,hf,rfl,co6,dr.ok,bp,aeO,six.ok.len,fun z=>ybw z e,po,w0,w1,fun q1 sv H7 s7 k1 o1=>?_⟩;rw[<- x5 dr.ok hi hf] at k1 o1;refine aq k1 (v:=sv) fP ?_;rw[xD] at o1;obtain⟨ya,rfl,Og⟩:=o1;exact Gm _ _ _ fun _ zk=>zk ya _ (gone++[((au pr.body)[i].row,vals)]) rfl (ux6.trans (.of s7)) (d6.mono s7) Og (six.Nj dr ho) NQ es2 es1 rfl
theorem CT(T:Tx K mg t)(dI:bq P w K mg base dF 1 t.fQ t.eC ["body", "behind"] (qU K))(cv:bq P w K mg base dF 6 t.cu t.bV ["body"] (oQ K 4))(Cf:bq P w K mg base dF 7 t.xg t.rL ["program"] (EO K)) :
 bq P w K mg base dF 10 t.fU t.qe ["self", "program"] (QY P w K t.bh t.bN):=by
 have FG:=CQ (P:=P) (w:=w) (base:=base) T dI cv Cf;refine T.ny.okN wD fun _ _ _ _ H vs Q E hr h=>?_;obtain⟨wt,dx,v,pr,rfl,hw,RD,rp,dr,q⟩:=h;have nd:=wD.nd;refine⟨_,[some (.ref wt),some v],(ag (wL (pv 0) (EE T.B5 FG (hr.mono (by first|decide|omega)) rfl T.Rf T.Fj .nil nW (a8 1 ae)) rfl)
 (ak (wL (pv 0) (tY (J:=sR)) rfl))),rfl,?_⟩
 refine ai fun U1 cM=>?_;walk_at "";intro x cdx hx aeQ ne;have s1:ao H (upd (upd H cdx (.own x)) x (.ins t.bh cdx [])):=(ao.new aeQ _).trans (ao.new (by rw[aI ne.symm];exact hx) _);have nwx:wt≠x:=aj hw hx;refine⟨x,cdx,v,pr,rfl,ah,by rw[aI ne];exact ah,rp.mono s1,dr.dep,dr.om,dr.ok.pw,dr.ok.nb,dr.ok.om,fun H2 u2 co=>⟨rfl,?_⟩⟩;have s2:ao H H2:=((a9.of s1).trans u2).same hx;have Ji:=s2 _ _ hw;refine⟨wt,_,dx,_,rfl,Ji,T.cZ,T.ck,by decide,(cM _ _).mpr ?_⟩;clear cM;have u3:a9 wt H2 (upd H2 wt (.ins t.bN dx (jK (zad "chart") (V.ref x) []))):=(a9.refl _ _).put _;have hw3:(upd H2 wt (.ins t.bN dx (jK (zad "chart") (V.ref x) []))) wt=_:=ah;have co3:=co.ins Ji nwx.symm u3;generalize upd H2 wt (.ins t.bN dx (jK (zad "chart") (V.ref x) []))=H3 at *;walk_at "";intro D hD yD;have d4:=BA (J:=sR) (P:=P) (w:=w) (K:=K) (H:=H3) yD;generalize Ae:upd H3 D (.ext (j9 sR P w D []))=H4 at *;have s4:=(bX Ae hD).1;have hw4:=s4 _ _ hw3;have co4:=co3.mono s4;have nDw:D≠wt:=(aj hw3 hD).symm;have uH:a9 wt H H4:=(a9.of s2).trans (u3.trans (a9.of s4));have hD0:H D=none:=by
  cases y:H D with
  |none=>rfl
  |some o=>have:=((a9.of s2).trans u3) D o nDw y;rw[hD] at this;cases this
 refine⟨wt,_,dx,_,rfl,hw4,T.cZ,T.cR,zb3 (LY (zah 0)) (by decide),?_⟩;have u5:a9 wt H4 (upd H4 wt (.ins t.bN dx (jK (zad "sights") (V.ref D) (jK (zad "chart") (V.ref x) [])))):=(a9.refl _ _).put _;have ndw:dx≠wt:=b5 RD hw (by intro z;cases z);refine q D _ (uH.trans u5) hD0 (WtO.toM ⟨dx,x,by rw[ah];rfl,?_,co4.ins hw4 nwx.symm u5,d4.ins hw4 u5⟩);exact u5 _ _ ndw (uH _ _ ndw RD)
theorem AG(h:A7 K C H p pr):∃dx fs fa,H p=some (.ins C dx fs)/\fs.lookup (zad "first")=some (.ref fa)/\bR K H fa (qz pr).1 (qz pr).2:=by
 obtain⟨dx,nl,sd,fa,va,st,wy,us,ws,h1,h2,h3,h4,h5,h6,_⟩:=h.at_;exact⟨dx,_,fa,h1,rfl,va,.of h5,by rw[zaB];exact .of h6⟩
theorem CU(T:Tx K mg t):bq P w K mg base dF 1 t.mP t.kS ["both"] (HL P w K t.bh t.bN):=by
 refine T.m8.F.okN wg fun _ _ _ _ H vs Q E hr h=>?_;obtain⟨b,w1,s1,w2,s2,aX,a7,rfl,wt,q⟩:=h;have nd:=wg.nd;refine⟨_,[some (.ref b)],(ak (aB (aK (aa (dY (dY (iT 0) rfl) rfl) (aa (dY (dY (iT 0) rfl) rfl) ae oP) oP)))),rfl,?_⟩;obtain⟨dx1,ch1,kv1,Oh,_,co1,_⟩:=wt.one;obtain⟨Sw,ch2,Yp,Ji,_,co2,_⟩:=wt.two;obtain⟨cx1,fs1,ML,c1,l1,qX⟩:=AG co1;obtain⟨cx2,fs2,Kz,c2,l2,xE⟩:=AG co2;walk_at "";refine aq wt.b_ (v:=.ref w1) fP ⟨w1,_,dx1,_,.ref ch1,rfl,Oh,T.cZ,T.ck,rfl,ch1,_,cx1,_,.ref ML,rfl,c1,T.dH,T.iR,l1,?_⟩;refine aq wt.b_ (v:=.ref w2) jV ⟨w2,_,Sw,_,.ref ch2,rfl,Ji,T.cZ,T.ck,rfl,ch2,_,cx2,_,.ref Kz,rfl,c2,T.dH,T.iR,l2,fun p hp=>?_⟩;have s3:=ao.new hp (.tup [V.ref ML,V.ref Kz]);exact q p _ s3 ⟨ML,Kz,.of ah,qX.mono s3,xE.mono s3⟩
theorem Es(h:Rep K H (E8 x) v):∃a y z,v=.ref a/\bG K H a [y,z]/\Rep K H (BR (A9 x)) y/\Rep K H (DO (TM x)) z:=by
 rw[TN,Rep.aJ] at h;obtain⟨a,xs,rfl,hS,r⟩:=h;rw[aC.av] at r;obtain⟨y,t1,rfl,ry,r⟩:=r;rw[aC.av] at r;obtain⟨z,t2,rfl,rz,r⟩:=r;rw[aC.aO] at r;subst r;exact⟨a,y,z,rfl,hS,ry,rz⟩
theorem zd(T:Tx K mg t):bq P w K mg base dF 9 t.oY t.mQ ["both", "pair"] (Q0 P w K t.bh t.bN):=by
 have fj:=mz (P:=P) (w:=w) (base:=base) T;refine T.lN.F.okN yt fun _ _ _ _ H vs Q E hr h=>?_;obtain⟨b,w1,s1,w2,s2,pa,aX,a7,p,rfl,wt,d1,d2,pat,pin,m1,m2,q⟩:=h;have nd:=yt.nd;refine⟨_,[some (.ref b),some (.ref pa)],(ak (aB (gu (Wn (Pq hr)) (bL gA (A6 (iT 0) T.cZ T.hV fj (hr.mono (by first|decide|omega)) T.hJ .nil nW (aa (iT 1) ae aA)) aw bI) (bL gA (A6 (iT 0) T.cZ T.hV fj (hr.mono (by first|decide|omega)) T.hJ .nil nW (aa (iT 1) ae aA)) aw bI) (aH _)))),rfl,?_⟩;obtain⟨x1,x2,hp,qX,xE⟩:=id pat;obtain⟨dx1,ch1,kv1,Oh,_⟩:=id wt.one;walk_at "";refine aq wt.b_ (v:=.ref w1) fP ⟨w1,dx1,_,rfl,Oh,rfl,?_⟩;refine aq hp (v:=.ref x1) fP ⟨w1,s1,x1,aX,p.1,rfl,wt.one,d1,qX,pin.one,m1,fun v H1 u1 n1 r1=>?_⟩;have Jk:=wt.UU u1 n1;have NS:=wt.tup (w4.one u1);obtain⟨a1,y1,z1,rfl,Ob,Yq,_⟩:=Es r1;refine aq Ob (v:=y1) fP ?_;obtain⟨Sw,ch2,Yp,Ji,_⟩:=id Jk.two;refine aq Jk.b_ (v:=.ref w2) jV ⟨w2,Sw,_,rfl,Ji,rfl,?_⟩;have Xm:bR K H1 x2 p.2.1 p.2.2:=let ⟨va,k1,k2⟩:=xE;⟨va,NS _ _ k1,NS _ _ k2⟩;refine aq (NS _ _ hp) (v:=.ref x2) jV ⟨w2,s2,x2,a7,p.2,rfl,Jk.two,d2,Xm,pin.two,m2,fun v2 H2 u2 n2 r2=>?_⟩;have Sx:=Jk.UW u2 n2;obtain⟨φ2,eg2⟩:=Jk.two.QZ;obtain⟨a2,y2,z2,rfl,CL,ry2,_⟩:=Es r2;refine aq CL (v:=y2) fP ⟨_,_,mL eg2 u2 _ _ Yq,ry2,vA _,vA _,?_⟩;have:=q H2 ((w4.one u1).trans (w4.two u2)) Sx;rw[QW];exact this
theorem NT:∀sm:aT,¬qj sm.wd=zad "end":=fun sm=>by cases sm<;>(simp only[aT.wd];decide +kernel)
theorem CV(T:Tx K mg t):bq P w K mg base dF 7 t.mN t.kQ ["chart", "standing"] (UO K t.bh):=by
 have kL:=rZ (P:=P) (w:=w) (base:=base) T;have nQ:=xq (P:=P) (w:=w) (base:=base) T;refine T.j4.F.okN we fun _ _ _ _ H vs Q E hr h=>?_;obtain⟨ch,sa,pr,st,rfl,co,dr,Al,si,q⟩:=h;have nd:=we.nd;obtain⟨RN,Cg,Ci⟩:=T.AS;refine⟨_,[some (.ref ch),some (.ref sa),none,none],(ag (fw 2 nd (cz kL T.kJ hr (a8 0 (aa (iT 1) ae aA))))
 (ag (aW (az bB (pv 2) aV (aH _))
 (ak (aB (aR ae)))
 aG)
 (ag (aW (az bB (pv 2) aV (aH _))
 (ak (aB (jN (own:=["figure"]) (ix:=[0,1]) rfl (by rfl) (by rfl) (kr rfl T.nE (aa (mC rfl Cg Ci) ae cK)) (fun _ _ _ _=>(oK 0 (by show List.Nodup (["figure", "chart", "standing"]:List Str);decide +kernel))) (fun _ _ _ _=>ei) (fun _ _ _ _=>(bL (EN (K:=K) rfl) (cz nQ T.kK hr (a8 1 (a8 2 (a8 0 ae)))) aw bI)))))
 aG)
 (ag (fw 3 nd (bL gA (cz nQ T.kK hr (a8 0 (a8 1 (aa cS ae aE)))) aw bI))
 (ag (aW (az Bg (pv 3) cS (aH _))
 (ak (aB (aR ae)))
 aG)
 (ak (aB (aR (a8 3 ae))))))))),rfl,?_⟩
 obtain⟨row,vals⟩:=st;obtain⟨va,qX,xE⟩:=id Al;refine ai fun U1 cM=>?_;walk_at "";refine aq qX (v:=.int row) fP ?_;rcases si.ok.row with h0 |⟨i,hi,er⟩
 .replace h0:row=0:=h0;subst h0;refine⟨ch,pr,0,rfl,co,dr.ok.pw,.inl ⟨rfl,(cM _ _).mpr ?_⟩⟩;refine ai fun U2 fh=>?_;walk_at "";exact(ybr trivial).mpr fun L hL=>q L _ _ (ao.new hL _) hL ah .nil
 replace er:(au pr.body)[i].row=row:=er;subst er;have MJ:(au pr.body)[i].row≠0:=by have:=dr.ok.pos _ (zam hi);lia
 obtain⟨hf,ek,ew⟩:=jh pr.body i hi;obtain⟨w0,w1⟩:=iW pr.body 0 _ (zam hf);rw[ew] at w1;obtain⟨po,so⟩:=zJ si.ok.len dr.ok.nb si.ok.small (iA pr.body _ dr.own (zam hi));have bp:∀b∈pr.ar,0<b.size:=fun b hb=>by have:=dr.size b hb;lia
 have ea:mJ pr.body (au pr.body)[i].row=decide ((au pr.body)[i].wd=.ask):=by unfold mJ;rw[qW dr.ok.pw i hi]
 have es:∀f,gg pr (au pr.body)[i].row vals f=j8 pr.ar (au pr.body)[i] (aP pr.body 0)[i].2.2 vals f:=fun f=>by unfold gg;rw[qW dr.ok.pw i hi,LZ dr.ok.pw i hi hf]
 unfold vO at q;simp only[ybq MJ,ea,decide_eq_true_eq] at q;refine⟨ch,pr,_,rfl,co,dr.ok.pw,.inr ⟨MJ,i,hi,rfl,(cM _ _).mpr (ai fun U2 fh=>?_)⟩⟩;clear cM;walk_at "";refine(ybq (NT _)).mpr ((fh _ _).mpr (ai fun U3 gJ=>?_));clear fh;walk_at "";refine dR (fun e=>?_) (fun e=>(gJ _ _).mpr ?_)
 .have e:=(Fy _).mp e;simp only[e,if_true] at q;simp only[cJ];walk_at "";refine⟨10,rfl,by decide,by decide,fun D hD=>?_⟩;refine Hm (J:=Ox 0 10) (fun τ=>∃x,τ=[x,some (.ref ch),some (.ref sa)]) ((zaS 10).map fun f=>V.int (f:Nat)) (fun j ys H2=>ao H H2/\BB K H2 ((zaS j).map fun f=>((gg pr (au pr.body)[i].row vals (f:Nat)).1.getD ((au pr.body)[i].row,vals))) ys) ?_ ?_ ?_ (by simp) hD ⟨none,rfl⟩ ⟨ao.new hD _,.nil⟩ ?_ ?_
  .intro j H2 _ hj;show j<10;simpa using hj
  .intro H2 _;show 10<=_;simp
  .intro j H2 x H3 _ hj hy;have lj:j<10:=by simpa using hj
   obtain⟨rfl,rfl⟩:=hy;exact⟨rfl,by simp[lj]⟩
  .rintro j x ys τ H2 hx ⟨x0,rfl⟩ s2 yD ly ⟨_,sy⟩ R hR
   have lj:j<10:=by have:=(zaj.mp hx).1;simpa using this
   have hx:x=.int (j:Nat):=by simpa[lj] using hx.symm
   subst hx;walk_at "";refine⟨ch,sa,_,pr,vals,(j:Nat),i,hi,hf,rfl,co.mono s2,dr.ok,bp,Al.mono s2,si.ok.len,fun _=>rfl,po,w0,w1,fun q1 sv H3 s3 k1 o1=>?_⟩;rw[<- es] at k1 o1;have hn:=Qp (pr:=pr) (au pr.body)[i].row vals (j:Nat) (by rw[ea];exact ybs e);refine aq k1 (v:=sv) fP (hR _ _ _ ⟨_,rfl⟩ s3 ⟨?_,?_⟩)
   .exact(((a9.of (s2.trans s3)).put _).same hD)
   .rw[zb5,zas];cases ho:(gg pr (au pr.body)[i].row vals (j:Nat)).1 with
    |none=>exact ybw ho hn
    |some y=>
     rw[ho] at o1;obtain⟨ya,rfl,Og⟩:=o1;have Oi:=s3 _ _ yD;have z:=Hn (x:=y) (L7 sy fun _ _ _ h=>h.mono s3) Og;simp only[zaq,zbE,ho,zcq];exact L7 z fun _ _ _ h=>h.upL Oi ((a9.refl D H3).put _)
  .rintro ys H2 s2 yD ly ⟨_,sy⟩
   rw[zab,zbJ] at sy;exact q D ys H2 s2 hD yD sy
 .have e:(au pr.body)[i].wd≠.ask:=fun z=>e ((Fy _).mpr z);simp only[ybq e] at q;walk_at "";refine⟨ch,sa,.cH,pr,vals,0,i,hi,hf,rfl,co,dr.ok,bp,Al,si.ok.len,fun z=>ybw z e,po,w0,w1,fun q1 sv H2 s2 k1 o1=>?_⟩;rw[<- es] at k1 o1;refine aq k1 (v:=sv) fP ?_;cases ho:(gg pr (au pr.body)[i].row vals 0).1 with
  |none=>
   rw[ho] at o1 q;exact(ybr o1).mpr fun p hp=>q p _ _ (s2.trans (ao.new hp _)) (s2.free hp) ah .nil
  |some x=>
   rw[ho] at o1 q;obtain⟨xa,rfl,xs⟩:=o1;exact(ybq (by intro z;cases z)).mpr fun p hp=>q p _ _ (s2.trans (ao.new hp _)) (s2.free hp) ah (.cons ⟨xa,rfl,xs.mono (ao.new hp _)⟩ .nil)
theorem ints_rep:∀{l:List Int}{ys:List V},aC K H (l.map Dp.int) ys->ys=l.map V.int
 |[],ys,h=>by rw[zbE,aC.aO] at h;exact h
 |n::l,ys,h=>by
  rw[zaq,aC.av] at h;obtain⟨y,t,rfl,r,h⟩:=h;rw[Rep.bu.mp r,ints_rep h];rfl
theorem Bc(r:Rep K H (BR h) v):∃a ys,v=.ref a/\bG K H a (.str (Ed h)::ys):=by
 cases h<;>(simp only[BR,Rep.aJ] at r;obtain⟨a,xs,rfl,hS,r⟩:=r;rw[aC.av] at r;obtain⟨y,t1,rfl,ry,r⟩:=r;cases Rep.aZ.mp ry;exact⟨a,_,rfl,hS⟩)
theorem vd{s:gw}(h:Rep K H (DO (some s)) v):∃a,v=.ref a/\bR K H a s.1 s.2:=by
 rw[DO,Rep.aJ] at h;obtain⟨a,xs,rfl,hS,r⟩:=h;rw[aC.av] at r;obtain⟨y,t1,rfl,ry,r⟩:=r;cases Rep.bu.mp ry;rw[aC.av] at r;obtain⟨z,t2,rfl,rz,r⟩:=r;rw[aC.aO] at r;subst r;obtain⟨va,ys,rfl,h2,r2⟩:=Rep.aJ.mp rz;refine⟨a,rfl,va,hS,?_⟩;have e:ys=s.2.map V.int:=ints_rep r2;rw[<- e];exact h2
theorem AX(T:Tx K mg t):bq P w K mg base dF 11 t.jZ t.jt ["both", "pair"] (HM P w K t.bh t.bN):=by
 have fj:=mz (P:=P) (w:=w) (base:=base) T;have vf:=zd (P:=P) (w:=w) (base:=base) T;have zf:=CV (P:=P) (w:=w) (base:=base) T;refine T.j5.F.okN sW fun _ _ _ _ H vs Q E hr h=>?_;obtain⟨b,w1,s1,w2,s2,pa,aX,a7,p,rfl,wt,d1,d2,pat,pin,m1,m2,q⟩:=h;have nd:=sW.nd;refine⟨_,[some (.ref b),some (.ref pa),none,none],(ag (aW (EB (tM (cz vf T.lN hr (a8 0 (a8 1 ae)))))
 (ak (aB (aR ae)))
 aG)
 (ag (fw 2 nd (A6 (iT 0) T.cZ T.hV fj (hr.mono (by first|decide|omega)) T.hJ .nil nW (aa (iT 1) ae aA)))
 (ag (fw 3 nd (A6 (iT 0) T.cZ T.hV fj (hr.mono (by first|decide|omega)) T.hJ .nil nW (aa (iT 1) ae aA)))
 (ag (aW (az bB (bL gA (iT 2) aw bI) aV (aH _))
 (ak (aB (aR (aa (aK (aa (iT 2) (aa (iT 3) ae aA) aA)) ae dO))))
 aG)
 (ag (aW (az bB (bL gA (iT 2) aw bI) aV (aH _))
 (ak (aB (Kf rfl rfl T.uU rfl T.Mw (aa (cz zf T.j4 hr (aa (dY (iT 0) rfl) (aa (iT 2) ae aA) oP)) (aa (cz zf T.j4 hr (aa (dY (iT 0) rfl) (aa (iT 3) ae aA) oP)) ae bw) bw))))
 aG)
 (ak (aB (aR ae)))))))),rfl,?_⟩
 refine ai fun U1 cM=>?_;walk_at "";refine⟨b,w1,s1,w2,s2,pa,aX,a7,p,rfl,wt,d1,d2,pat,pin,m1,m2,fun H1 u1 Jk=>?_⟩;unfold AR;by_cases hh:A9 (jv aX p.1)=A9 (jv a7 p.2)
 rotate_left
 .rw[ybt hh];refine⟨_,rfl,(ybr rfl).mpr fun l hl=>q l [] _ (u1.trans (.of (ao.new hl _))) (Jk.mono (ao.new hl _)) (Jk.free u1 hl) ah ?_⟩;unfold wZ;rw[ybr hh];exact .nil
 rw[ybs hh];refine⟨_,rfl,(ybq zag).mpr ((cM _ _).mpr (ai fun U2 fh=>?_))⟩;clear cM;have aeS:=pat.lZ (wt.tup u1);obtain⟨x1,x2,hp,qX,xE⟩:=id aeS;obtain⟨dx1,ch1,kv1,Oh,_⟩:=id Jk.one;walk_at "";refine aq Jk.b_ (v:=.ref w1) fP ⟨w1,dx1,_,rfl,Oh,rfl,?_⟩;refine aq hp (v:=.ref x1) fP ⟨w1,s1,x1,aX,p.1,rfl,Jk.one,d1,qX,pin.one,m1,fun v H2 u2 n2 r2=>(fh _ _).mpr (ai fun U3 gJ=>?_)⟩;clear fh;have Sx:=Jk.UU u2 n2;have Vq:=Jk.tup (w4.one u2);obtain⟨a1,y1,z1,rfl,Ob,Yq,rz1⟩:=Es r2;obtain⟨Sw,ch2,Yp,Ji,_⟩:=id Sx.two;have Xm:bR K H2 x2 p.2.1 p.2.2:=let ⟨va,k1,k2⟩:=xE;⟨va,Vq _ _ k1,Vq _ _ k2⟩;walk_at "";refine aq Sx.b_ (v:=.ref w2) jV ⟨w2,Sw,_,rfl,Ji,rfl,?_⟩;refine aq (Vq _ _ hp) (v:=.ref x2) jV ⟨w2,s2,x2,a7,p.2,rfl,Sx.two,d2,Xm,pin.two,m2,fun v2 H3 u3 n3 r3=>(gJ _ _).mpr (ai fun U4 jI=>?_)⟩;clear gJ;have wt3:=Sx.UW u3 n3;have tt3:=Sx.tup (w4.two u3);obtain⟨φ2,eg2⟩:=Sx.two.QZ;obtain⟨a2,y2,z2,rfl,CL,ry2,Sy⟩:=Es r3;have CY:=mL eg2 u3 _ _ Yq;have CZ:=mL eg2 u3 _ _ rz1;have Ub:=tt3 _ _ Ob;have MH:w4 s1 s2 H H3:=u1.trans ((w4.one u2).trans (w4.two u3));obtain⟨ha,hys,rfl,Vr⟩:=Bc CY;have qq:∀l us H',ao H3 H'->H3 l=none->H' l=some (.lst us)->gN K H' (wZ aX a7 p) us->Q (.ref l) H':=fun l us H' s' n=>q l us H' (MH.trans (.of s')) (wt3.mono s') (wt3.free MH n);clear q;unfold wZ at qq;simp only[hh,ne_eq,not_true_eq_false,if_false] at qq;have n1:∀h:Hd,Ed h=zad "say"->∃n,h=.say n:=fun h e=>by cases h<;>first |exact⟨_,rfl⟩ |exact ybw e (by decide +kernel)
 have n2:∀h:Hd,Ed h=zad "ask"->h=.ask:=fun h e=>by cases h<;>first |rfl |exact ybw e (by decide +kernel) |exact ybw e (show ¬(zad "say":Str)=zad "ask" by decide +kernel)
 walk_at "";refine aq Ub (v:=.ref ha) fP (aq Vr (v:=.str (Ed (A9 (jv aX p.1)))) fP ⟨rfl,?_⟩);refine dR (fun e=>?_) (fun e=>(jI _ _).mpr (ai fun U5 tj=>?_))
 .obtain⟨n,e1⟩:=n1 _ (V.str.inj e);have e2:=hh.symm.trans e1;cases g1:jv aX p.1<;>rw[g1] at e1<;>cases e1
  cases g2:jv a7 p.2<;>rw[g2] at e2<;>cases e2
  rename_i sa sb;rw[g1] at CZ;rw[g2] at Sy;simp only[g1,g2] at qq;obtain⟨b1,rfl,t1⟩:=vd CZ;obtain⟨b2,rfl,t2⟩:=vd Sy;refine aq Ub (v:=.ref b1) jV (aq CL (v:=.ref b2) jV fun c hc l hl=>?_);have sc:=ao.new hc (.tup [V.ref b1,V.ref b2]);have sl:=ao.new hl (.lst [V.ref c]);exact qq l _ _ (sc.trans sl) (sc.free hl) ah (.cons ⟨c,rfl,b1,b2,.of (sl _ _ ah),t1.mono (sc.trans sl),t2.mono (sc.trans sl)⟩ .nil)
 clear jI;walk_at "";refine aq Ub (v:=.ref ha) fP (aq Vr (v:=.str (Ed (A9 (jv aX p.1)))) fP ⟨rfl,?_⟩);refine dR (fun e3=>?_) (fun e3=>(tj _ _).mpr ?_)
 .have e1:=n2 _ (V.str.inj e3);have e2:=hh.symm.trans e1;cases g1:jv aX p.1<;>rw[g1] at e1<;>cases e1
  cases g2:jv a7 p.2<;>rw[g2] at e2<;>cases e2
  rename_i sa sb;rw[g1] at CZ;rw[g2] at Sy;simp only[g1,g2] at qq;obtain⟨b1,rfl,t1⟩:=vd CZ;obtain⟨b2,rfl,t2⟩:=vd Sy;have si1:=wY d1 _ [] p.1 sa pin.one (by show TM (jv aX p.1)=_;rw[g1];rfl);have Yi:=wY d2 _ [] p.2 sb pin.two (by show TM (jv a7 p.2)=_;rw[g2];rfl);obtain⟨k1,k2⟩:=rq _ _ _ _ g1;obtain⟨k3,k4⟩:=rq _ _ _ _ g2;obtain⟨ex1,eh1,al5,aeU,_,aeV,_⟩:=id wt3.one;simp only[tLZ];walk_at "";refine aq wt3.b_ (v:=.ref w1) fP ⟨w1,_,ex1,_,.ref eh1,rfl,aeU,T.cZ,T.ck,rfl,?_⟩;refine aq Ub (v:=.ref b1) jV ⟨eh1,b1,aX,sa,rfl,aeV,d1,t1,si1,fun l1 Nn H4 s4 f4 y4 aaK=>?_⟩;have wt4:=wt3.mono s4;obtain⟨ex2,eh2,al7,aeW,_,aeX,_⟩:=id wt4.two;refine aq wt4.b_ (v:=.ref w2) jV ⟨w2,_,ex2,_,.ref eh2,rfl,aeW,T.cZ,T.ck,rfl,?_⟩;refine aq (s4.aS CL) (v:=.ref b2) jV ⟨eh2,b2,a7,sb,rfl,aeX,d2,t2.mono s4,Yi,fun l2 LU H5 s5 f5 y5 aaL=>?_⟩;have lu1:Nn.length=10:=by rw[<- yaj aaK];exact lL k1 k2
  have lu2:LU.length=10:=by rw[<- yaj aaL];exact lL k3 k4
  refine⟨l1,l2,Nn,LU,rfl,.of (s5 _ _ y4),.of y5,by lia,fun pz ps H6 f6 s6 y6 lp hq=>?_⟩;refine qq pz _ H6 (s4.trans (s5.trans s6)) ((s4.trans s5).free f6) y6 (Ee (by rw[zbs,lL k1 k2,lL k3 k4,zab];lia) fun i a v ea ev=>?_);rw[zaf] at ev;obtain⟨c,hc,rfl⟩:=zaT.mp ev;rw[zbC] at ea;have li:i<ps.length:=(zaj.mp hc).1;obtain⟨_,ht⟩:=hq i c _ _ hc (zac (by lia)) (zac (by lia));obtain⟨q1,c1,g1',e1',t1'⟩:=Mq aaK (zac (show i<Nn.length by lia));obtain⟨q2,c2,g2',Ve,t2'⟩:=Mq aaL (zac (show i<LU.length by lia));rw[ea.1] at g1';rw[ea.2] at g2';cases g1';cases g2';rw[e1',Ve] at ht;exact⟨c,rfl,c1,c2,.of ht,t1'.mono (s5.trans s6),t2'.mono s6⟩
 .clear tj;walk_at "";refine fun l hl=>qq l [] _ (ao.new hl _) hl ah ?_;cases g1:jv aX p.1 with
  |say=>rw[g1] at e;exact ybw rfl e
  |ask=>rw[g1] at e3;exact ybw rfl e3
  |_=>exact .nil
theorem vg(T:Tx K mg t):bq P w K mg base dF 9 t.kX t.j0 ["one", "other", "pair"] (Ef K):=by
 have AH:=FD (P:=P) (w:=w) (base:=base) T;have pQ:=zc (P:=P) (w:=w) (base:=base) T;refine T.jm.F.okN uQ fun _ _ _ _ H vs Q E hr h=>?_;obtain⟨m1,m2,pa,aX,a7,p,rfl,Sz,SA,d1,d2,pat,pin,mm1,Vn,q⟩:=h;have nd:=uQ.nd;refine⟨_,[some (.ref m1),some (.ref m2),some (.ref pa),none,none,none,none,none],(ag (gQ (cz AH T.lQ hr (a8 0 (aa (iT 2) ae aA))) (zl rfl (cV (oK 3 nd) (cV (kM (i:=4) nd rfl (zbi rfl)) mD))))
 (ag (gQ (cz AH T.lQ hr (a8 1 (aa (iT 2) ae aA))) (zl rfl (cV (oK 5 nd) (cV (kM (i:=6) nd rfl (zbi rfl)) mD))))
 (ag (aW (az (Pp (Pq hr)) (pv 3) (pv 5) (aH _))
 (ak (aB (aR (aa cS (aa (aR ae) ae jO) aE))))
 aG)
 (ag (aW (az bB (iT 3) aV (aH _))
 (ak (aB (aR (a8 3 (aa (aR (aa (aK (a8 4 (a8 6 ae))) ae dO)) ae jO)))))
 aG)
 (ag (aW (az bB (iT 3) aV (aH _))
 (ag (mI (i:=7) nd rfl (zbe rfl) (own:=["figure"]) (ix:=[0,1,4,6]) rfl (by rfl) (by rfl) (kr rfl T.nE (aa aw ae aE)) (fun _ _ _ _=>(oK 0 (by show List.Nodup (["figure", "one", "other", "here", "there"]:List Str);decide +kernel))) (fun _ _ _ _=>ei) (fun _ _ _ _=>(aK (aa (bL (Bq (K:=K) rfl) (cz pQ T.jH hr (a8 1 (a8 3 (a8 0 ae)))) aw bI) (aa (bL (Bq (K:=K) rfl) (cz pQ T.jH hr (a8 2 (a8 4 (a8 0 ae)))) aw bI) ae aA) aA))))
 (ak (aB (aR (a8 3 (a8 7 ae))))))
 aG)
 (ak (aB (aR (a8 3 (aa (aR ae) ae jO)))))))))),rfl,?_⟩
 obtain⟨x1,x2,hp,qX,xE⟩:=id pat;refine ai fun U1 cM=>?_;walk_at "";refine aq hp (v:=.ref x1) fP ⟨m1,x1,aX,p.1,rfl,Sz,d1,qX,pin.one,mm1,fun v H1 s1 r1=>?_⟩;obtain⟨a1,y1,z1,rfl,Ob,Yq,rz1⟩:=Es r1;refine⟨a1,_,rfl,Ob,rfl,_,_,rfl,_,_,rfl,rfl,(cM _ _).mpr (ai fun U2 fh=>?_)⟩;clear cM;simp only[zba];walk_at "";refine aq (s1.aS hp) (v:=.ref x2) jV ⟨m2,x2,a7,p.2,rfl,SA.mono s1,d2,xE.mono s1,pin.two,Vn,fun v2 H2 s2 r2=>?_⟩;obtain⟨a2,y2,z2,rfl,CL,ry2,Sy⟩:=Es r2;refine⟨a2,_,rfl,CL,rfl,_,_,rfl,_,_,rfl,rfl,(fh _ _).mpr (ai fun U3 gJ=>?_)⟩;clear fh;simp only[zba];have xG:=s1.trans s2;have CY:=Yq.mono s2;have CZ:=rz1.mono s2;have e1:E9 aX (cw aX+1) [] p.1=jv aX p.1:=rfl;have e2:E9 a7 (cw a7+1) [] p.2=jv a7 p.2:=rfl;rw[e1] at CY CZ;rw[e2] at ry2 Sy;have qq:∀l sv lb us H',ao H2 H'->H' l=some (.lst [sv,.ref lb])->hdV K H' (if AR aX a7 p=true then some (A9 (jv aX p.1)) else none) sv->H' lb=some (.lst us)->gN K H' (wZ aX a7 p) us->Q (.ref l) H':=fun l sv lb us H' s'=>q l sv lb us H' (xG.trans s');have aeY:=Sz.mono xG;have aeZ:=SA.mono xG;clear q r1 r2 Yq rz1 Ob CL e1 e2;walk_at "";refine⟨_,_,CY,ry2,vA _,vA _,?_⟩;rw[QW];unfold AR wZ at qq;by_cases hh:A9 (jv aX p.1)=A9 (jv a7 p.2)
 rotate_left
 .rw[ybt hh];refine⟨_,rfl,(ybr rfl).mpr fun lb hlb l hl=>?_⟩;have sa:=ao.new hlb (.lst []);have sb:=ao.new hl (.lst [V.cH,V.ref lb]);refine qq l .cH lb [] _ (sa.trans sb) ah ?_ (sb _ _ ah) ?_
  .rw[ybq (by simp[hh])];rfl
  .rw[ybr hh];exact .nil
 rw[ybs hh];simp only[hh,ne_eq,not_true_eq_false,if_false,decide_true,if_true] at qq;rw[<- hh] at qq;obtain⟨ha,hys,rfl,Vr⟩:=Bc CY;have n1:∀h:Hd,Ed h=zad "say"->∃n,h=.say n:=fun h e=>by cases h<;>first |exact⟨_,rfl⟩ |exact ybw e (by decide +kernel)
 have n2:∀h:Hd,Ed h=zad "ask"->h=.ask:=fun h e=>by cases h<;>first |rfl |exact ybw e (by decide +kernel) |exact ybw e (show ¬(zad "say":Str)=zad "ask" by decide +kernel)
 refine⟨_,rfl,(ybq zag).mpr ((gJ _ _).mpr (ai fun U4 jI=>?_))⟩;clear gJ;walk_at "";refine aq Vr (v:=.str (Ed (A9 (jv aX p.1)))) fP ⟨rfl,?_⟩;refine dR (fun e=>?_) (fun e=>(jI _ _).mpr (ai fun U5 tj=>?_))
 .obtain⟨n,e1⟩:=n1 _ (V.str.inj e);have e2:=hh.symm.trans e1;cases g1:jv aX p.1<;>rw[g1] at e1<;>cases e1
  cases g2:jv a7 p.2<;>rw[g2] at e2<;>cases e2
  rename_i sa sb;rw[g1] at CZ CY;rw[g2] at Sy;simp only[g1,g2] at qq;obtain⟨b1,rfl,t1⟩:=vd CZ;obtain⟨b2,rfl,t2⟩:=vd Sy;intro c hc lb hlb l hl;have sc:=ao.new hc (.tup [V.ref b1,V.ref b2]);have sd:=ao.new hlb (.lst [V.ref c]);have se:=ao.new hl (.lst [V.ref ha,V.ref lb]);have sA:=sc.trans (sd.trans se);exact qq l (.ref ha) lb _ _ sA ah (CY.mono sA) (se _ _ ah) (.cons ⟨c,rfl,b1,b2,.of (se _ _ (sd _ _ ah)),t1.mono sA,t2.mono sA⟩ .nil)
 clear jI;walk_at "";refine aq Vr (v:=.str (Ed (A9 (jv aX p.1)))) fP ⟨rfl,?_⟩;refine dR (fun e3=>?_) (fun e3=>(tj _ _).mpr ?_)
 .have e1:=n2 _ (V.str.inj e3);have e2:=hh.symm.trans e1;cases g1:jv aX p.1<;>rw[g1] at e1<;>cases e1
  cases g2:jv a7 p.2<;>rw[g2] at e2<;>cases e2
  rename_i sa sb;rw[g1] at CZ CY;rw[g2] at Sy;simp only[g1,g2] at qq;obtain⟨b1,rfl,t1⟩:=vd CZ;obtain⟨b2,rfl,t2⟩:=vd Sy;have si1:=wY d1 _ [] p.1 sa pin.one (by show TM (jv aX p.1)=_;rw[g1];rfl);have Yi:=wY d2 _ [] p.2 sb pin.two (by show TM (jv a7 p.2)=_;rw[g2];rfl);obtain⟨k1,k2⟩:=rq _ _ _ _ g1;obtain⟨k3,k4⟩:=rq _ _ _ _ g2;simp only[cJ];walk_at "";refine⟨10,rfl,by decide,by decide,fun D hD=>?_⟩;refine zX (n:=10) (r:=[some (.ref m1),some (.ref m2),some (.ref b1),some (.ref b2)]) (fun i ys H3=>ao H2 H3/\H3 D=some (.lst ys)/\ys.length=i/\gN K H3 (((vO aX sa).zip (vO a7 sb)).take i) ys) (by decide) (fun i ys H3 h=>⟨h.2.1,h.2.2.1⟩) ⟨ao.new hD _,ah,rfl,.nil⟩ (fun i ys H3 hi pv R hR=>?_) (fun ys H3 pv=>?_)
  .obtain⟨s3,yD,ly,w5⟩:=pv;obtain⟨c1,ec1⟩:=HS (pr:=aX) k2 (i:Nat);obtain⟨c2,ec2⟩:=HS (pr:=a7) k4 (i:Nat);walk_at "";refine⟨m1,b1,.int i,i,aX,sa,rfl,aeY.mono s3,d1,t1.mono s3,si1,k1,.inr ⟨k2,rfl⟩,fun l1 sv1 H4 s4 y4 o4=>?_⟩;rw[ec1] at o4;obtain⟨ya,rfl,Og⟩:=o4;refine aL (.of y4) (v:=.ref ya) fP ⟨m2,b2,.int i,i,a7,sb,rfl,(aeZ.mono s3).mono s4,d2,(t2.mono s3).mono s4,Yi,k3,.inr ⟨k4,rfl⟩,fun l2 sv2 H5 s5 y5 o5=>?_⟩;rw[ec2] at o5;obtain⟨yb,rfl,ae0⟩:=o5;refine aL (.of y5) (v:=.ref yb) fP fun c hc=>?_;generalize nG:upd H5 c (.tup [V.ref ya,V.ref yb])=H6 at *;obtain⟨sc,yc⟩:=bX nG hc;have s35:=s4.trans (s5.trans sc);have yD6:=s35 _ _ yD;have u7:a9 D H6 (upd H6 D (.lst (ys++[V.ref c]))):=(a9.refl _ _).put _;refine hR _ _ yD6 ⟨fun b o e=>u7 _ _ (aj e hD) (s35 _ _ (s3 _ _ e)),ah,by simp[ly],?_⟩;have ez:((vO aX sa).zip (vO a7 sb))[i]?=some (c1,c2):=zbC.mpr ⟨Q5 k1 k2 hi ec1,Q5 k3 k4 hi ec2⟩;rw[zbW,ez];have tt:∀a xs,bG K H6 a xs->bG K (upd H6 D (.lst (ys++[V.ref c]))) a xs:=fun a xs h=>h.Qd yD6 u7;exact gN.snoc ((w5.mono s35).lZ tt) (mM.lZ ⟨ya,yb,.of yc,Og.mono (s5.trans sc),ae0.mono sc⟩ tt)
  obtain⟨s3,yD,ly,w5⟩:=pv;rw[zaZ (by rw[zbs,lL k1 k2,lL k3 k4];decide)] at w5;walk_at "";intro l hl;have se:=ao.new hl (.lst [V.ref ha,V.ref D]);exact qq l (.ref ha) D _ _ (s3.trans se) ah (CY.mono (s3.trans se)) (se _ _ yD) (w5.mono se)
 .clear tj;walk_at "";intro lb hlb l hl;have sa:=ao.new hlb (.lst []);have sb:=ao.new hl (.lst [V.ref ha,V.ref lb]);refine qq l (.ref ha) lb [] _ (sa.trans sb) ah (CY.mono (sa.trans sb)) (sb _ _ ah) ?_;cases g1:jv aX p.1 with
  |say=>rw[g1] at e;exact ybw rfl e
  |ask=>rw[g1] at e3;exact ybw rfl e3
  |_=>exact .nil
theorem C0(T:Tx K mg t):bq P w K mg base dF 11 t.m6 t.k5 ["one", "other", "paper"] (HQ K):=by
 have qh:=vg (P:=P) (w:=w) (base:=base) T;refine T.nu.F.okN wB fun _ _ _ _ H vs Q E hr h=>?_;obtain⟨m1,m2,pa,aX,a7,l,us,rfl,Sz,SA,d1,d2,mm1,Vn,hpa,hl,uZ,om,q⟩:=h;have nd:=wB.nd;have line:zdq=2 ^ 24:=rfl;have qJ:us.length=l.length:=(yaj hl).symm;refine⟨_,[some (.ref m1),some (.ref m2),some (.ref pa),none,none,none,none],(ag (ma (i:=3) nd rfl (zbi rfl) (tY (J:=Ay)))
 (ag (gR yag rfl (bt (pv 2)) (oK 4 nd)
 (ak (qw (J:=Ay) (Hl hr) (pv 3) (pv 4) nU rfl)))
 (ag (aW (az (nP (J:=Ay) (Hl hr)) (aK (aa (iL 0) (aa (iL 1) ae aA) aA)) (pv 3) rfl)
 (ak (aB nU))
 aG)
 (ag (gR yag rfl (BC (J:=Ay) (pv 3)) (oK 4 nd)
 (ag (gQ (cz qh T.jm hr (a8 0 (a8 1 (a8 4 ae)))) (JN rfl (cV (oK 5 nd) (cV (oK 6 nd) mD))))
 (ak (aW (PW.pt (pw_or (az Bg (pv 5) cS (aH _)) (pw_or1 (az (qm (gc hr)) (jN (own:=["there"]) (ix:=[3]) rfl (by rfl) (by rfl) (bt (pv 6)) (fun _ _ _ _=>(oK 0 (by show List.Nodup (["there", "known"]:List Str);decide +kernel))) (fun _ _ _ _=>(Tb (az (ND (J:=Ay) (P:=P) (w:=w) (K:=K) rfl rfl rfl (Hl hr)) (pv 0) (pv 1) rfl))) (fun _ _ _ _=>(pv 0))) (aR ae) (aH _)))))
 (ak (aB nU))
 aG))))
 (ak (aB nU)))))),rfl,?_⟩
 refine ai fun U1 cM=>?_;walk_at "";intro D hD yD;refine(cM _ _).mpr (ai fun U2 fh=>?_);clear cM;have ds1:=BA (J:=Ay) (P:=P) (w:=w) (K:=K) (H:=H) yD;generalize nG:upd H D (.ext (j9 Ay P w D []))=H1 at *;have s1:=(bX nG hD).1;refine jg fun U hU=>?_;walk_at "";refine⟨⟨us,s1.seq hpa⟩,hU _ _ ?_⟩;clear hU;obtain⟨Pv,nH,iF⟩:=Je fun (i:Nat) (G:St) (Hx:Hp) zq=>∀(z:Option V),G=[some (.ref m1),some (.ref m2),some (.ref pa),some (.ref D),z,none,none]->ao H Hx->DS Ay P w K Hx D (Gh (l.take i))->zq;refine jd (K:=K) (a:=pa) (xs:=us) Pv (nH _ _ _ fun _ zk=>zk _ rfl s1 (by rw[zc6];exact ds1)) (fun i G Hx _ hv=>?_) (fun i y G Hx hi hv=>?_) (fun G Hx hv=>?_)
 .exact iF _ _ _ hv _ fun _ _ sx _=>sx.seq hpa
 .refine iF _ _ _ hv _ fun z ze sx ds=>?_;subst ze;clear hv;obtain⟨p,a,ep,rfl,pat⟩:=hl.get hi;have lk:=TU (l.take i);rw[zbt] at lk;simp only[cF,zba];walk_at "";refine⟨D,a,_,kF p,rfl,rfl,ds,yj (pat.mono sx),by lia,fun H4 d4 e4=>nH _ _ _ fun _ zk=>zk _ rfl ?_ ?_⟩
  .obtain⟨φ,rfl⟩:=e4;exact fun b o e=>by rw[aI (aj e hD)];exact sx _ _ e
  .rw[Q6] at d4;rw[zbW,ep];exact d4
 refine iF _ _ _ hv _ fun z ze sx ds=>?_;subst ze;clear hv;rw[qJ,zaH] at ds;refine(fh _ _).mpr (ai fun U3 gJ=>?_);clear fh;obtain⟨F1,N1,Z1,ML,h1,t1⟩:=yk (Sz.mono sx);obtain⟨F2,N2,Z2,Kz,h2,t2⟩:=yk (SA.mono sx);walk_at "";refine aL (.of h1) (v:=.ref ML) (aF (j:=3) rfl) (aL (.of h2) (v:=.ref Kz) (aF (j:=3) rfl) fun c hc=>?_);generalize Ae:upd Hx c (.tup [V.ref ML,V.ref Kz])=H8 at *;obtain⟨sc,W7⟩:=bX Ae hc;refine⟨D,c,_,kF (qz aX,qz a7),rfl,rfl,ds.mono sc,yj ⟨ML,Kz,.of W7,t1.mono sc,t2.mono sc⟩,?_⟩;rw[BX];have s8:=sx.trans sc;have ds8:=ds.mono sc;clear ds h1 h2 t1 t2 sx ds1;by_cases hf:(qz aX,qz a7)∈l
 rotate_left
 .rw[ybt hf];refine(ybr rfl).mpr ?_;have:=q H8 s8;rw[show pW aX a7 l=false by unfold pW;rw[ybt hf,zcz]] at this;exact this
 rw[ybs hf];refine(ybq zag).mpr ((gJ _ _).mpr (ai fun U4 jI=>?_));clear gJ;refine BD fun U hU=>?_;simp only[Ma];walk_at "";refine⟨D,_,rfl,ds8,fun o ps fz po=>hU _ _ ?_⟩;clear hU;obtain⟨φd,ed⟩:=ds8.wQ;have uF:a9 D H8 (upd H8 D (kC D o)):=(a9.refl _ _).put _;have NS:∀a xs,bG K H8 a xs->bG K (upd H8 D (kC D o)) a xs:=fun a xs h=>h.sZ ed uF;have yF:(upd H8 D (kC D o)) D=some (kC D o):=ah;have fzF:=fz.up NS;have Ky:ps.length=(Gh l).length:=(yaj po).symm;have po1:∀i c v',ps[i]?=some (c,v')->∃(kv:(eV×eV)×V) (p:jw),(Gh l)[i]?=some kv/\kv.1=kF p/\p∈l/\mM K (upd H8 D (kC D o)) c p:=fun i c v' hi=>by
  obtain⟨kv,KQ,on,_⟩:=kE po hi;obtain⟨p,hp,e⟩:=HP (zaC KQ);rw[e] at on;exact⟨kv,p,KQ,e,hp,(Ff on).lZ NS⟩
 have sz:ao H (upd H8 D (kC D o)):=fun b o' e=>uF _ _ (aj e hD) (s8 _ _ e);generalize upd H8 D (kC D o)=Hz at *;obtain⟨Pw,Io,Kw⟩:=Je fun (i:Nat) (G:St) (Hw:Hp) zq=>∀(z z5 z6:Option V),G=[some (.ref m1),some (.ref m2),some (.ref pa),some (.ref D),z,z5,z6]->ao Hz Hw->(∀j,j<i->∀kv,(Gh l)[j]?=some kv->∀p,kv.1=kF p->Km aX a7 l p=true)->zq;refine E2 (d:=D) (o:=o) (ps:=ps) Pw (Io _ _ _ fun _ zk=>zk _ _ _ rfl (.refl _) (fun j hj=>by lia)) (fun i G Hw _ hv=>?_) (fun i c v' G Hw hi hv=>?_) (fun G Hw hv=>?_)
 .exact Kw _ _ _ hv _ fun _ _ _ _ sw _=>sw _ _ yF
 .refine Kw _ _ _ hv _ fun z z5 z6 ze sw gd=>?_;subst ze;clear hv;obtain⟨kv,p,KQ,ekv,hp,pat⟩:=po1 i c v' hi;have szw:=sz.trans sw;have bad:∀H',ao Hw H'->Km aX a7 l p=false->Q (.bl false) H':=fun H' s' g=>by
   have:=q H' (szw.trans s');rw[Az hp g] at this;exact this
  simp only[cF,zba];refine ai fun V1 yV=>?_;walk_at "";refine⟨m1,m2,c,aX,a7,p,rfl,Sz.mono szw,SA.mono szw,d1,d2,pat.mono sw,uZ p hp,mm1,Vn,fun r sv lb ub H9 s9 y9 Oj Xn Uc=>⟨r,_,rfl,.of y9,rfl,_,_,rfl,_,_,rfl,rfl,(yV _ _).mpr ?_⟩⟩;clear yV;cases ha:AR aX a7 p with
  |false=>
   rw[ha,ybq zag] at Oj;cases (show sv=.cH from Oj);walk_at "";exact(ybr trivial).mpr (bad H9 s9 (by unfold Km;rw[ha];rfl))
  |true=>
  rw[ha,ybr rfl] at Oj;obtain⟨hda,hys,rfl,_⟩:=Bc Oj;walk_at "";refine(ybq (by intro z;cases z)).mpr ?_;simp only[cJ];walk_at "";have lub:ub.length=(wZ aX a7 p).length:=(yaj Uc).symm;have Va:=Mr aX a7 p;refine⟨⟨ub,.of Xn⟩,fun D2 MA=>?_⟩;refine Q3 (J:=AZ K lb) (fun τ=>∃x,τ=[x,some (.ref D)]) ub (fun i=>!decide ((wZ aX a7 p).getD i ((0,[]),(0,[]))∈l)) (fun i H2 s2 h=>⟨ub,ub[i],s2.seq (.of Xn),by simp[h]⟩) (fun H2 s2=>⟨ub,s2.seq (.of Xn),zah _⟩) (fun i H2 x H3 s2 h y=>⟨y.1,y.2 _ (s2.seq (.of Xn))⟩) (by lia) MA ⟨none,rfl⟩ ?_ ?_
  .rintro j x τ HB hx ⟨x0,rfl⟩ sB R hR
   obtain⟨p2,a2,RO,rfl,Xo⟩:=Uc.get hx;walk_at "";refine⟨D,a2,_,kF p2,o,rfl,rfl,(sw.trans (s9.trans sB)) _ _ yF,fzF.up fun _ _ z=>(sw.trans (s9.trans sB)).aS z,yj (Xo.mono sB),?_⟩;rw[BX];have:=hR [some (V.ref a2),some (.ref D)] HB ⟨_,rfl⟩ (.refl _) ⟨_,fun R' h=>h⟩;simp only[zap,RO,zcq] at this;exact⟨_,rfl,this⟩
  .intro ys HB sB yB W0 p5 Ei;have s5:=ao.new Ei (.lst []);refine⟨D2,p5,ys,rfl,rfl,.of (s5 _ _ yB),.of ah,?_⟩;rw[lub] at W0;have fn:=filter_none (l:=l) (m:=wZ aX a7 p);cases Sv:(wZ aX a7 p).all fun b=>decide (b∈l) with
   |false=>
    have:ys.isEmpty=false:=by
     cases ys with
     |nil=>rw[Sv] at fn;exact ybw (fn.mp W0.symm) zag
     |cons=>rfl
    rw[this];exact(ybr rfl).mpr (bad _ (s9.trans (sB.trans s5)) (by unfold Km;rw[ha,Sv];rfl))
   |true=>
   have:ys.isEmpty=true:=by
    rw[List.isEmpty_iff,<- zbw,W0];exact fn.mpr Sv
   rw[this];refine(ybq zag).mpr (Io _ _ _ fun _ zk=>zk _ _ _ rfl (sw.trans (s9.trans (sB.trans s5))) fun j hj Yp e2 p2 RO=>?_);rcases Nat.lt_or_ge j i with h |h
   .exact gd j h Yp e2 p2 RO
   .have:j=i:=by lia
    subst this;rw[KQ] at e2;cases e2;rw[ekv] at RO;cases yi RO;unfold Km;rw[ha,Sv];rfl
 .refine Kw _ _ _ hv _ fun z z5 z6 ze sw gd=>?_;subst ze;clear hv;refine(jI _ _).mpr ?_;walk_at "";have:=q Hw (sz.trans sw);rw[BY hf fun kv hk p ep=>by
   obtain⟨j,hj⟩:=zcs.mp hk;have lj:=(zaj.mp hj).1;exact gd j (by lia) kv hj p ep] at this
  exact this
theorem C1(T:Tx K mg t):bq P w K mg base dF 11 t.m4 t.kY ["one", "other"] (HR K):=by
 have qh:=vg (P:=P) (w:=w) (base:=base) T;refine T.nh.F.okN wx fun _ _ _ _ H vs Q E hr h=>?_;obtain⟨m1,m2,aX,a7,rfl,Sz,SA,d1,d2,mm1,Vn,q⟩:=h;have nd:=wx.nd;have line:zdq=2 ^ 24:=rfl;have hN:cw aX*cw a7<=1183744:=zcB mm1 Vn;generalize hNN:cw aX*cw a7=N at hN;have om:∀l:List jw,l.Nodup->(∀p∈l,BS aX a7 p)->l.length<=N:=fun l n h=>by rw[<- hNN];exact NH n h
 refine⟨_,[some (.ref m1),some (.ref m2),none,none,none,none,none,none,none,none],(ag (fw 2 nd (tY (J:=Ay)))
 (ag (fw 3 nd cS)
 (ag (fw 4 nd (aR (aa (aK (aa (aK ae) (aa (aK (aa (iL 0) (aa (iL 1) ae aA) aA)) ae dO) dO)) ae dO)))
 (ag (xI yag (az (qm (gc hr)) (pv 4) (aR ae) (aH _))
 (ag (fw 5 nd (aR ae))
 (ag (gR yag rfl (bt (pv 4)) (zl rfl (cV (kM (i:=6) nd rfl (zbi rfl)) (cV (oK 7 nd) mD)))
 (ak (xI yag (PW.pt (pw_and (az A4 (pv 7) cS (aH _)) (pw_and1 (az (nP (J:=Ay) (Hl hr)) (pv 7) (pv 2) rfl))))
 (ag (qw (J:=Ay) (Hl hr) (pv 2) (pv 7) nU rfl)
 (ag (gQ (cz qh T.jm hr (a8 0 (a8 1 (a8 7 ae)))) (JN rfl (cV (oK 8 nd) (cV (kM (i:=9) nd rfl (zbi rfl)) mD))))
 (ag (aW (PW.pt (pw_and (az Bg (pv 8) cS (aH _)) (pw_and1 (az Bg (pv 3) cS (aH _)))))
 (ak (fw 3 nd (bH mH rfl T.uU ybE (a8 6 ae))))
 aG)
 (ag (fw 7 nd cS)
 (ak (aW (PW.pt (pw_and (az A4 (pv 8) cS (aH _)) (pw_and1 (az bB (iT 8) aV (aH _)))))
 (ak (fw 7 nd (iL 9)))
 (ak (aW (PW.pt (pw_and (az A4 (pv 8) cS (aH _)) (pw_and1 (az bB (iT 8) aV (aH _)))))
 (ak (fw 5 nd (aY fX (pv 5) (jN (own:=["figure"]) (ix:=[6,9]) rfl (by rfl) (by rfl) (kr rfl T.nE (aa aw ae aE)) (fun _ _ _ _=>(oK 0 (by show List.Nodup (["figure", "figures", "more"]:List Str);decide +kernel))) (fun _ _ _ _=>ei) (fun _ _ _ _=>(aK (aa (aY (Q4 (K:=K) rfl) (pv 1) (aK (a8 0 ae))) (aa (bL (Bq (K:=K) rfl) (pv 2) (pv 0) jr) ae aA) qS)))))))
 aG)))))))))))
 (ak (fw 4 nd (pv 5))))))
 (ak (aB (aR (aa (bH (J8 (J:=Ay) rfl) rfl T.uU ybE (a8 2 ae)) (a8 3 ae) bw)))))))),rfl,?_⟩
 refine ai fun U1 cM=>?_;walk_at "";intro D hD yD;refine(cM _ _).mpr (ai fun U2 fh=>?_);clear cM;have ds1:=BA (J:=Ay) (P:=P) (w:=w) (K:=K) (H:=H) yD;generalize nG:upd H D (.ext (j9 Ay P w D []))=H1 at *;have s1:=(bX nG hD).1;walk_at "";refine(fh _ _).mpr (ai fun U3 gJ=>?_);clear fh;obtain⟨F1,N1,Z1,ML,h1,t1⟩:=yk (Sz.mono s1);obtain⟨F2,N2,Z2,Kz,h2,t2⟩:=yk (SA.mono s1);walk_at "";intro e0 Xp;have sa:=ao.new Xp (.tup []);refine aL (.of (sa _ _ h1)) (v:=.ref ML) (aF (j:=3) rfl) (aL (.of (sa _ _ h2)) (v:=.ref Kz) (aF (j:=3) rfl) fun c hc e1 he1 du hdu=>?_);have sb:=ao.new hc (.tup [V.ref ML,V.ref Kz]);have sc:=ao.new he1 (.tup [V.ref e0,V.ref c]);have sd:=ao.new hdu (.lst [V.ref e1]);have Vk:=sa.trans (sb.trans (sc.trans sd));have ae5:wc K aX a7 (upd (upd (upd (upd H1 e0 (.tup [])) c (.tup [V.ref ML,V.ref Kz])) e1 (.tup [V.ref e0,V.ref c])) du (.lst [V.ref e1])) 0 [V.ref e1]:=fun v hv=>by
  cases zai.mp hv;refine⟨e1,e0,c,[],(qz aX,qz a7),rfl,.of (sd _ _ ah),.of (sd _ _ (sc _ _ (sb _ _ ah))),zah _,⟨ML,Kz,.of (sd _ _ (sc _ _ ah)),?_,?_⟩,⟨eW.first d1,eW.first d2⟩⟩
  .exact t1.mono Vk
  .exact t2.mono Vk
 have ydu:(upd (upd (upd (upd H1 e0 (.tup [])) c (.tup [V.ref ML,V.ref Kz])) e1 (.tup [V.ref e0,V.ref c])) du (.lst [V.ref e1])) du=some (.lst [V.ref e1]):=ah;have ds4:=ds1.mono Vk;have uX:=s1.trans Vk;clear sa sb sc sd h1 h2 t1 t2 ds1;generalize upd (upd (upd (upd H1 e0 (.tup [])) c (.tup [V.ref ML,V.ref Kz])) e1 (.tup [V.ref e0,V.ref c])) du (.lst [V.ref e1])=H4 at *;refine(gJ _ _).mpr (ai fun U4 jI=>?_);clear gJ hc Xp he1 hdu Vk s1;have tD:∀{Hx Hy:Hp} {gl:List jw},DS Ay P w K Hx D (sU gl)->a9 D Hx Hy->∀b ys,bG K Hx b ys->bG K Hy b ys:=fun d u b ys h=>by
  obtain⟨φ,e⟩:=d.wQ;exact h.sZ e u
 refine EZ fun Bd Od=>?_;walk_at "";obtain⟨Iv,Gm,RK⟩:=Je fun (m:Nat) (G:St) (Hx:Hp) zq=>∀(gl:List jw) (us:List V) (du:zdi) (dv:V) (z5 z6 z7 z8 z9:Option V),G=[some (.ref m1),some (.ref m2),some (.ref D),some dv,some (.ref du),z5,z6,z7,z8,z9]->ao H Hx->DS Ay P w K Hx D (sU gl)->gl.Nodup->(∀p∈gl,BS aX a7 p)->Hx du=some (.lst us)->wc K aX a7 Hx gl.length us->us.length<=10*gl.length+1->(us=[]->gl≠[])->m=2*(N-gl.length)+(if us=[] then 0 else 1)->zq;refine⟨Iv,⟨_,Gm _ _ _ fun _ zk=>zk [] [.ref e1] du .cH _ _ _ _ _ rfl uX ds4 zbf (fun _ z=>by cases z) ydu ae5 (by simp) (fun z=>by cases z) rfl⟩,?_⟩;intro m G Hx hv;refine RK _ _ _ hv _ fun gl us du dv z5 z6 z7 z8 z9 ze sx ds ngl igl yu dok lu une em=>?_;subst ze em;clear hv;have lgl:=om gl ngl igl;walk_at "";intro p5 Ei;generalize Ae:upd Hx p5 (.lst [])=H5 at *;obtain⟨s5,W7⟩:=bX Ae Ei;refine⟨du,p5,us,rfl,rfl,.of (s5 _ _ yu),.of W7,?_⟩;have sx5:=sx.trans s5;have ds5:=ds.mono s5;have yu5:=s5 _ _ yu;have Xq:=dok.lZ (zah _) fun _ _ h=>s5.aS h;clear sx ds yu dok s5;cases us with
 |nil=>
  refine(ybq zag).mpr ((jI _ _).mpr ?_);walk_at "";refine⟨D,_,rfl,ds5,fun L ws hL pw l hl=>?_⟩;have sL:=ao.new hL (.lst ws);have sl:=ao.new hl (.lst [V.ref L,dv]);refine q l L dv gl ws _ (sx5.trans (sL.trans sl)) (sx5.free hL) ah (sl _ _ ah) ?_ igl (une rfl) (by lia);have:gN K H5 gl ws:=by
   unfold sU at pw;clear hL hl sL sl ds5 lgl une Xq lu ngl igl
   induction gl generalizing ws with
   |nil=>cases pw;exact .nil
   |cons x r ih=>
    rw[zaq] at pw;cases pw with
    |cons a b=>obtain⟨z,rfl,on⟩:=a;exact .cons ⟨z,rfl,Ff on⟩ (ih _ b)
  exact this.mono (sL.trans sl)
 |cons u0 ut=>
 generalize Vi:u0::ut=us at *;have JL:us≠[]:=by rw[<- Vi];simp
 rw[show (!us.isEmpty)=true by rw[<- Vi];rfl];refine(ybr rfl).mpr ⟨fun G' H'=>∃m',m'<2*(N-gl.length)+(if us=[] then 0 else 1)/\Iv m' G' H',fun G' H' h=>h,Od _ _ _ (ai fun V1 yV=>?_)⟩;clear Od jI;walk_at "";intro la0 ae7;generalize NJ:upd H5 la0 (.lst [])=H6 at *;obtain⟨s6,NU⟩:=bX NJ ae7;refine(yV _ _).mpr (ai fun V2 Gj=>?_);clear yV;have sx6:=sx5.trans s6;have ds6:=ds5.mono s6;have yu6:=s6 _ _ yu5;have afa:=Xq.lZ (zah _) fun _ _ h=>s6.aS h;clear sx5 ds5 yu5 Xq s6;refine jg fun U hU=>?_;walk_at "";refine⟨⟨us,.of yu6⟩,hU _ _ ?_⟩;clear hU;obtain⟨Pv,nH,iF⟩:=Je fun (i:Nat) (G:St) (Hx:Hp) zq=>∀(MM:List jw) (qJ:List V) (la:zdi) (dv:V) (z6 z7 z8 z9:Option V),G=[some (.ref m1),some (.ref m2),some (.ref D),some dv,some (.ref du),some (.ref la),z6,z7,z8,z9]->a9 D H6 Hx->DS Ay P w K Hx D (sU MM)->MM.Nodup->(∀p∈MM,BS aX a7 p)->gl.length<=MM.length->(MM=[]->i=0)->Hx la=some (.lst qJ)->wc K aX a7 Hx MM.length qJ->qJ.length<=10*MM.length->(qJ≠[]->gl.length<MM.length)->zq;have nDu:du≠D:=fun z=>by
  obtain⟨φ,e⟩:=ds6.wQ;rw[<- z,yu6] at e;cases e
 refine jd (K:=K) (a:=du) (xs:=us) Pv (nH _ _ _ fun _ zk=>zk gl [] la0 dv _ _ _ _ rfl (.refl _ _) ds6 ngl igl (zah _) (fun _=>rfl) NU (fun _ z=>by cases z) (by simp) (fun z=>ybw rfl z)) (fun i G Hx _ hv=>?_) (fun i y G Hx hi hv=>?_) (fun G Hx hv=>?_)
 .exact iF _ _ _ hv _ fun _ _ _ _ _ _ _ _ _ u _ _ _ _ _ _ _ _ _=>.of (u _ _ nDu yu6)
 .refine iF _ _ _ hv _ fun MM qJ la dv z6 z7 z8 z9 ze ux dsx ngx igx lgx gne NU Xr llx grow=>?_;subst ze;clear hv;obtain⟨a,fa,pa,ns,p,rfl,hA,hF,lns,pat,pin⟩:=afa _ (zaC hi);have tt:=tD ds6 ux;refine⟨a,_,rfl,tt _ _ hA,rfl,_,_,rfl,_,_,rfl,rfl,?_⟩;simp only[zba];have hFx:=tt _ _ hF;have Xd:=pat.lZ tt;refine EZ fun Be hBe=>?_;walk_at "";obtain⟨Iw,hIw,afc⟩:=Je fun (m:Nat) (G:St) (Hy:Hp) zq=>∀(gm:List jw) (qJ:List V) (la:zdi) (dv pv:V) (z8 z9:Option V),G=[some (.ref m1),some (.ref m2),some (.ref D),some dv,some (.ref du),some (.ref la),some (.ref fa),some pv,z8,z9]->a9 D Hx Hy->DS Ay P w K Hy D (sU gm)->gm.Nodup->(∀p∈gm,BS aX a7 p)->MM.length<=gm.length->ZM K aX a7 Hy pv->(gm=[]->pv≠.cH)->Hy la=some (.lst qJ)->wc K aX a7 Hy gm.length qJ->qJ.length<=10*gm.length->(qJ≠[]->gl.length<gm.length)->m=N-gm.length->zq;refine⟨Iw,⟨_,hIw _ _ _ fun _ zk=>zk MM qJ la dv (.ref pa) _ _ rfl (.refl _ _) dsx ngx igx (zah _) (.inr ⟨pa,p,rfl,Xd,pin⟩) (fun _ z=>by cases z) NU Xr llx grow rfl⟩,?_⟩;intro m G Hy hv;refine afc _ _ _ hv _ fun gm qJ la dv pv z8 z9 ze uy Ud ngm igm lgm op aff NU NV lly Vs em=>?_;subst ze em;clear hv;have lm:=om gm ngm igm;have out:∀(Hy:Hp),a9 D Hx Hy->DS Ay P w K Hy D (sU gm)->gm≠[]->Hy la=some (.lst qJ)->wc K aX a7 Hy gm.length qJ->Pv (i+1) [some (.ref m1),some (.ref m2),some (.ref D),some dv,some (.ref du),some (.ref la),some (.ref fa),some pv,z8,z9] Hy:=fun Hy uy Ud gn NU NV=>nH _ _ _ fun _ zk=>zk gm qJ la dv _ _ _ _ rfl (ux.trans uy) Ud ngm igm (zaz lgx lgm) (fun z=>ybw z gn) NU NV lly Vs;walk_at "";rcases op with rfl |⟨pb,pp,rfl,Ue,Xs⟩
  .exact(ybr (by simp)).mpr (out Hy uy Ud (fun z=>aff z rfl) NU NV)
  refine(ybq (by simp)).mpr ⟨D,pb,_,kF pp,rfl,rfl,Ud,yj Ue,?_⟩;rw[HU];by_cases uZ:pp∈gm
  .rw[ybs uZ];exact(ybq zag).mpr (out Hy uy Ud (fun z=>by rw[z] at uZ;cases uZ) NU NV)
  rw[ybt uZ];clear out;have NQ:(gm++[pp]).Nodup:=zbd.mpr ⟨ngm,by simp,fun a ha b hb=>by rw[zai.mp hb];exact fun z=>uZ (z▸ha)⟩;have in1:∀x∈gm++[pp],BS aX a7 x:=fun x hx=>by
   rcases zak.mp hx with hx |hx
   .exact igm x hx
   .rw[zai.mp hx];exact Xs
  have Ua:=om _ NQ in1;have l1:(gm++[pp]).length=gm.length+1:=by simp
  rw[l1] at Ua;refine(ybr rfl).mpr ⟨Iw (N-(gm++[pp]).length),fun G' H' h=>⟨_,by rw[l1];lia,h⟩,hBe _ _ _ (ai fun W1 hW1=>?_)⟩;clear hBe;walk_at "";refine⟨D,pb,_,kF pp,rfl,rfl,Ud,yj Ue,by rw[sU,zab];lia,fun H7 d7 e7=>(hW1 _ _).mpr (ai fun W2 hW2=>?_)⟩;clear hW1;obtain⟨φ7,e7⟩:=e7;have u7:a9 D Hy H7:=by rw[e7];exact(a9.refl _ _).put _
  have t7:=tD Ud u7;rw[NG uZ] at d7;have nla:la≠D:=fun z=>by
   obtain⟨φ,e⟩:=Ud.wQ;rw[<- z,NU] at e;cases e
  have aaR:=u7 _ _ nla NU;have aaS:wc K aX a7 H7 (gm++[pp]).length qJ:=NV.lZ (by rw[l1];lia) t7;have hF7:bG K H7 fa (ns.map V.int):=t7 _ _ (tD dsx uy _ _ hFx);have afh:=Ue.lZ t7;have uy7:=uy.trans u7;have Yr:ao H H7:=fun b o e=>(ux.trans uy7) _ _ (aj e hD) (sx6 _ _ e);clear e7 u7 t7 NV NU Ud Ue;walk_at "";refine⟨m1,m2,pb,aX,a7,pp,rfl,Sz.mono Yr,SA.mono Yr,d1,d2,afh,Xs,by lia,by lia,fun r sv lb ub H9 s9 y9 Oj Xn Uc=>⟨r,_,rfl,.of y9,rfl,_,_,rfl,_,_,rfl,rfl,(hW2 _ _).mpr (ai fun W3 hW3=>?_)⟩⟩;clear hW2;have hi9:=WQ d1 d2 Xs;have Va:=Mr aX a7 pp;have lub:ub.length=(wZ aX a7 pp).length:=(yaj Uc).symm;have rest:∀(dv':V) (Ha:Hp),ao H9 Ha->W3 [some (.ref m1),some (.ref m2),some (.ref D),some dv',some (.ref du),some (.ref la),some (.ref fa),some (.ref pb),some sv,some (.ref lb)] Ha:=by
   intro dv' Ha sA;have s9A:=s9.trans sA;have dA:=d7.mono s9A;have aaV:=s9A _ _ aaR;have aaW:=aaS.lZ (zah _) fun _ _ h=>s9A.aS h;have hFA:=s9A.aS hF7;have uA:=uy7.trans (.of s9A);have aaX:=sA _ _ Xn;have Xt:=Uc.mono sA;have hvA:hdV K Ha (if AR aX a7 pp=true then some (A9 (jv aX pp.1)) else none) sv:=by
    cases hq:AR aX a7 pp with
    |false=>rw[hq] at Oj;exact Oj
    |true=>
     rw[hq] at Oj;have Oj:Rep K H9 (BR (A9 (jv aX pp.1))) sv:=Oj;exact Oj.mono sA
   clear s9 y9 Oj Xn Uc aaR aaS hF7 d7;refine(hW3 _ _).mpr (ai fun W4 hW4=>?_);clear hW3;walk_at "";refine(hW4 _ _).mpr ?_;clear hW4;have back:∀(pv:V) (Hb:Hp),ao Ha Hb->ZM K aX a7 Hb pv->Iw (N-(gm++[pp]).length) [some (.ref m1),some (.ref m2),some (.ref D),some dv',some (.ref du),some (.ref la),some (.ref fa),some pv,some sv,some (.ref lb)] Hb:=fun pv Hb sB op=>hIw _ _ _ fun _ zk=>zk (gm++[pp]) qJ la dv' pv _ _ rfl (uA.trans (.of sB)) (dA.mono sB) NQ in1 (by rw[l1];lia) op (fun z=>by simp at z) (sB _ _ aaV) (aaW.lZ (zah _) fun _ _ h=>sB.aS h) (by rw[l1];lia) (fun z=>by have:=Vs z;rw[l1];lia) rfl;cases hal:AR aX a7 pp with
   |false=>
    rw[hal,ybq zag] at hvA;cases (show sv=.cH from hvA);walk_at "";exact(ybr trivial).mpr ((ybq zag).mpr ((ybr trivial).mpr ((ybq zag).mpr (back .cH Ha (.refl _) (.inl rfl)))))
   |true=>
   rw[hal,ybr rfl] at hvA;obtain⟨hda,hys,rfl,Vr⟩:=Bc hvA;have n1:∀h:Hd,Ed h=zad "say"->∃n,h=.say n:=fun h e=>by cases h<;>first |exact⟨_,rfl⟩ |exact ybw e (by decide +kernel)
   have n2:∀h:Hd,Ed h=zad "ask"->h=.ask:=fun h e=>by cases h<;>first |rfl |exact ybw e (by decide +kernel) |exact ybw e (show ¬(zad "say":Str)=zad "ask" by decide +kernel)
   have hh:A9 (jv aX pp.1)=A9 (jv a7 pp.2):=ybu hal;walk_at "";refine(ybq (by simp)).mpr (aq Vr (v:=.str (Ed (A9 (jv aX pp.1)))) fP ⟨rfl,dR (fun e=>?_) (fun e=>?_)⟩)
   .obtain⟨n,e1⟩:=n1 _ (V.str.inj e);have e2:=hh.symm.trans e1;cases g1:jv aX pp.1<;>rw[g1] at e1<;>cases e1
    cases g2:jv a7 pp.2<;>rw[g2] at e2<;>cases e2
    rename_i sa sb;have epb:wZ aX a7 pp=[(sa,sb)]:=by
     unfold wZ;simp only[g1,g2];rw[ybq (by simp[A9])]
    rw[epb] at Xt hi9;cases Xt with
    |cons z1 z2=>
     cases z2;obtain⟨c,rfl,Xu⟩:=z1;exact aL (.of aaX) (v:=.ref c) fP (back (.ref c) Ha (.refl _) (.inr ⟨c,_,rfl,Xu,hi9 _ (zai.mpr rfl)⟩))
   refine(ybq (by simp)).mpr (aq Vr (v:=.str (Ed (A9 (jv aX pp.1)))) fP ⟨rfl,dR (fun e3=>?_) (fun e3=>back .cH Ha (.refl _) (.inl rfl))⟩);have e1:=n2 _ (V.str.inj e3);have e2:=hh.symm.trans e1;cases g1:jv aX pp.1<;>rw[g1] at e1<;>cases e1
   cases g2:jv a7 pp.2<;>rw[g2] at e2<;>cases e2
   rename_i sa sb;obtain⟨k1,k2⟩:=rq _ _ _ _ g1;obtain⟨k3,k4⟩:=rq _ _ _ _ g2;have lpb:(wZ aX a7 pp).length=10:=by
    unfold wZ;simp only[g1,g2];rw[ybq (by simp[A9]),zbs,lL k1 k2,lL k3 k4];rfl
   simp only[cJ];walk_at "";refine⟨10,rfl,by decide,by decide,fun D2 MA=>?_⟩;refine zX (n:=10) (r:=[some (.ref fa),some (.ref lb)]) (fun i ys H3=>ao Ha H3/\H3 D2=some (.lst ys)/\ys.length=i/\wc K aX a7 H3 (gm++[pp]).length ys) (by decide) (fun i ys H3 h=>⟨h.2.1,h.2.2.1⟩) ⟨ao.new MA _,ah,rfl,fun _ z=>by cases z⟩ (fun i ys H3 hi pv R hR=>?_) (fun ys H3 pv=>?_)
   .obtain⟨s3,Rm,ly,dk⟩:=pv;walk_at "";intro c1 Wt;have sc1:=ao.new Wt (.tup [V.int (i:Nat)]);refine⟨fa,c1,_,_,rfl,rfl,sc1.aS (s3.aS hFA),.of ah,by rw[zab];simp;lia,fun fb Hc sC hfb=>?_⟩;have s3c:=sc1.trans sC;have sAc:=s3.trans s3c;obtain⟨pc,ac,epc,eac,Xu⟩:=(Xt.mono sAc).get (zac (show i<ub.length by lia));refine aL (.of (sAc _ _ aaX)) (v:=ub[i]) (aF (zac (by lia))) ?_;rw[eac];intro c2 VY;generalize T5:upd Hc c2 (.tup [V.ref fb,V.ref ac])=Hd at *;obtain⟨sc2,yc2⟩:=bX T5 VY;have s3d:=s3c.trans sc2;have afm:=sc2.aS hfb;have aaY:=Xu.mono sc2;have Oi:=s3d _ _ Rm;have uE:a9 D2 Hd (upd Hd D2 (.lst (ys++[V.ref c2]))):=(a9.refl _ _).put _;have Vq:∀a xs,bG K Hd a xs->bG K (upd Hd D2 (.lst (ys++[V.ref c2]))) a xs:=fun a xs h=>h.Qd Oi uE;refine hR _ _ Oi ⟨fun b o e=>uE _ _ (aj e MA) (s3d _ _ (s3 _ _ e)),ah,by simp[ly],fun v hv=>?_⟩;rcases zak.mp hv with hv |hv
    .exact(dk.lZ (zah _) fun b ys h=>Vq _ _ (s3d.aS h)) v hv
    .cases zai.mp hv;refine⟨c2,fb,ac,ns++[(i:Int)],pc,rfl,Vq _ _ (.of yc2),Vq _ _ (by rw[zas];exact afm),by rw[zae,l1];simp;lia,aaY.lZ Vq,hi9 _ (zaC epc)⟩
   obtain⟨s3,Rm,ly,dk⟩:=pv;refine⟨la,D2,qJ,ys,rfl,rfl,s3 _ _ aaV,Rm,by lia,fun lc hlc=>?_⟩;have sE:=ao.new hlc (.lst (qJ++ys));have sAE:=s3.trans sE;refine hIw _ _ _ fun _ zk=>zk (gm++[pp]) (qJ++ys) lc dv' .cH _ _ rfl (uA.trans (.of sAE)) (dA.mono sAE) NQ in1 (by rw[l1];lia) (.inl rfl) (fun z=>by simp at z) ah (fun v hv=>?_) (by rw[l1,zae];lia) (fun _=>by rw[l1];lia) rfl;rcases zak.mp hv with hv |hv
   .exact(aaW.lZ (zah _) fun _ _ h=>sAE.aS h) v hv
   .exact(dk.lZ (zah _) fun _ _ h=>sE.aS h) v hv
  walk_at "";by_cases hs:sv=.cH
  .refine(ybr (by simp[hs])).mpr (dR (fun _=>?_) fun _=>rest dv H9 (.refl _));refine⟨fa,_,rfl,.inr (s9.aS hF7),fun L hL=>rest _ _ (ao.new hL _)⟩
  .exact(ybq (by simp[hs])).mpr (rest dv H9 (.refl _))
 refine iF _ _ _ hv _ fun MM qJ la dv z6 z7 z8 z9 ze ux dsx ngx igx lgx gne NU Xr llx grow=>?_;subst ze;clear hv;refine(Gj _ _).mpr ?_;clear Gj;walk_at "";have ams:=om MM ngx igx;have afo:us.length≠0:=fun z=>JL (zbw.mp z);refine⟨_,?_,Gm _ _ _ fun _ zk=>zk MM qJ la dv _ _ _ _ _ rfl (fun b o e=>ux _ _ (aj e hD) (sx6 _ _ e)) dsx ngx igx NU Xr (by lia) (fun _ z=>afo (gne z)) rfl⟩;rw[ybq JL];by_cases hl:qJ=[]
 .rw[ybr hl];lia
 .rw[ybq hl];have:=grow hl;lia
theorem Ug(s:aT):∃ds,b3 s=.tup (.str (qj s.wd) :: .int s.row::ds)/\(Dp.str (qj s.wd) :: .int s.row::ds).drop 5=(ay s).map (fun b=>Dp.lst (b.map b3))/\ds.length<=6:=by
 cases s with
 |ask k b=>exact⟨_,rfl,rfl,by simp⟩
 |put k b e=>exact⟨_,rfl,rfl,by simp⟩
 |say k e=>exact⟨_,rfl,rfl,by simp⟩
 |bE k sg l r=>exact⟨_,rfl,rfl,by simp⟩
 |stop k=>exact⟨_,rfl,rfl,by simp⟩
 |ifs k sg l r a b=>exact⟨[.str (S sg),iD l,iD r,.lst (EM a),.lst (EM b)],rfl,by rw[ic,ic];rfl,by simp⟩
 |fM k sg l r a=>exact⟨[.str (S sg),iD l,iD r,.lst (EM a)],rfl,by rw[ic];rfl,by simp⟩
theorem Cj:∀(n:Nat){ds:List Dp}{vs:List V},aC K H ds vs->aC K H (ds.drop n) (vs.drop n)
 |0,_,_,r=>r
 |n+1,[],vs,r=>by cases aC.aO.mp r;exact .nil
 |n+1,d::ds,vs,r=>by
  obtain⟨v,t,rfl,_,r2⟩:=aC.av.mp r;exact Cj n r2
theorem RP(s:aT)(r:Rep K H (b3 s) v):∃a ys,v=.ref a/\bG K H a (.str (qj s.wd) :: .int s.row::ys)/\ys.length<=6/\aC K H ((ay s).map fun b=>Dp.lst (b.map b3)) ((V.str (qj s.wd) :: .int s.row::ys).drop 5):=by
 obtain⟨ds,e,ed,hl⟩:=Ug s;rw[e] at r;obtain⟨a,full,rfl,hS,rf⟩:=Rep.aJ.mp r;have rd:=Cj 5 rf;rw[ed] at rd;obtain⟨v0,t0,rfl,r0,rf2⟩:=aC.av.mp rf;obtain⟨v1,t1,rfl,r1,rf3⟩:=aC.av.mp rf2;cases Rep.aZ.mp r0;cases Rep.bu.mp r1;exact⟨a,t1,rfl,hS,by rw[rf3.length];exact hl,rd⟩
theorem RQ{j:Nat}(h:(ay s)[j]?=some c):(au c).length<=(bA s).length:=by
 cases s with
 |ask |put |say |bE |stop=>simp[ay] at h
 |ifs k sg l r a b=>
  have:c=a\/c=b:=by simpa[ay] using zaC h
  rw[bA,zal,zae];rcases this with rfl |rfl<;>lia
 |fM k sg l r a=>
  have:c=a:=by simpa[ay] using zaC h
  rw[bA,zal,this];lia
theorem aaZ(xs:List V)(j:Nat):je xs (some (j:Int)) none=xs.drop j:=by
 unfold je;rw[HT.lD,HT.mE];by_cases h:j<=xs.length
 .rw[zb7 h,zaZ (by rw[zaU];lia)]
 .rw[zcb (by lia),zbQ (by lia),zbQ (by lia),zc8]
theorem Ck:∀(n:Nat){ds:List aT}{vs:List V},aC K H (ds.map b3) vs->aC K H ((ds.drop n).map b3) (vs.drop n)
 |0,_,_,r=>r
 |n+1,[],vs,r=>by cases aC.aO.mp r;exact .nil
 |n+1,d::ds,vs,r=>by
  obtain⟨v,t,rfl,_,r2⟩:=aC.av.mp r;exact Ck n r2
theorem RR(s:aT)(r:Rep K H (b3 s) v):∃a ys,v=.ref a/\bG K H a (.str (qj s.wd) :: .int s.row::ys):=by
 cases s<;>(simp only[b3,Rep.aJ,aC.av,Rep.aZ,Rep.bu] at r;obtain⟨a,ys,rfl,hS,_,_,rfl,rfl,_,_,rfl,rfl,_⟩:=r;exact⟨a,_,rfl,hS⟩)
theorem Am{r:St}{ss:List aT}(hS:jJ K H a xs)(rs:aC K H (ss.map b3) xs)(hl:xs.length<=16000000)(hD:H D=none)
 (step:∀(p:zdi) (w0:V) (k:Int) (ys:List V) H2,bG K H2 p (w0 :: .int k::ys)->∀R:VK,R (.int k) H2->te (some (.ref p)::r) H2 R)
 (q:∀H2,ao H H2->H2 D=some (.lst ((ss.map (·.row)).map V.int))->Q (.ref D) H2):jf (AZ K a) D (cF 0) me te Q (none::r) (upd H D (.lst [])):=by
 have lx:xs.length=ss.length:=by rw[rs.length,zab]
 refine dP (fun i ys _=>ys=((ss.take i).map (·.row)).map V.int) hS hl hD (by simp) (fun i x ys H2 hx s2 h2 ly p2 R hR=>?_) (fun ys H2 s2 h2 p2=>q H2 s2 ?_)
 .have li:i<ss.length:=by have:=(zaj.mp hx).1;lia
  obtain⟨v',qK,rv⟩:=rs.get (i:=i) (d:=b3 ss[i]) (by rw[zaf,zac li];rfl);rw[hx] at qK;cases qK;obtain⟨p,zs,rfl,hp⟩:=RR _ rv;refine step p _ _ _ H2 (s2.aS hp) R (hR _ _ (.refl _) ?_);show ys++[V.int ss[i].row]=((ss.take (i+1)).map (·.row)).map V.int;rw[p2,zbW,zac li,zas,zas];rfl
 .have p2:ys=((ss.take xs.length).map (·.row)).map V.int:=p2;rw[lx,zaH] at p2;rw[<- p2];exact h2
theorem IC(ss:List aT)(x:Int):((ss.map (·.row)).map V.int++[V.int x])[0]?=some (V.int (br ss x)):=by
 cases ss<;>rfl
theorem MN:∀{b:List aT}{s:aT},s∈b->gV s<=dg b
 |x::r,s,h=>by
  rw[dg];rcases zan.mp h with rfl |h
  .exact Nat.le_max_left _ _
  .exact zaz (MN h) (Nat.le_max_right _ _)
theorem NW(b:List aT)(x:Int):(aP b x).length=(au b).length:=by
 have h1:=ybv zaQ (gB b x);have h2:=ybv zaQ (ij b);rw[zab] at h1 h2;rw[h1,<- h2]
theorem Uh(l:ps.length=sp.length)(h1:∀kv∈kvs,kv.1≠.inl s.row)(h2:∀t∈sp,t.row<s.row):putK (kvs++cP sp ps) (.inl s.row) v=kvs++cP (sp++[s]) (ps++[v]):=by
 rw[zF sp [s] ps [v] l,<- zau];unfold putK;rw[ybq]
 .rfl
 .intro z;obtain⟨kv,KQ,e⟩:=zcM.mp z;have e:kv.1=.inl s.row:=by simpa using e
  rcases zak.mp KQ with hk |hk
  .exact h1 kv hk e
  .have hm:kv.1∈(cP sp ps).map (·.1):=zar.mpr ⟨kv,hk,rfl⟩;rw[nY sp ps l,e] at hm;obtain⟨t,ht,et⟩:=zar.mp hm;have:=h2 t ht;have et:t.row=s.row:=Sum.inl.inj et;lia
theorem Vt:∀w:Wd,(qj w=zad "if")↔w=.ifs:=by
 intro w;cases w<;>decide +kernel
theorem aa0:∀w:Wd,(qj w=zad "while")↔w=.fM:=by
 intro w;cases w<;>decide +kernel
theorem aa1:∀w:Wd,(qj w=zad "stop")↔w=.stop:=by
 intro w;cases w<;>decide +kernel
theorem RS(s:aT):∃r,bA s=s::r:=by cases s<;>exact⟨_,rfl⟩
theorem An(h:zs[0]?=some (V.int y)):((a.map (·.row)).map V.int++zs)[0]?=some (V.int (br a y)):=by
 cases a with
 |nil=>exact h
 |cons s r=>rfl
theorem Ui(T:Tx K mg t)(lR:bq P w K mg base dF (n+1) t.jF t.i4 ["body", "then", "found"] (zW K n)) :
 bq P w K mg base dF (n+2) t.jF t.i4 ["body", "then", "found"] (zW K (n+1)):=by
 refine T.iO.F.okN yI fun _ _ _ _ H vs Q E hr h=>?_;obtain⟨b,F,x,body,H0,kvs,rfl,rb,hF0,s0,hF,hk,pw,hl,hd,q⟩:=h;have nd:=yI.nd;have hu:=gc hr;refine⟨_,[some (V.ref b),some (V.int x),some (V.ref F),none,none,none,none,none],(ag (gR yag rfl (kr rfl T.nE (aa (eT cn rfl T.pM ybD (a8 0 ae)) ae bw)) (oK 3 nd)
 (ag (fw 4 nd (bL bU (pv 0) (pv 3) jr))
 (ag (fw 5 nd (iT 4))
 (ag (fw 6 nd (aY fX (lM (bt (cW jo (pv 0) (dZ (aY fC (pv 3) aw)) fq)) (fun _ _ _ _=>(iK (K:=K) 0))) (aR (a8 1 ae))))
 (ag (mI (i:=7) nd rfl (zbe rfl) (own:=["part"]) (ix:=[]) rfl (by rfl) (by rfl) (Jt (cW xZ (pv 4) (dZ aw) fq)) (fun _ _ _ _=>(oK 0 (by show List.Nodup (["part"]:List Str);decide +kernel))) (fun _ _ _ _=>ei) (fun _ _ _ _=>(lM (Qv (K:=K) rfl (pv 0)) (fun _ _ _ _=>(iK (K:=K) 0)))))
 (ak (aW (az bB (iT 4) aV (aH _))
 (ag (xR hu (pv 2) (pv 5) (aK (a8 4 (aa (aR (aa (bL bU (aY fX (iL 7) (pv 6)) aw bI) (aa (bL bU (aY fX (iL 7) (pv 6)) aw bI) ae aA) aA)) ae jO))) rfl)
 (ag (dX (cz lR T.iO hr (aa (iT 4) (aa (iL 6) (a8 2 ae) aA) aA)))
 (ak (dX (cz lR T.iO hr (aa (iT 4) (aa (iL 6) (a8 2 ae) aA) aA))))))
 (ak (aW (az bB (iT 4) aV (aH _))
 (ag (xR hu (pv 2) (pv 5) (aK (a8 4 (aa (aR (aa (bL bU (aY fX (iL 7) (aR (a8 5 ae))) aw bI) (aa (iL 6) ae aA) aA)) ae jO))) rfl)
 (ak (dX (cz lR T.iO hr (aa (iT 4) (a8 5 (a8 2 ae)) aA)))))
 (ak (xR hu (pv 2) (pv 5) (aK (a8 4 (aa (aR (aa (bL bU (aR (aa (iL 6) (aa aw ae aE) aA)) (bH gK rfl T.wF ybB (aa (gu bB (iT 4) aV (aH _)) ae pT)) iz) ae aA)) ae jO))) rfl)))))))))))
 (ak (aB (pv 2)))),rfl,?_⟩
 have line:zdq=2 ^ 24:=rfl;rw[Rep.bD] at rb;obtain⟨_,xs,e,hx,rs⟩:=rb;cases e;have lx:xs.length=body.length:=by rw[rs.length,zab]
 have lb:body.length<=(au body).length:=by
  rw[gD];exact eR body
 refine ai fun U1 cM=>?_;refine Bo fun U hU=>?_;walk_at "";refine⟨b,xs,rfl,.inl (s0.seq hx),_,rfl,by lia,by lia,hU _ _ ?_⟩;clear hU;rw[zaP];obtain⟨Pv,nH,iF⟩:=Je fun (i:Nat) (G:St) (Hx:Hp) zq=>∀(z3 z4 z5 z6 z7:Option V) (sp:List aT) (fp:List cT) (ps:List V),G=[some (V.ref b),some (V.int x),some (V.ref F),z3,z4,z5,z6,z7]->a9 F H Hx->sp++au (body.drop i)=au body->fp++aP (body.drop i) x=aP body x->ps.length=sp.length->fp.length=sp.length->Hx F=some (.dK (kvs++cP sp ps))->gF K (wo Hx F) sp fp ps->zq;refine zm (lo:=0) (n:=xs.length) Pv (nH _ _ _ fun _ zk=>zk _ _ _ _ _ [] [] [] rfl (.refl _ _) rfl rfl rfl rfl (by rw[hF];simp[cP]) .nil) (fun i G Hx hi hv=>?_) (fun G Hx hv=>?_)
 .refine iF _ _ _ hv _ fun z3 z4 z5 z6 z7 sp fp ps ze ux es ef Ky lfp yF fk=>?_;subst ze;clear hv;have li:i<body.length:=by lia
  have NN:ao H0 Hx:=fun z o e=>ux z o (aj e hF0) (s0 z o e);obtain⟨v,hv,rv⟩:=rs.get (i:=i) (d:=b3 body[i]) (by rw[zaf,zac li];rfl);have ed:au (body.drop i)=bA body[i]++au (body.drop (i+1)):=by rw[zbc li,au]
  have edf:aP (body.drop i) x=gf body[i] (br (body.drop (i+1)) x)++aP (body.drop (i+1)) x:=by rw[zbc li,aP]
  simp only[cF,zba];refine ai fun V1 yV=>?_;walk_at "";rw[Int.zero_add];refine aL (NN.seq hx) (aF hv) ((yV _ _).mpr (ai fun V2 Gj=>?_));clear yV;obtain⟨ta,ts,rfl,MK,lts,rbs⟩:=RP _ rv;walk_at "";refine aq (NN.aS MK) jV ((Gj _ _).mpr (ai fun V3 T4=>?_));clear Gj;walk_at "";simp only[cJ];walk_at "";refine⟨_,rfl,b,xs,rfl,NN.seq hx,fun S1 Ob=>⟨S1,rfl,?_⟩⟩;rw[show ((i:Int)+1)=((i+1:Nat):Int) by lia,aaZ];generalize nG:upd Hx S1 (.lst (xs.drop (i+1)))=H1 at *;obtain⟨s1,y1⟩:=bX nG Ob;have s01:=NN.trans s1;refine⟨⟨_,.of y1⟩,fun D1 Rj=>Am (ss:=body.drop (i+1)) (.of y1) ((Ck (i+1) rs).mono s01) (by rw[zaU];lia) Rj (fun p w0 k ys H2 hp R hR=>?_) (fun H2 s2 yD1 p3 ME=>?_)⟩
  .walk_at "";exact aq hp jV hR
  generalize Ae:upd H2 p3 (.lst [V.int x])=H3 at *;obtain⟨s3,y3⟩:=bX Ae ME;have Vg:=s1.trans (s2.trans s3);have Oi:=s3 _ _ yD1;refine⟨D1,p3,_,_,rfl,rfl,Oi,y3,by rw[zab,zab,zaU];simp only[zal,zaF];lia,fun Lt hLt=>(T4 _ _).mpr (ai fun V4 UY=>?_)⟩;clear T4;generalize NJ:upd H3 Lt (.lst (((body.drop (i+1)).map (·.row)).map V.int++[V.int x]))=H4 at *;obtain⟨s4,yLt⟩:=bX NJ hLt;have sx4:=Vg.trans s4;have fo:=IC (body.drop (i+1)) x;obtain⟨y,ey⟩:∃y,br (body.drop (i+1)) x=y:=⟨_,rfl⟩
  rw[ey] at fo;have uX:=NN.trans sx4;clear s1 s2 s3 s4 y1 y3 yD1 Oi Vg s01 Ob Rj ME;walk_at "";simp only[cJ,VR];walk_at "";refine⟨_,rfl,ta,_,rfl,uX.aS MK,fun pI H5 s5 kI=>⟨pI,rfl,⟨_,kI⟩,fun D2 MA=>?_⟩⟩;rw[show (5:Int)=((5:Nat):Int) from rfl,aaZ] at kI;have NP:=uX.trans s5;generalize Vi:(V.str (qj body[i].wd)::V.int body[i].row::ts).drop 5=us at *;have qJ:us.length=(ay body[i]).length:=by rw[rbs.length,zab]
  have aaf:us.length<=10:=by rw[<- Vi,zaU];simp only[zal];lia
  refine Nu (K:=K) (fun τ=>∃z,τ=[z]) (fun j ys H6=>∀k c,k<j->(ay body[i])[k]?=some c->∃l,ys[k]?=some (.ref l)/\l≠D2/\H6 l=some (.lst ((c.map (·.row)).map V.int))) kI (by lia) MA ⟨_,rfl⟩ (fun k c hk=>ybw hk (zcX _)) (fun j v ys τ H6 hv hτ s6 yD ly p6 R hR=>?_) (fun ys H6 s6 Rm ly pI6=>(UY _ _).mpr ?_)
  .obtain⟨z,rfl⟩:=hτ;have lj:j<(ay body[i]).length:=by have:=(zaj.mp hv).1;lia
   obtain⟨v',qK,rc⟩:=rbs.get (i:=j) (d:=Dp.lst (((ay body[i])[j]).map b3)) (by rw[zaf,zac lj];rfl);rw[hv] at qK;cases qK;have rc6:=rc.mono (NP.trans s6);rw[Rep.bD] at rc6;obtain⟨lc,cs,rfl,hlc,rcs⟩:=rc6;simp only[cF,zba,cJ];walk_at "";have lcs:cs.length<=1000:=by
    have h1:=RQ (zac lj);have h2:(ay body[i])[j].length<=(au (ay body[i])[j]).length:=by rw[gD];exact eR _
    have h3:=ybv zaQ es;rw[rcs.length,zab];rw[ed,zae,zae] at h3;lia
   refine⟨⟨cs,hlc⟩,fun D3 hD3=>Am (ss:=(ay body[i])[j]) hlc rcs (by lia) hD3 (fun p w0 k zs H7 hp R2 hR2=>?_) (fun H7 s7 Oi=>hR _ _ _ ⟨_,rfl⟩ s7 fun k c hk hc=>?_)⟩
   .walk_at "";exact aq hp jV hR2
   .have nD3:D3≠D2:=(aj yD hD3).symm;by_cases e:k=j
    .subst e;rw[zac lj] at hc;cases hc;exact⟨D3,by rw[za2 (by lia),ly,zdf];rfl,nD3,by rw[aI nD3];exact Oi⟩
    .obtain⟨l,h1,h2,h3⟩:=p6 k c (by lia) hc;exact⟨l,by rw[zbb (by lia)];exact h1,h2,by rw[aI h2];exact s7 _ _ h3⟩
  clear UY;have Uj:=NP.trans s6;have uH:a9 F H H6:=ux.trans (a9.of (sx4.trans (s5.trans s6)));have sx6:ao Hx H6:=sx4.trans (s5.trans s6);have yF6:=sx6 _ _ yF;have fk6:gF K (wo H6 F) sp fp ps:=fk.mono (L8 sx6);have KR:=(s5.trans s6) _ _ yLt;rw[ey] at edf;rw[ed] at es;rw[edf] at ef;have dpi:gV body[i]<n+1:=zb3 (MN (zam li)) hd;have pwe:=pw;rw[<- es] at pwe;obtain⟨_,XX,pw3⟩:=zbk.mp pwe;obtain⟨pwS,_,_⟩:=zbk.mp XX;have inB:∀t∈bA body[i],t∈au body:=fun t ht=>by rw[<- es];exact zaK _ (za8 _ ht)
  have Vu:body[i]∈bA body[i]:=by obtain⟨r,e⟩:=RS body[i];rw[e];exact zaw ..
  have hki:∀kv∈kvs,kv.1≠.inl body[i].row:=hk _ (inB _ Vu);have hsi:∀t∈sp,t.row<body[i].row:=fun t ht=>pw3 t ht _ (za8 _ Vu);have keys:∀(S1:List aT) (P1:List V) (t:aT),P1.length=S1.length->(∀u∈S1,u.row<t.row)->t∈au body->∀kv∈kvs++cP S1 P1,kv.1≠.inl t.row:=fun S1 P1 t l1 h1 h2 kv KQ e=>by
   rcases zak.mp KQ with h |h
   .exact hk t h2 kv h e
   .have hm:kv.1∈(cP S1 P1).map (·.1):=zar.mpr ⟨kv,h,rfl⟩;rw[nY S1 P1 l1,e] at hm;obtain⟨u,hu2,eu⟩:=zar.mp hm;have:=h1 u hu2;have eu:u.row=t.row:=Sum.inl.inj eu;lia
  have Xv:∀(j:Nat) (v:V),us[j]?=some v->(V.str (qj body[i].wd)::V.int body[i].row::ts)[5+j]?=some v:=fun j v h=>by rw[<- Vi,List.getElem?_drop] at h;exact h
  have lsp:kvs.length+sp.length+(bA body[i]).length<=1000:=by
   have:=ybv zaQ es;rw[zae,zae] at this;lia
  have Uk:=Uj.aS MK;have rv6:=rv.mono Uj;have put:∀(p wl:zdi) (Xw:List Int) (H7:Hp) (f:cT),ao H6 H7->H7 p=some (.tup [V.ref ta,V.ref wl])->H7 wl=some (.lst (Xw.map V.int))->f.2.2=Xw->JJ H7 F (V.int body[i].row) (V.ref p) (upd H7 F (.dK (kvs++cP (sp++[body[i]]) (ps++[V.ref p]))))/\a9 F H (upd H7 F (.dK (kvs++cP (sp++[body[i]]) (ps++[V.ref p]))))/\gF K (wo (upd H7 F (.dK (kvs++cP (sp++[body[i]]) (ps++[V.ref p])))) F) (sp++[body[i]]) (fp++[f]) (ps++[V.ref p])/\ao H0 (upd H7 F (.dK (kvs++cP (sp++[body[i]]) (ps++[V.ref p])))):=by
   intro p wl Xw H7 f s7 yp yw ef2;have yF7:=s7 _ _ yF6;have u8:a9 F H7 (upd H7 F (.dK (kvs++cP (sp++[body[i]]) (ps++[V.ref p])))):=(a9.refl _ _).put _;have uH7:a9 F H H7:=uH.trans (a9.of s7);refine⟨?_,uH7.trans u8,?_,fun z o e=>u8 z o (aj e hF0) ((Uj.trans s7) z o e)⟩
   .have:=JJ.k (k:=.inl body[i].row) (v:=V.ref p) yF7 (by rw[zae];unfold cP;rw[zcx];lia);rw[Uh Ky hki hsi] at this;exact this
   .rw[WC];have np:p≠F:=b5 yp yF7 (by intro z;cases z);have nw:wl≠F:=b5 yw yF7 (by intro z;cases z);have Yr:ao H0 (wo H7 F):=fun z o e=>by rw[x8 (aj e hF0)];exact(Uj.trans s7) z o e
    exact(fk6.mono (L8 s7)).app (gF.one (.of (by rw[x8 np];exact yp)) (rv.mono Yr) (by rw[x8 nw,ef2];exact yw)) Ky lfp
  walk_at "";refine aq Uk fP ⟨rfl,?_⟩;have NX:(((body.drop (i+1)).map (·.row)).map V.int++[V.int x])[0]?=some (V.int y):=fo;generalize body[i]=st at *;have fin:∀(qs:List V) (fr:List cT) (He:Hp),a9 F H He->qs.length=(bA st).length->fr=gf st y->He F=some (.dK (kvs++cP (sp++bA st) (ps++qs)))->gF K (wo He F) (sp++bA st) (fp++fr) (ps++qs)->Pv (i+1) [some (V.ref b),some (V.int x),some (V.ref F),some (V.int i),some (V.ref ta),some (V.int st.row),some (V.ref Lt),some (V.ref D2)] He:=by
   intro qs fr He ue lq efr yFe fke;subst efr;refine nH _ _ _ fun _ zk=>zk _ _ _ _ _ (sp++bA st) (fp++gf st y) (ps++qs) rfl ue (by rw[zau];exact es) (by rw[zau];exact ef) (by rw[zae,zae,Ky,lq]) ?_ yFe fke;have h1:=ybv zaQ (DE st y);have h2:=ybv zaQ (DF st);rw[zab] at h1 h2;rw[zae,zae,lfp,h1,<- h2]
  have sub:∀(cl:zdi) (c:List aT) (z:Int) (S1 S2:List aT) (F1:List cT) (P1:List V) (He:Hp) (R:V->Hp->Prop),sp++bA st=S1++(au c++S2)->P1.length=S1.length->F1.length=S1.length->dg c<n->Rep K H0 (.lst (c.map b3)) (.ref cl)->a9 F H He->ao H0 He->He F=some (.dK (kvs++cP S1 P1))->gF K (wo He F) S1 F1 P1->(∀qs Hf,a9 F H Hf->ao H0 Hf->qs.length=(au c).length->Hf F=some (.dK (kvs++cP (S1++au c) (P1++qs)))->gF K (wo Hf F) (S1++au c) (F1++aP c z) (P1++qs)->ao (wo He F) Hf->R (.ref F) Hf)->zW K n [.ref cl,.int z,.ref F] He R E0:=by
   intro cl c z S1 S2 F1 P1 He R e1 l1 l2 hdc rc ue s0e yFe fke hR;have pwA:(S1++(au c++S2)).Pairwise fun a b=>a.row<b.row:=by
    rw[<- e1];have:=pwe;rw[<- zau] at this;exact(zbk.mp this).1
   obtain⟨_,pB,pC⟩:=zbk.mp pwA;have inC:∀t∈au c,t∈au body:=fun t ht=>by
    rw[<- es,<- zau,e1];exact za8 _ (zaK _ (za8 _ ht))
   have lc:=ybv zaQ e1;simp only[zae] at lc;refine⟨cl,F,z,c,H0,_,rfl,rc,hF0,s0e,yFe,fun t ht=>keys S1 P1 t l1 (fun u hu2=>pC u hu2 t (za8 _ ht)) (inC t ht),(zbk.mp pB).1,?_,hdc,fun qs Hf uf lq yf ff=>?_⟩
   .rw[zae];unfold cP;rw[zcx];lia
   .refine hR qs Hf (ue.trans uf) (fun w o e=>uf w o (aj e hF0) (s0e w o e)) lq ?_ ?_ (Qq uf)
    .rw[yf,zF S1 _ P1 _ l1,zau]
    .exact(fke.mono fun w o e=>by
      by_cases hw:w=F
      .subst hw;rw[x6] at e;cases e
      .rw[x8 hw] at e |-;exact uf w o hw e).app ff l1 l2
  by_cases hif:st.wd=.ifs
  .obtain⟨k,sg,l,r,a,c,rfl⟩:∃k sg l r a c,st=.ifs k sg l r a c:=by cases st<;>first |exact⟨_,_,_,_,_,_,rfl⟩ |cases hif
   obtain⟨la,la1,la2,la3⟩:=pI6 0 a (by rw[qJ];exact Nat.zero_lt_two) rfl;obtain⟨lc,lc1,lc2,lc3⟩:=pI6 1 c (by rw[qJ];exact Nat.one_lt_two) rfl;obtain⟨va,KA,ra⟩:=rbs.get (i:=0) (d:=Dp.lst (a.map b3)) rfl;obtain⟨vc,hvc,rc⟩:=rbs.get (i:=1) (d:=Dp.lst (c.map b3)) rfl;have ra':=ra;rw[Rep.bD] at ra';obtain⟨al,_,rfl,_⟩:=ra';have rc':=rc;rw[Rep.bD] at rc';obtain⟨cl,_,rfl,_⟩:=rc';have hla:a.length<=1000/\c.length<=1000:=by
    have h2:a.length<=(au a).length:=by rw[gD];exact eR _
    have h3:c.length<=(au c).length:=by rw[gD];exact eR _
    rw[bA,zal,zae] at lsp;lia
   have lLt:(((body.drop (i+1)).map (·.row)).map V.int++[V.int x]).length<=2000:=by
    rw[zae,zab,zab,zaU];simp only[zal,zaF];lia
   refine(ybr rfl).mpr (aL (.of Rm) (aF la1) ⟨la,Lt,_,_,rfl,rfl,la3,KR,by rw[zab,zab];lia,fun q7 hq7=>?_⟩);generalize T5:upd H6 q7 (.lst ((a.map (·.row)).map V.int++(((body.drop (i+1)).map (·.row)).map V.int++[V.int x])))=H7 at *;obtain⟨s7,y7⟩:=bX T5 hq7;refine aL (.of y7) (aF (An NX)) (aL (.of (s7 _ _ Rm)) (aF lc1) ⟨lc,Lt,_,_,rfl,rfl,s7 _ _ lc3,s7 _ _ KR,by rw[zab,zab];lia,fun q8 hq8=>?_⟩);generalize eN5:upd H7 q8 (.lst ((c.map (·.row)).map V.int++(((body.drop (i+1)).map (·.row)).map V.int++[V.int x])))=H8 at *;obtain⟨s8,y8⟩:=bX eN5 hq8;refine aL (.of y8) (aF (An NX)) fun p9 Gi Kr Ag=>?_;generalize eN6:upd H8 p9 (.lst [V.int (br a y),V.int (br c y)])=H9 at *;obtain⟨s9,y9⟩:=bX eN6 Gi;generalize eN7:upd H9 Kr (.tup [V.ref ta,V.ref p9])=UZ at *;obtain⟨Fq,Sm⟩:=bX eN7 Ag;have y9':=Fq _ _ y9;have Xx:ao H6 UZ:=s7.trans (s8.trans (s9.trans Fq));have nLF:Lt≠F:=b5 KR yF6 (by intro z;cases z);obtain⟨q1,q2,q3,q4⟩:=put Kr p9 [br a y,br c y] UZ (k,.ifs,[br a y,br c y]) Xx Sm y9' rfl;refine⟨F,_,rfl,q1,aq (q4.aS MK) (aF (j:=5) (Xv 0 _ KA)) (aL (.of (by rw[aI nLF];exact Xx _ _ KR)) (aF NX) (sub al a y (sp++[aT.ifs k sg l r a c]) (au c) (fp++[(k,.ifs,[br a y,br c y])]) (ps++[.ref Kr]) _ _ ?_ (by simp[Ky]) (by simp[lfp]) ?_ ra q2 q4 ah q3 fun qs Hf uf s0f lq yf ff sf=>?_))⟩
   .rw[bA,zau];rfl
   .rw[gV] at dpi;lia
   refine aq (s0f.aS MK) (aF (j:=6) (Xv 1 _ hvc)) (aL (.of (sf _ _ (by rw[x8 nLF,aI nLF];exact Xx _ _ KR))) (aF NX) (sub cl c y (sp++[aT.ifs k sg l r a c]++au a) [] _ _ Hf _ ?_ (by simp[Ky,lq]) (by simp[lfp,NW]) ?_ rc uf s0f yf ff fun qs2 Hg ug s0g lq2 yg fg _=>fin (.ref Kr::(qs++qs2)) _ Hg ug ?_ rfl ?_ ?_))
   .rw[bA,zax,zau,zau];rfl
   .rw[gV] at dpi;lia
   .rw[bA,zal,zal,zae,zae,lq,lq2]
   .rw[yg,bA];simp only[zau,zbO,zby]
   .simp only[zau,zbO,zby] at fg;rw[bA,gf];exact fg
  by_cases hwh:st.wd=.fM
  .obtain⟨k,sg,l,r,a,rfl⟩:∃k sg l r a,st=.fM k sg l r a:=by cases st<;>first |exact⟨_,_,_,_,_,rfl⟩ |cases hwh
   obtain⟨la,la1,la2,la3⟩:=pI6 0 a (by rw[qJ];exact Nat.zero_lt_one) rfl;obtain⟨va,KA,ra⟩:=rbs.get (i:=0) (d:=Dp.lst (a.map b3)) rfl;have ra':=ra;rw[Rep.bD] at ra';obtain⟨al,_,rfl,_⟩:=ra';refine(ybq (fun z=>hif ((Vt _).mp (V.str.inj z)))).mpr (aq Uk fP ⟨rfl,(ybr rfl).mpr ?_⟩);refine aL (.of Rm) (aF la1) fun p7 UX=>?_;generalize eN8:upd H6 p7 (.lst [V.int (aT.fM k sg l r a).row])=H7 at *;obtain⟨s7,y7⟩:=bX eN8 UX;refine⟨la,p7,_,_,rfl,rfl,s7 _ _ la3,y7,?_,fun q8 hq8=>?_⟩
   .have h2:a.length<=(au a).length:=by rw[gD];exact eR _
    rw[bA,zal] at lsp;simp only[zab,zal,zaF];lia
   generalize eN9:upd H7 q8 (.lst ((a.map (·.row)).map V.int++[V.int (aT.fM k sg l r a).row]))=H8 at *;obtain⟨s8,y8⟩:=bX eN9 hq8;refine aL (.of y8) (aF (An (a:=a) (y:=k) rfl)) (aL (.of ((s7.trans s8) _ _ KR)) (aF NX) fun p9 Gi Kr Ag=>?_);generalize afE:upd H8 p9 (.lst [V.int (br a k),V.int y])=H9 at *;obtain⟨s9,y9⟩:=bX afE Gi;generalize afF:upd H9 Kr (.tup [V.ref ta,V.ref p9])=UZ at *;obtain⟨Fq,Sm⟩:=bX afF Ag;have y9':=Fq _ _ y9;obtain⟨q1,q2,q3,q4⟩:=put Kr p9 [br a k,y] UZ (k,.fM,[br a k,y]) (s7.trans (s8.trans (s9.trans Fq))) Sm y9' rfl;refine⟨F,_,rfl,q1,aq (q4.aS MK) (aF (j:=5) (Xv 0 _ KA)) (sub al a k (sp++[aT.fM k sg l r a]) [] (fp++[(k,.fM,[br a k,y])]) (ps++[.ref Kr]) _ _ ?_ (by simp[Ky]) (by simp[lfp]) ?_ ra q2 q4 ah q3 fun qs Hf uf s0f lq yf ff _=>fin (.ref Kr::qs) _ Hf uf ?_ rfl ?_ ?_)⟩
   .rw[bA,zax,zau];rfl
   .rw[gV] at dpi;lia
   .rw[bA,zal,zal,lq]
   .rw[yf,bA,zau,zau];rfl
   .rw[zau,zau,zau] at ff;rw[bA,gf];exact ff
  obtain⟨PR,f,hs2,hs3⟩:bA st=[st]/\∃f,gf st y=[f]/\f.2.2=[if st.wd=.stop then 0 else y]:=by
   cases st<;>first |exact ybw rfl hif |exact ybw rfl hwh |exact⟨rfl,_,rfl,rfl⟩
  refine(ybq (fun z=>hif ((Vt _).mp (V.str.inj z)))).mpr (aq Uk fP ⟨rfl,(ybq (fun z=>hwh ((aa0 _).mp (V.str.inj z)))).mpr ?_⟩);refine aL (.of KR) (aF NX) fun p7 UX=>?_;generalize afG:upd H6 p7 (.lst [V.int y,V.int 0])=H7 at *;obtain⟨s7,y7⟩:=bX afG UX;refine aq (s7.aS Uk) fP ⟨rfl,_,rfl,?_⟩;have sel:CF [V.int y,V.int 0] (if decide (V.str (qj st.wd)=V.str (zad "stop"))=true then 1 else 0)=some (V.int (if st.wd=.stop then 0 else y)):=by
   by_cases ht:st.wd=.stop
   .rw[ybr ht,ybr (ybs (by rw[ht];rfl))];exact aF (j:=1) rfl
   .rw[ybq ht,ybq (by rw[ybt (fun z=>ht ((aa1 _).mp (V.str.inj z)))];exact zag)];exact aF (j:=0) rfl
  refine aL (.of y7) sel fun p8 Fo p9 Gi=>?_;generalize afH:upd H7 p8 (.lst [V.int (if st.wd=.stop then 0 else y)])=H8 at *;obtain⟨s8,y8⟩:=bX afH Fo;generalize afI:upd H8 p9 (.tup [V.ref ta,V.ref p8])=H9 at *;obtain⟨s9,y9⟩:=bX afI Gi;have y89:=s9 _ _ y8;obtain⟨q1,q2,q3,q4⟩:=put p9 p8 [if st.wd=.stop then 0 else y] H9 f (s7.trans (s8.trans s9)) y9 y89 hs3;refine⟨F,_,rfl,q1,fin [.ref p9] [f] _ q2 (by rw[PR];rfl) hs2.symm (by rw[PR];exact ah) (by rw[PR];exact q3)⟩
 .refine iF _ _ _ hv _ fun z3 z4 z5 z6 z7 sp fp ps ze ux es ef Ky lfp yF fk=>?_;subst ze;rw[lx,zbP,au,zax] at es;rw[lx,zbP,aP,zax] at ef;subst es ef;refine(cM _ _).mpr ?_;walk_at "";exact q ps Hx ux Ky yF fk
theorem ID(T:Tx K mg t):∀n,bq P w K mg base dF (n+1) t.jF t.i4 ["body", "then", "found"] (zW K n)
 |0=>by
  have no:∀vs H Q E,¬zW K 0 vs H Q E:=fun vs H Q E h=>by cases h;lia
  exact⟨fun vs H Q E h=>ybw h (no vs H Q E),fun A outer s H args us vs Q E _ _ _ _ h=>ybw h (no vs H Q E)⟩
 |n+1=>Ui T (ID T n)
theorem xt{r0:St}{bs:List jc}(hB:jJ K H B HG)(lB:HG.length=bs.length)(KL:∀(i:Nat)(x:V),HG[i]?=some x->∃a,x=.ref a/\bG K H a [V.str (S (bs.getD i ⟨[],0,0⟩).name),V.int (bs.getD i ⟨[],0,0⟩).size,V.int (bs.getD i ⟨[],0,0⟩).first])(om:bs.length<=10)(s:ao H H6)(j:Int)(g:jc->V)(hg:∀b:jc,CF [V.str (S b.name),V.int b.size,V.int b.first] j=some (g b))(q:∀D H',ao H6 H'->H6 D=none->H' D=some (.lst (bs.map g))->Q (.ref D) H') :
 cJ (Du K (iu 1)) 1 [] (cF 0) me (SU (M6 K) (iu 0) (tC (V.int j))) (x0::some (.ref B)::r0) H6 Q:=by
 simp only[cJ];walk_at "";refine⟨⟨_,s.seq hB⟩,fun D hD=>qu (K:=K) (r:=[]) (fun i=>g (bs.getD i ⟨[],0,0⟩)) (s.seq hB) (by lia) hD (fun i x H2 hx s2 R hR=>?_) (fun H7 s7 h7=>?_)⟩
 .obtain⟨a,rfl,ha⟩:=KL i x hx;walk_at "";exact aq ((s.trans s2).aS ha) (hg _) hR
 rw[lB,nK g ⟨[],0,0⟩ bs] at h7;exact q D H7 s7 hD h7
theorem FI(T:Tx K mg t):bq P w K mg base dF 8 t.pq t.mW ["program"] (Mi K):=by
 have lR:=ID (P:=P) (w:=w) (base:=base) T 4;refine T.lP.F.okN yJ fun _ _ _ _ H vs Q E hr h=>?_;obtain⟨v,pr,rfl,rp,dr,q⟩:=h;have nd:=yJ.nd;refine⟨_,[some v,none,none,none,none],(ag (gQ (pv 0) (zl rfl (cV (oK 1 nd) (cV (oK 2 nd) mD))))
 (ag (fw 3 nd (bL bU (aY fX (lM (bt (pv 2)) (fun _ _ _ _=>(iK (K:=K) 0))) (aR (aa aw ae aE))) aw bI))
 (ag (fw 4 nd (cz lR T.iO hr (a8 2 (aa aw (aa OY ae rfl) aE))))
 (ak (aB (aR (a8 4 (aa (lM (bt (pv 1)) (fun _ _ _ _=>(iK (K:=K) 0))) (aa (lM (bt (pv 1)) (fun _ _ _ _=>(iK (K:=K) 0))) (aa (aK (a8 3 (aa (bH ig rfl T.pN ybG (aa (lM (bt (pv 1)) (fun _ _ _ _=>(iK (K:=K) 0))) ae fK)) ae bw))) ae dO) fK) fK)))))))),rfl,?_⟩
 have line:zdq=2 ^ 24:=rfl;unfold gC at rp;rw[Rep.aJ] at rp;obtain⟨pa,pxs,rfl,T1,w5⟩:=rp;rw[aC.av] at w5;obtain⟨v1,t1,rfl,aX,w5⟩:=w5;rw[aC.av] at w5;obtain⟨v2,t2,rfl,a7,w5⟩:=w5;rw[aC.aO] at w5;subst w5;obtain⟨bb,ys,rfl,XJ,rbb⟩:=Rep.bD.mp a7;obtain⟨B,_,rfl,_⟩:=Rep.bD.mp aX;obtain⟨HG,hB,lB,KL⟩:=zb aX;have om:=dr.om;have sl:=gD pr.body;have Xy:=dr.ok.om;refine ai fun U1 cM=>?_;walk_at "";refine⟨pa,_,rfl,T1,rfl,_,_,rfl,_,_,rfl,rfl,(cM _ _).mpr (ai fun U2 fh=>?_)⟩;clear cM;have W0:ys.length=pr.body.length:=by rw[rbb.length,zab]
 have lb:pr.body.length<=(au pr.body).length:=by
  rw[gD];exact eR pr.body
 walk_at "";simp only[cJ];walk_at "";refine⟨⟨_,XJ⟩,fun D1 Rj=>Am (ss:=pr.body) XJ rbb (by lia) Rj (fun p w0 k ys H2 hp R hR=>?_) (fun H2 s2 yD1 p3 ME=>?_)⟩
 .walk_at "";exact aq hp jV hR
 generalize nG:upd H2 p3 (.lst [V.int 0])=H3 at *;obtain⟨s3,y3⟩:=bX nG ME;have Vg:=s2.trans s3;have Oi:=s3 _ _ yD1;refine⟨D1,p3,_,_,rfl,rfl,Oi,y3,by rw[zab,zab];simp only[zal,zaF];lia,fun Lt hLt=>?_⟩;generalize Ae:upd H3 Lt (.lst ((pr.body.map (·.row)).map V.int++[V.int 0]))=H4 at *;obtain⟨s4,yLt⟩:=bX Ae hLt;have uX:=Vg.trans s4;refine aL (.of yLt) (v:=V.int (br pr.body 0)) (aF (j:=0) (IC pr.body 0)) ((fh _ _).mpr (ai fun U3 gJ=>?_));clear fh s2 s3 Vg s4 y3 yD1 Oi yLt Rj ME hLt;walk_at "";intro F hF;generalize e5:upd H4 F _=H5;have s5:ao H4 H5:=e5▸ao.new hF _;have yF:H5 F=some (.dK []):=by rw[<- e5];exact ah
 clear e5;refine⟨bb,F,0,pr.body,H4,[],rfl,a7.mono uX,hF,s5,yF,(fun _ _ kv z=>(za5 z).elim),dr.ok.pw,(by rw[sl];simp only[zaF];lia),Nat.lt_succ_of_le dr.dep,fun ps H6 u6 Ky yF6 fk=>(gJ _ _).mpr ?_⟩;clear gJ;have NK:ao H4 H6:=fun z o e=>u6 z o (aj e hF) (s5 z o e);have Uj:=uX.trans NK;walk_at "";refine xt hB lB KL Xy Uj 0 (fun b=>V.str (S b.name)) (fun _=>rfl) fun N H7 s7 _ yN=>?_;refine xt hB lB KL Xy (Uj.trans s7) 1 (fun b=>V.int b.size) (fun _=>rfl) fun Z H8 s8 _ yZ=>?_;refine xt hB lB KL Xy (Uj.trans (s7.trans s8)) 2 (fun b=>V.int b.first) (fun _=>rfl) fun L H9 s9 _ yL=>?_;refine⟨L,_,rfl,.inl ⟨.of yL,fun t1 h1=>?_⟩⟩;rw[show (pr.ar.map fun b=>V.int b.first)=(pr.ar.map (·.first)).map V.int by rw[zaB];rfl];generalize e1:upd H9 t1 _=HA;have sA:=gT e1 h1;have yA:HA t1=some (.tup ((pr.ar.map (·.first)).map V.int)):=by rw[<- e1];exact ah
 intro fa h2;generalize e2:upd HA fa _=HB;have sB:=gT e2 h2;have yB:HB fa=some (.tup [V.int (br pr.body 0),V.ref t1]):=by rw[<- e2];exact ah
 intro md h3;generalize e3:upd HB md _=HC;have sC:=gL e3 h3;have yC:HC md=some (.lst [V.ref F,V.ref N,V.ref Z,V.ref fa]):=by rw[<- e3];exact ah
 have s6C:=s7.trans (s8.trans (s9.trans (sA.trans (sB.trans sC))));exact q md HC (Uj.trans s6C) ⟨⟨F,N,Z,fa,ps,yC,Ky,s6C _ _ yF6,fk.mono (Zv.trans s6C),(s8.trans (s9.trans (sA.trans (sB.trans sC)))) _ _ yN,(s9.trans (sA.trans (sB.trans sC))) _ _ yZ,⟨t1,.of (sC _ _ yB),.of ((sB.trans sC) _ _ yA)⟩⟩⟩
theorem Cm(T:Tx K mg t)(dI:bq P w K mg base dF 1 t.fQ t.eC ["body", "behind"] (qU K))(cv:bq P w K mg base dF 6 t.cu t.bV ["body"] (oQ K 4))(Cf:bq P w K mg base dF 7 t.xg t.rL ["program"] (EO K)) :
 bq P w K mg base dF 13 t.kR t.jY ["one", "other", "paper"] (HN K):=by
 have zg:=CT (P:=P) (w:=w) (base:=base) T dI cv Cf;have FJ:=CU (P:=P) (w:=w) (base:=base) T;have vf:=zd (P:=P) (w:=w) (base:=base) T;have Cn:=AX (P:=P) (w:=w) (base:=base) T;refine T.lA.F.okN uP fun _ _ _ _ H vs Q E hr h=>?_;obtain⟨v1,v2,pa,aX,a7,l,us,rfl,r1,r2,d1,d2,m1,m2,hpa,hl,uZ,om,q⟩:=h;have nd:=uP.nd;have line:zdq=2 ^ 24:=rfl;have qJ:us.length=l.length:=(yaj hl).symm;refine⟨_,[some v1,some v2,some (.ref pa),none,none,none],(ag (fw 3 nd (aK (aa (EE T.yT zg (hr.mono (by first|decide|omega)) rfl T.Ih T.yS .nil nW (a8 0 ae)) (aa (EE T.yT zg (hr.mono (by first|decide|omega)) rfl T.Ih T.yS .nil nW (a8 1 ae)) ae bw) bw)))
 (ag (ma (i:=4) nd rfl (zbi rfl) (bH (Ke (J:=Ay) (fun _ _ _ _ h t=>WI h t) rfl (Pq hr)) rfl T.xi ybz (aa (lM (bt (pv 2)) (fun _ _ _ _=>(aK (a8 0 (aa nU ae aE))))) ae fK)))
 (ag (aW (az (nP (J:=Ay) (Hl hr)) (cz FJ T.m8 hr (a8 3 ae)) (pv 4) rfl)
 (ak (aB nU))
 aG)
 (ag (gR yag rfl (BC (J:=Ay) (pv 4)) (oK 5 nd)
 (ag (aW (EB (tM (cz vf T.lN hr (a8 3 (a8 5 ae)))))
 (ak (aB nU))
 aG)
 (ak (aW (EB (tM (eT (Po rfl) rfl T.Rg ybx (aa (jN (own:=["behind"]) (ix:=[4]) rfl (by rfl) (by rfl) (bt (cz Cn T.j5 hr (a8 3 (a8 5 ae)))) (fun _ _ _ _=>(oK 0 (by show List.Nodup (["behind", "listed"]:List Str);decide +kernel))) (fun _ _ _ _=>ei) (fun _ _ _ _=>(gu (WR (J:=Ay) (P:=P) (w:=w) (K:=K) rfl rfl rfl (Hl hr)) (pv 0) (pv 1) rfl))) ae fK))))
 (ak (aB nU))
 aG))))
 (ak (aB nU)))))),rfl,?_⟩
 refine ai fun U1 cM=>?_;walk_at "";intro w1 dx Oh RD ne;have s1:ao H (upd (upd H dx (.own w1)) w1 (.ins t.bN dx [])):=(ao.new RD _).trans (ao.new (by rw[aI ne.symm];exact Oh) _);refine⟨w1,dx,v1,aX,rfl,ah,by rw[aI ne];exact ah,r1.mono s1,d1,fun Ol H2 u2 afK Jk=>⟨rfl,?_⟩⟩;have s2:ao H H2:=((a9.of s1).trans u2).same Oh;have g1:H Ol=none:=s1.free afK;intro w2 ex Ji hex ne2;have s3:ao H2 (upd (upd H2 ex (.own w2)) w2 (.ins t.bN ex [])):=(ao.new hex _).trans (ao.new (by rw[aI ne2.symm];exact Ji) _);refine⟨w2,ex,v2,a7,rfl,ah,by rw[aI ne2];exact ah,(r2.mono s2).mono s3,d2,fun NY H4 u4 afL Sx=>⟨rfl,?_⟩⟩;have s4:ao H2 H4:=((a9.of s3).trans u4).same Ji;have g2:H2 NY=none:=s3.free afL;have g2':H NY=none:=s2.free g2;obtain⟨φ1,eg1⟩:=Jk.QZ;have n12:Ol≠NY:=aj eg1 g2;intro b hb;generalize nG:upd H4 b (.tup [V.ref w1,V.ref w2])=H5 at *;obtain⟨s5,W6⟩:=bX nG hb;have wts:BU P w K t.bh t.bN H5 b w1 Ol w2 NY aX a7:=⟨.of W6,(Jk.mono s4).mono s5,Sx.mono s5,n12⟩
 have NP:ao H H5:=s2.trans (s4.trans s5);refine(cM _ _).mpr (ai fun U2 fh=>?_);clear cM;have aa6:=NP.seq hpa;have Gn:=hl.mono NP;walk_at "";simp only[cJ];walk_at "";refine⟨⟨us,aa6⟩,fun D hD=>?_⟩;refine dP (K:=K) (r:=[]) (fun i ys H2=>∃ps:List (zdi×jw×zdi),ys=ps.map (fun q=>V.ref q.1)/\ps.map (·.2.1)=l.take i/\∀q∈ps,H2 q.1=some (.tup [.ref q.2.2,.bl true])/\mM K H5 q.2.2 q.2.1) aa6 (by lia) hD ⟨[],rfl,by simp,fun _ z=>by cases z⟩ (fun i x ys H6 hx s6 yD ly pv R hR=>?_) (fun ys H6 s6 yD pv=>?_)
 .obtain⟨ps,rfl,e1,LV⟩:=pv;obtain⟨p,a,ep,rfl,pat⟩:=Gn.get hx;walk_at "";intro c hc;have sc:=ao.new hc (.tup [V.ref a,V.bl true]);refine hR _ _ sc ⟨ps++[(c,p,a)],by simp,by rw[zas,e1,zbW,ep];rfl,fun q hq=>?_⟩;have cD:c≠D:=(aj yD hc).symm;rcases zak.mp hq with hq |hq
  .obtain⟨h1,h2⟩:=LV q hq;have qD:q.1≠D:=b5 h1 yD (by intro z;cases z);exact⟨by rw[aI qD];exact sc _ _ h1,h2⟩
  .cases zai.mp hq;exact⟨by rw[aI cD];exact ah,pat⟩
 obtain⟨ps,rfl,e1,LV⟩:=pv;rw[qJ,zaH] at e1;have Xz:=wts.mono s6;refine⟨D,ps.map fun q=>(q.1,kF q.2.1,q.2.2,V.bl true),rfl,by rw[zaB];exact .of yD,fun q hq=>?_,by have:=ybv zaQ e1;rw[zab] at this;rw[zab];lia,fun d H7 hd e7 ds7=>(fh _ _).mpr (ai fun U3 gJ=>?_)⟩
 .obtain⟨z,hz,rfl⟩:=zar.mp hq;obtain⟨h1,h2⟩:=LV z hz;exact⟨.of h1,yj (h2.mono s6)⟩
 clear fh;have ekn:pV [] ((ps.map fun q=>(q.1,kF q.2.1,q.2.2,V.bl true)).map fun q=>(q.2.1,q.2.2.2))=Gh l:=by
  unfold Gh;rw[zaB,<- e1,zaB];rfl
 rw[ekn] at ds7;obtain⟨φ7,e7⟩:=e7;have XA:ao H6 H7:=by rw[e7];exact ao.new hd _
 have aa7:=Xz.mono XA;have Yr:ao H H7:=NP.trans (s6.trans XA);clear LV e7 ekn;walk_at "";refine⟨b,w1,Ol,w2,NY,aX,a7,rfl,aa7,fun fp H8 s8 pf=>⟨d,fp,_,kF (qz aX,qz a7),rfl,rfl,ds7.mono s8,yj pf,?_⟩⟩;rw[BX];have s08:=Yr.trans s8;by_cases hf:(qz aX,qz a7)∈l
 rotate_left
 .rw[ybt hf];refine(ybr rfl).mpr ?_;have:=q H8 s08;rw[show pW aX a7 l=false by unfold pW;rw[ybt hf,zcz]] at this;exact this
 rw[ybs hf];refine(ybq zag).mpr ((gJ _ _).mpr (ai fun U4 jI=>?_));clear gJ;have afN:=aa7.mono s8;have ds8:=ds7.mono s8;refine BD fun U hU=>?_;simp only[Ma];walk_at "";refine⟨d,_,rfl,ds8,fun o ps fz po=>hU _ _ ?_⟩;clear hU;obtain⟨φd,ed⟩:=ds8.wQ;have hd6:H6 d=none:=hd;have NQ:Ol≠d:=by
  obtain⟨φ,e⟩:=Xz.one.QZ;exact aj e hd6
 have nd2:NY≠d:=by
  obtain⟨φ,e⟩:=Xz.two.QZ;exact aj e hd6
 have uF:a9 d H8 (upd H8 d (kC d o)):=(a9.refl _ _).put _;have NS:∀a xs,bG K H8 a xs->bG K (upd H8 d (kC d o)) a xs:=fun a xs h=>h.sZ ed uF;have XB:=afN.other ed NQ nd2 uF;have yF:(upd H8 d (kC d o)) d=some (kC d o):=ah;have fzF:=fz.up NS;have Ky:ps.length=(Gh l).length:=(yaj po).symm;have po1:∀i c v',ps[i]?=some (c,v')->∃(kv:(eV×eV)×V) (p:jw),(Gh l)[i]?=some kv/\kv.1=kF p/\p∈l/\mM K (upd H8 d (kC d o)) c p:=fun i c v' hi=>by
  obtain⟨kv,KQ,on,_⟩:=kE po hi;obtain⟨p,hp,e⟩:=HP (zaC KQ);rw[e] at on;exact⟨kv,p,KQ,e,hp,(Ff on).lZ NS⟩
 have kH:∀c o',H c=some o'->c≠d/\(upd H8 d (kC d o)) c=some o':=fun c o' e=>by
  have n:c≠d:=aj ((NP.trans s6) _ _ e) hd6;exact⟨n,uF _ _ n (s08 _ _ e)⟩
 have Ys:∀c o',H c=some o'->c≠Ol/\c≠NY:=fun c o' e=>⟨aj e g1,aj e g2'⟩
 generalize upd H8 d (kC d o)=Hz at *;obtain⟨Pv,nH,iF⟩:=Je fun (i:Nat) (G:St) (Hw:Hp) zq=>∀(z:Option V),G=[some v1,some v2,some (.ref pa),some (.ref b),some (.ref d),z]->w4 Ol NY Hz Hw->BU P w K t.bh t.bN Hw b w1 Ol w2 NY aX a7->(∀j,j<i->∀kv,(Gh l)[j]?=some kv->∀p,kv.1=kF p->Km aX a7 l p=true)->zq;refine E2 (d:=d) (o:=o) (ps:=ps) Pv (nH _ _ _ fun _ zk=>zk none rfl w4.refl XB (fun j hj=>by lia)) (fun i G Hw _ hv=>?_) (fun i c v' G Hw hi hv=>?_) (fun G Hw hv=>?_)
 .exact iF _ _ _ hv _ fun _ _ u _ _=>u _ _ NQ.symm nd2.symm yF
 .refine iF _ _ _ hv _ fun z ze uw ww gd=>?_;subst ze;clear hv;obtain⟨kv,p,KQ,ekv,hp,pat⟩:=po1 i c v' hi;have aa8:=pat.lZ (XB.tup uw);have bad:∀H',w4 Ol NY Hw H'->Km aX a7 l p=false->Q (.bl false) H':=fun H' u g=>by
   have:=q H' fun a o' e=>u _ _ (Ys a o' e).1 (Ys a o' e).2 (uw _ _ (Ys a o' e).1 (Ys a o' e).2 (kH a o' e).2);rw[Az hp g] at this;exact this
  simp only[cF,zba];refine ai fun V1 yV=>?_;walk_at "";refine⟨b,w1,Ol,w2,NY,c,aX,a7,p,rfl,ww,d1,d2,aa8,uZ p hp,m1,m2,fun H9 u9 w9=>⟨_,rfl,?_⟩⟩;cases ha:AR aX a7 p with
  |false=>exact(ybr rfl).mpr (bad H9 u9 (by unfold Km;rw[ha];rfl))
  |true=>
  refine(ybq zag).mpr ((yV _ _).mpr ?_);clear yV;walk_at "";simp only[cJ];walk_at "";refine⟨b,w1,Ol,w2,NY,c,aX,a7,p,rfl,w9,d1,d2,aa8.lZ (ww.tup u9),uZ p hp,m1,m2,fun lb ub HA uA wA _ yA Uc=>?_⟩;have uwA:w4 Ol NY Hz HA:=uw.trans (u9.trans uA);have fzA:=fzF.up (XB.tup uwA);have yFA:=uwA _ _ NQ.symm nd2.symm yF;have lub:ub.length=(wZ aX a7 p).length:=(yaj Uc).symm;have Va:(wZ aX a7 p).length<=10:=by
   unfold wZ;split
   .exact zaG _
   .split
    .simp
    .rw[zbs];refine zaz (Nat.min_le_left _ _) ?_;rename_i a _ _ _;unfold vO;split
     .simp
     .split
      .simp
      .cases (gg aX a.1 a.2 0).1<;>simp
    .exact zaG _
  refine⟨lb,rfl,⟨ub,.of yA⟩,fun D2 MA=>?_⟩;refine qu (K:=K) (r:=[some (.ref d)]) (fun i=>V.bl (decide ((wZ aX a7 p).getD i ((0,[]),(0,[]))∈l))) (.of yA) (by lia) MA (fun i x HB hx sB R hR=>?_) (fun HB sB yB=>?_)
  .obtain⟨p2,a2,RO,rfl,Xo⟩:=Uc.get hx;walk_at "";refine⟨d,a2,_,kF p2,o,rfl,rfl,sB _ _ yFA,fzA.up fun _ _ z=>sB.aS z,yj (Xo.mono sB),?_⟩;rw[BX];rw[zap,RO] at hR;exact hR
  have e3:(zaS ub.length).map (fun i=>V.bl (decide ((wZ aX a7 p).getD i ((0,[]),(0,[]))∈l)))=((wZ aX a7 p).map fun b=>decide (b∈l)).map V.bl:=by
   rw[lub,zaB];exact nK (fun b=>V.bl (decide (b∈l))) _ _
  rw[e3] at yB;refine⟨D2,_,rfl,.of yB,?_⟩;have ea:(((wZ aX a7 p).map fun b=>decide (b∈l)).all id)=(wZ aX a7 p).all fun b=>decide (b∈l):=by rw[List.all_map];rfl
  rw[ea];cases Sv:(wZ aX a7 p).all fun b=>decide (b∈l) with
  |false=>exact(ybr rfl).mpr (bad HB (u9.trans (uA.trans (.of sB))) (by unfold Km;rw[ha,Sv];rfl))
  |true=>
  refine(ybq zag).mpr (nH _ _ _ fun _ zk=>zk _ rfl (uwA.trans (.of sB)) (wA.mono sB) fun j hj Yp e2 p2 RO=>?_);rcases Nat.lt_or_ge j i with h |h
  .exact gd j h Yp e2 p2 RO
  .have:j=i:=by lia
   subst this;rw[KQ] at e2;cases e2;rw[ekv] at RO;cases yi RO;unfold Km;rw[ha,Sv];rfl
 .refine iF _ _ _ hv _ fun z ze uw ww gd=>?_;subst ze;clear hv;refine(jI _ _).mpr ?_;walk_at "";have:=q Hw fun a o' e=>uw _ _ (Ys a o' e).1 (Ys a o' e).2 (kH a o' e).2;rw[BY hf fun kv hk p ep=>by
   obtain⟨j,hj⟩:=zcs.mp hk;have lj:=(zaj.mp hj).1;exact gd j (by lia) kv hj p ep] at this
  exact this
theorem RT(a:dJ K Oo H ds vs)(b:dJ K Oo H es us):dJ K Oo H (ds++es) (vs++us):=fun H2 u=>(a H2 u).append (b H2 u)
theorem Et:∀(n:Nat){ds:List aT}{vs:List V},aC K H (ds.map b3) vs->aC K H ((ds.drop n).map b3) (vs.drop n)
 |0,_,_,h=>h
 |n+1,[],vs,h=>by
  rw[zbE,aC.aO] at h;subst h;exact .nil
 |n+1,d::ds,vs,h=>by
  rw[zaq,aC.av] at h;obtain⟨v,t,rfl,_,h⟩:=h;exact Et n h
theorem RU(T:Tx K mg t)(oI:bq P w K mg base dF (n+2) t.gG t.fH ["body", "behind"] (xV K n)) :
 bq P w K mg base dF (n+3) t.gG t.fH ["body", "behind"] (xV K (n+1)):=by
 have dI:bq P w K mg base dF 1 t.fQ t.eC ["body", "behind"] (qU K):=rX T;have NZ:bq P w K mg base dF 2 t.qG t.oF ["statement", "after"] (JO K):=Kt T;have iS:bq P w K mg base dF 1 t.gO t.fR ["statement"] (qo K):=nI T;have C2:bq P w K mg base dF 1 t.jk t.iJ ["statement", "after"] (Br K):=B9 T;refine T.iM.F.okN sV fun _ _ _ _ H vs Q E hr h=>?_;obtain⟨b,body,x,rfl,rb,hd,hf,q⟩:=h;have nd:=sV.nd;refine⟨_,[some (V.ref b),some (V.int x),none,none,none,none,none],(ag (fw 2 nd (aR ae))
 (ag (gR yag rfl (Th rfl T.uV (a8 0 ae)) (zl rfl (cV (oK 3 nd) (cV (oK 4 nd) mD)))
 (ag (fw 5 nd (cz dI T.gP hr (aa (cW jo (pv 0) (dZ (aY fC (pv 3) aw)) fq) (a8 1 ae) aA)))
 (ag (dX (j7 zaA zaN zaO fG (pv 2) (aa (aK (aa (iT 4) (aa (iT 4) (aa (cz NZ T.vH hr (a8 4 (a8 5 ae))) ae bw) aA) aA)) ae dO)))
 (ak (gR yag rfl (bt (cz iS T.iN hr (a8 4 ae))) (oK 6 nd)
 (ak (dX (j7 zaA zbG zbH ql (pv 2) (aa (cz oI T.iM hr (a8 6 (aa (cz C2 T.k8 hr (a8 4 (a8 5 ae))) ae bw))) ae bw)))))))))
 (ak (aB (pv 2))))),rfl,?_⟩
 have line:zdq=2 ^ 24:=rfl;rw[Rep.bD] at rb;obtain⟨_,xs,e,hx,rs⟩:=rb;cases e;have lx:xs.length=body.length:=by rw[rs.length,zab]
 have lb:=eR body;refine ai fun U1 cM=>?_;walk_at "";intro tl htl;generalize nG:upd H tl (.lst [])=H1 at *;obtain⟨s1,y1⟩:=bX nG htl;refine(cM _ _).mpr (ai fun U2 fh=>?_);clear cM;walk_at "";obtain⟨Pv,nH⟩:∃Pv:Nat->St->Hp->Prop,∀i G H2,Pv i G H2↔∃(z3 z4 z5 z6:Option V) (pre:List cT) (us:List V),G=[some (V.ref b),some (V.int x),some (V.ref tl),z3,z4,z5,z6]/\ao H H2/\H2 tl=some (.lst us)/\dJ K (·=tl) H2 (pre.map kA) us/\us.length=pre.length/\pre++aP (body.drop i) x=aP body x:=⟨_,fun _ _ _=>Iff.rfl⟩
 refine⟨_,rfl,⟨xs,s1.seq hx⟩,Pr (K:=K) (a:=b) (xs:=xs) Pv ((nH _ _ _).mpr ⟨none,none,none,none,[],[],rfl,s1,y1,.nil,rfl,rfl⟩) (fun i G H2 _ hv=>?_) ?_ ?_⟩
 .obtain⟨_,_,_,_,_,_,_,s2,_⟩:=(nH _ _ _).mp hv;exact s2.seq hx
 .intro i y G H2 tp hi hv htp;obtain⟨z3,z4,z5,z6,pre,us,rfl,s2,y2,f2,lu,ep⟩:=(nH _ _ _).mp hv;clear hv;have done:=fun G H7=>(nH (i+1) G H7).mpr;have li:i<body.length:=by have:=(zaj.mp hi).1;lia
  obtain⟨v,hv,rv⟩:=rs.get (i:=i) (d:=b3 body[i]) (by rw[zaf,zac li];rfl);rw[hi] at hv;cases hv;have ed:body.drop i=body[i]::body.drop (i+1):=zbc li;rw[ed,aP,Px] at ep;have mem:body[i]∈body:=zam li;obtain⟨fm,dm⟩:=qp body _ mem;generalize xD:body[i]=st at *;have s3:=s2.trans (ao.new htp (.tup [V.int i,y]));have n3:tl≠tp:=aj y2 htp;have y3:=ao.new htp (.tup [V.int i,y]) _ _ y2;have f3:=f2.up (.of (ao.new htp (.tup [V.int i,y])));have t3:(upd H2 tp (.tup [V.int i,y])) tp=some (.tup [V.int i,y]):=ah;generalize upd H2 tp (.tup [V.int i,y])=H3 at *;obtain⟨sa,ys,rfl,hs⟩:=kB st rv;refine⟨tp,_,rfl,.of t3,rfl,_,_,rfl,_,_,rfl,rfl,?_⟩;refine ai fun U3 gJ=>?_;walk_at "";refine⟨_,rfl,b,_,rfl,s3.seq hx,fun p4 RJ=>?_⟩;have ec:je xs (some ((i:Int)+1)) none=xs.drop (i+1):=by
   unfold je;rw[HT.lD,show (i:Int)+1=((i+1:Nat):Int) by lia,HT.mE];rw[show min (i+1) xs.length=i+1 by lia];exact zaZ (by rw[zaU];lia)
  rw[ec];have s4:=s3.trans (ao.new RJ (.lst (xs.drop (i+1))));have y4:=ao.new RJ (.lst (xs.drop (i+1))) _ _ y3;have f4:=f3.up (.of (ao.new RJ (.lst (xs.drop (i+1)))));have l4:(upd H3 p4 (.lst (xs.drop (i+1)))) p4=some (.lst (xs.drop (i+1))):=ah;generalize upd H3 p4 (.lst (xs.drop (i+1)))=H4 at *;have rd4:Rep K H4 (.lst ((body.drop (i+1)).map b3)) (.ref p4):=Rep.bD.mpr ⟨p4,_,rfl,.of l4,Et (i+1) (rs.mono s4)⟩;refine⟨p4,body.drop (i+1),x,rfl,rd4,by rw[zaU];lia,(gJ _ _).mpr (ai fun U4 jI=>?_)⟩;clear gJ;generalize br (body.drop (i+1)) x=af at *;have hs4:=(show bG K H4 sa _ from s4.aS hs)
  walk_at "";refine⟨.inl ⟨rfl,_,.of y4⟩,aq hs4 (v:=.int st.row) jV (aq hs4 (v:=.str (qj st.wd)) fP ?_)⟩;have sh:Py st:=fun bb XJ=>by
   have:=(jQ st bb XJ).1;have:=eR bb;lia
  refine⟨.ref sa,st,af,rfl,rv.mono s4,sh,fun u H5 s5 ru p6 Rh=>?_⟩;have y5:=s5 _ _ y4;have f5:=f4.up (.of s5);have fu:Fix K (·=tl) H5 (.tup ((tW st af).map .int)) u:=Wr y5 (by rw[Gf];exact zz _) ru;have n6:p6≠tl:=(aj y5 Rh).symm;generalize Ae:upd H5 p6 (.tup [V.int st.row,V.str (qj st.wd),u])=H6 at *;obtain⟨s6,W7⟩:=bX Ae Rh;have ft:Fix K (·=tl) H6 (kA (st.row,st.wd,tW st af)) (.ref p6):=Fix.tup W7 n6 (.cons .int (.cons .str (.cons (fu.up (.of s6)) .nil)));have f6:=f5.up (.of s6);have y6:=s6 _ _ y5;have NK:=(s4.trans s5).trans s6;have amZ:pre.length<=1000:=by
   have h1:=ybv zaQ ep;have h2:=ybv zaQ (gB body x);simp only[zae,zab,zal] at h1 h2;lia
  refine⟨tl,us,_,rfl,rfl,y6,by lia,?_⟩;have s7:ao H (upd H6 tl (.lst (us++[V.ref p6]))):=fun z o e=>by rw[aI (aj e htl)];exact NK z o e
  have f7:=(f6.snoc ft).up (aN.refl.put (O:=(·=tl)) rfl (.lst (us++[V.ref p6])));have y7:(upd H6 tl (.lst (us++[V.ref p6]))) tl=some (.lst (us++[V.ref p6])):=ah;generalize upd H6 tl (.lst (us++[V.ref p6]))=H7 at *;refine(jI _ _).mpr ?_;clear jI;refine jg fun U hU=>?_;walk_at "";refine⟨.ref sa,st,H,rfl,rv,s7,fun l8 bv H8 s8 hl8 y8 r8=>⟨l8,rfl,⟨bv,.of y8⟩,hU _ _ ?_⟩⟩;have W9:bv.length=(ay st).length:=by rw[r8.length,zab]
  have l8t:l8≠tl:=fun z=>by rw[z,y7] at hl8;cases hl8
  obtain⟨Pw,Io⟩:∃Pw:Nat->St->Hp->Prop,∀j G H9,Pw j G H9↔∃(z6:Option V) (us:List V) (IE:List cT),G=[some (V.ref b),some (V.int x),some (V.ref tl),some (V.int i),some (V.ref sa),some (V.int af),z6]/\ao H H9/\(∀z o,z≠tl->H8 z=some o->H9 z=some o)/\H9 tl=some (.lst us)/\dJ K (·=tl) H9 (IE.map kA) us/\us.length=IE.length/\
   IE++((ay st).drop j).flatMap (fun bb=>aP bb (jP st af))=pre++(st.row,st.wd,tW st af)::(ay st).flatMap (fun bb=>aP bb (jP st af)):=⟨_,fun _ _ _=>Iff.rfl⟩
  refine jd (K:=K) (a:=l8) (xs:=bv) Pw ((Io _ _ _).mpr ⟨z6,_,pre++[(st.row,st.wd,tW st af)],rfl,s7.trans s8,fun z o _ e=>e,s8 _ _ y7,by rw[zas];exact f7.up (.of s8),by simp[lu],by simp⟩) (fun j G H9 _ hv=>?_) ?_ ?_
  .obtain⟨_,_,_,_,_,k9,_⟩:=(Io _ _ _).mp hv;exact .of (k9 _ _ l8t y8)
  .intro j y G H9 hj hv;obtain⟨z6',BZ,IE,rfl,s9,k9,y9,f9,lu9,e9⟩:=(Io _ _ _).mp hv;clear hv;have lj:j<(ay st).length:=by have:=(zaj.mp hj).1;lia
   obtain⟨v,hv,rb⟩:=r8.get (i:=j) (d:=.lst ((ay st)[j].map b3)) (by rw[zaf,zac lj];rfl);rw[hj] at hv;cases hv;have mj:(ay st)[j]∈ay st:=zam lj;obtain⟨fb,db⟩:=jQ st _ mj;have ej:(ay st).drop j=(ay st)[j]::(ay st).drop (j+1):=zbc lj;rw[ej,zbI] at e9;generalize (ay st)[j]=bb at *;obtain⟨ab,_,rfl,_⟩:=Rep.bD.mp rb;walk_at "";refine⟨.inl ⟨rfl,_,.of y9⟩,.ref sa,st,af,rfl,rv.mono s9,?_⟩;refine⟨ab,bb,_,rfl,rb.mono s9,by lia,by lia,fun Va Ul UZ Fq aeo Sm Yj=>?_⟩;have aa9:=Fq _ _ y9;have f10:=f9.up (.of Fq);have g10:dJ K (·=tl) UZ ((aP bb (jP st af)).map kA) Ul:=Tn aa9 (DG _) Yj;have Va:Ul.length=(aP bb (jP st af)).length:=by rw[Yj.length,zab]
   have tot:IE.length+(aP bb (jP st af)).length<=2000:=by
    have h1:=ybv zaQ e9;have h2:=ybv zaQ ep;have h3:=ybv zaQ (gB body x);simp only[zae,zab,zal] at h1 h2 h3;lia
   refine⟨tl,_,BZ,Ul,rfl,rfl,aa9,Sm,by lia,?_⟩;refine(Io _ _ _).mpr ⟨_,BZ++Ul,IE++aP bb (jP st af),rfl,fun z o e=>?_,fun z o nz e=>?_,ah,?_,by simp[lu9,Va],by rw[<- e9];simp⟩
   .rw[aI (aj e htl)];exact Fq _ _ (s9 _ _ e)
   .rw[aI nz];exact Fq _ _ (k9 z o nz e)
   .rw[zas];exact(RT f10 g10).up (aN.refl.put (O:=(·=tl)) rfl _)
  .intro G H9 hv;obtain⟨z6',BZ,IE,rfl,s9,k9,y9,f9,lu9,e9⟩:=(Io _ _ _).mp hv;rw[W9,zbP,List.flatMap_nil,zax] at e9;refine done _ _ ⟨_,_,_,_,IE,BZ,rfl,s9,y9,f9,lu9,?_⟩;rw[e9,<- ep];simp
 .intro G H2 hv;obtain⟨z3,z4,z5,z6,pre,us,rfl,s2,y2,f2,lu,ep⟩:=(nH _ _ _).mp hv;rw[lx,zbP,aP,zax] at ep;refine(fh _ _).mpr ?_;walk_at "";rw[ep] at f2;exact q tl us H2 s2 htl y2 f2.CH
theorem Eu(T:Tx K mg t):∀n,bq P w K mg base dF (n+2) t.gG t.fH ["body", "behind"] (xV K n)
 |0=>by
  have no:∀vs H Q E,¬xV K 0 vs H Q E:=fun vs H Q E h=>by cases h;lia
  exact⟨fun vs H Q E h=>ybw h (no vs H Q E),fun A outer s H args us vs Q E _ _ _ _ h=>ybw h (no vs H Q E)⟩
 |n+1=>RU T (Eu T n)
theorem Um(T:Tx K mg t):bq P w K mg base dF 7 t.xg t.rL ["program"] (EO K):=by
 have oI:=Eu (P:=P) (w:=w) (base:=base) T 4;refine T.Fi.F.okN Mt fun _ _ _ _ H vs Q E hr h=>?_;obtain⟨v,pr,rfl,rp,hd,hf,q⟩:=h;have nd:=Mt.nd;obtain⟨Rt,Ca,Cb⟩:=T.Fl;refine⟨_,[some v],(ak (aB (cz oI T.iM hr (aa (iT 0) (aa (mC rfl Ca Cb) ae cK) aA)))),rfl,?_⟩;unfold gC at rp;rw[Rep.aJ] at rp;obtain⟨a,xs,rfl,hx,rs⟩:=rp;rw[aC.av] at rs;obtain⟨v1,t1,rfl,r1,rs⟩:=rs;rw[aC.av] at rs;obtain⟨v2,t2,rfl,r2,rs⟩:=rs;obtain⟨b,_,rfl,_⟩:=Rep.bD.mp r2;walk_at "";refine aq hx (v:=.ref b) jV ?_;exact⟨b,pr.body,0,rfl,r2,by lia,hf,fun l us H' s' hl y r=>q l us H' s' hl y r⟩
theorem XC(T:Tx K mg t)(CD:Cd P w K t):bq P w K mg base dF 30 t.Mu t.Ac ["script"] (LC K):=by
 have rY:=wI (P:=P) (w:=w) (base:=base) T;have IF:=Ft (P:=P) (w:=w) (base:=base) T;have AI:=FI (P:=P) (w:=w) (base:=base) T;have FK:=CO (P:=P) (w:=w) (base:=base) T CD;have FL:=C1 (P:=P) (w:=w) (base:=base) T;have C3:=Cc (P:=P) (w:=w) (base:=base) T;have FN:=C0 (P:=P) (w:=w) (base:=base) T;have g1:=rX (P:=P) (w:=w) (base:=base) T;have g2:=Aj (P:=P) (w:=w) (base:=base) T 4;have g3:=Um (P:=P) (w:=w) (base:=base) T;have C4:=Cm (P:=P) (w:=w) (base:=base) T g1 g2 g3;refine T.Mv.F.okN Rc fun _ _ _ _ H vs Q E hr h=>?_;obtain⟨a,ns,rfl,hS,ZY,q⟩:=h;have nd:=Rc.nd;refine⟨_,[some (V.ref a),none,none,none,none,none,none,none,none,none,none],(ag (ma (i:=1) nd rfl (zbi rfl) (cz IF T.pK hr (a8 0 ae)))
 (ag (fw 2 nd (cz rY T.j6 hr (a8 1 (aa aw ae aE))))
 (ag (fw 3 nd (cz FK T.nj hr (a8 1 (a8 2 ae))))
 (ag (ma (i:=4) nd rfl (zbi rfl) (Ba (Ba (cz AI T.lP hr (a8 2 ae)))))
 (ag (ma (i:=5) nd rfl (zbi rfl) (Ba (Ba (cz AI T.lP hr (a8 3 ae)))))
 (ag (ma (i:=6) nd rfl (zbi rfl) (bL bU (cz FL T.nh hr (a8 4 (a8 5 ae))) aw bI))
 (ag (fw 7 nd (aY fX (aR (a8 6 (aa (aR ae) ae jO))) (jN (own:=["turn"]) (ix:=[1,4,5,6]) rfl (by rfl) (by rfl) (kr rfl T.nE (aa aw ae aE)) (fun _ _ _ _=>(oK 0 (by show List.Nodup (["turn", "deck", "one", "other", "pairs"]:List Str);decide +kernel))) (fun _ _ _ _=>ei) (fun _ _ _ _=>(cz C3 T.lC hr (a8 1 (a8 2 (a8 3 (a8 4 ae)))))))))
 (ag (gR yag rfl (bt (pv 7)) (oK 8 nd)
 (ag (fw 9 nd (bH mH rfl T.uU ybE (a8 8 ae)))
 (ag (fw 10 nd (cz C4 T.lA hr (a8 2 (a8 3 (a8 9 ae)))))
 (ak (aW (PW.pt (pw_or (EB (tM (eT O3 rfl T.rV ybC (a8 10 (aa (SN (v:=.ty "bool") rfl T.Kq yby rfl) ae cK))))) (pw_or (az Lg (pv 10) (cz FN T.nu hr (a8 4 (a8 5 (a8 8 ae)))) (aH _)) (pw_or1 (az (Pp (Pq hr)) (pv 9) (pv 8) (aH _))))))
 (ak (aB nU))
 aG)))))
 (ak (aB nU)))))))))),rfl,?_⟩
 have line:zdq=2 ^ 24:=rfl;refine ai fun U1 cM=>?_;walk_at "";refine⟨a,ns,rfl,hS,ZY,fun D C G H1 s1 nD nC uW=>(cM _ _).mpr (ai fun U2 fh=>?_)⟩;clear cM;have pz:(zP ns).pos=0:=rfl;walk_at "";refine⟨D,C,G,_,8,rfl,uW,by decide,by rw[pz];decide,fun aX d2 v1 H2 Yh p2 c2 sX ow2=>(fh _ _).mpr (ai fun U3 gJ=>?_)⟩;clear fh;rw[pz] at p2;have fx2:Fix K (O2 D C) H2 (gC aX) v1:=ow2 (O2 D C) fun b hb=>by
  rcases hb with rfl |rfl
  .exact uW.dD
  .exact uW.dC
 walk_at "";refine⟨D,C,G,v1,d2,aX,rfl,sX,by lia,fx2,Yh,fun a7 d3 v2 H3 sm2 p3 c3 xj fx3=>(gJ _ _).mpr (ai fun U4 jI=>?_)⟩;clear gJ;have fa3:=fx2.up c3.u;have dr1:=Ko Yh;have dr2:=Ko sm2;have mn1:=Ia Yh;have mn2:=Ia sm2;clear ow2 c2 c3 sX fx2 s1 uW hS;have made:∀(Hx:Hp) (d:Dk) (v:V) (pr:PG.Prog) (R:V->Hp->Prop),eX Hx D C G d->Fix K (O2 D C) Hx (gC pr) v->fO pr->(∀md Hy,ao Hx Hy->Oc K D C Hy md pr->R (.ref md) Hy)->∃c xs,Hx c=some (.lst xs)/\∀o,∃c1 xs1,(upd Hx c (kC c o)) c1=some (.lst xs1)/\∀o1,Mi K [v] (upd (upd Hx c (kC c o)) c1 (kC c1 o1)) (fun v' H'=>H' c1=some (kC c1 o1)/\(upd H' c1 (.lst xs1)) c=some (kC c o)/\R v' (upd (upd H' c1 (.lst xs1)) c (.lst xs))) E0:=by
  intro Hx d v pr R dk fx dr hR;refine⟨D,_,dk.cY,fun o=>⟨C,_,by rw[aI dk.Me.symm];exact dk.cs,fun o1=>?_⟩⟩;have u:aN (O2 D C) Hx (upd (upd Hx D (kC D o)) C (kC C o1)):=fun b x n e=>by
   rw[aI fun z=>n (.inr z),aI fun z=>n (.inl z)];exact e
  have yD:(upd (upd Hx D (kC D o)) C (kC C o1)) D=some (kC D o):=by rw[aI dk.Me];exact ah
  have yC:(upd (upd Hx D (kC D o)) C (kC C o1)) C=some (kC C o1):=ah;refine⟨v,pr,rfl,fx _ u,dr,fun md H' s' mf=>⟨s' _ _ yC,by rw[aI dk.Me];exact s' _ _ yD,hR md _ (fun b x e=>?_) ?_⟩⟩
  .by_cases zD:b=D
   .subst zD;rw[dk.cY] at e;cases e;exact ah
   .by_cases zC:b=C
    .subst zC;rw[dk.cs] at e;cases e;rw[aI zD];exact ah
    .rw[aI zD,aI zC];exact s' _ _ (u _ _ (fun z=>z.elim zD zC) e)
  .exact Oc.of mf (s' _ _ yD) (s' _ _ yC) fun b x n1 n2 e=>by rw[aI n1,aI n2];exact e
 walk_at "";simp only[Q7];walk_at "";refine made H3 d3 v1 aX _ xj fa3 dr1 fun m1 H4 s4 mh1=>(jI _ _).mpr (ai fun U5 tj=>?_);clear jI;have fa4:=fa3.up (aN.of s4);have fx4:=fx3.up (aN.of s4);have Ii:=xj.same s4;walk_at "";simp only[Q7];walk_at "";refine made H4 d3 v2 a7 _ Ii fx4 dr2 fun m2 H5 s5 Yg=>(tj _ _).mpr (ai fun U6 AU=>?_);clear tj made;have XD:=mh1.chg (eL.of s5);have AE:=Ii.same s5;have fa5:=fa4.up (aN.of s5);have fx5:=fx4.up (aN.of s5);clear xj fa3 fx3 s4 mh1 Ii fa4 fx4 s5;walk_at "";refine⟨m1,m2,aX,a7,rfl,XD.X4,Yg.X4,dr1,dr2,mn1,mn2,fun r L dv l us H6 s6 fL yr yL w5 uZ JL om=>aL (.of yr) (v:=.ref L) fP ((AU _ _).mpr (ai fun U7 Jg=>?_))⟩;clear AU;have nL:L≠D/\L≠C:=⟨(aj AE.cY fL).symm,(aj AE.cs fL).symm⟩
 walk_at "";intro e0 Xp LL hLL;have se:=ao.new Xp (.lst []);have sl:=ao.new hLL (.lst [V.ref L,V.ref e0]);have XA:=se.trans sl;have ye:=sl _ _ (ah (H:=H6) (a:=e0) (o:=.lst []));have yLL:(upd (upd H6 e0 (.lst [])) LL (.lst [V.ref L,V.ref e0])) LL=some (.lst [V.ref L,V.ref e0]):=ah;have Yt:=s6.trans XA;have qL:=AE.same Yt;have ne0:e0≠D/\e0≠C:=⟨(aj (AE.same s6).cY Xp).symm,(aj (AE.same s6).cs Xp).symm⟩
 have nLL:LL≠D/\LL≠C:=⟨(aj ((AE.same s6).same se).cY hLL).symm,(aj ((AE.same s6).same se).cs hLL).symm⟩
 have m1h:=XD.chg (eL.of Yt);have m2h:=Yg.chg (eL.of Yt);have fa7:=fa5.up (aN.of Yt);have fx7:=fx5.up (aN.of Yt);have yL7:=XA _ _ yL;have Uo:=w5.mono XA;clear se sl Xp hLL AE XD Yg fa5 fx5 yL w5 yr s6 XA Yt fL;generalize upd (upd H6 e0 (.lst [])) LL (.lst [V.ref L,V.ref e0])=H7 at *;simp only[cJ];walk_at "";refine⟨4,rfl,by decide,by decide,fun DD Of=>?_⟩;have Iq:DD≠D/\DD≠C/\DD≠G:=⟨(aj qL.cY Of).symm,(aj qL.cs Of).symm,(aj qL.gs Of).symm⟩
 refine zX (n:=4) (r:=[some (.ref D),some (.ref m1),some (.ref m2),some (.ref L)]) (fun i ys Hy=>∃(dy:Dk),Hy DD=some (.lst ys)/\ys.length=i/\eX Hy D C G dy/\dy.pos<=d3.pos+20*i/\eL D C H7 Hy/\∀y∈ys,ym K aX a7 Hy y/\y≠.ref D/\y≠.ref C/\y≠.ref DD) (by decide) (fun i ys Hy ⟨_,h1,h2,_⟩=>⟨h1,h2⟩) ?_ (fun i ys Hy hi h R hR=>?_) (fun ys Hy h=>?_)
 .refine⟨d3,ah,rfl,⟨by rw[aI Iq.1.symm];exact qL.cY,by rw[aI Iq.2.1.symm];exact qL.cs,by rw[aI Iq.2.2.symm];exact qL.gs,qL.Me,qL.Sj,qL.Sk,qL.len,qL.gl,qL.pos⟩,by lia,eL.of (ao.new Of _),fun _ z=>by cases z⟩
 .obtain⟨dy,yDD,ly,Sr,py,cy,pap⟩:=h;walk_at "";refine⟨D,C,G,m1,m2,L,dy,aX,a7,l,us,rfl,Sr,by lia,m1h.chg cy,m2h.chg cy,Yh,sm2,cy.get yL7 nL.1 nL.2,nL.1,nL.2,Uo.lZ (qL.tup cy),uZ,JL,om,fun p' l' BZ d' H' pd c' RA fp yp abb afW afX=>?_⟩;have abc:=c'.get yDD Iq.1 Iq.2.1;have np:p'≠D/\p'≠C/\p'≠DD:=⟨(aj Sr.cY fp).symm,(aj Sr.cs fp).symm,(aj yDD fp).symm⟩
  have u8:a9 DD H' (upd H' DD (.lst (ys++[V.ref p']))):=(a9.refl _ _).put _;have t8:∀b zs,bG K H' b zs->bG K (upd H' DD (.lst (ys++[V.ref p']))) b zs:=fun b zs h=>h.Qd abc u8;refine hR _ _ abc ⟨d',ah,by simp[ly],⟨u8 _ _ Iq.1.symm RA.cY,u8 _ _ Iq.2.1.symm RA.cs,u8 _ _ Iq.2.2.symm RA.gs,RA.Me,RA.Sj,RA.Sk,RA.len,RA.gl,RA.pos⟩,by lia,⟨fun b o n e=>u8 _ _ (aj e Of) ((cy.trans c').u b o n e),fun b h=>?_⟩,fun y hy=>?_⟩
  .by_cases z:b=DD
   .rw[z,ah];simp
   .rw[aI z];exact(cy.trans c').nX b h
  .rcases zak.mp hy with hy |hy
   .obtain⟨pk,n1,n2,n3⟩:=pap y hy;obtain⟨p,zs,e,yz,gz,lz⟩:=pk.chg ⟨n1,n2⟩ Sr c';exact⟨⟨p,zs,e,u8 _ _ (fun z=>n3 (by rw[e,z])) yz,gz.lZ t8,lz⟩,n1,n2,n3⟩
   .cases zai.mp hy;exact⟨⟨p',BZ,rfl,u8 _ _ np.2.2 yp,(gU.of abb afW).lZ t8,by rw[<- yaj abb];exact afX⟩,fun z=>np.1 (V.ref.inj z),fun z=>np.2.1 (V.ref.inj z),fun z=>np.2.2 (V.ref.inj z)⟩
 obtain⟨dy,yDD,ly,Sr,py,cy,pap⟩:=h;refine⟨LL,DD,_,ys,rfl,rfl,cy.get yLL nLL.1 nLL.2,yDD,by simp;lia,fun PL hPL=>(Jg _ _).mpr ?_⟩;clear Jg;generalize nG:upd Hy PL (.lst ([V.ref L,V.ref e0]++ys))=H9 at *;obtain⟨s9,yPL⟩:=bX nG hPL;have afY:∀y∈[V.ref L,V.ref e0]++ys,ym K aX a7 H9 y:=fun y hy=>by
  refine ym.mono ?_ s9;rcases zak.mp hy with hy |hy
  .rcases zan.mp hy with rfl |hy
   .exact⟨L,us,rfl,cy.get yL7 nL.1 nL.2,(gU.of Uo uZ).lZ (qL.tup cy),by rw[<- yaj Uo];lia⟩
   .cases zai.mp hy;exact⟨e0,[],rfl,cy.get ye ne0.1 ne0.2,fun _ z=>(by cases z),by decide⟩
  .exact(pap y hy).1
 have rp1:Rep K H9 (gC aX) v1:=((fa7.up cy.u).rep).mono s9;have rp2:Rep K H9 (gC a7) v2:=((fx7.up cy.u).rep).mono s9;have Sz:=(m1h.chg cy).X4.mono s9;have SA:=(m2h.chg cy).X4.mono s9;have lpp:([V.ref L,V.ref e0]++ys).length<=6:=by simp;lia
 clear s9 hPL cy pap Sr yDD fa7 fx7 m1h m2h yL7 Uo qL ye yLL;generalize [V.ref L,V.ref e0]++ys=pps at *;refine ai fun U8 WX=>?_;refine jg fun U hU=>?_;walk_at "";refine⟨⟨pps,.of yPL⟩,hU _ _ ?_⟩;clear hU;obtain⟨Pv,nH,iF⟩:=Je fun (i:Nat) (Y:St) (Hx:Hp) zq=>∀(z8 z9 z10:Option V),Y=[some (V.ref a),some (V.ref D),some v1,some v2,some (V.ref m1),some (V.ref m2),some (V.ref L),some (V.ref PL),z8,z9,z10]->ao H9 Hx->zq;refine jd (K:=K) (a:=PL) (xs:=pps) Pv (nH _ _ _ fun _ zk=>zk _ _ _ rfl (.refl _)) (fun i Y Hx _ hv=>?_) (fun i y Y Hx hi hv=>?_) (fun Y Hx hv=>?_)
 .exact iF _ _ _ hv _ fun _ _ _ _ sx=>.of (sx _ _ yPL)
 .refine iF _ _ _ hv _ fun z8 z9 z10 ze sx=>?_;subst ze;clear hv;obtain⟨p,zs,rfl,yz,gz,lz⟩:=(afY y (zaC hi)).mono sx;obtain⟨l2,af0,abd,ll2⟩:=gz.w5;simp only[cF,zba];refine ai fun V1 yV=>?_;walk_at "";refine⟨p,zs,rfl,.inl (.of yz),fun hd hhd=>(yV _ _).mpr (ai fun V2 Gj=>?_)⟩;clear yV;generalize Ae:upd Hx hd (.lst zs)=HA at *;obtain⟨sA,yhd⟩:=bX Ae hhd;have sxA:=sx.trans sA;have yzA:=sA _ _ yz;have abe:=af0.mono sA;clear sA hhd;walk_at "";refine⟨v1,v2,hd,aX,a7,l2,zs,rfl,rp1.mono sxA,rp2.mono sxA,dr1,dr2,by lia,by lia,.of yhd,abe,abd,by lia,fun HB sB=>(Gj _ _).mpr ?_⟩;clear Gj;have sxB:=sxA.trans sB;have abf:=abe.mono sB;walk_at "";have rp:∀(b:zdi) (HC:Hp),ao HB HC->HB b=some (.lst zs)->Rep K HC (.lst (l2.map HI)) (.ref b):=fun b HC sC yb=>Rep.bD.mpr ⟨b,zs,rfl,.of (sC _ _ yb),Ms (abf.mono sC)⟩;refine⟨_, "bool",_,true,rfl,.bl _,by kernel_rfl,(ybq (by decide)).mpr ⟨m1,m2,p,aX,a7,l2,zs,rfl,Sz.mono sxB,SA.mono sxB,dr1,dr2,by lia,by lia,.of (sB _ _ yzA),abf,abd,by lia,fun HC sC=>⟨rfl,(ybr rfl).mpr ⟨_,_,rp hd HC sC (sB _ _ yhd),rp p HC sC (sB _ _ yzA),Eh _,Eh _,?_⟩⟩⟩⟩;rw[eqv_refl];exact⟨_,rfl,(ybq (by decide)).mpr (nH _ _ _ fun _ zk=>zk _ _ _ rfl (sxB.trans sC))⟩
 refine iF _ _ _ hv _ fun z8 z9 z10 ze sx=>(WX _ _).mpr ?_;subst ze;walk_at "";exact q _
end
end WT
end
section
set_option maxHeartbeats 4000000
namespace WT
open PG
open PySem L2
section
variable{P:zdu}{w:zdk}{K:zaa}{mg:Str->Option zdj}{base:yaf}
theorem all_mk{l:PySem.W.OpenLaw}(X:K.In h)(G:h.Ns zdp mg)(hfa:mg "law"=some (.ref fa))
 (XE:FH K "flow" Kp xg)
 (Co:FH K "flow_of_body" oz gG)
 (IG:FH K "first_row" uj fQ)
 (C5:FH K "behind_body" pX jk)
 (N0:FH K "ways_of" zY qG)
 (IH:FH K "bodies_in" uk gO)
 (AY:FH K "statements_in" mn cu)
 (xu:FH K "copied_statement" jx eZ)
 (C6:FH K "copied_body" pY il)
 (C7:FH K "with_bodies" pZ kP)
 (Up:FH K "worth" Fg vC)
 (N3:FH K "word_at" zZ vD)
 (KU:FH K "by_names" w6 rN)
 (KW:FH K "in_order" w8 rO)
 (Uq:FH K "holds" Fh Bb)
 (N4:FH K "step_by" z0 vE)
 (xv:FH K "behind_condition" jy gY)
 (FO:FH K "all_led_to" rA mN)
 (C8:FH K "right_alike" qa kR)
 (II:FH K "is_unseen" um oX)
 (N5:FH K "seen_at" Aa vF)
 (FP:FH K "first_pair" rC mP)
 (IJ:FH K "see_alike" uo oY)
 (Cp:FH K "pairs_behind" oA jZ)
 (N6:FH K "changes" Ab vG)
 (IK:FH K "body_with" uq jE)
 (FQ:FH K "others_for" rD mR)
 (qi:FH K "with_other_expressions" fZ dB)
 (IL:FH K "with_part" ur oZ)
 (vh:FH K "with_other_numbers" iI cA)
 (Ao:FH K "numbers_beside" kG i3)
 (xw:FH K "with_other_signs" jz dn)
 (IM:FH K "_law_draw" uv o6)
 (IP:FH K "_law_deck" uz o7)
 (Cq:FH K "_law_small_e" oC gI)
 (r9:FH K "_law_small_statement" gX bW)
 (zh:FH K "_law_small_body" jW fS)
 (FR:FH K "_law_small" rE mV)
 (IQ:FH K "_law_flat" uD jF)
 (IS:FH K "_law_made" uG pq)
 (FT:FH K "_law_worth" rF i5)
 (FU:FH K "_law_holds" rG mX)
 (IT:FH K "_law_word" uI pE)
 (IU:FH K "_law_step" uJ pF)
 (IV:FH K "_law_seen" uK pG)
 (C9:FH K "_law_behind" qb kX)
 (FV:FH K "_law_pairs" rH m4)
 (FW:FH K "_law_other" rJ m5)
 (FX:FH K "_law_right" rK m6)
 (KY:FH K "_law_any" xf rS)
 (Dc:FH K "_law_spoilt" qc k7)
 (Vv:FH K "law" Rb Mu)
 (Ur:zaR K zdp "Chart"=some (some (.ref bh)))
 (RV:zb0 K bh Str.empty=true)
 (RW:zb8 K bh=true)
 (RX:zcl K bh=true)
 (RY:zaI K (.ref bh) "__setattr__"=some (some (.builtin "object.__setattr__")))
 (FY:zaI K (.ref bh) "__init__"=some (some (.ref fT)))
 (FZ:K.lookup fT=some ⟨SD,SE,.func (zbg "__init__" "Chart.__init__" (jq eA) (gS eA) (aD eA) .none Dd De Df Dg wJ Dh),SF⟩)
 (F0:zbX K wJ "Chart.__init__"=true)
 (F3:zbo K (.ref fT)=true)
 (F4:zcg K (.ref fT)=true)
 (B5:zcv K bh=true)
 (RZ:zbo K (.ref bh)=true)
 (iP:zaI K (.ref bh) "names"=some none)
 (iQ:zaI K (.ref bh) "sizes"=some none)
 (iR:zaI K (.ref bh) "first"=some none)
 (cO:zaI K (.ref bh) "statements"=some none)
 (iq:zaI K (.ref bh) "ways"=some none)
 (Us:zaR K zdp "Watch"=some (some (.ref bN)))
 (R1:zb0 K bN Str.empty=true)
 (R3:zb8 K bN=true)
 (R4:zcl K bN=true)
 (R5:zaI K (.ref bN) "__setattr__"=some (some (.builtin "object.__setattr__")))
 (F5:zaI K (.ref bN) "__init__"=some (some (.ref fU)))
 (F6:K.lookup fU=some ⟨SG,SH,.func (zbg "__init__" "Watch.__init__" (jq eB) (gS eB) (aD eB) .none Di Dj Dl Dm wK Dn),SI⟩)
 (F7:zbX K wK "Watch.__init__"=true)
 (F8:zbo K (.ref fU)=true)
 (F9:zcg K (.ref fU)=true)
 (yT:zcv K bN=true)
 (R6:zbo K (.ref bN)=true)
 (xx:zaI K (.ref bN) "sight_from"=some (some (.ref bT)))
 (xy:K.lookup bT=some ⟨Jl,Jm,.func (zbg "sight_from" "Watch.sight_from" (jq bM) (gS bM) (aD bM) .none vS vT vU vV mB vW),Jn⟩)
 (xA:zbX K mB "Watch.sight_from"=true)
 (oJ:zbo K (.ref bT)=true)
 (xB:zcg K (.ref bT)=true)
 (ck:zaI K (.ref bN) "chart"=some none)
 (cR:zaI K (.ref bN) "sights"=some none)
 (abg:zaR K zdp "END"=some (some (.int 0 aiS)))
 (Cr:zaR K zdp "FIGURE_COUNT"=some (some (.int 10 R7)))
 (zi:zaR K zdp "GREATEST_NUMBER"=some (some (.int 999 MO)))
 (vX:zaR K zdp "EXPRESSION_PLACES"=some (some (.ref bY)))
 (vY:K.lookup bY=some ⟨.type "dict",none,.dict vi IW, #[]⟩)
 (vk:(bY==yal)=false)
 (vZ:UR l.prog w [(.inr "ask",.ref lS),(.inr "put",.ref lT),(.inr "say",.ref lU),(.inr "must",.ref lV),(.inr "if",.ref lW),(.inr "while",.ref lX),(.inr "stop",.ref lY)] vi.toList)
 (tw:K.lookup lS=some ⟨.type "tuple",Gp,.seq sj IX,Gq⟩)
 (ke:Vals [] sj.toList)
 (tE:K.lookup lT=some ⟨.type "tuple",Gr,.seq sk IY,Gu⟩)
 (kg:Vals [.int 3] sk.toList)
 (tF:K.lookup lU=some ⟨.type "tuple",Gv,.seq sr IZ,Gw⟩)
 (kh:Vals [.int 2] sr.toList)
 (tG:K.lookup lV=some ⟨.type "tuple",Gx,.seq su I0,Gy⟩)
 (kl:Vals [.int 3,.int 4] su.toList)
 (tH:K.lookup lW=some ⟨.type "tuple",Gz,.seq sF Ja,GA⟩)
 (km:Vals [.int 3,.int 4] sF.toList)
 (tI:K.lookup lX=some ⟨.type "tuple",GB,.seq sI Jb,GC⟩)
 (ko:Vals [.int 3,.int 4] sI.toList)
 (tJ:K.lookup lY=some ⟨.type "tuple",GD,.seq sJ Jc,GF⟩)
 (kq:Vals [] sJ.toList)
 (Dq:zaR K zdp "OTHER_SIGNS"=some (some (.ref eN)))
 (Dr:K.lookup eN=some ⟨.type "dict",none,.dict Cs R8, #[]⟩)
 (Ct:(eN==yal)=false)
 (Ds:UR l.prog w [(.inr "+",.str "-"),(.inr "-",.str "+"),(.inr "*",.str "+"),(.inr "<",.str "="),(.inr "=",.str "<")] Cs.toList)
 (pM:zaR K zdp "len"=some none)
 (nE:zaR K zdp "range"=some none)
 (wF:zaR K zdp "int"=some none)
 (Kq:zaR K zdp "bool"=some none)
 (xi:zaR K zdp "dict"=some none)
 (uU:zaR K zdp "list"=some none)
 (pN:zaR K zdp "tuple"=some none)
 (Rg:zaR K zdp "all"=some none)
 (rV:zaR K zdp "isinstance"=some none)
 (uV:zaR K zdp "enumerate"=some none)
 (Mw:zaR K zdp "zip"=some none)
 (B6:zaR K zdp "sorted"=some none)
 : ∃fd:zdr,(∀(s:zds) (v:zdj),BindsTo s fd ⟨[v],[]⟩ [("script",v)])/\∀base:yaf,K.In base->base.Ns zdp mg->bq l.prog w K mg base dF 30 fa fd ["script"] (LC K):=by
 have e:=hfa.symm.trans (zbK X G Vv.1);cases e;obtain⟨rL,Fi⟩:=l7 X G XE (ps:=["program"]) fun _ _ _ _ _ _=>J9 fun _=>rfl;obtain⟨fH,iM⟩:=l7 X G Co (ps:=["body", "behind"]) fun _ _ _ _ _ _=>zN fun _ _=>rfl;obtain⟨eC,gP⟩:=l7 X G IG (ps:=["body", "behind"]) fun _ _ _ _ _ _=>zN fun _ _=>rfl;obtain⟨iJ,k8⟩:=l7 X G C5 (ps:=["statement", "after"]) fun _ _ _ _ _ _=>zN fun _ _=>rfl;obtain⟨oF,vH⟩:=l7 X G N0 (ps:=["statement", "after"]) fun _ _ _ _ _ _=>zN fun _ _=>rfl;obtain⟨fR,iN⟩:=l7 X G IH (ps:=["statement"]) fun _ _ _ _ _ _=>J9 fun _=>rfl;obtain⟨bV,fJ⟩:=l7 X G AY (ps:=["body"]) fun _ _ _ _ _ _=>J9 fun _=>rfl;obtain⟨dU,fe⟩:=l7 X G xu (ps:=["statement"]) fun _ _ _ _ _ _=>J9 fun _=>rfl;obtain⟨gH,lg⟩:=l7 X G C6 (ps:=["body"]) fun _ _ _ _ _ _=>J9 fun _=>rfl;obtain⟨jX,jl⟩:=l7 X G C7 (ps:=["statement", "bodies"]) fun _ _ _ _ _ _=>zN fun _ _=>rfl;obtain⟨qH,m7⟩:=l7 X G Up (ps:=["e", "values"]) fun _ _ _ _ _ _=>zN fun _ _=>rfl;obtain⟨rM,kJ⟩:=l7 X G N3 (ps:=["chart", "row"]) fun _ _ _ _ _ _=>zN fun _ _=>rfl;obtain⟨oV,oG⟩:=l7 X G KU (ps:=["chart", "parts"]) fun _ _ _ _ _ _=>zN fun _ _=>rfl;obtain⟨oW,rT⟩:=l7 X G KW (ps:=["chart", "named"]) fun _ _ _ _ _ _=>zN fun _ _=>rfl;obtain⟨yP,yQ⟩:=l7 X G Uq (ps:=["chart", "standing"]) fun _ _ _ _ _ _=>zN fun _ _=>rfl;obtain⟨rP,kK⟩:=l7 X G N4 (ps:=["chart", "standing", "figure"]) fun _ _ _ _ _ _=>Oa fun _ _ _=>rfl;obtain⟨gy,gZ⟩:=l7 X G xv (ps:=["chart", "standing"]) fun _ _ _ _ _ _=>zN fun _ _=>rfl;obtain⟨kQ,j4⟩:=l7 X G FO (ps:=["chart", "standing"]) fun _ _ _ _ _ _=>zN fun _ _=>rfl;obtain⟨jY,lA⟩:=l7 X G C8 (ps:=["one", "other", "paper"]) fun _ _ _ _ _ _=>Oa fun _ _ _=>rfl;obtain⟨mO,pJ⟩:=l7 X G II (ps:=["chart", "standing"]) fun _ _ _ _ _ _=>zN fun _ _=>rfl;obtain⟨rQ,vI⟩:=l7 X G N5 (ps:=["chart", "standing"]) fun _ _ _ _ _ _=>zN fun _ _=>rfl;obtain⟨kS,m8⟩:=l7 X G FP (ps:=["both"]) fun _ _ _ _ _ _=>J9 fun _=>rfl;obtain⟨mQ,lN⟩:=l7 X G IJ (ps:=["both", "pair"]) fun _ _ _ _ _ _=>zN fun _ _=>rfl;obtain⟨jt,j5⟩:=l7 X G Cp (ps:=["both", "pair"]) fun _ _ _ _ _ _=>zN fun _ _=>rfl;obtain⟨rR,vJ⟩:=l7 X G N6 (ps:=["program"]) fun _ _ _ _ _ _=>J9 fun _=>rfl;obtain⟨iZ,lO⟩:=l7 X G IK (ps:=["body", "row", "others"]) fun _ _ _ _ _ _=>Oa fun _ _ _=>rfl;obtain⟨kT,m9⟩:=l7 X G FQ (ps:=["statement"]) fun _ _ _ _ _ _=>J9 fun _=>rfl;obtain⟨cU,dE⟩:=l7 X G qi (ps:=["statement"]) fun _ _ _ _ _ _=>J9 fun _=>rfl;obtain⟨mS,jG⟩:=l7 X G IL (ps:=["statement", "place", "part"]) fun _ _ _ _ _ _=>Oa fun _ _ _=>rfl;obtain⟨b4,cB⟩:=l7 X G vh (ps:=["e"]) fun _ _ _ _ _ _=>J9 fun _=>rfl;obtain⟨iB,i6⟩:=l7 X G Ao (ps:=["number"]) fun _ _ _ _ _ _=>J9 fun _=>rfl;obtain⟨cN,dq⟩:=l7 X G xw (ps:=["e"]) fun _ _ _ _ _ _=>J9 fun _=>rfl;obtain⟨mT,aM⟩:=l7 X G IM (ps:=["deck", "many"]) fun _ _ _ _ _ _=>zN fun _ _=>rfl;obtain⟨mU,pK⟩:=l7 X G IP (ps:=["script"]) fun _ _ _ _ _ _=>J9 fun _=>rfl;obtain⟨fI,cg⟩:=l7 X G Cq (ps:=["deck", "names", "deep"]) fun _ _ _ _ _ _=>Oa fun _ _ _=>rfl;obtain⟨bQ,eE⟩:=l7 X G r9 (ps:=["deck", "names", "deep"]) fun _ _ _ _ _ _=>Oa fun _ _ _=>rfl;obtain⟨fc,bo⟩:=l7 X G zh (ps:=["deck", "names", "deep"]) fun _ _ _ _ _ _=>Oa fun _ _ _=>rfl;obtain⟨kU,j6⟩:=l7 X G FR (ps:=["deck", "most"]) fun _ _ _ _ _ _=>zN fun _ _=>rfl;obtain⟨i4,iO⟩:=l7 X G IQ (ps:=["body", "then", "found"]) fun _ _ _ _ _ _=>Oa fun _ _ _=>rfl;obtain⟨mW,lP⟩:=l7 X G IS (ps:=["program"]) fun _ _ _ _ _ _=>J9 fun _=>rfl;obtain⟨ip,eF⟩:=l7 X G FT (ps:=["e", "names", "values"]) fun _ _ _ _ _ _=>Oa fun _ _ _=>rfl;obtain⟨kW,ng⟩:=l7 X G FU (ps:=["made", "standing"]) fun _ _ _ _ _ _=>zN fun _ _=>rfl;obtain⟨mY,pL⟩:=l7 X G IT (ps:=["made", "standing"]) fun _ _ _ _ _ _=>zN fun _ _=>rfl;obtain⟨mZ,jH⟩:=l7 X G IU (ps:=["made", "standing", "figure"]) fun _ _ _ _ _ _=>Oa fun _ _ _=>rfl;obtain⟨m3,lQ⟩:=l7 X G IV (ps:=["made", "standing"]) fun _ _ _ _ _ _=>zN fun _ _=>rfl;obtain⟨j0,jm⟩:=l7 X G C9 (ps:=["one", "other", "pair"]) fun _ _ _ _ _ _=>Oa fun _ _ _=>rfl;obtain⟨kY,nh⟩:=l7 X G FV (ps:=["one", "other"]) fun _ _ _ _ _ _=>zN fun _ _=>rfl;obtain⟨kZ,nj⟩:=l7 X G FW (ps:=["deck", "program"]) fun _ _ _ _ _ _=>zN fun _ _=>rfl;obtain⟨k5,nu⟩:=l7 X G FX (ps:=["one", "other", "paper"]) fun _ _ _ _ _ _=>Oa fun _ _ _=>rfl;obtain⟨pH,oH⟩:=l7 X G KY (ps:=["deck", "made"]) fun _ _ _ _ _ _=>zN fun _ _=>rfl;obtain⟨j3,lC⟩:=l7 X G Dc (ps:=["deck", "one", "other", "paper"]) fun _ _ _ _ _ _=>bn4 fun _ _ _ _=>rfl;obtain⟨Ac,Mv⟩:=l7 X G Vv (ps:=["script"]) fun _ _ _ _ _ _=>J9 fun _=>rfl;have nv:=EK (st:=eA) FZ F0 F3;have Ga:=nv.binds (ps:=["self", "program"]) fun _ _ _ _ _ _=>zN fun _ _=>rfl;have ny:=EK (st:=eB) F6 F7 F8;have Gb:=ny.binds (ps:=["self", "program"]) fun _ _ _ _ _ _=>zN fun _ _=>rfl;have g7:=EK (st:=bM) xy xA oJ;have xC:=g7.binds (ps:=["self", "standing"]) fun _ _ _ _ _ _=>zN fun _ _=>rfl
 let t:Ad:=⟨xg,
  rL,gG,fH,fQ,eC,jk,iJ,qG,oF,gO,fR,cu,bV,eZ,dU,il,gH,kP,jX,vC,qH,vD,rM,rN,oV,rO,oW,Bb,yP,vE,rP,gY,gy,mN,kQ,kR,jY,oX,mO,vF,rQ,mP,kS,oY,mQ,jZ,jt,vG,rR,jE,iZ,mR,kT,dB,cU,oZ,mS,cA,b4,i3,iB,dn,cN,o6,mT,o7,mU,gI,fI,bW,bQ,fS,fc,mV,kU,jF,i4,pq,mW,i5,ip,mX,kW,pE,mY,pF,mZ,pG,m3,kX,j0,m4,kY,m5,kZ,m6,k5,rS,pH,k7,j3,fa,Ac,fT,zbg "__init__" "Chart.__init__" (jq eA) (gS eA) (aD eA) .none Dd De Df Dg wJ Dh,
  fU,zbg "__init__" "Watch.__init__" (jq eB) (gS eB) (aD eB) .none Di Dj Dl Dm wK Dn,
  bT,zbg "sight_from" "Watch.sight_from" (jq bM) (gS bM) (aD bM) .none vS vT vU vV mB vW,
  bh,bN,bY,eN⟩
 have T:Tx K mg t:=⟨Fi,
  iM,gP,k8,vH,iN,fJ,fe,lg,jl,m7,kJ,oG,rT,yQ,kK,gZ,j4,lA,pJ,vI,m8,lN,j5,vJ,lO,m9,dE,jG,cB,i6,dq,aM,pK,cg,eE,bo,j6,iO,lP,eF,ng,pL,jH,lQ,jm,nh,nj,nu,oH,lC,Mv,nv,Ga,ny,Gb,g7,xC,⟨xx,xB,oJ⟩,⟨RV,RW,RX,RY⟩,zbK X G Ur,
  ⟨B5,FY,F4,RZ⟩,iP,iQ,iR,cO,iq,⟨R1,R3,R4,R5⟩,zbK X G Us,
  ⟨yT,F5,F9,R6⟩,ck,cR,⟨_,zbK X G abg,_,rfl⟩,
  ⟨_,zbK X G Cr,_,rfl⟩,
  ⟨_,zbK X G zi,_,rfl⟩,
  zbK X G vX,
  zbK X G Dq,
  za0 X G pM,
  za0 X G nE,
  za0 X G wF,
  za0 X G Kq,
  za0 X G xi,
  za0 X G uU,
  za0 X G pN,
  za0 X G Rg,
  za0 X G rV,
  za0 X G uV,
  za0 X G Mw,
  za0 X G B6⟩
 have CDD:Cd l.prog w K t:=⟨⟨lS,lT,lU,lV,lW,lX,lY,WG.mk vY vk vZ (by show List.Nodup ([.inr "ask",.inr "put",.inr "say",.inr "must",.inr "if",.inr "while",.inr "stop"]:List Key);decide +kernel) (by show 7<=zdq;decide),fun _=>.inr ⟨_,_,_,tw,rfl,rfl,by have:=ke.length;simp only[zal,zaF,zaJ] at this;rw[<- this];decide,ke⟩,fun _=>.inr ⟨_,_,_,tE,rfl,rfl,by have:=kg.length;simp only[zal,zaF,zaJ] at this;rw[<- this];decide,kg⟩,fun _=>.inr ⟨_,_,_,tF,rfl,rfl,by have:=kh.length;simp only[zal,zaF,zaJ] at this;rw[<- this];decide,kh⟩,fun _=>.inr ⟨_,_,_,tG,rfl,rfl,by have:=kl.length;simp only[zal,zaF,zaJ] at this;rw[<- this];decide,kl⟩,fun _=>.inr ⟨_,_,_,tH,rfl,rfl,by have:=km.length;simp only[zal,zaF,zaJ] at this;rw[<- this];decide,km⟩,fun _=>.inr ⟨_,_,_,tI,rfl,rfl,by have:=ko.length;simp only[zal,zaF,zaJ] at this;rw[<- this];decide,ko⟩,fun _=>.inr ⟨_,_,_,tJ,rfl,rfl,by have:=kq.length;simp only[zal,zaF,zaJ] at this;rw[<- this];decide,kq⟩⟩,WG.mk Dr Ct Ds (by show List.Nodup ([.inr "+",.inr "-",.inr "*",.inr "<",.inr "="]:List Key);decide +kernel) (by show 5<=zdq;decide)⟩
 obtain⟨_,_,_,_,_,_,_,_,_,z,_⟩:=Mv.F.ex;exact⟨t.Ac,fun s v=>by rw[show t.Ac=_ from z];exact .of_eq rfl,fun base _ _=>XC T CDD⟩
theorem walk{l:PySem.W.OpenLaw}{K:Params->zaa}(hn:l.most=some 63)(Y5:d.params.defaults=[])
 (hY:∀(w:zdk) (h:yaf),YP w h->(K w.params).In h)
 (F:∀(w:zdk) (mg:Str->Option zdj) (fa:zdi) (h:yaf),(K w.params).In h->h.Ns zdp mg->mg d.name=some (.ref fa)->
  ∃fd:zdr,(∀(s:zds) (u:zdj),BindsTo s fd ⟨[u],[]⟩ [("script",u)])/\∀base:yaf,(K w.params).In base->base.Ns zdp mg->bq l.prog w (K w.params) mg base dF 30 fa fd ["script"] (LC (K w.params))) :
 PySem.W.WalkO q loose XP YP l.row.toRowW d [] (fun f vs=>PySem.call f vs):=
 L2.S8 (n:=63) (k:=30) (x:="script") (CX:=fun _=>dF) (sp:=fun w=>LC (K w.params)) hn (by decide) Y5 ⟨rfl,by decide,by decide⟩ hY F (fun _ _ a ns hl _ hS=>⟨a,ns,rfl,hS,hl,fun _=>rfl⟩) fun _ _ _ _ _ z=>z
end
end WT
end
structure PySem.W.Fast:Prop where(tw9567545225696129104 tw3395949251483181119 tw11916425906558837658 tw12820782038758981697 tw1473925970843084031 tw5199231263756731473 tw17072193233932326497 tw10372770659790476025 tw11176396095765440270 tw6534499826147164116 tw8741946857401856348 tw6908488901445493707 tw9733502941513880198 tw2009941535774622625 tw14928991062027942933 tw16779803755893956983 tw5460371047992777726 tw6712852536605116859 tw14001376124331495422 tw6349239921538021667 tw5679513042561889828 tw8720835996422648419 tw7760461609575096747 tw2656132014627338051 tw9426631472812402817 tw9451706669050218647 tw17237602811372234689 tw16384058323774322092 tw18185802307761307379 tw10926398990626477981 tw12662611629197620143 tw13603548109158250150 tw1980975424113735148 tw18186115453401260956 tw13668503886316195204 tw5134742803963149481 tw4686915978009372463 tw8974483487139581130 tw9833928162744543973 tw5579007100416668058 tw6337403336528311714 tw3634803544331985890 tw5841106080625845290 tw11671582864071264884 tw235922257877744054 tw17064366701566703740 tw3849413636599250728 tw7673576509039952319 tw6395238049600475103 tw13021634128924045727 tw16131102360509432036 tw8641280213739284046 tw16073335284385080717 tw9174999664605623331 tw6607463836817859308 tw13244607991012490772 tw11379550134035878038 tw2712033638571468490 tw5648648894116327837 tw6591924651716241321 tw10448366481340468362 tw11399705731314732138 tw15490264699516674072 tw14425486487930474013 tw6285540827263796204 tw11818674080845174260 tw11695717486216272344 tw13813867560790400099 tw7751531427170225826 tw1744019138589399597 tw14765279663384924845 tw5014624534370022802 tw1994418444004602825 tw7953082075327745971 tw104623534988716645 tw12891205984400232871 tw7072261485851904951 tw4830041477226501280 tw12322293259488444957 tw15076891039851793161 tw2213100011112282804 tw17438881796587865005 tw12165752881498334794 tw5978221230918204095 tw13341883126466686192 tw9782833488176239434 tw10586404291077174350 tw11002242339086984950 tw8496547650858189335 tw8190103270695872685 tw8122696004953420379 tw4684256053061736009 tw4150598953131586261 tw12774979070644936473 tw927419582743786468 tw15121244973131386922 tw17140716541230678284 tw8665092866312197246 tw16074781934539473704 tw11241071560577694927 tw12015324162074641519 tw14481945350718466511 tw2132486674971682477 tw11177053677412547554 tw5266974042650862713 tw11769365339175073526 tw4373686580620016475 tw10465591685289708795 tw177445840263536600 tw14108320627039080242 tw7729642894756718490 tw4355750560459200903 tw11952873694771746636 tw1653812672318057080 tw16549637107897767737 tw5240597448938419657 tw11617294409156403774 tw3446472159288877399 tw10201849753120873556 tw6789060722554239196 tw16261898022644906999 tw8428499013809340547 tw17331922286514180449 tw11323134481694633643 tw8692737556579463103 tw6185613875949967170 tw1978914837227503291 tw4305930679913273453 tw6147904032704672157 tw3537502285737364935 tw13280626953216821225 tw12637987967623155554 tw17375116614924365272 tw6825078166444476592 tw8780112114125278634 tw6224598156321605454 tw10254231256612694173 tw17385624873676259019 tw269157793107395532 tw6815062552781247475 tw3581995215375190593 tw1493443414551479591 tw7370771244729085972 tw16008854945655612833 tw5521171679985381156 tw6046836719789069658 tw13233214929888803784 tw12051147186189047811 tw9602426722132842701 tw8127716962642853182 tw12017840914188591283 tw9303256445138281941 tw14837084552749277215 tw16360666892734321906 tw16492135174566832173 tw490507140386189155 tw13399185235427996323 tw12436901376756439602 tw1151429476896488330 tw11330760667548711936 tw1685175788965450027 tw9165904175226582699 tw3522061793700552842 tw521204796767244969 tw3411541651468193323 tw7815857229343410235 tw13237430252886224303 tw3155485220304499737 tw18034754156049367035 tw4998627485138077477 tw4650963681477253169 tw13309258293179320780 tw15759549355886755495 tw14826318096156683818 tw8011607080984702219 tw8996835704813129587 tw1860547669021369318 tw142600704930538018 tw10116934430553606628 tw12155174148791107033 tw14209584720672477083 tw2800788241996284059 tw391942854167697839 tw11249978084507164424 tw2062942939169181891 tw5959555835952935977 tw17552999159754239142 tw7059556299773182591 tw5079576596255352990 tw5506231569246010023 tw1585885144460858148 tw4579301221116621962 tw11697722293595224170 tw11256237139516507786 tw8298899642697181386 tw3191460264979513892 tw5828540601270242799 tw4699431623720546288 tw17621627109551777140 tw16391839890010485566 tw6755051703498470648 tw17105427842880682242 tw15088166230749599254 tw11969572533553950114 tw3040290591549234048 tw2292212944692057348:True)
end
open PySem PySem.W PyProof.Rows
set_option maxRecDepth 100000 in
set_option maxHeartbeats 0 in
theorem PySem.Challenge.cw_everyrow_k58_alike_papers_holds : PySem.Challenge.rw_everyrow_k58_alike_papers.Holds := by
 w_on; o_law; k_head; (case hw=>w_witness2)
 k_fill
 refine WT.walk (l:=PySem.Challenge.rw_everyrow_k58_alike_papers) rfl rfl (fun w h Y=>PySem.W.kIn_of Y) ?F
 case F=>
   intro w mg fa h KX G Y6
   refine' WT.all_mk KX G Y6 ?_ ?_ ?_ ?_ ?_ ?_ ?_ ?_ ?_ ?_ ?_ ?_ ?_ ?_ ?_ ?_ ?_ ?_ ?_ ?_ ?_ ?_ ?_ ?_ ?_ ?_ ?_ ?_ ?_ ?_ ?_ ?_ ?_ ?_ ?_ ?_ ?_ ?_ ?_ ?_ ?_ ?_ ?_ ?_ ?_ ?_ ?_ ?_ ?_ ?_ ?_ ?_ ?_ ?_ ?_ ?_ ?_ ?_ ?_ ?_ ?_ ?_ ?_ ?_ ?_ ?_ ?_ ?_ ?_ ?_ ?_ ?_ ?_ ?_ ?_ ?_ ?_ ?_ ?_ ?_ ?_ ?_ ?_ ?_ ?_ ?_ ?_ ?_ ?_ ?_ ?_ ?_ ?_ ?_ ?_ ?_ ?_ ?_ ?_ ?_ ?_ ?_ ?_ ?_ ?_ ?_ ?_ ?_ ?_ ?_ ?_ ?_ ?_ ?_ ?_ ?_ ?_ ?_ ?_ ?_ ?_ ?_ ?_ ?_ ?_
   rotate_left 128
   iterate 52 (refine' L2.FH.of ?a ?l ?c ?k; (case a=>k_is); (case l=>k_is); (case c=>k_is); (case k=>k_is))
   iterate 41 (k_is)
   iterate 1 (rfl)
   iterate 1 (exact .cons (by rfl) ⟨_,rfl⟩ (by rfl) (.cons (by rfl) ⟨_,rfl⟩ (by rfl) (.cons (by rfl) ⟨_,rfl⟩ (by rfl) (.cons (by rfl) ⟨_,rfl⟩ (by rfl) (.cons (by rfl) ⟨_,rfl⟩ (by rfl) (.cons (by rfl) ⟨_,rfl⟩ (by rfl) (.cons (by rfl) ⟨_,rfl⟩ (by rfl) (.nil))))))))
   iterate 1 (k_is)
   iterate 1 (exact .nil)
   iterate 1 (k_is)
   iterate 1 (exact .cons ⟨_,rfl⟩ (.nil))
   iterate 1 (k_is)
   iterate 1 (exact .cons ⟨_,rfl⟩ (.nil))
   iterate 1 (k_is)
   iterate 1 (exact .cons ⟨_,rfl⟩ (.cons ⟨_,rfl⟩ (.nil)))
   iterate 1 (k_is)
   iterate 1 (exact .cons ⟨_,rfl⟩ (.cons ⟨_,rfl⟩ (.nil)))
   iterate 1 (k_is)
   iterate 1 (exact .cons ⟨_,rfl⟩ (.cons ⟨_,rfl⟩ (.nil)))
   iterate 1 (k_is)
   iterate 1 (exact .nil)
   iterate 2 (k_is)
   iterate 1 (rfl)
   iterate 1 (exact .cons (by rfl) ⟨_,rfl⟩ ⟨_,rfl⟩ (.cons (by rfl) ⟨_,rfl⟩ ⟨_,rfl⟩ (.cons (by rfl) ⟨_,rfl⟩ ⟨_,rfl⟩ (.cons (by rfl) ⟨_,rfl⟩ ⟨_,rfl⟩ (.cons (by rfl) ⟨_,rfl⟩ ⟨_,rfl⟩ (.nil))))))
   iterate 12 (k_is)
