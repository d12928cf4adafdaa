import PyProof.Rows.All
import Wide.All
import OpenK.AllK
import Wide.FinOn
import PyProof.EqAt
import PyProof.EqKinds
import PyProof.TupleCall
import KE.BitLaws
import KE.KTryMore
import KE.KDictList
import Open.SpecLaws
import KE.OsHead
import KE.OsGo
import Si08Spec
import PySi08
import PySem.Challenge.RW_wordalgebra_s01_answers
import KE.SpHead
import KE.OsShapes
import KE.RegKTryMore
import OpenK.KOwn
set_option Elab.async false
set_option linter.all false
set_option maxRecDepth 100000
set_option maxHeartbeats 4000000
open Array renaming length_toList->aut,getElem?_toList->avc,getD_eq_getD_getElem?->avY,forIn_toList->awf,toList->axb,append_assoc->axQ,getElem?_eq_none->aye,toList_push->ayp
open Bool renaming and_eq_true->aup,false_ne_true->auq,false_eq_true->auw,eq_iff_iff->auz,noConfusion->auU,and_eq_true_iff->avw,not_eq_true'->avF,not_true->avR,or_false->axi,or_eq_true->axo,eq_false_iff->ayN
open Classical renaming byContradiction->avh,em->ayL
open Function renaming comp->avS
open Int renaming toNat_natCast->auh,eq_ofNat_of_zero_le->avb,zero_add->aw3,toNat_of_nonneg->ayD,mul_le_mul_of_nonneg_left->ayF
open List renaming length_map->atR,range->atU,getElem?_eq_getElem->atY,mem_cons->at3,mem_range->at4,getD_eq_getElem?_getD->at5,mem_map->at6,mem_cons_self->at7,mem_cons_of_mem->at8,getElem?_eq_some_iff->at9,length_append->aud,map_cons->auf,getElem?_map->aui,replicate->auk,size_toArray->aum,mem_append->aus,all_eq_true->auy,mem_singleton->auE,length_cons->auH,mem_of_getElem?->auI,take_add_one->auK,length_take->auN,map_append->auO,getElem?_append_left->auP,map_map->auS,sum_cons->auT,take_length->auX,getElem?_eq_none->auY,any_eq_true->auZ,length_range->au0,getElem_mem->au1,getElem?_range->au5,nodup_cons->au8,pairwise_cons->ave,getElem?_of_mem->avf,zip->avi,idxOf_lt_length_of_mem->avj,length->avq,replicate_succ->avs,find?_cons->avt,not_mem_nil->avu,map_congr_left->avv,mem_filter->avy,mem_append_right->avA,lookup->avB,length_nil->avE,pairwise_map->avH,getElem_idxOf->avJ,Nodup->avK,append_nil->avM,length_set->avN,reverse_cons->avO,lookup_cons->avQ,foldl_append->avT,range_succ->avV,flatten_cons->avX,pairwise_lt_range->avZ,ext_getElem->av1,getElem_inj->av6,mem_filterMap->av7,length_reverse->awb,filter_cons->awc,eq_nil_of_length_eq_zero->awh,find?_range_eq_some->awi,mem_erase_of_ne->awn,filterMap_cons->aws,getElem?_set_self->awt,getElem?_set_ne->awu,of_mem_zip->awx,length_replicate->awy,append_assoc->awz,foldl_cons->awA,map_nil->awC,forIn_nil->awD,any_cons->awF,nodup_nil->awI,getElem?_drop->awN,map->awO,drop_eq_getElem_cons->awP,nodup_append->awT,length_erase_of_mem->awU,find?_some->awV,length_pos_of_mem->awY,filter_append->awZ,map_inj_left->aw0,find?_map->aw2,getElem?_eq_none_iff->aw7,length_drop->axh,foldl->axj,nil_append->axl,take_of_length_le->axm,forIn_cons->axn,filterMap_cons_some->axu,pairwise_append->axx,ext_getElem?->axA,find?_eq_none->axB,mem_of_find?_eq_some->axC,find?_range_eq_none->axD,nodup_range->axH,dropWhile_cons->axJ,drop_drop->axP,mem_append_left->axT,getElem?_append_right->ax0,getElem?_replicate->ax1,take_sublist->ax2,cons_append->ax9,filterMap_cons_none->ayk,take_append_drop->ayr,length_eraseIdx->ays,zip_cons_cons->ayt,drop_eq_nil_of_le->ayz,idxOf_append->ayA,drop_succ_cons->ayE,length_filter_eq_length_iff->ayG,flatMap_cons->ayH,length_filter_le->ayJ,filter_congr->ayK,map_singleton->ayM
open List.Pairwise renaming imp_of_mem->avk,imp->awo,nil->ayo
open List.cons renaming inj->avl
open Nat renaming le_refl->atX,zero_le->aul,ne_of_lt->aun,le_trans->auC,lt_of_lt_of_le->auG,lt_irrefl->au7,lt_succ_of_lt->avd,le_of_lt->avm,lt_succ_self->avC,ne_of_gt->avL,strongRecOn->avU,add_assoc->av0,mul_succ->av2,le_of_eq->av8,le_succ->awa,le_add_right->awe,mul_comm->awB,le_of_succ_le->awE,lt_trans->awH,one_mul->aw1,zero_add->aw4,add_comm->axk,mod_lt->axz,lt_of_le_of_lt->axI,min_eq_left->axL,lt_or_eq_of_le->axN,le_of_lt_succ->axO,mul_le_mul_left->ayy,mul_le_mul_right->ayI
open Option renaming getD_some->awj,map_some->awG,none->awK,isSome_map->axp,map_eq_some_iff->axq,isSome_iff_exists->axZ,getD_none->ax4,isSome_some->ax8
open Option.some renaming inj->aub
open Or renaming inl->atV,inr->atZ
open Prod renaming mk->au3
open PyProof.Rows renaming callWith_type1->avz,boot_tuple->awp,seqObj->awQ,boot_sum->aw5,boot_list->axw,boot_max->axK,boot_min->axM,boot_set->ayO
open PyProof.Rows.F renaming plain_set_update_loop->axy,entry_set_update_loop->ayq
open PyProof.Rows.IntsAre renaming int_at->ayQ
open PySem renaming boot_len->auL,mem_of_lookup->auR,Within->aw8
open PySem.Challenge renaming rw_wordalgebra_s01_answers->ayP
open PySem.F renaming plainAttrs_list->auB,slot_list_append->auW,type_list_append->au4,called_set->avI,slot_list_pop->avP,type_list_pop->av4,slot_dict_keyiterator_next->awd,plain_extend_loop->awg,plain_list_iadd->awL,slot_zip_next->awM,slot_tuple_hash->awR,slot_tuple_eq->awS,slot_dict_get->axr,called_tuple->axv,slot_list_extend->ax5,slot_list_reverse->ax6,slot_list_index->ax7,entry_dict_get->aya,args_dict_get_2->ayb,entry_dict_keyiterator_next->ayc,args_dict_keyiterator_next_1->ayd,excBase_Exception->ayg,entry_proto_collect->ayl,plain_proto_collect->aym,entry_extend_loop->ayn
open PySem.Heap renaming lt_size->aua,get?_push_of_some->auc,get?_push_size->auo,size_push->auD,SameBut->auV,get?_update_other->avr,get?_update_self->avD,FlyingW->axs
open PySem.Heap.IsSliceOf renaming new->ax3
open PySem.Heap.SameBut renaming update->awJ
open PySem.Str renaming ofString->au9
open PySem.Value renaming ref->aue,none->auF,type->auM,int->au6,str->awq,bool->awr,isInt_shape->aw6
open PySem.Value.type renaming inj->ayw
open PySem.W renaming Frag->atQ,findIn->avn,emptyDict->avo,keepIn->avp,instObj->avx,exmOne->avG,fnOf->avW,callWith_K->av9,lookIn->awv,plainGet->aww,methodObj->aw9,hideAll->axa,hasDictIn->axc,plainGet_of->axd,isFn->axe,takerIn->axf,codeIn->axg,excIn->axt,hideAll_get->axR,of_hideAll->axS,handedIn->axU,plainOver->axV,makesIn->axW,methodCall_KW->axX,cellsFrom_some->axY,ktu_apart->ayf,Looks->ayh,exm_one->ayj,WRecords->ayu,length_le_weightAllW->ayv,WalkOS->ayx
open PySem.W.Looks renaming ld->ayi
open PySi08 renaming whole->auj,shape->av3,answers->awl,answers_asked->axE
open Si08Neutral renaming natsOf->auv,listOf->auA,S->auJ,natural->auQ,put->au2,step->ava,asked1->awk,whole32->awm,object->awW,long->awX,start->axF,place->axG,short->ayB,opened->ayC
open Sum renaming inl->aur,inr->auu
open Sum.inl renaming inj->av5
noncomputable section
namespace L2
open PySem PySem.Spec PyProof.Rows
abbrev bc:=Sum Int Str
def uz:bc->Value->Bool
 |.inl k,v=>Value.isInt k v
 |.inr x,v=>Value.isStrOf x v
def Ws(w:World):bc->Int
 |.inl k=>hashInt k
 |.inr x=>hashStr w x
theorem oV:∀{k:bc}{v:Value},uz k v=true->(∃i t,k=aur i/\v=au6 i t)\/(∃x t,k=auu x/\v=awq x t)
 |.inl i,v,h=>by
  obtain⟨t,e⟩:=aw6 (k:=i) (v:=v) h;exact .inl ⟨i,t,rfl,e⟩
 |.inr x,v,h=>by
  obtain⟨t,e⟩:=Value.isStrOf_shape (x:=x) (v:=v) h;exact .inr ⟨x,t,rfl,e⟩
theorem Wt(i:Int)(t:Tok):uz (.inl i) (.int i t)=true:=by simp[uz,Value.isInt]
theorem Wu(x:Str)(t:Tok):uz (.inr x) (.str x t)=true:=by simp[uz,Value.isStrOf]
theorem Wv(a b:Int):decide ((aur a:bc)=aur b)=(a==b):=by
 by_cases e:a=b
 ·subst e;simp
 ·have h:¬(aur a:bc)=aur b:=fun q=>e (av5 q)
  rw[decide_eq_false h];exact(beq_eq_false_iff_ne.mpr e).symm
theorem Ww(a b:Str):decide ((auu a:bc)=auu b)=decide (a=b):=by
 by_cases e:a=b
 ·subst e;simp
 ·have h:¬(auu a:bc)=auu b:=fun q=>e (Sum.inr.inj q)
  rw[decide_eq_false h,decide_eq_false e]
theorem Wx(a:Int)(b:Str):decide ((aur a:bc)=auu b)=false:=decide_eq_false (fun q=>nomatch q)
theorem Wy(a:Str)(b:Int):decide ((auu a:bc)=aur b)=false:=decide_eq_false (fun q=>nomatch q)
def fX(prog:Program)(w:World):PySem.KeyKind prog w bc where
 is:=uz
 hash:=Ws w
 inj:=fun v a b ha hb=>by
  rcases oV ha with⟨i,t,rfl,rfl⟩|⟨x,t,rfl,rfl⟩
  ·rcases oV hb with⟨j,u,rfl,e⟩|⟨y,u,rfl,e⟩
   ·injection e with e1 _;rw[e1]
   ·exact nomatch e
  ·rcases oV hb with⟨j,u,rfl,e⟩|⟨y,u,rfl,e⟩
   ·exact nomatch e
   ·injection e with e1 _;rw[e1]
 byValue:=fun k v h=>by
  rcases oV h with⟨i,t,rfl,rfl⟩|⟨x,t,rfl,rfl⟩<;>rfl
 pyHash:=fun hv h=>by
  rcases oV hv with⟨i,t,rfl,rfl⟩|⟨x,t,rfl,rfl⟩
  ·exact wpAny_pyHash_int h
  ·exact wpAny_pyHash_str h
 eqBool:=fun hu hv h=>by
  rcases oV hu with⟨i,t,rfl,rfl⟩|⟨x,t,rfl,rfl⟩
  ·rcases oV hv with⟨j,u,rfl,rfl⟩|⟨y,u,rfl,rfl⟩
   ·rw[Wv] at h;exact wpAny_eqBool_int h
   ·rw[Wx] at h;exact SeqAt.EqAt.int_str i t y u _ _ _ _ h
  ·rcases oV hv with⟨j,u,rfl,rfl⟩|⟨y,u,rfl,rfl⟩
   ·rw[Wy] at h;exact SeqAt.EqAt.str_int x t j u _ _ _ _ h
   ·rw[Ww] at h;exact wpAny_eqBool_str h
 «strs»:=fun k x t v h=>by
  rcases oV h with⟨i,u,rfl,e⟩|⟨y,u,rfl,e⟩
  ·exact nomatch e
  ·injection e with e1 _
   subst e1;cases v<;>rfl
theorem Wz(prog:Program)(w:World)(i:Int)(t:Tok):(fX prog w).is (.inl i) (.int i t)=true:=Wt i t
theorem WD(prog:Program)(w:World)(x:Str)(t:Tok):(fX prog w).is (.inr x) (.str x t)=true:=Wu x t
inductive V where
 |non|bl (b:Bool)|int (i:Int)|str (x:Str)|gM (b:Array UInt8)|flt (b:UInt64)|ref (a:Addr)|ty (n:String)
 deriving DecidableEq
def RelV:V->Value->Prop
 |.non,u=>u=auF
 |.bl b,u=>u=awr b
 |.int i,u=>∃t,u=au6 i t
 |.str x,u=>∃t,u=awq x t
 |.gM b,u=>∃t,u=Value.bytes b t
 |.flt b,u=>∃t,u=Value.float b t
 |.ref a,u=>u=aue a
 |.ty n,u=>u=auM n
abbrev Vals:List V->List Value->Prop:=Paired RelV
theorem Vals.length{xs:List V}{us:List Value}(r:Vals xs us):xs.length=us.length:=Paired.length r
theorem Vals.get:∀{xs:List V}{us:List Value}{i:Nat}{x:V},Vals xs us->xs[i]?=some x->∃u,us[i]?=some u/\RelV x u
 |_,_,_,_,.nil,e=>by simp at e
 |_,_,0,_,.cons r _,e=>by simp at e;subst e;exact⟨_,rfl,r⟩
 |_,_,i+1,x,.cons _ t,e=>by
  obtain⟨u,h1,h2⟩:=Vals.get (i:=i) (x:=x) t (by simpa using e);exact⟨u,by simpa using h1,h2⟩
theorem Vals.set{x:V}{u:Value}(r:RelV x u):∀{xs:List V}{us:List Value}(i:Nat),Vals xs us->Vals (xs.set i x) (us.set i u)
 |_,_,_,.nil=>.nil
 |_,_,0,.cons _ t=>.cons r t
 |_,_,i+1,.cons q t=>.cons q (Vals.set r i t)
theorem Vals.append:∀{xs ys:List V}{us ws:List Value},Vals xs us->Vals ys ws->Vals (xs++ys) (us++ws)
 |_,_,_,_,.nil,s=>s
 |_,_,_,_,.cons r t,s=>.cons r (Vals.append t s)
theorem Vals.take:∀{xs:List V}{us:List Value}(n:Nat),Vals xs us->Vals (xs.take n) (us.take n)
 |_,_,0,_=>.nil
 |_,_,_+1,.nil=>.nil
 |_,_,n+1,.cons r t=>.cons r (Vals.take n t)
theorem Vals.drop:∀{xs:List V}{us:List Value}(n:Nat),Vals xs us->Vals (xs.drop n) (us.drop n)
 |_,_,0,r=>r
 |_,_,_+1,.nil=>.nil
 |_,_,n+1,.cons _ t=>Vals.drop n t
theorem Vals.none_of:∀{xs:List V}{us:List Value}{i:Nat},Vals xs us->xs[i]?=none->us[i]?=none:=fun{xs us i} r e=>by
 have h1:=r.length;have h2:xs.length<=i:=aw7.mp e;exact aw7.mpr (by omega)
def gV:Option V->Option Value->Prop
 |some v,some u=>RelV v u
 |none,none=>True
 |_,_=>False
def KV{κ:Type}:List (κ×V)->List (κ×Value)->Prop:=Paired fun(p:κ×V)(q:κ×Value)=>p.1=q.1/\RelV p.2 q.2
def kV:bc->V
 |.inl i=>.int i
 |.inr x=>.str x
inductive HO where
 |lst (xs:List V)
 |tup (xs:List V)
 |dK (kvs:List (bc×V))|dT (kvs:List (List bc×V))
 |set (S:Int->Bool) (n:Nat)
 |ins (C dx:Addr) (fs:List (Str×V))
 |own (x:Addr)
 |xd (fs:List (Str×V))
 |met (f x:Addr)
 |rng (lo hi:Int)
 |gh (o:Obj) (u:HO)
 |qy (ps:Array Value)
 |ext (φ:Heap->Prop)
abbrev Hp:=Addr->Option HO
def upd(H:Hp)(a:Addr)(o:HO):Hp:=fun b=>if b=a then some o else H b
theorem aC{H:Hp}{a:Addr}{o:HO}:upd H a o a=some o:=by unfold upd;rw[if_pos rfl]
theorem au{H:Hp}{a b:Addr}{o:HO}(h:b≠a):upd H a o b=H b:=by unfold upd;rw[if_neg h]
theorem uA{H:Hp}{a:Addr}{o u:HO}:upd (upd H a o) a u=upd H a u:=by
 funext b;unfold upd;split<;>rfl
theorem bx{H:Hp}{a b:Addr}{o u:HO}(h:H a=some o)(h':H b=some u)(d:o≠u):a≠b:=by
 intro e;subst e;rw[h] at h';exact d (aub h')
theorem aV{H:Hp}{a b:Addr}{o:HO}(h:H a=some o)(h':H b=none):a≠b:=by
 intro e;subst e;rw[h] at h';cases h'
section
variable(P:Program)(w:World)
def cQ(H:Hp)(h:Heap)(a:Addr):HO->Prop
 |.lst xs=>xs.length<=sizeLine/\∃(its:List Value)(n:Nat),Vals xs its/\h.get? a=some {cls:=.type "list",data:=.seq its.toArray n}
 |.tup xs=>xs.length<=sizeLine/\∃its:List Value,Vals xs its/\IsTup h a its.toArray
 |.dK kvs=>kvs.length<=sizeLine/\(a==sysModules)=false/\∃vs,KV kvs vs/\h.DictOf (fX P w) a vs
 |.dT kvs=>kvs.length<=sizeLine/\(a==sysModules)=false/\∃xs:List (List bc×Addr×Value),
   Paired (fun(p:List bc×V)(q:List bc×Addr×Value)=>p.1=q.1/\H q.2.1=some (.tup (p.1.map kV))/\RelV p.2 q.2.2) kvs xs/\
   ∃o es ep,h.get? a=some o/\o.ExactDict/\o.data=.dict es ep/\es.toList=xs.map (entryOfKey (tupleKind (fX P w)))/\(xs.map (·.1)).Nodup
 |.set S n=>h.SetOf (intKind P w) a S n
 |.ins C dx fs=>H dx=some (.own a)/\fs.length<=1000/\dx≠a/\h.get? a=some (avx C dx)/\
   ∃mA,h.Ns1 dx mA/\(∀f,gV (fs.lookup f) (mA f))/\aw8 mA (fs.map (·.1))
 |.own _=>∃o,h.get? a=some o
 |.xd fs=>∃mA,h.Ns1 a mA/\∀f,gV (fs.lookup f) (mA f)
 |.rng lo hi=>∃t u v,h.get? a=some {cls:=.type "range",data:=.fields #[.int lo t,.int hi u,.int 1 v]}
 |.gh o u=>h.get? a=some o/\cQ H h a u
 |.qy ps=>h.get? a=some {cls:=.none,data:=.fields ps}
 |.met f x=>h.get? a=some (aw9 (.ref f) (.ref x))
 |.ext φ=>φ h/\(∃o,h.get? a=some o)/\∀h1 h2:Heap,φ h1->(∀o,h1.get? a=some o->h2.get? a=some o)->φ h2
def cC(H:Hp)(h:Heap):Prop:=∀a o,H a=some o->cQ P w H h a o
end
section
variable{P:Program}{w:World}{H H':Hp}{h h':Heap}{a:Addr}{o:HO}
theorem cQ.lt(x:cQ P w H h a o):a<h.objs.size:=by
 cases o with
 |lst xs=>obtain⟨_,_,_,_,e⟩:=x;exact aua e
 |tup xs=>obtain⟨_,_,_,p⟩:=x;exact p.lt
 |dK kvs=>obtain⟨_,_,_,_,o,_,_,e,_⟩:=x;exact aua e
 |dT kvs=>obtain⟨_,_,_,_,o,_,_,e,_⟩:=x;exact aua e
 |set S n=>obtain⟨o,_,_,_,e,_⟩:=x;exact aua e
 |ins C dx fs=>obtain⟨_,_,_,e,_⟩:=x;exact aua e
 |own y=>obtain⟨_,e⟩:=x;exact aua e
 |xd fs=>obtain⟨_,⟨_,_,_,e,_⟩,_⟩:=x;exact aua e
 |rng lo hi=>obtain⟨_,_,_,e⟩:=x;exact aua e
 |gh ob u=>obtain⟨e,_⟩:=x;exact aua e
 |qy ps=>exact aua (show h.get? a=some _ from x)
 |met f y=>exact aua (show h.get? a=some _ from x)
 |ext φ=>obtain⟨_,⟨_,e⟩,_⟩:=x;exact aua e
theorem Paired.Dt{α β:Type}{F G:α->β->Prop}:∀{l₁:List α}{l₂:List β},Paired F l₁ l₂->(∀a b,F a b->G a b)->Paired G l₁ l₂
 |_,_,.nil,_=>.nil
 |_,_,.cons r t,f=>.cons (f _ _ r) (Paired.Dt t f)
theorem cQ.stay(x:cQ P w H h a o)(k:∀b u,(b=a\/H b=some (.own a))->h.get? b=some u->h'.get? b=some u)
  (ho:∀b,H b=some (.own a)->H' b=some (.own a)) (ht:∀b xs,H b=some (.tup xs)->H' b=some (.tup xs)):cQ P w H' h' a o:=by
 induction o with
 |lst xs=>obtain⟨z,its,n,r,e⟩:=x;exact⟨z,its,n,r,k _ _ (.inl rfl) e⟩
 |tup xs=>obtain⟨z,its,r,ob,e,c⟩:=x;exact⟨z,its,r,ob,k _ _ (.inl rfl) e,c⟩
 |dK kvs=>obtain⟨z,y,vs,r,ob,es,ep,e,c⟩:=x;exact⟨z,y,vs,r,ob,es,ep,k _ _ (.inl rfl) e,c⟩
 |dT kvs=>
  obtain⟨z,y,xs,r,ob,es,ep,e,c⟩:=x;exact⟨z,y,xs,Paired.Dt r fun p q z=>⟨z.1,ht _ _ z.2.1,z.2.2⟩,ob,es,ep,k _ _ (.inl rfl) e,c⟩
 |set S n=>obtain⟨ob,es,ep,t,e,c⟩:=x;exact⟨ob,es,ep,t,k _ _ (.inl rfl) e,c⟩
 |ins C dx fs=>
  obtain⟨d,z,ne,e,mA,⟨od,es,ep,e2,c⟩,r⟩:=x;exact⟨ho _ d,z,ne,k _ _ (.inl rfl) e,mA,⟨od,es,ep,k _ _ (.inr d) e2,c⟩,r⟩
 |own y=>obtain⟨ob,e⟩:=x;exact⟨ob,k _ _ (.inl rfl) e⟩
 |xd fs=>obtain⟨mA,⟨od,es,ep,e,c⟩,r⟩:=x;exact⟨mA,⟨od,es,ep,k _ _ (.inl rfl) e,c⟩,r⟩
 |rng lo hi=>obtain⟨t,u,v,e⟩:=x;exact⟨t,u,v,k _ _ (.inl rfl) e⟩
 |gh ob u ih=>obtain⟨e,q⟩:=x;exact⟨k _ _ (.inl rfl) e,ih q⟩
 |qy ps=>
  have e:h.get? a=some {cls:=.none,data:=.fields ps}:=x;show h'.get? a=some {cls:=.none,data:=.fields ps};exact k a _ (.inl rfl) e
 |met f y=>
  have e:h.get? a=some (aw9 (.ref f) (.ref y)):=x;show h'.get? a=some (aw9 (.ref f) (.ref y));exact k a _ (.inl rfl) e
 |ext φ=>obtain⟨p,⟨o,e⟩,st⟩:=x;exact⟨st _ _ p fun o q=>k _ _ (.inl rfl) q,⟨o,k _ _ (.inl rfl) e⟩,st⟩
theorem cC.lt(x:cC P w H h)(e:H a=some o):a<h.objs.size:=(x a o e).lt
theorem cC.fresh(x:cC P w H h)(e:h.objs.size<=a):H a=none:=by
 cases q:H a with
 |none=>rfl
 |some u=>exact absurd (auG (x.lt q) e) (au7 _)
theorem cC.kept(x:cC P w H h)(k:∀b u,h.get? b=some u->h'.get? b=some u):cC P w H h':=fun a o e=>
 (x a o e).stay (fun b u _ q=>k b u q) (fun _ q=>q) fun _ _ q=>q
theorem cC.laid(x:cC P w H h)(k:∀b u,h.get? b=some u->h'.get? b=some u)(hp:h.objs.size<=a)(new:cQ P w (upd H a o) h' a o):cC P w (upd H a o) h':=fun b u e=>by
 have hn:=x.fresh hp;by_cases hb:b=a
 ·subst hb;rw[aC] at e;cases e;exact new
 ·rw[au hb] at e;exact(x b u e).stay (fun c v _ q=>k c v q) (fun c q=>by rw[au (aV q hn)];exact q) fun c xs q=>by rw[au (aV q hn)];exact q
end
def Rd(H:Hp)(a:Addr)(u:HO):Prop:=H a=some u\/∃o,H a=some (.gh o u)
theorem Rd.of{H:Hp}{a:Addr}{u:HO}(h:H a=some u):Rd H a u:=.inl h
theorem Rd.ok{P:Program}{w:World}{H:Hp}{h:Heap}{a:Addr}{u:HO}(r:Rd H a u)(x:cC P w H h):cQ P w H h a u:=by
 rcases r with r|⟨o,r⟩
 ·exact x a u r
 ·obtain⟨_,q⟩:=x a _ r;exact q
def vY:Option HO->Prop
 |some (.lst _)=>True
 |some (.dK _)=>True
 |some (.dT _)=>True
 |some (.set _ _)=>True
 |some (.ins _ _ _)=>True
 |some (.ext _)=>True
 |_=>False
section
variable{P:Program}{w:World}{H:Hp}{h h':Heap}{x e:Addr}{o':HO}
theorem cC.write(ok:cC P w H h)(mu:vY (H x))(he:e=x\/H e=some (.own x))(k:∀b u,b≠e->h.get? b=some u->h'.get? b=some u)(heo:∃u,h'.get? e=some u)
  (new:cQ P w (upd H x o') h' x o'):cC P w (upd H x o') h':=fun b u q=>by
 have Mu:∀c y,H c=some (.own y)->c≠x:=fun c y r z=>by subst z;rw[r] at mu;exact mu
 have WF:∀c xs,H c=some (.tup xs)->c≠x:=fun c xs r z=>by subst z;rw[r] at mu;exact mu
 by_cases hb:b=x
 ·subst hb;rw[aC] at q;cases q;exact new
 ·rw[au hb] at q;by_cases hbe:b=e
  ·have q':H b=some (.own x):=by
    rcases he with z|z
    ·exact absurd (hbe.trans z) hb
    ·rw[hbe];exact z
   rw[q] at q';cases q'
   obtain⟨v,hv⟩:=heo;exact⟨v,by rw[hbe];exact hv⟩
  ·refine(ok b u q).stay (fun c v hc r=>k c v ?_ r) (fun c r=>by rw[au (Mu c b r)];exact r) fun c xs r=>by rw[au (WF c xs r)];exact r
   rcases hc with rfl|hc
   ·exact hbe
   ·rintro rfl;rcases he with z|z
    ·exact Mu c b hc z
    ·rw[hc] at z;cases z;exact hb rfl
end
structure Un(fs ex:List Addr)(H H':Hp)(h h':Heap):Prop where
 keep:∀b o,h.get? b=some o->H b=none->b∉fs->b∉ex->h'.get? b=some o
 slot:∀b o,h.get? b=some o->H b=none->b∈fs->b∉ex->∃sl,h'.get? b=some {o with slots:=sl}
 free:∀b o,h.get? b=some o->H b=none->b∉ex->H' b=none
 there:∀b o,h.get? b=some o->b∉ex->∃o',h'.get? b=some o'
 tups:∀b xs,H b=some (.tup xs)->H' b=some (.tup xs)
 iY:∀b o u,H b=some (.gh o u)->H' b=some (.gh o u)
 jr:∀b ps,H b=some (.qy ps)->∃more,H' b=some (.qy (ps++more))
section
variable{fs fs' ex ex':List Addr}{H H1 H2:Hp}{h h1 h2 h':Heap}{a x e:Addr}{o:HO}
theorem Un.any(u:Un fs ex H H1 h h1){b:Addr}{ob:Obj}(q:h.get? b=some ob)(n:H b=none)(hx:b∉ex):∃sl,h1.get? b=some {ob with slots:=sl}:=by
 by_cases hb:b∈fs
 ·exact u.slot b ob q n hb hx
 ·exact⟨ob.slots,u.keep b ob q n hb hx⟩
theorem Un.trans(a:Un fs ex H H1 h h1)(b:Un fs ex H1 H2 h1 h2):Un fs ex H H2 h h2 where
 keep:=fun c ob q n hc hx=>b.keep c ob (a.keep c ob q n hc hx) (a.free c ob q n hx) hc hx
 slot:=fun c ob q n hc hx=>by
  obtain⟨sl,e1⟩:=a.slot c ob q n hc hx;obtain⟨sl',e2⟩:=b.slot c _ e1 (a.free c ob q n hx) hc hx;exact⟨sl',e2⟩
 free:=fun c ob q n hx=>by
  obtain⟨o',e1⟩:=a.there c ob q hx;exact b.free c o' e1 (a.free c ob q n hx) hx
 there:=fun c ob q hx=>by
  obtain⟨o',e1⟩:=a.there c ob q hx;exact b.there c o' e1 hx
 tups:=fun c xs q=>b.tups c xs (a.tups c xs q)
 iY:=fun c ob xs q=>b.iY c ob xs (a.iY c ob xs q)
 jr:=fun c ps q=>by
  obtain⟨m1,e1⟩:=a.jr c ps q;obtain⟨m2,e2⟩:=b.jr c _ e1;exact⟨m1++m2,by rw[e2,axQ]⟩
theorem Un.kept(k:∀b u,h.get? b=some u->h'.get? b=some u):Un fs ex H H h h':=
 ⟨fun b ob q _ _ _=>k b ob q,fun b ob q _ _ _=>⟨ob.slots,k b ob q⟩,fun _ _ _ n _=>n,fun b ob q _=>⟨ob,k b ob q⟩,fun _ _ q=>q,fun _ _ _ q=>q,fun _ ps q=>⟨#[],by rw[q];simp⟩⟩
theorem Un.refl:Un fs ex H H h h:=Un.kept fun _ _ q=>q
theorem Un.laid(k:∀b u,h.get? b=some u->h'.get? b=some u)(hp:h.objs.size<=a)(hn:H a=none):Un fs ex H (upd H a o) h h' where
 keep:=fun b u q _ _ _=>k b u q
 slot:=fun b u q _ _ _=>⟨u.slots,k b u q⟩
 free:=fun b u q n _=>by rw[au (aun (auG (aua q) hp))];exact n
 there:=fun b u q _=>⟨u,k b u q⟩
 tups:=fun b xs q=>by rw[au (aV q hn)];exact q
 iY:=fun b u xs q=>by rw[au (aV q hn)];exact q
 jr:=fun b ps q=>⟨#[],by rw[au (aV q hn),q];simp⟩
theorem Un.write(mu:vY (H x))(he:e=x\/H e=some (.own x))(k:∀b u,b≠e->h.get? b=some u->h'.get? b=some u)(heo:∃u,h'.get? e=some u):Un fs ex H (upd H x o) h h':=by
 have hx:∀b,H b=none->b≠x:=fun b n z=>by subst z;rw[n] at mu;exact mu
 have hb:∀b,H b=none->b≠e:=fun b n z=>by
  subst z;rcases he with r|r
  ·exact hx b n r
  ·rw[n] at r;cases r
 have hm:∀b u,H b=some u->¬vY (some u)->b≠x:=fun b u q nm z=>by subst z;rw[q] at mu;exact nm mu
 refine⟨fun b u q n _ _=>k b u (hb b n) q,fun b u q n _ _=>⟨u.slots,k b u (hb b n) q⟩,fun b u q n _=>by rw[au (hx b n)];exact n,fun b u q _=>?_,
  fun b xs q=>by rw[au (hm b _ q fun z=>z)];exact q,fun b u xs q=>by rw[au (hm b _ q fun z=>z)];exact q,fun b ps q=>⟨#[],by rw[au (hm b _ q fun z=>z),q];simp⟩⟩
 by_cases hbe:b=e
 ·subst hbe;exact heo
 ·exact⟨u,k b u hbe q⟩
theorem Un.mono(u:Un fs ex H H1 h h1)(hs:∀b∈fs,b∈fs')(hx:∀b∈ex,b∈ex'):Un fs' ex' H H1 h h1:=
 ⟨fun b ob q n hb he=>u.keep b ob q n (fun z=>hb (hs b z)) fun z=>he (hx b z),fun _ _ q n _ he=>u.any q n fun z=>he (hx _ z),fun b ob q n he=>u.free b ob q n fun z=>he (hx b z),fun b ob q he=>u.there b ob q fun z=>he (hx b z),u.tups,u.iY,u.jr⟩
end
def yM(h:Heap)(H:Hp):List Addr:=(atU h.objs.size).filter fun a=>(H a).isSome
def oW(h:Heap)(H:Hp):Heap:=axa h (yM h H)
theorem WK(h:Heap)(H:Hp):(oW h H).objs.size=h.objs.size:=PySem.W.hideAll_size _ _
theorem WL{h:Heap}{H:Hp}{b:Addr}{o:Obj}(e:h.get? b=some o)(n:H b=none):(oW h H).get? b=some o:=
 axR _ e fun hm=>by
  have q:(H b).isSome=true:=(avy.mp hm).2;rw[n] at q;simp at q
theorem WN{h:Heap}{H:Hp}{b:Addr}{o:Obj}(e:(oW h H).get? b=some o):h.get? b=some o/\H b=none:=by
 have e':h.get? b=some o:=axS (yM h H) e;refine⟨e',?_⟩;cases q:H b with
 |none=>rfl
 |some x=>
  have hm:b∈yM h H:=avy.mpr ⟨at4.mpr (aua e'),by simp[q]⟩;have z:(oW h H).get? b=none:=PySem.W.hideAll_none (yM h H) hm;rw[z] at e;cases e
def WQ(g h:Heap)(L:Addr):List (Addr×Obj):=(atU h.objs.size).filterMap fun a=>if a=L\/(g.get? a).isSome=true then none else(h.get? a).map fun o=>(a,o)
def rest(g h:Heap)(L d:Addr):List (Addr×Obj):=(WQ g h L).filter fun p=>decide (p.1≠d)
structure Mod(K:atQ)(mg:Str->Option Value)(base:Heap):Prop where
 rW:K.In base
 glob:base.Ns mainGlobals mg
 blt:∃mb,base.Ns builtinsNs mb/\∀x:Str,x≠"__name__"->mb x=bootBuiltins x
 nolimit:base.NoLimit
structure Cx where
 prog:Program
 w:World
 K:atQ
 mg:Str->Option Value
 base:Heap
 A:Around
 N:List Str
 s_0:Shared
 vZ:Hp
 env:Env
 outer:List Env
 stack:List Env
 ex:List Addr
 fn:Str->Bool
 calm:Bool
 pn:List (Addr×Obj)
 xe:Value->Shared->Prop
def dJ(l:List Env):List Addr:=l.filterMap (·.frame)
abbrev Cx.fs(X:Cx):List Addr:=dJ X.outer
def qz(sc:Scope)(x:Str):Prop:=sc.names.lookup x=some .local\/sc.names.lookup x=some .cell\/sc.names.lookup x=some .free
def v7(sc:Scope)(x:Str):Prop:=sc.names.lookup x=some .local\/sc.names.lookup x=some .cell
def WR(env:Env)(h:Heap)(m:Str->Option Value)(x:Str)(u:Value):Prop:=
 (env.kindOf x=some .local/\m x=some u)\/((env.kindOf x=some .cell\/env.kindOf x=some .free)/\∃c,env.cells.lookup x=some c/\h.IsCell c (some u))
structure Cx.Ok(X:Cx):Prop where
 mod:Mod X.K X.mg X.base
 kind:X.env.scope.kind=.function
 glob:X.env.globals=mainGlobals
 blt:X.env.builtins=builtinsNs
 above:X.s_0.heap.objs.size<=X.env.locals
 inj:∀x y c,X.env.cells.lookup x=some c->X.env.cells.lookup y=some c->x=y
 has:∀x,(X.env.kindOf x=some .cell\/X.env.kindOf x=some .free)->∃c,X.env.cells.lookup x=some c
 cab:∀x c,X.fn x=true->X.env.cells.lookup x=some c->X.s_0.heap.objs.size<=c
 hd:X.calm=true->X.A.handled=none
 frames:X.A.frames=some X.stack
 stk:X.stack=X.outer\/(X.stack=X.env::X.outer/\X.env.frame=some X.env.locals)
 v8:∀b∈X.ex,b≠X.env.locals/\∀x c,X.env.cells.lookup x=some c->c≠b
 bs:∀b o,X.base.get? b=some o->X.s_0.heap.get? b=some o/\X.vZ b=none
 jE:X.base.objs.size<=X.s_0.heap.objs.size
 uB:∀b o,X.base.get? b=some o->b∉X.ex
 uC:∀b∈X.ex,b∉X.fs
 iZ:X.s_0.heap.FunFrames X.base X.outer
 kZ:∀b∈X.fs,X.vZ b=none
structure Inv(X:Cx)(pins:List (Addr×Obj))(σ:List (Option V))(H:Hp)(s:Shared):Prop where
 ok:X.Ok
 os:s.os=X.s_0.os
 bare:AllBare s.gens
 base:Un X.fs X.ex X.vZ H X.s_0.heap s.heap
 loc:∃m,s.heap.Ns X.env.locals m/\∀(i:Nat)(x:Str)(v:V),X.N[i]?=some x->σ[i]?=some (some v)->qz X.env.scope x->∃u,RelV v u/\WR X.env s.heap m x u
 cell:∀x c,X.env.cells.lookup x=some c->∃v,s.heap.IsCell c v
 free:H X.env.locals=none
 jF:∀x c,X.env.cells.lookup x=some c->H c=none
 pin:∀p∈X.pn++pins,s.heap.get? p.1=some p.2/\H p.1=none/\p.1≠X.env.locals/\p.1∉X.fs/\∀v,p.2.data≠.cell v
 hok:cC X.prog X.w H s.heap
 len:σ.length=X.N.length
section
variable{X:Cx}{pins:List (Addr×Obj)}{σ:List (Option V)}{H H':Hp}{s:Shared}{h':Heap}
theorem Cx.Ok.WT(ok:X.Ok){b:Addr}{o:Obj}(e:X.base.get? b=some o):b∉X.fs:=fun hb=>by
 have:=(ok.iZ.mem hb).1;rw[e] at this;cases this
theorem Inv.bs(I:Inv X pins σ H s):∀b o,X.base.get? b=some o->s.heap.get? b=some o/\H b=none:=fun b o e=>
 ⟨I.base.keep b o (I.ok.bs b o e).1 (I.ok.bs b o e).2 (I.ok.WT e) (I.ok.uB b o e),I.base.free b o (I.ok.bs b o e).1 (I.ok.bs b o e).2 (I.ok.uB b o e)⟩
theorem Inv.bk(I:Inv X pins σ H s):∀b o,X.base.get? b=some o->s.heap.get? b=some o:=fun b o e=>(I.bs b o e).1
theorem Inv.mod(I:Inv X pins σ H s):Mod X.K X.mg X.base:=I.ok.mod
theorem Inv.gA(I:Inv X pins σ H s):X.K.In s.heap:=I.ok.mod.rW.keeps I.bk
theorem Inv.nolimit(I:Inv X pins σ H s):s.heap.NoLimit:=I.ok.mod.nolimit.keeps I.bk
theorem Inv.fr(I:Inv X pins σ H s):∃m,Fr X.base X.env.locals s.heap m:=
 let⟨m,hn,_⟩:=I.loc
 ⟨m,hn,I.bk,auC I.ok.jE I.ok.above⟩
theorem Inv.lt(I:Inv X pins σ H s):X.env.locals<s.heap.objs.size:=let⟨_,hn,_⟩:=I.loc;hn.lt
theorem Inv.sz(I:Inv X pins σ H s):X.s_0.heap.objs.size<=s.heap.objs.size:=auC I.ok.above (avm I.lt)
theorem Inv.WX(I:Inv X pins σ H s){a:Addr}(h:s.heap.objs.size<=a):a∉X.fs:=fun hb=>by
 obtain⟨_,o,ho,_⟩:=I.ok.iZ.mem hb;exact absurd (auG (aua ho) (auC I.sz h)) (au7 _)
theorem Inv.rY(I:Inv X pins σ H s):∀x c,X.env.cells.lookup x=some c->c≠X.env.locals:=fun x c e z=>by
 obtain⟨v,o,ho,hd⟩:=I.cell x c e;obtain⟨m,⟨o',es,ep,ho',hd',_⟩,_⟩:=I.loc;rw[z,ho'] at ho;cases ho;rw[hd'] at hd;cases hd
theorem Inv.iZ(I:Inv X pins σ H s):s.heap.FunFrames X.base X.outer:=by
 have all:∀(l:List Env),(∀b∈dJ l,b∈X.fs)->X.s_0.heap.FunFrames X.base l->s.heap.FunFrames X.base l:=by
  intro l
  induction l with
  |nil=>intro _ _;trivial
  |cons env r ih=>
   intro hs hl;obtain⟨hk,⟨L,o,hf,hn,ho,hd⟩,hr⟩:=hl;have hL:L∈X.fs:=hs L (by unfold dJ;rw[aws,hf];exact at7);obtain⟨sl,e⟩:=I.base.slot L o ho (I.ok.kZ L hL) hL fun z=>I.ok.uC L z hL
   exact⟨hk,⟨L,_,hf,hn,e,hd⟩,ih (fun b hb=>hs b (by unfold dJ;rw[aws,hf];exact at8 _ hb)) hr⟩
 exact all X.outer (fun _ hb=>hb) I.ok.iZ
theorem Inv.stack(I:Inv X pins σ H s):s.heap.FunFrames X.base X.stack:=by
 rcases I.ok.stk with e|⟨e,hf⟩
 ·rw[e];exact I.iZ
 ·rw[e];obtain⟨m,hn,_⟩:=I.loc;refine .cons (by rw[I.ok.kind];decide) hf hn ?_ I.iZ;exact Heap.get?_none_of_le (auC I.ok.jE I.ok.above)
theorem Inv.Du(I:Inv X pins σ H s):∀b∈dJ X.stack,b∈X.env.locals::X.fs:=fun b hb=>by
 rcases I.ok.stk with e|⟨e,hf⟩
 ·rw[e] at hb;exact at8 _ hb
 ·rw[e] at hb;unfold dJ at hb;rw[aws,hf] at hb;exact hb
theorem Inv.v9(I:Inv X pins σ H s):∀b∈dJ X.stack,H b=none:=fun b hb=>by
 rcases at3.mp (I.Du b hb) with e|hb
 ·rw[e];exact I.free
 ·obtain⟨_,o,ho,_⟩:=I.ok.iZ.mem hb;exact I.base.free b o ho (I.ok.kZ b hb) fun z=>I.ok.uC b z hb
theorem Inv.step{g':Array GenState}{t':Nat}{d':Drawn}{ch:List Addr}(I:Inv X pins σ H s)
  (hch:∀b∈ch,(b∈X.ex\/X.s_0.heap.objs.size<=b)/\b≠X.env.locals/\(∀x c,X.env.cells.lookup x=some c->c≠b)/\∀p∈X.pn++pins,p.1≠b)
  (keep:∀b o,b≠X.env.locals->b∉X.fs->b∉ch->s.heap.get? b=some o->H b=none->h'.get? b=some o)
  (slot:∀b o,b≠X.env.locals->b∈X.fs->b∉ch->s.heap.get? b=some o->H b=none->∃sl,h'.get? b=some {o with slots:=sl}) (free:∀b o,b∉ch->s.heap.get? b=some o->H b=none->H' b=none)
  (there:∀b o,b∉ch->s.heap.get? b=some o->∃o',h'.get? b=some o')
  (tups:∀b xs,H b=some (.tup xs)->H' b=some (.tup xs)) (iY:∀b o u,H b=some (.gh o u)->H' b=some (.gh o u)) (jr:∀b ps,H b=some (.qy ps)->∃more,H' b=some (.qy (ps++more)))
  (ns:∀m,s.heap.Ns X.env.locals m->h'.Ns X.env.locals m) (hok:cC X.prog X.w H' h') (hg:AllBare g'):
  Inv X pins σ H' {s with heap:=h',gens:=g',drawn:=d',toks:=t'}:=by
 have Mv:∀b o,X.s_0.heap.get? b=some o->b≠X.env.locals:=fun b o e=>aun (auG (aua e) I.ok.above)
 have yN:∀b o,X.s_0.heap.get? b=some o->b∉X.ex->b∉ch:=fun b o e hx hb=>by
  rcases(hch b hb).1 with z|z
  ·exact hx z
  ·exact absurd (auG (aua e) z) (au7 _)
 have cellK:∀x c,X.env.cells.lookup x=some c->∀v,s.heap.IsCell c v->h'.IsCell c v:=fun x c e v ⟨o,ho,hd⟩=>by
  have wg:c∉ch:=fun z=>(hch c z).2.2.1 x c e rfl
  by_cases hc:c∈X.fs
  ·obtain⟨sl,q⟩:=slot c o (I.rY x c e) hc wg ho (I.jF x c e);exact⟨_,q,hd⟩
  ·exact⟨o,keep c o (I.rY x c e) hc wg ho (I.jF x c e),hd⟩
 refine⟨I.ok,I.os,hg,⟨fun b o e n hb hx=>?_,fun b o e n hb hx=>?_,fun b o e n hx=>?_,fun b o e hx=>?_,fun b xs e=>tups b xs (I.base.tups b xs e),fun b o xs e=>iY b o xs (I.base.iY b o xs e),fun b ps e=>?_⟩,?_,fun x c e=>?_,?_,fun x c e=>?_,fun p hp=>?_,hok,I.len⟩
 ·exact keep b o (Mv b o e) hb (yN b o e hx) (I.base.keep b o e n hb hx) (I.base.free b o e n hx)
 ·obtain⟨sl,e1⟩:=I.base.slot b o e n hb hx;obtain⟨sl',e2⟩:=slot b _ (Mv b o e) hb (yN b o e hx) e1 (I.base.free b o e n hx);exact⟨sl',e2⟩
 ·obtain⟨o',e1⟩:=I.base.there b o e hx;exact free b o' (yN b o e hx) e1 (I.base.free b o e n hx)
 ·obtain⟨o',e1⟩:=I.base.there b o e hx;exact there b o' (yN b o e hx) e1
 ·obtain⟨m1,e1⟩:=I.base.jr b ps e;obtain⟨m2,e2⟩:=jr b _ e1;exact⟨m1++m2,by rw[e2,axQ]⟩
 ·obtain⟨m,hn,hl⟩:=I.loc;refine⟨m,ns m hn,fun i x v e1 e2 e3=>?_⟩;obtain⟨u,r,l⟩:=hl i x v e1 e2 e3;refine⟨u,r,?_⟩;rcases l with l|⟨k,c,e,z⟩
  ·exact .inl l
  ·exact .inr ⟨k,c,e,cellK x c e _ z⟩
 ·obtain⟨v,z⟩:=I.cell x c e;exact⟨v,cellK x c e v z⟩
 ·obtain⟨m,⟨o,_,_,ho,_⟩,_⟩:=I.loc;exact free _ o (fun z=>(hch _ z).2.1 rfl) ho I.free
 ·obtain⟨v,o,ho,hd⟩:=I.cell x c e;exact free c o (fun z=>(hch c z).2.2.1 x c e rfl) ho (I.jF x c e)
 ·obtain⟨e,n,ne,nf,d⟩:=I.pin p hp;have wg:p.1∉ch:=fun z=>(hch p.1 z).2.2.2 p hp rfl
  exact⟨keep p.1 p.2 ne nf wg e n,free p.1 p.2 wg e n,ne,nf,d⟩
theorem Inv.un{t':Nat}(I:Inv X pins σ H s)(u:Un X.fs [] H H' s.heap h')(hok:cC X.prog X.w H' h'):Inv X pins σ H' {s with heap:=h',toks:=t'}:=by
 obtain⟨m,⟨o,es,ep,ho,r⟩,_⟩:=id I.loc;obtain⟨sl,hL⟩:=u.any ho I.free (by simp);exact I.step (g':=s.gens) (d':=s.drawn) (ch:=[]) (fun _ z=>nomatch z) (fun b o _ hb _ e n=>u.keep b o e n hb (by simp)) (fun b o _ hb _ e n=>u.slot b o e n hb (by simp)) (fun b o _ e n=>u.free b o e n (by simp)) (fun b o _ e=>u.there b o e (by simp)) u.tups u.iY u.jr (fun m' hm=>by
  obtain⟨o',es',ep',ho',r'⟩:=hm;rw[ho] at ho';cases ho'
  exact⟨_,es',ep',hL,r'⟩) hok I.bare
theorem Inv.call{g':Array GenState}{t':Nat}{d':Drawn}{ch:List Addr}(I:Inv X pins σ H s)(u:Un (dJ X.stack) ch H H' s.heap h')(hok:cC X.prog X.w H' h')(hg:AllBare g')
  (hch:∀b∈ch,(b∈X.ex\/X.s_0.heap.objs.size<=b)/\b≠X.env.locals/\(∀x c,X.env.cells.lookup x=some c->c≠b)/\∀p∈X.pn++pins,p.1≠b):
  Inv X pins σ H' {s with heap:=h',gens:=g',drawn:=d',toks:=t'}:=by
 obtain⟨m,⟨o,es,ep,ho,r⟩,_⟩:=id I.loc;obtain⟨sl,hL⟩:=u.any ho I.free fun z=>(hch _ z).2.1 rfl
 exact I.step (ch:=ch) hch (fun b o hL hb hc e n=>u.keep b o e n (fun z=>(at3.mp (I.Du b z)).elim hL hb) hc) (fun b o _ _ hc e n=>u.any e n hc) (fun b o hc e n=>u.free b o e n hc) (fun b o hc e=>u.there b o e hc) u.tups u.iY u.jr (fun m' hm=>by
  obtain⟨o',es',ep',ho',r'⟩:=hm;rw[ho] at ho';cases ho'
  exact⟨_,es',ep',hL,r'⟩) hok hg
theorem Inv.turned{t':Nat}{it:Addr}(I:Inv X pins σ H s)(k:∀b o,b≠it->s.heap.get? b=some o->h'.get? b=some o)(hn:H it=none)(hL:it≠X.env.locals)
  (h1:it∈X.ex\/X.s_0.heap.objs.size<=it) (h2:∀x c,X.env.cells.lookup x=some c->c≠it) (h3:∀p∈X.pn++pins,p.1≠it):Inv X pins σ H {s with heap:=h',toks:=t'}:=by
 have qC:∀b u,H b=some u->b≠it:=fun b u e z=>by rw[z,hn] at e;cases e
 refine I.step (g':=s.gens) (d':=s.drawn) (ch:=[it]) (fun b hb=>?_) (fun b o _ _ hc e _=>k b o (fun z=>hc (by simp[z])) e) (fun b o _ _ hc e _=>⟨o.slots,k b o (fun z=>hc (by simp[z])) e⟩) (fun _ _ _ _ n=>n)
  (fun b o hc e=>⟨o,k b o (fun z=>hc (by simp[z])) e⟩) (fun _ _ e=>e) (fun _ _ _ e=>e) (fun b ps e=>⟨#[],by rw[e];simp⟩) (fun m hm=>?_) (fun b u e=>?_) I.bare
 ·have e:b=it:=by simpa using hb
  subst e;exact⟨h1,hL,h2,h3⟩
 ·obtain⟨o,es,ep,ho,r⟩:=hm;exact⟨o,es,ep,k _ o (Ne.symm hL) ho,r⟩
 ·refine(I.hok b u e).stay (fun c v hc q=>k c v ?_ q) (fun _ q=>q) fun _ _ q=>q
  rcases hc with z|z
  ·rw[z];exact qC b u e
  ·exact qC c _ z
theorem Inv.tok(I:Inv X pins σ H s)(t:Nat):Inv X pins σ H {s with toks:=t}:=I.un (h':=s.heap) (t':=t) Un.refl I.hok
theorem Inv.kept{t':Nat}(I:Inv X pins σ H s)(k:∀b u,s.heap.get? b=some u->h'.get? b=some u):Inv X pins σ H {s with heap:=h',toks:=t'}:=I.un (Un.kept k) (I.hok.kept k)
theorem Inv.laid{a:Addr}{o:HO}{t':Nat}(I:Inv X pins σ H s)(k:∀b u,s.heap.get? b=some u->h'.get? b=some u)(hp:s.heap.objs.size<=a)(new:cQ X.prog X.w (upd H a o) h' a o):
  Inv X pins σ (upd H a o) {s with heap:=h',toks:=t'}:=I.un (Un.laid k hp (I.hok.fresh hp)) (I.hok.laid k hp new)
theorem Inv.write{x e:Addr}{o:HO}{t':Nat}(I:Inv X pins σ H s)(mu:vY (H x))(he:e=x\/H e=some (.own x))(k:∀b u,b≠e->s.heap.get? b=some u->h'.get? b=some u)(heo:∃u,h'.get? e=some u)
  (new:cQ X.prog X.w (upd H x o) h' x o):Inv X pins σ (upd H x o) {s with heap:=h',toks:=t'}:=I.un (Un.write mu he k heo) (I.hok.write mu he k heo new)
theorem Inv.weak{σ':List (Option V)}(I:Inv X pins σ H s)(hl:σ'.length=σ.length)(w:∀(i:Nat) v,σ'[i]?=some (some v)->σ[i]?=some (some v)):Inv X pins σ' H s:=
 ⟨I.ok,I.os,I.bare,I.base,let⟨m,hn,hl'⟩:=I.loc;⟨m,hn,fun i x v e1 e2 e3=>hl' i x v e1 (w i v e2) e3⟩,I.cell,I.free,I.jF,I.pin,I.hok,hl.trans I.len⟩
theorem Inv.Mw{Mx:List (Addr×Obj)}(I:Inv X pins σ H s)(h:∀p∈Mx,s.heap.get? p.1=some p.2/\H p.1=none/\p.1≠X.env.locals/\p.1∉X.fs/\∀v,p.2.data≠.cell v):Inv X Mx σ H s:=
 ⟨I.ok,I.os,I.bare,I.base,I.loc,I.cell,I.free,I.jF,fun p hp=>(aus.mp hp).elim (fun z=>I.pin p (axT _ z)) (h p),I.hok,I.len⟩
theorem Dv{N:List Str}(hN:N.Nodup){i j:Nat}{x:Str}(a:N[i]?=some x)(b:N[j]?=some x):i=j:=by
 obtain⟨h1,e1⟩:=at9.mp a;obtain⟨h2,e2⟩:=at9.mp b;exact(av6 hN).mp (e1.trans e2.symm)
theorem My{M:Model}{A:Around}{E:Value->Shared->Prop}{i:Nat}{x:Str}{v:V}{u:Value}{Q:Unit->Shared->Prop}(I:Inv X pins σ H s)(hN:X.N.Nodup)(hi:X.N[i]?=some x)(hx:v7 X.env.scope x)(r:RelV v u)
  (h:∀s',Inv X pins (σ.set i (some v)) H s'->(∃a,auV a s.heap s'.heap/\(a=X.env.locals\/X.env.cells.lookup x=some a))->Q () s') (hf:X.fn x=true\/X.env.scope.names.lookup x=some .local:=by first|exact .inl rfl|exact .inr rfl|assumption):wpAny M A (storeName X.env x u) Q E s:=by
 obtain⟨m,hn,hl⟩:=id I.loc;have hcls:(X.env.scope.kind== .class||(X.env.scope.kind== .module&&X.env.locals !=X.env.globals))=false:=by rw[I.ok.kind];rfl
 have Mz:i<σ.length:=by rw[I.len];exact(at9.mp hi).1
 have rY:=I.rY;have tracked:∀{a:Addr}{h':Heap},(∃o,s.heap.get? a=some o/\H a=none)->auV a s.heap h'->cC X.prog X.w H h':=fun{a h'} ha hs b ob e=>by
  obtain⟨_,_,hfree⟩:=ha;refine(I.hok b ob e).stay (fun c w' hc q=>(hs.2 c ?_).trans q) (fun _ q=>q) fun _ _ q=>q
  rintro rfl;rcases hc with rfl|hc
  ·rw[hfree] at e;cases e
  ·rw[hfree] at hc;cases hc
 rcases hx with hk|hk
 ·refine wpAny_storeName_local hk hn (fun h' hn' hs=>?_) hcls;obtain⟨oL,_,_,hoL,_⟩:=id hn;refine h _ ⟨I.ok,I.os,I.bare,⟨fun b o e n hb hx=>?_,fun b o e n hb hx=>?_,I.base.free,fun b o e hx=>?_,I.base.tups,I.base.iY,I.base.jr⟩,⟨_,hn',fun j y v' e1 e2 e3=>?_⟩,fun y c e=>?_,I.free,I.jF,fun p hp=>?_,tracked ⟨oL,hoL,I.free⟩ hs,by simpa using I.len⟩ ⟨_,hs,.inl rfl⟩
  ·exact(hs.2 b (aun (auG (aua e) I.ok.above))).trans (I.base.keep b o e n hb hx)
  ·obtain⟨sl,e1⟩:=I.base.slot b o e n hb hx;exact⟨sl,(hs.2 b (aun (auG (aua e) I.ok.above))).trans e1⟩
  ·obtain⟨o',e1⟩:=I.base.there b o e hx;exact⟨o',(hs.2 b (aun (auG (aua e) I.ok.above))).trans e1⟩
  ·by_cases hj:j=i
   ·subst hj;rw[hi] at e1;cases e1
    rw[awt Mz] at e2;cases e2;exact⟨u,r,.inl ⟨hk,by simp⟩⟩
   ·rw[awu (Ne.symm hj)] at e2;obtain⟨u',r',q⟩:=hl j y v' e1 e2 e3;refine⟨u',r',?_⟩;rcases q with⟨k,e⟩|⟨k,c,e,z⟩
    ·refine .inl ⟨k,?_⟩;have:y≠x:=fun e=>hj (Dv hN e1 (e▸hi))
     simp[this,e]
    ·exact .inr ⟨k,c,e,z.sameBut hs (rY y c e)⟩
  ·obtain⟨w',z⟩:=I.cell y c e;exact⟨w',z.sameBut hs (rY y c e)⟩
  ·obtain⟨e,n,ne,nf,d⟩:=I.pin p hp;exact⟨(hs.2 p.1 ne).trans e,n,ne,nf,d⟩
 ·have hfn:X.fn x=true:=by
   rcases hf with z|z
   ·exact z
   ·rw[z] at hk;cases hk
  obtain⟨c,hc⟩:=I.ok.has x (.inl hk);obtain⟨w',z⟩:=I.cell x c hc;refine wpAny_storeName_cell I.ok.kind hk hc z (fun h' hc' hs=>?_);obtain⟨oc,hoc,WY⟩:=id z;refine h {s with heap:=h'} ⟨I.ok,I.os,I.bare,⟨fun b o e n hb hx=>?_,fun b o e n hb hx=>?_,I.base.free,fun b o e hx=>?_,I.base.tups,I.base.iY,I.base.jr⟩,⟨m,hn.sameBut hs (Ne.symm (rY x c hc)),fun j y v' e1 e2 e3=>?_⟩,fun y c' e=>?_,I.free,I.jF,fun p hp=>?_,tracked ⟨oc,hoc,I.jF x c hc⟩ hs,by simpa using I.len⟩ ⟨c,hs,.inr hc⟩
  ·exact(hs.2 b (aun (auG (aua e) (I.ok.cab x c hfn hc)))).trans (I.base.keep b o e n hb hx)
  ·obtain⟨sl,e1⟩:=I.base.slot b o e n hb hx;exact⟨sl,(hs.2 b (aun (auG (aua e) (I.ok.cab x c hfn hc)))).trans e1⟩
  ·obtain⟨o',e1⟩:=I.base.there b o e hx;exact⟨o',(hs.2 b (aun (auG (aua e) (I.ok.cab x c hfn hc)))).trans e1⟩
  ·by_cases hj:j=i
   ·subst hj;rw[hi] at e1;cases e1
    rw[awt Mz] at e2;cases e2;exact⟨u,r,.inr ⟨.inl hk,c,hc,hc'⟩⟩
   ·rw[awu (Ne.symm hj)] at e2;obtain⟨u',r',q⟩:=hl j y v' e1 e2 e3;refine⟨u',r',?_⟩;rcases q with q|⟨k,c',e,z'⟩
    ·exact .inl q
    ·refine .inr ⟨k,c',e,z'.sameBut hs ?_⟩;rintro rfl;exact hj (Dv hN e1 (I.ok.inj _ _ _ e hc▸hi))
  ·by_cases hcc:c'=c
   ·subst hcc;exact⟨_,hc'⟩
   ·obtain⟨w2,z2⟩:=I.cell y c' e;exact⟨w2,z2.sameBut hs hcc⟩
  ·obtain⟨e,n,ne,nf,d⟩:=I.pin p hp;refine⟨(hs.2 p.1 ?_).trans e,n,ne,nf,d⟩;intro q;rw[q,hoc] at e;have q':oc=p.2:=aub e;exact d w' (by rw[<-q'];exact WY)
theorem Dy{M:Model}{A:Around}{E:Value->Shared->Prop}{i:Nat}{x:Str}{v:V}{u:Value}{Q:Unit->Shared->Prop}(I:Inv X pins σ H s)(hN:X.N.Nodup)(hi:X.N[i]?=some x)(hx:v7 X.env.scope x)(r:RelV v u)
  (h:∀s',Inv X pins (σ.set i (some v)) H s'->Q () s') (hf:X.fn x=true\/X.env.scope.names.lookup x=some .local:=by first|exact .inl rfl|exact .inr rfl|assumption):wpAny M A (storeName X.env x u) Q E s:=
 My I hN hi hx r (fun s' I' _=>h s' I') hf
theorem Inv.call'{s':Shared}{ch:List Addr}(I:Inv X pins σ H s)(ho:s'.os=s.os)(u:Un (dJ X.stack) ch H H' s.heap s'.heap)(hok:cC X.prog X.w H' s'.heap)(hg:AllBare s'.gens)
  (hch:∀b∈ch,(b∈X.ex\/X.s_0.heap.objs.size<=b)/\b≠X.env.locals/\(∀x c,X.env.cells.lookup x=some c->c≠b)/\∀p∈X.pn++pins,p.1≠b):Inv X pins σ H' s':=by
 obtain⟨h',g',d',t',o'⟩:=s';have e:o'=s.os:=ho;subst e;exact I.call (g':=g') (t':=t') (d':=d') u hok hg hch
end
abbrev XK:=Value->Option Addr->Hp->Prop
abbrev St:=List (Option V)
abbrev VK:=V->Hp->Prop
abbrev TE:=St->Hp->VK->Prop
abbrev TT:=St->Hp->(Bool->Hp->Prop)->Prop
abbrev TA:=St->Hp->(List V->Hp->Prop)->Prop
structure Ends where
 nx:St->Hp->Prop
 rt:VK
 bk:St->Hp->Prop:=fun _ _=>False
 ct:St->Hp->Prop:=fun _ _=>False
abbrev TS:=Ends->St->Hp->Prop
def EP(X:Cx)(pins:List (Addr×Obj))(σ:St)(Q:VK)(u:Value)(s':Shared):Prop:=∃v H',Inv X pins σ H' s'/\RelV v u/\Q v H'
def TP(X:Cx)(pins:List (Addr×Obj))(σ:St)(Q:Bool->Hp->Prop)(b:Bool)(s':Shared):Prop:=∃H',Inv X pins σ H' s'/\Q b H'
def AP(X:Cx)(pins:List (Addr×Obj))(σ:St)(Q:List V->Hp->Prop)(us:List Value)(s':Shared):Prop:=∃vs H',Inv X pins σ H' s'/\Vals vs us/\Q vs H'
def SP(X:Cx)(pins:List (Addr×Obj))(D:Ends)(f:Flow)(s':Shared):Prop:=
 match f with
 |.next=>∃σ' H',Inv X pins σ' H' s'/\D.nx σ' H'
 |.brk=>∃σ' H',Inv X pins σ' H' s'/\D.bk σ' H'
 |.cont=>∃σ' H',Inv X pins σ' H' s'/\D.ct σ' H'
 |.ret u=>∃v σ' H',Inv X pins σ' H' s'/\RelV v u/\D.rt v H'
def PE(X:Cx)(e:Expr)(t:TE):Prop:=
 ∀(pins:List (Addr×Obj))(s:Shared)(σ:St)(H:Hp)(Q:VK),Inv X pins σ H s->t σ H Q->wpAny (model X.prog X.w) X.A (eval e X.env) (EP X pins σ Q) X.xe s
def PT(X:Cx)(e:Expr)(t:TT):Prop:=
 ∀(pins:List (Addr×Obj))(s:Shared)(σ:St)(H:Hp)(Q:Bool->Hp->Prop),Inv X pins σ H s->t σ H Q->wpAny (model X.prog X.w) X.A (isTrue e X.env (eval e X.env)) (TP X pins σ Q) X.xe s
def PW(X:Cx)(e:Expr)(t:TT):Prop:=
 ∀(whole:Sem Value)(pins:List (Addr×Obj))(s:Shared)(σ:St)(H:Hp)(Q:Bool->Hp->Prop),Inv X pins σ H s->t σ H Q->wpAny (model X.prog X.w) X.A (isTrue e X.env whole) (TP X pins σ Q) X.xe s
theorem PW.pt{X:Cx}{e:Expr}{t:TT}(h:PW X e t):PT X e t:=h _
def PA(X:Cx)(es:List Expr)(t:TA):Prop:=
 ∀(pos:Pos)(pins:List (Addr×Obj))(s:Shared)(σ:St)(H:Hp)(Q:List V->Hp->Prop),Inv X pins σ H s->t σ H Q->wpAny (model X.prog X.w) X.A (spliced (backTo pos (starEach es X.env))) (AP X pins σ Q) X.xe s
def PS(X:Cx)(st:Stmt)(t:TS):Prop:=
 ∀(pins:List (Addr×Obj))(s:Shared)(σ:St)(H:Hp)(D:Ends),Inv X pins σ H s->t D σ H->wpAny (model X.prog X.w) X.A (exec st X.env) (SP X pins D) X.xe s
def iB(X:Cx)(st:List Stmt)(t:TS):Prop:=
 ∀(pins:List (Addr×Obj))(s:Shared)(σ:St)(H:Hp)(D:Ends),Inv X pins σ H s->t D σ H->wpAny (model X.prog X.w) X.A (execs st X.env) (SP X pins D) X.xe s
theorem aO{α:Type}{t:Sem α}{Q Q':α->Shared->Prop}{M:Model}{A:Around}{E:Value->Shared->Prop}{s:Shared}(h:wpAny M A t Q E s)(hQ:∀a s,Q a s->Q' a s):wpAny M A t Q' E s:=wpAny_mono h hQ fun _ _ x=>x
section
variable{X:Cx}
def gC(i:Nat):TE:=fun σ H Q=>∃v,σ[i]?=some (some v)/\Q v H
def tC(v:V):TE:=fun _ H Q=>Q v H
theorem W8{i:Nat}{x:Str}{pos:Pos}(hN:X.N[i]?=some x)(hv:qz X.env.scope x)(hd:(x==("__debug__":Str))=false:=by decide)(hcd:(x==("__classdict__":Str))=false:=by decide):PE X (.Name x pos) (gC i):=by
 intro pins s σ H Q I h;obtain⟨v,e,h⟩:=h;obtain⟨m,hn,hl⟩:=I.loc;obtain⟨u,r,l⟩:=hl i x v hN e hv;have fin:EP X pins σ Q u s:=⟨v,H,I,r,h⟩;rcases l with⟨hk,hm⟩|⟨hk,c,hc,hcell⟩
 ·exact wpAny_Name (wpAny_loadName_local I.ok.kind hk hn hm fin) hd
 ·rcases hk with hk|hk
  ·exact wpAny_Name (wpAny_loadName_cell I.ok.kind hk hc hcell fin) hd
  ·exact wpAny_Name (wpAny_loadName_free I.ok.kind hk hc hcell fin hcd) hd
theorem bW{i j pos}:PE X (.Constant (.int i) j pos) (tC (.int i)):=fun _ _ _ H _ I h=>wpAny_Constant_int ⟨.int i,H,I.tok _,⟨_,rfl⟩,h⟩
theorem Dz{b j pos}:PE X (.Constant (.bool b) j pos) (tC (.bl b)):=fun _ _ _ H _ I h=>Constant_bool ⟨.bl b,H,I,rfl,h⟩
theorem rZ{j pos}:PE X (.Constant .none j pos) (tC .non):=fun _ _ _ H _ I h=>Constant_none ⟨.non,H,I,rfl,h⟩
theorem qD{x j pos}:PE X (.Constant (.str x) j pos) (tC (.str x)):=fun _ _ _ H _ I h=>Calls.Constant_str ⟨.str x,H,I.tok _,⟨_,rfl⟩,h⟩
def Gl(X:Cx)(x:Str):Prop:=X.env.kindOf x=some .globalImplicit
theorem sr{E:Value->Shared->Prop}{pins:List (Addr×Obj)}{s:Shared}{σ:St}{H:Hp}{x:Str}{u:Value}{pos:Pos}{Q:Value->Shared->Prop}(I:Inv X pins σ H s)(hg:Gl X x)(hm:X.mg x=some u)(h:Q u s)
  (hd:(x==("__debug__":Str))=false:=by decide):wpAny (model X.prog X.w) X.A (eval (.Name x pos) X.env) Q E s:=
 Calls.Name_function_global I.ok.kind hg (Calls.loadGlobal_global (by rw[I.ok.glob];exact I.mod.glob.keeps I.bk) hm h) hd
theorem oX{E:Value->Shared->Prop}{pins:List (Addr×Obj)}{s:Shared}{σ:St}{H:Hp}{x:Str}{u:Value}{pos:Pos}{Q:Value->Shared->Prop}(I:Inv X pins σ H s)(hg:Gl X x)(hm:X.mg x=none)(hv:bootBuiltins x=some u)(h:Q u s)
  (hn:x≠"__name__":=by decide) (hd:(x==("__debug__":Str))=false:=by decide):wpAny (model X.prog X.w) X.A (eval (.Name x pos) X.env) Q E s:=by
 obtain⟨mb,h1,h2⟩:=I.mod.blt;exact Calls.Name_function_global I.ok.kind hg (Calls.loadGlobal_builtin (by rw[I.ok.glob];exact I.mod.glob.keeps I.bk) hm (by rw[I.ok.blt];exact h1.keeps I.bk) ((h2 x hn).trans hv) h) hd
theorem dz{x:Str}{v:V}{u:Value}{pos:Pos}(hg:Gl X x)(hm:X.mg x=some u)(r:RelV v u)(hd:(x==("__debug__":Str))=false:=by decide):PE X (.Name x pos) (tC v):=
 fun _ _ _ H _ I h=>sr I hg hm ⟨v,H,I,r,h⟩ hd
variable{a b:Expr}{ta tb:TE}{pos:Pos}
def PC(X:Cx)(op:CmpOp)(a b:Expr)(t:TE):Prop:=
 ∀(pins:List (Addr×Obj))(s:Shared)(σ:St)(H:Hp)(Q:VK),Inv X pins σ H s->t σ H Q->
  wpAny (model X.prog X.w) X.A (eval a X.env) (fun v s₁=>wpAny (model X.prog X.w) X.A (eval b X.env) (fun u s₂=>wpAny (model X.prog X.w) X.A (compareOp op v u) (EP X pins σ Q) X.xe s₂) X.xe s₁) X.xe s
theorem W9(b:Expr){op:CmpOp}(h:op≠.In)(h2:op≠.NotIn):behindInMarks op b=false:=by
 have e1:(op==CmpOp.In)=false:=by cases op<;>first|rfl|exact absurd rfl h
 have e2:(op==CmpOp.NotIn)=false:=by cases op<;>first|rfl|exact absurd rfl h2
 cases b<;>simp[behindInMarks,e1,e2]
def Xa(ta:TE):TE:=fun σ H Q=>ta σ H fun x H1=>Q (.bl (decide (x=.non))) H1
theorem RelV.Xb{x:V}{v:Value}(r:RelV x v):(v==auF)=decide (x=.non):=by
 cases x with
 |non=>cases r;rfl
 |bl _=>cases r;rfl
 |int _=>obtain⟨t,rfl⟩:=r;rfl
 |str _=>obtain⟨t,rfl⟩:=r;rfl
 |gM _=>obtain⟨t,rfl⟩:=r;rfl
 |flt _=>obtain⟨t,rfl⟩:=r;rfl
 |ref _=>cases r;rfl
 |ty _=>cases r;rfl
theorem MF{j pos'}(ha:PE X a ta):PC X .Is a (.Constant .none j pos') (Xa ta):=by
 intro pins s σ H Q I h;refine aO (ha pins s σ H _ I h) fun v s1 ⟨x,H1,I1,r1,q1⟩=>?_
 exact Constant_none (is_none_gen ⟨.bl _,H1,I1,by rw[r1.Xb];rfl,q1⟩)
def tB(t:TE):TT:=fun σ H Q=>t σ H fun x H1=>∃c,x=.bl c/\Q c H1
theorem uD{op:CmpOp}{t:TE}(h:PC X op a b t)(h1:behindInMarks op b=false:=by first|exact W9 _ (by decide) (by decide)|rfl):PT X (.Compare a [op] [b] pos) (tB t):=by
 intro pins s σ H Q I hw;refine wpAny_isTrue_Compare1 (aO (h pins s σ H _ I hw) fun v s1 h1=>aO h1 fun u s2 h2=>aO h2 fun c s3 ⟨x,H1,I1,r1,q1⟩=>?_) h1;obtain⟨d,rfl,q⟩:=q1;cases r1;exact wpAny_truthy_bool ⟨H1,I1,q⟩
variable{tA MJ:TT}{rest:List Expr}
def Xc(t u:TT):TT:=fun σ H Q=>t σ H fun c H1=>if c=true then Q true H1 else u σ H1 Q
def Xd(t:TT):TT:=fun σ H Q=>t σ H fun c H1=>Q (!c) H1
theorem DG(ha:PT X a tA):PW X (.BoolOp .Or [a] pos) tA:=by
 intro wh pins s σ H Q I h;refine isTrue_or (aO (ha pins s σ H Q I h) fun c s1 e=>?_);cases c with
 |false=>exact isTrue_or_nil e
 |true=>exact e
theorem uE(ha:PT X a tA)(hb:PW X (.BoolOp .Or (b::rest) pos) MJ):PW X (.BoolOp .Or (a::b::rest) pos) (Xc tA MJ):=by
 intro wh pins s σ H Q I h;refine isTrue_or (aO (ha pins s σ H _ I h) fun c s1 ⟨H1,I1,q1⟩=>?_);cases c with
 |true=>exact⟨H1,I1,q1⟩
 |false=>exact hb wh pins s1 σ H1 Q I1 q1
theorem MN(ha:PT X a tA):PT X (.UnaryOp .Not a pos) (Xd tA):=by
 intro pins s σ H Q I h;exact isTrue_not (ha pins s σ H (fun c H1=>Q (!c) H1) I h)
def DK(ta tb:TE):TE:=fun σ H Q=>ta σ H fun x H1=>∃c,x=.bl c/\if c=true then tb σ H1 Q else Q (.bl false) H1
theorem Xe{op}{t:TE}(h:PE X a t):PE X (.BoolOp op [a] pos) t:=fun pins s σ H Q I hw=>BoolOp_one (h pins s σ H Q I hw)
theorem Xf(ha:PE X a ta)(hb:PE X (.BoolOp .And (b::rest) pos) tb):PE X (.BoolOp .And (a::b::rest) pos) (DK ta tb):=by
 intro pins s σ H Q I h;refine BoolOp_and (aO (ha pins s σ H _ I h) fun v s1 ⟨x,H1,I1,r1,q1⟩=>?_);obtain⟨c,rfl,q1⟩:=q1;cases r1;refine wpAny_truthy_bool ?_;cases c with
 |true=>exact hb pins s1 σ H1 Q I1 q1
 |false=>exact⟨.bl false,H1,I1,rfl,q1⟩
def Xg(t:TT)(ta tb:TE):TE:=fun σ H Q=>t σ H fun c H1=>if c=true then ta σ H1 Q else tb σ H1 Q
theorem Xh{c:Expr}(hc:PT X c tA)(ha:PE X a ta)(hb:PE X b tb):PE X (.IfExp c a b pos) (Xg tA ta tb):=by
 intro pins s σ H Q I h;refine wpAny_IfExp (aO (hc pins s σ H _ I h) fun d s1 ⟨H1,I1,q1⟩=>?_);cases d with
 |true=>exact ha pins s1 σ H1 Q I1 q1
 |false=>exact hb pins s1 σ H1 Q I1 q1
end
def ak(K:atQ)(H:Hp)(a:Addr)(xs:List V):Prop:=
 Rd H a (.lst xs)\/
  ∃(o:Obj)(its:Array Value)(n:Nat),K.lookup a=some o/\o.cls=.type "list"/\o.dict=none/\o.data=.seq its n/\its.size<=sizeLine/\Vals xs its.toList
def bB(K:atQ)(H:Hp)(a:Addr)(xs:List V):Prop:=
 Rd H a (.tup xs)\/
  ∃(o:Obj)(its:Array Value)(n:Nat),K.lookup a=some o/\o.cls=.type "tuple"/\o.data=.seq its n/\its.size<=sizeLine/\Vals xs its.toList
def Xi:Value->Option V
 |.none=>some .non
 |.bool b=>some (.bl b)
 |.int i _=>some (.int i)
 |.str x _=>some (.str x)
 |.bytes b _=>some (.gM b)
 |.float b _=>some (.flt b)
 |.ref a=>some (.ref a)
 |.type n=>some (.ty n)
 |_=>none
theorem RelV.abs{x:V}{u:Value}(r:RelV x u):Xi u=some x:=by
 cases x with
 |non=>cases r;rfl
 |bl _=>cases r;rfl
 |int _=>obtain⟨t,rfl⟩:=r;rfl
 |str _=>obtain⟨t,rfl⟩:=r;rfl
 |gM _=>obtain⟨t,rfl⟩:=r;rfl
 |flt _=>obtain⟨t,rfl⟩:=r;rfl
 |ref _=>cases r;rfl
 |ty _=>cases r;rfl
theorem RelV.inj{x y:V}{u:Value}(r:RelV x u)(q:RelV y u):x=y:=aub (r.abs.symm.trans q.abs)
theorem Vals.inj:∀{xs ys:List V}{us:List Value},Vals xs us->Vals ys us->xs=ys
 |_,_,_,.nil,.nil=>rfl
 |_,_,_,.cons r t,.cons r' t'=>by rw[r.inj r',Vals.inj t t']
section
variable{X:Cx}{pins:List (Addr×Obj)}{σ:St}{H:Hp}{s:Shared}{a:Addr}{xs ys:List V}
theorem ak.of{K:atQ}(h:H a=some (.lst xs)):ak K H a xs:=.inl (.inl h)
theorem bB.of{K:atQ}(h:H a=some (.tup xs)):bB K H a xs:=.inl (.inl h)
theorem Inv.list(I:Inv X pins σ H s)(h:ak X.K H a xs):∃its:List Value,Vals xs its/\PlainL s.heap a its.toArray/\xs.length<=sizeLine:=by
 rcases h with h|⟨o,its,n,hk,hc,hd,hs,hz,r⟩
 ·obtain⟨z,its,n,r,e⟩:=h.ok I.hok;exact⟨its,r,⟨_,n,e,rfl,rfl,rfl⟩,z⟩
 ·refine⟨its.toList,r,⟨o,n,I.gA a o hk,hc,hd,by simpa using hs⟩,?_⟩;have e:=r.length;simp only[aut] at e;omega
theorem Inv.tuple(I:Inv X pins σ H s)(h:bB X.K H a xs):∃its:List Value,Vals xs its/\IsTup s.heap a its.toArray/\xs.length<=sizeLine:=by
 rcases h with h|⟨o,its,n,hk,hc,hs,hz,r⟩
 ·obtain⟨z,its,r,p⟩:=h.ok I.hok;exact⟨its,r,p,z⟩
 ·refine⟨its.toList,r,⟨o,I.gA a o hk,hc,n,by simpa using hs⟩,?_⟩;have e:=r.length;simp only[aut] at e;omega
theorem Inv.yO(I:Inv X pins σ H s)(h:ak X.K H a xs)(h':ak X.K H a ys):xs=ys:=by
 obtain⟨its,r,⟨o,n,e,_,_,d⟩,_⟩:=I.list h;obtain⟨its',r',⟨o',n',e',_,_,d'⟩,_⟩:=I.list h';rw[e] at e';cases e'
 rw[d] at d';injection d' with d1 _
 have:its=its':=by simpa using congrArg axb d1
 subst this;exact r.inj r'
theorem Inv.Xj(I:Inv X pins σ H s)(h:bB X.K H a xs)(h':bB X.K H a ys):xs=ys:=by
 obtain⟨its,r,⟨o,e,_,n,d⟩,_⟩:=I.tuple h;obtain⟨its',r',⟨o',e',_,n',d'⟩,_⟩:=I.tuple h';rw[e] at e';cases e'
 rw[d] at d';injection d' with d1 _
 have:its=its':=by simpa using congrArg axb d1
 subst this;exact r.inj r'
end
abbrev Cx.wish(X:Cx)(E:Value->Shared->Prop):Cx:={X with xe:=E}
abbrev Cx.jV(X:Cx):Cx:=X.wish fun _ _=>False
theorem Cx.Ok.wish{X:Cx}(ok:X.Ok)(E:Value->Shared->Prop):(X.wish E).Ok:=
 ⟨ok.mod,ok.kind,ok.glob,ok.blt,ok.above,ok.inj,ok.has,ok.cab,ok.hd,ok.frames,ok.stk,ok.v8,ok.bs,ok.jE,ok.uB,ok.uC,ok.iZ,ok.kZ⟩
theorem Cx.Ok.lg{X:Cx}{E:Value->Shared->Prop}(ok:(X.wish E).Ok):X.Ok:=
 ⟨ok.mod,ok.kind,ok.glob,ok.blt,ok.above,ok.inj,ok.has,ok.cab,ok.hd,ok.frames,ok.stk,ok.v8,ok.bs,ok.jE,ok.uB,ok.uC,ok.iZ,ok.kZ⟩
section
variable{X:Cx}{pins:List (Addr×Obj)}{σ:St}{H:Hp}{s:Shared}{E:Value->Shared->Prop}
theorem Inv.wish(I:Inv X pins σ H s)(E:Value->Shared->Prop):Inv (X.wish E) pins σ H s:=⟨I.ok.wish E,I.os,I.bare,I.base,I.loc,I.cell,I.free,I.jF,I.pin,I.hok,I.len⟩
theorem Inv.lg(I:Inv (X.wish E) pins σ H s):Inv X pins σ H s:=⟨I.ok.lg,I.os,I.bare,I.base,I.loc,I.cell,I.free,I.jF,I.pin,I.hok,I.len⟩
theorem SP.lg{D:Ends}{f:Flow}{s':Shared}(h:SP (X.wish E) pins D f s'):SP X pins D f s':=by
 cases f with
 |next=>obtain⟨σ',H',I,q⟩:=h;exact⟨σ',H',I.lg,q⟩
 |brk=>obtain⟨σ',H',I,q⟩:=h;exact⟨σ',H',I.lg,q⟩
 |cont=>obtain⟨σ',H',I,q⟩:=h;exact⟨σ',H',I.lg,q⟩
 |ret u=>obtain⟨v,σ',H',I,r,q⟩:=h;exact⟨v,σ',H',I.lg,r,q⟩
theorem PE.jV{e:Expr}{t:TE}(h:PE X.jV e t):PE X e t:=fun pins s σ H Q I hw=>
 wpAny_mono (h pins s σ H Q (I.wish _) hw) (fun _ _ ⟨v,H',I',r,q⟩=>⟨v,H',I'.lg,r,q⟩) fun _ _ z=>False.elim z
theorem PT.jV{e:Expr}{t:TT}(h:PT X.jV e t):PT X e t:=fun pins s σ H Q I hw=>
 wpAny_mono (h pins s σ H Q (I.wish _) hw) (fun _ _ ⟨H',I',q⟩=>⟨H',I'.lg,q⟩) fun _ _ z=>False.elim z
theorem iB.jV{st:List Stmt}{t:TS}(h:iB X.jV st t):iB X st t:=fun pins s σ H D I hw=>
 wpAny_mono (h pins s σ H D (I.wish _) hw) (fun _ _ q=>q.lg) fun _ _ z=>False.elim z
end
section
variable{X:Cx}{st:Stmt}{rest:List Stmt}{t u:TS}{e:Expr}{te:TE}{pos:Pos}
def Xk:TS:=fun D σ H=>D.nx σ H
def Xl(t u:TS):TS:=fun D σ H=>t {D with nx:=u D} σ H
theorem dm:iB X [] Xk:=fun _ _ σ H _ I h=>wpAny_execs_nil ⟨σ,H,I,h⟩
theorem aD(h1:PS X st t)(h2:iB X rest u):iB X (st::rest) (Xl t u):=by
 intro pins s σ H D I h;refine wpAny_execs_cons (aO (h1 pins s σ H {D with nx:=u D} I h) fun f s1 q=>?_);cases f with
 |next=>
  obtain⟨σ',H',I',q⟩:=q;exact h2 pins s1 σ' H' D I' q
 |ret v=>exact q
 |brk=>exact q
 |cont=>exact q
theorem aH(h1:PS X st t):iB X [st] t:=by
 intro pins s σ H D I h;refine wpAny_execs_cons (aO (h1 pins s σ H D I h) fun f s1 q=>?_);cases f with
 |next=>exact wpAny_execs_nil q
 |ret v=>exact q
 |brk=>exact q
 |cont=>exact q
def Xm:TS:=fun D σ H=>D.ct σ H
theorem Xn:PS X (.Continue pos) Xm:=fun _ _ σ H _ I h=>wpAny_Continue ⟨σ,H,I,h⟩
theorem Inv.quiet{pins:List (Addr×Obj)}{σ:St}{H:Hp}{s:Shared}(I:Inv X pins σ H s):interactive X.env=false:=by simp[interactive,I.ok.kind]
def Xo(te:TE):TS:=fun D σ H=>te σ H fun _ H1=>D.nx σ H1
theorem dY(he:PE X e te)(hs:swapsWith e none pos.line X.env=pure false:=by rfl):PS X (.Expr e pos) (Xo te):=by
 intro pins s σ H D I h;exact wpAny_Expr_any (aO (he pins s σ H _ I h) fun v s1 ⟨x,H1,I1,r1,q1⟩=>⟨σ,H1,I1,q1⟩) I.quiet hs
def Xp(te:TE):TS:=fun D σ H=>te σ H D.rt
theorem bz(he:PE X e te):PS X (.Return (some e) pos) (Xp te):=by
 intro pins s σ H D I h;exact wpAny_Return_some (aO (he pins s σ H _ I h) fun v s1 ⟨x,H1,I1,r1,q1⟩=>⟨x,σ,H1,I1,r1,q1⟩)
def Xq(c:TT)(t u:TS):TS:=fun D σ H=>c σ H fun b H1=>if b=true then t D σ H1 else u D σ H1
theorem cZ{c:Expr}{a b:List Stmt}{tc:TT}(hc:PT X c tc)(ha:iB X a t)(hb:iB X b u):PS X (.If c a b pos) (Xq tc t u):=by
 intro pins s σ H D I h;refine wpAny_If (aO (hc pins s σ H _ I h) fun d s1 ⟨H1,I1,q1⟩=>?_);cases d with
 |true=>exact ha pins s1 σ H1 D I1 q1
 |false=>exact hb pins s1 σ H1 D I1 q1
def Xr:TS:=fun _ _ _=>False
theorem MP:PS X st Xr:=fun _ _ _ _ _ _ h=>h.elim
end
abbrev TG:=V->St->Hp->(St->Hp->Prop)->Prop
abbrev su:=List V->St->Hp->(St->Hp->Prop)->Prop
def PG(X:Cx)(target:Expr)(t:TG):Prop:=
 ∀(pins:List (Addr×Obj))(s:Shared)(σ:St)(H:Hp)(v:V)(u:Value)(Q:St->Hp->Prop),Inv X pins σ H s->RelV v u->t v σ H Q->
  wpAny (model X.prog X.w) X.A (assign target X.env u) (fun _ s'=>∃σ' H',Inv X pins σ' H' s'/\Q σ' H') X.xe s
def yP(X:Cx)(ts:List Expr)(t:su):Prop:=
 ∀(pins:List (Addr×Obj))(s:Shared)(σ:St)(H:Hp)(vs:List V)(us:List Value)(Q:St->Hp->Prop),Inv X pins σ H s->Vals vs us->t vs σ H Q->
  wpAny (model X.prog X.w) X.A (assignInOrder ((assignEach ts X.env).map (·.2)) us) (fun _ s'=>∃σ' H',Inv X pins σ' H' s'/\Q σ' H') X.xe s
abbrev wj:=V->V->V->Hp->(Hp->Prop)->Prop
def wu(X:Cx)(t:wj):Prop:=
 ∀(pins:List (Addr×Obj))(s:Shared)(σ:St)(H:Hp)(o i v:V)(ov iv u:Value)(Q:Hp->Prop),Inv X pins σ H s->RelV o ov->RelV i iv->RelV v u->t o i v H Q->
  wpAny (model X.prog X.w) X.A (setItem ov iv u) (fun _ s'=>∃H',Inv X pins σ H' s'/\Q H') X.xe s
abbrev uF:=V->V->Hp->VK->Prop
def DN(X:Cx)(op:Operator)(t:uF):Prop:=
 ∀(pins:List (Addr×Obj))(s:Shared)(σ:St)(H:Hp)(x y:V)(v u:Value)(Q:VK),Inv X pins σ H s->RelV x v->RelV y u->t x y H Q->
  wpAny (model X.prog X.w) X.A (inplaceOp op v u) (EP X pins σ Q) X.xe s
section
variable{X:Cx}{pos:Pos}
def jW(i:Nat):TG:=fun v σ H Q=>Q (σ.set i (some v)) H
theorem dF{i:Nat}{x:Str}(hN:X.N.Nodup)(hi:X.N[i]?=some x)(hx:v7 X.env.scope x)(hf:X.fn x=true\/X.env.scope.names.lookup x=some .local:=by first|exact .inl rfl|exact .inr rfl|assumption):PG X (.Name x pos) (jW i):=by
 intro pins s σ H v u Q I r h;exact wpAny_assign_Name (Dy I hN hi hx r (fun s' I'=>⟨_,H,I',h⟩) hf)
def yQ:su:=fun vs σ H Q=>vs=[]/\Q σ H
def sE(t:TG)(u:su):su:=fun vs σ H Q=>∃v r,vs=v::r/\t v σ H fun σ' H'=>u r σ' H' Q
theorem ww:yP X [] yQ:=by
 intro pins s σ H vs us Q I r h;obtain⟨e,h⟩:=h;subst e;cases r;exact assignInOrder_nil ⟨σ,H,I,h⟩
theorem mZ{e:Expr}{es:List Expr}{t:TG}{u:su}(h1:PG X e t)(h2:yP X es u)
  (hs:(assignEach (e::es) X.env).map (·.2)=assign e X.env::(assignEach es X.env).map (·.2):=by rfl):yP X (e::es) (sE t u):=by
 intro pins s σ H vs us Q I r h;obtain⟨v,vr,e1,h⟩:=h;subst e1;cases r with
 |cons r rr=>
  rw[hs];refine assignInOrder_cons (aO (h1 pins s σ H _ _ _ I r h) fun _ s1 ⟨σ1,H1,I1,q1⟩=>?_);exact h2 pins s1 σ1 H1 _ _ Q I1 rr q1
def yR(K:atQ)(n:Nat)(t:su):TG:=fun v σ H Q=>∃a xs,v=.ref a/\bB K H a xs/\xs.length=n/\t xs σ H Q
theorem wy{es:List Expr}{k:Nat}{t:su}{n:Nat}(hc:X.calm=true)(h:yP X es t)
  (hn:(assignEach es X.env).length=n:=by rfl) (hst:(assignEach es X.env).findIdx? (·.1)=none:=by rfl):PG X (.Tuple es k pos) (yR X.K n t):=by
 intro pins s σ H v u Q I r hw;obtain⟨a,xs,e1,hq,hl,hw⟩:=hw;subst e1;cases r;obtain⟨its,rv,ht,hz⟩:=I.tuple hq;refine assign_Tuple_tuple (I.ok.hd hc) ht (by simp[hn,<-hl,rv.length]) hst fun h' hx=>?_
 have I1:Inv X pins σ H {s with heap:=h'}:=I.kept (t':=s.toks) fun b o e=>hx b o (aun (aua e)) e
 exact h pins _ σ H xs _ Q I1 (by simpa using rv) hw
def Xu(to ti:TE)(t:wj):TG:=fun v σ H Q=>to σ H fun o H1=>ti σ H1 fun i H2=>t o i v H2 fun H3=>Q σ H3
theorem wz{o i:Expr}{to ti:TE}{t:wj}(ho:PE X o to)(hi:PE X i ti)(hs:wu X t)
  (ha:∀v,assign (.Subscript o i pos) X.env v=(do
   let ov<-holding [v] (eval o X.env)
   let iv<-holding [v,ov] (eval i X.env)
   standAt pos
   holding [v,ov,iv] (setItem ov iv v)
   release [v,ov,iv] []):=by intro _;rfl):PG X (.Subscript o i pos) (Xu to ti t):=by
 intro pins s σ H v u Q I r h;rw[ha];refine wpAny_bind (wpAny_holding (aO (ho pins s σ H _ I h) fun ov s1 ⟨x,H1,I1,r1,q1⟩=>?_));refine wpAny_bind (wpAny_holding (aO (hi pins s1 σ H1 _ I1 q1) fun iv s2 ⟨y,H2,I2,r2,q2⟩=>?_));refine wpAny_bind (wpAny_standAt (wpAny_bind (wpAny_holding (aO (hs pins s2 σ H2 x y v ov iv u _ I2 r1 r2 r q2) fun _ s3 ⟨H3,I3,q3⟩=>?_))));exact wpAny_release ⟨σ,H3,I3,q3⟩
def DQ(te:TE)(g:TG):TS:=fun D σ H=>te σ H fun x H1=>g x σ H1 D.nx
theorem wA{tg e:Expr}{te:TE}{g:TG}(he:PE X e te)(hg:PG X tg g)(hs:swapsWithSole [tg] e pos.line X.env=pure false:=by rfl)(hw:swappedStores [tg] e X.env=pure none:=by rfl)
  (h1:(assignEach [tg] X.env).map (·.2)=[assign tg X.env]:=by rfl):PS X (.Assign [tg] e pos) (DQ te g):=by
 intro pins s σ H D I h;refine wpAny_Assign_stores (aO (he pins s σ H _ I h) fun v s1 ⟨x,H1,I1,r1,q1⟩=>?_) hs hw;rw[h1];exact aO (hg pins s1 σ H1 x v _ I1 r1 q1) fun _ s2 q=>q
theorem bf{i:Nat}{x:Str}{e:Expr}{te:TE}{pos':Pos}(hN:X.N.Nodup)(hi:X.N[i]?=some x)(hx:v7 X.env.scope x)(he:PE X e te)(hs:swapsWith e (some (.Name x pos')) pos.line X.env=pure false:=by rfl)(hf:X.fn x=true\/X.env.scope.names.lookup x=some .local:=by first|exact .inl rfl|exact .inr rfl|assumption):
  PS X (.Assign [.Name x pos'] e pos) (DQ te (jW i)):=by
 intro pins s σ H D I h;refine wpAny_Assign_Name (aO (he pins s σ H _ I h) fun v s1 ⟨y,H1,I1,r1,q1⟩=>?_) hs;exact Dy I1 hN hi hx r1 (fun s2 I2=>⟨_,H1,I2,q1⟩) hf
def Xv(i:Nat)(te:TE)(ti:uF):TS:=fun D σ H=>∃x,σ[i]?=some (some x)/\te σ H fun y H1=>ti x y H1 fun z H2=>D.nx (σ.set i (some z)) H2
theorem MT{i:Nat}{x:Str}{e:Expr}{te:TE}{op:Operator}{ti:uF}{pos':Pos}(hN:X.N.Nodup)(hi:X.N[i]?=some x)(hx:v7 X.env.scope x)(he:PE X e te)(ho:DN X op ti)(hf:X.fn x=true\/X.env.scope.names.lookup x=some .local:=by first|exact .inl rfl|exact .inr rfl|assumption):
  PS X (.AugAssign (.Name x pos') op e pos) (Xv i te ti):=by
 intro pins s σ H D I h;obtain⟨v,e1,h⟩:=h;obtain⟨m,hn,hl⟩:=I.loc;have vis:qz X.env.scope x:=by rcases hx with k|k;exact .inl k;exact .inr (.inl k)
 obtain⟨u,r,l⟩:=hl i x v hi e1 vis;refine wpAny_AugAssign_Name ?_;have go:wpAny (model X.prog X.w) X.A (eval e X.env) (fun w s₂=>wpAny (model X.prog X.w) X.A (inplaceOp op u w) (fun r s₃=>wpAny (model X.prog X.w) X.A (storeName X.env x r) (fun _=>SP X pins D .next) X.xe s₃) X.xe s₂) X.xe s:=by
  refine aO (he pins s σ H _ I h) fun w s1 ⟨y,H1,I1,r1,q1⟩=>?_
  refine aO (ho pins s1 σ H1 v y u w _ I1 r r1 q1) fun z s2 ⟨zv,H2,I2,r2,q2⟩=>?_
  exact Dy I2 hN hi hx r2 (fun s3 I3=>⟨_,H2,I3,q2⟩) hf
 rcases l with⟨hk,hm⟩|⟨hk,c,hc,hcell⟩
 ·exact wpAny_loadName_local I.ok.kind hk hn hm go
 ·rcases hk with hk|hk
  ·exact wpAny_loadName_cell I.ok.kind hk hc hcell go
  ·rcases hx with k|k
   ·have:X.env.scope.names.lookup x=some .free:=hk;rw[k] at this;cases this
   ·have:X.env.scope.names.lookup x=some .free:=hk;rw[k] at this;cases this
def Xw(to ti te:TE)(yS:V->V->Hp->VK->Prop)(yU:uF)(yV:wj):TS:=fun D σ H=>to σ H fun o H1=>ti σ H1 fun i H2=>yS o i H2 fun x H3=>te σ H3 fun y H4=>yU x y H4 fun z H5=>yV o i z H5 fun H6=>D.nx σ H6
def M5(X:Cx)(t:V->V->Hp->VK->Prop):Prop:=
 ∀(pins:List (Addr×Obj))(s:Shared)(σ:St)(H:Hp)(o i:V)(ov iv:Value)(Q:VK),Inv X pins σ H s->RelV o ov->RelV i iv->t o i H Q->
  wpAny (model X.prog X.w) X.A (getItem ov iv) (EP X pins σ Q) X.xe s
theorem Xx{o i e:Expr}{to ti te:TE}{yS:V->V->Hp->VK->Prop}{yU:uF}{yV:wj}{op:Operator}{tpos:Pos}(ho:PE X o to)(hi:PE X i ti)(hg:M5 X yS)(he:PE X e te)(hp:DN X op yU)(hs:wu X yV)
  (ha:∀ov iv new,augStore i ov iv new=(do holding [new,ov,iv] (setItem ov iv new);release [new,ov,iv] [];pure .next):=by intros;rfl):PS X (.AugAssign (.Subscript o i tpos) op e pos) (Xw to ti te yS yU yV):=by
 intro pins s σ H D I h;refine wpAny_AugAssign_SubscriptAny (aO (ho pins s σ H _ I h) fun ov s1 ⟨x1,H1,I1,r1,q1⟩=>?_) ha;refine aO (hi pins s1 σ H1 _ I1 q1) fun iv s2 ⟨x2,H2,I2,r2,q2⟩=>?_
 refine aO (hg pins s2 σ H2 x1 x2 ov iv _ I2 r1 r2 q2) fun old s3 ⟨x3,H3,I3,r3,q3⟩=>?_
 refine aO (he pins s3 σ H3 _ I3 q3) fun v s4 ⟨x4,H4,I4,r4,q4⟩=>?_
 refine aO (hp pins s4 σ H4 x3 x4 old v _ I4 r3 r4 q4) fun new s5 ⟨x5,H5,I5,r5,q5⟩=>?_
 exact aO (hs pins s5 σ H5 x1 x2 x5 ov iv new _ I5 r1 r2 r5 q5) fun _ s6 ⟨H6,I6,q6⟩=>⟨σ,H6,I6,q6⟩
def Xy(f:Int->Int->Int):uF:=fun x y H Q=>∃i j,x=.int i/\y=.int j/\Q (.int (f i j)) H
theorem M6:DN X .Add (Xy fun i j=>i+j):=by
 intro pins s σ H x y v u Q I r1 r2 h;obtain⟨i,j,e1,e2,q⟩:=h;subst e1;subst e2
 obtain⟨t,rfl⟩:=r1;obtain⟨t',rfl⟩:=r2;exact iadd_int ⟨.int _,H,I.tok _,⟨_,rfl⟩,q⟩
def Xz(c:TT)(tb:TS):TS:=fun D σ H=>∃W:Nat->St->Hp->Prop,(∃m,W m σ H)/\∀m σ H,W m σ H->
 c σ H fun b H1=>if b=true then ∃N:St->Hp->Prop,(∀σ' H',N σ' H'->∃m',m'<m/\W m' σ' H')/\tb {D with nx:=N,ct:=N,bk:=D.nx} σ H1 else D.nx σ H1
theorem qF{c:Expr}{body:List Stmt}{tc:TT}{tb:TS}(hp:PassesOwn (model X.prog X.w) X.A X.env X.xe)(hc:PT X c tc)(hb:iB X body tb):PS X (.While c body [] pos) (Xz tc tb):=by
 intro pins s σ H D I h;obtain⟨W,⟨m0,w0⟩,turn⟩:=h;refine wpAny_While (codeAny_whileLoop (fun n s'=>∃σ' H',Inv X pins σ' H' s'/\W n σ' H') ?_ m0 ⟨σ,H,I,w0⟩);rintro n s1 ⟨σ1,H1,I1,w1⟩;refine wpAny_passesOwn hp (aO (hc pins s1 σ1 H1 _ I1 (turn n σ1 H1 w1)) fun b s2 ⟨H2,I2,q2⟩=>?_);cases b with
 |true=>
  obtain⟨N,hN,q2⟩:=q2;rw[if_pos rfl];refine wpAny_passesOwn hp (aO (hb pins s2 σ1 H2 _ I2 q2) fun f s3 q3=>?_);cases f with
  |next=>
   obtain⟨σ3,H3,I3,n3⟩:=q3;obtain⟨m',hm,w3⟩:=hN σ3 H3 n3;exact⟨m',hm,σ3,H3,I3,w3⟩
  |cont=>
   obtain⟨σ3,H3,I3,n3⟩:=q3;obtain⟨m',hm,w3⟩:=hN σ3 H3 n3;exact⟨m',hm,σ3,H3,I3,w3⟩
  |brk=>exact q3
  |ret v=>exact q3
 |false=>
  rw[if_neg auq];exact wpAny_execs_nil ⟨σ1,H2,I2,q2⟩
end
structure It where
 go:Nat->Hp->Prop
 lq:Nat->Hp->V->Hp->Prop
 stop:Nat->Hp->Prop
def jt(X:Cx)(pins:List (Addr×Obj))(H:Hp)(b:Addr):Prop:=
 H b=none/\b≠X.env.locals/\b∉X.fs/\(b∈X.ex\/X.s_0.heap.objs.size<=b)/\(∀x c,X.env.cells.lookup x=some c->c≠b)/\∀p∈X.pn++pins,p.1≠b
theorem Inv.sG{X:Cx}{pins:List (Addr×Obj)}{σ:St}{H H':Hp}{s:Shared}{b:Addr}(I:Inv X pins σ H s)(hb:s.heap.objs.size<=b)(hn:H' b=none):jt X pins H' b:=by
 refine⟨hn,avL (auG I.lt hb),I.WX hb,.inr (auC I.sz hb),fun x c e z=>?_,fun p hp z=>?_⟩
 ·obtain⟨v,q⟩:=I.cell x c e;exact absurd (auG q.lt (by rw[z];exact hb)) (au7 _)
 ·exact absurd (auG (aua (I.pin p hp).1) (by rw[z];exact hb)) (au7 _)
structure Turn(P:Program)(w:World)(K:atQ)(tg:Expr)(J:It)(fp:List Addr)(it:Addr)(tn:Nat->Heap->Prop):Prop where
 mem:it∈fp
 obj:∀i h,tn i h->∀b∈fp,∃o,h.get? b=some o/\∀v,o.data≠.cell v
 keep:∀i h h',tn i h->(∀b∈fp,∀o,h.get? b=some o->h'.get? b=some o)->tn i h'
 item:∀(X:Cx),X.prog=P->X.w=w->X.K=K->X.calm=true->∀(i:Nat)(pins:List (Addr×Obj))(s:Shared)(σ:St)(H:Hp)(E:Value->Shared->Prop),Inv X pins σ H s->(∀b∈fp,jt X pins H b)->tn i s.heap->J.go i H->
  wpAny (model P w) X.A (pyNext (.ref it)) (fun r s1=>∃u,r=some u/\
   wpAny (model P w) X.A (letOwnedTupleGo tg (.ref it) u) (fun _ s2=>∃x H',Inv X pins σ H' s2/\RelV x u/\J.lq i H x H'/\tn (i+1) s2.heap/\∀b∈fp,H' b=none) E s1) E s
 done:∀(X:Cx),X.prog=P->X.w=w->X.K=K->X.calm=true->∀(i:Nat)(pins:List (Addr×Obj))(s:Shared)(σ:St)(H:Hp)(E:Value->Shared->Prop),Inv X pins σ H s->(∀b∈fp,jt X pins H b)->tn i s.heap->J.stop i H->
  wpAny (model P w) X.A (pyNext (.ref it)) (fun r s1=>r=none/\Inv X pins σ H s1) E s
 self:∀(A:Around)(i:Nat)(s:Shared)(Q:Value->Shared->Prop)(E:Value->Shared->Prop),tn i s.heap->Q (.ref it) s->wpAny (model P w) A (pyIter (.ref it)) Q E s
abbrev TI:=St->Hp->(It->Hp->Prop)->Prop
def M7(X:Cx)(pins:List (Addr×Obj))(σ:St)(tg:Expr)(R:It->Hp->Prop)(itv:Value)(s2:Shared):Prop:=
 ∃(it:Addr)(fp:List Addr)(tn:Nat->Heap->Prop)(J:It)(H':Hp),itv=.ref it/\Inv X pins σ H' s2/\Turn X.prog X.w X.K tg J fp it tn/\tn 0 s2.heap/\(∀b∈fp,jt X pins H' b)/\R J H'
def PI(X:Cx)(tg iter:Expr)(wi:TI):Prop:=
 ∀(pins:List (Addr×Obj))(s:Shared)(σ:St)(H:Hp)(R:It->Hp->Prop),Inv X pins σ H s->wi σ H R->
  wpAny (model X.prog X.w) X.A (eval iter X.env) (fun v s1=>wpAny (model X.prog X.w) X.A (pyIter v) (M7 X pins σ tg R) X.xe s1) X.xe s
theorem DW{M:Model}{A:Around}{E:Value->Shared->Prop}{s:Shared}{tg:Expr}{it:Addr}{u:Value}{o:Obj}{n:String}{vs:Array Value}{Q:Unit->Shared->Prop}(ho:s.heap.get? it=some o)(hc:o.cls=.type n)(hd:o.data=.fields vs)
  (hn:["enumerate","zip","dict_itemiterator","dict_reverseitemiterator","odict_iterator","itertools.zip_longest","itertools.pairwise"].contains n=false) (hQ:Q () s):wpAny M A (letOwnedTupleGo tg (.ref it) u) Q E s:=by
 unfold letOwnedTupleGo;cases tg<;>first
  |exact wpAny_pure hQ
  |(cases u<;>first
    |exact wpAny_pure hQ
    |(refine wpAny_bind (wpAny_load ho ?_);rw[hc,hd];show wpAny M A (if(["enumerate","zip","dict_itemiterator","dict_reverseitemiterator","odict_iterator","itertools.zip_longest","itertools.pairwise"].contains n&&vs[0]? ==some (rawInt _))=true then _ else _) Q E s;rw[if_neg (by intro h;rw[hn,Bool.false_and] at h;cases h)];exact wpAny_pure hQ))
def qG(K:atQ)(a:Addr):It:=
 ⟨fun i H=>∃xs x,ak K H a xs/\xs[i]?=some x,fun i H x H'=>H'=H/\∀xs,ak K H a xs->xs[i]?=some x,fun i H=>∃xs,ak K H a xs/\xs.length<=i⟩
def wB(K:atQ)(a:Addr):It:=
 ⟨fun i H=>∃xs x,bB K H a xs/\xs[i]?=some x,fun i H x H'=>H'=H/\∀xs,bB K H a xs->xs[i]?=some x,fun i H=>∃xs,bB K H a xs/\xs.length<=i⟩
def m9(lo:Int)(n:Nat):It:=⟨fun i _=>i<n,fun i H x H'=>H'=H/\x=.int (lo+i),fun i _=>n<=i⟩
theorem XD{P:Program}{w:World}{K:atQ}{tg:Expr}(a it:Addr):Turn P w K tg (qG K a) [it] it (fun i h=>h.IsListIter it a i) where
 mem:=by simp
 obj:=fun i h st b hb=>by
  have e:b=it:=by simpa using hb
  subst e;obtain⟨o,e,c,d⟩:=st;exact⟨o,e,fun v z=>by rw[d] at z;cases z⟩
 keep:=fun i h h' st k=>st.at fun o e=>k it (by simp) o e
 item:=by
  intro X hP hw hK hc i pins s σ H E I hf st hg;subst hP hw hK;obtain⟨xs,x,hq,hx⟩:=hg;obtain⟨its,rv,p,hz⟩:=I.list hq;obtain⟨u,hu,ru⟩:=rv.get hx;obtain⟨f0,f1,f2,f3,f4,f5⟩:=hf it (by simp);refine wpAny_pyNext_list_item st p.isList (x:=u) (by simpa using hu) fun h' st' sb=>?_
  have I1:Inv X pins σ H {s with heap:=h'}:=I.turned (t':=s.toks) (fun b o hb e=>(sb.2 b hb).trans e) f0 f1 f3 f4 f5;obtain⟨o,e,c,d⟩:=id st';exact⟨u,rfl,DW (s:={s with heap:=h'}) e c d (by decide) ⟨x,H,I1,ru,⟨rfl,fun ys hy=>by rw[I.yO hy hq];exact hx⟩,st',fun b hb=>(hf b hb).1⟩⟩
 done:=by
  intro X hP hw hK hc i pins s σ H E I hf st hg;subst hP hw hK;obtain⟨xs,hq,hx⟩:=hg;obtain⟨its,rv,p,hz⟩:=I.list hq;obtain⟨f0,f1,f2,f3,f4,f5⟩:=hf it (by simp);have hl:=rv.length;exact wpAny_pyNext_list_end (I.ok.hd hc) st p.isList (by simp;omega) fun h' eb=>⟨rfl,I.turned (t':=s.toks) (fun b o hb e=>eb b o hb e) f0 f1 f3 f4 f5⟩
 self:=fun _ _ _ _ _ st h=>wpAny_pyIter_listiter st h
theorem XF{P:Program}{w:World}{K:atQ}{tg:Expr}(a it:Addr):Turn P w K tg (wB K a) [it] it (fun i h=>h.IsTupleIter it a i) where
 mem:=by simp
 obj:=fun i h st b hb=>by
  have e:b=it:=by simpa using hb
  subst e;obtain⟨o,e,c,d⟩:=st;exact⟨o,e,fun v z=>by rw[d] at z;cases z⟩
 keep:=fun i h h' st k=>st.at fun o e=>k it (by simp) o e
 item:=by
  intro X hP hw hK hc i pins s σ H E I hf st hg;subst hP hw hK;obtain⟨xs,x,hq,hx⟩:=hg;obtain⟨its,rv,p,hz⟩:=I.tuple hq;obtain⟨u,hu,ru⟩:=rv.get hx;obtain⟨f0,f1,f2,f3,f4,f5⟩:=hf it (by simp);refine wpAny_pyNext_tuple_item st (show s.heap.IsTuple a its.toArray from p) (x:=u) (by simpa using hu) fun h' st' sb=>?_
  have I1:Inv X pins σ H {s with heap:=h'}:=I.turned (t':=s.toks) (fun b o hb e=>(sb.2 b hb).trans e) f0 f1 f3 f4 f5;obtain⟨o,e,c,d⟩:=id st';exact⟨u,rfl,DW (s:={s with heap:=h'}) e c d (by decide) ⟨x,H,I1,ru,⟨rfl,fun ys hy=>by rw[I.Xj hy hq];exact hx⟩,st',fun b hb=>(hf b hb).1⟩⟩
 done:=by
  intro X hP hw hK hc i pins s σ H E I hf st hg;subst hP hw hK;obtain⟨xs,hq,hx⟩:=hg;obtain⟨its,rv,p,hz⟩:=I.tuple hq;obtain⟨f0,f1,f2,f3,f4,f5⟩:=hf it (by simp);have hl:=rv.length;exact wpAny_pyNext_tuple_end (I.ok.hd hc) st (show s.heap.IsTuple a its.toArray from p) (by simp;omega) fun h' eb=>⟨rfl,I.turned (t':=s.toks) (fun b o hb e=>eb b o hb e) f0 f1 f3 f4 f5⟩
 self:=fun _ _ _ _ _ st h=>wpAny_pyIter_tupleiter st h
theorem XH{P:Program}{w:World}{K:atQ}{tg:Expr}(it:Addr)(lo:Int)(n:Nat):Turn P w K tg (m9 lo n) [it] it (fun i h=>IsRangeIter h it (lo+(i:Nat)*1) ((n:Int) - (i:Nat)) 1) where
 mem:=by simp
 obj:=fun i h st b hb=>by
  have e:b=it:=by simpa using hb
  subst e;exact⟨_,st,fun v z=>by
   have z':Data.fields _=Data.cell v:=z;cases z'⟩
 keep:=fun i h h' st k=>k it (by simp) _ st
 item:=by
  intro X hP hw hK hc i pins s σ H E I hf st hg;subst hP hw hK;obtain⟨f0,f1,f2,f3,f4,f5⟩:=hf it (by simp);have W:=Walks.range (prog:=X.prog) (w:=X.w) (I.ok.hd hc) it lo 1 n;refine W.item i s _ _ hg st fun v h' tk hv st' kk=>?_
  obtain⟨t,rfl⟩:=hv;have I1:Inv X pins σ H {s with heap:=h',toks:=tk}:=I.turned (fun b o hb e=>kk b o (by simpa using hb) e) f0 f1 f3 f4 f5;refine⟨_,rfl,DW (s:={s with heap:=h',toks:=tk}) (n:="range_iterator") st' rfl rfl (by decide) ⟨.int (lo+i),H,I1,⟨t,?_⟩,⟨rfl,rfl⟩,st',fun b hb=>(hf b hb).1⟩⟩;rw[Int.mul_one]
 done:=by
  intro X hP hw hK hc i pins s σ H E I hf st hg;subst hP hw hK;obtain⟨f0,f1,f2,f3,f4,f5⟩:=hf it (by simp);exact wpAny_pyNext_range_end (I.ok.hd hc) st (by have:n<=i:=hg;omega) fun h' eb=>⟨rfl,I.turned (t':=s.toks) (fun b o hb e=>eb b o hb e) f0 f1 f3 f4 f5⟩
 self:=fun _ _ _ _ _ st h=>wpAny_pyIter_rangeiter st h
section
variable{X:Cx}{tg:Expr}
def DX(K:atQ)(tl:TE):TI:=fun σ H R=>tl σ H fun x H1=>∃a,x=.ref a/\(∃xs,ak K H1 a xs)/\R (qG K a) H1
def XJ(K:atQ)(tl:TE):TI:=fun σ H R=>tl σ H fun x H1=>∃a,x=.ref a/\(∃xs,bB K H1 a xs)/\R (wB K a) H1
theorem gW{l:Expr}{tl:TE}(hl:PE X l tl):PI X tg l (DX X.K tl):=by
 intro pins s σ H R I h;refine aO (hl pins s σ H _ I h) fun v s1 ⟨x,H1,I1,r1,q1⟩=>?_
 obtain⟨a,e,⟨xs,hq⟩,q⟩:=q1;subst e;cases r1;obtain⟨its,rv,p,hz⟩:=I1.list hq;refine wpAny_pyIter_list p.isList ?_;refine⟨s1.heap.objs.size,[s1.heap.objs.size],_,_,H1,rfl,I1.kept (t':=s1.toks) fun b o e=>auc _ e,XD a _,⟨_,auo _ rfl,rfl,rfl⟩,fun b hb=>?_,q⟩;have e:b=s1.heap.objs.size:=by simpa using hb
 subst e;exact I1.sG (atX _) (I1.hok.fresh (atX _))
theorem XN{l:Expr}{tl:TE}(hl:PE X l tl):PI X tg l (XJ X.K tl):=by
 intro pins s σ H R I h;refine aO (hl pins s σ H _ I h) fun v s1 ⟨x,H1,I1,r1,q1⟩=>?_
 obtain⟨a,e,⟨xs,hq⟩,q⟩:=q1;subst e;cases r1;obtain⟨its,rv,p,hz⟩:=I1.tuple hq;refine wpAny_pyIter_tuple (show s1.heap.IsTuple a its.toArray from p) ?_;refine⟨s1.heap.objs.size,[s1.heap.objs.size],_,_,H1,rfl,I1.kept (t':=s1.toks) fun b o e=>auc _ e,XF a _,⟨_,auo _ rfl,rfl,rfl⟩,fun b hb=>?_,q⟩;have e:b=s1.heap.objs.size:=by simpa using hb
 subst e;exact I1.sG (atX _) (I1.hok.fresh (atX _))
theorem M8{pins:List (Addr×Obj)}{σ:St}{H:Hp}{s:Shared}{R:It->Hp->Prop}{E:Value->Shared->Prop}{lo hi:Int}{t u v:Tok}{tk:Nat}(I:Inv X pins σ H s)(h1: -(2^62)<=lo)(h2:lo<2^62)(h3: -(2^62)<=hi)(h4:hi<2^62)
  (q:R (m9 lo (hi-lo).toNat) H):wpAny (model X.prog X.w) X.A (pyIter (.ref s.heap.objs.size)) (M7 X pins σ tg R) E {s with heap:=s.heap.push {cls:=.type "range",data:=.fields #[.int lo t,.int hi u,.int 1 v]},toks:=tk}:=by
 refine wpAny_pyIter_range (IsRange.new ..) (small_one h1 h2 h3 h4) ?_;have I1:Inv X pins σ H {s with heap:=s.heap.push {cls:=.type "range",data:=.fields #[.int lo t,.int hi u,.int 1 v]},toks:=tk}:=I.kept fun b o e=>auc _ e
 refine⟨(s.heap.push {cls:=.type "range",data:=.fields #[.int lo t,.int hi u,.int 1 v]}).objs.size,[(s.heap.push {cls:=.type "range",data:=.fields #[.int lo t,.int hi u,.int 1 v]}).objs.size],_,_,H,rfl,
  I1.kept (t':=tk) fun b o e=>auc _ e,XH _ lo (hi-lo).toNat,?_,fun b hb=>?_,q⟩
 ·have e1:lo+((0:Nat):Int)*1=lo:=by simp
  have e2:(((hi-lo).toNat:Nat):Int) - ((0:Nat):Int)=Builtin.Range.rangeSize lo hi 1:=by rw[rangeSize_one];split<;>omega
  show IsRangeIter _ _ (lo+((0:Nat):Int)*1) ((((hi-lo).toNat:Nat):Int) - ((0:Nat):Int)) 1;rw[e1,e2];exact auo _ rfl
 ·have e:b=(s.heap.push {cls:=.type "range",data:=.fields #[.int lo t,.int hi u,.int 1 v]}).objs.size:=by simpa using hb
  subst e;exact I1.sG (atX _) (I1.hok.fresh (atX _))
def XQ(ta:TA):TI:=fun σ H R=>ta σ H fun vs H1=>∃j:Int,vs=[.int j]/\ -(2^62)<=j/\j<2^62/\R (m9 0 j.toNat) H1
def XR(ta:TA):TI:=fun σ H R=>ta σ H fun vs H1=>∃i j:Int,vs=[.int i,.int j]/\(-(2^62)<=i/\i<2^62/\ -(2^62)<=j/\j<2^62)/\R (m9 i (j-i).toNat) H1
theorem DY{a:Expr}{ta:TA}{p pos:Pos}(hg:Gl X "range")(hm:X.mg "range"=none)(ha:PA X [a] ta)(hs:starEach [a] X.env=[(false,eval a X.env)]:=by rfl):PI X tg (.Call (.Name "range" p) [a] [] pos) (XQ ta):=by
 intro pins s σ H R I h;refine Call_ (oX I hg hm boot_range (avz (aO (ha pos pins s σ H _ I h) fun us s1 ⟨vs,H1,I1,r1,q1⟩=>?_) hs rfl));obtain⟨j,e,q1,q2,q⟩:=q1;subst e;cases r1 with
 |cons r rr=>
  cases rr;obtain⟨t,rfl⟩:=r;exact call_range_1 (M8 I1 (by omega) (by omega) q1 q2 (by simpa using q))
theorem XS{a b:Expr}{ta:TA}{p pos:Pos}(hg:Gl X "range")(hm:X.mg "range"=none)(ha:PA X [a,b] ta)(hs:starEach [a,b] X.env=[(false,eval a X.env),(false,eval b X.env)]:=by rfl)(hs2:starEach [b] X.env=[(false,eval b X.env)]:=by rfl):
  PI X tg (.Call (.Name "range" p) [a,b] [] pos) (XR ta):=by
 intro pins s σ H R I h;refine Call_ (oX I hg hm boot_range (avz (aO (ha pos pins s σ H _ I h) fun us s1 ⟨vs,H1,I1,r1,q1⟩=>?_) (by rw[hs,hs2]) (by rw[hs2];rfl)));obtain⟨i,j,e,⟨q1,q2,q3,q4⟩,q⟩:=q1;subst e;cases r1 with
 |cons r rr=>
  cases rr with
  |cons r' rr=>
   cases rr;obtain⟨t,rfl⟩:=r;obtain⟨t',rfl⟩:=r';exact call_range_2 (M8 I1 q1 q2 q3 q4 q)
def XX(wi:TI)(g:TG)(tb:TS):TS:=fun D σ H=>wi σ H fun J H1=>∃W:Nat->Nat->St->Hp->Prop,(∃m,W 0 m σ H1)/\∀i m σ H,W i m σ H->
 (J.stop i H/\D.nx σ H)\/(J.go i H/\∃N:St->Hp->Prop,(∀σ' H',N σ' H'->∃m',m'<m/\W (i+1) m' σ' H')/\∀x H',J.lq i H x H'->g x σ H' fun σ2 H2=>tb {D with nx:=N,ct:=N,bk:=D.nx} σ2 H2)
def wC(fp:List Addr)(h:Heap):List (Addr×Obj):=fp.filterMap fun b=>(h.get? b).map fun o=>(b,o)
theorem Ea{fp:List Addr}{h:Heap}{b:Addr}{o:Obj}(hb:b∈fp)(e:h.get? b=some o):(b,o)∈wC fp h:=av7.mpr ⟨b,hb,by rw[e];rfl⟩
theorem X3{fp:List Addr}{h:Heap}{p:Addr×Obj}(hp:p∈wC fp h):p.1∈fp/\h.get? p.1=some p.2:=by
 obtain⟨b,hb,e⟩:=av7.mp hp;cases q:h.get? b with
 |none=>rw[q] at e;cases e
 |some o=>
  rw[q] at e;have e':(b,o)=p:=aub e;subst e';exact⟨hb,q⟩
theorem Inv.pinned{pins:List (Addr×Obj)}{σ:St}{H:Hp}{s:Shared}{fp:List Addr}(I:Inv X pins σ H s)(hf:∀b∈fp,jt X pins H b)(ho:∀b∈fp,∃o,s.heap.get? b=some o/\∀v,o.data≠.cell v):Inv X (pins++wC fp s.heap) σ H s:=
 I.Mw fun p hp=>(aus.mp hp).elim (fun z=>I.pin p (avA _ z)) fun z=>by
  obtain⟨hb,e⟩:=X3 z;obtain⟨f0,f1,f2,_⟩:=hf p.1 hb;obtain⟨o,e',d⟩:=ho p.1 hb;rw[e] at e';cases e'
  exact⟨e,f0,f1,f2,d⟩
theorem Inv.yW{pins pl:List (Addr×Obj)}{σ:St}{H:Hp}{s:Shared}(I:Inv X (pins++pl) σ H s):Inv X pins σ H s:=I.Mw fun p hp=>I.pin p (avA _ (axT _ hp))
theorem ni{iter:Expr}{body:List Stmt}{wi:TI}{g:TG}{tb:TS}{pos:Pos}(hp:PassesOwn (model X.prog X.w) X.A X.env X.xe)(hc:X.calm=true)(hi:PI X tg iter wi)(hg:PG X tg g)(hb:iB X body tb)
  (hs:∀x,foldedSetIterable iter X.env x=pure x:=by intro _;rfl):PS X (.For tg iter body [] pos) (XX wi g tb):=by
 intro pins s σ H D I h;refine wpAny_For (aO (hi pins s σ H _ I h) fun v s1 h1=>aO h1 fun itv s2 h2=>?_) hs;obtain⟨it,fp,tn,J,H2,e,I2,T,st2,f2,W,⟨m0,w0⟩,turn⟩:=h2;subst e;have stat:∀{H':Hp},(∀b∈fp,H' b=none)->∀b∈fp,jt X pins H' b:=fun hn b hb=>⟨hn b hb,(f2 b hb).2⟩
 refine codeAny_forLoop_any (fun n s'=>∃i σ' H',Inv X pins σ' H' s'/\tn i s'.heap/\(∀b∈fp,H' b=none)/\W i n σ' H') ?_ m0 ⟨0,σ,H2,I2,st2,fun b hb=>(f2 b hb).1,w0⟩;rintro n s3 ⟨i,σ3,H3,I3,st3,M9,w3⟩;rcases turn i n σ3 H3 w3 with⟨stop,qn⟩|⟨go,N,hN,step⟩
 ·refine wpAny_passesOwn hp (aO (T.done X rfl rfl rfl hc i pins s3 σ3 H3 X.xe I3 (stat M9) st3 stop) fun r s4 ⟨hr,I4⟩=>?_);subst hr;exact wpAny_execs_nil ⟨σ3,H3,I4,qn⟩
 ·refine wpAny_passesOwn hp (aO (T.item X rfl rfl rfl hc i pins s3 σ3 H3 X.xe I3 (stat M9) st3 go) fun r s4 ⟨u,hr,h4⟩=>?_);subst hr;refine wpAny_passesOwn hp (aO h4 fun _ s5 ⟨x,H5,I5,r5,y5,st5,X4⟩=>?_);have X5:=I5.pinned (stat X4) (T.obj _ _ st5);refine wpAny_passesOwn hp (aO (hg _ s5 σ3 H5 x u _ X5 r5 (step x H5 y5)) fun _ s6 ⟨X6,H6,I6,q6⟩=>?_);refine wpAny_passesOwn hp (aO (hb _ s6 X6 H6 _ I6 q6) fun f s7 q7=>?_);have again:∀{lr:St}{H7:Hp},Inv X (pins++wC fp s5.heap) lr H7 s7->N lr H7->∃m,m<n/\∃i σ' H',Inv X pins σ' H' s7/\tn i s7.heap/\(∀b∈fp,H' b=none)/\W i m σ' H':=fun{lr H7} I7 n7=>by
   obtain⟨m',hm,w7⟩:=hN lr H7 n7;refine⟨m',hm,i+1,lr,H7,I7.yW,T.keep _ _ _ st5 fun b hb o e=>(I7.pin (b,o) (avA _ (avA _ (Ea hb e)))).1,fun b hb=>?_,w7⟩;obtain⟨o,e,d⟩:=T.obj _ _ st5 b hb;exact(I7.pin (b,o) (avA _ (avA _ (Ea hb e)))).2.1
  cases f with
  |next=>obtain⟨lr,H7,I7,n7⟩:=q7;exact again I7 n7
  |cont=>obtain⟨lr,H7,I7,n7⟩:=q7;exact again I7 n7
  |brk=>obtain⟨lr,H7,I7,q7⟩:=q7;exact⟨lr,H7,I7.yW,q7⟩
  |ret v=>obtain⟨x7,lr,H7,I7,r7,q7⟩:=q7;exact⟨x7,lr,H7,I7.yW,r7,q7⟩
end
theorem sJ{K:atQ}{a:Addr}{xs:List V}{g:TG}{tb:TS}{D:Ends}{σ:St}{H:Hp}(Pv:Nat->St->Hp->Prop)(h0:Pv 0 σ H)(hl:∀i σ H,i<=xs.length->Pv i σ H->ak K H a xs)
  (hs:∀i x σ H,xs[i]?=some x->Pv i σ H->g x σ H fun σ2 H2=>tb {D with nx:=Pv (i+1),ct:=Pv (i+1),bk:=D.nx} σ2 H2) (hd:∀σ H,Pv xs.length σ H->D.nx σ H):
  ∃W:Nat->Nat->St->Hp->Prop,(∃m,W 0 m σ H)/\∀i m σ H,W i m σ H->
   ((qG K a).stop i H/\D.nx σ H)\/((qG K a).go i H/\∃N:St->Hp->Prop,(∀σ' H',N σ' H'->∃m',m'<m/\W (i+1) m' σ' H')/\∀x H',(qG K a).lq i H x H'->g x σ H' fun σ2 H2=>tb {D with nx:=N,ct:=N,bk:=D.nx} σ2 H2):=by
 refine⟨fun i m σ H=>m=xs.length-i/\i<=xs.length/\Pv i σ H,⟨xs.length,by simp,aul _,h0⟩,?_⟩;rintro i m σ H ⟨rfl,hi,p⟩;have q:=hl i σ H hi p;by_cases hlt:i<xs.length
 ·refine .inr ⟨⟨xs,xs[i],q,by simp[hlt]⟩,Pv (i+1),fun σ' H' p'=>⟨xs.length- (i+1),by omega,rfl,hlt,p'⟩,fun x H' y=>?_⟩;obtain⟨e,y⟩:=y;subst e;exact hs i x σ _ (y xs q) p
 ·have e:i=xs.length:=by omega
  subst e;exact .inl ⟨⟨xs,q,atX _⟩,hd σ H p⟩
theorem X7{lo:Int}{n:Nat}{g:TG}{tb:TS}{D:Ends}{σ:St}{H:Hp}(Pv:Nat->St->Hp->Prop)(h0:Pv 0 σ H)
  (hs:∀i σ H,i<n->Pv i σ H->g (.int (lo+i)) σ H fun σ2 H2=>tb {D with nx:=Pv (i+1),ct:=Pv (i+1),bk:=D.nx} σ2 H2) (hd:∀σ H,Pv n σ H->D.nx σ H):
  ∃W:Nat->Nat->St->Hp->Prop,(∃m,W 0 m σ H)/\∀i m σ H,W i m σ H->
   ((m9 lo n).stop i H/\D.nx σ H)\/((m9 lo n).go i H/\∃N:St->Hp->Prop,(∀σ' H',N σ' H'->∃m',m'<m/\W (i+1) m' σ' H')/\∀x H',(m9 lo n).lq i H x H'->g x σ H' fun σ2 H2=>tb {D with nx:=N,ct:=N,bk:=D.nx} σ2 H2):=by
 refine⟨fun i m σ H=>m=n-i/\i<=n/\Pv i σ H,⟨n,by simp,aul _,h0⟩,?_⟩;rintro i m σ H ⟨rfl,hi,p⟩;by_cases hlt:i<n
 ·refine .inr ⟨hlt,Pv (i+1),fun σ' H' p'=>⟨n- (i+1),by omega,rfl,hlt,p'⟩,fun x H' y=>?_⟩;obtain⟨e,y⟩:=y;subst e y;exact hs i σ _ hlt p
 ·have e:i=n:=by omega
  subst e;exact .inl ⟨atX _,hd σ H p⟩
abbrev R2:=V->V->Hp->VK->Prop
def fu(X:Cx)(f:Value->Value->Sem Value)(r:R2):Prop:=
 ∀(pins:List (Addr×Obj))(s:Shared)(σ:St)(H:Hp)(x y:V)(v u:Value)(Q:VK),Inv X pins σ H s->RelV x v->RelV y u->r x y H Q->
  wpAny (model X.prog X.w) X.A (f v u) (EP X pins σ Q) X.xe s
def Eb(X:Cx)(f:Value->Sem Value)(r:V->Hp->VK->Prop):Prop:=
 ∀(pins:List (Addr×Obj))(s:Shared)(σ:St)(H:Hp)(x:V)(v:Value)(Q:VK),Inv X pins σ H s->RelV x v->r x H Q->
  wpAny (model X.prog X.w) X.A (f v) (EP X pins σ Q) X.xe s
def gO(X:Cx)(f:Value)(r:List V->Hp->VK->Prop):Prop:=
 ∀(pins:List (Addr×Obj))(s:Shared)(σ:St)(H:Hp)(xs:List V)(us:List Value)(Q:VK),Inv X pins σ H s->Vals xs us->r xs H Q->
  wpAny (model X.prog X.w) X.A (call f us) (EP X pins σ Q) X.xe s
def X8(X:Cx)(r:V->Hp->(Bool->Hp->Prop)->Prop):Prop:=
 ∀(pins:List (Addr×Obj))(s:Shared)(σ:St)(H:Hp)(x:V)(v:Value)(Q:Bool->Hp->Prop),Inv X pins σ H s->RelV x v->r x H Q->
  wpAny (model X.prog X.w) X.A (truthy v) (TP X pins σ Q) X.xe s
def lu(r:R2)(ta tb:TE):TE:=fun σ H Q=>ta σ H fun x H1=>tb σ H1 fun y H2=>r x y H2 Q
def Yb(r:V->Hp->VK->Prop)(ta:TE):TE:=fun σ H Q=>ta σ H fun x H1=>r x H1 Q
def rI(C:Int->Int->Prop)(g:Int->Int->V):R2:=fun x y H Q=>∃i j,x=.int i/\y=.int j/\C i j/\Q (g i j) H
def qH(g:Int->Int->V):R2:=fun x y H Q=>∃i j,x=.int i/\y=.int j/\Q (g i j) H
def rU(g:Int->V):V->Hp->VK->Prop:=fun x H Q=>∃i,x=.int i/\Q (g i) H
section
variable{X:Cx}{a b c:Expr}{ta tb tc:TE}{pos:Pos}
theorem Ec(ha:PE X a ta)(hb:PE X b tb){pins:List (Addr×Obj)}{s:Shared}{σ:St}{H:Hp}{R:V->V->Hp->Prop}(I:Inv X pins σ H s)
  (h:ta σ H fun x H1=>tb σ H1 fun y H2=>R x y H2) {Q:Value->Shared->Prop} {f:Value->Value->Sem Value}
  (hf:∀v u s2 x y H2,Inv X pins σ H2 s2->RelV x v->RelV y u->R x y H2->wpAny (model X.prog X.w) X.A (f v u) Q X.xe s2):
  wpAny (model X.prog X.w) X.A (eval a X.env) (fun v s₁=>wpAny (model X.prog X.w) X.A (eval b X.env) (fun u s₂=>wpAny (model X.prog X.w) X.A (f v u) Q X.xe s₂) X.xe s₁) X.xe s:=by
 refine aO (ha pins s σ H _ I h) fun v s1 ⟨x,H1,I1,r1,q1⟩=>?_
 refine aO (hb pins s1 σ H1 _ I1 q1) fun u s2 ⟨y,H2,I2,r2,q2⟩=>?_
 exact hf v u s2 x y H2 I2 r1 r2 q2
theorem iC{op:Operator}{r:R2}(ho:fu X (binaryOp op) r)(ha:PE X a ta)(hb:PE X b tb):PE X (.BinOp a op b pos) (lu r ta tb):=by
 intro pins s σ H Q I h;exact wpAny_BinOp (Ec ha hb I h fun v u s2 x y H2 I2 rx ry q=>ho pins s2 σ H2 x y v u Q I2 rx ry q)
theorem uG{op:UnaryOp}{r:V->Hp->VK->Prop}(ho:Eb X (unaryOp op) r)(ha:PE X a ta):PE X (.UnaryOp op a pos) (Yb r ta):=by
 intro pins s σ H Q I h;exact UnaryOp_ (aO (ha pins s σ H _ I h) fun v s1 ⟨x,H1,I1,r1,q1⟩=>ho pins s1 σ H1 x v Q I1 r1 q1)
theorem Nb{f:Value->Value->Sem Value}{C:Int->Int->Prop}{g:Int->Int->Int}
  (rule:∀(i j:Int)(t u:Tok)(s:Shared)(Q:Value->Shared->Prop)(E:Value->Shared->Prop),C i j->Q (.int (g i j) s.toks) {s with toks:=s.toks+1}->wpAny (model X.prog X.w) X.A (f (.int i t) (.int j u)) Q E s):
  fu X f (rI C fun i j=>.int (g i j)):=by
 intro pins s σ H x y v u Q I rx ry h;obtain⟨i,j,rfl,rfl,hc,q⟩:=h;obtain⟨t,rfl⟩:=rx;obtain⟨t',rfl⟩:=ry;exact rule i j t t' s _ _ hc ⟨.int (g i j),H,I.tok _,⟨_,rfl⟩,q⟩
theorem Ef{f:Value->Value->Sem Value}{g:Int->Int->Int}
  (rule:∀(i j:Int)(t u:Tok)(s:Shared)(Q:Value->Shared->Prop)(E:Value->Shared->Prop),Q (.int (g i j) s.toks) {s with toks:=s.toks+1}->wpAny (model X.prog X.w) X.A (f (.int i t) (.int j u)) Q E s):
  fu X f (qH fun i j=>.int (g i j)):=by
 intro pins s σ H x y v u Q I rx ry h;obtain⟨i,j,rfl,rfl,q⟩:=h;obtain⟨t,rfl⟩:=rx;obtain⟨t',rfl⟩:=ry;exact rule i j t t' s _ _ ⟨.int (g i j),H,I.tok _,⟨_,rfl⟩,q⟩
theorem Eg{f:Value->Value->Sem Value}{g:Int->Int->Bool}
  (rule:∀(i j:Int)(t u:Tok)(s:Shared)(Q:Value->Shared->Prop)(E:Value->Shared->Prop),Q (.bool (g i j)) s->wpAny (model X.prog X.w) X.A (f (.int i t) (.int j u)) Q E s):
  fu X f (qH fun i j=>.bl (g i j)):=by
 intro pins s σ H x y v u Q I rx ry h;obtain⟨i,j,rfl,rfl,q⟩:=h;obtain⟨t,rfl⟩:=rx;obtain⟨t',rfl⟩:=ry;exact rule i j t t' s _ _ ⟨.bl (g i j),H,I,rfl,q⟩
def Eh(i j:Int):Prop:=(-(2^64)<i/\i<2^64)\/(-(2^64)<j/\j<2^64)
theorem Eh.ok{i j:Int}(h:Eh i j):IntMulOk i j:=by
 rcases h with⟨h1,h2⟩|⟨h1,h2⟩
 ·exact .of_left (intBits_le_64 h1 h2)
 ·exact .of_right (intBits_le_64 h1 h2)
theorem Yc(k:Nat):(0:Int)<=2^k:=by
 rw[two_pow_cast];exact Int.natCast_nonneg _
theorem Yd:fu X (binaryOp .Add) (qH fun i j=>.int (i+j)):=Ef fun _ _ _ _ _ _ _ q=>add_int q
theorem Nf:fu X (binaryOp .Sub) (qH fun i j=>.int (i-j)):=Ef fun _ _ _ _ _ _ _ q=>sub_int q
theorem Ng:fu X (binaryOp .RShift) (rI (fun _ j=>0<=j) fun i j=>.int (i/2^j.toNat)):=Nb fun i j _ _ _ _ _ hc q=>
 rshift_int hc (by rw[Int.fdiv_eq_ediv_of_nonneg i (Yc _)];exact q)
theorem Ye:fu X (binaryOp .BitAnd) (qH fun i j=>.int (Builtin.bitAnd i j)):=Ef fun _ _ _ _ _ _ _ q=>and_int q
theorem Yg:fu X (inplaceOp .Mult) (rI Eh fun i j=>.int (i*j)):=Nb fun _ _ _ _ _ _ _ hc q=>imul_int q hc.ok
theorem Yh{f:Value->Sem Value}{g:Int->Int}
  (rule:∀(i:Int)(t:Tok)(s:Shared)(Q:Value->Shared->Prop)(E:Value->Shared->Prop),Q (.int (g i) s.toks) {s with toks:=s.toks+1}->wpAny (model X.prog X.w) X.A (f (.int i t)) Q E s):
  Eb X f (rU fun i=>.int (g i)):=by
 intro pins s σ H x v Q I rx h;obtain⟨i,rfl,q⟩:=h;obtain⟨t,rfl⟩:=rx;exact rule i t s _ _ ⟨.int (g i),H,I.tok _,⟨_,rfl⟩,q⟩
theorem uH:Eb X (unaryOp .USub) (rU fun i=>.int (-i)):=Yh fun _ _ _ _ _ q=>neg_int q
def Ei:V->V->Bool
 |.non,.non=>true|.non,.int _=>true|.int _,.non=>true|.non,.bl _=>true|.bl _,.non=>true|.non,.str _=>true|.str _,.non=>true
 |.int _,.int _=>true|.bl _,.bl _=>true|.str _,.str _=>true|.gM _,.gM _=>true
 |.int _,.str _=>true|.str _,.int _=>true|.bl _,.str _=>true|.str _,.bl _=>true
 |_,_=>false
def Ej:R2:=fun x y H Q=>Ei x y=true/\Q (.bl (decide (x=y))) H
def Yi:R2:=fun x y H Q=>Ei x y=true/\Q (.bl (!decide (x=y))) H
theorem Nh{i j:Int}:decide (V.int i=V.int j)=(i==j):=by
 rw[auz];simp
theorem Ni{i j:Bool}:decide (V.bl i=V.bl j)=(i==j):=by
 rw[auz];simp
theorem Nj{i j:Str}:decide (V.str i=V.str j)=(i==j):=by
 rw[auz];simp
theorem Nk{i j:Array UInt8}:decide (V.gM i=V.gM j)=(i.toList==j.toList):=by
 rw[auz];cases i;cases j;simp
theorem dM{pins:List (Addr×Obj)}{σ:St}{H:Hp}{s:Shared}{Q:VK}{k k':Bool}(I:Inv X pins σ H s)(q:Q (.bl k) H)(e:k=k'):EP X pins σ Q (.bool k') s:=by
 subst e;exact⟨.bl k,H,I,rfl,q⟩
theorem dR:fu X (compareOp .Eq) Ej:=by
 intro pins s σ H x y v u Q I rx ry h;obtain⟨hs,q⟩:=h;cases x with
 |non=>
  cases rx;cases y with
  |non=>cases ry;exact PySem.EqNone.eq_none_none (dM I q (by simp))
  |bl j=>cases ry;exact PySem.EqNone.eq_none_bool (dM I q (by simp))
  |int j=>obtain⟨t',rfl⟩:=ry;exact PySem.EqNone.eq_none_int (dM I q (by simp))
  |str j=>obtain⟨t',rfl⟩:=ry;exact PySem.EqNone.eq_none_str (dM I q (by simp))
  |_=>exact absurd (show false=true from hs) auq
 |bl i=>
  cases rx;cases y with
  |non=>cases ry;exact PySem.EqNone.eq_bool_none (dM I q (by simp))
  |bl j=>cases ry;exact eq_bool (dM I q Ni)
  |str j=>obtain⟨t',rfl⟩:=ry;exact PySem.EqMixed.eq_bool_str (dM I q (by simp))
  |_=>exact absurd (show false=true from hs) auq
 |int i=>
  obtain⟨t,rfl⟩:=rx;cases y with
  |non=>cases ry;exact PySem.EqNone.eq_int_none (dM I q (by simp))
  |int j=>obtain⟨t',rfl⟩:=ry;exact eq_int (dM I q Nh)
  |str j=>obtain⟨t',rfl⟩:=ry;exact PySem.EqMixed.eq_int_str (dM I q (by simp))
  |_=>exact absurd (show false=true from hs) auq
 |str i=>
  obtain⟨t,rfl⟩:=rx;cases y with
  |non=>cases ry;exact PySem.EqNone.eq_str_none (dM I q (by simp))
  |bl j=>cases ry;exact PySem.EqMixed.eq_str_bool (dM I q (by simp))
  |int j=>obtain⟨t',rfl⟩:=ry;exact PySem.EqMixed.eq_str_int (dM I q (by simp))
  |str j=>obtain⟨t',rfl⟩:=ry;exact eq_str (dM I q Nj)
  |_=>exact absurd (show false=true from hs) auq
 |gM i=>
  obtain⟨t,rfl⟩:=rx;cases y with
  |gM j=>obtain⟨t',rfl⟩:=ry;exact PySem.W.eq_bytes (dM I q Nk)
  |_=>exact absurd (show false=true from hs) auq
 |_=>cases y<;>exact absurd (show false=true from hs) auq
theorem Ek:fu X (compareOp .NotEq) Yi:=by
 intro pins s σ H x y v u Q I rx ry h;obtain⟨hs,q⟩:=h;cases x with
 |non=>
  cases rx;cases y with
  |non=>cases ry;exact PySem.EqNone.ne_none_none (dM I q (by simp))
  |bl j=>cases ry;exact PySem.EqNone.ne_none_bool (dM I q (by simp))
  |int j=>obtain⟨t',rfl⟩:=ry;exact PySem.EqNone.ne_none_int (dM I q (by simp))
  |str j=>obtain⟨t',rfl⟩:=ry;exact PySem.EqNone.ne_none_str (dM I q (by simp))
  |_=>exact absurd (show false=true from hs) auq
 |bl i=>
  cases rx;cases y with
  |non=>cases ry;exact PySem.EqNone.ne_bool_none (dM I q (by simp))
  |bl j=>cases ry;exact ne_bool (dM I q (congrArg not Ni))
  |str j=>obtain⟨t',rfl⟩:=ry;exact PySem.EqMixed.ne_bool_str (dM I q (by simp))
  |_=>exact absurd (show false=true from hs) auq
 |int i=>
  obtain⟨t,rfl⟩:=rx;cases y with
  |non=>cases ry;exact PySem.EqNone.ne_int_none (dM I q (by simp))
  |int j=>obtain⟨t',rfl⟩:=ry;exact ne_int (dM I q (congrArg not Nh))
  |str j=>obtain⟨t',rfl⟩:=ry;exact PySem.EqMixed.ne_int_str (dM I q (by simp))
  |_=>exact absurd (show false=true from hs) auq
 |str i=>
  obtain⟨t,rfl⟩:=rx;cases y with
  |non=>cases ry;exact PySem.EqNone.ne_str_none (dM I q (by simp))
  |bl j=>cases ry;exact PySem.EqMixed.ne_str_bool (dM I q (by simp))
  |int j=>obtain⟨t',rfl⟩:=ry;exact PySem.EqMixed.ne_str_int (dM I q (by simp))
  |str j=>obtain⟨t',rfl⟩:=ry;exact ne_str (dM I q (congrArg not Nj))
  |_=>exact absurd (show false=true from hs) auq
 |gM i=>
  obtain⟨t,rfl⟩:=rx;cases y with
  |gM j=>obtain⟨t',rfl⟩:=ry;exact PySem.W.ne_bytes (dM I q (congrArg not Nk))
  |_=>exact absurd (show false=true from hs) auq
 |_=>cases y<;>exact absurd (show false=true from hs) auq
theorem uI:fu X (compareOp .Lt) (qH fun i j=>.bl (decide (i<j))):=Eg fun _ _ _ _ _ _ _ q=>lt_int q
theorem wD:fu X (compareOp .Gt) (qH fun i j=>.bl (decide (j<i))):=Eg fun _ _ _ _ _ _ _ q=>gt_int q
theorem wF:fu X (compareOp .GtE) (qH fun i j=>.bl (decide (j<=i))):=Eg fun _ _ _ _ _ _ _ q=>ge_int q
theorem fu.or{f:Value->Value->Sem Value}{r r':R2}(h:fu X f r)(h':fu X f r'):fu X f (fun x y H Q=>r x y H Q\/r' x y H Q):=by
 intro pins s σ H x y v u Q I rx ry q;rcases q with q|q
 ·exact h pins s σ H x y v u Q I rx ry q
 ·exact h' pins s σ H x y v u Q I rx ry q
theorem bY(b:Expr){op:CmpOp}(h:op≠.In:=by decide)(h2:op≠.NotIn:=by decide):behindInMarks op b=false:=by
 have e1:(op==CmpOp.In)=false:=by cases op<;>first|rfl|exact absurd rfl h
 have e2:(op==CmpOp.NotIn)=false:=by cases op<;>first|rfl|exact absurd rfl h2
 cases b<;>simp[behindInMarks,e1,e2]
theorem nj{op:CmpOp}{r:R2}(ho:fu X (compareOp op) r)(ha:PE X a ta)(hb:PE X b tb)(hm:behindInMarks op b=false):PE X (.Compare a [op] [b] pos) (lu r ta tb):=by
 intro pins s σ H Q I h;exact wpAny_Compare1 (Ec ha hb I h fun v u s2 x y H2 I2 rx ry q=>ho pins s2 σ H2 x y v u Q I2 rx ry q) hm
def Yj(t:TE):TT:=fun σ H Q=>t σ H fun x H'=>∃k,x=.bl k/\Q k H'
theorem cF{op:CmpOp}{r:R2}(ho:fu X (compareOp op) r)(ha:PE X a ta)(hb:PE X b tb)(hm:behindInMarks op b=false):PT X (.Compare a [op] [b] pos) (Yj (lu r ta tb)):=by
 intro pins s σ H Q I h;refine wpAny_isTrue_Compare1 (aO (ha pins s σ H _ I h) fun v s1 ⟨x,H1,I1,r1,q1⟩=>aO (hb pins s1 σ H1 _ I1 q1) fun u s2 ⟨y,H2,I2,r2,q2⟩=>
  aO (ho pins s2 σ H2 x y v u _ I2 r1 r2 q2) fun c s3 ⟨z,H3,I3,r3,k,e,q3⟩=>?_) hm
 subst e;cases r3;exact wpAny_truthy_bool ⟨H3,I3,q3⟩
def yX(K:atQ)(x:V)(H:Hp)(k:Bool):Prop:=
 match x with
 |.non=>k=false
 |.bl b=>k=b
 |.int i=>k=(i !=0)
 |.str y=>y.length<=sizeLine/\k=((y.length:Int)!=0)
 |.gM y=>y.size<=sizeLine/\k=((y.size:Int)!=0)
 |.ref p=>(∃xs,ak K H p xs/\k= !xs.isEmpty)\/(∃xs,bB K H p xs/\k= !xs.isEmpty)\/∃kvs,H p=some (.dK kvs)/\k= !kvs.isEmpty
 |_=>False
theorem Yk{κ:Type}{kvs:List (κ×V)}{vs:List (κ×Value)}(r:KV kvs vs):(!vs.isEmpty)= !kvs.isEmpty:=by
 cases r<;>rfl
theorem Nm{xs:List V}{its:List Value}(r:Vals xs its):(!its.toArray.isEmpty)= !xs.isEmpty:=by
 cases r<;>simp
theorem sO:(sizeLine:Nat)<2^63:=by rw[sizeLine_eq];decide
theorem Yl:X8 X (fun x H Q=>∃k,yX X.K x H k/\Q k H):=by
 intro pins s σ H x v Q I rx h;obtain⟨k,e,q⟩:=h;have hl:=sO;have hs:sizeLine=16777216:=sizeLine_eq;cases x with
 |non=>
  cases rx;have e':k=false:=e;subst e';exact truthy_none ⟨H,I,q⟩
 |bl b=>
  cases rx;have e':k=b:=e;subst e';exact wpAny_truthy_bool ⟨H,I,q⟩
 |int i=>
  obtain⟨t,rfl⟩:=rx;have e':k=(i !=0):=e;subst e';exact PySem.P.truthy_int ⟨H,I,q⟩
 |str y=>
  obtain⟨t,rfl⟩:=rx;obtain⟨hy,e'⟩:y.length<=sizeLine/\k=((y.length:Int)!=0):=e;subst e';exact PySem.P.truthy_str (by omega) ⟨H,I.tok _,q⟩
 |gM y=>
  obtain⟨t,rfl⟩:=rx;obtain⟨hy,e'⟩:y.size<=sizeLine/\k=((y.size:Int)!=0):=e;subst e';exact PySem.W.truthy_bytes (by omega) ⟨H,I.tok _,q⟩
 |ref p=>
  cases rx;have e':(∃xs,ak X.K H p xs/\k= !xs.isEmpty)\/(∃xs,bB X.K H p xs/\k= !xs.isEmpty)\/∃kvs,H p=some (.dK kvs)/\k= !kvs.isEmpty:=e
  rcases e' with⟨xs,hx,e'⟩|⟨xs,hx,e'⟩|⟨kvs,hx,e'⟩
  ·subst e';obtain⟨its,r,pl,hz⟩:=I.list hx;have hlen:=r.length;exact wpAny_truthy_list pl.isList (by simp only[aum];omega) ⟨H,I.tok _,by rw[Nm r];exact q⟩
  ·subst e';obtain⟨its,r,pl,hz⟩:=I.tuple hx;have hlen:=r.length;exact truthy_tuple pl (by simp only[aum];omega) ⟨H,I.tok _,by rw[Nm r];exact q⟩
  ·subst e';obtain⟨hz,hS,vs,r,m⟩:kvs.length<=sizeLine/\(p==sysModules)=false/\∃vs,KV kvs vs/\s.heap.DictOf (fX X.prog X.w) p vs:=I.hok p _ hx
   have hlen:kvs.length=vs.length:=Paired.length r;exact wpAny_truthy_dict hS m (by omega) ⟨H,I.tok _,by rw[Yk r];exact q⟩
 |_=>exact(show False from e).elim
theorem yZ(ha:PE X a ta)(he:∀whole,isTrue a X.env whole=(do let v<-whole;standAt a.pos;holding [v] (truthy v))):
  PT X a (fun σ H Q=>ta σ H fun x H'=>∃k,yX X.K x H' k/\Q k H'):=by
 intro pins s σ H Q I h;exact isTrue_plain (aO (ha pins s σ H _ I h) fun v s1 ⟨x,H1,I1,r1,q1⟩=>Yl pins s1 σ H1 x v Q I1 r1 q1) (he _)
theorem nq{x:V}{us:List Value}(r:Vals [x] us):∃u,us=[u]/\RelV x u:=by
 cases r with
 |cons r1 r2=>cases r2;exact⟨_,rfl,r1⟩
end
structure sS(h:Heap)(x dx C:Addr)(mA:Str->Option Value):Prop where
 obj:h.get? x=some (avx C dx)
 ns:h.Ns1 dx mA
 ne:dx≠x
theorem Ym{h:Heap}{dx:Addr}{mA:Str->Option Value}(n:h.Ns1 dx mA):∃od,h.get? dx=some od/\∀name,awv name od=some (mA name):=by
 obtain⟨o,es,ep,ho,hd,hk,_,hm⟩:=n;refine⟨o,ho,fun name=>?_⟩;have e:=hm name;unfold nsFind findBy at e;rw[<-Array.find?_toList] at e;unfold awv;rw[hd];dsimp only
 split
 ·rename_i y q
  rw[q] at e;exact congrArg some e
 ·rename_i q
  rw[q] at e;have a:es.toList.any (·.refKey)=false:=by
   rw[List.any_eq_false];intro y hy;obtain⟨z,t,hkey⟩:=hk y (Array.mem_toList_iff.mp hy);simp[DictEntry.refKey,hkey]
  have a':¬es.toList.any (·.refKey)=true:=by rw[a];exact auq
  rw[if_neg a'];exact congrArg some e
theorem sS.look{h:Heap}{x dx C:Addr}{mA:Str->Option Value}(I:sS h x dx C mA):∃od,PySem.W.InstAt h x (avx C dx) C (some od)/\∀name,awv name od=some (mA name):=
 let⟨od,ho,hl⟩:=Ym I.ns
 ⟨od,⟨I.obj,rfl,rfl,ho⟩,hl⟩
section
variable{prog:Program}{w:World}{A:Around}{E:Value->Shared->Prop}{s:Shared}{K:atQ}{x dx C f:Addr}{mA:Str->Option Value}{name:Str}{v:Value}
theorem Yn{expr:Bool}{Q:Value->Shared->Prop}(X:K.In s.heap)(I:sS s.heap x dx C mA)(hg:aww K C name=true)(hh:axc K C=true)
  (ha:avn K (.ref C) name=some none) (hv:mA name=some v) (hv':axU v=true) (h:Q v {s with toks:=s.toks+1}):
  wpAny (model prog w) A (getAttr (.ref x) name expr) Q E s:=by
 obtain⟨od,J,hl⟩:=I.look;exact PySem.W.get_value X J (axd hg).1 (PySem.W.findObj_own hh ha rfl (by rw[hl,hv])) hv' h
theorem Yo{pl:Sem Bool}{Q:Value×List Value->Shared->Prop}(X:K.In s.heap)(I:sS s.heap x dx C mA)(hg:aww K C name=true)
  (hf:avn K (.ref C) name=some (some (.ref f))) (ht:axe K (.ref f)=true) (hv:mA name=none) (h:Q (.ref f,[.ref x]) s):
  wpAny (model prog w) A (getMethod (.ref x) name pl) Q E s:=by
 obtain⟨od,J,hl⟩:=I.look;exact PySem.W.method_fn X J (axd hg).1 (axd hg).2 hf (beq_iff_eq.mp ht) (by show(awv name od).map (·.isSome)=some false;rw[hl,hv];rfl) h
theorem Yp{ns:List Str}{Q:Unit->Shared->Prop}(X:K.In s.heap)(I:sS s.heap x dx C mA)
  (hs:avn K (.ref C) "__setattr__"=some (some (.builtin "object.__setattr__"))) (hp:axV K C=true) (ht:axf K C name=some none) (hh:axc K C=true)
  (hw:aw8 mA ns) (hsz:ns.length<=sizeLine)
  (h:∀h',sS h' x dx C (fun y=>if y=name then some v else mA y)->auV dx s.heap h'->Q () {s with heap:=h',toks:=s.toks+2}):
  wpAny (model prog w) A (setAttr (.ref x) name v) Q E s:=by
 obtain⟨od,J,hl⟩:=I.look;refine PySem.W.set_plain X J hs (PySem.W.osa_open (s:={s with toks:=s.toks+1}) (r:=none) X J hp ht fun b=>?_);obtain⟨cd,hc,hd'⟩:=PySem.W.any_some hh;have hx:s.heap.get? x=some ⟨.ref C,some dx,.plain,#[]⟩:=I.obj;refine wpAny_bind (wpAny_pure (wpAny_bind (wpAny_bind (wpAny_loadPart hx (wpAny_bind (PySem.W.Looks.here (s:={s with toks:=s.toks+1}) (PySem.W.looks_clsIn X hc) ?_))))));rw[hd'];refine wpAny_pure (a:=some dx) (wpAny_bind (wpAny_pure (wpAny_bind ?_)));refine wpAny_nsSet1 (s:={s with toks:=s.toks+1}) I.ns fun h' hn2 hs2=>?_
 obtain⟨oD,esD,epD,hoD,hdD,hcD⟩:=hn2.count (PySem.Within.cons name v hw);refine wpAny_bind (wpAny_lookBehind hoD (by rw[hdD];exact pastItsLine_dict (auC hcD (by rw[auH];omega))) ?_);exact wpAny_pure (h _ ⟨(hs2.2 _ (Ne.symm I.ne)).trans I.obj,hn2,I.ne⟩ hs2)
theorem Yq{R:Result->Shared->Prop}{vs:List Value}{kw:List (Str×Value)}(X:K.In s.heap)(hm:axW K C=true)
  (hi:avn K (.ref C) "__init__"=some (some (.ref f))) (hf:PySem.W.typeIn K (.ref f)=some (.type "function"))
  (h:codeAny (model prog w) (A.under (.builtin "type.__call__" ⟨.ref C::vs,kw⟩)) (.call (.ref f) ⟨.ref (s.heap.objs.size+1)::vs,kw⟩) (PySem.W.InitBack (s.heap.objs.size+1) R)
   {s with heap:=(s.heap.push avo).push (avx C s.heap.objs.size)}):
  codeAny (model prog w) A (.call (.ref C) ⟨vs,kw⟩) R s:=by
 obtain⟨hh,g,d,t,os⟩:=s;exact PySem.W.make_core (PySem.W.makes_of X hm) (PySem.W.looks_findIn X hi) (fun self=>PySem.W.bind_fn X self hf) (.inl rfl) h
end
def ao(f:Str)(v:V):List (Str×V)->List (Str×V)
 |[]=>[(f,v)]
 |(g,x)::r=>if g=f then(g,v)::r else(g,x)::ao f v r
theorem oY(f g:Str)(v:V):∀fs:List (Str×V),(ao f v fs).lookup g=if g=f then some v else fs.lookup g
 |[]=>by
  show avB g [(f,v)]=_;by_cases h:g=f
  ·have hb:(g==f)=true:=beq_iff_eq.mpr h;simp only[avB,hb,if_pos h]
  ·have hb:(g==f)=false:=beq_eq_false_iff_ne.mpr h;simp only[avB,hb,if_neg h]
 |(k,x)::r=>by
  have ih:=oY f g v r;rw[show ao f v ((k,x)::r)=(if k=f then(k,v)::r else(k,x)::ao f v r) from rfl];by_cases hk:k=f
  ·rw[if_pos hk];by_cases h:g=k
   ·have hb:(g==k)=true:=beq_iff_eq.mpr h;simp only[avB,hb,if_pos (h.trans hk)]
   ·have hb:(g==k)=false:=beq_eq_false_iff_ne.mpr h;simp only[avB,hb,if_neg (fun e:g=f=>h (e.trans hk.symm))]
  ·rw[if_neg hk];by_cases h:g=k
   ·have hb:(g==k)=true:=beq_iff_eq.mpr h;simp only[avB,hb,if_neg (fun e:g=f=>hk (h.symm.trans e))]
   ·have hb:(g==k)=false:=beq_eq_false_iff_ne.mpr h;simp only[avB,hb];exact ih
theorem El(f:Str)(v:V):∀fs:List (Str×V),f∈(ao f v fs).map (·.1)/\∀g,g∈fs.map (·.1)->g∈(ao f v fs).map (·.1)
 |[]=>⟨by simp[ao],fun g h=>by simp at h⟩
 |(k,x)::r=>by
  obtain⟨i1,i2⟩:=El f v r;rw[show ao f v ((k,x)::r)=(if k=f then(k,v)::r else(k,x)::ao f v r) from rfl];by_cases hk:k=f
  ·rw[if_pos hk];subst hk;exact⟨by simp,fun g h=>by simpa using h⟩
  ·rw[if_neg hk];refine⟨?_,fun g h=>?_⟩
   ·rw[auf];exact at8 _ i1
   ·rw[auf] at h⊢;rcases at3.mp h with e|e
    ·exact at3.mpr (.inl e)
    ·exact at8 _ (i2 g e)
theorem Np(f:Str)(v:V):∀fs:List (Str×V),(ao f v fs).length<=fs.length+1
 |[]=>by simp[ao]
 |(k,x)::r=>by
  have ih:=Np f v r;rw[show ao f v ((k,x)::r)=(if k=f then(k,v)::r else(k,x)::ao f v r) from rfl];by_cases hk:k=f
  ·rw[if_pos hk,auH,auH];omega
  ·rw[if_neg hk,auH,auH];omega
theorem gV.some_of{v:V}{o:Option Value}(r:gV (some v) o):∃u,o=some u/\RelV v u:=by
 cases o with
 |none=>exact(show False from r).elim
 |some u=>exact⟨u,rfl,r⟩
theorem gV.none_of{o:Option Value}(r:gV none o):o=none:=by
 cases o with
 |none=>rfl
 |some u=>exact(show False from r).elim
theorem Yr{v:V}{u:Value}(r:RelV v u):axU u=true:=by
 cases v with
 |non=>cases(show u=auF from r);rfl
 |bl b=>cases(show u=awr b from r);rfl
 |int i=>obtain⟨t,e⟩:=(show ∃t,u=au6 i t from r);cases e;rfl
 |str x=>obtain⟨t,e⟩:=(show ∃t,u=awq x t from r);cases e;rfl
 |gM b=>obtain⟨t,e⟩:=(show ∃t,u=Value.bytes b t from r);cases e;rfl
 |flt b=>obtain⟨t,e⟩:=(show ∃t,u=Value.float b t from r);cases e;rfl
 |ref a=>cases(show u=aue a from r);rfl
 |ty n=>cases(show u=auM n from r);rfl
section
variable{P:Program}{w:World}{H H':Hp}{h h':Heap}{a C dx:Addr}{fs fs':List (Str×V)}
theorem Em(hok:cC P w H h)(e:H a=some (.ins C dx fs)):∃mA,sS h a dx C mA/\(∀f,gV (fs.lookup f) (mA f))/\aw8 mA (fs.map (·.1))/\fs.length<=1000/\H dx=some (.own a):=by
 obtain⟨d,z,ne,ob,mA,n,r,q⟩:=(show cQ P w H h a (.ins C dx fs) from hok a _ e);exact⟨mA,⟨ob,n,ne⟩,r,q,z,d⟩
end
structure Cls(K:atQ)(C:Addr):Prop where
 pg:aww K C Str.empty=true
 hd:axc K C=true
 po:axV K C=true
 sa:avn K (.ref C) "__setattr__"=some (some (.builtin "object.__setattr__"))
theorem Cls.get{K:atQ}{C:Addr}(c:Cls K C)(f:Str):aww K C f=true:=c.pg
def eV(K:atQ)(C:Addr)(f:Str):Prop:=avn K (.ref C) f=some none
theorem eV.taker{K:atQ}{C:Addr}{f:Str}(n:eV K C f):axf K C f=some none:=by
 unfold axf;rw[show avn K (.ref C) f=some none from n];rfl
structure Meth(K:atQ)(C:Addr)(m:Str)(f:Addr):Prop where
 at_:avn K (.ref C) m=some (some (.ref f))
 fn:axe K (.ref f)=true
 kp:avp K (.ref f)=true
section
variable{X:Cx}{pins:List (Addr×Obj)}{σ:St}{H:Hp}{s:Shared}{a C dx:Addr}{fs:List (Str×V)}{f:Str}{v:V}{A:Around}{E:Value->Shared->Prop}
theorem Nq{b:Bool}{Q:Value->Shared->Prop}(I:Inv X pins σ H s)(e:H a=some (.ins C dx fs))(c:Cls X.K C)(n:eV X.K C f)(l:fs.lookup f=some v)
  (h:∀u s',Inv X pins σ H s'->RelV v u->Q u s'):wpAny (model X.prog X.w) A (getAttr (.ref a) f b) Q E s:=by
 obtain⟨mA,O,r,_,_,_⟩:=Em I.hok e;obtain⟨u,hu,ru⟩:=gV.some_of (v:=v) (o:=mA f) (by rw[<-l];exact r f);exact Yn I.gA O (c.get f) c.hd n hu (Yr ru) (h u _ (I.tok _) ru)
theorem Nr{m:Str}{g:Addr}{pl:Sem Bool}{Q:Value×List Value->Shared->Prop}(I:Inv X pins σ H s)(e:H a=some (.ins C dx fs))(c:Cls X.K C)(k:Meth X.K C m g)(l:fs.lookup m=none)
  (h:Q (.ref g,[.ref a]) s):wpAny (model X.prog X.w) A (getMethod (.ref a) m pl) Q E s:=by
 obtain⟨mA,O,r,_,_,_⟩:=Em I.hok e;have hn:mA m=none:=gV.none_of (by rw[<-l];exact r m);exact Yo I.gA O (c.get m) k.at_ k.fn hn h
theorem Nt{y:V}{u:Value}{Q:Unit->Shared->Prop}(I:Inv X pins σ H s)(e:H a=some (.ins C dx fs))(c:Cls X.K C)(n:eV X.K C f)(hl:fs.length<1000)(ry:RelV y u)
  (h:∀s',Inv X pins σ (upd H a (.ins C dx (ao f y fs))) s'->Q () s'):wpAny (model X.prog X.w) A (setAttr (.ref a) f u) Q E s:=by
 obtain⟨mA,O,r,wi,_,ho⟩:=Em I.hok e;have hz:(fs.map (·.1)).length<=sizeLine:=by rw[atR,sizeLine_eq];omega
 refine Yp I.gA O c.sa c.po n.taker c.hd wi hz fun h' O' sb=>h _ ?_
 have hd:∃o,h'.get? dx=some o:=let⟨o,_,_,e',_⟩:=O'.ns;⟨o,e'⟩
 refine I.write (x:=a) (e:=dx) (by rw[e];exact True.intro) (.inr ho) (fun b q hb z=>(sb.2 b hb).trans z) hd ?_;refine⟨by rw[au O.ne];exact ho,?_,O.ne,O'.obj,_,O'.ns,fun g=>?_,fun g hg=>?_⟩
 ·have:=Np f y fs;omega
 ·show gV ((ao f y fs).lookup g) (if g=f then some u else mA g);rw[oY];by_cases q:g=f
  ·rw[if_pos q,if_pos q];exact ry
  ·rw[if_neg q,if_neg q];exact r g
 ·by_cases q:g=f
  ·rw[q];exact(El f y fs).1
  ·refine(El f y fs).2 g (wi g fun z=>hg ?_);show(if g=f then some u else mA g)=none;rw[if_neg q];exact z
theorem Inv.made(I:Inv X pins σ H s):Inv X pins σ (upd (upd H s.heap.objs.size (.own (s.heap.objs.size+1))) (s.heap.objs.size+1) (.ins C s.heap.objs.size []))
  {s with heap:=(s.heap.push avo).push (avx C s.heap.objs.size)}:=by
 have e1:(s.heap.push avo).get? s.heap.objs.size=some avo:=auo s.heap rfl;have e2:((s.heap.push avo).push (avx C s.heap.objs.size)).get? (s.heap.objs.size+1)=some (avx C s.heap.objs.size):=by
  have:=auo (s.heap.push avo) (o:=avx C s.heap.objs.size) rfl
  rwa [auD] at this
 have e3:(s.heap.push avo).Ns s.heap.objs.size (fun _=>none):=⟨avo,#[],_,e1,rfl,(fun e he=>absurd he (by simp)),fun _=>rfl⟩;have I1:=I.laid (a:=s.heap.objs.size) (o:=.own (s.heap.objs.size+1)) (h':=s.heap.push avo) (t':=s.toks) (fun b u q=>auc _ q) (atX _) ⟨_,e1⟩;refine I1.laid (a:=s.heap.objs.size+1) (o:=.ins C s.heap.objs.size []) (t':=s.toks) (fun b u q=>auc _ q) (av8 (auD _ _)) ?_;have ne:s.heap.objs.size≠s.heap.objs.size+1:=aun (avC _);refine⟨by rw[au ne,aC],aul _,ne,e2,fun _=>none,(Heap.Ns1.of_empty e3).at fun o q=>auc _ q,fun _=>True.intro,fun y hy=>absurd rfl hy⟩
theorem Ys{prog:Program}{w:World}{env:Env}{e:Expr}{f:Str}{pos:Pos}{s:Shared}{Q:Value->Shared->Prop}(hb:attributeBase e f env (eval e env)=eval e env)
  (h:wpAny (model prog w) A (eval e env) (fun o s₁=>wpAny (model prog w) A (getAttr o f true) Q E s₁) E s):wpAny (model prog w) A (eval (.Attribute e f pos) env) Q E s:=
 Attribute_any_ h (by rw[arm_eval_Attribute,hb])
end
def En(K:atQ)(ta:TE)(f:Str):TE:=fun σ H Q=>ta σ H fun x H1=>∃a C dx fs v,x=.ref a/\H1 a=some (.ins C dx fs)/\Cls K C/\eV K C f/\fs.lookup f=some v/\Q v H1
def Yt(K:atQ)(ta tv:TE)(f:Str):TS:=fun D σ H=>tv σ H fun y H1=>ta σ H1 fun x H2=>∃a C dx fs,x=.ref a/\H2 a=some (.ins C dx fs)/\Cls K C/\eV K C f/\fs.length<1000/\
 D.nx σ (upd H2 a (.ins C dx (ao f y fs)))
def Nu(X:Cx)(op:Operator)(rd:V->V->Hp->VK->Prop):Prop:=
 ∀(pins:List (Addr×Obj))(s:Shared)(σ:St)(H:Hp)(x y:V)(u v:Value)(Q:VK),Inv X pins σ H s->RelV x u->RelV y v->rd x y H Q->wpAny (model X.prog X.w) X.A (inplaceOp op u v) (EP X pins σ Q) X.xe s
def Yu(K:atQ)(ta tv:TE)(rd:V->V->Hp->VK->Prop)(f:Str):TS:=fun D σ H=>ta σ H fun x H1=>∃a C dx fs v,x=.ref a/\H1 a=some (.ins C dx fs)/\Cls K C/\eV K C f/\fs.lookup f=some v/\
 tv σ H1 fun y H2=>rd v y H2 fun z H3=>∃lw fs',H3 a=some (.ins C lw fs')/\fs'.length<1000/\D.nx σ (upd H3 a (.ins C lw (ao f z fs')))
section
variable{X:Cx}{o e value:Expr}{f:Str}{pos pos' tpos:Pos}{ta tv:TE}
theorem bh(he:PE X e ta)(hb:attributeBase e f X.env (eval e X.env)=eval e X.env):PE X (.Attribute e f pos) (En X.K ta f):=by
 intro pins s σ H Q I h;refine Ys hb (aO (he pins s σ H _ I h) fun u s1 ⟨x,H1,I1,rx,a,C,dx,fs,v,ex,ea,c,n,l,q⟩=>?_);subst ex;obtain rfl:u=aue a:=rx;exact Nq I1 ea c n l fun u' s2 I2 ru=>⟨v,H1,I2,ru,q⟩
theorem gP(ha:PE X o ta)(hv:PE X value tv)(hs:swapsWith value (some (.Attribute o f pos')) pos.line X.env=pure false):PS X (.Assign [.Attribute o f pos'] value pos) (Yt X.K ta tv f):=by
 intro pins s σ H D I h;refine plainObj_wpAny_Assign_Attribute (aO (hv pins s σ H _ I h) fun u s1 ⟨y,H1,I1,ry,q⟩=>aO (ha pins s1 σ H1 _ I1 q) fun ov s2 ⟨x,H2,I2,rx,a,C,dx,fs,ex,ea,c,n,l,q2⟩=>?_) hs;subst ex;obtain rfl:ov=aue a:=rx;exact Nt I2 ea c n l ry fun s3 I3=>⟨σ,_,I3,q2⟩
theorem Eo{op:Operator}{rd:V->V->Hp->VK->Prop}(ha:PE X o ta)(hv:PE X value tv)(hop:Nu X op rd):PS X (.AugAssign (.Attribute o f tpos) op value pos) (Yu X.K ta tv rd f):=by
 intro pins s σ H D I h;refine wpAny_AugAssign_AttributeAny (aO (ha pins s σ H _ I h) fun ov s1 ⟨x,H1,I1,rx,a,C,dx,fs,v,ex,ea,c,n,l,q⟩=>?_);subst ex;obtain rfl:ov=aue a:=rx;refine Nq I1 ea c n l fun u s2 I2 ru=>aO (hv pins s2 σ H1 _ I2 q) fun w3 s3 ⟨y,H2,I3,ry,q3⟩=>aO (hop pins s3 σ H2 v y u w3 _ I3 ru ry q3) fun w4 s4 ⟨z,H3,I4,rz,lw,fs',Yv,l',q4⟩=>?_
 exact Nt I4 Yv c n l' rz fun s5 I5=>⟨σ,_,I5,q4⟩
def Yw:V->V->Hp->VK->Prop:=fun x y H Q=>∃i j,x=.int i/\y=.int j/\Q (.int (i+j)) H
theorem Ep:Nu X .Add Yw:=by
 rintro pins s σ H x y u v Q I rx ry ⟨i,j,rfl,rfl,q⟩;obtain⟨t,rfl⟩:=(show ∃t,u=au6 i t from rx);obtain⟨t',rfl⟩:=(show ∃t',v=au6 j t' from ry);exact PyProof.Rows.iadd_int ⟨.int (i+j),H,I.tok _,⟨_,rfl⟩,q⟩
end
structure bQ(k:Nat)(A:Around):Prop where
 hd:A.handled=none
 dp:A.depth+3*k+5<recursionLimit
 un:A.units+16*k+200<cLine
theorem bQ.mono{j k:Nat}{A:Around}(r:bQ k A)(h:j<=k):bQ j A:=⟨r.hd,by have:=r.dp;omega,by have:=r.un;omega⟩
theorem bQ.deeper{k:Nat}{A:Around}(r:bQ (k+1) A)(env:Env):bQ k (A.deeper env):=
 ⟨r.hd,by have:=r.dp;show A.depth+1+3*k+5<_;omega,by have:=r.un;show A.units+3+16*k+200<_;omega⟩
theorem bQ.in1{k:Nat}{A:Around}(r:bQ (k+1) A):bQ k A.in1:=
 ⟨r.hd,by have:=r.dp;show A.depth+3*k+5<_;omega,by have:=r.un;show A.units+1+16*k+200<_;omega⟩
theorem Yx{A:Around}{C:Addr}{us:List Value}{kw:List (Str×Value)}:(A.under (.builtin "type.__call__" ⟨.ref C::us,kw⟩)).depth=A.depth+1:=by
 first|rfl|simp[Around.under,Code.weight,Code.isCreation,Code.isGuard,Code.isCaller,Code.frames,Code.isFrame,guardIds]
theorem Yy{A:Around}{C:Addr}{us:List Value}{kw:List (Str×Value)}:(A.under (.builtin "type.__call__" ⟨.ref C::us,kw⟩)).units=A.units+1:=by
 first|rfl|simp[Around.under,Code.cUnits,Code.frames,Code.isFrame]
theorem bQ.make{k:Nat}{A:Around}(r:bQ (k+1) A)(C:Addr)(us:List Value)(kw:List (Str×Value)):bQ k (A.under (.builtin "type.__call__" ⟨.ref C::us,kw⟩)):=
 ⟨r.hd,by have:=r.dp;rw[Yx];omega,by have:=r.un;rw[Yy];omega⟩
theorem bQ.depth{k:Nat}{A:Around}(r:bQ k A):A.depth<recursionLimit:=by have:=r.dp;omega
theorem bQ.units{k:Nat}{A:Around}(r:bQ k A):A.units+64<cLine:=by have:=r.un;omega
def nu:TA:=fun _ H Q=>Q [] H
def oZ(ta:TE)(tr:TA):TA:=fun σ H Q=>ta σ H fun x H1=>tr σ H1 fun xs H2=>Q (x::xs) H2
section
variable{X:Cx}{e:Expr}{es:List Expr}{te:TE}{t:TA}{pos:Pos}
theorem aA:PA X [] nu:=fun _ _ _ _ H Q I h=>Calls.spliced_nil ⟨[],H,I,.nil,h⟩
theorem aj(ha:PE X e te)(hr:PA X es t)(hs:starEach (e::es) X.env=(false,eval e X.env)::starEach es X.env:=by rfl):PA X (e::es) (oZ te t):=by
 intro pos pins s σ H Q I h;rw[hs];show wpAny _ _ (spliced ((false,eval e X.env)::backTo pos (starEach es X.env))) _ _ s;refine Calls.spliced_cons (aO (ha pins s σ H _ I h) fun u s1 ⟨x,H1,I1,r1,q1⟩=>?_);exact aO (hr pos pins s1 σ H1 _ I1 q1) fun us s2 ⟨xs,H2,I2,r2,q2⟩=>⟨x::xs,H2,I2,.cons r1 r2,q2⟩
def Yz(t:TA):TE:=fun σ H Q=>t σ H fun xs H1=>xs.length<=sizeLine/\∀p,H1 p=none->Q (.ref p) (upd H1 p (.tup xs))
def YB(t:TA):TE:=fun σ H Q=>t σ H fun xs H1=>xs.length<=sizeLine/\∀p,H1 p=none->Q (.ref p) (upd H1 p (.lst xs))
theorem nA{x1}(h:PA X es t):PE X (.Tuple es x1 pos) (Yz t):=by
 intro pins s σ H Q I hq;refine wpAny_Tuple_spliced (aO (h pos pins s σ H _ I hq) fun us s1 ⟨xs,H1,I1,r,z,q⟩=>⟨by rw[<-r.length];exact z,?_⟩);have hf:H1 s1.heap.objs.size=none:=I1.hok.fresh (atX _);refine⟨.ref s1.heap.objs.size,upd H1 s1.heap.objs.size (.tup xs),I1.laid (t':=s1.toks) (fun b u e=>auc _ e) (atX _) ?_,rfl,q _ hf⟩;exact⟨z,us,r,⟨_,auo _ rfl,rfl,_,rfl⟩⟩
theorem dD(h:PA X es t):PE X (.List es pos) (YB t):=by
 intro pins s σ H Q I hq;refine wpAny_List_spliced (aO (h pos pins s σ H _ I hq) fun us s1 ⟨xs,H1,I1,r,z,q⟩=>⟨by rw[<-r.length];exact z,?_⟩);have hf:H1 s1.heap.objs.size=none:=I1.hok.fresh (atX _);refine⟨.ref s1.heap.objs.size,upd H1 s1.heap.objs.size (.lst xs),I1.laid (t':=s1.toks) (fun b u e=>auc _ e) (atX _) ?_,rfl,q _ hf⟩;exact⟨z,us,0,r,auo _ rfl⟩
end
abbrev Sp:=List V->Hp->VK->XK->Prop
abbrev gY:=List Env->Hp->Shared->XK->Value->Shared->Prop
structure lA(P:Program)(w:World)(K:atQ)(mg:Str->Option Value)(base:Heap)(A:Around)(outer:List Env)(s:Shared)(H:Hp):Prop where
 frames:A.frames=some outer
 mod:Mod K mg base
 bs:∀b o,base.get? b=some o->s.heap.get? b=some o/\H b=none
 jE:base.objs.size<=s.heap.objs.size
 iZ:s.heap.FunFrames base outer
 kZ:∀b∈dJ outer,H b=none
 hok:cC P w H s.heap
 bare:AllBare s.gens
def CE(outer:List Env)(P:Program)(w:World)(H:Hp)(s:Shared)(Q:VK)(u:Value)(s':Shared):Prop:=
 ∃v H',s'.os=s.os/\AllBare s'.gens/\Un (dJ outer) [] H H' s.heap s'.heap/\cC P w H' s'.heap/\RelV v u/\Q v H'
def CR(CX:gY)(outer:List Env)(P:Program)(w:World)(H:Hp)(s:Shared)(Q:VK)(E:XK)(r:Result)(s':Shared):Prop:=
 match r with
 |.ok (.ret u)=>CE outer P w H s Q u s'
 |.ok _=>False
 |.error e=>CX outer H s E e s'
structure aJ(P:Program)(w:World)(K:atQ)(mg:Str->Option Value)(base:Heap)(CX:gY)(k:Nat)(f:Addr)(fd:FuncData)(ps:List Str)(sp:Sp):Prop where
 len:∀vs H Q E,sp vs H Q E->vs.length=ps.length
 run:∀(A:Around)(outer:List Env)(s:Shared)(H:Hp)(args:Args)(us:List Value)(vs:List V)(Q:VK)(E:XK),bQ k A->lA P w K mg base A outer s H->BindsTo s fd args (ps.zip us)->Vals vs us->sp vs H Q E->
  codeAny (model P w) A (.call (.ref f) args) (CR CX outer P w H s Q E) s
theorem aJ.mono{P:Program}{w:World}{K:atQ}{mg:Str->Option Value}{base:Heap}{CX:gY}{j k:Nat}{f:Addr}{fd:FuncData}{ps:List Str}{sp:Sp}(F:aJ P w K mg base CX j f fd ps sp)(h:j<=k):
  aJ P w K mg base CX k f fd ps sp:=⟨F.len,fun A outer s H args us vs Q E hr=>F.run A outer s H args us vs Q E (hr.mono h)⟩
theorem aJ.imp{P:Program}{w:World}{K:atQ}{mg:Str->Option Value}{base:Heap}{CX:gY}{k:Nat}{f:Addr}{fd:FuncData}{ps:List Str}{sp Nv:Sp}(F:aJ P w K mg base CX k f fd ps sp)
  (h:∀vs H Q E,Nv vs H Q E->sp vs H Q E):aJ P w K mg base CX k f fd ps Nv:=
 ⟨fun vs H Q E q=>F.len vs H Q E (h _ _ _ _ q),fun A outer s H args us vs Q E hr he hb hv hs=>F.run A outer s H args us vs Q E hr he hb hv (h _ _ _ _ hs)⟩
theorem lA.make{P:Program}{w:World}{K:atQ}{mg:Str->Option Value}{base:Heap}{A:Around}{outer:List Env}{s:Shared}{H:Hp}(e:lA P w K mg base A outer s H)(C:Addr)(us:List Value)(kw:List (Str×Value)):
  lA P w K mg base (A.under (.builtin "type.__call__" ⟨.ref C::us,kw⟩)) outer s H:=⟨by first|exact e.frames|(simpa[Around.under,Code.envs,Code.isFrame,pushEnvs] using e.frames),e.mod,e.bs,e.jE,e.iZ,e.kZ,e.hok,e.bare⟩
theorem lA.in1{P:Program}{w:World}{K:atQ}{mg:Str->Option Value}{base:Heap}{A:Around}{outer:List Env}{s:Shared}{H:Hp}(e:lA P w K mg base A outer s H):
  lA P w K mg base A.in1 outer s H:=⟨e.frames,e.mod,e.bs,e.jE,e.iZ,e.kZ,e.hok,e.bare⟩
section
variable{X:Cx}{pins:List (Addr×Obj)}{σ:St}{H:Hp}{s s':Shared}
theorem Inv.env0(I:Inv X pins σ H s):lA X.prog X.w X.K X.mg X.base X.A X.stack s H:=
 ⟨I.ok.frames,I.ok.mod,I.bs,auC I.ok.jE I.sz,I.stack,I.v9,I.hok,I.bare⟩
theorem Inv.after{Q:VK}{u:Value}(I:Inv X pins σ H s)(h:CE X.stack X.prog X.w H s Q u s'):EP X pins σ Q u s':=by
 obtain⟨v,H',os,bare,un,hok,r,q⟩:=h;obtain⟨hh,g,d,t,os'⟩:=s';obtain rfl:os'=s.os:=os;exact⟨v,H',I.call (h':=hh) (g':=g) (d':=d) (t':=t) (ch:=[]) un hok bare (fun b z=>absurd z (by simp)),r,q⟩
end
def Ny(sp:Sp)(eX:List V)(E:XK)(t:TA):TE:=fun σ H Q=>t σ H fun vs H1=>sp (vs++eX) H1 Q E
def Nz(C:Addr)(m:Str)(sp:Sp)(eX:List V)(E:XK)(ta:TE)(t:TA):TE:=fun σ H Q=>ta σ H fun x H1=>∃a dx fs,x=.ref a/\H1 a=some (.ins C dx fs)/\fs.lookup m=none/\
 t σ H1 fun vs H2=>sp (x::(vs++eX)) H2 Q E
def YC(C:Addr)(sp:Sp)(eX:List V)(E:XK)(t:TA):TE:=fun σ H Q=>t σ H fun vs H1=>∀x dx,H1 x=none->H1 dx=none->dx≠x->
 sp (.ref x::(vs++eX)) (upd (upd H1 dx (.own x)) x (.ins C dx [])) (fun v H2=>v=.non/\Q (.ref x) H2) E
def Binds(K:atQ)(fd:FuncData)(ps:List Str)(ds:List Value):Prop:=
 ∀(s:Shared)(us:List Value),K.In s.heap->(us++ds).length=ps.length->BindsTo s fd ⟨us,[]⟩ (ps.zip (us++ds))
theorem Binds.all{K:atQ}{fd:FuncData}{ps:List Str}(h:∀us:List Value,us.length=ps.length->bindArgs fd ⟨us,[]⟩=pure (ps.zip us)):Binds K fd ps []:=fun s us _ hl=>by
 rw[avM] at hl⊢;exact .of_eq (h us hl)
def ph(CX:gY)(X:Cx)(E:XK):Prop:=∀(pins:List (Addr×Obj))(σ:St)(H:Hp)(s:Shared)(e:Value)(s':Shared),Inv X pins σ H s->CX X.stack H s E e s'->X.xe e s'
section
variable{X:Cx}{CX:gY}{k:Nat}{f C:Addr}{fd:FuncData}{ps:List Str}{sp:Sp}{eX:List V}{ds:List Value}{E:XK}{x m:Str}{p pos apos:Pos}{e o:Expr}{es:List Expr}{ta:TE}{t:TA}
theorem za{pins:List (Addr×Obj)}{σ:St}{H:Hp}{s:Shared}{Q:VK}{us:List Value}{vs:List V}(F:aJ X.prog X.w X.K X.mg X.base CX k f fd ps sp)(hr:bQ k X.A)(hb:Binds X.K fd ps ds)(hd:Vals eX ds)(hx:ph CX X E)
  (I:Inv X pins σ H s) (r:Vals vs us) (h:sp (vs++eX) H Q E):wpAny (model X.prog X.w) X.A (call (.ref f) us) (EP X pins σ Q) X.xe s:=by
 have r2:Vals (vs++eX) (us++ds):=r.append hd;have hl:(us++ds).length=ps.length:=by rw[<-r2.length];exact F.len _ _ _ _ h
 refine wpAny_call (codeAny_mono (F.run X.A X.stack s H ⟨us,[]⟩ (us++ds) (vs++eX) Q E hr I.env0 (hb s us I.gA hl) r2 h) fun r s' hq=>?_);cases r with
 |error e=>exact hx pins σ H s e s' I hq
 |ok fl=>
  cases fl with
  |ret u=>exact I.after hq
  |next=>exact False.elim hq
  |brk=>exact False.elim hq
  |cont=>exact False.elim hq
theorem cu(F:aJ X.prog X.w X.K X.mg X.base CX k f fd ps sp)(hr:bQ k X.A)(hg:Gl X x)(hm:X.mg x=some (.ref f))(hk:avp X.K (.ref f)=true)(hb:Binds X.K fd ps ds)(hd:Vals eX ds)(hx:ph CX X E)
  (ha:PA X (e::es) t) (hdb:(x==("__debug__":Str))=false:=by decide) (he:starEach (e::es) X.env=(false,eval e X.env)::starEach es X.env:=by rfl) (hpl:(backTo pos (starEach es X.env)).any (·.1)=false:=by rfl):
  PE X (.Call (.Name x p) (e::es) [] pos) (Ny sp eX E t):=by
 intro pins s σ H Q I h;refine wpAny_Call_Name_kw (sr I hg hm ?_ hdb);refine av9 (h₀:=X.base) I.ok.mod.rW hk (aO (ha pos pins s σ H _ I h) fun us s1 ⟨vs,H1,I1,r,q⟩=>⟨I1.gA,?_⟩) he hpl;exact za F hr hb hd hx I1 r q
theorem dZ{pl:Sem Bool}(he:PE X o ta)(c:Cls X.K C)(hm:Meth X.K C m f)(F:aJ X.prog X.w X.K X.mg X.base CX k f fd ps sp)(hr:bQ k X.A)(hb:Binds X.K fd ps ds)(hd:Vals eX ds)(hx:ph CX X E)(ha:PA X (e::es) t)
  (hst:starEach (e::es) X.env=(false,eval e X.env)::starEach es X.env:=by rfl) (hpl:(backTo pos (starEach es X.env)).any (·.1)=false:=by rfl)
  (ht:eval (.Call (.Attribute o m apos) (e::es) [] pos) X.env=(do
   let ov<-eval o X.env
   standAt apos.atName
   let(f,first)<-holding [ov] (getMethod ov m pl)
   callWith pos f first (backTo pos (starEach (e::es) X.env)) (backToKw pos (keywordEach [] X.env))):=by rfl):
  PE X (.Call (.Attribute o m apos) (e::es) [] pos) (Nz C m sp eX E ta t):=by
 intro pins s σ H Q I h;refine axX (pl:=pl) (aO (he pins s σ H _ I h) fun u s1 ⟨x,H1,I1,rx,a,dx,fs,ex,ea,l,q⟩=>?_) ht;subst ex;obtain rfl:u=aue a:=rx;refine Nr I1 ea c hm l ?_;refine av9 (first:=[.ref a]) (h₀:=X.base) I.ok.mod.rW hm.kp (aO (ha pos pins s1 σ H1 _ I1 q) fun us s2 ⟨vs,H2,I2,r,q2⟩=>⟨I2.gA,?_⟩) hst hpl;exact za (us:=.ref a::us) (vs:=.ref a::vs) F hr hb hd hx I2 (.cons rfl r) q2
theorem gj{pl:Sem Bool}(he:PE X o ta)(c:Cls X.K C)(hm:Meth X.K C m f)(F:aJ X.prog X.w X.K X.mg X.base CX k f fd ps sp)(hr:bQ k X.A)(hb:Binds X.K fd ps ds)(hd:Vals eX ds)(hx:ph CX X E)
  (ht:eval (.Call (.Attribute o m apos) [] [] pos) X.env=(do
   let ov<-eval o X.env
   standAt apos.atName
   let(f,first)<-holding [ov] (getMethod ov m pl)
   callWith pos f first (backTo pos (starEach [] X.env)) (backToKw pos (keywordEach [] X.env))):=by rfl):
  PE X (.Call (.Attribute o m apos) [] [] pos) (Nz C m sp eX E ta nu):=by
 intro pins s σ H Q I h;refine axX (pl:=pl) (aO (he pins s σ H _ I h) fun u s1 ⟨x,H1,I1,rx,a,dx,fs,ex,ea,l,q⟩=>?_) ht;subst ex;obtain rfl:u=aue a:=rx;refine Nr I1 ea c hm l ?_;exact PySem.W.callWith_K0 (first:=[.ref a]) I1.gA hm.kp (za (us:=[.ref a]) (vs:=[.ref a]) F hr hb hd hx I1 (.cons rfl .nil) q)
structure Mk(K:atQ)(C f:Addr):Prop where
 makes:axW K C=true
 init:avn K (.ref C) "__init__"=some (some (.ref f))
 fn:axe K (.ref f)=true
 kp:avp K (.ref C)=true
theorem YD{pins:List (Addr×Obj)}{σ:St}{H:Hp}{s:Shared}{Q:VK}{us:List Value}{vs:List V}(M:Mk X.K C f)(F:aJ X.prog X.w X.K X.mg X.base CX k f fd ps sp)(hr:bQ (k+1) X.A)(hb:Binds X.K fd ps ds)(hd:Vals eX ds)
  (hx:ph CX X E) (I:Inv X pins σ H s) (r:Vals vs us)
  (h:∀x dx,H x=none->H dx=none->dx≠x->sp (.ref x::(vs++eX)) (upd (upd H dx (.own x)) x (.ins C dx [])) (fun v H2=>v=.non/\Q (.ref x) H2) E):
  wpAny (model X.prog X.w) X.A (call (.ref C) us) (EP X pins σ Q) X.xe s:=by
 have hq:=h (s.heap.objs.size+1) s.heap.objs.size (I.hok.fresh (awa _)) (I.hok.fresh (atX _)) (aun (avC _));have I2:=Inv.made (C:=C) I;have r2:Vals (V.ref (s.heap.objs.size+1)::(vs++eX)) (aue (s.heap.objs.size+1)::(us++ds)):=.cons rfl (r.append hd);have hl:(aue (s.heap.objs.size+1)::us++ds).length=ps.length:=by
  have e:=r2.length;rw[F.len _ _ _ _ hq] at e;exact e.symm
 refine wpAny_call (Yq (f:=f) I.gA M.makes M.init (beq_iff_eq.mp M.fn) (codeAny_mono (F.run _ X.stack _ _ ⟨aue (s.heap.objs.size+1)::us,[]⟩ (aue (s.heap.objs.size+1)::(us++ds)) _ _ E (hr.make C us [])
  (I2.env0.make C us []) (hb _ (aue (s.heap.objs.size+1)::us) I2.gA hl) r2 hq) fun r s' hq'=>?_))
 cases r with
 |error e=>exact hx pins σ _ _ e s' I2 hq'
 |ok fl=>
  cases fl with
  |ret u=>
   obtain⟨v,H',I3,rv,ev,q3⟩:=I2.after hq';subst ev;exact⟨rv,⟨V.ref (s.heap.objs.size+1),H',I3,rfl,q3⟩⟩
  |next=>exact False.elim hq'
  |brk=>exact False.elim hq'
  |cont=>exact False.elim hq'
theorem wG(M:Mk X.K C f)(F:aJ X.prog X.w X.K X.mg X.base CX k f fd ps sp)(hr:bQ (k+1) X.A)(hg:Gl X x)(hm:X.mg x=some (.ref C))(hb:Binds X.K fd ps ds)(hd:Vals eX ds)(hx:ph CX X E)
  (ha:PA X (e::es) t) (hdb:(x==("__debug__":Str))=false:=by decide) (he:starEach (e::es) X.env=(false,eval e X.env)::starEach es X.env:=by rfl) (hpl:(backTo pos (starEach es X.env)).any (·.1)=false:=by rfl):
  PE X (.Call (.Name x p) (e::es) [] pos) (YC C sp eX E t):=by
 intro pins s σ H Q I h;refine wpAny_Call_Name_kw (sr I hg hm ?_ hdb);refine av9 (h₀:=X.base) I.ok.mod.rW M.kp (aO (ha pos pins s σ H _ I h) fun us s1 ⟨vs,H1,I1,r,q⟩=>⟨I1.gA,?_⟩) he hpl;exact YD M F hr hb hd hx I1 r q
end
structure bR(N P:List Str)(sc:Scope):Prop where
 kind:sc.kind=.function
 co:sc.isCoroutine=false
 gen:sc.isGenerator=false
 nd:N.Nodup
 pre:N.take P.length=P
 par:∀x∈P,sc.names.lookup x=some .local\/sc.names.lookup x=some .cell
 YF:∀y∈sc.names,y.2≠.free
theorem NB{kindOf:Str->Option NameKind}{x:Str}:∀{binds:List (Str×Value)}{m:Str->Option Value},(∀v,(x,v)∉binds)->bindL kindOf binds m x=m x
 |[],_,_=>rfl
 |(n,v)::r,m,h=>by
  unfold bindL;rw[NB fun w hw=>h w (at8 _ hw)]
  split
  ·have:x≠n:=by rintro rfl;exact h v at7
   simp[this]
  ·rfl
theorem NP{kindOf:Str->Option NameKind}{x:Str}:∀{binds:List (Str×Value)}{m:Str->Option Value},(∀v,(x,v)∉binds)->bindC kindOf binds m x=m x
 |[],_,_=>rfl
 |(n,v)::r,m,h=>by
  unfold bindC;rw[NP fun w hw=>h w (at8 _ hw)]
  split
  ·rfl
  ·have:x≠n:=by rintro rfl;exact h v at7
   simp[this]
theorem NQ{kindOf:Str->Option NameKind}{x:Str}{v:Value}:∀{P:List Str}{vs:List Value}{i:Nat}{m:Str->Option Value},P.Nodup->P[i]?=some x->vs[i]?=some v->kindOf x=some .local->
  bindL kindOf (P.zip vs) m x=some v
 |[],_,_,_,_,h,_,_=>by simp at h
 |_::_,[],_,_,_,_,h,_=>by simp at h
 |p::P,w::vs,0,m,nd,h1,h2,hk=>by
  simp at h1 h2;subst h1;subst h2
  show bindL kindOf ((p,w)::P.zip vs) m p=_;unfold bindL;rw[NB fun v hv=>(au8.mp nd).1 (awx hv).1,if_pos hk];simp
 |p::P,w::vs,i+1,m,nd,h1,h2,hk=>by
  show bindL kindOf ((p,w)::P.zip vs) m x=_;unfold bindL;exact NQ (i:=i) (au8.mp nd).2 (by simpa using h1) (by simpa using h2) hk
theorem NT{kindOf:Str->Option NameKind}{x:Str}{v:Value}:∀{P:List Str}{vs:List Value}{i:Nat}{m:Str->Option Value},P.Nodup->P[i]?=some x->vs[i]?=some v->kindOf x≠some .local->
  bindC kindOf (P.zip vs) m x=some v
 |[],_,_,_,_,h,_,_=>by simp at h
 |_::_,[],_,_,_,_,h,_=>by simp at h
 |p::P,w::vs,0,m,nd,h1,h2,hk=>by
  simp at h1 h2;subst h1;subst h2
  show bindC kindOf ((p,w)::P.zip vs) m p=_;unfold bindC;rw[NP fun v hv=>(au8.mp nd).1 (awx hv).1,if_neg hk];simp
 |p::P,w::vs,i+1,m,nd,h1,h2,hk=>by
  show bindC kindOf ((p,w)::P.zip vs) m x=_;unfold bindC;exact NT (i:=i) (au8.mp nd).2 (by simpa using h1) (by simpa using h2) hk
def start(N:List Str)(vs:List V):St:=vs.map some++auk (N.length-vs.length) none
def fG(CX:gY)(P:Program)(w:World)(K:atQ)(mg:Str->Option Value)(base:Heap)(N:List Str)(qual:Str)(scope:Scope)(f:Addr)(cd:Value)(A:Around)(outer:List Env)(s:Shared)(H:Hp)(E:XK):Cx where
 prog:=P
 w:=w
 K:=K
 mg:=mg
 base:=base
 A:=A.deeper (envOfC qual scope s.heap.objs.size f cd)
 N:=N
 s_0:=s
 vZ:=H
 env:=envOfC qual scope s.heap.objs.size f cd
 outer:=outer
 stack:=envOfC qual scope s.heap.objs.size f cd::outer
 ex:=[]
 calm:=true
 fn:=fun _=>true
 pn:=[]
 xe:=fun e s'=>wpAny (model P w) (A.deeper (envOfC qual scope s.heap.objs.size f cd)) (leaving (envOfC qual scope s.heap.objs.size f cd) e) (fun _ s''=>CX outer H s E e s'') (fun e' s''=>CX outer H s E e' s'') s'
theorem NZ{sc:Scope}{n:Nat}{x:Str}(h:sc.names.lookup x=some .cell):∃c,(cellsFrom n sc.names []).lookup x=some c:=by
 have q:=axY sc.names n [] (.inl h);exact axZ.mp q
theorem Er{CX:gY}{P:Program}{w:World}{K:atQ}{mg:Str->Option Value}{base:Heap}{N ps:List Str}{qual:Str}{scope:Scope}{f:Addr}{cd:Value}{A:Around}{outer:List Env}{s s1:Shared}{H:Hp}{E:XK}{us:List Value}{vs:List V}
  (S:bR N ps scope) (hd:A.handled=none) (e0:lA P w K mg base A outer s H) (hl:vs.length=ps.length) (r:Vals vs us)
  (x:InCallC s s.heap.objs.size (bindL (envOfC qual scope s.heap.objs.size f cd).kindOf (ps.zip us) fun _=>none) (cellsFrom (s.heap.objs.size+1) scope.names []) (bindC (envOfC qual scope s.heap.objs.size f cd).kindOf (ps.zip us) fun _=>none) s1):
  Inv (fG CX P w K mg base N qual scope f cd A outer s H E) [] (start N vs) H s1:=by
 have hpl:ps.length<=N.length:=by have:=congrArg avq S.pre;rw[auN] at this;omega
 obtain⟨h1,tk,rfl,hk⟩:=x.done;have uJ:∀b:Addr,b∉(fG CX P w K mg base N qual scope f cd A outer s H E).ex:=fun b z=>absurd (show b∈([]:List Addr) from z) (by simp)
 refine⟨⟨e0.mod,S.kind,rfl,rfl,atX _,fun y z c h1 h2=>?_,fun y hy=>?_,fun y c _ h=>?_,fun _=>hd,Around.frames_deeper e0.frames,.inr ⟨rfl,rfl⟩,fun b z=>absurd z (uJ b),e0.bs,e0.jE,fun b _ _=>uJ b,fun b z=>absurd z (uJ b),e0.iZ,e0.kZ⟩,
  rfl,e0.bare,Un.kept hk,⟨_,x.toInCall.ns,fun i y v h1 h2 h3=>?_⟩,fun y c h=>⟨_,x.cell y c h⟩,e0.hok.fresh (atX _),fun y c h=>?_,fun p hp=>absurd (show p∈([]:List (Addr×Obj)) from hp) (by simp),e0.hok.kept hk,?_⟩
 ·exact name_of_addr x.apart (auR h1) (auR h2)
 ·have hy:scope.names.lookup y=some .cell\/scope.names.lookup y=some .free:=hy;rcases hy with hy|hy
  ·exact NZ hy
  ·exact absurd rfl (S.YF _ (auR hy))
 ·exact avm (x.above y c (auR h))
 ·have hi:i<vs.length:=by
   unfold start at h2;by_cases hi:i<vs.length
   ·exact hi
   ·rw[ax0 (by simpa using hi)] at h2;rw[ax1] at h2
    split at h2<;>cases h2
  have ha:vs[i]?=some v:=by
   unfold start at h2;rw[auP (by simpa using hi),aui] at h2;cases e:vs[i]? with
   |none=>rw[e] at h2;cases h2
   |some a=>rw[e] at h2;cases h2;rfl
  obtain⟨u,hu,rv⟩:=r.get ha;have hp:ps[i]?=some y:=by
   rw[<-S.pre,List.getElem?_take_of_lt (by omega)];exact h1
  have N5:ps.Nodup:=by rw[<-S.pre];exact S.nd.sublist (ax2 _ _)
  refine⟨u,rv,?_⟩;rcases S.par y (auI hp) with k|k
  ·exact .inl ⟨k,NQ N5 hp hu k⟩
  ·obtain⟨c,e⟩:=NZ (n:=s.heap.objs.size+1) k;refine .inr ⟨.inl k,c,e,?_⟩;have q:=x.cell y c e;rw[NT N5 hp hu (by show scope.names.lookup y≠_;rw[k];decide)] at q;exact q
 ·exact e0.hok.fresh (avm (x.above y c (auR h)))
 ·unfold start;show _=N.length;rw[aud,atR,awy];omega
theorem N6{CX:gY}{P:Program}{w:World}{K:atQ}{mg:Str->Option Value}{base:Heap}{k:Nat}{f:Addr}{name qual:Str}{params:Arguments}{body:List Stmt}{scope:Scope}{dV kV doc pm cdv ct oc:Value}{an od:Option Addr}
  {osl:Array (Option Value)} {N ps:List Str} {sp:Sp} (lk:K.lookup f=some ⟨oc,od,.func (avW name qual params body scope dV kV doc pm an cdv ct),osl⟩) (hcd:axg K cdv qual=true) (S:bR N ps scope)
  (len:∀vs H Q E,sp vs H Q E->vs.length=ps.length)
  (hbody:∀(A:Around)(outer:List Env)(s:Shared)(H:Hp)(vs:List V)(Q:VK)(E:XK),bQ k (A.deeper (envOfC qual scope s.heap.objs.size f cdv))->sp vs H Q E->
   ∃t,iB (fG CX P w K mg base N qual scope f cdv A outer s H E) body t/\t {nx:=fun _ H'=>Q .non H',rt:=Q} (start N vs) H):
  aJ P w K mg base CX (k+1) f (avW name qual params body scope dV kV doc pm an cdv ct) ps sp:=by
 refine⟨len,fun A outer s H args us vs Q E hr e0 hb r hsp=>?_⟩;have hl:=len _ _ _ _ hsp;have KX:K.In s.heap:=e0.mod.rW.keeps fun b o e=>(e0.bs b o e).1
 have lim:s.heap.NoLimit:=e0.mod.nolimit.keeps fun b o e=>(e0.bs b o e).1
 have hkind:∀y∈ps.zip us,scope.names.lookup y.1=some .local\/(scope.names.lookup y.1=some .cell/\((cellsFrom (s.heap.objs.size+1) scope.names []).lookup y.1).isSome=true):=fun⟨n,v⟩ hy=>by
  rcases S.par n (awx hy).1 with q|q
  ·exact .inl q
  ·exact .inr ⟨q,axY _ _ _ (.inl q)⟩
 refine codeAny_call_function hr.depth (KX _ _ lk) rfl S.co S.gen rfl (PySem.W.codeRec_of KX hcd) (hb _ _ _ _ ?_);refine wpAny_newFunctionEnv_cells S.kind hkind fun env he s1 x=>?_
 subst he;refine⟨lim.keeps x.toInCall.keep,codeAny_func ?_⟩;obtain⟨t,ht,hq⟩:=hbody A outer s H vs Q E (hr.deeper _) hsp;have I:Inv (fG CX P w K mg base N qual scope f cdv A outer s H E) [] (start N vs) H s1:=Er S hr.hd e0 hl r x;refine wpAny_mono (ht [] s1 (start N vs) H _ I hq) (fun fl s' hs=>?_) fun e s' hs=>hs
 have fin:∀{σ':St}{H':Hp}{v:V}{u:Value},Inv (fG CX P w K mg base N qual scope f cdv A outer s H E) [] σ' H' s'->RelV v u->Q v H'->CE outer P w H s Q u s':=
  fun{σ' H' v u} J rv q=>⟨v,H',J.os,J.bare,J.base,J.hok,rv,q⟩
 cases fl with
 |ret u=>
  obtain⟨v,σ',H',J,rv,q⟩:=hs;exact fin J rv q
 |next=>
  obtain⟨σ',H',J,q⟩:=hs;exact fin (v:=V.non) (u:=auF) J rfl q
 |brk=>
  obtain⟨_,_,_,q⟩:=hs;exact False.elim q
 |cont=>
  obtain⟨_,_,_,q⟩:=hs;exact False.elim q
section
variable{X:Cx}{x:Str}{p pos:Pos}{e:Expr}{es:List Expr}{t:TA}{id T:String}{r:List V->Hp->VK->Prop}
def nD(r:List V->Hp->VK->Prop)(t:TA):TE:=fun σ H Q=>t σ H fun vs H1=>r vs H1 Q
theorem dU(hc:gO X (.builtin id) r)(hg:Gl X x)(hm:X.mg x=none)(hv:bootBuiltins x=some (.builtin id))(ha:PA X (e::es) t)(hn:x≠"__name__":=by decide)(hdb:(x==("__debug__":Str))=false:=by decide)
  (he:starEach (e::es) X.env=(false,eval e X.env)::starEach es X.env:=by rfl) (hpl:(backTo pos (starEach es X.env)).any (·.1)=false:=by rfl):PE X (.Call (.Name x p) (e::es) [] pos) (nD r t):=by
 intro pins s σ H Q I h;refine wpAny_Call_Name_kw (oX I hg hm hv ?_ hn hdb);exact PyProof.Rows.callWith_builtin1 (aO (ha pos pins s σ H _ I h) fun us s1 ⟨vs,H1,I1,r1,q1⟩=>hc pins s1 σ H1 vs us Q I1 r1 q1) he hpl
theorem pq(hc:gO X (.type T) r)(hg:Gl X x)(hm:X.mg x=none)(hv:bootBuiltins x=some (.type T))(ha:PA X (e::es) t)(hn:x≠"__name__":=by decide)(hdb:(x==("__debug__":Str))=false:=by decide)
  (he:starEach (e::es) X.env=(false,eval e X.env)::starEach es X.env:=by rfl) (hpl:(backTo pos (starEach es X.env)).any (·.1)=false:=by rfl):PE X (.Call (.Name x p) (e::es) [] pos) (nD r t):=by
 intro pins s σ H Q I h;refine wpAny_Call_Name_kw (oX I hg hm hv ?_ hn hdb);exact avz (aO (ha pos pins s σ H _ I h) fun us s1 ⟨vs,H1,I1,r1,q1⟩=>hc pins s1 σ H1 vs us Q I1 r1 q1) he hpl
end
end L2
namespace HT
open PySem PyProof.Rows
section
variable{prog:Program}{w:World}{A:Around}{E:Value->Shared->Prop}{s:Shared}
def iT(n d:Nat):Option Int->Nat
 |none=>d
 |some v=>if v<0 then(v+(n:Int)).toNat else min v.toNat n
theorem N7(n d k:Nat):iT n d (some (k:Int))=min k n:=by
 show(if(k:Int)<0 then((k:Int)+(n:Int)).toNat else min (k:Int).toNat n)=min k n;rw[if_neg (by omega),auh]
end
end HT
namespace L2
open PySem PySem.Spec PyProof.Rows
abbrev TO:=St->Hp->(Option Int->Hp->Prop)->Prop
def PO(X:Cx)(e:Option Expr)(t:TO):Prop:=
 ∀(pins:List (Addr×Obj))(s:Shared)(σ:St)(H:Hp)(Q:Option Int->Hp->Prop),Inv X pins σ H s->t σ H Q->
  wpAny (model X.prog X.w) X.A (evalPart e X.env) (fun u s'=>∃o H',Inv X pins σ H' s'/\IsPart u o/\Q o H') X.xe s
def YG:TO:=fun _ H Q=>Q none H
def YH(t:TE):TO:=fun σ H Q=>t σ H fun x H1=>∃i,x=.int i/\Q (some i) H1
section
variable{X:Cx}{e:Expr}{te:TE}{lo hi:Option Expr}{tl th:TO}{pos p2:Pos}
theorem YJ:PO X none YG:=by
 intro pins s σ H Q I h;rw[evalPart_none];exact wpAny_pure ⟨none,H,I,.none,h⟩
theorem Es(h:PE X e te):PO X (some e) (YH te):=by
 intro pins s σ H Q I hw;rw[evalPart_some];refine aO (h pins s σ H _ I hw) fun u s1 ⟨x,H1,I1,r1,q1⟩=>?_
 obtain⟨i,rfl,q⟩:=q1;obtain⟨t,rfl⟩:=r1;exact⟨some i,H1,I1,.int i t,q⟩
def uK(X:Cx)(r:V->Option Int->Option Int->Hp->VK->Prop):Prop:=
 ∀(pins:List (Addr×Obj))(s:Shared)(σ:St)(H:Hp)(x:V)(v vl vu:Value)(lo hi:Option Int)(sl:Addr)(Q:VK),Inv X pins σ H s->RelV x v->s.heap.IsSliceOf sl vl vu .none->IsPart vl lo->IsPart vu hi->r x lo hi H Q->
  ∃T id,typeLookup (.type T) "__getitem__"=pure (some (.builtin id))/\s.TypeIs v T/\wpAny (model X.prog X.w) X.A (getItem v (.ref sl)) (EP X pins σ Q) X.xe s
theorem uK.or{r r':V->Option Int->Option Int->Hp->VK->Prop}(h:uK X r)(h':uK X r'):uK X (fun x lo hi H Q=>r x lo hi H Q\/r' x lo hi H Q):=by
 intro pins s σ H x v vl vu lo hi sl Q I rx hs pl pu q;rcases q with q|q
 ·exact h pins s σ H x v vl vu lo hi sl Q I rx hs pl pu q
 ·exact h' pins s σ H x v vl vu lo hi sl Q I rx hs pl pu q
def YK(r:V->Option Int->Option Int->Hp->VK->Prop)(te:TE)(tl th:TO):TE:=fun σ H Q=>te σ H fun x H1=>tl σ H1 fun l H2=>th σ H2 fun u H3=>r x l u H3 Q
theorem YL{r:V->Option Int->Option Int->Hp->VK->Prop}(hr:uK X r)(he:PE X e te)(hl:PO X lo tl)(hu:PO X hi th):PE X (.Subscript e (.Slice lo hi none p2) pos) (YK r te tl th):=by
 intro pins s σ H Q I h;refine Subscript_ (aO (he pins s σ H _ I h) fun v s1 ⟨x,H1,I1,r1,q1⟩=>?_);refine wpAny_Slice (aO (hl pins s1 σ H1 _ I1 q1) fun vl s2 ⟨l,H2,I2,pl,q2⟩=>aO (hu pins s2 σ H2 _ I2 q2) fun vu s3 ⟨u,H3,I3,pu,q3⟩=>?_);rw[evalPart_none];refine wpAny_pure ?_;have I4:Inv X pins σ H3 {s3 with heap:=s3.heap.push {cls:=.type "slice",data:=.fields #[vl,vu,.none]}}:=I3.kept (t':=s3.toks) fun b ob q=>auc _ q
 obtain⟨T,id,hT,ht,hg⟩:=hr pins {s3 with heap:=s3.heap.push {cls:=.type "slice",data:=.fields #[vl,vu,.none]}} σ H3 x v vl vu l u s3.heap.objs.size Q I4 r1 (ax3 ..) pl pu q3;show wpAny (model X.prog X.w) X.A (subscriptTail e (.Slice lo hi none p2) v (.ref s3.heap.objs.size)) (EP X pins σ Q) X.xe {s3 with heap:=s3.heap.push {cls:=.type "slice",data:=.fields #[vl,vu,.none]}};exact tail_any (ops:=[.ref s3.heap.objs.size,v]) ht hT hg (by with_unfolding_all rfl)
def uL(xs:List V)(lo hi:Option Int):List V:=(xs.drop (HT.iT xs.length 0 lo)).take (HT.iT xs.length xs.length hi-HT.iT xs.length 0 lo)
theorem YM(xs:List V)(lo hi:Option Int):(uL xs lo hi).length<=xs.length:=by
 unfold uL;rw[auN,axh];omega
end
def lC(n:Nat)(i:Int):Option Nat:=if 0<=i then(if i<n then some i.toNat else none) else if -(n:Int)<=i then some (i+n).toNat else none
def nH{α:Type}(xs:List α)(i:Int):Option α:=(lC xs.length i).bind fun j=>xs[j]?
theorem N8{n:Nat}{i:Int}{j:Nat}(h:lC n i=some j):seqIndex? i n=some j/\j<n/\ -(n:Int)<=i/\i<n:=by
 unfold lC at h;by_cases h0:0<=i
 ·rw[if_pos h0] at h;by_cases h1:i<n
  ·rw[if_pos h1] at h;have e:i.toNat=j:=aub h;exact⟨by rw[seqIndex_of h0 h1,e],by omega,by omega,h1⟩
  ·rw[if_neg h1] at h;cases h
 ·rw[if_neg h0] at h;by_cases h1: -(n:Int)<=i
  ·rw[if_pos h1] at h;have e:(i+n).toNat=j:=aub h;exact⟨by rw[seqIndex_neg (by omega) h1,e],by omega,h1,by omega⟩
  ·rw[if_neg h1] at h;cases h
theorem Et{α:Type}{xs:List α}{i:Int}{v:α}(h:nH xs i=some v):∃j,seqIndex? i xs.length=some j/\xs[j]?=some v/\j<xs.length/\ -(xs.length:Int)<=i/\i<xs.length:=by
 unfold nH at h;cases e:lC xs.length i with
 |none=>rw[e] at h;cases h
 |some j=>
  rw[e] at h;obtain⟨h1,h2,h3,h4⟩:=N8 e;exact⟨j,h1,h,h2,h3,h4⟩
theorem YQ{α:Type}{xs:List α}{j:Nat}{v:α}(h:xs[j]?=some v):nH xs (j:Int)=some v:=by
 have hj:j<xs.length:=(at9.mp h).1;have e:lC xs.length (j:Int)=some j:=by
  unfold lC;rw[if_pos (by omega),if_pos (by omega)];simp
 unfold nH;rw[e];exact h
theorem Eu{α:Type}(xs:List α)(v:α):nH (xs++[v]) (-1)=some v:=by
 have hl:(xs++[v]).length=xs.length+1:=by simp
 have e:lC (xs++[v]).length (-1)=some xs.length:=by
  unfold lC;rw[hl,if_neg (by decide),if_pos (by omega)];congr 1;omega
 unfold nH;rw[e];show(xs++[v])[xs.length]?=some v;simp
def YS(b:Expr):Prop:=∀o i,subscripted b false o i=operate [o,i] (getItem o i)
def pA(X:Cx)(r:R2):Prop:=
 ∀(value slice:Expr)(pins:List (Addr×Obj))(s:Shared)(σ:St)(H:Hp)(x y:V)(v u:Value)(Q:VK),Inv X pins σ H s->RelV x v->RelV y u->r x y H Q->
  subscripted slice false v u=operate [v,u] (getItem v u)->wpAny (model X.prog X.w) X.A (subscriptTail value slice v u) (EP X pins σ Q) X.xe s
def sU(X:Cx)(id:String)(r:V->List V->Hp->VK->Prop):Prop:=
 ∀(pins:List (Addr×Obj))(s:Shared)(σ:St)(H:Hp)(x:V)(xs:List V)(v:Value)(us:List Value)(Q:VK),Inv X pins σ H s->RelV x v->Vals xs us->r x xs H Q->
  wpAny (model X.prog X.w) X.A (call (.builtin id) (v::us)) (EP X pins σ Q) X.xe s
section
variable{X:Cx}{a b:Expr}{ta tb:TE}{pos:Pos}
theorem pA.or{r r':R2}(h:pA X r)(h':pA X r'):pA X (fun x y H Q=>r x y H Q\/r' x y H Q):=by
 intro value slice pins s σ H x y v u Q I rx ry q hs;rcases q with q|q
 ·exact h value slice pins s σ H x y v u Q I rx ry q hs
 ·exact h' value slice pins s σ H x y v u Q I rx ry q hs
theorem sU.or{id:String}{r r':V->List V->Hp->VK->Prop}(h:sU X id r)(h':sU X id r'):sU X id (fun x xs H Q=>r x xs H Q\/r' x xs H Q):=by
 intro pins s σ H x xs v us Q I rx rs q;rcases q with q|q
 ·exact h pins s σ H x xs v us Q I rx rs q
 ·exact h' pins s σ H x xs v us Q I rx rs q
theorem dN{r:R2}(hr:pA X r)(ha:PE X a ta)(hb:PE X b tb)(hs:YS b):PE X (.Subscript a b pos) (lu r ta tb):=by
 intro pins s σ H Q I h;exact Subscript_ (Ec ha hb I h fun v u s2 x y H2 I2 rx ry q=>hr a b pins s2 σ H2 x y v u Q I2 rx ry q (hs _ _))
def qI(K:atQ):R2:=fun x y H Q=>∃p xs i v,x=.ref p/\y=.int i/\ak K H p xs/\nH xs i=some v/\Q v H
def Oa(K:atQ):R2:=fun x y H Q=>∃p xs i v,x=.ref p/\y=.int i/\bB K H p xs/\nH xs i=some v/\Q v H
def Ob:R2:=fun x y H Q=>∃z i c,x=.str z/\y=.int i/\z.length<=sizeLine/\nH z.cps.toList i=some c/\Q (.str ⟨#[c]⟩) H
theorem eF:pA X (qI X.K):=by
 intro value slice pins s σ H x y v u Q I rx ry h hs;obtain⟨p,xs,i,z,rfl,rfl,hq,he,q⟩:=h;cases rx;obtain⟨t,rfl⟩:=ry;obtain⟨its,r,pl,hz⟩:=I.list hq;obtain⟨j,h1,h2,h3,h4,h5⟩:=Et he;obtain⟨w,ew,lD⟩:=r.get h2;have hl:=r.length;have hn:=sO;have fin:EP X pins σ Q w s:=⟨z,H,I,lD,q⟩;by_cases h0:0<=i
 ·have hj:i.toNat=j:=by
   rw[seqIndex_of h0 h5] at h1;exact aub h1
  exact item_listR pl.isList h0 (by omega) (by rw[hj];simpa using ew) fin hs
 ·have hj:(i+(its.toArray.size:Int)).toNat=j:=by
   rw[seqIndex_neg (by omega) h4] at h1;rw[aum,<-hl];exact aub h1
  exact subscriptTail_builtinR (x:=w) pl.isList.typeIs slot_list_getitem.lookup
   (wpAny_getItem_list_neg (Q:=fun r s'=>r=w/\EP X pins σ Q r s') pl.isList (by omega) (by rw[aum]<;>omega) (by omega) (by rw[hj];simpa using ew) ⟨rfl,fin⟩) hs
theorem YT:pA X (Oa X.K):=by
 intro value slice pins s σ H x y v u Q I rx ry h hs;obtain⟨p,xs,i,z,rfl,rfl,hq,he,q⟩:=h;cases rx;obtain⟨t,rfl⟩:=ry;obtain⟨its,r,pl,hz⟩:=I.tuple hq;obtain⟨j,h1,h2,h3,h4,h5⟩:=Et he;obtain⟨w,ew,lD⟩:=r.get h2;have hl:=r.length;have hn:=sO;have fin:EP X pins σ Q w s:=⟨z,H,I,lD,q⟩;exact subscriptTail_builtinR (x:=w) pl.typeIs slot_tuple_getitem.lookup
  (getItem_tuple (j:=j) (Q:=fun r s'=>r=w/\EP X pins σ Q r s') pl (by omega) (by omega) (by rw[aum,<-hl];exact h1) (by simpa using ew) ⟨rfl,fin⟩) hs
theorem YW:pA X Ob:=by
 intro value slice pins s σ H x y v u Q I rx ry h hs;obtain⟨z,i,c,rfl,rfl,hz,he,q⟩:=h;obtain⟨t,rfl⟩:=rx;obtain⟨t',rfl⟩:=ry;obtain⟨j,h1,h2,h3,h4,h5⟩:=Et he;have hl:z.cps.toList.length=z.length:=by simp[Str.length]
 rw[hl] at h1 h4 h5;have hn:=sO;exact tail_any (typeIs_str s z t) slot_str_getitem.lookup (getItem_str (c:=c) (by
  have e1:decide (i< -(2^63:Int))=false:=decide_eq_false (by omega);have e2:decide (i≥2^63)=false:=decide_eq_false (by omega);rw[e1,e2,axi]) (by rw[h1];simpa using h2) ⟨.str ⟨#[c]⟩,H,I.tok _,⟨_,rfl⟩,q⟩) hs
def sV(K:atQ):R2:=fun x y H Q=>qI K x y H Q\/Oa K x y H Q\/Ob x y H Q
theorem zb:pA X (sV X.K):=eF.or (YT.or YW)
theorem YX(its:List Value)(n j:Nat)(u:Value):Obj.mapSeq (·.setIfInBounds j u) {cls:=.type "list",data:=.seq its.toArray n}={cls:=.type "list",data:=.seq (its.set j u).toArray n}:=by
 simp[Obj.mapSeq]
theorem Inv.lst{pins:List (Addr×Obj)}{σ:St}{H:Hp}{s:Shared}{p:Addr}{xs:List V}(I:Inv X pins σ H s)(h:H p=some (.lst xs)):
  ∃(its:List Value)(n:Nat),Vals xs its/\s.heap.get? p=some {cls:=.type "list",data:=.seq its.toArray n}/\xs.length<=sizeLine:=by
 obtain⟨z,its,n,r,e⟩:=I.hok p _ h;exact⟨its,n,r,e,z⟩
theorem Inv.Oc{pins:List (Addr×Obj)}{σ:St}{H:Hp}{s:Shared}{p:Addr}{xs ys:List V}{its its':List Value}{n n':Nat}{f:Obj->Obj}(I:Inv X pins σ H s)(h:H p=some (.lst xs))
  (ho:s.heap.get? p=some {cls:=.type "list",data:=.seq its.toArray n}) (hf:f {cls:=.type "list",data:=.seq its.toArray n}={cls:=.type "list",data:=.seq its'.toArray n'}) (r:Vals ys its') (hz:ys.length<=sizeLine) (t:Nat):
  Inv X pins σ (upd H p (.lst ys)) {s with heap:=s.heap.update p f,toks:=t}:=by
 have e:(s.heap.update p f).get? p=some {cls:=.type "list",data:=.seq its'.toArray n'}:=by
  rw[avD f ho (by rw[hf]<;>rfl),hf]
 refine I.write (x:=p) (e:=p) (by rw[h];trivial) (.inl rfl) (fun b u hb q=>(avr _ _ (Ne.symm hb)).trans q) ⟨_,e⟩ ?_;exact⟨hz,its',n',r,e⟩
def YZ:V->V->V->Hp->(Hp->Prop)->Prop:=fun o i v H Q=>∃p xs k j,o=.ref p/\i=.int k/\H p=some (.lst xs)/\lC xs.length k=some j/\Q (upd H p (.lst (xs.set j v)))
theorem wH:wu X YZ:=by
 intro pins s σ H o i v ov iv u Q I ro ri rv h;obtain⟨p,xs,k,j,rfl,rfl,hp,hj,q⟩:=h;cases ro;obtain⟨t,rfl⟩:=ri;obtain⟨its,n,r,ho,hz⟩:=I.lst hp;obtain⟨h1,h2,h3,h4⟩:=N8 hj;have hl:=r.length;have hn:=sO;have I':Inv X pins σ (upd H p (.lst (xs.set j v))) {s with heap:=s.heap.update p (Obj.mapSeq (·.setIfInBounds j u))}:=
  I.Oc hp ho (YX its n j u) (r.set rv j) (by rw[avN];exact hz) s.toks
 by_cases h0:0<=k
 ·have hk:k.toNat=j:=by
   rw[seqIndex_of h0 h4] at h1;exact aub h1
  exact PySem.W.ki_setAt ho h0 (by omega) (by rw[aum,<-hl];exact h4) (by rw[hk];exact⟨_,I',q⟩)
 ·have hk:(k+(its.toArray.size:Int)).toNat=j:=by
   rw[seqIndex_neg (by omega) h3] at h1;rw[aum,<-hl];exact aub h1
  exact PySem.W.ki_setBack ho (by omega) (by rw[aum,<-hl];exact h3) (by omega) (by rw[hk];exact⟨_,I',q⟩)
theorem Y0(lo hi:Option Int)(n:Nat):(sliceBounds lo hi none n).1=((HT.iT n 0 lo:Nat):Int)/\(sliceBounds lo hi none n).2.1=((HT.iT n n hi:Nat):Int)/\(sliceBounds lo hi none n).2.2=1:=by
 refine⟨?_,?_,rfl⟩
 ·cases lo with
  |none=>simp[sliceBounds,HT.iT]
  |some i=>
   simp only[sliceBounds,HT.iT,ax4,show(1:Int)>0 by decide,if_true];by_cases h:i<0
   ·simp only[h,if_true]<;>omega
   ·simp only[h,if_false]<;>omega
 ·cases hi with
  |none=>simp[sliceBounds,HT.iT]
  |some i=>
   simp only[sliceBounds,HT.iT,ax4,show(1:Int)>0 by decide,if_true];by_cases h:i<0
   ·simp only[h,if_true]<;>omega
   ·simp only[h,if_false]<;>omega
theorem Y4(its:List Value)(lo hi:Option Int):slicePick its.toArray lo hi none=((its.drop (HT.iT its.length 0 lo)).take (HT.iT its.length its.length hi-HT.iT its.length 0 lo)).toArray:=by
 obtain⟨h1,h2,h3⟩:=Y0 lo hi its.toArray.size;unfold slicePick;rw[h1,h2,h3];simp only[sliceRange_one,pick_run,aum]<;>rfl
def Y5(K:atQ):V->Option Int->Option Int->Hp->VK->Prop:=fun x lo hi H Q=>∃a xs,x=.ref a/\ak K H a xs/\∀p,H p=none->Q (.ref p) (upd H p (.lst (uL xs lo hi)))
theorem Y6:uK X (Y5 X.K):=by
 intro pins s σ H x v vl vu lo hi sl Q I rx hs pl pu h;obtain⟨a,xs,rfl,hx,q⟩:=h;cases rx;obtain⟨its,r,ht,hz⟩:=I.list hx;have hlen:=r.length;refine⟨"list",_,slot_list_getitem.lookup,ht.isList.typeIs,?_⟩;refine wpAny_getItem_list_slice ht.isList hs pl pu .none (by simp) ?_ (by rw[aum]<;>omega);rw[Y4,<-hlen];refine⟨.ref s.heap.objs.size,_,I.laid (t':=s.toks) (o:=.lst (uL xs lo hi)) (fun b ob q=>auc _ q) (atX _) ?_,rfl,q _ (I.hok.fresh (atX _))⟩;exact⟨auC (YM xs lo hi) hz,_,0,(r.drop (HT.iT xs.length 0 lo)).take (HT.iT xs.length xs.length hi-HT.iT xs.length 0 lo),auo _ rfl⟩
def pB:V->Bool
 |.non=>true
 |.bl _=>true
 |.int _=>true
 |.str _=>true
 |_=>false
def qJ:V->V->Bool
 |.non,.non=>true
 |.bl a,.bl b=>a==b
 |.bl a,.int b=>(if a then 1 else 0)==b
 |.int a,.bl b=>a==(if b then 1 else 0)
 |.int a,.int b=>a==b
 |.str a,.str b=>a==b
 |_,_=>false
theorem Y7{A:Around}{s:Shared}{y x:V}{u v:Value}(ry:RelV y u)(rx:RelV x v)(fy:pB y=true)(fx:pB x=true):SeqAt.EqAt A s u v (qJ y x):=by
 cases y with
 |non=>
  cases ry;cases x with
  |non=>cases rx;exact SeqAt.EqAt.same _
  |bl b=>cases rx;exact SeqAt.EqAt.none_bool b
  |int b=>obtain⟨t,rfl⟩:=rx;exact SeqAt.EqAt.none_int b t
  |str b=>obtain⟨t,rfl⟩:=rx;exact SeqAt.EqAt.none_str b t
  |_=>exact absurd (show false=true from fx) auq
 |bl a=>
  cases ry;cases x with
  |non=>cases rx;exact SeqAt.EqAt.bool_none a
  |bl b=>cases rx;exact SeqAt.EqAt.bool_bool a b
  |int b=>obtain⟨t,rfl⟩:=rx;exact SeqAt.EqAt.bool_int a b t
  |str b=>obtain⟨t,rfl⟩:=rx;exact SeqAt.EqAt.bool_str a b t
  |_=>exact absurd (show false=true from fx) auq
 |int a=>
  obtain⟨t',rfl⟩:=ry;cases x with
  |non=>cases rx;exact SeqAt.EqAt.int_none a t'
  |bl b=>cases rx;exact SeqAt.EqAt.int_bool a t' b
  |int b=>obtain⟨t,rfl⟩:=rx;exact SeqAt.EqAt.int_int a t' b t
  |str b=>obtain⟨t,rfl⟩:=rx;exact SeqAt.EqAt.int_str a t' b t
  |_=>exact absurd (show false=true from fx) auq
 |str a=>
  obtain⟨t',rfl⟩:=ry;cases x with
  |non=>cases rx;exact SeqAt.EqAt.str_none a t'
  |bl b=>cases rx;exact SeqAt.EqAt.str_bool a t' b
  |int b=>obtain⟨t,rfl⟩:=rx;exact SeqAt.EqAt.str_int a t' b t
  |str b=>obtain⟨t,rfl⟩:=rx;exact SeqAt.EqAt.str_str a t' b t
  |_=>exact absurd (show false=true from fx) auq
 |_=>exact absurd (show false=true from fy) auq
def Ew(x:V)(u:Value):Bool:=match u with
 |.none=>qJ .non x
 |.bool b=>qJ (.bl b) x
 |.int i _=>qJ (.int i) x
 |.str z _=>qJ (.str z) x
 |_=>false
theorem Ex{x y:V}{u:Value}(r:RelV y u)(f:pB y=true):Ew x u=qJ y x:=by
 cases y with
 |non=>cases r;rfl
 |bl b=>cases r;rfl
 |int i=>obtain⟨t,rfl⟩:=r;rfl
 |str z=>obtain⟨t,rfl⟩:=r;rfl
 |_=>exact absurd (show false=true from f) auq
theorem Od{A:Around}{s:Shared}{x:V}{v:Value}(rx:RelV x v)(fx:pB x=true):∀{xs:List V}{us:List Value},Vals xs us->xs.all pB=true->∀u∈us,SeqAt.EqAt A s u v (Ew x u)
 |_,_,.nil,_=>fun u hu=>by cases hu
 |y::xs,u::us,.cons r t,f=>fun u' hu=>by
  rw[List.all_cons,aup] at f;rcases at3.mp hu with rfl|hu
  ·rw[Ex r f.1];exact Y7 r rx f.1 fx
  ·exact Od rx fx t f.2 u' hu
theorem jb:gO X (.builtin "len") (fun xs H Q=>∃p ys,xs=[.ref p]/\(ak X.K H p ys\/bB X.K H p ys)/\Q (.int ys.length) H):=by
 intro pins s σ H xs us Q I r h;obtain⟨p,ys,rfl,hq,q⟩:=h;obtain⟨u,rfl,rx⟩:=nq r;cases rx;have hn:=sO;rcases hq with hq|hq
 ·obtain⟨its,r',pl,hz⟩:=I.list hq;have hlen:=r'.length;exact Calls.call_len_list pl.isList (by simp only[aum]<;>omega) ⟨.int ys.length,H,I.tok _,⟨s.toks+1,by rw[aum,hlen]⟩,q⟩
 ·obtain⟨its,r',pl,hz⟩:=I.tuple hq;have hlen:=r'.length;exact len_tuple pl (by simp only[aum]<;>omega) ⟨.int ys.length,H,I.tok _,⟨s.toks+1,by rw[aum,hlen]⟩,q⟩
theorem gO.or{f:Value}{r r':List V->Hp->VK->Prop}(h:gO X f r)(h':gO X f r'):gO X f (fun xs H Q=>r xs H Q\/r' xs H Q):=by
 intro pins s σ H xs us Q I rs q;rcases q with q|q
 ·exact h pins s σ H xs us Q I rs q
 ·exact h' pins s σ H xs us Q I rs q
theorem Y8:gO X (.type "list") (fun xs H Q=>∃p ys,xs=[.ref p]/\(ak X.K H p ys\/bB X.K H p ys)/\∀l,H l=none->Q (.ref l) (upd H l (.lst ys))):=by
 intro pins s σ H xs us Q I r h;obtain⟨p,ys,rfl,hq,q⟩:=h;obtain⟨u,rfl,rx⟩:=nq r;cases rx;have fin:∀(its:List Value),Vals ys its->ys.length<=sizeLine->∀(h':Heap)(c':Nat),(∀b o',s.heap.get? b=some o'->h'.get? b=some o')->
   h'.get? s.heap.objs.size=some {cls:=.type "list",dict:=none,data:=.seq its.toArray c',slots:= #[]}->EP X pins σ Q (.ref s.heap.objs.size) {s with heap:=h'}:=fun its r' hz h' c' kp e=>
  ⟨.ref s.heap.objs.size,_,I.laid (t':=s.toks) kp (atX _) (show cQ X.prog X.w _ h' _ (.lst ys) from⟨hz,its,c',r',e⟩),rfl,q _ (I.hok.fresh (atX _))⟩
 rcases hq with hq|hq
 ·obtain⟨its,r',pl,hz⟩:=I.list hq;have hlen:=r'.length;obtain⟨o,ho,hc,n,hd⟩:=pl.isList;exact call_list_seq p (.inl rfl) ho hc hd (fun h' c' kp e=>fin its r' hz h' c' kp e) (by simp only[aum]<;>omega)
 ·obtain⟨its,r',pl,hz⟩:=I.tuple hq;have hlen:=r'.length;obtain⟨o,ho,hc,n,hd⟩:=pl;exact call_list_seq p (.inr rfl) ho hc hd (fun h' c' kp e=>fin its r' hz h' c' kp e) (by simp only[aum]<;>omega)
theorem zc:gO X (.type "tuple") (fun xs H Q=>∃p ys,xs=[.ref p]/\((ak X.K H p ys/\∀l,H l=none->Q (.ref l) (upd H l (.tup ys)))\/(bB X.K H p ys/\Q (.ref p) H))):=by
 intro pins s σ H xs us Q I r h;obtain⟨p,ys,rfl,h⟩:=h;obtain⟨u,rfl,rx⟩:=nq r;cases rx;rcases h with⟨hq,q⟩|⟨hq,q⟩
 ·obtain⟨its,r',pl,hz⟩:=I.list hq;have hlen:=r'.length;refine call_tuple_list pl.isList (fun h' kp=>?_) (by simp only[aum]<;>omega);have I1:Inv X pins σ H {s with heap:=h'}:=I.kept (t':=s.toks) kp;have I2:Inv X pins σ (upd H h'.objs.size (.tup ys)) {s with heap:=h'.push {cls:=.type "tuple",data:=.seq its.toArray}}:=
   I1.laid (t':=s.toks) (fun b o e=>auc _ e) (atX _) (show cQ X.prog X.w _ _ _ (.tup ys) from⟨hz,its,r',IsTup.new _ _⟩)
  exact⟨.ref h'.objs.size,_,I2,rfl,q _ (I1.hok.fresh (atX _))⟩
 ·obtain⟨its,r',pl,hz⟩:=I.tuple hq;exact call_tuple_same pl ⟨.ref p,H,I,rfl,q⟩
def Ey(K:atQ)(T:String)(x:V)(H:Hp):Prop:=match x with
 |.str _=>T="str"
 |.int _=>T="int"
 |.ref p=>(T="list"/\∃xs,ak K H p xs)\/(T="tuple"/\∃o,K.lookup p=some o/\o.cls=.type "tuple"/\o.dict=none)\/
   (T="dict"/\((∃kvs,H p=some (.dK kvs))\/∃kvs,H p=some (.dT kvs)))\/(T="set"/\∃S n,H p=some (.set S n))
 |_=>False
theorem Oe{pins:List (Addr×Obj)}{σ:St}{H:Hp}{s:Shared}{T:String}{x:V}{v:Value}(I:Inv X pins σ H s)(r:RelV x v)(ty:Ey X.K T x H):
  s.TypeIs v T/\∀a,v=.ref a->∃ob,s.heap.get? a=some ob/\ob.dict=none:=by
 cases x with
 |str z=>
  obtain⟨t,rfl⟩:=r;cases(show T="str" from ty);exact⟨typeIs_str s z t,fun _ e=>nomatch e⟩
 |int i=>
  obtain⟨t,rfl⟩:=r;cases(show T="int" from ty);exact⟨typeIs_int s i t,fun _ e=>nomatch e⟩
 |ref p=>
  cases r;rcases ty with⟨rfl,xs,hq⟩|⟨rfl,o,hk,hc,hd⟩|⟨rfl,hk⟩|⟨rfl,S,n,hk⟩
  ·obtain⟨its,_,pl,_⟩:=I.list hq;refine⟨pl.isList.typeIs,fun a e=>?_⟩;cases e;obtain⟨o,n,e,c,hd,_⟩:=pl;exact⟨o,e,hd⟩
  ·refine⟨⟨o,I.gA p o hk,hc⟩,fun a e=>?_⟩;cases e;exact⟨o,I.gA _ o hk,hd⟩
  ·have z:∃o,s.heap.get? p=some o/\o.ExactDict:=by
    rcases hk with⟨kvs,hk⟩|⟨kvs,hk⟩
    ·obtain⟨_,_,_,_,o,_,_,e,ex,_⟩:=I.hok p _ hk;exact⟨o,e,ex⟩
    ·obtain⟨_,_,_,_,o,_,_,e,ex,_⟩:=I.hok p _ hk;exact⟨o,e,ex⟩
   obtain⟨o,e,ex⟩:=z;refine⟨⟨o,e,ex.1⟩,fun a e2=>?_⟩;cases e2;exact⟨o,e,ex.2.1⟩
  ·obtain⟨o,_,_,_,e,ex,_⟩:=I.hok p _ hk;refine⟨⟨o,e,ex.1⟩,fun a e2=>?_⟩;cases e2;exact⟨o,e,ex.2.1⟩
 |_=>exact False.elim ty
def Y9(K:atQ)(T:String)(r:V->List V->Hp->VK->Prop)(to:TE):TE:=fun σ H Q=>to σ H fun x H1=>Ey K T x H1/\r x [] H1 Q
def Za(K:atQ)(T:String)(r:V->List V->Hp->VK->Prop)(to:TE)(t:TA):TE:=fun σ H Q=>to σ H fun x H1=>Ey K T x H1/\t σ H1 fun xs H2=>r x xs H2 Q
variable{o e:Expr}{es:List Expr}{to:TE}{t:TA}{name:Str}{apos cpos:Pos}{T id:String}{r:V->List V->Hp->VK->Prop}
theorem sW(pa:PlainAttrs T)(slot:Slot T name id)(hty:typeOf (.builtin id)=pure (.type "method_descriptor"))(hm:sU X id r)(ho:PE X o to)
  (hbase:attributeBase o name X.env (eval o X.env)=eval o X.env:=by rfl) (hline:(apos.endLine==cpos.line)=true:=by rfl):PE X (.Call (.Attribute o name apos) [] [] cpos) (Y9 X.K T r to):=by
 intro pins s σ H Q I h;refine wpAny_Call_method0_late hbase hline (aO (ho pins s σ H _ I h) fun v s1 ⟨x,H1,I1,r1,ty,q1⟩=>?_);obtain⟨h1,h2⟩:=Oe I1 r1 ty;exact⟨T,id,pa,slot,hty,h1,h2,Calls.callWith_builtin rfl (PySem.evalArgs_none (hm pins s1 σ H1 x [] v [] Q I1 r1 .nil q1))⟩
theorem ju(pa:PlainAttrs T)(slot:Slot T name id)(hty:typeOf (.builtin id)=pure (.type "method_descriptor"))(hm:sU X id r)(ho:PE X o to)(ha:PA X (e::es) t)
  (hbase:attributeBase o name X.env (eval o X.env)=eval o X.env:=by rfl)
  (hfew:((backTo cpos (starEach (e::es) X.env)).all (fun x=> !x.1)&&(backToKw cpos (keywordEach [] X.env)).all (fun x=>x.1.isSome)
   &&decide ((e::es).length+([]:List Keyword).length+(if([]:List Keyword).isEmpty then 0 else 1)<30))=true:=by rfl)
  (hline:(apos.endLine==cpos.line)=true:=by rfl) (hs:starEach (e::es) X.env=(false,eval e X.env)::starEach es X.env:=by rfl) (hplain:(backTo cpos (starEach es X.env)).any (·.1)=false:=by rfl):
  PE X (.Call (.Attribute o name apos) (e::es) [] cpos) (Za X.K T r to t):=by
 intro pins s σ H Q I h;refine wpAny_Call_method_late hbase hfew hline rfl (aO (ho pins s σ H _ I h) fun v s1 ⟨x,H1,I1,r1,ty,q1⟩=>?_);obtain⟨h1,h2⟩:=Oe I1 r1 ty;refine⟨T,id,pa,slot,hty,h1,h2,?_⟩;have hA:=ha cpos pins s1 σ H1 _ I1 q1;rw[hs] at hA⊢;refine Calls.callWith_builtin (by show(false||(backTo cpos (starEach es X.env)).any (·.1))=false;rw[hplain]<;>rfl) (Calls.evalArgs_plain ?_);exact aO hA fun us s2 ⟨vs,H2,I2,r2,q2⟩=>hm pins s2 σ H2 x vs v us Q I2 r1 r2 q2
end
def zf(X:Cx)(id:String)(r:V->List V->Hp->VK->Prop):Prop:=
 ∀(pins:List (Addr×Obj))(s:Shared)(σ:St)(H:Hp)(x:V)(xs:List V)(v:Value)(us:List Value)(Q:VK),Inv X pins σ H s->RelV x v->Vals xs us->r x xs H Q->
  wpAny (model X.prog X.w) X.A (call (.builtin id) (v::us)) (EP X pins σ Q) X.xe s
theorem Vals.one:∀{x:V}{us:List Value},Vals [x] us->∃u,us=[u]/\RelV x u
 |_,_,.cons r .nil=>⟨_,rfl,r⟩
theorem Vals.two:∀{x y:V}{us:List Value},Vals [x,y] us->∃u v,us=[u,v]/\RelV x u/\RelV y v
 |_,_,_,.cons r (.cons q .nil)=>⟨_,_,rfl,r,q⟩
theorem Vals.zero:∀{us:List Value},Vals [] us->us=[]
 |_,.nil=>rfl
theorem Vals.dropLast{xs:List V}{us:List Value}(h:Vals xs us):Vals xs.dropLast us.dropLast:=by
 induction h with
 |nil=>exact .nil
 |cons r t ih=>
  cases t with
  |nil=>exact .nil
  |cons q t'=>exact .cons r ih
theorem Vals.eraseIdx:∀{xs:List V}{us:List Value}(i:Nat),Vals xs us->Vals (xs.eraseIdx i) (us.eraseIdx i)
 |_,_,_,.nil=>.nil
 |_,_,0,.cons _ t=>t
 |_,_,i+1,.cons r t=>.cons r (Vals.eraseIdx i t)
theorem Vals.reverse{xs:List V}{us:List Value}(h:Vals xs us):Vals xs.reverse us.reverse:=by
 induction h with
 |nil=>exact .nil
 |cons r t ih=>rw[avO,avO];exact Vals.append ih (.cons r .nil)
theorem Vals.rep{xs:List V}{us:List Value}(h:Vals xs us):∀k:Nat,Vals (auk k xs).flatten (auk k us).flatten
 |0=>.nil
 |k+1=>by
  rw[avs,avs,avX,avX];exact Vals.append h (Vals.rep h k)
theorem Zb{α:Type}(l:List α):l.eraseIdx (l.length-1)=l.dropLast:=by
 induction l with
 |nil=>rfl
 |cons a r ih=>
  cases r with
  |nil=>rfl
  |cons b r=>
   have e:(a::b::r).length -1=((b::r).length -1)+1:=by
    have h1:(a::b::r).length=r.length+2:=rfl;have h2:(b::r).length=r.length+1:=rfl;omega
   rw[e,List.eraseIdx_cons_succ,ih]
   all_goals rfl
theorem Og(its:List Value):∀(k:Nat)(acc:List Value),
  axj (fun x1 x2=>x1++x2) acc.toArray (auk k its.toArray)=(acc++(auk k its).flatten).toArray
 |0,acc=>by simp
 |k+1,acc=>by
  have e:acc.toArray++its.toArray=(acc++its).toArray:=by simp
  have e2:(acc++its)++(auk k its).flatten=acc++(auk (k+1) its).flatten:=by
   rw[avs,avX,awz]
  rw[<-e2,<-Og its k (acc++its),<-e,avs,awA]
section
variable{X:Cx}{pins:List (Addr×Obj)}{σ:St}{H:Hp}{s:Shared}{l b:Addr}{xs ys zs:List V}
theorem Inv.zg{its its':List Value}{n:Nat}{f:Array Value->Array Value}{t':Nat}(I:Inv X pins σ H s)(hH:H l=some (.lst xs))
  (e:s.heap.get? l=some {cls:=.type "list",data:=.seq its.toArray n}) (hf:f its.toArray=its'.toArray) (hv:Vals ys its') (hz:ys.length<=sizeLine):
  Inv X pins σ (upd H l (.lst ys)) {s with heap:=s.heap.update l (Obj.mapSeq f),toks:=t'}:=by
 have q:=PySem.IsL.update e f;rw[hf] at q;refine I.write (x:=l) (e:=l) (by rw[hH];exact trivial) (.inl rfl) (fun b' u hb hu=>(avr s.heap (Obj.mapSeq f) (Ne.symm hb)).trans hu) ⟨_,q⟩ ?_;exact⟨hz,its',_,hv,q⟩
theorem Inv.Oh{its:List Value}{t':Nat}(I:Inv X pins σ H s)(hv:Vals ys its)(hz:ys.length<=sizeLine):
  Inv X pins σ (upd H s.heap.objs.size (.lst ys)) {s with heap:=s.heap.push {cls:=.type "list",data:=.seq its.toArray},toks:=t'}:=
 I.laid (fun _ _ q=>auc _ q) (atX _) ⟨hz,its,0,hv,auo _ rfl⟩
theorem Inv.fresh(I:Inv X pins σ H s):H s.heap.objs.size=none:=I.hok.fresh (atX _)
theorem Inv.qK(I:Inv X pins σ H s)(hH:H l=some (.lst xs)):xs.length<=sizeLine/\∃(its:List Value)(n:Nat),Vals xs its/\xs.length=its.length/\s.heap.get? l=some {cls:=.type "list",data:=.seq its.toArray n}:=by
 obtain⟨z,its,n,r,e⟩:=I.hok l _ hH;exact⟨z,its,n,r,r.length,e⟩
theorem Oi{n:Nat}(h:n<=sizeLine):Builtin.List.listTooLong n=false:=by
 unfold Builtin.List.listTooLong;exact decide_eq_false (by omega)
end
section
variable{X:Cx}
def Zc:V->List V->Hp->VK->Prop:=fun x vs H Q=>∃l xs y,x=.ref l/\vs=[y]/\H l=some (.lst xs)/\xs.length<sizeLine/\Q .non (upd H l (.lst (xs++[y])))
theorem jX:zf X "list.append" Zc:=by
 intro pins s σ H x vs v us Q I rx rv h;obtain⟨l,xs,y,rfl,rfl,hH,hz,q⟩:=h;cases rx;obtain⟨u,rfl,ru⟩:=rv.one;obtain⟨z,its,n,r,hl,e⟩:=I.qK hH;refine call_meets auW ⟨_,e,rfl⟩ F.entry_list_append (F.args_list_append_2 _ _) (PySem.list_append l its.toArray n u (by rw[aum];omega)) ⟨e,?_⟩;refine⟨.non,_,I.zg (its':=its++[u]) hH e (by simp) (r.append (.cons ru .nil)) ?_,rfl,q⟩;rw[aud,List.length_singleton];omega
def Zd:V->List V->Hp->VK->Prop:=fun x vs H Q=>∃l b xs zs,x=.ref l/\vs=[.ref b]/\H l=some (.lst xs)/\H b=some (.lst zs)/\xs.length+zs.length<=sizeLine/\Q .non (upd H l (.lst (xs++zs)))
theorem Ze:zf X "list.extend" Zd:=by
 intro pins s σ H x vs v us Q I rx rv h;obtain⟨l,b,xs,zs,rfl,rfl,hH,hB,hz,q⟩:=h;cases rx;obtain⟨u,rfl,ru⟩:=rv.one;cases ru;obtain⟨z,its,n,r,hl,e⟩:=I.qK hH;obtain⟨z2,its2,n2,r2,hl2,e2⟩:=I.qK hB;have hsz:its.toArray.size+its2.toArray.size<=sizeLine:=by rw[aum,aum];omega
 have Ez:¬(!its.toArray.isEmpty&&Builtin.List.listTooLong (its.toArray.size+its2.toArray.size))=true:=by
  rw[Oi hsz,Bool.and_false];exact auq
 refine call_meets ax5 ⟨_,e,rfl⟩ F.entry_list_extend (F.args_list_extend_2 _ _)
  (AutoSeq1.list_extend_list_list_0 l its.toArray n b its2.toArray n2 Ez (by rw[aum];omega) (by omega)) ⟨e,e2,?_⟩
 refine⟨.non,_,I.zg (its':=its++its2) hH e (by simp) (r.append r2) ?_,rfl,q⟩;rw[aud];omega
def Zf:V->List V->Hp->VK->Prop:=fun x vs H Q=>∃l xs y,x=.ref l/\vs=[]/\H l=some (.lst xs)/\xs[xs.length-1]?=some y/\Q y (upd H l (.lst xs.dropLast))
theorem uM:zf X "list.pop" Zf:=by
 intro pins s σ H x vs v us Q I rx rv h;obtain⟨l,xs,y,rfl,rfl,hH,hy,q⟩:=h;cases rx;have hus:=rv.zero;subst hus;obtain⟨z,its,n,r,hl,e⟩:=I.qK hH;obtain⟨u,hu,ru⟩:=r.get hy;have hy':its.toArray[its.toArray.size-1]?=some u:=by
  show its.toArray[its.length-1]?=some u;rw[<-avc,<-hl];exact hu
 refine call_meets avP ⟨_,e,rfl⟩ F.entry_list_pop (F.args_list_pop_1 _) (MeetsSeq.list_pop_last l its.toArray n u hy' (by rw[aum];omega)) ⟨e,?_⟩;refine⟨y,_,I.zg (its':=its.dropLast) hH e ?_ r.dropLast ?_,ru,q⟩
 ·show its.toArray.eraseIdxIfInBounds (its.toArray.size-1)=its.dropLast.toArray;rw[aum,List.eraseIdxIfInBounds_toArray,Zb]
 ·rw[List.length_dropLast];omega
def Zg:V->List V->Hp->VK->Prop:=fun x vs H Q=>∃l xs,x=.ref l/\vs=[]/\H l=some (.lst xs)/\Q .non (upd H l (.lst xs.reverse))
theorem Zh:zf X "list.reverse" Zg:=by
 intro pins s σ H x vs v us Q I rx rv h;obtain⟨l,xs,rfl,rfl,hH,q⟩:=h;cases rx;have hus:=rv.zero;subst hus;obtain⟨z,its,n,r,hl,e⟩:=I.qK hH;refine call_meets ax6 ⟨_,e,rfl⟩ F.entry_list_reverse (F.args_list_reverse_1 _) (AutoSeq1.list_reverse_list_0 l its.toArray n (by rw[aum];omega)) ⟨e,?_⟩;refine⟨.non,_,I.zg (its':=its.reverse) hH e (by simp) r.reverse ?_,rfl,q⟩;rw[awb];omega
def EY:R2:=fun x y H Q=>∃l b xs zs,x=.ref l/\y=.ref b/\H l=some (.lst xs)/\H b=some (.lst zs)/\xs.length+zs.length<=sizeLine/\∀p,H p=none->Q (.ref p) (upd H p (.lst (xs++zs)))
theorem qL:fu X (binaryOp .Add) EY:=by
 intro pins s σ H x y v u Q I rx ry h;obtain⟨l,b,xs,zs,rfl,rfl,hH,hB,hz,q⟩:=h;cases rx;cases ry;obtain⟨z,its,n,r,hl,e⟩:=I.qK hH;obtain⟨z2,its2,n2,r2,hl2,e2⟩:=I.qK hB;refine PySem.P.add_list e e2 ?_ (by rw[aum,aum];omega);have ea:its.toArray++its2.toArray=(its++its2).toArray:=by simp
 rw[ea];exact⟨.ref _,_,I.Oh (t':=s.toks) (r.append r2) (by rw[aud];omega),rfl,q _ I.fresh⟩
def Zi:R2:=fun x y H Q=>∃l k xs,x=.ref l/\y=.int k/\H l=some (.lst xs)/\ -(2^63)<=k/\k<2^63/\xs.length*k.toNat<=sizeLine/\
 ∀p,H p=none->Q (.ref p) (upd H p (.lst (auk k.toNat xs).flatten))
theorem Zj{α:Type}(xs:List α)(k:Nat):(auk k xs).flatten.length=k*xs.length:=by
 induction k with
 |zero=>simp
 |succ k ih=>rw[avs,avX,aud,ih,Nat.succ_mul,axk]
theorem Fb:fu X (binaryOp .Mult) Zi:=by
 intro pins s σ H x y v u Q I rx ry h;obtain⟨l,k,xs,rfl,rfl,hH,h1,h2,hz,q⟩:=h;cases rx;obtain⟨t,rfl⟩:=ry;obtain⟨z,its,n,r,hl,e⟩:=I.qK hH;have hlen:its.toArray.size*k.toNat<=sizeLine:=by rw[aum,<-hl];exact hz
 have hcap:¬its.toArray.size*k.toNat>(2^63-1)/8:=by
  have:(sizeLine:Nat)<=(2^63-1)/8:=by decide
  omega
 have hfit:¬(!Builtin.List.listFitsIndex k)=true:=by
  rw[fitsIndex_both h1 h2];exact auq
 have Ez:¬Builtin.List.listTooLong (its.toArray.size*k.toNat)=true:=by
  rw[Oi hlen];exact auq
 have hnew:axj (fun x1 x2=>x1++x2) #[] (auk (if its.toArray.isEmpty=true then 0 else k.toNat) its.toArray)=(auk k.toNat its).flatten.toArray:=by
  have f0:∀m:Nat,axj (fun x1 x2=>x1++x2) #[] (auk m its.toArray)=(auk m its).flatten.toArray:=fun m=>by
   have:=Og its m [];rw[axl] at this;exact this
  rw[f0];cases its with
  |nil=>simp
  |cons a r'=>rw[if_neg (by simp)]
 refine wpAny_binaryOp_repeat_ref (T:="list") (U:="int") (by decide) ⟨_,e,rfl⟩ (fun s'=>typeIs_int s' k t) noFill_list_mul F.fills_int_mul F.slot_int_rmul repeat_list F.slot_int_index.lookup
  (call_meets F.slot_int_rmul (typeIs_int s k t) F.entry_int_rmul (F.args_int_rmul_2 _ _) (int___rmul___int_list k t l its.toArray n)
   ⟨e,rfl,⟨_,e,rfl⟩,call_meets F.slot_list_mul ⟨_,e,rfl⟩ F.entry_list_mul (F.args_list_mul_2 _ _) (AutoListH.list___mul___list_int_3 l its.toArray n k t hfit hcap Ez) ⟨e,?_⟩⟩)
 rw[hnew];exact⟨.ref _,_,I.Oh (t':=s.toks) (r.rep k.toNat) (by rw[Zj,awB];exact hz),rfl,q _ I.fresh⟩
end
theorem Vals.ints:∀{ns:List Int}{us:List Value},Vals (ns.map V.int) us->IntsAre us ns
 |[],us,h=>by
  rw[awC] at h;cases h;exact IntsAre.nil
 |n::ns,us,h=>by
  rw[auf] at h;cases h with
  |cons r t=>
   obtain⟨k,rfl⟩:=r;exact IntsAre.cons n k (Vals.ints t)
theorem Oj:∀{us:List Value}{ns:List Int},IntsAre us ns->Vals (ns.map V.int) us
 |_,_,.nil=>by rw[awC];exact Paired.nil
 |_,_,.cons n t h=>by rw[auf];exact Paired.cons (show RelV (V.int n) (au6 n t) from⟨t,rfl⟩) (Oj h)
theorem Vals.strs:∀{xs:List Str}{us:List Value},Vals (xs.map V.str) us->StrsAre us xs
 |[],us,h=>by
  rw[awC] at h;cases h;exact StrsAre.nil
 |x::xs,us,h=>by
  rw[auf] at h;cases h with
  |cons r t=>
   obtain⟨k,rfl⟩:=r;exact StrsAre.cons x k (Vals.strs t)
theorem Vals.Fd{a:Addr}{us:List Value}(r:Vals [V.ref a] us):us=[aue a]:=by
 cases r with
 |cons r t=>
  cases t;cases r;rfl
section
variable{prog:Program}{w:World}{A:Around}{E:Value->Shared->Prop}{s:Shared}{l:Addr}{its:List Value}{ns:List Int}{Q:Value->Shared->Prop}
theorem Zk(hh:A.handled=none)(hl:s.heap.IsList l its.toArray)(hi:IntsAre its ns)
  (h:∀h' tk t',(∀b o,s.heap.get? b=some o->h'.get? b=some o)->Q (.int ns.sum t') {s with heap:=h',toks:=tk}):wpAny (model prog w) A (call (.builtin "sum") [.ref l]) Q E s:=by
 obtain⟨xs,e⟩:=hi.allInts.items;have hn:numsOf (intItems xs).toList=ns:=by rw[<-e];exact hi.numsOf
 rw[nums_intItems] at hn;rw[e] at hl;refine PySem.sum_intListG hh hl fun h' tk t' hk=>?_
 have:=h h' tk t' hk;rw[preSum_eq,axm (by simp),hn];exact this
theorem Zm(hh:A.handled=none)(hl:s.heap.IsList l its.toArray)(hi:IntsAre its ns)(hne:0<ns.length)
  (h:∀h' tk M t',(∀b o,s.heap.get? b=some o->h'.get? b=some o)->M∈ns->(∀a,a∈ns->a<=M)->Q (.int M t') {s with heap:=h',toks:=tk}):wpAny (model prog w) A (call (.builtin "max") [.ref l]) Q E s:=by
 obtain⟨xs,e⟩:=hi.allInts.items;have hn:numsOf (intItems xs).toList=ns:=by rw[<-e];exact hi.numsOf
 rw[nums_intItems] at hn;subst hn;rw[e] at hl;have hsz:0<xs.size:=by simpa using hne
 refine PySem.max_intList hh hl hsz fun v h' tk hv hk=>?_
 obtain⟨t,rfl⟩:=intItems_at hv;obtain⟨h1,h2⟩:=argBest_gt (numAt xs) (xs.size-1);refine h h' tk _ t hk ?_ fun a ha=>?_
 ·rw[numAt_eq];exact PySem.getD_mem (by rw[atR,aut];omega)
 ·obtain⟨j,hj,rfl⟩:=mem_getD ha;rw[atR,aut] at hj;rw[<-numAt_eq];exact h2 j (by omega)
theorem Zn(hh:A.handled=none)(hl:s.heap.IsList l its.toArray)(hi:IntsAre its ns)(hne:0<ns.length)
  (h:∀h' tk M t',(∀b o,s.heap.get? b=some o->h'.get? b=some o)->M∈ns->(∀a,a∈ns->M<=a)->Q (.int M t') {s with heap:=h',toks:=tk}):wpAny (model prog w) A (call (.builtin "min") [.ref l]) Q E s:=by
 obtain⟨xs,e⟩:=hi.allInts.items;have hn:numsOf (intItems xs).toList=ns:=by rw[<-e];exact hi.numsOf
 rw[nums_intItems] at hn;subst hn;rw[e] at hl;have hsz:0<xs.size:=by simpa using hne
 refine PySem.min_intList hh hl hsz fun v h' tk hv hk=>?_
 obtain⟨t,rfl⟩:=intItems_at hv;obtain⟨h1,h2⟩:=argBest_lt (numAt xs) (xs.size-1);refine h h' tk _ t hk ?_ fun a ha=>?_
 ·rw[numAt_eq];exact PySem.getD_mem (by rw[atR,aut];omega)
 ·obtain⟨j,hj,rfl⟩:=mem_getD ha;rw[atR,aut] at hj;rw[<-numAt_eq];exact h2 j (by omega)
end
section
variable{X:Cx}
def Zo(K:atQ):List V->Hp->VK->Prop:=fun vs H Q=>∃(a:Addr)(ns:List Int),vs=[V.ref a]/\ak K H a (ns.map V.int)/\Q (.int ns.sum) H
def Ol(K:atQ):List V->Hp->VK->Prop:=fun vs H Q=>∃(a:Addr)(ns:List Int),vs=[V.ref a]/\ak K H a (ns.map V.int)/\0<ns.length/\∀m,m∈ns->(∀y,y∈ns->y<=m)->Q (.int m) H
def Om(K:atQ):List V->Hp->VK->Prop:=fun vs H Q=>∃(a:Addr)(ns:List Int),vs=[V.ref a]/\ak K H a (ns.map V.int)/\0<ns.length/\∀m,m∈ns->(∀y,y∈ns->m<=y)->Q (.int m) H
theorem zj(hc:X.calm=true):gO X (.builtin "sum") (Zo X.K):=by
 intro pins s σ H vs us Q I r h;obtain⟨a,ns,rfl,hs,q⟩:=h;obtain⟨its,rv,hl,_⟩:=I.list hs;rw[Vals.Fd r];exact Zk (I.ok.hd hc) hl.isList rv.ints fun h' tk t' hk=>⟨.int _,H,I.kept hk,⟨_,rfl⟩,q⟩
theorem Fe(hc:X.calm=true):gO X (.builtin "max") (Ol X.K):=by
 intro pins s σ H vs us Q I r h;obtain⟨a,ns,rfl,hs,hne,q⟩:=h;obtain⟨its,rv,hl,_⟩:=I.list hs;rw[Vals.Fd r];exact Zm (I.ok.hd hc) hl.isList rv.ints hne fun h' tk m t' hk h1 h2=>⟨.int _,H,I.kept hk,⟨_,rfl⟩,q m h1 h2⟩
theorem Ff(hc:X.calm=true):gO X (.builtin "min") (Om X.K):=by
 intro pins s σ H vs us Q I r h;obtain⟨a,ns,rfl,hs,hne,q⟩:=h;obtain⟨its,rv,hl,_⟩:=I.list hs;rw[Vals.Fd r];exact Zn (I.ok.hd hc) hl.isList rv.ints hne fun h' tk m t' hk h1 h2=>⟨.int _,H,I.kept hk,⟨_,rfl⟩,q m h1 h2⟩
theorem Zq{n:Nat}(h:n<64):n<=sizeLine:=by rw[sizeLine_eq];omega
def Zr(K:atQ):V->List V->Hp->VK->Prop:=fun x xs H Q=>∃(a:Addr)(ys:List V)(y:V)(j:Nat)(z:V),x=V.ref a/\xs=[y]/\ak K H a ys/\pB y=true/\ys.all pB=true/\ys[j]?=some z/\qJ z y=true/\
 (∀(m:Nat)(z':V),m<j->ys[m]?=some z'->qJ z' y=false)/\Q (.int (j:Nat)) H
theorem Oo{ys:List V}(f:ys.all pB=true){j:Nat}{z:V}(h:ys[j]?=some z):pB z=true:=auy.mp f z (auI h)
theorem Zt:sU X "list.index" (Zr X.K):=by
 intro pins s σ H x xs v us Q I rx Zu h;obtain⟨a,ys,y,j,z,rfl,rfl,hs,fy,Fg,hz,Zv,hno,q⟩:=h;cases rx;cases Zu with
 |cons ry rt=>
  rename_i uy ut
  cases rt;obtain⟨its,rv,⟨⟨cls,dd,data,sl⟩,n,ho,hc,hdn,hd⟩,hlen⟩:=I.list hs;simp only at hc hd;subst hc hd;obtain⟨u,hu,ru⟩:=rv.get hz;obtain⟨hjl,Zw⟩:=at9.mp hu;have hvl:=rv.length;have hj:j<its.toArray.size:=by simpa using hjl
  have hsl:=sizeLine_eq;refine call_meets ax7 ⟨_,ho,rfl⟩ PySem.F.entry_list_index (PySem.F.args_list_index_2 _ _)
   (SeqAt.list_indexAt a its.toArray n dd sl uy (Ew y) j hj (by omega) ?_ ?_) ⟨ho,fun u' hu'=>Od ry fy rv Fg u' (by simpa using hu'),?_⟩
  ·have e1:its.toArray[j]=u:=by simpa using Zw
   rw[e1,Ex ru (Oo Fg hz)];exact Zv
  ·intro m hm Zx;have hml:m<its.length:=by simpa using hm
   have Zy:m<ys.length:=by omega
   have hy':ys[m]?=some ys[m]:=atY Zy;obtain⟨u2,hu2,wI⟩:=rv.get hy';obtain⟨_,Zz⟩:=at9.mp hu2;have e1:its.toArray[m]=u2:=by simpa using Zz
   rw[e1,Ex wI (Oo Fg hy')];exact hno m _ Zx hy'
  ·exact⟨.int (j:Nat),H,I.tok _,⟨_,rfl⟩,q⟩
end
mutual
inductive Dp(K:atQ)(H:Hp):V->PyData->Prop
 |non:Dp K H .non .none
 |bl (b:Bool):Dp K H (.bl b) (.bool b)
 |int (i:Int):Dp K H (.int i) (.int i)
 |str (x:Str):Dp K H (.str x) (.str x)
 |lst {a:Addr} {xs:List V} {ds:List PyData}:ak K H a xs->sX K H xs ds->Dp K H (.ref a) (.list ds)
 |tup {a:Addr} {xs:List V} {ds:List PyData}:bB K H a xs->sX K H xs ds->Dp K H (.ref a) (.tuple ds)
inductive sX(K:atQ)(H:Hp):List V->List PyData->Prop
 |nil:sX K H [] []
 |cons {v:V} {vs:List V} {d:PyData} {ds:List PyData}:Dp K H v d->sX K H vs ds->sX K H (v::vs) (d::ds)
end
section
variable{X:Cx}{pins:List (Addr×Obj)}{σ:St}{H:Hp}{s:Shared}
mutual
theorem Dp.reads(I:Inv X pins σ H s):∀(d:PyData)(v:V)(u:Value),Dp X.K H v d->RelV v u->∃as,Reads s.heap u d as
 |.none,_,_,h,r=>by
  cases h;cases r;exact⟨_,Reads.none⟩
 |.bool b,_,_,h,r=>by
  cases h;cases r;exact⟨_,Reads.bool b⟩
 |.int i,_,_,h,r=>by
  cases h;obtain⟨t,rfl⟩:=r;exact⟨_,Reads.int i t⟩
 |.str x,_,_,h,r=>by
  cases h;obtain⟨t,rfl⟩:=r;exact⟨_,Reads.str x t⟩
 |.list ds,_,_,h,r=>by
  cases h with
  |lst hs ha=>
   cases r;obtain⟨its,rv,⟨o,n,ho,hc,_,hd⟩,_⟩:=I.list hs;obtain⟨as,hr⟩:=Dp.readsAll I ds _ its ha rv;exact⟨_,Reads.list ho hc hd hr⟩
 |.tuple ds,_,_,h,r=>by
  cases h with
  |tup hs ha=>
   cases r;obtain⟨its,rv,⟨o,ho,hc,n,hd⟩,_⟩:=I.tuple hs;obtain⟨as,hr⟩:=Dp.readsAll I ds _ its ha rv;exact⟨_,Reads.tuple ho hc hd hr⟩
 |.dict _,_,_,h,_=>by cases h
theorem Dp.readsAll(I:Inv X pins σ H s):∀(ds:List PyData)(vs:List V)(us:List Value),sX X.K H vs ds->Vals vs us->∃as,ReadsAll s.heap us ds as
 |[],_,_,h,r=>by
  cases h;cases r;exact⟨_,ReadsAll.nil⟩
 |d::ds,_,_,h,r=>by
  cases h with
  |cons h1 h2=>
   cases r with
   |cons r1 r2=>
    obtain⟨as,q1⟩:=Dp.reads I d _ _ h1 r1;obtain⟨bs,q2⟩:=Dp.readsAll I ds _ _ h2 r2;exact⟨_,ReadsAll.cons q1 q2⟩
end
end
section
variable{X:Cx}
def ZC(K:atQ):R2:=fun x y H Q=>∃d e,Dp K H x d/\Dp K H y e/\SeqAt.shaped d=true/\SeqAt.shaped e=true/\Q (.bl (PyData.eqv d e)) H
def ZD(K:atQ):R2:=fun x y H Q=>∃d e,Dp K H x d/\Dp K H y e/\SeqAt.shaped d=true/\SeqAt.shaped e=true/\Q (.bl (!PyData.eqv d e)) H
theorem ZF(hu:X.A.units+64<cLine):fu X (compareOp .Eq) (ZC X.K):=by
 intro pins s σ H x y v u Q I rx ry h;obtain⟨d,e,hd,he,sd,se,q⟩:=h;obtain⟨as,r1⟩:=Dp.reads I d x v hd rx;obtain⟨bs,r2⟩:=Dp.reads I e y u he ry;exact SeqAt.compareEq_shaped r1 r2 sd se hu ⟨.bl _,H,I,rfl,q⟩
theorem Fi(hu:X.A.units+64<cLine):fu X (compareOp .NotEq) (ZD X.K):=by
 intro pins s σ H x y v u Q I rx ry h;obtain⟨d,e,hd,he,sd,se,q⟩:=h;obtain⟨as,r1⟩:=Dp.reads I d x v hd rx;obtain⟨bs,r2⟩:=Dp.reads I e y u he ry;exact SeqAt.compareNe_shaped r1 r2 sd se hu ⟨.bl _,H,I,rfl,q⟩
end
abbrev Oq(h:Heap)(c:Addr)(v:Option Value):Prop:=h.IsCell c v
def ZG(scope sc:Scope):Scope:=
 {scope with names:=scope.names.map fun(n,k)=>if(k== .free&&sc.kind== .function&&sc.names.lookup n==some .cell) then(n,.cell) else(n,k)}
def gk(cells:List (Str×Addr)):List (Str×NameKind)->List (Str×Addr)->List (Str×Addr)
 |[],acc=>acc
 |(n,k)::r,acc=>if k== .free then gk cells r ((n,(cells.lookup n).getD 0)::acc) else gk cells r acc
theorem Ot(env:Env)(f:Str×NameKind->List (Str×Addr)->Sem (ForInStep (List (Str×Addr))))
  (hf:∀n k c,f (n,k) c=if k== .free then(do let a<-cellOf env n;pure (.yield ((n,a)::c))) else pure (.yield c)):
  ∀(names:List (Str×NameKind))(acc:List (Str×Addr)),(∀y∈names,y.2=.free->∃c,env.cells.lookup y.1=some c)->forIn names acc f=pure (gk env.cells names acc)
 |[],acc,_=>by rw[awD];rfl
 |(n,k)::r,acc,h=>by
  rw[axn,hf];have ih:=fun acc=>Ot env f hf r acc fun y hy=>h y (at8 _ hy)
  unfold gk;by_cases hk:(k==NameKind.free)=true
  ·rw[if_pos hk,if_pos hk];obtain⟨c,hc⟩:=h (n,k) at7 (by simpa using hk);have e:cellOf env n=pure c:=by unfold cellOf;rw[hc]
   rw[e];have e2:(env.cells.lookup n).getD 0=c:=by rw[hc];rfl
   rw[e2];exact ih _
  ·rw[if_neg hk,if_neg hk];exact ih _
theorem ZJ{scope:Scope}{env:Env}(h:∀y∈scope.names,y.2=.free->∃c,env.cells.lookup y.1=some c):closureFor scope env=pure (gk env.cells scope.names []):=by
 simp only[closureFor];rw[Ot env _ (fun n k c=>rfl) scope.names [] h];rfl
theorem Fj{α:Type}:∀{l:List (Str×α)}{n:Str}{c:α},(n,c)∈l->∃c',l.lookup n=some c'
 |(k,v)::r,n,c,h=>by
  rw[avQ];cases hb:n==k with
  |true=>exact⟨_,rfl⟩
  |false=>
   rcases at3.mp h with e|h
   ·cases e;simp at hb
   ·exact Fj h
theorem zp{cells:List (Str×Addr)}:∀{names:List (Str×NameKind)}{acc:List (Str×Addr)}{n:Str}{c:Addr},(n,c)∈gk cells names acc->(n,c)∈acc\/((n,.free)∈names/\c=(cells.lookup n).getD 0)
 |[],_,_,_,h=>.inl h
 |(m,k)::r,acc,n,c,h=>by
  unfold gk at h
  split at h
  ·rename_i hk
   have hk:k=.free:=by simpa using hk
   rcases zp h with h|⟨h1,h2⟩
   ·rcases at3.mp h with e|h
    ·cases e;exact .inr ⟨hk▸at7,rfl⟩
    ·exact .inl h
   ·exact .inr ⟨at8 _ h1,h2⟩
  ·rcases zp h with h|⟨h1,h2⟩
   ·exact .inl h
   ·exact .inr ⟨at8 _ h1,h2⟩
theorem Fl{cells:List (Str×Addr)}:∀{names:List (Str×NameKind)}{acc:List (Str×Addr)}{p:Str×Addr},p∈acc->p∈gk cells names acc
 |[],_,_,h=>h
 |(m,k)::r,acc,p,h=>by
  unfold gk
  split
  ·exact Fl (at8 _ h)
  ·exact Fl h
theorem Fo{cells:List (Str×Addr)}:∀{names:List (Str×NameKind)}{acc:List (Str×Addr)}{n:Str},(n,.free)∈names->(n,(cells.lookup n).getD 0)∈gk cells names acc
 |(m,k)::r,acc,n,h=>by
  unfold gk;rcases at3.mp h with e|h
  ·cases e;exact Fl at7
  ·split
   ·exact Fo h
   ·exact Fo h
theorem wJ:∀{names:List (Str×NameKind)}{h:Heap}{acc:List (Str×Addr)}{x:Str}{c:Addr},(x,c)∈cellsFrom h.objs.size names acc->
  (x,c)∈acc\/((x,.cell)∈names/\h.objs.size<=c/\Oq (pushCells h names) c none)
 |[],_,_,_,_,h=>.inl h
 |(n,k)::r,h,acc,x,c,hm=>by
  unfold cellsFrom at hm;unfold pushCells
  split at hm
  ·rename_i hk
   rw[if_pos hk];have hk:k=.cell:=by simpa using hk
   rw[<-auD h {cls:=.type "cell",data:=.cell none}] at hm;rcases wJ hm with hm|⟨h1,h2,h3⟩
   ·rcases at3.mp hm with e|hm
    ·cases e;exact .inr ⟨hk▸at7,atX _,_,pushCells_keeps r _ _ _ (auo _ rfl),rfl⟩
    ·exact .inl hm
   ·rw[auD] at h2;exact .inr ⟨at8 _ h1,awE h2,h3⟩
  ·rename_i hk
   rw[if_neg hk];rcases wJ hm with hm|⟨h1,h2,h3⟩
   ·exact .inl hm
   ·exact .inr ⟨at8 _ h1,h2,h3⟩
theorem zq:∀{names:List (Str×NameKind)}{n:Nat}{acc:List (Str×Addr)}{p:Str×Addr},p∈acc->p∈cellsFrom n names acc
 |[],_,_,_,h=>h
 |(m,k)::r,n,acc,p,h=>by
  unfold cellsFrom
  split
  ·exact zq (at8 _ h)
  ·exact zq h
theorem Fp:∀{names:List (Str×NameKind)}{n:Nat}{acc:List (Str×Addr)}{x:Str},(x,.cell)∈names->∃c,(x,c)∈cellsFrom n names acc
 |(m,k)::r,n,acc,x,h=>by
  unfold cellsFrom;rcases at3.mp h with e|h
  ·cases e;exact⟨n,zq at7⟩
  ·split
   ·exact Fp h
   ·exact Fp h
theorem Fq:∀{names:List (Str×NameKind)}{h:Heap}{acc:List (Str×Addr)}{x y:Str}{c:Addr},(∀p∈acc,p.2<h.objs.size)->(∀x y c,(x,c)∈acc->(y,c)∈acc->x=y)->
  (x,c)∈cellsFrom h.objs.size names acc->(y,c)∈cellsFrom h.objs.size names acc->x=y
 |[],_,_,_,_,_,_,hi,h1,h2=>hi _ _ _ h1 h2
 |(n,k)::r,h,acc,x,y,c,hl,hi,h1,h2=>by
  unfold cellsFrom at h1 h2
  split at h1
  ·rename_i hk
   rw[if_pos hk] at h2;rw[<-auD h {cls:=.type "cell",data:=.cell none}] at h1 h2;refine Fq (h:=h.push _) (fun p hp=>?_) (fun x y c a b=>?_) h1 h2
   ·rw[auD];rcases at3.mp hp with rfl|hp
    ·exact avC _
    ·exact avd (hl p hp)
   ·rcases at3.mp a with e|a<;>rcases at3.mp b with e'|b
    ·cases e;cases e';rfl
    ·cases e;exact absurd (hl _ b) (au7 _)
    ·cases e';exact absurd (hl _ a) (au7 _)
    ·exact hi _ _ _ a b
  ·rename_i hk
   rw[if_neg hk] at h2;exact Fq hl hi h1 h2
theorem ZK{M:Model}{A:Around}{E:Value->Shared->Prop}{s:Shared}{scope:Scope}{globals:Addr}{closure:List (Str×Addr)}{qual:Str}{func:Option Addr}{code:Value}{around:Env}{builtins:Addr}{Q:Env->Shared->Prop}
  (h:Q (newEnv scope s.heap.objs.size globals (cellsFrom (s.heap.objs.size+1) scope.names closure) qual func code (some around) builtins)
   {s with heap:=pushCells (s.heap.push {cls:=.type "dict",data:=.dict #[]}) scope.names}):
  wpAny M A (newFunctionEnv scope globals closure [] qual func code (some around) builtins) Q E s:=by
 simp only[newFunctionEnv,ax8,if_true];refine wpAny_bind (wpAny_alloc ?_);refine wpAny_bind (wpAny_layCells _ (fun n k c=>rfl) scope.names closure _ _ ?_);rw[show({s with heap:=s.heap.push {cls:=.type "dict",data:=.dict #[]}}:Shared).heap.objs.size=s.heap.objs.size+1 from auD ..];rw[awD];exact wpAny_bind (wpAny_pure (wpAny_pure h))
theorem Ft{sc:Scope}:∀{names:List (Str×NameKind)}{x:Str}{k:NameKind},
  (names.map fun(n,k)=>if(k==NameKind.free&&sc.kind== .function&&sc.names.lookup n==some .cell) then(n,NameKind.cell) else(n,k)).lookup x=some k->
  ∃k',names.lookup x=some k'/\(k=k'\/(k'=.free/\k=.cell))
 |[],_,_,h=>by simp at h
 |(n,k₀)::r,x,k,h=>by
  have ih:= @Ft sc r x k;have h':avB x ((if(k₀==NameKind.free&&sc.kind== .function&&sc.names.lookup n==some .cell)=true then(n,NameKind.cell) else(n,k₀))::(r.map _))=some k:=h;cases hx:x==n with
  |true=>
   simp only[avQ,hx];by_cases hc:(k₀==NameKind.free&&sc.kind== .function&&sc.names.lookup n==some .cell)=true
   ·rw[if_pos hc] at h';simp only[avQ,hx] at h';cases h';simp only[aup,beq_iff_eq] at hc;exact⟨k₀,rfl,.inr ⟨hc.1.1,rfl⟩⟩
   ·rw[if_neg hc] at h';simp only[avQ,hx] at h';cases h';exact⟨_,rfl,.inl rfl⟩
  |false=>
   simp only[avQ,hx];by_cases hc:(k₀==NameKind.free&&sc.kind== .function&&sc.names.lookup n==some .cell)=true
   ·rw[if_pos hc] at h';simp only[avQ,hx] at h';exact ih h'
   ·rw[if_neg hc] at h';simp only[avQ,hx] at h';exact ih h'
structure wK(N:List Str)(sc scope:Scope)(own:List (Str×Nat)):Prop where
 kind:scope.kind=.function
 uniq:∀y∈scope.names,scope.names.lookup y.1=some y.2
 ix:∀p∈own,N[p.2]?=some p.1
 free:∀y∈scope.names,y.2=.free->sc.names.lookup y.1=some .cell\/sc.names.lookup y.1=some .free
 own:∀y∈scope.names,y.2=.local\/y.2=.cell->y.1∈own.map (·.1)\/y.1∉N
def cT(σ:St):List Nat->St
 |[]=>σ
 |v::vs=>(cT σ vs).set v none
theorem Fv(σ:St):∀vs:List Nat,(cT σ vs).length=σ.length
 |[]=>rfl
 |v::vs=>by unfold cT;rw[avN,Fv σ vs]
theorem Fw{σ:St}{i:Nat}{x:V}:∀{vs:List Nat},(cT σ vs)[i]?=some (some x)->σ[i]?=some (some x)/\i∉vs
 |[],h=>⟨h,by simp⟩
 |v::vs,h=>by
  unfold cT at h;by_cases hi:v=i
  ·subst hi;by_cases hv:v<(cT σ vs).length
   ·rw[awt hv] at h;cases h
   ·rw[auY (by simpa using hv)] at h;cases h
  ·rw[awu hi] at h;obtain⟨h1,h2⟩:=Fw h;exact⟨h1,by simp only[at3,not_or];exact⟨fun e=>hi e.symm,h2⟩⟩
abbrev Cx.blk(X:Cx)(s:Shared)(H:Hp)(scope:Scope)(cenv:Env)(fp:List Addr):Cx:={X with s_0:=s,vZ:=H,env:=cenv,outer:=X.stack,ex:=fp,fn:=fun x=>scope.names.lookup x==some .cell,pn:=[],xe:=fun _ _=>False}
section
variable{X:Cx}{pins:List (Addr×Obj)}{σ:St}{H:Hp}{s:Shared}
theorem ZL{scope:Scope}{own:List (Str×Nat)}{fp:List Addr}(I:Inv X pins σ H s)(ok:wK X.N X.env.scope scope own)(hN:X.N.Nodup)(hfp:∀b∈fp,jt X pins H b/\b<s.heap.objs.size):
  Inv (X.blk s H scope (compEnvC scope (cellsFrom (s.heap.objs.size+1) scope.names (gk X.env.cells scope.names [])) s.heap.objs.size X.env) fp) [] (cT σ (own.map (·.2))) H {s with heap:=pushCells (s.heap.push {cls:=.type "dict",data:=.dict #[]}) scope.names}:=by
 have hfree:∀y∈scope.names,y.2=.free->∃c,X.env.cells.lookup y.1=some c:=fun y hy e=>by
  rcases ok.free y hy e with k|k
  ·exact I.ok.has _ (.inl k)
  ·exact I.ok.has _ (.inr k)
 generalize wL:compEnvC scope (cellsFrom (s.heap.objs.size+1) scope.names (gk X.env.cells scope.names [])) s.heap.objs.size X.env=cenv;have kp:∀b o,s.heap.get? b=some o->(pushCells (s.heap.push {cls:=.type "dict",data:=.dict #[]}) scope.names).get? b=some o:=fun b o e=>pushCells_keeps _ _ _ _ (auc _ e)
 have hL:cenv.locals=s.heap.objs.size:=by rw[<-wL];rfl
 have hcl:cenv.cells=cellsFrom (s.heap.objs.size+1) scope.names (gk X.env.cells scope.names []):=by rw[<-wL];rfl
 have hsc:cenv.scope=ZG scope X.env.scope:=by rw[<-wL];rfl
 rw[<-auD s.heap {cls:=.type "dict",data:=.dict #[]}] at hcl;have cm:∀{y c},(y,c)∈gk X.env.cells scope.names []->X.env.cells.lookup y=some c/\c<s.heap.objs.size:=fun{y c} hm=>by
  rcases zp hm with hm|⟨h1,rfl⟩
  ·cases hm
  ·obtain⟨c,hc⟩:=hfree _ h1 rfl;rw[hc];obtain⟨w,z⟩:=I.cell _ _ hc;exact⟨rfl,z.lt⟩
 have mem:∀{y c},cenv.cells.lookup y=some c->(X.env.cells.lookup y=some c/\c<s.heap.objs.size)\/(s.heap.objs.size+1<=c/\Oq (pushCells (s.heap.push {cls:=.type "dict",data:=.dict #[]}) scope.names) c none):=fun{y c} e=>by
  rw[hcl] at e;rcases wJ (auR e) with hm|⟨_,h2,h3⟩
  ·exact .inl (cm hm)
  ·rw[auD] at h2;exact .inr ⟨h2,h3⟩
 have look:∀{y},scope.names.lookup y=some .free->∃c,cenv.cells.lookup y=some c/\X.env.cells.lookup y=some c:=fun{y} hl=>by
  have hy:(y,NameKind.free)∈scope.names:=auR hl;obtain⟨c',e'⟩:=Fj (zq (names:=scope.names) (n:=(s.heap.push {cls:=.type "dict",data:=.dict #[]}).objs.size) (Fo (cells:=X.env.cells) (acc:=[]) hy));rw[<-hcl] at e';refine⟨c',e',?_⟩;rw[hcl] at e';rcases wJ (auR e') with hm|⟨h1,_,_⟩
  ·exact(cm hm).1
  ·have:=ok.uniq _ h1;rw[hl] at this;cases this
 have ZM:(X.blk s H scope cenv fp).Ok:=by
  refine⟨I.ok.mod,by show cenv.scope.kind=_;rw[hsc];exact ok.kind,by show cenv.globals=_;rw[<-wL];exact I.ok.glob,by show cenv.builtins=_;rw[<-wL];exact I.ok.blt,by show s.heap.objs.size<=cenv.locals;rw[hL];exact atX _,
   fun y z c e1 e2=>?_,fun y hy=>?_,fun y c z e=>?_,I.ok.hd,I.ok.frames,.inl rfl,fun b hb=>⟨?_,fun y c e z=>?_⟩,I.bs,auC I.ok.jE I.sz,fun b o e hb=>?_,fun b hb z=>?_,I.stack,I.v9⟩
  ·have e1:cenv.cells.lookup y=some c:=e1;have e2:cenv.cells.lookup z=some c:=e2;rw[hcl] at e1 e2;refine Fq (fun p hp=>?_) (fun y z c a b=>I.ok.inj y z c (cm a).1 (cm b).1) (auR e1) (auR e2);rw[auD];exact avd (cm (y:=p.1) (c:=p.2) hp).2
  ·show ∃c,cenv.cells.lookup y=some c
   have key:∀k,cenv.kindOf y=some k->(k=.cell\/k=.free)->∃c,cenv.cells.lookup y=some c:=fun k hk hk'=>by
    unfold Env.kindOf at hk;rw[hsc] at hk;obtain⟨k',e,r⟩:=Ft hk;have:k'=.cell\/k'=.free:=by
     rcases r with rfl|⟨rfl,_⟩
     ·exact hk'
     ·exact .inr rfl
    rcases this with rfl|rfl
    ·obtain⟨c,hm⟩:=Fp (n:=(s.heap.push {cls:=.type "dict",data:=.dict #[]}).objs.size) (acc:=gk X.env.cells scope.names []) (auR e);obtain⟨c',e'⟩:=Fj hm;exact⟨c',by rw[hcl];exact e'⟩
    ·obtain⟨c,h1,_⟩:=look e;exact⟨c,h1⟩
   rcases hy with hy|hy
   ·exact key _ hy (.inl rfl)
   ·exact key _ hy (.inr rfl)
  ·have z:(scope.names.lookup y==some NameKind.cell)=true:=z;have z:scope.names.lookup y=some .cell:=by simpa using z
   have e:cenv.cells.lookup y=some c:=e;rw[hcl] at e;rcases wJ (auR e) with hm|⟨_,h2,_⟩
   ·rcases zp hm with hm|⟨h1,_⟩
    ·cases hm
    ·have q:=ok.uniq _ h1;rw[z] at q;cases q
   ·rw[auD] at h2;exact awE h2
  ·show b≠cenv.locals;rw[hL];exact aun (hfp b hb).2
  ·have e:cenv.cells.lookup y=some c:=e;rcases mem e with⟨h1,_⟩|⟨h1,_⟩
   ·exact(hfp b hb).1.2.2.2.2.1 y c h1 z
   ·have h2:s.heap.objs.size+1<=b:=by rw[<-z];exact h1
    exact absurd (auG (hfp b hb).2 (awE h2)) (au7 _)
  ·rcases(hfp b hb).1.2.2.2.1 with z|z
   ·exact I.ok.uB b o e z
   ·exact absurd (auG (aua e) (auC I.ok.jE z)) (au7 _)
  ·rcases at3.mp (I.Du b z) with z|z
   ·exact(hfp b hb).1.2.1 z
   ·exact(hfp b hb).1.2.2.1 z
 refine⟨ZM,rfl,I.bare,Un.kept kp,⟨fun _=>none,?_,fun i y av e1 e2 e3=>?_⟩,fun y c e=>?_,?_,fun y c e=>?_,fun p hp=>?_,I.hok.kept kp,by rw[Fv];exact I.len⟩
 ·show Heap.Ns _ cenv.locals _;rw[hL];exact Heap.Ns.keeps (Heap.Ns.new ..) fun b o e=>pushCells_keeps _ _ _ _ e
 ·obtain⟨e2,hne⟩:=Fw e2;have hfr:scope.names.lookup y=some .free/\(cenv.kindOf y=some .cell\/cenv.kindOf y=some .free):=by
   have key:∀k,cenv.scope.names.lookup y=some k->k=.local\/k=.cell\/k=.free->scope.names.lookup y=some .free/\(cenv.kindOf y=some .cell\/cenv.kindOf y=some .free):=fun k hk hk'=>by
    have hk0:=hk;rw[hsc] at hk;obtain⟨k',e,r⟩:=Ft hk;have no:¬(k'=.local\/k'=.cell):=fun hh=>by
     rcases ok.own _ (auR e) hh with e'|e'
     ·obtain⟨p,hp,hpy⟩:=at6.mp e';have e3:=ok.ix p hp;have:p.1=y:=hpy;rw[this] at e3;exact hne (at6.mpr ⟨p,hp,Dv hN e3 e1⟩)
     ·exact e' (auI e1)
    rcases r with rfl|⟨rfl,rfl⟩
    ·rcases hk' with rfl|rfl|rfl
     ·exact absurd (.inl rfl) no
     ·exact absurd (.inr rfl) no
     ·exact⟨e,.inr hk0⟩
    ·exact⟨e,.inl hk0⟩
   have e3:qz cenv.scope y:=e3;rcases e3 with e3|e3|e3
   ·exact key _ e3 (.inl rfl)
   ·exact key _ e3 (.inr (.inl rfl))
   ·exact key _ e3 (.inr (.inr rfl))
  obtain⟨m,hn,hl⟩:=I.loc;have ZP:qz X.env.scope y:=(ok.free _ (auR hfr.1) rfl).elim (fun k=>.inr (.inl k)) (fun k=>.inr (.inr k));obtain⟨w,r,q⟩:=hl i y av e1 e2 ZP;refine⟨w,r,.inr ⟨hfr.2,?_⟩⟩;obtain⟨c,h1,h2⟩:=look hfr.1;rcases q with⟨k,_⟩|⟨_,c',e',z⟩
  ·have k:X.env.scope.names.lookup y=some .local:=k;rcases ok.free _ (auR hfr.1) rfl with k'|k'<;>rw[show X.env.scope.names.lookup y=_ from k'] at k<;>cases k
  ·rw[h2] at e';cases e'
   exact⟨c,h1,z.keeps kp⟩
 ·have e:cenv.cells.lookup y=some c:=e;rcases mem e with⟨h1,_⟩|⟨_,z⟩
  ·obtain⟨w,z⟩:=I.cell y c h1;exact⟨w,z.keeps kp⟩
  ·exact⟨_,z⟩
 ·show H cenv.locals=none;rw[hL];exact I.hok.fresh (atX _)
 ·have e:cenv.cells.lookup y=some c:=e;rcases mem e with⟨h1,_⟩|⟨h1,_⟩
  ·exact I.jF y c h1
  ·exact I.hok.fresh (awE h1)
 ·exact absurd (show p∈([]:List (Addr×Obj))++[] from hp) (by simp)
theorem ZQ{E:Value->Shared->Prop}{D:Addr}{xs:List V}{y:V}{v:Value}{Q:Value->Shared->Prop}(I:Inv X pins σ H s)(hD:H D=some (.lst xs))(hz:xs.length<sizeLine)(r:RelV y v)
  (h:∀s',Inv X pins σ (upd H D (.lst (xs++[y]))) s'->Q .none s'):wpAny (model X.prog X.w) X.A (call (.builtin "list.append") [.ref D,v]) Q E s:=by
 obtain⟨hz',its,n,ri,e⟩:=I.hok D _ hD;have hl:=ri.length;refine append_at (hsz:=by rw[aum];omega) e fun h' sb ho'=>?_
 refine h {s with heap:=h'} (I.write (t':=s.toks) (by rw[hD];trivial) (.inl rfl) (fun b u hb q=>(sb.2 b hb).trans q) ⟨_,ho'⟩ ⟨by rw[aud];exact hz,its++[v],n+1,ri.append (.cons r .nil),?_⟩);rw[ho'];simp
def wM(X:Cx)(ifs:List Expr)(t:TT):Prop:=
 ∀(pins:List (Addr×Obj))(s:Shared)(σ:St)(H:Hp)(Q:Bool->Hp->Prop),Inv X pins σ H s->t σ H Q->
  wpAny (model X.prog X.w) X.A (forIn ifs true fun c r=>if r=true then do let ok<-isTrue c X.env (eval c X.env);pure (ForInStep.yield ok) else pure (ForInStep.yield r)) (TP X pins σ Q) X.xe s
def zu:TT:=fun _ H Q=>Q true H
theorem jc:wM X [] zu:=fun _ _ _ H _ I h=>wpAny_tests_nil ⟨H,I,h⟩
theorem ZR{c:Expr}{t:TT}(h:PT X c t):wM X [c] t:=fun pins s σ H Q I hw=>wpAny_tests_one (h pins s σ H Q I hw)
end
theorem uN{α:Type}{t:Sem α}{Q Q':α->Shared->Prop}{M:Model}{A:Around}{E:Value->Shared->Prop}{s:Shared}(h:wpAny M A t Q (fun _ _=>False) s)(hQ:∀a s,Q a s->Q' a s):wpAny M A t Q' E s:=wpAny_mono h hQ fun _ _ z=>False.elim z
theorem ZS{prog:Program}{w:World}{A:Around}{R:Result->Shared->Prop}{s:Shared}{elt target iter:Expr}{ifs:List Expr}{scope:Scope}{pos:Pos}{it acc:Value}{env:Env}(I:Nat->Shared->Prop)
  (turn:∀n s,I n s->wpAny (model prog w) A (pyNext it) (fun r s₁=>match r with
   |none=>R (.ok .next) s₁
   |some v=>wpAny (model prog w) A (letOwnedTupleGo target it v) (fun _ s₁'=>wpAny (model prog w) A (assign target env v) (fun _ s₂=>
     wpAny (model prog w) A (forIn ifs true fun c r=>if r=true then do let ok<-isTrue c env (eval c env);pure (ForInStep.yield ok) else pure (ForInStep.yield r)) (fun ok s₃=>
      if ok=true then wpAny (model prog w) A (eval elt env) (fun x s₄=>
       wpAny (model prog w) A (call (.builtin "list.append") [acc,x]) (fun _ s₅=>∃m,m<n/\I m s₅) (notedBy (model prog w) A env fun e s'=>R (.error e) s') s₄) (notedBy (model prog w) A env fun e s'=>R (.error e) s') s₃
      else ∃m,m<n/\I m s₃) (notedBy (model prog w) A env fun e s'=>R (.error e) s') s₂) (notedBy (model prog w) A env fun e s'=>R (.error e) s') s₁') (notedBy (model prog w) A env fun e s'=>R (.error e) s') s₁) (notedBy (model prog w) A env fun e s'=>R (.error e) s') s)
  (n:Nat) (h:I n s):
  codeAny (model prog w) A (.compLoop (.ListComp elt [⟨target,iter,ifs,0⟩] scope pos) 0 it acc env) R s:=by
 refine codeAny_loop rfl I (fun n s hI=>?_) n h;show wpAny _ A ((compTurn (.ListComp elt [⟨target,iter,ifs,0⟩] scope pos) 0 it acc env).onRaise (fun x=>do noteFrame x env;theTreesLotGoes x)) _ _ s;refine wpAny_noted ?_;rw[compTurn_list];refine wpAny_bind (wpAny_standAt (wpAny_bind (wpAny_mono (turn n s hI) (fun r s₁ h₁=>?_) fun _ _ h'=>h')));cases r with
 |none=>exact wpAny_pure h₁
 |some v=>
  refine wpAny_bind (wpAny_mono h₁ (fun _ s₁' h₁'=>?_) fun _ _ h'=>h');refine wpAny_bind (wpAny_mono h₁' (fun _ s₂ h₂=>wpAny_bind (wpAny_mono h₂ (fun ok s₃ h₃=>?_) fun _ _ h'=>h')) fun _ _ h'=>h');cases ok with
  |false=>exact wpAny_pure ⟨rfl,h₃⟩
  |true=>
   exact wpAny_bind (wpAny_bind (wpAny_mono h₃ (fun x s₄ h₄=>wpAny_bind (wpAny_mono h₄ (fun _ s₅ h₅=>wpAny_pure (wpAny_pure ⟨rfl,h₅⟩)) fun _ _ h'=>h')) fun _ _ h'=>h'))
section
variable{X:Cx}
def uO(wi:TI)(g:TG)(tt:TT)(te:TE)(vs:List Nat):TE:=fun σ H Q=>wi σ H fun J H1=>∀D,H1 D=none->∃W:Nat->Nat->Hp->Prop,(∃m,W 0 m (upd H1 D (.lst [])))/\∀i m H,W i m H->
 (J.stop i H/\Q (.ref D) H)\/(J.go i H/\∃Nx:Hp->Prop,(∀H',Nx H'->∃m',m'<m/\W (i+1) m' H')/\∀x H',J.lq i H x H'->g x (cT σ vs) H' fun σ2 H2=>cT σ2 vs=cT σ vs/\tt σ2 H2 fun b H3=>
  if b=true then te σ2 H3 fun y H4=>∃acc,H4 D=some (.lst acc)/\acc.length<sizeLine/\Nx (upd H4 D (.lst (acc++[y]))) else Nx H3)
theorem Ou{pins:List (Addr×Obj)}{s:Shared}{σ:St}{H:Hp}{Q:VK}{elt tg iter:Expr}{ifs:List Expr}{scope:Scope}{own:List (Str×Nat)}{pos pos':Pos}{wi:TI}{g:TG}{tt:TT}{te:TE}{use:Option (Value->Sem Unit)}{Qf:Value->Shared->Prop}
  (hc:X.calm=true) (hN:X.N.Nodup) (I:Inv X pins σ H s) (hi:PI X tg iter wi) (ok:wK X.N X.env.scope scope own)
  (hg:∀(s:Shared)(H:Hp)(C:Addr)(cl:List (Str×Addr))(fp:List Addr),PG (X.blk s H scope (compEnvC scope cl C X.env) fp) tg g) (ht:∀(s:Shared)(H:Hp)(C:Addr)(cl:List (Str×Addr))(fp:List Addr),wM (X.blk s H scope (compEnvC scope cl C X.env) fp) ifs tt)
  (he:∀(s:Shared)(H:Hp)(C:Addr)(cl:List (Str×Addr))(fp:List Addr),PE (X.blk s H scope (compEnvC scope cl C X.env) fp) elt te) (hs:∀x,foldedSetIterable iter X.env x=pure x)
  (h:uO wi g tt te (own.map (·.2)) σ H Q)
  (hRR:∀D C s' m H',Inv X pins σ H' s'->Q (.ref D) H'->s'.heap.Ns C m->jt X pins H' C->compPost (model X.prog X.w) X.A X.xe use Qf (.ref D) C (.ok .next) s'):
  wpAny (model X.prog X.w) X.A (comprehension (.ListComp elt [⟨tg,iter,ifs,0⟩] scope pos) scope X.env pos' (newList []) false (eval iter X.env) use) Qf X.xe s:=by
 have hfree:∀y∈scope.names,y.2=.free->∃c,X.env.cells.lookup y.1=some c:=fun y hy e=>by
  rcases ok.free y hy e with k|k
  ·exact I.ok.has _ (.inl k)
  ·exact I.ok.has _ (.inr k)
 refine wpAny_comprehension_free (use:=use) rfl hs (ZJ hfree) ok.kind (fun y hy e=>by rw[ok.uniq y hy,e])
  (aO (hi pins s σ H _ I h) fun xv s1 hx=>aO hx fun itv s2 h2=>?_)
 obtain⟨it,fp,tn,J,H2,e,I2,T,st2,f2,q⟩:=h2;subst e;refine wpAny_newObj_type (ZK ?_) (by show 0<=sizeLine;decide);generalize hD:s2.heap.objs.size=D;have ZV:H2 D=none:=I2.hok.fresh (av8 hD);obtain⟨W,⟨m0,w0⟩,turn⟩:=q D ZV;generalize hs3:({s2 with heap:=s2.heap.push {cls:=.type "list",data:=.seq ([]:List Value).toArray}}:Shared)=s3;have I3:Inv X pins σ (upd H2 D (.lst [])) s3:=by
  rw[<-hs3];refine I2.laid (t':=s2.toks) (fun b o e=>auc _ e) (av8 hD) ⟨aul _,[],0,.nil,?_⟩;rw[<-hD];exact auo _ rfl
 have h3:s3.heap=s2.heap.push {cls:=.type "list",data:=.seq ([]:List Value).toArray}:=by rw[<-hs3]
 have sz:∀b∈fp,b<s2.heap.objs.size:=fun b hb=>by
  obtain⟨o,e,_⟩:=T.obj _ _ st2 b hb;exact aua e
 have f3:∀b∈fp,jt X pins (upd H2 D (.lst [])) b/\b<s3.heap.objs.size:=fun b hb=>by
  have hlt:=sz b hb;refine⟨⟨?_,(f2 b hb).2⟩,by rw[h3,auD];exact avd hlt⟩;rw[au (by rw[<-hD];exact aun hlt)];exact(f2 b hb).1
 have st3:tn 0 s3.heap:=T.keep _ _ _ st2 fun b _ o e=>by rw[h3];exact auc _ e
 have I4:=ZL I3 ok hN f3;have pg:=hg s3 (upd H2 D (.lst [])) s3.heap.objs.size (cellsFrom (s3.heap.objs.size+1) scope.names (gk X.env.cells scope.names [])) fp;have pt:=ht s3 (upd H2 D (.lst [])) s3.heap.objs.size (cellsFrom (s3.heap.objs.size+1) scope.names (gk X.env.cells scope.names [])) fp;have pe:=he s3 (upd H2 D (.lst [])) s3.heap.objs.size (cellsFrom (s3.heap.objs.size+1) scope.names (gk X.env.cells scope.names [])) fp;show codeAny _ _ (.compStart (.ListComp elt [⟨tg,iter,ifs,0⟩] scope pos) 0 (.ref it) (.ref D) (compEnvC scope (cellsFrom (s3.heap.objs.size+1) scope.names (gk X.env.cells scope.names [])) s3.heap.objs.size X.env)) (compPost (model X.prog X.w) X.A X.xe use Qf (.ref D) s3.heap.objs.size) {s3 with heap:=pushCells (s3.heap.push {cls:=.type "dict",data:=.dict #[]}) scope.names};have Ov:∀b∈fp,(upd H2 D (.lst [])) b=none:=fun b hb=>(f3 b hb).1.1
 generalize hce:compEnvC scope (cellsFrom (s3.heap.objs.size+1) scope.names (gk X.env.cells scope.names [])) s3.heap.objs.size X.env=ce at I4 pg pt pe⊢;have cL:ce.locals=s3.heap.objs.size:=by subst hce;rfl
 generalize hH3:upd H2 D (.lst [])=H3 at I3 I4 pg pt pe w0 Ov f3;generalize ZW:({s3 with heap:=pushCells (s3.heap.push {cls:=.type "dict",data:=.dict #[]}) scope.names}:Shared)=s4 at I4⊢;have st4:tn 0 s4.heap:=T.keep _ _ _ st3 fun b _ o e=>by rw[<-ZW];exact pushCells_keeps _ _ _ _ (auc _ e)
 have stat:∀{σ':St}{H':Hp}{s':Shared},Inv (X.blk s3 H3 scope ce fp) [] σ' H' s'->(∀b∈fp,H' b=none)->∀b∈fp,jt (X.blk s3 H3 scope ce fp) [] H' b:=fun{σ' H' s'} I' hn b hb=>
  ⟨hn b hb,(I'.ok.v8 b hb).1,I'.ok.uC b hb,.inl hb,fun x c e=>(I'.ok.v8 b hb).2 x c e,fun p hp=>absurd (show p∈([]:List (Addr×Obj))++[] from hp) (by simp)⟩
 have loop:codeAny (model X.prog X.w) X.A (.compLoop (.ListComp elt [⟨tg,iter,ifs,0⟩] scope pos) 0 (.ref it) (.ref D) ce) (compPost (model X.prog X.w) X.A X.xe use Qf (.ref D) s3.heap.objs.size) s4:=by
  refine ZS (fun n s'=>∃i H',Inv (X.blk s3 H3 scope ce fp) [] (cT σ (own.map (·.2))) H' s'/\tn i s'.heap/\(∀b∈fp,H' b=none)/\W i n H') ?_ m0 ⟨0,H3,I4,st4,Ov,w0⟩;rintro n s5 ⟨i,H5,I5,st5,n5,w5⟩;rcases turn i n H5 w5 with⟨stop,qq⟩|⟨go,Nx,ZX,step⟩
  ·have td:=T.done (X.blk s3 H3 scope ce fp) rfl rfl rfl hc i [] s5 _ H5 (fun _ _=>False) I5 (stat I5 n5) st5 stop;refine uN td fun r s6 ⟨hr,I6⟩=>?_
   subst hr;have I7:Inv X pins σ H5 s6:=I3.call' (ch:=fp) I6.os I6.base I6.hok I6.bare fun b hb=>⟨(f3 b hb).1.2.2.2.1,(f3 b hb).1.2.1,(f3 b hb).1.2.2.2.2.1,(f3 b hb).1.2.2.2.2.2⟩
   have nC:H5 s3.heap.objs.size=none:=by
    have z:H5 ce.locals=none:=I6.free;rw[cL] at z;exact z
   obtain⟨m,hn,_⟩:=I6.loc;have hn:s6.heap.Ns ce.locals m:=hn;rw[cL] at hn;exact hRR D s3.heap.objs.size s6 m H5 I7 qq hn (I3.sG (atX _) nC)
  ·have ti:=T.item (X.blk s3 H3 scope ce fp) rfl rfl rfl hc i [] s5 _ H5 (fun _ _=>False) I5 (stat I5 n5) st5 go;refine uN ti fun r s6 ⟨u,hr,h6⟩=>?_
   subst hr;refine uN h6 fun _ s7 ⟨x,H7,I7,r7,y7,wN,n7⟩=>?_
   have ZZ:=I7.pinned (stat I7 n7) (T.obj _ _ wN);refine uN (pg _ s7 _ H7 x u _ ZZ r7 (step x H7 y7)) fun _ s8 ⟨zx,H8,I8,Ow,q8⟩=>?_
   refine uN (pt _ s8 zx H8 _ I8 q8) fun b s9 ⟨H9,I9,q9⟩=>?_
   have fin:∀{s':Shared}{H':Hp},Inv (X.blk s3 H3 scope ce fp) ([]++wC fp s7.heap) zx H' s'->Nx H'->∃m,m<n/\∃i H',Inv (X.blk s3 H3 scope ce fp) [] (cT σ (own.map (·.2))) H' s'/\tn i s'.heap/\(∀b∈fp,H' b=none)/\W i m H':=fun{s' H'} I' nx=>by
    obtain⟨m',hm,w'⟩:=ZX H' nx;have Ox:∀b∈fp,∀o,s7.heap.get? b=some o->s'.heap.get? b=some o/\H' b=none:=fun b hb o e=>
     let z:=I'.pin (b,o) (avA _ (avA _ (Ea hb e)))
     ⟨z.1,z.2.1⟩
    have hl:(cT σ (own.map (·.2))).length=zx.length:=by rw[<-Ow,Fv]
    refine⟨m',hm,i+1,H',(I'.yW (pins:=[])).weak hl (fun j v e=>?_),T.keep _ _ _ wN fun b hb o e=>(Ox b hb o e).1,fun b hb=>?_,w'⟩
    ·rw[<-Ow] at e;exact(Fw e).1
    ·obtain⟨o,e,_⟩:=T.obj _ _ wN b hb;exact(Ox b hb o e).2
   cases b with
   |false=>
    simp only[auw,if_false] at q9⊢;exact fin I9 q9
   |true=>
    simp only[if_true] at q9⊢;refine uN (pe _ s9 zx H9 _ I9 q9) fun z zy ⟨yv,H10,Z0,r10,acc,Z1,Z2,nx⟩=>?_
    exact ZQ (X:=X.blk s3 H3 scope ce fp) Z0 Z1 Z2 r10 fun s11 Z3=>fin Z3 nx
 exact codeAny_compStart_list loop (T.self X.A 0 _ _ _ st4 loop)
theorem jd{elt tg iter:Expr}{ifs:List Expr}{scope:Scope}{own:List (Str×Nat)}{pos:Pos}{wi:TI}{g:TG}{tt:TT}{te:TE}(hc:X.calm=true)(hN:X.N.Nodup)(hi:PI X tg iter wi)(ok:wK X.N X.env.scope scope own)
  (hg:∀(s:Shared)(H:Hp)(C:Addr)(cl:List (Str×Addr))(fp:List Addr),PG (X.blk s H scope (compEnvC scope cl C X.env) fp) tg g) (ht:∀(s:Shared)(H:Hp)(C:Addr)(cl:List (Str×Addr))(fp:List Addr),wM (X.blk s H scope (compEnvC scope cl C X.env) fp) ifs tt)
  (he:∀(s:Shared)(H:Hp)(C:Addr)(cl:List (Str×Addr))(fp:List Addr),PE (X.blk s H scope (compEnvC scope cl C X.env) fp) elt te) (hs:∀x,foldedSetIterable iter X.env x=pure x:=by intro _;rfl):
  PE X (.ListComp elt [⟨tg,iter,ifs,0⟩] scope pos) (uO wi g tt te (own.map (·.2))):=by
 intro pins s σ H Q I h;rw[eval_ListComp];refine Ou hc hN I hi ok hg ht he hs h fun D C s' m H' I' q hn f=>⟨m,hn,fun h'' sb=>?_⟩
 obtain⟨f0,f1,f2,f3,f4,f5⟩:=f;exact⟨.ref D,H',I'.turned (t':=s'.toks) (fun b o hb e=>(sb.2 b hb).trans e) f0 f1 f3 f4 f5,rfl,q⟩
theorem Z4{i:Nat}{y:Str}{py:Pos}{elt tg iter:Expr}{ifs:List Expr}{scope:Scope}{own:List (Str×Nat)}{pos spos:Pos}{wi:TI}{g:TG}{tt:TT}{te:TE}(hc:X.calm=true)(hN:X.N.Nodup)(hy:X.N[i]?=some y)(hyl:X.env.scope.names.lookup y=some .local)
  (hsw:swapsWith (.ListComp elt [⟨tg,iter,ifs,0⟩] scope pos) (some (.Name y py)) spos.line X.env=pure true) (hi:PI X tg iter wi) (ok:wK X.N X.env.scope scope own)
  (hg:∀(s:Shared)(H:Hp)(C:Addr)(cl:List (Str×Addr))(fp:List Addr),PG (X.blk s H scope (compEnvC scope cl C X.env) fp) tg g) (ht:∀(s:Shared)(H:Hp)(C:Addr)(cl:List (Str×Addr))(fp:List Addr),wM (X.blk s H scope (compEnvC scope cl C X.env) fp) ifs tt)
  (he:∀(s:Shared)(H:Hp)(C:Addr)(cl:List (Str×Addr))(fp:List Addr),PE (X.blk s H scope (compEnvC scope cl C X.env) fp) elt te) (hs:∀x,foldedSetIterable iter X.env x=pure x:=by intro _;rfl):
  PS X (.Assign [.Name y py] (.ListComp elt [⟨tg,iter,ifs,0⟩] scope pos) spos) (DQ (uO wi g tt te (own.map (·.2))) (jW i)):=by
 intro pins s σ H D I h;rw[exec_Assign_Name_used _ _ _ _ hsw];refine wpAny_bind (wpAny_standAt (wpAny_bind ?_));show wpAny _ X.A (do let _<-comprehension (.ListComp elt [⟨tg,iter,ifs,0⟩] scope pos) scope X.env (firstIterPos [⟨tg,iter,ifs,0⟩] pos) (newList []) false (eval iter X.env) (some (assign (.Name y py) X.env))) _ _ s;have h:uO wi g tt te (own.map (·.2)) σ H (fun x H1=>jW i x σ H1 D.nx):=h;refine wpAny_bind (aO (Ou (Qf:=fun _ s'=>SP X pins D .next s') hc hN I hi ok hg ht he hs h fun L C s' m H' I' q hn f=>?_) fun _ s' hq=>wpAny_pure (wpAny_pure hq));show wpAny _ _ (assign (.Name y py) X.env (.ref L)) _ _ _;refine wpAny_assign_Name (My (v:=V.ref L) I' hN hy (.inl hyl) rfl (fun s2 I2 ⟨a,sb,ha⟩=>?_) (.inr hyl));obtain⟨f0,f1,f2,f3,f4,f5⟩:=f;have haC:C≠a:=by
  rcases ha with z|z
  ·rw[z];exact f1
  ·exact fun e=>f4 y a z e.symm
 refine⟨m,hn.sameBut sb haC,fun h3 Z5=>?_⟩;exact⟨_,H',I2.turned (t':=s2.toks) (fun b o hb e=>(Z5.2 b hb).trans e) f0 f1 f3 f4 f5,q⟩
end
theorem Fx{lo:Int}{n:Nat}{g:TG}{tt:TT}{te:TE}{vs:List Nat}{σ:St}{H1:Hp}{D:Addr}{Qd:Hp->Prop}(Pv:Nat->Hp->Prop)(h0:Pv 0 (upd H1 D (.lst [])))
  (hs:∀i H,i<n->Pv i H->g (.int (lo+i)) (cT σ vs) H fun σ2 H2=>cT σ2 vs=cT σ vs/\tt σ2 H2 fun b H3=>
   if b=true then te σ2 H3 fun y H4=>∃acc,H4 D=some (.lst acc)/\acc.length<sizeLine/\Pv (i+1) (upd H4 D (.lst (acc++[y]))) else Pv (i+1) H3) (hd:∀H,Pv n H->Qd H):
  ∃W:Nat->Nat->Hp->Prop,(∃m,W 0 m (upd H1 D (.lst [])))/\∀i m H,W i m H->
   ((m9 lo n).stop i H/\Qd H)\/((m9 lo n).go i H/\∃Nx:Hp->Prop,(∀H',Nx H'->∃m',m'<m/\W (i+1) m' H')/\∀x H',(m9 lo n).lq i H x H'->g x (cT σ vs) H' fun σ2 H2=>cT σ2 vs=cT σ vs/\tt σ2 H2 fun b H3=>
    if b=true then te σ2 H3 fun y H4=>∃acc,H4 D=some (.lst acc)/\acc.length<sizeLine/\Nx (upd H4 D (.lst (acc++[y]))) else Nx H3):=by
 refine⟨fun i m H=>m=n-i/\i<=n/\Pv i H,⟨n,by simp,aul _,h0⟩,?_⟩;rintro i m H ⟨rfl,hi,p⟩;by_cases hlt:i<n
 ·refine .inr ⟨hlt,Pv (i+1),fun H' p'=>⟨n- (i+1),by omega,rfl,hlt,p'⟩,fun x H' y=>?_⟩;obtain⟨e,y⟩:=y;subst e y;exact hs i _ hlt p
 ·have e:i=n:=by omega
  subst e;exact .inl ⟨atX _,hd H p⟩
theorem lF{K:atQ}{a:Addr}{xs:List V}{g:TG}{tt:TT}{te:TE}{vs:List Nat}{σ:St}{H1:Hp}{D:Addr}{Qd:Hp->Prop}(Pv:Nat->Hp->Prop)(h0:Pv 0 (upd H1 D (.lst [])))(hl:∀i H,i<=xs.length->Pv i H->ak K H a xs)
  (hs:∀i x H,xs[i]?=some x->Pv i H->g x (cT σ vs) H fun σ2 H2=>cT σ2 vs=cT σ vs/\tt σ2 H2 fun b H3=>
   if b=true then te σ2 H3 fun y H4=>∃acc,H4 D=some (.lst acc)/\acc.length<sizeLine/\Pv (i+1) (upd H4 D (.lst (acc++[y]))) else Pv (i+1) H3) (hd:∀H,Pv xs.length H->Qd H):
  ∃W:Nat->Nat->Hp->Prop,(∃m,W 0 m (upd H1 D (.lst [])))/\∀i m H,W i m H->
   ((qG K a).stop i H/\Qd H)\/((qG K a).go i H/\∃Nx:Hp->Prop,(∀H',Nx H'->∃m',m'<m/\W (i+1) m' H')/\∀x H',(qG K a).lq i H x H'->g x (cT σ vs) H' fun σ2 H2=>cT σ2 vs=cT σ vs/\tt σ2 H2 fun b H3=>
    if b=true then te σ2 H3 fun y H4=>∃acc,H4 D=some (.lst acc)/\acc.length<sizeLine/\Nx (upd H4 D (.lst (acc++[y]))) else Nx H3):=by
 refine⟨fun i m H=>m=xs.length-i/\i<=xs.length/\Pv i H,⟨xs.length,by simp,aul _,h0⟩,?_⟩;rintro i m H ⟨rfl,hi,p⟩;have q:=hl i H hi p;by_cases hlt:i<xs.length
 ·refine .inr ⟨⟨xs,xs[i],q,by simp[hlt]⟩,Pv (i+1),fun H' p'=>⟨xs.length- (i+1),by omega,rfl,hlt,p'⟩,fun x H' y=>?_⟩;obtain⟨e,y⟩:=y;subst e;exact hs i x _ (y xs q) p
 ·have e:i=xs.length:=by omega
  subst e;exact .inl ⟨⟨xs,q,atX _⟩,hd H p⟩
theorem Z6{K:atQ}{a:Addr}{xs:List V}{g:TG}{tt:TT}{te:TE}{vs:List Nat}{σ:St}{H1:Hp}{D:Addr}{Qd:Hp->Prop}(Pv:Nat->Hp->Prop)(h0:Pv 0 (upd H1 D (.lst [])))(hl:∀i H,i<=xs.length->Pv i H->bB K H a xs)
  (hs:∀i x H,xs[i]?=some x->Pv i H->g x (cT σ vs) H fun σ2 H2=>cT σ2 vs=cT σ vs/\tt σ2 H2 fun b H3=>
   if b=true then te σ2 H3 fun y H4=>∃acc,H4 D=some (.lst acc)/\acc.length<sizeLine/\Pv (i+1) (upd H4 D (.lst (acc++[y]))) else Pv (i+1) H3) (hd:∀H,Pv xs.length H->Qd H):
  ∃W:Nat->Nat->Hp->Prop,(∃m,W 0 m (upd H1 D (.lst [])))/\∀i m H,W i m H->
   ((wB K a).stop i H/\Qd H)\/((wB K a).go i H/\∃Nx:Hp->Prop,(∀H',Nx H'->∃m',m'<m/\W (i+1) m' H')/\∀x H',(wB K a).lq i H x H'->g x (cT σ vs) H' fun σ2 H2=>cT σ2 vs=cT σ vs/\tt σ2 H2 fun b H3=>
    if b=true then te σ2 H3 fun y H4=>∃acc,H4 D=some (.lst acc)/\acc.length<sizeLine/\Nx (upd H4 D (.lst (acc++[y]))) else Nx H3):=by
 refine⟨fun i m H=>m=xs.length-i/\i<=xs.length/\Pv i H,⟨xs.length,by simp,aul _,h0⟩,?_⟩;rintro i m H ⟨rfl,hi,p⟩;have q:=hl i H hi p;by_cases hlt:i<xs.length
 ·refine .inr ⟨⟨xs,xs[i],q,by simp[hlt]⟩,Pv (i+1),fun H' p'=>⟨xs.length- (i+1),by omega,rfl,hlt,p'⟩,fun x H' y=>?_⟩;obtain⟨e,y⟩:=y;subst e;exact hs i x _ (y xs q) p
 ·have e:i=xs.length:=by omega
  subst e;exact .inl ⟨⟨xs,q,atX _⟩,hd H p⟩
def iD(N:List Str)(sc scope:Scope)(own:List (Str×Nat)):Bool:=
 (match scope.kind with|.function=>true|_=>false)&&(scope.names.all fun y=>decide (scope.names.lookup y.1=some y.2))&&(own.all fun p=>decide (N[p.2]?=some p.1))&&
  (scope.names.all fun y=>match y.2 with
   |.free=>(match sc.names.lookup y.1 with|some .cell=>true|some .free=>true|_=>false)
   |.local=>decide (y.1∈own.map (·.1))||decide (y.1∉N)
   |.cell=>decide (y.1∈own.map (·.1))||decide (y.1∉N)
   |_=>true)
theorem iU{N:List Str}{sc scope:Scope}{own:List (Str×Nat)}(h:iD N sc scope own=true):wK N sc scope own:=by
 unfold iD at h;simp only[aup,auy,decide_eq_true_eq] at h;obtain⟨⟨⟨h1,h2⟩,h3⟩,h4⟩:=h;refine⟨?_,h2,h3,fun y hy e=>?_,fun y hy e=>?_⟩
 ·split at h1
  ·assumption
  ·cases h1
 ·have q:=h4 y hy;simp only[e] at q
  split at q<;>first|exact .inl (by assumption)|exact .inr (by assumption)|cases q
 ·have q:=h4 y hy;rcases e with e|e<;>(simp only[e,axo,decide_eq_true_eq] at q;exact q)
section
variable{κ:Type}[DecidableEq κ]
def cB(kvs:List (κ×V))(k:κ):Option V:=(kvs.find? fun kv=>decide (kv.1=k)).map (·.2)
def dG(kvs:List (κ×V))(k:κ)(v:V):List (κ×V):=
 if(kvs.any fun kv=>decide (kv.1=k))=true then kvs.map (fun kv=>if kv.1=k then(kv.1,v) else kv) else kvs++[(k,v)]
def Oz(kvs:List (κ×V))(k:κ):List (κ×V):=kvs.filter fun kv=>decide (kv.1≠k)
theorem jY{p:κ×V}{r:List (κ×V)}{k:κ}(e:p.1=k):cB (p::r) k=some p.2:=by simp[cB,avt,e]
theorem jG{p:κ×V}{r:List (κ×V)}{k:κ}(e:¬p.1=k):cB (p::r) k=cB r k:=by simp[cB,avt,e]
theorem sY(k:κ):∀kvs:List (κ×V),(kvs.any fun kv=>decide (kv.1=k))=(cB kvs k).isSome
 |[]=>rfl
 |p::r=>by
  rw[awF];by_cases e:p.1=k
  ·simp only[jY e,decide_eq_true e,Bool.true_or,ax8]
  ·rw[jG e,decide_eq_false e,Bool.false_or];exact sY k r
theorem OD(k j:κ)(y:V):∀kvs:List (κ×V),cB (kvs.map fun kv=>if kv.1=k then(kv.1,y) else kv) j=(cB kvs j).map fun x=>if j=k then y else x
 |[]=>rfl
 |p::r=>by
  have ih:=OD k j y r;rw[auf];by_cases h:p.1=k
  ·rw[if_pos h];by_cases e:p.1=j
   ·rw[jY (p:=(p.1,y)) e,jY e,awG,if_pos (e.symm.trans h)]
   ·rw[jG (p:=(p.1,y)) e,jG e,ih]
  ·rw[if_neg h];by_cases e:p.1=j
   ·rw[jY (p:=p) e,jY e,awG,if_neg (fun z=>h (e.trans z))]
   ·rw[jG (p:=p) e,jG e,ih]
theorem OJ(k j:κ)(y:V):∀kvs:List (κ×V),cB kvs k=none->cB (kvs++[(k,y)]) j=if j=k then some y else cB kvs j
 |[],_=>by
  by_cases e:k=j
  ·rw[if_pos e.symm];exact jY (p:=(k,y)) e
  ·rw[if_neg (fun z=>e z.symm)];exact jG (p:=(k,y)) e
 |p::r,hn=>by
  rw[ax9];have hk:¬p.1=k:=fun z=>by rw[jY z] at hn;cases hn
  rw[jG hk] at hn;have ih:=OJ k j y r hn;by_cases e:p.1=j
  ·rw[jY e,jY e,if_neg (fun z=>hk (e.trans z))]
  ·rw[jG e,jG e,ih]
theorem O1(kvs:List (κ×V))(k j:κ)(y:V):cB (dG kvs k y) j=if j=k then some y else cB kvs j:=by
 unfold dG;by_cases a:(kvs.any fun kv=>decide (kv.1=k))=true
 ·rw[if_pos a,OD];rw[sY] at a;by_cases e:j=k
  ·obtain⟨x,hx⟩:=axZ.mp a;rw[if_pos e,e,hx,awG,if_pos rfl]
  ·rw[if_neg e];cases cB kvs j with
   |none=>rfl
   |some x=>rw[awG,if_neg e]
 ·rw[if_neg a];refine OJ k j y kvs ?_;rw[sY] at a;cases q:cB kvs k with
  |none=>rfl
  |some x=>rw[q] at a;exact(a rfl).elim
theorem O2(kvs:List (κ×V))(k:κ)(v:V):(dG kvs k v).length<=kvs.length+1:=by
 unfold dG
 split
 ·rw[atR];omega
 ·rw[aud,auH,avE];omega
theorem uP{kvs:List (κ×V)}{k:κ}(v:V)(h:cB kvs k=none):dG kvs k v=kvs++[(k,v)]:=by
 unfold dG;rw[sY,h];exact if_neg (by decide)
theorem gV.Fy{o:Option V}{u:Option Value}(r:gV o u):o.isSome=u.isSome:=by
 cases o with
 |none=>cases u with
  |none=>rfl
  |some _=>exact(show False from r).elim
 |some _=>cases u with
  |none=>exact(show False from r).elim
  |some _=>rfl
theorem gV.getD{o:Option V}{u:Option Value}{d:V}{d':Value}(r:gV o u)(rd:RelV d d'):RelV (o.getD d) (u.getD d'):=by
 cases o with
 |none=>cases u with
  |none=>exact rd
  |some _=>exact(show False from r).elim
 |some _=>cases u with
  |none=>exact(show False from r).elim
  |some _=>exact r
theorem KV.val{kvs:List (κ×V)}{vs:List (κ×Value)}(r:KV kvs vs)(k:κ):gV (cB kvs k) (valueAt vs k):=by
 unfold KV at r
 induction r with
 |nil=>exact True.intro
 | @cons p q ps qs h t ih=>
  obtain⟨h1,h2⟩:=h;by_cases e:p.1=k
  ·have e':q.1=k:=h1.symm.trans e;have b:valueAt (q::qs) k=some q.2:=by simp[valueAt,avt,e']
   rw[jY e,b];exact h2
  ·have e':¬q.1=k:=fun z=>e (h1.trans z)
   have b:valueAt (q::qs) k=valueAt qs k:=by simp[valueAt,avt,e']
   rw[jG e,b];exact ih
theorem KV.any{kvs:List (κ×V)}{vs:List (κ×Value)}(r:KV kvs vs)(k:κ):(kvs.any fun kv=>decide (kv.1=k))=vs.any fun kv=>decide (kv.1=k):=by
 unfold KV at r
 induction r with
 |nil=>rfl
 |cons h t ih=>rw[awF,awF,ih,h.1]
theorem KV.repl{kvs:List (κ×V)}{vs:List (κ×Value)}(r:KV kvs vs)(k:κ){y:V}{u:Value}(ry:RelV y u):
  KV (kvs.map fun kv=>if kv.1=k then(kv.1,y) else kv) (vs.map fun kv=>if kv.1=k then(kv.1,u) else kv):=by
 unfold KV at r⊢
 induction r with
 |nil=>exact .nil
 | @cons p q ps qs h t ih=>
  rw[auf,auf];refine .cons ?_ ih;obtain⟨h1,h2⟩:=h;by_cases e:p.1=k
  ·rw[if_pos e,if_pos (h1.symm.trans e)];exact⟨h1,ry⟩
  ·rw[if_neg e,if_neg (fun z=>e (h1.trans z))];exact⟨h1,h2⟩
theorem KV.put{kvs:List (κ×V)}{vs:List (κ×Value)}(r:KV kvs vs)(k:κ){y:V}{u:Value}(ry:RelV y u):KV (dG kvs k y) (stored vs k u):=by
 unfold dG stored;rw[r.any k];by_cases e:(vs.any fun kv=>decide (kv.1=k))=true
 ·rw[if_pos e,if_pos e];exact r.repl k ry
 ·rw[if_neg e,if_neg e];exact Paired.snoc r ⟨rfl,ry⟩
theorem KV.drop{kvs:List (κ×V)}{vs:List (κ×Value)}(r:KV kvs vs)(k:κ):KV (Oz kvs k) (without vs k):=by
 unfold KV at r⊢;unfold Oz without
 induction r with
 |nil=>exact .nil
 | @cons p q ps qs h t ih=>
  obtain⟨h1,h2⟩:=h;rw[awc,awc];by_cases e:p.1=k
  ·have a:¬decide (p.1≠k)=true:=by simp[e]
   have b:¬decide (q.1≠k)=true:=by simp[h1.symm.trans e]
   rw[if_neg a,if_neg b];exact ih
  ·have e':¬q.1=k:=fun z=>e (h1.trans z)
   have a:decide (p.1≠k)=true:=by simp[e]
   have b:decide (q.1≠k)=true:=by simp[e']
   rw[if_pos a,if_pos b];exact .cons ⟨h1,h2⟩ ih
theorem KV.keys{kvs:List (κ×V)}{vs:List (κ×Value)}(r:KV kvs vs):kvs.map (·.1)=vs.map (·.1):=by
 unfold KV at r
 induction r with
 |nil=>rfl
 |cons h t ih=>rw[auf,auf,ih,h.1]
theorem KV.length{kvs:List (κ×V)}{vs:List (κ×Value)}(r:KV kvs vs):kvs.length=vs.length:=Paired.length r
end
theorem wO{P:Program}{w:World}{k:bc}{u:Value}(r:RelV (kV k) u):(fX P w).is k u=true:=by
 cases k with
 |inl i=>obtain⟨t,e⟩:=(show ∃t,u=au6 i t from r);subst e;exact Wz P w i t
 |inr x=>obtain⟨t,e⟩:=(show ∃t,u=awq x t from r);subst e;exact WD P w x t
theorem O3{P:Program}{w:World}:∀{ks:List bc}{us:List Value},Vals (ks.map kV) us->ItemsAre (fX P w) ks us
 |[],_,r=>by rw[awC] at r;cases r;exact .nil
 |k::ks,_,r=>by
  rw[auf] at r;cases r with
  |cons h t=>exact .cons (wO h) (O3 t)
abbrev KT(H:Hp):List (List bc×V)->List (List bc×Addr×Value)->Prop:=Paired fun p q=>p.1=q.1/\H q.2.1=some (.tup (p.1.map kV))/\RelV p.2 q.2.2
theorem KT.val{H:Hp}{kvs:List (List bc×V)}{xs:List (List bc×Addr×Value)}(r:KT H kvs xs)(k:List bc):gV (cB kvs k) ((atKey xs k).map (·.2)):=by
 induction r with
 |nil=>exact True.intro
 | @cons p q ps qs h t ih=>
  obtain⟨h1,_,h2⟩:=h;by_cases e:p.1=k
  ·have e':q.1=k:=h1.symm.trans e;have b:atKey (q::qs) k=some q.2:=by simp[atKey,avt,e']
   rw[jY e,b];exact h2
  ·have e':¬q.1=k:=fun z=>e (h1.trans z)
   have b:atKey (q::qs) k=atKey qs k:=by simp[atKey,avt,e']
   rw[jG e,b];exact ih
theorem KT.repl{H:Hp}{kvs:List (List bc×V)}{xs:List (List bc×Addr×Value)}(r:KT H kvs xs)(k:List bc){y:V}{u:Value}(ry:RelV y u):
  KT H (kvs.map fun kv=>if kv.1=k then(kv.1,y) else kv) (xs.map (putAt k u)):=by
 induction r with
 |nil=>exact .nil
 | @cons p q ps qs h t ih=>
  rw[auf,auf];refine .cons ?_ ih;obtain⟨h1,h2,h3⟩:=h;unfold putAt;by_cases e:p.1=k
  ·rw[if_pos e,if_pos (h1.symm.trans e)];exact⟨h1,h2,ry⟩
  ·rw[if_neg e,if_neg (fun z=>e (h1.trans z))];exact⟨h1,h2,h3⟩
theorem KT.put{H:Hp}{kvs:List (List bc×V)}{xs:List (List bc×Addr×Value)}(r:KT H kvs xs)(k:List bc){b:Addr}{y:V}{u:Value}(hb:H b=some (.tup (k.map kV)))(ry:RelV y u):
  KT H (dG kvs k y) (storedH xs k b u):=by
 have e:(kvs.any fun kv=>decide (kv.1=k))=(atKey xs k).isSome:=by
  rw[sY,(r.val k).Fy,axp]
 unfold dG storedH;rw[e];by_cases q:(atKey xs k).isSome=true
 ·rw[if_pos q,if_pos q];exact r.repl k ry
 ·rw[if_neg q,if_neg q];exact Paired.snoc r ⟨rfl,hb,ry⟩
theorem KT.keeps{H H':Hp}{kvs:List (List bc×V)}{xs:List (List bc×Addr×Value)}(r:KT H kvs xs)(ht:∀b ys,H b=some (.tup ys)->H' b=some (.tup ys)):KT H' kvs xs:=
 Paired.Dt r fun _ _ z=>⟨z.1,ht _ _ z.2.1,z.2.2⟩
section
variable{P:Program}{w:World}{H:Hp}{h:Heap}{a:Addr}
theorem O4{u:HO}(ok:cC P w H h)(e:Rd H a u):cQ P w H h a u:=e.ok ok
theorem sZ{kvs:List (bc×V)}(ok:cC P w H h)(e:Rd H a (.dK kvs)):kvs.length<=sizeLine/\(a==sysModules)=false/\∃vs,KV kvs vs/\h.DictOf (fX P w) a vs:=
 show cQ P w H h a (.dK kvs) from O4 ok e
theorem Z7{kvs:List (bc×V)}(ok:cC P w H h)(e:H a=some (.dK kvs)):kvs.length<=sizeLine/\(a==sysModules)=false/\∃vs,KV kvs vs/\h.DictOf (fX P w) a vs:=sZ ok (.inl e)
theorem tu{ks:List bc}(ok:cC P w H h)(e:H a=some (.tup (ks.map kV))):(tupleKind (fX P w)).is h ks a:=by
 obtain⟨_,its,r,o,h1,h2,n,h3⟩:=(show cQ P w H h a (.tup (ks.map kV)) from ok a _ e);exact⟨o,its.toArray,n,h1,h2,h3,by simpa using O3 r⟩
theorem uQ{kvs:List (List bc×V)}(ok:cC P w H h)(e:Rd H a (.dT kvs)):kvs.length<=sizeLine/\(a==sysModules)=false/\
  ∃xs,KT H kvs xs/\h.DictOfH (tupleKind (fX P w)) a xs:=by
 obtain⟨z,y,xs,r,o,es,ep,h1,h2,h3,h4,h5⟩:=(show cQ P w H h a (.dT kvs) from O4 ok e);refine⟨z,y,xs,r,o,es,ep,h1,h2,h3,h4,fun x hx=>?_,h5⟩;have all:∀{l:List (List bc×V)}{m:List (List bc×Addr×Value)},KT H l m->∀x∈m,(tupleKind (fX P w)).is h x.1 x.2.1:=by
  intro l m q
  induction q with
  |nil=>intro x hx;exact nomatch hx
  | @cons p q ps qs hq t ih=>
   intro x hx;rcases at3.mp hx with e|hx
   ·subst e;exact tu ok (by rw[<-hq.1];exact hq.2.1)
   ·exact ih x hx
 exact all r x hx
theorem Z8{kvs:List (List bc×V)}(ok:cC P w H h)(e:H a=some (.dT kvs)):kvs.length<=sizeLine/\(a==sysModules)=false/\
  ∃xs,KT H kvs xs/\h.DictOfH (tupleKind (fX P w)) a xs:=uQ ok (.inl e)
end
def fY(H:Hp)(a:Addr)(y:V)(r:Option V):Prop:=
 (∃kvs k,Rd H a (.dK kvs)/\y=kV k/\r=cB kvs k)\/∃kvs k b,Rd H a (.dT kvs)/\y=.ref b/\H b=some (.tup (k.map kV))/\r=cB kvs k
def lG(H:Hp)(a:Addr)(y v:V)(H':Hp):Prop:=
 (∃kvs k,H a=some (.dK kvs)/\y=kV k/\kvs.length<sizeLine/\H'=upd H a (.dK (dG kvs k v)))\/
 ∃kvs k b,H a=some (.dT kvs)/\y=.ref b/\H b=some (.tup (k.map kV))/\kvs.length<sizeLine/\H'=upd H a (.dT (dG kvs k v))
theorem fY.k{H:Hp}{a:Addr}{kvs:List (bc×V)}{k:bc}(e:H a=some (.dK kvs)):fY H a (kV k) (cB kvs k):=.inl ⟨kvs,k,.inl e,rfl,rfl⟩
theorem fY.t{H:Hp}{a b:Addr}{kvs:List (List bc×V)}{k:List bc}(e:H a=some (.dT kvs))(eb:H b=some (.tup (k.map kV))):fY H a (.ref b) (cB kvs k):=.inr ⟨kvs,k,b,.inl e,rfl,eb,rfl⟩
theorem lG.k{H:Hp}{a:Addr}{kvs:List (bc×V)}{k:bc}{v:V}(e:H a=some (.dK kvs))(hl:kvs.length<sizeLine):lG H a (kV k) v (upd H a (.dK (dG kvs k v))):=.inl ⟨kvs,k,e,rfl,hl,rfl⟩
theorem lG.t{H:Hp}{a b:Addr}{kvs:List (List bc×V)}{k:List bc}{v:V}(e:H a=some (.dT kvs))(eb:H b=some (.tup (k.map kV)))(hl:kvs.length<sizeLine):
  lG H a (.ref b) v (upd H a (.dT (dG kvs k v))):=.inr ⟨kvs,k,b,e,rfl,eb,hl,rfl⟩
section
variable{X:Cx}{pins:List (Addr×Obj)}{σ:St}{H:Hp}{s:Shared}{a:Addr}{y v:V}{u r:Value}{o:Option V}{A:Around}{E:Value->Shared->Prop}
theorem Inv.big(I:Inv X pins σ H s):sysModules<s.heap.objs.size:=by
 have h:mainGlobals<s.heap.objs.size:=(I.mod.glob.keeps I.bk).lt;exact awH (by decide) h
theorem Z9{Q:Value->Shared->Prop}(hu:A.units+1<cLine)(I:Inv X pins σ H s)(g:fY H a y (some v))(ry:RelV y u)(h:∀w' s',Inv X pins σ H s'->RelV v w'->Q w' s'):
  wpAny (model X.prog X.w) A (getItem (.ref a) u) Q E s:=by
 rcases g with⟨kvs,k,e,ey,l⟩|⟨kvs,k,b,e,ey,eb,l⟩
 ·subst ey;obtain⟨z,hd,vs,rel,dd⟩:=sZ I.hok e;obtain⟨w',hw,lD⟩:=gV.some_of (v:=v) (o:=valueAt vs k) (by rw[l];exact rel.val k);exact wpAny_getItem_of (wO ry) dd.mapOf hw (h w' _ (I.tok _) lD)
 ·subst ey;cases(show u=aue b from ry);obtain⟨z,hd,xs,rel,dd⟩:=uQ I.hok e;obtain⟨w',hw,lD⟩:=gV.some_of (v:=v) (o:=(atKey xs k).map (·.2)) (by rw[l];exact rel.val k);obtain⟨p,hp,hp2⟩:=axq.mp hw;refine wpAny_getItem_heap (tupleKind_room_in1 hu) (tu I.hok eb) dd hp ?_;rw[hp2];exact h w' _ (I.tok _) lD
theorem aac{Q:Value->Shared->Prop}(hu:A.units+1<cLine)(I:Inv X pins σ H s)(g:fY H a y o)(ry:RelV y u)(h:∀s',Inv X pins σ H s'->Q (.bool (!o.isSome)) s'):
  wpAny (model X.prog X.w) A (compareOp .NotIn u (.ref a)) Q E s:=by
 rcases g with⟨kvs,k,e,ey,l⟩|⟨kvs,k,b,e,ey,eb,l⟩
 ·subst ey;obtain⟨z,hd,vs,rel,dd⟩:=sZ I.hok e;refine wpAny_notIn_of (wO ry) hd dd.mapOf ?_;rw[<-(rel.val k).Fy,<-l];exact h _ (I.tok _)
 ·subst ey;cases(show u=aue b from ry);obtain⟨z,hd,xs,rel,dd⟩:=uQ I.hok e;refine wpAny_notIn_heap (tupleKind_room_in1 hu) (tu I.hok eb) hd dd ?_;have q:=(rel.val k).Fy;rw[axp] at q;rw[<-q,<-l];exact h _ (I.tok _)
theorem Fz{h':Heap}{t':Nat}{ob:HO}(I:Inv X pins σ H s)(mu:vY (H a))(hs:auV a s.heap h')(he:∃q,h'.get? a=some q)(new:cQ X.prog X.w (upd H a ob) h' a ob):
  Inv X pins σ (upd H a ob) {s with heap:=h',toks:=t'}:=
 I.write (x:=a) (e:=a) mu (.inl rfl) (fun b q hb z=>(hs.2 b hb).trans z) he new
theorem aad{P:Program}{w:World}{H':Hp}{h':Heap}{kvs:List (bc×V)}{vs:List (bc×Value)}(z:kvs.length<=sizeLine)(hd:(a==sysModules)=false)(rel:KV kvs vs)(dd:h'.DictOf (fX P w) a vs):
  cQ P w H' h' a (.dK kvs):=⟨z,hd,vs,rel,dd⟩
theorem aae{H':Hp}{Q:Unit->Shared->Prop}(hu:A.units+1<cLine)(I:Inv X pins σ H s)(g:lG H a y v H')(ry:RelV y u)(rv:RelV v r)(h:∀s',Inv X pins σ H' s'->Q () s'):
  wpAny (model X.prog X.w) A (setItem (.ref a) u r) Q E s:=by
 rcases g with⟨kvs,k,e,ey,l,eH⟩|⟨kvs,k,b,e,ey,eb,l,eH⟩
 ·subst ey eH;obtain⟨z,hd,vs,rel,dd⟩:=Z7 I.hok e;have hz:vs.length<=sizeLine:=by rw[<-rel.length];exact z
  have hl:(dG kvs k v).length<=sizeLine:=by have:=O2 kvs k v;omega
  refine wpAny_setItem_pairs (hsz:=hz) (wO ry) dd fun h' nJ hs=>h _ ?_
  have he:∃q,h'.get? a=some q:=let⟨q,_,_,hq,_⟩:=nJ;⟨q,hq⟩
  exact Fz I (by rw[e];exact True.intro) hs he (aad hl hd (rel.put k rv) nJ)
 ·subst ey eH;cases(show u=aue b from ry);obtain⟨z,hd,xs,rel,dd⟩:=Z8 I.hok e;have hz:xs.length<=sizeLine:=by rw[<-Paired.length rel];exact z
  have hl:(dG kvs k v).length<=sizeLine:=by have:=O2 kvs k v;omega
  refine wpAny_setItem_heap (hsz:=hz) (tupleKind_room_in1 hu) (tu I.hok eb) dd fun h' nJ hs=>h _ ?_
  obtain⟨q,es,ep,hq,h2,h3,h4,_,h5⟩:=nJ;refine Fz I (by rw[e];exact True.intro) hs ⟨q,hq⟩ ⟨hl,hd,_,(rel.put k eb rv).keeps fun c ys ec=>?_,q,es,ep,hq,h2,h3,h4,h5⟩;rw[au (bx ec e (fun z=>nomatch z))];exact ec
end
section
variable{X:Cx}{pins:List (Addr×Obj)}{σ:St}{H:Hp}{s:Shared}{a:Addr}{kvs:List (bc×V)}{k:bc}{u:Value}{A:Around}{E:Value->Shared->Prop}
theorem aaf{Q:Value->Shared->Prop}(I:Inv X pins σ H s)(e:Rd H a (.dK kvs))(h:∀t s',Inv X pins σ H s'->Q (.int kvs.length t) s'):wpAny (model X.prog X.w) A (call (.builtin "len") [.ref a]) Q E s:=by
 obtain⟨z,hd,vs,rel,dd⟩:=sZ I.hok e;refine call_len_dict hd dd (by rw[<-rel.length];rw[sizeLine_eq] at z;omega) ?_;rw[<-rel.length];exact h _ _ (I.tok _)
end
def O5(i:Expr):Prop:=∀ov iv,subscripted i false ov iv=operate [ov,iv] (getItem ov iv)
theorem aag{prog:Program}{w:World}{A:Around}{E:Value->Shared->Prop}{s:Shared}{env:Env}{value slice:Expr}{pos:Pos}{T id:String}{Q:Value->Shared->Prop}
  (hl:typeLookup (.type T) "__getitem__"=pure (some (.builtin id))) (hs:O5 slice)
  (h:wpAny (model prog w) A (eval value env) (fun o s₁=>wpAny (model prog w) A (eval slice env) (fun i s₂=>s₂.TypeIs o T/\wpAny (model prog w) A (getItem o i) Q E s₂) E s₁) E s):
  wpAny (model prog w) A (eval (.Subscript value slice pos) env) Q E s:=by
 refine Subscript_ (wpAny_mono h (fun o s₁ h₁=>wpAny_mono h₁ (fun i s₂ h₂=>?_) fun _ _ x=>x) fun _ _ x=>x);obtain⟨hT,h₂⟩:=h₂;unfold subscriptTail;refine wpAny_bind ?_;rw[getitemInPython_of_ne hT.not_modules];refine wpAny_bind (wpAny_specialOf hT hl ?_);have fin:wpAny (model prog w) A (subscripted slice false o i) (fun r s₃=>wpAny (model prog w) A (letTemporaryGo value o r>>=fun _=>pure r) Q E s₃) E s₂:=by
  rw[hs o i];exact wpAny_operating (wpAny_mono h₂ (fun r s₃ h₃=>wpAny_bind (wpAny_letTemporaryGo (wpAny_pure h₃))) fun _ _ x=>x)
 first
  |exact wpAny_pure (wpAny_bind fin)
  |exact wpAny_bind (wpAny_pure (wpAny_bind fin))
  |exact wpAny_bind fin
theorem aah{X:Cx}{pins:List (Addr×Obj)}{σ:St}{H:Hp}{s:Shared}{a:Addr}{y:V}{o:Option V}(I:Inv X pins σ H s)(g:fY H a y o):s.TypeIs (.ref a) "dict":=by
 rcases g with⟨kvs,k,e,_,_⟩|⟨kvs,k,b,e,_,_,_⟩
 ·obtain⟨_,_,vs,_,dd⟩:=sZ I.hok e;exact dd.typeIs
 ·obtain⟨_,_,xs,_,dd⟩:=uQ I.hok e;exact dd.typeIs
def aai(td ty:TE):TE:=fun σ H Q=>td σ H fun x H1=>ty σ H1 fun y H2=>∃a v,x=.ref a/\fY H2 a y (some v)/\Q v H2
def aaj(ty td:TE):TE:=fun σ H Q=>ty σ H fun y H1=>td σ H1 fun x H2=>∃a o,x=.ref a/\fY H2 a y o/\Q (.bl (!o.isSome)) H2
def aak(td ty tv:TE):TS:=fun D σ H=>tv σ H fun v H1=>td σ H1 fun x H2=>ty σ H2 fun y H3=>∃a H4,x=.ref a/\lG H3 a y v H4/\D.nx σ H4
section
variable{X:Cx}{o i e value:Expr}{pos pos' tpos:Pos}{td ty tv:TE}
theorem wQ(hu:X.A.units+1<cLine)(ho:PE X o td)(hi:PE X i ty)(hs:O5 i):PE X (.Subscript o i pos) (aai td ty):=by
 intro pins s σ H Q I h;refine aag PySem.F.slot_dict_getitem.lookup hs (aO (ho pins s σ H _ I h) fun u s1 ⟨x,H1,I1,rx,q1⟩=>aO (hi pins s1 σ H1 _ I1 q1) fun iv s2 ⟨y,H2,I2,ry,a,v,ex,g,q2⟩=>?_);subst ex;obtain rfl:u=aue a:=rx;exact⟨aah I2 g,Z9 hu I2 g ry fun w' s3 I3 lD=>⟨v,H2,I3,lD,q2⟩⟩
theorem zA(hu:X.A.units+1<cLine)(hi:PE X i ty)(ho:PE X o td):PC X .NotIn i o (aaj ty td):=by
 intro pins s σ H Q I h;refine aO (hi pins s σ H _ I h) fun iv s1 ⟨y,H1,I1,ry,q1⟩=>aO (ho pins s1 σ H1 _ I1 q1) fun u s2 ⟨x,H2,I2,rx,a,ov,ex,g,q2⟩=>?_
 subst ex;obtain rfl:u=aue a:=rx;exact aac hu I2 g ry fun s3 I3=>⟨.bl (!ov.isSome),H2,I3,rfl,q2⟩
theorem wR(hu:X.A.units+1<cLine)(ho:PE X o td)(hi:PE X i ty)(hv:PE X value tv)(hs:swapsWith value (some (.Subscript o i pos')) pos.line X.env=pure false):
  PS X (.Assign [.Subscript o i pos'] value pos) (aak td ty tv):=by
 intro pins s σ H D I h;refine wpAny_Assign_Subscript (aO (hv pins s σ H _ I h) fun r s1 ⟨v,H1,I1,rv,q1⟩=>aO (ho pins s1 σ H1 _ I1 q1) fun u s2 ⟨x,H2,I2,rx,q2⟩=>aO (hi pins s2 σ H2 _ I2 q2) fun iv s3 ⟨y,H3,I3,ry,a,H4,ex,g,q3⟩=>?_) hs;subst ex;obtain rfl:u=aue a:=rx;exact aae hu I3 g ry rv fun s4 I4=>⟨σ,H4,I4,q3⟩
end
theorem aal{P:Program}{w:World}{H:Hp}(h:Heap)(hb:sysModules<h.objs.size):cQ P w H (h.push {cls:=.type "dict",data:=.dict #[]}) h.objs.size (.dK []):=
 ⟨aul _,beq_eq_false_iff_ne.mpr (Ne.symm (aun hb)),[],.nil,Heap.DictOf.new h⟩
theorem O6{P:Program}{w:World}{H:Hp}(h:Heap)(hb:sysModules<h.objs.size):cQ P w H (h.push {cls:=.type "dict",data:=.dict #[]}) h.objs.size (.dT []):=
 ⟨aul _,beq_eq_false_iff_ne.mpr (Ne.symm (aun hb)),[],.nil,_,#[],0,auo _ rfl,⟨rfl,rfl,rfl⟩,rfl,rfl,awI⟩
def aam:TE:=fun _ H Q=>∀p,H p=none->Q (.ref p) (upd H p (.dK []))
def aan:TE:=fun _ H Q=>∀p,H p=none->Q (.ref p) (upd H p (.dT []))
section
variable{X:Cx}{pos:Pos}
theorem FQ:PE X (.Dict [] [] pos) aam:=fun pins s σ H Q I h=>
 wpAny_Dict_empty ⟨.ref s.heap.objs.size,_,I.laid (a:=s.heap.objs.size) (o:=.dK []) (t':=s.toks) (fun _ _ q=>auc _ q) (atX _) (aal s.heap I.big),rfl,h _ (I.hok.fresh (atX _))⟩
theorem O7:PE X (.Dict [] [] pos) aan:=fun pins s σ H Q I h=>
 wpAny_Dict_empty ⟨.ref s.heap.objs.size,_,I.laid (a:=s.heap.objs.size) (o:=.dT []) (t':=s.toks) (fun _ _ q=>auc _ q) (atX _) (O6 s.heap I.big),rfl,h _ (I.hok.fresh (atX _))⟩
end
structure M1(X:Cx)(o:Expr)(m:Str)(apos:Pos)(e:Expr)(cpos:Pos):Prop where
 base:attributeBase o m X.env (eval o X.env)=eval o X.env
 few:((backTo cpos (starEach [e] X.env)).all (fun x=> !x.1)&&(backToKw cpos (keywordEach [] X.env)).all (fun x=>x.1.isSome)
  &&decide (([e]:List Expr).length+([]:List Keyword).length+(if([]:List Keyword).isEmpty then 0 else 1)<30))=true
 line:(apos.endLine==cpos.line)=true
 trees:backTo cpos (starEach [e] X.env)=[(false,eval e X.env)]
structure M2(X:Cx)(o:Expr)(m:Str)(apos:Pos)(e f:Expr)(cpos:Pos):Prop where
 base:attributeBase o m X.env (eval o X.env)=eval o X.env
 few:((backTo cpos (starEach [e,f] X.env)).all (fun x=> !x.1)&&(backToKw cpos (keywordEach [] X.env)).all (fun x=>x.1.isSome)
  &&decide (([e,f]:List Expr).length+([]:List Keyword).length+(if([]:List Keyword).isEmpty then 0 else 1)<30))=true
 line:(apos.endLine==cpos.line)=true
 trees:backTo cpos (starEach [e,f] X.env)=[(false,eval e X.env),(false,eval f X.env)]
def O8(H:Hp)(a:Addr):Prop:=(∃kvs,Rd H a (.dK kvs))\/∃kvs,Rd H a (.dT kvs)
theorem aao{X:Cx}{pins:List (Addr×Obj)}{σ:St}{H:Hp}{s:Shared}{a:Addr}(I:Inv X pins σ H s)(d:O8 H a):
  s.TypeIs (.ref a) "dict"/\(∀b,aue a=.ref b->∃ob,s.heap.get? b=some ob/\ob.dict=none)/\(a==sysModules)=false:=by
 rcases d with⟨kvs,e⟩|⟨kvs,e⟩
 ·obtain⟨_,hd,vs,_,dd⟩:=sZ I.hok e;refine⟨dd.typeIs,fun b q=>?_,hd⟩;cases q;obtain⟨ob,_,_,h1,h2,_⟩:=dd;exact⟨ob,h1,h2.2.1⟩
 ·obtain⟨_,hd,xs,_,dd⟩:=uQ I.hok e;refine⟨dd.typeIs,fun b q=>?_,hd⟩;cases q;obtain⟨ob,_,_,h1,h2,_⟩:=dd;exact⟨ob,h1,h2.2.1⟩
section
variable{X:Cx}{pins:List (Addr×Obj)}{σ:St}{H:Hp}{s:Shared}{a:Addr}{y d:V}{u r:Value}{o:Option V}{A:Around}{E:Value->Shared->Prop}
theorem aap{Q:Value->Shared->Prop}(hu:A.units+1<cLine)(I:Inv X pins σ H s)(g:fY H a y o)(ry:RelV y u)(h:∀w' s',Inv X pins σ H s'->RelV (o.getD .non) w'->Q w' s'):
  wpAny (model X.prog X.w) A (call (.builtin "dict.get") [.ref a,u]) Q E s:=by
 rcases g with⟨kvs,k,e,ey,l⟩|⟨kvs,k,b,e,ey,eb,l⟩
 ·subst ey;obtain⟨z,hd,vs,rel,dd⟩:=sZ I.hok e;refine call_meetsIn axr dd.typeIs aya (ayb _ _) (meets_dict_get (fX X.prog X.w) a (wO ry) hd) ⟨_,dd.mapOf,h _ _ (I.tok _) ?_⟩;rw[l];exact(rel.val k).getD rfl
 ·subst ey;cases(show u=aue b from ry);obtain⟨z,hd,xs,rel,dd⟩:=uQ I.hok e;refine call_meetsIn axr dd.typeIs aya (ayb _ _) (meetsH_dict_get (tupleKind (fX X.prog X.w)) a b hd) ⟨tupleKind_room_in1 hu,k,xs,tu I.hok eb,dd,h _ _ (I.tok _) ?_⟩;rw[l];exact(rel.val k).getD rfl
end
def aaq(td ty:TE):TE:=fun σ H Q=>td σ H fun x H1=>∃a,x=.ref a/\O8 H1 a/\ty σ H1 fun y H2=>∃o,fY H2 a y o/\Q (o.getD .non) H2
section
variable{X:Cx}{o e f:Expr}{apos cpos:Pos}{td ty tx:TE}
theorem aar(hu:X.A.units+1<cLine)(ho:PE X o td)(he:PE X e ty)(m:M1 X o "get" apos e cpos):PE X (.Call (.Attribute o "get" apos) [e] [] cpos) (aaq td ty):=by
 intro pins s σ H Q I h;refine wpAny_Call_method m.base m.few m.line PySem.F.plainAttrs_dict axr PySem.F.type_dict_get (aO (ho pins s σ H _ I h) fun u s1 ⟨x,H1,I1,rx,a,ex,d,q1⟩=>?_);subst ex;obtain rfl:u=aue a:=rx;obtain⟨t1,t2,_⟩:=aao I1 d;refine⟨t1,t2,?_⟩;rw[m.trees];refine Calls.callWith_builtin rfl (Calls.evalArgs_plain (Calls.spliced_cons (aO (he pins s1 σ H1 _ I1 q1) fun iv s2 ⟨y,H2,I2,ry,ov,g,q2⟩=>Calls.spliced_nil ?_)));exact aap hu I2 g ry fun w' s3 I3 lD=>⟨_,H2,I3,lD,q2⟩
end
section
variable{X:Cx}{pins:List (Addr×Obj)}{σ:St}{H:Hp}{s:Shared}{h':Heap}
theorem Inv.O9{t':Nat}{ch:List Addr}(I:Inv X pins σ H s)(k:∀b o,b∉ch->s.heap.get? b=some o->h'.get? b=some o)(hf:∀b∈ch,jt X pins H b):Inv X pins σ H {s with heap:=h',toks:=t'}:=by
 have qC:∀b u,H b=some u->b∉ch:=fun b u e z=>by
  have q:=(hf b z).1;rw[q] at e;cases e
 refine I.step (g':=s.gens) (d':=s.drawn) (ch:=ch) (fun b hb=>⟨(hf b hb).2.2.2.1,(hf b hb).2.1,(hf b hb).2.2.2.2.1,(hf b hb).2.2.2.2.2⟩) (fun b o _ _ hc e _=>k b o hc e) (fun b o _ _ hc e _=>⟨o.slots,k b o hc e⟩)
  (fun _ _ _ _ n=>n) (fun b o hc e=>⟨o,k b o hc e⟩) (fun _ _ e=>e) (fun _ _ _ e=>e) (fun b ps e=>⟨#[],by rw[e];simp⟩) (fun m hm=>?_) (fun b u e=>?_) I.bare
 ·obtain⟨o,es,ep,ho,r⟩:=hm;exact⟨o,es,ep,k _ o (fun z=>(hf _ z).2.1 rfl) ho,r⟩
 ·refine(I.hok b u e).stay (fun c v hc q=>k c v ?_ q) (fun _ q=>q) fun _ _ q=>q
  rcases hc with z|z
  ·rw[z];exact qC b u e
  ·exact qC c _ z
theorem Inv.FW{t':Nat}{ch:List Addr}{T:Addr}{ob:HO}(I:Inv X pins σ H s)(k:∀b o,b∉ch->s.heap.get? b=some o->h'.get? b=some o)(hf:∀b∈ch,jt X pins H b)(hT:s.heap.objs.size<=T)
  (new:cQ X.prog X.w (upd H T ob) h' T ob):Inv X pins σ (upd H T ob) {s with heap:=h',toks:=t'}:=by
 have hn:H T=none:=I.hok.fresh hT;have qC:∀b u,H b=some u->b∉ch:=fun b u e z=>by
  have q:=(hf b z).1;rw[q] at e;cases e
 refine I.step (g':=s.gens) (d':=s.drawn) (ch:=ch) (fun b hb=>⟨(hf b hb).2.2.2.1,(hf b hb).2.1,(hf b hb).2.2.2.2.1,(hf b hb).2.2.2.2.2⟩) (fun b o _ _ hc e _=>k b o hc e) (fun b o _ _ hc e _=>⟨o.slots,k b o hc e⟩)
  (fun b o _ e n=>?_) (fun b o hc e=>⟨o,k b o hc e⟩) (fun b xs e=>?_) (fun b o u e=>?_) (fun b ps e=>⟨#[],?_⟩) (fun m hm=>?_) (fun b u e=>?_) I.bare
 ·rw[au (aun (auG (aua e) hT))];exact n
 ·rw[au (aV e hn)];exact e
 ·rw[au (aV e hn)];exact e
 ·rw[au (aV e hn),e];simp
 ·obtain⟨o,es,ep,ho,r⟩:=hm;exact⟨o,es,ep,k _ o (fun z=>(hf _ z).2.1 rfl) ho,r⟩
 ·by_cases hb:b=T
  ·subst hb;rw[aC] at e;cases e;exact new
  ·rw[au hb] at e;refine(I.hok b u e).stay (fun c v hc q=>k c v ?_ q) (fun c q=>by rw[au (aV q hn)];exact q) fun c xs q=>by rw[au (aV q hn)];exact q
   rcases hc with z|z
   ·rw[z];exact qC b u e
   ·exact qC c _ z
end
section
variable{prog:Program}{w:World}{A:Around}{E:Value->Shared->Prop}{s:Shared}
theorem aas{d:Addr}{o:Obj}{es:Array DictEntry}{ep:Nat}{Q:Value->Shared->Prop}(hd:(d==sysModules)=false)(ho:s.heap.get? d=some o)(hc:o.ExactDict)(hdat:o.data=.dict es ep)
  (hQ:Q (.ref s.heap.objs.size) {s with heap:=s.heap.push {cls:=.type "dict_keyiterator",data:=.fields #[.ref d,.int 0 0,.int es.size 0,.int ep 0]}}):
  wpAny (model prog w) A (pyIter (.ref d)) Q E s:=by
 have hT:s.TypeIs (.ref d) "dict":=⟨o,ho,hc.1⟩;refine wpAny_pyIter_slot hT F.slot_dict_iter (wpAny_call_entry F.slot_dict_iter hT F.entry_dict_iter ?_ (F.args_dict_iter_1 _));unfold Builtin.«dict.__iter__»;refine wpAny_bind ?_;unfold Builtin.Dict.dictSlotNone;refine wpAny_bind (wpAny_notOrdered_dict hT ?_);show wpAny _ _ (pure (aue d)) _ _ s;refine wpAny_pure ?_;show wpAny _ _ (Builtin.Dict.showsAll d>>=_) _ _ s;unfold Builtin.Dict.showsAll;rw[if_neg (by rw[hd];exact auq)];refine wpAny_bind (wpAny_pure ?_);refine wpAny_bind (wpAny_dictEntries ho hdat ?_);refine wpAny_bind (wpAny_dictEpoch ho hdat ?_);refine wpAny_bind (wpAny_newObj_type (wpAny_pure ⟨_,rfl,"dict_keyiterator",_,⟨_,auo _ rfl,rfl⟩,awd.lookup,?_⟩));simpa[rawInt] using hQ
theorem aat{it d:Addr}{i n ep:Nat}{od:Obj}{es:Array DictEntry}{en:DictEntry}{Q:Option Value->Shared->Prop}(hit:s.heap.IsKeyIter it d i n ep)(hod:s.heap.get? d=some od)(hdd:od.data=.dict es ep)
  (hsz:es.size=n) (hx:es[i]?=some en) (hQ:∀h',h'.IsKeyIter it d (i+1) n ep->auV it s.heap h'->Q (some en.key) {s with heap:=h'}):wpAny (model prog w) A (pyNext (.ref it)) Q E s:=by
 obtain⟨o,ho,hc,hd⟩:=id hit;unfold pyNext;refine wpAny_bind (wpAny_attempt (wpAny_callSpecial?_slot (name:=au9 "__next__") hit.typeIs awd
  (wpAny_call_entry awd hit.typeIs ayc ?_ (ayd _))))
 refine wpAny_bind (wpAny_pure ?_);refine wpAny_bind ?_;refine wpAny_bind ?_
 first|refine wpAny_bind (wpAny_typeNameOfWhole_keyiter hit.typeIs (wpAny_pure ?_))|refine wpAny_bind (wpAny_typeNameOf_keyiter hit.typeIs (wpAny_pure ?_))
 refine wpAny_bind (wpAny_fieldsOf ho hd ?_);have hown:Builtin.Dict_items.ownsTuple "dict_keyiterator"=false:=by decide
 simp only[hown,auw,if_false];show wpAny _ _ (if(aue d==auF)=true then _ else _) _ _ s;rw[if_neg (show¬((aue d==auF)=true) from auq)];refine wpAny_bind (wpAny_pure ?_);refine wpAny_bind (wpAny_dictEntries hod hdd ?_);rw[if_neg (by rw[hsz];simp)];refine wpAny_bind (wpAny_pure ?_);refine wpAny_bind (wpAny_dictEpoch hod hdd ?_);rw[if_neg (by simp)];refine wpAny_pure ?_;obtain⟨hlt',hen⟩:=Array.getElem?_eq_some_iff.mp hx;simp only[show¬((i:Int)<0) from by omega,if_false,auh,Array.getElem?_eq_getElem hlt'];refine wpAny_bind ?_
 first|refine wpAny_bind (wpAny_typeNameOfWhole_keyiter hit.typeIs (wpAny_pure ?_))|refine wpAny_bind (wpAny_typeNameOf_keyiter hit.typeIs (wpAny_pure ?_))
 refine wpAny_bind (wpAny_isOneOf_keyiter hit.typeIs ?_);show wpAny _ _ (setField (.ref it) 1 (rawInt ((i:Int)+1))>>=_) _ _ s;refine wpAny_bind (wpAny_setField ho hd (by simp) ?_);have hit':(s.heap.update it (Obj.mapFields (·.setIfInBounds 1 (rawInt ((i:Int)+1))))).IsKeyIter it d (i+1) n ep:=
  ⟨_,avD _ ho (Obj.isFreed_of_fields (Obj.data_mapFields hd _)),(Obj.cls_mapFields ..).trans hc,by rw[Obj.data_mapFields hd];simp[rawInt]⟩
 refine wpAny_bind (wpAny_holding ?_);refine wpAny_bind (wpAny_isOneOf_keyiter (s:={s with heap:=s.heap.update it (Obj.mapFields (·.setIfInBounds 1 (rawInt ((i:Int)+1))))}) hit'.typeIs ?_);show wpAny _ _ (pure es[i].key) _ _ _;rw[hen];exact wpAny_pure (wpAny_pure ⟨_,rfl,wpAny_pure (hQ _ hit' (awJ ..))⟩)
theorem aau{it d:Addr}{i n ep:Nat}{od:Obj}{es:Array DictEntry}{Q:Option Value->Shared->Prop}(hh:A.handled=none)(hit:s.heap.IsKeyIter it d i n ep)(hod:s.heap.get? d=some od)(hdd:od.data=.dict es ep)
  (hsz:es.size=n) (hge:n<=i) (hQ:∀h',Heap.ExtBut it s.heap h'->Q none {s with heap:=h'}):wpAny (model prog w) A (pyNext (.ref it)) Q E s:=by
 obtain⟨o,ho,hc,hd⟩:=id hit;unfold pyNext;refine wpAny_bind (wpAny_attempt (wpAny_callSpecial?_slot (name:=au9 "__next__") hit.typeIs awd
  (wpAny_call_entry awd hit.typeIs ayc ?_ (ayd _))))
 refine wpAny_bind (wpAny_pure ?_);refine wpAny_bind ?_;refine wpAny_bind ?_
 first|refine wpAny_bind (wpAny_typeNameOfWhole_keyiter hit.typeIs (wpAny_pure ?_))|refine wpAny_bind (wpAny_typeNameOf_keyiter hit.typeIs (wpAny_pure ?_))
 refine wpAny_bind (wpAny_fieldsOf ho hd ?_);have hown:Builtin.Dict_items.ownsTuple "dict_keyiterator"=false:=by decide
 simp only[hown,auw,if_false];show wpAny _ _ (if(aue d==auF)=true then _ else _) _ _ s;rw[if_neg (show¬((aue d==auF)=true) from auq)];refine wpAny_bind (wpAny_pure ?_);refine wpAny_bind (wpAny_dictEntries hod hdd ?_);rw[if_neg (by rw[hsz];simp)];refine wpAny_bind (wpAny_pure ?_);refine wpAny_bind (wpAny_dictEpoch hod hdd ?_);rw[if_neg (by simp)];refine wpAny_pure ?_;have hge':es.size<=i:=by rw[hsz];exact hge
 simp only[show¬((i:Int)<0) from by omega,if_false,auh,aye hge'];refine wpAny_bind ?_
 first|refine wpAny_bind (wpAny_typeNameOfWhole_keyiter hit.typeIs (wpAny_pure ?_))|refine wpAny_bind (wpAny_typeNameOf_keyiter hit.typeIs (wpAny_pure ?_))
 show wpAny _ _ (setField (.ref it) 0 .none>>=_) _ _ s;refine wpAny_bind (wpAny_setField ho hd (by simp) ?_);show wpAny _ _ (newExc (.type "StopIteration") []>>=_) _ _ _;refine wpAny_bind ?_;simp only[newExc,newTuple];refine wpAny_bind (wpAny_newObj_type ?_ (by size_fits));refine wpAny_bind (m:=firstArgMember _ _) (wpAny_of_eq (a:=auF) (by first|rfl|(simp only[firstArgMember];rfl)) ?_);refine wpAny_newObj_type ?_ (by size_fits);simp only[raiseNew];refine wpAny_bind (wpAny_handled ?_);rw[show A.in1.handled=none from hh];refine wpAny_bind (wpAny_pure (wpAny_throw ?_));refine wpAny_bind (wpAny_isInstance (T:="StopIteration") (b:=true) ⟨_,auo _ rfl,rfl⟩ isSubtype_stop ?_);exact wpAny_pure (hQ _ (((awJ ..).extBut.push _).push _))
end
def wU(K:atQ)(a:Addr):It:=
 ⟨fun i H=>∃(xs:List V)(x:V),ak K H a xs/\xs[i]?=some x,fun i H v H'=>∃T x,v=.ref T/\H T=none/\H'=upd H T (.tup [.int (i:Nat),x])/\∀xs,ak K H a xs->xs[i]?=some x,fun i H=>∃xs:List V,ak K H a xs/\xs.length<=i⟩
theorem aav{P:Program}{w:World}{K:atQ}{elts:List Expr}{kk:Nat}{tpos:Pos}(a e it:Addr):
  Turn P w K (.Tuple elts kk tpos) (wU K a) [e,it] e (fun i h=>(∃old,IsEnum h e it ((i:Nat):Int) old)/\h.IsListIter it a i/\e≠it) where
 mem:=by simp
 obj:=fun i h st b hb=>by
  obtain⟨⟨old,he⟩,⟨o,ho,hc,hd⟩,_⟩:=st;have e':b=e\/b=it:=by simpa using hb
  rcases e' with z|z
  ·rw[z];exact⟨_,he,fun v q=>nomatch q⟩
  ·rw[z];exact⟨o,ho,fun v q=>by rw[hd] at q;cases q⟩
 keep:=fun i h h' st k=>let⟨⟨old,he⟩,hi,hne⟩:=st;⟨⟨old,k e (by simp) _ he⟩,hi.at fun o q=>k it (by simp) o q,hne⟩
 item:=by
  intro X hP hw hK hc i pins s σ H E I hf st hg;subst hP hw hK;obtain⟨⟨old,he⟩,hit,hne⟩:=st;obtain⟨xs,x,hq,hx⟩:=hg;obtain⟨its,rv,p,hz⟩:=I.list hq;obtain⟨u,hu,ru⟩:=rv.get hx;have hel:e<s.heap.objs.size:=aua he;have hil:it<s.heap.objs.size:=by obtain⟨_,q,_⟩:=hit;exact aua q
  refine wpAny_pyNext_enum_item he hit p.isList (x:=u) (by simpa using hu) hne fun h' ho hit' hT hsz hk=>?_
  refine⟨_,rfl,wpAny_letOwnedTupleGo_enum (s:={s with heap:=h',toks:=s.toks+1}) ho fun h'' he' sb=>?_⟩;have hT2:h''.get? s.heap.objs.size=some {cls:=.type "tuple",data:=.seq #[.int i s.toks,u]}:=(sb.2 _ (avL hel)).trans hT;have new:cQ X.prog X.w (upd H s.heap.objs.size (.tup [.int (i:Nat),x])) h'' s.heap.objs.size (.tup [.int (i:Nat),x]):=
   ⟨by show 2<=sizeLine;decide,[.int i s.toks,u],.cons ⟨_,rfl⟩ (.cons ru .nil),⟨_,hT2,rfl,_,rfl⟩⟩
  have I1:Inv X pins σ (upd H s.heap.objs.size (.tup [.int (i:Nat),x])) {s with heap:=h'',toks:=s.toks+1}:=
   I.FW (ch:=[e,it]) (fun b ob hb q=>(sb.2 b (fun z=>hb (by simp[z]))).trans (hk b ob (fun z=>hb (by simp[z])) (fun z=>hb (by simp[z])) q)) hf (atX _) new
  refine⟨.ref s.heap.objs.size,_,I1,rfl,⟨_,x,rfl,I.hok.fresh (atX _),rfl,fun ys hy=>by rw[I.yO hy hq];exact hx⟩,⟨⟨u,?_⟩,hit'.at fun o q=>(sb.2 it (Ne.symm hne)).trans q,hne⟩,fun b hb=>?_⟩
  ·have e1:((i+1:Nat):Int)=(i:Int)+1:=by omega
   rw[e1];exact he'
  ·have hb':b<s.heap.objs.size:=by
    have e':b=e\/b=it:=by simpa using hb
    rcases e' with z|z
    ·rw[z];exact hel
    ·rw[z];exact hil
   rw[au (aun hb')];exact(hf b hb).1
 done:=by
  intro X hP hw hK hc i pins s σ H E I hf st hg;subst hP hw hK;obtain⟨⟨old,he⟩,hit,hne⟩:=st;obtain⟨xs,hq,hx⟩:=hg;obtain⟨its,rv,p,hz⟩:=I.list hq;obtain⟨f0,f1,f2,f3,f4,f5⟩:=hf it (by simp);have hl:=rv.length;exact wpAny_pyNext_enum_end (I.ok.hd hc) he hit p.isList (by simp;omega) fun h' eb=>⟨rfl,I.turned (t':=s.toks) (fun b o hb q=>eb b o hb q) f0 f1 f3 f4 f5⟩
 self:=fun A i s Q E st h=>let⟨⟨_,he⟩,_⟩:=st;wpAny_pyIter_enum he h
def aaw(K:atQ)(ta:TA):TI:=fun σ H R=>ta σ H fun vs H1=>∃a xs,vs=[.ref a]/\ak K H1 a xs/\R (wU K a) H1
theorem aax{X:Cx}{e:Expr}{ta:TA}{p pos tpos:Pos}{elts:List Expr}{kk:Nat}(hg:Gl X "enumerate")(hm:X.mg "enumerate"=none)(ha:PA X [e] ta)(hs:starEach [e] X.env=[(false,eval e X.env)]:=by rfl):
  PI X (.Tuple elts kk tpos) (.Call (.Name "enumerate" p) [e] [] pos) (aaw X.K ta):=by
 intro pins s σ H R I h;refine Call_ (oX I hg hm boot_enumerate (avz (aO (ha pos pins s σ H _ I h) fun us s1 ⟨vs,H1,I1,r1,q1⟩=>?_) hs rfl));obtain⟨a,xs,ex,hq,q⟩:=q1;subst ex;cases r1 with
 |cons r rr=>
  cases rr;cases r;obtain⟨its,rv,p',hz⟩:=I1.list hq;refine call_enumerate_list p'.isList fun h' he hit hsz hk=>wpAny_pyIter_enum he ?_
  have I2:Inv X pins σ H1 {s1 with heap:=h'}:=I1.kept (t':=s1.toks) hk;refine⟨s1.heap.objs.size+1,[s1.heap.objs.size+1,s1.heap.objs.size],_,_,H1,rfl,I2,aav a (s1.heap.objs.size+1) s1.heap.objs.size,⟨⟨.none,he⟩,hit,Nat.succ_ne_self _⟩,fun b hb=>?_,q⟩;have e':b=s1.heap.objs.size+1\/b=s1.heap.objs.size:=by simpa using hb
  have hle:s1.heap.objs.size<=b:=by
   rcases e' with z|z
   ·rw[z];exact awe _ _
   ·rw[z];exact atX _
  exact I1.sG hle (I1.hok.fresh hle)
theorem Pa:bootBuiltins "zip"=some (.type "zip"):=by decide +kernel
def qM(K:atQ)(a b:Addr):It:=
 ⟨fun i H=>∃(xs ys:List V)(x y:V),ak K H a xs/\ak K H b ys/\xs[i]?=some x/\ys[i]?=some y,
  fun i H v H'=>∃T x y,v=.ref T/\H T=none/\H'=upd H T (.tup [x,y])/\(∀xs,ak K H a xs->xs[i]?=some x)/\∀ys,ak K H b ys->ys[i]?=some y,
  fun i H=>∃xs ys:List V,ak K H a xs/\ak K H b ys/\(xs.length<=i\/ys.length<=i)⟩
theorem aay{P:Program}{w:World}{K:atQ}{elts:List Expr}{kk:Nat}{tpos:Pos}{a b z TI TO i1 i2:Addr}(D:ZipApart z TI TO i1 i2 a b):
  Turn P w K (.Tuple elts kk tpos) (qM K a b) [z,TI,TO,i1,i2] z (fun i h=>IsZip h z TI TO .none/\IsPair h TI (.ref i1) (.ref i2)/\(∃x y,IsPair h TO x y)/\h.IsListIter i1 a i/\h.IsListIter i2 b i) where
 mem:=by simp
 obj:=fun i h st c hc=>by
  obtain⟨hz,hTI,⟨x,y,hTO⟩,⟨o1,e1,_,d1⟩,⟨o2,e2,_,d2⟩⟩:=st;have e':c=z\/c=TI\/c=TO\/c=i1\/c=i2:=by simpa using hc
  rcases e' with q|q|q|q|q
  ·rw[q];exact⟨_,hz,fun v q=>nomatch q⟩
  ·rw[q];exact⟨_,hTI,fun v q=>nomatch q⟩
  ·rw[q];exact⟨_,hTO,fun v q=>nomatch q⟩
  ·rw[q];exact⟨o1,e1,fun v q=>by rw[d1] at q;cases q⟩
  ·rw[q];exact⟨o2,e2,fun v q=>by rw[d2] at q;cases q⟩
 keep:=fun i h h' st k=>by
  obtain⟨hz,hTI,⟨x,y,hTO⟩,h1,h2⟩:=st;exact⟨k z (by simp) _ hz,k TI (by simp) _ hTI,⟨x,y,k TO (by simp) _ hTO⟩,h1.at fun o q=>k i1 (by simp) o q,h2.at fun o q=>k i2 (by simp) o q⟩
 item:=by
  intro X hP hw hK hc i pins s σ H E I hf st hg;subst hP hw hK;obtain⟨hz,hTI,⟨x0,y0,hTO⟩,h1,h2⟩:=st;obtain⟨xs,ys,x,y,pC,pF,hx,hy⟩:=hg;obtain⟨its,rv,p,_⟩:=I.list pC;obtain⟨its2,pG,p2,_⟩:=I.list pF;obtain⟨u,hu,ru⟩:=rv.get hx;obtain⟨u2,hu2,wI⟩:=pG.get hy;have Pb:z<s.heap.objs.size:=aua hz;refine wpAny_pyNext_zip_item D hz hTI hTO h1 h2 p.isList p2.isList (x:=u) (y:=u2) (by simpa using hu) (by simpa using hu2) fun h' z' FZ h1' h2' hT hsz hk=>?_
  refine⟨_,rfl,wpAny_letOwnedTupleGo_zip (s:={s with heap:=h'}) z' fun h'' z'' sb=>?_⟩;have hT2:h''.get? s.heap.objs.size=some {cls:=.type "tuple",data:=.seq #[u,u2]}:=(sb.2 _ (avL Pb)).trans hT;have new:cQ X.prog X.w (upd H s.heap.objs.size (.tup [x,y])) h'' s.heap.objs.size (.tup [x,y]):=
   ⟨by show 2<=sizeLine;decide,[u,u2],.cons ru (.cons wI .nil),⟨_,hT2,rfl,_,rfl⟩⟩
  have I1:Inv X pins σ (upd H s.heap.objs.size (.tup [x,y])) {s with heap:=h''}:=
   I.FW (t':=s.toks) (ch:=[z,TI,TO,i1,i2]) (fun c o hb q=>(sb.2 c (fun q'=>hb (by simp[q']))).trans (hk c o (fun q'=>hb (by simp[q'])) (fun q'=>hb (by simp[q'])) (fun q'=>hb (by simp[q'])) (fun q'=>hb (by simp[q'])) q)) hf (atX _) new
  refine⟨.ref s.heap.objs.size,_,I1,rfl,⟨_,x,y,rfl,I.hok.fresh (atX _),rfl,fun l hl=>by rw[I.yO hl pC];exact hx,fun l hl=>by rw[I.yO hl pF];exact hy⟩,⟨z'',?_,⟨u,u2,?_⟩,?_,?_⟩,fun c hcm=>?_⟩
  ·exact(sb.2 _ D.TIz).trans (hk _ _ D.TIz D.TITO D.TIi1 D.TIi2 hTI)
  ·exact(sb.2 _ D.TOz).trans FZ
  ·exact h1'.at fun o q=>(sb.2 _ D.i1z).trans q
  ·exact h2'.at fun o q=>(sb.2 _ D.i2z).trans q
  ·have hlt:c<s.heap.objs.size:=by
    have e':c=z\/c=TI\/c=TO\/c=i1\/c=i2:=by simpa using hcm
    rcases e' with q|q|q|q|q
    ·rw[q];exact Pb
    ·rw[q];exact aua hTI
    ·rw[q];exact aua hTO
    ·rw[q];obtain⟨_,e1,_⟩:=h1;exact aua e1
    ·rw[q];obtain⟨_,e2,_⟩:=h2;exact aua e2
   rw[au (aun hlt)];exact(hf c hcm).1
 done:=by
  intro X hP hw hK hc i pins s σ H E I hf st hg;subst hP hw hK;obtain⟨hz,hTI,⟨x0,y0,hTO⟩,h1,h2⟩:=st;obtain⟨xs,ys,pC,pF,hend⟩:=hg;obtain⟨its,rv,p,_⟩:=I.list pC;obtain⟨its2,pG,p2,_⟩:=I.list pF;have l1:=rv.length;have l2:=pG.length;have he:its.toArray[i]?=none\/its2.toArray[i]?=none:=by
   rcases hend with q|q
   ·exact .inl (by simp;omega)
   ·exact .inr (by simp;omega)
  exact wpAny_pyNext_zip_end (I.ok.hd hc) D hz hTI hTO h1 h2 p.isList p2.isList he fun h' hk=>⟨rfl,I.O9 (t':=s.toks) (ch:=[z,TI,TO,i1,i2]) (fun c o hb q=>
   hk c o (fun q'=>hb (by simp[q'])) (fun q'=>hb (by simp[q'])) (fun q'=>hb (by simp[q'])) (fun q'=>hb (by simp[q'])) q) hf⟩
 self:=fun A i s Q E st h=>wpAny_pyIter_zip st.1 h
def aaz(K:atQ)(ta:TA):TI:=fun σ H R=>ta σ H fun vs H1=>∃a b xs ys,vs=[.ref a,.ref b]/\ak K H1 a xs/\ak K H1 b ys/\R (qM K a b) H1
theorem Pg{X:Cx}{e e2:Expr}{ta:TA}{p pos tpos:Pos}{elts:List Expr}{kk:Nat}(hg:Gl X "zip")(hm:X.mg "zip"=none)(ha:PA X [e,e2] ta)
  (hs:starEach [e,e2] X.env=(false,eval e X.env)::starEach [e2] X.env:=by rfl) (hpl:(backTo pos (starEach [e2] X.env)).any (·.1)=false:=by rfl):
  PI X (.Tuple elts kk tpos) (.Call (.Name "zip" p) [e,e2] [] pos) (aaz X.K ta):=by
 intro pins s σ H R I h;refine Call_ (oX I hg hm Pa (avz (aO (ha pos pins s σ H _ I h) fun us s1 ⟨vs,H1,I1,r1,q1⟩=>?_) hs hpl));obtain⟨a,b,xs,ys,ex,pC,pF,q⟩:=q1;subst ex;cases r1 with
 |cons r rr=>
  cases rr with
  |cons r' rr=>
   cases rr;cases r;cases r';obtain⟨its,rv,p1,_⟩:=I1.list pC;obtain⟨its2,pG,p2,_⟩:=I1.list pF;have la:a<s1.heap.objs.size:=p1.lt;have lb:b<s1.heap.objs.size:=p2.lt;refine call_zip_2 p1.isList p2.isList fun h' hz hTI hTO h1 h2 hsz hk=>wpAny_pyIter_zip hz ?_
   have I2:Inv X pins σ H1 {s1 with heap:=h'}:=I1.kept (t':=s1.toks) hk;refine⟨s1.heap.objs.size+4,[s1.heap.objs.size+4,s1.heap.objs.size+2,s1.heap.objs.size+3,s1.heap.objs.size,s1.heap.objs.size+1],_,_,H1,rfl,I2,aay (ayf s1.heap.objs.size a b la lb),⟨hz,hTI,⟨_,_,hTO⟩,h1,h2⟩,fun c hcm=>?_,q⟩;have e':c=s1.heap.objs.size+4\/c=s1.heap.objs.size+2\/c=s1.heap.objs.size+3\/c=s1.heap.objs.size\/c=s1.heap.objs.size+1:=by simpa using hcm
   have hle:s1.heap.objs.size<=c:=by
    rcases e' with z|z|z|z|z
    ·rw[z];exact awe _ _
    ·rw[z];exact awe _ _
    ·rw[z];exact awe _ _
    ·rw[z];exact atX _
    ·rw[z];exact awe _ _
   exact I1.sG hle (I1.hok.fresh hle)
end L2
section
namespace TL
open PySem PySem.Builtin PySem.Builtin.Str PySem.StrLaws
abbrev tl(x:Str):List Nat:=x.cps.toList
theorem aaA(x:Str):x.length=(tl x).length:=by simp[tl,Str.length]
def pre(S l:List Nat):Bool:=l.take S.length==S
def par(S:List Nat):List Nat->List Nat->Option (List Nat×List Nat)
 |_,[]=>none
 |acc,c::r=>if pre S (c::r)=true then some (acc,(c::r).drop S.length) else par S (acc++[c]) r
theorem len1{y:Str}(hy:tl y≠[]):1<=y.length:=by
 have e2:0<(tl y).length:=List.length_pos_iff.mpr hy;rw[aaA y];exact e2
end TL
end
namespace L2
open PySem PySem.Spec PyProof.Rows
def gm(s:Stmt)(j:Nat):Stmt:=match s with
 |.ClassDef _ _ _ body _ _ _ _ _ _ _=>body.getD j (.Pass ⟨0,0,0,0⟩)
 |_=>.Pass ⟨0,0,0,0⟩
def zB(s:Stmt):Arguments:=match s with
 |.FunctionDef _ a _ _ _ _ _ _ _ _=>a
 |_=>{posonlyargs:=[],args:=[],vararg:=none,kwonlyargs:=[],kw_defaults:=[],kwarg:=none,defaults:=[]}
def uR(s:Stmt):List Stmt:=match s with
 |.FunctionDef _ _ b _ _ _ _ _ _ _=>b
 |_=>[]
def aU(s:Stmt):Scope:=match s with
 |.FunctionDef _ _ _ _ _ _ sc _ _ _=>sc
 |_=>{kind:=.function,names:=[],isGenerator:=false,isCoroutine:=false}
abbrev aZ:gY:=fun _ _ _ _ _ _=>False
abbrev E0:XK:=fun _ _ _=>False
theorem bA{X:Cx}:ph aZ X E0:=fun _ _ _ _ _ _ _ h=>h.elim
structure aY(K:atQ)(x qual:Str)(st:Stmt)(f:Addr)(fd:FuncData):Prop where
 ex:∃(oc:Value)(od:Option Addr)(kV doc pm:Value)(an:Option Addr)(cdv ct:Value)(osl:Array (Option Value)),
  fd=avW x qual (zB st) (uR st) (aU st) .none kV doc pm an cdv ct/\K.lookup f=some ⟨oc,od,.func fd,osl⟩/\axg K cdv qual=true
 kp:avp K (.ref f)=true
section
variable{P:Program}{w:World}{K:atQ}{mg:Str->Option Value}{base:Heap}
theorem aY.ok{x qual:Str}{st:Stmt}{f:Addr}{fd:FuncData}{N ps:List Str}{k:Nat}{sp:Sp}(F:aY K x qual st f fd)(S:bR N ps (aU st))(len:∀vs H Q E,sp vs H Q E->vs.length=ps.length)
  (hbody:∀(cdv:Value)(A:Around)(outer:List Env)(s:Shared)(H:Hp)(vs:List V)(Q:VK)(E:XK),bQ k (A.deeper (envOfC qual (aU st) s.heap.objs.size f cdv))->sp vs H Q E->
   ∃t,iB (fG aZ P w K mg base N qual (aU st) f cdv A outer s H E).jV (uR st) t/\t {nx:=fun _ H'=>Q .non H',rt:=Q} (start N vs) H):aJ P w K mg base aZ (k+1) f fd ps sp:=by
 obtain⟨oc,od,kV,doc,pm,an,cdv,ct,osl,rfl,lk,hcd⟩:=F.ex;refine N6 lk hcd S len fun A outer s H vs Q E hr hsp=>?_
 obtain⟨t,h,q⟩:=hbody cdv A outer s H vs Q E hr hsp;exact⟨t,h.jV,q⟩
theorem aY.binds{x qual:Str}{st:Stmt}{f:Addr}{fd:FuncData}{ps:List Str}(F:aY K x qual st f fd)
  (h:∀(kV doc pm:Value)(an:Option Addr)(cdv ct:Value)(us:List Value),us.length=ps.length->bindArgs (avW x qual (zB st) (uR st) (aU st) .none kV doc pm an cdv ct) ⟨us,[]⟩=pure (ps.zip us)):Binds K fd ps []:=by
 obtain⟨oc,od,kV,doc,pm,an,cdv,ct,osl,rfl,lk,hcd⟩:=F.ex;exact .all (h kV doc pm an cdv ct)
theorem bZ{x qual:Str}{st:Stmt}{f:Addr}{oc:Value}{od an:Option Addr}{osl:Array (Option Value)}{kV doc pm cdv ct:Value}(l:K.lookup f=some ⟨oc,od,.func (avW x qual (zB st) (uR st) (aU st) .none kV doc pm an cdv ct),osl⟩)
  (c:axg K cdv qual=true) (k:avp K (.ref f)=true):aY K x qual st f (avW x qual (zB st) (uR st) (aU st) .none kV doc pm an cdv ct):=⟨⟨oc,od,kV,doc,pm,an,cdv,ct,osl,rfl,l,c⟩,k⟩
end
section
variable{X:Cx}
theorem pv(i:Nat){x:Str}{pos:Pos}(hN:X.N[i]?=some x:=by rfl)(hv:qz X.env.scope x:=by first|exact atV rfl|exact atZ (atV rfl)|exact atZ (atZ rfl))(hd:(x==("__debug__":Str))=false:=by decide)
  (hcd:(x==("__classdict__":Str))=false:=by decide):PE X (.Name x pos) (gC i):=W8 hN hv hd hcd
theorem aaB:gO X (.builtin "len") (fun xs H Q=>∃a kvs,xs=[V.ref a]/\H a=some (.dK kvs)/\Q (.int kvs.length) H):=by
 intro pins s σ H xs us Q I r h;obtain⟨a,kvs,rfl,ha,q⟩:=h;obtain⟨u,rfl,ru⟩:=nq r;cases ru;exact aaf I (.inl ha) fun t s' I'=>⟨.int kvs.length,H,I',⟨t,rfl⟩,q⟩
end
theorem jH{A B:Prop}(h:B):if false=true then A else B:=by
 rw[if_neg auq];exact h
theorem gZ{A B:Prop}(h:A):if true=true then A else B:=by
 rw[if_pos rfl];exact h
theorem eY{c A B:Prop}[Decidable c](h1:c->A)(h2:¬c->B):if c then A else B:=by
 by_cases h:c
 ·rw[if_pos h];exact h1 h
 ·rw[if_neg h];exact h2 h
def Same(H H':Hp):Prop:=∀b o,H b=some o->H' b=some o
theorem Same.refl(H:Hp):Same H H:=fun _ _ h=>h
theorem Same.trans{H H1 H2:Hp}(a:Same H H1)(b:Same H1 H2):Same H H2:=fun c o h=>b c o (a c o h)
theorem Same.free{H H':Hp}(e:Same H H'){l:Addr}(h:H' l=awK):H l=awK:=by
 cases q:H l with
 |none=>rfl
 |some o=>
  rw[e l o q] at h;cases h
theorem Same.seq{K:atQ}{H H':Hp}{a:Addr}{xs:List V}(e:Same H H')(h:ak K H a xs):ak K H' a xs:=by
 rcases h with(h|⟨o,h⟩)|h
 ·exact .inl (.inl (e _ _ h))
 ·exact .inl (.inr ⟨o,e _ _ h⟩)
 ·exact .inr h
section
variable{κ:Type}[DecidableEq κ]
theorem aaC{kvs:List (κ×V)}{k:κ}(h:cB kvs k=none):¬k∈kvs.map (·.1):=by
 intro m;obtain⟨p,hp,e⟩:=at6.mp m;have q:(kvs.any fun kv=>decide (kv.1=k))=true:=auZ.mpr ⟨p,hp,decide_eq_true e⟩;rw[sY,h] at q;exact absurd q (by simp)
end
theorem cO{xs:List V}{z:Int}{j:Nat}{v:V}(e:z=(j:Int))(h:xs[j]?=some v):nH xs z=some v:=by
 rw[e];exact YQ h
theorem sum_set:∀{l:List Int}{j:Nat}{z y:Int},l[j]?=some z->(l.set j y).sum=l.sum-z+y
 |[],j,z,y,h=>by simp at h
 |a::r,0,z,y,h=>by
  have e:a=z:=aub h;subst e;show(y::r).sum=(a::r).sum -a+y;rw[auT,auT];omega
 |a::r,j+1,z,y,h=>by
  have ih:=sum_set (l:=r) (j:=j) (z:=z) (y:=y) h;show(a::r.set j y).sum=(a::r).sum -z+y;rw[auT,auT,ih];omega
theorem Same.made{H H1:Hp}{x dx C:Addr}(nx:H x=awK)(nd:H dx=awK)(k:∀b o,(upd (upd H dx (.own x)) x (.ins C dx [])) b=some o->b≠x->H1 b=some o):Same H H1:=fun b o e=>
 k b o (by rw[au (aV e nx),au (aV e nd)];exact e) (aV e nx)
theorem cQ.there{P:Program}{w:World}{H:Hp}{h:Heap}{a:Addr}{o:HO}(x:cQ P w H h a o):∃u,h.get? a=some u:=by
 induction o with
 |lst xs=>obtain⟨_,_,_,_,e⟩:=x;exact⟨_,e⟩
 |tup xs=>obtain⟨_,_,_,o,e,_⟩:=x;exact⟨_,e⟩
 |dK kvs=>obtain⟨_,_,_,_,o,_,_,e,_⟩:=x;exact⟨_,e⟩
 |dT kvs=>obtain⟨_,_,_,_,o,_,_,e,_⟩:=x;exact⟨_,e⟩
 |set S n=>obtain⟨o,_,_,_,e,_⟩:=x;exact⟨_,e⟩
 |ins C dx fs=>obtain⟨_,_,_,e,_⟩:=x;exact⟨_,e⟩
 |own y=>exact x
 |xd fs=>obtain⟨_,⟨_,_,_,e,_⟩,_⟩:=x;exact⟨_,e⟩
 |rng lo hi=>obtain⟨_,_,_,e⟩:=x;exact⟨_,e⟩
 |gh ob u ih=>obtain⟨e,_⟩:=x;exact⟨_,e⟩
 |qy ps=>exact⟨_,(show h.get? a=some _ from x)⟩
 |met f y=>exact⟨_,(show h.get? a=some _ from x)⟩
 |ext φ=>obtain⟨_,e,_⟩:=x;exact e
def uT(B h h1:Heap)(H':Hp)(l:List Env):Prop:=
 ∀b o,h1.get? b=some o->((∃o',h.get? b=some o')\/∃u,H' b=some u)->b∉dJ l->B.get? b=some o
def aX(P:Program)(w:World):gY:=fun outer H s E e s'=>
 ∃(x:Addr)(C a0:Value)(B:Heap)(H':Hp),e=.ref x/\s'.os=s.os/\AllBare s'.gens/\
  Un (dJ outer) [] H H' s.heap s'.heap/\cC P w H' s'.heap/\axs B outer x C a0 s'.heap/\uT B s.heap s'.heap H' outer/\E C none H'
theorem Gd{P:Program}{w:World}{B h h1 h2:Heap}{H H':Hp}{l:List Env}(u:Un (dJ l) [] H H' h h1)(hok:cC P w H' h1)(cov:uT B h h1 H' l)(ff:h1.FunFrames B l)(fr:∀b∈dJ l,H' b=none)
  (st:B.StaysIn h2) (up:h1.UpToSlots h2):Un (dJ l) [] H H' h h2/\cC P w H' h2/\uT B h h2 H' l:=by
 have non:∀b,b∉([]:List Addr):=fun b z=>nomatch z
 have frame:∀b,b∈dJ l->∀o,h1.get? b=some o->∃sl,h2.get? b=some {o with slots:=sl}:=fun b hb o e=>by
  obtain⟨_,o',e',d⟩:=ff.mem hb;rw[e] at e';cases e';exact up b o e d
 refine⟨⟨fun b o e n hb hx=>?_,fun b o e n hb hx=>?_,u.free,fun b o e hx=>?_,u.tups,u.iY,u.jr⟩,fun a o e=>?_,fun b o e hh hb=>?_⟩
 ·exact st b o (cov b o (u.keep b o e n hb hx) (.inl ⟨o,e⟩) hb)
 ·obtain⟨sl,e1⟩:=u.slot b o e n hb hx;obtain⟨sl',e2⟩:=frame b hb _ e1;exact⟨sl',e2⟩
 ·obtain⟨o1,e1⟩:=u.there b o e hx;by_cases hb:b∈dJ l
  ·obtain⟨sl',e2⟩:=frame b hb _ e1;exact⟨_,e2⟩
  ·exact⟨o1,st b o1 (cov b o1 e1 (.inl ⟨o,e⟩) hb)⟩
 ·refine(hok a o e).stay (fun c v hc q=>?_) (fun _ q=>q) fun _ _ q=>q
  have ht:∃z,H' c=some z:=by
   rcases hc with rfl|hc
   ·exact⟨_,e⟩
   ·exact⟨_,hc⟩
  refine st c v (cov c v q (.inr ht) fun hb=>?_);obtain⟨z,hz⟩:=ht;rw[fr c hb] at hz;cases hz
 ·have h1b:∃o1,h1.get? b=some o1:=by
   rcases hh with⟨o',e'⟩|⟨z,hz⟩
   ·exact u.there b o' e' (non b)
   ·exact(hok b z hz).there
  obtain⟨o1,e1⟩:=h1b;have q:=cov b o1 e1 hh hb;have e2:=st b o1 q;rw[e] at e2;cases e2;exact q
def Ph(X:Cx)(E:XK):Prop:=∀(pins:List (Addr×Obj))(σ:St)(H:Hp)(s:Shared)(C:Value)(e:Addr)(h':Heap),Inv X pins σ H s->Heap.MadeExcOf s.heap h' e C []->E C none H->X.xe (.ref e) {s with heap:=h'}
section
variable{P:Program}{w:World}{K:atQ}{mg:Str->Option Value}{base:Heap}{N:List Str}{qual:Str}{scope:Scope}{f:Addr}{cd:Value}{A:Around}{outer:List Env}{s0:Shared}{H0:Hp}{E:XK}
theorem Pj{env:Env}{l:List Env}{L b:Addr}(hf:env.frame=some L)(hb:b∈dJ (env::l)):b=L\/b∈dJ l:=by
 unfold dJ at hb;rw[aws,hf] at hb;exact at3.mp hb
theorem Ge{env:Env}{l:List Env}(he:env∈l){b:Addr}(hf:env.frame=some b):b∈dJ l:=av7.mpr ⟨env,he,hf⟩
theorem qN:Ph (fG (aX P w) P w K mg base N qual scope f cd A outer s0 H0 E) E:=by
 intro pins σ H s C e h' I hx hE;show wpAny (model P w) (A.deeper (envOfC qual scope s0.heap.objs.size f cd)) (leaving (envOfC qual scope s0.heap.objs.size f cd) (.ref e)) (fun _ s''=>aX P w outer H0 s0 E (.ref e) s'') (fun e' s''=>aX P w outer H0 s0 E e' s'') {s with heap:=h'};have hst:s.heap.FunFrames base (envOfC qual scope s0.heap.objs.size f cd::outer):=I.stack;have hfr:∀b∈dJ (envOfC qual scope s0.heap.objs.size f cd::outer),H b=none:=I.v9
 have ff:=PySem.W.funFrames_hide (as:=dJ (envOfC qual scope s0.heap.objs.size f cd::outer)) hst fun env he b hb=>Ge he hb
 refine wpAny_leaves_madeW (base:=axa s.heap (dJ (envOfC qual scope s0.heap.objs.size f cd::outer))) (h:=s.heap) (env:=envOfC qual scope s0.heap.objs.size f cd) (outer:=outer) (cls:=C) (args:=[]) I.ok.frames rfl (fun b o q=>axS _ q) ff hx fun h2 t fl tup _ up=>?_
 have cov:uT (axa s.heap (dJ (envOfC qual scope s0.heap.objs.size f cd::outer))) s0.heap s.heap H outer:=fun b o e hh hb=>by
  refine axR _ e fun hm=>?_
  rcases Pj rfl hm with z|z
  ·rcases hh with⟨o',e'⟩|⟨u,hu⟩
   ·rw[z] at e';exact absurd (aua e') (au7 _)
   ·rw[hfr b hm] at hu;cases hu
  ·exact hb z
 have up':s.heap.UpToSlots h2:=(Heap.UpToSlots.of_keeps hx.keeps).trans up;obtain⟨u2,ok2,wV⟩:=Gd (P:=P) (w:=w) (h:=s0.heap) (H:=H0) I.base I.hok cov ff.2.2 (fun b hb=>hfr b (by
  obtain⟨env,he,hf⟩:=av7.mp hb;exact Ge (at8 _ he) hf)) fl.1 up'
 exact⟨e,C,.ref t,_,H,rfl,I.os,I.bare,u2,ok2,fl,wV,hE⟩
theorem cG:ph (aX P w) (fG (aX P w) P w K mg base N qual scope f cd A outer s0 H0 E) E:=by
 intro pins σ H s e s' I hc;obtain⟨x,C,a0,B,H',rfl,os,bare,un,hok,fl,cov,hE⟩:=hc;show wpAny (model P w) (A.deeper (envOfC qual scope s0.heap.objs.size f cd)) (leaving (envOfC qual scope s0.heap.objs.size f cd) (.ref x)) (fun _ s''=>aX P w outer H0 s0 E (.ref x) s'') (fun e' s''=>aX P w outer H0 s0 E e' s'') s';have I':=I.call' (ch:=[]) os un hok bare (fun b z=>nomatch z);have hfr:∀b∈dJ (envOfC qual scope s0.heap.objs.size f cd::outer),H' b=none:=I'.v9
 refine wpAny_leaves_onW (base:=B) (env:=envOfC qual scope s0.heap.objs.size f cd) (outer:=outer) I.ok.frames rfl fl fun h2 zE up=>?_
 have aaF:uT B s0.heap s'.heap H' outer:=fun b o e hh hb=>by
  have nL:b∉dJ (envOfC qual scope s0.heap.objs.size f cd::outer):=fun hm=>by
   rcases Pj rfl hm with z|z
   ·rcases hh with⟨o',e'⟩|⟨u,hu⟩
    ·rw[z] at e';exact absurd (aua e') (au7 _)
    ·rw[hfr b hm] at hu;cases hu
   ·exact hb z
  refine cov b o e ?_ nL;rcases hh with⟨o',e'⟩|hh
  ·exact .inl (I.base.there b o' e' (fun z=>nomatch z))
  ·exact .inr hh
 obtain⟨u2,ok2,wV⟩:=Gd (P:=P) (w:=w) (h:=s0.heap) (H:=H0) I'.base hok aaF fl.2.2.1.2.2 (fun b hb=>hfr b (by
  obtain⟨env,he,hf⟩:=av7.mp hb;exact Ge (at8 _ he) hf)) zE.1 up
 exact⟨x,C,a0,B,H',rfl,I'.os,bare,u2,ok2,zE,wV,hE⟩
theorem qO:PassesOwn (model P w) (fG (aX P w) P w K mg base N qual scope f cd A outer s0 H0 E).A (fG (aX P w) P w K mg base N qual scope f cd A outer s0 H0 E).env (fG (aX P w) P w K mg base N qual scope f cd A outer s0 H0 E).xe:=PassesOwn.leaving
end
def Gf(K:atQ)(C:Addr):Prop:=axt K C [.type "Exception",.type "BaseException",.type "object"] "Exception.__new__"=true
theorem aaG{K:atQ}{h:Heap}{C:Addr}{bmB:List Value}{newId:String}(X:K.In h)(q:axt K C bmB newId=true):
  ∃bm N nm q bs hdct sn sub ab col dd k0 k1 k2 k3 k5 mN,h.get? C=some (excClassObj nm q C N bs bm hdct sn sub ab col dd k0 k1 k2 k3 k5 newId)/\h.Ns N mN/\mN "__init__"=none/\OwnTail h bmB bm:=by
 unfold axt at q
 split at q
 ·rename_i dd cd sl ho
  split at q
  ·rename_i C' bm k0 k1 k2 k3 n k5 hm hs
   simp only[aup,beq_iff_eq,avF] at q;obtain⟨⟨⟨⟨⟨rfl,rfl⟩,hdel⟩,ht⟩,hok⟩,hni⟩:=q;obtain⟨nm,bs,mro,ns,qn,hd,sn,sub,ab,col,del⟩:=cd;dsimp only at hm hdel hok hni;subst hm hdel;have hsl:sl= #[k0,k1,k2,k3,some (.builtin n),k5]:=by
    obtain⟨l⟩:=sl;simp only at hs;rw[hs]
   subst hsl;exact⟨bm,ns,nm,qn,bs,hd,sn,sub,ab,col,dd,k0,k1,k2,k3,k5,_,X _ _ ho,.of_isNs (PySem.W.isNs_of_in X hok),PySem.W.nsMap_none_of_in X hok hni,PySem.W.tail_of_in X ht⟩
  ·cases q
 ·cases q
section
variable{X:Cx}
def aaH(C:Addr)(E:XK):TS:=fun _ _ H=>E (.ref C) none H
theorem qP{x:Str}{C:Addr}{E:XK}{np cpos pos:Pos}(hc:X.calm=true)(T:Ph X E)(hg:Gl X x)(hm:X.mg x=some (.ref C))(ex:Gf X.K C)(hd:(x==("__debug__":Str))=false:=by decide):
  PS X (.Raise (some (.Call (.Name x np) [] [] cpos)) none pos) (aaH C E):=by
 intro pins s σ H D I h;obtain⟨bm,N,nm,q,bs,hdct,sn,sub,ab,col,dd,k0,k1,k2,k3,k5,mN,hC,hN,hni,OT⟩:=aaG I.gA ex;refine wpAny_Raise_call_subT (C:=C) (nm:=nm) (q:=q) (N:=N) (bs:=bs) (bm:=bm) (hdct:=hdct) (sn:=sn) (sub:=sub) (ab:=ab) (col:=col) (dd:=dd) (k0:=k0) (k1:=k1) (k2:=k2) (k3:=k3) (k5:=k5)
  ayg (mN:=mN) (OT.hasType ayg.hasBase) (I.ok.hd hc) rfl hni (sr I hg hm ⟨rfl,?_⟩ hd)
 exact evalArgs_empty ⟨rfl,aul _,hC,hN,OT,fun h' e me=>T pins σ H s (.ref C) e h' I me h⟩
abbrev Cx.cat(X:Cx)(e:Value):Cx:={X with A:=X.A.mark (some e),calm:=false,xe:=fun _ _=>False}
theorem Inv.cat{pins:List (Addr×Obj)}{σ:St}{H:Hp}{s:Shared}(I:Inv X pins σ H s)(e:Value):Inv (X.cat e) pins σ H s:=
 ⟨⟨I.ok.mod,I.ok.kind,I.ok.glob,I.ok.blt,I.ok.above,I.ok.inj,I.ok.has,I.ok.cab,(fun z=>nomatch z),I.ok.frames,I.ok.stk,I.ok.v8,I.ok.bs,I.ok.jE,I.ok.uB,I.ok.uC,I.ok.iZ,I.ok.kZ⟩,I.os,I.bare,I.base,I.loc,I.cell,I.free,I.jF,I.pin,I.hok,I.len⟩
theorem Inv.uU{pins:List (Addr×Obj)}{σ:St}{H:Hp}{s:Shared}{e:Value}(I:Inv (X.cat e) pins σ H s)(ok:X.Ok):Inv X pins σ H s:=
 ⟨ok,I.os,I.bare,I.base,I.loc,I.cell,I.free,I.jF,I.pin,I.hok,I.len⟩
theorem SP.uU{pins:List (Addr×Obj)}{D:Ends}{f:Flow}{s':Shared}{e:Value}(h:SP (X.cat e) pins D f s')(ok:X.Ok):SP X pins D f s':=by
 cases f with
 |next=>obtain⟨σ',H',I,q⟩:=h;exact⟨σ',H',I.uU ok,q⟩
 |brk=>obtain⟨σ',H',I,q⟩:=h;exact⟨σ',H',I.uU ok,q⟩
 |cont=>obtain⟨σ',H',I,q⟩:=h;exact⟨σ',H',I.uU ok,q⟩
 |ret u=>obtain⟨v,σ',H',I,r,q⟩:=h;exact⟨v,σ',H',I.uU ok,r,q⟩
structure qQ(X:Cx)(pins:List (Addr×Obj))(σ:St)(H1:Hp)(s1:Shared)(x:Addr)(C a0:Value)(B:Heap)(H':Hp)(s':Shared):Prop where
 os:s'.os=s1.os
 bare:AllBare s'.gens
 un:Un (dJ X.stack) [] H1 H' s1.heap s'.heap
 hok:cC X.prog X.w H' s'.heap
 fl:axs B X.stack x C a0 s'.heap
 cov:uT B s1.heap s'.heap H' X.stack
theorem qQ.inv{pins:List (Addr×Obj)}{σ:St}{H1 H':Hp}{s1 s':Shared}{x:Addr}{C a0:Value}{B:Heap}(c:qQ X pins σ H1 s1 x C a0 B H' s')(I:Inv X pins σ H1 s1):Inv X pins σ H' s':=
 I.call' (ch:=[]) c.os c.un c.hok c.bare fun b z=>nomatch z
theorem qQ.on{pins:List (Addr×Obj)}{σ:St}{H1 H':Hp}{s1 s':Shared}{x:Addr}{C a0:Value}{B h2:Heap}(c:qQ X pins σ H1 s1 x C a0 B H' s')(I:Inv X pins σ H1 s1)(fl:axs B X.stack x C a0 h2)
  (up:s'.heap.UpToSlots h2):qQ X pins σ H1 s1 x C a0 B H' {s' with heap:=h2}:=by
 obtain⟨u2,ok2,wV⟩:=Gd c.un c.hok c.cov c.fl.2.2.1 (c.inv I).v9 fl.1 up;exact⟨c.os,c.bare,u2,ok2,fl,wV⟩
variable{pins:List (Addr×Obj)}{σ:St}{H1 H':Hp}{s1 s':Shared}{x:Addr}{C a0 c:Value}{B:Heap}{D:Ends}{y:Str}{yp hp:Pos}{b0:Stmt}{suite:List Stmt}{rest:List ExceptHandler}{t:TS}
theorem hit(cc:qQ X pins σ H1 s1 x C a0 B H' s')(I:Inv X pins σ H1 s1)(hg:Gl X y)(hm:X.mg y=some c)(he:avG X.K C c=some true)(hs:iB (X.cat (.ref x)) (b0::suite) t)(q:t D σ H')
  (hd:(y==("__debug__":Str))=false:=by decide):
  wpAny (model X.prog X.w) X.A (handleBy (.ref x) X.env (.ExceptHandler (some (.Name y yp)) none (b0::suite) hp::rest)) (SP X pins D) X.xe s':=by
 have I':=cc.inv I;have Ic:=I'.cat (.ref x);obtain⟨ob,hob,hc⟩:=cc.fl.there;subst hc;have LT:ayh (model X.prog X.w) s'.heap (typeOf (.ref x)) ob.cls:=(ayi hob).andThen .now;refine wpAny_handleBy_cons (codeAny_handlers_test (sr Ic hg hm ?_ hd)) (by intro q;cases q);refine(ayj I'.gA LT he).here ?_;refine codeAny_handlers_suite (lands_againW cc.fl fun h2 zE up2=>?_);have cc2:=cc.on I zE up2;have I2:=(cc2.inv I).cat (.ref x);exact wpAny_mono (hs pins _ σ H' D I2 q) (fun f s3 z=>z.uU I.ok) fun _ _ z=>False.elim z
theorem aaK(cc:qQ X pins σ H1 s1 x C a0 B H' s')(I:Inv X pins σ H1 s1)(hg:Gl X y)(hm:X.mg y=some c)(he:avG X.K C c=some false)
  (k:wpAny (model X.prog X.w) X.A (handleBy (.ref x) X.env rest) (SP X pins D) X.xe s') (hd:(y==("__debug__":Str))=false:=by decide):
  wpAny (model X.prog X.w) X.A (handleBy (.ref x) X.env (.ExceptHandler (some (.Name y yp)) none (b0::suite) hp::rest)) (SP X pins D) X.xe s':=by
 have I':=cc.inv I;have Ic:=I'.cat (.ref x);obtain⟨ob,hob,hc⟩:=cc.fl.there;subst hc;have LT:ayh (model X.prog X.w) s'.heap (typeOf (.ref x)) ob.cls:=(ayi hob).andThen .now;refine wpAny_handleBy_cons (codeAny_handlers_test (sr Ic hg hm ?_ hd)) (by intro q;cases q);exact(ayj I'.gA LT he).here k
end
section
variable{X:Cx}{k:Nat}{f C1 C2:Addr}{fd:FuncData}{ps:List Str}{sp:Sp}{fn y1 y2:Str}{p pos rp tp yp1 yp2 hp1 hp2:Pos}{e:Expr}{es:List Expr}{t:TA}{b1 b2:Stmt}{u1 u2:List Stmt}{t1 t2:TS}
def aaN(C1 C2:Addr)(sp:Sp)(t:TA)(t1 t2:TS):TS:=fun D σ H=>t σ H fun vs H1=>sp vs H1 D.rt fun C _ H'=>(C=.ref C1/\t1 D σ H')\/(C=.ref C2/\t2 D σ H')
theorem aaO(F:aJ X.prog X.w X.K X.mg X.base (aX X.prog X.w) k f fd ps sp)(hr:bQ k X.A)(hg:Gl X fn)(hm:X.mg fn=some (.ref f))(hk:avp X.K (.ref f)=true)(hb:Binds X.K fd ps [])(hst:X.stack=X.env::X.outer)(hfr:X.env.frame=some X.env.locals)
  (ha:∀E,PA (X.wish E) (e::es) t) (g1:Gl X y1) (m1:X.mg y1=some (.ref C1)) (g2:Gl X y2) (m2:X.mg y2=some (.ref C2))
  (tE:avG X.K (.ref C1) (.ref C1)=some true) (Gg:avG X.K (.ref C2) (.ref C1)=some false) (Gh:avG X.K (.ref C2) (.ref C2)=some true)
  (h1:∀x,iB (X.cat x) (b1::u1) t1) (h2:∀x,iB (X.cat x) (b2::u2) t2)
  (hdb:(fn==("__debug__":Str))=false:=by decide) (hd1:(y1==("__debug__":Str))=false:=by decide) (hd2:(y2==("__debug__":Str))=false:=by decide)
  (he:starEach (e::es) X.env=(false,eval e X.env)::starEach es X.env:=by rfl) (hpl:(backTo pos (starEach es X.env)).any (·.1)=false:=by rfl):
  PS X (.Try [.Return (some (.Call (.Name fn p) (e::es) [] pos)) rp] [.ExceptHandler (some (.Name y1 yp1)) none (b1::u1) hp1,.ExceptHandler (some (.Name y2 yp2)) none (b2::u2) hp2] [] [] tp) (aaN C1 C2 sp t t1 t2):=by
 intro pins s σ H D I h;have key:∀(Kx:Value->Shared->Prop),(∀(s1:Shared)(H1:Hp)(x:Addr)(C a0:Value)(B:Heap)(H':Hp)(s':Shared),Inv X pins σ H1 s1->qQ X pins σ H1 s1 x C a0 B H' s'->((C=.ref C1/\t1 D σ H')\/(C=.ref C2/\t2 D σ H'))->Kx (.ref x) s')->
   wpAny (model X.prog X.w) X.A (eval (.Call (.Name fn p) (e::es) [] pos) X.env) (fun v s1=>SP X pins D (.ret v) s1) Kx s:=by
  intro Kx hK;refine wpAny_Call_Name_kw (sr I hg hm ?_ hdb);refine av9 (h₀:=X.base) I.ok.mod.rW hk (aO (ha Kx pos pins s σ H _ (I.wish Kx) h) fun us s1 ⟨vs,H1,I1,r,q⟩=>⟨I1.gA,?_⟩) he hpl;have I1:=I1.lg;have hl:us.length=ps.length:=by rw[<-r.length];exact F.len _ _ _ _ q
  have hb':=hb s1 us I1.gA (by rw[avM];exact hl);rw[avM] at hb';refine wpAny_call (codeAny_mono (F.run X.A X.stack s1 H1 ⟨us,[]⟩ us vs D.rt _ hr I1.env0 hb' r q) fun res s' hq=>?_);cases res with
  |ok fl=>
   cases fl with
   |ret u=>
    obtain⟨v,H2,I2,rv,q2⟩:=I1.after hq;exact⟨v,σ,H2,I2,rv,q2⟩
   |next=>exact False.elim hq
   |brk=>exact False.elim hq
   |cont=>exact False.elim hq
  |error ev=>
   obtain⟨x,C,a0,B,H',rfl,os,bare,un,hok,fl,cov,hE⟩:=hq;exact hK s1 H1 x C a0 B H' s' I1 ⟨os,bare,un,hok,fl,cov⟩ hE
 refine wpAny_Try_except ?_;refine wpAny_execs_cons (wpAny_Return_some (wpAny_mono (key _ ?_) (fun v s1 z=>z) fun _ _ z=>z));intro s1 H1 x C a0 B H' s' I1 cc hE;have Pk:=cc.fl;rw[hst] at Pk;refine wpAny_looks_onW (base:=B) (env:=X.env) (outer:=X.outer) (by rw[<-hst];exact I1.ok.frames) hfr Pk fun h4 held up4=>?_
 refine wpAny_landsW held fun h5 Pn up5=>?_
 rw[<-hst] at Pn;have c5:=cc.on I1 Pn (up4.trans up5);rcases hE with⟨rfl,q1⟩|⟨rfl,q2⟩
 ·exact hit c5 I1 g1 m1 tE (h1 _) q1 hd1
 ·exact aaK c5 I1 g1 m1 Gg (hit c5 I1 g2 m2 Gh (h2 _) q2 hd2) hd1
end
def uV{α:Type}(xs:List α)(lo hi st:Option Int):List α:=
 (sliceRange (sliceBounds lo hi st xs.length).1 (sliceBounds lo hi st xs.length).2.1 (sliceBounds lo hi st xs.length).2.2).filterMap (xs[·]?)
theorem Vals.pick{xs:List V}{us:List Value}(r:Vals xs us):∀is:List Nat,Vals (is.filterMap (xs[·]?)) (is.filterMap (us[·]?))
 |[]=>.nil
 |i::is=>by
  cases e:xs[i]? with
  |none=>
   rw[ayk e,ayk (r.none_of e)];exact Vals.pick r is
  |some x=>
   obtain⟨u,hu,rx⟩:=r.get e;rw[axu e,axu hu];exact .cons rx (Vals.pick r is)
theorem aaR{xs:List V}{us:List Value}(r:Vals xs us)(lo hi st:Option Int):∃ws,slicePick us.toArray lo hi st=ws.toArray/\Vals (uV xs lo hi st) ws:=by
 refine⟨(sliceRange (sliceBounds lo hi st xs.length).1 (sliceBounds lo hi st xs.length).2.1 (sliceBounds lo hi st xs.length).2.2).filterMap (us[·]?),?_,r.pick _⟩;unfold slicePick;rw[aum,<-r.length];simp
section
variable{X:Cx}{e st:Expr}{te ts:TE}{lo hi:Option Expr}{tl th:TO}{pos p2:Pos}
def aaS(K:atQ):V->Option Int->Option Int->Int->Hp->VK->Prop:=fun x lo hi st H Q=>∃a xs,x=.ref a/\ak K H a xs/\st≠0/\(uV xs lo hi (some st)).length<=sizeLine/\∀p,H p=none->Q (.ref p) (upd H p (.lst (uV xs lo hi (some st))))
def aaT(K:atQ)(te:TE)(tl th:TO)(ts:TE):TE:=fun σ H Q=>te σ H fun x H1=>tl σ H1 fun l H2=>th σ H2 fun u H3=>ts σ H3 fun z H4=>∃i,z=.int i/\aaS K x l u i H4 Q
theorem aaU{K:atQ}(hK:X.K=K)(he:PE X e te)(hl:PO X lo tl)(hu:PO X hi th)(hs:PE X st ts)(ht:∀o r,letTemporaryGo e o r=pure ():=by intro _ _;rfl):PE X (.Subscript e (.Slice lo hi (some st) p2) pos) (aaT K te tl th ts):=by
 subst hK;intro pins s σ H Q I h;refine wpAny_Subscript_Slice_step (T:="list") slot_list_getitem.lookup (aO (he pins s σ H _ I h) fun v s1 ⟨x,H1,I1,r1,q1⟩=>?_) ht;refine wpAny_Slice (aO (hl pins s1 σ H1 _ I1 q1) fun vl s2 ⟨l,H2,I2,pl,q2⟩=>aO (hu pins s2 σ H2 _ I2 q2) fun vu s3 ⟨u,H3,I3,pu,q3⟩=>?_);rw[evalPart_some];refine aO (hs pins s3 σ H3 _ I3 q3) fun vs s4 ⟨z,H4,I4,rz,i,ez,a,xs,ex,hx,h0,Pq,q4⟩=>?_
 subst ez ex;obtain⟨t,rfl⟩:=rz;cases r1;have I5:Inv X pins σ H4 {s4 with heap:=s4.heap.push {cls:=.type "slice",data:=.fields #[vl,vu,.int i t]}}:=I4.kept (t':=s4.toks) fun b ob q=>auc _ q
 obtain⟨its,r,ht,hz⟩:=I5.list hx;refine⟨ht.isList.typeIs,?_⟩;refine wpAny_getItem_list_slice ht.isList (ax3 ..) pl pu (.int i t) (fun z=>h0 (aub z)) ?_ (by rw[aum,<-r.length];exact hz);obtain⟨ws,ew,rw⟩:=aaR r l u (some i);rw[ew];refine⟨.ref _,_,I5.laid (t':=s4.toks) (o:=.lst (uV xs l u (some i))) (fun b ob q=>auc _ q) (atX _) ?_,rfl,q4 _ (I5.hok.fresh (atX _))⟩;exact⟨Pq,ws,0,rw,auo _ rfl⟩
end
section
variable{X:Cx}{a:Expr}{ta:TA}{p pos:Pos}
def aaV(ta:TA):TE:=fun σ H Q=>ta σ H fun vs H1=>∃n:Int,vs=[.int n]/\∀r,H1 r=none->Q (.ref r) (upd H1 r (.rng 0 n))
theorem aaW(hg:Gl X "range")(hm:X.mg "range"=none)(ha:PA X [a] ta)(hs:starEach [a] X.env=[(false,eval a X.env)]:=by rfl):PE X (.Call (.Name "range" p) [a] [] pos) (aaV ta):=by
 intro pins s σ H Q I h;refine Call_ (oX I hg hm boot_range (avz (aO (ha pos pins s σ H _ I h) fun us s1 ⟨vs,H1,I1,r1,n,ev,q⟩=>?_) hs rfl));subst ev;cases r1 with
 |cons r rr=>
  cases rr;obtain⟨t,rfl⟩:=r;refine call_range_1 ⟨.ref s1.heap.objs.size,_,I1.laid (o:=.rng 0 n) (fun b ob e=>auc _ e) (atX _) ?_,rfl,q _ (I1.hok.fresh (atX _))⟩;exact⟨_,_,_,auo _ rfl⟩
end
section
variable{prog:Program}{w:World}{A:Around}{E:Value->Shared->Prop}{s:Shared}
open AutoSeq1 (wpAny_loadPart')
theorem aaX{Q:List Value->Shared->Prop}{r:Addr}{a b c:Int}{t u v:Tok}{n:Nat}(hh:A.handled=none)(hr:IsRange s.heap r a b c t u v)(hsmall:Builtin.Range.small a b c=true)
  (hn:Builtin.Range.rangeSize a b c=n) (hlen:n<=2^24)
  (hQ:∀(h':Heap)(tk:Nat)(acc:Array Value),(∀b o',s.heap.get? b=some o'->h'.get? b=some o')->ItemsOf (fun i v=>∃t,v=.int (a+i*c) t) acc n->Q acc.toList {s with heap:=h',toks:=tk}):
  wpAny (model prog w) A (collect (.ref r)) Q E s:=by
 unfold collect;refine wpAny_bind (wpAny_runValue (codeAny_builtin ayl ?_));rw[Around.under_plainId aym _];show wpAny _ A.in1 (newList []>>=fun l=>again (.builtin "list.__iadd__" ⟨[l,.ref r],[]⟩)) _ _ s;refine wpAny_bind (wpAny_newObj_type ?_);refine wpAny_pure ⟨plainId_quiet awL _,codeAny_builtin F.entry_list_iadd ?_⟩;rw[Around.under_plainId awL _];show wpAny _ A.in1 (Builtin.List.listExtendWith (.ref s.heap.objs.size) (.ref r) (.ref s.heap.objs.size)) _ _ _;have hS:(s.heap.push {cls:=.type "list",data:=.seq ([]:List Value).toArray}).get? s.heap.objs.size=some {cls:=.type "list",data:=.seq #[] 0}:=auo _ rfl;refine wpAny_mono (wpAny_extend_range (A:=A) (s:={s with heap:=s.heap.push {cls:=.type "list",data:=.seq ([]:List Value).toArray}})
  (R:=fun r s'=>r=.ok (.ret (.ref s.heap.objs.size))/\∃(h':Heap)(tk:Nat)(acc':Array Value)(c':Nat),s'={s with heap:=h',toks:=tk}/\(∀b o,s.heap.get? b=some o->h'.get? b=some o)/\h'.get? s.heap.objs.size=some {cls:=.type "list",dict:=none,data:=.seq acc' c',slots:= #[]}/\ItemsOf (fun i v=>∃t,v=.int (a+i*c) t) acc' n)
  hh (auc _ hr) hsmall hn hlen s.heap.objs.size _ 0 hS fun h' tk acc' c' hk hS' hacc=>⟨rfl,h',tk,acc',c',rfl,fun b o e=>hk b o (aun (aua e)) (auc _ e),hS',hacc⟩) (fun fin s' h=>?_) (fun e s' h=>?_)
 ·have fin':∀s'',(∃(h':Heap)(tk:Nat)(acc':Array Value)(c':Nat),s''={s with heap:=h',toks:=tk}/\(∀b o,s.heap.get? b=some o->h'.get? b=some o)/\h'.get? s.heap.objs.size=some {cls:=.type "list",dict:=none,data:=.seq acc' c',slots:= #[]}/\ItemsOf (fun i v=>∃t,v=.int (a+i*c) t) acc' n)->
    wpAny (model prog w) A (match aue s.heap.objs.size with
     |aue a=>do
      match(<-load a).data with
       |Data.seq xs _=>pure xs.toList
       |_=>unsupported "internal:collect"
     |_=>unsupported "internal:collect") Q E s'':=by
   rintro s'' ⟨h',tk,acc',c',rfl,hk,hS',hacc⟩;show wpAny _ A (load s.heap.objs.size>>=_) _ _ _;refine wpAny_bind (wpAny_load hS' ?_);exact wpAny_pure (hQ h' tk acc' hk hacc)
  cases fin with
  |done f=>
   obtain⟨e,x⟩:=h;cases e;exact fin' s' x
  |again c'=>exact⟨h.1,codeAny_mono h.2 fun r s'' hr=>by obtain⟨rfl,x⟩:=hr;exact fin' s'' x⟩
 ·exact absurd h.1 (by simp)
theorem aaY{Q₁:Value->Shared->Prop}{r:Addr}{a b c:Int}{t u v:Tok}{n:Nat}(hh:A.handled=none)(hr:IsRange s.heap r a b c t u v)(hsmall:Builtin.Range.small a b c=true)
  (hn:Builtin.Range.rangeSize a b c=n) (hlen:n<=2^24)
  (h:∀(h':Heap)(tk:Nat)(acc:Array Value),(∀b o',s.heap.get? b=some o'->h'.get? b=some o')->ItemsOf (fun i v=>∃t,v=.int (a+i*c) t) acc n->Q₁ (.ref h'.objs.size) {s with heap:=h'.push {cls:=.type "tuple",data:=.seq acc},toks:=tk}):
  codeAny (model prog w) A (.call (.builtin "tuple.__new__") ⟨[.type "tuple",.ref r],[]⟩) (wants Q₁ E) s:=by
 refine codeAny_of_tree ?_;show wpAny _ A.in1 (do checkBuiltinCall "tuple.__new__" ⟨[.type "tuple",.ref r],[]⟩;again (.builtin "tuple.__new__" ⟨[.type "tuple",.ref r],[]⟩)) _ _ s;refine wpAny_bind (wpAny_of_eq (F.newCall_tuple_1 _) (wpAny_pure ⟨plainId_quiet F.plain_tuple_new _,codeAny_builtin F.entry_tuple_new ?_⟩));rw[Around.under_plainId F.plain_tuple_new _];have hsub:=sub_tuple_self;have hinit:=init_tuple_lookup;have hmh:=madeHere_tuple;have hTI:s.TypeIs (.ref r) "range":=⟨_,hr,rfl⟩;have hh1:A.in1.handled=none:=hh
 wp_walk using wpAny_typeOf hTI,aaX (A:=A.in1) hh1 hr hsmall hn hlen
 intro h' tk acc hk hacc;show wpAny _ _ (Builtin.Tuple.tupleExact acc.toList.toArray>>=fun v=>ret v) _ _ _;unfold Builtin.Tuple.tupleExact;refine wpAny_bind (wpAny_newObj_type ?_ (by show acc.toList.toArray.size<=sizeLine;simp only[Array.toArray_toList];rw[hacc.1];exact hlen));refine wpAny_pure ?_;have e:acc.toList.toArray=acc:=by simp
 rw[e];exact h h' tk acc hk hacc
theorem aaZ{Q:Value->Shared->Prop}{r:Addr}{a b c:Int}{t u v:Tok}{n:Nat}(hh:A.handled=none)(hr:IsRange s.heap r a b c t u v)(hsmall:Builtin.Range.small a b c=true)
  (hn:Builtin.Range.rangeSize a b c=n) (hlen:n<=2^24)
  (hQ:∀(h':Heap)(tk:Nat)(acc:Array Value),(∀b o',s.heap.get? b=some o'->h'.get? b=some o')->ItemsOf (fun i v=>∃t,v=.int (a+i*c) t) acc n->Q (.ref h'.objs.size) {s with heap:=h'.push {cls:=.type "tuple",data:=.seq acc},toks:=tk}):
  wpAny (model prog w) A (call (.type "tuple") [.ref r]) Q E s:=by
 refine callType_codes (Q₁:=fun obj s₁=>s₁.TypeIs obj "tuple"/\Q obj s₁) axv (F.typeCall_tuple_1 _) F.entry_object_init
  (aaY hh hr hsmall hn hlen fun h' tk acc hk hacc=>⟨⟨_,auo _ rfl,rfl⟩,hQ h' tk acc hk hacc⟩) fun obj s₁ h₁=>?_
 exact⟨h₁.1,F.args_object_init_2 obj _,object_init_meets axv.init.lookup axv.made (by decide) prog w A.in1 _ s₁ ⟨h₁.1,rfl,h₁.2⟩⟩
end
theorem aa0{n:Nat}{acc:List Value}(h:ItemsOf (fun i v=>∃t,v=au6 (0+(i:Int)*1) t) acc.toArray n):Vals ((atU n).map fun(i:Nat)=>V.int (i:Int)) acc:=by
 obtain⟨h1,h2⟩:=h;have hl:acc.length=n:=by simpa using h1
 subst hl;have go:∀(k:Nat)(us:List Value),(∀j v,us[j]?=some v->∃t,v=au6 ((k+j:Nat):Int) t)->Vals ((atU us.length).map fun(i:Nat)=>V.int ((k+i:Nat):Int)) us:=by
  intro k us
  induction us generalizing k with
  |nil=>intro _;exact .nil
  |cons u us ih=>
   intro hu;rw[auH,List.range_succ_eq_map,auf,auS];obtain⟨t,e⟩:=hu 0 u rfl;refine .cons ⟨t,e⟩ ?_;have z:=ih (k+1) fun j v hj=>by
    obtain⟨t,e⟩:=hu (j+1) v hj;exact⟨t,by rw[e,show k+(j+1)=k+1+j by omega]⟩
   have e2:((fun(i:Nat)=>V.int ((k+i:Nat):Int))∘Nat.succ)=fun(i:Nat)=>V.int ((k+1+i:Nat):Int):=by
    funext i;show V.int ((k+(i+1):Nat):Int)=_;rw[show k+(i+1)=k+1+i by omega]
   rw[e2];exact z
 have z:=go 0 acc fun j v hj=>by
  obtain⟨t,e⟩:=h2 j v (by simpa using hj);exact⟨t,by rw[e];congr 1;omega⟩
 simpa using z
section
variable{X:Cx}
theorem aa1(hc:X.calm=true):gO X (.type "tuple") (fun xs H Q=>∃(r:Addr)(n:Nat),xs=[.ref r]/\H r=some (.rng 0 n)/\n<=1000/\∀l,H l=none->Q (.ref l) (upd H l (.tup ((atU n).map fun(i:Nat)=>V.int (i:Int))))):=by
 intro pins s σ H xs us Q I r h;obtain⟨p,n,rfl,hp,hn,q⟩:=h;obtain⟨u,rfl,rx⟩:=nq r;cases rx;obtain⟨t,u,v,hr⟩:=I.hok p _ hp;refine aaZ (a:=0) (b:=n) (c:=1) (t:=t) (u:=u) (v:=v) (n:=n) (I.ok.hd hc) hr (small_one (by omega) (by omega) (by omega) (by omega)) (by rw[rangeSize_one];split<;>omega) (by omega) fun h' tk acc hk hacc=>?_
 have I1:Inv X pins σ H {s with heap:=h',toks:=tk}:=I.kept hk;obtain⟨al⟩:=acc;have hv:=aa0 (acc:=al) hacc;have I2:Inv X pins σ (upd H h'.objs.size (.tup ((atU n).map fun(i:Nat)=>V.int (i:Int)))) {s with heap:=h'.push {cls:=.type "tuple",data:=.seq al.toArray},toks:=tk}:=
  I1.laid (t':=tk) (fun b o e=>auc _ e) (atX _) (show cQ X.prog X.w _ _ _ (.tup _) from⟨by rw[atR,au0];exact auC hn (by decide),al,hv,IsTup.new _ _⟩)
 exact⟨.ref h'.objs.size,_,I2,rfl,q _ (I1.hok.fresh (atX _))⟩
end
def aa2(i:Nat)(f:Addr)(sp:Sp)(eX:List V)(E:XK)(t:TA):TE:=fun σ H Q=>σ[i]?=some (some (.ref f))/\Ny sp eX E t σ H Q
section
variable{X:Cx}{CX:gY}{k:Nat}{f:Addr}{fd:FuncData}{ps:List Str}{sp:Sp}{eX:List V}{ds:List Value}{E:XK}{x:Str}{p pos:Pos}{e:Expr}{es:List Expr}{t:TA}
theorem aa3{E':Value->Shared->Prop}{pins:List (Addr×Obj)}{s:Shared}{σ:St}{H:Hp}{Q:Value->Shared->Prop}(i:Nat)(hN:X.N[i]?=some x)(hv:qz X.env.scope x)(hd:(x==("__debug__":Str))=false)(hcd:(x==("__classdict__":Str))=false)
  (I:Inv X pins σ H s) (hi:σ[i]?=some (some (.ref f))) (h:Q (.ref f) s):wpAny (model X.prog X.w) X.A (eval (.Name x p) X.env) Q E' s:=by
 obtain⟨m,hn,hl⟩:=I.loc;obtain⟨u,r,l⟩:=hl i x _ hN hi hv;cases r;rcases l with⟨hk,hm⟩|⟨hk,c,hc,hcell⟩
 ·exact wpAny_Name (wpAny_loadName_local I.ok.kind hk hn hm h) hd
 ·rcases hk with hk|hk
  ·exact wpAny_Name (wpAny_loadName_cell I.ok.kind hk hc hcell h) hd
  ·exact wpAny_Name (wpAny_loadName_free I.ok.kind hk hc hcell h hcd) hd
theorem aa4(i:Nat)(F:aJ X.prog X.w X.K X.mg X.base CX k f fd ps sp)(hr:bQ k X.A)(hN:X.N[i]?=some x)(hv:qz X.env.scope x)(hk:avp X.K (.ref f)=true)(hb:Binds X.K fd ps ds)(hd:Vals eX ds)(hx:ph CX X E)
  (ha:PA X (e::es) t) (hdb:(x==("__debug__":Str))=false:=by decide) (hcd:(x==("__classdict__":Str))=false:=by decide) (he:starEach (e::es) X.env=(false,eval e X.env)::starEach es X.env:=by rfl) (hpl:(backTo pos (starEach es X.env)).any (·.1)=false:=by rfl):
  PE X (.Call (.Name x p) (e::es) [] pos) (aa2 i f sp eX E t):=by
 intro pins s σ H Q I h;obtain⟨hi,h⟩:=h;refine wpAny_Call_Name_kw (aa3 i hN hv hdb hcd I hi ?_);refine av9 (h₀:=X.base) I.ok.mod.rW hk (aO (ha pos pins s σ H _ I h) fun us s1 ⟨vs,H1,I1,r,q⟩=>⟨I1.gA,?_⟩) he hpl;exact za F hr hb hd hx I1 r q
end
def aa5(K:atQ):V->V->Hp->VK->Prop:=fun o i H Q=>∃(p:Addr)(xs:List V)(j:Nat)(v:V),o=.ref p/\i=.int (j:Int)/\ak K H p xs/\xs[j]?=some v/\Q v H
theorem aa6{X:Cx}:M5 X (aa5 X.K):=by
 intro pins s σ H o i ov iv Q I ro ri h;obtain⟨p,xs,j,v,rfl,rfl,hq,he,q⟩:=h;cases ro;obtain⟨t,rfl⟩:=ri;obtain⟨its,r,pl,hz⟩:=I.list hq;obtain⟨u,hu,ru⟩:=r.get he;have hl:=r.length;have hj:j<xs.length:=(at9.mp he).1;have hn:=sO;exact wpAny_getItem_list (k:=(j:Int)) (x:=u) pl.isList (by omega) (by omega) (by rw[auh];simpa using hu) ⟨v,H,I,ru,q⟩
section
variable{prog:Program}{w:World}{A:Around}{E:Value->Shared->Prop}{s:Shared}
theorem aa7{d:Addr}{o:Obj}{es:Array DictEntry}{ep:Nat}{Q:Value->Shared->Prop}(hd:(d==sysModules)=false)(ho:s.heap.get? d=some o)(hc:o.ExactDict)(hdat:o.data=.dict es ep)(hfit:(es.size:Int)<2^63)
  (h:Q (.int es.size (s.toks+1)) {s with toks:=s.toks+1+1}):wpAny (model prog w) A (call (.builtin "len") [.ref d]) Q E s:=by
 have ty:s.TypeIs (.ref d) "dict":=⟨o,ho,hc.1⟩;have me:MeetsIn prog w (Builtin.«dict.__len__» ⟨[.ref d],[]⟩) (fun _ R s'=>s'.heap=s.heap/\R (.ok (.ret (.int es.size s'.toks))) {s' with toks:=s'.toks+1}):=.of_wp fun A' R s' z=>by
  obtain⟨z1,z2⟩:=z;rw[<-z1] at ho;show wpAny _ _ (dictSize d>>=_) _ _ s';unfold dictSize;refine wpAny_bind (wpAny_bind (wpAny_dictEntries ho hdat (wpAny_pure ?_)));show wpAny _ _ (Builtin.Dict.pendingCount d>>=_) _ _ s';refine wpAny_bind (wpAny_pendingCount_other hd ?_);exact wpAny_ret_mkInt z2
 refine Calls.call_function_entry kind_len plain_len entry_len (args_len1 _) ?_;unfold Builtin.«len»;refine wpAny_bind (m:=oneArg "len" _) (wpAny_pure ?_);refine wpAny_bind (m:=callSpecial? (.ref d) (au9 "__len__")) (wpAny_callSpecial?_slot (name:=au9 "__len__") ty F.slot_dict_len
  (call_meetsIn F.slot_dict_len ty F.entry_dict_len (F.args_dict_len_1 _) me ⟨rfl,?_⟩))
 show wpAny _ _ _ _ _ {s with toks:=s.toks+1};refine wpAny_bind (wpAny_holding (wpAny_pure ?_));refine wpAny_bind (wpAny_letGo ?_);show wpAny _ _ (if((es.size:Nat):Int)<0 then _ else _) _ _ _;rw[if_neg (by omega)];show wpAny _ _ (if((es.size:Nat):Int)≥2^63 then _ else _) _ _ _;rw[if_neg (by omega)];exact wpAny_bind (wpAny_mkInt (wpAny_pure ⟨_,rfl,h⟩))
end
theorem aa8{X:Cx}:gO X (.builtin "len") (fun xs H Q=>∃a kvs,xs=[V.ref a]/\H a=some (.dT kvs)/\Q (.int kvs.length) H):=by
 intro pins s σ H xs us Q I r h;obtain⟨a,kvs,rfl,ha,q⟩:=h;obtain⟨u,rfl,ru⟩:=nq r;cases ru;obtain⟨z,hd,ys,pr,o,es,ep,ho,hc,hdat,hes,_⟩:=I.hok a _ ha;have hl:es.size=kvs.length:=by
  rw[<-aut,hes,atR];exact(Paired.length pr).symm
 rw[sizeLine_eq] at z;refine aa7 hd ho hc hdat (by omega) ?_;exact⟨.int kvs.length,H,I.tok _,⟨_,by rw[hl]⟩,q⟩
end L2
namespace PySem
abbrev pH(h:Heap)(z TI TO a:Addr)(f:Bool):Prop:=
 h.get? z=some {cls:=.type "zip",dict:=none,data:=.fields #[rawInt a,.bool f,.bool false,.ref TI,.ref TO],slots:= #[]}
section
variable{prog:Program}{w:World}{A:Around}{E:Value->Shared->Prop}{s:Shared}
theorem Pr{z TI TO a:Addr}{f:Bool}{oa:Obj}{Q:Bool->Shared->Prop}(hz:pH s.heap z TI TO a f)(ha:s.heap.get? a=some oa)
  (h:∀h',pH h' z TI TO a true->auV z s.heap h'->Q false {s with heap:=h'}):wpAny (model prog w) A (Builtin.SmallTypes.ownedTupleIsFree (.ref z)) Q E s:=by
 unfold Builtin.SmallTypes.ownedTupleIsFree;refine wpAny_bind (wpAny_field hz rfl (x:=rawInt a) rfl ?_);have al:∀{Q':Option Obj->Shared->Prop},Q' (some oa) s->wpAny (model prog w) A (loadIfAlive a) Q' E s:=fun{Q'} q=>by
  have q':Q' (s.heap.get? a) s:=by rw[ha];exact q
  exact fun _ _ _=>q'
 show wpAny _ _ (loadIfAlive ((a:Int).toNat)>>=_) _ _ s;rw[auh];refine wpAny_bind (al ?_);refine wpAny_bind (wpAny_field hz rfl (x:=.bool f) rfl ?_);cases f with
 |true=>exact wpAny_pure (h s.heap hz (.refl ..))
 |false=>
  show wpAny _ _ (setField (.ref z) 1 (.bool true)>>=_) _ _ s;refine wpAny_bind (wpAny_setField_rec hz (by simp) fun h₁ hz₁ hs₁=>?_);exact wpAny_pure (h h₁ hz₁ hs₁)
structure ZParts(h:Heap)(z TI i1 i2 l1 l2:Addr)(xs ys:Array Value)(k:Nat):Prop where
 pI:IsPair h TI (.ref i1) (.ref i2)
 qR:h.IsListIter i1 l1 k
 tG:h.IsListIter i2 l2 k
 Pu:h.IsList l1 xs
 ls2:h.IsList l2 ys
theorem abb{z TI TO a i1 i2 l1 l2:Addr}{f:Bool}{oa:Obj}{k:Nat}{xs ys:Array Value}{x y:Value}{Q:Option Value->Shared->Prop}(D:ZipApart z TI TO i1 i2 l1 l2)(hz:pH s.heap z TI TO a f)(ha:s.heap.get? a=some oa)
  (Z:ZParts s.heap z TI i1 i2 l1 l2 xs ys k) (hx:xs[k]?=some x) (hy:ys[k]?=some y)
  (hQ:∀h',pH h' z TI TO a true->h'.IsListIter i1 l1 (k+1)->h'.IsListIter i2 l2 (k+1)->IsPair h' s.heap.objs.size x y->h'.objs.size=s.heap.objs.size+1->
   (∀c o,c≠z->c≠i1->c≠i2->s.heap.get? c=some o->h'.get? c=some o)->Q (some (.ref s.heap.objs.size)) {s with heap:=h'}):wpAny (model prog w) A (pyNext (.ref z)) Q E s:=by
 have hT:s.TypeIs (.ref z) "zip":=⟨_,hz,rfl⟩;unfold pyNext;refine wpAny_bind (wpAny_attempt (wpAny_callSpecial?_slot (name:=au9 "__next__") hT awM (wpAny_call_entry awM hT F.entry_zip_next ?_ (F.args_zip_next_1 _))));show wpAny _ _ (field (.ref z) 2>>=_) _ _ _;refine wpAny_bind (wpAny_field hz rfl (x:=.bool false) rfl ?_);show wpAny _ _ (field (.ref z) 3>>=_) _ _ _;refine wpAny_bind (wpAny_field hz rfl (x:=.ref TI) rfl ?_);refine wpAny_bind (wpAny_seqItems Z.pI rfl ?_);show wpAny _ _ (Builtin.SmallTypes.ownedTupleIsFree (.ref z)>>=_) _ _ _;refine wpAny_bind (Pr hz ha fun h₁ hz₁ hs₁=>?_);simp only[auw,if_false];refine wpAny_bind ?_;rw[<-awf];simp only[axn,awD];refine wpAny_bind (wpAny_bind (wpAny_holding ?_));show wpAny _ _ (Builtin.SmallTypes.nextOf (.ref i1)>>=_) _ _ _;refine wpAny_bind (wpAny_nextOf_list_item (Z.qR.extBut hs₁.extBut D.i1z) (Z.Pu.extBut hs₁.extBut D.l1z) hx fun h₂ h1₂ hs₂=>wpAny_pure ?_);refine wpAny_pure ?_;refine wpAny_bind (wpAny_bind (wpAny_holding ?_));show wpAny _ _ (Builtin.SmallTypes.nextOf (.ref i2)>>=_) _ _ _;refine wpAny_bind (wpAny_nextOf_list_item ((Z.tG.extBut hs₁.extBut D.i2z).extBut hs₂.extBut D.i12.symm) ((Z.ls2.extBut hs₁.extBut D.l2z).extBut hs₂.extBut D.l2i1) hy fun h₃ abd hs₃=>wpAny_pure ?_);refine wpAny_pure ?_;refine wpAny_pure ?_;show wpAny _ _ (newTuple [x,y]>>=fun r=>ret r) _ _ _;refine wpAny_bind (wpAny_newTuple ?_);have e0:h₃.objs.size=s.heap.objs.size:=by rw[hs₃.1,hs₂.1,hs₁.1]
 have k3:∀c o,c≠z->c≠i1->c≠i2->s.heap.get? c=some o->h₃.get? c=some o:=fun c o c1 c2 c3 e=>hs₃.extBut _ _ c3 (hs₂.extBut _ _ c2 (hs₁.extBut _ _ c1 e))
 have hz₃:pH h₃ z TI TO a true:=hs₃.extBut _ _ D.i2z.symm (hs₂.extBut _ _ D.i1z.symm hz₁);refine wpAny_pure ⟨_,rfl,wpAny_pure ?_⟩;show Q (some (.ref h₃.objs.size)) _;have hq:=hQ (h₃.push {cls:=.type "tuple",data:=.seq #[x,y]}) (auc _ hz₃) ((h1₂.extBut hs₃.extBut D.i12).at fun o e=>auc _ e) (abd.at fun o e=>auc _ e)
  (by rw[<-e0];exact auo _ rfl) (by rw[auD,e0]) fun c o c1 c2 c3 e=>auc _ (k3 c o c1 c2 c3 e)
 rw[e0];exact hq
theorem abe{z TI TO a i1 i2 l1 l2:Addr}{f:Bool}{oa:Obj}{k:Nat}{xs ys:Array Value}{Q:Option Value->Shared->Prop}(hh:A.handled=none)(D:ZipApart z TI TO i1 i2 l1 l2)(hz:pH s.heap z TI TO a f)(ha:s.heap.get? a=some oa)
  (Z:ZParts s.heap z TI i1 i2 l1 l2 xs ys k) (hx:xs[k]?=none)
  (hQ:∀h',(∀c o,c≠z->c≠i1->s.heap.get? c=some o->h'.get? c=some o)->Q none {s with heap:=h'}):wpAny (model prog w) A (pyNext (.ref z)) Q E s:=by
 have hT:s.TypeIs (.ref z) "zip":=⟨_,hz,rfl⟩;unfold pyNext;refine wpAny_bind (wpAny_attempt (wpAny_callSpecial?_slot (name:=au9 "__next__") hT awM (wpAny_call_entry awM hT F.entry_zip_next ?_ (F.args_zip_next_1 _))));show wpAny _ _ (field (.ref z) 2>>=_) _ _ _;refine wpAny_bind (wpAny_field hz rfl (x:=.bool false) rfl ?_);show wpAny _ _ (field (.ref z) 3>>=_) _ _ _;refine wpAny_bind (wpAny_field hz rfl (x:=.ref TI) rfl ?_);refine wpAny_bind (wpAny_seqItems Z.pI rfl ?_);show wpAny _ _ (Builtin.SmallTypes.ownedTupleIsFree (.ref z)>>=_) _ _ _;refine wpAny_bind (Pr hz ha fun h₁ hz₁ hs₁=>?_);simp only[auw,if_false];refine wpAny_bind ?_;rw[<-awf];simp only[axn,awD];refine wpAny_bind (wpAny_bind (wpAny_holding ?_));show wpAny _ _ (Builtin.SmallTypes.nextOf (.ref i1)>>=_) _ _ _;refine wpAny_bind (wpAny_nextOf_list_end hh (Z.qR.extBut hs₁.extBut D.i1z) (Z.Pu.extBut hs₁.extBut D.l1z) hx fun h₂ e hs₂ he=>?_);obtain⟨oe,hoe,hce⟩:=he;refine wpAny_bind (wpAny_isInstance (T:="StopIteration") (b:=true) ⟨oe,hoe,hce⟩ isSubtype_stop ?_);exact wpAny_pure (hQ _ fun c o c1 c2 q=>hs₂ _ _ c2 (hs₁.extBut _ _ c1 q))
end
end PySem
namespace L2
open PySem PySem.Spec PyProof.Rows
section
variable{X:Cx}{pins:List (Addr×Obj)}{σ:St}
def ZH(H0:Hp)(S:Addr)(xs ys:List V)(i:Nat)(H:Hp):Prop:=∃ts:List Addr,H S=some (.lst (ts.map V.ref))/\ts.length=i/\Same H0 H/\
 ∀(j:Nat)(t:Addr),ts[j]?=some t->∃x y,xs[j]?=some x/\ys[j]?=some y/\H t=some (.tup [x,y])/\H0 t=none
structure ZSt(X:Cx)(pins:List (Addr×Obj))(H0:Hp)(a b S z TI TO i1 i2:Addr)(xs ys:List V)(i:Nat)(H:Hp)(s:Shared):Prop where
 fp:∀c∈[z,TI,TO,i1,i2],jt X pins H c
 pI:IsPair s.heap TI (.ref i1) (.ref i2)
 wW:∃o,s.heap.get? TO=some o
 qR:s.heap.IsListIter i1 a i
 tG:s.heap.IsListIter i2 b i
 zz:(IsZip s.heap z TI TO .none/\∃p q,IsPair s.heap TO p q)\/∃t f,pH s.heap z TI TO t f/\∃o,s.heap.get? t=some o
 zh:ZH H0 S xs ys i H
theorem abg{A:Around}{R:Result->Shared->Prop}{H0:Hp}{a b S z TI TO i1 i2:Addr}{xs ys:List V}{res:Value}(D:ZipApart z TI TO i1 i2 a b)(hS0:H0 S=none)(ha:ak X.K H0 a xs)(hb:ak X.K H0 b ys)(hlen:xs.length=ys.length)(hA:A.handled=none)
  (fin:∀s' H',Inv X pins σ H' s'->ZH H0 S xs ys xs.length H'->R (.ok (.ret res)) s'):
  ∀(k i:Nat)(s:Shared)(H:Hp),xs.length-i=k->i<=xs.length->Inv X pins σ H s->ZSt X pins H0 a b S z TI TO i1 i2 xs ys i H s->
   codeAny (model X.prog X.w) A (.builtin "list.extend.loop" ⟨[.ref S,.ref z,res],[]⟩) R s:=by
 intro k
 induction k with
 |zero=>
  intro i s H hk hi I Z;have hin:i=xs.length:=by omega
  subst hin;obtain⟨ts,g1,g2,g3,g4⟩:=Z.zh;obtain⟨its,rv,p1,_⟩:=I.list (Same.seq g3 ha);obtain⟨its2,pG,p2,_⟩:=I.list (Same.seq g3 hb);have l1:=rv.length;have l2:=pG.length;have hend:its.toArray[xs.length]?=none:=by simp;omega
  refine codeAny_builtin ayn ?_;rw[Around.under_plainId awg _];show wpAny _ A.in1 (pyNext (.ref z)>>=_) _ _ s;have out:∀h',(∀c o,c∉[z,TI,TO,i1,i2]->s.heap.get? c=some o->h'.get? c=some o)->R (.ok (.ret res)) {s with heap:=h'}:=fun h' hk=>fin _ H (I.O9 (t':=s.toks) hk Z.fp) Z.zh
  rcases Z.zz with⟨hz,p,q,hTO⟩|⟨t,f,hz,oa,hoa⟩
  ·refine wpAny_bind (wpAny_pyNext_zip_end hA D hz Z.pI hTO Z.qR Z.tG p1.isList p2.isList (.inl hend) fun h' hk=>?_);exact wpAny_pure (out h' fun c o hc e=>hk c o (fun q=>hc (by simp[q])) (fun q=>hc (by simp[q])) (fun q=>hc (by simp[q])) (fun q=>hc (by simp[q])) e)
  ·refine wpAny_bind (abe hA D hz hoa ⟨Z.pI,Z.qR,Z.tG,p1.isList,p2.isList⟩ hend fun h' hk=>?_);exact wpAny_pure (out h' fun c o hc e=>hk c o (fun q=>hc (by simp[q])) (fun q=>hc (by simp[q])) e)
 |succ k ih=>
  intro i s H hk hi I Z;have hlt:i<xs.length:=by omega
  obtain⟨ts,g1,g2,g3,g4⟩:=Z.zh;obtain⟨its,rv,p1,_⟩:=I.list (Same.seq g3 ha);obtain⟨its2,pG,p2,hz2⟩:=I.list (Same.seq g3 hb);obtain⟨x,hx⟩:∃x,xs[i]?=some x:=⟨_,atY hlt⟩
  obtain⟨y,hy⟩:∃y,ys[i]?=some y:=⟨_,atY (by omega)⟩
  obtain⟨u,hu,ru⟩:=rv.get hx;obtain⟨u2,hu2,wI⟩:=pG.get hy;refine codeAny_builtin ayn ?_;rw[Around.under_plainId awg _];show wpAny _ A.in1 (pyNext (.ref z)>>=_) _ _ s;have hSz:S∉[z,TI,TO,i1,i2]:=fun hm=>by
   have:=(Z.fp S hm).1;rw[g1] at this;cases this
  have go:∀h',(pH h' z TI TO s.heap.objs.size false\/∃t,pH h' z TI TO t true/\(∃o,h'.get? t=some o))->h'.IsListIter i1 a (i+1)->h'.IsListIter i2 b (i+1)->IsPair h' s.heap.objs.size u u2->(∃o,h'.get? TO=some o)->
    (∀c o,c∉[z,TO,i1,i2]->s.heap.get? c=some o->h'.get? c=some o)->
    wpAny (model X.prog X.w) A.in1 (updateSeq S (·.push (.ref s.heap.objs.size))>>=fun _=>again (.builtin "list.extend.loop" ⟨[.ref S,.ref z,res],[]⟩))
     (fun fin s'=>match fin with|.done f=>R (.ok f) s'|.again c'=>c'.quiet=true/\codeAny (model X.prog X.w) A c' R s') (fun e s'=>R (.error e) s') {s with heap:=h'}:=fun h' hzz j1 j2 hT abj hkk=>by
   have hkk':∀c o,c∉[z,TI,TO,i1,i2]->s.heap.get? c=some o->h'.get? c=some o:=fun c o hc e=>hkk c o (fun q=>hc (by simp at q⊢;rcases q with q|q|q|q<;>simp[q])) e
   have new:cQ X.prog X.w (upd H s.heap.objs.size (.tup [x,y])) h' s.heap.objs.size (.tup [x,y]):=⟨by show 2<=sizeLine;decide,[u,u2],.cons ru (.cons wI .nil),⟨_,hT,rfl,_,rfl⟩⟩;have zF:H s.heap.objs.size=none:=I.hok.fresh (atX _);have I1:Inv X pins σ (upd H s.heap.objs.size (.tup [x,y])) {s with heap:=h'}:=I.FW (t':=s.toks) hkk' Z.fp (atX _) new;have hST:S≠s.heap.objs.size:=aV g1 zF;have Px:upd H s.heap.objs.size (.tup [x,y]) S=some (.lst (ts.map V.ref)):=by rw[au hST];exact g1
   obtain⟨Gi,n3,r3,e3,z3⟩:=I1.lst Px;have zl:=hz2;have l3:Gi.length=i:=by rw[<-r3.length,atR,g2]
   refine wpAny_bind (wpAny_updateSeq e3 rfl (wpAny_pure ⟨plainId_quiet awg _,?_⟩) (by rw[aum,l3];omega) (by show(Gi.toArray.push _).size<=sizeLine+1;rw[Array.size_push,aum,l3];omega));have I2:=I1.Oc (f:=Obj.mapSeq (·.push (aue s.heap.objs.size))) (ys:=ts.map V.ref++[V.ref s.heap.objs.size]) (its':=Gi++[aue s.heap.objs.size]) (n':=n3+1) Px e3 (by simp[Obj.mapSeq]) (r3.append (.cons rfl .nil)) (by rw[aud,atR,g2];simp;omega) s.toks;refine ih (i+1) _ _ (by omega) hlt I2 ?_;have oth:∀c o,c≠S->h'.get? c=some o->(h'.update S (Obj.mapSeq (·.push (aue s.heap.objs.size)))).get? c=some o:=fun c o hc e=>(avr _ _ (Ne.symm hc)).trans e
   have nS:∀{c},c∈[z,TI,TO,i1,i2]->c≠S:=fun{c} hc q=>hSz (q▸hc)
   have alive:∀{t},(∃o,h'.get? t=some o)->∃o,(h'.update S (Obj.mapSeq (·.push (aue s.heap.objs.size)))).get? t=some o:=fun{t} ⟨o,e⟩=>by
    by_cases q:t=S
    ·rw[q];exact⟨_,avD _ e3 rfl⟩
    ·exact⟨o,oth t o q e⟩
   have s0:Same H0 (upd (upd H s.heap.objs.size (.tup [x,y])) S (.lst (ts.map V.ref++[V.ref s.heap.objs.size]))):=fun c o e=>by
    rw[au (aV e hS0),au (aV (g3 c o e) zF)];exact g3 c o e
   refine⟨fun c hc=>?_,?_,alive abj,?_,?_,?_,⟨ts++[s.heap.objs.size],?_,by rw[aud,g2];rfl,s0,fun j t ht=>?_⟩⟩
   ·obtain⟨f0,f1⟩:=Z.fp c hc;refine⟨?_,f1⟩;have hcs:c<s.heap.objs.size:=by
     simp only[at3,avu,or_false] at hc;rcases hc with q|q|q|q|q
     ·rw[q];rcases Z.zz with⟨q2,_⟩|⟨_,_,q2,_⟩
      ·exact aua q2
      ·exact aua q2
     ·rw[q];exact aua Z.pI
     ·rw[q];obtain⟨o,e⟩:=Z.wW;exact aua e
     ·rw[q];obtain⟨_,e1,_⟩:=Z.qR;exact aua e1
     ·rw[q];obtain⟨_,e2,_⟩:=Z.tG;exact aua e2
    rw[au (nS hc),au (aun hcs)];exact f0
   ·exact oth _ _ (nS (by simp)) (hkk _ _ (by simp[D.TIz,D.TITO,D.TIi1,D.TIi2]) Z.pI)
   ·exact j1.at fun o e=>oth _ o (nS (by simp)) e
   ·exact j2.at fun o e=>oth _ o (nS (by simp)) e
   ·rcases hzz with q|⟨t,q,qa⟩
    ·exact .inr ⟨_,false,oth _ _ (nS (by simp)) q,alive ⟨_,hT⟩⟩
    ·exact .inr ⟨t,true,oth _ _ (nS (by simp)) q,alive qa⟩
   ·rw[aC,auO];rfl
   ·by_cases hj:j<ts.length
    ·rw[auP hj] at ht;obtain⟨x',y',q1,q2,q3,q4⟩:=g4 j t ht;refine⟨x',y',q1,q2,?_,q4⟩;rw[au (bx q3 g1 (by intro q;cases q)),au (aV q3 zF)];exact q3
    ·have hjl:=(at9.mp ht).1;have ej:j=ts.length:=by simp at hjl;omega
     subst ej;simp at ht;subst ht;refine⟨x,y,by rw[g2];exact hx,by rw[g2];exact hy,?_,Same.free g3 zF⟩;rw[au (Ne.symm hST),aC]
  rcases Z.zz with⟨hz,p,q,hTO⟩|⟨t,f,hz,oa,hoa⟩
  ·refine wpAny_bind (wpAny_pyNext_zip_item D hz Z.pI hTO Z.qR Z.tG p1.isList p2.isList (x:=u) (y:=u2) (by simpa using hu) (by simpa using hu2) fun h' z' FZ j1 j2 hT hsz hkk=>?_);exact go h' (.inl z') j1 j2 hT ⟨_,FZ⟩ fun c o hc e=>hkk c o (fun q=>hc (by simp[q])) (fun q=>hc (by simp[q])) (fun q=>hc (by simp[q])) (fun q=>hc (by simp[q])) e
  ·refine wpAny_bind (abb D hz hoa ⟨Z.pI,Z.qR,Z.tG,p1.isList,p2.isList⟩ (x:=u) (y:=u2) (by simpa using hu) (by simpa using hu2) fun h' z' j1 j2 hT hsz hkk=>?_);obtain⟨wW,eTO⟩:=Z.wW;refine go h' (.inr ⟨t,z',?_⟩) j1 j2 hT ⟨wW,hkk TO wW D.TOz D.TOi1 D.TOi2 eTO⟩ fun c o hc e=>hkk c o (fun q=>hc (by simp[q])) (fun q=>hc (by simp[q])) (fun q=>hc (by simp[q])) e
   by_cases q1:t=z
   ·rw[q1];exact⟨_,z'⟩
   ·by_cases q2:t=i1
    ·rw[q2];obtain⟨o,e,_⟩:=j1;exact⟨o,e⟩
    ·by_cases q3:t=i2
     ·rw[q3];obtain⟨o,e,_⟩:=j2;exact⟨o,e⟩
     ·exact⟨oa,hkk t oa q1 q2 q3 hoa⟩
theorem abl:typeLookup (.type "zip") "__len__"=pure none:=by rw[typeLookup_type,builtinLookup_eq_fast];kernel_rfl
theorem abm:typeLookup (.type "zip") "__length_hint__"=pure none:=by rw[typeLookup_type,builtinLookup_eq_fast];kernel_rfl
theorem abn{A:Around}{E:Value->Shared->Prop}{s:Shared}{z:Addr}{Q:Bool->Shared->Prop}(hT:s.TypeIs (.ref z) "zip")(h:Q true s):wpAny (model X.prog X.w) A (Builtin.List.listLengthHint (.ref z)) Q E s:=by
 unfold Builtin.List.listLengthHint;refine wpAny_bind (wpAny_specialOf hT abl ?_);show wpAny _ A (specialOf (aue z) (au9 "__length_hint__")>>=_) _ _ _;exact wpAny_bind (wpAny_specialOf hT abm (wpAny_pure h))
def abo(K:atQ)(ta:TA):TE:=fun σ H Q=>ta σ H fun vs H1=>∃(a b:Addr)(xs ys:List V),vs=[.ref a,.ref b]/\ak K H1 a xs/\ak K H1 b ys/\xs.length=ys.length/\
 ∀(H':Hp)(S:Addr),H1 S=none->ZH H1 S xs ys xs.length H'->Q (.ref S) H'
theorem abp{e e2:Expr}{ta:TA}{p pos q uW:Pos}(hc:X.calm=true)(hg:Gl X "list")(hm:X.mg "list"=none)(hg2:Gl X "zip")(hm2:X.mg "zip"=none)(ha:PA X [e,e2] ta)
  (hs:starEach [e,e2] X.env=(false,eval e X.env)::starEach [e2] X.env:=by rfl) (hpl:(backTo uW (starEach [e2] X.env)).any (·.1)=false:=by rfl)
  (hs1:starEach [.Call (.Name "zip" q) [e,e2] [] uW] X.env=(false,eval (.Call (.Name "zip" q) [e,e2] [] uW) X.env)::starEach [] X.env:=by rfl) (abq:(backTo pos (starEach [] X.env)).any (·.1)=false:=by rfl):
  PE X (.Call (.Name "list" p) [.Call (.Name "zip" q) [e,e2] [] uW] [] pos) (abo X.K ta):=by
 intro pins s σ H Q I h;refine wpAny_Call_Name_kw (oX I hg hm axw ?_);refine avz ?_ hs1 abq;rw[hs1];show wpAny _ _ (spliced ((false,eval (.Call (.Name "zip" q) [e,e2] [] uW) X.env)::backTo pos (starEach [] X.env))) _ _ s;refine Calls.spliced_cons ?_;refine wpAny_Call_Name_kw (oX I hg2 hm2 Pa (avz (aO (ha uW pins s σ H _ I h) fun us s1 ⟨vs,H1,I1,r1,q1⟩=>?_) hs hpl));obtain⟨a,b,xs,ys,ex,pC,pF,hlen,q⟩:=q1;subst ex;cases r1 with
 |cons r rr=>
  cases rr with
  |cons r' rr=>
   cases rr;cases r;cases r';obtain⟨its,rv,p1,_⟩:=I1.list pC;obtain⟨its2,pG,p2,_⟩:=I1.list pF;have la:a<s1.heap.objs.size:=p1.lt;have lb:b<s1.heap.objs.size:=p2.lt;refine call_zip_2 p1.isList p2.isList fun h' hz hTI hTO h1 h2 hsz hk=>?_
   refine Calls.spliced_nil ?_;have D:=ayf s1.heap.objs.size a b la lb;have hT:Shared.TypeIs {s1 with heap:=h'} (.ref (s1.heap.objs.size+4)) "zip":=⟨_,hz,rfl⟩;have I2:Inv X pins σ H1 {s1 with heap:=h'}:=I1.kept (t':=s1.toks) hk;generalize Pq:s1.heap.objs.size+4=z at hz D hT;generalize hz2:s1.heap.objs.size+2=TI at hz hTI D;generalize hz3:s1.heap.objs.size+3=TO at hz hTO D;generalize hz1:s1.heap.objs.size+1=i2 at hTI h2 D;have Py:∀c∈[z,TI,TO,s1.heap.objs.size,i2],s1.heap.objs.size<=c:=fun c hc=>by
    simp only[at3,avu,or_false] at hc;omega
   refine callType_codes (Q₁:=fun obj s₁=>obj=.ref h'.objs.size/\s₁={s1 with heap:=h'.push {cls:=.type "list",data:=.seq #[]}}) PySem.F.called_list (PySem.F.typeCall_list_1 _) PySem.F.entry_list_init (code_list_new _ ⟨rfl,rfl⟩) fun obj s₁ e₁=>?_
   obtain⟨rfl,rfl⟩:=e₁;have hS:(h'.push {cls:=.type "list",data:=.seq #[]}).get? h'.objs.size=some {cls:=.type "list",data:=.seq #[]}:=auo _ rfl;generalize zG:h'.objs.size=S at hS;refine⟨⟨_,hS,rfl⟩,PySem.F.args_list_init_2 _ _,?_⟩;have Gj:H1 S=none:=by rw[<-zG];exact I2.hok.fresh (atX _)
   show wpAny _ _ (do let old<-Builtin.List.listItems (.ref S);Builtin.List.listUpdate (.ref S) (fun _=> #[]);letGo old.toList.reverse;Builtin.List.listExtendWith (.ref S) (.ref z) .none) _ _ _;refine wpAny_bind ?_;unfold Builtin.List.listItems;refine wpAny_bind (wpAny_seqItems hS rfl (wpAny_pure ?_));show wpAny _ _ (updateSeq S (fun _=> #[])>>=fun _=>letGo (#[]:Array Value).toList.reverse>>=fun _=>Builtin.List.listExtendWith (.ref S) (.ref z) .none) _ _ _;refine wpAny_bind (wpAny_updateSeq hS rfl ?_);have hS₂:=avD (Obj.mapSeq (fun _=>(#[]:Array Value))) hS rfl;refine wpAny_bind (wpAny_letGo ?_);have I3:Inv X pins σ (upd H1 S (.lst [])) {s1 with heap:=(h'.push {cls:=.type "list",data:=.seq #[]}).update S (Obj.mapSeq (fun _=>(#[]:Array Value)))}:=by
    have k2:∀b u,h'.get? b=some u->((h'.push {cls:=.type "list",data:=.seq #[]}).update S (Obj.mapSeq (fun _=>(#[]:Array Value)))).get? b=some u:=fun b u e=>
     (avr _ _ (by rw[<-zG];exact avL (aua e))).trans (auc _ e)
    exact I2.laid (t':=s1.toks) k2 (av8 zG) ⟨aul _,[],_,.nil,hS₂⟩
   have kS:∀b u,h'.get? b=some u->((h'.push {cls:=.type "list",data:=.seq #[]}).update S (Obj.mapSeq (fun _=>(#[]:Array Value)))).get? b=some u:=fun b u e=>
    (avr _ _ (by rw[<-zG];exact avL (aua e))).trans (auc _ e)
   have zlt:z<h'.objs.size:=aua hz;generalize hh3:(h'.push {cls:=.type "list",data:=.seq #[]}).update S (Obj.mapSeq (fun _=>(#[]:Array Value)))=h3 at I3 hS₂ kS;have Pz:IsZip h3 z TI TO .none:=kS _ _ hz;have hT3:Shared.TypeIs {s1 with heap:=h3} (.ref z) "zip":=⟨_,Pz,rfl⟩;have fpS:∀c∈[z,TI,TO,s1.heap.objs.size,i2],∀Hx:Hp,Hx c=none->jt X pins Hx c:=fun c hc Hx hn=>I1.sG (Py c hc) hn
   have nS:∀c∈[z,TI,TO,s1.heap.objs.size,i2],c≠S:=fun c hc q=>by
    have:c<h'.objs.size:=by
     rw[hsz];simp only[at3,avu,or_false] at hc;omega
    omega
   unfold Builtin.List.listExtendWith;refine wpAny_bind (wpAny_typeOf hT3 ?_);have c1:Builtin.List.listSameRef (.ref S) (.ref z)=false:=by simp[Builtin.List.listSameRef,Ne.symm (nS z (by simp))]
   have c2:(auM "zip"==auM "list")=false:=by decide
   have c3:(auM "zip"==auM "tuple")=false:=by decide
   simp only[c1,c2,c3,axi,auw,if_false];refine wpAny_bind (wpAny_pyIter_zip Pz ?_);refine wpAny_bind (wpAny_holding (abn hT3 ?_));show wpAny _ _ (rule "list.extend.makes-room">>=fun _=>Builtin.List.listTouch (.ref S)>>=fun _=>again (.builtin "list.extend.loop" ⟨[.ref S,.ref z,.none],[]⟩)) _ _ _;refine wpAny_bind (wpAny_rule ?_);refine wpAny_bind ?_;show wpAny _ _ (updateSeq S (·.push .none)>>=fun _=>updateSeq S (·.pop)) _ _ _;refine wpAny_bind (wpAny_updateSeq hS₂ rfl ?_);have hS₃:=avD (Obj.mapSeq (·.push auF)) hS₂ rfl;refine wpAny_updateSeq hS₃ rfl ?_;have hS₄:=avD (Obj.mapSeq (·.pop)) hS₃ rfl;have k4:∀b u,b≠S->h3.get? b=some u->((h3.update S (Obj.mapSeq (·.push auF))).update S (Obj.mapSeq (·.pop))).get? b=some u:=fun b u hb e=>
    (avr _ _ (Ne.symm hb)).trans ((avr _ _ (Ne.symm hb)).trans e)
   generalize hh4:(h3.update S (Obj.mapSeq (·.push auF))).update S (Obj.mapSeq (·.pop))=h4 at hS₄ k4;have I4:Inv X pins σ (upd H1 S (.lst [])) {s1 with heap:=h4}:=by
    have:=I3.write (t':=s1.toks) (x:=S) (e:=S) (o:=.lst []) (h':=h4) (by rw[aC];trivial) (.inl rfl) (fun b u hb q=>k4 b u hb q) ⟨_,hS₄⟩ ⟨aul _,[],_,.nil,hS₄⟩;rw[uA] at this;exact this
   have q4:∀{b u},b∈[z,TI,TO,s1.heap.objs.size,i2]->h'.get? b=some u->h4.get? b=some u:=fun{b u} hb e=>k4 b u (nS b hb) (kS b u e)
   refine wpAny_pure ⟨plainId_quiet awg _,?_⟩;have hA:X.A.in1.handled=none:=I.ok.hd hc;refine abg (H0:=H1) (a:=a) (b:=b) (xs:=xs) (ys:=ys) D Gj pC pF hlen hA (fun s' H' I' zh=>?_) xs.length 0 _ (upd H1 S (.lst [])) rfl (aul _) I4 ⟨fun c hcm=>fpS c hcm _ ?_,q4 (by simp) hTI,⟨_,q4 (by simp) hTO⟩,h1.at fun o e=>q4 (by simp) e,h2.at fun o e=>q4 (by simp) e,.inl ⟨q4 (by simp) hz,_,_,q4 (by simp) hTO⟩,[],by rw[aC];rfl,rfl,(fun b u e=>by rw[au (aV e Gj)];exact e),fun j t ht=>by simp at ht⟩
   ·exact⟨rfl,.ref S,H',I',rfl,q H' S Gj zh⟩
   ·rw[au (nS c hcm)];exact I1.hok.fresh (Py c hcm)
end
end L2
namespace PySem
namespace SetTable
abbrev qT(xs:Array Nat):Prop:=xs.toList.Pairwise (·<·)
theorem PJ(xs:Array Nat)(i d:Nat):xs.getD i d=xs.toList.getD i d:=by
 rw[avY,at5,avc]
theorem wX{l:List Nat}(h:l.Pairwise (·<·)){i k:Nat}(hik:i<k)(hk:k<l.length)(d:Nat):l.getD i d<l.getD k d:=by
 rw[at5,at5,atY (by omega),atY hk];exact List.pairwise_iff_getElem.mp h i k (by omega) hk hik
theorem Gk(xs:Array Nat)(j:Nat)(hr:qT xs):∀(fuel lo hi:Nat),hi-lo<=fuel->lo<=hi->hi<=xs.size->(∀i,i<lo->xs.toList.getD i j<j)->(∀i,hi<=i->i<xs.size->¬xs.toList.getD i j<j)->
  below.go xs j fuel lo hi<=xs.size/\(∀i,i<below.go xs j fuel lo hi->xs.toList.getD i j<j)/\∀i,below.go xs j fuel lo hi<=i->i<xs.size->¬xs.toList.getD i j<j
 |0,lo,hi,hf,hl,hs,h1,h2=>by
  have e:lo=hi:=by omega
  subst e;exact⟨hs,h1,h2⟩
 |fuel+1,lo,hi,hf,hl,hs,h1,h2=>by
  unfold below.go;by_cases hlt:lo<hi
  ·rw[if_pos hlt];dsimp only;have hm:(lo+hi)/2<hi:=by omega
   have hm2:lo<=(lo+hi)/2:=by omega
   have hsz:xs.toList.length=xs.size:=aut;by_cases hc:xs.getD ((lo+hi)/2) j<j
   ·rw[if_pos hc];refine Gk xs j hr fuel ((lo+hi)/2+1) hi (by omega) (by omega) hs (fun i hi'=>?_) h2;rw[PJ] at hc;by_cases e:i=(lo+hi)/2
    ·rw[e];exact hc
    ·exact awH (wX hr (show i<(lo+hi)/2 by omega) (by omega) j) hc
   ·rw[if_neg hc];refine Gk xs j hr fuel lo ((lo+hi)/2) (by omega) (by omega) (by omega) h1 (fun i hi' hi2=>?_);rw[PJ] at hc;by_cases e:i=(lo+hi)/2
    ·rw[e];exact hc
    ·have:=wX hr (show(lo+hi)/2<i by omega) (by omega) j;omega
  ·rw[if_neg hlt];have e:lo=hi:=by omega
   subst e;exact⟨hs,h1,h2⟩
theorem PK(xs:Array Nat)(j:Nat)(hr:qT xs):below xs j<=xs.size/\(∀i,i<below xs j->xs.toList.getD i j<j)/\∀i,below xs j<=i->i<xs.size->¬xs.toList.getD i j<j:=
 Gk xs j hr xs.size 0 xs.size (by omega) (by omega) (atX _) (fun i h=>by omega) fun i h1 h2=>by omega
theorem abu{xs:Array Nat}{j:Nat}(hr:qT xs)(hj:xs[below xs j]?≠some j):qT (insertAt xs (below xs j) j):=by
 obtain⟨h0,h1,h2⟩:=PK xs j hr;have hsz:xs.toList.length=xs.size:=aut;show(insertAt xs (below xs j) j).toList.Pairwise (·<·);rw[toList_insertAt,axx,ave];have hd:∀b,b∈xs.toList.drop (below xs j)->j<b:=fun b hb=>by
  obtain⟨i,hi⟩:=avf hb;rw[awN] at hi;have hil:=(at9.mp hi).1;have h3:=h2 (below xs j+i) (by omega) (by omega);rw[at5,hi] at h3;have h3:¬b<j:=h3;have hne:b≠j:=fun e=>by
   subst e;by_cases z:i=0
   ·subst z;apply hj;rw[<-avc];exact hi
   ·have h4:=h2 (below xs b) (atX _) (by omega);have h5:=wX hr (show below xs b<below xs b+i by omega) hil b;rw[at5 (i:=below xs b+i),hi] at h5;exact h4 h5
  omega
 refine⟨hr.sublist (ax2 ..),⟨fun b hb=>hd b hb,hr.sublist (List.drop_sublist ..)⟩,fun a ha b hb=>?_⟩;have ha2:a<j:=by
  obtain⟨i,hi⟩:=avf ha;rw[List.getElem?_take] at hi
  split at hi
  ·next hib=>
   have:=h1 i hib;rw[at5,hi] at this;exact this
  ·cases hi
 rcases at3.mp hb with e|hb
 ·rw[e];exact ha2
 ·exact awH ha2 (hd b hb)
structure Good(led:Bool)(t:SetTable):Prop where
 Gm:t.dummies= #[]
 led:t.led=led
 rise:t.plain=true->qT t.place
theorem abv(led:Bool):Good led (fresh 0 0 led):=⟨rfl,rfl,fun _=>ayo⟩
theorem zH{led:Bool}{t:SetTable}(n:Nat)(g:Good led t):Good led (t.standIn n):=⟨rfl,g.led,fun h=>by cases h⟩
theorem abw{led:Bool}{t:SetTable}(g:Good led t):Good led {t with plain:=false}:=⟨g.Gm,g.led,fun h=>by cases h⟩
theorem PL(j:Nat):has #[] j=false:=by simp[has]
theorem PP{t:SetTable}{h:Int}(hd:t.dummies= #[]):∀(fuel:Nat)(p:Probe)(j:Nat)(d:Option Nat),p.dummy=none->probe.go t (fun _=>h+1) h fuel p=some (.empty j d)->d=none/\t.slot j=.empty
 |0,p,j,d,_,e=>by unfold probe.go at e;cases e
 |fuel+1,p,j,d,hp,e=>by
  unfold probe.go at e;cases q:t.slot p.j with
  |empty=>
   rw[q] at e;cases e;exact⟨hp,q⟩
  |dummy=>
   exfalso;unfold slot at q;dsimp only at q;rw[hd,PL] at q
   split at q
   ·cases q
   ·simp at q
  |live i=>
   rw[q] at e;dsimp only at e;rw[if_neg (by simp;omega)] at e;refine PP hd fuel _ j d ?_ e;unfold advance
   split
   ·exact hp
   ·exact hp
theorem abx{led:Bool}{t:SetTable}(g:Good led t)(es:Array (Int×Value))(h:Int)(x:Value):Good led (layNew t es h x).2.1:=by
 unfold layNew
 split
 ·next slot wasDummy e=>
  have e1:∃j,slot=j/\t.slot j=.empty:=by
   unfold freeSlot at e
   split at e
   ·next j dummy q=>
    obtain⟨d0,hj⟩:=PP g.Gm _ _ j dummy rfl q;subst d0;cases e;exact⟨j,rfl,hj⟩
   ·cases e
  obtain⟨j,rfl,hj⟩:=e1;have gp:Good led (t.put slot).1:=by
   unfold put;dsimp only;rw[g.Gm,PL];refine⟨rfl,g.led,fun hp=>abu (g.rise hp) fun q=>?_⟩;unfold SetTable.slot at hj;dsimp only at hj;rw[q] at hj;simp at hj
  dsimp only;show Good led (orStandIn (t.put slot).1 _);unfold orStandIn
  split
  ·exact gp
  ·exact zH _ gp
 ·exact zH _ g
theorem aby{led:Bool}{t:SetTable}(g:Good led t)(es:Array (Int×Value))(wanted:Nat):Good led (relayAll t es wanted).2.1:=by
 unfold relayAll
 split
 ·next t' order e=>
  have gt:Good led t':=by
   unfold relaid laid at e;simp only[Option.bind_eq_bind,Option.bind_eq_some_iff] at e;obtain⟨owner,_,e⟩:=e;cases e;refine⟨rfl,g.led,fun _=>?_⟩;show(awO _ _).toArray.toList.Pairwise _;rw[List.toList_toArray,avH];refine List.Pairwise.filterMap _ (R:=(·<·)) (fun a a' haa b hb b' hb'=>?_) avZ;obtain⟨y,_,rfl⟩:=axq.mp hb;obtain⟨y',_,rfl⟩:=axq.mp hb';exact haa
  dsimp only
  split
  ·exact gt
  ·exact zH _ g
 ·exact zH _ g
end SetTable
section
variable{prog:Program}{w:World}{A:Around}{E:Value->Shared->Prop}{s:Shared}
def eG(prog:Program)(w:World)(led:Bool)(h:Heap)(a:Addr)(S:Int->Bool)(n:Nat):Prop:=
 ∃o es ep t,h.get? a=some o/\o.ExactSet/\o.data=.set es ep t/\ElemsOf (intKind prog w) es.toList/\(∀k,S k=true↔∃e∈es.toList,(intKind prog w).is k e.2=true)
  /\es.size<scanBound/\t.fits es.size=true/\es.size=n/\SetTable.Good led t
theorem eG.at{led:Bool}{h h':Heap}{a:Addr}{S:Int->Bool}{n:Nat}(x:eG prog w led h a S n)(k:∀o,h.get? a=some o->h'.get? a=some o):eG prog w led h' a S n:=
 let⟨o,es,ep,t,ho,r⟩:=x
 ⟨o,es,ep,t,k o ho,r⟩
theorem eG.congr{led:Bool}{h:Heap}{a:Addr}{S S':Int->Bool}{n n':Nat}(x:eG prog w led h a S n)(e:∀k,S k=S' k)(en:n=n'):eG prog w led h a S' n':=by
 have:S=S':=funext e;subst this;subst en;exact x
theorem eG.store{led:Bool}{h:Heap}{a:Addr}{o:Obj}{es es':Array (Int×Value)}{ep:Nat}{t t':SetTable}{S':Int->Bool}(ho:h.get? a=some o)(hex:o.ExactSet)(hd:o.data=.set es ep t)(hel:ElemsOf (intKind prog w) es'.toList)
  (hmem:∀k,S' k=true↔∃e∈es'.toList,(intKind prog w).is k e.2=true) (hb:es'.size<scanBound) (hf:t'.fits es'.size=true) (hg:SetTable.Good led t'):
  (h.update a (Obj.putSet es' t')).get? a=some {o with data:=.set es' (ep+1) t'}/\eG prog w led (h.update a (Obj.putSet es' t')) a S' es'.size:=by
 obtain⟨e,_⟩:=SetOf_store (knd:=intKind prog w) ho hex hd hel hmem hb hf;exact⟨e,_,es',ep+1,t',e,hex,rfl,hel,hmem,hb,hf,rfl,hg⟩
theorem PQ{led:Bool}{g:Bool->Sem Unit}(hgg:∀(b:Bool)(s₁:Shared)(Q':Unit->Shared->Prop),Q' () s₁->wpAny (model prog w) A (g b) Q' E s₁){a:Addr}{o:Obj}{es:Array (Int×Value)}{ep:Nat}{t:SetTable}
  (ho:s.heap.get? a=some o) (hex:o.ExactSet) (hd:o.data=.set es ep t) {es1:Array (Int×Value)} {t2:SetTable} {S':Int->Bool} (hel1:ElemsOf (intKind prog w) es1.toList)
  (hmem1:∀k',S' k'=true↔∃e∈es1.toList,(intKind prog w).is k' e.2=true) (hb1:es1.size<scanBound) (hf2:t2.fits es1.size=true) (hg2:SetTable.Good led t2) {wasDummy:Bool} {R:Option Bool->Shared->Prop}
  (h:∀h',auV a s.heap h'->eG prog w led h' a S' es1.size->R (some true) {s with heap:=h'}):
  wpAny (model prog w) A (do
    storeSet a es1 t2
    if(!wasDummy&&t2.tooFull)=true then do
      g (relayAll t2 es1 (SetTable.grown es1.size)).2.2
      storeSet a (relayAll t2 es1 (SetTable.grown es1.size)).1 (relayAll t2 es1 (SetTable.grown es1.size)).2.1
      pure (some true)
     else pure (some true)) R E s:=by
 refine wpAny_bind (wpAny_storeSet_of ho hd ?_ (fits_of_scanBound hb1));obtain⟨ho1,hS1⟩:=eG.store (prog:=prog) (w:=w) ho hex hd hel1 hmem1 hb1 hf2 hg2;have hsb1:=awJ s.heap a (Obj.putSet es1 t2)
 split
 ·have hp:=relayAll_perm t2 es1 (SetTable.grown es1.size);have hfr:=relayAll_fits t2 es1 (SetTable.grown es1.size);have hgr:=SetTable.aby hg2 es1 (SetTable.grown es1.size);generalize hRl:relayAll t2 es1 (SetTable.grown es1.size)=Rl at hp hfr hgr⊢;obtain⟨es2,t3,gave2⟩:=Rl;dsimp only at hp hfr hgr⊢;have hel2:ElemsOf (intKind prog w) es2.toList:=hel1.perm hp;have hmem2:∀k',S' k'=true↔∃e∈es2.toList,(intKind prog w).is k' e.2=true:=fun k'=>(hmem1 k').trans ⟨fun⟨e,he,q⟩=>⟨e,hp.mem_iff.mpr he,q⟩,fun⟨e,he,q⟩=>⟨e,hp.mem_iff.mp he,q⟩⟩
  have hsz:es2.size=es1.size:=by rw[<-aut,hp.length_eq,aut]
  have hb2:es2.size<scanBound:=by rw[hsz];exact hb1
  refine wpAny_bind (hgg _ _ _ ?_);refine wpAny_bind (wpAny_storeSet_of ho1 rfl ?_ (fits_of_scanBound hb2));obtain⟨_,hS2⟩:=eG.store (prog:=prog) (w:=w) ho1 hex rfl hel2 hmem2 hb2 hfr hgr;rw[hsz] at hS2;exact wpAny_pure (h _ (hsb1.trans (awJ _ a _)) hS2)
 ·exact wpAny_pure (h _ hsb1 hS1)
theorem abA{led:Bool}{a:Addr}{S:Int->Bool}{n:Nat}{k:Int}{x:Value}{Q:Bool->Shared->Prop}(hkey:(intKind prog w).is k x=true)(hsc:x.scannable=true)(hS:eG prog w led s.heap a S n)(hroom:n+1<scanBound)
  (h:∀h',auV a s.heap h'->eG prog w led h' a (fun k'=>S k'||decide (k'=k)) (if S k then n else n+1)->Q (!S k) {s with heap:=h'}):
  wpAny (model prog w) A (setAddHashed a x ((intKind prog w).hash k)) Q E s:=by
 obtain⟨o,es,ep,t,ho,hex,hd,hel,hmem,hb,hf,hn,hg⟩:=hS;have hb1:es.size+1<scanBound:=by rw[hn];exact hroom
 unfold setAddHashed setAddHashedIn;refine wpAny_holding (wpAny_bind (wpAny_setState_of ho hd hf ?_));dsimp only;rw[byScan_of hsc hb hel];simp only[↓reduceIte];unfold setAddByScan;refine wpAny_bind ?_;refine wpAny_bind (wpAny_rule ?_);refine wpAny_bind (wpAny_setScan_of hkey ho hd hf hel ?_);cases hr:List.findIdx? (fun e=>(intKind prog w).is k e.2) es.toList with
 |some j=>
  dsimp only;obtain⟨hj,hpj,_⟩:=List.findIdx?_eq_some_iff_getElem.mp hr;have hSk:S k=true:=(hmem k).mpr ⟨es.toList[j],au1 hj,hpj⟩;refine wpAny_pure (wpAny_pure ?_);have e:s={s with heap:=s.heap}:=by cases s;rfl
  have:=h s.heap (Heap.SameBut.refl a s.heap) ⟨o,es,ep,t,ho,hex,hd,hel,fun k'=>by
   rw[axo,decide_eq_true_eq,<-hmem k'];exact⟨fun hk=>hk.elim id (fun e=>e▸hSk),.inl⟩,hb,hf,by rw[hSk];exact hn,hg⟩
  rw[hSk] at this;rw[e];exact this
 |none=>
  dsimp only;have hSk:S k=false:=by
   cases hk:S k with
   |false=>rfl
   |true=>
    obtain⟨e,he,hp⟩:=(hmem k).mp hk;have:=List.findIdx?_eq_none_iff.mp hr e he;rw[hp] at this;exact auU this
  have hgw:∀(b:Bool){s₁:Shared}{Q':Unit->Shared->Prop},Q' () s₁->wpAny (model prog w) A (match b with|true=>rule "set.scan.the-table-gave-way"|false=>pure ()) Q' E s₁:=
   fun b s₁ Q' hq=>by cases b<;>first|exact wpAny_pure hq|exact wpAny_rule hq
  have hperm:=layNew_perm t es ((intKind prog w).hash k) x;have hfits:=layNew_fits t es ((intKind prog w).hash k) x;have hgood:=SetTable.abx hg es ((intKind prog w).hash k) x;generalize hL:layNew t es ((intKind prog w).hash k) x=L at hperm hfits hgood⊢;obtain⟨es1,t1,wasDummy,gave⟩:=L;dsimp only at hperm hfits hgood⊢;rw[ayp] at hperm;have hel1:ElemsOf (intKind prog w) es1.toList:=(hel.push hkey hsc).perm hperm;have hmem1:∀k',(S k'||decide (k'=k))=true↔∃e∈es1.toList,(intKind prog w).is k' e.2=true:=mem_push_iff hkey hmem hperm
  have hb1':es1.size<scanBound:=by rw[<-aut,hperm.length_eq,aud,aut];simpa using hb1
  refine wpAny_bind (hgw _ ?_);have hsz1:es1.size=n+1:=by rw[<-aut,hperm.length_eq,aud,aut,hn];rfl
  have hend:∀h',auV a s.heap h'->eG prog w led h' a (fun k'=>S k'||decide (k'=k)) es1.size->Q true {s with heap:=h'}:=by
   intro h' hsb hS';have:=h h' hsb;rw[hSk] at this;rw[hsz1] at hS';exact this hS'
  split
  ·refine wpAny_bind ?_;rw[hashByValue_scannable 8 hsc];refine wpAny_pure ?_;refine PQ (led:=led) ?_ ho hex hd hel1 hmem1 hb1' ?_ ?_ ?_
   ·intro b s₁ Q' hq;cases b<;>first|exact wpAny_pure hq|exact wpAny_rule hq
   ·split
    ·exact hfits
    ·exact SetTable.fits_plain_off hfits
   ·split
    ·exact hgood
    ·exact SetTable.abw hgood
   ·intro h' hsb hS';dsimp only;exact wpAny_pure (hend h' hsb hS')
  ·refine wpAny_bind (wpAny_pure ?_);simp only[↓reduceIte];refine PQ (led:=led) ?_ ho hex hd hel1 hmem1 hb1' hfits hgood ?_
   ·intro b s₁ Q' hq;cases b<;>first|exact wpAny_pure hq|exact wpAny_rule hq
   ·intro h' hsb hS';dsimp only;exact wpAny_pure (hend h' hsb hS')
end
end PySem
namespace PyProof.Rows
open PySem PySem.Spec
section
variable{prog:Program}{w:World}{A:Around}{R:Result->Shared->Prop}{I:Addr}{fp wr:List Addr}{G:Array GenState->Array GenState->Prop}{n:Nat}{P:Nat->Value->Prop}{St:Nat->Shared->Prop}
theorem abB{led:Bool}(W:WalksS prog w A.in1 I fp wr G n P St)(S:Addr)(hSf:S∉fp)(val:Nat->Int)(hval:∀i v,P i v->∃t,v=.int (val i) t)(hb:(firstMet val n).length+1<scanBound):
  ∀(k i:Nat)(s:Shared),n-i=k->i<=n->St i s->eG prog w led s.heap S (fun k'=>(firstMet val i).any (·==k')) (firstMet val i).length->
   (∀s',Moved (S::wr) G s s'->eG prog w led s'.heap S (fun k'=>(firstMet val n).any (·==k')) (firstMet val n).length->R (.ok (.ret .none)) s')->
   codeAny (model prog w) A (.builtin "set.update.loop" ⟨[.ref S,.ref I],[]⟩) R s:=by
 have mono:∀i d,(firstMet val i).length<=(firstMet val (i+d)).length:=fun i d=>by
  induction d with
  |zero=>exact atX _
  |succ d ih=>
   rw[<-av0,firstMet_succ,step_length]
   split<;>omega
 have hSw:S∉wr:=fun h=>hSf (W.sub _ h)
 have hsub:∀b∈wr,b∈S::wr:=fun b hb=>at8 _ hb
 intro k
 induction k with
 |zero=>
  intro i s hk hi hst hS hR;have hin:i=n:=by omega
  subst hin;refine codeAny_builtin ayq ?_;rw[Around.under_plainId axy _];show wpAny _ A.in1 (pyNext (.ref I)>>=_) _ _ s;refine wpAny_bind (W.done s _ _ hst fun s' hm=>?_);show wpAny _ A.in1 (ret auF) _ _ s';exact wpAny_pure (hR s' (hm.mono hsub) (hS.at fun o ho=>hm.heap S _ hSw ho))
 |succ k ih=>
  intro i s hk hi hst hS hR;have hlt:i<n:=by omega
  refine codeAny_builtin ayq ?_;rw[Around.under_plainId axy _];show wpAny _ A.in1 (pyNext (.ref I)>>=_) _ _ s;refine wpAny_bind (W.item i s _ _ hlt hst fun v s' hP hst' hm=>?_);obtain⟨t,rfl⟩:=hval i v hP;have hS':=hS.at (h':=s'.heap) fun o ho=>hm.heap S _ hSw ho
  show wpAny _ A.in1 (holding [au6 (val i) t] (setAdd S (.int (val i) t))>>=_) _ _ s';refine wpAny_bind (wpAny_holding ?_);unfold setAdd;refine wpAny_holding ?_;refine wpAny_bind ((intKind prog w).pyHash (k:=val i) (intKind_is _ _ _ _) ?_);have hroom:(firstMet val i).length+1<scanBound:=by
   have:=mono i (n-i);rw[show i+(n-i)=n by omega] at this;omega
  refine abA (led:=led) (s:={s' with toks:=s'.toks+1}) (intKind_is _ _ _ _) rfl hS' hroom fun h' hsb hS2=>?_
  have hSi:eG prog w led h' S (fun k'=>(firstMet val (i+1)).any (·==k')) (firstMet val (i+1)).length:=hS2.congr (fun k'=>by rw[firstMet_succ,step_any]) (by rw[firstMet_succ,step_length]);refine wpAny_pure ⟨plainId_quiet axy _,ih (i+1) _ (by omega) hlt (W.frame _ s' _ _ hst' (awa _) fun b hb o e=>?_) hSi fun s'' hm'' hS''=>?_⟩
  ·rw[hsb.2 b (fun h:b=S=>hSf (by rw[<-h];exact hb))];exact e
  ·refine hR s'' (Moved.trans W.gtrans ((hm.mono hsub).then_heap (awa _) fun b o hb e=>?_) hm'') hS'';rw[hsb.2 b (fun h:b=S=>hb (by rw[h];exact at7))];exact e
end
end PyProof.Rows
namespace PySem
section
variable{prog:Program}{w:World}{A:Around}{E:Value->Shared->Prop}{s:Shared}
abbrev fZ(w:World):Bool:= !(w.params.followText "set-order")
theorem abC(a:Value){Q₁:Value->Shared->Prop}(h:Q₁ (.ref s.heap.objs.size) {s with heap:=s.heap.push {cls:=.type "set",dict:=none,data:=.set #[] 0 (.fresh 0 0 (fZ w))}}):
  codeAny (model prog w) A (.call (.builtin "set.__new__") ⟨[.type "set",a],[]⟩) (wants Q₁ E) s:=by
 refine codeAny_of_tree ?_;show wpAny _ A.in1 (do checkBuiltinCall "set.__new__" ⟨[.type "set",a],[]⟩;again (.builtin "set.__new__" ⟨[.type "set",a],[]⟩)) _ _ s;refine wpAny_bind (wpAny_of_eq (F.newCall_set_1 a) (wpAny_pure ⟨plainId_quiet F.plain_set_new _,codeAny_builtin F.entry_set_new ?_⟩));rw[Around.under_plainId F.plain_set_new _];unfold Builtin.«set.__new__» Builtin.Frozenset.newClass;have hsub:=sub_set_self;obtain⟨hp,g,d,tk,os⟩:=s;dsimp only
 wp_walk
 refine wpAny_askSetting (wpAny_pure ?_);dsimp only;simp only[newObj];refine wpAny_bind (wpAny_alloc (wpAny_pure ?_));exact wpAny_pure h
structure Gn(prog:Program)(w:World)(T:String)(l:Addr)(items:Array Value)(OK:Heap->Prop):Prop where
 obj:∀h:Heap,OK h->∃o,h.get? l=some o/\o.cls=.type T
 keep:∀h h':Heap,OK h->(∀o,h.get? l=some o->h'.get? l=some o)->OK h'
 Gp:isSubtype (.type T) (.type "set")=pure false
 Gq:isSubtype (.type T) (.type "frozenset")=pure false
 noDict:(auM T==auM "dict")=false
 iter:∀(A:Around)(s:Shared),A.handled=none->OK s.heap->∃(oI:Obj)(St:Nat->Heap->Prop),
  (∀(A':Around)(E:Value->Shared->Prop)(Q:Value->Shared->Prop),Q (.ref s.heap.objs.size) {s with heap:=s.heap.push oI}->wpAny (model prog w) A' (pyIter (.ref l)) Q E s)/\
  Walks prog w A s.heap.objs.size [s.heap.objs.size,l] [s.heap.objs.size] items.size (fun i v=>items[i]?=some v) St/\St 0 (s.heap.push oI)
theorem abD:isSubtype (.type "tuple") (.type "set")=pure false:=by rw[isSubtype_type];kernel_rfl
theorem abE:isSubtype (.type "tuple") (.type "frozenset")=pure false:=by rw[isSubtype_type];kernel_rfl
theorem abF(l:Addr)(items:Array Value):Gn prog w "list" l items (fun h=>h.IsList l items) where
 obj:=fun h ⟨o,ho,hc,_⟩=>⟨o,ho,hc⟩
 keep:=fun h h' x k=>x.at k
 Gp:=F.sub_list_set
 Gq:=F.sub_list_frozenset
 noDict:=by decide
 iter:=fun A s hh hl=>by
  have hlt:l<s.heap.objs.size:=by obtain⟨o,ho,_⟩:=hl;exact aua ho
  exact⟨_,_,fun A' E Q hq=>wpAny_pyIter_list hl hq,Walks.list hh _ l (aun hlt) items,⟨_,auo _ rfl,rfl,rfl⟩,hl.at fun o e=>auc _ e⟩
theorem abG(l:Addr)(items:Array Value):Gn prog w "tuple" l items (fun h=>h.IsTuple l items) where
 obj:=fun h x=>by obtain⟨o,ho,hc,_⟩:=x;exact⟨o,ho,hc⟩
 keep:=fun h h' x k=>x.at k
 Gp:=abD
 Gq:=abE
 noDict:=by decide
 iter:=fun A s hh hl=>by
  have hlt:l<s.heap.objs.size:=by obtain⟨o,ho,_⟩:=hl;exact aua ho
  exact⟨_,_,fun A' E Q hq=>wpAny_pyIter_tuple hl hq,Walks.tuple hh _ l (aun hlt) items,⟨_,auo _ rfl,rfl,rfl⟩,hl.at fun o e=>auc _ e⟩
end
open PyProof.Rows (firstMet IntsAre)
section
variable{prog:Program}{w:World}{A:Around}{E:Value->Shared->Prop}{s:Shared}
set_option maxHeartbeats 3200000 in
theorem PX{T:String}{l:Addr}{items:Array Value}{OK:Heap->Prop}{ns:List Int}{Q:Value->Shared->Prop}(K:Gn prog w T l items OK)(hh:A.handled=none)(hok:OK s.heap)(hi:IntsAre items.toList ns)
  (hb:(firstMet (fun i=>ns.getD i 0) items.size).length+1<scanBound)
  (h:∀(h':Heap)(tk:Nat),eG prog w (fZ w) h' s.heap.objs.size (fun k'=>(firstMet (fun i=>ns.getD i 0) items.size).any (·==k')) (firstMet (fun i=>ns.getD i 0) items.size).length->
   (∀b o,b<s.heap.objs.size->s.heap.get? b=some o->h'.get? b=some o)->Q (.ref s.heap.objs.size) {s with heap:=h',toks:=tk}):
  wpAny (model prog w) A (call (.type "set") [.ref l]) Q E s:=by
 obtain⟨c,tl,hmro⟩:=avI.mro;have hmade:=avI.made;have hsub:=avI.sub;refine wpAny_call (codeAny_of_tree ?_);show wpAny _ _ (callAny (.type "set") _) _ _ _;refine wpAny_pure ⟨Code.quiet_builtin _ (by decide +kernel),codeAny_builtin F.entry_type_call ?_⟩;rw[Around.under_plain (weight_type_call_type "set" [.ref l] []) rfl];have h1:=avI.notType;have h2:=avI.canCreate;have hct:=F.typeCall_set_1 (.ref l)
 repeat (any_goals (first|assumption|wp_step))
 refine codeAny_mono (abC (.ref l) (E:=E) (Q₁:=fun obj s₁=>obj=.ref s.heap.objs.size/\s₁={s with heap:=s.heap.push {cls:=.type "set",dict:=none,data:=.set #[] 0 (.fresh 0 0 (fZ w))}}) ⟨rfl,rfl⟩) fun r s₁ hr=>?_
 cases r with
 |error e=>exact hr
 |ok fl=>
  cases fl with
  |ret obj=>
   obtain⟨rfl,rfl⟩:=hr;have hS:(s.heap.push {cls:=.type "set",dict:=none,data:=.set #[] 0 (.fresh 0 0 (fZ w))}).get? s.heap.objs.size=some {cls:=.type "set",dict:=none,data:=.set #[] 0 (.fresh 0 0 (fZ w))}:=auo _ rfl;have hT:Shared.TypeIs {s with heap:=s.heap.push {cls:=.type "set",dict:=none,data:=.set #[] 0 (.fresh 0 0 (fZ w))}} (.ref s.heap.objs.size) "set":=⟨_,hS,rfl⟩;have hli:=avI.init.lookup;have hbi:=avI.init.bind (.ref s.heap.objs.size)
   repeat (any_goals (first|assumption|wp_step))
   refine codeAny_mono (codeAny_call_builtin (R:=wants (fun r s₂=>r=.none/\∃h' tk,s₂={s with heap:=h',toks:=tk}/\
     eG prog w (fZ w) h' s.heap.objs.size (fun k'=>(firstMet (fun i=>ns.getD i 0) items.size).any (·==k')) (firstMet (fun i=>ns.getD i 0) items.size).length/\
     (∀b o,b<s.heap.objs.size->s.heap.get? b=some o->h'.get? b=some o)) E) avI.init.plain F.entry_set_init (check_set_init_1 hT ?_)) fun r₂ s₂ hr₂=>?_
   ·obtain⟨ol,hol,hcl⟩:=K.obj _ hok;have hlS:l<s.heap.objs.size:=aua hol;obtain⟨ocls,odict,odata,oslots⟩:=ol;simp only at hcl;subst hcl;have hol':(s.heap.push {cls:=.type "set",dict:=none,data:=.set #[] 0 (.fresh 0 0 (fZ w))}).get? l=some {cls:=.type T,dict:=odict,data:=odata,slots:=oslots}:=auc _ hol;have hsls:=K.Gp;have hslf:=K.Gq;have hne:=K.noDict;have abH:OK (s.heap.push {cls:=.type "set",dict:=none,data:=.set #[] 0 (.fresh 0 0 (fZ w))}):=K.keep _ _ hok fun o e=>auc _ e
    obtain⟨oI,St,hit,W,st⟩:=K.iter A.in1.in1.in1 {s with heap:=s.heap.push {cls:=.type "set",dict:=none,data:=.set #[] 0 (.fresh 0 0 (fZ w))}} (by simp[hh]) abH;unfold Builtin.«set.__init__» noKeywords Builtin.Frozenset.updateFrom;generalize hPI:pyIter=PI
    wp_walk
    subst hPI;refine hit _ _ _ ?_;refine wpAny_bind (wpAny_runValue ?_);have hSf:s.heap.objs.size∉[(s.heap.push {cls:=.type "set",dict:=none,data:=.set #[] 0 (.fresh 0 0 (fZ w))}).objs.size,l]:=by
     rw[auD];simp only[at3,avu,or_false,not_or];exact⟨aun (avC _),avL hlS⟩
    have hval:∀(i:Nat)(v:Value),items[i]?=some v->∃t,v=.int ((fun i=>ns.getD i 0) i) t:=fun i v hv=>ayQ hi i v (by rw[avc];exact hv)
    have hS0:eG prog w (fZ w) ((s.heap.push {cls:=.type "set",dict:=none,data:=.set #[] 0 (.fresh 0 0 (fZ w))}).push oI) s.heap.objs.size (fun k'=>(firstMet (fun i=>ns.getD i 0) 0).any (·==k')) (firstMet (fun i=>ns.getD i 0) 0).length:=by
     have z:=(PyProof.Rows.setObjOf_fresh (knd:=intKind prog w) (fZ w)).setOf hS (by unfold scanBound;omega);obtain⟨o,es,ep,t,ho,x1,x2,x3,x4,x5,x6,x7⟩:=z;rw[hS] at ho;cases ho;cases x2;exact⟨_,_,_,_,auc _ hS,x1,rfl,x3,x4,x5,x6,x7,SetTable.abv _⟩
    refine PyProof.Rows.abB (led:=fZ w) W.toS s.heap.objs.size hSf (fun i=>ns.getD i 0) hval hb (items.size-0) 0 _ (by omega) (aul _) st hS0 fun s' hm hS'=>?_
    obtain⟨h',g',d',tk',os'⟩:=s';have eg:g'=s.gens:=hm.gens;have ed:d'=s.drawn:=hm.drawn;have eo:os'=s.os:=hm.os;subst eg;subst ed;subst eo;refine wpAny_pure ?_;show wpAny _ _ (ret auF) _ _ _;refine wpAny_pure ⟨rfl,h',tk',rfl,hS',fun b o hb' e=>?_⟩;have hb1:b≠s.heap.objs.size:=aun hb';have hb2:b≠(s.heap.push {cls:=.type "set",dict:=none,data:=.set #[] 0 (.fresh 0 0 (fZ w))}).objs.size:=by
     rw[auD];exact aun (avd hb')
    exact hm.heap b o (by simp only[at3,avu,or_false,not_or];exact⟨hb1,hb2⟩) (auc _ (auc _ e))
   ·cases r₂ with
    |error e=>exact hr₂
    |ok fl₂=>
     cases fl₂ with
     |ret r=>
      obtain⟨rfl,h',tk,rfl,hS',hk'⟩:=hr₂
      repeat (any_goals (first|assumption|wp_step))
      exact h _ _ hS' hk'
     |_=>exact hr₂.elim
  |_=>exact hr.elim
end
theorem abI:entryFor table "set.__iter__"=some Builtin.«frozenset.__iter__»:=
 entryFor_alias (id':="frozenset.__iter__") (by kernel_rfl) (by first|rfl|decide +kernel|(unfold String.splitOn;simp +decide [String.splitOnAux])) (by decide +kernel) (by kernel_rfl)
theorem lH:Slot "set_iterator" "__next__" "set_iterator.__next__":=
 .of (owner:="set_iterator") (n:="__next__") (by rw[typeLookup_type,builtinLookup_eq_fast];kernel_rfl) (by decide +kernel) (by decide +kernel) (by decide +kernel) (by first|exact .inl (by decide +kernel)|exact .inr (by decide +kernel)) (by rw[isSubtype_type];kernel_rfl)
theorem zJ:entryFor table "set_iterator.__next__"=some Builtin.«set_iterator.__next__»:=entryFor_of_tree (by kernel_rfl)
theorem zK(a:Value):argsOk "set_iterator.__next__" ⟨[a],[]⟩:=by
 unfold argsOk
 kernel_rfl
theorem abJ:typeLookup (.type "set") "__len__"=pure (some (.builtin "set.__len__")):=by rw[typeLookup_type,builtinLookup_eq_fast];kernel_rfl
theorem P0{α:Type}{l:List α}{i:Nat}(h:i<l.length):(l[i]::l.eraseIdx i).Perm l:=by
 have e:l=l.take i++l[i]::l.drop (i+1):=by rw[<-awP h,ayr]
 rw[List.eraseIdx_eq_take_drop_succ];exact(List.perm_middle.symm).trans (List.Perm.of_eq e.symm)
theorem Qa{α:Type}(next:Nat->Nat):∀(fuel k:Nat)(left:List α)(out:Array α),left.length=fuel->(pickOrder.go next fuel k left out).toList.Perm (out.toList++left)
 |0,k,left,out,h=>by
  have:left=[]:=awh h;subst this;unfold pickOrder.go;rw[avM]
 |fuel+1,k,left,out,h=>by
  unfold pickOrder.go;have hlt:next k%left.length<left.length:=axz _ (by omega);rw[atY hlt];dsimp only;refine(Qa next fuel (k+1) _ _ (by rw[ays,if_pos hlt,h];rfl)).trans ?_;rw[ayp,awz];exact List.Perm.append_left _ (P0 hlt)
theorem abK{α:Type}(next:Nat->Nat)(xs:Array α):(pickOrder next xs).toList.Perm xs.toList:=by
 unfold pickOrder;have:=Qa next xs.size 0 xs.toList #[] aut;simpa using this
section
variable{prog:Program}{w:World}{A:Around}{E:Value->Shared->Prop}
theorem Qc{α:Type}:∀(n:Nat)(xs:List α)(s:Shared)(Q:List α->Shared->Prop),xs.length=n->(∀ys d',ys.Perm xs->Q ys {s with drawn:=d'})->wpAny (model prog w) A (drawOrder n xs) Q E s
 |0,xs,s,Q,hl,h=>by
  have:xs=[]:=awh hl;subst this;unfold drawOrder;exact wpAny_pure (h [] s.drawn .rfl)
 |n+1,xs,s,Q,hl,h=>by
  cases xs with
  |nil=>simp at hl
  |cons x xs=>
   unfold drawOrder;refine wpAny_bind (fun Γ p hΓ=>?_);show _/\_;refine⟨by simp,?_⟩;have hlt:(model prog w).w.draws .order (s.drawn.get .order)%(x::xs).length<(x::xs).length:=axz _ (by simp);generalize hi:(model prog w).w.draws .order (s.drawn.get .order)%(x::xs).length=i at hlt;have key:wpAny (model prog w) A (match(x::xs)[i]? with
     |some x_1=>do
      let __do_lift<-drawOrder n ((x::xs).eraseIdx i)
      pure (x_1::__do_lift)
     |none=>unsupported "internal:drawOrder") Q E {s with drawn:=s.drawn.bump .order}:=by
    rw[atY hlt];refine wpAny_bind (Qc n _ _ _ (by rw[ays,if_pos hlt,hl];rfl) fun ys d' hp=>wpAny_pure (h _ d' ?_));exact(List.Perm.cons _ hp).trans (P0 hlt)
   exact key
variable{s:Shared}
abbrev jw(h:Heap)(I:Addr)(first:Value)(i:Nat)(S:Addr)(n ep:Nat):Prop:=h.get? I=some {cls:=.type "set_iterator",dict:=none,data:=.fields #[first,.int i 0,.ref S,.int n 0,.int ep 0],slots:= #[]}
structure gD(h:Heap)(S:Addr)(es:Array (Int×Value))(ep:Nat)(t:SetTable):Prop where
 there:∃o,h.get? S=some o/\o.data=.set es ep t
 fits:t.fits es.size=true
theorem gD.at{h h':Heap}{S:Addr}{es:Array (Int×Value)}{ep:Nat}{t:SetTable}(x:gD h S es ep t)(k:∀o,h.get? S=some o->h'.get? S=some o):gD h' S es ep t:=
 ⟨let⟨o,e,d⟩:=x.there;⟨o,k o e,d⟩,x.fits⟩
theorem gD.state{S:Addr}{es:Array (Int×Value)}{ep:Nat}{t:SetTable}{Q:(Array (Int×Value)×Nat×SetTable)->Shared->Prop}(x:gD s.heap S es ep t)(h:Q (es,ep,t) s):wpAny (model prog w) A (setState S) Q E s:=by
 obtain⟨o,e,d⟩:=x.there;exact wpAny_setState_of e d x.fits h
theorem gD.entries{S:Addr}{es:Array (Int×Value)}{ep:Nat}{t:SetTable}{Q:Array (Int×Value)->Shared->Prop}(x:gD s.heap S es ep t)(h:Q es s):wpAny (model prog w) A (setEntries S) Q E s:=by
 unfold setEntries;exact wpAny_bind (x.state (wpAny_pure h))
theorem Qe{α:Type}{Q:α->Shared->Prop}(hh:A.handled=none)(h:∀h' e,(∃o,h'.get? e=some o/\o.cls=.type "StopIteration")->(∀b o,s.heap.get? b=some o->h'.get? b=some o)->E (.ref e) {s with heap:=h'}):
  wpAny (model prog w) A (newExc (.type "StopIteration") []>>=fun x=>(raiseNew x:Sem α)) Q E s:=by
 refine wpAny_bind ?_;simp only[newExc,newTuple];refine wpAny_bind (wpAny_newObj_type ?_ (by size_fits));refine wpAny_bind (m:=firstArgMember _ _) (wpAny_of_eq (a:=auF) (by first|rfl|(simp only[firstArgMember];rfl)) ?_);refine wpAny_newObj_type ?_ (by size_fits);simp only[raiseNew];refine wpAny_bind (wpAny_handled ?_);rw[hh];refine wpAny_bind (wpAny_pure (wpAny_throw ?_));exact h _ _ ⟨_,auo _ rfl,rfl⟩ fun b o e=>auc _ (auc _ e)
theorem Qg{I S:Addr}{sl i n ep nx:Nat}{es:Array (Int×Value)}{t:SetTable}{v:Value}{Q:Option Value->Shared->Prop}(hI:jw s.heap I (.int sl 0) i S n ep)(x:gD s.heap S es ep t)(hn:es.size=n)
  (hnx:∀(A':Around)(E':Value->Shared->Prop)(Q':Option (Value×Nat)->Shared->Prop),Q' (some (v,nx)) s->wpAny (model prog w) A' (setNext S sl i ep) Q' E' s)
  (hQ:∀h',jw h' I (.int nx 0) (i+1) S n ep->auV I s.heap h'->Q (some v) {s with heap:=h'}):wpAny (model prog w) A (pyNext (.ref I)) Q E s:=by
 have hT:s.TypeIs (.ref I) "set_iterator":=⟨_,hI,rfl⟩;unfold pyNext;refine wpAny_bind (wpAny_attempt (wpAny_callSpecial?_slot (name:=au9 "__next__") hT lH (wpAny_call_entry lH hT zJ ?_ (zK _))));show wpAny _ _ (fieldsOf (.ref I)>>=_) _ _ s;refine wpAny_bind (wpAny_fieldsOf hI rfl ?_);show wpAny _ _ (setEntries S>>=_) _ _ s;refine wpAny_bind (x.entries ?_);rw[hn];simp only[bne_self_eq_false,auw,if_false];show wpAny _ _ (setNext S ((sl:Int).toNat) ((i:Int).toNat) ((ep:Int).toNat)>>=_) _ _ s;simp only[auh];refine wpAny_bind (hnx _ _ _ ?_);show wpAny _ _ (setField (.ref I) 0 (rawInt nx)>>=_) _ _ s;refine wpAny_bind (wpAny_setField_rec hI (by simp) fun h₁ h1 s1=>?_);refine wpAny_bind (wpAny_setField_rec h1 (by simp) fun h₂ h2 s2=>?_);refine wpAny_pure ⟨_,rfl,wpAny_pure (hQ h₂ ?_ (s1.trans s2))⟩;have e:((i+1:Nat):Int)=(i:Int)+1:=by omega
 unfold jw;rw[e];simpa[rawInt] using h2
theorem Qh{I S:Addr}{sl i n ep:Nat}{es:Array (Int×Value)}{t:SetTable}{Q:Option Value->Shared->Prop}(hh:A.handled=none)(hI:jw s.heap I (.int sl 0) i S n ep)(x:gD s.heap S es ep t)(hn:es.size=n)
  (hnx:∀(A':Around)(E':Value->Shared->Prop)(Q':Option (Value×Nat)->Shared->Prop),Q' none s->wpAny (model prog w) A' (setNext S sl i ep) Q' E' s)
  (hQ:∀h',(∀b o,b≠I->s.heap.get? b=some o->h'.get? b=some o)->Q none {s with heap:=h'}):wpAny (model prog w) A (pyNext (.ref I)) Q E s:=by
 have hT:s.TypeIs (.ref I) "set_iterator":=⟨_,hI,rfl⟩;unfold pyNext;refine wpAny_bind (wpAny_attempt (wpAny_callSpecial?_slot (name:=au9 "__next__") hT lH (wpAny_call_entry lH hT zJ ?_ (zK _))));show wpAny _ _ (fieldsOf (.ref I)>>=_) _ _ s;refine wpAny_bind (wpAny_fieldsOf hI rfl ?_);show wpAny _ _ (setEntries S>>=_) _ _ s;refine wpAny_bind (x.entries ?_);rw[hn];simp only[bne_self_eq_false,auw,if_false];show wpAny _ _ (setNext S ((sl:Int).toNat) ((i:Int).toNat) ((ep:Int).toNat)>>=_) _ _ s;simp only[auh];refine wpAny_bind (hnx _ _ _ ?_);show wpAny _ _ (setField (.ref I) 2 .none>>=_) _ _ s;refine wpAny_bind (wpAny_setField_rec hI (by simp) fun h₁ h1 s1=>?_);refine Qe (A:=A.in1) hh fun h' e he hk=>?_
 obtain⟨oe,hoe,hce⟩:=he;refine wpAny_bind (wpAny_isInstance (T:="StopIteration") (b:=true) ⟨oe,hoe,hce⟩ isSubtype_stop ?_);exact wpAny_pure (hQ h' fun b o hb q=>hk b o (s1.extBut b o hb q))
theorem abL{I S T:Addr}{i n ep pl:Nat}{places:Array Value}{es:Array (Int×Value)}{t:SetTable}{v:Value}{hsh:Int}{tk:Tok}{Q:Option Value->Shared->Prop}(hI:jw s.heap I (.ref T) i S n ep)(x:gD s.heap S es ep t)(hn:es.size=n)
  (hT':s.heap.IsTuple T places) (hp:places[i]?=some (.int pl tk)) (hv:es[pl]?=some (hsh,v))
  (hQ:∀h',jw h' I (.ref T) (i+1) S n ep->auV I s.heap h'->Q (some v) {s with heap:=h'}):wpAny (model prog w) A (pyNext (.ref I)) Q E s:=by
 have hT:s.TypeIs (.ref I) "set_iterator":=⟨_,hI,rfl⟩;obtain⟨oT,hoT,_,nT,hdT⟩:=hT';unfold pyNext;refine wpAny_bind (wpAny_attempt (wpAny_callSpecial?_slot (name:=au9 "__next__") hT lH (wpAny_call_entry lH hT zJ ?_ (zK _))));show wpAny _ _ (fieldsOf (.ref I)>>=_) _ _ s;refine wpAny_bind (wpAny_fieldsOf hI rfl ?_);show wpAny _ _ (setEntries S>>=_) _ _ s;refine wpAny_bind (x.entries ?_);rw[hn];simp only[bne_self_eq_false,auw,if_false];show wpAny _ _ (seqItems? (.ref T)>>=_) _ _ s;refine wpAny_bind (wpAny_seqItems hoT hdT ?_);dsimp only;rw[auh,hp];show wpAny _ _ (setNextDrawn S ((pl:Int).toNat) ((ep:Int).toNat)>>=_) _ _ s;rw[auh,auh];refine wpAny_bind ?_;unfold setNextDrawn;refine wpAny_bind (x.state ?_);dsimp only;simp only[bne_self_eq_false,auw,if_false];rw[hv];refine wpAny_pure ?_;show wpAny _ _ (setField (.ref I) 1 (rawInt ((i:Int)+1))>>=_) _ _ s;refine wpAny_bind (wpAny_setField_rec hI (by simp) fun h₁ h1 s1=>?_);refine wpAny_pure ⟨_,rfl,wpAny_pure (hQ h₁ ?_ s1)⟩;have e:((i+1:Nat):Int)=(i:Int)+1:=by omega
 unfold jw;rw[e];simpa[rawInt] using h1
theorem abM{I S T:Addr}{i n ep:Nat}{places:Array Value}{es:Array (Int×Value)}{t:SetTable}{Q:Option Value->Shared->Prop}(hh:A.handled=none)(hI:jw s.heap I (.ref T) i S n ep)(x:gD s.heap S es ep t)(hn:es.size=n)
  (hT':s.heap.IsTuple T places) (hp:places[i]?=none)
  (hQ:∀h',(∀b o,b≠I->s.heap.get? b=some o->h'.get? b=some o)->Q none {s with heap:=h'}):wpAny (model prog w) A (pyNext (.ref I)) Q E s:=by
 have hT:s.TypeIs (.ref I) "set_iterator":=⟨_,hI,rfl⟩;obtain⟨oT,hoT,_,nT,hdT⟩:=hT';unfold pyNext;refine wpAny_bind (wpAny_attempt (wpAny_callSpecial?_slot (name:=au9 "__next__") hT lH (wpAny_call_entry lH hT zJ ?_ (zK _))));show wpAny _ _ (fieldsOf (.ref I)>>=_) _ _ s;refine wpAny_bind (wpAny_fieldsOf hI rfl ?_);show wpAny _ _ (setEntries S>>=_) _ _ s;refine wpAny_bind (x.entries ?_);rw[hn];simp only[bne_self_eq_false,auw,if_false];show wpAny _ _ (seqItems? (.ref T)>>=_) _ _ s;refine wpAny_bind (wpAny_seqItems hoT hdT ?_);dsimp only;rw[auh,hp];show wpAny _ _ (setField (.ref I) 0 (rawInt 0)>>=_) _ _ s;refine wpAny_bind (wpAny_setField_rec hI (by simp) fun h₁ h1 s1=>?_);refine wpAny_bind (wpAny_setField_rec h1 (by simp) fun h₂ h2 s2=>?_);refine Qe (A:=A.in1) hh fun h' e he hk=>?_
 obtain⟨oe,hoe,hce⟩:=he;refine wpAny_bind (wpAny_isInstance (T:="StopIteration") (b:=true) ⟨oe,hoe,hce⟩ isSubtype_stop ?_);exact wpAny_pure (hQ h' fun b o hb q=>hk b o (s2.extBut b o hb (s1.extBut b o hb q)))
theorem Qi{S:Addr}{sl i ep:Nat}{es:Array (Int×Value)}{t:SetTable}{Q:Option (Value×Nat)->Shared->Prop}(x:gD s.heap S es ep t)(ht:w.params.followText "set-order"=true)
  (h:Q ((pickOrder (w.params.setOrder S ep) es)[i]?.map fun e=>(e.2,sl)) s):wpAny (model prog w) A (setNext S sl i ep) Q E s:=by
 have tx:∀{Q':Bool->Shared->Prop},Q' true s->wpAny (model prog w) A setsByText Q' E s:=fun{Q'} q=>by
  unfold setsByText;refine wpAny_bind (wpAny_askSetting (wpAny_pure ?_));show Q' (w.params.followText "set-order") s;rw[ht];exact q
 unfold setNext;refine wpAny_bind (x.state ?_);refine wpAny_bind (tx ?_);simp only[bne_self_eq_false,auw,if_false,if_true];refine wpAny_bind ?_;unfold setWalk;refine wpAny_bind (x.state ?_);refine wpAny_bind (tx ?_);simp only[if_true];refine wpAny_bind (wpAny_askSetting (wpAny_pure (wpAny_pure ?_)));exact h
theorem Qj{S:Addr}{sl i ep:Nat}{es:Array (Int×Value)}{t:SetTable}{Q:Option (Value×Nat)->Shared->Prop}(x:gD s.heap S es ep t)(ht:w.params.followText "set-order"=false)(hd:(!t.plain&&decide (es.size>1))=false)(hl:t.led=true)
  (h:Q (match es[SetTable.below t.place sl]?,t.place[SetTable.below t.place sl]? with|some (_,v),some j=>some (v,j+1)|_,_=>none) s):wpAny (model prog w) A (setNext S sl i ep) Q E s:=by
 have tx:∀{Q':Bool->Shared->Prop},Q' false s->wpAny (model prog w) A setsByText Q' E s:=fun{Q'} q=>by
  unfold setsByText;refine wpAny_bind (wpAny_askSetting (wpAny_pure ?_));show Q' (w.params.followText "set-order") s;rw[ht];exact q
 unfold setNext;refine wpAny_bind (x.state ?_);refine wpAny_bind (tx ?_);simp only[auw,if_false];show wpAny _ _ (if(!t.plain&&decide (es.size>1))=true then _ else _) _ _ s;rw[hd];simp only[auw,if_false];show wpAny _ _ ((if(!t.led&& !es.isEmpty)=true then unsupported "set:maker-not-led" else pure ())>>=_) _ _ s;rw[hl];simp only[avR,Bool.false_and,auw,if_false];exact wpAny_bind (wpAny_pure (wpAny_pure h))
end
namespace SetTable
def slotAt(p:Array Nat):Nat->Nat
 |0=>0
 |i+1=>p.toList.getD i 0+1
theorem below_at{p:Array Nat}(hr:qT p):∀i,i<=p.size->below p (slotAt p i)=i:=by
 intro i hi;obtain⟨h0,h1,h2⟩:=PK p (slotAt p i) hr;have hsz:p.toList.length=p.size:=aut;have gd:∀(j d d':Nat),j<p.toList.length->p.toList.getD j d=p.toList.getD j d':=fun j d d' hj=>by
  rw[at5,at5,atY hj];rfl
 apply avh;intro hne;rcases Nat.lt_or_ge (below p (slotAt p i)) i with hlt|hge
 ·have h3:=h2 _ (atX _) (by omega);cases i with
  |zero=>omega
  |succ i=>
   rw[gd _ _ 0 (by omega)] at h3;apply h3;show _<p.toList.getD i 0+1;by_cases e:below p (slotAt p (i+1))=i
   ·rw[e];omega
   ·have:=wX hr (show below p (slotAt p (i+1))<i by omega) (by omega) 0;omega
 ·have h3:=h1 i (by omega);have hil:i<p.toList.length:=by omega
  rw[gd _ _ 0 hil] at h3;cases i with
  |zero=>
   have:slotAt p 0=0:=rfl;omega
  |succ i=>
   have h4:=wX hr (show i<i+1 by omega) hil 0;have:slotAt p (i+1)=p.toList.getD i 0+1:=rfl;omega
theorem abN{p:Array Nat}(h:p.size<=1):qT p:=by
 show p.toList.Pairwise _;have hsz:p.toList.length=p.size:=aut
 match hl:p.toList with
 |[]=>exact ayo
 |[a]=>simp
 |a::b::l=>rw[hl] at hsz;simp at hsz;omega
end SetTable
section
variable{prog:Program}{w:World}{A:Around}{E:Value->Shared->Prop}{s:Shared}
structure abO(prog:Program)(w:World)(s:Shared)(S:Addr)(es:Array (Int×Value))(I:Addr)(h1:Heap)(vs:List Value):Prop where
 perm:vs.Perm (es.toList.map (·.2))
 new:s.heap.objs.size<=I
 kept:∀b o,s.heap.get? b=some o->h1.get? b=some o
 walk:∃(fp:List Addr)(St:Nat->Heap->Prop),(∀b∈fp,b<h1.objs.size/\(b=S\/s.heap.objs.size<=b))/\I∈fp/\St 0 h1/\∀A':Around,A'.handled=none->Walks prog w A' I fp [I] vs.length (fun i v=>vs[i]?=some v) St
theorem Gs{I S:Addr}{first:Value}{i n ep:Nat}{Q:Value->Shared->Prop}(hI:jw s.heap I first i S n ep)(h:Q (.ref I) s):wpAny (model prog w) A (pyIter (.ref I)) Q E s:=by
 have hT:s.TypeIs (.ref I) "set_iterator":=⟨_,hI,rfl⟩;have sl:Slot "set_iterator" "__iter__" "set_iterator.__iter__":=
  .of (owner:="set_iterator") (n:="__iter__") (by rw[typeLookup_type,builtinLookup_eq_fast];kernel_rfl) (by decide +kernel) (by decide +kernel) (by decide +kernel) (by first|exact .inl (by decide +kernel)|exact .inr (by decide +kernel)) (by rw[isSubtype_type];kernel_rfl)
 have en:entryFor table "set_iterator.__iter__"=some Builtin.«dict_keyiterator.__iter__»:=
  entryFor_alias (id':="dict_keyiterator.__iter__") (by kernel_rfl) (by first|rfl|decide +kernel|(unfold String.splitOn;simp +decide [String.splitOnAux])) (by decide +kernel) (by kernel_rfl)
 refine wpAny_pyIter_slot hT sl (wpAny_call_entry sl hT en ?_ (by unfold argsOk;kernel_rfl));show wpAny _ _ (ret (.ref I)) _ _ s;exact wpAny_pure ⟨_,rfl,"set_iterator",_,hT,lH.lookup,h⟩
theorem abP{S:Addr}{o:Obj}{es:Array (Int×Value)}{ep:Nat}{t:SetTable}{Q:Value->Shared->Prop}(ho:s.heap.get? S=some o)(hex:o.ExactSet)(hd:o.data=.set es ep t)(hf:t.fits es.size=true)(hg:SetTable.Good (fZ w) t)(hsz:es.size<scanBound)
  (h:∀I h1 d' vs,abO prog w s S es I h1 vs->Q (.ref I) {s with heap:=h1,drawn:=d'}):wpAny (model prog w) A (pyIter (.ref S)) Q E s:=by
 have hT:s.TypeIs (.ref S) "set":=⟨o,ho,hex.1⟩;have x:gD s.heap S es ep t:=⟨⟨o,ho,hd⟩,hf⟩;have hSl:S<s.heap.objs.size:=aua ho;have Gu:t.place.size=es.size:=by
  unfold SetTable.fits at hf;simp only[aup,beq_iff_eq] at hf;exact hf.1
 refine wpAny_pyIter_slot hT F.slot_set_iter (wpAny_call_entry F.slot_set_iter hT abI ?_ (F.args_set_iter_1 _));show wpAny _ _ (Builtin.Frozenset.sizeOf S>>=_) _ _ s;refine wpAny_bind ?_;unfold Builtin.Frozenset.sizeOf;refine wpAny_bind (x.entries (wpAny_pure ?_));refine wpAny_bind ?_;have dr:∀{Q':Bool->Shared->Prop},Q' (!(w.params.followText "set-order")&&(!t.plain&&decide (es.size>1))) s->wpAny (model prog w) A.in1 (setDrawn S) Q' E s:=fun{Q'} q=>by
  unfold setDrawn;refine wpAny_bind (x.state ?_);unfold setsByText;refine wpAny_bind (wpAny_bind (wpAny_askSetting (wpAny_pure ?_)));exact wpAny_pure q
 refine dr ?_;have mk:∀(s1:Shared)(first:Value)(Q':Value->Shared->Prop),gD s1.heap S es ep t->Q' (.ref s1.heap.objs.size) {s1 with heap:=s1.heap.push {cls:=.type "set_iterator",data:=.fields #[first,.int (0:Nat) 0,.ref S,.int es.size 0,.int ep 0]}}->
   wpAny (model prog w) A.in1 (do
    let e<-setEpoch S
    let it<-newFields "set_iterator" [first,rawInt 0,.ref S,rawInt es.size,rawInt e]
    ret it) (fun fin s'=>∃v,fin=.done (.ret v)/\Q' v s') E s1:=fun s1 first Q' x1 q=>by
  unfold setEpoch;refine wpAny_bind (wpAny_bind (x1.state (wpAny_pure ?_)));refine wpAny_bind ?_;unfold newFields;refine wpAny_newObj_type (wpAny_pure ⟨_,rfl,?_⟩);exact q
 have tn:∀(s1:Shared)(first:Value),Shared.TypeIs {s1 with heap:=s1.heap.push {cls:=.type "set_iterator",data:=.fields #[first,.int (0:Nat) 0,.ref S,.int es.size 0,.int ep 0]}} (.ref s1.heap.objs.size) "set_iterator":=fun s1 first=>⟨_,auo _ rfl,rfl⟩
 have hlen:(es.toList.map (·.2)).length=es.size:=by simp
 cases hb:(!(w.params.followText "set-order")&&(!t.plain&&decide (es.size>1))) with
 |false=>
  simp only[auw,if_false];refine wpAny_bind (wpAny_pure ?_);refine mk s (rawInt 0) _ x ⟨_,_,tn s _,lH.lookup,?_⟩;have hI0:jw (s.heap.push {cls:=.type "set_iterator",data:=.fields #[rawInt 0,.int (0:Nat) 0,.ref S,.int es.size 0,.int ep 0]}) s.heap.objs.size (.int (0:Nat) 0) 0 S es.size ep:=auo _ rfl;have x1:gD (s.heap.push {cls:=.type "set_iterator",data:=.fields #[rawInt 0,.int (0:Nat) 0,.ref S,.int es.size 0,.int ep 0]}) S es ep t:=x.at fun o e=>auc _ e
  have hfp:∀b∈[s.heap.objs.size,S],b<(s.heap.push {cls:=.type "set_iterator",data:=.fields #[rawInt 0,.int (0:Nat) 0,.ref S,.int es.size 0,.int ep 0]}).objs.size/\(b=S\/s.heap.objs.size<=b):=fun b hb=>by
   rw[auD];simp only[at3,avu,or_false] at hb;rcases hb with q|q
   ·rw[q];exact⟨avC _,.inr (atX _)⟩
   ·rw[q];exact⟨avd hSl,.inl rfl⟩
  have hne:S≠s.heap.objs.size:=aun hSl;cases ht:w.params.followText "set-order" with
  |true=>
   have hp:=abK (w.params.setOrder S ep) es;have hl2:((pickOrder (w.params.setOrder S ep) es).toList.map (·.2)).length=es.size:=by rw[atR,hp.length_eq,aut]
   refine h _ _ s.drawn ((pickOrder (w.params.setOrder S ep) es).toList.map (·.2)) ⟨hp.map _,atX _,fun b o e=>auc _ e,[s.heap.objs.size,S],fun i h'=>jw h' s.heap.objs.size (.int (0:Nat) 0) i S es.size ep/\gD h' S es ep t,hfp,by simp,⟨hI0,x1⟩,fun A' hh=>?_⟩;refine⟨by simp,fun i h1 h2 st k=>⟨k _ (by simp) _ st.1,st.2.at fun o e=>k S (by simp) o e⟩,fun i s1 Q1 E1 hi st hq=>?_,fun s1 Q1 E1 st hq=>?_,fun i s1 Q1 E1 st hq=>Gs st.1 hq⟩
   ·rw[hl2] at hi;have hi2:i<(pickOrder (w.params.setOrder S ep) es).toList.length:=by rw[hp.length_eq,aut];exact hi
    have e1:(pickOrder (w.params.setOrder S ep) es)[i]?=some ((pickOrder (w.params.setOrder S ep) es).toList[i]):=by rw[<-avc];exact atY hi2
    refine Qg (nx:=0) (v:=((pickOrder (w.params.setOrder S ep) es).toList[i]).2) st.1 st.2 rfl (fun A2 E2 Q2 q2=>Qi st.2 ht (by rw[e1];exact q2)) fun h' hI' sb=>?_
    refine hq _ h' s1.toks (by rw[aui,atY hi2];rfl) ⟨hI',st.2.at fun o e=>(sb.2 S hne).trans e⟩ fun b o hb e=>(sb.2 b (fun q=>hb (by simp[q]))).trans e
   ·rw[hl2] at st;refine Qh hh st.1 st.2 rfl (fun A2 E2 Q2 q2=>Qi st.2 ht ?_) fun h' hk=>hq h' s1.toks fun b o hb e=>hk b o (fun q=>hb (by simp[q])) e
    have:(pickOrder (w.params.setOrder S ep) es)[es.size]?=none:=by
     rw[<-avc];exact auY (by rw[hp.length_eq,aut];exact atX _)
    rw[this];exact q2
  |false=>
   rw[ht] at hb;have hb':(!t.plain&&decide (es.size>1))=false:=by simpa using hb
   have Qk:t.led=true:=by rw[hg.led];show(!(w.params.followText "set-order"))=true;rw[ht];rfl
   have hr:SetTable.qT t.place:=by
    cases hp:t.plain with
    |true=>exact hg.rise hp
    |false=>
     rw[hp] at hb';refine SetTable.abN ?_;have:¬es.size>1:=by simpa using hb'
     omega
   refine h _ _ s.drawn (es.toList.map (·.2)) ⟨.rfl,atX _,fun b o e=>auc _ e,[s.heap.objs.size,S],fun i h'=>jw h' s.heap.objs.size (.int (SetTable.slotAt t.place i) 0) i S es.size ep/\gD h' S es ep t,hfp,by simp,⟨hI0,x1⟩,fun A' hh=>?_⟩;refine⟨by simp,fun i h1 h2 st k=>⟨k _ (by simp) _ st.1,st.2.at fun o e=>k S (by simp) o e⟩,fun i s1 Q1 E1 hi st hq=>?_,fun s1 Q1 E1 st hq=>?_,fun i s1 Q1 E1 st hq=>Gs st.1 hq⟩
   ·rw[hlen] at hi;have hi2:i<es.toList.length:=by rw[aut];exact hi
    have e1:es[i]?=some (es.toList[i]):=by rw[<-avc];exact atY hi2
    have Ql:i<t.place.toList.length:=by rw[aut,Gu];exact hi
    have e2:t.place[i]?=some (t.place.toList[i]):=by rw[<-avc];exact atY Ql
    have eb:=SetTable.below_at hr i (by rw[Gu];omega);refine Qg (nx:=t.place.toList[i]+1) (v:=(es.toList[i]).2) st.1 st.2 rfl (fun A2 E2 Q2 q2=>Qj st.2 ht hb' Qk (by rw[eb,e1,e2];exact q2)) fun h' hI' sb=>?_
    refine hq _ h' s1.toks (by rw[aui,atY hi2];rfl) ⟨?_,st.2.at fun o e=>(sb.2 S hne).trans e⟩ fun b o hb e=>(sb.2 b (fun q=>hb (by simp[q]))).trans e
    have e3:SetTable.slotAt t.place (i+1)=t.place.toList[i]+1:=by
     show t.place.toList.getD i 0+1=_;rw[at5,atY Ql];rfl
    rw[e3];exact hI'
   ·rw[hlen] at st;refine Qh hh st.1 st.2 rfl (fun A2 E2 Q2 q2=>Qj st.2 ht hb' Qk ?_) fun h' hk=>hq h' s1.toks fun b o hb e=>hk b o (fun q=>hb (by simp[q])) e
    have eb:=SetTable.below_at hr es.size (by rw[Gu];exact atX _);rw[eb];have:es[es.size]?=none:=by simp
    rw[this];exact q2
 |true=>
  simp only[if_true];refine wpAny_bind (Qc es.size (atU es.size) s _ (by simp) fun ys d' hp=>?_);have hyl:ys.length=es.size:=by rw[hp.length_eq,au0]
  refine wpAny_bind (wpAny_newTuple ?_ (by rw[atR,hyl];exact fits_of_scanBound hsz));have hne0:S≠s.heap.objs.size:=aun hSl;have abQ:S≠s.heap.objs.size+1:=aun (avd hSl);have hT1:(s.heap.push {cls:=.type "tuple",data:=.seq (ys.map fun(i:Nat)=>rawInt i).toArray}).get? s.heap.objs.size=some {cls:=.type "tuple",data:=.seq (ys.map fun(i:Nat)=>rawInt i).toArray}:=auo _ rfl;have kp:∀b o,s.heap.get? b=some o->(s.heap.push {cls:=.type "tuple",data:=.seq (ys.map fun(i:Nat)=>rawInt i).toArray}).get? b=some o:=fun b o e=>auc _ e
  have sz:(s.heap.push {cls:=.type "tuple",data:=.seq (ys.map fun(i:Nat)=>rawInt i).toArray}).objs.size=s.heap.objs.size+1:=auD ..;refine mk {s with drawn:=d',heap:=s.heap.push {cls:=.type "tuple",data:=.seq (ys.map fun(i:Nat)=>rawInt i).toArray}} (.ref s.heap.objs.size) _ (x.at fun o e=>kp S o e) ⟨_,_,tn _ _,lH.lookup,?_⟩;generalize hH:s.heap.push {cls:=.type "tuple",data:=.seq (ys.map fun(i:Nat)=>rawInt i).toArray}=h0 at hT1 kp sz;generalize hI:h0.objs.size=I at sz;have hI0:jw (h0.push {cls:=.type "set_iterator",data:=.fields #[.ref s.heap.objs.size,.int (0:Nat) 0,.ref S,.int es.size 0,.int ep 0]}) I (.ref s.heap.objs.size) 0 S es.size ep:=by rw[<-hI];exact auo _ rfl
  have x1:gD (h0.push {cls:=.type "set_iterator",data:=.fields #[.ref s.heap.objs.size,.int (0:Nat) 0,.ref S,.int es.size 0,.int ep 0]}) S es ep t:=x.at fun o e=>auc _ (kp _ _ e)
  have t1:(h0.push {cls:=.type "set_iterator",data:=.fields #[.ref s.heap.objs.size,.int (0:Nat) 0,.ref S,.int es.size 0,.int ep 0]}).IsTuple s.heap.objs.size (ys.map fun(i:Nat)=>rawInt i).toArray:=⟨_,auc _ hT1,rfl,_,rfl⟩;have hge:∀i,i<es.size->∃pl hs v,ys[i]?=some pl/\es[pl]?=some (hs,v):=fun i hi=>by
   have h1:i<ys.length:=by rw[hyl];exact hi
   have h2:=hp.mem_iff.mp (au1 h1);have h3:=at4.mp h2;exact⟨ys[i],es[ys[i]].1,es[ys[i]].2,atY h1,by simp[h3]⟩
  have hvs:(ys.map fun pl=>(es.getD pl (0,.none)).2).Perm (es.toList.map (·.2)):=by
   have e1:es.toList.map (·.2)=(atU es.size).map fun pl=>(es.getD pl (0,.none)).2:=by
    apply av1
    ·simp
    ·intro i h1 h2;have h3:i<es.size:=by simpa using h2
     simp[avY,h3]
   rw[e1];exact hp.map _
  refine h _ _ d' (ys.map fun pl=>(es.getD pl (0,.none)).2) ⟨hvs,by rw[sz];exact awa _,fun b o e=>auc _ (kp b o e),[I,S,s.heap.objs.size],fun i h'=>jw h' I (.ref s.heap.objs.size) i S es.size ep/\gD h' S es ep t/\h'.IsTuple s.heap.objs.size (ys.map fun(i:Nat)=>rawInt i).toArray,fun b hb=>?_,by simp,⟨hI0,x1,t1⟩,fun A' hh=>?_⟩
  ·rw[auD,hI];simp only[at3,avu,or_false] at hb;rcases hb with q|q|q
   ·rw[q];exact⟨avC _,.inr (by rw[sz];exact awa _)⟩
   ·rw[q,sz];exact⟨avd (avd hSl),.inl rfl⟩
   ·rw[q,sz];exact⟨avd (avC _),.inr (atX _)⟩
  have hIS:S≠I:=by rw[sz];exact abQ
  have hIT:s.heap.objs.size≠I:=by rw[sz];exact aun (avC _)
  refine⟨by simp,fun i h1 h2 st k=>⟨k _ (by simp) _ st.1,st.2.1.at fun o e=>k S (by simp) o e,st.2.2.at fun o e=>k s.heap.objs.size (by simp) o e⟩,fun i s1 Q1 E1 hi st hq=>?_,fun s1 Q1 E1 st hq=>?_,fun i s1 Q1 E1 st hq=>Gs st.1 hq⟩
  ·rw[atR,hyl] at hi;obtain⟨pl,hs,v,e1,e2⟩:=hge i hi;have e3:(ys.map fun(i:Nat)=>rawInt i).toArray[i]?=some (.int (pl:Int) 0):=by simp[e1,rawInt]
   refine abL (pl:=pl) (hsh:=hs) (v:=v) st.1 st.2.1 rfl st.2.2 e3 e2 fun h' hI' sb=>?_
   refine hq _ h' s1.toks (by rw[aui,e1];simp[avY,e2]) ⟨hI',st.2.1.at fun o e=>(sb.2 S hIS).trans e,st.2.2.at fun o e=>(sb.2 _ hIT).trans e⟩ fun b o hb e=>(sb.2 b (fun q=>hb (by simp[q]))).trans e
  ·rw[atR,hyl] at st;have e3:(ys.map fun(i:Nat)=>rawInt i).toArray[es.size]?=none:=by simp[hyl]
   exact abM hh st.1 st.2.1 rfl st.2.2 e3 fun h' hk=>hq h' s1.toks fun b o hb e=>hk b o (fun q=>hb (by simp[q])) e
theorem abS{S:Addr}{Q:Bool->Shared->Prop}(hT:s.TypeIs (.ref S) "set")(h:Q false s):wpAny (model prog w) A (Builtin.List.listLengthHint (.ref S)) Q E s:=by
 unfold Builtin.List.listLengthHint;refine wpAny_bind (wpAny_specialOf hT abJ ?_);generalize hid:("set.__len__":String)=id0
 wp_delta
 rw[show splitId id0=some ("set","__len__") from by subst hid;decide +kernel];subst hid;refine wpAny_bind (wpAny_isInstance (T:="set") (b:=true) hT (by rw[isSubtype_type];kernel_rfl) ?_);refine wpAny_ite_split (fun hab=>absurd hab (by decide)) (fun _=>?_);refine wpAny_ite_split (fun _=>?_) (fun hab=>absurd (by decide +kernel) hab);refine wpAny_bind (wpAny_typeOf hT ?_);exact wpAny_pure h
theorem Qm:∀(vs:List Value),(∀v,v∈vs->∃z t,v=.int z t)->∃ns,IntsAre vs ns/\∀z:Int,z∈ns↔∃t,au6 z t∈vs
 |[],_=>⟨[],.nil,fun z=>by simp⟩
 |v::vs,h=>by
  obtain⟨z,t,rfl⟩:=h v (at7 ..);obtain⟨ns,h1,h2⟩:=Qm vs fun u hu=>h u (at8 _ hu)
  refine⟨z::ns,.cons z t h1,fun y=>?_⟩;rw[at3,h2 y];constructor
  ·rintro(rfl|⟨t',ht⟩)
   ·exact⟨t,at7 ..⟩
   ·exact⟨t',at8 _ ht⟩
  ·rintro⟨t',ht⟩;rcases at3.mp ht with e|ht
   ·cases e;exact .inl rfl
   ·exact .inr ⟨t',ht⟩
theorem eG.vals{led:Bool}{h:Heap}{S:Addr}{M:Int->Bool}{n:Nat}(x:eG prog w led h S M n):∃o es ep t,h.get? S=some o/\o.ExactSet/\o.data=.set es ep t/\t.fits es.size=true/\SetTable.Good led t/\es.size<scanBound/\es.size=n/\
  ∀vs:List Value,vs.Perm (es.toList.map (·.2))->∃ns,IntsAre vs ns/\∀z:Int,z∈ns↔M z=true:=by
 obtain⟨o,es,ep,t,ho,hex,hd,hel,hmem,hb,hf,hn,hg⟩:=x;refine⟨o,es,ep,t,ho,hex,hd,hf,hg,hb,hn,fun vs hp=>?_⟩;obtain⟨ns,h1,h2⟩:=Qm vs fun v hv=>by
  obtain⟨e,he,rfl⟩:=at6.mp (hp.mem_iff.mp hv);obtain⟨⟨k,hk,_⟩,_⟩:=hel e he;obtain⟨t,ht⟩:=aw6 (k:=k) (v:=e.2) hk;exact⟨k,t,ht⟩
 refine⟨ns,h1,fun z=>?_⟩;rw[h2 z,hmem z];constructor
 ·rintro⟨t,ht⟩;obtain⟨e,he,q⟩:=at6.mp (hp.mem_iff.mp ht);exact⟨e,he,by rw[q];exact intKind_is _ _ _ _⟩
 ·rintro⟨e,he,hk⟩;obtain⟨t,ht⟩:=aw6 (k:=z) (v:=e.2) hk;exact⟨t,hp.mem_iff.mpr (at6.mpr ⟨e,he,ht⟩)⟩
theorem abT{S:Addr}{M:Int->Bool}{n:Nat}{Q:List Value->Shared->Prop}(hh:A.handled=none)(x:eG prog w (fZ w) s.heap S M n)
  (h:∀vs ns h' d' tk,IntsAre vs ns->(∀z,z∈ns↔M z=true)->vs.length=n->s.heap.objs.size<=h'.objs.size->(∀b o,s.heap.get? b=some o->h'.get? b=some o)->Q vs {s with heap:=h',drawn:=d',toks:=tk}):wpAny (model prog w) A (collect (.ref S)) Q E s:=by
 obtain⟨o,es,ep,t,ho,hex,hd,hf,hg,hb,hn,hv⟩:=x.vals;have hSl:S<s.heap.objs.size:=aua ho;unfold collect;refine wpAny_bind (wpAny_runValue (codeAny_builtin ayl ?_));rw[Around.under_plainId aym _];show wpAny _ A.in1 (newList []>>=fun l=>again (.builtin "list.__iadd__" ⟨[l,.ref S],[]⟩)) _ _ s;refine wpAny_bind (wpAny_newObj_type ?_);refine wpAny_pure ⟨plainId_quiet awL _,codeAny_builtin F.entry_list_iadd ?_⟩;rw[Around.under_plainId awL _];have hL:(s.heap.push {cls:=.type "list",data:=.seq ([]:List Value).toArray}).get? s.heap.objs.size=some {cls:=.type "list",data:=.seq ([]:List Value).toArray}:=auo _ rfl;have k0:∀b o,s.heap.get? b=some o->(s.heap.push {cls:=.type "list",data:=.seq ([]:List Value).toArray}).get? b=some o:=fun b o e=>auc _ e
 have zL:(s.heap.push {cls:=.type "list",data:=.seq ([]:List Value).toArray}).objs.size=s.heap.objs.size+1:=auD ..;generalize hs0:s.heap.push {cls:=.type "list",data:=.seq ([]:List Value).toArray}=h0 at hL k0 zL;generalize Qn:s.heap.objs.size=L at hL zL hSl;have hT0:Shared.TypeIs {s with heap:=h0} (.ref S) "set":=⟨o,k0 _ _ ho,hex.1⟩;show wpAny _ A.in1 (Builtin.List.listExtendWith (.ref L) (.ref S) (.ref L)) _ _ _;unfold Builtin.List.listExtendWith;refine wpAny_bind (wpAny_typeOf hT0 ?_);have c1:Builtin.List.listSameRef (.ref L) (.ref S)=false:=by simp[Builtin.List.listSameRef,avL hSl]
 have c2:(auM "set"==auM "list")=false:=by decide
 have c3:(auM "set"==auM "tuple")=false:=by decide
 simp only[c1,c2,c3,axi,auw,if_false];refine wpAny_bind (abP (s:={s with heap:=h0}) (k0 _ _ ho) hex hd hf hg hb fun I h1 d' vs W=>?_);obtain⟨fp,St,hfp,hIf,st0,hW⟩:=W.walk;have hIL:L<I:=by have:=W.new;have e:({s with heap:=h0}:Shared).heap.objs.size=h0.objs.size:=rfl;rw[e,zL] at this;exact this
 have Qo:h1.get? L=some {cls:=.type "list",data:=.seq ([]:List Value).toArray}:=W.kept _ _ hL;have hT1:Shared.TypeIs {s with heap:=h1,drawn:=d'} (.ref S) "set":=⟨o,W.kept _ _ (k0 _ _ ho),hex.1⟩;refine wpAny_bind (wpAny_holding (abS hT1 ?_));show wpAny _ _ (rule "list.extend.makes-room">>=fun _=>Builtin.List.listTouch (.ref L)>>=fun _=>again (.builtin "list.extend.loop" ⟨[.ref L,.ref I,.ref L],[]⟩)) _ _ _;refine wpAny_bind (wpAny_rule ?_);refine wpAny_bind ?_;show wpAny _ _ (updateSeq L (·.push .none)>>=fun _=>updateSeq L (·.pop)) _ _ _;refine wpAny_bind (wpAny_updateSeq Qo rfl ?_);have hS₃:=avD (Obj.mapSeq (·.push auF)) Qo rfl;refine wpAny_updateSeq hS₃ rfl ?_;have hS₄:=avD (Obj.mapSeq (·.pop)) hS₃ rfl;have k4:∀b u,b≠L->h1.get? b=some u->((h1.update L (Obj.mapSeq (·.push auF))).update L (Obj.mapSeq (·.pop))).get? b=some u:=fun b u hb e=>
  (avr _ _ (Ne.symm hb)).trans ((avr _ _ (Ne.symm hb)).trans e)
 generalize hh4:(h1.update L (Obj.mapSeq (·.push auF))).update L (Obj.mapSeq (·.pop))=h4 at hS₄ k4;have hLf:L∉fp:=fun hm=>by
  have e:({s with heap:=h0}:Shared).heap.objs.size=h0.objs.size:=rfl;rcases(hfp L hm).2 with q|q
  ·exact aun hSl q.symm
  ·rw[e,zL] at q;exact Nat.not_succ_le_self _ q
 have hvl:vs.length=n:=by rw[W.perm.length_eq,atR,aut,hn]
 have hsl:vs.length<=sizeLine:=by rw[hvl,<-hn];exact fits_of_scanBound hb
 have WW:=hW A.in1 hh;obtain⟨c5,hS₅⟩:∃c,h4.get? L=some {cls:=.type "list",dict:=none,data:=.seq #[] c,slots:= #[]}:=⟨_,hS₄⟩
 have stL:St 0 h4:=WW.frame 0 h1 h4 st0 fun b hb o e=>k4 b o (fun q=>hLf (q▸hb)) e
 refine wpAny_pure ⟨plainId_quiet awg _,codeAny_extend_loopS WW.toS hsl L hLf (.ref L) vs.length 0 _ #[] c5 rfl (aul _) stL hS₅ (ItemsOf.nil _) fun s' acc' c' hm hS' hacc=>?_⟩;show wpAny _ A (load L>>=_) _ _ s';refine wpAny_bind (wpAny_load hS' ?_);have Gv:acc'.toList=vs:=by
  apply axA;intro j;by_cases hj:j<vs.length
  ·have h1:j<acc'.size:=by rw[hacc.1];exact hj
   have h2:=hacc.2 j acc'[j] (by simp[h1]);rw[avc,h2];simp[h1]
  ·rw[auY (l:=acc'.toList) (by rw[aut,hacc.1];omega),auY (l:=vs) (by omega)]
 refine wpAny_pure ?_;rw[Gv];obtain⟨ns,n1,n2⟩:=hv vs W.perm;obtain⟨hx',g',nJ,tk',os'⟩:=s';have eg:g'=s.gens:=hm.gens;have ed:nJ=d':=hm.drawn;have eo:os'=s.os:=hm.os;subst eg;subst ed;subst eo;refine h vs ns hx' nJ tk' n1 n2 hvl (by rw[Qn];exact avm (aua hS')) fun b o e=>?_
 have hbL:b<L:=by rw[<-Qn];exact aua e
 refine hm.heap b o (by simp only[at3,avu,or_false,not_or];exact⟨aun hbL,aun (awH hbL hIL)⟩) (k4 b o (aun hbL) (W.kept b o (k0 b o e)))
theorem abU{S:Addr}{M:Int->Bool}{n:Nat}{Q:Value->Shared->Prop}(hh:A.handled=none)(x:eG prog w (fZ w) s.heap S M n)(h64:n<64)
  (h:∀(L:Addr)(out:List Value)(c:Nat)(ns:List Int) h' d' tk,IntsAre out ns->(∀z,z∈ns↔M z=true)->ns.length=n->ns.Pairwise (·<=·)->s.heap.objs.size<=L->h'.get? L=some {cls:=.type "list",data:=.seq out.toArray c}->
   (∀b o,s.heap.get? b=some o->h'.get? b=some o)->Q (.ref L) {s with heap:=h',drawn:=d',toks:=tk}):wpAny (model prog w) A (call (.builtin "sorted") [.ref S]) Q E s:=by
 refine Calls.call_function_entry PyProof.Rows.kind_sorted PyProof.Rows.plain_sorted PyProof.Rows.entry_sorted (PyProof.Rows.args_sorted1 _) ?_;unfold Builtin.«sorted»;refine wpAny_bind (m:=checkCount "sorted" 1 1 _) (wpAny_pure ?_);refine wpAny_bind (abT (A:=A.in1) hh x fun vs ns h' d' tk n1 n2 n3 hsz k=>?_);refine wpAny_bind (wpAny_newList ?_);have hoL:(h'.push (awQ "list" vs.toArray 0)).get? h'.objs.size=some (awQ "list" vs.toArray 0):=auo _ rfl;have kk:∀b o,s.heap.get? b=some o->(h'.push (awQ "list" vs.toArray 0)).get? b=some o:=fun b o e=>auc _ (k b o e)
 show wpAny _ _ _ _ _ {s with heap:=h'.push (awQ "list" vs.toArray 0),drawn:=d',toks:=tk};refine wpAny_bind (wpAny_holding (wpAny_call_entry PyProof.Rows.slot_list_sort ⟨_,hoL,rfl⟩ PyProof.Rows.entry_list_sort (PyProof.Rows.list_sort_tree hoL n1 (by rw[n3];exact h64) fun out ns' m1 m2 m3=>⟨_,rfl,?_⟩) (PyProof.Rows.args_list_sort _)));obtain⟨ep,he'⟩:=PyProof.Rows.sortedHeap_at (vs:=vs) (out:=out) hoL;refine wpAny_pure ⟨_,rfl,?_⟩;refine h h'.objs.size out.toList ep ns' _ d' tk m1 (fun z=>by rw[m2.mem_iff];exact n2 z) (by rw[m2.length_eq,<-n1.length];exact n3) m3 hsz he' fun b o e=>?_
 have hb:b<h'.objs.size:=auG (aua e) hsz;rw[PyProof.Rows.sortedHeap_old (aun hb) (by rw[auD];exact avd hb)];exact kk b o e
end
end PySem
namespace L2
open PySem PySem.Spec PyProof.Rows
def pJ(P:Program)(w:World)(a:Addr)(M:Int->Bool)(n:Nat):HO:=.ext fun h=>eG P w (fZ w) h a M n
section
variable{X:Cx}
theorem Qp{pins:List (Addr×Obj)}{σ:St}{H:Hp}{s:Shared}{a:Addr}{M:Int->Bool}{n:Nat}(I:Inv X pins σ H s)(h:H a=some (pJ X.prog X.w a M n)):eG X.prog X.w (fZ X.w) s.heap a M n:=(I.hok a _ h).1
def dd(ns:List Int):List Int:=firstMet (fun i=>ns.getD i 0) ns.length
def Gw(P:Program)(w:World)(K:atQ):List V->Hp->VK->Prop:=fun xs H Q=>∃(p:Addr)(ns:List Int),xs=[.ref p]/\(ak K H p (ns.map V.int)\/bB K H p (ns.map V.int))/\(dd ns).length<1000/\
 ∀l,H l=none->Q (.ref l) (upd H l (pJ P w l (fun k=>(dd ns).any (·==k)) (dd ns).length))
theorem Qq(hc:X.calm=true):gO X (.type "set") (Gw X.prog X.w X.K):=by
 intro pins s σ H xs us Q I r h;obtain⟨p,ns,rfl,hq,hd,q⟩:=h;obtain⟨u,rfl,rx⟩:=nq r;cases rx;have hb:∀(items:Array Value),items.size=ns.length->(firstMet (fun i=>ns.getD i 0) items.size).length+1<scanBound:=fun items e=>by
  rw[e];have:(firstMet (fun i=>ns.getD i 0) ns.length).length<1000:=hd;unfold scanBound;omega
 have fin:∀(items:Array Value),items.size=ns.length->∀(h':Heap)(tk:Nat),eG X.prog X.w (fZ X.w) h' s.heap.objs.size (fun k'=>(firstMet (fun i=>ns.getD i 0) items.size).any (·==k')) (firstMet (fun i=>ns.getD i 0) items.size).length->
   (∀b o,b<s.heap.objs.size->s.heap.get? b=some o->h'.get? b=some o)->EP X pins σ Q (.ref s.heap.objs.size) {s with heap:=h',toks:=tk}:=fun items e h' tk hS hk=>by
  rw[e] at hS;have kp:∀b o,s.heap.get? b=some o->h'.get? b=some o:=fun b o z=>hk b o (aua z) z
  refine⟨.ref s.heap.objs.size,_,I.laid (t':=tk) kp (atX _) (o:=pJ X.prog X.w s.heap.objs.size (fun k=>(dd ns).any (·==k)) (dd ns).length) ⟨hS,?_,fun h1 h2 x k=>x.at k⟩,rfl,q _ (I.hok.fresh (atX _))⟩;obtain⟨o,_,_,_,ho,_⟩:=hS;exact⟨o,ho⟩
 rcases hq with hq|hq
 ·obtain⟨its,r',pl,hz⟩:=I.list hq;have hi:=r'.ints;have e:its.toArray.size=ns.length:=by rw[aum,<-r'.length,atR]
  exact PX (abF p its.toArray) (I.ok.hd hc) pl.isList (by simpa using hi) (hb _ e) (fin _ e)
 ·obtain⟨its,r',pl,hz⟩:=I.tuple hq;have hi:=r'.ints;have e:its.toArray.size=ns.length:=by rw[aum,<-r'.length,atR]
  exact PX (abG p its.toArray) (I.ok.hd hc) pl (by simpa using hi) (hb _ e) (fin _ e)
theorem abV:gO X (.builtin "len") (fun xs H Q=>∃a M n,xs=[V.ref a]/\H a=some (pJ X.prog X.w a M n)/\Q (.int (n:Nat)) H):=by
 intro pins s σ H xs us Q I r h;obtain⟨a,M,n,rfl,ha,q⟩:=h;obtain⟨u,rfl,ru⟩:=nq r;cases ru;obtain⟨o,es,ep,t,ho,hex,hd,_,_,hb,hf,hn,_⟩:=Qp I ha;have h63:(es.size:Int)<2^63:=by
  have:es.size<4096:=hb;omega
 refine call_len_set ho hex hd hf h63 ?_;rw[hn];exact⟨.int (n:Nat),H,I.tok _,⟨_,rfl⟩,q⟩
def Qs(P:Program)(w:World):List V->Hp->VK->Prop:=fun xs H Q=>∃(a:Addr)(M:Int->Bool)(n:Nat),xs=[V.ref a]/\H a=some (pJ P w a M n)/\n<64/\
 ∀(ns:List Int)(p:Addr),(∀z,z∈ns↔M z=true)->ns.length=n->ns.Pairwise (·<=·)->H p=none->Q (.ref p) (upd H p (.lst (ns.map V.int)))
theorem abW(hc:X.calm=true):gO X (.builtin "sorted") (Qs X.prog X.w):=by
 intro pins s σ H xs us Q I r h;obtain⟨a,M,n,rfl,ha,h64,q⟩:=h;obtain⟨u,rfl,ru⟩:=nq r;cases ru;refine abU (I.ok.hd hc) (Qp I ha) h64 fun L out c ns h' d' tk m1 m2 m3 m4 hL he kp=>?_
 have hlen:(ns.map V.int).length<=sizeLine:=by rw[atR,m3];exact Zq h64
 have new:cQ X.prog X.w (upd H L (.lst (ns.map V.int))) h' L (.lst (ns.map V.int)):=⟨hlen,out,c,Oj m1,he⟩;refine⟨.ref L,upd H L (.lst (ns.map V.int)),?_,rfl,q ns L m2 m3 m4 (I.hok.fresh hL)⟩;exact I.call' (ch:=[]) (s':={s with heap:=h',drawn:=d',toks:=tk}) rfl (Un.laid kp hL (I.hok.fresh hL)) (I.hok.laid kp hL new) I.bare (fun b hb=>by simp at hb)
end
end L2
namespace PySem
section
variable{prog:Program}{w:World}{K:Type}[DecidableEq K](knd:KeyKind prog w K)
inductive jx(h:Heap):List (List K)->List Value->Prop
 |nil:jx h [] []
 |cons {ks:List K} {b:Addr} {eN:List (List K)} {vs:List Value}:IsTupleKey knd h ks b->jx h eN vs->jx h (ks::eN) (.ref b::vs)
def iG(h:Heap)(eN:List (List K))(a:Addr):Prop:=∃o items n,h.get? a=some o/\o.cls=.type "tuple"/\o.data=.seq items n/\jx knd h eN items.toList
variable{knd}
theorem jx.inj{h:Heap}{x y:List (List K)}{vs:List Value}(hx:jx knd h x vs)(hy:jx knd h y vs):x=y:=by
 induction hx generalizing y with
 |nil=>cases hy;rfl
 |cons h1 _ ih=>
  cases hy with
  |cons h2 t2=>rw[h1.inj h2,ih t2]
theorem jx.keeps{h h':Heap}{eN:List (List K)}{vs:List Value}{d:Addr}{o:Obj}{es ep}(x:jx knd h eN vs)(ho:h.get? d=some o)(hd:o.data=.dict es ep)(hs:auV d h h'):jx knd h' eN vs:=by
 induction x with
 |nil=>exact .nil
 |cons h1 _ ih=>exact .cons (h1.keeps ho hd hs) ih
theorem iG.type{s:Shared}{eN:List (List K)}{a:Addr}(x:iG knd s.heap eN a):s.TypeIs (.ref a) "tuple":=let⟨o,_,_,ho,hc,_⟩:=x;⟨o,ho,hc⟩
theorem iG.inj{h:Heap}{a:Addr}{x y:List (List K)}(hx:iG knd h x a)(hy:iG knd h y a):x=y:=by
 obtain⟨o,items,n,ho,_,hd,hi⟩:=hx;obtain⟨o',items',n',ho',_,hd',hi'⟩:=hy;obtain rfl:o=o':=aub (ho.symm.trans ho');rw[hd] at hd';injection hd' with h1 _
 subst h1;exact hi.inj hi'
theorem iG.keeps{h h':Heap}{eN:List (List K)}{a d:Addr}{o:Obj}{es ep}(x:iG knd h eN a)(ho:h.get? d=some o)(hd:o.data=.dict es ep)(hs:auV d h h'):iG knd h' eN a:=by
 obtain⟨o',items,n,ho',hc,hd',hi⟩:=x;have hne:a≠d:=by
  rintro rfl;obtain rfl:o'=o:=aub (ho'.symm.trans ho);rw[hd] at hd';exact nomatch hd'
 exact⟨o',items,n,(hs.2 a hne).trans ho',hc,hd',hi.keeps ho hd hs⟩
def tH(eN:List (List K)):Nat:=(eN.map fun ks=>ks.length+1).sum
def Gx(knd:KeyKind prog w K)(eN:List (List K)):Int:=reduceHash (Builtin.Tuple.tupleHashOf (eN.map (tupleKeyHash knd)))
variable{A:Around}{E:Value->Shared->Prop}{s:Shared}
theorem abX{eN:List (List K)}{a:Addr}{Q:Int->Shared->Prop}(hu:A.units+1<cLine)(hk:iG knd s.heap eN a)(h:Q (Gx knd eN) {s with toks:=s.toks+(tH eN+1)}):
  wpAny (model prog w) A (pyHash (.ref a)) Q E s:=by
 have hT:=hk.type;obtain⟨o,items,n,ho,_,hd,hi⟩:=hk;unfold pyHash
 first|unfold pyHashByItsType|skip
 first|refine wpAny_bind (wpAny_cRoomFor_or (.inr (by omega)) ?_)|skip
 refine wpAny_bind (wpAny_specialOf hT awR.lookup ?_);show wpAny _ _ (if(some (Value.builtin "tuple.__hash__")==some auF)=true then _ else _) Q E s;rw[if_neg (by rw[beq_builtin_none];exact auq)];refine wpAny_bind (wpAny_specialOf hT awR.lookup ?_);show wpAny _ _ (callSpecialIfBoundUnlessNone? (.ref a) "__hash__" _>>=_) Q E s;refine wpAny_bind (wpAny_callSpecialIfBoundUnlessNone?_slot hT awR (wpAny_call_entry awR hT F.entry_tuple_hash ?_ (F.args_tuple_hash_1 _)));show wpAny _ _ (Builtin.Tuple.tupleItemsOf (.ref a)>>=_) _ _ s;refine wpAny_bind (wpAny_tupleItemsOf ho hd ?_);refine wpAny_bind ?_;rw[<-awf];refine wpAny_forIn_list _
  (fun rest (b:Array Int) s'=>∃done left,eN=done++left/\jx knd s.heap left rest/\b.toList=done.map (tupleKeyHash knd)/\s'={s with toks:=s.toks+tH done})
  _ ?_ ?_ _ _ ⟨[],eN,rfl,hi,rfl,rfl⟩
 ·rintro x rest b s' ⟨done,left,rfl,hl,hb,rfl⟩;cases hl with
  | @cons k c ks' _ h1 hl'=>
   refine wpAny_bind (wpAny_pyHash_tuple (s:={s with toks:=s.toks+tH done}) (show A.in1.units<cLine from hu) h1 ?_);have e1:tH (done++[k])=tH done+(k.length+1):=by unfold tH;simp
   first
    |exact wpAny_pure ⟨done++[k],ks',by simp,hl',by simp[hb],by rw[e1];simp[av0]⟩
    |exact wpAny_bind (wpAny_pure (wpAny_pure ⟨done++[k],ks',by simp,hl',by simp[hb],by rw[e1];simp[av0]⟩))
 ·rintro b s' ⟨done,left,rfl,hl,hb,rfl⟩;cases hl;rw[avM] at h;show wpAny _ _ (retInt (Builtin.Tuple.tupleHashOf b.toList)) _ _ _;rw[hb];refine wpAny_ret_mkInt ?_;generalize hH:Builtin.Tuple.tupleHashOf (done.map (tupleKeyHash knd))=hv;show wpAny _ _ (if(decide (-(2:Int)^63<=hv)&&decide (hv<2^63))=true then _ else _) Q E _;unfold Gx reduceHash at h;rw[hH] at h;by_cases hr:(decide (-(2:Int)^63<=hv)&&decide (hv<2^63))=true
  ·rw[if_pos hr];rw[if_pos hr] at h;exact wpAny_pure (by simpa[av0] using h)
  ·rw[if_neg hr];rw[if_neg hr] at h;exact wpAny_bind (wpAny_rule (wpAny_pure (by simpa[av0] using h)))
theorem abY{x y:List (List K)}{a b:Addr}{P:Fin->Shared->Prop}(hu:A.units<cLine)(hx:iG knd s.heap x a)(hy:iG knd s.heap y b)(h:P (.done (.ret (.bool (decide (x=y))))) s):
  wpAny (model prog w) A (Builtin.«tuple.__eq__» ⟨[.ref a,.ref b],[]⟩) P E s:=by
 have hTb:=hy.type;obtain⟨oa,xs,na,hoa,_,hda,hia⟩:=hx;obtain⟨ob,ys,nb,hob,_,hdb,hib⟩:=hy;show wpAny _ _ (isInstance (.ref b) (.type "tuple")>>=_) _ _ s;refine wpAny_bind (wpAny_isInstance hTb isSubtype_tuple_tuple ?_);simp only[avR,auw,if_false];refine wpAny_bind (wpAny_tupleItemsOf hoa hda ?_);refine wpAny_bind (wpAny_tupleItemsOf hob hdb ?_);refine wpAny_bind ?_;refine wpAny_forIn_list _
  (fun rest r s'=>r.1=none/\s'=s/\∃x' y' xs' ys',rest=avi xs' ys'/\jx knd s.heap x' xs'/\jx knd s.heap y' ys'/\decide (x'=y')=decide (x=y)/\(xs'.length==ys'.length)=(xs.size==ys.size))
  _ ?_ ?_ _ _ ⟨rfl,rfl,x,y,xs.toList,ys.toList,rfl,hia,hib,rfl,by simp⟩
 ·rintro⟨u,v⟩ rest r s' ⟨hr,rfl,x',y',xs',ys',hz,hx',hy',hdec,hlen⟩;cases hx' with
  |nil=>simp at hz
  | @cons k1 u' x'' xs'' h1 hx''=>
   cases hy' with
   |nil=>simp at hz
   | @cons k2 v' y'' ys'' h2 hy''=>
    simp only[ayt,List.cons.injEq,Prod.mk.injEq] at hz;obtain⟨⟨rfl,rfl⟩,rfl⟩:=hz;refine wpAny_bind (wpAny_eqBool_tuple hu h1 h2 ?_);by_cases hk:k1=k2
    ·subst hk;rw[decide_eq_true rfl];simp only[avR,auw,if_false];refine wpAny_pure ⟨rfl,rfl,x'',y'',xs'',ys'',rfl,hx'',hy'',?_,by simpa using hlen⟩;rw[<-hdec];by_cases hxy:x''=y''
     ·simp[hxy]
     ·simp[hxy]
    ·rw[decide_eq_false hk];simp only[Bool.not_false,if_true];have hf:decide (x=y)=false:=by rw[<-hdec];simp[hk]
     rw[hf] at h;exact wpAny_bind (wpAny_pure (wpAny_pure (wpAny_pure h)))
 ·rintro⟨r1,r2⟩ s' ⟨hr,rfl,x',y',xs',ys',hz,hx',hy',hdec,hlen⟩;simp only at hr;subst hr;refine wpAny_pure ?_;have hfin:(xs.size==ys.size)=decide (x=y):=by
   rw[<-hdec,<-hlen];cases hx' with
   |nil=>
    cases hy' with
    |nil=>simp
    |cons _ _=>simp
   |cons _ _=>
    cases hy' with
    |nil=>simp
    |cons _ _=>simp at hz
  show P (.done (.ret (.bool (xs.size==ys.size)))) s';rw[hfin];exact h
theorem abZ{x y:List (List K)}{a b:Addr}{Q:Bool->Shared->Prop}(hu:A.units+1<cLine)(hx:iG knd s.heap x a)(hy:iG knd s.heap y b)(h:Q (decide (x=y)) s):wpAny (model prog w) A (eqBool (.ref a) (.ref b)) Q E s:=by
 unfold eqBool
 try with_reducible refine wpAny_holding ?_
 show wpAny _ _ (if(aue a==aue b)=true then _ else _) Q E s;by_cases hab:(aue a==aue b)=true
 ·rw[if_pos hab];have e:a=b:=by have:=eq_of_beq hab;injection this
  subst e;obtain rfl:=hx.inj hy;exact wpAny_bind (wpAny_rule (wpAny_pure (by simpa using h)))
 ·rw[if_neg hab];exact wpAny_bind (wpAny_richCompare_same_room (op:=.Eq) hx.type hy.type awS
   (wpAny_call_entry awS hx.type F.entry_tuple_eq (abY (show A.in1.units<cLine from hu) hx hy ⟨_,rfl,(fun e=>nomatch e),wpAny_truthy_bool h⟩) (F.args_tuple_eq_2 _ _)) (by omega))
theorem ab0(d:Nat){ks:List K}{a:Addr}{Q:Bool->Shared->Prop}(hk:IsTupleKey knd s.heap ks a)(h:Q true s):wpAny (model prog w) A (eqIsQuiet (d+1) (.ref a)) Q E s:=by
 have hT:=hk.typeIs;obtain⟨o,items,n,ho,_,hd,hi⟩:=hk;unfold eqIsQuiet;refine wpAny_bind (wpAny_specialOf hT awS.lookup ?_);show wpAny _ _ (isInstance (.ref a) (.type "tuple")>>=_) _ _ s;refine wpAny_bind (wpAny_isInstance hT isSubtype_tuple_tuple ?_);simp only[avR,auw,if_false];refine wpAny_bind (wpAny_seqItems ho hd ?_);refine wpAny_bind ?_;show wpAny _ _ (forIn items _ _) _ _ s;rw[<-awf];refine wpAny_forIn_list _ (fun rest r s'=>r.1=none/\s'=s/\∀v∈rest,carriedByValue v=true) _ ?_ ?_ _ _ ⟨rfl,rfl,hi.byValue⟩
 ·rintro v rest r s' ⟨hr,rfl,hall⟩;rw[eqIsQuiet_byValue _ (hall v at7)];refine wpAny_bind (wpAny_pure ?_);simp only[avR,auw,if_false];exact wpAny_pure ⟨rfl,rfl,fun u hu'=>hall u (at8 _ hu')⟩
 ·rintro⟨r1,r2⟩ s' ⟨hr,rfl,_⟩;simp only at hr;subst hr;exact wpAny_pure h
theorem ab1{eN:List (List K)}{a:Addr}{Q:Bool->Shared->Prop}(hk:iG knd s.heap eN a)(h:Q true s):wpAny (model prog w) A (eqIsQuiet 8 (.ref a)) Q E s:=by
 have hT:=hk.type;obtain⟨o,items,n,ho,_,hd,hi⟩:=hk;unfold eqIsQuiet;refine wpAny_bind (wpAny_specialOf hT awS.lookup ?_);show wpAny _ _ (isInstance (.ref a) (.type "tuple")>>=_) _ _ s;refine wpAny_bind (wpAny_isInstance hT isSubtype_tuple_tuple ?_);simp only[avR,auw,if_false];refine wpAny_bind (wpAny_seqItems ho hd ?_);refine wpAny_bind ?_;show wpAny _ _ (forIn items _ _) _ _ s;rw[<-awf];refine wpAny_forIn_list _ (fun rest r s'=>r.1=none/\s'=s/\∃left,jx knd s.heap left rest) _ ?_ ?_ _ _ ⟨rfl,rfl,eN,hi⟩
 ·rintro v rest r s' ⟨hr,rfl,left,hl⟩;cases hl with
  |cons h1 hl'=>
   refine wpAny_bind (ab0 6 h1 ?_);simp only[avR,auw,if_false];exact wpAny_pure ⟨rfl,rfl,_,hl'⟩
 ·rintro⟨r1,r2⟩ s' ⟨hr,rfl,_⟩;simp only at hr;subst hr;exact wpAny_pure h
end
def zM{prog:Program}{w:World}{K:Type}[DecidableEq K](knd:KeyKind prog w K):HeapKind prog w (List (List K)) where
 is:=iG knd
 hash:=Gx knd
 draws:=fun eN=>tH eN+1
 room:=fun A=>A.units+1<cLine
 inj:=fun hx hy=>hx.inj hy
 keeps:=fun x ho hd hs=>x.keeps ho hd hs
 pyHash:=fun hu hk h=>abX hu hk h
 eqBool:=fun hu hx hy h=>abZ hu hx hy h
 quiet:=fun hk h=>ab1 hk h
end PySem
namespace L2
open PySem PySem.Spec PyProof.Rows
abbrev NK:=List (List bc)
def je(xs:List (NK×Addr)):List (NK×Addr×Value):=xs.map fun x=>(x.1,x.2,awr true)
def qU(P:Program)(w:World)(a:Addr)(xs:List (NK×Addr))(h:Heap):Prop:=
 (a==sysModules)=false/\∃o es ep,h.get? a=some o/\o.ExactDict/\o.data=.dict es ep/\es.toList=(je xs).map (entryOfKey (zM (fX P w)))/\(xs.map (·.1)).Nodup
def lJ(P:Program)(w:World)(a:Addr)(xs:List (NK×Addr)):HO:=.ext (qU P w a xs)
theorem qU.stay{P:Program}{w:World}{a:Addr}{xs:List (NK×Addr)}{h h':Heap}(x:qU P w a xs h)(k:∀o,h.get? a=some o->h'.get? a=some o):qU P w a xs h':=by
 obtain⟨h1,o,es,ep,ho,r⟩:=x;exact⟨h1,o,es,ep,k o ho,r⟩
theorem qU.ok{P:Program}{w:World}{H:Hp}{a:Addr}{xs:List (NK×Addr)}{h:Heap}(x:qU P w a xs h):cQ P w H h a (lJ P w a xs):=by
 refine⟨x,?_,fun h1 h2 x k=>x.stay k⟩;obtain⟨_,o,_,_,ho,_⟩:=x;exact⟨o,ho⟩
structure wY(H:Hp)(b:Addr)(k1 k2:List bc):Prop where
 ex:∃u v,H b=some (.tup [.ref u,.ref v])/\H u=some (.tup (k1.map kV))/\H v=some (.tup (k2.map kV))
theorem wY.nest{P:Program}{w:World}{H:Hp}{h:Heap}{b:Addr}{k1 k2:List bc}(ok:cC P w H h)(x:wY H b k1 k2):iG (fX P w) h [k1,k2] b:=by
 obtain⟨u,v,e1,e2,e3⟩:=x.ex;obtain⟨_,its,r,o,h1,h2,n,h3⟩:=(show cQ P w H h b (.tup [.ref u,.ref v]) from ok b _ e1);refine⟨o,its.toArray,n,h1,h2,h3,?_⟩;cases r with
 |cons r1 r=>
  cases r with
  |cons r2 r=>
   cases r;cases r1;cases r2;exact .cons (tu ok e2) (.cons (tu ok e3) .nil)
section
variable{X:Cx}
def Qt(P:Program)(w:World):TE:=fun _ H Q=>∀p,H p=none->Q (.ref p) (upd H p (lJ P w p []))
theorem ab2{pos:Pos}:PE X (.Dict [] [] pos) (Qt X.prog X.w):=fun pins s σ H Q I h=>by
 refine wpAny_Dict_empty ⟨.ref s.heap.objs.size,_,I.laid (a:=s.heap.objs.size) (o:=lJ X.prog X.w s.heap.objs.size []) (t':=s.toks) (fun _ _ q=>auc _ q) (atX _) (qU.ok ⟨?_,_,#[],0,auo _ rfl,⟨rfl,rfl,rfl⟩,rfl,rfl,awI⟩),rfl,h _ (I.hok.fresh (atX _))⟩;obtain⟨_,z,_⟩:=O6 (P:=X.prog) (w:=X.w) (H:=H) s.heap I.big;exact z
def uX(H:Hp)(xs:List (NK×Addr)):Prop:=∀x,x∈xs->∃k1 k2,x.1=[k1,k2]/\wY H x.2 k1 k2
def pK(xs:List (NK×Addr))(k:NK)(b:Addr):List (NK×Addr):=if(xs.any fun x=>decide (x.1=k))=true then xs else xs++[(k,b)]
theorem ab3(xs:List (NK×Addr))(k:NK)(b:Addr):storedH (je xs) k b (.bool true)=je (pK xs k b):=by
 have hf:∀ys:List (NK×Addr),((je ys).find? fun x=>decide (x.1=k)).isSome=(ys.any fun x=>decide (x.1=k)):=by
  intro ys
  induction ys with
  |nil=>rfl
  |cons y ys ih=>
   show((_::je ys).find? _).isSome=_;rw[avt,awF];show(match decide (y.1=k) with|true=>some _|false=>(je ys).find? _).isSome=(decide (y.1=k)||_);cases decide (y.1=k) with
   |true=>rfl
   |false=>rw[Bool.false_or];exact ih
 unfold storedH pK atKey;rw[axp,hf]
 split
 ·unfold je;rw[auS];apply avv;intro x _;unfold putAt;dsimp only[avS]
  split<;>rfl
 ·unfold je;rw[auO];rfl
def Qu(P:Program)(w:World):V->V->V->Hp->(Hp->Prop)->Prop:=fun o i v H Q=>∃(a b:Addr)(xs:List (NK×Addr))(k1 k2:List bc),o=.ref a/\i=.ref b/\v=.bl true/\H a=some (lJ P w a xs)/\uX H xs/\wY H b k1 k2/\xs.length<sizeLine/\
 Q (upd H a (lJ P w a (pK xs [k1,k2] b)))
theorem ab4(hu:X.A.units+2<cLine):wu X (Qu X.prog X.w):=by
 intro pins s σ H o i v ov iv u Q I ro ri rv h;obtain⟨a,b,xs,k1,k2,rfl,rfl,rfl,ha,hk,hp,hl,q⟩:=h;cases ro;cases ri;cases rv;obtain⟨⟨hd,ob,es,ep,ho,hc,hdat,hes,hn⟩,_⟩:=I.hok a _ ha;have dd:s.heap.DictOfH (zM (fX X.prog X.w)) a (je xs):=by
  refine⟨ob,es,ep,ho,hc,hdat,hes,fun x hx=>?_,by unfold je;rw[auS];exact hn⟩;unfold je at hx;obtain⟨y,hy,rfl⟩:=at6.mp hx;obtain⟨j1,j2,e1,hp1⟩:=hk y hy;show iG (fX X.prog X.w) s.heap y.1 y.2;rw[e1];exact hp1.nest I.hok
 refine wpAny_setItem_heap (knd:=zM (fX X.prog X.w)) (hsz:=by unfold je;rw[atR];exact avm hl) (show X.A.in1.units+1<cLine from by show X.A.units+1+1<cLine;omega) (hp.nest I.hok) dd fun h' nJ hs=>⟨_,?_,q⟩
 rw[ab3] at nJ;obtain⟨o2,es2,ep2,q1,q2,q3,q4,_,q5⟩:=nJ;refine Fz I (by rw[ha];exact True.intro) hs ⟨o2,q1⟩ (qU.ok ⟨hd,o2,es2,ep2,q1,q2,q3,q4,?_⟩);unfold je at q5;rw[auS] at q5;exact q5
theorem ab6{prog:Program}{w:World}{d:Addr}{es:Array DictEntry}{ep:Nat}(hd:(d==sysModules)=false):PySem.W.KdlSrc prog w "dict" d d es.size (fun i v=>(es[i]?).map (·.key)=some v) (fun h=>∃o,h.get? d=some o/\o.ExactDict/\o.data=.dict es ep) where
 type:=fun s ⟨o,ho,hc,_⟩=>⟨o,ho,hc.1⟩
 there:=fun h ⟨o,ho,_⟩=>⟨aua ho,aua ho⟩
 keep:=fun h h' ⟨o,ho,r⟩ k=>⟨o,k d (.inl rfl) o ho,r⟩
 notList:=by decide
 notTuple:=by decide
 hint:=fun A E s Q ⟨o,ho,hc,_⟩ hq=>PySem.W.kdl_hint_dict ⟨o,ho,hc.1⟩ hq
 iter:=fun A s hh ⟨o,ho,hc,hdat⟩=>by
  have hlt:d<s.heap.objs.size:=aua ho;refine⟨_,fun i h=>h.IsKeyIter s.heap.objs.size d i es.size ep/\∃o,h.get? d=some o/\o.ExactDict/\o.data=.dict es ep,fun E Q hq=>aas hd ho hc hdat hq,?_,⟨_,auo _ rfl,rfl,rfl⟩,o,auc _ ho,hc,hdat⟩;have hne:d≠s.heap.objs.size:=aun hlt;refine⟨by simp,fun i h h' st k=>⟨st.1.at fun o e=>k _ (by simp) o e,let⟨o,e,r⟩:=st.2;⟨o,k d (by simp) o e,r⟩⟩,fun i s1 Q1 E1 hi st hq=>?_,fun s1 Q1 E1 st hq=>?_,fun i s1 Q1 E1 st hq=>wpAny_pyIter_keyiter st.1 hq⟩
  ·obtain⟨h1,o1,ho1,hc1,hd1⟩:=st;refine aat (en:=es[i]) h1 ho1 hd1 rfl (by simp[hi]) fun h' hit' sb=>?_
   exact hq _ h' s1.toks (by simp[hi]) ⟨hit',o1,(sb.2 d hne).trans ho1,hc1,hd1⟩ fun b o hb e=>(sb.2 b (fun q=>hb (by simp[q]))).trans e
  ·obtain⟨h1,o1,ho1,hc1,hd1⟩:=st;exact aau hh h1 ho1 hd1 rfl (atX _) fun h' hk=>hq h' s1.toks fun b o hb e=>hk b o (fun q=>hb (by simp[q])) e
theorem ab7(hc:X.calm=true):gO X (.type "list") (fun vs H Q=>∃(a:Addr)(xs:List (NK×Addr)),vs=[.ref a]/\H a=some (lJ X.prog X.w a xs)/\xs.length<=sizeLine/\∀l,H l=none->Q (.ref l) (upd H l (.lst (xs.map fun x=>V.ref x.2)))):=by
 intro pins s σ H vs us Q I r h;obtain⟨a,xs,rfl,ha,hl,q⟩:=h;obtain⟨u,rfl,rx⟩:=nq r;cases rx;obtain⟨⟨hd,ob,es,ep,ho,hcx,hdat,hes,hn⟩,_⟩:=I.hok a _ ha;have hsz:es.size=xs.length:=by rw[<-aut,hes,atR];unfold je;rw[atR]
 refine PySem.W.kdl_call (ab6 (ep:=ep) hd) (I.ok.hd hc) ⟨ob,ho,hcx,hdat⟩ (by rw[hsz];exact hl) fun h' tk acc' c' kp e3 hacc=>?_
 have Gv:acc'=(xs.map fun x=>aue x.2).toArray:=by
  apply Array.ext_getElem?;intro j;by_cases hj:j<xs.length
  ·have h1:j<acc'.size:=by rw[hacc.1,hsz];exact hj
   have h2:=hacc.2 j acc'[j] (by simp[h1]);have h3:es[j]?=some (entryOfKey (zM (fX X.prog X.w)) ((xs[j]).1,(xs[j]).2,awr true)):=by
    rw[<-avc,hes];unfold je;simp[hj]
   have h2:(es[j]?).map (·.key)=some acc'[j]:=h2;rw[h3] at h2;have h4:aue (xs[j]).2=acc'[j]:=aub h2;simp[h1,hj,<-h4]
  ·have h1:acc'[j]?=none:=by simp[hacc.1,hsz];omega
   rw[h1,aye (by rw[aum,atR];omega)]
 have rv:∀ys:List (NK×Addr),Vals (ys.map fun x=>V.ref x.2) (ys.map fun x=>aue x.2):=by
  intro ys
  induction ys with
  |nil=>exact .nil
  |cons y ys ih=>exact .cons rfl ih
 have new:cQ X.prog X.w (upd H s.heap.objs.size (.lst (xs.map fun x=>V.ref x.2))) h' s.heap.objs.size (.lst (xs.map fun x=>V.ref x.2)):=⟨by rw[atR];exact hl,xs.map fun x=>aue x.2,c',rv xs,by rw[<-Gv];exact e3⟩;exact⟨.ref s.heap.objs.size,_,I.laid (t':=tk) kp (atX _) new,rfl,q _ (I.hok.fresh (atX _))⟩
end
open PySem.W (WData Codec OpenSpec Well WellAll ReadsW ReadsAllW)
mutual
inductive Dw(K:atQ)(H:Hp):V->WData->Prop
 |non:Dw K H .non .none
 |bl (b:Bool):Dw K H (.bl b) (.bool b)
 |int (i:Int):Dw K H (.int i) (.int i)
 |str (x:Str):Dw K H (.str x) (.str x)
 |gM (b:Array UInt8):Dw K H (.gM b) (.bytes b.toList)
 |lst {a:Addr} {xs:List V} {ds:List WData}:ak K H a xs->jZ K H xs ds->Dw K H (.ref a) (.list ds)
 |tup {a:Addr} {xs:List V} {ds:List WData}:bB K H a xs->jZ K H xs ds->Dw K H (.ref a) (.tuple ds)
inductive jZ(K:atQ)(H:Hp):List V->List WData->Prop
 |nil:jZ K H [] []
 |cons {v:V} {vs:List V} {d:WData} {ds:List WData}:Dw K H v d->jZ K H vs ds->jZ K H (v::vs) (d::ds)
end
theorem Qv{K:atQ}{H:Hp}:∀ns:List Int,jZ K H (ns.map V.int) (ns.map WData.int)
 |[]=>.nil
 |n::r=>.cons (.int n) (Qv r)
theorem Qw{K:atQ}{H:Hp}:∀(ns:List Int)(xs:List V),jZ K H xs (ns.map WData.int)->xs=ns.map V.int
 |[],xs,h=>by
  cases h;rfl
 |n::r,xs,h=>by
  cases h with
  |cons h1 h2=>
   cases h1;rw[Qw r _ h2]<;>rfl
section
variable{P:Program}{w:World}{K:atQ}{H:Hp}{h:Heap}{R:ayu}{cl:Str->Option Addr}
theorem ab8{a:Addr}{xs:List V}(hok:cC P w H h)(KX:K.In h)(q:ak K H a xs):∃(its:List Value)(o:Obj)(n:Nat),Vals xs its/\h.get? a=some o/\o.cls=.type "list"/\o.data=.seq its.toArray n:=by
 rcases q with q|⟨o,its,n,e,hc,_,hd,_,hv⟩
 ·obtain⟨_,its,n,hv,e⟩:=(show cQ P w H h a (.lst xs) from q.ok hok);exact⟨its,_,n,hv,e,rfl,rfl⟩
 ·exact⟨its.toList,o,n,hv,KX _ _ e,hc,by simp[hd]⟩
theorem ab9{a:Addr}{xs:List V}(hok:cC P w H h)(KX:K.In h)(q:bB K H a xs):∃(its:List Value)(o:Obj)(n:Nat),Vals xs its/\h.get? a=some o/\o.cls=.type "tuple"/\o.data=.seq its.toArray n:=by
 rcases q with q|⟨o,its,n,e,hc,hd,_,hv⟩
 ·obtain⟨_,its,hv,o,e,hc,n,hd⟩:=(show cQ P w H h a (.tup xs) from q.ok hok);exact⟨its,o,n,hv,e,hc,hd⟩
 ·exact⟨its.toList,o,n,hv,KX _ _ e,hc,by simp[hd]⟩
mutual
theorem Dw.reads(hok:cC P w H h)(KX:K.In h):∀(d:WData)(v:V)(u:Value),Dw K H v d->RelV v u->∃as,ReadsW R cl h u d as
 |.none,_,_,x,r=>by
  cases x;cases r;exact⟨_,ReadsW.none⟩
 |.bool b,_,_,x,r=>by
  cases x;cases r;exact⟨_,ReadsW.bool b⟩
 |.int i,_,_,x,r=>by
  cases x;obtain⟨t,rfl⟩:=r;exact⟨_,ReadsW.int i t⟩
 |.str s,_,_,x,r=>by
  cases x;obtain⟨t,rfl⟩:=r;exact⟨_,ReadsW.str s t⟩
 |.bytes b,_,_,x,r=>by
  cases x;obtain⟨t,rfl⟩:=r;exact⟨_,ReadsW.bytes _ t⟩
 |.list ds,_,_,x,r=>by
  cases x with
  |lst hs ha=>
   cases r;obtain⟨its,o,n,rv,ho,hc,hd⟩:=ab8 hok KX hs;obtain⟨as,hr⟩:=Dw.readsAll hok KX ds _ its ha rv;exact⟨_,ReadsW.list ho hc hd hr⟩
 |.tuple ds,_,_,x,r=>by
  cases x with
  |tup hs ha=>
   cases r;obtain⟨its,o,n,rv,ho,hc,hd⟩:=ab9 hok KX hs;obtain⟨as,hr⟩:=Dw.readsAll hok KX ds _ its ha rv;exact⟨_,ReadsW.tuple ho hc hd hr⟩
 |.float _,_,_,x,_=>by cases x
 |.dict _,_,_,x,_=>by cases x
 |.bytearray _,_,_,x,_=>by cases x
 |.set _,_,_,x,_=>by cases x
 |.frozenset _,_,_,x,_=>by cases x
 |.obj _ _,_,_,x,_=>by cases x
theorem Dw.readsAll(hok:cC P w H h)(KX:K.In h):∀(ds:List WData)(vs:List V)(us:List Value),jZ K H vs ds->Vals vs us->∃as,ReadsAllW R cl h us ds as
 |[],_,_,x,r=>by
  cases x;cases r;exact⟨_,ReadsAllW.nil⟩
 |d::ds,_,_,x,r=>by
  cases x with
  |cons h1 h2=>
   cases r with
   |cons r1 r2=>
    obtain⟨as,q1⟩:=Dw.reads hok KX d _ _ h1 r1;obtain⟨bs,q2⟩:=Dw.readsAll hok KX ds _ _ h2 r2;exact⟨_,ReadsAllW.cons q1 q2⟩
end
end
mutual
def jy:WData->Bool
 |.none=>true
 |.bool _=>true
 |.int _=>true
 |.str _=>true
 |.bytes _=>true
 |.list xs=>j5 xs
 |.tuple xs=>j5 xs
 |_=>false
def j5:List WData->Bool
 |[]=>true
 |x::r=>jy x&&j5 r
end
theorem Qx{α:Type}{f:α->WData}(h:∀a,jy (f a)=true):∀l:List α,j5 (l.map f)=true
 |[]=>rfl
 |x::r=>by
  show(jy (f x)&&j5 (r.map f))=true;rw[h x,Qx h r]<;>rfl
theorem qW:∀(c:Codec)(a:c.denote),jy (c.enc a)=true
 |.unit,_=>rfl
 |.bool,_=>rfl
 |.int _ _,_=>rfl
 |.nat _ _,_=>rfl
 |.u8,_=>rfl
 |.bytes _ _,_=>rfl
 |.text _ _ _ _,_=>rfl
 |.list _ _ c,a=>Qx (fun x=>qW c x) a
 |.pair c d,a=>by
  show(jy (c.enc a.1)&&(jy (d.enc a.2)&&true))=true;rw[qW c a.1,qW d a.2]<;>rfl
 |.triple c d e,a=>by
  show(jy (c.enc a.1)&&(jy (d.enc a.2.1)&&(jy (e.enc a.2.2)&&true)))=true;rw[qW c a.1,qW d a.2.1,qW e a.2.2]<;>rfl
 |.option c,none=>rfl
 |.option c,some x=>qW c x
theorem Qy:∀(cs:List Codec)(a:Codec.denoteAll cs),j5 (Codec.encAll cs a)=true
 |[],_=>rfl
 |c::cs,a=>by
  show(jy (c.enc a.1)&&j5 (Codec.encAll cs a.2))=true;rw[qW c a.1,Qy cs a.2]<;>rfl
theorem Gy:∀{xs:List WData}{d:WData},d∈xs->d.weight<=WData.weightAll xs
 |[],d,h=>absurd h (by simp)
 |x::r,d,h=>by
  show d.weight<=x.weight+1+WData.weightAll r;rcases at3.mp h with e|m
  ·rw[e];omega
  ·have z:=Gy m;omega
def iH:Value->V
 |.none=>.non
 |.bool b=>.bl b
 |.int i _=>.int i
 |.str x _=>.str x
 |.bytes b _=>.gM b
 |.ref a=>.ref a
 |_=>.non
def jJ(A:List Addr):Value->Prop
 |.none=>True
 |.bool _=>True
 |.int _ _=>True
 |.str _ _=>True
 |.bytes _ _=>True
 |.ref a=>a∈A
 |_=>False
theorem jJ.mono{A B:List Addr}(h:∀a∈A,a∈B):∀{u:Value},jJ A u->jJ B u:=fun{u} x=>by
 cases u with
 |ref a=>exact h a x
 |none=>trivial
 |bool b=>trivial
 |int i t=>trivial
 |str s t=>trivial
 |bytes b t=>trivial
 |_=>exact False.elim x
theorem aca{A:List Addr}{u:Value}(x:jJ A u):RelV (iH u) u:=by
 cases u with
 |ref a=>rfl
 |none=>rfl
 |bool b=>rfl
 |int i t=>exact⟨t,rfl⟩
 |str s t=>exact⟨t,rfl⟩
 |bytes b t=>exact⟨t,rfl⟩
 |_=>exact False.elim x
theorem uY{A:List Addr}:∀{vs:List Value},(∀u∈vs,jJ A u)->Vals (vs.map iH) vs
 |[],_=>.nil
 |u::r,h=>.cons (aca (h u (at7 ..))) (uY fun x hx=>h x (at8 _ hx))
def j6(h:Heap)(A:List Addr)(a:Addr):Prop:=∃vs:List Value,vs.length<=sizeLine/\(∀u∈vs,jJ A u)/\
 (h.get? a=some {cls:=.type "list",data:=.seq vs.toArray}\/h.get? a=some {cls:=.type "tuple",data:=.seq vs.toArray})
theorem j6.mono{h:Heap}{A B:List Addr}{a:Addr}(k:∀a∈A,a∈B)(x:j6 h A a):j6 h B a:=by
 obtain⟨vs,h1,h2,h3⟩:=x;exact⟨vs,h1,fun u hu=>(h2 u hu).mono k,h3⟩
theorem zN{P:Params}{h:Heap}:∀{vs:List Value}{ds:List WData},WellAll P h vs ds->vs.length=ds.length
 |_,_,.nil=>rfl
 |_,_,.cons _ b=>by
  show _+1=_+1;rw[zN b]
theorem Qz{P:Params}{h:Heap}{v:Value}{ds:List WData}(x:Well P h v (.list ds)):∃(a:Addr)(vs:List Value),v=.ref a/\h.get? a=some {cls:=.type "list",data:=.seq vs.toArray}/\WellAll P h vs ds:=by
 cases x with
 |list ho hall=>exact⟨_,_,rfl,ho,hall⟩
theorem QB{P:Params}{h:Heap}{v:Value}{ds:List WData}(x:Well P h v (.tuple ds)):∃(a:Addr)(vs:List Value),v=.ref a/\h.get? a=some {cls:=.type "tuple",data:=.seq vs.toArray}/\WellAll P h vs ds:=by
 cases x with
 |tuple ho hall=>exact⟨_,_,rfl,ho,hall⟩
theorem QC{P:Params}{h:Heap}{us:List Value}{d:WData}{ds:List WData}(x:WellAll P h us (d::ds)):∃(v:Value)(vs:List Value),us=v::vs/\Well P h v d/\WellAll P h vs ds:=by
 cases x with
 |cons a b=>exact⟨_,_,rfl,a,b⟩
theorem QD{n:Nat}(h:n<=1048576):n<=sizeLine:=auC h (by decide)
section
variable{P:Params}{h:Heap}
mutual
theorem acb:∀(d:WData)(v:Value),Well P h v d->jy d=true->d.weight<=1048576->∃A:List Addr,jJ A v/\∀a∈A,j6 h A a
 |.none,_,x,_,_=>by
  cases x;exact⟨[],trivial,fun a m=>absurd m (by simp)⟩
 |.bool b,_,x,_,_=>by
  cases x;exact⟨[],trivial,fun a m=>absurd m (by simp)⟩
 |.int i,_,x,_,_=>by
  cases x;exact⟨[],trivial,fun a m=>absurd m (by simp)⟩
 |.str s,_,x,_,_=>by
  cases x;exact⟨[],trivial,fun a m=>absurd m (by simp)⟩
 |.bytes b,_,x,_,_=>by
  cases x;exact⟨[],trivial,fun a m=>absurd m (by simp)⟩
 |.list ds,_,x,p,z=>by
  obtain⟨a,vs,rfl,ho,hall⟩:=Qz x;have z2:WData.weightAll ds<=1048576:=z;obtain⟨A,h1,h2⟩:=zO ds _ hall p fun d hd=>auC (Gy hd) z2
  have k:∀b∈A,b∈a::A:=fun b hb=>at8 _ hb
  refine⟨a::A,at7 ..,fun b hb=>?_⟩;rcases at3.mp hb with e|m
  ·rw[e];exact⟨vs,QD (by rw[zN hall];exact auC (ayv ds) z2),fun u hu=>(h1 u hu).mono k,.inl ho⟩
  ·exact(h2 b m).mono k
 |.tuple ds,_,x,p,z=>by
  obtain⟨a,vs,rfl,ho,hall⟩:=QB x;have z2:WData.weightAll ds<=1048576:=z;obtain⟨A,h1,h2⟩:=zO ds _ hall p fun d hd=>auC (Gy hd) z2
  have k:∀b∈A,b∈a::A:=fun b hb=>at8 _ hb
  refine⟨a::A,at7 ..,fun b hb=>?_⟩;rcases at3.mp hb with e|m
  ·rw[e];exact⟨vs,QD (by rw[zN hall];exact auC (ayv ds) z2),fun u hu=>(h1 u hu).mono k,.inr ho⟩
  ·exact(h2 b m).mono k
 |.float _,_,_,p,_=>auU (show false=true from p)
 |.dict _,_,_,p,_=>auU (show false=true from p)
 |.bytearray _,_,_,p,_=>auU (show false=true from p)
 |.set _,_,_,p,_=>auU (show false=true from p)
 |.frozenset _,_,_,p,_=>auU (show false=true from p)
 |.obj _ _,_,_,p,_=>auU (show false=true from p)
theorem zO:∀(ds:List WData)(vs:List Value),WellAll P h vs ds->j5 ds=true->(∀d∈ds,d.weight<=1048576)->∃A:List Addr,(∀u∈vs,jJ A u)/\∀a∈A,j6 h A a
 |[],_,x,_,_=>by
  cases x;exact⟨[],fun u m=>absurd m (by simp),fun a m=>absurd m (by simp)⟩
 |d::ds,_,x,p,z=>by
  obtain⟨v,vs,rfl,x1,x2⟩:=QC x;have q:jy d=true/\j5 ds=true:=avw.mp p;obtain⟨A,a1,a2⟩:=acb d v x1 q.1 (z d (at7 ..));obtain⟨B,b1,b2⟩:=zO ds vs x2 q.2 fun e he=>z e (at8 _ he)
  have kA:∀b∈A,b∈A++B:=fun b hb=>aus.mpr (.inl hb)
  have kB:∀b∈B,b∈A++B:=fun b hb=>aus.mpr (.inr hb)
  refine⟨A++B,fun u hu=>?_,fun b hb=>?_⟩
  ·rcases at3.mp hu with e|m
   ·rw[e];exact a1.mono kA
   ·exact(b1 u m).mono kB
  ·rcases aus.mp hb with m|m
   ·exact(a2 b m).mono kA
   ·exact(b2 b m).mono kB
end
end
def zP(o:Obj):Option HO:=match o.data with
 |.seq vs _=>if(o.cls==auM "list")=true then some (.gh o (.lst (vs.toList.map iH))) else some (.gh o (.tup (vs.toList.map iH)))
 |_=>none
def gQ(K:atQ)(h:Heap)(A:List Addr):Hp:=fun b=>if b∈A then(if(K.lookup b).isNone=true then(h.get? b).bind zP else none) else none
def wZ(H:Hp):Prop:=∀b,H b=none\/∃o u,H b=some (.gh o u)
theorem QF(vs:List Value):zP {cls:=.type "list",data:=.seq vs.toArray}=some (.gh {cls:=.type "list",data:=.seq vs.toArray} (.lst (vs.map iH))):=by
 show(if(auM "list"==auM "list")=true then some (HO.gh {cls:=.type "list",data:=.seq vs.toArray} (.lst (vs.toArray.toList.map iH))) else some (HO.gh {cls:=.type "list",data:=.seq vs.toArray} (.tup (vs.toArray.toList.map iH))))=_;rw[if_pos (beq_self_eq_true _)]
theorem QG(vs:List Value):zP {cls:=.type "tuple",data:=.seq vs.toArray}=some (.gh {cls:=.type "tuple",data:=.seq vs.toArray} (.tup (vs.map iH))):=by
 show(if(auM "tuple"==auM "list")=true then some (HO.gh {cls:=.type "tuple",data:=.seq vs.toArray} (.lst (vs.toArray.toList.map iH))) else some (HO.gh {cls:=.type "tuple",data:=.seq vs.toArray} (.tup (vs.toArray.toList.map iH))))=_;rw[if_neg (by decide)]
section
variable{P:Program}{w:World}{K:atQ}{h:Heap}{A:List Addr}
theorem zQ{b:Addr}{o:Obj}(hb:b∈A)(hk:K.lookup b=none)(e:h.get? b=some o):gQ K h A b=zP o:=by
 unfold gQ;rw[if_pos hb,hk,if_pos (show(none:Option Obj).isNone=true from rfl),e]<;>rfl
theorem acd{b:Addr}{u:HO}(q:gQ K h A b=some u):b∈A/\K.lookup b=none:=by
 unfold gQ at q;by_cases hb:b∈A
 ·rw[if_pos hb] at q;cases hk:K.lookup b with
  |none=>exact⟨hb,rfl⟩
  |some o=>
   rw[hk,if_neg (by simp)] at q;cases q
 ·rw[if_neg hb] at q;cases q
theorem zR(ar:∀a∈A,j6 h A a){b:Addr}{u:HO}(q:gQ K h A b=some u):K.lookup b=none/\∃vs:List Value,vs.length<=sizeLine/\(∀u∈vs,jJ A u)/\
  ((h.get? b=some {cls:=.type "list",data:=.seq vs.toArray}/\u=.gh {cls:=.type "list",data:=.seq vs.toArray} (.lst (vs.map iH)))\/
   (h.get? b=some {cls:=.type "tuple",data:=.seq vs.toArray}/\u=.gh {cls:=.type "tuple",data:=.seq vs.toArray} (.tup (vs.map iH)))):=by
 obtain⟨hb,hk⟩:=acd q;obtain⟨vs,h1,h2,h3⟩:=ar b hb;refine⟨hk,vs,h1,h2,?_⟩;rcases h3 with e|e
 ·rw[zQ hb hk e,QF] at q;exact .inl ⟨e,(aub q).symm⟩
 ·rw[zQ hb hk e,QG] at q;exact .inr ⟨e,(aub q).symm⟩
theorem ace(ar:∀a∈A,j6 h A a):wZ (gQ K h A):=fun b=>by
 cases q:gQ K h A b with
 |none=>exact .inl rfl
 |some u=>
  obtain⟨_,vs,_,_,⟨_,e⟩|⟨_,e⟩⟩:=zR ar q
  ·exact .inr ⟨_,_,by rw[e]⟩
  ·exact .inr ⟨_,_,by rw[e]⟩
theorem acf(ar:∀a∈A,j6 h A a):cC P w (gQ K h A) h:=fun b u q=>by
 obtain⟨_,vs,h1,h2,⟨e,rfl⟩|⟨e,rfl⟩⟩:=zR ar q
 ·exact⟨e,by rw[atR];exact h1,vs,_,uY h2,e⟩
 ·exact⟨e,by rw[atR];exact h1,vs,uY h2,_,e,rfl,_,rfl⟩
theorem zT{c c':Value}{vs us:List Value}(e:(some {cls:=c,data:=.seq vs.toArray}:Option Obj)=some {cls:=c',data:=.seq us.toArray}):c=c'/\vs=us:=by
 have e1:=aub e;have e2:c=c':=congrArg Obj.cls e1;have e3:Data.seq vs.toArray=Data.seq us.toArray:=congrArg Obj.data e1;injection e3 with e4
 refine⟨e2,?_⟩;have e5:=congrArg axb e4;simpa using e5
theorem acg(KX:K.In h)(ar:∀a∈A,j6 h A a){a:Addr}{vs:List Value}(ha:a∈A)(e:h.get? a=some {cls:=.type "list",data:=.seq vs.toArray}):(∀u∈vs,jJ A u)/\ak K (gQ K h A) a (vs.map iH):=by
 obtain⟨us,h1,h2,h3⟩:=ar a ha;have hu:us=vs:=by
  rcases h3 with q|q
  ·rw[e] at q;exact(zT q).2.symm
  ·rw[e] at q;exact absurd (ayw (zT q).1) (by decide)
 subst hu;refine⟨h2,?_⟩;cases hk:K.lookup a with
 |none=>exact .inl (.inr ⟨_,by rw[zQ ha hk e,QF]⟩)
 |some o=>
  have e2:=KX a o hk;rw[e] at e2;obtain rfl:=aub e2;exact .inr ⟨_,us.toArray,_,hk,rfl,rfl,rfl,by rw[aum];exact h1,by simpa using uY h2⟩
theorem ach(KX:K.In h)(ar:∀a∈A,j6 h A a){a:Addr}{vs:List Value}(ha:a∈A)(e:h.get? a=some {cls:=.type "tuple",data:=.seq vs.toArray}):(∀u∈vs,jJ A u)/\bB K (gQ K h A) a (vs.map iH):=by
 obtain⟨us,h1,h2,h3⟩:=ar a ha;have hu:us=vs:=by
  rcases h3 with q|q
  ·rw[e] at q;exact absurd (ayw (zT q).1) (by decide)
  ·rw[e] at q;exact(zT q).2.symm
 subst hu;refine⟨h2,?_⟩;cases hk:K.lookup a with
 |none=>exact .inl (.inr ⟨_,by rw[zQ ha hk e,QG]⟩)
 |some o=>
  have e2:=KX a o hk;rw[e] at e2;obtain rfl:=aub e2;exact .inr ⟨_,us.toArray,_,hk,rfl,rfl,by rw[aum];exact h1,by simpa using uY h2⟩
mutual
theorem aci{Pm:Params}(KX:K.In h)(ar:∀a∈A,j6 h A a):∀(d:WData)(v:Value),Well Pm h v d->jy d=true->jJ A v->Dw K (gQ K h A) (iH v) d
 |.none,_,x,_,_=>by
  cases x;exact .non
 |.bool b,_,x,_,_=>by
  cases x;exact .bl b
 |.int i,_,x,_,_=>by
  cases x;exact .int i
 |.str s,_,x,_,_=>by
  cases x;exact .str s
 |.bytes b,_,x,_,_=>by
  cases x;have z:=Dw.gM (K:=K) (H:=gQ K h A) b.toArray;exact z
 |.list ds,_,x,p,hu=>by
  obtain⟨a,vs,rfl,ho,hall⟩:=Qz x;obtain⟨h2,hs⟩:=acg KX ar hu ho;exact .lst hs (zU KX ar ds _ hall p h2)
 |.tuple ds,_,x,p,hu=>by
  obtain⟨a,vs,rfl,ho,hall⟩:=QB x;obtain⟨h2,hs⟩:=ach KX ar hu ho;exact .tup hs (zU KX ar ds _ hall p h2)
 |.float _,_,_,p,_=>auU (show false=true from p)
 |.dict _,_,_,p,_=>auU (show false=true from p)
 |.bytearray _,_,_,p,_=>auU (show false=true from p)
 |.set _,_,_,p,_=>auU (show false=true from p)
 |.frozenset _,_,_,p,_=>auU (show false=true from p)
 |.obj _ _,_,_,p,_=>auU (show false=true from p)
theorem zU{Pm:Params}(KX:K.In h)(ar:∀a∈A,j6 h A a):∀(ds:List WData)(vs:List Value),WellAll Pm h vs ds->j5 ds=true->(∀u∈vs,jJ A u)->jZ K (gQ K h A) (vs.map iH) ds
 |[],_,x,_,_=>by
  cases x;exact .nil
 |d::ds,_,x,p,hu=>by
  obtain⟨v,vs,rfl,x1,x2⟩:=QC x;have q:jy d=true/\j5 ds=true:=avw.mp p;exact .cons (aci KX ar d v x1 q.1 (hu _ (at7 ..))) (zU KX ar ds vs x2 q.2 fun u m=>hu u (at8 _ m))
end
end
theorem acj{P:Program}{w:World}{K:atQ}{mg mb:Str->Option Value}{CX:gY}{k:Nat}{fa:Addr}{fd:FuncData}{ps:List Str}{sp:Sp}{s₁:Shared}{vals:List Value}{ds:List WData}{R:ayu}{cl:Str->Option Addr}{d0:WData}
  (KX:K.In s₁.heap) (hns:s₁.heap.Ns mainGlobals mg) (hb:s₁.heap.Ns builtinsNs mb) (hbb:∀x:Str,x≠"__name__"->mb x=bootBuiltins x) (hlim:s₁.heap.NoLimit) (hg:s₁.gens= #[])
  (hwl:WellAll w.params s₁.heap vals ds) (hpl:j5 ds=true) (hwt:∀d∈ds,d.weight<=1048576) (hr:bQ k callerA)
  (F:∀base:Heap,K.In base->base.Ns mainGlobals mg->aJ P w K mg base CX k fa fd ps sp) (hbind:∀(s:Shared)(us:List Value),us.length=ps.length->BindsTo s fd ⟨us,[]⟩ (ps.zip us)) (hlen:ds.length=ps.length)
  (hsp:∀(H:Hp)(xs:List V),wZ H->jZ K H xs ds->sp xs H (fun v H'=>Dw K H' v d0) fun _ _ _=>False)
  (w6:∀H e s',CX [] H s₁ (fun _ _ _=>False) e s'->False):
  codeAny (model P w) callerA (.call (.ref fa) ⟨vals,[]⟩) (fun r s'=>∃u as,r=.ok (.ret u)/\ReadsW R cl s'.heap u d0 as/\OldK s₁.heap s'.heap/\s'.os=s₁.os/\AllBare s'.gens) s₁:=by
 obtain⟨A,ho,ar⟩:=zO ds vals hwl hpl hwt;have hO:wZ (gQ K s₁.heap A):=ace ar;have hok:cC P w (gQ K s₁.heap A) s₁.heap:=acf ar;have hS:=zU KX ar ds vals hwl hpl ho;have hV:=uY ho;have hK:∀b u,gQ K s₁.heap A b=some u->K.lookup b=none:=fun b u q=>(zR ar q).1
 have uJ:∀{b:Addr}{o:Obj}{es:Array DictEntry}{ep:Nat},s₁.heap.get? b=some o->o.data=.dict es ep->gQ K s₁.heap A b=none:=fun{b o es ep} e d=>by
  cases q:gQ K s₁.heap A b with
  |none=>rfl
  |some u=>
   obtain⟨_,vs,_,_,⟨e2,_⟩|⟨e2,_⟩⟩:=zR ar q
   ·rw[e2] at e;cases e;have d':Data.seq vs.toArray _=Data.dict es ep:=d;cases d'
   ·rw[e2] at e;cases e;have d':Data.seq vs.toArray _=Data.dict es ep:=d;cases d'
 generalize gQ K s₁.heap A=H at hO hok hS hK uJ;have QH:∀{b:Addr}{o:Obj},s₁.heap.get? b=some o->H b=none->(oW s₁.heap H).get? b=some o:=fun e n=>WL e n
 have zV:∀{b:Addr}{m:Str->Option Value},s₁.heap.Ns b m->(oW s₁.heap H).Ns b m:=fun{b m} ⟨o,es,ep,e,d,r⟩=>⟨o,es,ep,QH e (uJ e d),d,r⟩
 have nK:∀b o,K.lookup b=some o->H b=none:=fun b o e=>by
  cases q:H b with
  |none=>rfl
  |some u=>
   rw[hK b u q] at e;cases e
 have QJ:K.In (oW s₁.heap H):=fun b o e=>QH (KX b o e) (nK b o e)
 have hM:Mod K mg (oW s₁.heap H):=⟨QJ,zV hns,⟨mb,zV hb,hbb⟩,let⟨mc,h1,h2⟩:=hlim;⟨mc,zV h1,h2⟩⟩;have e0:lA P w K mg (oW s₁.heap H) callerA [] s₁ H:=⟨rfl,hM,fun b o e=>WN e,av8 (WK _ _),trivial,fun b hb=>absurd (show b∈([]:List Addr) from hb) (by simp),hok,.of_eq hg⟩;have hl:vals.length=ps.length:=by rw[zN hwl];exact hlen
 refine codeAny_mono ((F _ QJ (zV hns)).run callerA [] s₁ H ⟨vals,[]⟩ vals (vals.map iH) _ _ hr e0 (hbind s₁ vals hl) hV (hsp H _ hO hS)) fun r s' x=>?_
 cases r with
 |error e=>exact(w6 H e s' x).elim
 |ok fl=>
  cases fl with
  |next=>exact False.elim x
  |brk=>exact False.elim x
  |cont=>exact False.elim x
  |ret u=>
   obtain⟨v,H',os,bare,un,hok',r',q⟩:=x;have kept:∀b o,s₁.heap.get? b=some o->s'.heap.get? b=some o:=fun b o e=>by
    cases q2:H b with
    |none=>exact un.keep b o e q2 (by intro z;exact absurd (show b∈([]:List Addr) from z) (by simp)) (by simp)
    |some u2=>
     rcases hO b with z|⟨ob,u3,z⟩
     ·rw[q2] at z;cases z
     ·have z2:=un.iY b ob _ z;obtain⟨e1,_⟩:=hok b _ z;obtain⟨e2,_⟩:=hok' b _ z2;rw[e] at e1;cases e1;exact e2
   have KX':K.In s'.heap:=fun b o e=>kept b o (KX b o e)
   obtain⟨as,hrd⟩:=Dw.reads (R:=R) (cl:=cl) hok' KX' d0 v u q r';exact⟨u,as,rfl,hrd,OldK.of_keep kept,os,bare⟩
theorem acn{ds:List WData}(h:WData.layableAll ds=true):∀d∈ds,d.weight<=1048576:=fun d hd=>
 (PySem.W.layableW_iff.mp (auy.mp h d hd)).2.2
theorem QK:∀(cs:List Codec)(a:Codec.denoteAll cs),(Codec.encAll cs a).length=cs.length
 |[],_=>rfl
 |c::cs,a=>by
  show(Codec.encAll cs a.2).length+1=cs.length+1;rw[QK cs a.2]
theorem aco{r:OpenSpec}{k:Nat}{q:Program}{loose:List Str}{XP:(Str->Option Value)->Heap->Prop}{YP:World->Heap->Prop}{d:DefRec}{K:Params->atQ}{CX:World->gY}{ps:List Str}{sp:World->Sp}
  (Gz:r.wellSaid=true) (hdf:d.params.defaults=[]) (hlen:r.args.length=ps.length) (hr:bQ k callerA)
  (hY:∀(w:World)(h:Heap),YP w h->(K w.params).In h)
  (F:∀(w:World)(mg:Str->Option Value)(fa:Addr)(h:Heap),YP w h->(K w.params).In h->h.Ns mainGlobals mg->mg d.name=some (.ref fa)->
   ∃fd:FuncData,(∀(s:Shared)(us:List Value),us.length=ps.length->BindsTo s fd ⟨us,[]⟩ (ps.zip us))/\
    ∀base:Heap,(K w.params).In base->base.Ns mainGlobals mg->aJ r.prog w (K w.params) mg base (CX w) k fa fd ps (sp w))
  (hsp:∀(w:World)(H:Hp)(xs:List V)(a:Codec.denoteAll r.args),wZ H->Codec.withinAll r.args a=true->Codec.app r.args r.asked a=true->jZ (K w.params) H xs (Codec.encAll r.args a)->
   sp w xs H (fun v H'=>Dw (K w.params) H' v (r.ret.enc (Codec.app r.args r.f a))) fun _ _ _=>False)
  (w6:∀(w:World)(H:Hp)(s:Shared)(e:Value)(s':Shared),CX w [] H s (fun _ _ _=>False) e s'->False):
  ayx q loose XP YP r d [] (fun f vs=>PySem.call f vs):=by
 intro w s_0 s₁ mg mb G Y fa o pm cd doc dV kV ho hd hcd hD hmg hg args vals as hpre hlay hrd hwl hlo;obtain⟨a,e1,e2⟩:=PySem.W.os_pre_some hpre;obtain⟨e3,hwi⟩:=Codec.encAll_of_decAll r.args args a e1;subst e3;have KX:=hY w _ Y;obtain⟨fd,hb,hF⟩:=F w mg fa _ Y KX G.T.g hmg;refine PySem.W.enter_call (codeAny_mono (acj (R:=[]) (cl:=classAt s_0.heap) (d0:=r.ret.enc (Codec.app r.args r.f a)) KX G.T.g G.T.b G.T.builtins G.T.nolimit hg hwl (Qy _ _) (acn hlay) hr hF hb (by rw[QK];exact hlen)
  (fun H xs hO hS=>hsp w H xs a hO hwi e2 hS) fun H e s'=>w6 w H s₁ e s') fun r' s' hq=>?_)
 obtain⟨u,as',rfl,h1,h2,h3,h4⟩:=hq;exact⟨.inl ⟨u,_,as',rfl,fun _=>rfl,h1,(OpenSpec.post_iff Gz hwi _ _).mpr rfl,fun z=>auU (show false=true from z)⟩,h2,h3,h4⟩
theorem acp{r:OpenSpec}{k:Nat}{q:Program}{loose:List Str}{XP:(Str->Option Value)->Heap->Prop}{YP:World->Heap->Prop}{d:DefRec}{K:Params->atQ}{CX:gY}{ps:List Str}{sp:atQ->Sp}
  (Gz:r.wellSaid=true) (hdf:d.params.defaults=[]) (hlen:r.args.length=ps.length) (hr:bQ k callerA)
  (hY:∀(w:World)(h:Heap),YP w h->(K w.params).In h)
  (F:∀(w:World)(mg:Str->Option Value)(fa:Addr)(h:Heap),YP w h->(K w.params).In h->h.Ns mainGlobals mg->mg d.name=some (.ref fa)->
   ∃fd:FuncData,(∀(s:Shared)(us:List Value),us.length=ps.length->BindsTo s fd ⟨us,[]⟩ (ps.zip us))/\
    ∀base:Heap,(K w.params).In base->base.Ns mainGlobals mg->aJ r.prog w (K w.params) mg base CX k fa fd ps (sp (K w.params)))
  (hsp:∀(K:atQ)(H:Hp)(xs:List V)(a:Codec.denoteAll r.args),wZ H->Codec.withinAll r.args a=true->Codec.app r.args r.asked a=true->jZ K H xs (Codec.encAll r.args a)->
   sp K xs H (fun v H'=>Dw K H' v (r.ret.enc (Codec.app r.args r.f a))) fun _ _ _=>False)
  (w6:∀(H:Hp)(s:Shared)(e:Value)(s':Shared),CX [] H s (fun _ _ _=>False) e s'->False):
  ayx q loose XP YP r d [] (fun f vs=>PySem.call f vs):=
 aco (K:=K) (CX:=fun _=>CX) (sp:=fun w=>sp (K w.params)) Gz hdf hlen hr hY F (fun w H xs a h1 h2 h3 h4=>hsp (K w.params) H xs a h1 h2 h3 h4) fun _ H s e s'=>w6 H s e s'
end L2
namespace WA
open Si08 Si08.Out
structure eO(q:Nat)(m:Map):Prop where
 len:m.length=q
 lt:∀x,x∈m->x<q
theorem j7{q:Nat}{m:Map}(h:eO q m){i:Nat}(hi:i<q):m.getD i 0<q:=by
 have hl:i<m.length:=by rw[h.len];exact hi
 rw[at5,atY hl];exact h.lt _ (au1 hl)
theorem xf(a b:Map):(then_ a b).length=a.length:=by simp[then_]
theorem zW{q:Nat}{a b:Map}(ha:eO q a)(hb:eO q b):eO q (then_ a b):=by
 refine⟨by rw[xf,ha.len],fun x hx=>?_⟩;unfold then_ at hx;obtain⟨s,hs,rfl⟩:=at6.mp hx;exact j7 hb (ha.lt s hs)
theorem acq{f:Nat->Nat}{l:List Nat}{i:Nat}(h:i<l.length):(l.map f).getD i 0=f (l.getD i 0):=by
 simp[at5,h]
theorem QL{a b:Map}{i:Nat}(h:i<a.length):(then_ a b).getD i 0=b.getD (a.getD i 0) 0:=by
 unfold then_;rw[acq h]
theorem QM{q:Nat}{a b:Map}(c:Map)(ha:eO q a)(hb:eO q b):then_ (then_ a b) c=then_ a (then_ b c):=by
 show((a.map fun s=>b.getD s 0).map fun s=>c.getD s 0)=a.map fun s=>(then_ b c).getD s 0
 rw[auS];apply avv;intro s hs;show c.getD (b.getD s 0) 0=_;rw[QL (by rw[hb.len];exact ha.lt s hs)]
theorem QQ(q:Nat):eO q (atU q):=⟨by simp,fun x hx=>at4.mp hx⟩
theorem QR{q:Nat}{b:Map}(h:b.length=q):then_ (atU q) b=b:=by
 unfold then_;apply av1
 ·simp[h]
 ·intro i h1 h2;simp[at5,h2]
theorem QS{q:Nat}{a:Map}(h:eO q a):then_ a (atU q)=a:=by
 unfold then_;have:a.map (fun s=>(atU q).getD s 0)=a.map id:=by
  apply avv;intro s hs;have:=h.lt s hs;simp[at5,this]
 rw[this,List.map_id]
theorem tK{M:Machine}(G:Good M){a:Nat}(ha:a<M.k):eO M.q (letterMap M a):=by
 obtain⟨h1,h2,h3,h4,h5,h6⟩:=G;refine⟨by simp[letterMap],fun x hx=>?_⟩;unfold letterMap at hx;obtain⟨s,hs,rfl⟩:=at6.mp hx;have hs:=at4.mp hs;have:M.k*s+a<M.step.length:=by
  rw[h5];have h7:M.k*s+M.k<=M.k*M.q:=by rw[<-av2];exact ayy _ hs
  rw[awB M.q M.k];omega
 rw[at5,atY this];exact h6 _ (au1 this)
def mapOf(M:Machine)(w:Word):Map:=w.foldl (fun m a=>then_ m (letterMap M a)) (atU M.q)
theorem QT{M:Machine}(G:Good M):∀(w:Word)(m:Map),eO M.q m->(∀a,a∈w->a<M.k)->eO M.q (w.foldl (fun m a=>then_ m (letterMap M a)) m)
 |[],m,hm,_=>hm
 |a::w,m,hm,hw=>QT G w _ (zW hm (tK G (hw a (at7 ..)))) fun b hb=>hw b (at8 _ hb)
theorem zX{M:Machine}(G:Good M){w:Word}(hw:∀a,a∈w->a<M.k):eO M.q (mapOf M w):=QT G w _ (QQ _) hw
theorem GD(M:Machine)(w:Word)(a:Nat):mapOf M (w++[a])=then_ (mapOf M w) (letterMap M a):=by
 unfold mapOf;rw[avT];rfl
theorem QV{M:Machine}(G:Good M):∀(w:Word)(m:Map)(m0:Map),eO M.q m->eO M.q m0->(∀a,a∈w->a<M.k)->w.foldl (fun m a=>then_ m (letterMap M a)) (then_ m m0)=then_ m (w.foldl (fun m a=>then_ m (letterMap M a)) m0)
 |[],m,m0,hm,h0,_=>rfl
 |a::w,m,m0,hm,h0,hw=>by
  have ha:=tK G (hw a (at7 ..));rw[awA,QM _ hm h0,QV G w m _ hm (zW h0 ha) fun b hb=>hw b (at8 _ hb)];rfl
theorem acr{M:Machine}(G:Good M){u v:Word}(hu:∀a,a∈u->a<M.k)(hv:∀a,a∈v->a<M.k):mapOf M (u++v)=then_ (mapOf M u) (mapOf M v):=by
 have h:=QV G v (mapOf M u) (atU M.q) (zX G hu) (QQ _) hv;rw[QS (zX G hu)] at h;rw[mapOf,avT];exact h
abbrev WM:=Word×Map
def ie(M:Machine)(x:WM)(l:List WM)(a:Nat):List WM:=
 if l.any (fun y=>y.2==then_ x.2 (letterMap M a))=true then l else l++[(x.1++[a],then_ x.2 (letterMap M a))]
def dH(M:Machine)(x:WM)(l:List WM)(as:List Nat):List WM:=as.foldl (ie M x) l
theorem QW(M:Machine)(w:Word)(m:Map)(l:List WM):∀(as:List Nat)(acc:List WM),
  l++as.foldl (fun(acc:List WM) a=>let n:=then_ m (letterMap M a)
   if(l++acc).any (fun x=>x.2==n)=true then acc else acc++[(w++[a],n)]) acc=dH M (w,m) (l++acc) as
 |[],acc=>rfl
 |a::as,acc=>by
  rw[awA,QW M w m l as];unfold dH;rw[awA];congr 1;unfold ie;dsimp only
  split
  ·rfl
  ·rw[awz]
def nM(M:Machine):Nat->Nat->List WM->List WM
 |0,_,l=>l
 |f+1,e,l=>match l[e]? with
  |none=>l
  |some x=>if MOST<(dH M x l (atU M.k)).length then dH M x l (atU M.k) else nM M f (e+1) (dH M x l (atU M.k))
theorem QX(M:Machine):∀(f e:Nat)(l:List WM),grow M f (l.drop e) l=nM M f e l
 |0,e,l=>by simp[grow,nM]
 |f+1,e,l=>by
  cases h:l[e]? with
  |none=>
   have:l.length<=e:=aw7.mp h;rw[ayz this];simp[grow,nM,h]
  |some x=>
   obtain⟨hl,hx⟩:=at9.mp h;have hd:l.drop e=x::l.drop (e+1):=by rw[awP hl,hx]
   rw[hd];obtain⟨w,m⟩:=x;have en:=QW M w m l (atU M.k) [];rw[avM] at en;simp only[grow,nM,h];rw[en]
   split
   ·rfl
   ·rw[<-QX M f (e+1),<-en,List.drop_append_of_le_length (by omega)]
theorem acs(M:Machine):elements M=nM M 5000 0 [([],atU M.q)]:=by
 unfold elements;exact QX M 5000 0 [([],atU M.q)]
theorem acu(M:Machine)(x:WM)(l:List WM)(a:Nat):∃r,ie M x l a=l++r:=by
 unfold ie
 split
 ·exact⟨[],by simp⟩
 ·exact⟨_,rfl⟩
theorem zY(M:Machine)(x:WM):∀(as:List Nat)(l:List WM),∃r,dH M x l as=l++r
 |[],l=>⟨[],by simp[dH]⟩
 |a::as,l=>by
  obtain⟨r,hr⟩:=acu M x l a;obtain⟨t,ht⟩:=zY M x as (ie M x l a);refine⟨r++t,?_⟩;show dH M x (ie M x l a) as=_;rw[ht,hr,awz]
theorem acv(M:Machine)(x:WM)(l:List WM)(as:List Nat)(a:Nat):dH M x l (as++[a])=ie M x (dH M x l as) a:=by
 unfold dH;rw[avT];rfl
theorem acw(M:Machine)(x:WM)(l:List WM)(as bs:List Nat):dH M x l (as++bs)=dH M x (dH M x l as) bs:=by
 unfold dH;rw[avT]
theorem acx(M:Machine)(x:WM)(l:List WM)(as:List Nat):l.length<=(dH M x l as).length:=by
 obtain⟨r,hr⟩:=zY M x as l;rw[hr];simp
structure tL(M:Machine)(l:List WM):Prop where
 head:l[0]?=some ([],atU M.q)
 nodup:(l.map (·.2)).Nodup
 good:∀x,x∈l->(∀a,a∈x.1->a<M.k)/\x.2=mapOf M x.1
 pre:∀i y,0<i->l[i]?=some y->∃j x a,j<i/\l[j]?=some x/\a<M.k/\y=(x.1++[a],then_ x.2 (letterMap M a))
def zZ(M:Machine)(l:List WM)(i a:Nat):Prop:=∀x:WM,l[i]?=some x->∃(j:Nat)(y:WM),l[j]?=some y/\y.2=then_ x.2 (letterMap M a)
theorem jK{α:Type}{l r:List α}{i:Nat}{x:α}(h:l[i]?=some x):(l++r)[i]?=some x:=by
 rw[auP (at9.mp h).1];exact h
theorem acy{M:Machine}:tL M [([],atU M.q)]:=by
 refine⟨rfl,by simp,fun x hx=>?_,fun i y hi h=>?_⟩
 ·simp at hx;subst hx;exact⟨by simp,rfl⟩
 ·match i,hi,h with
  |i+1,_,h=>simp at h
theorem acz{M:Machine}{l:List WM}{i a:Nat}{x:WM}(g:tL M l)(hx:l[i]?=some x)(ha:a<M.k):tL M (ie M x l a):=by
 unfold ie
 split
 ·exact g
 ·next h=>
  have hmem:x∈l:=auI hx;have hn:¬then_ x.2 (letterMap M a)∈l.map (·.2):=fun hm=>by
   apply h;obtain⟨y,hy,e⟩:=at6.mp hm;exact auZ.mpr ⟨y,hy,by rw[e];exact beq_self_eq_true _⟩
  refine⟨jK g.head,?_,fun y hy=>?_,fun j y hj h=>?_⟩
  ·rw[auO,awT];refine⟨g.nodup,by simp,fun b hb c hc=>?_⟩;simp at hc;subst hc;intro e;exact hn (by rw[<-e];exact hb)
  ·rcases aus.mp hy with hy|hy
   ·exact g.good y hy
   ·simp at hy;subst hy;obtain⟨h1,h2⟩:=g.good x hmem;refine⟨fun b hb=>?_,?_⟩
    ·rcases aus.mp hb with hb|hb
     ·exact h1 b hb
     ·simp at hb;subst hb;exact ha
    ·show then_ x.2 (letterMap M a)=mapOf M (x.1++[a]);rw[GD,<-h2]
  ·by_cases hjl:j<l.length
   ·rw[auP hjl] at h;obtain⟨j',x',a',h1,h2,h3,h4⟩:=g.pre j y hj h;exact⟨j',x',a',h1,jK h2,h3,h4⟩
   ·have hj':j<(l++[(x.1++[a],then_ x.2 (letterMap M a))]).length:=(at9.mp h).1;have:j=l.length:=by simp at hj';omega
    subst this;simp at h;exact⟨i,x,a,(at9.mp hx).1,jK hx,ha,h.symm⟩
theorem zZ.mono{M:Machine}{l r:List WM}{i a:Nat}(hi:i<l.length)(h:zZ M l i a):zZ M (l++r) i a:=by
 intro x hx;rw[auP hi] at hx;obtain⟨j,y,h1,h2⟩:=h x hx;exact⟨j,y,jK h1,h2⟩
structure aQ(M:Machine)(l:List WM):Prop where
 good:Good M
 grown:tL M l
 shut:∀i a,a<M.k->zZ M l i a
 most:l.length<=MOST
def mp(l:List WM)(i:Nat):Map:=(l.map (·.2)).getD i []
def wd(l:List WM)(i:Nat):Word:=(l.map (·.1)).getD i []
theorem gU{l:List WM}{i:Nat}{x:WM}(h:l[i]?=some x):mp l i=x.2:=by
 simp[mp,at5,h]
theorem jL{l:List WM}{i:Nat}{x:WM}(h:l[i]?=some x):wd l i=x.1:=by
 simp[wd,at5,h]
theorem xg{l r:List WM}{i:Nat}(h:i<l.length):mp (l++r) i=mp l i:=by
 rw[gU (jK (atY h)),gU (atY h)]
namespace aQ
variable{M:Machine}{l:List WM}
theorem pos(B:aQ M l):0<l.length:=(at9.mp B.grown.head).1
theorem tM(B:aQ M l):mp l 0=atU M.q:=gU B.grown.head
theorem QZ(B:aQ M l):wd l 0=[]:=jL B.grown.head
theorem inj(B:aQ M l){i j:Nat}(hi:i<l.length)(hj:j<l.length)(h:mp l i=mp l j):i=j:=by
 have hi':i<(l.map (·.2)).length:=by simpa using hi
 have hj':j<(l.map (·.2)).length:=by simpa using hj
 have e1:(l.map (·.2))[i]=mp l i:=by simp[mp,at5,hi]
 have e2:(l.map (·.2))[j]=mp l j:=by simp[mp,at5,hj]
 exact(av6 (h₀:=hi') (h₁:=hj') B.grown.nodup).mp (by rw[e1,e2,h])
theorem z6(B:aQ M l){i:Nat}(hi:i<l.length):∀a,a∈wd l i->a<M.k:=by
 rw[jL (atY hi)];exact(B.grown.good _ (au1 hi)).1
theorem xm(B:aQ M l){i:Nat}(hi:i<l.length):mp l i=mapOf M (wd l i):=by
 rw[gU (atY hi),jL (atY hi)];exact(B.grown.good _ (au1 hi)).2
theorem dB(B:aQ M l){i:Nat}(hi:i<l.length):eO M.q (mp l i):=by
 rw[B.xm hi];exact zX B.good (B.z6 hi)
theorem letter(B:aQ M l){i a:Nat}(hi:i<l.length)(ha:a<M.k):∃j,j<l.length/\mp l j=then_ (mp l i) (letterMap M a):=by
 obtain⟨j,y,h1,h2⟩:=B.shut i a ha _ (atY hi);exact⟨j,(at9.mp h1).1,by rw[gU h1,h2,gU (atY hi)]⟩
theorem behind(B:aQ M l):∀(w:Word)(i:Nat),i<l.length->(∀a,a∈w->a<M.k)->∃j,j<l.length/\mp l j=w.foldl (fun m a=>then_ m (letterMap M a)) (mp l i)
 |[],i,hi,_=>⟨i,hi,rfl⟩
 |a::w,i,hi,hw=>by
  obtain⟨j,hj,e⟩:=B.letter hi (hw a (at7 ..));obtain⟨r,hr,e2⟩:=B.behind w j hj fun b hb=>hw b (at8 _ hb)
  exact⟨r,hr,by rw[e2,e];rfl⟩
theorem Q0(B:aQ M l){w:Word}(hw:∀a,a∈w->a<M.k):∃j,j<l.length/\mp l j=mapOf M w:=by
 obtain⟨j,hj,e⟩:=B.behind w 0 B.pos hw;rw[B.tM] at e;exact⟨j,hj,e⟩
theorem acA(B:aQ M l){i j:Nat}(hi:i<l.length)(hj:j<l.length):∃c,c<l.length/\mp l c=then_ (mp l i) (mp l j):=by
 have hi':=B.z6 hi;have hj':=B.z6 hj;obtain⟨c,hc,e⟩:=B.Q0 (w:=wd l i++wd l j) fun a ha=>by
  rcases aus.mp ha with h|h
  ·exact hi' a h
  ·exact hj' a h
 exact⟨c,hc,by rw[e,acr B.good hi' hj',B.xm hi,B.xm hj]⟩
end aQ
def ix(l:List WM)(m:Map):Nat:=(l.map (·.2)).idxOf m
theorem xn{M:Machine}{l:List WM}(B:aQ M l){i:Nat}(hi:i<l.length){m:Map}(h:mp l i=m):ix l m=i:=by
 unfold ix;have hm:m∈l.map (·.2):=by
  rw[<-h,gU (atY hi)];exact at6.mpr ⟨_,au1 hi,rfl⟩
 have hlt:(l.map (·.2)).idxOf m<(l.map (·.2)).length:=avj hm;have hlt':(l.map (·.2)).idxOf m<l.length:=by simpa using hlt
 refine B.inj hlt' hi ?_;rw[h];unfold mp;rw[at5,atY hlt];exact avJ hlt
def pr(l:List WM)(a b:Nat):Nat:=ix l (then_ (mp l a) (mp l b))
structure Mon(n:Nat)(p:Nat->Nat->Nat):Prop where
 pos:0<n
 lt:∀{a b},a<n->b<n->p a b<n
 assoc:∀{a b c},a<n->b<n->c<n->p (p a b) c=p a (p b c)
 lO:∀{a},a<n->p 0 a=a
 lQ:∀{a},a<n->p a 0=a
theorem tO{M:Machine}{l:List WM}(B:aQ M l){a b c:Nat}(hc:c<l.length)(h:mp l c=then_ (mp l a) (mp l b)):pr l a b=c:=xn B hc h
theorem fV{M:Machine}{l:List WM}(B:aQ M l){a b:Nat}(ha:a<l.length)(hb:b<l.length):pr l a b<l.length/\mp l (pr l a b)=then_ (mp l a) (mp l b):=by
 obtain⟨c,hc,e⟩:=B.acA ha hb;rw[tO B hc e];exact⟨hc,e⟩
theorem bH{M:Machine}{l:List WM}(B:aQ M l):Mon l.length (pr l) where
 pos:=B.pos
 lt:=fun ha hb=>(fV B ha hb).1
 assoc:=fun{a b c} ha hb hc=>by
  have h1:=fV B ha hb;have h2:=fV B hb hc;refine tO B (fV B ha h2.1).1 ?_;rw[(fV B ha h2.1).2,h2.2,h1.2,QM _ (B.dB ha) (B.dB hb)]
 lO:=fun{a} ha=>tO B ha (by rw[B.tM,QR (B.dB ha).len])
 lQ:=fun{a} ha=>tO B ha (by rw[B.tM,QS (B.dB ha)])
def lt(M:Machine)(l:List WM)(a:Nat):Nat:=ix l (letterMap M a)
theorem d8{M:Machine}{l:List WM}(B:aQ M l){a:Nat}(ha:a<M.k):lt M l a<l.length/\mp l (lt M l a)=letterMap M a:=by
 obtain⟨c,hc,e⟩:=B.letter B.pos ha;rw[B.tM,QR (tK B.good ha).len] at e;unfold lt;rw[xn B hc e];exact⟨hc,e⟩
theorem xq{M:Machine}{l:List WM}(B:aQ M l){i:Nat}(h0:0<i)(hi:i<l.length):∃j a,j<i/\a<M.k/\wd l i=wd l j++[a]/\i=pr l j (lt M l a):=by
 obtain⟨j,x,a,h1,h2,h3,h4⟩:=B.grown.pre i _ h0 (atY hi);refine⟨j,a,h1,h3,?_,?_⟩
 ·rw[jL (atY hi),jL h2,h4]
 ·refine(tO B hi ?_).symm;rw[gU (atY hi),gU h2,(d8 B h3).2,h4]
theorem z7{M:Machine}{l:List WM}(B:aQ M l){e a:Nat}(he:e<l.length)(ha:a<M.k):mp l (pr l e (lt M l a))=then_ (mp l e) (letterMap M a):=by
 rw[(fV B he (d8 B ha).1).2,(d8 B ha).2]
def az(M:Machine)(l:List WM):G:=
 ⟨M,l.map fun x=>x.1,(l.map fun x=>x.2).toArray,(l.map fun x=>x.2).toArray.map fun a=>(l.map fun x=>x.2).toArray.map fun b=>indexOf (l.map fun x=>x.2).toArray (then_ a b)⟩
theorem acB(M:Machine):made M=if MOST<(elements M).length then none else some (az M (elements M)):=rfl
theorem cU(M:Machine)(l:List WM):(az M l).n=l.length:=by simp[az,G.n]
theorem eQ{M:Machine}{l:List WM}{a b:Nat}(ha:a<l.length)(hb:b<l.length):(az M l).p a b=pr l a b:=by
 simp[az,G.p,pr,ix,indexOf,mp,at5,ha,hb,avY]
theorem acC{M:Machine}{l:List WM}(a:Nat):(az M l).maps.getD a []=mp l a:=by
 simp[az,mp,at5,avY]
theorem acD{M:Machine}{l:List WM}(w:Word):ofWord (az M l) w=ix l (mapOf M w):=by
 simp[ofWord,az,ix,indexOf,mapOf]
theorem acE{M:Machine}{l:List WM}(B:aQ M l){w:Word}{a:Nat}(hw:∀a,a∈w->a<M.k)(ha:a<M.k):ix l (mapOf M w)<l.length/\ix l (mapOf M (w++[a]))=pr l (ix l (mapOf M w)) (lt M l a):=by
 obtain⟨j,hj,e⟩:=B.Q0 hw;have ej:=xn B hj e;rw[ej];refine⟨hj,?_⟩;refine xn B (fV B hj (d8 B ha).1).1 ?_;rw[z7 B hj ha,e,GD]
theorem lU:∀(n:Nat)(l:List Nat),l.Nodup->(∀x,x∈l->x<n)->l.length<=n
 |0,[],_,_=>by simp
 |0,x::l,_,h=>absurd (h x (at7 ..)) (by omega)
 |n+1,l,hn,h=>by
  by_cases hm:n∈l
  ·have h1:=lU n (l.erase n) (hn.erase n) fun x hx=>by
    rw[hn.mem_erase_iff] at hx;have:=h x hx.2;omega
   rw[awU hm] at h1;omega
  ·have h1:=lU n l hn fun x hx=>by
    have:=h x hx;have:x≠n:=fun e=>hm (e▸hx)
    omega
   omega
def pw(p:Nat->Nat->Nat)(e:Nat):Nat->Nat
 |0=>0
 |n+1=>p (pw p e n) e
section
variable{n:Nat}{p:Nat->Nat->Nat}{e:Nat}
theorem cI(m:Mon n p)(he:e<n):∀i,pw p e i<n
 |0=>m.pos
 |i+1=>m.lt (cI m he i) he
theorem z8(m:Mon n p)(he:e<n):pw p e 1=e:=m.lO he
theorem iI(m:Mon n p)(he:e<n)(a:Nat):∀b,pw p e (a+b)=p (pw p e a) (pw p e b)
 |0=>(m.lQ (cI m he a)).symm
 |b+1=>by
  show p (pw p e (a+b)) e=p (pw p e a) (p (pw p e b) e);rw[iI m he a b,m.assoc (cI m he a) (cI m he b) he]
theorem GQ(m:Mon n p)(he:e<n){i:Nat}(hi:p (pw p e i) (pw p e i)=pw p e i):∀c,0<c->pw p e (i*c)=pw p e i
 |0,h=>absurd h (by omega)
 |1,_=>by rw[Nat.mul_one]
 |c+2,_=>by
  rw[av2,iI m he,GQ m he hi (c+1) (by omega),hi]
theorem acF(m:Mon n p)(he:e<n){i j:Nat}(h0:0<i)(h1:0<j)(hi:p (pw p e i) (pw p e i)=pw p e i)(hj:p (pw p e j) (pw p e j)=pw p e j):pw p e i=pw p e j:=by
 rw[<-GQ m he hi j h1,awB,GQ m he hj i h0]
structure nQ(p:Nat->Nat->Nat)(e T f:Nat):Prop where
 f0:0<f
 fT:f<=T
 diff:∀i j,0<i->i<j->j<=T->pw p e i≠pw p e j
 back:pw p e (T+1)=pw p e f
namespace nQ
variable{T f:Nat}
theorem period(R:nQ p e T f)(m:Mon n p)(he:e<n)(d:Nat):pw p e (T+1+d)=pw p e (f+d):=by
 rw[iI m he (T+1) d,iI m he f d,R.back]
theorem round(R:nQ p e T f)(m:Mon n p)(he:e<n):∀(i:Nat),f<=i->∃j,f<=j/\j<=T/\pw p e i=pw p e j:=by
 intro i
 induction i using avU with
 |_ i ih=>
  intro hi;by_cases hT:i<=T
  ·exact⟨i,hi,hT,rfl⟩
  ·obtain⟨d,rfl⟩:∃d,i=T+1+d:=⟨i- (T+1),by omega⟩
   have:=R.fT;obtain⟨j,h1,h2,h3⟩:=ih (f+d) (by omega) (by omega);exact⟨j,h1,h2,by rw[R.period m he,h3]⟩
theorem loop(R:nQ p e T f)(m:Mon n p)(he:e<n){j:Nat}(hj:f<=j):∀c,pw p e (j+(T+1-f)*c)=pw p e j
 |0=>by simp
 |c+1=>by
  have:=R.fT;have e1:j+(T+1-f)*(c+1)=T+1+(j-f+(T+1-f)*c):=by rw[av2];omega
  have e2:f+(j-f+(T+1-f)*c)=j+(T+1-f)*c:=by omega
  rw[e1,R.period m he,e2,R.loop m he hj c]
theorem le(R:nQ p e T f)(m:Mon n p)(he:e<n):T<=n:=by
 have h:=lU n ((atU T).map fun i=>pw p e (i+1)) (by
  unfold avK;rw[avH];refine avk (R:=fun a b=>a<b) (fun{a b} ha hb hab=>?_) avZ;have:=at4.mp hb;exact R.diff (a+1) (b+1) (by omega) (by omega) (by omega)) fun x hx=>by
   obtain⟨i,_,rfl⟩:=at6.mp hx;exact cI m he _
 simpa using h
theorem idem(R:nQ p e T f)(m:Mon n p)(he:e<n):∃j,0<j/\j<=T/\p (pw p e j) (pw p e j)=pw p e j:=by
 have h1:=R.fT;have h0:=R.f0;obtain⟨r,hr⟩:∃r,r=T+1-f:=⟨_,rfl⟩
 have hr0:0<r:=by omega
 obtain⟨c,hc1,hc2⟩:∃c,f<=r*c/\r*c<=T:=by
  refine⟨T/r,?_,Nat.mul_div_le T r⟩;have:=axz T hr0;have:=Nat.div_add_mod T r;omega
 refine⟨r*c,by omega,hc2,?_⟩;rw[<-iI m he];have:=R.loop m he hc1 c;rw[<-hr] at this;exact this
end nQ
end
theorem nU{M:Machine}{l:List WM}(B:aQ M l){e:Nat}(he:e<l.length):∀i,powers (az M l) e i=pw (pr l) e i
 |0=>rfl
 |1=>(z8 (bH B) he).symm
 |i+2=>by
  show(az M l).p (powers (az M l) e (i+1)) e=pr l (pw (pr l) e (i+1)) e;rw[nU B he (i+1),eQ (cI (bH B) he _) he]
theorem Q5{f:Nat->Nat}{n i:Nat}(h:i<n):((atU n).map f).getD i 0=f i:=by
 simp[at5,h]
theorem acG{M:Machine}{l:List WM}(B:aQ M l){e T f j:Nat}(he:e<l.length)(R:nQ (pr l) e T f)(hj:0<j)(hi:pr l (pw (pr l) e j) (pw (pr l) e j)=pw (pr l) e j):
  powerOf (az M l) e=[pw (pr l) e j,f,T+1-f]:=by
 have m:=bH B;have hT:=R.le m he;have h0:=R.f0;have h1:=R.fT;unfold powerOf;rw[cU];have el:((atU (2*l.length+2)).map fun i=>powers (az M l) e (i+1))=(atU (2*l.length+2)).map fun i=>pw (pr l) e (i+1):=by
  apply avv;intro i _;exact nU B he _
 simp only[el];generalize hL:((atU (2*l.length+2)).map fun i=>pw (pr l) e (i+1))=L;have GX:L.length=2*l.length+2:=by rw[<-hL];simp
 have hg:∀i,i<2*l.length+2->L.getD i 0=pw (pr l) e (i+1):=fun i hi=>by rw[<-hL];exact Q5 hi
 have hc:∀i x,(L.drop (i+1)).contains x=true↔∃d,i+1<=d/\d<2*l.length+2/\pw (pr l) e (d+1)=x:=fun i x=>by
  rw[List.contains_iff_mem,List.mem_iff_getElem?];constructor
  ·rintro⟨d,hd⟩;rw[awN] at hd;have hlt:=(at9.mp hd).1;rw[GX] at hlt;refine⟨i+1+d,by omega,hlt,?_⟩;have:=hg _ hlt;rw[at5,hd] at this;exact this.symm
  ·rintro⟨d,hd1,hd2,eU⟩;refine⟨d- (i+1),?_⟩;rw[awN,show i+1+(d- (i+1))=d by omega,atY (by rw[GX];exact hd2)];have:=hg _ hd2;rw[at5,atY (by rw[GX];exact hd2)] at this;rw[<-eU,<-this];rfl
 have ef:((atU (l.length+1)).find? fun i=>(L.drop (i+1)).contains (L.getD i 0))=some (f-1):=by
  rw[awi];refine⟨?_,at4.mpr (by omega),fun i hi=>?_⟩
  ·rw[hc,hg _ (by omega)];refine⟨T,by omega,by omega,?_⟩;rw[R.back];congr 1;omega
  ·rw[avF];cases q:(L.drop (i+1)).contains (L.getD i 0) with
   |false=>rfl
   |true=>
    obtain⟨d,hd1,hd2,eU⟩:=(hc _ _).mp q;rw[hg _ (by omega)] at eU;by_cases hdf:d+1<f
    ·exact absurd eU.symm (R.diff _ _ (by omega) (by omega) (by omega))
    ·obtain⟨j',a1,a2,a3⟩:=R.round m he (d+1) (by omega);rw[a3] at eU;exact absurd eU.symm (R.diff _ _ (by omega) (by omega) (by omega))
 rw[ef];simp only[awj];have ep:((atU (l.length+1)).find? fun p=>L.getD (f-1+p+1) 0==L.getD (f-1) 0)=some (T-f):=by
  rw[awi];refine⟨?_,at4.mpr (by omega),fun i hi=>?_⟩
  ·rw[hg _ (by omega),hg _ (by omega),beq_iff_eq,show f-1+(T-f)+1+1=T+1 by omega,R.back];congr 1;omega
  ·rw[hg _ (by omega),hg _ (by omega),avF,beq_eq_false_iff_ne];exact(R.diff _ _ (by omega) (by omega) (by omega)).symm
 rw[ep];simp only[awj];have Q6:∀x,x∈L->((az M l).p x x==x)=(pr l x x==x)/\∃d,0<d/\x=pw (pr l) e d:=fun x hx=>by
  rw[<-hL] at hx;obtain⟨i,_,rfl⟩:=at6.mp hx;rw[eQ (cI m he _) (cI m he _)];exact⟨rfl,i+1,by omega,rfl⟩
 have ei:(L.find? fun x=>(az M l).p x x==x).getD 0=pw (pr l) e j:=by
  cases q:L.find? fun x=>(az M l).p x x==x with
  |none=>
   exfalso;rw[axB] at q;obtain⟨d,d1,d2,d3⟩:=R.idem m he;have hmem:pw (pr l) e d∈L:=by
    rw[<-hL];exact at6.mpr ⟨d-1,at4.mpr (by omega),by rw[show d-1+1=d by omega]⟩
   apply q _ hmem;rw[(Q6 _ hmem).1,d3];exact beq_self_eq_true _
  |some x=>
   have hx:=axC q;have hp:=awV q;obtain⟨h2,d,d1,rfl⟩:=Q6 x hx;rw[h2] at hp;exact acF m he d1 hj (eq_of_beq hp) hi
 rw[ei,show f-1+1=f by omega,show T-f+1=T+1-f by omega]
def uZ{α:Type}[DecidableEq α](st:List Nat×List α)(x:α):List Nat×List α:=
 if x∈st.2 then(st.1++[st.2.idxOf x],st.2) else(st.1++[st.2.length],st.2++[x])
def bD{α:Type}[DecidableEq α](keys:List α):List Nat×List α:=keys.foldl uZ ([],[])
theorem z9{α:Type}[DecidableEq α](keys:List α)(x:α):bD (keys++[x])=uZ (bD keys) x:=by
 unfold bD;rw[avT];rfl
structure acH{α:Type}[DecidableEq α](keys:List α)(st:List Nat×List α):Prop where
 len:st.1.length=keys.length
 mem:∀x,x∈st.2↔x∈keys
 nodup:st.2.Nodup
 at_:∀(i:Nat)(x:α),keys[i]?=some x->st.1[i]?=some (st.2.idxOf x)
theorem ig{α:Type}[DecidableEq α]:∀(n:Nat)(keys:List α),keys.length=n->acH keys (bD keys)
 |0,keys,h=>by
  have:keys=[]:=awh h;subst this;exact⟨rfl,fun x=>Iff.rfl,awI,fun i x h=>by simp at h⟩
 |n+1,keys,h=>by
  obtain⟨ks,x,rfl⟩:∃ks x,keys=ks++[x]:=by
   have hne:keys≠[]:=fun e=>by rw[e] at h;simp at h
   exact⟨keys.dropLast,keys.getLast hne,(List.dropLast_concat_getLast hne).symm⟩
  have c:=ig n ks (by simpa using h);rw[z9];unfold uZ
  split
  ·next hx=>
   refine⟨by simp[c.len],fun y=>?_,c.nodup,fun i y hy=>?_⟩
   ·rw[c.mem,aus];refine⟨.inl,fun h=>?_⟩;rcases h with h|h
    ·exact h
    ·simp at h;subst h;exact(c.mem y).mp hx
   ·by_cases hi:i<ks.length
    ·rw[auP hi] at hy;exact jK (c.at_ i y hy)
    ·have hlt:=(at9.mp hy).1;have:i=ks.length:=by simp at hlt;omega
     subst this;simp at hy;subst hy;rw[<-c.len];simp
  ·next hx=>
   refine⟨by simp[c.len],fun y=>?_,?_,fun i y hy=>?_⟩
   ·rw[aus,aus,c.mem]
   ·rw[awT];refine⟨c.nodup,by simp,fun a ha b hb e=>?_⟩;simp at hb;subst hb;subst e;exact hx ha
   ·by_cases hi:i<ks.length
    ·rw[auP hi] at hy;have hm:y∈(bD ks).2:=(c.mem y).mpr (auI hy);have e:((bD ks).2++[x]).idxOf y=(bD ks).2.idxOf y:=by rw[ayA,if_pos hm]
     show((bD ks).1++_)[i]?=some (((bD ks).2++[x]).idxOf y);rw[e];exact jK (c.at_ i y hy)
    ·have hlt:=(at9.mp hy).1;have:i=ks.length:=by simp at hlt;omega
     subst this;simp at hy;subst hy;show((bD ks).1++_)[ks.length]?=some (((bD ks).2++[x]).idxOf x);rw[<-c.len,ayA,if_neg hx];simp
def Aa(r:Nat->Nat->Bool)(st:List Nat×Nat)(a:Nat):List Nat×Nat:=match(atU a).find? fun b=>r a b with
 |some b=>(st.1++[st.1.getD b 0],st.2)
 |none=>(st.1++[st.2],st.2+1)
theorem Ha(g:G)(r:Nat->Nat->Bool):numbered g r=(atU g.n).foldl (Aa r) ([],0):=rfl
theorem Ab{α:Type}[DecidableEq α](r:Nat->Nat->Bool)(key:Nat->α):∀(n:Nat),(∀a b,a<n->b<a->(r a b=true↔key a=key b))->
  (atU n).foldl (Aa r) ([],0)=((bD ((atU n).map key)).1,(bD ((atU n).map key)).2.length)
 |0,_=>rfl
 |n+1,h=>by
  rw[avV,avT,Ab r key n (fun a b ha hb=>h a b (by omega) hb),auO];show Aa r _ n=_;rw[show([n].map key)=[key n] from rfl,z9];have c:=ig n ((atU n).map key) (by simp);generalize bD ((atU n).map key)=st at c;have hat:∀b,b<n->st.1.getD b 0=st.2.idxOf (key b):=fun b hb=>by
   rw[at5,c.at_ b (key b) (by simp[hb])];rfl
  unfold Aa uZ
  split
  ·next b hb=>
   rw[awi] at hb;obtain⟨h1,h2,_⟩:=hb;have h2:=at4.mp h2;have e:=(h n b (by omega) h2).mp h1;have hm:key n∈st.2:=by
    rw[c.mem,e];exact at6.mpr ⟨b,at4.mpr h2,rfl⟩
   rw[if_pos hm];show(st.1++[st.1.getD b 0],st.2.length)=(st.1++[st.2.idxOf (key n)],st.2.length);rw[hat b h2,e]
  ·next hb=>
   have hm:¬key n∈st.2:=fun hm=>by
    rw[c.mem] at hm;obtain⟨b,hb1,hb2⟩:=at6.mp hm;have hb1:=at4.mp hb1;rw[axD] at hb;have:=hb b hb1;rw[(h n b (by omega) hb1).mpr hb2.symm] at this;simp at this
   rw[if_neg hm];simp
inductive Rc(E:Nat->Nat->Prop):Nat->Nat->Prop
 |refl (a:Nat):Rc E a a
 |step {a b c:Nat}:Rc E a b->E b c->Rc E a c
theorem Rc.trans{E:Nat->Nat->Prop}{a b c:Nat}(h:Rc E a b)(k:Rc E b c):Rc E a c:=by
 induction k with
 |refl=>exact h
 |step _ e ih=>exact .step ih e
theorem Rc.head{E:Nat->Nat->Prop}{a b c:Nat}(h:E a b)(k:Rc E b c):Rc E a c:=(Rc.step (.refl a) h).trans k
theorem Rc.mono{E F:Nat->Nat->Prop}(h:∀a b,E a b->F a b){a b:Nat}(k:Rc E a b):Rc F a b:=by
 induction k with
 |refl=>exact .refl _
 |step _ e ih=>exact .step ih (h _ _ e)
section
variable{M:Machine}{l:List WM}
def EB(M:Machine)(l:List WM)(u v:Nat):Prop:=∃a,a<M.k/\v=pr l u (lt M l a)
def EF(M:Machine)(l:List WM)(u v:Nat):Prop:=∃a,a<M.k/\v=pr l (lt M l a) u
def EJ(M:Machine)(l:List WM)(u v:Nat):Prop:=EB M l u v\/EF M l u v
theorem EB.lt(B:aQ M l){u v:Nat}(hu:u<l.length)(h:EB M l u v):v<l.length:=by
 obtain⟨a,ha,rfl⟩:=h;exact(bH B).lt hu (d8 B ha).1
theorem EF.lt(B:aQ M l){u v:Nat}(hu:u<l.length)(h:EF M l u v):v<l.length:=by
 obtain⟨a,ha,rfl⟩:=h;exact(bH B).lt (d8 B ha).1 hu
theorem EJ.lt(B:aQ M l){u v:Nat}(hu:u<l.length)(h:EJ M l u v):v<l.length:=h.elim (EB.lt B hu) (EF.lt B hu)
theorem Rc.lt{E:Nat->Nat->Prop}{n:Nat}(hE:∀u v,u<n->E u v->v<n){a b:Nat}(ha:a<n)(h:Rc E a b):b<n:=by
 induction h with
 |refl=>exact ha
 |step _ e ih=>exact hE _ _ ih e
theorem Hb(B:aQ M l){b:Nat}(hb:b<l.length):∀x,x<l.length->Rc (EB M l) b (pr l b x):=by
 intro x
 induction x using avU with
 |_ x ih=>
  intro hx;by_cases h0:x=0
  ·subst h0;rw[(bH B).lQ hb];exact .refl _
  ·obtain⟨j,a,h1,h2,_,h4⟩:=xq B (by omega) hx;have hj:j<l.length:=by omega
   rw[h4,<-(bH B).assoc hb hj (d8 B h2).1];exact .step (ih j h1 hj) ⟨a,h2,rfl⟩
theorem Hc(B:aQ M l):∀x,x<l.length->∀b,b<l.length->Rc (EF M l) b (pr l x b):=by
 intro x
 induction x using avU with
 |_ x ih=>
  intro hx b hb;by_cases h0:x=0
  ·subst h0;rw[(bH B).lO hb];exact .refl _
  ·obtain⟨j,a,h1,h2,_,h4⟩:=xq B (by omega) hx;have hj:j<l.length:=by omega
   have ha:=(d8 B h2).1;rw[h4,(bH B).assoc hj ha hb];exact Rc.head ⟨a,h2,rfl⟩ (ih j h1 hj _ ((bH B).lt ha hb))
theorem j8(B:aQ M l){a b:Nat}(hb:b<l.length):Rc (EB M l) b a↔∃x,x<l.length/\pr l b x=a:=by
 constructor
 ·intro h
  induction h with
  |refl=>exact⟨0,B.pos,(bH B).lQ hb⟩
  |step _ e ih=>
   obtain⟨x,hx,rfl⟩:=ih;obtain⟨a,ha,rfl⟩:=e;have hl:=(d8 B ha).1;exact⟨pr l x (lt M l a),(bH B).lt hx hl,by rw[(bH B).assoc hb hx hl]⟩
 ·rintro⟨x,hx,rfl⟩;exact Hb B hb x hx
theorem tQ(B:aQ M l){a b:Nat}(hb:b<l.length):Rc (EF M l) b a↔∃x,x<l.length/\pr l x b=a:=by
 constructor
 ·intro h
  induction h with
  |refl=>exact⟨0,B.pos,(bH B).lO hb⟩
  |step _ e ih=>
   obtain⟨x,hx,rfl⟩:=ih;obtain⟨a,ha,rfl⟩:=e;have hl:=(d8 B ha).1;exact⟨pr l (lt M l a) x,(bH B).lt hl hx,by rw[(bH B).assoc hl hx hb]⟩
 ·rintro⟨x,hx,rfl⟩;exact Hc B x hx b hb
theorem xr(B:aQ M l){a b:Nat}(hb:b<l.length):Rc (EJ M l) b a↔∃x y,x<l.length/\y<l.length/\pr l (pr l x b) y=a:=by
 constructor
 ·intro h
  induction h with
  |refl=>exact⟨0,0,B.pos,B.pos,by rw[(bH B).lO hb,(bH B).lQ hb]⟩
  |step _ e ih=>
   obtain⟨x,y,hx,hy,rfl⟩:=ih;rcases e with⟨a,ha,rfl⟩|⟨a,ha,rfl⟩
   ·have hl:=(d8 B ha).1;exact⟨x,pr l y (lt M l a),hx,(bH B).lt hy hl,by rw[(bH B).assoc ((bH B).lt hx hb) hy hl]⟩
   ·have hl:=(d8 B ha).1;exact⟨pr l (lt M l a) x,y,(bH B).lt hl hx,hy,by rw[(bH B).assoc hl hx hb,(bH B).assoc hl ((bH B).lt hx hb) hy]⟩
 ·rintro⟨x,y,hx,hy,rfl⟩;exact((Hc B x hx b hb).mono fun _ _ h=>.inr h).trans ((Hb B ((bH B).lt hx hb) y hy).mono fun _ _ h=>.inl h)
theorem qX{g:G}{f:Nat->Bool}:(els g).any f=true↔∃x,x<g.n/\f x=true:=by
 unfold els;rw[auZ];constructor
 ·rintro⟨x,hx,h⟩;exact⟨x,at4.mp hx,h⟩
 ·rintro⟨x,hx,h⟩;exact⟨x,at4.mpr hx,h⟩
theorem jf{g:G}{f:Nat->Bool}:(els g).all f=true↔∀x,x<g.n->f x=true:=by
 unfold els;rw[auy];constructor
 ·exact fun h x hx=>h x (at4.mpr hx)
 ·exact fun h x hx=>h x (at4.mp hx)
theorem Q7(B:aQ M l){a b:Nat}(hb:b<l.length):leftOf (az M l) a b=true↔Rc (EF M l) b a:=by
 rw[tQ B hb];unfold leftOf;rw[qX,cU];constructor
 ·rintro⟨x,hx,h⟩;exact⟨x,hx,by rw[<-eQ (M:=M) hx hb];exact eq_of_beq h⟩
 ·rintro⟨x,hx,h⟩;exact⟨x,hx,by rw[eQ hx hb,h];exact beq_self_eq_true _⟩
theorem Q8(B:aQ M l){a b:Nat}(hb:b<l.length):rightOf (az M l) a b=true↔Rc (EB M l) b a:=by
 rw[j8 B hb];unfold rightOf;rw[qX,cU];constructor
 ·rintro⟨x,hx,h⟩;exact⟨x,hx,by rw[<-eQ (M:=M) hb hx];exact eq_of_beq h⟩
 ·rintro⟨x,hx,h⟩;exact⟨x,hx,by rw[eQ hb hx,h];exact beq_self_eq_true _⟩
theorem u0(B:aQ M l){a b:Nat}(hb:b<l.length):within (az M l) a b=true↔Rc (EJ M l) b a:=by
 rw[xr B hb];unfold within;rw[qX,cU];constructor
 ·rintro⟨x,hx,h⟩;rw[qX,cU] at h;obtain⟨y,hy,h⟩:=h;rw[eQ hx hb,eQ ((bH B).lt hx hb) hy] at h;exact⟨x,y,hx,hy,eq_of_beq h⟩
 ·rintro⟨x,y,hx,hy,h⟩;refine⟨x,hx,?_⟩;rw[qX,cU];refine⟨y,hy,?_⟩;rw[eQ hx hb,eQ ((bH B).lt hx hb) hy,h];exact beq_self_eq_true _
structure Rest(s:auJ)(n m f:Nat)(t:List Int)(cs:List (List (List Int))):Prop where
 calls:PyFlat.calls av3 f t=some cs
 most:cs.length<=m
 short:ayB s n (cs.map auj)=true
 asked:(cs.map auj).all awk=true
 opened:ayC s (cs.map auj)=true
def due(s:auJ)(cs:List (List (List Int))):List Int:=PyFlat.told (PyFlat.played ava s (cs.map auj))
theorem acI{l:List Int}(h:axE l=true):∃cs,Rest axF 999999 300 l.length l cs/\awl l=due axF cs:=by
 unfold axE PySi08.calls at h;unfold awl PySi08.calls;cases e:PyFlat.calls av3 l.length l with
 |none=>rw[e] at h;simp at h
 |some cs=>
  rw[e] at h;simp only[aup,PyFlat.atMost,decide_eq_true_eq,atR,Si08Neutral.asked] at h;exact⟨cs,⟨e,h.1,h.2.1.1,h.2.1.2,h.2.2⟩,rfl⟩
theorem acJ{s:auJ}{n m f:Nat}{cs:List (List (List Int))}(R:Rest s n m f [] cs):due s cs=[]:=by
 have h:=R.calls;unfold PyFlat.calls at h;cases h;rfl
structure One(s:auJ)(n m f:Nat)(c:List (List Int))(t':List Int)(cs cs':List (List (List Int))):Prop where
 asked:awk (auj c)=true
 opened:axG (auj c)=0\/(Si08Neutral.get s (awW (auj c))).isSome=true
 len:(ava s (auj c)).2.length<=n
 calls:0<m
 rest:Rest (ava s (auj c)).1 (n- (ava s (auj c)).2.length) (m-1) (f-1) t' cs'
 due:due s cs=((ava s (auj c)).2.length:Int)::(ava s (auj c)).2++due (ava s (auj c)).1 cs'
theorem acK{s:auJ}{n m f:Nat}{p:Int}{r:List Int}{cs:List (List (List Int))}(R:Rest s n m f (p::r) cs):∃c t' cs',PyFlat.call av3 (p::r)=some (c,t')/\One s n m f c t' cs cs':=by
 have h:=R.calls;cases f with
 |zero=>unfold PyFlat.calls at h;cases h
 |succ f=>
  unfold PyFlat.calls at h
  split at h
  ·cases h
  ·next c t e=>
   split at h
   ·cases h
   ·next cs' e'=>
    cases h;have h1:=R.most;have h2:=R.short;have h3:=R.asked;have h4:=R.opened;simp only[auf,auH] at h1 h2 h3 h4;unfold ayB at h2;unfold ayC at h4;simp only[List.all_cons,aup,decide_eq_true_eq,axo,beq_iff_eq] at h2 h3 h4;refine⟨c,t,cs',e,⟨h3.1,h4.1,h2.1,by omega,⟨e',by omega,h2.2,h3.2,h4.2⟩,rfl⟩⟩
theorem acL{p:Int}{a:Nat×Nat}(h:av3 p=some a):(p=0/\a=(3,1))\/(p=1/\a=(1,0))\/(p=2/\a=(1,1))\/(p=3/\a=(2,0))\/(p=4/\a=(3,0))\/(p=5/\a=(2,0))\/
  (p=6/\a=(2,0))\/(p=7/\a=(1,0))\/(p=8/\a=(1,0))\/(p=9/\a=(1,0))\/(p=10/\a=(3,0))\/(p=11/\a=(3,0)):=by
 unfold av3 at h;by_cases e0:p=0
 ·rw[if_pos e0] at h;cases h;exact atV ⟨e0,rfl⟩
 rw[if_neg e0] at h;by_cases e1:p=1
 ·rw[if_pos e1] at h;cases h;exact atZ (atV ⟨e1,rfl⟩)
 rw[if_neg e1] at h;by_cases e2:p=2
 ·rw[if_pos e2] at h;cases h;exact atZ (atZ (atV ⟨e2,rfl⟩))
 rw[if_neg e2] at h;by_cases e3:p=3
 ·rw[if_pos e3] at h;cases h;exact atZ (atZ (atZ (atV ⟨e3,rfl⟩)))
 rw[if_neg e3] at h;by_cases e4:p=4
 ·rw[if_pos e4] at h;cases h;exact atZ (atZ (atZ (atZ (atV ⟨e4,rfl⟩))))
 rw[if_neg e4] at h;by_cases e5:p=5
 ·rw[if_pos e5] at h;cases h;exact atZ (atZ (atZ (atZ (atZ (atV ⟨e5,rfl⟩)))))
 rw[if_neg e5] at h;by_cases e6:p=6
 ·rw[if_pos e6] at h;cases h;exact atZ (atZ (atZ (atZ (atZ (atZ (atV ⟨e6,rfl⟩))))))
 rw[if_neg e6] at h;by_cases e7:p=7
 ·rw[if_pos e7] at h;cases h;exact atZ (atZ (atZ (atZ (atZ (atZ (atZ (atV ⟨e7,rfl⟩)))))))
 rw[if_neg e7] at h;by_cases e8:p=8
 ·rw[if_pos e8] at h;cases h;exact atZ (atZ (atZ (atZ (atZ (atZ (atZ (atZ (atV ⟨e8,rfl⟩))))))))
 rw[if_neg e8] at h;by_cases e9:p=9
 ·rw[if_pos e9] at h;cases h;exact atZ (atZ (atZ (atZ (atZ (atZ (atZ (atZ (atZ (atV ⟨e9,rfl⟩)))))))))
 rw[if_neg e9] at h;by_cases e10:p=10
 ·rw[if_pos e10] at h;cases h;exact atZ (atZ (atZ (atZ (atZ (atZ (atZ (atZ (atZ (atZ (atV ⟨e10,rfl⟩))))))))))
 rw[if_neg e10] at h;by_cases tE:p=11
 ·rw[if_pos tE] at h;cases h;exact atZ (atZ (atZ (atZ (atZ (atZ (atZ (atZ (atZ (atZ (atZ (⟨tE,rfl⟩)))))))))))
 rw[if_neg tE] at h;cases h
theorem Q9{r x s:List Int}(h:PyFlat.row r=some (x,s)):∃(n:Nat)(rest:List Int),r=(n:Int)::rest/\n<=rest.length/\x=rest.take n/\s=rest.drop n:=by
 unfold PyFlat.row at h
 split at h
 ·cases h
 ·next n r'=>
  split at h
  ·next hn=>
   cases h;exact⟨n.toNat,r',by rw[ayD hn.1],hn.2,rfl,rfl⟩
  ·cases h
inductive Form:Int->List Int->List (List Int)->List Int->Prop
 |f0 (o q k:Int) (n:Nat) (rest:List Int):n<=rest.length->Form 0 (o::q::k::(n:Int)::rest) [[0,o,q,k],rest.take n] (rest.drop n)
 |f1 (o:Int) (rest:List Int):Form 1 (o::rest) [[1,o]] rest
 |f2 (o:Int) (n:Nat) (rest:List Int):n<=rest.length->Form 2 (o::(n:Int)::rest) [[2,o],rest.take n] (rest.drop n)
 |f3 (o e:Int) (rest:List Int):Form 3 (o::e::rest) [[3,o,e]] rest
 |f4 (o a b:Int) (rest:List Int):Form 4 (o::a::b::rest) [[4,o,a,b]] rest
 |f5 (o e:Int) (rest:List Int):Form 5 (o::e::rest) [[5,o,e]] rest
 |f6 (o e:Int) (rest:List Int):Form 6 (o::e::rest) [[6,o,e]] rest
 |f7 (o:Int) (rest:List Int):Form 7 (o::rest) [[7,o]] rest
 |f8 (o:Int) (rest:List Int):Form 8 (o::rest) [[8,o]] rest
 |f9 (o:Int) (rest:List Int):Form 9 (o::rest) [[9,o]] rest
 |Ra (o a b:Int) (rest:List Int):Form 10 (o::a::b::rest) [[10,o,a,b]] rest
 |f11 (o a b:Int) (rest:List Int):Form 11 (o::a::b::rest) [[11,o,a,b]] rest
theorem len1{r:List Int}(h:¬r.length<1):∃a t,r=a::t:=by
 match r,h with
 |[],h=>simp at h
 |a::t,_=>exact⟨a,t,rfl⟩
theorem Hf{r:List Int}(h:¬r.length<2):∃a b t,r=a::b::t:=by
 match r,h with
 |[],h=>simp at h
 |[a],h=>simp at h
 |a::b::t,_=>exact⟨a,b,t,rfl⟩
theorem Ac{r:List Int}(h:¬r.length<3):∃a b c t,r=a::b::c::t:=by
 match r,h with
 |[],h=>simp at h
 |[a],h=>simp at h
 |[a,b],h=>simp at h
 |a::b::c::t,_=>exact⟨a,b,c,t,rfl⟩
theorem acM{p:Int}{r:List Int}{c:List (List Int)}{t:List Int}(h:PyFlat.call av3 (p::r)=some (c,t)):Form p r c t:=by
 unfold PyFlat.call at h;dsimp only at h
 split at h
 ·cases h
 ·next n k e=>
  split at h
  ·cases h
  ·next hl=>
   split at h
   ·cases h
   ·next xs t' e'=>
    cases h;rcases acL e with⟨rfl,q⟩|⟨rfl,q⟩|⟨rfl,q⟩|⟨rfl,q⟩|⟨rfl,q⟩|⟨rfl,q⟩|⟨rfl,q⟩|⟨rfl,q⟩|⟨rfl,q⟩|⟨rfl,q⟩|⟨rfl,q⟩|⟨rfl,q⟩<;>cases q
    ·obtain⟨o,q,k,r,rfl⟩:=Ac hl;simp only[ayE,List.drop_zero,PyFlat.rows] at e'
     split at e'
     ·cases e'
     ·next x s ex=>
      cases e';obtain⟨n,rest,rfl,hn,rfl,rfl⟩:=Q9 ex;exact .f0 o q k n rest hn
    ·obtain⟨o,r,rfl⟩:=len1 hl;cases e';exact .f1 o r
    ·obtain⟨o,r,rfl⟩:=len1 hl;simp only[ayE,List.drop_zero,PyFlat.rows] at e'
     split at e'
     ·cases e'
     ·next x s ex=>
      cases e';obtain⟨n,rest,rfl,hn,rfl,rfl⟩:=Q9 ex;exact .f2 o n rest hn
    ·obtain⟨o,a,r,rfl⟩:=Hf hl;cases e';exact .f3 o a r
    ·obtain⟨o,a,b,r,rfl⟩:=Ac hl;cases e';exact .f4 o a b r
    ·obtain⟨o,a,r,rfl⟩:=Hf hl;cases e';exact .f5 o a r
    ·obtain⟨o,a,r,rfl⟩:=Hf hl;cases e';exact .f6 o a r
    ·obtain⟨o,r,rfl⟩:=len1 hl;cases e';exact .f7 o r
    ·obtain⟨o,r,rfl⟩:=len1 hl;cases e';exact .f8 o r
    ·obtain⟨o,r,rfl⟩:=len1 hl;cases e';exact .f9 o r
    ·obtain⟨o,a,b,r,rfl⟩:=Ac hl;cases e';exact .Ra o a b r
    ·obtain⟨o,a,b,r,rfl⟩:=Ac hl;cases e';exact .f11 o a b r
theorem Rb{o:Int}(h:auQ o 1=true):o=0\/o=1:=by
 unfold auQ at h;simp only[aup,decide_eq_true_eq] at h;omega
theorem dq{s:auJ}{o:Int}:au2 s o (Si08Neutral.get s o)=s:=by
 unfold au2 Si08Neutral.get
 split<;>rfl
theorem acN{s:auJ}{o:Int}{x:Option G}(ho:o=0\/o=1):Si08Neutral.get (au2 s o x) o=x:=by
 rcases ho with rfl|rfl<;>rfl
theorem acO{s:auJ}{o p:Int}{x:Option G}(ho:o=0\/o=1)(hp:p=0\/p=1)(h:p≠o):Si08Neutral.get (au2 s o x) p=Si08Neutral.get s p:=by
 rcases ho with rfl|rfl<;>rcases hp with rfl|rfl<;>first|rfl|exact absurd rfl h
theorem Hg(l:List Int):(auv l).length=l.length:=by simp[auv]
theorem Hh{o q k:Int}{l:List Int}(h:awk [[0,o,q,k],l]=true):(o=0\/o=1)/\(∀z,z∈l->0<=z/\z<256)/\(-(2^31)<=q/\q<2^31)/\(-(2^31)<=k/\k<2^31)/\
  ((1<=q/\q<=12/\1<=k/\k<=6)->l.length=q.toNat*k.toNat):=by
 have h:(auQ o 1&&(awm q&&(awm k&&(l.all (fun z=>auQ z 8)&&(if 1<=q/\q<=12 then awX l (q*k) q (6*q) else l.isEmpty)))))=true:=h;simp only[aup] at h;obtain⟨h1,h2,h3,h4,h5⟩:=h;unfold awm at h2 h3;simp only[aup,decide_eq_true_eq] at h2 h3;refine⟨Rb h1,fun z hz=>?_,h2,h3,fun⟨a1,a2,a3,a4⟩=>?_⟩
 ·have:=auy.mp h4 z hz;unfold auQ at this;simp only[aup,decide_eq_true_eq] at this;omega
 ·rw[if_pos ⟨a1,a2⟩] at h5;unfold awX at h5;simp only[decide_eq_true_eq] at h5;have e1:q<=q*k:=by
   have:=ayF a3 (show(0:Int)<=q by omega);omega
  have e2:q*k<=6*q:=by
   have:=ayF a4 (show(0:Int)<=q by omega);omega
  rw[if_pos ⟨e1,e2⟩] at h5;obtain⟨q',rfl⟩:=avb (show(0:Int)<=q by omega);obtain⟨k',rfl⟩:=avb (show(0:Int)<=k by omega);simp only[auh];rw[<-Int.natCast_mul] at h5;exact Int.ofNat.inj h5
def jz(q k:Int):Prop:=1<=q/\q<=12/\1<=k/\k<=6
instance {q k:Int}:Decidable (jz q k):=by unfold jz;infer_instance
def aW(q k:Int)(l:List Int):Machine:=⟨q.toNat,k.toNat,auv l⟩
theorem acP{s:auJ}{o q k:Int}{l:List Int}(h:awk [[0,o,q,k],l]=true)(hn:¬jz q k\/∃z,z∈l/\q<=z):ava s [[0,o,q,k],l]=(s,[-2]):=by
 obtain⟨ho,hb,_,_,hl⟩:=Hh h;have e:rules (Si08Neutral.get s o) (.begins q k (auv l))=(Si08Neutral.get s o,refused):=by
  unfold rules;cases hs:Si08Neutral.get s o<;>dsimp only
  all_goals
   rw[if_neg];rintro⟨a1,a2,a3,a4,a5,a6⟩;rcases hn with hn|⟨z,hz,hq⟩
   ·exact hn ⟨a1,a2,a3,a4⟩
   ·have:=auy.mp a6 z.toNat (at6.mpr ⟨z,hz,rfl⟩);simp only[decide_eq_true_eq] at this;have:=hb z hz;omega
 show(au2 s o (rules (Si08Neutral.get s o) (.begins q k (auv l))).1,auA (rules (Si08Neutral.get s o) (.begins q k (auv l))).2)=_;rw[e];show(au2 s o (Si08Neutral.get s o),_)=_;rw[dq];rfl
theorem Rg{s:auJ}{o q k:Int}{l:List Int}(h:awk [[0,o,q,k],l]=true)(hr:jz q k)(hz:∀z,z∈l->z<q):
  ava s [[0,o,q,k],l]=if MOST<(elements (aW q k l)).length then(s,[-1]) else(au2 s o (some (az (aW q k l) (elements (aW q k l)))),[0]):=by
 obtain⟨ho,hb,_,_,hl⟩:=Hh h;have hl:=hl hr;have c:1<=q/\q<=12/\1<=k/\k<=6/\(auv l).length=q.toNat*k.toNat/\((auv l).all fun x=>decide ((x:Int)<q))=true:=by
  obtain⟨a1,a2,a3,a4⟩:=hr;refine⟨a1,a2,a3,a4,by rw[Hg,hl],auy.mpr fun x hx=>?_⟩;obtain⟨z,hz1,rfl⟩:=at6.mp hx;have:=hz z hz1;have:=hb z hz1;simp only[decide_eq_true_eq];omega
 have e:rules (Si08Neutral.get s o) (.begins q k (auv l))=if MOST<(elements (aW q k l)).length then(Si08Neutral.get s o,say (-1)) else(some (az (aW q k l) (elements (aW q k l))),say 0):=by
  unfold rules;cases hs:Si08Neutral.get s o<;>dsimp only
  all_goals
   rw[if_pos c];show(match made (aW q k l) with|some g=>(some g,say 0)|none=>(_,say (-1)))=_;rw[acB];by_cases hm:MOST<(elements (aW q k l)).length
   ·rw[if_pos hm,if_pos hm]
   ·rw[if_neg hm,if_neg hm]
 show(au2 s o (rules (Si08Neutral.get s o) (.begins q k (auv l))).1,auA (rules (Si08Neutral.get s o) (.begins q k (auv l))).2)=_;rw[e];by_cases hm:MOST<(elements (aW q k l)).length
 ·rw[if_pos hm,if_pos hm];show(au2 s o (Si08Neutral.get s o),_)=_;rw[dq];rfl
 ·rw[if_neg hm,if_neg hm];rfl
theorem iu{s:auJ}{c:List (List Int)}{o:Int}{g:G}{a:Si08.Call}(ho:awW c=o)(hc:Si08Neutral.callOf c=some a)(hg:Si08Neutral.get s o=some g)(hr:(rules (some g) a).1=some g):
  ava s c=(s,auA (rules (some g) a).2):=by
 unfold ava;rw[hc];dsimp only;rw[ho,hg,hr,<-hg,dq]
theorem qY(e:Int):element (az M l) e=true↔0<=e/\e<l.length:=by
 unfold element;rw[cU];simp only[aup,decide_eq_true_eq]
theorem acQ:auA (rules (some (az M l)) .size).2=[(l.length:Int)]:=by
 show[((az M l).n:Int)]=_;rw[cU]
theorem acR{w:Word}(h:w.length<=65536)(hw:∀a,a∈w->a<M.k):auA (rules (some (az M l)) (.of (some w))).2=[(ix l (mapOf M w):Int)]:=by
 unfold rules;dsimp only;rw[if_pos ⟨h,auy.mpr fun a ha=>decide_eq_true (hw a ha)⟩,acD];rfl
theorem acS{w:Word}(hw:∃a,a∈w/\M.k<=a):auA (rules (some (az M l)) (.of (some w))).2=[-2]:=by
 unfold rules;dsimp only;rw[if_neg]
 ·rfl
 ·rintro⟨_,h⟩;obtain⟨a,ha,hk⟩:=hw;have:=of_decide_eq_true (auy.mp h a ha);have e:(az M l).M.k=M.k:=rfl;omega
theorem acT{e:Int}(h:0<=e/\e<l.length):auA (rules (some (az M l)) (.word e)).2=0::Si08Neutral.ints (wd l e.toNat):=by
 unfold rules;dsimp only;rw[if_pos ((qY e).mpr h)];rfl
theorem acU{e:Int}(h:¬(0<=e/\e<l.length)):auA (rules (some (az M l)) (.word e)).2=[-2]:=by
 unfold rules;dsimp only;rw[if_neg fun z=>h ((qY e).mp z)];rfl
theorem acV{a b:Int}(ha:0<=a/\a<l.length)(hb:0<=b/\b<l.length):auA (rules (some (az M l)) (.product a b)).2=[(pr l a.toNat b.toNat:Int)]:=by
 unfold rules;dsimp only;rw[if_pos ⟨(qY a).mpr ha,(qY b).mpr hb⟩,eQ (by omega) (by omega)];rfl
theorem acW{a b:Int}(h:¬((0<=a/\a<l.length)/\(0<=b/\b<l.length))):auA (rules (some (az M l)) (.product a b)).2=[-2]:=by
 unfold rules;dsimp only;rw[if_neg fun z=>h ⟨(qY a).mp z.1,(qY b).mp z.2⟩];rfl
theorem acX{e:Int}(h:0<=e/\e<l.length):auA (rules (some (az M l)) (.power e)).2=0::Si08Neutral.ints (powerOf (az M l) e.toNat):=by
 unfold rules;dsimp only;rw[if_pos ((qY e).mpr h)];rfl
theorem acY{e:Int}(h:¬(0<=e/\e<l.length)):auA (rules (some (az M l)) (.power e)).2=[-2]:=by
 unfold rules;dsimp only;rw[if_neg fun z=>h ((qY e).mp z)];rfl
end
theorem lV{α:Type}[DecidableEq α]:∀(l l':List α),l.Nodup->(∀x,x∈l->x∈l')->l.length<=l'.length
 |[],l',_,_=>by simp
 |x::l,l',hn,h=>by
  have hx:=h x (at7 ..);have hn':=au8.mp hn;have h1:=lV l (l'.erase x) hn'.2 fun y hy=>by
   have hne:y≠x:=fun e=>hn'.1 (e▸hy)
   exact(awn hne).mpr (h y (at8 _ hy))
  rw[awU hx] at h1;have h2:=awY hx;simp only[auH];omega
theorem Ad{α:Type}{l:List α}{i:Nat}{x d:α}(h:l[i]?=some x):l.getD i d=x:=by
 rw[at5,h];rfl
theorem nW{α:Type}{l:List α}{i:Nat}{d:α}(h:i<l.length):l[i]?=some (l.getD i d):=by
 rw[at5,atY h];rfl
theorem mem_getD{α:Type}{l:List α}{i:Nat}{d:α}(h:i<l.length):l.getD i d∈l:=auI (nW h)
theorem getD_mem{α:Type}{l:List α}{x d:α}(h:x∈l):∃i,i<l.length/\l.getD i d=x:=by
 obtain⟨i,hi⟩:=avf h;exact⟨i,(at9.mp hi).1,Ad hi⟩
structure Cl(n:Nat)(r:Nat->Nat->Prop)(cl:List Nat)(C:Nat):Prop where
 len:cl.length=n
 iff:∀a b,a<n->b<n->(cl.getD a 0=cl.getD b 0↔r a b)
 lt:∀a,a<n->cl.getD a 0<C
 onto:∀c,c<C->∃a,a<n/\cl.getD a 0=c
theorem Rh{α:Type}[DecidableEq α](keys:List α)(key:Nat->α)(hk:∀i,i<keys.length->keys[i]?=some (key i)):Cl keys.length (fun a b=>key a=key b) (bD keys).1 (bD keys).2.length:=by
 have c:=ig _ keys rfl;have hat:∀a,a<keys.length->(bD keys).1.getD a 0=(bD keys).2.idxOf (key a):=fun a ha=>Ad (c.at_ a _ (hk a ha))
 have hm:∀a,a<keys.length->key a∈(bD keys).2:=fun a ha=>(c.mem _).mpr (auI (hk a ha))
 refine⟨c.len,fun a b ha hb=>?_,fun a ha=>?_,fun x hx=>?_⟩
 ·rw[hat a ha,hat b hb];refine⟨fun e=>?_,fun e=>by rw[e]⟩;have h1:=avj (hm a ha);have h2:=avj (hm b hb);have e1:=avJ h1;have e2:=avJ h2;rw[<-e1,<-e2];congr 1
 ·rw[hat a ha];exact avj (hm a ha)
 ·have hx':=(c.mem _).mp (au1 hx);obtain⟨i,hi⟩:=avf hx';have hl:=(at9.mp hi).1;refine⟨i,hl,?_⟩;have ek:key i=(bD keys).2[x]:=aub ((hk i hl).symm.trans hi);rw[hat i hl,ek];have hlt:=avj (au1 hx);exact(av6 (h₀:=hlt) (h₁:=hx) c.nodup).mp (avJ hlt)
theorem Cl.congr{n:Nat}{r r':Nat->Nat->Prop}{cl:List Nat}{C:Nat}(c:Cl n r cl C)(h:∀a b,a<n->b<n->(r a b↔r' a b)):Cl n r' cl C:=
 ⟨c.len,fun a b ha hb=>(c.iff a b ha hb).trans (h a b ha hb),c.lt,c.onto⟩
theorem Hi(g:G)(r:Nat->Nat->Bool)(hr:∀a,a<g.n->r a a=true)(hs:∀a b,a<g.n->b<g.n->r a b=true->r b a=true)(ht:∀a b c,a<g.n->b<g.n->c<g.n->r a b=true->r b c=true->r a c=true):
  Cl g.n (fun a b=>r a b=true) (numbered g r).1 (numbered g r).2:=by
 have Ri:∀a b,a<g.n->b<g.n->(r a b=true↔(atU g.n).find? (r a)=(atU g.n).find? (r b)):=fun a b ha hb=>by
  constructor
  ·intro h;have e:∀x,x∈atU g.n->r a x=r b x:=fun x hx=>by
    have hx:=at4.mp hx;rw[auz];exact⟨fun q=>ht b a x hb ha hx (hs a b ha hb h) q,fun q=>ht a b x ha hb hx h q⟩
   have:∀l:List Nat,(∀x,x∈l->x∈atU g.n)->l.find? (r a)=l.find? (r b):=by
    intro l
    induction l with
    |nil=>intro _;rfl
    |cons y l ih=>
     intro hl;rw[avt,avt,e y (hl y (at7 ..)),ih fun x hx=>hl x (at8 _ hx)]
   exact this _ fun x hx=>hx
  ·intro h;cases q:(atU g.n).find? (r a) with
   |none=>
    rw[axB] at q;exact absurd (hr a ha) (q a (at4.mpr ha))
   |some c=>
    have q2:(atU g.n).find? (r b)=some c:=by rw[<-h];exact q
    have hc:=at4.mp (axC q);exact ht a c b ha hc hb (awV q) (hs b c hb hc (awV q2))
 have e:=Ab r (fun a=>(atU g.n).find? (r a)) g.n fun a b ha hb=>Ri a b ha (by omega)
 rw[<-Ha] at e;rw[e];have c:=Rh ((atU g.n).map fun a=>(atU g.n).find? (r a)) (fun a=>(atU g.n).find? (r a)) (fun i hi=>by
  simp only[atR,au0] at hi;simp[hi])
 simp only[atR,au0] at c;exact c.congr fun a b ha hb=>(Ri a b ha hb).symm
namespace Cl
variable{n C:Nat}{r:Nat->Nat->Prop}{cl:List Nat}
theorem le(c:Cl n r cl C):C<=n:=by
 have h:=lV (atU C) ((atU n).map fun a=>cl.getD a 0) axH fun x hx=>by
  obtain⟨a,ha,e⟩:=c.onto x (at4.mp hx);exact at6.mpr ⟨a,at4.mpr ha,e⟩
 simpa using h
theorem pos(c:Cl n r cl C)(h:0<n):0<C:=axI (aul _) (c.lt 0 h)
theorem Rj(c:Cl n r cl C):C=n↔∀a b,a<n->b<n->r a b->a=b:=by
 constructor
 ·intro h a b ha hb hab;apply avh;intro hne;have e:=(c.iff a b ha hb).mpr hab;have h1:=lV (atU C) (((atU n).erase b).map fun a=>cl.getD a 0) axH fun x hx=>by
   obtain⟨y,hy,e2⟩:=c.onto x (at4.mp hx);by_cases q:y=b
   ·subst q;exact at6.mpr ⟨a,(awn hne).mpr (at4.mpr ha),by rw[e,e2]⟩
   ·exact at6.mpr ⟨y,(awn q).mpr (at4.mpr hy),e2⟩
  rw[au0,atR,awU (at4.mpr hb),au0] at h1;omega
 ·intro h;have h1:=c.le;have h2:=lU C ((atU n).map fun a=>cl.getD a 0) (by
   unfold avK;rw[avH];refine avk (R:=fun a b=>a<b) (fun{a b} ha hb hab e=>?_) avZ;have ha:=at4.mp ha;have hb:=at4.mp hb;have:=h a b ha hb ((c.iff a b ha hb).mp e);omega) fun x hx=>by
    obtain⟨a,ha,rfl⟩:=at6.mp hx;exact c.lt a (at4.mp ha)
  rw[atR,au0] at h2;omega
theorem acZ(c:Cl n r cl C)(h0:0<n):C=1↔∀a,a<n->r a 0:=by
 constructor
 ·intro h a ha;refine(c.iff a 0 ha h0).mp ?_;have h1:=c.lt a ha;have h2:=c.lt 0 h0;omega
 ·intro h;have h1:=c.pos h0;apply avh;intro hne;obtain⟨a,ha,e1⟩:=c.onto 1 (by omega);obtain⟨b,hb,e2⟩:=c.onto 0 (by omega);have e3:=(c.iff a 0 ha h0).mpr (h a ha);have e4:=(c.iff b 0 hb h0).mpr (h b hb);omega
theorem max(c:Cl n r cl C)(h0:0<n){m:Nat}(hm:m∈cl)(hle:∀x,x∈cl->x<=m):m+1=C:=by
 have h1:=c.pos h0;obtain⟨i,hi,rfl⟩:=getD_mem (d:=0) hm;have h2:=c.lt i (by rw[<-c.len];exact hi);obtain⟨a,ha,e⟩:=c.onto (C-1) (by omega);have h3:=hle _ (mem_getD (d:=0) (show a<cl.length by rw[c.len];exact ha));omega
end Cl
def iJ(idem:Nat->Bool)(cl:List Nat)(C:Nat):Nat->List Nat
 |0=>auk C 0
 |i+1=>if idem i=true then(iJ idem cl C i).set (cl.getD i 0) ((iJ idem cl C i).getD (cl.getD i 0) 0+1) else iJ idem cl C i
theorem vd(idem:Nat->Bool)(cl:List Nat)(C:Nat):∀i,(iJ idem cl C i).length=C
 |0=>by simp[iJ]
 |i+1=>by
  unfold iJ
  split
  ·rw[avN,vd idem cl C i]
  ·exact vd idem cl C i
theorem sum_set:∀(l:List Nat)(c:Nat),c<l.length->(l.set c (l.getD c 0+1)).sum=l.sum+1
 |[],c,h=>by simp at h
 |x::l,0,_=>by simp[at5];omega
 |x::l,c+1,h=>by
  have:=sum_set l c (by simpa using h);simp only[List.set_cons_succ,auT,List.getD_cons_succ];omega
theorem Rk{idem:Nat->Bool}{cl:List Nat}{C:Nat}:∀i,(∀a,a<i->cl.getD a 0<C)->(iJ idem cl C i).sum=((atU i).filter idem).length
 |0,_=>by simp[iJ]
 |i+1,h=>by
  have ih:=Rk (idem:=idem) i fun a ha=>h a (by omega)
  unfold iJ;rw[avV,awZ,aud]
  split
  ·next q=>
   rw[sum_set _ _ (by rw[vd];exact h i (by omega)),ih];simp[q]
  ·next q=>
   rw[ih];simp[q]
theorem Rm{idem:Nat->Bool}{cl:List Nat}{C c:Nat}(hc:c<C):∀i,(∀a,a<i->cl.getD a 0<C)->(iJ idem cl C i).getD c 0=((atU i).filter fun e=>idem e&&cl.getD e 0==c).length
 |0,_=>by simp[iJ,hc,at5]
 |i+1,h=>by
  have ih:=Rm (idem:=idem) hc i fun a ha=>h a (by omega)
  unfold iJ;rw[avV,awZ,aud]
  split
  ·next q=>
   by_cases e:cl.getD i 0=c
   ·rw[e,at5,awt (by rw[vd];exact hc)];simp only[awj];rw[ih];simp only[at5] at e;simp[q,e]
   ·rw[at5,awu e,<-at5,ih];simp only[at5] at e;simp[e]
  ·next q=>
   rw[ih];simp[q]
theorem Hj{n:Nat}{f:Nat->Bool}:((atU n).filter f).length=1↔∃x,x<n/\f x=true/\∀y,y<n->f y=true->y=x:=by
 constructor
 ·intro h;obtain⟨x,hx⟩:=List.length_eq_one_iff.mp h;have hm:∀y,y∈(atU n).filter f↔y=x:=fun y=>by rw[hx];simp
  have h1:=(hm x).mpr rfl;rw[avy,at4] at h1;exact⟨x,h1.1,h1.2,fun y hy hf=>(hm y).mp (avy.mpr ⟨at4.mpr hy,hf⟩)⟩
 ·rintro⟨x,hx,hf,hu⟩;have h1:1<=((atU n).filter f).length:=awY (avy.mpr ⟨at4.mpr hx,hf⟩);have h2:=lV ((atU n).filter f) [x] (axH.filter f) fun y hy=>by
   rw[avy,at4] at hy;rw[hu y hy.1 hy.2];exact auE.mpr rfl
  simp at h2;omega
theorem ac0{n:Nat}{f:Nat->Bool}:0<((atU n).filter f).length↔∃x,x<n/\f x=true:=by
 rw[List.length_pos_iff_exists_mem];constructor
 ·rintro⟨x,hx⟩;rw[avy,at4] at hx;exact⟨x,hx⟩
 ·rintro⟨x,h1,h2⟩;exact⟨x,avy.mpr ⟨at4.mpr h1,h2⟩⟩
theorem ac1{n:Nat}{f:Nat->Bool}:((atU n).filter f).length=n↔∀x,x<n->f x=true:=by
 have e:((atU n).filter f).length=(atU n).length↔_:=ayG;rw[au0] at e;rw[e];exact⟨fun h x hx=>h x (at4.mpr hx),fun h x hx=>h x (at4.mp hx)⟩
section
variable{n:Nat}{p:Nat->Nat->Nat}
theorem Ae(m:Mon n p){e:Nat}(he:e<n):∃i j,0<i/\i<j/\j<=n+1/\pw p e i=pw p e j:=by
 apply avh;intro h;have h1:=lU n ((atU (n+1)).map fun i=>pw p e (i+1)) (by
  unfold avK;rw[avH];refine avk (R:=fun a b=>a<b) (fun{a b} ha hb hab q=>?_) avZ;have hb:=at4.mp hb;exact h ⟨a+1,b+1,by omega,by omega,by omega,q⟩) fun x hx=>by
   obtain⟨i,_,rfl⟩:=at6.mp hx;exact cI m he _
 simp at h1;omega
theorem Af(m:Mon n p){e:Nat}(he:e<n)(i:Nat):pw p e (i+1)=p e (pw p e i):=by
 rw[axk,iI m he 1 i,z8 m he]
theorem Rn(m:Mon n p){u a y:Nat}(hu:u<n)(ha:a<n)(hy:y<n)(h:p (p u a) y=a):∀k,p (p (pw p u k) a) (pw p y k)=a
 |0=>by
  show p (p 0 a) 0=a;rw[m.lO ha,m.lQ ha]
 |k+1=>by
  have ih:=Rn m hu ha hy h k;have hk:=cI m hu k;have hk':=cI m hy k;have Ro:=m.lt hu ha;show p (p (p (pw p u k) u) a) (pw p y (k+1))=a;rw[Af m hy k,m.assoc hk hu ha,m.assoc hk Ro (m.lt hy hk'),<-m.assoc Ro hy hk',h,<-m.assoc hk ha hk'];exact ih
def Lf(n:Nat)(p:Nat->Nat->Nat)(a b:Nat):Prop:=∃x,x<n/\p x b=a
def Rf(n:Nat)(p:Nat->Nat->Nat)(a b:Nat):Prop:=∃x,x<n/\p b x=a
theorem ac2(m:Mon n p):(∀a,a<n->∃i,i<n+1/\pw p a (i+1)=pw p a (i+2))↔∀a b,a<n->b<n->(Lf n p a b/\Lf n p b a)/\(Rf n p a b/\Rf n p b a)->a=b:=by
 constructor
 ·rintro h a b ha hb ⟨⟨⟨u,hu,e1⟩,_⟩,_,⟨y,hy,e2⟩⟩;have e3:p (p u a) y=a:=by rw[m.assoc hu ha hy,e2,e1]
  obtain⟨i,hi,e4⟩:=h u hu;have e5:=Rn m hu ha hy e3 (i+1);have hk:=cI m hu (i+1);have hk':=cI m hy (i+1);have e6:p u a=a:=by
   have h1:p u (p (p (pw p u (i+1)) a) (pw p y (i+1)))=p (p (pw p u (i+2)) a) (pw p y (i+1)):=by
    rw[Af m hu (i+1),<-m.assoc hu (m.lt hk ha) hk',<-m.assoc hu hk ha]
   rw[e5,<-e4,e5] at h1;exact h1
  rw[e6,e2] at e3;exact e3.symm
 ·intro h a ha;obtain⟨i,j,h1,h2,h3,h4⟩:=Ae m ha;refine⟨i-1,by omega,?_⟩;rw[show i-1+1=i by omega,show i-1+2=i+1 by omega];have hi:=cI m ha i;have hi1:=cI m ha (i+1);have hd:=cI m ha (j-i-1);have e1:p (pw p a (i+1)) (pw p a (j-i-1))=pw p a i:=by rw[<-iI m ha,h4];congr 1;omega
  have e2:p (pw p a (j-i-1)) (pw p a (i+1))=pw p a i:=by rw[<-iI m ha,h4];congr 1;omega
  exact h _ _ hi hi1 ⟨⟨⟨_,hd,e2⟩,⟨a,ha,(Af m ha i).symm⟩⟩,⟨_,hd,e1⟩,⟨a,ha,rfl⟩⟩
theorem Hk(m:Mon n p){a:Nat}(ha:a<n):(∃b,b<n/\p (p a b) a=a)↔∃e,e<n/\p e e=e/\Rf n p a e/\Rf n p e a:=by
 constructor
 ·rintro⟨b,hb,h⟩;have hab:=m.lt ha hb;exact⟨p a b,hab,by rw[<-m.assoc hab ha hb,h],⟨a,ha,h⟩,⟨b,hb,rfl⟩⟩
 ·rintro⟨e,he,h1,⟨x,hx,h2⟩,y,hy,h3⟩;exact⟨y,hy,by rw[h3,<-h2,<-m.assoc he he hx,h1]⟩
theorem ac3(m:Mon n p){a:Nat}(ha:a<n):(∃b,b<n/\p (p a b) a=a)↔∃e,e<n/\p e e=e/\Lf n p a e/\Lf n p e a:=by
 constructor
 ·rintro⟨b,hb,h⟩;have hba:=m.lt hb ha;rw[m.assoc ha hb ha] at h;exact⟨p b a,hba,by rw[m.assoc hb ha hba,h],⟨a,ha,h⟩,⟨b,hb,rfl⟩⟩
 ·rintro⟨e,he,h1,⟨x,hx,h2⟩,y,hy,h3⟩;exact⟨y,hy,by rw[m.assoc ha hy ha,h3,<-h2,m.assoc hx he he,h1]⟩
def Inv(p:Nat->Nat->Nat)(a b:Nat):Prop:=p (p a b) a=a/\p (p b a) b=b
theorem ac4(m:Mon n p):(∀a,a<n->∃b,b<n/\Inv p a b/\∀c,c<n->Inv p a c->c=b)↔
  (∀a,a<n->∃e,e<n/\(p e e=e/\Lf n p a e/\Lf n p e a)/\∀f,f<n->(p f f=f/\Lf n p a f/\Lf n p f a)->f=e)/\
  (∀a,a<n->∃e,e<n/\(p e e=e/\Rf n p a e/\Rf n p e a)/\∀f,f<n->(p f f=f/\Rf n p a f/\Rf n p f a)->f=e):=by
 constructor
 ·intro h;have one:∀e f,e<n->f<n->Inv p e e->Inv p e f->f=e:=fun e f he hf i1 i2=>by
   obtain⟨b,hb,_,hu⟩:=h e he;rw[hu f hf i2,hu e he i1]
  refine⟨fun a ha=>?_,fun a ha=>?_⟩
  ·obtain⟨b,hb,hi,_⟩:=h a ha;obtain⟨e,he,h1,h2,h3⟩:=(ac3 m ha).mp ⟨b,hb,hi.1⟩;refine⟨e,he,⟨h1,h2,h3⟩,fun f hf q=>?_⟩;obtain⟨q1,⟨x,hx,q2⟩,y,hy,q3⟩:=q;obtain⟨u,hu,h2⟩:=h2;obtain⟨v,hv,h3⟩:=h3;have ef:p e f=e:=by
    rw[<-h3,<-q2,m.assoc hv (m.lt hx hf) hf,m.assoc hx hf hf,q1]
   have fe:p f e=f:=by
    rw[<-q3,<-h2,m.assoc hy (m.lt hu he) he,m.assoc hu he he,h1]
   exact one e f he hf ⟨by rw[h1,h1],by rw[h1,h1]⟩ ⟨by rw[ef,h1],by rw[fe,q1]⟩
  ·obtain⟨b,hb,hi,_⟩:=h a ha;obtain⟨e,he,h1,h2,h3⟩:=(Hk m ha).mp ⟨b,hb,hi.1⟩;refine⟨e,he,⟨h1,h2,h3⟩,fun f hf q=>?_⟩;obtain⟨q1,⟨x,hx,q2⟩,y,hy,q3⟩:=q;obtain⟨u,hu,h2⟩:=h2;obtain⟨v,hv,h3⟩:=h3;have ef:p e f=f:=by
    rw[<-q3,<-h2,<-m.assoc he (m.lt he hu) hy,<-m.assoc he he hu,h1]
   have fe:p f e=e:=by
    rw[<-h3,<-q2,<-m.assoc hf (m.lt hf hx) hv,<-m.assoc hf hf hx,q1]
   exact one e f he hf ⟨by rw[h1,h1],by rw[h1,h1]⟩ ⟨by rw[ef,fe],by rw[fe,ef]⟩
 ·rintro⟨hL,hR⟩ a ha;obtain⟨e,he,h1,hu1⟩:=hR a ha;obtain⟨b,hb,hab⟩:=(Hk m ha).mpr ⟨e,he,h1⟩;obtain⟨e',he',h1',hu2⟩:=hL a ha;have hba:=m.lt hb ha;have amG:=m.lt ha hb;have exi:∀b c,b<n->c<n->Inv p a b->Inv p a c->b=c:=fun b c hb hc ib ic=>by
   have r1:=hu1 (p a b) (m.lt ha hb) ⟨by rw[<-m.assoc (m.lt ha hb) ha hb,ib.1],⟨a,ha,ib.1⟩,⟨b,hb,rfl⟩⟩;have r2:=hu1 (p a c) (m.lt ha hc) ⟨by rw[<-m.assoc (m.lt ha hc) ha hc,ic.1],⟨a,ha,ic.1⟩,⟨c,hc,rfl⟩⟩;have l1:=hu2 (p b a) (m.lt hb ha) ⟨by rw[m.assoc hb ha (m.lt hb ha),<-m.assoc ha hb ha,ib.1],⟨a,ha,by rw[<-m.assoc ha hb ha];exact ib.1⟩,⟨b,hb,rfl⟩⟩;have l2:=hu2 (p c a) (m.lt hc ha) ⟨by rw[m.assoc hc ha (m.lt hc ha),<-m.assoc ha hc ha,ic.1],⟨a,ha,by rw[<-m.assoc ha hc ha];exact ic.1⟩,⟨c,hc,rfl⟩⟩;have e1:p a b=p a c:=r1.trans r2.symm;have e2:p b a=p c a:=l1.trans l2.symm;have s1:=ib.2;have s2:=ic.2;rw[m.assoc hb ha hb,e1,<-m.assoc hb ha hc,e2,s2] at s1;exact s1.symm
  have Rp:=m.lt hba hb;have i0:Inv p a (p (p b a) b):=by
   have e1:p a (p (p b a) b)=p a b:=by rw[<-m.assoc ha hba hb,<-m.assoc ha hb ha,hab]
   have e2:p (p (p b a) b) a=p b a:=by rw[m.assoc hba hb ha,m.assoc hb ha hba,<-m.assoc ha hb ha,hab]
   exact⟨by rw[e1,hab],by rw[e2,<-m.assoc hba hba hb,m.assoc hb ha hba,<-m.assoc ha hb ha,hab]⟩
  exact⟨_,Rp,i0,fun c hc ic=>exi c _ hc Rp ic i0⟩
end
section
variable{M:Machine}{l:List WM}
def aF(M:Machine)(l:List WM)(k:Nat):List Nat×Nat:=numbered (az M l) (alikeB (az M l) k)
theorem lW(B:aQ M l){a b:Nat}(ha:a<l.length)(hb:b<l.length):alikeB (az M l) 0 a b=true↔Rc (EF M l) b a/\Rc (EF M l) a b:=by
 show(leftOf (az M l) a b&&leftOf (az M l) b a)=true↔_;rw[aup,Q7 B hb,Q7 B ha]
theorem jA(B:aQ M l){a b:Nat}(ha:a<l.length)(hb:b<l.length):alikeB (az M l) 1 a b=true↔Rc (EB M l) b a/\Rc (EB M l) a b:=by
 show(rightOf (az M l) a b&&rightOf (az M l) b a)=true↔_;rw[aup,Q8 B hb,Q8 B ha]
theorem Rq(B:aQ M l){a b:Nat}(ha:a<l.length)(hb:b<l.length):alikeB (az M l) 2 a b=true↔Rc (EJ M l) b a/\Rc (EJ M l) a b:=by
 show(Out.within (az M l) a b&&Out.within (az M l) b a)=true↔_;rw[aup,u0 B hb,u0 B ha]
theorem pL(g:G)(a b:Nat):alikeB g 3 a b=true↔alikeB g 0 a b=true/\alikeB g 1 a b=true:=by
 show(leftOf g a b&&leftOf g b a&&(rightOf g a b&&rightOf g b a))=true↔(leftOf g a b&&leftOf g b a)=true/\(rightOf g a b&&rightOf g b a)=true;rw[aup]
theorem Hl(B:aQ M l)(k:Nat)(E:Nat->Nat->Prop)(h:∀a b,a<l.length->b<l.length->(alikeB (az M l) k a b=true↔Rc E b a/\Rc E a b)):Cl l.length (fun a b=>alikeB (az M l) k a b=true) (aF M l k).1 (aF M l k).2:=by
 have c:=Hi (az M l) (alikeB (az M l) k);rw[cU] at c;refine c (fun a ha=>(h a a ha ha).mpr ⟨.refl _,.refl _⟩) (fun a b ha hb q=>?_) (fun a b c ha hb hc q q'=>?_)
 ·obtain⟨h1,h2⟩:=(h a b ha hb).mp q;exact(h b a hb ha).mpr ⟨h2,h1⟩
 ·obtain⟨h1,h2⟩:=(h a b ha hb).mp q;obtain⟨h3,h4⟩:=(h b c hb hc).mp q';exact(h a c ha hc).mpr ⟨h3.trans h1,h2.trans h4⟩
theorem qZ(B:aQ M l):Cl l.length (fun a b=>alikeB (az M l) 0 a b=true) (aF M l 0).1 (aF M l 0).2:=Hl B 0 _ fun a b ha hb=>lW B ha hb
theorem lX(B:aQ M l):Cl l.length (fun a b=>alikeB (az M l) 1 a b=true) (aF M l 1).1 (aF M l 1).2:=Hl B 1 _ fun a b ha hb=>jA B ha hb
theorem Hm(B:aQ M l):Cl l.length (fun a b=>alikeB (az M l) 2 a b=true) (aF M l 2).1 (aF M l 2).2:=Hl B 2 _ fun a b ha hb=>Rq B ha hb
theorem Hn(B:aQ M l):Cl l.length (fun a b=>alikeB (az M l) 3 a b=true) (aF M l 3).1 (aF M l 3).2:=by
 have c:=Hi (az M l) (alikeB (az M l) 3);rw[cU] at c;refine c (fun a ha=>(pL _ a a).mpr ⟨(lW B ha ha).mpr ⟨.refl _,.refl _⟩,(jA B ha ha).mpr ⟨.refl _,.refl _⟩⟩) (fun a b ha hb q=>?_) (fun a b c ha hb hc q q'=>?_)
 ·obtain⟨h1,h2⟩:=(pL _ a b).mp q;exact(pL _ b a).mpr ⟨(lW B hb ha).mpr ((lW B ha hb).mp h1).symm,(jA B hb ha).mpr ((jA B ha hb).mp h2).symm⟩
 ·obtain⟨h1,h2⟩:=(pL _ a b).mp q;obtain⟨h3,h4⟩:=(pL _ b c).mp q';have a1:=(lW B ha hb).mp h1;have a2:=(lW B hb hc).mp h3;have a3:=(jA B ha hb).mp h2;have a4:=(jA B hb hc).mp h4;exact(pL _ a c).mpr ⟨(lW B ha hc).mpr ⟨a2.1.trans a1.1,a1.2.trans a2.2⟩,(jA B ha hc).mpr ⟨a4.1.trans a3.1,a3.2.trans a4.2⟩⟩
theorem Rr{α:Type}[DecidableEq α](k:Nat)(keys:List α)(hl:keys.length=l.length)(h:∀a b x y,keys[a]?=some x->keys[b]?=some y->(alikeB (az M l) k a b=true↔x=y)):
  aF M l k=((bD keys).1,(bD keys).2.length):=by
 unfold aF;rw[Ha,cU];by_cases h0:l.length=0
 ·have:keys=[]:=awh (by omega);subst this;rw[h0];rfl
 ·obtain⟨x0,hx0⟩:∃x,keys[0]?=some x:=⟨_,atY (by omega)⟩
  have e:=Ab (alikeB (az M l) k) (fun i=>keys.getD i x0) l.length fun a b ha hb=>h a b _ _ (nW (by omega)) (nW (by omega))
  have e2:(atU l.length).map (fun i=>keys.getD i x0)=keys:=by
   apply av1
   ·simp[hl]
   ·intro i h1 h2;simp[at5,h2]
  rw[e2] at e;exact e
def iK(l:List WM)(e:Nat):Bool:=then_ (mp l e) (mp l e)==mp l e
theorem Ho(B:aQ M l){e:Nat}(he:e<l.length):iK l e=true↔pr l e e=e:=by
 unfold iK;rw[beq_iff_eq];constructor
 ·exact fun h=>tO B he h.symm
 ·intro h;rw[<-(fV B he he).2,h]
def iw(M:Machine):Bool:=(atU M.k).all fun x=>(atU M.k).all fun y=>then_ (letterMap M x) (letterMap M y)==then_ (letterMap M y) (letterMap M x)
def cz(M:Machine)(l:List WM)(k:Nat):List Nat:=iJ (iK l) (aF M l k).1 (aF M l k).2 l.length
def j9(M:Machine)(l:List WM):List Bool:=[iw M,(cz M l 1).sum==l.length,(aF M l 1).2==1,(aF M l 3).2==l.length,(aF M l 2).2==l.length,(aF M l 1).2==l.length,(aF M l 0).2==l.length,
 (cz M l 1).all (fun x=>decide (0<x)),(cz M l 0++cz M l 1).all fun x=>x==1]
theorem ac6(B:aQ M l):((els (az M l)).all fun a=>(els (az M l)).all fun b=>(az M l).p a b==(az M l).p b a)=iw M:=by
 have m:=bH B;rw[auz,jf,cU];have hl:∀a b,a<l.length->b<l.length->(((az M l).p a b==(az M l).p b a)=true↔pr l a b=pr l b a):=fun a b ha hb=>by rw[eQ ha hb,eQ hb ha,beq_iff_eq]
 have hc:iw M=true↔∀x y,x<M.k->y<M.k->then_ (letterMap M x) (letterMap M y)=then_ (letterMap M y) (letterMap M x):=by
  unfold iw;rw[auy];constructor
  ·intro h x y hx hy;have:=auy.mp (h x (at4.mpr hx)) y (at4.mpr hy);exact eq_of_beq this
  ·intro h x hx;rw[auy];intro y hy;rw[beq_iff_eq];exact h x y (at4.mp hx) (at4.mp hy)
 rw[hc];constructor
 ·intro h x y hx hy;have h1:=d8 B hx;have h2:=d8 B hy;have h3:=h _ h1.1;rw[jf,cU] at h3;have h4:=(hl _ _ h1.1 h2.1).mp (h3 _ h2.1);have h5:=(fV B h1.1 h2.1).2;have h6:=(fV B h2.1 h1.1).2;rw[h1.2,h2.2] at h5 h6;rw[<-h5,<-h6,h4]
 ·intro h;have s1:∀x y,x<M.k->y<M.k->pr l (lt M l x) (lt M l y)=pr l (lt M l y) (lt M l x):=fun x y hx hy=>by
   have h1:=d8 B hx;have h2:=d8 B hy;refine tO B (fV B h2.1 h1.1).1 ?_;rw[(fV B h2.1 h1.1).2,h1.2,h2.2,h x y hx hy]
  have s2:∀y,y<M.k->∀a,a<l.length->pr l a (lt M l y)=pr l (lt M l y) a:=by
   intro y hy a
   induction a using avU with
   |_ a ih=>
    intro ha;by_cases h0:a=0
    ·subst h0;rw[m.lO (d8 B hy).1,m.lQ (d8 B hy).1]
    ·obtain⟨j,x,h1,h2,_,h4⟩:=xq B (by omega) ha;have hj:j<l.length:=by omega
     have hx:=(d8 B h2).1;have hy':=(d8 B hy).1;have e:=ih j h1 hj;rw[h4,m.assoc hj hx hy',s1 x y h2 hy,<-m.assoc hj hy' hx,e,m.assoc hy' hj hx]
  have s3:∀a,a<l.length->∀b,b<l.length->pr l a b=pr l b a:=by
   intro a ha b
   induction b using avU with
   |_ b ih=>
    intro hb;by_cases h0:b=0
    ·subst h0;rw[m.lO ha,m.lQ ha]
    ·obtain⟨j,x,h1,h2,_,h4⟩:=xq B (by omega) hb;have hj:j<l.length:=by omega
     have hx:=(d8 B h2).1;have e:=ih j h1 hj;rw[h4,<-m.assoc ha hj hx,e,m.assoc hj ha hx,s2 x h2 a ha,<-m.assoc hj hx ha]
  intro a ha;rw[jf,cU];exact fun b hb=>(hl a b ha hb).mpr (s3 a ha b hb)
theorem ac7(B:aQ M l):((els (az M l)).all fun a=>(az M l).p a a==a)=((cz M l 1).sum==l.length):=by
 rw[auz,jf,cU,beq_iff_eq];have c:=lX B;unfold cz;rw[Rk _ c.lt,ac1];constructor
 ·intro h a ha;have:=h a ha;rw[eQ ha ha,beq_iff_eq] at this;exact(Ho B ha).mpr this
 ·intro h a ha;rw[eQ ha ha,beq_iff_eq];exact(Ho B ha).mp (h a ha)
theorem ac8(B:aQ M l):((els (az M l)).all fun a=>(els (az M l)).any fun b=>(az M l).p a b==0)=((aF M l 1).2==1):=by
 have m:=bH B;rw[auz,jf,cU,beq_iff_eq,(lX B).acZ B.pos];constructor
 ·intro h a ha;have h1:=h a ha;rw[qX,cU] at h1;obtain⟨b,hb,h1⟩:=h1;rw[eQ ha hb,beq_iff_eq] at h1;refine(jA B ha B.pos).mpr ⟨(j8 B B.pos).mpr ⟨a,ha,m.lO ha⟩,(j8 B ha).mpr ⟨b,hb,h1⟩⟩
 ·intro h a ha;obtain⟨b,hb,e⟩:=(j8 B ha).mp ((jA B ha B.pos).mp (h a ha)).2;rw[qX,cU];exact⟨b,hb,by rw[eQ ha hb,beq_iff_eq];exact e⟩
theorem ac9(B:aQ M l):(stillB (az M l) fun a b=>a==b)=((aF M l 3).2==l.length):=by
 have m:=bH B;rw[auz,beq_iff_eq,(Hn B).Rj];unfold stillB;rw[jf,cU];have h1:(∀x,x<l.length->((atU (l.length+1)).any fun i=>powers (az M l) x (i+1)==powers (az M l) x (i+2))=true)↔∀a,a<l.length->∃i,i<l.length+1/\pw (pr l) a (i+1)=pw (pr l) a (i+2):=by
  constructor
  ·intro h a ha;obtain⟨i,hi,e⟩:=auZ.mp (h a ha);rw[nU B ha,nU B ha] at e;exact⟨i,at4.mp hi,eq_of_beq e⟩
  ·intro h a ha;obtain⟨i,hi,e⟩:=h a ha;refine auZ.mpr ⟨i,at4.mpr hi,?_⟩;rw[nU B ha,nU B ha,e];exact beq_self_eq_true _
 rw[h1,ac2 m];constructor
 ·intro h a b ha hb q;obtain⟨q1,q2⟩:=(pL _ a b).mp q;have q1:=(lW B ha hb).mp q1;have q2:=(jA B ha hb).mp q2;exact h a b ha hb ⟨⟨(tQ B hb).mp q1.1,(tQ B ha).mp q1.2⟩,(j8 B hb).mp q2.1,(j8 B ha).mp q2.2⟩
 ·rintro h a b ha hb ⟨⟨q1,q2⟩,q3,q4⟩;exact h a b ha hb ((pL _ a b).mpr ⟨(lW B ha hb).mpr ⟨(tQ B hb).mpr q1,(tQ B ha).mpr q2⟩,(jA B ha hb).mpr ⟨(j8 B hb).mpr q3,(j8 B ha).mpr q4⟩⟩)
theorem Hq(k:Nat)(c:Cl l.length (fun a b=>alikeB (az M l) k a b=true) (aF M l k).1 (aF M l k).2):((els (az M l)).all fun a=>(els (az M l)).all fun b=>a==b|| !(alikeB (az M l) k a b))=((aF M l k).2==l.length):=by
 rw[auz,beq_iff_eq,c.Rj,jf,cU];constructor
 ·intro h a b ha hb q;have h1:=h a ha;rw[jf,cU] at h1;have h2:=h1 b hb;rw[q] at h2;simpa using h2
 ·intro h a ha;rw[jf,cU];intro b hb;cases q:alikeB (az M l) k a b with
  |false=>simp
  |true=>simp[h a b ha hb q]
theorem Rt(k:Nat)(c:Cl l.length (fun a b=>alikeB (az M l) k a b=true) (aF M l k).1 (aF M l k).2){x:Nat}(hx:x<(aF M l k).2):(cz M l k).getD x 0=((atU l.length).filter fun e=>iK l e&&(aF M l k).1.getD e 0==x).length:=Rm hx _ c.lt
theorem Ag(k:Nat):(cz M l k).length=(aF M l k).2:=vd ..
theorem Hr(k:Nat)(c:Cl l.length (fun a b=>alikeB (az M l) k a b=true) (aF M l k).1 (aF M l k).2){f:Nat->Bool}:(cz M l k).all f=true↔∀a,a<l.length->f ((atU l.length).filter fun e=>iK l e&&(aF M l k).1.getD e 0==(aF M l k).1.getD a 0).length=true:=by
 rw[auy];constructor
 ·intro h a ha;have:=h _ (mem_getD (d:=0) (show(aF M l k).1.getD a 0<(cz M l k).length by rw[Ag];exact c.lt a ha));rw[Rt k c (c.lt a ha)] at this;exact this
 ·intro h x hx;obtain⟨i,hi,rfl⟩:=getD_mem (d:=0) hx;rw[Ag] at hi;obtain⟨a,ha,e⟩:=c.onto i hi;rw[Rt k c hi,<-e];exact h a ha
theorem Hs(B:aQ M l)(k:Nat)(c:Cl l.length (fun a b=>alikeB (az M l) k a b=true) (aF M l k).1 (aF M l k).2){a e:Nat}(ha:a<l.length)(he:e<l.length):
  (iK l e&&(aF M l k).1.getD e 0==(aF M l k).1.getD a 0)=true↔pr l e e=e/\alikeB (az M l) k e a=true:=by
 rw[aup,beq_iff_eq,c.iff e a he ha,Ho B he]
theorem ada(B:aQ M l):((els (az M l)).all fun a=>(els (az M l)).any fun b=>undoes (az M l) a b)=(cz M l 1).all fun x=>decide (0<x):=by
 have m:=bH B;have c:=lX B;rw[auz,Hr 1 c,jf,cU];refine forall_congr' fun a=>forall_congr' fun ha=>?_
 rw[qX,cU,decide_eq_true_eq,ac0];have h1:(∃x,x<l.length/\undoes (az M l) a x=true)↔∃b,b<l.length/\pr l (pr l a b) a=a:=by
  refine exists_congr fun b=>and_congr_right fun hb=>?_
  unfold undoes;rw[eQ ha hb,eQ (m.lt ha hb) ha,beq_iff_eq]
 rw[h1,Hk m ha];refine exists_congr fun e=>and_congr_right fun he=>?_
 rw[Hs B 1 c ha he,jA B he ha,j8 B ha,j8 B he];exact⟨fun⟨x,y,z⟩=>⟨x,z,y⟩,fun⟨x,y,z⟩=>⟨x,z,y⟩⟩
theorem adb(B:aQ M l):((els (az M l)).all fun a=>((els (az M l)).filter fun b=>undoes (az M l) a b&&undoes (az M l) b a).length==1)=(cz M l 0++cz M l 1).all fun x=>x==1:=by
 have m:=bH B;have c:=qZ B;have d:=lX B;rw[auz,List.all_append,aup,Hr 0 c,Hr 1 d,jf,cU];have h1:(∀x,x<l.length->(((els (az M l)).filter fun b=>undoes (az M l) x b&&undoes (az M l) b x).length==1)=true)↔∀a,a<l.length->∃b,b<l.length/\Inv (pr l) a b/\∀c,c<l.length->Inv (pr l) a c->c=b:=by
  refine forall_congr' fun a=>forall_congr' fun ha=>?_
  unfold els;rw[cU,beq_iff_eq,Hj];have hu:∀b,b<l.length->((undoes (az M l) a b&&undoes (az M l) b a)=true↔Inv (pr l) a b):=fun b hb=>by
   unfold undoes;rw[eQ ha hb,eQ (m.lt ha hb) ha,eQ hb ha,eQ (m.lt hb ha) hb,aup,beq_iff_eq,beq_iff_eq];exact Iff.rfl
  constructor
  ·rintro⟨b,hb,h1,h2⟩;exact⟨b,hb,(hu b hb).mp h1,fun c hc q=>h2 c hc ((hu c hc).mpr q)⟩
  ·rintro⟨b,hb,h1,h2⟩;exact⟨b,hb,(hu b hb).mpr h1,fun c hc q=>h2 c hc ((hu c hc).mp q)⟩
 rw[h1,ac4 m];refine and_congr ?_ ?_
 ·refine forall_congr' fun a=>forall_congr' fun ha=>?_
  rw[beq_iff_eq,Hj];have hu:∀e,e<l.length->((iK l e&&(aF M l 0).1.getD e 0==(aF M l 0).1.getD a 0)=true↔(pr l e e=e/\Lf l.length (pr l) a e/\Lf l.length (pr l) e a)):=fun e he=>by
   rw[Hs B 0 c ha he,lW B he ha,tQ B ha,tQ B he];exact⟨fun⟨x,y,z⟩=>⟨x,z,y⟩,fun⟨x,y,z⟩=>⟨x,z,y⟩⟩
  constructor
  ·rintro⟨b,hb,h1,h2⟩;exact⟨b,hb,(hu b hb).mpr h1,fun c hc q=>h2 c hc ((hu c hc).mp q)⟩
  ·rintro⟨b,hb,h1,h2⟩;exact⟨b,hb,(hu b hb).mp h1,fun c hc q=>h2 c hc ((hu c hc).mpr q)⟩
 ·refine forall_congr' fun a=>forall_congr' fun ha=>?_
  rw[beq_iff_eq,Hj];have hu:∀e,e<l.length->((iK l e&&(aF M l 1).1.getD e 0==(aF M l 1).1.getD a 0)=true↔(pr l e e=e/\Rf l.length (pr l) a e/\Rf l.length (pr l) e a)):=fun e he=>by
   rw[Hs B 1 d ha he,jA B he ha,j8 B ha,j8 B he];exact⟨fun⟨x,y,z⟩=>⟨x,z,y⟩,fun⟨x,y,z⟩=>⟨x,z,y⟩⟩
  constructor
  ·rintro⟨b,hb,h1,h2⟩;exact⟨b,hb,(hu b hb).mpr h1,fun c hc q=>h2 c hc ((hu c hc).mp q)⟩
  ·rintro⟨b,hb,h1,h2⟩;exact⟨b,hb,(hu b hb).mp h1,fun c hc q=>h2 c hc ((hu c hc).mpr q)⟩
theorem adc(B:aQ M l):kindsB (az M l)=j9 M l:=by
 unfold kindsB j9;rw[ac6 B,ac7 B,ac8 B,ac9 B,Hq 2 (Hm B),Hq 1 (lX B),Hq 0 (qZ B),ada B,adb B]
def nY(M:Machine)(l:List WM):Nat:=(((avi [1,2,4,8,16,32,64,128,256] (j9 M l)).filter fun x=>x.2).map fun x=>x.1).sum
theorem ade(B:aQ M l):auA (rules (some (az M l)) .kind).2=[(nY M l:Int)]:=by
 show[((((kindsB (az M l)).zipIdx.map fun x=>if x.1=true then 2^x.2 else 0).sum:Nat):Int)]=_;rw[adc B];unfold nY j9;generalize iw M=b0;generalize((cz M l 1).sum==l.length)=b1;generalize((aF M l 1).2==1)=b2;generalize((aF M l 3).2==l.length)=b3;generalize((aF M l 2).2==l.length)=b4;generalize((aF M l 1).2==l.length)=b5;generalize((aF M l 0).2==l.length)=b6;generalize((cz M l 1).all fun x=>decide (0<x))=b7;generalize((cz M l 0++cz M l 1).all fun x=>x==1)=b8;have h:∀(bs:List Bool)(w:List Nat)(i:Nat),(∀j,j<bs.length->w[j]?=some (2^(i+j)))->((bs.zipIdx i).map fun x=>if x.1=true then 2^x.2 else 0).sum=(((avi w bs).filter fun x=>x.2).map fun x=>x.1).sum:=by
  intro bs
  induction bs with
  |nil=>intro w i _;simp
  |cons b bs ih=>
   intro w i hw;have h0:=hw 0 (by simp);cases w with
   |nil=>simp at h0
   |cons x w=>
    have h0:x=2^i:=by simpa using h0
    subst h0;rw[List.zipIdx_cons,auf,auT,ayt,awc,ih w (i+1) fun j hj=>?_]
    ·cases b<;>simp
    ·have:=hw (j+1) (by simpa using hj);rw[List.getElem?_cons_succ] at this;rw[this];congr 2;omega
 rw[h _ [1,2,4,8,16,32,64,128,256] 0 fun j hj=>?_];have:j<9:=hj
 match j,this with
 |0,_=>rfl
 |1,_=>rfl
 |2,_=>rfl
 |3,_=>rfl
 |4,_=>rfl
 |5,_=>rfl
 |6,_=>rfl
 |7,_=>rfl
 |8,_=>rfl
def dW(m:Map):Nat:=(bD m).2.length
theorem Ru{m m':Map}(f:Nat->Nat)(h:∀v,v∈m'->∃u,u∈m/\f u=v):dW m'<=dW m:=by
 have c:=ig _ m rfl;have c':=ig _ m' rfl;have:=lV (bD m').2 ((bD m).2.map f) c'.nodup fun v hv=>by
  obtain⟨u,hu,e⟩:=h v ((c'.mem v).mp hv);exact at6.mpr ⟨u,(c.mem u).mpr hu,e⟩
 simpa[dW] using this
theorem Ht{q:Nat}{a b:Map}(ha:eO q a){v:Nat}:v∈then_ a b↔∃s,s∈a/\b.getD s 0=v:=by
 unfold then_;exact at6
theorem adf{q:Nat}{a b:Map}(ha:eO q a):dW (then_ a b)<=dW a:=Ru (fun s=>b.getD s 0) fun v hv=>(Ht ha).mp hv
theorem adg{q:Nat}{a b:Map}(ha:eO q a)(hb:eO q b):dW (then_ a b)<=dW b:=Ru id fun v hv=>by
 obtain⟨s,hs,e⟩:=(Ht ha).mp hv;exact⟨v,by rw[<-e];exact mem_getD (by rw[hb.len];exact ha.lt s hs),rfl⟩
theorem jg(B:aQ M l){a b:Nat}(ha:a<l.length)(hb:b<l.length){s:Nat}(hs:s<M.q):(mp l (pr l a b)).getD s 0=(mp l b).getD ((mp l a).getD s 0) 0:=by
 rw[(fV B ha hb).2,QL (by rw[(B.dB ha).len];exact hs)]
theorem Rv(B:aQ M l){a b:Nat}(ha:a<l.length)(hb:b<l.length)(h:∀s,s<M.q->(mp l a).getD s 0=(mp l b).getD s 0):a=b:=by
 refine B.inj ha hb (av1 (by rw[(B.dB ha).len,(B.dB hb).len]) fun i h1 h2=>?_);have:=h i (by rw[<-(B.dB ha).len];exact h1);rw[Ad (atY h1),Ad (atY h2)] at this;exact this
theorem adh(B:aQ M l){a b:Nat}(ha:a<l.length)(hb:b<l.length)(hmin:∀c,c<l.length->dW (mp l a)<=dW (mp l c)):∃x y,x<l.length/\y<l.length/\pr l (pr l x b) y=a:=by
 have m:=bH B;have hu:=m.lt hb ha;obtain⟨u,eu⟩:∃u,u=pr l b a:=⟨_,rfl⟩
 rw[<-eu] at hu;have jh:=B.dB ha;have oku:=B.dB hu;have hin:∀s,s∈mp l a->(mp l u).getD s 0∈mp l a:=fun s hs=>by
  rw[eu,jg B hb ha (jh.lt s hs)];exact mem_getD (by rw[jh.len];exact j7 (B.dB hb) (jh.lt s hs))
 have hinj:∀s t,s∈mp l a->t∈mp l a->(mp l u).getD s 0=(mp l u).getD t 0->s=t:=fun s t hs ht e=>by
  apply avh;intro hne;have h1:=hmin _ (m.lt ha hu);have c:=ig _ (mp l a) rfl;have c':=ig _ (mp l (pr l a u)) rfl;have h2:=lV (bD (mp l (pr l a u))).2 (((bD (mp l a)).2.erase t).map fun s=>(mp l u).getD s 0) c'.nodup fun v hv=>by
   have hv:=(c'.mem v).mp hv;rw[(fV B ha hu).2] at hv;obtain⟨s',hs',e'⟩:=(Ht jh).mp hv;by_cases q:s'=t
   ·subst q;exact at6.mpr ⟨s,(awn hne).mpr ((c.mem s).mpr hs),by rw[e,e']⟩
   ·exact at6.mpr ⟨s',(awn q).mpr ((c.mem s').mpr hs'),e'⟩
  rw[atR,awU ((c.mem t).mpr ht)] at h2;have h3:=awY ((c.mem t).mpr ht);unfold dW at h1;omega
 have hpin:∀i s,s∈mp l a->(mp l (pw (pr l) u i)).getD s 0∈mp l a:=fun i=>by
  induction i with
  |zero=>
   intro s hs;show(mp l 0).getD s 0∈_;rw[B.tM];have:=jh.lt s hs;simpa[at5,this] using hs
  |succ i ih=>
   intro s hs;show(mp l (pr l (pw (pr l) u i) u)).getD s 0∈_;rw[jg B (cI m hu i) hu (jh.lt s hs)];exact hin _ (ih s hs)
 have adi:∀i s t,s∈mp l a->t∈mp l a->(mp l (pw (pr l) u i)).getD s 0=(mp l (pw (pr l) u i)).getD t 0->s=t:=fun i=>by
  induction i with
  |zero=>
   intro s t hs ht e;change (mp l 0).getD s 0=(mp l 0).getD t 0 at e;rw[B.tM] at e;have h1:=jh.lt s hs;have h2:=jh.lt t ht;simpa[at5,h1,h2] using e
  |succ i ih=>
   intro s t hs ht e;change (mp l (pr l (pw (pr l) u i) u)).getD s 0=(mp l (pr l (pw (pr l) u i) u)).getD t 0 at e;rw[jg B (cI m hu i) hu (jh.lt s hs),jg B (cI m hu i) hu (jh.lt t ht)] at e;exact ih s t hs ht (hinj _ _ (hpin i s hs) (hpin i t ht) e)
 obtain⟨i,j,h1,h2,h3,h4⟩:=Ae m hu;have hd:=cI m hu (j-i);have fix:pr l a (pw (pr l) u (j-i))=a:=by
  refine Rv B (m.lt ha hd) ha fun s hs=>?_
  rw[jg B ha hd hs];have hm:(mp l a).getD s 0∈mp l a:=mem_getD (by rw[jh.len];exact hs);refine adi i _ _ (hpin _ _ hm) hm ?_;rw[<-jg B hd (cI m hu i) (jh.lt _ hm),<-iI m hu,show j-i+i=j by omega,h4]
 refine⟨a,pr l a (pw (pr l) u (j-i-1)),ha,m.lt ha (cI m hu _),?_⟩;have e1:pw (pr l) u (j-i)=pr l u (pw (pr l) u (j-i-1)):=by
  have:=Af m hu (j-i-1);rw[show j-i-1+1=j-i by omega] at this;exact this
 have hd1:=cI m hu (j-i-1);rw[e1,eu,m.assoc hb ha (by rw[<-eu];exact hd1),<-m.assoc ha hb (m.lt ha (by rw[<-eu];exact hd1)),<-eu] at fix;exact fix
def jM(M:Machine)(l:List WM)(a:Nat):Bool:=(els (az M l)).all fun b=>Out.within (az M l) a b
theorem adk(B:aQ M l){a:Nat}(ha:a<l.length):jM M l a=true↔∀c,c<l.length->dW (mp l a)<=dW (mp l c):=by
 unfold jM;rw[jf,cU];constructor
 ·intro h c hc;obtain⟨x,y,hx,hy,e⟩:=(xr B hc).mp ((u0 B hc).mp (h c hc));have hxc:=(bH B).lt hx hc;rw[<-e,(fV B hxc hy).2];refine auC (adf (B.dB hxc)) ?_;rw[(fV B hx hc).2];exact adg (B.dB hx) (B.dB hc)
 ·intro h b hb;exact(u0 B hb).mpr ((xr B hb).mpr (adh B ha hb h))
def dg(M:Machine)(l:List WM):List Nat:=(atU l.length).map fun a=>if jM M l a=true then 1 else 0
theorem adl:auA (rules (some (az M l)) .ideal).2=((dg M l).sum:Int)::Si08Neutral.ints (dg M l):=by
 show((((els (az M l)).map fun a=>if(els (az M l)).all (fun b=>Out.within (az M l) a b)=true then 1 else 0).sum:Nat):Int)::Si08Neutral.ints ((els (az M l)).map fun a=>if(els (az M l)).all (fun b=>Out.within (az M l) a b)=true then 1 else 0)=_;unfold dg jM;rw[show atU l.length=els (az M l) by unfold els;rw[cU]]
theorem Ah:(dg M l).length=l.length:=by simp[dg]
theorem Hu{a:Nat}(ha:a<l.length):(dg M l)[a]?=some (if jM M l a=true then 1 else 0):=by
 unfold dg;simp[ha]
theorem adn(B:aQ M l){f:Nat}(hf:∃c,c<l.length/\dW (mp l c)=f)(hle:∀c,c<l.length->f<=dW (mp l c)){a:Nat}(ha:a<l.length):(if jM M l a=true then 1 else 0)=if dW (mp l a)=f then 1 else 0:=by
 obtain⟨c,hc,e⟩:=hf;have h:jM M l a=true↔dW (mp l a)=f:=by
  rw[adk B ha];constructor
  ·intro h;have:=h c hc;have:=hle a ha;omega
  ·intro h c hc;rw[h];exact hle c hc
 by_cases q:dW (mp l a)=f
 ·rw[if_pos q,if_pos (h.mpr q)]
 ·rw[if_neg q,if_neg fun z=>q (h.mp z)]
def pM(M:Machine)(l:List WM):Int:=if(dg M l).sum=1 then((dg M l).idxOf 1:Int) else -1
theorem Hv:∀(l:List Nat),(∀x,x∈l->x=0\/x=1)->l.sum=1->∃i:Nat,l[i]?=some 1/\∀j:Nat,l[j]?=some 1->j=i
 |[],_,h=>by simp at h
 |x::l,h,hs=>by
  rcases h x (at7 ..) with rfl|rfl
  ·obtain⟨i,h1,h2⟩:=Hv l (fun y hy=>h y (at8 _ hy)) (by simpa using hs);refine⟨i+1,by simpa using h1,fun j hj=>?_⟩;cases j with
   |zero=>simp at hj
   |succ j=>rw[h2 j (by simpa using hj)]
  ·have h0:l.sum=0:=by simpa using hs
   refine⟨0,rfl,fun j hj=>?_⟩;cases j with
   |zero=>rfl
   |succ j=>
    have hm:1∈l:=auI (by simpa using hj);have:∀(l:List Nat),1∈l->0<l.sum:=by
     intro l
     induction l with
     |nil=>intro h;simp at h
     |cons y l ih=>
      intro h;rcases at3.mp h with rfl|h
      ·simp;omega
      ·have:=ih h;simp;omega
    have:=this l hm;omega
theorem Rw:∀(l:List Nat)(i:Nat),(∀x,x∈l->x=0\/x=1)->l[i]?=some 1->(∀j:Nat,l[j]?=some 1->j=i)->l.sum=1
 |[],i,_,h,_=>by simp at h
 |x::l,0,h,h1,h2=>by
  have hx:x=1:=by simpa using h1
  subst hx;have:∀(k:List Nat),(∀x,x∈k->x=0)->k.sum=0:=by
   intro k
   induction k with
   |nil=>intro _;rfl
   |cons y k ih=>
    intro h;rw[auT,h y (at7 ..),ih fun x hx=>h x (at8 _ hx)]
  rw[auT,this l fun y hy=>?_];rcases h y (at8 _ hy) with q|q
  ·exact q
  ·subst q;obtain⟨j,hj⟩:=avf hy;have:=h2 (j+1) (by simpa using hj);omega
 |x::l,i+1,h,h1,h2=>by
  rcases h x (at7 ..) with rfl|rfl
  ·rw[auT,Rw l i (fun y hy=>h y (at8 _ hy)) (by simpa using h1) fun j hj=>by
    have:=h2 (j+1) (by simpa using hj);omega]
  ·have:=h2 0 rfl;omega
theorem Hy:∀x,x∈dg M l->x=0\/x=1:=fun x hx=>by
 unfold dg at hx;obtain⟨a,_,rfl⟩:=at6.mp hx
 split
 ·exact .inr rfl
 ·exact .inl rfl
theorem xu{a:Nat}:(dg M l)[a]?=some 1↔a<l.length/\jM M l a=true:=by
 constructor
 ·intro h;have ha:a<l.length:=by
   have:=(at9.mp h).1;rw[Ah] at this;exact this
  rw[Hu ha] at h;refine⟨ha,?_⟩
  split at h
  ·next q=>exact q
  ·simp at h
 ·rintro⟨ha,h⟩;rw[Hu ha,if_pos h]
theorem xx(B:aQ M l){a:Nat}(ha:a<l.length):jM M l a=true↔∀b,b<l.length->∃x y,x<l.length/\y<l.length/\pr l (pr l x b) y=a:=by
 unfold jM;rw[jf,cU];exact⟨fun h b hb=>(xr B hb).mp ((u0 B hb).mp (h b hb)),fun h b hb=>(u0 B hb).mpr ((xr B hb).mpr (h b hb))⟩
theorem ado(B:aQ M l):auA (rules (some (az M l)) .zero).2=[pM M l]:=by
 have m:=bH B;have hz:∀z,z<l.length->(((els (az M l)).all fun e=>(az M l).p z e==z&&(az M l).p e z==z)=true↔∀e,e<l.length->pr l z e=z/\pr l e z=z):=fun z hz=>by
  rw[jf,cU];refine forall_congr' fun e=>forall_congr' fun he=>?_
  rw[eQ hz he,eQ he hz,aup,beq_iff_eq,beq_iff_eq]
 have h1:∀z,z<l.length->(∀e,e<l.length->pr l z e=z/\pr l e z=z)->(dg M l).sum=1/\(dg M l).idxOf 1=z:=fun z hz1 h=>by
  have hl:jM M l z=true:=(xx B hz1).mpr fun b hb=>⟨z,0,hz1,B.pos,by rw[(h b hb).1,m.lQ hz1]⟩
  have hu:∀a,(dg M l)[a]?=some 1->a=z:=fun a ha=>by
   obtain⟨ha1,ha2⟩:=xu.mp ha;obtain⟨x,y,hx,hy,e⟩:=(xx B ha1).mp ha2 z hz1;rw[(h x hx).2,(h y hy).1] at e;exact e.symm
  have h0:=xu.mpr ⟨hz1,hl⟩;refine⟨Rw _ z Hy h0 hu,hu _ ?_⟩;have hlt:=avj (auI h0);rw[atY hlt,avJ hlt]
 have h2:(dg M l).sum=1->∃z,z<l.length/\∀e,e<l.length->pr l z e=z/\pr l e z=z:=fun h=>by
  obtain⟨z,hz0,hu⟩:=Hv _ Hy h;obtain⟨hz1,hz2⟩:=xu.mp hz0;have hb:=(xx B hz1).mp hz2;refine⟨z,hz1,fun e he=>⟨hu _ (xu.mpr ⟨m.lt hz1 he,(xx B (m.lt hz1 he)).mpr fun b hb'=>?_⟩),hu _ (xu.mpr ⟨m.lt he hz1,(xx B (m.lt he hz1)).mpr fun b hb'=>?_⟩)⟩⟩
  ·obtain⟨x,y,hx,hy,e1⟩:=hb b hb';exact⟨x,pr l y e,hx,m.lt hy he,by rw[<-m.assoc (m.lt hx hb') hy he,e1]⟩
  ·obtain⟨x,y,hx,hy,e1⟩:=hb b hb';exact⟨pr l e x,y,m.lt he hx,hy,by rw[m.assoc he hx hb',m.assoc he (m.lt hx hb') hy,e1]⟩
 unfold rules;dsimp only;cases q:(els (az M l)).find? fun z=>(els (az M l)).all fun e=>(az M l).p z e==z&&(az M l).p e z==z with
 |some z=>
  have hm:=axC q;unfold els at hm;rw[cU] at hm;have hm:=at4.mp hm;obtain⟨s1,s2⟩:=h1 z hm ((hz z hm).mp (by have:=awV q;exact this));show[(z:Int)]=_;unfold pM;rw[if_pos s1,s2]
 |none=>
  rw[axB] at q;show[(-1:Int)]=_;unfold pM;rw[if_neg];intro h;obtain⟨z,hz1,hz2⟩:=h2 h;exact q z (by unfold els;rw[cU];exact at4.mpr hz1) ((hz z hz1).mpr hz2)
theorem adp{α:Type}[DecidableEq α](r:Nat->Nat->Bool)(keys:List α)(hl:keys.length=l.length)(h:∀(a b:Nat)(x y:α),keys[a]?=some x->keys[b]?=some y->(r a b=true↔x=y)):
  numbered (az M l) r=((bD keys).1,(bD keys).2.length):=by
 rw[Ha,cU];by_cases h0:l.length=0
 ·have:keys=[]:=awh (by omega);subst this;rw[h0];rfl
 ·obtain⟨x0,hx0⟩:∃x,keys[0]?=some x:=⟨_,atY (by omega)⟩
  have e:=Ab r (fun i=>keys.getD i x0) l.length fun a b ha hb=>h a b _ _ (nW (by omega)) (nW (by omega))
  have e2:(atU l.length).map (fun i=>keys.getD i x0)=keys:=by
   apply av1
   ·simp[hl]
   ·intro i h1 h2;simp[at5,h2]
  rw[e2] at e;exact e
def lY(l:List WM)(st ends a b:Nat):Prop:=∀x y,x<l.length->y<l.length->ends.testBit ((mp l (pr l (pr l x a) y)).getD st 0)=ends.testBit ((mp l (pr l (pr l x b) y)).getD st 0)
theorem Hz{α:Type}:∀(L:List Nat)(L':List Nat)(f g:Nat->Nat->α),(L.flatMap fun x=>L'.map (f x))=(L.flatMap fun x=>L'.map (g x))↔∀x,x∈L->∀y,y∈L'->f x y=g x y
 |[],L',f,g=>by simp
 |a::L,L',f,g=>by
  rw[ayH,ayH];constructor
  ·intro h x hx y hy;obtain⟨h1,h2⟩:=List.append_inj h (by simp);rcases at3.mp hx with rfl|hx
   ·exact aw0.mp h1 y hy
   ·exact(Hz L L' f g).mp h2 x hx y hy
  ·intro h;rw[(Hz L L' f g).mpr fun x hx y hy=>h x (at8 _ hx) y hy,aw0.mpr fun y hy=>h a (at7 ..) y hy]
theorem adq(B:aQ M l){st ends a b:Nat}(ha:a<l.length)(hb:b<l.length):saidRow (az M l) st ends a=saidRow (az M l) st ends b↔lY l st ends a b:=by
 have m:=bH B;unfold saidRow;rw[Hz];unfold els;rw[cU];have e:∀a x y,a<l.length->x<l.length->y<l.length->takenB (az M l) st ends ((az M l).p ((az M l).p x a) y)=ends.testBit ((mp l (pr l (pr l x a) y)).getD st 0):=fun a x y ha hx hy=>by
  unfold takenB;rw[eQ hx ha,eQ (m.lt hx ha) hy,acC]
 constructor
 ·intro h x y hx hy;have:=h x (at4.mpr hx) y (at4.mpr hy);rw[e a x y ha hx hy,e b x y hb hx hy] at this;exact this
 ·intro h x hx y hy;have hx:=at4.mp hx;have hy:=at4.mp hy;rw[e a x y ha hx hy,e b x y hb hx hy];exact h x y hx hy
def d9(M:Machine)(l:List WM)(st ends:Nat)(a b:Nat):Bool:=(((els (az M l)).map fun a=>saidRow (az M l) st ends a).toArray.getD a [])==(((els (az M l)).map fun a=>saidRow (az M l) st ends a).toArray.getD b [])
theorem pO(B:aQ M l){st ends a b:Nat}(ha:a<l.length)(hb:b<l.length):d9 M l st ends a b=true↔lY l st ends a b:=by
 have e:∀a,a<l.length->(((els (az M l)).map fun a=>saidRow (az M l) st ends a).toArray.getD a [])=saidRow (az M l) st ends a:=fun a ha=>by
  unfold els;rw[cU];simp[avY,ha]
 unfold d9;rw[e a ha,e b hb,beq_iff_eq,adq B ha hb]
def iV(l:List WM)(ends s:Nat):List Nat:=(atU l.length).map fun x=>(ends.testBit ((mp l x).getD s 0)).toNat
def eZ(M:Machine)(l:List WM)(ends:Nat):List Nat:=(bD ((atU M.q).map fun s=>iV l ends s)).1
def gb(f reached:List Nat)(row:Map):List Nat:=reached.map fun s=>f.getD (row.getD s 0) 0
theorem Rx{ends s t:Nat}(hs:s<M.q)(ht:t<M.q):(eZ M l ends).getD s 0=(eZ M l ends).getD t 0↔∀y,y<l.length->ends.testBit ((mp l y).getD s 0)=ends.testBit ((mp l y).getD t 0):=by
 have c:=Rh ((atU M.q).map fun s=>iV l ends s) (fun s=>iV l ends s) (fun i hi=>by
  simp only[atR,au0] at hi;simp[hi])
 simp only[atR,au0] at c;have h:=c.iff s t hs ht;unfold eZ;rw[h];unfold iV;rw[aw0];constructor
 ·intro h y hy;have:=h y (at4.mpr hy);revert this;generalize ends.testBit ((mp l y).getD s 0)=b1;generalize ends.testBit ((mp l y).getD t 0)=b2;cases b1<;>cases b2<;>simp
 ·intro h y hy;rw[h y (at4.mp hy)]
theorem HB(B:aQ M l){st ends a b:Nat}{reached:List Nat}(hst:st<M.q)(hr:∀s,s∈reached↔∃x,x<l.length/\(mp l x).getD st 0=s)(ha:a<l.length)(hb:b<l.length):
  gb (eZ M l ends) reached (mp l a)=gb (eZ M l ends) reached (mp l b)↔lY l st ends a b:=by
 have m:=bH B;unfold gb;rw[aw0];constructor
 ·intro h x y hx hy;have hs:=h _ ((hr _).mpr ⟨x,hx,rfl⟩);have l1:=j7 (B.dB hx) hst;have:=(Rx (j7 (B.dB ha) l1) (j7 (B.dB hb) l1)).mp hs y hy;rw[jg B (m.lt hx ha) hy hst,jg B hx ha hst,jg B (m.lt hx hb) hy hst,jg B hx hb hst];exact this
 ·intro h s hs;obtain⟨x,hx,rfl⟩:=(hr s).mp hs;have l1:=j7 (B.dB hx) hst;refine(Rx (j7 (B.dB ha) l1) (j7 (B.dB hb) l1)).mpr fun y hy=>?_
  have:=h x y hx hy;rw[jg B (m.lt hx ha) hy hst,jg B hx ha hst,jg B (m.lt hx hb) hy hst,jg B hx hb hst] at this;exact this
def jB(M:Machine)(l:List WM)(ends:Nat)(reached:List Nat):List (List Nat):=(atU l.length).map fun a=>gb (eZ M l ends) reached (mp l a)
theorem adt(B:aQ M l){st ends:Nat}{reached:List Nat}(hst:st<M.q)(hr:∀s,s∈reached↔∃x,x<l.length/\(mp l x).getD st 0=s):
  numbered (az M l) (d9 M l st ends)=((bD (jB M l ends reached)).1,(bD (jB M l ends reached)).2.length):=by
 refine adp _ _ (by simp[jB]) fun a b x y hx hy=>?_
 have ha:a<l.length:=by simpa[jB] using(at9.mp hx).1
 have hb:b<l.length:=by simpa[jB] using(at9.mp hy).1
 have ex:x=gb (eZ M l ends) reached (mp l a):=by
  have:(jB M l ends reached)[a]?=some (gb (eZ M l ends) reached (mp l a)):=by simp[jB,ha]
  exact aub (hx.symm.trans this)
 have ey:y=gb (eZ M l ends) reached (mp l b):=by
  have:(jB M l ends reached)[b]?=some (gb (eZ M l ends) reached (mp l b)):=by simp[jB,hb]
  exact aub (hy.symm.trans this)
 rw[pO B ha hb,<-HB B hst hr ha hb,ex,ey]
def fW(M:Machine)(z:Int)(ends:Nat):Prop:=0<=z/\z<M.q/\ends<2^M.q
theorem Ai{z:Int}{ends:Nat}:isPlace (az M l) z ends=true↔fW M z ends:=by
 unfold isPlace fW;simp only[aup,decide_eq_true_eq];exact Iff.rfl
theorem adu{z:Int}{ends:Nat}(h:fW M z ends):auA (rules (some (az M l)) (.says z ends)).2=((numbered (az M l) (d9 M l z.toNat ends)).2:Int)::Si08Neutral.ints (numbered (az M l) (d9 M l z.toNat ends)).1:=by
 unfold rules;dsimp only;rw[if_pos (Ai.mpr h)];rfl
theorem adv{z:Int}{ends:Nat}(h:¬fW M z ends):auA (rules (some (az M l)) (.says z ends)).2=[-2]:=by
 unfold rules;dsimp only;rw[if_neg fun q=>h (Ai.mp q)];rfl
theorem adw{z:Int}{ends:Nat}(h:fW M z ends):auA (rules (some (az M l)) (.free z ends)).2=[if stillB (az M l) (d9 M l z.toNat ends)=true then 1 else 0]:=by
 unfold rules;dsimp only;rw[if_pos (Ai.mpr h)];rfl
theorem adx{z:Int}{ends:Nat}(h:¬fW M z ends):auA (rules (some (az M l)) (.free z ends)).2=[-2]:=by
 unfold rules;dsimp only;rw[if_neg fun q=>h (Ai.mp q)];rfl
theorem ady{z:Int}(h:0<=z/\z<=3):auA (rules (some (az M l)) (.classes z)).2=((aF M l z.toNat).2:Int)::Si08Neutral.ints (aF M l z.toNat).1:=by
 unfold rules;dsimp only;rw[if_pos h];rfl
theorem adz{z:Int}(h:¬(0<=z/\z<=3)):auA (rules (some (az M l)) (.classes z)).2=[-2]:=by
 unfold rules;dsimp only;rw[if_neg h];rfl
theorem lY.right(B:aQ M l){st ends a b c:Nat}(ha:a<l.length)(hb:b<l.length)(hc:c<l.length)(h:lY l st ends a b):lY l st ends (pr l a c) (pr l b c):=fun x y hx hy=>by
 have m:=bH B;have:=h x (pr l c y) hx (m.lt hc hy);rw[<-m.assoc (m.lt hx ha) hc hy,<-m.assoc (m.lt hx hb) hc hy,m.assoc hx ha hc,m.assoc hx hb hc] at this;exact this
theorem Ry(B:aQ M l){st ends a i:Nat}(ha:a<l.length)(h:lY l st ends (pw (pr l) a i) (pw (pr l) a (i+1))):∀d,lY l st ends (pw (pr l) a (i+d)) (pw (pr l) a (i+d+1))
 |0=>h
 |d+1=>by
  have:=lY.right B (cI (bH B) ha _) (cI (bH B) ha _) ha (Ry B ha h d);exact this
theorem Rz(B:aQ M l){a s:Nat}(ha:a<l.length)(hs:s<M.q)(i j:Nat):(mp l (pw (pr l) a (i+j))).getD s 0=(mp l (pw (pr l) a j)).getD ((mp l (pw (pr l) a i)).getD s 0) 0:=by
 have m:=bH B;rw[iI m ha,jg B (cI m ha i) (cI m ha j) hs]
theorem adA(B:aQ M l){a N:Nat}(ha:a<l.length)(hN:M.q<=N):∃d,0<d/\∀c,pw (pr l) a (N+d*c)=pw (pr l) a N:=by
 have m:=bH B;obtain⟨i,j,h1,h2,h3,h4⟩:=Ae m ha;have glob:∀k,i<=k->pw (pr l) a (k+(j-i))=pw (pr l) a k:=fun k hk=>by
  have e1:k+(j-i)=j+(k-i):=by omega
  have e2:k=i+(k-i):=by omega
  rw[e1,iI m ha,<-h4,<-iI m ha,<-e2]
 have once:pw (pr l) a (N+(j-i))=pw (pr l) a N:=by
  refine Rv B (cI m ha _) (cI m ha _) fun s hs=>?_
  obtain⟨t1,t2,t12,t2q,e⟩:∃t1 t2,t1<t2/\t2<=M.q/\(mp l (pw (pr l) a t1)).getD s 0=(mp l (pw (pr l) a t2)).getD s 0:=by
   apply avh;intro hno;have:=lU M.q ((atU (M.q+1)).map fun t=>(mp l (pw (pr l) a t)).getD s 0) (by
    unfold avK;rw[avH];refine avk (R:=fun a b=>a<b) (fun{x y} hx hy hxy q=>?_) avZ;have hy:=at4.mp hy;exact hno ⟨x,y,hxy,by omega,q⟩) fun x hx=>by
     obtain⟨t,_,rfl⟩:=at6.mp hx;exact j7 (B.dB (cI m ha t)) hs
   simp at this;omega
  have adB:∀t,t1<=t->(mp l (pw (pr l) a (t+(t2-t1)))).getD s 0=(mp l (pw (pr l) a t)).getD s 0:=fun t ht=>by
   have e1:t+(t2-t1)=t2+(t-t1):=by omega
   have e2:t=t1+(t-t1):=by omega
   rw[e1,Rz B ha hs,<-e,<-Rz B ha hs,<-e2]
  have loc:∀c t,t1<=t->(mp l (pw (pr l) a (t+(t2-t1)*c))).getD s 0=(mp l (pw (pr l) a t)).getD s 0:=fun c=>by
   induction c with
   |zero=>intro t _;simp
   |succ c ih=>
    intro t ht;rw[av2,<-av0,adB _ (by omega),ih t ht]
  have big:i<=(t2-t1)*i:=by
   have:=ayI i (show 1<=t2-t1 by omega);omega
  have e1:=loc i (N+(j-i)) (by omega);have e2:=loc i N (by omega);have e3:N+(j-i)+(t2-t1)*i=N+(t2-t1)*i+(j-i):=by omega
  rw[<-e1,e3,glob _ (by omega),e2]
 refine⟨j-i,by omega,fun c=>?_⟩
 induction c with
 |zero=>simp
 |succ c ih=>
  rw[av2,show N+((j-i)*c+(j-i))=(N+(j-i))+(j-i)*c by omega,iI m ha,once,<-iI m ha,ih]
theorem adC(B:aQ M l){a:Nat}(ha:a<l.length):∀N,0<N->∃i,0<i/\i<=l.length/\pw (pr l) a i=pw (pr l) a N:=by
 have m:=bH B;intro N
 induction N using avU with
 |_ N ih=>
  intro hN;by_cases hl:N<=l.length
  ·exact⟨N,hN,hl,rfl⟩
  ·obtain⟨i,j,h1,h2,h3,h4⟩:=Ae m ha;have e:pw (pr l) a N=pw (pr l) a (i+(N-j)):=by
    have:N=j+(N-j):=by omega
    rw[iI m ha,h4,<-iI m ha,<-this]
   obtain⟨k,k1,k2,k3⟩:=ih (i+(N-j)) (by omega) (by omega);exact⟨k,k1,k2,by rw[k3,e]⟩
theorem adD(B:aQ M l){st ends N:Nat}(hN:M.q<=N)(h0:0<N):stillB (az M l) (d9 M l st ends)=true↔∀a,a<l.length->lY l st ends (pw (pr l) a N) (pw (pr l) a (N+1)):=by
 have m:=bH B;unfold stillB;rw[jf,cU];refine forall_congr' fun a=>forall_congr' fun ha=>?_
 rw[auZ];constructor
 ·rintro⟨i,hi,e⟩;rw[nU B ha,nU B ha,pO B (cI m ha _) (cI m ha _)] at e;obtain⟨d,d0,hd⟩:=adA B ha hN;have big:i+1<=N+d*(i+1):=by
   have:=ayI (i+1) (show 1<=d by omega);omega
  have:=Ry B ha e (N+d*(i+1) - (i+1));rw[show i+1+(N+d*(i+1) - (i+1))=N+d*(i+1) by omega] at this;have e2:pw (pr l) a (N+d*(i+1)+1)=pw (pr l) a (N+1):=by
   show pr l (pw (pr l) a (N+d*(i+1))) a=pr l (pw (pr l) a N) a;rw[hd]
  rw[hd,e2] at this;exact this
 ·intro h;obtain⟨i,i0,i1,e⟩:=adC B ha N h0;refine⟨i-1,at4.mpr (by omega),?_⟩;rw[nU B ha,nU B ha,pO B (cI m ha _) (cI m ha _),show i-1+1=i by omega,show i-1+2=i+1 by omega];have e2:pw (pr l) a (i+1)=pw (pr l) a (N+1):=by
   show pr l (pw (pr l) a i) a=pr l (pw (pr l) a N) a;rw[e]
  rw[e,e2];exact h
def sq(r:Map):Nat->Map
 |0=>r
 |j+1=>then_ (sq r j) (sq r j)
theorem RC(B:aQ M l){a:Nat}(ha:a<l.length):∀j,sq (mp l a) j=mp l (pw (pr l) a (2^j))
 |0=>by
  show mp l a=mp l (pw (pr l) a 1);rw[z8 (bH B) ha]
 |j+1=>by
  have hj:=cI (bH B) ha (2^j);show then_ (sq (mp l a) j) (sq (mp l a) j)=_;rw[RC B ha j,<-(fV B hj hj).2,<-iI (bH B) ha,Nat.pow_succ,Nat.mul_two]
end
structure WS where
 met:List (Option Nat)
 count:Nat
 head:List (Option Nat)
 trail:List Nat
 ways:List (List Nat)
 waiting:List Nat
 heads:List Nat
section
variable(adj:List (List Nat))
def Ed(u v:Nat):Prop:=v∈adj.getD u []
end
def WS.mt(st:WS)(v:Nat):Option Nat:=st.met.getD v none
def WS.mv(st:WS)(v:Nat):Nat:=(st.mt v).getD 0
def WS.hd(st:WS)(v:Nat):Option Nat:=st.head.getD v none
def Dn(n:Nat)(st:WS)(v:Nat):Prop:=st.mt v=some n
structure Hd(st:WS)(h w:Nat):Prop where
 mem:h∈st.heads
 le:st.mv h<=st.mv w
 max:∀h',h'∈st.heads->st.mv h'<=st.mv w->st.mv h'<=st.mv h
def RD(n:Nat)(st:WS)(w u:Nat):Prop:=Dn n st u\/(u∈st.waiting/\∀h,Hd st h w->st.mv h<=st.mv u)
structure fc(adj:List (List Nat))(n:Nat)(st:WS):Prop where
 Aj:adj.length=n
 vf:∀u v,Ed adj u v->v<n
 nZ:st.met.length=n
 hlen:st.head.length=n
 cnt:st.count=((atU n).filter fun v=>(st.mt v).isSome).length
 zero:(st.mt 0).isSome=true
 cases:∀v,v<n->st.mt v=none\/v∈st.waiting\/Dn n st v
 lZ:∀w,w∈st.waiting->w<n/\∃k,st.mt w=some k/\k<st.count
 tR:st.waiting.Pairwise fun a b=>st.mv b<st.mv a
 vg:st.trail.Pairwise fun a b=>st.mv b<st.mv a
 hdec:st.heads.Pairwise fun a b=>st.mv b<st.mv a
 tw:∀t,t∈st.trail->t∈st.waiting
 ht:∀h,h∈st.heads->h∈st.trail
 tl:st.trail.length=st.ways.length
 pQ:∀t ws,(t,ws)∈st.trail.zip st.ways->∀u,u∈ws->Ed adj t u
 has:∀w,w∈st.waiting->∃h,Hd st h w
 i1:∀w h,w∈st.waiting->Hd st h w->Rc (Ed adj) h w/\Rc (Ed adj) w h
 i2:∀h h',h∈st.heads->h'∈st.heads->st.mv h<=st.mv h'->Rc (Ed adj) h h'
 i3:∀v,Dn n st v->∀u,Ed adj v u->Dn n st u
 xF:∀v,v<n->Dn n st v->∃h,st.hd v=some h/\Rc (Ed adj) v h/\Rc (Ed adj) h v
 xG:∀a b,a<n->b<n->Dn n st a->Dn n st b->Rc (Ed adj) a b->Rc (Ed adj) b a->st.hd a=st.hd b
 i4:∀w,w∈st.waiting->∀u,Ed adj w u->RD n st w u\/∃ws,(w,ws)∈st.trail.zip st.ways/\u∈ws
namespace fc
variable{adj:List (List Nat)}{n:Nat}{st:WS}
theorem Ak(I:fc adj n st):st.count<=n:=by
 rw[I.cnt];have:=ayJ (fun v=>(st.mt v).isSome) (atU n);simpa using this
theorem ou(I:fc adj n st){w:Nat}(h:w∈st.waiting):st.mt w=some (st.mv w)/\st.mv w<st.count:=by
 obtain⟨_,k,e,hk⟩:=I.lZ w h;unfold WS.mv;rw[e];exact⟨rfl,hk⟩
theorem RG(I:fc adj n st){w:Nat}(h:w∈st.waiting):¬Dn n st w:=fun d=>by
 obtain⟨e,hk⟩:=I.ou h;have:=I.Ak;unfold Dn at d;rw[e] at d;cases d;omega
theorem adE{l:List Nat}{f:Nat->Nat}(h:l.Pairwise fun a b=>f b<f a){a b:Nat}(ha:a∈l)(hb:b∈l)(e:f a=f b):a=b:=by
 induction l with
 |nil=>simp at ha
 |cons x l ih=>
  rw[ave] at h;rcases at3.mp ha with e1|ha1
  ·rcases at3.mp hb with e2|hb1
   ·rw[e1,e2]
   ·have:=h.1 b hb1;rw[e1] at e;omega
  ·rcases at3.mp hb with e2|hb1
   ·have:=h.1 a ha1;rw[e2] at e;omega
   ·exact ih h.2 ha1 hb1
theorem inj(I:fc adj n st){a b:Nat}(ha:a∈st.waiting)(hb:b∈st.waiting)(e:st.mv a=st.mv b):a=b:=adE I.tR ha hb e
theorem hw(I:fc adj n st){h:Nat}(hh:h∈st.heads):h∈st.waiting:=I.tw h (I.ht h hh)
theorem HD(I:fc adj n st){h h' w:Nat}(a:Hd st h w)(b:Hd st h' w):h=h':=I.inj (I.hw a.mem) (I.hw b.mem) (Nat.le_antisymm (b.max h a.mem a.le) (a.max h' b.mem b.le))
theorem top(I:fc adj n st){t:Nat}{tr:List Nat}(e:st.trail=t::tr):(∀x,x∈st.trail->st.mv x<=st.mv t)/\∀h,h∈st.heads->Rc (Ed adj) h t:=by
 have h1:∀x,x∈st.trail->st.mv x<=st.mv t:=fun x hx=>by
  have:=I.vg;rw[e] at this hx;rw[ave] at this;rcases at3.mp hx with rfl|hx
  ·exact atX _
  ·exact avm (this.1 x hx)
 refine⟨h1,fun h hh=>?_⟩;have tw:t∈st.waiting:=I.tw t (by rw[e];exact at7 ..);obtain⟨h0,H0⟩:=I.has t tw;have hle:st.mv h<=st.mv t:=h1 h (I.ht h hh);exact(I.i2 h h0 hh H0.mem (H0.max h hh hle)).trans (I.i1 t h0 tw H0).1
end fc
theorem HF{α:Type}{l:List α}{i j:Nat}{x d:α}(h:i<l.length):(l.set i x).getD j d=if j=i then x else l.getD j d:=by
 rw[at5,at5,List.getElem?_set];by_cases e:j=i
 ·rw[if_pos e.symm,if_pos e,if_pos h];rfl
 ·rw[if_neg (fun q=>e q.symm),if_neg e]
theorem RJ{n:Nat}{f f':Nat->Bool}{v:Nat}(hv:v<n)(h0:f v=false)(h1:f' v=true)(h:∀x,x≠v->f' x=f x):((atU n).filter f').length=((atU n).filter f).length+1:=by
 induction n with
 |zero=>omega
 |succ n ih=>
  rw[avV,awZ,awZ,aud,aud];by_cases e:v=n
  ·subst e;have:(atU v).filter f'=(atU v).filter f:=ayK fun x hx=>h x (by have:=at4.mp hx;omega)
   rw[this];simp[h0,h1]
  ·rw[ih (by omega)];have:f' n=f n:=h n (fun q=>e q.symm);rw[awc,awc,this]
   split<;>simp<;>omega
def WS.enter(st:WS)(out:List Nat)(v:Nat):WS:=⟨st.met.set v (some st.count),st.count+1,st.head,v::st.trail,out::st.ways,v::st.waiting,v::st.heads⟩
theorem RK{adj:List (List Nat)}{n:Nat}{st:WS}{t v:Nat}{tr ws:List Nat}{rest:List (List Nat)}(I:fc adj n st)(et:st.trail=t::tr)(ew:st.ways=(ws++[v])::rest)(hm:st.mt v=none):
  fc adj n (WS.enter {st with ways:=ws::rest} (adj.getD v []) v):=by
 obtain⟨st',es⟩:∃s,s=WS.enter {st with ways:=ws::rest} (adj.getD v []) v:=⟨_,rfl⟩
 rw[<-es];have tU:Ed adj t v:=I.pQ t (ws++[v]) (by rw[et,ew];exact at7 ..) v (by simp);have hv:v<n:=I.vf t v tU;have Al:v<st.met.length:=by rw[I.nZ];exact hv
 have du:∀x,st'.mt x=if x=v then some st.count else st.mt x:=fun x=>by rw[es];exact HF Al
 have mv':∀x,x≠v->st'.mv x=st.mv x:=fun x hx=>by unfold WS.mv;rw[du,if_neg hx]
 have vh:st'.mv v=st.count:=by unfold WS.mv;rw[du,if_pos rfl];rfl
 have vw:v∉st.waiting:=fun h=>by
  have:=(I.ou h).1;rw[hm] at this;cases this
 have wv:∀{w},w∈st.waiting->w≠v:=fun hw e=>vw (e▸hw)
 have hd':∀x,st'.hd x=st.hd x:=fun x=>by rw[es];rfl
 have cV:∀x,Dn n st' x↔Dn n st x:=fun x=>by
  unfold Dn;rw[du];by_cases e:x=v
  ·subst e;rw[if_pos rfl,hm];refine⟨fun h=>?_,fun h=>by cases h⟩;exfalso;have h:=aub h;have hc:=I.cnt;have h3:((atU n).filter fun v=>(st.mt v).isSome).length=(atU n).length:=by rw[<-hc,h,au0]
   have h4:=ayG.mp h3 x (at4.mpr hv);rw[hm] at h4;simp at h4
  ·rw[if_neg e]
 have cJ:st'.trail=v::st.trail:=by rw[es];rfl
 have fQ:st'.ways=adj.getD v []::ws::rest:=by rw[es];rfl
 have dh:st'.heads=v::st.heads:=by rw[es];rfl
 have eq':st'.waiting=v::st.waiting:=by rw[es];rfl
 have ji:st'.count=st.count+1:=by rw[es];rfl
 have hdI:∀{h w},w∈st.waiting->(Hd st' h w↔Hd st h w):=fun{h w} hw=>by
  have hne:=wv hw;have hwl:=(I.ou hw).2;constructor
  ·intro H;have HH:h≠v:=fun e=>by
    have:=H.le;rw[e,vh,mv' w hne] at this;omega
   have hm1:h∈st.heads:=by
    have:=H.mem;rw[dh] at this;exact(at3.mp this).resolve_left HH
   refine⟨hm1,by have:=H.le;rw[mv' h HH,mv' w hne] at this;exact this,fun h' hh' hle=>?_⟩;have hne':=wv (I.hw hh');have:=H.max h' (by rw[dh];exact at8 _ hh') (by rw[mv' h' hne',mv' w hne];exact hle);rw[mv' h' hne',mv' h HH] at this;exact this
  ·intro H;have hne':=wv (I.hw H.mem);refine⟨by rw[dh];exact at8 _ H.mem,by rw[mv' h hne',mv' w hne];exact H.le,fun h' hh' hle=>?_⟩;rw[dh] at hh';rcases at3.mp hh' with rfl|hh'
   ·rw[vh,mv' w hne] at hle;omega
   ·have hn2:=wv (I.hw hh');rw[mv' h' hn2,mv' w hne] at hle;rw[mv' h' hn2,mv' h hne'];exact H.max h' hh' hle
 have hdV:∀{h},Hd st' h v->h=v:=fun{h} H=>by
  have hm1:=H.mem;rw[dh] at hm1;rcases at3.mp hm1 with e|hm1
  ·exact e
  ·have:=H.max v (by rw[dh];exact at7 ..) (atX _);rw[vh,mv' h (wv (I.hw hm1))] at this;have:=(I.ou (I.hw hm1)).2;omega
 have adG:Hd st' v v:=⟨by rw[dh];exact at7 ..,atX _,fun h' _ hle=>hle⟩;have pw:∀{l:List Nat},(∀x,x∈l->x∈st.waiting)->(l.Pairwise fun a b=>st.mv b<st.mv a)->((v::l).Pairwise fun a b=>st'.mv b<st'.mv a):=fun{l} hl hp=>by
  rw[ave];refine⟨fun x hx=>?_,?_⟩
  ·rw[vh,mv' x (wv (hl x hx))];exact(I.ou (hl x hx)).2
  ·refine avk (fun{a b} ha hb hab=>?_) hp;rw[mv' a (wv (hl a ha)),mv' b (wv (hl b hb))];exact hab
 refine⟨I.Aj,I.vf,?_,?_,?_,?_,?_,?_,?_,?_,?_,?_,?_,?_,?_,?_,?_,?_,?_,?_,?_,?_⟩
 ·rw[es];show(st.met.set v (some st.count)).length=n;rw[avN];exact I.nZ
 ·rw[es];exact I.hlen
 ·rw[ji,I.cnt];refine(RJ hv (by show(st.mt v).isSome=false;rw[hm];rfl) (by show(st'.mt v).isSome=true;rw[du,if_pos rfl];rfl) fun x hx=>?_).symm;show(st'.mt x).isSome=(st.mt x).isSome;rw[du,if_neg hx]
 ·rw[du]
  split
  ·rfl
  ·exact I.zero
 ·intro x hx;by_cases e:x=v
  ·exact .inr (.inl (by rw[eq',e];exact at7 ..))
  ·rcases I.cases x hx with q|q|q
   ·exact .inl (by rw[du,if_neg e];exact q)
   ·exact .inr (.inl (by rw[eq'];exact at8 _ q))
   ·exact .inr (.inr ((cV x).mpr q))
 ·intro w hw;rw[eq'] at hw;rcases at3.mp hw with rfl|hw
  ·exact⟨hv,st.count,by rw[du,if_pos rfl],by rw[ji];omega⟩
  ·obtain⟨h1,k,h2,h3⟩:=I.lZ w hw;exact⟨h1,k,by rw[du,if_neg (wv hw)];exact h2,by rw[ji];omega⟩
 ·rw[eq'];exact pw (fun x hx=>hx) I.tR
 ·rw[cJ];exact pw (fun x hx=>I.tw x hx) I.vg
 ·rw[dh];exact pw (fun x hx=>I.hw hx) I.hdec
 ·intro x hx;rw[cJ] at hx;rw[eq'];rcases at3.mp hx with rfl|hx
  ·exact at7 ..
  ·exact at8 _ (I.tw x hx)
 ·intro x hx;rw[dh] at hx;rw[cJ];rcases at3.mp hx with rfl|hx
  ·exact at7 ..
  ·exact at8 _ (I.ht x hx)
 ·rw[cJ,fQ];have:=I.tl;rw[et,ew] at this;rw[et];simpa using this
 ·intro x xs hx u hu;rw[cJ,fQ,et] at hx;rcases at3.mp hx with e|hx
  ·cases e;exact hu
  ·rcases at3.mp hx with e|hx
   ·cases e;exact I.pQ t (ws++[v]) (by rw[et,ew];exact at7 ..) u (by simp[hu])
   ·exact I.pQ x xs (by rw[et,ew];exact at8 _ hx) u hu
 ·intro w hw;rw[eq'] at hw;rcases at3.mp hw with rfl|hw
  ·exact⟨_,adG⟩
  ·obtain⟨h,H⟩:=I.has w hw;exact⟨h,(hdI hw).mpr H⟩
 ·intro w h hw H;rw[eq'] at hw;rcases at3.mp hw with rfl|hw
  ·rw[hdV H];exact⟨.refl _,.refl _⟩
  ·exact I.i1 w h hw ((hdI hw).mp H)
 ·intro h h' hh hh' hle;rw[dh] at hh hh';rcases at3.mp hh' with e1|hh1
  ·rw[e1];rcases at3.mp hh with e2|Am
   ·rw[e2];exact .refl _
   ·exact .step ((I.top et).2 h Am) tU
  ·rcases at3.mp hh with e2|Am
   ·rw[e2,vh,mv' h' (wv (I.hw hh1))] at hle;have:=(I.ou (I.hw hh1)).2;omega
   ·rw[mv' h (wv (I.hw Am)),mv' h' (wv (I.hw hh1))] at hle;exact I.i2 h h' Am hh1 hle
 ·intro x hx u hu;exact(cV u).mpr (I.i3 x ((cV x).mp hx) u hu)
 ·intro x hx hd;rw[hd'];exact I.xF x hx ((cV x).mp hd)
 ·intro a b ha hb da db r1 r2;rw[hd',hd'];exact I.xG a b ha hb ((cV a).mp da) ((cV b).mp db) r1 r2
 ·intro w hw u hu;rw[eq'] at hw;rcases at3.mp hw with e1|hw
  ·subst e1;exact .inr ⟨_,by rw[cJ,fQ];exact at7 ..,hu⟩
  ·rcases I.i4 w hw u hu with(q|⟨q1,q2⟩)|⟨xs,q1,q2⟩
   ·exact .inl (.inl ((cV u).mpr q))
   ·refine .inl (.inr ⟨by rw[eq'];exact at8 _ q1,fun h H=>?_⟩);have H:=(hdI hw).mp H;rw[mv' h (wv (I.hw H.mem)),mv' u (wv q1)];exact q2 h H
   ·rw[et,ew] at q1;rcases at3.mp q1 with e|q1
    ·cases e;rcases aus.mp q2 with q2|q2
     ·exact .inr ⟨ws,by rw[cJ,fQ,et];exact at8 _ (at7 ..),q2⟩
     ·have q3:=auE.mp q2;refine .inl (.inr ⟨by rw[eq',q3];exact at7 ..,fun h H=>?_⟩);have H:=(hdI hw).mp H;rw[q3,vh,mv' h (wv (I.hw H.mem))];exact avm (I.ou (I.hw H.mem)).2
    ·exact .inr ⟨xs,by rw[cJ,fQ,et];exact at8 _ (at8 _ q1),q2⟩
theorem adH{l:List Nat}{f:Nat->Nat}{k x:Nat}(h:l.Pairwise fun a b=>f b<f a):x∈l.dropWhile (fun y=>decide (k<f y))↔x∈l/\f x<=k:=by
 induction l with
 |nil=>simp
 |cons y l ih=>
  rw[ave] at h;rw[axJ];by_cases q:k<f y
  ·rw[if_pos (decide_eq_true q),ih h.2];constructor
   ·rintro⟨h1,h2⟩;exact⟨at8 _ h1,h2⟩
   ·rintro⟨h1,h2⟩;rcases at3.mp h1 with e|h1
    ·rw[e] at h2;omega
    ·exact⟨h1,h2⟩
  ·rw[if_neg (by simpa using q)];constructor
   ·intro hx;refine⟨hx,?_⟩;rcases at3.mp hx with e|hx
    ·rw[e];omega
    ·have:=h.1 x hx;omega
   ·exact fun hx=>hx.1
theorem adI{l:List Nat}{r:Nat->Nat->Prop}{p:Nat->Bool}(h:l.Pairwise r):(l.dropWhile p).Pairwise r:=List.Pairwise.sublist (List.dropWhile_sublist p) h
def WS.join(st:WS)(v:Nat):WS:={st with heads:=st.heads.dropWhile fun h=>decide (st.mv v<st.mv h)}
theorem adJ{adj:List (List Nat)}{n:Nat}{st:WS}{t v:Nat}{tr ws:List Nat}{rest:List (List Nat)}(I:fc adj n st)(et:st.trail=t::tr)(ew:st.ways=(ws++[v])::rest)(hm:st.mt v≠none):
  fc adj n (WS.join {st with ways:=ws::rest} v):=by
 obtain⟨st',es⟩:∃s,s=WS.join {st with ways:=ws::rest} v:=⟨_,rfl⟩
 rw[<-es];have tU:Ed adj t v:=I.pQ t (ws++[v]) (by rw[et,ew];exact at7 ..) v (by simp);have hv:v<n:=I.vf t v tU;have du:∀x,st'.mt x=st.mt x:=fun x=>by rw[es];rfl
 have mv':∀x,st'.mv x=st.mv x:=fun x=>by rw[es];rfl
 have hd':∀x,st'.hd x=st.hd x:=fun x=>by rw[es];rfl
 have cV:∀x,Dn n st' x↔Dn n st x:=fun x=>by unfold Dn;rw[du]
 have cJ:st'.trail=st.trail:=by rw[es];rfl
 have fQ:st'.ways=ws::rest:=by rw[es];rfl
 have eq':st'.waiting=st.waiting:=by rw[es];rfl
 have ji:st'.count=st.count:=by rw[es];rfl
 have dh:st'.heads=st.heads.dropWhile fun h=>decide (st.mv v<st.mv h):=by rw[es];rfl
 have hmem:∀h,h∈st'.heads↔h∈st.heads/\st.mv h<=st.mv v:=fun h=>by rw[dh];exact adH I.hdec
 have key:(∀w,w∈st.waiting->∃h,Hd st' h w)/\(∀w h,w∈st.waiting->Hd st' h w->(Rc (Ed adj) h w/\Rc (Ed adj) w h)/\∀h',Hd st h' w->st.mv h<=st.mv h')/\RD n st' t v:=by
  have HJ:t∈st.waiting:=I.tw t (by rw[et];exact at7 ..);rcases I.cases v hv with q|q|q
  ·exact absurd q hm
  ·
   obtain⟨h0,H0⟩:=I.has v q;have Ao:h0∈st'.heads:=(hmem h0).mpr ⟨H0.mem,H0.le⟩;have two:∀w,w∈st.waiting->∀hw,Hd st hw w->(st.mv hw<=st.mv v->Hd st' hw w)/\(st.mv v<st.mv hw->Hd st' h0 w):=fun w hw1 hw H=>by
    constructor
    ·intro hle;exact⟨(hmem hw).mpr ⟨H.mem,hle⟩,by rw[mv',mv'];exact H.le,fun h' hh' hl=>by rw[mv',mv'] at*;exact H.max h' ((hmem h').mp hh').1 hl⟩
    ·intro hlt;refine⟨Ao,by rw[mv',mv'];have:=H.le;have:=H0.le;omega,fun h' hh' hl=>?_⟩;rw[mv',mv'] at*;exact H0.max h' ((hmem h').mp hh').1 ((hmem h').mp hh').2
   have uniq:∀{a b w},Hd st' a w->Hd st' b w->a=b:=fun{a b w} A B=>by
    refine I.inj (I.hw ((hmem a).mp A.mem).1) (I.hw ((hmem b).mp B.mem).1) (Nat.le_antisymm ?_ ?_)
    ·have:=B.max a A.mem A.le;rw[mv',mv'] at this;exact this
    ·have:=A.max b B.mem B.le;rw[mv',mv'] at this;exact this
   refine⟨fun w hw1=>?_,fun w h hw1 H=>?_,.inr ⟨by rw[eq'];exact q,fun h H=>by rw[mv',mv'];exact((hmem h).mp H.mem).2⟩⟩
   ·obtain⟨hw,H⟩:=I.has w hw1;by_cases c:st.mv hw<=st.mv v
    ·exact⟨_,(two w hw1 hw H).1 c⟩
    ·exact⟨_,(two w hw1 hw H).2 (by omega)⟩
   ·obtain⟨hw,Hw⟩:=I.has w hw1;by_cases c:st.mv hw<=st.mv v
    ·have e:=uniq H ((two w hw1 hw Hw).1 c);subst e;exact⟨I.i1 w _ hw1 Hw,fun h' H'=>by rw[I.HD H' Hw];exact atX _⟩
    ·have e:=uniq H ((two w hw1 hw Hw).2 (by omega));subst e;have r0:=I.i1 v _ q H0;have RL:=I.i1 w hw hw1 Hw;have up:Rc (Ed adj) h hw:=I.i2 h hw H0.mem Hw.mem (by have:=H0.le;omega);have down:Rc (Ed adj) hw h:=(Rc.step ((I.top et).2 hw Hw.mem) tU).trans r0.2;refine⟨⟨up.trans RL.1,RL.2.trans down⟩,fun h' H'=>?_⟩;rw[I.HD H' Hw];have:=H0.le;omega
  ·
   have hmv:st.mv v=n:=by unfold WS.mv;rw[show st.mt v=some n from q];rfl
   have same:∀h,h∈st'.heads↔h∈st.heads:=fun h=>by
    rw[hmem];refine⟨fun z=>z.1,fun z=>⟨z,?_⟩⟩;have:=(I.ou (I.hw z)).2;have:=I.Ak;omega
   have hdI:∀h w,Hd st' h w↔Hd st h w:=fun h w=>by
    constructor
    ·intro H;exact⟨(same h).mp H.mem,by have:=H.le;rw[mv',mv'] at this;exact this,fun h' hh' hl=>by have:=H.max h' ((same h').mpr hh') (by rw[mv',mv'];exact hl);rw[mv',mv'] at this;exact this⟩
    ·intro H;exact⟨(same h).mpr H.mem,by rw[mv',mv'];exact H.le,fun h' hh' hl=>by rw[mv',mv'] at*;exact H.max h' ((same h').mp hh') hl⟩
   refine⟨fun w hw1=>?_,fun w h hw1 H=>?_,.inl ((cV v).mpr q)⟩
   ·obtain⟨h,H⟩:=I.has w hw1;exact⟨h,(hdI h w).mpr H⟩
   ·have H:=(hdI h w).mp H;exact⟨I.i1 w h hw1 H,fun h' H'=>by rw[I.HD H' H];exact atX _⟩
 obtain⟨k1,k2,k3⟩:=key;have pw:∀{l:List Nat},(l.Pairwise fun a b=>st.mv b<st.mv a)->(l.Pairwise fun a b=>st'.mv b<st'.mv a):=fun{l} hp=>awo (fun{a b} hab=>by rw[mv',mv'];exact hab) hp
 refine⟨I.Aj,I.vf,by rw[es];exact I.nZ,by rw[es];exact I.hlen,by rw[ji,I.cnt];congr 2;funext v;rw[du],by rw[du];exact I.zero,?_,?_,?_,?_,?_,?_,?_,?_,?_,?_,?_,?_,?_,?_,?_,?_⟩
 ·intro x hx;rw[du,eq',cV];exact I.cases x hx
 ·intro w hw;rw[eq'] at hw;rw[du,ji];exact I.lZ w hw
 ·rw[eq'];exact pw I.tR
 ·rw[cJ];exact pw I.vg
 ·rw[dh];exact pw (adI I.hdec)
 ·intro x hx;rw[cJ] at hx;rw[eq'];exact I.tw x hx
 ·intro x hx;rw[cJ];exact I.ht x ((hmem x).mp hx).1
 ·rw[cJ,fQ];have:=I.tl;rw[ew] at this;simpa using this
 ·intro x xs hx u hu;rw[cJ,fQ,et] at hx;rcases at3.mp hx with e|hx
  ·cases e;exact I.pQ t (ws++[v]) (by rw[et,ew];exact at7 ..) u (by simp[hu])
  ·exact I.pQ x xs (by rw[et,ew];exact at8 _ hx) u hu
 ·intro w hw;rw[eq'] at hw;exact k1 w hw
 ·intro w h hw H;rw[eq'] at hw;exact(k2 w h hw H).1
 ·intro h h' hh hh' hle;rw[mv',mv'] at hle;exact I.i2 h h' ((hmem h).mp hh).1 ((hmem h').mp hh').1 hle
 ·intro x hx u hu;exact(cV u).mpr (I.i3 x ((cV x).mp hx) u hu)
 ·intro x hx hd;rw[hd'];exact I.xF x hx ((cV x).mp hd)
 ·intro a b ha hb da db r1 r2;rw[hd',hd'];exact I.xG a b ha hb ((cV a).mp da) ((cV b).mp db) r1 r2
 ·intro w hw u hu;rw[eq'] at hw;rcases I.i4 w hw u hu with(q|⟨q1,q2⟩)|⟨xs,q1,q2⟩
  ·exact .inl (.inl ((cV u).mpr q))
  ·refine .inl (.inr ⟨by rw[eq'];exact q1,fun h H=>?_⟩);obtain⟨hw0,H0⟩:=I.has w hw;have a1:=(k2 w h hw H).2 hw0 H0;have a2:=q2 hw0 H0;rw[mv',mv'];omega
  ·rw[et,ew] at q1;rcases at3.mp q1 with e|q1
   ·cases e;rcases aus.mp q2 with q2|q2
    ·exact .inr ⟨ws,by rw[cJ,fQ,et];exact at7 ..,q2⟩
    ·rw[auE.mp q2];exact .inl k3
   ·exact .inr ⟨xs,by rw[cJ,fQ,et];exact at8 _ q1,q2⟩
theorem adK{adj:List (List Nat)}{n:Nat}{st:WS}{t:Nat}{tr:List Nat}{rest:List (List Nat)}(I:fc adj n st)(et:st.trail=t::tr)(ew:st.ways=[]::rest)(hne:st.heads.head? ≠some t):
  fc adj n {st with trail:=tr,ways:=rest}:=by
 obtain⟨st',es⟩:∃s:WS,s={st with trail:=tr,ways:=rest}:=⟨_,rfl⟩
 rw[<-es];have du:∀x,st'.mt x=st.mt x:=fun x=>by rw[es];rfl
 have mv':∀x,st'.mv x=st.mv x:=fun x=>by rw[es];rfl
 have hd':∀x,st'.hd x=st.hd x:=fun x=>by rw[es];rfl
 have cV:∀x,Dn n st' x↔Dn n st x:=fun x=>by unfold Dn;rw[du]
 have cJ:st'.trail=tr:=by rw[es]
 have fQ:st'.ways=rest:=by rw[es]
 have eq':st'.waiting=st.waiting:=by rw[es]
 have ji:st'.count=st.count:=by rw[es]
 have dh:st'.heads=st.heads:=by rw[es]
 have hdI:∀{h w},Hd st' h w↔Hd st h w:=fun{h w}=>by
  constructor
  ·intro H;exact⟨by rw[<-dh];exact H.mem,by have:=H.le;rw[mv',mv'] at this;exact this,fun h' hh' hl=>by have:=H.max h' (by rw[dh];exact hh') (by rw[mv',mv'];exact hl);rw[mv',mv'] at this;exact this⟩
  ·intro H;exact⟨by rw[dh];exact H.mem,by rw[mv',mv'];exact H.le,fun h' hh' hl=>by rw[mv',mv'] at*;exact H.max h' (by rw[<-dh];exact hh') hl⟩
 have pw:∀{l:List Nat},(l.Pairwise fun a b=>st.mv b<st.mv a)->(l.Pairwise fun a b=>st'.mv b<st'.mv a):=fun{l} hp=>awo (fun{a b} hab=>by rw[mv',mv'];exact hab) hp
 have htop:=(I.top et).1;have hnt:t∉st.heads:=fun hin=>by
  cases q:st.heads with
  |nil=>rw[q] at hin;simp at hin
  |cons x hs=>
   have hd:=I.hdec;rw[q,ave] at hd;rw[q] at hin hne;rcases at3.mp hin with e|hin
   ·rw[e] at hne;exact hne rfl
   ·have h1:=hd.1 t hin;have h2:=htop x (I.ht x (by rw[q];exact at7 ..));omega
 refine⟨I.Aj,I.vf,by rw[es];exact I.nZ,by rw[es];exact I.hlen,by rw[ji,I.cnt];congr 2;funext v;rw[du],by rw[du];exact I.zero,?_,?_,?_,?_,?_,?_,?_,?_,?_,?_,?_,?_,?_,?_,?_,?_⟩
 ·intro x hx;rw[du,eq',cV];exact I.cases x hx
 ·intro w hw;rw[eq'] at hw;rw[du,ji];exact I.lZ w hw
 ·rw[eq'];exact pw I.tR
 ·rw[cJ];have:=I.vg;rw[et,ave] at this;exact pw this.2
 ·rw[dh];exact pw I.hdec
 ·intro x hx;rw[cJ] at hx;rw[eq'];exact I.tw x (by rw[et];exact at8 _ hx)
 ·intro x hx;rw[dh] at hx;rw[cJ];have:=I.ht x hx;rw[et] at this;exact(at3.mp this).resolve_left fun e=>hnt (e▸hx)
 ·rw[cJ,fQ];have:=I.tl;rw[et,ew] at this;simpa using this
 ·intro x xs hx u hu;rw[cJ,fQ] at hx;exact I.pQ x xs (by rw[et,ew];exact at8 _ hx) u hu
 ·intro w hw;rw[eq'] at hw;obtain⟨h,H⟩:=I.has w hw;exact⟨h,hdI.mpr H⟩
 ·intro w h hw H;rw[eq'] at hw;exact I.i1 w h hw (hdI.mp H)
 ·intro h h' hh hh' hle;rw[mv',mv'] at hle;rw[dh] at hh hh';exact I.i2 h h' hh hh' hle
 ·intro x hx u hu;exact(cV u).mpr (I.i3 x ((cV x).mp hx) u hu)
 ·intro x hx hd;rw[hd'];exact I.xF x hx ((cV x).mp hd)
 ·intro a b ha hb da db r1 r2;rw[hd',hd'];exact I.xG a b ha hb ((cV a).mp da) ((cV b).mp db) r1 r2
 ·intro w hw u hu;rw[eq'] at hw;rcases I.i4 w hw u hu with(q|⟨q1,q2⟩)|⟨xs,q1,q2⟩
  ·exact .inl (.inl ((cV u).mpr q))
  ·exact .inl (.inr ⟨by rw[eq'];exact q1,fun h H=>by rw[mv',mv'];exact q2 h (hdI.mp H)⟩)
  ·rw[et,ew] at q1;rcases at3.mp q1 with e|q1
   ·cases e;simp at q2
   ·exact .inr ⟨xs,by rw[cJ,fQ];exact q1,q2⟩
def dw(l:List (Option Nat))(xs:List Nat)(x:Nat):List (Option Nat):=xs.foldl (fun l i=>l.set i (some x)) l
theorem xH(x:Nat):∀(xs:List Nat)(l:List (Option Nat)),(dw l xs x).length=l.length
 |[],l=>rfl
 |i::xs,l=>by
  show(dw (l.set i (some x)) xs x).length=_;rw[xH x xs,avN]
theorem HN(x v:Nat):∀(xs:List Nat)(l:List (Option Nat)),(∀i,i∈xs->i<l.length)->(dw l xs x).getD v none=if v∈xs then some x else l.getD v none
 |[],l,_=>by simp[dw]
 |i::xs,l,h=>by
  show(dw (l.set i (some x)) xs x).getD v none=_;rw[HN x v xs _ fun j hj=>by rw[avN];exact h j (at8 _ hj),HF (h i (at7 ..))];by_cases q:v∈xs
  ·rw[if_pos q,if_pos (at8 _ q)]
  ·rw[if_neg q];by_cases e:v=i
   ·rw[if_pos e,if_pos (by rw[e];exact at7 ..)]
   ·rw[if_neg e,if_neg fun z=>(at3.mp z).elim e q]
theorem RM(l:List (Option Nat))(xs:List Nat)(i x:Nat):dw l (xs++[i]) x=(dw l xs x).set i (some x):=by
 unfold dw;rw[avT];rfl
theorem adL{adj:List (List Nat)}{n:Nat}{st:WS}{t:Nat}{tr hs s wr:List Nat}{rest:List (List Nat)}(I:fc adj n st)(et:st.trail=t::tr)(ew:st.ways=[]::rest)(eh:st.heads=t::hs)(eq:st.waiting=s++t::wr):
  fc adj n {st with trail:=tr,ways:=rest,heads:=hs,waiting:=wr,met:=dw st.met (s++[t]) n,head:=dw st.head (s++[t]) t}:=by
 obtain⟨st',es⟩:∃s':WS,s'={st with trail:=tr,ways:=rest,heads:=hs,waiting:=wr,met:=dw st.met (s++[t]) n,head:=dw st.head (s++[t]) t}:=⟨_,rfl⟩
 rw[<-es];have vm:∀x,x∈s++[t]->x∈st.waiting:=fun x hx=>by
  rw[eq];rcases aus.mp hx with hx|hx
  ·exact aus.mpr (.inl hx)
  ·rw[auE.mp hx];exact aus.mpr (.inr (at7 ..))
 have RN:∀x,x∈s++[t]->x<n:=fun x hx=>(I.lZ x (vm x hx)).1
 have du:∀x,st'.mt x=if x∈s++[t] then some n else st.mt x:=fun x=>by rw[es];exact HN n x _ _ fun i hi=>by rw[I.nZ];exact RN i hi
 have hd':∀x,st'.hd x=if x∈s++[t] then some t else st.hd x:=fun x=>by rw[es];exact HN t x _ _ fun i hi=>by rw[I.hlen];exact RN i hi
 have rm:∀x,x∈st.waiting↔x∈s++[t]\/x∈wr:=fun x=>by
  rw[eq];simp only[aus,at3,auE,avu,or_false];constructor
  ·rintro(h|h|h)
   ·exact .inl (.inl h)
   ·exact .inl (.inr h)
   ·exact .inr h
  ·rintro((h|h)|h)
   ·exact .inl h
   ·exact .inr (.inl h)
   ·exact .inr (.inr h)
 have wd:=I.tR;rw[eq,axx,ave] at wd;have Aq:∀x,x∈wr->st.mv x<st.mv t:=fun x hx=>wd.2.1.1 x hx
 have HQ:∀x,x∈s++[t]->st.mv t<=st.mv x:=fun x hx=>by
  rcases aus.mp hx with hx|hx
  ·exact avm (wd.2.2 x hx t (at7 ..))
  ·rw[auE.mp hx];exact atX _
 have iM:∀{x},x∈wr->x∉s++[t]:=fun{x} h1 h2=>by
  have:=Aq x h1;have:=HQ x h2;omega
 have mv':∀x,x∉s++[t]->st'.mv x=st.mv x:=fun x hx=>by unfold WS.mv;rw[du,if_neg hx]
 have cV:∀x,Dn n st' x↔Dn n st x\/x∈s++[t]:=fun x=>by
  unfold Dn;rw[du];by_cases q:x∈s++[t]
  ·rw[if_pos q];exact⟨fun _=>.inr q,fun _=>rfl⟩
  ·rw[if_neg q];exact⟨.inl,fun z=>z.resolve_right q⟩
 have cJ:st'.trail=tr:=by rw[es]
 have fQ:st'.ways=rest:=by rw[es]
 have eq':st'.waiting=wr:=by rw[es]
 have ji:st'.count=st.count:=by rw[es]
 have dh:st'.heads=hs:=by rw[es]
 have HR:=I.vg;rw[et,ave] at HR;have hdc:=I.hdec;rw[eh,ave] at hdc;have jN:∀x,x∈tr->x∈wr:=fun x hx=>by
  have h1:=I.tw x (by rw[et];exact at8 _ hx);rcases(rm x).mp h1 with h2|h2
  ·have:=HQ x h2;have:=HR.1 x hx;omega
  ·exact h2
 have hst:∀x,x∈hs->x∈tr:=fun x hx=>by
  have h1:=I.ht x (by rw[eh];exact at8 _ hx);rw[et] at h1;rcases at3.mp h1 with e|h1
  ·have:=hdc.1 x hx;rw[e] at this;omega
  ·exact h1
 have hdI:∀{h w},w∈wr->(Hd st' h w↔Hd st h w):=fun{h w} hw=>by
  have e1:=mv' w (iM hw);constructor
  ·intro H;have hm:h∈hs:=by rw[<-dh];exact H.mem
   have e2:=mv' h (iM (jN h (hst h hm)));refine⟨by rw[eh];exact at8 _ hm,by have:=H.le;rw[e1,e2] at this;exact this,fun h' hh' hl=>?_⟩;rw[eh] at hh';rcases at3.mp hh' with e|hh'
   ·rw[e] at hl;have:=Aq w hw;omega
   ·have e3:=mv' h' (iM (jN h' (hst h' hh')));have:=H.max h' (by rw[dh];exact hh') (by rw[e3,e1];exact hl);rw[e3,e2] at this;exact this
  ·intro H;have hm:h∈hs:=by
    have:=H.mem;rw[eh] at this;rcases at3.mp this with e|this
    ·have h1:=H.le;have h2:=Aq w hw;rw[e] at h1;omega
    ·exact this
   have e2:=mv' h (iM (jN h (hst h hm)));refine⟨by rw[dh];exact hm,by rw[e1,e2];exact H.le,fun h' hh' hl=>?_⟩;rw[dh] at hh';have e3:=mv' h' (iM (jN h' (hst h' hh')));rw[e3,e1] at hl;rw[e3,e2];exact H.max h' (by rw[eh];exact at8 _ hh') hl
 have RQ:∀x,x∈s++[t]->Hd st t x:=fun x hx=>⟨by rw[eh];exact at7 ..,HQ x hx,fun h' hh' _=>(I.top et).1 h' (I.ht h' hh')⟩
 have RT:∀x,x∈s++[t]->Rc (Ed adj) t x/\Rc (Ed adj) x t:=fun x hx=>I.i1 x t (vm x hx) (RQ x hx)
 have adM:∀x,x∈s++[t]->∀u,Ed adj x u->Dn n st u\/u∈s++[t]:=fun x hx u hu=>by
  rcases I.i4 x (vm x hx) u hu with(q|⟨q1,q2⟩)|⟨xs,q1,q2⟩
  ·exact .inl q
  ·rcases(rm u).mp q1 with z|z
   ·exact .inr z
   ·have:=q2 t (RQ x hx);have:=Aq u z;omega
  ·exfalso;rw[et,ew] at q1;rcases at3.mp q1 with e|q1
   ·cases e;simp at q2
   ·have h1:=(awx q1).1;exact iM (jN x h1) hx
 have closed:∀{a b},Rc (Ed adj) a b->Dn n st a->Dn n st b:=fun{a b} r=>by
  induction r with
  |refl=>exact fun h=>h
  |step _ e ih=>exact fun h=>I.i3 _ (ih h) _ e
 refine⟨I.Aj,I.vf,by rw[es];exact(xH ..).trans I.nZ,by rw[es];exact(xH ..).trans I.hlen,?_,?_,?_,?_,?_,?_,?_,?_,?_,?_,?_,?_,?_,?_,?_,?_,?_,?_⟩
 ·rw[ji,I.cnt];congr 1;apply ayK;intro x _;rw[du]
  split
  ·next q=>rw[(I.ou (vm x q)).1];rfl
  ·rfl
 ·rw[du]
  split
  ·rfl
  ·exact I.zero
 ·intro x hx;by_cases q:x∈s++[t]
  ·exact .inr (.inr ((cV x).mpr (.inr q)))
  ·rcases I.cases x hx with z|z|z
   ·exact .inl (by rw[du,if_neg q];exact z)
   ·exact .inr (.inl (by rw[eq'];exact((rm x).mp z).resolve_left q))
   ·exact .inr (.inr ((cV x).mpr (.inl z)))
 ·intro w hw;rw[eq'] at hw;rw[du,if_neg (iM hw),ji];exact I.lZ w ((rm w).mpr (.inr hw))
 ·rw[eq'];refine avk (fun{a b} ha hb hab=>?_) wd.2.1.2;rw[mv' a (iM ha),mv' b (iM hb)];exact hab
 ·rw[cJ];refine avk (fun{a b} ha hb hab=>?_) HR.2;rw[mv' a (iM (jN a ha)),mv' b (iM (jN b hb))];exact hab
 ·rw[dh];refine avk (fun{a b} ha hb hab=>?_) hdc.2;rw[mv' a (iM (jN a (hst a ha))),mv' b (iM (jN b (hst b hb)))];exact hab
 ·intro x hx;rw[cJ] at hx;rw[eq'];exact jN x hx
 ·intro x hx;rw[dh] at hx;rw[cJ];exact hst x hx
 ·rw[cJ,fQ];have:=I.tl;rw[et,ew] at this;simpa using this
 ·intro x xs hx u hu;rw[cJ,fQ] at hx;exact I.pQ x xs (by rw[et,ew];exact at8 _ hx) u hu
 ·intro w hw;rw[eq'] at hw;obtain⟨h,H⟩:=I.has w ((rm w).mpr (.inr hw));exact⟨h,(hdI hw).mpr H⟩
 ·intro w h hw H;rw[eq'] at hw;exact I.i1 w h ((rm w).mpr (.inr hw)) ((hdI hw).mp H)
 ·intro h h' hh hh' hle;rw[dh] at hh hh';rw[mv' h (iM (jN h (hst h hh))),mv' h' (iM (jN h' (hst h' hh')))] at hle;exact I.i2 h h' (by rw[eh];exact at8 _ hh) (by rw[eh];exact at8 _ hh') hle
 ·intro x hx u hu;rcases(cV x).mp hx with q|q
  ·exact(cV u).mpr (.inl (I.i3 x q u hu))
  ·exact(cV u).mpr (adM x q u hu)
 ·intro x hx hd;rw[hd'];by_cases q:x∈s++[t]
  ·rw[if_pos q];exact⟨t,rfl,(RT x q).2,(RT x q).1⟩
  ·rw[if_neg q];exact I.xF x hx (((cV x).mp hd).resolve_right q)
 ·intro a b ha hb da db r1 r2;rw[hd',hd'];by_cases qa:a∈s++[t]
  ·by_cases qb:b∈s++[t]
   ·rw[if_pos qa,if_pos qb]
   ·exact absurd (closed r2 (((cV b).mp db).resolve_right qb)) (I.RG (vm a qa))
  ·by_cases qb:b∈s++[t]
   ·exact absurd (closed r1 (((cV a).mp da).resolve_right qa)) (I.RG (vm b qb))
   ·rw[if_neg qa,if_neg qb];exact I.xG a b ha hb (((cV a).mp da).resolve_right qa) (((cV b).mp db).resolve_right qb) r1 r2
 ·intro w hw u hu;rw[eq'] at hw;rcases I.i4 w ((rm w).mpr (.inr hw)) u hu with(q|⟨q1,q2⟩)|⟨xs,q1,q2⟩
  ·exact .inl (.inl ((cV u).mpr (.inl q)))
  ·rcases(rm u).mp q1 with z|z
   ·exact .inl (.inl ((cV u).mpr (.inr z)))
   ·refine .inl (.inr ⟨by rw[eq'];exact z,fun h H=>?_⟩);have H':=(hdI hw).mp H;have hm:h∈hs:=by rw[<-dh];exact H.mem
    rw[mv' h (iM (jN h (hst h hm))),mv' u (iM z)];exact q2 h H'
  ·rw[et,ew] at q1;rcases at3.mp q1 with e|q1
   ·cases e;simp at q2
   ·exact .inr ⟨xs,by rw[cJ,fQ];exact q1,q2⟩
def WS.start(n:Nat):WS:=⟨auk n none,0,auk n none,[],[],[],[]⟩
theorem Er{adj:List (List Nat)}{n:Nat}(hn:0<n)(ha:adj.length=n)(hE:∀u v,Ed adj u v->v<n):fc adj n (WS.enter (WS.start n) (adj.getD 0 []) 0):=by
 obtain⟨st',es⟩:∃s,s=WS.enter (WS.start n) (adj.getD 0 []) 0:=⟨_,rfl⟩
 rw[<-es];have hl:(auk n (none:Option Nat)).length=n:=by simp
 have du:∀x,st'.mt x=if x=0 then some 0 else none:=fun x=>by
  rw[es];show((auk n none).set 0 (some 0)).getD x none=_;rw[HF (by rw[hl];exact hn)];congr 1;rw[at5,ax1]
  split<;>rfl
 have cJ:st'.trail=[0]:=by rw[es];rfl
 have fQ:st'.ways=[adj.getD 0 []]:=by rw[es];rfl
 have dh:st'.heads=[0]:=by rw[es];rfl
 have eq':st'.waiting=[0]:=by rw[es];rfl
 have ji:st'.count=1:=by rw[es];rfl
 have nd:∀x,¬Dn n st' x:=fun x h=>by
  unfold Dn at h;rw[du] at h
  split at h
  ·have:=aub h;omega
  ·cases h
 have h0:Hd st' 0 0:=⟨by rw[dh];exact at7 ..,atX _,fun _ _ h=>h⟩;refine⟨ha,hE,?_,?_,?_,by rw[du,if_pos rfl];rfl,?_,?_,by rw[eq'];simp,by rw[cJ];simp,by rw[dh];simp,fun x hx=>by rw[cJ] at hx;rw[eq'];exact hx,fun x hx=>by rw[dh] at hx;rw[cJ];exact hx,by rw[cJ,fQ];rfl,?_,?_,?_,?_,fun x h=>absurd h (nd x),fun x _ h=>absurd h (nd x),fun a b _ _ h=>absurd h (nd a),?_⟩
 ·rw[es];show((auk n none).set 0 (some 0)).length=n;rw[avN,hl]
 ·rw[es];exact hl
 ·rw[ji];have:=RJ (f:=fun _=>false) (f':=fun v=>(st'.mt v).isSome) hn rfl (by show(st'.mt 0).isSome=true;rw[du,if_pos rfl];rfl) fun x hx=>by
   show(st'.mt x).isSome=false;rw[du,if_neg hx];rfl
  rw[this];simp
 ·intro x hx;by_cases e:x=0
  ·exact .inr (.inl (by rw[eq',e];exact at7 ..))
  ·exact .inl (by rw[du,if_neg e])
 ·intro w hw;rw[eq'] at hw;rw[auE.mp hw];exact⟨hn,0,by rw[du,if_pos rfl],by rw[ji];omega⟩
 ·intro x xs hx u hu;rw[cJ,fQ] at hx;simp at hx;obtain⟨rfl,rfl⟩:=hx;have hu':u∈adj.getD 0 []:=by rw[at5];exact hu
  exact hu'
 ·intro w hw;rw[eq'] at hw;rw[auE.mp hw];exact⟨0,h0⟩
 ·intro w h hw H;rw[eq'] at hw;have:=H.mem;rw[dh] at this;rw[auE.mp hw,auE.mp this];exact⟨.refl _,.refl _⟩
 ·intro h h' hh hh' _;rw[dh] at hh hh';rw[auE.mp hh,auE.mp hh'];exact .refl _
 ·intro w hw u hu;rw[eq'] at hw;rw[auE.mp hw] at hu⊢;exact .inr ⟨_,by rw[cJ,fQ];exact at7 ..,hu⟩
theorem adN{adj:List (List Nat)}{n:Nat}{st:WS}(I:fc adj n st)(et:st.trail=[])(hr:∀v,v<n->Rc (Ed adj) 0 v)(hn:0<n):
  ∃hs:List Nat,st.head=hs.map some/\hs.length=n/\∀a b,a<n->b<n->(hs.getD a 0=hs.getD b 0↔Rc (Ed adj) b a/\Rc (Ed adj) a b):=by
 have hh:st.heads=[]:=by
  cases q:st.heads with
  |nil=>rfl
  |cons x l=>
   have:=I.ht x (by rw[q];exact at7 ..);rw[et] at this;simp at this
 have hw:∀w,w∉st.waiting:=fun w hw=>by
  obtain⟨h,H⟩:=I.has w hw;have:=H.mem;rw[hh] at this;simp at this
 have d0:Dn n st 0:=by
  rcases I.cases 0 hn with q|q|q
  ·have:=I.zero;rw[q] at this;cases this
  ·exact absurd q (hw 0)
  ·exact q
 have all:∀v,v<n->Dn n st v:=fun v hv=>by
  have r:=hr v hv;clear hv
  induction r with
  |refl=>exact d0
  |step _ e ih=>exact I.i3 _ ih _ e
 have hs:∀v,v<n->∃h,st.head[v]?=some (some h)/\Rc (Ed adj) v h/\Rc (Ed adj) h v:=fun v hv=>by
  obtain⟨h,e,r⟩:=I.xF v hv (all v hv);refine⟨h,?_,r⟩;have hl:v<st.head.length:=by rw[I.hlen];exact hv
  unfold WS.hd at e;rw[at5,atY hl] at e;rw[atY hl];exact congrArg some e
 have hat:∀v,v<n->∃h,(st.head.map fun x=>x.getD 0).getD v 0=h/\st.hd v=some h/\Rc (Ed adj) v h/\Rc (Ed adj) h v:=fun v hv=>by
  obtain⟨h,e,r⟩:=hs v hv;refine⟨h,?_,?_,r⟩
  ·rw[at5,aui,e];rfl
  ·unfold WS.hd;rw[at5,e];rfl
 refine⟨st.head.map fun x=>x.getD 0,?_,by rw[atR,I.hlen],fun a b ha hb=>?_⟩
 ·rw[auS];apply axA;intro i;rw[aui];by_cases hi:i<n
  ·obtain⟨h,e,_⟩:=hs i hi;rw[e];rfl
  ·rw[auY (by rw[I.hlen];omega)];rfl
 ·obtain⟨h1,e1,f1,r1⟩:=hat a ha;obtain⟨h2,e2,f2,r2⟩:=hat b hb;constructor
  ·intro e;rw[e1,e2] at e;subst e;exact⟨r2.1.trans r1.2,r1.1.trans r2.2⟩
  ·rintro⟨q1,q2⟩;have:=I.xG a b ha hb (all a ha) (all b hb) q2 q1;rw[f1,f2] at this;rw[e1,e2];exact aub this
def WS.size(n D:Nat)(st:WS):Nat:=(n-st.count)*(D+2)+(st.ways.map avq).sum+st.trail.length
theorem adO{adj:List (List Nat)}{n D:Nat}{st:WS}{t v:Nat}{tr ws:List Nat}{rest:List (List Nat)}(I:fc adj n st)(et:st.trail=t::tr)(ew:st.ways=(ws++[v])::rest)(hm:st.mt v=none)(hD:∀u,(adj.getD u []).length<=D):
  (WS.enter {st with ways:=ws::rest} (adj.getD v []) v).size n D<st.size n D:=by
 have h1:=(RK I et ew hm).Ak;have h2:st.count+1<=n:=h1;show(n- (st.count+1))*(D+2)+((adj.getD v []::ws::rest).map avq).sum+(v::st.trail).length<(n-st.count)*(D+2)+(st.ways.map avq).sum+st.trail.length;rw[ew];simp only[auf,auT,auH,aud,avE];have h3:=hD v;have h4:n-st.count=n- (st.count+1)+1:=by omega
 rw[h4,Nat.add_mul,aw1];omega
theorem adP{n D:Nat}{st:WS}{v:Nat}{ws:List Nat}{rest:List (List Nat)}(ew:st.ways=(ws++[v])::rest):(WS.join {st with ways:=ws::rest} v).size n D<st.size n D:=by
 show(n-st.count)*(D+2)+((ws::rest).map avq).sum+st.trail.length<(n-st.count)*(D+2)+(st.ways.map avq).sum+st.trail.length;rw[ew];simp only[auf,auT,auH,aud,avE];omega
theorem RV{n D:Nat}{st st':WS}{t:Nat}{tr ws:List Nat}{rest:List (List Nat)}(et:st.trail=t::tr)(ew:st.ways=ws::rest)(ec:st'.count=st.count)(cJ:st'.trail=tr)(fQ:st'.ways=rest):st'.size n D<st.size n D:=by
 unfold WS.size;rw[et,ew,ec,cJ,fQ];simp only[auf,auT,auH];omega
open Si08Neutral
theorem iy(g:G):∀a:Si08.Call,(∀q k w,a≠.begins q k w)->(rules (some g) a).1=some g:=by
 intro a h;cases a
 case of w=>
  cases w with
  |none=>first|rfl|(unfold rules;dsimp only;split<;>rfl)
  |some w=>first|rfl|(unfold rules;dsimp only;split<;>rfl)
 all_goals first|rfl|(exact absurd rfl (h _ _ _))|(unfold rules;dsimp only;split<;>rfl)
section
variable{s:S}{M:Machine}{l:List WM}{o:Int}
theorem st1(hg:get s o=some (az M l)):step s [[1,o],[]]=(s,[(l.length:Int)]):=by
 rw[iu rfl rfl hg (iy _ _ (by intros;intro q;cases q)),acQ]
theorem st2(hg:get s o=some (az M l)){r:List Int}(hr:r.length<=65536)(hw:∀a,a∈natsOf r->a<M.k):step s [[2,o,(r.length:Int)],r]=(s,[(ix l (mapOf M (natsOf r)):Int)]):=by
 have hc:callOf [[2,o,(r.length:Int)],r]=some (.of (some (natsOf r))):=by
  show some (Call.of (if((r.length:Int)).toNat<=65536 then some (natsOf r) else none))=_;rw[auh,if_pos hr]
 rw[iu rfl hc hg (iy _ _ (by intros;intro q;cases q)),acR (by rw[Hg];exact hr) hw]
theorem adR(hg:get s o=some (az M l)){r:List Int}(hr:r.length<=65536)(hw:∃a,a∈natsOf r/\M.k<=a):step s [[2,o,(r.length:Int)],r]=(s,[-2]):=by
 have hc:callOf [[2,o,(r.length:Int)],r]=some (.of (some (natsOf r))):=by
  show some (Call.of (if((r.length:Int)).toNat<=65536 then some (natsOf r) else none))=_;rw[auh,if_pos hr]
 rw[iu rfl hc hg (iy _ _ (by intros;intro q;cases q)),acS hw]
theorem st3(hg:get s o=some (az M l)){e:Int}(h:0<=e/\e<l.length):step s [[3,o,e],[]]=(s,0::Si08Neutral.ints (wd l e.toNat)):=by
 rw[iu rfl rfl hg (iy _ _ (by intros;intro q;cases q))];exact congrArg (au3 s) (acT h)
theorem adS(hg:get s o=some (az M l)){e:Int}(h:¬(0<=e/\e<l.length)):step s [[3,o,e],[]]=(s,[-2]):=by
 rw[iu rfl rfl hg (iy _ _ (by intros;intro q;cases q))];exact congrArg (au3 s) (acU h)
theorem st4(hg:get s o=some (az M l)){a b:Int}(ha:0<=a/\a<l.length)(hb:0<=b/\b<l.length):step s [[4,o,a,b],[]]=(s,[(pr l a.toNat b.toNat:Int)]):=by
 rw[iu rfl rfl hg (iy _ _ (by intros;intro q;cases q))];exact congrArg (au3 s) (acV ha hb)
theorem adT(hg:get s o=some (az M l)){a b:Int}(h:¬((0<=a/\a<l.length)/\(0<=b/\b<l.length))):step s [[4,o,a,b],[]]=(s,[-2]):=by
 rw[iu rfl rfl hg (iy _ _ (by intros;intro q;cases q))];exact congrArg (au3 s) (acW h)
theorem st5(hg:get s o=some (az M l)){e:Int}(h:0<=e/\e<l.length):step s [[5,o,e],[]]=(s,0::Si08Neutral.ints (powerOf (az M l) e.toNat)):=by
 rw[iu rfl rfl hg (iy _ _ (by intros;intro q;cases q))];exact congrArg (au3 s) (acX h)
theorem adU(hg:get s o=some (az M l)){e:Int}(h:¬(0<=e/\e<l.length)):step s [[5,o,e],[]]=(s,[-2]):=by
 rw[iu rfl rfl hg (iy _ _ (by intros;intro q;cases q))];exact congrArg (au3 s) (acY h)
theorem st6(hg:get s o=some (az M l)){z:Int}(h:0<=z/\z<=3):step s [[6,o,z],[]]=(s,((aF M l z.toNat).2:Int)::Si08Neutral.ints (aF M l z.toNat).1):=by
 rw[iu rfl rfl hg (iy _ _ (by intros;intro q;cases q))];exact congrArg (au3 s) (ady h)
theorem adW(hg:get s o=some (az M l)){z:Int}(h:¬(0<=z/\z<=3)):step s [[6,o,z],[]]=(s,[-2]):=by
 rw[iu rfl rfl hg (iy _ _ (by intros;intro q;cases q))];exact congrArg (au3 s) (adz h)
theorem wN(B:aQ M l)(hg:get s o=some (az M l)):step s [[7,o],[]]=(s,[(nY M l:Int)]):=by
 rw[iu rfl rfl hg (iy _ _ (by intros;intro q;cases q)),ade B]
theorem st8(hg:get s o=some (az M l)):step s [[8,o],[]]=(s,((dg M l).sum:Int)::Si08Neutral.ints (dg M l)):=by
 rw[iu rfl rfl hg (iy _ _ (by intros;intro q;cases q)),adl]
theorem st9(B:aQ M l)(hg:get s o=some (az M l)):step s [[9,o],[]]=(s,[pM M l]):=by
 rw[iu rfl rfl hg (iy _ _ (by intros;intro q;cases q)),ado B]
theorem adZ(hg:get s o=some (az M l)){z e:Int}(h:fW M z e.toNat):step s [[10,o,z,e],[]]=(s,((numbered (az M l) (d9 M l z.toNat e.toNat)).2:Int)::Si08Neutral.ints (numbered (az M l) (d9 M l z.toNat e.toNat)).1):=by
 rw[iu rfl rfl hg (iy _ _ (by intros;intro q;cases q))];exact congrArg (au3 s) (adu h)
theorem ad0(hg:get s o=some (az M l)){z e:Int}(h:¬fW M z e.toNat):step s [[10,o,z,e],[]]=(s,[-2]):=by
 rw[iu rfl rfl hg (iy _ _ (by intros;intro q;cases q))];exact congrArg (au3 s) (adv h)
theorem ad1(hg:get s o=some (az M l)){z e:Int}(h:fW M z e.toNat):step s [[11,o,z,e],[]]=(s,[if stillB (az M l) (d9 M l z.toNat e.toNat)=true then 1 else 0]):=by
 rw[iu rfl rfl hg (iy _ _ (by intros;intro q;cases q))];exact congrArg (au3 s) (adw h)
theorem ad2(hg:get s o=some (az M l)){z e:Int}(h:¬fW M z e.toNat):step s [[11,o,z,e],[]]=(s,[-2]):=by
 rw[iu rfl rfl hg (iy _ _ (by intros;intro q;cases q))];exact congrArg (au3 s) (adx h)
end
end WA
namespace WP
open PySem PySem.Spec PyProof.Rows L2
open Si08 Si08.Out
def top(i:Nat):Stmt:=PySem.Challenge.pw_wordalgebra_s01_answers.main.body.getD i (.Pass ⟨0,0,0,0⟩)
abbrev Ar:Stmt:=top 7
abbrev oA:Stmt:=top 8
abbrev Av:Stmt:=gm (top 9) 0
abbrev vo:Stmt:=gm (top 9) 1
abbrev xJ:Stmt:=gm (top 9) 2
abbrev Aw:Stmt:=gm (top 9) 3
abbrev vq:Stmt:=gm (top 9) 4
abbrev Ax:Stmt:=gm (top 9) 5
abbrev HS:Stmt:=gm (top 9) 6
abbrev HW:Stmt:=gm (top 9) 7
abbrev xK:Stmt:=gm (top 9) 8
abbrev Ay:Stmt:=gm (top 9) 9
abbrev pU:Stmt:=top 11
abbrev Az:Stmt:=gm (top 12) 0
abbrev Ba:Stmt:=gm (top 12) 1
abbrev Bb:Stmt:=gm (top 12) 2
abbrev Bc:Stmt:=gm (top 12) 3
abbrev xM:Stmt:=gm (top 12) 4
abbrev HX:Stmt:=top 13
abbrev Bd:Stmt:=top 19
abbrev HY:Stmt:=top 20
abbrev Ia:Stmt:=top 21
abbrev Be:Stmt:=top 22
abbrev Ib:Stmt:=top 23
abbrev Ie:Stmt:=top 24
abbrev Ig:Stmt:=top 25
abbrev Bf:Stmt:=top 26
abbrev Bg:Stmt:=top 27
abbrev Bh:Stmt:=top 28
abbrev Ih:Stmt:=top 29
abbrev xN:Stmt:=top 30
abbrev Ii:Stmt:=top 31
abbrev vy:Stmt:=gm (top 33) 0
abbrev Bj:Stmt:=gm (top 33) 1
abbrev xO:Stmt:=top 34
abbrev Ij:Stmt:=top 35
abbrev xP:Stmt:=top 36
abbrev Bk:Stmt:=top 37
abbrev Ik:Stmt:=gm (top 51) 0
abbrev Il:Stmt:=gm (top 51) 1
abbrev Bl:Stmt:=gm (top 51) 2
abbrev Im:Stmt:=gm (top 51) 3
abbrev Io:Stmt:=top 52
abbrev Ip:Stmt:=top 53
abbrev Ir:Stmt:=top 54
abbrev Iu:Stmt:=top 55
abbrev Iv:Stmt:=top 56
abbrev Iw:Stmt:=top 57
abbrev Iz:Stmt:=top 58
abbrev IK:Stmt:=top 59
abbrev IV:Stmt:=top 60
abbrev nv(n:Nat):V:=.int (n:Int)
abbrev aq(l:List Nat):List V:=l.map nv
theorem kh{l:List Nat}{i:Nat}(h:i<l.length):(aq l)[i]?=some (nv (l.getD i 0)):=by
 simp[aq,at5,h]
theorem mj{l:List Nat}{i:Nat}{v:V}(h:(aq l)[i]?=some v):i<l.length/\v=nv (l.getD i 0):=by
 have hi:i<l.length:=by
  have:=(at9.mp h).1;simpa using this
 rw[kh hi] at h;exact⟨hi,(aub h).symm⟩
theorem small{n:Nat}(h:n<=1000000):n<=sizeLine:=auC h (by decide)
theorem cP{n:Nat}(h:n<=1000000):n<sizeLine:=axI h (by decide)
structure Txt(K:atQ)(mg:Str->Option Value)(cR cM:Addr):Prop where
 len:mg "len"=none
 range:mg "range"=none
 tuple:mg "tuple"=none
 max:mg "max"=none
 enum:mg "enumerate"=none
 list:mg "list"=none
 set:mg "set"=none
 sorted:mg "sorted"=none
 sum:mg "sum"=none
 min:mg "min"=none
 zip:mg "zip"=none
 ad3:∃t,mg "MOST_STATES"=some (.int 12 t)
 ad4:∃t,mg "MOST_LETTERS"=some (.int 6 t)
 ad5:∃t,mg "MOST_ELEMENTS"=some (.int 4096 t)
 ad6:∃t,mg "LONGEST_WORD"=some (.int 65536 t)
 mR:mg "Refused"=some (.ref cR)
 eR:Gf K cR
 mM:mg "TooManyElements"=some (.ref cM)
 eM:Gf K cM
section
variable{P:Program}{w:World}{K:atQ}{mg:Str->Option Value}{base:Heap}
theorem jk{σ:L2.St}{H:Hp}{A B:Hp->Prop}(h:A H):zu σ H (fun b H3=>if b=true then A H3 else B H3):=by
 show if true=true then A H else B H
 rw[if_pos rfl];exact h
def vz(K:atQ):Sp:=fun vs H Q _=>∃(a b:Addr)(f g:List Nat),vs=[.ref a,.ref b]/\bB K H a (aq f)/\(ak K H b (aq g)\/bB K H b (aq g))/\(∀x,x∈f->x<g.length)/\f.length<=1000/\
 ∀(H':Hp)(p:Addr),H p=none->H' p=some (.tup (aq (then_ f g)))->Same H H'->Q (.ref p) H'
theorem vA:bR ["first","second","s"] ["first","second"] (aU oA):=⟨rfl,rfl,rfl,by decide +kernel,rfl,by decide +kernel,by decide +kernel⟩
theorem _root_.L2.Same.IW{H H':Hp}{a:Addr}{xs:List V}(e:Same H H')(h:bB K H a xs):bB K H' a xs:=by
 rcases h with(h|⟨o,h⟩)|h
 ·exact .inl (.inl (e _ _ h))
 ·exact .inl (.inr ⟨o,e _ _ h⟩)
 ·exact .inr h
theorem _root_.L2.Same.laid{H:Hp}{p:Addr}{o:HO}(h:H p=none):Same H (upd H p o):=fun b u e=>by
 rw[au (aV e h)];exact e
theorem _root_.L2.Same.new{H H':Hp}{p:Addr}{o:HO}(s:Same H H')(h:H p=none):Same H (upd H' p o):=fun b u e=>by
 rw[au (aV e h)];exact s b u e
theorem Ja{f cR cM:Addr}{fd:FuncData}(F:aY K "compose" "compose" oA f fd)(T:Txt K mg cR cM):aJ P w K mg base aZ 1 f fd ["first","second"] (vz K):=by
 refine F.ok vA (fun vs H Q E h=>?_) (fun cdv A outer s H vs Q E hr h=>?_)
 ·obtain⟨a,b,f,g,rfl,_⟩:=h;rfl
 ·obtain⟨a,b,f,g,rfl,hf,hg,hx,hl,k⟩:=h;refine⟨_,aH (bz (pq zc rfl T.tuple awp (aj (jd (own:=[("s",2)]) rfl vA.nd (XN (pv 0)) (iU (by show iD ["first","second","s"] (aU oA) _ _=true;decide +kernel))
   (fun _ _ _ _ _=>dF (i:=2) vA.nd rfl (atV rfl)) (fun _ _ _ _ _=>jc) (fun _ _ _ _ _=>dN (r:=sV K) zb (pv 1) (pv 2) (fun _ _=>rfl))) aA))),?_⟩
  refine⟨_,rfl,a,rfl,⟨_,hf⟩,fun D hD=>?_⟩;refine Z6 (xs:=aq f) (fun i H'=>Same H H'/\H' D=some (.lst (aq ((then_ f g).take i)))) ⟨Same.laid hD,by rw[aC];rfl⟩ (fun i H' _ q=>Same.IW q.1 hf) ?_ ?_
  ·rintro i x H' hi ⟨s1,d1⟩;obtain⟨hil,rfl⟩:=mj hi;have hlt:f.getD i 0<g.length:=hx _ (by
    rw[at5,atY hil];exact au1 hil)
   refine⟨rfl,jk ?_⟩;refine⟨_,rfl,_,rfl,?_⟩;have fin:∃acc,H' D=some (.lst acc)/\acc.length<sizeLine/\Same H (upd H' D (.lst (acc++[nv (g.getD (f.getD i 0) 0)])))/\(upd H' D (.lst (acc++[nv (g.getD (f.getD i 0) 0)]))) D=some (.lst (aq ((then_ f g).take (i+1)))):=by
    refine⟨_,d1,?_,Same.new s1 hD,?_⟩
    ·rw[atR,auN,WA.xf];exact cP (by omega)
    ·rw[aC];have e:(then_ f g)[i]?=some (g.getD (f.getD i 0) 0):=by
      unfold then_;simp[at5,hil]
     rw[auK,e];simp
   rcases hg with hg|hg
   ·exact .inl ⟨b,_,_,_,rfl,rfl,Same.seq s1 hg,cO rfl (kh hlt),fin⟩
   ·exact .inr (.inl ⟨b,_,_,_,rfl,rfl,Same.IW s1 hg,cO rfl (kh hlt),fin⟩)
  ·rintro H' ⟨s1,d1⟩;have e:(then_ f g).take (aq f).length=then_ f g:=by
    rw[atR,<-WA.xf f g,auX]
   rw[e] at d1;refine⟨D,_,rfl,.inl ⟨ak.of d1,fun l hl'=>?_⟩⟩;exact k _ l (Same.free s1 hl') aC (Same.new s1 (Same.free s1 hl'))
theorem _root_.L2.aY.eE{x qual:Str}{st:Stmt}{f:Addr}{fd:FuncData}{N ps:List Str}{k:Nat}{sp:Sp}(F:aY K x qual st f fd)(S:bR N ps (aU st))(len:∀vs H Q E,sp vs H Q E->vs.length=ps.length)
  (hbody:∀(cdv:Value)(A:Around)(outer:List Env)(s:Shared)(H:Hp)(vs:List V)(Q:VK)(E:XK),bQ k (A.deeper (envOfC qual (aU st) s.heap.objs.size f cdv))->sp vs H Q E->
   ∃t,iB (fG (aX P w) P w K mg base N qual (aU st) f cdv A outer s H E) (uR st) t/\t {nx:=fun _ H'=>Q .non H',rt:=Q} (start N vs) H):aJ P w K mg base (aX P w) (k+1) f fd ps sp:=by
 obtain⟨oc,od,kV,doc,pm,an,cdv,ct,osl,rfl,lk,hcd⟩:=F.ex;exact N6 lk hcd S len fun A outer s H vs Q E hr hsp=>hbody cdv A outer s H vs Q E hr hsp
def pW(q k:Int)(l:List Int):Prop:=WA.jz q k/\∀z,z∈l->z<q
def RW(K:atQ)(cR:Addr):Sp:=fun vs H Q E=>∃(q k:Int)(a:Addr)(l:List Int),vs=[.int q,.int k,.ref a]/\ak K H a (l.map V.int)/\(WA.jz q k->0<l.length)/\
 (pW q k l->Q .non H)/\(¬pW q k l->E (.ref cR) none H)
theorem ad7:bR ["q","k","step"] ["q","k","step"] (aU Ar):=⟨rfl,rfl,rfl,by decide +kernel,rfl,by decide +kernel,by decide +kernel⟩
theorem ad8{f cR cM:Addr}{fd:FuncData}(F:aY K "check_machine" "check_machine" Ar f fd)(T:Txt K mg cR cM):aJ P w K mg base (aX P w) 1 f fd ["q","k","step"] (RW K cR):=by
 obtain⟨t1,h1⟩:=T.ad3;obtain⟨t2,h2⟩:=T.ad4;refine F.eE ad7 (fun vs H Q E h=>?_) (fun cdv A outer s H vs Q E hr h=>?_)
 ·obtain⟨q,k,a,l,rfl,_⟩:=h;rfl
 ·obtain⟨q,k,a,l,rfl,ha,hl,ky,kn⟩:=h;refine⟨_,aD (cZ (PW.pt (uE (cF uI (pv 0) bW (bY _)) (uE (cF wD (pv 0) (dz (v:=.int 12) rfl h1 ⟨_,rfl⟩) (bY _)) (uE (cF uI (pv 1) bW (bY _)) (DG (cF wD (pv 1) (dz (v:=.int 6) rfl h2 ⟨_,rfl⟩) (bY _)))))))
   (aH (qP (E:=E) rfl qN rfl T.mR T.eR)) dm)
   (aH (cZ (cF wF (dU (Fe rfl) rfl T.max axK (aj (pv 2) aA)) (pv 0) (bY _)) (aH (qP (E:=E) rfl qN rfl T.mR T.eR)) dm)),?_⟩
  have Bm:∀{p:Prop},p->(p->¬WA.jz q k)->E (.ref cR) none H:=fun hp f=>kn fun m=>f hp m.1
  refine⟨_,rfl,_,_,rfl,rfl,_,rfl,eY (fun c=>gZ (Bm (of_decide_eq_true c) fun c m=>by have:=m.1;omega)) (fun c1=>?_)⟩;refine⟨_,rfl,_,_,rfl,rfl,_,rfl,eY (fun c=>gZ (Bm (of_decide_eq_true c) fun c m=>by have:=m.2.1;omega)) (fun c2=>?_)⟩;refine⟨_,rfl,_,_,rfl,rfl,_,rfl,eY (fun c=>gZ (Bm (of_decide_eq_true c) fun c m=>by have:=m.2.2.1;omega)) (fun c3=>?_)⟩;refine⟨_,rfl,_,_,rfl,rfl,_,rfl,eY (fun c=>Bm (of_decide_eq_true c) fun c m=>by have:=m.2.2.2;omega) (fun c4=>?_)⟩;have hr':WA.jz q k:=by
   simp only[decide_eq_true_eq] at c1 c2 c3 c4;unfold WA.jz;omega
  refine⟨_,rfl,a,l,rfl,ha,hl hr',fun m hm hle=>?_⟩;refine⟨_,rfl,_,_,rfl,rfl,_,rfl,eY (fun c=>kn fun x=>?_) (fun c=>ky ⟨hr',fun z hz=>?_⟩)⟩
  ·have:=x.2 m hm;have:=of_decide_eq_true c;omega
  ·have:=hle z hz;simp only[decide_eq_true_eq] at c;omega
def rf(a:Addr)(i:Int):List (Str×V):=[("calls",.ref a),("place",.int i)]
theorem Jb(a:Addr)(i:Int):(rf a i).lookup ("calls":Str)=some (.ref a):=rfl
theorem vB(a:Addr)(i:Int):(rf a i).lookup ("place":Str)=some (.int i):=rfl
theorem RX(a:Addr)(i j:Int):ao "place" (.int j) (rf a i)=rf a j:=rfl
theorem ad9(a:Addr)(j:Int):ao "place" (.int j) (ao "calls" (.ref a) [])=rf a j:=rfl
structure TR(K:atQ)(c:Addr):Prop where
 cl:Cls K c
 nC:eV K c "calls"
 nP:eV K c "place"
def RZ(c:Addr):Sp:=fun vs H Q _=>∃(p dx a:Addr),vs=[.ref p,.ref a]/\H p=some (.ins c dx [])/\Q .non (upd H p (.ins c dx (rf a 0)))
theorem aea:bR ["self","calls"] ["self","calls"] (aU Ik):=⟨rfl,rfl,rfl,by decide +kernel,rfl,by decide +kernel,by decide +kernel⟩
theorem aeb{f c:Addr}{fd:FuncData}(F:aY K "__init__" "Reader.__init__" Ik f fd)(T:TR K c):aJ P w K mg base aZ 1 f fd ["self","calls"] (RZ c):=by
 refine F.ok aea (fun vs H Q E h=>?_) (fun cdv A outer s H vs Q E hr h=>?_)
 ·obtain⟨p,dx,a,rfl,_⟩:=h;rfl
 ·obtain⟨p,dx,a,rfl,hp,k⟩:=h;refine⟨_,aD (gP (pv 0) (pv 1) rfl) (aH (gP (pv 0) bW rfl)),?_⟩;refine⟨_,rfl,_,rfl,p,c,dx,[],rfl,hp,T.cl,T.nC,(by show 0<1000;decide),?_⟩;refine⟨_,rfl,p,c,dx,_,rfl,aC,T.cl,T.nP,(by show 1<1000;decide),?_⟩;rw[uA,ad9];exact k
def R1(K:atQ)(c:Addr):Sp:=fun vs H Q _=>∃(p dx a:Addr)(i:Nat)(l:List Int),vs=[.ref p]/\H p=some (.ins c dx (rf a i))/\ak K H a (l.map V.int)/\Q (.bl (decide (l.length<=i))) H
theorem aec:bR ["self"] ["self"] (aU Il):=⟨rfl,rfl,rfl,by decide +kernel,rfl,by decide +kernel,by decide +kernel⟩
theorem aed{f c cR cM:Addr}{fd:FuncData}(F:aY K "ended" "Reader.ended" Il f fd)(T:TR K c)(X:Txt K mg cR cM):aJ P w K mg base aZ 1 f fd ["self"] (R1 K c):=by
 refine F.ok aec (fun vs H Q E h=>?_) (fun cdv A outer s H vs Q E hr h=>?_)
 ·obtain⟨p,dx,a,i,l,rfl,_⟩:=h;rfl
 ·obtain⟨p,dx,a,i,l,rfl,hp,ha,k⟩:=h;refine⟨_,aH (bz (nj wF (bh (pv 0) rfl) (dU jb rfl X.len auL (aj (bh (pv 0) rfl) aA)) (bY _))),?_⟩;refine⟨_,rfl,p,c,dx,_,_,rfl,hp,T.cl,T.nP,vB _ _,_,rfl,p,c,dx,_,_,rfl,hp,T.cl,T.nC,Jb _ _,a,_,rfl,.inl ha,_,_,rfl,rfl,?_⟩;have e:decide (((l.map V.int).length:Int)<=(i:Int))=decide (l.length<=i):=by
   rw[atR];exact decide_eq_decide.mpr (by omega)
  show Q (.bl (decide (((l.map V.int).length:Int)<=(i:Int)))) H;rw[e];exact k
def rn(K:atQ)(c:Addr):Sp:=fun vs H Q _=>∃(p dx a:Addr)(i:Nat)(l:List Int)(z:Int),vs=[.ref p]/\H p=some (.ins c dx (rf a i))/\ak K H a (l.map V.int)/\l[i]?=some z/\Q (.int z) (upd H p (.ins c dx (rf a (i+1:Nat))))
theorem aee:bR ["self"] ["self"] (aU Bl):=⟨rfl,rfl,rfl,by decide +kernel,rfl,by decide +kernel,by decide +kernel⟩
theorem Bo{H:Hp}{p a:Addr}{o o':HO}{xs:List V}(hp:H p=some o)(hn:∀xs,o≠.lst xs)(hf:∀b u,o≠.gh b u)(h:ak K H a xs):ak K (upd H p o') a xs:=by
 rcases h with(h|⟨u,h⟩)|h
 ·exact .inl (.inl (by rw[au (bx h hp (fun e=>hn _ e.symm))];exact h))
 ·exact .inl (.inr ⟨u,by rw[au (bx h hp (fun e=>hf _ _ e.symm))];exact h⟩)
 ·exact .inr h
theorem aef{l:List Int}{i:Nat}{z:Int}(h:l[i]?=some z):(l.map V.int)[i]?=some (.int z):=by
 rw[aui,h];rfl
theorem R3{f c:Addr}{fd:FuncData}(F:aY K "take" "Reader.take" Bl f fd)(T:TR K c):aJ P w K mg base aZ 1 f fd ["self"] (rn K c):=by
 refine F.ok aee (fun vs H Q E h=>?_) (fun cdv A outer s H vs Q E hr h=>?_)
 ·obtain⟨p,dx,a,i,l,z,rfl,_⟩:=h;rfl
 ·obtain⟨p,dx,a,i,l,z,rfl,hp,ha,hz,k⟩:=h;refine⟨_,aD (Eo (pv 0) bW Ep) (aH (bz (dN eF (bh (pv 0) rfl) (iC Nf (bh (pv 0) rfl) bW) (fun _ _=>rfl)))),?_⟩;refine⟨_,rfl,p,c,dx,_,_,rfl,hp,T.cl,T.nP,vB _ _,_,_,rfl,rfl,dx,_,hp,(by show 2<1000;decide),?_⟩;have ha':ak K (upd H p (.ins c dx (rf a (i+1:Nat)))) a (l.map V.int):=Bo hp (by intro _ q;cases q) (by intro _ _ q;cases q) ha;rw[RX];refine⟨_,rfl,p,c,dx,_,_,rfl,aC,T.cl,T.nC,Jb _ _,_,rfl,p,c,dx,_,_,rfl,aC,T.cl,T.nP,vB _ _,_,_,rfl,rfl,a,_,_,_,rfl,rfl,ha',cO (j:=i) (by omega) (aef hz),?_⟩;exact k
def Jc(K:atQ)(c:Addr):Sp:=fun vs H Q _=>∃(p dx a:Addr)(i n:Nat)(l:List Int),vs=[.ref p]/\H p=some (.ins c dx (rf a i))/\ak K H a (l.map V.int)/\l[i]?=some (n:Int)/\i+1+n<=l.length/\l.length<=2000000/\
 ∀r,H r=none->Q (.ref r) (upd (upd H p (.ins c dx (rf a (i+1+n:Nat)))) r (.lst (((l.drop (i+1)).take n).map V.int)))
theorem Jd:bR ["self","count","start"] ["self"] (aU Im):=⟨rfl,rfl,rfl,by decide +kernel,rfl,by decide +kernel,by decide +kernel⟩
theorem aeg{l:List Int}{i n:Nat}(h:i+n<=l.length):uL (l.map V.int) (some (i:Int)) (some ((i+n:Nat):Int))=((l.drop i).take n).map V.int:=by
 unfold uL;rw[HT.N7,HT.N7,atR,axL (by omega),axL (by omega),<-List.map_drop,<-List.map_take,show i+n-i=n by omega]
theorem aeh{f fT c:Addr}{fd jO:FuncData}(F:aY K "take_row" "Reader.take_row" Im f fd)(T:TR K c)(FT:aY K "take" "Reader.take" Bl fT jO)(bT:Binds K jO ["self"] [])(mT:Meth K c "take" fT):
  aJ P w K mg base aZ 2 f fd ["self"] (Jc K c):=by
 have GT:aJ P w K mg base aZ 1 fT jO ["self"] (rn K c):=R3 FT T;refine F.ok Jd (fun vs H Q E h=>?_) (fun cdv A outer s H vs Q E hr h=>?_)
 ·obtain⟨p,dx,a,i,n,l,rfl,_⟩:=h;rfl
 ·obtain⟨p,dx,a,i,n,l,rfl,hp,ha,hz,hn,hl,k⟩:=h;refine⟨_,aD (bf (i:=1) Jd.nd rfl (atV rfl) (gj (pv 0) T.cl mT GT hr bT .nil bA))
   (aD (bf (i:=2) Jd.nd rfl (atV rfl) (bh (pv 0) rfl))
   (aD (Eo (pv 0) (pv 1) Ep)
   (aH (bz (YL Y6 (bh (pv 0) rfl) (Es (pv 2)) (Es (bh (pv 0) rfl))))))),?_⟩
  refine⟨_,rfl,p,dx,_,rfl,hp,rfl,p,dx,a,i,l,_,rfl,hp,ha,hz,?_⟩;have ha1:ak K (upd H p (.ins c dx (rf a (i+1:Nat)))) a (l.map V.int):=Bo hp (by intro _ q;cases q) (by intro _ _ q;cases q) ha;refine⟨_,rfl,p,c,dx,_,_,rfl,aC,T.cl,T.nP,vB _ _,?_⟩;refine⟨_,rfl,p,c,dx,_,_,rfl,aC,T.cl,T.nP,vB _ _,_,rfl,_,_,rfl,rfl,dx,_,aC,(by show 2<1000;decide),?_⟩;rw[RX,uA];have ha2:ak K (upd H p (.ins c dx (rf a (((i+1:Nat):Int)+(n:Int))))) a (l.map V.int):=Bo hp (by intro _ q;cases q) (by intro _ _ q;cases q) ha;refine⟨_,rfl,p,c,dx,_,_,rfl,aC,T.cl,T.nC,Jb _ _,_,rfl,_,rfl,_,rfl,p,c,dx,_,_,rfl,aC,T.cl,T.nP,vB _ _,_,rfl,a,_,rfl,ha2,fun r hr=>?_⟩;have hr':H r=none:=by
   by_cases e:r=p
   ·subst e;rw[aC] at hr;cases hr
   ·rw[au e] at hr;exact hr
  have e:((i+1:Nat):Int)+(n:Int)=((i+1+n:Nat):Int):=by omega
  rw[e,aeg hn];exact k r hr'
end
open WA (WM mp wd gU jL ie dH tL aQ)
def kM(m:List Nat):List bc:=m.map fun(n:Nat)=>aur (n:Int)
theorem rA(m:List Nat):(kM m).map kV=aq m:=by
 unfold kM;rw[auS];rfl
theorem xQ{m n:List Nat}(h:kM m=kM n):m=n:=by
 have h2:m.map (fun(n:Nat)=>(aur (n:Int):bc))=n.map (fun(n:Nat)=>(aur (n:Int):bc)):=h;clear h
 induction m generalizing n with
 |nil=>
  cases n with
  |nil=>rfl
  |cons b n=>simp at h2
 |cons a m ih=>
  cases n with
  |nil=>simp at h2
  |cons b n=>
   rw[auf,auf] at h2;obtain⟨e1,e2⟩:=avl h2;have:=av5 e1;rw[ih e2,show a=b by omega]
def numsOf(l:List WM):List (List bc×V):=(atU l.length).map fun i=>(kM (mp l i),nv i)
theorem aei(l:List WM)(x:WM):numsOf (l++[x])=numsOf l++[(kM x.2,nv l.length)]:=by
 unfold numsOf;rw[aud,auH,avE,avV,auO];congr 1
 ·apply avv;intro i hi;rw[WA.xg (at4.mp hi)]
 ·show[(kM (mp (l++[x]) l.length),nv l.length)]=_;rw[gU (x:=x) (by simp)]
theorem aej(l:List WM):(numsOf l).length=l.length:=by simp[numsOf]
theorem R4{l:List WM}(hn:(l.map (·.2)).Nodup){i:Nat}(hi:i<l.length):cB (numsOf l) (kM (mp l i))=some (nv i):=by
 unfold cB numsOf;rw[aw2];have e:(atU l.length).find? ((fun kv:List bc×V=>decide (kv.1=kM (mp l i)))∘fun i=>(kM (mp l i),nv i))=some i:=by
  rw[awi];refine⟨by simp,at4.mpr hi,fun j hj=>?_⟩;simp only[avS,avF,decide_eq_false_iff_not];intro e;have e2:mp l j=mp l i:=xQ e;have hj':j<(l.map (·.2)).length:=by simp;omega
  have hi':i<(l.map (·.2)).length:=by simpa using hi
  have e3:(l.map (·.2))[j]=(l.map (·.2))[i]:=by
   have a1:(l.map (·.2))[j]=mp l j:=by simp[mp,at5,show j<l.length by omega]
   have a2:(l.map (·.2))[i]=mp l i:=by simp[mp,at5,hi]
   rw[a1,a2,e2]
  have:=(av6 (h₀:=hj') (h₁:=hi') hn).mp e3;omega
 rw[e];rfl
theorem R5{l:List WM}{m:List Nat}(h:(l.any fun y=>y.2==m)=false):cB (numsOf l) (kM m)=none:=by
 unfold cB numsOf;rw[aw2];have e:(atU l.length).find? ((fun kv:List bc×V=>decide (kv.1=kM m))∘fun i=>(kM (mp l i),nv i))=none:=by
  rw[axD];intro j hj;simp only[avS,avF,decide_eq_false_iff_not];intro e;have e2:mp l j=m:=xQ e;have:(l.any fun y=>y.2==m)=true:=auZ.mpr ⟨l[j],au1 hj,by rw[<-e2,gU (atY hj)];exact beq_self_eq_true _⟩;rw[h] at this;cases this
 rw[e];rfl
theorem aek{l:List WM}(hn:(l.map (·.2)).Nodup){m:List Nat}(h:(l.any fun y=>y.2==m)=true):∃i,i<l.length/\mp l i=m/\cB (numsOf l) (kM m)=some (nv i):=by
 obtain⟨y,hy,e⟩:=auZ.mp h;obtain⟨i,hi⟩:=avf hy;have e2:mp l i=m:=by rw[gU hi];exact eq_of_beq e
 have hl:=(at9.mp hi).1;exact⟨i,hl,e2,by rw[<-e2];exact R4 hn hl⟩
structure TA(K:atQ)(c:Addr):Prop where
 cl:Cls K c
 nL:eV K c "letters"
 nR:eV K c "rows"
 nN:eV K c "numbers"
 nP:eV K c "prefix"
 nE:eV K c "last"
 nB:eV K c "behind"
 nK:eV K c "known"
section
variable{P:Program}{w:World}{K:atQ}{mg:Str->Option Value}{base:Heap}
def Je(c cM:Addr):Sp:=fun vs H Q E=>∃(p dx r aR aN aP aE:Addr)(fs:List (Str×V))(vp vl:V)(xs ps es:List V)(kvs:List (List bc×V))(k:List bc),
 vs=[.ref p,.ref r,vp,vl]/\H p=some (.ins c dx fs)/\fs.lookup ("rows":Str)=some (.ref aR)/\fs.lookup ("numbers":Str)=some (.ref aN)/\fs.lookup ("prefix":Str)=some (.ref aP)/\fs.lookup ("last":Str)=some (.ref aE)/\
 H aR=some (.lst xs)/\H aN=some (.dT kvs)/\H aP=some (.lst ps)/\H aE=some (.lst es)/\H r=some (.tup (k.map kV))/\aP≠aR/\aE≠aR/\aE≠aP/\xs.length<=4096/\kvs.length<=4096/\ps.length<=4096/\es.length<=4096/\
 (xs.length=4096->E (.ref cM) none H)/\
 (xs.length≠4096->Q (.int xs.length) (upd (upd (upd (upd H aR (.lst (xs++[.ref r]))) aN (.dT (dG kvs k (.int xs.length)))) aP (.lst (ps++[vp]))) aE (.lst (es++[vl]))))
theorem R6:bR ["self","row","prefix","letter","number"] ["self","row","prefix","letter"] (aU vo):=⟨rfl,rfl,rfl,by decide +kernel,rfl,by decide +kernel,by decide +kernel⟩
theorem R7{f c cR cM:Addr}{fd:FuncData}(F:aY K "keep" "Algebra.keep" vo f fd)(T:TA K c)(X:Txt K mg cR cM):aJ P w K mg base (aX P w) 1 f fd ["self","row","prefix","letter"] (Je c cM):=by
 obtain⟨t1,h1⟩:=X.ad5;refine F.eE R6 (fun vs H Q E h=>?_) (fun cdv A outer s H vs Q E hr h=>?_)
 ·obtain⟨p,dx,r,aR,aN,aP,aE,fs,vp,vl,xs,ps,es,kvs,k,rfl,_⟩:=h;rfl
 ·obtain⟨p,dx,r,aR,aN,aP,aE,fs,vp,vl,xs,ps,es,kvs,k,rfl,hp,lR,lN,lP,lE,hR,hN,hP,hE,hr',n1,n2,n3,z1,z2,z3,z4,kx,kq⟩:=h;have hu:(fG (aX P w) P w K mg base ["self","row","prefix","letter","number"] "Algebra.keep" (aU vo) f cdv A outer s H E).A.units+1<cLine:=by have:=hr.un;show(A.deeper _).units+1<cLine;omega
  refine⟨_,aD (bf (i:=4) R6.nd rfl (atV rfl) (dU jb rfl X.len auL (aj (bh (pv 0) rfl) aA)))
   (aD (cZ (cF dR (pv 4) (dz (v:=.int 4096) rfl h1 ⟨_,rfl⟩) (bY _)) (aH (qP (E:=E) rfl qN rfl X.mM X.eM)) dm)
   (aD (dY (ju auB auW au4 jX (bh (pv 0) rfl) (aj (pv 1) aA)))
   (aD (wR hu (bh (pv 0) rfl) (pv 1) (pv 4) rfl)
   (aD (dY (ju auB auW au4 jX (bh (pv 0) rfl) (aj (pv 2) aA)))
   (aD (dY (ju auB auW au4 jX (bh (pv 0) rfl) (aj (pv 3) aA)))
   (aH (bz (pv 4)))))))),?_⟩
  refine⟨_,rfl,p,c,dx,fs,_,rfl,hp,T.cl,T.nR,lR,aR,xs,rfl,.inl (ak.of hR),?_⟩;have pR:p≠aR:=bx hp hR (by intro q;cases q);have NR:aN≠aR:=bx hN hR (by intro q;cases q);have rR:r≠aR:=bx hr' hR (by intro q;cases q);have pN:p≠aN:=bx hp hN (by intro q;cases q);have PN:aP≠aN:=bx hP hN (by intro q;cases q);have EN:aE≠aN:=bx hE hN (by intro q;cases q);have pP:p≠aP:=bx hp hP (by intro q;cases q);refine⟨_,rfl,rfl,_,rfl,eY (fun d=>kx ?_) (fun d=>?_)⟩
  ·have:=of_decide_eq_true d;injection this with this
   omega
  have hne:xs.length≠4096:=fun e=>d (decide_eq_true (by rw[e];rfl))
  refine⟨_,rfl,p,c,dx,fs,_,rfl,hp,T.cl,T.nR,lR,.inl ⟨rfl,_,ak.of hR⟩,_,rfl,aR,_,_,rfl,rfl,hR,cP (by omega),?_⟩;have hp1:upd H aR (.lst (xs++[.ref r])) p=some (.ins c dx fs):=by rw[au pR];exact hp
  refine⟨_,rfl,_,rfl,p,c,dx,fs,_,rfl,hp1,T.cl,T.nN,lN,_,rfl,aN,_,rfl,lG.t (by rw[au NR];exact hN) (by rw[au rR];exact hr') (cP (by omega)),?_⟩;have hp2:upd (upd H aR (.lst (xs++[.ref r]))) aN (.dT (dG kvs k (.int xs.length))) p=some (.ins c dx fs):=by rw[au pN];exact hp1
  have hP2:upd (upd H aR (.lst (xs++[.ref r]))) aN (.dT (dG kvs k (.int xs.length))) aP=some (.lst ps):=by rw[au PN,au n1];exact hP
  have hE2:upd (upd H aR (.lst (xs++[.ref r]))) aN (.dT (dG kvs k (.int xs.length))) aE=some (.lst es):=by rw[au EN,au n2];exact hE
  refine⟨_,rfl,p,c,dx,fs,_,rfl,hp2,T.cl,T.nP,lP,.inl ⟨rfl,_,ak.of hP2⟩,_,rfl,aP,_,_,rfl,rfl,hP2,cP (by omega),?_⟩;have R8:upd (upd (upd H aR (.lst (xs++[.ref r]))) aN (.dT (dG kvs k (.int xs.length)))) aP (.lst (ps++[vp])) aE=some (.lst es):=by rw[au n3];exact hE2
  refine⟨_,rfl,p,c,dx,fs,_,rfl,(by rw[au pP];exact hp2),T.cl,T.nE,lE,.inl ⟨rfl,_,ak.of R8⟩,_,rfl,aE,_,_,rfl,rfl,R8,cP (by omega),?_⟩;exact⟨_,rfl,kq hne⟩
theorem aem{K:atQ}{a:Addr}{xs:List V}{g:TG}{tb:TS}{D:Ends}{σ:L2.St}{H:Hp}(Pv:Nat->L2.St->Hp->Prop)(h0:Pv 0 σ H)(hl:∀i σ H,i<=xs.length->Pv i σ H->ak K H a xs)
  (hs:∀i x σ H T,xs[i]?=some x->Pv i σ H->H T=none->g (.ref T) σ (upd H T (.tup [.int (i:Nat),x])) fun σ2 H2=>tb {D with nx:=Pv (i+1),ct:=Pv (i+1),bk:=D.nx} σ2 H2) (hd:∀σ H,Pv xs.length σ H->D.nx σ H):
  ∃W:Nat->Nat->L2.St->Hp->Prop,(∃m,W 0 m σ H)/\∀i m σ H,W i m σ H->
   ((wU K a).stop i H/\D.nx σ H)\/((wU K a).go i H/\∃N:L2.St->Hp->Prop,(∀σ' H',N σ' H'->∃m',m'<m/\W (i+1) m' σ' H')/\∀x H',(wU K a).lq i H x H'->g x σ H' fun σ2 H2=>tb {D with nx:=N,ct:=N,bk:=D.nx} σ2 H2):=by
 refine⟨fun i m σ H=>m=xs.length-i/\i<=xs.length/\Pv i σ H,⟨xs.length,by simp,aul _,h0⟩,?_⟩;rintro i m σ H ⟨rfl,hi,p⟩;have q:=hl i σ H hi p;by_cases hlt:i<xs.length
 ·refine .inr ⟨⟨xs,xs[i],q,by simp[hlt]⟩,Pv (i+1),fun σ' H' p'=>⟨xs.length- (i+1),by omega,rfl,hlt,p'⟩,fun x H' y=>?_⟩;obtain⟨T,z,rfl,hT,rfl,y⟩:=y;exact hs i z σ H T (y xs q) p hT
 ·have e:i=xs.length:=by omega
  subst e;exact .inl ⟨⟨xs,q,atX _⟩,hd σ H p⟩
structure Lay where
 p:Addr
 dx:Addr
 aL:Addr
 aR:Addr
 aN:Addr
 aP:Addr
 aE:Addr
 aB:Addr
 aK:Addr
 fs:List (Str×V)
def mq(M:Machine)(l:List WM)(e n:Nat)(row:List Nat):Prop:=row.length=n/\∀a,a<n->row.getD a 0<l.length/\mp l (row.getD a 0)=then_ (mp l e) (letterMap M a)
theorem mq.app{M:Machine}{l r:List WM}{e n:Nat}{row:List Nat}(h:mq M l e n row)(he:e<l.length):mq M (l++r) e n row:=
 ⟨h.1,fun a ha=>⟨by rw[aud];have:=(h.2 a ha).1;omega,by rw[WA.xg (h.2 a ha).1,WA.xg he];exact(h.2 a ha).2⟩⟩
theorem mq.snoc{M:Machine}{l:List WM}{e n j:Nat}{row:List Nat}(h:mq M l e n row)(hj:j<l.length)(e1:mp l j=then_ (mp l e) (letterMap M n)):mq M l e (n+1) (row++[j]):=by
 refine⟨by rw[aud,h.1];rfl,fun a ha=>?_⟩;by_cases q:a<n
 ·have:(row++[j]).getD a 0=row.getD a 0:=by
   rw[at5,auP (by rw[h.1];exact q),<-at5]
  rw[this];exact h.2 a q
 ·have e2:a=n:=by omega
  subst e2;have:(row++[j]).getD a 0=j:=by
   rw[at5,ax0 (by rw[h.1];exact atX _),h.1];simp
  rw[this];exact⟨hj,e1⟩
structure cX(c:Addr)(S:Addr->Prop)(H:Hp)(L:Lay)(M:Machine)(l:List WM)(nb:Nat):Prop where
 ins:H L.p=some (.ins c L.dx L.fs)
 lL:L.fs.lookup ("letters":Str)=some (.ref L.aL)
 lR:L.fs.lookup ("rows":Str)=some (.ref L.aR)
 lN:L.fs.lookup ("numbers":Str)=some (.ref L.aN)
 lP:L.fs.lookup ("prefix":Str)=some (.ref L.aP)
 lE:L.fs.lookup ("last":Str)=some (.ref L.aE)
 lB:L.fs.lookup ("behind":Str)=some (.ref L.aB)
 lK:L.fs.lookup ("known":Str)=some (.ref L.aK)
 lM:∀m:Str,m≠"letters"->m≠"rows"->m≠"numbers"->m≠"prefix"->m≠"last"->m≠"behind"->m≠"known"->L.fs.lookup m=none
 bj:∃bj:List Addr,H L.aL=some (.lst (bj.map V.ref))/\bj.length=M.k/\∀(a:Nat)(x:Addr),bj[a]?=some x->H x=some (.lst (aq (letterMap M a)))/\S x/\x≠L.aR/\x≠L.aP/\x≠L.aE/\x≠L.aB
 ras:∃ras:List Addr,H L.aR=some (.lst (ras.map V.ref))/\ras.length=l.length/\∀(i:Nat)(x:Addr),ras[i]?=some x->H x=some (.tup (aq (mp l i)))/\S x
 nums:H L.aN=some (.dT (numsOf l))
 oE:∃ps es:List V,H L.aP=some (.lst ps)/\H L.aE=some (.lst es)/\ps.length=l.length/\es.length=l.length/\∀i,0<i->i<l.length->∃j a:Nat,j<i/\ps[i]?=some (nv j)/\es[i]?=some (nv a)/\wd l i=wd l j++[a]
 cN:∃cN:List Addr,H L.aB=some (.lst (cN.map V.ref))/\cN.length=nb/\∀(e:Nat)(x:Addr),cN[e]?=some x->(S x/\x≠L.aR/\x≠L.aP/\x≠L.aE/\x≠L.aB)/\∃row,H x=some (.lst (aq row))/\mq M l e M.k row
 sep:(L.aL≠L.aR/\L.aL≠L.aP/\L.aL≠L.aE/\L.aL≠L.aB)/\L.aP≠L.aR/\L.aE≠L.aR/\L.aE≠L.aP/\L.aB≠L.aR/\L.aB≠L.aP/\L.aB≠L.aE
 own:S L.p/\S L.aL/\S L.aR/\S L.aN/\S L.aP/\S L.aE/\S L.aB
 good:Good M
 grown:tL M l
 tV:nb<=l.length
 most:l.length<=4096
theorem cX.keep{c:Addr}{S:Addr->Prop}{H H':Hp}{L:Lay}{M:Machine}{l:List WM}{nb:Nat}(A:cX c S H L M l nb)(k:∀b o,S b->H b=some o->H' b=some o):cX c S H' L M l nb:=by
 obtain⟨o1,o2,o3,o4,o5,o6,o7⟩:=A.own;refine⟨k _ _ o1 A.ins,A.lL,A.lR,A.lN,A.lP,A.lE,A.lB,A.lK,A.lM,?_,?_,k _ _ o4 A.nums,?_,?_,A.sep,A.own,A.good,A.grown,A.tV,A.most⟩
 ·obtain⟨bj,h1,h2,h3⟩:=A.bj;exact⟨bj,k _ _ o2 h1,h2,fun a x hx=>⟨k _ _ (h3 a x hx).2.1 (h3 a x hx).1,(h3 a x hx).2⟩⟩
 ·obtain⟨ras,h1,h2,h3⟩:=A.ras;exact⟨ras,k _ _ o3 h1,h2,fun i x hx=>⟨k _ _ (h3 i x hx).2 (h3 i x hx).1,(h3 i x hx).2⟩⟩
 ·obtain⟨ps,es,h1,h2,h3⟩:=A.oE;exact⟨ps,es,k _ _ o5 h1,k _ _ o6 h2,h3⟩
 ·obtain⟨cN,h1,h2,h3⟩:=A.cN;refine⟨cN,k _ _ o7 h1,h2,fun e x hx=>?_⟩;obtain⟨g1,row,g2,g3⟩:=h3 e x hx;exact⟨g1,row,k _ _ g1.1 g2,g3⟩
theorem cX.same{c:Addr}{S:Addr->Prop}{H H':Hp}{L:Lay}{M:Machine}{l:List WM}{nb:Nat}(A:cX c S H L M l nb)(s:Same H H'):cX c S H' L M l nb:=A.keep fun b o _ e=>s b o e
theorem cX.mono{c:Addr}{S S':Addr->Prop}{H:Hp}{L:Lay}{M:Machine}{l:List WM}{nb:Nat}(A:cX c S H L M l nb)(k:∀b o,H b=some o->S b->S' b):cX c S' H L M l nb:=by
 obtain⟨o1,o2,o3,o4,o5,o6,o7⟩:=A.own;obtain⟨bj,a1,a2,a3⟩:=A.bj;obtain⟨ras,b1,b2,b3⟩:=A.ras;obtain⟨ps,es,c1,c2,c3⟩:=A.oE;obtain⟨cN,d1,d2,d3⟩:=A.cN;refine⟨A.ins,A.lL,A.lR,A.lN,A.lP,A.lE,A.lB,A.lK,A.lM,⟨bj,a1,a2,fun a x hx=>?_⟩,⟨ras,b1,b2,fun i x hx=>?_⟩,A.nums,⟨ps,es,c1,c2,c3⟩,⟨cN,d1,d2,fun e x hx=>?_⟩,A.sep,⟨k _ _ A.ins o1,k _ _ a1 o2,k _ _ b1 o3,k _ _ A.nums o4,k _ _ c1 o5,k _ _ c2 o6,k _ _ d1 o7⟩,A.good,A.grown,A.tV,A.most⟩
 ·obtain⟨g1,g2,g3⟩:=a3 a x hx;exact⟨g1,k _ _ g1 g2,g3⟩
 ·obtain⟨g1,g2⟩:=b3 i x hx;exact⟨g1,k _ _ g1 g2⟩
 ·obtain⟨⟨g1,g2⟩,row,g3,g4⟩:=d3 e x hx;exact⟨⟨k _ _ g3 g1,g2⟩,row,g3,g4⟩
def tW(o:HO):Prop:=∀kvs,o≠.dK kvs
theorem cX.aen{c:Addr}{S S':Addr->Prop}{H H':Hp}{L:Lay}{M:Machine}{l:List WM}{nb:Nat}(A:cX c S H L M l nb)(k:∀b o,H b=some o->tW o->S b->H' b=some o/\S' b):cX c S' H' L M l nb:=by
 obtain⟨o1,o2,o3,o4,o5,o6,o7⟩:=A.own;obtain⟨bj,a1,a2,a3⟩:=A.bj;obtain⟨ras,b1,b2,b3⟩:=A.ras;obtain⟨ps,es,c1,c2,c3⟩:=A.oE;obtain⟨cN,d1,d2,d3⟩:=A.cN;have nl:∀xs,tW (.lst xs):=fun xs kvs q=>by cases q
 have nt:∀xs,tW (.tup xs):=fun xs kvs q=>by cases q
 have k1:=k _ _ A.ins (fun kvs q=>by cases q) o1;have k2:=k _ _ a1 (nl _) o2;have k3:=k _ _ b1 (nl _) o3;have k4:=k _ _ A.nums (fun kvs q=>by cases q) o4;have k5:=k _ _ c1 (nl _) o5;have k6:=k _ _ c2 (nl _) o6;have k7:=k _ _ d1 (nl _) o7;refine⟨k1.1,A.lL,A.lR,A.lN,A.lP,A.lE,A.lB,A.lK,A.lM,⟨bj,k2.1,a2,fun a x hx=>?_⟩,⟨ras,k3.1,b2,fun i x hx=>?_⟩,k4.1,⟨ps,es,k5.1,k6.1,c3⟩,⟨cN,k7.1,d2,fun e x hx=>?_⟩,A.sep,⟨k1.2,k2.2,k3.2,k4.2,k5.2,k6.2,k7.2⟩,A.good,A.grown,A.tV,A.most⟩
 ·obtain⟨g1,g2,g3⟩:=a3 a x hx;obtain⟨z1,z2⟩:=k _ _ g1 (nl _) g2;exact⟨z1,z2,g3⟩
 ·obtain⟨g1,g2⟩:=b3 i x hx;exact k _ _ g1 (nt _) g2
 ·obtain⟨⟨g1,g2⟩,row,g3,g4⟩:=d3 e x hx;obtain⟨z1,z2⟩:=k _ _ g3 (nl _) g1;exact⟨⟨z2,g2⟩,row,z1,g4⟩
theorem cX.skip{c:Addr}{S:Addr->Prop}{H:Hp}{L:Lay}{M:Machine}{l:List WM}{nb:Nat}{q:Addr}{o:HO}(A:cX c S H L M l nb)(hq:¬S q):cX c S (upd H q o) L M l nb:=
 A.keep fun b u hb e=>by rw[au (fun z:b=q=>hq (by rw[<-z];exact hb))];exact e
def kept(L:Lay)(H:Hp)(r:Addr)(xs:List V)(kvs:List (List bc×V))(k:List bc)(ps es:List V)(vp vl:V):Hp:=
 upd (upd (upd (upd H L.aR (.lst (xs++[.ref r]))) L.aN (.dT (dG kvs k (.int xs.length)))) L.aP (.lst (ps++[vp]))) L.aE (.lst (es++[vl]))
theorem jC{L:Lay}{H:Hp}{r b:Addr}{xs:List V}{kvs:List (List bc×V)}{k:List bc}{ps es:List V}{vp vl:V}(h1:b≠L.aR)(h2:b≠L.aN)(h3:b≠L.aP)(h4:b≠L.aE):kept L H r xs kvs k ps es vp vl b=H b:=by
 unfold kept;rw[au h4,au h3,au h2,au h1]
theorem cX.more{c:Addr}{S:Addr->Prop}{H:Hp}{L:Lay}{M:Machine}{l:List WM}{nb:Nat}(A:cX c S H L M l nb){r:Addr}{e a:Nat}{x:WM}{xs ps es:List V}(hx:l[e]?=some x)(ha:a<M.k)
  (hr:H r=some (.tup (aq (then_ x.2 (letterMap M a))))) (hS:S r) (hno:(l.any fun y=>y.2==then_ x.2 (letterMap M a))=false) (hl:l.length<4096) (hR:H L.aR=some (.lst xs)) (hP:H L.aP=some (.lst ps)) (hE:H L.aE=some (.lst es)):
  ie M x l a=l++[(x.1++[a],then_ x.2 (letterMap M a))]/\cX c S (kept L H r xs (numsOf l) (kM (then_ x.2 (letterMap M a))) ps es (nv e) (nv a)) L M (l++[(x.1++[a],then_ x.2 (letterMap M a))]) nb:=by
 have e0:ie M x l a=l++[(x.1++[a],then_ x.2 (letterMap M a))]:=by
  unfold ie;rw[if_neg (by rw[hno];exact auq)]
 refine⟨e0,?_⟩;obtain⟨⟨s1,s2,s3,s4⟩,s5,s6,s7,s8,s9,zy⟩:=A.sep;obtain⟨bj,a1,a2,a3⟩:=A.bj;obtain⟨ras,b1,b2,b3⟩:=A.ras;obtain⟨ps',es',c1,c2,c3,c4,c5⟩:=A.oE;obtain⟨cN,d1,d2,d3⟩:=A.cN;rw[b1] at hR;cases hR;rw[c1] at hP;cases hP;rw[c2] at hE;cases hE;have NR:L.aN≠L.aR:=bx A.nums b1 (by intro q;cases q);have PN:L.aP≠L.aN:=bx c1 A.nums (by intro q;cases q);have EN:L.aE≠L.aN:=bx c2 A.nums (by intro q;cases q);have nL:∀{b:Addr}{ys:List V},H b=some (.lst ys)->b≠L.aN:=fun h=>bx h A.nums (by intro q;cases q)
 have elt:e<l.length:=(at9.mp hx).1;have nT:∀{b:Addr}{ys:List V},H b=some (.tup ys)->b≠L.aR/\b≠L.aN/\b≠L.aP/\b≠L.aE:=fun h=>
  ⟨bx h b1 (by intro q;cases q),bx h A.nums (by intro q;cases q),bx h c1 (by intro q;cases q),bx h c2 (by intro q;cases q)⟩
 have tupK:∀{b:Addr}{ys:List V},H b=some (.tup ys)->kept L H r (ras.map V.ref) (numsOf l) (kM (then_ x.2 (letterMap M a))) ps es (nv e) (nv a) b=some (.tup ys):=fun h=>by
  obtain⟨n1,n2,n3,n4⟩:=nT h;rw[jC n1 n2 n3 n4];exact h
 have g1:tL M (l++[(x.1++[a],then_ x.2 (letterMap M a))]):=by rw[<-e0];exact WA.acz A.grown hx ha
 refine⟨?_,A.lL,A.lR,A.lN,A.lP,A.lE,A.lB,A.lK,A.lM,⟨bj,?_,a2,fun b y hy=>?_⟩,⟨ras++[r],?_,by rw[aud,aud,b2];rfl,fun i y hy=>?_⟩,?_,⟨ps++[nv e],es++[nv a],?_,?_,by rw[aud,aud,c3];rfl,by rw[aud,aud,c4];rfl,fun i h0 hi=>?_⟩,⟨cN,?_,d2,fun i y hy=>?_⟩,A.sep,A.own,A.good,g1,by rw[aud];have:=A.tV;omega,by rw[aud];show l.length+1<=4096;omega⟩
 ·rw[jC (bx A.ins b1 (by intro q;cases q)) (bx A.ins A.nums (by intro q;cases q)) (bx A.ins c1 (by intro q;cases q)) (bx A.ins c2 (by intro q;cases q))];exact A.ins
 ·rw[jC s1 (nL a1) s2 s3];exact a1
 ·obtain⟨g1,g2,g3,g4,g5,g6⟩:=a3 b y hy;exact⟨by rw[jC g3 (nL g1) g4 g5];exact g1,g2,g3,g4,g5,g6⟩
 ·unfold kept;rw[au (Ne.symm s6),au (Ne.symm s5),au (Ne.symm NR),aC,auO];rfl
 ·by_cases hi:i<ras.length
  ·rw[auP hi] at hy;obtain⟨g1,g2⟩:=b3 i y hy;exact⟨by rw[WA.xg (by omega)];exact tupK g1,g2⟩
  ·have hlt:=(at9.mp hy).1;have e1:i=ras.length:=by simp at hlt;omega
   subst e1;simp at hy;subst hy;refine⟨?_,hS⟩;rw[b2,gU (x:=(x.1++[a],then_ x.2 (letterMap M a))) (by simp)];exact tupK hr
 ·unfold kept;rw[au (Ne.symm EN),au (Ne.symm PN),aC,aei,uP _ (R5 hno),atR,b2]
 ·unfold kept;rw[au (Ne.symm s7),aC]
 ·unfold kept;rw[aC]
 ·by_cases hi':i<l.length
  ·obtain⟨j,a',j1,j2,j3,j4⟩:=c5 i h0 hi';refine⟨j,a',j1,WA.jK j2,WA.jK j3,?_⟩;rw[jL (WA.jK (atY hi')),jL (WA.jK (atY (show j<l.length by omega))),<-jL (atY hi'),<-jL (atY (show j<l.length by omega))];exact j4
  ·have e1:i=l.length:=by rw[aud] at hi;simp at hi;omega
   subst e1;refine⟨e,a,elt,by rw[<-c3];simp,by rw[<-c4];simp,?_⟩;rw[jL (x:=(x.1++[a],then_ x.2 (letterMap M a))) (by simp),jL (WA.jK hx)]
 ·rw[jC s8 (nL d1) s9 zy];exact d1
 ·obtain⟨⟨g1,g2,g3,g4,g5⟩,row,g6,g7⟩:=d3 i y hy;have il:i<l.length:=by have:=(at9.mp hy).1;have:=A.tV;omega
  exact⟨⟨g1,g2,g3,g4,g5⟩,row,by rw[jC g2 (nL g6) g3 g4];exact g6,g7.app il⟩
theorem xR(l:List Nat)(j:Nat):aq (l++[j])=aq l++[nv j]:=by simp[aq]
def Out(S:Addr->Prop)(H H':Hp):Prop:=(∀b o,¬S b->H b=some o->H' b=some o)/\∀b,H' b=none->H b=none
theorem Out.refl(S:Addr->Prop)(H:Hp):Out S H H:=⟨fun _ _ _ e=>e,fun _ e=>e⟩
theorem Out.trans{S:Addr->Prop}{H H1 H2:Hp}(a:Out S H H1)(b:Out S H1 H2):Out S H H2:=⟨fun c o n e=>b.1 c o n (a.1 c o n e),fun c e=>a.2 c (b.2 c e)⟩
theorem Out.same{S:Addr->Prop}{H H':Hp}(s:Same H H'):Out S H H':=⟨fun b o _ e=>s b o e,fun _ e=>s.free e⟩
theorem Out.upd{S:Addr->Prop}{H H':Hp}{q:Addr}{o:HO}(s:Out S H H')(hq:S q):Out S H (upd H' q o):=by
 refine⟨fun b u n e=>?_,fun b e=>?_⟩
 ·rw[au (fun z:b=q=>n (by rw[z];exact hq))];exact s.1 b u n e
 ·by_cases z:b=q
  ·rw[z,aC] at e;cases e
  ·rw[au z] at e;exact s.2 b e
def R9(K:atQ)(c cM:Addr):Sp:=fun vs H Q E=>∃(S:Addr->Prop)(L:Lay)(M:Machine)(l:List WM)(e:Nat)(x:WM),vs=[.ref L.p,nv e]/\cX c S H L M l e/\l[e]?=some x/\(∀b,H b=none->S b)/\
 ((dH M x l (atU M.k)).length<=4096->∀(H':Hp)(r:Addr)(row:List Nat),cX c S H' L M (dH M x l (atU M.k)) e->H' r=some (.lst (aq row))->mq M (dH M x l (atU M.k)) e M.k row->S r->r≠L.aR->r≠L.aP->r≠L.aE->r≠L.aB->Out S H H'->Q (.ref r) H')/\
 (4096<(dH M x l (atU M.k)).length->∀H':Hp,Out S H H'->E (.ref cM) none H')
theorem tX:bR ["self","e","found","a","letter","row","number"] ["self","e"] (aU xJ):=⟨rfl,rfl,rfl,by decide +kernel,rfl,by decide +kernel,by decide +kernel⟩
theorem aeo{f fC fK c cR cM:Addr}{fd dX tY:FuncData}(F:aY K "put_letters_behind" "Algebra.put_letters_behind" xJ f fd)(T0:TA K c)(X:Txt K mg cR cM)
  (FC:aY K "compose" "compose" oA fC dX) (bC:Binds K dX ["first","second"] []) (mC:mg "compose"=some (.ref fC))
  (FK:aY K "keep" "Algebra.keep" vo fK tY) (bK:Binds K tY ["self","row","prefix","letter"] []) (mK:Meth K c "keep" fK):
  aJ P w K mg base (aX P w) 2 f fd ["self","e"] (R9 K c cM):=by
 have GC:aJ P w K mg base aZ 1 fC dX ["first","second"] (vz K):=Ja FC X;have GK:aJ P w K mg base (aX P w) 1 fK tY ["self","row","prefix","letter"] (Je c cM):=R7 FK T0 X;refine F.eE tX (fun vs H Q E h=>?_) (fun cdv A outer s H vs Q E hr h=>?_)
 ·obtain⟨S,L,M,l,e,x,rfl,_⟩:=h;rfl
 ·obtain⟨S,L,M,l,e,x,rfl,AA,hx,hS,kq,kx⟩:=h;have hu:(fG (aX P w) P w K mg base ["self","e","found","a","letter","row","number"] "Algebra.put_letters_behind" (aU xJ) f cdv A outer s H E).A.units+1<cLine:=by have:=hr.un;show(A.deeper _).units+1<cLine;omega
  refine⟨_,aD (bf (i:=2) tX.nd rfl (atV rfl) (dD aA))
   (aD (ni qO rfl (aax rfl X.enum (aj (bh (pv 0) rfl) aA)) (wy rfl (mZ (dF (i:=3) tX.nd rfl (atV rfl)) (mZ (dF (i:=4) tX.nd rfl (atV rfl)) ww)))
    (aD (bf (i:=5) tX.nd rfl (atV rfl) (cu GC hr rfl mC FC.kp bC .nil bA (aj (dN eF (bh (pv 0) rfl) (pv 1) (fun _ _=>rfl)) (aj (pv 4) aA))))
    (aD (bf (i:=6) tX.nd rfl (atV rfl) (aar hu (bh (pv 0) rfl) (pv 5) ⟨rfl,rfl,rfl,rfl⟩))
    (aD (cZ (uD (MF (pv 6))) (aH (bf (i:=6) tX.nd rfl (atV rfl) (dZ (pv 0) T0.cl mK GK hr bK .nil cG (aj (pv 5) (aj (pv 1) (aj (pv 3) aA)))))) dm)
    (aH (dY (ju auB auW au4 jX (pv 2) (aj (pv 6) aA))))))))
   (aH (bz (pv 2)))),?_⟩
  refine⟨aul _,fun fo hfo=>?_⟩;have hSf:S fo:=hS fo hfo;have A1:cX c (fun b=>S b/\b≠fo) (upd H fo (.lst [])) L M l e:=(AA.mono fun b o hb hs=>⟨hs,aV hb hfo⟩).skip fun z=>z.2 rfl
  obtain⟨bj,a1,a2,a3⟩:=A1.bj;refine⟨_,rfl,L.p,c,L.dx,L.fs,_,rfl,A1.ins,T0.cl,T0.nL,A1.lL,L.aL,_,rfl,ak.of a1,?_⟩;refine aem (K:=K) (a:=L.aL) (xs:=bj.map V.ref) (fun i σ H'=>∃v3 v4 v5 v6:Option V,σ=[some (.ref L.p),some (nv e),some (.ref fo),v3,v4,v5,v6]/\cX c (fun b=>S b/\b≠fo) H' L M (dH M x l (atU i)) e/\
    (∃row,H' fo=some (.lst (aq row))/\mq M (dH M x l (atU i)) e i row)/\Out S H H'/\H' L.aL=some (.lst (bj.map V.ref)))
   ⟨none,none,none,none,rfl,A1,⟨[],aC,rfl,fun a ha=>by omega⟩,(Out.refl S H).upd hSf,a1⟩ (fun i σ H' _ ⟨_,_,_,_,_,_,_,_,q⟩=>ak.of q) ?_ ?_
  ·rintro i y σ H' T hi ⟨v3,v4,v5,v6,rfl,B,⟨row,hrow,hR⟩,out,haL⟩ hT;obtain⟨la,hla,rfl⟩:∃la,bj[i]?=some la/\y=V.ref la:=by
    rw[aui] at hi;cases q:bj[i]? with
    |none=>rw[q] at hi;cases hi
    |some la=>rw[q] at hi;exact⟨la,rfl,(aub hi).symm⟩
   have ik:i<M.k:=by rw[<-a2];exact(at9.mp hla).1
   obtain⟨pr,hpr⟩:=WA.zY M x (atU i) l;have Bp:(dH M x l (atU i))[e]?=some x:=by rw[hpr];exact WA.jK hx
   have Bq:e<(dH M x l (atU i)).length:=(at9.mp Bp).1;have nxt:dH M x l (atU (i+1))=ie M x (dH M x l (atU i)) i:=by rw[avV,WA.acv]
   generalize hli:dH M x l (atU i)=li at B hR hpr Bp Bq nxt;have s1:Same H' (upd H' T (.tup [.int (i:Nat),.ref la])):=Same.laid hT;have B1:=B.same s1;obtain⟨ras,r1,r2,r3⟩:=B1.ras;obtain⟨re,Sd⟩:∃re,ras[e]?=some re:=⟨_,atY (by rw[r2];exact Bq)⟩
   obtain⟨aep,l1,l2,l3⟩:=B1.bj;have el:aep=bj:=by
    have z:=s1 _ _ haL;rw[z] at l1;have z2:=HO.lst.inj (aub l1);exact(List.map_inj_right (fun a b h=>V.ref.inj h)).mp z2.symm
   subst el;have Jf:mp li e=x.2:=gU Bp;have okx:WA.eO M.q x.2:=by
    obtain⟨g1,g2⟩:=AA.grown.good x (auI hx);rw[g2];exact WA.zX AA.good g1
   have okl:=WA.tK AA.good ik;have Sg:=(r3 e re Sd).1;rw[Jf] at Sg;refine⟨T,_,rfl,bB.of aC,rfl,_,_,rfl,_,_,rfl,rfl,?_⟩;refine⟨_,rfl,L.p,c,L.dx,L.fs,_,rfl,B1.ins,T0.cl,T0.nR,B1.lR,_,rfl,L.aR,_,_,_,rfl,rfl,ak.of r1,cO rfl (by rw[aui,Sd];rfl),_,rfl,re,la,x.2,letterMap M i,rfl,bB.of Sg,.inl (ak.of (l3 i la hla).1),
    fun z hz=>by rw[okl.len];exact okx.lt z hz,by rw[okx.len];have:=AA.good.2.1;omega,fun H2 rr hrr hup s2=>?_⟩
   have B2:=B1.same s2;have s12:Same H' H2:=Same.trans s1 s2;have out2:Out S H H2:=out.trans (Out.same s12);have Jg:=s12 _ _ hrow;have hrS:S rr/\rr≠fo:=by
    have z:H' rr=none:=Same.free s1 hrr;exact⟨hS rr (out.2 rr z),(aV hrow z).symm⟩
   have Sh:H2 rr=some (.tup ((kM (then_ x.2 (letterMap M i))).map kV)):=by rw[rA];exact hup
   refine⟨_,rfl,L.p,c,L.dx,L.fs,_,rfl,B2.ins,T0.cl,T0.nN,B2.lN,L.aN,rfl,.inr ⟨_,.inl B2.nums⟩,_,rfl,_,fY.t B2.nums Sh,?_⟩;have hrl:row.length<sizeLine:=by rw[hR.1];have:=AA.good.2.2.2.1;exact cP (by omega)
   cases hany:li.any fun y=>y.2==then_ x.2 (letterMap M i) with
   |true=>
    obtain⟨j,j1,j2,j3⟩:=aek B2.grown.nodup hany;rw[j3];refine⟨_,rfl,_,rfl,jH ?_⟩;have same:ie M x li i=li:=by unfold ie;rw[if_pos hany]
    refine⟨_,rfl,.inl ⟨rfl,_,ak.of Jg⟩,_,rfl,fo,_,_,rfl,rfl,Jg,by rw[atR];exact hrl,?_⟩;refine⟨_,_,_,_,rfl,?_,⟨row++[j],?_,?_⟩,out2.upd hSf,?_⟩
    ·rw[nxt,same];exact B2.skip fun z=>z.2 rfl
    ·rw[aC,xR];rfl
    ·rw[nxt,same];exact hR.snoc j1 (by rw[j2,Jf])
    ·rw[au B2.own.2.1.2];exact s12 _ _ haL
   |false=>
    rw[R5 hany];refine⟨_,rfl,_,rfl,gZ ?_⟩;obtain⟨Sq,q1,q2,q3⟩:=B2.ras;obtain⟨ps,es,p1,p2,p3,p4,p5⟩:=B2.oE;obtain⟨⟨s1',s2',rB,s4'⟩,s5',s6',s7',s8',s9',amO⟩:=B2.sep;have lm:=B2.most;refine⟨_,rfl,L.p,L.dx,L.fs,rfl,B2.ins,B2.lM _ (by decide +kernel) (by decide +kernel) (by decide +kernel) (by decide +kernel) (by decide +kernel) (by decide +kernel) (by decide +kernel),_,rfl,_,rfl,_,rfl,?_⟩;refine⟨L.p,L.dx,rr,L.aR,L.aN,L.aP,L.aE,L.fs,nv e,nv i,_,ps,es,_,_,rfl,B2.ins,B2.lR,B2.lN,B2.lP,B2.lE,q1,B2.nums,p1,p2,Sh,s5',s6',s7',by rw[atR,q2];exact lm,by rw[aej];exact lm,by rw[p3];exact lm,by rw[p4];exact lm,fun h4=>?_,fun h4=>?_⟩
    ·refine kx ?_ H2 out2;rw[atR,q2] at h4;obtain⟨pr2,aew⟩:=WA.zY M x ((atU M.k).drop (i+1)) (dH M x l (atU (i+1)));have e1:atU (i+1)++(atU M.k).drop (i+1)=atU M.k:=by
      have:=ayr (i+1) (atU M.k);rw[List.take_range,axL (by omega)] at this;exact this
     have e2:dH M x l (atU M.k)=dH M x l (atU (i+1))++pr2:=by rw[<-e1,WA.acw];exact aew
     have e3:ie M x li i=li++[(x.1++[i],then_ x.2 (letterMap M i))]:=by unfold ie;rw[if_neg (by rw[hany];exact auq)]
     rw[e2,nxt,e3,aud,aud];simp only[auH,avE];omega
    ·rw[atR,q2] at h4;obtain⟨e3,B3⟩:=B2.more Bp ik hup hrS hany (by omega) q1 p1 p2;have foR:fo≠L.aR:=Ne.symm B2.own.2.2.1.2;have foN:fo≠L.aN:=Ne.symm B2.own.2.2.2.1.2;have foP:fo≠L.aP:=Ne.symm B2.own.2.2.2.2.1.2;have foE:fo≠L.aE:=Ne.symm B2.own.2.2.2.2.2.1.2;have Ss:kept L H2 rr (Sq.map V.ref) (numsOf li) (kM (then_ x.2 (letterMap M i))) ps es (nv e) (nv i) fo=some (.lst (aq row)):=by rw[jC foR foN foP foE];exact Jg
     have out3:Out S H (kept L H2 rr (Sq.map V.ref) (numsOf li) (kM (then_ x.2 (letterMap M i))) ps es (nv e) (nv i)):=
      (((out2.upd B2.own.2.2.1.1).upd B2.own.2.2.2.1.1).upd B2.own.2.2.2.2.1.1).upd B2.own.2.2.2.2.2.1.1
     refine⟨_,rfl,.inl ⟨rfl,_,ak.of Ss⟩,_,rfl,fo,_,_,rfl,rfl,Ss,by rw[atR];exact hrl,?_⟩;refine⟨_,_,_,_,rfl,?_,⟨row++[li.length],?_,?_⟩,out3.upd hSf,?_⟩
     ·rw[nxt,e3];exact B3.skip fun z=>z.2 rfl
     ·rw[aC,xR,atR,q2]
     ·rw[nxt,e3];exact(hR.app Bq).snoc (by simp) (by rw[gU (x:=(x.1++[i],then_ x.2 (letterMap M i))) (by simp),WA.xg Bq,Jf])
     ·rw[au B2.own.2.1.2];exact(jC s1' (bx (s12 _ _ haL) B2.nums (by intro q;cases q)) s2' rB).trans (s12 _ _ haL)
  ·rintro σ H' ⟨v3,v4,v5,v6,rfl,B,⟨row,hrow,hR⟩,out,haL⟩;rw[atR,a2] at B hR;refine⟨_,rfl,?_⟩;exact kq B.most H' fo row (B.mono fun b o _ z=>z.1) hrow hR hSf (Ne.symm B.own.2.2.1.2) (Ne.symm B.own.2.2.2.2.1.2) (Ne.symm B.own.2.2.2.2.2.1.2) (Ne.symm B.own.2.2.2.2.2.2.2) out
theorem Sv{q k:Int}{l:List Int}(hr:WA.jz q k)(hl:l.length=q.toNat*k.toNat)(hb:∀z,z∈l->0<=z/\z<256){a:Nat}(ha:a<k.toNat):
  uV (l.map V.int) (some (a:Int)) none (some k)=aq (letterMap (WA.aW q k l) a):=by
 obtain⟨r1,r2,r3,r4⟩:=hr;obtain⟨Q,rfl⟩:=avb (show(0:Int)<=q by omega);obtain⟨N,rfl⟩:=avb (show(0:Int)<=k by omega);simp only[auh] at hl ha;have hN:0<N:=by omega
 have hQ:0<Q:=by omega
 have hlen:(l.map V.int).length=Q*N:=by rw[atR,hl]
 have hQN:N<=Q*N:=Nat.le_mul_of_pos_left N hQ;unfold uV;have b1:(sliceBounds (some (a:Int)) none (some (N:Int)) (l.map V.int).length).1=(a:Int):=by
  rw[hlen];simp only[sliceBounds,awj];rw[if_pos (show(N:Int)>0 by omega),if_neg (show¬(a:Int)<0 by omega)];omega
 have b2:(sliceBounds (some (a:Int)) none (some (N:Int)) (l.map V.int).length).2.1=((Q*N:Nat):Int):=by
  rw[hlen];simp only[sliceBounds,awj];rw[if_pos (show(N:Int)>0 by omega)]
 have b3:(sliceBounds (some (a:Int)) none (some (N:Int)) (l.map V.int).length).2.2=(N:Int):=rfl;rw[b1,b2,b3];unfold sliceRange;have cnt:((((Q*N:Nat):Int) - (a:Int)+(N:Int) -1)/(N:Int)).toNat=Q:=by
  have e:((Q*N:Nat):Int) - (a:Int)+(N:Int) -1=((Q*N+(N-1-a):Nat):Int):=by omega
  rw[e,<-Int.natCast_ediv,auh,axk,Nat.add_mul_div_right _ _ hN,Nat.div_eq_of_lt (by omega)];omega
 rw[if_pos (show(N:Int)>0 by omega),if_pos (show(a:Int)<((Q*N:Nat):Int) by omega)];dsimp only;rw[cnt,List.filterMap_map];have each:∀j,j∈atU Q->((fun(i:Nat)=>(l.map V.int)[i]?)∘fun(k:Nat)=>((a:Int)+(N:Int)*(k:Int)).toNat) j=some (nv ((auv l).getD (N*j+a) 0)):=by
  intro j hj;have hj:=at4.mp hj;have e:((a:Int)+(N:Int)*(j:Int)).toNat=N*j+a:=by
   have:(a:Int)+(N:Int)*(j:Int)=((N*j+a:Nat):Int):=by rw[Int.natCast_add,Int.natCast_mul];omega
   rw[this,auh]
  have hlt:N*j+a<l.length:=by
   rw[hl];have:N*j+N<=N*Q:=by rw[<-av2];exact ayy _ hj
   rw[awB Q N];omega
  show(l.map V.int)[((a:Int)+(N:Int)*(j:Int)).toNat]?=_;rw[e,aui,atY hlt];have hz:=hb _ (au1 hlt);have e2:(auv l).getD (N*j+a) 0=(l[N*j+a]).toNat:=by
   unfold auv;simp[at5,hlt]
  rw[e2];show some (V.int l[N*j+a])=some (V.int ((l[N*j+a]).toNat:Int));rw[ayD hz.1]
 have fm:∀(L:List Nat)(f:Nat->Option V)(g:Nat->V),(∀j,j∈L->f j=some (g j))->L.filterMap f=L.map g:=by
  intro L f g h
  induction L with
  |nil=>rfl
  |cons x L ih=>
   rw[axu (h x (at7 ..)),auf,ih fun j hj=>h j (at8 _ hj)]
 rw[fm _ _ _ each];unfold letterMap WA.aW aq;simp only[auh,auS];rfl
theorem cX.row{c:Addr}{S:Addr->Prop}{H:Hp}{L:Lay}{M:Machine}{l:List WM}{nb:Nat}(A:cX c S H L M l nb){r:Addr}{row:List Nat}{xs:List V}(hlt:nb<l.length)(hB:H L.aB=some (.lst xs))(hr:H r=some (.lst (aq row)))(hR:mq M l nb M.k row)(hS:S r)
  (n1:r≠L.aR) (n2:r≠L.aP) (n3:r≠L.aE) (n4:r≠L.aB):cX c S (upd H L.aB (.lst (xs++[.ref r]))) L M l (nb+1):=by
 obtain⟨⟨s1,s2,s3,s4⟩,s5,s6,s7,s8,s9,zy⟩:=A.sep;obtain⟨bj,a1,a2,a3⟩:=A.bj;obtain⟨ras,b1,b2,b3⟩:=A.ras;obtain⟨ps,es,c1,c2,c3⟩:=A.oE;obtain⟨cN,d1,d2,d3⟩:=A.cN;rw[d1] at hB;cases hB;refine⟨?_,A.lL,A.lR,A.lN,A.lP,A.lE,A.lB,A.lK,A.lM,⟨bj,?_,a2,fun b x hx=>?_⟩,⟨ras,?_,b2,fun i x hx=>?_⟩,?_,⟨ps,es,?_,?_,c3⟩,⟨cN++[r],?_,by rw[aud,d2];rfl,fun i x hx=>?_⟩,A.sep,A.own,A.good,A.grown,by omega,A.most⟩
 ·rw[au (bx A.ins d1 (by intro q;cases q))];exact A.ins
 ·rw[au s4];exact a1
 ·obtain⟨g1,g2,g3,g4,g5,g6⟩:=a3 b x hx;exact⟨by rw[au g6];exact g1,g2,g3,g4,g5,g6⟩
 ·rw[au (Ne.symm s8)];exact b1
 ·obtain⟨g1,g2⟩:=b3 i x hx;exact⟨by rw[au (bx g1 d1 (by intro q;cases q))];exact g1,g2⟩
 ·rw[au (bx A.nums d1 (by intro q;cases q))];exact A.nums
 ·rw[au (Ne.symm s9)];exact c1
 ·rw[au (Ne.symm zy)];exact c2
 ·rw[aC,auO];rfl
 ·by_cases hi:i<cN.length
  ·rw[auP hi] at hx;obtain⟨⟨g1,g2,g3,g4,g5⟩,aeB,g6,g7⟩:=d3 i x hx;exact⟨⟨g1,g2,g3,g4,g5⟩,aeB,by rw[au g5];exact g6,g7⟩
  ·have h1:=(at9.mp hx).1;have e1:i=cN.length:=by simp at h1;omega
   subst e1;simp at hx;subst hx;rw[d2];exact⟨⟨hS,n1,n2,n3,n4⟩,row,by rw[au n4];exact hr,hR⟩
theorem vC{c p dx r:Addr}{H:Hp}{fs:List (Str×V)}{o:HO}{f:Str}{F:Addr->HO->Prop}(hp:H p=some (.ins c dx fs))(hF:∀b u,F b u->H b=some u/\b≠p)(hr:H r=none):
  (upd (upd H r o) p (.ins c dx (ao f (.ref r) fs))) p=some (.ins c dx (ao f (.ref r) fs))/\(upd (upd H r o) p (.ins c dx (ao f (.ref r) fs))) r=some o/\r≠p/\
   ∀b u,F b u->((upd (upd H r o) p (.ins c dx (ao f (.ref r) fs))) b=some u/\b≠p)/\b≠r:=by
 have rp:r≠p:=(aV hp hr).symm;refine⟨aC,by rw[au rp];exact aC,rp,fun b u hb=>?_⟩;obtain⟨h1,h2⟩:=hF b u hb;have h3:=aV h1 hr;exact⟨⟨by rw[au h2,au h3];exact h1,h2⟩,h3⟩
theorem vD{S:Addr->Prop}{H0 H:Hp}{c p dx r:Addr}{fs:List (Str×V)}{o:HO}(h:Out S H0 H)(hp:S p)(hr:S r):Out S H0 (upd (upd H r o) p (.ins c dx fs)):=(h.upd hr).upd hp
theorem rC{S:Addr->Prop}{H0 H:Hp}(h:Out S H0 H)(hS:∀b,H0 b=none->S b){r:Addr}(hr:H r=none):S r:=hS r (h.2 r hr)
def Sw(K:atQ)(c cR cM:Addr):Sp:=fun vs H Q E=>∃(S:Addr->Prop)(p dx a:Addr)(q k:Int)(l:List Int),vs=[.ref p,.int q,.int k,.ref a]/\H p=some (.ins c dx [])/\ak K H a (l.map V.int)/\
 (WA.jz q k->l.length=q.toNat*k.toNat)/\(∀z,z∈l->0<=z/\z<256)/\(∀b,H b=none->S b)/\S p/\
 (¬pW q k l->E (.ref cR) none H)/\
 (pW q k l->4096<(elements (WA.aW q k l)).length->∀H':Hp,Out S H H'->E (.ref cM) none H')/\
 (pW q k l->(elements (WA.aW q k l)).length<=4096->∀(H':Hp)(L:Lay),L.p=p->cX c S H' L (WA.aW q k l) (elements (WA.aW q k l)) (elements (WA.aW q k l)).length->Out S H H'->H' L.aK=some (.dK [])->H L.aK=none->Q .non H')
theorem Jh:bR ["self","q","k","step","a"] ["self","q","k","step"] (aU Av):=⟨rfl,rfl,rfl,by decide +kernel,rfl,by decide +kernel,by decide +kernel⟩
theorem aeC{f fM fK fP fC c cR cM:Addr}{fd pX tY jm dX:FuncData}(F:aY K "__init__" "Algebra.__init__" Av f fd)(T:TA K c)(X:Txt K mg cR cM)
  (FM:aY K "check_machine" "check_machine" Ar fM pX) (bM:Binds K pX ["q","k","step"] []) (mM:mg "check_machine"=some (.ref fM))
  (FC:aY K "compose" "compose" oA fC dX) (bC:Binds K dX ["first","second"] []) (mC:mg "compose"=some (.ref fC))
  (FK:aY K "keep" "Algebra.keep" vo fK tY) (bK:Binds K tY ["self","row","prefix","letter"] []) (mK:Meth K c "keep" fK)
  (FP:aY K "put_letters_behind" "Algebra.put_letters_behind" xJ fP jm) (bP:Binds K jm ["self","e"] []) (mP:Meth K c "put_letters_behind" fP):
  aJ P w K mg base (aX P w) 3 f fd ["self","q","k","step"] (Sw K c cR cM):=by
 have GM:aJ P w K mg base (aX P w) 1 fM pX ["q","k","step"] (RW K cR):=ad8 FM X;have GK:aJ P w K mg base (aX P w) 1 fK tY ["self","row","prefix","letter"] (Je c cM):=R7 FK T X;have GP:aJ P w K mg base (aX P w) 2 fP jm ["self","e"] (R9 K c cM):=aeo FP T X FC bC mC FK bK mK;refine F.eE Jh (fun vs H Q E h=>?_) (fun cdv A outer s H vs Q E hr h=>?_)
 ·obtain⟨S,p,dx,a,q,k,l,rfl,_⟩:=h;rfl
 ·obtain⟨S,p,dx,a,q,k,l,rfl,hp,ha,hl,hb,hS,rE,kr,km,ky⟩:=h;have hr1:bQ 1 _:=hr.mono (by decide);refine⟨_,aD (dY (cu GM hr1 rfl mM FM.kp bM .nil cG (aj (pv 1) (aj (pv 2) (aj (pv 3) aA)))))
   (aD (gP (pv 0) (jd (own:=[("a",4)]) rfl Jh.nd (DY rfl X.range (aj (pv 2) aA)) (iU (by show iD ["self","q","k","step","a"] (aU Av) _ _=true;decide +kernel))
    (fun _ _ _ _ _=>dF (i:=4) Jh.nd rfl (atV rfl)) (fun _ _ _ _ _=>jc) (fun _ _ _ _ _=>aaU (K:=K) rfl (pv 3) (Es (pv 4)) YJ (pv 2))) rfl)
   (aD (gP (pv 0) (dD aA) rfl)
   (aD (gP (pv 0) O7 rfl)
   (aD (gP (pv 0) (dD aA) rfl)
   (aD (gP (pv 0) (dD aA) rfl)
   (aD (gP (pv 0) (dD aA) rfl)
   (aD (gP (pv 0) FQ rfl)
   (aD (dY (dZ (pv 0) T.cl mK GK hr1 bK .nil cG (aj (pq (aa1 rfl) rfl X.tuple awp (aj (aaW rfl X.range (aj (pv 1) aA)) aA)) (aj rZ (aj rZ aA)))))
   (aH (qF qO (cF uI (dU jb rfl X.len auL (aj (bh (pv 0) rfl) aA)) (dU jb rfl X.len auL (aj (bh (pv 0) rfl) aA)) (bY _))
    (aH (dY (ju auB auW au4 jX (bh (pv 0) rfl) (aj (dZ (pv 0) T.cl mP GP hr bP .nil cG (aj (dU jb rfl X.len auL (aj (bh (pv 0) rfl) aA)) aA)) aA)))))))))))))),?_⟩
  have hM:=hl;rcases ayL (¬pW q k l) with ok|ok
  ·exact⟨_,rfl,_,rfl,_,rfl,q,k,a,l,rfl,ha,fun r=>by rw[hl r];obtain⟨r1,r2,r3,r4⟩:=r;exact Nat.mul_pos (by omega) (by omega),fun z=>absurd z ok,fun _=>kr ok⟩
  have ok:=Classical.not_not.mp ok;have hr0:=ok.1;refine⟨_,rfl,_,rfl,_,rfl,q,k,a,l,rfl,ha,fun r=>by rw[hl r];obtain⟨r1,r2,r3,r4⟩:=r;exact Nat.mul_pos (by omega) (by omega),fun _=>?_,fun z=>absurd ok z⟩;have Sx:Good (WA.aW q k l):=by
   have hl:=hl hr0;obtain⟨r1,r2,r3,r4⟩:=hr0;refine⟨?_,?_,?_,?_,?_,fun x hx=>?_⟩
   ·show 1<=q.toNat;omega
   ·show q.toNat<=12;omega
   ·show 1<=k.toNat;omega
   ·show k.toNat<=6;omega
   ·show(auv l).length=q.toNat*k.toNat;rw[WA.Hg,hl]
   ·obtain⟨z,hz1,rfl⟩:=at6.mp hx;have:=ok.2 z hz1;have:=hb z hz1;show z.toNat<q.toNat;omega
  have kq:=hr0;obtain⟨rg1,rg2,rg3,rg4⟩:=kq;refine⟨_,rfl,k,rfl,by omega,by omega,fun D hD=>?_⟩;refine Fx (lo:=0) (n:=k.toNat) (fun i H'=>∃bj:List Addr,H' D=some (.lst (bj.map V.ref))/\bj.length=i/\(∀(a:Nat)(x:Addr),bj[a]?=some x->H' x=some (.lst (aq (letterMap (WA.aW q k l) a)))/\H x=none/\x≠D)/\Same H H')
   ⟨[],aC,rfl,fun a x h=>by simp at h,Same.laid hD⟩ ?_ ?_
  ·rintro i H' hi ⟨bj,g1,g2,g3,s1⟩;refine⟨rfl,jk ?_⟩;refine⟨_,rfl,_,rfl,_,rfl,_,rfl,k,rfl,a,_,rfl,Same.seq s1 ha,by omega,?_,fun r hr=>?_⟩
   ·rw[aw3,Sv hr0 (hl hr0) hb hi,atR];show(letterMap (WA.aW q k l) i).length<=sizeLine;rw[(WA.tK Sx hi).len];show q.toNat<=sizeLine;exact small (by omega)
   ·rw[aw3,Sv hr0 (hl hr0) hb hi];have rD:r≠D:=(aV g1 hr).symm;refine⟨bj.map V.ref,by rw[au (Ne.symm rD)];exact g1,by rw[atR,g2];exact cP (by omega),bj++[r],?_,by rw[aud,g2];rfl,fun b x hx=>?_,?_⟩
    ·rw[aC,auO];rfl
    ·by_cases hlt:b<bj.length
     ·rw[auP hlt] at hx;obtain⟨q1,q2,q3⟩:=g3 b x hx;exact⟨by rw[au q3,au (aV q1 hr)];exact q1,q2,q3⟩
     ·have h1:=(at9.mp hx).1;have e1:b=bj.length:=by simp at h1;omega
      subst e1;simp at hx;subst hx;exact⟨by rw[au rD,aC,g2],Same.free s1 hr,rD⟩
    ·exact Same.new (Same.new s1 (Same.free s1 hr)) hD
  rintro H1 ⟨bj,g1,g2,g3,s1⟩;have o1:Out S H H1:=Out.same s1;have hSD:S D:=hS D hD;have Sy:D≠p:=(aV hp hD).symm;refine⟨_,rfl,p,c,dx,[],rfl,s1 _ _ hp,T.cl,T.nL,(by show 0<1000;decide),?_⟩;have p2:(upd H1 p (.ins c dx (ao "letters" (.ref D) []))) p=some (.ins c dx (ao "letters" (.ref D) [])):=aC;have F2:∀b u,((b=D/\u=.lst (bj.map V.ref))\/∃i,bj[i]?=some b/\u=.lst (aq (letterMap (WA.aW q k l) i)))->(upd H1 p (.ins c dx (ao "letters" (.ref D) []))) b=some u/\b≠p:=by
   rintro b u (⟨rfl,rfl⟩|⟨i,hi,rfl⟩)
   ·exact⟨by rw[au Sy];exact g1,Sy⟩
   ·obtain⟨q1,q2,q3⟩:=g3 i b hi;have np:b≠p:=(aV hp q2).symm;exact⟨by rw[au np];exact q1,np⟩
  have o2:Out S H (upd H1 p (.ins c dx (ao "letters" (.ref D) []))):=o1.upd rE;generalize(upd H1 p (.ins c dx (ao "letters" (.ref D) [])))=H2 at p2 F2 o2;refine⟨aul _,fun aR hR=>?_⟩;refine⟨_,rfl,p,c,dx,_,rfl,(by rw[au (aV p2 hR)];exact p2),T.cl,T.nR,(by show 1<1000;decide),?_⟩;obtain⟨p3,r3,n3,F3⟩:=vC (o:=.lst []) (f:="rows") p2 F2 hR;have o3:=vD (c:=c) (dx:=dx) (fs:=ao "rows" (.ref aR) (ao "letters" (.ref D) [])) (o:=.lst []) o2 rE (rC o2 hS hR);have SR:=rC o2 hS hR;generalize(upd (upd H2 aR (.lst [])) p (.ins c dx (ao "rows" (.ref aR) (ao "letters" (.ref D) []))))=H3 at p3 r3 F3 o3;refine fun aN hN=>?_
  refine⟨_,rfl,p,c,dx,_,rfl,(by rw[au (aV p3 hN)];exact p3),T.cl,T.nN,(by show 2<1000;decide),?_⟩;obtain⟨p4,r4,n4,F4⟩:=vC (o:=.dT []) (f:="numbers") (F:=fun b u=>(b=aR/\u=.lst [])\/((b=D/\u=.lst (bj.map V.ref))\/∃i,bj[i]?=some b/\u=.lst (aq (letterMap (WA.aW q k l) i)))) p3 (fun b u h=>h.elim (fun⟨h1,h2⟩=>by rw[h1,h2];exact⟨r3,n3⟩) fun h=>(F3 b u h).1) hN;have SN:=rC o3 hS hN;have o4:=vD (c:=c) (dx:=dx) (fs:=ao "numbers" (.ref aN) (ao "rows" (.ref aR) (ao "letters" (.ref D) []))) (o:=.dT []) o3 rE SN;generalize(upd (upd H3 aN (.dT [])) p (.ins c dx (ao "numbers" (.ref aN) (ao "rows" (.ref aR) (ao "letters" (.ref D) [])))))=H4 at p4 r4 F4 o4;refine⟨aul _,fun aP hP=>?_⟩;refine⟨_,rfl,p,c,dx,_,rfl,(by rw[au (aV p4 hP)];exact p4),T.cl,T.nP,(by show 3<1000;decide),?_⟩;obtain⟨p5,r5,n5,F5⟩:=vC (o:=.lst []) (f:="prefix") (F:=fun b u=>(b=aN/\u=.dT [])\/((b=aR/\u=.lst [])\/((b=D/\u=.lst (bj.map V.ref))\/∃i,bj[i]?=some b/\u=.lst (aq (letterMap (WA.aW q k l) i))))) p4 (fun b u h=>h.elim (fun⟨h1,h2⟩=>by rw[h1,h2];exact⟨r4,n4⟩) fun h=>(F4 b u h).1) hP;have Ji:=rC o4 hS hP;have o5:=vD (c:=c) (dx:=dx) (fs:=ao "prefix" (.ref aP) (ao "numbers" (.ref aN) (ao "rows" (.ref aR) (ao "letters" (.ref D) [])))) (o:=.lst []) o4 rE Ji;generalize(upd (upd H4 aP (.lst [])) p (.ins c dx (ao "prefix" (.ref aP) (ao "numbers" (.ref aN) (ao "rows" (.ref aR) (ao "letters" (.ref D) []))))))=H5 at p5 r5 F5 o5;refine⟨aul _,fun aE hE=>?_⟩;refine⟨_,rfl,p,c,dx,_,rfl,(by rw[au (aV p5 hE)];exact p5),T.cl,T.nE,(by show 4<1000;decide),?_⟩;obtain⟨p6,r6,n6,F6⟩:=vC (o:=.lst []) (f:="last") (F:=fun b u=>(b=aP/\u=.lst [])\/((b=aN/\u=.dT [])\/((b=aR/\u=.lst [])\/((b=D/\u=.lst (bj.map V.ref))\/∃i,bj[i]?=some b/\u=.lst (aq (letterMap (WA.aW q k l) i)))))) p5 (fun b u h=>h.elim (fun⟨h1,h2⟩=>by rw[h1,h2];exact⟨r5,n5⟩) fun h=>(F5 b u h).1) hE;have SE:=rC o5 hS hE;have o6:=vD (c:=c) (dx:=dx) (fs:=ao "last" (.ref aE) (ao "prefix" (.ref aP) (ao "numbers" (.ref aN) (ao "rows" (.ref aR) (ao "letters" (.ref D) []))))) (o:=.lst []) o5 rE SE;generalize(upd (upd H5 aE (.lst [])) p (.ins c dx (ao "last" (.ref aE) (ao "prefix" (.ref aP) (ao "numbers" (.ref aN) (ao "rows" (.ref aR) (ao "letters" (.ref D) [])))))))=H6 at p6 r6 F6 o6;refine⟨aul _,fun aB hB=>?_⟩;refine⟨_,rfl,p,c,dx,_,rfl,(by rw[au (aV p6 hB)];exact p6),T.cl,T.nB,(by show 5<1000;decide),?_⟩;obtain⟨p7,r7,n7,F7⟩:=vC (o:=.lst []) (f:="behind") (F:=fun b u=>(b=aE/\u=.lst [])\/((b=aP/\u=.lst [])\/((b=aN/\u=.dT [])\/((b=aR/\u=.lst [])\/((b=D/\u=.lst (bj.map V.ref))\/∃i,bj[i]?=some b/\u=.lst (aq (letterMap (WA.aW q k l) i))))))) p6 (fun b u h=>h.elim (fun⟨h1,h2⟩=>by rw[h1,h2];exact⟨r6,n6⟩) fun h=>(F6 b u h).1) hB;have SB:=rC o6 hS hB;have o7:=vD (c:=c) (dx:=dx) (fs:=ao "behind" (.ref aB) (ao "last" (.ref aE) (ao "prefix" (.ref aP) (ao "numbers" (.ref aN) (ao "rows" (.ref aR) (ao "letters" (.ref D) [])))))) (o:=.lst []) o6 rE SB;generalize(upd (upd H6 aB (.lst [])) p (.ins c dx (ao "behind" (.ref aB) (ao "last" (.ref aE) (ao "prefix" (.ref aP) (ao "numbers" (.ref aN) (ao "rows" (.ref aR) (ao "letters" (.ref D) []))))))))=H7 at p7 r7 F7 o7;refine fun aK hK=>?_
  refine⟨_,rfl,p,c,dx,_,rfl,(by rw[au (aV p7 hK)];exact p7),T.cl,T.nK,(by show 6<1000;decide),?_⟩;obtain⟨p8,r8,n8,F8⟩:=vC (o:=.dK []) (f:="known") (F:=fun b u=>(b=aB/\u=.lst [])\/((b=aE/\u=.lst [])\/((b=aP/\u=.lst [])\/((b=aN/\u=.dT [])\/((b=aR/\u=.lst [])\/((b=D/\u=.lst (bj.map V.ref))\/∃i,bj[i]?=some b/\u=.lst (aq (letterMap (WA.aW q k l) i)))))))) p7 (fun b u h=>h.elim (fun⟨h1,h2⟩=>by rw[h1,h2];exact⟨r7,n7⟩) fun h=>(F7 b u h).1) hK;have SK:=rC o7 hS hK;have hK0:H aK=none:=o7.2 aK hK;have o8':=vD (c:=c) (dx:=dx) (fs:=ao "known" (.ref aK) (ao "behind" (.ref aB) (ao "last" (.ref aE) (ao "prefix" (.ref aP) (ao "numbers" (.ref aN) (ao "rows" (.ref aR) (ao "letters" (.ref D) []))))))) (o:=.dK []) o7 rE SK;generalize(upd (upd H7 aK (.dK [])) p (.ins c dx (ao "known" (.ref aK) (ao "behind" (.ref aB) (ao "last" (.ref aE) (ao "prefix" (.ref aP) (ao "numbers" (.ref aN) (ao "rows" (.ref aR) (ao "letters" (.ref D) [])))))))))=xT at p8 r8 F8 o8';have eq:q=((q.toNat:Nat):Int):=by omega
  have lk:∀m:Str,m≠"letters"->m≠"rows"->m≠"numbers"->m≠"prefix"->m≠"last"->m≠"behind"->m≠"known"->(ao "known" (.ref aK) (ao "behind" (.ref aB) (ao "last" (.ref aE) (ao "prefix" (.ref aP) (ao "numbers" (.ref aN) (ao "rows" (.ref aR) (ao "letters" (V.ref D) []))))))).lookup m=none:=by
   intro m m1 m2 m3 m4 m5 m6 m7;rw[oY,if_neg m7,oY,if_neg m6,oY,if_neg m5,oY,if_neg m4,oY,if_neg m3,oY,if_neg m2,oY,if_neg m1];rfl
  have l1:(ao "known" (.ref aK) (ao "behind" (.ref aB) (ao "last" (.ref aE) (ao "prefix" (.ref aP) (ao "numbers" (.ref aN) (ao "rows" (.ref aR) (ao "letters" (V.ref D) []))))))).lookup ("letters":Str)=some (.ref D):=rfl;have l2:(ao "known" (.ref aK) (ao "behind" (.ref aB) (ao "last" (.ref aE) (ao "prefix" (.ref aP) (ao "numbers" (.ref aN) (ao "rows" (.ref aR) (ao "letters" (V.ref D) []))))))).lookup ("rows":Str)=some (.ref aR):=rfl;have l3:(ao "known" (.ref aK) (ao "behind" (.ref aB) (ao "last" (.ref aE) (ao "prefix" (.ref aP) (ao "numbers" (.ref aN) (ao "rows" (.ref aR) (ao "letters" (V.ref D) []))))))).lookup ("numbers":Str)=some (.ref aN):=rfl;have l4:(ao "known" (.ref aK) (ao "behind" (.ref aB) (ao "last" (.ref aE) (ao "prefix" (.ref aP) (ao "numbers" (.ref aN) (ao "rows" (.ref aR) (ao "letters" (V.ref D) []))))))).lookup ("prefix":Str)=some (.ref aP):=rfl;have l5:(ao "known" (.ref aK) (ao "behind" (.ref aB) (ao "last" (.ref aE) (ao "prefix" (.ref aP) (ao "numbers" (.ref aN) (ao "rows" (.ref aR) (ao "letters" (V.ref D) []))))))).lookup ("last":Str)=some (.ref aE):=rfl;have l6:(ao "known" (.ref aK) (ao "behind" (.ref aB) (ao "last" (.ref aE) (ao "prefix" (.ref aP) (ao "numbers" (.ref aN) (ao "rows" (.ref aR) (ao "letters" (V.ref D) []))))))).lookup ("behind":Str)=some (.ref aB):=rfl;have l7:(ao "known" (.ref aK) (ao "behind" (.ref aB) (ao "last" (.ref aE) (ao "prefix" (.ref aP) (ao "numbers" (.ref aN) (ao "rows" (.ref aR) (ao "letters" (V.ref D) []))))))).lookup ("known":Str)=some (.ref aK):=rfl;generalize(ao "known" (.ref aK) (ao "behind" (.ref aB) (ao "last" (.ref aE) (ao "prefix" (.ref aP) (ao "numbers" (.ref aN) (ao "rows" (.ref aR) (ao "letters" (V.ref D) [])))))))=fs at p8 lk l1 l2 l3 l4 l5 l6 l7;have fB:=F8 aB (.lst []) (.inl ⟨rfl,rfl⟩);have fE:=F8 aE (.lst []) (.inr (.inl ⟨rfl,rfl⟩));have fP:=F8 aP (.lst []) (.inr (.inr (.inl ⟨rfl,rfl⟩)));have fN:=F8 aN (.dT []) (.inr (.inr (.inr (.inl ⟨rfl,rfl⟩))));have fR:=F8 aR (.lst []) (.inr (.inr (.inr (.inr (.inl ⟨rfl,rfl⟩)))));have fD:=F8 D (.lst (bj.map V.ref)) (.inr (.inr (.inr (.inr (.inr (.inl ⟨rfl,rfl⟩))))));have fL:=fun(i:Nat)(x:Addr)(hx:bj[i]?=some x)=>F8 x (.lst (aq (letterMap (WA.aW q k l) i))) (.inr (.inr (.inr (.inr (.inr (.inr ⟨i,hx,rfl⟩))))))
  have SJ:=(F7 aE (.lst []) (.inl ⟨rfl,rfl⟩)).2;have PB:=(F7 aP (.lst []) (.inr (.inl ⟨rfl,rfl⟩))).2;have RB:=(F7 aR (.lst []) (.inr (.inr (.inr (.inl ⟨rfl,rfl⟩))))).2;have DB:=(F7 D (.lst (bj.map V.ref)) (.inr (.inr (.inr (.inr (.inl ⟨rfl,rfl⟩)))))).2;have LB:=fun(i:Nat)(x:Addr)(hx:bj[i]?=some x)=>(F7 x (.lst (aq (letterMap (WA.aW q k l) i))) (.inr (.inr (.inr (.inr (.inr ⟨i,hx,rfl⟩)))))).2
  have Jj:=(F6 aP (.lst []) (.inl ⟨rfl,rfl⟩)).2;have RE:=(F6 aR (.lst []) (.inr (.inr (.inl ⟨rfl,rfl⟩)))).2;have DE:=(F6 D (.lst (bj.map V.ref)) (.inr (.inr (.inr (.inl ⟨rfl,rfl⟩))))).2;have LE:=fun(i:Nat)(x:Addr)(hx:bj[i]?=some x)=>(F6 x (.lst (aq (letterMap (WA.aW q k l) i))) (.inr (.inr (.inr (.inr ⟨i,hx,rfl⟩))))).2
  have RP:=(F5 aR (.lst []) (.inr (.inl ⟨rfl,rfl⟩))).2;have DP:=(F5 D (.lst (bj.map V.ref)) (.inr (.inr (.inl ⟨rfl,rfl⟩)))).2;have LP:=fun(i:Nat)(x:Addr)(hx:bj[i]?=some x)=>(F5 x (.lst (aq (letterMap (WA.aW q k l) i))) (.inr (.inr (.inr ⟨i,hx,rfl⟩)))).2
  have DR:=(F3 D (.lst (bj.map V.ref)) (.inl ⟨rfl,rfl⟩)).2;have LR:=fun(i:Nat)(x:Addr)(hx:bj[i]?=some x)=>(F3 x (.lst (aq (letterMap (WA.aW q k l) i))) (.inr ⟨i,hx,rfl⟩)).2
  refine⟨_,rfl,p,dx,fs,rfl,p8,lk _ (by decide +kernel) (by decide +kernel) (by decide +kernel) (by decide +kernel) (by decide +kernel) (by decide +kernel) (by decide +kernel),?_⟩;refine⟨_,rfl,q,rfl,fun rg Jk=>?_⟩;refine⟨rg,q.toNat,rfl,by rw[aC,<-eq],by omega,fun tt htt=>?_⟩;have s8:Same xT (upd (upd xT rg (.rng 0 q)) tt (.tup ((atU q.toNat).map fun(i:Nat)=>V.int (i:Int)))):=Same.new (Same.laid Jk) (Same.free (Same.laid Jk) htt);have aeE:S tt:=rC o8' hS (Same.free (Same.laid (o:=.rng 0 q) Jk) htt);have htup:(upd (upd xT rg (.rng 0 q)) tt (.tup ((atU q.toNat).map fun(i:Nat)=>V.int (i:Int)))) tt=some (.tup (aq (atU q.toNat))):=aC;have o8:Out S H (upd (upd xT rg (.rng 0 q)) tt (.tup ((atU q.toNat).map fun(i:Nat)=>V.int (i:Int)))):=o8'.trans (Out.same s8);generalize(upd (upd xT rg (.rng 0 q)) tt (.tup ((atU q.toNat).map fun(i:Nat)=>V.int (i:Int))))=H8 at s8 htup o8;refine⟨p,dx,tt,aR,aN,aP,aE,fs,.non,.non,[],[],[],[],kM (atU q.toNat),rfl,s8 _ _ p8,l2,l3,l4,l5,s8 _ _ fR.1.1,s8 _ _ fN.1.1,s8 _ _ fP.1.1,s8 _ _ fE.1.1,by rw[rA];exact htup,Ne.symm RP,Ne.symm RE,Ne.symm Jj,by simp,by simp,by simp,by simp,fun z=>by simp at z,fun _=>?_⟩;have NR:aN≠aR:=bx (s8 _ _ fN.1.1) (s8 _ _ fR.1.1) (by intro q;cases q);have PN:aP≠aN:=bx (s8 _ _ fP.1.1) (s8 _ _ fN.1.1) (by intro q;cases q);have EN:aE≠aN:=bx (s8 _ _ fE.1.1) (s8 _ _ fN.1.1) (by intro q;cases q);have Jl:∀{b:Addr}{ys:List V},H8 b=some (.lst ys)->b≠aN:=fun h=>bx h (s8 _ _ fN.1.1) (by intro q;cases q)
  obtain⟨S',eS'⟩:∃S':Addr->Prop,S'=fun b=>S b/\b≠aK:=⟨_,rfl⟩
  have hK8:(kept ⟨p,dx,D,aR,aN,aP,aE,aB,aK,fs⟩ H8 tt [] [] (kM (atU q.toNat)) [] [] .non .non) aK=some (.dK []):=(jC (L:=⟨p,dx,D,aR,aN,aP,aE,aB,aK,fs⟩) (Ne.symm fR.2) (Ne.symm fN.2) (Ne.symm fP.2) (Ne.symm fE.2)).trans (s8 _ _ r8);have A0:cX c S' (kept ⟨p,dx,D,aR,aN,aP,aE,aB,aK,fs⟩ H8 tt [] [] (kM (atU q.toNat)) [] [] .non .non) ⟨p,dx,D,aR,aN,aP,aE,aB,aK,fs⟩ (WA.aW q k l) [([],atU q.toNat)] 0:=by
   rw[eS'];refine⟨?_,l1,l2,l3,l4,l5,l6,l7,lk,⟨bj,?_,g2,fun b x hx=>?_⟩,⟨[tt],?_,rfl,fun i x hx=>?_⟩,?_,⟨[.non],[.non],?_,?_,rfl,rfl,fun i h0 hi=>?_⟩,⟨[],?_,rfl,fun i x hx=>?_⟩,⟨⟨DR,DP,DE,DB⟩,Ne.symm RP,Ne.symm RE,Ne.symm Jj,Ne.symm RB,Ne.symm PB,Ne.symm SJ⟩,⟨⟨rE,n8.symm⟩,⟨hSD,fD.2⟩,⟨SR,fR.2⟩,⟨SN,fN.2⟩,⟨Ji,fP.2⟩,⟨SE,fE.2⟩,⟨SB,fB.2⟩⟩,Sx,WA.acy,aul _,by simp⟩
   ·exact(jC (L:=⟨p,dx,D,aR,aN,aP,aE,aB,aK,fs⟩) n3.symm n4.symm n5.symm n6.symm).trans (s8 _ _ p8)
   ·exact(jC (L:=⟨p,dx,D,aR,aN,aP,aE,aB,aK,fs⟩) DR (Jl (s8 _ _ fD.1.1)) DP DE).trans (s8 _ _ fD.1.1)
   ·have h1:=s8 _ _ (fL b x hx).1.1;exact⟨(jC (L:=⟨p,dx,D,aR,aN,aP,aE,aB,aK,fs⟩) (LR b x hx) (Jl h1) (LP b x hx) (LE b x hx)).trans h1,⟨hS x (g3 b x hx).2.1,(fL b x hx).2⟩,LR b x hx,LP b x hx,LE b x hx,LB b x hx⟩
   ·show(kept _ _ _ _ _ _ _ _ _ _) aR=_;unfold kept;rw[au RE,au RP,au (Ne.symm NR),aC];rfl
   ·match i,hx with
    |0,hx=>
     have e:tt=x:=aub hx;subst e;refine⟨?_,aeE,bx htup (s8 _ _ r8) (by intro q;cases q)⟩;have nt:∀{b:Addr}{ys:List V},H8 b=some (.lst ys)->tt≠b:=fun h=>bx htup h (by intro q;cases q)
     exact(jC (L:=⟨p,dx,D,aR,aN,aP,aE,aB,aK,fs⟩) (nt (s8 _ _ fR.1.1)) (bx htup (s8 _ _ fN.1.1) (by intro q;cases q)) (nt (s8 _ _ fP.1.1)) (nt (s8 _ _ fE.1.1))).trans htup
    |i+1,hx=>simp at hx
   ·show(kept _ _ _ _ _ _ _ _ _ _) aN=_;unfold kept;rw[au (Ne.symm EN),au (Ne.symm PN),aC];rfl
   ·show(kept _ _ _ _ _ _ _ _ _ _) aP=_;unfold kept;rw[au Jj,aC];rfl
   ·show(kept _ _ _ _ _ _ _ _ _ _) aE=_;unfold kept;rw[aC];rfl
   ·simp at hi;omega
   ·exact(jC (L:=⟨p,dx,D,aR,aN,aP,aE,aB,aK,fs⟩) (Ne.symm RB) (Jl (s8 _ _ fB.1.1)) (Ne.symm PB) (Ne.symm SJ)).trans (s8 _ _ fB.1.1)
   ·simp at hx
  have o9:Out S H (kept ⟨p,dx,D,aR,aN,aP,aE,aB,aK,fs⟩ H8 tt [] [] (kM (atU q.toNat)) [] [] .non .non):=(((o8.upd SR).upd SN).upd Ji).upd SE;refine⟨fun m σ H'=>∃(L:Lay)(ls:List WM)(nb:Nat),m=5000-nb/\L.p=p/\L.aK=aK/\σ=start ["self","q","k","step","a"] [.ref p,.int q,.int k,.ref a]/\cX c S' H' L (WA.aW q k l) ls nb/\elements (WA.aW q k l)=WA.nM (WA.aW q k l) (5000-nb) nb ls/\Out S H H'/\H' aK=some (.dK []),
   ⟨5000,_,_,0,rfl,rfl,rfl,rfl,A0,WA.acs _,o9,hK8⟩,?_⟩
  rintro m σ H' ⟨L,ls,nb,rfl,rfl,eK,rfl,AA,hel,oo,hKK⟩;obtain⟨cN,d1,d2,d3⟩:=AA.cN;obtain⟨ras,b1,b2,b3⟩:=AA.ras;have lm:=AA.most;have nm:=AA.tV;refine⟨_,rfl,L.p,c,L.dx,L.fs,_,rfl,AA.ins,T.cl,T.nB,AA.lB,L.aB,_,rfl,.inl (ak.of d1),_,rfl,L.p,c,L.dx,L.fs,_,rfl,AA.ins,T.cl,T.nR,AA.lR,L.aR,_,rfl,.inl (ak.of b1),_,_,rfl,rfl,_,rfl,?_⟩;rw[atR,atR,d2,b2];refine eY (fun hlt=>?_) (fun hnlt=>?_)
  ·have hlt:nb<ls.length:=by have:=of_decide_eq_true hlt;omega
   have hx:=atY hlt;have ef:5000-nb=(5000- (nb+1))+1:=by omega
   rw[ef] at hel;unfold WA.nM at hel;rw[hx] at hel;dsimp only at hel;refine⟨fun σ' cH=>∃(ls':List WM),σ'=start ["self","q","k","step","a"] [.ref L.p,.int q,.int k,.ref a]/\cX c S' cH L (WA.aW q k l) ls' (nb+1)/\elements (WA.aW q k l)=WA.nM (WA.aW q k l) (5000- (nb+1)) (nb+1) ls'/\Out S H cH/\cH aK=some (.dK []),fun σ' cH ⟨ls',h1,h2,h3,h4,h5⟩=>⟨5000- (nb+1),by omega,L,ls',nb+1,rfl,rfl,eK,h1,h2,h3,h4,h5⟩,?_⟩;refine⟨_,rfl,L.p,c,L.dx,L.fs,_,rfl,AA.ins,T.cl,T.nB,AA.lB,.inl ⟨rfl,_,ak.of d1⟩,?_⟩;refine⟨_,rfl,L.p,L.dx,L.fs,rfl,AA.ins,AA.lM _ (by decide +kernel) (by decide +kernel) (by decide +kernel) (by decide +kernel) (by decide +kernel) (by decide +kernel) (by decide +kernel),?_⟩;refine⟨_,rfl,L.p,c,L.dx,L.fs,_,rfl,AA.ins,T.cl,T.nB,AA.lB,L.aB,_,rfl,.inl (ak.of d1),?_⟩;rw[atR,d2];have weak:∀{H1 H2:Hp},Out S' H1 H2->Out S H1 H2:=fun o=>⟨fun b u nb e=>o.1 b u (fun z=>nb (by rw[eS'] at z;exact z.1)) e,o.2⟩
   have nSK:¬S' aK:=by rw[eS'];exact fun z=>z.2 rfl
   refine⟨S',L,WA.aW q k l,ls,nb,_,rfl,AA,hx,fun b hb=>by rw[eS'];exact⟨hS b (oo.2 b hb),(aV hKK hb).symm⟩,fun hle cH r row B hrow aeH hSr n1 n2 n3 n4 Br=>?_,fun hgt cH Br=>?_⟩
   ·rw[if_neg (show¬MOST<_ from by show¬4096<_;omega)] at hel;obtain⟨amU,e1,e2,e3⟩:=B.cN;refine⟨L.aB,_,_,rfl,rfl,e1,by rw[atR,e2];exact cP (by omega),_,rfl,?_,hel,(oo.trans (weak Br)).upd (by have:=AA.own.2.2.2.2.2.2;rw[eS'] at this;exact this.1),?_⟩
    ·exact B.row (auG hlt (WA.acx ..)) e1 hrow aeH hSr n1 n2 n3 n4
    ·have:=AA.own.2.2.2.2.2.2;rw[eS'] at this;rw[au (Ne.symm this.2)];exact Br.1 aK _ nSK hKK
   ·rw[if_pos (show MOST<_ from hgt)] at hel;exact km ok (by rw[hel];exact hgt) cH (oo.trans (weak Br))
  ·have hnb:nb=ls.length:=by
    have:¬((nb:Int)<(ls.length:Int)):=fun z=>hnlt (decide_eq_true z)
    omega
   have e:elements (WA.aW q k l)=ls:=by
    rw[hel,show 5000-nb=(4999-nb)+1 by omega];unfold WA.nM;rw[auY (by omega)]
   refine ky ok (by rw[e];exact lm) H' L rfl ?_ oo (by rw[eK];exact hKK) (by rw[eK];exact hK0);rw[e];rw[hnb] at AA;exact AA.mono fun b o _ z=>by rw[eS'] at z;exact z.1
end
open WA (ix pr mapOf)
abbrev Full(c:Addr)(S:Addr->Prop)(H:Hp)(L:Lay)(M:Machine)(l:List WM):Prop:=cX c S H L M l l.length
theorem Full.begun{c:Addr}{S:Addr->Prop}{H:Hp}{L:Lay}{M:Machine}{l:List WM}(A:Full c S H L M l):aQ M l:=by
 refine⟨A.good,A.grown,fun i a ha x hx=>?_,A.most⟩;obtain⟨cN,d1,d2,d3⟩:=A.cN;have hi:i<l.length:=(at9.mp hx).1;obtain⟨_,row,_,hR⟩:=d3 i _ (atY (by rw[d2];exact hi));obtain⟨h1,h2⟩:=hR.2 a ha;exact⟨row.getD a 0,l[row.getD a 0],atY h1,by rw[<-gU (atY h1),h2,gU hx]⟩
def iQ(l:List WM)(z:Int):Prop:=0<=z/\z<l.length
section
variable{P:Program}{w:World}{K:atQ}{mg:Str->Option Value}{base:Heap}
def Bs(c cR:Addr):Sp:=fun vs H Q E=>∃(S:Addr->Prop)(L:Lay)(M:Machine)(l:List WM)(z:Int),vs=[.ref L.p,.int z]/\Full c S H L M l/\(iQ l z->Q .non H)/\(¬iQ l z->E (.ref cR) none H)
theorem aeI:bR ["self","e"] ["self","e"] (aU vq):=⟨rfl,rfl,rfl,by decide +kernel,rfl,by decide +kernel,by decide +kernel⟩
theorem Jm{f c cR cM:Addr}{fd:FuncData}(F:aY K "check" "Algebra.check" vq f fd)(T:TA K c)(X:Txt K mg cR cM):aJ P w K mg base (aX P w) 1 f fd ["self","e"] (Bs c cR):=by
 refine F.eE aeI (fun vs H Q E h=>?_) (fun cdv A outer s H vs Q E hr h=>?_)
 ·obtain⟨S,L,M,l,z,rfl,_⟩:=h;rfl
 ·obtain⟨S,L,M,l,z,rfl,AA,ky,kn⟩:=h;obtain⟨ras,b1,b2,b3⟩:=AA.ras;refine⟨_,aH (cZ (PW.pt (uE (cF uI (pv 1) bW (bY _)) (DG (cF wF (pv 1) (dU jb rfl X.len auL (aj (bh (pv 0) rfl) aA)) (bY _)))))
   (aH (qP (E:=E) rfl qN rfl X.mR X.eR)) dm),?_⟩
  refine⟨_,rfl,_,_,rfl,rfl,_,rfl,eY (fun d=>gZ (kn fun z=>?_)) (fun d=>?_)⟩
  ·have:=of_decide_eq_true d;have:=z.1;omega
  refine⟨_,rfl,_,rfl,L.p,c,L.dx,L.fs,_,rfl,AA.ins,T.cl,T.nR,AA.lR,L.aR,_,rfl,.inl (ak.of b1),_,_,rfl,rfl,_,rfl,?_⟩;rw[atR,b2];refine eY (fun d2=>kn fun z=>?_) (fun d2=>ky ?_)
  ·have:=of_decide_eq_true d2;have:=z.2;omega
  ·simp only[decide_eq_true_eq] at d d2;exact⟨by omega,by omega⟩
def Bt(c:Addr):Sp:=fun vs H Q _=>∃(S:Addr->Prop)(L:Lay)(M:Machine)(l:List WM),vs=[.ref L.p]/\Full c S H L M l/\Q (nv l.length) H
theorem aeJ:bR ["self"] ["self"] (aU Ax):=⟨rfl,rfl,rfl,by decide +kernel,rfl,by decide +kernel,by decide +kernel⟩
theorem SM{f c cR cM:Addr}{fd:FuncData}(F:aY K "size" "Algebra.size" Ax f fd)(T:TA K c)(X:Txt K mg cR cM):aJ P w K mg base aZ 1 f fd ["self"] (Bt c):=by
 refine F.ok aeJ (fun vs H Q E h=>?_) (fun cdv A outer s H vs Q E hr h=>?_)
 ·obtain⟨S,L,M,l,rfl,_⟩:=h;rfl
 ·obtain⟨S,L,M,l,rfl,AA,k⟩:=h;obtain⟨ras,b1,b2,b3⟩:=AA.ras;refine⟨_,aH (bz (dU jb rfl X.len auL (aj (bh (pv 0) rfl) aA))),?_⟩;refine⟨_,rfl,L.p,c,L.dx,L.fs,_,rfl,AA.ins,T.cl,T.nR,AA.lR,L.aR,_,rfl,.inl (ak.of b1),?_⟩;rw[atR,b2];exact k
def SQ(K:atQ)(c cR:Addr):Sp:=fun vs H Q E=>∃(S:Addr->Prop)(L:Lay)(M:Machine)(l:List WM)(a:Addr)(ws:List Int),vs=[.ref L.p,.ref a]/\Full c S H L M l/\ak K H a (ws.map V.int)/\ws.length<=65536/\(∀z,z∈ws->0<=z)/\
 ((∀z,z∈ws->z<M.k)->Q (nv (ix l (mapOf M (auv ws)))) H)/\((∃z,z∈ws/\(M.k:Int)<=z)->E (.ref cR) none H)
theorem xU:bR ["self","word","k","e","letter"] ["self","word"] (aU HS):=⟨rfl,rfl,rfl,by decide +kernel,rfl,by decide +kernel,by decide +kernel⟩
theorem aeK{f c cR cM:Addr}{fd:FuncData}(F:aY K "of" "Algebra.of" HS f fd)(T:TA K c)(X:Txt K mg cR cM):aJ P w K mg base (aX P w) 1 f fd ["self","word"] (SQ K c cR):=by
 obtain⟨t1,h1⟩:=X.ad6;refine F.eE xU (fun vs H Q E h=>?_) (fun cdv A outer s H vs Q E hr h=>?_)
 ·obtain⟨S,L,M,l,a,ws,rfl,_⟩:=h;rfl
 ·obtain⟨S,L,M,l,a,ws,rfl,AA,ha,hl,h0,ky,kn⟩:=h;have BB:=AA.begun;obtain⟨bj,a1,a2,a3⟩:=AA.bj;obtain⟨cN,d1,d2,d3⟩:=AA.cN;refine⟨_,aD (cZ (cF wD (dU jb rfl X.len auL (aj (pv 1) aA)) (dz (v:=.int 65536) rfl h1 ⟨_,rfl⟩) (bY _)) (aH (qP (E:=E) rfl qN rfl X.mR X.eR)) dm)
   (aD (bf (i:=2) xU.nd rfl (atV rfl) (dU jb rfl X.len auL (aj (bh (pv 0) rfl) aA)))
   (aD (bf (i:=3) xU.nd rfl (atV rfl) bW)
   (aD (ni qO rfl (gW (pv 1)) (dF (i:=4) xU.nd rfl (atV rfl))
    (aD (cZ (cF wF (pv 4) (pv 2) (bY _)) (aH (qP (E:=E) rfl qN rfl X.mR X.eR)) dm)
    (aH (bf (i:=3) xU.nd rfl (atV rfl) (dN eF (dN eF (bh (pv 0) rfl) (pv 3) (fun _ _=>rfl)) (pv 4) (fun _ _=>rfl))))))
   (aH (bz (pv 3)))))),?_⟩
  refine⟨_,rfl,a,_,rfl,.inl ha,_,_,rfl,rfl,_,rfl,eY (fun d=>?_) (fun _=>?_)⟩
  ·have:=of_decide_eq_true d;rw[atR] at this;omega
  refine⟨_,rfl,L.p,c,L.dx,L.fs,_,rfl,AA.ins,T.cl,T.nL,AA.lL,L.aL,_,rfl,.inl (ak.of a1),?_⟩;rw[atR,a2];refine⟨_,rfl,a,rfl,⟨_,ha⟩,sJ (K:=K) (a:=a) (xs:=ws.map V.int) (fun i σ H'=>H'=H/\(∀z,z∈ws.take i->z<M.k)/\∃v:Option V,σ=[some (.ref L.p),some (.ref a),some (nv M.k),some (nv (ix l (mapOf M (auv (ws.take i))))),v])
   ⟨rfl,fun z hz=>by simp at hz,none,?_⟩ (fun i σ H' _ q=>by rw[q.1];exact ha) ?_ ?_⟩
  ·have e:ix l (mapOf M (auv (ws.take 0)))=0:=WA.xn BB BB.pos BB.tM;rw[e];rfl
  ·rintro i y σ H' hi ⟨rfl,hz,v,rfl⟩;obtain⟨z,Jo,rfl⟩:∃z,ws[i]?=some z/\y=V.int z:=by
    rw[aui] at hi;cases q:ws[i]? with
    |none=>rw[q] at hi;cases hi
    |some z=>rw[q] at hi;exact⟨z,rfl,(aub hi).symm⟩
   have zm:z∈ws:=auI Jo;refine⟨_,rfl,_,rfl,_,_,rfl,rfl,_,rfl,eY (fun d=>?_) (fun d=>?_)⟩
   ·exact kn ⟨z,zm,of_decide_eq_true d⟩
   have zk:z<(M.k:Int):=by
    simp only[decide_eq_true_eq] at d;omega
   have z0:=h0 z zm;obtain⟨zn,rfl⟩:=avb z0;have hw:∀b,b∈auv (ws.take i)->b<M.k:=fun b hb=>by
    obtain⟨u,hu,rfl⟩:=at6.mp hb;have:=hz u hu;have:=h0 u (List.mem_of_mem_take hu);omega
   obtain⟨e1,e2⟩:=WA.acE BB hw (show zn<M.k by omega);obtain⟨⟨g1,g2⟩,row,g6,g7⟩:=d3 (ix l (mapOf M (auv (ws.take i)))) _ (atY (by rw[d2];exact e1));have hrow:row.getD zn 0=ix l (mapOf M (auv (ws.take (i+1)))):=by
    obtain⟨r1,r2⟩:=g7.2 zn (by omega);have e3:auv (ws.take (i+1))=auv (ws.take i)++[zn]:=by
     rw[auK,Jo];simp[auv]
    rw[e3,e2];refine BB.inj r1 (WA.fV BB e1 (WA.d8 BB (show zn<M.k by omega)).1).1 ?_;rw[r2,WA.z7 BB e1 (by omega)]
   refine⟨_,rfl,L.p,c,L.dx,L.fs,_,rfl,AA.ins,T.cl,T.nB,AA.lB,_,rfl,L.aB,_,_,_,rfl,rfl,ak.of d1,cO rfl (by rw[aui,atY (by rw[d2];exact e1)];rfl),_,rfl,_,_,_,_,rfl,rfl,ak.of g6,cO rfl (kh (by rw[g7.1];omega)),?_⟩;refine⟨rfl,fun u hu=>?_,_,by rw[hrow];rfl⟩;rw[auK,Jo] at hu;rcases aus.mp hu with hu|hu
   ·exact hz u hu
   ·simp at hu;subst hu;exact zk
  ·rintro σ H' ⟨rfl,hz,v,rfl⟩;rw[atR,auX] at hz⊢;exact⟨_,rfl,ky hz⟩
end
open WA (pw nQ)
section
variable{P:Program}{w:World}{K:atQ}{mg:Str->Option Value}{base:Heap}
theorem Bu{l:List WM}{z:Int}(h:iQ l z):∃e:Nat,z=(e:Int)/\e<l.length:=by
 obtain⟨e,rfl⟩:=avb h.1;have:=h.2;exact⟨e,rfl,by omega⟩
def SX(c cR:Addr):Sp:=fun vs H Q E=>∃(S:Addr->Prop)(L:Lay)(M:Machine)(l:List WM)(z:Int),vs=[.ref L.p,.int z]/\Full c S H L M l/\
 (iQ l z->∀(H':Hp)(r:Addr),H r=none->H' r=some (.lst (aq (wd l z.toNat)))->Same H H'->Q (.ref r) H')/\(¬iQ l z->E (.ref cR) none H)
theorem Jp:bR ["self","e","letters"] ["self","e"] (aU HW):=⟨rfl,rfl,rfl,by decide +kernel,rfl,by decide +kernel,by decide +kernel⟩
theorem S5{M:Machine}{l:List WM}(B:aQ M l):∀e,e<l.length->(wd l e).length<=e:=by
 intro e
 induction e using avU with
 |_ e ih=>
  intro he;by_cases h0:e=0
  ·subst h0;rw[B.QZ];simp
  ·obtain⟨j,a,h1,h2,h3,h4⟩:=WA.xq B (by omega) he;have:=ih j h1 (by omega);rw[h3,aud];simp only[auH,avE];omega
theorem aeL{f my c cR cM:Addr}{fd mz:FuncData}(F:aY K "word" "Algebra.word" HW f fd)(T:TA K c)(X:Txt K mg cR cM)
  (vG:aY K "check" "Algebra.check" vq my mz) (tZ:Binds K mz ["self","e"] []) (uc:Meth K c "check" my):aJ P w K mg base (aX P w) 2 f fd ["self","e"] (SX c cR):=by
 have vH:aJ P w K mg base (aX P w) 1 my mz ["self","e"] (Bs c cR):=Jm vG T X;refine F.eE Jp (fun vs H Q E h=>?_) (fun cdv A outer s H vs Q E hr h=>?_)
 ·obtain⟨S,L,M,l,z,rfl,_⟩:=h;rfl
 ·obtain⟨S,L,M,l,z,rfl,AA,ky,kn⟩:=h;have BB:=AA.begun;refine⟨_,aD (dY (dZ (pv 0) T.cl uc vH hr tZ .nil cG (aj (pv 1) aA)))
   (aD (bf (i:=2) Jp.nd rfl (atV rfl) (dD aA))
   (aD (qF qO (cF Ek (pv 1) bW (bY _))
    (aD (dY (ju auB auW au4 jX (pv 2) (aj (dN eF (bh (pv 0) rfl) (pv 1) (fun _ _=>rfl)) aA)))
    (aH (bf (i:=1) Jp.nd rfl (atV rfl) (dN eF (bh (pv 0) rfl) (pv 1) (fun _ _=>rfl))))))
   (aD (dY (sW auB ax6 PySem.F.type_list_reverse Zh (pv 2)))
   (aH (bz (pv 2)))))),?_⟩
  refine⟨_,rfl,L.p,L.dx,L.fs,rfl,AA.ins,AA.lM _ (by decide +kernel) (by decide +kernel) (by decide +kernel) (by decide +kernel) (by decide +kernel) (by decide +kernel) (by decide +kernel),_,rfl,S,L,M,l,z,rfl,AA,fun hz=>?_,kn⟩;obtain⟨e0,rfl,S6⟩:=Bu hz;have ky:=ky hz;rw[auh] at ky;refine⟨aul _,fun r hr=>?_⟩;have A1:Full c (fun b=>S b/\b≠r) (upd H r (.lst [])) L M l:=(AA.mono fun b o hb hs=>⟨hs,aV hb hr⟩).skip fun z=>z.2 rfl
  refine⟨fun m σ H'=>∃(e:Nat)(suf:List Nat),m=e/\e<l.length/\σ=[some (.ref L.p),some (nv e),some (.ref r)]/\Full c (fun b=>S b/\b≠r) H' L M l/\H' r=some (.lst (aq suf.reverse))/\wd l e0=wd l e++suf/\Same H H',
   ⟨e0,e0,[],rfl,S6,rfl,A1,aC,by simp,Same.laid hr⟩,?_⟩
  rintro e σ H' ⟨_,suf,rfl,he,rfl,A2,hR,hw,s2⟩;have hsl:suf.length<=4096:=by
   have h1:=congrArg avq hw;rw[aud] at h1;have h2:=S5 BB e0 S6;have:=AA.most;omega
  refine⟨_,rfl,rfl,_,rfl,eY (fun d=>?_) (fun d=>?_)⟩
  ·have ne0:e≠0:=fun z=>by
    subst z;simp at d
   obtain⟨ps,es,c1,c2,c3,c4,c5⟩:=A2.oE;obtain⟨j,a,j1,j2,j3,j4⟩:=c5 e (by omega) he;refine⟨fun σ' cH=>∃(e':Nat)(suf:List Nat),e'<e/\σ'=[some (.ref L.p),some (nv e'),some (.ref r)]/\Full c (fun b=>S b/\b≠r) cH L M l/\cH r=some (.lst (aq suf.reverse))/\wd l e0=wd l e'++suf/\Same H cH,fun σ' cH ⟨e',suf,h1,h2,h3,h4,h5,h6⟩=>⟨e',h1,e',suf,rfl,by omega,h2,h3,h4,h5,h6⟩,?_⟩;refine⟨_,rfl,.inl ⟨rfl,_,ak.of hR⟩,?_⟩;refine⟨_,rfl,L.p,c,L.dx,L.fs,_,rfl,A2.ins,T.cl,T.nE,A2.lE,_,rfl,L.aE,_,_,_,rfl,rfl,ak.of c2,cO rfl j3,r,_,_,rfl,rfl,hR,by rw[atR,awb];exact cP (by omega),?_⟩;have A3:Full c (fun b=>S b/\b≠r) (upd H' r (.lst (aq suf.reverse++[nv a]))) L M l:=A2.skip fun z=>z.2 rfl
   obtain⟨ps',es',c1',c2',_⟩:=A3.oE;have hP:(upd H' r (.lst (aq suf.reverse++[nv a]))) L.aP=some (.lst ps):=by rw[au A2.own.2.2.2.2.1.2];exact c1
   refine⟨_,rfl,L.p,c,L.dx,L.fs,_,rfl,A3.ins,T.cl,T.nP,A3.lP,_,rfl,L.aP,_,_,_,rfl,rfl,ak.of hP,cO rfl j2,?_⟩;refine⟨j,a::suf,j1,rfl,A3,?_,?_,Same.new s2 hr⟩
   ·rw[aC,avO,xR]
   ·rw[hw,j4];simp
  ·have e1:e=0:=by
    simp at d;omega
   subst e1;rw[BB.QZ,axl] at hw;refine⟨_,rfl,.inl ⟨rfl,_,ak.of hR⟩,r,_,rfl,rfl,hR,?_⟩;refine⟨_,rfl,ky _ r hr ?_ (Same.new s2 hr)⟩;rw[aC,hw,<-List.map_reverse,List.reverse_reverse]
def Jq(c cR:Addr):Sp:=fun vs H Q E=>∃(S:Addr->Prop)(L:Lay)(M:Machine)(l:List WM)(y z:Int),vs=[.ref L.p,.int y,.int z]/\Full c S H L M l/\
 (iQ l y->iQ l z->∀(H':Hp),Same H H'->Q (nv (pr l y.toNat z.toNat)) H')/\(¬(iQ l y/\iQ l z)->E (.ref cR) none H)
theorem aeM:bR ["self","a","b"] ["self","a","b"] (aU xK):=⟨rfl,rfl,rfl,by decide +kernel,rfl,by decide +kernel,by decide +kernel⟩
theorem S7{f my fC c cR cM:Addr}{fd mz dX:FuncData}(F:aY K "product" "Algebra.product" xK f fd)(T:TA K c)(X:Txt K mg cR cM)
  (FC:aY K "compose" "compose" oA fC dX) (bC:Binds K dX ["first","second"] []) (mC:mg "compose"=some (.ref fC))
  (vG:aY K "check" "Algebra.check" vq my mz) (tZ:Binds K mz ["self","e"] []) (uc:Meth K c "check" my):aJ P w K mg base (aX P w) 2 f fd ["self","a","b"] (Jq c cR):=by
 have GC:aJ P w K mg base aZ 1 fC dX ["first","second"] (vz K):=Ja FC X;have vH:aJ P w K mg base (aX P w) 1 my mz ["self","e"] (Bs c cR):=Jm vG T X;refine F.eE aeM (fun vs H Q E h=>?_) (fun cdv A outer s H vs Q E hr h=>?_)
 ·obtain⟨S,L,M,l,y,z,rfl,_⟩:=h;rfl
 ·obtain⟨S,L,M,l,y,z,rfl,AA,ky,kn⟩:=h;have BB:=AA.begun;have hu:(fG (aX P w) P w K mg base ["self","a","b"] "Algebra.product" (aU xK) f cdv A outer s H E).A.units+1<cLine:=by have:=hr.un;show(A.deeper _).units+1<cLine;omega
  refine⟨_,aD (dY (dZ (pv 0) T.cl uc vH hr tZ .nil cG (aj (pv 1) aA)))
   (aD (dY (dZ (pv 0) T.cl uc vH hr tZ .nil cG (aj (pv 2) aA)))
   (aH (bz (wQ hu (bh (pv 0) rfl) (cu GC hr rfl mC FC.kp bC .nil bA (aj (dN eF (bh (pv 0) rfl) (pv 1) (fun _ _=>rfl)) (aj (dN eF (bh (pv 0) rfl) (pv 2) (fun _ _=>rfl)) aA))) (fun _ _=>rfl))))),?_⟩
  have nk:=AA.lM "check" (by decide +kernel) (by decide +kernel) (by decide +kernel) (by decide +kernel) (by decide +kernel) (by decide +kernel) (by decide +kernel);refine⟨_,rfl,L.p,L.dx,L.fs,rfl,AA.ins,nk,_,rfl,S,L,M,l,y,rfl,AA,fun hy=>?_,fun hy=>kn fun h=>hy h.1⟩;refine⟨_,rfl,L.p,L.dx,L.fs,rfl,AA.ins,nk,_,rfl,S,L,M,l,z,rfl,AA,fun hz=>?_,fun hz=>kn fun h=>hz h.2⟩;have ky:=ky hy hz;obtain⟨a,rfl,ha⟩:=Bu hy;obtain⟨b,rfl,hb⟩:=Bu hz;rw[auh,auh] at ky;obtain⟨ras,b1,b2,b3⟩:=AA.ras;obtain⟨ra,hra⟩:∃x,ras[a]?=some x:=⟨_,atY (by rw[b2];exact ha)⟩
  obtain⟨rb,hrb⟩:∃x,ras[b]?=some x:=⟨_,atY (by rw[b2];exact hb)⟩
  have jh:=BB.dB ha;have okb:=BB.dB hb;refine⟨_,rfl,L.p,c,L.dx,L.fs,_,rfl,AA.ins,T.cl,T.nN,AA.lN,?_⟩;refine⟨_,rfl,L.p,c,L.dx,L.fs,_,rfl,AA.ins,T.cl,T.nR,AA.lR,_,rfl,L.aR,_,_,_,rfl,rfl,ak.of b1,cO rfl (by rw[aui,hra];rfl),_,rfl,L.p,c,L.dx,L.fs,_,rfl,AA.ins,T.cl,T.nR,AA.lR,_,rfl,L.aR,_,_,_,rfl,rfl,ak.of b1,cO rfl (by rw[aui,hrb];rfl),?_⟩;refine⟨ra,rb,mp l a,mp l b,rfl,bB.of (b3 a ra hra).1,.inr (bB.of (b3 b rb hrb).1),fun x hx=>by rw[okb.len];exact jh.lt x hx,by rw[jh.len];have:=AA.good.2.1;omega,fun H2 rr hrr hup s2=>?_⟩;obtain⟨g1,g2⟩:=WA.fV BB ha hb;have hv:cB (numsOf l) (kM (then_ (mp l a) (mp l b)))=some (nv (pr l a b)):=by rw[<-g2];exact R4 AA.grown.nodup g1
  have hd:=fY.t (b:=rr) (k:=kM (then_ (mp l a) (mp l b))) ((AA.same s2).nums) (by rw[rA];exact hup);rw[hv] at hd;exact⟨L.aN,_,rfl,hd,ky H2 s2⟩
def gG(p:Nat->Nat->Nat)(e T:Nat):List (bc×V):=(atU T).map fun i=>(aur (pw p e (i+1):Int),nv (i+1))
theorem aeN(p:Nat->Nat->Nat)(e T:Nat):gG p e (T+1)=gG p e T++[(aur (pw p e (T+1):Int),nv (T+1))]:=by
 unfold gG;rw[avV,auO];rfl
theorem aeO{p:Nat->Nat->Nat}{e T:Nat}{x:Nat}(h:∀i,0<i->i<=T->pw p e i≠x):cB (gG p e T) (aur (x:Int))=none:=by
 unfold cB gG;rw[aw2];have q:(atU T).find? ((fun kv:bc×V=>decide (kv.1=aur (x:Int)))∘fun i=>(aur (pw p e (i+1):Int),nv (i+1)))=none:=by
  rw[axD];intro j hj;simp only[avS,avF,decide_eq_false_iff_not];intro z;have:=av5 z;exact h (j+1) (by omega) (by omega) (by omega)
 rw[q];rfl
theorem aeP{p:Nat->Nat->Nat}{e T f:Nat}(hd:∀i j,0<i->i<j->j<=T->pw p e i≠pw p e j)(h0:0<f)(hf:f<=T):cB (gG p e T) (aur (pw p e f:Int))=some (nv f):=by
 unfold cB gG;rw[aw2];have q:(atU T).find? ((fun kv:bc×V=>decide (kv.1=aur (pw p e f:Int)))∘fun i=>(aur (pw p e (i+1):Int),nv (i+1)))=some (f-1):=by
  rw[awi];refine⟨by simp only[avS,decide_eq_true_eq,show f-1+1=f by omega],at4.mpr (by omega),fun j hj=>?_⟩;simp only[avS,avF,decide_eq_false_iff_not];intro z;have:=av5 z;exact hd (j+1) f (by omega) (by omega) hf (by omega)
 rw[q];show some (nv (f-1+1))=_;rw[show f-1+1=f by omega]
def S8(c cR:Addr):Sp:=fun vs H Q E=>∃(S:Addr->Prop)(L:Lay)(M:Machine)(l:List WM)(z:Int),vs=[.ref L.p,.int z]/\Full c S H L M l/\
 (iQ l z->∀(H':Hp)(r:Addr),H r=none->H' r=some (.lst (aq (powerOf (WA.az M l) z.toNat)))->Same H H'->Q (.ref r) H')/\(¬iQ l z->E (.ref cR) none H)
theorem pY:bR ["self","e","exponents","idempotent","exponent","at","first"] ["self","e"] (aU Ay):=⟨rfl,rfl,rfl,by decide +kernel,rfl,by decide +kernel,by decide +kernel⟩
theorem aeQ{f my fP fC c cR cM:Addr}{fd mz jm dX:FuncData}(F:aY K "power" "Algebra.power" Ay f fd)(T:TA K c)(X:Txt K mg cR cM)
  (FC:aY K "compose" "compose" oA fC dX) (bC:Binds K dX ["first","second"] []) (mC:mg "compose"=some (.ref fC))
  (vG:aY K "check" "Algebra.check" vq my mz) (tZ:Binds K mz ["self","e"] []) (uc:Meth K c "check" my)
  (FP:aY K "product" "Algebra.product" xK fP jm) (bP:Binds K jm ["self","a","b"] []) (mP:Meth K c "product" fP):aJ P w K mg base (aX P w) 3 f fd ["self","e"] (S8 c cR):=by
 have vH:aJ P w K mg base (aX P w) 1 my mz ["self","e"] (Bs c cR):=Jm vG T X;have GP:aJ P w K mg base (aX P w) 2 fP jm ["self","a","b"] (Jq c cR):=S7 FP T X FC bC mC vG tZ uc;refine F.eE pY (fun vs H Q E h=>?_) (fun cdv A outer s H vs Q E hr h=>?_)
 ·obtain⟨S,L,M,l,z,rfl,_⟩:=h;rfl
 ·obtain⟨S,L,M,l,z,rfl,AA,ky,kn⟩:=h;have BB:=AA.begun;have mo:=WA.bH BB;have hr1:bQ 1 _:=hr.mono (by decide);have hu:(fG (aX P w) P w K mg base ["self","e","exponents","idempotent","exponent","at","first"] "Algebra.power" (aU Ay) f cdv A outer s H E).A.units+1<cLine:=by have:=hr.un;show(A.deeper _).units+1<cLine;omega
  refine⟨_,aD (dY (dZ (pv 0) T.cl uc vH hr1 tZ .nil cG (aj (pv 1) aA)))
   (aD (bf (i:=2) pY.nd rfl (atV rfl) FQ)
   (aD (bf (i:=3) pY.nd rfl (atV rfl) (pv 1))
   (aD (bf (i:=4) pY.nd rfl (atV rfl) bW)
   (aD (bf (i:=5) pY.nd rfl (atV rfl) (pv 1))
   (aD (qF qO (uD (zA hu (pv 5) (pv 2)))
    (aD (wR hu (pv 2) (pv 5) (pv 4) rfl)
    (aD (cZ (cF dR (dZ (pv 0) T.cl mP GP hr bP .nil cG (aj (pv 5) (aj (pv 5) aA))) (pv 5) (bY _)) (aH (bf (i:=3) pY.nd rfl (atV rfl) (pv 5))) dm)
    (aD (bf (i:=5) pY.nd rfl (atV rfl) (dZ (pv 0) T.cl mP GP hr bP .nil cG (aj (pv 5) (aj (pv 1) aA))))
    (aH (MT (i:=4) pY.nd rfl (atV rfl) bW M6))))))
   (aD (bf (i:=6) pY.nd rfl (atV rfl) (wQ hu (pv 2) (pv 5) (fun _ _=>rfl)))
   (aH (bz (dD (aj (pv 3) (aj (pv 6) (aj (iC Nf (pv 4) (pv 6)) aA)))))))))))),?_⟩
  have nk:=AA.lM "check" (by decide +kernel) (by decide +kernel) (by decide +kernel) (by decide +kernel) (by decide +kernel) (by decide +kernel) (by decide +kernel);refine⟨_,rfl,L.p,L.dx,L.fs,rfl,AA.ins,nk,_,rfl,S,L,M,l,z,rfl,AA,fun hz=>?_,kn⟩;obtain⟨e,rfl,he⟩:=Bu hz;have ky:=ky hz;rw[auh] at ky;refine fun d hd=>?_
  refine⟨_,rfl,_,rfl,?_⟩;have A1:Full c (fun b=>S b/\b≠d) (upd H d (.dK [])) L M l:=(AA.mono fun b o hb hs=>⟨hs,aV hb hd⟩).skip fun z=>z.2 rfl
  have S9:iQ l (e:Int):=hz;have np:=AA.lM "product" (by decide +kernel) (by decide +kernel) (by decide +kernel) (by decide +kernel) (by decide +kernel) (by decide +kernel) (by decide +kernel);refine⟨fun m σ H'=>∃(T' I:Nat),m=l.length+1-T'/\T'<=l.length/\σ=[some (.ref L.p),some (nv e),some (.ref d),some (nv I),some (nv (T'+1)),some (nv (pw (pr l) e (T'+1))),none]/\Full c (fun b=>S b/\b≠d) H' L M l/\H' d=some (.dK (gG (pr l) e T'))/\
    (∀i j,0<i->i<j->j<=T'->pw (pr l) e i≠pw (pr l) e j)/\((∀j,0<j->j<=T'->pr l (pw (pr l) e j) (pw (pr l) e j)≠pw (pr l) e j)\/∃j,0<j/\I=pw (pr l) e j/\pr l (pw (pr l) e j) (pw (pr l) e j)=pw (pr l) e j)/\Same H H',
   ⟨l.length+1,0,e,rfl,aul _,by rw[WA.z8 mo he];rfl,A1,aC,fun i j h1 h2 h3=>by omega,.inl fun j h1 h2=>by omega,Same.laid hd⟩,?_⟩
  rintro m σ H' ⟨T',I,rfl,hT,rfl,A2,hD,hdf,hI,sH⟩;have atl:=WA.cI mo he (T'+1);have Bv:iQ l ((pw (pr l) e (T'+1):Nat):Int):=⟨by omega,by omega⟩;refine⟨_,rfl,_,rfl,d,_,rfl,fY.k (k:=aur (pw (pr l) e (T'+1):Int)) hD,_,rfl,?_⟩;rcases ayL (∃f,0<f/\f<=T'/\pw (pr l) e f=pw (pr l) e (T'+1)) with⟨f',f0,f1,f2⟩|hnew
  ·
   have hv:cB (gG (pr l) e T') (aur (pw (pr l) e (T'+1):Int))=some (nv f'):=by rw[<-f2];exact aeP hdf f0 f1
   rw[hv];refine jH ?_;have R:nQ (pr l) e T' f':=⟨f0,f1,hdf,f2.symm⟩;have hd':=fY.k (k:=aur (pw (pr l) e (T'+1):Int)) hD;rw[hv] at hd';refine⟨_,rfl,_,rfl,d,_,rfl,hd',?_⟩;refine⟨_,rfl,_,rfl,_,rfl,_,rfl,_,_,rfl,rfl,(by show 3<=sizeLine;decide),fun r hr=>?_⟩;have e3:powerOf (WA.az M l) e=[I,f',T'+1-f']:=by
    rcases hI with hI|⟨j,j0,rfl,j2⟩
    ·obtain⟨j,j1,j2,j3⟩:=R.idem mo he;exact absurd j3 (hI j j1 j2)
    ·exact WA.acG BB he R j0 j2
   refine ky _ r (Same.free sH hr) ?_ (Same.new sH (Same.free sH hr));rw[aC,e3];show some (HO.lst [nv I,nv f',.int (((T'+1:Nat):Int) - (f':Int))])=some (HO.lst [nv I,nv f',nv (T'+1-f')]);rw[show((T'+1:Nat):Int) - (f':Int)=((T'+1-f':Nat):Int) by omega]
  ·have hne:∀i,0<i->i<=T'->pw (pr l) e i≠pw (pr l) e (T'+1):=fun i h0 h1 h2=>hnew ⟨i,h0,h1,h2⟩
   have hv:cB (gG (pr l) e T') (aur (pw (pr l) e (T'+1):Int))=none:=aeO hne;rw[hv];refine gZ ?_;have hd1:∀i j,0<i->i<j->j<=T'+1->pw (pr l) e i≠pw (pr l) e j:=fun i j h0 h1 h2=>by
    by_cases q:j<=T'
    ·exact hdf i j h0 h1 q
    ·have:j=T'+1:=by omega
     subst this;exact hne i h0 (by omega)
   have hT1:T'+1<=l.length:=by
    have h:=WA.lU l.length ((atU (T'+1)).map fun i=>pw (pr l) e (i+1)) (by
     unfold avK;rw[avH];refine avk (R:=fun a b=>a<b) (fun{a b} ha hb hab=>?_) avZ;have:=at4.mp hb;exact hd1 (a+1) (b+1) (by omega) (by omega) (by omega)) fun x hx=>by
      obtain⟨i,_,rfl⟩:=at6.mp hx;exact WA.cI mo he _
    simpa using h
   refine⟨fun σ' cH=>∃(I:Nat),σ'=[some (.ref L.p),some (nv e),some (.ref d),some (nv I),some (nv (T'+1+1)),some (nv (pw (pr l) e (T'+1+1))),none]/\Full c (fun b=>S b/\b≠d) cH L M l/\cH d=some (.dK (gG (pr l) e (T'+1)))/\
     ((∀j,0<j->j<=T'+1->pr l (pw (pr l) e j) (pw (pr l) e j)≠pw (pr l) e j)\/∃j,0<j/\I=pw (pr l) e j/\pr l (pw (pr l) e j) (pw (pr l) e j)=pw (pr l) e j)/\Same H cH,
    fun σ' cH ⟨I,h1,h2,h3,h4,h5⟩=>⟨l.length+1- (T'+1),by omega,T'+1,I,rfl,hT1,h1,h2,h3,hd1,h4,h5⟩,?_⟩
   refine⟨_,rfl,_,rfl,_,rfl,d,_,rfl,lG.k (k:=aur (pw (pr l) e (T'+1):Int)) hD (by unfold gG;rw[atR,au0];have:=AA.most;exact cP (by omega)),?_⟩;have ep:dG (gG (pr l) e T') (aur (pw (pr l) e (T'+1):Int)) (nv (T'+1))=gG (pr l) e (T'+1):=by rw[uP _ hv,aeN]
   rw[ep];have A3:Full c (fun b=>S b/\b≠d) (upd H' d (.dK (gG (pr l) e (T'+1)))) L M l:=A2.skip fun z=>z.2 rfl
   have Tc:Same H (upd H' d (.dK (gG (pr l) e (T'+1)))):=Same.new sH hd;have xV:upd H' d (.dK (gG (pr l) e (T'+1))) d=some (.dK (gG (pr l) e (T'+1))):=aC;generalize upd H' d (.dK (gG (pr l) e (T'+1)))=H3 at A3 Tc xV;refine⟨_,rfl,L.p,L.dx,L.fs,rfl,A3.ins,np,_,rfl,_,rfl,_,L,M,l,_,_,rfl,A3,fun _ _ H4 s4=>?_,fun no=>absurd ⟨Bv,Bv⟩ no⟩;have A4:=A3.same s4;have sH4:Same H H4:=Same.trans Tc s4;have Bw:=s4 _ _ xV;rw[auh];have last:∀I':Nat,((∀j,0<j->j<=T'+1->pr l (pw (pr l) e j) (pw (pr l) e j)≠pw (pr l) e j)\/∃j,0<j/\I'=pw (pr l) e j/\pr l (pw (pr l) e j) (pw (pr l) e j)=pw (pr l) e j)->∀H5:Hp,Same H4 H5->
     ∃(I:Nat),[some (.ref L.p),some (nv e),some (.ref d),some (nv I'),some (.int (((T'+1:Nat):Int)+1)),some (nv (pr l (pw (pr l) e (T'+1)) e)),none]=[some (.ref L.p),some (nv e),some (.ref d),some (nv I),some (nv (T'+1+1)),some (nv (pw (pr l) e (T'+1+1))),(none:Option V)]/\Full c (fun b=>S b/\b≠d) H5 L M l/\H5 d=some (.dK (gG (pr l) e (T'+1)))/\
     ((∀j,0<j->j<=T'+1->pr l (pw (pr l) e j) (pw (pr l) e j)≠pw (pr l) e j)\/∃j,0<j/\I=pw (pr l) e j/\pr l (pw (pr l) e j) (pw (pr l) e j)=pw (pr l) e j)/\Same H H5:=
    fun I' h H5 s5=>⟨I',rfl,A4.same s5,s5 _ _ Bw,h,Same.trans sH4 s5⟩
   refine⟨_,rfl,rfl,_,rfl,eY (fun q=>?_) (fun q=>?_)⟩
   ·have q1:pr l (pw (pr l) e (T'+1)) (pw (pr l) e (T'+1))=pw (pr l) e (T'+1):=by
     have z:=of_decide_eq_true q;injection z with z
     omega
    refine⟨_,rfl,?_⟩;refine⟨_,rfl,L.p,L.dx,L.fs,rfl,A4.ins,np,_,rfl,_,rfl,_,L,M,l,_,_,rfl,A4,fun _ _ H5 s5=>?_,fun no=>absurd ⟨Bv,S9⟩ no⟩;rw[auh,auh];exact⟨_,rfl,_,_,rfl,rfl,last _ (.inr ⟨T'+1,by omega,rfl,q1⟩) H5 s5⟩
   ·have q1:pr l (pw (pr l) e (T'+1)) (pw (pr l) e (T'+1))≠pw (pr l) e (T'+1):=fun z=>q (decide_eq_true (by rw[z]))
    refine⟨_,rfl,L.p,L.dx,L.fs,rfl,A4.ins,np,_,rfl,_,rfl,_,L,M,l,_,_,rfl,A4,fun _ _ H5 s5=>?_,fun no=>absurd ⟨Bv,S9⟩ no⟩;rw[auh,auh];refine⟨_,rfl,_,_,rfl,rfl,last _ ?_ H5 s5⟩;rcases hI with hI|hI
    ·refine .inl fun j j0 j1=>?_
     by_cases jj:j<=T'
     ·exact hI j j0 jj
     ·have:j=T'+1:=by omega
      subst this;exact q1
    ·exact .inr hI
end
open WA (bD ig uZ z9)
section
variable{α κ:Type}[DecidableEq α][DecidableEq κ]
def jP(f:α->κ):List α->Nat->List (κ×V)
 |[],_=>[]
 |x::ds,n=>(f x,nv n)::jP f ds (n+1)
theorem xW(f:α->κ):∀(ds:List α)(n:Nat),(jP f ds n).length=ds.length
 |[],_=>rfl
 |x::ds,n=>by
  show(jP f ds (n+1)).length+1=ds.length+1;rw[xW f ds]
theorem Jr(f:α->κ)(x:α):∀(ds:List α)(n:Nat),jP f (ds++[x]) n=jP f ds n++[(f x,nv (n+ds.length))]
 |[],n=>rfl
 |y::ds,n=>by
  show(f y,nv n)::jP f (ds++[x]) (n+1)=(f y,nv n)::(jP f ds (n+1)++_);rw[Jr f x ds,auH,show n+1+ds.length=n+(ds.length+1) by omega]
theorem xX{f:α->κ}(hf:∀a b,f a=f b->a=b){x:α}:∀(ds:List α)(n:Nat),x∈ds->cB (jP f ds n) (f x)=some (nv (n+ds.idxOf x))
 |[],_,h=>by simp at h
 |y::ds,n,h=>by
  show cB ((f y,nv n)::jP f ds (n+1)) (f x)=_;by_cases e:y=x
  ·subst e;rw[jY rfl,List.idxOf_cons_self];rfl
  ·rw[jG (fun q=>e (hf _ _ q)),xX hf ds (n+1) ((at3.mp h).resolve_left fun q=>e q.symm),show(y::ds).idxOf x=ds.idxOf x+1 by rw[List.idxOf_cons,show(y==x)=false from beq_eq_false_iff_ne.mpr e];rfl];congr 2;omega
theorem xY{f:α->κ}(hf:∀a b,f a=f b->a=b){x:α}:∀(ds:List α)(n:Nat),x∉ds->cB (jP f ds n) (f x)=none
 |[],_,_=>rfl
 |y::ds,n,h=>by
  show cB ((f y,nv n)::jP f ds (n+1)) (f x)=_;rw[jG (fun q=>h (by rw[hf _ _ q];exact at7 ..)),xY hf ds (n+1) fun q=>h (at8 _ q)]
theorem Td{keys:List α}{i:Nat}{x:α}(h:keys[i]?=some x):(bD (keys.take (i+1))).2=if x∈(bD (keys.take i)).2 then(bD (keys.take i)).2 else(bD (keys.take i)).2++[x]:=by
 rw[auK,h];show(bD (keys.take i++[x])).2=_;rw[z9];unfold uZ
 split<;>rfl
end
theorem aeS{l:List Nat}(n:Nat)(h:∀x,x∈l->x<n):(bD l).2.length<=n:=by
 have c:=ig _ l rfl;exact WA.lU n _ c.nodup fun x hx=>h x ((c.mem x).mp hx)
def kI(n:Nat):bc:=aur (n:Int)
theorem Bx(a b:Nat)(h:kI a=kI b):a=b:=by
 have:=av5 h;omega
section
variable{P:Program}{w:World}{K:atQ}{mg:Str->Option Value}{base:Heap}
def Te(K:atQ):Sp:=fun vs H Q _=>∃(a:Addr)(l:List Nat),vs=[.ref a]/\ak K H a (aq l)/\l.length<=10000/\∀(H':Hp)(p:Addr),H p=none->H' p=some (.lst (aq (bD l).1))->Same H H'->Q (.ref p) H'
theorem oF:bR ["marks","numbers","mark"] ["marks"] (aU pU):=⟨rfl,rfl,rfl,by decide +kernel,rfl,by decide +kernel,by decide +kernel⟩
theorem aeT{f cR cM:Addr}{fd:FuncData}(F:aY K "numbered" "numbered" pU f fd)(T:Txt K mg cR cM):aJ P w K mg base aZ 1 f fd ["marks"] (Te K):=by
 refine F.ok oF (fun vs H Q E h=>?_) (fun cdv A outer s H vs Q E hr h=>?_)
 ·obtain⟨a,l,rfl,_⟩:=h;rfl
 ·obtain⟨a,l,rfl,ha,hl,k⟩:=h;have hu:(fG aZ P w K mg base ["marks","numbers","mark"] "numbered" (aU pU) f cdv A outer s H E).jV.A.units+1<cLine:=by have:=hr.un;show(A.deeper _).units+1<cLine;omega
  refine⟨_,aD (bf (i:=1) oF.nd rfl (atZ rfl) FQ)
   (aD (ni PassesOwn.never rfl (gW (pv 0)) (dF (i:=2) oF.nd rfl (atV rfl))
    (aH (cZ (uD (zA hu (pv 2) (pv 1))) (aH (wR hu (pv 1) (pv 2) (dU aaB rfl T.len auL (aj (pv 1) aA)) rfl)) dm)))
   (aH (bz (jd (own:=[("mark",2)]) rfl oF.nd (gW (pv 0)) (iU (by show iD ["marks","numbers","mark"] (aU pU) _ _=true;decide +kernel))
    (fun _ _ _ _ _=>dF (i:=2) oF.nd rfl (atV rfl)) (fun _ _ _ _ _=>jc) (fun _ _ _ _ _=>wQ hu (pv 1) (pv 2) (fun _ _=>rfl)))))),?_⟩
  refine fun d hd=>?_
  have nad:a≠d\/True:=.inr trivial;refine⟨_,rfl,a,rfl,⟨_,Same.seq (Same.laid hd) ha⟩,sJ (K:=K) (a:=a) (xs:=aq l) (fun i σ H'=>(∃v,σ=[some (.ref a),some (.ref d),v])/\H' d=some (.dK (jP kI (bD (l.take i)).2 0))/\Same H H')
   ⟨⟨none,rfl⟩,aC,Same.laid hd⟩ (fun i σ H' _ q=>Same.seq q.2.2 ha) ?_ ?_⟩
  ·rintro i y σ H' hi ⟨⟨v,rfl⟩,hD,sH⟩;obtain⟨hil,rfl⟩:=mj hi;have hxi:l[i]?=some (l.getD i 0):=WA.nW hil;have cc:=Td hxi;have hlen:(bD (l.take i)).2.length<=10000:=auC (WA.lV _ _ (ig _ (l.take i) rfl).nodup fun x hx=>((ig _ (l.take i) rfl).mem x).mp hx) (by rw[auN];omega);refine⟨_,rfl,_,rfl,d,_,rfl,fY.k (k:=kI (l.getD i 0)) hD,_,rfl,?_⟩;by_cases hm:l.getD i 0∈(bD (l.take i)).2
   ·rw[xX Bx _ 0 hm];refine jH ⟨⟨_,rfl⟩,?_,sH⟩;rw[cc,if_pos hm];exact hD
   ·rw[xY Bx _ 0 hm];refine gZ ⟨_,rfl,d,_,rfl,hD,_,rfl,_,rfl,d,_,rfl,lG.k (k:=kI (l.getD i 0)) hD (by rw[xW];exact cP (by omega)),⟨_,rfl⟩,?_,Same.new sH hd⟩;rw[aC,uP _ (xY Bx _ 0 hm),cc,if_neg hm,Jr,xW,aw4]
  ·rintro σ H1 ⟨⟨v,rfl⟩,hD,sH⟩;rw[atR,auX] at hD;have co:=ig _ l rfl;refine⟨_,rfl,a,rfl,⟨_,Same.seq sH ha⟩,fun D ud=>?_⟩;refine lF (xs:=aq l) (fun i H'=>Same H1 H'/\H' D=some (.lst (aq ((bD l).1.take i)))) ⟨Same.laid ud,by rw[aC];rfl⟩ (fun i H' _ q=>Same.seq (Same.trans sH q.1) ha) ?_ ?_
   ·rintro i x H' hi ⟨s1,d1⟩;obtain⟨hil,rfl⟩:=mj hi;refine⟨rfl,jk ?_⟩;have hm:l.getD i 0∈(bD l).2:=(co.mem _).mpr (WA.mem_getD hil);have hg:=fY.k (k:=kI (l.getD i 0)) (s1 _ _ hD);rw[xX Bx _ 0 hm] at hg;refine⟨_,rfl,_,rfl,d,_,rfl,hg,?_⟩;refine⟨_,d1,?_,Same.new s1 ud,?_⟩
    ·rw[atR,auN];exact cP (by omega)
    ·rw[aC,auK,co.at_ i _ (WA.nW (d:=0) hil),aw4];simp
   ·rintro H' ⟨s1,d1⟩;rw[atR,<-co.len,auX] at d1;exact k H' D (Same.free sH ud) d1 (Same.trans sH s1)
def BJ(H:Hp)(as:List Addr)(ts:List (List Nat)):Prop:=as.length=ts.length/\∀(i:Nat)(x:Addr)(t:List Nat),as[i]?=some x->ts[i]?=some t->H x=some (.tup (aq t))
theorem BJ.same{H H':Hp}{as:List Addr}{ts:List (List Nat)}(h:BJ H as ts)(s:Same H H'):BJ H' as ts:=⟨h.1,fun i x t h1 h2=>s _ _ (h.2 i x t h1 h2)⟩
def BK(K:atQ):Sp:=fun vs H Q _=>∃(a:Addr)(as:List Addr)(ts:List (List Nat)),vs=[.ref a]/\ak K H a (as.map V.ref)/\BJ H as ts/\ts.length<=10000/\∀(H':Hp)(p:Addr),H p=none->H' p=some (.lst (aq (bD ts).1))->Same H H'->Q (.ref p) H'
theorem jD{as:List Addr}{i:Nat}{y:V}(h:(as.map V.ref)[i]?=some y):∃x,as[i]?=some x/\y=V.ref x:=by
 rw[aui] at h;cases q:as[i]? with
 |none=>rw[q] at h;cases h
 |some x=>rw[q] at h;exact⟨x,rfl,(aub h).symm⟩
theorem aeU{f cR cM:Addr}{fd:FuncData}(F:aY K "numbered" "numbered" pU f fd)(T:Txt K mg cR cM):aJ P w K mg base aZ 1 f fd ["marks"] (BK K):=by
 refine F.ok oF (fun vs H Q E h=>?_) (fun cdv A outer s H vs Q E hr h=>?_)
 ·obtain⟨a,as,ts,rfl,_⟩:=h;rfl
 ·obtain⟨a,as,ts,rfl,ha,hts,hl,k⟩:=h;have hu:(fG aZ P w K mg base ["marks","numbers","mark"] "numbered" (aU pU) f cdv A outer s H E).jV.A.units+1<cLine:=by have:=hr.un;show(A.deeper _).units+1<cLine;omega
  refine⟨_,aD (bf (i:=1) oF.nd rfl (atZ rfl) O7)
   (aD (ni PassesOwn.never rfl (gW (pv 0)) (dF (i:=2) oF.nd rfl (atV rfl))
    (aH (cZ (uD (zA hu (pv 2) (pv 1))) (aH (wR hu (pv 1) (pv 2) (dU aa8 rfl T.len auL (aj (pv 1) aA)) rfl)) dm)))
   (aH (bz (jd (own:=[("mark",2)]) rfl oF.nd (gW (pv 0)) (iU (by show iD ["marks","numbers","mark"] (aU pU) _ _=true;decide +kernel))
    (fun _ _ _ _ _=>dF (i:=2) oF.nd rfl (atV rfl)) (fun _ _ _ _ _=>jc) (fun _ _ _ _ _=>wQ hu (pv 1) (pv 2) (fun _ _=>rfl)))))),?_⟩
  refine fun d hd=>?_
  have tup:∀{H':Hp},Same H H'->∀{i:Nat}{x:Addr}{t:List Nat},as[i]?=some x->ts[i]?=some t->H' x=some (.tup ((kM t).map kV)):=fun{H'} s {i x t} h1 h2=>by rw[rA];exact s _ _ (hts.2 i x t h1 h2)
  have inj:∀a b:List Nat,kM a=kM b->a=b:=fun a b h=>xQ h
  refine⟨_,rfl,a,rfl,⟨_,Same.seq (Same.laid hd) ha⟩,sJ (K:=K) (a:=a) (xs:=as.map V.ref) (fun i σ H'=>(∃v,σ=[some (.ref a),some (.ref d),v])/\H' d=some (.dT (jP kM (bD (ts.take i)).2 0))/\Same H H')
   ⟨⟨none,rfl⟩,aC,Same.laid hd⟩ (fun i σ H' _ q=>Same.seq q.2.2 ha) ?_ ?_⟩
  ·rintro i y σ H' hi ⟨⟨v,rfl⟩,hD,sH⟩;obtain⟨x,hx,rfl⟩:=jD hi;have hil:i<ts.length:=by rw[<-hts.1];exact(at9.mp hx).1
   obtain⟨t,ht⟩:∃t,ts[i]?=some t:=⟨_,atY hil⟩
   have cc:=Td ht;have hlen:(bD (ts.take i)).2.length<=10000:=auC (WA.lV _ _ (ig _ (ts.take i) rfl).nodup fun x hx=>((ig _ (ts.take i) rfl).mem x).mp hx) (by rw[auN];omega);refine⟨_,rfl,_,rfl,d,_,rfl,fY.t (k:=kM t) hD (tup sH hx ht),_,rfl,?_⟩;by_cases hm:t∈(bD (ts.take i)).2
   ·rw[xX inj _ 0 hm];refine jH ⟨⟨_,rfl⟩,?_,sH⟩;rw[cc,if_pos hm];exact hD
   ·rw[xY inj _ 0 hm];refine gZ ⟨_,rfl,d,_,rfl,hD,_,rfl,_,rfl,d,_,rfl,lG.t (k:=kM t) hD (tup sH hx ht) (by rw[xW];exact cP (by omega)),⟨_,rfl⟩,?_,Same.new sH hd⟩;rw[aC,uP _ (xY inj _ 0 hm),cc,if_neg hm,Jr,xW,aw4]
  ·rintro σ H1 ⟨⟨v,rfl⟩,hD,sH⟩;rw[atR,hts.1,auX] at hD;have co:=ig _ ts rfl;refine⟨_,rfl,a,rfl,⟨_,Same.seq sH ha⟩,fun D ud=>?_⟩;refine lF (xs:=as.map V.ref) (fun i H'=>Same H1 H'/\H' D=some (.lst (aq ((bD ts).1.take i)))) ⟨Same.laid ud,by rw[aC];rfl⟩ (fun i H' _ q=>Same.seq (Same.trans sH q.1) ha) ?_ ?_
   ·rintro i y H' hi ⟨s1,d1⟩;obtain⟨x,hx,rfl⟩:=jD hi;have hil:i<ts.length:=by rw[<-hts.1];exact(at9.mp hx).1
    obtain⟨t,ht⟩:∃t,ts[i]?=some t:=⟨_,atY hil⟩
    refine⟨rfl,jk ?_⟩;have hm:t∈(bD ts).2:=(co.mem _).mpr (auI ht);have hg:=fY.t (k:=kM t) (s1 _ _ hD) (tup (Same.trans sH s1) hx ht);rw[xX inj _ 0 hm] at hg;refine⟨_,rfl,_,rfl,d,_,rfl,hg,?_⟩;refine⟨_,d1,?_,Same.new s1 ud,?_⟩
    ·rw[atR,auN];exact cP (by omega)
    ·rw[aC,auK,co.at_ i _ ht,aw4];simp
   ·rintro H' ⟨s1,d1⟩;rw[atR,hts.1,<-co.len,auX] at d1;exact k H' D (Same.free sH ud) d1 (Same.trans sH s1)
end
structure gf where
 p:Addr
 dx:Addr
 g:Addr
 as:List Addr
def gf.a(L:gf)(i:Nat):Addr:=L.as.getD i 0
def wf(L:gf)(c:Int):List (Str×V):=[("graph",.ref L.g),("met",.ref (L.a 0)),("count",.int c),("head",.ref (L.a 1)),("trail",.ref (L.a 2)),("ways",.ref (L.a 3)),("waiting",.ref (L.a 4)),("heads",.ref (L.a 5))]
theorem aeV(L:gf)(c c':Int):ao "count" (.int c') (wf L c)=wf L c':=rfl
theorem Tf(L:gf)(c:Int):(wf L c).lookup ("graph":Str)=some (.ref L.g):=rfl
theorem xZ(L:gf)(c:Int):(wf L c).lookup ("met":Str)=some (.ref (L.a 0)):=rfl
theorem Tg(L:gf)(c:Int):(wf L c).lookup ("count":Str)=some (.int c):=rfl
theorem Ti(L:gf)(c:Int):(wf L c).lookup ("head":Str)=some (.ref (L.a 1)):=rfl
theorem Js(L:gf)(c:Int):(wf L c).lookup ("trail":Str)=some (.ref (L.a 2)):=rfl
theorem Jt(L:gf)(c:Int):(wf L c).lookup ("ways":Str)=some (.ref (L.a 3)):=rfl
theorem Tj(L:gf)(c:Int):(wf L c).lookup ("waiting":Str)=some (.ref (L.a 4)):=rfl
theorem yc(L:gf)(c:Int):(wf L c).lookup ("heads":Str)=some (.ref (L.a 5)):=rfl
structure TW(K:atQ)(c:Addr):Prop where
 cl:Cls K c
 nG:eV K c "graph"
 n0:eV K c "met"
 nC:eV K c "count"
 n1:eV K c "head"
 n2:eV K c "trail"
 n3:eV K c "ways"
 n4:eV K c "waiting"
 n5:eV K c "heads"
def put{β:Type}(C:Nat->β)(i:Nat)(x:β):Nat->β:=fun j=>if j=i then x else C j
theorem dq{β:Type}(C:Nat->β)(i:Nat)(x:β):put C i x i=x:=by unfold put;rw[if_pos rfl]
theorem aG{β:Type}(C:Nat->β){i j:Nat}(x:β)(h:j≠i):put C i x j=C j:=by unfold put;rw[if_neg h]
structure Wk(c:Addr)(H0 H:Hp)(L:gf)(n:Int)(C:Nat->List V)(was:List (Addr×List V)):Prop where
 ins:H L.p=some (.ins c L.dx (wf L n))
 own:∀i,i<6->H (L.a i)=some (.lst (C i))
 inj:∀i j,i<6->j<6->L.a i=L.a j->i=j
 ew:∀x,x∈was->H x.1=some (.lst x.2)/\∀i,i<6->x.1≠L.a i
 uf:(was.map (·.1)).Nodup
 rF:H0 L.p=none
 rG:∀i,i<6->H0 (L.a i)=none
 rH:∀x,x∈was->H0 x.1=none
 same:Same H0 H
namespace Wk
variable{c:Addr}{H0 H:Hp}{L:gf}{n:Int}{C:Nat->List V}{was:List (Addr×List V)}
theorem set(W:Wk c H0 H L n C was){i:Nat}(hi:i<6)(xs:List V):Wk c H0 (upd H (L.a i) (.lst xs)) L n (put C i xs) was:=by
 have hp:L.p≠L.a i:=bx W.ins (W.own i hi) (by intro q;cases q);refine⟨by rw[au hp];exact W.ins,fun j hj=>?_,W.inj,fun x hx=>?_,W.uf,W.rF,W.rG,W.rH,fun b o e=>?_⟩
 ·by_cases q:j=i
  ·subst q;rw[aC,dq]
  ·rw[au (fun z=>q (W.inj j i hj hi z)),aG _ _ q];exact W.own j hj
 ·obtain⟨h1,h2⟩:=W.ew x hx;exact⟨by rw[au (h2 i hi)];exact h1,h2⟩
 ·rw[au (aV e (W.rG i hi))];exact W.same b o e
theorem num(W:Wk c H0 H L n C was)(m:Int):Wk c H0 (upd H L.p (.ins c L.dx (wf L m))) L m C was:=by
 refine⟨aC,fun j hj=>?_,W.inj,fun x hx=>?_,W.uf,W.rF,W.rG,W.rH,fun b o e=>?_⟩
 ·rw[au (bx (W.own j hj) W.ins (by intro q;cases q))];exact W.own j hj
 ·obtain⟨h1,h2⟩:=W.ew x hx;exact⟨by rw[au (bx h1 W.ins (by intro q;cases q))];exact h1,h2⟩
 ·rw[au (aV e W.rF)];exact W.same b o e
theorem more(W:Wk c H0 H L n C was){a:Addr}(ha:H a=none)(xs:List V):Wk c H0 (upd H a (.lst xs)) L n C ((a,xs)::was):=by
 refine⟨by rw[au (aV W.ins ha)];exact W.ins,fun j hj=>by rw[au (aV (W.own j hj) ha)];exact W.own j hj,W.inj,fun x hx=>?_,?_,W.rF,W.rG,fun x hx=>?_,fun b o e=>?_⟩
 ·rcases at3.mp hx with e|hx
  ·rw[e];exact⟨aC,fun i hi q=>aV (W.own i hi) ha q.symm⟩
  ·obtain⟨h1,h2⟩:=W.ew x hx;exact⟨by rw[au (aV h1 ha)];exact h1,h2⟩
 ·rw[auf,au8];refine⟨fun hm=>?_,W.uf⟩;obtain⟨x,hx,e⟩:=at6.mp hm;have h1:=(W.ew x hx).1;rw[e,ha] at h1;cases h1
 ·rcases at3.mp hx with e|hx
  ·rw[e];exact Same.free W.same ha
  ·exact W.rH x hx
 ·have:=W.same b o e;rw[au (aV this ha)];exact this
theorem less{x:Addr×List V}(W:Wk c H0 H L n C (x::was)):Wk c H0 H L n C was:=by
 have:=W.uf;rw[auf,au8] at this;exact⟨W.ins,W.own,W.inj,fun y hy=>W.ew y (at8 _ hy),this.2,W.rF,W.rG,fun y hy=>W.rH y (at8 _ hy),W.same⟩
theorem way{a:Addr}{ys:List V}(W:Wk c H0 H L n C ((a,ys)::was))(xs:List V):Wk c H0 (upd H a (.lst xs)) L n C ((a,xs)::was):=by
 obtain⟨h1,h2⟩:=W.ew (a,ys) (at7 ..);have hn:=W.uf;rw[auf,au8] at hn;have hf:=W.rH (a,ys) (at7 ..);refine⟨by rw[au (bx W.ins h1 (by intro q;cases q))];exact W.ins,fun j hj=>by rw[au (Ne.symm (h2 j hj))];exact W.own j hj,W.inj,fun x hx=>?_,by rw[auf,au8];exact hn,W.rF,W.rG,fun x hx=>?_,fun b o e=>?_⟩
 ·rcases at3.mp hx with e|hx
  ·rw[e];exact⟨aC,h2⟩
  ·obtain⟨g1,g2⟩:=W.ew x (at8 _ hx);refine⟨?_,g2⟩;rw[au (fun q=>hn.1 (at6.mpr ⟨x,hx,q⟩))];exact g1
 ·rcases at3.mp hx with e|hx
  ·rw[e];exact hf
  ·exact W.rH x (at8 _ hx)
 ·rw[au (aV e hf)];exact W.same b o e
theorem oG{C':Nat->List V}(W:Wk c H0 H L n C was)(h:∀i,i<6->C i=C' i):Wk c H0 H L n C' was:=
 ⟨W.ins,fun i hi=>by rw[<-h i hi];exact W.own i hi,W.inj,W.ew,W.uf,W.rF,W.rG,W.rH,W.same⟩
theorem on{H':Hp}(W:Wk c H0 H L n C was)(s:Same H H'):Wk c H0 H' L n C was:=
 ⟨s _ _ W.ins,fun i hi=>s _ _ (W.own i hi),W.inj,fun x hx=>⟨s _ _ (W.ew x hx).1,(W.ew x hx).2⟩,W.uf,W.rF,W.rG,W.rH,Same.trans W.same s⟩
end Wk
section
variable{P:Program}{w:World}{K:atQ}{mg:Str->Option Value}{base:Heap}
def Tn(C:Nat->List V)(n:Int)(v:Nat)(a:Addr):Nat->List V:=fun i=>if i=0 then(C 0).set v (.int n) else if i=2 then C 2++[nv v] else if i=3 then C 3++[.ref a] else if i=4 then C 4++[nv v] else if i=5 then C 5++[nv v] else C i
def Tp(K:atQ)(c:Addr):Sp:=fun vs H Q _=>∃(H0:Hp)(L:gf)(n:Int)(C:Nat->List V)(was:List (Addr×List V))(v:Nat)(bU:List V)(x:Addr)(out:List Nat),vs=[.ref L.p,nv v]/\Wk c H0 H L n C was/\v<(C 0).length/\
 ak K H0 L.g bU/\bU[v]?=some (.ref x)/\ak K H0 x (aq out)/\(∀i,i<6->(C i).length<sizeLine)/\∀(H':Hp)(a:Addr),Wk c H0 H' L (n+1) (Tn C n v a) ((a,aq out)::was)->Q .non H'
theorem aeW:bR ["self","node"] ["self","node"] (aU Ba):=⟨rfl,rfl,rfl,by decide +kernel,rfl,by decide +kernel,by decide +kernel⟩
theorem yd{n v:Nat}(h:v<n):lC n (v:Int)=some v:=by
 unfold lC;rw[if_pos (by omega),if_pos (by omega),auh]
theorem aeX{f c cR cM:Addr}{fd:FuncData}(F:aY K "enter" "Walk.enter" Ba f fd)(T:TW K c)(X:Txt K mg cR cM):aJ P w K mg base aZ 1 f fd ["self","node"] (Tp K c):=by
 refine F.ok aeW (fun vs H Q E h=>?_) (fun cdv A outer s H vs Q E hr h=>?_)
 ·obtain⟨H0,L,n,C,was,v,bU,x,out,rfl,_⟩:=h;rfl
 ·obtain⟨H0,L,n,C,was,v,bU,x,out,rfl,W,hv,hg,hgv,hx,hl,k⟩:=h;refine⟨_,aD (wA (bh (pv 0) rfl) (wz (bh (pv 0) rfl) (pv 1) wH))
   (aD (Eo (pv 0) bW Ep)
   (aD (dY (ju auB auW au4 jX (bh (pv 0) rfl) (aj (pv 1) aA)))
   (aD (dY (ju auB auW au4 jX (bh (pv 0) rfl) (aj (pq Y8 rfl X.list axw (aj (dN eF (bh (pv 0) rfl) (pv 1) (fun _ _=>rfl)) aA)) aA)))
   (aD (dY (ju auB auW au4 jX (bh (pv 0) rfl) (aj (pv 1) aA)))
   (aH (dY (ju auB auW au4 jX (bh (pv 0) rfl) (aj (pv 1) aA)))))))),?_⟩
  refine⟨_,rfl,L.p,c,L.dx,_,_,rfl,W.ins,T.cl,T.nC,Tg _ _,_,rfl,L.p,c,L.dx,_,_,rfl,W.ins,T.cl,T.n0,xZ _ _,_,rfl,L.a 0,_,_,v,rfl,rfl,W.own 0 (by decide),yd hv,?_⟩;have W1:=W.set (i:=0) (by decide) ((C 0).set v (.int n));generalize upd H (L.a 0) (.lst ((C 0).set v (.int n)))=H1 at W1;refine⟨_,rfl,L.p,c,L.dx,_,_,rfl,W1.ins,T.cl,T.nC,Tg _ _,_,_,rfl,rfl,L.dx,_,W1.ins,(by show 8<1000;decide),?_⟩;rw[aeV];have W2:=W1.num (n+1);generalize upd H1 L.p (.ins c L.dx (wf L (n+1)))=H2 at W2;have o2:=W2.own 2 (by decide);refine⟨_,rfl,L.p,c,L.dx,_,_,rfl,W2.ins,T.cl,T.n2,Js _ _,.inl ⟨rfl,_,ak.of o2⟩,_,rfl,L.a 2,_,_,rfl,rfl,o2,by rw[aG _ _ (by decide)];exact hl 2 (by decide),?_⟩;have W3:=W2.set (i:=2) (by decide) (put C 0 ((C 0).set v (.int n)) 2++[nv v]);generalize upd H2 (L.a 2) (.lst (put C 0 ((C 0).set v (.int n)) 2++[nv v]))=H3 at W3;have o3:=W3.own 3 (by decide);refine⟨_,rfl,L.p,c,L.dx,_,_,rfl,W3.ins,T.cl,T.n3,Jt _ _,.inl ⟨rfl,_,ak.of o3⟩,?_⟩;refine⟨_,rfl,L.p,c,L.dx,_,_,rfl,W3.ins,T.cl,T.nG,Tf _ _,_,rfl,L.g,_,_,_,rfl,rfl,Same.seq W3.same hg,cO rfl hgv,x,_,rfl,.inl (Same.seq W3.same hx),fun a ha=>?_⟩;have W4:=W3.more ha (aq out);generalize upd H3 a (.lst (aq out))=H4 at W4;have o4:=W4.own 3 (by decide);refine⟨L.a 3,_,_,rfl,rfl,o4,by rw[aG _ _ (by decide),aG _ _ (by decide)];exact hl 3 (by decide),?_⟩;have W5:=W4.set (i:=3) (by decide) (put (put C 0 ((C 0).set v (.int n))) 2 (put C 0 ((C 0).set v (.int n)) 2++[nv v]) 3++[.ref a]);generalize vI:put (put (put C 0 ((C 0).set v (.int n))) 2 (put C 0 ((C 0).set v (.int n)) 2++[nv v])) 3 (put (put C 0 ((C 0).set v (.int n))) 2 (put C 0 ((C 0).set v (.int n)) 2++[nv v]) 3++[.ref a])=C5 at W5;generalize upd H4 (L.a 3) (.lst (put (put C 0 ((C 0).set v (.int n))) 2 (put C 0 ((C 0).set v (.int n)) 2++[nv v]) 3++[.ref a]))=H5 at W5;have e4:C5 4=C 4:=by rw[<-vI,aG _ _ (by decide),aG _ _ (by decide),aG _ _ (by decide)]
  have e5:C5 5=C 5:=by rw[<-vI,aG _ _ (by decide),aG _ _ (by decide),aG _ _ (by decide)]
  have o5:=W5.own 4 (by decide);refine⟨_,rfl,L.p,c,L.dx,_,_,rfl,W5.ins,T.cl,T.n4,Tj _ _,.inl ⟨rfl,_,ak.of o5⟩,_,rfl,L.a 4,_,_,rfl,rfl,o5,by rw[e4];exact hl 4 (by decide),?_⟩;have W6:=W5.set (i:=4) (by decide) (C5 4++[nv v]);generalize upd H5 (L.a 4) (.lst (C5 4++[nv v]))=H6 at W6;have o6:=W6.own 5 (by decide);refine⟨_,rfl,L.p,c,L.dx,_,_,rfl,W6.ins,T.cl,T.n5,yc _ _,.inl ⟨rfl,_,ak.of o6⟩,_,rfl,L.a 5,_,_,rfl,rfl,o6,by rw[aG _ _ (by decide),e5];exact hl 5 (by decide),?_⟩;have W7:=W6.set (i:=5) (by decide) (put C5 4 (C5 4++[nv v]) 5++[nv v]);refine k _ a (W7.oG fun i hi=>?_)
  match i,hi with
  |0,_=>rw[aG _ _ (by decide),aG _ _ (by decide),<-vI,aG _ _ (by decide),aG _ _ (by decide),dq];rfl
  |1,_=>rw[aG _ _ (by decide),aG _ _ (by decide),<-vI,aG _ _ (by decide),aG _ _ (by decide),aG _ _ (by decide)];rfl
  |2,_=>rw[aG _ _ (by decide),aG _ _ (by decide),<-vI,aG _ _ (by decide),dq,aG _ _ (by decide)];rfl
  |3,_=>rw[aG _ _ (by decide),aG _ _ (by decide),<-vI,dq,aG _ _ (by decide),aG _ _ (by decide)];rfl
  |4,_=>rw[aG _ _ (by decide),dq,e4];rfl
  |5,_=>rw[dq,aG _ _ (by decide),e5];rfl
end
open WA (WS fc dw)
def ov:Option Nat->V
 |none=>.non
 |some k=>nv k
theorem Ju{l:List (Option Nat)}{i:Nat}{x:Option Nat}(h:l[i]?=some x):(l.map ov)[i]?=some (ov x):=by rw[aui,h];rfl
theorem Jv(l:List (Option Nat))(i k:Nat):(l.map ov).set i (nv k)=(l.set i (some k)).map ov:=by rw[List.map_set];rfl
theorem ug(h:Nat)(t:List Nat):aq (h::t).reverse=aq t.reverse++[nv h]:=by rw[avO];simp[aq]
theorem vJ{α:Type}(xs:List α)(v:α):(xs++[v])[(xs++[v]).length -1]?=some v:=by simp
theorem vK{α:Type}(xs:List α)(v:α):(xs++[v]).dropLast=xs:=by simp
section
variable{P:Program}{w:World}{K:atQ}{mg:Str->Option Value}{base:Heap}
def oM(met:List (Option Nat))(h:Nat):Nat:=(met.getD h none).getD 0
def Tq(K:atQ)(c:Addr):Sp:=fun vs H Q _=>∃(H0:Hp)(L:gf)(n:Int)(C:Nat->List V)(was:List (Addr×List V))(v k:Nat)(met:List (Option Nat))(hs:List Nat),vs=[.ref L.p,nv v]/\Wk c H0 H L n C was/\C 0=met.map ov/\C 5=aq hs.reverse/\
 (∀h,h∈hs->∃m,met[h]?=some (some m))/\met[v]?=some (some k)/\(∃h,h∈hs/\oM met h<=k)/\∀H':Hp,Wk c H0 H' L n (put C 5 (aq (hs.dropWhile fun h=>decide (k<oM met h)).reverse)) was->Q .non H'
theorem aeZ:bR ["self","node"] ["self","node"] (aU Bb):=⟨rfl,rfl,rfl,by decide +kernel,rfl,by decide +kernel,by decide +kernel⟩
theorem ae0{f c cR cM:Addr}{fd:FuncData}(F:aY K "join_back_to" "Walk.join_back_to" Bb f fd)(T:TW K c)(X:Txt K mg cR cM):aJ P w K mg base aZ 1 f fd ["self","node"] (Tq K c):=by
 refine F.ok aeZ (fun vs H Q E h=>?_) (fun cdv A outer s H vs Q E hr h=>?_)
 ·obtain⟨H0,L,n,C,was,v,k,met,hs,rfl,_⟩:=h;rfl
 ·obtain⟨H0,L,n,C,was,v,k,met,hs,rfl,W,e0,e5,hms,hv,hex,kq⟩:=h;refine⟨_,aH (qF PassesOwn.never (cF wD (dN eF (bh (pv 0) rfl) (dN eF (bh (pv 0) rfl) (uG uH bW) (fun _ _=>rfl)) (fun _ _=>rfl)) (dN eF (bh (pv 0) rfl) (pv 1) (fun _ _=>rfl)) (bY _))
   (aH (dY (sW auB avP av4 uM (bh (pv 0) rfl))))),?_⟩
  refine⟨fun m σ H'=>∃hs':List Nat,m=hs'.length/\σ=[some (.ref L.p),some (nv v)]/\Wk c H0 H' L n (put C 5 (aq hs'.reverse)) was/\(∀h,h∈hs'->h∈hs)/\(∃h,h∈hs'/\oM met h<=k)/\(hs'.dropWhile fun h=>decide (k<oM met h))=hs.dropWhile fun h=>decide (k<oM met h),
   ⟨hs.length,hs,rfl,rfl,W.oG fun i hi=>?_,fun h hh=>hh,hex,rfl⟩,?_⟩
  ·by_cases q:i=5
   ·subst q;rw[dq,e5]
   ·rw[aG _ _ q]
  rintro m σ H' ⟨hs',rfl,rfl,W1,hsub,Tr,hdw⟩;cases hs' with
  |nil=>obtain⟨h,hh,_⟩:=Tr;simp at hh
  |cons h t=>
   obtain⟨mh,hmh⟩:=hms h (hsub h (at7 ..));have Tt:oM met h=mh:=by unfold oM;rw[at5,hmh];rfl
   have o0:=W1.own 0 (by decide);rw[aG _ _ (by decide),e0] at o0;have o5:=W1.own 5 (by decide);rw[dq,ug] at o5;refine⟨_,rfl,L.p,c,L.dx,_,_,rfl,W1.ins,T.cl,T.n0,xZ _ _,_,rfl,L.p,c,L.dx,_,_,rfl,W1.ins,T.cl,T.n5,yc _ _,_,rfl,L.a 5,_,_,_,rfl,rfl,ak.of o5,Eu _ _,L.a 0,_,_,_,rfl,rfl,ak.of o0,cO rfl (Ju hmh),?_⟩;refine⟨_,rfl,L.p,c,L.dx,_,_,rfl,W1.ins,T.cl,T.n0,xZ _ _,_,rfl,L.a 0,_,_,_,rfl,rfl,ak.of o0,cO rfl (Ju hv),_,_,rfl,rfl,_,rfl,eY (fun d=>?_) (fun d=>?_)⟩
   ·have hlt:k<oM met h:=by rw[Tt];have:=of_decide_eq_true d;omega
    refine⟨fun σ' cH=>σ'=[some (.ref L.p),some (nv v)]/\Wk c H0 cH L n (put C 5 (aq t.reverse)) was,fun σ' cH ⟨q1,q2⟩=>⟨t.length,by simp,t,rfl,q1,q2,fun x hx=>hsub x (at8 _ hx),?_,?_⟩,?_⟩
    ·obtain⟨x,hx,hle⟩:=Tr;rcases at3.mp hx with e|hx
     ·rw[e] at hle;omega
     ·exact⟨x,hx,hle⟩
    ·rw[<-hdw,axJ,if_pos (decide_eq_true hlt)]
    ·refine⟨_,rfl,L.p,c,L.dx,_,_,rfl,W1.ins,T.cl,T.n5,yc _ _,.inl ⟨rfl,_,ak.of o5⟩,L.a 5,_,_,rfl,rfl,o5,vJ _ _,rfl,?_⟩;rw[vK];refine(W1.set (i:=5) (by decide) (aq t.reverse)).oG fun i hi=>?_
     by_cases q:i=5
     ·subst q;rw[dq,dq]
     ·rw[aG _ _ q,aG _ _ q,aG _ _ q]
   ·have hge:¬k<oM met h:=by rw[Tt];intro z;exact d (decide_eq_true (by omega))
    refine kq H' ?_;rw[<-hdw,axJ,if_neg (by simpa using hge)];exact W1
def Tv(K:atQ)(c:Addr):Sp:=fun vs H Q _=>∃(H0:Hp)(L:gf)(n:Int)(C:Nat->List V)(was:List (Addr×List V))(t N:Nat)(met hd:List (Option Nat))(sg rest:List Nat)(bU:List V),vs=[.ref L.p,nv t]/\Wk c H0 H L n C was/\
 ak K H0 L.g bU/\bU.length=N/\C 0=met.map ov/\C 1=hd.map ov/\C 4=aq (sg++t::rest).reverse/\met.length=N/\hd.length=N/\(∀x,x∈sg++[t]->x<N)/\t∉sg/\
 ∀H':Hp,Wk c H0 H' L n (put (put (put C 0 ((dw met (sg++[t]) N).map ov)) 1 ((dw hd (sg++[t]) t).map ov)) 4 (aq rest.reverse)) was->Q .non H'
theorem Jw:bR ["self","head","member"] ["self","head"] (aU xM):=⟨rfl,rfl,rfl,by decide +kernel,rfl,by decide +kernel,by decide +kernel⟩
theorem ae1{f c cR cM:Addr}{fd:FuncData}(F:aY K "end_part" "Walk.end_part" xM f fd)(T:TW K c)(X:Txt K mg cR cM):aJ P w K mg base aZ 1 f fd ["self","head"] (Tv K c):=by
 refine F.ok Jw (fun vs H Q E h=>?_) (fun cdv A outer s H vs Q E hr h=>?_)
 ·obtain⟨H0,L,n,C,was,t,N,met,hd,sg,rest,bU,rfl,_⟩:=h;rfl
 ·obtain⟨H0,L,n,C,was,t,N,met,hd,sg,rest,bU,rfl,W,hg,jQ,e0,e1,e4,lm,lh,hsg,hts,kq⟩:=h;refine⟨_,aD (bf (i:=2) Jw.nd rfl (atV rfl) rZ)
   (aH (qF PassesOwn.never (cF Ek (pv 2) (pv 1) (bY _))
    (aD (bf (i:=2) Jw.nd rfl (atV rfl) (sW auB avP av4 uM (bh (pv 0) rfl)))
    (aD (wA (pv 1) (wz (bh (pv 0) rfl) (pv 2) wH))
    (aH (wA (dU jb rfl X.len auL (aj (bh (pv 0) rfl) aA)) (wz (bh (pv 0) rfl) (pv 2) wH))))))),?_⟩
  have full:sg++t::rest=(sg++[t])++rest:=by simp
  obtain⟨fl,uh⟩:∃fl,fl=sg++[t]:=⟨_,rfl⟩
  refine⟨fun m σ H'=>∃i:Nat,i<=fl.length/\m=fl.length-i/\(∃v,σ=[some (.ref L.p),some (nv t),some v]/\((i=0/\v=.non)\/∃x,0<i/\fl[i-1]?=some x/\v=nv x))/\
    Wk c H0 H' L n (put (put (put C 0 ((dw met (fl.take i) N).map ov)) 1 ((dw hd (fl.take i) t).map ov)) 4 (aq (fl.drop i++rest).reverse)) was,
   ⟨fl.length,0,aul _,by simp,⟨_,rfl,.inl ⟨rfl,rfl⟩⟩,W.oG fun i hi=>?_⟩,?_⟩
  ·by_cases q4:i=4
   ·subst q4;rw[dq,e4,full,uh];rfl
   ·rw[aG _ _ q4];by_cases q1:i=1
    ·subst q1;rw[dq,e1];rfl
    ·rw[aG _ _ q1];by_cases q0:i=0
     ·subst q0;rw[dq,e0];rfl
     ·rw[aG _ _ q0]
  rintro m σ H' ⟨i,hi,rfl,⟨v,rfl,hv⟩,W1⟩;have fin:i=fl.length->v=nv t:=fun e=>by
   rcases hv with⟨h0,_⟩|⟨x,h0,hx,rfl⟩
   ·rw[h0,uh] at e;simp at e
   ·rw[e,uh] at hx;simp at hx;rw[hx]
  have ae2:i<fl.length->¬v=nv t:=fun hlt q=>by
   rcases hv with⟨_,rfl⟩|⟨x,h0,hx,rfl⟩
   ·cases q
   ·have:x=t:=by
     have:=V.int.inj q;omega
    subst this;rw[uh] at hlt;simp at hlt;rw[uh,auP (by omega)] at hx;exact hts (auI hx)
  have sc:Ei v (nv t)=true:=by
   rcases hv with⟨_,rfl⟩|⟨x,_,_,rfl⟩
   ·rfl
   ·rfl
  refine⟨_,rfl,_,rfl,sc,_,rfl,?_⟩;by_cases hlt:i<fl.length
  ·rw[show(!decide (v=nv t))=true by rw[decide_eq_false (ae2 hlt)];rfl];refine gZ ?_;obtain⟨y,hy⟩:∃y,fl[i]?=some y:=⟨_,atY hlt⟩
   have Tw:y<N:=hsg y (by rw[<-uh];exact auI hy);have ae3:fl.drop i=y::fl.drop (i+1):=by rw[awP hlt];rw[atY hlt] at hy;rw[aub hy]
   have etm:dw met (fl.take (i+1)) N=(dw met (fl.take i) N).set y (some N):=by rw[auK,hy];exact WA.RM ..
   have eth:dw hd (fl.take (i+1)) t=(dw hd (fl.take i) t).set y (some t):=by rw[auK,hy];exact WA.RM ..
   refine⟨fun σ' cH=>σ'=[some (.ref L.p),some (nv t),some (nv y)]/\Wk c H0 cH L n (put (put (put C 0 ((dw met (fl.take (i+1)) N).map ov)) 1 ((dw hd (fl.take (i+1)) t).map ov)) 4 (aq (fl.drop (i+1)++rest).reverse)) was,fun σ' cH ⟨q1,q2⟩=>⟨fl.length- (i+1),by omega,i+1,by omega,rfl,⟨_,q1,.inr ⟨y,by omega,by simpa using hy,rfl⟩⟩,q2⟩,?_⟩;have o4:=W1.own 4 (by decide);rw[dq,ae3,ax9,ug] at o4;refine⟨_,rfl,L.p,c,L.dx,_,_,rfl,W1.ins,T.cl,T.n4,Tj _ _,.inl ⟨rfl,_,ak.of o4⟩,L.a 4,_,_,rfl,rfl,o4,vJ _ _,?_⟩;rw[vK];have W2:=W1.set (i:=4) (by decide) (aq (fl.drop (i+1)++rest).reverse);generalize upd H' (L.a 4) (.lst (aq (fl.drop (i+1)++rest).reverse))=H2 at W2;have o1:=W2.own 1 (by decide);rw[aG _ _ (by decide),aG _ _ (by decide),dq] at o1;refine⟨_,rfl,_,rfl,L.p,c,L.dx,_,_,rfl,W2.ins,T.cl,T.n1,Ti _ _,_,rfl,L.a 1,_,_,y,rfl,rfl,o1,yd (by rw[atR,WA.xH,lh];exact Tw),?_⟩;rw[Jv,<-eth];have W3:=W2.set (i:=1) (by decide) ((dw hd (fl.take (i+1)) t).map ov);generalize upd H2 (L.a 1) (.lst ((dw hd (fl.take (i+1)) t).map ov))=H3 at W3;have o0:=W3.own 0 (by decide);rw[aG _ _ (by decide),aG _ _ (by decide),aG _ _ (by decide),aG _ _ (by decide),dq] at o0;refine⟨_,rfl,L.p,c,L.dx,_,_,rfl,W3.ins,T.cl,T.nG,Tf _ _,L.g,_,rfl,.inl (Same.seq W3.same hg),?_⟩;rw[jQ];refine⟨_,rfl,L.p,c,L.dx,_,_,rfl,W3.ins,T.cl,T.n0,xZ _ _,_,rfl,L.a 0,_,_,y,rfl,rfl,o0,yd (by rw[atR,WA.xH,lm];exact Tw),rfl,?_⟩;show Wk c H0 (upd H3 (L.a 0) (.lst (((dw met (fl.take i) N).map ov).set y (nv N)))) L n _ was;rw[Jv,<-etm];refine(W3.set (i:=0) (by decide) ((dw met (fl.take (i+1)) N).map ov)).oG fun j hj=>?_
   match j,hj with
   |0,_=>rw[dq,aG _ _ (by decide),aG _ _ (by decide),dq]
   |1,_=>rw[aG _ _ (by decide),dq,aG _ _ (by decide),dq]
   |2,_=>rw[aG _ _ (by decide),aG _ _ (by decide),aG _ _ (by decide),aG _ _ (by decide),aG _ _ (by decide),aG _ _ (by decide),aG _ _ (by decide),aG _ _ (by decide),aG _ _ (by decide)]
   |3,_=>rw[aG _ _ (by decide),aG _ _ (by decide),aG _ _ (by decide),aG _ _ (by decide),aG _ _ (by decide),aG _ _ (by decide),aG _ _ (by decide),aG _ _ (by decide),aG _ _ (by decide)]
   |4,_=>rw[aG _ _ (by decide),aG _ _ (by decide),dq,dq]
   |5,_=>rw[aG _ _ (by decide),aG _ _ (by decide),aG _ _ (by decide),aG _ _ (by decide),aG _ _ (by decide),aG _ _ (by decide),aG _ _ (by decide),aG _ _ (by decide),aG _ _ (by decide)]
  ·have ei:i=fl.length:=by omega
   rw[show(!decide (v=nv t))=false by rw[decide_eq_true (fin ei)];rfl];refine jH ?_;rw[ei,auX,List.drop_length,axl,uh] at W1;exact kq H' W1
end
open WA (Ed Rc)
def vL(st:WS)(was:List (Addr×List V)):Nat->List V:=fun i=>if i=0 then st.met.map ov else if i=1 then st.head.map ov else if i=2 then aq st.trail.reverse else if i=3 then(was.map fun x=>V.ref x.1).reverse else if i=4 then aq st.waiting.reverse else aq st.heads.reverse
structure mG(c:Addr)(H0 H:Hp)(L:gf)(st:WS)(was:List (Addr×List V)):Prop where
 wk:Wk c H0 H L (st.count:Int) (vL st was) was
 ways:was.map (·.2)=st.ways.map aq
section
variable{P:Program}{w:World}{K:atQ}{mg:Str->Option Value}{base:Heap}
def ae6(N t:Nat)(tr:List Nat)(rest:List (List Nat))(st st':WS):Prop:=
 (st.heads.head? ≠some t/\st'={st with trail:=tr,ways:=rest})\/
 ∃hs sg wr,st.heads=t::hs/\st.waiting=sg++t::wr/\st'={st with trail:=tr,ways:=rest,heads:=hs,waiting:=wr,met:=dw st.met (sg++[t]) N,head:=dw st.head (sg++[t]) t}
def Tz(K:atQ)(c:Addr):Sp:=fun vs H Q _=>∃(H0:Hp)(L:gf)(st:WS)(was:List (Addr×List V))(adj:List (List Nat))(N t:Nat)(tr ws:List Nat)(rest:List (List Nat))(bU:List V),vs=[.ref L.p]/\mG c H0 H L st was/\fc adj N st/\st.trail=t::tr/\st.ways=ws::rest/\
 ak K H0 L.g bU/\bU.length=N/\∀(H':Hp)(st':WS)(BL:List (Addr×List V)),mG c H0 H' L st' BL->ae6 N t tr rest st st'->Q .non H'
theorem TF:bR ["self","node"] ["self"] (aU Bc):=⟨rfl,rfl,rfl,by decide +kernel,rfl,by decide +kernel,by decide +kernel⟩
theorem ae7{f fE c cR cM:Addr}{fd rJ:FuncData}(F:aY K "leave" "Walk.leave" Bc f fd)(T:TW K c)(X:Txt K mg cR cM)
  (FE:aY K "end_part" "Walk.end_part" xM fE rJ) (bE:Binds K rJ ["self","head"] []) (mE:Meth K c "end_part" fE):aJ P w K mg base aZ 2 f fd ["self"] (Tz K c):=by
 have GE:aJ P w K mg base aZ 1 fE rJ ["self","head"] (Tv K c):=ae1 FE T X;refine F.ok TF (fun vs H Q E h=>?_) (fun cdv A outer s H vs Q E hr h=>?_)
 ·obtain⟨H0,L,st,was,adj,N,t,tr,ws,rest,bU,rfl,_⟩:=h;rfl
 ·obtain⟨H0,L,st,was,adj,N,t,tr,ws,rest,bU,rfl,W,I,et,ew,hg,jQ,kq⟩:=h;refine⟨_,aD (bf (i:=1) TF.nd rfl (atV rfl) (sW auB avP av4 uM (bh (pv 0) rfl)))
   (aD (dY (sW auB avP av4 uM (bh (pv 0) rfl)))
   (aH (cZ (cF dR (dN eF (bh (pv 0) rfl) (uG uH bW) (fun _ _=>rfl)) (pv 1) (bY _))
    (aD (dY (sW auB avP av4 uM (bh (pv 0) rfl)))
    (aH (dY (dZ (pv 0) T.cl mE GE hr bE .nil bA (aj (pv 1) aA))))) dm))),?_⟩
  obtain⟨x,gn,Jx⟩:∃x gn,was=x::gn:=by
   cases q:was with
   |nil=>
    have:=W.ways;rw[q,ew] at this;cases this
   |cons x l=>exact⟨x,l,rfl⟩
  subst Jx;have HJ:t∈st.waiting:=I.tw t (by rw[et];exact at7 ..);obtain⟨h,hs,eh⟩:∃h hs,st.heads=h::hs:=by
   obtain⟨h0,H0'⟩:=I.has t HJ;cases q:st.heads with
   |nil=>have:=H0'.mem;rw[q] at this;simp at this
   |cons a l=>exact⟨a,l,rfl⟩
  have w1:gn.map (·.2)=rest.map aq:=by
   have:=W.ways;rw[ew,auf,auf] at this;exact(avl this).2
  have W0:=W.wk;have o2:=W0.own 2 (by decide);have c2:vL st (x::gn) 2=aq tr.reverse++[nv t]:=by show aq st.trail.reverse=_;rw[et,ug]
  rw[c2] at o2;refine⟨_,rfl,L.p,c,L.dx,_,_,rfl,W0.ins,T.cl,T.n2,Js _ _,.inl ⟨rfl,_,ak.of o2⟩,L.a 2,_,_,rfl,rfl,o2,vJ _ _,?_⟩;rw[vK];have W1:=W0.set (i:=2) (by decide) (aq tr.reverse);generalize upd H (L.a 2) (.lst (aq tr.reverse))=H1 at W1;have o3:=W1.own 3 (by decide);have c3:put (vL st (x::gn)) 2 (aq tr.reverse) 3=(gn.map fun x=>V.ref x.1).reverse++[V.ref x.1]:=by rw[aG _ _ (by decide)];show(awO _ (x::gn)).reverse=_;rw[auf,avO]
  rw[c3] at o3;refine⟨_,rfl,L.p,c,L.dx,_,_,rfl,W1.ins,T.cl,T.n3,Jt _ _,.inl ⟨rfl,_,ak.of o3⟩,L.a 3,_,_,rfl,rfl,o3,vJ _ _,?_⟩;rw[vK];have W2:=(W1.set (i:=3) (by decide) (gn.map fun x=>V.ref x.1).reverse).less;generalize upd H1 (L.a 3) (.lst (gn.map fun x=>V.ref x.1).reverse)=H2 at W2;have o5:=W2.own 5 (by decide);have c5:put (put (vL st (x::gn)) 2 (aq tr.reverse)) 3 (gn.map fun x=>V.ref x.1).reverse 5=aq hs.reverse++[nv h]:=by rw[aG _ _ (by decide),aG _ _ (by decide)];show aq st.heads.reverse=_;rw[eh,ug]
  rw[c5] at o5;refine⟨_,rfl,L.p,c,L.dx,_,_,rfl,W2.ins,T.cl,T.n5,yc _ _,_,rfl,L.a 5,_,_,_,rfl,rfl,ak.of o5,Eu _ _,_,rfl,rfl,_,rfl,eY (fun d=>?_) (fun d=>?_)⟩
  ·have eht:h=t:=by
    have z:=of_decide_eq_true d;have:=V.int.inj z;omega
   subst eht;refine⟨_,rfl,L.p,c,L.dx,_,_,rfl,W2.ins,T.cl,T.n5,yc _ _,.inl ⟨rfl,_,ak.of o5⟩,L.a 5,_,_,rfl,rfl,o5,vJ _ _,?_⟩;rw[vK];have W3:=W2.set (i:=5) (by decide) (aq hs.reverse);generalize upd H2 (L.a 5) (.lst (aq hs.reverse))=H3 at W3;obtain⟨sg,wr,eq⟩:=List.append_of_mem HJ;have wd:=I.tR;rw[eq,axx] at wd;have hts:h∉sg:=fun hm=>by
    have:=wd.2.2 h hm h (at7 ..);omega
   have afa:∀y,y∈sg++[h]->y<N:=fun y hy=>by
    refine(I.lZ y ?_).1;rw[eq];rcases aus.mp hy with hy|hy
    ·exact aus.mpr (.inl hy)
    ·rw[auE.mp hy];exact aus.mpr (.inr (at7 ..))
   refine⟨_,rfl,L.p,L.dx,_,rfl,W3.ins,rfl,_,rfl,H0,L,_,_,gn,h,N,st.met,st.head,sg,wr,bU,rfl,W3,hg,jQ,?_,?_,?_,I.nZ,I.hlen,afa,hts,fun H4 W4=>?_⟩
   ·rw[aG _ _ (by decide),aG _ _ (by decide),aG _ _ (by decide)];rfl
   ·rw[aG _ _ (by decide),aG _ _ (by decide),aG _ _ (by decide)];rfl
   ·rw[aG _ _ (by decide),aG _ _ (by decide),aG _ _ (by decide)];show aq st.waiting.reverse=_;rw[eq]
   ·refine kq H4 {st with trail:=tr,ways:=rest,heads:=hs,waiting:=wr,met:=dw st.met (sg++[h]) N,head:=dw st.head (sg++[h]) h} gn ⟨W4.oG fun i hi=>?_,w1⟩ (.inr ⟨hs,sg,wr,eh,eq,rfl⟩)
    match i,hi with
    |0,_=>rw[aG _ _ (by decide),aG _ _ (by decide),dq];rfl
    |1,_=>rw[aG _ _ (by decide),dq];rfl
    |2,_=>rw[aG _ _ (by decide),aG _ _ (by decide),aG _ _ (by decide),aG _ _ (by decide),aG _ _ (by decide),dq];rfl
    |3,_=>rw[aG _ _ (by decide),aG _ _ (by decide),aG _ _ (by decide),aG _ _ (by decide),dq];rfl
    |4,_=>rw[dq];rfl
    |5,_=>rw[aG _ _ (by decide),aG _ _ (by decide),aG _ _ (by decide),dq];rfl
  ·have hne:h≠t:=fun q=>d (by rw[q];exact decide_eq_true rfl)
   refine kq H2 {st with trail:=tr,ways:=rest} gn ⟨W2.oG fun i hi=>?_,w1⟩ (.inl ⟨by rw[eh];intro q;exact hne (aub q),rfl⟩)
   match i,hi with
   |0,_=>rw[aG _ _ (by decide),aG _ _ (by decide)];rfl
   |1,_=>rw[aG _ _ (by decide),aG _ _ (by decide)];rfl
   |2,_=>rw[aG _ _ (by decide),dq];rfl
   |3,_=>rw[dq];rfl
   |4,_=>rw[aG _ _ (by decide),aG _ _ (by decide)];rfl
   |5,_=>rw[aG _ _ (by decide),aG _ _ (by decide)];rfl
def TJ(K:atQ)(c:Addr):Sp:=fun vs H Q _=>∃(H0:Hp)(p dx g:Addr)(bU:List V)(N:Nat),vs=[.ref p,.ref g]/\H p=some (.ins c dx [])/\H0 p=none/\Same H0 H/\ak K H0 g bU/\bU.length=N/\N<=10000/\
 ∀(H':Hp)(L:gf),L.p=p->L.g=g->mG c H0 H' L (WS.start N) []->Q .non H'
theorem afb:bR ["self","graph"] ["self","graph"] (aU Az):=⟨rfl,rfl,rfl,by decide +kernel,rfl,by decide +kernel,by decide +kernel⟩
theorem TQ(k:Nat):(auk k [V.non]).flatten=(auk k (none:Option Nat)).map ov:=by
 induction k with
 |zero=>rfl
 |succ k ih=>
  rw[avs,avX,ih,avs,auf];rfl
theorem _root_.L2.Same.fld{H0 H:Hp}{p r:Addr}{o u:HO}(s:Same H0 H)(hp:H0 p=none)(hr:H r=none):Same H0 (upd (upd H r o) p u):=fun b x e=>by
 rw[au (aV e hp),au (aV (s b x e) hr)];exact s b x e
theorem afc{f c cR cM:Addr}{fd:FuncData}(F:aY K "__init__" "Walk.__init__" Az f fd)(T:TW K c)(X:Txt K mg cR cM):aJ P w K mg base aZ 1 f fd ["self","graph"] (TJ K c):=by
 refine F.ok afb (fun vs H Q E h=>?_) (fun cdv A outer s H vs Q E hr h=>?_)
 ·obtain⟨H0,p,dx,g,bU,N,rfl,_⟩:=h;rfl
 ·obtain⟨H0,p,dx,g,bU,N,rfl,hp,hp0,s0,hg,jQ,hN,k⟩:=h;refine⟨_,aD (gP (pv 0) (pv 1) rfl)
   (aD (gP (pv 0) (iC Fb (dD (aj rZ aA)) (dU jb rfl X.len auL (aj (pv 1) aA))) rfl)
   (aD (gP (pv 0) bW rfl)
   (aD (gP (pv 0) (iC Fb (dD (aj rZ aA)) (dU jb rfl X.len auL (aj (pv 1) aA))) rfl)
   (aD (gP (pv 0) (dD aA) rfl)
   (aD (gP (pv 0) (dD aA) rfl)
   (aD (gP (pv 0) (dD aA) rfl)
   (aH (gP (pv 0) (dD aA) rfl)))))))),?_⟩
  have step:∀(H1:Hp)(fs:List (Str×V))(f:Str)(xs:List V)(r:Addr)(B:List (Addr×List V)),H1 p=some (.ins c dx fs)->Same H0 H1->(∀x,x∈B->H1 x.1=some (.lst x.2)/\H0 x.1=none)->(B.map (·.1)).Nodup->H1 r=none->
    (upd (upd H1 r (.lst xs)) p (.ins c dx (ao f (.ref r) fs))) p=some (.ins c dx (ao f (.ref r) fs))/\Same H0 (upd (upd H1 r (.lst xs)) p (.ins c dx (ao f (.ref r) fs)))/\
    (∀x,x∈(r,xs)::B->(upd (upd H1 r (.lst xs)) p (.ins c dx (ao f (.ref r) fs))) x.1=some (.lst x.2)/\H0 x.1=none)/\(((r,xs)::B).map (·.1)).Nodup:=fun H1 fs f xs r B h1 h2 h3 h4 h5=>by
   have rp:r≠p:=(aV h1 h5).symm;refine⟨aC,Same.fld h2 hp0 h5,fun x hx=>?_,?_⟩
   ·rcases at3.mp hx with e|hx
    ·rw[e];exact⟨by rw[au rp];exact aC,Same.free h2 h5⟩
    ·obtain⟨q1,q2⟩:=h3 x hx;exact⟨by rw[au (bx q1 h1 (by intro q;cases q)),au (aV q1 h5)];exact q1,q2⟩
   ·rw[auf,au8];refine⟨fun hm=>?_,h4⟩;obtain⟨x,hx,e⟩:=at6.mp hm;have:=(h3 x hx).1;rw[e,h5] at this;cases this
  refine⟨_,rfl,_,rfl,p,c,dx,[],rfl,hp,T.cl,T.nG,(by show 0<1000;decide),?_⟩;have p1:(upd H p (.ins c dx (ao "graph" (.ref g) []))) p=some (.ins c dx (ao "graph" (.ref g) [])):=aC;have s1:Same H0 (upd H p (.ins c dx (ao "graph" (.ref g) []))):=fun b o e=>by rw[au (aV e hp0)];exact s0 b o e
  generalize upd H p (.ins c dx (ao "graph" (.ref g) []))=H1 at p1 s1;refine⟨(by show 1<=sizeLine;decide),fun l1 hl1=>?_⟩;have s1':Same H1 (upd H1 l1 (.lst [.non])):=Same.laid hl1;refine⟨_,rfl,g,bU,rfl,.inl (Same.seq (Same.trans s1 s1') hg),l1,(N:Int),_,rfl,by rw[jQ],aC,by omega,by omega,by rw[auh];show 1*N<=sizeLine;rw[aw1];exact small (by omega),fun a0 ha0=>?_⟩;rw[auh,TQ];refine⟨_,rfl,p,c,dx,_,rfl,by rw[au (aV (s1' _ _ p1) ha0)];exact s1' _ _ p1,T.cl,T.n0,(by show 1<1000;decide),?_⟩;obtain⟨p2,s2,b2,n2⟩:=step _ _ "met" ((auk N (none:Option Nat)).map ov) a0 [] (s1' _ _ p1) (Same.trans s1 s1') (fun x hx=>by simp at hx) (by simp) ha0;generalize upd (upd (upd H1 l1 (.lst [.non])) a0 (.lst ((auk N (none:Option Nat)).map ov))) p (.ins c dx (ao "met" (.ref a0) (ao "graph" (.ref g) [])))=H2 at p2 s2 b2;refine⟨_,rfl,p,c,dx,_,rfl,p2,T.cl,T.nC,(by show 2<1000;decide),?_⟩;have p3:(upd H2 p (.ins c dx (ao "count" (.int 0) (ao "met" (.ref a0) (ao "graph" (.ref g) []))))) p=some (.ins c dx (ao "count" (.int 0) (ao "met" (.ref a0) (ao "graph" (.ref g) [])))):=aC;have s3:Same H0 (upd H2 p (.ins c dx (ao "count" (.int 0) (ao "met" (.ref a0) (ao "graph" (.ref g) []))))):=fun b o e=>by rw[au (aV e hp0)];exact s2 b o e
  have b3:∀x,x∈[(a0,(auk N (none:Option Nat)).map ov)]->(upd H2 p (.ins c dx (ao "count" (.int 0) (ao "met" (.ref a0) (ao "graph" (.ref g) []))))) x.1=some (.lst x.2)/\H0 x.1=none:=fun x hx=>by
   obtain⟨q1,q2⟩:=b2 x hx;exact⟨by rw[au (bx q1 p2 (by intro q;cases q))];exact q1,q2⟩
  generalize upd H2 p (.ins c dx (ao "count" (.int 0) (ao "met" (.ref a0) (ao "graph" (.ref g) []))))=H3 at p3 s3 b3;refine⟨(by show 1<=sizeLine;decide),fun l2 hl2=>?_⟩;have rB:Same H3 (upd H3 l2 (.lst [.non])):=Same.laid hl2;refine⟨_,rfl,g,bU,rfl,.inl (Same.seq (Same.trans s3 rB) hg),l2,(N:Int),_,rfl,by rw[jQ],aC,by omega,by omega,by rw[auh];show 1*N<=sizeLine;rw[aw1];exact small (by omega),fun a1 ha1=>?_⟩;rw[auh,TQ];refine⟨_,rfl,p,c,dx,_,rfl,by rw[au (aV (rB _ _ p3) ha1)];exact rB _ _ p3,T.cl,T.n1,(by show 3<1000;decide),?_⟩;obtain⟨p4,s4,b4,n4⟩:=step _ _ "head" ((auk N (none:Option Nat)).map ov) a1 _ (rB _ _ p3) (Same.trans s3 rB) (fun x hx=>⟨rB _ _ (b3 x hx).1,(b3 x hx).2⟩) n2 ha1;generalize upd (upd (upd H3 l2 (.lst [.non])) a1 (.lst ((auk N (none:Option Nat)).map ov))) p (.ins c dx (ao "head" (.ref a1) (ao "count" (.int 0) (ao "met" (.ref a0) (ao "graph" (.ref g) [])))))=H4 at p4 s4 b4;refine⟨aul _,fun a2 ha2=>?_⟩;refine⟨_,rfl,p,c,dx,_,rfl,by rw[au (aV p4 ha2)];exact p4,T.cl,T.n2,(by show 4<1000;decide),?_⟩;obtain⟨p5,s5,b5,n5⟩:=step _ _ "trail" [] a2 _ p4 s4 b4 n4 ha2;generalize upd (upd H4 a2 (.lst [])) p (.ins c dx (ao "trail" (.ref a2) (ao "head" (.ref a1) (ao "count" (.int 0) (ao "met" (.ref a0) (ao "graph" (.ref g) []))))))=H5 at p5 s5 b5;refine⟨aul _,fun a3 ha3=>?_⟩;refine⟨_,rfl,p,c,dx,_,rfl,by rw[au (aV p5 ha3)];exact p5,T.cl,T.n3,(by show 5<1000;decide),?_⟩;obtain⟨p6,s6,b6,n6⟩:=step _ _ "ways" [] a3 _ p5 s5 b5 n5 ha3;generalize upd (upd H5 a3 (.lst [])) p (.ins c dx (ao "ways" (.ref a3) (ao "trail" (.ref a2) (ao "head" (.ref a1) (ao "count" (.int 0) (ao "met" (.ref a0) (ao "graph" (.ref g) [])))))))=H6 at p6 s6 b6;refine⟨aul _,fun a4 BP=>?_⟩;refine⟨_,rfl,p,c,dx,_,rfl,by rw[au (aV p6 BP)];exact p6,T.cl,T.n4,(by show 6<1000;decide),?_⟩;obtain⟨p7,s7,b7,n7⟩:=step _ _ "waiting" [] a4 _ p6 s6 b6 n6 BP;generalize upd (upd H6 a4 (.lst [])) p (.ins c dx (ao "waiting" (.ref a4) (ao "ways" (.ref a3) (ao "trail" (.ref a2) (ao "head" (.ref a1) (ao "count" (.int 0) (ao "met" (.ref a0) (ao "graph" (.ref g) []))))))))=H7 at p7 s7 b7;refine⟨aul _,fun a5 TV=>?_⟩;refine⟨_,rfl,p,c,dx,_,rfl,by rw[au (aV p7 TV)];exact p7,T.cl,T.n5,(by show 7<1000;decide),?_⟩;obtain⟨p8,s8,b8,n8⟩:=step _ _ "heads" [] a5 _ p7 s7 b7 n7 TV;refine k _ ⟨p,dx,g,[a0,a1,a2,a3,a4,a5]⟩ rfl rfl ⟨⟨p8,fun i hi=>?_,fun i j hi hj e=>?_,fun x hx=>by simp at hx,by simp,hp0,fun i hi=>?_,fun x hx=>by simp at hx,s8⟩,rfl⟩
  ·match i,hi with
   |0,_=>exact(b8 (a0,(auk N (none:Option Nat)).map ov) (by simp)).1
   |1,_=>exact(b8 (a1,(auk N (none:Option Nat)).map ov) (by simp)).1
   |2,_=>exact(b8 (a2,[]) (by simp)).1
   |3,_=>exact(b8 (a3,[]) (by simp)).1
   |4,_=>exact(b8 (a4,[]) (by simp)).1
   |5,_=>exact(b8 (a5,[]) (by simp)).1
  ·have vM:[a5,a4,a3,a2,a1,a0].Nodup:=n8;have n9:[a0,a1,a2,a3,a4,a5].Nodup:=by
    have h:[a5,a4,a3,a2,a1,a0].reverse.Nodup:=by
     unfold avK;rw[List.pairwise_reverse];exact awo (fun h=>Ne.symm h) vM
    exact h
   have h1:i<[a0,a1,a2,a3,a4,a5].length:=hi;have h2:j<[a0,a1,a2,a3,a4,a5].length:=hj;have e':[a0,a1,a2,a3,a4,a5].getD i 0=[a0,a1,a2,a3,a4,a5].getD j 0:=e;rw[at5,at5,atY h1,atY h2] at e';exact(av6 n9).mp e'
  ·match i,hi with
   |0,_=>exact(b8 (a0,(auk N (none:Option Nat)).map ov) (by simp)).2
   |1,_=>exact(b8 (a1,(auk N (none:Option Nat)).map ov) (by simp)).2
   |2,_=>exact(b8 (a2,[]) (by simp)).2
   |3,_=>exact(b8 (a3,[]) (by simp)).2
   |4,_=>exact(b8 (a4,[]) (by simp)).2
   |5,_=>exact(b8 (a5,[]) (by simp)).2
structure ye(K:atQ)(H:Hp)(g:Addr)(adj:List (List Nat)):Prop where
 ex:∃bU:List Addr,ak K H g (bU.map V.ref)/\bU.length=adj.length/\∀(e:Nat)(x:Addr)(out:List Nat),bU[e]?=some x->adj[e]?=some out->ak K H x (aq out)
theorem ye.same{K:atQ}{H H':Hp}{g:Addr}{adj:List (List Nat)}(G:ye K H g adj)(s:Same H H'):ye K H' g adj:=by
 obtain⟨bU,h1,h2,h3⟩:=G.ex;exact⟨bU,Same.seq s h1,h2,fun e x out a b=>Same.seq s (h3 e x out a b)⟩
def BR(K:atQ):Sp:=fun vs H Q _=>∃(g:Addr)(adj:List (List Nat)),vs=[.ref g]/\ye K H g adj/\0<adj.length/\adj.length<=10000/\(∀u v,Ed adj u v->v<adj.length)/\(∀u,(adj.getD u []).length<=100)/\(∀v,v<adj.length->Rc (Ed adj) 0 v)/\
 ∀(H':Hp)(p:Addr)(hs:List Nat),H p=none->H' p=some (.lst (aq (bD hs).1))->hs.length=adj.length->(∀a b,a<adj.length->b<adj.length->(hs.getD a 0=hs.getD b 0↔Rc (Ed adj) b a/\Rc (Ed adj) a b))->Same H H'->Q (.ref p) H'
theorem BV:bR ["graph","walk","ways","node"] ["graph"] (aU HX):=⟨rfl,rfl,rfl,by decide +kernel,rfl,by decide +kernel,by decide +kernel⟩
theorem Jy{n:Nat}{l:List Nat}(hl:l.Nodup)(h:∀x,x∈l->x<n)(hn:n<=10000):(aq l.reverse).length<sizeLine:=by
 have:=WA.lU n l hl h;rw[atR,awb];exact cP (by omega)
theorem Jz{l:List Nat}{f:Nat->Nat}(h:l.Pairwise fun a b=>f b<f a):l.Nodup:=awo (fun{a b} hab e=>by rw[e] at hab;omega) h
theorem afd{c:Addr}{H0 H:Hp}{L:gf}{st:WS}{was:List (Addr×List V)}{adj:List (List Nat)}{N:Nat}(W:mG c H0 H L st was)(I:fc adj N st)(hN:N<=10000):∀i,i<6->(vL st was i).length<sizeLine:=fun i hi=>by
 have lt:(aq st.trail.reverse).length<sizeLine:=Jy (Jz I.vg) (fun x hx=>(I.lZ x (I.tw x hx)).1) hN
 match i,hi with
 |0,_=>show(st.met.map ov).length<sizeLine;rw[atR,I.nZ];exact cP (by omega)
 |1,_=>show(st.head.map ov).length<sizeLine;rw[atR,I.hlen];exact cP (by omega)
 |2,_=>exact lt
 |3,_=>
  show(was.map fun x=>V.ref x.1).reverse.length<sizeLine;have e:=congrArg avq W.ways;rw[atR,atR,<-I.tl] at e;rw[atR,awb,<-e] at lt;rw[awb,atR];exact lt
 |4,_=>exact Jy (Jz I.tR) (fun x hx=>(I.lZ x hx).1) hN
 |5,_=>exact Jy (Jz I.hdec) (fun x hx=>(I.lZ x (I.tw x (I.ht x hx))).1) hN
theorem mG.entered{c:Addr}{H0 H:Hp}{L:gf}{st:WS}{was:List (Addr×List V)}{v:Nat}{a:Addr}{out:List Nat}(hw:was.map (·.2)=st.ways.map aq)(W:Wk c H0 H L ((st.count:Int)+1) (Tn (vL st was) (st.count:Int) v a) ((a,aq out)::was)):mG c H0 H L (st.enter out v) ((a,aq out)::was):=by
 refine⟨?_,?_⟩
 ·have e:((st.enter out v).count:Int)=(st.count:Int)+1:=by show((st.count+1:Nat):Int)=_;omega
  rw[e];refine W.oG fun i hi=>?_
  match i,hi with
  |0,_=>exact Jv _ _ _
  |1,_=>rfl
  |2,_=>exact(ug _ _).symm
  |3,_=>show _=(awO _ ((a,aq out)::was)).reverse;rw[auf,avO];rfl
  |4,_=>exact(ug _ _).symm
  |5,_=>exact(ug _ _).symm
 ·show aq out::was.map (·.2)=aq out::st.ways.map aq;rw[hw]
theorem jn{b:Bool}{p q:Prop}(h:b=true)(hp:p):if b=true then p else q:=by rw[if_pos h];exact hp
theorem bu{b:Bool}{p q:Prop}(h:b=false)(hq:q):if b=true then p else q:=by rw[if_neg (by rw[h];decide)];exact hq
theorem afe{f cW fI JB fJ fL fE fN cR cM:Addr}{fd gq JC JD JF rJ pZ:FuncData}(F:aY K "parts" "parts" HX f fd)(T:TW K cW)(X:Txt K mg cR cM)(mW:mg "Walk"=some (.ref cW))(M:Mk K cW fI)
  (FI:aY K "__init__" "Walk.__init__" Az fI gq) (bI:Binds K gq ["self","graph"] [])
  (FEn:aY K "enter" "Walk.enter" Ba JB JC) (TX:Binds K JC ["self","node"] []) (TY:Meth K cW "enter" JB)
  (FJ:aY K "join_back_to" "Walk.join_back_to" Bb fJ JD) (bJ:Binds K JD ["self","node"] []) (mJ:Meth K cW "join_back_to" fJ)
  (FL:aY K "leave" "Walk.leave" Bc fL JF) (bL:Binds K JF ["self"] []) (mL:Meth K cW "leave" fL)
  (FE:aY K "end_part" "Walk.end_part" xM fE rJ) (bE:Binds K rJ ["self","head"] []) (mE:Meth K cW "end_part" fE)
  (FN:aY K "numbered" "numbered" pU fN pZ) (bN:Binds K pZ ["marks"] []) (mN:mg "numbered"=some (.ref fN)):aJ P w K mg base aZ 3 f fd ["graph"] (BR K):=by
 have GI:aJ P w K mg base aZ 1 fI gq ["self","graph"] (TJ K cW):=afc FI T X;have T3:aJ P w K mg base aZ 1 JB JC ["self","node"] (Tp K cW):=aeX FEn T X;have GJ:aJ P w K mg base aZ 1 fJ JD ["self","node"] (Tq K cW):=ae0 FJ T X;have GL:aJ P w K mg base aZ 2 fL JF ["self"] (Tz K cW):=ae7 FL T X FE bE mE;have GN:aJ P w K mg base aZ 1 fN pZ ["marks"] (Te K):=aeT FN X;refine F.ok BV (fun vs H Q E h=>?_) (fun cdv A outer s H vs Q E hr h=>?_)
 ·obtain⟨g,adj,rfl,_⟩:=h;rfl
 ·obtain⟨g,adj,rfl,G,hn0,hn1,hE,hD,hR,k⟩:=h;have hr1:bQ 1 _:=hr.mono (by decide);refine⟨_,aD (bf (i:=1) BV.nd rfl (atV rfl) (wG M GI hr rfl mW bI .nil bA (aj (pv 0) aA)))
   (aD (dY (dZ (pv 1) T.cl TY T3 hr1 TX .nil bA (aj bW aA)))
   (aD (qF PassesOwn.never (yZ (bh (pv 1) rfl) (by intro _;rfl))
    (aD (bf (i:=2) BV.nd rfl (atV rfl) (dN eF (bh (pv 1) rfl) (uG uH bW) (fun _ _=>rfl)))
    (aD (cZ (MN (yZ (pv 2) (by intro _;rfl))) (aD (dY (gj (pv 1) T.cl mL GL hr bL .nil bA)) (aH Xn)) dm)
    (aD (bf (i:=3) BV.nd rfl (atV rfl) (sW auB avP av4 uM (pv 2)))
    (aH (cZ (uD (MF (dN eF (bh (pv 1) rfl) (pv 3) (fun _ _=>rfl))))
     (aH (dY (dZ (pv 1) T.cl TY T3 hr1 TX .nil bA (aj (pv 3) aA))))
     (aH (dY (dZ (pv 1) T.cl mJ GJ hr1 bJ .nil bA (aj (pv 3) aA))))))))))
   (aH (bz (cu GN hr1 rfl mN FN.kp bN .nil bA (aj (bh (pv 1) rfl) aA)))))),?_⟩
  obtain⟨bU,hg,jQ,hgo⟩:=G.ex;refine⟨_,rfl,fun x dx nx ndx ne=>?_⟩;refine⟨H,x,dx,g,_,adj.length,rfl,?_,nx,?_,hg,by rw[atR,jQ],hn1,fun H1 L ep eg W0=>?_⟩
  ·exact aC
  ·intro b o e;rw[au (aV e nx),au (aV e ndx)];exact e
  subst ep eg;have T4:∀v,v<adj.length->∃x,(bU.map V.ref)[v]?=some (.ref x)/\ak K H x (aq (adj.getD v [])):=fun v hv=>by
   have hv':v<bU.length:=by omega
   refine⟨bU[v],by rw[aui,atY hv'];rfl,hgo v _ _ (atY hv') ?_⟩;rw[at5,atY hv];rfl
  obtain⟨x0,hx0,afh⟩:=T4 0 hn0;refine⟨rfl,_,rfl,L.p,L.dx,_,rfl,W0.wk.ins,rfl,H,L,_,_,[],0,_,x0,_,rfl,W0.wk,?_,hg,hx0,afh,?_,fun H2 a W2=>?_⟩
  ·show 0<((auk adj.length none).map ov).length;rw[atR,awy];exact hn0
  ·intro i hi
   match i,hi with
   |0,_=>show((auk adj.length none).map ov).length<sizeLine;rw[atR,awy];exact cP (by omega)
   |1,_=>show((auk adj.length none).map ov).length<sizeLine;rw[atR,awy];exact cP (by omega)
   |2,_=>show 0<sizeLine;exact cP (by decide)
   |3,_=>show 0<sizeLine;exact cP (by decide)
   |4,_=>show 0<sizeLine;exact cP (by decide)
   |5,_=>show 0<sizeLine;exact cP (by decide)
  have W3:=mG.entered (st:=WS.start adj.length) (was:=[]) rfl W2;have I3:=WA.Er hn0 rfl hE;refine⟨fun m σ H'=>∃(st:WS)(was:List (Addr×List V))(v2 v3:Option V),m=st.size adj.length 100/\σ=[some (.ref L.g),some (.ref L.p),v2,v3]/\mG cW H H' L st was/\fc adj adj.length st,⟨_,_,_,_,_,rfl,rfl,W3,I3⟩,?_⟩;rintro m σ H' ⟨st,was,v2,v3,rfl,rfl,W,I⟩;have o2:H' (L.a 2)=some (.lst (aq st.trail.reverse)):=W.wk.own 2 (by decide);refine⟨_,rfl,L.p,cW,L.dx,_,_,rfl,W.wk.ins,T.cl,T.n2,Js _ _,_,.inl ⟨_,ak.of o2,rfl⟩,?_⟩;obtain⟨gt,JG⟩:∃l,l=st.trail:=⟨_,rfl⟩
  cases gt with
  |nil=>
   rw[<-JG];refine jH ?_;obtain⟨hs,eh,hsl,hsr⟩:=WA.adN I JG.symm hR hn0;have o1:H' (L.a 1)=some (.lst (st.head.map ov)):=W.wk.own 1 (by decide);have e1:st.head.map ov=aq hs:=by rw[eh,auS];rfl
   rw[e1] at o1;refine⟨_,rfl,L.p,cW,L.dx,_,_,rfl,W.wk.ins,T.cl,T.n1,Ti _ _,L.a 1,hs,rfl,ak.of o1,by omega,fun H5 p hp hp' s5=>?_⟩;exact k H5 p hs (Same.free W.wk.same hp) hp' hsl hsr (Same.trans W.wk.same s5)
  |cons t tr=>
   have et:=JG.symm;rw[et];refine jn (by simp) ?_;refine⟨fun σ' cH=>∃m',m'<st.size adj.length 100/\∃(st:WS)(was:List (Addr×List V))(v2 v3:Option V),m'=st.size adj.length 100/\σ'=[some (.ref L.g),some (.ref L.p),v2,v3]/\mG cW H cH L st was/\fc adj adj.length st,fun σ' cH h=>h,?_⟩;obtain⟨ws,rest,ew⟩:∃ws rest,st.ways=ws::rest:=by
    have:=I.tl;rw[et] at this;cases q:st.ways with
    |nil=>rw[q] at this;cases this
    |cons a l=>exact⟨a,l,rfl⟩
   obtain⟨aw,ys,gn,Jx⟩:∃aw ys gn,was=(aw,ys)::gn:=by
    cases q:was with
    |nil=>have:=W.ways;rw[q,ew] at this;cases this
    |cons x l=>exact⟨x.1,x.2,l,rfl⟩
   subst Jx;have hw:=W.ways;rw[ew,auf,auf] at hw;obtain⟨hys,hw1⟩:=avl hw;have hys:ys=aq ws:=hys;subst hys;have o3:H' (L.a 3)=some (.lst ((gn.map fun x=>V.ref x.1).reverse++[V.ref aw])):=by
    have:=W.wk.own 3 (by decide);rw[this];show some (HO.lst (awO _ ((aw,aq ws)::gn)).reverse)=_;rw[auf,avO]
   have BW:H' aw=some (.lst (aq ws)):=(W.wk.ew _ (at7 ..)).1;refine⟨_,rfl,L.p,cW,L.dx,_,_,rfl,W.wk.ins,T.cl,T.n3,Jt _ _,_,rfl,L.a 3,_,_,_,rfl,rfl,ak.of o3,Eu _ _,?_⟩;refine⟨_,rfl,_,.inl ⟨_,ak.of BW,rfl⟩,?_⟩;rcases List.eq_nil_or_concat ws with yf|⟨ws',v,yf⟩
   ·subst yf;refine jn rfl ?_;refine⟨_,rfl,L.p,L.dx,_,rfl,W.wk.ins,rfl,H,L,st,_,adj,adj.length,t,tr,[],rest,_,rfl,W,I,et,ew,hg,by rw[atR,jQ],fun H5 st' BL W5 hleft=>?_⟩;rcases hleft with⟨hne,rfl⟩|⟨hs,sg,wr,eh,eq,rfl⟩
    ·exact⟨_,WA.RV (st':={st with trail:=tr,ways:=rest}) et ew rfl rfl rfl,{st with trail:=tr,ways:=rest},BL,_,_,rfl,rfl,W5,WA.adK I et ew hne⟩
    ·exact⟨_,WA.RV (st':={st with trail:=tr,ways:=rest,heads:=hs,waiting:=wr,met:=dw st.met (sg++[t]) adj.length,head:=dw st.head (sg++[t]) t}) et ew rfl rfl rfl,{st with trail:=tr,ways:=rest,heads:=hs,waiting:=wr,met:=dw st.met (sg++[t]) adj.length,head:=dw st.head (sg++[t]) t},BL,_,_,rfl,rfl,W5,WA.adL I et ew eh eq⟩
   ·have yf:ws=ws'++[v]:=by rw[yf,List.concat_eq_append]
    subst yf;refine bu (by rw[xR];simp) ?_;rw[xR] at BW;refine⟨_,rfl,.inl ⟨rfl,_,ak.of BW⟩,aw,_,_,rfl,rfl,BW,vJ _ _,?_⟩;rw[vK];have W4:=W.wk.way (aq ws');generalize upd H' aw (.lst (aq ws'))=H4 at W4;have tU:Ed adj t v:=I.pQ t (ws'++[v]) (by rw[et,ew];exact at7 ..) v (by simp);have hv:v<adj.length:=hE t v tU;have Al:v<st.met.length:=by rw[I.nZ];exact hv
    have hmt:st.met[v]?=some (st.mt v):=by unfold WS.mt;rw[at5,atY Al];rfl
    have o0:H4 (L.a 0)=some (.lst (st.met.map ov)):=W4.own 0 (by decide);have vN:mG cW H H4 L {st with ways:=ws'::rest} ((aw,aq ws')::gn):=⟨W4.oG fun i hi=>by
     match i,hi with
     |0,_=>rfl
     |1,_=>rfl
     |2,_=>rfl
     |3,_=>rfl
     |4,_=>rfl
     |5,_=>rfl,by show aq ws'::gn.map (·.2)=aq ws'::rest.map aq;rw[hw1]⟩
    refine⟨_,rfl,L.p,cW,L.dx,_,_,rfl,W4.ins,T.cl,T.n0,xZ _ _,_,rfl,L.a 0,_,_,_,rfl,rfl,ak.of o0,cO rfl (Ju hmt),_,rfl,?_⟩;cases q:st.mt v with
    |none=>
     refine jn rfl ?_;obtain⟨xv,hxv,afi⟩:=T4 v hv;refine⟨_,rfl,L.p,L.dx,_,rfl,vN.wk.ins,rfl,_,rfl,H,L,_,_,_,v,_,xv,_,rfl,vN.wk,?_,hg,hxv,afi,?_,fun H5 a W5=>?_⟩
     ·show v<(st.met.map ov).length;rw[atR];exact Al
     ·have:=afd W I hn1;intro i hi
      match i,hi with
      |0,hi=>exact this 0 hi
      |1,hi=>exact this 1 hi
      |2,hi=>exact this 2 hi
      |3,hi=>exact this 3 hi
      |4,hi=>exact this 4 hi
      |5,hi=>exact this 5 hi
     ·exact⟨_,WA.adO I et ew q hD,_,_,_,_,rfl,rfl,mG.entered vN.ways W5,WA.RK I et ew q⟩
    |some kk=>
     refine bu rfl ?_;have hm:st.mt v≠none:=by rw[q];intro z;cases z
     have J:=WA.adJ I et ew hm;obtain⟨h0,Ao⟩:=I.has t (I.tw t (by rw[et];exact at7 ..));refine⟨_,rfl,L.p,L.dx,_,rfl,vN.wk.ins,rfl,_,rfl,H,L,_,_,_,v,kk,st.met,st.heads,rfl,vN.wk,rfl,rfl,fun h hh=>?_,by rw[hmt,q],?_,fun H5 W5=>?_⟩
     ·obtain⟨h1,k1,h2,_⟩:=I.lZ h (I.hw hh);refine⟨k1,?_⟩;have hhl:h<st.met.length:=by rw[I.nZ];exact h1
      rw[<-h2];unfold WS.mt;rw[at5,atY hhl];rfl
     ·have em:kk=st.mv v:=by unfold WS.mv;rw[q];rfl
      rcases I.cases v hv with z|z|z
      ·exact absurd z hm
      ·obtain⟨h1,hh1⟩:=I.has v z;refine⟨h1,hh1.mem,?_⟩;rw[em];exact hh1.le
      ·refine⟨h0,Ao.mem,?_⟩;have z':st.mt v=some adj.length:=z;rw[q] at z';have h1:=(I.ou (I.hw Ao.mem)).2;have h2:=I.Ak;have h3:=aub z';have h4:oM st.met h0=st.mv h0:=rfl;omega
     ·refine⟨_,WA.adP ew,_,_,_,_,rfl,rfl,⟨W5.oG fun i hi=>?_,vN.ways⟩,J⟩;have em:kk=st.mv v:=by unfold WS.mv;rw[q];rfl
      match i,hi with
      |0,_=>rfl
      |1,_=>rfl
      |2,_=>rfl
      |3,_=>rfl
      |4,_=>rfl
      |5,_=>rw[dq,em];rfl
end
open WA (lt aF nY sq)
def qd(M:Machine)(l:List WM):List (List Nat):=(atU l.length).map fun e=>(atU M.k).map fun a=>pr l (lt M l a) e
def ul(M:Machine)(l:List WM):List (List Nat):=(atU l.length).map fun e=>(atU M.k).map fun a=>pr l e (lt M l a)
def qe(H:Hp)(g:Addr)(adj:List (List Nat)):Prop:=∃bU:List Addr,H g=some (.lst (bU.map V.ref))/\bU.length=adj.length/\∀(e:Nat)(x:Addr)(out:List Nat),bU[e]?=some x->adj[e]?=some out->H x=some (.lst (aq out))
theorem qe.at{K:atQ}{H:Hp}{g:Addr}{adj:List (List Nat)}(G:qe H g adj):ye K H g adj:=by
 obtain⟨bU,h1,h2,h3⟩:=G;exact⟨bU,ak.of h1,h2,fun e x out a b=>ak.of (h3 e x out a b)⟩
def iz(q:Nat):Nat:=if q<=1 then 0 else if q<=2 then 1 else if q<=4 then 2 else if q<=8 then 3 else 4
def cY(r:List Nat):List Nat:=sq r (iz r.length)
def JH(l:List WM)(ps:List (List Nat×List Nat)):Prop:=∀h hh,(h,hh)∈ps↔∃e,e<l.length/\h=cY (mp l e)/\hh=then_ h (mp l e)/\h≠hh
def TurnsAt(H:Hp)(a:Addr)(ps:List (List Nat×List Nat)):Prop:=∃as:List Addr,H a=some (.lst (as.map V.ref))/\as.length=ps.length/\∀(i:Nat)(x:Addr)(h:List Nat×List Nat),as[i]?=some x->ps[i]?=some h->
 ∃u v:Addr,H x=some (.tup [.ref u,.ref v])/\H u=some (.tup (aq h.1))/\H v=some (.tup (aq h.2))
def jo(H:Hp)(v:V)(l:List Nat):Prop:=∃a,v=.ref a/\H a=some (.lst (aq l))
def names:List Str:=["before","L","R","J","H","kind","turns"]
def Entry(H:Hp)(M:Machine)(l:List WM)(x:Str)(v:V):Prop:=
 (x="before"/\∃a,v=.ref a/\qe H a (qd M l))\/(x="L"/\jo H v (aF M l 0).1)\/(x="R"/\jo H v (aF M l 1).1)\/(x="J"/\jo H v (aF M l 2).1)\/(x="H"/\jo H v (aF M l 3).1)\/
 (x="kind"/\v=nv (nY M l))\/(x="turns"/\∃a ps,v=.ref a/\TurnsAt H a ps/\JH l ps)
theorem Entry.name{H:Hp}{M:Machine}{l:List WM}{x:Str}{v:V}(e:Entry H M l x v):x∈names:=by
 unfold names;rcases e with⟨rfl,_⟩|⟨rfl,_⟩|⟨rfl,_⟩|⟨rfl,_⟩|⟨rfl,_⟩|⟨rfl,_⟩|⟨rfl,_⟩<;>simp
def fj(H H':Hp):Prop:=∀b o,H b=some o->tW o->H' b=some o
def dO(a:Addr)(H H':Hp):Prop:=∀b o,H b=some o->b≠a->H' b=some o
theorem iW(xs:List V):tW (.lst xs):=fun kvs q=>by cases q
theorem bV(xs:List V):tW (.tup xs):=fun kvs q=>by cases q
theorem T5(c d:Addr)(fs:List (Str×V)):tW (.ins c d fs):=fun kvs q=>by cases q
theorem dO.n{a:Addr}{H H':Hp}{kvs:List (bc×V)}(s:dO a H H')(h:H a=some (.dK kvs)):fj H H':=fun b o e n=>s b o e fun q=>by
 rw[q,h] at e;exact n kvs (aub e).symm
theorem _root_.L2.Same.d{a:Addr}{H H':Hp}(s:Same H H'):dO a H H':=fun b o e _=>s b o e
theorem _root_.L2.Same.n{H H':Hp}(s:Same H H'):fj H H':=fun b o e _=>s b o e
theorem dO.trans{a:Addr}{H H' cH:Hp}(s:dO a H H')(t:dO a H' cH):dO a H cH:=fun b o e n=>t b o (s b o e n) n
theorem fj.trans{H H' cH:Hp}(s:fj H H')(t:fj H' cH):fj H cH:=fun b o e n=>t b o (s b o e n) n
theorem qe.on{H H':Hp}{g:Addr}{adj:List (List Nat)}(G:qe H g adj)(s:fj H H'):qe H' g adj:=by
 obtain⟨bU,h1,h2,h3⟩:=G;exact⟨bU,s _ _ h1 (iW _),h2,fun e x out a b=>s _ _ (h3 e x out a b) (iW _)⟩
theorem TurnsAt.on{H H':Hp}{a:Addr}{ps:List (List Nat×List Nat)}(G:TurnsAt H a ps)(s:fj H H'):TurnsAt H' a ps:=by
 obtain⟨as,h1,h2,h3⟩:=G;refine⟨as,s _ _ h1 (iW _),h2,fun i x h a b=>?_⟩;obtain⟨u,v,k1,k2,k3⟩:=h3 i x h a b;exact⟨u,v,s _ _ k1 (bV _),s _ _ k2 (bV _),s _ _ k3 (bV _)⟩
theorem jo.on{H H':Hp}{v:V}{l:List Nat}(G:jo H v l)(s:fj H H'):jo H' v l:=by
 obtain⟨a,h1,h2⟩:=G;exact⟨a,h1,s _ _ h2 (iW _)⟩
theorem Entry.on{H H':Hp}{M:Machine}{l:List WM}{x:Str}{v:V}(e:Entry H M l x v)(s:fj H H'):Entry H' M l x v:=by
 rcases e with⟨h,a,h1,h2⟩|⟨h,h1⟩|⟨h,h1⟩|⟨h,h1⟩|⟨h,h1⟩|⟨h,h1⟩|⟨h,a,ps,h1,h2,h3⟩
 ·exact .inl ⟨h,a,h1,h2.on s⟩
 ·exact .inr (.inl ⟨h,h1.on s⟩)
 ·exact .inr (.inr (.inl ⟨h,h1.on s⟩))
 ·exact .inr (.inr (.inr (.inl ⟨h,h1.on s⟩)))
 ·exact .inr (.inr (.inr (.inr (.inl ⟨h,h1.on s⟩))))
 ·exact .inr (.inr (.inr (.inr (.inr (.inl ⟨h,h1⟩)))))
 ·exact .inr (.inr (.inr (.inr (.inr (.inr ⟨h,a,ps,h1,h2.on s,h3⟩)))))
theorem cX.on{c:Addr}{H H':Hp}{L:Lay}{M:Machine}{l:List WM}{S:Addr->Prop}{n:Nat}(A:cX c S H L M l n)(s:fj H H'):cX c S H' L M l n:=A.aen fun b o e n h=>⟨s b o e n,h⟩
abbrev All:Addr->Prop:=fun _=>True
structure qi(H:Hp)(a:Addr)(M:Machine)(l:List WM)(kvs:List (bc×V)):Prop where
 at_:H a=some (.dK kvs)
 nd:(kvs.map (·.1)).Nodup
 mem:∀k,k∈kvs.map (·.1)->∃x,x∈names/\k=auu x
 val:∀x v,cB kvs (auu x)=some v->Entry H M l x v
structure di(c:Addr)(H:Hp)(L:Lay)(M:Machine)(l:List WM):Prop where
 aM:Full c All H L M l
 kn:∃kvs,qi H L.aK M l kvs
theorem qi.len{H:Hp}{a:Addr}{M:Machine}{l:List WM}{kvs:List (bc×V)}(h:qi H a M l kvs):kvs.length<=7:=by
 have:=WA.lU 7 ((kvs.map (·.1)).map fun k=>match k with|aur _=>0|auu x=>names.idxOf x) ?_ ?_
 ·simpa using this
 ·unfold avK;rw[avH];refine avk (fun{x y} hx hy hne=>?_) h.nd;obtain⟨u,hu,rfl⟩:=h.mem x hx;obtain⟨v,hv,rfl⟩:=h.mem y hy;intro q;have q:names.idxOf u=names.idxOf v:=q;apply hne;have e1:names[names.idxOf u]?=some u:=by rw[atY (avj hu),avJ]
  have e2:names[names.idxOf v]?=some v:=by rw[atY (avj hv),avJ]
  rw[q,e2] at e1;rw[aub e1]
 ·intro x hx;obtain⟨k,hk,rfl⟩:=at6.mp hx;obtain⟨u,hu,rfl⟩:=h.mem k hk;exact avj hu
theorem T6{kvs:List (bc×V)}{k:bc}{v:V}(h:cB kvs k≠none):(dG kvs k v).map (·.1)=kvs.map (·.1):=by
 unfold dG;rw[if_pos (by rw[sY];cases q:cB kvs k with|none=>exact absurd q h|some _=>rfl),auS];apply avv;intro x _;dsimp only[avS]
 split<;>rfl
theorem qi.on{H H':Hp}{a:Addr}{M:Machine}{l:List WM}{kvs:List (bc×V)}(h:qi H a M l kvs)(s:fj H H')(e:H' a=some (.dK kvs)):qi H' a M l kvs:=⟨e,h.nd,h.mem,fun x v q=>(h.val x v q).on s⟩
theorem qi.put{H:Hp}{a:Addr}{M:Machine}{l:List WM}{kvs:List (bc×V)}(h:qi H a M l kvs){x:Str}{v:V}(e:Entry H M l x v):qi (upd H a (.dK (dG kvs (auu x) v))) a M l (dG kvs (auu x) v):=by
 have sn:fj H (upd H a (.dK (dG kvs (auu x) v))):=dO.n (fun b o q n=>by rw[au n];exact q) h.at_;refine⟨aC,?_,?_,fun y u hy=>?_⟩
 ·cases q:cB kvs (auu x) with
  |none=>
   rw[uP _ q,auO];have:=aaC q;rw[awT];refine⟨h.nd,by simp,fun z hz y hy w=>?_⟩;rw[ayM,auE] at hy;subst w;subst hy;exact this hz
  |some u=>
   rw[T6 (by rw[q];intro z;cases z)];exact h.nd
 ·intro k hk;cases q:cB kvs (auu x) with
  |none=>
   rw[uP _ q,auO] at hk;rcases aus.mp hk with hk|hk
   ·exact h.mem k hk
   ·rw[ayM,auE] at hk;exact⟨x,e.name,hk⟩
  |some u=>
   rw[T6 (by rw[q];intro z;cases z)] at hk;exact h.mem k hk
 ·rw[O1] at hy
  split at hy
  ·rename_i w
   cases aub hy;have:=Sum.inr.inj w;subst this;exact e.on sn
  ·exact(h.val y u hy).on sn
theorem di.sd{c:Addr}{H H':Hp}{L:Lay}{M:Machine}{l:List WM}(m:di c H L M l)(s:dO L.aK H H'):fj H H':=by
 obtain⟨kvs,h⟩:=m.kn;exact s.n h.at_
theorem di.same{c:Addr}{H H':Hp}{L:Lay}{M:Machine}{l:List WM}(m:di c H L M l)(s:Same H H'):di c H' L M l:=by
 obtain⟨kvs,h⟩:=m.kn;exact⟨m.aM.same s,kvs,h.on s.n (s _ _ h.at_)⟩
theorem di.other{c:Addr}{H H':Hp}{L:Lay}{M:Machine}{l:List WM}{a:Addr}(m:di c H L M l)(s:dO a H H')(sn:fj H H')(ne:L.aK≠a):di c H' L M l:=by
 obtain⟨kvs,h⟩:=m.kn;exact⟨m.aM.on sn,kvs,h.on sn (s _ _ h.at_ ne)⟩
section
variable{P:Program}{w:World}{K:atQ}{mg:Str->Option Value}{base:Heap}
def rK(c:Addr)(x:Str):Sp:=fun vs H Q _=>∃(L:Lay)(M:Machine)(l:List WM),vs=[.ref L.p]/\di c H L M l/\∀(H':Hp)(v:V),di c H' L M l->dO L.aK H H'->Entry H' M l x v->Q v H'
def qj(c:Addr)(x:Str)(fF:Addr):Sp:=fun vs H Q _=>∃(L:Lay)(M:Machine)(l:List WM),vs=[.ref L.p,.str x,.ref fF]/\di c H L M l/\∀(H':Hp)(v:V),di c H' L M l->dO L.aK H H'->Entry H' M l x v->Q v H'
theorem afk:bR ["self","name","find"] ["self","name","find"] (aU Aw):=⟨rfl,rfl,rfl,by decide +kernel,rfl,by decide +kernel,by decide +kernel⟩
theorem um{f fF c cR cM:Addr}{fd T7:FuncData}{x:Str}{k:Nat}(F:aY K "once" "Algebra.once" Aw f fd)(T:TA K c)(X:Txt K mg cR cM)
  (GF:aJ P w K mg base (aX P w) k fF T7 ["algebra"] (rK c x)) (kF:avp K (.ref fF)=true) (bF:Binds K T7 ["algebra"] []):aJ P w K mg base (aX P w) (k+1) f fd ["self","name","find"] (qj c x fF):=by
 refine F.eE afk (fun vs H Q E h=>?_) (fun cdv A outer s H vs Q E hr h=>?_)
 ·obtain⟨L,M,l,rfl,_⟩:=h;rfl
 ·obtain⟨L,M,l,rfl,AA,kq⟩:=h;have hu:(fG (aX P w) P w K mg base ["self","name","find"] "Algebra.once" (aU Aw) f cdv A outer s H E).A.units+1<cLine:=by have:=hr.un;show(A.deeper _).units+1<cLine;omega
  refine⟨_,aD (cZ (uD (zA hu (pv 1) (bh (pv 0) rfl)))
    (aH (wR hu (bh (pv 0) rfl) (pv 1) (aa4 2 GF hr rfl (atV rfl) kF bF .nil cG (aj (pv 0) aA)) rfl)) dm)
   (aH (bz (wQ hu (bh (pv 0) rfl) (pv 1) (fun _ _=>rfl)))),?_⟩
  obtain⟨kvs,KA⟩:=AA.kn;refine⟨_,rfl,_,rfl,L.p,c,L.dx,L.fs,_,rfl,AA.aM.ins,T.cl,T.nK,AA.aM.lK,L.aK,_,rfl,fY.k (k:=auu x) KA.at_,?_⟩;cases q:cB kvs (auu x) with
  |none=>
   refine⟨_,rfl,gZ ?_⟩;refine⟨rfl,_,rfl,L,M,l,rfl,AA,fun H1 v A1 s1 e1=>?_⟩;obtain⟨JK,K1⟩:=A1.kn;refine⟨_,rfl,L.p,c,L.dx,L.fs,_,rfl,A1.aM.ins,T.cl,T.nK,A1.aM.lK,_,rfl,L.aK,_,rfl,lG.k (k:=auu x) K1.at_ (by have:=K1.len;exact cP (by omega)),?_⟩;have K2:=K1.put e1;have s2:dO L.aK H1 (upd H1 L.aK (.dK (dG JK (auu x) v))):=fun b o q n=>by rw[au n];exact q
   have A2:di c (upd H1 L.aK (.dK (dG JK (auu x) v))) L M l:=⟨A1.aM.on (s2.n K1.at_),_,K2⟩;have hv:cB (dG JK (auu x) v) (auu x)=some v:=by rw[O1,if_pos rfl]
   have hd:=fY.k (k:=auu x) K2.at_;rw[hv] at hd;exact⟨_,rfl,L.p,c,L.dx,L.fs,_,rfl,A2.aM.ins,T.cl,T.nK,A2.aM.lK,_,rfl,L.aK,_,rfl,hd,kq _ v A2 (s1.trans s2) (K2.val _ _ hv)⟩
  |some v=>
   refine⟨_,rfl,jH ?_⟩;have hd:=fY.k (k:=auu x) KA.at_;rw[q] at hd;exact⟨_,rfl,L.p,c,L.dx,L.fs,_,rfl,AA.aM.ins,T.cl,T.nK,AA.aM.lK,_,rfl,L.aK,_,rfl,hd,kq _ v AA (fun b o e _=>e) (KA.val _ _ q)⟩
def gK(M:Machine)(l:List WM)(e:Nat):List Nat:=(atU M.k).map fun a=>pr l (lt M l a) e
def jR(M:Machine)(l:List WM)(e:Nat):List Nat:=(atU M.k).map fun a=>pr l e (lt M l a)
theorem yg{M:Machine}{l:List WM}{e:Nat}(h:e<l.length):(qd M l)[e]?=some (gK M l e):=by unfold qd;rw[aui,au5 h];rfl
theorem uo{M:Machine}{l:List WM}{e:Nat}(h:e<l.length):(ul M l)[e]?=some (jR M l e):=by unfold ul;rw[aui,au5 h];rfl
theorem BX(M:Machine)(l:List WM):(qd M l).length=l.length:=by simp[qd]
theorem yh(M:Machine)(l:List WM):(ul M l).length=l.length:=by simp[ul]
theorem afl{M:Machine}{l:List WM}(B:aQ M l){e:Nat}{row:List Nat}(he:e<l.length)(h:mq M l e M.k row):row=jR M l e:=by
 apply axA;intro a;unfold jR;rw[aui];by_cases q:a<M.k
 ·rw[au5 q,WA.nW (d:=0) (by rw[h.1];exact q)];obtain⟨h1,h2⟩:=h.2 a q;show some _=some _;rw[B.inj h1 (WA.fV B he (WA.d8 B q).1).1 (by rw[h2,WA.z7 B he q])]
 ·rw[auY (by rw[h.1];omega),auY (by simp;omega)];rfl
theorem Full.behind{c:Addr}{S:Addr->Prop}{H:Hp}{L:Lay}{M:Machine}{l:List WM}(A:Full c S H L M l):qe H L.aB (ul M l):=by
 obtain⟨cN,d1,d2,d3⟩:=A.cN;refine⟨cN,d1,by rw[d2,yh],fun e x out hx ho=>?_⟩;have he:e<l.length:=by rw[<-d2];exact(at9.mp hx).1
 obtain⟨_,row,h1,h2⟩:=d3 e x hx;rw[uo he] at ho;rw[h1,afl A.begun he h2,aub ho]
theorem afm{M:Machine}{l:List WM}(B:aQ M l):gK M l 0=jR M l 0:=by
 unfold gK jR;apply avv;intro a ha;have ha:=(WA.d8 B (at4.mp ha)).1;rw[(WA.bH B).lO ha,(WA.bH B).lQ ha]
theorem afn{M:Machine}{l:List WM}(B:aQ M l){j b:Nat}(hj:j<l.length)(hb:b<M.k):gK M l (pr l j (lt M l b))=(gK M l j).map fun x=>pr l x (lt M l b):=by
 unfold gK;rw[auS];apply avv;intro a ha;have ha:=(WA.d8 B (at4.mp ha)).1;exact((WA.bH B).assoc ha hj (WA.d8 B hb).1).symm
theorem afo{M:Machine}{l:List WM}(B:aQ M l){e:Nat}(he:e<l.length){x:Nat}(h:x∈gK M l e):x<l.length:=by
 obtain⟨a,ha,rfl⟩:=at6.mp h;exact(WA.fV B (WA.d8 B (at4.mp ha)).1 he).1
theorem afp{M:Machine}{l:List WM}(B:aQ M l){i j a:Nat}(hi:i<l.length)(hj:j<i)(h:wd l i=wd l j++[a]):a<M.k/\i=pr l j (lt M l a):=by
 have ha:a<M.k:=B.z6 hi a (by rw[h];simp);have hj':j<l.length:=by omega
 refine⟨ha,B.inj hi (WA.fV B hj' (WA.d8 B ha).1).1 ?_⟩;rw[B.xm hi,h,WA.GD,<-B.xm hj',WA.z7 B hj' ha]
theorem afq{M:Machine}{l:List WM}{e a:Nat}(ha:a<M.k):(jR M l e).getD a 0=pr l e (lt M l a):=WA.Q5 ha
theorem BZ(M:Machine)(l:List WM)(e:Nat):(jR M l e).length=M.k:=by simp[jR]
theorem Ca(M:Machine)(l:List WM)(e:Nat):(gK M l e).length=M.k:=by simp[gK]
theorem vO:bR ["algebra","before","e","letter","x"] ["algebra"] (aU Bd):=⟨rfl,rfl,rfl,by decide +kernel,rfl,by decide +kernel,by decide +kernel⟩
theorem afr{f fS c cR cM:Addr}{fd yj:FuncData}(F:aY K "put_letters_before" "put_letters_before" Bd f fd)(T:TA K c)(X:Txt K mg cR cM)
  (FS:aY K "size" "Algebra.size" Ax fS yj) (bS:Binds K yj ["self"] []) (mS:Meth K c "size" fS):aJ P w K mg base (aX P w) 2 f fd ["algebra"] (rK c "before"):=by
 have GS:aJ P w K mg base aZ 1 fS yj ["self"] (Bt c):=SM FS T X;refine F.eE vO (fun vs H Q E h=>?_) (fun cdv A outer s H vs Q E hr h=>?_)
 ·obtain⟨L,M,l,rfl,_⟩:=h;rfl
 ·obtain⟨L,M,l,rfl,AA,kq⟩:=h;refine⟨_,aD (bf (i:=1) vO.nd rfl (atV rfl) (dD (aj (dN eF (bh (pv 0) rfl) bW (fun _ _=>rfl)) aA)))
   (aD (ni qO rfl (XS rfl X.range (aj bW (aj (gj (pv 0) T.cl mS GS hr bS .nil bA) aA))) (dF (i:=2) vO.nd rfl (atV rfl))
    (aD (bf (i:=3) vO.nd rfl (atZ rfl) (dN eF (bh (pv 0) rfl) (pv 2) (fun _ _=>rfl)))
    (aH (dY (ju auB auW au4 jX (pv 1)
     (aj (jd (own:=[("x",4)]) rfl vO.nd (gW (dN eF (pv 1) (dN eF (bh (pv 0) rfl) (pv 2) (fun _ _=>rfl)) (fun _ _=>rfl))) (iU (by show iD ["algebra","before","e","letter","x"] (aU Bd) _ _=true;decide +kernel))
      (fun _ _ _ _ _=>dF (i:=4) vO.nd rfl (atV rfl)) (fun _ _ _ _ _=>jc) (fun _ _ _ _ _=>dN (r:=qI K) eF (dN (r:=qI K) eF (show PE _ _ (En K (gC 0) ("behind":Str)) from bh (pv 0) rfl) (pv 4) (fun _ _=>rfl)) (pv 3) (fun _ _=>rfl))) aA))))))
   (aH (bz (pv 1)))),?_⟩
  have BB:=AA.aM.begun;obtain⟨cN,d1,d2,d3⟩:=AA.aM.behind;rw[yh] at d2;obtain⟨ps,es,c1,c2,c3,c4,c5⟩:=AA.aM.oE;obtain⟨x0,hx0⟩:∃x,cN[0]?=some x:=⟨_,atY (by rw[d2];exact BB.pos)⟩
  refine⟨_,rfl,L.p,c,L.dx,L.fs,_,rfl,AA.aM.ins,T.cl,T.nB,AA.aM.lB,L.aB,_,_,_,rfl,rfl,ak.of d1,cO (j:=0) rfl (by rw[aui,hx0];rfl),(by show 1<=sizeLine;decide),fun B hB=>?_⟩;have hn:=AA.aM.most;have nS:=AA.aM.lM "size" (by decide +kernel) (by decide +kernel) (by decide +kernel) (by decide +kernel) (by decide +kernel) (by decide +kernel) (by decide +kernel);have s0:Same H (upd H B (.lst [.ref x0])):=Same.laid hB;have A0:=AA.same s0;refine⟨_,rfl,L.p,L.dx,L.fs,rfl,A0.aM.ins,nS,All,L,M,l,rfl,A0.aM,(1:Int),(l.length:Int),rfl,⟨by omega,by omega,by omega,by omega⟩,?_⟩;refine X7 (lo:=1) (n:=((l.length:Int) -1).toNat) (fun i σ H'=>∃(bU:List Addr)(v2 v3 v4:Option V),σ=[some (.ref L.p),some (.ref B),v2,v3,v4]/\Same H H'/\H' B=some (.lst (bU.map V.ref))/\bU.length=i+1/\∀(e:Nat)(x:Addr),bU[e]?=some x->H' x=some (.lst (aq (gK M l e)))/\x≠B) ?_ ?_ ?_
  ·refine⟨[x0],none,none,none,rfl,s0,aC,rfl,fun e x hx=>?_⟩;have he:e=0:=by have:=(at9.mp hx).1;simp at this;exact this
   subst he;cases hx;have h0:=d3 0 x0 _ hx0 (uo BB.pos);have nb:x0≠B:=aV h0 hB;exact⟨by rw[au nb,h0,afm BB],nb⟩
  ·rintro i σ H' hi ⟨bU,v2,v3,v4,rfl,sH,vP,jQ,hga⟩;obtain⟨e,he⟩:∃e,e=i+1:=⟨_,rfl⟩
   have hel:e<l.length:=by omega
   have A1:=AA.same sH;obtain⟨j,b,hj,hps,hes,hwd⟩:=c5 e (by omega) hel;obtain⟨hb,hpr⟩:=afp BB hel hj hwd;have ei:(1:Int)+(i:Int)=(e:Int):=by omega
   rw[ei];obtain⟨xj,T8⟩:∃x,bU[j]?=some x:=⟨_,atY (by omega)⟩
   obtain⟨T9,nxj⟩:=hga j xj T8;refine⟨_,rfl,L.p,c,L.dx,L.fs,_,rfl,A1.aM.ins,T.cl,T.nE,A1.aM.lE,_,rfl,L.aE,_,_,_,rfl,rfl,ak.of (sH _ _ c2),cO (j:=e) rfl hes,?_⟩;refine⟨_,rfl,.inl ⟨rfl,_,ak.of vP⟩,?_⟩;refine⟨_,rfl,_,rfl,L.p,c,L.dx,L.fs,_,rfl,A1.aM.ins,T.cl,T.nP,A1.aM.lP,_,rfl,L.aP,_,_,_,rfl,rfl,ak.of (sH _ _ c1),cO (j:=e) rfl hps,B,_,_,_,rfl,rfl,ak.of vP,cO (j:=j) rfl (by rw[aui,T8];rfl),xj,rfl,⟨_,ak.of T9⟩,fun D hD=>?_⟩;have jl:j<l.length:=by omega
   refine lF (K:=K) (xs:=aq (gK M l j)) (fun n H2=>Same H' H2/\H2 D=some (.lst (aq (((gK M l j).map fun x=>pr l x (lt M l b)).take n)))) ⟨Same.laid hD,by rw[aC];rfl⟩ (fun n H2 _ q=>ak.of (q.1 _ _ T9)) ?_ ?_
   ·rintro n y H2 hy ⟨s2,d2'⟩;obtain⟨hnl,rfl⟩:=mj hy;have hlt:(gK M l j).getD n 0<l.length:=afo BB jl (WA.mem_getD hnl);have A2:=A1.same s2;obtain⟨xb,hxb⟩:∃x,cN[(gK M l j).getD n 0]?=some x:=⟨_,atY (by rw[d2];exact hlt)⟩
    have oxb:=d3 _ xb _ hxb (uo hlt);refine⟨rfl,jk ?_⟩;refine⟨_,rfl,L.p,c,L.dx,L.fs,_,rfl,A2.aM.ins,T.cl,T.nB,A2.aM.lB,_,rfl,L.aB,_,_,_,rfl,rfl,ak.of (s2 _ _ (sH _ _ d1)),cO (j:=(gK M l j).getD n 0) rfl (by rw[aui,hxb];rfl),_,rfl,xb,_,_,_,rfl,rfl,ak.of (s2 _ _ (sH _ _ oxb)),cO (j:=b) rfl (kh (by rw[BZ];exact hb)),?_⟩;refine⟨_,d2',?_,Same.new s2 hD,?_⟩
    ·rw[atR,auN,atR,Ca];have:=AA.aM.good.2.2.2.1;exact cP (by omega)
    ·rw[aC,afq hb,auK,aui,WA.nW (d:=0) hnl];simp
   ·rintro H2 ⟨s2,d2'⟩;rw[atR,<-atR (f:=fun x=>pr l x (lt M l b)),auX,<-afn BB jl hb,<-hpr] at d2';have hB2:=s2 _ _ vP;have Ua:D≠B:=(aV vP hD).symm;refine⟨B,_,_,rfl,rfl,hB2,by rw[atR];exact cP (by omega),?_⟩;refine⟨bU++[D],_,_,_,rfl,fun b' o q=>?_,by rw[aC,auO];rfl,by rw[aud,jQ];rfl,fun e' x hx=>?_⟩
    ·rw[au (aV q hB)];exact s2 _ _ (sH _ _ q)
    ·by_cases q:e'<bU.length
     ·rw[auP q] at hx;obtain⟨o1,o2⟩:=hga e' x hx;exact⟨by rw[au o2];exact s2 _ _ o1,o2⟩
     ·have:=(at9.mp hx).1;have e1:e'=bU.length:=by simp at this;omega
      subst e1;simp at hx;subst hx;rw[jQ,<-he];exact⟨by rw[au Ua];exact d2',Ua⟩
  ·rintro σ H' ⟨bU,v2,v3,v4,rfl,sH,vP,jQ,hga⟩;refine⟨_,rfl,kq H' _ (AA.same sH) sH.d (.inl ⟨rfl,B,rfl,bU,vP,by rw[BX];have:=BB.pos;omega,fun e x out hx ho=>?_⟩)⟩;have he:e<l.length:=by have:=(at9.mp hx).1;have:=BB.pos;omega
   rw[yg he] at ho;rw[(hga e x hx).1,aub ho]
end
open WA (EB EF EJ)
structure Gr(M:Machine)(l:List WM)(adj:List (List Nat))(E:Nat->Nat->Prop):Prop where
 len:adj.length=l.length
 ed:∀u v,u<l.length->(Ed adj u v↔E u v)
 deg:∀u,(adj.getD u []).length<=100
 lt:∀u v,u<l.length->E u v->v<l.length
 reach:∀v,v<l.length->Rc E 0 v
theorem Ub{E F:Nat->Nat->Prop}{n:Nat}(hE:∀u v,u<n->E u v->v<n)(h:∀u v,u<n->E u v->F u v){a b:Nat}(ha:a<n)(k:Rc E a b):Rc F a b/\b<n:=by
 induction k with
 |refl=>exact⟨.refl _,ha⟩
 |step _ e ih=>
  obtain⟨i1,i2⟩:=ih;exact⟨.step i1 (h _ _ i2 e),hE _ _ i2 e⟩
namespace Gr
variable{M:Machine}{l:List WM}{adj:List (List Nat)}{E:Nat->Nat->Prop}
theorem Cd(g:Gr M l adj E):∀u v,Ed adj u v->u<l.length/\v<l.length:=fun u v h=>by
 have hu:u<l.length:=by
  apply avh;intro q;unfold Ed at h;rw[at5,auY (by rw[g.len];omega)] at h;simp at h
 exact⟨hu,g.lt u v hu ((g.ed u v hu).mp h)⟩
theorem rc(g:Gr M l adj E){a b:Nat}(ha:a<l.length):Rc (Ed adj) a b↔Rc E a b:=
 ⟨fun h=>(Ub (n:=l.length) (fun u v _ e=>(g.Cd u v e).2) (fun u v hu e=>(g.ed u v hu).mp e) ha h).1,fun h=>(Ub (n:=l.length) g.lt (fun u v hu e=>(g.ed u v hu).mpr e) ha h).1⟩
theorem cl(g:Gr M l adj E)(k:Nat)(ha:∀a b,a<l.length->b<l.length->(alikeB (WA.az M l) k a b=true↔Rc E b a/\Rc E a b)){hs:List Nat}(hl:hs.length=adj.length)
  (hi:∀a b,a<adj.length->b<adj.length->(hs.getD a 0=hs.getD b 0↔Rc (Ed adj) b a/\Rc (Ed adj) a b)):(bD hs).1=(aF M l k).1:=by
 rw[g.len] at hl hi;have:=WA.Rr (M:=M) (l:=l) k hs hl fun a b x y hx hy=>?_
 ·rw[this]
 ·have h1:=(at9.mp hx).1;have h2:=(at9.mp hy).1;have e1:hs.getD a 0=x:=by rw[at5,hx];rfl
  have e2:hs.getD b 0=y:=by rw[at5,hy];rfl
  rw[ha a b (by omega) (by omega),<-g.rc (by omega),<-g.rc (by omega),<-hi a b (by omega) (by omega),e1,e2]
end Gr
theorem rM{adj:List (List Nat)}{u:Nat}{r:List Nat}(h:adj[u]?=some r):adj.getD u []=r:=by rw[at5,h];rfl
theorem Uc{M:Machine}{l:List WM}(B:aQ M l):Gr M l (qd M l) (EF M l):=by
 refine⟨BX M l,fun u v hu=>?_,fun u=>?_,fun u v hu h=>EF.lt B hu h,fun v hv=>?_⟩
 ·unfold Ed;rw[rM (yg hu)];unfold gK EF;rw[at6];exact⟨fun⟨a,h1,h2⟩=>⟨a,at4.mp h1,h2.symm⟩,fun⟨a,h1,h2⟩=>⟨a,at4.mpr h1,h2.symm⟩⟩
 ·by_cases hu:u<l.length
  ·rw[rM (yg hu),Ca];have:=B.good.2.2.2.1;omega
  ·rw[at5,auY (by rw[BX];omega)];exact aul _
 ·have:=WA.Hc B v hv 0 B.pos;rw[(WA.bH B).lQ hv] at this;exact this
theorem Ud{M:Machine}{l:List WM}(B:aQ M l):Gr M l (ul M l) (EB M l):=by
 refine⟨yh M l,fun u v hu=>?_,fun u=>?_,fun u v hu h=>EB.lt B hu h,fun v hv=>?_⟩
 ·unfold Ed;rw[rM (uo hu)];unfold jR EB;rw[at6];exact⟨fun⟨a,h1,h2⟩=>⟨a,at4.mp h1,h2.symm⟩,fun⟨a,h1,h2⟩=>⟨a,at4.mpr h1,h2.symm⟩⟩
 ·by_cases hu:u<l.length
  ·rw[rM (uo hu),BZ];have:=B.good.2.2.2.1;omega
  ·rw[at5,auY (by rw[yh];omega)];exact aul _
 ·have:=WA.Hb B B.pos v hv;rw[(WA.bH B).lO hv] at this;exact this
def uq(M:Machine)(l:List WM):List (List Nat):=(atU l.length).map fun e=>gK M l e++jR M l e
theorem JL{M:Machine}{l:List WM}{e:Nat}(h:e<l.length):(uq M l)[e]?=some (gK M l e++jR M l e):=by unfold uq;rw[aui,au5 h];rfl
theorem JM(M:Machine)(l:List WM):(uq M l).length=l.length:=by simp[uq]
theorem grJ{M:Machine}{l:List WM}(B:aQ M l):Gr M l (uq M l) (EJ M l):=by
 have gF:=Uc B;have gB:=Ud B;refine⟨JM M l,fun u v hu=>?_,fun u=>?_,fun u v hu h=>EJ.lt B hu h,fun v hv=>(gB.reach v hv).mono fun a b h=>.inl h⟩
 ·unfold Ed EJ;rw[rM (JL hu),aus,<-gF.ed u v hu,<-gB.ed u v hu];unfold Ed;rw[rM (yg hu),rM (uo hu)];exact or_comm
 ·by_cases hu:u<l.length
  ·rw[rM (JL hu),aud,Ca,BZ];have:=B.good.2.2.2.1;omega
  ·rw[at5,auY (by rw[JM];omega)];exact aul _
section
variable{H:Hp}{M:Machine}{l:List WM}{v:V}
theorem Entry.before(e:Entry H M l "before" v):∃a,v=.ref a/\qe H a (qd M l):=by
 rcases e with⟨h,e⟩|⟨h,e⟩|⟨h,e⟩|⟨h,e⟩|⟨h,e⟩|⟨h,e⟩|⟨h,e⟩
 ·exact e
 all_goals exact absurd h (by decide +kernel)
theorem Entry.lft(e:Entry H M l "L" v):jo H v (aF M l 0).1:=by
 rcases e with⟨h,e⟩|⟨h,e⟩|⟨h,e⟩|⟨h,e⟩|⟨h,e⟩|⟨h,e⟩|⟨h,e⟩
 ·exact absurd h (by decide +kernel)
 ·exact e
 all_goals exact absurd h (by decide +kernel)
theorem Entry.rgt(e:Entry H M l "R" v):jo H v (aF M l 1).1:=by
 rcases e with⟨h,e⟩|⟨h,e⟩|⟨h,e⟩|⟨h,e⟩|⟨h,e⟩|⟨h,e⟩|⟨h,e⟩
 ·exact absurd h (by decide +kernel)
 ·exact absurd h (by decide +kernel)
 ·exact e
 all_goals exact absurd h (by decide +kernel)
theorem Entry.bth(e:Entry H M l "J" v):jo H v (aF M l 2).1:=by
 rcases e with⟨h,e⟩|⟨h,e⟩|⟨h,e⟩|⟨h,e⟩|⟨h,e⟩|⟨h,e⟩|⟨h,e⟩
 ·exact absurd h (by decide +kernel)
 ·exact absurd h (by decide +kernel)
 ·exact absurd h (by decide +kernel)
 ·exact e
 all_goals exact absurd h (by decide +kernel)
theorem Entry.lrt(e:Entry H M l "H" v):jo H v (aF M l 3).1:=by
 rcases e with⟨h,e⟩|⟨h,e⟩|⟨h,e⟩|⟨h,e⟩|⟨h,e⟩|⟨h,e⟩|⟨h,e⟩
 ·exact absurd h (by decide +kernel)
 ·exact absurd h (by decide +kernel)
 ·exact absurd h (by decide +kernel)
 ·exact absurd h (by decide +kernel)
 ·exact e
 all_goals exact absurd h (by decide +kernel)
theorem Entry.kind(e:Entry H M l "kind" v):v=nv (nY M l):=by
 rcases e with⟨h,e⟩|⟨h,e⟩|⟨h,e⟩|⟨h,e⟩|⟨h,e⟩|⟨h,e⟩|⟨h,e⟩
 ·exact absurd h (by decide +kernel)
 ·exact absurd h (by decide +kernel)
 ·exact absurd h (by decide +kernel)
 ·exact absurd h (by decide +kernel)
 ·exact absurd h (by decide +kernel)
 ·exact e
 all_goals exact absurd h (by decide +kernel)
theorem Entry.turns(e:Entry H M l "turns" v):∃a ps,v=.ref a/\TurnsAt H a ps/\JH l ps:=by
 rcases e with⟨h,e⟩|⟨h,e⟩|⟨h,e⟩|⟨h,e⟩|⟨h,e⟩|⟨h,e⟩|⟨h,e⟩
 ·exact absurd h (by decide +kernel)
 ·exact absurd h (by decide +kernel)
 ·exact absurd h (by decide +kernel)
 ·exact absurd h (by decide +kernel)
 ·exact absurd h (by decide +kernel)
 ·exact absurd h (by decide +kernel)
 ·exact e
end
structure bG(P:Program)(w:World)(K:atQ)(mg:Str->Option Value)(base:Heap)(CX:gY)(x:Str)(k:Nat)(f:Addr)(fd:FuncData)(ps:List Str)(sp:Sp):Prop where
 ok:aJ P w K mg base CX k f fd ps sp
 kp:avp K (.ref f)=true
 b:Binds K fd ps []
 m:mg x=some (.ref f)
structure dC(P:Program)(w:World)(K:atQ)(mg:Str->Option Value)(base:Heap)(CX:gY)(c:Addr)(x:Str)(k:Nat)(f:Addr)(fd:FuncData)(ps:List Str)(sp:Sp):Prop where
 ok:aJ P w K mg base CX k f fd ps sp
 b:Binds K fd ps []
 m:Meth K c x f
theorem Full.none{c:Addr}{S:Addr->Prop}{H:Hp}{L:Lay}{M:Machine}{l:List WM}{n:Nat}(A:cX c S H L M l n)(m:Str)(h:(m !=("letters":Str)&&m !=("rows":Str)&&m !=("numbers":Str)&&m !=("prefix":Str)&&m !=("last":Str)&&m !=("behind":Str)&&m !=("known":Str))=true):L.fs.lookup m=none:=by
 simp only[aup,bne_iff_ne] at h;obtain⟨⟨⟨⟨⟨⟨h1,h2⟩,h3⟩,h4⟩,h5⟩,h6⟩,h7⟩:=h;exact A.lM m h1 h2 h3 h4 h5 h6 h7
section
variable{P:Program}{w:World}{K:atQ}{mg:Str->Option Value}{base:Heap}
theorem afz:bR ["algebra"] ["algebra"] (aU HY):=⟨rfl,rfl,rfl,by decide +kernel,rfl,by decide +kernel,by decide +kernel⟩
theorem afA{f fP fO fB c cR cM:Addr}{fd jm jT:FuncData}(F:aY K "left_classes" "left_classes" HY f fd)(T:TA K c)(X:Txt K mg cR cM)(GP:bG P w K mg base aZ "parts" 3 fP jm ["graph"] (BR K))
  (GO:dC P w K mg base (aX P w) c "once" 3 fO jT ["self","name","find"] (qj c "before" fB)) (mB:mg "put_letters_before"=some (.ref fB)):aJ P w K mg base (aX P w) 4 f fd ["algebra"] (rK c "L"):=by
 refine F.eE afz (fun vs H Q E h=>?_) (fun cdv A outer s H vs Q E hr h=>?_)
 ·obtain⟨L,M,l,rfl,_⟩:=h;rfl
 ·obtain⟨L,M,l,rfl,AA,kq⟩:=h;refine⟨_,aH (bz (cu GP.ok hr rfl GP.m GP.kp GP.b .nil bA (aj (dZ (pv 0) T.cl GO.m GO.ok hr GO.b .nil cG (aj qD (aj (dz (v:=.ref fB) rfl mB rfl) aA))) aA))),?_⟩;have BB:=AA.aM.begun;refine⟨_,rfl,L.p,L.dx,L.fs,rfl,AA.aM.ins,Full.none AA.aM "once" (by decide +kernel),L,M,l,rfl,AA,fun H1 v A1 s1 e1=>?_⟩;obtain⟨a,rfl,G⟩:=e1.before;have g:=Uc BB;have hn:=AA.aM.most;refine⟨a,qd M l,rfl,G.at,by rw[g.len];exact BB.pos,by rw[g.len];omega,fun u v h=>by rw[g.len];exact(g.Cd u v h).2,g.deg,fun v hv=>(g.rc BB.pos).mpr (g.reach v (by rw[g.len] at hv;exact hv)),fun H2 p hs hp hp' hl hi s2=>?_⟩;exact kq H2 _ (A1.same s2) (s1.trans s2.d) (.inr (.inl ⟨rfl,p,rfl,by rw[hp',g.cl 0 (fun a b ha hb=>WA.lW BB ha hb) hl hi]⟩))
theorem afB:bR ["algebra"] ["algebra"] (aU Ia):=⟨rfl,rfl,rfl,by decide +kernel,rfl,by decide +kernel,by decide +kernel⟩
theorem afC{f fP c cR cM:Addr}{fd jm:FuncData}(F:aY K "right_classes" "right_classes" Ia f fd)(T:TA K c)(X:Txt K mg cR cM)(GP:bG P w K mg base aZ "parts" 3 fP jm ["graph"] (BR K)):aJ P w K mg base (aX P w) 4 f fd ["algebra"] (rK c "R"):=by
 refine F.eE afB (fun vs H Q E h=>?_) (fun cdv A outer s H vs Q E hr h=>?_)
 ·obtain⟨L,M,l,rfl,_⟩:=h;rfl
 ·obtain⟨L,M,l,rfl,AA,kq⟩:=h;refine⟨_,aH (bz (cu GP.ok hr rfl GP.m GP.kp GP.b .nil bA (aj (bh (pv 0) rfl) aA))),?_⟩;have BB:=AA.aM.begun;have g:=Ud BB;have hn:=AA.aM.most;refine⟨_,rfl,L.p,c,L.dx,L.fs,_,rfl,AA.aM.ins,T.cl,T.nB,AA.aM.lB,?_⟩;refine⟨L.aB,ul M l,rfl,AA.aM.behind.at,by rw[g.len];exact BB.pos,by rw[g.len];omega,fun u v h=>by rw[g.len];exact(g.Cd u v h).2,g.deg,fun v hv=>(g.rc BB.pos).mpr (g.reach v (by rw[g.len] at hv;exact hv)),fun H2 p hs hp hp' hl hi s2=>?_⟩;exact kq H2 _ (AA.same s2) s2.d (.inr (.inr (.inl ⟨rfl,p,rfl,by rw[hp',g.cl 1 (fun a b ha hb=>WA.jA BB ha hb) hl hi]⟩)))
theorem afD{K:atQ}{a b:Addr}{xs ys:List V}{g:TG}{tb:TS}{D:Ends}{σ:L2.St}{H:Hp}(Pv:Nat->L2.St->Hp->Prop)(hxy:xs.length=ys.length)(h0:Pv 0 σ H)(hl:∀i σ H,i<=xs.length->Pv i σ H->ak K H a xs/\ak K H b ys)
  (hs:∀i x y σ H T,xs[i]?=some x->ys[i]?=some y->Pv i σ H->H T=none->g (.ref T) σ (upd H T (.tup [x,y])) fun σ2 H2=>tb {D with nx:=Pv (i+1),ct:=Pv (i+1),bk:=D.nx} σ2 H2) (hd:∀σ H,Pv xs.length σ H->D.nx σ H):
  ∃W:Nat->Nat->L2.St->Hp->Prop,(∃m,W 0 m σ H)/\∀i m σ H,W i m σ H->
   ((qM K a b).stop i H/\D.nx σ H)\/((qM K a b).go i H/\∃N:L2.St->Hp->Prop,(∀σ' H',N σ' H'->∃m',m'<m/\W (i+1) m' σ' H')/\∀x H',(qM K a b).lq i H x H'->g x σ H' fun σ2 H2=>tb {D with nx:=N,ct:=N,bk:=D.nx} σ2 H2):=by
 refine⟨fun i m σ H=>m=xs.length-i/\i<=xs.length/\Pv i σ H,⟨xs.length,by simp,aul _,h0⟩,?_⟩;rintro i m σ H ⟨rfl,hi,p⟩;obtain⟨q1,q2⟩:=hl i σ H hi p;by_cases hlt:i<xs.length
 ·have hlt2:i<ys.length:=by omega
  refine .inr ⟨⟨xs,ys,xs[i],ys[i],q1,q2,by simp[hlt],by simp[hlt2]⟩,Pv (i+1),fun σ' H' p'=>⟨xs.length- (i+1),by omega,rfl,hlt,p'⟩,fun x H' z=>?_⟩;obtain⟨T,u,v,rfl,hT,rfl,z1,z2⟩:=z;exact hs i u v σ H T (z1 xs q1) (z2 ys q2) p hT
 ·have e:i=xs.length:=by omega
  subst e;exact .inl ⟨⟨xs,ys,q1,q2,.inl (atX _)⟩,hd σ H p⟩
theorem afE{K:atQ}{a b:Addr}{xs ys:List V}{g:TG}{tt:TT}{te:TE}{vs:List Nat}{σ:L2.St}{H1:Hp}{D:Addr}{Qd:Hp->Prop}(Pv:Nat->Hp->Prop)(hxy:xs.length=ys.length)(h0:Pv 0 (upd H1 D (.lst [])))(hl:∀i H,i<=xs.length->Pv i H->ak K H a xs/\ak K H b ys)
  (hs:∀i x y H T,xs[i]?=some x->ys[i]?=some y->Pv i H->H T=none->g (.ref T) (cT σ vs) (upd H T (.tup [x,y])) fun σ2 H2=>cT σ2 vs=cT σ vs/\tt σ2 H2 fun b H3=>
   if b=true then te σ2 H3 fun y H4=>∃acc,H4 D=some (.lst acc)/\acc.length<sizeLine/\Pv (i+1) (upd H4 D (.lst (acc++[y]))) else Pv (i+1) H3) (hd:∀H,Pv xs.length H->Qd H):
  ∃W:Nat->Nat->Hp->Prop,(∃m,W 0 m (upd H1 D (.lst [])))/\∀i m H,W i m H->
   ((qM K a b).stop i H/\Qd H)\/((qM K a b).go i H/\∃Nx:Hp->Prop,(∀H',Nx H'->∃m',m'<m/\W (i+1) m' H')/\∀x H',(qM K a b).lq i H x H'->g x (cT σ vs) H' fun σ2 H2=>cT σ2 vs=cT σ vs/\tt σ2 H2 fun b H3=>
    if b=true then te σ2 H3 fun y H4=>∃acc,H4 D=some (.lst acc)/\acc.length<sizeLine/\Nx (upd H4 D (.lst (acc++[y]))) else Nx H3):=by
 refine⟨fun i m H=>m=xs.length-i/\i<=xs.length/\Pv i H,⟨xs.length,by simp,aul _,h0⟩,?_⟩;rintro i m H ⟨rfl,hi,p⟩;obtain⟨q1,q2⟩:=hl i H hi p;by_cases hlt:i<xs.length
 ·have hlt2:i<ys.length:=by omega
  refine .inr ⟨⟨xs,ys,xs[i],ys[i],q1,q2,by simp[hlt],by simp[hlt2]⟩,Pv (i+1),fun H' p'=>⟨xs.length- (i+1),by omega,rfl,hlt,p'⟩,fun x H' z=>?_⟩;obtain⟨T,u,v,rfl,hT,rfl,z1,z2⟩:=z;exact hs i u v H T (z1 xs q1) (z2 ys q2) p hT
 ·have e:i=xs.length:=by omega
  subst e;exact .inl ⟨⟨xs,ys,q1,q2,.inl (atX _)⟩,hd H p⟩
theorem yl:bR ["algebra","before","x","y"] ["algebra"] (aU Be):=⟨rfl,rfl,rfl,by decide +kernel,rfl,by decide +kernel,by decide +kernel⟩
theorem afF{f fP fO fB c cR cM:Addr}{fd jm jT:FuncData}(F:aY K "both_sides_classes" "both_sides_classes" Be f fd)(T:TA K c)(X:Txt K mg cR cM)(GP:bG P w K mg base aZ "parts" 3 fP jm ["graph"] (BR K))
  (GO:dC P w K mg base (aX P w) c "once" 3 fO jT ["self","name","find"] (qj c "before" fB)) (mB:mg "put_letters_before"=some (.ref fB)):aJ P w K mg base (aX P w) 4 f fd ["algebra"] (rK c "J"):=by
 refine F.eE yl (fun vs H Q E h=>?_) (fun cdv A outer s H vs Q E hr h=>?_)
 ·obtain⟨L,M,l,rfl,_⟩:=h;rfl
 ·obtain⟨L,M,l,rfl,AA,kq⟩:=h;refine⟨_,aD (bf (i:=1) yl.nd rfl (atV rfl) (dZ (pv 0) T.cl GO.m GO.ok hr GO.b .nil cG (aj qD (aj (dz (v:=.ref fB) rfl mB rfl) aA))))
   (aH (bz (cu GP.ok hr rfl GP.m GP.kp GP.b .nil bA (aj (jd (own:=[("x",2),("y",3)]) rfl yl.nd (Pg rfl X.zip (aj (pv 1) (aj (bh (pv 0) rfl) aA))) (iU (by show iD ["algebra","before","x","y"] (aU Be) _ _=true;decide +kernel))
    (fun _ _ _ _ _=>show PG _ _ (yR K 2 (sE (jW 2) (sE (jW 3) yQ))) from wy rfl (mZ (dF (i:=2) yl.nd rfl (atV rfl)) (mZ (dF (i:=3) yl.nd rfl (atV rfl)) ww))) (fun _ _ _ _ _=>jc)
    (fun _ _ _ _ _=>iC qL (pv 2) (pv 3))) aA)))),?_⟩
  have BB:=AA.aM.begun;refine⟨_,rfl,L.p,L.dx,L.fs,rfl,AA.aM.ins,Full.none AA.aM "once" (by decide +kernel),L,M,l,rfl,AA,fun H1 v A1 s1 e1=>?_⟩;obtain⟨a,rfl,bU,g1,g2,g3⟩:=e1.before;obtain⟨cN,d1,d2,d3⟩:=A1.aM.behind;have g:=grJ BB;have hn:=AA.aM.most;rw[BX] at g2;rw[yh] at d2;have hk:=BB.good.2.2.2.1;refine⟨_,rfl,_,rfl,L.p,c,L.dx,L.fs,_,rfl,A1.aM.ins,T.cl,T.nB,A1.aM.lB,a,L.aB,_,_,rfl,ak.of g1,ak.of d1,fun D hD=>?_⟩;refine afE (K:=K) (xs:=bU.map V.ref) (ys:=cN.map V.ref) (fun i H'=>Same H1 H'/\∃as:List Addr,H' D=some (.lst (as.map V.ref))/\as.length=i/\∀(e:Nat)(x:Addr),as[e]?=some x->H' x=some (.lst (aq (gK M l e++jR M l e)))/\x≠D) (by rw[atR,atR,g2,d2])
   ⟨Same.laid hD,[],by rw[aC];rfl,rfl,fun e x hx=>by simp at hx⟩ (fun i H' _ q=>⟨ak.of (q.1 _ _ g1),ak.of (q.1 _ _ d1)⟩) ?_ ?_
  ·rintro i x y H' TT hx hy ⟨s2,as,hD',hal,has⟩ hT;obtain⟨x,hx',rfl⟩:=jD hx;obtain⟨y,hy',rfl⟩:=jD hy;have hi:i<l.length:=by rw[<-g2];exact(at9.mp hx').1
   have s3:Same H' (upd H' TT (.tup [.ref x,.ref y])):=Same.laid hT;refine⟨TT,_,rfl,bB.of aC,rfl,_,_,rfl,_,_,rfl,rfl,rfl,jk ?_⟩;have ox:=s3 _ _ (s2 _ _ (g3 i x _ hx' (yg hi)));have oy:=s3 _ _ (s2 _ _ (d3 i y _ hy' (uo hi)));refine⟨_,rfl,_,rfl,x,y,_,_,rfl,rfl,ox,oy,by rw[atR,atR,Ca,BZ];exact small (by omega),fun p hp=>?_⟩;have s4:Same H' (upd (upd H' TT (.tup [.ref x,.ref y])) p (.lst (aq (gK M l i)++aq (jR M l i)))):=Same.trans s3 (Same.laid hp);have pD:p≠D:=(aV (s3 _ _ hD') hp).symm;refine⟨_,s4 _ _ hD',by rw[atR];exact cP (by omega),fun b o q=>?_,as++[p],by rw[aC,auO];rfl,by rw[aud,hal];rfl,fun e z hz=>?_⟩
   ·rw[au (aV q hD)];exact s4 _ _ (s2 _ _ q)
   ·by_cases q:e<as.length
    ·rw[auP q] at hz;obtain⟨o1,o2⟩:=has e z hz;exact⟨by rw[au o2];exact s4 _ _ o1,o2⟩
    ·have:=(at9.mp hz).1;have e1:e=as.length:=by simp at this;omega
     subst e1;simp at hz;subst hz;rw[hal];exact⟨by rw[au pD,aC];simp[aq],pD⟩
  ·rintro H2 ⟨s2,as,hD',hal,has⟩;rw[atR,g2] at hal;have A2:=A1.same s2;have G2:qe H2 D (uq M l):=⟨as,hD',by rw[JM,hal],fun e x out hx ho=>by
    have he:e<l.length:=by rw[<-hal];exact(at9.mp hx).1
    rw[JL he] at ho;rw[(has e x hx).1,aub ho]⟩
   refine⟨D,uq M l,rfl,G2.at,by rw[g.len];exact BB.pos,by rw[g.len];omega,fun u v h=>by rw[g.len];exact(g.Cd u v h).2,g.deg,fun v hv=>(g.rc BB.pos).mpr (g.reach v (by rw[g.len] at hv;exact hv)),fun H3 p hs hp hp' hl hi s3=>?_⟩;exact kq H3 _ (A2.same s3) (s1.trans (s2.d.trans s3.d)) (.inr (.inr (.inr (.inl ⟨rfl,p,rfl,by rw[hp',g.cl 2 (fun a b ha hb=>WA.Rq BB ha hb) hl hi]⟩))))
structure Ce(mg:Str->Option Value):Prop where
 k0:∃t,mg "LEFT"=some (.int 0 t)
 k1:∃t,mg "RIGHT"=some (.int 1 t)
 k2:∃t,mg "BOTH_SIDES"=some (.int 2 t)
 k3:∃t,mg "LEFT_AND_RIGHT"=some (.int 3 t)
theorem afG{M:Machine}{l:List WM}(B:aQ M l):∀k,k<4->WA.Cl l.length (fun a b=>alikeB (WA.az M l) k a b=true) (aF M l k).1 (aF M l k).2:=fun k hk=>by
 match k,hk with
 |0,_=>exact WA.qZ B
 |1,_=>exact WA.lX B
 |2,_=>exact WA.Hm B
 |3,_=>exact WA.Hn B
theorem afH{M:Machine}{l:List WM}(B:aQ M l){ts:List (List Nat)}(hl:ts.length=l.length)(h:∀(a:Nat)(t:List Nat),ts[a]?=some t->t=[(aF M l 0).1.getD a 0,(aF M l 1).1.getD a 0]):(bD ts).1=(aF M l 3).1:=by
 have:=WA.Rr (M:=M) (l:=l) 3 ts hl fun a b x y hx hy=>?_
 ·rw[this]
 ·have h1:a<l.length:=by rw[<-hl];exact(at9.mp hx).1
  have h2:b<l.length:=by rw[<-hl];exact(at9.mp hy).1
  rw[WA.pL,h a x hx,h b y hy,<-(WA.qZ B).iff a b h1 h2,<-(WA.lX B).iff a b h1 h2];constructor
  ·rintro⟨e1,e2⟩;rw[e1,e2]
  ·intro e;have:=avl e;exact⟨this.1,(avl this.2).1⟩
def Cg(z:Int):Prop:=0<=z/\z<=3
def Ci(c cR:Addr)(ok:Int->Prop):Sp:=fun vs H Q E=>∃(L:Lay)(M:Machine)(l:List WM)(z:Int),vs=[.ref L.p,.int z]/\di c H L M l/\ok z/\
 (Cg z->∀(H':Hp)(v:V),di c H' L M l->dO L.aK H H'->jo H' v (aF M l z.toNat).1->Q v H')/\(¬Cg z->E (.ref cR) none H)
theorem afI:bR ["algebra","kind"] ["algebra","kind"] (aU Ie):=⟨rfl,rfl,rfl,by decide +kernel,rfl,by decide +kernel,by decide +kernel⟩
theorem Ue{f fO fL fR fJ fH c cR cM:Addr}{fd jT:FuncData}{k:Nat}{full:Prop}(F:aY K "classes_of_kind" "classes_of_kind" Ie f fd)(T:TA K c)(X:Txt K mg cR cM)(XC:Ce mg)(mO:Meth K c "once" fO)(bO:Binds K jT ["self","name","find"] [])
  (GL:aJ P w K mg base (aX P w) k fO jT ["self","name","find"] (qj c "L" fL)) (mL:mg "left_classes"=some (.ref fL))
  (GR:aJ P w K mg base (aX P w) k fO jT ["self","name","find"] (qj c "R" fR)) (mR:mg "right_classes"=some (.ref fR))
  (GJ:aJ P w K mg base (aX P w) k fO jT ["self","name","find"] (qj c "J" fJ)) (mJ:mg "both_sides_classes"=some (.ref fJ))
  (GH:aJ P w K mg base (aX P w) k fO jT ["self","name","find"] (fun vs H Q E=>full/\qj c "H" fH vs H Q E)) (mH:mg "left_and_right_classes"=some (.ref fH)):
  aJ P w K mg base (aX P w) (k+1) f fd ["algebra","kind"] (Ci c cR fun z=>z=3->full):=by
 obtain⟨t0,h0⟩:=XC.k0;obtain⟨t1,h1⟩:=XC.k1;obtain⟨t2,h2⟩:=XC.k2;obtain⟨t3,h3⟩:=XC.k3;refine F.eE afI (fun vs H Q E h=>?_) (fun cdv A outer s H vs Q E hr h=>?_)
 ·obtain⟨L,M,l,z,rfl,_⟩:=h;rfl
 ·obtain⟨L,M,l,z,rfl,AA,hz,ky,kn⟩:=h;refine⟨_,aD (cZ (cF dR (pv 1) (dz (v:=.int 0) rfl h0 ⟨_,rfl⟩) (bY _)) (aH (bz (dZ (pv 0) T.cl mO GL hr bO .nil cG (aj qD (aj (dz (v:=.ref fL) rfl mL rfl) aA))))) dm)
   (aD (cZ (cF dR (pv 1) (dz (v:=.int 1) rfl h1 ⟨_,rfl⟩) (bY _)) (aH (bz (dZ (pv 0) T.cl mO GR hr bO .nil cG (aj qD (aj (dz (v:=.ref fR) rfl mR rfl) aA))))) dm)
   (aD (cZ (cF dR (pv 1) (dz (v:=.int 2) rfl h2 ⟨_,rfl⟩) (bY _)) (aH (bz (dZ (pv 0) T.cl mO GJ hr bO .nil cG (aj qD (aj (dz (v:=.ref fJ) rfl mJ rfl) aA))))) dm)
   (aD (cZ (cF dR (pv 1) (dz (v:=.int 3) rfl h3 ⟨_,rfl⟩) (bY _)) (aH (bz (dZ (pv 0) T.cl mO GH hr bO .nil cG (aj qD (aj (dz (v:=.ref fH) rfl mH rfl) aA))))) dm)
   (aH (qP (E:=E) rfl qN rfl X.mR X.eR))))),?_⟩
  have nO:=Full.none AA.aM "once" (by decide +kernel);refine⟨_,rfl,rfl,_,rfl,eY (fun d=>?_) (fun d0=>?_)⟩
  ·have e:=V.int.inj (of_decide_eq_true d);subst e;exact⟨_,rfl,L.p,L.dx,L.fs,rfl,AA.aM.ins,nO,L,M,l,rfl,AA,fun H1 v A1 s1 e1=>ky ⟨by omega,by omega⟩ H1 v A1 s1 e1.lft⟩
  refine⟨_,rfl,rfl,_,rfl,eY (fun d=>?_) (fun d1=>?_)⟩
  ·have e:=V.int.inj (of_decide_eq_true d);subst e;exact⟨_,rfl,L.p,L.dx,L.fs,rfl,AA.aM.ins,nO,L,M,l,rfl,AA,fun H1 v A1 s1 e1=>ky ⟨by omega,by omega⟩ H1 v A1 s1 e1.rgt⟩
  refine⟨_,rfl,rfl,_,rfl,eY (fun d=>?_) (fun d2=>?_)⟩
  ·have e:=V.int.inj (of_decide_eq_true d);subst e;exact⟨_,rfl,L.p,L.dx,L.fs,rfl,AA.aM.ins,nO,L,M,l,rfl,AA,fun H1 v A1 s1 e1=>ky ⟨by omega,by omega⟩ H1 v A1 s1 e1.bth⟩
  refine⟨_,rfl,rfl,_,rfl,eY (fun d=>?_) (fun d3=>?_)⟩
  ·have e:=V.int.inj (of_decide_eq_true d);subst e;exact⟨_,rfl,L.p,L.dx,L.fs,rfl,AA.aM.ins,nO,hz rfl,L,M,l,rfl,AA,fun H1 v A1 s1 e1=>ky ⟨by omega,by omega⟩ H1 v A1 s1 e1.lrt⟩
  refine kn fun⟨q1,q2⟩=>?_
  simp only[decide_eq_true_eq,V.int.injEq] at d0 d1 d2 d3;omega
theorem JN:bR ["algebra","left","right"] ["algebra"] (aU Ib):=⟨rfl,rfl,rfl,by decide +kernel,rfl,by decide +kernel,by decide +kernel⟩
theorem afJ{f fC fN c cR cM:Addr}{fd dX pZ:FuncData}{k:Nat}{ok:Int->Prop}(o0:ok 0)(o1:ok 1)(F:aY K "left_and_right_classes" "left_and_right_classes" Ib f fd)(T:TA K c)(X:Txt K mg cR cM)(XC:Ce mg)
  (GC:bG P w K mg base (aX P w) "classes_of_kind" (k+1) fC dX ["algebra","kind"] (Ci c cR ok)) (GN:bG P w K mg base aZ "numbered" 1 fN pZ ["marks"] (BK K)):aJ P w K mg base (aX P w) (k+2) f fd ["algebra"] (rK c "H"):=by
 obtain⟨t0,h0⟩:=XC.k0;obtain⟨t1,h1⟩:=XC.k1;refine F.eE JN (fun vs H Q E h=>?_) (fun cdv A outer s H vs Q E hr h=>?_)
 ·obtain⟨L,M,l,rfl,_⟩:=h;rfl
 ·obtain⟨L,M,l,rfl,AA,kq⟩:=h;have hr1:bQ 1 _:=hr.mono (by omega);refine⟨_,aD (bf (i:=1) JN.nd rfl (atV rfl) (cu GC.ok hr rfl GC.m GC.kp GC.b .nil cG (aj (pv 0) (aj (dz (v:=.int 0) rfl h0 ⟨_,rfl⟩) aA))))
   (aD (bf (i:=2) JN.nd rfl (atV rfl) (cu GC.ok hr rfl GC.m GC.kp GC.b .nil cG (aj (pv 0) (aj (dz (v:=.int 1) rfl h1 ⟨_,rfl⟩) aA))))
   (aH (bz (cu GN.ok hr1 rfl GN.m GN.kp GN.b .nil bA (aj (abp rfl rfl X.list rfl X.zip (aj (pv 1) (aj (pv 2) aA))) aA))))),?_⟩
  have BB:=AA.aM.begun;have hn:=AA.aM.most;refine⟨_,rfl,L,M,l,0,rfl,AA,o0,fun _ H1 v A1 s1 e1=>?_,fun q=>absurd ⟨by omega,by omega⟩ q⟩;obtain⟨a,rfl,ha⟩:=e1;refine⟨_,rfl,L,M,l,1,rfl,A1,o1,fun _ H2 v A2 s2 e2=>?_,fun q=>absurd ⟨by omega,by omega⟩ q⟩;obtain⟨b,rfl,hb⟩:=e2;have ha2:=A1.sd s2 _ _ ha (iW _);have l0:=(WA.qZ BB).len;have l1:=(WA.lX BB).len;refine⟨_,rfl,_,rfl,a,b,_,_,rfl,ak.of ha2,ak.of hb,by rw[atR,atR];show(aF M l 0).1.length=(aF M l 1).1.length;omega,fun H3 S hS z=>?_⟩;obtain⟨ts,t1,t2,t3,t4⟩:=z;rw[atR] at t2;have t2:ts.length=l.length:=by rw[t2];exact l0
  refine⟨S,ts,(atU l.length).map (fun a=>[(aF M l 0).1.getD a 0,(aF M l 1).1.getD a 0]),rfl,ak.of t1,⟨by simp[t2],fun i x t hx ht=>?_⟩,by simp;omega,fun H4 p hp hp' s4=>?_⟩
  ·have hi:i<l.length:=by rw[<-t2];exact(at9.mp hx).1
   rw[aui,au5 hi] at ht;obtain⟨u,v,hu,hv,ho,_⟩:=t4 i x hx;rw[ho,<-aub ht,(mj hu).2,(mj hv).2];rfl
  ·refine kq H4 _ ((A2.same t3).same s4) (s1.trans (s2.trans (t3.d.trans s4.d))) (.inr (.inr (.inr (.inr (.inl ⟨rfl,p,rfl,?_⟩)))));rw[hp',afH BB (by simp) fun a t ht=>?_];have hi:a<l.length:=by have:=(at9.mp ht).1;simpa using this
   rw[aui,au5 hi] at ht;exact(aub ht).symm
end
open WA (iJ iK iw)
def tD(m:List Nat):PyData:=.tuple (m.map fun(n:Nat)=>PyData.int (n:Int))
theorem Ug{K:atQ}{H:Hp}:∀m:List Nat,sX K H (aq m) (m.map fun(n:Nat)=>PyData.int (n:Int))
 |[]=>.nil
 |n::m=>.cons (.int _) (Ug m)
theorem rN{K:atQ}{H:Hp}{a:Addr}{m:List Nat}(h:bB K H a (aq m)):Dp K H (.ref a) (tD m):=.tup h (Ug m)
theorem Uh:∀m:List Nat,PyData.canLayAll0 (m.map fun(n:Nat)=>PyData.int (n:Int))=true
 |[]=>by simp[PyData.canLayAll0]
 |n::m=>by simp[PyData.canLayAll0,PyData.canLay0];exact Uh m
theorem Ui:∀m:List Nat,PyData.depthAll (m.map fun(n:Nat)=>PyData.int (n:Int))=0
 |[]=>by simp[PyData.depthAll]
 |n::m=>by simp[PyData.depthAll,PyData.depth];exact Ui m
theorem rO(m:List Nat):SeqAt.shaped (tD m)=true:=by
 unfold SeqAt.shaped tD;simp only[PyData.canLay0,PyData.depth,Uh,Ui];decide
theorem Uj:∀m n:List Nat,PyData.eqvAll (m.map fun(n:Nat)=>PyData.int (n:Int)) (n.map fun(n:Nat)=>PyData.int (n:Int))=decide (m=n)
 |[],[]=>by simp[PyData.eqvAll]
 |[],_::_=>by simp[PyData.eqvAll]
 |_::_,[]=>by simp[PyData.eqvAll]
 |a::m,b::n=>by
  simp only[auf,PyData.eqvAll,PyData.eqv,Uj m n];by_cases h:a=b
  ·subst h;simp
  ·have h':¬(a:Int)=(b:Int):=by omega
   simp[h,h']
theorem Cj(m n:List Nat):PyData.eqv (tD m) (tD n)=decide (m=n):=by
 unfold tD;simp only[PyData.eqv,Uj]
section
variable{P:Program}{w:World}{K:atQ}{mg:Str->Option Value}{base:Heap}
def Uk(K:atQ):Sp:=fun vs H Q _=>∃(a b:Addr)(f g:List Nat),vs=[.ref a,.ref b]/\ak K H a (aq f)/\ak K H b (aq g)/\(∀x,x∈f->x<g.length)/\f.length<=1000/\
 ∀(H':Hp)(p:Addr),H p=none->H' p=some (.tup (aq (then_ f g)))->Same H H'->Q (.ref p) H'
theorem afK{f cR cM:Addr}{fd:FuncData}(F:aY K "compose" "compose" oA f fd)(T:Txt K mg cR cM):aJ P w K mg base aZ 1 f fd ["first","second"] (Uk K):=by
 refine F.ok vA (fun vs H Q E h=>?_) (fun cdv A outer s H vs Q E hr h=>?_)
 ·obtain⟨a,b,f,g,rfl,_⟩:=h;rfl
 ·obtain⟨a,b,f,g,rfl,hf,hg,hx,hl,k⟩:=h;refine⟨_,aH (bz (pq zc rfl T.tuple awp (aj (jd (own:=[("s",2)]) rfl vA.nd (gW (pv 0)) (iU (by show iD ["first","second","s"] (aU oA) _ _=true;decide +kernel))
   (fun _ _ _ _ _=>dF (i:=2) vA.nd rfl (atV rfl)) (fun _ _ _ _ _=>jc) (fun _ _ _ _ _=>dN (r:=qI K) eF (pv 1) (pv 2) (fun _ _=>rfl))) aA))),?_⟩
  refine⟨_,rfl,a,rfl,⟨_,hf⟩,fun D hD=>?_⟩;refine lF (xs:=aq f) (fun i H'=>Same H H'/\H' D=some (.lst (aq ((then_ f g).take i)))) ⟨Same.laid hD,by rw[aC];rfl⟩ (fun i H' _ q=>Same.seq q.1 hf) ?_ ?_
  ·rintro i x H' hi ⟨s1,d1⟩;obtain⟨hil,rfl⟩:=mj hi;have hlt:f.getD i 0<g.length:=hx _ (WA.mem_getD hil);refine⟨rfl,jk ?_⟩;refine⟨_,rfl,_,rfl,b,_,_,_,rfl,rfl,Same.seq s1 hg,cO rfl (kh hlt),_,d1,?_,Same.new s1 hD,?_⟩
   ·rw[atR,auN,WA.xf];exact cP (by omega)
   ·rw[aC];have e:(then_ f g)[i]?=some (g.getD (f.getD i 0) 0):=by
     unfold then_;simp[at5,hil]
    rw[auK,e];simp
  ·rintro H1 ⟨s1,d1⟩;have d2:H1 D=some (.lst (aq (then_ f g))):=by
    rw[d1,axm];rw[WA.xf,atR];exact atX _
   exact⟨D,_,rfl,.inl ⟨ak.of d2,fun p hp=>k _ p (Same.free s1 hp) aC (Same.trans s1 (Same.laid hp))⟩⟩
def ym(K:atQ):Sp:=fun vs H Q _=>∃(a:Addr)(cl:List Nat)(C:Nat),vs=[.ref a]/\ak K H a (aq cl)/\(∀x,x∈cl->x<C)/\(∃x,x∈cl/\x+1=C)/\Q (nv C) H
theorem afL:bR ["classes"] ["classes"] (aU Ig):=⟨rfl,rfl,rfl,by decide +kernel,rfl,by decide +kernel,by decide +kernel⟩
theorem kj(l:List Nat):aq l=(l.map fun(n:Nat)=>(n:Int)).map V.int:=by rw[auS];rfl
theorem afM{f cR cM:Addr}{fd:FuncData}(F:aY K "how_many" "how_many" Ig f fd)(X:Txt K mg cR cM):aJ P w K mg base aZ 1 f fd ["classes"] (ym K):=by
 refine F.ok afL (fun vs H Q E h=>?_) (fun cdv A outer s H vs Q E hr h=>?_)
 ·obtain⟨a,cl,C,rfl,_⟩:=h;rfl
 ·obtain⟨a,cl,C,rfl,ha,hlt,⟨y,hy,hyC⟩,k⟩:=h;refine⟨_,aH (bz (iC Yd (dU (Fe rfl) rfl X.max axK (aj (pv 0) aA)) bW)),?_⟩;rw[kj] at ha;refine⟨_,rfl,a,_,rfl,ha,by rw[atR];exact awY hy,fun m hm JP=>?_⟩;obtain⟨x,hx,rfl⟩:=at6.mp hm;have h1:=JP _ (at6.mpr ⟨y,hy,rfl⟩);have h2:=hlt x hx;refine⟨_,_,rfl,rfl,?_⟩;have e:(x:Int)+1=(C:Int):=by omega
  show Q (.int ((x:Int)+1)) H;rw[e];exact k
def Ul(c:Addr):Sp:=fun vs H Q _=>∃(S:Addr->Prop)(L:Lay)(M:Machine)(l:List WM),vs=[.ref L.p]/\Full c S H L M l/\∀H':Hp,Same H H'->Q (.bl (iw M)) H'
theorem JQ:bR ["algebra","x","y"] ["algebra"] (aU Bf):=⟨rfl,rfl,rfl,by decide +kernel,rfl,by decide +kernel,by decide +kernel⟩
theorem afN{f fC c cR cM:Addr}{fd dX:FuncData}(F:aY K "commutes" "commutes" Bf f fd)(T:TA K c)(X:Txt K mg cR cM)(GC:bG P w K mg base aZ "compose" 1 fC dX ["first","second"] (Uk K)):aJ P w K mg base aZ 2 f fd ["algebra"] (Ul c):=by
 refine F.ok JQ (fun vs H Q E h=>?_) (fun cdv A outer s H vs Q E hr h=>?_)
 ·obtain⟨S,L,M,l,rfl,_⟩:=h;rfl
 ·obtain⟨S,L,M,l,rfl,AA,k⟩:=h;have hu:(fG aZ P w K mg base ["algebra","x","y"] "commutes" (aU Bf) f cdv A outer s H E).jV.A.units+64<cLine:=by have:=hr.un;show(A.deeper _).units+64<cLine;omega
  refine⟨_,aD (ni PassesOwn.never rfl (gW (bh (pv 0) rfl)) (dF (i:=1) JQ.nd rfl (atV rfl))
    (aH (ni PassesOwn.never rfl (gW (bh (pv 0) rfl)) (dF (i:=2) JQ.nd rfl (atV rfl))
     (aH (cZ (cF (Fi hu) (cu GC.ok hr rfl GC.m GC.kp GC.b .nil bA (aj (pv 1) (aj (pv 2) aA))) (cu GC.ok hr rfl GC.m GC.kp GC.b .nil bA (aj (pv 2) (aj (pv 1) aA))) (bY _))
      (aH (bz Dz)) dm)))))
   (aH (bz Dz)),?_⟩
  obtain⟨bj,a1,a2,a3⟩:=AA.bj;have G:=AA.good;refine⟨_,rfl,L.p,c,L.dx,L.fs,_,rfl,AA.ins,T.cl,T.nL,AA.lL,L.aL,rfl,⟨_,ak.of a1⟩,sJ (K:=K) (a:=L.aL) (xs:=bj.map V.ref) (fun i σ H'=>Same H H'/\(∃v2 v3:Option V,σ=[some (.ref L.p),v2,v3])/\∀x y,x<i->y<M.k->then_ (letterMap M x) (letterMap M y)=then_ (letterMap M y) (letterMap M x))
   ⟨fun b o e=>e,⟨_,_,rfl⟩,fun x y hx=>by omega⟩ (fun i σ H' _ q=>ak.of (q.1 _ _ a1)) ?_ ?_⟩
  ·rintro i x σ H' hx ⟨s1,⟨v2,v3,rfl⟩,hc⟩;obtain⟨ax,hax,rfl⟩:=jD hx;have hi:i<M.k:=by rw[<-a2];exact(at9.mp hax).1
   obtain⟨ox,_⟩:=a3 i ax hax;have A1:=AA.same s1;refine⟨_,rfl,L.p,c,L.dx,L.fs,_,rfl,A1.ins,T.cl,T.nL,A1.lL,L.aL,rfl,⟨_,ak.of (s1 _ _ a1)⟩,sJ (K:=K) (a:=L.aL) (xs:=bj.map V.ref) (fun j σ H'=>Same H H'/\(∃v3:Option V,σ=[some (.ref L.p),some (.ref ax),v3])/\(∀x y,x<i->y<M.k->then_ (letterMap M x) (letterMap M y)=then_ (letterMap M y) (letterMap M x))/\∀y,y<j->then_ (letterMap M i) (letterMap M y)=then_ (letterMap M y) (letterMap M i))
    ⟨s1,⟨_,rfl⟩,hc,fun y hy=>by omega⟩ (fun j σ H' _ q=>ak.of (q.1 _ _ a1)) ?_ ?_⟩
   ·rintro j y σ H2 hy ⟨s2,⟨v3,rfl⟩,_,hcj⟩;obtain⟨ay,hay,rfl⟩:=jD hy;have hj:j<M.k:=by rw[<-a2];exact(at9.mp hay).1
    obtain⟨oy,_⟩:=a3 j ay hay;have lx:=WA.tK G hi;have ly:=WA.tK G hj;have hq:=G.2.1;refine⟨_,rfl,_,rfl,ax,ay,_,_,rfl,ak.of (s2 _ _ ox),ak.of (s2 _ _ oy),fun z hz=>by rw[ly.len];exact lx.lt z hz,by rw[lx.len];omega,fun H3 p hp hp' s3=>?_⟩;refine⟨_,rfl,_,rfl,ay,ax,_,_,rfl,ak.of (s3 _ _ (s2 _ _ oy)),ak.of (s3 _ _ (s2 _ _ ox)),fun z hz=>by rw[lx.len];exact ly.lt z hz,by rw[ly.len];omega,fun H4 p2 hp2 hp2' s4=>?_⟩;refine⟨_,_,rN (bB.of (s4 _ _ hp')),rN (bB.of hp2'),rO _,rO _,_,rfl,?_⟩;rw[Cj];have s5:=Same.trans s2 (Same.trans s3 s4);by_cases e:then_ (letterMap M i) (letterMap M j)=then_ (letterMap M j) (letterMap M i)
    ·rw[decide_eq_true e];refine jH ⟨s5,⟨_,rfl⟩,hc,fun y hy=>?_⟩;by_cases q:y<j
     ·exact hcj y q
     ·have:y=j:=by omega
      subst this;exact e
    ·rw[decide_eq_false e];refine gZ ?_;have:iw M=false:=by
      apply ayN.mpr;intro h;unfold iw at h;rw[auy] at h;have h:=h i (at4.mpr hi);rw[auy] at h;exact e (by simpa using h j (at4.mpr hj))
     have k1:=k H4 s5;rw[this] at k1;exact k1
   ·rintro σ H2 ⟨s2,⟨v3,rfl⟩,_,hcj⟩;rw[atR,a2] at hcj;refine⟨s2,⟨_,_,rfl⟩,fun x y hx hy=>?_⟩;by_cases q:x<i
    ·exact hc x y q hy
    ·have:x=i:=by omega
     subst this;exact hcj y hy
  ·rintro σ H2 ⟨s2,⟨v2,v3,rfl⟩,hc⟩;rw[atR,a2] at hc;have:iw M=true:=by
    unfold iw;rw[auy];intro x hx;rw[auy];intro y hy;simpa using hc x y (at4.mp hx) (at4.mp hy)
   have k1:=k H2 s2;rw[this] at k1;exact k1
end
open WA (cz j9)
theorem vQ{n C:Nat}{r:Nat->Nat->Prop}{cl:List Nat}(c:WA.Cl n r cl C)(hn:0<n):(∀x,x∈cl->x<C)/\∃x,x∈cl/\x+1=C:=by
 have h1:∀x,x∈cl->x<C:=fun x hx=>by
  obtain⟨i,hi,rfl⟩:=List.mem_iff_getElem.mp hx;have:=c.lt i (by rw[<-c.len];exact hi);rw[at5,atY hi] at this;exact this
 refine⟨h1,?_⟩;have hC:0<C:=by have:=c.lt 0 hn;omega
 obtain⟨a,ha,e⟩:=c.onto (C-1) (by omega);refine⟨cl.getD a 0,WA.mem_getD (by rw[c.len];exact ha),by omega⟩
theorem Um{n C:Nat}{r:Nat->Nat->Prop}{cl:List Nat}(c:WA.Cl n r cl C):C<=n:=by
 have h:∀k,k<=C->∃l:List Nat,l.Nodup/\l.length=k/\(∀x,x∈l->x<n)/\∀x,x∈l->cl.getD x 0<k:=by
  intro k
  induction k with
  |zero=>intro _;exact⟨[],by simp,rfl,by simp,by simp⟩
  |succ k ih=>
   intro hk;obtain⟨l,h1,h2,h3,h4⟩:=ih (by omega);obtain⟨a,ha,e⟩:=c.onto k (by omega);refine⟨a::l,au8.mpr ⟨fun q=>by have:=h4 a q;omega,h1⟩,by rw[auH,h2],fun x hx=>?_,fun x hx=>?_⟩
   ·rcases at3.mp hx with rfl|hx
    ·exact ha
    ·exact h3 x hx
   ·rcases at3.mp hx with rfl|hx
    ·omega
    ·have:=h4 x hx;omega
 obtain⟨l,h1,h2,h3,_⟩:=h C (atX _);have:=WA.lU n l h1 h3;omega
theorem afO(k:Nat):(auk k [V.int 0]).flatten=aq (auk k 0):=by
 induction k with
 |zero=>rfl
 |succ k ih=>
  rw[avs,avX,ih,avs];rfl
section
variable{P:Program}{w:World}{K:atQ}{mg:Str->Option Value}{base:Heap}
def Uo(K:atQ)(c:Addr):Sp:=fun vs H Q _=>∃(S:Addr->Prop)(L:Lay)(M:Machine)(l:List WM)(a:Addr)(cl:List Nat)(C:Nat),vs=[.ref L.p,.ref a]/\Full c S H L M l/\ak K H a (aq cl)/\cl.length=l.length/\(∀x,x∈cl->x<C)/\(∃x,x∈cl/\x+1=C)/\C<=10000/\
 ∀(H':Hp)(p:Addr),H p=none->H' p=some (.lst (aq (iJ (iK l) cl C l.length)))->Same H H'->Q (.ref p) H'
theorem Ck:bR ["algebra","classes","counts","row","number"] ["algebra","classes"] (aU Bg):=⟨rfl,rfl,rfl,by decide +kernel,rfl,by decide +kernel,by decide +kernel⟩
theorem afP{f fC fH c cR cM:Addr}{fd dX ql:FuncData}(F:aY K "idempotents_of_classes" "idempotents_of_classes" Bg f fd)(T:TA K c)(X:Txt K mg cR cM)(GC:bG P w K mg base aZ "compose" 1 fC dX ["first","second"] (vz K))
  (GH:bG P w K mg base aZ "how_many" 1 fH ql ["classes"] (ym K)):aJ P w K mg base aZ 2 f fd ["algebra","classes"] (Uo K c):=by
 refine F.ok Ck (fun vs H Q E h=>?_) (fun cdv A outer s H vs Q E hr h=>?_)
 ·obtain⟨S,L,M,l,a,cl,C,rfl,_⟩:=h;rfl
 ·obtain⟨S,L,M,l,a,cl,C,rfl,AA,ha,hcl,hlt,hex,hC,k⟩:=h;have hu:(fG aZ P w K mg base ["algebra","classes","counts","row","number"] "idempotents_of_classes" (aU Bg) f cdv A outer s H E).jV.A.units+64<cLine:=by have:=hr.un;show(A.deeper _).units+64<cLine;omega
  refine⟨_,aD (bf (i:=2) Ck.nd rfl (atV rfl) (iC Fb (dD (aj bW aA)) (cu GH.ok hr rfl GH.m GH.kp GH.b .nil bA (aj (pv 1) aA))))
   (aD (ni PassesOwn.never rfl (Pg rfl X.zip (aj (bh (pv 0) rfl) (aj (pv 1) aA))) (wy rfl (mZ (dF (i:=3) Ck.nd rfl (atV rfl)) (mZ (dF (i:=4) Ck.nd rfl (atV rfl)) ww)))
    (aH (cZ (cF (ZF hu) (cu GC.ok hr rfl GC.m GC.kp GC.b .nil bA (aj (pv 3) (aj (pv 3) aA))) (pv 3) (bY _)) (aH (Xx (pv 2) (pv 4) aa6 bW M6 wH)) dm)))
   (aH (bz (pv 2)))),?_⟩
  obtain⟨ras,b1,b2,b3⟩:=AA.ras;have BB:=AA.begun;refine⟨(by show 1<=sizeLine;decide),fun l1 hl1=>?_⟩;have s1:Same H (upd H l1 (.lst [.int 0])):=Same.laid hl1;refine⟨_,rfl,a,cl,C,rfl,Same.seq s1 ha,hlt,hex,l1,(C:Int),_,rfl,rfl,aC,by omega,by omega,by rw[auh];show 1*C<=sizeLine;rw[aw1];exact small (by omega),fun B hB=>?_⟩;rw[auh,afO];have JR:H B=none:=Same.free s1 hB;have s2:Same H (upd (upd H l1 (.lst [.int 0])) B (.lst (aq (auk C 0)))):=Same.new s1 JR;generalize hH2:upd (upd H l1 (.lst [.int 0])) B (.lst (aq (auk C 0)))=H2 at s2;have o2:H2 B=some (.lst (aq (auk C 0))):=by rw[<-hH2];exact aC
  have A2:=AA.same s2;refine⟨_,rfl,L.p,c,L.dx,L.fs,_,rfl,A2.ins,T.cl,T.nR,A2.lR,_,rfl,L.aR,a,_,_,rfl,ak.of (s2 _ _ b1),Same.seq s2 ha,?_⟩;refine afD (K:=K) (xs:=ras.map V.ref) (ys:=aq cl) (fun i σ H'=>Same H H'/\(∃v3 v4:Option V,σ=[some (.ref L.p),some (.ref a),some (.ref B),v3,v4])/\H' B=some (.lst (aq (iJ (iK l) cl C i)))) (by rw[atR,atR,b2,hcl])
   ⟨s2,⟨_,_,rfl⟩,o2⟩ (fun i σ H' _ q=>⟨ak.of (q.1 _ _ b1),Same.seq q.1 ha⟩) ?_ ?_
  ·rintro i x y σ H' TT hx hy ⟨s3,⟨v3,v4,rfl⟩,o3⟩ hT;obtain⟨ax,hax,rfl⟩:=jD hx;obtain⟨hil,rfl⟩:=mj hy;have hi:i<l.length:=by omega
   have s4:Same H' (upd H' TT (.tup [.ref ax,nv (cl.getD i 0)])):=Same.laid hT;refine⟨TT,_,rfl,bB.of aC,rfl,_,_,rfl,_,_,rfl,rfl,?_⟩;have ox:=(b3 i ax hax).1;have om:=BB.dB hi;have o4:=s4 _ _ o3;have s5:=Same.trans s3 s4;generalize upd H' TT (.tup [.ref ax,nv (cl.getD i 0)])=H4 at s4 o4 s5;refine⟨_,rfl,_,rfl,ax,ax,_,_,rfl,bB.of (s5 _ _ ox),.inr (bB.of (s5 _ _ ox)),fun z hz=>by rw[om.len];exact om.lt z hz,by rw[om.len];have:=AA.good.2.1;omega,fun H5 p hp hp' s6=>?_⟩;have s7:=Same.trans s5 s6;refine⟨_,rfl,_,_,rN (bB.of hp'),rN (bB.of (s7 _ _ ox)),rO _,rO _,_,rfl,?_⟩;rw[Cj];have o5:=s6 _ _ o4;have eB:decide (then_ (mp l i) (mp l i)=mp l i)=iK l i:=by unfold iK;rw[auz];simp
   rw[eB];cases q:iK l i with
   |true=>
    refine gZ ?_;have hlt':cl.getD i 0<(iJ (iK l) cl C i).length:=by rw[WA.vd];exact hlt _ (WA.mem_getD hil)
    refine⟨_,rfl,_,rfl,B,_,cl.getD i 0,_,rfl,rfl,ak.of o5,kh hlt',_,_,rfl,rfl,B,_,_,cl.getD i 0,rfl,rfl,o5,yd (by rw[atR];exact hlt'),?_⟩;refine⟨fun b o e=>by rw[au (aV e JR)];exact s7 _ _ e,⟨_,_,rfl⟩,?_⟩;rw[aC];show _=some (HO.lst (aq (if iK l i=true then _ else _)));rw[if_pos q];unfold aq;rw[List.map_set];rfl
   |false=>
    refine jH ⟨s7,⟨_,_,rfl⟩,?_⟩;show _=some (HO.lst (aq (if iK l i=true then _ else _)));rw[if_neg (by rw[q];decide)];exact o5
  ·rintro σ H' ⟨s3,⟨v3,v4,rfl⟩,o3⟩;rw[atR,b2] at o3;exact⟨_,rfl,k H' B JR o3 s3⟩
def ur:List Nat:=[1,2,4,8,16,32,64,128,256]
theorem afQ(M:Machine)(l:List WM):nY M l=(((avi ur (j9 M l)).filter fun x=>x.2).map fun x=>x.1).sum:=rfl
theorem yo:∀l:List Nat,(l.map fun(n:Nat)=>(n:Int)).sum=(l.sum:Int)
 |[]=>rfl
 |n::l=>by
  rw[auf,auT,auT,yo l];omega
theorem afR{l:List Nat}{m:Int}(hm:m∈l.map fun(n:Nat)=>(n:Int))(h:∀y,y∈(l.map fun(n:Nat)=>(n:Int))->m<=y):decide (m>0)=l.all fun x=>decide (0<x):=by
 obtain⟨x,hx,rfl⟩:=at6.mp hm;rw[auz,auy];simp only[decide_eq_true_eq];constructor
 ·intro h1 y hy;have:=h _ (at6.mpr ⟨y,hy,rfl⟩);omega
 ·intro h1;have:=h1 x hx;omega
theorem afS{l:List Nat}{m M:Int}(hm:m∈l.map fun(n:Nat)=>(n:Int))(h:∀y,y∈(l.map fun(n:Nat)=>(n:Int))->m<=y)(hM:M∈l.map fun(n:Nat)=>(n:Int))(h':∀y,y∈(l.map fun(n:Nat)=>(n:Int))->y<=M):
  (decide (m=1)&&decide (M=1))=l.all fun x=>x==1:=by
 rw[auz,auy,aup];simp only[decide_eq_true_eq,beq_iff_eq];constructor
 ·rintro⟨rfl,rfl⟩ y hy;have h1:=h _ (at6.mpr ⟨y,hy,rfl⟩);have h2:=h' _ (at6.mpr ⟨y,hy,rfl⟩);omega
 ·intro h1;obtain⟨x,hx,rfl⟩:=at6.mp hm;obtain⟨y,hy,rfl⟩:=at6.mp hM;have:=h1 x hx;have:=h1 y hy;omega
theorem JS(a b:Nat):decide (nv a=nv b)=(a==b):=by
 rw[auz];simp only[decide_eq_true_eq,beq_iff_eq];constructor
 ·intro h;have:=V.int.inj h;omega
 ·rintro rfl;rfl
theorem afT{K:atQ}{σ:L2.St}{G:Hp}{il ir:Addr}{xs ys:List Nat}{Q:VK}(hl:σ[4]?=some (some (.ref il)))(hr:σ[5]?=some (some (.ref ir)))(ol:G il=some (.lst (aq xs)))(or_:G ir=some (.lst (aq ys)))(hz:xs.length+ys.length<=100000)(hp:0<ys.length)
  (h:∀G':Hp,Same G G'->Q (.bl ((xs++ys).all fun x=>x==1)) G'):
  DK (lu Ej (nD (Om K) (oZ (lu EY (gC 4) (gC 5)) nu)) (tC (V.int 1))) (lu Ej (nD (Ol K) (oZ (lu EY (gC 4) (gC 5)) nu)) (tC (V.int 1))) σ G Q:=by
 have e:aq xs++aq ys=((xs++ys).map fun(n:Nat)=>(n:Int)).map V.int:=by rw[<-kj];simp[aq]
 refine⟨_,hl,_,hr,il,ir,_,_,rfl,rfl,ol,or_,by rw[atR,atR];exact small (by omega),fun p1 hp1=>?_⟩;rw[e];refine⟨p1,_,rfl,ak.of aC,by rw[atR,aud];omega,fun m hm hmin=>⟨rfl,_,rfl,?_⟩⟩;have s1:Same G (upd G p1 (.lst (((xs++ys).map fun(n:Nat)=>(n:Int)).map V.int))):=Same.laid hp1;obtain⟨y0,hy0⟩:∃y,y∈ys:=by cases ys with|nil=>simp at hp|cons y _=>exact⟨y,at7 ..⟩
 refine eY (fun d=>?_) (fun d=>?_)
 ·have em:m=1:=V.int.inj (of_decide_eq_true d);refine⟨_,hl,_,hr,il,ir,_,_,rfl,rfl,s1 _ _ ol,s1 _ _ or_,by rw[atR,atR];exact small (by omega),fun p2 hp2=>?_⟩;rw[e];refine⟨p2,_,rfl,ak.of aC,by rw[atR,aud];omega,fun n hn JP=>⟨rfl,?_⟩⟩;have:=afS hm hmin hn JP;rw[em,decide_eq_true rfl,Bool.true_and] at this;have e2:decide (V.int n=V.int 1)=decide (n=1):=by rw[auz];simp
  rw[e2,this];exact h _ (Same.trans s1 (Same.laid hp2))
 ·have hne:¬m=1:=fun q=>d (by rw[q];exact decide_eq_true rfl)
  have:((xs++ys).all fun x=>x==1)=false:=by
   apply ayN.mpr;intro q;rw[auy] at q;obtain⟨x,hx,rfl⟩:=at6.mp hm;have:=q x hx;simp only[beq_iff_eq] at this;omega
  have h1:=h _ s1;rw[this] at h1;exact h1
theorem oN:bR ["algebra","n","left","right","in_left","in_right","told","worth","holds"] ["algebra"] (aU Bh):=⟨rfl,rfl,rfl,by decide +kernel,rfl,by decide +kernel,by decide +kernel⟩
theorem afU{f fS fC fI fM fH c cR cM:Addr}{fd yj dX gq pX ql:FuncData}{k:Nat}(F:aY K "find_kind" "find_kind" Bh f fd)(T:TA K c)(X:Txt K mg cR cM)(XC:Ce mg)
  (GS:dC P w K mg base aZ c "size" 1 fS yj ["self"] (Bt c)) (GC:bG P w K mg base (aX P w) "classes_of_kind" (k+2) fC dX ["algebra","kind"] (Ci c cR fun z=>z=3->True)) (GI:bG P w K mg base aZ "idempotents_of_classes" 2 fI gq ["algebra","classes"] (Uo K c))
  (GM:bG P w K mg base aZ "commutes" 2 fM pX ["algebra"] (Ul c)) (GH:bG P w K mg base aZ "how_many" 1 fH ql ["classes"] (ym K)):aJ P w K mg base (aX P w) (k+3) f fd ["algebra"] (rK c "kind"):=by
 obtain⟨t0,h0⟩:=XC.k0;obtain⟨t1,h1⟩:=XC.k1;obtain⟨t2,h2⟩:=XC.k2;obtain⟨t3,h3⟩:=XC.k3;refine F.eE oN (fun vs H Q E h=>?_) (fun cdv A outer s H vs Q E hr h=>?_)
 ·obtain⟨L,M,l,rfl,_⟩:=h;rfl
 ·obtain⟨L,M,l,rfl,AA,kq⟩:=h;have hr1:bQ 1 _:=hr.mono (by omega);have hr2:bQ 2 _:=hr.mono (by omega);refine⟨_,aD (bf (i:=1) oN.nd rfl (atV rfl) (gj (pv 0) T.cl GS.m GS.ok hr1 GS.b .nil bA))
   (aD (bf (i:=2) oN.nd rfl (atV rfl) (cu GC.ok hr rfl GC.m GC.kp GC.b .nil cG (aj (pv 0) (aj (dz (v:=.int 0) rfl h0 ⟨_,rfl⟩) aA))))
   (aD (bf (i:=3) oN.nd rfl (atV rfl) (cu GC.ok hr rfl GC.m GC.kp GC.b .nil cG (aj (pv 0) (aj (dz (v:=.int 1) rfl h1 ⟨_,rfl⟩) aA))))
   (aD (bf (i:=4) oN.nd rfl (atV rfl) (cu GI.ok hr2 rfl GI.m GI.kp GI.b .nil bA (aj (pv 0) (aj (pv 2) aA))))
   (aD (bf (i:=5) oN.nd rfl (atV rfl) (cu GI.ok hr2 rfl GI.m GI.kp GI.b .nil bA (aj (pv 0) (aj (pv 3) aA))))
   (aD (bf (i:=6) oN.nd rfl (atV rfl) (dD
    (aj (nA (aj bW (aj (cu GM.ok hr2 rfl GM.m GM.kp GM.b .nil bA (aj (pv 0) aA)) aA)))
    (aj (nA (aj bW (aj (nj dR (dU (zj rfl) rfl X.sum aw5 (aj (pv 5) aA)) (pv 1) (bY _)) aA)))
    (aj (nA (aj bW (aj (nj dR (cu GH.ok hr1 rfl GH.m GH.kp GH.b .nil bA (aj (pv 3) aA)) bW (bY _)) aA)))
    (aj (nA (aj bW (aj (nj dR (cu GH.ok hr1 rfl GH.m GH.kp GH.b .nil bA (aj (cu GC.ok hr rfl GC.m GC.kp GC.b .nil cG (aj (pv 0) (aj (dz (v:=.int 3) rfl h3 ⟨_,rfl⟩) aA))) aA)) (pv 1) (bY _)) aA)))
    (aj (nA (aj bW (aj (nj dR (cu GH.ok hr1 rfl GH.m GH.kp GH.b .nil bA (aj (cu GC.ok hr rfl GC.m GC.kp GC.b .nil cG (aj (pv 0) (aj (dz (v:=.int 2) rfl h2 ⟨_,rfl⟩) aA))) aA)) (pv 1) (bY _)) aA)))
    (aj (nA (aj bW (aj (nj dR (cu GH.ok hr1 rfl GH.m GH.kp GH.b .nil bA (aj (pv 3) aA)) (pv 1) (bY _)) aA)))
    (aj (nA (aj bW (aj (nj dR (cu GH.ok hr1 rfl GH.m GH.kp GH.b .nil bA (aj (pv 2) aA)) (pv 1) (bY _)) aA)))
    (aj (nA (aj bW (aj (nj wD (dU (Ff rfl) rfl X.min axM (aj (pv 5) aA)) bW (bY _)) aA)))
    (aj (nA (aj bW (aj (Xf (nj dR (dU (Ff rfl) rfl X.min axM (aj (iC qL (pv 4) (pv 5)) aA)) bW (bY _))
     (Xe (nj dR (dU (Fe rfl) rfl X.max axK (aj (iC qL (pv 4) (pv 5)) aA)) bW (bY _)))) aA))) aA)))))))))))
   (aH (bz (dU (zj rfl) rfl X.sum aw5 (aj (jd (own:=[("worth",7),("holds",8)]) rfl oN.nd (gW (pv 6)) (iU (by show iD ["algebra","n","left","right","in_left","in_right","told","worth","holds"] (aU Bh) _ _=true;decide +kernel))
    (fun _ _ _ _ _=>show PG _ _ (yR K 2 (sE (jW 7) (sE (jW 8) yQ))) from wy rfl (mZ (dF (i:=7) oN.nd rfl (atV rfl)) (mZ (dF (i:=8) oN.nd rfl (atV rfl)) ww)))
    (fun _ _ _ _ _=>ZR (show PT _ _ (fun σ H Q=>gC 8 σ H fun x H'=>∃k,yX K x H' k/\Q k H') from yZ (pv 8) (by intro _;rfl))) (fun _ _ _ _ _=>pv 7)) aA))))))))),?_⟩
  have BB:=AA.aM.begun;have hn:=AA.aM.most;have c0:=vQ (WA.qZ BB) BB.pos;have c1:=vQ (WA.lX BB) BB.pos;have c2:=vQ (WA.Hm BB) BB.pos;have c3:=vQ (WA.Hn BB) BB.pos;have z0:=Um (WA.qZ BB);have z1:=Um (WA.lX BB);refine⟨_,rfl,L.p,L.dx,L.fs,rfl,AA.aM.ins,Full.none AA.aM "size" (by decide +kernel),All,L,M,l,rfl,AA.aM,?_⟩;refine⟨_,rfl,L,M,l,0,rfl,AA,fun q=>True.intro,fun _ H1 v A1 s1 e1=>?_,fun q=>absurd ⟨by omega,by omega⟩ q⟩;obtain⟨a,rfl,ha⟩:=e1;refine⟨_,rfl,L,M,l,1,rfl,A1,fun q=>True.intro,fun _ H2 v A2 s2 e2=>?_,fun q=>absurd ⟨by omega,by omega⟩ q⟩;obtain⟨b,rfl,hb⟩:=e2;have ha2:=A1.sd s2 _ _ ha (iW _);have sd2:=s1.trans s2;refine⟨_,rfl,_,rfl,All,L,M,l,a,_,_,rfl,A2.aM,ak.of ha2,(WA.qZ BB).len,c0.1,c0.2,by omega,fun H3 il hil oil s3=>?_⟩;have A3:=A2.same s3;refine⟨_,rfl,_,rfl,All,L,M,l,b,_,_,rfl,A3.aM,ak.of (s3 _ _ hb),(WA.lX BB).len,c1.1,c1.2,by omega,fun H4 ir hir oir s4=>?_⟩;have A4:=A3.same s4;have sd4:dO L.aK H H4:=sd2.trans (s3.d.trans s4.d);have afZ:H4 il=some (.lst (aq (cz M l 0))):=s4 _ _ oil;have JT:H4 ir=some (.lst (aq (cz M l 1))):=oir;have BP:H4 a=some (.lst (aq (aF M l 0).1)):=s4 _ _ (s3 _ _ ha2);have hb4:H4 b=some (.lst (aq (aF M l 1).1)):=s4 _ _ (s3 _ _ hb);refine⟨_,rfl,All,L,M,l,rfl,A4.aM,fun H5 s5=>⟨by show 2<=sizeLine;decide,fun u1 hu1=>?_⟩⟩;have AM1:=A4.same s5;have SM1:=sd4.trans s5.d;have NM1:=s5.n;have Cm:Same H5 (upd H5 u1 (.tup [.int 1,.bl (iw M)])):=Same.laid hu1;have Uq:di c (upd H5 u1 (.tup [.int 1,.bl (iw M)])) L M l:=(AM1).same Cm;have Ur:dO L.aK H (upd H5 u1 (.tup [.int 1,.bl (iw M)])):=(SM1).trans Cm.d;have JV:fj H4 (upd H5 u1 (.tup [.int 1,.bl (iw M)])):=(NM1).trans Cm.n;have p1:(upd H5 u1 (.tup [.int 1,.bl (iw M)])) u1=some (.tup [.int 1,.bl (iw M)]):=aC;clear Cm;generalize upd H5 u1 (.tup [.int 1,.bl (iw M)])=G1 at Uq Ur JV p1⊢;refine⟨_,rfl,ir,_,rfl,ak.of (by rw[<-kj];exact JV _ _ JT (iW _)),_,rfl,rfl,by show 2<=sizeLine;decide,fun u2 hu2=>?_⟩;have AM2:=Uq;have SM2:=Ur;have NM2:=JV;have yq:Same G1 (upd G1 u2 (.tup [.int 2,.bl (decide (V.int ((cz M l 1).map fun(n:Nat)=>(n:Int)).sum=nv l.length))])):=Same.laid hu2;have Us:di c (upd G1 u2 (.tup [.int 2,.bl (decide (V.int ((cz M l 1).map fun(n:Nat)=>(n:Int)).sum=nv l.length))])) L M l:=(AM2).same yq;have Ut:dO L.aK H (upd G1 u2 (.tup [.int 2,.bl (decide (V.int ((cz M l 1).map fun(n:Nat)=>(n:Int)).sum=nv l.length))])):=(SM2).trans yq.d;have JW:fj H4 (upd G1 u2 (.tup [.int 2,.bl (decide (V.int ((cz M l 1).map fun(n:Nat)=>(n:Int)).sum=nv l.length))])):=(NM2).trans yq.n;have p2:(upd G1 u2 (.tup [.int 2,.bl (decide (V.int ((cz M l 1).map fun(n:Nat)=>(n:Int)).sum=nv l.length))])) u2=some (.tup [.int 2,.bl (decide (V.int ((cz M l 1).map fun(n:Nat)=>(n:Int)).sum=nv l.length))]):=aC;have p1:=yq.n _ _ p1 (bV _);clear yq;generalize upd G1 u2 (.tup [.int 2,.bl (decide (V.int ((cz M l 1).map fun(n:Nat)=>(n:Int)).sum=nv l.length))])=G2 at Us Ut JW p2 p1⊢;refine⟨_,rfl,b,_,_,rfl,ak.of (JW _ _ hb4 (iW _)),c1.1,c1.2,rfl,by show 2<=sizeLine;decide,fun u3 hu3=>?_⟩;have AM3:=Us;have SM3:=Ut;have NM3:=JW;have vR:Same G2 (upd G2 u3 (.tup [.int 4,.bl (decide (nv (aF M l 1).2=.int 1))])):=Same.laid hu3;have JX:di c (upd G2 u3 (.tup [.int 4,.bl (decide (nv (aF M l 1).2=.int 1))])) L M l:=(AM3).same vR;have Uu:dO L.aK H (upd G2 u3 (.tup [.int 4,.bl (decide (nv (aF M l 1).2=.int 1))])):=(SM3).trans vR.d;have Uv:fj H4 (upd G2 u3 (.tup [.int 4,.bl (decide (nv (aF M l 1).2=.int 1))])):=(NM3).trans vR.n;have p3:(upd G2 u3 (.tup [.int 4,.bl (decide (nv (aF M l 1).2=.int 1))])) u3=some (.tup [.int 4,.bl (decide (nv (aF M l 1).2=.int 1))]):=aC;have p1:=vR.n _ _ p1 (bV _);have p2:=vR.n _ _ p2 (bV _);clear vR;generalize upd G2 u3 (.tup [.int 4,.bl (decide (nv (aF M l 1).2=.int 1))])=G3 at JX Uu Uv p3 p1 p2⊢;refine⟨_,rfl,L,M,l,3,rfl,JX,fun q=>True.intro,fun _ I4 v AM4 Uw em4=>?_,fun q=>absurd ⟨by omega,by omega⟩ q⟩;obtain⟨x4,rfl,hx4⟩:=em4;have SM4:=Uu.trans Uw;have Cp:=JX.sd Uw;have NM4:=Uv.trans Cp;have p1:=Cp _ _ p1 (bV _);have p2:=Cp _ _ p2 (bV _);have p3:=Cp _ _ p3 (bV _);refine⟨x4,_,_,rfl,ak.of hx4,c3.1,c3.2,_,rfl,rfl,by show 2<=sizeLine;decide,fun u4 hu4=>?_⟩;have uv:Same I4 (upd I4 u4 (.tup [.int 8,.bl (decide (nv (aF M l 3).2=nv l.length))])):=Same.laid hu4;have JZ:di c (upd I4 u4 (.tup [.int 8,.bl (decide (nv (aF M l 3).2=nv l.length))])) L M l:=(AM4).same uv;have Ux:dO L.aK H (upd I4 u4 (.tup [.int 8,.bl (decide (nv (aF M l 3).2=nv l.length))])):=(SM4).trans uv.d;have Uy:fj H4 (upd I4 u4 (.tup [.int 8,.bl (decide (nv (aF M l 3).2=nv l.length))])):=(NM4).trans uv.n;have p4:(upd I4 u4 (.tup [.int 8,.bl (decide (nv (aF M l 3).2=nv l.length))])) u4=some (.tup [.int 8,.bl (decide (nv (aF M l 3).2=nv l.length))]):=aC;have p1:=uv.n _ _ p1 (bV _);have p2:=uv.n _ _ p2 (bV _);have p3:=uv.n _ _ p3 (bV _);clear uv;generalize upd I4 u4 (.tup [.int 8,.bl (decide (nv (aF M l 3).2=nv l.length))])=G4 at JZ Ux Uy p4 p1 p2 p3⊢;refine⟨_,rfl,L,M,l,2,rfl,JZ,fun q=>True.intro,fun _ I5 v AM5 Uz em5=>?_,fun q=>absurd ⟨by omega,by omega⟩ q⟩;obtain⟨x5,rfl,hx5⟩:=em5;have SM5:=Ux.trans Uz;have yr:=JZ.sd Uz;have NM5:=Uy.trans yr;have p1:=yr _ _ p1 (bV _);have p2:=yr _ _ p2 (bV _);have p3:=yr _ _ p3 (bV _);have p4:=yr _ _ p4 (bV _);refine⟨x5,_,_,rfl,ak.of hx5,c2.1,c2.2,_,rfl,rfl,by show 2<=sizeLine;decide,fun u5 hu5=>?_⟩;have rP:Same I5 (upd I5 u5 (.tup [.int 16,.bl (decide (nv (aF M l 2).2=nv l.length))])):=Same.laid hu5;have UG:di c (upd I5 u5 (.tup [.int 16,.bl (decide (nv (aF M l 2).2=nv l.length))])) L M l:=(AM5).same rP;have UJ:dO L.aK H (upd I5 u5 (.tup [.int 16,.bl (decide (nv (aF M l 2).2=nv l.length))])):=(SM5).trans rP.d;have J0:fj H4 (upd I5 u5 (.tup [.int 16,.bl (decide (nv (aF M l 2).2=nv l.length))])):=(NM5).trans rP.n;have p5:(upd I5 u5 (.tup [.int 16,.bl (decide (nv (aF M l 2).2=nv l.length))])) u5=some (.tup [.int 16,.bl (decide (nv (aF M l 2).2=nv l.length))]):=aC;have p1:=rP.n _ _ p1 (bV _);have p2:=rP.n _ _ p2 (bV _);have p3:=rP.n _ _ p3 (bV _);have p4:=rP.n _ _ p4 (bV _);clear rP;generalize upd I5 u5 (.tup [.int 16,.bl (decide (nv (aF M l 2).2=nv l.length))])=G5 at UG UJ J0 p5 p1 p2 p3 p4⊢;refine⟨_,rfl,b,_,_,rfl,ak.of (J0 _ _ hb4 (iW _)),c1.1,c1.2,_,rfl,rfl,by show 2<=sizeLine;decide,fun u6 hu6=>?_⟩;have AM6:=UG;have SM6:=UJ;have NM6:=J0;have qm:Same G5 (upd G5 u6 (.tup [.int 32,.bl (decide (nv (aF M l 1).2=nv l.length))])):=Same.laid hu6;have UL:di c (upd G5 u6 (.tup [.int 32,.bl (decide (nv (aF M l 1).2=nv l.length))])) L M l:=(AM6).same qm;have UT:dO L.aK H (upd G5 u6 (.tup [.int 32,.bl (decide (nv (aF M l 1).2=nv l.length))])):=(SM6).trans qm.d;have J1:fj H4 (upd G5 u6 (.tup [.int 32,.bl (decide (nv (aF M l 1).2=nv l.length))])):=(NM6).trans qm.n;have p6:(upd G5 u6 (.tup [.int 32,.bl (decide (nv (aF M l 1).2=nv l.length))])) u6=some (.tup [.int 32,.bl (decide (nv (aF M l 1).2=nv l.length))]):=aC;have p1:=qm.n _ _ p1 (bV _);have p2:=qm.n _ _ p2 (bV _);have p3:=qm.n _ _ p3 (bV _);have p4:=qm.n _ _ p4 (bV _);have p5:=qm.n _ _ p5 (bV _);clear qm;generalize upd G5 u6 (.tup [.int 32,.bl (decide (nv (aF M l 1).2=nv l.length))])=G6 at UL UT J1 p6 p1 p2 p3 p4 p5⊢;refine⟨_,rfl,a,_,_,rfl,ak.of (J1 _ _ BP (iW _)),c0.1,c0.2,_,rfl,rfl,by show 2<=sizeLine;decide,fun u7 hu7=>?_⟩;have AM7:=UL;have SM7:=UT;have NM7:=J1;have oO:Same G6 (upd G6 u7 (.tup [.int 64,.bl (decide (nv (aF M l 0).2=nv l.length))])):=Same.laid hu7;have UV:di c (upd G6 u7 (.tup [.int 64,.bl (decide (nv (aF M l 0).2=nv l.length))])) L M l:=(AM7).same oO;have UW:dO L.aK H (upd G6 u7 (.tup [.int 64,.bl (decide (nv (aF M l 0).2=nv l.length))])):=(SM7).trans oO.d;have J2:fj H4 (upd G6 u7 (.tup [.int 64,.bl (decide (nv (aF M l 0).2=nv l.length))])):=(NM7).trans oO.n;have p7:(upd G6 u7 (.tup [.int 64,.bl (decide (nv (aF M l 0).2=nv l.length))])) u7=some (.tup [.int 64,.bl (decide (nv (aF M l 0).2=nv l.length))]):=aC;have p1:=oO.n _ _ p1 (bV _);have p2:=oO.n _ _ p2 (bV _);have p3:=oO.n _ _ p3 (bV _);have p4:=oO.n _ _ p4 (bV _);have p5:=oO.n _ _ p5 (bV _);have p6:=oO.n _ _ p6 (bV _);clear oO;generalize upd G6 u7 (.tup [.int 64,.bl (decide (nv (aF M l 0).2=nv l.length))])=G7 at UV UW J2 p7 p1 p2 p3 p4 p5 p6⊢;have tl1:(cz M l 1).length=(aF M l 1).2:=WA.Ag 1;have tl0:(cz M l 0).length=(aF M l 0).2:=WA.Ag 0;have cp1:0<(aF M l 1).2:=by obtain⟨x,_,e⟩:=c1.2;omega
  refine⟨_,rfl,ir,_,rfl,ak.of (by rw[<-kj];exact J2 _ _ JT (iW _)),by rw[atR,tl1];exact cp1,fun m8 hm8 agw=>?_⟩;refine⟨_,_,rfl,rfl,by show 2<=sizeLine;decide,fun u8 hu8=>?_⟩;have AM8:=UV;have SM8:=UW;have NM8:=J2;have mQ:Same G7 (upd G7 u8 (.tup [.int 128,.bl (decide (m8>0))])):=Same.laid hu8;have U0:di c (upd G7 u8 (.tup [.int 128,.bl (decide (m8>0))])) L M l:=(AM8).same mQ;have U3:dO L.aK H (upd G7 u8 (.tup [.int 128,.bl (decide (m8>0))])):=(SM8).trans mQ.d;have vM:fj H4 (upd G7 u8 (.tup [.int 128,.bl (decide (m8>0))])):=(NM8).trans mQ.n;have p8:(upd G7 u8 (.tup [.int 128,.bl (decide (m8>0))])) u8=some (.tup [.int 128,.bl (decide (m8>0))]):=aC;have p1:=mQ.n _ _ p1 (bV _);have p2:=mQ.n _ _ p2 (bV _);have p3:=mQ.n _ _ p3 (bV _);have p4:=mQ.n _ _ p4 (bV _);have p5:=mQ.n _ _ p5 (bV _);have p6:=mQ.n _ _ p6 (bV _);have p7:=mQ.n _ _ p7 (bV _);clear mQ;generalize upd G7 u8 (.tup [.int 128,.bl (decide (m8>0))])=G8 at U0 U3 vM p8 p1 p2 p3 p4 p5 p6 p7⊢;refine(show DK _ _ _ _ _ from afT (K:=K) (il:=il) (ir:=ir) (xs:=cz M l 0) (ys:=cz M l 1) rfl rfl (vM _ _ afZ (iW _)) (vM _ _ JT (iW _)) (by omega) (by omega) fun I9 s9=>⟨by show 2<=sizeLine;decide,fun u9 hu9=>?_⟩);have AM9:=U0.same s9;have SM9:=U3.trans s9.d;have NM9:=vM.trans s9.n;have p1:=s9.n _ _ p1 (bV _);have p2:=s9.n _ _ p2 (bV _);have p3:=s9.n _ _ p3 (bV _);have p4:=s9.n _ _ p4 (bV _);have p5:=s9.n _ _ p5 (bV _);have p6:=s9.n _ _ p6 (bV _);have p7:=s9.n _ _ p7 (bV _);have p8:=s9.n _ _ p8 (bV _);have kE:Same I9 (upd I9 u9 (.tup [.int 256,.bl ((cz M l 0++cz M l 1).all fun x=>x==1)])):=Same.laid hu9;have U4:di c (upd I9 u9 (.tup [.int 256,.bl ((cz M l 0++cz M l 1).all fun x=>x==1)])) L M l:=(AM9).same kE;have U5:dO L.aK H (upd I9 u9 (.tup [.int 256,.bl ((cz M l 0++cz M l 1).all fun x=>x==1)])):=(SM9).trans kE.d;have n9':fj H4 (upd I9 u9 (.tup [.int 256,.bl ((cz M l 0++cz M l 1).all fun x=>x==1)])):=(NM9).trans kE.n;have p9:(upd I9 u9 (.tup [.int 256,.bl ((cz M l 0++cz M l 1).all fun x=>x==1)])) u9=some (.tup [.int 256,.bl ((cz M l 0++cz M l 1).all fun x=>x==1)]):=aC;have p1:=kE.n _ _ p1 (bV _);have p2:=kE.n _ _ p2 (bV _);have p3:=kE.n _ _ p3 (bV _);have p4:=kE.n _ _ p4 (bV _);have p5:=kE.n _ _ p5 (bV _);have p6:=kE.n _ _ p6 (bV _);have p7:=kE.n _ _ p7 (bV _);have p8:=kE.n _ _ p8 (bV _);clear kE;generalize upd I9 u9 (.tup [.int 256,.bl ((cz M l 0++cz M l 1).all fun x=>x==1)])=G9 at U4 U5 n9' p9 p1 p2 p3 p4 p5 p6 p7 p8⊢;refine⟨by show 9<=sizeLine;decide,fun B hB=>?_⟩;have lz:Same G9 (upd G9 B (.lst [.ref u1,.ref u2,.ref u3,.ref u4,.ref u5,.ref u6,.ref u7,.ref u8,.ref u9])):=Same.laid hB;have AT:=U4.same lz;have U6:=U5.trans lz.d;have oB:(upd G9 B (.lst [.ref u1,.ref u2,.ref u3,.ref u4,.ref u5,.ref u6,.ref u7,.ref u8,.ref u9])) B=some (.lst [.ref u1,.ref u2,.ref u3,.ref u4,.ref u5,.ref u6,.ref u7,.ref u8,.ref u9]):=aC;have p1:=lz _ _ p1;have p2:=lz _ _ p2;have p3:=lz _ _ p3;have p4:=lz _ _ p4;have p5:=lz _ _ p5;have p6:=lz _ _ p6;have p7:=lz _ _ p7;have p8:=lz _ _ p8;have p9:=lz _ _ p9;clear lz;generalize upd G9 B (.lst [.ref u1,.ref u2,.ref u3,.ref u4,.ref u5,.ref u6,.ref u7,.ref u8,.ref u9])=GT at AT U6 oB p1 p2 p3 p4 p5 p6 p7 p8 p9⊢;have e2:decide (V.int ((cz M l 1).map fun(n:Nat)=>(n:Int)).sum=nv l.length)=((cz M l 1).sum==l.length):=by rw[yo];exact JS _ _
  have e8:=afR hm8 agw;rw[e2] at p2;rw[show decide (nv (aF M l 1).2=.int 1)=((aF M l 1).2==1) from JS _ _] at p3;rw[JS] at p4 p5 p6 p7;rw[e8] at p8;have tf:∀(i:Nat)(t:Addr),[u1,u2,u3,u4,u5,u6,u7,u8,u9][i]?=some t->∃(w:Nat)(b:Bool),(avi ur (j9 M l))[i]?=some (w,b)/\GT t=some (.tup [nv w,.bl b]):=fun i t ht=>by
   match i,ht with
   |0,ht=>cases ht;exact⟨1,_,rfl,p1⟩
   |1,ht=>cases ht;exact⟨2,_,rfl,p2⟩
   |2,ht=>cases ht;exact⟨4,_,rfl,p3⟩
   |3,ht=>cases ht;exact⟨8,_,rfl,p4⟩
   |4,ht=>cases ht;exact⟨16,_,rfl,p5⟩
   |5,ht=>cases ht;exact⟨32,_,rfl,p6⟩
   |6,ht=>cases ht;exact⟨64,_,rfl,p7⟩
   |7,ht=>cases ht;exact⟨128,_,rfl,p8⟩
   |8,ht=>cases ht;exact⟨256,_,rfl,p9⟩
   |i+9,ht=>simp at ht
  refine⟨_,rfl,B,rfl,⟨_,ak.of oB⟩,fun D hD=>?_⟩;refine lF (K:=K) (tt:=fun σ H Q=>gC 8 σ H fun x H'=>∃k,yX K x H' k/\Q k H') (te:=gC 7) (g:=yR K 2 (sE (jW 7) (sE (jW 8) yQ))) (xs:=[u1,u2,u3,u4,u5,u6,u7,u8,u9].map V.ref) (fun i H'=>Same GT H'/\H' D=some (.lst (aq ((((avi ur (j9 M l)).take i).filter fun x=>x.2).map fun x=>x.1)))) ⟨Same.laid hD,by rw[aC];rfl⟩ (fun i H' _ q=>ak.of (q.1 _ _ oB)) ?_ ?_
  ·rintro i x H' hi ⟨sI,dI⟩;obtain⟨t,ht,rfl⟩:=jD hi;obtain⟨w',b',hz,ot⟩:=tf i t ht;refine⟨t,_,rfl,bB.of (sI _ _ ot),rfl,_,_,rfl,_,_,rfl,rfl,rfl,_,rfl,b',rfl,?_⟩;cases b' with
   |true=>
    refine gZ ⟨_,rfl,_,dI,?_,Same.new sI hD,?_⟩
    ·rw[atR,atR];have h1:=ayJ (fun x:Nat×Bool=>x.2) ((avi ur (j9 M l)).take i);have h2:((avi ur (j9 M l)).take i).length<=9:=by rw[auN,List.length_zip];show min i (min 9 _)<=9;omega
     exact cP (by omega)
    ·rw[aC,auK,hz];simp[aq]
   |false=>
    refine jH ⟨sI,?_⟩;rw[dI,auK,hz];simp[aq]
  ·rintro H' ⟨sI,dI⟩;have ez:(avi ur (j9 M l)).take ([u1,u2,u3,u4,u5,u6,u7,u8,u9].map V.ref).length=avi ur (j9 M l):=rfl;rw[ez,kj] at dI;refine⟨D,_,rfl,ak.of dI,?_⟩;rw[yo,<-afQ];exact kq H' _ (AT.same sI) (U6.trans sI.d) (.inr (.inr (.inr (.inr (.inr (.inl ⟨rfl,rfl⟩))))))
end
open WA (dW dg pM jM)
theorem U7(val:Nat->Int):∀i,(firstMet val i).Nodup
 |0=>awI
 |i+1=>by
  rw[firstMet_succ];unfold step_dedup;have ih:=U7 val i
  split
  ·exact ih
  ·rename_i h
   rw[awT];refine⟨ih,by simp,fun a ha b hb e=>h ?_⟩;rw[auE] at hb;rw[auZ];exact⟨a,ha,by rw[e,hb];simp⟩
theorem J3(ns:List Int)(z:Int):z∈dd ns↔z∈ns:=by
 have h:=firstMet_any (fun i=>ns.getD i 0) ns.length z;have e:(atU ns.length).map (fun i=>ns.getD i 0)=ns:=by
  apply av1
  ·simp
  ·intro i h1 h2;simp[at5,h2]
 rw[e,auz] at h;simp only[auZ,beq_iff_eq,exists_eq_right] at h;exact h
theorem yt(m:List Nat):(dd (m.map fun(n:Nat)=>(n:Int))).length=dW m:=by
 have c:=WA.ig _ m rfl;have nd:((bD m).2.map fun(n:Nat)=>(n:Int)).Nodup:=by
  unfold avK;rw[avH];exact awo (fun{a b} h e=>h (by omega)) c.nodup
 have h1:=WA.lV _ ((bD m).2.map fun(n:Nat)=>(n:Int)) (U7 (fun i=>(m.map fun(n:Nat)=>(n:Int)).getD i 0) (m.map fun(n:Nat)=>(n:Int)).length) fun x hx=>by
  obtain⟨y,hy,rfl⟩:=at6.mp ((J3 _ x).mp hx);exact at6.mpr ⟨y,(c.mem y).mpr hy,rfl⟩
 have h2:=WA.lV _ (dd (m.map fun(n:Nat)=>(n:Int))) nd fun x hx=>by
  obtain⟨y,hy,rfl⟩:=at6.mp hx;exact(J3 _ _).mpr (at6.mpr ⟨y,(c.mem y).mp hy,rfl⟩)
 have h1:(dd (m.map fun(n:Nat)=>(n:Int))).length<=((bD m).2.map fun(n:Nat)=>(n:Int)).length:=h1;rw[atR] at h1 h2;unfold dW;omega
theorem agG(m:List Nat):dW m<=m.length:=by
 have c:=WA.ig _ m rfl;exact WA.lV _ _ c.nodup fun x hx=>(c.mem x).mp hx
section
variable{P:Program}{w:World}{K:atQ}{mg:Str->Option Value}{base:Heap}
def J4(c:Addr):Sp:=fun vs H Q _=>∃(S:Addr->Prop)(L:Lay)(M:Machine)(l:List WM),vs=[.ref L.p]/\Full c S H L M l/\∀(H':Hp)(p:Addr),H p=none->H' p=some (.lst (aq (dg M l)))->Same H H'->Q (.ref p) H'
theorem vU:bR ["algebra","places","fewest","row","count"] ["algebra"] (aU xN):=⟨rfl,rfl,rfl,by decide +kernel,rfl,by decide +kernel,by decide +kernel⟩
def U8(P:Program)(w:World)(K:atQ):TE:=nD (fun xs H Q=>∃a M n,xs=[V.ref a]/\H a=some (pJ P w a M n)/\Q (.int (n:Nat)) H) (oZ (nD (Gw P w K) (oZ (gC 3) nu)) nu)
theorem agH{f c cR cM:Addr}{fd:FuncData}(F:aY K "ideal_of" "ideal_of" xN f fd)(T:TA K c)(X:Txt K mg cR cM):aJ P w K mg base aZ 1 f fd ["algebra"] (J4 c):=by
 refine F.ok vU (fun vs H Q E h=>?_) (fun cdv A outer s H vs Q E hr h=>?_)
 ·obtain⟨S,L,M,l,rfl,_⟩:=h;rfl
 ·obtain⟨S,L,M,l,rfl,AA,k⟩:=h;refine⟨_,aD (Z4 (i:=1) (own:=[("row",3)]) rfl vU.nd rfl rfl rfl (gW (bh (pv 0) rfl)) (iU (by show iD ["algebra","places","fewest","row","count"] (aU xN) _ _=true;decide +kernel))
    (fun _ _ _ _ _=>dF (i:=3) vU.nd rfl (atV rfl)) (fun _ _ _ _ _=>jc)
    (fun _ _ _ _ _=>show PE _ _ (U8 P w K) from dU abV rfl X.len auL (aj (pq (Qq rfl) rfl X.set ayO (aj (pv 3) aA)) aA)))
   (aD (bf (i:=2) vU.nd rfl (atZ rfl) (dU (Ff rfl) rfl X.min axM (aj (pv 1) aA)))
   (aH (bz (jd (own:=[("count",4)]) rfl vU.nd (gW (pv 1)) (iU (by show iD ["algebra","places","fewest","row","count"] (aU xN) _ _=true;decide +kernel))
    (fun _ _ _ _ _=>dF (i:=4) vU.nd rfl (atV rfl)) (fun _ _ _ _ _=>jc)
    (fun _ _ _ _ _=>Xh (cF dR (pv 4) (pv 2) (bY _)) bW bW))))),?_⟩
  obtain⟨ras,b1,b2,b3⟩:=AA.ras;have BB:=AA.begun;have hn:=AA.most;refine⟨_,rfl,L.p,c,L.dx,L.fs,_,rfl,AA.ins,T.cl,T.nR,AA.lR,L.aR,rfl,⟨_,ak.of b1⟩,fun D hD=>?_⟩;obtain⟨rk,J5⟩:∃rk,rk=(atU l.length).map fun a=>dW (mp l a):=⟨_,rfl⟩
  have J6:rk.length=l.length:=by rw[J5];simp
  have J7:∀a,a<l.length->rk[a]?=some (dW (mp l a)):=fun a ha=>by rw[J5,aui,au5 ha];rfl
  refine lF (K:=K) (te:=U8 P w K) (xs:=ras.map V.ref) (fun i H'=>Same H H'/\H' D=some (.lst (aq (rk.take i)))) ⟨Same.laid hD,by rw[aC];rfl⟩ (fun i H' _ q=>ak.of (q.1 _ _ b1)) ?_ ?_
  ·rintro i x H' hi ⟨s1,d1⟩;obtain⟨ax,hax,rfl⟩:=jD hi;have hil:i<l.length:=by rw[<-b2];exact(at9.mp hax).1
   have ox:=s1 _ _ (b3 i ax hax).1;have om:=BB.dB hil;have hq:=AA.good.2.1;refine⟨rfl,jk ?_⟩;rw[kj] at ox;refine⟨_,rfl,ax,_,rfl,.inr (bB.of ox),?_,fun u hu=>?_⟩
   ·rw[yt];have:=agG (mp l i);rw[om.len] at this;omega
   have s2:Same H' (upd H' u (pJ P w u (fun k=>(dd ((mp l i).map fun(n:Nat)=>(n:Int))).any (·==k)) (dd ((mp l i).map fun(n:Nat)=>(n:Int))).length)):=Same.laid hu;refine⟨u,_,_,rfl,aC,_,s2 _ _ d1,?_,fun b o e=>?_,?_⟩
   ·rw[atR,auN];exact cP (by omega)
   ·rw[au (aV e hD)];exact s2 _ _ (s1 _ _ e)
   ·rw[aC,yt,auK,J7 i hil];simp[aq]
  ·rintro H1 ⟨s1,d1⟩;rw[atR,b2,<-J6,auX] at d1;have d1':=d1;rw[kj] at d1';refine⟨_,rfl,D,_,rfl,ak.of d1',by rw[atR,J6];exact BB.pos,fun m hm hmin=>?_⟩;obtain⟨fm,hfm,rfl⟩:=at6.mp hm;have hle:∀a,a<l.length->fm<=dW (mp l a):=fun a ha=>by
    have:=hmin _ (at6.mpr ⟨_,auI (J7 a ha),rfl⟩);omega
   have hex:∃a,a<l.length/\dW (mp l a)=fm:=by
    rw[J5] at hfm;obtain⟨a,ha,e⟩:=at6.mp hfm;exact⟨a,at4.mp ha,e⟩
   refine⟨_,rfl,D,rfl,⟨_,ak.of d1⟩,fun D2 hD2=>?_⟩;refine lF (K:=K) (xs:=aq rk) (fun i H'=>Same H1 H'/\H' D2=some (.lst (aq ((dg M l).take i)))) ⟨Same.laid hD2,by rw[aC];rfl⟩ (fun i H' _ q=>ak.of (q.1 _ _ d1)) ?_ ?_
   ·rintro i x H' hi ⟨s2,d2⟩;obtain⟨hil,rfl⟩:=mj hi;have J8:i<l.length:=by omega
    have ei:rk.getD i 0=dW (mp l i):=by rw[at5,J7 i J8];rfl
    refine⟨rfl,jk ?_⟩;refine⟨_,rfl,_,rfl,rfl,_,rfl,?_⟩;have fin:∀x:Nat,x=(if jM M l i=true then 1 else 0)->∃acc,H' D2=some (.lst acc)/\acc.length<sizeLine/\Same H1 (upd H' D2 (.lst (acc++[nv x])))/\(upd H' D2 (.lst (acc++[nv x]))) D2=some (.lst (aq ((dg M l).take (i+1)))):=fun x ex=>by
     refine⟨_,d2,?_,Same.new s2 hD2,?_⟩
     ·rw[atR,auN,WA.Ah];exact cP (by omega)
     ·rw[aC,auK,WA.Hu J8,ex];simp[aq]
    have eq:=WA.adn BB hex hle J8;refine eY (fun d=>?_) (fun d=>?_)
    ·have e:dW (mp l i)=fm:=by have:=V.int.inj (of_decide_eq_true d);rw[ei] at this;omega
     rw[if_pos e] at eq;exact fin 1 eq.symm
    ·have e:¬dW (mp l i)=fm:=fun q=>d (by rw[ei,q];exact decide_eq_true rfl)
     rw[if_neg e] at eq;exact fin 0 eq.symm
   ·rintro H2 ⟨s2,d2⟩;rw[atR,J6,<-WA.Ah (M:=M),auX] at d2;exact k H2 D2 (Same.free s1 hD2) d2 (Same.trans s1 s2)
def U9(c:Addr):Sp:=fun vs H Q _=>∃(S:Addr->Prop)(L:Lay)(M:Machine)(l:List WM),vs=[.ref L.p]/\Full c S H L M l/\∀H':Hp,Same H H'->Q (.int (pM M l)) H'
theorem Va:bR ["algebra","ideal"] ["algebra"] (aU Ii):=⟨rfl,rfl,rfl,by decide +kernel,rfl,by decide +kernel,by decide +kernel⟩
theorem agI{f fI c cR cM:Addr}{fd gq:FuncData}(F:aY K "zero_of" "zero_of" Ii f fd)(T:TA K c)(X:Txt K mg cR cM)(GI:bG P w K mg base aZ "ideal_of" 1 fI gq ["algebra"] (J4 c)):aJ P w K mg base aZ 2 f fd ["algebra"] (U9 c):=by
 refine F.ok Va (fun vs H Q E h=>?_) (fun cdv A outer s H vs Q E hr h=>?_)
 ·obtain⟨S,L,M,l,rfl,_⟩:=h;rfl
 ·obtain⟨S,L,M,l,rfl,AA,k⟩:=h;refine⟨_,aD (bf (i:=1) Va.nd rfl (atV rfl) (cu GI.ok hr rfl GI.m GI.kp GI.b .nil bA (aj (pv 0) aA)))
   (aD (cZ (cF dR (dU (zj rfl) rfl X.sum aw5 (aj (pv 1) aA)) bW (bY _)) (aH (bz (ju auB ax7 PySem.F.type_list_index Zt (pv 1) (aj bW aA)))) dm)
   (aH (bz (uG uH bW)))),?_⟩
  refine⟨_,rfl,S,L,M,l,rfl,AA,fun H1 p hp hp' s1=>?_⟩;have yu:=hp';rw[kj] at yu;refine⟨_,rfl,p,_,rfl,ak.of yu,rfl,_,rfl,?_⟩;have e1:decide (V.int ((dg M l).map fun(n:Nat)=>(n:Int)).sum=V.int 1)=decide ((dg M l).sum=1):=by
   rw[yo,auz];simp only[decide_eq_true_eq,V.int.injEq];omega
  rw[e1];have k1:=k H1 s1;unfold pM at k1;refine eY (fun d=>?_) (fun d=>?_)
  ·have hs:=of_decide_eq_true d;rw[if_pos hs] at k1;obtain⟨i,hi,_⟩:=WA.Hv _ WA.Hy hs;have hmem:1∈dg M l:=auI hi;have hlt:=avj hmem;refine⟨_,rfl,.inl ⟨rfl,_,ak.of hp'⟩,p,_,_,(dg M l).idxOf 1,nv 1,rfl,rfl,ak.of hp',rfl,?_,?_,rfl,fun m z hm hz=>?_,k1⟩
   ·rw[auy];intro x hx;obtain⟨n,_,rfl⟩:=at6.mp hx;rfl
   ·rw[aui,atY hlt,avJ];rfl
   ·obtain⟨hml,rfl⟩:=mj hz;have hne:¬(dg M l).getD m 0=1:=fun q=>by
     have h1:=List.not_of_lt_findIdx (p:=(·==1)) (xs:=dg M l) hm;rw[at5,atY hml] at q;simp at h1;exact h1 q
    show(((dg M l).getD m 0:Int)==1)=false;rw[beq_eq_false_iff_ne];intro q;exact hne (by omega)
  ·have hs:¬(dg M l).sum=1:=fun q=>d (decide_eq_true q)
   rw[if_neg hs] at k1;exact⟨_,rfl,k1⟩
end
open WA (eZ iV gb jB fW)
structure TL(K:atQ)(c:Addr):Prop where
 cl:Cls K c
 nR:eV K c "reached"
 nF:eV K c "fates"
def lf(r f:Addr):List (Str×V):=[("reached",.ref r),("fates",.ref f)]
def J9(l:List WM)(st:Nat)(rs:List Nat):Prop:=∀s,s∈rs↔∃x,x<l.length/\(mp l x).getD st 0=s
structure qp(c:Addr)(H:Hp)(p:Addr)(M:Machine)(l:List WM)(st ends:Nat)(rs:List Nat):Prop where
 ex:∃dx r f,H p=some (.ins c dx (lf r f))/\H r=some (.lst (aq rs))/\H f=some (.lst (aq (eZ M l ends)))
 qt:J9 l st rs
 few:rs.length<64
theorem agJ(ends q:Nat):(!decide (V.int ((ends:Int)/2^((q:Int)).toNat)=V.int 0))=decide (2^q<=ends):=by
 rw[auh];have e:(ends:Int)/2^q=((ends/2^q:Nat):Int):=by norm_cast
 rw[e,auz];simp only[avF,decide_eq_false_iff_not,decide_eq_true_eq,V.int.injEq];have hp:0<2^q:=Nat.two_pow_pos q;constructor
 ·intro h;apply avh;intro h1;have:=Nat.div_eq_of_lt (show ends<2^q by omega);omega
 ·intro h h1;have:=Nat.div_pos h hp;omega
theorem agK(ends s:Nat):Builtin.bitAnd ((ends:Int)/2^((s:Int)).toNat) 1=((ends.testBit s).toNat:Int):=by
 rw[auh];have e:(ends:Int)/2^s=((ends/2^s:Nat):Int):=by norm_cast
 rw[e,bitAnd_m1,Nat.toNat_testBit]
 norm_cast
def kJ(l:List WM)(st:Nat):List Nat:=(atU l.length).map fun x=>(mp l x).getD st 0
def vV(q ends:Nat):List Nat:=(atU q).map fun s=>(ends.testBit s).toNat
theorem agL(l:List WM)(st:Nat):(kJ l st).length=l.length:=by simp[kJ]
theorem agM{l:List WM}{st x:Nat}(h:x<l.length):(kJ l st)[x]?=some ((mp l x).getD st 0):=by unfold kJ;rw[aui,au5 h];rfl
theorem Vb{q ends s:Nat}(h:s<q):(vV q ends)[s]?=some (ends.testBit s).toNat:=by unfold vV;rw[aui,au5 h];rfl
theorem Ka(q ends:Nat):(vV q ends).length=q:=by simp[vV]
section
variable{P:Program}{w:World}{K:atQ}{mg:Str->Option Value}{base:Heap}
def Vc(K:atQ):TE:=nD (fun xs H Q=>∃p ys,xs=[.ref p]/\((ak K H p ys/\∀l,H l=none->Q (.ref l) (upd H l (.tup ys)))\/(bB K H p ys/\Q (.ref p) H))) (oZ (uO (DX K (gC 4)) (jW 7) zu (lu (qI K) (gC 6) (lu (sV K) (gC 7) (gC 8))) [7]) nu)
def Kc(c cL cR:Addr):Sp:=fun vs H Q E=>∃(S:Addr->Prop)(L:Lay)(M:Machine)(l:List WM)(p dx:Addr)(z:Int)(ends:Nat),vs=[.ref p,.ref L.p,.int z,nv ends]/\H p=some (.ins cL dx [])/\Full c S H L M l/\ends<2^32/\
 (fW M z ends->∀(H':Hp)(rs:List Nat),qp cL H' p M l z.toNat ends rs->dO p H H'->Q .non H')/\(¬fW M z ends->∀H',Same H H'->E (.ref cR) none H')
theorem kO:bR ["self","algebra","start","ends","rows","q","taken_in","row","s"] ["self","algebra","start","ends"] (aU vy):=⟨rfl,rfl,rfl,by decide +kernel,rfl,by decide +kernel,by decide +kernel⟩
theorem agN{f fN c cL cR cM:Addr}{fd pZ:FuncData}(F:aY K "__init__" "Language.__init__" vy f fd)(T:TA K c)(TL:TL K cL)(X:Txt K mg cR cM)(GN:bG P w K mg base aZ "numbered" 1 fN pZ ["marks"] (BK K)):aJ P w K mg base (aX P w) 2 f fd ["self","algebra","start","ends"] (Kc c cL cR):=by
 refine F.eE kO (fun vs H Q E h=>?_) (fun cdv A outer s H vs Q E hr h=>?_)
 ·obtain⟨S,L,M,l,p,dx,z,ends,rfl,_⟩:=h;rfl
 ·obtain⟨S,L,M,l,p,dx,z,ends,rfl,hp,AA,he,ky,kn⟩:=h;refine⟨_,aD (bf (i:=4) kO.nd rfl (atZ rfl) (bh (pv 1) rfl))
   (aD (bf (i:=5) kO.nd rfl (atV rfl) (dU jb rfl X.len auL (aj (dN eF (pv 4) bW (fun _ _=>rfl)) aA)))
   (aD (cZ (PW.pt (uE (cF uI (pv 2) bW (bY _)) (uE (cF wF (pv 2) (pv 5) (bY _)) (DG (cF Ek (iC Ng (pv 3) (pv 5)) bW (bY _)))))) (aH (qP (E:=E) rfl qN rfl X.mR X.eR)) dm)
   (aD (gP (pv 0) (show PE _ _ (nD (Qs P w) (oZ (nD (Gw P w K) (oZ (uO (DX K (gC 4)) (jW 7) zu (lu (sV K) (gC 7) (gC 2)) [7]) nu)) nu)) from dU (abW rfl) rfl X.sorted PyProof.Rows.boot_sorted (aj (pq (Qq rfl) rfl X.set ayO (aj
    (jd (own:=[("row",7)]) rfl kO.nd (gW (pv 4)) (iU (by show iD ["self","algebra","start","ends","rows","q","taken_in","row","s"] (aU vy) _ _=true;decide +kernel)) (fun _ _ _ _ _=>dF (i:=7) kO.nd rfl (atV rfl)) (fun _ _ _ _ _=>jc)
     (fun _ _ _ _ _=>dN (r:=sV K) zb (pv 7) (pv 2) (fun _ _=>rfl))) aA)) aA)) rfl)
   (aD (bf (i:=6) kO.nd rfl (atZ rfl) (jd (own:=[("s",8)]) rfl kO.nd (DY rfl X.range (aj (pv 5) aA)) (iU (by show iD ["self","algebra","start","ends","rows","q","taken_in","row","s"] (aU vy) _ _=true;decide +kernel)) (fun _ _ _ _ _=>dF (i:=8) kO.nd rfl (atV rfl)) (fun _ _ _ _ _=>jc)
     (fun _ _ _ _ _=>iC Ye (iC Ng (pv 3) (pv 8)) bW)))
   (aH (gP (pv 0) (cu GN.ok hr rfl GN.m GN.kp GN.b .nil bA (aj
    (jd (own:=[("s",8)]) rfl kO.nd (DY rfl X.range (aj (pv 5) aA)) (iU (by show iD ["self","algebra","start","ends","rows","q","taken_in","row","s"] (aU vy) _ _=true;decide +kernel)) (fun _ _ _ _ _=>dF (i:=8) kO.nd rfl (atZ rfl)) (fun _ _ _ _ _=>jc)
     (fun _ _ _ _ _=>show PE _ _ (Vc K) from pq zc rfl X.tuple awp (aj (jd (own:=[("row",7)]) rfl kO.nd (gW (pv 4)) (iU (N:=["self","algebra","start","ends","rows","q","taken_in","row","s"]) (sc:={kind:=.function,names:=[(".0",.local),("s",.cell),("tuple",.globalImplicit),("rows",.cell),("taken_in",.cell)],isGenerator:=false,isCoroutine:=false}) (by decide +kernel)) (fun _ _ _ _ _=>dF (i:=7) kO.nd rfl (atV rfl)) (fun _ _ _ _ _=>jc)
      (fun _ _ _ _ _=>dN (r:=qI K) eF (pv 6) (dN (r:=sV K) zb (pv 7) (pv 8) (fun _ _=>rfl)) (fun _ _=>rfl))) aA))) aA)) rfl)))))),?_⟩
  obtain⟨ras,b1,b2,b3⟩:=AA.ras;have BB:=AA.begun;have hn:=AA.most;have hq:=AA.good.2.1;have hq1:=AA.good.1;obtain⟨x0,hx0⟩:∃x,ras[0]?=some x:=⟨_,atY (by rw[b2];exact BB.pos)⟩
  have m0:=(BB.dB BB.pos).len;refine⟨_,rfl,L.p,c,L.dx,L.fs,_,rfl,AA.ins,T.cl,T.nR,AA.lR,?_⟩;refine⟨_,rfl,L.aR,_,_,_,rfl,rfl,ak.of b1,cO (j:=0) rfl (by rw[aui,hx0];rfl),x0,_,rfl,.inr (bB.of (b3 0 x0 hx0).1),?_⟩;rw[atR,m0];refine⟨_,rfl,_,_,rfl,rfl,_,rfl,eY (fun d=>gZ (kn (fun h=>?_) H fun b o e=>e)) (fun d0=>?_)⟩
  ·have:=of_decide_eq_true d;have:=h.1;omega
  refine⟨_,rfl,_,rfl,_,_,rfl,rfl,_,rfl,eY (fun d=>gZ (kn (fun h=>?_) H fun b o e=>e)) (fun d1=>?_)⟩
  ·have:=of_decide_eq_true d;have:=h.2.1;omega
  refine⟨_,rfl,_,rfl,_,_,rfl,rfl,by omega,rfl,_,rfl,?_⟩;rw[agJ];refine eY (fun d=>kn (fun h=>?_) H fun b o e=>e) (fun d2=>?_)
  ·have:=of_decide_eq_true d;have:=h.2.2;omega
  simp only[decide_eq_true_eq] at d0 d1 d2;have pl:fW M z ends:=⟨by omega,by omega,by omega⟩;obtain⟨st,rfl⟩:=avb pl.1;have hst:st<M.q:=by have:=pl.2.1;omega
  have ky:=ky pl;refine⟨_,rfl,L.aR,rfl,⟨_,ak.of b1⟩,fun D hD=>?_⟩;refine lF (K:=K) (xs:=ras.map V.ref) (fun i H'=>Same H H'/\H' D=some (.lst (aq ((kJ l st).take i)))) ⟨Same.laid hD,by rw[aC];rfl⟩ (fun i H' _ q=>ak.of (q.1 _ _ b1)) ?_ ?_
  ·rintro i x H' hi ⟨s1,d1⟩;obtain⟨ax,hax,rfl⟩:=jD hi;have hil:i<l.length:=by rw[<-b2];exact(at9.mp hax).1
   have ox:=s1 _ _ (b3 i ax hax).1;have om:=BB.dB hil;refine⟨rfl,jk ⟨_,rfl,_,rfl,.inr (.inl ⟨ax,_,_,_,rfl,rfl,bB.of ox,cO (j:=st) rfl (kh (by rw[om.len];exact hst)),_,d1,?_,Same.new s1 hD,?_⟩)⟩⟩
   ·rw[atR,auN];exact cP (by omega)
   ·rw[aC,auK,agM hil];simp[aq]
  rintro H1 ⟨s1,o1⟩;rw[atR,b2,<-agL l st,auX,kj] at o1;have agO:∀x,x∈kJ l st->x<M.q:=fun x hx=>by
   obtain⟨y,hy,rfl⟩:=at6.mp hx;exact WA.j7 (BB.dB (at4.mp hy)) hst
  have rk:WA.dW (kJ l st)<=M.q:=aeS M.q agO;refine⟨D,_,rfl,.inl (ak.of o1),by rw[yt];omega,fun u hu=>?_⟩;refine⟨u,_,_,rfl,aC,by rw[yt];omega,fun ns r hmem hlen _ hr0=>?_⟩;have hmem':∀z,z∈ns↔∃x,x∈kJ l st/\z=((x:Nat):Int):=fun z=>by
   rw[hmem z,auZ];simp only[beq_iff_eq,exists_eq_right];rw[J3,at6];exact⟨fun⟨x,h1,h2⟩=>⟨x,h1,h2.symm⟩,fun⟨x,h1,h2⟩=>⟨x,h1,h2.symm⟩⟩
  obtain⟨rs,hrs⟩:∃rs:List Nat,rs=ns.map Int.toNat:=⟨_,rfl⟩
  have ens:ns=rs.map fun(n:Nat)=>(n:Int):=by
   rw[hrs,auS]
   symm
   rw[<-List.map_id ns];rw[auS];apply avv;intro z hz;obtain⟨x,_,rfl⟩:=(hmem' z).mp hz;rfl
  have qt:J9 l st rs:=fun s=>by
   have h1:s∈rs↔((s:Nat):Int)∈ns:=by
    rw[ens,at6];constructor
    ·exact fun h=>⟨s,h,rfl⟩
    ·rintro⟨x,h,e⟩;have:x=s:=by omega
     rw[<-this];exact h
   rw[h1,hmem'];constructor
   ·rintro⟨x,hx,e⟩;obtain⟨y,hy,rfl⟩:=at6.mp hx;exact⟨y,at4.mp hy,by omega⟩
   ·rintro⟨y,hy,e⟩;exact⟨s,at6.mpr ⟨y,at4.mpr hy,e⟩,rfl⟩
  have few:rs.length<64:=by
   rw[hrs,atR,hlen,yt];omega
  have s2:Same H (upd H1 u (pJ P w u (fun k=>(dd ((kJ l st).map fun(n:Nat)=>(n:Int))).any (·==k)) (dd ((kJ l st).map fun(n:Nat)=>(n:Int))).length)):=Same.trans s1 (Same.laid hu);generalize upd H1 u (pJ P w u (fun k=>(dd ((kJ l st).map fun(n:Nat)=>(n:Int))).any (·==k)) (dd ((kJ l st).map fun(n:Nat)=>(n:Int))).length)=H2 at s2 hr0⊢;have o3:(upd H2 r (.lst (ns.map V.int))) r=some (.lst (aq rs)):=by rw[aC,ens,<-kj]
  have s3:Same H (upd H2 r (.lst (ns.map V.int))):=Same.trans s2 (Same.laid hr0);generalize upd H2 r (.lst (ns.map V.int))=H3 at o3 s3⊢;refine⟨_,rfl,p,cL,dx,[],rfl,s3 _ _ hp,TL.cl,TL.nR,(by show 0<1000;decide),?_⟩;have p4:(upd H3 p (.ins cL dx (ao "reached" (.ref r) []))) p=some (.ins cL dx [("reached",.ref r)]):=aC;have rp:r≠p:=bx o3 (s3 _ _ hp) (by intro q;cases q);have o4:(upd H3 p (.ins cL dx (ao "reached" (.ref r) []))) r=some (.lst (aq rs)):=by rw[au rp];exact o3
  have s4:dO p H (upd H3 p (.ins cL dx (ao "reached" (.ref r) []))):=fun b o e n=>by rw[au n];exact s3 _ _ e
  generalize upd H3 p (.ins cL dx (ao "reached" (.ref r) []))=H4 at p4 o4 s4⊢;have Vd:H4 L.aR=some (.lst (ras.map V.ref)):=s4 _ _ b1 (bx b1 hp (by intro q;cases q));have b34:∀(i:Nat)(x:Addr),ras[i]?=some x->H4 x=some (.tup (aq (mp l i))):=fun i x hx=>s4 _ _ (b3 i x hx).1 (bx (b3 i x hx).1 hp (by intro q;cases q))
  refine⟨_,rfl,(M.q:Int),rfl,by omega,by omega,fun D2 hD2=>?_⟩;rw[auh];refine Fx (lo:=0) (n:=M.q) (fun i H'=>Same H4 H'/\H' D2=some (.lst (aq ((vV M.q ends).take i)))) ⟨Same.laid hD2,by rw[aC];rfl⟩ ?_ ?_
  ·rintro i H' hi ⟨s5,d5⟩;rw[aw3];refine⟨rfl,jk ⟨_,rfl,_,rfl,_,_,rfl,rfl,by omega,_,_,rfl,rfl,_,d5,?_,Same.new s5 hD2,?_⟩⟩
   ·rw[atR,auN,Ka];exact cP (by omega)
   ·rw[aC];show some (HO.lst (aq ((vV M.q ends).take i)++[V.int (Builtin.bitAnd ((ends:Int)/2^((i:Int)).toNat) 1)]))=_;rw[agK,auK,Vb hi];simp[aq]
  rintro H5 ⟨s5,o5⟩;rw[axm (by rw[Ka];exact atX _)] at o5;refine⟨_,rfl,(M.q:Int),rfl,by omega,by omega,fun D3 xV=>?_⟩;rw[auh];refine Fx (lo:=0) (n:=M.q) (te:=Vc K) (fun i H'=>Same H5 H'/\∃as:List Addr,H' D3=some (.lst (as.map V.ref))/\as.length=i/\∀(e:Nat)(x:Addr),as[e]?=some x->H' x=some (.tup (aq (iV l ends e)))) ⟨Same.laid xV,[],by rw[aC];rfl,rfl,fun e x hx=>by simp at hx⟩ ?_ ?_
  ·rintro i H' hi ⟨s6,as,o6,hal,has⟩;rw[aw3];have Kd:=Same.trans s5 s6;refine⟨rfl,jk ⟨_,rfl,L.aR,rfl,⟨_,ak.of (Kd _ _ Vd)⟩,fun D4 Bw=>?_⟩⟩;have fkl:(iV l ends i).length=l.length:=by simp[iV]
   refine lF (K:=K) (xs:=ras.map V.ref) (fun j H2=>Same H' H2/\H2 D4=some (.lst (aq ((iV l ends i).take j)))) ⟨Same.laid Bw,by rw[aC];rfl⟩ (fun j H2 _ q=>ak.of (q.1 _ _ (Kd _ _ Vd))) ?_ ?_
   ·rintro j x H2 hj ⟨s7,d7⟩;obtain⟨ax,hax,rfl⟩:=jD hj;have hjl:j<l.length:=by rw[<-b2];exact(at9.mp hax).1
    have vW:=Same.trans Kd s7;have ox:=vW _ _ (b34 j ax hax);have om:=BB.dB hjl;have hlt:=WA.j7 om hi;refine⟨rfl,jk ⟨_,rfl,_,rfl,_,rfl,.inr (.inl ⟨ax,_,_,_,rfl,rfl,bB.of ox,cO (j:=i) rfl (kh (by rw[om.len];exact hi)),?_⟩)⟩⟩;refine⟨D2,_,_,_,rfl,rfl,ak.of (s7 _ _ (s6 _ _ o5)),cO (j:=(mp l j).getD i 0) rfl (kh (by rw[Ka];exact hlt)),_,d7,?_,Same.new s7 Bw,?_⟩
    ·rw[atR,auN];exact cP (by omega)
    ·have ek:(iV l ends i)[j]?=some (ends.testBit ((mp l j).getD i 0)).toNat:=by unfold iV;rw[aui,au5 hjl];rfl
     rw[aC,auK,ek,at5,Vb hlt];simp[aq]
   ·rintro H2 ⟨s7,d7⟩;rw[atR,b2,<-fkl,auX] at d7;refine⟨D4,_,rfl,.inl ⟨ak.of d7,fun t ht=>?_⟩⟩;have s8:Same H' (upd H2 t (.tup (aq (iV l ends i)))):=Same.trans s7 (Same.laid ht);refine⟨_,s8 _ _ o6,by rw[atR];exact cP (by omega),fun b o e=>?_,as++[t],by rw[aC,auO];rfl,by rw[aud,hal];rfl,fun e x hx=>?_⟩
    ·rw[au (aV e xV)];exact s8 _ _ (s6 _ _ e)
    ·by_cases q:e<as.length
     ·rw[auP q] at hx;have ox:=has e x hx;rw[au (bx ox o6 (by intro q;cases q))];exact s8 _ _ ox
     ·have:=(at9.mp hx).1;have e1:e=as.length:=by simp at this;omega
      subst e1;simp at hx;subst hx;have ot:(upd H2 t (.tup (aq (iV l ends i)))) t=some (.tup (aq (iV l ends i))):=aC;rw[hal,au (bx ot (s8 _ _ o6) (by intro q;cases q))];exact ot
  rintro H6 ⟨s6,as,o6,hal,has⟩;have tl:((atU M.q).map fun s=>iV l ends s).length=M.q:=by simp
  refine⟨D3,as,(atU M.q).map (fun s=>iV l ends s),rfl,ak.of o6,⟨by rw[hal,tl],fun i x t hx ht=>?_⟩,by rw[tl];omega,fun H7 pf hpf Ve s7=>?_⟩
  ·have hi:i<M.q:=by rw[<-hal];exact(at9.mp hx).1
   rw[aui,au5 hi] at ht;rw[has i x hx,<-aub ht]
  have vW:=Same.trans (Same.trans s5 s6) s7;refine⟨_,rfl,p,cL,dx,_,rfl,vW _ _ p4,TL.cl,TL.nF,(by show 1<1000;decide),?_⟩;refine ky _ rs ⟨⟨dx,r,pf,aC,?_,?_⟩,qt,few⟩ fun b o e n=>by rw[au n];exact vW _ _ (s4 _ _ e n)
  ·rw[au rp];exact vW _ _ o4
  ·rw[au (bx Ve (vW _ _ p4) (by intro q;cases q))];exact Ve
end
open WA (d9)
theorem agR(M:Machine)(l:List WM)(ends:Nat):(eZ M l ends).length=M.q:=by
 unfold eZ;rw[(WA.ig _ _ rfl).len];simp
theorem qp.same{c:Addr}{H H':Hp}{p:Addr}{M:Machine}{l:List WM}{st ends:Nat}{rs:List Nat}(h:qp c H p M l st ends rs)(s:fj H H'):qp c H' p M l st ends rs:=by
 obtain⟨dx,r,f,h1,h2,h3⟩:=h.ex;exact⟨⟨dx,r,f,s _ _ h1 (T5 _ _ _),s _ _ h2 (iW _),s _ _ h3 (iW _)⟩,h.qt,h.few⟩
theorem qp.lt{c:Addr}{H:Hp}{p:Addr}{M:Machine}{l:List WM}{st ends:Nat}{rs:List Nat}(h:qp c H p M l st ends rs)(B:aQ M l)(hst:st<M.q):∀s,s∈rs->s<M.q:=fun s hs=>by
 obtain⟨x,hx,rfl⟩:=(h.qt s).mp hs;exact WA.j7 (B.dB hx) hst
section
variable{P:Program}{w:World}{K:atQ}{mg:Str->Option Value}{base:Heap}
def Ke(K:atQ)(cL:Addr):Sp:=fun vs H Q _=>∃(p a:Addr)(M:Machine)(l:List WM)(st ends:Nat)(rs:List Nat)(row:List Nat),vs=[.ref p,.ref a]/\qp cL H p M l st ends rs/\bB K H a (aq row)/\(∀s,s∈rs->s<row.length)/\(∀x,x∈row->x<M.q)/\
 ∀(H':Hp)(t:Addr),H t=none->H' t=some (.tup (aq (gb (eZ M l ends) rs row)))->Same H H'->Q (.ref t) H'
theorem Kf:bR ["self","row","s"] ["self","row"] (aU Bj):=⟨rfl,rfl,rfl,by decide +kernel,rfl,by decide +kernel,by decide +kernel⟩
theorem agS{f cL cR cM:Addr}{fd:FuncData}(F:aY K "mark" "Language.mark" Bj f fd)(TL:TL K cL)(X:Txt K mg cR cM):aJ P w K mg base aZ 1 f fd ["self","row"] (Ke K cL):=by
 refine F.ok Kf (fun vs H Q E h=>?_) (fun cdv A outer s H vs Q E hr h=>?_)
 ·obtain⟨p,a,M,l,st,ends,rs,row,rfl,_⟩:=h;rfl
 ·obtain⟨p,a,M,l,st,ends,rs,row,rfl,hL,ha,hrs,hrow,k⟩:=h;obtain⟨dx,r,fa,h1,h2,h3⟩:=hL.ex;refine⟨_,aH (bz (pq zc rfl X.tuple awp (aj (jd (own:=[("s",2)]) rfl Kf.nd (gW (bh (pv 0) rfl)) (iU (by show iD ["self","row","s"] (aU Bj) _ _=true;decide +kernel))
   (fun _ _ _ _ _=>dF (i:=2) Kf.nd rfl (atV rfl)) (fun _ _ _ _ _=>jc) (fun _ _ _ _ _=>dN (r:=qI K) eF (show PE _ _ (En K (gC 0) ("fates":Str)) from bh (pv 0) rfl) (dN (r:=sV K) zb (pv 1) (pv 2) (fun _ _=>rfl)) (fun _ _=>rfl))) aA))),?_⟩
  refine⟨_,rfl,p,cL,dx,_,_,rfl,h1,TL.cl,TL.nR,rfl,r,rfl,⟨_,ak.of h2⟩,fun D hD=>?_⟩;have few:=hL.few;have ml:(gb (eZ M l ends) rs row).length=rs.length:=by simp[gb]
  refine lF (K:=K) (xs:=aq rs) (fun i H'=>Same H H'/\H' D=some (.lst (aq ((gb (eZ M l ends) rs row).take i)))) ⟨Same.laid hD,by rw[aC];rfl⟩ (fun i H' _ q=>ak.of (q.1 _ _ h2)) ?_ ?_
  ·rintro i x H' hi ⟨s1,d1⟩;obtain⟨hil,rfl⟩:=mj hi;have hs:=hrs _ (WA.mem_getD (d:=0) hil);have hx:=hrow _ (WA.mem_getD (d:=0) hs);refine⟨rfl,jk ⟨_,rfl,p,cL,dx,_,_,rfl,s1 _ _ h1,TL.cl,TL.nF,rfl,_,rfl,_,rfl,.inr (.inl ⟨a,_,_,_,rfl,rfl,Same.IW s1 ha,cO (j:=rs.getD i 0) rfl (kh hs),?_⟩)⟩⟩;refine⟨fa,_,_,_,rfl,rfl,ak.of (s1 _ _ h3),cO (j:=row.getD (rs.getD i 0) 0) rfl (kh (by rw[agR];exact hx)),_,d1,?_,Same.new s1 hD,?_⟩
   ·rw[atR,auN];exact cP (by omega)
   ·have em:(gb (eZ M l ends) rs row)[i]?=some ((eZ M l ends).getD (row.getD (rs.getD i 0) 0) 0):=by unfold gb;rw[aui,WA.nW (d:=0) hil];rfl
    rw[aC,auK,em];simp[aq]
  ·rintro H1 ⟨s1,d1⟩;rw[atR,<-ml,auX] at d1;exact⟨D,_,rfl,.inl ⟨ak.of d1,fun t ht=>k _ t (Same.free s1 ht) aC (Same.trans s1 (Same.laid ht))⟩⟩
def Vf(c cR:Addr):Sp:=fun vs H Q E=>∃(S:Addr->Prop)(L:Lay)(M:Machine)(l:List WM)(z:Int)(ends:Nat),vs=[.ref L.p,.int z,nv ends]/\Full c S H L M l/\ends<2^32/\
 (fW M z ends->∀(H':Hp)(q:Addr),H q=none->H' q=some (.lst (aq (numbered (WA.az M l) (d9 M l z.toNat ends)).1))->Same H H'->Q (.ref q) H')/\(¬fW M z ends->∀H',Same H H'->E (.ref cR) none H')
theorem Cq:bR ["algebra","start","ends","language","row"] ["algebra","start","ends"] (aU xO):=⟨rfl,rfl,rfl,by decide +kernel,rfl,by decide +kernel,by decide +kernel⟩
theorem agT{f fI fM fN c cL cR cM:Addr}{fd gq pX pZ:FuncData}(F:aY K "alike_classes" "alike_classes" xO f fd)(T:TA K c)(TL:TL K cL)(X:Txt K mg cR cM)(mL:mg "Language"=some (.ref cL))(MK:Mk K cL fI)
  (GI:aJ P w K mg base (aX P w) 2 fI gq ["self","algebra","start","ends"] (Kc c cL cR)) (bI:Binds K gq ["self","algebra","start","ends"] [])
  (GM:dC P w K mg base aZ cL "mark" 1 fM pX ["self","row"] (Ke K cL)) (GN:bG P w K mg base aZ "numbered" 1 fN pZ ["marks"] (BK K)):aJ P w K mg base (aX P w) 4 f fd ["algebra","start","ends"] (Vf c cR):=by
 refine F.eE Cq (fun vs H Q E h=>?_) (fun cdv A outer s H vs Q E hr h=>?_)
 ·obtain⟨S,L,M,l,z,ends,rfl,_⟩:=h;rfl
 ·obtain⟨S,L,M,l,z,ends,rfl,AA,he,ky,kn⟩:=h;have hr1:bQ 1 (A.deeper (envOfC "alike_classes" (aU xO) s.heap.objs.size f cdv)):=hr.mono (by decide);refine⟨_,aD (bf (i:=3) Cq.nd rfl (atZ rfl) (wG MK GI hr rfl mL bI .nil cG (aj (pv 0) (aj (pv 1) (aj (pv 2) aA)))))
   (aH (bz (cu GN.ok hr1 rfl GN.m GN.kp GN.b .nil bA (aj (jd (own:=[("row",4)]) rfl Cq.nd (gW (bh (pv 0) rfl)) (iU (by show iD ["algebra","start","ends","language","row"] (aU xO) _ _=true;decide +kernel))
    (fun _ _ _ _ _=>dF (i:=4) Cq.nd rfl (atV rfl)) (fun _ _ _ _ _=>jc) (fun _ _ _ _ _=>dZ (pv 3) TL.cl GM.m GM.ok hr1 GM.b .nil bA (aj (pv 4) aA))) aA)))),?_⟩
  have BB:=AA.begun;have hn:=AA.most;obtain⟨ras,b1,b2,b3⟩:=AA.ras;refine⟨_,rfl,_,rfl,_,rfl,fun x dx nx ndx ne=>?_⟩;have s0:Same H (upd (upd H dx (.own x)) x (.ins cL dx [])):=fun b o e=>by rw[au (aV e nx),au (aV e ndx)];exact e
  refine⟨S,L,M,l,x,dx,z,ends,rfl,aC,AA.same s0,he,fun pl H1 rs hL sd=>⟨rfl,?_⟩,fun Kg H1 s1=>kn Kg H1 (Same.trans s0 s1)⟩;have s1:Same H H1:=fun b o e=>sd _ _ (s0 _ _ e) (aV e nx)
  have ky:=ky pl;obtain⟨st,rfl⟩:=avb pl.1;have hst:st<M.q:=by have:=pl.2.1;omega
  have hL:qp cL H1 x M l st ends rs:=hL;have Cr:=hL.lt BB hst;have A1:=AA.same s1;refine⟨_,rfl,L.p,c,L.dx,L.fs,_,rfl,A1.ins,T.cl,T.nR,A1.lR,L.aR,rfl,⟨_,ak.of (s1 _ _ b1)⟩,fun D hD=>?_⟩;refine lF (K:=K) (xs:=ras.map V.ref) (fun i H'=>Same H1 H'/\∃as:List Addr,H' D=some (.lst (as.map V.ref))/\as.length=i/\∀(e:Nat)(x:Addr),as[e]?=some x->H' x=some (.tup (aq (gb (eZ M l ends) rs (mp l e))))) ⟨Same.laid hD,[],by rw[aC];rfl,rfl,fun e x hx=>by simp at hx⟩ (fun i H' _ q=>ak.of (q.1 _ _ (s1 _ _ b1))) ?_ ?_
  ·rintro i y H' hi ⟨s2,as,o2,hal,has⟩;obtain⟨ax,hax,rfl⟩:=jD hi;have hil:i<l.length:=by rw[<-b2];exact(at9.mp hax).1
   have ox:=s2 _ _ (s1 _ _ (b3 i ax hax).1);have om:=BB.dB hil;have hL2:=hL.same s2.n;obtain⟨lw,r,fa,h1,h2,h3⟩:=hL2.ex;refine⟨rfl,jk ⟨_,rfl,x,lw,_,rfl,h1,rfl,_,rfl,x,ax,M,l,st,ends,rs,mp l i,rfl,hL2,bB.of ox,fun s hs=>by rw[om.len];exact Cr s hs,fun y hy=>om.lt y hy,fun H3 t ht ot s3=>?_⟩⟩;refine⟨_,s3 _ _ o2,by rw[atR];exact cP (by omega),fun b o e=>?_,as++[t],by rw[aC,auO];rfl,by rw[aud,hal];rfl,fun e y hy=>?_⟩
   ·rw[au (aV e hD)];exact s3 _ _ (s2 _ _ e)
   ·by_cases q:e<as.length
    ·rw[auP q] at hy;have oy:=has e y hy;rw[au (bx oy o2 (by intro q;cases q))];exact s3 _ _ oy
    ·have:=(at9.mp hy).1;have e1:e=as.length:=by simp at this;omega
     subst e1;simp at hy;subst hy;rw[hal,au (bx ot (s3 _ _ o2) (by intro q;cases q))];exact ot
  ·rintro H2 ⟨s2,as,o2,hal,has⟩;rw[atR,b2] at hal;have ml:(jB M l ends rs).length=l.length:=by simp[jB]
   refine⟨D,as,jB M l ends rs,rfl,ak.of o2,⟨by rw[hal,ml],fun i y t hy ht=>?_⟩,by omega,fun H3 q hq oq s3=>?_⟩
   ·have hi:i<l.length:=by rw[<-hal];exact(at9.mp hy).1
    unfold jB at ht;rw[aui,au5 hi] at ht;rw[has i y hy,<-aub ht]
   ·have:=WA.adt BB (ends:=ends) hst hL.qt;refine ky H3 q (Same.free (Same.trans s1 s2) hq) ?_ (Same.trans s1 (Same.trans s2 s3));rw[oq,auh,this]
def Vg:Sp:=fun vs H Q _=>∃(a:Addr)(q:Nat)(m:List Nat),vs=[.ref a]/\H a=some (.tup (aq m))/\WA.eO q m/\q<=12/\∀(H':Hp)(p:Addr),H' p=some (.tup (aq (cY m)))->Same H H'->Q (.ref p) H'
theorem Cu:bR ["row","exponent"] ["row"] (aU Ij):=⟨rfl,rfl,rfl,by decide +kernel,rfl,by decide +kernel,by decide +kernel⟩
theorem agU(q:Nat):iz q<=4:=by
 unfold iz;by_cases h1:q<=1
 ·rw[if_pos h1];omega
 rw[if_neg h1];by_cases h2:q<=2
 ·rw[if_pos h2];omega
 rw[if_neg h2];by_cases h3:q<=4
 ·rw[if_pos h3];omega
 rw[if_neg h3];by_cases h4:q<=8
 ·rw[if_pos h4];omega
 rw[if_neg h4];exact atX _
theorem agV{q j:Nat}(hq:q<=12)(hj:j<=iz q):2^j<q↔j<iz q:=by
 have h:∀q,q<13->∀j,j<5->j<=iz q->(2^j<q↔j<iz q):=by decide
 exact h q (by omega) j (by have:=agU q;omega) hj
theorem yw{q:Nat}{m:List Nat}(h:WA.eO q m):∀j,WA.eO q (sq m j)
 |0=>h
 |j+1=>WA.zW (yw h j) (yw h j)
theorem agW{f fC cR cM:Addr}{fd dX:FuncData}(F:aY K "high_power" "high_power" Ij f fd)(X:Txt K mg cR cM)(GC:bG P w K mg base aZ "compose" 1 fC dX ["first","second"] (vz K)):aJ P w K mg base aZ 2 f fd ["row"] Vg:=by
 refine F.ok Cu (fun vs H Q E h=>?_) (fun cdv A outer s H vs Q E hr h=>?_)
 ·obtain⟨a,q,m,rfl,_⟩:=h;rfl
 ·obtain⟨a,q,m,rfl,ha,hm,hq,k⟩:=h;refine⟨_,aD (bf (i:=1) Cu.nd rfl (atV rfl) bW)
   (aD (qF PassesOwn.never (cF uI (pv 1) (dU jb rfl X.len auL (aj (pv 0) aA)) (bY _))
    (aD (bf (i:=0) Cu.nd rfl (atV rfl) (cu GC.ok hr rfl GC.m GC.kp GC.b .nil bA (aj (pv 0) (aj (pv 0) aA))))
    (aH (MT (i:=1) Cu.nd rfl (atV rfl) bW Yg))))
   (aH (bz (pv 0)))),?_⟩
  refine⟨fun n σ H'=>∃(j:Nat)(p:Addr),n=iz q-j/\j<=iz q/\σ=[some (.ref p),some (nv (2^j))]/\H' p=some (.tup (aq (sq m j)))/\Same H H',⟨_,0,a,rfl,aul _,rfl,ha,fun b o e=>e⟩,?_⟩;rintro n σ H' ⟨j,p,rfl,hj,rfl,op,s1⟩;have oj:=yw hm j;have hjq:=agV hq hj;refine⟨_,rfl,_,rfl,p,_,rfl,.inr (bB.of op),_,_,rfl,rfl,_,rfl,?_⟩;rw[atR,oj.len];refine eY (fun d=>?_) (fun d=>?_)
  ·have hlt:j<iz q:=hjq.mp (by have:=of_decide_eq_true d;omega);refine⟨fun σ' cH=>∃p,σ'=[some (.ref p),some (nv (2^(j+1)))]/\cH p=some (.tup (aq (sq m (j+1))))/\Same H cH,fun σ' cH ⟨p,q1,q2,q3⟩=>⟨iz q- (j+1),by omega,j+1,p,rfl,hlt,q1,q2,q3⟩,?_⟩;refine⟨_,rfl,_,rfl,p,p,_,_,rfl,bB.of op,.inr (bB.of op),fun x hx=>by rw[oj.len];exact oj.lt x hx,by rw[oj.len];omega,fun H2 t ht ot s2=>?_⟩;refine⟨_,rfl,_,_,rfl,rfl,.inr ⟨by omega,by omega⟩,t,?_,ot,Same.trans s1 s2⟩;have e:((2^j:Nat):Int)*2=((2^(j+1):Nat):Int):=by rw[Nat.pow_succ];omega
   show[some (V.ref t),some (V.int (((2^j:Nat):Int)*2))]=_;rw[e]
  ·have hnl:¬j<iz q:=fun z=>d (decide_eq_true (by have:=hjq.mpr z;omega))
   have ej:j=iz q:=by omega
   refine⟨_,rfl,k H' p ?_ s1⟩;unfold cY;rw[hm.len,<-ej];exact op
end
open WA (lY)
theorem agX{q:Nat}(hq:q<=12):q<=2^iz q:=by
 have h:∀q,q<13->q<=2^iz q:=by decide
 exact h q (by omega)
theorem Vh{M:Machine}{l:List WM}(B:aQ M l){a:Nat}(ha:a<l.length):cY (mp l a)=mp l (pw (pr l) a (2^iz M.q))/\then_ (cY (mp l a)) (mp l a)=mp l (pw (pr l) a (2^iz M.q+1)):=by
 have e:cY (mp l a)=mp l (pw (pr l) a (2^iz M.q)):=by
  unfold cY;rw[(B.dB ha).len,WA.RC B ha]
 refine⟨e,?_⟩;rw[e];exact(WA.fV B (WA.cI (WA.bH B) ha _) ha).2.symm
theorem agY{M:Machine}{l:List WM}(B:aQ M l){st ends:Nat}{rs:List Nat}{ps:List (List Nat×List Nat)}(hst:st<M.q)(qt:J9 l st rs)(hT:JH l ps):
  stillB (WA.az M l) (d9 M l st ends)=true↔∀h hh,(h,hh)∈ps->gb (eZ M l ends) rs h=gb (eZ M l ends) rs hh:=by
 have hq:=B.good.2.1;rw[WA.adD B (agX hq) (Nat.two_pow_pos _)];have Cv:=fun a (ha:a<l.length) (i:Nat)=>WA.cI (WA.bH B) ha i
 constructor
 ·intro h x y hxy;obtain⟨e,he,e1,e2,_⟩:=(hT x y).mp hxy;obtain⟨h1,h2⟩:=Vh B he;rw[e2,e1,h2,h1];exact(WA.HB B hst qt (Cv e he _) (Cv e he _)).mpr (h e he)
 ·intro h a ha;obtain⟨h1,h2⟩:=Vh B ha;rw[<-WA.HB B hst qt (Cv a ha _) (Cv a ha _),<-h1,<-h2];by_cases q:cY (mp l a)=then_ (cY (mp l a)) (mp l a)
  ·rw[<-q]
  ·exact h _ _ ((hT _ _).mpr ⟨a,ha,rfl,rfl,q⟩)
def agZ(l:List WM)(n:Nat)(ps:List (List Nat×List Nat)):Prop:=∀h hh,(h,hh)∈ps↔∃e,e<n/\h=cY (mp l e)/\hh=then_ h (mp l e)/\h≠hh
def nk(h:List Nat×List Nat):NK:=[kM h.1,kM h.2]
theorem ag0{a b:List Nat×List Nat}(h:nk a=nk b):a=b:=by
 unfold nk at h;have h1:=avl h;have h2:=(avl h1.2).1;exact Prod.ext (xQ h1.1) (xQ h2)
theorem ag1{xs:List (NK×Addr)}{ps:List (List Nat×List Nat)}(e:xs.map (·.1)=ps.map nk)(h:List Nat×List Nat):(xs.any fun x=>decide (x.1=nk h))=decide (h∈ps):=by
 rw[auz,auZ];simp only[decide_eq_true_eq];constructor
 ·rintro⟨x,hx,q⟩;have:x.1∈ps.map nk:=by rw[<-e];exact at6.mpr ⟨x,hx,rfl⟩
  obtain⟨y,hy,z⟩:=at6.mp this;rw[ag0 (z.trans q)] at hy;exact hy
 ·intro q;have:nk h∈xs.map (·.1):=by rw[e];exact at6.mpr ⟨h,q,rfl⟩
  obtain⟨x,hx,z⟩:=at6.mp this;exact⟨x,hx,z⟩
theorem Cw{H H':Hp}{xs:List (NK×Addr)}(h:uX H xs)(k:∀b ys,H b=some (.tup ys)->H' b=some (.tup ys)):uX H' xs:=fun x hx=>by
 obtain⟨k1,k2,e,⟨u,v,h1,h2,h3⟩⟩:=h x hx;exact⟨k1,k2,e,⟨u,v,k _ _ h1,k _ _ h2,k _ _ h3⟩⟩
section
variable{P:Program}{w:World}{K:atQ}{mg:Str->Option Value}{base:Heap}
theorem yx:bR ["algebra","turns","row","high","higher"] ["algebra"] (aU xP):=⟨rfl,rfl,rfl,by decide +kernel,rfl,by decide +kernel,by decide +kernel⟩
def ag2(P:Program)(w:World):List V->Hp->VK->Prop:=fun vs H Q=>∃(a:Addr)(xs:List (NK×Addr)),vs=[.ref a]/\H a=some (lJ P w a xs)/\xs.length<=sizeLine/\∀l,H l=none->Q (.ref l) (upd H l (.lst (xs.map fun x=>V.ref x.2)))
theorem ag3{f fH fC c cR cM:Addr}{fd ql dX:FuncData}(F:aY K "find_turns" "find_turns" xP f fd)(T:TA K c)(X:Txt K mg cR cM)(GH:bG P w K mg base aZ "high_power" 2 fH ql ["row"] Vg)
  (GC:bG P w K mg base aZ "compose" 1 fC dX ["first","second"] (vz K)):aJ P w K mg base (aX P w) 3 f fd ["algebra"] (rK c "turns"):=by
 refine F.eE yx (fun vs H Q E h=>?_) (fun cdv A outer s H vs Q E hr h=>?_)
 ·obtain⟨L,M,l,rfl,_⟩:=h;rfl
 ·obtain⟨L,M,l,rfl,AA,kq⟩:=h;have hr1:bQ 1 _:=hr.mono (by decide);have hu:(fG (aX P w) P w K mg base ["algebra","turns","row","high","higher"] "find_turns" (aU xP) f cdv A outer s H E).A.units+64<cLine:=by have:=hr.un;show(A.deeper _).units+64<cLine;omega
  have hu2:(fG (aX P w) P w K mg base ["algebra","turns","row","high","higher"] "find_turns" (aU xP) f cdv A outer s H E).A.units+2<cLine:=by omega
  refine⟨_,aD (bf (i:=1) yx.nd rfl (atV rfl) (show PE _ _ (Qt P w) from ab2))
   (aD (ni qO rfl (gW (bh (pv 0) rfl)) (dF (i:=2) yx.nd rfl (atV rfl))
    (aD (bf (i:=3) yx.nd rfl (atV rfl) (cu GH.ok hr rfl GH.m GH.kp GH.b .nil bA (aj (pv 2) aA)))
    (aD (bf (i:=4) yx.nd rfl (atV rfl) (cu GC.ok hr1 rfl GC.m GC.kp GC.b .nil bA (aj (pv 3) (aj (pv 2) aA))))
    (aH (cZ (cF (Fi hu) (pv 3) (pv 4) (bY _)) (aH (wA Dz (wz (pv 1) (nA (aj (pv 3) (aj (pv 4) aA))) (show wu _ (Qu P w) from ab4 hu2)))) dm)))))
   (aH (bz (show PE _ _ (nD (ag2 P w) (oZ (gC 1) nu)) from pq (ab7 rfl) rfl X.list axw (aj (pv 1) aA))))),?_⟩
  have BB:=AA.aM.begun;have hn:=AA.aM.most;have hq:=AA.aM.good.2.1;obtain⟨ras,b1,b2,b3⟩:=AA.aM.ras;refine fun B hB=>?_
  have s0:Same H (upd H B (lJ P w B [])):=Same.laid hB;have A0:=AA.same s0;refine⟨_,rfl,L.p,c,L.dx,L.fs,_,rfl,A0.aM.ins,T.cl,T.nR,A0.aM.lR,L.aR,rfl,⟨_,ak.of (s0 _ _ b1)⟩,sJ (K:=K) (a:=L.aR) (xs:=ras.map V.ref) (fun i σ H'=>∃(xs:List (NK×Addr))(ps:List (List Nat×List Nat))(v2 v3 v4:Option V),σ=[some (.ref L.p),some (.ref B),v2,v3,v4]/\Same H H'/\H' B=some (lJ P w B xs)/\uX H' xs/\xs.length<=i/\xs.map (·.1)=ps.map nk/\agZ l i ps)
   ⟨[],[],none,none,none,rfl,s0,aC,fun x hx=>by simp at hx,atX _,rfl,fun h hh=>by simp⟩ (fun i σ H' _ ⟨_,_,_,_,_,_,q,_⟩=>ak.of (q _ _ b1)) ?_ ?_⟩
  ·rintro i x σ H' hi ⟨xs,ps,v2,v3,v4,rfl,s1,o1,hk,hxl,hxp,hps⟩;obtain⟨ax,hax,rfl⟩:=jD hi;have hil:i<l.length:=by rw[<-b2];exact(at9.mp hax).1
   have ox:=s1 _ _ (b3 i ax hax).1;have om:=BB.dB hil;refine⟨_,rfl,ax,M.q,mp l i,rfl,ox,om,hq,fun H2 p2 op2 s2=>?_⟩;have oh:WA.eO M.q (cY (mp l i)):=yw om _;refine⟨_,rfl,_,rfl,p2,ax,_,_,rfl,bB.of op2,.inr (bB.of (s2 _ _ ox)),fun z hz=>by rw[om.len];exact oh.lt z hz,by rw[oh.len];omega,fun H3 p3 hp3 Vi s3=>?_⟩;have Vj:=s3 _ _ op2;refine⟨_,rfl,_,rfl,_,_,rN (bB.of Vj),rN (bB.of Vi),rO _,rO _,_,rfl,?_⟩;rw[Cj];have s4:=Same.trans s1 (Same.trans s2 s3);have o3:=s3 _ _ (s2 _ _ o1);have hk3:uX H3 xs:=Cw hk fun b ys e=>s3 _ _ (s2 _ _ e)
   by_cases eq:cY (mp l i)=then_ (cY (mp l i)) (mp l i)
   ·rw[decide_eq_true eq];refine jH ⟨xs,ps,_,_,_,rfl,s4,o3,hk3,by omega,hxp,fun h hh=>?_⟩;rw[hps h hh];constructor
    ·rintro⟨e,he,q⟩;exact⟨e,by omega,q⟩
    ·rintro⟨e,he,q1,q2,q3⟩;refine⟨e,?_,q1,q2,q3⟩;rcases axN (axO he) with z|z
     ·exact z
     ·exfalso;rw[z] at q1 q2;exact q3 (by rw[q2,q1];exact eq)
   ·rw[decide_eq_false eq];refine gZ ?_;refine⟨_,rfl,_,rfl,_,rfl,by show 2<=sizeLine;decide,fun t ht=>?_⟩;have s5:Same H3 (upd H3 t (.tup [.ref p2,.ref p3])):=Same.laid ht;have ot:(upd H3 t (.tup [.ref p2,.ref p3])) t=some (.tup [.ref p2,.ref p3]):=aC;have Cy:uX (upd H3 t (.tup [.ref p2,.ref p3])) xs:=Cw hk3 fun b ys e=>s5 _ _ e
    have o5:=s5 _ _ o3;have Kh:wY (upd H3 t (.tup [.ref p2,.ref p3])) t (kM (cY (mp l i))) (kM (then_ (cY (mp l i)) (mp l i))):=⟨p2,p3,ot,by rw[rA];exact s5 _ _ Vj,by rw[rA];exact s5 _ _ Vi⟩;have Vk:=Same.trans s4 s5;generalize upd H3 t (.tup [.ref p2,.ref p3])=H5 at s5 ot Cy o5 Kh Vk⊢;refine⟨B,t,xs,_,_,rfl,rfl,rfl,o5,Cy,Kh,cP (by omega),?_⟩;have tk:∀b ys,H5 b=some (.tup ys)->(upd H5 B (lJ P w B (pK xs [kM (cY (mp l i)),kM (then_ (cY (mp l i)) (mp l i))] t))) b=some (.tup ys):=fun b ys e=>by
     rw[au (bx e o5 (by intro q;cases q))];exact e
    have hany:=ag1 hxp (cY (mp l i),then_ (cY (mp l i)) (mp l i));have hany':(xs.any fun x=>decide (x.1=[kM (cY (mp l i)),kM (then_ (cY (mp l i)) (mp l i))]))=decide ((cY (mp l i),then_ (cY (mp l i)) (mp l i))∈ps):=hany;have sF:Same H (upd H5 B (lJ P w B (pK xs [kM (cY (mp l i)),kM (then_ (cY (mp l i)) (mp l i))] t))):=fun b o e=>by
     rw[au (aV e hB)];exact Vk _ _ e
    by_cases hin:(cY (mp l i),then_ (cY (mp l i)) (mp l i))∈ps
    ·have ep:pK xs [kM (cY (mp l i)),kM (then_ (cY (mp l i)) (mp l i))] t=xs:=by unfold pK;rw[hany',if_pos (decide_eq_true hin)]
     rw[ep] at tk sF⊢;refine⟨xs,ps,_,_,_,rfl,sF,aC,Cw Cy tk,by omega,hxp,fun h hh=>?_⟩;rw[hps h hh];constructor
     ·rintro⟨e,he,q⟩;exact⟨e,by omega,q⟩
     ·rintro⟨e,he,q1,q2,q3⟩;rcases axN (axO he) with z|z
      ·exact⟨e,z,q1,q2,q3⟩
      ·rw[z] at q1 q2;rw[<-hps h hh,q2,q1];exact hin
    ·have ep:pK xs [kM (cY (mp l i)),kM (then_ (cY (mp l i)) (mp l i))] t=xs++[([kM (cY (mp l i)),kM (then_ (cY (mp l i)) (mp l i))],t)]:=by unfold pK;rw[hany',if_neg (by simpa using hin)]
     rw[ep] at tk sF⊢;refine⟨xs++[([kM (cY (mp l i)),kM (then_ (cY (mp l i)) (mp l i))],t)],ps++[(cY (mp l i),then_ (cY (mp l i)) (mp l i))],_,_,_,rfl,sF,aC,?_,by rw[aud];show xs.length+1<=i+1;omega,?_,fun h hh=>?_⟩
     ·refine Cw (H:=H5) (fun x hx=>?_) tk;rcases aus.mp hx with hx|hx
      ·exact Cy x hx
      ·rw[auE.mp hx];exact⟨_,_,rfl,Kh⟩
     ·rw[auO,auO,hxp];rfl
     ·rw[aus,hps h hh];constructor
      ·rintro(⟨e,he,q⟩|q)
       ·exact⟨e,by omega,q⟩
       ·have:=auE.mp q;cases this;exact⟨i,by omega,rfl,rfl,eq⟩
      ·rintro⟨e,he,q1,q2,q3⟩;rcases axN (axO he) with z|z
       ·exact .inl ⟨e,z,q1,q2,q3⟩
       ·rw[z] at q1 q2;refine .inr (auE.mpr ?_);rw[q2,q1]
  ·rintro σ H' ⟨xs,ps,v2,v3,v4,rfl,s1,o1,hk,hxl,hxp,hps⟩;rw[atR,b2] at hxl hps;refine⟨_,rfl,B,xs,rfl,o1,small (by omega),fun p hp=>?_⟩;have s2:Same H' (upd H' p (.lst (xs.map fun x=>V.ref x.2))):=Same.laid hp;refine kq _ _ ((AA.same s1).same s2) (s1.d.trans s2.d) (.inr (.inr (.inr (.inr (.inr (.inr ⟨rfl,p,ps,rfl,⟨xs.map (·.2),?_,?_,fun i x h hx hh=>?_⟩,hps⟩))))))
   ·rw[aC,auS];rfl
   ·have:=congrArg avq hxp;rw[atR,atR] at this;rw[atR,this]
   ·rw[aui] at hx;cases e:xs[i]? with
    |none=>rw[e] at hx;cases hx
    |some y=>
     rw[e] at hx;have ey:y.2=x:=aub hx;obtain⟨k1,k2,e1,⟨u,v,h1,h2,h3⟩⟩:=hk y (auI e);have e2:(xs.map (·.1))[i]?=some y.1:=by rw[aui,e];rfl
     rw[hxp,aui,hh] at e2;have e3:nk h=y.1:=aub e2;rw[e1] at e3;unfold nk at e3;have e4:=avl e3;have e5:=(avl e4.2).1;rw[<-e4.1,rA] at h2;rw[<-e5,rA] at h3;rw[ey] at h1;exact⟨u,v,s2 _ _ h1,s2 _ _ h2,s2 _ _ h3⟩
def Vl(c cR:Addr):Sp:=fun vs H Q E=>∃(L:Lay)(M:Machine)(l:List WM)(z:Int)(ends:Nat),vs=[.ref L.p,.int z,nv ends]/\di c H L M l/\ends<2^32/\
 (fW M z ends->∀H':Hp,di c H' L M l->dO L.aK H H'->Q (.int (if stillB (WA.az M l) (d9 M l z.toNat ends)=true then 1 else 0)) H')/\(¬fW M z ends->∀H',Same H H'->E (.ref cR) none H')
theorem Cz:bR ["algebra","start","ends","language","high","higher"] ["algebra","start","ends"] (aU Bk):=⟨rfl,rfl,rfl,by decide +kernel,rfl,by decide +kernel,by decide +kernel⟩
theorem ag4{f fI fM fO fF c cL cR cM:Addr}{fd gq pX jT:FuncData}(F:aY K "is_free" "is_free" Bk f fd)(T:TA K c)(TL:TL K cL)(X:Txt K mg cR cM)(mL:mg "Language"=some (.ref cL))(MK:Mk K cL fI)
  (GI:aJ P w K mg base (aX P w) 2 fI gq ["self","algebra","start","ends"] (Kc c cL cR)) (bI:Binds K gq ["self","algebra","start","ends"] [])
  (GM:dC P w K mg base aZ cL "mark" 1 fM pX ["self","row"] (Ke K cL)) (GO:dC P w K mg base (aX P w) c "once" 4 fO jT ["self","name","find"] (qj c "turns" fF)) (mF:mg "find_turns"=some (.ref fF)):aJ P w K mg base (aX P w) 5 f fd ["algebra","start","ends"] (Vl c cR):=by
 refine F.eE Cz (fun vs H Q E h=>?_) (fun cdv A outer s H vs Q E hr h=>?_)
 ·obtain⟨L,M,l,z,ends,rfl,_⟩:=h;rfl
 ·obtain⟨L,M,l,z,ends,rfl,AA,he,ky,kn⟩:=h;have hr1:bQ 1 _:=hr.mono (by decide);have CG:bQ 3 _:=hr.mono (by decide);have hu:(fG (aX P w) P w K mg base ["algebra","start","ends","language","high","higher"] "is_free" (aU Bk) f cdv A outer s H E).A.units+64<cLine:=by have:=hr.un;show(A.deeper _).units+64<cLine;omega
  refine⟨_,aD (bf (i:=3) Cz.nd rfl (atV rfl) (wG MK GI CG rfl mL bI .nil cG (aj (pv 0) (aj (pv 1) (aj (pv 2) aA)))))
   (aD (ni qO rfl (gW (dZ (pv 0) T.cl GO.m GO.ok hr GO.b .nil cG (aj qD (aj (dz (v:=.ref fF) rfl mF rfl) aA)))) (wy rfl (mZ (dF (i:=4) Cz.nd rfl (atV rfl)) (mZ (dF (i:=5) Cz.nd rfl (atV rfl)) ww)))
    (aH (cZ (cF (Fi hu) (dZ (pv 3) TL.cl GM.m GM.ok hr1 GM.b .nil bA (aj (pv 4) aA)) (dZ (pv 3) TL.cl GM.m GM.ok hr1 GM.b .nil bA (aj (pv 5) aA)) (bY _)) (aH (bz bW)) dm)))
   (aH (bz bW))),?_⟩
  have BB:=AA.aM.begun;have hq:=AA.aM.good.2.1;refine⟨_,rfl,_,rfl,_,rfl,fun x dx nx ndx ne=>?_⟩;have s0:Same H (upd (upd H dx (.own x)) x (.ins cL dx [])):=fun b o e=>by rw[au (aV e nx),au (aV e ndx)];exact e
  refine⟨All,L,M,l,x,dx,z,ends,rfl,aC,AA.aM.same s0,he,fun pl H1 rs hL sd=>⟨rfl,?_⟩,fun Kg H1 s1=>kn Kg H1 (Same.trans s0 s1)⟩;have s1:Same H H1:=fun b o e=>sd _ _ (s0 _ _ e) (aV e nx)
  have ky:=ky pl;obtain⟨st,rfl⟩:=avb pl.1;have hst:st<M.q:=by have:=pl.2.1;omega
  have hL:qp cL H1 x M l st ends rs:=hL;have Cr:=hL.lt BB hst;have A1:=AA.same s1;refine⟨_,rfl,L.p,L.dx,L.fs,rfl,A1.aM.ins,Full.none A1.aM "once" (by decide +kernel),L,M,l,rfl,A1,fun H2 v A2 s2 e2=>?_⟩;obtain⟨a,ps,rfl,⟨as,oa,hal,has⟩,hT⟩:=e2.turns;have hL2:=hL.same (A1.sd s2);have fi:=agY BB (ends:=ends) hst hL.qt hT;rw[auh] at ky;have pok:∀h hh,(h,hh)∈ps->WA.eO M.q h/\WA.eO M.q hh:=fun h hh hm=>by
   obtain⟨e,he,e1,e2,_⟩:=(hT h hh).mp hm;have om:=BB.dB he;have oh:WA.eO M.q h:=by rw[e1];exact yw om _
   exact⟨oh,by rw[e2];exact WA.zW oh om⟩
  refine⟨a,rfl,⟨_,ak.of oa⟩,sJ (K:=K) (a:=a) (xs:=as.map V.ref) (fun i σ H'=>Same H2 H'/\(∃v4 v5:Option V,σ=[some (.ref L.p),some (.int (st:Int)),some (nv ends),some (.ref x),v4,v5])/\∀(j:Nat)(h:List Nat×List Nat),j<i->ps[j]?=some h->gb (eZ M l ends) rs h.1=gb (eZ M l ends) rs h.2)
   ⟨fun b o e=>e,⟨_,_,rfl⟩,fun j h hj=>by omega⟩ (fun i σ H' _ q=>ak.of (q.1 _ _ oa)) ?_ ?_⟩
  ·rintro i y σ H3 hi ⟨s3,⟨v4,v5,rfl⟩,hm⟩;obtain⟨t,ht,rfl⟩:=jD hi;have hil:i<ps.length:=by rw[<-hal];exact(at9.mp ht).1
   obtain⟨⟨h,hh⟩,hps⟩:∃h,ps[i]?=some h:=⟨_,atY hil⟩
   obtain⟨u,v,o1,o2,o3⟩:=has i t _ ht hps;obtain⟨k1,k2⟩:=pok h hh (auI hps);have Kl:=hL2.same s3.n;obtain⟨lw,r,fa,g1,g2,g3⟩:=Kl.ex;refine⟨t,_,rfl,bB.of (s3 _ _ o1),rfl,_,_,rfl,_,_,rfl,rfl,?_⟩;refine⟨_,rfl,x,lw,_,rfl,g1,rfl,_,rfl,x,u,M,l,st,ends,rs,h,rfl,Kl,bB.of (s3 _ _ o2),fun s hs=>by rw[k1.len];exact Cr s hs,fun y hy=>k1.lt y hy,fun H4 m1 hm1 om1 s4=>?_⟩;have hL4:=Kl.same s4.n;refine⟨_,rfl,x,lw,_,rfl,s4 _ _ g1,rfl,_,rfl,x,v,M,l,st,ends,rs,hh,rfl,hL4,bB.of (s4 _ _ (s3 _ _ o3)),fun s hs=>by rw[k2.len];exact Cr s hs,fun y hy=>k2.lt y hy,fun H5 m2 hm2 om2 s5=>?_⟩;refine⟨_,_,rN (bB.of (s5 _ _ om1)),rN (bB.of om2),rO _,rO _,_,rfl,?_⟩;rw[Cj];have Km:=Same.trans s3 (Same.trans s4 s5);by_cases eq:gb (eZ M l ends) rs h=gb (eZ M l ends) rs hh
   ·rw[decide_eq_true eq];refine jH ⟨Km,⟨_,_,rfl⟩,fun j g hj hg=>?_⟩;by_cases q:j<i
    ·exact hm j g q hg
    ·have ej:j=i:=by omega
     subst ej;rw[hps] at hg;cases hg;exact eq
   ·rw[decide_eq_false eq];refine gZ ?_;have k0:=ky H5 (A2.same Km) (s1.d.trans (s2.trans Km.d));rw[if_neg (fun q=>eq (fi.mp q h hh (auI hps)))] at k0;exact k0
  ·rintro σ H3 ⟨s3,⟨v4,v5,rfl⟩,hm⟩;rw[atR,hal] at hm;have k0:=ky H3 (A2.same s3) (s1.d.trans (s2.trans s3.d));rw[if_pos (fi.mpr fun h hh hmem=>by
    obtain⟨j,hj⟩:=avf hmem;exact hm j _ (at9.mp hj).1 hj)] at k0
   exact k0
end
end WP
namespace L2
open PySem PySem.Spec PyProof.Rows
noncomputable def iR(a:Addr)(H:Hp):Hp:=fun b=>if b=a then none else H b
theorem uw{a:Addr}{H:Hp}:iR a H a=none:=by unfold iR;rw[if_pos rfl]
theorem jU{a b:Addr}{H:Hp}(h:b≠a):iR a H b=H b:=by unfold iR;rw[if_neg h]
theorem Vm{a:Addr}{H:Hp}{o:HO}:iR a (upd H a o)=iR a H:=by
 funext b;by_cases h:b=a
 ·rw[h,uw,uw]
 ·rw[jU h,jU h,au h]
theorem Vn{a:Addr}{H:Hp}(h:H a=none):iR a H=H:=by
 funext b;by_cases q:b=a
 ·rw[q,uw,h]
 ·exact jU q
section
variable{P:Program}{w:World}{K:atQ}{mg:Str->Option Value}{base:Heap}
theorem ag9{H:Hp}{h:Heap}{a:Addr}{ys:List V}(ok:cC P w H h)(ha:H a=some (.lst ys)):cC P w (iR a H) h:=fun b o e=>by
 have hb:b≠a:=fun q=>by rw[q,uw] at e;cases e
 rw[jU hb] at e;refine(ok b o e).stay (fun _ _ _ q=>q) (fun z q=>?_) (fun z xs q=>?_)
 ·have:z≠a:=fun w=>by rw[w,ha] at q;cases q
  rw[jU this];exact q
 ·have:z≠a:=fun w=>by rw[w,ha] at q;cases q
  rw[jU this];exact q
theorem aha{H H1:Hp}{h h1:Heap}{a:Addr}{ys:List V}{fs:List Addr}(ok:cC P w H h)(ha:H a=some (.lst ys))(hf:a∉fs)(u:Un fs [] (iR a H) H1 h h1)(ok1:cC P w H1 h1):
  H1 a=none/\Un fs [] H (upd H1 a (.lst ys)) h h1/\cC P w (upd H1 a (.lst ys)) h1:=by
 have oa:cQ P w H h a (.lst ys):=ok a _ ha;obtain⟨z,its,n,r,e⟩:=oa;have non:∀b,b∉([]:List Addr):=fun b z=>nomatch z
 have f1:=u.free a _ e uw (non a);have e1:=u.keep a _ e uw hf (non a);have ne:∀{b:Addr}{o:HO},H b=some o->(∀xs,o≠.lst xs)->b≠a:=fun{b o} q hn w=>by
  rw[w,ha] at q;exact hn ys (aub q).symm
 have nn:∀{b:Addr},H b=none->b≠a/\iR a H b=none:=fun{b} q=>by
  have:b≠a:=fun w=>by rw[w,ha] at q;cases q
  exact⟨this,by rw[jU this];exact q⟩
 refine⟨f1,⟨fun b o hb n hx hz=>u.keep b o hb (nn n).2 hx hz,fun b o hb n hx hz=>u.slot b o hb (nn n).2 hx hz,fun b o hb n hz=>?_,u.there,fun b xs q=>?_,fun b o v q=>?_,fun b ps q=>?_⟩,fun b o q=>?_⟩
 ·rw[au (nn n).1];exact u.free b o hb (nn n).2 hz
 ·have hn:=ne q (fun xs w=>by cases w);rw[au hn];exact u.tups b xs (by rw[jU hn];exact q)
 ·have hn:=ne q (fun xs w=>by cases w);rw[au hn];exact u.iY b o v (by rw[jU hn];exact q)
 ·have hn:=ne q (fun xs w=>by cases w);rw[au hn];exact u.jr b ps (by rw[jU hn];exact q)
 ·by_cases hb:b=a
  ·subst hb;rw[aC] at q;cases q;exact⟨z,its,n,r,e1⟩
  ·rw[au hb] at q;refine(ok1 b o q).stay (fun _ _ _ q=>q) (fun z q=>?_) (fun z xs q=>?_)
   ·rw[au (aV q f1)];exact q
   ·rw[au (aV q f1)];exact q
def hid(sp:Sp):Sp:=fun vs H Q E=>∃(a:Addr)(ys:List V),H a=some (.lst ys)/\sp vs (iR a H) (fun v H1=>H1 a=none->Q v (upd H1 a (.lst ys))) (fun C x H1=>H1 a=none->E C x (upd H1 a (.lst ys)))
theorem aJ.hid{k:Nat}{f:Addr}{fd:FuncData}{ps:List Str}{sp:Sp}(F:aJ P w K mg base aZ k f fd ps sp):aJ P w K mg base aZ k f fd ps (hid sp):=by
 refine⟨fun vs H Q E h=>?_,fun A outer s H args us vs Q E hr he hb hv hs=>?_⟩
 ·obtain⟨a,ys,_,h⟩:=h;exact F.len _ _ _ _ h
 ·obtain⟨a,ys,ha,h⟩:=hs;have hf:a∉dJ outer:=fun q=>by have:=he.kZ a q;rw[ha] at this;cases this
  have he':lA P w K mg base A outer s (iR a H):=by
   refine⟨he.frames,he.mod,fun b o q=>?_,he.jE,he.iZ,fun b q=>?_,ag9 he.hok ha,he.bare⟩
   ·obtain⟨h1,h2⟩:=he.bs b o q;exact⟨h1,by rw[jU (fun w=>by rw[w,ha] at h2;cases h2)];exact h2⟩
   ·have h2:=he.kZ b q;rw[jU (fun w=>by rw[w,ha] at h2;cases h2)];exact h2
  refine codeAny_mono (F.run A outer s (iR a H) args us vs _ _ hr he' hb hv h) fun r s' hr'=>?_
  match r,hr' with
  |.ok (.ret u),⟨v,H1,h1,h2,h3,h4,h5,h6⟩=>
   obtain⟨f1,u1,ok1⟩:=aha he.hok ha hf h3 h4;exact⟨v,_,h1,h2,u1,ok1,h5,h6 f1⟩
  |.error e,hr'=>exact hr'.elim
end
end L2
namespace WP
open PySem PySem.Spec PyProof.Rows L2
open Si08 Si08.Out
open WA (WM mp wd gU jL aQ ix pr lt aF nY)
def CJ(H:Hp)(xs:List V):Prop:=xs.length=2->∃(i:Nat)(x:V),xs[i]?=some x/\x≠.non/\∀p c d fs,x=.ref p->H p≠some (.ins c d fs)
theorem CK(H:Hp)(l:List Nat):CJ H (aq l):=fun h=>by
 cases l with
 |nil=>cases h
 |cons a l=>exact⟨0,nv a,rfl,(fun q=>by cases q),(fun p c d fs q=>by cases q)⟩
theorem yz{H:Hp}{as:List Addr}(h:∀x,x∈as->∀c d fs,H x≠some (.ins c d fs)):CJ H (as.map V.ref):=fun e=>by
 cases as with
 |nil=>cases e
 |cons a l=>exact⟨0,.ref a,rfl,(fun q=>by cases q),fun p c d fs q=>by cases q;exact h a (at7 ..) c d fs⟩
structure Move(H H':Hp):Prop where
 kl:∀b xs,H b=some (.lst xs)->CJ H xs->H' b=some (.lst xs)
 kt:∀b xs,H b=some (.tup xs)->H' b=some (.tup xs)
 kd:∀b kvs,H b=some (.dT kvs)->H' b=some (.dT kvs)
 kk:∀b kvs,H b=some (.dK kvs)->H' b=some (.dK kvs)
theorem Ko{H:Hp}{x:Addr}{xs:List V}(h:H x=some (.lst xs)):∀c d fs,H x≠some (.ins c d fs):=fun c d fs q=>by rw[h] at q;cases q
theorem Vo{H:Hp}{x:Addr}{xs:List V}(h:H x=some (.tup xs)):∀c d fs,H x≠some (.ins c d fs):=fun c d fs q=>by rw[h] at q;cases q
theorem cX.move{c:Addr}{S:Addr->Prop}{H H':Hp}{L:Lay}{M:Machine}{l:List WM}{nb:Nat}(A:cX c S H L M l nb)(m:Move H H')(hp:H' L.p=some (.ins c L.dx L.fs)):cX c S H' L M l nb:=by
 obtain⟨bj,a1,a2,a3⟩:=A.bj;obtain⟨ras,b1,b2,b3⟩:=A.ras;obtain⟨ps,es,c1,c2,c3,c4,c5⟩:=A.oE;obtain⟨cN,d1,d2,d3⟩:=A.cN;have mem:∀{as:List Addr}{x:Addr},x∈as->∃i:Nat,as[i]?=some x:=fun h=>avf h
 refine⟨hp,A.lL,A.lR,A.lN,A.lP,A.lE,A.lB,A.lK,A.lM,⟨bj,m.kl _ _ a1 (yz fun x hx=>?_),a2,fun a x hx=>?_⟩,⟨ras,m.kl _ _ b1 (yz fun x hx=>?_),b2,fun i x hx=>?_⟩,m.kd _ _ A.nums,⟨ps,es,m.kl _ _ c1 fun e=>?_,m.kl _ _ c2 fun e=>?_,c3,c4,c5⟩,⟨cN,m.kl _ _ d1 (yz fun x hx=>?_),d2,fun e x hx=>?_⟩,A.sep,A.own,A.good,A.grown,A.tV,A.most⟩
 ·obtain⟨i,hi⟩:=mem hx;exact Ko (a3 i x hi).1
 ·obtain⟨g1,g2⟩:=a3 a x hx;exact⟨m.kl _ _ g1 (CK _ _),g2⟩
 ·obtain⟨i,hi⟩:=mem hx;exact Vo (b3 i x hi).1
 ·obtain⟨g1,g2⟩:=b3 i x hx;exact⟨m.kt _ _ g1,g2⟩
 ·obtain⟨j,a,_,h1,_,_⟩:=c5 1 (by omega) (by omega);exact⟨1,nv j,h1,(fun q=>by cases q),(fun p c d fs q=>by cases q)⟩
 ·obtain⟨j,a,_,_,h1,_⟩:=c5 1 (by omega) (by omega);exact⟨1,nv a,h1,(fun q=>by cases q),(fun p c d fs q=>by cases q)⟩
 ·obtain⟨i,hi⟩:=mem hx;obtain⟨_,row,g,_⟩:=d3 i x hi;exact Ko g
 ·obtain⟨g1,row,g2,g3⟩:=d3 e x hx;exact⟨g1,row,m.kl _ _ g2 (CK _ _),g3⟩
theorem jo.move{H H':Hp}{v:V}{l:List Nat}(h:jo H v l)(m:Move H H'):jo H' v l:=by
 obtain⟨a,e,h⟩:=h;exact⟨a,e,m.kl _ _ h (CK _ _)⟩
theorem Entry.move{H H':Hp}{M:Machine}{l:List WM}{x:Str}{v:V}(e:Entry H M l x v)(m:Move H H'):Entry H' M l x v:=by
 rcases e with⟨h,a,h1,bU,g1,g2,g3⟩|⟨h,h1⟩|⟨h,h1⟩|⟨h,h1⟩|⟨h,h1⟩|⟨h,h1⟩|⟨h,a,ps,h1,⟨as,g1,g2,g3⟩,h3⟩
 ·refine .inl ⟨h,a,h1,bU,m.kl _ _ g1 (yz fun x hx=>?_),g2,fun e x out hx ho=>m.kl _ _ (g3 e x out hx ho) (CK _ _)⟩;obtain⟨i,hi⟩:=avf hx;have hil:i<(qd M l).length:=by rw[<-g2];exact(at9.mp hi).1
  exact Ko (g3 i x _ hi (atY hil))
 ·exact .inr (.inl ⟨h,h1.move m⟩)
 ·exact .inr (.inr (.inl ⟨h,h1.move m⟩))
 ·exact .inr (.inr (.inr (.inl ⟨h,h1.move m⟩)))
 ·exact .inr (.inr (.inr (.inr (.inl ⟨h,h1.move m⟩))))
 ·exact .inr (.inr (.inr (.inr (.inr (.inl ⟨h,h1⟩)))))
 ·refine .inr (.inr (.inr (.inr (.inr (.inr ⟨h,a,ps,h1,⟨as,m.kl _ _ g1 (yz fun x hx=>?_),g2,fun i x y hx hy=>?_⟩,h3⟩)))))
  ·obtain⟨i,hi⟩:=avf hx;have hil:i<ps.length:=by rw[<-g2];exact(at9.mp hi).1
   obtain⟨u,v,k1,_⟩:=g3 i x _ hi (atY hil);exact Vo k1
  ·obtain⟨u,v,k1,k2,k3⟩:=g3 i x y hx hy;exact⟨u,v,m.kt _ _ k1,m.kt _ _ k2,m.kt _ _ k3⟩
theorem di.move{c:Addr}{H H':Hp}{L:Lay}{M:Machine}{l:List WM}(A:di c H L M l)(m:Move H H')(hp:H' L.p=some (.ins c L.dx L.fs)):di c H' L M l:=by
 obtain⟨kvs,k⟩:=A.kn;exact⟨A.aM.move m hp,kvs,m.kk _ _ k.at_,k.nd,k.mem,fun x v h=>(k.val x v h).move m⟩
abbrev Mo:=Option (Lay×Machine×List WM)
def gw:Mo->V
 |none=>.non
 |some x=>.ref x.1.p
def moG:Mo->Option G
 |none=>none
 |some x=>some (WA.az x.2.1 x.2.2)
structure Two(c:Addr)(H:Hp)(m:Addr)(f:Nat->Mo):Prop where
 at_:H m=some (.lst [gw (f 0),gw (f 1)])
 aW:∀i x,i<2->f i=some x->di c H x.1 x.2.1 x.2.2
 ne:∀i j x y,i<2->j<2->i≠j->f i=some x->f j=some y->x.1.aK≠y.1.aK
structure Rdr(K:atQ)(cD:Addr)(H:Hp)(r a:Addr)(l:List Int)(i:Nat):Prop where
 at_:∃dx,H r=some (.ins cD dx (rf a i))
 sq:ak K H a (l.map V.int)
structure Wd(K:atQ)(c cD:Addr)(H:Hp)(m r a:Addr)(l:List Int)(i:Nat)(f:Nat->Mo):Prop where
 two:Two c H m f
 rd:Rdr K cD H r a l i
theorem ahd{K:atQ}{H H':Hp}{a b:Addr}{xs:List V}{kvs:List (bc×V)}(h:ak K H a xs)(s:dO b H H')(hb:H b=some (.dK kvs)):ak K H' a xs:=by
 rcases h with(h|⟨o,h⟩)|h
 ·exact .inl (.inl (s _ _ h (bx h hb (by intro q;cases q))))
 ·exact .inl (.inr ⟨o,s _ _ h (bx h hb (by intro q;cases q))⟩)
 ·exact .inr h
section
variable{K:atQ}{c cD:Addr}{H H':Hp}{m r a:Addr}{l:List Int}{i:Nat}{f:Nat->Mo}
theorem Wd.same(W:Wd K c cD H m r a l i f)(s:Same H H'):Wd K c cD H' m r a l i f:=by
 obtain⟨dx,h⟩:=W.rd.at_;exact⟨⟨s _ _ W.two.at_,fun j x hj h=>(W.two.aW j x hj h).same s,W.two.ne⟩,⟨dx,s _ _ h⟩,Same.seq s W.rd.sq⟩
theorem Wd.found(W:Wd K c cD H m r a l i f){j:Nat}{x:Lay×Machine×List WM}(hj:j<2)(hx:f j=some x)(A:di c H' x.1 x.2.1 x.2.2)(s:dO x.1.aK H H'):Wd K c cD H' m r a l i f:=by
 obtain⟨dx,h⟩:=W.rd.at_;have M:=W.two.aW j x hj hx;obtain⟨kvs,k⟩:=M.kn;have sn:=M.sd s;refine⟨⟨sn _ _ W.two.at_ (iW _),fun i y hi hy=>?_,W.two.ne⟩,⟨dx,sn _ _ h (T5 _ _ _)⟩,ahd W.rd.sq s k.at_⟩;by_cases e:i=j
 ·subst e;rw[hx] at hy;cases hy;exact A
 ·exact(W.two.aW i y hi hy).other s sn (W.two.ne i j y x hi hj e hy hx)
theorem Wd.went(W:Wd K c cD H m r a l i f){dx:Addr}(hr:H r=some (.ins cD dx (rf a i)))(j:Nat):Wd K c cD (upd H r (.ins cD dx (rf a j))) m r a l j f:=by
 have mv:Move H (upd H r (.ins cD dx (rf a j))):=⟨fun b xs e _=>by rw[au (bx e hr (by intro q;cases q))];exact e,fun b xs e=>by rw[au (bx e hr (by intro q;cases q))];exact e,fun b xs e=>by rw[au (bx e hr (by intro q;cases q))];exact e,fun b xs e=>by rw[au (bx e hr (by intro q;cases q))];exact e⟩;have am:=W.two.at_;refine⟨⟨by rw[au (bx am hr (by intro q;cases q))];exact am,fun k x hk hx=>?_,W.two.ne⟩,⟨dx,aC⟩,Bo hr (fun xs q=>by cases q) (fun b u q=>by cases q) W.rd.sq⟩;have M:=W.two.aW k x hk hx;refine M.move mv ?_;have hne:x.1.p≠r:=fun q=>by
  have h1:=M.aM.ins;rw[q,hr] at h1;have h2:=M.aM.lL;have h3:HO.ins cD dx (rf a i)=.ins c x.1.dx x.1.fs:=aub h1;have h4:rf a i=x.1.fs:=by injection h3
  rw[<-h4] at h2;cases h2
 rw[au hne];exact M.aM.ins
theorem Wd.begun(W:Wd K c cD H m r a l i f){o:Nat}(ho:o<2){x:Lay×Machine×List WM}(s:Same H H')(A:di c H' x.1 x.2.1 x.2.2)(hf:H x.1.aK=none):
  Wd K c cD (upd H' m (.lst [gw (if o=0 then some x else f 0),gw (if o=1 then some x else f 1)])) m r a l i (fun j=>if j=o then some x else f j):=by
 have W1:=W.same s;have am:=W1.two.at_;have isI:∀j,j<2->gw (f j)=.non\/∃p d fs,gw (f j)=.ref p/\H' p=some (.ins c d fs):=fun j hj=>by
  cases q:f j with
  |none=>exact .inl rfl
  |some y=>exact .inr ⟨y.1.p,y.1.dx,y.1.fs,rfl,(W1.two.aW j y hj q).aM.ins⟩
 have ahe:∀b xs,H' b=some (.lst xs)->CJ H' xs->b≠m:=fun b xs e ft q=>by
  rw[q,am] at e;have e:[gw (f 0),gw (f 1)]=xs:=by have:=aub e;injection this
  subst e;obtain⟨k,y,hk,h1,h2⟩:=ft rfl;have:∃j,j<2/\y=gw (f j):=by
   match k,hk with
   |0,hk=>exact⟨0,by omega,(aub hk).symm⟩
   |1,hk=>exact⟨1,by omega,(aub hk).symm⟩
   |k+2,hk=>simp at hk
  obtain⟨j,hj,rfl⟩:=this;rcases isI j hj with z|⟨p,d,fs,z1,z2⟩
  ·exact h1 z
  ·exact h2 p c d fs z1 z2
 have mv:∀o':HO,Move H' (upd H' m o'):=fun o'=>⟨fun b xs e ft=>by rw[au (ahe b xs e ft)];exact e,fun b xs e=>by rw[au (bx e am (by intro q;cases q))];exact e,fun b xs e=>by rw[au (bx e am (by intro q;cases q))];exact e,fun b xs e=>by rw[au (bx e am (by intro q;cases q))];exact e⟩
 obtain⟨dx,hr⟩:=W1.rd.at_;refine⟨⟨?_,fun j y hj hy=>?_,fun j k y z hj hk hne hy hz=>?_⟩,⟨dx,by rw[au (bx hr am (by intro q;cases q))];exact hr⟩,?_⟩
 ·rw[aC];have e0:(if(0:Nat)=o then some x else f 0)=if o=0 then some x else f 0:=by by_cases q:o=0<;>simp[q,eq_comm]
  have e1:(if(1:Nat)=o then some x else f 1)=if o=1 then some x else f 1:=by by_cases q:o=1<;>simp[q,eq_comm]
  show _=some (HO.lst [gw (if(0:Nat)=o then some x else f 0),gw (if(1:Nat)=o then some x else f 1)]);rw[e0,e1]
 ·have hA:di c H' y.1 y.2.1 y.2.2:=by
   by_cases q:j=o
   ·have hy:(if j=o then some x else f j)=some y:=hy;rw[if_pos q] at hy;cases hy;exact A
   ·have hy:(if j=o then some x else f j)=some y:=hy;rw[if_neg q] at hy;exact W1.two.aW j y hj hy
  refine hA.move (mv _) ?_;rw[au (bx hA.aM.ins am (by intro q;cases q))];exact hA.aM.ins
 ·have hy:(if j=o then some x else f j)=some y:=hy;have hz:(if k=o then some x else f k)=some z:=hz;have old:∀i y,i<2->f i=some y->y.1.aK≠x.1.aK:=fun i y hi h q=>by
   obtain⟨kvs,kk⟩:=(W.two.aW i y hi h).kn;have:=kk.at_;rw[q,hf] at this;cases this
  by_cases q1:j=o
  ·rw[if_pos q1] at hy;cases hy;by_cases q2:k=o
   ·exact absurd (q1.trans q2.symm) hne
   ·rw[if_neg q2] at hz;exact(old k z hk hz).symm
  ·rw[if_neg q1] at hy;by_cases q2:k=o
   ·rw[if_pos q2] at hz;cases hz;exact old j y hj hy
   ·rw[if_neg q2] at hz;exact W.two.ne j k y z hj hk hne hy hz
 ·rcases W1.rd.sq with(h|⟨ob,h⟩)|h
  ·refine .inl (.inl ?_);rw[au (fun q=>?_)]
   ·exact h
   ·rw[q,am] at h;have e:[gw (f 0),gw (f 1)]=l.map V.int:=by have:=aub h;injection this
    cases l with
    |nil=>cases e
    |cons z l=>
     have:=(avl e).1;cases q0:f 0 with
     |none=>rw[q0] at this;cases this
     |some y=>rw[q0] at this;cases this
  ·exact .inl (.inr ⟨ob,by rw[au (bx h am (by intro q;cases q))];exact h⟩)
  ·exact .inr h
end
open WA (dg pM d9 fW)
theorem jq{l:List Int}{i:Nat}{x:Int}{t:List Int}(h:l.drop i=x::t):l[i]?=some x/\l.drop (i+1)=t:=by
 have h1:(l.drop i)[0]?=some x:=by rw[h];rfl
 have h2:(l.drop i).drop 1=t:=by rw[h];rfl
 rw[awN,Nat.add_zero] at h1;rw[axP] at h2;exact⟨h1,h2⟩
theorem MP{X:Cx}{st:Stmt}:PS X st (fun _ _ _=>False):=fun _ _ _ _ _ _ h=>h.elim
section
variable{P:Program}{w:World}{K:atQ}{mg:Str->Option Value}{base:Heap}
def Vp(c:Addr):Sp:=fun vs H Q _=>∃(L:Lay)(M:Machine)(l:List WM),vs=[.ref L.p]/\di c H L M l/\∀H':Hp,di c H' L M l->dO L.aK H H'->Q (nv (nY M l)) H'
theorem ahf:bR ["algebra"] ["algebra"] (aU Ih):=⟨rfl,rfl,rfl,by decide +kernel,rfl,by decide +kernel,by decide +kernel⟩
theorem ahg{f fO fF c cR cM:Addr}{fd jT:FuncData}{k:Nat}(F:aY K "kind_of" "kind_of" Ih f fd)(T:TA K c)(X:Txt K mg cR cM)(GO:dC P w K mg base (aX P w) c "once" k fO jT ["self","name","find"] (qj c "kind" fF))(mF:mg "find_kind"=some (.ref fF)):aJ P w K mg base (aX P w) (k+1) f fd ["algebra"] (Vp c):=by
 refine F.eE ahf (fun vs H Q E h=>?_) (fun cdv A outer s H vs Q E hr h=>?_)
 ·obtain⟨L,M,l,rfl,_⟩:=h;rfl
 ·obtain⟨L,M,l,rfl,AA,k⟩:=h;refine⟨_,aH (bz (dZ (pv 0) T.cl GO.m GO.ok hr GO.b .nil cG (aj qD (aj (dz (v:=.ref fF) rfl mF rfl) aA)))),?_⟩;refine⟨_,rfl,L.p,L.dx,L.fs,rfl,AA.aM.ins,Full.none AA.aM "once" (by decide +kernel),L,M,l,rfl,AA,fun H1 v A1 s1 e1=>?_⟩;rw[e1.kind];exact k H1 A1 s1
def Vq(K:atQ)(c cD cR:Addr):Sp:=fun vs H Q E=>∃(m r a:Addr)(l:List Int)(i:Nat)(f:Nat->Mo)(o:Nat)(x:Lay×Machine×List WM)(y z:Int),vs=[.ref x.1.p,.ref r]/\Wd K c cD H m r a l i f/\o<2/\f o=some x/\l[i]?=some y/\l[i+1]?=some z/\
 (iQ x.2.2 y->iQ x.2.2 z->∀(H':Hp)(q:Addr),Wd K c cD H' m r a l (i+2) f->H' q=some (.lst [nv (pr x.2.2 y.toNat z.toNat)])->Q (.ref q) H')/\(¬(iQ x.2.2 y/\iQ x.2.2 z)->∀H',Wd K c cD H' m r a l (i+2) f->E (.ref cR) none H')
theorem Kr:bR ["machine","reader","a","b"] ["machine","reader"] (aU Ip):=⟨rfl,rfl,rfl,by decide +kernel,rfl,by decide +kernel,by decide +kernel⟩
theorem ahh{f fT fP c cD cR cM:Addr}{fd jO jm:FuncData}(F:aY K "product" "product" Ip f fd)(T:TA K c)(TD:TR K cD)(X:Txt K mg cR cM)(GT:dC P w K mg base aZ cD "take" 1 fT jO ["self"] (rn K cD))
  (GP:dC P w K mg base (aX P w) c "product" 2 fP jm ["self","a","b"] (Jq c cR)):aJ P w K mg base (aX P w) 3 f fd ["machine","reader"] (Vq K c cD cR):=by
 refine F.eE Kr (fun vs H Q E h=>?_) (fun cdv A outer s H vs Q E hr h=>?_)
 ·obtain⟨m,r,a,l,i,f,o,x,y,z,rfl,_⟩:=h;rfl
 ·obtain⟨m,r,a,l,i,f,o,x,y,z,rfl,W,ho,hx,hy,hz,ky,kn⟩:=h;have hr1:bQ 1 _:=hr.mono (by decide);refine⟨_,aD (bf (i:=2) Kr.nd rfl (atV rfl) (gj (pv 1) TD.cl GT.m GT.ok hr1 GT.b .nil bA))
   (aD (bf (i:=3) Kr.nd rfl (atV rfl) (gj (pv 1) TD.cl GT.m GT.ok hr1 GT.b .nil bA))
   (aH (bz (dD (aj (dZ (pv 0) T.cl GP.m GP.ok hr GP.b .nil cG (aj (pv 2) (aj (pv 3) aA))) aA))))),?_⟩
  obtain⟨dx,h0⟩:=W.rd.at_;refine⟨_,rfl,r,dx,_,rfl,h0,rfl,r,dx,a,i,l,y,rfl,h0,W.rd.sq,hy,?_⟩;have W1:=W.went h0 (i+1);have h1:(upd H r (.ins cD dx (rf a (i+1:Nat)))) r=some (.ins cD dx (rf a (i+1:Nat))):=aC;generalize upd H r (.ins cD dx (rf a (i+1:Nat)))=H1 at W1 h1⊢;refine⟨_,rfl,r,dx,_,rfl,h1,rfl,r,dx,a,i+1,l,z,rfl,h1,W1.rd.sq,hz,?_⟩;have W2:=W1.went h1 (i+2);generalize upd H1 r (.ins cD dx (rf a (i+1+1:Nat)))=H2 at W2⊢;have M2:=W2.two.aW o x ho hx;refine⟨_,rfl,x.1.p,x.1.dx,x.1.fs,rfl,M2.aM.ins,Full.none M2.aM "product" (by decide +kernel),_,rfl,_,rfl,All,x.1,x.2.1,x.2.2,y,z,rfl,M2.aM,fun a1 a2 H3 s3=>?_,fun hn=>kn hn H2 W2⟩;refine⟨by show 1<=sizeLine;decide,fun q hq=>ky a1 a2 _ q (W2.same (Same.trans s3 (Same.laid hq))) aC⟩
def Vr(K:atQ)(c cD cR:Addr):Sp:=fun vs H Q E=>∃(m r a:Addr)(l:List Int)(i:Nat)(f:Nat->Mo)(o:Nat)(x:Lay×Machine×List WM)(z:Int),vs=[.ref x.1.p,.ref r]/\Wd K c cD H m r a l i f/\o<2/\f o=some x/\l[i]?=some z/\
 (Cg z->∀(H':Hp)(q:Addr),Wd K c cD H' m r a l (i+1) f->H' q=some (.lst (aq ((aF x.2.1 x.2.2 z.toNat).2::(aF x.2.1 x.2.2 z.toNat).1)))->Q (.ref q) H')/\(¬Cg z->∀H',Wd K c cD H' m r a l (i+1) f->E (.ref cR) none H')
theorem Vs:bR ["machine","reader","found"] ["machine","reader"] (aU Ir):=⟨rfl,rfl,rfl,by decide +kernel,rfl,by decide +kernel,by decide +kernel⟩
theorem ahi{f fT fC fH c cD cR cM:Addr}{fd jO dX ql:FuncData}{k:Nat}(F:aY K "classes" "classes" Ir f fd)(T:TA K c)(TD:TR K cD)(X:Txt K mg cR cM)(GT:dC P w K mg base aZ cD "take" 1 fT jO ["self"] (rn K cD))
  (GC:bG P w K mg base (aX P w) "classes_of_kind" (k+1) fC dX ["algebra","kind"] (Ci c cR fun z=>z=3->True)) (GH:bG P w K mg base aZ "how_many" 1 fH ql ["classes"] (ym K)):aJ P w K mg base (aX P w) (k+2) f fd ["machine","reader"] (Vr K c cD cR):=by
 refine F.eE Vs (fun vs H Q E h=>?_) (fun cdv A outer s H vs Q E hr h=>?_)
 ·obtain⟨m,r,a,l,i,f,o,x,z,rfl,_⟩:=h;rfl
 ·obtain⟨m,r,a,l,i,f,o,x,z,rfl,W,ho,hx,hz,ky,kn⟩:=h;have hr1:bQ 1 _:=hr.mono (by omega);refine⟨_,aD (bf (i:=2) Vs.nd rfl (atV rfl) (cu GC.ok hr rfl GC.m GC.kp GC.b .nil cG (aj (pv 0) (aj (gj (pv 1) TD.cl GT.m GT.ok hr1 GT.b .nil bA) aA))))
   (aH (bz (iC qL (dD (aj (cu GH.ok hr1 rfl GH.m GH.kp GH.b .nil bA (aj (pv 2) aA)) aA)) (pv 2)))),?_⟩
  obtain⟨dx,h0⟩:=W.rd.at_;refine⟨_,rfl,_,rfl,r,dx,_,rfl,h0,rfl,r,dx,a,i,l,z,rfl,h0,W.rd.sq,hz,?_⟩;have W1:=W.went h0 (i+1);generalize upd H r (.ins cD dx (rf a (i+1:Nat)))=H1 at W1⊢;have M1:=W1.two.aW o x ho hx;refine⟨x.1,x.2.1,x.2.2,z,rfl,M1,fun _=>True.intro,fun hk H2 v A2 s2 e2=>?_,fun hn=>kn hn H1 W1⟩;obtain⟨b,rfl,hb⟩:=e2;have W2:=W1.found ho hx A2 s2;have BB:=M1.aM.begun;have hn:=M1.aM.most;have cl:=afG BB z.toNat (by have:=hk.1;have:=hk.2;omega);have ch:=vQ cl BB.pos;refine⟨_,rfl,b,_,_,rfl,ak.of hb,ch.1,ch.2,by show 1<=sizeLine;decide,fun t ht=>?_⟩;have s3:Same H2 (upd H2 t (.lst [nv (aF x.2.1 x.2.2 z.toNat).2])):=Same.laid ht;refine⟨_,rfl,t,b,_,_,rfl,rfl,aC,s3 _ _ hb,by rw[atR,cl.len];exact small (by show 1+x.2.2.length<=1000000;omega),fun q hq=>?_⟩;exact ky hk _ q (W2.same (Same.trans s3 (Same.laid hq))) aC
def Vt(c:Addr):Sp:=fun vs H Q _=>∃(S:Addr->Prop)(L:Lay)(M:Machine)(l:List WM),vs=[.ref L.p]/\Full c S H L M l/\∀(H':Hp)(q:Addr),Same H H'->H' q=some (.lst (aq ((dg M l).sum::dg M l)))->Q (.ref q) H'
theorem Vu:bR ["machine","found"] ["machine"] (aU Iu):=⟨rfl,rfl,rfl,by decide +kernel,rfl,by decide +kernel,by decide +kernel⟩
theorem ahj{f fI c cR cM:Addr}{fd gq:FuncData}(F:aY K "ideal" "ideal" Iu f fd)(T:TA K c)(X:Txt K mg cR cM)(GI:bG P w K mg base aZ "ideal_of" 1 fI gq ["algebra"] (J4 c)):aJ P w K mg base aZ 2 f fd ["machine"] (Vt c):=by
 refine F.ok Vu (fun vs H Q E h=>?_) (fun cdv A outer s H vs Q E hr h=>?_)
 ·obtain⟨S,L,M,l,rfl,_⟩:=h;rfl
 ·obtain⟨S,L,M,l,rfl,AA,k⟩:=h;refine⟨_,aD (bf (i:=1) Vu.nd rfl (atV rfl) (cu GI.ok hr rfl GI.m GI.kp GI.b .nil bA (aj (pv 0) aA)))
   (aH (bz (iC qL (dD (aj (dU (zj rfl) rfl X.sum aw5 (aj (pv 1) aA)) aA)) (pv 1)))),?_⟩
  have hn:=AA.most;refine⟨_,rfl,S,L,M,l,rfl,AA,fun H1 p hp hp' s1=>?_⟩;have yu:=hp';rw[kj] at yu;refine⟨_,rfl,p,_,rfl,ak.of yu,by show 1<=sizeLine;decide,fun t ht=>?_⟩;rw[yo];have s2:Same H1 (upd H1 t (.lst [.int ((dg M l).sum:Int)])):=Same.laid ht;refine⟨_,rfl,t,p,_,_,rfl,rfl,aC,s2 _ _ hp',by rw[atR,WA.Ah];exact small (by show 1+l.length<=1000000;omega),fun q hq=>?_⟩;exact k _ q (Same.trans s1 (Same.trans s2 (Same.laid hq))) aC
def Vv(K:atQ)(c cD cR:Addr):Sp:=fun vs H Q E=>∃(m r a:Addr)(l:List Int)(i:Nat)(f:Nat->Mo)(o:Nat)(x:Lay×Machine×List WM)(z:Int)(ends:Nat),vs=[.ref x.1.p,.ref r]/\Wd K c cD H m r a l i f/\o<2/\f o=some x/\l[i]?=some z/\l[i+1]?=some (ends:Int)/\ends<2^32/\
 (fW x.2.1 z ends->∀(H':Hp)(q:Addr),Wd K c cD H' m r a l (i+2) f->H' q=some (.lst (aq ((numbered (WA.az x.2.1 x.2.2) (d9 x.2.1 x.2.2 z.toNat ends)).2::(numbered (WA.az x.2.1 x.2.2) (d9 x.2.1 x.2.2 z.toNat ends)).1)))->Q (.ref q) H')/\(¬fW x.2.1 z ends->∀H',Wd K c cD H' m r a l (i+2) f->E (.ref cR) none H')
theorem CN:bR ["machine","reader","start","ends","found"] ["machine","reader"] (aU Iv):=⟨rfl,rfl,rfl,by decide +kernel,rfl,by decide +kernel,by decide +kernel⟩
theorem ahk{M:Machine}{l:List WM}(B:aQ M l){st ends:Nat}(hst:st<M.q):
  ((∀y,y∈(numbered (WA.az M l) (d9 M l st ends)).1->y<(numbered (WA.az M l) (d9 M l st ends)).2)/\∃y,y∈(numbered (WA.az M l) (d9 M l st ends)).1/\y+1=(numbered (WA.az M l) (d9 M l st ends)).2)/\(numbered (WA.az M l) (d9 M l st ends)).1.length=l.length:=by
 have c:=WA.Hi (WA.az M l) (d9 M l st ends);rw[WA.cU] at c;have c:=c (fun a ha=>(WA.pO B ha ha).mpr fun x y _ _=>rfl) (fun a b ha hb h=>(WA.pO B hb ha).mpr fun x y hx hy=>((WA.pO B ha hb).mp h x y hx hy).symm)
  (fun a b d ha hb hd h1 h2=>(WA.pO B ha hd).mpr fun x y hx hy=>((WA.pO B ha hb).mp h1 x y hx hy).trans ((WA.pO B hb hd).mp h2 x y hx hy))
 exact⟨vQ c B.pos,c.len⟩
theorem ahl{f fT fA fH c cD cR cM:Addr}{fd jO yC ql:FuncData}(F:aY K "says" "says" Iv f fd)(T:TA K c)(TD:TR K cD)(X:Txt K mg cR cM)(GT:dC P w K mg base aZ cD "take" 1 fT jO ["self"] (rn K cD))
  (GA:bG P w K mg base (aX P w) "alike_classes" 4 fA yC ["algebra","start","ends"] (Vf c cR)) (GH:bG P w K mg base aZ "how_many" 1 fH ql ["classes"] (ym K)):aJ P w K mg base (aX P w) 5 f fd ["machine","reader"] (Vv K c cD cR):=by
 refine F.eE CN (fun vs H Q E h=>?_) (fun cdv A outer s H vs Q E hr h=>?_)
 ·obtain⟨m,r,a,l,i,f,o,x,z,ends,rfl,_⟩:=h;rfl
 ·obtain⟨m,r,a,l,i,f,o,x,z,ends,rfl,W,ho,hx,hy,hz,he,ky,kn⟩:=h;have hr1:bQ 1 _:=hr.mono (by decide);refine⟨_,aD (bf (i:=2) CN.nd rfl (atV rfl) (gj (pv 1) TD.cl GT.m GT.ok hr1 GT.b .nil bA))
   (aD (bf (i:=3) CN.nd rfl (atV rfl) (gj (pv 1) TD.cl GT.m GT.ok hr1 GT.b .nil bA))
   (aD (bf (i:=4) CN.nd rfl (atV rfl) (cu GA.ok hr rfl GA.m GA.kp GA.b .nil cG (aj (pv 0) (aj (pv 2) (aj (pv 3) aA)))))
   (aH (bz (iC qL (dD (aj (cu GH.ok hr1 rfl GH.m GH.kp GH.b .nil bA (aj (pv 4) aA)) aA)) (pv 4)))))),?_⟩
  obtain⟨dx,h0⟩:=W.rd.at_;refine⟨_,rfl,r,dx,_,rfl,h0,rfl,r,dx,a,i,l,z,rfl,h0,W.rd.sq,hy,?_⟩;have W1:=W.went h0 (i+1);have h1:(upd H r (.ins cD dx (rf a (i+1:Nat)))) r=some (.ins cD dx (rf a (i+1:Nat))):=aC;generalize upd H r (.ins cD dx (rf a (i+1:Nat)))=H1 at W1 h1⊢;refine⟨_,rfl,r,dx,_,rfl,h1,rfl,r,dx,a,i+1,l,_,rfl,h1,W1.rd.sq,hz,?_⟩;have W2:=W1.went h1 (i+2);generalize upd H1 r (.ins cD dx (rf a (i+1+1:Nat)))=H2 at W2⊢;have M2:=W2.two.aW o x ho hx;have BB:=M2.aM.begun;have hn:=M2.aM.most;refine⟨_,rfl,_,rfl,_,rfl,All,x.1,x.2.1,x.2.2,z,ends,rfl,M2.aM,he,fun pl H3 b hb ob s3=>?_,fun hn H3 s3=>kn hn H3 (W2.same s3)⟩;obtain⟨⟨c1,c2⟩,cl⟩:=ahk (ends:=ends) BB (show z.toNat<x.2.1.q by have:=pl.1;have:=pl.2.1;omega);refine⟨_,rfl,b,_,_,rfl,ak.of ob,c1,c2,by show 1<=sizeLine;decide,fun t ht=>?_⟩;have s4:Same H3 (upd H3 t (.lst [nv (numbered (WA.az x.2.1 x.2.2) (d9 x.2.1 x.2.2 z.toNat ends)).2])):=Same.laid ht;refine⟨_,rfl,t,b,_,_,rfl,rfl,aC,s4 _ _ ob,by rw[atR,cl];exact small (by show 1+x.2.2.length<=1000000;omega),fun q hq=>?_⟩;exact ky pl _ q (W2.same (Same.trans s3 (Same.trans s4 (Same.laid hq)))) aC
def Vw(K:atQ)(c cD cR:Addr):Sp:=fun vs H Q E=>∃(m r a:Addr)(l:List Int)(i:Nat)(f:Nat->Mo)(o:Nat)(x:Lay×Machine×List WM)(z:Int)(ends:Nat),vs=[.ref x.1.p,.ref r]/\Wd K c cD H m r a l i f/\o<2/\f o=some x/\l[i]?=some z/\l[i+1]?=some (ends:Int)/\ends<2^32/\
 (fW x.2.1 z ends->∀(H':Hp)(q:Addr),Wd K c cD H' m r a l (i+2) f->H' q=some (.lst [.int (if stillB (WA.az x.2.1 x.2.2) (d9 x.2.1 x.2.2 z.toNat ends)=true then 1 else 0)])->Q (.ref q) H')/\(¬fW x.2.1 z ends->∀H',Wd K c cD H' m r a l (i+2) f->E (.ref cR) none H')
theorem Ks:bR ["machine","reader","start","ends"] ["machine","reader"] (aU Iw):=⟨rfl,rfl,rfl,by decide +kernel,rfl,by decide +kernel,by decide +kernel⟩
theorem ahm{f fT fA c cD cR cM:Addr}{fd jO yC:FuncData}(F:aY K "free" "free" Iw f fd)(T:TA K c)(TD:TR K cD)(X:Txt K mg cR cM)(GT:dC P w K mg base aZ cD "take" 1 fT jO ["self"] (rn K cD))
  (GA:bG P w K mg base (aX P w) "is_free" 5 fA yC ["algebra","start","ends"] (Vl c cR)):aJ P w K mg base (aX P w) 6 f fd ["machine","reader"] (Vw K c cD cR):=by
 refine F.eE Ks (fun vs H Q E h=>?_) (fun cdv A outer s H vs Q E hr h=>?_)
 ·obtain⟨m,r,a,l,i,f,o,x,z,ends,rfl,_⟩:=h;rfl
 ·obtain⟨m,r,a,l,i,f,o,x,z,ends,rfl,W,ho,hx,hy,hz,he,ky,kn⟩:=h;have hr1:bQ 1 _:=hr.mono (by decide);refine⟨_,aD (bf (i:=2) Ks.nd rfl (atV rfl) (gj (pv 1) TD.cl GT.m GT.ok hr1 GT.b .nil bA))
   (aD (bf (i:=3) Ks.nd rfl (atV rfl) (gj (pv 1) TD.cl GT.m GT.ok hr1 GT.b .nil bA))
   (aH (bz (dD (aj (cu GA.ok hr rfl GA.m GA.kp GA.b .nil cG (aj (pv 0) (aj (pv 2) (aj (pv 3) aA)))) aA))))),?_⟩
  obtain⟨dx,h0⟩:=W.rd.at_;refine⟨_,rfl,r,dx,_,rfl,h0,rfl,r,dx,a,i,l,z,rfl,h0,W.rd.sq,hy,?_⟩;have W1:=W.went h0 (i+1);have h1:(upd H r (.ins cD dx (rf a (i+1:Nat)))) r=some (.ins cD dx (rf a (i+1:Nat))):=aC;generalize upd H r (.ins cD dx (rf a (i+1:Nat)))=H1 at W1 h1⊢;refine⟨_,rfl,r,dx,_,rfl,h1,rfl,r,dx,a,i+1,l,_,rfl,h1,W1.rd.sq,hz,?_⟩;have W2:=W1.went h1 (i+2);generalize upd H1 r (.ins cD dx (rf a (i+1+1:Nat)))=H2 at W2⊢;have M2:=W2.two.aW o x ho hx;refine⟨_,rfl,_,rfl,_,rfl,x.1,x.2.1,x.2.2,z,ends,rfl,M2,he,fun pl H3 A3 s3=>?_,fun hn H3 s3=>kn hn H3 (W2.same s3)⟩;have W3:=W2.found ho hx A3 s3;exact⟨by show 1<=sizeLine;decide,fun q hq=>ky pl _ q (W3.same (Same.laid hq)) aC⟩
end
open WA (jz aW)
section
variable{P:Program}{w:World}{K:atQ}{mg:Str->Option Value}{base:Heap}
def Ku(o:Nat)(x:Lay×Machine×List WM)(f:Nat->Mo):Nat->Mo:=fun j=>if j=o then some x else f j
theorem ahn{o:Nat}(ho:o<2){f:Nat->Mo}{v:V}(X:Mo)(hX:v=gw X):([gw (f 0),gw (f 1)]:List V).set o v=[gw (if o=0 then X else f 0),gw (if o=1 then X else f 1)]:=by
 subst hX
 match o,ho with
 |0,_=>rfl
 |1,_=>rfl
def Vx(K:atQ)(c cD cR cM:Addr):Sp:=fun vs H Q E=>∃(m r a:Addr)(l:List Int)(i n:Nat)(f:Nat->Mo)(o:Nat)(q k:Int)(row:List Int),vs=[.ref m,.int (o:Int),.ref r]/\Wd K c cD H m r a l i f/\o<2/\l[i]?=some q/\l[i+1]?=some k/\l[i+2]?=some (n:Int)/\row=(l.drop (i+3)).take n/\i+3+n<=l.length/\l.length<=30000/\
 (jz q k->row.length=q.toNat*k.toNat)/\(∀z,z∈row->0<=z/\z<256)/\
 (¬pW q k row->∀H',Wd K c cD H' m r a l (i+3+n) f->E (.ref cR) none H')/\
 (pW q k row->4096<(elements (aW q k row)).length->∀H',Wd K c cD H' m r a l (i+3+n) f->E (.ref cM) none H')/\
 (pW q k row->(elements (aW q k row)).length<=4096->∀(H':Hp)(L:Lay)(t:Addr),Wd K c cD H' m r a l (i+3+n) (Ku o (L,aW q k row,elements (aW q k row)) f)->H' t=some (.lst [.int 0])->Q (.ref t) H')
theorem CP:bR ["machines","o","reader","q","k","step"] ["machines","o","reader"] (aU Io):=⟨rfl,rfl,rfl,by decide +kernel,rfl,by decide +kernel,by decide +kernel⟩
theorem aho{f fT fR fI c cD cR cM:Addr}{fd jO fdR gq:FuncData}(F:aY K "begin" "begin" Io f fd)(TD:TR K cD)(X:Txt K mg cR cM)(GT:dC P w K mg base aZ cD "take" 1 fT jO ["self"] (rn K cD))(GR:dC P w K mg base aZ cD "take_row" 2 fR fdR ["self"] (Jc K cD))
  (mA:mg "Algebra"=some (.ref c)) (MK:Mk K c fI) (GI:aJ P w K mg base (aX P w) 3 fI gq ["self","q","k","step"] (Sw K c cR cM)) (bI:Binds K gq ["self","q","k","step"] []):aJ P w K mg base (aX P w) 5 f fd ["machines","o","reader"] (Vx K c cD cR cM):=by
 refine F.eE CP (fun vs H Q E h=>?_) (fun cdv A outer s H vs Q E hr h=>?_)
 ·obtain⟨m,r,a,l,i,n,f,o,q,k,row,rfl,_⟩:=h;rfl
 ·obtain⟨m,r,a,l,i,n,f,o,q,k,row,rfl,W,ho,h1,h2,h3,ahq,hln,hl,hrow,qu,kn,km,ky⟩:=h;have hr1:bQ 1 _:=hr.mono (by decide);have hr2:bQ 2 _:=hr.mono (by decide);refine⟨_,aD (bf (i:=3) CP.nd rfl (atV rfl) (gj (pv 2) TD.cl GT.m GT.ok hr1 GT.b .nil bA))
   (aD (bf (i:=4) CP.nd rfl (atV rfl) (gj (pv 2) TD.cl GT.m GT.ok hr1 GT.b .nil bA))
   (aD (bf (i:=5) CP.nd rfl (atV rfl) (gj (pv 2) TD.cl GR.m GR.ok hr2 GR.b .nil bA))
   (aD (wA (wG MK GI hr rfl mA bI .nil cG (aj (pv 3) (aj (pv 4) (aj (pv 5) aA)))) (wz (pv 0) (pv 1) wH))
   (aH (bz (dD (aj bW aA))))))),?_⟩
  obtain⟨dx,h0⟩:=W.rd.at_;refine⟨_,rfl,r,dx,_,rfl,h0,rfl,r,dx,a,i,l,q,rfl,h0,W.rd.sq,h1,?_⟩;have W1:=W.went h0 (i+1);have g1:(upd H r (.ins cD dx (rf a (i+1:Nat)))) r=some (.ins cD dx (rf a (i+1:Nat))):=aC;generalize upd H r (.ins cD dx (rf a (i+1:Nat)))=H1 at W1 g1⊢;refine⟨_,rfl,r,dx,_,rfl,g1,rfl,r,dx,a,i+1,l,k,rfl,g1,W1.rd.sq,h2,?_⟩;have W2:=W1.went g1 (i+2);have g2:(upd H1 r (.ins cD dx (rf a (i+1+1:Nat)))) r=some (.ins cD dx (rf a (i+2:Nat))):=aC;generalize upd H1 r (.ins cD dx (rf a (i+1+1:Nat)))=H2 at W2 g2⊢;refine⟨_,rfl,r,dx,_,rfl,g2,rfl,r,dx,a,i+2,n,l,rfl,g2,W2.rd.sq,h3,by omega,by omega,fun b hb=>?_⟩;have W3:=W2.went g2 (i+2+1+n);have hbr:b≠r:=(aV g2 hb).symm;have hb3:(upd H2 r (.ins cD dx (rf a (i+2+1+n:Nat)))) b=none:=by rw[au hbr];exact hb
  have o4:(upd (upd H2 r (.ins cD dx (rf a (i+2+1+n:Nat)))) b (.lst (((l.drop (i+2+1)).take n).map V.int))) b=some (.lst (row.map V.int)):=by rw[aC,ahq]
  have W4:=W3.same (Same.laid (o:=.lst (((l.drop (i+2+1)).take n).map V.int)) hb3);generalize upd (upd H2 r (.ins cD dx (rf a (i+2+1+n:Nat)))) b (.lst (((l.drop (i+2+1)).take n).map V.int))=H4 at W4 o4⊢;have ei:i+2+1+n=i+3+n:=by omega
  rw[ei] at W4;refine⟨_,rfl,_,rfl,_,rfl,fun x Kv nx ndx ne=>?_⟩;have s5:Same H4 (upd (upd H4 Kv (.own x)) x (.ins c Kv [])):=fun b o e=>by rw[au (aV e nx),au (aV e ndx)];exact e
  refine⟨fun b=>H4 b=none,x,Kv,b,q,k,row,rfl,aC,ak.of (s5 _ _ o4),hrow,qu,fun b hb=>Same.free s5 hb,nx,fun hn=>kn hn _ (W4.same s5),fun hm hg H' out=>km hm hg H' (W4.same fun b o e=>out.1 b o (fun z=>by rw[z] at e;cases e) (s5 _ _ e)),fun hm hg H' L hLp A' out hK hf=>⟨rfl,?_⟩⟩;have s6:Same H4 H':=fun b o e=>out.1 b o (fun z=>by rw[z] at e;cases e) (s5 _ _ e)
  have Mn:di c H' L (aW q k row) (elements (aW q k row)):=⟨A'.mono fun _ _ _ _=>True.intro,[],hK,by simp,fun k hk=>by simp at hk,fun x v hv=>by cases hv⟩;have W5:=W4.begun (x:=(L,aW q k row,elements (aW q k row))) ho s6 Mn (Same.free s5 hf);have am:=(W4.same s6).two.at_;refine⟨_,rfl,_,rfl,m,_,(o:Int),o,rfl,rfl,am,yd ho,by show 1<=sizeLine;decide,fun t ht=>?_⟩;rw[ahn ho (some (L,aW q k row,elements (aW q k row))) (show V.ref x=V.ref L.p by rw[hLp])] at ht⊢;exact ky hm hg _ L t (W5.same (Same.laid ht)) aC
end
open WA (Form)
open Si08Neutral (step get asked1 natsOf)
structure Vy(mg:Str->Option Value):Prop where
 c0:∃t,mg "BEGIN"=some (.int 0 t)
 c1:∃t,mg "SIZE"=some (.int 1 t)
 c2:∃t,mg "OF"=some (.int 2 t)
 c3:∃t,mg "WORD"=some (.int 3 t)
 c4:∃t,mg "PRODUCT"=some (.int 4 t)
 c5:∃t,mg "POWER"=some (.int 5 t)
 c6:∃t,mg "CLASSES"=some (.int 6 t)
 c7:∃t,mg "KIND"=some (.int 7 t)
 c8:∃t,mg "IDEAL"=some (.int 8 t)
 c9:∃t,mg "ZERO"=some (.int 9 t)
 c10:∃t,mg "SAYS"=some (.int 10 t)
 c11:∃t,mg "FREE"=some (.int 11 t)
theorem bw{a b:Int}(h:¬a=b):decide (V.int a=V.int b)=false:=decide_eq_false fun q=>h (V.int.inj q)
theorem kW(a:Int):decide (V.int a=V.int a)=true:=decide_eq_true rfl
theorem yD(l:List Nat):(Si08Neutral.ints l).map V.int=aq l:=by rw[kj];rfl
def qw(s:auJ)(f:Nat->Mo):Prop:=∀j:Nat,j<2->get s (j:Int)=moG (f j)
theorem mU{o:Int}(h:auQ o 1=true):∃n:Nat,n<2/\o=(n:Int):=by
 rcases WA.Rb h with rfl|rfl
 ·exact⟨0,by omega,rfl⟩
 ·exact⟨1,by omega,rfl⟩
theorem mV{o:Nat}(ho:o<2)(f:Nat->Mo):([gw (f 0),gw (f 1)]:List V)[o]?=some (gw (f o)):=by
 match o,ho with
 |0,_=>rfl
 |1,_=>rfl
theorem mX{s:auJ}{f:Nat->Mo}{o:Nat}(h:qw s f)(ho:o<2)(hs:(get s (o:Int)).isSome=true):∃x,f o=some x/\get s (o:Int)=some (WA.az x.2.1 x.2.2):=by
 have e:=h o ho;cases q:f o with
 |none=>rw[e,q] at hs;cases hs
 |some x=>exact⟨x,rfl,by rw[e,q];rfl⟩
theorem ahu{s:auJ}{f:Nat->Mo}{o:Nat}(h:qw s f)(ho:o<2)(x:Lay×Machine×List WM):qw (au2 s (o:Int) (some (WA.az x.2.1 x.2.2))) (Ku o x f):=fun j hj=>by
 have b:∀n:Nat,n<2->(n:Int)=0\/(n:Int)=1:=fun n hn=>by omega
 unfold Ku;by_cases e:j=o
 ·rw[if_pos e,e,WA.acN (b o ho)];rfl
 ·rw[if_neg e,WA.acO (b o ho) (b j hj) (by omega)];exact h j hj
section
variable{P:Program}{w:World}{K:atQ}{mg:Str->Option Value}{base:Heap}
def Vz(K:atQ)(c cD cR cM:Addr):Sp:=fun vs H Q E=>∃(m r a:Addr)(l:List Int)(i:Nat)(f:Nat->Mo)(s:auJ)(p:Int)(rest:List Int)(cc:List (List Int))(t:List Int),vs=[.ref m,.ref r]/\Wd K c cD H m r a l i f/\l.length<=30000/\l.drop i=p::rest/\Form p rest cc t/\
 asked1 (auj cc)=true/\(axG (auj cc)=0\/(get s (awW (auj cc))).isSome=true)/\qw s f/\
 (∀(H':Hp)(q:Addr)(f':Nat->Mo)(i':Nat),Wd K c cD H' m r a l i' f'->l.drop i'=t->qw (step s (auj cc)).1 f'->H' q=some (.lst ((step s (auj cc)).2.map V.int))->Q (.ref q) H')/\
 (∀(H':Hp)(i':Nat),Wd K c cD H' m r a l i' f->l.drop i'=t->step s (auj cc)=(s,[-2])->E (.ref cR) none H')/\
 (∀(H':Hp)(i':Nat),Wd K c cD H' m r a l i' f->l.drop i'=t->step s (auj cc)=(s,[-1])->E (.ref cM) none H')
theorem CQ:bR ["machines","reader","call","o","machine"] ["machines","reader"] (aU Iz):=⟨rfl,rfl,rfl,by decide +kernel,rfl,by decide +kernel,by decide +kernel⟩
structure Calls(P:Program)(w:World)(K:atQ)(mg:Str->Option Value)(base:Heap)(c cD cR cM:Addr)(k:Nat):Prop where
 tk:∃f fd,dC P w K mg base aZ cD "take" 1 f fd ["self"] (rn K cD)
 tr:∃f fd,dC P w K mg base aZ cD "take_row" 2 f fd ["self"] (Jc K cD)
 bg:∃f fd,bG P w K mg base (aX P w) "begin" 5 f fd ["machines","o","reader"] (Vx K c cD cR cM)
 sz:∃f fd,dC P w K mg base aZ c "size" 1 f fd ["self"] (Bt c)
 of:∃f fd,dC P w K mg base (aX P w) c "of" 1 f fd ["self","word"] (SQ K c cR)
 wd:∃f fd,dC P w K mg base (aX P w) c "word" 2 f fd ["self","e"] (SX c cR)
 pd:∃f fd,bG P w K mg base (aX P w) "product" 3 f fd ["machine","reader"] (Vq K c cD cR)
 pw:∃f fd,dC P w K mg base (aX P w) c "power" 3 f fd ["self","e"] (S8 c cR)
 cl:∃f fd,bG P w K mg base (aX P w) "classes" (k+2) f fd ["machine","reader"] (Vr K c cD cR)
 kd:∃f fd,bG P w K mg base (aX P w) "kind_of" (k+5) f fd ["algebra"] (Vp c)
 id:∃f fd,bG P w K mg base aZ "ideal" 2 f fd ["machine"] (Vt c)
 zr:∃f fd,bG P w K mg base aZ "zero_of" 2 f fd ["algebra"] (U9 c)
 sy:∃f fd,bG P w K mg base (aX P w) "says" 5 f fd ["machine","reader"] (Vv K c cD cR)
 fr:∃f fd,bG P w K mg base (aX P w) "free" 6 f fd ["machine","reader"] (Vw K c cD cR)
theorem ahv{f c cD cR cM:Addr}{fd:FuncData}{k:Nat}(F:aY K "carry_out" "carry_out" Iz f fd)(T:TA K c)(TD:TR K cD)(X:Txt K mg cR cM)(XM:Vy mg)(hk:8<=k)(CA:Calls P w K mg base c cD cR cM k):aJ P w K mg base (aX P w) (k+6) f fd ["machines","reader"] (Vz K c cD cR cM):=by
 obtain⟨t0,n0⟩:=XM.c0;obtain⟨t1,n1⟩:=XM.c1;obtain⟨t2,n2⟩:=XM.c2;obtain⟨t3,n3⟩:=XM.c3;obtain⟨t4,n4⟩:=XM.c4;obtain⟨t5,n5⟩:=XM.c5;obtain⟨t6,n6⟩:=XM.c6;obtain⟨t7,n7⟩:=XM.c7;obtain⟨t8,n8⟩:=XM.c8;obtain⟨t9,n9⟩:=XM.c9;obtain⟨t10,n10⟩:=XM.c10;obtain⟨t11,n11⟩:=XM.c11;obtain⟨am2,am3,kY⟩:=CA.tk;obtain⟨am4,am5,Kw⟩:=CA.tr;obtain⟨am6,am7,CT⟩:=CA.bg;obtain⟨am8,am9,Ky⟩:=CA.sz;obtain⟨ana,anb,Kz⟩:=CA.of;obtain⟨anc,ane,KC⟩:=CA.wd;obtain⟨anf,ang,CV⟩:=CA.pd;obtain⟨anh,ani,KD⟩:=CA.pw;obtain⟨anj,ank,CW⟩:=CA.cl;obtain⟨anl,anm,CZ⟩:=CA.kd;obtain⟨ano,anp,Dd⟩:=CA.id;obtain⟨anq,anr,De⟩:=CA.zr;obtain⟨ant,anu,Dg⟩:=CA.sy;obtain⟨anv,anw,Dh⟩:=CA.fr;refine F.eE CQ (fun vs H Q E h=>?_) (fun cdv A outer s H vs Q E hr h=>?_)
 ·obtain⟨m,r,a,l,i,f,s,p,rest,cc,t,rfl,_⟩:=h;rfl
 ·obtain⟨m,r,a,l,i,f,s,p,rest,cc,t,rfl,W,hl,hd,hF,fU,hop,hfit,kq,kR,kM⟩:=h;have hr1:bQ 1 _:=hr.mono (by omega);have hr2:bQ 2 _:=hr.mono (by omega);have CG:bQ 3 _:=hr.mono (by omega);have VB:bQ 5 _:=hr.mono (by omega);have hr6:bQ 6 _:=hr.mono (by omega);have hrc:bQ (k+2) _:=hr.mono (by omega);refine⟨_,aD (bf (i:=2) CQ.nd rfl (atV rfl) (gj (pv 1) TD.cl kY.m kY.ok hr1 kY.b .nil bA))
   (aD (bf (i:=3) CQ.nd rfl (atV rfl) (gj (pv 1) TD.cl kY.m kY.ok hr1 kY.b .nil bA))
   (aD (cZ (cF dR (pv 2) (dz (v:=.int 0) rfl n0 ⟨_,rfl⟩) (bY _)) (aH (bz (cu CT.ok VB rfl CT.m CT.kp CT.b .nil cG (aj (pv 0) (aj (pv 3) (aj (pv 1) aA)))))) dm)
   (aD (bf (i:=4) CQ.nd rfl (atV rfl) (dN eF (pv 0) (pv 3) (fun _ _=>rfl)))
   (aD (cZ (cF dR (pv 2) (dz (v:=.int 1) rfl n1 ⟨_,rfl⟩) (bY _)) (aH (bz (dD (aj (gj (pv 4) T.cl Ky.m Ky.ok hr1 Ky.b .nil bA) aA)))) dm)
   (aD (cZ (cF dR (pv 2) (dz (v:=.int 2) rfl n2 ⟨_,rfl⟩) (bY _)) (aH (bz (dD (aj (dZ (pv 4) T.cl Kz.m Kz.ok hr1 Kz.b .nil cG (aj (gj (pv 1) TD.cl Kw.m Kw.ok hr2 Kw.b .nil bA) aA)) aA)))) dm)
   (aD (cZ (cF dR (pv 2) (dz (v:=.int 3) rfl n3 ⟨_,rfl⟩) (bY _)) (aH (bz (iC qL (dD (aj bW aA)) (dZ (pv 4) T.cl KC.m KC.ok hr2 KC.b .nil cG (aj (gj (pv 1) TD.cl kY.m kY.ok hr1 kY.b .nil bA) aA))))) dm)
   (aD (cZ (cF dR (pv 2) (dz (v:=.int 4) rfl n4 ⟨_,rfl⟩) (bY _)) (aH (bz (cu CV.ok CG rfl CV.m CV.kp CV.b .nil cG (aj (pv 4) (aj (pv 1) aA))))) dm)
   (aD (cZ (cF dR (pv 2) (dz (v:=.int 5) rfl n5 ⟨_,rfl⟩) (bY _)) (aH (bz (iC qL (dD (aj bW aA)) (dZ (pv 4) T.cl KD.m KD.ok CG KD.b .nil cG (aj (gj (pv 1) TD.cl kY.m kY.ok hr1 kY.b .nil bA) aA))))) dm)
   (aD (cZ (cF dR (pv 2) (dz (v:=.int 6) rfl n6 ⟨_,rfl⟩) (bY _)) (aH (bz (cu CW.ok hrc rfl CW.m CW.kp CW.b .nil cG (aj (pv 4) (aj (pv 1) aA))))) dm)
   (aD (cZ (cF dR (pv 2) (dz (v:=.int 7) rfl n7 ⟨_,rfl⟩) (bY _)) (aH (bz (dD (aj (cu CZ.ok hr rfl CZ.m CZ.kp CZ.b .nil cG (aj (pv 4) aA)) aA)))) dm)
   (aD (cZ (cF dR (pv 2) (dz (v:=.int 8) rfl n8 ⟨_,rfl⟩) (bY _)) (aH (bz (cu Dd.ok hr2 rfl Dd.m Dd.kp Dd.b .nil bA (aj (pv 4) aA)))) dm)
   (aD (cZ (cF dR (pv 2) (dz (v:=.int 9) rfl n9 ⟨_,rfl⟩) (bY _)) (aH (bz (dD (aj (cu De.ok hr2 rfl De.m De.kp De.b .nil bA (aj (pv 4) aA)) aA)))) dm)
   (aD (cZ (cF dR (pv 2) (dz (v:=.int 10) rfl n10 ⟨_,rfl⟩) (bY _)) (aH (bz (cu Dg.ok VB rfl Dg.m Dg.kp Dg.b .nil cG (aj (pv 4) (aj (pv 1) aA))))) dm)
   (aD (cZ (cF dR (pv 2) (dz (v:=.int 11) rfl n11 ⟨_,rfl⟩) (bY _)) (aH (bz (cu Dh.ok hr6 rfl Dh.m Dh.kp Dh.b .nil cG (aj (pv 4) (aj (pv 1) aA))))) dm)
   (aH MP))))))))))))))),?_⟩
  obtain⟨hp,hd1⟩:=jq hd;obtain⟨dx,g0⟩:=W.rd.at_;refine⟨_,rfl,r,dx,_,rfl,g0,rfl,r,dx,a,i,l,p,rfl,g0,W.rd.sq,hp,?_⟩;have W1:=W.went g0 (i+1);have g1:(upd H r (.ins cD dx (rf a (i+1:Nat)))) r=some (.ins cD dx (rf a (i+1:Nat))):=aC;generalize upd H r (.ins cD dx (rf a (i+1:Nat)))=H1 at W1 g1⊢;obtain⟨oo,VD,er⟩:∃oo VD,rest=oo::VD:=by cases hF<;>exact⟨_,_,rfl⟩
  rw[er] at hd1;obtain⟨hoo,hd2⟩:=jq hd1;refine⟨_,rfl,r,dx,_,rfl,g1,rfl,r,dx,a,i+1,l,oo,rfl,g1,W1.rd.sq,hoo,?_⟩;have W2:=W1.went g1 (i+2);have g2:(upd H1 r (.ins cD dx (rf a (i+1+1:Nat)))) r=some (.ins cD dx (rf a (i+2:Nat))):=aC;generalize upd H1 r (.ins cD dx (rf a (i+1+1:Nat)))=H2 at W2 g2⊢;cases hF with
  |f0 o q k n rest hn=>
   cases er;obtain⟨hbit,qu,_,_,hlen⟩:=WA.Hh fU;obtain⟨on,ho,rfl⟩:∃n:Nat,n<2/\oo=(n:Int):=by
    rcases hbit with rfl|rfl
    ·exact⟨0,by omega,rfl⟩
    ·exact⟨1,by omega,rfl⟩
   obtain⟨h1,eU⟩:=jq hd2;obtain⟨h2,oU⟩:=jq eU;obtain⟨h3,yE⟩:=jq oU;have yE:l.drop (i+2+3)=rest:=yE;have hlr:l.length- (i+2+3)=rest.length:=by rw[<-axh,yE]
   have hle:i+2+3<=l.length:=by have:=(at9.mp h3).1;omega
   have hdt:l.drop (i+2+3+n)=rest.drop n:=by rw[<-yE,axP]
   refine⟨_,rfl,rfl,_,rfl,jn (kW _) ?_⟩;refine⟨_,rfl,_,rfl,_,rfl,m,r,a,l,i+2,n,f,on,q,k,rest.take n,rfl,W2,ho,h1,h2,h3,by rw[yE],by omega,hl,hlen,qu,fun hno H3 W3=>?_,fun hm hbig H3 W3=>?_,fun hm hsm H3 L' t' W3 ot=>?_⟩
   ·refine kR H3 _ W3 hdt (WA.acP fU ?_);by_cases hr:jz q k
    ·refine .inr (avh fun hz=>hno ⟨hr,fun z ux=>?_⟩);apply avh;intro hge;exact hz ⟨z,ux,by omega⟩
    ·exact .inl hr
   ·refine kM H3 _ W3 hdt ?_;show step s [[0,(on:Int),q,k],rest.take n]=_;rw[WA.Rg fU hm.1 hm.2,if_pos (show MOST<(elements (aW q k (rest.take n))).length from hbig)]
   ·have e:step s [[0,(on:Int),q,k],rest.take n]=(au2 s (on:Int) (some (WA.az (aW q k (rest.take n)) (elements (aW q k (rest.take n))))),[0]):=by
     rw[WA.Rg fU hm.1 hm.2,if_neg (show¬MOST<(elements (aW q k (rest.take n))).length from Nat.not_lt.mpr hsm)]
    have e':step s (auj [[0,(on:Int),q,k],rest.take n])=(au2 s (on:Int) (some (WA.az (aW q k (rest.take n)) (elements (aW q k (rest.take n))))),[0]):=e;refine kq H3 t' _ _ W3 hdt ?_ ?_
    ·rw[e'];exact ahu hfit ho (L',aW q k (rest.take n),elements (aW q k (rest.take n)))
    ·rw[ot,e'];rfl
  |f1 o rest=>
   cases er;obtain⟨on,ho,rfl⟩:=mU (fU);obtain⟨x,hx,hg⟩:=mX hfit ho (hop.resolve_left (show¬(1:Nat)=0 by decide));have M:=W2.two.aW on x ho hx;refine⟨_,rfl,rfl,_,rfl,bu (bw (by decide)) ?_⟩;refine⟨_,rfl,_,rfl,m,_,_,_,rfl,rfl,ak.of W2.two.at_,cO (j:=on) rfl (by rw[mV ho,hx]),?_⟩;refine⟨_,rfl,rfl,_,rfl,jn (kW _) ?_⟩;have e:step s (auj [[1,(on:Int)]])=(s,[(x.2.2.length:Int)]):=WA.st1 hg;refine⟨_,rfl,x.1.p,x.1.dx,x.1.fs,rfl,M.aM.ins,Full.none M.aM "size" (by decide +kernel),All,x.1,x.2.1,x.2.2,rfl,M.aM,by show 1<=sizeLine;decide,fun q hq=>?_⟩;exact kq _ q f (i+2) (W2.same (Same.laid hq)) hd2 (by rw[e];exact hfit) (by rw[aC,e];rfl)
  |f2 o n rest hn=>
   cases er;obtain⟨on,ho,rfl⟩:=mU ((avw.mp fU).1);obtain⟨x,hx,hg⟩:=mX hfit ho (hop.resolve_left (show¬(2:Nat)=0 by decide));have M:=W2.two.aW on x ho hx;refine⟨_,rfl,rfl,_,rfl,bu (bw (by decide)) ?_⟩;refine⟨_,rfl,_,rfl,m,_,_,_,rfl,rfl,ak.of W2.two.at_,cO (j:=on) rfl (by rw[mV ho,hx]),?_⟩;refine⟨_,rfl,rfl,_,rfl,bu (bw (by decide)) ?_⟩;refine⟨_,rfl,rfl,_,rfl,jn (kW _) ?_⟩;obtain⟨h1,eU⟩:=jq hd2;have hlr:l.length- (i+3)=rest.length:=by rw[<-axh,eU]
   have hle:i+3<=l.length:=by have:=(at9.mp h1).1;omega
   have hdt:l.drop (i+2+1+n)=rest.drop n:=by rw[<-eU,axP]
   have hrl:(rest.take n).length=n:=by rw[auN];omega
   have rQ:(auQ (on:Int) 1&&(auQ ((rest.take n).length:Int) 32&&((rest.take n).all (fun(z:Int)=>auQ z 8)&&awX (rest.take n) ((rest.take n).length:Int) 0 65536)))=true:=fU;simp only[aup] at rQ;obtain⟨_,_,qu,KH⟩:=rQ;have qu:∀z,z∈rest.take n->0<=z:=fun z hz=>by
    have:=auy.mp qu z hz;unfold auQ at this;simp only[aup,decide_eq_true_eq] at this;exact this.1
   have KJ:(rest.take n).length<=65536:=by
    unfold awX at KH;simp only[decide_eq_true_eq] at KH
    split at KH<;>omega
   refine⟨_,rfl,x.1.p,x.1.dx,x.1.fs,rfl,M.aM.ins,Full.none M.aM "of" (by decide +kernel),_,rfl,r,dx,_,rfl,g2,rfl,r,dx,a,i+2,n,l,rfl,g2,W2.rd.sq,h1,by omega,by omega,fun b hb=>?_⟩;have W3:=W2.went g2 (i+2+1+n);have hbr:b≠r:=(aV g2 hb).symm;have hb3:(upd H2 r (.ins cD dx (rf a (i+2+1+n:Nat)))) b=none:=by rw[au hbr];exact hb
   have W4:=W3.same (Same.laid (o:=.lst (((l.drop (i+2+1)).take n).map V.int)) hb3);have o4:(upd (upd H2 r (.ins cD dx (rf a (i+2+1+n:Nat)))) b (.lst (((l.drop (i+2+1)).take n).map V.int))) b=some (.lst ((rest.take n).map V.int)):=by rw[aC,eU]
   generalize upd (upd H2 r (.ins cD dx (rf a (i+2+1+n:Nat)))) b (.lst (((l.drop (i+2+1)).take n).map V.int))=H4 at W4 o4⊢;have M4:=W4.two.aW on x ho hx;refine⟨All,x.1,x.2.1,x.2.2,b,rest.take n,rfl,M4.aM,ak.of o4,KJ,qu,fun hz=>?_,fun hz=>?_⟩
   ·have e:step s (auj [[2,(on:Int)],rest.take n])=(s,[(ix x.2.2 (WA.mapOf x.2.1 (natsOf (rest.take n))):Int)]):=WA.st2 hg KJ fun b hb=>by
     obtain⟨z,ux,rfl⟩:=at6.mp hb;have:=hz z ux;have:=qu z ux;omega
    refine⟨by show 1<=sizeLine;decide,fun q hq=>?_⟩;exact kq _ q f _ (W4.same (Same.laid hq)) hdt (by rw[e];exact hfit) (by rw[aC,e];rfl)
   ·refine kR H4 _ W4 hdt (WA.adR hg KJ ?_);obtain⟨z,ux,hge⟩:=hz;exact⟨z.toNat,at6.mpr ⟨z,ux,rfl⟩,by have:=qu z ux;omega⟩
  |f3 o e rest=>
   cases er;obtain⟨on,ho,rfl⟩:=mU ((avw.mp fU).1);obtain⟨x,hx,hg⟩:=mX hfit ho (hop.resolve_left (show¬(3:Nat)=0 by decide));have M:=W2.two.aW on x ho hx;refine⟨_,rfl,rfl,_,rfl,bu (bw (by decide)) ?_⟩;refine⟨_,rfl,_,rfl,m,_,_,_,rfl,rfl,ak.of W2.two.at_,cO (j:=on) rfl (by rw[mV ho,hx]),?_⟩;refine⟨_,rfl,rfl,_,rfl,bu (bw (by decide)) ?_⟩;refine⟨_,rfl,rfl,_,rfl,bu (bw (by decide)) ?_⟩;refine⟨_,rfl,rfl,_,rfl,jn (kW _) ?_⟩;obtain⟨h1,eU⟩:=jq hd2;refine⟨by show 1<=sizeLine;decide,fun t0 ht0=>?_⟩;have s3:Same H2 (upd H2 t0 (.lst [.int 0])):=Same.laid ht0;have o3:(upd H2 t0 (.lst [.int 0])) t0=some (.lst [.int 0]):=aC;have W3:=W2.same s3;have g3:=s3 _ _ g2;generalize upd H2 t0 (.lst [.int 0])=H3 at W3 g3 o3⊢;have M3:=W3.two.aW on x ho hx;refine⟨_,rfl,x.1.p,x.1.dx,x.1.fs,rfl,M3.aM.ins,Full.none M3.aM "word" (by decide +kernel),_,rfl,r,dx,_,rfl,g3,rfl,r,dx,a,i+2,l,e,rfl,g3,W3.rd.sq,h1,?_⟩;have W4:=W3.went g3 (i+3);have o4:(upd H3 r (.ins cD dx (rf a (i+2+1:Nat)))) t0=some (.lst [.int 0]):=by rw[au (bx o3 g3 (by intro q;cases q))];exact o3
   generalize upd H3 r (.ins cD dx (rf a (i+2+1:Nat)))=H4 at W4 o4⊢;have M4:=W4.two.aW on x ho hx;refine⟨All,x.1,x.2.1,x.2.2,e,rfl,M4.aM,fun hz H5 rr hrr orr s5=>?_,fun hz=>kR H4 _ W4 eU (WA.adS hg hz)⟩;have e':step s (auj [[3,(on:Int),e]])=(s,0::Si08Neutral.ints (wd x.2.2 e.toNat)):=WA.st3 hg hz;have hll:(aq (wd x.2.2 e.toNat)).length<=100000:=by rw[atR];have h7:=S5 M4.aM.begun e.toNat (by have:=hz.1;have:=hz.2;omega);have:=hz.1;have:=hz.2;have:=M4.aM.most;omega
   refine⟨t0,rr,_,_,rfl,rfl,s5 _ _ o4,orr,small (by show 1+(aq (wd x.2.2 e.toNat)).length<=1000000;omega),fun q hq=>?_⟩;exact kq _ q f _ (W4.same (Same.trans s5 (Same.laid hq))) eU (by rw[e'];exact hfit) (by rw[aC,e',auf,yD];rfl)
  |f4 o y z rest=>
   cases er;obtain⟨on,ho,rfl⟩:=mU ((avw.mp fU).1);obtain⟨x,hx,hg⟩:=mX hfit ho (hop.resolve_left (show¬(4:Nat)=0 by decide));have M:=W2.two.aW on x ho hx;refine⟨_,rfl,rfl,_,rfl,bu (bw (by decide)) ?_⟩;refine⟨_,rfl,_,rfl,m,_,_,_,rfl,rfl,ak.of W2.two.at_,cO (j:=on) rfl (by rw[mV ho,hx]),?_⟩;refine⟨_,rfl,rfl,_,rfl,bu (bw (by decide)) ?_⟩;refine⟨_,rfl,rfl,_,rfl,bu (bw (by decide)) ?_⟩;refine⟨_,rfl,rfl,_,rfl,bu (bw (by decide)) ?_⟩;refine⟨_,rfl,rfl,_,rfl,jn (kW _) ?_⟩;obtain⟨h1,eU⟩:=jq hd2;obtain⟨h2,oU⟩:=jq eU;refine⟨_,rfl,_,rfl,m,r,a,l,i+2,f,on,x,y,z,rfl,W2,ho,hx,h1,h2,fun a1 a2 H3 q W3 oq=>?_,fun hn H3 W3=>kR H3 _ W3 oU (WA.adT hg hn)⟩;have e:step s (auj [[4,(on:Int),y,z]])=(s,[(pr x.2.2 y.toNat z.toNat:Int)]):=WA.st4 hg a1 a2;exact kq _ q f _ W3 oU (by rw[e];exact hfit) (by rw[oq,e];rfl)
  |f5 o e rest=>
   cases er;obtain⟨on,ho,rfl⟩:=mU ((avw.mp fU).1);obtain⟨x,hx,hg⟩:=mX hfit ho (hop.resolve_left (show¬(5:Nat)=0 by decide));have M:=W2.two.aW on x ho hx;refine⟨_,rfl,rfl,_,rfl,bu (bw (by decide)) ?_⟩;refine⟨_,rfl,_,rfl,m,_,_,_,rfl,rfl,ak.of W2.two.at_,cO (j:=on) rfl (by rw[mV ho,hx]),?_⟩;refine⟨_,rfl,rfl,_,rfl,bu (bw (by decide)) ?_⟩;refine⟨_,rfl,rfl,_,rfl,bu (bw (by decide)) ?_⟩;refine⟨_,rfl,rfl,_,rfl,bu (bw (by decide)) ?_⟩;refine⟨_,rfl,rfl,_,rfl,bu (bw (by decide)) ?_⟩;refine⟨_,rfl,rfl,_,rfl,jn (kW _) ?_⟩;obtain⟨h1,eU⟩:=jq hd2;refine⟨by show 1<=sizeLine;decide,fun t0 ht0=>?_⟩;have s3:Same H2 (upd H2 t0 (.lst [.int 0])):=Same.laid ht0;have o3:(upd H2 t0 (.lst [.int 0])) t0=some (.lst [.int 0]):=aC;have W3:=W2.same s3;have g3:=s3 _ _ g2;generalize upd H2 t0 (.lst [.int 0])=H3 at W3 g3 o3⊢;have M3:=W3.two.aW on x ho hx;refine⟨_,rfl,x.1.p,x.1.dx,x.1.fs,rfl,M3.aM.ins,Full.none M3.aM "power" (by decide +kernel),_,rfl,r,dx,_,rfl,g3,rfl,r,dx,a,i+2,l,e,rfl,g3,W3.rd.sq,h1,?_⟩;have W4:=W3.went g3 (i+3);have o4:(upd H3 r (.ins cD dx (rf a (i+2+1:Nat)))) t0=some (.lst [.int 0]):=by rw[au (bx o3 g3 (by intro q;cases q))];exact o3
   generalize upd H3 r (.ins cD dx (rf a (i+2+1:Nat)))=H4 at W4 o4⊢;have M4:=W4.two.aW on x ho hx;refine⟨All,x.1,x.2.1,x.2.2,e,rfl,M4.aM,fun hz H5 rr hrr orr s5=>?_,fun hz=>kR H4 _ W4 eU (WA.adU hg hz)⟩;have e':step s (auj [[5,(on:Int),e]])=(s,0::Si08Neutral.ints (powerOf (WA.az x.2.1 x.2.2) e.toNat)):=WA.st5 hg hz;have hll:(aq (powerOf (WA.az x.2.1 x.2.2) e.toNat)).length<=100000:=by rw[atR];show 3<=100000;omega
   refine⟨t0,rr,_,_,rfl,rfl,s5 _ _ o4,orr,small (by show 1+(aq (powerOf (WA.az x.2.1 x.2.2) e.toNat)).length<=1000000;omega),fun q hq=>?_⟩;exact kq _ q f _ (W4.same (Same.trans s5 (Same.laid hq))) eU (by rw[e'];exact hfit) (by rw[aC,e',auf,yD];rfl)
  |f6 o z rest=>
   cases er;obtain⟨on,ho,rfl⟩:=mU ((avw.mp fU).1);obtain⟨x,hx,hg⟩:=mX hfit ho (hop.resolve_left (show¬(6:Nat)=0 by decide));have M:=W2.two.aW on x ho hx;refine⟨_,rfl,rfl,_,rfl,bu (bw (by decide)) ?_⟩;refine⟨_,rfl,_,rfl,m,_,_,_,rfl,rfl,ak.of W2.two.at_,cO (j:=on) rfl (by rw[mV ho,hx]),?_⟩;refine⟨_,rfl,rfl,_,rfl,bu (bw (by decide)) ?_⟩;refine⟨_,rfl,rfl,_,rfl,bu (bw (by decide)) ?_⟩;refine⟨_,rfl,rfl,_,rfl,bu (bw (by decide)) ?_⟩;refine⟨_,rfl,rfl,_,rfl,bu (bw (by decide)) ?_⟩;refine⟨_,rfl,rfl,_,rfl,bu (bw (by decide)) ?_⟩;refine⟨_,rfl,rfl,_,rfl,jn (kW _) ?_⟩;obtain⟨h1,eU⟩:=jq hd2;refine⟨_,rfl,_,rfl,m,r,a,l,i+2,f,on,x,z,rfl,W2,ho,hx,h1,fun hk H3 q W3 oq=>?_,fun hn H3 W3=>kR H3 _ W3 eU (WA.adW hg hn)⟩;have e:step s (auj [[6,(on:Int),z]])=(s,((aF x.2.1 x.2.2 z.toNat).2:Int)::Si08Neutral.ints (aF x.2.1 x.2.2 z.toNat).1):=WA.st6 hg hk;exact kq _ q f _ W3 eU (by rw[e];exact hfit) (by rw[oq,e,auf,yD];rfl)
  |f7 o rest=>
   cases er;obtain⟨on,ho,rfl⟩:=mU (fU);obtain⟨x,hx,hg⟩:=mX hfit ho (hop.resolve_left (show¬(7:Nat)=0 by decide));have M:=W2.two.aW on x ho hx;refine⟨_,rfl,rfl,_,rfl,bu (bw (by decide)) ?_⟩;refine⟨_,rfl,_,rfl,m,_,_,_,rfl,rfl,ak.of W2.two.at_,cO (j:=on) rfl (by rw[mV ho,hx]),?_⟩;refine⟨_,rfl,rfl,_,rfl,bu (bw (by decide)) ?_⟩;refine⟨_,rfl,rfl,_,rfl,bu (bw (by decide)) ?_⟩;refine⟨_,rfl,rfl,_,rfl,bu (bw (by decide)) ?_⟩;refine⟨_,rfl,rfl,_,rfl,bu (bw (by decide)) ?_⟩;refine⟨_,rfl,rfl,_,rfl,bu (bw (by decide)) ?_⟩;refine⟨_,rfl,rfl,_,rfl,bu (bw (by decide)) ?_⟩;refine⟨_,rfl,rfl,_,rfl,jn (kW _) ?_⟩;refine⟨_,rfl,x.1,x.2.1,x.2.2,rfl,M,fun H3 A3 s3=>⟨by show 1<=sizeLine;decide,fun q hq=>?_⟩⟩;have e:step s (auj [[7,(on:Int)]])=(s,[(nY x.2.1 x.2.2:Int)]):=WA.wN M.aM.begun hg;exact kq _ q f _ ((W2.found ho hx A3 s3).same (Same.laid hq)) hd2 (by rw[e];exact hfit) (by rw[aC,e];rfl)
  |f8 o rest=>
   cases er;obtain⟨on,ho,rfl⟩:=mU (fU);obtain⟨x,hx,hg⟩:=mX hfit ho (hop.resolve_left (show¬(8:Nat)=0 by decide));have M:=W2.two.aW on x ho hx;refine⟨_,rfl,rfl,_,rfl,bu (bw (by decide)) ?_⟩;refine⟨_,rfl,_,rfl,m,_,_,_,rfl,rfl,ak.of W2.two.at_,cO (j:=on) rfl (by rw[mV ho,hx]),?_⟩;refine⟨_,rfl,rfl,_,rfl,bu (bw (by decide)) ?_⟩;refine⟨_,rfl,rfl,_,rfl,bu (bw (by decide)) ?_⟩;refine⟨_,rfl,rfl,_,rfl,bu (bw (by decide)) ?_⟩;refine⟨_,rfl,rfl,_,rfl,bu (bw (by decide)) ?_⟩;refine⟨_,rfl,rfl,_,rfl,bu (bw (by decide)) ?_⟩;refine⟨_,rfl,rfl,_,rfl,bu (bw (by decide)) ?_⟩;refine⟨_,rfl,rfl,_,rfl,bu (bw (by decide)) ?_⟩;refine⟨_,rfl,rfl,_,rfl,jn (kW _) ?_⟩;refine⟨_,rfl,All,x.1,x.2.1,x.2.2,rfl,M.aM,fun H3 q s3 oq=>?_⟩;have e:step s (auj [[8,(on:Int)]])=(s,((dg x.2.1 x.2.2).sum:Int)::Si08Neutral.ints (dg x.2.1 x.2.2)):=WA.st8 hg;exact kq _ q f _ (W2.same s3) hd2 (by rw[e];exact hfit) (by rw[oq,e,auf,yD];rfl)
  |f9 o rest=>
   cases er;obtain⟨on,ho,rfl⟩:=mU (fU);obtain⟨x,hx,hg⟩:=mX hfit ho (hop.resolve_left (show¬(9:Nat)=0 by decide));have M:=W2.two.aW on x ho hx;refine⟨_,rfl,rfl,_,rfl,bu (bw (by decide)) ?_⟩;refine⟨_,rfl,_,rfl,m,_,_,_,rfl,rfl,ak.of W2.two.at_,cO (j:=on) rfl (by rw[mV ho,hx]),?_⟩;refine⟨_,rfl,rfl,_,rfl,bu (bw (by decide)) ?_⟩;refine⟨_,rfl,rfl,_,rfl,bu (bw (by decide)) ?_⟩;refine⟨_,rfl,rfl,_,rfl,bu (bw (by decide)) ?_⟩;refine⟨_,rfl,rfl,_,rfl,bu (bw (by decide)) ?_⟩;refine⟨_,rfl,rfl,_,rfl,bu (bw (by decide)) ?_⟩;refine⟨_,rfl,rfl,_,rfl,bu (bw (by decide)) ?_⟩;refine⟨_,rfl,rfl,_,rfl,bu (bw (by decide)) ?_⟩;refine⟨_,rfl,rfl,_,rfl,bu (bw (by decide)) ?_⟩;refine⟨_,rfl,rfl,_,rfl,jn (kW _) ?_⟩;refine⟨_,rfl,All,x.1,x.2.1,x.2.2,rfl,M.aM,fun H3 s3=>⟨by show 1<=sizeLine;decide,fun q hq=>?_⟩⟩;have e:step s (auj [[9,(on:Int)]])=(s,[pM x.2.1 x.2.2]):=WA.st9 M.aM.begun hg;exact kq _ q f _ (W2.same (Same.trans s3 (Same.laid hq))) hd2 (by rw[e];exact hfit) (by rw[aC,e];rfl)
  |Ra o z b rest=>
   cases er;obtain⟨on,ho,rfl⟩:=mU ((avw.mp fU).1);obtain⟨x,hx,hg⟩:=mX hfit ho (hop.resolve_left (show¬(10:Nat)=0 by decide));have M:=W2.two.aW on x ho hx;refine⟨_,rfl,rfl,_,rfl,bu (bw (by decide)) ?_⟩;refine⟨_,rfl,_,rfl,m,_,_,_,rfl,rfl,ak.of W2.two.at_,cO (j:=on) rfl (by rw[mV ho,hx]),?_⟩;refine⟨_,rfl,rfl,_,rfl,bu (bw (by decide)) ?_⟩;refine⟨_,rfl,rfl,_,rfl,bu (bw (by decide)) ?_⟩;refine⟨_,rfl,rfl,_,rfl,bu (bw (by decide)) ?_⟩;refine⟨_,rfl,rfl,_,rfl,bu (bw (by decide)) ?_⟩;refine⟨_,rfl,rfl,_,rfl,bu (bw (by decide)) ?_⟩;refine⟨_,rfl,rfl,_,rfl,bu (bw (by decide)) ?_⟩;refine⟨_,rfl,rfl,_,rfl,bu (bw (by decide)) ?_⟩;refine⟨_,rfl,rfl,_,rfl,bu (bw (by decide)) ?_⟩;refine⟨_,rfl,rfl,_,rfl,bu (bw (by decide)) ?_⟩;refine⟨_,rfl,rfl,_,rfl,jn (kW _) ?_⟩;obtain⟨h1,eU⟩:=jq hd2;obtain⟨h2,oU⟩:=jq eU;have rQ:(auQ (on:Int) 1&&(awm z&&auQ b 32))=true:=fU;simp only[aup] at rQ;have hb:=rQ.2.2;unfold auQ at hb;simp only[aup,decide_eq_true_eq] at hb;obtain⟨ends,rfl⟩:=avb hb.1;have he:ends<2^32:=by have:=hb.2;omega
   refine⟨_,rfl,_,rfl,m,r,a,l,i+2,f,on,x,z,ends,rfl,W2,ho,hx,h1,h2,he,fun pl H3 q W3 oq=>?_,fun hn H3 W3=>kR H3 _ W3 oU (WA.ad0 hg (e:=(ends:Int)) hn)⟩;have e:step s (auj [[10,(on:Int),z,(ends:Int)]])=(s,((numbered (WA.az x.2.1 x.2.2) (d9 x.2.1 x.2.2 z.toNat ends)).2:Int)::Si08Neutral.ints (numbered (WA.az x.2.1 x.2.2) (d9 x.2.1 x.2.2 z.toNat ends)).1):=WA.adZ hg (e:=(ends:Int)) pl;exact kq _ q f _ W3 oU (by rw[e];exact hfit) (by rw[oq,e,auf,yD];rfl)
  |f11 o z b rest=>
   cases er;obtain⟨on,ho,rfl⟩:=mU ((avw.mp fU).1);obtain⟨x,hx,hg⟩:=mX hfit ho (hop.resolve_left (show¬(11:Nat)=0 by decide));have M:=W2.two.aW on x ho hx;refine⟨_,rfl,rfl,_,rfl,bu (bw (by decide)) ?_⟩;refine⟨_,rfl,_,rfl,m,_,_,_,rfl,rfl,ak.of W2.two.at_,cO (j:=on) rfl (by rw[mV ho,hx]),?_⟩;refine⟨_,rfl,rfl,_,rfl,bu (bw (by decide)) ?_⟩;refine⟨_,rfl,rfl,_,rfl,bu (bw (by decide)) ?_⟩;refine⟨_,rfl,rfl,_,rfl,bu (bw (by decide)) ?_⟩;refine⟨_,rfl,rfl,_,rfl,bu (bw (by decide)) ?_⟩;refine⟨_,rfl,rfl,_,rfl,bu (bw (by decide)) ?_⟩;refine⟨_,rfl,rfl,_,rfl,bu (bw (by decide)) ?_⟩;refine⟨_,rfl,rfl,_,rfl,bu (bw (by decide)) ?_⟩;refine⟨_,rfl,rfl,_,rfl,bu (bw (by decide)) ?_⟩;refine⟨_,rfl,rfl,_,rfl,bu (bw (by decide)) ?_⟩;refine⟨_,rfl,rfl,_,rfl,bu (bw (by decide)) ?_⟩;refine⟨_,rfl,rfl,_,rfl,jn (kW _) ?_⟩;obtain⟨h1,eU⟩:=jq hd2;obtain⟨h2,oU⟩:=jq eU;have rQ:(auQ (on:Int) 1&&(awm z&&auQ b 32))=true:=fU;simp only[aup] at rQ;have hb:=rQ.2.2;unfold auQ at hb;simp only[aup,decide_eq_true_eq] at hb;obtain⟨ends,rfl⟩:=avb hb.1;have he:ends<2^32:=by have:=hb.2;omega
   refine⟨_,rfl,_,rfl,m,r,a,l,i+2,f,on,x,z,ends,rfl,W2,ho,hx,h1,h2,he,fun pl H3 q W3 oq=>?_,fun hn H3 W3=>kR H3 _ W3 oU (WA.ad2 hg (e:=(ends:Int)) hn)⟩;have e:step s (auj [[11,(on:Int),z,(ends:Int)]])=(s,[if stillB (WA.az x.2.1 x.2.2) (d9 x.2.1 x.2.2 z.toNat ends)=true then 1 else 0]):=WA.ad1 hg (e:=(ends:Int)) pl;exact kq _ q f _ W3 oU (by rw[e];exact hfit) (by rw[oq,e];rfl)
end
open WA (Rest One due)
section
variable{P:Program}{w:World}{K:atQ}{mg:Str->Option Value}{base:Heap}
structure VF(K:atQ)(cR cM:Addr):Prop where
 tE:avG K (.ref cR) (.ref cR)=some true
 Gg:avG K (.ref cM) (.ref cR)=some false
 Gh:avG K (.ref cM) (.ref cM)=some true
def VG(K:atQ)(c cD:Addr):Sp:=fun vs H Q _=>∃(m r a:Addr)(l:List Int)(i:Nat)(f:Nat->Mo)(s:auJ)(p:Int)(rest:List Int)(cc:List (List Int))(t:List Int),vs=[.ref m,.ref r]/\Wd K c cD H m r a l i f/\l.length<=30000/\l.drop i=p::rest/\Form p rest cc t/\
 asked1 (auj cc)=true/\(axG (auj cc)=0\/(get s (awW (auj cc))).isSome=true)/\qw s f/\
 ∀(H':Hp)(q:Addr)(f':Nat->Mo)(i':Nat),Wd K c cD H' m r a l i' f'->l.drop i'=t->qw (step s (auj cc)).1 f'->H' q=some (.lst ((step s (auj cc)).2.map V.int))->Q (.ref q) H'
theorem ahz:bR ["machines","reader"] ["machines","reader"] (aU IK):=⟨rfl,rfl,rfl,by decide +kernel,rfl,by decide +kernel,by decide +kernel⟩
theorem ahA{f fC c cD cR cM:Addr}{fd dX:FuncData}{k:Nat}(F:aY K "answer" "answer" IK f fd)(X:Txt K mg cR cM)(XE:VF K cR cM)(GC:bG P w K mg base (aX P w) "carry_out" k fC dX ["machines","reader"] (Vz K c cD cR cM)):aJ P w K mg base aZ (k+1) f fd ["machines","reader"] (VG K c cD):=by
 refine F.ok ahz (fun vs H Q E h=>?_) (fun cdv A outer s H vs Q E hr h=>?_)
 ·obtain⟨m,r,a,l,i,f,s,p,rest,cc,t,rfl,_⟩:=h;rfl
 ·obtain⟨m,r,a,l,i,f,s,p,rest,cc,t,rfl,W,hl,hd,hF,fU,hop,hfit,kq⟩:=h;refine⟨_,aH (aaO GC.ok hr rfl GC.m GC.kp GC.b rfl rfl (fun _=>aj (pv 0) (aj (pv 1) aA)) rfl X.mR rfl X.mM XE.tE XE.Gg XE.Gh
   (fun _=>aH (bz (dD (aj (uG uH bW) aA)))) (fun _=>aH (bz (dD (aj (uG uH bW) aA))))),?_⟩
  refine⟨_,rfl,_,rfl,m,r,a,l,i,f,s,p,rest,cc,t,rfl,W,hl,hd,hF,fU,hop,hfit,kq,fun H' i' W' hdt e=>.inl ⟨rfl,?_⟩,fun H' i' W' hdt e=>.inr ⟨rfl,?_⟩⟩
  ·refine⟨_,rfl,by show 1<=sizeLine;decide,fun q hq=>?_⟩;exact kq _ q f i' (W'.same (Same.laid hq)) hdt (by rw[e];exact hfit) (by rw[aC,e];rfl)
  ·refine⟨_,rfl,by show 1<=sizeLine;decide,fun q hq=>?_⟩;exact kq _ q f i' (W'.same (Same.laid hq)) hdt (by rw[e];exact hfit) (by rw[aC,e];rfl)
theorem Di{g b:Addr}{H:Hp}{o:HO}(h:iR g H b=some o):H b=some o:=by
 by_cases e:b=g
 ·rw[e,uw] at h;cases h
 ·rw[jU e] at h;exact h
theorem ahB{K:atQ}{g a:Addr}{H:Hp}{xs:List V}(h:ak K (iR g H) a xs):ak K H a xs:=by
 rcases h with(h|⟨o,h⟩)|h
 ·exact .inl (.inl (Di h))
 ·exact .inl (.inr ⟨o,Di h⟩)
 ·exact .inr h
theorem VH{n:Nat}(h:n<=2000000):n<sizeLine:=axI h (by decide)
def KN(K:atQ):Sp:=fun vs H Q _=>∃(a:Addr)(l:List Int),vs=[.ref a]/\ak K H a (l.map V.int)/\l.length<=30000/\axE l=true/\∀(H':Hp)(q:Addr),H' q=some (.lst ((awl l).map V.int))->Q (.ref q) H'
theorem yF:bR ["calls","machines","reader","given","told"] ["calls"] (aU IV):=⟨rfl,rfl,rfl,by decide +kernel,rfl,by decide +kernel,by decide +kernel⟩
theorem ahC{f fI fE fA c cD cR cM:Addr}{fd gq rJ yC:FuncData}{k:Nat}(F:aY K "answers" "answers" IV f fd)(X:Txt K mg cR cM)(TD:TR K cD)(mD:mg "Reader"=some (.ref cD))(MK:Mk K cD fI)
  (GI:aJ P w K mg base aZ 1 fI gq ["self","calls"] (RZ cD)) (bI:Binds K gq ["self","calls"] []) (GE:dC P w K mg base aZ cD "ended" 1 fE rJ ["self"] (R1 K cD))
  (GA:bG P w K mg base aZ "answer" (k+2) fA yC ["machines","reader"] (VG K c cD)):aJ P w K mg base aZ (k+3) f fd ["calls"] (KN K):=by
 have GH:=GA.ok.hid;refine F.ok yF (fun vs H Q E h=>?_) (fun cdv A outer s H vs Q E hr h=>?_)
 ·obtain⟨a,l,rfl,_⟩:=h;rfl
 ·obtain⟨a,l,rfl,ha,hl,fU,kq⟩:=h;have hr1:bQ 1 _:=hr.mono (by omega);have hr2:bQ 2 _:=hr.mono (by omega);refine⟨_,aD (bf (i:=1) yF.nd rfl (atV rfl) (dD (aj rZ (aj rZ aA))))
   (aD (bf (i:=2) yF.nd rfl (atV rfl) (wG MK GI hr2 rfl mD bI .nil bA (aj (pv 0) aA)))
   (aD (bf (i:=3) yF.nd rfl (atV rfl) (dD aA))
   (aD (qF PassesOwn.never (MN (yZ (gj (pv 2) TD.cl GE.m GE.ok hr1 GE.b .nil bA) (by intro _;rfl)))
    (aD (bf (i:=4) yF.nd rfl (atV rfl) (cu GH hr rfl GA.m GA.kp GA.b .nil bA (aj (pv 1) (aj (pv 2) aA))))
    (aD (dY (ju auB auW au4 jX (pv 3) (aj (dU jb rfl X.len auL (aj (pv 4) aA)) aA)))
    (aH (dY (ju auB ax5 PySem.F.type_list_extend Ze (pv 3) (aj (pv 4) aA)))))))
   (aH (bz (pv 3)))))),?_⟩
  refine⟨by show 2<=sizeLine;decide,fun m hm=>?_⟩;have s1:Same H (upd H m (.lst [.non,.non])):=Same.laid hm;have o1:(upd H m (.lst [.non,.non])) m=some (.lst [.non,.non]):=aC;generalize upd H m (.lst [.non,.non])=H1 at s1 o1⊢;refine⟨_,rfl,fun r dx nr ndx ne=>?_⟩;have s2:Same H1 (upd (upd H1 dx (.own r)) r (.ins cD dx [])):=fun b o e=>by rw[au (aV e nr),au (aV e ndx)];exact e
  refine⟨r,dx,a,rfl,aC,rfl,?_⟩;rw[uA];have g3:(upd (upd H1 dx (.own r)) r (.ins cD dx (rf a 0))) r=some (.ins cD dx (rf a (0:Nat))):=aC;have s3:Same H1 (upd (upd H1 dx (.own r)) r (.ins cD dx (rf a 0))):=fun b o e=>by rw[au (aV e nr),au (aV e ndx)];exact e
  generalize upd (upd H1 dx (.own r)) r (.ins cD dx (rf a 0))=H3 at g3 s3⊢;refine⟨aul _,fun g hg=>?_⟩;obtain⟨cs,R0,ahD⟩:=WA.acI fU;have W0:Wd K c cD H3 m r a l 0 (fun _=>none):=⟨⟨s3 _ _ o1,fun i x _ h=>(by cases h),fun i j x y _ _ _ h=>(by cases h)⟩,⟨dx,g3⟩,Same.seq (Same.trans s1 s3) ha⟩;refine⟨fun mm σ H'=>∃(f:Nat->Mo)(s:auJ)(i n ff:Nat)(cs:List (List (List Int)))(gl:List Int)(v4:Option V),σ=[some (.ref a),some (.ref m),some (.ref r),some (.ref g),v4]/\Wd K c cD (iR g H') m r a l i f/\H' g=some (.lst (gl.map V.int))/\qw s f/\Rest s n mm ff (l.drop i) cs/\
    awl l=gl++due s cs/\gl.length+n+mm<=999999+300,
   ⟨300,fun _=>none,axF,0,999999,l.length,cs,[],none,rfl,by rw[Vm,Vn hg];exact W0,aC,?_,R0,ahD,atX _⟩,?_⟩
  ·intro j hj
   match j,hj with
   |0,_=>rfl
   |1,_=>rfl
  rintro mm σ H' ⟨f,s,i,n,ff,cs,gl,v4,rfl,W,og,hfit,R,ea,hb⟩;obtain⟨lw,gr⟩:=W.rd.at_;refine⟨_,rfl,r,lw,_,rfl,Di gr,rfl,r,lw,a,i,l,rfl,Di gr,ahB W.rd.sq,_,rfl,?_⟩;by_cases hi:l.length<=i
  ·rw[decide_eq_true hi];refine jH ?_;rw[ayz hi] at R;rw[WA.acJ R,avM] at ea;exact⟨_,rfl,kq H' g (by rw[og,ea])⟩
  ·rw[decide_eq_false hi];refine gZ ?_;obtain⟨p,rest,hd⟩:∃p rest,l.drop i=p::rest:=⟨_,_,awP (by omega)⟩
   rw[hd] at R;obtain⟨cc,t,cs',hcall,O⟩:=WA.acK R;have hF:=WA.acM hcall;refine⟨fun σ' cH=>∃(f:Nat->Mo)(s:auJ)(i n ff:Nat)(cs:List (List (List Int)))(gl:List Int)(v4:Option V),σ'=[some (.ref a),some (.ref m),some (.ref r),some (.ref g),v4]/\Wd K c cD (iR g cH) m r a l i f/\cH g=some (.lst (gl.map V.int))/\qw s f/\Rest s n (mm-1) ff (l.drop i) cs/\
    awl l=gl++due s cs/\gl.length+n+(mm-1)<=999999+300,fun σ' cH h=>⟨mm-1,by have:=O.calls;omega,h⟩,?_⟩
   refine⟨_,rfl,_,rfl,g,_,og,m,r,a,l,i,f,s,p,rest,cc,t,rfl,W,hl,hd,hF,O.asked,O.opened,hfit,fun H1' q f' i' W1 hdt ahE oq VJ=>?_⟩;have qg:q≠g:=aV oq VJ;have hlen:=O.len;have anz:=O.calls;refine⟨_,rfl,.inl ⟨rfl,_,ak.of aC⟩,_,rfl,q,_,rfl,.inl (ak.of (by rw[au qg];exact oq)),g,_,_,rfl,rfl,aC,by rw[atR];exact VH (by omega),?_⟩;rw[uA];refine⟨_,rfl,.inl ⟨rfl,_,ak.of aC⟩,_,rfl,g,q,_,_,rfl,rfl,aC,by rw[au qg];exact oq,?_,?_⟩
   ·simp only[aud,atR,auH,avE];exact avm (VH (by omega))
   rw[uA];refine⟨f',_,i',_,_,cs',gl++[((step s (auj cc)).2.length:Int)]++(step s (auj cc)).2,_,rfl,by rw[Vm,Vn VJ];exact W1,?_,ahE,by rw[hdt];exact O.rest,?_,?_⟩
   ·rw[aC];simp
   ·rw[ea,O.due];simp
   ·simp only[aud,auH,avE];omega
end
open PySem.W (nsIn findIn plainGet hasDictIn plainOver makesIn keepIn isFn excIn mg_of mg_none_of)
theorem ahF{P:Program}{w:World}{K:atQ}{mg:Str->Option Value}{base:Heap}{CX:gY}{k:Nat}{f:Addr}{fd:FuncData}{ps:List Str}{sp:Sp}:aJ P w K mg base CX k f fd ps (fun vs H Q E=>False/\sp vs H Q E):=
 ⟨fun _ _ _ _ h=>h.1.elim,fun _ _ _ _ _ _ _ _ _ _ _ _ _ h=>h.1.elim⟩
structure Dc(K:atQ)(c:Addr):Prop where
 cl:Cls K c
 Dj:makesIn K c=true
 kc:keepIn K (.ref c)=true
def Dk(K:atQ)(n:Str)(v:Int):Prop:=∃t,nsIn K mainGlobals n=some (some (.int v t))
def Df(K:atQ)(n:Str)(st:Stmt):Prop:=∃(f:Addr)(fd:FuncData),nsIn K mainGlobals n=some (some (.ref f))/\aY K n n st f fd
def Dm(K:atQ)(c:Addr)(n q:Str)(st:Stmt):Prop:=∃(f:Addr)(fd:FuncData),findIn K (.ref c) n=some (some (.ref f))/\isFn K (.ref f)=true/\aY K n q st f fd
theorem dk{K:atQ}{n:Str}{v:Int}{t:Tok}(h:nsIn K mainGlobals n=some (some (.int v t))):Dk K n v:=⟨t,h⟩
theorem Dk.go{K:atQ}{h:Heap}{mg:Str->Option Value}{n:Str}{v:Int}(X0:K.In h)(G:h.Ns mainGlobals mg)(d:Dk K n v):∃t,mg n=some (.int v t):=d.imp fun _ e=>mg_of X0 G e
theorem ahG{P:Program}{w:World}{K:atQ}{h:Heap}{mg:Str->Option Value}(X0:K.In h)(G:h.Ns mainGlobals mg){fa:Addr}(hfa:mg "answers"=some (.ref fa)){cA cW cL cD cR cM:Addr}
  (ahH:nsIn K mainGlobals "Algebra"=some (some (.ref cA)))
  (KQ:Dc K cA)
  (ahI:findIn K (.ref cA) "letters"=some none)
  (ahJ:findIn K (.ref cA) "rows"=some none)
  (ahK:findIn K (.ref cA) "numbers"=some none)
  (ahL:findIn K (.ref cA) "prefix"=some none)
  (ahM:findIn K (.ref cA) "last"=some none)
  (ahN:findIn K (.ref cA) "behind"=some none)
  (ahO:findIn K (.ref cA) "known"=some none)
  (ahP:nsIn K mainGlobals "Walk"=some (some (.ref cW)))
  (KR:Dc K cW)
  (ahQ:findIn K (.ref cW) "graph"=some none)
  (ahR:findIn K (.ref cW) "met"=some none)
  (ahS:findIn K (.ref cW) "count"=some none)
  (ahT:findIn K (.ref cW) "head"=some none)
  (ahU:findIn K (.ref cW) "trail"=some none)
  (ahV:findIn K (.ref cW) "ways"=some none)
  (ahW:findIn K (.ref cW) "waiting"=some none)
  (ahX:findIn K (.ref cW) "heads"=some none)
  (VL:nsIn K mainGlobals "Language"=some (some (.ref cL)))
  (KY:Dc K cL)
  (ahY:findIn K (.ref cL) "reached"=some none)
  (ahZ:findIn K (.ref cL) "fates"=some none)
  (ah0:nsIn K mainGlobals "Reader"=some (some (.ref cD)))
  (KZ:Dc K cD)
  (ah1:findIn K (.ref cD) "calls"=some none)
  (ah2:findIn K (.ref cD) "place"=some none)
  (ah3:nsIn K mainGlobals "Refused"=some (some (.ref cR)))
  (ah4:excIn K cR [.type "Exception",.type "BaseException",.type "object"] "Exception.__new__"=true)
  (ah5:nsIn K mainGlobals "TooManyElements"=some (some (.ref cM)))
  (ah6:excIn K cM [.type "Exception",.type "BaseException",.type "object"] "Exception.__new__"=true)
  (XE:VF K cR cM)
  (ah7:nsIn K mainGlobals "len"=some none)
  (ah8:nsIn K mainGlobals "range"=some none)
  (ah9:nsIn K mainGlobals "tuple"=some none)
  (aia:nsIn K mainGlobals "max"=some none)
  (aib:nsIn K mainGlobals "enumerate"=some none)
  (aic:nsIn K mainGlobals "list"=some none)
  (aid:nsIn K mainGlobals "set"=some none)
  (aie:nsIn K mainGlobals "sorted"=some none)
  (aif:nsIn K mainGlobals "sum"=some none)
  (aig:nsIn K mainGlobals "min"=some none)
  (aih:nsIn K mainGlobals "zip"=some none)
  (aii:Dk K "MOST_STATES" 12)
  (aij:Dk K "MOST_LETTERS" 6)
  (aik:Dk K "MOST_ELEMENTS" 4096)
  (ail:Dk K "LONGEST_WORD" 65536)
  (aim:Dk K "LEFT" 0)
  (ain:Dk K "RIGHT" 1)
  (aio:Dk K "BOTH_SIDES" 2)
  (aip:Dk K "LEFT_AND_RIGHT" 3)
  (aiq:Dk K "BEGIN" 0)
  (air:Dk K "SIZE" 1)
  (ais:Dk K "OF" 2)
  (ait:Dk K "WORD" 3)
  (aiu:Dk K "PRODUCT" 4)
  (aiv:Dk K "POWER" 5)
  (aiw:Dk K "CLASSES" 6)
  (aix:Dk K "KIND" 7)
  (aiy:Dk K "IDEAL" 8)
  (aiz:Dk K "ZERO" 9)
  (aiA:Dk K "SAYS" 10)
  (aiB:Dk K "FREE" 11)
  (aiC:Df K "check_machine" Ar)
  (aiD:Df K "compose" oA)
  (aiE:Df K "numbered" pU)
  (aiF:Df K "parts" HX)
  (aiG:Df K "put_letters_before" Bd)
  (aiH:Df K "left_classes" HY)
  (aiI:Df K "right_classes" Ia)
  (aiJ:Df K "both_sides_classes" Be)
  (aiK:Df K "left_and_right_classes" Ib)
  (aiL:Df K "classes_of_kind" Ie)
  (aiM:Df K "how_many" Ig)
  (aiN:Df K "commutes" Bf)
  (aiO:Df K "idempotents_of_classes" Bg)
  (aiP:Df K "find_kind" Bh)
  (aiQ:Df K "kind_of" Ih)
  (aiR:Df K "ideal_of" xN)
  (aiS:Df K "zero_of" Ii)
  (aiT:Df K "alike_classes" xO)
  (aiU:Df K "high_power" Ij)
  (aiV:Df K "find_turns" xP)
  (aiW:Df K "is_free" Bk)
  (aiX:Df K "begin" Io)
  (aiY:Df K "product" Ip)
  (aiZ:Df K "classes" Ir)
  (ai0:Df K "ideal" Iu)
  (ai1:Df K "says" Iv)
  (ai2:Df K "free" Iw)
  (ai3:Df K "carry_out" Iz)
  (ai4:Df K "answer" IK)
  (ai5:Df K "answers" IV)
  (ai6:Dm K cA "__init__" "Algebra.__init__" Av)
  (ai7:Dm K cA "keep" "Algebra.keep" vo)
  (ai8:Dm K cA "put_letters_behind" "Algebra.put_letters_behind" xJ)
  (ai9:Dm K cA "once" "Algebra.once" Aw)
  (aja:Dm K cA "check" "Algebra.check" vq)
  (ajb:Dm K cA "size" "Algebra.size" Ax)
  (ajc:Dm K cA "of" "Algebra.of" HS)
  (ajd:Dm K cA "word" "Algebra.word" HW)
  (aje:Dm K cA "product" "Algebra.product" xK)
  (ajf:Dm K cA "power" "Algebra.power" Ay)
  (ajg:Dm K cW "__init__" "Walk.__init__" Az)
  (ajh:Dm K cW "enter" "Walk.enter" Ba)
  (aji:Dm K cW "join_back_to" "Walk.join_back_to" Bb)
  (ajj:Dm K cW "leave" "Walk.leave" Bc)
  (ajk:Dm K cW "end_part" "Walk.end_part" xM)
  (ajl:Dm K cL "__init__" "Language.__init__" vy)
  (ajm:Dm K cL "mark" "Language.mark" Bj)
  (ajn:Dm K cD "__init__" "Reader.__init__" Ik)
  (ajo:Dm K cD "ended" "Reader.ended" Il)
  (ajp:Dm K cD "take" "Reader.take" Bl)
  (ajq:Dm K cD "take_row" "Reader.take_row" Im):
  ∃fd:FuncData,(∀(s:Shared)(us:List Value),us.length=(["calls"]:List Str).length->BindsTo s fd ⟨us,[]⟩ ((["calls"]:List Str).zip us))/\∀base:Heap,K.In base->base.Ns mainGlobals mg->aJ P w K mg base aZ 16 fa fd ["calls"] (KN K):=by
 obtain⟨anA,anB,ajr,VM⟩:=aiC;obtain⟨anC,anD,ajs,rT⟩:=aiD;obtain⟨anE,anF,ajt,Dl⟩:=aiE;obtain⟨anG,anH,aju,K4⟩:=aiF;obtain⟨anI,anJ,ajv,K5⟩:=aiG;obtain⟨anK,anL,ajw,K6⟩:=aiH;obtain⟨anM,anN,ajx,K7⟩:=aiI;obtain⟨anO,anP,ajy,K8⟩:=aiJ;obtain⟨VN,anQ,ajz,K9⟩:=aiK;obtain⟨anR,anS,ajA,yG⟩:=aiL;obtain⟨anT,anU,ajB,La⟩:=aiM;obtain⟨anV,anW,ajC,Lb⟩:=aiN;obtain⟨anY,anZ,ajD,Ld⟩:=aiO;obtain⟨f_fin,an0,ajE,Le⟩:=aiP;obtain⟨an1,an2,ajF,Lg⟩:=aiQ;obtain⟨an3,an4,ajG,Lh⟩:=aiR;obtain⟨an5,an6,ajH,Li⟩:=aiS;obtain⟨an7,an8,ajI,Lj⟩:=aiT;obtain⟨an9,aoa,ajJ,Lk⟩:=aiU;obtain⟨aob,aoc,ajK,Ln⟩:=aiV;obtain⟨aod,aoe,ajL,Lp⟩:=aiW;obtain⟨aof,aog,ajM,Lq⟩:=aiX;obtain⟨aoh,aoi,ajN,Lr⟩:=aiY;obtain⟨aoj,aol,ajO,Ls⟩:=aiZ;obtain⟨aom,aon,ajP,Lw⟩:=ai0;obtain⟨aoo,aop,ajQ,Lx⟩:=ai1;obtain⟨aoq,aor,ajR,Ly⟩:=ai2;obtain⟨aos,aot,ajS,Lz⟩:=ai3;obtain⟨aou,aov,ajT,LC⟩:=ai4;obtain⟨aow,ajU,VP,LK⟩:=ai5;obtain⟨ajV,_,ajW,ajX,VR⟩:=ai6;obtain⟨ajY,_,ajZ,aj0,LQ⟩:=ai7;obtain⟨aj1,_,aj2,aj3,Ma⟩:=ai8;obtain⟨aj4,_,aj5,aj6,qx⟩:=ai9;obtain⟨aj7,_,aj8,aj9,yH⟩:=aja;obtain⟨aka,_,akb,akc,Do⟩:=ajb;obtain⟨akd,_,ake,akf,Mf⟩:=ajc;obtain⟨akg,_,akh,aki,Mg⟩:=ajd;obtain⟨akj,_,akk,akl,Dq⟩:=aje;obtain⟨akm,_,akn,ako,Mh⟩:=ajf;obtain⟨akp,_,akq,akr,VV⟩:=ajg;obtain⟨aks,_,akt,aku,Mi⟩:=ajh;obtain⟨akv,_,akx,aky,Mj⟩:=aji;obtain⟨akz,_,akA,akB,Ml⟩:=ajj;obtain⟨akC,_,akD,akE,Mm⟩:=ajk;obtain⟨akF,_,akG,akH,V0⟩:=ajl;obtain⟨akI,_,akJ,akK,Mp⟩:=ajm;obtain⟨akL,_,akM,akN,V1⟩:=ajn;obtain⟨akO,_,akP,akQ,Mq⟩:=ajo;obtain⟨akR,_,akS,akT,Dr⟩:=ajp;obtain⟨akU,_,akV,akW,Mr⟩:=ajq;have e:=hfa.symm.trans (mg_of X0 G VP);cases e;have dj:TA K cA:=⟨KQ.cl,ahI,ahJ,ahK,ahL,ahM,ahN,ahO⟩;have TW':TW K cW:=⟨KR.cl,ahQ,ahR,ahS,ahT,ahU,ahV,ahW,ahX⟩;have Ds:TL K cL:=⟨KY.cl,ahY,ahZ⟩;have mY:TR K cD:=⟨KZ.cl,ah1,ah2⟩;have X:Txt K mg cR cM:=⟨mg_none_of X0 G ah7,mg_none_of X0 G ah8,mg_none_of X0 G ah9,mg_none_of X0 G aia,mg_none_of X0 G aib,mg_none_of X0 G aic,mg_none_of X0 G aid,mg_none_of X0 G aie,mg_none_of X0 G aif,mg_none_of X0 G aig,mg_none_of X0 G aih,aii.go X0 G,aij.go X0 G,aik.go X0 G,ail.go X0 G,mg_of X0 G ah3,ah4,mg_of X0 G ah5,ah6⟩;have XC:Ce mg:=⟨aim.go X0 G,ain.go X0 G,aio.go X0 G,aip.go X0 G⟩;have XM:Vy mg:=⟨aiq.go X0 G,air.go X0 G,ais.go X0 G,ait.go X0 G,aiu.go X0 G,aiv.go X0 G,aiw.go X0 G,aix.go X0 G,aiy.go X0 G,aiz.go X0 G,aiA.go X0 G,aiB.go X0 G⟩;have akY:=VM.binds (ps:=["q","k","step"]) fun _ _ _ _ _ _ us hl=>match us,hl with|[_,_,_],_=>rfl
 have akZ:=mg_of X0 G ajr;have yI:=rT.binds (ps:=["first","second"]) fun _ _ _ _ _ _ us hl=>match us,hl with|[_,_],_=>rfl
 have yJ:=mg_of X0 G ajs;have V2:=Dl.binds (ps:=["marks"]) fun _ _ _ _ _ _ us hl=>match us,hl with|[_],_=>rfl
 have V3:=mg_of X0 G ajt;have ak0:=K4.binds (ps:=["graph"]) fun _ _ _ _ _ _ us hl=>match us,hl with|[_],_=>rfl
 have ak1:=mg_of X0 G aju;have ak2:=K5.binds (ps:=["algebra"]) fun _ _ _ _ _ _ us hl=>match us,hl with|[_],_=>rfl
 have V4:=mg_of X0 G ajv;have ak3:=K6.binds (ps:=["algebra"]) fun _ _ _ _ _ _ us hl=>match us,hl with|[_],_=>rfl
 have V5:=mg_of X0 G ajw;have ak4:=K7.binds (ps:=["algebra"]) fun _ _ _ _ _ _ us hl=>match us,hl with|[_],_=>rfl
 have V6:=mg_of X0 G ajx;have ak5:=K8.binds (ps:=["algebra"]) fun _ _ _ _ _ _ us hl=>match us,hl with|[_],_=>rfl
 have V7:=mg_of X0 G ajy;have ak6:=K9.binds (ps:=["algebra"]) fun _ _ _ _ _ _ us hl=>match us,hl with|[_],_=>rfl
 have V8:=mg_of X0 G ajz;have V9:=yG.binds (ps:=["algebra","kind"]) fun _ _ _ _ _ _ us hl=>match us,hl with|[_,_],_=>rfl
 have Wa:=mg_of X0 G ajA;have ak7:=La.binds (ps:=["classes"]) fun _ _ _ _ _ _ us hl=>match us,hl with|[_],_=>rfl
 have ak8:=mg_of X0 G ajB;have ak9:=Lb.binds (ps:=["algebra"]) fun _ _ _ _ _ _ us hl=>match us,hl with|[_],_=>rfl
 have ala:=mg_of X0 G ajC;have alb:=Ld.binds (ps:=["algebra","classes"]) fun _ _ _ _ _ _ us hl=>match us,hl with|[_,_],_=>rfl
 have alc:=mg_of X0 G ajD;have ald:=Le.binds (ps:=["algebra"]) fun _ _ _ _ _ _ us hl=>match us,hl with|[_],_=>rfl
 have ale:=mg_of X0 G ajE;have alf:=Lg.binds (ps:=["algebra"]) fun _ _ _ _ _ _ us hl=>match us,hl with|[_],_=>rfl
 have alh:=mg_of X0 G ajF;have ali:=Lh.binds (ps:=["algebra"]) fun _ _ _ _ _ _ us hl=>match us,hl with|[_],_=>rfl
 have alj:=mg_of X0 G ajG;have alk:=Li.binds (ps:=["algebra"]) fun _ _ _ _ _ _ us hl=>match us,hl with|[_],_=>rfl
 have alm:=mg_of X0 G ajH;have aln:=Lj.binds (ps:=["algebra","start","ends"]) fun _ _ _ _ _ _ us hl=>match us,hl with|[_,_,_],_=>rfl
 have alo:=mg_of X0 G ajI;have alp:=Lk.binds (ps:=["row"]) fun _ _ _ _ _ _ us hl=>match us,hl with|[_],_=>rfl
 have alq:=mg_of X0 G ajJ;have alr:=Ln.binds (ps:=["algebra"]) fun _ _ _ _ _ _ us hl=>match us,hl with|[_],_=>rfl
 have als:=mg_of X0 G ajK;have alu:=Lp.binds (ps:=["algebra","start","ends"]) fun _ _ _ _ _ _ us hl=>match us,hl with|[_,_,_],_=>rfl
 have alv:=mg_of X0 G ajL;have alw:=Lq.binds (ps:=["machines","o","reader"]) fun _ _ _ _ _ _ us hl=>match us,hl with|[_,_,_],_=>rfl
 have alx:=mg_of X0 G ajM;have aly:=Lr.binds (ps:=["machine","reader"]) fun _ _ _ _ _ _ us hl=>match us,hl with|[_,_],_=>rfl
 have alz:=mg_of X0 G ajN;have alA:=Ls.binds (ps:=["machine","reader"]) fun _ _ _ _ _ _ us hl=>match us,hl with|[_,_],_=>rfl
 have alB:=mg_of X0 G ajO;have alC:=Lw.binds (ps:=["machine"]) fun _ _ _ _ _ _ us hl=>match us,hl with|[_],_=>rfl
 have alD:=mg_of X0 G ajP;have alE:=Lx.binds (ps:=["machine","reader"]) fun _ _ _ _ _ _ us hl=>match us,hl with|[_,_],_=>rfl
 have alF:=mg_of X0 G ajQ;have alG:=Ly.binds (ps:=["machine","reader"]) fun _ _ _ _ _ _ us hl=>match us,hl with|[_,_],_=>rfl
 have alH:=mg_of X0 G ajR;have alI:=Lz.binds (ps:=["machines","reader"]) fun _ _ _ _ _ _ us hl=>match us,hl with|[_,_],_=>rfl
 have alJ:=mg_of X0 G ajS;have alK:=LC.binds (ps:=["machines","reader"]) fun _ _ _ _ _ _ us hl=>match us,hl with|[_,_],_=>rfl
 have alL:=mg_of X0 G ajT;have aox:=LK.binds (ps:=["calls"]) fun _ _ _ _ _ _ us hl=>match us,hl with|[_],_=>rfl
 have aoy:=mg_of X0 G VP;have alM:=VR.binds (ps:=["self","q","k","step"]) fun _ _ _ _ _ _ us hl=>match us,hl with|[_,_,_,_],_=>rfl
 have alN:Mk K cA ajV:=⟨KQ.Dj,ajW,ajX,KQ.kc⟩;have alO:=LQ.binds (ps:=["self","row","prefix","letter"]) fun _ _ _ _ _ _ us hl=>match us,hl with|[_,_,_,_],_=>rfl
 have alP:Meth K cA "keep" ajY:=⟨ajZ,aj0,LQ.kp⟩;have alQ:=Ma.binds (ps:=["self","e"]) fun _ _ _ _ _ _ us hl=>match us,hl with|[_,_],_=>rfl
 have alR:Meth K cA "put_letters_behind" aj1:=⟨aj2,aj3,Ma.kp⟩;have yK:=qx.binds (ps:=["self","name","find"]) fun _ _ _ _ _ _ us hl=>match us,hl with|[_,_,_],_=>rfl
 have yL:Meth K cA "once" aj4:=⟨aj5,aj6,qx.kp⟩;have Ms:=yH.binds (ps:=["self","e"]) fun _ _ _ _ _ _ us hl=>match us,hl with|[_,_],_=>rfl
 have Mt:Meth K cA "check" aj7:=⟨aj8,aj9,yH.kp⟩;have Wb:=Do.binds (ps:=["self"]) fun _ _ _ _ _ _ us hl=>match us,hl with|[_],_=>rfl
 have Wc:Meth K cA "size" aka:=⟨akb,akc,Do.kp⟩;have alS:=Mf.binds (ps:=["self","word"]) fun _ _ _ _ _ _ us hl=>match us,hl with|[_,_],_=>rfl
 have alT:Meth K cA "of" akd:=⟨ake,akf,Mf.kp⟩;have alU:=Mg.binds (ps:=["self","e"]) fun _ _ _ _ _ _ us hl=>match us,hl with|[_,_],_=>rfl
 have alV:Meth K cA "word" akg:=⟨akh,aki,Mg.kp⟩;have Wf:=Dq.binds (ps:=["self","a","b"]) fun _ _ _ _ _ _ us hl=>match us,hl with|[_,_,_],_=>rfl
 have Wg:Meth K cA "product" akj:=⟨akk,akl,Dq.kp⟩;have alW:=Mh.binds (ps:=["self","e"]) fun _ _ _ _ _ _ us hl=>match us,hl with|[_,_],_=>rfl
 have alX:Meth K cA "power" akm:=⟨akn,ako,Mh.kp⟩;have alY:=VV.binds (ps:=["self","graph"]) fun _ _ _ _ _ _ us hl=>match us,hl with|[_,_],_=>rfl
 have alZ:Mk K cW akp:=⟨KR.Dj,akq,akr,KR.kc⟩;have al0:=Mi.binds (ps:=["self","node"]) fun _ _ _ _ _ _ us hl=>match us,hl with|[_,_],_=>rfl
 have al1:Meth K cW "enter" aks:=⟨akt,aku,Mi.kp⟩;have al2:=Mj.binds (ps:=["self","node"]) fun _ _ _ _ _ _ us hl=>match us,hl with|[_,_],_=>rfl
 have al3:Meth K cW "join_back_to" akv:=⟨akx,aky,Mj.kp⟩;have al4:=Ml.binds (ps:=["self"]) fun _ _ _ _ _ _ us hl=>match us,hl with|[_],_=>rfl
 have al5:Meth K cW "leave" akz:=⟨akA,akB,Ml.kp⟩;have al6:=Mm.binds (ps:=["self","head"]) fun _ _ _ _ _ _ us hl=>match us,hl with|[_,_],_=>rfl
 have al7:Meth K cW "end_part" akC:=⟨akD,akE,Mm.kp⟩;have Wh:=V0.binds (ps:=["self","algebra","start","ends"]) fun _ _ _ _ _ _ us hl=>match us,hl with|[_,_,_,_],_=>rfl
 have Wi:Mk K cL akF:=⟨KY.Dj,akG,akH,KY.kc⟩;have al8:=Mp.binds (ps:=["self","row"]) fun _ _ _ _ _ _ us hl=>match us,hl with|[_,_],_=>rfl
 have al9:Meth K cL "mark" akI:=⟨akJ,akK,Mp.kp⟩;have ama:=V1.binds (ps:=["self","calls"]) fun _ _ _ _ _ _ us hl=>match us,hl with|[_,_],_=>rfl
 have amb:Mk K cD akL:=⟨KZ.Dj,akM,akN,KZ.kc⟩;have amc:=Mq.binds (ps:=["self"]) fun _ _ _ _ _ _ us hl=>match us,hl with|[_],_=>rfl
 have amd:Meth K cD "ended" akO:=⟨akP,akQ,Mq.kp⟩;have Wj:=Dr.binds (ps:=["self"]) fun _ _ _ _ _ _ us hl=>match us,hl with|[_],_=>rfl
 have Wl:Meth K cD "take" akR:=⟨akS,akT,Dr.kp⟩;have ame:=Mr.binds (ps:=["self"]) fun _ _ _ _ _ _ us hl=>match us,hl with|[_],_=>rfl
 have amf:Meth K cD "take_row" akU:=⟨akV,akW,Mr.kp⟩;refine⟨ajU,?b,fun base _ _=>?_⟩
 case b=>
  obtain⟨oc,od,kV,doc,pm,an,cdv,ct,osl,rfl,lk,hcd⟩:=LK.ex;exact fun s us hu=>match us,hu with|[_],_=>.of_eq rfl
 have GC:=bG.mk (Ja (P:=P) (w:=w) (mg:=mg) (base:=base) rT X) rT.kp yI yJ;have GCL:=bG.mk (afK (P:=P) (w:=w) (mg:=mg) (base:=base) rT X) rT.kp yI yJ;have GN:=bG.mk (aeU (P:=P) (w:=w) (mg:=mg) (base:=base) Dl X) Dl.kp V2 V3;have GP:=bG.mk (afe (P:=P) (w:=w) (mg:=mg) (base:=base) K4 TW' X (mg_of X0 G ahP) alZ VV alY Mi al0 al1 Mj al2 al3 Ml al4 al5 Mm al6 al7 Dl V2 V3) K4.kp ak0 ak1;have amh:=afr (P:=P) (w:=w) (mg:=mg) (base:=base) K5 dj X Do Wb Wc;have Wm:=dC.mk (um qx dj X amh K5.kp ak2) yK yL;have gL:=afA K6 dj X GP Wm V4;have gR:=afC K7 dj X GP;have gJ:=afF K8 dj X GP Wm V4;have oL:=um qx dj X gL K6.kp ak3;have oR:=um qx dj X gR K7.kp ak4;have oJ:=um qx dj X gJ K8.kp ak5;have GC0:=bG.mk (Ue (full:=False) (fH:=VN) yG dj X XC yL yK oL V5 oR V6 oJ V7 ahF V8) yG.kp V9 Wa;have gH:=afJ (fun q=>absurd q (by decide)) (fun q=>absurd q (by decide)) K9 dj X XC GC0 GN;have oH:=um qx dj X gH K9.kp ak6;have GK:=bG.mk (Ue (full:=True) (fH:=VN) (k:=8) yG dj X XC yL yK (oL.mono (by decide)) V5 (oR.mono (by decide)) V6 (oJ.mono (by decide)) V7 (oH.imp fun _ _ _ _ h=>h.2) V8) yG.kp V9 Wa;have GW:=bG.mk (afM (P:=P) (w:=w) (mg:=mg) (base:=base) La X) La.kp ak7 ak8;have GM:=bG.mk (afN Lb dj X GCL) Lb.kp ak9 ala;have GI:=bG.mk (afP Ld dj X GC GW) Ld.kp alb alc;have GS:=dC.mk (SM (P:=P) (w:=w) (mg:=mg) (base:=base) Do dj X) Wb Wc;have gF:=afU (k:=7) Le dj X XC GS GK GI GM GW;have oK:=dC.mk (um qx dj X gF Le.kp ald) yK yL;have GKd:=bG.mk ((ahg Lg dj X oK ale).mono (show 12<=8+5 by decide)) Lg.kp alf alh;have Wn:=bG.mk (agH (P:=P) (w:=w) (mg:=mg) (base:=base) Lh dj X) Lh.kp ali alj;have GZ:=bG.mk (agI Li dj X Wn) Li.kp alk alm;have Wo:=agN V0 dj Ds X GN;have Wq:=dC.mk (agS (P:=P) (w:=w) (mg:=mg) (base:=base) Mp Ds X) al8 al9;have GAl:=bG.mk (agT Lj dj Ds X (mg_of X0 G VL) Wi Wo Wh Wq GN) Lj.kp aln alo;have GHi:=bG.mk (agW Lk X GC) Lk.kp alp alq;have gT:=ag3 Ln dj X GHi GC;have oT:=dC.mk (um qx dj X gT Ln.kp alr) yK yL;have GFr:=bG.mk (ag4 Lp dj Ds X (mg_of X0 G VL) Wi Wo Wh Wq oT als) Lp.kp alu alv;have vX:=dC.mk (R3 (P:=P) (w:=w) (mg:=mg) (base:=base) Dr mY) Wj Wl;have Wr:=dC.mk (aeh (P:=P) (w:=w) (mg:=mg) (base:=base) Mr mY Dr Wj Wl) ame amf;have GE:=dC.mk (aed (P:=P) (w:=w) (mg:=mg) (base:=base) Mq mY X) amc amd;have gRI:=aeb (P:=P) (w:=w) (mg:=mg) (base:=base) V1 mY;have gAI:=aeC (P:=P) (w:=w) (mg:=mg) (base:=base) VR dj X VM akY akZ rT yI yJ LQ alO alP Ma alQ alR;have GB:=bG.mk (aho Lq mY X vX Wr (mg_of X0 G ahH) alN gAI alM) Lq.kp alw alx;have GPm:=dC.mk (S7 (P:=P) (w:=w) (mg:=mg) (base:=base) Dq dj X rT yI yJ yH Ms Mt) Wf Wg;have GPf:=bG.mk (ahh Lr dj mY X vX GPm) Lr.kp aly alz;have GCf:=bG.mk (ahi Ls dj mY X vX GK GW) Ls.kp alA alB;have GIf:=bG.mk (ahj Lw dj X Wn) Lw.kp alC alD;have GSf:=bG.mk (ahl Lx dj mY X vX GAl GW) Lx.kp alE alF;have GFf:=bG.mk (ahm Ly dj mY X vX GFr) Ly.kp alG alH;have GOf:=dC.mk (aeK (P:=P) (w:=w) (mg:=mg) (base:=base) Mf dj X) alS alT;have GWd:=dC.mk (aeL (P:=P) (w:=w) (mg:=mg) (base:=base) Mg dj X yH Ms Mt) alU alV;have GPw:=dC.mk (aeQ (P:=P) (w:=w) (mg:=mg) (base:=base) Mh dj X rT yI yJ yH Ms Mt Dq Wf Wg) alW alX;have CA:Calls P w K mg base cA cD cR cM 8:=⟨⟨_,_,vX⟩,⟨_,_,Wr⟩,⟨_,_,GB⟩,⟨_,_,GS⟩,⟨_,_,GOf⟩,⟨_,_,GWd⟩,⟨_,_,GPf⟩,⟨_,_,GPw⟩,⟨_,_,GCf⟩,⟨_,_,GKd⟩,⟨_,_,GIf⟩,⟨_,_,GZ⟩,⟨_,_,GSf⟩,⟨_,_,GFf⟩⟩;have GCa:=bG.mk (ahv Lz dj mY X XM (by decide) CA) Lz.kp alI alJ;have GAn:=bG.mk (ahA LC X XE GCa) LC.kp alK alL;exact ahC (k:=13) LK X mY (mg_of X0 G ah0) amb gRI ama GE GAn
end WP
namespace PySem.W.Fast
def tw5637836827474289785:=0
def tw14426625349580466216:=0
def tw12365113190927922250:=0
def tw18164424191677680954:=0
def tw5274794098261950347:=0
def tw13223556446950803824:=0
def tw8704357327041581906:=0
def tw17254495209761151901:=0
def tw6454729701884161593:=0
def tw16374631324161725377:=0
def tw15324487447236394460:=0
def tw12963222763867653306:=0
def tw12118467078075150326:=0
def tw17012010292040836895:=0
def tw3307895715081600177:=0
def tw10954479419666451061:=0
def tw13340370364786043453:=0
def tw8288096291283717766:=0
def tw8642137799159085917:=0
def tw12137404982841820330:=0
def tw9476392976941057390:=0
def tw4225863852714564068:=0
def tw10863621927361383818:=0
def tw11504926766977989323:=0
def tw6848356037326230573:=0
def tw5354453673258771334:=0
def tw3042118744073312165:=0
def tw13927838192551240356:=0
def tw8730693391748633118:=0
def tw322950831131241715:=0
def tw9720161748974145827:=0
def tw5329682372371321271:=0
def tw363523680512934829:=0
def tw5345407329522015188:=0
def tw11326069782942754262:=0
def tw15057292292943207933:=0
def tw16515708942067510396:=0
def tw8936944839210208666:=0
def tw14390302966524623837:=0
def tw17879421635378542283:=0
def tw12646061567551623373:=0
def tw8051669731090695428:=0
def tw9867602381014297858:=0
def tw15940090971816050687:=0
def tw9430608319148199726:=0
def tw17721598684372135927:=0
def tw8481825168789280138:=0
def tw9053325443528410731:=0
def tw15428101714907432170:=0
def tw16540442433866390471:=0
def tw12267559740094874302:=0
def tw14480011555968222705:=0
def tw15258691043918340404:=0
def tw10741847205317075873:=0
def tw1518398472075103537:=0
def tw8684054308018528312:=0
def tw5486300262432816719:=0
def tw16021275043231250106:=0
def tw3838390191367620820:=0
def tw17195054580927607557:=0
def tw9406798068096499093:=0
def tw1507136088197540217:=0
def tw5360452166174323084:=0
def tw15248507051221941525:=0
def tw3549529417145300713:=0
def tw13926209462276279545:=0
def tw5553380887012410180:=0
def tw7877452156023524867:=0
def tw14552029352037221596:=0
def tw14710492350943615127:=0
def tw13830902821877995048:=0
def tw15132199717436433093:=0
def tw12815597849043181176:=0
def tw6442691546709703952:=0
def tw16225481218124581202:=0
def tw13241710460475075863:=0
def tw12829125685468618039:=0
def tw1313748122009280784:=0
def tw1186379977799378639:=0
def tw4245552961051120149:=0
def tw11191844378140276674:=0
def tw11190657130747305053:=0
def tw1486137060631347215:=0
def tw220844620907007131:=0
def tw11098600860884407821:=0
def tw14110762920076945801:=0
def tw6617779517732881965:=0
def tw17421133265300838564:=0
def tw15181593564192304508:=0
def tw14624037101983351824:=0
def tw10157839442872222940:=0
def tw11646154543309859733:=0
def tw15964297080790476658:=0
def tw4617565710764230224:=0
def tw4477449336511723913:=0
def tw1822409249029196806:=0
def tw4196055954577810526:=0
def tw15885478476750268545:=0
def tw11670976305842831466:=0
def tw399414219504393363:=0
def tw8171800747018593381:=0
def tw12094086331032249592:=0
def tw4160857120128492185:=0
def tw4675233715498265159:=0
def tw11194986350304824772:=0
def tw11953078075895518328:=0
def tw10102224768310635050:=0
def tw9748061051147220348:=0
def tw3647182955380001658:=0
def tw8962309097972379162:=0
def tw9300190657478353236:=0
def tw13021428424189285946:=0
def tw8736525419982067276:=0
def tw2800130927139506255:=0
def tw1341208674446502169:=0
def tw1945185356808255900:=0
def tw6236636696152735788:=0
def tw9320577625580077144:=0
def tw6770965447641600829:=0
def tw14882279359474245829:=0
def tw13675249145793749947:=0
def tw3472421783454028221:=0
def tw3063343290248367254:=0
def tw9135975313148568618:=0
def tw3833572550184461302:=0
def tw602853575455012364:=0
def tw9610836472237652970:=0
def tw11201545116225703680:=0
def tw10748532885583552989:=0
def tw16643478890069629298:=0
def tw11511488416767720820:=0
def tw5415370894908881766:=0
def tw8352199720089350046:=0
def tw9440609831681157970:=0
def tw3836746532759986605:=0
def tw11197107425078389743:=0
def tw12878300314040154659:=0
def tw12858220775336891382:=0
def tw4037388844558635895:=0
def tw16921210451341232360:=0
def tw3419360301853412168:=0
def tw10376324075430665833:=0
def tw13637008363619150393:=0
def tw18411747184814938053:=0
end PySem.W.Fast
open PySem PySem.W PyProof.Rows
set_option maxRecDepth 100000 in
set_option maxHeartbeats 0 in
theorem PySem.Challenge.cw_wordalgebra_s01_answers_holds : PySem.Challenge.rw_wordalgebra_s01_answers.Holds := by
 w_on;k_headS;(case hw=>exact⟨[.list []],by decide +kernel,by decide +kernel⟩)
 k_fillS
 refine L2.acp (r:=ayP) (k:=16) (CX:=L2.aZ) (ps:=["calls"]) (sp:=WP.KN) (by decide +kernel) rfl rfl ⟨rfl,by decide,by decide⟩ (fun w h Y=>PySem.W.kIn_of Y) ?F ?S (fun _ _ _ _ z=>z)
 case F=>
  intro w mg fa h Y KX G hmg;refine' WP.ahG KX G hmg ?g1 ⟨⟨?g2,?g3,?g4,?g5⟩,?g6,?g7⟩ ?g8 ?g9 ?g10 ?g11 ?g12 ?g13 ?g14 ?g15 ⟨⟨?g16,?g17,?g18,?g19⟩,?g20,?g21⟩ ?g22 ?g23 ?g24 ?g25 ?g26 ?g27 ?g28 ?g29 ?g30 ⟨⟨?g31,?g32,?g33,?g34⟩,?g35,?g36⟩ ?g37 ?g38 ?g39 ⟨⟨?g40,?g41,?g42,?g43⟩,?g44,?g45⟩ ?g46 ?g47 ?g48 ?g49 ?g50 ?g51 ⟨?g52,?g53,?g54⟩ ?g55 ?g56 ?g57 ?g58 ?g59 ?g60 ?g61 ?g62 ?g63 ?g64 ?g65 (WP.dk ?g66) (WP.dk ?g67) (WP.dk ?g68) (WP.dk ?g69) (WP.dk ?g70) (WP.dk ?g71) (WP.dk ?g72) (WP.dk ?g73) (WP.dk ?g74) (WP.dk ?g75) (WP.dk ?g76) (WP.dk ?g77) (WP.dk ?g78) (WP.dk ?g79) (WP.dk ?g80) (WP.dk ?g81) (WP.dk ?g82) (WP.dk ?g83) (WP.dk ?g84) (WP.dk ?g85) ⟨_,_,?g86,L2.bZ ?g87 ?g88 ?g89⟩ ⟨_,_,?g90,L2.bZ ?g91 ?g92 ?g93⟩ ⟨_,_,?g94,L2.bZ ?g95 ?g96 ?g97⟩ ⟨_,_,?g98,L2.bZ ?g99 ?ap4 ?ap5⟩ ⟨_,_,?ap6,L2.bZ ?ap7 ?ap8 ?ap9⟩ ⟨_,_,?aqa,L2.bZ ?aqb ?aqc ?aqd⟩ ⟨_,_,?aqe,L2.bZ ?aqf ?aqg ?aqh⟩ ⟨_,_,?aqi,L2.bZ ?aqj ?aqk ?aql⟩ ⟨_,_,?aqm,L2.bZ ?aqn ?aqo ?aqp⟩ ⟨_,_,?aqq,L2.bZ ?aqr ?aqs ?aqt⟩ ⟨_,_,?aqu,L2.bZ ?aqv ?aqw ?aqx⟩ ⟨_,_,?aqy,L2.bZ ?aqz ?aqA ?aqB⟩ ⟨_,_,?aqC,L2.bZ ?aqD ?aqE ?aqF⟩ ⟨_,_,?aqG,L2.bZ ?aqH ?aqI ?aqJ⟩ ⟨_,_,?aqK,L2.bZ ?aqL ?aqM ?aqN⟩ ⟨_,_,?aqO,L2.bZ ?aqP ?aqQ ?aqR⟩ ⟨_,_,?aqS,L2.bZ ?aqT ?aqU ?aqV⟩ ⟨_,_,?aqW,L2.bZ ?aqX ?aqY ?aqZ⟩ ⟨_,_,?aq0,L2.bZ ?aq1 ?aq2 ?aq3⟩ ⟨_,_,?aq4,L2.bZ ?aq5 ?aq6 ?aq7⟩ ⟨_,_,?aq8,L2.bZ ?aq9 ?ara ?arb⟩ ⟨_,_,?arc,L2.bZ ?ard ?arf ?arh⟩ ⟨_,_,?ari,L2.bZ ?arj ?ark ?arl⟩ ⟨_,_,?arn,L2.bZ ?aro ?arp ?arq⟩ ⟨_,_,?ars,L2.bZ ?art ?aru ?arv⟩ ⟨_,_,?arw,L2.bZ ?arx ?arz ?arA⟩ ⟨_,_,?arB,L2.bZ ?arC ?arD ?arE⟩ ⟨_,_,?arF,L2.bZ ?arG ?arH ?arI⟩ ⟨_,_,?arJ,L2.bZ ?arK ?arL ?arM⟩ ⟨_,_,?arN,L2.bZ ?arO ?arP ?arQ⟩ ⟨_,_,?arR,?arS,L2.bZ ?arT ?arU ?arV⟩ ⟨_,_,?arW,?arX,L2.bZ ?arY ?arZ ?ar0⟩ ⟨_,_,?ar3,?ar4,L2.bZ ?ar5 ?ar6 ?ar7⟩ ⟨_,_,?ar8,?ar9,L2.bZ ?asa ?asb ?asd⟩ ⟨_,_,?ase,?asf,L2.bZ ?ash ?asi ?asj⟩ ⟨_,_,?asl,?asm,L2.bZ ?asn ?aso ?asp⟩ ⟨_,_,?asq,?asr,L2.bZ ?ass ?asu ?asv⟩ ⟨_,_,?asw,?asx,L2.bZ ?asy ?asz ?asA⟩ ⟨_,_,?asB,?asC,L2.bZ ?asD ?asF ?asG⟩ ⟨_,_,?asH,?asI,L2.bZ ?asJ ?asK ?asL⟩ ⟨_,_,?asM,?asN,L2.bZ ?asO ?asQ ?asR⟩ ⟨_,_,?asS,?asT,L2.bZ ?asU ?asV ?asW⟩ ⟨_,_,?asY,?asZ,L2.bZ ?as3 ?as4 ?as5⟩ ⟨_,_,?as6,?as7,L2.bZ ?as8 ?as9 ?ata⟩ ⟨_,_,?atb,?atc,L2.bZ ?atd ?ate ?atf⟩ ⟨_,_,?atg,?ath,L2.bZ ?ati ?atj ?atk⟩ ⟨_,_,?atm,?atn,L2.bZ ?ato ?atp ?atq⟩ ⟨_,_,?atr,?atu,L2.bZ ?atv ?atw ?atx⟩ ⟨_,_,?aty,?atz,L2.bZ ?atA ?atB ?atD⟩ ⟨_,_,?atE,?atF,L2.bZ ?atG ?atH ?atJ⟩ ⟨_,_,?atL,?atM,L2.bZ ?atN ?atO ?atP⟩
  all_goals try first|k_is|k_exc|kts_exm
  all_goals try first|k_is|k_exc|kts_exm
 case S=>
  intro K H xs a hO hwi fU hx;cases hx with
  |cons h1 h2=>
   cases h2;cases h1 with
   |lst hs ha=>
    have e:=L2.Qw a.1 _ ha;subst e;have q:((Codec.inLen 0 30000 a.1&&a.1.all (Codec.inInt (Int.negSucc 2147483647) (Int.ofNat 4294967295)))&&true)=true:=hwi;rw[aup,aup] at q;exact⟨_,a.1,rfl,hs,(Codec.inNat_iff.mp q.1.1).2,fU,fun H' p hp=>.lst (L2.ak.of hp) (L2.Qv _)⟩
