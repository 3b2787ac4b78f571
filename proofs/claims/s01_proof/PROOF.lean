import PyProof.Rows.All
import Wide.All
import OpenK.AllK
import Wide.FinOn
import PyProof.EqAt
import PyProof.EqKinds
import PyProof.TupleCall
import KE.BitLaws
import Open.SpecLaws
import KE.OsHead
import KE.OsGo
import PySem.Challenge.RW_meetclocks_s01_answers
import KE.KEqDict
import KE.KDictLaws
import KE.KRevIter
open PySem.W renaming Frag->aa,findIn->aq,nsIn->az,mg_of->aB,isFn->a9,keepIn->cp,mg_none_of->dh,makesIn->dj,emptyDict->eW,instObj->gF,fnOf->jy,codeIn->oV,plainGet->qG,methodCall_KW->sY,lookIn->tG,plainGet_of->vo,callWith_K->v9,methodObj->xa,hasDictIn->xb,takerIn->Ac,length_le_weightAllW->Ad,cellsFrom_some->Ea,callWith_K0->Il,plainOver->KJ,handedIn->L0,WRecords->L1,WalkOS->Oe
open And renaming intro->ab
open List renaming getElem?_eq_getElem->ae,mem_cons->ah,mem_cons_of_mem->ai,mem_cons_self->au,getElem?_eq_some_iff->aw,length_map->ax,length_cons->ay,not_mem_nil->aF,mem_map->aH,mem_of_getElem?->aI,length_append->aJ,mem_singleton->aL,getElem?_append_right->aM,mem_append->aN,getElem?_append_left->aO,map_cons->aP,getElem?_map->aR,contains_iff_mem->aS,size_toArray->aZ,map_append->bo,replicate->bx,getD_eq_getElem?_getD->bB,all_eq_true->bC,range->bF,length_nil->bI,foldl_cons->bJ,take_length->bP,length_filter_le->bS,take_of_length_le->bU,mem_append_right->cg,idxOf_lt_length_of_mem->cj,map_nil->cn,length_take->cw,any_eq_true->cx,length_drop->cD,append_assoc->cE,replicate_succ->cM,filter_cons->cR,getElem?_eq_none->cZ,map_map->da,mem_filter->dv,cons_append->dy,flatMap_cons->dI,mem_append_left->dJ,nil_append->dP,drop_eq_getElem_cons->dY,nodup_append->eh,foldr_cons->eK,append_nil->eL,all_cons->fc,drop_zero->fg,getElem_of_mem->fj,getElem?_range->fk,filterMap_cons->fm,find?_cons->fo,take_append_drop->fB,mem_flatMap->fI,mem_filterMap->fJ,getElem?_cons_succ->fX,foldl_append->fY,isEmpty_iff->gs,nodup_cons->gX,ext_getElem?->hJ,map_congr_left->iw,flatMap_append->iy,mem_range->iz,lookup_cons->iA,getElem?_cons_zero->iB,take_append_of_le_length->iO,drop_eq_nil_of_le->iV,any_cons->jg,find?_append->ji,take_zero->jQ,mem_of_mem_take->jR,lookup->jS,length->jT,getElem?_zipIdx->jU,isEmpty_nil->jZ,length_pos_iff->kb,find?_eq_none->kW,filter_filter->kX,length_eq_zero_iff->kZ,findIdx?_eq_some_iff_getElem->lW,getElem?_set_self->l9,getElem?_set->md,takeWhile_append_dropWhile->mL,getElem?_reverse->mZ,flatMap_map->ny,mem_of_getLast?->nV,getElem?_set_ne->nW,dropLast_subset->nX,take_succ_cons->oX,takeWhile_cons->oY,mem_map_of_mem->oZ,length_reverse->o9,length_zipIdx->pS,findIdx?_cons->pU,filter_append->pV,contains_cons->pW,flatten_cons->qH,filter->qI,length_filterMap_le->rj,drop_length->sJ,of_mem_zip->tK,length_set->tL,drop_left->vv,drop_drop->vw,dropLast_concat->vx,find?_eq_bind_findIdx?_getElem?->w6,drop_succ_cons->w9,set_cons_succ->yt,map_inj_right->yu,reverse_cons->zy,length_range->zz,all_map->zA,isEmpty_map->Ay,getElem_mem->Az,filter_map->Cs,mem_of_find?_eq_some->Ed,getLast?_eq_none_iff->Ee,zipWith->Io,range_succ_eq_map->Ip,length_replicate->IC,filterMap_append->ID,replicate_succ'->KQ,drop_eq_nil_iff->KR,toList_toArray->L6,replicate_zero->L7,getD_cons_succ->L8,filter_flatMap->L9,dropWhile_cons->Ma,zipIdx_append->NU,set_cons_zero->NV,foldl->NW,flatMap_assoc->NX,filterMap_nil->NY,filterMap_map->NZ,take_add_one->Og,isEmpty_cons->Oh,zipWith_map->Ru,zipIdx_cons->Rv,mem_reverse->Rw,map_reverse->Rx,range_succ->RS,idxOf_cons->RT,headD_cons->RU,forIn_nil->Ug,find?_map->Uh,sum_cons->UY,set_set->W6,any_map->W7,all_nil->W8,map_id->XY
open Bool renaming false_eq_true->aE,and_eq_true->aU,false_ne_true->aW,eq_false_iff->bz,not_false->bH,eq_iff_iff->bQ,not_true->bR,noConfusion->dc,true_and->fP,or_eq_true->fZ,false_or->jh,not_eq_true'->jk,or_false->kK,false_and->vy,and_true->xg,not_eq_true->AB,true_or->Iq,and_eq_false_iff->IE,and_eq_true_iff->KS,toNat_true->RV,and_false->Ui,or_true->Xa,toNat->Z3
open Nat renaming le_refl->aQ,lt_of_lt_of_le->bh,le_trans->bw,zero_le->ck,ne_of_lt->cI,pow_succ->dW,lt_irrefl->fQ,zero_add->gk,mul_comm->ia,add_comm->i6,add_zero->j0,mul_assoc->kR,two_pow_pos->kU,mul_add->lV,lt_succ_of_lt->mn,le_add_right->nD,and_two_pow_sub_one_eq_mod->nE,pow_le_pow_right->oh,min_eq_left->oW,mul_one->rg,le_of_succ_le->rh,div_eq_of_lt->tf,le_of_lt->tH,le_of_eq->tI,div_div_eq_div_mul->tJ,mul_add_div->uV,mul_le_mul_left->xc,lt_of_le_of_lt->yz,lt_succ_self->AU,lt_of_not_le->AV,not_lt->Ec,add_assoc->Gd,ne_of_gt->IB,pow_mul->L4,mul_le_mul_right->L5,mul_left_comm->Rt,not_lt_zero->Ue,succ_mul->XS,sub_zero->XT,lt_trans->XU,one_mul->Z0,le_zero->Z1
open Or renaming inl->aX,inr->KN
open PySem.F renaming plainAttrs_list->bc,type_list_append->bp,slot_list_append->bq,type_list_extend->ql,slot_list_extend->qm,slot_dict_get->sZ,slot_dict_setdefault->Ae,plainAttrs_dict->C6,args_dict_get_3->C7,entry_dict_get->Eb
open Md16 renaming ascii->bA,words->bG,split->bK,answer->cz,asks->cJ,states->dA,start->dH,next->eU,Step->fH,tooMany->gZ,St->iU,read->jf,between->l0,rests->nq,bound->nt,askOf->nv,Ask->nU,name->sI,shown->yr,LARGEST->zx,kept->Ax,stuck->C8,least->C9,ways->Ge,ROOM->Gf,ASKS->Gg,way->KP,lines->NT,number->XW,letter->XX,digit->Z2
open PySem renaming mem_of_lookup->bV,intText?->vn,Within->Gb,evalArgs_none->KI,call->XF
open Option.some renaming injEq->b4,inj->cH
open Sum renaming inl->cy,inr->fi
open Option renaming map_some->cY,isSome_iff_exists->fG,bind_some->mJ,map->pO,isSome_some->pP,isSome_map->yq,map_eq_some_iff->F4,map_eq_none_iff->F5,isSome_none->KO,getD_none->NS,map_none->Of,bind->UX
open False renaming elim->dB
open PyProof.Rows renaming callWith_type1->eC,split_le->ZT,signs_ofString->ZU,partition_whole->ZV,join_tuple->ZW,join_list->ZX,iadd_int->ZY,callWith_builtin1->ZZ
open List.cons renaming injEq->iC
open PyFlat renaming played->i5,rows->nj,calls->oP,told->uU,row->Cr,call->Im
open PyMd16 renaming answers_asked->jx,answers->lU,shape->oO,whole->F2,calls->F3
open True renaming intro->jP
open Int renaming toNat->j1,zero_add->Af,toNat_natCast->Ry
open Md16Neutral renaming long->kY,whole32->mK,bytes8->nF,step->pQ,few->xf,asked->F6
open Array renaming getElem?_eq_getElem->qo,length_toList->wb,getElem?_eq_none->Gh,toList->UZ
open ForInStep renaming yield->rl
open Ne renaming symm->rn
open PySem.Builtin.Str renaming strKind->vq
open Prod.mk renaming injEq->vt
open Classical renaming byContradiction->AA
open Function renaming comp->Ct
open Prod renaming fst->KL,snd->Ud
open Eq renaming trans->W9
open PySem.W.Looks renaming here->XG
open PySem.EqMixed renaming ne_str_int->XH,ne_str_bool->XI,ne_int_str->XJ,ne_bool_str->XM,eq_str_int->XN,eq_str_bool->XO,eq_int_str->XQ,eq_bool_str->XR
open PySem.Within renaming cons->ZE
open PySem.EqNone renaming ne_str_none->ZF,ne_none_str->ZG,ne_none_none->ZH,ne_none_int->ZI,ne_none_bool->ZJ,ne_int_none->ZK,ne_bool_none->ZL,eq_str_none->ZM,eq_none_str->ZN,eq_none_none->ZO,eq_none_int->ZP,eq_none_bool->ZQ,eq_int_none->ZR,eq_bool_none->ZS
set_option Elab.async false
set_option linter.all false
set_option maxRecDepth 100000
set_option maxRecDepth 100000
namespace L2
open PySem PySem.Spec PyProof.Rows
abbrev Key:=Sum Int Str
def zI:Key->Value->Bool
 | .inl k,v=>Value.isInt k v
 | .inr x,v=>Value.isStrOf x v
def aar (w:World):Key->Int
 | .inl k=>hashInt k
 | .inr x=>hashStr w x
theorem gg:∀{k:Key}{v:Value},zI k v=true->(∃i t,k=cy i/\v=Value.int i t)\/(∃x t,k=fi x/\v=Value.str x t)
 | .inl i,v,h=>by
  obtain⟨t,e⟩:=Value.isInt_shape (k:=i) (v:=v) h;exact .inl ⟨i,t,rfl,e⟩
 | .inr x,v,h=>by
  obtain⟨t,e⟩:=Value.isStrOf_shape (x:=x) (v:=v) h;exact .inr ⟨x,t,rfl,e⟩
theorem M8 (i:Int) (t:Tok):zI (.inl i) (.int i t)=true:=by simp[zI,Value.isInt]
theorem M7 (x:Str) (t:Tok):zI (.inr x) (.str x t)=true:=by simp[zI,Value.isStrOf]
theorem VZ (a b:Int):decide ((cy a:Key)=cy b)=(a==b):=by
 by_cases e:a=b
 ·subst e;simp
 ·have h:¬(cy a:Key)=cy b:=λq=>e (Sum.inl.inj q)
  rw[decide_eq_false h];exact(beq_eq_false_iff_ne.mpr e).symm
theorem VW (a b:Str):decide ((fi a:Key)=fi b)=decide (a=b):=by
 by_cases e:a=b
 ·subst e;simp
 ·have h:¬(fi a:Key)=fi b:=λq=>e (Sum.inr.inj q)
  rw[decide_eq_false h,decide_eq_false e]
theorem VY (a:Int) (b:Str):decide ((cy a:Key)=fi b)=false:=decide_eq_false (λq=>nomatch q)
theorem VX (a:Str) (b:Int):decide ((fi a:Key)=cy b)=false:=decide_eq_false (λq=>nomatch q)
def gc (prog:Program) (w:World):PySem.KeyKind prog w Key where
 is:=zI
 hash:=aar w
 inj:=λv a b ha hb=>by
  rcases gg ha with⟨i,t,rfl,rfl⟩|⟨x,t,rfl,rfl⟩
  ·rcases gg hb with⟨j,u,rfl,e⟩|⟨y,u,rfl,e⟩
   ·injection e with e1 _;rw[e1]
   ·exact nomatch e
  ·rcases gg hb with⟨j,u,rfl,e⟩|⟨y,u,rfl,e⟩
   ·exact nomatch e
   ·injection e with e1 _;rw[e1]
 byValue:=λk v h=>by
  rcases gg h with⟨i,t,rfl,rfl⟩|⟨x,t,rfl,rfl⟩<;>rfl
 pyHash:=λhv h=>by
  rcases gg hv with⟨i,t,rfl,rfl⟩|⟨x,t,rfl,rfl⟩
  ·exact wpAny_pyHash_int h
  ·exact wpAny_pyHash_str h
 eqBool:=λhu hv h=>by
  rcases gg hu with⟨i,t,rfl,rfl⟩|⟨x,t,rfl,rfl⟩
  ·rcases gg hv with⟨j,u,rfl,rfl⟩|⟨y,u,rfl,rfl⟩
   ·rw[VZ]at h;exact wpAny_eqBool_int h
   ·rw[VY]at h;exact SeqAt.EqAt.int_str i t y u _ _ _ _ h
  ·rcases gg hv with⟨j,u,rfl,rfl⟩|⟨y,u,rfl,rfl⟩
   ·rw[VX]at h;exact SeqAt.EqAt.str_int x t j u _ _ _ _ h
   ·rw[VW]at h;exact wpAny_eqBool_str h
 «strs»:=λk x t v h=>by
  rcases gg h with⟨i,u,rfl,e⟩|⟨y,u,rfl,e⟩
  ·exact nomatch e
  ·injection e with e1 _
   subst e1;cases v<;>rfl
theorem He (prog:Program) (w:World) (i:Int) (t:Tok):(gc prog w).is (.inl i) (.int i t)=true:=M8 i t
theorem Hd (prog:Program) (w:World) (x:Str) (t:Tok):(gc prog w).is (.inr x) (.str x t)=true:=M7 x t
end L2
namespace L2
open PySem PySem.Spec PyProof.Rows
inductive V where
 | gi|bl (b:Bool)|int (i:Int)|str (x:Str)|Iw (b:Array UInt8)|flt (b:UInt64)|ref (a:Addr)|ty (n:String)
 deriving DecidableEq
def RelV:V->Value->Prop
 | .gi,u=>u=Value.none
 | .bl b,u=>u=Value.bool b
 | .int i,u=>∃t,u=Value.int i t
 | .str x,u=>∃t,u=Value.str x t
 | .Iw b,u=>∃t,u=Value.bytes b t
 | .flt b,u=>∃t,u=Value.float b t
 | .ref a,u=>u=Value.ref a
 | .ty n,u=>u=Value.type n
abbrev Vals:List V->List Value->Prop:=Paired RelV
theorem Vals.length {xs:List V}{us:List Value}(r:Vals xs us):xs.length=us.length:=Paired.length r
theorem Vals.get:∀{xs:List V}{us:List Value}{i:Nat}{x:V},Vals xs us->xs[i]?=some x->∃u,us[i]?=some u/\RelV x u
 | _,_,_,_,.nil,e=>by simp at e
 | _,_,0,_,.cons r _,e=>by simp at e;subst e;exact⟨_,rfl,r⟩
 | _,_,i+1,x,.cons _ t,e=>by
  obtain⟨u,h1,h2⟩:=Vals.get (i:=i) (x:=x) t (by simpa using e);exact⟨u,by simpa using h1,h2⟩
theorem Vals.set {x:V}{u:Value}(r:RelV x u):∀{xs:List V}{us:List Value}(i:Nat),Vals xs us->Vals (xs.set i x) (us.set i u)
 | _,_,_,.nil=>.nil
 | _,_,0,.cons _ t=>.cons r t
 | _,_,i+1,.cons q t=>.cons q (Vals.set r i t)
theorem Vals.append:∀{xs ys:List V}{us ws:List Value},Vals xs us->Vals ys ws->Vals (xs++ys) (us++ws)
 | _,_,_,_,.nil,s=>s
 | _,_,_,_,.cons r t,s=>.cons r (Vals.append t s)
theorem Vals.take:∀{xs:List V}{us:List Value}(n:Nat),Vals xs us->Vals (xs.take n) (us.take n)
 | _,_,0,_=>.nil
 | _,_,_+1,.nil=>.nil
 | _,_,n+1,.cons r t=>.cons r (Vals.take n t)
theorem Vals.drop:∀{xs:List V}{us:List Value}(n:Nat),Vals xs us->Vals (xs.drop n) (us.drop n)
 | _,_,0,r=>r
 | _,_,_+1,.nil=>.nil
 | _,_,n+1,.cons _ t=>Vals.drop n t
def tE:Option V->Option Value->Prop
 | some v,some u=>RelV v u
 | none,none=>True
 | _,_=>False
def KV {κ:Type}:List (κ×V)->List (κ×Value)->Prop:=Paired λ(p:κ×V) (q:κ×Value)=>p.1=q.1/\RelV p.2 q.2
def kV:Key->V
 | .inl i=>.int i
 | .inr x=>.str x
inductive HO where
 | lst (xs:List V)
 | tup (xs:List V)
 | dK (bD:List (Key×V))|dT (bD:List (List Key×V))
 | set (S:Int->Bool) (n:Nat)
 | ins (C dx:Addr) (fs:List (Str×V))
 | own (x:Addr)
 | xd (fs:List (Str×V))
 | met (f x:Addr)
 | rng (lo hi:Int)
 | oJ (o:Obj) (u:HO)
 | U6 (ps:Array Value)
 | ext (φ:Heap->Prop)
abbrev Hp:=Addr->Option HO
def upd (H:Hp) (a:Addr) (o:HO):Hp:=λb=>if b=a then some o else H b
theorem c0 {H:Hp}{a:Addr}{o:HO}:upd H a o a=some o:=by unfold upd;rw[if_pos rfl]
theorem cv {H:Hp}{a b:Addr}{o:HO}(h:b≠a):upd H a o b=H b:=by unfold upd;rw[if_neg h]
theorem KZ {H:Hp}{a:Addr}{o u:HO}:upd (upd H a o) a u=upd H a u:=by
 funext b;unfold upd;split<;>rfl
theorem aK {H:Hp}{a b:Addr}{o u:HO}(h:H a=some o) (h':H b=some u) (d:o≠u):a≠b:=by
 intro e;subst e;rw[h]at h';exact d (cH h')
theorem a6 {H:Hp}{a b:Addr}{o:HO}(h:H a=some o) (h':H b=none):a≠b:=by
 intro e;subst e;rw[h]at h';cases h'
section
variable (P:Program) (w:World)
def gB (H:Hp) (h:Heap) (a:Addr):HO->Prop
 | .lst xs=>xs.length<=sizeLine/\∃(cC:List Value) (n:Nat),Vals xs cC/\h.get? a=some { cls:=.type "list",data:=.seq cC.toArray n }
 | .tup xs=>xs.length<=sizeLine/\∃cC:List Value,Vals xs cC/\IsTup h a cC.toArray
 | .dK bD=>bD.length<=sizeLine/\(a==sysModules)=false/\∃vs,KV bD vs/\h.DictOf (gc P w) a vs
 | .dT bD=>bD.length<=sizeLine/\(a==sysModules)=false/\∃xs:List (List Key×Addr×Value),
   Paired (λ(p:List Key×V) (q:List Key×Addr×Value)=>p.1=q.1/\H q.2.1=some (.tup (p.1.map kV))/\RelV p.2 q.2.2) bD xs /\
   ∃o es ep,h.get? a=some o/\o.ExactDict/\o.data = .dict es ep/\es.toList=xs.map (entryOfKey (tupleKind (gc P w)))/\(xs.map (·.1)).Nodup
 | .set S n=>h.SetOf (intKind P w) a S n
 | .ins C dx fs=>H dx=some (.own a)/\fs.length<=1000/\dx≠a/\h.get? a=some (gF C dx) /\
   ∃mA,h.Ns1 dx mA/\(∀f,tE (fs.lookup f) (mA f))/\Gb mA (fs.map (·.1))
 | .own _=>∃o,h.get? a=some o
 | .xd fs=>∃mA,h.Ns1 a mA/\∀f,tE (fs.lookup f) (mA f)
 | .rng lo hi=>∃t u v,h.get? a=some { cls:=.type "range",data:=.fields #[.int lo t,.int hi u,.int 1 v] }
 | .oJ o u=>h.get? a=some o/\gB H h a u
 | .U6 ps=>h.get? a=some { cls:=.none,data:=.fields ps }
 | .met f x=>h.get? a=some (xa (.ref f) (.ref x))
 | .ext φ=>φ h/\(∃o,h.get? a=some o)/\∀h1 h2:Heap,φ h1->(∀o,h1.get? a=some o->h2.get? a=some o)->φ h2
def tF (H:Hp) (h:Heap):Prop:=∀a o,H a=some o->gB P w H h a o
end
section
variable {P:Program}{w:World}{H H':Hp}{h h':Heap}{a:Addr}{o:HO}
theorem gB.lt (x:gB P w H h a o):a<h.objs.size:=by
 cases o with
 | lst xs=>obtain⟨_,_,_,_,e⟩:=x;exact Heap.lt_size e
 | tup xs=>obtain⟨_,_,_,p⟩:=x;exact p.lt
 | dK bD=>obtain⟨_,_,_,_,o,_,_,e,_⟩:=x;exact Heap.lt_size e
 | dT bD=>obtain⟨_,_,_,_,o,_,_,e,_⟩:=x;exact Heap.lt_size e
 | set S n=>obtain⟨o,_,_,_,e,_⟩:=x;exact Heap.lt_size e
 | ins C dx fs=>obtain⟨_,_,_,e,_⟩:=x;exact Heap.lt_size e
 | own y=>obtain⟨_,e⟩:=x;exact Heap.lt_size e
 | xd fs=>obtain⟨_,⟨_,_,_,e,_⟩,_⟩:=x;exact Heap.lt_size e
 | rng lo hi=>obtain⟨_,_,_,e⟩:=x;exact Heap.lt_size e
 | oJ ob u=>obtain⟨e,_⟩:=x;exact Heap.lt_size e
 | U6 ps=>exact Heap.lt_size (show h.get? a=some _ from x)
 | met f y=>exact Heap.lt_size (show h.get? a=some _ from x)
 | ext φ=>obtain⟨_,⟨_,e⟩,_⟩:=x;exact Heap.lt_size e
theorem Paired.VO {α β:Type}{F G:α->β->Prop}:∀{J2:List α}{J1:List β},Paired F J2 J1->(∀a b,F a b->G a b)->Paired G J2 J1
 | _,_,.nil,_=>.nil
 | _,_,.cons r t,f=>.cons (f _ _ r) (Paired.VO t f)
theorem gB.Am (x:gB P w H h a o) (k:∀b u,(b=a\/H b=some (.own a))->h.get? b=some u->h'.get? b=some u)
  (ho:∀b,H b=some (.own a)->H' b=some (.own a)) (ht:∀b xs,H b=some (.tup xs)->H' b=some (.tup xs)):gB P w H' h' a o:=by
 induction o with
 | lst xs=>obtain⟨z,cC,n,r,e⟩:=x;exact⟨z,cC,n,r,k _ _ (.inl rfl) e⟩
 | tup xs=>obtain⟨z,cC,r,ob,e,c⟩:=x;exact⟨z,cC,r,ob,k _ _ (.inl rfl) e,c⟩
 | dK bD=>obtain⟨z,y,vs,r,ob,es,ep,e,c⟩:=x;exact⟨z,y,vs,r,ob,es,ep,k _ _ (.inl rfl) e,c⟩
 | dT bD =>
  obtain⟨z,y,xs,r,ob,es,ep,e,c⟩:=x;exact⟨z,y,xs,Paired.VO r λp q z=>⟨z.1,ht _ _ z.2.1,z.2.2⟩,ob,es,ep,k _ _ (.inl rfl) e,c⟩
 | set S n=>obtain⟨ob,es,ep,t,e,c⟩:=x;exact⟨ob,es,ep,t,k _ _ (.inl rfl) e,c⟩
 | ins C dx fs =>
  obtain⟨d,z,ne,e,mA,⟨od,es,ep,e2,c⟩,r⟩:=x;exact⟨ho _ d,z,ne,k _ _ (.inl rfl) e,mA,⟨od,es,ep,k _ _ (.inr d) e2,c⟩,r⟩
 | own y=>obtain⟨ob,e⟩:=x;exact⟨ob,k _ _ (.inl rfl) e⟩
 | xd fs=>obtain⟨mA,⟨od,es,ep,e,c⟩,r⟩:=x;exact⟨mA,⟨od,es,ep,k _ _ (.inl rfl) e,c⟩,r⟩
 | rng lo hi=>obtain⟨t,u,v,e⟩:=x;exact⟨t,u,v,k _ _ (.inl rfl) e⟩
 | oJ ob u ih=>obtain⟨e,q⟩:=x;exact⟨k _ _ (.inl rfl) e,ih q⟩
 | U6 ps =>
  have e:h.get? a=some { cls:=.none,data:=.fields ps }:=x;show h'.get? a=some { cls:=.none,data:=.fields ps };exact k a _ (.inl rfl) e
 | met f y =>
  have e:h.get? a=some (xa (.ref f) (.ref y)):=x;show h'.get? a=some (xa (.ref f) (.ref y));exact k a _ (.inl rfl) e
 | ext φ=>obtain⟨p,⟨o,e⟩,st⟩:=x;exact⟨st _ _ p λo q=>k _ _ (.inl rfl) q,⟨o,k _ _ (.inl rfl) e⟩,st⟩
theorem tF.lt (x:tF P w H h) (e:H a=some o):a<h.objs.size:=(x a o e).lt
theorem tF.fresh (x:tF P w H h) (e:h.objs.size<=a):H a=none:=by
 cases q:H a with
 | none=>rfl
 | some u=>exact absurd (bh (x.lt q) e) (fQ _)
theorem tF.kept (x:tF P w H h) (k:∀b u,h.get? b=some u->h'.get? b=some u):tF P w H h':=λa o e =>
 (x a o e).Am (λb u _ q=>k b u q) (λ_ q=>q) λ_ _ q=>q
theorem tF.laid (x:tF P w H h) (k:∀b u,h.get? b=some u->h'.get? b=some u) (hp:h.objs.size<=a) (new:gB P w (upd H a o) h' a o):tF P w (upd H a o) h':=λb u e=>by
 have hn:=x.fresh hp;by_cases hb:b=a
 ·subst hb;rw[c0]at e;cases e;exact new
 ·rw[cv hb]at e;exact(x b u e).Am (λc v _ q=>k c v q) (λc q=>by rw[cv (a6 q hn)];exact q) λc xs q=>by rw[cv (a6 q hn)];exact q
end
def Rd (H:Hp) (a:Addr) (u:HO):Prop:=H a=some u\/∃o,H a=some (.oJ o u)
theorem Rd.ok {P:Program}{w:World}{H:Hp}{h:Heap}{a:Addr}{u:HO}(r:Rd H a u) (x:tF P w H h):gB P w H h a u:=by
 rcases r with r|⟨o,r⟩
 ·exact x a u r
 ·obtain⟨_,q⟩:=x a _ r;exact q
def UW:Option HO->Prop
 | some (.lst _)=>True
 | some (.dK _)=>True
 | some (.dT _)=>True
 | some (.set _ _)=>True
 | some (.ins _ _ _)=>True
 | some (.ext _)=>True
 | _=>False
section
variable {P:Program}{w:World}{H:Hp}{h h':Heap}{x e:Addr}{o':HO}
theorem tF.write (ok:tF P w H h) (mu:UW (H x)) (he:e=x\/H e=some (.own x)) (k:∀b u,b≠e->h.get? b=some u->h'.get? b=some u) (Xw:∃u,h'.get? e=some u)
  (new:gB P w (upd H x o') h' x o'):tF P w (upd H x o') h':=λb u q=>by
 have Yr:∀c y,H c=some (.own y)->c≠x:=λc y r z=>by subst z;rw[r]at mu;exact mu
 have aaf:∀c xs,H c=some (.tup xs)->c≠x:=λc xs r z=>by subst z;rw[r]at mu;exact mu
 by_cases hb:b=x
 ·subst hb;rw[c0]at q;cases q;exact new
 ·rw[cv hb]at q;by_cases Wm:b=e
  ·have q':H b=some (.own x):=by
    rcases he with z|z
    ·exact absurd (Wm.trans z) hb
    ·rw[Wm];exact z
   rw[q]at q';cases q';obtain⟨v,hv⟩:=Xw;exact⟨v,by rw[Wm];exact hv⟩
  ·refine(ok b u q).Am (λc v hc r=>k c v ?_ r) (λc r=>by rw[cv (Yr c b r)];exact r) λc xs r=>by rw[cv (aaf c xs r)];exact r
   rcases hc with rfl|hc
   ·exact Wm
   ·rintro rfl;rcases he with z|z
    ·exact Yr c b hc z
    ·rw[hc]at z;cases z;exact hb rfl
end
structure Un (fs ex:List Addr) (H H':Hp) (h h':Heap):Prop where
 keep:∀b o,h.get? b=some o->H b=none->b∉fs->b∉ex->h'.get? b=some o
 slot:∀b o,h.get? b=some o->H b=none->b∈fs->b∉ex->∃sl,h'.get? b=some { o with slots:=sl }
 free:∀b o,h.get? b=some o->H b=none->b∉ex->H' b=none
 there:∀b o,h.get? b=some o->b∉ex->∃o',h'.get? b=some o'
 Cw:∀b xs,H b=some (.tup xs)->H' b=some (.tup xs)
 xN:∀b o u,H b=some (.oJ o u)->H' b=some (.oJ o u)
 CG:∀b ps,H b=some (.U6 ps)->∃more,H' b=some (.U6 (ps++more))
section
variable {fs RN ex ex':List Addr}{H H1 H2:Hp}{h h1 h2 h':Heap}{a x e:Addr}{o:HO}
theorem Un.any (u:Un fs ex H H1 h h1){b:Addr}{ob:Obj}(q:h.get? b=some ob) (n:H b=none) (hx:b∉ex):∃sl,h1.get? b=some { ob with slots:=sl }:=by
 by_cases hb:b∈fs
 ·exact u.slot b ob q n hb hx
 ·exact⟨ob.slots,u.keep b ob q n hb hx⟩
theorem Un.kept (k:∀b u,h.get? b=some u->h'.get? b=some u):Un fs ex H H h h' :=
 ⟨λb ob q _ _ _=>k b ob q,λb ob q _ _ _=>⟨ob.slots,k b ob q⟩,λ_ _ _ n _=>n,λb ob q _=>⟨ob,k b ob q⟩,λ_ _ q=>q,λ_ _ _ q=>q,λ_ ps q=>⟨#[],by rw[q];simp⟩⟩
theorem Un.refl:Un fs ex H H h h:=Un.kept λ_ _ q=>q
theorem Un.laid (k:∀b u,h.get? b=some u->h'.get? b=some u) (hp:h.objs.size<=a) (hn:H a=none):Un fs ex H (upd H a o) h h' where
 keep:=λb u q _ _ _=>k b u q
 slot:=λb u q _ _ _=>⟨u.slots,k b u q⟩
 free:=λb u q n _=>by rw[cv (cI (bh (Heap.lt_size q) hp))];exact n
 there:=λb u q _=>⟨u,k b u q⟩
 Cw:=λb xs q=>by rw[cv (a6 q hn)];exact q
 xN:=λb u xs q=>by rw[cv (a6 q hn)];exact q
 CG:=λb ps q=>⟨#[],by rw[cv (a6 q hn),q];simp⟩
theorem Un.write (mu:UW (H x)) (he:e=x\/H e=some (.own x)) (k:∀b u,b≠e->h.get? b=some u->h'.get? b=some u) (Xw:∃u,h'.get? e=some u):Un fs ex H (upd H x o) h h':=by
 have hx:∀b,H b=none->b≠x:=λb n z=>by subst z;rw[n]at mu;exact mu
 have hb:∀b,H b=none->b≠e:=λb n z=>by
  subst z;rcases he with r|r
  ·exact hx b n r
  ·rw[n]at r;cases r
 have hm:∀b u,H b=some u->¬UW (some u)->b≠x:=λb u q nm z=>by subst z;rw[q]at mu;exact nm mu
 refine⟨λb u q n _ _=>k b u (hb b n) q,λb u q n _ _=>⟨u.slots,k b u (hb b n) q⟩,λb u q n _=>by rw[cv (hx b n)];exact n,λb u q _=>?_,
  λb xs q=>by rw[cv (hm b _ q λz=>z)];exact q,λb u xs q=>by rw[cv (hm b _ q λz=>z)];exact q,λb ps q=>⟨#[],by rw[cv (hm b _ q λz=>z),q];simp⟩⟩
 by_cases Wm:b=e
 ·subst Wm;exact Xw
 ·exact⟨u,k b u Wm q⟩
end
def Z8 (h:Heap) (H:Hp):List Addr:=(bF h.objs.size).filter λa=>(H a).isSome
def xI (h:Heap) (H:Hp):Heap:=PySem.W.hideAll h (Z8 h H)
theorem DK (h:Heap) (H:Hp):(xI h H).objs.size=h.objs.size:=PySem.W.hideAll_size _ _
theorem Hs {h:Heap}{H:Hp}{b:Addr}{o:Obj}(e:h.get? b=some o) (n:H b=none):(xI h H).get? b=some o :=
 PySem.W.hideAll_get _ e λhm=>by
  have q:(H b).isSome=true:=(dv.mp hm).2;rw[n]at q;simp at q
theorem Lj {h:Heap}{H:Hp}{b:Addr}{o:Obj}(e:(xI h H).get? b=some o):h.get? b=some o/\H b=none:=by
 have e':h.get? b=some o:=PySem.W.of_hideAll (Z8 h H) e;refine⟨e',?_⟩;cases q:H b with
 | none=>rfl
 | some x =>
  have hm:b∈Z8 h H:=dv.mpr ⟨iz.mpr (Heap.lt_size e'),by simp[q]⟩;have z:(xI h H).get? b=none:=PySem.W.hideAll_none (Z8 h H) hm;rw[z]at e;cases e
def Ua (g h:Heap) (L:Addr):List (Addr×Obj):=(bF h.objs.size).filterMap λa=>if a=L\/(g.get? a).isSome=true then none else(h.get? a).map λo=>(a,o)
def rest (g h:Heap) (L d:Addr):List (Addr×Obj):=(Ua g h L).filter λp=>decide (p.1≠d)
end L2
namespace L2
open PySem PySem.Spec PyProof.Rows
structure Mod (K:aa) (mg:Str->Option Value) (base:Heap):Prop where
 YC:K.In base
 glob:base.Ns mainGlobals mg
 blt:∃mb,base.Ns builtinsNs mb/\∀x:Str,x ≠ "__name__" -> mb x=bootBuiltins x
 nolimit:base.NoLimit
structure Cx where
 prog:Program
 w:World
 K:aa
 mg:Str->Option Value
 base:Heap
 A:Around
 N:List Str
 Dr:Shared
 W4:Hp
 env:Env
 outer:List Env
 stack:List Env
 ex:List Addr
 fn:Str->Bool
 calm:Bool
 pn:List (Addr×Obj)
 xe:Value->Shared->Prop
def QW (l:List Env):List Addr:=l.filterMap (·.frame)
abbrev Cx.fs (X:Cx):List Addr:=QW X.outer
def XB (sc:Scope) (x:Str):Prop:=sc.names.lookup x=some .local\/sc.names.lookup x=some .cell\/sc.names.lookup x=some .free
def Loc (sc:Scope) (x:Str):Prop:=sc.names.lookup x=some .local\/sc.names.lookup x=some .cell
def Look (env:Env) (h:Heap) (m:Str->Option Value) (x:Str) (u:Value):Prop :=
 (env.kindOf x=some .local/\m x=some u)\/((env.kindOf x=some .cell\/env.kindOf x=some .free)/\∃c,env.cells.lookup x=some c/\h.IsCell c (some u))
structure Cx.Ok (X:Cx):Prop where
 mod:Mod X.K X.mg X.base
 kind:X.env.scope.kind = .function
 glob:X.env.globals=mainGlobals
 blt:X.env.builtins=builtinsNs
 above:X.Dr.heap.objs.size<=X.env.locals
 inj:∀x y c,X.env.cells.lookup x=some c->X.env.cells.lookup y=some c->x=y
 has:∀x,(X.env.kindOf x=some .cell\/X.env.kindOf x=some .free)->∃c,X.env.cells.lookup x=some c
 Zw:∀x c,X.fn x=true->X.env.cells.lookup x=some c->X.Dr.heap.objs.size<=c
 hd:X.calm=true->X.A.handled=none
 frames:X.A.frames=some X.stack
 Es:X.stack=X.outer\/(X.stack=X.env::X.outer/\X.env.frame=some X.env.locals)
 exf:∀b∈X.ex,b≠X.env.locals/\∀x c,X.env.cells.lookup x=some c->c≠b
 bs:∀b o,X.base.get? b=some o->X.Dr.heap.get? b=some o/\X.W4 b=none
 Rf:X.base.objs.size<=X.Dr.heap.objs.size
 Pz:∀b o,X.base.get? b=some o->b∉X.ex
 Q1:∀b∈X.ex,b∉X.fs
 yZ:X.Dr.heap.FunFrames X.base X.outer
 TF:∀b∈X.fs,X.W4 b=none
structure Inv (X:Cx) (pins:List (Addr×Obj)) (σ:List (Option V)) (H:Hp) (s:Shared):Prop where
 ok:X.Ok
 os:s.os=X.Dr.os
 bare:AllBare s.gens
 base:Un X.fs X.ex X.W4 H X.Dr.heap s.heap
 loc:∃m,s.heap.Ns X.env.locals m/\∀(i:Nat) (x:Str) (v:V),X.N[i]?=some x->σ[i]?=some (some v)->XB X.env.scope x->∃u,RelV v u/\Look X.env s.heap m x u
 cell:∀x c,X.env.cells.lookup x=some c->∃v,s.heap.IsCell c v
 free:H X.env.locals=none
 qV:∀x c,X.env.cells.lookup x=some c->H c=none
 pin:∀p∈X.pn++pins,s.heap.get? p.1=some p.2/\H p.1=none/\p.1≠X.env.locals/\p.1∉X.fs/\∀v,p.2.data ≠ .cell v
 df:tF X.prog X.w H s.heap
 len:σ.length=X.N.length
section
variable {X:Cx}{pins:List (Addr×Obj)}{σ:List (Option V)}{H H':Hp}{s:Shared}{h':Heap}
theorem Cx.Ok.aah (ok:X.Ok){b:Addr}{o:Obj}(e:X.base.get? b=some o):b∉X.fs:=λhb=>by
 have:=(ok.yZ.mem hb).1;rw[e]at this;cases this
theorem Inv.bs (I:Inv X pins σ H s):∀b o,X.base.get? b=some o->s.heap.get? b=some o/\H b=none:=λb o e =>
 ⟨I.base.keep b o (I.ok.bs b o e).1 (I.ok.bs b o e).2 (I.ok.aah e) (I.ok.Pz b o e),I.base.free b o (I.ok.bs b o e).1 (I.ok.bs b o e).2 (I.ok.Pz b o e)⟩
theorem Inv.bk (I:Inv X pins σ H s):∀b o,X.base.get? b=some o->s.heap.get? b=some o:=λb o e=>(I.bs b o e).1
theorem Inv.mod (I:Inv X pins σ H s):Mod X.K X.mg X.base:=I.ok.mod
theorem Inv.J4 (I:Inv X pins σ H s):X.K.In s.heap:=I.ok.mod.YC.keeps I.bk
theorem Inv.fr (I:Inv X pins σ H s):∃m,Fr X.base X.env.locals s.heap m :=
 let ⟨m,hn,_⟩:=I.loc
 ⟨m,hn,I.bk,bw I.ok.Rf I.ok.above⟩
theorem Inv.lt (I:Inv X pins σ H s):X.env.locals<s.heap.objs.size:=let ⟨_,hn,_⟩:=I.loc;hn.lt
theorem Inv.sz (I:Inv X pins σ H s):X.Dr.heap.objs.size<=s.heap.objs.size:=bw I.ok.above (tH I.lt)
theorem Inv.aag (I:Inv X pins σ H s){a:Addr}(h:s.heap.objs.size<=a):a∉X.fs:=λhb=>by
 obtain⟨_,o,ho,_⟩:=I.ok.yZ.mem hb;exact absurd (bh (Heap.lt_size ho) (bw I.sz h)) (fQ _)
theorem Inv.WL (I:Inv X pins σ H s):∀x c,X.env.cells.lookup x=some c->c≠X.env.locals:=λx c e z=>by
 obtain⟨v,o,ho,hd⟩:=I.cell x c e;obtain⟨m,⟨o',es,ep,N6,Tu,_⟩,_⟩:=I.loc;rw[z,N6]at ho;cases ho;rw[Tu]at hd;cases hd
theorem Inv.yZ (I:Inv X pins σ H s):s.heap.FunFrames X.base X.outer:=by
 have all:∀(l:List Env),(∀b∈QW l,b∈X.fs)->X.Dr.heap.FunFrames X.base l->s.heap.FunFrames X.base l:=by
  intro l
  induction l with
  | nil=>intro _ _;trivial
  | cons env r ih =>
   intro hs hl;obtain⟨hk,⟨L,o,hf,hn,ho,hd⟩,hr⟩:=hl;have hL:L∈X.fs:=hs L (by unfold QW;rw[fm,hf];exact au);obtain⟨sl,e⟩:=I.base.slot L o ho (I.ok.TF L hL) hL λz=>I.ok.Q1 L z hL
   exact⟨hk,⟨L,_,hf,hn,e,hd⟩,ih (λb hb=>hs b (by unfold QW;rw[fm,hf];exact ai _ hb)) hr⟩
 exact all X.outer (λ_ hb=>hb) I.ok.yZ
theorem Inv.stack (I:Inv X pins σ H s):s.heap.FunFrames X.base X.stack:=by
 rcases I.ok.Es with e|⟨e,hf⟩
 ·rw[e];exact I.yZ
 ·rw[e];obtain⟨m,hn,_⟩:=I.loc;refine .cons (by rw[I.ok.kind];decide) hf hn ?_ I.yZ;exact Heap.get?_none_of_le (bw I.ok.Rf I.ok.above)
theorem Inv.IZ (I:Inv X pins σ H s):∀b∈QW X.stack,b∈X.env.locals::X.fs:=λb hb=>by
 rcases I.ok.Es with e|⟨e,hf⟩
 ·rw[e]at hb;exact ai _ hb
 ·rw[e]at hb;unfold QW at hb;rw[fm,hf]at hb;exact hb
theorem Inv.K6 (I:Inv X pins σ H s):∀b∈QW X.stack,H b=none:=λb hb=>by
 rcases ah.mp (I.IZ b hb)with e|hb
 ·rw[e];exact I.free
 ·obtain⟨_,o,ho,_⟩:=I.ok.yZ.mem hb;exact I.base.free b o ho (I.ok.TF b hb) λz=>I.ok.Q1 b z hb
theorem Inv.step {g':Array GenState}{t':Nat}{d':Drawn}{ch:List Addr}(I:Inv X pins σ H s)
  (RI:∀b∈ch,(b∈X.ex\/X.Dr.heap.objs.size<=b)/\b≠X.env.locals/\(∀x c,X.env.cells.lookup x=some c->c≠b)/\∀p∈X.pn++pins,p.1≠b)
  (keep:∀b o,b≠X.env.locals->b∉X.fs->b∉ch->s.heap.get? b=some o->H b=none->h'.get? b=some o)
  (slot:∀b o,b≠X.env.locals->b∈X.fs->b∉ch->s.heap.get? b=some o->H b=none->∃sl,h'.get? b=some { o with slots:=sl }) (free:∀b o,b∉ch->s.heap.get? b=some o->H b=none->H' b=none)
  (there:∀b o,b∉ch->s.heap.get? b=some o->∃o',h'.get? b=some o')
  (Cw:∀b xs,H b=some (.tup xs)->H' b=some (.tup xs)) (xN:∀b o u,H b=some (.oJ o u)->H' b=some (.oJ o u)) (CG:∀b ps,H b=some (.U6 ps)->∃more,H' b=some (.U6 (ps++more)))
  (ns:∀m,s.heap.Ns X.env.locals m->h'.Ns X.env.locals m) (df:tF X.prog X.w H' h') (hg:AllBare g') :
  Inv X pins σ H' { s with heap:=h',gens:=g',drawn:=d',toks:=t' }:=by
 have neL:∀b o,X.Dr.heap.get? b=some o->b≠X.env.locals:=λb o e=>cI (bh (Heap.lt_size e) I.ok.above)
 have neC:∀b o,X.Dr.heap.get? b=some o->b∉X.ex->b∉ch:=λb o e hx hb=>by
  rcases(RI b hb).1 with z|z
  ·exact hx z
  ·exact absurd (bh (Heap.lt_size e) z) (fQ _)
 have cellK:∀x c,X.env.cells.lookup x=some c->∀v,s.heap.IsCell c v->h'.IsCell c v:=λx c e v ⟨o,ho,hd⟩=>by
  have Yu:c∉ch:=λz=>(RI c z).2.2.1 x c e rfl
  by_cases hc:c∈X.fs
  ·obtain⟨sl,q⟩:=slot c o (I.WL x c e) hc Yu ho (I.qV x c e);exact⟨_,q,hd⟩
  ·exact⟨o,keep c o (I.WL x c e) hc Yu ho (I.qV x c e),hd⟩
 refine⟨I.ok,I.os,hg,⟨λb o e n hb hx=>?_,λb o e n hb hx=>?_,λb o e n hx=>?_,λb o e hx=>?_,λb xs e=>Cw b xs (I.base.Cw b xs e),λb o xs e=>xN b o xs (I.base.xN b o xs e),λb ps e=>?_⟩,?_,λx c e=>?_,?_,λx c e=>?_,λp hp=>?_,df,I.len⟩
 ·exact keep b o (neL b o e) hb (neC b o e hx) (I.base.keep b o e n hb hx) (I.base.free b o e n hx)
 ·obtain⟨sl,e1⟩:=I.base.slot b o e n hb hx;obtain⟨sl',e2⟩:=slot b _ (neL b o e) hb (neC b o e hx) e1 (I.base.free b o e n hx);exact⟨sl',e2⟩
 ·obtain⟨o',e1⟩:=I.base.there b o e hx;exact free b o' (neC b o e hx) e1 (I.base.free b o e n hx)
 ·obtain⟨o',e1⟩:=I.base.there b o e hx;exact there b o' (neC b o e hx) e1
 ·obtain⟨m1,e1⟩:=I.base.CG b ps e;obtain⟨m2,e2⟩:=CG b _ e1;exact⟨m1++m2,by rw[e2,Array.append_assoc]⟩
 ·obtain⟨m,hn,hl⟩:=I.loc;refine⟨m,ns m hn,λi x v e1 e2 e3=>?_⟩;obtain⟨u,r,l⟩:=hl i x v e1 e2 e3;refine⟨u,r,?_⟩;rcases l with l|⟨k,c,e,z⟩
  ·exact .inl l
  ·exact .inr ⟨k,c,e,cellK x c e _ z⟩
 ·obtain⟨v,z⟩:=I.cell x c e;exact⟨v,cellK x c e v z⟩
 ·obtain⟨m,⟨o,_,_,ho,_⟩,_⟩:=I.loc;exact free _ o (λz=>(RI _ z).2.1 rfl) ho I.free
 ·obtain⟨v,o,ho,hd⟩:=I.cell x c e;exact free c o (λz=>(RI c z).2.2.1 x c e rfl) ho (I.qV x c e)
 ·obtain⟨e,n,ne,nf,d⟩:=I.pin p hp;have Yu:p.1∉ch:=λz=>(RI p.1 z).2.2.2 p hp rfl
  exact⟨keep p.1 p.2 ne nf Yu e n,free p.1 p.2 Yu e n,ne,nf,d⟩
theorem Inv.un {t':Nat}(I:Inv X pins σ H s) (u:Un X.fs [] H H' s.heap h') (df:tF X.prog X.w H' h'):Inv X pins σ H' { s with heap:=h',toks:=t' }:=by
 obtain⟨m,⟨o,es,ep,ho,r⟩,_⟩:=id I.loc;obtain⟨sl,hL⟩:=u.any ho I.free (by simp);exact I.step (g':=s.gens) (d':=s.drawn) (ch:=[]) (λ_ z=>nomatch z) (λb o _ hb _ e n=>u.keep b o e n hb (by simp)) (λb o _ hb _ e n=>u.slot b o e n hb (by simp)) (λb o _ e n=>u.free b o e n (by simp)) (λb o _ e=>u.there b o e (by simp)) u.Cw u.xN u.CG (λm' hm=>by
  obtain⟨o',Ob,RO,N6,r'⟩:=hm;rw[ho]at N6;cases N6;exact⟨_,Ob,RO,hL,r'⟩) df I.bare
theorem Inv.call {g':Array GenState}{t':Nat}{d':Drawn}{ch:List Addr}(I:Inv X pins σ H s) (u:Un (QW X.stack) ch H H' s.heap h') (df:tF X.prog X.w H' h') (hg:AllBare g')
  (RI:∀b∈ch,(b∈X.ex\/X.Dr.heap.objs.size<=b)/\b≠X.env.locals/\(∀x c,X.env.cells.lookup x=some c->c≠b)/\∀p∈X.pn++pins,p.1≠b) :
  Inv X pins σ H' { s with heap:=h',gens:=g',drawn:=d',toks:=t' }:=by
 obtain⟨m,⟨o,es,ep,ho,r⟩,_⟩:=id I.loc;obtain⟨sl,hL⟩:=u.any ho I.free λz=>(RI _ z).2.1 rfl
 exact I.step (ch:=ch) RI (λb o hL hb hc e n=>u.keep b o e n (λz=>(ah.mp (I.IZ b z)).elim hL hb) hc) (λb o _ _ hc e n=>u.any e n hc) (λb o hc e n=>u.free b o e n hc) (λb o hc e=>u.there b o e hc) u.Cw u.xN u.CG (λm' hm=>by
  obtain⟨o',Ob,RO,N6,r'⟩:=hm;rw[ho]at N6;cases N6;exact⟨_,Ob,RO,hL,r'⟩) df hg
theorem Inv.turned {t':Nat}{it:Addr}(I:Inv X pins σ H s) (k:∀b o,b≠it->s.heap.get? b=some o->h'.get? b=some o) (hn:H it=none) (hL:it≠X.env.locals)
  (h1:it∈X.ex\/X.Dr.heap.objs.size<=it) (h2:∀x c,X.env.cells.lookup x=some c->c≠it) (h3:∀p∈X.pn++pins,p.1≠it):Inv X pins σ H { s with heap:=h',toks:=t' }:=by
 have Uy:∀b u,H b=some u->b≠it:=λb u e z=>by rw[z,hn]at e;cases e
 refine I.step (g':=s.gens) (d':=s.drawn) (ch:=[it]) (λb hb=>?_) (λb o _ _ hc e _=>k b o (λz=>hc (by simp[z])) e) (λb o _ _ hc e _=>⟨o.slots,k b o (λz=>hc (by simp[z])) e⟩) (λ_ _ _ _ n=>n)
  (λb o hc e=>⟨o,k b o (λz=>hc (by simp[z])) e⟩) (λ_ _ e=>e) (λ_ _ _ e=>e) (λb ps e=>⟨#[],by rw[e];simp⟩) (λm hm=>?_) (λb u e=>?_) I.bare
 ·have e:b=it:=by simpa using hb
  subst e;exact⟨h1,hL,h2,h3⟩
 ·obtain⟨o,es,ep,ho,r⟩:=hm;exact⟨o,es,ep,k _ o (rn hL) ho,r⟩
 ·refine(I.df b u e).Am (λc v hc q=>k c v ?_ q) (λ_ q=>q) λ_ _ q=>q
  rcases hc with z|z
  ·rw[z];exact Uy b u e
  ·exact Uy c _ z
theorem Inv.tok (I:Inv X pins σ H s) (t:Nat):Inv X pins σ H { s with toks:=t }:=I.un (h':=s.heap) (t':=t) Un.refl I.df
theorem Inv.kept {t':Nat}(I:Inv X pins σ H s) (k:∀b u,s.heap.get? b=some u->h'.get? b=some u):Inv X pins σ H { s with heap:=h',toks:=t' }:=I.un (Un.kept k) (I.df.kept k)
theorem Inv.laid {a:Addr}{o:HO}{t':Nat}(I:Inv X pins σ H s) (k:∀b u,s.heap.get? b=some u->h'.get? b=some u) (hp:s.heap.objs.size<=a) (new:gB X.prog X.w (upd H a o) h' a o) :
  Inv X pins σ (upd H a o) { s with heap:=h',toks:=t' }:=I.un (Un.laid k hp (I.df.fresh hp)) (I.df.laid k hp new)
theorem Inv.write {x e:Addr}{o:HO}{t':Nat}(I:Inv X pins σ H s) (mu:UW (H x)) (he:e=x\/H e=some (.own x)) (k:∀b u,b≠e->s.heap.get? b=some u->h'.get? b=some u) (Xw:∃u,h'.get? e=some u)
  (new:gB X.prog X.w (upd H x o) h' x o):Inv X pins σ (upd H x o) { s with heap:=h',toks:=t' }:=I.un (Un.write mu he k Xw) (I.df.write mu he k Xw new)
theorem Inv.weak {fK:List (Option V)}(I:Inv X pins σ H s) (hl:fK.length=σ.length) (w:∀(i:Nat) v,fK[i]?=some (some v)->σ[i]?=some (some v)):Inv X pins fK H s :=
 ⟨I.ok,I.os,I.bare,I.base,let ⟨m,hn,CT⟩:=I.loc;⟨m,hn,λi x v e1 e2 e3=>CT i x v e1 (w i v e2) e3⟩,I.cell,I.free,I.qV,I.pin,I.df,hl.trans I.len⟩
theorem Inv.Lg {Ut:List (Addr×Obj)}(I:Inv X pins σ H s) (h:∀p∈Ut,s.heap.get? p.1=some p.2/\H p.1=none/\p.1≠X.env.locals/\p.1∉X.fs/\∀v,p.2.data ≠ .cell v):Inv X Ut σ H s :=
 ⟨I.ok,I.os,I.bare,I.base,I.loc,I.cell,I.free,I.qV,λp hp=>(aN.mp hp).elim (λz=>I.pin p (dJ _ z)) (h p),I.df,I.len⟩
theorem Bx {N:List Str}(hN:N.Nodup){i j:Nat}{x:Str}(a:N[i]?=some x) (b:N[j]?=some x):i=j:=by
 obtain⟨h1,e1⟩:=aw.mp a;obtain⟨h2,e2⟩:=aw.mp b;exact(List.getElem_inj hN).mp (e1.trans e2.symm)
theorem Mq {M:Model}{A:Around}{E:Value->Shared->Prop}{i:Nat}{x:Str}{v:V}{u:Value}{Q:Unit->Shared->Prop}(I:Inv X pins σ H s) (hN:X.N.Nodup) (hi:X.N[i]?=some x) (hx:Loc X.env.scope x) (r:RelV v u)
  (h:∀s',Inv X pins (σ.set i (some v)) H s'->(∃a,Heap.SameBut a s.heap s'.heap/\(a=X.env.locals\/X.env.cells.lookup x=some a))->Q () s') (hf:X.fn x=true\/X.env.scope.names.lookup x=some .local:=by first|exact .inl rfl|exact .inr rfl|assumption):wpAny M A (storeName X.env x u) Q E s:=by
 obtain⟨m,hn,hl⟩:=id I.loc;have aaQ:(X.env.scope.kind == .class||(X.env.scope.kind == .module&&X.env.locals != X.env.globals))=false:=by rw[I.ok.kind];rfl
 have YZ:i<σ.length:=by rw[I.len];exact(aw.mp hi).1
 have WL:=I.WL;have tracked:∀{a:Addr}{h':Heap},(∃o,s.heap.get? a=some o/\H a=none)->Heap.SameBut a s.heap h'->tF X.prog X.w H h':=λ{a h'} ha hs b ob e=>by
  obtain⟨_,_,DL⟩:=ha;refine(I.df b ob e).Am (λc w' hc q=>(hs.2 c ?_).trans q) (λ_ q=>q) λ_ _ q=>q
  rintro rfl;rcases hc with rfl|hc
  ·rw[DL]at e;cases e
  ·rw[DL]at hc;cases hc
 rcases hx with hk|hk
 ·refine wpAny_storeName_local hk hn (λh' To hs=>?_) aaQ;obtain⟨oL,_,_,hoL,_⟩:=id hn;refine h _ ⟨I.ok,I.os,I.bare,⟨λb o e n hb hx=>?_,λb o e n hb hx=>?_,I.base.free,λb o e hx=>?_,I.base.Cw,I.base.xN,I.base.CG⟩,⟨_,To,λj y v' e1 e2 e3=>?_⟩,λy c e=>?_,I.free,I.qV,λp hp=>?_,tracked ⟨oL,hoL,I.free⟩ hs,by simpa using I.len⟩ ⟨_,hs,.inl rfl⟩
  ·exact(hs.2 b (cI (bh (Heap.lt_size e) I.ok.above))).trans (I.base.keep b o e n hb hx)
  ·obtain⟨sl,e1⟩:=I.base.slot b o e n hb hx;exact⟨sl,(hs.2 b (cI (bh (Heap.lt_size e) I.ok.above))).trans e1⟩
  ·obtain⟨o',e1⟩:=I.base.there b o e hx;exact⟨o',(hs.2 b (cI (bh (Heap.lt_size e) I.ok.above))).trans e1⟩
  ·by_cases hj:j=i
   ·subst hj;rw[hi]at e1;cases e1;rw[l9 YZ]at e2;cases e2;exact⟨u,r,.inl ⟨hk,by simp⟩⟩
   ·rw[nW (rn hj)]at e2;obtain⟨u',r',q⟩:=hl j y v' e1 e2 e3;refine⟨u',r',?_⟩;rcases q with⟨k,e⟩|⟨k,c,e,z⟩
    ·refine .inl ⟨k,?_⟩;have:y≠x:=λe=>hj (Bx hN e1 (e▸hi))
     simp[this,e]
    ·exact .inr ⟨k,c,e,z.sameBut hs (WL y c e)⟩
  ·obtain⟨w',z⟩:=I.cell y c e;exact⟨w',z.sameBut hs (WL y c e)⟩
  ·obtain⟨e,n,ne,nf,d⟩:=I.pin p hp;exact⟨(hs.2 p.1 ne).trans e,n,ne,nf,d⟩
 ·have hfn:X.fn x=true:=by
   rcases hf with z|z
   ·exact z
   ·rw[z]at hk;cases hk
  obtain⟨c,hc⟩:=I.ok.has x (.inl hk);obtain⟨w',z⟩:=I.cell x c hc;refine wpAny_storeName_cell I.ok.kind hk hc z (λh' Y5 hs=>?_);obtain⟨oc,hoc,aaB⟩:=id z;refine h { s with heap:=h' } ⟨I.ok,I.os,I.bare,⟨λb o e n hb hx=>?_,λb o e n hb hx=>?_,I.base.free,λb o e hx=>?_,I.base.Cw,I.base.xN,I.base.CG⟩,⟨m,hn.sameBut hs (rn (WL x c hc)),λj y v' e1 e2 e3=>?_⟩,λy c' e=>?_,I.free,I.qV,λp hp=>?_,tracked ⟨oc,hoc,I.qV x c hc⟩ hs,by simpa using I.len⟩ ⟨c,hs,.inr hc⟩
  ·exact(hs.2 b (cI (bh (Heap.lt_size e) (I.ok.Zw x c hfn hc)))).trans (I.base.keep b o e n hb hx)
  ·obtain⟨sl,e1⟩:=I.base.slot b o e n hb hx;exact⟨sl,(hs.2 b (cI (bh (Heap.lt_size e) (I.ok.Zw x c hfn hc)))).trans e1⟩
  ·obtain⟨o',e1⟩:=I.base.there b o e hx;exact⟨o',(hs.2 b (cI (bh (Heap.lt_size e) (I.ok.Zw x c hfn hc)))).trans e1⟩
  ·by_cases hj:j=i
   ·subst hj;rw[hi]at e1;cases e1;rw[l9 YZ]at e2;cases e2;exact⟨u,r,.inr ⟨.inl hk,c,hc,Y5⟩⟩
   ·rw[nW (rn hj)]at e2;obtain⟨u',r',q⟩:=hl j y v' e1 e2 e3;refine⟨u',r',?_⟩;rcases q with q|⟨k,c',e,z'⟩
    ·exact .inl q
    ·refine .inr ⟨k,c',e,z'.sameBut hs ?_⟩;rintro rfl;exact hj (Bx hN e1 (I.ok.inj _ _ _ e hc▸hi))
  ·by_cases hcc:c'=c
   ·subst hcc;exact⟨_,Y5⟩
   ·obtain⟨w2,z2⟩:=I.cell y c' e;exact⟨w2,z2.sameBut hs hcc⟩
  ·obtain⟨e,n,ne,nf,d⟩:=I.pin p hp;refine⟨(hs.2 p.1 ?_).trans e,n,ne,nf,d⟩;intro q;rw[q,hoc]at e;have q':oc=p.2:=cH e;exact d w' (by rw[<-q'];exact aaB)
theorem A6 {M:Model}{A:Around}{E:Value->Shared->Prop}{i:Nat}{x:Str}{v:V}{u:Value}{Q:Unit->Shared->Prop}(I:Inv X pins σ H s) (hN:X.N.Nodup) (hi:X.N[i]?=some x) (hx:Loc X.env.scope x) (r:RelV v u)
  (h:∀s',Inv X pins (σ.set i (some v)) H s'->Q () s') (hf:X.fn x=true\/X.env.scope.names.lookup x=some .local:=by first|exact .inl rfl|exact .inr rfl|assumption):wpAny M A (storeName X.env x u) Q E s :=
 Mq I hN hi hx r (λs' I' _=>h s' I') hf
theorem Inv.Zv {s':Shared}{ch:List Addr}(I:Inv X pins σ H s) (ho:s'.os=s.os) (u:Un (QW X.stack) ch H H' s.heap s'.heap) (df:tF X.prog X.w H' s'.heap) (hg:AllBare s'.gens)
  (RI:∀b∈ch,(b∈X.ex\/X.Dr.heap.objs.size<=b)/\b≠X.env.locals/\(∀x c,X.env.cells.lookup x=some c->c≠b)/\∀p∈X.pn++pins,p.1≠b):Inv X pins σ H' s':=by
 obtain⟨h',g',d',t',o'⟩:=s';have e:o'=s.os:=ho;subst e;exact I.call (g':=g') (t':=t') (d':=d') u df hg RI
end
abbrev XK:=Value->Option Addr->Hp->Prop
abbrev St:=List (Option V)
abbrev VK:=V->Hp->Prop
abbrev TE:=St->Hp->VK->Prop
abbrev TT:=St->Hp->(Bool->Hp->Prop)->Prop
abbrev TA:=St->Hp->(List V->Hp->Prop)->Prop
structure Ends where
 nx:St->Hp->Prop
 rt:VK
 bk:St->Hp->Prop:=λ_ _=>False
 ct:St->Hp->Prop:=λ_ _=>False
abbrev TS:=Ends->St->Hp->Prop
def EP (X:Cx) (pins:List (Addr×Obj)) (σ:St) (Q:VK) (u:Value) (s':Shared):Prop:=∃v H',Inv X pins σ H' s'/\RelV v u/\Q v H'
def TP (X:Cx) (pins:List (Addr×Obj)) (σ:St) (Q:Bool->Hp->Prop) (b:Bool) (s':Shared):Prop:=∃H',Inv X pins σ H' s'/\Q b H'
def AP (X:Cx) (pins:List (Addr×Obj)) (σ:St) (Q:List V->Hp->Prop) (us:List Value) (s':Shared):Prop:=∃vs H',Inv X pins σ H' s'/\Vals vs us/\Q vs H'
def SP (X:Cx) (pins:List (Addr×Obj)) (D:Ends) (f:Flow) (s':Shared):Prop :=
 match f with
 | .next=>∃fK H',Inv X pins fK H' s'/\D.nx fK H'
 | .brk=>∃fK H',Inv X pins fK H' s'/\D.bk fK H'
 | .cont=>∃fK H',Inv X pins fK H' s'/\D.ct fK H'
 | .ret u=>∃v fK H',Inv X pins fK H' s'/\RelV v u/\D.rt v H'
def PE (X:Cx) (e:Expr) (t:TE):Prop :=
 ∀(pins:List (Addr×Obj)) (s:Shared) (σ:St) (H:Hp) (Q:VK),Inv X pins σ H s->t σ H Q->wpAny (model X.prog X.w) X.A (eval e X.env) (EP X pins σ Q) X.xe s
def PT (X:Cx) (e:Expr) (t:TT):Prop :=
 ∀(pins:List (Addr×Obj)) (s:Shared) (σ:St) (H:Hp) (Q:Bool->Hp->Prop),Inv X pins σ H s->t σ H Q->wpAny (model X.prog X.w) X.A (isTrue e X.env (eval e X.env)) (TP X pins σ Q) X.xe s
def PW (X:Cx) (e:Expr) (t:TT):Prop :=
 ∀(whole:Sem Value) (pins:List (Addr×Obj)) (s:Shared) (σ:St) (H:Hp) (Q:Bool->Hp->Prop),Inv X pins σ H s->t σ H Q->wpAny (model X.prog X.w) X.A (isTrue e X.env whole) (TP X pins σ Q) X.xe s
theorem PW.pt {X:Cx}{e:Expr}{t:TT}(h:PW X e t):PT X e t:=h _
def PA (X:Cx) (es:List Expr) (t:TA):Prop :=
 ∀(pos:Pos) (pins:List (Addr×Obj)) (s:Shared) (σ:St) (H:Hp) (Q:List V->Hp->Prop),Inv X pins σ H s->t σ H Q->wpAny (model X.prog X.w) X.A (spliced (backTo pos (starEach es X.env))) (AP X pins σ Q) X.xe s
def PS (X:Cx) (st:Stmt) (t:TS):Prop :=
 ∀(pins:List (Addr×Obj)) (s:Shared) (σ:St) (H:Hp) (D:Ends),Inv X pins σ H s->t D σ H->wpAny (model X.prog X.w) X.A (exec st X.env) (SP X pins D) X.xe s
def NO (X:Cx) (st:List Stmt) (t:TS):Prop :=
 ∀(pins:List (Addr×Obj)) (s:Shared) (σ:St) (H:Hp) (D:Ends),Inv X pins σ H s->t D σ H->wpAny (model X.prog X.w) X.A (execs st X.env) (SP X pins D) X.xe s
theorem fu {α:Type}{t:Sem α}{Q Q':α->Shared->Prop}{M:Model}{A:Around}{E:Value->Shared->Prop}{s:Shared}(h:wpAny M A t Q E s) (hQ:∀a s,Q a s->Q' a s):wpAny M A t Q' E s:=wpAny_mono h hQ λ_ _ x=>x
end L2
namespace L2
open PySem PySem.Spec PyProof.Rows
section
variable {X:Cx}
theorem bin {a b:Expr}{ta tb:TE}(ha:PE X a ta) (hb:PE X b tb){pins:List (Addr×Obj)}{s:Shared}{σ:St}{H:Hp}{R:V->V->Hp->Prop}(I:Inv X pins σ H s) (h:ta σ H λx H1=>tb σ H1 λy H2=>R x y H2)
  {α:Type}{Q:α->Shared->Prop}{f:Value->Value->Sem α}
  (hf:∀v u s2 x y H2,Inv X pins σ H2 s2->RelV x v->RelV y u->R x y H2->wpAny (model X.prog X.w) X.A (f v u) Q X.xe s2) :
  wpAny (model X.prog X.w) X.A (eval a X.env) (λv cV=>wpAny (model X.prog X.w) X.A (eval b X.env) (λu mq=>wpAny (model X.prog X.w) X.A (f v u) Q X.xe mq) X.xe cV) X.xe s:=by
 refine fu (ha pins s σ H _ I h) λv s1 ⟨x,H1,I1,r1,q1⟩=>?_
 refine fu (hb pins s1 σ H1 _ I1 q1) λu s2 ⟨y,H2,I2,r2,q2⟩=>?_
 exact hf v u s2 x y H2 I2 r1 r2 q2
def tj (i:Nat):TE:=λσ H Q=>∃v,σ[i]?=some (some v)/\Q v H
def tC (v:V):TE:=λ_ H Q=>Q v H
theorem VB {i:Nat}{x:Str}{pos:Pos}(hN:X.N[i]?=some x) (hv:XB X.env.scope x) (hd:(x==("__debug__" : Str))=false:=by decide) (RJ:(x==("__classdict__" : Str))=false:=by decide):PE X (.Name x pos) (tj i):=by
 intro pins s σ H Q I h;obtain⟨v,e,h⟩:=h;obtain⟨m,hn,hl⟩:=I.loc;obtain⟨u,r,l⟩:=hl i x v hN e hv;have fin:EP X pins σ Q u s:=⟨v,H,I,r,h⟩;rcases l with⟨hk,hm⟩|⟨hk,c,hc,LA⟩
 ·exact wpAny_Name (wpAny_loadName_local I.ok.kind hk hn hm fin) hd
 ·rcases hk with hk|hk
  ·exact wpAny_Name (wpAny_loadName_cell I.ok.kind hk hc LA fin) hd
  ·exact wpAny_Name (wpAny_loadName_free I.ok.kind hk hc LA fin RJ) hd
theorem bf {i j pos}:PE X (.Constant (.int i) j pos) (tC (.int i)):=λ_ _ _ H _ I h=>wpAny_Constant_int ⟨.int i,H,I.tok _,⟨_,rfl⟩,h⟩
theorem jq {b j pos}:PE X (.Constant (.bool b) j pos) (tC (.bl b)):=λ_ _ _ H _ I h=>Constant_bool ⟨.bl b,H,I,rfl,h⟩
theorem my {j pos}:PE X (.Constant .none j pos) (tC .gi):=λ_ _ _ H _ I h=>Constant_none ⟨.gi,H,I,rfl,h⟩
theorem i8 {x j pos}:PE X (.Constant (.str x) j pos) (tC (.str x)):=λ_ _ _ H _ I h=>Calls.Constant_str ⟨.str x,H,I.tok _,⟨_,rfl⟩,h⟩
def Gl (X:Cx) (x:Str):Prop:=X.env.kindOf x=some .globalImplicit
theorem AH {E:Value->Shared->Prop}{pins:List (Addr×Obj)}{s:Shared}{σ:St}{H:Hp}{x:Str}{u:Value}{pos:Pos}{Q:Value->Shared->Prop}(I:Inv X pins σ H s) (hg:Gl X x) (hm:X.mg x=some u) (h:Q u s)
  (hd:(x==("__debug__" : Str))=false:=by decide):wpAny (model X.prog X.w) X.A (eval (.Name x pos) X.env) Q E s :=
 Calls.Name_function_global I.ok.kind hg (Calls.loadGlobal_global (by rw[I.ok.glob];exact I.mod.glob.keeps I.bk) hm h) hd
theorem uf {E:Value->Shared->Prop}{pins:List (Addr×Obj)}{s:Shared}{σ:St}{H:Hp}{x:Str}{u:Value}{pos:Pos}{Q:Value->Shared->Prop}(I:Inv X pins σ H s) (hg:Gl X x) (hm:X.mg x=none) (hv:bootBuiltins x=some u) (h:Q u s)
  (hn:x ≠ "__name__":=by decide) (hd:(x==("__debug__" : Str))=false:=by decide):wpAny (model X.prog X.w) X.A (eval (.Name x pos) X.env) Q E s:=by
 obtain⟨mb,h1,h2⟩:=I.mod.blt;exact Calls.Name_function_global I.ok.kind hg (Calls.loadGlobal_builtin (by rw[I.ok.glob];exact I.mod.glob.keeps I.bk) hm (by rw[I.ok.blt];exact h1.keeps I.bk) ((h2 x hn).trans hv) h) hd
theorem SR {x:Str}{v:V}{u:Value}{pos:Pos}(hg:Gl X x) (hm:X.mg x=some u) (r:RelV v u) (hd:(x==("__debug__" : Str))=false:=by decide):PE X (.Name x pos) (tC v) :=
 λ_ _ _ H _ I h=>AH I hg hm ⟨v,H,I,r,h⟩ hd
variable {a b:Expr}{ta tb:TE}{pos:Pos}
def PC (X:Cx) (op:CmpOp) (a b:Expr) (t:TE):Prop :=
 ∀(pins:List (Addr×Obj)) (s:Shared) (σ:St) (H:Hp) (Q:VK),Inv X pins σ H s->t σ H Q ->
  wpAny (model X.prog X.w) X.A (eval a X.env) (λv cV=>wpAny (model X.prog X.w) X.A (eval b X.env) (λu mq=>wpAny (model X.prog X.w) X.A (compareOp op v u) (EP X pins σ Q) X.xe mq) X.xe cV) X.xe s
theorem PB (b:Expr){op:CmpOp}(h:op ≠ .In) (h2:op ≠ .NotIn):behindInMarks op b=false:=by
 have e1:(op==CmpOp.In)=false:=by cases op<;>first|rfl|exact absurd rfl h
 have e2:(op==CmpOp.NotIn)=false:=by cases op<;>first|rfl|exact absurd rfl h2
 cases b<;>simp[behindInMarks,e1,e2]
def tB (t:TE):TT:=λσ H Q=>t σ H λx H1=>∃c,x = .bl c/\Q c H1
theorem nJ {op:CmpOp}{t:TE}(h:PC X op a b t) (h1:behindInMarks op b=false:=by first|exact PB _ (by decide) (by decide)|rfl):PT X (.Compare a [op] [b] pos) (tB t):=by
 intro pins s σ H Q I hw;refine wpAny_isTrue_Compare1 (fu (h pins s σ H _ I hw) λv s1 h1=>fu h1 λu s2 h2=>fu h2 λc s3 ⟨x,H1,I1,r1,q1⟩=>?_) h1;obtain⟨d,rfl,q⟩:=q1;cases r1;exact wpAny_truthy_bool ⟨H1,I1,q⟩
theorem i7 {e:Expr}{t:TE}(h:PE X e t) (he:∀whole,isTrue e X.env whole=(do let v <-whole;standAt e.pos;holding [v] (truthy v)):=by intro _;rfl):PT X e (tB t):=by
 intro pins s σ H Q I hw;refine isTrue_plain (fu (h pins s σ H _ I hw) λv s1 ⟨x,H1,I1,r1,q1⟩=>?_) (he _);obtain⟨d,rfl,q⟩:=q1;cases r1;exact wpAny_truthy_bool ⟨H1,I1,q⟩
variable {tA tB':TT}{rest:List Expr}
def Ve (t u:TT):TT:=λσ H Q=>t σ H λc H1=>if c=true then u σ H1 Q else Q false H1
def tOr (t u:TT):TT:=λσ H Q=>t σ H λc H1=>if c=true then Q true H1 else u σ H1 Q
def Va (t:TT):TT:=λσ H Q=>t σ H λc H1=>Q (!c) H1
theorem mU (ha:PT X a tA):PW X (.BoolOp .And [a] pos) tA:=by
 intro wh pins s σ H Q I h;refine isTrue_and (fu (ha pins s σ H Q I h) λc s1 e=>?_);cases c with
 | true=>exact isTrue_and_nil e
 | false=>exact e
theorem rM (ha:PT X a tA):PW X (.BoolOp .Or [a] pos) tA:=by
 intro wh pins s σ H Q I h;refine isTrue_or (fu (ha pins s σ H Q I h) λc s1 e=>?_);cases c with
 | false=>exact isTrue_or_nil e
 | true=>exact e
theorem qt (ha:PT X a tA) (hb:PW X (.BoolOp .And (b::rest) pos) tB'):PW X (.BoolOp .And (a::b::rest) pos) (Ve tA tB'):=by
 intro wh pins s σ H Q I h;refine isTrue_and (fu (ha pins s σ H _ I h) λc s1 ⟨H1,I1,q1⟩=>?_);cases c with
 | true=>exact hb wh pins s1 σ H1 Q I1 q1
 | false=>exact⟨H1,I1,q1⟩
theorem qN (ha:PT X a tA) (hb:PW X (.BoolOp .Or (b::rest) pos) tB'):PW X (.BoolOp .Or (a::b::rest) pos) (tOr tA tB'):=by
 intro wh pins s σ H Q I h;refine isTrue_or (fu (ha pins s σ H _ I h) λc s1 ⟨H1,I1,q1⟩=>?_);cases c with
 | true=>exact⟨H1,I1,q1⟩
 | false=>exact hb wh pins s1 σ H1 Q I1 q1
theorem qu (ha:PT X a tA):PT X (.UnaryOp .Not a pos) (Va tA):=by
 intro pins s σ H Q I h;exact isTrue_not (ha pins s σ H (λc H1=>Q (!c) H1) I h)
def OS (ta tb:TE):TE:=λσ H Q=>ta σ H λx H1=>∃c,x = .bl c/\if c=true then tb σ H1 Q else Q (.bl false) H1
def X3 (ta tb:TE):TE:=λσ H Q=>ta σ H λx H1=>∃c,x = .bl c/\if c=true then Q (.bl true) H1 else tb σ H1 Q
def Um (ta:TE):TE:=λσ H Q=>ta σ H λx H1=>∃c,x = .bl c/\Q (.bl (!c)) H1
theorem Pj {op} {t:TE}(h:PE X a t):PE X (.BoolOp op [a] pos) t:=λpins s σ H Q I hw=>BoolOp_one (h pins s σ H Q I hw)
theorem JE (ha:PE X a ta) (hb:PE X (.BoolOp .And (b::rest) pos) tb):PE X (.BoolOp .And (a::b::rest) pos) (OS ta tb):=by
 intro pins s σ H Q I h;refine BoolOp_and (fu (ha pins s σ H _ I h) λv s1 ⟨x,H1,I1,r1,q1⟩=>?_);obtain⟨c,rfl,q1⟩:=q1;cases r1;refine wpAny_truthy_bool ?_;cases c with
 | true=>exact hb pins s1 σ H1 Q I1 q1
 | false=>exact⟨.bl false,H1,I1,rfl,q1⟩
def tIf (t:TT) (ta tb:TE):TE:=λσ H Q=>t σ H λc H1=>if c=true then ta σ H1 Q else tb σ H1 Q
theorem xB {c:Expr}(hc:PT X c tA) (ha:PE X a ta) (hb:PE X b tb):PE X (.IfExp c a b pos) (tIf tA ta tb):=by
 intro pins s σ H Q I h;refine wpAny_IfExp (fu (hc pins s σ H _ I h) λd s1 ⟨H1,I1,q1⟩=>?_);cases d with
 | true=>exact ha pins s1 σ H1 Q I1 q1
 | false=>exact hb pins s1 σ H1 Q I1 q1
end
end L2
namespace L2
open PySem PySem.Spec PyProof.Rows
def dO (K:aa) (H:Hp) (a:Addr) (xs:List V):Prop :=
 Rd H a (.lst xs) \/
  ∃(o:Obj) (cC:Array Value) (n:Nat),K.lookup a=some o/\o.cls = .type "list" /\ o.dict=none/\o.data = .seq cC n/\cC.size<=sizeLine/\Vals xs cC.toList
def lR (K:aa) (H:Hp) (a:Addr) (xs:List V):Prop :=
 Rd H a (.tup xs) \/
  ∃(o:Obj) (cC:Array Value) (n:Nat),K.lookup a=some o/\o.cls = .type "tuple" /\ o.data = .seq cC n/\cC.size<=sizeLine/\Vals xs cC.toList
def aa4:Value->Option V
 | .none=>some .gi
 | .bool b=>some (.bl b)
 | .int i _=>some (.int i)
 | .str x _=>some (.str x)
 | .bytes b _=>some (.Iw b)
 | .float b _=>some (.flt b)
 | .ref a=>some (.ref a)
 | .type n=>some (.ty n)
 | _=>none
theorem RelV.abs {x:V}{u:Value}(r:RelV x u):aa4 u=some x:=by
 cases x with
 | gi=>cases r;rfl
 | bl _=>cases r;rfl
 | int _=>obtain⟨t,rfl⟩:=r;rfl
 | str _=>obtain⟨t,rfl⟩:=r;rfl
 | Iw _=>obtain⟨t,rfl⟩:=r;rfl
 | flt _=>obtain⟨t,rfl⟩:=r;rfl
 | ref _=>cases r;rfl
 | ty _=>cases r;rfl
theorem RelV.inj {x y:V}{u:Value}(r:RelV x u) (q:RelV y u):x=y:=cH (r.abs.symm.trans q.abs)
theorem Vals.inj:∀{xs ys:List V}{us:List Value},Vals xs us->Vals ys us->xs=ys
 | _,_,_,.nil,.nil=>rfl
 | _,_,_,.cons r t,.cons r' t'=>by rw[r.inj r',Vals.inj t t']
section
variable {X:Cx}{pins:List (Addr×Obj)}{σ:St}{H:Hp}{s:Shared}{a:Addr}{xs ys:List V}
theorem dO.of {K:aa}(h:H a=some (.lst xs)):dO K H a xs:=.inl (.inl h)
theorem lR.of {K:aa}(h:H a=some (.tup xs)):lR K H a xs:=.inl (.inl h)
theorem Inv.list (I:Inv X pins σ H s) (h:dO X.K H a xs):∃cC:List Value,Vals xs cC/\PlainL s.heap a cC.toArray/\xs.length<=sizeLine:=by
 rcases h with h|⟨o,cC,n,hk,hc,hd,hs,hz,r⟩
 ·obtain⟨z,cC,n,r,e⟩:=h.ok I.df;exact⟨cC,r,⟨_,n,e,rfl,rfl,rfl⟩,z⟩
 ·refine⟨cC.toList,r,⟨o,n,I.J4 a o hk,hc,hd,by simpa using hs⟩,?_⟩;have e:=r.length;simp only[wb]at e;omega
theorem Inv.tuple (I:Inv X pins σ H s) (h:lR X.K H a xs):∃cC:List Value,Vals xs cC/\IsTup s.heap a cC.toArray/\xs.length<=sizeLine:=by
 rcases h with h|⟨o,cC,n,hk,hc,hs,hz,r⟩
 ·obtain⟨z,cC,r,p⟩:=h.ok I.df;exact⟨cC,r,p,z⟩
 ·refine⟨cC.toList,r,⟨o,I.J4 a o hk,hc,n,by simpa using hs⟩,?_⟩;have e:=r.length;simp only[wb]at e;omega
theorem Inv.uc (I:Inv X pins σ H s) (h:dO X.K H a xs) (h':dO X.K H a ys):xs=ys:=by
 obtain⟨cC,r,⟨o,n,e,_,_,d⟩,_⟩:=I.list h;obtain⟨its',r',⟨o',n',e',_,_,d'⟩,_⟩:=I.list h';rw[e]at e';cases e';rw[d]at d';injection d' with d1 _
 have:cC=its':=by simpa using congrArg UZ d1
 subst this;exact r.inj r'
end
abbrev Cx.Cv (X:Cx) (E:Value->Shared->Prop):Cx:={ X with xe:=E }
abbrev Cx.nox (X:Cx):Cx:=X.Cv λ_ _=>False
theorem Cx.Ok.Cv {X:Cx}(ok:X.Ok) (E:Value->Shared->Prop):(X.Cv E).Ok :=
 ⟨ok.mod,ok.kind,ok.glob,ok.blt,ok.above,ok.inj,ok.has,ok.Zw,ok.hd,ok.frames,ok.Es,ok.exf,ok.bs,ok.Rf,ok.Pz,ok.Q1,ok.yZ,ok.TF⟩
theorem Cx.Ok.tO {X:Cx}{E:Value->Shared->Prop}(ok:(X.Cv E).Ok):X.Ok :=
 ⟨ok.mod,ok.kind,ok.glob,ok.blt,ok.above,ok.inj,ok.has,ok.Zw,ok.hd,ok.frames,ok.Es,ok.exf,ok.bs,ok.Rf,ok.Pz,ok.Q1,ok.yZ,ok.TF⟩
section
variable {X:Cx}{pins:List (Addr×Obj)}{σ:St}{H:Hp}{s:Shared}{E:Value->Shared->Prop}
theorem Inv.Cv (I:Inv X pins σ H s) (E:Value->Shared->Prop):Inv (X.Cv E) pins σ H s:=⟨I.ok.Cv E,I.os,I.bare,I.base,I.loc,I.cell,I.free,I.qV,I.pin,I.df,I.len⟩
theorem Inv.tO (I:Inv (X.Cv E) pins σ H s):Inv X pins σ H s:=⟨I.ok.tO,I.os,I.bare,I.base,I.loc,I.cell,I.free,I.qV,I.pin,I.df,I.len⟩
theorem SP.tO {D:Ends}{f:Flow}{s':Shared}(h:SP (X.Cv E) pins D f s'):SP X pins D f s':=by
 cases f with
 | next=>obtain⟨fK,H',I,q⟩:=h;exact⟨fK,H',I.tO,q⟩
 | brk=>obtain⟨fK,H',I,q⟩:=h;exact⟨fK,H',I.tO,q⟩
 | cont=>obtain⟨fK,H',I,q⟩:=h;exact⟨fK,H',I.tO,q⟩
 | ret u=>obtain⟨v,fK,H',I,r,q⟩:=h;exact⟨v,fK,H',I.tO,r,q⟩
theorem NO.nox {st:List Stmt}{t:TS}(h:NO X.nox st t):NO X st t:=λpins s σ H D I hw =>
 wpAny_mono (h pins s σ H D (I.Cv _) hw) (λ_ _ q=>q.tO) λ_ _ z=>dB z
end
section
variable {X:Cx}{st:Stmt}{rest:List Stmt}{t u:TS}{e:Expr}{te:TE}{pos:Pos}
def K2:TS:=λD σ H=>D.nx σ H
def R8 (t u:TS):TS:=λD σ H=>t { D with nx:=u D } σ H
theorem bL:NO X [] K2:=λ_ _ σ H _ I h=>wpAny_execs_nil ⟨σ,H,I,h⟩
theorem aj (h1:PS X st t) (h2:NO X rest u):NO X (st::rest) (R8 t u):=by
 intro pins s σ H D I h;refine wpAny_execs_cons (fu (h1 pins s σ H { D with nx:=u D } I h) λf s1 q=>?_);cases f with
 | next =>
  obtain⟨fK,H',I',q⟩:=q;exact h2 pins s1 fK H' D I' q
 | ret v=>exact q
 | brk=>exact q
 | cont=>exact q
theorem aD (h1:PS X st t):NO X [st] t:=by
 intro pins s σ H D I h;refine wpAny_execs_cons (fu (h1 pins s σ H D I h) λf s1 q=>?_);cases f with
 | next=>exact wpAny_execs_nil q
 | ret v=>exact q
 | brk=>exact q
 | cont=>exact q
theorem Inv.quiet {pins:List (Addr×Obj)}{σ:St}{H:Hp}{s:Shared}(I:Inv X pins σ H s):interactive X.env=false:=by simp[interactive,I.ok.kind]
def Dm (te:TE):TS:=λD σ H=>te σ H λ_ H1=>D.nx σ H1
theorem d7 (he:PE X e te) (hs:swapsWith e none pos.line X.env=pure false:=by rfl):PS X (.Expr e pos) (Dm te):=by
 intro pins s σ H D I h;exact wpAny_Expr_any (fu (he pins s σ H _ I h) λv s1 ⟨x,H1,I1,r1,q1⟩=>⟨σ,H1,I1,q1⟩) I.quiet hs
def U9 (te:TE):TS:=λD σ H=>te σ H D.rt
theorem bj (he:PE X e te):PS X (.Return (some e) pos) (U9 te):=by
 intro pins s σ H D I h;exact wpAny_Return_some (fu (he pins s σ H _ I h) λv s1 ⟨x,H1,I1,r1,q1⟩=>⟨x,σ,H1,I1,r1,q1⟩)
def OJ:TS:=λD _ H=>D.rt .gi H
theorem SD:PS X (.Return none pos) OJ:=λ_ _ σ H _ I h=>wpAny_Return_none ⟨.gi,σ,H,I,rfl,h⟩
def ON (c:TT) (t u:TS):TS:=λD σ H=>c σ H λb H1=>if b=true then t D σ H1 else u D σ H1
theorem cS {c:Expr}{a b:List Stmt}{tc:TT}(hc:PT X c tc) (ha:NO X a t) (hb:NO X b u):PS X (.If c a b pos) (ON tc t u):=by
 intro pins s σ H D I h;refine wpAny_If (fu (hc pins s σ H _ I h) λd s1 ⟨H1,I1,q1⟩=>?_);cases d with
 | true=>exact ha pins s1 σ H1 D I1 q1
 | false=>exact hb pins s1 σ H1 D I1 q1
end
abbrev TG:=V->St->Hp->(St->Hp->Prop)->Prop
abbrev UU:=List V->St->Hp->(St->Hp->Prop)->Prop
def PG (X:Cx) (target:Expr) (t:TG):Prop :=
 ∀(pins:List (Addr×Obj)) (s:Shared) (σ:St) (H:Hp) (v:V) (u:Value) (Q:St->Hp->Prop),Inv X pins σ H s->RelV v u->t v σ H Q ->
  wpAny (model X.prog X.w) X.A (assign target X.env u) (λ_ s'=>∃fK H',Inv X pins fK H' s'/\Q fK H') X.xe s
def PGs (X:Cx) (ts:List Expr) (t:UU):Prop :=
 ∀(pins:List (Addr×Obj)) (s:Shared) (σ:St) (H:Hp) (vs:List V) (us:List Value) (Q:St->Hp->Prop),Inv X pins σ H s->Vals vs us->t vs σ H Q ->
  wpAny (model X.prog X.w) X.A (assignInOrder ((assignEach ts X.env).map (·.2)) us) (λ_ s'=>∃fK H',Inv X pins fK H' s'/\Q fK H') X.xe s
abbrev Ro:=V->V->V->Hp->(Hp->Prop)->Prop
def WY (X:Cx) (t:Ro):Prop :=
 ∀(pins:List (Addr×Obj)) (s:Shared) (σ:St) (H:Hp) (o i v:V) (ov iv u:Value) (Q:Hp->Prop),Inv X pins σ H s->RelV o ov->RelV i iv->RelV v u->t o i v H Q ->
  wpAny (model X.prog X.w) X.A (setItem ov iv u) (λ_ s'=>∃H',Inv X pins σ H' s'/\Q H') X.xe s
abbrev XC:=V->V->Hp->VK->Prop
def PIp (X:Cx) (op:Operator) (t:XC):Prop :=
 ∀(pins:List (Addr×Obj)) (s:Shared) (σ:St) (H:Hp) (x y:V) (v u:Value) (Q:VK),Inv X pins σ H s->RelV x v->RelV y u->t x y H Q ->
  wpAny (model X.prog X.w) X.A (inplaceOp op v u) (EP X pins σ Q) X.xe s
section
variable {X:Cx}{pos:Pos}
def xM (i:Nat):TG:=λv σ H Q=>Q (σ.set i (some v)) H
theorem cB {i:Nat}{x:Str}(hN:X.N.Nodup) (hi:X.N[i]?=some x) (hx:Loc X.env.scope x) (hf:X.fn x=true\/X.env.scope.names.lookup x=some .local:=by first|exact .inl rfl|exact .inr rfl|assumption):PG X (.Name x pos) (xM i):=by
 intro pins s σ H v u Q I r h;exact wpAny_assign_Name (A6 I hN hi hx r (λs' I'=>⟨_,H,I',h⟩) hf)
def QT:UU:=λvs σ H Q=>vs=[]/\Q σ H
def BP (t:TG) (u:UU):UU:=λvs σ H Q=>∃v r,vs=v::r/\t v σ H λfK H'=>u r fK H' Q
theorem uY:PGs X [] QT:=by
 intro pins s σ H vs us Q I r h;obtain⟨e,h⟩:=h;subst e;cases r;exact assignInOrder_nil ⟨σ,H,I,h⟩
theorem iP {e:Expr}{es:List Expr}{t:TG}{u:UU}(h1:PG X e t) (h2:PGs X es u)
  (hs:(assignEach (e::es) X.env).map (·.2)=assign e X.env::(assignEach es X.env).map (·.2):=by rfl):PGs X (e::es) (BP t u):=by
 intro pins s σ H vs us Q I r h;obtain⟨v,vr,e1,h⟩:=h;subst e1;cases r with
 | cons r rr =>
  rw[hs];refine assignInOrder_cons (fu (h1 pins s σ H _ _ _ I r h) λ_ s1 ⟨Xb,H1,I1,q1⟩=>?_);exact h2 pins s1 Xb H1 _ _ Q I1 rr q1
def Kh (K:aa) (n:Nat) (t:UU):TG:=λv σ H Q=>∃a xs,v = .ref a/\lR K H a xs/\xs.length=n/\t xs σ H Q
theorem yL {es:List Expr}{k:Nat}{t:UU}{n:Nat}(hc:X.calm=true) (h:PGs X es t)
  (hn:(assignEach es X.env).length=n:=by rfl) (xH:(assignEach es X.env).findIdx? (·.1)=none:=by rfl):PG X (.Tuple es k pos) (Kh X.K n t):=by
 intro pins s σ H v u Q I r hw;obtain⟨a,xs,e1,hq,hl,hw⟩:=hw;subst e1;cases r;obtain⟨cC,rv,ht,hz⟩:=I.tuple hq;refine assign_Tuple_tuple (I.ok.hd hc) ht (by simp[hn,<-hl,rv.length]) xH λh' hx=>?_
 have I1:Inv X pins σ H { s with heap:=h' }:=I.kept (t':=s.toks) λb o e=>hx b o (cI (Heap.lt_size e)) e
 exact h pins _ σ H xs _ Q I1 (by simpa using rv) hw
def Wx (to ti:TE) (t:Ro):TG:=λv σ H Q=>to σ H λo H1=>ti σ H1 λi H2=>t o i v H2 λH3=>Q σ H3
theorem JB {o i:Expr}{to ti:TE}{t:Ro}(ho:PE X o to) (hi:PE X i ti) (hs:WY X t)
  (ha:∀v,assign (.Subscript o i pos) X.env v=(do
   let ov <-holding [v] (eval o X.env)
   let iv <-holding [v,ov] (eval i X.env)
   standAt pos
   holding [v,ov,iv] (setItem ov iv v)
   release [v,ov,iv] []):=by intro _;rfl):PG X (.Subscript o i pos) (Wx to ti t):=by
 intro pins s σ H v u Q I r h;rw[ha];refine wpAny_bind (wpAny_holding (fu (ho pins s σ H _ I h) λov s1 ⟨x,H1,I1,r1,q1⟩=>?_));refine wpAny_bind (wpAny_holding (fu (hi pins s1 σ H1 _ I1 q1) λiv s2 ⟨y,H2,I2,r2,q2⟩=>?_));refine wpAny_bind (wpAny_standAt (wpAny_bind (wpAny_holding (fu (hs pins s2 σ H2 x y v ov iv u _ I2 r1 r2 r q2) λ_ s3 ⟨H3,I3,q3⟩=>?_))));exact wpAny_release ⟨σ,H3,I3,q3⟩
def Sd (te:TE) (g:TG):TS:=λD σ H=>te σ H λx H1=>g x σ H1 D.nx
theorem JA {tg e:Expr}{te:TE}{g:TG}(he:PE X e te) (hg:PG X tg g) (hs:swapsWithSole [tg] e pos.line X.env=pure false:=by rfl) (hw:swappedStores [tg] e X.env=pure none:=by rfl)
  (h1:(assignEach [tg] X.env).map (·.2)=[assign tg X.env]:=by rfl):PS X (.Assign [tg] e pos) (Sd te g):=by
 intro pins s σ H D I h;refine wpAny_Assign_stores (fu (he pins s σ H _ I h) λv s1 ⟨x,H1,I1,r1,q1⟩=>?_) hs hw;rw[h1];exact fu (hg pins s1 σ H1 x v _ I1 r1 q1) λ_ s2 q=>q
theorem bO {i:Nat}{x:Str}{e:Expr}{te:TE}{pos':Pos}(hN:X.N.Nodup) (hi:X.N[i]?=some x) (hx:Loc X.env.scope x) (he:PE X e te) (hs:swapsWith e (some (.Name x pos')) pos.line X.env=pure false:=by rfl) (hf:X.fn x=true\/X.env.scope.names.lookup x=some .local:=by first|exact .inl rfl|exact .inr rfl|assumption) :
  PS X (.Assign [.Name x pos'] e pos) (Sd te (xM i)):=by
 intro pins s σ H D I h;refine wpAny_Assign_Name (fu (he pins s σ H _ I h) λv s1 ⟨y,H1,I1,r1,q1⟩=>?_) hs;exact A6 I1 hN hi hx r1 (λs2 I2=>⟨_,H1,I2,q1⟩) hf
def Sb (i:Nat) (te:TE) (ti:XC):TS:=λD σ H=>∃x,σ[i]?=some (some x)/\te σ H λy H1=>ti x y H1 λz H2=>D.nx (σ.set i (some z)) H2
theorem tZ {i:Nat}{x:Str}{e:Expr}{te:TE}{op:Operator}{ti:XC}{pos':Pos}(hN:X.N.Nodup) (hi:X.N[i]?=some x) (hx:Loc X.env.scope x) (he:PE X e te) (ho:PIp X op ti) (hf:X.fn x=true\/X.env.scope.names.lookup x=some .local:=by first|exact .inl rfl|exact .inr rfl|assumption) :
  PS X (.AugAssign (.Name x pos') op e pos) (Sb i te ti):=by
 intro pins s σ H D I h;obtain⟨v,e1,h⟩:=h;obtain⟨m,hn,hl⟩:=I.loc;have vis:XB X.env.scope x:=by rcases hx with k|k;exact .inl k;exact .inr (.inl k)
 obtain⟨u,r,l⟩:=hl i x v hi e1 vis;refine wpAny_AugAssign_Name ?_;have go:wpAny (model X.prog X.w) X.A (eval e X.env) (λw mq=>wpAny (model X.prog X.w) X.A (inplaceOp op u w) (λr Gy=>wpAny (model X.prog X.w) X.A (storeName X.env x r) (λ_=>SP X pins D .next) X.xe Gy) X.xe mq) X.xe s:=by
  refine fu (he pins s σ H _ I h) λw s1 ⟨y,H1,I1,r1,q1⟩=>?_
  refine fu (ho pins s1 σ H1 v y u w _ I1 r r1 q1) λz s2 ⟨zv,H2,I2,r2,q2⟩=>?_
  exact A6 I2 hN hi hx r2 (λs3 I3=>⟨_,H2,I3,q2⟩) hf
 rcases l with⟨hk,hm⟩|⟨hk,c,hc,LA⟩
 ·exact wpAny_loadName_local I.ok.kind hk hn hm go
 ·rcases hk with hk|hk
  ·exact wpAny_loadName_cell I.ok.kind hk hc LA go
  ·rcases hx with k|k
   ·have:X.env.scope.names.lookup x=some .free:=hk;rw[k]at this;cases this
   ·have:X.env.scope.names.lookup x=some .free:=hk;rw[k]at this;cases this
def OR (to ti te:TE) (R1:V->V->Hp->VK->Prop) (Z9:XC) (RY:Ro):TS:=λD σ H=>to σ H λo H1=>ti σ H1 λi H2=>R1 o i H2 λx H3=>te σ H3 λy H4=>Z9 x y H4 λz H5=>RY o i z H5 λH6=>D.nx σ H6
def Zy (X:Cx) (t:V->V->Hp->VK->Prop):Prop :=
 ∀(pins:List (Addr×Obj)) (s:Shared) (σ:St) (H:Hp) (o i:V) (ov iv:Value) (Q:VK),Inv X pins σ H s->RelV o ov->RelV i iv->t o i H Q ->
  wpAny (model X.prog X.w) X.A (getItem ov iv) (EP X pins σ Q) X.xe s
theorem SG {o i e:Expr}{to ti te:TE}{R1:V->V->Hp->VK->Prop}{Z9:XC}{RY:Ro}{op:Operator}{Ag:Pos}(ho:PE X o to) (hi:PE X i ti) (hg:Zy X R1) (he:PE X e te) (hp:PIp X op Z9) (hs:WY X RY)
  (ha:∀ov iv new,augStore i ov iv new=(do holding [new,ov,iv] (setItem ov iv new);release [new,ov,iv] [];pure .next):=by intros;rfl):PS X (.AugAssign (.Subscript o i Ag) op e pos) (OR to ti te R1 Z9 RY):=by
 intro pins s σ H D I h;refine wpAny_AugAssign_SubscriptAny (fu (ho pins s σ H _ I h) λov s1 ⟨x1,H1,I1,r1,q1⟩=>?_) ha;refine fu (hi pins s1 σ H1 _ I1 q1) λiv s2 ⟨x2,H2,I2,r2,q2⟩=>?_
 refine fu (hg pins s2 σ H2 x1 x2 ov iv _ I2 r1 r2 q2) λold s3 ⟨x3,H3,I3,r3,q3⟩=>?_
 refine fu (he pins s3 σ H3 _ I3 q3) λv s4 ⟨x4,H4,I4,r4,q4⟩=>?_
 refine fu (hp pins s4 σ H4 x3 x4 old v _ I4 r3 r4 q4) λnew s5 ⟨x5,H5,I5,r5,q5⟩=>?_
 exact fu (hs pins s5 σ H5 x1 x2 x5 ov iv new _ I5 r1 r2 r5 q5) λ_ s6 ⟨H6,I6,q6⟩=>⟨σ,H6,I6,q6⟩
def YF (f:Int->Int->Int):XC:=λx y H Q=>∃i j,x = .int i/\y = .int j/\Q (.int (f i j)) H
theorem ug:PIp X .Add (YF λi j=>i+j):=by
 intro pins s σ H x y v u Q I r1 r2 h;obtain⟨i,j,e1,e2,q⟩:=h;subst e1;subst e2;obtain⟨t,rfl⟩:=r1;obtain⟨t',rfl⟩:=r2;exact iadd_int ⟨.int _,H,I.tok _,⟨_,rfl⟩,q⟩
theorem V5:PIp X .Sub (YF λi j=>i-j):=by
 intro pins s σ H x y v u Q I r1 r2 h;obtain⟨i,j,e1,e2,q⟩:=h;subst e1;subst e2;obtain⟨t,rfl⟩:=r1;obtain⟨t',rfl⟩:=r2;exact isub_int ⟨.int _,H,I.tok _,⟨_,rfl⟩,q⟩
end
section
variable {X:Cx}{pos:Pos}
def U7 (c:TT) (tb:TS):TS:=λD σ H=>∃W:Nat->St->Hp->Prop,(∃m,W m σ H)/\∀m σ H,W m σ H ->
 c σ H λb H1=>if b=true then ∃N:St->Hp->Prop,(∀fK H',N fK H'->∃m',m'<m/\W m' fK H')/\tb { D with nx:=N,ct:=N,bk:=D.nx } σ H1 else D.nx σ H1
theorem m8 {c:Expr}{body:List Stmt}{tc:TT}{tb:TS}(hp:PassesOwn (model X.prog X.w) X.A X.env X.xe) (hc:PT X c tc) (hb:NO X body tb):PS X (.While c body [] pos) (U7 tc tb):=by
 intro pins s σ H D I h;obtain⟨W,⟨m0,w0⟩,turn⟩:=h;refine wpAny_While (codeAny_whileLoop (λn s'=>∃fK H',Inv X pins fK H' s'/\W n fK H') ?_ m0 ⟨σ,H,I,w0⟩);rintro n s1 ⟨Xb,H1,I1,w1⟩;refine wpAny_passesOwn hp (fu (hc pins s1 Xb H1 _ I1 (turn n Xb H1 w1)) λb s2 ⟨H2,I2,q2⟩=>?_);cases b with
 | true =>
  obtain⟨N,hN,q2⟩:=q2;rw[if_pos rfl];refine wpAny_passesOwn hp (fu (hb pins s2 Xb H2 _ I2 q2) λf s3 q3=>?_);cases f with
  | next =>
   obtain⟨Oj,H3,I3,n3⟩:=q3;obtain⟨m',hm,w3⟩:=hN Oj H3 n3;exact⟨m',hm,Oj,H3,I3,w3⟩
  | cont =>
   obtain⟨Oj,H3,I3,n3⟩:=q3;obtain⟨m',hm,w3⟩:=hN Oj H3 n3;exact⟨m',hm,Oj,H3,I3,w3⟩
  | brk=>exact q3
  | ret v=>exact q3
 | false =>
  rw[if_neg aW];exact wpAny_execs_nil ⟨Xb,H2,I2,q2⟩
end
structure It where
 go:Nat->Hp->Prop
 Uk:Nat->Hp->V->Hp->Prop
 stop:Nat->Hp->Prop
def zt (X:Cx) (pins:List (Addr×Obj)) (H:Hp) (b:Addr):Prop :=
 H b=none/\b≠X.env.locals/\b∉X.fs/\(b∈X.ex\/X.Dr.heap.objs.size<=b)/\(∀x c,X.env.cells.lookup x=some c->c≠b)/\∀p∈X.pn++pins,p.1≠b
theorem Inv.Ki {X:Cx}{pins:List (Addr×Obj)}{σ:St}{H H':Hp}{s:Shared}{b:Addr}(I:Inv X pins σ H s) (hb:s.heap.objs.size<=b) (hn:H' b=none):zt X pins H' b:=by
 refine⟨hn,IB (bh I.lt hb),I.aag hb,.inr (bw I.sz hb),λx c e z=>?_,λp hp z=>?_⟩
 ·obtain⟨v,q⟩:=I.cell x c e;exact absurd (bh q.lt (by rw[z];exact hb)) (fQ _)
 ·exact absurd (bh (Heap.lt_size (I.pin p hp).1) (by rw[z];exact hb)) (fQ _)
structure Turn (P:Program) (w:World) (K:aa) (tg:Expr) (J:It) (fp:List Addr) (it:Addr) (tn:Nat->Heap->Prop):Prop where
 mem:it∈fp
 obj:∀i h,tn i h->∀b∈fp,∃o,h.get? b=some o/\∀v,o.data ≠ .cell v
 keep:∀i h h',tn i h->(∀b∈fp,∀o,h.get? b=some o->h'.get? b=some o)->tn i h'
 item:∀(X:Cx),X.prog=P->X.w=w->X.K=K->X.calm=true->∀(i:Nat) (pins:List (Addr×Obj)) (s:Shared) (σ:St) (H:Hp) (E:Value->Shared->Prop),Inv X pins σ H s->(∀b∈fp,zt X pins H b)->tn i s.heap->J.go i H ->
  wpAny (model P w) X.A (pyNext (.ref it)) (λr s1=>∃u,r=some u /\
   wpAny (model P w) X.A (letOwnedTupleGo tg (.ref it) u) (λ_ s2=>∃x H',Inv X pins σ H' s2/\RelV x u/\J.Uk i H x H'/\tn (i+1) s2.heap/\∀b∈fp,H' b=none) E s1) E s
 done:∀(X:Cx),X.prog=P->X.w=w->X.K=K->X.calm=true->∀(i:Nat) (pins:List (Addr×Obj)) (s:Shared) (σ:St) (H:Hp) (E:Value->Shared->Prop),Inv X pins σ H s->(∀b∈fp,zt X pins H b)->tn i s.heap->J.stop i H ->
  wpAny (model P w) X.A (pyNext (.ref it)) (λr s1=>r=none/\Inv X pins σ H s1) E s
 self:∀(A:Around) (i:Nat) (s:Shared) (Q:Value->Shared->Prop) (E:Value->Shared->Prop),tn i s.heap->Q (.ref it) s->wpAny (model P w) A (pyIter (.ref it)) Q E s
abbrev TI:=St->Hp->(It->Hp->Prop)->Prop
def PIE (X:Cx) (pins:List (Addr×Obj)) (σ:St) (tg:Expr) (R:It->Hp->Prop) (itv:Value) (s2:Shared):Prop :=
 ∃(it:Addr) (fp:List Addr) (tn:Nat->Heap->Prop) (J:It) (H':Hp),itv = .ref it/\Inv X pins σ H' s2/\Turn X.prog X.w X.K tg J fp it tn/\tn 0 s2.heap/\(∀b∈fp,zt X pins H' b)/\R J H'
def PI (X:Cx) (tg iter:Expr) (wi:TI):Prop :=
 ∀(pins:List (Addr×Obj)) (s:Shared) (σ:St) (H:Hp) (R:It->Hp->Prop),Inv X pins σ H s->wi σ H R ->
  wpAny (model X.prog X.w) X.A (eval iter X.env) (λv s1=>wpAny (model X.prog X.w) X.A (pyIter v) (PIE X pins σ tg R) X.xe s1) X.xe s
theorem DM {M:Model}{A:Around}{E:Value->Shared->Prop}{s:Shared}{tg:Expr}{it:Addr}{u:Value}{o:Obj}{n:String}{vs:Array Value}{Q:Unit->Shared->Prop}(ho:s.heap.get? it=some o) (hc:o.cls = .type n) (hd:o.data = .fields vs)
  (hn : ["enumerate", "zip", "dict_itemiterator", "dict_reverseitemiterator", "odict_iterator", "itertools.zip_longest", "itertools.pairwise"].contains n=false) (hQ:Q () s):wpAny M A (letOwnedTupleGo tg (.ref it) u) Q E s:=by
 unfold letOwnedTupleGo;cases tg<;>first
  | exact wpAny_pure hQ
  | (cases u<;>first
    | exact wpAny_pure hQ
    | (refine wpAny_bind (wpAny_load ho ?_)
       rw[hc,hd];show wpAny M A (if (["enumerate", "zip", "dict_itemiterator", "dict_reverseitemiterator", "odict_iterator", "itertools.zip_longest", "itertools.pairwise"].contains n&&vs[0]?==some (rawInt _))=true then _ else _) Q E s;rw[if_neg (by intro h;rw[hn,vy]at h;cases h)];exact wpAny_pure hQ))
def Rp (K:aa) (a:Addr):It :=
 ⟨λi H=>∃xs x,dO K H a xs/\xs[i]?=some x,λi H x H'=>H'=H/\∀xs,dO K H a xs->xs[i]?=some x,λi H=>∃xs,dO K H a xs/\xs.length<=i⟩
def Itt (K:aa) (a:Addr):It :=
 ⟨λi H=>∃xs x,lR K H a xs/\xs[i]?=some x,λi H x H'=>H'=H/\∀xs,lR K H a xs->xs[i]?=some x,λi H=>∃xs,lR K H a xs/\xs.length<=i⟩
def RR (lo:Int) (n:Nat):It:=⟨λi _=>i<n,λi H x H'=>H'=H/\x = .int (lo+i),λi _=>n<=i⟩
theorem Me {P:Program}{w:World}{K:aa}{tg:Expr}(a it:Addr):Turn P w K tg (Rp K a) [it] it (λi h=>h.IsListIter it a i) where
 mem:=by simp
 obj:=λi h st b hb=>by
  have e:b=it:=by simpa using hb
  subst e;obtain⟨o,e,c,d⟩:=st;exact⟨o,e,λv z=>by rw[d]at z;cases z⟩
 keep:=λi h h' st k=>st.at λo e=>k it (by simp) o e
 item:=by
  intro X hP hw hK hc i pins s σ H E I hf st hg;subst hP hw hK;obtain⟨xs,x,hq,hx⟩:=hg;obtain⟨cC,rv,p,hz⟩:=I.list hq;obtain⟨u,hu,ru⟩:=rv.get hx;obtain⟨f0,f1,f2,f3,f4,f5⟩:=hf it (by simp);refine wpAny_pyNext_list_item st p.isList (x:=u) (by simpa using hu) λh' Cu sb=>?_
  have I1:Inv X pins σ H { s with heap:=h' }:=I.turned (t':=s.toks) (λb o hb e=>(sb.2 b hb).trans e) f0 f1 f3 f4 f5;obtain⟨o,e,c,d⟩:=id Cu;exact⟨u,rfl,DM (s:={ s with heap:=h' }) e c d (by decide) ⟨x,H,I1,ru,⟨rfl,λys hy=>by rw[I.uc hy hq];exact hx⟩,Cu,λb hb=>(hf b hb).1⟩⟩
 done:=by
  intro X hP hw hK hc i pins s σ H E I hf st hg;subst hP hw hK;obtain⟨xs,hq,hx⟩:=hg;obtain⟨cC,rv,p,hz⟩:=I.list hq;obtain⟨f0,f1,f2,f3,f4,f5⟩:=hf it (by simp);have hl:=rv.length;exact wpAny_pyNext_list_end (I.ok.hd hc) st p.isList (by simp;omega) λh' eb=>⟨rfl,I.turned (t':=s.toks) (λb o hb e=>eb b o hb e) f0 f1 f3 f4 f5⟩
 self:=λ_ _ _ _ _ st h=>wpAny_pyIter_listiter st h
theorem IK {P:Program}{w:World}{K:aa}{tg:Expr}(it:Addr) (lo:Int) (n:Nat):Turn P w K tg (RR lo n) [it] it (λi h=>IsRangeIter h it (lo+(i:Nat) * 1) ((n:Int)-(i:Nat)) 1) where
 mem:=by simp
 obj:=λi h st b hb=>by
  have e:b=it:=by simpa using hb
  subst e;exact⟨_,st,λv z=>by
   have z':Data.fields _=Data.cell v:=z;cases z'⟩
 keep:=λi h h' st k=>k it (by simp) _ st
 item:=by
  intro X hP hw hK hc i pins s σ H E I hf st hg;subst hP hw hK;obtain⟨f0,f1,f2,f3,f4,f5⟩:=hf it (by simp);have W:=Walks.range (prog:=X.prog) (w:=X.w) (I.ok.hd hc) it lo 1 n;refine W.item i s _ _ hg st λv h' tk hv Cu kk=>?_
  obtain⟨t,rfl⟩:=hv;have I1:Inv X pins σ H { s with heap:=h',toks:=tk }:=I.turned (λb o hb e=>kk b o (by simpa using hb) e) f0 f1 f3 f4 f5;refine⟨_,rfl,DM (s:={ s with heap:=h',toks:=tk }) (n := "range_iterator") Cu rfl rfl (by decide) ⟨.int (lo+i),H,I1,⟨t,?_⟩,⟨rfl,rfl⟩,Cu,λb hb=>(hf b hb).1⟩⟩;rw[Int.mul_one]
 done:=by
  intro X hP hw hK hc i pins s σ H E I hf st hg;subst hP hw hK;obtain⟨f0,f1,f2,f3,f4,f5⟩:=hf it (by simp);exact wpAny_pyNext_range_end (I.ok.hd hc) st (by have:n<=i:=hg;omega) λh' eb=>⟨rfl,I.turned (t':=s.toks) (λb o hb e=>eb b o hb e) f0 f1 f3 f4 f5⟩
 self:=λ_ _ _ _ _ st h=>wpAny_pyIter_rangeiter st h
end L2
namespace L2
open PySem PySem.Spec PyProof.Rows
section
variable {X:Cx}{tg:Expr}
def Qp (K:aa) (tl:TE):TI:=λσ H R=>tl σ H λx H1=>∃a,x = .ref a/\(∃xs,dO K H1 a xs)/\R (Rp K a) H1
def YG (K:aa) (tl:TE):TI:=λσ H R=>tl σ H λx H1=>∃a,x = .ref a/\(∃xs,lR K H1 a xs)/\R (Itt K a) H1
theorem fE {l:Expr}{tl:TE}(hl:PE X l tl):PI X tg l (Qp X.K tl):=by
 intro pins s σ H R I h;refine fu (hl pins s σ H _ I h) λv s1 ⟨x,H1,I1,r1,q1⟩=>?_
 obtain⟨a,e,⟨xs,hq⟩,q⟩:=q1;subst e;cases r1;obtain⟨cC,rv,p,hz⟩:=I1.list hq;refine wpAny_pyIter_list p.isList ?_;refine⟨s1.heap.objs.size,[s1.heap.objs.size],_,_,H1,rfl,I1.kept (t':=s1.toks) λb o e=>Heap.get?_push_of_some _ e,Me a _,⟨_,Heap.get?_push_size _ rfl,rfl,rfl⟩,λb hb=>?_,q⟩;have e:b=s1.heap.objs.size:=by simpa using hb
 subst e;exact I1.Ki (aQ _) (I1.df.fresh (aQ _))
theorem Pa {pins:List (Addr×Obj)}{σ:St}{H:Hp}{s:Shared}{R:It->Hp->Prop}{E:Value->Shared->Prop}{lo hi:Int}{t u v:Tok}{tk:Nat}(I:Inv X pins σ H s) (h1 : -(2 ^ 62)<=lo) (h2:lo<2 ^ 62) (h3 : -(2 ^ 62)<=hi) (h4:hi<2 ^ 62)
  (q:R (RR lo (hi-lo).toNat) H):wpAny (model X.prog X.w) X.A (pyIter (.ref s.heap.objs.size)) (PIE X pins σ tg R) E { s with heap:=s.heap.push { cls:=.type "range",data:=.fields #[.int lo t,.int hi u,.int 1 v] },toks:=tk }:=by
 refine wpAny_pyIter_range (IsRange.new ..) (small_one h1 h2 h3 h4) ?_;have I1:Inv X pins σ H { s with heap:=s.heap.push { cls:=.type "range",data:=.fields #[.int lo t,.int hi u,.int 1 v] },toks:=tk }:=I.kept λb o e=>Heap.get?_push_of_some _ e
 refine⟨(s.heap.push { cls:=.type "range",data:=.fields #[.int lo t,.int hi u,.int 1 v] }).objs.size,[(s.heap.push { cls:=.type "range",data:=.fields #[.int lo t,.int hi u,.int 1 v] }).objs.size],_,_,H,rfl,
  I1.kept (t':=tk) λb o e=>Heap.get?_push_of_some _ e,IK _ lo (hi-lo).toNat,?_,λb hb=>?_,q⟩
 ·have e1:lo+((0:Nat):Int) * 1=lo:=by simp
  have e2:(((hi-lo).toNat:Nat):Int)-((0:Nat):Int)=Builtin.Range.rangeSize lo hi 1:=by rw[rangeSize_one];split<;>omega
  show IsRangeIter _ _ (lo+((0:Nat):Int) * 1) ((((hi-lo).toNat:Nat):Int)-((0:Nat):Int)) 1;rw[e1,e2];exact Heap.get?_push_size _ rfl
 ·have e:b=(s.heap.push { cls:=.type "range",data:=.fields #[.int lo t,.int hi u,.int 1 v] }).objs.size:=by simpa using hb
  subst e;exact I1.Ki (aQ _) (I1.df.fresh (aQ _))
def Qo (ta:TA):TI:=λσ H R=>ta σ H λvs H1=>∃j:Int,vs=[.int j] /\ -(2 ^ 62)<=j/\j<2 ^ 62/\R (RR 0 j.toNat) H1
theorem qP {a:Expr}{ta:TA}{p pos:Pos}(hg:Gl X "range") (hm:X.mg "range" = none) (ha:PA X [a] ta) (hs:starEach [a] X.env=[(false,eval a X.env)]:=by rfl):PI X tg (.Call (.Name "range" p) [a] [] pos) (Qo ta):=by
 intro pins s σ H R I h;refine Call_ (uf I hg hm boot_range (eC (fu (ha pos pins s σ H _ I h) λus s1 ⟨vs,H1,I1,r1,q1⟩=>?_) hs rfl));obtain⟨j,e,q1,q2,q⟩:=q1;subst e;cases r1 with
 | cons r rr =>
  cases rr;obtain⟨t,rfl⟩:=r;exact call_range_1 (Pa I1 (by omega) (by omega) q1 q2 (by simpa using q))
def X4 (wi:TI) (g:TG) (tb:TS):TS:=λD σ H=>wi σ H λJ H1=>∃W:Nat->Nat->St->Hp->Prop,(∃m,W 0 m σ H1)/\∀i m σ H,W i m σ H ->
 (J.stop i H/\D.nx σ H)\/(J.go i H/\∃N:St->Hp->Prop,(∀fK H',N fK H'->∃m',m'<m/\W (i+1) m' fK H')/\∀x H',J.Uk i H x H'->g x σ H' λoj H2=>tb { D with nx:=N,ct:=N,bk:=D.nx } oj H2)
def Bn (fp:List Addr) (h:Heap):List (Addr×Obj):=fp.filterMap λb=>(h.get? b).map λo=>(b,o)
theorem wz {fp:List Addr}{h:Heap}{b:Addr}{o:Obj}(hb:b∈fp) (e:h.get? b=some o):(b,o)∈Bn fp h:=fJ.mpr ⟨b,hb,by rw[e];rfl⟩
theorem MU {fp:List Addr}{h:Heap}{p:Addr×Obj}(hp:p∈Bn fp h):p.1∈fp/\h.get? p.1=some p.2:=by
 obtain⟨b,hb,e⟩:=fJ.mp hp;cases q:h.get? b with
 | none=>rw[q]at e;cases e
 | some o =>
  rw[q]at e;have e':(b,o)=p:=cH e;subst e';exact⟨hb,q⟩
theorem Inv.pinned {pins:List (Addr×Obj)}{σ:St}{H:Hp}{s:Shared}{fp:List Addr}(I:Inv X pins σ H s) (hf:∀b∈fp,zt X pins H b) (ho:∀b∈fp,∃o,s.heap.get? b=some o/\∀v,o.data ≠ .cell v):Inv X (pins++Bn fp s.heap) σ H s :=
 I.Lg λp hp=>(aN.mp hp).elim (λz=>I.pin p (cg _ z)) λz=>by
  obtain⟨hb,e⟩:=MU z;obtain⟨f0,f1,f2,_⟩:=hf p.1 hb;obtain⟨o,e',d⟩:=ho p.1 hb;rw[e]at e';cases e';exact⟨e,f0,f1,f2,d⟩
theorem Inv.xi {pins pl:List (Addr×Obj)}{σ:St}{H:Hp}{s:Shared}(I:Inv X (pins++pl) σ H s):Inv X pins σ H s:=I.Lg λp hp=>I.pin p (cg _ (dJ _ hp))
theorem fU {iter:Expr}{body:List Stmt}{wi:TI}{g:TG}{tb:TS}{pos:Pos}(hp:PassesOwn (model X.prog X.w) X.A X.env X.xe) (hc:X.calm=true) (hi:PI X tg iter wi) (hg:PG X tg g) (hb:NO X body tb)
  (hs:∀x,foldedSetIterable iter X.env x=pure x:=by intro _;rfl):PS X (.For tg iter body [] pos) (X4 wi g tb):=by
 intro pins s σ H D I h;refine wpAny_For (fu (hi pins s σ H _ I h) λv s1 h1=>fu h1 λitv s2 h2=>?_) hs;obtain⟨it,fp,tn,J,H2,e,I2,T,Xf,f2,W,⟨m0,w0⟩,turn⟩:=h2;subst e;have Jb:∀{H':Hp},(∀b∈fp,H' b=none)->∀b∈fp,zt X pins H' b:=λhn b hb=>⟨hn b hb,(f2 b hb).2⟩
 refine codeAny_forLoop_any (λn s'=>∃i fK H',Inv X pins fK H' s'/\tn i s'.heap/\(∀b∈fp,H' b=none)/\W i n fK H') ?_ m0 ⟨0,σ,H2,I2,Xf,λb hb=>(f2 b hb).1,w0⟩;rintro n s3 ⟨i,Oj,H3,I3,st3,LF,w3⟩;rcases turn i n Oj H3 w3 with⟨stop,qn⟩|⟨go,N,hN,step⟩
 ·refine wpAny_passesOwn hp (fu (T.done X rfl rfl rfl hc i pins s3 Oj H3 X.xe I3 (Jb LF) st3 stop) λr s4 ⟨hr,I4⟩=>?_);subst hr;exact wpAny_execs_nil ⟨Oj,H3,I4,qn⟩
 ·refine wpAny_passesOwn hp (fu (T.item X rfl rfl rfl hc i pins s3 Oj H3 X.xe I3 (Jb LF) st3 go) λr s4 ⟨u,hr,h4⟩=>?_);subst hr;refine wpAny_passesOwn hp (fu h4 λ_ s5 ⟨x,H5,I5,r5,y5,Xe,fr5⟩=>?_);have I5':=I5.pinned (Jb fr5) (T.obj _ _ Xe);refine wpAny_passesOwn hp (fu (hg _ s5 Oj H5 x u _ I5' r5 (step x H5 y5)) λ_ s6 ⟨σ6,H6,I6,q6⟩=>?_);refine wpAny_passesOwn hp (fu (hb _ s6 σ6 H6 _ I6 q6) λf s7 q7=>?_);have again:∀{Oi:St}{H7:Hp},Inv X (pins++Bn fp s5.heap) Oi H7 s7->N Oi H7->∃m,m<n/\∃i fK H',Inv X pins fK H' s7/\tn i s7.heap/\(∀b∈fp,H' b=none)/\W i m fK H':=λ{Oi H7} I7 n7=>by
   obtain⟨m',hm,w7⟩:=hN Oi H7 n7;refine⟨m',hm,i+1,Oi,H7,I7.xi,T.keep _ _ _ Xe λb hb o e=>(I7.pin (b,o) (cg _ (cg _ (wz hb e)))).1,λb hb=>?_,w7⟩;obtain⟨o,e,d⟩:=T.obj _ _ Xe b hb;exact(I7.pin (b,o) (cg _ (cg _ (wz hb e)))).2.1
  cases f with
  | next=>obtain⟨Oi,H7,I7,n7⟩:=q7;exact again I7 n7
  | cont=>obtain⟨Oi,H7,I7,n7⟩:=q7;exact again I7 n7
  | brk=>obtain⟨Oi,H7,I7,q7⟩:=q7;exact⟨Oi,H7,I7.xi,q7⟩
  | ret v=>obtain⟨x7,Oi,H7,I7,r7,q7⟩:=q7;exact⟨x7,Oi,H7,I7.xi,r7,q7⟩
end
theorem QX {K:aa}{a:Addr}{xs:List V}{g:TG}{tb:TS}{D:Ends}{σ:St}{H:Hp}(Pv:Nat->St->Hp->Prop) (h0:Pv 0 σ H) (hl:∀i σ H,i<=xs.length->Pv i σ H->dO K H a xs)
  (hs:∀i x σ H,xs[i]?=some x->Pv i σ H->g x σ H λoj H2=>tb { D with nx:=Pv (i+1),ct:=Pv (i+1),bk:=D.nx } oj H2) (hd:∀σ H,Pv xs.length σ H->D.nx σ H) :
  ∃W:Nat->Nat->St->Hp->Prop,(∃m,W 0 m σ H)/\∀i m σ H,W i m σ H ->
   ((Rp K a).stop i H/\D.nx σ H)\/((Rp K a).go i H/\∃N:St->Hp->Prop,(∀fK H',N fK H'->∃m',m'<m/\W (i+1) m' fK H')/\∀x H',(Rp K a).Uk i H x H'->g x σ H' λoj H2=>tb { D with nx:=N,ct:=N,bk:=D.nx } oj H2):=by
 refine⟨λi m σ H=>m=xs.length-i/\i<=xs.length/\Pv i σ H,⟨xs.length,by simp,ck _,h0⟩,?_⟩;rintro i m σ H ⟨rfl,hi,p⟩;have q:=hl i σ H hi p;by_cases hX:i<xs.length
 ·refine .inr ⟨⟨xs,xs[i],q,by simp[hX]⟩,Pv (i+1),λfK H' p'=>⟨xs.length-(i+1),by omega,rfl,hX,p'⟩,λx H' y=>?_⟩;obtain⟨e,y⟩:=y;subst e;exact hs i x σ _ (y xs q) p
 ·have e:i=xs.length:=by omega
  subst e;exact .inl ⟨⟨xs,q,aQ _⟩,hd σ H p⟩
theorem Nq {lo:Int}{n:Nat}{g:TG}{tb:TS}{D:Ends}{σ:St}{H:Hp}(Pv:Nat->St->Hp->Prop) (h0:Pv 0 σ H)
  (hs:∀i σ H,i<n->Pv i σ H->g (.int (lo+i)) σ H λoj H2=>tb { D with nx:=Pv (i+1),ct:=Pv (i+1),bk:=D.nx } oj H2) (hd:∀σ H,Pv n σ H->D.nx σ H) :
  ∃W:Nat->Nat->St->Hp->Prop,(∃m,W 0 m σ H)/\∀i m σ H,W i m σ H ->
   ((RR lo n).stop i H/\D.nx σ H)\/((RR lo n).go i H/\∃N:St->Hp->Prop,(∀fK H',N fK H'->∃m',m'<m/\W (i+1) m' fK H')/\∀x H',(RR lo n).Uk i H x H'->g x σ H' λoj H2=>tb { D with nx:=N,ct:=N,bk:=D.nx } oj H2):=by
 refine⟨λi m σ H=>m=n-i/\i<=n/\Pv i σ H,⟨n,by simp,ck _,h0⟩,?_⟩;rintro i m σ H ⟨rfl,hi,p⟩;by_cases hX:i<n
 ·refine .inr ⟨hX,Pv (i+1),λfK H' p'=>⟨n-(i+1),by omega,rfl,hX,p'⟩,λx H' y=>?_⟩;obtain⟨e,y⟩:=y;subst e y;exact hs i σ _ hX p
 ·have e:i=n:=by omega
  subst e;exact .inl ⟨aQ _,hd σ H p⟩
end L2
namespace L2
open PySem PySem.Spec PyProof.Rows
abbrev R2:=V->V->Hp->VK->Prop
def zp (X:Cx) (f:Value->Value->Sem Value) (r:R2):Prop :=
 ∀(pins:List (Addr×Obj)) (s:Shared) (σ:St) (H:Hp) (x y:V) (v u:Value) (Q:VK),Inv X pins σ H s->RelV x v->RelV y u->r x y H Q ->
  wpAny (model X.prog X.w) X.A (f v u) (EP X pins σ Q) X.xe s
def UnR (X:Cx) (f:Value->Sem Value) (r:V->Hp->VK->Prop):Prop :=
 ∀(pins:List (Addr×Obj)) (s:Shared) (σ:St) (H:Hp) (x:V) (v:Value) (Q:VK),Inv X pins σ H s->RelV x v->r x H Q ->
  wpAny (model X.prog X.w) X.A (f v) (EP X pins σ Q) X.xe s
def sW (X:Cx) (f:Value) (r:List V->Hp->VK->Prop):Prop :=
 ∀(pins:List (Addr×Obj)) (s:Shared) (σ:St) (H:Hp) (xs:List V) (us:List Value) (Q:VK),Inv X pins σ H s->Vals xs us->r xs H Q ->
  wpAny (model X.prog X.w) X.A (call f us) (EP X pins σ Q) X.xe s
def Rz (r:R2) (ta tb:TE):TE:=λσ H Q=>ta σ H λx H1=>tb σ H1 λy H2=>r x y H2 Q
def tUn (r:V->Hp->VK->Prop) (ta:TE):TE:=λσ H Q=>ta σ H λx H1=>r x H1 Q
def rI (C:Int->Int->Prop) (g:Int->Int->V):R2:=λx y H Q=>∃i j,x = .int i/\y = .int j/\C i j/\Q (g i j) H
def Pc (g:Int->Int->V):R2:=λx y H Q=>∃i j,x = .int i/\y = .int j/\Q (g i j) H
def rU (g:Int->V):V->Hp->VK->Prop:=λx H Q=>∃i,x = .int i/\Q (g i) H
section
variable {X:Cx}{a b c:Expr}{ta tb tc:TE}{pos:Pos}
theorem WS (ha:PE X a ta) (hb:PE X b tb){pins:List (Addr×Obj)}{s:Shared}{σ:St}{H:Hp}{R:V->V->Hp->Prop}(I:Inv X pins σ H s)
  (h:ta σ H λx H1=>tb σ H1 λy H2=>R x y H2){Q:Value->Shared->Prop}{f:Value->Value->Sem Value}
  (hf:∀v u s2 x y H2,Inv X pins σ H2 s2->RelV x v->RelV y u->R x y H2->wpAny (model X.prog X.w) X.A (f v u) Q X.xe s2) :
  wpAny (model X.prog X.w) X.A (eval a X.env) (λv cV=>wpAny (model X.prog X.w) X.A (eval b X.env) (λu mq=>wpAny (model X.prog X.w) X.A (f v u) Q X.xe mq) X.xe cV) X.xe s:=by
 refine fu (ha pins s σ H _ I h) λv s1 ⟨x,H1,I1,r1,q1⟩=>?_
 refine fu (hb pins s1 σ H1 _ I1 q1) λu s2 ⟨y,H2,I2,r2,q2⟩=>?_
 exact hf v u s2 x y H2 I2 r1 r2 q2
theorem eF {op:Operator}{r:R2}(ho:zp X (binaryOp op) r) (ha:PE X a ta) (hb:PE X b tb):PE X (.BinOp a op b pos) (Rz r ta tb):=by
 intro pins s σ H Q I h;exact wpAny_BinOp (WS ha hb I h λv u s2 x y H2 I2 rx ry q=>ho pins s2 σ H2 x y v u Q I2 rx ry q)
theorem sM {op:UnaryOp}{r:V->Hp->VK->Prop}(ho:UnR X (unaryOp op) r) (ha:PE X a ta):PE X (.UnaryOp op a pos) (tUn r ta):=by
 intro pins s σ H Q I h;exact UnaryOp_ (fu (ha pins s σ H _ I h) λv s1 ⟨x,H1,I1,r1,q1⟩=>ho pins s1 σ H1 x v Q I1 r1 q1)
theorem opI {f:Value->Value->Sem Value}{C:Int->Int->Prop}{g:Int->Int->Int}
  (rule:∀(i j:Int) (t u:Tok) (s:Shared) (Q:Value->Shared->Prop) (E:Value->Shared->Prop),C i j->Q (.int (g i j) s.toks) { s with toks:=s.toks+1 }->wpAny (model X.prog X.w) X.A (f (.int i t) (.int j u)) Q E s) :
  zp X f (rI C λi j=>.int (g i j)):=by
 intro pins s σ H x y v u Q I rx ry h;obtain⟨i,j,rfl,rfl,hc,q⟩:=h;obtain⟨t,rfl⟩:=rx;obtain⟨t',rfl⟩:=ry;exact rule i j t t' s _ _ hc ⟨.int (g i j),H,I.tok _,⟨_,rfl⟩,q⟩
theorem VF {f:Value->Value->Sem Value}{g:Int->Int->Int}
  (rule:∀(i j:Int) (t u:Tok) (s:Shared) (Q:Value->Shared->Prop) (E:Value->Shared->Prop),Q (.int (g i j) s.toks) { s with toks:=s.toks+1 }->wpAny (model X.prog X.w) X.A (f (.int i t) (.int j u)) Q E s) :
  zp X f (Pc λi j=>.int (g i j)):=by
 intro pins s σ H x y v u Q I rx ry h;obtain⟨i,j,rfl,rfl,q⟩:=h;obtain⟨t,rfl⟩:=rx;obtain⟨t',rfl⟩:=ry;exact rule i j t t' s _ _ ⟨.int (g i j),H,I.tok _,⟨_,rfl⟩,q⟩
theorem SV {f:Value->Value->Sem Value}{g:Int->Int->Bool}
  (rule:∀(i j:Int) (t u:Tok) (s:Shared) (Q:Value->Shared->Prop) (E:Value->Shared->Prop),Q (.bool (g i j)) s->wpAny (model X.prog X.w) X.A (f (.int i t) (.int j u)) Q E s) :
  zp X f (Pc λi j=>.bl (g i j)):=by
 intro pins s σ H x y v u Q I rx ry h;obtain⟨i,j,rfl,rfl,q⟩:=h;obtain⟨t,rfl⟩:=rx;obtain⟨t',rfl⟩:=ry;exact rule i j t t' s _ _ ⟨.bl (g i j),H,I,rfl,q⟩
def aa6 (i j:Int):Prop:=0<=j/\j<=1000000/\i.natAbs<2 ^ 64
def W5 (i j:Int):Prop:=(-(2 ^ 64)<i/\i<2 ^ 64)\/(-(2 ^ 64)<j/\j<2 ^ 64)
theorem W5.ok {i j:Int}(h:W5 i j):IntMulOk i j:=by
 rcases h with⟨h1,h2⟩|⟨h1,h2⟩
 ·exact .of_left (intBits_le_64 h1 h2)
 ·exact .of_right (intBits_le_64 h1 h2)
theorem IJ (k:Nat):(0:Int)<=2 ^ k:=by
 rw[two_pow_cast];exact Int.natCast_nonneg _
theorem ku:zp X (binaryOp .Add) (Pc λi j=>.int (i+j)):=VF λ_ _ _ _ _ _ _ q=>add_int q
theorem EZ:zp X (binaryOp .Sub) (Pc λi j=>.int (i-j)):=VF λ_ _ _ _ _ _ _ q=>sub_int q
theorem JN:zp X (binaryOp .Mult) (rI W5 λi j=>.int (i * j)):=opI λ_ _ _ _ _ _ _ hc q=>mul_int q hc.ok
theorem Bu:zp X (binaryOp .LShift) (rI aa6 λi j=>.int (i * 2 ^ j.toNat)):=opI λ_ _ _ _ _ _ _ hc q=>lshift_int_small hc.1 hc.2.1 hc.2.2 q
theorem E1:zp X (binaryOp .RShift) (rI (λ_ j=>0<=j) λi j=>.int (i / 2 ^ j.toNat)):=opI λi j _ _ _ _ _ hc q =>
 rshift_int hc (by rw[Int.fdiv_eq_ediv_of_nonneg i (IJ _)];exact q)
theorem t9:zp X (binaryOp .BitAnd) (Pc λi j=>.int (Builtin.bitAnd i j)):=VF λ_ _ _ _ _ _ _ q=>and_int q
theorem unI {f:Value->Sem Value}{g:Int->Int}
  (rule:∀(i:Int) (t:Tok) (s:Shared) (Q:Value->Shared->Prop) (E:Value->Shared->Prop),Q (.int (g i) s.toks) { s with toks:=s.toks+1 }->wpAny (model X.prog X.w) X.A (f (.int i t)) Q E s) :
  UnR X f (rU λi=>.int (g i)):=by
 intro pins s σ H x v Q I rx h;obtain⟨i,rfl,q⟩:=h;obtain⟨t,rfl⟩:=rx;exact rule i t s _ _ ⟨.int (g i),H,I.tok _,⟨_,rfl⟩,q⟩
theorem pb:UnR X (unaryOp .USub) (rU λi=>.int (-i)):=unI λ_ _ _ _ _ q=>neg_int q
theorem U2:UnR X (unaryOp .Invert) (rU λi=>.int (Builtin.bitNot i)):=unI λ_ _ _ _ _ q=>invert_int q
end
def Sw:V->V->Bool
 | .gi,.gi=>true | .gi,.int _=>true | .int _,.gi=>true | .gi,.bl _=>true | .bl _,.gi=>true | .gi,.str _=>true | .str _,.gi=>true
 | .int _,.int _=>true | .bl _,.bl _=>true | .str _,.str _=>true | .Iw _,.Iw _=>true
 | .int _,.str _=>true | .str _,.int _=>true | .bl _,.str _=>true | .str _,.bl _=>true
 | _,_=>false
def rEq:R2:=λx y H Q=>Sw x y=true/\Q (.bl (decide (x=y))) H
def rNe:R2:=λx y H Q=>Sw x y=true/\Q (.bl (!decide (x=y))) H
theorem LO {i j:Int}:decide (V.int i=V.int j)=(i==j):=by
 rw[bQ];simp
theorem Q4 {i j:Bool}:decide (V.bl i=V.bl j)=(i==j):=by
 rw[bQ];simp
theorem LN {i j:Str}:decide (V.str i=V.str j)=(i==j):=by
 rw[bQ];simp
theorem LP {i j:Array UInt8}:decide (V.Iw i=V.Iw j)=(i.toList==j.toList):=by
 rw[bQ];cases i;cases j;simp
section
variable {X:Cx}{a b c:Expr}{ta tb tc:TE}{pos:Pos}
theorem et {pins:List (Addr×Obj)}{σ:St}{H:Hp}{s:Shared}{Q:VK}{k k':Bool}(I:Inv X pins σ H s) (q:Q (.bl k) H) (e:k=k'):EP X pins σ Q (.bool k') s:=by
 subst e;exact⟨.bl k,H,I,rfl,q⟩
theorem j3:zp X (compareOp .Eq) rEq:=by
 intro pins s σ H x y v u Q I rx ry h;obtain⟨hs,q⟩:=h;cases x with
 | gi =>
  cases rx;cases y with
  | gi=>cases ry;exact ZO (et I q (by simp))
  | bl j=>cases ry;exact ZQ (et I q (by simp))
  | int j=>obtain⟨t',rfl⟩:=ry;exact ZP (et I q (by simp))
  | str j=>obtain⟨t',rfl⟩:=ry;exact ZN (et I q (by simp))
  | _=>exact absurd (show false=true from hs) aW
 | bl i =>
  cases rx;cases y with
  | gi=>cases ry;exact ZS (et I q (by simp))
  | bl j=>cases ry;exact eq_bool (et I q Q4)
  | str j=>obtain⟨t',rfl⟩:=ry;exact XR (et I q (by simp))
  | _=>exact absurd (show false=true from hs) aW
 | int i =>
  obtain⟨t,rfl⟩:=rx;cases y with
  | gi=>cases ry;exact ZR (et I q (by simp))
  | int j=>obtain⟨t',rfl⟩:=ry;exact eq_int (et I q LO)
  | str j=>obtain⟨t',rfl⟩:=ry;exact XQ (et I q (by simp))
  | _=>exact absurd (show false=true from hs) aW
 | str i =>
  obtain⟨t,rfl⟩:=rx;cases y with
  | gi=>cases ry;exact ZM (et I q (by simp))
  | bl j=>cases ry;exact XO (et I q (by simp))
  | int j=>obtain⟨t',rfl⟩:=ry;exact XN (et I q (by simp))
  | str j=>obtain⟨t',rfl⟩:=ry;exact eq_str (et I q LN)
  | _=>exact absurd (show false=true from hs) aW
 | Iw i =>
  obtain⟨t,rfl⟩:=rx;cases y with
  | Iw j=>obtain⟨t',rfl⟩:=ry;exact PySem.W.eq_bytes (et I q LP)
  | _=>exact absurd (show false=true from hs) aW
 | _=>cases y<;>exact absurd (show false=true from hs) aW
theorem Pw:zp X (compareOp .NotEq) rNe:=by
 intro pins s σ H x y v u Q I rx ry h;obtain⟨hs,q⟩:=h;cases x with
 | gi =>
  cases rx;cases y with
  | gi=>cases ry;exact ZH (et I q (by simp))
  | bl j=>cases ry;exact ZJ (et I q (by simp))
  | int j=>obtain⟨t',rfl⟩:=ry;exact ZI (et I q (by simp))
  | str j=>obtain⟨t',rfl⟩:=ry;exact ZG (et I q (by simp))
  | _=>exact absurd (show false=true from hs) aW
 | bl i =>
  cases rx;cases y with
  | gi=>cases ry;exact ZL (et I q (by simp))
  | bl j=>cases ry;exact ne_bool (et I q (congrArg not Q4))
  | str j=>obtain⟨t',rfl⟩:=ry;exact XM (et I q (by simp))
  | _=>exact absurd (show false=true from hs) aW
 | int i =>
  obtain⟨t,rfl⟩:=rx;cases y with
  | gi=>cases ry;exact ZK (et I q (by simp))
  | int j=>obtain⟨t',rfl⟩:=ry;exact ne_int (et I q (congrArg not LO))
  | str j=>obtain⟨t',rfl⟩:=ry;exact XJ (et I q (by simp))
  | _=>exact absurd (show false=true from hs) aW
 | str i =>
  obtain⟨t,rfl⟩:=rx;cases y with
  | gi=>cases ry;exact ZF (et I q (by simp))
  | bl j=>cases ry;exact XI (et I q (by simp))
  | int j=>obtain⟨t',rfl⟩:=ry;exact XH (et I q (by simp))
  | str j=>obtain⟨t',rfl⟩:=ry;exact ne_str (et I q (congrArg not LN))
  | _=>exact absurd (show false=true from hs) aW
 | Iw i =>
  obtain⟨t,rfl⟩:=rx;cases y with
  | Iw j=>obtain⟨t',rfl⟩:=ry;exact PySem.W.ne_bytes (et I q (congrArg not LP))
  | _=>exact absurd (show false=true from hs) aW
 | _=>cases y<;>exact absurd (show false=true from hs) aW
theorem nZ:zp X (compareOp .Lt) (Pc λi j=>.bl (decide (i<j))):=SV λ_ _ _ _ _ _ _ q=>lt_int q
theorem Uu:zp X (compareOp .LtE) (Pc λi j=>.bl (decide (i<=j))):=SV λ_ _ _ _ _ _ _ q=>le_int q
theorem vM:zp X (compareOp .Gt) (Pc λi j=>.bl (decide (j<i))):=SV λ_ _ _ _ _ _ _ q=>gt_int q
theorem Px:zp X (compareOp .GtE) (Pc λi j=>.bl (decide (j<=i))):=SV λ_ _ _ _ _ _ _ q=>ge_int q
theorem MT:zp X (compareOp .In) (λx y H Q=>∃i j,x = .str i/\y = .str j/\Q (.bl (!(Builtin.Str.occurrences j i 0 j.length 1).isEmpty)) H):=by
 intro pins s σ H x y v u Q I rx ry h;obtain⟨i,j,rfl,rfl,q⟩:=h;obtain⟨t,rfl⟩:=rx;obtain⟨t',rfl⟩:=ry;exact in_str (et I q rfl)
theorem E2:zp X (compareOp .Is) (λx y H Q=>y = .gi/\Q (.bl (decide (x = .gi))) H):=by
 intro pins s σ H x y v u Q I rx ry h;obtain⟨rfl,q⟩:=h;cases ry;refine is_none_gen (et I q ?_);cases x<;>first
  | (cases rx;rfl)
  | (obtain⟨t,rfl⟩:=rx;rfl)
theorem bN (b:Expr){op:CmpOp}(h:op ≠ .In:=by decide) (h2:op ≠ .NotIn:=by decide):behindInMarks op b=false:=by
 have e1:(op==CmpOp.In)=false:=by cases op<;>first|rfl|exact absurd rfl h
 have e2:(op==CmpOp.NotIn)=false:=by cases op<;>first|rfl|exact absurd rfl h2
 cases b<;>simp[behindInMarks,e1,e2]
theorem rO {op:CmpOp}{r:R2}(ho:zp X (compareOp op) r) (ha:PE X a ta) (hb:PE X b tb) (hm:behindInMarks op b=false):PE X (.Compare a [op] [b] pos) (Rz r ta tb):=by
 intro pins s σ H Q I h;exact wpAny_Compare1 (WS ha hb I h λv u s2 x y H2 I2 rx ry q=>ho pins s2 σ H2 x y v u Q I2 rx ry q) hm
def OH (t:TE):TT:=λσ H Q=>t σ H λx H'=>∃k,x = .bl k/\Q k H'
theorem br {op:CmpOp}{r:R2}(ho:zp X (compareOp op) r) (ha:PE X a ta) (hb:PE X b tb) (hm:behindInMarks op b=false):PT X (.Compare a [op] [b] pos) (OH (Rz r ta tb)):=by
 intro pins s σ H Q I h;refine wpAny_isTrue_Compare1 (fu (ha pins s σ H _ I h) λv s1 ⟨x,H1,I1,r1,q1⟩=>fu (hb pins s1 σ H1 _ I1 q1) λu s2 ⟨y,H2,I2,r2,q2⟩ =>
  fu (ho pins s2 σ H2 x y v u _ I2 r1 r2 q2) λc s3 ⟨z,H3,I3,r3,k,e,q3⟩=>?_) hm
 subst e;cases r3;exact wpAny_truthy_bool ⟨H3,I3,q3⟩
def IX (r r':R2) (ta tb tc:TE):TE:=λσ H Q=>ta σ H λx H1=>tb σ H1 λy H2=>r x y H2 λz H3=>∃k,z = .bl k /\
 (if k=true then tc σ H3 λw' H4=>r' y w' H4 Q else Q (.bl false) H3)
theorem Pt {op op':CmpOp}{r r':R2}(ho:zp X (compareOp op) r) (N6:zp X (compareOp op') r') (ha:PE X a ta) (hb:PE X b tb) (hc:PE X c tc)
  (hm:lastMarks [op,op'] [b,c]=false:=by with_unfolding_all rfl):PE X (.Compare a [op,op'] [b,c] pos) (IX r r' ta tb tc):=by
 intro pins s σ H Q I h;refine Compare_chain (fu (ha pins s σ H _ I h) λv s1 ⟨x,H1,I1,r1,q1⟩=>chain_link (fu (hb pins s1 σ H1 _ I1 q1) λu s2 ⟨y,H2,I2,r2,q2⟩ =>
  fu (ho pins s2 σ H2 x y v u _ I2 r1 r2 q2) λd s3 ⟨z,H3,I3,r3,k,e,q3⟩=>?_)) hm
 subst e;cases r3;refine wpAny_truthy_bool ?_;cases k with
 | false=>exact ite_ff ⟨.bl false,H3,I3,rfl,q3⟩
 | true=>exact ite_tt (chain_last (fu (hc pins s3 σ H3 _ I3 q3) λw' s4 ⟨z',H4,I4,r4,q4⟩=>N6 pins s4 σ H4 y z' u w' Q I4 r2 r4 q4))
theorem wC:(sizeLine:Nat)<2 ^ 63:=by rw[sizeLine_eq];decide
theorem vals1 {x:V}{us:List Value}(r:Vals [x] us):∃u,us=[u]/\RelV x u:=by
 cases r with
 | cons r1 r2=>cases r2;exact⟨_,rfl,r1⟩
theorem vals2 {x y:V}{us:List Value}(r:Vals [x,y] us):∃u w',us=[u,w']/\RelV x u/\RelV y w':=by
 cases r with
 | cons r1 r2 =>
  cases r2 with
  | cons r3 r4=>cases r4;exact⟨_,_,rfl,r1,r3⟩
theorem NA (hc:X.calm=true):sW X (.builtin "max") (λxs H Q=>∃i j,xs=[.int i,.int j]/\Q (.int (if j > i then j else i)) H):=by
 intro pins s σ H xs us Q I r h;obtain⟨i,j,rfl,q⟩:=h;obtain⟨u,w',rfl,⟨t,rfl⟩,⟨t',rfl⟩⟩:=vals2 r;refine max_two_ints (I.ok.hd hc) λh' tk k=>⟨_,H,I.kept k,?_,q⟩
 by_cases hj:j > i
 ·rw[if_pos hj,if_pos hj];exact⟨_,rfl⟩
 ·rw[if_neg hj,if_neg hj];exact⟨_,rfl⟩
theorem DV (hc:X.calm=true):sW X (.builtin "min") (λxs H Q=>∃i j,xs=[.int i,.int j]/\Q (.int (if j<i then j else i)) H):=by
 intro pins s σ H xs us Q I r h;obtain⟨i,j,rfl,q⟩:=h;obtain⟨u,w',rfl,⟨t,rfl⟩,⟨t',rfl⟩⟩:=vals2 r;refine min_two_ints (I.ok.hd hc) λh' tk k=>⟨_,H,I.kept k,?_,q⟩
 by_cases hj:j<i
 ·rw[if_pos hj,if_pos hj];exact⟨_,rfl⟩
 ·rw[if_neg hj,if_neg hj];exact⟨_,rfl⟩
theorem Ra:sW X (.builtin "ord") (λxs H Q=>∃x,xs=[.str x]/\x.length=1/\Q (.int (x.cps.getD 0 0:Nat)) H):=by
 intro pins s σ H xs us Q I r h;obtain⟨x,rfl,hz,q⟩:=h;obtain⟨u,rfl,t,rfl⟩:=vals1 r;exact ord_of_one hz ⟨.int _,H,I.tok _,⟨_,rfl⟩,q⟩
end
end L2
namespace L2
open PySem PySem.Spec PyProof.Rows
structure KH (h:Heap) (x dx C:Addr) (mA:Str->Option Value):Prop where
 obj:h.get? x=some (gF C dx)
 ns:h.Ns1 dx mA
 ne:dx≠x
theorem M5 {h:Heap}{dx:Addr}{mA:Str->Option Value}(n:h.Ns1 dx mA):∃od,h.get? dx=some od/\∀name,tG name od=some (mA name):=by
 obtain⟨o,es,ep,ho,hd,hk,_,hm⟩:=n;refine⟨o,ho,λname=>?_⟩;have e:=hm name;unfold nsFind findBy at e;rw[<-Array.find?_toList]at e;unfold tG;rw[hd];dsimp only
 split
 ·rename_i y q
  rw[q]at e;exact congrArg some e
 ·rename_i q
  rw[q]at e;have a:es.toList.any (·.refKey)=false:=by
   rw[List.any_eq_false];intro y hy;obtain⟨z,t,QB⟩:=hk y (Array.mem_toList_iff.mp hy);simp[DictEntry.refKey,QB]
  have a':¬es.toList.any (·.refKey)=true:=by rw[a];exact aW
  rw[if_neg a'];exact congrArg some e
theorem KH.look {h:Heap}{x dx C:Addr}{mA:Str->Option Value}(I:KH h x dx C mA):∃od,PySem.W.InstAt h x (gF C dx) C (some od)/\∀name,tG name od=some (mA name) :=
 let ⟨od,ho,hl⟩:=M5 I.ns
 ⟨od,⟨I.obj,rfl,rfl,ho⟩,hl⟩
section
variable {prog:Program}{w:World}{A:Around}{E:Value->Shared->Prop}{s:Shared}{K:aa}{x dx C f:Addr}{mA:Str->Option Value}{name:Str}{v:Value}
theorem get_map {expr:Bool}{Q:Value->Shared->Prop}(X:K.In s.heap) (I:KH s.heap x dx C mA) (hg:qG K C name=true) (hh:xb K C=true)
  (ha:aq K (.ref C) name=some none) (hv:mA name=some v) (Wb:L0 v=true) (h:Q v { s with toks:=s.toks+1 }) :
  wpAny (model prog w) A (getAttr (.ref x) name expr) Q E s:=by
 obtain⟨od,J,hl⟩:=I.look;exact PySem.W.get_value X J (vo hg).1 (PySem.W.findObj_own hh ha rfl (by rw[hl,hv])) Wb h
theorem QR {pl:Sem Bool}{Q:Value×List Value->Shared->Prop}(X:K.In s.heap) (I:KH s.heap x dx C mA) (hg:qG K C name=true)
  (hf:aq K (.ref C) name=some (some (.ref f))) (ht:a9 K (.ref f)=true) (hv:mA name=none) (h:Q (.ref f,[.ref x]) s) :
  wpAny (model prog w) A (getMethod (.ref x) name pl) Q E s:=by
 obtain⟨od,J,hl⟩:=I.look;exact PySem.W.method_fn X J (vo hg).1 (vo hg).2 hf (beq_iff_eq.mp ht) (by show(tG name od).map (·.isSome)=some false;rw[hl,hv];rfl) h
theorem Sq {ns:List Str}{Q:Unit->Shared->Prop}(X:K.In s.heap) (I:KH s.heap x dx C mA)
  (hs:aq K (.ref C) "__setattr__" = some (some (.builtin "object.__setattr__"))) (hp:KJ K C=true) (ht:Ac K C name=some none) (hh:xb K C=true)
  (hw:Gb mA ns) (hsz:ns.length<=sizeLine)
  (h:∀h',KH h' x dx C (λy=>if y=name then some v else mA y)->Heap.SameBut dx s.heap h'->Q () { s with heap:=h',toks:=s.toks+2 }) :
  wpAny (model prog w) A (setAttr (.ref x) name v) Q E s:=by
 obtain⟨od,J,hl⟩:=I.look;refine PySem.W.set_plain X J hs (PySem.W.osa_open (s:={ s with toks:=s.toks+1 }) (r:=none) X J hp ht λb=>?_);obtain⟨cd,hc,Tu⟩:=PySem.W.any_some hh;have hx:s.heap.get? x=some ⟨.ref C,some dx,.plain,#[]⟩:=I.obj;refine wpAny_bind (wpAny_pure (wpAny_bind (wpAny_bind (wpAny_loadPart hx (wpAny_bind (XG (s:={ s with toks:=s.toks+1 }) (PySem.W.looks_clsIn X hc) ?_))))));rw[Tu];refine wpAny_pure (a:=some dx) (wpAny_bind (wpAny_pure (wpAny_bind ?_)));refine wpAny_nsSet1 (s:={ s with toks:=s.toks+1 }) I.ns λh' hn2 Hl=>?_
 obtain⟨oD,esD,epD,hoD,hdD,hcD⟩:=hn2.count (ZE name v hw);refine wpAny_bind (wpAny_lookBehind hoD (by rw[hdD];exact pastItsLine_dict (bw hcD (by rw[ay];omega))) ?_);exact wpAny_pure (h _ ⟨(Hl.2 _ (rn I.ne)).trans I.obj,hn2,I.ne⟩ Hl)
theorem PQ {R:Result->Shared->Prop}{vs:List Value}{kw:List (Str×Value)}(X:K.In s.heap) (hm:dj K C=true)
  (hi:aq K (.ref C) "__init__" = some (some (.ref f))) (hf:PySem.W.typeIn K (.ref f)=some (.type "function"))
  (h:codeAny (model prog w) (A.under (.builtin "type.__call__" ⟨.ref C::vs,kw⟩)) (.call (.ref f) ⟨.ref (s.heap.objs.size+1)::vs,kw⟩) (PySem.W.InitBack (s.heap.objs.size+1) R)
   { s with heap:=(s.heap.push eW).push (gF C s.heap.objs.size) }) :
  codeAny (model prog w) A (.call (.ref C) ⟨vs,kw⟩) R s:=by
 obtain⟨hh,g,d,t,os⟩:=s;exact PySem.W.make_core (PySem.W.makes_of X hm) (PySem.W.looks_findIn X hi) (λself=>PySem.W.bind_fn X self hf) (.inl rfl) h
end
def a0 (f:Str) (v:V):List (Str×V)->List (Str×V)
 | []=>[(f,v)]
 | (g,x)::r=>if g=f then(g,v)::r else(g,x)::a0 f v r
theorem zG (f g:Str) (v:V):∀fs:List (Str×V),(a0 f v fs).lookup g=if g=f then some v else fs.lookup g
 | []=>by
  show jS g [(f,v)]=_;by_cases h:g=f
  ·have hb:(g==f)=true:=beq_iff_eq.mpr h;simp only[jS,hb,if_pos h]
  ·have hb:(g==f)=false:=beq_eq_false_iff_ne.mpr h;simp only[jS,hb,if_neg h]
 | (k,x)::r=>by
  have ih:=zG f g v r;rw[show a0 f v ((k,x)::r)=(if k=f then(k,v)::r else(k,x)::a0 f v r) from rfl];by_cases hk:k=f
  ·rw[if_pos hk];by_cases h:g=k
   ·have hb:(g==k)=true:=beq_iff_eq.mpr h;simp only[jS,hb,if_pos (h.trans hk)]
   ·have hb:(g==k)=false:=beq_eq_false_iff_ne.mpr h;simp only[jS,hb,if_neg (λe:g=f=>h (e.trans hk.symm))]
  ·rw[if_neg hk];by_cases h:g=k
   ·have hb:(g==k)=true:=beq_iff_eq.mpr h;simp only[jS,hb,if_neg (λe:g=f=>hk (h.symm.trans e))]
   ·have hb:(g==k)=false:=beq_eq_false_iff_ne.mpr h;simp only[jS,hb];exact ih
theorem yW (f:Str) (v:V):∀fs:List (Str×V),f∈(a0 f v fs).map (·.1)/\∀g,g∈fs.map (·.1)->g∈(a0 f v fs).map (·.1)
 | []=>⟨by simp[a0],λg h=>by simp at h⟩
 | (k,x)::r=>by
  obtain⟨i1,i2⟩:=yW f v r;rw[show a0 f v ((k,x)::r)=(if k=f then(k,v)::r else(k,x)::a0 f v r) from rfl];by_cases hk:k=f
  ·rw[if_pos hk];subst hk;exact⟨by simp,λg h=>by simpa using h⟩
  ·rw[if_neg hk];refine⟨?_,λg h=>?_⟩
   ·rw[aP];exact ai _ i1
   ·rw[aP]at h⊢;rcases ah.mp h with e|e
    ·exact ah.mpr (.inl e)
    ·exact ai _ (i2 g e)
theorem zH (f:Str) (v:V):∀fs:List (Str×V),(a0 f v fs).length<=fs.length+1
 | []=>by simp[a0]
 | (k,x)::r=>by
  have ih:=zH f v r;rw[show a0 f v ((k,x)::r)=(if k=f then(k,v)::r else(k,x)::a0 f v r) from rfl];by_cases hk:k=f
  ·rw[if_pos hk,ay,ay];omega
  ·rw[if_neg hk,ay,ay];omega
theorem tE.some_of {v:V}{o:Option Value}(r:tE (some v) o):∃u,o=some u/\RelV v u:=by
 cases o with
 | none=>exact(show False from r).elim
 | some u=>exact⟨u,rfl,r⟩
theorem tE.none_of {o:Option Value}(r:tE none o):o=none:=by
 cases o with
 | none=>rfl
 | some u=>exact(show False from r).elim
theorem Nm {v:V}{u:Value}(r:RelV v u):L0 u=true:=by
 cases v with
 | gi=>cases (show u=Value.none from r);rfl
 | bl b=>cases (show u=Value.bool b from r);rfl
 | int i=>obtain⟨t,e⟩:=(show ∃t,u=Value.int i t from r);cases e;rfl
 | str x=>obtain⟨t,e⟩:=(show ∃t,u=Value.str x t from r);cases e;rfl
 | Iw b=>obtain⟨t,e⟩:=(show ∃t,u=Value.bytes b t from r);cases e;rfl
 | flt b=>obtain⟨t,e⟩:=(show ∃t,u=Value.float b t from r);cases e;rfl
 | ref a=>cases (show u=Value.ref a from r);rfl
 | ty n=>cases (show u=Value.type n from r);rfl
section
variable {P:Program}{w:World}{H H':Hp}{h h':Heap}{a C dx:Addr}{fs RN:List (Str×V)}
theorem Fm (df:tF P w H h) (e:H a=some (.ins C dx fs)):∃mA,KH h a dx C mA/\(∀f,tE (fs.lookup f) (mA f))/\Gb mA (fs.map (·.1))/\fs.length<=1000/\H dx=some (.own a):=by
 obtain⟨d,z,ne,ob,mA,n,r,q⟩:=(show gB P w H h a (.ins C dx fs) from df a _ e);exact⟨mA,⟨ob,n,ne⟩,r,q,z,d⟩
end
structure sV (K:aa) (C:Addr):Prop where
 pg:qG K C Str.empty=true
 hd:xb K C=true
 po:KJ K C=true
 sa:aq K (.ref C) "__setattr__" = some (some (.builtin "object.__setattr__"))
theorem sV.get {K:aa}{C:Addr}(c:sV K C) (f:Str):qG K C f=true:=c.pg
def cb (K:aa) (C:Addr) (f:Str):Prop:=aq K (.ref C) f=some none
theorem cb.X2 {K:aa}{C:Addr}{f:Str}(n:cb K C f):Ac K C f=some none:=by
 unfold Ac;rw[show aq K (.ref C) f=some none from n];rfl
structure Meth (K:aa) (C:Addr) (m:Str) (f:Addr):Prop where
 at_:aq K (.ref C) m=some (some (.ref f))
 fn:a9 K (.ref f)=true
 kp:cp K (.ref f)=true
section
variable {X:Cx}{pins:List (Addr×Obj)}{σ:St}{H:Hp}{s:Shared}{a C dx:Addr}{fs:List (Str×V)}{f:Str}{v:V}{A:Around}{E:Value->Shared->Prop}
theorem BO {b:Bool}{Q:Value->Shared->Prop}(I:Inv X pins σ H s) (e:H a=some (.ins C dx fs)) (c:sV X.K C) (n:cb X.K C f) (l:fs.lookup f=some v)
  (h:∀u s',Inv X pins σ H s'->RelV v u->Q u s'):wpAny (model X.prog X.w) A (getAttr (.ref a) f b) Q E s:=by
 obtain⟨mA,O,r,_,_,_⟩:=Fm I.df e;obtain⟨u,hu,ru⟩:=tE.some_of (v:=v) (o:=mA f) (by rw[<-l];exact r f);exact get_map I.J4 O (c.get f) c.hd n hu (Nm ru) (h u _ (I.tok _) ru)
theorem wH {m:Str}{g:Addr}{pl:Sem Bool}{Q:Value×List Value->Shared->Prop}(I:Inv X pins σ H s) (e:H a=some (.ins C dx fs)) (c:sV X.K C) (k:Meth X.K C m g) (l:fs.lookup m=none)
  (h:Q (.ref g,[.ref a]) s):wpAny (model X.prog X.w) A (getMethod (.ref a) m pl) Q E s:=by
 obtain⟨mA,O,r,_,_,_⟩:=Fm I.df e;have hn:mA m=none:=tE.none_of (by rw[<-l];exact r m);exact QR I.J4 O (c.get m) k.at_ k.fn hn h
theorem Bd {y:V}{u:Value}{Q:Unit->Shared->Prop}(I:Inv X pins σ H s) (e:H a=some (.ins C dx fs)) (c:sV X.K C) (n:cb X.K C f) (hl:fs.length<1000) (ry:RelV y u)
  (h:∀s',Inv X pins σ (upd H a (.ins C dx (a0 f y fs))) s'->Q () s'):wpAny (model X.prog X.w) A (setAttr (.ref a) f u) Q E s:=by
 obtain⟨mA,O,r,wi,_,ho⟩:=Fm I.df e;have hz:(fs.map (·.1)).length<=sizeLine:=by rw[ax,sizeLine_eq];omega
 refine Sq I.J4 O c.sa c.po n.X2 c.hd wi hz λh' O' sb=>h _ ?_
 have hd:∃o,h'.get? dx=some o:=let ⟨o,_,_,e',_⟩:=O'.ns;⟨o,e'⟩;refine I.write (x:=a) (e:=dx) (by rw[e];exact jP) (.inr ho) (λb q hb z=>(sb.2 b hb).trans z) hd ?_;refine⟨by rw[cv O.ne];exact ho,?_,O.ne,O'.obj,_,O'.ns,λg=>?_,λg hg=>?_⟩
 ·have:=zH f y fs;omega
 ·show tE ((a0 f y fs).lookup g) (if g=f then some u else mA g);rw[zG];by_cases q:g=f
  ·rw[if_pos q,if_pos q];exact ry
  ·rw[if_neg q,if_neg q];exact r g
 ·by_cases q:g=f
  ·rw[q];exact(yW f y fs).1
  ·refine(yW f y fs).2 g (wi g λz=>hg ?_);show(if g=f then some u else mA g)=none;rw[if_neg q];exact z
theorem Inv.made (I:Inv X pins σ H s):Inv X pins σ (upd (upd H s.heap.objs.size (.own (s.heap.objs.size+1))) (s.heap.objs.size+1) (.ins C s.heap.objs.size []))
  { s with heap:=(s.heap.push eW).push (gF C s.heap.objs.size) }:=by
 have e1:(s.heap.push eW).get? s.heap.objs.size=some eW:=Heap.get?_push_size s.heap rfl;have e2:((s.heap.push eW).push (gF C s.heap.objs.size)).get? (s.heap.objs.size+1)=some (gF C s.heap.objs.size):=by
  have:=Heap.get?_push_size (s.heap.push eW) (o:=gF C s.heap.objs.size) rfl
  rwa [Heap.size_push]at this
 have e3:(s.heap.push eW).Ns s.heap.objs.size (λ_=>none):=⟨eW,#[],_,e1,rfl,(λe he=>absurd he (by simp)),λ_=>rfl⟩;have I1:=I.laid (a:=s.heap.objs.size) (o:=.own (s.heap.objs.size+1)) (h':=s.heap.push eW) (t':=s.toks) (λb u q=>Heap.get?_push_of_some _ q) (aQ _) ⟨_,e1⟩;refine I1.laid (a:=s.heap.objs.size+1) (o:=.ins C s.heap.objs.size []) (t':=s.toks) (λb u q=>Heap.get?_push_of_some _ q) (tI (Heap.size_push _ _)) ?_;have ne:s.heap.objs.size≠s.heap.objs.size+1:=cI (AU _);refine⟨by rw[cv ne,c0],ck _,ne,e2,λ_=>none,(Heap.Ns1.of_empty e3).at λo q=>Heap.get?_push_of_some _ q,λ_=>jP,λy hy=>absurd rfl hy⟩
theorem T5 {prog:Program}{w:World}{env:Env}{e:Expr}{f:Str}{pos:Pos}{s:Shared}{Q:Value->Shared->Prop}(hb:attributeBase e f env (eval e env)=eval e env)
  (h:wpAny (model prog w) A (eval e env) (λo cV=>wpAny (model prog w) A (getAttr o f true) Q E cV) E s):wpAny (model prog w) A (eval (.Attribute e f pos) env) Q E s :=
 Attribute_any_ h (by rw[arm_eval_Attribute,hb])
end
def Mn (K:aa) (ta:TE) (f:Str):TE:=λσ H Q=>ta σ H λx H1=>∃a C dx fs v,x = .ref a/\H1 a=some (.ins C dx fs)/\sV K C/\cb K C f/\fs.lookup f=some v/\Q v H1
def Vq (K:aa) (ta tv:TE) (f:Str):TS:=λD σ H=>tv σ H λy H1=>ta σ H1 λx H2=>∃a C dx fs,x = .ref a/\H2 a=some (.ins C dx fs)/\sV K C/\cb K C f/\fs.length<1000 /\
 D.nx σ (upd H2 a (.ins C dx (a0 f y fs)))
def ZD (X:Cx) (op:Operator) (rd:V->V->Hp->VK->Prop):Prop :=
 ∀(pins:List (Addr×Obj)) (s:Shared) (σ:St) (H:Hp) (x y:V) (u v:Value) (Q:VK),Inv X pins σ H s->RelV x u->RelV y v->rd x y H Q->wpAny (model X.prog X.w) X.A (inplaceOp op u v) (EP X pins σ Q) X.xe s
def EN (K:aa) (ta tv:TE) (rd:V->V->Hp->VK->Prop) (f:Str):TS:=λD σ H=>ta σ H λx H1=>∃a C dx fs v,x = .ref a/\H1 a=some (.ins C dx fs)/\sV K C/\cb K C f/\fs.lookup f=some v /\
 tv σ H1 λy H2=>rd v y H2 λz H3=>∃dx' RN,H3 a=some (.ins C dx' RN)/\RN.length<1000/\D.nx σ (upd H3 a (.ins C dx' (a0 f z RN)))
section
variable {X:Cx}{o e value:Expr}{f:Str}{pos pos' Ag:Pos}{ta tv:TE}
theorem aV (he:PE X e ta) (hb:attributeBase e f X.env (eval e X.env)=eval e X.env):PE X (.Attribute e f pos) (Mn X.K ta f):=by
 intro pins s σ H Q I h;refine T5 hb (fu (he pins s σ H _ I h) λu s1 ⟨x,H1,I1,rx,a,C,dx,fs,v,ex,ea,c,n,l,q⟩=>?_);subst ex;obtain rfl:u=Value.ref a:=rx;exact BO I1 ea c n l λu' s2 I2 ru=>⟨v,H1,I2,ru,q⟩
theorem bW (ha:PE X o ta) (hv:PE X value tv) (hs:swapsWith value (some (.Attribute o f pos')) pos.line X.env=pure false):PS X (.Assign [.Attribute o f pos'] value pos) (Vq X.K ta tv f):=by
 intro pins s σ H D I h;refine plainObj_wpAny_Assign_Attribute (fu (hv pins s σ H _ I h) λu s1 ⟨y,H1,I1,ry,q⟩=>fu (ha pins s1 σ H1 _ I1 q) λov s2 ⟨x,H2,I2,rx,a,C,dx,fs,ex,ea,c,n,l,q2⟩=>?_) hs;subst ex;obtain rfl:ov=Value.ref a:=rx;exact Bd I2 ea c n l ry λs3 I3=>⟨σ,_,I3,q2⟩
theorem Ds {op:Operator}{rd:V->V->Hp->VK->Prop}(ha:PE X o ta) (hv:PE X value tv) (hop:ZD X op rd):PS X (.AugAssign (.Attribute o f Ag) op value pos) (EN X.K ta tv rd f):=by
 intro pins s σ H D I h;refine wpAny_AugAssign_AttributeAny (fu (ha pins s σ H _ I h) λov s1 ⟨x,H1,I1,rx,a,C,dx,fs,v,ex,ea,c,n,l,q⟩=>?_);subst ex;obtain rfl:ov=Value.ref a:=rx;refine BO I1 ea c n l λu s2 I2 ru=>fu (hv pins s2 σ H1 _ I2 q) λw3 s3 ⟨y,H2,I3,ry,q3⟩=>fu (hop pins s3 σ H2 v y u w3 _ I3 ru ry q3) λw4 s4 ⟨z,H3,I4,rz,dx',RN,ea',l',q4⟩=>?_
 exact Bd I4 ea' c n l' rz λs5 I5=>⟨σ,_,I5,q4⟩
def Vv:V->V->Hp->VK->Prop:=λx y H Q=>∃i j,x = .int i/\y = .int j/\Q (.int (i+j)) H
def Ye:V->V->Hp->VK->Prop:=λx y H Q=>∃i j,x = .int i/\y = .int j/\Q (.int (i-j)) H
theorem Qm:ZD X .Add Vv:=by
 rintro pins s σ H x y u v Q I rx ry ⟨i,j,rfl,rfl,q⟩;obtain⟨t,rfl⟩:=(show ∃t,u=Value.int i t from rx);obtain⟨t',rfl⟩:=(show ∃t',v=Value.int j t' from ry);exact ZY ⟨.int (i+j),H,I.tok _,⟨_,rfl⟩,q⟩
theorem UA {pl:Sem Bool}{m:Str}{apos:Pos}{args:List Expr}{pins:List (Addr×Obj)}{s:Shared}{σ:St}{H:Hp}{Q:Value->Shared->Prop}{te:TE}(he:PE X e te) (I:Inv X pins σ H s)
  (h:te σ H λx H1=>∃a C dx fs g,x = .ref a/\H1 a=some (.ins C dx fs)/\sV X.K C/\Meth X.K C m g/\fs.lookup m=none /\
   ∀s1,Inv X pins σ H1 s1->wpAny (model X.prog X.w) X.A (callWith pos (.ref g) [.ref a] (backTo pos (starEach args X.env)) (backToKw pos (keywordEach [] X.env))) Q X.xe s1)
  (ht:eval (.Call (.Attribute e m apos) args [] pos) X.env=(do
   let ov <-eval e X.env
   standAt apos.atName
   let (f,first) <-holding [ov] (getMethod ov m pl)
   callWith pos f first (backTo pos (starEach args X.env)) (backToKw pos (keywordEach [] X.env)))) :
  wpAny (model X.prog X.w) X.A (eval (.Call (.Attribute e m apos) args [] pos) X.env) Q X.xe s:=by
 refine sY (pl:=pl) (fu (he pins s σ H _ I h) λu s1 ⟨x,H1,I1,rx,a,C,dx,fs,g,ex,ea,c,k,l,q⟩=>?_) ht;subst ex;obtain rfl:u=Value.ref a:=rx;exact wH I1 ea c k l (q s1 I1)
end
end L2
namespace L2
open PySem PySem.Spec PyProof.Rows
structure jY (k:Nat) (A:Around):Prop where
 hd:A.handled=none
 dp:A.depth+3 * k+5<recursionLimit
 un:A.units+16 * k+200<cLine
theorem jY.mono {j k:Nat}{A:Around}(r:jY k A) (h:j<=k):jY j A:=⟨r.hd,by have:=r.dp;omega,by have:=r.un;omega⟩
theorem jY.deeper {k:Nat}{A:Around}(r:jY (k+1) A) (env:Env):jY k (A.deeper env) :=
 ⟨r.hd,by have:=r.dp;show A.depth+1+3 * k+5<_;omega,by have:=r.un;show A.units+3+16 * k+200<_;omega⟩
theorem JU {A:Around}{C:Addr}{us:List Value}{kw:List (Str×Value)}:(A.under (.builtin "type.__call__" ⟨.ref C::us,kw⟩)).depth=A.depth+1:=by
 first|rfl|simp[Around.under,Code.weight,Code.isCreation,Code.isGuard,Code.isCaller,Code.frames,Code.isFrame,guardIds]
theorem JT {A:Around}{C:Addr}{us:List Value}{kw:List (Str×Value)}:(A.under (.builtin "type.__call__" ⟨.ref C::us,kw⟩)).units=A.units+1:=by
 first|rfl|simp[Around.under,Code.cUnits,Code.frames,Code.isFrame]
theorem jY.make {k:Nat}{A:Around}(r:jY (k+1) A) (C:Addr) (us:List Value) (kw:List (Str×Value)):jY k (A.under (.builtin "type.__call__" ⟨.ref C::us,kw⟩)) :=
 ⟨r.hd,by have:=r.dp;rw[JU];omega,by have:=r.un;rw[JT];omega⟩
theorem jY.depth {k:Nat}{A:Around}(r:jY k A):A.depth<recursionLimit:=by have:=r.dp;omega
theorem jY.units {k:Nat}{A:Around}(r:jY k A):A.units+64<cLine:=by have:=r.un;omega
def CH:TA:=λ_ H Q=>Q [] H
def zC (ta:TE) (tr:TA):TA:=λσ H Q=>ta σ H λx H1=>tr σ H1 λxs H2=>Q (x::xs) H2
section
variable {X:Cx}{e:Expr}{es:List Expr}{te:TE}{t:TA}{pos:Pos}
theorem aC:PA X [] CH:=λ_ _ _ _ H Q I h=>Calls.spliced_nil ⟨[],H,I,.nil,h⟩
theorem ag (ha:PE X e te) (hr:PA X es t) (hs:starEach (e::es) X.env=(false,eval e X.env)::starEach es X.env:=by rfl):PA X (e::es) (zC te t):=by
 intro pos pins s σ H Q I h;rw[hs];show wpAny _ _ (spliced ((false,eval e X.env)::backTo pos (starEach es X.env))) _ _ s;refine Calls.spliced_cons (fu (ha pins s σ H _ I h) λu s1 ⟨x,H1,I1,r1,q1⟩=>?_);exact fu (hr pos pins s1 σ H1 _ I1 q1) λus s2 ⟨xs,H2,I2,r2,q2⟩=>⟨x::xs,H2,I2,.cons r1 r2,q2⟩
def U8 (t:TA):TE:=λσ H Q=>t σ H λxs H1=>xs.length<=sizeLine/\∀p,H1 p=none->Q (.ref p) (upd H1 p (.tup xs))
def Vc (t:TA):TE:=λσ H Q=>t σ H λxs H1=>xs.length<=sizeLine/\∀p,H1 p=none->Q (.ref p) (upd H1 p (.lst xs))
theorem yM {x1} (h:PA X es t):PE X (.Tuple es x1 pos) (U8 t):=by
 intro pins s σ H Q I hq;refine wpAny_Tuple_spliced (fu (h pos pins s σ H _ I hq) λus s1 ⟨xs,H1,I1,r,z,q⟩=>⟨by rw[<-r.length];exact z,?_⟩);have hf:H1 s1.heap.objs.size=none:=I1.df.fresh (aQ _);refine⟨.ref s1.heap.objs.size,upd H1 s1.heap.objs.size (.tup xs),I1.laid (t':=s1.toks) (λb u e=>Heap.get?_push_of_some _ e) (aQ _) ?_,rfl,q _ hf⟩;exact⟨z,us,r,⟨_,Heap.get?_push_size _ rfl,rfl,_,rfl⟩⟩
theorem c9 (h:PA X es t):PE X (.List es pos) (Vc t):=by
 intro pins s σ H Q I hq;refine wpAny_List_spliced (fu (h pos pins s σ H _ I hq) λus s1 ⟨xs,H1,I1,r,z,q⟩=>⟨by rw[<-r.length];exact z,?_⟩);have hf:H1 s1.heap.objs.size=none:=I1.df.fresh (aQ _);refine⟨.ref s1.heap.objs.size,upd H1 s1.heap.objs.size (.lst xs),I1.laid (t':=s1.toks) (λb u e=>Heap.get?_push_of_some _ e) (aQ _) ?_,rfl,q _ hf⟩;exact⟨z,us,0,r,Heap.get?_push_size _ rfl⟩
end
abbrev Sp:=List V->Hp->VK->XK->Prop
abbrev NQ:=List Env->Hp->Shared->XK->Value->Shared->Prop
structure F1 (P:Program) (w:World) (K:aa) (mg:Str->Option Value) (base:Heap) (A:Around) (outer:List Env) (s:Shared) (H:Hp):Prop where
 frames:A.frames=some outer
 mod:Mod K mg base
 bs:∀b o,base.get? b=some o->s.heap.get? b=some o/\H b=none
 Rf:base.objs.size<=s.heap.objs.size
 yZ:s.heap.FunFrames base outer
 TF:∀b∈QW outer,H b=none
 df:tF P w H s.heap
 bare:AllBare s.gens
def CE (outer:List Env) (P:Program) (w:World) (H:Hp) (s:Shared) (Q:VK) (u:Value) (s':Shared):Prop :=
 ∃v H',s'.os=s.os/\AllBare s'.gens/\Un (QW outer) [] H H' s.heap s'.heap/\tF P w H' s'.heap/\RelV v u/\Q v H'
def CR (CX:NQ) (outer:List Env) (P:Program) (w:World) (H:Hp) (s:Shared) (Q:VK) (E:XK) (r:Result) (s':Shared):Prop :=
 match r with
 | .ok (.ret u)=>CE outer P w H s Q u s'
 | .ok _=>False
 | .error e=>CX outer H s E e s'
structure pR (P:Program) (w:World) (K:aa) (mg:Str->Option Value) (base:Heap) (CX:NQ) (k:Nat) (f:Addr) (fd:FuncData) (ps:List Str) (sp:Sp):Prop where
 len:∀vs H Q E,sp vs H Q E->vs.length=ps.length
 run:∀(A:Around) (outer:List Env) (s:Shared) (H:Hp) (args:Args) (us:List Value) (vs:List V) (Q:VK) (E:XK),jY k A->F1 P w K mg base A outer s H->BindsTo s fd args (ps.zip us)->Vals vs us->sp vs H Q E ->
  codeAny (model P w) A (.call (.ref f) args) (CR CX outer P w H s Q E) s
theorem F1.make {P:Program}{w:World}{K:aa}{mg:Str->Option Value}{base:Heap}{A:Around}{outer:List Env}{s:Shared}{H:Hp}(e:F1 P w K mg base A outer s H) (C:Addr) (us:List Value) (kw:List (Str×Value)) :
  F1 P w K mg base (A.under (.builtin "type.__call__" ⟨.ref C::us,kw⟩)) outer s H:=⟨by first|exact e.frames|(simpa[Around.under,Code.envs,Code.isFrame,pushEnvs]using e.frames),e.mod,e.bs,e.Rf,e.yZ,e.TF,e.df,e.bare⟩
section
variable {X:Cx}{pins:List (Addr×Obj)}{σ:St}{H:Hp}{s s':Shared}
theorem Inv.Zn (I:Inv X pins σ H s):F1 X.prog X.w X.K X.mg X.base X.A X.stack s H :=
 ⟨I.ok.frames,I.ok.mod,I.bs,bw I.ok.Rf I.sz,I.stack,I.K6,I.df,I.bare⟩
theorem Inv.after {Q:VK}{u:Value}(I:Inv X pins σ H s) (h:CE X.stack X.prog X.w H s Q u s'):EP X pins σ Q u s':=by
 obtain⟨v,H',os,bare,un,df,r,q⟩:=h;obtain⟨hh,g,d,t,os'⟩:=s';obtain rfl:os'=s.os:=os;exact⟨v,H',I.call (h':=hh) (g':=g) (d':=d) (t':=t) (ch:=[]) un df bare (λb z=>absurd z (by simp)),r,q⟩
end
def OQ (sp:Sp) (B3:List V) (E:XK) (t:TA):TE:=λσ H Q=>t σ H λvs H1=>sp (vs++B3) H1 Q E
def K3 (C:Addr) (m:Str) (sp:Sp) (B3:List V) (E:XK) (ta:TE) (t:TA):TE:=λσ H Q=>ta σ H λx H1=>∃a dx fs,x = .ref a/\H1 a=some (.ins C dx fs)/\fs.lookup m=none /\
 t σ H1 λvs H2=>sp (x::(vs++B3)) H2 Q E
def K4 (C:Addr) (sp:Sp) (B3:List V) (E:XK) (t:TA):TE:=λσ H Q=>t σ H λvs H1=>∀x dx,H1 x=none->H1 dx=none->dx≠x ->
 sp (.ref x::(vs++B3)) (upd (upd H1 dx (.own x)) x (.ins C dx [])) (λv H2=>v = .gi/\Q (.ref x) H2) E
def Binds (K:aa) (fd:FuncData) (ps:List Str) (ds:List Value):Prop :=
 ∀(s:Shared) (us:List Value),K.In s.heap->(us++ds).length=ps.length->BindsTo s fd ⟨us,[]⟩ (ps.zip (us++ds))
theorem Binds.all {K:aa}{fd:FuncData}{ps:List Str}(h:∀us:List Value,us.length=ps.length->bindArgs fd ⟨us,[]⟩=pure (ps.zip us)):Binds K fd ps []:=λs us _ hl=>by
 rw[eL]at hl⊢;exact .of_eq (h us hl)
def Passes (CX:NQ) (X:Cx) (E:XK):Prop:=∀(pins:List (Addr×Obj)) (σ:St) (H:Hp) (s:Shared) (e:Value) (s':Shared),Inv X pins σ H s->CX X.stack H s E e s'->X.xe e s'
section
variable {X:Cx}{CX:NQ}{k:Nat}{f C:Addr}{fd:FuncData}{ps:List Str}{sp:Sp}{B3:List V}{ds:List Value}{E:XK}{x m:Str}{p pos apos:Pos}{e o:Expr}{es:List Expr}{ta:TE}{t:TA}
theorem Jz {pins:List (Addr×Obj)}{σ:St}{H:Hp}{s:Shared}{Q:VK}{us:List Value}{vs:List V}(F:pR X.prog X.w X.K X.mg X.base CX k f fd ps sp) (hr:jY k X.A) (hb:Binds X.K fd ps ds) (hd:Vals B3 ds) (hx:Passes CX X E)
  (I:Inv X pins σ H s) (r:Vals vs us) (h:sp (vs++B3) H Q E):wpAny (model X.prog X.w) X.A (call (.ref f) us) (EP X pins σ Q) X.xe s:=by
 have r2:Vals (vs++B3) (us++ds):=r.append hd;have hl:(us++ds).length=ps.length:=by rw[<-r2.length];exact F.len _ _ _ _ h
 refine wpAny_call (codeAny_mono (F.run X.A X.stack s H ⟨us,[]⟩ (us++ds) (vs++B3) Q E hr I.Zn (hb s us I.J4 hl) r2 h) λr s' hq=>?_);cases r with
 | error e=>exact hx pins σ H s e s' I hq
 | ok fl =>
  cases fl with
  | ret u=>exact I.after hq
  | next=>exact dB hq
  | brk=>exact dB hq
  | cont=>exact dB hq
theorem SU (F:pR X.prog X.w X.K X.mg X.base CX k f fd ps sp) (hr:jY k X.A) (hg:Gl X x) (hm:X.mg x=some (.ref f)) (hk:cp X.K (.ref f)=true) (hb:Binds X.K fd ps ds) (hd:Vals B3 ds) (hx:Passes CX X E)
  (ha:PA X (e::es) t) (Kf:(x==("__debug__" : Str))=false:=by decide) (he:starEach (e::es) X.env=(false,eval e X.env)::starEach es X.env:=by rfl) (AJ:(backTo pos (starEach es X.env)).any (·.1)=false:=by rfl) :
  PE X (.Call (.Name x p) (e::es) [] pos) (OQ sp B3 E t):=by
 intro pins s σ H Q I h;refine wpAny_Call_Name_kw (AH I hg hm ?_ Kf);refine v9 (h₀:=X.base) I.ok.mod.YC hk (fu (ha pos pins s σ H _ I h) λus s1 ⟨vs,H1,I1,r,q⟩=>⟨I1.J4,?_⟩) he AJ;exact Jz F hr hb hd hx I1 r q
theorem SN {pl:Sem Bool}(he:PE X o ta) (c:sV X.K C) (hm:Meth X.K C m f) (F:pR X.prog X.w X.K X.mg X.base CX k f fd ps sp) (hr:jY k X.A) (hb:Binds X.K fd ps ds) (hd:Vals B3 ds) (hx:Passes CX X E) (ha:PA X (e::es) t)
  (xH:starEach (e::es) X.env=(false,eval e X.env)::starEach es X.env:=by rfl) (AJ:(backTo pos (starEach es X.env)).any (·.1)=false:=by rfl)
  (ht:eval (.Call (.Attribute o m apos) (e::es) [] pos) X.env=(do
   let ov <-eval o X.env
   standAt apos.atName
   let (f,first) <-holding [ov] (getMethod ov m pl)
   callWith pos f first (backTo pos (starEach (e::es) X.env)) (backToKw pos (keywordEach [] X.env))):=by rfl) :
  PE X (.Call (.Attribute o m apos) (e::es) [] pos) (K3 C m sp B3 E ta t):=by
 intro pins s σ H Q I h;refine sY (pl:=pl) (fu (he pins s σ H _ I h) λu s1 ⟨x,H1,I1,rx,a,dx,fs,ex,ea,l,q⟩=>?_) ht;subst ex;obtain rfl:u=Value.ref a:=rx;refine wH I1 ea c hm l ?_;refine v9 (first:=[.ref a]) (h₀:=X.base) I.ok.mod.YC hm.kp (fu (ha pos pins s1 σ H1 _ I1 q) λus s2 ⟨vs,H2,I2,r,q2⟩=>⟨I2.J4,?_⟩) xH AJ;exact Jz (us:=.ref a::us) (vs:=.ref a::vs) F hr hb hd hx I2 (.cons rfl r) q2
theorem Pk {pl:Sem Bool}(he:PE X o ta) (c:sV X.K C) (hm:Meth X.K C m f) (F:pR X.prog X.w X.K X.mg X.base CX k f fd ps sp) (hr:jY k X.A) (hb:Binds X.K fd ps ds) (hd:Vals B3 ds) (hx:Passes CX X E)
  (ht:eval (.Call (.Attribute o m apos) [] [] pos) X.env=(do
   let ov <-eval o X.env
   standAt apos.atName
   let (f,first) <-holding [ov] (getMethod ov m pl)
   callWith pos f first (backTo pos (starEach [] X.env)) (backToKw pos (keywordEach [] X.env))):=by rfl) :
  PE X (.Call (.Attribute o m apos) [] [] pos) (K3 C m sp B3 E ta CH):=by
 intro pins s σ H Q I h;refine sY (pl:=pl) (fu (he pins s σ H _ I h) λu s1 ⟨x,H1,I1,rx,a,dx,fs,ex,ea,l,q⟩=>?_) ht;subst ex;obtain rfl:u=Value.ref a:=rx;refine wH I1 ea c hm l ?_;exact Il (first:=[.ref a]) I1.J4 hm.kp (Jz (us:=[.ref a]) (vs:=[.ref a]) F hr hb hd hx I1 (.cons rfl .nil) q)
structure Mk (K:aa) (C f:Addr):Prop where
 makes:dj K C=true
 init:aq K (.ref C) "__init__" = some (some (.ref f))
 fn:a9 K (.ref f)=true
 kp:cp K (.ref C)=true
theorem GX {pins:List (Addr×Obj)}{σ:St}{H:Hp}{s:Shared}{Q:VK}{us:List Value}{vs:List V}(M:Mk X.K C f) (F:pR X.prog X.w X.K X.mg X.base CX k f fd ps sp) (hr:jY (k+1) X.A) (hb:Binds X.K fd ps ds) (hd:Vals B3 ds)
  (hx:Passes CX X E) (I:Inv X pins σ H s) (r:Vals vs us)
  (h:∀x dx,H x=none->H dx=none->dx≠x->sp (.ref x::(vs++B3)) (upd (upd H dx (.own x)) x (.ins C dx [])) (λv H2=>v = .gi/\Q (.ref x) H2) E) :
  wpAny (model X.prog X.w) X.A (call (.ref C) us) (EP X pins σ Q) X.xe s:=by
 have hq:=h (s.heap.objs.size+1) s.heap.objs.size (I.df.fresh (Nat.le_succ _)) (I.df.fresh (aQ _)) (cI (AU _));have I2:=Inv.made (C:=C) I;have r2:Vals (V.ref (s.heap.objs.size+1)::(vs++B3)) (Value.ref (s.heap.objs.size+1)::(us++ds)):=.cons rfl (r.append hd);have hl:(Value.ref (s.heap.objs.size+1)::us++ds).length=ps.length:=by
  have e:=r2.length;rw[F.len _ _ _ _ hq]at e;exact e.symm
 refine wpAny_call (PQ (f:=f) I.J4 M.makes M.init (beq_iff_eq.mp M.fn) (codeAny_mono (F.run _ X.stack _ _ ⟨Value.ref (s.heap.objs.size+1)::us,[]⟩ (Value.ref (s.heap.objs.size+1)::(us++ds)) _ _ E (hr.make C us [])
  (I2.Zn.make C us []) (hb _ (Value.ref (s.heap.objs.size+1)::us) I2.J4 hl) r2 hq) λr s' Lw=>?_))
 cases r with
 | error e=>exact hx pins σ _ _ e s' I2 Lw
 | ok fl =>
  cases fl with
  | ret u =>
   obtain⟨v,H',I3,rv,ev,q3⟩:=I2.after Lw;subst ev;exact⟨rv,⟨V.ref (s.heap.objs.size+1),H',I3,rfl,q3⟩⟩
  | next=>exact dB Lw
  | brk=>exact dB Lw
  | cont=>exact dB Lw
theorem SO (M:Mk X.K C f) (F:pR X.prog X.w X.K X.mg X.base CX k f fd ps sp) (hr:jY (k+1) X.A) (hg:Gl X x) (hm:X.mg x=some (.ref C)) (hb:Binds X.K fd ps ds) (hd:Vals B3 ds) (hx:Passes CX X E)
  (ha:PA X (e::es) t) (Kf:(x==("__debug__" : Str))=false:=by decide) (he:starEach (e::es) X.env=(false,eval e X.env)::starEach es X.env:=by rfl) (AJ:(backTo pos (starEach es X.env)).any (·.1)=false:=by rfl) :
  PE X (.Call (.Name x p) (e::es) [] pos) (K4 C sp B3 E t):=by
 intro pins s σ H Q I h;refine wpAny_Call_Name_kw (AH I hg hm ?_ Kf);refine v9 (h₀:=X.base) I.ok.mod.YC M.kp (fu (ha pos pins s σ H _ I h) λus s1 ⟨vs,H1,I1,r,q⟩=>⟨I1.J4,?_⟩) he AJ;exact GX M F hr hb hd hx I1 r q
theorem Pl (M:Mk X.K C f) (F:pR X.prog X.w X.K X.mg X.base CX k f fd ps sp) (hr:jY (k+1) X.A) (hg:Gl X x) (hm:X.mg x=some (.ref C)) (hb:Binds X.K fd ps ds) (hd:Vals B3 ds) (hx:Passes CX X E)
  (Kf:(x==("__debug__" : Str))=false:=by decide):PE X (.Call (.Name x p) [] [] pos) (K4 C sp B3 E CH):=by
 intro pins s σ H Q I h;refine wpAny_Call_Name_kw (AH I hg hm ?_ Kf);exact Il I.J4 M.kp (GX (us:=[]) M F hr hb hd hx I .nil h)
end
structure bu (N P:List Str) (sc:Scope):Prop where
 kind:sc.kind = .function
 co:sc.isCoroutine=false
 gen:sc.isGenerator=false
 nd:N.Nodup
 pre:N.take P.length=P
 par:∀x∈P,sc.names.lookup x=some .local\/sc.names.lookup x=some .cell
 VI:∀y∈sc.names,y.2 ≠ .free
theorem DY {kindOf:Str->Option NameKind}{x:Str}:∀{binds:List (Str×Value)}{m:Str->Option Value},(∀v,(x,v)∉binds)->bindL kindOf binds m x=m x
 | [],_,_=>rfl
 | (n,v)::r,m,h=>by
  unfold bindL;rw[DY λw hw=>h w (ai _ hw)]
  split
  ·have:x≠n:=by rintro rfl;exact h v au
   simp[this]
  ·rfl
theorem D0 {kindOf:Str->Option NameKind}{x:Str}:∀{binds:List (Str×Value)}{m:Str->Option Value},(∀v,(x,v)∉binds)->bindC kindOf binds m x=m x
 | [],_,_=>rfl
 | (n,v)::r,m,h=>by
  unfold bindC;rw[D0 λw hw=>h w (ai _ hw)]
  split
  ·rfl
  ·have:x≠n:=by rintro rfl;exact h v au
   simp[this]
theorem DZ {kindOf:Str->Option NameKind}{x:Str}{v:Value}:∀{P:List Str}{vs:List Value}{i:Nat}{m:Str->Option Value},P.Nodup->P[i]?=some x->vs[i]?=some v->kindOf x=some .local ->
  bindL kindOf (P.zip vs) m x=some v
 | [],_,_,_,_,h,_,_=>by simp at h
 | _::_,[],_,_,_,_,h,_=>by simp at h
 | p::P,w::vs,0,m,nd,h1,h2,hk=>by
  simp at h1 h2;subst h1;subst h2;show bindL kindOf ((p,w)::P.zip vs) m p=_;unfold bindL;rw[DY λv hv=>(gX.mp nd).1 (tK hv).1,if_pos hk];simp
 | p::P,w::vs,i+1,m,nd,h1,h2,hk=>by
  show bindL kindOf ((p,w)::P.zip vs) m x=_;unfold bindL;exact DZ (i:=i) (gX.mp nd).2 (by simpa using h1) (by simpa using h2) hk
theorem D1 {kindOf:Str->Option NameKind}{x:Str}{v:Value}:∀{P:List Str}{vs:List Value}{i:Nat}{m:Str->Option Value},P.Nodup->P[i]?=some x->vs[i]?=some v->kindOf x≠some .local ->
  bindC kindOf (P.zip vs) m x=some v
 | [],_,_,_,_,h,_,_=>by simp at h
 | _::_,[],_,_,_,_,h,_=>by simp at h
 | p::P,w::vs,0,m,nd,h1,h2,hk=>by
  simp at h1 h2;subst h1;subst h2;show bindC kindOf ((p,w)::P.zip vs) m p=_;unfold bindC;rw[D0 λv hv=>(gX.mp nd).1 (tK hv).1,if_neg hk];simp
 | p::P,w::vs,i+1,m,nd,h1,h2,hk=>by
  show bindC kindOf ((p,w)::P.zip vs) m x=_;unfold bindC;exact D1 (i:=i) (gX.mp nd).2 (by simpa using h1) (by simpa using h2) hk
def start (N:List Str) (vs:List V):St:=vs.map some++bx (N.length-vs.length) none
def Ko (CX:NQ) (P:Program) (w:World) (K:aa) (mg:Str->Option Value) (base:Heap) (N:List Str) (qual:Str) (scope:Scope) (f:Addr) (cd:Value) (A:Around) (outer:List Env) (s:Shared) (H:Hp) (E:XK):Cx where
 prog:=P
 w:=w
 K:=K
 mg:=mg
 base:=base
 A:=A.deeper (envOfC qual scope s.heap.objs.size f cd)
 N:=N
 Dr:=s
 W4:=H
 env:=envOfC qual scope s.heap.objs.size f cd
 outer:=outer
 stack:=envOfC qual scope s.heap.objs.size f cd::outer
 ex:=[]
 calm:=true
 fn:=λ_=>true
 pn:=[]
 xe:=λe s'=>wpAny (model P w) (A.deeper (envOfC qual scope s.heap.objs.size f cd)) (leaving (envOfC qual scope s.heap.objs.size f cd) e) (λ_ s''=>CX outer H s E e s'') (λe' s''=>CX outer H s E e' s'') s'
theorem HF {sc:Scope}{n:Nat}{x:Str}(h:sc.names.lookup x=some .cell):∃c,(cellsFrom n sc.names []).lookup x=some c:=by
 have q:=Ea sc.names n [] (.inl h);exact fG.mp q
theorem Nc {CX:NQ}{P:Program}{w:World}{K:aa}{mg:Str->Option Value}{base:Heap}{N ps:List Str}{qual:Str}{scope:Scope}{f:Addr}{cd:Value}{A:Around}{outer:List Env}{s s1:Shared}{H:Hp}{E:XK}{us:List Value}{vs:List V}
  (S:bu N ps scope) (hd:A.handled=none) (e0:F1 P w K mg base A outer s H) (hl:vs.length=ps.length) (r:Vals vs us)
  (x:InCallC s s.heap.objs.size (bindL (envOfC qual scope s.heap.objs.size f cd).kindOf (ps.zip us) λ_=>none) (cellsFrom (s.heap.objs.size+1) scope.names []) (bindC (envOfC qual scope s.heap.objs.size f cd).kindOf (ps.zip us) λ_=>none) s1) :
  Inv (Ko CX P w K mg base N qual scope f cd A outer s H E) [] (start N vs) H s1:=by
 have AJ:ps.length<=N.length:=by have:=congrArg jT S.pre;rw[cw]at this;omega
 obtain⟨h1,tk,rfl,hk⟩:=x.done;have Uw:∀b:Addr,b∉(Ko CX P w K mg base N qual scope f cd A outer s H E).ex:=λb z=>absurd (show b∈([]:List Addr) from z) (by simp)
 refine⟨⟨e0.mod,S.kind,rfl,rfl,aQ _,λy z c h1 h2=>?_,λy hy=>?_,λy c _ h=>?_,λ_=>hd,Around.frames_deeper e0.frames,.inr ⟨rfl,rfl⟩,λb z=>absurd z (Uw b),e0.bs,e0.Rf,λb _ _=>Uw b,λb z=>absurd z (Uw b),e0.yZ,e0.TF⟩,
  rfl,e0.bare,Un.kept hk,⟨_,x.toInCall.ns,λi y v h1 h2 h3=>?_⟩,λy c h=>⟨_,x.cell y c h⟩,e0.df.fresh (aQ _),λy c h=>?_,λp hp=>absurd (show p∈([]:List (Addr×Obj)) from hp) (by simp),e0.df.kept hk,?_⟩
 ·exact name_of_addr x.apart (bV h1) (bV h2)
 ·have hy:scope.names.lookup y=some .cell\/scope.names.lookup y=some .free:=hy;rcases hy with hy|hy
  ·exact HF hy
  ·exact absurd rfl (S.VI _ (bV hy))
 ·exact tH (x.above y c (bV h))
 ·have hi:i<vs.length:=by
   unfold start at h2;by_cases hi:i<vs.length
   ·exact hi
   ·rw[aM (by simpa using hi)]at h2;rw[List.getElem?_replicate]at h2
    split at h2<;>cases h2
  have ha:vs[i]?=some v:=by
   unfold start at h2;rw[aO (by simpa using hi),aR]at h2;cases e:vs[i]? with
   | none=>rw[e]at h2;cases h2
   | some a=>rw[e]at h2;cases h2;rfl
  obtain⟨u,hu,rv⟩:=r.get ha;have hp:ps[i]?=some y:=by
   rw[<-S.pre,List.getElem?_take_of_lt (by omega)];exact h1
  have ndP:ps.Nodup:=by rw[<-S.pre];exact S.nd.sublist (List.take_sublist _ _)
  refine⟨u,rv,?_⟩;rcases S.par y (aI hp)with k|k
  ·exact .inl ⟨k,DZ ndP hp hu k⟩
  ·obtain⟨c,e⟩:=HF (n:=s.heap.objs.size+1) k;refine .inr ⟨.inl k,c,e,?_⟩;have q:=x.cell y c e;rw[D1 ndP hp hu (by show scope.names.lookup y≠_;rw[k];decide)]at q;exact q
 ·exact e0.df.fresh (tH (x.above y c (bV h)))
 ·unfold start;show _=N.length;rw[aJ,ax,IC];omega
theorem Zh {CX:NQ}{P:Program}{w:World}{K:aa}{mg:Str->Option Value}{base:Heap}{k:Nat}{f:Addr}{name qual:Str}{params:Arguments}{body:List Stmt}{scope:Scope}{dV kV doc pm gw ct oc:Value}{an od:Option Addr}
  {MS:Array (Option Value)}{N ps:List Str}{sp:Sp}(lk:K.lookup f=some ⟨oc,od,.func (jy name qual params body scope dV kV doc pm an gw ct),MS⟩) (RJ:oV K gw qual=true) (S:bu N ps scope)
  (len:∀vs H Q E,sp vs H Q E->vs.length=ps.length)
  (QG:∀(A:Around) (outer:List Env) (s:Shared) (H:Hp) (vs:List V) (Q:VK) (E:XK),jY k (A.deeper (envOfC qual scope s.heap.objs.size f gw))->sp vs H Q E ->
   ∃t,NO (Ko CX P w K mg base N qual scope f gw A outer s H E) body t/\t { nx:=λ_ H'=>Q .gi H',rt:=Q } (start N vs) H) :
  pR P w K mg base CX (k+1) f (jy name qual params body scope dV kV doc pm an gw ct) ps sp:=by
 refine⟨len,λA outer s H args us vs Q E hr e0 hb r F9=>?_⟩;have hl:=len _ _ _ _ F9;have KX:K.In s.heap:=e0.mod.YC.keeps λb o e=>(e0.bs b o e).1
 have lim:s.heap.NoLimit:=e0.mod.nolimit.keeps λb o e=>(e0.bs b o e).1
 have YY:∀y∈ps.zip us,scope.names.lookup y.1=some .local\/(scope.names.lookup y.1=some .cell/\((cellsFrom (s.heap.objs.size+1) scope.names []).lookup y.1).isSome=true):=λ⟨n,v⟩ hy=>by
  rcases S.par n (tK hy).1 with q|q
  ·exact .inl q
  ·exact .inr ⟨q,Ea _ _ _ (.inl q)⟩
 refine codeAny_call_function hr.depth (KX _ _ lk) rfl S.co S.gen rfl (PySem.W.codeRec_of KX RJ) (hb _ _ _ _ ?_);refine wpAny_newFunctionEnv_cells S.kind YY λenv he s1 x=>?_
 subst he;refine⟨lim.keeps x.toInCall.keep,codeAny_func ?_⟩;obtain⟨t,ht,hq⟩:=QG A outer s H vs Q E (hr.deeper _) F9;have I:Inv (Ko CX P w K mg base N qual scope f gw A outer s H E) [] (start N vs) H s1:=Nc S hr.hd e0 hl r x;refine wpAny_mono (ht [] s1 (start N vs) H _ I hq) (λfl s' hs=>?_) λe s' hs=>hs
 have fin:∀{fK:St}{H':Hp}{v:V}{u:Value},Inv (Ko CX P w K mg base N qual scope f gw A outer s H E) [] fK H' s'->RelV v u->Q v H'->CE outer P w H s Q u s' :=
  λ{fK H' v u} J rv q=>⟨v,H',J.os,J.bare,J.base,J.df,rv,q⟩
 cases fl with
 | ret u =>
  obtain⟨v,fK,H',J,rv,q⟩:=hs;exact fin J rv q
 | next =>
  obtain⟨fK,H',J,q⟩:=hs;exact fin (v:=V.gi) (u:=Value.none) J rfl q
 | brk =>
  obtain⟨_,_,_,q⟩:=hs;exact dB q
 | cont =>
  obtain⟨_,_,_,q⟩:=hs;exact dB q
end L2
namespace L2
open PySem PySem.Spec PyProof.Rows
section
variable {X:Cx}{x:Str}{p pos:Pos}{e:Expr}{es:List Expr}{t:TA}{id T:String}{r:List V->Hp->VK->Prop}
def tCB (r:List V->Hp->VK->Prop) (t:TA):TE:=λσ H Q=>t σ H λvs H1=>r vs H1 Q
theorem bT (hc:sW X (.builtin id) r) (hg:Gl X x) (hm:X.mg x=none) (hv:bootBuiltins x=some (.builtin id)) (ha:PA X (e::es) t) (hn:x ≠ "__name__":=by decide) (Kf:(x==("__debug__" : Str))=false:=by decide)
  (he:starEach (e::es) X.env=(false,eval e X.env)::starEach es X.env:=by rfl) (AJ:(backTo pos (starEach es X.env)).any (·.1)=false:=by rfl):PE X (.Call (.Name x p) (e::es) [] pos) (tCB r t):=by
 intro pins s σ H Q I h;refine wpAny_Call_Name_kw (uf I hg hm hv ?_ hn Kf);exact ZZ (fu (ha pos pins s σ H _ I h) λus s1 ⟨vs,H1,I1,r1,q1⟩=>hc pins s1 σ H1 vs us Q I1 r1 q1) he AJ
theorem Dx (hc:sW X (.type T) r) (hg:Gl X x) (hm:X.mg x=none) (hv:bootBuiltins x=some (.type T)) (ha:PA X (e::es) t) (hn:x ≠ "__name__":=by decide) (Kf:(x==("__debug__" : Str))=false:=by decide)
  (he:starEach (e::es) X.env=(false,eval e X.env)::starEach es X.env:=by rfl) (AJ:(backTo pos (starEach es X.env)).any (·.1)=false:=by rfl):PE X (.Call (.Name x p) (e::es) [] pos) (tCB r t):=by
 intro pins s σ H Q I h;refine wpAny_Call_Name_kw (uf I hg hm hv ?_ hn Kf);exact eC (fu (ha pos pins s σ H _ I h) λus s1 ⟨vs,H1,I1,r1,q1⟩=>hc pins s1 σ H1 vs us Q I1 r1 q1) he AJ
end
end L2
namespace HT
open PySem PyProof.Rows
section
variable {prog:Program}{w:World}{A:Around}{E:Value->Shared->Prop}{s:Shared}
def EM (n d:Nat):Option Int->Nat
 | none=>d
 | some v=>if v<0 then(v+(n:Int)).toNat else min v.toNat n
end
end HT
namespace L2
open PySem PySem.Spec PyProof.Rows
abbrev TO:=St->Hp->(Option Int->Hp->Prop)->Prop
def PO (X:Cx) (e:Option Expr) (t:TO):Prop :=
 ∀(pins:List (Addr×Obj)) (s:Shared) (σ:St) (H:Hp) (Q:Option Int->Hp->Prop),Inv X pins σ H s->t σ H Q ->
  wpAny (model X.prog X.w) X.A (evalPart e X.env) (λu s'=>∃o H',Inv X pins σ H' s'/\IsPart u o/\Q o H') X.xe s
def OK (t:TE):TO:=λσ H Q=>t σ H λx H1=>∃i,x = .int i/\Q (some i) H1
section
variable {X:Cx}{e:Expr}{te:TE}{lo hi:Option Expr}{tl th:TO}{pos p2:Pos}
theorem Le (h:PE X e te):PO X (some e) (OK te):=by
 intro pins s σ H Q I hw;rw[evalPart_some];refine fu (h pins s σ H _ I hw) λu s1 ⟨x,H1,I1,r1,q1⟩=>?_
 obtain⟨i,rfl,q⟩:=q1;obtain⟨t,rfl⟩:=r1;exact⟨some i,H1,I1,.int i t,q⟩
def SlR (X:Cx) (r:V->Option Int->Option Int->Hp->VK->Prop):Prop :=
 ∀(pins:List (Addr×Obj)) (s:Shared) (σ:St) (H:Hp) (x:V) (v vl vu:Value) (lo hi:Option Int) (sl:Addr) (Q:VK),Inv X pins σ H s->RelV x v->s.heap.IsSliceOf sl vl vu .none->IsPart vl lo->IsPart vu hi->r x lo hi H Q ->
  ∃T id,typeLookup (.type T) "__getitem__" = pure (some (.builtin id))/\s.TypeIs v T/\wpAny (model X.prog X.w) X.A (getItem v (.ref sl)) (EP X pins σ Q) X.xe s
def tSl (r:V->Option Int->Option Int->Hp->VK->Prop) (te:TE) (tl th:TO):TE:=λσ H Q=>te σ H λx H1=>tl σ H1 λl H2=>th σ H2 λu H3=>r x l u H3 Q
theorem Ph {r:V->Option Int->Option Int->Hp->VK->Prop}(hr:SlR X r) (he:PE X e te) (hl:PO X lo tl) (hu:PO X hi th):PE X (.Subscript e (.Slice lo hi none p2) pos) (tSl r te tl th):=by
 intro pins s σ H Q I h;refine Subscript_ (fu (he pins s σ H _ I h) λv s1 ⟨x,H1,I1,r1,q1⟩=>?_);refine wpAny_Slice (fu (hl pins s1 σ H1 _ I1 q1) λvl s2 ⟨l,H2,I2,pl,q2⟩=>fu (hu pins s2 σ H2 _ I2 q2) λvu s3 ⟨u,H3,I3,pu,q3⟩=>?_);rw[evalPart_none];refine wpAny_pure ?_;have I4:Inv X pins σ H3 { s3 with heap:=s3.heap.push { cls:=.type "slice",data:=.fields #[vl,vu,.none] } }:=I3.kept (t':=s3.toks) λb ob q=>Heap.get?_push_of_some _ q
 obtain⟨T,id,hT,ht,hg⟩:=hr pins { s3 with heap:=s3.heap.push { cls:=.type "slice",data:=.fields #[vl,vu,.none] } } σ H3 x v vl vu l u s3.heap.objs.size Q I4 r1 (Heap.IsSliceOf.new ..) pl pu q3;show wpAny (model X.prog X.w) X.A (subscriptTail e (.Slice lo hi none p2) v (.ref s3.heap.objs.size)) (EP X pins σ Q) X.xe { s3 with heap:=s3.heap.push { cls:=.type "slice",data:=.fields #[vl,vu,.none] } };exact tail_any (ops:=[.ref s3.heap.objs.size,v]) ht hT hg (by with_unfolding_all rfl)
def Ny (xs:List V) (lo hi:Option Int):List V:=(xs.drop (HT.EM xs.length 0 lo)).take (HT.EM xs.length xs.length hi-HT.EM xs.length 0 lo)
theorem HE (xs:List V) (lo hi:Option Int):(Ny xs lo hi).length<=xs.length:=by
 unfold Ny;rw[cw,cD];omega
end
end L2
namespace L2
open PySem PySem.Spec PyProof.Rows
def N3 (n:Nat) (i:Int):Option Nat:=if 0<=i then(if i<n then some i.toNat else none) else if -(n:Int)<=i then some (i+n).toNat else none
def nB {α:Type}(xs:List α) (i:Int):Option α:=(N3 xs.length i).bind λj=>xs[j]?
theorem Ls {n:Nat}{i:Int}{j:Nat}(h:N3 n i=some j):seqIndex? i n=some j/\j<n /\ -(n:Int)<=i/\i<n:=by
 unfold N3 at h;by_cases h0:0<=i
 ·rw[if_pos h0]at h;by_cases h1:i<n
  ·rw[if_pos h1]at h;have e:i.toNat=j:=cH h;exact⟨by rw[seqIndex_of h0 h1,e],by omega,by omega,h1⟩
  ·rw[if_neg h1]at h;cases h
 ·rw[if_neg h0]at h;by_cases h1 : -(n:Int)<=i
  ·rw[if_pos h1]at h;have e:(i+n).toNat=j:=cH h;exact⟨by rw[seqIndex_neg (by omega) h1,e],by omega,h1,by omega⟩
  ·rw[if_neg h1]at h;cases h
theorem FU {α:Type}{xs:List α}{i:Int}{v:α}(h:nB xs i=some v):∃j,seqIndex? i xs.length=some j/\xs[j]?=some v/\j<xs.length /\ -(xs.length:Int)<=i/\i<xs.length:=by
 unfold nB at h;cases e:N3 xs.length i with
 | none=>rw[e]at h;cases h
 | some j =>
  rw[e]at h;obtain⟨h1,h2,h3,h4⟩:=Ls e;exact⟨j,h1,h,h2,h3,h4⟩
theorem de {α:Type}{xs:List α}{j:Nat}{v:α}(h:xs[j]?=some v):nB xs (j:Int)=some v:=by
 have hj:j<xs.length:=(aw.mp h).1;have e:N3 xs.length (j:Int)=some j:=by
  unfold N3;rw[if_pos (by omega),if_pos (by omega)];simp
 unfold nB;rw[e];exact h
theorem yi {α:Type}(xs:List α) (v:α):nB (xs++[v]) (-1)=some v:=by
 have hl:(xs++[v]).length=xs.length+1:=by simp
 have e:N3 (xs++[v]).length (-1)=some xs.length:=by
  unfold N3;rw[hl,if_neg (by decide),if_pos (by omega)]
  congr 1
  omega
 unfold nB;rw[e];show(xs++[v])[xs.length]?=some v;simp
def Uc (b:Expr):Prop:=∀o i,subscripted b false o i=operate [o,i] (getItem o i)
def XD (X:Cx) (r:R2):Prop :=
 ∀(value slice:Expr) (pins:List (Addr×Obj)) (s:Shared) (σ:St) (H:Hp) (x y:V) (v u:Value) (Q:VK),Inv X pins σ H s->RelV x v->RelV y u->r x y H Q ->
  subscripted slice false v u=operate [v,u] (getItem v u)->wpAny (model X.prog X.w) X.A (subscriptTail value slice v u) (EP X pins σ Q) X.xe s
def Od (X:Cx) (id:String) (r:V->List V->Hp->VK->Prop):Prop :=
 ∀(pins:List (Addr×Obj)) (s:Shared) (σ:St) (H:Hp) (x:V) (xs:List V) (v:Value) (us:List Value) (Q:VK),Inv X pins σ H s->RelV x v->Vals xs us->r x xs H Q ->
  wpAny (model X.prog X.w) X.A (call (.builtin id) (v::us)) (EP X pins σ Q) X.xe s
section
variable {X:Cx}{a b:Expr}{ta tb:TE}{pos:Pos}
theorem dw {r:R2}(hr:XD X r) (ha:PE X a ta) (hb:PE X b tb) (hs:Uc b):PE X (.Subscript a b pos) (Rz r ta tb):=by
 intro pins s σ H Q I h;exact Subscript_ (WS ha hb I h λv u s2 x y H2 I2 rx ry q=>hr a b pins s2 σ H2 x y v u Q I2 rx ry q (hs _ _))
def Yg (K:aa):R2:=λx y H Q=>∃p xs i v,x = .ref p/\y = .int i/\dO K H p xs/\nB xs i=some v/\Q v H
def aae (K:aa):R2:=λx y H Q=>∃p xs i v,x = .ref p/\y = .int i/\lR K H p xs/\nB xs i=some v/\Q v H
def Vu:R2:=λx y H Q=>∃z i c,x = .str z/\y = .int i/\z.length<=sizeLine/\nB z.cps.toList i=some c/\Q (.str ⟨#[c]⟩) H
theorem AI:XD X (Yg X.K):=by
 intro value slice pins s σ H x y v u Q I rx ry h hs;obtain⟨p,xs,i,z,rfl,rfl,hq,he,q⟩:=h;cases rx;obtain⟨t,rfl⟩:=ry;obtain⟨cC,r,pl,hz⟩:=I.list hq;obtain⟨j,h1,h2,h3,h4,h5⟩:=FU he;obtain⟨w,ew,MG⟩:=r.get h2;have hl:=r.length;have hn:=wC;have fin:EP X pins σ Q w s:=⟨z,H,I,MG,q⟩;by_cases h0:0<=i
 ·have hj:i.toNat=j:=by
   rw[seqIndex_of h0 h5]at h1;exact cH h1
  exact item_listR pl.isList h0 (by omega) (by rw[hj];simpa using ew) fin hs
 ·have hj:(i+(cC.toArray.size:Int)).toNat=j:=by
   rw[seqIndex_neg (by omega) h4]at h1;rw[aZ,<-hl];exact cH h1
  exact subscriptTail_builtinR (x:=w) pl.isList.typeIs slot_list_getitem.lookup
   (wpAny_getItem_list_neg (Q:=λr s'=>r=w/\EP X pins σ Q r s') pl.isList (by omega) (by rw[aZ]<;>omega) (by omega) (by rw[hj];simpa using ew) ⟨rfl,fin⟩) hs
theorem V2:XD X (aae X.K):=by
 intro value slice pins s σ H x y v u Q I rx ry h hs;obtain⟨p,xs,i,z,rfl,rfl,hq,he,q⟩:=h;cases rx;obtain⟨t,rfl⟩:=ry;obtain⟨cC,r,pl,hz⟩:=I.tuple hq;obtain⟨j,h1,h2,h3,h4,h5⟩:=FU he;obtain⟨w,ew,MG⟩:=r.get h2;have hl:=r.length;have hn:=wC;have fin:EP X pins σ Q w s:=⟨z,H,I,MG,q⟩;exact subscriptTail_builtinR (x:=w) pl.typeIs slot_tuple_getitem.lookup
  (getItem_tuple (j:=j) (Q:=λr s'=>r=w/\EP X pins σ Q r s') pl (by omega) (by omega) (by rw[aZ,<-hl];exact h1) (by simpa using ew) ⟨rfl,fin⟩) hs
theorem V3:XD X Vu:=by
 intro value slice pins s σ H x y v u Q I rx ry h hs;obtain⟨z,i,c,rfl,rfl,hz,he,q⟩:=h;obtain⟨t,rfl⟩:=rx;obtain⟨t',rfl⟩:=ry;obtain⟨j,h1,h2,h3,h4,h5⟩:=FU he;have hl:z.cps.toList.length=z.length:=by simp[Str.length]
 rw[hl]at h1 h4 h5;have hn:=wC;exact tail_any (typeIs_str s z t) slot_str_getitem.lookup (getItem_str (c:=c) (by
  have e1:decide (i < -(2 ^ 63:Int))=false:=decide_eq_false (by omega);have e2:decide (i≥2 ^ 63)=false:=decide_eq_false (by omega);rw[e1,e2,kK]) (by rw[h1];simpa using h2) ⟨.str ⟨#[c]⟩,H,I.tok _,⟨_,rfl⟩,q⟩) hs
theorem JS (cC:List Value) (n j:Nat) (u:Value):Obj.mapSeq (·.setIfInBounds j u) { cls:=.type "list",data:=.seq cC.toArray n }={ cls:=.type "list",data:=.seq (cC.set j u).toArray n }:=by
 simp[Obj.mapSeq]
theorem Inv.lst {pins:List (Addr×Obj)}{σ:St}{H:Hp}{s:Shared}{p:Addr}{xs:List V}(I:Inv X pins σ H s) (h:H p=some (.lst xs)) :
  ∃(cC:List Value) (n:Nat),Vals xs cC/\s.heap.get? p=some { cls:=.type "list",data:=.seq cC.toArray n }/\xs.length<=sizeLine:=by
 obtain⟨z,cC,n,r,e⟩:=I.df p _ h;exact⟨cC,n,r,e,z⟩
theorem Inv.VP {pins:List (Addr×Obj)}{σ:St}{H:Hp}{s:Shared}{p:Addr}{xs ys:List V}{cC its':List Value}{n n':Nat}{f:Obj->Obj}(I:Inv X pins σ H s) (h:H p=some (.lst xs))
  (ho:s.heap.get? p=some { cls:=.type "list",data:=.seq cC.toArray n }) (hf:f { cls:=.type "list",data:=.seq cC.toArray n }={ cls:=.type "list",data:=.seq its'.toArray n' }) (r:Vals ys its') (hz:ys.length<=sizeLine) (t:Nat) :
  Inv X pins σ (upd H p (.lst ys)) { s with heap:=s.heap.update p f,toks:=t }:=by
 have e:(s.heap.update p f).get? p=some { cls:=.type "list",data:=.seq its'.toArray n' }:=by
  rw[Heap.get?_update_self f ho (by rw[hf]<;>rfl),hf]
 refine I.write (x:=p) (e:=p) (by rw[h];trivial) (.inl rfl) (λb u hb q=>(Heap.get?_update_other _ _ (rn hb)).trans q) ⟨_,e⟩ ?_;exact⟨hz,its',n',r,e⟩
def Pb:V->V->V->Hp->(Hp->Prop)->Prop:=λo i v H Q=>∃p xs k j,o = .ref p/\i = .int k/\H p=some (.lst xs)/\N3 xs.length k=some j/\Q (upd H p (.lst (xs.set j v)))
theorem set_list:WY X Pb:=by
 intro pins s σ H o i v ov iv u Q I ro ri rv h;obtain⟨p,xs,k,j,rfl,rfl,hp,hj,q⟩:=h;cases ro;obtain⟨t,rfl⟩:=ri;obtain⟨cC,n,r,ho,hz⟩:=I.lst hp;obtain⟨h1,h2,h3,h4⟩:=Ls hj;have hl:=r.length;have hn:=wC;have I':Inv X pins σ (upd H p (.lst (xs.set j v))) { s with heap:=s.heap.update p (Obj.mapSeq (·.setIfInBounds j u)) } :=
  I.VP hp ho (JS cC n j u) (r.set rv j) (by rw[tL];exact hz) s.toks
 by_cases h0:0<=k
 ·have hk:k.toNat=j:=by
   rw[seqIndex_of h0 h4]at h1;exact cH h1
  exact PySem.W.ki_setAt ho h0 (by omega) (by rw[aZ,<-hl];exact h4) (by rw[hk];exact⟨_,I',q⟩)
 ·have hk:(k+(cC.toArray.size:Int)).toNat=j:=by
   rw[seqIndex_neg (by omega) h3]at h1;rw[aZ,<-hl];exact cH h1
  exact PySem.W.ki_setBack ho (by omega) (by rw[aZ,<-hl];exact h3) (by omega) (by rw[hk];exact⟨_,I',q⟩)
theorem ED (lo hi:Option Int) (n:Nat):(sliceBounds lo hi none n).1=((HT.EM n 0 lo:Nat):Int)/\(sliceBounds lo hi none n).2.1=((HT.EM n n hi:Nat):Int)/\(sliceBounds lo hi none n).2.2=1:=by
 refine⟨?_,?_,rfl⟩
 ·cases lo with
  | none=>simp[sliceBounds,HT.EM]
  | some i =>
   simp only[sliceBounds,HT.EM,NS,show(1:Int) > 0 by decide,if_true];by_cases h:i<0
   ·simp only[h,if_true]<;>omega
   ·simp only[h,if_false]<;>omega
 ·cases hi with
  | none=>simp[sliceBounds,HT.EM]
  | some i =>
   simp only[sliceBounds,HT.EM,NS,show(1:Int) > 0 by decide,if_true];by_cases h:i<0
   ·simp only[h,if_true]<;>omega
   ·simp only[h,if_false]<;>omega
theorem CK (cC:List Value) (lo hi:Option Int):slicePick cC.toArray lo hi none=((cC.drop (HT.EM cC.length 0 lo)).take (HT.EM cC.length cC.length hi-HT.EM cC.length 0 lo)).toArray:=by
 obtain⟨h1,h2,h3⟩:=ED lo hi cC.toArray.size;unfold slicePick;rw[h1,h2,h3];simp only[sliceRange_one,pick_run,aZ]<;>rfl
def Yf (K:aa):V->Option Int->Option Int->Hp->VK->Prop:=λx lo hi H Q=>∃a xs,x = .ref a/\dO K H a xs/\∀p,H p=none->Q (.ref p) (upd H p (.lst (Ny xs lo hi)))
theorem So:SlR X (Yf X.K):=by
 intro pins s σ H x v vl vu lo hi sl Q I rx hs pl pu h;obtain⟨a,xs,rfl,hx,q⟩:=h;cases rx;obtain⟨cC,r,ht,hz⟩:=I.list hx;have hlen:=r.length;refine⟨"list",_,slot_list_getitem.lookup,ht.isList.typeIs,?_⟩;refine wpAny_getItem_list_slice ht.isList hs pl pu .none (by simp) ?_ (by rw[aZ]<;>omega);rw[CK,<-hlen];refine⟨.ref s.heap.objs.size,_,I.laid (t':=s.toks) (o:=.lst (Ny xs lo hi)) (λb ob q=>Heap.get?_push_of_some _ q) (aQ _) ?_,rfl,q _ (I.df.fresh (aQ _))⟩;exact⟨bw (HE xs lo hi) hz,_,0,(r.drop (HT.EM xs.length 0 lo)).take (HT.EM xs.length xs.length hi-HT.EM xs.length 0 lo),Heap.get?_push_size _ rfl⟩
def xO:V->Bool
 | .gi=>true
 | .bl _=>true
 | .int _=>true
 | .str _=>true
 | _=>false
def TV:V->V->Bool
 | .gi,.gi=>true
 | .bl a,.bl b=>a==b
 | .bl a,.int b=>(if a then 1 else 0)==b
 | .int a,.bl b=>a==(if b then 1 else 0)
 | .int a,.int b=>a==b
 | .str a,.str b=>a==b
 | _,_=>false
theorem WD {A:Around}{s:Shared}{y x:V}{u v:Value}(ry:RelV y u) (rx:RelV x v) (fy:xO y=true) (fx:xO x=true):SeqAt.EqAt A s u v (TV y x):=by
 cases y with
 | gi =>
  cases ry;cases x with
  | gi=>cases rx;exact SeqAt.EqAt.same _
  | bl b=>cases rx;exact SeqAt.EqAt.none_bool b
  | int b=>obtain⟨t,rfl⟩:=rx;exact SeqAt.EqAt.none_int b t
  | str b=>obtain⟨t,rfl⟩:=rx;exact SeqAt.EqAt.none_str b t
  | _=>exact absurd (show false=true from fx) aW
 | bl a =>
  cases ry;cases x with
  | gi=>cases rx;exact SeqAt.EqAt.bool_none a
  | bl b=>cases rx;exact SeqAt.EqAt.bool_bool a b
  | int b=>obtain⟨t,rfl⟩:=rx;exact SeqAt.EqAt.bool_int a b t
  | str b=>obtain⟨t,rfl⟩:=rx;exact SeqAt.EqAt.bool_str a b t
  | _=>exact absurd (show false=true from fx) aW
 | int a =>
  obtain⟨t',rfl⟩:=ry;cases x with
  | gi=>cases rx;exact SeqAt.EqAt.int_none a t'
  | bl b=>cases rx;exact SeqAt.EqAt.int_bool a t' b
  | int b=>obtain⟨t,rfl⟩:=rx;exact SeqAt.EqAt.int_int a t' b t
  | str b=>obtain⟨t,rfl⟩:=rx;exact SeqAt.EqAt.int_str a t' b t
  | _=>exact absurd (show false=true from fx) aW
 | str a =>
  obtain⟨t',rfl⟩:=ry;cases x with
  | gi=>cases rx;exact SeqAt.EqAt.str_none a t'
  | bl b=>cases rx;exact SeqAt.EqAt.str_bool a t' b
  | int b=>obtain⟨t,rfl⟩:=rx;exact SeqAt.EqAt.str_int a t' b t
  | str b=>obtain⟨t,rfl⟩:=rx;exact SeqAt.EqAt.str_str a t' b t
  | _=>exact absurd (show false=true from fx) aW
 | _=>exact absurd (show false=true from fy) aW
def TX (x:V) (u:Value):Bool:=match u with
 | .none=>TV .gi x
 | .bool b=>TV (.bl b) x
 | .int i _=>TV (.int i) x
 | .str z _=>TV (.str z) x
 | _=>false
theorem Q2 {x y:V}{u:Value}(r:RelV y u) (f:xO y=true):TX x u=TV y x:=by
 cases y with
 | gi=>cases r;rfl
 | bl b=>cases r;rfl
 | int i=>obtain⟨t,rfl⟩:=r;rfl
 | str z=>obtain⟨t,rfl⟩:=r;rfl
 | _=>exact absurd (show false=true from f) aW
theorem FW {x:V}:∀{xs:List V}{us:List Value},Vals xs us->xs.all xO=true->us.any (TX x)=xs.any λy=>TV y x
 | _,_,.nil,_=>rfl
 | y::xs,u::us,.cons r t,f=>by
  rw[fc,aU]at f;rw[jg,jg,Q2 r f.1,FW t f.2]
theorem Bz {A:Around}{s:Shared}{x:V}{v:Value}(rx:RelV x v) (fx:xO x=true):∀{xs:List V}{us:List Value},Vals xs us->xs.all xO=true->∀u∈us,SeqAt.EqAt A s u v (TX x u)
 | _,_,.nil,_=>λu hu=>by cases hu
 | y::xs,u::us,.cons r t,f=>λu' hu=>by
  rw[fc,aU]at f;rcases ah.mp hu with rfl|hu
  ·rw[Q2 r f.1];exact WD r rx f.1 fx
  ·exact Bz rx fx t f.2 u' hu
def Xn (x:V) (xs:List V):Bool:=xs.any λy=>TV y x
def rIn (K:aa) (neg:Bool):R2:=λx y H Q=>∃p xs,y = .ref p/\(dO K H p xs\/lR K H p xs)/\xO x=true/\xs.all xO=true/\Q (.bl (if neg then !Xn x xs else Xn x xs)) H
theorem uZ:zp X (compareOp .In) (rIn X.K false):=by
 intro pins s σ H x y v u Q I rx ry h;obtain⟨p,xs,rfl,hq,fx,fs,q⟩:=h;cases ry;rcases hq with hq|hq
 ·obtain⟨cC,r,pl,hz⟩:=I.list hq;refine SeqAt.in_listAt (TX x) pl.isList (λw hw=>Bz rx fx r fs w (by simpa using hw)) ⟨.bl _,H,I,rfl,?_⟩;rw[show cC.toArray.any (TX x)=cC.any (TX x) by simp,FW r fs];exact q
 ·obtain⟨cC,r,pl,hz⟩:=I.tuple hq;refine SeqAt.in_tupleAt (TX x) pl (λw hw=>Bz rx fx r fs w (by simpa using hw)) ⟨.bl _,H,I,rfl,?_⟩;rw[show cC.toArray.any (TX x)=cC.any (TX x) by simp,FW r fs];exact q
theorem yc:sW X (.builtin "len") (λxs H Q=>∃p ys,xs=[.ref p]/\(dO X.K H p ys\/lR X.K H p ys)/\Q (.int ys.length) H):=by
 intro pins s σ H xs us Q I r h;obtain⟨p,ys,rfl,hq,q⟩:=h;obtain⟨u,rfl,rx⟩:=vals1 r;cases rx;have hn:=wC;rcases hq with hq|hq
 ·obtain⟨cC,r',pl,hz⟩:=I.list hq;have hlen:=r'.length;exact Calls.call_len_list pl.isList (by simp only[aZ]<;>omega) ⟨.int ys.length,H,I.tok _,⟨s.toks+1,by rw[aZ,hlen]⟩,q⟩
 ·obtain⟨cC,r',pl,hz⟩:=I.tuple hq;have hlen:=r'.length;exact len_tuple pl (by simp only[aZ]<;>omega) ⟨.int ys.length,H,I.tok _,⟨s.toks+1,by rw[aZ,hlen]⟩,q⟩
theorem yb:sW X (.builtin "len") (λxs H Q=>∃z,xs=[.str z]/\z.length<=sizeLine/\Q (.int z.length) H):=by
 intro pins s σ H xs us Q I r h;obtain⟨z,rfl,hz,q⟩:=h;obtain⟨u,rfl,t,rfl⟩:=vals1 r;have hn:=wC;exact len_str (by omega) ⟨.int z.length,H,I.tok _,⟨_,rfl⟩,q⟩
theorem FH:sW X (.type "list") (λxs H Q=>∃p ys,xs=[.ref p]/\(dO X.K H p ys\/lR X.K H p ys)/\∀l,H l=none->Q (.ref l) (upd H l (.lst ys))):=by
 intro pins s σ H xs us Q I r h;obtain⟨p,ys,rfl,hq,q⟩:=h;obtain⟨u,rfl,rx⟩:=vals1 r;cases rx;have fin:∀(cC:List Value),Vals ys cC->ys.length<=sizeLine->∀(h':Heap) (c':Nat),(∀b o',s.heap.get? b=some o'->h'.get? b=some o') ->
   h'.get? s.heap.objs.size=some { cls:=.type "list",dict:=none,data:=.seq cC.toArray c',slots:=#[] }->EP X pins σ Q (.ref s.heap.objs.size) { s with heap:=h' }:=λcC r' hz h' c' kp e =>
  ⟨.ref s.heap.objs.size,_,I.laid (t':=s.toks) kp (aQ _) (show gB X.prog X.w _ h' _ (.lst ys) from⟨hz,cC,c',r',e⟩),rfl,q _ (I.df.fresh (aQ _))⟩
 rcases hq with hq|hq
 ·obtain⟨cC,r',pl,hz⟩:=I.list hq;have hlen:=r'.length;obtain⟨o,ho,hc,n,hd⟩:=pl.isList;exact call_list_seq p (.inl rfl) ho hc hd (λh' c' kp e=>fin cC r' hz h' c' kp e) (by simp only[aZ]<;>omega)
 ·obtain⟨cC,r',pl,hz⟩:=I.tuple hq;have hlen:=r'.length;obtain⟨o,ho,hc,n,hd⟩:=pl;exact call_list_seq p (.inr rfl) ho hc hd (λh' c' kp e=>fin cC r' hz h' c' kp e) (by simp only[aZ]<;>omega)
def X1 (K:aa) (T:String) (x:V) (H:Hp):Prop:=match x with
 | .str _=>T = "str"
 | .int _=>T = "int"
 | .ref p=>(T = "list" /\ ∃xs,dO K H p xs)\/(T = "tuple" /\ ∃o,K.lookup p=some o/\o.cls = .type "tuple" /\ o.dict=none) \/
   (T = "dict" /\ ((∃bD,H p=some (.dK bD))\/∃bD,H p=some (.dT bD)))\/(T = "set" /\ ∃S n,H p=some (.set S n))
 | _=>False
theorem Ow {pins:List (Addr×Obj)}{σ:St}{H:Hp}{s:Shared}{T:String}{x:V}{v:Value}(I:Inv X pins σ H s) (r:RelV x v) (ty:X1 X.K T x H) :
  s.TypeIs v T/\∀a,v = .ref a->∃ob,s.heap.get? a=some ob/\ob.dict=none:=by
 cases x with
 | str z =>
  obtain⟨t,rfl⟩:=r;cases (show T = "str" from ty);exact⟨typeIs_str s z t,λ_ e=>nomatch e⟩
 | int i =>
  obtain⟨t,rfl⟩:=r;cases (show T = "int" from ty);exact⟨typeIs_int s i t,λ_ e=>nomatch e⟩
 | ref p =>
  cases r;rcases ty with⟨rfl,xs,hq⟩|⟨rfl,o,hk,hc,hd⟩|⟨rfl,hk⟩|⟨rfl,S,n,hk⟩
  ·obtain⟨cC,_,pl,_⟩:=I.list hq;refine⟨pl.isList.typeIs,λa e=>?_⟩;cases e;obtain⟨o,n,e,c,hd,_⟩:=pl;exact⟨o,e,hd⟩
  ·refine⟨⟨o,I.J4 p o hk,hc⟩,λa e=>?_⟩;cases e;exact⟨o,I.J4 _ o hk,hd⟩
  ·have z:∃o,s.heap.get? p=some o/\o.ExactDict:=by
    rcases hk with⟨bD,hk⟩|⟨bD,hk⟩
    ·obtain⟨_,_,_,_,o,_,_,e,ex,_⟩:=I.df p _ hk;exact⟨o,e,ex⟩
    ·obtain⟨_,_,_,_,o,_,_,e,ex,_⟩:=I.df p _ hk;exact⟨o,e,ex⟩
   obtain⟨o,e,ex⟩:=z;refine⟨⟨o,e,ex.1⟩,λa e2=>?_⟩;cases e2;exact⟨o,e,ex.2.1⟩
  ·obtain⟨o,_,_,_,e,ex,_⟩:=I.df p _ hk;refine⟨⟨o,e,ex.1⟩,λa e2=>?_⟩;cases e2;exact⟨o,e,ex.2.1⟩
 | _=>exact dB ty
def R9 (K:aa) (T:String) (r:V->List V->Hp->VK->Prop) (to:TE):TE:=λσ H Q=>to σ H λx H1=>X1 K T x H1/\r x [] H1 Q
def X7 (K:aa) (T:String) (r:V->List V->Hp->VK->Prop) (to:TE) (t:TA):TE:=λσ H Q=>to σ H λx H1=>X1 K T x H1/\t σ H1 λxs H2=>r x xs H2 Q
variable {o e:Expr}{es:List Expr}{to:TE}{t:TA}{name:Str}{apos oN:Pos}{T id:String}{r:V->List V->Hp->VK->Prop}
theorem VC (pa:PlainAttrs T) (slot:Slot T name id) (UD:typeOf (.builtin id)=pure (.type "method_descriptor")) (hm:Od X id r) (ho:PE X o to)
  (pz:attributeBase o name X.env (eval o X.env)=eval o X.env:=by rfl) (kP:(apos.endLine==oN.line)=true:=by rfl):PE X (.Call (.Attribute o name apos) [] [] oN) (R9 X.K T r to):=by
 intro pins s σ H Q I h;refine wpAny_Call_method0_late pz kP (fu (ho pins s σ H _ I h) λv s1 ⟨x,H1,I1,r1,ty,q1⟩=>?_);obtain⟨h1,h2⟩:=Ow I1 r1 ty;exact⟨T,id,pa,slot,UD,h1,h2,Calls.callWith_builtin rfl (KI (hm pins s1 σ H1 x [] v [] Q I1 r1 .nil q1))⟩
theorem lI (pa:PlainAttrs T) (slot:Slot T name id) (UD:typeOf (.builtin id)=pure (.type "method_descriptor")) (hm:Od X id r) (ho:PE X o to) (ha:PA X (e::es) t)
  (pz:attributeBase o name X.env (eval o X.env)=eval o X.env:=by rfl)
  (aaO:((backTo oN (starEach (e::es) X.env)).all (λx=>!x.1)&&(backToKw oN (keywordEach [] X.env)).all (λx=>x.1.isSome)
   && decide ((e::es).length+([]:List Keyword).length+(if ([]:List Keyword).isEmpty then 0 else 1)<30))=true:=by rfl)
  (kP:(apos.endLine==oN.line)=true:=by rfl) (hs:starEach (e::es) X.env=(false,eval e X.env)::starEach es X.env:=by rfl) (J8:(backTo oN (starEach es X.env)).any (·.1)=false:=by rfl) :
  PE X (.Call (.Attribute o name apos) (e::es) [] oN) (X7 X.K T r to t):=by
 intro pins s σ H Q I h;refine wpAny_Call_method_late pz aaO kP rfl (fu (ho pins s σ H _ I h) λv s1 ⟨x,H1,I1,r1,ty,q1⟩=>?_);obtain⟨h1,h2⟩:=Ow I1 r1 ty;refine⟨T,id,pa,slot,UD,h1,h2,?_⟩;have hA:=ha oN pins s1 σ H1 _ I1 q1;rw[hs]at hA⊢;refine Calls.callWith_builtin (by show(false||(backTo oN (starEach es X.env)).any (·.1))=false;rw[J8]<;>rfl) (Calls.evalArgs_plain ?_);exact fu hA λus s2 ⟨vs,H2,I2,r2,q2⟩=>hm pins s2 σ H2 x vs v us Q I2 r1 r2 q2
end
end L2
namespace L2
open PySem PySem.Spec PyProof.Rows
def MtM (X:Cx) (id:String) (r:V->List V->Hp->VK->Prop):Prop :=
 ∀(pins:List (Addr×Obj)) (s:Shared) (σ:St) (H:Hp) (x:V) (xs:List V) (v:Value) (us:List Value) (Q:VK),Inv X pins σ H s->RelV x v->Vals xs us->r x xs H Q ->
  wpAny (model X.prog X.w) X.A (call (.builtin id) (v::us)) (EP X pins σ Q) X.xe s
theorem Vals.one:∀{x:V}{us:List Value},Vals [x] us->∃u,us=[u]/\RelV x u
 | _,_,.cons r .nil=>⟨_,rfl,r⟩
theorem Vals.rep {xs:List V}{us:List Value}(h:Vals xs us):∀k:Nat,Vals (bx k xs).flatten (bx k us).flatten
 | 0=>.nil
 | k+1=>by
  rw[cM,cM,qH,qH];exact Vals.append h (Vals.rep h k)
theorem foldl_rep (cC:List Value):∀(k:Nat) (acc:List Value),
  NW (λx1 x2=>x1++x2) acc.toArray (bx k cC.toArray)=(acc++(bx k cC).flatten).toArray
 | 0,acc=>by simp
 | k+1,acc=>by
  have e:acc.toArray++cC.toArray=(acc++cC).toArray:=by simp
  have e2:(acc++cC)++(bx k cC).flatten=acc++(bx (k+1) cC).flatten:=by
   rw[cM,qH,cE]
  rw[<-e2,<-foldl_rep cC k (acc++cC),<-e,cM,bJ]
section
variable {X:Cx}{pins:List (Addr×Obj)}{σ:St}{H:Hp}{s:Shared}{l b:Addr}{xs ys zs:List V}
theorem Inv.VQ {cC its':List Value}{n:Nat}{f:Array Value->Array Value}{t':Nat}(I:Inv X pins σ H s) (hH:H l=some (.lst xs))
  (e:s.heap.get? l=some { cls:=.type "list",data:=.seq cC.toArray n }) (hf:f cC.toArray=its'.toArray) (hv:Vals ys its') (hz:ys.length<=sizeLine) :
  Inv X pins σ (upd H l (.lst ys)) { s with heap:=s.heap.update l (Obj.mapSeq f),toks:=t' }:=by
 have q:=PySem.IsL.update e f;rw[hf]at q;refine I.write (x:=l) (e:=l) (by rw[hH];exact trivial) (.inl rfl) (λb' u hb hu=>(Heap.get?_update_other s.heap (Obj.mapSeq f) (rn hb)).trans hu) ⟨_,q⟩ ?_;exact⟨hz,its',_,hv,q⟩
theorem Inv.aam {cC:List Value}{t':Nat}(I:Inv X pins σ H s) (hv:Vals ys cC) (hz:ys.length<=sizeLine) :
  Inv X pins σ (upd H s.heap.objs.size (.lst ys)) { s with heap:=s.heap.push { cls:=.type "list",data:=.seq cC.toArray },toks:=t' } :=
 I.laid (λ_ _ q=>Heap.get?_push_of_some _ q) (aQ _) ⟨hz,cC,0,hv,Heap.get?_push_size _ rfl⟩
theorem Inv.fresh (I:Inv X pins σ H s):H s.heap.objs.size=none:=I.df.fresh (aQ _)
theorem Inv.PU (I:Inv X pins σ H s) (hH:H l=some (.lst xs)):xs.length<=sizeLine/\∃(cC:List Value) (n:Nat),Vals xs cC/\xs.length=cC.length/\s.heap.get? l=some { cls:=.type "list",data:=.seq cC.toArray n }:=by
 obtain⟨z,cC,n,r,e⟩:=I.df l _ hH;exact⟨z,cC,n,r,r.length,e⟩
theorem Bw {n:Nat}(h:n<=sizeLine):Builtin.List.listTooLong n=false:=by
 unfold Builtin.List.listTooLong;exact decide_eq_false (by omega)
end
section
variable {X:Cx}
def xw:V->List V->Hp->VK->Prop:=λx vs H Q=>∃l xs y,x = .ref l/\vs=[y]/\H l=some (.lst xs)/\xs.length<sizeLine/\Q .gi (upd H l (.lst (xs++[y])))
theorem eZ:MtM X "list.append" xw:=by
 intro pins s σ H x vs v us Q I rx rv h;obtain⟨l,xs,y,rfl,rfl,hH,hz,q⟩:=h;cases rx;obtain⟨u,rfl,ru⟩:=rv.one;obtain⟨z,cC,n,r,hl,e⟩:=I.PU hH;refine call_meets F.slot_list_append ⟨_,e,rfl⟩ F.entry_list_append (F.args_list_append_2 _ _) (PySem.list_append l cC.toArray n u (by rw[aZ];omega)) ⟨e,?_⟩;refine⟨.gi,_,I.VQ (its':=cC++[u]) hH e (by simp) (r.append (.cons ru .nil)) ?_,rfl,q⟩;rw[aJ,List.length_singleton];omega
def ER:V->List V->Hp->VK->Prop:=λx vs H Q=>∃l b xs zs,x = .ref l/\vs=[.ref b]/\H l=some (.lst xs)/\H b=some (.lst zs)/\xs.length+zs.length<=sizeLine/\Q .gi (upd H l (.lst (xs++zs)))
theorem DE:MtM X "list.extend" ER:=by
 intro pins s σ H x vs v us Q I rx rv h;obtain⟨l,b,xs,zs,rfl,rfl,hH,hB,hz,q⟩:=h;cases rx;obtain⟨u,rfl,ru⟩:=rv.one;cases ru;obtain⟨z,cC,n,r,hl,e⟩:=I.PU hH;obtain⟨z2,wF,n2,r2,Ga,e2⟩:=I.PU hB;have hsz:cC.toArray.size+wF.toArray.size<=sizeLine:=by rw[aZ,aZ];omega
 have Hq:¬(!cC.toArray.isEmpty&&Builtin.List.listTooLong (cC.toArray.size+wF.toArray.size))=true:=by
  rw[Bw hsz,Ui];exact aW
 refine call_meets F.slot_list_extend ⟨_,e,rfl⟩ F.entry_list_extend (F.args_list_extend_2 _ _)
  (AutoSeq1.list_extend_list_list_0 l cC.toArray n b wF.toArray n2 Hq (by rw[aZ];omega) (by omega)) ⟨e,e2,?_⟩
 refine⟨.gi,_,I.VQ (its':=cC++wF) hH e (by simp) (r.append r2) ?_,rfl,q⟩;rw[aJ];omega
def Yh:R2:=λx y H Q=>∃l b xs zs,x = .ref l/\y = .ref b/\H l=some (.lst xs)/\H b=some (.lst zs)/\xs.length+zs.length<=sizeLine/\∀p,H p=none->Q (.ref p) (upd H p (.lst (xs++zs)))
def Vt:R2:=λx y H Q=>∃l k xs,x = .ref l/\y = .int k/\H l=some (.lst xs) /\ -(2 ^ 63)<=k/\k<2 ^ 63/\xs.length * k.toNat<=sizeLine /\
 ∀p,H p=none->Q (.ref p) (upd H p (.lst (bx k.toNat xs).flatten))
theorem len_rep {α:Type}(xs:List α) (k:Nat):(bx k xs).flatten.length=k * xs.length:=by
 induction k with
 | zero=>simp
 | succ k ih=>rw[cM,qH,aJ,ih,XS,i6]
theorem JM:zp X (binaryOp .Mult) Vt:=by
 intro pins s σ H x y v u Q I rx ry h;obtain⟨l,k,xs,rfl,rfl,hH,h1,h2,hz,q⟩:=h;cases rx;obtain⟨t,rfl⟩:=ry;obtain⟨z,cC,n,r,hl,e⟩:=I.PU hH;have hlen:cC.toArray.size * k.toNat<=sizeLine:=by rw[aZ,<-hl];exact hz
 have aaR:¬cC.toArray.size * k.toNat > (2 ^ 63-1) / 8:=by
  have:(sizeLine:Nat)<=(2 ^ 63-1) / 8:=by decide
  omega
 have aaM:¬(!Builtin.List.listFitsIndex k)=true:=by
  rw[fitsIndex_both h1 h2];exact aW
 have Hq:¬Builtin.List.listTooLong (cC.toArray.size * k.toNat)=true:=by
  rw[Bw hlen];exact aW
 have aaD:NW (λx1 x2=>x1++x2) #[] (bx (if cC.toArray.isEmpty=true then 0 else k.toNat) cC.toArray)=(bx k.toNat cC).flatten.toArray:=by
  have f0:∀m:Nat,NW (λx1 x2=>x1++x2) #[] (bx m cC.toArray)=(bx m cC).flatten.toArray:=λm=>by
   have:=foldl_rep cC m [];rw[dP]at this;exact this
  rw[f0];cases cC with
  | nil=>simp
  | cons a r'=>rw[if_neg (by simp)]
 refine wpAny_binaryOp_repeat_ref (T := "list") (U := "int") (by decide) ⟨_,e,rfl⟩ (λs'=>typeIs_int s' k t) noFill_list_mul F.fills_int_mul F.slot_int_rmul repeat_list F.slot_int_index.lookup
  (call_meets F.slot_int_rmul (typeIs_int s k t) F.entry_int_rmul (F.args_int_rmul_2 _ _) (int___rmul___int_list k t l cC.toArray n)
   ⟨e,rfl,⟨_,e,rfl⟩,call_meets F.slot_list_mul ⟨_,e,rfl⟩ F.entry_list_mul (F.args_list_mul_2 _ _) (AutoListH.list___mul___list_int_3 l cC.toArray n k t aaM aaR Hq) ⟨e,?_⟩⟩)
 rw[aaD];exact⟨.ref _,_,I.aam (t':=s.toks) (r.rep k.toNat) (by rw[len_rep,ia];exact hz),rfl,q _ I.fresh⟩
end
end L2
namespace L2
open PySem PySem.Spec PyProof.Rows
theorem Vals.bls:∀{bs:List Bool}{us:List Value},Vals (bs.map V.bl) us->us=bs.map Value.bool
 | [],us,h=>by
  rw[cn]at h;cases h;rfl
 | b::bs,us,h=>by
  rw[aP]at h;cases h with
  | cons r t =>
   cases r;rw[Vals.bls t,aP]
theorem Vals.aad {a:Addr}{us:List Value}(r:Vals [V.ref a] us):us=[Value.ref a]:=by
 cases r with
 | cons r t =>
  cases t;cases r;rfl
theorem Qh {prog:Program}{w:World}{A:Around}{E:Value->Shared->Prop}{s:Shared}{l:Addr}{items:Array Value}{Q:Value->Shared->Prop}(hl:s.heap.IsList l items)
  (h:∀mq:Shared,mq={ s with heap:=s.heap.push { cls:=.type "list_iterator",data:=.fields #[.ref l,.int 0 0] } } ->
   (mq.heap.IsListIter s.heap.objs.size l 0/\mq.heap.IsList l items)->l≠s.heap.objs.size->Q (.ref s.heap.objs.size) mq):wpAny (model prog w) A (pyIter (.ref l)) Q E s:=by
 have hX:l<s.heap.objs.size:=by obtain⟨_,e,_⟩:=hl;exact Heap.lt_size e
 exact wpAny_pyIter_list hl (h _ rfl ⟨⟨_,Heap.get?_push_size _ rfl,rfl,rfl⟩,hl.push _⟩ (cI hX))
theorem Gm {prog:Program}{w:World}{A:Around}{bs:List Bool}{cC:List Value}(e:cC=bs.map Value.bool) :
  TruthOf prog w A (λi v=>cC.toArray[i]?=some v) (λi=>bs.getD i false):=λi v s Q E hv hq=>by
 have Wb:cC[i]?=some v:=by simpa using hv
 rw[e,aR]at Wb;obtain⟨b,hb,rfl⟩:=F4.mp Wb;have hg:bs.getD i false=b:=by rw[bB,hb]<;>rfl
 have Lw:Q (bs.getD i false) s:=hq;rw[hg]at Lw;exact wpAny_truthy_bool Lw
theorem any_range:∀bs:List Bool,(bF bs.length).any (λi=>bs.getD i false)=bs.any id
 | []=>rfl
 | b::bs=>by
  rw[ay,Ip,jg,W7,jg,<-any_range bs]
  all_goals rfl
theorem all_range:∀bs:List Bool,(bF bs.length).all (λi=>bs.getD i false)=bs.all id
 | []=>rfl
 | b::bs=>by
  rw[ay,Ip,fc,zA,fc,<-all_range bs]
  all_goals rfl
section
variable {X:Cx}
def Yi (K:aa):List V->Hp->VK->Prop:=λvs H Q=>∃(a:Addr) (bs:List Bool),vs=[V.ref a]/\dO K H a (bs.map V.bl)/\Q (.bl (bs.all id)) H
theorem WK (hc:X.calm=true):sW X (.builtin "all") (Yi X.K):=by
 intro pins s σ H vs us Q I r h;obtain⟨a,bs,rfl,hs,q⟩:=h;obtain⟨cC,rv,hl,_⟩:=I.list hs;rw[Vals.aad r];have hb:=rv.bls;refine call_all_walk (Qh hl.isList λmq e2 st rm=>?_);subst e2;refine⟨_,_,_,_,_,_,_,rfl,Walks.list (A:=X.A.in1) (I.ok.hd hc) _ a rm cC.toArray,st,Gm hb,λh' tk hk=>?_⟩;refine⟨.bl _,H,I.kept λb o eo=>hk b o (λCS=>?_) (Heap.get?_push_of_some _ eo),?_,q⟩
 ·rcases ah.mp CS with e1|CS
  ·exact absurd (e1▸Heap.lt_size eo) (fQ _)
  ·cases CS
 ·show Value.bool _=Value.bool _;rw[<-all_range,hb,aZ,ax]
end
end L2
namespace L2
open PySem PySem.Spec PyProof.Rows
abbrev Rr (h:Heap) (c:Addr) (v:Option Value):Prop:=h.IsCell c v
def aab (scope sc:Scope):Scope :=
 { scope with names:=scope.names.map λ(n,k)=>if (k == .free&&sc.kind == .function&&sc.names.lookup n==some .cell) then(n,.cell) else(n,k) }
def fF (cells:List (Str×Addr)):List (Str×NameKind)->List (Str×Addr)->List (Str×Addr)
 | [],acc=>acc
 | (n,k)::r,acc=>if k == .free then fF cells r ((n,(cells.lookup n).getD 0)::acc) else fF cells r acc
theorem ya (env:Env) (f:Str×NameKind->List (Str×Addr)->Sem (ForInStep (List (Str×Addr))))
  (hf:∀n k c,f (n,k) c=if k == .free then(do let a <-cellOf env n;pure (.yield ((n,a)::c))) else pure (.yield c)) :
  ∀(names:List (Str×NameKind)) (acc:List (Str×Addr)),(∀y∈names,y.2 = .free->∃c,env.cells.lookup y.1=some c)->forIn names acc f=pure (fF env.cells names acc)
 | [],acc,_=>by rw[Ug];rfl
 | (n,k)::r,acc,h=>by
  rw[List.forIn_cons,hf];have ih:=λacc=>ya env f hf r acc λy hy=>h y (ai _ hy)
  unfold fF;by_cases hk:(k==NameKind.free)=true
  ·rw[if_pos hk,if_pos hk];obtain⟨c,hc⟩:=h (n,k) au (by simpa using hk);have e:cellOf env n=pure c:=by unfold cellOf;rw[hc]
   rw[e];have e2:(env.cells.lookup n).getD 0=c:=by rw[hc];rfl
   rw[e2];exact ih _
  ·rw[if_neg hk,if_neg hk];exact ih _
theorem Kp {scope:Scope}{env:Env}(h:∀y∈scope.names,y.2 = .free->∃c,env.cells.lookup y.1=some c):closureFor scope env=pure (fF env.cells scope.names []):=by
 simp only[closureFor];rw[ya env _ (λn k c=>rfl) scope.names [] h];rfl
theorem mem_lookup {α:Type}:∀{l:List (Str×α)}{n:Str}{c:α},(n,c)∈l->∃c',l.lookup n=some c'
 | (k,v)::r,n,c,h=>by
  rw[iA];cases hb:n==k with
  | true=>exact⟨_,rfl⟩
  | false =>
   rcases ah.mp h with e|h
   ·cases e;simp at hb
   ·exact mem_lookup h
theorem qh {cells:List (Str×Addr)}:∀{names:List (Str×NameKind)}{acc:List (Str×Addr)}{n:Str}{c:Addr},(n,c)∈fF cells names acc->(n,c)∈acc\/((n,.free)∈names/\c=(cells.lookup n).getD 0)
 | [],_,_,_,h=>.inl h
 | (m,k)::r,acc,n,c,h=>by
  unfold fF at h
  split at h
  ·rename_i hk
   have hk:k = .free:=by simpa using hk
   rcases qh h with h|⟨h1,h2⟩
   ·rcases ah.mp h with e|h
    ·cases e;exact .inr ⟨hk▸au,rfl⟩
    ·exact .inl h
   ·exact .inr ⟨ai _ h1,h2⟩
  ·rcases qh h with h|⟨h1,h2⟩
   ·exact .inl h
   ·exact .inr ⟨ai _ h1,h2⟩
theorem uO {cells:List (Str×Addr)}:∀{names:List (Str×NameKind)}{acc:List (Str×Addr)}{p:Str×Addr},p∈acc->p∈fF cells names acc
 | [],_,_,h=>h
 | (m,k)::r,acc,p,h=>by
  unfold fF
  split
  ·exact uO (ai _ h)
  ·exact uO h
theorem uN {cells:List (Str×Addr)}:∀{names:List (Str×NameKind)}{acc:List (Str×Addr)}{n:Str},(n,.free)∈names->(n,(cells.lookup n).getD 0)∈fF cells names acc
 | (m,k)::r,acc,n,h=>by
  unfold fF;rcases ah.mp h with e|h
  ·cases e;exact uO au
  ·split
   ·exact uN h
   ·exact uN h
theorem ra:∀{names:List (Str×NameKind)}{h:Heap}{acc:List (Str×Addr)}{x:Str}{c:Addr},(x,c)∈cellsFrom h.objs.size names acc ->
  (x,c)∈acc\/((x,.cell)∈names/\h.objs.size<=c/\Rr (pushCells h names) c none)
 | [],_,_,_,_,h=>.inl h
 | (n,k)::r,h,acc,x,c,hm=>by
  unfold cellsFrom at hm;unfold pushCells
  split at hm
  ·rename_i hk
   rw[if_pos hk];have hk:k = .cell:=by simpa using hk
   rw[<-Heap.size_push h { cls:=.type "cell",data:=.cell none }]at hm;rcases ra hm with hm|⟨h1,h2,h3⟩
   ·rcases ah.mp hm with e|hm
    ·cases e;exact .inr ⟨hk▸au,aQ _,_,pushCells_keeps r _ _ _ (Heap.get?_push_size _ rfl),rfl⟩
    ·exact .inl hm
   ·rw[Heap.size_push]at h2;exact .inr ⟨ai _ h1,rh h2,h3⟩
  ·rename_i hk
   rw[if_neg hk];rcases ra hm with hm|⟨h1,h2,h3⟩
   ·exact .inl hm
   ·exact .inr ⟨ai _ h1,h2,h3⟩
theorem vi:∀{names:List (Str×NameKind)}{n:Nat}{acc:List (Str×Addr)}{p:Str×Addr},p∈acc->p∈cellsFrom n names acc
 | [],_,_,_,h=>h
 | (m,k)::r,n,acc,p,h=>by
  unfold cellsFrom
  split
  ·exact vi (ai _ h)
  ·exact vi h
theorem zg:∀{names:List (Str×NameKind)}{n:Nat}{acc:List (Str×Addr)}{x:Str},(x,.cell)∈names->∃c,(x,c)∈cellsFrom n names acc
 | (m,k)::r,n,acc,x,h=>by
  unfold cellsFrom;rcases ah.mp h with e|h
  ·cases e;exact⟨n,vi au⟩
  ·split
   ·exact zg h
   ·exact zg h
theorem zf:∀{names:List (Str×NameKind)}{h:Heap}{acc:List (Str×Addr)}{x y:Str}{c:Addr},(∀p∈acc,p.2<h.objs.size)->(∀x y c,(x,c)∈acc->(y,c)∈acc->x=y) ->
  (x,c)∈cellsFrom h.objs.size names acc->(y,c)∈cellsFrom h.objs.size names acc->x=y
 | [],_,_,_,_,_,_,hi,h1,h2=>hi _ _ _ h1 h2
 | (n,k)::r,h,acc,x,y,c,hl,hi,h1,h2=>by
  unfold cellsFrom at h1 h2
  split at h1
  ·rename_i hk
   rw[if_pos hk]at h2;rw[<-Heap.size_push h { cls:=.type "cell",data:=.cell none }]at h1 h2;refine zf (h:=h.push _) (λp hp=>?_) (λx y c a b=>?_) h1 h2
   ·rw[Heap.size_push];rcases ah.mp hp with rfl|hp
    ·exact AU _
    ·exact mn (hl p hp)
   ·rcases ah.mp a with e|a<;>rcases ah.mp b with e'|b
    ·cases e;cases e';rfl
    ·cases e;exact absurd (hl _ b) (fQ _)
    ·cases e';exact absurd (hl _ a) (fQ _)
    ·exact hi _ _ _ a b
  ·rename_i hk
   rw[if_neg hk]at h2;exact zf hl hi h1 h2
theorem G9 {M:Model}{A:Around}{E:Value->Shared->Prop}{s:Shared}{scope:Scope}{globals:Addr}{closure:List (Str×Addr)}{qual:Str}{func:Option Addr}{code:Value}{around:Env}{builtins:Addr}{Q:Env->Shared->Prop}
  (h:Q (newEnv scope s.heap.objs.size globals (cellsFrom (s.heap.objs.size+1) scope.names closure) qual func code (some around) builtins)
   { s with heap:=pushCells (s.heap.push { cls:=.type "dict",data:=.dict #[] }) scope.names }) :
  wpAny M A (newFunctionEnv scope globals closure [] qual func code (some around) builtins) Q E s:=by
 simp only[newFunctionEnv,pP,if_true];refine wpAny_bind (wpAny_alloc ?_);refine wpAny_bind (wpAny_layCells _ (λn k c=>rfl) scope.names closure _ _ ?_);rw[show({ s with heap:=s.heap.push { cls:=.type "dict",data:=.dict #[] } }:Shared).heap.objs.size=s.heap.objs.size+1 from Heap.size_push ..];rw[Ug];exact wpAny_bind (wpAny_pure (wpAny_pure h))
theorem ub {sc:Scope}:∀{names:List (Str×NameKind)}{x:Str}{k:NameKind},
  (names.map λ(n,k)=>if (k==NameKind.free&&sc.kind == .function&&sc.names.lookup n==some .cell) then(n,NameKind.cell) else(n,k)).lookup x=some k ->
  ∃k',names.lookup x=some k'/\(k=k'\/(k' = .free/\k = .cell))
 | [],_,_,h=>by simp at h
 | (n,P7)::r,x,k,h=>by
  have ih:=@ub sc r x k;have h':jS x ((if (P7==NameKind.free&&sc.kind == .function&&sc.names.lookup n==some .cell)=true then(n,NameKind.cell) else(n,P7))::(r.map _))=some k:=h;cases hx:x==n with
  | true =>
   simp only[iA,hx];by_cases hc:(P7==NameKind.free&&sc.kind == .function&&sc.names.lookup n==some .cell)=true
   ·rw[if_pos hc]at h';simp only[iA,hx]at h';cases h';simp only[aU,beq_iff_eq]at hc;exact⟨P7,rfl,.inr ⟨hc.1.1,rfl⟩⟩
   ·rw[if_neg hc]at h';simp only[iA,hx]at h';cases h';exact⟨_,rfl,.inl rfl⟩
  | false =>
   simp only[iA,hx];by_cases hc:(P7==NameKind.free&&sc.kind == .function&&sc.names.lookup n==some .cell)=true
   ·rw[if_pos hc]at h';simp only[iA,hx]at h';exact ih h'
   ·rw[if_neg hc]at h';simp only[iA,hx]at h';exact ih h'
structure LY (N:List Str) (sc scope:Scope) (own:List (Str×Nat)):Prop where
 kind:scope.kind = .function
 uniq:∀y∈scope.names,scope.names.lookup y.1=some y.2
 ix:∀p∈own,N[p.2]?=some p.1
 free:∀y∈scope.names,y.2 = .free->sc.names.lookup y.1=some .cell\/sc.names.lookup y.1=some .free
 own:∀y∈scope.names,y.2 = .local\/y.2 = .cell->y.1∈own.map (·.1)\/y.1∉N
def wipe (σ:St):List Nat->St
 | []=>σ
 | v::vs=>(wipe σ vs).set v none
theorem tM (σ:St):∀vs:List Nat,(wipe σ vs).length=σ.length
 | []=>rfl
 | v::vs=>by unfold wipe;rw[tL,tM σ vs]
theorem yA {σ:St}{i:Nat}{x:V}:∀{vs:List Nat},(wipe σ vs)[i]?=some (some x)->σ[i]?=some (some x)/\i∉vs
 | [],h=>⟨h,by simp⟩
 | v::vs,h=>by
  unfold wipe at h;by_cases hi:v=i
  ·subst hi;by_cases hv:v<(wipe σ vs).length
   ·rw[l9 hv]at h;cases h
   ·rw[cZ (by simpa using hv)]at h;cases h
  ·rw[nW hi]at h;obtain⟨h1,h2⟩:=yA h;exact⟨h1,by simp only[ah,not_or];exact⟨λe=>hi e.symm,h2⟩⟩
abbrev Cx.Iy (X:Cx) (s:Shared) (H:Hp) (scope:Scope) (kS:Env) (fp:List Addr):Cx:={ X with Dr:=s,W4:=H,env:=kS,outer:=X.stack,ex:=fp,fn:=λx=>scope.names.lookup x==some .cell,pn:=[],xe:=λ_ _=>False }
section
variable {X:Cx}{pins:List (Addr×Obj)}{σ:St}{H:Hp}{s:Shared}
theorem HY {scope:Scope}{own:List (Str×Nat)}{fp:List Addr}(I:Inv X pins σ H s) (ok:LY X.N X.env.scope scope own) (hN:X.N.Nodup) (UI:∀b∈fp,zt X pins H b/\b<s.heap.objs.size) :
  Inv (X.Iy s H scope (compEnvC scope (cellsFrom (s.heap.objs.size+1) scope.names (fF X.env.cells scope.names [])) s.heap.objs.size X.env) fp) [] (wipe σ (own.map (·.2))) H { s with heap:=pushCells (s.heap.push { cls:=.type "dict",data:=.dict #[] }) scope.names }:=by
 have DL:∀y∈scope.names,y.2 = .free->∃c,X.env.cells.lookup y.1=some c:=λy hy e=>by
  rcases ok.free y hy e with k|k
  ·exact I.ok.has _ (.inl k)
  ·exact I.ok.has _ (.inr k)
 generalize Ht:compEnvC scope (cellsFrom (s.heap.objs.size+1) scope.names (fF X.env.cells scope.names [])) s.heap.objs.size X.env=kS;have kp:∀b o,s.heap.get? b=some o->(pushCells (s.heap.push { cls:=.type "dict",data:=.dict #[] }) scope.names).get? b=some o:=λb o e=>pushCells_keeps _ _ _ _ (Heap.get?_push_of_some _ e)
 have hL:kS.locals=s.heap.objs.size:=by rw[<-Ht];rfl
 have RH:kS.cells=cellsFrom (s.heap.objs.size+1) scope.names (fF X.env.cells scope.names []):=by rw[<-Ht];rfl
 have hsc:kS.scope=aab scope X.env.scope:=by rw[<-Ht];rfl
 rw[<-Heap.size_push s.heap { cls:=.type "dict",data:=.dict #[] }]at RH;have cm:∀{y c},(y,c)∈fF X.env.cells scope.names []->X.env.cells.lookup y=some c/\c<s.heap.objs.size:=λ{y c} hm=>by
  rcases qh hm with hm|⟨h1,rfl⟩
  ·cases hm
  ·obtain⟨c,hc⟩:=DL _ h1 rfl;rw[hc];obtain⟨w,z⟩:=I.cell _ _ hc;exact⟨rfl,z.lt⟩
 have mem:∀{y c},kS.cells.lookup y=some c->(X.env.cells.lookup y=some c/\c<s.heap.objs.size)\/(s.heap.objs.size+1<=c/\Rr (pushCells (s.heap.push { cls:=.type "dict",data:=.dict #[] }) scope.names) c none):=λ{y c} e=>by
  rw[RH]at e;rcases ra (bV e)with hm|⟨_,h2,h3⟩
  ·exact .inl (cm hm)
  ·rw[Heap.size_push]at h2;exact .inr ⟨h2,h3⟩
 have look:∀{y},scope.names.lookup y=some .free->∃c,kS.cells.lookup y=some c/\X.env.cells.lookup y=some c:=λ{y} hl=>by
  have hy:(y,NameKind.free)∈scope.names:=bV hl;obtain⟨c',e'⟩:=mem_lookup (vi (names:=scope.names) (n:=(s.heap.push { cls:=.type "dict",data:=.dict #[] }).objs.size) (uN (cells:=X.env.cells) (acc:=[]) hy));rw[<-RH]at e';refine⟨c',e',?_⟩;rw[RH]at e';rcases ra (bV e')with hm|⟨h1,_,_⟩
  ·exact(cm hm).1
  ·have:=ok.uniq _ h1;rw[hl]at this;cases this
 have okB:(X.Iy s H scope kS fp).Ok:=by
  refine⟨I.ok.mod,by show kS.scope.kind=_;rw[hsc];exact ok.kind,by show kS.globals=_;rw[<-Ht];exact I.ok.glob,by show kS.builtins=_;rw[<-Ht];exact I.ok.blt,by show s.heap.objs.size<=kS.locals;rw[hL];exact aQ _,
   λy z c e1 e2=>?_,λy hy=>?_,λy c z e=>?_,I.ok.hd,I.ok.frames,.inl rfl,λb hb=>⟨?_,λy c e z=>?_⟩,I.bs,bw I.ok.Rf I.sz,λb o e hb=>?_,λb hb z=>?_,I.stack,I.K6⟩
  ·have e1:kS.cells.lookup y=some c:=e1;have e2:kS.cells.lookup z=some c:=e2;rw[RH]at e1 e2;refine zf (λp hp=>?_) (λy z c a b=>I.ok.inj y z c (cm a).1 (cm b).1) (bV e1) (bV e2);rw[Heap.size_push];exact mn (cm (y:=p.1) (c:=p.2) hp).2
  ·show ∃c,kS.cells.lookup y=some c;have key:∀k,kS.kindOf y=some k->(k = .cell\/k = .free)->∃c,kS.cells.lookup y=some c:=λk hk hk'=>by
    unfold Env.kindOf at hk;rw[hsc]at hk;obtain⟨k',e,r⟩:=ub hk;have:k' = .cell\/k' = .free:=by
     rcases r with rfl|⟨rfl,_⟩
     ·exact hk'
     ·exact .inr rfl
    rcases this with rfl|rfl
    ·obtain⟨c,hm⟩:=zg (n:=(s.heap.push { cls:=.type "dict",data:=.dict #[] }).objs.size) (acc:=fF X.env.cells scope.names []) (bV e);obtain⟨c',e'⟩:=mem_lookup hm;exact⟨c',by rw[RH];exact e'⟩
    ·obtain⟨c,h1,_⟩:=look e;exact⟨c,h1⟩
   rcases hy with hy|hy
   ·exact key _ hy (.inl rfl)
   ·exact key _ hy (.inr rfl)
  ·have z:(scope.names.lookup y==some NameKind.cell)=true:=z;have z:scope.names.lookup y=some .cell:=by simpa using z
   have e:kS.cells.lookup y=some c:=e;rw[RH]at e;rcases ra (bV e)with hm|⟨_,h2,_⟩
   ·rcases qh hm with hm|⟨h1,_⟩
    ·cases hm
    ·have q:=ok.uniq _ h1;rw[z]at q;cases q
   ·rw[Heap.size_push]at h2;exact rh h2
  ·show b≠kS.locals;rw[hL];exact cI (UI b hb).2
  ·have e:kS.cells.lookup y=some c:=e;rcases mem e with⟨h1,_⟩|⟨h1,_⟩
   ·exact(UI b hb).1.2.2.2.2.1 y c h1 z
   ·have h2:s.heap.objs.size+1<=b:=by rw[<-z];exact h1
    exact absurd (bh (UI b hb).2 (rh h2)) (fQ _)
  ·rcases(UI b hb).1.2.2.2.1 with z|z
   ·exact I.ok.Pz b o e z
   ·exact absurd (bh (Heap.lt_size e) (bw I.ok.Rf z)) (fQ _)
  ·rcases ah.mp (I.IZ b z)with z|z
   ·exact(UI b hb).1.2.1 z
   ·exact(UI b hb).1.2.2.1 z
 refine⟨okB,rfl,I.bare,Un.kept kp,⟨λ_=>none,?_,λi y av e1 e2 e3=>?_⟩,λy c e=>?_,?_,λy c e=>?_,λp hp=>?_,I.df.kept kp,by rw[tM];exact I.len⟩
 ·show Heap.Ns _ kS.locals _;rw[hL];exact Heap.Ns.keeps (Heap.Ns.new ..) λb o e=>pushCells_keeps _ _ _ _ e
 ·obtain⟨e2,rm⟩:=yA e2;have Xv:scope.names.lookup y=some .free/\(kS.kindOf y=some .cell\/kS.kindOf y=some .free):=by
   have key:∀k,kS.scope.names.lookup y=some k->k = .local\/k = .cell\/k = .free->scope.names.lookup y=some .free/\(kS.kindOf y=some .cell\/kS.kindOf y=some .free):=λk hk hk'=>by
    have hk0:=hk;rw[hsc]at hk;obtain⟨k',e,r⟩:=ub hk;have no:¬(k' = .local\/k' = .cell):=λhh=>by
     rcases ok.own _ (bV e) hh with e'|e'
     ·obtain⟨p,hp,hpy⟩:=aH.mp e';have e3:=ok.ix p hp;have:p.1=y:=hpy;rw[this]at e3;exact rm (aH.mpr ⟨p,hp,Bx hN e3 e1⟩)
     ·exact e' (aI e1)
    rcases r with rfl|⟨rfl,rfl⟩
    ·rcases hk' with rfl|rfl|rfl
     ·exact absurd (.inl rfl) no
     ·exact absurd (.inr rfl) no
     ·exact⟨e,.inr hk0⟩
    ·exact⟨e,.inl hk0⟩
   have e3:XB kS.scope y:=e3;rcases e3 with e3|e3|e3
   ·exact key _ e3 (.inl rfl)
   ·exact key _ e3 (.inr (.inl rfl))
   ·exact key _ e3 (.inr (.inr rfl))
  obtain⟨m,hn,hl⟩:=I.loc;have aax:XB X.env.scope y:=(ok.free _ (bV Xv.1) rfl).elim (λk=>.inr (.inl k)) (λk=>.inr (.inr k));obtain⟨w,r,q⟩:=hl i y av e1 e2 aax;refine⟨w,r,.inr ⟨Xv.2,?_⟩⟩;obtain⟨c,h1,h2⟩:=look Xv.1;rcases q with⟨k,_⟩|⟨_,c',e',z⟩
  ·have k:X.env.scope.names.lookup y=some .local:=k;rcases ok.free _ (bV Xv.1) rfl with k'|k'<;>rw[show X.env.scope.names.lookup y=_ from k']at k<;>cases k
  ·rw[h2]at e';cases e';exact⟨c,h1,z.keeps kp⟩
 ·have e:kS.cells.lookup y=some c:=e;rcases mem e with⟨h1,_⟩|⟨_,z⟩
  ·obtain⟨w,z⟩:=I.cell y c h1;exact⟨w,z.keeps kp⟩
  ·exact⟨_,z⟩
 ·show H kS.locals=none;rw[hL];exact I.df.fresh (aQ _)
 ·have e:kS.cells.lookup y=some c:=e;rcases mem e with⟨h1,_⟩|⟨h1,_⟩
  ·exact I.qV y c h1
  ·exact I.df.fresh (rh h1)
 ·exact absurd (show p∈([]:List (Addr×Obj))++[] from hp) (by simp)
theorem WU {E:Value->Shared->Prop}{D:Addr}{xs:List V}{y:V}{v:Value}{Q:Value->Shared->Prop}(I:Inv X pins σ H s) (hD:H D=some (.lst xs)) (hz:xs.length<sizeLine) (r:RelV y v)
  (h:∀s',Inv X pins σ (upd H D (.lst (xs++[y]))) s'->Q .none s'):wpAny (model X.prog X.w) X.A (call (.builtin "list.append") [.ref D,v]) Q E s:=by
 obtain⟨hz',cC,n,ri,e⟩:=I.df D _ hD;have hl:=ri.length;refine append_at (hsz:=by rw[aZ];omega) e λh' sb N6=>?_
 refine h { s with heap:=h' } (I.write (t':=s.toks) (by rw[hD];trivial) (.inl rfl) (λb u hb q=>(sb.2 b hb).trans q) ⟨_,N6⟩ ⟨by rw[aJ];exact hz,cC++[v],n+1,ri.append (.cons r .nil),?_⟩);rw[N6];simp
def PTs (X:Cx) (ifs:List Expr) (t:TT):Prop :=
 ∀(pins:List (Addr×Obj)) (s:Shared) (σ:St) (H:Hp) (Q:Bool->Hp->Prop),Inv X pins σ H s->t σ H Q ->
  wpAny (model X.prog X.w) X.A (forIn ifs true λc r=>if r=true then do let ok <-isTrue c X.env (eval c X.env);pure (rl ok) else pure (rl r)) (TP X pins σ Q) X.xe s
def Gr:TT:=λ_ H Q=>Q true H
theorem xx:PTs X [] Gr:=λ_ _ _ H _ I h=>wpAny_tests_nil ⟨H,I,h⟩
theorem Lb {c:Expr}{t:TT}(h:PT X c t):PTs X [c] t:=λpins s σ H Q I hw=>wpAny_tests_one (h pins s σ H Q I hw)
end
theorem Ml {α:Type}{t:Sem α}{Q Q':α->Shared->Prop}{M:Model}{A:Around}{E:Value->Shared->Prop}{s:Shared}(h:wpAny M A t Q (λ_ _=>False) s) (hQ:∀a s,Q a s->Q' a s):wpAny M A t Q' E s:=wpAny_mono h hQ λ_ _ z=>dB z
theorem FG {prog:Program}{w:World}{A:Around}{R:Result->Shared->Prop}{s:Shared}{elt target iter:Expr}{ifs:List Expr}{scope:Scope}{pos:Pos}{it acc:Value}{env:Env}(I:Nat->Shared->Prop)
  (turn:∀n s,I n s->wpAny (model prog w) A (pyNext it) (λr cV=>match r with
   | none=>R (.ok .next) cV
   | some v=>wpAny (model prog w) A (letOwnedTupleGo target it v) (λ_ Uq=>wpAny (model prog w) A (assign target env v) (λ_ mq =>
     wpAny (model prog w) A (forIn ifs true λc r=>if r=true then do let ok <-isTrue c env (eval c env);pure (rl ok) else pure (rl r)) (λok Gy =>
      if ok=true then wpAny (model prog w) A (eval elt env) (λx X9 =>
       wpAny (model prog w) A (call (.builtin "list.append") [acc,x]) (λ_ X8=>∃m,m<n/\I m X8) (notedBy (model prog w) A env λe s'=>R (.error e) s') X9) (notedBy (model prog w) A env λe s'=>R (.error e) s') Gy
      else ∃m,m<n/\I m Gy) (notedBy (model prog w) A env λe s'=>R (.error e) s') mq) (notedBy (model prog w) A env λe s'=>R (.error e) s') Uq) (notedBy (model prog w) A env λe s'=>R (.error e) s') cV) (notedBy (model prog w) A env λe s'=>R (.error e) s') s)
  (n:Nat) (h:I n s) :
  codeAny (model prog w) A (.compLoop (.ListComp elt [⟨target,iter,ifs,0⟩] scope pos) 0 it acc env) R s:=by
 refine codeAny_loop rfl I (λn s hI=>?_) n h;show wpAny _ A ((compTurn (.ListComp elt [⟨target,iter,ifs,0⟩] scope pos) 0 it acc env).onRaise (λx=>do noteFrame x env;theTreesLotGoes x)) _ _ s;refine wpAny_noted ?_;rw[compTurn_list];refine wpAny_bind (wpAny_standAt (wpAny_bind (wpAny_mono (turn n s hI) (λr cV Hj=>?_) λ_ _ h'=>h')));cases r with
 | none=>exact wpAny_pure Hj
 | some v =>
  refine wpAny_bind (wpAny_mono Hj (λ_ Uq YH=>?_) λ_ _ h'=>h');refine wpAny_bind (wpAny_mono YH (λ_ mq Qs=>wpAny_bind (wpAny_mono Qs (λok Gy Tf=>?_) λ_ _ h'=>h')) λ_ _ h'=>h');cases ok with
  | false=>exact wpAny_pure ⟨rfl,Tf⟩
  | true =>
   exact wpAny_bind (wpAny_bind (wpAny_mono Tf (λx X9 aav=>wpAny_bind (wpAny_mono aav (λ_ X8 aau=>wpAny_pure (wpAny_pure ⟨rfl,aau⟩)) λ_ _ h'=>h')) λ_ _ h'=>h'))
section
variable {X:Cx}
def tLc (wi:TI) (g:TG) (tt:TT) (te:TE) (vs:List Nat):TE:=λσ H Q=>wi σ H λJ H1=>∀D,H1 D=none->∃W:Nat->Nat->Hp->Prop,(∃m,W 0 m (upd H1 D (.lst [])))/\∀i m H,W i m H ->
 (J.stop i H/\Q (.ref D) H)\/(J.go i H/\∃Nx:Hp->Prop,(∀H',Nx H'->∃m',m'<m/\W (i+1) m' H')/\∀x H',J.Uk i H x H'->g x (wipe σ vs) H' λoj H2=>wipe oj vs=wipe σ vs/\tt oj H2 λb H3 =>
  if b=true then te oj H3 λy H4=>∃acc,H4 D=some (.lst acc)/\acc.length<sizeLine/\Nx (upd H4 D (.lst (acc++[y]))) else Nx H3)
theorem S8 {pins:List (Addr×Obj)}{s:Shared}{σ:St}{H:Hp}{Q:VK}{elt tg iter:Expr}{ifs:List Expr}{scope:Scope}{own:List (Str×Nat)}{pos pos':Pos}{wi:TI}{g:TG}{tt:TT}{te:TE}{use:Option (Value->Sem Unit)}{Qf:Value->Shared->Prop}
  (hc:X.calm=true) (hN:X.N.Nodup) (I:Inv X pins σ H s) (hi:PI X tg iter wi) (ok:LY X.N X.env.scope scope own)
  (hg:∀(s:Shared) (H:Hp) (C:Addr) (cl:List (Str×Addr)) (fp:List Addr),PG (X.Iy s H scope (compEnvC scope cl C X.env) fp) tg g) (ht:∀(s:Shared) (H:Hp) (C:Addr) (cl:List (Str×Addr)) (fp:List Addr),PTs (X.Iy s H scope (compEnvC scope cl C X.env) fp) ifs tt)
  (he:∀(s:Shared) (H:Hp) (C:Addr) (cl:List (Str×Addr)) (fp:List Addr),PE (X.Iy s H scope (compEnvC scope cl C X.env) fp) elt te) (hs:∀x,foldedSetIterable iter X.env x=pure x)
  (h:tLc wi g tt te (own.map (·.2)) σ H Q)
  (hRR:∀D C s' m H',Inv X pins σ H' s'->Q (.ref D) H'->s'.heap.Ns C m->zt X pins H' C->compPost (model X.prog X.w) X.A X.xe use Qf (.ref D) C (.ok .next) s') :
  wpAny (model X.prog X.w) X.A (comprehension (.ListComp elt [⟨tg,iter,ifs,0⟩] scope pos) scope X.env pos' (newList []) false (eval iter X.env) use) Qf X.xe s:=by
 have DL:∀y∈scope.names,y.2 = .free->∃c,X.env.cells.lookup y.1=some c:=λy hy e=>by
  rcases ok.free y hy e with k|k
  ·exact I.ok.has _ (.inl k)
  ·exact I.ok.has _ (.inr k)
 refine wpAny_comprehension_free (use:=use) rfl hs (Kp DL) ok.kind (λy hy e=>by rw[ok.uniq y hy,e])
  (fu (hi pins s σ H _ I h) λxv s1 hx=>fu hx λitv s2 h2=>?_)
 obtain⟨it,fp,tn,J,H2,e,I2,T,Xf,f2,q⟩:=h2;subst e;refine wpAny_newObj_type (G9 ?_) (by show 0<=sizeLine;decide);generalize hD:s2.heap.objs.size=D;have hDn:H2 D=none:=I2.df.fresh (tI hD);obtain⟨W,⟨m0,w0⟩,turn⟩:=q D hDn;generalize hs3:({ s2 with heap:=s2.heap.push { cls:=.type "list",data:=.seq ([]:List Value).toArray } }:Shared)=s3;have I3:Inv X pins σ (upd H2 D (.lst [])) s3:=by
  rw[<-hs3];refine I2.laid (t':=s2.toks) (λb o e=>Heap.get?_push_of_some _ e) (tI hD) ⟨ck _,[],0,.nil,?_⟩;rw[<-hD];exact Heap.get?_push_size _ rfl
 have h3:s3.heap=s2.heap.push { cls:=.type "list",data:=.seq ([]:List Value).toArray }:=by rw[<-hs3]
 have sz:∀b∈fp,b<s2.heap.objs.size:=λb hb=>by
  obtain⟨o,e,_⟩:=T.obj _ _ Xf b hb;exact Heap.lt_size e
 have f3:∀b∈fp,zt X pins (upd H2 D (.lst [])) b/\b<s3.heap.objs.size:=λb hb=>by
  have hX:=sz b hb;refine⟨⟨?_,(f2 b hb).2⟩,by rw[h3,Heap.size_push];exact mn hX⟩;rw[cv (by rw[<-hD];exact cI hX)];exact(f2 b hb).1
 have st3:tn 0 s3.heap:=T.keep _ _ _ Xf λb _ o e=>by rw[h3];exact Heap.get?_push_of_some _ e
 have I4:=HY I3 ok hN f3;have pg:=hg s3 (upd H2 D (.lst [])) s3.heap.objs.size (cellsFrom (s3.heap.objs.size+1) scope.names (fF X.env.cells scope.names [])) fp;have pt:=ht s3 (upd H2 D (.lst [])) s3.heap.objs.size (cellsFrom (s3.heap.objs.size+1) scope.names (fF X.env.cells scope.names [])) fp;have pe:=he s3 (upd H2 D (.lst [])) s3.heap.objs.size (cellsFrom (s3.heap.objs.size+1) scope.names (fF X.env.cells scope.names [])) fp;show codeAny _ _ (.compStart (.ListComp elt [⟨tg,iter,ifs,0⟩] scope pos) 0 (.ref it) (.ref D) (compEnvC scope (cellsFrom (s3.heap.objs.size+1) scope.names (fF X.env.cells scope.names [])) s3.heap.objs.size X.env)) (compPost (model X.prog X.w) X.A X.xe use Qf (.ref D) s3.heap.objs.size) { s3 with heap:=pushCells (s3.heap.push { cls:=.type "dict",data:=.dict #[] }) scope.names };have nfp:∀b∈fp,(upd H2 D (.lst [])) b=none:=λb hb=>(f3 b hb).1.1
 generalize hce:compEnvC scope (cellsFrom (s3.heap.objs.size+1) scope.names (fF X.env.cells scope.names [])) s3.heap.objs.size X.env=ce at I4 pg pt pe⊢;have cL:ce.locals=s3.heap.objs.size:=by subst hce;rfl
 generalize hH3:upd H2 D (.lst [])=H3 at I3 I4 pg pt pe w0 nfp f3;generalize hs4:({ s3 with heap:=pushCells (s3.heap.push { cls:=.type "dict",data:=.dict #[] }) scope.names }:Shared)=s4 at I4⊢;have st4:tn 0 s4.heap:=T.keep _ _ _ st3 λb _ o e=>by rw[<-hs4];exact pushCells_keeps _ _ _ _ (Heap.get?_push_of_some _ e)
 have Jb:∀{fK:St}{H':Hp}{s':Shared},Inv (X.Iy s3 H3 scope ce fp) [] fK H' s'->(∀b∈fp,H' b=none)->∀b∈fp,zt (X.Iy s3 H3 scope ce fp) [] H' b:=λ{fK H' s'} I' hn b hb =>
  ⟨hn b hb,(I'.ok.exf b hb).1,I'.ok.Q1 b hb,.inl hb,λx c e=>(I'.ok.exf b hb).2 x c e,λp hp=>absurd (show p∈([]:List (Addr×Obj))++[] from hp) (by simp)⟩
 have loop:codeAny (model X.prog X.w) X.A (.compLoop (.ListComp elt [⟨tg,iter,ifs,0⟩] scope pos) 0 (.ref it) (.ref D) ce) (compPost (model X.prog X.w) X.A X.xe use Qf (.ref D) s3.heap.objs.size) s4:=by
  refine FG (λn s'=>∃i H',Inv (X.Iy s3 H3 scope ce fp) [] (wipe σ (own.map (·.2))) H' s'/\tn i s'.heap/\(∀b∈fp,H' b=none)/\W i n H') ?_ m0 ⟨0,H3,I4,st4,nfp,w0⟩;rintro n s5 ⟨i,H5,I5,Xe,n5,w5⟩;rcases turn i n H5 w5 with⟨stop,qq⟩|⟨go,Nx,hNx,step⟩
  ·have td:=T.done (X.Iy s3 H3 scope ce fp) rfl rfl rfl hc i [] s5 _ H5 (λ_ _=>False) I5 (Jb I5 n5) Xe stop;refine Ml td λr s6 ⟨hr,I6⟩=>?_
   subst hr;have I7:Inv X pins σ H5 s6:=I3.Zv (ch:=fp) I6.os I6.base I6.df I6.bare λb hb=>⟨(f3 b hb).1.2.2.2.1,(f3 b hb).1.2.1,(f3 b hb).1.2.2.2.2.1,(f3 b hb).1.2.2.2.2.2⟩
   have nC:H5 s3.heap.objs.size=none:=by
    have z:H5 ce.locals=none:=I6.free;rw[cL]at z;exact z
   obtain⟨m,hn,_⟩:=I6.loc;have hn:s6.heap.Ns ce.locals m:=hn;rw[cL]at hn;exact hRR D s3.heap.objs.size s6 m H5 I7 qq hn (I3.Ki (aQ _) nC)
  ·have ti:=T.item (X.Iy s3 H3 scope ce fp) rfl rfl rfl hc i [] s5 _ H5 (λ_ _=>False) I5 (Jb I5 n5) Xe go;refine Ml ti λr s6 ⟨u,hr,h6⟩=>?_
   subst hr;refine Ml h6 λ_ s7 ⟨x,H7,I7,r7,y7,st7,n7⟩=>?_
   have I7':=I7.pinned (Jb I7 n7) (T.obj _ _ st7);refine Ml (pg _ s7 _ H7 x u _ I7' r7 (step x H7 y7)) λ_ s8 ⟨Z4,H8,I8,hw8,q8⟩=>?_
   refine Ml (pt _ s8 Z4 H8 _ I8 q8) λb s9 ⟨H9,I9,q9⟩=>?_
   have fin:∀{s':Shared}{H':Hp},Inv (X.Iy s3 H3 scope ce fp) ([]++Bn fp s7.heap) Z4 H' s'->Nx H'->∃m,m<n/\∃i H',Inv (X.Iy s3 H3 scope ce fp) [] (wipe σ (own.map (·.2))) H' s'/\tn i s'.heap/\(∀b∈fp,H' b=none)/\W i m H':=λ{s' H'} I' nx=>by
    obtain⟨m',hm,w'⟩:=hNx H' nx;have Yl:∀b∈fp,∀o,s7.heap.get? b=some o->s'.heap.get? b=some o/\H' b=none:=λb hb o e =>
     let z:=I'.pin (b,o) (cg _ (cg _ (wz hb e)))
     ⟨z.1,z.2.1⟩
    have hl:(wipe σ (own.map (·.2))).length=Z4.length:=by rw[<-hw8,tM]
    refine⟨m',hm,i+1,H',(I'.xi (pins:=[])).weak hl (λj v e=>?_),T.keep _ _ _ st7 λb hb o e=>(Yl b hb o e).1,λb hb=>?_,w'⟩
    ·rw[<-hw8]at e;exact(yA e).1
    ·obtain⟨o,e,_⟩:=T.obj _ _ st7 b hb;exact(Yl b hb o e).2
   cases b with
   | false =>
    simp only[aE,if_false]at q9⊢;exact fin I9 q9
   | true =>
    simp only[if_true]at q9⊢;refine Ml (pe _ s9 Z4 H9 _ I9 q9) λz s10 ⟨yv,H10,I10,r10,acc,aaV,aaw,nx⟩=>?_
    exact WU (X:=X.Iy s3 H3 scope ce fp) I10 aaV aaw r10 λs11 I11=>fin I11 nx
 exact codeAny_compStart_list loop (T.self X.A 0 _ _ _ st4 loop)
theorem Bp {elt tg iter:Expr}{ifs:List Expr}{scope:Scope}{own:List (Str×Nat)}{pos:Pos}{wi:TI}{g:TG}{tt:TT}{te:TE}(hc:X.calm=true) (hN:X.N.Nodup) (hi:PI X tg iter wi) (ok:LY X.N X.env.scope scope own)
  (hg:∀(s:Shared) (H:Hp) (C:Addr) (cl:List (Str×Addr)) (fp:List Addr),PG (X.Iy s H scope (compEnvC scope cl C X.env) fp) tg g) (ht:∀(s:Shared) (H:Hp) (C:Addr) (cl:List (Str×Addr)) (fp:List Addr),PTs (X.Iy s H scope (compEnvC scope cl C X.env) fp) ifs tt)
  (he:∀(s:Shared) (H:Hp) (C:Addr) (cl:List (Str×Addr)) (fp:List Addr),PE (X.Iy s H scope (compEnvC scope cl C X.env) fp) elt te) (hs:∀x,foldedSetIterable iter X.env x=pure x:=by intro _;rfl) :
  PE X (.ListComp elt [⟨tg,iter,ifs,0⟩] scope pos) (tLc wi g tt te (own.map (·.2))):=by
 intro pins s σ H Q I h;rw[eval_ListComp];refine S8 hc hN I hi ok hg ht he hs h λD C s' m H' I' q hn f=>⟨m,hn,λUQ sb=>?_⟩
 obtain⟨f0,f1,f2,f3,f4,f5⟩:=f;exact⟨.ref D,H',I'.turned (t':=s'.toks) (λb o hb e=>(sb.2 b hb).trans e) f0 f1 f3 f4 f5,rfl,q⟩
end
def Zx (N:List Str) (sc scope:Scope) (own:List (Str×Nat)):Bool :=
 (match scope.kind with | .function=>true|_=>false)&&(scope.names.all λy=>decide (scope.names.lookup y.1=some y.2))&&(own.all λp=>decide (N[p.2]?=some p.1)) &&
  (scope.names.all λy=>match y.2 with
   | .free=>(match sc.names.lookup y.1 with|some .cell=>true|some .free=>true|_=>false)
   | .local=>decide (y.1∈own.map (·.1))||decide (y.1∉N)
   | .cell=>decide (y.1∈own.map (·.1))||decide (y.1∉N)
   | _=>true)
theorem pN {N:List Str}{sc scope:Scope}{own:List (Str×Nat)}(h:Zx N sc scope own=true):LY N sc scope own:=by
 unfold Zx at h;simp only[aU,bC,decide_eq_true_eq]at h;obtain⟨⟨⟨h1,h2⟩,h3⟩,h4⟩:=h;refine⟨?_,h2,h3,λy hy e=>?_,λy hy e=>?_⟩
 ·split at h1
  ·assumption
  ·cases h1
 ·have q:=h4 y hy;simp only[e]at q
  split at q<;>first|exact .inl (by assumption)|exact .inr (by assumption)|cases q
 ·have q:=h4 y hy;rcases e with e|e<;>(simp only[e,fZ,decide_eq_true_eq]at q;exact q)
end L2
namespace L2
open PySem PySem.Spec PyProof.Rows
section
variable {κ:Type}[DecidableEq κ]
def eQ (bD:List (κ×V)) (k:κ):Option V:=(bD.find? λkv=>decide (kv.1=k)).map (·.2)
def putK (bD:List (κ×V)) (k:κ) (v:V):List (κ×V) :=
 if (bD.any λkv=>decide (kv.1=k))=true then bD.map (λkv=>if kv.1=k then(kv.1,v) else kv) else bD++[(k,v)]
theorem AX {p:κ×V}{r:List (κ×V)}{k:κ}(e:p.1=k):eQ (p::r) k=some p.2:=by simp[eQ,fo,e]
theorem AY {p:κ×V}{r:List (κ×V)}{k:κ}(e:¬p.1=k):eQ (p::r) k=eQ r k:=by simp[eQ,fo,e]
theorem xh (k:κ):∀bD:List (κ×V),(bD.any λkv=>decide (kv.1=k))=(eQ bD k).isSome
 | []=>rfl
 | p::r=>by
  rw[jg];by_cases e:p.1=k
  ·simp only[AX e,decide_eq_true e,Iq,pP]
  ·rw[AY e,decide_eq_false e,jh];exact xh k r
theorem ue (bD:List (κ×V)) (k:κ) (v:V):(putK bD k v).length<=bD.length+1:=by
 unfold putK
 split
 ·rw[ax];omega
 ·rw[aJ,ay,bI];omega
theorem m7 {bD:List (κ×V)}{k:κ}(v:V) (h:eQ bD k=none):putK bD k v=bD++[(k,v)]:=by
 unfold putK;rw[xh,h];exact if_neg (by decide)
theorem tE.qT {o:Option V}{u:Option Value}(r:tE o u):o.isSome=u.isSome:=by
 cases o with
 | none=>cases u with
  | none=>rfl
  | some _=>exact(show False from r).elim
 | some _=>cases u with
  | none=>exact(show False from r).elim
  | some _=>rfl
theorem tE.getD {o:Option V}{u:Option Value}{d:V}{d':Value}(r:tE o u) (rd:RelV d d'):RelV (o.getD d) (u.getD d'):=by
 cases o with
 | none=>cases u with
  | none=>exact rd
  | some _=>exact(show False from r).elim
 | some _=>cases u with
  | none=>exact(show False from r).elim
  | some _=>exact r
theorem KV.val {bD:List (κ×V)}{vs:List (κ×Value)}(r:KV bD vs) (k:κ):tE (eQ bD k) (valueAt vs k):=by
 unfold KV at r
 induction r with
 | nil=>exact jP
 | @cons p q ps qs h t ih =>
  obtain⟨h1,h2⟩:=h;by_cases e:p.1=k
  ·have e':q.1=k:=h1.symm.trans e;have b:valueAt (q::qs) k=some q.2:=by simp[valueAt,fo,e']
   rw[AX e,b];exact h2
  ·have e':¬q.1=k:=λz=>e (h1.trans z)
   have b:valueAt (q::qs) k=valueAt qs k:=by simp[valueAt,fo,e']
   rw[AY e,b];exact ih
theorem KV.any {bD:List (κ×V)}{vs:List (κ×Value)}(r:KV bD vs) (k:κ):(bD.any λkv=>decide (kv.1=k))=vs.any λkv=>decide (kv.1=k):=by
 unfold KV at r
 induction r with
 | nil=>rfl
 | cons h t ih=>rw[jg,jg,ih,h.1]
theorem KV.Vs {bD:List (κ×V)}{vs:List (κ×Value)}(r:KV bD vs) (k:κ){y:V}{u:Value}(ry:RelV y u) :
  KV (bD.map λkv=>if kv.1=k then(kv.1,y) else kv) (vs.map λkv=>if kv.1=k then(kv.1,u) else kv):=by
 unfold KV at r⊢
 induction r with
 | nil=>exact .nil
 | @cons p q ps qs h t ih =>
  rw[aP,aP];refine .cons ?_ ih;obtain⟨h1,h2⟩:=h;by_cases e:p.1=k
  ·rw[if_pos e,if_pos (h1.symm.trans e)];exact⟨h1,ry⟩
  ·rw[if_neg e,if_neg (λz=>e (h1.trans z))];exact⟨h1,h2⟩
theorem KV.put {bD:List (κ×V)}{vs:List (κ×Value)}(r:KV bD vs) (k:κ){y:V}{u:Value}(ry:RelV y u):KV (putK bD k y) (stored vs k u):=by
 unfold putK stored;rw[r.any k];by_cases e:(vs.any λkv=>decide (kv.1=k))=true
 ·rw[if_pos e,if_pos e];exact r.Vs k ry
 ·rw[if_neg e,if_neg e];exact Paired.snoc r ⟨rfl,ry⟩
theorem KV.length {bD:List (κ×V)}{vs:List (κ×Value)}(r:KV bD vs):bD.length=vs.length:=Paired.length r
end
theorem zK {P:Program}{w:World}{k:Key}{u:Value}(r:RelV (kV k) u):(gc P w).is k u=true:=by
 cases k with
 | inl i=>obtain⟨t,e⟩:=(show ∃t,u=Value.int i t from r);subst e;exact He P w i t
 | inr x=>obtain⟨t,e⟩:=(show ∃t,u=Value.str x t from r);subst e;exact Hd P w x t
theorem DJ {P:Program}{w:World}:∀{ks:List Key}{us:List Value},Vals (ks.map kV) us->ItemsAre (gc P w) ks us
 | [],_,r=>by rw[cn]at r;cases r;exact .nil
 | k::ks,_,r=>by
  rw[aP]at r;cases r with
  | cons h t=>exact .cons (zK h) (DJ t)
abbrev KT (H:Hp):List (List Key×V)->List (List Key×Addr×Value)->Prop:=Paired λp q=>p.1=q.1/\H q.2.1=some (.tup (p.1.map kV))/\RelV p.2 q.2.2
theorem KT.val {H:Hp}{bD:List (List Key×V)}{xs:List (List Key×Addr×Value)}(r:KT H bD xs) (k:List Key):tE (eQ bD k) ((atKey xs k).map (·.2)):=by
 induction r with
 | nil=>exact jP
 | @cons p q ps qs h t ih =>
  obtain⟨h1,_,h2⟩:=h;by_cases e:p.1=k
  ·have e':q.1=k:=h1.symm.trans e;have b:atKey (q::qs) k=some q.2:=by simp[atKey,fo,e']
   rw[AX e,b];exact h2
  ·have e':¬q.1=k:=λz=>e (h1.trans z)
   have b:atKey (q::qs) k=atKey qs k:=by simp[atKey,fo,e']
   rw[AY e,b];exact ih
theorem KT.Vs {H:Hp}{bD:List (List Key×V)}{xs:List (List Key×Addr×Value)}(r:KT H bD xs) (k:List Key){y:V}{u:Value}(ry:RelV y u) :
  KT H (bD.map λkv=>if kv.1=k then(kv.1,y) else kv) (xs.map (putAt k u)):=by
 induction r with
 | nil=>exact .nil
 | @cons p q ps qs h t ih =>
  rw[aP,aP];refine .cons ?_ ih;obtain⟨h1,h2,h3⟩:=h;unfold putAt;by_cases e:p.1=k
  ·rw[if_pos e,if_pos (h1.symm.trans e)];exact⟨h1,h2,ry⟩
  ·rw[if_neg e,if_neg (λz=>e (h1.trans z))];exact⟨h1,h2,h3⟩
theorem KT.put {H:Hp}{bD:List (List Key×V)}{xs:List (List Key×Addr×Value)}(r:KT H bD xs) (k:List Key){b:Addr}{y:V}{u:Value}(hb:H b=some (.tup (k.map kV))) (ry:RelV y u) :
  KT H (putK bD k y) (storedH xs k b u):=by
 have e:(bD.any λkv=>decide (kv.1=k))=(atKey xs k).isSome:=by
  rw[xh,(r.val k).qT,yq]
 unfold putK storedH;rw[e];by_cases q:(atKey xs k).isSome=true
 ·rw[if_pos q,if_pos q];exact r.Vs k ry
 ·rw[if_neg q,if_neg q];exact Paired.snoc r ⟨rfl,hb,ry⟩
theorem KT.keeps {H H':Hp}{bD:List (List Key×V)}{xs:List (List Key×Addr×Value)}(r:KT H bD xs) (ht:∀b ys,H b=some (.tup ys)->H' b=some (.tup ys)):KT H' bD xs :=
 Paired.VO r λ_ _ z=>⟨z.1,ht _ _ z.2.1,z.2.2⟩
section
variable {P:Program}{w:World}{H:Hp}{h:Heap}{a:Addr}
theorem Us {u:HO}(ok:tF P w H h) (e:Rd H a u):gB P w H h a u:=e.ok ok
theorem z9 {bD:List (Key×V)}(ok:tF P w H h) (e:Rd H a (.dK bD)):bD.length<=sizeLine/\(a==sysModules)=false/\∃vs,KV bD vs/\h.DictOf (gc P w) a vs :=
 show gB P w H h a (.dK bD) from Us ok e
theorem HB {bD:List (Key×V)}(ok:tF P w H h) (e:H a=some (.dK bD)):bD.length<=sizeLine/\(a==sysModules)=false/\∃vs,KV bD vs/\h.DictOf (gc P w) a vs:=z9 ok (.inl e)
theorem yX {ks:List Key}(ok:tF P w H h) (e:H a=some (.tup (ks.map kV))):(tupleKind (gc P w)).is h ks a:=by
 obtain⟨_,cC,r,o,h1,h2,n,h3⟩:=(show gB P w H h a (.tup (ks.map kV)) from ok a _ e);exact⟨o,cC.toArray,n,h1,h2,h3,by simpa using DJ r⟩
theorem B4 {bD:List (List Key×V)}(ok:tF P w H h) (e:Rd H a (.dT bD)):bD.length<=sizeLine/\(a==sysModules)=false /\
  ∃xs,KT H bD xs/\h.DictOfH (tupleKind (gc P w)) a xs:=by
 obtain⟨z,y,xs,r,o,es,ep,h1,h2,h3,h4,h5⟩:=(show gB P w H h a (.dT bD) from Us ok e);refine⟨z,y,xs,r,o,es,ep,h1,h2,h3,h4,λx hx=>?_,h5⟩;have all:∀{l:List (List Key×V)}{m:List (List Key×Addr×Value)},KT H l m->∀x∈m,(tupleKind (gc P w)).is h x.1 x.2.1:=by
  intro l m q
  induction q with
  | nil=>intro x hx;exact nomatch hx
  | @cons p q ps qs hq t ih =>
   intro x hx;rcases ah.mp hx with e|hx
   ·subst e;exact yX ok (by rw[<-hq.1];exact hq.2.1)
   ·exact ih x hx
 exact all r x hx
theorem Zq {bD:List (List Key×V)}(ok:tF P w H h) (e:H a=some (.dT bD)):bD.length<=sizeLine/\(a==sysModules)=false /\
  ∃xs,KT H bD xs/\h.DictOfH (tupleKind (gc P w)) a xs:=B4 ok (.inl e)
end
def yp (H:Hp) (a:Addr) (y:V) (r:Option V):Prop :=
 (∃bD k,Rd H a (.dK bD)/\y=kV k/\r=eQ bD k)\/∃bD k b,Rd H a (.dT bD)/\y = .ref b/\H b=some (.tup (k.map kV))/\r=eQ bD k
def Rq (H:Hp) (a:Addr) (y v:V) (H':Hp):Prop :=
 (∃bD k,H a=some (.dK bD)/\y=kV k/\bD.length<sizeLine/\H'=upd H a (.dK (putK bD k v))) \/
 ∃bD k b,H a=some (.dT bD)/\y = .ref b/\H b=some (.tup (k.map kV))/\bD.length<sizeLine/\H'=upd H a (.dT (putK bD k v))
theorem yp.k {H:Hp}{a:Addr}{bD:List (Key×V)}{k:Key}(e:H a=some (.dK bD)):yp H a (kV k) (eQ bD k):=.inl ⟨bD,k,.inl e,rfl,rfl⟩
theorem Rq.k {H:Hp}{a:Addr}{bD:List (Key×V)}{k:Key}{v:V}(e:H a=some (.dK bD)) (hl:bD.length<sizeLine):Rq H a (kV k) v (upd H a (.dK (putK bD k v))):=.inl ⟨bD,k,e,rfl,hl,rfl⟩
section
variable {X:Cx}{pins:List (Addr×Obj)}{σ:St}{H:Hp}{s:Shared}{a:Addr}{y v:V}{u r:Value}{o:Option V}{A:Around}{E:Value->Shared->Prop}
theorem Inv.big (I:Inv X pins σ H s):sysModules<s.heap.objs.size:=by
 have h:mainGlobals<s.heap.objs.size:=(I.mod.glob.keeps I.bk).lt;exact XU (by decide) h
theorem Nw {Q:Value->Shared->Prop}(hu:A.units+1<cLine) (I:Inv X pins σ H s) (g:yp H a y (some v)) (ry:RelV y u) (h:∀w' s',Inv X pins σ H s'->RelV v w'->Q w' s') :
  wpAny (model X.prog X.w) A (getItem (.ref a) u) Q E s:=by
 rcases g with⟨bD,k,e,ey,l⟩|⟨bD,k,b,e,ey,eb,l⟩
 ·subst ey;obtain⟨z,hd,vs,rel,dd⟩:=z9 I.df e;obtain⟨w',hw,MG⟩:=tE.some_of (v:=v) (o:=valueAt vs k) (by rw[l];exact rel.val k);exact wpAny_getItem_of (zK ry) dd.mapOf hw (h w' _ (I.tok _) MG)
 ·subst ey;cases (show u=Value.ref b from ry);obtain⟨z,hd,xs,rel,dd⟩:=B4 I.df e;obtain⟨w',hw,MG⟩:=tE.some_of (v:=v) (o:=(atKey xs k).map (·.2)) (by rw[l];exact rel.val k);obtain⟨p,hp,Ka⟩:=F4.mp hw;refine wpAny_getItem_heap (tupleKind_room_in1 hu) (yX I.df eb) dd hp ?_;rw[Ka];exact h w' _ (I.tok _) MG
theorem aaZ {Q:Value->Shared->Prop}(hu:A.units+1<cLine) (I:Inv X pins σ H s) (g:yp H a y o) (ry:RelV y u) (h:∀s',Inv X pins σ H s'->Q (.bool o.isSome) s') :
  wpAny (model X.prog X.w) A (compareOp .In u (.ref a)) Q E s:=by
 rcases g with⟨bD,k,e,ey,l⟩|⟨bD,k,b,e,ey,eb,l⟩
 ·subst ey;obtain⟨z,hd,vs,rel,dd⟩:=z9 I.df e;refine wpAny_in_of (zK ry) hd dd.mapOf ?_;rw[<-(rel.val k).qT,<-l];exact h _ (I.tok _)
 ·subst ey;cases (show u=Value.ref b from ry);obtain⟨z,hd,xs,rel,dd⟩:=B4 I.df e;refine wpAny_in_heap (tupleKind_room_in1 hu) (yX I.df eb) hd dd ?_;have q:=(rel.val k).qT;rw[yq]at q;rw[<-q,<-l];exact h _ (I.tok _)
theorem TY {Q:Value->Shared->Prop}(hu:A.units+1<cLine) (I:Inv X pins σ H s) (g:yp H a y o) (ry:RelV y u) (h:∀s',Inv X pins σ H s'->Q (.bool (!o.isSome)) s') :
  wpAny (model X.prog X.w) A (compareOp .NotIn u (.ref a)) Q E s:=by
 rcases g with⟨bD,k,e,ey,l⟩|⟨bD,k,b,e,ey,eb,l⟩
 ·subst ey;obtain⟨z,hd,vs,rel,dd⟩:=z9 I.df e;refine wpAny_notIn_of (zK ry) hd dd.mapOf ?_;rw[<-(rel.val k).qT,<-l];exact h _ (I.tok _)
 ·subst ey;cases (show u=Value.ref b from ry);obtain⟨z,hd,xs,rel,dd⟩:=B4 I.df e;refine wpAny_notIn_heap (tupleKind_room_in1 hu) (yX I.df eb) hd dd ?_;have q:=(rel.val k).qT;rw[yq]at q;rw[<-q,<-l];exact h _ (I.tok _)
theorem AO {h':Heap}{t':Nat}{ob:HO}(I:Inv X pins σ H s) (mu:UW (H a)) (hs:Heap.SameBut a s.heap h') (he:∃q,h'.get? a=some q) (new:gB X.prog X.w (upd H a ob) h' a ob) :
  Inv X pins σ (upd H a ob) { s with heap:=h',toks:=t' } :=
 I.write (x:=a) (e:=a) mu (.inl rfl) (λb q hb z=>(hs.2 b hb).trans z) he new
theorem Kn {P:Program}{w:World}{H':Hp}{h':Heap}{bD:List (Key×V)}{vs:List (Key×Value)}(z:bD.length<=sizeLine) (hd:(a==sysModules)=false) (rel:KV bD vs) (dd:h'.DictOf (gc P w) a vs) :
  gB P w H' h' a (.dK bD):=⟨z,hd,vs,rel,dd⟩
theorem Nv {H':Hp}{Q:Unit->Shared->Prop}(hu:A.units+1<cLine) (I:Inv X pins σ H s) (g:Rq H a y v H') (ry:RelV y u) (rv:RelV v r) (h:∀s',Inv X pins σ H' s'->Q () s') :
  wpAny (model X.prog X.w) A (setItem (.ref a) u r) Q E s:=by
 rcases g with⟨bD,k,e,ey,l,eH⟩|⟨bD,k,b,e,ey,eb,l,eH⟩
 ·subst ey eH;obtain⟨z,hd,vs,rel,dd⟩:=HB I.df e;have hz:vs.length<=sizeLine:=by rw[<-rel.length];exact z
  have hl:(putK bD k v).length<=sizeLine:=by have:=ue bD k v;omega
  refine wpAny_setItem_pairs (hsz:=hz) (zK ry) dd λh' RQ hs=>h _ ?_
  have he:∃q,h'.get? a=some q:=let ⟨q,_,_,hq,_⟩:=RQ;⟨q,hq⟩;exact AO I (by rw[e];exact jP) hs he (Kn hl hd (rel.put k rv) RQ)
 ·subst ey eH;cases (show u=Value.ref b from ry);obtain⟨z,hd,xs,rel,dd⟩:=Zq I.df e;have hz:xs.length<=sizeLine:=by rw[<-Paired.length rel];exact z
  have hl:(putK bD k v).length<=sizeLine:=by have:=ue bD k v;omega
  refine wpAny_setItem_heap (hsz:=hz) (tupleKind_room_in1 hu) (yX I.df eb) dd λh' RQ hs=>h _ ?_
  obtain⟨q,es,ep,hq,h2,h3,h4,_,h5⟩:=RQ;refine AO I (by rw[e];exact jP) hs ⟨q,hq⟩ ⟨hl,hd,_,(rel.put k eb rv).keeps λc ys ec=>?_,q,es,ep,hq,h2,h3,h4,h5⟩;rw[cv (aK ec e (λz=>nomatch z))];exact ec
end
section
variable {X:Cx}{pins:List (Addr×Obj)}{σ:St}{H:Hp}{s:Shared}{a:Addr}{bD:List (Key×V)}{k:Key}{u:Value}{A:Around}{E:Value->Shared->Prop}
theorem Zr {Q:Value->Shared->Prop}(I:Inv X pins σ H s) (e:Rd H a (.dK bD)) (h:∀t s',Inv X pins σ H s'->Q (.int bD.length t) s'):wpAny (model X.prog X.w) A (call (.builtin "len") [.ref a]) Q E s:=by
 obtain⟨z,hd,vs,rel,dd⟩:=z9 I.df e;refine call_len_dict hd dd (by rw[<-rel.length];rw[sizeLine_eq]at z;omega) ?_;rw[<-rel.length];exact h _ _ (I.tok _)
end
def WZ (i:Expr):Prop:=∀ov iv,subscripted i false ov iv=operate [ov,iv] (getItem ov iv)
theorem Se {prog:Program}{w:World}{A:Around}{E:Value->Shared->Prop}{s:Shared}{env:Env}{value slice:Expr}{pos:Pos}{T id:String}{Q:Value->Shared->Prop}
  (hl:typeLookup (.type T) "__getitem__" = pure (some (.builtin id))) (hs:WZ slice)
  (h:wpAny (model prog w) A (eval value env) (λo cV=>wpAny (model prog w) A (eval slice env) (λi mq=>mq.TypeIs o T/\wpAny (model prog w) A (getItem o i) Q E mq) E cV) E s) :
  wpAny (model prog w) A (eval (.Subscript value slice pos) env) Q E s:=by
 refine Subscript_ (wpAny_mono h (λo cV Hj=>wpAny_mono Hj (λi mq Qs=>?_) λ_ _ x=>x) λ_ _ x=>x);obtain⟨hT,Qs⟩:=Qs;unfold subscriptTail;refine wpAny_bind ?_;rw[getitemInPython_of_ne hT.not_modules];refine wpAny_bind (wpAny_specialOf hT hl ?_);have fin:wpAny (model prog w) A (subscripted slice false o i) (λr Gy=>wpAny (model prog w) A (letTemporaryGo value o r >>= λ_=>pure r) Q E Gy) E mq:=by
  rw[hs o i];exact wpAny_operating (wpAny_mono Qs (λr Gy Tf=>wpAny_bind (wpAny_letTemporaryGo (wpAny_pure Tf))) λ_ _ x=>x)
 first
  | exact wpAny_pure (wpAny_bind fin)
  | exact wpAny_bind (wpAny_pure (wpAny_bind fin))
  | exact wpAny_bind fin
theorem HD {X:Cx}{pins:List (Addr×Obj)}{σ:St}{H:Hp}{s:Shared}{a:Addr}{y:V}{o:Option V}(I:Inv X pins σ H s) (g:yp H a y o):s.TypeIs (.ref a) "dict":=by
 rcases g with⟨bD,k,e,_,_⟩|⟨bD,k,b,e,_,_,_⟩
 ·obtain⟨_,_,vs,_,dd⟩:=z9 I.df e;exact dd.typeIs
 ·obtain⟨_,_,xs,_,dd⟩:=B4 I.df e;exact dd.typeIs
def OP (td ty:TE):TE:=λσ H Q=>td σ H λx H1=>ty σ H1 λy H2=>∃a v,x = .ref a/\yp H2 a y (some v)/\Q v H2
def Vd (ty td:TE):TE:=λσ H Q=>ty σ H λy H1=>td σ H1 λx H2=>∃a o,x = .ref a/\yp H2 a y o/\Q (.bl o.isSome) H2
def Ep (ty td:TE):TE:=λσ H Q=>ty σ H λy H1=>td σ H1 λx H2=>∃a o,x = .ref a/\yp H2 a y o/\Q (.bl (!o.isSome)) H2
def O5 (td ty tv:TE):TS:=λD σ H=>tv σ H λv H1=>td σ H1 λx H2=>ty σ H2 λy H3=>∃a H4,x = .ref a/\Rq H3 a y v H4/\D.nx σ H4
section
variable {X:Cx}{o i e value:Expr}{pos pos' Ag:Pos}{td ty tv:TE}
theorem Li (hu:X.A.units+1<cLine) (ho:PE X o td) (hi:PE X i ty) (hs:WZ i):PE X (.Subscript o i pos) (OP td ty):=by
 intro pins s σ H Q I h;refine Se PySem.F.slot_dict_getitem.lookup hs (fu (ho pins s σ H _ I h) λu s1 ⟨x,H1,I1,rx,q1⟩=>fu (hi pins s1 σ H1 _ I1 q1) λiv s2 ⟨y,H2,I2,ry,a,v,ex,g,q2⟩=>?_);subst ex;obtain rfl:u=Value.ref a:=rx;exact⟨HD I2 g,Nw hu I2 g ry λw' s3 I3 MG=>⟨v,H2,I3,MG,q2⟩⟩
theorem VD (hu:X.A.units+1<cLine) (hi:PE X i ty) (ho:PE X o td):PC X .In i o (Vd ty td):=by
 intro pins s σ H Q I h;refine fu (hi pins s σ H _ I h) λiv s1 ⟨y,H1,I1,ry,q1⟩=>fu (ho pins s1 σ H1 _ I1 q1) λu s2 ⟨x,H2,I2,rx,a,ov,ex,g,q2⟩=>?_
 subst ex;obtain rfl:u=Value.ref a:=rx;exact aaZ hu I2 g ry λs3 I3=>⟨.bl ov.isSome,H2,I3,rfl,q2⟩
theorem MR (hu:X.A.units+1<cLine) (hi:PE X i ty) (ho:PE X o td):PC X .NotIn i o (Ep ty td):=by
 intro pins s σ H Q I h;refine fu (hi pins s σ H _ I h) λiv s1 ⟨y,H1,I1,ry,q1⟩=>fu (ho pins s1 σ H1 _ I1 q1) λu s2 ⟨x,H2,I2,rx,a,ov,ex,g,q2⟩=>?_
 subst ex;obtain rfl:u=Value.ref a:=rx;exact TY hu I2 g ry λs3 I3=>⟨.bl (!ov.isSome),H2,I3,rfl,q2⟩
theorem SF (hu:X.A.units+1<cLine) (ho:PE X o td) (hi:PE X i ty) (hv:PE X value tv) (hs:swapsWith value (some (.Subscript o i pos')) pos.line X.env=pure false) :
  PS X (.Assign [.Subscript o i pos'] value pos) (O5 td ty tv):=by
 intro pins s σ H D I h;refine wpAny_Assign_Subscript (fu (hv pins s σ H _ I h) λr s1 ⟨v,H1,I1,rv,q1⟩=>fu (ho pins s1 σ H1 _ I1 q1) λu s2 ⟨x,H2,I2,rx,q2⟩=>fu (hi pins s2 σ H2 _ I2 q2) λiv s3 ⟨y,H3,I3,ry,a,H4,ex,g,q3⟩=>?_) hs;subst ex;obtain rfl:u=Value.ref a:=rx;exact Nv hu I3 g ry rv λs4 I4=>⟨σ,H4,I4,q3⟩
end
theorem HC {P:Program}{w:World}{H:Hp}(h:Heap) (hb:sysModules<h.objs.size):gB P w H (h.push { cls:=.type "dict",data:=.dict #[] }) h.objs.size (.dK []) :=
 ⟨ck _,beq_eq_false_iff_ne.mpr (rn (cI hb)),[],.nil,Heap.DictOf.new h⟩
def IV:TE:=λ_ H Q=>∀p,H p=none->Q (.ref p) (upd H p (.dK []))
section
variable {X:Cx}{pos:Pos}
theorem jo:PE X (.Dict [] [] pos) IV:=λpins s σ H Q I h =>
 wpAny_Dict_empty ⟨.ref s.heap.objs.size,_,I.laid (a:=s.heap.objs.size) (o:=.dK []) (t':=s.toks) (λ_ _ q=>Heap.get?_push_of_some _ q) (aQ _) (HC s.heap I.big),rfl,h _ (I.df.fresh (aQ _))⟩
end
def IT:List (TE×TE)->St->Hp->(List (V×V)->Hp->Prop)->Prop
 | [],_,H,Q=>Q [] H
 | (tk,tv)::r,σ,H,Q=>tk σ H λx H1=>tv σ H1 λy H2=>IT r σ H2 λps H3=>Q ((x,y)::ps) H3
abbrev VV:List (V×V)->List (Value×Value)->Prop:=Paired λp q=>RelV p.1 q.1/\RelV p.2 q.2
def PPs (X:Cx) (pos:Pos) (keys:List (Option Expr)) (values:List Expr) (RZ:List (TE×TE)):Prop :=
 ∀(pins:List (Addr×Obj)) (s:Shared) (σ:St) (H:Hp) (Q:List (V×V)->Hp->Prop),Inv X pins σ H s->IT RZ σ H Q ->
  wpAny (model X.prog X.w) X.A (evalPairs (pairTrees keys values X.env pos)) (λvs s'=>∃ps H',Inv X pins σ H' s'/\VV ps vs/\Q ps H') X.xe s
theorem SK {X:Cx}{pos:Pos}:PPs X pos [] [] []:=λpins s σ H Q I h=>pairTrees_nil_walk ⟨[],H,I,.nil,h⟩
theorem Pe {X:Cx}{pos:Pos}{k v:Expr}{ks:List (Option Expr)}{vs:List Expr}{tk tv:TE}{RZ:List (TE×TE)}(hk:PE X k tk) (hv:PE X v tv) (hr:PPs X pos ks vs RZ) :
  PPs X pos (some k::ks) (v::vs) ((tk,tv)::RZ):=λpins s σ H Q I h =>
 pairTrees_cons_walk (fu (hk pins s σ H _ I h) λu s1 ⟨x,H1,I1,rx,q1⟩=>fu (hv pins s1 σ H1 _ I1 q1) λw2 s2 ⟨y,H2,I2,ry,q2⟩ =>
  fu (hr pins s2 σ H2 _ I2 q2) λws s3 ⟨ps,H3,I3,rel,q3⟩=>⟨(x,y)::ps,H3,I3,.cons ⟨rx,ry⟩ rel,q3⟩)
def yR (bD more:List (Key×V)):List (Key×V):=more.foldl (λacc kv=>putK acc kv.1 kv.2) bD
theorem KV.merge:∀{more:List (Key×V)}{rs:List (Key×Value)}{bD:List (Key×V)}{vs:List (Key×Value)},KV more rs->KV bD vs->KV (yR bD more) (merged vs rs):=by
 intro more rs bD vs r;unfold KV at r
 induction r generalizing bD vs with
 | nil=>intro q;exact q
 | @cons p q ps qs h t ih =>
  intro r0;have e:KV (putK bD p.1 p.2) (stored vs q.1 q.2):=by
   have:=r0.put p.1 h.2;rw[<-h.1];exact this
  exact ih e
theorem vN:∀(more bD:List (Key×V)),(yR bD more).length<=bD.length+more.length
 | [],bD=>by show bD.length<=bD.length+0;omega
 | p::r,bD=>by
  have h1:=vN r (putK bD p.1 p.2);have h2:=ue bD p.1 p.2;show(yR (putK bD p.1 p.2) r).length<=_;rw[ay];omega
theorem B6 {P:Program}{w:World}:∀{bD:List (Key×V)}{ws:List (Value×Value)},VV (bD.map λkv=>(kV kv.1,kv.2)) ws->∃rs,Carries (gc P w) ws rs/\KV bD rs
 | [],_,r=>by rw[cn]at r;cases r;exact⟨[],jP,.nil⟩
 | p::bD,_,r=>by
  rw[aP]at r;cases r with
  | @cons a b as bs h t =>
   obtain⟨rs,c,q⟩:=B6 (P:=P) (w:=w) t;obtain⟨b1,b2⟩:=b;exact⟨(p.1,b2)::rs,⟨zK h.1,rfl,c⟩,.cons ⟨rfl,h.2⟩ q⟩
def X6 (RZ:List (TE×TE)):TE:=λσ H Q=>∀p,H p=none->IT RZ σ (upd H p (.dK [])) λps H2=>H2 p=some (.dK [])/\∃bD:List (Key×V),ps=bD.map (λkv=>(kV kv.1,kv.2))/\bD.length<=15/\Q (.ref p) (upd H2 p (.dK (yR [] bD)))
theorem SS {X:Cx}{pos:Pos}{keys:List (Option Expr)}{values:List Expr}{RZ:List (TE×TE)}(h:PPs X pos keys values RZ) (r9:keys.all (·.isSome)=true) (hl:keys.length=values.length) (h0:keys≠[])
  (Oa:keys.length<=15):PE X (.Dict keys values pos) (X6 RZ):=by
 intro pins s σ H Q I q;have hn:=I.df.fresh (aQ s.heap.objs.size);have I1:=I.laid (a:=s.heap.objs.size) (o:=.dK []) (h':=s.heap.push { cls:=.type "dict",data:=.dict #[] }) (t':=s.toks) (λ_ _ q=>Heap.get?_push_of_some _ q) (aQ _) (HC s.heap I.big);refine wpAny_Dict_walk (knd:=gc X.prog X.w) r9 hl h0 Oa (fu (h pins _ σ _ _ I1 (q _ hn)) λws s2 ⟨ps,H2,I2,rel,e,bD,ep,lk,q2⟩=>?_);subst ep;obtain⟨rs,c,rk⟩:=B6 (P:=X.prog) (w:=X.w) rel;obtain⟨z,hd,vs0,r0,dd⟩:=HB I2.df e;cases r0;refine⟨rs,c,dd,λh' RQ hs=>⟨.ref s.heap.objs.size,_,?_,rfl,q2⟩⟩;have hz:(yR [] bD).length<=sizeLine:=by
  have h1:=vN bD [];rw[bI]at h1;rw[sizeLine_eq];omega
 have he:∃q,h'.get? s.heap.objs.size=some q:=let ⟨q,_,_,hq,_⟩:=RQ;⟨q,hq⟩;exact AO I2 (by rw[e];exact jP) hs he (Kn hz hd (rk.merge .nil) RQ)
structure M2 (X:Cx) (o:Expr) (m:Str) (apos:Pos) (e f:Expr) (oN:Pos):Prop where
 base:attributeBase o m X.env (eval o X.env)=eval o X.env
 few:((backTo oN (starEach [e,f] X.env)).all (λx=>!x.1)&&(backToKw oN (keywordEach [] X.env)).all (λx=>x.1.isSome)
  && decide (([e,f]:List Expr).length+([]:List Keyword).length+(if ([]:List Keyword).isEmpty then 0 else 1)<30))=true
 line:(apos.endLine==oN.line)=true
 trees:backTo oN (starEach [e,f] X.env)=[(false,eval e X.env),(false,eval f X.env)]
def IsD (H:Hp) (a:Addr):Prop:=(∃bD,Rd H a (.dK bD))\/∃bD,Rd H a (.dT bD)
theorem Qj {X:Cx}{pins:List (Addr×Obj)}{σ:St}{H:Hp}{s:Shared}{a:Addr}(I:Inv X pins σ H s) (d:IsD H a) :
  s.TypeIs (.ref a) "dict" /\ (∀b,Value.ref a = .ref b->∃ob,s.heap.get? b=some ob/\ob.dict=none)/\(a==sysModules)=false:=by
 rcases d with⟨bD,e⟩|⟨bD,e⟩
 ·obtain⟨_,hd,vs,_,dd⟩:=z9 I.df e;refine⟨dd.typeIs,λb q=>?_,hd⟩;cases q;obtain⟨ob,_,_,h1,h2,_⟩:=dd;exact⟨ob,h1,h2.2.1⟩
 ·obtain⟨_,hd,xs,_,dd⟩:=B4 I.df e;refine⟨dd.typeIs,λb q=>?_,hd⟩;cases q;obtain⟨ob,_,_,h1,h2,_⟩:=dd;exact⟨ob,h1,h2.2.1⟩
section
variable {X:Cx}{pins:List (Addr×Obj)}{σ:St}{H:Hp}{s:Shared}{a:Addr}{y d:V}{u r:Value}{o:Option V}{A:Around}{E:Value->Shared->Prop}
theorem WJ {Q:Value->Shared->Prop}(hu:A.units+1<cLine) (I:Inv X pins σ H s) (g:yp H a y o) (ry:RelV y u) (rd:RelV d r) (h:∀w' s',Inv X pins σ H s'->RelV (o.getD d) w'->Q w' s') :
  wpAny (model X.prog X.w) A (call (.builtin "dict.get") [.ref a,u,r]) Q E s:=by
 rcases g with⟨bD,k,e,ey,l⟩|⟨bD,k,b,e,ey,eb,l⟩
 ·subst ey;obtain⟨z,hd,vs,rel,dd⟩:=z9 I.df e;refine call_meetsIn sZ dd.typeIs Eb (C7 _ _ _) (meets_dict_get_default (gc X.prog X.w) a (zK ry) hd r) ⟨_,dd.mapOf,h _ _ (I.tok _) ?_⟩;rw[l];exact(rel.val k).getD rd
 ·subst ey;cases (show u=Value.ref b from ry);obtain⟨z,hd,xs,rel,dd⟩:=B4 I.df e;refine call_meetsIn sZ dd.typeIs Eb (C7 _ _ _) (meetsH_dict_get_default (tupleKind (gc X.prog X.w)) a b hd r) ⟨tupleKind_room_in1 hu,k,xs,yX I.df eb,dd,h _ _ (I.tok _) ?_⟩;rw[l];exact(rel.val k).getD rd
end
def IW (td ty tx:TE):TE:=λσ H Q=>td σ H λx H1=>∃a,x = .ref a/\IsD H1 a/\ty σ H1 λy H2=>tx σ H2 λz H3=>∃o,yp H3 a y o/\Q (o.getD z) H3
section
variable {X:Cx}{o e f:Expr}{apos oN:Pos}{td ty tx:TE}
theorem Pr (hu:X.A.units+1<cLine) (ho:PE X o td) (he:PE X e ty) (hf:PE X f tx) (m:M2 X o "get" apos e f oN):PE X (.Call (.Attribute o "get" apos) [e,f] [] oN) (IW td ty tx):=by
 intro pins s σ H Q I h;refine wpAny_Call_method m.base m.few m.line C6 sZ PySem.F.type_dict_get (fu (ho pins s σ H _ I h) λu s1 ⟨x,H1,I1,rx,a,ex,d,q1⟩=>?_);subst ex;obtain rfl:u=Value.ref a:=rx;obtain⟨t1,t2,_⟩:=Qj I1 d;refine⟨t1,t2,?_⟩;rw[m.trees];refine Calls.callWith_builtin rfl (Calls.evalArgs_plain (Calls.spliced_cons (fu (he pins s1 σ H1 _ I1 q1) λiv s2 ⟨y,H2,I2,ry,q2⟩ =>
  Calls.spliced_cons (fu (hf pins s2 σ H2 _ I2 q2) λfv s3 ⟨z,H3,I3,rz,ov,g,q3⟩=>Calls.spliced_nil ?_))))
 exact WJ hu I3 g ry rz λw' s4 I4 MG=>⟨_,H3,I4,MG,q3⟩
end
end L2
namespace L2
open PySem PySem.Spec PyProof.Rows
theorem Cg:bootBuiltins "reversed" = some (.type "reversed"):=by decide +kernel
section
variable {X:Cx}{pins:List (Addr×Obj)}{σ:St}{H:Hp}{s:Shared}{h':Heap}
theorem Inv.RX {t':Nat}{ch:List Addr}(I:Inv X pins σ H s) (k:∀b o,b∉ch->s.heap.get? b=some o->h'.get? b=some o) (hf:∀b∈ch,zt X pins H b):Inv X pins σ H { s with heap:=h',toks:=t' }:=by
 have Uy:∀b u,H b=some u->b∉ch:=λb u e z=>by
  have q:=(hf b z).1;rw[q]at e;cases e
 refine I.step (g':=s.gens) (d':=s.drawn) (ch:=ch) (λb hb=>⟨(hf b hb).2.2.2.1,(hf b hb).2.1,(hf b hb).2.2.2.2.1,(hf b hb).2.2.2.2.2⟩) (λb o _ _ hc e _=>k b o hc e) (λb o _ _ hc e _=>⟨o.slots,k b o hc e⟩)
  (λ_ _ _ _ n=>n) (λb o hc e=>⟨o,k b o hc e⟩) (λ_ _ e=>e) (λ_ _ _ e=>e) (λb ps e=>⟨#[],by rw[e];simp⟩) (λm hm=>?_) (λb u e=>?_) I.bare
 ·obtain⟨o,es,ep,ho,r⟩:=hm;exact⟨o,es,ep,k _ o (λz=>(hf _ z).2.1 rfl) ho,r⟩
 ·refine(I.df b u e).Am (λc v hc q=>k c v ?_ q) (λ_ q=>q) λ_ _ q=>q
  rcases hc with z|z
  ·rw[z];exact Uy b u e
  ·exact Uy c _ z
theorem Inv.Dk {t':Nat}{ch:List Addr}{T:Addr}{ob:HO}(I:Inv X pins σ H s) (k:∀b o,b∉ch->s.heap.get? b=some o->h'.get? b=some o) (hf:∀b∈ch,zt X pins H b) (hT:s.heap.objs.size<=T)
  (new:gB X.prog X.w (upd H T ob) h' T ob):Inv X pins σ (upd H T ob) { s with heap:=h',toks:=t' }:=by
 have hn:H T=none:=I.df.fresh hT;have Uy:∀b u,H b=some u->b∉ch:=λb u e z=>by
  have q:=(hf b z).1;rw[q]at e;cases e
 refine I.step (g':=s.gens) (d':=s.drawn) (ch:=ch) (λb hb=>⟨(hf b hb).2.2.2.1,(hf b hb).2.1,(hf b hb).2.2.2.2.1,(hf b hb).2.2.2.2.2⟩) (λb o _ _ hc e _=>k b o hc e) (λb o _ _ hc e _=>⟨o.slots,k b o hc e⟩)
  (λb o _ e n=>?_) (λb o hc e=>⟨o,k b o hc e⟩) (λb xs e=>?_) (λb o u e=>?_) (λb ps e=>⟨#[],?_⟩) (λm hm=>?_) (λb u e=>?_) I.bare
 ·rw[cv (cI (bh (Heap.lt_size e) hT))];exact n
 ·rw[cv (a6 e hn)];exact e
 ·rw[cv (a6 e hn)];exact e
 ·rw[cv (a6 e hn),e];simp
 ·obtain⟨o,es,ep,ho,r⟩:=hm;exact⟨o,es,ep,k _ o (λz=>(hf _ z).2.1 rfl) ho,r⟩
 ·by_cases hb:b=T
  ·subst hb;rw[c0]at e;cases e;exact new
  ·rw[cv hb]at e;refine(I.df b u e).Am (λc v hc q=>k c v ?_ q) (λc q=>by rw[cv (a6 q hn)];exact q) λc xs q=>by rw[cv (a6 q hn)];exact q
   rcases hc with z|z
   ·rw[z];exact Uy b u e
   ·exact Uy c _ z
theorem Inv.lock {d:Addr}{u:HO}(I:Inv X pins σ H s) (h:H d=some u) (mu:UW (some u)):∃od,Inv X pins σ (upd H d (.oJ od u)) s:=by
 have x:=I.df d u h;have ex:∃od,s.heap.get? d=some od:=by
  cases u with
  | lst xs=>obtain⟨_,_,_,_,e⟩:=x;exact⟨_,e⟩
  | dK bD=>obtain⟨_,_,_,_,o,_,_,e,_⟩:=x;exact⟨o,e⟩
  | dT bD=>obtain⟨_,_,_,_,o,_,_,e,_⟩:=x;exact⟨o,e⟩
  | set S n=>obtain⟨o,_,_,_,e,_⟩:=x;exact⟨o,e⟩
  | ins C dx fs=>obtain⟨_,_,_,e,_⟩:=x;exact⟨_,e⟩
  | ext φ=>obtain⟨_,⟨_,e⟩,_⟩:=x;exact⟨_,e⟩
  | _=>exact dB mu
 obtain⟨od,e⟩:=ex;have new:gB X.prog X.w (upd H d (.oJ od u)) s.heap d (.oJ od u):=by
  refine⟨e,x.Am (λb v _ q=>q) (λb q=>?_) λb xs q=>?_⟩
  ·rw[cv (λz=>by rw[z,h]at q;cases q;exact mu)];exact q
  ·rw[cv (λz=>by rw[z,h]at q;cases q;exact mu)];exact q
 exact⟨od,I.write (x:=d) (e:=d) (t':=s.toks) (h':=s.heap) (by rw[h];exact mu) (.inl rfl) (λb v _ q=>q) ⟨od,e⟩ new⟩
theorem Inv.Lk {d:Addr}{u:HO}(I:Inv X pins σ H s) (h:H d=some u) (mu:UW (some u)):∀o' u',X.W4 d≠some (.oJ o' u'):=λo' u' e=>by
 have q:=I.base.xN d o' u' e;rw[h]at q;cases q;exact mu
theorem Inv.unlock {d:Addr}{od:Obj}{u:HO}(I:Inv X pins σ H s) (h:H d=some (.oJ od u)) (hn:∀o' u',X.W4 d≠some (.oJ o' u')):Inv X pins σ (upd H d u) s:=by
 have Xj:∀b o,H b=some o->(∀o' u',o ≠ .oJ o' u')->b≠d:=λb o e rm z=>by
  rw[z,h]at e;cases e;exact rm _ _ rfl
 have neN:∀b,H b=none->b≠d:=λb e z=>by rw[z,h]at e;cases e
 refine⟨I.ok,I.os,I.bare,⟨I.base.keep,I.base.slot,λb o e n hx=>?_,I.base.there,λb xs e=>?_,λb o x e=>?_,λb ps e=>?_⟩,I.loc,I.cell,?_,λx c e=>?_,λp hp=>?_,λb o e=>?_,I.len⟩
 ·rw[cv (neN b (I.base.free b o e n hx))];exact I.base.free b o e n hx
 ·have q:=I.base.Cw b xs e;rw[cv (Xj b _ q (λ_ _ z=>nomatch z))];exact q
 ·have q:=I.base.xN b o x e;rw[cv (λz=>by rw[z]at e;exact hn _ _ e)];exact q
 ·obtain⟨m,q⟩:=I.base.CG b ps e;exact⟨m,by rw[cv (Xj b _ q (λ_ _ z=>nomatch z))];exact q⟩
 ·rw[cv (neN _ I.free)];exact I.free
 ·rw[cv (neN c (I.qV x c e))];exact I.qV x c e
 ·obtain⟨e,n,r⟩:=I.pin p hp;exact⟨e,by rw[cv (neN _ n)];exact n,r⟩
 ·by_cases hb:b=d
  ·rw[hb,c0]at e;cases e;rw[hb];obtain⟨_,x⟩:=I.df d _ h;exact x.Am (λc v _ q=>q) (λc q=>by rw[cv (Xj c _ q (λ_ _ z=>nomatch z))];exact q) λc xs q=>by rw[cv (Xj c _ q (λ_ _ z=>nomatch z))];exact q
  ·rw[cv hb]at e;exact(I.df b o e).Am (λc v _ q=>q) (λc q=>by rw[cv (Xj c _ q (λ_ _ z=>nomatch z))];exact q) λc xs q=>by rw[cv (Xj c _ q (λ_ _ z=>nomatch z))];exact q
end
def Uo (t:TS):TS:=λD σ H=>∃d u,H d=some u/\UW (some u)/\∀od,t ⟨λfK H'=>H' d=some (.oJ od u)/\D.nx fK (upd H' d u),λv H'=>H' d=some (.oJ od u)/\D.rt v (upd H' d u),λfK H'=>H' d=some (.oJ od u)/\D.bk fK (upd H' d u),λfK H'=>H' d=some (.oJ od u)/\D.ct fK (upd H' d u)⟩ σ (upd H d (.oJ od u))
section
variable {X:Cx}
theorem SE {st:Stmt}{t:TS}(h:PS X st t):PS X st (Uo t):=by
 intro pins s σ H D I hw;obtain⟨d,u,hd,mu,hw⟩:=hw;obtain⟨od,I1⟩:=I.lock hd mu;refine fu (h pins s σ _ _ I1 (hw od)) λf s1 q=>?_
 cases f with
 | next=>obtain⟨fK,H',I2,e,q⟩:=q;exact⟨fK,_,I2.unlock e (I.Lk hd mu),q⟩
 | brk=>obtain⟨fK,H',I2,e,q⟩:=q;exact⟨fK,_,I2.unlock e (I.Lk hd mu),q⟩
 | cont=>obtain⟨fK,H',I2,e,q⟩:=q;exact⟨fK,_,I2.unlock e (I.Lk hd mu),q⟩
 | ret v=>obtain⟨x,fK,H',I2,r,e,q⟩:=q;exact⟨x,fK,_,I2.unlock e (I.Lk hd mu),r,q⟩
theorem Bo {tg:Expr}{pins:List (Addr×Obj)}{σ:St}{H:Hp}{s:Shared}{R:It->Hp->Prop}{J:It}{tn:Nat->Heap->Prop}{tk:Nat}(I:Inv X pins σ H s) (o:Obj)
  (T:Turn X.prog X.w X.K tg J [s.heap.objs.size] s.heap.objs.size tn) (st:tn 0 (s.heap.push o)) (q:R J H):PIE X pins σ tg R (.ref s.heap.objs.size) { s with heap:=s.heap.push o,toks:=tk }:=by
 refine⟨s.heap.objs.size,[s.heap.objs.size],tn,J,H,rfl,I.kept λb ob e=>Heap.get?_push_of_some _ e,T,st,λb hb=>?_,q⟩;have e:b=s.heap.objs.size:=by simpa using hb
 subst e;exact I.Ki (aQ _) (I.df.fresh (aQ _))
end
def Itv (K:aa) (a:Addr) (n:Nat):It :=
 ⟨λi H=>i<n/\∃(xs:List V) (x:V),dO K H a xs/\xs[n-1-i]?=some x,λi H x H'=>H'=H/\∀xs,dO K H a xs->xs[n-1-i]?=some x,λi _=>n<=i⟩
theorem Oz {P:Program}{w:World}{K:aa}{tg:Expr}(a it:Addr) (n:Nat):Turn P w K tg (Itv K a n) [it] it (λi h=>i<=n/\h.IsRevIter it a ((n:Int)-1-(i:Nat))) where
 mem:=by simp
 obj:=λi h st b hb=>by
  have e:b=it:=by simpa using hb
  subst e;obtain⟨_,o,e,c,d⟩:=st;exact⟨o,e,λv z=>by rw[d]at z;cases z⟩
 keep:=λi h h' st k=>⟨st.1,st.2.at λo e=>k it (by simp) o e⟩
 item:=by
  intro X hP hw hK hc i pins s σ H E I hf st hg;subst hP hw hK;obtain⟨Fp,xs,x,hq,hx⟩:=hg;obtain⟨cC,rv,p,hz⟩:=I.list hq;obtain⟨u,hu,ru⟩:=rv.get hx;obtain⟨f0,f1,f2,f3,f4,f5⟩:=hf it (by simp);obtain⟨_,hit⟩:=st;have e1:(n:Int)-1-((i:Nat):Int)=((n-1-i:Nat):Int):=by omega
  rw[e1]at hit;refine wpAny_pyNext_rev_item hit p.isList (x:=u) (by simpa using hu) λh' Cu sb=>?_
  have e2:((n-1-i:Nat):Int)-1=(n:Int)-1-((i+1:Nat):Int):=by omega
  rw[e2]at Cu;have I1:Inv X pins σ H { s with heap:=h' }:=I.turned (t':=s.toks) (λb o hb e=>(sb.2 b hb).trans e) f0 f1 f3 f4 f5;obtain⟨o,e,c,d⟩:=id Cu;exact⟨u,rfl,DM (s:={ s with heap:=h' }) e c d (by decide) ⟨x,H,I1,ru,⟨rfl,λys hy=>by rw[I.uc hy hq];exact hx⟩,⟨Fp,Cu⟩,λb hb=>(hf b hb).1⟩⟩
 done:=by
  intro X hP hw hK hc i pins s σ H E I hf st hg;subst hP hw hK;obtain⟨f0,f1,f2,f3,f4,f5⟩:=hf it (by simp);obtain⟨Fp,hit⟩:=st;have hge:n<=i:=hg;have e1:(n:Int)-1-((i:Nat):Int) = -1:=by omega
  rw[e1]at hit;exact wpAny_pyNext_rev_end (I.ok.hd hc) hit λh' eb=>⟨rfl,I.turned (t':=s.toks) (λb o hb e=>eb b o hb e) f0 f1 f3 f4 f5⟩
 self:=λA i s Q E st h=>wpAny_pyIter_revIter st.2 h
def V8 (K:aa) (ta:TA):TI:=λσ H R=>ta σ H λvs H1=>∃(a:Addr) (xs:List V),vs=[.ref a]/\dO K H1 a xs/\R (Itv K a xs.length) H1
section
variable {X:Cx}{tg:Expr}
theorem G3 {e:Expr}{ta:TA}{p pos:Pos}(hg:Gl X "reversed") (hm:X.mg "reversed" = none) (ha:PA X [e] ta) (hs:starEach [e] X.env=[(false,eval e X.env)]:=by rfl):PI X tg (.Call (.Name "reversed" p) [e] [] pos) (V8 X.K ta):=by
 intro pins s σ H R I h;refine Call_ (uf I hg hm Cg (eC (fu (ha pos pins s σ H _ I h) λus s1 ⟨vs,H1,I1,r1,q1⟩=>?_) hs rfl));obtain⟨a,xs,e,hq,q⟩:=q1;subst e;cases r1 with
 | cons r rr =>
  cases rr;cases r;obtain⟨cC,rv,p',hz⟩:=I1.list hq;have hl:=rv.length;have e1:((cC.toArray.size:Nat):Int)-1=(xs.length:Int)-1-((0:Nat):Int):=by simp only[aZ];omega
  refine call_reversed_list p'.isList (wpAny_pyIter_revIter (l:=a) (i:=((cC.toArray.size:Nat):Int)-1) ⟨_,Heap.get?_push_size _ rfl,rfl,rfl⟩ ?_);refine Bo (tk:=s1.toks) I1 _ (Oz a _ xs.length) ⟨ck _,?_⟩ q;rw[<-e1];exact⟨_,Heap.get?_push_size _ rfl,rfl,rfl⟩
end
def Its (x:Str):It:=⟨λi _=>i<x.cps.size,λi H v H'=>H'=H/\∃c,x.cps[i]?=some c/\v = .str ⟨#[c]⟩,λi _=>x.cps.size<=i⟩
theorem Gk {P:Program}{w:World}{K:aa}{tg:Expr}(it:Addr) (x:Str) (t:Tok) (ty:String) (UD:ty = "str_ascii_iterator" \/ ty = "str_iterator") :
  Turn P w K tg (Its x) [it] it (λi h=>h.IsStrIter it ty x t i) where
 mem:=by simp
 obj:=λi h st b hb=>by
  have e:b=it:=by simpa using hb
  subst e;obtain⟨o,e,c,d⟩:=st;exact⟨o,e,λv z=>by rw[d]at z;cases z⟩
 keep:=λi h h' st k=>let ⟨o,ho,r⟩:=st;⟨o,k it (by simp) o ho,r⟩
 item:=by
  intro X hP hw hK hc i pins s σ H E I hf st hg;subst hP hw hK;obtain⟨f0,f1,f2,f3,f4,f5⟩:=hf it (by simp);have W:Walks X.prog X.w X.A it [it] [it] x.cps.size (SignAt x) (λi h=>h.IsStrIter it ty x t i):=by
   rcases UD with e|e
   ·rw[e];exact Walks.strAscii (I.ok.hd hc) it x t
   ·rw[e];exact Walks.strWide (I.ok.hd hc) it x t
  have Qy : ["enumerate", "zip", "dict_itemiterator", "dict_reverseitemiterator", "odict_iterator", "itertools.zip_longest", "itertools.pairwise"].contains ty=false:=by
   rcases UD with e|e
   ·rw[e];decide
   ·rw[e];decide
  refine W.item i s _ _ hg st λv h' tk hv Cu kk=>?_
  obtain⟨c,u,Xx,rfl⟩:=hv;have I1:Inv X pins σ H { s with heap:=h',toks:=tk }:=I.turned (λb o hb e=>kk b o (by simpa using hb) e) f0 f1 f3 f4 f5;obtain⟨oi,e,cc,dd⟩:=id Cu;exact⟨_,rfl,DM (s:={ s with heap:=h',toks:=tk }) e cc dd Qy ⟨.str ⟨#[c]⟩,H,I1,⟨u,rfl⟩,⟨rfl,c,Xx,rfl⟩,Cu,λb hb=>(hf b hb).1⟩⟩
 done:=by
  intro X hP hw hK hc i pins s σ H E I hf st hg;subst hP hw hK;obtain⟨f0,f1,f2,f3,f4,f5⟩:=hf it (by simp);have hx:x.cps[i]?=none:=Gh hg;rcases UD with e|e
  ·rw[e]at st;exact wpAny_pyNext_ascii_end (I.ok.hd hc) st hx λh' eb=>⟨rfl,I.turned (t':=s.toks) (λb o hb e=>eb b o hb e) f0 f1 f3 f4 f5⟩
  ·rw[e]at st;exact wpAny_pyNext_wide_end (I.ok.hd hc) st hx λh' eb=>⟨rfl,I.turned (t':=s.toks) (λb o hb e=>eb b o hb e) f0 f1 f3 f4 f5⟩
 self:=λA i s Q E st h=>by
  rcases UD with e|e
  ·rw[e]at st;exact wpAny_pyIter_striter_ascii st h
  ·rw[e]at st;exact wpAny_pyIter_striter_wide st h
def V7 (te:TE):TI:=λσ H R=>te σ H λv H1=>∃x,v = .str x/\R (Its x) H1
theorem VA {X:Cx}{tg e:Expr}{te:TE}(he:PE X e te):PI X tg e (V7 te):=by
 intro pins s σ H R I h;refine fu (he pins s σ H _ I h) λv s1 ⟨y,H1,I1,r1,x,ex,q⟩=>?_
 subst ex;obtain⟨t,rfl⟩:=r1;cases ha:x.cps.all (· < 128)
 ·exact wpAny_pyIter_wide ha (Bo (tk:=s1.toks) I1 _ (Gk _ x t "str_iterator" (.inr rfl)) ⟨_,Heap.get?_push_size _ rfl,rfl,rfl⟩ q)
 ·exact wpAny_pyIter_ascii ha (Bo (tk:=s1.toks) I1 _ (Gk _ x t "str_ascii_iterator" (.inl rfl)) ⟨_,Heap.get?_push_size _ rfl,rfl,rfl⟩ q)
section
variable {prog:Program}{w:World}{A:Around}{E:Value->Shared->Prop}{s:Shared}
theorem DI {d:Addr}{o:Obj}{es:Array DictEntry}{ep:Nat}{Q:Value->Shared->Prop}(hd:(d==sysModules)=false) (ho:s.heap.get? d=some o) (hc:o.ExactDict) (Y4:o.data = .dict es ep)
  (hQ:Q (.ref s.heap.objs.size) { s with heap:=s.heap.push { cls:=.type "dict_keyiterator",data:=.fields #[.ref d,.int 0 0,.int es.size 0,.int ep 0] } }) :
  wpAny (model prog w) A (pyIter (.ref d)) Q E s:=by
 have hT:s.TypeIs (.ref d) "dict":=⟨o,ho,hc.1⟩;refine wpAny_pyIter_slot hT F.slot_dict_iter (wpAny_call_entry F.slot_dict_iter hT F.entry_dict_iter ?_ (F.args_dict_iter_1 _));unfold Builtin.«dict.__iter__»;refine wpAny_bind ?_;unfold Builtin.Dict.dictSlotNone;refine wpAny_bind (wpAny_notOrdered_dict hT ?_);show wpAny _ _ (pure (Value.ref d)) _ _ s;refine wpAny_pure ?_;show wpAny _ _ (Builtin.Dict.showsAll d >>= _) _ _ s;unfold Builtin.Dict.showsAll;rw[if_neg (by rw[hd];exact aW)];refine wpAny_bind (wpAny_pure ?_);refine wpAny_bind (wpAny_dictEntries ho Y4 ?_);refine wpAny_bind (wpAny_dictEpoch ho Y4 ?_);refine wpAny_bind (wpAny_newObj_type (wpAny_pure ⟨_,rfl, "dict_keyiterator",_,⟨_,Heap.get?_push_size _ rfl,rfl⟩,F.slot_dict_keyiterator_next.lookup,?_⟩));simpa[rawInt]using hQ
theorem CO {it d:Addr}{i n ep:Nat}{od:Obj}{es:Array DictEntry}{en:DictEntry}{Q:Option Value->Shared->Prop}(hit:s.heap.IsKeyIter it d i n ep) (Qx:s.heap.get? d=some od) (Y3:od.data = .dict es ep)
  (hsz:es.size=n) (hx:es[i]?=some en) (hQ:∀h',h'.IsKeyIter it d (i+1) n ep->Heap.SameBut it s.heap h'->Q (some en.key) { s with heap:=h' }):wpAny (model prog w) A (pyNext (.ref it)) Q E s:=by
 obtain⟨o,ho,hc,hd⟩:=id hit;unfold pyNext;refine wpAny_bind (wpAny_attempt (wpAny_callSpecial?_slot (name:=Str.ofString "__next__") hit.typeIs F.slot_dict_keyiterator_next
  (wpAny_call_entry F.slot_dict_keyiterator_next hit.typeIs F.entry_dict_keyiterator_next ?_ (F.args_dict_keyiterator_next_1 _))))
 refine wpAny_bind (wpAny_pure ?_);refine wpAny_bind ?_;refine wpAny_bind ?_
 first|refine wpAny_bind (wpAny_typeNameOfWhole_keyiter hit.typeIs (wpAny_pure ?_))|refine wpAny_bind (wpAny_typeNameOf_keyiter hit.typeIs (wpAny_pure ?_))
 refine wpAny_bind (wpAny_fieldsOf ho hd ?_);have Wg:Builtin.Dict_items.ownsTuple "dict_keyiterator" = false:=by decide
 simp only[Wg,aE,if_false];show wpAny _ _ (if (Value.ref d==Value.none)=true then _ else _) _ _ s;rw[if_neg (show ¬((Value.ref d==Value.none)=true) from aW)];refine wpAny_bind (wpAny_pure ?_);refine wpAny_bind (wpAny_dictEntries Qx Y3 ?_);rw[if_neg (by rw[hsz];simp)];refine wpAny_bind (wpAny_pure ?_);refine wpAny_bind (wpAny_dictEpoch Qx Y3 ?_);rw[if_neg (by simp)];refine wpAny_pure ?_;obtain⟨aaF,hen⟩:=Array.getElem?_eq_some_iff.mp hx;simp only[show ¬((i:Int)<0) from by omega,if_false,Ry,qo aaF];refine wpAny_bind ?_
 first|refine wpAny_bind (wpAny_typeNameOfWhole_keyiter hit.typeIs (wpAny_pure ?_))|refine wpAny_bind (wpAny_typeNameOf_keyiter hit.typeIs (wpAny_pure ?_))
 refine wpAny_bind (wpAny_isOneOf_keyiter hit.typeIs ?_);show wpAny _ _ (setField (.ref it) 1 (rawInt ((i:Int)+1)) >>= _) _ _ s;refine wpAny_bind (wpAny_setField ho hd (by simp) ?_);have Kb:(s.heap.update it (Obj.mapFields (·.setIfInBounds 1 (rawInt ((i:Int)+1))))).IsKeyIter it d (i+1) n ep :=
  ⟨_,Heap.get?_update_self _ ho (Obj.isFreed_of_fields (Obj.data_mapFields hd _)),(Obj.cls_mapFields ..).trans hc,by rw[Obj.data_mapFields hd];simp[rawInt]⟩
 refine wpAny_bind (wpAny_holding ?_);refine wpAny_bind (wpAny_isOneOf_keyiter (s:={ s with heap:=s.heap.update it (Obj.mapFields (·.setIfInBounds 1 (rawInt ((i:Int)+1)))) }) Kb.typeIs ?_);show wpAny _ _ (pure es[i].key) _ _ _;rw[hen];exact wpAny_pure (wpAny_pure ⟨_,rfl,wpAny_pure (hQ _ Kb (Heap.SameBut.update ..))⟩)
theorem xF {it d:Addr}{i n ep:Nat}{od:Obj}{es:Array DictEntry}{Q:Option Value->Shared->Prop}(hh:A.handled=none) (hit:s.heap.IsKeyIter it d i n ep) (Qx:s.heap.get? d=some od) (Y3:od.data = .dict es ep)
  (hsz:es.size=n) (hge:n<=i) (hQ:∀h',Heap.ExtBut it s.heap h'->Q none { s with heap:=h' }):wpAny (model prog w) A (pyNext (.ref it)) Q E s:=by
 obtain⟨o,ho,hc,hd⟩:=id hit;unfold pyNext;refine wpAny_bind (wpAny_attempt (wpAny_callSpecial?_slot (name:=Str.ofString "__next__") hit.typeIs F.slot_dict_keyiterator_next
  (wpAny_call_entry F.slot_dict_keyiterator_next hit.typeIs F.entry_dict_keyiterator_next ?_ (F.args_dict_keyiterator_next_1 _))))
 refine wpAny_bind (wpAny_pure ?_);refine wpAny_bind ?_;refine wpAny_bind ?_
 first|refine wpAny_bind (wpAny_typeNameOfWhole_keyiter hit.typeIs (wpAny_pure ?_))|refine wpAny_bind (wpAny_typeNameOf_keyiter hit.typeIs (wpAny_pure ?_))
 refine wpAny_bind (wpAny_fieldsOf ho hd ?_);have Wg:Builtin.Dict_items.ownsTuple "dict_keyiterator" = false:=by decide
 simp only[Wg,aE,if_false];show wpAny _ _ (if (Value.ref d==Value.none)=true then _ else _) _ _ s;rw[if_neg (show ¬((Value.ref d==Value.none)=true) from aW)];refine wpAny_bind (wpAny_pure ?_);refine wpAny_bind (wpAny_dictEntries Qx Y3 ?_);rw[if_neg (by rw[hsz];simp)];refine wpAny_bind (wpAny_pure ?_);refine wpAny_bind (wpAny_dictEpoch Qx Y3 ?_);rw[if_neg (by simp)];refine wpAny_pure ?_;have aaL:es.size<=i:=by rw[hsz];exact hge
 simp only[show ¬((i:Int)<0) from by omega,if_false,Ry,Gh aaL];refine wpAny_bind ?_
 first|refine wpAny_bind (wpAny_typeNameOfWhole_keyiter hit.typeIs (wpAny_pure ?_))|refine wpAny_bind (wpAny_typeNameOf_keyiter hit.typeIs (wpAny_pure ?_))
 show wpAny _ _ (setField (.ref it) 0 .none >>= _) _ _ s;refine wpAny_bind (wpAny_setField ho hd (by simp) ?_);show wpAny _ _ (newExc (.type "StopIteration") [] >>= _) _ _ _;refine wpAny_bind ?_;simp only[newExc,newTuple];refine wpAny_bind (wpAny_newObj_type ?_ (by size_fits));refine wpAny_bind (m:=firstArgMember _ _) (wpAny_of_eq (a:=Value.none) (by first|rfl|(simp only[firstArgMember];rfl)) ?_);refine wpAny_newObj_type ?_ (by size_fits);simp only[raiseNew];refine wpAny_bind (wpAny_handled ?_);rw[show A.in1.handled=none from hh];refine wpAny_bind (wpAny_pure (wpAny_throw ?_));refine wpAny_bind (wpAny_isInstance (T := "StopIteration") (b:=true) ⟨_,Heap.get?_push_size _ rfl,rfl⟩ isSubtype_stop ?_);exact wpAny_pure (hQ _ (((Heap.SameBut.update ..).extBut.push _).push _))
end
theorem VT {κ:Type}{bD:List (κ×V)}{vs:List (κ×Value)}(h:KV bD vs):∀{i:Nat}{k:κ}{v:V},bD[i]?=some (k,v)->∃u,vs[i]?=some (k,u)/\RelV v u:=by
 unfold KV at h
 induction h with
 | nil=>intro i k v e;simp at e
 | @cons a b J2 J1 r t ih =>
  intro i k v e;cases i with
  | zero =>
   simp only[iB,b4]at e;subst e;refine⟨b.2,?_,r.2⟩;simp only[iB];exact congrArg some (Prod.ext r.1.symm rfl)
  | succ j =>
   simp only[fX]at e⊢;exact ih e
theorem JF {α β:Type}{G:α->β->Prop}{J2:List α}{J1:List β}(h:Paired G J2 J1):∀{i:Nat}{a:α},J2[i]?=some a->∃b,J1[i]?=some b/\G a b:=by
 induction h with
 | nil=>intro i a e;simp at e
 | @cons a b J2 J1 r t ih =>
  intro i a' e;cases i with
  | zero =>
   simp only[iB,b4]at e;subst e;exact⟨b,rfl,r⟩
  | succ j =>
   simp only[fX]at e⊢;exact ih e
theorem O9 {k:Key}{u:Value}(h:zI k u=true):RelV (kV k) u:=by
 rcases gg h with⟨i,t,rfl,rfl⟩|⟨x,t,rfl,rfl⟩
 ·exact⟨t,rfl⟩
 ·exact⟨t,rfl⟩
section
variable {X:Cx}{pins:List (Addr×Obj)}{σ:St}{H:Hp}{s:Shared}{d:Addr}{o:Obj}
theorem Inv.Wz {bD:List (Key×V)}(I:Inv X pins σ H s) (h:H d=some (.oJ o (.dK bD))) :
  (d==sysModules)=false/\s.heap.get? d=some o/\o.ExactDict/\∃(es:Array DictEntry) (ep:Nat) (vs:List (Key×Value)),o.data = .dict es ep/\es.size=bD.length/\KV bD vs/\s.heap.DictAt (gc X.prog X.w) d vs ep:=by
 obtain⟨hd,z,hs,vs,kv,o',es,ep,ho,hx,CV,r⟩:=I.df d _ h;rw[hd]at ho;cases ho;refine⟨hs,hd,hx,es,ep,vs,CV,?_,kv,o,es,hd,hx,CV,r⟩;have l1:=r.2.1.length;have l2:bD.length=vs.length:=Paired.length kv;rw[wb]at l1;omega
theorem Inv.Wy {bD:List (List Key×V)}(I:Inv X pins σ H s) (h:H d=some (.oJ o (.dT bD))) :
  (d==sysModules)=false/\s.heap.get? d=some o/\o.ExactDict/\∃(es:Array DictEntry) (ep:Nat),o.data = .dict es ep/\es.size=bD.length /\
   ∀(i:Nat) (k:List Key) (v:V),bD[i]?=some (k,v)->∃(en:DictEntry) (q:Addr),es[i]?=some en/\en.key = .ref q/\H q=some (.tup (k.map kV)):=by
 obtain⟨hd,z,hs,xs,pr,o',es,ep,ho,hx,CV,he,_⟩:=I.df d _ h;rw[hd]at ho;cases ho;refine⟨hs,hd,hx,es,ep,CV,?_,λi k v e=>?_⟩
 ·have l1:es.size=xs.length:=size_of_entries he;have l2:bD.length=xs.length:=Paired.length pr;omega
 ·obtain⟨b,hb,e1,e2,_⟩:=JF pr e;have q:=entry_at he i;rw[hb]at q;exact⟨_,b.2.1,q,rfl,e2⟩
end
def Itk (d:Addr) (o:Obj) (bD:List (Key×V)):It :=
 ⟨λi H=>H d=some (.oJ o (.dK bD))/\i<bD.length,λi H x H'=>H'=H/\∃k v,bD[i]?=some (k,v)/\x=kV k,λi H=>H d=some (.oJ o (.dK bD))/\bD.length<=i⟩
def ZC (d:Addr) (o:Obj) (bD:List (List Key×V)):It :=
 ⟨λi H=>H d=some (.oJ o (.dT bD))/\i<bD.length,λi H x H'=>H'=H/\∃(k:List Key) (v:V) (q:Addr),bD[i]?=some (k,v)/\x = .ref q/\H q=some (.tup (k.map kV)),λi H=>H d=some (.oJ o (.dT bD))/\bD.length<=i⟩
theorem AN {o:Obj}{es Ob:Array DictEntry}{ep RO:Nat}(h:o.data = .dict es ep) (h':o.data = .dict Ob RO):Ob=es/\RO=ep:=by
 rw[h]at h';cases h';exact⟨rfl,rfl⟩
section
variable {P:Program}{w:World}{K:aa}{tg:Expr}{d:Addr}{o:Obj}{es:Array DictEntry}{ep:Nat}
theorem Mf {bD:List (Key×V)}(it:Addr) (Qx:o.data = .dict es ep):Turn P w K tg (Itk d o bD) [it] it (λi h=>h.IsKeyIter it d i bD.length ep) where
 mem:=by simp
 obj:=λi h st b hb=>by
  have e:b=it:=by simpa using hb
  subst e;obtain⟨oi,e,c,dd⟩:=st;exact⟨oi,e,λv z=>by rw[dd]at z;cases z⟩
 keep:=λi h h' st k=>st.at λoi e=>k it (by simp) oi e
 item:=by
  intro X hP hw hK hc i pins s σ H E I hf st hg;subst hP hw hK;obtain⟨hd,hi⟩:=hg;obtain⟨f0,f1,f2,f3,f4,f5⟩:=hf it (by simp);obtain⟨hs,RG,hx,Ob,RO,vs,CV,hsz,kv,hm⟩:=I.Wz hd;obtain⟨rfl,rfl⟩:=AN Qx CV;obtain⟨⟨k,v⟩,Tr⟩:∃p,bD[i]?=some p:=⟨bD[i],ae hi⟩;obtain⟨u,hu,ru⟩:=VT kv Tr;have hl:bD.length=vs.length:=Paired.length kv;rw[hl]at st;refine wpAny_pyNext_dict_item st hm hu λkey h' QB Cu sb=>?_
  have I1:Inv X pins σ H { s with heap:=h' }:=I.turned (t':=s.toks) (λb ob hb e=>(sb.2 b hb).trans e) f0 f1 f3 f4 f5;obtain⟨oi,e,c,dd⟩:=id Cu;refine⟨key,rfl,DM (s:={ s with heap:=h' }) e c dd (by decide) ⟨kV k,H,I1,O9 (show zI k key=true from QB),⟨rfl,k,v,Tr,rfl⟩,?_,λb hb=>(hf b hb).1⟩⟩;show h'.IsKeyIter it d (i+1) bD.length _;rw[hl];exact Cu
 done:=by
  intro X hP hw hK hc i pins s σ H E I hf st hg;subst hP hw hK;obtain⟨hd,hi⟩:=hg;obtain⟨f0,f1,f2,f3,f4,f5⟩:=hf it (by simp);obtain⟨hs,RG,hx,Ob,RO,vs,CV,hsz,kv,hm⟩:=I.Wz hd;obtain⟨rfl,rfl⟩:=AN Qx CV;exact xF (I.ok.hd hc) st RG CV hsz hi λh' eb=>⟨rfl,I.turned (t':=s.toks) (λb ob hb e=>eb b ob hb e) f0 f1 f3 f4 f5⟩
 self:=λA i s Q E st h=>wpAny_pyIter_keyiter st h
theorem IL {bD:List (List Key×V)}(it:Addr) (Qx:o.data = .dict es ep):Turn P w K tg (ZC d o bD) [it] it (λi h=>h.IsKeyIter it d i bD.length ep) where
 mem:=by simp
 obj:=λi h st b hb=>by
  have e:b=it:=by simpa using hb
  subst e;obtain⟨oi,e,c,dd⟩:=st;exact⟨oi,e,λv z=>by rw[dd]at z;cases z⟩
 keep:=λi h h' st k=>st.at λoi e=>k it (by simp) oi e
 item:=by
  intro X hP hw hK hc i pins s σ H E I hf st hg;subst hP hw hK;obtain⟨hd,hi⟩:=hg;obtain⟨f0,f1,f2,f3,f4,f5⟩:=hf it (by simp);obtain⟨hs,RG,hx,Ob,RO,CV,hsz,ent⟩:=I.Wy hd;obtain⟨rfl,rfl⟩:=AN Qx CV;obtain⟨⟨k,v⟩,Tr⟩:∃p,bD[i]?=some p:=⟨bD[i],ae hi⟩;obtain⟨en,q,hen,QB,hq⟩:=ent i k v Tr;refine CO st RG CV hsz hen λh' Cu sb=>?_
  have I1:Inv X pins σ H { s with heap:=h' }:=I.turned (t':=s.toks) (λb ob hb e=>(sb.2 b hb).trans e) f0 f1 f3 f4 f5;obtain⟨oi,e,c,dd⟩:=id Cu;exact⟨en.key,rfl,DM (s:={ s with heap:=h' }) e c dd (by decide) ⟨.ref q,H,I1,QB,⟨rfl,k,v,q,Tr,rfl,hq⟩,Cu,λb hb=>(hf b hb).1⟩⟩
 done:=by
  intro X hP hw hK hc i pins s σ H E I hf st hg;subst hP hw hK;obtain⟨hd,hi⟩:=hg;obtain⟨f0,f1,f2,f3,f4,f5⟩:=hf it (by simp);obtain⟨hs,RG,hx,Ob,RO,CV,hsz,ent⟩:=I.Wy hd;obtain⟨rfl,rfl⟩:=AN Qx CV;exact xF (I.ok.hd hc) st RG CV hsz hi λh' eb=>⟨rfl,I.turned (t':=s.toks) (λb ob hb e=>eb b ob hb e) f0 f1 f3 f4 f5⟩
 self:=λA i s Q E st h=>by
  refine wpAny_pyIter_slot st.typeIs F.slot_dict_keyiterator_iter (wpAny_call_entry F.slot_dict_keyiterator_iter st.typeIs F.entry_dict_keyiterator_iter ?_ (F.args_dict_keyiterator_iter_1 _));show wpAny _ _ (ret (.ref it)) _ _ s;exact wpAny_pure ⟨_,rfl, "dict_keyiterator",_,st.typeIs,F.slot_dict_keyiterator_next.lookup,h⟩
end
def Qq (td:TE):TI:=λσ H R=>td σ H λx H1=>∃d o,x = .ref d/\((∃bD,H1 d=some (.oJ o (.dK bD))/\R (Itk d o bD) H1)\/∃bD,H1 d=some (.oJ o (.dT bD))/\R (ZC d o bD) H1)
section
variable {X:Cx}{tg e:Expr}{td:TE}{apos oN:Pos}
theorem SM (he:PE X e td):PI X tg e (Qq td):=by
 intro pins s σ H R I h;refine fu (he pins s σ H _ I h) λu s1 ⟨x,H1,I1,rx,d,o,ex,q⟩=>?_
 subst ex;obtain rfl:u=Value.ref d:=rx;rcases q with⟨bD,hd,q⟩|⟨bD,hd,q⟩
 ·obtain⟨hs,RG,hx,es,ep,vs,CV,hsz,kv,hm⟩:=I1.Wz hd;refine DI hs RG hx CV (Bo (tk:=s1.toks) I1 _ (Mf _ CV) ⟨_,Heap.get?_push_size _ rfl,rfl,?_⟩ q);rw[hsz]<;>rfl
 ·obtain⟨hs,RG,hx,es,ep,CV,hsz,ent⟩:=I1.Wy hd;refine DI hs RG hx CV (Bo (tk:=s1.toks) I1 _ (IL _ CV) ⟨_,Heap.get?_push_size _ rfl,rfl,?_⟩ q);rw[hsz]<;>rfl
end
theorem NH:bootBuiltins "zip" = some (.type "zip"):=by decide +kernel
def ZA (K:aa) (a b:Addr):It :=
 ⟨λi H=>∃(xs ys:List V) (x y:V),dO K H a xs/\dO K H b ys/\xs[i]?=some x/\ys[i]?=some y,
  λi H v H'=>∃T x y,v = .ref T/\H T=none/\H'=upd H T (.tup [x,y])/\(∀xs,dO K H a xs->xs[i]?=some x)/\∀ys,dO K H b ys->ys[i]?=some y,
  λi H=>∃xs ys:List V,dO K H a xs/\dO K H b ys/\(xs.length<=i\/ys.length<=i)⟩
theorem Oy {P:Program}{w:World}{K:aa}{elts:List Expr}{kk:Nat}{Ag:Pos}{a b z TI TO i1 i2:Addr}(D:ZipApart z TI TO i1 i2 a b) :
  Turn P w K (.Tuple elts kk Ag) (ZA K a b) [z,TI,TO,i1,i2] z (λi h=>IsZip h z TI TO .none/\IsPair h TI (.ref i1) (.ref i2)/\(∃x y,IsPair h TO x y)/\h.IsListIter i1 a i/\h.IsListIter i2 b i) where
 mem:=by simp
 obj:=λi h st c hc=>by
  obtain⟨hz,QJ,⟨x,y,RL⟩,⟨o1,e1,_,d1⟩,⟨o2,e2,_,d2⟩⟩:=st;have e':c=z\/c=TI\/c=TO\/c=i1\/c=i2:=by simpa using hc
  rcases e' with q|q|q|q|q
  ·rw[q];exact⟨_,hz,λv q=>nomatch q⟩
  ·rw[q];exact⟨_,QJ,λv q=>nomatch q⟩
  ·rw[q];exact⟨_,RL,λv q=>nomatch q⟩
  ·rw[q];exact⟨o1,e1,λv q=>by rw[d1]at q;cases q⟩
  ·rw[q];exact⟨o2,e2,λv q=>by rw[d2]at q;cases q⟩
 keep:=λi h h' st k=>by
  obtain⟨hz,QJ,⟨x,y,RL⟩,h1,h2⟩:=st;exact⟨k z (by simp) _ hz,k TI (by simp) _ QJ,⟨x,y,k TO (by simp) _ RL⟩,h1.at λo q=>k i1 (by simp) o q,h2.at λo q=>k i2 (by simp) o q⟩
 item:=by
  intro X hP hw hK hc i pins s σ H E I hf st hg;subst hP hw hK;obtain⟨hz,QJ,⟨x0,y0,RL⟩,h1,h2⟩:=st;obtain⟨xs,ys,x,y,Xr,Xq,hx,hy⟩:=hg;obtain⟨cC,rv,p,_⟩:=I.list Xr;obtain⟨wF,Xh,p2,_⟩:=I.list Xq;obtain⟨u,hu,ru⟩:=rv.get hx;obtain⟨u2,hu2,ru2⟩:=Xh.get hy;have hzl:z<s.heap.objs.size:=Heap.lt_size hz;refine wpAny_pyNext_zip_item D hz QJ RL h1 h2 p.isList p2.isList (x:=u) (y:=u2) (by simpa using hu) (by simpa using hu2) λh' z' TO' CW h2' hT hsz hk=>?_
  refine⟨_,rfl,wpAny_letOwnedTupleGo_zip (s:={ s with heap:=h' }) z' λUQ z'' sb=>?_⟩;have Y7:UQ.get? s.heap.objs.size=some { cls:=.type "tuple",data:=.seq #[u,u2] }:=(sb.2 _ (IB hzl)).trans hT;have new:gB X.prog X.w (upd H s.heap.objs.size (.tup [x,y])) UQ s.heap.objs.size (.tup [x,y]) :=
   ⟨by show 2<=sizeLine;decide,[u,u2],.cons ru (.cons ru2 .nil),⟨_,Y7,rfl,_,rfl⟩⟩
  have I1:Inv X pins σ (upd H s.heap.objs.size (.tup [x,y])) { s with heap:=UQ } :=
   I.Dk (t':=s.toks) (ch:=[z,TI,TO,i1,i2]) (λc o hb q=>(sb.2 c (λq'=>hb (by simp[q']))).trans (hk c o (λq'=>hb (by simp[q'])) (λq'=>hb (by simp[q'])) (λq'=>hb (by simp[q'])) (λq'=>hb (by simp[q'])) q)) hf (aQ _) new
  refine⟨.ref s.heap.objs.size,_,I1,rfl,⟨_,x,y,rfl,I.df.fresh (aQ _),rfl,λl hl=>by rw[I.uc hl Xr];exact hx,λl hl=>by rw[I.uc hl Xq];exact hy⟩,⟨z'',?_,⟨u,u2,?_⟩,?_,?_⟩,λc Lz=>?_⟩
  ·exact(sb.2 _ D.TIz).trans (hk _ _ D.TIz D.TITO D.TIi1 D.TIi2 QJ)
  ·exact(sb.2 _ D.TOz).trans TO'
  ·exact CW.at λo q=>(sb.2 _ D.i1z).trans q
  ·exact h2'.at λo q=>(sb.2 _ D.i2z).trans q
  ·have hX:c<s.heap.objs.size:=by
    have e':c=z\/c=TI\/c=TO\/c=i1\/c=i2:=by simpa using Lz
    rcases e' with q|q|q|q|q
    ·rw[q];exact hzl
    ·rw[q];exact Heap.lt_size QJ
    ·rw[q];exact Heap.lt_size RL
    ·rw[q];obtain⟨_,e1,_⟩:=h1;exact Heap.lt_size e1
    ·rw[q];obtain⟨_,e2,_⟩:=h2;exact Heap.lt_size e2
   rw[cv (cI hX)];exact(hf c Lz).1
 done:=by
  intro X hP hw hK hc i pins s σ H E I hf st hg;subst hP hw hK;obtain⟨hz,QJ,⟨x0,y0,RL⟩,h1,h2⟩:=st;obtain⟨xs,ys,Xr,Xq,aaP⟩:=hg;obtain⟨cC,rv,p,_⟩:=I.list Xr;obtain⟨wF,Xh,p2,_⟩:=I.list Xq;have l1:=rv.length;have l2:=Xh.length;have he:cC.toArray[i]?=none\/wF.toArray[i]?=none:=by
   rcases aaP with q|q
   ·exact .inl (by simp;omega)
   ·exact .inr (by simp;omega)
  exact wpAny_pyNext_zip_end (I.ok.hd hc) D hz QJ RL h1 h2 p.isList p2.isList he λh' hk=>⟨rfl,I.RX (t':=s.toks) (ch:=[z,TI,TO,i1,i2]) (λc o hb q =>
   hk c o (λq'=>hb (by simp[q'])) (λq'=>hb (by simp[q'])) (λq'=>hb (by simp[q'])) (λq'=>hb (by simp[q'])) q) hf⟩
 self:=λA i s Q E st h=>wpAny_pyIter_zip st.1 h
def V6 (K:aa) (ta:TA):TI:=λσ H R=>ta σ H λvs H1=>∃a b xs ys,vs=[.ref a,.ref b]/\dO K H1 a xs/\dO K H1 b ys/\R (ZA K a b) H1
theorem Pf {X:Cx}{e e2:Expr}{ta:TA}{p pos Ag:Pos}{elts:List Expr}{kk:Nat}(hg:Gl X "zip") (hm:X.mg "zip" = none) (ha:PA X [e,e2] ta)
  (hs:starEach [e,e2] X.env=(false,eval e X.env)::starEach [e2] X.env:=by rfl) (AJ:(backTo pos (starEach [e2] X.env)).any (·.1)=false:=by rfl) :
  PI X (.Tuple elts kk Ag) (.Call (.Name "zip" p) [e,e2] [] pos) (V6 X.K ta):=by
 intro pins s σ H R I h;refine Call_ (uf I hg hm NH (eC (fu (ha pos pins s σ H _ I h) λus s1 ⟨vs,H1,I1,r1,q1⟩=>?_) hs AJ));obtain⟨a,b,xs,ys,ex,Xr,Xq,q⟩:=q1;subst ex;cases r1 with
 | cons r rr =>
  cases rr with
  | cons r' rr =>
   cases rr;cases r;cases r';obtain⟨cC,rv,p1,_⟩:=I1.list Xr;obtain⟨wF,Xh,p2,_⟩:=I1.list Xq;have la:a<s1.heap.objs.size:=p1.lt;have lb:b<s1.heap.objs.size:=p2.lt;refine call_zip_2 p1.isList p2.isList λh' hz QJ RL h1 h2 hsz hk=>wpAny_pyIter_zip hz ?_
   have I2:Inv X pins σ H1 { s1 with heap:=h' }:=I1.kept (t':=s1.toks) hk;refine⟨s1.heap.objs.size+4,[s1.heap.objs.size+4,s1.heap.objs.size+2,s1.heap.objs.size+3,s1.heap.objs.size,s1.heap.objs.size+1],_,_,H1,rfl,I2,Oy (PySem.W.ktu_apart s1.heap.objs.size a b la lb),⟨hz,QJ,⟨_,_,RL⟩,h1,h2⟩,λc Lz=>?_,q⟩;have e':c=s1.heap.objs.size+4\/c=s1.heap.objs.size+2\/c=s1.heap.objs.size+3\/c=s1.heap.objs.size\/c=s1.heap.objs.size+1:=by simpa using Lz
   have hle:s1.heap.objs.size<=c:=by
    rcases e' with z|z|z|z|z
    ·rw[z];exact nD _ _
    ·rw[z];exact nD _ _
    ·rw[z];exact nD _ _
    ·rw[z];exact aQ _
    ·rw[z];exact nD _ _
   exact I1.Ki hle (I1.df.fresh hle)
end L2
section
namespace TL
open PySem PySem.Builtin PySem.Builtin.Str PySem.StrLaws
abbrev tl (x:Str):List Nat:=x.cps.toList
theorem rV (x:Str):x.length=(tl x).length:=by simp[tl,Str.length]
theorem BY {x y:Str}(h:tl x=tl y):x=y:=Str.ext' (Array.toList_inj.mp h)
theorem Dl (x y:Str):tl (x++y)=tl x++tl y:=by
 show(x++y).cps.toList=_;rw[Str.cps_append,Array.toList_append]
theorem BC:∀{l m:List Str},l.map tl=m.map tl->l=m
 | [],[],_=>rfl
 | [],_::_,h=>by simp at h
 | _::_,[],h=>by simp at h
 | x::l,y::m,h=>by
  rw[aP,aP]at h;injection h with h1 h2
  rw[BY h1,BC h2]
theorem Gp (s:String):tl (Str.ofString s)=s.toList.map Char.toNat:=ZU s
def pre (S l:List Nat):Bool:=l.take S.length==S
def zE (S:List Nat):Nat->List Nat->List Nat->List (List Nat)
 | _,acc,[]=>[acc]
 | 0,acc,c::r=>if pre S (c::r)=true then acc::zE S (S.length-1) [] r else zE S 0 (acc++[c]) r
 | k+1,acc,_::r=>zE S k acc r
def par (S:List Nat):List Nat->List Nat->Option (List Nat×List Nat)
 | _,[]=>none
 | acc,c::r=>if pre S (c::r)=true then some (acc,(c::r).drop S.length) else par S (acc++[c]) r
theorem Ew (S:List Nat) (k:Nat) (acc:List Nat):zE S k acc []=[acc]:=by cases k<;>rfl
theorem K7 {S acc r:List Nat}{c:Nat}(h:pre S (c::r)=true):zE S 0 acc (c::r)=acc::zE S (S.length-1) [] r:=by
 show(if pre S (c::r)=true then acc::zE S (S.length-1) [] r else zE S 0 (acc++[c]) r)=_;rw[if_pos h]
theorem GC {S acc r:List Nat}{c:Nat}(h:pre S (c::r)=false):zE S 0 acc (c::r)=zE S 0 (acc++[c]) r:=by
 show(if pre S (c::r)=true then acc::zE S (S.length-1) [] r else zE S 0 (acc++[c]) r)=_;rw[if_neg (by rw[h];exact aW)]
theorem GB (S:List Nat):∀(k:Nat) (acc l:List Nat),zE S k acc l=zE S 0 acc (l.drop k)
 | 0,_,_=>by rw[fg]
 | k+1,acc,[]=>by rw[List.drop_nil,Ew,Ew]
 | k+1,acc,c::r=>by
  show zE S k acc r=zE S 0 acc (r.drop k);exact GB S k acc r
theorem EX {S acc r:List Nat}{c:Nat}(h:pre S (c::r)=true):par S acc (c::r)=some (acc,(c::r).drop S.length):=by
 show(if pre S (c::r)=true then some (acc,(c::r).drop S.length) else par S (acc++[c]) r)=_;rw[if_pos h]
theorem Bq {S acc r:List Nat}{c:Nat}(h:pre S (c::r)=false):par S acc (c::r)=par S (acc++[c]) r:=by
 show(if pre S (c::r)=true then some (acc,(c::r).drop S.length) else par S (acc++[c]) r)=_;rw[if_neg (by rw[h];exact aW)]
theorem Ld {S:List Nat}(hS:S≠[]):pre S []=false:=by
 cases S with
 | nil=>exact absurd rfl hS
 | cons s S=>rfl
theorem qb {L:List Nat}{a:Nat}(h:a<L.length):∃c,L.drop a=c::L.drop (a+1):=⟨L[a],dY h⟩
theorem Eu (S L:List Nat):∀(m a:Nat) (acc:List Nat),a+m<=L.length->(∀k,a<=k->k<a+m->pre S (L.drop k)=false) ->
  zE S 0 acc (L.drop a)=zE S 0 (acc++(L.drop a).take m) (L.drop (a+m))
 | 0,a,acc,_,_=>by rw[jQ,eL,j0]
 | m+1,a,acc,h,hn=>by
  have hX:a<L.length:=by omega
  obtain⟨c,e⟩:=qb hX;have h0:=hn a (aQ _) (by omega);have ih:=Eu S L m (a+1) (acc++[c]) (by omega) (λk h1 h2=>hn k (by omega) (by omega));have e2:a+1+m=a+(m+1):=by omega
  rw[e2]at ih;rw[e]at h0;rw[e,GC h0,ih,oX,cE]<;>rfl
theorem EW (S L:List Nat):∀(m a:Nat) (acc:List Nat),a+m<=L.length->(∀k,a<=k->k<a+m->pre S (L.drop k)=false) ->
  par S acc (L.drop a)=par S (acc++(L.drop a).take m) (L.drop (a+m))
 | 0,a,acc,_,_=>by rw[jQ,eL,j0]
 | m+1,a,acc,h,hn=>by
  have hX:a<L.length:=by omega
  obtain⟨c,e⟩:=qb hX;have h0:=hn a (aQ _) (by omega);have ih:=EW S L m (a+1) (acc++[c]) (by omega) (λk h1 h2=>hn k (by omega) (by omega));have e2:a+1+m=a+(m+1):=by omega
  rw[e2]at ih;rw[e]at h0;rw[e,Bq h0,ih,oX,cE]<;>rfl
theorem Hz (L:List Nat) (a b:Nat):(L.drop a).drop b=L.drop (a+b):=by
 first
  | rw[vw]
  | rw[vw,i6]
theorem Vh {S L:List Nat}(hS:S≠[]){c:Nat}{acc:List Nat}(h:pre S (L.drop c)=true):zE S 0 acc (L.drop c)=acc::zE S 0 [] (L.drop (c+S.length)):=by
 rw[<-Hz];cases e:L.drop c with
 | nil=>rw[e,Ld hS]at h;cases h
 | cons d r =>
  rw[e]at h;rw[K7 h,GB];cases S with
  | nil=>exact absurd rfl hS
  | cons s S=>rfl
theorem VE {S L:List Nat}(hS:S≠[]){c:Nat}{acc:List Nat}(h:pre S (L.drop c)=true):par S acc (L.drop c)=some (acc,L.drop (c+S.length)):=by
 rw[<-Hz];cases e:L.drop c with
 | nil=>rw[e,Ld hS]at h;cases h
 | cons d r =>
  rw[e]at h;rw[EX h]
theorem Kv {x y:Str}(hy:tl y≠[]) (i:Nat):At x y x.length i↔pre (tl y) ((tl x).drop i)=true:=by
 have hx:=rV x;have hl:=rV y;constructor
 ·intro h;have h2:=h.2;rw[subAt_eq,hl]at h2;exact h2
 ·intro h;have e:((tl x).drop i).take (tl y).length=tl y:=eq_of_beq h;have e1:=congrArg jT e;rw[cw,cD]at e1;have e2:0<(tl y).length:=kb.mpr hy;refine⟨by omega,?_⟩;rw[subAt_eq,hl];exact h
theorem Ll {x y:Str}(hy:tl y≠[]){i:Nat}(h:¬At x y x.length i):pre (tl y) ((tl x).drop i)=false:=by
 cases hp:pre (tl y) ((tl x).drop i)with
 | false=>rfl
 | true=>exact absurd ((Kv hy i).mpr hp) h
theorem aao {y:Str}(hy:tl y≠[]):1<=y.length:=by
 have e2:0<(tl y).length:=kb.mpr hy;rw[rV y];exact e2
theorem yD (x:Str) (i j:Nat):tl (strSub x i j)=((tl x).drop i).take (j-i):=strSub_toList x i j
theorem vA (x:Str) (i:Nat):tl (strSub x i x.length)=(tl x).drop i:=by
 rw[yD,rV x];exact bU (by rw[cD]<;>omega)
theorem Dy {x y:Str}(hy:tl y≠[]):∀(Zs:List Nat) (a f:Nat),a<=(tl x).length->ChainG x y x.length a Zs f->(∀k,f<=k->¬At x y x.length k) ->
  (partsFrom x y.length a Zs).map tl=zE (tl y) 0 [] ((tl x).drop a)
 | [],a,f,ha,h,hn=>by
  have e:f=a:=h;subst e;show [tl (strSub x f x.length)]=_;have run:=Eu (tl y) (tl x) ((tl x).length-f) f [] (by omega) (λk h1 _=>Ll hy (hn k h1));have e2:f+((tl x).length-f)=(tl x).length:=by omega
  rw[e2,sJ,Ew,dP,bU (by rw[cD]<;>omega)]at run;rw[run,vA]
 | c::r,a,f,ha,h,hn=>by
  obtain⟨h1,h2,h3,h4⟩:=h;have hc:c+y.length<=x.length:=h2.1;have hx:=rV x;have hl:=rV y;have ih:=Dy hy r (c+y.length) f (by omega) h4 hn;show tl (strSub x a c)::(partsFrom x y.length (c+y.length) r).map tl=_;have run:=Eu (tl y) (tl x) (c-a) a [] (by omega) (λk k1 k2=>Ll hy (h3 k k1 (by omega)));have e2:a+(c-a)=c:=by omega
  rw[e2,dP,Vh hy ((Kv hy c).mp h2)]at run;rw[run,ih,yD,hl]
theorem Mt (x y:Str) (hy:tl y≠[]) (hk:¬Builtin.Str.strKind x<Builtin.Str.strKind y):(Txt.split x y).map tl=zE (tl y) 0 [] (tl x):=by
 obtain⟨f,g,hn⟩:=occ_tight x y (aao hy);have key:=Dy hy _ 0 f (ck _) g hn;rw[fg]at key;have DB:occurrences x y 0 x.length (x.length+1)=[]->[x].map tl=zE (tl y) 0 [] (tl x):=λho=>by
  rw[ho]at key;rw[<-key];show [tl x]=[tl (strSub x 0 x.length)];rw[sub_whole]
 unfold Txt.split;by_cases h1:(decide (x.length<y.length)||decide (Builtin.Str.strKind x<Builtin.Str.strKind y))=true
 ·rw[if_pos h1];have hX:x.length<y.length:=by
   simp only[fZ,decide_eq_true_eq]at h1;rcases h1 with h|h
   ·exact h
   ·exact absurd h hk
  refine DB ?_;cases ho:occurrences x y 0 x.length (x.length+1)with
  | nil=>rfl
  | cons c r =>
   rw[ho]at g;have hc:c+y.length<=x.length:=g.2.1.1;omega
 ·rw[if_neg h1];by_cases h2:(occurrences x y 0 x.length (x.length+1)).isEmpty=true
  ·rw[if_pos h2];exact DB (gs.mp h2)
  ·rw[if_neg h2,partsBetween_eq];exact key
theorem S9 {x y:Str}(h:y.cps.all (· < 256)=true):¬Builtin.Str.strKind x<Builtin.Str.strKind y:=by
 have e:Builtin.Str.strKind y=1:=by unfold vq;rw[if_pos h]
 rw[e];unfold vq
 split
 ·omega
 ·split<;>omega
theorem vL (x y:Str) (hy:tl y≠[]) :
  Txt.partition x y=(match par (tl y) [] (tl x)with|some (a,b)=>(⟨a.toArray⟩,y,⟨b.toArray⟩)|none=>(x,Str.empty,Str.empty)):=by
 have hx:=rV x;have hl:=rV y;rcases ZV x y with⟨e,hn⟩|⟨i,e,hi,hn⟩
 ·have run:=EW (tl y) (tl x) (tl x).length 0 [] (by omega) (λk _ _=>Ll hy (hn k));rw[fg,gk,sJ]at run;rw[e,run]<;>rfl
 ·have hb:i+y.length<=x.length:=hi.1;have run:=EW (tl y) (tl x) i 0 [] (by omega) (λk _ k2=>Ll hy (hn k (by omega)));rw[fg,gk,dP,VE hy ((Kv hy i).mp hi)]at run;rw[e,run];have e1:strSub x 0 i=⟨((tl x).take i).toArray⟩:=BY (by rw[yD,fg,XT]);have e2:strSub x (i+y.length) x.length=⟨((tl x).drop (i+(tl y).length)).toArray⟩:=BY (by rw[vA,hl]);rw[e1,e2]<;>rfl
def Hi (S:List Nat):List (List Nat)->List Nat
 | []=>[]
 | [p]=>p
 | p::q::r=>p++(S++Hi S (q::r))
theorem K0 (y:Str):∀parts:List Str,tl (Str.join y parts)=Hi (tl y) (parts.map tl)
 | []=>rfl
 | [_]=>rfl
 | x::z::r=>by
  show tl (x++y++Str.join y (z::r))=tl x++(tl y++Hi (tl y) ((z::r).map tl));rw[Dl,Dl,K0 y (z::r),cE]
theorem join_eq (y:Str) (parts:List Str):Txt.join y parts=Str.join y parts:=glued_eq_join y parts
end TL
end
namespace L2
open PySem PySem.Spec PyProof.Rows
theorem Df:∀l:List (Str×Tok),Vals ((l.map (·.1)).map V.str) (strValues l)
 | []=>.nil
 | p::r=>.cons ⟨p.2,rfl⟩ (Df r)
theorem rA:∀{ys:List Str}{us:List Value},Vals (ys.map V.str) us->StrsAre us ys
 | [],_,.nil=>.nil
 | y::ys,_,.cons r t=>by
  obtain⟨k,rfl⟩:=r;exact .cons y k (rA t)
def tY (ys:List Str):Hp->VK->Prop:=λH Q=>∀p,H p=none->Q (.ref p) (upd H p (.lst (ys.map V.str)))
section
variable {X:Cx}{pins:List (Addr×Obj)}{σ:St}{H:Hp}{s:Shared}{Q:VK}
theorem yV {l:List (Str×Tok)}{ys:List Str}{k:Nat}(I:Inv X pins σ H s) (e:l.map (·.1)=ys) (hz:ys.length<=sizeLine) (h:tY ys H Q) :
  EP X pins σ Q (.ref s.heap.objs.size) { s with toks:=k,heap:=s.heap.push { cls:=.type "list",data:=.seq (strValues l).toArray } }:=by
 have hp:=I.df.fresh (aQ _);refine⟨.ref s.heap.objs.size,upd H s.heap.objs.size (.lst (ys.map V.str)),I.laid (λb u q=>Heap.get?_push_of_some _ q) (aQ _) ⟨by rw[ax];exact hz,strValues l,_,?_,Heap.get?_push_size _ rfl⟩,rfl,h _ hp⟩;rw[<-e];exact Df l
theorem BH {x y z:Str}{t u v:Tok}{k:Nat}(I:Inv X pins σ H s) (h:∀p,H p=none->Q (.ref p) (upd H p (.tup [.str x,.str y,.str z]))) :
  EP X pins σ Q (.ref s.heap.objs.size) { s with toks:=k,heap:=s.heap.push { cls:=.type "tuple",data:=.seq [Value.str x t,.str y u,.str z v].toArray } }:=by
 have hp:=I.df.fresh (aQ _);exact⟨.ref s.heap.objs.size,upd H s.heap.objs.size (.tup [.str x,.str y,.str z]),I.laid (λb u q=>Heap.get?_push_of_some _ q) (aQ _)
  ⟨by show 3<=sizeLine;decide,[Value.str x t,.str y u,.str z v],.cons ⟨t,rfl⟩ (.cons ⟨u,rfl⟩ (.cons ⟨v,rfl⟩ .nil)),_,Heap.get?_push_size _ rfl,rfl,_,rfl⟩,rfl,h _ hp⟩
end
section
variable {X:Cx}
theorem PH:Od X "str.split" (λx xs H Q=>∃a b,x = .str a/\xs=[.str b]/\(b.length==0)=false/\a.length+2<=sizeLine/\tY (Txt.split a b) H Q):=by
 intro pins s σ H x xs v us Q I rx rs h;obtain⟨a,b,rfl,rfl,hb,hz,h⟩:=h;obtain⟨t,rfl⟩:=rx;cases rs with
 | cons r1 rs =>
  cases rs;obtain⟨u,rfl⟩:=r1;have hl:(Txt.split a b).length<=sizeLine:=bw (ZT a b) hz;have hn:(Builtin.Str.partsBetween a (Builtin.Str.occurrences a b 0 a.length (a.length+1)) b.length).length<=sizeLine:=by
   have e1:=StrLaws.occ_length_le a b 0 a.length (a.length+1);rw[length_partsBetween];omega
  cases h1:(decide (a.length<b.length)||decide (Builtin.Str.strKind a<Builtin.Str.strKind b))
  ·cases hf:(Builtin.Str.occurrences a b 0 a.length (a.length+1)).isEmpty
   ·refine call_meets F.slot_str_split (typeIs_str _ _ _) F.entry_str_split (F.args_str_split_2 _ _) (meets_str_split_sep a b t u h1 hb hf (by omega) hn) ?_;show EP X pins σ Q (.ref s.heap.objs.size) { s with toks:=_,heap:=s.heap.push { cls:=.type "list",data:=.seq (strsFrom s.toks (Builtin.Str.partsBetween a (Builtin.Str.occurrences a b 0 a.length (a.length+1)) b.length)).toArray } };rw[strsFrom_eq];exact yV (ys:=Txt.split a b) I ((numbered_texts _ _).trans ((if_neg (ne_true_of_eq_false h1)).trans (if_neg (ne_true_of_eq_false hf))).symm) hl h
   ·refine call_meets F.slot_str_split (typeIs_str _ _ _) F.entry_str_split (F.args_str_split_2 _ _) (meets_str_split_not_found a b t u h1 hb hf) ?_;exact yV (l:=[(a,t)]) (ys:=Txt.split a b) (k:=s.toks) I ((if_neg (ne_true_of_eq_false h1)).trans (if_pos hf)).symm hl h
  ·refine call_meets F.slot_str_split (typeIs_str _ _ _) F.entry_str_split (F.args_str_split_2 _ _) (meets_str_split_cannot_occur a b t u h1) ?_;exact yV (l:=[(a,t)]) (ys:=Txt.split a b) (k:=s.toks) I (if_pos h1).symm hl h
theorem Fe:Od X "str.partition" (λx xs H Q=>∃a b,x = .str a/\xs=[.str b]/\(b.length==0)=false/\a.length<=sizeLine /\
  ∀p,H p=none->Q (.ref p) (upd H p (.tup [.str (Txt.partition a b).1,.str (Txt.partition a b).2.1,.str (Txt.partition a b).2.2]))):=by
 intro pins s σ H x xs v us Q I rx rs h;obtain⟨a,b,rfl,rfl,hb,hz,h⟩:=h;obtain⟨t,rfl⟩:=rx;cases rs with
 | cons r1 rs =>
  cases rs;obtain⟨u,rfl⟩:=r1;refine call_meets F.slot_str_partition (typeIs_str _ _ _) F.entry_str_partition (F.args_str_partition_2 _ _) (meets_str_partition a b t u hb hz) ?_;unfold Txt.partition at h
  revert h
  cases Builtin.Str.occurrences a b 0 a.length 1 with
  | nil=>intro h;exact BH I h
  | cons i r=>intro h;exact BH I h
theorem S1:Od X "str.join" (λx xs H Q=>∃a p,∃ys:List Str,x = .str a/\xs=[.ref p]/\(dO X.K H p (ys.map V.str)\/lR X.K H p (ys.map V.str)) /\
  (ys.map (·.length)).sum+ys.length * a.length<=16777216/\Q (.str (Txt.join a ys)) H):=by
 intro pins s σ H x xs v us Q I rx rs h;obtain⟨a,p,ys,rfl,rfl,hp,hz,h⟩:=h;obtain⟨t,rfl⟩:=rx;cases rs with
 | cons r1 rs =>
  cases rs;cases r1;rcases hp with hp|hp
  ·obtain⟨cC,r,⟨o,n,ho,hc,_,hd⟩,_⟩:=I.list hp;exact ZX (items:=cC.toArray) ⟨o,ho,hc,n,hd⟩ (by rw[L6];exact rA r) hz λt' k=>⟨.str _,H,I.tok k,⟨t',rfl⟩,h⟩
  ·obtain⟨cC,r,ht,_⟩:=I.tuple hp;exact ZW (items:=cC.toArray) ht (by rw[L6];exact rA r) hz λt' k=>⟨.str _,H,I.tok k,⟨t',rfl⟩,h⟩
theorem mt0 {id:String}{C:Str->Prop}{g:Str->V}(rule:∀(a:Str) (t:Tok) (s:Shared) (Q:Value->Shared->Prop),C a->(∀(u:Value) (k:Nat),RelV (g a) u->Q u { s with toks:=k }) ->
  wpAny (model X.prog X.w) X.A (call (.builtin id) [.str a t]) Q X.xe s):Od X id (λx xs H Q=>∃a,x = .str a/\xs=[]/\C a/\Q (g a) H):=by
 intro pins s σ H x xs v us Q I rx rs h;obtain⟨a,rfl,rfl,hc,h⟩:=h;obtain⟨t,rfl⟩:=rx;cases rs;exact rule a t s _ hc λu k r=>⟨g a,H,I.tok k,r,h⟩
theorem JO:Od X "str.isdigit" (λx xs H Q=>∃a,x = .str a/\xs=[]/\True/\Q (.bl (Txt.isdigit a)) H) :=
 mt0 (C:=λ_=>True) (g:=λa=>.bl (Txt.isdigit a)) λ_ _ s _ _ h=>PySem.SC.isdigit (h _ s.toks rfl)
theorem JP:Od X "str.isalpha" (λx xs H Q=>∃a,x = .str a/\xs=[]/\True/\Q (.bl (Txt.isalpha a)) H) :=
 mt0 (C:=λ_=>True) (g:=λa=>.bl (Txt.isalpha a)) λ_ _ s _ _ h=>PySem.SC.isalpha (h _ s.toks rfl)
theorem JQ:Od X "str.isalnum" (λx xs H Q=>∃a,x = .str a/\xs=[]/\True/\Q (.bl (Txt.isalnum a)) H) :=
 mt0 (C:=λ_=>True) (g:=λa=>.bl (Txt.isalnum a)) λ_ _ s _ _ h=>PySem.SC.isalnum (h _ s.toks rfl)
theorem FI:sW X (.type "int") (λxs H Q=>∃a n,xs=[.str a]/\vn a=some n/\a.length<=640/\Q (.int n) H):=by
 intro pins s σ H xs us Q I rs h;obtain⟨a,n,rfl,hn,hl,h⟩:=h;cases rs with
 | cons r1 rs =>
  cases rs;obtain⟨t,rfl⟩:=r1;exact PySem.W.KIN.call_text hn hl ⟨.int n,H,I.tok _,⟨_,rfl⟩,h⟩
end
section
variable {X:Cx}{o e:Expr}{to te:TE}
def tM0 (r:V->List V->Hp->VK->Prop) (to:TE):TE:=λσ H Q=>to σ H λx H1=>(∃a,x = .str a)/\r x [] H1 Q
def OL (r:V->List V->Hp->VK->Prop) (to te:TE):TE:=λσ H Q=>to σ H λx H1=>(∃a,x = .str a)/\te σ H1 λy H2=>r x [y] H2 Q
theorem Po {id:String}{name:Str}{apos pos:Pos}{r:V->List V->Hp->VK->Prop}(slot:Slot "str" name id) (ty:typeOf (.builtin id)=pure (.type "method_descriptor")) (rule:Od X id r) (ho:PE X o to)
  (pz:attributeBase o name X.env (eval o X.env)=eval o X.env:=by rfl) (kP:(apos.endLine==pos.line)=true:=by rfl):PE X (.Call (.Attribute o name apos) [] [] pos) (tM0 r to):=by
 intro pins s σ H Q I h;refine PySem.Call_method0 pz kP (fu (ho pins s σ H _ I h) λv s1 ⟨x,H1,I1,r1,q1⟩=>?_);obtain⟨⟨a,rfl⟩,q1⟩:=q1;obtain⟨t,rfl⟩:=_root_.id r1;exact⟨"str",_,F.plainAttrs_str,slot,ty,typeIs_str _ _ _,(λ_ e=>nomatch e),Calls.callWith_builtin rfl (KI (rule pins s1 σ H1 _ [] _ [] Q I1 r1 .nil q1))⟩
theorem Pn {id:String}{name:Str}{apos pos:Pos}{r:V->List V->Hp->VK->Prop}(slot:Slot "str" name id) (ty:typeOf (.builtin id)=pure (.type "method_descriptor")) (rule:Od X id r) (ho:PE X o to) (he:PE X e te)
  (hs:starEach [e] X.env=[(false,eval e X.env)]:=by rfl) (pz:attributeBase o name X.env (eval o X.env)=eval o X.env:=by rfl) (kP:(apos.endLine==pos.line)=true:=by rfl) :
  PE X (.Call (.Attribute o name apos) [e] [] pos) (OL r to te):=by
 intro pins s σ H Q I h;refine PySem.Call_method1 pz hs kP (fu (ho pins s σ H _ I h) λv s1 ⟨x,H1,I1,r1,q1⟩=>?_);obtain⟨⟨a,rfl⟩,q1⟩:=q1;obtain⟨t,rfl⟩:=_root_.id r1;refine⟨"str",_,F.plainAttrs_str,slot,ty,typeIs_str _ _ _,(λ_ e=>nomatch e),Calls.callWith_builtin rfl (Calls.evalArgs_plain (Calls.spliced_cons ?_))⟩;exact fu (he pins s1 σ H1 _ I1 q1) λu s2 ⟨y,H2,I2,r2,q2⟩=>Calls.spliced_nil (rule pins s2 σ H2 _ [y] _ [u] Q I2 r1 (.cons r2 .nil) q2)
theorem G4 {apos pos:Pos}(ho:PE X o to) (he:PE X e te) (hs:starEach [e] X.env=[(false,eval e X.env)]:=by rfl) (pz:attributeBase o "split" X.env (eval o X.env)=eval o X.env:=by rfl) (kP:(apos.endLine==pos.line)=true:=by rfl) :
  PE X (.Call (.Attribute o "split" apos) [e] [] pos) (OL (λx xs H Q=>∃a b,x = .str a/\xs=[.str b]/\(b.length==0)=false/\a.length+2<=sizeLine/\tY (Txt.split a b) H Q) to te) :=
 Pn F.slot_str_split F.type_str_split PH ho he hs pz kP
theorem xA {apos pos:Pos}(ho:PE X o to) (he:PE X e te) (hs:starEach [e] X.env=[(false,eval e X.env)]:=by rfl) (pz:attributeBase o "partition" X.env (eval o X.env)=eval o X.env:=by rfl) (kP:(apos.endLine==pos.line)=true:=by rfl) :
  PE X (.Call (.Attribute o "partition" apos) [e] [] pos) (OL (λx xs H Q=>∃a b,x = .str a/\xs=[.str b]/\(b.length==0)=false/\a.length<=sizeLine /\
   ∀p,H p=none->Q (.ref p) (upd H p (.tup [.str (Txt.partition a b).1,.str (Txt.partition a b).2.1,.str (Txt.partition a b).2.2]))) to te) :=
 Pn F.slot_str_partition F.type_str_partition Fe ho he hs pz kP
theorem SQ {apos pos:Pos}(ho:PE X o to) (he:PE X e te) (hs:starEach [e] X.env=[(false,eval e X.env)]:=by rfl) (pz:attributeBase o "join" X.env (eval o X.env)=eval o X.env:=by rfl) (kP:(apos.endLine==pos.line)=true:=by rfl) :
  PE X (.Call (.Attribute o "join" apos) [e] [] pos) (OL (λx xs H Q=>∃a p,∃ys:List Str,x = .str a/\xs=[.ref p]/\(dO X.K H p (ys.map V.str)\/lR X.K H p (ys.map V.str)) /\
   (ys.map (·.length)).sum+ys.length * a.length<=16777216/\Q (.str (Txt.join a ys)) H) to te) :=
 Pn F.slot_str_join F.type_str_join S1 ho he hs pz kP
end
end L2
namespace L2
open PySem PySem.Spec PyProof.Rows
theorem Dg:∀{vs:List Value}{ns:List Int},IntsAre vs ns->Vals (ns.map V.int) vs
 | _,_,.nil=>.nil
 | _,_,.cons n t h=>.cons ⟨t,rfl⟩ (Dg h)
def Zz (H:Hp):Prop:=∀b,H b=none\/∃o xs,H b=some (.oJ o (.lst xs))
theorem Yy {P:Program}{w:World}{K:aa}{mg mb:Str->Option Value}{CX:NQ}{k:Nat}{fa a:Addr}{fd:FuncData}{x:Str}{sp:Sp}{cV:Shared}{vs:List Value}{ns:List Int}
  (KX:K.In cV.heap) (Iv:cV.heap.Ns mainGlobals mg) (hb:cV.heap.Ns builtinsNs mb) (hbb:∀x:Str,x ≠ "__name__" -> mb x=bootBuiltins x) (Wh:cV.heap.NoLimit) (hg:cV.gens = #[])
  (ha:cV.heap.get? a=some { cls:=.type "list",data:=.seq vs.toArray }) (hi:IntsAre vs ns) (hl:ns.length<=sizeLine) (hr:jY k callerA)
  (F:∀base:Heap,K.In base->base.Ns mainGlobals mg->pR P w K mg base CX k fa fd [x] sp) (QH:∀(s:Shared) (u:Value),BindsTo s fd ⟨[u],[]⟩ [(x,u)])
  (F9:∀H:Hp,Zz H->dO K H a (ns.map V.int)->sp [.ref a] H (λv _=>v = .bl true) λ_ _ _=>False)
  (Wv:∀H e s',CX [] H cV (λ_ _ _=>False) e s'->False) :
  codeAny (model P w) callerA (.call (.ref fa) ⟨[.ref a],[]⟩) (λr s'=>r = .ok (.ret (.bool true))/\OldK cV.heap s'.heap/\s'.os=cV.os/\AllBare s'.gens) cV:=by
 have rv:=Dg hi;have aan:=hi.length;have core:∀H:Hp,Zz H->dO K H a (ns.map V.int)->tF P w H cV.heap->(∀b,H b≠none->b=a)->(H a≠none->K.lookup a=none) ->
   codeAny (model P w) callerA (.call (.ref fa) ⟨[.ref a],[]⟩) (λr s'=>r = .ok (.ret (.bool true))/\OldK cV.heap s'.heap/\s'.os=cV.os/\AllBare s'.gens) cV:=by
  intro H hO hS df hA hK;have yg:∀{b:Addr}{o:Obj},cV.heap.get? b=some o->H b=none->(xI cV.heap H).get? b=some o:=λe n=>Hs e n
  have Uw:∀{b:Addr}{o:Obj}{es:Array DictEntry}{ep:Nat},cV.heap.get? b=some o->o.data = .dict es ep->H b=none:=λ{b o es ep} e d=>by
   cases q:H b with
   | none=>rfl
   | some u =>
    have e':b=a:=hA b (by rw[q];simp);subst e';rw[ha]at e;cases e;have d':Data.seq vs.toArray _=Data.dict es ep:=d;cases d'
  have SX:∀{b:Addr}{m:Str->Option Value},cV.heap.Ns b m->(xI cV.heap H).Ns b m:=λ{b m} ⟨o,es,ep,e,d,r⟩=>⟨o,es,ep,yg e (Uw e d),d,r⟩
  have Zb:K.In (xI cV.heap H):=λb o e=>yg (KX b o e) (by
   cases q:H b with
   | none=>rfl
   | some u =>
    have e':b=a:=hA b (by rw[q];simp);subst e';rw[hK (by rw[q];simp)]at e;cases e)
  have hM:Mod K mg (xI cV.heap H):=⟨Zb,SX Iv,⟨mb,SX hb,hbb⟩,let ⟨mc,h1,h2⟩:=Wh;⟨mc,SX h1,h2⟩⟩;have e0:F1 P w K mg (xI cV.heap H) callerA [] cV H:=⟨rfl,hM,λb o e=>Lj e,tI (DK _ _),trivial,λb hb=>absurd (show b∈([]:List Addr) from hb) (by simp),df,.of_eq hg⟩;refine codeAny_mono ((F _ Zb (SX Iv)).run callerA [] cV H ⟨[.ref a],[]⟩ [.ref a] [.ref a] _ _ hr e0 (QH cV (.ref a)) (.cons rfl .nil) (F9 H hO hS)) λr s' h=>?_
  cases r with
  | error e=>exact(Wv H e s' h).elim
  | ok fl =>
   cases fl with
   | next=>exact dB h
   | brk=>exact dB h
   | cont=>exact dB h
   | ret u =>
    obtain⟨v,H',os,bare,un,Tj,r',q⟩:=h;have q':v = .bl true:=q;subst q';obtain rfl:u=Value.bool true:=r';refine⟨rfl,OldK.of_keep λb o e=>?_,os,bare⟩;cases q:H b with
    | none=>exact un.keep b o e q (by intro z;exact absurd (show b∈([]:List Addr) from z) (by simp)) (by simp)
    | some u =>
     rcases hO b with z|⟨ob,xs,z⟩
     ·rw[q]at z;cases z
     ·have z2:=un.xN b ob _ z;obtain⟨e1,_⟩:=df b _ z;obtain⟨e2,_⟩:=Tj b _ z2;rw[e]at e1;cases e1;exact e2
 cases hk:K.lookup a with
 | some o =>
  have e:=KX a o hk;rw[ha]at e;cases e;refine core (λ_=>none) (λ_=>.inl rfl) (.inr ⟨_,vs.toArray,_,hk,rfl,rfl,rfl,by rw[aZ,aan];exact hl,by simpa using rv⟩) (λb u z=>by have z':(none:Option HO)=some u:=z;cases z') (λb z=>absurd rfl z) λz=>absurd rfl z
 | none =>
  refine core (λb=>if b=a then some (.oJ { cls:=.type "list",data:=.seq vs.toArray } (.lst (ns.map V.int))) else none) (λb=>?_) (.inl (.inr ⟨{ cls:=.type "list",data:=.seq vs.toArray },if_pos rfl⟩)) (λb u z=>?_) (λb z=>?_) λ_=>hk
  ·by_cases hb:b=a
   ·exact .inr ⟨_,_,if_pos hb⟩
   ·exact .inl (if_neg hb)
  ·by_cases hb:b=a
   ·have z':=(if_pos hb).symm.trans z;cases z';subst hb;exact⟨ha,by rw[ax];exact hl,vs,_,rv,ha⟩
   ·have z':=(if_neg hb).symm.trans z;cases z'
  ·by_cases hb:b=a
   ·exact hb
   ·exact absurd (if_neg hb) z
end L2
namespace L2
open PySem PySem.Spec PyProof.Rows
def inClass (s:Stmt) (j:Nat):Stmt:=match s with
 | .ClassDef _ _ _ body _ _ _ _ _ _ _=>body.getD j (.Pass ⟨0,0,0,0⟩)
 | _=>.Pass ⟨0,0,0,0⟩
def vf (s:Stmt):Arguments:=match s with
 | .FunctionDef _ a _ _ _ _ _ _ _ _=>a
 | _=>{ posonlyargs:=[],args:=[],vararg:=none,kwonlyargs:=[],kw_defaults:=[],kwarg:=none,defaults:=[] }
def se (s:Stmt):List Stmt:=match s with
 | .FunctionDef _ _ b _ _ _ _ _ _ _=>b
 | _=>[]
def aY (s:Stmt):Scope:=match s with
 | .FunctionDef _ _ _ _ _ _ sc _ _ _=>sc
 | _=>{ kind:=.function,names:=[],isGenerator:=false,isCoroutine:=false }
abbrev NR:NQ:=λ_ _ _ _ _ _=>False
abbrev E0:XK:=λ_ _ _=>False
theorem G6 {X:Cx}:Passes NR X E0:=λ_ _ _ _ _ _ _ h=>h.elim
structure ez (K:aa) (x qual:Str) (st:Stmt) (f:Addr) (fd:FuncData):Prop where
 ex:∃(oc:Value) (od:Option Addr) (kV doc pm:Value) (an:Option Addr) (gw ct:Value) (MS:Array (Option Value)),
  fd=jy x qual (vf st) (se st) (aY st) .none kV doc pm an gw ct/\K.lookup f=some ⟨oc,od,.func fd,MS⟩/\oV K gw qual=true
 kp:cp K (.ref f)=true
section
variable {P:Program}{w:World}{K:aa}{mg:Str->Option Value}{base:Heap}
theorem ez.ok {x qual:Str}{st:Stmt}{f:Addr}{fd:FuncData}{N ps:List Str}{k:Nat}{sp:Sp}(F:ez K x qual st f fd) (S:bu N ps (aY st)) (len:∀vs H Q E,sp vs H Q E->vs.length=ps.length)
  (QG:∀(gw:Value) (A:Around) (outer:List Env) (s:Shared) (H:Hp) (vs:List V) (Q:VK) (E:XK),jY k (A.deeper (envOfC qual (aY st) s.heap.objs.size f gw))->sp vs H Q E ->
   ∃t,NO (Ko NR P w K mg base N qual (aY st) f gw A outer s H E).nox (se st) t/\t { nx:=λ_ H'=>Q .gi H',rt:=Q } (start N vs) H):pR P w K mg base NR (k+1) f fd ps sp:=by
 obtain⟨oc,od,kV,doc,pm,an,gw,ct,MS,rfl,lk,RJ⟩:=F.ex;refine Zh lk RJ S len λA outer s H vs Q E hr F9=>?_
 obtain⟨t,h,q⟩:=QG gw A outer s H vs Q E hr F9;exact⟨t,h.nox,q⟩
theorem ez.binds {x qual:Str}{st:Stmt}{f:Addr}{fd:FuncData}{ps:List Str}(F:ez K x qual st f fd)
  (h:∀(kV doc pm:Value) (an:Option Addr) (gw ct:Value) (us:List Value),us.length=ps.length->bindArgs (jy x qual (vf st) (se st) (aY st) .none kV doc pm an gw ct) ⟨us,[]⟩=pure (ps.zip us)):Binds K fd ps []:=by
 obtain⟨oc,od,kV,doc,pm,an,gw,ct,MS,rfl,lk,RJ⟩:=F.ex;exact .all (h kV doc pm an gw ct)
theorem QV {x qual:Str}{st:Stmt}{f:Addr}{oc:Value}{od an:Option Addr}{MS:Array (Option Value)}{kV doc pm gw ct:Value}(l:K.lookup f=some ⟨oc,od,.func (jy x qual (vf st) (se st) (aY st) .none kV doc pm an gw ct),MS⟩)
  (c:oV K gw qual=true) (k:cp K (.ref f)=true):ez K x qual st f (jy x qual (vf st) (se st) (aY st) .none kV doc pm an gw ct):=⟨⟨oc,od,kV,doc,pm,an,gw,ct,MS,rfl,l,c⟩,k⟩
end
theorem cF {A:Around}{k:Nat}(hr:jY k A):A.units+1<cLine:=yz (Nat.add_le_add_left (by decide:1<=64) _) hr.units
section
variable {X:Cx}
theorem pv (i:Nat){x:Str}{pos:Pos}(hN:X.N[i]?=some x:=by rfl) (hv:XB X.env.scope x:=by first|exact aX rfl|exact KN (aX rfl)|exact KN (KN rfl)) (hd:(x==("__debug__" : Str))=false:=by decide)
  (RJ:(x==("__classdict__" : Str))=false:=by decide):PE X (.Name x pos) (tj i):=VB hN hv hd RJ
theorem oT:sW X (.builtin "len") (λxs H Q=>∃a bD,xs=[V.ref a]/\H a=some (.dK bD)/\Q (.int bD.length) H):=by
 intro pins s σ H xs us Q I r h;obtain⟨a,bD,rfl,ha,q⟩:=h;obtain⟨u,rfl,ru⟩:=vals1 r;cases ru;exact Zr I (.inl ha) λt s' I'=>⟨.int bD.length,H,I',⟨t,rfl⟩,q⟩
end
end L2
set_option maxRecDepth 100000
set_option maxHeartbeats 2000000
namespace L2
open PySem PySem.Spec PyProof.Rows
open PySem.W (WData Codec OpenSpec Well WellAll ReadsW ReadsAllW)
mutual
inductive Dw (K:aa) (H:Hp):V->WData->Prop
 | gi:Dw K H .gi .none
 | bl (b:Bool):Dw K H (.bl b) (.bool b)
 | int (i:Int):Dw K H (.int i) (.int i)
 | str (x:Str):Dw K H (.str x) (.str x)
 | Iw (b:Array UInt8):Dw K H (.Iw b) (.bytes b.toList)
 | lst {a:Addr}{xs:List V}{ds:List WData}:dO K H a xs->sT K H xs ds->Dw K H (.ref a) (.list ds)
 | tup {a:Addr}{xs:List V}{ds:List WData}:lR K H a xs->sT K H xs ds->Dw K H (.ref a) (.tuple ds)
inductive sT (K:aa) (H:Hp):List V->List WData->Prop
 | nil:sT K H [] []
 | cons {v:V}{vs:List V}{d:WData}{ds:List WData}:Dw K H v d->sT K H vs ds->sT K H (v::vs) (d::ds)
end
theorem LM {K:aa}{H:Hp}:∀ns:List Int,sT K H (ns.map V.int) (ns.map WData.int)
 | []=>.nil
 | n::r=>.cons (.int n) (LM r)
theorem Lu {K:aa}{H:Hp}:∀(ns:List Int) (xs:List V),sT K H xs (ns.map WData.int)->xs=ns.map V.int
 | [],xs,h=>by
  cases h;rfl
 | n::r,xs,h=>by
  cases h with
  | cons h1 h2 =>
   cases h1;rw[Lu r _ h2]<;>rfl
section
variable {P:Program}{w:World}{K:aa}{H:Hp}{h:Heap}{R:L1}{cl:Str->Option Addr}
theorem Vg {a:Addr}{xs:List V}(df:tF P w H h) (KX:K.In h) (q:dO K H a xs):∃(cC:List Value) (o:Obj) (n:Nat),Vals xs cC/\h.get? a=some o/\o.cls = .type "list" /\ o.data = .seq cC.toArray n:=by
 rcases q with q|⟨o,cC,n,e,hc,_,hd,_,hv⟩
 ·obtain⟨_,cC,n,hv,e⟩:=(show gB P w H h a (.lst xs) from q.ok df);exact⟨cC,_,n,hv,e,rfl,rfl⟩
 ·exact⟨cC.toList,o,n,hv,KX _ _ e,hc,by simp[hd]⟩
theorem Vf {a:Addr}{xs:List V}(df:tF P w H h) (KX:K.In h) (q:lR K H a xs):∃(cC:List Value) (o:Obj) (n:Nat),Vals xs cC/\h.get? a=some o/\o.cls = .type "tuple" /\ o.data = .seq cC.toArray n:=by
 rcases q with q|⟨o,cC,n,e,hc,hd,_,hv⟩
 ·obtain⟨_,cC,hv,o,e,hc,n,hd⟩:=(show gB P w H h a (.tup xs) from q.ok df);exact⟨cC,o,n,hv,e,hc,hd⟩
 ·exact⟨cC.toList,o,n,hv,KX _ _ e,hc,by simp[hd]⟩
mutual
theorem Dw.reads (df:tF P w H h) (KX:K.In h):∀(d:WData) (v:V) (u:Value),Dw K H v d->RelV v u->∃as,ReadsW R cl h u d as
 | .none,_,_,x,r=>by
  cases x;cases r;exact⟨_,ReadsW.none⟩
 | .bool b,_,_,x,r=>by
  cases x;cases r;exact⟨_,ReadsW.bool b⟩
 | .int i,_,_,x,r=>by
  cases x;obtain⟨t,rfl⟩:=r;exact⟨_,ReadsW.int i t⟩
 | .str s,_,_,x,r=>by
  cases x;obtain⟨t,rfl⟩:=r;exact⟨_,ReadsW.str s t⟩
 | .bytes b,_,_,x,r=>by
  cases x;obtain⟨t,rfl⟩:=r;exact⟨_,ReadsW.bytes _ t⟩
 | .list ds,_,_,x,r=>by
  cases x with
  | lst hs ha =>
   cases r;obtain⟨cC,o,n,rv,ho,hc,hd⟩:=Vg df KX hs;obtain⟨as,hr⟩:=Dw.readsAll df KX ds _ cC ha rv;exact⟨_,ReadsW.list ho hc hd hr⟩
 | .tuple ds,_,_,x,r=>by
  cases x with
  | tup hs ha =>
   cases r;obtain⟨cC,o,n,rv,ho,hc,hd⟩:=Vf df KX hs;obtain⟨as,hr⟩:=Dw.readsAll df KX ds _ cC ha rv;exact⟨_,ReadsW.tuple ho hc hd hr⟩
 | .float _,_,_,x,_=>by cases x
 | .dict _,_,_,x,_=>by cases x
 | .bytearray _,_,_,x,_=>by cases x
 | .set _,_,_,x,_=>by cases x
 | .frozenset _,_,_,x,_=>by cases x
 | .obj _ _,_,_,x,_=>by cases x
theorem Dw.readsAll (df:tF P w H h) (KX:K.In h):∀(ds:List WData) (vs:List V) (us:List Value),sT K H vs ds->Vals vs us->∃as,ReadsAllW R cl h us ds as
 | [],_,_,x,r=>by
  cases x;cases r;exact⟨_,ReadsAllW.nil⟩
 | d::ds,_,_,x,r=>by
  cases x with
  | cons h1 h2 =>
   cases r with
   | cons r1 r2 =>
    obtain⟨as,q1⟩:=Dw.reads df KX d _ _ h1 r1;obtain⟨bs,q2⟩:=Dw.readsAll df KX ds _ _ h2 r2;exact⟨_,ReadsAllW.cons q1 q2⟩
end
end
mutual
def Lf:WData->Bool
 | .none=>true
 | .bool _=>true
 | .int _=>true
 | .str _=>true
 | .bytes _=>true
 | .list xs=>As xs
 | .tuple xs=>As xs
 | _=>false
def As:List WData->Bool
 | []=>true
 | x::r=>Lf x&&As r
end
theorem G2 {α:Type}{f:α->WData}(h:∀a,Lf (f a)=true):∀l:List α,As (l.map f)=true
 | []=>rfl
 | x::r=>by
  show(Lf (f x)&&As (r.map f))=true;rw[h x,G2 h r]<;>rfl
theorem t4:∀(c:Codec) (a:c.denote),Lf (c.enc a)=true
 | .unit,_=>rfl
 | .bool,_=>rfl
 | .int _ _,_=>rfl
 | .nat _ _,_=>rfl
 | .u8,_=>rfl
 | .bytes _ _,_=>rfl
 | .text _ _ _ _,_=>rfl
 | .list _ _ c,a=>G2 (λx=>t4 c x) a
 | .pair c d,a=>by
  show(Lf (c.enc a.1)&&(Lf (d.enc a.2)&&true))=true;rw[t4 c a.1,t4 d a.2]<;>rfl
 | .triple c d e,a=>by
  show(Lf (c.enc a.1)&&(Lf (d.enc a.2.1)&&(Lf (e.enc a.2.2)&&true)))=true;rw[t4 c a.1,t4 d a.2.1,t4 e a.2.2]<;>rfl
 | .option c,none=>rfl
 | .option c,some x=>t4 c x
theorem Dv:∀(cs:List Codec) (a:Codec.denoteAll cs),As (Codec.encAll cs a)=true
 | [],_=>rfl
 | c::cs,a=>by
  show(Lf (c.enc a.1)&&As (Codec.encAll cs a.2))=true;rw[t4 c a.1,Dv cs a.2]<;>rfl
theorem we:∀{xs:List WData}{d:WData},d∈xs->d.weight<=WData.weightAll xs
 | [],d,h=>absurd h (by simp)
 | x::r,d,h=>by
  show d.weight<=x.weight+1+WData.weightAll r;rcases ah.mp h with e|m
  ·rw[e];omega
  ·have z:=we m;omega
def toV:Value->V
 | .none=>.gi
 | .bool b=>.bl b
 | .int i _=>.int i
 | .str x _=>.str x
 | .bytes b _=>.Iw b
 | .ref a=>.ref a
 | _=>.gi
def NP (A:List Addr):Value->Prop
 | .none=>True
 | .bool _=>True
 | .int _ _=>True
 | .str _ _=>True
 | .bytes _ _=>True
 | .ref a=>a∈A
 | _=>False
theorem NP.mono {A B:List Addr}(h:∀a∈A,a∈B):∀{u:Value},NP A u->NP B u:=λ{u} x=>by
 cases u with
 | ref a=>exact h a x
 | none=>trivial
 | bool b=>trivial
 | int i t=>trivial
 | str s t=>trivial
 | bytes b t=>trivial
 | _=>exact dB x
theorem O8 {A:List Addr}{u:Value}(x:NP A u):RelV (toV u) u:=by
 cases u with
 | ref a=>rfl
 | none=>rfl
 | bool b=>rfl
 | int i t=>exact⟨t,rfl⟩
 | str s t=>exact⟨t,rfl⟩
 | bytes b t=>exact⟨t,rfl⟩
 | _=>exact dB x
theorem qK {A:List Addr}:∀{vs:List Value},(∀u∈vs,NP A u)->Vals (vs.map toV) vs
 | [],_=>.nil
 | u::r,h=>.cons (O8 (h u (au ..))) (qK λx hx=>h x (ai _ hx))
def sX (h:Heap) (A:List Addr) (a:Addr):Prop:=∃vs:List Value,vs.length<=sizeLine/\(∀u∈vs,NP A u) /\
 (h.get? a=some { cls:=.type "list",data:=.seq vs.toArray }\/h.get? a=some { cls:=.type "tuple",data:=.seq vs.toArray })
theorem sX.mono {h:Heap}{A B:List Addr}{a:Addr}(k:∀a∈A,a∈B) (x:sX h A a):sX h B a:=by
 obtain⟨vs,h1,h2,h3⟩:=x;exact⟨vs,h1,λu hu=>(h2 u hu).mono k,h3⟩
theorem pX {P:Params}{h:Heap}:∀{vs:List Value}{ds:List WData},WellAll P h vs ds->vs.length=ds.length
 | _,_,.nil=>rfl
 | _,_,.cons _ b=>by
  show _+1=_+1;rw[pX b]
theorem Dd {P:Params}{h:Heap}{v:Value}{ds:List WData}(x:Well P h v (.list ds)):∃(a:Addr) (vs:List Value),v = .ref a/\h.get? a=some { cls:=.type "list",data:=.seq vs.toArray }/\WellAll P h vs ds:=by
 cases x with
 | list ho r9=>exact⟨_,_,rfl,ho,r9⟩
theorem AW {P:Params}{h:Heap}{v:Value}{ds:List WData}(x:Well P h v (.tuple ds)):∃(a:Addr) (vs:List Value),v = .ref a/\h.get? a=some { cls:=.type "tuple",data:=.seq vs.toArray }/\WellAll P h vs ds:=by
 cases x with
 | tuple ho r9=>exact⟨_,_,rfl,ho,r9⟩
theorem De {P:Params}{h:Heap}{us:List Value}{d:WData}{ds:List WData}(x:WellAll P h us (d::ds)):∃(v:Value) (vs:List Value),us=v::vs/\Well P h v d/\WellAll P h vs ds:=by
 cases x with
 | cons a b=>exact⟨_,_,rfl,a,b⟩
theorem Lo {n:Nat}(h:n<=1048576):n<=sizeLine:=bw h (by decide)
section
variable {P:Params}{h:Heap}
mutual
theorem Rm:∀(d:WData) (v:Value),Well P h v d->Lf d=true->d.weight<=1048576->∃A:List Addr,NP A v/\∀a∈A,sX h A a
 | .none,_,x,_,_=>by
  cases x;exact⟨[],trivial,λa m=>absurd m (by simp)⟩
 | .bool b,_,x,_,_=>by
  cases x;exact⟨[],trivial,λa m=>absurd m (by simp)⟩
 | .int i,_,x,_,_=>by
  cases x;exact⟨[],trivial,λa m=>absurd m (by simp)⟩
 | .str s,_,x,_,_=>by
  cases x;exact⟨[],trivial,λa m=>absurd m (by simp)⟩
 | .bytes b,_,x,_,_=>by
  cases x;exact⟨[],trivial,λa m=>absurd m (by simp)⟩
 | .list ds,_,x,p,z=>by
  obtain⟨a,vs,rfl,ho,r9⟩:=Dd x;have z2:WData.weightAll ds<=1048576:=z;obtain⟨A,h1,h2⟩:=yj ds _ r9 p λd hd=>bw (we hd) z2
  have k:∀b∈A,b∈a::A:=λb hb=>ai _ hb
  refine⟨a::A,au ..,λb hb=>?_⟩;rcases ah.mp hb with e|m
  ·rw[e];exact⟨vs,Lo (by rw[pX r9];exact bw (Ad ds) z2),λu hu=>(h1 u hu).mono k,.inl ho⟩
  ·exact(h2 b m).mono k
 | .tuple ds,_,x,p,z=>by
  obtain⟨a,vs,rfl,ho,r9⟩:=AW x;have z2:WData.weightAll ds<=1048576:=z;obtain⟨A,h1,h2⟩:=yj ds _ r9 p λd hd=>bw (we hd) z2
  have k:∀b∈A,b∈a::A:=λb hb=>ai _ hb
  refine⟨a::A,au ..,λb hb=>?_⟩;rcases ah.mp hb with e|m
  ·rw[e];exact⟨vs,Lo (by rw[pX r9];exact bw (Ad ds) z2),λu hu=>(h1 u hu).mono k,.inr ho⟩
  ·exact(h2 b m).mono k
 | .float _,_,_,p,_=>dc (show false=true from p)
 | .dict _,_,_,p,_=>dc (show false=true from p)
 | .bytearray _,_,_,p,_=>dc (show false=true from p)
 | .set _,_,_,p,_=>dc (show false=true from p)
 | .frozenset _,_,_,p,_=>dc (show false=true from p)
 | .obj _ _,_,_,p,_=>dc (show false=true from p)
theorem yj:∀(ds:List WData) (vs:List Value),WellAll P h vs ds->As ds=true->(∀d∈ds,d.weight<=1048576)->∃A:List Addr,(∀u∈vs,NP A u)/\∀a∈A,sX h A a
 | [],_,x,_,_=>by
  cases x;exact⟨[],λu m=>absurd m (by simp),λa m=>absurd m (by simp)⟩
 | d::ds,_,x,p,z=>by
  obtain⟨v,vs,rfl,x1,x2⟩:=De x;have q:Lf d=true/\As ds=true:=KS.mp p;obtain⟨A,a1,a2⟩:=Rm d v x1 q.1 (z d (au ..));obtain⟨B,b1,b2⟩:=yj ds vs x2 q.2 λe he=>z e (ai _ he)
  have kA:∀b∈A,b∈A++B:=λb hb=>aN.mpr (.inl hb)
  have kB:∀b∈B,b∈A++B:=λb hb=>aN.mpr (.inr hb)
  refine⟨A++B,λu hu=>?_,λb hb=>?_⟩
  ·rcases ah.mp hu with e|m
   ·rw[e];exact a1.mono kA
   ·exact(b1 u m).mono kB
  ·rcases aN.mp hb with m|m
   ·exact(a2 b m).mono kA
   ·exact(b2 b m).mono kB
end
end
def Tn (o:Obj):Option HO:=match o.data with
 | .seq vs _=>if (o.cls==Value.type "list")=true then some (.oJ o (.lst (vs.toList.map toV))) else some (.oJ o (.tup (vs.toList.map toV)))
 | _=>none
def sE (K:aa) (h:Heap) (A:List Addr):Hp:=λb=>if b∈A then(if (K.lookup b).isNone=true then(h.get? b).bind Tn else none) else none
def D9 (H:Hp):Prop:=∀b,H b=none\/∃o u,H b=some (.oJ o u)
theorem Ho (vs:List Value):Tn { cls:=.type "list",data:=.seq vs.toArray }=some (.oJ { cls:=.type "list",data:=.seq vs.toArray } (.lst (vs.map toV))):=by
 show(if (Value.type "list" == Value.type "list")=true then some (HO.oJ { cls:=.type "list",data:=.seq vs.toArray } (.lst (vs.toArray.toList.map toV))) else some (HO.oJ { cls:=.type "list",data:=.seq vs.toArray } (.tup (vs.toArray.toList.map toV))))=_;rw[if_pos (beq_self_eq_true _)]
theorem Hn (vs:List Value):Tn { cls:=.type "tuple",data:=.seq vs.toArray }=some (.oJ { cls:=.type "tuple",data:=.seq vs.toArray } (.tup (vs.map toV))):=by
 show(if (Value.type "tuple" == Value.type "list")=true then some (HO.oJ { cls:=.type "tuple",data:=.seq vs.toArray } (.lst (vs.toArray.toList.map toV))) else some (HO.oJ { cls:=.type "tuple",data:=.seq vs.toArray } (.tup (vs.toArray.toList.map toV))))=_;rw[if_neg (by decide)]
section
variable {P:Program}{w:World}{K:aa}{h:Heap}{A:List Addr}
theorem AR {b:Addr}{o:Obj}(hb:b∈A) (hk:K.lookup b=none) (e:h.get? b=some o):sE K h A b=Tn o:=by
 unfold sE;rw[if_pos hb,hk,if_pos (show(none:Option Obj).isNone=true from rfl),e]<;>rfl
theorem SW {b:Addr}{u:HO}(q:sE K h A b=some u):b∈A/\K.lookup b=none:=by
 unfold sE at q;by_cases hb:b∈A
 ·rw[if_pos hb]at q;cases hk:K.lookup b with
  | none=>exact⟨hb,rfl⟩
  | some o =>
   rw[hk,if_neg (by simp)]at q;cases q
 ·rw[if_neg hb]at q;cases q
theorem AQ (ar:∀a∈A,sX h A a){b:Addr}{u:HO}(q:sE K h A b=some u):K.lookup b=none/\∃vs:List Value,vs.length<=sizeLine/\(∀u∈vs,NP A u) /\
  ((h.get? b=some { cls:=.type "list",data:=.seq vs.toArray }/\u = .oJ { cls:=.type "list",data:=.seq vs.toArray } (.lst (vs.map toV))) \/
   (h.get? b=some { cls:=.type "tuple",data:=.seq vs.toArray }/\u = .oJ { cls:=.type "tuple",data:=.seq vs.toArray } (.tup (vs.map toV)))):=by
 obtain⟨hb,hk⟩:=SW q;obtain⟨vs,h1,h2,h3⟩:=ar b hb;refine⟨hk,vs,h1,h2,?_⟩;rcases h3 with e|e
 ·rw[AR hb hk e,Ho]at q;exact .inl ⟨e,(cH q).symm⟩
 ·rw[AR hb hk e,Hn]at q;exact .inr ⟨e,(cH q).symm⟩
theorem NN (ar:∀a∈A,sX h A a):D9 (sE K h A):=λb=>by
 cases q:sE K h A b with
 | none=>exact .inl rfl
 | some u =>
  obtain⟨_,vs,_,_,⟨_,e⟩|⟨_,e⟩⟩:=AQ ar q
  ·exact .inr ⟨_,_,by rw[e]⟩
  ·exact .inr ⟨_,_,by rw[e]⟩
theorem T9 (ar:∀a∈A,sX h A a):tF P w (sE K h A) h:=λb u q=>by
 obtain⟨_,vs,h1,h2,⟨e,rfl⟩|⟨e,rfl⟩⟩:=AQ ar q
 ·exact⟨e,by rw[ax];exact h1,vs,_,qK h2,e⟩
 ·exact⟨e,by rw[ax];exact h1,vs,qK h2,_,e,rfl,_,rfl⟩
theorem AD {c c':Value}{vs us:List Value}(e:(some { cls:=c,data:=.seq vs.toArray }:Option Obj)=some { cls:=c',data:=.seq us.toArray }):c=c'/\vs=us:=by
 have e1:=cH e;have e2:c=c':=congrArg Obj.cls e1;have e3:Data.seq vs.toArray=Data.seq us.toArray:=congrArg Obj.data e1;injection e3 with e4
 refine⟨e2,?_⟩;have e5:=congrArg UZ e4;simpa using e5
theorem aa2 (KX:K.In h) (ar:∀a∈A,sX h A a){a:Addr}{vs:List Value}(ha:a∈A) (e:h.get? a=some { cls:=.type "list",data:=.seq vs.toArray }):(∀u∈vs,NP A u)/\dO K (sE K h A) a (vs.map toV):=by
 obtain⟨us,h1,h2,h3⟩:=ar a ha;have hu:us=vs:=by
  rcases h3 with q|q
  ·rw[e]at q;exact(AD q).2.symm
  ·rw[e]at q;exact absurd (Value.type.inj (AD q).1) (by decide)
 subst hu;refine⟨h2,?_⟩;cases hk:K.lookup a with
 | none=>exact .inl (.inr ⟨_,by rw[AR ha hk e,Ho]⟩)
 | some o =>
  have e2:=KX a o hk;rw[e]at e2;obtain rfl:=cH e2;exact .inr ⟨_,us.toArray,_,hk,rfl,rfl,rfl,by rw[aZ];exact h1,by simpa using qK h2⟩
theorem aa1 (KX:K.In h) (ar:∀a∈A,sX h A a){a:Addr}{vs:List Value}(ha:a∈A) (e:h.get? a=some { cls:=.type "tuple",data:=.seq vs.toArray }):(∀u∈vs,NP A u)/\lR K (sE K h A) a (vs.map toV):=by
 obtain⟨us,h1,h2,h3⟩:=ar a ha;have hu:us=vs:=by
  rcases h3 with q|q
  ·rw[e]at q;exact absurd (Value.type.inj (AD q).1) (by decide)
  ·rw[e]at q;exact(AD q).2.symm
 subst hu;refine⟨h2,?_⟩;cases hk:K.lookup a with
 | none=>exact .inl (.inr ⟨_,by rw[AR ha hk e,Hn]⟩)
 | some o =>
  have e2:=KX a o hk;rw[e]at e2;obtain rfl:=cH e2;exact .inr ⟨_,us.toArray,_,hk,rfl,rfl,by rw[aZ];exact h1,by simpa using qK h2⟩
mutual
theorem WG {Pm:Params}(KX:K.In h) (ar:∀a∈A,sX h A a):∀(d:WData) (v:Value),Well Pm h v d->Lf d=true->NP A v->Dw K (sE K h A) (toV v) d
 | .none,_,x,_,_=>by
  cases x;exact .gi
 | .bool b,_,x,_,_=>by
  cases x;exact .bl b
 | .int i,_,x,_,_=>by
  cases x;exact .int i
 | .str s,_,x,_,_=>by
  cases x;exact .str s
 | .bytes b,_,x,_,_=>by
  cases x;have z:=Dw.Iw (K:=K) (H:=sE K h A) b.toArray;exact z
 | .list ds,_,x,p,hu=>by
  obtain⟨a,vs,rfl,ho,r9⟩:=Dd x;obtain⟨h2,hs⟩:=aa2 KX ar hu ho;exact .lst hs (FD KX ar ds _ r9 p h2)
 | .tuple ds,_,x,p,hu=>by
  obtain⟨a,vs,rfl,ho,r9⟩:=AW x;obtain⟨h2,hs⟩:=aa1 KX ar hu ho;exact .tup hs (FD KX ar ds _ r9 p h2)
 | .float _,_,_,p,_=>dc (show false=true from p)
 | .dict _,_,_,p,_=>dc (show false=true from p)
 | .bytearray _,_,_,p,_=>dc (show false=true from p)
 | .set _,_,_,p,_=>dc (show false=true from p)
 | .frozenset _,_,_,p,_=>dc (show false=true from p)
 | .obj _ _,_,_,p,_=>dc (show false=true from p)
theorem FD {Pm:Params}(KX:K.In h) (ar:∀a∈A,sX h A a):∀(ds:List WData) (vs:List Value),WellAll Pm h vs ds->As ds=true->(∀u∈vs,NP A u)->sT K (sE K h A) (vs.map toV) ds
 | [],_,x,_,_=>by
  cases x;exact .nil
 | d::ds,_,x,p,hu=>by
  obtain⟨v,vs,rfl,x1,x2⟩:=De x;have q:Lf d=true/\As ds=true:=KS.mp p;exact .cons (WG KX ar d v x1 q.1 (hu _ (au ..))) (FD KX ar ds vs x2 q.2 λu m=>hu u (ai _ m))
end
end
theorem Mu {P:Program}{w:World}{K:aa}{mg mb:Str->Option Value}{CX:NQ}{k:Nat}{fa:Addr}{fd:FuncData}{ps:List Str}{sp:Sp}{cV:Shared}{vals:List Value}{ds:List WData}{R:L1}{cl:Str->Option Addr}{d0:WData}
  (KX:K.In cV.heap) (Iv:cV.heap.Ns mainGlobals mg) (hb:cV.heap.Ns builtinsNs mb) (hbb:∀x:Str,x ≠ "__name__" -> mb x=bootBuiltins x) (Wh:cV.heap.NoLimit) (hg:cV.gens = #[])
  (V9:WellAll w.params cV.heap vals ds) (AJ:As ds=true) (hwt:∀d∈ds,d.weight<=1048576) (hr:jY k callerA)
  (F:∀base:Heap,K.In base->base.Ns mainGlobals mg->pR P w K mg base CX k fa fd ps sp) (QH:∀(s:Shared) (us:List Value),us.length=ps.length->BindsTo s fd ⟨us,[]⟩ (ps.zip us)) (hlen:ds.length=ps.length)
  (F9:∀(H:Hp) (xs:List V),D9 H->sT K H xs ds->sp xs H (λv H'=>Dw K H' v d0) λ_ _ _=>False)
  (Wv:∀H e s',CX [] H cV (λ_ _ _=>False) e s'->False) :
  codeAny (model P w) callerA (.call (.ref fa) ⟨vals,[]⟩) (λr s'=>∃u as,r = .ok (.ret u)/\ReadsW R cl s'.heap u d0 as/\OldK cV.heap s'.heap/\s'.os=cV.os/\AllBare s'.gens) cV:=by
 obtain⟨A,ho,ar⟩:=yj ds vals V9 AJ hwt;have hO:D9 (sE K cV.heap A):=NN ar;have df:tF P w (sE K cV.heap A) cV.heap:=T9 ar;have hS:=FD KX ar ds vals V9 AJ ho;have hV:=qK ho;have hK:∀b u,sE K cV.heap A b=some u->K.lookup b=none:=λb u q=>(AQ ar q).1
 have Uw:∀{b:Addr}{o:Obj}{es:Array DictEntry}{ep:Nat},cV.heap.get? b=some o->o.data = .dict es ep->sE K cV.heap A b=none:=λ{b o es ep} e d=>by
  cases q:sE K cV.heap A b with
  | none=>rfl
  | some u =>
   obtain⟨_,vs,_,_,⟨e2,_⟩|⟨e2,_⟩⟩:=AQ ar q
   ·rw[e2]at e;cases e;have d':Data.seq vs.toArray _=Data.dict es ep:=d;cases d'
   ·rw[e2]at e;cases e;have d':Data.seq vs.toArray _=Data.dict es ep:=d;cases d'
 generalize sE K cV.heap A=H at hO df hS hK Uw;have yg:∀{b:Addr}{o:Obj},cV.heap.get? b=some o->H b=none->(xI cV.heap H).get? b=some o:=λe n=>Hs e n
 have SX:∀{b:Addr}{m:Str->Option Value},cV.heap.Ns b m->(xI cV.heap H).Ns b m:=λ{b m} ⟨o,es,ep,e,d,r⟩=>⟨o,es,ep,yg e (Uw e d),d,r⟩
 have nK:∀b o,K.lookup b=some o->H b=none:=λb o e=>by
  cases q:H b with
  | none=>rfl
  | some u =>
   rw[hK b u q]at e;cases e
 have Zb:K.In (xI cV.heap H):=λb o e=>yg (KX b o e) (nK b o e)
 have hM:Mod K mg (xI cV.heap H):=⟨Zb,SX Iv,⟨mb,SX hb,hbb⟩,let ⟨mc,h1,h2⟩:=Wh;⟨mc,SX h1,h2⟩⟩;have e0:F1 P w K mg (xI cV.heap H) callerA [] cV H:=⟨rfl,hM,λb o e=>Lj e,tI (DK _ _),trivial,λb hb=>absurd (show b∈([]:List Addr) from hb) (by simp),df,.of_eq hg⟩;have hl:vals.length=ps.length:=by rw[pX V9];exact hlen
 refine codeAny_mono ((F _ Zb (SX Iv)).run callerA [] cV H ⟨vals,[]⟩ vals (vals.map toV) _ _ hr e0 (QH cV vals hl) hV (F9 H _ hO hS)) λr s' x=>?_
 cases r with
 | error e=>exact(Wv H e s' x).elim
 | ok fl =>
  cases fl with
  | next=>exact dB x
  | brk=>exact dB x
  | cont=>exact dB x
  | ret u =>
   obtain⟨v,H',os,bare,un,Tj,r',q⟩:=x;have kept:∀b o,cV.heap.get? b=some o->s'.heap.get? b=some o:=λb o e=>by
    cases q2:H b with
    | none=>exact un.keep b o e q2 (by intro z;exact absurd (show b∈([]:List Addr) from z) (by simp)) (by simp)
    | some u2 =>
     rcases hO b with z|⟨ob,u3,z⟩
     ·rw[q2]at z;cases z
     ·have z2:=un.xN b ob _ z;obtain⟨e1,_⟩:=df b _ z;obtain⟨e2,_⟩:=Tj b _ z2;rw[e]at e1;cases e1;exact e2
   have KX':K.In s'.heap:=λb o e=>kept b o (KX b o e)
   obtain⟨as,Fo⟩:=Dw.reads (R:=R) (cl:=cl) Tj KX' d0 v u q r';exact⟨u,as,rfl,Fo,OldK.of_keep kept,os,bare⟩
theorem BG {ds:List WData}(h:WData.layableAll ds=true):∀d∈ds,d.weight<=1048576:=λd hd =>
 (PySem.W.layableW_iff.mp (bC.mp h d hd)).2.2
theorem B2:∀(cs:List Codec) (a:Codec.denoteAll cs),(Codec.encAll cs a).length=cs.length
 | [],_=>rfl
 | c::cs,a=>by
  show(Codec.encAll cs a.2).length+1=cs.length+1;rw[B2 cs a.2]
theorem Mc {r:OpenSpec}{k:Nat}{q:Program}{loose:List Str}{XP:(Str->Option Value)->Heap->Prop}{YP:World->Heap->Prop}{d:DefRec}{K:Params->aa}{CX:World->NQ}{ps:List Str}{sp:World->Sp}
  (Qt:r.wellSaid=true) (hdf:d.params.defaults=[]) (hlen:r.args.length=ps.length) (hr:jY k callerA)
  (hY:∀(w:World) (h:Heap),YP w h->(K w.params).In h)
  (F:∀(w:World) (mg:Str->Option Value) (fa:Addr) (h:Heap),YP w h->(K w.params).In h->h.Ns mainGlobals mg->mg d.name=some (.ref fa) ->
   ∃fd:FuncData,(∀(s:Shared) (us:List Value),us.length=ps.length->BindsTo s fd ⟨us,[]⟩ (ps.zip us)) /\
    ∀base:Heap,(K w.params).In base->base.Ns mainGlobals mg->pR r.prog w (K w.params) mg base (CX w) k fa fd ps (sp w))
  (F9:∀(w:World) (H:Hp) (xs:List V) (a:Codec.denoteAll r.args),D9 H->Codec.withinAll r.args a=true->Codec.app r.args r.asked a=true->sT (K w.params) H xs (Codec.encAll r.args a) ->
   sp w xs H (λv H'=>Dw (K w.params) H' v (r.ret.enc (Codec.app r.args r.f a))) λ_ _ _=>False)
  (Wv:∀(w:World) (H:Hp) (s:Shared) (e:Value) (s':Shared),CX w [] H s (λ_ _ _=>False) e s'->False) :
  Oe q loose XP YP r d [] (λf vs=>XF f vs):=by
 intro w Dr cV mg mb G Y fa o pm cd doc dV kV ho hd RJ hD hmg hg args vals as aaA aaH Fo V9 YU;obtain⟨a,e1,e2⟩:=PySem.W.os_pre_some aaA;obtain⟨e3,hwi⟩:=Codec.encAll_of_decAll r.args args a e1;subst e3;have KX:=hY w _ Y;obtain⟨fd,hb,hF⟩:=F w mg fa _ Y KX G.T.g hmg;refine PySem.W.enter_call (codeAny_mono (Mu (R:=[]) (cl:=classAt Dr.heap) (d0:=r.ret.enc (Codec.app r.args r.f a)) KX G.T.g G.T.b G.T.builtins G.T.nolimit hg V9 (Dv _ _) (BG aaH) hr hF hb (by rw[B2];exact hlen)
  (λH xs hO hS=>F9 w H xs a hO hwi e2 hS) λH e s'=>Wv w H cV e s') λr' s' hq=>?_)
 obtain⟨u,Oc,rfl,h1,h2,h3,h4⟩:=hq;exact⟨.inl ⟨u,_,Oc,rfl,λ_=>rfl,h1,(OpenSpec.post_iff Qt hwi _ _).mpr rfl,λz=>dc (show false=true from z)⟩,h2,h3,h4⟩
theorem IH {r:OpenSpec}{k:Nat}{q:Program}{loose:List Str}{XP:(Str->Option Value)->Heap->Prop}{YP:World->Heap->Prop}{d:DefRec}{K:Params->aa}{CX:NQ}{ps:List Str}{sp:aa->Sp}
  (Qt:r.wellSaid=true) (hdf:d.params.defaults=[]) (hlen:r.args.length=ps.length) (hr:jY k callerA)
  (hY:∀(w:World) (h:Heap),YP w h->(K w.params).In h)
  (F:∀(w:World) (mg:Str->Option Value) (fa:Addr) (h:Heap),YP w h->(K w.params).In h->h.Ns mainGlobals mg->mg d.name=some (.ref fa) ->
   ∃fd:FuncData,(∀(s:Shared) (us:List Value),us.length=ps.length->BindsTo s fd ⟨us,[]⟩ (ps.zip us)) /\
    ∀base:Heap,(K w.params).In base->base.Ns mainGlobals mg->pR r.prog w (K w.params) mg base CX k fa fd ps (sp (K w.params)))
  (F9:∀(K:aa) (H:Hp) (xs:List V) (a:Codec.denoteAll r.args),D9 H->Codec.withinAll r.args a=true->Codec.app r.args r.asked a=true->sT K H xs (Codec.encAll r.args a) ->
   sp K xs H (λv H'=>Dw K H' v (r.ret.enc (Codec.app r.args r.f a))) λ_ _ _=>False)
  (Wv:∀(H:Hp) (s:Shared) (e:Value) (s':Shared),CX [] H s (λ_ _ _=>False) e s'->False) :
  Oe q loose XP YP r d [] (λf vs=>XF f vs) :=
 Mc (K:=K) (CX:=λ_=>CX) (sp:=λw=>sp (K w.params)) Qt hdf hlen hr hY F (λw H xs a h1 h2 h3 h4=>F9 (K w.params) H xs a h1 h2 h3 h4) λ_ H s e s'=>Wv H s e s'
end L2
namespace Mx
open Md16
theorem xJ (k n:Nat):Known.has k .none_ n=false:=by cases k<;>rfl
theorem AL {n m:Nat}(h:n % 2=m % 2):(m / 2=n / 2)↔(m=n):=by omega
theorem r8:∀(k:Nat) (t:Known) (n m:Nat),n<2 ^ k->m<2 ^ k->(t.put k n).has k m=(decide (m=n)||t.has k m)
 | 0,t,n,m,hn,hm=>by
  have e:m=n:=by simp at hn hm;omega
  subst e;simp[Known.put,Known.has]
 | k+1,t,n,m,hn,hm=>by
  have To:n / 2<2 ^ k:=by rw[dW]at hn;omega
  have RE:m / 2<2 ^ k:=by rw[dW]at hm;omega
  cases t with
  | none_ =>
   by_cases h1:n % 2=0<;>by_cases h2:m % 2=0
   ·simp only[Known.put,if_pos h1,Known.has,if_pos h2,r8 k .none_ _ _ To RE,xJ,kK];rw[decide_eq_decide];exact AL (by omega)
   ·simp only[Known.put,if_pos h1,Known.has,if_neg h2,xJ,kK]
    symm;rw[decide_eq_false_iff_not];omega
   ·simp only[Known.put,if_neg h1,Known.has,if_pos h2,xJ,kK]
    symm;rw[decide_eq_false_iff_not];omega
   ·simp only[Known.put,if_neg h1,Known.has,if_neg h2,r8 k .none_ _ _ To RE,xJ,kK];rw[decide_eq_decide];exact AL (by omega)
  | fork h a b =>
   by_cases h1:n % 2=0<;>by_cases h2:m % 2=0
   ·simp only[Known.put,if_pos h1,Known.has,if_pos h2,r8 k a _ _ To RE]
    congr 1;rw[decide_eq_decide];exact AL (by omega)
   ·simp only[Known.put,if_pos h1,Known.has,if_neg h2];rw[decide_eq_false (by omega:¬m=n),jh]
   ·simp only[Known.put,if_neg h1,Known.has,if_pos h2];rw[decide_eq_false (by omega:¬m=n),jh]
   ·simp only[Known.put,if_neg h1,Known.has,if_neg h2,r8 k b _ _ To RE]
    congr 1;rw[decide_eq_decide];exact AL (by omega)
structure XE (nc:Nat) (b:Bound):Prop where
 clk:b.clock<nc
 num:b.n<=15
structure EOk (nc ns np:Nat) (e:Edge):Prop where
 fr:e.from_<np
 to:e.to_<np
 wh:∀b∈e.when_,XE nc b
 st:∀c∈e.sets,c<nc
 mt:match e.meet with | .alone=>True | .gives s=>s<ns | .takes s=>s<ns
structure MOk (nc ns:Nat) (m:Machine):Prop where
 pl:m.places.length<=8
 nd:(m.places.map (·.1)).Nodup
 nm:∀p∈m.places,name p.1=true
 bd:∀p∈m.places,∀b∈p.2,XE nc b
 el:m.edges.length<=16
 ed:∀e∈m.edges,EOk nc ns m.places.length e
structure NOk (N:Net):Prop where
 cl:N.clocks.length<=4
 Zt:N.clocks.Nodup
 Q5:∀w∈N.clocks,name w=true
 sl:N.signals.length<=8
 snd:N.signals.Nodup
 Xg:∀w∈N.signals,name w=true
 ml:N.machines.length<=3
 Yx:(N.machines.map (·.name)).Nodup
 Uz:∀m∈N.machines,name m.name=true
 mo:∀m∈N.machines,MOk N.clocks.length N.signals.length m
 pre:∀m∈N.machines.dropLast,m.places≠[]
structure mm (N:Net):Prop extends NOk N where
 ne:N.machines≠[]
 pne:∀m∈N.machines,m.places≠[]
structure mH (N:Net) (s:State):Prop where
 al:s.at_.length=N.machines.length
 tl:s.time.length=N.clocks.length
 ap:∀(i:Nat) (m:Machine) (p:Nat),N.machines[i]?=some m->s.at_[i]?=some p->p<m.places.length
 tt:∀t∈s.time,t<=16
theorem mH.p8 {N:Net}{s:State}(h:mH N s) (n:NOk N):∀p∈s.at_,p<8:=by
 intro p hp;obtain⟨i,hi,e⟩:=fj hp;have hm:i<N.machines.length:=by rw[<-h.al];exact hi
 have h1:=h.ap i N.machines[i] p (ae hm) (by rw[ae hi,e]);have h2:=(n.mo N.machines[i] (Az hm)).pl;omega
theorem BQ (B:Nat):∀(l l':List Nat) (a a':Nat),l.length=l'.length->(∀x∈l,x<B)->(∀x∈l',x<B)->l.foldl (λn p=>B * n+p) a=l'.foldl (λn p=>B * n+p) a'->a=a'/\l=l'
 | [],[],a,a',_,_,_,e=>⟨e,rfl⟩
 | x::l,y::l',a,a',hl,h1,h2,e=>by
  have ih:=BQ B l l' _ _ (by simpa using hl) (λz hz=>h1 z (ai _ hz)) (λz hz=>h2 z (ai _ hz)) e;have hx:=h1 x (au ..);have hy:=h2 y (au ..);have e1:B * a+x=B * a'+y:=ih.1;have d1:(B * a+x) / B=a:=by rw[uV (by omega),tf hx];rfl
  have d2:(B * a'+y) / B=a':=by rw[uV (by omega),tf hy];rfl
  have ea:a=a':=by rw[<-d1,<-d2,e1]
  subst ea;exact⟨rfl,by rw[show x=y by omega,ih.2]⟩
 | [],_::_,_,_,hl,_,_,_=>by simp at hl
 | _::_,[],_,_,hl,_,_,_=>by simp at hl
theorem fold_lt (B:Nat):∀(l:List Nat) (a:Nat),(∀x∈l,x<B)->l.foldl (λn p=>B * n+p) a<(a+1) * B ^ l.length
 | [],a,_=>by simp
 | x::l,a,h=>by
  have ih:=fold_lt B l (B * a+x) (λz hz=>h z (ai _ hz));have hx:=h x (au ..);rw[bJ,ay,dW];refine bh ih ?_;have:B * a+x+1<=(a+1) * B:=by rw[Nat.add_mul,Z0,ia];omega
  calc(B * a+x+1) * B ^ l.length<=((a+1) * B) * B ^ l.length:=L5 _ this
   _=(a+1) * (B ^ l.length * B):=by rw[kR,ia B]
theorem fold_min (l:List Nat) (a:Nat) (h:∀t∈l,t<=16):l.foldl (λn t=>17 * n+min t 16) a=l.foldl (λn t=>17 * n+t) a:=by
 induction l generalizing a with
 | nil=>rfl
 | cons x r ih =>
  rw[bJ,bJ,oW (h x (au ..))];exact ih _ λt ht=>h t (ai _ ht)
theorem code_inj {N:Net}(n:NOk N){s t:State}(hs:mH N s) (ht:mH N t) (e:code s=code t):s=t:=by
 unfold code at e;have h1:=BQ 8 s.at_ t.at_ _ _ (by rw[hs.al,ht.al]) (hs.p8 n) (ht.p8 n) e;rw[fold_min _ _ hs.tt,fold_min _ _ ht.tt]at h1;have h2:=BQ 17 s.time t.time 0 0 (by rw[hs.tl,ht.tl]) (λx hx=>by have:=hs.tt x hx;omega) (λx hx=>by have:=ht.tt x hx;omega) h1.1;cases s;cases t;simp only[State.mk.injEq];exact⟨h1.2,h2.2⟩
theorem Dt {B k n:Nat}(hB:0<B) (h:k<=n):B ^ k<=B ^ n:=oh hB h
theorem vh {N:Net}(n:NOk N){s:State}(hs:mH N s):code s<2 ^ BITS:=by
 unfold code;rw[fold_min _ _ hs.tt];have h1:=fold_lt 17 s.time 0 (λx hx=>by have:=hs.tt x hx;omega);have h2:=fold_lt 8 s.at_ (s.time.foldl (λn t=>17 * n+t) 0) (hs.p8 n);have l1:(17:Nat) ^ s.time.length<=17 ^ 4:=Dt (by omega) (by rw[hs.tl];exact n.cl);have l2:(8:Nat) ^ s.at_.length<=8 ^ 3:=Dt (by omega) (by rw[hs.al];exact n.ml);refine bh h2 ?_
 calc _<=17 ^ 4 * 8 ^ 3:=Nat.mul_le_mul (by omega) l2
  _<=2 ^ BITS:=by decide
def Holds (N:Net) (k:Known) (S:State->Prop):Prop:=∀s,mH N s->(k.has BITS (code s)=true↔S s)
theorem Holds.nil {N:Net}:Holds N .none_ (λ_=>False):=λs _=>by simp[xJ]
theorem Holds.put {N:Net}(n:NOk N){k:Known}{S:State->Prop}(h:Holds N k S){t:State}(ht:mH N t):Holds N (k.put BITS (code t)) (λs=>s=t\/S s):=λs hs=>by
 rw[r8 _ _ _ _ (vh n ht) (vh n hs),fZ,decide_eq_true_eq,h s hs];constructor
 ·rintro(e|e)
  ·exact .inl (code_inj n hs ht e)
  ·exact .inr e
 ·rintro(rfl|e)
  ·exact .inl rfl
  ·exact .inr e
def gR (bs:List Bound) (c v:Nat):Bool:=bs.all λb=>decide (b.clock≠c)||(if b.most=true then decide (v<=b.n) else decide (b.n<=v))
theorem Ig {nc:Nat}{bs:List Bound}(hb:∀b∈bs,XE nc b) (t:List Nat):all_ 1 bs t=(bF nc).all λc=>gR bs c (min (t.getD c 0) 16):=by
 rw[bQ];simp only[all_,gR,bC,iz,Bound.holds,fZ,decide_eq_true_eq,rg];constructor
 ·intro h c _ b Xy;by_cases e:b.clock=c
  ·right;have:=h b Xy;have n15:=(hb b Xy).num;subst e;by_cases m:b.most=true
   ·rw[if_pos m]at this⊢;rw[decide_eq_true_eq]at this⊢;omega
   ·rw[if_neg m]at this⊢;rw[decide_eq_true_eq]at this⊢;omega
  ·exact .inl e
 ·intro h b Xy;have n15:=(hb b Xy).num;rcases h b.clock (hb b Xy).clk b Xy with e|e
  ·exact absurd rfl e
  ·by_cases m:b.most=true
   ·rw[if_pos m]at e⊢;rw[decide_eq_true_eq]at e⊢;omega
   ·rw[if_neg m]at e⊢;rw[decide_eq_true_eq]at e⊢;omega
def Hf (bs:List Bound) (c:Nat):Nat:=bs.foldl (λa b=>if b.clock=c then max a (if b.most=true then 0 else b.n) else a) 0
def BN (bs:List Bound) (c:Nat):Nat:=bs.foldl (λa b=>if b.clock=c then min a (if b.most=true then b.n else 16) else a) 16
theorem PX (c v:Nat):∀(bs:List Bound) (a:Nat),bs.foldl (λa b=>if b.clock=c then max a (if b.most=true then 0 else b.n) else a) a<=v↔a<=v/\∀b∈bs,b.clock=c->b.most=false->b.n<=v
 | [],a=>by simp
 | b::bs,a=>by
  rw[bJ,PX c v bs];constructor
  ·rintro⟨h1,h2⟩;refine⟨by split at h1<;>omega,λx hx=>?_⟩;rcases ah.mp hx with rfl|hx
   ·intro e m;rw[if_pos e,m]at h1;simp at h1;omega
   ·exact h2 x hx
  ·rintro⟨h1,h2⟩;refine⟨?_,λx hx=>h2 x (ai _ hx)⟩;by_cases e:b.clock=c
   ·rw[if_pos e];cases m:b.most with
    | true=>simpa using h1
    | false =>
     have:=h2 b (au ..) e m;simp;omega
   ·rw[if_neg e];exact h1
theorem Lp (c v:Nat):∀(bs:List Bound) (a:Nat),a<=16->(v<=bs.foldl (λa b=>if b.clock=c then min a (if b.most=true then b.n else 16) else a) a↔v<=a/\∀b∈bs,b.clock=c->b.most=true->v<=b.n)
 | [],a,_=>by simp
 | b::bs,a,ha=>by
  rw[bJ,Lp c v bs _ (by split<;>omega)];constructor
  ·rintro⟨h1,h2⟩;refine⟨by split at h1<;>omega,λx hx=>?_⟩;rcases ah.mp hx with rfl|hx
   ·intro e m;rw[if_pos e,m]at h1;simp at h1;omega
   ·exact h2 x hx
  ·rintro⟨h1,h2⟩;refine⟨?_,λx hx=>h2 x (ai _ hx)⟩;by_cases e:b.clock=c
   ·rw[if_pos e];cases m:b.most with
    | false=>simp;omega
    | true =>
     have:=h2 b (au ..) e m;simp;omega
   ·rw[if_neg e];exact h1
theorem Qw (bs:List Bound) (c v:Nat) (hv:v<=16):(decide (Hf bs c<=v)&&decide (v<=BN bs c))=gR bs c v:=by
 rw[bQ];simp only[aU,decide_eq_true_eq,Hf,BN,PX,Lp c v bs 16 (aQ _),gR,bC,fZ];constructor
 ·rintro⟨⟨_,h1⟩,_,h2⟩ b hb;by_cases e:b.clock=c
  ·right;cases m:b.most with
   | true=>simpa using h2 b hb e m
   | false=>simpa using h1 b hb e m
  ·exact .inl e
 ·intro h;refine⟨⟨ck _,λb hb e m=>?_⟩,hv,λb hb e m=>?_⟩
  ·rcases h b hb with z|z
   ·exact absurd e z
   ·simpa[m]using z
  ·rcases h b hb with z|z
   ·exact absurd e z
   ·simpa[m]using z
def di (N:Net) (at_:List Nat):List (Nat×Nat×Edge) :=
 N.machines.zipIdx.flatMap λm=>(m.1.edges.zipIdx.filter λe=>decide (e.1.from_=at_.getD m.2 0)).map λe=>(m.2,e.2,e.1)
structure Mv where
 step:Step
 es:List Edge
 to_:List Nat
def lN:Meet->Bool
 | .gives _=>true
 | _=>false
def kE:Meet->Bool
 | .takes _=>true
 | _=>false
def m6:Meet->Int
 | .alone=>-1
 | .gives s=>s
 | .takes s=>s
def j4 (at_:List Nat) (p:Nat×Nat×Edge):Mv:=⟨.edge p.1 p.2.1,[p.2.2],at_.set p.1 p.2.2.to_⟩
def fh (at_:List Nat) (p q:Nat×Nat×Edge):Mv:=⟨.both p.1 p.2.1 q.1 q.2.1,[p.2.2,q.2.2],(at_.set p.1 p.2.2.to_).set q.1 q.2.2.to_⟩
def cands (N:Net) (at_:List Nat):List Mv :=
 ⟨.tick,[],at_⟩::(((di N at_).filter λp=>p.2.2.meet == .alone).map (j4 at_) ++
  ((di N at_).filter λp=>lN p.2.2.meet).flatMap λp=>(((di N at_).filter λq=>kE q.2.2.meet).filter λq=>decide (q.1≠p.1)&&decide (m6 q.2.2.meet=m6 p.2.2.meet)).map λq=>fh at_ p q)
def bY (mv:Mv) (c v:Nat):Nat:=if mv.es=[] then min (v+1) 16 else if (mv.es.any λe=>e.sets.contains c)=true then 0 else v
def fV (N:Net) (at_:List Nat):List (List Bound):=(N.machines.zip at_).map λx=>(x.1.places.getD x.2 ([],[])).2
def dG (N:Net) (mv:Mv) (c v:Nat):Bool:=(mv.es.all λe=>gR e.when_ c v)&&(fV N mv.to_).all λbs=>gR bs c (bY mv c v)
def gW (N:Net) (s:State) (mv:Mv):Bool:=(bF N.clocks.length).all λc=>dG N mv c (s.time.getD c 0)
def eD (s:State) (mv:Mv):State:=⟨mv.to_,s.time.zipIdx.map λx=>bY mv x.2 x.1⟩
def nextM (N:Net) (s:State):List (Mv×State):=((cands N s.at_).filter (gW N s)).map λmv=>(mv,eD s mv)
theorem jN {α β:Type}(p:α->Bool) (f:α->List β):∀l:List α,(l.filter p).flatMap f=l.flatMap λx=>if p x=true then f x else []
 | []=>rfl
 | x::l=>by
  rw[cR,dI,<-jN p f l];by_cases h:p x=true
  ·rw[if_pos h,if_pos h,dI]
  ·rw[if_neg h,if_neg h,dP]
theorem JR {α β:Type}(f:α->β):∀l:List α,l.map f=l.flatMap λx=>[f x]
 | []=>rfl
 | x::l=>by rw[aP,dI,<-JR f l];rfl
theorem AM {α β:Type}(f:α->Option β):∀l:List α,l.filterMap f=l.flatMap λx=>(f x).toList
 | []=>rfl
 | x::l=>by
  rw[dI,<-AM f l,fm];cases f x<;>rfl
theorem jr {α β:Type}{f g:α->List β}:∀{l:List α},(∀x∈l,f x=g x)->l.flatMap f=l.flatMap g
 | [],_=>rfl
 | x::l,h=>by rw[dI,dI,h x (au ..),jr λy hy=>h y (ai _ hy)]
theorem zipIdx_get {α:Type}{l:List α}{x:α×Nat}(h:x∈l.zipIdx):l[x.2]?=some x.1:=by
 rw[List.mem_zipIdx_iff_getElem?]at h;simpa using h
theorem ML {α β:Type}(l:List α) (f:Nat->Option α->List β):(bF l.length).flatMap (λi=>f i l[i]?)=l.zipIdx.flatMap λx=>f x.2 (some x.1):=by
 have h:bF l.length=l.zipIdx.map (·.2):=by
  rw[List.zipIdx_map_snd,List.range_eq_range']
 rw[h,ny];refine jr λx hx=>?_
 rw[zipIdx_get hx]
theorem Kq {N:Net}{s:State}:(N.machines.zipIdx.flatMap λm=>(bF m.1.edges.length).filterMap λe=>(ready N 1 s m.2 e).map λx=>(m.2,e,x)) =
  (di N s.at_).filter λp=>all_ 1 p.2.2.when_ s.time:=by
 unfold di;rw[L9];refine jr λm hm=>?_
 have e0:N.machines[m.2]?=some m.1:=zipIdx_get hm;rw[AM];have e1:∀e,(pO (λx=>(m.2,e,x)) (ready N 1 s m.2 e)).toList=(match m.1.edges[e]? with|none=>[]|some x=>if x.from_=s.at_.getD m.2 0/\all_ 1 x.when_ s.time=true then [(m.2,e,x)] else []):=by
  intro e;unfold ready;rw[e0];dsimp only;cases m.1.edges[e]? with
  | none=>rfl
  | some x =>
   dsimp only
   split<;>rfl
 simp only[e1];rw[ML m.1.edges λe o=>(match o with|none=>[]|some x=>if x.from_=s.at_.getD m.2 0/\all_ 1 x.when_ s.time=true then [(m.2,e,x)] else [])];rw[Cs,kX,JR,jN];refine jr λx _=>?_
 dsimp only[Ct];by_cases h1:x.1.from_=s.at_.getD m.2 0<;>by_cases h2:all_ 1 x.1.when_ s.time=true<;>simp[h1,h2]
theorem z7 {N:Net}{at_:List Nat}{p:Nat×Nat×Edge}(h:p∈di N at_):∃m,N.machines[p.1]?=some m/\m.edges[p.2.1]?=some p.2.2/\p.2.2.from_=at_.getD p.1 0:=by
 unfold di at h;obtain⟨m,hm,h⟩:=fI.mp h;obtain⟨e,he,rfl⟩:=aH.mp h;obtain⟨he,hf⟩:=dv.mp he;exact⟨m.1,zipIdx_get hm,zipIdx_get he,of_decide_eq_true hf⟩
theorem Ih {α:Type}(l:List α) (f g:α->Bool):(l.all λc=>f c&&g c)=(l.all f&&l.all g):=by
 rw[bQ];simp only[bC,aU];exact⟨λh=>⟨λx hx=>(h x hx).1,λx hx=>(h x hx).2⟩,λh x hx=>⟨h.1 x hx,h.2 x hx⟩⟩
theorem Ie {α β:Type}(l:List α) (r:List β) (f:α->β->Bool):(l.all λx=>r.all λy=>f x y)=r.all λy=>l.all λx=>f x y:=by
 rw[bQ];simp only[bC];exact⟨λh y hy x hx=>h x hx y hy,λh x hx y hy=>h y hy x hx⟩
theorem kJ {α:Type}{l:List α}{f g:α->Bool}(h:∀x∈l,f x=g x):l.all f=l.all g:=by
 rw[bQ];simp only[bC];exact⟨λq x hx=>by rw[<-h x hx];exact q x hx,λq x hx=>by rw[h x hx];exact q x hx⟩
theorem MO {N:Net}(n:NOk N){at_:List Nat}{bs:List Bound}(h:bs∈fV N at_):∀b∈bs,XE N.clocks.length b:=by
 unfold fV at h;obtain⟨x,hx,rfl⟩:=aH.mp h;intro b hb;have hm:x.1∈N.machines:=(tK hx).1;rw[bB]at hb;cases e:x.1.places[x.2]? with
 | none=>rw[e]at hb;simp at hb
 | some q =>
  rw[e]at hb;exact(n.mo x.1 hm).bd q (aI e) b hb
theorem G0 {N:Net}(n:NOk N) (t:State):rests N 1 t=(bF N.clocks.length).all λc=>(fV N t.at_).all λbs=>gR bs c (min (t.time.getD c 0) 16):=by
 rw[<-Ie];unfold rests;have e:(N.machines.zip t.at_).all (λx=>all_ 1 ((x.1.places.getD x.2 ([],[])).2) t.time)=(fV N t.at_).all λbs=>all_ 1 bs t.time:=by
  unfold fV;rw[zA];rfl
 rw[e];exact kJ λbs hb=>Ig (MO n hb) t.time
theorem Np (l:List Nat) (c:Nat) (h:c<l.length):(l.map λt=>t+1).getD c 0=l.getD c 0+1:=by
 simp[bB,h]
theorem uP (t l:List Nat):(cleared t l).length=t.length:=by simp[cleared]
theorem sy (t l:List Nat) (c:Nat):(cleared t l).getD c 0=if l.contains c=true then 0 else t.getD c 0:=by
 unfold cleared;rw[bB,aR,jU,bB];cases t[c]? with
 | none=>simp
 | some v=>simp
theorem qj {N:Net}{s:State}{mv:Mv}:gW N s mv=((bF N.clocks.length).all (λc=>mv.es.all λe=>gR e.when_ c (s.time.getD c 0))&&(bF N.clocks.length).all λc=>(fV N mv.to_).all λbs=>gR bs c (bY mv c (s.time.getD c 0))):=by
 unfold gW dG;exact Ih _ _ _
theorem mH.Up {N:Net}{s:State}(h:mH N s) (c:Nat):s.time.getD c 0<=16:=by
 rw[bB];cases e:s.time[c]? with
 | none=>simp
 | some v=>simpa using h.tt v (aI e)
theorem Fj {N:Net}(n:NOk N){s:State}(h:mH N s){mv:Mv}{t:State}(ha:t.at_=mv.to_) (hl:t.time.length=s.time.length) (ht:∀c,c<N.clocks.length->min (t.time.getD c 0) 16=bY mv c (s.time.getD c 0)) (x:Step) :
  (pO (λt=>(x,capped t)) (if rests N 1 t=true then some t else none)).toList=if ((bF N.clocks.length).all λc=>(fV N mv.to_).all λbs=>gR bs c (bY mv c (s.time.getD c 0)))=true then [(x,eD s mv)] else []:=by
 have e1:rests N 1 t=(bF N.clocks.length).all λc=>(fV N mv.to_).all λbs=>gR bs c (bY mv c (s.time.getD c 0)):=by
  rw[G0 n,ha];exact kJ λc hc=>by rw[ht c (iz.mp hc)]
 have e2:capped t=eD s mv:=by
  unfold capped eD;rw[ha]
  congr 1
  refine hJ λi=>?_
  rw[aR,aR,jU];by_cases hi:i<s.time.length
  ·have h1:=ht i (by rw[<-h.tl];exact hi);rw[bB,bB]at h1;rw[ae (hl▸hi),ae hi]at h1⊢;simp only[Option.getD_some]at h1;simp only[cY,b4,gk,LARGEST];exact h1
  ·rw[cZ (by omega),cZ (by omega)];rfl
 rw[e1]
 split
 ·show [(x,capped t)]=_;rw[e2]
 ·rfl
theorem DN {α β:Type}(f:α->Option β) (x:α) (l:List α):(x::l).filterMap f=(f x).toList++l.filterMap f:=by
 rw[fm];cases f x<;>rfl
theorem Vp (at_:List Nat) (p:Nat×Nat×Edge) (c v:Nat):bY (j4 at_ p) c v=if p.2.2.sets.contains c=true then 0 else v:=by
 simp[bY,j4]
theorem Vo (at_:List Nat) (p q:Nat×Nat×Edge) (c v:Nat):bY (fh at_ p q) c v=if (p.2.2.sets.contains c||q.2.2.sets.contains c)=true then 0 else v:=by
 simp[bY,fh]
theorem Mj {N:Net}(n:NOk N){s:State}(h:mH N s):(pO (λt=>(Step.tick,capped t)) (after N 1 s .tick)).toList=if gW N s ⟨.tick,[],s.at_⟩=true then [(Step.tick,eD s ⟨.tick,[],s.at_⟩)] else []:=by
 rw[qj];have e0:((bF N.clocks.length).all λc=>([]:List Edge).all λe=>gR e.when_ c (s.time.getD c 0))=true:=by simp
 dsimp only;rw[e0,fP];refine Fj n h (mv:=⟨.tick,[],s.at_⟩) (t:={ s with time:=s.time.map λt=>t+1 }) rfl (by simp) (λc hc=>?_) _;dsimp only;rw[Np _ _ (by rw[h.tl];exact hc)];rfl
theorem Bl {N:Net}{s:State}{p:Nat×Nat×Edge}(hp:p∈di N s.at_) (hr:all_ 1 p.2.2.when_ s.time=true):ready N 1 s p.1 p.2.1=some p.2.2:=by
 obtain⟨m,e1,e2,e3⟩:=z7 hp;unfold ready;rw[e1];dsimp only;rw[e2];dsimp only;rw[if_pos ⟨e3,hr⟩]
theorem FA {N:Net}(n:NOk N){at_:List Nat}{p:Nat×Nat×Edge}(hp:p∈di N at_):∃m,N.machines[p.1]?=some m/\EOk N.clocks.length N.signals.length m.places.length p.2.2:=by
 obtain⟨m,e1,e2,e3⟩:=z7 hp;exact⟨m,e1,(n.mo m (aI e1)).ed _ (aI e2)⟩
theorem vk {N:Net}(n:NOk N){s:State}(h:mH N s){p:Nat×Nat×Edge}(hp:p∈di N s.at_):all_ 1 p.2.2.when_ s.time=(bF N.clocks.length).all λc=>gR p.2.2.when_ c (s.time.getD c 0):=by
 obtain⟨m,_,eo⟩:=FA n hp;rw[Ig eo.wh];exact kJ λc _=>by rw[oW (h.Up c)]
theorem Py {N:Net}(n:NOk N){s:State}(h:mH N s){p:Nat×Nat×Edge}(hp:p∈di N s.at_) (ha:p.2.2.meet = .alone) :
  (if all_ 1 p.2.2.when_ s.time=true then(pO (λt=>(Step.edge p.1 p.2.1,capped t)) (after N 1 s (.edge p.1 p.2.1))).toList else [])=if gW N s (j4 s.at_ p)=true then [(Step.edge p.1 p.2.1,eD s (j4 s.at_ p))] else []:=by
 rw[qj];have e0:((bF N.clocks.length).all λc=>(j4 s.at_ p).es.all λe=>gR e.when_ c (s.time.getD c 0))=all_ 1 p.2.2.when_ s.time:=by
  rw[vk n h hp];exact kJ λc _=>by simp[j4]
 rw[e0];by_cases hr:all_ 1 p.2.2.when_ s.time=true
 ·rw[if_pos hr,hr,fP];unfold after;dsimp only;rw[Bl hp hr];dsimp only;rw[if_pos ha];refine Fj n h (mv:=j4 s.at_ p) rfl (uP _ _) (λc hc=>?_) _;show min ((cleared s.time p.2.2.sets).getD c 0) 16=_;rw[sy];have:=h.Up c;rw[Vp]
  split<;>omega
 ·rw[if_neg hr,if_neg (by simp[hr])]
theorem Ox {N:Net}(n:NOk N){s:State}(h:mH N s){p q:Nat×Nat×Edge}(hp:p∈di N s.at_) (hq:q∈di N s.at_){a:Nat}(ha:p.2.2.meet = .gives a) (hb:q.2.2.meet = .takes a) (hr:all_ 1 p.2.2.when_ s.time=true) :
  (if all_ 1 q.2.2.when_ s.time=true then(pO (λt=>(Step.both p.1 p.2.1 q.1 q.2.1,capped t)) (after N 1 s (.both p.1 p.2.1 q.1 q.2.1))).toList else [])=if q.1≠p.1/\gW N s (fh s.at_ p q)=true then [(Step.both p.1 p.2.1 q.1 q.2.1,eD s (fh s.at_ p q))] else []:=by
 rw[qj];have e0:((bF N.clocks.length).all λc=>(fh s.at_ p q).es.all λe=>gR e.when_ c (s.time.getD c 0))=all_ 1 q.2.2.when_ s.time:=by
  have:((bF N.clocks.length).all λc=>(fh s.at_ p q).es.all λe=>gR e.when_ c (s.time.getD c 0))=(all_ 1 p.2.2.when_ s.time&&all_ 1 q.2.2.when_ s.time):=by
   rw[vk n h hp,vk n h hq,<-Ih];exact kJ λc _=>by simp[fh]
  rw[this,hr,fP]
 rw[e0];by_cases Lw:all_ 1 q.2.2.when_ s.time=true
 ·rw[if_pos Lw,Lw,fP];unfold after;dsimp only;by_cases hm:p.1=q.1
  ·rw[if_pos hm,if_neg (by intro z;exact z.1 hm.symm)];rfl
  ·rw[if_neg hm,Bl hp hr,Bl hq Lw];dsimp only;rw[ha,hb];dsimp only;rw[if_pos rfl];have e3:=Fj n h (mv:=fh s.at_ p q) (t:=moved (moved s p.1 p.2.2) q.1 q.2.2) rfl (by show(cleared (cleared _ _) _).length=_;rw[uP,uP]) (λc hc=>by
    show min ((cleared (cleared s.time p.2.2.sets) q.2.2.sets).getD c 0) 16=_;rw[sy,sy];have:=h.Up c;rw[Vo];cases p.2.2.sets.contains c<;>cases q.2.2.sets.contains c<;>simp only[Xa,kK,aE,if_true,if_false]<;>omega) (Step.both p.1 p.2.1 q.1 q.2.1)
   rw[e3];by_cases hz:((bF N.clocks.length).all λc=>(fV N (fh s.at_ p q).to_).all λbs=>gR bs c (bY (fh s.at_ p q) c (s.time.getD c 0)))=true
   ·rw[if_pos hz,if_pos ⟨λz=>hm z.symm,hz⟩]
   ·rw[if_neg hz,if_neg λz=>hz z.2]
 ·rw[if_neg Lw,if_neg (by rintro⟨_,z⟩;rw[aU]at z;exact Lw z.1)]
theorem rQ {N:Net}(n:NOk N){s:State}(h:mH N s):next N s=(nextM N s).map λp=>(p.1.step,p.2):=by
 have L:next N s=(if gW N s ⟨.tick,[],s.at_⟩=true then [(Step.tick,eD s ⟨.tick,[],s.at_⟩)] else []) ++
   (((di N s.at_).flatMap λp=>if p.2.2.meet = .alone then(if gW N s (j4 s.at_ p)=true then [(Step.edge p.1 p.2.1,eD s (j4 s.at_ p))] else []) else []) ++
    ((di N s.at_).flatMap λp=>if lN p.2.2.meet=true then((di N s.at_).flatMap λq=>if kE q.2.2.meet=true/\m6 q.2.2.meet=m6 p.2.2.meet/\q.1≠p.1/\gW N s (fh s.at_ p q)=true then [(Step.both p.1 p.2.1 q.1 q.2.1,eD s (fh s.at_ p q))] else []) else [])):=by
  unfold next ahead;dsimp only;rw[Kq,DN];have ht:=Mj n h;rw[ht]
  congr 1
  rw[ID]
  congr 1
  ·rw[AM,ny,kX,jN];refine jr λp hp=>?_
   by_cases ha:p.2.2.meet = .alone
   ·rw[if_pos ha,<-Py n h hp ha];simp[ha]
   ·rw[if_neg ha];simp[ha]
  ·rw[AM,NX,jN];refine jr λp hp=>?_
   cases ha:p.2.2.meet with
   | alone=>simp[lN]
   | takes a=>simp[lN]
   | gives a =>
    by_cases hr:all_ 1 p.2.2.when_ s.time=true
    ·rw[if_pos hr,if_pos (show lN (Meet.gives a)=true from rfl)];dsimp only;rw[ny,kX,jN];refine jr λq hq=>?_
     cases hb:q.2.2.meet with
     | alone=>simp[kE]
     | gives b=>simp[kE]
     | takes b =>
      by_cases hab:b=a
      ·subst hab;have z:=Ox n h hp hq ha hb hr;simp only[beq_self_eq_true,fP,kE,m6,true_and];exact z
      ·have h1:¬((b:Int)=a):=by omega
       simp[kE,m6,hab,h1]
    ·rw[if_neg hr,if_pos (show lN (Meet.gives a)=true from rfl)]
     symm
     rw[List.flatMap_eq_nil_iff];intro q hq;refine if_neg ?_;rintro⟨_,_,_,z⟩;rw[qj,aU]at z;apply hr;rw[vk n h hp];have z1:=z.1;simp only[bC,fh]at z1⊢;exact λc hc=>z1 c hc p.2.2 (au ..)
 rw[L];unfold nextM cands;rw[da,cR];have e1:∀l:List Mv,(List.map ((λp:Mv×State=>(p.1.step,p.2)) ∘ λmv=>(mv,eD s mv)) (l.filter (gW N s)))=l.flatMap λmv=>if gW N s mv=true then [(mv.step,eD s mv)] else []:=by
  intro l;rw[JR,jN];rfl
 have e2:∀(b:Bool) (x:Mv) (l:List Mv),(if b=true then x::l else l)=(if b=true then [x] else [])++l:=by intro b x l;cases b<;>rfl
 rw[e2,bo,e1]
 congr 1
 ·by_cases hz:gW N s ⟨.tick,[],s.at_⟩=true
  ·rw[if_pos hz,if_pos hz];rfl
  ·rw[if_neg hz,if_neg hz];rfl
 ·rw[iy]
  congr 1
  ·rw[ny,jN];refine jr λp _=>?_
   by_cases ha:p.2.2.meet = .alone
   ·rw[if_pos ha,if_pos (show(p.2.2.meet==Meet.alone)=true by rw[ha];rfl)];rfl
   ·rw[if_neg ha,if_neg (show ¬(p.2.2.meet==Meet.alone)=true from λz=>ha (eq_of_beq z))]
  ·rw[NX,jN];refine jr λp _=>?_
   by_cases ha:lN p.2.2.meet=true
   ·rw[if_pos ha,if_pos ha,ny,kX,jN];refine jr λq _=>?_
    by_cases h1:kE q.2.2.meet=true<;>by_cases h2:m6 q.2.2.meet=m6 p.2.2.meet<;>by_cases h3:q.1=p.1<;>by_cases h4:gW N s (fh s.at_ p q)=true<;>simp[h1,h2,h3,h4]<;>rfl
   ·rw[if_neg ha,if_neg ha]
theorem Sr {l:List Nat}{i j v p:Nat}(h:(l.set i v)[j]?=some p):(j=i/\p=v)\/(j≠i/\l[j]?=some p):=by
 by_cases e:j=i
 ·subst e;rw[md]at h;simp at h;exact .inl ⟨rfl,h.2.symm⟩
 ·rw[nW (λz=>e z.symm)]at h;exact .inr ⟨e,h⟩
structure vp (N:Net) (a:List Nat):Prop where
 al:a.length=N.machines.length
 ap:∀(i:Nat) (m:Machine) (p:Nat),N.machines[i]?=some m->a[i]?=some p->p<m.places.length
theorem mH.a {N:Net}{s:State}(h:mH N s):vp N s.at_:=⟨h.al,h.ap⟩
theorem vp.set {N:Net}(n:NOk N){a at_:List Nat}(h:vp N a){p:Nat×Nat×Edge}(hp:p∈di N at_):vp N (a.set p.1 p.2.2.to_):=by
 obtain⟨m,em,eo⟩:=FA n hp;refine⟨by rw[tL];exact h.al,λi m' q hm hq=>?_⟩;rcases Sr hq with⟨rfl,rfl⟩|⟨_,hq⟩
 ·rw[em]at hm;cases hm;exact eo.to
 ·exact h.ap i m' q hm hq
theorem vp.p8 {N:Net}{a:List Nat}(h:vp N a) (n:NOk N):∀p∈a,p<8:=by
 intro p hp;obtain⟨i,hi,e⟩:=fj hp;have hm:i<N.machines.length:=by rw[<-h.al];exact hi
 have h1:=h.ap i N.machines[i] p (ae hm) (by rw[ae hi,e]);have h2:=(n.mo N.machines[i] (Az hm)).pl;omega
theorem Q8 {N:Net}(n:NOk N){a:List Nat}(h:vp N a){mv:Mv}(hm:mv∈cands N a):vp N mv.to_:=by
 unfold cands at hm;rcases ah.mp hm with rfl|hm
 ·exact h
 ·rcases aN.mp hm with hm|hm
  ·obtain⟨p,hp,rfl⟩:=aH.mp hm;exact h.set n (dv.mp hp).1
  ·obtain⟨p,hp,hm⟩:=fI.mp hm;obtain⟨q,hq,rfl⟩:=aH.mp hm;exact(h.set n (dv.mp hp).1).set n (dv.mp (dv.mp hq).1).1
theorem Ur (mv:Mv) (c v:Nat) (h:v<=16):bY mv c v<=16:=by
 unfold bY
 split
 ·omega
 ·split<;>omega
theorem wm {N:Net}(n:NOk N){s:State}(h:mH N s){mv:Mv}(hm:mv∈cands N s.at_):mH N (eD s mv):=by
 have ha:=Q8 n h.a hm;refine⟨ha.al,by simp[eD,h.tl],ha.ap,λt ht=>?_⟩;unfold eD at ht;obtain⟨x,hx,rfl⟩:=aH.mp ht;exact Ur _ _ _ (h.tt _ (aI (zipIdx_get hx)))
theorem Fb {N:Net}(n:NOk N){s:State}(h:mH N s){e:Step×State}(he:e∈next N s):mH N e.2:=by
 rw[rQ n h]at he;obtain⟨p,hp,rfl⟩:=aH.mp he;unfold nextM at hp;obtain⟨mv,hm,rfl⟩:=aH.mp hp;exact wm n h (dv.mp hm).1
theorem xn {N:Net}(n:mm N):mH N (start N):=by
 refine⟨by simp[start],by simp[start],λi m p hm hp=>?_,λt ht=>?_⟩
 ·simp only[start,aR,hm,cY,b4]at hp;subst hp;have:=n.pne m (aI hm);cases e:m.places with
  | nil=>exact absurd e this
  | cons=>simp
 ·simp[start]at ht;omega
def CY (N:Net) (all:List Found) (s:Found):List Found:=(next N s.1).foldl (λa e=>if e.2∈a.map (·.1) then a else a++[(e.2,e.1::s.2)]) all
def Cq (N:Net) (all:List Found):Prop:=∀x∈all,mH N x.1
theorem xX (N:Net) (s:Found):∀(es:List (Step×State)) (all:List Found),∃r,es.foldl (λa e=>if e.2∈a.map (·.1) then a else a++[(e.2,e.1::s.2)]) all=all++r/\∀x∈r,∃e∈es,x=(e.2,e.1::s.2)
 | [],all=>⟨[],by simp,by simp⟩
 | e::es,all=>by
  rw[bJ];by_cases h:e.2∈all.map (·.1)
  ·rw[if_pos h];obtain⟨r,h1,h2⟩:=xX N s es all;exact⟨r,h1,λx hx=>let ⟨e',a,b⟩:=h2 x hx;⟨e',ai _ a,b⟩⟩
  ·rw[if_neg h];obtain⟨r,h1,h2⟩:=xX N s es (all++[(e.2,e.1::s.2)]);refine⟨(e.2,e.1::s.2)::r,by rw[h1,cE];rfl,λx hx=>?_⟩;rcases ah.mp hx with rfl|hx
   ·exact⟨e,au ..,rfl⟩
   ·obtain⟨e',a,b⟩:=h2 x hx;exact⟨e',ai _ a,b⟩
theorem Hx (N:Net) (all:List Found) (s:Found):∃r,CY N all s=all++r/\∀x∈r,∃e∈next N s.1,x=(e.2,e.1::s.2):=xX N s _ _
theorem TR {N:Net}(n:NOk N){all:List Found}(h:Cq N all){s:Found}(hs:mH N s.1):Cq N (CY N all s):=by
 obtain⟨r,e,k⟩:=Hx N all s;rw[e];intro x hx;rcases aN.mp hx with hx|hx
 ·exact h x hx
 ·obtain⟨e',he,rfl⟩:=k x hx;exact Fb n hs he
def proc (N:Net):Nat->List Found
 | 0=>[(start N,[])]
 | k+1=>match (proc N k)[k]? with
  | some s=>CY N (proc N k) s
  | none=>proc N k
theorem xy (N:Net) (k:Nat):∃r,proc N (k+1)=proc N k++r:=by
 rw[proc]
 split
 ·obtain⟨r,e,_⟩:=Hx N (proc N k) (by assumption);exact⟨r,e⟩
 ·exact⟨[],by simp⟩
theorem AF (N:Net){j k:Nat}(h:j<=k):∃r,proc N k=proc N j++r:=by
 induction k with
 | zero=>exact⟨[],by rw[Z1.mp h];simp⟩
 | succ k ih =>
  by_cases e:j=k+1
  ·exact⟨[],by rw[e];simp⟩
  ·obtain⟨r,h1⟩:=ih (by omega);obtain⟨r2,h2⟩:=xy N k;exact⟨r++r2,by rw[h2,h1,cE]⟩
theorem G1 (N:Net){j k:Nat}(h:j<=k):(proc N j).length<=(proc N k).length:=by
 obtain⟨r,e⟩:=AF N h;rw[e,aJ];omega
theorem uX (N:Net){j k:Nat}(h:j<=k) (hd:(proc N j).length<=j):proc N k=proc N j:=by
 induction k with
 | zero=>rw[Z1.mp h]
 | succ k ih =>
  by_cases e:j=k+1
  ·rw[e]
  ·have h1:=ih (by omega);rw[proc,h1,cZ (by omega)]
theorem uW {N:Net}(n:mm N):∀k,Cq N (proc N k)
 | 0=>λx hx=>by
  rw[proc,aL]at hx;subst hx;exact xn n
 | k+1=>by
  rw[proc]
  split
  ·rename_i s hs
   exact TR n.toNOk (uW n k) (uW n k s (aI hs))
  ·exact uW n k
def Mem (all:List Found) (s:State):Prop:=s∈all.map (·.1)
theorem yB {N:Net}(n:NOk N) (s:Found) (base:List Found):∀(es:List (Step×State)) (k:Known) (acc:List Found),(∀e∈es,mH N e.2)->Holds N k (Mem (base++acc.reverse)) ->
  let y:=es.foldl (λ(p:Known×List Found) (e:Step×State)=>if p.1.has BITS (code e.2)=true then p else(p.1.put BITS (code e.2),(e.2,e.1::s.2)::p.2)) (k,acc)
  Holds N y.1 (Mem (base++y.2.reverse))/\base++y.2.reverse=es.foldl (λa e=>if e.2∈a.map (·.1) then a else a++[(e.2,e.1::s.2)]) (base++acc.reverse)
 | [],k,acc,_,h=>⟨h,rfl⟩
 | e::es,k,acc,hs,h=>by
  have he:=hs e (au ..);have hr:=λx hx=>hs x (ai _ hx)
  simp only[bJ];by_cases hk:k.has BITS (code e.2)=true
  ·rw[if_pos hk,if_pos (show e.2∈(base++acc.reverse).map (·.1) from(h e.2 he).mp hk)];exact yB n s base es k acc hr h
  ·rw[if_neg hk,if_neg (show ¬e.2∈(base++acc.reverse).map (·.1) from λz=>hk ((h e.2 he).mpr z))];have e1:base++acc.reverse++[(e.2,e.1::s.2)]=base++((e.2,e.1::s.2)::acc).reverse:=by rw[zy,cE]
   rw[e1];refine yB n s base es _ _ hr ?_;intro t ht;rw[h.put n he t ht,<-e1];show(t=e.2\/t∈(base++acc.reverse).map (·.1))↔t∈(base++acc.reverse++[(e.2,e.1::s.2)]).map (·.1);generalize base++acc.reverse=L;rw[bo,aN];simp only[aP,cn,aL];exact Or.comm
theorem KY {N:Net}(n:NOk N) (base:List Found):∀(l:List Found) (k:Known) (acc:List Found),Cq N l->Holds N k (Mem (base++acc.reverse)) ->
  Holds N (wave N l k acc).1 (Mem (base++(wave N l k acc).2))/\base++(wave N l k acc).2=l.foldl (CY N) (base++acc.reverse)
 | [],k,acc,_,h=>⟨h,rfl⟩
 | s::r,k,acc,ho,h=>by
  rw[wave];obtain⟨h1,h2⟩:=yB n s base (next N s.1) k acc (λe he=>Fb n (ho s (au ..)) he) h;obtain⟨h3,h4⟩:=KY n base r _ _ (λx hx=>ho x (ai _ hx)) h1;refine⟨h3,?_⟩;rw[h4,bJ,h2];rfl
theorem MN {N:Net}:∀(l:List Found) (p:Nat) (r:List Found),proc N p=r++l->r.length=p->l.foldl (CY N) (proc N p)=proc N (p+l.length)
 | [],p,r,_,_=>rfl
 | s::l,p,r,e,hp=>by
  have e1:(proc N p)[p]?=some s:=by rw[e,aM (by omega),hp];simp
  have e2:proc N (p+1)=CY N (proc N p) s:=by rw[proc,e1]
  rw[bJ,<-e2];obtain⟨r2,e3⟩:=xy N p;have key:∀(l':List Found) (q:Nat) (r' t:List Found),proc N q=r'++l'++t->r'.length=q->l'.foldl (CY N) (proc N q)=proc N (q+l'.length):=by
   intro l'
   induction l' with
   | nil=>intro q r' t _ _;rfl
   | cons a l' ih =>
    intro q r' t e hq;have f1:(proc N q)[q]?=some a:=by rw[e,cE,aM (by omega),hq];simp
    have f2:proc N (q+1)=CY N (proc N q) a:=by rw[proc,f1]
    obtain⟨r3,e4⟩:=xy N q;rw[bJ,<-f2,ih (q+1) (r'++[a]) (t++r3) (by rw[e4,e];simp) (by simp[hq])]
    congr 1
    simp;omega
  rw[key l (p+1) (r++[s]) r2 (by rw[e3,e];simp) (by simp[hp])]
  congr 1
  simp;omega
theorem Gj {N:Net}(n:mm N):∀(f p:Nat) (k:Known) (r l:List Found),proc N p=r++l->r.length=p->50002<=f+p->Holds N k (Mem (r++l)) ->
  ∃P,r++(waves N f (r++l).length k l).flatten=proc N P/\((proc N P).length<=P\/50000<(proc N P).length)
 | 0,p,k,r,l,e,hp,hf,_=>⟨p,by rw[waves];simp[e],.inr (by rw[e,aJ];omega)⟩
 | f+1,p,k,r,l,e,hp,hf,hk=>by
  rw[waves];by_cases h1:l.isEmpty=true
  ·rw[if_pos h1];have:l=[]:=gs.mp h1;subst this;exact⟨p,by simp[e],.inl (by rw[e];simp[hp])⟩
  ·rw[if_neg h1];by_cases h2:STATES<(r++l).length
   ·rw[if_pos h2];exact⟨p,by simp[e],.inr (by rw[e];exact h2)⟩
   ·rw[if_neg h2];obtain⟨h3,h4⟩:=KY n.toNOk (r++l) l k [] (λx hx=>by
     have:=uW n p;rw[e]at this;exact this x (cg _ hx)) (by simpa using hk)
    have h5:r++l++(wave N l k []).2=proc N (p+l.length):=by
     rw[h4];simp only[List.reverse_nil,eL];rw[<-e];exact MN l p r e hp
    have hl:0<l.length:=by
     cases l with
     | nil=>simp at h1
     | cons=>simp
    obtain⟨P,q1,q2⟩:=Gj n f (p+l.length) (wave N l k []).1 (r++l) (wave N l k []).2 h5.symm (by simp[hp]) (by omega) h3;refine⟨P,?_,q2⟩;rw[<-q1];simp[cE,Gd]
theorem Mr {N:Net}(n:mm N) (h:rests N 1 (start N)=true):∃P,states N=proc N P/\((proc N P).length<=P\/50000<(proc N P).length):=by
 unfold states;rw[if_pos h];have k0:Holds N (Known.put BITS .none_ (code (start N))) (Mem ([]++[(start N,[])])):=λs hs=>by
  rw[Holds.put n.toNOk Holds.nil (xn n) s hs];simp[Mem]
 obtain⟨P,q1,q2⟩:=Gj n (STATES+2) 0 _ [] [(start N,[])] rfl rfl (by decide) k0;exact⟨P,by simpa using q1,q2⟩
theorem Jv {N:Net}(n:mm N) (h:rests N 1 (start N)=true){Q:Nat}(hQ:(proc N Q).length<=Q\/50000<(proc N Q).length) :
  tooMany (states N)=decide (50000<(proc N Q).length)/\((proc N Q).length<=50000->states N=proc N Q):=by
 obtain⟨P,e,hP⟩:=Mr n h;unfold tooMany;rw[e];by_cases hX:50000<(proc N Q).length
 ·refine⟨?_,λz=>absurd hX (by omega)⟩;have:50000<(proc N P).length:=by
   rcases hP with hP|hP
   ·by_cases hPQ:P<=Q
    ·rw[uX N hPQ hP]at hX;exact hX
    ·exact bh hX (G1 N (by omega))
   ·exact hP
  rw[decide_eq_true hX];exact decide_eq_true this
 ·have hd:(proc N Q).length<=Q:=by rcases hQ with h|h<;>omega
  have:proc N P=proc N Q:=by
   by_cases hPQ:P<=Q
   ·rcases hP with hP|hP
    ·exact(uX N hPQ hP).symm
    ·exact absurd (G1 N hPQ) (by omega)
   ·exact uX N (by omega) hd
  rw[this];exact⟨rfl,λ_=>rfl⟩
def tu (acc:List (List Nat×Nat)) (x:List Nat×Nat):List (List Nat×Nat):=if x.1∈acc.map (·.1) then acc else acc++[x]
def sL (l:List (List Nat×Nat)):List (List Nat×Nat):=l.foldl tu []
theorem GU (l:List (List Nat×Nat)) (x:List Nat×Nat):sL (l++[x])=tu (sL l) x:=by simp[sL]
theorem xq (P:List Nat->Bool):∀(l pre acc:List (List Nat×Nat)),acc.find? (λx=>P x.1)=pre.find? (λx=>P x.1)->(∀a,a∈acc.map (·.1)↔a∈pre.map (·.1)) ->
  (l.foldl tu acc).find? (λx=>P x.1)=(pre++l).find? (λx=>P x.1)
 | [],pre,acc,h,_=>by simpa using h
 | x::l,pre,acc,h,hk=>by
  rw[bJ];have e:pre++x::l=(pre++[x])++l:=by simp
  rw[e];refine xq P l (pre++[x]) (tu acc x) ?_ ?_
  ·unfold tu;by_cases hx:x.1∈acc.map (·.1)
   ·rw[if_pos hx,h,ji];cases hp:pre.find? (λx=>P x.1)with
    | some y=>rfl
    | none =>
     have:P x.1=false:=by
      rw[kW]at hp;obtain⟨y,hy,ey⟩:=aH.mp ((hk _).mp hx);have:=hp y hy;rw[ey]at this;simpa using this
     simp[this]
   ·rw[if_neg hx,ji,ji,h]
  ·intro a;unfold tu;by_cases hx:x.1∈acc.map (·.1)
   ·rw[if_pos hx,bo,aN,<-hk a];constructor
    ·exact .inl
    ·rintro(z|z)
     ·exact z
     ·simp at z;rw[z];exact hx
   ·rw[if_neg hx,bo,bo,aN,aN,hk a]
theorem GV (P:List Nat->Bool) (l:List (List Nat×Nat)):(sL l).find? (λx=>P x.1)=l.find? (λx=>P x.1):=by
 have:=xq P l [] [] rfl (by simp);rw[dP]at this;exact this
def ie (all:List Found):List (List Nat×Nat):=all.zipIdx.map λx=>(x.1.1.at_,x.2)
theorem Jd (all:List Found) (x:Found):ie (all++[x])=ie all++[(x.1.at_,all.length)]:=by
 simp[ie,NU]
def gn (a:List Nat) (l:Ask):Bool:=l.all λx=>a.getD x.1 0==x.2
theorem BS {α:Type}(p:α->Bool):∀(l:List α) (n:Nat),((l.zipIdx n).find? λx=>p x.1)=(l.findIdx? p).bind λi=>l[i]?.map λa=>(a,n+i)
 | [],n=>rfl
 | a::l,n=>by
  rw[Rv,fo,pU];by_cases h:p a=true
  ·simp[h]
  ·simp only[h];rw[BS p l (n+1)];cases l.findIdx? p with
   | none=>rfl
   | some i=>simp[Gd,i6 1 i]
theorem U1 (all:List Found) (l:Ask):way all l=((sL (ie all)).find? λx=>gn x.1 l).bind λx=>all[x.2]?.map λy=>y.2.reverse:=by
 rw[GV λa=>gn a l];unfold way ie;rw[Uh];have:((λx:List Nat×Nat=>gn x.1 l) ∘ λx:Found×Nat=>(x.1.1.at_,x.2))=λx:Found×Nat=>(λy:Found=>meets y.1 l) x.1:=rfl
 rw[this,BS (λy:Found=>meets y.1 l),w6];cases all.findIdx? (λy=>meets y.1 l)with
 | none=>rfl
 | some i =>
  simp only[mJ];cases h:all[i]? with
  | none=>rfl
  | some y=>simp[h]
theorem OT (N:Net) (all:List Found):stuck N all=(all.findIdx? λx=>(next N x.1).isEmpty).bind λi=>all[i]?.map λy=>y.2.reverse:=by
 unfold stuck;rw[w6];cases all.findIdx? λx=>(next N x.1).isEmpty with
 | none=>rfl
 | some i=>rfl
def wx (N:Net) (s:State):List State:=(next N s).filterMap λe=>if e.1 = .tick then none else some e.2
def vB (N:Net) (s:State):List State:=(next N s).filterMap λe=>if e.1 = .tick then some e.2 else none
inductive Rc (N:Net) (S W:State->Prop):State->Prop where
 | base (s:State):W s->¬S s->Rc N S W s
 | step (s t:State):Rc N S W s->t∈wx N s->¬S t->Rc N S W t
structure Cl (N:Net) (A:List State):Prop where
 len:A.length<=50000
 st:start N∈A
 cl:∀s∈A,∀e∈next N s,e.2∈A
 ok:∀s∈A,mH N s
theorem Cl.gi {N:Net}{A:List State}(c:Cl N A){s t:State}(hs:s∈A) (ht:t∈wx N s):t∈A:=by
 unfold wx at ht;obtain⟨e,he,h⟩:=fJ.mp ht
 split at h
 ·cases h
 ·cases h;exact c.cl s hs e he
theorem Cl.tick {N:Net}{A:List State}(c:Cl N A){s t:State}(hs:s∈A) (ht:t∈vB N s):t∈A:=by
 unfold vB at ht;obtain⟨e,he,h⟩:=fJ.mp ht
 split at h
 ·cases h;exact c.cl s hs e he
 ·cases h
def Ov (A:List State) (k:Known):Nat:=(A.filter λs=>!k.has BITS (code s)).length
theorem RW {N:Net}(n:NOk N){A:List State}(c:Cl N A){k:Known}{s:State}(hs:s∈A) (hk:¬k.has BITS (code s)=true):Ov A (k.put BITS (code s))+1<=Ov A k:=by
 unfold Ov;have aux:∀B:List State,(∀t∈B,mH N t)->(B.filter λt=>!(k.put BITS (code s)).has BITS (code t)).length+(if s∈B then 1 else 0)<=(B.filter λt=>!k.has BITS (code t)).length:=by
  intro B
  induction B with
  | nil=>intro _;simp
  | cons t B ih =>
   intro hB;have ih:=ih λx hx=>hB x (ai _ hx)
   rw[cR,cR,r8 _ _ _ _ (vh n (c.ok s hs)) (vh n (hB t (au ..)))];by_cases e:t=s
   ·subst e;simp only[decide_true,Iq,bR,aE,if_false];rw[if_pos (au ..)];have:(!k.has BITS (code t))=true:=by simp[hk]
    rw[if_pos this,ay]
    split at ih<;>omega
   ·have e2:decide (code t=code s)=false:=decide_eq_false λz=>e (code_inj n (hB t (au ..)) (c.ok s hs) z)
    rw[e2,jh];have e3:(if s∈t::B then 1 else 0)=(if s∈B then 1 else 0:Nat):=by
     have:s∈t::B↔s∈B:=by
      rw[ah];constructor
      ·rintro(z|z)
       ·exact absurd z.symm e
       ·exact z
      ·exact .inr
     simp only[this]
    rw[e3]
    split
    ·rw[ay,ay];omega
    ·exact ih
 have:=aux A c.ok;rw[if_pos hs]at this;exact this
def zr:Nat:=624
theorem OV {N:Net}(n:NOk N){A:List State}(c:Cl N A) (hn:∀s∈A,(wx N s).length<=zr) (S W:State->Prop):∀(f:Nat) (k:Known) (work acc:List State),work.length+zr * Ov A k<=f->(∀s∈work,s∈A)->(∀s∈acc,s∈A) ->
  (∀s,mH N s->(k.has BITS (code s)=true↔S s\/s∈acc))->(∀s∈work,¬S s->Rc N S W s)->(∀s∈acc,Rc N S W s)->(∀s,W s->¬S s->s∈work\/s∈acc)->(∀s∈acc,∀t∈wx N s,¬S t->t∈work\/t∈acc) ->
  (∀s,s∈(still N f k work acc).2↔Rc N S W s)/\(∀s∈(still N f k work acc).2,s∈A)/\Holds N (still N f k work acc).1 (λs=>S s\/s∈(still N f k work acc).2)/\Ov A (still N f k work acc).1+(still N f k work acc).2.length<=Ov A k+acc.length:=by
 intro f;have done:∀(k:Known) (acc:List State),(∀s∈acc,Rc N S W s)->(∀s,W s->¬S s->s∈([]:List State)\/s∈acc)->(∀s∈acc,∀t∈wx N s,¬S t->t∈([]:List State)\/t∈acc)->∀s,s∈acc↔Rc N S W s:=by
  intro k acc h1 h2 h3 s;refine⟨h1 s,λh=>?_⟩
  induction h with
  | base s hw hs=>exact(h2 s hw hs).resolve_left (by simp)
  | step s t _ ht hs ih=>exact(h3 s ih t ht hs).resolve_left (by simp)
 induction f with
 | zero =>
  intro k work acc hf hA hB hk hw ha hW hc;have:work=[]:=kZ.mp (by omega);subst this;rw[still];exact⟨done k acc ha hW hc,hB,λs hs=>hk s hs,aQ _⟩
 | succ f ih =>
  intro k work acc hf hA hB hk hw ha hW hc;cases work with
  | nil =>
   rw[still];exact⟨done k acc ha hW hc,hB,λs hs=>hk s hs,aQ _⟩
  | cons s r =>
   have hs:=hA s (au ..);have df:=c.ok s hs;rw[still];by_cases hh:k.has BITS (code s)=true
   ·rw[if_pos hh];have Hl:=(hk s df).mp hh;refine ih k r acc (by rw[ay]at hf;omega) (λx hx=>hA x (ai _ hx)) hB hk (λx hx=>hw x (ai _ hx)) ha (λx hx hn=>?_) (λx hx t ht hn=>?_)
    ·rcases hW x hx hn with z|z
     ·rcases ah.mp z with rfl|z
      ·rcases Hl with q|q
       ·exact absurd q hn
       ·exact .inr q
      ·exact .inl z
     ·exact .inr z
    ·rcases hc x hx t ht hn with z|z
     ·rcases ah.mp z with rfl|z
      ·rcases Hl with q|q
       ·exact absurd q hn
       ·exact .inr q
      ·exact .inl z
     ·exact .inr z
   ·rw[if_neg hh];have hS:¬S s:=λz=>hh ((hk s df).mpr (.inl z))
    have hrc:Rc N S W s:=hw s (au ..) hS;have hu:=RW n c hs hh;have e0:((next N s).filterMap λe=>if e.1 = .tick then none else some e.2)=wx N s:=rfl;rw[e0];have hlen:=hn s hs;obtain⟨q1,q2,q3,q4⟩:=ih (k.put BITS (code s)) (wx N s++r) (s::acc) (by
      rw[ay]at hf;rw[aJ];have:zr * Ov A (k.put BITS (code s))+zr<=zr * Ov A k:=by rw[<-Nat.mul_succ];exact xc _ hu
      omega) (λx hx=>by
      rcases aN.mp hx with z|z
      ·exact c.gi hs z
      ·exact hA x (ai _ z)) (λx hx=>by
      rcases ah.mp hx with rfl|z
      ·exact hs
      ·exact hB x z) (λx hx=>by
      rw[r8 _ _ _ _ (vh n df) (vh n hx),fZ,decide_eq_true_eq,hk x hx,ah];constructor
      ·rintro(z|z|z)
       ·exact .inr (.inl (code_inj n hx df z))
       ·exact .inl z
       ·exact .inr (.inr z)
      ·rintro(z|z|z)
       ·exact .inr (.inl z)
       ·exact .inl (by rw[z])
       ·exact .inr (.inr z)) (λx hx Iv=>by
      rcases aN.mp hx with z|z
      ·exact .step s x hrc z Iv
      ·exact hw x (ai _ z) Iv) (λx hx=>by
      rcases ah.mp hx with rfl|z
      ·exact hrc
      ·exact ha x z) (λx hx Iv=>by
      rcases hW x hx Iv with z|z
      ·rcases ah.mp z with rfl|z
       ·exact .inr (au ..)
       ·exact .inl (cg _ z)
      ·exact .inr (ai _ z)) (λx hx t ht Iv=>by
      rcases ah.mp hx with rfl|z
      ·exact .inl (dJ _ ht)
      ·rcases hc x z t ht Iv with z|z
       ·rcases ah.mp z with rfl|z
        ·exact .inr (au ..)
        ·exact .inl (cg _ z)
       ·exact .inr (ai _ z))
    refine⟨q1,q2,q3,?_⟩;rw[ay]at q4;omega
structure Mom (N:Net) (A:List State) (S W:State->Prop) (f:Nat) (k:Known) (work:List State):Prop where
 hk:Holds N k S
 hw:∀s,s∈work↔W s
 wA:∀s∈work,s∈A
 wl:work.length<=50000
 ff:Ov A k<f
theorem rq {N:Net}(s:State):(pO capped (after N 1 s .tick)).toList=vB N s:=by
 unfold vB;have tt:∀(es:List Step) (g:Step->Option State),(∀x∈es,x ≠ .tick)->(es.filterMap (λx=>(g x).map λt=>(x,t))).filterMap (λe=>if e.1=Step.tick then some e.2 else none)=[]:=by
  intro es g h;rw[List.filterMap_filterMap,List.filterMap_eq_nil_iff];intro x hx;cases g x with
  | none=>rfl
  | some t=>simp[h x hx]
 unfold next ahead;dsimp only;rw[DN,ID];have e1:=tt (List.map (λx=>Step.edge x.1 x.2.1) (qI (λx=>x.2.2.meet == .alone) (N.machines.zipIdx.flatMap λm=>(bF m.1.edges.length).filterMap λe=>(ready N 1 s m.2 e).map λx=>(m.2,e,x)))++(N.machines.zipIdx.flatMap λm=>(bF m.1.edges.length).filterMap λe=>(ready N 1 s m.2 e).map λx=>(m.2,e,x)).flatMap λx=>match x.2.2.meet with
  | .gives a=>((N.machines.zipIdx.flatMap λm=>(bF m.1.edges.length).filterMap λe=>(ready N 1 s m.2 e).map λx=>(m.2,e,x)).filter λy=>y.2.2.meet == .takes a).map λy=>Step.both x.1 x.2.1 y.1 y.2.1
  | _=>[]) (λx=>(after N 1 s x).map capped) (by
   intro x hx;rcases aN.mp hx with z|z
   ·obtain⟨y,_,rfl⟩:=aH.mp z;intro q;cases q
   ·obtain⟨y,_,z⟩:=fI.mp z
    split at z
    ·obtain⟨w,_,rfl⟩:=aH.mp z;intro q;cases q
    ·cases z)
 simp only[Option.map_map]at e1;have e2:((λt=>(Step.tick,t)) ∘ capped)=λt=>(Step.tick,capped t):=rfl
 cases h:after N 1 s .tick with
 | none =>
  simp only[Of,Option.toList_none,NY,dP];exact e1.symm
 | some t =>
  simp only[cY,Option.toList_some,fm,NY,if_true];rw[List.singleton_append]
  congr 1
  exact e1.symm
theorem Hb {N:Net}(n:NOk N){A:List State}(c:Cl N A) (hn:∀s∈A,(wx N s).length<=zr){S W:State->Prop}{f:Nat}{k:Known}{work:List State}(m:Mom N A S W (f+1) k work) (found:List State) (hf:∀s,s∈found↔Rc N S W s) :
  (found=[]->∀q i,leastFrom N q (f+1) i k work=none)/\(found≠[]->∃k' KU,Mom N A (λs=>S s\/s∈found) (λs=>∃t∈found,s∈vB N t) f k' KU /\
   ∀q i,leastFrom N q (f+1) i k work=if (found.any λs=>meets s q)=true then some i else leastFrom N q f (i+1) k' KU):=by
 have We:Ov A k<=50000:=bw (bS ..) c.len;obtain⟨q1,q2,q3,q4⟩:=OV n c hn S W (1000 * STATES) k work [] (by
   have:zr * Ov A k<=624 * 50000:=xc _ We;have:=m.wl;simp only[STATES];omega) m.wA (by simp) (λs hs=>by rw[m.hk s hs];simp) (λs hs Iv=>.base s ((m.hw s).mp hs) Iv) (by simp) (λs hs _=>.inl ((m.hw s).mpr hs)) (by simp)
 generalize hy:still N (1000 * STATES) k work []=y at q1 q2 q3 q4;have same:∀s,s∈y.2↔s∈found:=λs=>by rw[q1,hf]
 have em:y.2=[]↔found=[]:=by
  constructor
  ·intro e;cases h:found with
   | nil=>rfl
   | cons a r =>
    have:=(same a).mpr (by rw[h];exact au ..);rw[e]at this;cases this
  ·intro e;cases h:y.2 with
   | nil=>rfl
   | cons a r =>
    have:=(same a).mp (by rw[h];exact au ..);rw[e]at this;cases this
 have an:∀q,(y.2.any λs=>meets s q)=found.any λs=>meets s q:=λq=>by
  rw[bQ,cx,cx];exact⟨λ⟨s,a,b⟩=>⟨s,(same s).mp a,b⟩,λ⟨s,a,b⟩=>⟨s,(same s).mpr a,b⟩⟩
 constructor
 ·intro e q i;rw[leastFrom,hy];rw[an q,e,em.mpr e];rfl
 ·intro e;have ne:y.2≠[]:=λz=>e (em.mp z)
  have np:0<y.2.length:=kb.mpr ne;rw[bI,j0]at q4;refine⟨y.1,y.2.filterMap λs=>(after N 1 s .tick).map capped,⟨λs hs=>?_,λs=>?_,λs hs=>?_,?_,?_⟩,λq i=>?_⟩
  ·rw[q3 s hs];show(S s\/s∈y.2)↔_;rw[same]
  ·rw[fJ];constructor
   ·rintro⟨t,ht,h⟩;exact⟨t,(same t).mp ht,by rw[<-rq,h];simp⟩
   ·rintro⟨t,ht,h⟩;rw[<-rq,Option.mem_toList]at h;exact⟨t,(same t).mpr ht,h⟩
  ·obtain⟨t,ht,h⟩:=fJ.mp hs;exact c.tick (q2 t ht) (by rw[<-rq,h];simp)
  ·exact bw (rj ..) (by omega)
  ·have:=m.ff;omega
  ·rw[leastFrom,hy];rw[an q,if_neg (show ¬y.2.isEmpty=true from λz=>ne (gs.mp z))]
theorem Kj {α β:Type}(f:α->List β) (b:Nat):∀l:List α,(∀x∈l,(f x).length<=b)->(l.flatMap f).length<=l.length * b
 | [],_=>by simp
 | x::l,h=>by
  rw[dI,aJ,ay,XS];have:=h x (au ..);have:=Kj f b l λy hy=>h y (ai _ hy)
  omega
theorem z8 {N:Net}(n:NOk N) (a:List Nat):(di N a).length<=48:=by
 have h:=Kj (λm:Machine×Nat=>(m.1.edges.zipIdx.filter λe=>decide (e.1.from_=a.getD m.2 0)).map λe=>(m.2,e.2,e.1)) 16 N.machines.zipIdx (λm hm=>by
  rw[ax];refine bw (bS ..) ?_;rw[pS];exact(n.mo m.1 (aI (zipIdx_get hm))).el)
 rw[pS]at h;have:=n.ml;have:N.machines.length * 16<=3 * 16:=L5 _ this;exact bw h this
theorem three (l:List (Nat×Nat×Edge)):(l.filter λp=>p.2.2.meet == .alone).length+(l.filter λp=>lN p.2.2.meet).length+(l.filter λp=>kE p.2.2.meet).length=l.length:=by
 induction l with
 | nil=>rfl
 | cons p l ih =>
  rw[cR,cR,cR];cases h:p.2.2.meet with
  | alone =>
   have:((Meet.alone==Meet.alone)=true):=rfl;rw[if_pos this,if_neg (show ¬lN Meet.alone=true from nofun),if_neg (show ¬kE Meet.alone=true from nofun),ay,ay];omega
  | gives a =>
   have:¬((Meet.gives a==Meet.alone)=true):=λz=>nomatch (eq_of_beq z)
   rw[if_neg this,if_pos (show lN (Meet.gives a)=true from rfl),if_neg (show ¬kE (Meet.gives a)=true from nofun),ay,ay];omega
  | takes a =>
   have:¬((Meet.takes a==Meet.alone)=true):=λz=>nomatch (eq_of_beq z)
   rw[if_neg this,if_neg (show ¬lN (Meet.takes a)=true from nofun),if_pos (show kE (Meet.takes a)=true from rfl),ay,ay];omega
theorem Vy:∀g,g<49->∀t,t<49->g+t<=48->g * t<=576:=by decide +kernel
theorem B7 {N:Net}(n:NOk N) (a:List Nat):∃r,cands N a=⟨.tick,[],a⟩::r/\r.length<=zr/\∀mv∈r,mv.step ≠ .tick/\mv.es≠[]:=by
 refine⟨_,rfl,?_,λmv hm=>?_⟩
 ·have h3:=three (di N a);have h4:=z8 n a;have h5:=Kj (λp=>(((di N a).filter λq=>kE q.2.2.meet).filter λq=>decide (q.1≠p.1)&&decide (m6 q.2.2.meet=m6 p.2.2.meet)).map λq=>fh a p q) ((di N a).filter λq=>kE q.2.2.meet).length ((di N a).filter λp=>lN p.2.2.meet) (λp _=>by
   rw[ax];exact bS ..)
  have h6:=Vy ((di N a).filter λp=>lN p.2.2.meet).length (by omega) ((di N a).filter λq=>kE q.2.2.meet).length (by omega) (by omega);rw[aJ,ax];have:zr=624:=rfl;omega
 ·rcases aN.mp hm with h|h
  ·obtain⟨p,_,rfl⟩:=aH.mp h;exact⟨λz=>(by cases z),λz=>(by cases z)⟩
  ·obtain⟨p,_,h⟩:=fI.mp h;obtain⟨q,_,rfl⟩:=aH.mp h;exact⟨λz=>(by cases z),λz=>(by cases z)⟩
theorem vj {N:Net}(n:NOk N) (a:List Nat):(cands N a).length<=625:=by
 obtain⟨r,e,h,_⟩:=B7 n a;rw[e,ay];have:zr=624:=rfl;omega
theorem G8 {N:Net}(n:NOk N){s:State}(h:mH N s):(next N s).length<=625:=by
 rw[rQ n h,ax];unfold nextM;rw[ax];exact bw (bS ..) (vj n _)
theorem G7 {N:Net}(n:NOk N){s:State}(h:mH N s):(wx N s).length<=zr:=by
 unfold wx;rw[rQ n h];unfold nextM;obtain⟨r,e,hl,_⟩:=B7 n s.at_;rw[e,NZ,NZ,cR]
 split
 ·rw[fm];simp only[Ct,if_true];exact bw (rj ..) (bw (bS ..) hl)
 ·exact bw (rj ..) (bw (bS ..) hl)
theorem Hu (s:Found):∀(es:List (Step×State)) (all:List Found) (e:Step×State),e∈es->e.2∈(es.foldl (λa e=>if e.2∈a.map (·.1) then a else a++[(e.2,e.1::s.2)]) all).map (·.1)
 | [],_,_,h=>by cases h
 | x::es,all,e,h=>by
  rw[bJ];rcases ah.mp h with rfl|h
  ·obtain⟨r,h1,_⟩:=xX ⟨[],[],[]⟩ s es (if e.2∈all.map (·.1) then all else all++[(e.2,e.1::s.2)]);rw[h1,bo];refine dJ _ ?_
   split
   ·assumption
   ·rw[bo];exact cg _ (by simp)
  ·exact Hu s es _ e h
theorem SI {N:Net}{Q i:Nat}(hi:i<(proc N Q).length) (hQ:i<Q):∃x,(proc N i)[i]?=some x/\(proc N Q)[i]?=some x:=by
 by_cases h:i<(proc N i).length
 ·obtain⟨r,e⟩:=AF N (tH hQ);refine⟨(proc N i)[i],ae h,?_⟩;rw[e,aO h,ae h]
 ·rw[uX N (tH hQ) (by omega)]at hi;exact absurd hi h
theorem SH {N:Net}(n:mm N){Q:Nat}(h:(proc N Q).length<=Q) (h5:(proc N Q).length<=50000):Cl N ((proc N Q).map (·.1)) where
 len:=by rw[ax];exact h5
 st:=by
  obtain⟨r,e⟩:=AF N (ck Q);rw[e];simp[proc]
 cl:=λs hs e he=>by
  obtain⟨x,hx,rfl⟩:=aH.mp hs;obtain⟨i,hi,ex⟩:=fj hx;obtain⟨y,h1,h2⟩:=SI hi (by omega);rw[ae hi,ex]at h2;cases h2;obtain⟨r,e2⟩:=AF N (show i+1<=Q by omega);rw[e2,bo];refine dJ _ ?_;rw[proc,h1];exact Hu x _ _ e he
 ok:=λs hs=>by
  obtain⟨x,hx,rfl⟩:=aH.mp hs;exact uW n Q x hx
def iQ (p:List State×List State×List State) (e:Step×State):List State×List State×List State :=
 if e.1 = .tick then(p.1,p.2.1,p.2.2++[e.2]) else if e.2∈p.1 then p else(p.1++[e.2],p.2.1++[e.2],p.2.2)
structure LI (N:Net) (A:List State) (S W:State->Prop) (seen found later:List State) (at_:Nat):Prop where
 nd:seen.Nodup
 sA:∀s∈seen,s∈A
 fnd:found.Nodup
 iff:∀s,s∈seen↔S s\/s∈found
 rc:∀s∈found,Rc N S W s
 base:∀s,W s->¬S s->s∈found
 cl:∀s∈found.take at_,∀t∈wx N s,¬S t->t∈found
 lt:later=(found.take at_).flatMap (vB N)
theorem qR {α:Type}[DecidableEq α]:∀{l A:List α},l.Nodup->(∀s∈l,s∈A)->l.length<=A.length
 | [],_,_,_=>ck _
 | x::l,A,nd,h=>by
  have hx:=h x (au ..);have F7:=gX.mp nd;have:=qR (l:=l) (A:=A.erase x) F7.2 λs hs=>by
   have rm:s≠x:=λz=>F7.1 (z▸hs)
   exact(List.mem_erase_of_ne rm).mpr (h s (ai _ hs))
  rw[List.length_erase_of_mem hx]at this;have:0<A.length:=List.length_pos_of_mem hx;rw[ay];omega
theorem LI.vE {N:Net}{A:List State}{S W:State->Prop}{seen found later:List State}{a:Nat}(h:LI N A S W seen found later a) (c:Cl N A):seen.length<=50000:=bw (qR h.nd h.sA) c.len
theorem LI.wI {N:Net}{A:List State}{S W:State->Prop}{seen found later:List State}{a:Nat}(h:LI N A S W seen found later a):found.length<=seen.length:=qR h.fnd λs hs=>(h.iff s).mpr (.inr hs)
theorem DF (N:Net):∀(es:List (Step×State)) (seen found later:List State),seen.Nodup->∃d,es.foldl iQ (seen,found,later)=(seen++d,found++d,later++es.filterMap λe=>if e.1 = .tick then some e.2 else none)/\(seen++d).Nodup /\
  (∀s∈d,∃e∈es,e.1 ≠ .tick/\e.2=s)/\(∀e∈es,e.1 ≠ .tick->e.2∈seen++d)
 | [],seen,found,later,nd=>⟨[],by simp,by simpa using nd,by simp,by simp⟩
 | e::es,seen,found,later,nd=>by
  rw[bJ,fm];by_cases ht:e.1 = .tick
  ·rw[show iQ (seen,found,later) e=(seen,found,later++[e.2]) from if_pos ht];obtain⟨d,h1,h2,h3,h4⟩:=DF N es seen found (later++[e.2]) nd;refine⟨d,?_,h2,λs hs=>let ⟨x,a,b⟩:=h3 s hs;⟨x,ai _ a,b⟩,λx hx hn=>?_⟩
   ·rw[h1];simp[ht]
   ·rcases ah.mp hx with rfl|hx
    ·exact absurd ht hn
    ·exact h4 x hx hn
  ·by_cases hm:e.2∈seen
   ·rw[show iQ (seen,found,later) e=(seen,found,later) from(if_neg ht).trans (if_pos hm)];obtain⟨d,h1,h2,h3,h4⟩:=DF N es seen found later nd;refine⟨d,?_,h2,λs hs=>let ⟨x,a,b⟩:=h3 s hs;⟨x,ai _ a,b⟩,λx hx hn=>?_⟩
    ·rw[h1];simp[ht]
    ·rcases ah.mp hx with rfl|hx
     ·exact dJ _ hm
     ·exact h4 x hx hn
   ·rw[show iQ (seen,found,later) e=(seen++[e.2],found++[e.2],later) from(if_neg ht).trans (if_neg hm)];have Yt:(seen++[e.2]).Nodup:=by
     rw[eh];refine⟨nd,by simp,λa ha b hb=>?_⟩;rw[aL]at hb;subst hb;exact λz=>hm (z▸ha)
    obtain⟨d,h1,h2,h3,h4⟩:=DF N es (seen++[e.2]) (found++[e.2]) later Yt;refine⟨e.2::d,?_,by simpa using h2,λs hs=>?_,λx hx hn=>?_⟩
    ·rw[h1];simp[ht]
    ·rcases ah.mp hs with rfl|hs
     ·exact⟨e,au ..,ht,rfl⟩
     ·obtain⟨x,a,b⟩:=h3 s hs;exact⟨x,ai _ a,b⟩
    ·rcases ah.mp hx with rfl|hx
     ·simp
     ·simpa using h4 x hx hn
theorem take_succ_get {α:Type}{l:List α}{i:Nat}{x:α}(h:l[i]?=some x):l.take (i+1)=l.take i++[x]:=by
 rw[Og,h];rfl
theorem LI.step {N:Net}{A:List State}(c:Cl N A){S W:State->Prop}{seen found later:List State}{i:Nat}(h:LI N A S W seen found later i){s:State}(hs:found[i]?=some s) :
  LI N A S W ((next N s).foldl iQ (seen,found,later)).1 ((next N s).foldl iQ (seen,found,later)).2.1 ((next N s).foldl iQ (seen,found,later)).2.2 (i+1):=by
 obtain⟨d,e,nd,h3,h4⟩:=DF N (next N s) seen found later h.nd;rw[e];dsimp only;have hsf:s∈found:=aI hs;have hsA:s∈A:=h.sA s ((h.iff s).mpr (.inr hsf));have il:i<found.length:=(aw.mp hs).1;have tk:(found++d).take (i+1)=found.take (i+1):=iO il;have F7:=eh.mp nd;have dn:∀t∈d,t∈wx N s:=λt ht=>by
  obtain⟨x,hx,hn,rfl⟩:=h3 t ht;exact fJ.mpr ⟨x,hx,by rw[if_neg hn]⟩
 have dS:∀t∈d,¬S t:=λt ht hS=>F7.2.2 t ((h.iff t).mpr (.inl hS)) t ht rfl
 refine⟨nd,λt ht=>?_,?_,λt=>?_,λt ht=>?_,λt hw hn=>dJ _ (h.base t hw hn),λt ht u hu hn=>?_,?_⟩
 ·rcases aN.mp ht with z|z
  ·exact h.sA t z
  ·exact c.gi hsA (dn t z)
 ·rw[eh];exact⟨h.fnd,F7.2.1,λa ha b hb=>F7.2.2 a ((h.iff a).mpr (.inr ha)) b hb⟩
 ·rw[aN,aN,h.iff,or_assoc]
 ·rcases aN.mp ht with z|z
  ·exact h.rc t z
  ·exact .step s t (h.rc s hsf) (dn t z) (dS t z)
 ·rw[tk,take_succ_get hs]at ht;rcases aN.mp ht with z|z
  ·exact dJ _ (h.cl t z u hu hn)
  ·rw[aL]at z;subst z;obtain⟨x,hx,hq⟩:=fJ.mp hu;by_cases ht:x.1 = .tick
   ·rw[if_pos ht]at hq;cases hq
   ·rw[if_neg ht]at hq;cases hq;rcases aN.mp (h4 x hx ht)with z|z
    ·rcases(h.iff x.2).mp z with z|z
     ·exact absurd z hn
     ·exact dJ _ z
    ·exact cg _ z
 ·rw[tk,take_succ_get hs,iy,<-h.lt];simp[vB]
theorem LI.done {N:Net}{A:List State}{S W:State->Prop}{seen found later:List State}{i:Nat}(h:LI N A S W seen found later i) (hi:found.length<=i):∀s,s∈found↔Rc N S W s:=λs=>by
 refine⟨h.rc s,λhr=>?_⟩
 induction hr with
 | base t hw hn=>exact h.base t hw hn
 | step t u _ hu hn ih=>exact h.cl t (by rw[bU hi];exact ih) u hu hn
def jd (p:List State×List State) (s:State):List State×List State:=if s∈p.1 then p else(p.1++[s],p.2++[s])
theorem Lm:∀(l seen fresh:List State),seen.Nodup->∃d,l.foldl jd (seen,fresh)=(seen++d,fresh++d)/\(seen++d).Nodup/\(∀s,s∈d↔s∈l/\s∉seen)
 | [],seen,fresh,nd=>⟨[],by simp,by simpa using nd,by simp⟩
 | x::l,seen,fresh,nd=>by
  rw[bJ];by_cases hm:x∈seen
  ·rw[show jd (seen,fresh) x=(seen,fresh) from if_pos hm];obtain⟨d,h1,h2,h3⟩:=Lm l seen fresh nd;refine⟨d,h1,h2,λs=>?_⟩;rw[h3 s,ah];constructor
   ·rintro⟨a,b⟩;exact⟨.inr a,b⟩
   ·rintro⟨a|a,b⟩
    ·exact absurd (a▸hm) b
    ·exact⟨a,b⟩
  ·rw[show jd (seen,fresh) x=(seen++[x],fresh++[x]) from if_neg hm];have Yt:(seen++[x]).Nodup:=by
    rw[eh];refine⟨nd,by simp,λa ha b hb=>?_⟩;rw[aL]at hb;subst hb;exact λz=>hm (z▸ha)
   obtain⟨d,h1,h2,h3⟩:=Lm l (seen++[x]) (fresh++[x]) Yt;refine⟨x::d,?_,by simpa using h2,λs=>?_⟩
   ·rw[h1];simp
   ·rw[ah,h3 s,ah,aN,aL];constructor
    ·rintro(rfl|⟨a,b⟩)
     ·exact⟨.inl rfl,hm⟩
     ·exact⟨.inr a,λz=>b (.inl z)⟩
    ·rintro⟨a|a,b⟩
     ·exact .inl a
     ·by_cases e:s=x
      ·exact .inl e
      ·exact .inr ⟨a,λz=>z.elim b e⟩
def OI (N:Net) (A seen found:List State) (lZ:List (List Nat×Nat)) (eR:Nat):Prop :=
 ∃(S W:State->Prop) (f:Nat) (k:Known) (work:List State),Mom N A S W f k work/\LI N A S W seen found [] 0/\∀q,least N q=((lZ.find? λx=>gn x.1 q).map (·.2)).or (leastFrom N q f eR k work)
theorem OI.begin_ {N:Net}{A:List State}(c:Cl N A) (hr:rests N 1 (start N)=true):OI N A [start N] [start N] [] 0:=by
 refine⟨λ_=>False,λs=>s=dH N,STATES+2,.none_,[start N],⟨Holds.nil,λs=>by simp,λs hs=>by rw[aL]at hs;rw[hs];exact c.st,by simp,?_⟩,⟨by simp,λs hs=>by rw[aL]at hs;rw[hs];exact c.st,by simp,λs=>by simp,λs hs=>?_,λs hs _=>by simp[hs],by simp,rfl⟩,λq=>?_⟩
 ·exact yz (bw (bS ..) c.len) (by decide)
 ·rw[aL]at hs;exact .base s hs id
 ·unfold least;rw[if_pos hr];rfl
theorem OI.VN {N:Net}(n:NOk N){A:List State}(c:Cl N A){S W:State->Prop}{f:Nat}{k:Known}{work seen found later:List State}{i:Nat}{lZ:List (List Nat×Nat)}{eR:Nat}(m:Mom N A S W f k work) (h:LI N A S W seen found later i) (hi:found.length<=i) (rm:found≠[])
  (hq:∀q,least N q=((lZ.find? λx=>gn x.1 q).map (·.2)).or (leastFrom N q f eR k work)) :
  OI N A (later.foldl jd (seen,[])).1 (later.foldl jd (seen,[])).2 (lZ++found.map λs=>(s.at_,eR)) (eR+1):=by
 obtain⟨f,rfl⟩:∃g,f=g+1:=⟨f-1,by have:=m.ff;omega⟩;have hn:∀s∈A,(wx N s).length<=zr:=λs hs=>G7 n (c.ok s hs)
 obtain⟨k',KU,m',hl⟩:=(Hb n c hn m found (h.done hi)).2 rm;obtain⟨d,e,nd,hd⟩:=Lm later seen [] h.nd;rw[e];have lt:later=found.flatMap (vB N):=by rw[h.lt,bU hi]
 refine⟨_,_,f,k',KU,m',⟨nd,λs hs=>?_,(eh.mp nd).2.1,λs=>?_,λs hs=>?_,λs hw Iv=>?_,by simp,rfl⟩,λq=>?_⟩
 ·rcases aN.mp hs with z|z
  ·exact h.sA s z
  ·have:=((hd s).mp z).1;rw[lt]at this;obtain⟨t,ht,hz⟩:=fI.mp this;exact c.tick (h.sA t ((h.iff t).mpr (.inr ht))) hz
 ·rw[aN,h.iff];simp
 ·have hs:s∈d:=by simpa using hs
  obtain⟨h1,h2⟩:=(hd s).mp hs;rw[lt]at h1;obtain⟨t,ht,hz⟩:=fI.mp h1;exact .base s ⟨t,ht,hz⟩ λz=>h2 ((h.iff s).mpr z)
 ·obtain⟨t,ht,hz⟩:=hw;have:s∈d:=(hd s).mpr ⟨by rw[lt];exact fI.mpr ⟨t,ht,hz⟩,λz=>Iv ((h.iff s).mp z)⟩;simpa using this
 ·rw[hq q,hl q eR,ji];cases lZ.find? λx=>gn x.1 q with
  | some y=>rfl
  | none =>
   simp only[Of,Option.none_or];rw[Uh];by_cases ha:(found.any λs=>meets s q)=true
   ·rw[if_pos ha];have:(found.find? ((λx:List Nat×Nat=>gn x.1 q) ∘ λs:State=>(s.at_,eR))).isSome=true:=by
     rw[List.find?_isSome];rw[cx]at ha;exact ha
    obtain⟨y,hy⟩:=fG.mp this;rw[hy];rfl
   ·rw[if_neg ha];have:found.find? ((λx:List Nat×Nat=>gn x.1 q) ∘ λs:State=>(s.at_,eR))=none:=by
     rw[kW];intro x hx hm;exact ha (cx.mpr ⟨x,hx,hm⟩)
    rw[this];rfl
theorem OI.least {N:Net}(n:NOk N){A:List State}(c:Cl N A){seen:List State}{lZ:List (List Nat×Nat)}{eR:Nat}(h:OI N A seen [] lZ eR) (q:Ask):C9 N q=((sL lZ).find? λx=>gn x.1 q).map (·.2):=by
 obtain⟨S,W,f,k,work,m,l,hq⟩:=h;obtain⟨f,rfl⟩:∃g,f=g+1:=⟨f-1,by have:=m.ff;omega⟩;have hn:∀s∈A,(wx N s).length<=zr:=λs hs=>G7 n (c.ok s hs)
 rw[hq q,(Hb n c hn m [] (l.done (ck _))).1 rfl,Option.or_none,GV λa=>gn a q]
theorem J3 {N:Net}(hr:¬rests N 1 (start N)=true) (q:Ask):least N q=none:=by
 unfold least;rw[if_neg hr,leastFrom];have:still N (1000 * STATES) .none_ [] []=(.none_,[]):=by
  rw[show 1000 * STATES=49999999+1 from rfl,still]
 rw[this];rfl
def dZ (cs:List Bytes):List Bytes->List Bound×List Bytes
 | []=>([],[])
 | w::l=>match bound cs w with
  | some b=>(b::(dZ cs l).1,(dZ cs l).2)
  | none=>([],w::l)
def gy (cs:List Bytes):List Bytes->List Nat×List Bytes
 | []=>([],[])
 | w::l=>if cs.contains w=true then(cs.idxOf w::(gy cs l).1,(gy cs l).2) else([],w::l)
theorem A9 (cs:List Bytes):∀l,bounds cs l=if (dZ cs l).2=[] then some (dZ cs l).1 else none
 | []=>rfl
 | w::l=>by
  rw[bounds,dZ,A9 cs l];cases bound cs w with
  | none=>rfl
  | some b =>
   dsimp only;by_cases h:(dZ cs l).2=[]
   ·rw[if_pos h,if_pos h]
   ·rw[if_neg h,if_neg h]
def Lr:List Bytes:=[[99,108,111,99,107],[115,105,103,110,97,108],[109,97,99,104,105,110,101],[112,108,97,99,101],[101,100,103,101],[119,104,101,110],[115,101,116],[103,105,118,101],[116,97,107,101]]
theorem Qc:kept=Lr:=by decide +kernel
theorem BJ {w:Bytes}(h:kept.contains w=true):w∈Lr:=by
 rw[Qc]at h;exact aS.mp h
theorem Ku {cs:List Bytes}{w:Bytes}(h:kept.contains w=true):bound cs w=none:=by
 have:=BJ h;simp only[Lr,ah,aF,or_false]at this;rcases this with rfl|rfl|rfl|rfl|rfl|rfl|rfl|rfl|rfl<;>rfl
theorem MY {w:Bytes}(h:name w=true):kept.contains w=false:=by
 unfold name at h;simp only[aU,jk]at h;exact h.2.2
theorem Di {w:Bytes}{l:List Bytes}(h:kept.contains w=true):upTo (w::l)=([],w::l):=by
 unfold upTo;rw[oY,Ma,h];rfl
theorem Dj {w:Bytes}{l:List Bytes}(h:kept.contains w=false):upTo (w::l)=(w::(upTo l).1,(upTo l).2):=by
 unfold upTo;rw[oY,Ma,h];rfl
def bad:List Bytes->Bool
 | x::_=>!kept.contains x
 | []=>false
theorem LW (cs:List Bytes) {β:Type}:∀(r:List Bytes) (K:List Bound->List Bytes->Option β),
  ((bounds cs (upTo r).1).map λb=>(b,(upTo r).2)).bind (λx=>K x.1 x.2)=if bad (dZ cs r).2=true then none else K (dZ cs r).1 (dZ cs r).2
 | [],K=>rfl
 | w::l,K=>by
  cases h:kept.contains w with
  | true =>
   rw[Di h,dZ,Ku h];have hb:¬bad (w::l)=true:=by rw[bad,h];exact nofun
   dsimp only;rw[if_neg hb];rfl
  | false =>
   rw[Dj h,bounds,dZ];cases hb:bound cs w with
   | none =>
    have hb:bad (w::l)=true:=by rw[bad,h];rfl
    dsimp only;rw[if_pos hb];rfl
   | some b =>
    dsimp only;have ih:=LW cs l λbs r=>K (b::bs) r
    rw[<-ih];cases bounds cs (upTo l).1<;>rfl
theorem LQ {cs:List Bytes}(hc:∀w∈cs,name w=true) {β:Type}:∀(r:List Bytes) (K:List Nat->List Bytes->Option β),
  (if ((upTo r).1.all λc=>cs.contains c)=true then some ((upTo r).1.map cs.idxOf,(upTo r).2) else none).bind (λx=>K x.1 x.2)=if bad (gy cs r).2=true then none else K (gy cs r).1 (gy cs r).2
 | [],K=>rfl
 | w::l,K=>by
  cases h:kept.contains w with
  | true =>
   have hn:¬cs.contains w=true:=λz=>by
    rw[MY (hc w (aS.mp z))]at h;cases h
   rw[Di h,gy,if_neg hn];have hb:¬bad (w::l)=true:=by rw[bad,h];exact nofun
   dsimp only;rw[if_neg hb];rfl
  | false =>
   rw[Dj h,gy];by_cases hn:cs.contains w=true
   ·rw[if_pos hn];have ih:=LQ hc l λbs r=>K (cs.idxOf w::bs) r
    dsimp only;rw[<-ih,fc,hn,fP]
    split<;>rfl
   ·have hb:bad (w::l)=true:=by rw[bad,h];rfl
    have ha:¬((w::(upTo l).1).all λc=>cs.contains c)=true:=by
     rw[fc,aU];exact λz=>hn z.1
    dsimp only;rw[if_neg hn,if_neg ha];dsimp only;rw[if_pos hb];rfl
def gm (N:Net):List Bytes->List Bound×List Bytes
 | w::r=>if w=ascii "when" then dZ N.clocks r else([],w::r)
 | []=>([],[])
def lY (N:Net):List Bytes->List Nat×List Bytes
 | w::r=>if w=ascii "set" then gy N.clocks r else([],w::r)
 | []=>([],[])
def gz (N:Net):List Bytes->Meet×List Bytes
 | w::s::r=>if N.signals.contains s=true then(if w=ascii "give" then(.gives (N.signals.idxOf s),r) else if w=ascii "take" then(.takes (N.signals.idxOf s),r) else(.alone,w::s::r)) else(.alone,w::s::r)
 | l=>(.alone,l)
def Lc (N:Net) (l:List Bytes):Option (List Bound×List Nat×Meet) :=
 if (gz N (lY N (gm N l).2).2).2=[] then some ((gm N l).1,(lY N (gm N l).2).1,(gz N (lY N (gm N l).2).2).1) else none
theorem tS {N:Net}{w:Bytes}{r:List Bytes}(h:w=ascii "set"):lY N (w::r)=gy N.clocks r:=if_pos h
theorem xp {N:Net}{w:Bytes}{r:List Bytes}(h:¬w=ascii "set"):lY N (w::r)=([],w::r):=if_neg h
theorem qJ {N:Net}{w:Bytes}{r:List Bytes}(h:w=ascii "when"):gm N (w::r)=dZ N.clocks r:=if_pos h
theorem tN {N:Net}{w:Bytes}{r:List Bytes}(h:¬w=ascii "when"):gm N (w::r)=([],w::r):=if_neg h
theorem pq {N:Net}{w x:Bytes}{r:List Bytes}(h:¬N.signals.contains x=true):gz N (w::x::r)=(.alone,w::x::r):=if_neg h
theorem mB {N:Net}{w x:Bytes}{r:List Bytes}(h:N.signals.contains x=true) (h1:w=ascii "give"):gz N (w::x::r)=(.gives (N.signals.idxOf x),r):=(if_pos h).trans (if_pos h1)
theorem mz {N:Net}{w x:Bytes}{r:List Bytes}(h:N.signals.contains x=true) (h1:¬w=ascii "give") (h2:w=ascii "take"):gz N (w::x::r)=(.takes (N.signals.idxOf x),r):=(if_pos h).trans ((if_neg h1).trans (if_pos h2))
theorem kD {N:Net}{w x:Bytes}{r:List Bytes}(h:N.signals.contains x=true) (h1:¬w=ascii "give") (h2:¬w=ascii "take"):gz N (w::x::r)=(.alone,w::x::r):=(if_pos h).trans ((if_neg h1).trans (if_neg h2))
theorem BA {α β:Type}(N:Net) (a:α) (b:β) (l:List Bytes):(match l with
   | []=>some (a,b,Meet.alone)
   | [w,s]=>if N.signals.contains s=false then none else if w=ascii "give" then some (a,b,.gives (N.signals.idxOf s)) else if w=ascii "take" then some (a,b,.takes (N.signals.idxOf s)) else none
   | _=>none)=if (gz N l).2=[] then some (a,b,(gz N l).1) else none:=by
 match l with
 | []=>rfl
 | [w]=>rfl
 | [w,s] =>
  dsimp only;by_cases h:N.signals.contains s=true
  ·rw[if_neg (by rw[h];exact nofun)];by_cases h1:w=ascii "give"
   ·rw[if_pos h1,mB h h1];rfl
   ·rw[if_neg h1];by_cases h2:w=ascii "take"
    ·rw[if_pos h2,mz h h1 h2];rfl
    ·rw[if_neg h2,kD h h1 h2];rfl
  ·rw[if_pos (bz.mpr h),pq h];rfl
 | w::s::x::r =>
  dsimp only;by_cases h:N.signals.contains s=true
  ·by_cases h1:w=ascii "give"
   ·rw[mB h h1];rfl
   ·by_cases h2:w=ascii "take"
    ·rw[mz h h1 h2];rfl
    ·rw[kD h h1 h2];rfl
  ·rw[pq h];rfl
theorem Qa:kept.contains (ascii "set")=true:=by decide +kernel
theorem Nb:kept.contains (ascii "give")=true:=by decide +kernel
theorem M9:kept.contains (ascii "take")=true:=by decide +kernel
theorem yh (N:Net){l:List Bytes}(h:bad l=true):(gz N l).2=l/\l≠[]:=by
 match l,h with
 | [x],_=>exact⟨rfl,by simp⟩
 | x::s::r,h =>
  have h':kept.contains x=false:=by simpa[bad]using h
  have h1:¬x=ascii "give":=λz=>by rw[z,Nb]at h';cases h'
  have h2:¬x=ascii "take":=λz=>by rw[z,M9]at h';cases h'
  refine⟨?_,by simp⟩;by_cases h:N.signals.contains s=true
  ·rw[kD h h1 h2]
  ·rw[pq h]
theorem T4 (N:Net){l:List Bytes}(h:bad l=true):lY N l=([],l):=by
 match l,h with
 | x::r,h =>
  have h':kept.contains x=false:=by simpa[bad]using h
  have h1:¬x=ascii "set":=λz=>by rw[z,Qa]at h';cases h'
  simp only[lY];rw[if_neg h1]
def wq (N:Net) (a:List Bound) (l:List Bytes):Option (List Bound×List Nat×Meet) :=
 if (gz N (lY N l).2).2=[] then some (a,(lY N l).1,(gz N (lY N l).2).1) else none
theorem Ss {N:Net}(n:NOk N) (a:List Bound) (l:List Bytes):((match l with
   | w::r=>if w=ascii "set" then(if ((upTo r).1.all λc=>N.clocks.contains c)=true then some ((upTo r).1.map N.clocks.idxOf,(upTo r).2) else none) else some ([],l)
   | []=>some ([],[])).bind λ(y:List Nat×List Bytes)=>match y.2 with
   | []=>some (a,y.1,Meet.alone)
   | [w,s]=>if N.signals.contains s=false then none else if w=ascii "give" then some (a,y.1,.gives (N.signals.idxOf s)) else if w=ascii "take" then some (a,y.1,.takes (N.signals.idxOf s)) else none
   | _=>none)=wq N a l:=by
 unfold wq
 match l with
 | []=>exact BA N a ([]:List Nat) []
 | w::r =>
  dsimp only;by_cases h:w=ascii "set"
  ·rw[if_pos h,tS h];have e:=LQ n.Q5 r λbs r=>if (gz N r).2=[] then some (a,bs,(gz N r).1) else none
   have e2:(λ(y:List Nat×List Bytes)=>match y.2 with
    | []=>some (a,y.1,Meet.alone)
    | [w,s]=>if N.signals.contains s=false then none else if w=ascii "give" then some (a,y.1,.gives (N.signals.idxOf s)) else if w=ascii "take" then some (a,y.1,.takes (N.signals.idxOf s)) else none
    | _=>none)=λy=>if (gz N y.2).2=[] then some (a,y.1,(gz N y.2).1) else none:=by
    funext y
    exact BA N a y.1 y.2
   rw[e2,e];by_cases hb:bad (gy N.clocks r).2=true
   ·rw[if_pos hb,(yh N hb).1,if_neg (yh N hb).2]
   ·rw[if_neg hb]
  ·rw[if_neg h,xp h];exact BA N a ([]:List Nat) (w::r)
theorem R3 {N:Net}(n:NOk N) (l:List Bytes):tail N l=Lc N l:=by
 have e0:Lc N l=wq N (gm N l).1 (gm N l).2:=rfl;rw[e0];unfold tail;dsimp only;have e1:∀x:List Bound×List Bytes,(UX (match x.2 with
   | w::r=>if w=ascii "set" then(if ((upTo r).1.all λc=>N.clocks.contains c)=true then some ((upTo r).1.map N.clocks.idxOf,(upTo r).2) else none) else some ([],x.2)
   | []=>some ([],[])) λ(y:List Nat×List Bytes)=>match y.2 with
   | []=>some (x.1,y.1,Meet.alone)
   | [w,s]=>if N.signals.contains s=false then none else if w=ascii "give" then some (x.1,y.1,.gives (N.signals.idxOf s)) else if w=ascii "take" then some (x.1,y.1,.takes (N.signals.idxOf s)) else none
   | _=>none)=wq N x.1 x.2:=λx=>by
  have:=Ss n x.1 x.2;rw[<-this]
 match l with
 | []=>exact e1 ([],[])
 | w::r =>
  dsimp only;by_cases h:w=ascii "when"
  ·rw[if_pos h,qJ h];have e:=LW N.clocks r λbs r=>wq N bs r
   have e2:∀o:Option (List Bound×List Bytes),o.bind (λx=>(UX (match x.2 with
    | w::r=>if w=ascii "set" then(if ((upTo r).1.all λc=>N.clocks.contains c)=true then some ((upTo r).1.map N.clocks.idxOf,(upTo r).2) else none) else some ([],x.2)
    | []=>some ([],[])) λ(y:List Nat×List Bytes)=>match y.2 with
    | []=>some (x.1,y.1,Meet.alone)
    | [w,s]=>if N.signals.contains s=false then none else if w=ascii "give" then some (x.1,y.1,.gives (N.signals.idxOf s)) else if w=ascii "take" then some (x.1,y.1,.takes (N.signals.idxOf s)) else none
    | _=>none))=o.bind λx=>wq N x.1 x.2:=λo=>by
    cases o with
    | none=>rfl
    | some x=>exact e1 x
   refine(e2 _).trans ?_;rw[e];by_cases hb:bad (dZ N.clocks r).2=true
   ·rw[if_pos hb];unfold wq;rw[T4 N hb,(yh N hb).1,if_neg (yh N hb).2]
   ·rw[if_neg hb]
  ·rw[if_neg h,tN h];exact e1 ([],w::r)
def qE (a b:Nat):List Nat->Option (List Nat×List Nat)
 | []=>none
 | c::r=>if c=a/\r.head?=some b then some ([],r.tail) else(qE a b r).map λp=>(c::p.1,p.2)
theorem uM {a b:Nat}:∀{w p r:List Nat},qE a b w=some (p,r)->w=p++a::b::r
 | [],p,r,h=>by cases h
 | c::l,p,r,h=>by
  rw[qE]at h;by_cases q:c=a/\l.head?=some b
  ·rw[if_pos q]at h;cases h;obtain⟨rfl,q⟩:=q;cases l with
   | nil=>cases q
   | cons d l=>cases q;rfl
  ·rw[if_neg q]at h;cases e:qE a b l with
   | none=>rw[e]at h;cases h
   | some x =>
    rw[e]at h;cases h;rw[dy,<-uM (p:=x.1) (r:=x.2) e]
theorem FF {a b:Nat}{r:List Nat}:∀{p:List Nat},a∉p->qE a b (p++a::b::r)=some (p,r)
 | [],_=>by rw[dP,qE,if_pos ⟨rfl,rfl⟩];rfl
 | c::p,h=>by
  rw[dy,qE,if_neg (λz=>h (by rw[z.1];exact au ..)),FF λz=>h (ai _ z)];rfl
theorem DU {a b:Nat}:∀{w:List Nat},a∉w->qE a b w=none
 | [],_=>rfl
 | c::w,h=>by
  rw[qE,if_neg (λz=>h (by rw[z.1];exact au ..)),DU λz=>h (ai _ z)];rfl
def PJ (cs:List Bytes) (most:Bool) (p:Bytes×Bytes):Option Bound:=if cs.contains p.1=true then(number p.2).map λn=>⟨cs.idxOf p.1,most,n⟩ else none
def t7 (cs:List Bytes) (w:Bytes):Option Bound:=match qE 60 61 w with
 | some p=>PJ cs true p
 | none=>match qE 62 61 w with
  | some p=>PJ cs false p
  | none=>none
theorem DG {c:Nat}(h:(letter c||digit c)=true):c≠60/\c≠61/\c≠62/\c≠46/\c≠32/\c≠10/\c≠63:=by
 simp only[letter,digit,fZ,aU,decide_eq_true_eq]at h;omega
theorem By {w:Bytes}(h:name w=true):∀c∈w,(letter c||digit c)=true:=by
 unfold name at h;cases w with
 | nil=>intro c hc;cases hc
 | cons a r =>
  simp only[aU,bC]at h;intro c hc;rcases ah.mp hc with rfl|hc
  ·rw[h.1.1,Iq]
  ·exact h.1.2 c hc
theorem wu {w:Bytes}{n:Nat}(h:number w=some n):w≠[]/\w.length<=2/\(∀c∈w,digit c=true)/\n<=15:=by
 unfold number at h
 split at h
 ·rename_i q
  dsimp only at h
  split at h
  ·rename_i q2
   cases h;exact⟨q.1,q.2.1,λc hc=>bC.mp q.2.2 c hc,q2⟩
  ·cases h
 ·cases h
theorem FE {c:Nat}(h:digit c=true):(letter c||digit c)=true:=by rw[h,Xa]
theorem U4 {x:Bytes}{d:Nat}{r:Bytes}(hx:∀c∈x,c≠60/\c≠62) (hd:d=60\/d=62):((x++d::r).takeWhile λc=>c != 60&&c != 62)=x:=by
 induction x with
 | nil =>
  rw[dP,oY];rcases hd with rfl|rfl<;>rfl
 | cons a x ih =>
  have ha:=hx a (au ..);rw[dy,oY,if_pos (by simp[ha.1,ha.2]),ih λc hc=>hx c (ai _ hc)]
theorem zj {cs:List Bytes}{x r:Bytes}{d:Nat}(hx:∀c∈x,c≠60/\c≠62) (hd:d=60\/d=62):bound cs (x++d::61::r)=PJ cs (d==60) (x,r):=by
 unfold bound;dsimp only;rw[U4 hx hd,vv];rfl
theorem wV {cs:List Bytes}{w:Bytes}{b:Bound}(h:bound cs w=some b):∃x d r,w=x++d::61::r/\(∀c∈x,c≠60/\c≠62)/\(d=60\/d=62)/\cs.contains x=true/\number r=some b.n/\b=⟨cs.idxOf x,d==60,b.n⟩:=by
 unfold bound at h;dsimp only at h
 split at h
 ·rename_i d r e
  split at h
  ·rename_i hc
   cases q:number r with
   | none=>rw[q]at h;cases h
   | some n =>
    rw[q]at h;cases h;refine⟨w.takeWhile λc=>c != 60&&c != 62,d,r,?_,λc hc=>?_,?_,hc,q,rfl⟩
    ·have e1:w.drop (w.takeWhile λc=>c != 60&&c != 62).length=w.dropWhile λc=>c != 60&&c != 62:=by
      conv=>lhs;arg 2;rw[<-mL (p:=λc=>c != 60&&c != 62) (l:=w)]
      rw[vv]
     rw[<-e,e1,mL]
    ·have:=bC.mp (List.all_takeWhile (l:=w) (p:=λc=>c != 60&&c != 62)) c hc;simpa using this
    ·have e1:w.drop (w.takeWhile λc=>c != 60&&c != 62).length=w.dropWhile λc=>c != 60&&c != 62:=by
      conv=>lhs;arg 2;rw[<-mL (p:=λc=>c != 60&&c != 62) (l:=w)]
      rw[vv]
     rw[e1]at e;have:=List.head?_dropWhile_not (λc=>c != 60&&c != 62) w;rw[e]at this;simp at this;by_cases z:d=60
     ·exact .inl z
     ·exact .inr (this z)
  ·cases h
 ·cases h
theorem Hc {cs:List Bytes}{m:Bool}{p:Bytes×Bytes}{b:Bound}(h:PJ cs m p=some b):cs.contains p.1=true/\number p.2=some b.n:=by
 unfold PJ at h
 split at h
 ·rename_i hc
  cases q:number p.2 with
  | none=>rw[q]at h;cases h
  | some n=>rw[q]at h;cases h;exact⟨hc,rfl⟩
 ·cases h
theorem Cf {cs:List Bytes}(hc:∀w∈cs,name w=true) (w:Bytes):bound cs w=t7 cs w:=by
 have nm:∀{x:Bytes},cs.contains x=true->∀c∈x,c≠60/\c≠62:=λ{x} hx c Xx=>by
  have:=DG (By (hc x (aS.mp hx)) c Xx);exact⟨this.1,this.2.2.1⟩
 cases h:bound cs w with
 | some b =>
  obtain⟨x,d,r,rfl,hx,hd,Xx,hn,hb⟩:=wV h;have dg:=(wu hn).2.2.1;rw[zj hx hd]at h;rcases hd with rfl|rfl
  ·unfold t7;rw[FF λz=>(hx 60 z).1 rfl];exact h.symm
  ·unfold t7;rw[DU,FF λz=>(hx 62 z).2 rfl]
   ·exact h.symm
   ·intro z;rcases aN.mp z with z|z
    ·exact(hx 60 z).1 rfl
    ·simp only[ah]at z;rcases z with z|z|z
     ·cases z
     ·cases z
     ·exact(DG (FE (dg 60 z))).1 rfl
 | none =>
  cases q:t7 cs w with
  | none=>rfl
  | some b =>
   exfalso;unfold t7 at q
   split at q
   ·rename_i p e
    have e2:=uM (p:=p.1) (r:=p.2) e;have hx:=nm (Hc q).1;rw[e2,zj hx (.inl rfl)]at h;have:PJ cs true p=none:=h;rw[this]at q;cases q
   ·split at q
    ·rename_i p e
     have e2:=uM (p:=p.1) (r:=p.2) e;have hx:=nm (Hc q).1;rw[e2,zj hx (.inr rfl)]at h;have:PJ cs false p=none:=h;rw[this]at q;cases q
    ·cases q
theorem jv:ascii "signal" ≠ ascii "clock" /\ ascii "machine" ≠ ascii "clock" /\ ascii "machine" ≠ ascii "signal" /\ ascii "place" ≠ ascii "clock" /\ ascii "place" ≠ ascii "signal" /\ ascii "place" ≠ ascii "machine" /\ ascii "edge" ≠ ascii "clock" /\ ascii "edge" ≠ ascii "signal" /\ ascii "edge" ≠ ascii "machine" /\ ascii "edge" ≠ ascii "place":=by decide +kernel
theorem qS (N:Net) (h a:Bytes):line N [h,a]=if name a=false then none
  else if h=ascii "clock" then(if N.clocks.contains a=true\/N.machines≠[]\/CLOCKS<=N.clocks.length then none else some { N with clocks:=N.clocks++[a] })
  else if h=ascii "signal" then(if N.signals.contains a=true\/N.machines≠[]\/SIGNALS<=N.signals.length then none else some { N with signals:=N.signals++[a] })
  else if h=ascii "machine" then(if (N.machines.any λm=>m.name==a)=true\/(match N.machines.getLast? with
    | some m=>m.places.isEmpty
    | none=>false)=true\/MACHINES<=N.machines.length then none else some { N with machines:=N.machines++[⟨a,[],[]⟩] })
  else if h=ascii "place" then line.placed N N.machines.getLast? a []
  else none:=rfl
theorem oQ (N:Net) (h a b:Bytes) (l:List Bytes):line N (h::a::b::l) =
  if h=ascii "place" then(if name a=false then none else line.placed N N.machines.getLast? a (b::l))
  else if h=ascii "edge" then(match N.machines.getLast? with
   | some m=>(match line.at_ m a,line.at_ m b,tail N l with
    | some p,some q,some t=>if EDGES<=m.edges.length then none else some { N with machines:=N.machines.dropLast++[{ m with edges:=m.edges++[⟨p,q,t.1,t.2.1,t.2.2⟩] }] }
    | _,_,_=>none)
   | none=>none)
  else none:=by
 unfold line;cases N.machines.getLast?<;>rfl
theorem PZ (N:Net):line N []=some N:=rfl
theorem mW {α:Type}{l:List α}{m:α}(h:l.getLast?=some m):l=l.dropLast++[m]:=by
 cases e:l with
 | nil=>rw[e]at h;cases h
 | cons a r =>
  have hn:l≠[]:=by rw[e];simp
  rw[List.getLast?_eq_some_getLast hn]at h;cases h;rw[<-e];exact(List.dropLast_concat_getLast hn).symm
theorem wB (N:Net) (r:List Bytes):line N (ascii "clock" :: r)=match r with
  | [a]=>if name a=true/\¬N.clocks.contains a=true/\N.machines=[]/\N.clocks.length<4 then some { N with clocks:=N.clocks++[a] } else none
  | _=>none:=by
 match r with
 | []=>rfl
 | [a] =>
  rw[qS];dsimp only;by_cases h:name a=true
  ·rw[if_neg (by rw[h];exact nofun),if_pos rfl];by_cases q:N.clocks.contains a=true\/N.machines≠[]\/CLOCKS<=N.clocks.length
   ·rw[if_pos q,if_neg];rintro⟨_,h1,h2,h3⟩;rcases q with q|q|q
    ·exact h1 q
    ·exact q h2
    ·exact absurd h3 (Ec.mpr q)
   ·rw[if_neg q,if_pos];refine⟨h,λz=>q (.inl z),?_,?_⟩
    ·exact AA λz=>q (.inr (.inl z))
    ·exact AV λz=>q (.inr (.inr z))
  ·rw[if_pos (bz.mpr h),if_neg (λz=>h z.1)]
 | a::b::l =>
  rw[oQ,if_neg (λz=>jv.2.2.2.1 z.symm),if_neg (λz=>jv.2.2.2.2.2.2.1 z.symm)]
theorem ud (N:Net) (r:List Bytes):line N (ascii "signal" :: r)=match r with
  | [a]=>if name a=true/\¬N.signals.contains a=true/\N.machines=[]/\N.signals.length<8 then some { N with signals:=N.signals++[a] } else none
  | _=>none:=by
 match r with
 | []=>rfl
 | [a] =>
  rw[qS];dsimp only;by_cases h:name a=true
  ·rw[if_neg (by rw[h];exact nofun),if_neg jv.1,if_pos rfl];by_cases q:N.signals.contains a=true\/N.machines≠[]\/SIGNALS<=N.signals.length
   ·rw[if_pos q,if_neg];rintro⟨_,h1,h2,h3⟩;rcases q with q|q|q
    ·exact h1 q
    ·exact q h2
    ·exact absurd h3 (Ec.mpr q)
   ·rw[if_neg q,if_pos];refine⟨h,λz=>q (.inl z),?_,?_⟩
    ·exact AA λz=>q (.inr (.inl z))
    ·exact AV λz=>q (.inr (.inr z))
  ·rw[if_pos (bz.mpr h),if_neg (λz=>h z.1)]
 | a::b::l =>
  rw[oQ,if_neg (λz=>jv.2.2.2.2.1 z.symm),if_neg (λz=>jv.2.2.2.2.2.2.2.1 z.symm)]
def dQ (N:Net):Bool:=match N.machines.getLast? with
 | some m=>m.places.isEmpty
 | none=>false
theorem rT (N:Net) (r:List Bytes):line N (ascii "machine" :: r)=match r with
  | [a]=>if name a=true/\¬(N.machines.any λm=>m.name==a)=true/\dQ N=false/\N.machines.length<3 then some { N with machines:=N.machines++[⟨a,[],[]⟩] } else none
  | _=>none:=by
 match r with
 | []=>rfl
 | [a] =>
  rw[qS];dsimp only;by_cases h:name a=true
  ·rw[if_neg (by rw[h];exact nofun),if_neg jv.2.1,if_neg jv.2.2.1,if_pos rfl];have key:∀(A B D:Prop) (c:Bool) [Decidable A] [Decidable D] [Decidable (A\/c=true\/¬D)] [Decidable (B/\¬A/\c=false/\D)] (x:Net),B->(if A\/c=true\/¬D then none else some x)=if B/\¬A/\c=false/\D then some x else none:=by
    intro A B D c _ _ _ _ x hB;by_cases hA:A<;>by_cases hD:D<;>cases c<;>simp[hA,hB,hD]
   have k2:=λc=>key ((N.machines.any λm=>m.name==a)=true) (name a=true) (N.machines.length<3) c { N with machines:=N.machines++[⟨a,[],[]⟩] } h
   have e3:(MACHINES<=N.machines.length)=¬N.machines.length<3:=propext Ec.symm;unfold dQ;cases N.machines.getLast? with
   | none=>simp only[e3];exact(k2 false).trans (by simp)
   | some m=>simp only[e3];exact k2 m.places.isEmpty
  ·rw[if_pos (bz.mpr h),if_neg (λz=>h z.1)]
 | a::b::l =>
  rw[oQ,if_neg (λz=>jv.2.2.2.2.2.1 z.symm),if_neg (λz=>jv.2.2.2.2.2.2.2.2.1 z.symm)]
def ka (N:Net) (m:Machine) (a:Bytes) (bs:List Bound):Net:={ N with machines:=N.machines.dropLast++[{ m with places:=m.places++[(a,bs)] }] }
def addEdge (N:Net) (m:Machine) (e:Edge):Net:={ N with machines:=N.machines.dropLast++[{ m with edges:=m.edges++[e] }] }
theorem Du (N:Net) (m:Machine) (a:Bytes) (l:List Bytes):line.placed N (some m) a l=if ¬(m.places.any λp=>p.1==a)=true/\m.places.length<8/\(dZ N.clocks l).2=[] then some (ka N m a (dZ N.clocks l).1) else none:=by
 unfold line.placed;dsimp only;by_cases q:(m.places.any λp=>p.1==a)=true\/PLACES<=m.places.length
 ·rw[if_pos q,if_neg];rintro⟨h1,h2,_⟩;rcases q with q|q
  ·exact h1 q
  ·exact absurd h2 (Ec.mpr q)
 ·rw[if_neg q,A9];have h1:¬(m.places.any λp=>p.1==a)=true:=λz=>q (.inl z)
  have h2:m.places.length<8:=AV λz=>q (.inr z)
  by_cases h:(dZ N.clocks l).2=[]
  ·rw[if_pos h,if_pos ⟨h1,h2,h⟩];rfl
  ·rw[if_neg h,if_neg (λz=>h z.2.2)];rfl
theorem rR (N:Net) (r:List Bytes):line N (ascii "place" :: r)=match r,N.machines.getLast? with
  | a::l,some m=>if name a=true/\¬(m.places.any λp=>p.1==a)=true/\m.places.length<8/\(dZ N.clocks l).2=[] then some (ka N m a (dZ N.clocks l).1) else none
  | _,_=>none:=by
 match r with
 | []=>rfl
 | [a] =>
  rw[qS];by_cases h:name a=true
  ·rw[if_neg (by rw[h];exact nofun),if_neg jv.2.2.2.1,if_neg jv.2.2.2.2.1,if_neg jv.2.2.2.2.2.1,if_pos rfl];cases hm:N.machines.getLast? with
   | none=>rfl
   | some m =>
    rw[Du];dsimp only;simp only[h,true_and]
  ·rw[if_pos (bz.mpr h)];cases hm:N.machines.getLast? with
   | none=>rfl
   | some m=>dsimp only;rw[if_neg (λz=>h z.1)]
 | a::b::l =>
  rw[oQ,if_pos rfl];by_cases h:name a=true
  ·rw[if_neg (by rw[h];exact nofun)];cases hm:N.machines.getLast? with
   | none=>rfl
   | some m =>
    rw[Du];dsimp only;simp only[h,true_and]
  ·rw[if_pos (bz.mpr h)];cases hm:N.machines.getLast? with
   | none=>rfl
   | some m=>dsimp only;rw[if_neg (λz=>h z.1)]
def rN (m:Machine) (a:Bytes):Nat:=(m.places.map (·.1)).idxOf a
theorem UT (m:Machine) (a:Bytes):line.at_ m a=if (m.places.map (·.1)).contains a=true then some (rN m a) else none:=by
 unfold line.at_ rN;have:(m.places.any λp=>p.1==a)=(m.places.map (·.1)).contains a:=by
  rw[bQ,cx,aS,aH];exact⟨λ⟨x,h1,h2⟩=>⟨x,h1,eq_of_beq h2⟩,λ⟨x,h1,h2⟩=>⟨x,h1,beq_iff_eq.mpr h2⟩⟩
 rw[this]
theorem u7 {N:Net}(n:NOk N) (r:List Bytes):line N (ascii "edge" :: r)=match r,N.machines.getLast? with
  | a::b::l,some m=>if (m.places.map (·.1)).contains a=true/\(m.places.map (·.1)).contains b=true/\m.edges.length<16/\(gz N (lY N (gm N l).2).2).2=[] then
    some (addEdge N m ⟨rN m a,rN m b,(gm N l).1,(lY N (gm N l).2).1,(gz N (lY N (gm N l).2).2).1⟩) else none
  | _,_=>none:=by
 match r with
 | []=>rfl
 | [a] =>
  rw[qS];by_cases h:name a=true
  ·rw[if_neg (by rw[h];exact nofun),if_neg jv.2.2.2.2.2.2.1,if_neg jv.2.2.2.2.2.2.2.1,if_neg jv.2.2.2.2.2.2.2.2.1,if_neg jv.2.2.2.2.2.2.2.2.2]
  ·rw[if_pos (bz.mpr h)]
 | a::b::l =>
  rw[oQ,if_neg jv.2.2.2.2.2.2.2.2.2,if_pos rfl];cases hm:N.machines.getLast? with
  | none=>rfl
  | some m =>
   dsimp only;rw[UT,UT,R3 n];by_cases h1:(m.places.map (·.1)).contains a=true
   ·by_cases h2:(m.places.map (·.1)).contains b=true
    ·by_cases h3:(gz N (lY N (gm N l).2).2).2=[]
     ·rw[if_pos h1,if_pos h2];unfold Lc;rw[if_pos h3];dsimp only;by_cases h4:m.edges.length<16
      ·rw[if_neg (show ¬EDGES<=m.edges.length from Nat.not_le.mpr h4),if_pos ⟨h1,h2,h4,h3⟩];rfl
      ·rw[if_pos (show EDGES<=m.edges.length from Nat.le_of_not_lt h4),if_neg (λz=>h4 z.2.2.1)]
     ·refine W9 ?_ (if_neg (λz=>h3 z.2.2.2)).symm;rw[if_pos h1,if_pos h2];unfold Lc;rw[if_neg h3]
    ·refine W9 ?_ (if_neg (λz=>h2 z.2.1)).symm;rw[if_pos h1,if_neg h2]
   ·refine W9 ?_ (if_neg (λz=>h1 z.1)).symm;rw[if_neg h1]
theorem rS (N:Net){h:Bytes}(r:List Bytes) (h1:h≠ascii "clock") (h2:h≠ascii "signal") (h3:h≠ascii "machine") (h4:h≠ascii "place") (h5:h≠ascii "edge"):line N (h::r)=none:=by
 match r with
 | []=>rfl
 | [a] =>
  rw[qS,if_neg h1,if_neg h2,if_neg h3,if_neg h4]
  split<;>rfl
 | a::b::l=>rw[oQ,if_neg h4,if_neg h5]
theorem A8 {cs:List Bytes}:∀(l:List Bytes),∀b∈(dZ cs l).1,XE cs.length b
 | [],b,h=>by cases h
 | w::l,b,h=>by
  rw[dZ]at h;cases e:bound cs w with
  | none=>rw[e]at h;cases h
  | some c =>
   rw[e]at h;rcases ah.mp h with rfl|h
   ·obtain⟨x,d,r,_,_,_,hc,hn,hb⟩:=wV e;refine⟨?_,(wu hn).2.2.2⟩;rw[hb];exact cj (aS.mp hc)
   ·exact A8 l b h
theorem GF {cs:List Bytes}:∀(l:List Bytes),∀c∈(gy cs l).1,c<cs.length
 | [],b,h=>by cases h
 | w::l,b,h=>by
  rw[gy]at h
  split at h
  ·rename_i hc
   rcases ah.mp h with rfl|h
   ·exact cj (aS.mp hc)
   ·exact GF l b h
  ·cases h
theorem Oq {N:Net}(l:List Bytes):∀b∈(gm N l).1,XE N.clocks.length b:=by
 intro b hb
 match l with
 | []=>cases hb
 | w::r =>
  by_cases h:w=ascii "when"
  ·rw[qJ h]at hb;exact A8 r b hb
  ·rw[tN h]at hb;cases hb
theorem Sv {N:Net}(l:List Bytes):∀c∈(lY N l).1,c<N.clocks.length:=by
 intro b hb
 match l with
 | []=>cases hb
 | w::r =>
  by_cases h:w=ascii "set"
  ·rw[tS h]at hb;exact GF r b hb
  ·rw[xp h]at hb;cases hb
def aa5 (ns:Nat):Meet->Prop
 | .alone=>True
 | .gives s=>s<ns
 | .takes s=>s<ns
theorem PL {N:Net}(l:List Bytes):aa5 N.signals.length (gz N l).1:=by
 match l with
 | []=>trivial
 | [w]=>trivial
 | w::s::r =>
  by_cases h:N.signals.contains s=true
  ·have hs:=cj (aS.mp h);by_cases h1:w=ascii "give"
   ·rw[mB h h1];exact hs
   ·by_cases h2:w=ascii "take"
    ·rw[mz h h1 h2];exact hs
    ·rw[kD h h1 h2];trivial
  ·rw[pq h];trivial
theorem rP {α:Type}{l:List α}{a:α}(h:l.Nodup) (n:a∉l):(l++[a]).Nodup:=by
 rw[eh];refine⟨h,by simp,λx hx y hy=>?_⟩;rw[aL]at hy;subst hy;exact λz=>n (z▸hx)
theorem ij {α:Type}{l:List α}{a x:α}(h:x∈l++[a]):x∈l\/x=a:=by
 rcases aN.mp h with h|h
 ·exact .inl h
 ·exact .inr (aL.mp h)
theorem Fi {N N':Net}(n:NOk N){ws:List Bytes}(h:line N ws=some N'):NOk N':=by
 match ws with
 | []=>cases h;exact n
 | hd::r =>
  by_cases h1:hd=ascii "clock"
  ·subst h1;rw[wB]at h
   match r,h with
   | [],h=>cases h
   | [a],h =>
    dsimp only at h
    split at h
    ·rename_i q
     cases h;have nm:a∉N.clocks:=λz=>q.2.1 (aS.mpr z)
     refine⟨?_,rP n.Zt nm,λw hw=>?_,n.sl,n.snd,n.Xg,n.ml,n.Yx,n.Uz,λm hm=>?_,n.pre⟩
     ·rw[aJ];exact q.2.2.2
     ·rcases ij hw with z|rfl
      ·exact n.Q5 w z
      ·exact q.1
     ·have:N.machines=[]:=q.2.2.1;dsimp only at hm;rw[this]at hm;cases hm
    ·cases h
   | _::_::_,h=>cases h
  ·by_cases h2:hd=ascii "signal"
   ·subst h2;rw[ud]at h
    match r,h with
    | [],h=>cases h
    | [a],h =>
     dsimp only at h
     split at h
     ·rename_i q
      cases h;have nm:a∉N.signals:=λz=>q.2.1 (aS.mpr z)
      refine⟨n.cl,n.Zt,n.Q5,?_,rP n.snd nm,λw hw=>?_,n.ml,n.Yx,n.Uz,λm hm=>?_,n.pre⟩
      ·rw[aJ];exact q.2.2.2
      ·rcases ij hw with z|rfl
       ·exact n.Xg w z
       ·exact q.1
      ·have:N.machines=[]:=q.2.2.1;dsimp only at hm;rw[this]at hm;cases hm
     ·cases h
    | _::_::_,h=>cases h
   ·by_cases h3:hd=ascii "machine"
    ·subst h3;rw[rT]at h
     match r,h with
     | [],h=>cases h
     | [a],h =>
      dsimp only at h
      split at h
      ·rename_i q
       cases h;have nm:a∉N.machines.map (·.name):=λz=>by
        obtain⟨m,hm,e⟩:=aH.mp z;exact q.2.1 (cx.mpr ⟨m,hm,beq_iff_eq.mpr e⟩)
       refine⟨n.cl,n.Zt,n.Q5,n.sl,n.snd,n.Xg,?_,?_,λm hm=>?_,λm hm=>?_,λm hm=>?_⟩
       ·rw[aJ];exact q.2.2.2
       ·rw[bo];exact rP n.Yx nm
       ·rcases ij hm with z|rfl
        ·exact n.Uz m z
        ·exact q.1
       ·rcases ij hm with z|rfl
        ·exact n.mo m z
        ·exact⟨by simp,by simp,by simp,by simp,by simp,by simp⟩
       ·dsimp only at hm;rw[vx]at hm;cases e:N.machines.getLast? with
        | none =>
         rw[Ee]at e;rw[e]at hm;cases hm
        | some l =>
         have q3:=q.2.2.1;unfold dQ at q3;rw[e]at q3;dsimp only at q3;rw[mW e]at hm;rcases ij hm with z|rfl
         ·exact n.pre m z
         ·intro z;rw[z]at q3;cases q3
      ·cases h
     | _::_::_,h=>cases h
    ·by_cases h4:hd=ascii "place"
     ·subst h4;rw[rR]at h
      match r,hm:N.machines.getLast?,h with
      | [],_,h=>cases h
      | _::_,none,h=>cases h
      | a::l,some m,h =>
       dsimp only at h
       split at h
       ·rename_i q
        cases h;have e:=mW hm;have YR:m∈N.machines:=nV hm;have mo:=n.mo m YR;have nm:a∉m.places.map (·.1):=λz=>by
         obtain⟨p,hp,e⟩:=aH.mp z;exact q.2.1 (cx.mpr ⟨p,hp,beq_iff_eq.mpr e⟩)
        have e2:N.machines.map (·.name)=N.machines.dropLast.map (·.name)++[m.name]:=by
         conv=>lhs;rw[e]
         simp
        have e3:N.machines.length=N.machines.dropLast.length+1:=by
         conv=>lhs;rw[e]
         simp
        refine⟨n.cl,n.Zt,n.Q5,n.sl,n.snd,n.Xg,?_,?_,λx hx=>?_,λx hx=>?_,λx hx=>?_⟩
        ·have:=n.ml;simp only[ka,aJ,ay,bI];omega
        ·have:=n.Yx;rw[e2]at this;simp only[ka,bo,aP,cn];exact this
        ·rcases ij hx with z|rfl
         ·exact n.Uz x (nX _ z)
         ·exact n.Uz m YR
        ·rcases ij hx with z|rfl
         ·exact n.mo x (nX _ z)
         ·refine⟨?_,?_,λp hp=>?_,λp hp b hb=>?_,mo.el,λx hx=>?_⟩
          ·rw[aJ];exact q.2.2.1
          ·rw[bo];exact rP mo.nd nm
          ·rcases ij hp with z|rfl
           ·exact mo.nm p z
           ·exact q.1
          ·rcases ij hp with z|rfl
           ·exact mo.bd p z b hb
           ·exact A8 l b hb
          ·have eo:=mo.ed x hx;refine⟨?_,?_,eo.wh,eo.st,eo.mt⟩
           ·rw[aJ];exact mn eo.fr
           ·rw[aJ];exact mn eo.to
        ·simp only[ka,vx]at hx;exact n.pre x hx
       ·cases h
     ·by_cases h5:hd=ascii "edge"
      ·subst h5;rw[u7 n]at h
       match r,hm:N.machines.getLast?,h with
       | [],_,h=>cases h
       | [_],none,h=>cases h
       | [_],some _,h=>cases h
       | _::_::_,none,h=>cases h
       | a::b::l,some m,h =>
        dsimp only at h
        split at h
        ·rename_i q
         cases h;have e:=mW hm;have YR:m∈N.machines:=nV hm;have mo:=n.mo m YR;have e2:N.machines.map (·.name)=N.machines.dropLast.map (·.name)++[m.name]:=by
          conv=>lhs;rw[e]
          simp
         have e3:N.machines.length=N.machines.dropLast.length+1:=by
          conv=>lhs;rw[e]
          simp
         refine⟨n.cl,n.Zt,n.Q5,n.sl,n.snd,n.Xg,?_,?_,λx hx=>?_,λx hx=>?_,λx hx=>?_⟩
         ·have:=n.ml;simp only[addEdge,aJ,ay,bI];omega
         ·have:=n.Yx;rw[e2]at this;simp only[addEdge,bo,aP,cn];exact this
         ·rcases ij hx with z|rfl
          ·exact n.Uz x (nX _ z)
          ·exact n.Uz m YR
         ·rcases ij hx with z|rfl
          ·exact n.mo x (nX _ z)
          ·refine⟨mo.pl,mo.nd,mo.nm,mo.bd,?_,λx hx=>?_⟩
           ·rw[aJ];exact q.2.2.1
           ·rcases ij hx with z|rfl
            ·exact mo.ed x z
            ·have ix:∀{y:Bytes},(m.places.map (·.1)).contains y=true->rN m y<m.places.length:=λ{y} hy=>by
              have:=cj (aS.mp hy);rw[ax]at this;exact this
             refine⟨ix q.1,ix q.2.1,Oq l,Sv _,?_⟩;have:=PL (N:=N) (lY N (gm N l).2).2;dsimp only;cases z:(gz N (lY N (gm N l).2).2).1<;>rw[z]at this<;>exact this
         ·simp only[addEdge,vx]at hx;exact n.pre x hx
        ·cases h
      ·rw[rS N r h1 h2 h3 h4 h5]at h;cases h
def sg (c:Nat):Bool:=decide (c=10)||(decide (c=32)||(decide (c=46)||(decide (c=60)||(decide (c=61)||(decide (c=62)||(letter c||digit c))))))
def cl (c:Nat):Nat:=if sg c=true then c else 63
def asg (w:Bytes):Prop:=∀c∈w,sg c=true
theorem Zu {c:Nat}(h:sg c=true):cl c=c:=if_pos h
theorem WM {w:Bytes}(h:asg w):w.map cl=w:=by
 induction w with
 | nil=>rfl
 | cons a r ih=>rw[aP,Zu (h a (au ..)),ih λc hc=>h c (ai _ hc)]
theorem LR {w:Bytes}(h:asg (w.map cl)):asg w:=by
 intro c hc;have:=h (cl c) (oZ hc);unfold cl at this;by_cases q:sg c=true
 ·exact q
 ·rw[if_neg q]at this;exact absurd this (by decide)
theorem Q7 {c d:Nat}(hd:sg d=true) (Zc:d≠63):cl c=d↔c=d:=by
 unfold cl;by_cases q:sg c=true
 ·rw[if_pos q]
 ·rw[if_neg q];constructor
  ·exact λz=>absurd z.symm Zc
  ·rintro rfl;exact absurd hd q
theorem mV {w:Bytes}(h:name w=true):asg w:=λc hc=>by
 have:=By h c hc;unfold sg;rw[this];simp
theorem Q3 {c:Nat}(h:digit c=true):sg c=true:=by
 unfold sg;rw[h];simp
theorem Tb {w:Bytes}(h:kept.contains w=true):asg w:=by
 have:=BJ h;have all:∀v∈Lr,v.all sg=true:=by decide +kernel
 exact λc hc=>bC.mp (all w this) c hc
theorem sD:asg (ascii "clock")/\asg (ascii "signal")/\asg (ascii "machine")/\asg (ascii "place")/\asg (ascii "edge")/\asg (ascii "when")/\asg (ascii "set")/\asg (ascii "give")/\asg (ascii "take"):=by
 refine⟨?_,?_,?_,?_,?_,?_,?_,?_,?_⟩<;>exact Tb (by decide +kernel)
theorem yG {c:Nat}(hc:sg c=true) (Zc:c≠63):∀b:Bytes,split c (b.map cl)=(split c b).map (·.map cl)
 | []=>rfl
 | x::b=>by
  have ih:=yG hc Zc b;unfold split at ih⊢;rw[aP,eK,eK,ih];by_cases q:x=c
  ·rw[if_pos ((Q7 hc Zc).mpr q),if_pos q];rfl
  ·rw[if_neg λz=>q ((Q7 hc Zc).mp z),if_neg q];cases List.foldr (λx l=>if x=c then []::l else match l with|[]=>[[x]]|y::r=>(x::y)::r) [[]] b<;>rfl
theorem Dc (b:Bytes):words (b.map cl)=(words b).map (·.map cl):=by
 unfold words;rw[yG (by decide) (by decide),Cs]
 congr 1
 refine congrArg (λf=>qI f (split 32 b)) ?_
 funext w
 cases w<;>rfl
theorem Rg {cs:List Bytes}(hc:∀w∈cs,name w=true){w:Bytes}{b:Bound}(h:bound cs w=some b):asg w:=by
 obtain⟨x,d,r,rfl,_,hd,Xx,hn,_⟩:=wV h;intro c Lz;rcases aN.mp Lz with z|z
 ·exact mV (hc x (aS.mp Xx)) c z
 ·rcases ah.mp z with rfl|z
  ·rcases hd with rfl|rfl<;>decide
  ·rcases ah.mp z with rfl|z
   ·decide
   ·exact Q3 ((wu hn).2.2.1 c z)
theorem A7 {cs:List Bytes}(hc:∀w∈cs,name w=true):∀(l:List Bytes),∀w∈l,w∈(dZ cs l).2\/asg w
 | [],w,h=>by cases h
 | v::l,w,h=>by
  rw[dZ];cases e:bound cs v with
  | none=>exact .inl h
  | some b =>
   rcases ah.mp h with rfl|h
   ·exact .inr (Rg hc e)
   ·exact A7 hc l w h
theorem GD {cs:List Bytes}(hc:∀w∈cs,name w=true):∀(l:List Bytes),∀w∈l,w∈(gy cs l).2\/asg w
 | [],w,h=>by cases h
 | v::l,w,h=>by
  rw[gy];by_cases e:cs.contains v=true
  ·rw[if_pos e];rcases ah.mp h with rfl|h
   ·exact .inr (mV (hc w (aS.mp e)))
   ·exact GD hc l w h
  ·rw[if_neg e];exact .inl h
theorem Oo {N:Net}(n:NOk N) (l:List Bytes):∀w∈l,w∈(gm N l).2\/asg w:=by
 intro w hw
 match l,hw with
 | v::r,hw =>
  by_cases h:v=ascii "when"
  ·rw[qJ h];rcases ah.mp hw with rfl|hw
   ·exact .inr (h▸sD.2.2.2.2.2.1)
   ·exact A7 n.Q5 r w hw
  ·rw[tN h];exact .inl hw
theorem Su {N:Net}(n:NOk N) (l:List Bytes):∀w∈l,w∈(lY N l).2\/asg w:=by
 intro w hw
 match l,hw with
 | v::r,hw =>
  by_cases h:v=ascii "set"
  ·rw[tS h];rcases ah.mp hw with rfl|hw
   ·exact .inr (h▸sD.2.2.2.2.2.2.1)
   ·exact GD n.Q5 r w hw
  ·rw[xp h];exact .inl hw
theorem PK {N:Net}(n:NOk N) (l:List Bytes):∀w∈l,w∈(gz N l).2\/asg w:=by
 intro w hw
 match l,hw with
 | [v],hw=>exact .inl hw
 | v::s::r,hw =>
  by_cases h:N.signals.contains s=true
  ·have hs:=mV (n.Xg s (aS.mp h));by_cases h1:v=ascii "give"
   ·rw[mB h h1];rcases ah.mp hw with rfl|hw
    ·exact .inr (h1▸sD.2.2.2.2.2.2.2.1)
    ·rcases ah.mp hw with rfl|hw
     ·exact .inr hs
     ·exact .inl hw
   ·by_cases h2:v=ascii "take"
    ·rw[mz h h1 h2];rcases ah.mp hw with rfl|hw
     ·exact .inr (h2▸sD.2.2.2.2.2.2.2.2)
     ·rcases ah.mp hw with rfl|hw
      ·exact .inr hs
      ·exact .inl hw
    ·rw[kD h h1 h2];exact .inl hw
  ·rw[pq h];exact .inl hw
theorem Ln {N N':Net}(n:NOk N){ws:List Bytes}(h:line N ws=some N'):∀w∈ws,asg w:=by
 match ws with
 | []=>intro w hw;cases hw
 | hd::r =>
  have two:∀{hd a:Bytes},asg hd->asg a->∀w∈[hd,a],asg w:=λh1 h2 w hw=>by
   simp only[ah,aF,or_false]at hw;rcases hw with rfl|rfl
   ·exact h1
   ·exact h2
  by_cases h1:hd=ascii "clock"
  ·subst h1;rw[wB]at h
   match r,h with
   | [],h=>cases h
   | [a],h =>
    dsimp only at h
    split at h
    ·rename_i q
     exact two sD.1 (mV q.1)
    ·cases h
   | _::_::_,h=>cases h
  ·by_cases h2:hd=ascii "signal"
   ·subst h2;rw[ud]at h
    match r,h with
    | [],h=>cases h
    | [a],h =>
     dsimp only at h
     split at h
     ·rename_i q
      exact two sD.2.1 (mV q.1)
     ·cases h
    | _::_::_,h=>cases h
   ·by_cases h3:hd=ascii "machine"
    ·subst h3;rw[rT]at h
     match r,h with
     | [],h=>cases h
     | [a],h =>
      dsimp only at h
      split at h
      ·rename_i q
       exact two sD.2.2.1 (mV q.1)
      ·cases h
     | _::_::_,h=>cases h
    ·by_cases h4:hd=ascii "place"
     ·subst h4;rw[rR]at h
      match r,N.machines.getLast?,h with
      | [],_,h=>cases h
      | _::_,none,h=>cases h
      | a::l,some m,h =>
       dsimp only at h
       split at h
       ·rename_i q
        intro w hw;rcases ah.mp hw with rfl|hw
        ·exact sD.2.2.2.1
        ·rcases ah.mp hw with rfl|hw
         ·exact mV q.1
         ·rcases A7 n.Q5 l w hw with z|z
          ·rw[q.2.2.2]at z;cases z
          ·exact z
       ·cases h
     ·by_cases h5:hd=ascii "edge"
      ·subst h5;rw[u7 n]at h
       match r,hm:N.machines.getLast?,h with
       | [],_,h=>cases h
       | [_],none,h=>cases h
       | [_],some _,h=>cases h
       | _::_::_,none,h=>cases h
       | a::b::l,some m,h =>
        dsimp only at h
        split at h
        ·rename_i q
         have mo:=n.mo m (nV hm);have pn:∀{y:Bytes},(m.places.map (·.1)).contains y=true->asg y:=λ{y} hy=>by
          obtain⟨p,hp,rfl⟩:=aH.mp (aS.mp hy);exact mV (mo.nm p hp)
         intro w hw;rcases ah.mp hw with rfl|hw
         ·exact sD.2.2.2.2.1
         ·rcases ah.mp hw with rfl|hw
          ·exact pn q.1
          ·rcases ah.mp hw with rfl|hw
           ·exact pn q.2.1
           ·rcases Oo n l w hw with z|z
            ·rcases Su n _ w z with z|z
             ·rcases PK n _ w z with z|z
              ·rw[q.2.2.2]at z;cases z
              ·exact z
             ·exact z
            ·exact z
        ·cases h
      ·rw[rS N r h1 h2 h3 h4 h5]at h;cases h
theorem Ff {ws:List Bytes}(h:∀w∈ws,asg w):ws.map (·.map cl)=ws:=by
 induction ws with
 | nil=>rfl
 | cons a r ih=>rw[aP,WM (h a (au ..)),ih λc hc=>h c (ai _ hc)]
theorem S6 {N:Net}(n:NOk N) (ws:List Bytes):line N (ws.map (·.map cl))=line N ws:=by
 cases e:line N ws with
 | some N'=>rw[Ff (Ln n e),e]
 | none =>
  cases q:line N (ws.map (·.map cl))with
  | none=>rfl
  | some N' =>
   have:=Ln n q;have h2:∀w∈ws,asg w:=λw hw=>LR (this _ (oZ hw))
   rw[Ff h2,e]at q;cases q
theorem Hg:∀(ls:List (List Bytes)) (i:Nat){N:Net},NOk N->lines (ls.map (·.map (·.map cl))) i N=lines ls i N
 | [],_,_,_=>rfl
 | ws::r,i,N,n=>by
  rw[aP,lines,lines,S6 n];cases e:line N ws with
  | none=>rfl
  | some N'=>exact Hg r (i+1) (Fi n e)
theorem VH:NOk ⟨[],[],[]⟩:=⟨by simp,by simp,by simp,by simp,by simp,by simp,by simp,by simp,by simp,by simp,by simp⟩
theorem SA (b:Bytes):jf (b.map cl)=jf b:=by
 unfold jf;rw[yG (by decide) (by decide),da];have e:(words ∘ λx:List Nat=>x.map cl)=(λws:List Bytes=>ws.map (·.map cl)) ∘ words:=by
  funext x
  exact Dc x
 rw[e,<-da];exact Hg _ _ VH
theorem P4 {N:Net}(n:NOk N):(N.machines=[]\/(N.machines.any λm=>m.places.isEmpty)=true)↔(N.machines=[]\/dQ N=true):=by
 unfold dQ;cases e:N.machines.getLast? with
 | none =>
  rw[Ee]at e;simp[e]
 | some m =>
  have hm:m∈N.machines:=nV e;dsimp only;constructor
  ·rintro(h|h)
   ·exact .inl h
   ·right;obtain⟨x,hx,hp⟩:=cx.mp h;rw[mW e]at hx;rcases ij hx with z|rfl
    ·exact absurd (gs.mp hp) (n.pre x z)
    ·exact hp
  ·rintro(h|h)
   ·exact .inl h
   ·exact .inr (cx.mpr ⟨m,hm,h⟩)
theorem BF:∀(ls:List (List Bytes)) (i:Nat){N N':Net},NOk N->lines ls i N = .ok N'->mm N'
 | [],i,N,N',n,h=>by
  rw[lines]at h
  split at h
  ·cases h
  ·rename_i q
   cases h;refine⟨n,λz=>q (.inl z),λm hm z=>q (.inr (cx.mpr ⟨m,hm,by rw[z];rfl⟩))⟩
 | ws::r,i,N,N',n,h=>by
  rw[lines]at h;cases e:line N ws with
  | none=>rw[e]at h;cases h
  | some M=>rw[e]at h;exact BF r (i+1) (Fi n e) h
theorem MK {b:Bytes}{N:Net}(h:jf b = .ok N):mm N:=BF _ _ VH h
def tD (a:Nat):List Nat->Option (List Nat×List Nat)
 | []=>none
 | c::r=>if c=a then some ([],r) else(tD a r).map λp=>(c::p.1,p.2)
theorem ze {a:Nat}:∀{w:List Nat},tD a w=none->a∉w/\split a w=[w]
 | [],_=>⟨by simp,rfl⟩
 | c::r,h=>by
  rw[tD]at h;by_cases q:c=a
  ·rw[if_pos q]at h;cases h
  ·rw[if_neg q]at h;have h':tD a r=none:=by
    cases e:tD a r with
    | none=>rfl
    | some x=>rw[e]at h;cases h
   obtain⟨h1,h2⟩:=ze h';refine⟨λz=>?_,?_⟩
   ·rcases ah.mp z with z|z
    ·exact q z.symm
    ·exact h1 z
   ·unfold split at h2⊢;rw[eK,h2,if_neg q]
theorem tQ (a:Nat) (w:Bytes):split a w≠[]:=by
 cases w with
 | nil=>exact nofun
 | cons c r =>
  unfold split;rw[eK]
  split
  ·exact nofun
  ·split<;>exact nofun
theorem vg {a:Nat}:∀{w p r:List Nat},tD a w=some (p,r)->w=p++a::r/\a∉p/\split a w=p::split a r
 | [],_,_,h=>by cases h
 | c::l,p,r,h=>by
  rw[tD]at h;by_cases q:c=a
  ·rw[if_pos q]at h;cases h;refine⟨by rw[q];rfl,by simp,?_⟩;unfold split;rw[eK,if_pos q]
  ·rw[if_neg q]at h;cases e:tD a l with
   | none=>rw[e]at h;cases h
   | some x =>
    rw[e]at h;cases h;obtain⟨h1,h2,h3⟩:=vg (p:=x.1) (r:=x.2) e;refine⟨by rw[dy,<-h1],λz=>?_,?_⟩
    ·rcases ah.mp z with z|z
     ·exact q z.symm
     ·exact h2 z
    ·unfold split at h3⊢;rw[eK,h3,if_neg q]
def cA (N:Net):List Bytes:=N.machines.map (·.name)
def pNames (m:Machine):List Bytes:=m.places.map (·.1)
def EV (N:Net) (w:Bytes):Option (Nat×Nat):=match tD 46 w with
 | none=>none
 | some (a,b)=>if (cA N).contains a=true then match N.machines[(cA N).idxOf a]? with
   | some m=>if (pNames m).contains b=true then some ((cA N).idxOf a,(pNames m).idxOf b) else none
   | none=>none
  else none
theorem Uj {α:Type}(f:α->Bytes) (l:List α) (a:Bytes):(l.zipIdx.find? λx=>f x.1==a)=if (l.map f).contains a=true then(l[(l.map f).idxOf a]?).map λy=>(y,(l.map f).idxOf a) else none:=by
 rw[BS (λy=>f y==a) l 0]
 induction l with
 | nil=>rfl
 | cons y l ih =>
  rw[pU,aP,RT,pW];by_cases h:(f y==a)=true
  ·have h2:(a==f y)=true:=by rw[eq_of_beq h];exact beq_self_eq_true _
   simp[h,h2]
  ·have h2:(a==f y)=false:=bz.mpr λz=>h (by rw[eq_of_beq z];exact beq_self_eq_true _)
   have h3:(f y==a)=false:=bz.mpr h;rw[h2,jh,h3];simp only[aE,if_false];simp only[gk]at ih⊢;by_cases hc:(l.map f).contains a=true
   ·rw[if_pos hc]at ih⊢;cases e:l.findIdx? (λy=>f y==a)with
    | none =>
     rw[List.findIdx?_eq_none_iff]at e;obtain⟨x,hx,hxa⟩:=aH.mp (aS.mp hc);have:=e x hx;rw[hxa]at this;simp at this
    | some i =>
     rw[e]at ih;simp only[mJ]at ih;simp only[cY,mJ,fX];have hi:(l[i]?).isSome=true:=by
      rw[lW]at e;obtain⟨hX,_⟩:=e;rw[ae hX];rfl
     obtain⟨z,hz⟩:=fG.mp hi;rw[hz]at ih⊢;simp only[cY]at ih⊢;have hj:(l[(l.map f).idxOf a]?).isSome=true:=by
      rw[ae (by have:=cj (aS.mp hc);rwa [ax]at this)];rfl
     obtain⟨u,hu⟩:=fG.mp hj;rw[hu]at ih;simp only[cond_false,fX];rw[hu];simp only[cY,b4,vt]at ih⊢;exact⟨ih.1,by rw[ih.2]⟩
   ·rw[if_neg hc]at ih⊢;cases e:l.findIdx? (λy=>f y==a)with
    | none=>rfl
    | some i =>
     exfalso;rw[lW]at e;obtain⟨hX,he,_⟩:=e;exact hc (aS.mpr (aH.mpr ⟨l[i],Az hX,eq_of_beq he⟩))
theorem T8 (N:Net) (a b:Bytes):((N.machines.zipIdx.find? λm=>m.1.name==a).bind λm=>(m.1.places.zipIdx.find? λp=>p.1.1==b).map λp=>(m.2,p.2)) =
  if (cA N).contains a=true then match N.machines[(cA N).idxOf a]? with
   | some m=>if (pNames m).contains b=true then some ((cA N).idxOf a,(pNames m).idxOf b) else none
   | none=>none
  else none:=by
 rw[Uj (λm:Machine=>m.name) N.machines a];unfold cA;by_cases h:(N.machines.map (·.name)).contains a=true
 ·rw[if_pos h,if_pos h];cases N.machines[(N.machines.map (·.name)).idxOf a]? with
  | none=>rfl
  | some m =>
   simp only[cY,mJ];rw[Uj (λp:Bytes×List Bound=>p.1) m.places b];unfold pNames;by_cases h2:(m.places.map (·.1)).contains b=true
   ·rw[if_pos h2,if_pos h2];have:(m.places.map (·.1)).idxOf b<m.places.length:=by
     have:=cj (aS.mp h2)
     rwa [ax]at this
    rw[ae this];rfl
   ·rw[if_neg h2,if_neg h2];rfl
 ·rw[if_neg h,if_neg h];rfl
theorem Rl {N:Net}(n:NOk N) (w:Bytes):askOf N w=EV N w:=by
 unfold askOf EV;cases e:tD 46 w with
 | none =>
  rw[(ze e).2]
 | some x =>
  obtain⟨a,b⟩:=x;obtain⟨_,_,h3⟩:=vg e;rw[h3];dsimp only;cases e2:tD 46 b with
  | none =>
   rw[(ze e2).2];exact T8 N a b
  | some y =>
   obtain⟨b1,b2⟩:=y;obtain⟨hb,_,h4⟩:=vg e2;rw[h4];cases e3:split 46 b2 with
   | nil=>exact absurd e3 (tQ 46 b2)
   | cons z r =>
    dsimp only
    symm
    split
    ·split
     ·rename_i m hm
      refine if_neg λhc=>?_
      obtain⟨p,hp,hpb⟩:=aH.mp (aS.mp hc);have:=By ((n.mo m (aI hm)).nm p hp) 46 (by rw[hpb,hb];simp);exact absurd this (by decide)
     ·rfl
    ·rfl
theorem WT {N:Net}(n:NOk N){w:Bytes}{x:Nat×Nat}(h:askOf N w=some x):asg w:=by
 rw[Rl n]at h;unfold EV at h;cases e:tD 46 w with
 | none=>rw[e]at h;cases h
 | some y =>
  obtain⟨a,b⟩:=y;rw[e]at h;dsimp only at h;obtain⟨hw,_,_⟩:=vg e
  split at h
  ·rename_i ha
   split at h
   ·rename_i m hm
    split at h
    ·rename_i hb
     obtain⟨ma,hma,rfl⟩:=aH.mp (aS.mp ha);obtain⟨p,hp,rfl⟩:=aH.mp (aS.mp hb);rw[hw];intro c hc;rcases aN.mp hc with z|z
     ·exact mV (n.Uz ma hma) c z
     ·rcases ah.mp z with rfl|z
      ·decide
      ·exact mV ((n.mo m (aI hm)).nm p hp) c z
    ·cases h
   ·cases h
  ·cases h
theorem FV {N:Net}(n:NOk N):∀{ws:List Bytes}{l:Ask},asks N ws=some l->∀w∈ws,asg w
 | [],_,_,w,hw=>by cases hw
 | v::ws,l,h,w,hw=>by
  rw[asks]at h;cases e:askOf N v with
  | none=>rw[e]at h;cases h
  | some x =>
   rw[e]at h;cases e2:asks N ws with
   | none=>rw[e2]at h;cases h
   | some r =>
    rcases ah.mp hw with rfl|hw
    ·exact WT n e
    ·exact FV n e2 w hw
theorem T6 {N:Net}(n:NOk N) (ws:List Bytes):asks N (ws.map (·.map cl))=asks N ws:=by
 cases e:asks N ws with
 | some l=>rw[Ff (FV n e),e]
 | none =>
  cases q:asks N (ws.map (·.map cl))with
  | none=>rfl
  | some l =>
   have:=FV n q;have h2:∀w∈ws,asg w:=λw hw=>LR (this _ (oZ hw))
   rw[Ff h2,e]at q;cases q
def enc (b:Nat):List Nat->Nat
 | []=>0
 | x::r=>x+b * enc b r
theorem Fx {b:Nat}:∀{l:List Nat},(∀x∈l,x<b)->enc b l<b ^ l.length
 | [],_=>by simp[enc]
 | x::r,h=>by
  have ih:=Fx (l:=r) λy hy=>h y (ai _ hy)
  have hx:=h x (au ..);rw[enc,ay,dW,ia (b ^ _) b]
  calc x+b * enc b r<b+b * enc b r:=by omega
   _=b * (enc b r+1):=by rw[lV,rg,i6]
   _<=b * b ^ r.length:=xc _ ih
theorem mX {b x:Nat}{r:List Nat}(h:x<b):enc b (x::r) / b=enc b r:=by
 rw[enc,i6,uV (by omega),tf h,j0]
theorem oK {b x:Nat}{r:List Nat}(h:x<b):enc b (x::r) % b=x:=by
 rw[enc,Nat.add_mul_mod_self_left,Nat.mod_eq_of_lt h]
theorem Hy {b:Nat}:∀{l:List Nat}(i:Nat),(∀x∈l,x<b)->enc b l / b ^ i=enc b (l.drop i)
 | l,0,_=>by simp
 | [],i+1,_=>by simp[enc]
 | x::r,i+1,h=>by
  rw[dW,ia,<-tJ,mX (h x (au ..)),w9];exact Hy i λy hy=>h y (ai _ hy)
theorem LK {b:Nat}{l:List Nat}(i:Nat) (h:∀x∈l,x<b):enc b l / b ^ i % b=l.getD i 0:=by
 rw[Hy i h,bB];cases e:l[i]? with
 | none=>rw[iV (List.getElem?_eq_none_iff.mp e)];simp[enc]
 | some x =>
  obtain⟨hi,hx⟩:=aw.mp e;rw[dY hi,hx,oK]
  ·rfl
  ·exact h x (aI e)
theorem enc_inj {b:Nat}:∀{l l':List Nat},l.length=l'.length->(∀x∈l,x<b)->(∀x∈l',x<b)->enc b l=enc b l'->l=l'
 | [],[],_,_,_,_=>rfl
 | x::l,y::l',hl,h1,h2,e=>by
  have a1:=mX (r:=l) (h1 x (au ..));have a2:=mX (r:=l') (h2 y (au ..));have b1:=oK (r:=l) (h1 x (au ..));have b2:=oK (r:=l') (h2 y (au ..));rw[e]at a1 b1;rw[show x=y from b1.symm.trans b2,enc_inj (by simpa using hl) (λz hz=>h1 z (ai _ hz)) (λz hz=>h2 z (ai _ hz)) (a1.symm.trans a2)]
 | [],_::_,hl,_,_,_=>by simp at hl
 | _::_,[],hl,_,_,_=>by simp at hl
theorem xY (b:Nat):∀n,enc b (bx n 0)=0
 | 0=>rfl
 | n+1=>by rw[cM,enc,xY b n];simp
theorem B1 (b:Nat):∀(l:List Nat) (x:Nat),enc b (l++[x])=enc b l+x * b ^ l.length
 | [],x=>by simp[enc]
 | y::l,x=>by
  rw[dy,enc,enc,B1 b l x,ay,dW,lV];rw[show b * (x * b ^ l.length)=x * (b ^ l.length * b) by rw[Rt,ia b]];omega
theorem LJ (b:Nat) (l:List Nat):l.reverse.foldl (λn x=>n * b+x) 0=enc b l:=by
 rw[List.foldl_reverse]
 induction l with
 | nil=>rfl
 | cons x r ih =>
  rw[eK,ih,enc,ia,i6]
theorem oU (k a b:Nat):a &&& b=(a % 2 ^ k &&& b % 2 ^ k)+2 ^ k * (a / 2 ^ k &&& b / 2 ^ k):=by
 rw[<-Nat.and_mod_two_pow,<-Nat.and_div_two_pow,Nat.mod_add_div]
theorem Fy (k:Nat):∀(l m:List Nat),(∀x∈l,x<2 ^ k)->(∀x∈m,x<2 ^ k)->enc (2 ^ k) l &&& enc (2 ^ k) m=enc (2 ^ k) (Io (λx y=>x &&& y) l m)
 | [],m,_,_=>by simp[enc]
 | x::l,[],_,_=>by simp[enc]
 | x::l,y::m,h1,h2=>by
  have hx:=h1 x (au ..);have hy:=h2 y (au ..);rw[oU k,oK hx,oK hy,mX hx,mX hy,Fy k l m (λz hz=>h1 z (ai _ hz)) (λz hz=>h2 z (ai _ hz)),List.zipWith_cons_cons,enc]
def dM (s:State):Nat:=enc 8 s.at_ * 1048576+enc 32 s.time
theorem t32 {N:Net}{s:State}(h:mH N s):∀x∈s.time,x<32:=λx hx=>by
 have:=h.tt x hx;omega
theorem K1 {N:Net}(n:NOk N){s:State}(h:mH N s):enc 32 s.time<1048576:=by
 refine bh (Fx (t32 h)) ?_
 calc 32 ^ s.time.length<=32 ^ 4:=oh (by omega) (by rw[h.tl];exact n.cl)
  _=1048576:=by decide
theorem qQ {N:Net}(n:NOk N){s:State}(h:mH N s):dM s / 1048576=enc 8 s.at_:=by
 have:=K1 n h;unfold dM;omega
theorem yN {N:Net}(n:NOk N){s:State}(h:mH N s):dM s % 1048576=enc 32 s.time:=by
 have:=K1 n h;unfold dM;omega
theorem MQ {N:Net}(n:NOk N){s t:State}(hs:mH N s) (ht:mH N t) (e:dM s=dM t):s=t:=by
 have h1:=enc_inj (by rw[hs.al,ht.al]) (hs.p8 n) (ht.p8 n) (by rw[<-qQ n hs,<-qQ n ht,e]);have h2:=enc_inj (by rw[hs.tl,ht.tl]) (t32 hs) (t32 ht) (by rw[<-yN n hs,<-yN n ht,e]);cases s;cases t;simp only[State.mk.injEq];exact⟨h1,h2⟩
theorem BB {α:Type}(l:List α):l.map (λ_=>0)=bx l.length 0:=by
 induction l with
 | nil=>rfl
 | cons x r ih=>rw[aP,ih,ay,cM]
theorem t6 (N:Net):dM (start N)=0:=by
 unfold dM start;dsimp only;rw[BB,BB,xY,xY]
theorem DA:∀(l:List Nat),(∀x∈l,x<=16)->(enc 32 l / 16 &&& enc 32 (bx l.length 1))=enc 32 (l.map (· / 16))
 | [],_=>by simp[enc]
 | x::l,h=>by
  have hx:=h x (au ..);have ih:=DA l λy hy=>h y (ai _ hy)
  rw[ay,cM,aP,oU 5];have Zd:(2:Nat) ^ 5=32:=by decide
  rw[Zd,oK (by omega),mX (by omega)];have e1:enc 32 (x::l) / 16 / 32=enc 32 l / 16:=by
   rw[tJ,ia,<-tJ,mX (by omega)]
  rw[e1,ih];show _=x / 16+32 * _
  congr 1
  have e2:enc 32 (x::l) / 16 % 32=x / 16+2 * (enc 32 l % 16):=by
   rw[enc];omega
  rw[e2];have e3:(x / 16+2 * (enc 32 l % 16)) &&& 1=x / 16:=by
   rw[Nat.and_one_is_mod];omega
  exact e3
theorem DH:∀(l:List Nat),(∀x∈l,x<=16)->enc 32 l+enc 32 (bx l.length 1)=enc 32 (l.map λt=>min (t+1) 16)+enc 32 (l.map (· / 16))
 | [],_=>rfl
 | x::l,h=>by
  have hx:=h x (au ..);have ih:=DH l λy hy=>h y (ai _ hy)
  rw[ay,cM,aP,aP,enc,enc,enc,enc];have:x+1=min (x+1) 16+x / 16:=by omega
  omega
def gD (cs:List Nat):List Nat:=(bF 4).map λi=>if i∈cs then 0 else 31
theorem Qd:enc 32 (gD [])=1048575:=by decide
theorem D8:∀(l:List Nat) (c:Nat),(∀x∈l,x<32)->enc 32 l &&& (31 * 32 ^ c)=l.getD c 0 * 32 ^ c
 | [],c,_=>by simp[enc]
 | x::l,0,h=>by
  have hx:=h x (au ..);have Zd:(2:Nat) ^ 5=32:=by decide
  rw[oU 5,Zd,oK hx,mX hx];have e:x &&& 31=x:=by
   have:=nE x 5;rw[show 2 ^ 5-1=31 by decide]at this;rw[this];omega
  simp[e]
 | x::l,c+1,h=>by
  have hx:=h x (au ..);have Zd:(2:Nat) ^ 5=32:=by decide
  have ih:=D8 l c λy hy=>h y (ai _ hy)
  have e1:31 * 32 ^ (c+1) % 32=0:=by
   rw[dW,<-kR,Nat.mul_mod_left]
  have e2:31 * 32 ^ (c+1) / 32=31 * 32 ^ c:=by
   rw[dW,<-kR,Nat.mul_div_cancel _ (by omega)]
  rw[oU 5,Zd,oK hx,mX hx,e1,e2,ih];simp only[Nat.and_zero,gk,L8];rw[dW,ia 32,kR]
theorem LH:∀(l:List Nat) (c:Nat),enc 32 (l.set c 0)+l.getD c 0 * 32 ^ c=enc 32 l
 | [],c=>by simp[enc]
 | x::l,0=>by simp[enc,i6]
 | x::l,c+1=>by
  have ih:=LH l c;rw[yt,enc,enc,L8,<-ih,dW,lV];rw[show 32 * (l.getD c 0 * 32 ^ c)=l.getD c 0 * (32 ^ c * 32) by rw[Rt,ia 32]];omega
theorem Lq (cs:List Nat):∀x∈gD cs,x<32:=λx hx=>by
 unfold gD at hx;obtain⟨i,_,rfl⟩:=aH.mp hx
 split<;>omega
theorem Qb (cs:List Nat):(gD cs).length=4:=by simp[gD]
theorem BI (cs:List Nat) (i:Nat):(gD cs)[i]?=if i<4 then some (if i∈cs then 0 else 31) else none:=by
 unfold gD;rw[aR];by_cases h:i<4
 ·rw[if_pos h,fk h];rfl
 ·rw[if_neg h,cZ (by simp;omega)];rfl
theorem Na (cs:List Nat) (c:Nat):(gD cs).set c 0=gD (cs++[c]):=by
 refine hJ λi=>?_
 rw[md,BI,BI,Qb];by_cases h:c=i
 ·subst h;by_cases h4:c<4
  ·simp[h4]
  ·simp[h4]
 ·rw[if_neg h];by_cases h4:i<4
  ·simp only[h4,if_true,aN,aL];have:(i∈cs\/i=c)↔i∈cs:=⟨λz=>z.elim id λz=>absurd z.symm h,.inl⟩;simp only[this]
  ·simp[h4]
theorem M3 (cs:List Nat) (c:Nat):enc 32 (gD cs)-(enc 32 (gD cs) &&& (31 * 32 ^ c))=enc 32 (gD (cs++[c])):=by
 rw[D8 _ _ (Lq cs),<-Na];have:=LH (gD cs) c;omega
theorem PN (l cs:List Nat) (h:∀x∈l,x<32) (hl:l.length<=4):enc 32 l &&& enc 32 (gD cs)=enc 32 (l.zipIdx.map λx=>if x.2∈cs then 0 else x.1):=by
 have:=Fy 5 l (gD cs) h (Lq cs);rw[show(2:Nat) ^ 5=32 by decide]at this;rw[this]
 congr 1
 refine hJ λi=>?_
 rw[List.getElem?_zipWith,BI,aR,jU];cases e:l[i]? with
 | none=>simp
 | some v =>
  have hi:i<4:=bh (aw.mp e).1 hl;have hv:=h v (aI e);have e31:v &&& 31=v:=by
   have:=nE v 5;rw[show 2 ^ 5-1=31 by decide]at this;rw[this];omega
  simp only[hi,if_true,cY,gk];by_cases hc:i∈cs
  ·simp[hc]
  ·simp[hc,e31]
def bits (l:List Bool):Nat:=enc 2 (l.map Z3)
theorem HZ (l:List Bool):∀x∈l.map Z3,x<2:=λx hx=>by
 obtain⟨b,_,rfl⟩:=aH.mp hx;cases b<;>decide
theorem Ri (l m:List Bool):bits l &&& bits m=bits (Io (λa b=>a&&b) l m):=by
 unfold bits;have:=Fy 1 _ _ (HZ l) (HZ m);rw[show(2:Nat) ^ 1=2 by decide]at this;rw[this,Ru,List.map_zipWith]
 congr 1
 refine congrArg (λf=>Io f l m) ?_
 funext a b
 cases a<;>cases b<;>decide
theorem NK (n:Nat):bits (bx n true)=2 ^ n-1:=by
 unfold bits;rw[List.map_replicate]
 induction n with
 | zero=>rfl
 | succ n ih =>
  rw[cM,enc,ih,dW];have:0<2 ^ n:=kU n;simp only[RV];omega
theorem NJ (l:List Bool) (b:Bool):bits (l++[b])=bits l+(if b=true then 2 ^ l.length else 0):=by
 unfold bits;rw[bo,aP,cn,B1,ax];cases b<;>simp
def ko:List Bool->Nat->List Nat
 | [],_=>[]
 | b::r,i=>if b=true then i::ko r (i+1) else ko r (i+1)
def rowOf:List Nat->Nat
 | []=>0
 | k::r=>2 ^ k+rowOf r
theorem GZ:∀(l:List Bool) (i:Nat),rowOf (ko l i)=2 ^ i * bits l
 | [],i=>by simp[ko,rowOf,bits,enc]
 | b::r,i=>by
  have ih:=GZ r (i+1);unfold bits at ih⊢;rw[ko,aP,enc];cases b with
  | true =>
   rw[if_pos rfl,rowOf,ih,dW,RV,lV,rg,kR]
  | false =>
   rw[if_neg nofun,ih,dW,Bool.toNat_false,gk,kR]
theorem Vr (l:List Bool):bits l=rowOf (ko l 0):=by rw[GZ];simp
def Asc:List Nat->Prop
 | []=>True
 | k::r=>(∀j∈r,k<j)/\Asc r
theorem yC:∀(l:List Bool) (i:Nat),∀k∈ko l i,i<=k/\k<i+l.length
 | [],i,k,h=>by cases h
 | b::r,i,k,h=>by
  rw[ko]at h;rw[ay];cases b with
  | true =>
   rw[if_pos rfl]at h;rcases ah.mp h with rfl|h
   ·omega
   ·have:=yC r (i+1) k h;omega
  | false =>
   rw[if_neg nofun]at h;have:=yC r (i+1) k h;omega
theorem wg:∀(l:List Bool) (i:Nat),Asc (ko l i)
 | [],_=>trivial
 | b::r,i=>by
  rw[ko];cases b with
  | true =>
   rw[if_pos rfl];exact⟨λj hj=>by have:=yC r (i+1) j hj;omega,wg r (i+1)⟩
  | false=>rw[if_neg nofun];exact wg r (i+1)
theorem GY:∀(k:Nat) (r:List Nat),(∀j∈r,k<j)->∃m,rowOf r=2 ^ (k+1) * m
 | k,[],_=>⟨0,rfl⟩
 | k,j::r,h=>by
  obtain⟨m,e⟩:=GY k r λx hx=>h x (ai _ hx)
  have hj:=h j (au ..);refine⟨2 ^ (j-(k+1))+m,?_⟩;rw[rowOf,e,lV,<-Nat.pow_add,show k+1+(j-(k+1))=j by omega]
theorem Sx {k:Nat}{r:List Nat}(h:∀j∈r,k<j):rowOf (k::r)-(rowOf (k::r) &&& (rowOf (k::r)-1))=2 ^ k:=by
 obtain⟨m,e⟩:=GY k r h;have e1:rowOf (k::r)=2 ^ k * (2 * m+1):=by
  rw[rowOf,e,dW,lV,rg,kR,i6]
 rw[e1];have p:0<2 ^ k:=kU k;have d1:(2 ^ k * (2 * m+1)) % 2 ^ k=0:=Nat.mul_mod_right ..;have d2:(2 ^ k * (2 * m+1)) / 2 ^ k=2 * m+1:=Nat.mul_div_cancel_left _ p;have e2:2 ^ k * (2 * m+1)-1=2 ^ k * (2 * m)+(2 ^ k-1):=by
  rw[lV,rg];omega
 have d3:(2 ^ k * (2 * m+1)-1) / 2 ^ k=2 * m:=by
  rw[e2,uV p,tf (by omega),j0]
 have e3:(2 ^ k * (2 * m+1)) &&& (2 ^ k * (2 * m+1)-1)=2 ^ k * (2 * m):=by
  rw[oU k,d1,d2,d3,Nat.zero_and,gk]
  congr 1
  have h1:(2 * m+1) &&& (2 * m)=2 * m:=by
   rw[oU 1];have a1:(2 * m+1) % 2 ^ 1=1:=by omega
   have a2:(2 * m) % 2 ^ 1=0:=by omega
   have a3:(2 * m+1) / 2 ^ 1=m:=by omega
   have a4:(2 * m) / 2 ^ 1=m:=by omega
   rw[a1,a2,a3,a4,Nat.and_self];simp
  exact h1
 rw[e3,lV,rg];omega
theorem tP {α:Type}(p:α->Bool):∀(l:List α) (i:Nat) (f:Nat->Option α),(∀j,f (i+j)=l[j]?)->(ko (l.map p) i).map f=(l.filter p).map some
 | [],_,_,_=>rfl
 | x::l,i,f,h=>by
  have ih:=tP p l (i+1) f λj=>by rw[Gd,i6 1 j,h (j+1)];rfl
  rw[aP,ko,cR];by_cases q:p x=true
  ·rw[if_pos q,if_pos q,aP,aP,ih]
   congr 1
   exact h 0
  ·rw[if_neg q,if_neg q,ih]
abbrev C3:=List (List Int)
inductive wY:List Int->C3->List Int->Prop where
 | load (n:Int) (r:List Int):0<=n->n.toNat<=r.length->wY (1::n::r) [[1],r.take n.toNat] (r.drop n.toNat)
 | way (m n:Int) (r:List Int):0<=n->n.toNat<=r.length->wY (2::m::n::r) [[2,m],r.take n.toNat] (r.drop n.toNat)
 | least (n:Int) (r:List Int):0<=n->n.toNat<=r.length->wY (3::n::r) [[3],r.take n.toNat] (r.drop n.toNat)
 | stuck (m:Int) (r:List Int):wY (4::m::r) [[4,m]] r
theorem Bk {r x t:List Int}(h:Cr r=some (x,t)):∃n r',r=n::r'/\0<=n/\n.toNat<=r'.length/\x=r'.take n.toNat/\t=r'.drop n.toNat:=by
 cases r with
 | nil=>cases h
 | cons n r =>
  rw[Cr]at h
  split at h
  ·rename_i q
   cases h;exact⟨n,r,rfl,q.1,q.2,rfl,rfl⟩
  ·cases h
theorem O6 {r:List Int}{xs:C3}{t:List Int}(h:nj 1 r=some (xs,t)):∃x,xs=[x]/\Cr r=some (x,t):=by
 rw[nj]at h;cases e:Cr r with
 | none=>rw[e]at h;cases h
 | some y =>
  obtain⟨x,s⟩:=y;rw[e]at h;simp only[nj]at h;cases h;exact⟨x,rfl,rfl⟩
theorem T2 {p:Int}{r:List Int}{c:C3}{t:List Int}(h:Im oO (p::r)=some (c,t)):wY (p::r) c t:=by
 rw[Im]at h;unfold oO at h;by_cases h1:p=1
 ·subst h1;rw[if_pos rfl]at h;dsimp only at h;rw[if_neg (Ue _),fg,jQ]at h;cases e:nj 1 r with
  | none=>rw[e]at h;cases h
  | some y =>
   obtain⟨xs,s⟩:=y;rw[e]at h;cases h;obtain⟨x,rfl,hx⟩:=O6 e;obtain⟨n,r',rfl,hn,hl,rfl,rfl⟩:=Bk hx;exact .load n r' hn hl
 ·rw[if_neg h1]at h;by_cases h2:p=2
  ·subst h2;rw[if_pos rfl]at h;dsimp only at h
   split at h
   ·cases h
   ·rename_i hl
    cases r with
    | nil=>exact absurd (show([]:List Int).length<1 by decide) hl
    | cons m r =>
     simp only[w9,fg,oX,jQ]at h;cases e:nj 1 r with
     | none=>rw[e]at h;cases h
     | some y =>
      obtain⟨xs,s⟩:=y;rw[e]at h;cases h;obtain⟨x,rfl,hx⟩:=O6 e;obtain⟨n,r',rfl,hn,hl,rfl,rfl⟩:=Bk hx;exact .way m n r' hn hl
  ·rw[if_neg h2]at h;by_cases h3:p=3
   ·subst h3;rw[if_pos rfl]at h;dsimp only at h;rw[if_neg (Ue _),fg,jQ]at h;cases e:nj 1 r with
    | none=>rw[e]at h;cases h
    | some y =>
     obtain⟨xs,s⟩:=y;rw[e]at h;cases h;obtain⟨x,rfl,hx⟩:=O6 e;obtain⟨n,r',rfl,hn,hl,rfl,rfl⟩:=Bk hx;exact .least n r' hn hl
   ·rw[if_neg h3]at h;by_cases h4:p=4
    ·subst h4;rw[if_pos rfl]at h;dsimp only at h
     split at h
     ·cases h
     ·rename_i hl
      cases r with
      | nil=>exact absurd (show([]:List Int).length<1 by decide) hl
      | cons m r =>
       simp only[w9,fg,oX,jQ,nj]at h;cases h;exact .stuck m t
    ·rw[if_neg h4]at h;cases h
def qL (s:St) (c:C3):St×List Int:=pQ s (F2 c)
def fin (a:St×Ans):St×List Int:=(a.1,a.2.value::a.2.nums)
theorem step_load (s:St) (x:List Int):qL s [[1],x]=fin (answer s (.load (x.map j1) x.length)):=rfl
theorem OW (s:St) (m:Int) (x:List Int):qL s [[2,m],x]=fin (answer s (.way (x.map j1) x.length m)):=rfl
theorem Ja (s:St) (x:List Int):qL s [[3],x]=fin (answer s (.least (x.map j1) x.length)):=rfl
theorem I0 (s:St) (m:Int):qL s [[4,m]]=fin (answer s (.stuck m)):=rfl
def NM (c:C3):Bool:=Md16Neutral.asked1 (F2 c)
theorem Ce {l:List Int}(h:nF l=true):∀x∈l,0<=x/\x<256:=λx hx=>by
 have:=bC.mp h x hx;unfold Md16Neutral.natural at this;rw[aU,decide_eq_true_eq,decide_eq_true_eq]at this;exact⟨this.1,by have:=this.2;omega⟩
theorem Fh {l:List Int}{hi:Int}(h:kY l l.length 0 hi=true):(l.length:Int)<=hi\/l=[]:=by
 unfold kY at h;rw[decide_eq_true_eq]at h;by_cases q:(0:Int)<=l.length/\(l.length:Int)<=hi
 ·exact .inl q.2
 ·rw[if_neg q]at h;exact .inr (kZ.mp (by omega))
theorem Rk {x:List Int}(h:NM [[1],x]=true):(∀z∈x,0<=z/\z<256)/\x.length<=4096:=by
 have h:(mK x.length&&(nF x&&kY x x.length 0 4096))=true:=h;rw[aU,aU]at h;refine⟨Ce h.2.1,?_⟩;rcases Fh h.2.2 with z|z
 ·omega
 ·rw[z];simp
theorem T7 {m:Int}{x:List Int}(h:NM [[2,m],x]=true):(∀z∈x,0<=z/\z<256)/\x.length<=256:=by
 have h:(mK x.length&&(mK m&&(nF x&&kY x x.length 0 256)))=true:=h;rw[aU,aU,aU]at h;refine⟨Ce h.2.2.1,?_⟩;rcases Fh h.2.2.2 with z|z
 ·omega
 ·rw[z];simp
theorem NL {x:List Int}(h:NM [[3],x]=true):(∀z∈x,0<=z/\z<256)/\x.length<=256:=by
 have h:(mK x.length&&(nF x&&kY x x.length 0 256))=true:=h;rw[aU,aU]at h;refine⟨Ce h.2.1,?_⟩;rcases Fh h.2.2 with z|z
 ·omega
 ·rw[z];simp
structure Go (l rest:List Int) (s:St) (nums:List Int):Prop where
 ex:∃f post,oP oO f rest=some post/\(∀c∈post,NM c=true)/\nums++uU (i5 pQ s (post.map F2))=lU l
theorem QQ {l:List Int}(h:jx l=true):Go l l none []:=by
 unfold jx F3 at h;cases e:oP oO l.length l with
 | none=>rw[e]at h;cases h
 | some cs =>
  rw[e]at h;dsimp only at h;rw[aU]at h;refine⟨l.length,cs,e,λc hc=>?_,?_⟩
  ·have:=h.2;unfold F6 at this;rw[aU,aU]at this;exact bC.mp this.1.2 _ (oZ hc)
  ·unfold lU F3;rw[e];rfl
theorem Ww {l:List Int}{s:St}{nums:List Int}(h:Go l [] s nums):nums=lU l:=by
 obtain⟨f,post,e,_,h⟩:=h;have:post=[]:=by
  cases f<;>(rw[oP]at e;cases e;rfl)
 subst this;simpa[i5,uU]using h
theorem TB {l:List Int}{p:Int}{r:List Int}{s:St}{nums:List Int}(h:Go l (p::r) s nums):∃c t,wY (p::r) c t/\NM c=true/\Go l t (qL s c).1 (nums++((qL s c).2.length:Int)::(qL s c).2):=by
 obtain⟨f,post,e,ha,h⟩:=h;cases f with
 | zero=>rw[oP]at e;cases e
 | succ f =>
  rw[oP]at e;cases e1:Im oO (p::r)with
  | none=>rw[e1]at e;cases e
  | some y =>
   obtain⟨c,t⟩:=y;rw[e1]at e;dsimp only at e;cases e2:oP oO f t with
   | none=>rw[e2]at e;cases e
   | some cs =>
    rw[e2]at e;cases e;refine⟨c,t,T2 e1,ha c (au ..),⟨f,cs,e2,λx hx=>ha x (ai _ hx),?_⟩⟩;rw[<-h,aP,i5];unfold qL uU;rw[dI,cE]
theorem LG:∀(cs:List C3) (n:Nat) (s:St),xf n s cs=true->n+((i5 pQ s cs).map (·.length)).sum<1000000
 | [],n,s,h=>by
  rw[xf,decide_eq_true_eq]at h;simpa[i5]using h
 | c::r,n,s,h=>by
  rw[xf]at h;have:=LG r _ _ h;rw[i5,aP,UY];omega
theorem Gn:∀(l:List (List Int)),(uU l).length=l.length+(l.map (·.length)).sum
 | []=>rfl
 | a::l=>by
  have ih:=Gn l;unfold uU at ih⊢;rw[dI,aJ,ih,aP,UY,ay,ay];omega
theorem Bm:∀(cs:List C3) (s:St),(i5 pQ s cs).length=cs.length
 | [],_=>rfl
 | c::r,s=>by rw[i5,ay,ay,Bm r]
theorem Ic {l:List Int}(h:jx l=true):(lU l).length<=1000300:=by
 unfold jx at h;unfold lU;cases e:F3 l with
 | none=>simp
 | some cs =>
  rw[e]at h;dsimp only at h⊢;rw[aU]at h;have h1:cs.length<=300:=of_decide_eq_true h.1;have h2:=h.2;unfold F6 at h2;rw[aU]at h2;have:=LG cs 0 _ h2.2;rw[Gn,Bm];omega
end Mx
namespace Mp
open PySem
open PySem.Spec
open PyProof.Rows
open L2
section
variable {P:Program}{w:World}{K:aa}{mg:Str->Option Value}{base:Heap}
structure vm (P:Program) (w:World) (K:aa) (mg:Str->Option Value) (base:Heap) (k:Nat) (x:Str) (ps:List Str) (sp:Sp):Prop where
 ex:∃(f:Addr) (fd:FuncData),pR P w K mg base NR k f fd ps sp/\mg x=some (.ref f)/\cp K (.ref f)=true/\Binds K fd ps []
structure yy (P:Program) (w:World) (K:aa) (mg:Str->Option Value) (base:Heap) (k:Nat) (C:Addr) (x:Str) (ps:List Str) (sp:Sp):Prop where
 cl:sV K C
 ex:∃(f:Addr) (fd:FuncData),pR P w K mg base NR k f fd ps sp/\Meth K C x f/\Binds K fd ps []
structure IA (P:Program) (w:World) (K:aa) (mg:Str->Option Value) (base:Heap) (k:Nat) (C:Addr) (x:Str) (ps:List Str) (sp:Sp):Prop where
 ex:∃(f:Addr) (fd:FuncData),pR P w K mg base NR k f fd ps sp/\Mk K C f/\mg x=some (.ref C)/\Binds K fd ps []
end
section
variable {X:Cx}{k:Nat}{C:Addr}{ps:List Str}{sp:Sp}{x m:Str}{p pos apos:Pos}{e o:Expr}{es:List Expr}{ta:TE}{t:TA}
def X5 (sp:Sp) (t:TA):TE:=λσ H Q=>t σ H λvs H1=>sp vs H1 Q E0
def Vb (C:Addr) (m:Str) (sp:Sp) (ta:TE) (t:TA):TE:=λσ H Q=>ta σ H λx H1=>∃a dx fs,x = .ref a/\H1 a=some (.ins C dx fs)/\fs.lookup m=none/\t σ H1 λvs H2=>sp (x::vs) H2 Q E0
def Xd (C:Addr) (sp:Sp) (t:TA):TE:=λσ H Q=>t σ H λvs H1=>∀x dx,H1 x=none->H1 dx=none->dx≠x->sp (.ref x::vs) (upd (upd H1 dx (.own x)) x (.ins C dx [])) (λv H2=>v = .gi/\Q (.ref x) H2) E0
theorem eG (F:vm X.prog X.w X.K X.mg X.base k x ps sp) (hr:jY k X.A) (hg:Gl X x) (ha:PA X (e::es) t) (Kf:(x==("__debug__" : Str))=false:=by decide) (he:starEach (e::es) X.env=(false,eval e X.env)::starEach es X.env:=by rfl) (AJ:(backTo pos (starEach es X.env)).any (·.1)=false:=by rfl) :
  PE X (.Call (.Name x p) (e::es) [] pos) (X5 sp t):=by
 obtain⟨f,fd,F,hm,hk,hb⟩:=F.ex;have h:=SU (p:=p) (pos:=pos) F hr hg hm hk hb .nil (G6 (X:=X)) ha Kf he AJ;have e1:OQ sp [] E0 t=X5 sp t:=by
  funext σ H Q
  unfold OQ X5;simp only[eL]
 rw[e1]at h;exact h
theorem gP {pl:Sem Bool}(F:yy X.prog X.w X.K X.mg X.base k C m ps sp) (hr:jY k X.A) (he:PE X o ta) (ha:PA X (e::es) t)
  (xH:starEach (e::es) X.env=(false,eval e X.env)::starEach es X.env:=by rfl) (AJ:(backTo pos (starEach es X.env)).any (·.1)=false:=by rfl)
  (ht:eval (.Call (.Attribute o m apos) (e::es) [] pos) X.env=(do
   let ov <-eval o X.env
   standAt apos.atName
   let (f,first) <-holding [ov] (getMethod ov m pl)
   callWith pos f first (backTo pos (starEach (e::es) X.env)) (backToKw pos (keywordEach [] X.env))):=by rfl) :
  PE X (.Call (.Attribute o m apos) (e::es) [] pos) (Vb C m sp ta t):=by
 obtain⟨f,fd,F',hm,hb⟩:=F.ex;have h:=SN (pl:=pl) he F.cl hm F' hr hb .nil (G6 (X:=X)) ha xH AJ ht;have e1:K3 C m sp [] E0 ta t=Vb C m sp ta t:=by
  funext σ H Q
  unfold K3 Vb;simp only[eL]
 rw[e1]at h;exact h
theorem nL {pl:Sem Bool}(F:yy X.prog X.w X.K X.mg X.base k C m ps sp) (hr:jY k X.A) (he:PE X o ta)
  (ht:eval (.Call (.Attribute o m apos) [] [] pos) X.env=(do
   let ov <-eval o X.env
   standAt apos.atName
   let (f,first) <-holding [ov] (getMethod ov m pl)
   callWith pos f first (backTo pos (starEach [] X.env)) (backToKw pos (keywordEach [] X.env))):=by rfl) :
  PE X (.Call (.Attribute o m apos) [] [] pos) (Vb C m sp ta CH):=by
 obtain⟨f,fd,F',hm,hb⟩:=F.ex;exact Pk (pl:=pl) he F.cl hm F' hr hb .nil (G6 (X:=X)) ht
theorem vK (F:IA X.prog X.w X.K X.mg X.base k C x ps sp) (hr:jY (k+1) X.A) (hg:Gl X x) (ha:PA X (e::es) t) (Kf:(x==("__debug__" : Str))=false:=by decide) (he:starEach (e::es) X.env=(false,eval e X.env)::starEach es X.env:=by rfl) (AJ:(backTo pos (starEach es X.env)).any (·.1)=false:=by rfl) :
  PE X (.Call (.Name x p) (e::es) [] pos) (Xd C sp t):=by
 obtain⟨f,fd,F,M,hm,hb⟩:=F.ex;have h:=SO (p:=p) (pos:=pos) M F hr hg hm hb .nil (G6 (X:=X)) ha Kf he AJ;have e1:K4 C sp [] E0 t=Xd C sp t:=by
  funext σ H Q
  unfold K4 Xd;simp only[eL]
 rw[e1]at h;exact h
theorem JC (F:IA X.prog X.w X.K X.mg X.base k C x ps sp) (hr:jY (k+1) X.A) (hg:Gl X x) (Kf:(x==("__debug__" : Str))=false:=by decide):PE X (.Call (.Name x p) [] [] pos) (Xd C sp CH):=by
 obtain⟨f,fd,F,M,hm,hb⟩:=F.ex;exact Pl (p:=p) (pos:=pos) M F hr hg hm hb .nil (G6 (X:=X)) Kf
def sU (mg:Str->Option Value) (x:Str) (v:V):Prop:=∃u,mg x=some u/\RelV v u
theorem b9 {v:V}(hc:sU X.mg x v) (hg:Gl X x) (hd:(x==("__debug__" : Str))=false:=by decide):PE X (.Name x pos) (tC v):=by
 obtain⟨u,h1,h2⟩:=hc;exact SR hg h1 h2 hd
end
def top (i:Nat):Stmt:=PySem.Challenge.pw_meetclocks_s01_answers.main.body.getD i (.Pass ⟨0,0,0,0⟩)
open Mx
section
variable {X:Cx}
def Wu:R2:=λx y H Q=>∃p xs i v,x = .ref p/\y = .int i/\H p=some (.lst xs)/\nB xs i=some v/\Q v H
theorem dq:XD X Wu:=by
 intro value slice pins s σ H x y v u Q I rx ry q hs;obtain⟨p,xs,i,z,e1,e2,e3,e4,q⟩:=q;exact AI value slice pins s σ H x y v u Q I rx ry ⟨p,xs,i,z,e1,e2,dO.of e3,e4,q⟩ hs
def Wt:R2:=λx y H Q=>∃p xs i v,x = .ref p/\y = .int i/\H p=some (.tup xs)/\nB xs i=some v/\Q v H
theorem zL:XD X Wt:=by
 intro value slice pins s σ H x y v u Q I rx ry q hs;obtain⟨p,xs,i,z,e1,e2,e3,e4,q⟩:=q;exact V2 value slice pins s σ H x y v u Q I rx ry ⟨p,xs,i,z,e1,e2,lR.of e3,e4,q⟩ hs
theorem cO:sW X (.builtin "len") (λxs H Q=>∃p ys,xs=[.ref p]/\H p=some (.lst ys)/\Q (.int ys.length) H):=by
 intro pins s σ H xs us Q I rs q;obtain⟨p,ys,e1,e2,q⟩:=q;exact yc pins s σ H xs us Q I rs ⟨p,ys,e1,.inl (dO.of e2),q⟩
def QL:V->V->Hp->VK->Prop:=λo i H Q=>∃p xs k v,o = .ref p/\i = .int k/\H p=some (.lst xs)/\0<=k/\xs[k.toNat]?=some v/\Q v H
theorem QS:Zy X QL:=by
 intro pins s σ H o i ov iv Q I rx ry h;obtain⟨p,xs,k,z,rfl,rfl,hH,h0,he,q⟩:=h;cases rx;obtain⟨t,rfl⟩:=ry;obtain⟨cC,r,pl,hz⟩:=I.list (dO.of (K:=X.K) hH);obtain⟨w,ew,MG⟩:=r.get he;have hl:=r.length;have hn:=wC;have hk:k.toNat<xs.length:=(aw.mp he).1;exact wpAny_getItem_list pl.isList h0 (by omega) (by simpa using ew) ⟨z,H,I,MG,q⟩
end
theorem cxK {CX:NQ}{P:Program}{w:World}{K:aa}{mg:Str->Option Value}{base:Heap}{N:List Str}{qual:Str}{scope:Scope}{f:Addr}{cd:Value}{A:Around}{outer:List Env}{s:Shared}{H:Hp}{E:XK}:(Ko CX P w K mg base N qual scope f cd A outer s H E).K=K:=rfl
def cQ (v0 v1:V):List (Str×V):=[("lows",v0),("highs",v1)]
def dr (v0 v1 v2 v3 v4 v5 v6 v7:V):List (Str×V):=[("machine",v0),("number",v1),("source",v2),("target",v3),("bounds",v4),("sets",v5),("meeting",v6),("signal",v7)]
def eO (v0 v1 v2:V):List (Str×V):=[("places",v0),("place_bounds",v1),("edges",v2)]
def fL (v0 v1 v2 v3:V):List (Str×V):=[("clocks",v0),("signals",v1),("numbers",v2),("machines",v3)]
def fM (v0 v1 v2 v3 v4 v5:V):List (Str×V):=[("step",v0),("edges",v1),("is_time",v2),("target",v3),("place_bounds",v4),("kept",v5)]
def mD (v0 v1 v2:V):List (Str×V):=[("moves",v0),("all_moves",v1),("tables",v2)]
def gV (v0 v1 v2:V):List (Str×V):=[("told",v0),("known_spots",v1),("unit",v2)]
def i4 (v0 v1:V):List (Str×V):=[("answer",v0),("told",v1)]
def cP (v0 v1 v2 v3 v4 v5 v6:V):List (Str×V):=[("world",v0),("states",v1),("seen",v2),("befores",v3),("last_steps",v4),("firsts",v5),("first_stuck",v6)]
def fW (v0 v1 v2:V):List (Str×V):=[("told",v0),("found",v1),("units",v2)]
def js (v0 v1 v2 v3:V):List (Str×V):=[("number",v0),("most",v1),("row",v2),("behind",v3)]
theorem fl:(∀v0 v1:V,(cQ v0 v1).lookup ("lows" : Str)=some v0) /\
  (∀x v0 v1:V,a0 ("lows" : Str) x (cQ v0 v1)=cQ x v1) /\
  (∀v0 v1:V,(cQ v0 v1).lookup ("highs" : Str)=some v1) /\
  (∀x v0 v1:V,a0 ("highs" : Str) x (cQ v0 v1)=cQ v0 x) /\
  (∀v0 v1:V,(cQ v0 v1).length=2) /\
  (∀v0:V,(a0 ("lows" : Str) v0 (([]:List (Str×V)))).length=1) /\
  (∀v0 v1:V,a0 ("highs" : Str) v1 (a0 ("lows" : Str) v0 (([]:List (Str×V))))=cQ v0 v1) /\
  (∀v0 v1:V,(cQ v0 v1).lookup ("tighten" : Str)=none) /\
  (∀v0 v1:V,(cQ v0 v1).lookup ("hold" : Str)=none) /\
  (∀v0 v1 v2 v3 v4 v5 v6 v7:V,(dr v0 v1 v2 v3 v4 v5 v6 v7).lookup ("machine" : Str)=some v0) /\
  (∀x v0 v1 v2 v3 v4 v5 v6 v7:V,a0 ("machine" : Str) x (dr v0 v1 v2 v3 v4 v5 v6 v7)=dr x v1 v2 v3 v4 v5 v6 v7) /\
  (∀v0 v1 v2 v3 v4 v5 v6 v7:V,(dr v0 v1 v2 v3 v4 v5 v6 v7).lookup ("number" : Str)=some v1) /\
  (∀x v0 v1 v2 v3 v4 v5 v6 v7:V,a0 ("number" : Str) x (dr v0 v1 v2 v3 v4 v5 v6 v7)=dr v0 x v2 v3 v4 v5 v6 v7) /\
  (∀v0 v1 v2 v3 v4 v5 v6 v7:V,(dr v0 v1 v2 v3 v4 v5 v6 v7).lookup ("source" : Str)=some v2) /\
  (∀x v0 v1 v2 v3 v4 v5 v6 v7:V,a0 ("source" : Str) x (dr v0 v1 v2 v3 v4 v5 v6 v7)=dr v0 v1 x v3 v4 v5 v6 v7) /\
  (∀v0 v1 v2 v3 v4 v5 v6 v7:V,(dr v0 v1 v2 v3 v4 v5 v6 v7).lookup ("target" : Str)=some v3) /\
  (∀x v0 v1 v2 v3 v4 v5 v6 v7:V,a0 ("target" : Str) x (dr v0 v1 v2 v3 v4 v5 v6 v7)=dr v0 v1 v2 x v4 v5 v6 v7) /\
  (∀v0 v1 v2 v3 v4 v5 v6 v7:V,(dr v0 v1 v2 v3 v4 v5 v6 v7).lookup ("bounds" : Str)=some v4) /\
  (∀x v0 v1 v2 v3 v4 v5 v6 v7:V,a0 ("bounds" : Str) x (dr v0 v1 v2 v3 v4 v5 v6 v7)=dr v0 v1 v2 v3 x v5 v6 v7) /\
  (∀v0 v1 v2 v3 v4 v5 v6 v7:V,(dr v0 v1 v2 v3 v4 v5 v6 v7).lookup ("sets" : Str)=some v5) /\
  (∀x v0 v1 v2 v3 v4 v5 v6 v7:V,a0 ("sets" : Str) x (dr v0 v1 v2 v3 v4 v5 v6 v7)=dr v0 v1 v2 v3 v4 x v6 v7) /\
  (∀v0 v1 v2 v3 v4 v5 v6 v7:V,(dr v0 v1 v2 v3 v4 v5 v6 v7).lookup ("meeting" : Str)=some v6) /\
  (∀x v0 v1 v2 v3 v4 v5 v6 v7:V,a0 ("meeting" : Str) x (dr v0 v1 v2 v3 v4 v5 v6 v7)=dr v0 v1 v2 v3 v4 v5 x v7) /\
  (∀v0 v1 v2 v3 v4 v5 v6 v7:V,(dr v0 v1 v2 v3 v4 v5 v6 v7).lookup ("signal" : Str)=some v7) /\
  (∀x v0 v1 v2 v3 v4 v5 v6 v7:V,a0 ("signal" : Str) x (dr v0 v1 v2 v3 v4 v5 v6 v7)=dr v0 v1 v2 v3 v4 v5 v6 x) /\
  (∀v0 v1 v2 v3 v4 v5 v6 v7:V,(dr v0 v1 v2 v3 v4 v5 v6 v7).length=8) /\
  (∀v0:V,(a0 ("machine" : Str) v0 (([]:List (Str×V)))).length=1) /\
  (∀v0 v1:V,(a0 ("number" : Str) v1 (a0 ("machine" : Str) v0 (([]:List (Str×V))))).length=2) /\
  (∀v0 v1 v2:V,(a0 ("source" : Str) v2 (a0 ("number" : Str) v1 (a0 ("machine" : Str) v0 (([]:List (Str×V)))))).length=3) /\
  (∀v0 v1 v2 v3:V,(a0 ("target" : Str) v3 (a0 ("source" : Str) v2 (a0 ("number" : Str) v1 (a0 ("machine" : Str) v0 (([]:List (Str×V))))))).length=4) /\
  (∀v0 v1 v2 v3 v4:V,(a0 ("bounds" : Str) v4 (a0 ("target" : Str) v3 (a0 ("source" : Str) v2 (a0 ("number" : Str) v1 (a0 ("machine" : Str) v0 (([]:List (Str×V)))))))).length=5) /\
  (∀v0 v1 v2 v3 v4 v5:V,(a0 ("sets" : Str) v5 (a0 ("bounds" : Str) v4 (a0 ("target" : Str) v3 (a0 ("source" : Str) v2 (a0 ("number" : Str) v1 (a0 ("machine" : Str) v0 (([]:List (Str×V))))))))).length=6) /\
  (∀v0 v1 v2 v3 v4 v5 v6:V,(a0 ("meeting" : Str) v6 (a0 ("sets" : Str) v5 (a0 ("bounds" : Str) v4 (a0 ("target" : Str) v3 (a0 ("source" : Str) v2 (a0 ("number" : Str) v1 (a0 ("machine" : Str) v0 (([]:List (Str×V)))))))))).length=7) /\
  (∀v0 v1 v2 v3 v4 v5 v6 v7:V,a0 ("signal" : Str) v7 (a0 ("meeting" : Str) v6 (a0 ("sets" : Str) v5 (a0 ("bounds" : Str) v4 (a0 ("target" : Str) v3 (a0 ("source" : Str) v2 (a0 ("number" : Str) v1 (a0 ("machine" : Str) v0 (([]:List (Str×V))))))))))=dr v0 v1 v2 v3 v4 v5 v6 v7) /\
  (∀v0 v1 v2:V,(eO v0 v1 v2).lookup ("places" : Str)=some v0) /\
  (∀x v0 v1 v2:V,a0 ("places" : Str) x (eO v0 v1 v2)=eO x v1 v2) /\
  (∀v0 v1 v2:V,(eO v0 v1 v2).lookup ("place_bounds" : Str)=some v1) /\
  (∀x v0 v1 v2:V,a0 ("place_bounds" : Str) x (eO v0 v1 v2)=eO v0 x v2) /\
  (∀v0 v1 v2:V,(eO v0 v1 v2).lookup ("edges" : Str)=some v2) /\
  (∀x v0 v1 v2:V,a0 ("edges" : Str) x (eO v0 v1 v2)=eO v0 v1 x) /\
  (∀v0 v1 v2:V,(eO v0 v1 v2).length=3) /\
  (∀v0:V,(a0 ("places" : Str) v0 (([]:List (Str×V)))).length=1) /\
  (∀v0 v1:V,(a0 ("place_bounds" : Str) v1 (a0 ("places" : Str) v0 (([]:List (Str×V))))).length=2) /\
  (∀v0 v1 v2:V,a0 ("edges" : Str) v2 (a0 ("place_bounds" : Str) v1 (a0 ("places" : Str) v0 (([]:List (Str×V)))))=eO v0 v1 v2) /\
  (∀v0 v1 v2 v3:V,(fL v0 v1 v2 v3).lookup ("clocks" : Str)=some v0) /\
  (∀x v0 v1 v2 v3:V,a0 ("clocks" : Str) x (fL v0 v1 v2 v3)=fL x v1 v2 v3) /\
  (∀v0 v1 v2 v3:V,(fL v0 v1 v2 v3).lookup ("signals" : Str)=some v1) /\
  (∀x v0 v1 v2 v3:V,a0 ("signals" : Str) x (fL v0 v1 v2 v3)=fL v0 x v2 v3) /\
  (∀v0 v1 v2 v3:V,(fL v0 v1 v2 v3).lookup ("numbers" : Str)=some v2) /\
  (∀x v0 v1 v2 v3:V,a0 ("numbers" : Str) x (fL v0 v1 v2 v3)=fL v0 v1 x v3) /\
  (∀v0 v1 v2 v3:V,(fL v0 v1 v2 v3).lookup ("machines" : Str)=some v3) /\
  (∀x v0 v1 v2 v3:V,a0 ("machines" : Str) x (fL v0 v1 v2 v3)=fL v0 v1 v2 x) /\
  (∀v0 v1 v2 v3:V,(fL v0 v1 v2 v3).length=4) /\
  (∀v0:V,(a0 ("clocks" : Str) v0 (([]:List (Str×V)))).length=1) /\
  (∀v0 v1:V,(a0 ("signals" : Str) v1 (a0 ("clocks" : Str) v0 (([]:List (Str×V))))).length=2) /\
  (∀v0 v1 v2:V,(a0 ("numbers" : Str) v2 (a0 ("signals" : Str) v1 (a0 ("clocks" : Str) v0 (([]:List (Str×V)))))).length=3) /\
  (∀v0 v1 v2 v3:V,a0 ("machines" : Str) v3 (a0 ("numbers" : Str) v2 (a0 ("signals" : Str) v1 (a0 ("clocks" : Str) v0 (([]:List (Str×V))))))=fL v0 v1 v2 v3) /\
  (∀v0 v1 v2 v3:V,(fL v0 v1 v2 v3).lookup ("new_bounds" : Str)=none) /\
  (∀v0 v1 v2 v3:V,(fL v0 v1 v2 v3).lookup ("bounds_of" : Str)=none) /\
  (∀v0 v1 v2 v3 v4 v5:V,(fM v0 v1 v2 v3 v4 v5).lookup ("step" : Str)=some v0) /\
  (∀x v0 v1 v2 v3 v4 v5:V,a0 ("step" : Str) x (fM v0 v1 v2 v3 v4 v5)=fM x v1 v2 v3 v4 v5) /\
  (∀v0 v1 v2 v3 v4 v5:V,(fM v0 v1 v2 v3 v4 v5).lookup ("edges" : Str)=some v1) /\
  (∀x v0 v1 v2 v3 v4 v5:V,a0 ("edges" : Str) x (fM v0 v1 v2 v3 v4 v5)=fM v0 x v2 v3 v4 v5) /\
  (∀v0 v1 v2 v3 v4 v5:V,(fM v0 v1 v2 v3 v4 v5).lookup ("is_time" : Str)=some v2) /\
  (∀x v0 v1 v2 v3 v4 v5:V,a0 ("is_time" : Str) x (fM v0 v1 v2 v3 v4 v5)=fM v0 v1 x v3 v4 v5) /\
  (∀v0 v1 v2 v3 v4 v5:V,(fM v0 v1 v2 v3 v4 v5).lookup ("target" : Str)=some v3) /\
  (∀x v0 v1 v2 v3 v4 v5:V,a0 ("target" : Str) x (fM v0 v1 v2 v3 v4 v5)=fM v0 v1 v2 x v4 v5) /\
  (∀v0 v1 v2 v3 v4 v5:V,(fM v0 v1 v2 v3 v4 v5).lookup ("place_bounds" : Str)=some v4) /\
  (∀x v0 v1 v2 v3 v4 v5:V,a0 ("place_bounds" : Str) x (fM v0 v1 v2 v3 v4 v5)=fM v0 v1 v2 v3 x v5) /\
  (∀v0 v1 v2 v3 v4 v5:V,(fM v0 v1 v2 v3 v4 v5).lookup ("kept" : Str)=some v5) /\
  (∀x v0 v1 v2 v3 v4 v5:V,a0 ("kept" : Str) x (fM v0 v1 v2 v3 v4 v5)=fM v0 v1 v2 v3 v4 x) /\
  (∀v0 v1 v2 v3 v4 v5:V,(fM v0 v1 v2 v3 v4 v5).length=6) /\
  (∀v0:V,(a0 ("step" : Str) v0 (([]:List (Str×V)))).length=1) /\
  (∀v0 v1:V,(a0 ("edges" : Str) v1 (a0 ("step" : Str) v0 (([]:List (Str×V))))).length=2) /\
  (∀v0 v1 v2:V,(a0 ("is_time" : Str) v2 (a0 ("edges" : Str) v1 (a0 ("step" : Str) v0 (([]:List (Str×V)))))).length=3) /\
  (∀v0 v1 v2 v3:V,(a0 ("target" : Str) v3 (a0 ("is_time" : Str) v2 (a0 ("edges" : Str) v1 (a0 ("step" : Str) v0 (([]:List (Str×V))))))).length=4) /\
  (∀v0 v1 v2 v3 v4:V,(a0 ("place_bounds" : Str) v4 (a0 ("target" : Str) v3 (a0 ("is_time" : Str) v2 (a0 ("edges" : Str) v1 (a0 ("step" : Str) v0 (([]:List (Str×V)))))))).length=5) /\
  (∀v0 v1 v2 v3 v4 v5:V,a0 ("kept" : Str) v5 (a0 ("place_bounds" : Str) v4 (a0 ("target" : Str) v3 (a0 ("is_time" : Str) v2 (a0 ("edges" : Str) v1 (a0 ("step" : Str) v0 (([]:List (Str×V))))))))=fM v0 v1 v2 v3 v4 v5) /\
  (∀v0 v1 v2 v3 v4 v5:V,(fM v0 v1 v2 v3 v4 v5).lookup ("shown_after" : Str)=none) /\
  (∀v0 v1 v2 v3 v4 v5:V,(fM v0 v1 v2 v3 v4 v5).lookup ("allowed_by" : Str)=none) /\
  (∀v0 v1 v2:V,(mD v0 v1 v2).lookup ("moves" : Str)=some v0) /\
  (∀x v0 v1 v2:V,a0 ("moves" : Str) x (mD v0 v1 v2)=mD x v1 v2) /\
  (∀v0 v1 v2:V,(mD v0 v1 v2).lookup ("all_moves" : Str)=some v1) /\
  (∀x v0 v1 v2:V,a0 ("all_moves" : Str) x (mD v0 v1 v2)=mD v0 x v2) /\
  (∀v0 v1 v2:V,(mD v0 v1 v2).lookup ("tables" : Str)=some v2) /\
  (∀x v0 v1 v2:V,a0 ("tables" : Str) x (mD v0 v1 v2)=mD v0 v1 x) /\
  (∀v0 v1 v2:V,(mD v0 v1 v2).length=3) /\
  (∀v0:V,(a0 ("moves" : Str) v0 (([]:List (Str×V)))).length=1) /\
  (∀v0 v1:V,(a0 ("all_moves" : Str) v1 (a0 ("moves" : Str) v0 (([]:List (Str×V))))).length=2) /\
  (∀v0 v1 v2:V,a0 ("tables" : Str) v2 (a0 ("all_moves" : Str) v1 (a0 ("moves" : Str) v0 (([]:List (Str×V)))))=mD v0 v1 v2) /\
  (∀v0 v1 v2:V,(mD v0 v1 v2).lookup ("allowed_moves" : Str)=none) /\
  (∀v0 v1 v2:V,(gV v0 v1 v2).lookup ("told" : Str)=some v0) /\
  (∀x v0 v1 v2:V,a0 ("told" : Str) x (gV v0 v1 v2)=gV x v1 v2) /\
  (∀v0 v1 v2:V,(gV v0 v1 v2).lookup ("known_spots" : Str)=some v1) /\
  (∀x v0 v1 v2:V,a0 ("known_spots" : Str) x (gV v0 v1 v2)=gV v0 x v2) /\
  (∀v0 v1 v2:V,(gV v0 v1 v2).lookup ("unit" : Str)=some v2) /\
  (∀x v0 v1 v2:V,a0 ("unit" : Str) x (gV v0 v1 v2)=gV v0 v1 x) /\
  (∀v0 v1 v2:V,(gV v0 v1 v2).length=3) /\
  (∀v0:V,(a0 ("told" : Str) v0 (([]:List (Str×V)))).length=1) /\
  (∀v0 v1:V,(a0 ("known_spots" : Str) v1 (a0 ("told" : Str) v0 (([]:List (Str×V))))).length=2) /\
  (∀v0 v1 v2:V,a0 ("unit" : Str) v2 (a0 ("known_spots" : Str) v1 (a0 ("told" : Str) v0 (([]:List (Str×V)))))=gV v0 v1 v2) /\
  (∀v0 v1 v2:V,(gV v0 v1 v2).lookup ("start_holds" : Str)=none) /\
  (∀v0 v1 v2:V,(gV v0 v1 v2).lookup ("steps_from" : Str)=none) /\
  (∀v0 v1 v2:V,(gV v0 v1 v2).lookup ("one_later" : Str)=none) /\
  (∀v0 v1 v2:V,(gV v0 v1 v2).lookup ("spot_at" : Str)=none) /\
  (∀v0 v1:V,(i4 v0 v1).lookup ("answer" : Str)=some v0) /\
  (∀x v0 v1:V,a0 ("answer" : Str) x (i4 v0 v1)=i4 x v1) /\
  (∀v0 v1:V,(i4 v0 v1).lookup ("told" : Str)=some v1) /\
  (∀x v0 v1:V,a0 ("told" : Str) x (i4 v0 v1)=i4 v0 x) /\
  (∀v0 v1:V,(i4 v0 v1).length=2) /\
  (∀v0:V,(a0 ("answer" : Str) v0 (([]:List (Str×V)))).length=1) /\
  (∀v0 v1:V,a0 ("told" : Str) v1 (a0 ("answer" : Str) v0 (([]:List (Str×V))))=i4 v0 v1) /\
  (∀v0 v1 v2 v3 v4 v5 v6:V,(cP v0 v1 v2 v3 v4 v5 v6).lookup ("world" : Str)=some v0) /\
  (∀x v0 v1 v2 v3 v4 v5 v6:V,a0 ("world" : Str) x (cP v0 v1 v2 v3 v4 v5 v6)=cP x v1 v2 v3 v4 v5 v6) /\
  (∀v0 v1 v2 v3 v4 v5 v6:V,(cP v0 v1 v2 v3 v4 v5 v6).lookup ("states" : Str)=some v1) /\
  (∀x v0 v1 v2 v3 v4 v5 v6:V,a0 ("states" : Str) x (cP v0 v1 v2 v3 v4 v5 v6)=cP v0 x v2 v3 v4 v5 v6) /\
  (∀v0 v1 v2 v3 v4 v5 v6:V,(cP v0 v1 v2 v3 v4 v5 v6).lookup ("seen" : Str)=some v2) /\
  (∀x v0 v1 v2 v3 v4 v5 v6:V,a0 ("seen" : Str) x (cP v0 v1 v2 v3 v4 v5 v6)=cP v0 v1 x v3 v4 v5 v6) /\
  (∀v0 v1 v2 v3 v4 v5 v6:V,(cP v0 v1 v2 v3 v4 v5 v6).lookup ("befores" : Str)=some v3) /\
  (∀x v0 v1 v2 v3 v4 v5 v6:V,a0 ("befores" : Str) x (cP v0 v1 v2 v3 v4 v5 v6)=cP v0 v1 v2 x v4 v5 v6) /\
  (∀v0 v1 v2 v3 v4 v5 v6:V,(cP v0 v1 v2 v3 v4 v5 v6).lookup ("last_steps" : Str)=some v4) /\
  (∀x v0 v1 v2 v3 v4 v5 v6:V,a0 ("last_steps" : Str) x (cP v0 v1 v2 v3 v4 v5 v6)=cP v0 v1 v2 v3 x v5 v6) /\
  (∀v0 v1 v2 v3 v4 v5 v6:V,(cP v0 v1 v2 v3 v4 v5 v6).lookup ("firsts" : Str)=some v5) /\
  (∀x v0 v1 v2 v3 v4 v5 v6:V,a0 ("firsts" : Str) x (cP v0 v1 v2 v3 v4 v5 v6)=cP v0 v1 v2 v3 v4 x v6) /\
  (∀v0 v1 v2 v3 v4 v5 v6:V,(cP v0 v1 v2 v3 v4 v5 v6).lookup ("first_stuck" : Str)=some v6) /\
  (∀x v0 v1 v2 v3 v4 v5 v6:V,a0 ("first_stuck" : Str) x (cP v0 v1 v2 v3 v4 v5 v6)=cP v0 v1 v2 v3 v4 v5 x) /\
  (∀v0 v1 v2 v3 v4 v5 v6:V,(cP v0 v1 v2 v3 v4 v5 v6).length=7) /\
  (∀v0:V,(a0 ("world" : Str) v0 (([]:List (Str×V)))).length=1) /\
  (∀v0 v1:V,(a0 ("states" : Str) v1 (a0 ("world" : Str) v0 (([]:List (Str×V))))).length=2) /\
  (∀v0 v1 v2:V,(a0 ("seen" : Str) v2 (a0 ("states" : Str) v1 (a0 ("world" : Str) v0 (([]:List (Str×V)))))).length=3) /\
  (∀v0 v1 v2 v3:V,(a0 ("befores" : Str) v3 (a0 ("seen" : Str) v2 (a0 ("states" : Str) v1 (a0 ("world" : Str) v0 (([]:List (Str×V))))))).length=4) /\
  (∀v0 v1 v2 v3 v4:V,(a0 ("last_steps" : Str) v4 (a0 ("befores" : Str) v3 (a0 ("seen" : Str) v2 (a0 ("states" : Str) v1 (a0 ("world" : Str) v0 (([]:List (Str×V)))))))).length=5) /\
  (∀v0 v1 v2 v3 v4 v5:V,(a0 ("firsts" : Str) v5 (a0 ("last_steps" : Str) v4 (a0 ("befores" : Str) v3 (a0 ("seen" : Str) v2 (a0 ("states" : Str) v1 (a0 ("world" : Str) v0 (([]:List (Str×V))))))))).length=6) /\
  (∀v0 v1 v2 v3 v4 v5 v6:V,a0 ("first_stuck" : Str) v6 (a0 ("firsts" : Str) v5 (a0 ("last_steps" : Str) v4 (a0 ("befores" : Str) v3 (a0 ("seen" : Str) v2 (a0 ("states" : Str) v1 (a0 ("world" : Str) v0 (([]:List (Str×V)))))))))=cP v0 v1 v2 v3 v4 v5 v6) /\
  (∀v0 v1 v2 v3 v4 v5 v6:V,(cP v0 v1 v2 v3 v4 v5 v6).lookup ("keep" : Str)=none) /\
  (∀v0 v1 v2 v3 v4 v5 v6:V,(cP v0 v1 v2 v3 v4 v5 v6).lookup ("go_on" : Str)=none) /\
  (∀v0 v1 v2 v3 v4 v5 v6:V,(cP v0 v1 v2 v3 v4 v5 v6).lookup ("has_too_many" : Str)=none) /\
  (∀v0 v1 v2 v3 v4 v5 v6:V,(cP v0 v1 v2 v3 v4 v5 v6).lookup ("way_to" : Str)=none) /\
  (∀v0 v1 v2:V,(fW v0 v1 v2).lookup ("told" : Str)=some v0) /\
  (∀x v0 v1 v2:V,a0 ("told" : Str) x (fW v0 v1 v2)=fW x v1 v2) /\
  (∀v0 v1 v2:V,(fW v0 v1 v2).lookup ("found" : Str)=some v1) /\
  (∀x v0 v1 v2:V,a0 ("found" : Str) x (fW v0 v1 v2)=fW v0 x v2) /\
  (∀v0 v1 v2:V,(fW v0 v1 v2).lookup ("units" : Str)=some v2) /\
  (∀x v0 v1 v2:V,a0 ("units" : Str) x (fW v0 v1 v2)=fW v0 v1 x) /\
  (∀v0 v1 v2:V,(fW v0 v1 v2).length=3) /\
  (∀v0 v1:V,(a0 ("found" : Str) v1 (a0 ("told" : Str) v0 (([]:List (Str×V))))).length=2) /\
  (∀v0 v1 v2:V,a0 ("units" : Str) v2 (a0 ("found" : Str) v1 (a0 ("told" : Str) v0 (([]:List (Str×V)))))=fW v0 v1 v2) /\
  (∀v0 v1 v2:V,(fW v0 v1 v2).lookup ("load" : Str)=none) /\
  (∀v0 v1 v2:V,(fW v0 v1 v2).lookup ("way" : Str)=none) /\
  (∀v0 v1 v2:V,(fW v0 v1 v2).lookup ("least" : Str)=none) /\
  (∀v0 v1 v2:V,(fW v0 v1 v2).lookup ("stuck" : Str)=none) /\
  (∀v0 v1 v2:V,(fW v0 v1 v2).lookup ("refusal" : Str)=none) /\
  (∀v0 v1 v2:V,(fW v0 v1 v2).lookup ("asked_places" : Str)=none) /\
  (∀v0 v1 v2:V,(fW v0 v1 v2).lookup ("search" : Str)=none) /\
  (∀v0 v1 v2:V,(fW v0 v1 v2).lookup ("steps_to" : Str)=none) /\
  (∀v0 v1 v2 v3:V,(js v0 v1 v2 v3).lookup ("number" : Str)=some v0) /\
  (∀x v0 v1 v2 v3:V,a0 ("number" : Str) x (js v0 v1 v2 v3)=js x v1 v2 v3) /\
  (∀v0 v1 v2 v3:V,(js v0 v1 v2 v3).lookup ("most" : Str)=some v1) /\
  (∀x v0 v1 v2 v3:V,a0 ("most" : Str) x (js v0 v1 v2 v3)=js v0 x v2 v3) /\
  (∀v0 v1 v2 v3:V,(js v0 v1 v2 v3).lookup ("row" : Str)=some v2) /\
  (∀x v0 v1 v2 v3:V,a0 ("row" : Str) x (js v0 v1 v2 v3)=js v0 v1 x v3) /\
  (∀v0 v1 v2 v3:V,(js v0 v1 v2 v3).lookup ("behind" : Str)=some v3) /\
  (∀x v0 v1 v2 v3:V,a0 ("behind" : Str) x (js v0 v1 v2 v3)=js v0 v1 v2 x) /\
  (∀v0 v1 v2 v3:V,(js v0 v1 v2 v3).length=4) /\
  (∀v0:V,(a0 ("number" : Str) v0 (([]:List (Str×V)))).length=1) /\
  (∀v0 v1:V,(a0 ("most" : Str) v1 (a0 ("number" : Str) v0 (([]:List (Str×V))))).length=2) /\
  (∀v0 v1 v2:V,(a0 ("row" : Str) v2 (a0 ("most" : Str) v1 (a0 ("number" : Str) v0 (([]:List (Str×V)))))).length=3) /\
  (∀v0 v1 v2 v3:V,a0 ("behind" : Str) v3 (a0 ("row" : Str) v2 (a0 ("most" : Str) v1 (a0 ("number" : Str) v0 (([]:List (Str×V))))))=js v0 v1 v2 v3) /\
  ((0:Nat)<1000) /\
  ((1:Nat)<1000) /\
  ((2:Nat)<1000) /\
  ((3:Nat)<1000) /\
  ((4:Nat)<1000) /\
  ((5:Nat)<1000) /\
  ((6:Nat)<1000) /\
  ((7:Nat)<1000) /\
  ((8:Nat)<1000):=by
 refine⟨?_,?_,?_,?_,?_,?_,?_,?_,?_,?_,?_,?_,?_,?_,?_,?_,?_,?_,?_,?_,?_,?_,?_,?_,?_,?_,?_,?_,?_,?_,?_,?_,?_,?_,?_,?_,?_,?_,?_,?_,?_,?_,?_,?_,?_,?_,?_,?_,?_,?_,?_,?_,?_,?_,?_,?_,?_,?_,?_,?_,?_,?_,?_,?_,?_,?_,?_,?_,?_,?_,?_,?_,?_,?_,?_,?_,?_,?_,?_,?_,?_,?_,?_,?_,?_,?_,?_,?_,?_,?_,?_,?_,?_,?_,?_,?_,?_,?_,?_,?_,?_,?_,?_,?_,?_,?_,?_,?_,?_,?_,?_,?_,?_,?_,?_,?_,?_,?_,?_,?_,?_,?_,?_,?_,?_,?_,?_,?_,?_,?_,?_,?_,?_,?_,?_,?_,?_,?_,?_,?_,?_,?_,?_,?_,?_,?_,?_,?_,?_,?_,?_,?_,?_,?_,?_,?_,?_,?_,?_,?_,?_,?_,?_,?_,?_,?_,?_,?_,?_,?_,?_,?_,?_,?_,?_,?_,?_⟩<;>(intros;first|rfl|decide)
abbrev lD:Stmt:=inClass (top 5) 0
theorem Bi:bu ["self", "clocks"] ["self", "clocks"] (aY lD):=⟨rfl,rfl,rfl,by decide +kernel,rfl,by decide +kernel,by decide +kernel⟩
abbrev jb:Stmt:=inClass (top 5) 1
theorem xu:bu ["self", "clock", "low", "high"] ["self", "clock", "low", "high"] (aY jb):=⟨rfl,rfl,rfl,by decide +kernel,rfl,by decide +kernel,by decide +kernel⟩
abbrev lE:Stmt:=inClass (top 5) 2
theorem Bj:bu ["self", "clock", "shown"] ["self", "clock", "shown"] (aY lE):=⟨rfl,rfl,rfl,by decide +kernel,rfl,by decide +kernel,by decide +kernel⟩
abbrev oF:Stmt:=inClass (top 6) 0
theorem EK:bu ["self", "machine", "number", "source", "target", "bounds"] ["self", "machine", "number", "source", "target", "bounds"] (aY oF):=⟨rfl,rfl,rfl,by decide +kernel,rfl,by decide +kernel,by decide +kernel⟩
abbrev kj:Stmt:=inClass (top 7) 0
theorem Aq:bu ["self"] ["self"] (aY kj):=⟨rfl,rfl,rfl,by decide +kernel,rfl,by decide +kernel,by decide +kernel⟩
abbrev oB:Stmt:=inClass (top 8) 0
theorem EJ:bu ["self"] ["self"] (aY oB):=⟨rfl,rfl,rfl,by decide +kernel,rfl,by decide +kernel,by decide +kernel⟩
abbrev iF:Stmt:=inClass (top 8) 1
theorem wt:bu ["self"] ["self"] (aY iF):=⟨rfl,rfl,rfl,by decide +kernel,rfl,by decide +kernel,by decide +kernel⟩
abbrev ja:Stmt:=inClass (top 8) 2
theorem jc:bu ["self", "places", "machine", "place"] ["self", "places"] (aY ja):=⟨rfl,rfl,rfl,by decide +kernel,rfl,by decide +kernel,by decide +kernel⟩
abbrev oE:Stmt:=inClass (top 18) 0
theorem rL:bu ["self", "step", "edges", "spot", "place_bounds", "edge", "clock"] ["self", "step", "edges", "spot", "place_bounds"] (aY oE):=⟨rfl,rfl,rfl,by decide +kernel,rfl,by decide +kernel,by decide +kernel⟩
abbrev ic:Stmt:=inClass (top 18) 1
theorem nY:bu ["self", "clock", "shown", "edge"] ["self", "clock", "shown"] (aY ic):=⟨rfl,rfl,rfl,by decide +kernel,rfl,by decide +kernel,by decide +kernel⟩
abbrev iG:Stmt:=inClass (top 18) 2
theorem iI:bu ["self", "clock", "shown", "after", "edge", "bounds"] ["self", "clock", "shown"] (aY iG):=⟨rfl,rfl,rfl,by decide +kernel,rfl,by decide +kernel,by decide +kernel⟩
abbrev oC:Stmt:=inClass (top 19) 0
theorem rJ:bu ["self", "moves", "clocks", "clock"] ["self", "moves", "clocks"] (aY oC):=⟨rfl,rfl,rfl,by decide +kernel,rfl,by decide +kernel,by decide +kernel⟩
abbrev gv:Stmt:=inClass (top 19) 1
theorem fq:bu ["self", "shown", "row", "table"] ["self", "shown"] (aY gv):=⟨rfl,rfl,rfl,by decide +kernel,rfl,by decide +kernel,by decide +kernel⟩
abbrev jz:Stmt:=top 20
theorem gh:bu ["moves", "clock", "table", "bit", "move", "shown"] ["moves", "clock"] (aY jz):=⟨rfl,rfl,rfl,by decide +kernel,rfl,by decide +kernel,by decide +kernel⟩
abbrev mR:Stmt:=inClass (top 21) 0
theorem vI:bu ["self", "told", "clock"] ["self", "told"] (aY mR):=⟨rfl,rfl,rfl,by decide +kernel,rfl,by decide +kernel,by decide +kernel⟩
abbrev gL:Stmt:=inClass (top 21) 1
theorem jn:bu ["self", "bounds", "clock"] ["self"] (aY gL):=⟨rfl,rfl,rfl,by decide +kernel,rfl,by decide +kernel,by decide +kernel⟩
abbrev ib:Stmt:=inClass (top 21) 2
theorem cX:bu ["self", "state", "spot", "shown", "row", "steps", "bit", "move", "after"] ["self", "state"] (aY ib):=⟨rfl,rfl,rfl,by decide +kernel,rfl,by decide +kernel,by decide +kernel⟩
abbrev iE:Stmt:=inClass (top 21) 3
theorem ph:bu ["self", "shown", "at_end"] ["self", "shown"] (aY iE):=⟨rfl,rfl,rfl,by decide +kernel,rfl,by decide +kernel,by decide +kernel⟩
abbrev jA:Stmt:=inClass (top 21) 4
theorem qM:bu ["self", "number", "moves"] ["self", "number"] (aY jA):=⟨rfl,rfl,rfl,by decide +kernel,rfl,by decide +kernel,by decide +kernel⟩
abbrev rD:Stmt:=top 22
theorem Jx:bu ["state"] ["state"] (aY rD):=⟨rfl,rfl,rfl,by decide +kernel,rfl,by decide +kernel,by decide +kernel⟩
abbrev pZ:Stmt:=top 23
theorem GW:bu ["spot", "machine"] ["spot", "machine"] (aY pZ):=⟨rfl,rfl,rfl,by decide +kernel,rfl,by decide +kernel,by decide +kernel⟩
abbrev oy:Stmt:=top 24
theorem rH:bu ["told", "spot", "machine"] ["told", "spot"] (aY oy):=⟨rfl,rfl,rfl,by decide +kernel,rfl,by decide +kernel,by decide +kernel⟩
abbrev mP:Stmt:=top 25
theorem gY:bu ["told", "places", "moves", "edge", "takers", "giver", "taker", "step"] ["told", "places"] (aY mP):=⟨rfl,rfl,rfl,by decide +kernel,rfl,by decide +kernel,by decide +kernel⟩
abbrev mQ:Stmt:=top 26
theorem iW:bu ["told", "places", "meeting", "edges", "machine", "place", "edge"] ["told", "places", "meeting"] (aY mQ):=⟨rfl,rfl,rfl,by decide +kernel,rfl,by decide +kernel,by decide +kernel⟩
abbrev oz:Stmt:=top 27
theorem jE:bu ["told", "places", "step", "edges", "after", "edge", "spot", "place"] ["told", "places", "step", "edges"] (aY oz):=⟨rfl,rfl,rfl,by decide +kernel,rfl,by decide +kernel,by decide +kernel⟩
abbrev rC:Stmt:=top 33
theorem pf:bu ["numbers", "signs", "sign", "number"] ["numbers"] (aY rC):=⟨rfl,rfl,rfl,by decide +kernel,rfl,by decide +kernel,by decide +kernel⟩
abbrev pY:Stmt:=top 34
theorem tT:bu ["line", "word"] ["line"] (aY pY):=⟨rfl,rfl,rfl,by decide +kernel,rfl,by decide +kernel,by decide +kernel⟩
abbrev rE:Stmt:=top 35
theorem Jy:bu ["word"] ["word"] (aY rE):=⟨rfl,rfl,rfl,by decide +kernel,rfl,by decide +kernel,by decide +kernel⟩
abbrev ki:Stmt:=inClass (top 44) 0
theorem Ap:bu ["self", "answer", "told"] ["self", "answer", "told"] (aY ki):=⟨rfl,rfl,rfl,by decide +kernel,rfl,by decide +kernel,by decide +kernel⟩
abbrev ow:Stmt:=top 45
theorem lF:bu ["text", "told", "number", "line", "words"] ["text"] (aY ow):=⟨rfl,rfl,rfl,by decide +kernel,rfl,by decide +kernel,by decide +kernel⟩
abbrev ot:Stmt:=top 46
theorem EH:bu ["told", "words"] ["told", "words"] (aY ot):=⟨rfl,rfl,rfl,by decide +kernel,rfl,by decide +kernel,by decide +kernel⟩
abbrev oq:Stmt:=top 47
theorem EF:bu ["numbers", "most", "word"] ["numbers", "most", "word"] (aY oq):=⟨rfl,rfl,rfl,by decide +kernel,rfl,by decide +kernel,by decide +kernel⟩
abbrev mO:Stmt:=top 48
theorem CL:bu ["told", "numbers", "most", "words"] ["told", "numbers", "most", "words"] (aY mO):=⟨rfl,rfl,rfl,by decide +kernel,rfl,by decide +kernel,by decide +kernel⟩
abbrev kg:Stmt:=top 49
theorem Ao:bu ["told", "words"] ["told", "words"] (aY kg):=⟨rfl,rfl,rfl,by decide +kernel,rfl,by decide +kernel,by decide +kernel⟩
abbrev mM:Stmt:=top 50
theorem vH:bu ["told", "machine", "words", "bounds"] ["told", "machine", "words"] (aY mM):=⟨rfl,rfl,rfl,by decide +kernel,rfl,by decide +kernel,by decide +kernel⟩
abbrev ou:Stmt:=top 51
theorem iH:bu ["told", "machine", "words", "source", "target", "edge", "at"] ["told", "machine", "words"] (aY ou):=⟨rfl,rfl,rfl,by decide +kernel,rfl,by decide +kernel,by decide +kernel⟩
abbrev lh:Stmt:=top 52
theorem tU:bu ["told", "bounds", "words", "at"] ["told", "bounds", "words", "at"] (aY lh):=⟨rfl,rfl,rfl,by decide +kernel,rfl,by decide +kernel,by decide +kernel⟩
abbrev mN:Stmt:=top 53
theorem j2:bu ["told", "bounds", "word", "sign", "parts", "digits", "number"] ["told", "bounds", "word"] (aY mN):=⟨rfl,rfl,rfl,by decide +kernel,rfl,by decide +kernel,by decide +kernel⟩
abbrev om:Stmt:=top 54
theorem EE:bu ["told", "edge", "words", "at"] ["told", "edge", "words", "at"] (aY om):=⟨rfl,rfl,rfl,by decide +kernel,rfl,by decide +kernel,by decide +kernel⟩
abbrev oo:Stmt:=top 55
theorem rG:bu ["told", "edge", "words", "at"] ["told", "edge", "words", "at"] (aY oo):=⟨rfl,rfl,rfl,by decide +kernel,rfl,by decide +kernel,by decide +kernel⟩
abbrev ke:Stmt:=top 56
theorem An:bu ["told", "edge", "words", "at"] ["told", "edge", "words", "at"] (aY ke):=⟨rfl,rfl,rfl,by decide +kernel,rfl,by decide +kernel,by decide +kernel⟩
abbrev ox:Stmt:=top 57
theorem jD:bu ["told", "text", "asked", "word", "parts", "machine", "places"] ["told", "text"] (aY ox):=⟨rfl,rfl,rfl,by decide +kernel,rfl,by decide +kernel,by decide +kernel⟩
abbrev ly:Stmt:=inClass (top 60) 0
theorem Bg:bu ["self", "world"] ["self", "world"] (aY ly):=⟨rfl,rfl,rfl,by decide +kernel,rfl,by decide +kernel,by decide +kernel⟩
abbrev lu:Stmt:=inClass (top 60) 1
theorem Bf:bu ["self", "state", "before", "step"] ["self", "state", "before", "step"] (aY lu):=⟨rfl,rfl,rfl,by decide +kernel,rfl,by decide +kernel,by decide +kernel⟩
abbrev kh:Stmt:=inClass (top 60) 2
theorem gH:bu ["self", "at", "steps", "move", "after"] ["self"] (aY kh):=⟨rfl,rfl,rfl,by decide +kernel,rfl,by decide +kernel,by decide +kernel⟩
abbrev f9:Stmt:=inClass (top 60) 3
theorem rK:bu ["self"] ["self"] (aY f9):=⟨rfl,rfl,rfl,by decide +kernel,rfl,by decide +kernel,by decide +kernel⟩
abbrev jB:Stmt:=inClass (top 60) 4
theorem mw:bu ["self", "at", "steps"] ["self", "at"] (aY jB):=⟨rfl,rfl,rfl,by decide +kernel,rfl,by decide +kernel,by decide +kernel⟩
abbrev lj:Stmt:=top 61
theorem dm:bu ["world", "units", "seen", "found", "passed", "later", "at", "move", "after"] ["world"] (aY lj):=⟨rfl,rfl,rfl,by decide +kernel,rfl,by decide +kernel,by decide +kernel⟩
abbrev p9:Stmt:=top 62
theorem tV:bu ["states", "seen", "fresh", "state"] ["states", "seen"] (aY p9):=⟨rfl,rfl,rfl,by decide +kernel,rfl,by decide +kernel,by decide +kernel⟩
abbrev oH:Stmt:=inClass (top 77) 0
theorem EL:bu ["self"] ["self"] (aY oH):=⟨rfl,rfl,rfl,by decide +kernel,rfl,by decide +kernel,by decide +kernel⟩
abbrev oG:Stmt:=inClass (top 77) 1
theorem xr:bu ["self", "numbers", "reading"] ["self", "numbers"] (aY oG):=⟨rfl,rfl,rfl,by decide +kernel,rfl,by decide +kernel,by decide +kernel⟩
abbrev qa:Stmt:=inClass (top 77) 2
theorem zF:bu ["self", "most", "numbers", "refused"] ["self", "most", "numbers"] (aY qa):=⟨rfl,rfl,rfl,by decide +kernel,rfl,by decide +kernel,by decide +kernel⟩
abbrev mT:Stmt:=inClass (top 77) 3
theorem qr:bu ["self", "numbers", "refused", "units"] ["self", "numbers"] (aY mT):=⟨rfl,rfl,rfl,by decide +kernel,rfl,by decide +kernel,by decide +kernel⟩
abbrev mS:Stmt:=inClass (top 77) 4
theorem vJ:bu ["self", "most", "refused"] ["self", "most"] (aY mS):=⟨rfl,rfl,rfl,by decide +kernel,rfl,by decide +kernel,by decide +kernel⟩
abbrev km:Stmt:=inClass (top 77) 5
theorem Ar:bu ["self", "most", "numbers"] ["self", "most", "numbers"] (aY km):=⟨rfl,rfl,rfl,by decide +kernel,rfl,by decide +kernel,by decide +kernel⟩
abbrev gO:Stmt:=inClass (top 77) 6
theorem tW:bu ["self", "numbers"] ["self", "numbers"] (aY gO):=⟨rfl,rfl,rfl,by decide +kernel,rfl,by decide +kernel,by decide +kernel⟩
abbrev lC:Stmt:=inClass (top 77) 7
theorem Bh:bu ["self"] ["self"] (aY lC):=⟨rfl,rfl,rfl,by decide +kernel,rfl,by decide +kernel,by decide +kernel⟩
abbrev jC:Stmt:=inClass (top 77) 8
theorem jF:bu ["self", "at", "most", "steps", "answer", "step"] ["self", "at", "most"] (aY jC):=⟨rfl,rfl,rfl,by decide +kernel,rfl,by decide +kernel,by decide +kernel⟩
abbrev lq:Stmt:=top 78
theorem jm:bu ["by_spot", "asked", "spot", "machine", "place"] ["by_spot", "asked"] (aY lq):=⟨rfl,rfl,rfl,by decide +kernel,rfl,by decide +kernel,by decide +kernel⟩
abbrev oI:Stmt:=inClass (top 79) 0
theorem xt:bu ["self", "calls", "at", "begin"] ["self", "calls", "at"] (aY oI):=⟨rfl,rfl,rfl,by decide +kernel,rfl,by decide +kernel,by decide +kernel⟩
abbrev rF:Stmt:=top 80
theorem kr:bu ["calls", "desk", "numbers", "at", "call", "answer"] ["calls"] (aY rF):=⟨rfl,rfl,rfl,by decide +kernel,rfl,by decide +kernel,by decide +kernel⟩
abbrev oA:Stmt:=top 81
theorem EI:bu ["desk", "call"] ["desk", "call"] (aY oA):=⟨rfl,rfl,rfl,by decide +kernel,rfl,by decide +kernel,by decide +kernel⟩
structure cT where
 cK:Addr
 fD:Addr
 dD:Addr
 fN:Addr
 fO:Addr
 ju:Addr
 dX:Addr
 eP:Addr
 cu:Addr
 dE:Addr
 je:Addr
 WV:Addr
 WW:Addr
structure uT (K:aa) (C:Addr) (fs:List Str):Prop where
 cl:sV K C
 na:∀f∈fs,cb K C f
structure Txt (K:aa) (mg:Str->Option Value) (t:cT):Prop where
 mG:uT K t.cK ["lows", "highs"]
 j8:uT K t.fD ["machine", "number", "source", "target", "bounds", "sets", "meeting", "signal"]
 nh:uT K t.dD ["places", "place_bounds", "edges"]
 ng:uT K t.fN ["clocks", "signals", "numbers", "machines"]
 j7:uT K t.fO ["step", "edges", "is_time", "target", "place_bounds", "kept"]
 qZ:uT K t.ju ["moves", "all_moves", "tables"]
 jO:uT K t.dX ["told", "known_spots", "unit"]
 qg:uT K t.eP ["answer", "told"]
 fA:uT K t.cu ["world", "states", "seen", "befores", "last_steps", "firsts", "first_stuck"]
 iu:uT K t.dE ["told", "found", "units"]
 q0:uT K t.je ["number", "most", "row", "behind"]
 j6:sU mg "BEYOND" (.int (16))
 rZ:sU mg "ALONE" (.int (0))
 rY:sU mg "GIVES" (.int (1))
 rW:sU mg "TAKES" (.int (2))
 gQ:sU mg "CLOCK_BITS" (.int (5))
 iM:sU mg "CLOCK_MASK" (.int (31))
 jM:sU mg "BEYOND_BIT" (.int (4))
 fw:sU mg "ALL_CLOCK_BITS" (.int (20))
 eX:sU mg "ALL_CLOCKS_MASK" (.int (1048575))
 iL:sU mg "PLACE_BITS" (.int (3))
 jI:sU mg "PLACE_MASK" (.int (7))
 kO:sU mg "TIME_STEP" (.ref t.WV)
 kM:∀H:Hp,lR K H t.WV [.int (-1),.int (-1),.int (-1),.int (-1)]
 vc:sU mg "SIGNS" (.str "\n .<=>0123456789ABCDEFGHIJKLMNOPQRSTUVWXYZabcdefghijklmnopqrstuvwxyz")
 oS:sU mg "STRANGE" (.str "?")
 jL:sU mg "KEPT_WORDS" (.ref t.WW)
 jG:∀H:Hp,lR K H t.WW [.str "clock",.str "signal",.str "machine",.str "place",.str "edge",.str "when",.str "set",.str "give",.str "take"]
 iq:sU mg "LONGEST_NAME" (.int (15))
 i3:sU mg "MOST_CLOCKS" (.int (4))
 ik:sU mg "MOST_SIGNALS" (.int (8))
 gJ:sU mg "MOST_MACHINES" (.int (3))
 iY:sU mg "MOST_PLACES" (.int (8))
 jK:sU mg "MOST_EDGES" (.int (16))
 gj:sU mg "HIGHEST_NUMBER" (.int (15))
 iZ:sU mg "MOST_DIGITS" (.int (2))
 iX:sU mg "MOST_STATES" (.int (50000))
 wD:sU mg "LOAD" (.int (1))
 zJ:sU mg "WAY" (.int (2))
 rX:sU mg "LEAST" (.int (3))
 u9:sU mg "STUCK" (.int (4))
 ip:sU mg "LONGEST_TEXT" (.int (4096))
 ir:sU mg "LONGEST_ASKS" (.int (256))
 jJ:sU mg "MOST_STEPS" (.int (65536))
 gq:sU mg "OUT_OF_RANGE" (.int (-1))
 gI:sU mg "NOTHING_TAKEN" (.int (-2))
 fR:sU mg "TOO_MANY_STATES" (.int (-3))
 mC:sU mg "TOO_LONG" (.int (-4))
 kN:sU mg "WRONG_ASK" (.int (-5))
 pw:sU mg "NO_WAY" (.int (-6))
 eY:mg "len" = none
 mY:mg "range" = none
 Cj:mg "min" = none
 D3:mg "max" = none
 D2:mg "ord" = none
 D5:mg "all" = none
 D4:mg "int" = none
 wW:mg "list" = none
 Ci:mg "zip" = none
 kQ:mg "enumerate" = none
 kI:mg "reversed" = none
 vW:∃f fd,ez K "__init__" "Bounds.__init__" lD f fd/\Mk K t.cK f/\mg "Bounds" = some (.ref t.cK)
 qX:∃f fd,ez K "tighten" "Bounds.tighten" jb f fd/\Meth K t.cK "tighten" f
 vX:∃f fd,ez K "hold" "Bounds.hold" lE f fd/\Meth K t.cK "hold" f
 zZ:∃f fd,ez K "__init__" "Edge.__init__" oF f fd/\Mk K t.fD f/\mg "Edge" = some (.ref t.fD)
 ur:∃f fd,ez K "__init__" "Machine.__init__" kj f fd/\Mk K t.dD f/\mg "Machine" = some (.ref t.dD)
 zW:∃f fd,ez K "__init__" "Told.__init__" oB f fd/\Mk K t.fN f/\mg "Told" = some (.ref t.fN)
 qd:∃f fd,ez K "new_bounds" "Told.new_bounds" iF f fd/\Meth K t.fN "new_bounds" f
 qW:∃f fd,ez K "bounds_of" "Told.bounds_of" ja f fd/\Meth K t.fN "bounds_of" f
 zY:∃f fd,ez K "__init__" "Move.__init__" oE f fd/\Mk K t.fO f/\mg "Move" = some (.ref t.fO)
 pB:∃f fd,ez K "shown_after" "Move.shown_after" ic f fd/\Meth K t.fO "shown_after" f
 qf:∃f fd,ez K "allowed_by" "Move.allowed_by" iG f fd/\Meth K t.fO "allowed_by" f
 zX:∃f fd,ez K "__init__" "Spot.__init__" oC f fd/\Mk K t.ju f/\mg "Spot" = some (.ref t.ju)
 m9:∃f fd,ez K "allowed_moves" "Spot.allowed_moves" gv f fd/\Meth K t.ju "allowed_moves" f
 sO:∃f fd,ez K "allowed_table" "allowed_table" jz f fd/\mg "allowed_table" = some (.ref f)
 xU:∃f fd,ez K "__init__" "World.__init__" mR f fd/\Mk K t.dX f/\mg "World" = some (.ref t.dX)
 n0:∃f fd,ez K "start_holds" "World.start_holds" gL f fd/\Meth K t.dX "start_holds" f
 pA:∃f fd,ez K "steps_from" "World.steps_from" ib f fd/\Meth K t.dX "steps_from" f
 qc:∃f fd,ez K "one_later" "World.one_later" iE f fd/\Meth K t.dX "one_later" f
 sP:∃f fd,ez K "spot_at" "World.spot_at" jA f fd/\Meth K t.dX "spot_at" f
 DQ:∃f fd,ez K "spot_of" "spot_of" rD f fd/\mg "spot_of" = some (.ref f)
 BV:∃f fd,ez K "place_at" "place_at" pZ f fd/\mg "place_at" = some (.ref f)
 zT:∃f fd,ez K "places_of" "places_of" oy f fd/\mg "places_of" = some (.ref f)
 xS:∃f fd,ez K "moves_from" "moves_from" mP f fd/\mg "moves_from" = some (.ref f)
 xT:∃f fd,ez K "edges_from" "edges_from" mQ f fd/\mg "edges_from" = some (.ref f)
 zU:∃f fd,ez K "made_move" "made_move" oz f fd/\mg "made_move" = some (.ref f)
 DP:∃f fd,ez K "text_of" "text_of" rC f fd/\mg "text_of" = some (.ref f)
 BU:∃f fd,ez K "words_of" "words_of" pY f fd/\mg "words_of" = some (.ref f)
 DR:∃f fd,ez K "is_name" "is_name" rE f fd/\mg "is_name" = some (.ref f)
 uq:∃f fd,ez K "__init__" "Reading.__init__" ki f fd/\Mk K t.eP f/\mg "Reading" = some (.ref t.eP)
 zR:∃f fd,ez K "read_text" "read_text" ow f fd/\mg "read_text" = some (.ref f)
 zP:∃f fd,ez K "take_line" "take_line" ot f fd/\mg "take_line" = some (.ref f)
 zO:∃f fd,ez K "take_name" "take_name" oq f fd/\mg "take_name" = some (.ref f)
 xR:∃f fd,ez K "take_ahead" "take_ahead" mO f fd/\mg "take_ahead" = some (.ref f)
 um:∃f fd,ez K "take_machine" "take_machine" kg f fd/\mg "take_machine" = some (.ref f)
 xP:∃f fd,ez K "take_place" "take_place" mM f fd/\mg "take_place" = some (.ref f)
 zQ:∃f fd,ez K "take_edge" "take_edge" ou f fd/\mg "take_edge" = some (.ref f)
 vO:∃f fd,ez K "take_bounds" "take_bounds" lh f fd/\mg "take_bounds" = some (.ref f)
 xQ:∃f fd,ez K "take_bound" "take_bound" mN f fd/\mg "take_bound" = some (.ref f)
 zM:∃f fd,ez K "take_when" "take_when" om f fd/\mg "take_when" = some (.ref f)
 zN:∃f fd,ez K "take_sets" "take_sets" oo f fd/\mg "take_sets" = some (.ref f)
 uk:∃f fd,ez K "take_meeting" "take_meeting" ke f fd/\mg "take_meeting" = some (.ref f)
 zS:∃f fd,ez K "read_asks" "read_asks" ox f fd/\mg "read_asks" = some (.ref f)
 vS:∃f fd,ez K "__init__" "Search.__init__" ly f fd/\Mk K t.cu f/\mg "Search" = some (.ref t.cu)
 vR:∃f fd,ez K "keep" "Search.keep" lu f fd/\Meth K t.cu "keep" f
 uo:∃f fd,ez K "go_on" "Search.go_on" kh f fd/\Meth K t.cu "go_on" f
 mh:∃f fd,ez K "has_too_many" "Search.has_too_many" f9 f fd/\Meth K t.cu "has_too_many" f
 sQ:∃f fd,ez K "way_to" "Search.way_to" jB f fd/\Meth K t.cu "way_to" f
 vP:∃f fd,ez K "least_units" "least_units" lj f fd/\mg "least_units" = some (.ref f)
 BW:∃f fd,ez K "new_ones" "new_ones" p9 f fd/\mg "new_ones" = some (.ref f)
 z4:∃f fd,ez K "__init__" "Desk.__init__" oH f fd/\Mk K t.dE f/\mg "Desk" = some (.ref t.dE)
 z3:∃f fd,ez K "load" "Desk.load" oG f fd/\Meth K t.dE "load" f
 BX:∃f fd,ez K "way" "Desk.way" qa f fd/\Meth K t.dE "way" f
 xW:∃f fd,ez K "least" "Desk.least" mT f fd/\Meth K t.dE "least" f
 xV:∃f fd,ez K "stuck" "Desk.stuck" mS f fd/\Meth K t.dE "stuck" f
 uu:∃f fd,ez K "refusal" "Desk.refusal" km f fd/\Meth K t.dE "refusal" f
 oe:∃f fd,ez K "asked_places" "Desk.asked_places" gO f fd/\Meth K t.dE "asked_places" f
 vV:∃f fd,ez K "search" "Desk.search" lC f fd/\Meth K t.dE "search" f
 sR:∃f fd,ez K "steps_to" "Desk.steps_to" jC f fd/\Meth K t.dE "steps_to" f
 vQ:∃f fd,ez K "first_asked" "first_asked" lq f fd/\mg "first_asked" = some (.ref f)
 z5:∃f fd,ez K "__init__" "Call.__init__" oI f fd/\Mk K t.je f/\mg "Call" = some (.ref t.je)
 DS:∃f fd,ez K "answers" "answers" rF f fd/\mg "answers" = some (.ref f)
 zV:∃f fd,ez K "answer_of" "answer_of" oA f fd/\mg "answer_of" = some (.ref f)
theorem Txt.j5 {K:aa}{mg:Str->Option Value}{t:cT}(T:Txt K mg t):sV K t.cK/\cb K t.cK "lows" /\ cb K t.cK "highs":=⟨T.mG.cl,T.mG.na _ (by simp),T.mG.na _ (by simp)⟩
theorem Txt.ky {K:aa}{mg:Str->Option Value}{t:cT}(T:Txt K mg t):sV K t.fD/\cb K t.fD "machine" /\ cb K t.fD "number" /\ cb K t.fD "source" /\ cb K t.fD "target" /\ cb K t.fD "bounds" /\ cb K t.fD "sets" /\ cb K t.fD "meeting" /\ cb K t.fD "signal":=⟨T.j8.cl,T.j8.na _ (by simp),T.j8.na _ (by simp),T.j8.na _ (by simp),T.j8.na _ (by simp),T.j8.na _ (by simp),T.j8.na _ (by simp),T.j8.na _ (by simp),T.j8.na _ (by simp)⟩
theorem Txt.eN {K:aa}{mg:Str->Option Value}{t:cT}(T:Txt K mg t):sV K t.dD/\cb K t.dD "places" /\ cb K t.dD "place_bounds" /\ cb K t.dD "edges":=⟨T.nh.cl,T.nh.na _ (by simp),T.nh.na _ (by simp),T.nh.na _ (by simp)⟩
theorem Txt.cN {K:aa}{mg:Str->Option Value}{t:cT}(T:Txt K mg t):sV K t.fN/\cb K t.fN "clocks" /\ cb K t.fN "signals" /\ cb K t.fN "numbers" /\ cb K t.fN "machines":=⟨T.ng.cl,T.ng.na _ (by simp),T.ng.na _ (by simp),T.ng.na _ (by simp),T.ng.na _ (by simp)⟩
theorem Txt.pk {K:aa}{mg:Str->Option Value}{t:cT}(T:Txt K mg t):sV K t.fO/\cb K t.fO "step" /\ cb K t.fO "edges" /\ cb K t.fO "is_time" /\ cb K t.fO "target" /\ cb K t.fO "place_bounds" /\ cb K t.fO "kept":=⟨T.j7.cl,T.j7.na _ (by simp),T.j7.na _ (by simp),T.j7.na _ (by simp),T.j7.na _ (by simp),T.j7.na _ (by simp),T.j7.na _ (by simp)⟩
theorem Txt.yQ {K:aa}{mg:Str->Option Value}{t:cT}(T:Txt K mg t):sV K t.ju/\cb K t.ju "moves" /\ cb K t.ju "all_moves" /\ cb K t.ju "tables":=⟨T.qZ.cl,T.qZ.na _ (by simp),T.qZ.na _ (by simp),T.qZ.na _ (by simp)⟩
theorem Txt.jH {K:aa}{mg:Str->Option Value}{t:cT}(T:Txt K mg t):sV K t.dX/\cb K t.dX "told" /\ cb K t.dX "known_spots" /\ cb K t.dX "unit":=⟨T.jO.cl,T.jO.na _ (by simp),T.jO.na _ (by simp),T.jO.na _ (by simp)⟩
theorem Txt.u6 {K:aa}{mg:Str->Option Value}{t:cT}(T:Txt K mg t):sV K t.eP/\cb K t.eP "answer" /\ cb K t.eP "told":=⟨T.qg.cl,T.qg.na _ (by simp),T.qg.na _ (by simp)⟩
theorem Txt.cU {K:aa}{mg:Str->Option Value}{t:cT}(T:Txt K mg t):sV K t.cu/\cb K t.cu "world" /\ cb K t.cu "states" /\ cb K t.cu "seen" /\ cb K t.cu "befores" /\ cb K t.cu "last_steps" /\ cb K t.cu "firsts" /\ cb K t.cu "first_stuck":=⟨T.fA.cl,T.fA.na _ (by simp),T.fA.na _ (by simp),T.fA.na _ (by simp),T.fA.na _ (by simp),T.fA.na _ (by simp),T.fA.na _ (by simp),T.fA.na _ (by simp)⟩
theorem Txt.iK {K:aa}{mg:Str->Option Value}{t:cT}(T:Txt K mg t):sV K t.dE/\cb K t.dE "told" /\ cb K t.dE "found" /\ cb K t.dE "units":=⟨T.iu.cl,T.iu.na _ (by simp),T.iu.na _ (by simp),T.iu.na _ (by simp)⟩
theorem Txt.kC {K:aa}{mg:Str->Option Value}{t:cT}(T:Txt K mg t):sV K t.je/\cb K t.je "number" /\ cb K t.je "most" /\ cb K t.je "row" /\ cb K t.je "behind":=⟨T.q0.cl,T.q0.na _ (by simp),T.q0.na _ (by simp),T.q0.na _ (by simp),T.q0.na _ (by simp)⟩
theorem dR:bootBuiltins "len" = some (.builtin "len"):=by decide +kernel
theorem Rb:bootBuiltins "min" = some (.builtin "min"):=by decide +kernel
theorem WO:bootBuiltins "max" = some (.builtin "max"):=by decide +kernel
theorem WN:bootBuiltins "ord" = some (.builtin "ord"):=by decide +kernel
theorem WR:bootBuiltins "all" = some (.builtin "all"):=by decide +kernel
theorem WQ:bootBuiltins "int" = some (.type "int"):=by decide +kernel
theorem LV:bootBuiltins "list" = some (.type "list"):=by decide +kernel
theorem xG {n c:Nat}(h:c<n):N3 n (c:Int)=some c:=by
 unfold N3;rw[if_pos (by omega),if_pos (by omega)];simp
structure Keeps (M:List Addr) (H H':Hp):Prop where
 kp:∀b o,H b=some o->b∉M->H' b=some o
 gr:∀b,H' b=none->H b=none
theorem Keeps.refl {M:List Addr}{H:Hp}:Keeps M H H:=⟨λ_ _ h _=>h,λ_ h=>h⟩
theorem Keeps.trans {M:List Addr}{H H1 H2:Hp}(a:Keeps M H H1) (b:Keeps M H1 H2):Keeps M H H2:=⟨λc o h m=>b.kp c o (a.kp c o h m) m,λc h=>a.gr c (b.gr c h)⟩
theorem Keeps.mono {M M':List Addr}{H H1:Hp}(a:Keeps M H H1) (s:∀x∈M,x∈M'):Keeps M' H H1:=⟨λc o h m=>a.kp c o h λz=>m (s c z),a.gr⟩
theorem A0 {H:Hp}{a b:Addr}{o:HO}(h:upd H a o b=none):b≠a/\H b=none:=by
 have n:b≠a:=λe=>by rw[e,c0]at h;cases h
 rw[cv n]at h;exact⟨n,h⟩
theorem Keeps.new {M:List Addr}{H H1:Hp}{p:Addr}{o:HO}(k:Keeps M H H1) (hp:H1 p=none):Keeps M H (upd H1 p o):=⟨λb u h m=>by
 have:=k.kp b u h m;rw[cv (a6 this hp)];exact this,λb h=>k.gr b (A0 h).2⟩
theorem Keeps.put {M:List Addr}{H H1:Hp}{p:Addr}{o:HO}(k:Keeps M H H1) (hp:p∈M):Keeps M H (upd H1 p o):=⟨λb u h m=>by
 have:=k.kp b u h m;rw[cv (λe:b=p=>m (by rw[e];exact hp))];exact this,λb h=>k.gr b (A0 h).2⟩
theorem Keeps.up {H H':Hp}(e:Keeps [] H H'){a:Addr}{o:HO}(h:H a=some o):H' a=some o:=e.kp a o h (by simp)
theorem al {H H1:Hp}{p:Addr}{o:HO}(e:upd H p o=H1) (hp:H p=none):H1 p=some o/\Keeps [] H H1:=by
 subst e;exact⟨c0,Keeps.refl.new hp⟩
theorem wr {H H1:Hp}{p:Addr}{o:HO}(e:upd H p o=H1):H1 p=some o/\Keeps [p] H H1:=by
 subst e;exact⟨c0,Keeps.refl.put (by simp)⟩
theorem Keeps.bM {H H':Hp}{p b:Addr}{o:HO}(k:Keeps [p] H H') (h:H b=some o) (n:b≠p):H' b=some o:=k.kp b o h (by simpa using n)
theorem Keeps.any {M:List Addr}{H H':Hp}(k:Keeps [] H H'):Keeps M H H':=k.mono (by simp)
theorem N0 {H H1:Hp}{x dx C:Addr}(e:upd (upd H dx (.own x)) x (.ins C dx [])=H1) (nx:H x=none) (nd:H dx=none) (n:dx≠x):H1 x=some (.ins C dx [])/\Keeps [] H H1:=by
 subst e;exact⟨c0,(Keeps.refl.new nd).new (by rw[cv (λz=>n z.symm)];exact nx)⟩
theorem Keeps.qY {M M':List Addr}{H H1 H2:Hp}(a:Keeps M' H H1) (b:Keeps M H1 H2) (f:∀x∈M,x∈M'\/H x=none):Keeps M' H H2 where
 kp:=λc o h m=>b.kp c o (a.kp c o h m) λz=>by
  rcases f c z with q|q
  ·exact m q
  ·rw[q]at h;cases h
 gr:=λc h=>a.gr c (b.gr c h)
theorem Keeps.drop {M:List Addr}{H H1 H2:Hp}(a:Keeps [] H H1) (b:Keeps M H1 H2) (f:∀x∈M,H x=none):Keeps [] H H2:=a.qY b λx hx=>.inr (f x hx)
section
variable {X:Cx}
def Tx (neg:Bool):R2:=λx y H Q=>∃a b xs,x = .ref a/\y = .ref b/\H a=some (.lst xs)/\H b=some (.lst [])/\Q (.bl (if neg then !xs.isEmpty else xs.isEmpty)) H
theorem t8 (hu:X.A.units+1<cLine):zp X (compareOp .Eq) (Tx false):=by
 intro pins s σ H x y v u Q I rx ry h;obtain⟨a,b,xs,rfl,rfl,ha,hb,q⟩:=h;cases rx;cases ry;obtain⟨cC,r,pl,_⟩:=I.list (dO.of (K:=X.K) ha);obtain⟨wF,r2,Yk,_⟩:=I.list (dO.of (K:=X.K) hb);cases r2;cases xs with
 | nil =>
  cases r;exact SeqAt.eq_listAt (e:=λ_=>true) pl.isList Yk.isList rfl (by omega) (λj h1 _=>absurd h1 (by simp)) ⟨.bl true,H,I,rfl,q⟩
 | cons z zs =>
  have hl:=r.length;exact SeqAt.eq_list_lengthsAt pl.isList Yk.isList (by simp;intro e;rw[e]at hl;cases hl) (by omega) ⟨.bl false,H,I,rfl,q⟩
theorem Bv (hu:X.A.units+1<cLine):zp X (compareOp .NotEq) (Tx true):=by
 intro pins s σ H x y v u Q I rx ry h;obtain⟨a,b,xs,rfl,rfl,ha,hb,q⟩:=h;cases rx;cases ry;obtain⟨cC,r,pl,_⟩:=I.list (dO.of (K:=X.K) ha);obtain⟨wF,r2,Yk,_⟩:=I.list (dO.of (K:=X.K) hb);cases r2;cases xs with
 | nil =>
  cases r;exact SeqAt.RcNeAt.lists (e:=λ_=>true) pl.isList Yk.isList rfl (by omega) (λj h1 _=>absurd h1 (by simp)) _ _ _ _ ⟨.bl false,H,I,rfl,q⟩
 | cons z zs =>
  have hl:=r.length;exact SeqAt.RcNeAt.lists_lengths pl.isList Yk.isList (by simp;intro e;rw[e]at hl;cases hl) (by omega) _ _ _ _ ⟨.bl true,H,I,rfl,q⟩
def QK:R2:=λx y H Q=>∃a b bD,x = .ref a/\y = .ref b/\H a=some (.dK bD)/\H b=some (.dK [])/\Q (.bl bD.isEmpty) H
theorem Dz (hu:X.A.units+1<cLine):zp X (compareOp .Eq) QK:=by
 intro pins s σ H x y v u Q I rx ry h;obtain⟨a,b,bD,rfl,rfl,ha,hb,q⟩:=h;cases rx;cases ry;obtain⟨z,hd,vs,rel,dd⟩:=HB I.df ha;obtain⟨z2,hd2,vs2,aac,dd2⟩:=HB I.df hb;have l1:=rel.length;have l2:=aac.length;refine PySem.W.keq_eq (r:=true) hd hd2 dd dd2 (by omega) (λe=>?_) ?_
 ·have:vs=[]:=kZ.mp (by rw[e,<-l2];rfl);subst this;exact .nil
 ·refine⟨.bl _,H,I,?_,q⟩;show Value.bool _=Value.bool _;rw[<-l1,<-l2];cases bD<;>rfl
end
set_option maxRecDepth 8000 in
theorem TN (l:Addr) (items:Array Value) (n:Nat) (b:Addr) (BK:Array Value) (n2:Nat) (dd:Option Addr) (sl:Array (Option Value)) (Ir:¬(!items.isEmpty&&Builtin.List.listTooLong (items.size+BK.size))=true) (Qu:items.size<=sizeLine) (Hl:items.size+BK.size<=sizeLine+1) :
  Meets (Builtin.«list.extend» ⟨[.ref l,.ref b],[]⟩) (λ_ R s=>s.heap.get? l=some { cls:=.type "list",dict:=none,data:=.seq items n,slots:=#[] }/\s.heap.get? b=some { cls:=.type "tuple",dict:=dd,data:=.seq BK n2,slots:=sl }/\R (.ok (.ret Value.none)) { s with heap:=s.heap.update l (Obj.mapSeq λx=>x++BK),toks:=s.toks }) :=
 .of_wp λprog w A R s h=>by
  obtain⟨hp,g,d,tk,os⟩:=s;obtain⟨hl,hb,h⟩:=h;have f1:=AutoSeq1.idx_int;have f2:=AutoSeq1.sub_tuple_tuple;have f3:=AutoSeq1.sub_list_list;have f4:=AutoSeq1.sub_tuple_list;have f5:=AutoSeq1.sub_list_tuple;have hz':(items++BK).size<=sizeLine+1:=by rw[Array.size_append];exact Hl
  wp_walk using (wpAny_updateSeq hl rfl (hz:=Qu) (_hz':=hz')),AutoSeq1.wpAny_loadPart' hl,AutoSeq1.wpAny_loadPart' hb;exact⟨_,rfl,h⟩
section
variable {X:Cx}
def Pd:V->List V->Hp->VK->Prop:=λx vs H Q=>∃l b xs zs,x = .ref l/\vs=[.ref b]/\H l=some (.lst xs)/\lR X.K H b zs/\xs.length+zs.length<=sizeLine/\Q .gi (upd H l (.lst (xs++zs)))
theorem S2:MtM X "list.extend" (Pd (X:=X)):=by
 intro pins s σ H x vs v us Q I rx rv h;obtain⟨l,b,xs,zs,rfl,rfl,hH,hB,hz,q⟩:=h;cases rx;obtain⟨u,rfl,ru⟩:=rv.one;cases ru;obtain⟨z,cC,n,r,hl,e⟩:=I.PU hH;obtain⟨wF,r2,ht,hz2⟩:=I.tuple hB;obtain⟨⟨cls,dd,data,sl⟩,ho,hc,n2,hd⟩:=ht;cases hc;cases hd;have l1:=r.length;have l2:=r2.length;have hsz:cC.toArray.size+wF.toArray.size<=sizeLine:=by rw[aZ,aZ];omega
 have Hq:¬(!cC.toArray.isEmpty&&Builtin.List.listTooLong (cC.toArray.size+wF.toArray.size))=true:=by
  rw[Bw hsz,Ui];exact aW
 refine call_meets F.slot_list_extend ⟨_,e,rfl⟩ F.entry_list_extend (F.args_list_extend_2 _ _)
  (TN l cC.toArray n b wF.toArray n2 dd sl Hq (by rw[aZ];omega) (by omega)) ⟨e,ho,?_⟩
 refine⟨.gi,_,I.VQ (its':=cC++wF) hH e (by simp) (r.append r2) ?_,rfl,q⟩;rw[aJ];omega
def LD:V->List V->Hp->VK->Prop:=λx vs H Q=>∃i,x = .int i/\vs=[]/\Q (.int ((Builtin.Int.intBits i:Nat):Int)) H
theorem S3:Od X "int.bit_length" LD:=by
 intro pins s σ H x xs v us Q I rx rs h;obtain⟨i,rfl,rfl,q⟩:=h;obtain⟨t,rfl⟩:=rx;cases rs;exact call_gives F.slot_int_bit_length (typeIs_int s i t) F.entry_int_bit_length (F.args_int_bit_length_1 _) (AutoIntG2.int_bit_length_int_0 i t) ⟨.int _,H,I.tok _,⟨_,rfl⟩,q⟩
theorem MP {o:Expr}{to:TE}{apos oN:Pos}(ho:PE X o to) (pz:attributeBase o "bit_length" X.env (eval o X.env)=eval o X.env:=by rfl) (kP:(apos.endLine==oN.line)=true:=by rfl) :
  PE X (.Call (.Attribute o "bit_length" apos) [] [] oN) (R9 X.K "int" LD to):=VC F.plainAttrs_int F.slot_int_bit_length F.type_int_bit_length S3 ho pz kP
theorem m7 {bD:List (Key×V)}{k:Key}{v:V}(h:eQ bD k=none):putK bD k v=bD++[(k,v)]:=by
 unfold putK;rw[xh,h];rfl
theorem WI {pins:List (Addr×Obj)}{σ:L2.St}{H:Hp}{s:Shared}{a:Addr}{d:V}{u r:Value}{A:Around}{E:Value->Shared->Prop}{bD:List (Key×V)}{k:Key}{Q:Value->Shared->Prop}(I:Inv X pins σ H s) (e:H a=some (.dK bD)) (ry:RelV (kV k) u) (rd:RelV d r) (hl:bD.length<sizeLine)
  (h1:∀v w' s',eQ bD k=some v->Inv X pins σ H s'->RelV v w'->Q w' s') (h2:eQ bD k=none->∀s',Inv X pins σ (upd H a (.dK (bD++[(k,d)]))) s'->Q r s') :
  wpAny (model X.prog X.w) A (call (.builtin "dict.setdefault") [.ref a,u,r]) Q E s:=by
 obtain⟨z,hd,vs,rel,dd⟩:=HB I.df e;refine call_meetsIn Ae dd.typeIs PySem.F.entry_dict_setdefault (PySem.F.args_dict_setdefault_3 _ _ _) (PySem.kt_meets_setdefault (gc X.prog X.w) a (zK ry) hd r)
  ⟨vs,dd,by rw[<-rel.length];exact z,λv hv=>?_,λhn h' RQ hs=>?_⟩
 ·have q:=rel.val k;rw[hv]at q;cases hk:eQ bD k with
  | none=>rw[hk]at q;exact q.elim
  | some y=>rw[hk]at q;exact h1 y v _ hk (I.tok _) q
 ·have q:=rel.val k;rw[hn]at q;cases hk:eQ bD k with
  | some y=>rw[hk]at q;exact q.elim
  | none =>
   refine h2 hk _ ?_;have he:∃q,h'.get? a=some q:=let ⟨q,_,_,hq,_⟩:=RQ;⟨q,hq⟩;have rp:=rel.put k rd;rw[m7 hk]at rp;exact AO I (by rw[e];exact jP) hs he (Kn (by rw[aJ];exact hl) hd rp RQ)
def IU (td ty tx:TE):TE:=λσ H Q=>td σ H λx H1=>∃a bD,x = .ref a/\H1 a=some (.dK bD)/\ty σ H1 λy H2=>tx σ H2 λz H3=>∃bD k,H3 a=some (.dK bD)/\y=kV k/\bD.length<sizeLine /\
 (match eQ bD k with
  | some v=>Q v H3
  | none=>Q z (upd H3 a (.dK (bD++[(k,z)]))))
theorem G5 {o e f:Expr}{td ty tx:TE}{apos oN:Pos}(hu:X.A.units+1<cLine) (ho:PE X o td) (he:PE X e ty) (hf:PE X f tx) (m:M2 X o "setdefault" apos e f oN):PE X (.Call (.Attribute o "setdefault" apos) [e,f] [] oN) (IU td ty tx):=by
 intro pins s σ H Q I h;refine wpAny_Call_method m.base m.few m.line C6 Ae PySem.F.type_dict_setdefault (fu (ho pins s σ H _ I h) λu s1 ⟨x,H1,I1,rx,a,aaq,ex,d,q1⟩=>?_);subst ex;obtain rfl:u=Value.ref a:=rx;obtain⟨t1,t2,_⟩:=Qj I1 (.inl ⟨aaq,.inl d⟩);refine⟨t1,t2,?_⟩;rw[m.trees];refine Calls.callWith_builtin rfl (Calls.evalArgs_plain (Calls.spliced_cons (fu (he pins s1 σ H1 _ I1 q1) λiv s2 ⟨y,H2,I2,ry,q2⟩ =>
  Calls.spliced_cons (fu (hf pins s2 σ H2 _ I2 q2) λfv s3 ⟨z,H3,I3,rz,bD,k,e3,ey,hl,q3⟩=>Calls.spliced_nil ?_))))
 subst ey;refine WI I3 e3 ry rz hl (λv w' s' hv I' r'=>?_) λhn s' I'=>?_
 ·rw[hv]at q3;exact⟨v,H3,I',r',q3⟩
 ·rw[hn]at q3;exact⟨z,_,I',rz,q3⟩
def up (t:TE):TE:=λσ H Q=>∃R:VK,(∀v H1,R v H1->Q v H1)/\t σ H R
theorem t5 {e:Expr}{t:TE}(h:PE X e t):PE X e (up t):=λpins s σ H Q I hq=>by
 obtain⟨R,hR,q⟩:=hq;exact fu (h pins s σ H R I q) λu s' z=>let ⟨v,H1,I1,r,q1⟩:=z;⟨v,H1,I1,r,hR _ _ q1⟩
theorem Pp {e:Expr}{t t':TE}(h:PE X e t) (k:∀σ H Q,t' σ H Q->t σ H Q):PE X e t':=λpins s σ H Q I hq=>h pins s σ H Q I (k _ _ _ hq)
theorem Pu {op:CmpOp}{a b:Expr}{t t':TE}(h:PC X op a b t) (k:∀σ H Q,t' σ H Q->t σ H Q):PC X op a b t':=λpins s σ H Q I hq=>h pins s σ H Q I (k _ _ _ hq)
theorem Vw {st:Stmt}{t t':TS}(h:PS X st t) (k:∀D σ H,t' D σ H->t D σ H):PS X st t':=λpins s σ H D I hq=>h pins s σ H D I (k _ _ _ hq)
theorem X0 {ta tb:TE}{σ:L2.St}{H:Hp}{R R':V->V->Hp->Prop}(h:ta σ H λx H1=>tb σ H1 λy H2=>R x y H2) (k:∀x y H2,R x y H2->R' x y H2):up ta σ H λx H1=>up tb σ H1 λy H2=>R' x y H2 :=
 ⟨λx H1=>tb σ H1 λy H2=>R x y H2,λx H1 q=>⟨λy H2=>R x y H2,λy H2 r=>k x y H2 r,q⟩,h⟩
def QP:R2:=λx y H Q=>∃a bD k v,x = .ref a/\y=kV k/\H a=some (.dK bD)/\eQ bD k=some v/\Q v H
theorem lH {o i:Expr}{td ty:TE}{pos:Pos}(hu:X.A.units+1<cLine) (ho:PE X o td) (hi:PE X i ty) (hs:WZ i):PE X (.Subscript o i pos) (Rz QP td ty) :=
 Pp (Li hu (t5 ho) (t5 hi) hs) λσ H Q h=>X0 h λx y H2 ⟨a,bD,k,v,e1,e2,e3,e4,q⟩=>⟨a,v,e1,by rw[e2,<-e4];exact yp.k e3,q⟩
def QO (neg:Bool):R2:=λy x H Q=>∃a bD k,x = .ref a/\y=kV k/\H a=some (.dK bD)/\Q (.bl (if neg then !(eQ bD k).isSome else(eQ bD k).isSome)) H
theorem EU {i o:Expr}{ty td:TE}(hu:X.A.units+1<cLine) (hi:PE X i ty) (ho:PE X o td):PC X .In i o (Rz (QO false) ty td) :=
 Pu (VD hu (t5 hi) (t5 ho)) λσ H Q h=>X0 h λy x H2 ⟨a,bD,k,e1,e2,e3,q⟩=>⟨a,_,e1,by rw[e2];exact yp.k e3,q⟩
theorem iJ {i o:Expr}{ty td:TE}(hu:X.A.units+1<cLine) (hi:PE X i ty) (ho:PE X o td):PC X .NotIn i o (Rz (QO true) ty td) :=
 Pu (MR hu (t5 hi) (t5 ho)) λσ H Q h=>X0 h λy x H2 ⟨a,bD,k,e1,e2,e3,q⟩=>⟨a,_,e1,by rw[e2];exact yp.k e3,q⟩
def EO (td ty tv:TE):TS:=λD σ H=>tv σ H λv H1=>td σ H1 λx H2=>ty σ H2 λy H3=>∃a bD k,x = .ref a/\y=kV k/\H3 a=some (.dK bD)/\bD.length<sizeLine/\D.nx σ (upd H3 a (.dK (putK bD k v)))
theorem qO {o i value:Expr}{td ty tv:TE}{pos pos':Pos}(hu:X.A.units+1<cLine) (ho:PE X o td) (hi:PE X i ty) (hv:PE X value tv) (hs:swapsWith value (some (.Subscript o i pos')) pos.line X.env=pure false) :
  PS X (.Assign [.Subscript o i pos'] value pos) (EO td ty tv) :=
 Vw (SF hu (t5 ho) (t5 hi) (t5 hv) hs) λD σ H h=>⟨λv H1=>td σ H1 λx H2=>ty σ H2 λy H3=>∃a bD k,x = .ref a/\y=kV k/\H3 a=some (.dK bD)/\bD.length<sizeLine/\D.nx σ (upd H3 a (.dK (putK bD k v))),λv H1 q=>X0 q λx y H3 z=>by
  obtain⟨a,bD,k,e1,e2,e3,e4,q⟩:=z;exact⟨a,_,e1,by rw[e2];exact Rq.k e3 e4,q⟩,h⟩
theorem ES (K:aa){e:Expr}{f:Str}{pos:Pos}{ta:TE}(he:PE X e ta) (hb:attributeBase e f X.env (eval e X.env)=eval e X.env) (hK:X.K=K:=by rfl):PE X (.Attribute e f pos) (Mn K ta f):=by
 subst hK;exact aV he hb
theorem Lh (K:aa){es:List Expr}{k:Nat}{pos:Pos}{t:UU}{n:Nat}(hg:PG X (.Tuple es k pos) (Kh X.K n t)) (hK:X.K=K:=by rfl):PG X (.Tuple es k pos) (Kh K n t):=by
 subst hK;exact hg
theorem P8 (w:Str) (k:Key):(V.str w=kV k)=(k=fi w):=by cases k<;>simp[kV,eq_comm]
theorem P9 (i:Int) (k:Key):(V.int i=kV k)=(k=cy i):=by cases k<;>simp[kV,eq_comm]
end
theorem tyL {K:aa}{H:Hp}{a:Addr}(h:∃xs,H a=some (.lst xs)):X1 K "list" (.ref a) H=True:=by
 obtain⟨xs,h⟩:=h;exact eq_true (.inl ⟨rfl,_,dO.of h⟩)
theorem tyI {K:aa}{H:Hp}{i:Int}:X1 K "int" (.int i) H=True:=eq_true rfl
def C5 (J:It) (g:TG) (tb:TS) (D:Ends) (σ:L2.St) (H1:Hp):Prop:=∃W:Nat->Nat->L2.St->Hp->Prop,(∃m,W 0 m σ H1)/\∀i m σ H,W i m σ H ->
 (J.stop i H/\D.nx σ H)\/(J.go i H/\∃N:L2.St->Hp->Prop,(∀fK H',N fK H'->∃m',m'<m/\W (i+1) m' fK H')/\∀x H',J.Uk i H x H'->g x σ H' λoj H2=>tb { D with nx:=N,ct:=N,bk:=D.nx } oj H2)
theorem K5 (wi:TI) (g:TG) (tb:TS) (D:Ends) (σ:L2.St) (H:Hp):X4 wi g tb D σ H=wi σ H λJ H1=>C5 J g tb D σ H1:=rfl
def W0 (J:It) (g:TG) (tt:TT) (te:TE) (vs:List Nat) (σ:L2.St) (Q:VK) (H1:Hp) (D:Addr):Prop:=∃W:Nat->Nat->Hp->Prop,(∃m,W 0 m (upd H1 D (.lst [])))/\∀i m H,W i m H ->
 (J.stop i H/\Q (.ref D) H)\/(J.go i H/\∃Nx:Hp->Prop,(∀H',Nx H'->∃m',m'<m/\W (i+1) m' H')/\∀x H',J.Uk i H x H'->g x (wipe σ vs) H' λoj H2=>wipe oj vs=wipe σ vs/\tt oj H2 λb H3 =>
  if b=true then te oj H3 λy H4=>∃acc,H4 D=some (.lst acc)/\acc.length<sizeLine/\Nx (upd H4 D (.lst (acc++[y]))) else Nx H3)
theorem OM (wi:TI) (g:TG) (tt:TT) (te:TE) (vs:List Nat) (σ:L2.St) (H:Hp) (Q:VK):tLc wi g tt te vs σ H Q=wi σ H λJ H1=>∀D,H1 D=none->W0 J g tt te vs σ Q H1 D:=rfl
theorem sx0:type_of% (ab @tj.eq_1 (ab @tC.eq_1 (ab @Rz.eq_1 (ab @tUn.eq_1 (ab @Mn.eq_1 (ab @tCB.eq_1 (ab @IX.eq_1 (ab @Vc.eq_1 (ab @U8.eq_1 (ab @X5.eq_1 (ab @Vb.eq_1 (@Xd.eq_1)))))))))))):=ab @tj.eq_1 (ab @tC.eq_1 (ab @Rz.eq_1 (ab @tUn.eq_1 (ab @Mn.eq_1 (ab @tCB.eq_1 (ab @IX.eq_1 (ab @Vc.eq_1 (ab @U8.eq_1 (ab @X5.eq_1 (ab @Vb.eq_1 (@Xd.eq_1)))))))))))
theorem sx1:type_of% (ab @X7.eq_1 (ab @R9.eq_1 (ab @OS.eq_1 (ab @X3.eq_1 (ab @Um.eq_1 (ab @tIf.eq_1 (ab @OP.eq_1 (ab @Vd.eq_1 (ab @Ep.eq_1 (ab @IU.eq_1 (ab @IV.eq_1 (@tSl.eq_1)))))))))))):=ab @X7.eq_1 (ab @R9.eq_1 (ab @OS.eq_1 (ab @X3.eq_1 (ab @Um.eq_1 (ab @tIf.eq_1 (ab @OP.eq_1 (ab @Vd.eq_1 (ab @Ep.eq_1 (ab @IU.eq_1 (ab @IV.eq_1 (@tSl.eq_1)))))))))))
theorem sx2:type_of% (ab @OK.eq_1 (ab @IW.eq_1 (ab @tB.eq_1 (ab @OH.eq_1 (ab @Ve.eq_1 (ab @tOr.eq_1 (ab @Va.eq_1 (ab @Gr.eq_1 (ab @CH.eq_1 (ab @zC.eq_1 (ab @R8.eq_1 (@K2.eq_1)))))))))))):=ab @OK.eq_1 (ab @IW.eq_1 (ab @tB.eq_1 (ab @OH.eq_1 (ab @Ve.eq_1 (ab @tOr.eq_1 (ab @Va.eq_1 (ab @Gr.eq_1 (ab @CH.eq_1 (ab @zC.eq_1 (ab @R8.eq_1 (@K2.eq_1)))))))))))
theorem sx3:type_of% (ab @Sd.eq_1 (ab @Vq.eq_1 (ab @ON.eq_1 (ab @U9.eq_1 (ab @OJ.eq_1 (ab @Dm.eq_1 (ab @Sb.eq_1 (ab @OR.eq_1 (ab @EN.eq_1 (ab @O5.eq_1 (ab @EO.eq_1 (@rU.eq_1)))))))))))):=ab @Sd.eq_1 (ab @Vq.eq_1 (ab @ON.eq_1 (ab @U9.eq_1 (ab @OJ.eq_1 (ab @Dm.eq_1 (ab @Sb.eq_1 (ab @OR.eq_1 (ab @EN.eq_1 (ab @O5.eq_1 (ab @EO.eq_1 (@rU.eq_1)))))))))))
theorem sx4:type_of% (ab @Qp.eq_1 (ab @YG.eq_1 (ab @V6.eq_1 (ab @Qo.eq_1 (ab @V8.eq_1 (ab @V7.eq_1 (ab @Qq.eq_1 (ab @xM.eq_1 (ab @Wx.eq_1 (ab @Kh.eq_1 (ab @BP.eq_1 (@QT.eq_1)))))))))))):=ab @Qp.eq_1 (ab @YG.eq_1 (ab @V6.eq_1 (ab @Qo.eq_1 (ab @V8.eq_1 (ab @V7.eq_1 (ab @Qq.eq_1 (ab @xM.eq_1 (ab @Wx.eq_1 (ab @Kh.eq_1 (ab @BP.eq_1 (@QT.eq_1)))))))))))
theorem sx5:type_of% (ab @rI.eq_1 (ab @Pc.eq_1 (ab @Wu.eq_1 (ab @Wt.eq_1 (ab @Vu.eq_1 (ab @Vt.eq_1 (ab @Tx.eq_1 (ab @QK.eq_1 (ab @QP.eq_1 (ab @QO.eq_1 (ab @rEq.eq_1 (@rNe.eq_1)))))))))))):=ab @rI.eq_1 (ab @Pc.eq_1 (ab @Wu.eq_1 (ab @Wt.eq_1 (ab @Vu.eq_1 (ab @Vt.eq_1 (ab @Tx.eq_1 (ab @QK.eq_1 (ab @QP.eq_1 (ab @QO.eq_1 (ab @rEq.eq_1 (@rNe.eq_1)))))))))))
theorem sx6:type_of% (ab @Yh.eq_1 (ab @Vv.eq_1 (ab @Ye.eq_1 (ab @YF.eq_1 (ab @xw.eq_1 (ab @ER.eq_1 (ab @Pd.eq_1 (ab @LD.eq_1 (ab @QL.eq_1 (ab @Pb.eq_1 (ab @L2.start.eq_1 (@V.ref.injEq)))))))))))):=ab @Yh.eq_1 (ab @Vv.eq_1 (ab @Ye.eq_1 (ab @YF.eq_1 (ab @xw.eq_1 (ab @ER.eq_1 (ab @Pd.eq_1 (ab @LD.eq_1 (ab @QL.eq_1 (ab @Pb.eq_1 (ab @L2.start.eq_1 (@V.ref.injEq)))))))))))
theorem sx7:type_of% (ab @V.int.injEq (ab @V.bl.injEq (ab @V.str.injEq (ab @HO.ins.injEq (ab @HO.lst.injEq (ab @HO.dK.injEq (ab @HO.tup.injEq (ab @c0 (ab @KZ (ab @cxK (ab (@aP.{0,0} V (Option V)) ((@cn.{0,0} V (Option V)))))))))))))):=ab @V.int.injEq (ab @V.bl.injEq (ab @V.str.injEq (ab @HO.ins.injEq (ab @HO.lst.injEq (ab @HO.dK.injEq (ab @HO.tup.injEq (ab @c0 (ab @KZ (ab @cxK (ab (@aP.{0,0} V (Option V)) ((@cn.{0,0} V (Option V)))))))))))))
theorem sx8:type_of% (ab (@iB.{0} (Option V)) (ab (@fX.{0} (Option V)) (ab (@NV.{0} (Option V)) (ab (@yt.{0} (Option V)) (ab (@dy.{0} (Option V)) (ab (@dP.{0} (Option V)) (ab (@eL.{0} (Option V)) (ab (@b4.{0} (Option V)) (ab (@b4.{0} V) (ab (@b4.{0} HO) (ab (@iC.{0} V) ((@L7.{0} (Option V)))))))))))))):=ab (@iB.{0} (Option V)) (ab (@fX.{0} (Option V)) (ab (@NV.{0} (Option V)) (ab (@yt.{0} (Option V)) (ab (@dy.{0} (Option V)) (ab (@dP.{0} (Option V)) (ab (@eL.{0} (Option V)) (ab (@b4.{0} (Option V)) (ab (@b4.{0} V) (ab (@b4.{0} HO) (ab (@iC.{0} V) ((@L7.{0} (Option V)))))))))))))
theorem sx9:type_of% (ab (@cM.{0} (Option V)) (ab (@ay.{0} V) (ab (@bI.{0} V) (ab (@ay.{0} Str) (ab (@bI.{0} Str) (ab (@bI.{0} (Str×V)) (ab (@ay.{0} (Str×V)) (ab @P8 (ab @P9 (ab (@ck) (ab @K5 (@OM)))))))))))):=ab (@cM.{0} (Option V)) (ab (@ay.{0} V) (ab (@bI.{0} V) (ab (@ay.{0} Str) (ab (@bI.{0} Str) (ab (@bI.{0} (Str×V)) (ab (@ay.{0} (Str×V)) (ab @P8 (ab @P9 (ab (@ck) (ab @K5 (@OM)))))))))))
theorem sx:type_of% (ab sx0 (ab sx1 (ab sx2 (ab sx3 (ab sx4 (ab sx5 (ab sx6 (ab sx7 (ab sx8 (sx9)))))))))):=ab sx0 (ab sx1 (ab sx2 (ab sx3 (ab sx4 (ab sx5 (ab sx6 (ab sx7 (ab sx8 (sx9)))))))))
theorem qx:type_of% (ab sx (ab fl (ab @wipe.eq_1 (ab @wipe.eq_2 (ab @eq_self.{1} (ab @aP.{0,0} (ab @cn.{0,0} (ab @iC.{0} (ab @b4.{0} (ab @exists_eq_left.{1} (ab @exists_eq_left'.{1} (ab @exists_eq'.{1} (ab @exists_and_left.{1} (ab @tyL (ab @tyI (ab @and_assoc (ab true_and (and_true)))))))))))))))))):=ab sx (ab fl (ab @wipe.eq_1 (ab @wipe.eq_2 (ab @eq_self.{1} (ab @aP.{0,0} (ab @cn.{0,0} (ab @iC.{0} (ab @b4.{0} (ab @exists_eq_left.{1} (ab @exists_eq_left'.{1} (ab @exists_eq'.{1} (ab @exists_and_left.{1} (ab @tyL (ab @tyI (ab @and_assoc (ab true_and (and_true)))))))))))))))))
local macro_rules
 | `(tactic|push_cast[$xs,*])=>`(tactic|simp only[qx,Sw,Nat.reduceAdd,Nat.reduceSub,$xs,*])
 | `(tactic|push_cast)=>`(tactic|simp only[qx,Sw,Nat.reduceAdd,Nat.reduceSub])
open Md16 (Net)
open Md16 (Machine)
open Md16 (Edge)
open Md16 (Bound)
open Md16 (Meet)
open Md16 (State)
open Md16 (Step)
def ua (nc:Nat) (bs:List Bound):List V:=(bF nc).map λc=>V.int (Hf bs c)
def px (nc:Nat) (bs:List Bound):List V:=(bF nc).map λc=>V.int (BN bs c)
def cq (t:cT) (H:Hp) (a:Addr) (nc:Nat) (bs:List Bound):Prop:=∃dx lo hi,H a=some (.ins t.cK dx (cQ (.ref lo) (.ref hi)))/\H lo=some (.lst (ua nc bs))/\H hi=some (.lst (px nc bs))/\lo≠hi
def Vk (t:cT):Sp:=λvs H Q _=>∃(a:Addr) (nc:Nat) (bs:List Bound) (c v:Nat),vs=[.ref a,.int c,.int v]/\cq t H a nc bs/\c<nc/\v<=16/\Q (.bl (gR bs c v)) H
def Sn (t:cT):Sp:=λvs H Q _=>∃(a dx:Addr) (nc:Nat),vs=[.ref a,.int nc]/\H a=some (.ins t.cK dx [])/\nc<=4/\∀(lo hi:Addr) (H':Hp),H' a=some (.ins t.cK dx (cQ (.ref lo) (.ref hi)))->H lo=none->H hi=none->cq t H' a nc []->Keeps [a] H H'->Q .gi H'
section
variable {P:Program}{w:World}{K:aa}{mg:Str->Option Value}{base:Heap}{t:cT}
theorem PY {nc c:Nat}{bs:List Bound}(h:c<nc):nB (ua nc bs) (c:Int)=some (V.int (Hf bs c)):=by
 refine de ?_;unfold ua;rw[aR,fk h];rfl
theorem Fq {nc c:Nat}{bs:List Bound}(h:c<nc):nB (px nc bs) (c:Int)=some (V.int (BN bs c)):=by
 refine de ?_;unfold px;rw[aR,fk h];rfl
theorem qF (T:Txt K mg t):yy P w K mg base 1 t.cK "hold" ["self", "clock", "shown"] (Vk t):=by
 obtain⟨f,fd,F,M⟩:=T.vX;refine⟨T.mG.cl,f,fd,F.ok Bj (λvs H Q E h=>?_) (λgw A outer s H vs Q E hr h=>?_),M,F.binds (λ_ _ _ _ _ _ us hl=>match us,hl with|[_,_,_],_=>rfl)⟩
 ·obtain⟨a,nc,bs,c,v,rfl,_⟩:=h;rfl
 obtain⟨a,nc,bs,c,v,rfl,h⟩:=h;have hu:=cF hr;refine⟨_,(aD (bj (Pt Uu Uu (dw dq (aV (pv 0) rfl) (pv 1) (λ_ _=>rfl)) (pv 2) (dw dq (aV (pv 0) rfl) (pv 1) (λ_ _=>rfl))))),?_⟩;obtain⟨⟨dx,lo,hi,h1,h2,h3,_⟩,hc,hv,q⟩:=h;push_cast[h1,h2,h3,T.j5,PY hc,Fq hc];rw[<-Qw bs c v hv]at q;by_cases h:Hf bs c<=v
 ·rw[if_pos (decide_eq_true (by omega))];simpa[h]using q
 ·rw[if_neg (by simp;omega)];simpa[h]using q
theorem Sy (nc:Nat) (x:V):(bx (nc:Int).toNat [x]).flatten=(bF nc).map λ_=>x:=by
 rw[show(nc:Int).toNat=nc from rfl]
 induction nc with
 | zero=>rfl
 | succ n ih =>
  rw[RS,bo,<-ih,KQ,List.flatten_append];rfl
theorem C1 (T:Txt K mg t):IA P w K mg base 1 t.cK "Bounds" ["self", "clocks"] (Sn t):=by
 obtain⟨f,fd,F,M,g⟩:=T.vW;refine⟨f,fd,F.ok Bi (λvs H Q E h=>?_) (λgw A outer s H vs Q E hr h=>?_),M,g,F.binds (λ_ _ _ _ _ _ us hl=>match us,hl with|[_,_],_=>rfl)⟩
 ·obtain⟨a,dx,nc,rfl,_⟩:=h;rfl
 obtain⟨a,dx,nc,rfl,h⟩:=h;have hu:=cF hr;refine⟨_,(aj (bW (pv 0) (eF JM (c9 (ag bf aC)) (pv 1)) rfl) (aD (bW (pv 0) (eF JM (c9 (ag (b9 T.j6 rfl) aC)) (pv 1)) rfl))),?_⟩;obtain⟨h1,hn,q⟩:=h;have z1:1<=sizeLine:=by decide
 have z2 : -(2:Int) ^ 63<=(nc:Int)/\(nc:Int)<2 ^ 63/\1 * (nc:Int).toNat<=sizeLine:=⟨by omega,by omega,by simp[sizeLine];omega⟩;push_cast[h1,z1,z2,Sy];intro p hp;generalize e1:upd H p _=H1;obtain⟨_,k1⟩:=al e1 hp;intro p1 AK;generalize e2:upd H1 p1 _=H2;obtain⟨g2,k2⟩:=al e2 AK;have m2:=k2.up (k1.up h1);push_cast[m2,T.j5];generalize e3:upd H2 a _=H3;obtain⟨g3,k3⟩:=wr e3;intro p4 RD;generalize e4:upd H3 p4 _=H4;obtain⟨_,k4⟩:=al e4 RD;intro p5 RC;generalize e5:upd H4 p5 _=H5;obtain⟨g5,k5⟩:=al e5 RC;have m5:=k5.up (k4.up g3);push_cast[m5,T.j5];generalize e6:upd H5 a _=H6;obtain⟨g6,k6⟩:=wr e6;have m2':=k5.up (k4.up (k3.bM g2 (aK g2 m2 nofun)));exact q p1 p5 _ g6 (k1.gr _ AK) (k1.gr _ (k2.gr _ (k3.gr _ (k4.gr _ RC)))) ⟨dx,p1,p5,g6,k6.bM m2' (aK m2' m5 nofun),k6.bM g5 (aK g5 m5 nofun),a6 (k4.up (k3.bM g2 (aK g2 m2 nofun))) RC⟩ ((((((k1.any.trans k2.any).trans k3).trans k4.any).trans k5.any)).trans k6)
def Mz (t:cT):Sp:=λvs H Q _=>∃(a:Addr) (nc:Nat) (bs:List Bound) (b:Bound),vs=[.ref a,.int b.clock,.int (if b.most=true then 0 else b.n:Nat),.int (if b.most=true then b.n else 16:Nat)]/\cq t H a nc bs/\b.clock<nc /\
 ∀lo hi dx H',H a=some (.ins t.cK dx (cQ (.ref lo) (.ref hi)))->cq t H' a nc (bs++[b])->Keeps [lo,hi] H H'->Q .gi H'
theorem S4 (nc:Nat) (bs:List Bound) (b:Bound):(ua nc bs).set b.clock (.int (max (Hf bs b.clock) (if b.most=true then 0 else b.n):Nat))=ua nc (bs++[b]):=by
 refine hJ λi=>?_
 unfold ua;rw[md,aR,aR,ax,zz];by_cases hi:i<nc
 ·rw[fk hi];by_cases e:b.clock=i
  ·subst e;rw[if_pos rfl,if_pos hi];simp[Hf,fY]
  ·rw[if_neg e];simp[Hf,fY,e]
 ·rw[cZ (by simp;omega)]
  split<;>simp_all
theorem QD (nc:Nat) (bs:List Bound) (b:Bound):(px nc bs).set b.clock (.int (min (BN bs b.clock) (if b.most=true then b.n else 16):Nat))=px nc (bs++[b]):=by
 refine hJ λi=>?_
 unfold px;rw[md,aR,aR,ax,zz];by_cases hi:i<nc
 ·rw[fk hi];by_cases e:b.clock=i
  ·subst e;rw[if_pos rfl,if_pos hi];simp[BN,fY]
  ·rw[if_neg e];simp[BN,fY,e]
 ·rw[cZ (by simp;omega)]
  split<;>simp_all
theorem rf (T:Txt K mg t):yy P w K mg base 1 t.cK "tighten" ["self", "clock", "low", "high"] (Mz t):=by
 obtain⟨f,fd,F,M⟩:=T.qX;refine⟨T.mG.cl,f,fd,F.ok xu (λvs H Q E h=>?_) (λgw A outer s H vs Q E hr h=>?_),M,F.binds (λ_ _ _ _ _ _ us hl=>match us,hl with|[_,_,_,_],_=>rfl)⟩
 ·obtain⟨a,nc,bs,b,rfl,_⟩:=h;rfl
 obtain⟨a,nc,bs,b,rfl,h⟩:=h;have hu:=cF hr;refine⟨_,(aj (JA (bT (NA rfl) rfl T.D3 WO (ag (dw dq (aV (pv 0) rfl) (pv 1) (λ_ _=>rfl)) (ag (pv 2) aC))) (JB (aV (pv 0) rfl) (pv 1) set_list)) (aD (JA (bT (DV rfl) rfl T.Cj Rb (ag (dw dq (aV (pv 0) rfl) (pv 1) (λ_ _=>rfl)) (ag (pv 3) aC))) (JB (aV (pv 0) rfl) (pv 1) set_list)))),?_⟩;obtain⟨⟨dx,lo,hi,h1,h2,h3,hn⟩,hc,q⟩:=h;have l1:(ua nc bs).length=nc:=by simp[ua]
 have l2:(px nc bs).length=nc:=by simp[px]
 push_cast[h1,h2,h3,T.j5,PY hc,Fq hc,l1,xG hc];generalize e1:upd H lo _=H1;obtain⟨g1,k1⟩:=wr e1;have m1:=k1.bM h1 (aK h1 h2 nofun);have m3:=k1.bM h3 (λz=>hn z.symm);push_cast[m1,m3,T.j5,Fq hc,l2,xG hc];generalize e2:upd H1 hi _=H2;obtain⟨g2,k2⟩:=wr e2;refine q lo hi dx H2 h1 ⟨dx,lo,hi,k2.bM m1 (aK m1 m3 nofun),?_,?_,hn⟩ ((k1.mono (by simp)).trans (k2.mono (by simp)))
 ·rw[k2.bM g1 hn,<-S4]
  congr 4
  split<;>omega
 ·rw[g2,<-QD]
  congr 4
  split<;>omega
end
def stx (w:List Nat):Str:=⟨w.toArray⟩
def lX (l:List (List Nat)):List (Key×V):=l.zipIdx.map λx=>(fi (stx x.1),V.int (x.2:Nat))
def sN:Meet->Int
 | .alone=>0
 | .gives _=>1
 | .takes _=>2
def mI (t:cT) (H:Hp) (a:Addr) (mi ei nc:Nat) (e:Edge):Prop:=∃dx b ls,H a=some (.ins t.fD dx (dr (.int mi) (.int ei) (.int e.from_) (.int e.to_) (.ref b) (.ref ls) (.int (sN e.meet)) (.int (m6 e.meet))))/\cq t H b nc e.when_/\H ls=some (.lst (e.sets.map λ(c:Nat)=>V.int c))
structure F0 (t:cT) (H:Hp) (i nc:Nat) (m:Machine) (dp lb le:Addr) (bs es:List Addr):Prop where
 pl:H dp=some (.dK (lX (pNames m)))
 hb:H lb=some (.lst (bs.map V.ref))
 he:H le=some (.lst (es.map V.ref))
structure zq (t:cT) (G:Hp) (i nc:Nat) (m:Machine) (bs es:List Addr):Prop where
 bl:bs.length=m.places.length
 el:es.length=m.edges.length
 ba:∀(j:Nat) (b:Addr) (p:List Nat×List Bound),bs[j]?=some b->m.places[j]?=some p->cq t G b nc p.2
 ea:∀(j:Nat) (b:Addr) (e:Edge),es[j]?=some b->m.edges[j]?=some e->mI t G b i j nc e
def sG (t:cT) (H:Hp) (a:Addr) (i nc:Nat) (m:Machine):Prop:=∃dx dp lb le bs es,H a=some (.ins t.dD dx (eO (.ref dp) (.ref lb) (.ref le)))/\F0 t H i nc m dp lb le bs es/\zq t H i nc m bs es
def gE (t:cT) (H:Hp) (a:Addr) (N:Net):Prop:=∃(dx dC dS dN lM:Addr) (ms:List Addr),H a=some (.ins t.fN dx (fL (.ref dC) (.ref dS) (.ref dN) (.ref lM)))/\H dC=some (.dK (lX N.clocks))/\H dS=some (.dK (lX N.signals))/\H dN=some (.dK (lX (cA N))) /\
 H lM=some (.lst (ms.map V.ref))/\ms.length=N.machines.length/\∀(i:Nat) (x:Addr) (m:Machine),ms[i]?=some x->N.machines[i]?=some m->sG t H x i N.clocks.length m
theorem cq.up {t:cT}{H H':Hp}(k:Keeps [] H H'){a:Addr}{nc:Nat}{bs:List Bound}(h:cq t H a nc bs):cq t H' a nc bs:=by
 obtain⟨dx,lo,hi,h1,h2,h3,n⟩:=h;exact⟨dx,lo,hi,k.up h1,k.up h2,k.up h3,n⟩
theorem mI.up {t:cT}{H H':Hp}(k:Keeps [] H H'){a:Addr}{mi ei nc:Nat}{e:Edge}(h:mI t H a mi ei nc e):mI t H' a mi ei nc e:=by
 obtain⟨dx,b,ls,h1,h2,h3⟩:=h;exact⟨dx,b,ls,k.up h1,h2.up k,k.up h3⟩
theorem zq.up {t:cT}{H H':Hp}(k:Keeps [] H H'){i nc:Nat}{m:Machine}{bs es:List Addr}(h:zq t H i nc m bs es):zq t H' i nc m bs es :=
 ⟨h.bl,h.el,λj b p h1 h2=>(h.ba j b p h1 h2).up k,λj b e h1 h2=>(h.ea j b e h1 h2).up k⟩
theorem F0.up {t:cT}{H H':Hp}(k:Keeps [] H H'){i nc:Nat}{m:Machine}{dp lb le:Addr}{bs es:List Addr}(h:F0 t H i nc m dp lb le bs es):F0 t H' i nc m dp lb le bs es :=
 ⟨k.up h.pl,k.up h.hb,k.up h.he⟩
theorem sG.up {t:cT}{H H':Hp}(k:Keeps [] H H'){a:Addr}{i nc:Nat}{m:Machine}(h:sG t H a i nc m):sG t H' a i nc m:=by
 obtain⟨dx,dp,lb,le,bs,es,h1,h2,h3⟩:=h;exact⟨dx,dp,lb,le,bs,es,k.up h1,h2.up k,h3.up k⟩
theorem gE.up {t:cT}{H H':Hp}(k:Keeps [] H H'){a:Addr}{N:Net}(h:gE t H a N):gE t H' a N:=by
 obtain⟨dx,dC,dS,dN,lM,ms,h1,h2,h3,h4,h5,h6,h7⟩:=h;exact⟨dx,dC,dS,dN,lM,ms,k.up h1,k.up h2,k.up h3,k.up h4,k.up h5,h6,λi x m a b=>(h7 i x m a b).up k⟩
section
variable {P:Program}{w:World}{K:aa}{mg:Str->Option Value}{base:Heap}{t:cT}
def Sl (t:cT):Sp:=λvs H Q _=>∃(a dx:Addr) (mi ei s g:Nat) (b:Addr),vs=[.ref a,.int mi,.int ei,.int s,.int g,.ref b]/\H a=some (.ins t.fD dx []) /\
 ∀(ls:Addr) (H':Hp),H' a=some (.ins t.fD dx (dr (.int mi) (.int ei) (.int s) (.int g) (.ref b) (.ref ls) (.int 0) (.int (-1))))->H' ls=some (.lst [])->H ls=none->Keeps [a] H H'->Q .gi H'
theorem HS (T:Txt K mg t):IA P w K mg base 1 t.fD "Edge" ["self", "machine", "number", "source", "target", "bounds"] (Sl t):=by
 obtain⟨f,fd,F,M,g⟩:=T.zZ;refine⟨f,fd,F.ok EK (λvs H Q E h=>?_) (λgw A outer s H vs Q E hr h=>?_),M,g,F.binds (λ_ _ _ _ _ _ us hl=>match us,hl with|[_,_,_,_,_,_],_=>rfl)⟩
 ·obtain⟨a,dx,mi,ei,s_,g_,b,rfl,_⟩:=h;rfl
 obtain⟨a,dx,mi,ei,s_,g_,b,rfl,h⟩:=h;have hu:=cF hr;refine⟨_,(aj (bW (pv 0) (pv 1) rfl) (aj (bW (pv 0) (pv 2) rfl) (aj (bW (pv 0) (pv 3) rfl) (aj (bW (pv 0) (pv 4) rfl) (aj (bW (pv 0) (pv 5) rfl) (aj (bW (pv 0) (c9 aC) rfl) (aj (bW (pv 0) (b9 T.rZ rfl) rfl) (aD (bW (pv 0) (sM pb bf) rfl))))))))),?_⟩;obtain⟨h1,q⟩:=h;push_cast[h1,T.ky];intro p hp;generalize e1:upd H a _=H1 at hp⊢;obtain⟨g1,k1⟩:=wr e1;generalize e2:upd H1 p _=H2;obtain⟨g2,k2⟩:=al e2 hp;push_cast[k2.up g1,T.ky];generalize e3:upd H2 a _=H3;obtain⟨g3,k3⟩:=wr e3;exact q p H3 g3 (k3.bM g2 (aK g2 (k2.up g1) nofun)) (k1.gr p hp) ((k1.trans k2.any).trans k3)
def Sj (t:cT):Sp:=λvs H Q _=>∃(a dx:Addr),vs=[.ref a]/\H a=some (.ins t.dD dx []) /\
 ∀(dp lb le:Addr) (H':Hp),H' a=some (.ins t.dD dx (eO (.ref dp) (.ref lb) (.ref le)))->H' dp=some (.dK [])->H' lb=some (.lst [])->H' le=some (.lst [])->H dp=none->H lb=none->H le=none->lb≠le->Keeps [a] H H'->Q .gi H'
theorem Cd (T:Txt K mg t):IA P w K mg base 1 t.dD "Machine" ["self"] (Sj t):=by
 obtain⟨f,fd,F,M,g⟩:=T.ur;refine⟨f,fd,F.ok Aq (λvs H Q E h=>?_) (λgw A outer s H vs Q E hr h=>?_),M,g,F.binds (λ_ _ _ _ _ _ us hl=>match us,hl with|[_],_=>rfl)⟩
 ·obtain⟨a,dx,rfl,_⟩:=h;rfl
 obtain⟨a,dx,rfl,h⟩:=h;have hu:=cF hr;refine⟨_,(aj (bW (pv 0) jo rfl) (aj (bW (pv 0) (c9 aC) rfl) (aD (bW (pv 0) (c9 aC) rfl)))),?_⟩;obtain⟨h1,q⟩:=h;push_cast[h1,T.eN];intro p1 AK;generalize e1:upd H p1 _=H1;obtain⟨g1,k1⟩:=al e1 AK;push_cast[k1.up h1,T.eN];intro p2 Ka;generalize e2:upd H1 a _=H2 at Ka⊢;obtain⟨g2,k2⟩:=wr e2;generalize e3:upd H2 p2 _=H3;obtain⟨g3,k3⟩:=al e3 Ka;push_cast[k3.up g2,T.eN];intro p3 Lx;generalize e4:upd H3 a _=H4 at Lx⊢;obtain⟨g4,k4⟩:=wr e4;generalize e5:upd H4 p3 _=H5;obtain⟨g5,k5⟩:=al e5 Lx;push_cast[k5.up g4,T.eN];generalize e6:upd H5 a _=H6;obtain⟨g6,k6⟩:=wr e6;have m1:=k1.up h1;have a1:=k3.up (k2.bM g1 (aK g1 m1 nofun));have a2:=k5.up (k4.bM a1 (aK a1 (k3.up g2) nofun));have b1:=k4.bM g3 (aK g3 (k3.up g2) nofun);have b2:=k5.up b1;exact q p1 p2 p3 H6 g6 (k6.bM a2 (aK a2 (k5.up g4) nofun)) (k6.bM b2 (aK b2 (k5.up g4) nofun)) (k6.bM g5 (aK g5 (k5.up g4) nofun)) AK (k1.gr _ (k2.gr _ Ka)) (k1.gr _ (k2.gr _ (k3.gr _ (k4.gr _ Lx)))) (a6 b1 Lx) (((((k1.any.trans k2).trans k3.any).trans k4).trans k5.any).trans k6)
def K8 (t:cT):Sp:=λvs H Q _=>∃(a dx:Addr) (x y:V),vs=[.ref a,x,y]/\H a=some (.ins t.eP dx [])/\∀H':Hp,H' a=some (.ins t.eP dx (i4 x y))->Keeps [a] H H'->Q .gi H'
theorem pK (T:Txt K mg t):IA P w K mg base 1 t.eP "Reading" ["self", "answer", "told"] (K8 t):=by
 obtain⟨f,fd,F,M,g⟩:=T.uq;refine⟨f,fd,F.ok Ap (λvs H Q E h=>?_) (λgw A outer s H vs Q E hr h=>?_),M,g,F.binds (λ_ _ _ _ _ _ us hl=>match us,hl with|[_,_,_],_=>rfl)⟩
 ·obtain⟨a,dx,x,y,rfl,_⟩:=h;rfl
 obtain⟨a,dx,x,y,rfl,h⟩:=h;have hu:=cF hr;refine⟨_,(aj (bW (pv 0) (pv 1) rfl) (aD (bW (pv 0) (pv 2) rfl))),?_⟩;obtain⟨h1,q⟩:=h;push_cast[h1,T.u6];generalize e1:upd H a _=H1;obtain⟨g1,k1⟩:=wr e1;exact q H1 g1 k1
def Sm (t:cT):Sp:=λvs H Q _=>∃(a dx:Addr),vs=[.ref a]/\H a=some (.ins t.dE dx [])/\∀H':Hp,H' a=some (.ins t.dE dx (fW .gi .gi .gi))->Keeps [a] H H'->Q .gi H'
theorem HV (T:Txt K mg t):IA P w K mg base 1 t.dE "Desk" ["self"] (Sm t):=by
 obtain⟨f,fd,F,M,g⟩:=T.z4;refine⟨f,fd,F.ok EL (λvs H Q E h=>?_) (λgw A outer s H vs Q E hr h=>?_),M,g,F.binds (λ_ _ _ _ _ _ us hl=>match us,hl with|[_],_=>rfl)⟩
 ·obtain⟨a,dx,rfl,_⟩:=h;rfl
 obtain⟨a,dx,rfl,h⟩:=h;have hu:=cF hr;refine⟨_,(aj (bW (pv 0) my rfl) (aj (bW (pv 0) my rfl) (aD (bW (pv 0) my rfl)))),?_⟩;obtain⟨h1,q⟩:=h;push_cast[h1,T.iK];generalize e1:upd H a _=H1;obtain⟨g1,k1⟩:=wr e1;exact q H1 g1 k1
end
open Md16 (Bytes)
open Md16 (letter)
open Md16 (digit)
open Md16 (name)
open Md16 (ascii)
theorem pd (w:List Nat):TL.tl (stx w)=w:=rfl
theorem Er {a b:List Nat}(h:stx a=stx b):a=b:=by
 have:=congrArg TL.tl h;exact this
theorem gK (w:List Nat):(stx w).length=w.length:=by rw[TL.rV];rfl
theorem IY (a b:List Nat):decide (stx a=stx b)=decide (a=b):=by
 rw[decide_eq_decide];exact⟨Er,λh=>by rw[h]⟩
theorem lg (s:String):Str.ofString s=stx (ascii s):=TL.BY (by rw[TL.Gp];rfl)
def IG (c:Nat):Bool:=sg c||decide (c=63)
theorem Yc {c:Nat}(h:sg c=true):c<128:=by
 simp only[sg,letter,digit,fZ,aU,decide_eq_true_eq]at h;omega
theorem IF {c:Nat}(h:IG c=true):c<128:=by
 unfold IG at h;rw[fZ,decide_eq_true_eq]at h;rcases h with h|h
 ·exact Yc h
 ·omega
theorem Q6 (c:Nat):IG (cl c)=true:=by
 unfold cl IG;by_cases h:sg c=true
 ·rw[if_pos h,h];rfl
 ·rw[if_neg h];decide
theorem SJ (c x:Nat) (r:List Nat):TL.pre [c] (x::r)=decide (x=c):=by
 unfold TL.pre;rw[bQ];simp
theorem Vi (c:Nat):∀(w acc:List Nat),TL.zE [c] 0 acc w=match bK c w with
  | []=>[acc]
  | x::r=>(acc++x)::r
 | [],acc=>by simp[TL.zE,bK]
 | x::w,acc=>by
  by_cases h:x=c
  ·rw[TL.K7 (by rw[SJ];exact decide_eq_true h)];show acc::TL.zE [c] 0 [] w=_;rw[Vi c w []];have e:bK c (x::w)=[]::bK c w:=by unfold bK;rw[eK,if_pos h]
   rw[e];cases hs:bK c w with
   | nil=>exact absurd hs (tQ c w)
   | cons y r=>simp
  ·rw[TL.GC (by rw[SJ];exact decide_eq_false h),Vi c w (acc++[x])];cases hs:bK c w with
   | nil=>exact absurd hs (tQ c w)
   | cons y r =>
    have e:bK c (x::w)=(x::y)::r:=by
     unfold bK at hs⊢;rw[eK,hs,if_neg h]
    rw[e];simp
theorem Dn (c:Nat) (hc:c<256) (w:List Nat):Txt.split (stx w) (stx [c])=(bK c w).map stx:=by
 refine TL.BC ?_;rw[TL.Mt _ _ (by rw[pd];simp) (TL.S9 (by simp[stx,hc])),pd,pd,Vi,da];have:(TL.tl ∘ stx)=id:=rfl;rw[this,XY];cases hs:bK c w with
 | nil=>exact absurd hs (tQ c w)
 | cons y r=>simp
theorem kL (c:Nat):∀w:List Nat,(bK c w).length<=w.length+1/\∀v∈bK c w,v.length<=w.length/\∀x∈v,x∈w
 | []=>by simp[bK]
 | x::w=>by
  obtain⟨h1,h2⟩:=kL c w;by_cases h:x=c
  ·have e:bK c (x::w)=[]::bK c w:=by unfold bK;rw[eK,if_pos h]
   rw[e];refine⟨by simp;omega,λv hv=>?_⟩;rcases ah.mp hv with rfl|hv
   ·simp
   ·obtain⟨a,b⟩:=h2 v hv;exact⟨by rw[ay];omega,λy hy=>ai _ (b y hy)⟩
  ·cases hs:bK c w with
   | nil=>exact absurd hs (tQ c w)
   | cons y r =>
    have e:bK c (x::w)=(x::y)::r:=by
     unfold bK at hs⊢;rw[eK,hs,if_neg h]
    rw[e];rw[hs]at h1 h2;refine⟨by simp at h1⊢;omega,λv hv=>?_⟩;rcases ah.mp hv with rfl|hv
    ·obtain⟨a,b⟩:=h2 y (au ..);refine⟨by simp;omega,λz hz=>?_⟩;rcases ah.mp hz with rfl|hz
     ·exact au ..
     ·exact ai _ (b z hz)
    ·obtain⟨a,b⟩:=h2 v (ai _ hv);exact⟨by rw[ay];omega,λz hz=>ai _ (b z hz)⟩
theorem Yn (c:Nat):∀(w acc:List Nat),TL.par [c] acc w=(tD c w).map λp=>(acc++p.1,p.2)
 | [],acc=>rfl
 | x::w,acc=>by
  rw[tD];by_cases h:x=c
  ·rw[TL.EX (by rw[SJ];exact decide_eq_true h),if_pos h];simp
  ·rw[TL.Bq (by rw[SJ];exact decide_eq_false h),if_neg h,Yn c w];cases tD c w<;>simp
theorem Yj (c d x:Nat) (r:List Nat):TL.pre [c,d] (x::r)=decide (x=c/\r.head?=some d):=by
 unfold TL.pre;rw[bQ];cases r with
 | nil=>simp
 | cons y r=>simp
theorem Ym (c d:Nat):∀(w acc:List Nat),TL.par [c,d] acc w=(qE c d w).map λp=>(acc++p.1,p.2)
 | [],acc=>rfl
 | x::w,acc=>by
  rw[qE];by_cases h:x=c/\w.head?=some d
  ·rw[TL.EX (by rw[Yj];exact decide_eq_true h),if_pos h];cases w with
   | nil=>simp at h
   | cons y w=>simp
  ·rw[TL.Bq (by rw[Yj];exact decide_eq_false h),if_neg h,Ym c d w];cases qE c d w<;>simp
theorem part1 (c:Nat) (w:List Nat):Txt.partition (stx w) (stx [c])=match tD c w with
  | some p=>(stx p.1,stx [c],stx p.2)
  | none=>(stx w,stx [],stx []):=by
 rw[TL.vL _ _ (by rw[pd];simp),pd,pd,Yn];cases tD c w<;>rfl
theorem part2 (c d:Nat) (w:List Nat):Txt.partition (stx w) (stx [c,d])=match qE c d w with
  | some p=>(stx p.1,stx [c,d],stx p.2)
  | none=>(stx w,stx [],stx []):=by
 rw[TL.vL _ _ (by rw[pd];simp),pd,pd,Ym];cases qE c d w<;>rfl
theorem in2 (c d:Nat) (w:List Nat):(!(Builtin.Str.occurrences (stx w) (stx [c,d]) 0 (stx w).length 1).isEmpty)=(qE c d w).isSome:=by
 have h:=part2 c d w;unfold Txt.partition at h;cases ho:Builtin.Str.occurrences (stx w) (stx [c,d]) 0 (stx w).length 1 with
 | nil =>
  rw[ho]at h;cases hc:qE c d w with
  | none=>rfl
  | some p =>
   rw[hc]at h;dsimp only at h;have:=congrArg (λx=>TL.tl x.2.1) h;cases this
 | cons i r =>
  rw[ho]at h;cases hc:qE c d w with
  | some p=>rfl
  | none =>
   rw[hc]at h;dsimp only at h;have:=congrArg (λx=>TL.tl x.2.1) h;cases this
theorem uni:∀c,c<128->Unicode.isAlpha c=letter c/\Unicode.isDigit c=digit c/\Unicode.isAlnum c=(letter c||digit c):=by decide +kernel
theorem FX {p:Nat->Bool}(w:List Nat):(stx w).cps.all p=w.all p:=by simp[stx]
theorem wX {p q:Nat->Bool}:∀{w:List Nat},(∀c∈w,p c=q c)->w.all p=w.all q
 | [],_=>rfl
 | a::w,h=>by rw[fc,fc,h a (au ..),wX λc hc=>h c (ai _ hc)]
theorem wG {w:List Nat}(h:∀c∈w,IG c=true):Txt.isdigit (stx w)=(!w.isEmpty&&w.all digit):=by
 unfold Txt.isdigit;rw[FX,gK,wX λc hc=>(uni c (IF (h c hc))).2.1];cases w<;>simp
theorem Qi {c:Nat}(h:IG c=true):Txt.isalpha (stx [c])=letter c:=by
 unfold Txt.isalpha;rw[FX,gK];simp[(uni c (IF h)).1]
theorem J6 {w:List Nat}(h:∀c∈w,IG c=true):Txt.isalnum (stx w)=(!w.isEmpty&&w.all λc=>letter c||digit c):=by
 unfold Txt.isalnum;rw[FX,gK,wX λc hc=>(uni c (IF (h c hc))).2.2];cases w<;>simp
theorem aat:∀a,a<10->vn (stx [48+a])=some ((a:Nat):Int):=by decide +kernel
theorem aas:∀a,a<10->∀b,b<10->vn (stx [48+a,48+b])=some ((a * 10+b:Nat):Int):=by decide +kernel
theorem Lv {w:List Nat}(h1:w≠[]) (h2:w.length<=2) (h3:w.all digit=true):vn (stx w)=some ((w.foldl (λn c=>n * 10+(c-48)) 0:Nat):Int):=by
 have dg:∀c,digit c=true->∃a,a<10/\c=48+a:=λc hc=>by
  simp only[digit,aU,decide_eq_true_eq]at hc;exact⟨c-48,by omega,by omega⟩
 match w,h1,h2,h3 with
 | [c],_,_,h3 =>
  obtain⟨a,ha,rfl⟩:=dg c (by simpa using h3);rw[aat a ha];simp
 | [c,d],_,_,h3 =>
  rw[fc,fc,W8,xg,aU]at h3;obtain⟨a,ha,rfl⟩:=dg c h3.1;obtain⟨b,hb,rfl⟩:=dg d h3.2;rw[aas a ha b hb];simp
 | c::d::e::r,_,h2,_=>simp at h2
theorem xE (l:List Bytes):(lX l).length=l.length:=by simp[lX]
theorem lJ (l:List Bytes) (w:Bytes):eQ (lX l) (fi (stx w))=if l.contains w=true then some (V.int (l.idxOf w:Nat)) else none:=by
 unfold lX;have aux:∀(l:List Bytes) (n:Nat),eQ ((l.zipIdx n).map λx=>((fi (stx x.1):Key),V.int (x.2:Nat))) (fi (stx w))=if l.contains w=true then some (V.int (n+l.idxOf w:Nat)) else none:=by
  intro l
  induction l with
  | nil=>intro n;rfl
  | cons a l ih =>
   intro n;rw[Rv,aP,pW,RT];have hv:∀(kv:Key×V) (r:List (Key×V)) (k:Key),eQ (kv::r) k=if kv.1=k then some kv.2 else eQ r k:=by
    intro kv r k;unfold eQ;rw[fo];by_cases h:kv.1=k
    ·rw[if_pos h,decide_eq_true h];rfl
    ·rw[if_neg h,decide_eq_false h]
   rw[hv];by_cases h:a=w
   ·subst h;rw[if_pos rfl];simp
   ·have h2:¬(fi (stx a):Key)=fi (stx w):=λz=>h (Er (by injection z))
    rw[if_neg h2,ih (n+1)];have h3:(w==a)=false:=beq_eq_false_iff_ne.mpr λz=>h z.symm
    have h4:(a==w)=false:=beq_eq_false_iff_ne.mpr h;rw[h3,jh,h4];simp only[cond_false];by_cases hc:l.contains w=true
    ·rw[if_pos hc,if_pos hc]
     congr 3
     omega
    ·rw[if_neg hc,if_neg hc]
 have:=aux l 0;simp only[gk]at this;exact this
theorem lK (l:List Bytes) (w:Bytes):(eQ (lX l) (fi (stx w))).isSome=l.contains w:=by
 rw[lJ];cases l.contains w<;>rfl
theorem PD (l:List Bytes) (w:Bytes) (h:¬l.contains w=true):putK (lX l) (fi (stx w)) (V.int (l.length:Nat))=lX (l++[w]):=by
 rw[m7 (by rw[lJ,if_neg h])];unfold lX;rw[NU,bo];simp
theorem S0 {w:Bytes}(rm:w≠[]) (h:∀c∈w,IG c=true):name w=(!(decide (15<w.length)||Ax.contains w)&&(letter (w.headD 0)&&(!w.isEmpty&&w.all λc=>letter c||digit c))):=by
 cases w with
 | nil=>exact absurd rfl rm
 | cons c r =>
  unfold name;simp only[RU,Oh,bH,fP,fc,Bool.not_or];have:decide ((c::r).length<=15)=!decide (15<(c::r).length):=by
   rw[bQ];simp
  rw[this];cases letter c<;>cases (r.all λx=>letter x||digit x)<;>cases decide (15<(c::r).length)<;>cases Ax.contains (c::r)<;>simp
theorem YE:∀l:List Nat,Txt.join (stx []) (l.map λc=>stx [c])=stx l:=by
 intro l;rw[TL.join_eq];refine TL.BY ?_;rw[TL.K0,da];show TL.Hi [] (l.map λc=>[c])=l
 induction l with
 | nil=>rfl
 | cons c r ih =>
  cases r with
  | nil=>rfl
  | cons d r =>
   show [c]++([]++TL.Hi [] ((d::r).map λc=>[c]))=_;rw[ih];rfl
theorem bX {α:Type}{l:List α}{i:Nat}{x:α}(h:l[i]?=some x):l.take (i+1)=l.take i++[x]:=by rw[Og,h];rfl
theorem P2 {J:It}{g:TG}{te:TE}{vs:List Nat}{σ:L2.St}{H1:Hp}{D:Addr}{Q:VK}(ys:List V) (hD:H1 D=none) (hz:ys.length<=sizeLine)
  (Xu:∀i H,i<ys.length->Keeps [] H1 H->J.go i H) (xH:∀H,Keeps [] H1 H->J.stop ys.length H)
  (hs:∀(i:Nat) (y:V) (H:Hp) (x:V) (H':Hp) (C:V->Hp->Prop),ys[i]?=some y->Keeps [] H1 H->J.Uk i H x H'->(∀H4,Keeps [] H H4->C y H4)->g x (wipe σ vs) H' λoj H2=>wipe oj vs=wipe σ vs/\te oj H2 C)
  (hd:∀H,Keeps [] H1 H->H D=some (.lst ys)->Q (.ref D) H) :
  W0 J g Gr te vs σ Q H1 D:=by
 refine⟨λi m H=>m=ys.length-i/\i<=ys.length/\Keeps [] H1 H/\H D=some (.lst (ys.take i)),⟨ys.length,by simp,ck _,Keeps.refl.new hD,c0⟩,?_⟩;rintro i m H ⟨rfl,hi,k,hl⟩;by_cases hX:i<ys.length
 ·have hy:ys[i]?=some ys[i]:=ae hX;refine .inr ⟨Xu i H hX k,λH'=>Keeps [] H1 H'/\H' D=some (.lst (ys.take (i+1))),λH' p=>⟨ys.length-(i+1),by omega,rfl,hX,p⟩,λx H' hx=>?_⟩;refine hs i ys[i] H x H' _ hy k hx λH4 k4=>?_
  exact⟨ys.take i,k4.up hl,by rw[cw];omega,(k.trans k4).drop (Keeps.refl.put (M:=[D]) (by simp)) (by simpa using hD),by rw[bX hy];exact c0⟩
 ·have e:i=ys.length:=by omega
  subst e;rw[bP]at hl;exact .inl ⟨xH H k,hd H k hl⟩
section
variable {P:Program}{w:World}{K:aa}{mg:Str->Option Value}{base:Heap}{t:cT}
def OY:Sp:=λvs H Q _=>∃(n:Nat),vs=[.int n]/\Q (.int (n / 1048576:Nat)) H
theorem zh (T:Txt K mg t):vm P w K mg base 1 "spot_of" ["state"] (OY):=by
 obtain⟨f,fd,F,M⟩:=T.DQ;refine⟨f,fd,F.ok Jx (λvs H Q E h=>?_) (λgw A outer s H vs Q E hr h=>?_),M,F.kp,F.binds (λ_ _ _ _ _ _ us hl=>match us,hl with|[_],_=>rfl)⟩
 ·obtain⟨n,rfl,_⟩:=h;rfl
 obtain⟨n,rfl,h⟩:=h;have hu:=cF hr;refine⟨_,(aD (bj (eF E1 (pv 0) (b9 T.fw rfl)))),?_⟩;push_cast;refine⟨by decide,?_⟩;exact h
def MC:Sp:=λvs H Q _=>∃(n m:Nat),vs=[.int n,.int m]/\Q (.int (n / 8 ^ m % 8:Nat)) H
theorem aa0 (n:Nat):Builtin.bitAnd (n:Int) 7=((n % 8:Nat):Int):=by rw[bitAnd_m3];rfl
theorem Cb (T:Txt K mg t):vm P w K mg base 1 "place_at" ["spot", "machine"] (MC):=by
 obtain⟨f,fd,F,M⟩:=T.BV;refine⟨f,fd,F.ok GW (λvs H Q E h=>?_) (λgw A outer s H vs Q E hr h=>?_),M,F.kp,F.binds (λ_ _ _ _ _ _ us hl=>match us,hl with|[_,_],_=>rfl)⟩
 ·obtain⟨n,m,rfl,_⟩:=h;rfl
 obtain⟨n,m,rfl,h⟩:=h;have hu:=cF hr;refine⟨_,(aD (bj (eF t9 (eF E1 (pv 0) (eF JN (b9 T.iL rfl) (pv 1))) (b9 T.jI rfl)))),?_⟩;push_cast;refine⟨.inl ⟨by decide,by decide⟩,by omega,?_⟩;have e:((n:Int) / 2 ^ (3 * (m:Int)).toNat)=((n / 8 ^ m:Nat):Int):=by
  rw[show(3 * (m:Int)).toNat=3 * m by omega,show(8:Nat) ^ m=2 ^ (3 * m) by rw[L4]];simp
 rw[e,aa0];exact h
def GL (t:cT):Sp:=λvs H Q _=>∃(a dx dC:Addr) (v1 v2 v3:V) (cs:List (Key×V)),vs=[.ref a]/\H a=some (.ins t.fN dx (fL (.ref dC) v1 v2 v3))/\H dC=some (.dK cs)/\cs.length<=4 /\
 ∀(b dxb lo hi:Addr) (H':Hp),H b=none->H lo=none->H hi=none->H' b=some (.ins t.cK dxb (cQ (.ref lo) (.ref hi)))->cq t H' b cs.length []->Keeps [] H H'->Q (.ref b) H'
theorem qi (T:Txt K mg t):yy P w K mg base 3 t.fN "new_bounds" ["self"] (GL t):=by
 obtain⟨f,fd,F,M⟩:=T.qd;refine⟨T.ng.cl,f,fd,F.ok wt (λvs H Q E h=>?_) (λgw A outer s H vs Q E hr h=>?_),M,F.binds (λ_ _ _ _ _ _ us hl=>match us,hl with|[_],_=>rfl)⟩
 ·obtain⟨a,dx,dC,v1,v2,v3,cs,rfl,_⟩:=h;rfl
 obtain⟨a,dx,dC,v1,v2,v3,cs,rfl,h⟩:=h;have hu:=cF hr;refine⟨_,(aD (bj (vK (C1 T) (hr.mono (by decide)) rfl (ag (bT oT rfl T.eY dR (ag (aV (pv 0) rfl) aC)) aC)))),?_⟩;obtain⟨h1,h2,hn,q⟩:=h;push_cast[h1,h2,T.cN];intro x dx' nx nd n;generalize e1:upd (upd H dx' _) x _=H1;obtain⟨g1,k1⟩:=N0 e1 nx nd n;exact⟨x,dx',cs.length,rfl,g1,hn,λlo hi H' hb YU hhi hB k=>⟨rfl,q x dx' lo hi H' nx (k1.gr _ YU) (k1.gr _ hhi) hb hB (k1.drop k (by simpa using nx))⟩⟩
end
theorem Aa {α:Type}{P:Nat->α->Prop}:∀n:Nat,(∀i,i<n->∃b,P i b)->∃bs:List α,bs.length=n/\∀(i:Nat) (b:α),bs[i]?=some b->P i b
 | 0,_=>⟨[],rfl,λi b h=>by simp at h⟩
 | n+1,h=>by
  obtain⟨bs,hl,hb⟩:=Aa n λi hi=>h i (by omega)
  obtain⟨b,hP⟩:=h n (by omega);refine⟨bs++[b],by simp[hl],λi c hc=>?_⟩;by_cases hi:i<bs.length
  ·rw[aO hi]at hc;exact hb i c hc
  ·rw[aM (by omega)]at hc;have e:i-bs.length=0:=by
    have:=(aw.mp hc).1;simp at this;omega
   rw[e]at hc;simp at hc;subst hc;rw[show i=n by omega];exact hP
theorem VR {K:aa}{a b:Addr}{xs ys:List V}{g:TG}{te:TE}{vs:List Nat}{σ:L2.St}{H1:Hp}{D:Addr}{Q:VK}(zs:List V) (ha:H1 a=some (.lst xs)) (hb:H1 b=some (.lst ys)) (hD:H1 D=none) (hz:zs.length<=sizeLine) (hx:xs.length=zs.length) (hy:ys.length=zs.length)
  (hs:∀(i:Nat) (x y z:V) (H:Hp) (T:Addr) (H':Hp) (C:V->Hp->Prop),xs[i]?=some x->ys[i]?=some y->zs[i]?=some z->Keeps [] H1 H->H' T=some (.tup [x,y])->Keeps [] H H'->(∀H4,Keeps [] H' H4->C z H4)->g (.ref T) (wipe σ vs) H' λoj H2=>wipe oj vs=wipe σ vs/\te oj H2 C)
  (hd:∀H,Keeps [] H1 H->H D=some (.lst zs)->Q (.ref D) H) :
  W0 (ZA K a b) g Gr te vs σ Q H1 D:=by
 refine P2 (J:=ZA K a b) zs hD hz (λi H hi k=>⟨xs,ys,xs[i]'(by omega),ys[i]'(by omega),dO.of (k.up ha),dO.of (k.up hb),ae _,ae _⟩) (λH k=>⟨xs,ys,dO.of (k.up ha),dO.of (k.up hb),.inl (by omega)⟩) (λi z H v H' C hi k hy' hC=>?_) hd;obtain⟨T,x,y,rfl,hT,rfl,h1,h2⟩:=hy';exact hs i x y z H T _ C (h1 _ (dO.of (k.up ha))) (h2 _ (dO.of (k.up hb))) hi k c0 (Keeps.refl.new hT) λH4 k4=>hC H4 ((Keeps.refl.new hT).trans k4)
section
variable {P:Program}{w:World}{K:aa}{mg:Str->Option Value}{base:Heap}{t:cT}
def iR (l:List Nat):List V:=l.map λ(n:Nat)=>V.int n
def Js (t:cT):Sp:=λvs H Q _=>∃(a lp:Addr) (N:Net) (ps:List Nat),vs=[.ref a,.ref lp]/\gE t H a N/\NOk N/\vp N ps/\H lp=some (.lst (iR ps)) /\
 ∀(l:Addr) (bs:List Addr) (H':Hp),H' l=some (.lst (bs.map V.ref))->bs.length=(fV N ps).length->(∀(j:Nat) (b:Addr) (B:List Bound),bs[j]?=some b->(fV N ps)[j]?=some B->cq t H' b N.clocks.length B)->H l=none->Keeps [] H H'->Q (.ref l) H'
theorem rb (T:Txt K mg t):yy P w K mg base 1 t.fN "bounds_of" ["self", "places"] (Js t):=by
 obtain⟨f,fd,F,M⟩:=T.qW;refine⟨T.ng.cl,f,fd,F.ok jc (λvs H Q E h=>?_) (λgw A outer s H vs Q E hr h=>?_),M,F.binds (λ_ _ _ _ _ _ us hl=>match us,hl with|[_,_],_=>rfl)⟩
 ·obtain⟨a,lp,N,ps,rfl,_⟩:=h;rfl
 obtain⟨a,lp,N,ps,rfl,h⟩:=h;have hu:=cF hr;refine' ⟨?t,?p,?r⟩
 case p =>
  refine' (aD (bj (Bp (own:=[("machine",2),("place",3)]) rfl jc.nd (Pf rfl T.Ci (ag (aV (pv 0) rfl) (ag (pv 1) aC))) (by exact pN rfl) ?NF ?ND ?NG)))
  case NF=>intro _ _ _ _ _;exact(Lh K (yL (n:=2) rfl (iP (cB (i:=2) jc.nd rfl (aX rfl)) (iP (cB (i:=3) jc.nd rfl (aX rfl)) uY))))
  case ND=>intro _ _ _ _ _;exact xx
  case NG=>intro _ _ _ _ _;exact(dw dq (ES K (pv 2) rfl) (pv 3) (λ_ _=>rfl))
 obtain⟨⟨dx,dC,dS,dN,lM,ms,h1,h2,h3,h4,h5,h6,h7⟩,no,ao,hp,q⟩:=h;obtain⟨bs,Nk,QF⟩:=Aa (P:=λi b=>∀x p,ms[i]?=some x->ps[i]?=some p->∃dx dp lb le l,H x=some (.ins t.dD dx (eO (.ref dp) (.ref lb) (.ref le)))/\H lb=some (.lst l)/\nB l (p:Int)=some (.ref b)/\∀B,(fV N ps)[i]?=some B->cq t H b N.clocks.length B) N.machines.length λi hi=>by
  obtain⟨m,hm⟩:∃m,N.machines[i]?=some m:=⟨_,ae hi⟩;obtain⟨x,hx⟩:∃x,ms[i]?=some x:=⟨_,ae (by omega)⟩;obtain⟨p,Ti⟩:∃p,ps[i]?=some p:=⟨_,ae (by rw[ao.al];omega)⟩;obtain⟨dx',dp,lb,le,bl,es,m1,mi,mf⟩:=h7 i _ _ hx hm;have hX:=ao.ap i _ _ hm Ti;obtain⟨b,hb⟩:∃b,bl[p]?=some b:=⟨_,ae (by rw[mf.bl];exact hX)⟩;obtain⟨r,hq⟩:∃r,m.places[p]?=some r:=⟨_,ae hX⟩;refine⟨b,λx' p' e1 e2=>?_⟩;rw[hx]at e1;rw[Ti]at e2;cases e1;cases e2;refine⟨dx',dp,lb,le,_,m1,mi.hb,de (by rw[aR,hb];rfl),λB hB=>?_⟩;have e3:B=r.2:=by
   unfold fV at hB;rw[aR,(List.getElem?_zip_eq_some (z:=(m,p))).mpr ⟨hm,Ti⟩]at hB;simp only[cY,b4]at hB;rw[<-hB,bB,hq];rfl
  rw[e3];exact mf.ba _ _ _ hb hq
 have lz:(fV N ps).length=N.machines.length:=by simp[fV,ao.al]
 have ml:=no.ml;push_cast[h1,T.cN];refine⟨_,dO.of h5,_,dO.of hp,λD hD=>VR (bs.map V.ref) h5 hp hD (by simp[Nk,sizeLine];omega) (by simp[Nk,h6]) (by simp[iR,Nk,ao.al]) ?_ ?_⟩
 ·intro i x y z H1 T1 H2 C hx hy hz k1 g2 k2 hC;refine⟨T1,_,rfl,lR.of g2,rfl,?_⟩;obtain⟨mx,hmx,rfl⟩:∃mx,ms[i]?=some mx/\x = .ref mx:=by
   rw[aR]at hx;cases e:ms[i]? with
   | none=>rw[e]at hx;cases hx
   | some mx=>rw[e]at hx;cases hx;exact⟨mx,rfl,rfl⟩
  obtain⟨p,Ti,rfl⟩:∃p,ps[i]?=some p/\y=V.int (p:Nat):=by
   unfold iR at hy;rw[aR]at hy;cases e:ps[i]? with
   | none=>rw[e]at hy;cases hy
   | some p=>rw[e]at hy;cases hy;exact⟨p,rfl,rfl⟩
  obtain⟨b,hb,rfl⟩:∃b,bs[i]?=some b/\z = .ref b:=by
   rw[aR]at hz;cases e:bs[i]? with
   | none=>rw[e]at hz;cases hz
   | some b=>rw[e]at hz;cases hz;exact⟨b,rfl,rfl⟩
  obtain⟨dx',dp,lb,le,l,f1,f2,f3,_⟩:=QF i b hb mx p hmx Ti;have kk:=k1.trans k2;push_cast[kk.up f1,kk.up f2,f3,T.eN];exact hC H2 Keeps.refl
 ·intro H1 k1 g1;exact q D bs H1 g1 (by rw[Nk,lz]) (λj b B e1 e2=>by
   have hj:j<N.machines.length:=by rw[<-Nk];exact(aw.mp e1).1
   obtain⟨x,hx⟩:∃x,ms[j]?=some x:=⟨_,ae (by omega)⟩;obtain⟨p,Ti⟩:∃p,ps[j]?=some p:=⟨_,ae (by rw[ao.al];omega)⟩;obtain⟨_,_,_,_,_,_,_,_,hB⟩:=QF j b e1 x p hx Ti;exact(hB B e2).up k1) hD k1
end
theorem eI {α β:Type}{f:α->β}{l:List α}{i:Nat}{y:β}(h:(l.map f)[i]?=some y):∃x,l[i]?=some x/\y=f x:=by
 rw[aR]at h;cases e:l[i]? with
 | none=>rw[e]at h;cases h
 | some x=>rw[e]at h;cases h;exact⟨x,rfl,rfl⟩
theorem VS {lo:Int}{g:TG}{te:TE}{vs:List Nat}{σ:L2.St}{H1:Hp}{D:Addr}{Q:VK}(ys:List V) (hD:H1 D=none) (hz:ys.length<=sizeLine)
  (hs:∀(i:Nat) (y:V) (H:Hp) (C:V->Hp->Prop),ys[i]?=some y->Keeps [] H1 H->(∀H4,Keeps [] H H4->C y H4)->g (.int (lo+i)) (wipe σ vs) H λoj H2=>wipe oj vs=wipe σ vs/\te oj H2 C)
  (hd:∀H,Keeps [] H1 H->H D=some (.lst ys)->Q (.ref D) H):W0 (RR lo ys.length) g Gr te vs σ Q H1 D:=by
 refine P2 (J:=RR lo ys.length) ys hD hz (λi H hi _=>hi) (λH _=>aQ _) (λi y H x H' C hi k hy hC=>?_) hd;obtain⟨rfl,rfl⟩:=hy;exact hs i y _ C hi k hC
theorem P0 {K:aa}{a:Addr}{xs:List V}{g:TG}{te:TE}{vs:List Nat}{σ:L2.St}{H1:Hp}{D:Addr}{Q:VK}(ys:List V) (ha:dO K H1 a xs) (hx:xs.length=ys.length) (hD:H1 D=none) (hz:ys.length<=sizeLine)
  (hk:∀H,Keeps [] H1 H->dO K H a xs)
  (hs:∀(i:Nat) (x y:V) (H:Hp) (C:V->Hp->Prop),xs[i]?=some x->ys[i]?=some y->Keeps [] H1 H->(∀H4,Keeps [] H H4->C y H4)->g x (wipe σ vs) H λoj H2=>wipe oj vs=wipe σ vs/\te oj H2 C)
  (hd:∀H,Keeps [] H1 H->H D=some (.lst ys)->Q (.ref D) H):W0 (Rp K a) g Gr te vs σ Q H1 D:=by
 refine P2 (J:=Rp K a) ys hD hz (λi H hi k=>⟨xs,xs[i]'(by omega),hk H k,ae _⟩) (λH k=>⟨xs,hk H k,by omega⟩) (λi y H x H' C hi k hy hC=>?_) hd;obtain⟨rfl,hy⟩:=hy;exact hs i x y _ C (hy xs (hk _ k)) hi k hC
theorem gU {K:aa}{a:Addr}{xs:List V}{g:TG}{tb:TS}{D:Ends}{σ:L2.St}{H:Hp}(Pv:Nat->L2.St->Hp->Prop) (h0:Pv 0 σ H) (hl:∀i σ H,i<=xs.length->Pv i σ H->dO K H a xs)
  (hs:∀i x σ H,xs[i]?=some x->Pv i σ H->g x σ H λoj H2=>tb { D with nx:=Pv (i+1),ct:=Pv (i+1),bk:=D.nx } oj H2) (hd:∀σ H,Pv xs.length σ H->D.nx σ H):C5 (Rp K a) g tb D σ H:=QX Pv h0 hl hs hd
theorem Fv {lo:Int}{n:Nat}{g:TG}{tb:TS}{D:Ends}{σ:L2.St}{H:Hp}(Pv:Nat->L2.St->Hp->Prop) (h0:Pv 0 σ H)
  (hs:∀i σ H,i<n->Pv i σ H->g (.int (lo+i)) σ H λoj H2=>tb { D with nx:=Pv (i+1),ct:=Pv (i+1),bk:=D.nx } oj H2) (hd:∀σ H,Pv n σ H->D.nx σ H):C5 (RR lo n) g tb D σ H:=Nq Pv h0 hs hd
theorem Rn (l:List Nat):(l.map λ(c:Nat)=>V.int c).all xO=true:=by
 rw[zA,bC];exact λ_ _=>rfl
theorem Qn (c:Nat) (l:List Nat):Xn (.int c) (l.map λ(c:Nat)=>V.int c)=l.contains c:=by
 unfold Xn;rw[W7,bQ,cx,aS];constructor
 ·rintro⟨x,hx,h⟩;have h:((x:Int)==(c:Int))=true:=h;have:x=c:=by have:=eq_of_beq h;omega
  rw[<-this];exact hx
 ·intro h;exact⟨c,h,show((c:Int)==(c:Int))=true from beq_self_eq_true _⟩
section
variable {P:Program}{w:World}{K:aa}{mg:Str->Option Value}{base:Heap}{t:cT}
def Jn (t:cT):Sp:=λvs H Q _=>∃(a:Addr) (N:Net) (ps:List Nat),vs=[.ref a,.int (enc 8 ps:Nat)]/\gE t H a N/\NOk N/\vp N ps/\∀(l:Addr) (H':Hp),H' l=some (.lst (iR ps))->H l=none->Keeps [] H H'->Q (.ref l) H'
theorem Ab (T:Txt K mg t):vm P w K mg base 2 "places_of" ["told", "spot"] (Jn t):=by
 obtain⟨f,fd,F,M⟩:=T.zT;refine⟨f,fd,F.ok rH (λvs H Q E h=>?_) (λgw A outer s H vs Q E hr h=>?_),M,F.kp,F.binds (λ_ _ _ _ _ _ us hl=>match us,hl with|[_,_],_=>rfl)⟩
 ·obtain⟨a,N,ps,rfl,_⟩:=h;rfl
 obtain⟨a,N,ps,rfl,h⟩:=h;have hu:=cF hr;refine' ⟨?t,?p,?r⟩
 case p =>
  refine' (aD (bj (Bp (own:=[("machine",2)]) rfl rH.nd (qP rfl T.mY (ag (bT cO rfl T.eY dR (ag (aV (pv 0) rfl) aC)) aC)) (by exact pN rfl) ?NF ?ND ?NG)))
  case NF=>intro _ _ _ _ _;exact(cB (i:=2) rH.nd rfl (aX rfl))
  case ND=>intro _ _ _ _ _;exact xx
  case NG=>intro _ _ _ _ _;exact(eG (Cb T) (hr.mono (by decide)) rfl (ag (pv 1) (ag (pv 2) aC)))
 obtain⟨⟨dx,dC,dS,dN,lM,ms,h1,h2,h3,h4,h5,h6,h7⟩,no,ao,q⟩:=h;have ml:=no.ml;have hl:(iR ps).length=N.machines.length:=by simp[iR,ao.al]
 push_cast[h1,h5,T.cN];refine⟨by omega,by simp;omega,λD hD=>?_⟩;rw[show((ms.map V.ref).length:Int).toNat=(iR ps).length by simp[hl,h6]];refine VS (iR ps) hD (by rw[hl];simp[sizeLine];omega) ?_ ?_
 ·intro i y H1 C hi k1 hC;obtain⟨p,hp,rfl⟩:=eI hi;push_cast;refine⟨enc 8 ps,i,by simp,?_⟩;rw[LK i (ao.p8 no),bB,hp];exact hC _ Keeps.refl
 ·intro H1 k1 g1;exact q D H1 g1 hD k1
structure yo (t:cT) (H:Hp) (nc:Nat) (as:List Addr) (es:List Edge):Prop where
 len:as.length=es.length
 at_:∀(j:Nat) (a:Addr) (e:Edge),as[j]?=some a->es[j]?=some e->∃mi ei,mI t H a mi ei nc e
structure ym (t:cT) (H:Hp) (nc:Nat) (as:List Addr) (bs:List (List Bound)):Prop where
 len:as.length=bs.length
 at_:∀(j:Nat) (a:Addr) (b:List Bound),as[j]?=some a->bs[j]?=some b->cq t H a nc b
theorem yo.up {t:cT}{H H':Hp}(k:Keeps [] H H'){nc:Nat}{as:List Addr}{es:List Edge}(h:yo t H nc as es):yo t H' nc as es:=⟨h.len,λj a e h1 h2=>let ⟨mi,ei,q⟩:=h.at_ j a e h1 h2;⟨mi,ei,q.up k⟩⟩
theorem ym.up {t:cT}{H H':Hp}(k:Keeps [] H H'){nc:Nat}{as:List Addr}{es:List (List Bound)}(h:ym t H nc as es):ym t H' nc as es:=⟨h.len,λj a e h1 h2=>(h.at_ j a e h1 h2).up k⟩
def nI (es:List Edge):List Nat:=es.flatMap (·.sets)
def zD (x:fH):List V:=(yr x).map V.int
structure Ij (t:cT) (K:aa) (H:Hp) (N:Net) (mv:Mv) (sp le lb:Addr) (as bs:List Addr):Prop where
 st:lR K H sp (zD mv.step)
 le:H le=some (.lst (as.map V.ref))
 ed:yo t H N.clocks.length as mv.es
 lb:H lb=some (.lst (bs.map V.ref))
 pl:ym t H N.clocks.length bs (fV N mv.to_)
def Fw (mv:Mv) (sp le lb:Addr):List (Str×V):=fM (.ref sp) (.ref le) (.bl mv.es.isEmpty) (.int (enc 8 mv.to_ * 1048576:Nat)) (.ref lb) (.int (enc 32 (gD (nI mv.es)):Nat))
def jw (t:cT) (K:aa) (H:Hp) (a:Addr) (N:Net) (mv:Mv):Prop:=∃dx sp le lb as bs,H a=some (.ins t.fO dx (Fw mv sp le lb))/\Ij t K H N mv sp le lb as bs
theorem lR.up {K:aa}{H H':Hp}(k:Keeps [] H H'){a:Addr}{xs:List V}(h:lR K H a xs):lR K H' a xs:=by
 rcases h with(h|⟨o,h⟩)|h
 ·exact .inl (.inl (k.up h))
 ·exact .inl (.inr ⟨o,k.up h⟩)
 ·exact .inr h
theorem Ij.up {t:cT}{K:aa}{H H':Hp}(k:Keeps [] H H'){N:Net}{mv:Mv}{sp le lb:Addr}{as bs:List Addr}(h:Ij t K H N mv sp le lb as bs):Ij t K H' N mv sp le lb as bs :=
 ⟨lR.up k h.st,k.up h.le,h.ed.up k,k.up h.lb,h.pl.up k⟩
theorem jw.up {t:cT}{K:aa}{H H':Hp}(k:Keeps [] H H'){a:Addr}{N:Net}{mv:Mv}(h:jw t K H a N mv):jw t K H' a N mv:=by
 obtain⟨dx,sp,le,lb,as,bs,h1,h2⟩:=h;exact⟨dx,sp,le,lb,as,bs,k.up h1,h2.up k⟩
def Ez (t:cT) (K:aa):Sp:=λvs H Q _=>∃(a:Addr) (N:Net) (mv:Mv) (c v:Nat),vs=[.ref a,.int c,.int v]/\jw t K H a N mv/\Q (.int (bY mv c v:Nat)) H
theorem wR (T:Txt K mg t):yy P w K mg base 1 t.fO "shown_after" ["self", "clock", "shown"] (Ez t K):=by
 obtain⟨f,fd,F,M⟩:=T.pB;refine⟨T.j7.cl,f,fd,F.ok nY (λvs H Q E h=>?_) (λgw A outer s H vs Q E hr h=>?_),M,F.binds (λ_ _ _ _ _ _ us hl=>match us,hl with|[_,_,_],_=>rfl)⟩
 ·obtain⟨a,N,mv,c,v,rfl,_⟩:=h;rfl
 obtain⟨a,N,mv,c,v,rfl,h⟩:=h;have hu:=cF hr;refine⟨_,(aj (cS (i7 (aV (pv 0) rfl)) (aD (bj (bT (DV rfl) rfl T.Cj Rb (ag (eF ku (pv 2) bf) (ag (b9 T.j6 rfl) aC))))) bL) (aj (fU PassesOwn.never rfl (fE (aV (pv 0) rfl)) (cB (i:=3) nY.nd rfl (aX rfl)) (aD (cS (br uZ (pv 1) (aV (pv 3) rfl) (by with_unfolding_all rfl)) (aD (bj bf)) bL))) (aD (bj (pv 2))))),?_⟩;obtain⟨⟨dx,sp,le,lb,as,bs,h1,hM⟩,q⟩:=h;push_cast[Fw,h1,T.pk];by_cases he:mv.es=[]
 ·rw[if_pos (by rw[he];rfl)];have e:bY mv c v=min (v+1) 16:=by unfold bY;rw[if_pos he]
  rw[e]at q;rw[show(if (16:Int)<(v:Int)+1 then(16:Int) else(v:Int)+1)=((min (v+1) 16:Nat):Int) by split<;>omega];exact q
 ·rw[if_neg (by rw[gs];exact he)];have e:bY mv c v=if (mv.es.any λe=>e.sets.contains c)=true then 0 else v:=by unfold bY;rw[if_neg he]
  rw[e]at q;refine⟨⟨_,dO.of hM.le⟩,gU (xs:=as.map V.ref) (λi σ H'=>H'=H/\(∃x,σ=[some (.ref a),some (.int c),some (.int v),x])/\∀e∈mv.es.take i,¬e.sets.contains c=true) ⟨rfl,⟨_,rfl⟩,by simp⟩ (λi σ H' _ ⟨e,_⟩=>by rw[e];exact dO.of hM.le) ?_ ?_⟩
  ·rintro i x σ H' hi ⟨rfl,⟨z,rfl⟩,hn⟩;obtain⟨b,hb,rfl⟩:=eI hi;obtain⟨ed,CU⟩:∃ed,mv.es[i]?=some ed:=⟨_,ae (by rw[<-hM.ed.len];exact(aw.mp hb).1)⟩;obtain⟨mi,ei,dx',bb,ls,e1,e2,e3⟩:=hM.ed.at_ i b ed hb CU;push_cast[e1,T.ky];refine⟨ls,_,rfl,.inl (dO.of e3),rfl,Rn _,?_⟩;rw[Qn];push_cast[if_false,aE];by_cases hc:ed.sets.contains c=true
   ·rw[if_pos hc];rw[if_pos (cx.mpr ⟨ed,aI CU,hc⟩)]at q;exact q
   ·rw[if_neg hc];intro e' h';rw[bX CU]at h';rcases aN.mp h' with z|z
    ·exact hn e' z
    ·rw[aL]at z;rw[z];exact hc
  ·rintro σ H' ⟨rfl,⟨z,rfl⟩,hn⟩;push_cast;rw[ax,hM.ed.len,bP]at hn;rw[if_neg (by rw[cx];rintro⟨e',h1,h2⟩;exact hn e' h1 h2)]at q;exact q
def GP (t:cT) (K:aa):Sp:=λvs H Q _=>∃(a:Addr) (N:Net) (mv:Mv) (c v:Nat),vs=[.ref a,.int c,.int v]/\jw t K H a N mv/\c<N.clocks.length/\v<=16/\Q (.bl (dG N mv c v)) H
theorem yf (T:Txt K mg t):yy P w K mg base 2 t.fO "allowed_by" ["self", "clock", "shown"] (GP t K):=by
 obtain⟨f,fd,F,M⟩:=T.qf;refine⟨T.j7.cl,f,fd,F.ok iI (λvs H Q E h=>?_) (λgw A outer s H vs Q E hr h=>?_),M,F.binds (λ_ _ _ _ _ _ us hl=>match us,hl with|[_,_,_],_=>rfl)⟩
 ·obtain⟨a,N,mv,c,v,rfl,_⟩:=h;rfl
 obtain⟨a,N,mv,c,v,rfl,h⟩:=h;have hu:=cF hr;refine⟨_,(aj (bO (i:=3) iI.nd rfl (aX rfl) (gP (wR T) (hr.mono (by decide)) (pv 0) (ag (pv 1) (ag (pv 2) aC)))) (aj (fU PassesOwn.never rfl (fE (aV (pv 0) rfl)) (cB (i:=4) iI.nd rfl (aX rfl)) (aD (cS (qu (i7 (gP (qF T) (hr.mono (by decide)) (aV (pv 4) rfl) (ag (pv 1) (ag (pv 2) aC))))) (aD (bj jq)) bL))) (aj (fU PassesOwn.never rfl (fE (aV (pv 0) rfl)) (cB (i:=5) iI.nd rfl (aX rfl)) (aD (cS (qu (i7 (gP (qF T) (hr.mono (by decide)) (pv 5) (ag (pv 1) (ag (pv 3) aC))))) (aD (bj jq)) bL))) (aD (bj jq))))),?_⟩;obtain⟨⟨dx,sp,le,lb,as,bs,h1,hM⟩,hc,hv,q⟩:=h;have hv2:=Ur mv c v hv;have CW:=h1;unfold Fw at CW;push_cast[CW,T.pk];refine⟨a,N,mv,c,v,rfl,⟨dx,sp,le,lb,as,bs,h1,hM⟩,?_⟩;push_cast[CW,T.pk];refine⟨⟨_,dO.of hM.le⟩,gU (xs:=as.map V.ref) (λi σ H'=>H'=H/\(∃x,σ=[some (.ref a),some (.int c),some (.int v),some (.int (bY mv c v:Nat)),x,none])/\∀e∈mv.es.take i,gR e.when_ c v=true) ⟨rfl,⟨_,rfl⟩,by simp⟩ (λi σ H' _ ⟨e,_⟩=>by rw[e];exact dO.of hM.le) ?_ ?_⟩
 ·rintro i x σ H' hi ⟨rfl,⟨z,rfl⟩,hn⟩;obtain⟨b,hb,rfl⟩:=eI hi;obtain⟨ed,CU⟩:∃ed,mv.es[i]?=some ed:=⟨_,ae (by rw[<-hM.ed.len];exact(aw.mp hb).1)⟩;obtain⟨mi,ei,dx',bb,ls,e1,e2,e3⟩:=hM.ed.at_ i b ed hb CU;obtain⟨Zp,lo,N8,f1,f2,f3,f4⟩:=e2;push_cast[e1,f1,T.ky,T.j5];refine⟨bb,N.clocks.length,ed.when_,c,v,rfl,⟨Zp,lo,N8,f1,f2,f3,f4⟩,hc,hv,?_⟩;push_cast;by_cases hh:gR ed.when_ c v=true
  ·rw[if_neg (by rw[hh];exact nofun)];intro e' h';rw[bX CU]at h';rcases aN.mp h' with z|z
   ·exact hn e' z
   ·rw[aL]at z;rw[z];exact hh
  ·rw[if_pos (by rw[bz.mpr hh];rfl)];have e:dG N mv c v=false:=by
    unfold dG;rw[IE];left;rw[<-AB,bC];exact λz=>hh (z ed (aI CU))
   rw[e]at q;exact q
 ·rintro σ H' ⟨rfl,⟨z,rfl⟩,hn⟩;rw[ax,hM.ed.len,bP]at hn;push_cast[CW,T.pk];have ea:(mv.es.all λe=>gR e.when_ c v)=true:=bC.mpr hn;unfold dG at q;rw[ea,fP]at q;refine⟨⟨_,dO.of hM.lb⟩,gU (xs:=bs.map V.ref) (λi σ H2=>H2=H'/\(∃x y,σ=[some (.ref a),some (.int c),some (.int v),some (.int (bY mv c v:Nat)),x,y])/\∀e∈(fV N mv.to_).take i,gR e c (bY mv c v)=true) ⟨rfl,⟨_,_,rfl⟩,by simp⟩ (λi σ H2 _ ⟨e,_⟩=>by rw[e];exact dO.of hM.lb) ?_ ?_⟩
  ·rintro i x σ H' hi ⟨rfl,⟨z,y,rfl⟩,hn⟩;obtain⟨b,hb,rfl⟩:=eI hi;obtain⟨ed,CU⟩:∃ed,(fV N mv.to_)[i]?=some ed:=⟨_,ae (by rw[<-hM.pl.len];exact(aw.mp hb).1)⟩;obtain⟨Zp,lo,N8,f1,f2,f3,f4⟩:=hM.pl.at_ i b ed hb CU;push_cast[f1,T.j5];refine⟨b,N.clocks.length,ed,c,bY mv c v,rfl,⟨Zp,lo,N8,f1,f2,f3,f4⟩,hc,hv2,?_⟩;push_cast;by_cases hh:gR ed c (bY mv c v)=true
   ·rw[if_neg (by rw[hh];exact nofun)];intro e' h';rw[bX CU]at h';rcases aN.mp h' with z|z
    ·exact hn e' z
    ·rw[aL]at z;rw[z];exact hh
   ·rw[if_pos (by rw[bz.mpr hh];rfl)];have e:((fV N mv.to_).all λbs=>gR bs c (bY mv c v))=false:=by
     rw[<-AB,bC];exact λz=>hh (z ed (aI CU))
    rw[e]at q;exact q
  ·rintro σ H' ⟨rfl,⟨z,y,rfl⟩,hn⟩;rw[ax,hM.pl.len,bP]at hn;push_cast;rw[bC.mpr hn]at q;exact q
end
theorem bitAnd_nn (a b:Nat):Builtin.bitAnd (a:Int) (b:Int)=((a &&& b:Nat):Int):=by
 unfold Builtin.bitAnd;rw[decide_eq_true (by omega:(0:Int)<=a),decide_eq_true (by omega:(0:Int)<=b)];rfl
theorem bitAnd_not (a b:Nat):Builtin.bitAnd (a:Int) (Builtin.bitNot (b:Int))=((a-(a &&& b):Nat):Int):=by
 unfold Builtin.bitAnd;rw[decide_eq_true (by omega:(0:Int)<=a),decide_eq_false (by unfold Builtin.bitNot;omega:¬(0:Int)<=Builtin.bitNot b)];have e:(Builtin.bitNot (Builtin.bitNot (b:Int))).toNat=b:=by unfold Builtin.bitNot;omega
 show(a:Int)-(((a:Int).toNat &&& (Builtin.bitNot (Builtin.bitNot (b:Int))).toNat:Nat):Int)=_;rw[e,show(a:Int).toNat=a from rfl];have:=Nat.and_le_left (n:=a) (m:=b);omega
theorem PM (cs:List Nat) (c:Nat):Builtin.bitAnd ((enc 32 (gD cs):Nat):Int) (Builtin.bitNot (31 * 2 ^ (5 * (c:Int)).toNat))=((enc 32 (gD (cs++[c])):Nat):Int):=by
 have e:(31:Int) * 2 ^ (5 * (c:Int)).toNat=((31 * 32 ^ c:Nat):Int):=by
  rw[show(5 * (c:Int)).toNat=5 * c by omega,show(32:Nat) ^ c=2 ^ (5 * c) by rw[L4]];simp
 rw[e,bitAnd_not,M3]
theorem GQ (es:List Edge) (e:Edge):nI (es++[e])=nI es++e.sets:=by simp[nI]
theorem Fc {H:Hp}{a b C C' dx dx':Addr}{fs RN:List (Str×V)}(h:H a=some (.ins C dx fs)) (h':H b=some (.ins C' dx' RN)) (n:fs.length≠RN.length):a≠b:=aK h h' λz=>by
 injection z with _ _ z
 exact n (congrArg jT z)
section
variable {P:Program}{w:World}{K:aa}{mg:Str->Option Value}{base:Heap}{t:cT}
def Jp (t:cT) (K:aa):Sp:=λvs H Q _=>∃(a dx sp le lb:Addr) (N:Net) (mv:Mv) (as bs:List Addr),vs=[.ref a,.ref sp,.ref le,.int (enc 8 mv.to_:Nat),.ref lb]/\H a=some (.ins t.fO dx [])/\Ij t K H N mv sp le lb as bs/\enc 8 mv.to_<512/\(∀e∈mv.es,∀c∈e.sets,c<4) /\
 ∀H':Hp,H' a=some (.ins t.fO dx (Fw mv sp le lb))->Keeps [a] H H'->Q .gi H'
theorem HR (T:Txt K mg t):IA P w K mg base 1 t.fO "Move" ["self", "step", "edges", "spot", "place_bounds"] (Jp t K):=by
 obtain⟨f,fd,F,M,g⟩:=T.zY;refine⟨f,fd,F.ok rL (λvs H Q E h=>?_) (λgw A outer s H vs Q E hr h=>?_),M,g,F.binds (λ_ _ _ _ _ _ us hl=>match us,hl with|[_,_,_,_,_],_=>rfl)⟩
 ·obtain⟨a,dx,sp,le,lb,N,mv,as,bs,rfl,_⟩:=h;rfl
 obtain⟨a,dx,sp,le,lb,N,mv,as,bs,rfl,h⟩:=h;have hu:=cF hr;refine⟨_,(aj (bW (pv 0) (pv 1) rfl) (aj (bW (pv 0) (pv 2) rfl) (aj (bW (pv 0) (rO (t8 hu) (pv 2) (c9 aC) (bN _)) rfl) (aj (bW (pv 0) (eF Bu (pv 3) (b9 T.fw rfl)) rfl) (aj (bW (pv 0) (pv 4) rfl) (aj (bW (pv 0) (b9 T.eX rfl) rfl) (aD (fU PassesOwn.never rfl (fE (pv 2)) (cB (i:=5) rL.nd rfl (aX rfl)) (aD (fU PassesOwn.never rfl (fE (aV (pv 5) rfl)) (cB (i:=6) rL.nd rfl (aX rfl)) (aD (bW (pv 0) (eF t9 (aV (pv 0) rfl) (sM U2 (eF Bu (b9 T.iM rfl) (eF JN (b9 T.gQ rfl) (pv 6))))) rfl)))))))))))),?_⟩;obtain⟨h1,hM,hs,hc,q⟩:=h;push_cast[h1,T.pk];intro p hp;generalize e1:upd H a _=H1 at hp⊢;obtain⟨g1,k1⟩:=wr e1;generalize e2:upd H1 p _=H2;obtain⟨g2,k2⟩:=al e2 hp;have m1:=k1.bM hM.le (aK hM.le h1 nofun);push_cast[k2.up g1,k2.up m1,g2,T.pk,if_false,aE,Ay];refine⟨⟨by decide,by decide,by omega⟩,?_⟩;generalize e3:upd H2 a _=H3;obtain⟨g3,k3⟩:=wr e3;have kk:Keeps [a] H H3:=(k1.trans k2.any).trans k3;have eE:as.isEmpty=mv.es.isEmpty:=by
  have:=hM.ed.len;cases as<;>cases h:mv.es<;>simp_all
 have eT:((enc 8 mv.to_:Nat):Int) * 2 ^ (20:Int).toNat=((enc 8 mv.to_ * 1048576:Nat):Int):=by
  rw[show(20:Int).toNat=20 from rfl];omega
 have nle:le≠a:=aK hM.le h1 nofun
 rw[eE,eT]at g3;refine⟨⟨_,dO.of (kk.bM hM.le nle)⟩,gU (xs:=as.map V.ref) (λi σ H'=>(∃x y,σ=[some (.ref a),some (.ref sp),some (.ref le),some (.int (enc 8 mv.to_:Nat)),some (.ref lb),x,y])/\H' a=some (.ins t.fO dx (fM (.ref sp) (.ref le) (.bl mv.es.isEmpty) (.int (enc 8 mv.to_ * 1048576:Nat)) (.ref lb) (.int (enc 32 (gD (nI (mv.es.take i))):Nat))))/\Keeps [a] H H')
  ⟨⟨_,_,rfl⟩,by rw[g3,jQ,show nI []=[] from rfl,Qd];rfl,kk⟩ (λi σ H' _ ⟨_,_,k⟩=>dO.of (k.bM hM.le nle)) ?_ ?_⟩
 ·rintro i x σ H' hi ⟨⟨x1,x2,rfl⟩,hg,k⟩;obtain⟨b,hb,rfl⟩:=eI hi;obtain⟨ed,CU⟩:∃ed,mv.es[i]?=some ed:=⟨_,ae (by rw[<-hM.ed.len];exact(aw.mp hb).1)⟩;obtain⟨mi,ei,dx',bb,ls,e1',e2',WE⟩:=hM.ed.at_ i b ed hb CU;have Ys:ls≠a:=aK WE h1 nofun
  have hcc:=hc ed (aI CU);push_cast[k.bM e1' (Fc e1' h1 (by simp[fl])),T.ky];refine⟨⟨_,dO.of (k.bM WE Ys)⟩,gU (xs:=ed.sets.map λ(c:Nat)=>V.int c) (λj σ H'=>(∃y,σ=[some (.ref a),some (.ref sp),some (.ref le),some (.int (enc 8 mv.to_:Nat)),some (.ref lb),some (.ref b),y])/\H' a=some (.ins t.fO dx (fM (.ref sp) (.ref le) (.bl mv.es.isEmpty) (.int (enc 8 mv.to_ * 1048576:Nat)) (.ref lb) (.int (enc 32 (gD (nI (mv.es.take i)++ed.sets.take j)):Nat))))/\Keeps [a] H H')
   ⟨⟨_,rfl⟩,by simpa using hg,k⟩ (λj σ H' _ ⟨_,_,k⟩=>dO.of (k.bM WE Ys)) ?_ ?_⟩
  ·rintro j x σ H2 hj ⟨⟨y,rfl⟩,Nj,k2⟩;obtain⟨c,hcj,rfl⟩:=eI hj;have c4:=hcc c (aI hcj);push_cast[Nj,T.pk];refine⟨.inl ⟨by decide,by decide⟩,⟨by omega,by omega,by decide⟩,?_⟩;generalize e9:upd H2 a _=H9;obtain⟨g9,k9⟩:=wr e9;refine⟨?_,k2.trans k9⟩;rw[PM,bX hcj,cE]
  ·rintro σ H2 ⟨⟨y,rfl⟩,Nj,k2⟩;refine⟨⟨_,_,rfl⟩,?_,k2⟩;rw[Nj,ax,bP,bX CU,GQ]
 ·rintro σ H' ⟨⟨x1,x2,rfl⟩,hg,k⟩;rw[ax,hM.ed.len,bP]at hg;exact q H' hg k
end
theorem TK {K:aa}{a:Addr}{xs:List V}{g:TG}{tb:TS}{D:Ends}{σ:L2.St}{H:Hp}(Pv:Nat->L2.St->Hp->Prop) (h0:Pv 0 σ H) (hl:∀i σ H,i<=xs.length->Pv i σ H->dO K H a xs)
  (hs:∀i x σ H,xs.reverse[i]?=some x->Pv i σ H->g x σ H λoj H2=>tb { D with nx:=Pv (i+1),ct:=Pv (i+1),bk:=D.nx } oj H2) (hd:∀σ H,Pv xs.length σ H->D.nx σ H):C5 (Itv K a xs.length) g tb D σ H:=by
 refine⟨λi m σ H=>m=xs.length-i/\i<=xs.length/\Pv i σ H,⟨xs.length,by simp,ck _,h0⟩,?_⟩;rintro i m σ H ⟨rfl,hi,p⟩;have q:=hl i σ H hi p;by_cases hX:i<xs.length
 ·refine .inr ⟨⟨hX,xs,xs[xs.length-1-i],q,ae _⟩,Pv (i+1),λfK H' p'=>⟨xs.length-(i+1),by omega,rfl,hX,p'⟩,λx H' y=>?_⟩;obtain⟨e,y⟩:=y;subst e;refine hs i x σ _ ?_ p;rw[mZ hX];exact y xs q
 ·have e:i=xs.length:=by omega
  subst e;exact .inl ⟨aQ _,hd σ H p⟩
def ig (ps:List Nat) (l:List (Nat×Edge)):List Nat:=l.foldl (λps x=>ps.set x.1 x.2.to_) ps
theorem GR (ps:List Nat) (l:List (Nat×Edge)) (x:Nat×Edge):ig ps (l++[x])=(ig ps l).set x.1 x.2.to_:=by simp[ig]
theorem Ju (l:List (Nat×Edge)):∀ps:List Nat,(ig ps l).length=ps.length:=by
 induction l with
 | nil=>intro ps;rfl
 | cons x l ih=>intro ps;show(ig (ps.set _ _) l).length=_;rw[ih,tL]
theorem Nd (l:List Nat) (i v:Nat):(iR l).set i (.int v)=iR (l.set i v):=by unfold iR;rw[List.map_set]
structure zu (t:cT) (H:Hp) (nc:Nat) (as:List Addr) (l:List (Nat×Edge)):Prop where
 len:as.length=l.length
 at_:∀(j:Nat) (a:Addr) (x:Nat×Edge),as[j]?=some a->l[j]?=some x->∃ei,mI t H a x.1 ei nc x.2
theorem zu.up {t:cT}{H H':Hp}(k:Keeps [] H H'){nc:Nat}{as:List Addr}{es:List (Nat×Edge)}(h:zu t H nc as es):zu t H' nc as es:=⟨h.len,λj a e h1 h2=>let ⟨ei,q⟩:=h.at_ j a e h1 h2;⟨ei,q.up k⟩⟩
theorem zu.plain {t:cT}{H:Hp}{nc:Nat}{as:List Addr}{l:List (Nat×Edge)}(h:zu t H nc as l):yo t H nc as (l.map (·.2)):=⟨by rw[ax];exact h.len,λj a e h1 h2=>by
 obtain⟨x,hx,rfl⟩:=eI h2;obtain⟨ei,q⟩:=h.at_ j a x h1 hx;exact⟨_,_,q⟩⟩
theorem Km {N:Net}(n:NOk N){ps:List Nat}(h:vp N ps):enc 8 ps<512:=by
 refine bh (Fx (h.p8 n)) ?_
 calc 8 ^ ps.length<=8 ^ 3:=oh (by omega) (by rw[h.al];exact n.ml)
  _=512:=by decide
section
variable {P:Program}{w:World}{K:aa}{mg:Str->Option Value}{base:Heap}{t:cT}
def Jq (t:cT) (K:aa):Sp:=λvs H Q _=>∃(a lp sp le:Addr) (N:Net) (ps:List Nat) (x:fH) (l:List (Nat×Edge)) (as:List Addr),vs=[.ref a,.ref lp,.ref sp,.ref le]/\gE t H a N/\NOk N/\vp N ps/\H lp=some (.lst (iR ps))/\lR K H sp (zD x) /\
 H le=some (.lst (as.map V.ref))/\zu t H N.clocks.length as l/\(∀y∈l,y.1<N.machines.length/\∀c∈y.2.sets,c<4)/\vp N (ig ps l) /\
 ∀(b:Addr) (H':Hp),jw t K H' b N ⟨x,l.map (·.2),ig ps l⟩->H b=none->Keeps [] H H'->Q (.ref b) H'
theorem uR (T:Txt K mg t):vm P w K mg base 3 "made_move" ["told", "places", "step", "edges"] (Jq t K):=by
 obtain⟨f,fd,F,M⟩:=T.zU;refine⟨f,fd,F.ok jE (λvs H Q E h=>?_) (λgw A outer s H vs Q E hr h=>?_),M,F.kp,F.binds (λ_ _ _ _ _ _ us hl=>match us,hl with|[_,_,_,_],_=>rfl)⟩
 ·obtain⟨a,lp,sp,le,N,ps,x,l,as,rfl,_⟩:=h;rfl
 obtain⟨a,lp,sp,le,N,ps,x,l,as,rfl,h⟩:=h;have hu:=cF hr;refine⟨_,(aj (bO (i:=4) jE.nd rfl (aX rfl) (Dx FH rfl T.wW LV (ag (pv 1) aC))) (aj (fU PassesOwn.never rfl (fE (pv 3)) (cB (i:=5) jE.nd rfl (aX rfl)) (aD (JA (aV (pv 5) rfl) (JB (pv 4) (aV (pv 5) rfl) set_list)))) (aj (bO (i:=6) jE.nd rfl (aX rfl) bf) (aj (fU PassesOwn.never rfl (G3 rfl T.kI (ag (pv 4) aC)) (cB (i:=7) jE.nd rfl (aX rfl)) (aD (bO (i:=6) jE.nd rfl (aX rfl) (eF ku (eF Bu (pv 6) (b9 T.iL rfl)) (pv 7))))) (aD (bj (vK (HR T) (hr.mono (by decide)) rfl (ag (pv 2) (ag (pv 3) (ag (pv 6) (ag (gP (rb T) (hr.mono (by decide)) (pv 0) (ag (pv 4) aC)) aC))))))))))),?_⟩;obtain⟨hT,no,ao,hp,F9,hle,hE,hl,ao2,q⟩:=h;push_cast;refine⟨_,.inl (dO.of hp),λp1 AK=>?_⟩;generalize e1:upd H p1 _=H1;obtain⟨g1,k1⟩:=al e1 AK;have nle:le≠p1:=a6 hle AK;refine⟨⟨_,dO.of (k1.up hle)⟩,gU (xs:=as.map V.ref) (λi σ H'=>(∃x,σ=[some (.ref a),some (.ref lp),some (.ref sp),some (.ref le),some (.ref p1),x,none,none])/\H' p1=some (.lst (iR (ig ps (l.take i))))/\Keeps [p1] H1 H') ⟨⟨_,rfl⟩,g1,Keeps.refl⟩ (λi σ H' _ ⟨_,_,k⟩=>dO.of (k.bM (k1.up hle) nle)) ?_ ?_⟩
 ·rintro i y σ H' hi ⟨⟨z,rfl⟩,hg,k⟩;obtain⟨b,hb,rfl⟩:=eI hi;obtain⟨ed,CU⟩:∃ed,l[i]?=some ed:=⟨_,ae (by rw[<-hE.len];exact(aw.mp hb).1)⟩;obtain⟨ei,dx',bb,ls,f1,f2,f3⟩:=hE.at_ i b ed hb CU;have hm:=(hl ed (aI CU)).1;have fb:=k.bM (k1.up f1) (aK (k1.up f1) g1 nofun);have len:(iR (ig ps (l.take i))).length=N.machines.length:=by simp[iR,Ju,ao.al]
  push_cast[fb,hg,T.ky,len,xG hm];generalize e2:upd H' p1 _=H2;obtain⟨g2,k2⟩:=wr e2;refine⟨?_,k.trans k2⟩;rw[bX CU,GR,Nd]
 ·rintro σ H' ⟨⟨z,rfl⟩,hg,k⟩;rw[ax,hE.len,bP]at hg;have kk:Keeps [] H H':=k1.drop k (by simpa using AK);push_cast;refine⟨_,dO.of hg,TK (xs:=iR (ig ps l)) (λi σ H2=>H2=H'/\∃y,σ=[some (.ref a),some (.ref lp),some (.ref sp),some (.ref le),some (.ref p1),z,some (.int (((ig ps l).reverse.take i).foldl (λn x=>n * 8+x) 0:Nat)),y]) ⟨rfl,_,rfl⟩ (λi σ H2 _ ⟨e,_⟩=>by rw[e];exact dO.of hg) ?_ ?_⟩
  ·rintro i y σ H2 hi ⟨rfl,y',rfl⟩;have hi:(iR (ig ps l).reverse)[i]?=some y:=by
    unfold iR at hi⊢;rw[Rx];exact hi
   obtain⟨pp,hpp,rfl⟩:=eI hi;have bd:(((ig ps l).reverse.take i).foldl (λn x=>n * 8+x) 0)<512:=by
    have e:=LJ 8 ((ig ps l).reverse.take i).reverse;rw[List.reverse_reverse]at e;rw[e];refine bh (Fx (b:=8) λx hx=>?_) ?_
    ·exact ao2.p8 no x (Rw.mp (jR (Rw.mp hx)))
    ·calc 8 ^ ((ig ps l).reverse.take i).reverse.length<=8 ^ 3:=oh (by omega) (by
        rw[o9,cw,o9,ao2.al];have:=no.ml;omega)
      _=512:=by decide
   push_cast;refine⟨⟨by decide,by decide,by omega⟩,?_⟩;rw[bX hpp,fY];simp only[bJ,List.foldl_nil];rw[show(3:Int).toNat=3 from rfl];omega
  ·rintro σ H2 ⟨rfl,y',rfl⟩;have e:((ig ps l).reverse.take (iR (ig ps l)).length).foldl (λn x=>n * 8+x) 0=enc 8 (ig ps l):=by
    rw[bU (by simp[iR]),LJ]
   rw[e];obtain⟨dx,dC,dS,dN,lM,ms,t1,t2⟩:=hT.up kk;push_cast[t1,T.cN];refine⟨a,p1,N,ig ps l,rfl,⟨dx,dC,dS,dN,lM,ms,t1,t2⟩,no,ao2,hg,λlb bs H3 g3 Nk QF nlb k3=>?_⟩;push_cast;intro b dx' nb nd nn;generalize e4:upd (upd H3 dx' _) b _=H4;obtain⟨g4,k4⟩:=N0 e4 nb nd nn;have kf:=kk.trans k3;have kf4:=kf.trans k4;refine⟨b,dx',sp,le,lb,N,⟨x,l.map (·.2),ig ps l⟩,as,bs,rfl,g4,⟨lR.up kf4 F9,kf4.up hle,(hE.up kf4).plain,k4.up g3,⟨Nk,λj b' B e1 e2=>(QF j b' B e1 e2).up k4⟩⟩,Km no ao2,λe he c hc=>?_,λH5 g5 k5=>⟨rfl,?_⟩⟩
   ·obtain⟨y,hy,rfl⟩:=aH.mp he;exact(hl y hy).2 c hc
   ·have kf5:Keeps [] H H5:=kf4.drop k5 (by simpa using kf.gr b nb);refine q b H5 ⟨dx',sp,le,lb,as,bs,g5,⟨lR.up kf5 F9,kf5.up hle,(hE.up kf5).plain,?_,⟨Nk,λj b' B e1 e2=>?_⟩⟩⟩ (kf.gr b nb) kf5
    ·exact k5.bM (k4.up g3) (aK (k4.up g3) g4 nofun)
    ·exact(QF j b' B e1 e2).up (k4.drop k5 (by simpa using nb))
end
theorem TH {K:aa}{a b:Addr}{xs ys:List V}{g:TG}{tb:TS}{D:Ends}{σ:L2.St}{H:Hp}(Pv:Nat->L2.St->Hp->Prop) (h0:Pv 0 σ H) (hl:∀i σ H,Pv i σ H->H a=some (.lst xs)/\H b=some (.lst ys)) (N4:xs.length=ys.length)
  (hs:∀i x y σ H T H',xs[i]?=some x->ys[i]?=some y->Pv i σ H->H T=none->H' T=some (.tup [x,y])->Keeps [] H H'->g (.ref T) σ H' λoj H2=>tb { D with nx:=Pv (i+1),ct:=Pv (i+1),bk:=D.nx } oj H2) (hd:∀σ H,Pv xs.length σ H->D.nx σ H):C5 (ZA K a b) g tb D σ H:=by
 refine⟨λi m σ H=>m=xs.length-i/\i<=xs.length/\Pv i σ H,⟨xs.length,by simp,ck _,h0⟩,?_⟩;rintro i m σ H ⟨rfl,hi,p⟩;obtain⟨q1,q2⟩:=hl i σ H p;by_cases hX:i<xs.length
 ·refine .inr ⟨⟨xs,ys,xs[i],ys[i]'(by omega),dO.of q1,dO.of q2,ae _,ae _⟩,Pv (i+1),λfK H' p'=>⟨xs.length-(i+1),by omega,rfl,hX,p'⟩,λx H' y=>?_⟩;obtain⟨T,u,v,rfl,hT,rfl,h1,h2⟩:=y;exact hs i u v σ H T _ (h1 _ (dO.of q1)) (h2 _ (dO.of q2)) p hT c0 (Keeps.refl.new hT)
 ·have e:i=xs.length:=by omega
  subst e;exact .inl ⟨⟨xs,ys,dO.of q1,dO.of q2,.inl (aQ _)⟩,hd σ H p⟩
def y4 (xs:List V) (bl:List Bool):List V:=((xs.zip bl).filter (·.2)).map (·.1)
theorem DO (xs:List V) (bl:List Bool) (i:Nat) (x:V) (b:Bool) (hx:xs[i]?=some x) (hb:bl[i]?=some b):y4 (xs.take (i+1)) (bl.take (i+1))=y4 (xs.take i) (bl.take i)++(if b=true then [x] else []):=by
 unfold y4;rw[bX hx,bX hb,List.zip_append (by simp[cw];have:=(aw.mp hx).1;have:=(aw.mp hb).1;omega),pV,bo];cases b<;>rfl
theorem Q0 (xs:List V) (bl:List Bool):(y4 xs bl).length<=xs.length:=by
 unfold y4;rw[ax];refine bw (bS ..) ?_;rw[List.length_zip];omega
theorem P1 {K:aa}{a:Addr}{xs:List V}{tt:TT}{k:Nat}{σ:L2.St}{H1:Hp}{D:Addr}{Q:VK}(bl:List Bool) (hx:xs.length=bl.length) (hk:k<σ.length) (hD:H1 D=none) (hz:xs.length<=sizeLine)
  (ha:∀H,Keeps [] H1 H->dO K H a xs)
  (hs:∀(i:Nat) (x:V) (b:Bool) (H:Hp) (C:Bool->Hp->Prop),xs[i]?=some x->bl[i]?=some b->Keeps [] H1 H->(∀H3,Keeps [] H H3->C b H3)->tt (σ.set k (some x)) H C)
  (hd:∀H,Keeps [] H1 H->H D=some (.lst (y4 xs bl))->Q (.ref D) H):W0 (Rp K a) (xM k) tt (tj k) [k] σ Q H1 D:=by
 refine⟨λi m H=>m=xs.length-i/\i<=xs.length/\Keeps [] H1 H/\H D=some (.lst (y4 (xs.take i) (bl.take i))),⟨xs.length,by simp,ck _,Keeps.refl.new hD,c0⟩,?_⟩;rintro i m H ⟨rfl,hi,kk,hl⟩;by_cases hX:i<xs.length
 ·obtain⟨b,hb⟩:∃b,bl[i]?=some b:=⟨_,ae (by omega)⟩;refine .inr ⟨⟨xs,xs[i],ha H kk,ae _⟩,λH'=>Keeps [] H1 H'/\H' D=some (.lst (y4 (xs.take (i+1)) (bl.take (i+1)))),λH' p=>⟨xs.length-(i+1),by omega,rfl,hX,p⟩,λx H' hy=>?_⟩;obtain⟨rfl,hy⟩:=hy;have hxi:=hy xs (ha _ kk);show wipe (((wipe σ [k]).set k (some x))) [k]=wipe σ [k]/\tt ((wipe σ [k]).set k (some x)) _ _;have e:(wipe σ [k]).set k (some x)=σ.set k (some x):=by simp[wipe,W6]
  rw[e];refine⟨by simp[wipe,W6],hs i x b _ _ hxi hb kk λH3 k3=>?_⟩;rw[DO xs bl i x b hxi hb];cases b with
  | true =>
   rw[if_pos rfl];refine⟨x,by rw[l9 hk],y4 (xs.take i) (bl.take i),k3.up hl,?_,(kk.trans k3).drop (Keeps.refl.put (M:=[D]) (by simp)) (by simpa using hD),by rw[if_pos rfl];exact c0⟩;have:=Q0 (xs.take i) (bl.take i);rw[cw]at this;omega
  | false =>
   rw[if_neg nofun,if_neg nofun,eL];exact⟨kk.trans k3,k3.up hl⟩
 ·have e:i=xs.length:=by omega
  subst e;rw[bP,bU (by omega)]at hl;exact .inl ⟨⟨xs,ha H kk,aQ _⟩,hd H kk hl⟩
structure iN (t:cT) (H:Hp) (nc:Nat) (as:List Addr) (l:List (Nat×Nat×Edge)):Prop where
 len:as.length=l.length
 at_:∀(j:Nat) (a:Addr) (x:Nat×Nat×Edge),as[j]?=some a->l[j]?=some x->mI t H a x.1 x.2.1 nc x.2.2
theorem iN.up {t:cT}{H H':Hp}(k:Keeps [] H H'){nc:Nat}{as:List Addr}{es:List (Nat×Nat×Edge)}(h:iN t H nc as es):iN t H' nc as es:=⟨h.len,λj a e h1 h2=>(h.at_ j a e h1 h2).up k⟩
theorem iN.app {t:cT}{H:Hp}{nc:Nat}{as Oc:List Addr}{l l':List (Nat×Nat×Edge)}(h:iN t H nc as l) (h':iN t H nc Oc l'):iN t H nc (as++Oc) (l++l'):=⟨by rw[aJ,aJ,h.len,h'.len],λj a x h1 h2=>by
 by_cases hj:j<as.length
 ·rw[aO hj]at h1;rw[aO (by rw[<-h.len];exact hj)]at h2;exact h.at_ j a x h1 h2
 ·rw[aM (by omega)]at h1;rw[aM (by rw[<-h.len];omega),<-h.len]at h2;exact h'.at_ _ a x h1 h2⟩
def bZ (N:Net) (ps:List Nat) (kd:Int):List (Nat×Nat×Edge):=(di N ps).filter λp=>decide (sN p.2.2.meet=kd)
def xZ (m:Machine) (i p:Nat) (kd:Int):List (Nat×Nat×Edge):=(m.edges.zipIdx.filter λe=>decide (e.1.from_=p)&&decide (sN e.1.meet=kd)).map λe=>(i,e.2,e.1)
def oM (N:Net) (ps:List Nat) (kd:Int) (n:Nat):List (Nat×Nat×Edge):=(N.machines.zipIdx.take n).flatMap λm=>xZ m.1 m.2 (ps.getD m.2 0) kd
theorem z6 (N:Net) (ps:List Nat) (kd:Int):oM N ps kd N.machines.length=bZ N ps kd:=by
 unfold oM bZ di;rw[bU (by rw[pS];exact aQ _),L9];refine jr λm _=>?_
 unfold xZ;rw[Cs,kX]
 congr 1
 refine congrArg (λf=>qI f m.1.edges.zipIdx) ?_
 funext e
 dsimp only[Ct];rw[Bool.and_comm]
theorem Fz {N:Net}{ps:List Nat}{kd:Int}{i:Nat}{m:Machine}(h:N.machines[i]?=some m):oM N ps kd (i+1)=oM N ps kd i++xZ m i (ps.getD i 0) kd:=by
 unfold oM;have:N.machines.zipIdx[i]?=some (m,i):=by rw[jU,h];simp
 rw[bX this,iy];simp
theorem Kl {t:cT}{H:Hp}{i nc:Nat}{m:Machine}{es:List Addr}{bs:List Addr}(h:zq t H i nc m bs es) (p:Nat) (kd:Int):∃as:List Addr,y4 (es.map V.ref) (m.edges.map λe=>decide (e.from_=p)&&decide (sN e.meet=kd))=as.map V.ref/\iN t H nc as (xZ m i p kd):=by
 have key:∀n,n<=m.edges.length->∃as:List Addr,y4 ((es.map V.ref).take n) ((m.edges.map λe=>decide (e.from_=p)&&decide (sN e.meet=kd)).take n)=as.map V.ref/\iN t H nc as (((m.edges.zipIdx.take n).filter λe=>decide (e.1.from_=p)&&decide (sN e.1.meet=kd)).map λe=>(i,e.2,e.1)):=by
  intro n
  induction n with
  | zero=>intro _;exact⟨[],rfl,⟨rfl,λj a x h1=>by simp at h1⟩⟩
  | succ n ih =>
   intro hn;obtain⟨as,e1,e2⟩:=ih (by omega);obtain⟨a,ha⟩:∃a,es[n]?=some a:=⟨_,ae (by rw[h.el];omega)⟩;obtain⟨e,he⟩:∃e,m.edges[n]?=some e:=⟨_,ae (by omega)⟩;have hz:m.edges.zipIdx[n]?=some (e,n):=by rw[jU,he];simp
   rw[DO _ _ n (.ref a) (decide (e.from_=p)&&decide (sN e.meet=kd)) (by rw[aR,ha];rfl) (by rw[aR,he];rfl),e1,bX hz,pV,bo];by_cases q:(decide (e.from_=p)&&decide (sN e.meet=kd))=true
   ·rw[if_pos q];refine⟨as++[a],by simp,e2.app ?_⟩;rw[cR,if_pos q];refine⟨rfl,λj a' x h1 h2=>?_⟩
    match j,h1,h2 with
    | 0,h1,h2 =>
     cases h1;cases h2;exact h.ea n a e ha he
    | j+1,h1,_=>simp at h1
   ·rw[if_neg q];refine⟨as,by simp,?_⟩;rw[cR,if_neg q];simpa using e2
 obtain⟨as,e1,e2⟩:=key m.edges.length (aQ _);rw[bU (by simp[h.el]),bU (by simp)]at e1;rw[bU (by simp)]at e2;exact⟨as,e1,e2⟩
section
variable {P:Program}{w:World}{K:aa}{mg:Str->Option Value}{base:Heap}{t:cT}
def GO (t:cT):Sp:=λvs H Q _=>∃(a lp:Addr) (N:Net) (ps:List Nat) (kd:Int),vs=[.ref a,.ref lp,.int kd]/\gE t H a N/\NOk N/\vp N ps/\H lp=some (.lst (iR ps)) /\
 ∀(l:Addr) (as:List Addr) (H':Hp),H' l=some (.lst (as.map V.ref))->iN t H' N.clocks.length as (bZ N ps kd)->H l=none->Keeps [] H H'->Q (.ref l) H'
theorem sC (T:Txt K mg t):vm P w K mg base 1 "edges_from" ["told", "places", "meeting"] (GO t):=by
 obtain⟨f,fd,F,M⟩:=T.xT;refine⟨f,fd,F.ok iW (λvs H Q E h=>?_) (λgw A outer s H vs Q E hr h=>?_),M,F.kp,F.binds (λ_ _ _ _ _ _ us hl=>match us,hl with|[_,_,_],_=>rfl)⟩
 ·obtain⟨a,lp,N,ps,kd,rfl,_⟩:=h;rfl
 obtain⟨a,lp,N,ps,kd,rfl,h⟩:=h;have hu:=cF hr;refine' ⟨?t,?p,?r⟩
 case p =>
  refine' (aj (bO (i:=3) iW.nd rfl (aX rfl) (c9 aC)) (aj (fU PassesOwn.never rfl (Pf rfl T.Ci (ag (aV (pv 0) rfl) (ag (pv 1) aC))) (yL (n:=2) rfl (iP (cB (i:=4) iW.nd rfl (aX rfl)) (iP (cB (i:=5) iW.nd rfl (KN rfl)) uY))) (aD (d7 (lI bc qm ql DE (pv 3) (ag (Bp (own:=[("edge",6)]) rfl iW.nd (fE (aV (pv 4) rfl)) (by exact pN rfl) ?NF ?ND ?NG) aC))))) (aD (bj (pv 3)))))
  case NF=>intro _ _ _ _ _;exact(cB (i:=6) iW.nd rfl (aX rfl))
  case ND=>intro _ _ _ _ _;exact(Lb (PW.pt (qt (br j3 (ES K (pv 6) rfl) (pv 5) (bN _)) (mU (br j3 (ES K (pv 6) rfl) (pv 2) (bN _))))))
  case NG=>intro _ _ _ _ _;exact(pv 6)
 obtain⟨hT,no,ao,hp,q⟩:=h;obtain⟨dx,dC,dS,dN,lM,ms,h1,h2,h3,h4,h5,h6,h7⟩:=hT;push_cast;intro p1 AK;generalize e1:upd H p1 _=H1;obtain⟨g1,k1⟩:=al e1 AK;push_cast[k1.up h1,T.cN];have ml:=no.ml;have N7:=k1.up h5;refine⟨_,dO.of N7,_,dO.of (k1.up hp),TH (xs:=ms.map V.ref) (ys:=iR ps) (λi σ H'=>(∃x y z,σ=[some (.ref a),some (.ref lp),some (.int kd),some (.ref p1),x,y,z])/\Keeps [p1] H1 H'/\∃as:List Addr,H' p1=some (.lst (as.map V.ref))/\iN t H N.clocks.length as (oM N ps kd i)) ⟨⟨_,_,_,rfl⟩,Keeps.refl,[],g1,⟨rfl,λj a x h1=>by simp at h1⟩⟩ (λi σ H' ⟨_,k,_⟩=>⟨k.bM N7 (a6 h5 AK),k.bM (k1.up hp) (a6 hp AK)⟩) (by simp[iR,h6,ao.al]) ?_ ?_⟩
 ·rintro i x y σ H' T1 H2 hx hy ⟨⟨x0,y0,z0,rfl⟩,k,as,hg,hE⟩ nT gT kT;obtain⟨mx,hmx,rfl⟩:=eI hx;obtain⟨p,Ti,rfl⟩:=eI hy;obtain⟨m,hm⟩:∃m,N.machines[i]?=some m:=⟨_,ae (by rw[<-h6];exact(aw.mp hmx).1)⟩;obtain⟨dx',dp,lb,le,bl,es,m1,mi,mf⟩:=h7 i mx m hmx hm;have mo:=no.mo m (aI hm);have kk:Keeps [] H H2:=(k1.drop k (by simpa using AK)).trans kT;refine⟨T1,_,rfl,lR.of gT,rfl,?_⟩;push_cast[kk.up m1,kT.up hg,T.eN];refine⟨⟨_,dO.of (kk.up mi.he)⟩,λD hD=>?_⟩;obtain⟨Oc,ef,eE⟩:=Kl mf p kd;have lKT:as.length<=48:=by
   rw[hE.len];refine bw ?_ (z8 no ps);have:oM N ps kd i=oM N ps kd i:=rfl;refine bw ?_ (bS (λq=>decide (sN q.2.2.meet=kd)) _);show _<=(bZ N ps kd).length;rw[<-z6];unfold oM;have e:N.machines.zipIdx.take N.machines.length=N.machines.zipIdx.take i++(N.machines.zipIdx.take N.machines.length).drop i:=by
    have hi:i<=N.machines.length:=by have:=(aw.mp hm).1;omega
    conv=>lhs;rw[<-fB i (N.machines.zipIdx.take N.machines.length)]
    rw[List.take_take,oW hi]
   rw[e,iy,aJ];omega
  have aa9:Oc.length<=16:=by
   rw[eE.len];unfold xZ;rw[ax];refine bw (bS ..) ?_;rw[pS];exact mo.el
  refine P1 (m.edges.map λe=>decide (e.from_=p)&&decide (sN e.meet=kd)) (by simp[mf.el]) (by simp) hD (by simp[mf.el,sizeLine];have:=mo.el;omega) (λH3 k3=>dO.of (k3.up (kk.up mi.he))) ?_ ?_
  ·intro j x b H3 C hx hb k3 hC;obtain⟨ea,hea,rfl⟩:=eI hx;obtain⟨ed,CU,rfl⟩:=eI hb;obtain⟨Zp,bb,ls,f1,f2,f3⟩:=(mf.ea j ea ed hea CU).up (kk.trans k3);push_cast[f1,T.ky];by_cases c1:ed.from_=p
   ·rw[if_pos (decide_eq_true (by omega))];have:=hC H3 Keeps.refl;rw[decide_eq_true c1,fP]at this;exact this
   ·rw[if_neg (by simp;omega)];have:=hC H3 Keeps.refl;rw[decide_eq_false c1,vy]at this;exact this
  ·intro H3 k3 g3;rw[ef]at g3;have hg3:=k3.up (kT.up hg);refine⟨D,rfl,_,hg3,_,g3,by simp[sizeLine];omega,?_,as++Oc,by simp,?_⟩
   ·exact((k.trans kT.any).trans k3.any).put (by simp)
   ·rw[Fz hm,bB,Ti];exact hE.app eE
 ·rintro σ H' ⟨⟨x0,y0,z0,rfl⟩,k,as,hg,hE⟩;push_cast;have kk:Keeps [] H H':=k1.drop k (by simpa using AK);rw[ax,h6,z6]at hE;exact q p1 as H' hg (hE.up kk) AK kk
end
def Sep (H:Hp) (l:Addr):Prop:=∃m0 r C dx fs,H l=some (.lst (.ref m0::r))/\H m0=some (.ins C dx fs)/\fs.length=6
theorem Sep.ints {H:Hp}{l b:Addr}(s:Sep H l){xs:List V}(h:H b=some (.lst xs)) (hx:∀x∈xs,∃i,x=V.int i):b≠l:=by
 obtain⟨m0,r,C,dx,fs,h1,h2,h3⟩:=s;refine aK h h1 λz=>?_
 injection z with z
 obtain⟨i,e⟩:=hx (.ref m0) (by rw[z];simp);cases e
theorem Sep.refs {H:Hp}{l b:Addr}(s:Sep H l){as:List Addr}(h:H b=some (.lst (as.map V.ref))) (hx:∀a∈as,∃C dx fs,H a=some (.ins C dx fs)/\fs.length≠6):b≠l:=by
 obtain⟨m0,r,C,dx,fs,h1,h2,h3⟩:=s;refine aK h h1 λz=>?_
 injection z with z
 cases as with
 | nil=>cases z
 | cons a as =>
  rw[aP]at z;injection z with z1 z2
  injection z1 with z1
  obtain⟨C',dx',RN,e1,e2⟩:=hx a (by simp);rw[z1,h2]at e1;cases e1;exact e2 h3
theorem Sep.ins {H:Hp}{l b:Addr}(s:Sep H l){C dx:Addr}{fs:List (Str×V)}(h:H b=some (.ins C dx fs)):b≠l:=by
 obtain⟨m0,r,C,dx,fs,h1,h2,h3⟩:=s;exact aK h h1 nofun
theorem Sep.dk {H:Hp}{l b:Addr}(s:Sep H l){bD:List (Key×V)}(h:H b=some (.dK bD)):b≠l:=by
 obtain⟨m0,r,C,dx,fs,h1,h2,h3⟩:=s;exact aK h h1 nofun
section
variable {t:cT}{K:aa}{H H':Hp}{l:Addr}
theorem cq.sep (k:Keeps [l] H H') (s:Sep H l){a:Addr}{nc:Nat}{bs:List Bound}(h:cq t H a nc bs):cq t H' a nc bs:=by
 obtain⟨dx,lo,hi,h1,h2,h3,n⟩:=h;refine⟨dx,lo,hi,k.bM h1 (s.ins h1),k.bM h2 (s.ints h2 ?_),k.bM h3 (s.ints h3 ?_),n⟩
 ·intro x hx;obtain⟨c,_,rfl⟩:=aH.mp hx;exact⟨_,rfl⟩
 ·intro x hx;obtain⟨c,_,rfl⟩:=aH.mp hx;exact⟨_,rfl⟩
theorem mI.sep (k:Keeps [l] H H') (s:Sep H l){a:Addr}{mi ei nc:Nat}{e:Edge}(h:mI t H a mi ei nc e):mI t H' a mi ei nc e:=by
 obtain⟨dx,b,ls,h1,h2,h3⟩:=h;refine⟨dx,b,ls,k.bM h1 (s.ins h1),h2.sep k s,k.bM h3 (s.ints h3 ?_)⟩;intro x hx;obtain⟨c,_,rfl⟩:=aH.mp hx;exact⟨_,rfl⟩
theorem sG.sep (k:Keeps [l] H H') (s:Sep H l){a:Addr}{i nc:Nat}{m:Machine}(h:sG t H a i nc m):sG t H' a i nc m:=by
 obtain⟨dx,dp,lb,le,bs,es,h1,h2,h3⟩:=h;refine⟨dx,dp,lb,le,bs,es,k.bM h1 (s.ins h1),⟨k.bM h2.pl (s.dk h2.pl),k.bM h2.hb (s.refs h2.hb ?_),k.bM h2.he (s.refs h2.he ?_)⟩,⟨h3.bl,h3.el,λj b p e1 e2=>(h3.ba j b p e1 e2).sep k s,λj b e e1 e2=>(h3.ea j b e e1 e2).sep k s⟩⟩
 ·intro x hx;obtain⟨j,hj,e⟩:=fj hx;obtain⟨p,hp⟩:∃p,m.places[j]?=some p:=⟨_,ae (by rw[<-h3.bl];exact hj)⟩;obtain⟨dx',lo,hi,f1,_⟩:=h3.ba j x p (by rw[ae hj,e]) hp;exact⟨_,_,_,f1,by simp[cQ]⟩
 ·intro x hx;obtain⟨j,hj,e⟩:=fj hx;obtain⟨p,hp⟩:∃p,m.edges[j]?=some p:=⟨_,ae (by rw[<-h3.el];exact hj)⟩;obtain⟨dx',lo,hi,f1,_⟩:=h3.ea j x p (by rw[ae hj,e]) hp;exact⟨_,_,_,f1,by simp[dr]⟩
theorem gE.sep (k:Keeps [l] H H') (s:Sep H l){a:Addr}{N:Net}(h:gE t H a N):gE t H' a N:=by
 obtain⟨dx,dC,dS,dN,lM,ms,h1,h2,h3,h4,h5,h6,h7⟩:=h;refine⟨dx,dC,dS,dN,lM,ms,k.bM h1 (s.ins h1),k.bM h2 (s.dk h2),k.bM h3 (s.dk h3),k.bM h4 (s.dk h4),k.bM h5 (s.refs h5 ?_),h6,λi x m a b=>(h7 i x m a b).sep k s⟩;intro x hx;obtain⟨j,hj,e⟩:=fj hx;obtain⟨m,hm⟩:∃m,N.machines[j]?=some m:=⟨_,ae (by rw[<-h6];exact hj)⟩;obtain⟨dx',dp,lb,le,bs,es,f1,_⟩:=h7 j x m (by rw[ae hj,e]) hm;exact⟨_,_,_,f1,by simp[eO]⟩
theorem lR.sep (k:Keeps [l] H H') (s:Sep H l){a:Addr}{xs:List V}(h:lR K H a xs):lR K H' a xs:=by
 obtain⟨m0,r,C,dx,fs,h1,h2,h3⟩:=s;rcases h with(h|⟨o,h⟩)|h
 ·exact .inl (.inl (k.bM h (aK h h1 nofun)))
 ·exact .inl (.inr ⟨o,k.bM h (aK h h1 nofun)⟩)
 ·exact .inr h
theorem jw.sep (k:Keeps [l] H H') (s:Sep H l){a:Addr}{N:Net}{mv:Mv}(h:jw t K H a N mv):jw t K H' a N mv:=by
 obtain⟨dx,sp,le,lb,as,bs,h1,hM⟩:=h;refine⟨dx,sp,le,lb,as,bs,k.bM h1 (s.ins h1),⟨lR.sep k s hM.st,k.bM hM.le (s.refs hM.le ?_),⟨hM.ed.len,λj a e h1 h2=>let ⟨mi,ei,q⟩:=hM.ed.at_ j a e h1 h2;⟨mi,ei,q.sep k s⟩⟩,k.bM hM.lb (s.refs hM.lb ?_),⟨hM.pl.len,λj a e h1 h2=>(hM.pl.at_ j a e h1 h2).sep k s⟩⟩⟩
 ·intro x hx;obtain⟨j,hj,e⟩:=fj hx;obtain⟨p,hp⟩:∃p,mv.es[j]?=some p:=⟨_,ae (by rw[<-hM.ed.len];exact hj)⟩;obtain⟨mi,ei,dx',lo,hi,f1,_⟩:=hM.ed.at_ j x p (by rw[ae hj,e]) hp;exact⟨_,_,_,f1,by simp[dr]⟩
 ·intro x hx;obtain⟨j,hj,e⟩:=fj hx;obtain⟨p,hp⟩:∃p,(fV N mv.to_)[j]?=some p:=⟨_,ae (by rw[<-hM.pl.len];exact hj)⟩;obtain⟨dx',lo,hi,f1,_⟩:=hM.pl.at_ j x p (by rw[ae hj,e]) hp;exact⟨_,_,_,f1,by simp[cQ]⟩
end
structure gf (t:cT) (K:aa) (H:Hp) (N:Net) (as:List Addr) (nM:List Mv):Prop where
 len:as.length=nM.length
 at_:∀(j:Nat) (a:Addr) (mv:Mv),as[j]?=some a->nM[j]?=some mv->jw t K H a N mv
theorem gf.up {t:cT}{K:aa}{H H':Hp}(k:Keeps [] H H'){N:Net}{as:List Addr}{nM:List Mv}(h:gf t K H N as nM):gf t K H' N as nM:=⟨h.len,λj a mv h1 h2=>(h.at_ j a mv h1 h2).up k⟩
theorem gf.sep {t:cT}{K:aa}{H H':Hp}{l:Addr}(k:Keeps [l] H H') (s:Sep H l){N:Net}{as:List Addr}{nM:List Mv}(h:gf t K H N as nM):gf t K H' N as nM:=⟨h.len,λj a mv h1 h2=>(h.at_ j a mv h1 h2).sep k s⟩
theorem gf.snoc {t:cT}{K:aa}{H:Hp}{N:Net}{as:List Addr}{nM:List Mv}(h:gf t K H N as nM){a:Addr}{mv:Mv}(h':jw t K H a N mv):gf t K H N (as++[a]) (nM++[mv]):=⟨by simp[h.len],λj b x h1 h2=>by
 by_cases hj:j<as.length
 ·rw[aO hj]at h1;rw[aO (by rw[<-h.len];exact hj)]at h2;exact h.at_ j b x h1 h2
 ·rw[aM (by omega)]at h1;rw[aM (by rw[<-h.len];omega),<-h.len]at h2
  match e:j-as.length,h1,h2 with
  | 0,h1,h2=>cases h1;cases h2;exact h'
  | k+1,h1,_=>simp at h1⟩
theorem gf.Yd {t:cT}{K:aa}{H:Hp}{N:Net}{as:List Addr}{nM:List Mv}{l:Addr}(h:gf t K H N as nM) (hn:nM≠[]) (hl:H l=some (.lst (as.map V.ref))):Sep H l:=by
 cases nM with
 | nil=>exact absurd rfl hn
 | cons mv r =>
  cases as with
  | nil=>have:=h.len;simp at this
  | cons a as =>
   obtain⟨dx,sp,le,lb,Oc,bs,h1,_⟩:=h.at_ 0 a mv rfl rfl;exact⟨a,_,_,_,_,hl,h1,by simp[Fw,fM]⟩
theorem kd0 (N:Net) (ps:List Nat):bZ N ps 0=(di N ps).filter λp=>p.2.2.meet == .alone:=by
 unfold bZ;refine congrArg (λf=>qI f _) ?_
 funext p
 cases p.2.2.meet<;>rfl
theorem kd1 (N:Net) (ps:List Nat):bZ N ps 1=(di N ps).filter λp=>lN p.2.2.meet:=by
 unfold bZ;refine congrArg (λf=>qI f _) ?_
 funext p
 cases p.2.2.meet<;>rfl
theorem kd2 (N:Net) (ps:List Nat):bZ N ps 2=(di N ps).filter λp=>kE p.2.2.meet:=by
 unfold bZ;refine congrArg (λf=>qI f _) ?_
 funext p
 cases p.2.2.meet<;>rfl
def condT (p q:Nat×Nat×Edge):Bool:=decide (q.1≠p.1)&&decide (m6 q.2.2.meet=m6 p.2.2.meet)
theorem LS (N:Net) (ps:List Nat):cands N ps=⟨.tick,[],ps⟩::((bZ N ps 0).map (j4 ps)++(bZ N ps 1).flatMap λp=>((bZ N ps 2).filter (condT p)).map (fh ps p)):=by
 rw[kd0,kd1,kd2];rfl
theorem iN.sep {t:cT}{H H':Hp}{l:Addr}(k:Keeps [l] H H') (s:Sep H l){nc:Nat}{as:List Addr}{es:List (Nat×Nat×Edge)}(h:iN t H nc as es):iN t H' nc as es:=⟨h.len,λj a e h1 h2=>(h.at_ j a e h1 h2).sep k s⟩
structure MI (t:cT) (K:aa) (H:Hp) (N:Net) (ps:List Nat) (a lp l:Addr) (done:List Mv):Prop where
 told:gE t H a N
 lp:H lp=some (.lst (iR ps))
 ex:∃as:List Addr,H l=some (.lst (as.map V.ref))/\gf t K H N as done
 ne:done≠[]
 rest:∃r,cands N ps=done++r
theorem MI.up {t:cT}{K:aa}{H H':Hp}(k:Keeps [] H H'){N:Net}{ps:List Nat}{a lp l:Addr}{done:List Mv}(h:MI t K H N ps a lp l done):MI t K H' N ps a lp l done:=by
 obtain⟨as,h1,h2⟩:=h.ex;exact⟨h.told.up k,k.up h.lp,⟨as,k.up h1,h2.up k⟩,h.ne,h.rest⟩
theorem MI.Vn {t:cT}{K:aa}{H:Hp}{N:Net}{ps:List Nat}{a lp l:Addr}{done:List Mv}(h:MI t K H N ps a lp l done):Sep H l:=by
 obtain⟨as,h1,h2⟩:=h.ex;exact h2.Yd h.ne h1
theorem MI.snoc {t:cT}{K:aa}{H H':Hp}{N:Net}{ps:List Nat}{a lp l b:Addr}{done:List Mv}{mv:Mv}{as:List Addr}(h:MI t K H N ps a lp l done) (hl:H l=some (.lst (as.map V.ref))) (hb:jw t K H b N mv) (hr:∃r,cands N ps=(done++[mv])++r) (e:upd H l (.lst (as.map V.ref++[.ref b]))=H'):MI t K H' N ps a lp l (done++[mv]):=by
 obtain⟨g,k⟩:=wr e;have s:=h.Vn;obtain⟨Oc,h1,h2⟩:=h.ex;have ea:as=Oc:=by
  rw[hl]at h1;injection h1 with h1
  injection h1 with h1
  exact yu (λx y z=>by injection z) |>.mp h1
 subst ea;refine⟨h.told.sep k s,k.bM h.lp (s.ints h.lp ?_),⟨as++[b],by rw[g,bo];rfl,(h2.sep k s).snoc (hb.sep k s)⟩,by simp,hr⟩;intro x hx;obtain⟨c,_,rfl⟩:=aH.mp hx;exact⟨_,rfl⟩
theorem MI.len {t:cT}{K:aa}{H:Hp}{N:Net}(no:NOk N){ps:List Nat}{a lp l:Addr}{done:List Mv}{as:List Addr}(h:MI t K H N ps a lp l done) (hl:H l=some (.lst (as.map V.ref))):(as.map V.ref).length<sizeLine:=by
 obtain⟨Oc,h1,h2⟩:=h.ex;rw[hl]at h1;injection h1 with h1
 injection h1 with h1
 obtain⟨r,hr⟩:=h.rest;have c:=vj no ps;rw[hr,aJ,<-h2.len]at c;rw[h1,ax];simp only[sizeLine];omega
theorem wK {N:Net}{ps:List Nat}{kd:Int}{p:Nat×Nat×Edge}(h:p∈bZ N ps kd):p∈di N ps:=(dv.mp h).1
theorem wL {N:Net}(no:NOk N){ps:List Nat}{p:Nat×Nat×Edge}(h:p∈di N ps):p.1<N.machines.length/\∀c∈p.2.2.sets,c<4:=by
 obtain⟨m,e1,eo⟩:=FA no h;refine⟨(aw.mp e1).1,λc hc=>?_⟩;have:=eo.st c hc;have:=no.cl;omega
section
variable {P:Program}{w:World}{K:aa}{mg:Str->Option Value}{base:Heap}{t:cT}
def GN (t:cT) (K:aa):Sp:=λvs H Q _=>∃(a lp:Addr) (N:Net) (ps:List Nat),vs=[.ref a,.ref lp]/\gE t H a N/\NOk N/\vp N ps/\H lp=some (.lst (iR ps)) /\
 ∀(l:Addr) (as:List Addr) (H':Hp),H' l=some (.lst (as.map V.ref))->gf t K H' N as (cands N ps)->H l=none->Keeps [] H H'->Q (.ref l) H'
theorem FN (T:Txt K mg t):vm P w K mg base 4 "moves_from" ["told", "places"] (GN t K):=by
 obtain⟨f,fd,F,M⟩:=T.xS;refine⟨f,fd,F.ok gY (λvs H Q E h=>?_) (λgw A outer s H vs Q E hr h=>?_),M,F.kp,F.binds (λ_ _ _ _ _ _ us hl=>match us,hl with|[_,_],_=>rfl)⟩
 ·obtain⟨a,lp,N,ps,rfl,_⟩:=h;rfl
 obtain⟨a,lp,N,ps,rfl,h⟩:=h;have hu:=cF hr;refine⟨_,(aj (bO (i:=2) gY.nd rfl (aX rfl) (c9 (ag (eG (uR T) (hr.mono (by decide)) rfl (ag (pv 0) (ag (pv 1) (ag (b9 T.kO rfl) (ag (c9 aC) aC))))) aC))) (aj (fU PassesOwn.never rfl (fE (eG (sC T) (hr.mono (by decide)) rfl (ag (pv 0) (ag (pv 1) (ag (b9 T.rZ rfl) aC))))) (cB (i:=3) gY.nd rfl (aX rfl)) (aD (d7 (lI bc bq bp eZ (pv 2) (ag (eG (uR T) (hr.mono (by decide)) rfl (ag (pv 0) (ag (pv 1) (ag (yM (ag (aV (pv 3) rfl) (ag (aV (pv 3) rfl) (ag (sM pb bf) (ag (sM pb bf) aC))))) (ag (c9 (ag (pv 3) aC)) aC))))) aC))))) (aj (bO (i:=4) gY.nd rfl (aX rfl) (eG (sC T) (hr.mono (by decide)) rfl (ag (pv 0) (ag (pv 1) (ag (b9 T.rW rfl) aC))))) (aj (fU PassesOwn.never rfl (fE (eG (sC T) (hr.mono (by decide)) rfl (ag (pv 0) (ag (pv 1) (ag (b9 T.rY rfl) aC))))) (cB (i:=5) gY.nd rfl (aX rfl)) (aD (fU PassesOwn.never rfl (fE (pv 4)) (cB (i:=6) gY.nd rfl (aX rfl)) (aD (cS (PW.pt (qt (br Pw (aV (pv 6) rfl) (aV (pv 5) rfl) (bN _)) (mU (br j3 (aV (pv 6) rfl) (aV (pv 5) rfl) (bN _))))) (aj (bO (i:=7) gY.nd rfl (aX rfl) (yM (ag (aV (pv 5) rfl) (ag (aV (pv 5) rfl) (ag (aV (pv 6) rfl) (ag (aV (pv 6) rfl) aC)))))) (aD (d7 (lI bc bq bp eZ (pv 2) (ag (eG (uR T) (hr.mono (by decide)) rfl (ag (pv 0) (ag (pv 1) (ag (pv 7) (ag (c9 (ag (pv 5) (ag (pv 6) aC))) aC))))) aC))))) bL))))) (aD (bj (pv 2))))))),?_⟩;obtain⟨hT,no,ao,hp,q⟩:=h;push_cast;intro p1 AK;generalize e1:upd H p1 _=H1;obtain⟨g1,k1⟩:=al e1 AK;refine⟨a,lp,t.WV,p1,N,ps,.tick,[],[],rfl,hT.up k1,no,ao,k1.up hp,T.kM H1,g1,⟨rfl,λj a x h1=>by simp at h1⟩,by simp,ao,λb0 H2 hm0 nb0 k2=>?_⟩;push_cast;refine⟨by decide,λl hl=>?_⟩;generalize e3:upd H2 l _=H3;obtain⟨g3,k3⟩:=al e3 hl;have Hh:Keeps [] H H3:=(k1.trans k2).trans k3;have Zj:H l=none:=k1.gr _ (k2.gr _ hl);have nlp:lp≠l:=a6 hp Zj;have M0:MI t K H3 N ps a lp l [⟨.tick,[],ps⟩]:=⟨hT.up Hh,Hh.up hp,⟨[b0],g3,⟨rfl,λj b x h1 h2=>by
  match j,h1,h2 with
  | 0,h1,h2=>cases h1;cases h2;exact hm0.up k3
  | j+1,h1,_=>simp at h1⟩⟩,by simp,⟨_,rfl⟩⟩
 refine⟨a,lp,N,ps,0,rfl,M0.told,no,ao,M0.lp,λlA aA H4 gA hA nA k4=>?_⟩;push_cast;have nlA:lA≠l:=λz=>by rw[z,g3]at nA;cases nA
 refine⟨⟨_,dO.of gA⟩,gU (xs:=aA.map V.ref) (λi σ H'=>(∃x,σ=[some (.ref a),some (.ref lp),some (.ref l),x,none,none,none,none])/\Keeps [l] H4 H'/\MI t K H' N ps a lp l (⟨.tick,[],ps⟩::((bZ N ps 0).take i).map (j4 ps))/\iN t H' N.clocks.length aA (bZ N ps 0)) ⟨⟨_,rfl⟩,Keeps.refl,M0.up k4,hA⟩ (λi σ H' _ ⟨_,k,_⟩=>dO.of (k.bM gA nlA)) ?_ ?_⟩
 ·rintro i x σ H' hi ⟨⟨z,rfl⟩,k,uj,hE⟩;obtain⟨b,hb,rfl⟩:=eI hi;obtain⟨p,Iu⟩:∃p,(bZ N ps 0)[i]?=some p:=⟨_,ae (by rw[<-hE.len];exact(aw.mp hb).1)⟩;have YN:=wK (aI Iu);obtain⟨as,f1,f2⟩:=uj.ex;have eA:=hE.at_ i b p hb Iu;obtain⟨dx',bb,ls,g1',_,_⟩:=eA;push_cast[f1,g1',T.ky];refine⟨by decide,λpT YO=>?_⟩;generalize e5:upd H' pT _=H5;obtain⟨g5,k5⟩:=al e5 YO;refine⟨by decide,λpL hpL=>?_⟩;generalize e6:upd H5 pL _=H6;obtain⟨g6,k6⟩:=al e6 hpL;have RA:=k5.trans k6;refine⟨a,lp,pT,pL,N,ps,.edge p.1 p.2.1,[(p.1,p.2.2)],[b],rfl,uj.told.up RA,no,ao,RA.up uj.lp,lR.of (k6.up g5),g6,⟨rfl,λj b' y h1 h2=>?_⟩,?_,ao.set no YN,λbm H7 hm7 nb7 k7=>?_⟩
  ·match j,h1,h2 with
   | 0,h1,h2=>cases h1;cases h2;exact⟨_,(hE.at_ i b p hb Iu).up RA⟩
   | j+1,h1,_=>simp at h1
  ·intro y hy;rw[aL]at hy;subst hy;exact wL no YN
  ·have F8:=RA.trans k7;push_cast[F8.up f1];refine⟨(uj.up F8).len no (F8.up f1),?_⟩;generalize e8:upd H7 l _=H8;obtain⟨g8,k8⟩:=wr e8;have s7:=(uj.up F8).Vn;have hr:∃r,cands N ps=((⟨.tick,[],ps⟩::((bZ N ps 0).take i).map (j4 ps))++[j4 ps p])++r:=by
    rw[LS];refine⟨((bZ N ps 0).drop (i+1)).map (j4 ps)++(bZ N ps 1).flatMap λp=>((bZ N ps 2).filter (condT p)).map (fh ps p),?_⟩;have e:(bZ N ps 0).map (j4 ps)=((bZ N ps 0).take i).map (j4 ps)++j4 ps p::((bZ N ps 0).drop (i+1)).map (j4 ps):=by
     conv=>lhs;rw[<-fB (i+1) (bZ N ps 0),bX Iu]
     simp
    rw[e];simp
   refine⟨(k.trans F8.any).trans k8,?_,(hE.up F8).sep k8 s7⟩;have:=(uj.up F8).snoc (F8.up f1) hm7 hr e8;rw[bX Iu,bo];exact this
 ·rintro σ H' ⟨⟨z,rfl⟩,k,uj,hE⟩;rw[ax,hE.len,bP]at uj;push_cast;have abd:=uj;refine⟨a,lp,N,ps,2,rfl,uj.told,no,ao,uj.lp,λlT aT HT gT hTk nT kT=>?_⟩;refine⟨a,lp,N,ps,1,rfl,uj.told.up kT,no,ao,kT.up uj.lp,λlG aG HG gG hGk nG kG=>?_⟩;push_cast;obtain⟨as0,fl1,_⟩:=uj.ex;have nlT:lT≠l:=λz=>by rw[z,fl1]at nT;cases nT
  have nlG:lG≠l:=λz=>by rw[z,kT.up fl1]at nG;cases nG
  have gT':=kG.up gT;generalize hd0:(⟨.tick,[],ps⟩::(bZ N ps 0).map (j4 ps):List Mv)=d0 at uj;have hdc:cands N ps=d0++(bZ N ps 1).flatMap λp=>((bZ N ps 2).filter (condT p)).map (fh ps p):=by rw[LS,<-hd0];rfl
  refine⟨⟨_,dO.of gG⟩,gU (xs:=aG.map V.ref) (λi σ H'=>(∃x y u,σ=[some (.ref a),some (.ref lp),some (.ref l),z,some (.ref lT),x,y,u])/\Keeps [l] HG H'/\MI t K H' N ps a lp l (d0++((bZ N ps 1).take i).flatMap λp=>((bZ N ps 2).filter (condT p)).map (fh ps p))/\iN t H' N.clocks.length aT (bZ N ps 2)/\iN t H' N.clocks.length aG (bZ N ps 1)) ⟨⟨_,_,_,rfl⟩,Keeps.refl,by simpa using (uj.up kT).up kG,hTk.up kG,hGk⟩ (λi σ H' _ ⟨_,k,_⟩=>dO.of (k.bM gG nlG)) ?_ ?_⟩
  ·rintro i x σ H' hi ⟨⟨x0,y0,u0,rfl⟩,k,uj,QM,QN⟩;obtain⟨bg,hbg,rfl⟩:=eI hi;obtain⟨p,Iu⟩:∃p,(bZ N ps 1)[i]?=some p:=⟨_,ae (by rw[<-QN.len];exact(aw.mp hbg).1)⟩;have YN:=wK (aI Iu);push_cast;generalize Wl:(d0++((bZ N ps 1).take i).flatMap λp=>((bZ N ps 2).filter (condT p)).map (fh ps p):List Mv)=d1 at uj;refine⟨⟨_,dO.of (k.bM gT' nlT)⟩,gU (xs:=aT.map V.ref) (λj σ H'=>(∃y u,σ=[some (.ref a),some (.ref lp),some (.ref l),z,some (.ref lT),some (.ref bg),y,u])/\Keeps [l] HG H'/\MI t K H' N ps a lp l (d1++(((bZ N ps 2).take j).filter (condT p)).map (fh ps p))/\iN t H' N.clocks.length aT (bZ N ps 2)/\iN t H' N.clocks.length aG (bZ N ps 1)) ⟨⟨_,_,rfl⟩,k,by simpa using uj,QM,QN⟩ (λj σ H' _ ⟨_,k,_⟩=>dO.of (k.bM gT' nlT)) ?_ ?_⟩
   ·rintro j x σ H2 hj ⟨⟨y,u,rfl⟩,k2,uj,QM,QN⟩;obtain⟨bt,hbt,rfl⟩:=eI hj;obtain⟨qe,hqe⟩:∃qe,(bZ N ps 2)[j]?=some qe:=⟨_,ae (by rw[<-QM.len];exact(aw.mp hbt).1)⟩;have hqm:=wK (aI hqe);have EG:=QN.at_ i bg p hbg Iu;have ET:=QM.at_ j bt qe hbt hqe;obtain⟨dxg,bbg,lsg,gg1,_,_⟩:=id EG;obtain⟨dxt,bbt,aa8,gt1,_,_⟩:=id ET;obtain⟨as,f1,f2⟩:=uj.ex;push_cast[gg1,gt1,f1,T.ky];have ef:(((bZ N ps 2).take (j+1)).filter (condT p)).map (fh ps p)=(((bZ N ps 2).take j).filter (condT p)).map (fh ps p)++(if condT p qe=true then [fh ps p qe] else []):=by
     rw[bX hqe,pV,bo,cR]
     split<;>rfl
    by_cases c1:qe.1=p.1
    ·rw[if_neg (by simp;omega)];have:condT p qe=false:=by unfold condT;simp[c1]
     rw[ef,this];simpa using ⟨k2,uj,QM,QN⟩
    ·rw[if_pos (by simp;omega)];by_cases c2:m6 qe.2.2.meet=m6 p.2.2.meet
     ·rw[if_pos (decide_eq_true c2)];have hct:condT p qe=true:=by unfold condT;simp[c1,c2]
      refine⟨by decide,λpT YO=>?_⟩;generalize e5:upd H2 pT _=H5;obtain⟨g5,k5⟩:=al e5 YO;push_cast[k5.up f1];refine⟨by decide,λpL hpL=>?_⟩;generalize e6:upd H5 pL _=H6;obtain⟨g6,k6⟩:=al e6 hpL;have RA:=k5.trans k6;refine⟨a,lp,pT,pL,N,ps,.both p.1 p.2.1 qe.1 qe.2.1,[(p.1,p.2.2),(qe.1,qe.2.2)],[bg,bt],rfl,uj.told.up RA,no,ao,RA.up uj.lp,lR.of (k6.up g5),g6,⟨rfl,λjj b' y h1 h2=>?_⟩,?_,(ao.set no YN).set no hqm,λbm H7 hm7 nb7 k7=>?_⟩
      ·match jj,h1,h2 with
       | 0,h1,h2=>cases h1;cases h2;exact⟨_,EG.up RA⟩
       | 1,h1,h2=>cases h1;cases h2;exact⟨_,ET.up RA⟩
       | jj+2,h1,_=>simp at h1
      ·intro y hy;simp only[ah,aF,or_false]at hy;rcases hy with rfl|rfl
       ·exact wL no YN
       ·exact wL no hqm
      ·have F8:=RA.trans k7;push_cast[F8.up f1];refine⟨(uj.up F8).len no (F8.up f1),?_⟩;generalize e8:upd H7 l _=H8;obtain⟨g8,k8⟩:=wr e8;have s7:=(uj.up F8).Vn;have hr:∃r,cands N ps=((d1++(((bZ N ps 2).take j).filter (condT p)).map (fh ps p))++[fh ps p qe])++r:=by
        rw[hdc,<-Wl];refine⟨(((bZ N ps 2).drop (j+1)).filter (condT p)).map (fh ps p)++((bZ N ps 1).drop (i+1)).flatMap λp=>((bZ N ps 2).filter (condT p)).map (fh ps p),?_⟩;have e1:(bZ N ps 1).flatMap (λp=>((bZ N ps 2).filter (condT p)).map (fh ps p))=((bZ N ps 1).take i).flatMap (λp=>((bZ N ps 2).filter (condT p)).map (fh ps p))++(((bZ N ps 2).filter (condT p)).map (fh ps p)++((bZ N ps 1).drop (i+1)).flatMap λp=>((bZ N ps 2).filter (condT p)).map (fh ps p)):=by
         conv=>lhs;rw[<-fB (i+1) (bZ N ps 1),bX Iu]
         simp
        have e2:((bZ N ps 2).filter (condT p)).map (fh ps p)=(((bZ N ps 2).take j).filter (condT p)).map (fh ps p)++(fh ps p qe::(((bZ N ps 2).drop (j+1)).filter (condT p)).map (fh ps p)):=by
         conv=>lhs;rw[<-fB (j+1) (bZ N ps 2),pV,bo,ef,if_pos hct]
         simp
        rw[e1,e2];simp
       have:=(uj.up F8).snoc (F8.up f1) hm7 hr e8;rw[ef,if_pos hct,<-cE];exact⟨(k2.trans F8.any).trans k8,this,(QM.up F8).sep k8 s7,(QN.up F8).sep k8 s7⟩
     ·rw[if_neg (by simp[c2])];have:condT p qe=false:=by unfold condT;simp[c2]
      rw[ef,this];simpa using ⟨k2,uj,QM,QN⟩
   ·rintro σ H2 ⟨⟨y,u,rfl⟩,k2,uj,QM,QN⟩;rw[ax,QM.len,bP]at uj;refine⟨⟨_,_,_,rfl⟩,k2,?_,QM,QN⟩;rw[bX Iu,iy];rw[<-Wl]at uj;simpa using uj
  ·rintro σ H' ⟨⟨x0,y0,u0,rfl⟩,k,uj,QM,QN⟩;rw[ax,QN.len,bP,<-hdc]at uj;push_cast;obtain⟨as,f1,f2⟩:=uj.ex;have kz:Keeps [] H H':=((Hh.trans k4).qY (((‹Keeps [l] H4 _›).trans (kT.trans kG).any).trans k) (by intro x hx;rw[aL]at hx;rw[hx];exact .inr Zj));exact q l as H' f1 f2 Zj kz
end
def qp (N:Net) (nM:List Mv) (c:Nat):List V:=(bF 17).map λv=>V.int (bits (nM.map λmv=>dG N mv c v):Nat)
def kq (N:Net) (nM:List Mv) (mv:Mv) (c j:Nat):List V:=(bF 17).map λv=>V.int ((bits (nM.map λmv=>dG N mv c v)+(if v<j/\dG N mv c v=true then 2 ^ nM.length else 0):Nat))
theorem R4 (N:Net) (nM:List Mv) (mv:Mv) (c:Nat):kq N nM mv c 0=qp N nM c:=by
 unfold kq qp;refine iw λv _=>?_
 rw[if_neg (by omega),j0]
theorem OG (N:Net) (nM:List Mv) (mv:Mv) (c:Nat):kq N nM mv c 17=qp N (nM++[mv]) c:=by
 unfold kq qp;refine iw λv hv=>?_
 rw[bo,aP,cn,NJ,ax];have:=iz.mp hv;by_cases h:dG N mv c v=true
 ·rw[if_pos ⟨this,h⟩,if_pos h]
 ·rw[if_neg (λz=>h z.2),if_neg h]
theorem IS (N:Net) (nM:List Mv) (mv:Mv) (c j:Nat) (h:j<17):(kq N nM mv c j)[j]?=some (V.int (bits (nM.map λmv=>dG N mv c j):Nat)):=by
 unfold kq;rw[aR,fk h];simp only[cY,b4,V.int.injEq];rw[if_neg (by omega),j0]
theorem Mm (N:Net) (nM:List Mv) (mv:Mv) (c j:Nat) (h:¬dG N mv c j=true):kq N nM mv c (j+1)=kq N nM mv c j:=by
 unfold kq;refine iw λv _=>?_
 by_cases e:v=j
 ·subst e;rw[if_neg (λz=>h z.2),if_neg (λz=>h z.2)]
 ·have:(v<j+1/\dG N mv c v=true)↔(v<j/\dG N mv c v=true):=⟨λz=>⟨by omega,z.2⟩,λz=>⟨by omega,z.2⟩⟩;simp only[this]
theorem IQ (N:Net) (nM:List Mv) (mv:Mv) (c j:Nat) (h:dG N mv c j=true):(kq N nM mv c j).set j (.int ((bits (nM.map λmv=>dG N mv c j):Nat)+(2 ^ nM.length:Nat)))=kq N nM mv c (j+1):=by
 refine hJ λv=>?_
 unfold kq;rw[md,aR,aR,ax,zz];by_cases hv:v<17
 ·rw[fk hv];by_cases e:j=v
  ·subst e;rw[if_pos rfl,if_pos hv];simp only[cY,b4,V.int.injEq];rw[if_pos ⟨by omega,h⟩];rfl
  ·rw[if_neg e];have:(v<j+1/\dG N mv c v=true)↔(v<j/\dG N mv c v=true):=⟨λz=>⟨by omega,z.2⟩,λz=>⟨by omega,z.2⟩⟩;rw[cY,cY];simp only[this]
 ·rw[cZ (by simp;omega)]
  split<;>simp_all
theorem S7 {lo:Int}{n:Nat}{g:TG}{te:TE}{vs:List Nat}{σ:L2.St}{H1:Hp}{D:Addr}{Q:VK}(Pv:Nat->List V->Hp->Prop) (hz:n<=sizeLine) (h0:Pv 0 [] (upd H1 D (.lst [])))
  (hs:∀(i:Nat) (acc:List V) (H:Hp) (C:V->Hp->Prop),i<n->acc.length=i->H D=some (.lst acc)->Pv i acc H->(∀y H4,H4 D=some (.lst acc)->(∀H5,upd H4 D (.lst (acc++[y]))=H5->Pv (i+1) (acc++[y]) H5)->C y H4)->g (.int (lo+i)) (wipe σ vs) H λoj H2=>wipe oj vs=wipe σ vs/\te oj H2 C)
  (hd:∀acc H,acc.length=n->H D=some (.lst acc)->Pv n acc H->Q (.ref D) H):W0 (RR lo n) g Gr te vs σ Q H1 D:=by
 refine⟨λi m H=>m=n-i/\i<=n/\∃acc,acc.length=i/\H D=some (.lst acc)/\Pv i acc H,⟨n,by simp,ck _,[],rfl,c0,h0⟩,?_⟩;rintro i m H ⟨rfl,hi,acc,ha,hl,p⟩;by_cases hX:i<n
 ·refine .inr ⟨hX,λH'=>∃acc,acc.length=i+1/\H' D=some (.lst acc)/\Pv (i+1) acc H',λH' p=>⟨n-(i+1),by omega,rfl,hX,p⟩,λx H' hy=>?_⟩;obtain⟨rfl,rfl⟩:=hy;exact hs i acc _ _ hX ha hl p λy H4 h4 hp=>⟨acc,h4,by omega,acc++[y],by simp[ha],c0,hp _ rfl⟩
 ·have e:i=n:=by omega
  subst e;exact .inl ⟨aQ _,hd acc H ha hl p⟩
structure LZ (H:Hp) (l:Addr):Prop where
 ins:∀b C dx fs,H b=some (.ins C dx fs)->fs≠[]->b≠l
 lst:∀b xs,H b=some (.lst xs)->b≠l
 tup:∀b xs,H b=some (.tup xs)->b≠l
 oJ:∀b o u,H b=some (.oJ o u)->b≠l
theorem LZ.Uv {H:Hp}{l C dx:Addr}(h:H l=some (.ins C dx [])):LZ H l:=⟨λb C dx fs h1 n=>aK h1 h λz=>by injection z with _ _ z;exact n z,λb xs h1=>aK h1 h nofun,λb xs h1=>aK h1 h nofun,λb o u h1=>aK h1 h nofun⟩
theorem LZ.ofD {H:Hp}{l:Addr}{bD:List (Key×V)}(h:H l=some (.dK bD)):LZ H l:=⟨λb C dx fs h1 n=>aK h1 h nofun,λb xs h1=>aK h1 h nofun,λb xs h1=>aK h1 h nofun,λb o u h1=>aK h1 h nofun⟩
section
variable {t:cT}{K:aa}{H H':Hp}{l:Addr}
theorem cq.Ib (k:Keeps [l] H H') (s:LZ H l){a:Addr}{nc:Nat}{bs:List Bound}(h:cq t H a nc bs):cq t H' a nc bs:=by
 obtain⟨dx,lo,hi,h1,h2,h3,n⟩:=h;exact⟨dx,lo,hi,k.bM h1 (s.ins _ _ _ _ h1 nofun),k.bM h2 (s.lst _ _ h2),k.bM h3 (s.lst _ _ h3),n⟩
theorem mI.Ib (k:Keeps [l] H H') (s:LZ H l){a:Addr}{mi ei nc:Nat}{e:Edge}(h:mI t H a mi ei nc e):mI t H' a mi ei nc e:=by
 obtain⟨dx,b,ls,h1,h2,h3⟩:=h;exact⟨dx,b,ls,k.bM h1 (s.ins _ _ _ _ h1 nofun),h2.Ib k s,k.bM h3 (s.lst _ _ h3)⟩
theorem lR.Ib (k:Keeps [l] H H') (s:LZ H l){a:Addr}{xs:List V}(h:lR K H a xs):lR K H' a xs:=by
 rcases h with(h|⟨o,h⟩)|h
 ·exact .inl (.inl (k.bM h (s.tup _ _ h)))
 ·exact .inl (.inr ⟨o,k.bM h (s.oJ _ _ _ h)⟩)
 ·exact .inr h
theorem jw.Ib (k:Keeps [l] H H') (s:LZ H l){a:Addr}{N:Net}{mv:Mv}(h:jw t K H a N mv):jw t K H' a N mv:=by
 obtain⟨dx,sp,le,lb,as,bs,h1,hM⟩:=h;exact⟨dx,sp,le,lb,as,bs,k.bM h1 (s.ins _ _ _ _ h1 nofun),⟨lR.Ib k s hM.st,k.bM hM.le (s.lst _ _ hM.le),⟨hM.ed.len,λj a e h1 h2=>let ⟨mi,ei,q⟩:=hM.ed.at_ j a e h1 h2;⟨mi,ei,q.Ib k s⟩⟩,k.bM hM.lb (s.lst _ _ hM.lb),⟨hM.pl.len,λj a e h1 h2=>(hM.pl.at_ j a e h1 h2).Ib k s⟩⟩⟩
theorem gf.Ib (k:Keeps [l] H H') (s:LZ H l){N:Net}{as:List Addr}{nM:List Mv}(h:gf t K H N as nM):gf t K H' N as nM:=⟨h.len,λj a mv h1 h2=>(h.at_ j a mv h1 h2).Ib k s⟩
end
section
variable {P:Program}{w:World}{K:aa}{mg:Str->Option Value}{base:Heap}{t:cT}
def Ba (t:cT) (K:aa):Sp:=λvs H Q _=>∃(l:Addr) (N:Net) (as:List Addr) (nM:List Mv) (c:Nat),vs=[.ref l,.int c]/\H l=some (.lst (as.map V.ref))/\gf t K H N as nM/\c<N.clocks.length /\
 ∀(tb:Addr) (H':Hp),H' tb=some (.lst (qp N nM c))->H tb=none->Keeps [] H H'->Q (.ref tb) H'
theorem Au (T:Txt K mg t):vm P w K mg base 3 "allowed_table" ["moves", "clock"] (Ba t K):=by
 obtain⟨f,fd,F,M⟩:=T.sO;refine⟨f,fd,F.ok gh (λvs H Q E h=>?_) (λgw A outer s H vs Q E hr h=>?_),M,F.kp,F.binds (λ_ _ _ _ _ _ us hl=>match us,hl with|[_,_],_=>rfl)⟩
 ·obtain⟨l,N,as,nM,c,rfl,_⟩:=h;rfl
 obtain⟨l,N,as,nM,c,rfl,h⟩:=h;have hu:=cF hr;refine⟨_,(aj (bO (i:=2) gh.nd rfl (aX rfl) (eF JM (c9 (ag bf aC)) (eF ku (b9 T.j6 rfl) bf))) (aj (bO (i:=3) gh.nd rfl (aX rfl) bf) (aj (fU PassesOwn.never rfl (fE (pv 0)) (cB (i:=4) gh.nd rfl (aX rfl)) (aj (fU PassesOwn.never rfl (qP rfl T.mY (ag (eF ku (b9 T.j6 rfl) bf) aC)) (cB (i:=5) gh.nd rfl (aX rfl)) (aD (cS (i7 (gP (yf T) (hr.mono (by decide)) (pv 4) (ag (pv 1) (ag (pv 5) aC)))) (aD (SG (pv 2) (pv 5) QS (pv 3) ug set_list)) bL))) (aD (tZ (i:=3) gh.nd rfl (aX rfl) (pv 3) ug)))) (aD (bj (pv 2)))))),?_⟩;obtain⟨hl,hM,hc,q⟩:=h;push_cast;refine⟨by decide,λp0 hp0=>?_⟩;generalize e0:upd H p0 _=H0;obtain⟨g0,k0⟩:=al e0 hp0;refine⟨by decide,by decide,by decide,λtb YI=>?_⟩;generalize e1:upd H0 tb _=H1;obtain⟨g1,k1⟩:=al e1 YI;have k01:=k0.trans k1;have ftb:H tb=none:=k0.gr _ YI;refine⟨⟨_,dO.of (k01.up hl)⟩,gU (xs:=as.map V.ref) (λi σ H'=>(∃x y,σ=[some (.ref l),some (.int c),some (.ref tb),some (.int (2 ^ i:Nat)),x,y])/\Keeps [tb] H1 H'/\H' tb=some (.lst (qp N (nM.take i) c))) ⟨⟨_,_,rfl⟩,Keeps.refl,g1⟩ (λi σ H' _ ⟨_,k,_⟩=>dO.of ((k01.drop k (by simpa using ftb)).up hl)) ?_ ?_⟩
 ·rintro i x σ H' hi ⟨⟨x0,y0,rfl⟩,k,hg⟩;obtain⟨b,hb,rfl⟩:=eI hi;obtain⟨mv,Qz⟩:∃mv,nM[i]?=some mv:=⟨_,ae (by rw[<-hM.len];exact(aw.mp hb).1)⟩;have il:(nM.take i).length=i:=by rw[cw];have:=(aw.mp Qz).1;omega
  push_cast;refine⟨by decide,by decide,?_⟩;rw[show((16:Int)+1).toNat=17 from rfl];refine Fv (λj σ H'=>(∃y,σ=[some (.ref l),some (.int c),some (.ref tb),some (.int (2 ^ i:Nat)),some (.ref b),y])/\Keeps [tb] H1 H'/\H' tb=some (.lst (kq N (nM.take i) mv c j))) ⟨⟨_,rfl⟩,k,by rw[R4];exact hg⟩ ?_ ?_
  ·rintro j σ H2 hj ⟨⟨y,rfl⟩,k2,Nj⟩;have kk:Keeps [] H H2:=k01.drop k2 (by simpa using ftb);have hMv:=(hM.at_ i b mv hb Qz).up kk;obtain⟨dx,sp,le,lb,Oc,US,f1,_⟩:=id hMv;push_cast[f1,Fw,Af];refine⟨b,N,mv,c,j,rfl,hMv,hc,by omega,?_⟩;push_cast;by_cases ha:dG N mv c j=true
   ·rw[if_pos ha];have l17:(kq N (nM.take i) mv c j).length=17:=by simp[kq]
    push_cast[Nj,l17,xG hj];have hy:=IQ N (nM.take i) mv c j ha;rw[il]at hy;exact⟨by omega,_,IS N _ mv c j hj,_,rfl,k2.put (by simp),hy⟩
   ·rw[if_neg ha];exact⟨k2,by rw[Mm N _ mv c j ha];exact Nj⟩
  ·rintro σ H2 ⟨⟨y,rfl⟩,k2,Nj⟩;rw[OG]at Nj;push_cast;refine⟨?_,k2,?_⟩
   ·rw[dW];omega
   ·rw[bX Qz];exact Nj
 ·rintro σ H' ⟨⟨x0,y0,rfl⟩,k,hg⟩;rw[ax,hM.len,bP]at hg;push_cast;exact q tb H' hg ftb (k01.drop k (by simpa using ftb))
def nS (t:cT) (K:aa) (H:Hp) (a:Addr) (N:Net) (ps:List Nat):Prop:=∃(dx lm lt:Addr) (as ts:List Addr),H a=some (.ins t.ju dx (mD (.ref lm) (.int (2 ^ (cands N ps).length-1:Nat)) (.ref lt)))/\H lm=some (.lst (as.map V.ref))/\gf t K H N as (cands N ps)/\H lt=some (.lst (ts.map V.ref))/\ts.length=N.clocks.length /\
 ∀(c:Nat) (tb:Addr),ts[c]?=some tb->H tb=some (.lst (qp N (cands N ps) c))
theorem nS.up {H H':Hp}(k:Keeps [] H H'){a:Addr}{N:Net}{ps:List Nat}(h:nS t K H a N ps):nS t K H' a N ps:=by
 obtain⟨dx,lm,lt,as,ts,h1,h2,h3,h4,h5,h6⟩:=h;exact⟨dx,lm,lt,as,ts,k.up h1,k.up h2,h3.up k,k.up h4,h5,λc tb e=>k.up (h6 c tb e)⟩
theorem nS.Ib {H H':Hp}{l:Addr}(k:Keeps [l] H H') (s:LZ H l){a:Addr}{N:Net}{ps:List Nat}(h:nS t K H a N ps):nS t K H' a N ps:=by
 obtain⟨dx,lm,lt,as,ts,h1,h2,h3,h4,h5,h6⟩:=h;exact⟨dx,lm,lt,as,ts,k.bM h1 (s.ins _ _ _ _ h1 nofun),k.bM h2 (s.lst _ _ h2),h3.Ib k s,k.bM h4 (s.lst _ _ h4),h5,λc tb e=>k.bM (h6 c tb e) (s.lst _ _ (h6 c tb e))⟩
def Jk (t:cT) (K:aa):Sp:=λvs H Q _=>∃(a dx lm:Addr) (N:Net) (ps:List Nat) (as:List Addr),vs=[.ref a,.ref lm,.int N.clocks.length]/\NOk N/\H a=some (.ins t.ju dx [])/\H lm=some (.lst (as.map V.ref))/\gf t K H N as (cands N ps) /\
 ∀H':Hp,nS t K H' a N ps->Keeps [a] H H'->Q .gi H'
theorem HQ (T:Txt K mg t):IA P w K mg base 4 t.ju "Spot" ["self", "moves", "clocks"] (Jk t K):=by
 obtain⟨f,fd,F,M,g⟩:=T.zX;refine⟨f,fd,F.ok rJ (λvs H Q E h=>?_) (λgw A outer s H vs Q E hr h=>?_),M,g,F.binds (λ_ _ _ _ _ _ us hl=>match us,hl with|[_,_,_],_=>rfl)⟩
 ·obtain⟨a,dx,lm,N,ps,as,rfl,_⟩:=h;rfl
 obtain⟨a,dx,lm,N,ps,as,rfl,h⟩:=h;have hu:=cF hr;refine' ⟨?t,?p,?r⟩
 case p =>
  refine' (aj (bW (pv 0) (pv 1) rfl) (aj (bW (pv 0) (eF EZ (eF Bu bf (bT cO rfl T.eY dR (ag (pv 1) aC))) bf) rfl) (aD (bW (pv 0) (Bp (own:=[("clock",3)]) rfl rJ.nd (qP rfl T.mY (ag (pv 2) aC)) (by exact pN rfl) ?NF ?ND ?NG) rfl))))
  case NF=>intro _ _ _ _ _;exact(cB (i:=3) rJ.nd rfl (aX rfl))
  case ND=>intro _ _ _ _ _;exact xx
  case NG=>intro _ _ _ _ _;exact(eG (Au T) (hr.mono (by decide)) rfl (ag (pv 1) (ag (pv 3) aC)))
 obtain⟨no,h1,hlm,hM,q⟩:=h;have nlm:lm≠a:=aK hlm h1 nofun
 have cl:=vj no ps;have al':(as.map V.ref).length=(cands N ps).length:=by rw[ax,hM.len]
 push_cast[h1,T.yQ];generalize e1:upd H a _=H1;obtain⟨g1,k1⟩:=wr e1;push_cast[k1.bM hlm nlm,T.yQ,al'];have VL:=no.cl;refine⟨⟨by omega,by omega,by decide⟩,by omega,by omega,λD hD=>?_⟩;generalize e2:upd H a _=H2 at hD⊢;obtain⟨g2,k2⟩:=wr e2;have hM2:=hM.Ib k2 (LZ.Uv h1);have YV:=k2.bM hlm nlm;rw[show((N.clocks.length:Int)).toNat=N.clocks.length from rfl];refine S7 (λi acc H'=>Keeps [] H2 H'/\∃ts:List Addr,acc=ts.map V.ref/\∀(c:Nat) (tb:Addr),ts[c]?=some tb->H' tb=some (.lst (qp N (cands N ps) c))/\tb≠D) (by simp only[sizeLine];omega) ⟨Keeps.refl.new hD,[],rfl,by simp⟩ ?_ ?_
 ·rintro i acc H' C hi RK xK ⟨kk,ts,rfl,Wc⟩ hC;push_cast[Af];refine⟨lm,N,as,cands N ps,i,rfl,kk.up YV,hM2.up kk,hi,λtb H3 g3 ntb k3=>?_⟩;refine hC (.ref tb) H3 (k3.up xK) λH5 e5=>?_
  obtain⟨g5,k5⟩:=wr e5;refine⟨(kk.trans k3).drop k5 (by simpa using hD),ts++[tb],by simp,λc tb' hc=>?_⟩;by_cases RH:c<ts.length
  ·rw[aO RH]at hc;obtain⟨q1,q2⟩:=Wc c tb' hc;exact⟨k5.bM (k3.up q1) q2,q2⟩
  ·rw[aM (by omega)]at hc
   match e:c-ts.length,hc with
   | 0,hc =>
    cases hc;have ec:c=i:=by rw[ax]at RK;omega
    subst ec;have ntD:tb≠D:=λz=>by rw[z,xK]at ntb;cases ntb
    exact⟨k5.bM g3 ntD,ntD⟩
   | m+1,hc=>simp at hc
 ·rintro acc H' RK xK ⟨kk,ts,rfl,Wc⟩;have ga:=kk.up g2;push_cast[ga,T.yQ];generalize e3:upd H' a _=H3;obtain⟨g3,k3⟩:=wr e3;have sp:nS t K H3 a N ps:=by
   refine⟨dx,lm,D,as,ts,?_,k3.bM (kk.up YV) nlm,?_,k3.bM xK (aK xK ga nofun),by simpa using RK,λc tb hc=>k3.bM (Wc c tb hc).1 (aK (Wc c tb hc).1 ga nofun)⟩
   ·rw[g3,show((cands N ps).length:Int).toNat=(cands N ps).length from rfl];have:0<2 ^ (cands N ps).length:=kU _;have e:(1:Int) * 2 ^ (cands N ps).length-1=((2 ^ (cands N ps).length-1:Nat):Int):=by
     rw[Int.one_mul,Int.natCast_sub this,Int.natCast_pow];rfl
    rw[e]
   ·have kx:Keeps [a] H H3:=(k2.trans kk.any).trans k3;exact hM.Ib kx (LZ.Uv h1)
  exact q H3 sp ((k2.trans kk.any).trans k3)
def Bb (t:cT) (K:aa):Sp:=λvs H Q _=>∃(a:Addr) (N:Net) (ps tm:List Nat),vs=[.ref a,.int (enc 32 tm:Nat)]/\nS t K H a N ps/\tm.length=N.clocks.length/\(∀x∈tm,x<=16) /\
 Q (.int (bits ((cands N ps).map λmv=>(bF N.clocks.length).all λc=>dG N mv c (tm.getD c 0)):Nat)) H
theorem uS (T:Txt K mg t):yy P w K mg base 1 t.ju "allowed_moves" ["self", "shown"] (Bb t K):=by
 obtain⟨f,fd,F,M⟩:=T.m9;refine⟨T.qZ.cl,f,fd,F.ok fq (λvs H Q E h=>?_) (λgw A outer s H vs Q E hr h=>?_),M,F.binds (λ_ _ _ _ _ _ us hl=>match us,hl with|[_,_],_=>rfl)⟩
 ·obtain⟨a,N,ps,tm,rfl,_⟩:=h;rfl
 obtain⟨a,N,ps,tm,rfl,h⟩:=h;have hu:=cF hr;refine⟨_,(aj (bO (i:=2) fq.nd rfl (aX rfl) (aV (pv 0) rfl)) (aj (fU PassesOwn.never rfl (fE (aV (pv 0) rfl)) (cB (i:=3) fq.nd rfl (aX rfl)) (aj (bO (i:=2) fq.nd rfl (aX rfl) (eF t9 (pv 2) (dw dq (pv 3) (eF t9 (pv 1) (b9 T.iM rfl)) (λ_ _=>rfl)))) (aD (bO (i:=1) fq.nd rfl (aX rfl) (eF E1 (pv 1) (b9 T.gQ rfl)))))) (aD (bj (pv 2))))),?_⟩;obtain⟨⟨dx,lm,lt,as,ts,h1,h2,h3,h4,h5,h6⟩,tl,Up,q⟩:=h;push_cast[h1,T.yQ];refine⟨⟨_,dO.of h4⟩,gU (xs:=ts.map V.ref) (λi σ H'=>H'=H/\∃x,σ=[some (.ref a),some (.int (enc 32 (tm.drop i):Nat)),some (.int (bits ((cands N ps).map λmv=>(bF i).all λc=>dG N mv c (tm.getD c 0)):Nat)),x]) ⟨rfl,none,?_⟩ (λi σ H' _ ⟨e,_⟩=>by rw[e];exact dO.of h4) ?_ ?_⟩
 ·rw[fg];have:((cands N ps).map λmv=>(bF 0).all λc=>dG N mv c (tm.getD c 0))=bx (cands N ps).length true:=by simp[List.map_const']
  rw[this,NK]
 ·rintro i x σ H' hi ⟨rfl,y,rfl⟩;obtain⟨tb,YI,rfl⟩:=eI hi;have il:i<ts.length:=(aw.mp YI).1;obtain⟨v,hv⟩:∃v,tm[i]?=some v:=⟨_,ae (by omega)⟩;have v16:=Up v (aI hv);have ed:tm.drop i=v::tm.drop (i+1):=by
   obtain⟨h,e⟩:=aw.mp hv;rw[dY h,e]
  have e31:Builtin.bitAnd ((enc 32 (tm.drop i):Nat):Int) 31=((v:Nat):Int):=by
   rw[bitAnd_m5,ed];have:=oK (b:=32) (x:=v) (r:=tm.drop (i+1)) (by omega);omega
  have e5:((enc 32 (tm.drop i):Nat):Int) / 2 ^ (5:Int).toNat=((enc 32 (tm.drop (i+1)):Nat):Int):=by
   rw[show(5:Int).toNat=5 from rfl,ed];have:=mX (b:=32) (x:=v) (r:=tm.drop (i+1)) (by omega);omega
  have eT:nB (qp N (cands N ps) i) (v:Int)=some (V.int (bits ((cands N ps).map λmv=>dG N mv i v):Nat)):=by
   refine de ?_;unfold qp;rw[aR,fk (by omega)];rfl
  push_cast[e31,h6 i tb YI,eT,bitAnd_nn,e5];refine⟨by decide,?_⟩;rw[Ri];refine congrArg (λl=>bits l) ?_ |> λe=>by rw[e]
  rw[Ru,List.zipWith_self];refine iw λmv _=>?_
  rw[RS,List.all_append,fc,W8,xg];have:tm.getD i 0=v:=by rw[bB,hv];rfl
  rw[this]
 ·rintro σ H' ⟨rfl,y,rfl⟩;push_cast;rw[ax,h5];exact q
end
def wo (H:Hp) (M:List Addr):Hp:=λb=>if b∈M then none else H b
theorem bE {H:Hp}{M:List Addr}{b:Addr}{o:HO}:wo H M b=some o↔b∉M/\H b=some o:=by
 unfold wo;by_cases h:b∈M
 ·simp[h]
 ·simp[h]
theorem cG {H:Hp}{M:List Addr}:Keeps [] (wo H M) H:=⟨λb o h _=>(bE.mp h).2,λb h=>by unfold wo;split<;>first|rfl|exact h⟩
theorem Keeps.wo {M:List Addr}{H H':Hp}(k:Keeps M H H'):Keeps [] (wo H M) (wo H' M):=⟨λb o h _=>by
 obtain⟨h1,h2⟩:=bE.mp h;exact bE.mpr ⟨h1,k.kp b o h2 h1⟩,λb h=>by
 unfold Mp.wo at h⊢;by_cases hb:b∈M
 ·simp[hb]
 ·simp only[hb,if_false]at h⊢;exact k.gr b h⟩
theorem wc {H H':Hp}{M:List Addr}(k:Keeps [] H H') (hM:∀x∈M,H x=none):Keeps [] H (wo H' M):=⟨λb o h _=>bE.mpr ⟨λz=>(by rw[hM b z]at h;cases h),k.up h⟩,λb h=>by
 by_cases hb:b∈M
 ·exact hM b hb
 ·unfold wo at h;simp only[hb,if_false]at h;exact k.gr b h⟩
structure AS (t:cT) (K:aa) (H:Hp) (ks:Addr) (N:Net):Prop where
 ex:∃bD:List (Key×V),H ks=some (.dK bD)/\(bD.map (·.1)).Nodup/\(∀x∈bD,∃ps sp,x=(cy ((enc 8 ps:Nat):Int),.ref sp)/\vp N ps/\nS t K H sp N ps)
def Ul (N:Net):Nat:=enc 32 (bx N.clocks.length 1)
structure fT (t:cT) (K:aa) (H:Hp) (a ks:Addr) (N:Net):Prop where
 ex:∃dx td,wo H [ks] a=some (.ins t.dX dx (gV (.ref td) (.ref ks) (.int (Ul N:Nat))))/\gE t (wo H [ks]) td N
 kn:AS t K H ks N
theorem AS.up {t:cT}{K:aa}{H H':Hp}(k:Keeps [] H H'){ks:Addr}{N:Net}(h:AS t K H ks N):AS t K H' ks N:=by
 obtain⟨bD,h1,h2,h3⟩:=h.ex;exact⟨bD,k.up h1,h2,λx hx=>let ⟨ps,sp,e1,e2,e3⟩:=h3 x hx;⟨ps,sp,e1,e2,e3.up k⟩⟩
theorem fT.up {t:cT}{K:aa}{H H':Hp}(k:Keeps [] H H'){a ks:Addr}{N:Net}(h:fT t K H a ks N):fT t K H' a ks N:=by
 obtain⟨dx,td,h1,h2⟩:=h.ex;exact⟨⟨dx,td,(k.any (M:=[ks])).wo.up h1,h2.up (k.any (M:=[ks])).wo⟩,h.kn.up k⟩
section
variable {P:Program}{w:World}{K:aa}{mg:Str->Option Value}{base:Heap}{t:cT}
def GG (t:cT) (K:aa):Sp:=λvs H Q _=>∃(a dx td:Addr) (N:Net),vs=[.ref a,.ref td]/\H a=some (.ins t.dX dx [])/\NOk N/\gE t (wo H [a]) td N/\∀(ks:Addr) (H':Hp),fT t K H' a ks N->H ks=none->Keeps [a] H H'->Q .gi H'
theorem Md (i:Nat):enc 32 (bx i 1)+32 ^ i=enc 32 (bx (i+1) 1):=by
 rw[KQ,B1,IC,Z0]
theorem FQ (T:Txt K mg t):IA P w K mg base 1 t.dX "World" ["self", "told"] (GG t K):=by
 obtain⟨f,fd,F,M,g⟩:=T.xU;refine⟨f,fd,F.ok vI (λvs H Q E h=>?_) (λgw A outer s H vs Q E hr h=>?_),M,g,F.binds (λ_ _ _ _ _ _ us hl=>match us,hl with|[_,_],_=>rfl)⟩
 ·obtain⟨a,dx,td,N,rfl,_⟩:=h;rfl
 obtain⟨a,dx,td,N,rfl,h⟩:=h;have hu:=cF hr;refine⟨_,(aj (bW (pv 0) (pv 1) rfl) (aj (bW (pv 0) jo rfl) (aj (bW (pv 0) bf rfl) (aD (fU PassesOwn.never rfl (qP rfl T.mY (ag (bT oT rfl T.eY dR (ag (aV (pv 1) rfl) aC)) aC)) (cB (i:=2) vI.nd rfl (aX rfl)) (aD (Ds (pv 0) (eF Bu bf (eF JN (b9 T.gQ rfl) (pv 2))) Qm))))))),?_⟩;obtain⟨h1,no,hT,q⟩:=h;obtain⟨dxT,dC,dS,dN,lM,ms,t1,t2,t3⟩:=id hT;obtain⟨nt1,t1'⟩:=bE.mp t1;obtain⟨nt2,t2'⟩:=bE.mp t2;have ntd:td≠a:=by simpa using nt1
 have ndC:dC≠a:=by simpa using nt2
 push_cast[h1,T.jH];intro ks Wi;generalize e1:upd H a _=H1 at Wi⊢;obtain⟨g1,k1⟩:=wr e1;generalize e2:upd H1 ks _=H2;obtain⟨g2,k2⟩:=al e2 Wi;push_cast[k2.up g1,T.jH];generalize e3:upd H2 a _=H3;obtain⟨g3,k3⟩:=wr e3;have Hh:Keeps [a] H H3:=(k1.trans k2.any).trans k3;push_cast[Hh.bM t1' ntd,Hh.bM t2' ndC,T.cN];have VL:=no.cl;have Zk:H ks=none:=k1.gr _ Wi;have nd:(lX N.clocks).length=N.clocks.length:=by simp[lX]
 rw[nd];refine⟨by omega,by omega,?_⟩;rw[show((N.clocks.length:Int)).toNat=N.clocks.length from rfl];refine Fv (λi σ H'=>(∃x,σ=[some (.ref a),some (.ref td),x])/\Keeps [a] H H'/\H' ks=some (.dK [])/\H' a=some (.ins t.dX dx (gV (.ref td) (.ref ks) (.int (enc 32 (bx i 1):Nat))))) ⟨⟨_,rfl⟩,Hh,k3.bM g2 (aK g2 (k2.up g1) nofun),g3⟩ ?_ ?_
 ·rintro i σ H' hi ⟨⟨x,rfl⟩,k,hk,hg⟩;push_cast[hg,T.jH,Af];refine⟨.inl ⟨by decide,by decide⟩,⟨by omega,by omega,by decide⟩,?_⟩;generalize e4:upd H' a _=H4;obtain⟨g4,k4⟩:=wr e4;refine⟨k.trans k4,k4.bM hk (aK hk hg nofun),?_⟩;have e:(enc 32 (bx i 1):Int)+1 * 2 ^ (5 * (i:Int)).toNat=((enc 32 (bx (i+1) 1):Nat):Int):=by
   rw[<-Md,show(5 * (i:Int)).toNat=5 * i by omega,show(32:Nat) ^ i=2 ^ (5 * i) by rw[L4]];simp
  rw[e]
 ·rintro σ H' ⟨⟨x,rfl⟩,k,hk,hg⟩;have nks:a≠ks:=aK hg hk nofun
  refine q ks H' ⟨⟨dx,td,bE.mpr ⟨by simpa using nks,hg⟩,?_⟩,⟨[],hk,by simp,by simp⟩⟩ Zk k;refine hT.up ⟨λb o hb _=>?_,λb hb=>?_⟩
  ·obtain⟨n,hb⟩:=bE.mp hb;exact bE.mpr ⟨λz=>(by rw[aL]at z;rw[z,Zk]at hb;cases hb),k.kp b o hb n⟩
  ·unfold wo at hb⊢;by_cases z:b∈[a]
   ·simp[z]
   ·simp only[z,if_false];by_cases z2:b∈[ks]
    ·rw[aL]at z2;rw[z2];exact Zk
    ·simp only[z2,if_false]at hb;exact k.gr b hb
end
theorem AZ {bD:List (Key×V)}{k:Key}{v:V}(h:eQ bD k=some v):(k,v)∈bD:=by
 unfold eQ at h;cases e:bD.find? (λkv=>decide (kv.1=k))with
 | none=>rw[e]at h;cases h
 | some x =>
  rw[e]at h;cases h;have h1:=Ed e;have h2:=List.find?_some e;rw[<-of_decide_eq_true h2];exact h1
theorem Dh {bD:List (Key×V)}{k:Key}(h:eQ bD k=none):k∉bD.map (·.1):=by
 intro hk;obtain⟨x,hx,e⟩:=aH.mp hk;unfold eQ at h;rw[F5,kW]at h;exact h x hx (decide_eq_true e)
theorem M6 {t:cT}{K:aa}{H:Hp}{N:Net}(no:NOk N){bD:List (Key×V)}(nd:(bD.map (·.1)).Nodup) (h:∀x∈bD,∃ps sp,x=(cy ((enc 8 ps:Nat):Int),V.ref sp)/\vp N ps/\nS t K H sp N ps):bD.length<=512:=by
 have:=qR nd (A:=(bF 512).map λn=>(cy ((n:Nat):Int):Key)) λk hk=>by
  obtain⟨x,hx,rfl⟩:=aH.mp hk;obtain⟨ps,sp,rfl,ao,_⟩:=h x hx;exact aH.mpr ⟨enc 8 ps,iz.mpr (Km no ao),rfl⟩
 simpa using this
theorem Fn {N:Net}(no:NOk N){ps Vx:List Nat}(h:vp N ps) (h':vp N Vx) (e:(cy ((enc 8 ps:Nat):Int):Key)=cy ((enc 8 Vx:Nat):Int)):ps=Vx:=by
 injection e with e
 exact enc_inj (by rw[h.al,h'.al]) (h.p8 no) (h'.p8 no) (by omega)
section
variable {P:Program}{w:World}{K:aa}{mg:Str->Option Value}{base:Heap}{t:cT}
def Jo (t:cT) (K:aa):Sp:=λvs H Q _=>∃(a ks:Addr) (N:Net) (tm:List Nat),vs=[.ref a,.int (enc 32 tm:Nat)]/\fT t K H a ks N/\tm.length=N.clocks.length/\(∀x∈tm,x<=16)/\Q (.int (enc 32 (tm.map λv=>min (v+1) 16):Nat)) H
theorem ye (T:Txt K mg t):yy P w K mg base 1 t.dX "one_later" ["self", "shown"] (Jo t K):=by
 obtain⟨f,fd,F,M⟩:=T.qc;refine⟨T.jO.cl,f,fd,F.ok ph (λvs H Q E h=>?_) (λgw A outer s H vs Q E hr h=>?_),M,F.binds (λ_ _ _ _ _ _ us hl=>match us,hl with|[_,_],_=>rfl)⟩
 ·obtain⟨a,ks,N,tm,rfl,_⟩:=h;rfl
 obtain⟨a,ks,N,tm,rfl,h⟩:=h;have hu:=cF hr;refine⟨_,(aj (bO (i:=2) ph.nd rfl (aX rfl) (eF t9 (eF E1 (pv 1) (b9 T.jM rfl)) (aV (pv 0) rfl))) (aD (bj (eF EZ (eF ku (pv 1) (aV (pv 0) rfl)) (pv 2))))),?_⟩;obtain⟨hW,tl,Up,q⟩:=h;obtain⟨dx,td,h1,h2⟩:=hW.ex;have CW:=cG.up h1;push_cast[CW,T.jH];refine⟨by decide,?_⟩;have e1:((enc 32 tm:Nat):Int) / 2 ^ (4:Int).toNat=((enc 32 tm / 16:Nat):Int):=by
  rw[show(4:Int).toNat=4 from rfl];omega
 have e2:=DA tm Up;have e3:=DH tm Up;rw[tl]at e2 e3;rw[e1,bitAnd_nn];unfold Ul;rw[e2];have e4:((enc 32 tm:Nat):Int)+((enc 32 (bx N.clocks.length 1):Nat):Int)-((enc 32 (tm.map (· / 16)):Nat):Int)=((enc 32 (tm.map λv=>min (v+1) 16):Nat):Int):=by omega
 rw[e4];exact q
def Ey (t:cT) (K:aa):Sp:=λvs H Q _=>∃(a ks:Addr) (N:Net),vs=[.ref a]/\fT t K H a ks N/\mm N/\∀H',Keeps [] H H'->Q (.bl (nq N 1 (dH N))) H'
theorem Et (N:Net):enc 8 (dH N).at_=0:=by
 show enc 8 (N.machines.map λ_=>0)=0;rw[BB,xY]
theorem Jc (N:Net) (c:Nat):(dH N).time.getD c 0=0:=by
 show(N.clocks.map λ_=>0).getD c 0=0;rw[bB,aR];cases N.clocks[c]?<;>rfl
theorem og (T:Txt K mg t):yy P w K mg base 3 t.dX "start_holds" ["self"] (Ey t K):=by
 obtain⟨f,fd,F,M⟩:=T.n0;refine⟨T.jO.cl,f,fd,F.ok jn (λvs H Q E h=>?_) (λgw A outer s H vs Q E hr h=>?_),M,F.binds (λ_ _ _ _ _ _ us hl=>match us,hl with|[_],_=>rfl)⟩
 ·obtain⟨a,ks,N,rfl,_⟩:=h;rfl
 obtain⟨a,ks,N,rfl,h⟩:=h;have hu:=cF hr;refine⟨_,(aj (fU PassesOwn.never rfl (fE (gP (rb T) (hr.mono (by decide)) (aV (pv 0) rfl) (ag (eG (Ab T) (hr.mono (by decide)) rfl (ag (aV (pv 0) rfl) (ag bf aC))) aC))) (cB (i:=1) jn.nd rfl (aX rfl)) (aD (fU PassesOwn.never rfl (qP rfl T.mY (ag (bT oT rfl T.eY dR (ag (aV (aV (pv 0) rfl) rfl) aC)) aC)) (cB (i:=2) jn.nd rfl (aX rfl)) (aD (cS (qu (i7 (gP (qF T) (hr.mono (by decide)) (pv 1) (ag (pv 2) (ag bf aC))))) (aD (bj jq)) bL))))) (aD (bj jq))),?_⟩;obtain⟨hW,nf,q⟩:=h;obtain⟨dx,td,h1,h2⟩:=hW.ex;have CW:=cG.up h1;have hT:=h2.up cG;obtain⟨dxT,dC,dS,dN,lM,ms,t1,t2,t3⟩:=id hT;have so:=(xn nf).a;push_cast[CW,t1,T.jH,T.cN];refine⟨td,N,(dH N).at_,by rw[Et];rfl,hT,nf.toNOk,so,λlp H1 g1 n1 k1=>?_⟩;refine⟨td,lp,N,(dH N).at_,rfl,hT.up k1,nf.toNOk,so,g1,λlb bs H2 g2 Nk QF n2 k2=>?_⟩;have kk:=k1.trans k2;push_cast;have er:nq N 1 (dH N)=(fV N (dH N).at_).all λB=>(bF N.clocks.length).all λc=>gR B c 0:=by
  rw[G0 nf.toNOk,Ie];refine kJ λB _=>kJ λc _=>?_
  rw[Jc];rfl
 have VL:=nf.cl;have nd:(lX N.clocks).length=N.clocks.length:=by simp[lX]
 rw[er]at q;refine⟨⟨_,dO.of g2⟩,gU (xs:=bs.map V.ref) (λi σ H'=>H'=H2/\(∃x y,σ=[some (.ref a),x,y])/\∀B∈(fV N (dH N).at_).take i,((bF N.clocks.length).all λc=>gR B c 0)=true) ⟨rfl,⟨_,_,rfl⟩,by simp⟩ (λi σ H' _ ⟨e,_⟩=>by rw[e];exact dO.of g2) ?_ ?_⟩
 ·rintro i x σ H' hi ⟨rfl,⟨x0,y0,rfl⟩,hn⟩;obtain⟨b,hb,rfl⟩:=eI hi;obtain⟨B,hB⟩:∃B,(fV N (dH N).at_)[i]?=some B:=⟨_,ae (by rw[<-Nk];exact(aw.mp hb).1)⟩;have hBA:=QF i b B hb hB;obtain⟨Zp,lo,N8,f1,f2,f3,f4⟩:=id hBA;push_cast[kk.up CW,kk.up t1,kk.up t2,nd,T.jH,T.cN];refine⟨by omega,by omega,?_⟩;rw[show((N.clocks.length:Int)).toNat=N.clocks.length from rfl];refine Fv (λj σ H3=>H3=H'/\(∃y,σ=[some (.ref a),some (.ref b),y])/\∀c,c<j->gR B c 0=true) ⟨rfl,⟨_,rfl⟩,by omega⟩ ?_ ?_
  ·rintro j σ H3 hj ⟨rfl,⟨y,rfl⟩,hm⟩;push_cast[f1,T.j5,Af];refine⟨b,N.clocks.length,B,j,0,rfl,hBA,hj,by omega,?_⟩;push_cast;by_cases hh:gR B j 0=true
   ·rw[if_neg (by rw[hh];exact nofun)];intro c hc;by_cases e:c=j
    ·rw[e];exact hh
    ·exact hm c (by omega)
   ·rw[if_pos (by rw[bz.mpr hh];rfl)];have e:((fV N (dH N).at_).all λB=>(bF N.clocks.length).all λc=>gR B c 0)=false:=by
     rw[<-AB,bC];intro z;exact hh (bC.mp (z B (aI hB)) j (iz.mpr hj))
    rw[e]at q;exact q _ kk
  ·rintro σ H3 ⟨rfl,⟨y,rfl⟩,hm⟩;refine⟨rfl,⟨_,_,rfl⟩,λB' UO=>?_⟩;rw[bX hB]at UO;rcases aN.mp UO with z|z
   ·exact hn B' z
   ·rw[aL]at z;rw[z,bC];exact λc hc=>hm c (iz.mp hc)
 ·rintro σ H' ⟨rfl,⟨x0,y0,rfl⟩,hn⟩;rw[ax,Nk,bP]at hn;push_cast;rw[bC.mpr hn]at q;exact q _ kk
def OZ (t:cT) (K:aa):Sp:=λvs H Q _=>∃(a ks:Addr) (N:Net) (ps:List Nat),vs=[.ref a,.int (enc 8 ps:Nat)]/\fT t K H a ks N/\NOk N/\vp N ps/\∀(sp:Addr) (H':Hp),fT t K H' a ks N->nS t K H' sp N ps->Keeps [ks] H H'->Q (.ref sp) H'
theorem Av (T:Txt K mg t):yy P w K mg base 6 t.dX "spot_at" ["self", "number"] (OZ t K):=by
 obtain⟨f,fd,F,M⟩:=T.sP;refine⟨T.jO.cl,f,fd,F.ok qM (λvs H Q E h=>?_) (λgw A outer s H vs Q E hr h=>?_),M,F.binds (λ_ _ _ _ _ _ us hl=>match us,hl with|[_,_],_=>rfl)⟩
 ·obtain⟨a,ks,N,ps,rfl,_⟩:=h;rfl
 obtain⟨a,ks,N,ps,rfl,h⟩:=h;have hu:=cF hr;refine⟨_,(aj (cS (nJ (iJ hu (pv 1) (aV (pv 0) rfl))) (aj (bO (i:=2) qM.nd rfl (aX rfl) (eG (FN T) (hr.mono (by decide)) rfl (ag (aV (pv 0) rfl) (ag (eG (Ab T) (hr.mono (by decide)) rfl (ag (aV (pv 0) rfl) (ag (pv 1) aC))) aC)))) (aD (qO hu (aV (pv 0) rfl) (pv 1) (vK (HQ T) (hr.mono (by decide)) rfl (ag (pv 2) (ag (bT oT rfl T.eY dR (ag (aV (aV (pv 0) rfl) rfl) aC)) aC))) rfl))) bL) (aD (bj (lH hu (aV (pv 0) rfl) (pv 1) (λ_ _=>rfl))))),?_⟩;obtain⟨hW,no,ao,q⟩:=h;obtain⟨dx,td,h1,h2⟩:=hW.ex;obtain⟨bD,hk,hnd,Tr⟩:=hW.kn.ex;have CW:=cG.up h1;have hT:=h2.up cG;push_cast[CW,hk,T.jH,if_true];cases hv:eQ bD (cy ((enc 8 ps:Nat):Int))with
 | some v =>
  obtain⟨Vx,sp,e1,ao',hS⟩:=Tr _ (AZ hv);have e2:=congrArg KL e1;have e3:=congrArg Ud e1;have:ps=Vx:=Fn no ao ao' e2;subst this;have e3:v = .ref sp:=e3;subst e3;push_cast[pP,bR,aE,if_false,CW,hk,hv,T.jH];exact q sp H hW hS Keeps.refl
 | none =>
  obtain⟨dxT,dC,dS,dN,lM,ms,t1,t2,t3⟩:=id hT;have nd:(lX N.clocks).length=N.clocks.length:=by simp[lX]
  push_cast[KO,bH,if_true,CW,hk,T.jH];refine⟨td,N,ps,rfl,hT,no,ao,λlp H1 g1 n1 k1=>?_⟩;refine⟨td,lp,N,ps,rfl,hT.up k1,no,ao,g1,λl as H2 g2 hM n2 k2=>?_⟩;have kk:=k1.trans k2;push_cast[kk.up CW,kk.up t1,kk.up t2,nd,T.jH,T.cN];intro b dx' nb F7 nn;generalize e4:upd (upd H2 dx' _) b _=H4;obtain⟨g4,k4⟩:=N0 e4 nb F7 nn;refine⟨b,dx',l,N,ps,as,rfl,no,g4,k4.up g2,hM.up k4,λH5 hS k5=>⟨rfl,?_⟩⟩;have J5:Keeps [] H H5:=(kk.trans k4).drop k5 (by simpa using kk.gr b nb);have kl:=M6 no hnd Tr;push_cast[J5.up CW,J5.up hk,T.jH];refine⟨by simp only[sizeLine];omega,?_⟩;rw[m7 hv];generalize e6:upd H5 ks _=H6;obtain⟨g6,k6⟩:=wr e6;have k06:Keeps [ks] H H6:=J5.any.trans k6;have ap:=LZ.ofD (J5.up hk);have hW6:fT t K H6 a ks N:=⟨⟨dx,td,k06.wo.up h1,h2.up k06.wo⟩,⟨_,g6,by
   rw[bo,eh];refine⟨hnd,by simp,λx hx y hy=>?_⟩;rw[aP,cn,aL]at hy;rw[hy];exact λz=>Dh hv (by rw[z]at hx;exact hx),λx hx=>by
   rcases aN.mp hx with z|z
   ·obtain⟨Vx,sp,e,ao',Ws⟩:=Tr x z;exact⟨Vx,sp,e,ao',(Ws.up J5).Ib k6 ap⟩
   ·rw[aL]at z;exact⟨ps,b,z,ao,hS.Ib k6 ap⟩⟩⟩
  have hv6:eQ (bD++[(cy ((enc 8 ps:Nat):Int),V.ref b)]) (cy ((enc 8 ps:Nat):Int))=some (V.ref b):=by
   unfold eQ at hv⊢;rw[F5]at hv;rw[ji,hv];simp
  push_cast[cG.up (k06.wo.up h1),g6,hv6,T.jH];exact q b H6 hW6 (hS.Ib k6 ap) k06
end
theorem Rh (k:Nat):Builtin.Int.intBits ((2 ^ k:Nat):Int)=k+1:=by
 unfold Builtin.Int.intBits;have:0<2 ^ k:=kU k;have h2:((2 ^ k:Nat):Int)≠0:=by
  generalize 2 ^ k=n at this;omega
 rw[if_neg (by rw[beq_iff_eq];exact h2),Int.natAbs_natCast,Nat.log2_two_pow]
theorem S5 {k:Nat}{r:List Nat}(h:∀j∈r,k<j):Builtin.bitAnd ((rowOf (k::r):Nat):Int) (-((rowOf (k::r):Nat):Int))=((2 ^ k:Nat):Int):=by
 have p:0<2 ^ k:=kU k;have p2:0<rowOf (k::r):=by rw[rowOf];omega
 have e : -((rowOf (k::r):Nat):Int)=Builtin.bitNot ((rowOf (k::r)-1:Nat):Int):=by
  unfold Builtin.bitNot;omega
 rw[e,bitAnd_not,Sx h]
theorem Ia:∀(l:List Nat) (i k:Nat),Asc l->l[i]?=some k->l.drop i=k::l.drop (i+1)/\∀j∈l.drop (i+1),k<j
 | [],i,k,_,h=>by simp at h
 | x::l,0,k,a,h=>by cases h;exact⟨rfl,a.1⟩
 | x::l,i+1,k,a,h=>Ia l i k a.2 h
structure sF (t:cT) (K:aa) (H:Hp) (N:Net) (ts:List Addr) (l:List (Mv×State)):Prop where
 len:ts.length=l.length
 at_:∀(j:Nat) (T:Addr) (p:Mv×State),ts[j]?=some T->l[j]?=some p->∃b,H T=some (.tup [.ref b,.int (dM p.2:Nat)])/\jw t K H b N p.1
theorem Te {α:Type}(p:α->Bool) (l:List α){i k:Nat}(h:(ko (l.map p) 0)[i]?=some k):∃x,l[k]?=some x/\(l.filter p)[i]?=some x:=by
 have e:=tP p l 0 (λj=>l[j]?) (λj=>by rw[gk]);have e2:=congrArg (λz=>z[i]?) e;simp only[aR,h,cY]at e2;cases hf:(l.filter p)[i]? with
 | none=>rw[hf]at e2;cases e2
 | some x=>rw[hf]at e2;injection e2 with e2;exact⟨x,e2,rfl⟩
theorem Qg {α:Type}(p:α->Bool) (l:List α):(ko (l.map p) 0).length=(l.filter p).length:=by
 have e:=congrArg jT (tP p l 0 (λj=>l[j]?) (λj=>by rw[gk]));simpa using e
theorem aal {N:Net}{s:State}(h:mH N s):∀x∈s.time,x<32:=λx hx=>by have:=h.tt x hx;omega
theorem Kx {s:State}{mv:Mv}(h:mv.es=[]):dM (eD s mv)=enc 8 mv.to_ * 1048576+enc 32 (s.time.map λv=>min (v+1) 16):=by
 unfold dM eD
 congr 2
 show s.time.zipIdx.map (λx=>bY mv x.2 x.1)=_;have:(λx:Nat×Nat=>bY mv x.2 x.1)=(λv=>min (v+1) 16) ∘ KL:=by
  funext x
  unfold bY;rw[if_pos h];rfl
 rw[this,<-da,List.zipIdx_map_fst]
theorem Ii {N:Net}{s:State}(no:NOk N) (so:mH N s){mv:Mv}(h:¬mv.es=[]):dM (eD s mv)=enc 8 mv.to_ * 1048576+(enc 32 s.time &&& enc 32 (gD (nI mv.es))):=by
 rw[PN _ _ (aal so) (by rw[so.tl];exact no.cl)];unfold dM eD
 congr 2
 refine iw λx _=>?_
 unfold bY;rw[if_neg h];have:(mv.es.any λe=>e.sets.contains x.2)=true↔x.2∈nI mv.es:=by
  unfold nI;simp
 by_cases hc:x.2∈nI mv.es
 ·rw[if_pos (this.mpr hc),if_pos hc]
 ·rw[if_neg (λz=>hc (this.mp z)),if_neg hc]
section
variable {P:Program}{w:World}{K:aa}{mg:Str->Option Value}{base:Heap}{t:cT}
def GK (t:cT) (K:aa):Sp:=λvs H Q _=>∃(a ks:Addr) (N:Net) (s:State),vs=[.ref a,.int (dM s:Nat)]/\fT t K H a ks N/\NOk N/\mH N s /\
 ∀(l:Addr) (ts:List Addr) (H':Hp),H' l=some (.lst (ts.map V.ref))->sF t K H' N ts (nextM N s)->fT t K H' a ks N->H l=none->Keeps [ks] H H'->Q (.ref l) H'
theorem pJ (T:Txt K mg t):yy P w K mg base 7 t.dX "steps_from" ["self", "state"] (GK t K):=by
 obtain⟨f,fd,F,M⟩:=T.pA;refine⟨T.jO.cl,f,fd,F.ok cX (λvs H Q E h=>?_) (λgw A outer s H vs Q E hr h=>?_),M,F.binds (λ_ _ _ _ _ _ us hl=>match us,hl with|[_,_],_=>rfl)⟩
 ·obtain⟨a,ks,N,s0,rfl,_⟩:=h;rfl
 obtain⟨a,ks,N,s0,rfl,h⟩:=h;have hu:=cF hr;refine⟨_,(aj (bO (i:=2) cX.nd rfl (aX rfl) (gP (Av T) (hr.mono (by decide)) (pv 0) (ag (eG (zh T) (hr.mono (by decide)) rfl (ag (pv 1) aC)) aC))) (aj (bO (i:=3) cX.nd rfl (aX rfl) (eF t9 (pv 1) (b9 T.eX rfl))) (aj (bO (i:=4) cX.nd rfl (aX rfl) (gP (uS T) (hr.mono (by decide)) (pv 2) (ag (pv 3) aC))) (aj (bO (i:=5) cX.nd rfl (aX rfl) (c9 aC)) (aj (m8 PassesOwn.never (br vM (pv 4) bf (bN _)) (aj (bO (i:=6) cX.nd rfl (aX rfl) (eF t9 (pv 4) (sM pb (pv 4)))) (aj (bO (i:=7) cX.nd rfl (aX rfl) (dw dq (aV (pv 2) rfl) (eF EZ (MP (pv 6)) bf) (λ_ _=>rfl))) (aj (bO (i:=8) cX.nd rfl (aX rfl) (xB (i7 (aV (pv 7) rfl)) (gP (ye T) (hr.mono (by decide)) (pv 0) (ag (pv 3) aC)) (eF t9 (pv 3) (aV (pv 7) rfl)))) (aj (d7 (lI bc bq bp eZ (pv 5) (ag (yM (ag (pv 7) (ag (eF ku (aV (pv 7) rfl) (pv 8)) aC))) aC))) (aD (tZ (i:=4) cX.nd rfl (aX rfl) (pv 6) V5))))))) (aD (bj (pv 5)))))))),?_⟩;obtain⟨hW,no,so,q⟩:=h;obtain⟨dx,td,h1,h2⟩:=hW.ex;have CW:=cG.up h1;push_cast[CW,T.jH];refine⟨dM s0,rfl,a,ks,N,s0.at_,by rw[qQ no so],hW,no,so.a,λsp H1 Xz hS k1=>?_⟩;obtain⟨dxS,lm,lt,as,tt,s1,s2,s3,s4,s5,s6⟩:=id hS;obtain⟨dx1,td1,w1,_⟩:=Xz.ex;have w1':=cG.up w1;have emod:Builtin.bitAnd ((dM s0:Nat):Int) 1048575=((enc 32 s0.time:Nat):Int):=by
  rw[<-yN no so,show(1048575:Int)=((1048575:Nat):Int) from rfl,bitAnd_nn];have:=nE (dM s0) 20;rw[show 2 ^ 20-1=1048575 by decide,show 2 ^ 20=1048576 by decide]at this;rw[this]
 push_cast[emod,s1,T.yQ];refine⟨sp,N,s0.at_,s0.time,rfl,hS,so.tl,so.tt,?_⟩;generalize Nh:ko ((cands N s0.at_).map (gW N s0)) 0=ix;have aaz:bits ((cands N s0.at_).map λmv=>(bF N.clocks.length).all λc=>dG N mv c (s0.time.getD c 0))=rowOf ix:=by rw[<-Nh,<-Vr];rfl
 have RF:ix.length=(nextM N s0).length:=by rw[<-Nh,Qg];unfold nextM;rw[ax]
 have RH:ix.length<=625:=by
  rw[<-Nh,Qg];exact bw (bS ..) (vj no _)
 have aaS:Asc ix:=by rw[<-Nh];exact wg _ _
 rw[aaz];intro l hl;generalize e2:upd H1 l _=H2;obtain⟨g2,k2⟩:=al e2 hl;have Zj:H l=none:=k1.gr _ hl;obtain⟨W,hWd⟩:∃W:Nat->L2.St->Hp->Prop,W=λm σ H'=>∃(i:Nat) (ts:List Addr),(∃x y z,σ=[some (.ref a),some (.int (dM s0:Nat)),some (.ref sp),some (.int (enc 32 s0.time:Nat)),some (.int (rowOf (ix.drop i):Nat)),some (.ref l),x,y,z])/\m=ix.length-i/\i<=ix.length/\Keeps [] H1 H'/\H' l=some (.lst (ts.map V.ref))/\ts.length=i /\
  ∀(j:Nat) (T:Addr) (p:Mv×State),ts[j]?=some T->(nextM N s0)[j]?=some p->∃b,H' T=some (.tup [.ref b,.int (dM p.2:Nat)])/\jw t K H1 b N p.1:=⟨_,rfl⟩
 refine⟨W,⟨ix.length,by rw[hWd];exact⟨0,[],⟨_,_,_,rfl⟩,rfl,ck _,k2,g2,rfl,by simp⟩⟩,?_⟩;intro m σ H' hw;rw[hWd]at hw;obtain⟨i,ts,⟨x0,y0,z0,rfl⟩,rfl,hi,kk,hg,htl,Wc⟩:=hw;push_cast;by_cases hX:i<ix.length
 ·have hk:ix[i]?=some ix[i]:=ae hX;generalize ix[i]=k at hk;obtain⟨ed,hgt⟩:=Ia ix i k aaS hk;have hk2:=hk;rw[<-Nh]at hk2;obtain⟨mv,Qz,hfl⟩:=Te _ _ hk2;have hnx:(nextM N s0)[i]?=some (mv,eD s0 mv):=by unfold nextM;rw[aR,hfl];rfl
  have p0:0<2 ^ k:=kU k;rw[ed];rw[if_pos (by rw[rowOf];exact decide_eq_true (by omega))];refine⟨λfK C4=>∃m',m'<ix.length-i/\W m' fK C4,λ_ _ h=>h,?_⟩;have hmk:(as.map V.ref)[k]?=some (.ref (as[k]'(by rw[s3.len];exact(aw.mp Qz).1))):=by simp
  have hak:as[k]?=some (as[k]'(by rw[s3.len];exact(aw.mp Qz).1)):=ae _;generalize as[k]'(by rw[s3.len];exact(aw.mp Qz).1)=b at hmk hak;have hMb:=s3.at_ k b mv hak Qz;obtain⟨dxb,bsp,ble,blb,bas,bbs,b1,_⟩:=id hMb;unfold Fw at b1;have eb:((Builtin.Int.intBits ((2 ^ k:Nat):Int):Nat):Int)-1=(k:Int):=by rw[Rh];omega
  have hb1:=kk.up b1;push_cast[S5 hgt,eb,kk.up s1,kk.up s2,de hmk,hb1,T.yQ,T.pk];have Zm:((rowOf (k::ix.drop (i+1)):Nat):Int)-((2 ^ k:Nat):Int)=((rowOf (ix.drop (i+1)):Nat):Int):=by rw[rowOf];omega
  have fin:∀(af:Nat),dM (eD s0 mv)=enc 8 mv.to_ * 1048576+af->∀p,H' p=none->∀H5,upd H' p (.tup [V.ref b,V.int (dM (eD s0 mv):Nat)])=H5->∀x,H5 l=some (.lst x)->x.length<sizeLine/\∃m',m'<ix.length-i/\W m' [some (.ref a),some (.int (dM s0:Nat)),some (.ref sp),some (.int (enc 32 s0.time:Nat)),some (.int (rowOf (ix.drop (i+1)):Nat)),some (.ref l),some (.int (2 ^ k:Nat)),some (.ref b),some (.int af)] (upd H5 l (.lst (x++[.ref p]))):=by
   intro af _ p hp H5 e5 x hx;obtain⟨g5,k5⟩:=al e5 hp;rw[k5.up hg]at hx;injection hx with hx
   injection hx with hx
   subst hx;refine⟨by rw[ax];simp only[sizeLine];omega,ix.length-(i+1),by omega,?_⟩;generalize e6:upd H5 l _=H6;obtain⟨g6,k6⟩:=wr e6;rw[hWd];refine⟨i+1,ts++[p],⟨_,_,_,rfl⟩,rfl,hX,(kk.trans k5).drop k6 (by simpa using hl),by rw[g6];simp,by simp[htl],λj T pp h1 h2=>?_⟩;by_cases hj:j<ts.length
   ·rw[aO hj]at h1;obtain⟨b',c1,c2⟩:=Wc j T pp h1 h2;exact⟨b',k6.bM (k5.up c1) (aK (k5.up c1) (k5.up hg) nofun),c2⟩
   ·rw[aM (by omega)]at h1
    match e:j-ts.length,h1 with
    | 0,h1 =>
     cases h1;have ej:j=i:=by omega
     subst ej;rw[hnx]at h2;cases h2;exact⟨b,k6.bM g5 (aK g5 (k5.up hg) nofun),hMb⟩
    | m+1,h1=>simp at h1
  by_cases he:mv.es=[]
  ·rw[if_pos (by rw[he];rfl)];have wa:=(Xz.up kk);have ef:=Kx (s:=s0) he;refine⟨_,_,kk.up w1',rfl,a,ks,N,s0.time,rfl,wa,so.tl,so.tt,?_⟩;push_cast[hb1,hg,T.pk];refine⟨by decide,λp hp=>?_⟩;generalize e5:upd H' p _=H5;have RP:=e5;rw[show((enc 8 mv.to_ * 1048576:Nat):Int)+((enc 32 (s0.time.map λv=>min (v+1) 16):Nat):Int)=((dM (eD s0 mv):Nat):Int) by rw[ef];omega]at RP;obtain⟨g5,k5⟩:=al e5 hp;have:=fin _ ef p hp H5 RP _ (k5.up hg);rw[Zm];exact⟨_,k5.up hg,this⟩
  ·rw[if_neg (by rw[gs];exact he)];have ef:=Ii no so he;push_cast[hg];refine⟨by decide,λp hp=>?_⟩;rw[bitAnd_nn];generalize e5:upd H' p _=H5;have RP:=e5;rw[show((enc 8 mv.to_ * 1048576:Nat):Int)+((enc 32 s0.time &&& enc 32 (gD (nI mv.es)):Nat):Int)=((dM (eD s0 mv):Nat):Int) by rw[ef];omega]at RP;obtain⟨g5,k5⟩:=al e5 hp;have:=fin _ ef p hp H5 RP _ (k5.up hg);rw[Zm];exact⟨_,k5.up hg,this⟩
 ·have e:i=ix.length:=by omega
  subst e;rw[sJ];rw[if_neg (by simp[rowOf])];refine q l ts H' hg ⟨by rw[htl,RF],λj T p h1 h2=>?_⟩ (Xz.up kk) Zj (k1.trans kk.any);obtain⟨b,c1,c2⟩:=Wc j T p h1 h2;exact⟨b,c1,c2.up kk⟩
end
def FO (M:List Addr):HO->Prop
 | .lst _=>True
 | .dK _=>True
 | .ins _ dx _=>dx∈M
 | .own y=>y∈M
 | _=>False
def yn (H:Hp) (M:List Addr):Prop:=∀x∈M,∃o,H x=some o/\FO M o
def frm (sp:Sp):Sp:=λvs H Q E=>∃M:List Addr,yn H M/\sp vs (wo H M) (λv H'=>∀H2,wo H2 M=H'->(∀x∈M,H2 x=H x)->Q v H2) E
theorem iD {H:Hp}{M:List Addr}{b:Addr}(h:H b=none):wo H M b=none:=by
 unfold wo
 split
 ·rfl
 ·exact h
theorem zB {H:Hp}{M:List Addr}{b:Addr}(h:b∈M):wo H M b=none:=by
 unfold wo;rw[if_pos h]
theorem nH {H:Hp}{M:List Addr}{b:Addr}(h:b∉M):wo H M b=H b:=by
 unfold wo;rw[if_neg h]
section
variable {P:Program}{w:World}{K:aa}{mg:Str->Option Value}{base:Heap}
theorem QZ {H:Hp}{h:Heap}{a:Addr}{o:HO}{M:List Addr}(ok:gB P w H h a o) (f:FO M o):∃ob,h.get? a=some ob:=by
 cases o with
 | lst xs=>obtain⟨z,cC,n,r,e⟩:=ok;exact⟨_,e⟩
 | dK bD=>obtain⟨z,y,vs,r,ob,es,ep,e,c⟩:=ok;exact⟨_,e⟩
 | ins C dx fs=>obtain⟨d,z,ne,e,_⟩:=ok;exact⟨_,e⟩
 | own y=>exact ok
 | _=>exact f.elim
theorem TM {H H2:Hp}{h h':Heap}{a:Addr}{o:HO}{M:List Addr}(ok:gB P w H h a o) (f:FO M o) (hm:a∈M) (hK:∀x∈M,∀o,h.get? x=some o->h'.get? x=some o) (e1:∀x,x∈M->H2 x=H x):gB P w H2 h' a o:=by
 cases o with
 | lst xs=>obtain⟨z,cC,n,r,e⟩:=ok;exact⟨z,cC,n,r,hK a hm _ e⟩
 | dK bD=>obtain⟨z,y,vs,r,ob,es,ep,e,c⟩:=ok;exact⟨z,y,vs,r,ob,es,ep,hK a hm _ e,c⟩
 | ins C dx fs =>
  obtain⟨d,z,ne,e,mA,⟨od,es,ep,ee,c⟩,r⟩:=ok;exact⟨by rw[e1 dx f];exact d,z,ne,hK a hm _ e,mA,⟨od,es,ep,hK dx f _ ee,c⟩,r⟩
 | own y=>obtain⟨ob,e⟩:=ok;exact⟨ob,hK a hm _ e⟩
 | _=>exact f.elim
theorem BR {k:Nat}{f:Addr}{fd:FuncData}{ps:List Str}{sp:Sp}(F:pR P w K mg base NR k f fd ps sp):pR P w K mg base NR k f fd ps (frm sp):=by
 refine⟨λvs H Q E ⟨M,_,q⟩=>F.len _ _ _ _ q,λA outer s H args us vs Q E hr he hb hv ⟨M,fr,q⟩=>?_⟩;have Wk:F1 P w K mg base A outer s (wo H M):=⟨he.frames,he.mod,λb o h=>⟨(he.bs b o h).1,iD (he.bs b o h).2⟩,he.Rf,he.yZ,λb hb=>iD (he.TF b hb),λa o ha=>by
  obtain⟨na,ha⟩:=bE.mp ha;refine(he.df a o ha).Am (λ_ _ _ z=>z) (λb hb=>?_) λb xs hb=>?_
  ·refine bE.mpr ⟨λz=>?_,hb⟩;obtain⟨o',h1,h2⟩:=fr b z;rw[hb]at h1;cases h1;exact na h2
  ·refine bE.mpr ⟨λz=>?_,hb⟩;obtain⟨o',h1,h2⟩:=fr b z;rw[hb]at h1;cases h1;exact h2,he.bare⟩
 refine codeAny_mono (F.run A outer s (wo H M) args us vs _ E hr Wk hb hv q) λr s' hq=>?_
 match r,hq with
 | .ok (.ret u),hq =>
  obtain⟨v,H',os,bare,un,df,r,q⟩:=hq;have hth:∀x∈M,∃o,s.heap.get? x=some o:=λx hx=>by
   obtain⟨o,h1,h2⟩:=fr x hx;exact QZ (he.df x o h1) h2
  have hM:∀x∈M,H' x=none:=λx hx=>by
   obtain⟨o,ho⟩:=hth x hx;exact un.free x o ho (zB hx) (by simp)
  have hK:∀x∈M,∀o,s.heap.get? x=some o->s'.heap.get? x=some o:=λx hx o ho=>un.keep x o ho (zB hx) (λz=>by
   obtain⟨o',h1,_⟩:=fr x hx;rw[he.TF x z]at h1;cases h1) (by simp)
  have hnM:∀b,H b=none->b∉M:=λb hb z=>by
   obtain⟨o,h1,_⟩:=fr b z;rw[hb]at h1;cases h1
  let H2:Hp:=λx=>if x∈M then H x else H' x
  have e1:∀x,x∈M->H2 x=H x:=λx hx=>if_pos hx
  have e2:∀x,x∉M->H2 x=H' x:=λx hx=>if_neg hx
  refine⟨v,H2,os,bare,⟨λb o ho hb hf hx=>un.keep b o ho (iD hb) hf hx,λb o ho hb hf hx=>un.slot b o ho (iD hb) hf hx,λb o ho hb hx=>by rw[e2 b (hnM b hb)];exact un.free b o ho (iD hb) hx,un.there,λb xs hb=>?_,λb o u hb=>?_,λb ps hb=>?_⟩,λa o ha=>?_,r,q H2 ?_ e1⟩
  ·have:b∉M:=λz=>by
    obtain⟨o,h1,h2⟩:=fr b z;rw[hb]at h1;cases h1;exact h2
   rw[e2 b this];exact un.Cw b xs (bE.mpr ⟨this,hb⟩)
  ·have:b∉M:=λz=>by
    obtain⟨o,h1,h2⟩:=fr b z;rw[hb]at h1;cases h1;exact h2
   rw[e2 b this];exact un.xN b o u (bE.mpr ⟨this,hb⟩)
  ·have:b∉M:=λz=>by
    obtain⟨o,h1,h2⟩:=fr b z;rw[hb]at h1;cases h1;exact h2
   rw[e2 b this];exact un.CG b ps (bE.mpr ⟨this,hb⟩)
  ·by_cases hm:a∈M
   ·rw[e1 a hm]at ha;have ok:=he.df a o ha;obtain⟨o',h1,h2⟩:=fr a hm;rw[ha]at h1;cases h1;exact TM ok h2 hm hK e1
   ·rw[e2 a hm]at ha;refine(df a o ha).Am (λ_ _ _ z=>z) (λb hb=>?_) λb xs hb=>?_
    ·rw[e2 b λz=>by rw[hM b z]at hb;cases hb];exact hb
    ·rw[e2 b λz=>by rw[hM b z]at hb;cases hb];exact hb
  ·funext x
   by_cases hx:x∈M
   ·rw[zB hx,hM x hx]
   ·rw[nH hx,e2 x hx]
theorem vm.frame {k:Nat}{x:Str}{ps:List Str}{sp:Sp}(F:vm P w K mg base k x ps sp):vm P w K mg base k x ps (frm sp):=by
 obtain⟨f,fd,h,r⟩:=F.ex;exact⟨f,fd,BR h,r⟩
theorem yy.frame {k:Nat}{C:Addr}{x:Str}{ps:List Str}{sp:Sp}(F:yy P w K mg base k C x ps sp):yy P w K mg base k C x ps (frm sp):=by
 obtain⟨f,fd,h,r⟩:=F.ex;exact⟨F.cl,f,fd,BR h,r⟩
theorem IA.frame {k:Nat}{C:Addr}{x:Str}{ps:List Str}{sp:Sp}(F:IA P w K mg base k C x ps sp):IA P w K mg base k C x ps (frm sp):=by
 obtain⟨f,fd,h,r⟩:=F.ex;exact⟨f,fd,BR h,r⟩
end
theorem yn.al {H:Hp}{M:List Addr}(f:yn H M){x:Addr}(h:H x=none):x∉M:=λz=>by
 obtain⟨o,h1,_⟩:=f x z;rw[h]at h1;cases h1
theorem oR {L M:List Addr}{H H2:Hp}(f:yn H M) (k:Keeps L (wo H M) (wo H2 M)) (e:∀x∈M,H2 x=H x):Keeps L H H2:=⟨λb o hb hl=>by
 by_cases hm:b∈M
 ·rw[e b hm];exact hb
 ·exact(bE.mp (k.kp b o (bE.mpr ⟨hm,hb⟩) hl)).2,λb hb=>by
 by_cases hm:b∈M
 ·rw[e b hm]at hb;exact hb
 ·have:=k.gr b (iD hb);rw[nH hm]at this;exact this⟩
open Md16 (Found)
structure Sa where
 a:Addr
 dx:Addr
 w:Addr
 ks:Addr
 lS:Addr
 dS:Addr
 lB:Addr
 lL:Addr
 dF:Addr
def Sa.M (z:Sa):List Addr:=[z.a,z.dx,z.lS,z.dS,z.lB,z.lL,z.dF]
def pI (all:List Found):List V:=all.map λx=>V.int (dM x.1:Nat)
def vD (all:List Found):List (Key×V):=all.map λx=>(cy ((dM x.1:Nat):Int),V.bl true)
def du (l:List (List Nat×Nat)):List (Key×V):=l.map λx=>(cy ((enc 8 x.1:Nat):Int),V.int (x.2:Nat))
def Chain (K:aa) (G:Hp) (all:List Found) (bs:List Int) (ls:List V):Prop:=∀(i:Nat) (x:Found),all[i]?=some x->(i=0/\x.2=[])\/∃(b:Nat) (y:Found) (st:fH) (sp:Addr),b<i/\bs[i]?=some (b:Int)/\all[b]?=some y/\x.2=st::y.2/\ls[i]?=some (.ref sp)/\lR K G sp (zD st)
structure WX (K:aa) (H:Hp) (z:Sa) (N:Net) (all:List Found):Prop where
 s:H z.lS=some (.lst (pI all))
 d:H z.dS=some (.dK (vD all))
 f:H z.dF=some (.dK (du (sL (ie all))))
 ex:∃(bs:List Int) (ls:List V),H z.lB=some (.lst (bs.map V.int))/\H z.lL=some (.lst ls)/\bs.length=all.length/\ls.length=all.length/\Chain K (wo H z.M) all bs ls
 ok:Cq N all
 nd:(all.map (·.1)).Nodup
structure dU (t:cT) (K:aa) (H:Hp) (z:Sa) (N:Net) (all:List Found) (fs:Int):Prop where
 own:H z.dx=some (.own z.a)
 ob:H z.a=some (.ins t.cu z.dx (cP (.ref z.w) (.ref z.lS) (.ref z.dS) (.ref z.lB) (.ref z.lL) (.ref z.dF) (.int fs)))
 wd:fT t K (wo H z.M) z.w z.ks N
 ls:WX K H z N all
 n1:z.lS≠z.lB
 n2:z.lS≠z.lL
 n3:z.lB≠z.lL
 n4:z.dS≠z.dF
theorem dU.fr {t:cT}{K:aa}{H:Hp}{z:Sa}{N:Net}{all:List Found}{fs:Int}(h:dU t K H z N all fs):yn H z.M:=by
 obtain⟨bs,ls,h1,h2,_⟩:=h.ls.ex;intro x hx;simp only[Sa.M,ah,aF,or_false]at hx;rcases hx with rfl|rfl|rfl|rfl|rfl|rfl|rfl
 ·exact⟨_,h.ob,by simp[FO,Sa.M]⟩
 ·exact⟨_,h.own,by simp[FO,Sa.M]⟩
 ·exact⟨_,h.ls.s,trivial⟩
 ·exact⟨_,h.ls.d,trivial⟩
 ·exact⟨_,h1,trivial⟩
 ·exact⟨_,h2,trivial⟩
 ·exact⟨_,h.ls.f,trivial⟩
theorem B5 {K:aa}{G G':Hp}(k:Keeps [] G G'){all:List Found}{bs:List Int}{ls:List V}(h:Chain K G all bs ls):Chain K G' all bs ls:=λi x hi=>by
 rcases h i x hi with q|⟨b,y,st,sp,h1,h2,h3,h4,h5,h6⟩
 ·exact .inl q
 ·exact .inr ⟨b,y,st,sp,h1,h2,h3,h4,h5,lR.up k h6⟩
theorem AE:∀(l acc:List (List Nat×Nat)) (x:List Nat×Nat),x∈l.foldl tu acc->x∈acc\/x∈l
 | [],acc,x,h=>.inl h
 | y::l,acc,x,h=>by
  rw[bJ]at h;rcases AE l _ x h with q|q
  ·unfold tu at q
   split at q
   ·exact .inl q
   ·rcases aN.mp q with q|q
    ·exact .inl q
    ·rw[aL]at q;exact .inr (by rw[q];exact au ..)
  ·exact .inr (ai _ q)
theorem GA {N:Net}{all:List Found}(h:Cq N all){x:List Nat×Nat}(hx:x∈sL (ie all)):vp N x.1:=by
 rcases AE (ie all) [] x hx with q|q
 ·cases q
 ·unfold ie at q;obtain⟨y,hy,rfl⟩:=aH.mp q;exact(h y.1 (aI (zipIdx_get hy))).a
theorem K9:∀(l acc:List (List Nat×Nat)),(l.foldl tu acc).length<=acc.length+l.length
 | [],acc=>by simp
 | y::l,acc=>by
  rw[bJ];refine bw (K9 l _) ?_;unfold tu
  split
  ·rw[ay];omega
  ·rw[ay,aJ,ay,bI];omega
theorem Ms (all:List Found):(sL (ie all)).length<=all.length:=by
 have:=K9 (ie all) [];simpa[ie,sL]using this
theorem vz {bD:List (Key×V)}{k:Key}:(eQ bD k).isSome=true↔k∈bD.map (·.1):=by
 constructor
 ·intro h;obtain⟨v,hv⟩:=fG.mp h;exact aH.mpr ⟨_,AZ hv,rfl⟩
 ·intro h;cases e:eQ bD k with
  | some v=>rfl
  | none=>exact absurd h (Dh e)
theorem GS {N:Net}(no:NOk N){all:List Found}(h:Cq N all){s:State}(so:mH N s):(eQ (vD all) (cy ((dM s:Nat):Int))).isSome=decide (s∈all.map (·.1)):=by
 rw[bQ,vz,decide_eq_true_eq];unfold vD;rw[da];constructor
 ·intro hx;obtain⟨x,hx,e⟩:=aH.mp hx;have e:(cy ((dM x.1:Nat):Int):Key)=cy ((dM s:Nat):Int):=e;injection e with e
  have:=MQ no (h x hx) so (by omega);rw[<-this];exact aH.mpr ⟨x,hx,rfl⟩
 ·intro hx;obtain⟨x,hx,e⟩:=aH.mp hx;exact aH.mpr ⟨x,hx,by rw[<-e];rfl⟩
theorem wJ {N:Net}(no:NOk N){l:List (List Nat×Nat)}(h:∀x∈l,vp N x.1){a:List Nat}(ao:vp N a):(eQ (du l) (cy ((enc 8 a:Nat):Int))).isSome=decide (a∈l.map (·.1)):=by
 rw[bQ,vz,decide_eq_true_eq];unfold du;rw[da];constructor
 ·intro hx;obtain⟨x,hx,e⟩:=aH.mp hx;have e:(cy ((enc 8 x.1:Nat):Int):Key)=cy ((enc 8 a:Nat):Int):=e;have:=Fn no (h x hx) ao e;rw[<-this];exact aH.mpr ⟨x,hx,rfl⟩
 ·intro hx;obtain⟨x,hx,e⟩:=aH.mp hx;exact aH.mpr ⟨x,hx,by rw[<-e];rfl⟩
def kept (all:List Found) (x:Found):List Found:=if x.1∈all.map (·.1) then all else all++[x]
section
variable {P:Program}{w:World}{K:aa}{mg:Str->Option Value}{base:Heap}{t:cT}
def O0 (t:cT) (K:aa):Sp:=λvs H Q _=>∃(z:Sa) (N:Net) (all:List Found) (fs:Int) (x:Found) (b:Int) (v:V),vs=[.ref z.a,.int (dM x.1:Nat),.int b,v]/\dU t K H z N all fs/\NOk N/\mH N x.1/\all.length<sizeLine /\
 ((all=[]/\x.2=[])\/∃(bn:Nat) (y:Found) (st:fH) (sp:Addr),b=bn/\all[bn]?=some y/\x.2=st::y.2/\v = .ref sp/\lR K (wo H z.M) sp (zD st)) /\
 ∀H':Hp,dU t K H' z N (kept all x) fs->Keeps [z.lS,z.dS,z.lB,z.lL,z.dF] H H'->Q .gi H'
theorem v8 (T:Txt K mg t):yy P w K mg base 2 t.cu "keep" ["self", "state", "before", "step"] (O0 t K):=by
 obtain⟨f,fd,F,M⟩:=T.vR;refine⟨T.fA.cl,f,fd,F.ok Bf (λvs H Q E h=>?_) (λgw A outer s H vs Q E hr h=>?_),M,F.binds (λ_ _ _ _ _ _ us hl=>match us,hl with|[_,_,_,_],_=>rfl)⟩
 ·obtain⟨z,N,all,fs,x,b,v,rfl,_⟩:=h;rfl
 obtain⟨z,N,all,fs,x,b,v,rfl,h⟩:=h;have hu:=cF hr;refine⟨_,(aj (cS (nJ (EU hu (pv 1) (aV (pv 0) rfl))) (aD SD) bL) (aj (qO hu (aV (pv 0) rfl) (pv 1) jq rfl) (aj (d7 (G5 hu (aV (pv 0) rfl) (eG (zh T) (hr.mono (by decide)) rfl (ag (pv 1) aC)) (bT cO rfl T.eY dR (ag (aV (pv 0) rfl) aC)) ⟨rfl,rfl,rfl,rfl⟩)) (aj (d7 (lI bc bq bp eZ (aV (pv 0) rfl) (ag (pv 1) aC))) (aj (d7 (lI bc bq bp eZ (aV (pv 0) rfl) (ag (pv 2) aC))) (aD (d7 (lI bc bq bp eZ (aV (pv 0) rfl) (ag (pv 3) aC))))))))),?_⟩;obtain⟨hS,no,so,hl,hc,q⟩:=h;obtain⟨bs,ls,hb,Ng,lb,ll,ch⟩:=hS.ls.ex;have hs:=hS.ls.s;have hd:=hS.ls.d;have hf:=hS.ls.f;have ho:=hS.ob;push_cast[ho,hd,T.cU];have Fp:=GS no hS.ls.ok so;by_cases hm:x.1∈all.map (·.1)
 ·rw[decide_eq_true hm]at Fp;push_cast[Fp,if_true,if_false,aE];refine q H ?_ Keeps.refl;unfold kept;rw[if_pos hm];exact hS
 ·rw[decide_eq_false hm]at Fp;push_cast[Fp,if_true,if_false,aE,ho,hd,T.cU];have hv1:eQ (vD all) (cy ((dM x.1:Nat):Int))=none:=by
   cases e:eQ (vD all) (cy ((dM x.1:Nat):Int))with
   | none=>rfl
   | some v=>rw[e]at Fp;cases Fp
  rw[m7 hv1];have sc:(pI all).length=all.length:=by simp[pI]
  have fin:∀H5:Hp,H5 z.a=H z.a->H5 z.lS=some (.lst (pI all++[V.int (dM x.1:Nat)]))->H5 z.dS=some (.dK (vD all++[(cy ((dM x.1:Nat):Int),V.bl true)]))->H5 z.dF=some (.dK (du (sL (ie (all++[x])))))->H5 z.lB=some (.lst (bs.map V.int++[V.int b]))->H5 z.lL=some (.lst (ls++[v]))->Keeps [z.lS,z.dS,z.lB,z.lL,z.dF] H H5->Q .gi H5:=by
   intro H5 o5 s5 d5 f5 b5 g5 kk;have kw:Keeps [] (wo H z.M) (wo H5 z.M):=(kk.mono (M':=z.M) (by simp[Sa.M])).wo;have no5:H5 z.dx=some (.own z.a):=by
    refine kk.kp _ _ hS.own ?_;simp only[ah,aF,or_false,not_or];exact⟨aK hS.own hs nofun,aK hS.own hd nofun,aK hS.own hb nofun,aK hS.own Ng nofun,aK hS.own hf nofun⟩
   refine q H5 ?_ kk;unfold kept;rw[if_neg hm];refine⟨no5,o5.trans ho,hS.wd.up kw,⟨?_,?_,f5,⟨bs++[b],ls++[v],by rw[b5];simp,g5,by simp[lb],by simp[ll],?_⟩,?_,?_⟩,hS.n1,hS.n2,hS.n3,hS.n4⟩
   ·rw[s5];simp[pI]
   ·rw[d5];simp[vD]
   ·intro i y hi;by_cases RF:i<all.length
    ·rw[aO RF]at hi;rcases(B5 kw ch) i y hi with q|⟨bn,y',st,sp,c1,c2,c3,c4,c5,c6⟩
     ·exact .inl q
     ·exact .inr ⟨bn,y',st,sp,c1,by rw[aO (by omega)];exact c2,by rw[aO (by omega)];exact c3,c4,by rw[aO (by omega)];exact c5,c6⟩
    ·rw[aM (by omega)]at hi
     match e:i-all.length,hi with
     | 0,hi =>
      cases hi;have ei:i=all.length:=by omega
      subst ei;rcases hc with⟨c1,c2⟩|⟨bn,y',st,sp,c1,c2,c3,c4,c5⟩
      ·exact .inl ⟨by rw[c1];rfl,c2⟩
      ·have hbn:bn<all.length:=(aw.mp c2).1;exact .inr ⟨bn,y',st,sp,hbn,by rw[aM (by omega),lb,c1];simp,by rw[aO hbn];exact c2,c3,by rw[aM (by omega),ll,c4];simp,lR.up kw c5⟩
     | m+1,hi=>simp at hi
   ·intro y hy;rcases aN.mp hy with z|z
    ·exact hS.ls.ok y z
    ·rw[aL]at z;rw[z];exact so
   ·rw[bo,eh];refine⟨hS.ls.nd,by simp,λa ha c Y5=>?_⟩;rw[aP,cn,aL]at Y5;rw[Y5];exact λz=>hm (by rw[z]at ha;exact ha)
  refine⟨by simp[vD];exact hl,?_⟩;generalize e1:upd H z.dS _=H1;obtain⟨g1,k1⟩:=wr e1;have o1:=k1.bM ho (aK ho hd nofun);have f1:=k1.bM hf hS.n4.symm;have s1:=k1.bM hs (aK hs hd nofun);have b1:=k1.bM hb (aK hb hd nofun);have l1:=k1.bM Ng (aK Ng hd nofun);push_cast[o1,f1,T.cU];refine⟨dM x.1,rfl,?_⟩;rw[qQ no so];have Tt:=wJ no (λy hy=>GA hS.ls.ok hy) so.a;have sp1:(du (sL (ie all))).length<sizeLine:=by
   unfold du;rw[ax];exact yz (Ms all) hl
  push_cast[o1,f1,s1,T.cU,sc];refine⟨sp1,?_⟩;have es:sL (ie (all++[x]))=tu (sL (ie all)) (x.1.at_,all.length):=by rw[Jd,GU]
  cases hv:eQ (du (sL (ie all))) (cy ((enc 8 x.1.at_:Nat):Int))with
  | some v' =>
   rw[hv]at Tt;have Kc:x.1.at_∈(sL (ie all)).map (·.1):=of_decide_eq_true Tt.symm;have f2:H1 z.dF=some (.dK (du (sL (ie (all++[x]))))):=by
    rw[es];unfold tu;rw[if_pos Kc];exact f1
   obtain⟨H2,rfl⟩:∃H2,H2=H1:=⟨_,rfl⟩;have k2:Keeps [z.dF] H2 H2:=Keeps.refl;dsimp only;have o2:=k2.bM o1 (aK o1 f1 nofun);have s2:=k2.bM s1 (aK s1 f1 nofun);have b2:=k2.bM b1 (aK b1 f1 nofun);have l2:=k2.bM l1 (aK l1 f1 nofun);have d2:=k2.bM g1 hS.n4
   try push_cast[o2,s2,T.cU,sc]
   refine⟨hl,?_⟩;generalize e3:upd H2 z.lS _=H3;obtain⟨g3,k3⟩:=wr e3;have o3:=k3.bM o2 (aK o2 s2 nofun);have b3:=k3.bM b2 hS.n1.symm;have l3:=k3.bM l2 hS.n2.symm;have d3:=k3.bM d2 (aK d2 s2 nofun);have f3:=k3.bM f2 (aK f2 s2 nofun);push_cast[o3,b3,T.cU,ax,lb];refine⟨hl,?_⟩;generalize e4:upd H3 z.lB _=H4;obtain⟨g4,k4⟩:=wr e4;have o4:=k4.bM o3 (aK o3 b3 nofun);have s4:=k4.bM g3 hS.n1;have l4:=k4.bM l3 hS.n3.symm;have d4:=k4.bM d3 (aK d3 b3 nofun);have f4:=k4.bM f3 (aK f3 b3 nofun);push_cast[o4,l4,T.cU,ll];refine⟨hl,?_⟩;generalize e5:upd H4 z.lL _=H5;obtain⟨g5,k5⟩:=wr e5;have o5:=k5.bM o4 (aK o4 l4 nofun);have s5:=k5.bM s4 hS.n2;have b5:=k5.bM g4 hS.n3;have d5:=k5.bM d4 (aK d4 l4 nofun);have f5:=k5.bM f4 (aK f4 l4 nofun);have kk:Keeps [z.lS,z.dS,z.lB,z.lL,z.dF] H H5:=((((k1.mono (by simp)).trans (k2.mono (by simp))).trans (k3.mono (by simp))).trans (k4.mono (by simp))).trans (k5.mono (by simp));exact fin H5 (o5.trans ho.symm) s5 d5 f5 b5 g5 kk
  | none =>
   rw[hv]at Tt;have Kc:¬x.1.at_∈(sL (ie all)).map (·.1):=of_decide_eq_false Tt.symm;dsimp only;generalize e2:upd H1 z.dF _=H2;obtain⟨g2,k2⟩:=wr e2;have f2:H2 z.dF=some (.dK (du (sL (ie (all++[x]))))):=by
    rw[es];unfold tu;rw[if_neg Kc,g2];simp[du]
   have o2:=k2.bM o1 (aK o1 f1 nofun);have s2:=k2.bM s1 (aK s1 f1 nofun);have b2:=k2.bM b1 (aK b1 f1 nofun);have l2:=k2.bM l1 (aK l1 f1 nofun);have d2:=k2.bM g1 hS.n4
   try push_cast[o2,s2,T.cU,sc]
   refine⟨hl,?_⟩;generalize e3:upd H2 z.lS _=H3;obtain⟨g3,k3⟩:=wr e3;have o3:=k3.bM o2 (aK o2 s2 nofun);have b3:=k3.bM b2 hS.n1.symm;have l3:=k3.bM l2 hS.n2.symm;have d3:=k3.bM d2 (aK d2 s2 nofun);have f3:=k3.bM f2 (aK f2 s2 nofun);push_cast[o3,b3,T.cU,ax,lb];refine⟨hl,?_⟩;generalize e4:upd H3 z.lB _=H4;obtain⟨g4,k4⟩:=wr e4;have o4:=k4.bM o3 (aK o3 b3 nofun);have s4:=k4.bM g3 hS.n1;have l4:=k4.bM l3 hS.n3.symm;have d4:=k4.bM d3 (aK d3 b3 nofun);have f4:=k4.bM f3 (aK f3 b3 nofun);push_cast[o4,l4,T.cU,ll];refine⟨hl,?_⟩;generalize e5:upd H4 z.lL _=H5;obtain⟨g5,k5⟩:=wr e5;have o5:=k5.bM o4 (aK o4 l4 nofun);have s5:=k5.bM s4 hS.n2;have b5:=k5.bM g4 hS.n3;have d5:=k5.bM d4 (aK d4 l4 nofun);have f5:=k5.bM f4 (aK f4 l4 nofun);have kk:Keeps [z.lS,z.dS,z.lB,z.lL,z.dF] H H5:=((((k1.mono (by simp)).trans (k2.mono (by simp))).trans (k3.mono (by simp))).trans (k4.mono (by simp))).trans (k5.mono (by simp));exact fin H5 (o5.trans ho.symm) s5 d5 f5 b5 g5 kk
def My (t:cT) (K:aa):Sp:=λvs H Q _=>∃(z:Sa) (N:Net) (all:List Found) (fs:Int),vs=[.ref z.a]/\dU t K H z N all fs/\Q (.bl (decide (50000<all.length))) H
theorem mj (T:Txt K mg t):yy P w K mg base 1 t.cu "has_too_many" ["self"] (My t K):=by
 obtain⟨f,fd,F,M⟩:=T.mh;refine⟨T.fA.cl,f,fd,F.ok rK (λvs H Q E h=>?_) (λgw A outer s H vs Q E hr h=>?_),M,F.binds (λ_ _ _ _ _ _ us hl=>match us,hl with|[_],_=>rfl)⟩
 ·obtain⟨z,N,all,fs,rfl,_⟩:=h;rfl
 obtain⟨z,N,all,fs,rfl,h⟩:=h;have hu:=cF hr;refine⟨_,(aD (bj (rO vM (bT cO rfl T.eY dR (ag (aV (pv 0) rfl) aC)) (b9 T.iX rfl) (bN _)))),?_⟩;obtain⟨hS,q⟩:=h;push_cast[hS.ob,hS.ls.s,T.cU];have e:decide ((50000:Int)<((pI all).length:Nat))=decide (50000<all.length):=by
  rw[decide_eq_decide];unfold pI;rw[ax];omega
 rw[e];exact q
end
theorem MW:typeLookup (.type "list_reverseiterator") "__len__" = pure none:=by rw[typeLookup_type,builtinLookup_eq_fast];kernel_rfl
theorem QC:typeLookup (.type "list_reverseiterator") "__length_hint__" = pure (some (.builtin "list_reverseiterator.__length_hint__")):=by rw[typeLookup_type,builtinLookup_eq_fast];kernel_rfl
section
variable {prog:Program}{w:World}{A:Around}{s:Shared}{R:Result->Shared->Prop}
variable {I:Addr}{fp wr:List Addr}{G:Array GenState->Array GenState->Prop}{n:Nat}{P:Nat->Value->Prop}{St:Nat->Shared->Prop}
theorem TQ (W:WalksS prog w A.in1 I fp wr G n P St) (hT:∀i s,St i s->s.TypeIs (.ref I) "list_reverseiterator") (S:Addr) (res:Value) (c₀:Nat) (xH:St 0 s) (Wq:S∉fp) (hI:I∈fp)
  (hS:s.heap.get? S=some { cls:=.type "list",data:=.seq #[] c₀ })
  (hR:∀s' yk c',Moved (S::wr) G s s'->s'.heap.get? S=some { cls:=.type "list",dict:=none,data:=.seq yk c',slots:=#[] }->ItemsOf P yk n->R (.ok (.ret res)) s') (hn:n<=sizeLine) :
  wpAny (model prog w) A.in1 (Builtin.List.listExtendWith (.ref S) (.ref I) res)
   (λfin s'=>match fin with | .done f=>R (.ok f) s' | .again c'=>c'.quiet=true/\codeAny (model prog w) A c' R s') (λe s'=>R (.error e) s') s:=by
 have hSI:S≠I:=λe=>Wq (e▸hI)
 unfold Builtin.List.listExtendWith;refine wpAny_bind (wpAny_typeOf (hT 0 _ xH) ?_);have h1:Builtin.List.listSameRef (.ref S) (.ref I)=false:=by simp[Builtin.List.listSameRef,hSI]
 rw[if_neg (by rw[h1];decide)];refine wpAny_bind (W.self 0 _ _ _ xH ?_);refine wpAny_bind (wpAny_holding ?_);unfold Builtin.List.listLengthHint;refine wpAny_bind (wpAny_specialOf (hT 0 _ xH) MW ?_);show wpAny _ A.in1 (specialOf (Value.ref I) (Str.ofString "__length_hint__") >>= _) _ _ _;refine wpAny_bind (wpAny_specialOf (hT 0 _ xH) QC ?_)
 (generalize hid:("list_reverseiterator.__length_hint__" : String)=id0;(fail_if_success (clear hid id0));wp_delta;rw[show splitId id0=some ("list_reverseiterator", "__length_hint__") from by subst hid;decide +kernel];subst hid)
 refine wpAny_bind (wpAny_isInstance (b:=true) (hT 0 _ xH) (by rw[isSubtype_type];kernel_rfl) ?_);refine wpAny_pure ?_;rw[if_neg (by decide)];exact wpAny_pure ⟨plainId_quiet F.plain_extend_loop _,codeAny_extend_loopS W hn _ Wq _ n 0 _ _ _ rfl (ck _) xH hS (ItemsOf.nil P) λs' yk c' hm Ws xK=>hR s' yk c' hm Ws xK⟩
theorem Ql (W:WalksS prog w A.in1 I fp wr G n P St) (hT:∀i s,St i s->s.TypeIs (.ref I) "list_reverseiterator") (S:Addr) (xH:St 0 s) (Wq:S∉fp) (hI:I∈fp)
  (hS:s.heap.get? S=some { cls:=.type "list",data:=.seq #[] })
  (hR:∀s' yk c',Moved (S::wr) G s s'->s'.heap.get? S=some { cls:=.type "list",dict:=none,data:=.seq yk c',slots:=#[] }->ItemsOf P yk n->R (.ok (.ret .none)) s') (hn:n<=sizeLine) :
  wpAny (model prog w) A.in1 (Builtin.«list.__init__» ⟨[.ref S,.ref I],[]⟩)
   (λfin s'=>match fin with | .done f=>R (.ok f) s' | .again c'=>c'.quiet=true/\codeAny (model prog w) A c' R s') (λe s'=>R (.error e) s') s:=by
 show wpAny _ A.in1 (do let old <-Builtin.List.listItems (.ref S);Builtin.List.listUpdate (.ref S) (λ_=>#[]);letGo old.toList.reverse;Builtin.List.listExtendWith (.ref S) (.ref I) .none) _ _ s;refine wpAny_bind ?_;unfold Builtin.List.listItems;refine wpAny_bind (wpAny_seqItems hS rfl (wpAny_pure ?_));show wpAny _ A.in1 (updateSeq S (λ_=>#[]) >>= λ_=>letGo (#[]:Array Value).toList.reverse >>= λ_=>Builtin.List.listExtendWith (.ref S) (.ref I) .none) _ _ s;refine wpAny_bind (wpAny_updateSeq hS rfl ?_);have Y8:=Heap.get?_update_self (Obj.mapSeq (λ_=>(#[]:Array Value))) hS rfl;have oth:∀b o,b≠S->s.heap.get? b=some o->(s.heap.update S (Obj.mapSeq (λ_=>(#[]:Array Value)))).get? b=some o :=
  λb o hb e=>(Heap.get?_update_other _ _ (rn hb)).trans e
 refine wpAny_bind (wpAny_letGo ?_);refine TQ (hn:=hn) W hT S .none _ (W.frame 0 s _ s.toks xH (aQ _) λb hb o e=>oth b o (λh=>Wq (h▸hb)) e) Wq hI Y8 λs' yk c' hm Ws xK=>?_
 exact hR s' yk c' (Moved.trans W.gtrans ((Moved.refl W.grefl).then_heap (aQ _) λb o hb e=>oth b o (λh=>hb (h▸au)) e) hm) Ws xK
end
section
variable {prog:Program}{w:World}{A:Around}{E:Value->Shared->Prop}{s:Shared}
variable {I:Addr}{fp wr:List Addr}{G:Array GenState->Array GenState->Prop}{n:Nat}{P:Nat->Value->Prop}{St:Nat->Shared->Prop}
theorem Q9 {Q:Value->Shared->Prop}(W:WalksS prog w A.in1.in1 I fp wr G n P St) (hT:∀i s,St i s->s.TypeIs (.ref I) "list_reverseiterator") (xH:St 0 s) (UI:∀b∈fp,b<s.heap.objs.size) (hI:I∈fp)
  (hQ:∀s' yk c',Moved (s.heap.objs.size::wr) G { s with heap:=s.heap.push { cls:=.type "list",data:=.seq #[] } } s' ->
   s'.heap.get? s.heap.objs.size=some { cls:=.type "list",dict:=none,data:=.seq yk c',slots:=#[] }->ItemsOf P yk n->Q (.ref s.heap.objs.size) s') (hn:n<=sizeLine) :
  wpAny (model prog w) A (call (.type "list") [.ref I]) Q E s:=by
 have Wq:s.heap.objs.size∉fp:=λhm=>fQ _ (UI _ hm)
 refine callType_codes (Q₁:=λobj cV=>obj = .ref s.heap.objs.size/\cV={ s with heap:=s.heap.push { cls:=.type "list",data:=.seq #[] } }) F.called_list (F.typeCall_list_1 _) F.entry_list_init
  (code_list_new _ ⟨rfl,rfl⟩) λobj cV Hj=>?_
 obtain⟨rfl,rfl⟩:=Hj;have hS:(s.heap.push { cls:=.type "list",data:=.seq #[] }).get? s.heap.objs.size=some { cls:=.type "list",data:=.seq #[] }:=Heap.get?_push_size _ rfl;refine⟨⟨_,hS,rfl⟩,F.args_list_init_2 _ _,Ql (hn:=hn) W hT _ (W.frame 0 s _ s.toks xH (aQ _) λb _ o e=>Heap.get?_push_of_some _ e) Wq hI hS λs' yk c' hm Ws xK=>?_⟩;exact⟨rfl,hQ s' yk c' hm Ws xK⟩
end
theorem HX:bootBuiltins "reversed" = some (.type "reversed"):=by decide +kernel
theorem Ou:∀{xs:List V}{us:List Value},Vals xs us->Vals xs.reverse us.reverse:=by
 intro xs us r
 induction r with
 | nil=>exact .nil
 | cons r _ ih=>rw[zy,zy];exact ih.append (.cons r .nil)
section
variable {X:Cx}
def Gx (ta:TE):TE:=λσ H Q=>ta σ H λx H1=>∃a xs,x = .ref a/\H1 a=some (.lst xs)/\∀l,H1 l=none->Q (.ref l) (upd H1 l (.lst xs.reverse))
theorem JD {e:Expr}{ta:TE}{p p2 pos Vz:Pos}(hc:X.calm=true) (hg:Gl X "list") (hm:X.mg "list" = none) (Nj:Gl X "reversed") (hm2:X.mg "reversed" = none) (ha:PE X e ta)
  (hs:starEach [.Call (.Name "reversed" p2) [e] [] Vz] X.env=[(false,eval (.Call (.Name "reversed" p2) [e] [] Vz) X.env)]:=by rfl) (Hl:starEach [e] X.env=[(false,eval e X.env)]:=by rfl) :
  PE X (.Call (.Name "list" p) [.Call (.Name "reversed" p2) [e] [] Vz] [] pos) (Gx ta):=by
 intro pins s σ H Q I h;refine wpAny_Call_Name_kw (uf I hg hm LV (eC ?_ hs rfl));rw[hs];refine Calls.spliced_cons ?_;refine wpAny_Call_Name_kw (uf I Nj hm2 HX (eC ?_ Hl rfl));rw[Hl];refine Calls.spliced_cons (fu (ha pins s σ H _ I h) λu s1 ⟨x,H1,I1,r1,a,xs,ex,hq,q⟩=>Calls.spliced_nil ?_);subst ex;cases r1;obtain⟨cC,rv,pl,hz⟩:=I1.list (dO.of (K:=X.K) hq);have hl:=rv.length;have hsz:cC.toArray.size=xs.length:=by simp[hl]
 refine call_reversed_list pl.isList (Calls.spliced_nil ?_);generalize hit:s1.heap.objs.size=it;have RK:a<it:=by rw[<-hit];exact I1.df.lt hq
 have rm:a≠it:=cI RK;have I2:Inv X pins σ H1 { s1 with heap:=s1.heap.push (revObj a ((cC.toArray.size:Int)-1)) }:=I1.kept (t':=s1.toks) λb u e=>Heap.get?_push_of_some _ e
 have FP:zt X pins H1 it:=I1.Ki (by rw[hit];exact aQ _) (I1.df.fresh (by rw[hit];exact aQ _));generalize Hl:({ s1 with heap:=s1.heap.push (revObj a ((cC.toArray.size:Int)-1)) }:Shared)=s2 at I2;have YK:s2.heap.IsRevIter it a ((cC.toArray.size:Int)-1):=by
  rw[<-Hl];exact⟨_,by rw[<-hit];exact Heap.get?_push_size _ rfl,rfl,rfl⟩
 have Xs:s2.heap.IsList a cC.toArray:=by
  rw[<-Hl];exact pl.isList.at λo e=>Heap.get?_push_of_some _ e
 have RF:it<s2.heap.objs.size:=by obtain⟨o,ho,_⟩:=YK;exact Heap.lt_size ho
 have W:=(Walks.listRev (prog:=X.prog) (w:=X.w) (A:=X.A.in1.in1) (I2.ok.hd hc) it a rm cC.toArray).toS;refine Q9 W (λi s x=>x.2.1.typeIs) ⟨ck _,by simpa using YK,Xs⟩ (λb hb=>?_) (by simp) (λs' acc c' Qz hS xK=>?_) (by rw[hsz];exact hz)
 ·simp only[ah,aF,or_false]at hb;rcases hb with rfl|rfl
  ·exact RF
  ·exact XU RK RF
 ·rw[Moved.eq_with Qz];have hac:Vals xs.reverse acc.toList:=by
   have hr:acc.toList=cC.reverse:=by
    refine hJ λi=>?_
    have h2:=xK.1;by_cases hX:i<acc.size
    ·have h1:=xK.2 i _ (qo hX);have N8:i<cC.length:=by rw[h2,hsz]at hX;omega
     rw[hsz]at h1;rw[mZ N8,show cC.length-1-i=xs.length-1-i by omega];rw[Array.getElem?_toList,qo hX];rw[<-h1];simp
    ·rw[cZ (by simpa using hX),cZ (by rw[o9];rw[h2,hsz]at hX;omega)]
   rw[hr];exact Ou rv
  have fr:=I2.df.fresh (aQ s2.heap.objs.size);have I3:=I2.laid (a:=s2.heap.objs.size) (o:=.lst xs.reverse) (h':=s2.heap.push { cls:=.type "list",data:=.seq acc c' }) (t':=s'.toks) (λb u e=>Heap.get?_push_of_some _ e) (aQ _) ⟨by rw[o9];exact hz,acc.toList,c',hac,by simpa using Heap.get?_push_size _ rfl⟩;obtain⟨f0,f1,f2,f3,f4,f5⟩:=FP;have I4:=I3.turned (it:=it) (h':=s'.heap) (t':=s'.toks) (λb o hb e=>?_) (by rw[cv (cI RF)];exact f0) f1 f3 f4 f5
  ·exact⟨.ref s2.heap.objs.size,_,I4,rfl,q _ fr⟩
  by_cases QF:b=s2.heap.objs.size
  ·subst QF;have:(s2.heap.push { cls:=.type "list",data:=.seq acc c' }).get? s2.heap.objs.size=some { cls:=.type "list",data:=.seq acc c' }:=Heap.get?_push_size _ rfl;have e:(s2.heap.push { cls:=.type "list",data:=.seq acc c' }).get? s2.heap.objs.size=some o:=e;rw[this]at e;cases e;exact hS
  ·have e:(s2.heap.push { cls:=.type "list",data:=.seq acc c' }).get? b=some o:=e;rw[Heap.get?_push_ne _ _ _ QF]at e;refine Qz.heap b o ?_ ?_
   ·simp only[ah,aF,or_false,not_or];exact⟨QF,hb⟩
   ·exact Heap.get?_push_of_some _ e
end
def iT (K:aa) (G:Hp) (yw:List Addr) (l:List fH):Prop:=yw.length=l.length/\∀(i:Nat) (sp:Addr) (x:fH),yw[i]?=some sp->l[i]?=some x->lR K G sp (zD x)
theorem iT.up {K:aa}{G G':Hp}(k:Keeps [] G G'){yw:List Addr}{l:List fH}(h:iT K G yw l):iT K G' yw l:=⟨h.1,λi sp x a b=>lR.up k (h.2 i sp x a b)⟩
theorem iT.snoc {K:aa}{G:Hp}{yw:List Addr}{l:List fH}{sp:Addr}{x:fH}(h:iT K G yw l) (hs:lR K G sp (zD x)):iT K G (yw++[sp]) (l++[x]):=⟨by simp[h.1],λi s y a b=>by
 by_cases hi:i<yw.length
 ·rw[aO hi]at a;rw[aO (by rw[<-h.1];exact hi)]at b;exact h.2 i s y a b
 ·rw[aM (by omega)]at a;rw[aM (by rw[<-h.1];omega),<-h.1]at b
  match e:i-yw.length,a,b with
  | 0,a,b =>
   cases a;cases b;exact hs
  | m+1,a,_=>simp at a⟩
theorem iT.rev {K:aa}{G:Hp}{yw:List Addr}{l:List fH}(h:iT K G yw l):iT K G yw.reverse l.reverse:=⟨by simp[h.1],λi sp x a b=>by
 have hi:i<yw.length:=by have:=(aw.mp a).1;simpa using this
 rw[mZ hi]at a;rw[mZ (by rw[<-h.1];exact hi),<-h.1]at b;exact h.2 _ sp x a b⟩
section
variable {P:Program}{w:World}{K:aa}{mg:Str->Option Value}{base:Heap}{t:cT}
def Sh (t:cT) (K:aa):Sp:=λvs H Q _=>∃(z:Sa) (N:Net) (all:List Found) (fs:Int) (n:Nat) (x:Found),vs=[.ref z.a,.int n]/\dU t K H z N all fs/\all[n]?=some x/\all.length<sizeLine /\
 ∀(l:Addr) (yw:List Addr) (H':Hp),H' l=some (.lst (yw.map V.ref))->iT K (wo H z.M) yw x.2.reverse->H l=none->Keeps [] H H'->Q (.ref l) H'
theorem Aw (T:Txt K mg t):yy P w K mg base 1 t.cu "way_to" ["self", "at"] (Sh t K):=by
 obtain⟨f,fd,F,M⟩:=T.sQ;refine⟨T.fA.cl,f,fd,F.ok mw (λvs H Q E h=>?_) (λgw A outer s H vs Q E hr h=>?_),M,F.binds (λ_ _ _ _ _ _ us hl=>match us,hl with|[_,_],_=>rfl)⟩
 ·obtain⟨z,N,all,fs,n,x,rfl,_⟩:=h;rfl
 obtain⟨z,N,all,fs,n,x,rfl,h⟩:=h;have hu:=cF hr;refine⟨_,(aj (bO (i:=2) mw.nd rfl (aX rfl) (c9 aC)) (aj (m8 PassesOwn.never (br vM (pv 1) bf (bN _)) (aj (d7 (lI bc bq bp eZ (pv 2) (ag (dw dq (aV (pv 0) rfl) (pv 1) (λ_ _=>rfl)) aC))) (aD (bO (i:=1) mw.nd rfl (aX rfl) (dw dq (aV (pv 0) rfl) (pv 1) (λ_ _=>rfl)))))) (aD (bj (JD rfl rfl T.wW rfl T.kI (pv 2)))))),?_⟩;obtain⟨hS,hx,hz,q⟩:=h;obtain⟨bs,ls,hb,Ng,lb,ll,ch⟩:=hS.ls.ex;have ho:=hS.ob;push_cast;intro l hl;generalize e1:upd H l _=H1;obtain⟨g1,k1⟩:=al e1 hl;obtain⟨W,hW⟩:∃W:Nat->L2.St->Hp->Prop,W=λm σ H'=>∃(c:Nat) (y:Found) (pre:List fH) (yw:List Addr),σ=[some (.ref z.a),some (.int (c:Nat)),some (.ref l)]/\c=m/\all[c]?=some y/\x.2=pre++y.2/\pre.length+c<=n/\Keeps [] H H'/\H' l=some (.lst (yw.map V.ref))/\iT K (wo H z.M) yw pre:=⟨_,rfl⟩
 refine⟨W,⟨n,by rw[hW];exact⟨n,x,[],[],rfl,rfl,hx,rfl,by simp,k1,g1,rfl,by simp⟩⟩,?_⟩;intro m σ H' hw;rw[hW]at hw;obtain⟨c,y,pre,yw,rfl,rfl,hy,N4,hpc,kk,hg,Xp⟩:=hw;push_cast;rcases ch c y hy with⟨rfl,aaC⟩|⟨b,y',st,sp,c1,c2,c3,c4,c5,c6⟩
 ·rw[if_neg (by simp)];push_cast[Gx,hg];intro l2 Ga;generalize e2:upd H' l2 _=H2;obtain⟨g2,k2⟩:=al e2 Ga;rw[aaC,eL]at N4;refine q l2 yw.reverse H2 (by rw[g2,Rx]) (by rw[N4];exact Xp.rev) (kk.gr _ Ga) (kk.trans k2)
 ·rw[if_pos (decide_eq_true (by omega))];refine⟨λfK C4=>∃m',m'<c/\W m' fK C4,λ_ _ h=>h,?_⟩;have hnl:n<all.length:=(aw.mp hx).1;have Ft:(bs.map V.int)[c]?=some (V.int (b:Nat)):=by rw[aR,c2];rfl
  have sl:(yw.map V.ref).length<sizeLine:=by rw[ax,Xp.1];omega
  push_cast[kk.up ho,kk.up Ng,hg,de c5,T.cU,sl];generalize e2:upd H' l _=H2;obtain⟨g2,k2⟩:=wr e2;have N1:Keeps [] H H2:=kk.drop k2 (by simpa using hl);push_cast[N1.up ho,N1.up hb,de Ft,T.cU];refine⟨b,c1,?_⟩;rw[hW];exact⟨b,y',pre++[st],yw++[sp],rfl,rfl,c3,by rw[N4,c4];simp,by simp;omega,N1,by rw[g2];simp,Xp.snoc c6⟩
end
def Es (N:Net) (l:List Found):Int:=match l.findIdx? (λx=>(eU N x.1).isEmpty)with
 | some i=>(i:Int)
 | none=>-1
theorem OU (N:Net) (l:List Found) (x:Found):Es N (l++[x])=if Es N l<0/\(eU N x.1).isEmpty=true then(l.length:Int) else Es N l:=by
 unfold Es;rw[List.findIdx?_append];cases l.findIdx? (λx=>(eU N x.1).isEmpty)with
 | some i =>
  rw[if_neg (by simp;omega)];rfl
 | none =>
  by_cases h:(eU N x.1).isEmpty=true
  ·rw[if_pos ⟨by decide,h⟩];simp[pU,h]
  ·rw[if_neg (λq=>h q.2)];simp[pU,h]
theorem MM (N:Net){k:Nat}(h:k<(proc N k).length){x:Found}(hx:(proc N k)[k]?=some x):(proc N (k+1)).take (k+1)=(proc N k).take k++[x]:=by
 obtain⟨r,e⟩:=xy N k;rw[e,iO h,bX hx]
section
variable {t:cT}{K:aa}{H H':Hp}{z:Sa}{N:Net}{all:List Found}{fs:Int}
theorem dU.up (k:Keeps [] H H') (h:dU t K H z N all fs):dU t K H' z N all fs:=by
 have kw:Keeps [] (wo H z.M) (wo H' z.M):=(k.any (M:=z.M)).wo;obtain⟨bs,ls,h1,h2,h3,h4,ch⟩:=h.ls.ex;exact⟨k.up h.own,k.up h.ob,h.wd.up kw,⟨k.up h.ls.s,k.up h.ls.d,k.up h.ls.f,⟨bs,ls,k.up h1,k.up h2,h3,h4,B5 kw ch⟩,h.ls.ok,h.ls.nd⟩,h.n1,h.n2,h.n3,h.n4⟩
theorem dU.call (h:dU t K H z N all fs) (k:Keeps [z.ks] (wo H z.M) (wo H' z.M)) (e:∀x∈z.M,H' x=H x) (hw:fT t K (wo H' z.M) z.w z.ks N):dU t K H' z N all fs:=by
 obtain⟨bs,ls,h1,h2,h3,h4,ch⟩:=h.ls.ex;obtain⟨bD,hk,_⟩:=h.wd.kn.ex;have ap:=LZ.ofD hk;refine⟨?_,?_,hw,⟨?_,?_,?_,⟨bs,ls,?_,?_,h3,h4,λi x hi=>?_⟩,h.ls.ok,h.ls.nd⟩,h.n1,h.n2,h.n3,h.n4⟩
 ·rw[e _ (by simp[Sa.M])];exact h.own
 ·rw[e _ (by simp[Sa.M])];exact h.ob
 ·rw[e _ (by simp[Sa.M])];exact h.ls.s
 ·rw[e _ (by simp[Sa.M])];exact h.ls.d
 ·rw[e _ (by simp[Sa.M])];exact h.ls.f
 ·rw[e _ (by simp[Sa.M])];exact h1
 ·rw[e _ (by simp[Sa.M])];exact h2
 ·rcases ch i x hi with q|⟨b,y,st,sp,c1,c2,c3,c4,c5,c6⟩
  ·exact .inl q
  ·exact .inr ⟨b,y,st,sp,c1,c2,c3,c4,c5,lR.Ib k ap c6⟩
theorem dU.stuck (h:dU t K H z N all fs){v:Int}(e:upd H z.a (.ins t.cu z.dx (cP (.ref z.w) (.ref z.lS) (.ref z.dS) (.ref z.lB) (.ref z.lL) (.ref z.dF) (.int v)))=H'):dU t K H' z N all v:=by
 obtain⟨g,k⟩:=wr e;have kw:Keeps [] (wo H z.M) (wo H' z.M):=(k.mono (M':=z.M) (by simp[Sa.M])).wo;obtain⟨bs,ls,h1,h2,h3,h4,ch⟩:=h.ls.ex;exact⟨k.bM h.own (aK h.own h.ob nofun),g,h.wd.up kw,⟨k.bM h.ls.s (aK h.ls.s h.ob nofun),k.bM h.ls.d (aK h.ls.d h.ob nofun),k.bM h.ls.f (aK h.ls.f h.ob nofun),⟨bs,ls,k.bM h1 (aK h1 h.ob nofun),k.bM h2 (aK h2 h.ob nofun),h3,h4,B5 kw ch⟩,h.ls.ok,h.ls.nd⟩,h.n1,h.n2,h.n3,h.n4⟩
theorem sF.up (k:Keeps [] H H'){ts:List Addr}{l:List (Mv×State)}(h:sF t K H N ts l):sF t K H' N ts l:=⟨h.len,λj T p a b=>let ⟨c,h1,h2⟩:=h.at_ j T p a b;⟨c,k.up h1,h2.up k⟩⟩
end
def B0 (x:Found) (es:List (Mv×State)) (all:List Found):List Found:=es.foldl (λa p=>kept a (p.2,p.1.step::x.2)) all
theorem BZ (x:Found):∀(es:List (Mv×State)) (all:List Found),(B0 x es all).length<=all.length+es.length/\∃r,B0 x es all=all++r
 | [],all=>⟨by simp[B0],[],by simp[B0]⟩
 | p::es,all=>by
  obtain⟨h1,r,h2⟩:=BZ x es (kept all (p.2,p.1.step::x.2));have e:B0 x (p::es) all=B0 x es (kept all (p.2,p.1.step::x.2)):=rfl;rw[e];unfold kept at h1 h2⊢
  split at h1
  ·rename_i hq
   rw[if_pos hq]at h2⊢;exact⟨by rw[ay];omega,r,h2⟩
  ·rename_i hq
   rw[if_neg hq]at h2⊢;rw[aJ]at h1;exact⟨by simp at h1⊢;omega,(p.2,p.1.step::x.2)::r,by rw[h2];simp⟩
theorem TU {N:Net}(no:NOk N) (x:Found) (so:mH N x.1) (all:List Found):B0 x (nextM N x.1) all=CY N all x:=by
 unfold B0 CY;rw[rQ no so,List.foldl_map];rfl
section
variable {P:Program}{w:World}{K:aa}{mg:Str->Option Value}{base:Heap}{t:cT}
def Vl (t:cT) (K:aa):Sp:=λvs H Q _=>∃(z:Sa) (N:Net),vs=[.ref z.a]/\dU t K H z N (proc N 0) (-1)/\mm N /\
 ∀(n:Nat) (H':Hp),((proc N n).length<=n\/50000<(proc N n).length)->dU t K H' z N (proc N n) (Es N ((proc N n).take n))->(proc N n).length<=50625->Keeps (z.ks::z.M) H H'->Q .gi H'
theorem Cc (T:Txt K mg t):yy P w K mg base 8 t.cu "go_on" ["self"] (Vl t K):=by
 obtain⟨f,fd,F,M⟩:=T.uo;refine⟨T.fA.cl,f,fd,F.ok gH (λvs H Q E h=>?_) (λgw A outer s H vs Q E hr h=>?_),M,F.binds (λ_ _ _ _ _ _ us hl=>match us,hl with|[_],_=>rfl)⟩
 ·obtain⟨z,N,rfl,_⟩:=h;rfl
 obtain⟨z,N,rfl,h⟩:=h;have hu:=cF hr;refine⟨_,(aj (bO (i:=1) gH.nd rfl (aX rfl) bf) (aD (m8 PassesOwn.never (PW.pt (qt (br nZ (pv 1) (bT cO rfl T.eY dR (ag (aV (pv 0) rfl) aC)) (bN _)) (mU (qu (i7 (nL (mj T) (hr.mono (by decide)) (pv 0))))))) (aj (bO (i:=2) gH.nd rfl (aX rfl) (gP (pJ T).frame (hr.mono (by decide)) (aV (pv 0) rfl) (ag (dw dq (aV (pv 0) rfl) (pv 1) (λ_ _=>rfl)) aC))) (aj (cS (PW.pt (qt (br (t8 hu) (pv 2) (c9 aC) (bN _)) (mU (br nZ (aV (pv 0) rfl) bf (bN _))))) (aD (bW (pv 0) (pv 1) rfl)) bL) (aj (fU PassesOwn.never rfl (fE (pv 2)) (yL (n:=2) rfl (iP (cB (i:=3) gH.nd rfl (aX rfl)) (iP (cB (i:=4) gH.nd rfl (aX rfl)) uY))) (aD (d7 (gP (v8 T) (hr.mono (by decide)) (pv 0) (ag (pv 4) (ag (pv 1) (ag (aV (pv 3) rfl) aC))))))) (aD (tZ (i:=1) gH.nd rfl (aX rfl) bf ug)))))))),?_⟩;obtain⟨hS,nf,q⟩:=h;have no:=nf.toNOk;push_cast;obtain⟨W,hW⟩:∃W:Nat->L2.St->Hp->Prop,W=λm σ H'=>∃(i:Nat),(∃x1 x2 x3,σ=[some (.ref z.a),some (.int (i:Nat)),x1,x2,x3])/\50001-i=m/\(proc N i).length<=50625/\dU t K H' z N (proc N i) (Es N ((proc N i).take i))/\Keeps (z.ks::z.M) H H':=⟨_,rfl⟩
 refine⟨W,⟨50001,by rw[hW];exact⟨0,⟨_,_,_,rfl⟩,rfl,by simp[proc],hS,Keeps.refl⟩⟩,?_⟩;intro m σ H' hw;rw[hW]at hw;obtain⟨i,⟨x1,x2,x3,rfl⟩,rfl,hlen,N9,k1⟩:=hw;have cl:(pI (proc N i)).length=(proc N i).length:=by simp[pI]
 push_cast[N9.ob,N9.ls.s,T.cU,cl];by_cases hX:i<(proc N i).length
 ·rw[if_pos (decide_eq_true (by omega))];refine⟨z,N,_,_,rfl,N9,?_⟩;push_cast;by_cases qU:50000<(proc N i).length
  ·rw[if_neg (by simp[qU])];exact q i H' (.inr qU) N9 hlen k1
  ·rw[if_pos (by simp[qU])];obtain⟨s0,Ir⟩:∃s0,(proc N i)[i]?=some s0:=⟨_,ae hX⟩;have so:=uW nf i s0 (aI Ir);obtain⟨Zo,tdw,w1,_⟩:=N9.wd.ex;have w1':=cG.up (cG.up w1);have hci:nB (pI (proc N i)) (i:Int)=some (V.int (dM s0.1:Nat)):=de (by unfold pI;rw[aR,Ir];rfl);have epr:proc N (i+1)=B0 s0 (nextM N s0.1) (proc N i):=by rw[TU no s0 so,proc,Ir]
   have aai:(nextM N s0.1).length<=625:=by
    have:=G8 no so;rw[rQ no so,ax]at this;exact this
   refine⟨λfK C4=>∃m',m'<50001-i/\W m' fK C4,λ_ _ h=>h,?_⟩;have loop:∀(H3:Hp) (l:Addr) (ts:List Addr),dU t K H3 z N (proc N i) (Es N ((proc N (i+1)).take (i+1)))->sF t K (wo H3 z.M) N ts (nextM N s0.1)->H3 l=some (.lst (ts.map V.ref))->l∉z.M->Keeps (z.ks::z.M) H H3->(∃xs,dO K H3 l xs) /\
     C5 (Rp K l) (Kh K 2 (BP (xM 3) (BP (xM 4) QT))) (Dm (Vb t.cu (Str.ofString "keep") (O0 t K) (tj 0) (zC (tj 4) (zC (tj 1) (zC (Mn K (tj 3) (Str.ofString "step")) CH)))))
      { nx:=Sb 1 (tC (V.int 1)) (YF λi j=>i+j) { nx:=λfK C4=>∃m',m'<50001-i/\W m' fK C4,rt:=Q,bk:=λx H'=>Q V.gi H',ct:=λfK C4=>∃m',m'<50001-i/\W m' fK C4 },rt:=Q,bk:=λx H'=>Q V.gi H',ct:=λfK C4=>∃m',m'<50001-i/\W m' fK C4 }
      [some (V.ref z.a),some (V.int (i:Nat)),some (V.ref l),x2,x3] H3:=by
    intro H3 l ts Tw J7 g3 N7 k3;refine⟨⟨_,dO.of g3⟩,gU (xs:=ts.map V.ref) (λj σ H4=>(∃x y,σ=[some (V.ref z.a),some (V.int (i:Nat)),some (V.ref l),x,y])/\dU t K H4 z N (B0 s0 ((nextM N s0.1).take j) (proc N i)) (Es N ((proc N (i+1)).take (i+1)))/\Keeps [z.lS,z.dS,z.lB,z.lL,z.dF] H3 H4) ⟨⟨_,_,rfl⟩,Tw,Keeps.refl⟩ (λj σ H4 _ ⟨_,_,k⟩=>dO.of (k.kp _ _ g3 ?_)) ?_ ?_⟩
    ·intro hm;exact N7 (by simp only[Sa.M,ah,aF,or_false]at hm⊢;rcases hm with h|h|h|h|h<;>simp[h])
    ·rintro j x σ H4 hj ⟨⟨y1,y2,rfl⟩,UL,k4⟩;obtain⟨Ta,hT,rfl⟩:=eI hj;obtain⟨p,hp⟩:∃p,(nextM N s0.1)[j]?=some p:=⟨_,ae (by rw[<-J7.len];exact(aw.mp hT).1)⟩;have kw4:Keeps [] (wo H3 z.M) (wo H4 z.M):=(k4.mono (M':=z.M) (by simp[Sa.M])).wo;obtain⟨b,t1,hb⟩:=(J7.up kw4).at_ j Ta p hT hp;obtain⟨dxb,bsp,ble,blb,bas,bbs,b1,hMC⟩:=id hb;have b1':=cG.up b1;unfold Fw at b1';obtain⟨el,r,er⟩:=BZ s0 ((nextM N s0.1).take j) (proc N i);have UH:((nextM N s0.1).take j).length<=625:=by rw[cw];omega
     push_cast;refine⟨_,lR.of (cG.up t1),rfl,?_⟩;push_cast[UL.ob,b1',T.cU,T.pk];have CS:p∈nextM N s0.1:=aI hp;have so':mH N p.2:=by
      unfold nextM at CS;obtain⟨mv,hm,rfl⟩:=aH.mp CS;exact wm no so (dv.mp hm).1
     refine⟨z,N,_,_,(p.2,p.1.step::s0.2),(i:Int),.ref bsp,rfl,UL,no,so',?_,.inr ⟨i,s0,p.1.step,bsp,rfl,?_,rfl,rfl,hMC.st⟩,λH5 hS5 k5=>⟨?_,k4.trans k5⟩⟩
     ·simp only[sizeLine];omega
     ·rw[er,aO hX];exact Ir
     ·rw[bX hp];unfold B0 at hS5⊢;rw[fY];exact hS5
    ·rintro σ H4 ⟨⟨y1,y2,rfl⟩,UL,k4⟩;rw[ax,J7.len,bP,<-epr]at UL;push_cast;refine⟨50001-(i+1),by omega,?_⟩;rw[hW];refine⟨i+1,⟨_,_,_,rfl⟩,rfl,?_,UL,k3.trans (k4.mono (by simp[Sa.M]))⟩;rw[epr];have:=(BZ s0 (nextM N s0.1) (proc N i)).1;omega
   push_cast[N9.ob,N9.ls.s,w1',hci,T.cU];refine⟨z.M,N9.fr,z.w,z.ks,N,s0.1,rfl,N9.wd,no,so,λl ts H1 g1 xH hw1 n1 k2 H2 e2 em=>?_⟩;subst e2;obtain⟨N7,g2⟩:=bE.mp g1;have hS2:=N9.call k2 em hw1;have kk2:Keeps [z.ks] H' H2:=oR N9.fr k2 em;intro p hp;generalize e3:upd H2 p _=H3;obtain⟨g3,k3⟩:=al e3 hp;have Tw:=hS2.up k3;have Ze:=k3.up g2;have J7:sF t K (wo H3 z.M) N ts (nextM N s0.1):=xH.up (k3.any (M:=z.M)).wo;have YA:Keeps (z.ks::z.M) H H3:=(k1.trans (kk2.mono (by simp))).trans k3.any;have UR:=OU N ((proc N i).take i) s0;rw[<-MM N hX Ir]at UR;have tl:((proc N i).take i).length=i:=by rw[cw];omega
   have enx:(eU N s0.1).isEmpty=ts.isEmpty:=by
    rw[rQ no so];have:=xH.len;cases h:nextM N s0.1<;>cases ts<;>simp_all
   rw[enx,tl]at UR;push_cast[Ze,Tw.ob,T.cU,Ay,aE,if_false];by_cases hem:ts.isEmpty=true
   ·rw[if_pos hem];by_cases hsk:Es N ((proc N i).take i)<0
    ·rw[if_pos (decide_eq_true hsk)];rw[if_pos ⟨hsk,hem⟩]at UR;generalize e4:upd H3 z.a _=H4;have UL:=Tw.stuck e4;obtain⟨_,k4⟩:=wr e4;rw[<-UR]at UL;exact loop H4 l ts UL (J7.up (k4.mono (M':=z.M) (by simp[Sa.M])).wo) (k4.bM Ze (aK Ze Tw.ob nofun)) N7 (YA.trans (k4.mono (by simp[Sa.M])))
    ·rw[if_neg (by simpa using hsk)];rw[if_neg (λq=>hsk q.1)]at UR;rw[<-UR]at Tw;exact loop H3 l ts Tw J7 Ze N7 YA
   ·rw[if_neg hem];rw[if_neg (λq=>hem q.2)]at UR;rw[<-UR]at Tw;exact loop H3 l ts Tw J7 Ze N7 YA
 ·rw[if_neg (by simp;omega)];simp only[aE,if_false];exact q i H' (.inl (by omega)) N9 hlen k1
end
theorem U0 {H H':Hp}{L M M':List Addr}(k:Keeps L H H') (hL:∀x∈L,x∈M) (h1:∀x∈M,x∈M') (h2:∀x∈M',x∈M\/H x=none):Keeps [] (wo H M) (wo H' M'):=⟨λb o h _=>by
 obtain⟨n,h⟩:=bE.mp h;refine bE.mpr ⟨λq=>?_,k.kp b o h λq=>n (hL b q)⟩;rcases h2 b q with r|r
 ·exact n r
 ·(rw[r]at h;cases h),λb h=>by
 by_cases hm:b∈M
 ·exact zB hm
 ·rw[nH hm];by_cases RE:b∈M'
  ·exact(h2 b RE).resolve_left hm
  ·rw[nH RE]at h;exact k.gr b h⟩
structure SDone (t:cT) (K:aa) (H:Hp) (z:Sa) (N:Net) (all:List Found) (fs:Int):Prop where
 s:dU t K H z N all fs
 l:all.length<=50625
 e:(nq N 1 (dH N)=true/\∃n,((proc N n).length<=n\/50000<(proc N n).length)/\all=proc N n/\fs=Es N ((proc N n).take n))\/(nq N 1 (dH N)=false/\all=[]/\fs = -1)
section
variable {P:Program}{w:World}{K:aa}{mg:Str->Option Value}{base:Heap}{t:cT}
def EA (t:cT) (K:aa):Sp:=λvs H Q _=>∃(a dx wd ks:Addr) (N:Net),vs=[.ref a,.ref wd]/\H a=some (.ins t.cu dx [])/\H dx=some (.own a)/\fT t K (wo H [a,dx]) wd ks N/\mm N /\
 ∀(z:Sa) (all:List Found) (fs:Int) (H':Hp),z.a=a->z.dx=dx->z.w=wd->z.ks=ks->SDone t K H' z N all fs->Keeps [a,dx,ks] H H'->(∀x∈[z.lS,z.dS,z.lB,z.lL,z.dF],H x=none)->Q .gi H'
theorem C0 (T:Txt K mg t):IA P w K mg base 9 t.cu "Search" ["self", "world"] (EA t K):=by
 obtain⟨f,fd,F,M,g⟩:=T.vS;refine⟨f,fd,F.ok Bg (λvs H Q E h=>?_) (λgw A outer s H vs Q E hr h=>?_),M,g,F.binds (λ_ _ _ _ _ _ us hl=>match us,hl with|[_,_],_=>rfl)⟩
 ·obtain⟨a,dx,wd,ks,N,rfl,_⟩:=h;rfl
 obtain⟨a,dx,wd,ks,N,rfl,h⟩:=h;have hu:=cF hr;refine⟨_,(aj (bW (pv 0) (pv 1) rfl) (aj (bW (pv 0) (c9 aC) rfl) (aj (bW (pv 0) jo rfl) (aj (bW (pv 0) (c9 aC) rfl) (aj (bW (pv 0) (c9 aC) rfl) (aj (bW (pv 0) jo rfl) (aj (bW (pv 0) (sM pb bf) rfl) (aD (cS (i7 (nL (og T) (hr.mono (by decide)) (pv 1))) (aj (d7 (gP (v8 T) (hr.mono (by decide)) (pv 0) (ag bf (ag (sM pb bf) (ag my aC))))) (aD (d7 (nL (Cc T) (hr.mono (by decide)) (pv 0))))) bL))))))))),?_⟩;obtain⟨h1,ho,hW,nf,q⟩:=h;push_cast[h1,T.cU];intro p1 AK;generalize e1:upd H a _=H1 at AK⊢;obtain⟨g1,k1⟩:=wr e1;generalize e2:upd H1 p1 _=H2;obtain⟨g2,k2⟩:=al e2 AK;have o2:=k2.up g1;push_cast[o2,T.cU];intro p2 Ka;generalize e3:upd H2 a _=H3 at Ka⊢;obtain⟨g3,k3⟩:=wr e3;generalize e4:upd H3 p2 _=H4;obtain⟨g4,k4⟩:=al e4 Ka;have o4:=k4.up g3;have s4:=k4.up (k3.bM g2 (aK g2 o2 nofun));push_cast[o4,T.cU];intro p3 Lx;generalize e5:upd H4 a _=H5 at Lx⊢;obtain⟨g5,k5⟩:=wr e5;generalize e6:upd H5 p3 _=H6;obtain⟨g6,k6⟩:=al e6 Lx;have o6:=k6.up g5;have s6:=k6.up (k5.bM s4 (aK s4 o4 nofun));have d6:=k6.up (k5.bM g4 (aK g4 o4 nofun));push_cast[o6,T.cU];intro p4 RD;generalize e7:upd H6 a _=H7 at RD⊢;obtain⟨g7,k7⟩:=wr e7;generalize e8:upd H7 p4 _=H8;obtain⟨g8,k8⟩:=al e8 RD;have o8:=k8.up g7;have s8:=k8.up (k7.bM s6 (aK s6 o6 nofun));have d8:=k8.up (k7.bM d6 (aK d6 o6 nofun));have b8:=k8.up (k7.bM g6 (aK g6 o6 nofun));push_cast[o8,T.cU];intro p5 RC;generalize e9:upd H8 a _=H9 at RC⊢;obtain⟨g9,k9⟩:=wr e9;generalize e10:upd H9 p5 _=H10;obtain⟨g10,Xm⟩:=al e10 RC;have Xi:=Xm.up g9;have s10:=Xm.up (k9.bM s8 (aK s8 o8 nofun));have d10:=Xm.up (k9.bM d8 (aK d8 o8 nofun));have b10:=Xm.up (k9.bM b8 (aK b8 o8 nofun));have l10:=Xm.up (k9.bM g8 (aK g8 o8 nofun));have n3:p1≠p3:=a6 (k5.bM s4 (aK s4 o4 nofun)) Lx;have n4:p1≠p4:=a6 (k7.bM s6 (aK s6 o6 nofun)) RD;have n5:p3≠p4:=a6 (k7.bM g6 (aK g6 o6 nofun)) RD;have n6:p2≠p5:=a6 (k9.bM d8 (aK d8 o8 nofun)) RC;push_cast[Xi,T.cU];generalize e11:upd H10 a _=H11;obtain⟨g11,Xl⟩:=wr e11;have kk:Keeps [a] H H11:=((((((((((k1.trans k2.any).trans k3).trans k4.any).trans k5).trans k6.any).trans k7).trans k8.any).trans k9).trans Xm.any).trans Xl);have f1:H p1=none:=k1.gr _ AK;have f2:H p2=none:=k1.gr _ (k2.gr _ (k3.gr _ Ka));have f3:H p3=none:=k1.gr _ (k2.gr _ (k3.gr _ (k4.gr _ (k5.gr _ Lx))));have f4:H p4=none:=k1.gr _ (k2.gr _ (k3.gr _ (k4.gr _ (k5.gr _ (k6.gr _ (k7.gr _ RD))))));have f5:H p5=none:=k1.gr _ (k2.gr _ (k3.gr _ (k4.gr _ (k5.gr _ (k6.gr _ (k7.gr _ (k8.gr _ (k9.gr _ RC))))))));obtain⟨z,hz⟩:∃z:Sa,z=⟨a,dx,wd,ks,p1,p2,p3,p4,p5⟩:=⟨_,rfl⟩;have Kd:∀x∈[z.lS,z.dS,z.lB,z.lL,z.dF],H x=none:=by
  rw[hz];intro x hx;simp only[ah,aF,or_false]at hx;rcases hx with rfl|rfl|rfl|rfl|rfl<;>assumption
 have hM:∀x∈z.M,x∈[a,dx]\/H x=none:=by
  intro x hx;simp only[Sa.M,ah,aF,or_false]at hx;rcases hx with h|h|h
  ·exact .inl (by rw[h,hz];simp)
  ·exact .inl (by rw[h,hz];simp)
  ·exact .inr (Kd x (by simp only[ah,aF,or_false];exact h))
 have hS:dU t K H11 z N [] (-1):=by
  refine⟨?_,?_,?_,⟨?_,?_,?_,⟨[],[],?_,?_,rfl,rfl,λi x hi=>by simp at hi⟩,(λx hx=>(by cases hx)),by simp⟩,?_,?_,?_,?_⟩
  ·rw[hz];exact kk.bM ho (aK ho h1 nofun)
  ·rw[hz];exact g11
  ·have:=hW.up (U0 (M':=z.M) kk (by simp) (by rw[hz];simp[Sa.M]) hM);rw[hz]at this⊢;exact this
  ·rw[hz];exact Xl.bM s10 (aK s10 Xi nofun)
  ·rw[hz];exact Xl.bM d10 (aK d10 Xi nofun)
  ·rw[hz];exact Xl.bM g10 (aK g10 Xi nofun)
  ·rw[hz];exact Xl.bM b10 (aK b10 Xi nofun)
  ·rw[hz];exact Xl.bM l10 (aK l10 Xi nofun)
  ·rw[hz];exact n3
  ·rw[hz];exact n4
  ·rw[hz];exact n5
  ·rw[hz];exact n6
 have hwa:=hS.wd.up cG;obtain⟨Zo,tdw,w1,_⟩:=hwa.ex;have za:z.a=a:=by rw[hz]
 have zd:z.dx=dx:=by rw[hz]
 have zw:z.w=wd:=by rw[hz]
 have zk:z.ks=ks:=by rw[hz]
 rw[zw,zk]at hwa;rw[zw,zk]at w1;push_cast[cG.up w1];refine⟨wd,ks,N,rfl,hwa,nf,λH12 Qe=>?_⟩;have Wr:=hS.up Qe;have YB:Keeps [a] H H12:=kk.trans Qe.any;push_cast;by_cases hr:nq N 1 (dH N)=true
 ·rw[if_pos hr];have Yp:=Wr.ob;rw[za]at Yp;push_cast[Yp,T.cU];refine⟨z,N,[],-1,(dH N,[]),-1,.gi,by rw[za,t6];rfl,Wr,nf.toNOk,xn nf,by simp[sizeLine],.inl ⟨rfl,rfl⟩,λH13 Y9 Hh=>?_⟩;have Yo:=Y9.ob;rw[za]at Yo;push_cast[Yo,T.cU];refine⟨z,N,by rw[za],Y9,nf,λn H14 hn aaU aaI UB=>?_⟩;have k34:Keeps (z.ks::z.M) H12 H14:=(Hh.mono (by simp[Sa.M])).trans UB;refine q z _ _ H14 za zd zw zk ⟨aaU,aaI,.inl ⟨hr,n,hn,rfl,rfl⟩⟩ (((YB.mono (M':=[a,dx,ks]) (by simp)).qY k34 λx hx=>?_)) Kd;rcases ah.mp hx with h|h
  ·exact .inl (by rw[h,zk];simp)
  ·rcases hM x h with r|r
   ·exact .inl (by simp only[ah,aF,or_false]at r⊢;rcases r with r|r<;>simp[r])
   ·exact .inr r
 ·rw[if_neg hr];exact q z [] (-1) H12 za zd zw zk ⟨Wr,by simp,.inr ⟨by simpa using hr,rfl,rfl⟩⟩ (YB.mono (by simp)) Kd
end
section
variable {X:Cx}
def OO (tk tv:TE):TE:=λσ H Q=>∀p,H p=none->tk σ (upd H p (.dK [])) λx H1=>tv σ H1 λy H2=>H2 p=some (.dK [])/\∃k,x=kV k/\Q (.ref p) (upd H2 p (.dK [(k,y)]))
theorem Pq {k v:Expr}{tk tv:TE}{pos:Pos}(hk:PE X k tk) (hv:PE X v tv):PE X (.Dict [some k] [v] pos) (OO tk tv) :=
 Pp (SS (Pe (t5 hk) (t5 hv) SK) rfl rfl (by simp) (by simp)) λσ H Q h p hp=>X0 (h p hp) λx y H2 ⟨e,k,ek,q⟩=>⟨e,[(k,y)],by rw[ek];rfl,by simp,by
  have:yR [] [(k,y)]=[(k,y)]:=rfl;rw[this];exact q⟩
end
def mr (l:List State):List V:=l.map λs=>V.int (dM s:Nat)
def me (l:List State):List (Key×V):=l.map λs=>(cy ((dM s:Nat):Int),V.bl true)
theorem O4 (l:List State):me l=vD (l.map λs=>(s,[])):=by
 unfold me vD;rw[da];rfl
theorem yJ {N:Net}(no:NOk N){l:List State}(h:∀s∈l,mH N s){s:State}(so:mH N s):(eQ (me l) (cy ((dM s:Nat):Int))).isSome=decide (s∈l):=by
 rw[O4,GS no (all:=l.map λs=>(s,[])) (λx hx=>by obtain⟨y,hy,rfl⟩:=aH.mp hx;exact h y hy) so,da];have:((λx:Found=>x.1) ∘ λs:State=>((s,[]):Found))=id:=rfl;rw[this,XY]
theorem Be {N:Net}(no:NOk N){l:List State}(h:∀s∈l,mH N s){s:State}(so:mH N s) (hn:s∉l):eQ (me l) (cy ((dM s:Nat):Int))=none:=by
 have:=yJ no h so;rw[decide_eq_false hn]at this;cases e:eQ (me l) (cy ((dM s:Nat):Int))with
 | none=>rfl
 | some v=>rw[e]at this;cases this
theorem DD:∀(l:List State) (p:List State×List State),(l.foldl jd p).1.length<=p.1.length+l.length/\(l.foldl jd p).2.length<=p.2.length+l.length
 | [],p=>by simp
 | x::l,p=>by
  rw[bJ,ay];have:=DD l (jd p x);unfold jd at this⊢
  split at this
  ·rename_i h;rw[if_pos h];omega
  ·rename_i h;rw[if_neg h];simp only[aJ,ay,bI]at this;omega
theorem DC:∀(l:List State) (p:List State×List State) (s:State),s∈(l.foldl jd p).1->s∈p.1\/s∈l
 | [],p,s,h=>.inl h
 | x::l,p,s,h=>by
  rw[bJ]at h;rcases DC l (jd p x) s h with q|q
  ·unfold jd at q
   split at q
   ·exact .inl q
   ·rcases aN.mp q with q|q
    ·exact .inl q
    ·rw[aL]at q;rw[q];exact .inr (au ..)
  ·exact .inr (ai _ q)
section
variable {P:Program}{w:World}{K:aa}{mg:Str->Option Value}{base:Heap}{t:cT}
def MD:Sp:=λvs H Q _=>∃(ls ds:Addr) (N:Net) (later seen:List State),vs=[.ref ls,.ref ds]/\H ls=some (.lst (mr later))/\H ds=some (.dK (me seen))/\NOk N/\(∀s∈later,mH N s)/\(∀s∈seen,mH N s)/\seen.length+later.length<sizeLine /\
 ∀(r:Addr) (H':Hp),H' r=some (.lst (mr (later.foldl jd (seen,[])).2))->H' ds=some (.dK (me (later.foldl jd (seen,[])).1))->H r=none->Keeps [ds] H H'->Q (.ref r) H'
theorem Ks (T:Txt K mg t):vm P w K mg base 1 "new_ones" ["states", "seen"] (MD):=by
 obtain⟨f,fd,F,M⟩:=T.BW;refine⟨f,fd,F.ok tV (λvs H Q E h=>?_) (λgw A outer s H vs Q E hr h=>?_),M,F.kp,F.binds (λ_ _ _ _ _ _ us hl=>match us,hl with|[_,_],_=>rfl)⟩
 ·obtain⟨ls,ds,N,later,seen,rfl,_⟩:=h;rfl
 obtain⟨ls,ds,N,later,seen,rfl,h⟩:=h;have hu:=cF hr;refine⟨_,(aj (bO (i:=2) tV.nd rfl (aX rfl) (c9 aC)) (aj (fU PassesOwn.never rfl (fE (pv 0)) (cB (i:=3) tV.nd rfl (aX rfl)) (aD (cS (nJ (iJ hu (pv 3) (pv 1))) (aj (qO hu (pv 1) (pv 3) jq rfl) (aD (d7 (lI bc bq bp eZ (pv 2) (ag (pv 3) aC))))) bL))) (aD (bj (pv 2))))),?_⟩;obtain⟨h1,h2,no,ol,os,hz,q⟩:=h;push_cast;intro r hr;generalize e1:upd H r _=H1;obtain⟨g1,k1⟩:=al e1 hr;have n1:ls≠ds:=aK h1 h2 nofun
 have n2:ds≠r:=a6 h2 hr;have n3:ls≠r:=a6 h1 hr;refine⟨⟨_,dO.of (k1.up h1)⟩,gU (xs:=mr later) (λi σ H'=>(∃x,σ=[some (.ref ls),some (.ref ds),some (.ref r),x])/\H' r=some (.lst (mr ((later.take i).foldl jd (seen,[])).2))/\H' ds=some (.dK (me ((later.take i).foldl jd (seen,[])).1))/\Keeps [r,ds] H1 H') ⟨⟨_,rfl⟩,g1,k1.up h2,Keeps.refl⟩ (λi σ H' _ ⟨_,_,_,k⟩=>dO.of (k.kp _ _ (k1.up h1) (by simp[n1,n3]))) ?_ ?_⟩
 ·rintro i x σ H' hi ⟨⟨y,rfl⟩,hg,hd,k⟩;obtain⟨s0,Ir,rfl⟩:=eI hi;have so:=ol s0 (aI Ir);generalize ep:(later.take i).foldl jd (seen,[])=p at hg hd;have il:i<later.length:=(aw.mp Ir).1;obtain⟨l1,l2⟩:=DD (later.take i) (seen,[]);rw[ep]at l1 l2;have tl:(later.take i).length=i:=by rw[cw];omega
  rw[tl]at l1 l2;simp only[bI]at l1 l2;have VG:∀s∈p.1,mH N s:=λs hs=>by
   rw[<-ep]at hs;rcases DC _ _ _ hs with z|z
   ·exact os s z
   ·exact ol s (jR z)
  have es:(later.take (i+1)).foldl jd (seen,[])=jd p s0:=by rw[bX Ir,fY,ep];rfl
  have Fp:=yJ no VG so;push_cast[hd];by_cases hm:s0∈p.1
  ·rw[decide_eq_true hm]at Fp;push_cast[Fp,if_true,bR,aE,if_false];rw[es];unfold jd;rw[if_pos hm];exact⟨hg,rfl,k⟩
  ·rw[decide_eq_false hm]at Fp;push_cast[Fp,if_true,bH,hd];rw[m7 (Be no VG so hm)];have sl:(me p.1).length<sizeLine:=by simp only[me,ax];omega
   refine⟨sl,?_⟩;generalize e2:upd H' ds _=H2;obtain⟨g2,k2⟩:=wr e2;have sl2:(mr p.2).length<sizeLine:=by simp only[mr,ax];omega
   have Nj:=k2.bM hg n2.symm;push_cast[Nj,sl2];generalize e3:upd H2 r _=H3;obtain⟨g3,k3⟩:=wr e3;rw[es];unfold jd;rw[if_neg hm];refine⟨by simp[mr],by rw[k3.bM g2 n2];simp[me],(k.trans (k2.mono (by simp))).trans (k3.mono (by simp))⟩
 ·rintro σ H' ⟨⟨y,rfl⟩,hg,hd,k⟩;rw[show(mr later).length=later.length by simp[mr],bP]at hg hd;push_cast;exact q r H' hg hd hr ((k1.any.qY k (M':=[ds]) λx hx=>by
   simp only[ah,aF,or_false]at hx;rcases hx with h|h
   ·exact .inr (by rw[h];exact hr)
   ·exact .inl (by simp[h])))
end
theorem KW {H H':Hp}{L M M':List Addr}(k:Keeps L H H') (hL:∀x∈L,x∈M) (h2:∀x∈M',x∈M\/H x=none):Keeps [] (wo H M) (wo H' M'):=⟨λb o h _=>by
 obtain⟨n,h⟩:=bE.mp h;refine bE.mpr ⟨λq=>?_,k.kp b o h λq=>n (hL b q)⟩;rcases h2 b q with r|r
 ·exact n r
 ·(rw[r]at h;cases h),λb h=>by
 by_cases hm:b∈M
 ·exact zB hm
 ·rw[nH hm];by_cases RE:b∈M'
  ·exact(h2 b RE).resolve_left hm
  ·rw[nH RE]at h;exact k.gr b h⟩
theorem Nz {N:Net}{a:List Nat}{mv:Mv}(h:mv∈cands N a):mv.step = .tick↔mv.es=[]:=by
 unfold cands at h;rcases ah.mp h with rfl|h
 ·simp
 ·rcases aN.mp h with h|h
  ·obtain⟨p,_,rfl⟩:=aH.mp h;simp[j4]
  ·obtain⟨p,_,h⟩:=fI.mp h;obtain⟨q,_,rfl⟩:=aH.mp h;simp[fh]
theorem MX {N:Net}{s:State}{p:Mv×State}(h:p∈nextM N s):p.1∈cands N s.at_/\p.2=eD s p.1:=by
 unfold nextM at h;obtain⟨mv,hm,rfl⟩:=aH.mp h;exact⟨(dv.mp hm).1,rfl⟩
theorem Mi (N:Net) (s:State):(vB N s).length<=1:=by
 rw[<-rq];cases pO Md16.capped (Md16.after N 1 s .tick)<;>simp
theorem Hv (N:Net):∀l:List State,(l.flatMap (vB N)).length<=l.length
 | []=>by simp
 | s::l=>by
  rw[dI,aJ,ay];have:=Mi N s;have:=Hv N l;omega
theorem LI.yU {N:Net}{A:List State}{S W:State->Prop}{seen found later:List State}{i:Nat}(h:LI N A S W seen found later i):later.length<=found.length:=by
 rw[h.lt];refine bw (Hv N _) ?_;rw[cw];omega
abbrev L3:=List State×List State×List State
theorem P6:∀(es:List (fH×State)) (p:L3),(es.foldl iQ p).1.length<=p.1.length+es.length/\(es.foldl iQ p).2.1.length<=p.2.1.length+es.length/\(es.foldl iQ p).2.2.length<=p.2.2.length+es.length
 | [],p=>by simp
 | e::es,p=>by
  rw[bJ,ay];have:=P6 es (iQ p e);unfold iQ at this⊢
  split at this
  ·rename_i h;rw[if_pos h];simp only[aJ,ay,bI]at this⊢;omega
  ·rename_i h
   rw[if_neg h]
   split at this
   ·rename_i h2;rw[if_pos h2];omega
   ·rename_i h2;rw[if_neg h2];simp only[aJ,ay,bI]at this⊢;omega
theorem P5:∀(es:List (fH×State)) (p:L3) (s:State),s∈(es.foldl iQ p).1->s∈p.1\/∃e∈es,e.2=s
 | [],p,s,h=>.inl h
 | e::es,p,s,h=>by
  rw[bJ]at h;rcases P5 es (iQ p e) s h with q|⟨x,a,b⟩
  ·unfold iQ at q
   split at q
   ·exact .inl q
   ·split at q
    ·exact .inl q
    ·rcases aN.mp q with q|q
     ·exact .inl q
     ·rw[aL]at q;exact .inr ⟨e,au ..,q.symm⟩
  ·exact .inr ⟨x,ai _ a,b⟩
theorem vG:∀(l acc:List (List Nat×Nat)),(acc.map (·.1)).Nodup->((l.foldl tu acc).map (·.1)).Nodup
 | [],_,h=>h
 | x::l,acc,h=>by
  rw[bJ];refine vG l _ ?_;unfold tu
  split
  ·exact h
  ·rename_i hx
   rw[bo,eh];refine⟨h,by simp,λa ha b hb=>?_⟩;rw[aP,cn,aL]at hb;rw[hb];exact λz=>hx (by rw[z]at ha;exact ha)
theorem yK (l:List (List Nat×Nat)):((sL l).map (·.1)).Nodup:=vG l [] (by simp)
theorem Jw {N:Net}{l:List (List Nat×Nat)}(h:∀x∈l,vp N x.1):∀x∈sL l,vp N x.1:=λx hx=>by
 rcases AE l [] x hx with q|q
 ·cases q
 ·exact h x q
theorem Kk {N:Net}(no:NOk N){l:List (List Nat×Nat)}(h:∀x∈l,vp N x.1) (nd:(l.map (·.1)).Nodup):(du l).length<=512:=by
 have Yt:(l.map λx=>enc 8 x.1).Nodup:=by
  have e:l.map (λx=>enc 8 x.1)=(l.map (·.1)).map (enc 8):=by rw[da];rfl
  rw[e];have aux:∀m:List (List Nat),m.Nodup->(∀a∈m,vp N a)->(m.map (enc 8)).Nodup:=by
   intro m
   induction m with
   | nil=>intro _ _;simp
   | cons a m ih =>
    intro hn ho;rw[gX]at hn;rw[aP,gX];refine⟨λz=>?_,ih hn.2 λb hb=>ho b (ai _ hb)⟩;obtain⟨b,hb,e⟩:=aH.mp z;have oa:=ho a (au ..);have ob:=ho b (ai _ hb);have:b=a:=enc_inj (by rw[oa.al,ob.al]) (ob.p8 no) (oa.p8 no) e;rw[this]at hb;exact hn.1 hb
  exact aux _ nd λa ha=>by obtain⟨x,hx,rfl⟩:=aH.mp ha;exact h x hx
 have:=qR Yt (A:=bF 512) λk hk=>by
  obtain⟨x,hx,rfl⟩:=aH.mp hk;exact iz.mpr (Km no (h x hx))
 rw[du,ax];simpa using this
def M4 (u ds lf ll:Addr):List Addr:=[u,ds,lf,ll]
structure LU (t:cT) (K:aa) (H:Hp) (wd ks u ds lf ll:Addr) (N:Net) (us:List (List Nat×Nat)) (p:L3):Prop where
 hu:H u=some (.dK (du us))
 hd:H ds=some (.dK (me p.1))
 hf:H lf=some (.lst (mr p.2.1))
 hl:H ll=some (.lst (mr p.2.2))
 w:fT t K (wo H (M4 u ds lf ll)) wd ks N
 n1:u≠ds
 n2:lf≠ll
theorem LU.fr {t:cT}{K:aa}{H:Hp}{wd ks u ds lf ll:Addr}{N:Net}{us:List (List Nat×Nat)}{p:L3}(h:LU t K H wd ks u ds lf ll N us p):yn H (M4 u ds lf ll):=by
 intro x hx;simp only[M4,ah,aF,or_false]at hx;rcases hx with rfl|rfl|rfl|rfl
 ·exact⟨_,h.hu,trivial⟩
 ·exact⟨_,h.hd,trivial⟩
 ·exact⟨_,h.hf,trivial⟩
 ·exact⟨_,h.hl,trivial⟩
theorem LU.call {t:cT}{K:aa}{H H':Hp}{wd ks u ds lf ll:Addr}{N:Net}{us:List (List Nat×Nat)}{p:L3}(h:LU t K H wd ks u ds lf ll N us p) (e:∀x∈M4 u ds lf ll,H' x=H x) (hw:fT t K (wo H' (M4 u ds lf ll)) wd ks N):LU t K H' wd ks u ds lf ll N us p :=
 ⟨by rw[e _ (by simp[M4])];exact h.hu,by rw[e _ (by simp[M4])];exact h.hd,by rw[e _ (by simp[M4])];exact h.hf,by rw[e _ (by simp[M4])];exact h.hl,hw,h.n1,h.n2⟩
section
variable {K:aa}{mg:Str->Option Value}{t:cT}{H:Hp}{wd ks u ds lf ll:Addr}{N:Net}{us:List (List Nat×Nat)}{p:L3}
theorem LU.later (h:LU t K H wd ks u ds lf ll N us p){H':Hp}{s:State}(e:upd H ll (.lst (mr p.2.2++[V.int (dM s:Nat)]))=H'):LU t K H' wd ks u ds lf ll N us (p.1,p.2.1,p.2.2++[s]):=by
 obtain⟨g,k⟩:=wr e;exact⟨k.bM h.hu (aK h.hu h.hl nofun),k.bM h.hd (aK h.hd h.hl nofun),k.bM h.hf h.n2,by rw[g];simp[mr],h.w.up (k.mono (M':=M4 u ds lf ll) (by simp[M4])).wo,h.n1,h.n2⟩
theorem LU.grow (h:LU t K H wd ks u ds lf ll N us p){H1 H':Hp}{s:State}(e1:upd H ds (.dK (me p.1++[(cy ((dM s:Nat):Int),V.bl true)]))=H1) (e:upd H1 lf (.lst (mr p.2.1++[V.int (dM s:Nat)]))=H'):LU t K H' wd ks u ds lf ll N us (p.1++[s],p.2.1++[s],p.2.2):=by
 obtain⟨g1,k1⟩:=wr e1;obtain⟨g,k⟩:=wr e;have f1:=k1.bM h.hf (aK h.hf h.hd nofun);have u1:=k1.bM h.hu h.n1;have l1:=k1.bM h.hl (aK h.hl h.hd nofun);exact⟨k.bM u1 (aK u1 f1 nofun),by rw[k.bM g1 (aK g1 f1 nofun)];simp[me],by rw[g];simp[mr],k.bM l1 h.n2.symm,(h.w.up (k1.mono (M':=M4 u ds lf ll) (by simp[M4])).wo).up (k.mono (M':=M4 u ds lf ll) (by simp[M4])).wo,h.n1,h.n2⟩
theorem LU.unit (h:LU t K H wd ks u ds lf ll N us p){H':Hp}{us':List (List Nat×Nat)}(g:H' u=some (.dK (du us'))) (k:Keeps [u] H H'):LU t K H' wd ks u ds lf ll N us' p:=by
 exact⟨g,k.bM h.hd h.n1.symm,k.bM h.hf (aK h.hf h.hu nofun),k.bM h.hl (aK h.hl h.hu nofun),h.w.up (k.mono (M':=M4 u ds lf ll) (by simp[M4])).wo,h.n1,h.n2⟩
theorem PR (T:Txt K mg t) (no:NOk N){s:State}(so:mH N s) (h:LU t K H wd ks u ds lf ll N us p){l:Addr}{ts:List Addr}(xH:sF t K (wo H (M4 u ds lf ll)) N ts (nextM N s)) (hl:H l=some (.lst (ts.map V.ref))) (nl:l∉M4 u ds lf ll)
  (b1:p.1.length<=50000) (b2:p.2.1.length<=50000) (b3:p.2.2.length<=50000) (os:∀x∈p.1,mH N x){D:Ends}{x7 x8:Option V}{pa:V}{i:Int}
  (hd:∀(y7 y8:Option V) (H':Hp),LU t K H' wd ks u ds lf ll N us ((eU N s).foldl iQ p)->Keeps (M4 u ds lf ll) H H'->D.nx [some (.ref wd),some (.ref u),some (.ref ds),some (.ref lf),some pa,some (.ref ll),some (.int i),y7,y8] H') :
  C5 (Rp K l) (Kh K 2 (BP (xM 7) (BP (xM 8) QT)))
   (ON (tB (Mn K (tj 7) (Str.ofString "is_time"))) (Dm (X7 K "list" xw (tj 5) (zC (tj 8) CH))) (ON (tB (Rz (QO true) (tj 8) (tj 2))) (R8 (EO (tj 2) (tj 8) (tC (V.bl true))) (Dm (X7 K "list" xw (tj 3) (zC (tj 8) CH)))) K2))
   D [some (.ref wd),some (.ref u),some (.ref ds),some (.ref lf),some pa,some (.ref ll),some (.int i),x7,x8] H:=by
 have en:eU N s=(nextM N s).map λp=>(p.1.step,p.2):=rQ no so
 have aai:(nextM N s).length<=625:=by
  have:=G8 no so;rw[en,ax]at this;exact this
 obtain⟨Pv,tw⟩:∃Pv:Nat->L2.St->Hp->Prop,Pv=λj σ H'=>(∃y7 y8,σ=[some (.ref wd),some (.ref u),some (.ref ds),some (.ref lf),some pa,some (.ref ll),some (.int i),y7,y8])/\LU t K H' wd ks u ds lf ll N us (((eU N s).take j).foldl iQ p)/\Keeps (M4 u ds lf ll) H H':=⟨_,rfl⟩
 refine gU (xs:=ts.map V.ref) Pv (by rw[tw];exact⟨⟨_,_,rfl⟩,by simpa using h,Keeps.refl⟩) (λj σ H' _ hp=>by rw[tw]at hp;exact dO.of (hp.2.2.kp _ _ hl nl)) ?_ ?_
 ·intro j x σ H' hj hp;rw[tw]at hp;obtain⟨⟨y7,y8,rfl⟩,hL,k⟩:=hp;obtain⟨Ta,hT,rfl⟩:=eI hj;obtain⟨e,he⟩:∃e,(nextM N s)[j]?=some e:=⟨_,ae (by rw[<-xH.len];exact(aw.mp hT).1)⟩;have he2:(eU N s)[j]?=some (e.1.step,e.2):=by rw[en,aR,he];rfl
  obtain⟨hc,Hl⟩:=MX (aI he);have so':mH N e.2:=by rw[Hl];exact wm no so hc
  have ect:=Nz hc;obtain⟨b,t1,hb⟩:=(xH.up k.wo).at_ j Ta e hT he;obtain⟨dxb,bsp,ble,blb,bas,bbs,f1,_⟩:=id hb;have f1':=cG.up f1;unfold Fw at f1';have LL:((eU N s).take (j+1)).foldl iQ p=iQ (((eU N s).take j).foldl iQ p) (e.1.step,e.2):=by rw[bX he2,fY];rfl
  obtain⟨l1,l2,l3⟩:=P6 ((eU N s).take j) p;have jl:((eU N s).take j).length<=625:=by rw[cw,en,ax];omega
  have VG:∀x∈(((eU N s).take j).foldl iQ p).1,mH N x:=λx hx=>by
   rcases P5 _ _ _ hx with z|⟨y,hy,rfl⟩
   ·exact os x z
   ·exact Fb no so (jR hy)
  generalize ((eU N s).take j).foldl iQ p=pj at hL LL l1 l2 l3 VG;push_cast;refine⟨_,lR.of (cG.up t1),rfl,?_⟩;push_cast[f1',T.pk];by_cases Y0:e.1.es=[]
  ·rw[if_pos (by rw[Y0];rfl)];have sl:(mr pj.2.2).length<sizeLine:=by simp only[mr,ax,sizeLine];omega
   push_cast[hL.hl,sl];generalize e2:upd H' ll _=H2;rw[tw];refine⟨⟨_,_,rfl⟩,?_,k.trans ((wr e2).2.mono (by simp[M4]))⟩;rw[LL];unfold iQ;rw[if_pos (ect.mpr Y0)];exact hL.later e2
  ·rw[if_neg (by rw[gs];exact Y0)];have Fp:=yJ no VG so';push_cast[hL.hd];by_cases hm:e.2∈pj.1
   ·rw[decide_eq_true hm]at Fp;push_cast[Fp,if_true,bR,aE,if_false];rw[tw];refine⟨⟨_,_,rfl⟩,?_,k⟩;rw[LL];unfold iQ;rw[if_neg (λz=>Y0 (ect.mp z)),if_pos hm];exact hL
   ·rw[decide_eq_false hm]at Fp;have sl:(me pj.1).length<sizeLine:=by simp only[me,ax,sizeLine];omega
    have sl2:(mr pj.2.1).length<sizeLine:=by simp only[mr,ax,sizeLine];omega
    push_cast[Fp,if_true,bH,hL.hd,sl];rw[m7 (Be no VG so' hm)];generalize e2:upd H' ds _=H2;have hf2:=(wr e2).2.bM hL.hf (aK hL.hf hL.hd nofun);push_cast[hf2,sl2];generalize e3:upd H2 lf _=H3;rw[tw];refine⟨⟨_,_,rfl⟩,?_,(k.trans ((wr e2).2.mono (by simp[M4]))).trans ((wr e3).2.mono (by simp[M4]))⟩;rw[LL];unfold iQ;rw[if_neg (λz=>Y0 (ect.mp z)),if_neg hm];exact hL.grow e2 e3
 ·intro σ H' hp;rw[tw]at hp;obtain⟨⟨y7,y8,rfl⟩,hL,k⟩:=hp;rw[ax,xH.len,show(nextM N s).length=(eU N s).length by rw[en,ax],bP]at hL;exact hd y7 y8 H' hL k
end
section
variable {P:Program}{w:World}{K:aa}{mg:Str->Option Value}{base:Heap}{t:cT}
def EB (t:cT) (K:aa):Sp:=λvs H Q _=>∃(wd ks:Addr) (N:Net),vs=[.ref wd]/\fT t K H wd ks N/\mm N/\(nq N 1 (dH N)=true->∃A,Cl N A) /\
 ∀(u:Addr) (us:List (List Nat×Nat)) (H':Hp),H' u=some (.dK (du us))->(∀q,C9 N q=(us.find? λx=>gn x.1 q).map (·.2))->(∀x∈us,vp N x.1)->(us.map (·.1)).Nodup->fT t K H' wd ks N->H u=none->Keeps [ks] H H'->Q (.ref u) H'
set_option maxHeartbeats 4000000 in
theorem CZ (T:Txt K mg t):vm P w K mg base 8 "least_units" ["world"] (EB t K):=by
 obtain⟨f,fd,F,M⟩:=T.vP;refine⟨f,fd,F.ok dm (λvs H Q E h=>?_) (λgw A outer s H vs Q E hr h=>?_),M,F.kp,F.binds (λ_ _ _ _ _ _ us hl=>match us,hl with|[_],_=>rfl)⟩
 ·obtain⟨wd,ks,N,rfl,_⟩:=h;rfl
 obtain⟨wd,ks,N,rfl,h⟩:=h;have hu:=cF hr;refine⟨_,(aj (bO (i:=1) dm.nd rfl (aX rfl) jo) (aj (cS (qu (i7 (nL (og T) (hr.mono (by decide)) (pv 0)))) (aD (bj (pv 1))) bL) (aj (bO (i:=2) dm.nd rfl (aX rfl) (Pq bf jq)) (aj (bO (i:=3) dm.nd rfl (aX rfl) (c9 (ag bf aC))) (aj (bO (i:=4) dm.nd rfl (aX rfl) bf) (aj (m8 PassesOwn.never (br (Bv hu) (pv 3) (c9 aC) (bN _)) (aj (bO (i:=5) dm.nd rfl (aX rfl) (c9 aC)) (aj (bO (i:=6) dm.nd rfl (aX rfl) bf) (aj (m8 PassesOwn.never (br nZ (pv 6) (bT cO rfl T.eY dR (ag (pv 3) aC)) (bN _)) (aj (d7 (G5 hu (pv 1) (eG (zh T) (hr.mono (by decide)) rfl (ag (dw dq (pv 3) (pv 6) (λ_ _=>rfl)) aC)) (pv 4) ⟨rfl,rfl,rfl,rfl⟩)) (aj (fU PassesOwn.never rfl (fE (gP (pJ T).frame (hr.mono (by decide)) (pv 0) (ag (dw dq (pv 3) (pv 6) (λ_ _=>rfl)) aC))) (yL (n:=2) rfl (iP (cB (i:=7) dm.nd rfl (aX rfl)) (iP (cB (i:=8) dm.nd rfl (aX rfl)) uY))) (aD (cS (i7 (aV (pv 7) rfl)) (aD (d7 (lI bc bq bp eZ (pv 5) (ag (pv 8) aC)))) (aD (cS (nJ (iJ hu (pv 8) (pv 2))) (aj (qO hu (pv 2) (pv 8) jq rfl) (aD (d7 (lI bc bq bp eZ (pv 3) (ag (pv 8) aC))))) bL))))) (aD (tZ (i:=6) dm.nd rfl (aX rfl) bf ug))))) (aj (bO (i:=3) dm.nd rfl (aX rfl) (eG (Ks T) (hr.mono (by decide)) rfl (ag (pv 5) (ag (pv 2) aC)))) (aD (tZ (i:=4) dm.nd rfl (aX rfl) bf ug))))))) (aD (bj (pv 1))))))))),?_⟩;obtain⟨hW,nf,hA,q⟩:=h;have no:=nf.toNOk;push_cast;intro u RB;generalize e1:upd H u _=H1;obtain⟨g1,k1⟩:=al e1 RB;have Xz:=hW.up k1;obtain⟨Zo,tdw,w1,_⟩:=Xz.ex;push_cast[cG.up w1];refine⟨wd,ks,N,rfl,Xz,nf,λH2 k2=>?_⟩;push_cast;by_cases hr:nq N 1 (dH N)=true
 ·rw[if_neg (by rw[hr];decide)];obtain⟨A,c⟩:=hA hr;push_cast[OO];intro ds hds;generalize e3:upd H2 ds _=H3;obtain⟨g3,k3⟩:=al e3 hds;refine⟨by decide,λlf0 YW=>?_⟩;generalize e4:upd H3 lf0 _=H4;obtain⟨g4,k4⟩:=al e4 YW;have nud:u≠ds:=a6 (k2.up g1) hds;have fds:H ds=none:=k1.gr _ (k2.gr _ hds);have aaX:H lf0=none:=k1.gr _ (k2.gr _ (k3.gr _ YW));have vd:Keeps [] H H4:=((k1.trans k2).trans k3).trans k4;obtain⟨Wo,hWo⟩:∃Wo:Nat->L2.St->Hp->Prop,Wo=λm σ H'=>∃(lf:Addr) (found seen:List State) (lZ:List (List Nat×Nat)) (eR:Nat),(∃x5 x6 x7 x8,σ=[some (.ref wd),some (.ref u),some (.ref ds),some (.ref lf),some (.int (eR:Nat)),x5,x6,x7,x8])/\OI N A seen found lZ eR/\H' u=some (.dK (du (sL lZ)))/\H' ds=some (.dK (me seen))/\H' lf=some (.lst (mr found))/\fT t K (wo H' [u,ds,lf]) wd ks N/\Keeps [ks] H H'/\H lf=none/\(∀x∈lZ,vp N x.1)/\2 * (50001-seen.length)+(if found=[] then 0 else 1)=m:=⟨_,rfl⟩
  refine⟨Wo,⟨_,by
   rw[hWo];refine⟨lf0,[dH N],[dH N],[],0,⟨_,_,_,_,rfl⟩,OI.begin_ c hr,k4.up (k3.up (k2.up g1)),?_,?_,?_,vd.any,aaX,by simp,rfl⟩
   ·rw[k4.up g3];unfold me;rw[aP,cn,t6];rfl
   ·rw[g4];unfold mr;rw[aP,cn,t6];rfl
   ·refine hW.up (wc vd λx hx=>?_);simp only[ah,aF,or_false]at hx;rcases hx with h|h|h<;>rw[h]<;>assumption⟩,?_⟩
  intro m σ H5 hw;rw[hWo]at hw;obtain⟨lf,found,seen,lZ,eR,⟨x5,x6,x7,x8,rfl⟩,hOI,h5u,h5d,h5f,h5w,J5,flf,hho,rfl⟩:=hw;push_cast[h5f];intro p0 hp0;generalize e6:upd H5 p0 _=H6;obtain⟨g6,k6⟩:=al e6 hp0;push_cast[k6.up h5f,g6,if_true];have esf:(mr found).isEmpty=found.isEmpty:=by simp[mr]
  rw[esf];by_cases hfe:found=[]
  ·subst hfe;push_cast[jZ,bR,aE,if_false];exact q u (sL lZ) H6 (k6.up h5u) (λask=>hOI.least no c ask) (Jw hho) (yK lZ) ((h5w.up cG).up k6) RB (J5.trans k6.any)
  ·rw[if_pos (by simpa using hfe)];refine⟨λfK C4=>∃m',m'<_/\Wo m' fK C4,λ_ _ h=>h,?_⟩;rw[if_neg hfe];obtain⟨S,Wp,f,k,work,mom,li,hq⟩:=id hOI;intro ll Ng;generalize e7:upd H6 ll _=H7;obtain⟨g7,k7⟩:=al e7 Ng;have YD:=k6.trans k7;have fll:H ll=none:=J5.gr _ (k6.gr _ Ng);have kH7:Keeps [ks] H H7:=J5.trans YD.any;obtain⟨W2,UK⟩:∃W2:Nat->L2.St->Hp->Prop,W2=λm σ H'=>∃(i:Nat) (p:L3),(∃x7 x8,σ=[some (.ref wd),some (.ref u),some (.ref ds),some (.ref lf),some (.int (eR:Nat)),some (.ref ll),some (.int (i:Nat)),x7,x8])/\LI N A S Wp p.1 p.2.1 p.2.2 i/\LU t K H' wd ks u ds lf ll N (sL (lZ++(p.2.1.take i).map λs=>(s.at_,eR))) p/\Keeps [ks] H H'/\i<=p.2.1.length/\p.2.1≠[]/\seen.length<=p.1.length/\50001-i=m:=⟨_,rfl⟩
   refine⟨W2,⟨50001,by
    rw[UK];refine⟨0,(seen,found,[]),⟨_,_,rfl⟩,li,⟨by simpa using YD.up h5u,YD.up h5d,YD.up h5f,g7,?_,nud,a6 (k6.up h5f) Ng⟩,kH7,ck _,hfe,aQ _,rfl⟩;refine h5w.up (KW YD (by simp) λx hx=>?_);simp only[M4,ah,aF,or_false]at hx⊢;rcases hx with h|h|h|h
    ·exact .inl (.inl h)
    ·exact .inl (.inr (.inl h))
    ·exact .inl (.inr (.inr h))
    ·exact .inr (by rw[h];exact k6.gr _ Ng)⟩,?_⟩
   intro m2 oj H8 Xo;rw[UK]at Xo;obtain⟨i,p,⟨y7,y8,rfl⟩,r6,hL,hkL,RF,Wf,hsl,rfl⟩:=Xo;have lsf:(mr p.2.1).length=p.2.1.length:=by simp[mr]
   push_cast[hL.hf,lsf];have Wj:∀j,∀x∈lZ++(p.2.1.take j).map (λs=>(s.at_,eR)),vp N x.1:=λj x hx=>by
    rcases aN.mp hx with z|z
    ·exact hho x z
    ·obtain⟨s1,Qu,rfl⟩:=aH.mp z;exact(c.ok s1 (r6.sA s1 ((r6.iff s1).mpr (.inr (jR Qu))))).a
   by_cases hX:i<p.2.1.length
   ·rw[if_pos (decide_eq_true (by omega))];refine⟨λfK C4=>∃m',m'<50001-i/\W2 m' fK C4,λ_ _ h=>h,?_⟩;obtain⟨s0,Ir⟩:∃s0,p.2.1[i]?=some s0:=⟨_,ae hX⟩;have so:mH N s0:=c.ok s0 (r6.sA s0 ((r6.iff s0).mpr (.inr (aI Ir))));have UJ:nB (mr p.2.1) (i:Int)=some (V.int (dM s0:Nat)):=de (by unfold mr;rw[aR,Ir];rfl);have es:sL (lZ++(p.2.1.take (i+1)).map λs=>(s.at_,eR))=tu (sL (lZ++(p.2.1.take i).map λs=>(s.at_,eR))) (s0.at_,eR):=by
     rw[bX Ir,bo,<-cE,aP,cn,GU]
    push_cast[hL.hu,hL.hf,UJ];refine⟨dM s0,rfl,?_⟩;rw[qQ no so];have Tt:=wJ no (Jw (Wj i)) so.a;have sp1:(du (sL (lZ++(p.2.1.take i).map λs=>(s.at_,eR)))).length<sizeLine:=by
     have:=Kk no (Jw (Wj i)) (yK _);simp only[sizeLine];omega
    push_cast[hL.hu,sp1];cases hv:eQ (du (sL (lZ++(p.2.1.take i).map λs=>(s.at_,eR)))) (cy ((enc 8 s0.at_:Nat):Int))with
    | some v' =>
     rw[hv]at Tt;have Kc:s0.at_∈(sL (lZ++(p.2.1.take i).map λs=>(s.at_,eR))).map (·.1):=of_decide_eq_true Tt.symm;obtain⟨H2,rfl⟩:∃H2,H2=H8:=⟨_,rfl⟩;have k2:Keeps [u] H2 H2:=Keeps.refl;have f2:H2 u=some (.dK (du (sL (lZ++(p.2.1.take (i+1)).map λs=>(s.at_,eR))))):=by
      rw[es];unfold tu;rw[if_pos Kc];exact hL.hu
     dsimp only;have Nn:LU t K H2 wd ks u ds lf ll N (sL (lZ++(p.2.1.take (i+1)).map λs=>(s.at_,eR))) p:=hL.unit f2 k2;obtain⟨dxv,tdv,v1,_⟩:=Nn.w.ex;have ku2:Keeps [ks] H H2:=hkL.qY k2 λx hx=>by rw[aL]at hx;exact .inr (by rw[hx];exact RB)
     push_cast[cG.up (cG.up v1),Nn.hf,UJ];refine⟨M4 u ds lf ll,Nn.fr,wd,ks,N,s0,rfl,Nn.w,no,so,λl ts H3' g3' xH hw3 n3 k3' H3 WE em=>?_⟩;subst WE;obtain⟨N7,QU⟩:=bE.mp g3';have hL3:=Nn.call em hw3;have ku3:Keeps [ks] H H3:=ku2.trans (oR Nn.fr k3' em);push_cast;refine⟨⟨_,dO.of QU⟩,PR T no so hL3 xH QU N7 (r6.vE c) (by have:=r6.vE c;have:=r6.wI;omega) (by have:=r6.vE c;have:=r6.wI;have:=(LI.yU r6);omega) (λx hx=>c.ok x (r6.sA x hx)) λy7 y8 H5 Za k5=>?_⟩;push_cast;refine⟨50001-(i+1),by have:=r6.vE c;have:=r6.wI;omega,?_⟩;rw[UK];obtain⟨d,ed,_,_,_⟩:=DF N (eU N s0) p.1 p.2.1 p.2.2 r6.nd;have ep:((p.1,p.2.1,p.2.2):L3)=p:=rfl;rw[ep]at ed;have QA:=r6.step c Ir;rw[ep]at QA;refine⟨i+1,_,⟨y7,y8,by simp⟩,QA,?_,ku3.qY k5 λx hx=>?_,?_,?_,?_,rfl⟩
     ·rw[ed]at Za⊢;rw[show((p.2.1++d).take (i+1))=p.2.1.take (i+1) from iO hX];exact Za
     ·simp only[M4,ah,aF,or_false]at hx;rcases hx with h|h|h|h
      ·exact .inr (by rw[h];exact RB)
      ·exact .inr (by rw[h];exact fds)
      ·exact .inr (by rw[h];exact flf)
      ·exact .inr (by rw[h];exact fll)
     ·rw[ed];simp;omega
     ·rw[ed];simp[Wf]
     ·rw[ed];simp;omega
    | none =>
     rw[hv]at Tt;have Kc:¬s0.at_∈(sL (lZ++(p.2.1.take i).map λs=>(s.at_,eR))).map (·.1):=of_decide_eq_false Tt.symm;dsimp only;generalize e9:upd H8 u _=H2;obtain⟨g9,k2⟩:=wr e9;have f2:H2 u=some (.dK (du (sL (lZ++(p.2.1.take (i+1)).map λs=>(s.at_,eR))))):=by
      rw[es];unfold tu;rw[if_neg Kc,g9];simp[du]
     have Nn:LU t K H2 wd ks u ds lf ll N (sL (lZ++(p.2.1.take (i+1)).map λs=>(s.at_,eR))) p:=hL.unit f2 k2;obtain⟨dxv,tdv,v1,_⟩:=Nn.w.ex;have ku2:Keeps [ks] H H2:=hkL.qY k2 λx hx=>by rw[aL]at hx;exact .inr (by rw[hx];exact RB)
     push_cast[cG.up (cG.up v1),Nn.hf,UJ];refine⟨M4 u ds lf ll,Nn.fr,wd,ks,N,s0,rfl,Nn.w,no,so,λl ts H3' g3' xH hw3 n3 k3' H3 WE em=>?_⟩;subst WE;obtain⟨N7,QU⟩:=bE.mp g3';have hL3:=Nn.call em hw3;have ku3:Keeps [ks] H H3:=ku2.trans (oR Nn.fr k3' em);push_cast;refine⟨⟨_,dO.of QU⟩,PR T no so hL3 xH QU N7 (r6.vE c) (by have:=r6.vE c;have:=r6.wI;omega) (by have:=r6.vE c;have:=r6.wI;have:=(LI.yU r6);omega) (λx hx=>c.ok x (r6.sA x hx)) λy7 y8 H5 Za k5=>?_⟩;push_cast;refine⟨50001-(i+1),by have:=r6.vE c;have:=r6.wI;omega,?_⟩;rw[UK];obtain⟨d,ed,_,_,_⟩:=DF N (eU N s0) p.1 p.2.1 p.2.2 r6.nd;have ep:((p.1,p.2.1,p.2.2):L3)=p:=rfl;rw[ep]at ed;have QA:=r6.step c Ir;rw[ep]at QA;refine⟨i+1,_,⟨y7,y8,by simp⟩,QA,?_,ku3.qY k5 λx hx=>?_,?_,?_,?_,rfl⟩
     ·rw[ed]at Za⊢;rw[show((p.2.1++d).take (i+1))=p.2.1.take (i+1) from iO hX];exact Za
     ·simp only[M4,ah,aF,or_false]at hx;rcases hx with h|h|h|h
      ·exact .inr (by rw[h];exact RB)
      ·exact .inr (by rw[h];exact fds)
      ·exact .inr (by rw[h];exact flf)
      ·exact .inr (by rw[h];exact fll)
     ·rw[ed];simp;omega
     ·rw[ed];simp[Wf]
     ·rw[ed];simp;omega
   ·rw[if_neg (by simp;omega)];have s5:=r6.vE c;have f5:=r6.wI;have l5:=(LI.yU r6);refine⟨ll,ds,N,p.2.2,p.1,rfl,hL.hl,hL.hd,no,λs1 Qu=>?_,λs1 Qu=>c.ok s1 (r6.sA s1 Qu),by simp only[sizeLine];omega,λr H9 g9 d9 nr k9=>?_⟩
    ·rw[r6.lt]at Qu;obtain⟨s2,Hl,hz⟩:=fI.mp Qu;exact c.ok s1 (c.tick (r6.sA s2 ((r6.iff s2).mpr (.inr (jR Hl)))) hz)
    ·push_cast;have hi5:p.2.1.length<=i:=by omega
     have oi:=OI.VN no c mom r6 hi5 Wf hq;obtain⟨d,ed,_,_⟩:=Lm p.2.2 p.1 [] r6.nd;have s9:(p.2.2.foldl jd (p.1,[])).1.length<=50000:=by
      obtain⟨_,_,_,_,_,_,li9,_⟩:=id oi;exact li9.vE c
     refine⟨2 * (50001-(p.2.2.foldl jd (p.1,[])).1.length)+(if (p.2.2.foldl jd (p.1,[])).2=[] then 0 else 1),?_,?_⟩
     ·rw[ed]at s9⊢;simp only[aJ,dP]at s9⊢;cases d with
      | nil=>simp only[bI,if_true];omega
      | cons x d=>simp only[ay]at s9⊢;rw[if_neg nofun];omega
     ·rw[hWo];refine⟨r,_,_,lZ++p.2.1.map λs=>(s.at_,eR),eR+1,⟨some (.ref ll),some (.int (i:Nat)),y7,y8,by simp⟩,oi,?_,d9,g9,?_,hkL.qY k9 (λx hx=>by rw[aL]at hx;exact .inr (by rw[hx];exact fds)),hkL.gr _ nr,?_,rfl⟩
      ·have:=k9.bM hL.hu nud;rw[bU hi5]at this;exact this
      ·refine hL.w.up (KW k9 (by simp[M4]) λx hx=>?_);simp only[M4,ah,aF,or_false]at hx⊢;rcases hx with h|h|h
       ·exact .inl (.inl h)
       ·exact .inl (.inr (.inl h))
       ·exact .inr (by rw[h];exact nr)
      ·have:=Wj i;rw[bU hi5]at this;exact this
 ·rw[if_pos (by rw[bz.mpr hr];rfl)];have Qe:=k1.trans k2;exact q u [] H2 (k2.up g1) (λask=>by rw[J3 hr];rfl) (by simp) (by simp) (hW.up Qe) RB Qe.any
end
structure wZ (H:Hp) (la:Addr) (ask:nU):Prop where
 ex:∃ts:List Addr,H la=some (.lst (ts.map V.ref))/\ts.length=ask.length/\∀(i:Nat) (T:Addr) (x:Nat×Nat),ts[i]?=some T->ask[i]?=some x->H T=some (.tup [.int (x.1:Nat),.int (x.2:Nat)])
theorem QY {d:Addr}{o:Obj}{bD:List (Key×V)}{g:TG}{tb:TS}{D:Ends}{σ:L2.St}{H:Hp}(Pv:Nat->L2.St->Hp->Prop) (h0:Pv 0 σ H) (hl:∀i σ H,Pv i σ H->H d=some (.oJ o (.dK bD)))
  (hs:∀i k v σ H,bD[i]?=some (k,v)->Pv i σ H->g (kV k) σ H λoj H2=>tb { D with nx:=Pv (i+1),ct:=Pv (i+1),bk:=D.nx } oj H2) (hd:∀σ H,Pv bD.length σ H->D.nx σ H):C5 (Itk d o bD) g tb D σ H:=by
 refine⟨λi m σ H=>m=bD.length-i/\i<=bD.length/\Pv i σ H,⟨bD.length,by simp,ck _,h0⟩,?_⟩;rintro i m σ H ⟨rfl,hi,p⟩;by_cases hX:i<bD.length
 ·refine .inr ⟨⟨hl i σ H p,hX⟩,Pv (i+1),λfK H' p'=>⟨bD.length-(i+1),by omega,rfl,hX,p'⟩,λx H' y=>?_⟩;obtain⟨rfl,k,v,hk,rfl⟩:=y;exact hs i k v σ _ hk p
 ·have e:i=bD.length:=by omega
  subst e;exact .inl ⟨⟨hl _ σ H p,aQ _⟩,hd σ H p⟩
theorem unlock {H H':Hp}{d:Addr}{u:HO}(k:Keeps [d] H H') (h:H d=some u):Keeps [] H (upd H' d u):=⟨λb o hb _=>by
 by_cases e:b=d
 ·(rw[e]at hb⊢;rw[c0,<-h];exact hb)
 ·(rw[cv e];exact k.bM hb e),λb hb=>k.gr b (A0 hb).2⟩
theorem II {us:List (List Nat×Nat)}{N:Net}(no:NOk N) (ok:∀x∈us,vp N x.1) (nd:(us.map (·.1)).Nodup){x:List Nat×Nat}(hx:x∈us):eQ (du us) (cy ((enc 8 x.1:Nat):Int))=some (V.int (x.2:Nat)):=by
 have hs:(eQ (du us) (cy ((enc 8 x.1:Nat):Int))).isSome=true:=by
  rw[wJ no ok (ok x hx)];exact decide_eq_true (aH.mpr ⟨x,hx,rfl⟩)
 obtain⟨v,hv⟩:=fG.mp hs;have:=AZ hv;unfold du at this;obtain⟨y,hy,e⟩:=aH.mp this;have e1:=congrArg KL e;have e2:=congrArg Ud e;have hk:y.1=x.1:=Fn no (ok y hy) (ok x hx) e1;have N4:y=x:=by
  have aux:∀m:List (List Nat×Nat),(m.map (·.1)).Nodup->y∈m->x∈m->y=x:=by
   intro m
   induction m with
   | nil=>intro _ h;cases h
   | cons z m ih =>
    intro hn h1 h2;rw[aP,gX]at hn;rcases ah.mp h1 with a1|a1
    ·rcases ah.mp h2 with a2|a2
     ·rw[a1,a2]
     ·exact absurd (show z.1∈m.map (·.1) from aH.mpr ⟨x,a2,by rw[<-a1];exact hk.symm⟩) hn.1
    ·rcases ah.mp h2 with a2|a2
     ·exact absurd (show z.1∈m.map (·.1) from aH.mpr ⟨y,a1,by rw[<-a2];exact hk⟩) hn.1
     ·exact ih hn.2 a1 a2
  exact aux us nd hy hx
 rw[hv,<-N4];exact congrArg some e2.symm
section
variable {P:Program}{w:World}{K:aa}{mg:Str->Option Value}{base:Heap}{t:cT}
def xo:Sp:=λvs H Q _=>∃(d la:Addr) (N:Net) (us:List (List Nat×Nat)) (ask:nU),vs=[.ref d,.ref la]/\H d=some (.dK (du us))/\wZ H la ask/\ask.length<=300/\NOk N/\(∀x∈us,vp N x.1)/\(us.map (·.1)).Nodup /\
 ∀H':Hp,Keeps [] H H'->Q (.int (match us.find? λx=>gn x.1 ask with|some x=>(x.2:Int)|none=>-1)) H'
theorem vZ (T:Txt K mg t):vm P w K mg base 2 "first_asked" ["by_spot", "asked"] (xo):=by
 obtain⟨f,fd,F,M⟩:=T.vQ;refine⟨f,fd,F.ok jm (λvs H Q E h=>?_) (λgw A outer s H vs Q E hr h=>?_),M,F.kp,F.binds (λ_ _ _ _ _ _ us hl=>match us,hl with|[_,_],_=>rfl)⟩
 ·obtain⟨d,la,N,us,ask,rfl,_⟩:=h;rfl
 obtain⟨d,la,N,us,ask,rfl,h⟩:=h;have hu:=cF hr;refine' ⟨?t,?p,?r⟩
 case p =>
  refine' (aj (SE (fU PassesOwn.never rfl (SM (pv 0)) (cB (i:=2) jm.nd rfl (KN rfl)) (aD (cS (i7 (bT (WK rfl) rfl T.D5 WR (ag (Bp (own:=[("machine",3),("place",4)]) rfl jm.nd (fE (pv 1)) (by exact pN rfl) ?NF ?ND ?NG) aC))) (aD (bj (Li hu (pv 0) (pv 2) (λ_ _=>rfl)))) bL)))) (aD (bj (sM pb bf))))
  case NF=>intro _ _ _ _ _;exact(Lh K (yL (n:=2) rfl (iP (cB (i:=3) jm.nd rfl (aX rfl)) (iP (cB (i:=4) jm.nd rfl (aX rfl)) uY))))
  case ND=>intro _ _ _ _ _;exact xx
  case NG=>intro _ _ _ _ _;exact(rO j3 (eG (Cb T) (hr.mono (by decide)) rfl (ag (pv 2) (ag (pv 3) aC))) (pv 4) (bN _))
 case r =>
 obtain⟨hd,hA,al',no,RB,nd,q⟩:=h;push_cast[Uo];refine⟨d,_,hd,jP,λod=>⟨od,.inl ⟨du us,c0,?_⟩⟩⟩;generalize e1:upd H d _=H1;obtain⟨g1,k1⟩:=wr e1;obtain⟨ts,a1,a2,a3⟩:=hA.ex;have a1':=k1.bM a1 (aK a1 hd nofun);obtain⟨Pv,tw⟩:∃Pv:Nat->L2.St->Hp->Prop,Pv=λi σ H'=>(∃x,σ=[some (.ref d),some (.ref la),x,none,none])/\Keeps [] H1 H'/\∀x∈us.take i,¬gn x.1 ask=true:=⟨_,rfl⟩
 refine QY Pv (by rw[tw];exact⟨⟨_,rfl⟩,Keeps.refl,by simp⟩) (λi σ H' p=>by rw[tw]at p;exact p.2.1.up g1) ?_ ?_
 ·intro i k v σ H' hk p;rw[tw]at p;obtain⟨⟨x0,rfl⟩,kk,Qy⟩:=p;unfold du at hk;obtain⟨x,hx,ekv⟩:=eI hk;have ek:=congrArg KL ekv;have ev:=congrArg Ud ekv;dsimp only at ek ev;subst ek ev;have UC:=aI hx;have ao:=RB x UC;push_cast[kV];refine⟨⟨_,dO.of (kk.up a1')⟩,λD hD=>P0 (xs:=ts.map V.ref) (ask.map λy=>V.bl (decide (x.1.getD y.1 0=y.2))) (dO.of (kk.up a1')) (by simp[a2]) hD (by simp[sizeLine];omega) (λH2 k2=>dO.of ((kk.trans k2).up a1')) ?_ ?_⟩
  ·intro j y z H2 C hy hz k2 hC;obtain⟨Ta,hT,rfl⟩:=eI hy;obtain⟨ak,hak,rfl⟩:=eI hz;have t0:=a3 j Ta ak hT hak;have t1:=(kk.trans k2).up (k1.bM t0 (aK t0 hd nofun));push_cast;refine⟨_,lR.of t1,rfl,_,_,rfl,_,_,rfl,rfl,enc 8 x.1,ak.1,rfl,rfl,?_⟩;rw[LK ak.1 (ao.p8 no)];have:decide (V.int ((x.1.getD ak.1 0:Nat):Int)=V.int ((ak.2:Nat):Int))=decide (x.1.getD ak.1 0=ak.2):=by
    rw[decide_eq_decide,V.int.injEq];omega
   rw[this];exact hC H2 Keeps.refl
  ·intro H2 k2 g2;push_cast[Yi];refine⟨ask.map λy=>decide (x.1.getD y.1 0=y.2),?_,?_⟩
   ·rw[da];exact dO.of g2
   have em:(ask.map λy=>decide (x.1.getD y.1 0=y.2)).all id=gn x.1 ask:=by
    unfold gn;rw[zA];rfl
   rw[em];by_cases hm:gn x.1 ask=true
   ·rw[if_pos hm];have g12:=(kk.trans k2).up g1;refine⟨_,.inl ⟨_,cy ((enc 8 x.1:Nat):Int),.inr ⟨od,g12⟩,rfl,(II no RB nd UC).symm⟩,g12,?_⟩;have ef:us.find? (λx=>gn x.1 ask)=some x:=by
     obtain⟨hi,ei⟩:=aw.mp hx;rw[<-fB i us,ji,kW.mpr Qy,dY hi,ei,fo,hm];rfl
    rw[ef]at q;exact q _ (unlock (k1.trans (kk.trans k2).any) hd)
   ·rw[if_neg hm];rw[tw];refine⟨⟨_,rfl⟩,kk.trans k2,λy hy=>?_⟩;rw[bX hx]at hy;rcases aN.mp hy with z|z
    ·exact Qy y z
    ·rw[aL]at z;rw[z];exact hm
 ·intro σ H' p;rw[tw]at p;obtain⟨⟨x0,rfl⟩,kk,Qy⟩:=p;rw[show(du us).length=us.length by simp[du],bP]at Qy;refine⟨kk.up g1,?_⟩;have:us.find? (λx=>gn x.1 ask)=none:=kW.mpr Qy;rw[this]at q;exact q _ (unlock (k1.trans kk.any) hd)
end
def cW (l:List Bytes):List V:=l.map λw=>V.str (stx w)
theorem Hw {α:Type}(f:α->V) (p:α->Bool):∀l:List α,y4 (l.map f) (l.map p)=(l.filter p).map f
 | []=>rfl
 | a::l=>by
  have ih:=Hw f p l;unfold y4 at ih⊢;rw[aP,aP,List.zip_cons_cons,cR,cR];by_cases h:p a=true
  ·rw[if_pos h,if_pos h,aP,aP,ih]
  ·rw[if_neg h,if_neg h,ih]
def tR:List Nat:=bA "\n .<=>0123456789ABCDEFGHIJKLMNOPQRSTUVWXYZabcdefghijklmnopqrstuvwxyz"
def yI (l:List Nat):List (Key×V):=l.map λc=>(cy ((c:Nat):Int),V.str (stx [c]))
theorem O2:tR.Nodup:=by decide +kernel
theorem ME:∀c,c<256->sg c=tR.contains c:=by decide +kernel
theorem Bc (l:List Nat) (c:Nat):eQ (yI l) (cy ((c:Nat):Int))=if l.contains c=true then some (V.str (stx [c])) else none:=by
 induction l with
 | nil=>rfl
 | cons a l ih =>
  unfold yI at ih⊢;rw[aP,pW];have hv:∀(kv:Key×V) (r:List (Key×V)) (k:Key),eQ (kv::r) k=if kv.1=k then some kv.2 else eQ r k:=by
   intro kv r k;unfold eQ;rw[fo];by_cases h:kv.1=k
   ·rw[if_pos h,decide_eq_true h];rfl
   ·rw[if_neg h,decide_eq_false h]
  rw[hv];by_cases h:a=c
  ·subst h;rw[if_pos rfl];simp
  ·have h2:¬(cy ((a:Nat):Int):Key)=cy ((c:Nat):Int):=λz=>h (by injection z with z;omega)
   have h3:(c==a)=false:=beq_eq_false_iff_ne.mpr λz=>h z.symm
   rw[if_neg h2,ih,h3,jh]
theorem TJ {x:Str}{g:TG}{tb:TS}{D:Ends}{σ:L2.St}{H:Hp}(Pv:Nat->L2.St->Hp->Prop) (h0:Pv 0 σ H)
  (hs:∀i c σ H,(TL.tl x)[i]?=some c->Pv i σ H->g (.str (stx [c])) σ H λoj H2=>tb { D with nx:=Pv (i+1),ct:=Pv (i+1),bk:=D.nx } oj H2) (hd:∀σ H,Pv (TL.tl x).length σ H->D.nx σ H):C5 (Its x) g tb D σ H:=by
 refine⟨λi m σ H=>m=(TL.tl x).length-i/\i<=(TL.tl x).length/\Pv i σ H,⟨(TL.tl x).length,by simp,ck _,h0⟩,?_⟩;have el:x.cps.size=(TL.tl x).length:=by simp[TL.tl]
 rintro i m σ H ⟨rfl,hi,p⟩;by_cases hX:i<(TL.tl x).length
 ·refine .inr ⟨by show i<x.cps.size;omega,Pv (i+1),λfK H' p'=>⟨(TL.tl x).length-(i+1),by omega,rfl,hX,p'⟩,λy H' hy=>?_⟩;obtain⟨rfl,c,hc,rfl⟩:=hy;exact hs i c σ _ (by simpa[TL.tl]using hc) p
 ·have e:i=(TL.tl x).length:=by omega
  subst e;exact .inl ⟨by show x.cps.size<=_;omega,hd σ H p⟩
theorem Tc (b:Bytes):Xn (V.str (stx b)) [.str "clock",.str "signal",.str "machine",.str "place",.str "edge",.str "when",.str "set",.str "give",.str "take"]=Ax.contains b:=by
 have e:∀s:String,TV (V.str (Str.ofString s)) (V.str (stx b))=(b==bA s):=λs=>by
  rw[lg];show(stx (bA s)==stx b)=_;rw[bQ,beq_iff_eq,beq_iff_eq];exact⟨λh=>(Er h).symm,λh=>by rw[h]⟩
 unfold Xn Ax;simp only[jg,List.any_nil,e,aP,cn,pW,List.contains_nil]
section
variable {P:Program}{w:World}{K:aa}{mg:Str->Option Value}{base:Heap}{t:cT}
def Mw:Sp:=λvs H Q _=>∃b:Bytes,vs=[.str (stx b)]/\b.length<=5000/\∀(l:Addr) (H':Hp),H' l=some (.lst (cW (bG b)))->H l=none->Keeps [] H H'->Q (.ref l) H'
theorem B8 (T:Txt K mg t):vm P w K mg base 1 "words_of" ["line"] (Mw):=by
 obtain⟨f,fd,F,M⟩:=T.BU;refine⟨f,fd,F.ok tT (λvs H Q E h=>?_) (λgw A outer s H vs Q E hr h=>?_),M,F.kp,F.binds (λ_ _ _ _ _ _ us hl=>match us,hl with|[_],_=>rfl)⟩
 ·obtain⟨b,rfl,_⟩:=h;rfl
 obtain⟨b,rfl,h⟩:=h;have hu:=cF hr;refine' ⟨?t,?p,?r⟩
 case p =>
  refine' (aD (bj (Bp (own:=[("word",1)]) rfl tT.nd (fE (G4 (pv 0) i8)) (by exact pN rfl) ?NF ?ND ?NG)))
  case NF=>intro _ _ _ _ _;exact(cB (i:=1) tT.nd rfl (aX rfl))
  case ND=>intro _ _ _ _ _;exact(Lb (br Pw (pv 1) i8 (bN _)))
  case NG=>intro _ _ _ _ _;exact(pv 1)
 case r =>
 obtain⟨hb,q⟩:=h;push_cast[OL,tY];have esp:Str.ofString " " = stx [32]:=lg " ";have eem:Str.ofString "" = stx []:=lg "";rw[esp,eem,Dn 32 (by decide),da];obtain⟨ss,sv⟩:=kL 32 b;refine⟨rfl,by rw[gK];simp only[sizeLine];omega,λp hp=>?_⟩;generalize e1:upd H p _=H1;obtain⟨g1,k1⟩:=al e1 hp;have g1:H1 p=some (.lst (cW (bK 32 b))):=g1;refine⟨⟨_,dO.of g1⟩,λD hD=>P1 (xs:=cW (bK 32 b)) ((bK 32 b).map λv=>!v.isEmpty) (by simp[cW]) (by simp) hD (by simp only[cW,ax,sizeLine];omega) (λH2 k2=>dO.of (k2.up g1)) ?_ ?_⟩
 ·intro i x bl H2 C hx Nk k2 hC;obtain⟨v,hv,rfl⟩:=eI hx;obtain⟨v',Wb,rfl⟩:=eI Nk;rw[hv]at Wb;cases Wb;push_cast;rw[IY];have:(!decide (v=[]))=!v.isEmpty:=by cases v<;>rfl
  rw[this];exact hC H2 Keeps.refl
 ·intro H2 k2 g2;unfold cW at g2;rw[Hw]at g2;exact q D H2 g2 (k1.gr _ hD) (k1.trans k2)
def O1:Sp:=λvs H Q _=>∃b:Bytes,vs=[.str (stx b)]/\b≠[]/\b.length<=5000/\(∀c∈b,IG c=true)/\Q (.bl (sI b)) H
theorem NB (T:Txt K mg t):vm P w K mg base 1 "is_name" ["word"] (O1):=by
 obtain⟨f,fd,F,M⟩:=T.DR;refine⟨f,fd,F.ok Jy (λvs H Q E h=>?_) (λgw A outer s H vs Q E hr h=>?_),M,F.kp,F.binds (λ_ _ _ _ _ _ us hl=>match us,hl with|[_],_=>rfl)⟩
 ·obtain⟨b,rfl,_⟩:=h;rfl
 obtain⟨b,rfl,h⟩:=h;have hu:=cF hr;refine⟨_,(aj (cS (PW.pt (qN (br vM (bT yb rfl T.eY dR (ag (pv 0) aC)) (b9 T.iq rfl) (bN _)) (rM (br uZ (pv 0) (b9 T.jL rfl) (by with_unfolding_all rfl))))) (aD (bj jq)) bL) (aD (bj (JE (Po PySem.F.slot_str_isalpha PySem.F.type_str_isalpha JP (dw V3 (pv 0) bf (λ_ _=>rfl))) (Pj (Po PySem.F.slot_str_isalnum PySem.F.type_str_isalnum JQ (pv 0))))))),?_⟩;obtain⟨rm,hb,hw,q⟩:=h;push_cast[tM0];rw[S0 rm hw]at q;refine⟨by rw[gK];simp only[sizeLine];omega,?_⟩;have hlen:(15:Int)<((stx b).length:Nat)↔15<b.length:=by rw[gK];omega
 by_cases Oa:15<b.length
 ·rw[if_pos (decide_eq_true (hlen.mpr Oa)),if_pos trivial];rw[decide_eq_true Oa]at q;exact q
 ·rw[if_neg (by rw[decide_eq_true_eq,hlen];exact Oa)];rw[decide_eq_false Oa,jh]at q;refine⟨t.WW,_,rfl,.inr (T.jG H),rfl,rfl,?_⟩;rw[if_neg nofun];rw[Tc];push_cast;cases hk:Ax.contains b with
  | true =>
   rw[hk]at q;rw[if_pos rfl];exact q
  | false =>
   rw[hk]at q;rw[if_neg nofun];cases b with
   | nil=>exact absurd rfl rm
   | cons c r =>
    refine⟨by rw[gK];simp only[sizeLine];omega,c,show nB (c::r) ((0:Nat):Int)=some c from de rfl,?_⟩;have ea:Txt.isalpha (⟨#[c]⟩:Str)=XX c:=Qi (hw c (au ..));rw[ea,J6 hw];simp only[RU,bH,fP]at q;cases hc:XX c with
    | true=>rw[if_pos rfl];rw[hc,fP]at q;exact q
    | false=>rw[if_neg nofun];rw[hc,vy]at q;exact q
def OX:Sp:=λvs H Q _=>∃(ln:Addr) (b:List Nat),vs=[.ref ln]/\H ln=some (.lst (b.map λ(c:Nat)=>V.int c))/\b.length<=5000/\(∀c∈b,c<256)/\∀H':Hp,Keeps [] H H'->Q (.str (stx (b.map cl))) H'
theorem DW (T:Txt K mg t):vm P w K mg base 1 "text_of" ["numbers"] (OX):=by
 obtain⟨f,fd,F,M⟩:=T.DP;refine⟨f,fd,F.ok pf (λvs H Q E h=>?_) (λgw A outer s H vs Q E hr h=>?_),M,F.kp,F.binds (λ_ _ _ _ _ _ us hl=>match us,hl with|[_],_=>rfl)⟩
 ·obtain⟨ln,b,rfl,_⟩:=h;rfl
 obtain⟨ln,b,rfl,h⟩:=h;have hu:=cF hr;refine' ⟨?t,?p,?r⟩
 case p =>
  refine' (aj (bO (i:=1) pf.nd rfl (KN rfl) jo) (aj (fU PassesOwn.never rfl (VA (b9 T.vc rfl)) (cB (i:=2) pf.nd rfl (aX rfl)) (aD (qO hu (pv 1) (bT Ra rfl T.D2 WN (ag (pv 2) aC)) (pv 2) rfl))) (aD (bj (SQ i8 (Bp (own:=[("number",3)]) rfl pf.nd (fE (pv 0)) (by exact pN rfl) ?NF ?ND ?NG))))))
  case NF=>intro _ _ _ _ _;exact(cB (i:=3) pf.nd rfl (aX rfl))
  case ND=>intro _ _ _ _ _;exact xx
  case NG=>intro _ _ _ _ _;exact(Pr hu (pv 1) (pv 3) (b9 T.oS rfl) ⟨rfl,rfl,rfl,rfl⟩)
 case r =>
 obtain⟨hl,hb,yY,q⟩:=h;push_cast[OL];intro p hp;have eS:Str.ofString "\n .<=>0123456789ABCDEFGHIJKLMNOPQRSTUVWXYZabcdefghijklmnopqrstuvwxyz" = stx tR:=lg _
 have eem:Str.ofString "" = stx []:=lg "";have eq1:Str.ofString "?" = stx [63]:=lg "?";rw[eS,eem,eq1];generalize e1:upd H p _=H1;obtain⟨g1,k1⟩:=al e1 hp;have nlp:ln≠p:=a6 hl hp;obtain⟨Pv,tw⟩:∃Pv:Nat->L2.St->Hp->Prop,Pv=λi σ H'=>(∃x,σ=[some (.ref ln),some (.ref p),x,none])/\H' p=some (.dK (yI (tR.take i)))/\Keeps [p] H1 H':=⟨_,rfl⟩
 refine TJ Pv (by rw[tw];exact⟨⟨_,rfl⟩,g1,Keeps.refl⟩) ?_ ?_
 ·intro i c σ H' hc Nf;rw[tw]at Nf;obtain⟨⟨x0,rfl⟩,hg,k⟩:=Nf;rw[pd]at hc;push_cast;refine⟨rfl,?_⟩;have ec:((stx [c]).cps.getD 0 0)=c:=rfl;rw[ec];push_cast[hg];have YQ:¬(tR.take i).contains c=true:=λz=>by
   have hm:=aS.mp z;obtain⟨hi,ei⟩:=aw.mp hc;have nd:=O2;rw[<-fB i tR,dY hi,ei,eh]at nd;exact nd.2.2 c hm c (au ..) rfl
  have hv:eQ (yI (tR.take i)) (cy ((c:Nat):Int))=none:=by rw[Bc,if_neg YQ]
  refine⟨?_,?_⟩
  ·simp only[yI,ax,cw,sizeLine];have:tR.length=68:=by decide +kernel
   omega
  ·rw[m7 hv];rw[tw];refine⟨⟨_,rfl⟩,?_,k.put (by simp)⟩;rw[c0,bX hc];simp[yI]
 ·intro σ H' Nf;rw[tw]at Nf;obtain⟨⟨x0,rfl⟩,hg,k⟩:=Nf;rw[pd,bP]at hg;have CT:=k.bM (k1.up hl) nlp;push_cast[OL];refine⟨⟨_,dO.of CT⟩,λD hD=>P0 (xs:=b.map λ(c:Nat)=>V.int c) (cW (b.map λc=>[cl c])) (dO.of CT) (by simp[cW]) hD (by simp only[cW,ax,sizeLine];omega) (λH2 k2=>dO.of (k2.up CT)) ?_ ?_⟩
  ·intro i x y H2 C hx hy k2 hC;obtain⟨c,hc,rfl⟩:=eI hx;have hy2:y=V.str (stx [cl c]):=by
    unfold cW at hy;rw[da,aR,hc]at hy;cases hy;rfl
   subst hy2;push_cast;refine⟨.inl ⟨_,.inl (k2.up hg)⟩,_,.inl ⟨_,cy ((c:Nat):Int),.inl (k2.up hg),rfl,rfl⟩,?_⟩;rw[Bc,<-ME c (yY c (aI hc))];have:(if sg c=true then some (V.str (stx [c])) else none).getD (V.str (stx [63]))=V.str (stx [cl c]):=by
    unfold cl;by_cases hs:sg c=true
    ·rw[if_pos hs,if_pos hs];rfl
    ·rw[if_neg hs,if_neg hs];rfl
   rw[this];exact hC H2 Keeps.refl
  ·intro H2 k2 g2;refine⟨D,rfl,(b.map cl).map λc=>stx [c],.inl (dO.of ?_),?_,?_⟩
   ·rw[g2];simp[cW]
   ·have hs:((b.map cl).map λc=>stx [c]).map (λx=>x.length)=bx b.length 1:=by
     rw[da,da,List.eq_replicate_iff];refine⟨by simp,λx hx=>?_⟩;obtain⟨c,_,rfl⟩:=aH.mp hx;rfl
    rw[hs];simp[gK];omega
   ·rw[YE];exact q H2 ((k1.drop k (by simpa using hp)).trans k2)
end
def C2 (w:Bytes):Prop:=w≠[]/\w.length<=5000/\∀c∈w,IG c=true
def newName (l:List Bytes) (most:Nat) (w:Bytes):Bool:=sI w&&(!l.contains w&&decide (l.length<most))
section
variable {P:Program}{w:World}{K:aa}{mg:Str->Option Value}{base:Heap}{t:cT}
def Jh:Sp:=λvs H Q _=>∃(d:Addr) (l:List Bytes) (most:Nat) (b:Bytes),vs=[.ref d,.int most,.str (stx b)]/\H d=some (.dK (lX l))/\C2 b/\l.length<=20 /\
 (newName l most b=true->∀H',H' d=some (.dK (lX (l++[b])))->Keeps [d] H H'->Q (.bl true) H')/\(newName l most b=false->Q (.bl false) H)
theorem uQ (T:Txt K mg t):vm P w K mg base 2 "take_name" ["numbers", "most", "word"] (Jh):=by
 obtain⟨f,fd,F,M⟩:=T.zO;refine⟨f,fd,F.ok EF (λvs H Q E h=>?_) (λgw A outer s H vs Q E hr h=>?_),M,F.kp,F.binds (λ_ _ _ _ _ _ us hl=>match us,hl with|[_,_,_],_=>rfl)⟩
 ·obtain⟨d,l,most,b,rfl,_⟩:=h;rfl
 obtain⟨d,l,most,b,rfl,h⟩:=h;have hu:=cF hr;refine⟨_,(aj (cS (PW.pt (qN (qu (i7 (eG (NB T) (hr.mono (by decide)) rfl (ag (pv 2) aC)))) (qN (nJ (EU hu (pv 2) (pv 0))) (rM (br Px (bT oT rfl T.eY dR (ag (pv 0) aC)) (pv 1) (bN _)))))) (aD (bj jq)) bL) (aj (qO hu (pv 0) (pv 2) (bT oT rfl T.eY dR (ag (pv 0) aC)) rfl) (aD (bj jq)))),?_⟩;obtain⟨hd,⟨rm,hlen,hw⟩,hl,q1,q2⟩:=h;push_cast[hd];refine⟨b,rfl,rm,hlen,hw,?_⟩;unfold newName at q1 q2;have ell:(lX l).length=l.length:=xE l;push_cast[hd,lK,ell];cases hn:sI b with
 | false =>
  rw[hn]at q2;simp only[bH,if_true];exact q2 rfl
 | true =>
  rw[hn]at q1 q2;simp only[bR,aE,if_false];cases hc:l.contains b with
  | true =>
   rw[hc]at q2;simp only[if_true];exact q2 rfl
  | false =>
   rw[hc]at q1 q2;simp only[aE,if_false];by_cases hm:l.length<most
   ·rw[if_neg (by simp;omega)];rw[decide_eq_true hm]at q1;refine⟨by simp only[sizeLine];omega,?_⟩;have:=PD l b (by rw[hc];exact nofun);rw[this];generalize e1:upd H d _=H1;obtain⟨g1,k1⟩:=wr e1;exact q1 rfl H1 g1 k1
   ·rw[if_pos (by simp;omega)];rw[decide_eq_false hm]at q2;exact q2 rfl
def GJ (t:cT):Sp:=λvs H Q _=>∃(a dx d lM lw:Addr) (v1 v2 v3:V) (ms:List Addr) (l:List Bytes) (most:Nat) (ws:List Bytes),vs=[.ref a,.ref d,.int most,.ref lw]/\H a=some (.ins t.fN dx (fL v1 v2 v3 (.ref lM)))/\H lM=some (.lst (ms.map V.ref))/\H d=some (.dK (lX l))/\H lw=some (.lst (cW ws))/\(∀w∈ws,C2 w)/\l.length<=20 /\
 ((∃x b,ws=[x,b]/\ms=[]/\newName l most b=true)->∀H' b,ws[1]?=some b->H' d=some (.dK (lX (l++[b])))->Keeps [d] H H'->Q (.bl true) H')/\((¬∃x b,ws=[x,b]/\ms=[]/\newName l most b=true)->∀H',Q (.bl false) H')
theorem yd (T:Txt K mg t):vm P w K mg base 3 "take_ahead" ["told", "numbers", "most", "words"] (GJ t):=by
 obtain⟨f,fd,F,M⟩:=T.xR;refine⟨f,fd,F.ok CL (λvs H Q E h=>?_) (λgw A outer s H vs Q E hr h=>?_),M,F.kp,F.binds (λ_ _ _ _ _ _ us hl=>match us,hl with|[_,_,_,_],_=>rfl)⟩
 ·obtain⟨a,dx,d,lM,lw,v1,v2,v3,ms,l,most,ws,rfl,_⟩:=h;rfl
 obtain⟨a,dx,d,lM,lw,v1,v2,v3,ms,l,most,ws,rfl,h⟩:=h;have hu:=cF hr;refine⟨_,(aD (bj (JE (rO j3 (bT cO rfl T.eY dR (ag (pv 3) aC)) bf (bN _)) (JE (rO (t8 hu) (aV (pv 0) rfl) (c9 aC) (bN _)) (Pj (eG (uQ T) (hr.mono (by decide)) rfl (ag (pv 1) (ag (pv 2) (ag (dw dq (pv 3) bf (λ_ _=>rfl)) aC))))))))),?_⟩;obtain⟨ha,hM,hd,hlw,df,hl,q1,q2⟩:=h;have lw2:(cW ws).length=ws.length:=by simp[cW]
 push_cast[ha,hM,hlw,lw2,T.cN];by_cases h2:ws.length=2
 ·rw[if_pos (decide_eq_true (by omega))];obtain⟨x,b,rfl⟩:∃x b,ws=[x,b]:=by
   match ws,h2 with
   | [x,b],_=>exact⟨x,b,rfl⟩
  intro p hp;generalize e1:upd H p _=H1;obtain⟨g1,k1⟩:=al e1 hp;push_cast[k1.up hM,k1.up hlw,aE,if_false,Ay];by_cases hm:ms=[]
  ·rw[if_pos (by rw[hm];rfl)];have e1':nB (cW [x,b]) 1=some (V.str (stx b)):=de (j:=1) rfl;refine⟨_,e1',d,l,most,b,rfl,k1.up hd,df b (by simp),hl,λhn H' Tu k'=>?_,λhn=>?_⟩
   ·exact q1 ⟨x,b,rfl,hm,hn⟩ H' b rfl Tu (k1.any.trans k')
   ·refine q2 ?_ _;rintro⟨x',b',e,_,To⟩;cases e;rw[hn]at To;cases To
  ·rw[if_neg (by rw[gs];exact hm)];refine q2 ?_ _;rintro⟨_,_,_,e,_⟩;exact hm e
 ·rw[if_neg (by simp;omega)];refine q2 ?_ _;rintro⟨x,b,rfl,_⟩;exact h2 rfl
def GI (t:cT):Sp:=λvs H Q _=>∃(a dx dC b:Addr) (v1 v2 v3:V) (cs:List Bytes) (bs:List Bound) (wd:Bytes),vs=[.ref a,.ref b,.str (stx wd)]/\H a=some (.ins t.fN dx (fL (.ref dC) v1 v2 v3))/\H dC=some (.dK (lX cs))/\(∀w∈cs,sI w=true)/\C2 wd /\
 (∃dxb lo hi,H b=some (.ins t.cK dxb (cQ (.ref lo) (.ref hi)))/\H lo=some (.lst (ua cs.length bs))/\H hi=some (.lst (px cs.length bs))/\lo≠hi /\
  (∀bd H',nt cs wd=some bd->cq t H' b cs.length (bs++[bd])->Keeps [lo,hi] H H'->Q (.bl true) H'))/\(nt cs wd=none->∀H',Keeps [] H H'->Q (.bl false) H')
theorem FL (T:Txt K mg t):vm P w K mg base 2 "take_bound" ["told", "bounds", "word"] (GI t):=by
 obtain⟨f,fd,F,M⟩:=T.xQ;refine⟨f,fd,F.ok j2 (λvs H Q E h=>?_) (λgw A outer s H vs Q E hr h=>?_),M,F.kp,F.binds (λ_ _ _ _ _ _ us hl=>match us,hl with|[_,_,_],_=>rfl)⟩
 ·obtain⟨a,dx,dC,b,v1,v2,v3,cs,bs,wd,rfl,_⟩:=h;rfl
 obtain⟨a,dx,dC,b,v1,v2,v3,cs,bs,wd,rfl,h⟩:=h;have hu:=cF hr;refine⟨_,(aj (bO (i:=3) j2.nd rfl (aX rfl) (xB (br MT i8 (pv 2) (by with_unfolding_all rfl)) i8 i8)) (aj (bO (i:=4) j2.nd rfl (aX rfl) (xA (pv 2) (pv 3))) (aj (bO (i:=5) j2.nd rfl (aX rfl) (dw zL (pv 4) bf (λ_ _=>rfl))) (aj (cS (PW.pt (qN (nJ (iJ hu (dw zL (pv 4) bf (λ_ _=>rfl)) (aV (pv 0) rfl))) (qN (qu (i7 (Po PySem.F.slot_str_isdigit PySem.F.type_str_isdigit JO (pv 5)))) (rM (br vM (bT yb rfl T.eY dR (ag (pv 5) aC)) (b9 T.iZ rfl) (bN _)))))) (aD (bj jq)) bL) (aj (bO (i:=6) j2.nd rfl (aX rfl) (Dx FI rfl T.D4 WQ (ag (pv 5) aC))) (aj (cS (br vM (pv 6) (b9 T.gj rfl) (bN _)) (aD (bj jq)) bL) (aj (cS (br j3 (pv 3) i8 (bN _)) (aD (d7 (gP (rf T) (hr.mono (by decide)) (pv 1) (ag (lH hu (aV (pv 0) rfl) (dw zL (pv 4) bf (λ_ _=>rfl)) (λ_ _=>rfl)) (ag bf (ag (pv 6) aC)))))) (aD (d7 (gP (rf T) (hr.mono (by decide)) (pv 1) (ag (lH hu (aV (pv 0) rfl) (dw zL (pv 4) bf (λ_ _=>rfl)) (λ_ _=>rfl)) (ag (pv 6) (ag (b9 T.j6 rfl) aC))))))) (aD (bj jq))))))))),?_⟩;obtain⟨ha,hC,YQ,⟨rm,hlen,Tg⟩,⟨dxb,lo,hi,hb,YU,hhi,nlh,q1⟩,q2⟩:=h;have e60:Str.ofString "<=" = stx [60,61]:=lg "<=";have e62:Str.ofString ">=" = stx [62,61]:=lg ">=";push_cast[OL,tM0,e60,e62,in2,ha,hC,T.cN];cases hc1:qE 60 61 wd with
 | some pr =>
  obtain⟨x,y⟩:=pr;have Kg:=hc1;simp only[pP,if_true];refine⟨rfl,by rw[gK];simp only[sizeLine];omega,λp hp=>?_⟩;simp only[part2,Kg];have N4:=uM (p:=x) (r:=y) Kg;have wy:∀c∈y,IG c=true:=λc hc=>Tg c (by rw[N4];simp[hc])
  generalize e1:upd H p _=H1;obtain⟨g1,k1⟩:=al e1 hp;have i2:nB [V.str (stx x),V.str (stx [60,61]),V.str (stx y)] 2=some (V.str (stx y)):=de (j:=2) rfl;have i0:nB [V.str (stx x),V.str (stx [60,61]),V.str (stx y)] 0=some (V.str (stx x)):=de (j:=0) rfl;have eB:nt cs wd=PJ cs true (x,y):=by rw[Cf YQ];unfold t7;rw[Kg]
  push_cast[i2,i0,k1.up ha,k1.up hC,T.cN,lK,if_true];unfold PJ at eB;dsimp only at eB;cases hc:cs.contains x with
  | false =>
   rw[if_neg (by rw[hc];exact nofun)]at eB;simp only[bH,if_true];exact q2 eB H1 k1
  | true =>
   rw[if_pos hc]at eB;simp only[bR,aE,if_false];rw[wG wy];unfold XW at eB;cases Ke:(!y.isEmpty&&y.all Z2)with
   | false =>
    simp only[bH,if_true];refine q2 ?_ H1 k1;rw[eB,if_neg]
    ·rfl
    ·rintro⟨h1,_,h3⟩;rw[h3,xg]at Ke;cases y with
     | nil=>exact h1 rfl
     | cons=>cases Ke
   | true =>
    rw[aU]at Ke;have XZ:y≠[]:=λz=>by rw[z]at Ke;exact absurd Ke.1 (by decide)
    have yl:y.length<=5000:=by
     rw[N4,aJ,ay,ay]at hlen;omega
    simp only[bR,aE,if_false];refine⟨by rw[gK];simp only[sizeLine];omega,?_⟩;rw[gK];by_cases Ga:y.length<=2
    ·rw[if_neg (by simp;omega)];rw[if_pos ⟨XZ,Ga,Ke.2⟩]at eB;dsimp only at eB;refine⟨_,Lv XZ Ga Ke.2,by omega,?_⟩;generalize hn:y.foldl (λn c=>n * 10+(c-48)) 0=n at eB;by_cases Oa:n<=15
     ·rw[if_neg (by simp;omega)];rw[if_pos (show n<=zx from Oa)]at eB;have eB:nt cs wd=some ⟨cs.idxOf x,true,n⟩:=eB;have Nh:cs.idxOf x<cs.length:=cj (aS.mp hc);simp only[decide_true,if_true];have Hk:eQ (lX cs) (fi (stx x))=some (V.int (cs.idxOf x:Nat)):=by rw[lJ,if_pos hc]
      push_cast[k1.up hb,Hk,T.j5];refine⟨b,cs.length,bs,⟨cs.idxOf x,true,n⟩,rfl,⟨dxb,lo,hi,k1.up hb,k1.up YU,k1.up hhi,nlh⟩,Nh,λlo' N8 dx' H2 Ft hB k2=>?_⟩;rw[k1.up hb]at Ft;injection Ft with Ft
      injection Ft with _ _ Ft
      simp only[cQ,iC,vt,V.ref.injEq,true_and,and_true]at Ft;rw[<-Ft.1,<-Ft.2]at k2;exact q1 _ H2 eB hB (k1.any.trans k2)
     ·rw[if_pos (decide_eq_true (by omega))];rw[if_neg (show ¬n<=zx from Oa)]at eB;exact q2 eB H1 k1
    ·rw[if_pos (decide_eq_true (by omega))];rw[if_neg (λz=>Ga z.2.1)]at eB;exact q2 eB H1 k1
 | none =>
  simp only[KO,aE,if_false];cases hc2:qE 62 61 wd with
  | some pr =>
   obtain⟨x,y⟩:=pr;have Kg:=hc2;refine⟨rfl,by rw[gK];simp only[sizeLine];omega,λp hp=>?_⟩;simp only[part2,Kg];have N4:=uM (p:=x) (r:=y) Kg;have wy:∀c∈y,IG c=true:=λc hc=>Tg c (by rw[N4];simp[hc])
   generalize e1:upd H p _=H1;obtain⟨g1,k1⟩:=al e1 hp;have i2:nB [V.str (stx x),V.str (stx [62,61]),V.str (stx y)] 2=some (V.str (stx y)):=de (j:=2) rfl;have i0:nB [V.str (stx x),V.str (stx [62,61]),V.str (stx y)] 0=some (V.str (stx x)):=de (j:=0) rfl;have eB:nt cs wd=PJ cs false (x,y):=by rw[Cf YQ];unfold t7;rw[hc1,Kg]
   push_cast[i2,i0,k1.up ha,k1.up hC,T.cN,lK,if_true];unfold PJ at eB;dsimp only at eB;cases hc:cs.contains x with
   | false =>
    rw[if_neg (by rw[hc];exact nofun)]at eB;simp only[bH,if_true];exact q2 eB H1 k1
   | true =>
    rw[if_pos hc]at eB;simp only[bR,aE,if_false];rw[wG wy];unfold XW at eB;cases Ke:(!y.isEmpty&&y.all Z2)with
    | false =>
     simp only[bH,if_true];refine q2 ?_ H1 k1;rw[eB,if_neg]
     ·rfl
     ·rintro⟨h1,_,h3⟩;rw[h3,xg]at Ke;cases y with
      | nil=>exact h1 rfl
      | cons=>cases Ke
    | true =>
     rw[aU]at Ke;have XZ:y≠[]:=λz=>by rw[z]at Ke;exact absurd Ke.1 (by decide)
     have yl:y.length<=5000:=by
      rw[N4,aJ,ay,ay]at hlen;omega
     simp only[bR,aE,if_false];refine⟨by rw[gK];simp only[sizeLine];omega,?_⟩;rw[gK];by_cases Ga:y.length<=2
     ·rw[if_neg (by simp;omega)];rw[if_pos ⟨XZ,Ga,Ke.2⟩]at eB;dsimp only at eB;refine⟨_,Lv XZ Ga Ke.2,by omega,?_⟩;generalize hn:y.foldl (λn c=>n * 10+(c-48)) 0=n at eB;by_cases Oa:n<=15
      ·rw[if_neg (by simp;omega)];rw[if_pos (show n<=zx from Oa)]at eB;have eB:nt cs wd=some ⟨cs.idxOf x,false,n⟩:=eB;have Nh:cs.idxOf x<cs.length:=cj (aS.mp hc);rw[if_neg (by rw[IY];decide)];have Hk:eQ (lX cs) (fi (stx x))=some (V.int (cs.idxOf x:Nat)):=by rw[lJ,if_pos hc]
       push_cast[k1.up hb,Hk,T.j5];refine⟨b,cs.length,bs,⟨cs.idxOf x,false,n⟩,rfl,⟨dxb,lo,hi,k1.up hb,k1.up YU,k1.up hhi,nlh⟩,Nh,λlo' N8 dx' H2 Ft hB k2=>?_⟩;rw[k1.up hb]at Ft;injection Ft with Ft
       injection Ft with _ _ Ft
       simp only[cQ,iC,vt,V.ref.injEq,true_and,and_true]at Ft;rw[<-Ft.1,<-Ft.2]at k2;exact q1 _ H2 eB hB (k1.any.trans k2)
      ·rw[if_pos (decide_eq_true (by omega))];rw[if_neg (show ¬n<=zx from Oa)]at eB;exact q2 eB H1 k1
     ·rw[if_pos (decide_eq_true (by omega))];rw[if_neg (λz=>Ga z.2.1)]at eB;exact q2 eB H1 k1
  | none =>
   have eB:nt cs wd=none:=by rw[Cf YQ];unfold t7;rw[hc1,hc2]
   refine⟨rfl,by rw[gK];simp only[sizeLine];omega,λp hp=>?_⟩;simp only[part2,hc2];generalize e1:upd H p _=H1;obtain⟨g1,k1⟩:=al e1 hp;have i2:nB [V.str (stx wd),V.str (stx []),V.str (stx [])] 2=some (V.str (stx [])):=de (j:=2) rfl;have i0:nB [V.str (stx wd),V.str (stx []),V.str (stx [])] 0=some (V.str (stx wd)):=de (j:=0) rfl;push_cast[i2,i0,k1.up ha,k1.up hC,T.cN,lK,if_true];cases hc:cs.contains wd with
   | false =>
    simp only[bH,if_true];exact q2 eB H1 k1
   | true =>
    simp only[bR,aE,if_false];rw[wG (by simp)];simp only[jZ,bR,vy,bH,if_true];exact q2 eB H1 k1
end
theorem cq.at_ {t:cT}{H:Hp}{b dxb lo hi:Addr}{nc:Nat}{bs:List Bound}(h:cq t H b nc bs) (hb:H b=some (.ins t.cK dxb (cQ (.ref lo) (.ref hi)))):H lo=some (.lst (ua nc bs))/\H hi=some (.lst (px nc bs))/\lo≠hi:=by
 obtain⟨dx,lo',N8,h1,h2,h3,h4⟩:=h;rw[hb]at h1;injection h1 with h1
 injection h1 with _ _ h1
 simp only[cQ,iC,vt,V.ref.injEq,true_and,and_true]at h1;rw[<-h1.1]at h2 h4;rw[<-h1.2]at h3 h4;exact⟨h2,h3,h4⟩
theorem Sf {ws:List Bytes}(hw:ws≠[]){xs:List V}(hx:∀x∈xs,∃i,x=V.int i):HO.lst (cW ws)≠HO.lst xs:=λe=>by
 injection e with e
 cases ws with
 | nil=>exact hw rfl
 | cons a r =>
  cases xs with
  | nil=>cases e
  | cons y ys =>
   obtain⟨i,hi⟩:=hx y (au ..);rw[hi]at e;cases e
theorem PV {nc:Nat}{bs:List Bound}:∀x∈ua nc bs,∃i,x=V.int i:=λx hx=>by
 obtain⟨c,_,rfl⟩:=aH.mp hx;exact⟨_,rfl⟩
theorem Ni {nc:Nat}{bs:List Bound}:∀x∈px nc bs,∃i,x=V.int i:=λx hx=>by
 obtain⟨c,_,rfl⟩:=aH.mp hx;exact⟨_,rfl⟩
theorem ve {ws:List Bytes}{i:Nat}{w:Bytes}(h:ws[i]?=some w):ws.drop i=w::ws.drop (i+1):=by
 obtain⟨hi,e⟩:=aw.mp h;rw[dY hi,e]
theorem rB {ws:List Bytes}{i:Nat}{w:Bytes}(h:ws[i]?=some w):nB (cW ws) (i:Int)=some (V.str (stx w)):=de (by unfold cW;rw[aR,h];rfl)
structure Iz (t:cT) (H:Hp) (a dC dS lw:Addr) (cs sn:List Bytes) (ws:List Bytes):Prop where
 ob:∃dx v2 v3,H a=some (.ins t.fN dx (fL (.ref dC) (.ref dS) v2 v3))
 hc:H dC=some (.dK (lX cs))
 hs:H dS=some (.dK (lX sn))
 nm:∀w∈cs,sI w=true
 hw:H lw=some (.lst (cW ws))
 ok:∀w∈ws,C2 w
theorem Iz.up {t:cT}{H H':Hp}(k:Keeps [] H H'){a dC dS lw:Addr}{cs sn ws:List Bytes}(h:Iz t H a dC dS lw cs sn ws):Iz t H' a dC dS lw cs sn ws:=by
 obtain⟨dx,v2,v3,h1⟩:=h.ob;exact⟨⟨dx,v2,v3,k.up h1⟩,k.up h.hc,k.up h.hs,h.nm,k.up h.hw,h.ok⟩
theorem Iz.wr {t:cT}{H H':Hp}{L:List Addr}(k:Keeps L H H') (hL:∀x∈L,∃xs,H x=some (.lst xs)/\∀y∈xs,∃i,y=V.int i){a dC dS lw:Addr}{cs sn ws:List Bytes}(rm:ws≠[]) (h:Iz t H a dC dS lw cs sn ws):Iz t H' a dC dS lw cs sn ws:=by
 obtain⟨dx,v2,v3,h1⟩:=h.ob;have nl:∀b o,H b=some o->(∀xs,o ≠ .lst xs)->b∉L:=λb o hb ho z=>by
  obtain⟨xs,h2,_⟩:=hL b z;rw[hb]at h2;cases h2;exact ho _ rfl
 refine⟨⟨dx,v2,v3,k.kp _ _ h1 (nl _ _ h1 nofun)⟩,k.kp _ _ h.hc (nl _ _ h.hc nofun),k.kp _ _ h.hs (nl _ _ h.hs nofun),h.nm,k.kp _ _ h.hw λz=>?_,h.ok⟩;obtain⟨xs,h2,h3⟩:=hL lw z;rw[h.hw]at h2;injection h2 with h2
 exact Sf rm h3 h2
section
variable {P:Program}{w:World}{K:aa}{mg:Str->Option Value}{base:Heap}{t:cT}
def Ex (t:cT):Sp:=λvs H Q _=>∃(a dC dS lw b dxb lo hi:Addr) (cs sn ws:List Bytes) (bs:List Bound) (i:Nat),vs=[.ref a,.ref b,.ref lw,.int i]/\Iz t H a dC dS lw cs sn ws/\i<=ws.length/\H b=some (.ins t.cK dxb (cQ (.ref lo) (.ref hi)))/\cq t H b cs.length bs /\
 ∀H',cq t H' b cs.length (bs++(dZ cs (ws.drop i)).1)->H' b=some (.ins t.cK dxb (cQ (.ref lo) (.ref hi)))->Iz t H' a dC dS lw cs sn ws->Keeps [lo,hi] H H'->Q (.int (ws.length-(dZ cs (ws.drop i)).2.length:Nat)) H'
theorem vY (T:Txt K mg t):vm P w K mg base 3 "take_bounds" ["told", "bounds", "words", "at"] (Ex t):=by
 obtain⟨f,fd,F,M⟩:=T.vO;refine⟨f,fd,F.ok tU (λvs H Q E h=>?_) (λgw A outer s H vs Q E hr h=>?_),M,F.kp,F.binds (λ_ _ _ _ _ _ us hl=>match us,hl with|[_,_,_,_],_=>rfl)⟩
 ·obtain⟨a,dC,dS,lw,b,dxb,lo,hi,cs,sn,ws,bs,i,rfl,_⟩:=h;rfl
 obtain⟨a,dC,dS,lw,b,dxb,lo,hi,cs,sn,ws,bs,i,rfl,h⟩:=h;have hu:=cF hr;refine⟨_,(aj (m8 PassesOwn.never (PW.pt (qt (br nZ (pv 3) (bT cO rfl T.eY dR (ag (pv 2) aC)) (bN _)) (mU (i7 (eG (FL T) (hr.mono (by decide)) rfl (ag (pv 0) (ag (pv 1) (ag (dw dq (pv 2) (pv 3) (λ_ _=>rfl)) aC)))))))) (aD (tZ (i:=3) tU.nd rfl (aX rfl) bf ug))) (aD (bj (pv 3)))),?_⟩;obtain⟨hR,hi0,hb,hB,q⟩:=h;push_cast;obtain⟨W,hW⟩:∃W:Nat->L2.St->Hp->Prop,W=λm σ H'=>∃(j:Nat) (US:List Bound),σ=[some (.ref a),some (.ref b),some (.ref lw),some (.int (j:Nat))]/\ws.length-j=m/\j<=ws.length/\Iz t H' a dC dS lw cs sn ws/\H' b=some (.ins t.cK dxb (cQ (.ref lo) (.ref hi)))/\cq t H' b cs.length US/\bs++(dZ cs (ws.drop i)).1=US++(dZ cs (ws.drop j)).1/\(dZ cs (ws.drop i)).2=(dZ cs (ws.drop j)).2/\Keeps [lo,hi] H H':=⟨_,rfl⟩
 refine⟨W,⟨_,by rw[hW];exact⟨i,bs,rfl,rfl,hi0,hR,hb,hB,rfl,rfl,Keeps.refl⟩⟩,?_⟩;intro m σ H' hw;rw[hW]at hw;obtain⟨j,US,rfl,rfl,hj,Fu,Nl,UO,e1,e2,k⟩:=hw;have yx:(cW ws).length=ws.length:=by simp[cW]
 push_cast[Fu.hw,yx];by_cases hX:j<ws.length
 ·rw[if_pos (decide_eq_true (by omega))];obtain⟨wd,N5⟩:∃wd,ws[j]?=some wd:=⟨_,ae hX⟩;have rm:ws≠[]:=λz=>by rw[z]at hX;cases hX
  obtain⟨dx,v2,v3,ho⟩:=Fu.ob;obtain⟨l1,l2,l3⟩:=UO.at_ Nl;have ed:=ve N5;push_cast[rB N5];refine⟨a,dx,dC,b,.ref dS,v2,v3,cs,US,wd,rfl,ho,Fu.hc,Fu.nm,Fu.ok wd (aI N5),⟨dxb,lo,hi,Nl,l1,l2,l3,λbd H2 Tv hB2 k2=>?_⟩,λTv H2 k2=>?_⟩
  ·push_cast[if_true];refine⟨λfK C4=>∃m',m'<ws.length-j/\W m' fK C4,λ_ _ h=>h,?_⟩;have es:dZ cs (ws.drop j)=(bd::(dZ cs (ws.drop (j+1))).1,(dZ cs (ws.drop (j+1))).2):=by rw[ed,dZ,Tv]
   refine⟨ws.length-(j+1),by omega,?_⟩;rw[hW];refine⟨j+1,US++[bd],by simp,rfl,hX,Fu.wr k2 (λx hx=>?_) rm,k2.kp _ _ Nl ?_,hB2,by rw[e1,es];simp,by rw[e2,es],k.trans k2⟩
   ·simp only[ah,aF,or_false]at hx;rcases hx with rfl|rfl
    ·exact⟨_,l1,PV⟩
    ·exact⟨_,l2,Ni⟩
   ·simp only[ah,aF,or_false,not_or];exact⟨aK Nl l1 nofun,aK Nl l2 nofun⟩
  ·push_cast[aE,if_false];have es:dZ cs (ws.drop j)=([],ws.drop j):=by rw[ed,dZ,Tv]
   have hl:(dZ cs (ws.drop i)).2.length=ws.length-j:=by rw[e2,es,cD]
   rw[hl,show ws.length-(ws.length-j)=j by omega]at q;exact q H2 (by rw[e1,es];simpa using UO.up k2) (k2.up Nl) (Fu.up k2) (k.trans k2.any)
 ·rw[if_neg (by simp;omega)];simp only[aE,if_false];have UH:ws.drop j=[]:=iV (by omega);have es:dZ cs (ws.drop j)=([],[]):=by rw[UH,dZ]
  have hl:(dZ cs (ws.drop i)).2.length=0:=by rw[e2,es];rfl
  rw[hl,show ws.length-0=j by omega]at q;exact q H' (by rw[e1,es];simpa using UO) Nl Fu k
end
theorem xl (w:Bytes) (s:String):decide (stx w=Str.ofString s)=decide (w=bA s):=by rw[lg,IY]
section
variable {P:Program}{w:World}{K:aa}{mg:Str->Option Value}{base:Heap}{t:cT}
def Jf (t:cT):Sp:=λvs H Q _=>∃(a dC dS lw e dxe b dxb lo hi:Addr) (f1 f2 f3 f4 f6 f7 f8:V) (N:Net) (ws:List Bytes) (i:Nat),vs=[.ref a,.ref e,.ref lw,.int i]/\Iz t H a dC dS lw N.clocks N.signals ws/\i<=ws.length/\H e=some (.ins t.fD dxe (dr f1 f2 f3 f4 (.ref b) f6 f7 f8))/\H b=some (.ins t.cK dxb (cQ (.ref lo) (.ref hi)))/\cq t H b N.clocks.length [] /\
 ∀H',cq t H' b N.clocks.length (gm N (ws.drop i)).1->Iz t H' a dC dS lw N.clocks N.signals ws->Keeps [lo,hi] H H'->Q (.int (ws.length-(gm N (ws.drop i)).2.length:Nat)) H'
theorem HH (T:Txt K mg t):vm P w K mg base 4 "take_when" ["told", "edge", "words", "at"] (Jf t):=by
 obtain⟨f,fd,F,M⟩:=T.zM;refine⟨f,fd,F.ok EE (λvs H Q E h=>?_) (λgw A outer s H vs Q E hr h=>?_),M,F.kp,F.binds (λ_ _ _ _ _ _ us hl=>match us,hl with|[_,_,_,_],_=>rfl)⟩
 ·obtain⟨a,dC,dS,lw,e,dxe,b,dxb,lo,hi,f1,f2,f3,f4,f6,f7,f8,N,ws,i,rfl,_⟩:=h;rfl
 obtain⟨a,dC,dS,lw,e,dxe,b,dxb,lo,hi,f1,f2,f3,f4,f6,f7,f8,N,ws,i,rfl,h⟩:=h;have hu:=cF hr;refine⟨_,(aj (cS (PW.pt (qt (br nZ (pv 3) (bT cO rfl T.eY dR (ag (pv 2) aC)) (bN _)) (mU (br j3 (dw dq (pv 2) (pv 3) (λ_ _=>rfl)) i8 (bN _))))) (aD (bj (eG (vY T) (hr.mono (by decide)) rfl (ag (pv 0) (ag (aV (pv 1) rfl) (ag (pv 2) (ag (eF ku (pv 3) bf) aC))))))) bL) (aD (bj (pv 3)))),?_⟩;obtain⟨hR,hi0,he,hb,hB,q⟩:=h;have yx:(cW ws).length=ws.length:=by simp[cW]
 push_cast[hR.hw,yx];by_cases hX:i<ws.length
 ·rw[if_pos (decide_eq_true (by omega))];obtain⟨wd,N5⟩:∃wd,ws[i]?=some wd:=⟨_,ae hX⟩;have ed:=ve N5;push_cast[rB N5,xl];by_cases hw:wd=bA "when"
  ·rw[if_pos (decide_eq_true hw)];rw[ed,qJ hw]at q;push_cast[he,T.ky];refine⟨a,dC,dS,lw,b,dxb,lo,hi,N.clocks,N.signals,ws,[],i+1,by simp,hR,hX,hb,hB,λH' UO _ Fu k'=>?_⟩;exact q H' UO Fu k'
  ·rw[if_neg (by simpa using hw)];have el:ws.length-(wd::ws.drop (i+1)).length=i:=by rw[<-ed,cD];omega
   rw[ed,tN hw,el]at q;exact q H hB hR Keeps.refl
 ·rw[if_neg (by simp;omega)];simp only[aE,if_false];have UH:ws.drop i=[]:=iV (by omega);rw[UH]at q;have e0:gm N []=([],[]):=rfl;rw[e0,bI,show ws.length-0=i by omega]at q;exact q H hB hR Keeps.refl
def BL (l:List Nat):List V:=l.map λ(c:Nat)=>V.int c
theorem Qk {l:List Nat}:∀x∈BL l,∃i,x=V.int i:=λx hx=>by
 obtain⟨c,_,rfl⟩:=aH.mp hx;exact⟨_,rfl⟩
def Jg (t:cT):Sp:=λvs H Q _=>∃(a dC dS lw e dxe ls:Addr) (f1 f2 f3 f4 f5 f7 f8:V) (N:Net) (ws:List Bytes) (i:Nat),vs=[.ref a,.ref e,.ref lw,.int i]/\Iz t H a dC dS lw N.clocks N.signals ws/\i<=ws.length/\ws.length<=5000/\H e=some (.ins t.fD dxe (dr f1 f2 f3 f4 f5 (.ref ls) f7 f8))/\H ls=some (.lst []) /\
 ∀H',H' ls=some (.lst (BL (lY N (ws.drop i)).1))->Iz t H' a dC dS lw N.clocks N.signals ws->Keeps [ls] H H'->Q (.int (ws.length-(lY N (ws.drop i)).2.length:Nat)) H'
theorem HI (T:Txt K mg t):vm P w K mg base 1 "take_sets" ["told", "edge", "words", "at"] (Jg t):=by
 obtain⟨f,fd,F,M⟩:=T.zN;refine⟨f,fd,F.ok rG (λvs H Q E h=>?_) (λgw A outer s H vs Q E hr h=>?_),M,F.kp,F.binds (λ_ _ _ _ _ _ us hl=>match us,hl with|[_,_,_,_],_=>rfl)⟩
 ·obtain⟨a,dC,dS,lw,e,dxe,ls,f1,f2,f3,f4,f5,f7,f8,N,ws,i,rfl,_⟩:=h;rfl
 obtain⟨a,dC,dS,lw,e,dxe,ls,f1,f2,f3,f4,f5,f7,f8,N,ws,i,rfl,h⟩:=h;have hu:=cF hr;refine⟨_,(aj (cS (PW.pt (qt (br nZ (pv 3) (bT cO rfl T.eY dR (ag (pv 2) aC)) (bN _)) (mU (br j3 (dw dq (pv 2) (pv 3) (λ_ _=>rfl)) i8 (bN _))))) (aj (tZ (i:=3) rG.nd rfl (aX rfl) bf ug) (aD (m8 PassesOwn.never (PW.pt (qt (br nZ (pv 3) (bT cO rfl T.eY dR (ag (pv 2) aC)) (bN _)) (mU (nJ (EU hu (dw dq (pv 2) (pv 3) (λ_ _=>rfl)) (aV (pv 0) rfl)))))) (aj (d7 (lI bc bq bp eZ (aV (pv 1) rfl) (ag (lH hu (aV (pv 0) rfl) (dw dq (pv 2) (pv 3) (λ_ _=>rfl)) (λ_ _=>rfl)) aC))) (aD (tZ (i:=3) rG.nd rfl (aX rfl) bf ug)))))) bL) (aD (bj (pv 3)))),?_⟩;obtain⟨hR,hi0,h5,he,Xs,q⟩:=h;have yx:(cW ws).length=ws.length:=by simp[cW]
 push_cast[hR.hw,yx];by_cases hX:i<ws.length
 ·rw[if_pos (decide_eq_true (by omega))];obtain⟨wd,N5⟩:∃wd,ws[i]?=some wd:=⟨_,ae hX⟩;have rm:ws≠[]:=λz=>by rw[z]at hX;cases hX
  have ed:=ve N5;push_cast[rB N5,xl];by_cases hw:wd=bA "set"
  ·rw[if_pos (decide_eq_true hw)];rw[ed,tS hw]at q;obtain⟨W,hW⟩:∃W:Nat->L2.St->Hp->Prop,W=λm σ H'=>∃(j:Nat) (pre:List Nat),σ=[some (.ref a),some (.ref e),some (.ref lw),some (.int (j:Nat))]/\ws.length-j=m/\j<=ws.length/\pre.length<=j/\Iz t H' a dC dS lw N.clocks N.signals ws/\H' ls=some (.lst (BL pre))/\(gy N.clocks (ws.drop (i+1))).1=pre++(gy N.clocks (ws.drop j)).1/\(gy N.clocks (ws.drop (i+1))).2=(gy N.clocks (ws.drop j)).2/\Keeps [ls] H H':=⟨_,rfl⟩
   refine⟨W,⟨_,by rw[hW];exact⟨i+1,[],by simp,rfl,hX,by simp,hR,Xs,rfl,rfl,Keeps.refl⟩⟩,?_⟩;intro m σ H' Wa;rw[hW]at Wa;obtain⟨j,pre,rfl,rfl,hj,AJ,Fu,Tp,e1,e2,k⟩:=Wa;push_cast[Fu.hw,yx];have Wk:=k.bM he (aK he Xs nofun);by_cases YS:j<ws.length
   ·rw[if_pos (decide_eq_true (by omega))];obtain⟨w2,Xo⟩:∃w2,ws[j]?=some w2:=⟨_,ae YS⟩;have ed2:=ve Xo;obtain⟨dx,v2,v3,ho⟩:=Fu.ob;push_cast[rB Xo,ho,Fu.hc,T.cN,lK,aE,if_false];by_cases hc:N.clocks.contains w2=true
    ·rw[if_pos hc];refine⟨λfK C4=>∃m',m'<ws.length-j/\W m' fK C4,λ_ _ h=>h,?_⟩;have Hk:eQ (lX N.clocks) (fi (stx w2))=some (V.int (N.clocks.idxOf w2:Nat)):=by rw[lJ,if_pos hc]
     have sl:(BL pre).length<sizeLine:=by simp only[BL,ax,sizeLine];omega
     push_cast[Wk,Tp,ho,Fu.hc,Fu.hw,rB Xo,Hk,sl,T.ky,T.cN];generalize e3:upd H' ls _=H3;obtain⟨g3,k3⟩:=Mp.wr e3;have es:gy N.clocks (ws.drop j)=(N.clocks.idxOf w2::(gy N.clocks (ws.drop (j+1))).1,(gy N.clocks (ws.drop (j+1))).2):=by rw[ed2,gy,if_pos hc]
     refine⟨ws.length-(j+1),by omega,?_⟩;rw[hW];refine⟨j+1,pre++[N.clocks.idxOf w2],by simp,rfl,YS,by simp;omega,Fu.wr k3 (λx hx=>?_) rm,by rw[g3];simp[BL],by rw[e1,es];simp,by rw[e2,es],k.trans k3⟩;rw[aL]at hx;rw[hx];exact⟨_,Tp,Qk⟩
    ·rw[if_neg hc];have es:gy N.clocks (ws.drop j)=([],ws.drop j):=by rw[ed2,gy,if_neg hc]
     have hl:(gy N.clocks (ws.drop (i+1))).2.length=ws.length-j:=by rw[e2,es,cD]
     rw[hl,show ws.length-(ws.length-j)=j by omega]at q;exact q H' (by rw[e1,es];simpa using Tp) Fu k
   ·rw[if_neg (by simp;omega)];simp only[aE,if_false];have UH:ws.drop j=[]:=iV (by omega);have es:gy N.clocks (ws.drop j)=([],[]):=by rw[UH,gy]
    have hl:(gy N.clocks (ws.drop (i+1))).2.length=0:=by rw[e2,es];rfl
    rw[hl,show ws.length-0=j by omega]at q;exact q H' (by rw[e1,es];simpa using Tp) Fu k
  ·rw[if_neg (by simpa using hw)];have el:ws.length-(wd::ws.drop (i+1)).length=i:=by rw[<-ed,cD];omega
   rw[ed,xp hw,el]at q;exact q H Xs hR Keeps.refl
 ·rw[if_neg (by simp;omega)];simp only[aE,if_false];have UH:ws.drop i=[]:=iV (by omega);rw[UH]at q;have e0:lY N []=([],[]):=rfl;rw[e0,bI,show ws.length-0=i by omega]at q;exact q H Xs hR Keeps.refl
def CI (t:cT):Sp:=λvs H Q _=>∃(a dC dS lw e dxe:Addr) (f1 f2 f3 f4 f5 f6:V) (N:Net) (ws:List Bytes) (i:Nat),vs=[.ref a,.ref e,.ref lw,.int i]/\Iz t H a dC dS lw N.clocks N.signals ws/\i<=ws.length/\H e=some (.ins t.fD dxe (dr f1 f2 f3 f4 f5 f6 (.int 0) (.int (-1)))) /\
 ∀H',H' e=some (.ins t.fD dxe (dr f1 f2 f3 f4 f5 f6 (.int (sN (gz N (ws.drop i)).1)) (.int (m6 (gz N (ws.drop i)).1))))->Keeps [e] H H'->Q (.int (ws.length-(gz N (ws.drop i)).2.length:Nat)) H'
theorem B9 (T:Txt K mg t):vm P w K mg base 1 "take_meeting" ["told", "edge", "words", "at"] (CI t):=by
 obtain⟨f,fd,F,M⟩:=T.uk;refine⟨f,fd,F.ok An (λvs H Q E h=>?_) (λgw A outer s H vs Q E hr h=>?_),M,F.kp,F.binds (λ_ _ _ _ _ _ us hl=>match us,hl with|[_,_,_,_],_=>rfl)⟩
 ·obtain⟨a,dC,dS,lw,e,dxe,f1,f2,f3,f4,f5,f6,N,ws,i,rfl,_⟩:=h;rfl
 obtain⟨a,dC,dS,lw,e,dxe,f1,f2,f3,f4,f5,f6,N,ws,i,rfl,h⟩:=h;have hu:=cF hr;refine⟨_,(aj (cS (PW.pt (qN (br Px (eF ku (pv 3) bf) (bT cO rfl T.eY dR (ag (pv 2) aC)) (bN _)) (rM (nJ (iJ hu (dw dq (pv 2) (eF ku (pv 3) bf) (λ_ _=>rfl)) (aV (pv 0) rfl)))))) (aD (bj (pv 3))) bL) (aj (cS (br j3 (dw dq (pv 2) (pv 3) (λ_ _=>rfl)) i8 (bN _)) (aD (bW (pv 1) (b9 T.rY rfl) rfl)) (aD (cS (br j3 (dw dq (pv 2) (pv 3) (λ_ _=>rfl)) i8 (bN _)) (aD (bW (pv 1) (b9 T.rW rfl) rfl)) (aD (bj (pv 3)))))) (aj (bW (pv 1) (lH hu (aV (pv 0) rfl) (dw dq (pv 2) (eF ku (pv 3) bf) (λ_ _=>rfl)) (λ_ _=>rfl)) rfl) (aD (bj (eF ku (pv 3) bf)))))),?_⟩;obtain⟨hR,hi0,he,q⟩:=h;have yx:(cW ws).length=ws.length:=by simp[cW]
 obtain⟨dx,v2,v3,ho⟩:=hR.ob;push_cast[hR.hw,yx];have alone:gz N (ws.drop i)=(.alone,ws.drop i)->Q (.int (i:Nat)) H:=λhm=>by
  rw[hm]at q;have el:ws.length-(ws.drop i).length=i:=by rw[cD];omega
  dsimp only at q;rw[el]at q;exact q H he Keeps.refl
 by_cases hlen:ws.length<=i+1
 ·rw[if_pos (decide_eq_true (by omega)),if_pos trivial];refine alone ?_;have hl:(ws.drop i).length<=1:=by rw[cD];omega
  match hd:ws.drop i,hl with
  | [],_=>rfl
  | [x],_=>rfl
 ·rw[if_neg (by simp;omega)];obtain⟨w0,hw0⟩:∃w0,ws[i]?=some w0:=⟨_,ae (by omega)⟩;obtain⟨s1,Qu⟩:∃s1,ws[i+1]?=some s1:=⟨_,ae (by omega)⟩;have ed:ws.drop i=w0::s1::ws.drop (i+2):=by rw[ve hw0,ve Qu]
  have i1:nB (cW ws) ((i:Int)+1)=some (V.str (stx s1)):=by
   have:=rB Qu;rw[show((i+1:Nat):Int)=(i:Int)+1 by omega]at this;exact this
  push_cast[i1,ho,hR.hs,lK,T.cN,if_true];by_cases hc:N.signals.contains s1=true
  ·rw[hc];simp only[bR,aE,if_false];have Hk:eQ (lX N.signals) (fi (stx s1))=some (V.int (N.signals.idxOf s1:Nat)):=by rw[lJ,if_pos hc]
   push_cast[rB hw0,xl];by_cases hg:w0=bA "give"
   ·rw[if_pos (decide_eq_true hg)];push_cast[he,T.ky];generalize e1:upd H e _=H1;obtain⟨g1,k1⟩:=Mp.wr e1;have VJ:a≠e:=Fc ho he (by simp[fL,dr]);have o1:=k1.bM ho VJ;have w1:=k1.bM hR.hw (aK hR.hw he nofun);have s1':=k1.bM hR.hs (aK hR.hs he nofun);push_cast[o1,w1,s1',i1,Hk,g1,T.cN,T.ky];generalize e2:upd H e _=H2;obtain⟨g2,k2⟩:=Mp.wr e2;rw[ed,mB hc hg]at q;have el:ws.length-(ws.drop (i+2)).length=i+2:=by rw[cD];omega
    dsimp only at q;rw[el]at q;rw[show((i+2:Nat):Int)=(i:Int)+2 by omega]at q;exact q H2 g2 k2
   ·rw[if_neg (by simpa using hg)];by_cases ht:w0=bA "take"
    ·rw[if_pos (decide_eq_true ht)];push_cast[he,T.ky];generalize e1:upd H e _=H1;obtain⟨g1,k1⟩:=Mp.wr e1;have VJ:a≠e:=Fc ho he (by simp[fL,dr]);have o1:=k1.bM ho VJ;have w1:=k1.bM hR.hw (aK hR.hw he nofun);have s1':=k1.bM hR.hs (aK hR.hs he nofun);push_cast[o1,w1,s1',i1,Hk,g1,T.cN,T.ky];generalize e2:upd H e _=H2;obtain⟨g2,k2⟩:=Mp.wr e2;rw[ed,mz hc hg ht]at q;have el:ws.length-(ws.drop (i+2)).length=i+2:=by rw[cD];omega
     dsimp only at q;rw[el]at q;rw[show((i+2:Nat):Int)=(i:Int)+2 by omega]at q;exact q H2 g2 k2
    ·rw[if_neg (by simpa using ht)];exact alone (by rw[ed,kD hc hg ht])
  ·rw[bz.mpr hc];simp only[bH,if_true];exact alone (by rw[ed,pq hc])
end
structure Tz where
 a:Addr
 dx:Addr
 dC:Addr
 dS:Addr
 dN:Addr
 lM:Addr
structure TC (t:cT) (H:Hp) (z:Tz) (M:List Addr) (N:Net) (ms:List Addr):Prop where
 ob:wo H M z.a=some (.ins t.fN z.dx (fL (.ref z.dC) (.ref z.dS) (.ref z.dN) (.ref z.lM)))
 hC:H z.dC=some (.dK (lX N.clocks))
 hS:H z.dS=some (.dK (lX N.signals))
 hN:H z.dN=some (.dK (lX (cA N)))
 hM:H z.lM=some (.lst (ms.map V.ref))
 ml:ms.length=N.machines.length
 n1:z.dC≠z.dS
 n2:z.dC≠z.dN
 n3:z.dS≠z.dN
structure La where
 mi:List Addr
 x:Addr
 dxx:Addr
 dp:Addr
 lb:Addr
 le:Addr
 bs:List Addr
 es:List Addr
 init:List Machine
 m:Machine
def Tz.M0 (z:Tz):List Addr:=[z.dC,z.dS,z.dN,z.lM]
def Tz.M1 (z:Tz) (l:La):List Addr:=[z.dC,z.dS,z.dN,z.lM,l.dp,l.lb,l.le]
structure T1 (t:cT) (H:Hp) (z:Tz) (N:Net) (l:La):Prop where
 e:N.machines=l.init++[l.m]
 c:TC t H z (z.M1 l) N (l.mi++[l.x])
 pr:∀(i:Nat) (y:Addr) (m':Machine),l.mi[i]?=some y->l.init[i]?=some m'->sG t (wo H (z.M1 l)) y i N.clocks.length m'
 lx:wo H (z.M1 l) l.x=some (.ins t.dD l.dxx (eO (.ref l.dp) (.ref l.lb) (.ref l.le)))
 hp:H l.dp=some (.dK (lX (pNames l.m)))
 hb:H l.lb=some (.lst (l.bs.map V.ref))
 he:H l.le=some (.lst (l.es.map V.ref))
 lf:zq t (wo H (z.M1 l)) l.init.length N.clocks.length l.m l.bs l.es
 n4:l.dp≠z.dC
 n5:l.dp≠z.dS
 n6:l.dp≠z.dN
 n7:l.lb≠z.lM
 n8:l.le≠z.lM
 n9:l.lb≠l.le
def iS (t:cT) (H:Hp) (z:Tz) (N:Net):Prop:=(N.machines=[]/\TC t H z z.M0 N [])\/∃l,T1 t H z N l
section
variable {t:cT}{H H':Hp}{z:Tz}{N:Net}{l:La}
theorem TC.up (k:Keeps [] H H'){M:List Addr}{ms:List Addr}(h:TC t H z M N ms):TC t H' z M N ms :=
 ⟨(k.any (M:=M)).wo.up h.ob,k.up h.hC,k.up h.hS,k.up h.hN,k.up h.hM,h.ml,h.n1,h.n2,h.n3⟩
theorem T1.up (k:Keeps [] H H') (h:T1 t H z N l):T1 t H' z N l:=by
 have kw:=(k.any (M:=z.M1 l)).wo;exact⟨h.e,h.c.up k,λi y m' a b=>(h.pr i y m' a b).up kw,kw.up h.lx,k.up h.hp,k.up h.hb,k.up h.he,h.lf.up kw,h.n4,h.n5,h.n6,h.n7,h.n8,h.n9⟩
theorem iS.up (k:Keeps [] H H') (h:iS t H z N):iS t H' z N:=by
 rcases h with⟨e,h⟩|⟨l,h⟩
 ·exact .inl ⟨e,h.up k⟩
 ·exact .inr ⟨l,h.up k⟩
theorem T1.len (h:T1 t H z N l):l.mi.length=l.init.length:=by
 have:=h.c.ml;rw[h.e]at this;simpa using this
theorem T1.aaj (h:T1 t H z N l):sG t H l.x l.init.length N.clocks.length l.m:=⟨l.dxx,l.dp,l.lb,l.le,l.bs,l.es,cG.up h.lx,⟨h.hp,h.hb,h.he⟩,h.lf.up cG⟩
theorem iS.told (h:iS t H z N):gE t H z.a N:=by
 rcases h with⟨e,h⟩|⟨l,h⟩
 ·exact⟨z.dx,z.dC,z.dS,z.dN,z.lM,[],cG.up h.ob,h.hC,h.hS,h.hN,h.hM,h.ml,λi x m h1=>by simp at h1⟩
 ·refine⟨z.dx,z.dC,z.dS,z.dN,z.lM,l.mi++[l.x],cG.up h.c.ob,h.c.hC,h.c.hS,h.c.hN,h.c.hM,h.c.ml,λi x m h1 h2=>?_⟩;rw[h.e]at h2;by_cases hi:i<l.mi.length
  ·rw[aO hi]at h1;rw[aO (by rw[<-h.len];exact hi)]at h2;exact(h.pr i x m h1 h2).up cG
  ·rw[aM (by omega)]at h1;rw[aM (by rw[<-h.len];omega),<-h.len]at h2
   match e:i-l.mi.length,h1,h2 with
   | 0,h1,h2 =>
    cases h1;cases h2;have:i=l.init.length:=by rw[<-h.len];omega
    rw[this];exact h.aaj
   | j+1,h1,_=>simp at h1
theorem iS.ob (h:iS t H z N):H z.a=some (.ins t.fN z.dx (fL (.ref z.dC) (.ref z.dS) (.ref z.dN) (.ref z.lM))):=by
 rcases h with⟨e,h⟩|⟨l,h⟩
 ·exact cG.up h.ob
 ·exact cG.up h.c.ob
theorem yi {α:Type}(l:List α) (x:α):nB (l++[x]) (-1)=some x:=by
 unfold nB N3;rw[if_neg (by omega),if_pos (by simp;omega)];simp only[mJ];have:(-1+((l++[x]).length:Int)).toNat=l.length:=by simp;omega
 rw[this,aM (aQ _)];simp
theorem T1.new {a:Bytes}{ms:List Addr}{x' dx' dp' lb' le':Addr}(h:iS t H z N) (BM:H z.lM=some (.lst (ms.map V.ref))) (k:Keeps [z.dN,z.lM] H H') (gN:H' z.dN=some (.dK (lX (cA N++[a])))) (gM:H' z.lM=some (.lst ((ms++[x']).map V.ref)))
  (gx:H' x'=some (.ins t.dD dx' (eO (.ref dp') (.ref lb') (.ref le')))) (gp:H' dp'=some (.dK [])) (gb:H' lb'=some (.lst [])) (ge:H' le'=some (.lst [])) (fp:H dp'=none) (fb:H lb'=none) (fe:H le'=none) (Yv:lb'≠le'):iS t H' z { N with machines:=N.machines++[⟨a,[],[]⟩] }:=by
 obtain⟨Mo,hMo,hC,hS,hN,ho,hml,n1,n2,n3⟩:∃Mo,(∀x∈z.M0,x∈Mo)/\H z.dC=some (.dK (lX N.clocks))/\H z.dS=some (.dK (lX N.signals))/\H z.dN=some (.dK (lX (cA N)))/\wo H Mo z.a=some (.ins t.fN z.dx (fL (.ref z.dC) (.ref z.dS) (.ref z.dN) (.ref z.lM)))/\ms.length=N.machines.length/\z.dC≠z.dS/\z.dC≠z.dN/\z.dS≠z.dN:=by
  rcases h with⟨e,h⟩|⟨l,h⟩
  ·refine⟨z.M0,λx hx=>hx,h.hC,h.hS,h.hN,h.ob,?_,h.n1,h.n2,h.n3⟩;have:=h.hM;rw[BM]at this;injection this with this
   injection this with this
   have:=congrArg jT this;simp at this;rw[e,this];rfl
  ·refine⟨z.M1 l,λx hx=>?_,h.c.hC,h.c.hS,h.c.hN,h.c.ob,?_,h.c.n1,h.c.n2,h.c.n3⟩
   ·simp only[Tz.M0,Tz.M1,ah,aF,or_false]at hx⊢;rcases hx with h|h|h|h<;>simp[h]
   ·have:=h.c.hM;rw[BM]at this;injection this with this
    injection this with this
    have:=congrArg jT this;rw[<-h.c.ml];simpa using this
 let l':La:=⟨ms,x',dx',dp',lb',le',[],[],N.machines,⟨a,[],[]⟩⟩
 have hM':∀Mx:List Addr,(∀x∈z.M0,x∈Mx)->∀x∈z.M1 l',x∈Mx\/H x=none:=λMx hx x hm=>by
  simp only[Tz.M1,ah,aF,or_false]at hm;rcases hm with h|h|h|h|h|h|h
  ·exact .inl (hx x (by simp[Tz.M0,h]))
  ·exact .inl (hx x (by simp[Tz.M0,h]))
  ·exact .inl (hx x (by simp[Tz.M0,h]))
  ·exact .inl (hx x (by simp[Tz.M0,h]))
  ·exact .inr (by rw[h];exact fp)
  ·exact .inr (by rw[h];exact fb)
  ·exact .inr (by rw[h];exact fe)
 have hLM:∀Mx:List Addr,(∀x∈z.M0,x∈Mx)->∀x∈[z.dN,z.lM],x∈Mx:=λMx hx x hm=>by
  simp only[ah,aF,or_false]at hm;rcases hm with h|h
  ·exact hx x (by simp[Tz.M0,h])
  ·exact hx x (by simp[Tz.M0,h])
 have kw:Keeps [] (wo H Mo) (wo H' (z.M1 l')):=KW k (hLM Mo hMo) (hM' Mo hMo);have nCM:z.dC∉[z.dN,z.lM]:=by simp only[ah,aF,or_false,not_or];exact⟨n2,aK hC BM nofun⟩
 have nSM:z.dS∉[z.dN,z.lM]:=by simp only[ah,aF,or_false,not_or];exact⟨n3,aK hS BM nofun⟩
 have gC:=k.kp _ _ hC nCM;have gS:=k.kp _ _ hS nSM;refine .inr ⟨l',rfl,⟨kw.up ho,gC,gS,?_,gM,by simp[l',hml],n1,n2,n3⟩,?_,bE.mpr ⟨?_,gx⟩,gp,gb,ge,⟨rfl,rfl,λj b p h1=>by simp[l']at h1,λj b p h1=>by simp[l']at h1⟩,(a6 hC fp).symm,(a6 hS fp).symm,(a6 hN fp).symm,(a6 BM fb).symm,(a6 BM fe).symm,Yv⟩
 ·rw[gN];simp[cA]
 ·intro i y m' h1 h2;have h1:ms[i]?=some y:=h1;have h2:N.machines[i]?=some m':=h2;rcases h with⟨e,h⟩|⟨l,h⟩
  ·rw[e]at h2;simp at h2
  ·have hM1:∀x∈z.M0,x∈z.M1 l:=λx hx=>by
    simp only[Tz.M0,Tz.M1,ah,aF,or_false]at hx⊢;rcases hx with h|h|h|h<;>simp[h]
   have Yz:Keeps [] (wo H (z.M1 l)) (wo H' (z.M1 l')):=KW k (hLM _ hM1) (hM' _ hM1);have ems:ms=l.mi++[l.x]:=by
    have:=h.c.hM;rw[BM]at this;injection this with this
    injection this with this
    exact yu (λx y z=>by injection z) |>.mp this
   rw[ems]at h1;rw[h.e]at h2;by_cases hi:i<l.mi.length
   ·rw[aO hi]at h1;rw[aO (by rw[<-h.len];exact hi)]at h2;exact(h.pr i y m' h1 h2).up Yz
   ·rw[aM (by omega)]at h1;rw[aM (by rw[<-h.len];omega),<-h.len]at h2
    match e:i-l.mi.length,h1,h2 with
    | 0,h1,h2 =>
     cases h1;cases h2;have ei:i=l.init.length:=by rw[<-h.len];omega
     rw[ei];have up1:∀(b:Addr) (o:HO),H b=some o->b≠z.dC->b≠z.dS->b≠z.dN->b≠z.lM->wo H' (z.M1 l') b=some o:=λb o hb a1 a2 a3 a4=>by
      refine bE.mpr ⟨λhm=>?_,k.kp b o hb (by simp[a3,a4])⟩;simp only[Tz.M1,ah,aF,or_false]at hm;rcases hm with h|h|h|h|h|h|h
      ·exact a1 h
      ·exact a2 h
      ·exact a3 h
      ·exact a4 h
      ·rw[h]at hb;exact absurd (hb.symm.trans fp) nofun
      ·rw[h]at hb;exact absurd (hb.symm.trans fb) nofun
      ·rw[h]at hb;exact absurd (hb.symm.trans fe) nofun
     refine⟨l.dxx,l.dp,l.lb,l.le,l.bs,l.es,Yz.up h.lx,⟨up1 _ _ h.hp h.n4 h.n5 h.n6 (aK h.hp BM nofun),up1 _ _ h.hb (aK h.hb hC nofun) (aK h.hb hS nofun) (aK h.hb hN nofun) h.n7,up1 _ _ h.he (aK h.he hC nofun) (aK h.he hS nofun) (aK h.he hN nofun) h.n8⟩,h.lf.up Yz⟩
    | j+1,h1,_=>simp at h1
 ·intro hm;simp only[Tz.M1,ah,aF,or_false]at hm;rcases hm with h|h|h|h|h|h|h
  ·exact aK gx gC nofun h
  ·exact aK gx gS nofun h
  ·exact aK gx gN nofun h
  ·exact aK gx gM nofun h
  ·exact aK gx gp nofun h
  ·exact aK gx gb nofun h
  ·exact aK gx ge nofun h
end
section
variable {P:Program}{w:World}{K:aa}{mg:Str->Option Value}{base:Heap}{t:cT}
def Ub (t:cT) (Q:VK) (z:Tz) (N:Net) (ws:List Bytes):Prop:=(∀N' H',Md16.line N ws=some N'->iS t H' z N'->Q (.bl true) H')/\(Md16.line N ws=none->∀H',Q (.bl false) H')
def CJ (t:cT):Sp:=λvs H Q _=>∃(z:Tz) (N:Net) (lw:Addr) (r:List Bytes),vs=[.ref z.a,.ref lw]/\iS t H z N/\NOk N/\H lw=some (.lst (cW (bA "machine" :: r)))/\(∀w∈r,C2 w)/\Ub t Q z N (bA "machine" :: r)
theorem Ca (T:Txt K mg t):vm P w K mg base 3 "take_machine" ["told", "words"] (CJ t):=by
 obtain⟨f,fd,F,M⟩:=T.um;refine⟨f,fd,F.ok Ao (λvs H Q E h=>?_) (λgw A outer s H vs Q E hr h=>?_),M,F.kp,F.binds (λ_ _ _ _ _ _ us hl=>match us,hl with|[_,_],_=>rfl)⟩
 ·obtain⟨z,N,lw,r,rfl,_⟩:=h;rfl
 obtain⟨z,N,lw,r,rfl,h⟩:=h;have hu:=cF hr;refine⟨_,(aj (cS (PW.pt (qt (br (Bv hu) (aV (pv 0) rfl) (c9 aC) (bN _)) (mU (br (Dz hu) (aV (dw dq (aV (pv 0) rfl) (sM pb bf) (λ_ _=>rfl)) rfl) jo (bN _))))) (aD (bj jq)) bL) (aj (cS (PW.pt (qN (br Pw (bT cO rfl T.eY dR (ag (pv 1) aC)) bf (bN _)) (rM (qu (i7 (eG (uQ T) (hr.mono (by decide)) rfl (ag (aV (pv 0) rfl) (ag (b9 T.gJ rfl) (ag (dw dq (pv 1) bf (λ_ _=>rfl)) aC))))))))) (aD (bj jq)) bL) (aj (d7 (lI bc bq bp eZ (aV (pv 0) rfl) (ag (JC (Cd T) (hr.mono (by decide)) rfl) aC))) (aD (bj jq))))),?_⟩;obtain⟨hT,no,hw,df,q1,q2⟩:=h;have ho:=hT.ob;rw[rT]at q1 q2;have yx:(cW (bA "machine" :: r)).length=r.length+1:=by simp[cW]
 push_cast[ho,T.cN];intro p hp;generalize e1:upd H p _=H1;obtain⟨g1,k1⟩:=al e1 hp;have hT0:=hT;rcases hT0 with⟨e,h⟩|⟨l,h⟩
 ·have hle:dQ N=false:=by unfold dQ;rw[e];rfl
  obtain⟨ms,BM,hml,hN⟩:∃ms:List Addr,H z.lM=some (.lst (ms.map V.ref))/\ms.length=N.machines.length/\H z.dN=some (.dK (lX (cA N))):=⟨[],h.hM,h.ml,h.hN⟩;push_cast[k1.up h.hM,if_true,cn,jZ,bR,aE,if_false];have kc:=k1;push_cast[kc.up ho,kc.up hw,yx,T.cN,aE,if_false]
  match r,q1,q2,df,hw,yx with
  | [],q1,q2,df,hw,yx =>
   rw[if_pos (by decide)];exact q2 rfl _
  | a::b::r',q1,q2,df,hw,yx =>
   rw[if_pos (by simp;omega)];exact q2 rfl _
  | [a],q1,q2,df,hw,yx =>
   rw[if_neg (by simp)];have i1:nB (cW [bA "machine",a]) 1=some (V.str (stx a)):=de (j:=1) rfl;push_cast[kc.up ho,kc.up hw,i1,T.cN];have eA:(N.machines.any λm=>m.name==a)=(cA N).contains a:=by
    unfold cA;rw[bQ,cx,aS,aH];exact⟨λ⟨x,h1,h2⟩=>⟨x,h1,eq_of_beq h2⟩,λ⟨x,h1,h2⟩=>⟨x,h1,beq_iff_eq.mpr h2⟩⟩
   have Yw:(cA N).length=N.machines.length:=by simp[cA]
   have nml:=no.ml;dsimp only at q1 q2;rw[eA]at q1 q2;refine⟨z.dN,cA N,3,a,rfl,kc.up hN,df a (by simp),by omega,λhn H3 h3 k3=>?_,λhn=>?_⟩
   ·unfold newName at hn;rw[aU,aU,jk,decide_eq_true_eq,Yw]at hn;have QE:sI a=true/\¬(cA N).contains a=true/\dQ N=false/\N.machines.length<3:=⟨hn.1,by rw[hn.2.1];exact nofun,hle,hn.2.2⟩;rw[if_pos QE]at q1;have Td:Keeps [z.dN] H H3:=kc.any.trans k3;have o3:=Td.bM ho (aK ho hN nofun);have m3:=Td.bM BM (aK BM hN nofun);push_cast[bR,aE,if_false,o3,m3,T.cN];intro x' dx' nx nd nn;generalize e4:upd (upd H3 dx' _) x' _=H4;obtain⟨g4,k4⟩:=N0 e4 nx nd nn;refine⟨x',dx',rfl,g4,λdp lb le H5 g5 gp gb ge fp fb fe Yv k5=>⟨rfl,?_⟩⟩;have Fl:Keeps [] H3 H5:=k4.drop k5 (by simpa using nx);refine⟨_,Fl.up m3,by rw[ax];simp only[sizeLine];omega,?_⟩;generalize e6:upd H5 z.lM _=H6;obtain⟨g6,k6⟩:=wr e6;have LF:∀y,H4 y=none->H y=none:=λy hy=>Td.gr _ (k4.gr _ hy)
    refine q1 _ H6 rfl (T1.new (ms:=ms) (x':=x') (dx':=dx') (dp':=dp) (lb':=lb) (le':=le) hT BM ((Td.mono (by simp)).trans (Fl.any.trans (k6.mono (by simp)))) ?_ ?_ ?_ ?_ ?_ ?_ (LF _ fp) (LF _ fb) (LF _ fe) Yv)
    ·exact k6.bM (Fl.up h3) (aK (Fl.up h3) (Fl.up m3) nofun)
    ·rw[g6];simp
    ·exact k6.bM g5 (aK g5 (Fl.up m3) nofun)
    ·exact k6.bM gp (aK gp (Fl.up m3) nofun)
    ·exact k6.bM gb (a6 BM (LF _ fb)).symm
    ·exact k6.bM ge (a6 BM (LF _ fe)).symm
   ·push_cast[bH,if_true];refine q2 (if_neg λhc=>?_) _;unfold newName at hn;rw[hc.1,bz.mpr hc.2.1,Yw,decide_eq_true hc.2.2.2]at hn;cases hn
 ·obtain⟨ms,BM,hml,hN⟩:∃ms:List Addr,H z.lM=some (.lst (ms.map V.ref))/\ms.length=N.machines.length/\H z.dN=some (.dK (lX (cA N))):=⟨_,h.c.hM,h.c.ml,h.c.hN⟩;have em:((l.mi++[l.x]).map V.ref).isEmpty=false:=by simp
  have el:nB ((l.mi++[l.x]).map V.ref) (-1)=some (V.ref l.x):=by rw[bo];exact yi _ _
  push_cast[k1.up h.c.hM,em,el,k1.up ho,k1.up (cG.up h.lx),T.cN,T.eN,if_true,bH];intro p2 Ka;generalize e2:upd H1 p2 _=H2;obtain⟨g2,k2⟩:=al e2 Ka;have Qe:=k1.trans k2;push_cast[Qe.up h.hp,g2];have eg:N.machines.getLast?=some l.m:=by rw[h.e];simp
  have ep:(lX (pNames l.m)).isEmpty=l.m.places.isEmpty:=by
   unfold lX pNames;cases l.m.places<;>rfl
  rw[ep];cases Iu:l.m.places.isEmpty with
  | true =>
   simp only[if_true];refine q2 ?_ _;have hle:dQ N=true:=by unfold dQ;rw[eg];exact Iu
   match r with
   | []=>rfl
   | [a]=>exact if_neg λhc=>by rw[hle]at hc;exact absurd hc.2.2.1 (by decide)
   | _::_::_=>rfl
  | false =>
   have hle:dQ N=false:=by unfold dQ;rw[eg];exact Iu
   have kc:=Qe;push_cast[kc.up ho,kc.up hw,yx,T.cN,aE,if_false]
   match r,q1,q2,df,hw,yx with
   | [],q1,q2,df,hw,yx =>
    rw[if_pos (by decide)];exact q2 rfl _
   | a::b::r',q1,q2,df,hw,yx =>
    rw[if_pos (by simp;omega)];exact q2 rfl _
   | [a],q1,q2,df,hw,yx =>
    rw[if_neg (by simp)];have i1:nB (cW [bA "machine",a]) 1=some (V.str (stx a)):=de (j:=1) rfl;push_cast[kc.up ho,kc.up hw,i1,T.cN];have eA:(N.machines.any λm=>m.name==a)=(cA N).contains a:=by
     unfold cA;rw[bQ,cx,aS,aH];exact⟨λ⟨x,h1,h2⟩=>⟨x,h1,eq_of_beq h2⟩,λ⟨x,h1,h2⟩=>⟨x,h1,beq_iff_eq.mpr h2⟩⟩
    have Yw:(cA N).length=N.machines.length:=by simp[cA]
    have nml:=no.ml;dsimp only at q1 q2;rw[eA]at q1 q2;refine⟨z.dN,cA N,3,a,rfl,kc.up hN,df a (by simp),by omega,λhn H3 h3 k3=>?_,λhn=>?_⟩
    ·unfold newName at hn;rw[aU,aU,jk,decide_eq_true_eq,Yw]at hn;have QE:sI a=true/\¬(cA N).contains a=true/\dQ N=false/\N.machines.length<3:=⟨hn.1,by rw[hn.2.1];exact nofun,hle,hn.2.2⟩;rw[if_pos QE]at q1;have Td:Keeps [z.dN] H H3:=kc.any.trans k3;have o3:=Td.bM ho (aK ho hN nofun);have m3:=Td.bM BM (aK BM hN nofun);push_cast[bR,aE,if_false,o3,m3,T.cN];intro x' dx' nx nd nn;generalize e4:upd (upd H3 dx' _) x' _=H4;obtain⟨g4,k4⟩:=N0 e4 nx nd nn;refine⟨x',dx',rfl,g4,λdp lb le H5 g5 gp gb ge fp fb fe Yv k5=>⟨rfl,?_⟩⟩;have Fl:Keeps [] H3 H5:=k4.drop k5 (by simpa using nx);refine⟨_,Fl.up m3,by rw[ax];simp only[sizeLine];omega,?_⟩;generalize e6:upd H5 z.lM _=H6;obtain⟨g6,k6⟩:=wr e6;have LF:∀y,H4 y=none->H y=none:=λy hy=>Td.gr _ (k4.gr _ hy)
     refine q1 _ H6 rfl (T1.new (ms:=ms) (x':=x') (dx':=dx') (dp':=dp) (lb':=lb) (le':=le) hT BM ((Td.mono (by simp)).trans (Fl.any.trans (k6.mono (by simp)))) ?_ ?_ ?_ ?_ ?_ ?_ (LF _ fp) (LF _ fb) (LF _ fe) Yv)
     ·exact k6.bM (Fl.up h3) (aK (Fl.up h3) (Fl.up m3) nofun)
     ·rw[g6];simp
     ·exact k6.bM g5 (aK g5 (Fl.up m3) nofun)
     ·exact k6.bM gp (aK gp (Fl.up m3) nofun)
     ·exact k6.bM gb (a6 BM (LF _ fb)).symm
     ·exact k6.bM ge (a6 BM (LF _ fe)).symm
    ·push_cast[bH,if_true];refine q2 (if_neg λhc=>?_) _;unfold newName at hn;rw[hc.1,bz.mpr hc.2.1,Yw,decide_eq_true hc.2.2.2]at hn;cases hn
end
section
variable {t:cT}{H H':Hp}{z:Tz}{N:Net}{l:La}
theorem T1.fresh (h:T1 t H z N l){y:Addr}(hy:H y=none):y∉z.M1 l:=λhm=>by
 simp only[Tz.M1,ah,aF,or_false]at hm;rcases hm with e|e|e|e|e|e|e
 ·rw[e,h.c.hC]at hy;cases hy
 ·rw[e,h.c.hS]at hy;cases hy
 ·rw[e,h.c.hN]at hy;cases hy
 ·rw[e,h.c.hM]at hy;cases hy
 ·rw[e,h.hp]at hy;cases hy
 ·rw[e,h.hb]at hy;cases hy
 ·rw[e,h.he]at hy;cases hy
theorem DX {M:List Addr}{b dxb lo hi:Addr}{nc:Nat}{bs:List Bound}(hB:cq t H b nc bs) (hb:H b=some (.ins t.cK dxb (cQ (.ref lo) (.ref hi)))) (n1:b∉M) (n2:lo∉M) (n3:hi∉M):cq t (wo H M) b nc bs:=by
 obtain⟨h1,h2,h3⟩:=hB.at_ hb;exact⟨dxb,lo,hi,bE.mpr ⟨n1,hb⟩,bE.mpr ⟨n2,h1⟩,bE.mpr ⟨n3,h2⟩,h3⟩
theorem T1.last (h:T1 t H z N l):N.machines.getLast?=some l.m/\N.machines.dropLast=l.init:=by rw[h.e];simp
theorem T1.place (h:T1 t H z N l){a:Bytes}{NI:List Bound}{b dxb lo hi:Addr}(k:Keeps [l.dp,l.lb] H H') (gp:H' l.dp=some (.dK (lX (pNames l.m++[a])))) (gb:H' l.lb=some (.lst ((l.bs++[b]).map V.ref)))
  (hB:cq t H' b N.clocks.length NI) (hb:H' b=some (.ins t.cK dxb (cQ (.ref lo) (.ref hi)))) (f1:H b=none) (f2:H lo=none) (f3:H hi=none) :
  T1 t H' z (ka N l.m a NI) { l with bs:=l.bs++[b],m:={ l.m with places:=l.m.places++[(a,NI)] } }:=by
 have kw:Keeps [] (wo H (z.M1 l)) (wo H' (z.M1 l)):=(k.mono (M':=z.M1 l) (by simp[Tz.M1])).wo;have eM:z.M1 { l with bs:=l.bs++[b],m:={ l.m with places:=l.m.places++[(a,NI)] } }=z.M1 l:=rfl;have hd:=h.last.2;have nk:∀(x:Addr) (o:HO),H x=some o->x≠l.dp->x≠l.lb->H' x=some o:=λx o hx a1 a2=>k.kp x o hx (by simp[a1,a2])
 have UE:cA (ka N l.m a NI)=cA N:=by
  unfold cA ka;rw[hd,h.e];simp
 refine⟨by unfold ka;rw[hd],⟨?_,?_,?_,?_,?_,?_,h.c.n1,h.c.n2,h.c.n3⟩,λi y m' h1 h2=>(h.pr i y m' h1 h2).up kw,kw.up h.lx,?_,gb,?_,⟨?_,?_,?_,?_⟩,h.n4,h.n5,h.n6,h.n7,h.n8,h.n9⟩
 ·exact kw.up h.c.ob
 ·exact nk _ _ h.c.hC h.n4.symm (aK h.c.hC h.hb nofun)
 ·exact nk _ _ h.c.hS h.n5.symm (aK h.c.hS h.hb nofun)
 ·rw[UE];exact nk _ _ h.c.hN h.n6.symm (aK h.c.hN h.hb nofun)
 ·exact nk _ _ h.c.hM (aK h.c.hM h.hp nofun) h.n7.symm
 ·have:=h.c.ml;unfold ka;rw[hd];rw[h.e]at this;simpa using this
 ·rw[gp];simp[pNames]
 ·exact nk _ _ h.he (aK h.he h.hp nofun) h.n9.symm
 ·simp[h.lf.bl]
 ·exact h.lf.el
 ·intro j b' p' h1 h2;have h1:(l.bs++[b])[j]?=some b':=h1;have h2:(l.m.places++[(a,NI)])[j]?=some p':=h2;by_cases hj:j<l.bs.length
  ·rw[aO hj]at h1;rw[aO (by rw[<-h.lf.bl];exact hj)]at h2;exact(h.lf.ba j b' p' h1 h2).up kw
  ·rw[aM (by omega)]at h1;rw[aM (by rw[<-h.lf.bl];omega),<-h.lf.bl]at h2
   match e:j-l.bs.length,h1,h2 with
   | 0,h1,h2 =>
    cases h1;cases h2;exact DX hB hb (h.fresh f1) (h.fresh f2) (h.fresh f3)
   | i+1,h1,_=>simp at h1
 ·intro j b' e' h1 h2;exact(h.lf.ea j b' e' h1 h2).up kw
theorem T1.edge (h:T1 t H z N l){ed:Edge}{e dxe b dxb lo hi ls:Addr}(k:Keeps [l.le] H H') (ge:H' l.le=some (.lst ((l.es++[e]).map V.ref)))
  (hE:H' e=some (.ins t.fD dxe (dr (.int (l.init.length:Nat)) (.int (l.m.edges.length:Nat)) (.int ed.from_) (.int ed.to_) (.ref b) (.ref ls) (.int (sN ed.meet)) (.int (m6 ed.meet))))) (hB:cq t H' b N.clocks.length ed.when_) (hb:H' b=some (.ins t.cK dxb (cQ (.ref lo) (.ref hi))))
  (hl:H' ls=some (.lst (BL ed.sets))) (f0:H e=none) (f1:H b=none) (f2:H lo=none) (f3:H hi=none) (f4:H ls=none) :
  T1 t H' z (addEdge N l.m ed) { l with es:=l.es++[e],m:={ l.m with edges:=l.m.edges++[ed] } }:=by
 have kw:Keeps [] (wo H (z.M1 l)) (wo H' (z.M1 l)):=(k.mono (M':=z.M1 l) (by simp[Tz.M1])).wo;have hd:=h.last.2;have nk:∀(x:Addr) (o:HO),H x=some o->x≠l.le->H' x=some o:=λx o hx a1=>k.bM hx a1
 have UE:cA (addEdge N l.m ed)=cA N:=by
  unfold cA addEdge;rw[hd,h.e];simp
 refine⟨by unfold addEdge;rw[hd],⟨?_,?_,?_,?_,?_,?_,h.c.n1,h.c.n2,h.c.n3⟩,λi y m' h1 h2=>(h.pr i y m' h1 h2).up kw,kw.up h.lx,?_,?_,ge,⟨?_,?_,?_,?_⟩,h.n4,h.n5,h.n6,h.n7,h.n8,h.n9⟩
 ·exact kw.up h.c.ob
 ·exact nk _ _ h.c.hC (aK h.c.hC h.he nofun)
 ·exact nk _ _ h.c.hS (aK h.c.hS h.he nofun)
 ·rw[UE];exact nk _ _ h.c.hN (aK h.c.hN h.he nofun)
 ·exact nk _ _ h.c.hM h.n8.symm
 ·have:=h.c.ml;unfold addEdge;rw[hd];rw[h.e]at this;simpa using this
 ·exact nk _ _ h.hp (aK h.hp h.he nofun)
 ·exact nk _ _ h.hb h.n9
 ·exact h.lf.bl
 ·simp[h.lf.el]
 ·intro j b' p' h1 h2;exact(h.lf.ba j b' p' h1 h2).up kw
 ·intro j b' e' h1 h2;have h1:(l.es++[e])[j]?=some b':=h1;have h2:(l.m.edges++[ed])[j]?=some e':=h2;by_cases hj:j<l.es.length
  ·rw[aO hj]at h1;rw[aO (by rw[<-h.lf.el];exact hj)]at h2;exact(h.lf.ea j b' e' h1 h2).up kw
  ·rw[aM (by omega)]at h1;rw[aM (by rw[<-h.lf.el];omega),<-h.lf.el]at h2
   match e0:j-l.es.length,h1,h2 with
   | 0,h1,h2 =>
    cases h1;cases h2;have ej:j=l.m.edges.length:=by rw[<-h.lf.el];omega
    rw[ej];exact⟨dxe,b,ls,bE.mpr ⟨h.fresh f0,hE⟩,DX hB hb (h.fresh f1) (h.fresh f2) (h.fresh f3),bE.mpr ⟨h.fresh f4,hl⟩⟩
   | i+1,h1,_=>simp at h1
theorem Gz {ws:List Bytes}(hw:ws≠[]){xs:List Addr}:HO.lst (cW ws)≠HO.lst (xs.map V.ref):=λe=>by
 injection e with e
 cases ws with
 | nil=>exact hw rfl
 | cons a r=>cases xs<;>cases e
end
section
variable {P:Program}{w:World}{K:aa}{mg:Str->Option Value}{base:Heap}{t:cT}
def GH (t:cT):Sp:=λvs H Q _=>∃(z:Tz) (N:Net) (l:La) (lw:Addr) (r:List Bytes),vs=[.ref z.a,.ref l.x,.ref lw]/\T1 t H z N l/\NOk N/\H lw=some (.lst (cW (bA "place" :: r)))/\(∀w∈bA "place" :: r,C2 w)/\Ub t Q z N (bA "place" :: r)
theorem FK (T:Txt K mg t):vm P w K mg base 4 "take_place" ["told", "machine", "words"] (GH t):=by
 obtain⟨f,fd,F,M⟩:=T.xP;refine⟨f,fd,F.ok vH (λvs H Q E h=>?_) (λgw A outer s H vs Q E hr h=>?_),M,F.kp,F.binds (λ_ _ _ _ _ _ us hl=>match us,hl with|[_,_,_],_=>rfl)⟩
 ·obtain⟨z,N,l,lw,r,rfl,_⟩:=h;rfl
 obtain⟨z,N,l,lw,r,rfl,h⟩:=h;have hu:=cF hr;refine⟨_,(aj (cS (PW.pt (qN (br nZ (bT cO rfl T.eY dR (ag (pv 2) aC)) bf (bN _)) (rM (qu (i7 (eG (uQ T) (hr.mono (by decide)) rfl (ag (aV (pv 1) rfl) (ag (b9 T.iY rfl) (ag (dw dq (pv 2) bf (λ_ _=>rfl)) aC))))))))) (aD (bj jq)) bL) (aj (bO (i:=3) vH.nd rfl (aX rfl) (nL (qi T) (hr.mono (by decide)) (pv 0))) (aj (d7 (lI bc bq bp eZ (aV (pv 1) rfl) (ag (pv 3) aC))) (aD (bj (rO j3 (eG (vY T) (hr.mono (by decide)) rfl (ag (pv 0) (ag (pv 3) (ag (pv 2) (ag bf aC))))) (bT cO rfl T.eY dR (ag (pv 2) aC)) (bN _))))))),?_⟩;obtain⟨hT,no,hw,df,q1,q2⟩:=h;have Wn:iS t H z N:=.inr ⟨l,hT⟩;have ho:=Wn.ob;rw[rR,hT.last.1]at q1 q2;have hx:=cG.up hT.lx;have yx:(cW (bA "place" :: r)).length=r.length+1:=by simp[cW]
 push_cast[hw,yx,hx,T.eN];cases r with
 | nil =>
  rw[if_pos (by decide)];exact q2 rfl _
 | cons a r =>
  rw[if_neg (by simp;omega)];have i1:nB (cW (bA "place" :: a::r)) 1=some (V.str (stx a)):=de (j:=1) rfl;have mo:=no.mo l.m (by rw[hT.e];simp);have pl:(pNames l.m).length=l.m.places.length:=by simp[pNames]
  have mpl:=mo.pl;push_cast[hw,hx,i1,T.eN];have eA:(l.m.places.any λp=>p.1==a)=(pNames l.m).contains a:=by
   unfold pNames;rw[bQ,cx,aS,aH];exact⟨λ⟨x,h1,h2⟩=>⟨x,h1,eq_of_beq h2⟩,λ⟨x,h1,h2⟩=>⟨x,h1,beq_iff_eq.mpr h2⟩⟩
  dsimp only at q1 q2;rw[eA]at q1 q2;refine⟨l.dp,pNames l.m,8,a,rfl,hT.hp,df a (by simp),by omega,λhn H1 h1 k1=>?_,λhn=>?_⟩
  ·unfold newName at hn;rw[aU,aU,jk,decide_eq_true_eq,pl]at hn;have o1:=k1.bM ho (aK ho hT.hp nofun);have x1:=k1.bM hx (aK hx hT.hp nofun);have c1:=k1.bM hT.c.hC hT.n4.symm;have b1:=k1.bM hT.hb (aK hT.hb hT.hp nofun);push_cast[bR,aE,if_false,o1,T.cN];have VL:=no.cl;refine⟨z.a,z.dx,z.dC,_,_,_,lX N.clocks,rfl,o1,c1,by rw[xE];exact VL,λb dxb lo hi H2 f1 f2 f3 hb hB k2=>?_⟩;rw[xE]at hB;have b2:=k2.up b1;have bl:(l.bs.map V.ref).length<sizeLine:=by rw[ax,hT.lf.bl];simp only[sizeLine];omega
   push_cast[k2.up x1,b2,bl,T.eN];generalize e3:upd H2 l.lb _=H3;obtain⟨g3,k3⟩:=wr e3;have Hh:Keeps [l.dp,l.lb] H H3:=((k1.mono (by simp)).trans k2.any).trans (k3.mono (by simp));have nw:lw≠l.lb:=aK hw hT.hb (Gz (by simp));have w3:=Hh.kp _ _ hw (by simp[nw,aK hw hT.hp nofun]);have o3:=Hh.kp _ _ ho (by simp[aK ho hT.hp nofun,aK ho hT.hb nofun]);have c3:=Hh.kp _ _ hT.c.hC (by simp[hT.n4.symm,aK hT.c.hC hT.hb nofun]);have s3:=Hh.kp _ _ hT.c.hS (by simp[hT.n5.symm,aK hT.c.hS hT.hb nofun]);have bl3:=k1.gr _ f1;have hb3:=k3.bM hb (aK hb b2 nofun);have hB3:cq t H3 b N.clocks.length []:=by
    obtain⟨l1,l2,l3⟩:=hB.at_ hb;exact⟨dxb,lo,hi,hb3,k3.bM l1 (a6 b1 f2).symm,k3.bM l2 (a6 b1 f3).symm,l3⟩
   refine⟨z.a,z.dC,z.dS,lw,b,dxb,lo,hi,N.clocks,N.signals,_,[],2,rfl,⟨⟨z.dx,_,_,o3⟩,c3,s3,no.Q5,w3,df⟩,by simp,hb3,hB3,λH4 hB4 hb4 hR4 k4=>?_⟩;push_cast[hR4.hw,yx];have ed:(bA "place" :: a::r).drop 2=r:=rfl;rw[ed]at hB4⊢;have h4p:H4 l.dp=some (.dK (lX (pNames l.m++[a]))):=by
    have p3:H3 l.dp=some (.dK (lX (pNames l.m++[a]))):=k3.bM (k2.up h1) (aK (k2.up h1) b2 nofun);refine k4.kp _ _ p3 ?_;simp only[ah,aF,or_false,not_or];exact⟨a6 h1 f2,a6 h1 f3⟩
   have h4b:H4 l.lb=some (.lst ((l.bs++[b]).map V.ref)):=by
    have:H3 l.lb=some (.lst ((l.bs++[b]).map V.ref)):=by rw[g3];simp
    refine k4.kp _ _ this ?_;simp only[ah,aF,or_false,not_or];exact⟨a6 b1 f2,a6 b1 f3⟩
   have vd:Keeps [l.dp,l.lb] H H4:=Hh.qY k4 λx hx=>by
    simp only[ah,aF,or_false]at hx;rcases hx with h|h
    ·exact .inr (by rw[h];exact k1.gr _ f2)
    ·exact .inr (by rw[h];exact k1.gr _ f3)
   have hT4:=hT.place vd h4p h4b hB4 hb4 (k1.gr _ f1) (k1.gr _ f2) (k1.gr _ f3);by_cases uh:(dZ N.clocks r).2=[]
   ·rw[uh];rw[if_pos ⟨hn.1,by rw[hn.2.1];exact nofun,hn.2.2,uh⟩]at q1;have:decide ((((bA "place" :: a::r).length-([]:List Bytes).length:Nat):Int)=(((a::r).length+1:Nat):Int))=true:=by simp
    rw[this];exact q1 _ H4 rfl (.inr ⟨_,hT4⟩)
   ·have hlen:0<(dZ N.clocks r).2.length:=kb.mpr uh;have:decide ((((bA "place" :: a::r).length-(dZ N.clocks r).2.length:Nat):Int)=(((a::r).length+1:Nat):Int))=false:=by
     refine decide_eq_false λz=>?_
     simp only[ay]at z;omega
    rw[this];exact q2 (if_neg λhc=>uh hc.2.2.2) _
  ·push_cast[bH,if_true];refine q2 (if_neg λhc=>?_) _;unfold newName at hn;rw[hc.1,bz.mpr hc.2.1,pl,decide_eq_true hc.2.2.1]at hn;cases hn
end
theorem Dq (cs:List Bytes):∀l:List Bytes,∃pre,l=pre++(dZ cs l).2
 | []=>⟨[],rfl⟩
 | w::l=>by
  rw[dZ];cases nt cs w with
  | none=>exact⟨[],rfl⟩
  | some b =>
   obtain⟨p,h⟩:=Dq cs l;exact⟨w::p,by dsimp only;rw[dy,<-h]⟩
theorem Dp (cs:List Bytes):∀l:List Bytes,∃pre,l=pre++(gy cs l).2
 | []=>⟨[],rfl⟩
 | w::l=>by
  rw[gy];by_cases h:cs.contains w=true
  ·rw[if_pos h];obtain⟨p,h⟩:=Dp cs l;exact⟨w::p,by dsimp only;rw[dy,<-h]⟩
  ·rw[if_neg h];exact⟨[],rfl⟩
theorem Mb (N:Net) (l:List Bytes):∃pre,l=pre++(gm N l).2:=by
 cases l with
 | nil=>exact⟨[],rfl⟩
 | cons w r =>
  by_cases h:w=bA "when"
  ·rw[qJ h];obtain⟨p,h⟩:=Dq N.clocks r;exact⟨w::p,by rw[dy,<-h]⟩
  ·rw[tN h];exact⟨[],rfl⟩
theorem O3 (N:Net) (l:List Bytes):∃pre,l=pre++(lY N l).2:=by
 cases l with
 | nil=>exact⟨[],rfl⟩
 | cons w r =>
  by_cases h:w=bA "set"
  ·rw[tS h];obtain⟨p,h⟩:=Dp N.clocks r;exact⟨w::p,by rw[dy,<-h]⟩
  ·rw[xp h];exact⟨[],rfl⟩
theorem MZ (N:Net) (l:List Bytes):(gz N l).2.length<=l.length:=by
 match l with
 | []=>exact aQ _
 | [w]=>exact aQ _
 | w::s::r =>
  by_cases h:N.signals.contains s=true
  ·by_cases h1:w=bA "give"
   ·rw[mB h h1];simp;omega
   ·by_cases h2:w=bA "take"
    ·rw[mz h h1 h2];simp;omega
    ·rw[kD h h1 h2];exact aQ _
  ·rw[pq h];exact aQ _
theorem HA {ws pre rest:List Bytes}{i:Nat}(h:ws.drop i=pre++rest):ws.drop (ws.length-rest.length)=rest/\rest.length<=ws.length:=by
 have hl:=congrArg jT h;rw[cD,aJ]at hl;have e:ws=(ws.take i++pre)++rest:=by rw[cE,<-h,fB]
 have hle:rest.length<=ws.length:=by omega
 refine⟨?_,hle⟩;have Ga:(ws.take i++pre).length=ws.length-rest.length:=by
  have:=congrArg jT e;rw[aJ]at this;omega
 rw[<-Ga];generalize ws.take i++pre=q at e;rw[e];exact vv
section
variable {P:Program}{w:World}{K:aa}{mg:Str->Option Value}{base:Heap}{t:cT}
def Jj (t:cT):Sp:=λvs H Q _=>∃(z:Tz) (N:Net) (l:La) (lw:Addr) (r:List Bytes),vs=[.ref z.a,.ref l.x,.ref lw]/\T1 t H z N l/\NOk N/\H lw=some (.lst (cW (bA "edge" :: r)))/\(∀w∈bA "edge" :: r,C2 w)/\r.length<=4900/\Ub t Q z N (bA "edge" :: r)
set_option maxHeartbeats 1000000 in
theorem HK (T:Txt K mg t):vm P w K mg base 5 "take_edge" ["told", "machine", "words"] (Jj t):=by
 obtain⟨f,fd,F,M⟩:=T.zQ;refine⟨f,fd,F.ok iH (λvs H Q E h=>?_) (λgw A outer s H vs Q E hr h=>?_),M,F.kp,F.binds (λ_ _ _ _ _ _ us hl=>match us,hl with|[_,_,_],_=>rfl)⟩
 ·obtain⟨z,N,l,lw,r,rfl,_⟩:=h;rfl
 obtain⟨z,N,l,lw,r,rfl,h⟩:=h;have hu:=cF hr;refine⟨_,(aj (cS (PW.pt (qN (br nZ (bT cO rfl T.eY dR (ag (pv 2) aC)) bf (bN _)) (qN (nJ (iJ hu (dw dq (pv 2) bf (λ_ _=>rfl)) (aV (pv 1) rfl))) (rM (nJ (iJ hu (dw dq (pv 2) bf (λ_ _=>rfl)) (aV (pv 1) rfl))))))) (aD (bj jq)) bL) (aj (cS (br Px (bT cO rfl T.eY dR (ag (aV (pv 1) rfl) aC)) (b9 T.jK rfl) (bN _)) (aD (bj jq)) bL) (aj (bO (i:=3) iH.nd rfl (aX rfl) (lH hu (aV (pv 1) rfl) (dw dq (pv 2) bf (λ_ _=>rfl)) (λ_ _=>rfl))) (aj (bO (i:=4) iH.nd rfl (aX rfl) (lH hu (aV (pv 1) rfl) (dw dq (pv 2) bf (λ_ _=>rfl)) (λ_ _=>rfl))) (aj (bO (i:=5) iH.nd rfl (aX rfl) (vK (HS T) (hr.mono (by decide)) rfl (ag (eF EZ (bT cO rfl T.eY dR (ag (aV (pv 0) rfl) aC)) bf) (ag (bT cO rfl T.eY dR (ag (aV (pv 1) rfl) aC)) (ag (pv 3) (ag (pv 4) (ag (nL (qi T) (hr.mono (by decide)) (pv 0)) aC))))))) (aj (d7 (lI bc bq bp eZ (aV (pv 1) rfl) (ag (pv 5) aC))) (aj (bO (i:=6) iH.nd rfl (aX rfl) (eG (HH T) (hr.mono (by decide)) rfl (ag (pv 0) (ag (pv 5) (ag (pv 2) (ag bf aC)))))) (aj (bO (i:=6) iH.nd rfl (aX rfl) (eG (HI T) (hr.mono (by decide)) rfl (ag (pv 0) (ag (pv 5) (ag (pv 2) (ag (pv 6) aC)))))) (aj (bO (i:=6) iH.nd rfl (aX rfl) (eG (B9 T) (hr.mono (by decide)) rfl (ag (pv 0) (ag (pv 5) (ag (pv 2) (ag (pv 6) aC)))))) (aD (bj (rO j3 (pv 6) (bT cO rfl T.eY dR (ag (pv 2) aC)) (bN _))))))))))))),?_⟩;obtain⟨hT,no,hw,df,YL,q1,q2⟩:=h;have Wn:iS t H z N:=.inr ⟨l,hT⟩;have ho:=Wn.ob;rw[u7 no,hT.last.1]at q1 q2;have hx:=cG.up hT.lx;have yx:(cW (bA "edge" :: r)).length=r.length+1:=by simp[cW]
 push_cast[hw,yx,hx,T.eN]
 match r,q1,q2,df,hw,yx,YL with
 | [],q1,q2,df,hw,yx,YL =>
  rw[if_pos (by decide)];exact q2 rfl _
 | [x],q1,q2,df,hw,yx,YL =>
  rw[if_pos (by simp)];exact q2 rfl _
 | a::b::r,q1,q2,df,hw,yx,YL =>
  rw[if_neg (by simp;omega)];have i1:nB (cW (bA "edge" :: a::b::r)) 1=some (V.str (stx a)):=de (j:=1) rfl;have i2:nB (cW (bA "edge" :: a::b::r)) 2=some (V.str (stx b)):=de (j:=2) rfl;have mo:=no.mo l.m (by rw[hT.e];simp);dsimp only at q1 q2;have epn:l.m.places.map (·.1)=pNames l.m:=rfl;rw[epn]at q1 q2;push_cast[hw,hx,i1,i2,hT.hp,lK,T.eN,if_true];by_cases ha:(pNames l.m).contains a=true
  ·by_cases hb:(pNames l.m).contains b=true
   ·rw[ha,hb];simp only[bR,aE,if_false];have va:eQ (lX (pNames l.m)) (fi (stx a))=some (V.int ((pNames l.m).idxOf a:Nat)):=by rw[lJ,if_pos ha]
    have vb:eQ (lX (pNames l.m)) (fi (stx b))=some (V.int ((pNames l.m).idxOf b:Nat)):=by rw[lJ,if_pos hb]
    have el:(l.es.map V.ref).length=l.m.edges.length:=by rw[ax,hT.lf.el]
    have ml2:((l.mi++[l.x]).map V.ref).length=l.init.length+1:=by simp[hT.len]
    push_cast[hw,hx,ho,i1,i2,hT.hp,hT.he,hT.c.hM,va,vb,el,ml2,T.eN,T.cN];by_cases h16:l.m.edges.length<16
    ·rw[if_neg (by simp;omega)];rw[show(((l.init.length+1:Nat):Int))-1=((l.init.length:Nat):Int) by omega];have VL:=no.cl;refine⟨z.a,z.dx,z.dC,_,_,_,lX N.clocks,rfl,ho,hT.c.hC,by rw[xE];exact VL,λbd dxb lo hi H2 f1 f2 f3 Tv hB k2=>?_⟩;rw[xE]at hB;intro e dxe ne nd nn;generalize e3:upd (upd H2 dxe _) e _=H3;obtain⟨g3,k3⟩:=N0 e3 ne nd nn;refine⟨e,dxe,l.init.length,l.m.edges.length,(pNames l.m).idxOf a,(pNames l.m).idxOf b,bd,rfl,g3,λls H4 g4 gl4 f4 k4=>⟨rfl,?_⟩⟩;have V0:Keeps [] H2 H4:=k3.drop k4 (by simpa using ne);have vd:=k2.trans V0;have fe:H e=none:=k2.gr _ ne;have WB:H2 ls=none:=k3.gr _ f4;have he4:=vd.up hT.he;have el2:(l.es.map V.ref).length<sizeLine:=by rw[el];simp only[sizeLine];omega
     push_cast[vd.up hx,he4,el2,T.eN];generalize e5:upd H4 l.le _=H5;obtain⟨g5,k5⟩:=wr e5;have J5:Keeps [l.le] H H5:=vd.any.trans k5;have nw:lw≠l.le:=aK hw hT.he (Gz (by simp));have w5:=J5.bM hw nw;have o5:=J5.bM ho (aK ho hT.he nofun);have c5:=J5.bM hT.c.hC (aK hT.c.hC hT.he nofun);have s5:=J5.bM hT.c.hS (aK hT.c.hS hT.he nofun);have RP:=k5.bM g4 (aK g4 he4 nofun);have b5:=k5.bM (V0.up Tv) (aK (V0.up Tv) he4 nofun);have nlo:lo≠l.le:=(a6 hT.he f2).symm;have nhi:hi≠l.le:=(a6 hT.he f3).symm;have Ys:ls≠l.le:=(a6 hT.he (k2.gr _ WB)).symm;have hB5:cq t H5 bd N.clocks.length []:=by
      obtain⟨l1,l2,l3⟩:=hB.at_ Tv;exact⟨dxb,lo,hi,b5,k5.bM (V0.up l1) nlo,k5.bM (V0.up l2) nhi,l3⟩
     have l5:=k5.bM gl4 Ys;have R5:Iz t H5 z.a z.dC z.dS lw N.clocks N.signals (bA "edge" :: a::b::r):=⟨⟨z.dx,_,_,o5⟩,c5,s5,no.Q5,w5,df⟩;generalize Tg:bA "edge" :: a::b::r=ws at R5;have hd3:ws.drop 3=r:=by rw[<-Tg];rfl
     have V9:ws.length=r.length+3:=by rw[<-Tg];rfl
     obtain⟨p1,s1⟩:=Mb N r;obtain⟨d1,m1⟩:=HA (ws:=ws) (i:=3) (by rw[hd3];exact s1);obtain⟨p2,s2⟩:=O3 N (gm N r).2;obtain⟨d2,m2⟩:=HA (ws:=ws) (by rw[d1];exact s2);have m3:=MZ N (lY N (gm N r).2).2;obtain⟨b51,b52,b53⟩:=hB5.at_ b5;refine⟨z.a,z.dC,z.dS,lw,e,dxe,bd,dxb,lo,hi,_,_,_,_,_,_,_,N,ws,3,rfl,R5,by omega,RP,b5,hB5,λH6 hB6 R6 k6=>?_⟩;rw[hd3]at hB6⊢;have e6:=k6.kp _ _ RP (by simp[aK RP b51 nofun,aK RP b52 nofun]);have b6:=k6.kp _ _ b5 (by simp[aK b5 b51 nofun,aK b5 b52 nofun]);have nl1:ls≠lo:=λq=>by
      obtain⟨l1,_,_⟩:=hB.at_ Tv;rw[q,l1]at WB;cases WB
     have nl2:ls≠hi:=λq=>by
      obtain⟨_,l1,_⟩:=hB.at_ Tv;rw[q,l1]at WB;cases WB
     have l6:=k6.kp _ _ l5 (by simp[nl1,nl2]);have le6:=k6.kp _ _ g5 (by simp[nlo.symm,nhi.symm]);refine⟨z.a,z.dC,z.dS,lw,e,dxe,ls,_,_,_,_,_,_,_,N,ws,_,rfl,R6,by omega,by simp only[ay]at YL;omega,e6,l6,λH7 l7 R7 k7=>?_⟩;rw[d1]at l7⊢;have e7:=k7.bM e6 (aK e6 l6 nofun);have b7:=k7.bM b6 (aK b6 l6 nofun);have le7:=k7.bM le6 Ys.symm;obtain⟨b61,b62,b63⟩:=hB6.at_ b6;have hB7:cq t H7 bd N.clocks.length (gm N r).1:=⟨dxb,lo,hi,b7,k7.bM b61 nl1.symm,k7.bM b62 nl2.symm,b63⟩;refine⟨z.a,z.dC,z.dS,lw,e,dxe,_,_,_,_,_,_,N,ws,_,rfl,R7,by omega,e7,λH8 e8 k8=>?_⟩;rw[d2]at e8⊢;have ne1:∀{y:Addr}{xs:List V},H7 y=some (.lst xs)->y≠e:=λhy=>aK hy e7 nofun
     have b8:=k8.bM b7 (Fc b7 e7 (by simp[cQ,dr]));obtain⟨b71,b72,b73⟩:=hB7.at_ b7;have hB8:cq t H8 bd N.clocks.length (gm N r).1:=⟨dxb,lo,hi,b8,k8.bM b71 (ne1 b71),k8.bM b72 (ne1 b72),b73⟩;have l8:=k8.bM l7 (ne1 l7);have le8:=k8.bM le7 (ne1 le7);have w8:=k8.bM R7.hw (ne1 R7.hw);have aak:(cW ws).length=ws.length:=by simp[cW]
     push_cast[w8,aak];by_cases uh:(gz N (lY N (gm N r).2).2).2=[]
     ·have k08:Keeps [l.le] H H8:=by
       refine(((J5.qY k6 λx hx=>?_).qY k7 λx hx=>?_).qY k8 λx hx=>?_)
       ·simp only[ah,aF,or_false]at hx;rcases hx with h|h
        ·exact .inr (by rw[h];exact f2)
        ·exact .inr (by rw[h];exact f3)
       ·rw[aL]at hx;exact .inr (by rw[hx];exact k2.gr _ WB)
       ·rw[aL]at hx;exact .inr (by rw[hx];exact fe)
      have hT8:=hT.edge (ed:=⟨rN l.m a,rN l.m b,(gm N r).1,(lY N (gm N r).2).1,(gz N (lY N (gm N r).2).2).1⟩) (e:=e) (dxe:=dxe) (b:=bd) (dxb:=dxb) (lo:=lo) (hi:=hi) (ls:=ls) k08 (by rw[le8];simp) e8 hB8 b8 l8 fe f1 f2 f3 (k2.gr _ WB);rw[if_pos ⟨ha,hb,h16,uh⟩]at q1;rw[uh];simp only[bI,XT,decide_true];exact q1 _ H8 rfl (.inr ⟨_,hT8⟩)
     ·have hlen:0<(gz N (lY N (gm N r).2).2).2.length:=kb.mpr uh;have:decide (((ws.length-(gz N (lY N (gm N r).2).2).2.length:Nat):Int)=((ws.length:Nat):Int))=false:=by
       refine decide_eq_false λz=>?_
       omega
      rw[this];exact q2 (if_neg λhc=>uh hc.2.2.2) _
    ·rw[if_pos (by simp;omega)];exact q2 (if_neg λhc=>h16 hc.2.2.1) _
   ·rw[ha,bz.mpr hb];simp only[bR,bH,aE,if_false,if_true];exact q2 (if_neg λhc=>hb hc.2.1) _
  ·rw[bz.mpr ha];simp only[bH,if_true];exact q2 (if_neg λhc=>ha hc.1) _
end
open AutoSeq1 (wpAny_loadPart')
set_option maxHeartbeats 2000000 in
theorem Nu (l:Addr) (items:Array Value) (n:Nat) (dct:Option Addr) (sl:Array (Option Value)) (tk:Tok) :
  Meets (Builtin.«enumerate.__new__» ⟨[.type "enumerate",.ref l],[("start",.int 1 tk)]⟩) (λ_ R s=>s.heap.get? l=some { cls:=.type "list",dict:=dct,data:=.seq items n,slots:=sl } /\
   R (.ok (.ret (.ref (s.heap.push { cls:=.type "list_iterator",data:=.fields #[.ref l,.int 0 0] }).objs.size)))
    { s with heap:=(s.heap.push { cls:=.type "list_iterator",data:=.fields #[.ref l,.int 0 0] }).push { cls:=.type "enumerate",data:=.fields #[.none,.bool false,.ref s.heap.objs.size,rawInt 1,.none,.none] } }) :=
 .of_wp λprog w A R s h=>by
  obtain⟨hp,g,d,tk',os⟩:=s;obtain⟨hl,h⟩:=h;have We:=sub_enumerate;have hL:Heap.IsList (Shared.heap ⟨hp,g,d,tk',os⟩) l items:=⟨_,hl,rfl,n,rfl⟩
  wp_walk using wpAny_loadPart' hl
  refine wpAny_stack_any λst=>wpAny_pure ?_
  split
  ·rename_i c _ _ _ _ _
   cases (c==Value.type "enumerate")
   ·wp_walk using wpAny_loadPart' hl,wpAny_pyIter_list hL
    exact⟨_,rfl,h⟩
   ·wp_walk using wpAny_loadPart' hl,wpAny_pyIter_list hL
    exact⟨_,rfl,h⟩
  ·wp_walk using wpAny_loadPart' hl,wpAny_pyIter_list hL
   exact⟨_,rfl,h⟩
theorem A1 (a b:Value):checkTypeCall "enumerate" ⟨[a],[("start",b)]⟩=pure ():=by kernel_rfl
theorem CQ (a b:Value):checkBuiltinCall "enumerate.__new__" ⟨[.type "enumerate",a],[("start",b)]⟩=pure ():=by kernel_rfl
theorem MV {T newId:String}{self a b:Value}(hl:typeLookup (.type T) "__init__" = pure (some (.builtin "object.__init__"))) (hm:Bind.madeBy (.type T)=pure (some newId)) (rm:(some newId != some "object.__new__")=true) :
  Meets (Builtin.«object.__init__» ⟨[self,a],[("start",b)]⟩) (λ_ R s=>s.TypeIs self T/\R (.ok (.ret .none)) s):=by
 refine Meets.of_wp λprog w A R s hs=>?_
 obtain⟨hT,hq⟩:=hs
 repeat (any_goals (first|assumption|wp_step))
 exact⟨_,rfl,hq⟩
section
variable {prog:Program}{w:World}{A:Around}{E:Value->Shared->Prop}{s:Shared}
theorem Ck (x a b:Value):argsOk "object.__init__" ⟨[x,a],[("start",b)]⟩:=by
 unfold argsOk;rw[signature?_of (id := "object.__init__") (n:=['_', '_', 't', 'i', 'n', 'i', '_', '_']) (o:=['t', 'c', 'e', 'j', 'b', 'o']) (by kernel_rfl) F.owner_object];kernel_rfl
theorem Kr {l:Addr}{items:Array Value}{tk:Tok}{Q:Value->Shared->Prop}(hL:s.heap.IsList l items)
  (h:∀h',IsEnum h' (s.heap.objs.size+1) s.heap.objs.size 1 .none->h'.IsListIter s.heap.objs.size l 0->h'.objs.size=s.heap.objs.size+2 ->
   (∀b o,s.heap.get? b=some o->h'.get? b=some o)->Q (.ref (s.heap.objs.size+1)) { s with heap:=h' }) :
  wpAny (model prog w) A (call (.type "enumerate") [.ref l] [("start",.int 1 tk)]) Q E s:=by
 obtain⟨⟨c,dct,dt,sl⟩,hl,hc,n,hd⟩:=hL
 replace hc:c = .type "list":=hc
 replace hd:dt = .seq items n:=hd
 subst hc hd;have ft:=F.called_enumerate;have aaN:(s.heap.get? l=some { cls:=.type "list",dict:=dct,data:=.seq items n,slots:=sl }/\(wants (λobj cV=>cV.TypeIs obj "enumerate" /\ Q obj cV) E) (.ok (.ret (.ref (s.heap.push { cls:=.type "list_iterator",data:=.fields #[.ref l,.int 0 0] }).objs.size)))
    { s with heap:=(s.heap.push { cls:=.type "list_iterator",data:=.fields #[.ref l,.int 0 0] }).push { cls:=.type "enumerate",data:=.fields #[.none,.bool false,.ref s.heap.objs.size,rawInt 1,.none,.none] } }):=by
  refine⟨hl,?_⟩;have hz:(s.heap.push { cls:=.type "list_iterator",data:=.fields #[.ref l,.int 0 0] }).objs.size=s.heap.objs.size+1:=Heap.size_push ..;show _/\_;rw[hz];have he:IsEnum ((s.heap.push { cls:=.type "list_iterator",data:=.fields #[.ref l,.int 0 0] }).push
    { cls:=.type "enumerate",data:=.fields #[.none,.bool false,.ref s.heap.objs.size,rawInt 1,.none,.none] }) (s.heap.objs.size+1) s.heap.objs.size 1 .none:=by
   have:=Heap.get?_push_size (s.heap.push { cls:=.type "list_iterator",data:=.fields #[.ref l,.int 0 0] })
    (o:={ cls:=.type "enumerate",data:=.fields #[.none,.bool false,.ref s.heap.objs.size,rawInt 1,.none,.none] }) rfl
   rw[hz]at this;exact this
  exact⟨⟨_,he,rfl⟩,h _ he ⟨_,Heap.get?_push_of_some _ (Heap.get?_push_size _ rfl),rfl,rfl⟩ (by rw[Heap.size_push,hz]) λb o x=>Heap.get?_push_of_some _ (Heap.get?_push_of_some _ x)⟩
 obtain⟨c,tl,abb⟩:=ft.mro;have aa7:=ft.made;have We:=ft.sub;have hct:=A1 (.ref l) (.int 1 tk);refine wpAny_call (codeAny_of_tree ?_);show wpAny _ _ (callAny (.type "enumerate") _) _ _ _;refine wpAny_pure ⟨Code.quiet_builtin _ (by decide +kernel),codeAny_builtin F.entry_type_call ?_⟩;rw[Around.under_plain (weight_type_call_type "enumerate" [.ref l] [("start",.int 1 tk)]) (units_type_call_type "enumerate" [.ref l] [("start",.int 1 tk)])];have h1:=ft.notType;have h2:=ft.canCreate
 repeat (any_goals (first|assumption|wp_step))
 refine codeAny_mono (codeAny_call_builtin ft.plain F.entry_enumerate_new (wpAny_of_eq (CQ (.ref l) (.int 1 tk)) (Nu l items n dct sl tk prog w A.in1 _ s aaN))) λr cV hr=>?_
 cases r with
 | error e=>exact hr
 | ok fl =>
  cases fl with
  | ret obj =>
   obtain⟨hT,hq⟩:=hr;have r6:=ft.init.lookup;have hbi:=ft.init.bind obj
   repeat (any_goals (first|assumption|wp_step))
   refine codeAny_mono (codeAny_call_builtin ft.init.plain F.entry_object_init (ft.init.check _ _ _ _ _ _ _ _ hT (Ck obj _ _) (MV ft.init.lookup ft.made (by decide) prog w A.in1 (wants (λr mq=>r = .none/\Q obj mq) E) cV ⟨hT,rfl,hq⟩))) λaaa mq Qv=>?_
   cases aaa with
   | error e=>exact Qv
   | ok Zi =>
    cases Zi with
    | ret r =>
     obtain⟨rfl,hq⟩:=Qv
     repeat (any_goals (first|assumption|wp_step))
    | _=>exact Qv.elim
  | _=>exact hr.elim
end
theorem CP {prog:Program}{w:World}{A:Around}{E:Value->Shared->Prop}{s:Shared}{e it l:Addr}{i:Nat}{c:Int}{items:Array Value}{old:Value}{Q:Option Value->Shared->Prop}(hh:A.handled=none)
  (he:IsEnum s.heap e it c old) (hit:s.heap.IsListIter it l i) (hl:s.heap.IsList l items) (hx:items[i]?=none)
  (hQ:∀h',Heap.ExtBut it s.heap h'->Q none { s with heap:=h' }):wpAny (model prog w) A (pyNext (.ref e)) Q E s:=by
 have hT:s.TypeIs (.ref e) "enumerate":=⟨_,he,rfl⟩;unfold pyNext;refine wpAny_bind (wpAny_attempt (wpAny_callSpecial?_slot (name:=Str.ofString "__next__") hT F.slot_enumerate_next
  (wpAny_call_entry F.slot_enumerate_next hT F.entry_enumerate_next ?_ (F.args_enumerate_next_1 _))))
 show wpAny _ _ (field (.ref e) 2 >>= _) _ _ _;refine wpAny_bind (wpAny_field he rfl (x:=.ref it) rfl ?_);refine wpAny_bind (wpAny_nextOf_list_end hh hit hl hx λh' x Wk hx'=>?_);obtain⟨o,ho,hc⟩:=hx';refine wpAny_bind (wpAny_isInstance (T := "StopIteration") (b:=true) ⟨o,ho,hc⟩ isSubtype_stop ?_);exact wpAny_pure (hQ _ Wk)
theorem WH {prog:Program}{w:World}{A:Around}(hh:A.handled=none) (it l:Addr) (rm:l≠it) (items:Array Value) :
  Draws prog w A it [it,l] (items.size+1) (λi v=>1<=i/\items[i-1]?=some v) (λi h=>1<=i/\h.IsListIter it l (i-1)/\h.IsList l items) where
 live:=λ_ _ st=>let ⟨o,ho,_⟩:=st.2.1;⟨o,ho⟩
 frame:=λ_ _ _ st hk=>⟨st.1,st.2.1.at λo e=>hk it (by simp) o e,st.2.2.at λo e=>hk l (by simp) o e⟩
 item:=λi s Q E hi st hQ=>by
  have h1:=st.1;have N8:i-1<items.size:=by omega
  refine wpAny_nextOf_list_item st.2.1 st.2.2 (x:=items[i-1]) (by simp[N8]) λh' Kb hs'=>?_
  rw[show i-1+1=i+1-1 by omega]at Kb;exact hQ _ h' s.toks ⟨h1,by simp[N8]⟩ ⟨by omega,Kb,st.2.2.extBut hs'.extBut rm⟩ hs'
 done:=λs Q E st hE=>wpAny_nextOf_list_end hh st.2.1 st.2.2 (by simp) hE
def W3 (K:aa) (a:Addr):It :=
 ⟨λi H=>∃(xs:List V) (x:V),dO K H a xs/\xs[i]?=some x,λi H v H'=>∃T x,v = .ref T/\H T=none/\H'=upd H T (.tup [.int ((i+1:Nat):Int),x])/\∀xs,dO K H a xs->xs[i]?=some x,λi H=>∃xs:List V,dO K H a xs/\xs.length<=i⟩
theorem IM {P:Program}{w:World}{K:aa}{elts:List Expr}{kk:Nat}{Ag:Pos}(a e it:Addr) :
  Turn P w K (.Tuple elts kk Ag) (W3 K a) [e,it] e (λi h=>(∃old,IsEnum h e it ((i+1:Nat):Int) old)/\h.IsListIter it a i/\e≠it) where
 mem:=by simp
 obj:=λi h st b hb=>by
  obtain⟨⟨old,he⟩,⟨o,ho,hc,hd⟩,_⟩:=st;have e':b=e\/b=it:=by simpa using hb
  rcases e' with z|z
  ·rw[z];exact⟨_,he,λv q=>nomatch q⟩
  ·rw[z];exact⟨o,ho,λv q=>by rw[hd]at q;cases q⟩
 keep:=λi h h' st k=>let ⟨⟨old,he⟩,hi,rm⟩:=st;⟨⟨old,k e (by simp) _ he⟩,hi.at λo q=>k it (by simp) o q,rm⟩
 item:=by
  intro X hP hw hK hc i pins s σ H E I hf st hg;subst hP hw hK;obtain⟨⟨old,he⟩,hit,rm⟩:=st;obtain⟨xs,x,hq,hx⟩:=hg;obtain⟨cC,rv,p,hz⟩:=I.list hq;obtain⟨u,hu,ru⟩:=rv.get hx;have hel:e<s.heap.objs.size:=Heap.lt_size he;have RF:it<s.heap.objs.size:=by obtain⟨_,q,_⟩:=hit;exact Heap.lt_size q
  have pL:=p.isList;have hai:a≠it:=λz=>by
   obtain⟨o1,h1,c1,_⟩:=pL;obtain⟨o2,h2,c2,_⟩:=hit;rw[z]at h1;rw[h1]at h2;cases h2;rw[c1]at c2;injection c2 with c2
   exact absurd c2 (by decide)
  have hea:e≠a:=λz=>by
   obtain⟨o1,h1,c1,_⟩:=pL;rw[<-z,he]at h1;cases h1;injection c1 with c1
   exact absurd c1 (by decide)
  have aaK:i<cC.length:=(aw.mp hu).1;refine wpAny_pyNext_enum_itemD (i:=i+1) (WH (prog:=X.prog) (w:=X.w) (A:=X.A.in1) (I.ok.hd hc) it a hai cC.toArray) he ⟨by omega,by simpa using hit,pL⟩ (by simp;exact aaK) rm (by simp[rm,hea]) λu' h' tk hP ho aay hT hsz hk=>?_
  have eu:u'=u:=by
   have:=hP.2;rw[show i+1-1=i by omega]at this;have h2:cC.toArray[i]?=some u:=by simpa using hu
   rw[h2]at this;cases this;rfl
  subst eu;have Kb:h'.IsListIter it a (i+1):=by
   have:=aay.2.1;rw[show i+1+1-1=i+1 by omega]at this;exact this
  refine⟨_,rfl,wpAny_letOwnedTupleGo_enum (s:={ s with heap:=h',toks:=tk+1 }) ho λUQ Wk sb=>?_⟩;have Y7:UQ.get? s.heap.objs.size=some { cls:=.type "tuple",data:=.seq #[.int ((i+1:Nat):Int) tk,u'] }:=(sb.2 _ (IB hel)).trans hT;have new:gB X.prog X.w (upd H s.heap.objs.size (.tup [.int ((i+1:Nat):Int),x])) UQ s.heap.objs.size (.tup [.int ((i+1:Nat):Int),x]) :=
   ⟨by show 2<=sizeLine;decide,[.int ((i+1:Nat):Int) tk,u'],.cons ⟨_,rfl⟩ (.cons ru .nil),⟨_,Y7,rfl,_,rfl⟩⟩
  have I1:Inv X pins σ (upd H s.heap.objs.size (.tup [.int ((i+1:Nat):Int),x])) { s with heap:=UQ,toks:=tk+1 } :=
   I.Dk (ch:=[e,it]) (λb ob hb q=>(sb.2 b (λz=>hb (by simp[z]))).trans (hk b ob (λz=>hb (by simp[z])) (λz=>hb (by simp[z])) q)) hf (aQ _) new
  refine⟨.ref s.heap.objs.size,_,I1,rfl,⟨_,x,rfl,I.df.fresh (aQ _),rfl,λys hy=>by rw[I.uc hy hq];exact hx⟩,⟨⟨u',?_⟩,Kb.at λo q=>(sb.2 it (rn rm)).trans q,rm⟩,λb hb=>?_⟩
  ·have e1:((i+1+1:Nat):Int)=((i+1:Nat):Int)+1:=by omega
   rw[e1];exact Wk
  ·have Nl:b<s.heap.objs.size:=by
    have e':b=e\/b=it:=by simpa using hb
    rcases e' with z|z
    ·rw[z];exact hel
    ·rw[z];exact RF
   rw[cv (cI Nl)];exact(hf b hb).1
 done:=by
  intro X hP hw hK hc i pins s σ H E I hf st hg;subst hP hw hK;obtain⟨⟨old,he⟩,hit,rm⟩:=st;obtain⟨xs,hq,hx⟩:=hg;obtain⟨cC,rv,p,hz⟩:=I.list hq;obtain⟨f0,f1,f2,f3,f4,f5⟩:=hf it (by simp);have hl:=rv.length;have pL:=p.isList;exact CP (I.ok.hd hc) he hit pL (by simp;omega) λh' eb=>⟨rfl,I.turned (t':=s.toks) (λb o hb q=>eb b o hb q) f0 f1 f3 f4 f5⟩
 self:=λA i s Q E st h=>let ⟨⟨_,he⟩,_⟩:=st;wpAny_pyIter_enum he h
theorem FJ {M:Model}{A:Around}{E:Value->Shared->Prop}{s:Shared}{env:Env}{pos:Pos}{T:String}{e:Expr}{rest:List Expr}{Xk:List Keyword}{Q:Value->Shared->Prop}
  (h:wpAny M A (spliced (backTo pos (starEach (e::rest) env))) (λvs cV=>wpAny M A (evalAll ((backToKw pos (keywordEach Xk env)).map (·.2)))
   (λbD mq=>wpAny M A (call (.type T) vs (((backToKw pos (keywordEach Xk env)).filterMap (·.1)).zip bD)) Q E mq) E cV) E s)
  (he:backTo pos (starEach (e::rest) env)=(false,eval e env)::backTo pos (starEach rest env):=by rfl)
  (J8:(backTo pos (starEach (e::rest) env)).any (·.1)=false:=by rfl)
  (r9:(backToKw pos (keywordEach Xk env)).all (·.1.isSome)=true:=by rfl)
  (hkw:(backToKw pos (keywordEach Xk env)).any (·.1.isNone)=false:=by rfl) :
  wpAny M A (callWith pos (.type T) [] (backTo pos (starEach (e::rest) env)) (backToKw pos (keywordEach Xk env))) Q E s:=by
 unfold callWith;have h2:wpAny M A (evalArgs (.type T) true (backTo pos (starEach (e::rest) env)) (backToKw pos (keywordEach Xk env))) (λa cV=>wpAny M A (call (.type T) ([]++a.pos) a.kw) Q E cV) E s:=by
  rw[he]at h⊢;exact evalArgs_kwB r9 h
 refine wpAny_bind (wpAny_holding (wpAny_mono h2 (λa cV Hj=>wpAny_bind (wpAny_standAt ?_)) λ_ _ x=>x));simp only[J8,hkw,kK];refine wpAny_bind (wpAny_pure ?_);exact wpAny_bind (wpAny_mono Hj (λr mq hr=>wpAny_bind (wpAny_holding (wpAny_point (wpAny_pure hr)))) λ_ _ x=>x)
def Qr (K:aa) (ta:TA):TI:=λσ H R=>ta σ H λvs H1=>∃a xs,vs=[.ref a]/\dO K H1 a xs/\R (W3 K a) H1
theorem T3:bootBuiltins "enumerate" = some (.type "enumerate"):=by decide +kernel
theorem Pg {X:Cx}{e:Expr}{ta:TA}{p pos Ag VU V4:Pos}{elts:List Expr}{kk ix:Nat}(hg:Gl X "enumerate") (hm:X.mg "enumerate" = none) (ha:PA X [e] ta)
  (he:backTo pos (starEach [e] X.env)=(false,eval e X.env)::backTo pos (starEach [] X.env):=by rfl) (AJ:(backTo pos (starEach [e] X.env)).any (·.1)=false:=by rfl)
  (r9:(backToKw pos (keywordEach [⟨some "start",.Constant (.int 1) ix V4,VU⟩] X.env)).all (·.1.isSome)=true:=by rfl) (hkw:(backToKw pos (keywordEach [⟨some "start",.Constant (.int 1) ix V4,VU⟩] X.env)).any (·.1.isNone)=false:=by rfl) :
  PI X (.Tuple elts kk Ag) (.Call (.Name "enumerate" p) [e] [⟨some "start",.Constant (.int 1) ix V4,VU⟩] pos) (Qr X.K ta):=by
 intro pins s σ H R I h;refine wpAny_Call_Name_kw (uf I hg hm T3 (FJ (fu (ha pos pins s σ H _ I h) λus s1 ⟨vs,H1,I1,r1,q1⟩=>?_) he AJ r9 hkw));obtain⟨a,xs,ex,hq,q⟩:=q1;subst ex;refine kws_cons (fu (bf pins s1 σ H1 (λv H2=>v = .int 1/\H2=H1) I1 ⟨rfl,rfl⟩) λu s2 ⟨v,H2,I2,Xh,ev,eH⟩=>kws_nil ?_);subst ev eH;obtain⟨tk,rfl⟩:=Xh;cases r1 with
 | cons r rr =>
  cases rr;cases r;obtain⟨cC,rv,p',hz⟩:=I2.list hq;refine Kr p'.isList λh' he hit hsz hk=>wpAny_pyIter_enum he ?_
  have I3:Inv X pins σ H2 { s2 with heap:=h' }:=I2.kept (t':=s2.toks) hk;refine⟨s2.heap.objs.size+1,[s2.heap.objs.size+1,s2.heap.objs.size],_,_,H2,rfl,I3,IM a (s2.heap.objs.size+1) s2.heap.objs.size,⟨⟨.none,he⟩,hit,Nat.succ_ne_self _⟩,λb hb=>?_,q⟩;have e':b=s2.heap.objs.size+1\/b=s2.heap.objs.size:=by simpa using hb
  have hle:s2.heap.objs.size<=b:=by
   rcases e' with z|z
   ·rw[z];exact nD _ _
   ·rw[z];exact aQ _
  exact I2.Ki hle (I2.df.fresh hle)
theorem Nr {K:aa}{a:Addr}{xs:List V}{g:TG}{tb:TS}{D:Ends}{σ:L2.St}{H:Hp}(Pv:Nat->L2.St->Hp->Prop) (h0:Pv 0 σ H) (hl:∀i σ H,Pv i σ H->H a=some (.lst xs))
  (hs:∀i x σ H T H',xs[i]?=some x->Pv i σ H->H T=none->H' T=some (.tup [.int ((i+1:Nat):Int),x])->Keeps [] H H'->g (.ref T) σ H' λoj H2=>tb { D with nx:=Pv (i+1),ct:=Pv (i+1),bk:=D.nx } oj H2) (hd:∀σ H,Pv xs.length σ H->D.nx σ H):C5 (W3 K a) g tb D σ H:=by
 refine⟨λi m σ H=>m=xs.length-i/\i<=xs.length/\Pv i σ H,⟨xs.length,by simp,ck _,h0⟩,?_⟩;rintro i m σ H ⟨rfl,hi,p⟩;have q1:=hl i σ H p;by_cases hX:i<xs.length
 ·refine .inr ⟨⟨xs,xs[i],dO.of q1,ae _⟩,Pv (i+1),λfK H' p'=>⟨xs.length-(i+1),by omega,rfl,hX,p'⟩,λx H' y=>?_⟩;obtain⟨T,u,rfl,hT,rfl,h1⟩:=y;exact hs i u σ H T _ (h1 _ (dO.of q1)) p hT c0 (Keeps.refl.new hT)
 ·have e:i=xs.length:=by omega
  subst e;exact .inl ⟨⟨xs,dO.of q1,aQ _⟩,hd σ H p⟩
section
variable {t:cT}{H H':Hp}{z:Tz}{N:Net}
theorem iS.ms (h:iS t H z N):∃ms:List Addr,H z.lM=some (.lst (ms.map V.ref))/\(ms=[]↔N.machines=[])/\H z.dC=some (.dK (lX N.clocks))/\H z.dS=some (.dK (lX N.signals)):=by
 rcases h with⟨e,h⟩|⟨l,h⟩
 ·exact⟨[],h.hM,by simp[e],h.hC,h.hS⟩
 ·exact⟨_,h.c.hM,by rw[h.e];simp,h.c.hC,h.c.hS⟩
theorem iS.clock (h:iS t H z N) (hm:N.machines=[]){a:Bytes}(k:Keeps [z.dC] H H') (g:H' z.dC=some (.dK (lX (N.clocks++[a])))):iS t H' z { N with clocks:=N.clocks++[a] }:=by
 rcases h with⟨e,h⟩|⟨l,h⟩
 ·refine .inl ⟨e,⟨(k.mono (M':=z.M0) (by simp[Tz.M0])).wo.up h.ob,g,k.bM h.hS h.n1.symm,k.bM h.hN h.n2.symm,k.bM h.hM (aK h.hM h.hC nofun),h.ml,h.n1,h.n2,h.n3⟩⟩
 ·rw[h.e]at hm;simp at hm
theorem iS.Vm (h:iS t H z N) (hm:N.machines=[]){a:Bytes}(k:Keeps [z.dS] H H') (g:H' z.dS=some (.dK (lX (N.signals++[a])))):iS t H' z { N with signals:=N.signals++[a] }:=by
 rcases h with⟨e,h⟩|⟨l,h⟩
 ·refine .inl ⟨e,⟨(k.mono (M':=z.M0) (by simp[Tz.M0])).wo.up h.ob,k.bM h.hC h.n1,g,k.bM h.hN h.n3.symm,k.bM h.hM (aK h.hM h.hS nofun),h.ml,h.n1,h.n2,h.n3⟩⟩
 ·rw[h.e]at hm;simp at hm
end
section
variable {P:Program}{w:World}{K:aa}{mg:Str->Option Value}{base:Heap}{t:cT}
def Je (t:cT):Sp:=λvs H Q _=>∃(a dx:Addr),vs=[.ref a]/\H a=some (.ins t.fN dx [])/\∀(z:Tz) (H':Hp),z.a=a->iS t H' z ⟨[],[],[]⟩->Keeps [a] H H'->Q .gi H'
theorem HP (T:Txt K mg t):IA P w K mg base 1 t.fN "Told" ["self"] (Je t):=by
 obtain⟨f,fd,F,M,g⟩:=T.zW;refine⟨f,fd,F.ok EJ (λvs H Q E h=>?_) (λgw A outer s H vs Q E hr h=>?_),M,g,F.binds (λ_ _ _ _ _ _ us hl=>match us,hl with|[_],_=>rfl)⟩
 ·obtain⟨a,dx,rfl,_⟩:=h;rfl
 obtain⟨a,dx,rfl,h⟩:=h;have hu:=cF hr;refine⟨_,(aj (bW (pv 0) jo rfl) (aj (bW (pv 0) jo rfl) (aj (bW (pv 0) jo rfl) (aD (bW (pv 0) (c9 aC) rfl))))),?_⟩;obtain⟨h1,q⟩:=h;push_cast[h1,T.cN];intro p1 AK;generalize e1:upd H p1 _=H1;obtain⟨g1,k1⟩:=al e1 AK;push_cast[k1.up h1,T.cN];intro p2 Ka;generalize e2:upd H1 a _=H2 at Ka⊢;obtain⟨g2,k2⟩:=wr e2;generalize e3:upd H2 p2 _=H3;obtain⟨g3,k3⟩:=al e3 Ka;have o3:=k3.up g2;have a3:=k3.up (k2.bM g1 (aK g1 (k1.up h1) nofun));push_cast[o3,T.cN];intro p3 Lx;generalize e4:upd H3 a _=H4 at Lx⊢;obtain⟨g4,k4⟩:=wr e4;generalize e5:upd H4 p3 _=H5;obtain⟨g5,k5⟩:=al e5 Lx;have o5:=k5.up g4;have a5:=k5.up (k4.bM a3 (aK a3 o3 nofun));have b5:=k5.up (k4.bM g3 (aK g3 o3 nofun));push_cast[o5,T.cN];intro p4 RD;generalize e6:upd H5 a _=H6 at RD⊢;obtain⟨g6,k6⟩:=wr e6;generalize e7:upd H6 p4 _=H7;obtain⟨g7,k7⟩:=al e7 RD;have o7:=k7.up g6;have a7:=k7.up (k6.bM a5 (aK a5 o5 nofun));have b7:=k7.up (k6.bM b5 (aK b5 o5 nofun));have c7:=k7.up (k6.bM g5 (aK g5 o5 nofun));push_cast[o7,T.cN];generalize e8:upd H7 a _=H8;obtain⟨g8,k8⟩:=wr e8;have n1:p1≠p2:=a6 (k2.bM g1 (aK g1 (k1.up h1) nofun)) Ka;have n2:p1≠p3:=a6 (k4.bM a3 (aK a3 o3 nofun)) Lx;have n3:p2≠p3:=a6 (k4.bM g3 (aK g3 o3 nofun)) Lx;have a8:=k8.bM a7 (aK a7 o7 nofun);have b8:=k8.bM b7 (aK b7 o7 nofun);have c8:=k8.bM c7 (aK c7 o7 nofun);have d8:=k8.bM g7 (aK g7 o7 nofun);refine q ⟨a,dx,p1,p2,p3,p4⟩ H8 rfl (.inl ⟨rfl,⟨bE.mpr ⟨?_,g8⟩,a8,b8,c8,d8,rfl,n1,n2,n3⟩⟩) (((((((k1.any.trans k2).trans k3.any).trans k4).trans k5.any).trans k6).trans k7.any).trans k8);simp only[Tz.M0,ah,aF,or_false,not_or];exact⟨aK g8 a8 nofun,aK g8 b8 nofun,aK g8 c8 nofun,aK g8 d8 nofun⟩
def Ji (t:cT):Sp:=λvs H Q _=>∃(z:Tz) (N:Net) (lw:Addr) (ws:List Bytes),vs=[.ref z.a,.ref lw]/\iS t H z N/\NOk N/\H lw=some (.lst (cW ws))/\ws≠[]/\(∀w∈ws,C2 w)/\ws.length<=4900/\Ub t Q z N ws
theorem HJ (T:Txt K mg t):vm P w K mg base 6 "take_line" ["told", "words"] (Ji t):=by
 obtain⟨f,fd,F,M⟩:=T.zP;refine⟨f,fd,F.ok EH (λvs H Q E h=>?_) (λgw A outer s H vs Q E hr h=>?_),M,F.kp,F.binds (λ_ _ _ _ _ _ us hl=>match us,hl with|[_,_],_=>rfl)⟩
 ·obtain⟨z,N,lw,ws,rfl,_⟩:=h;rfl
 obtain⟨z,N,lw,ws,rfl,h⟩:=h;have hu:=cF hr;refine⟨_,(aj (cS (br j3 (dw dq (pv 1) bf (λ_ _=>rfl)) i8 (bN _)) (aD (bj (eG (yd T) (hr.mono (by decide)) rfl (ag (pv 0) (ag (aV (pv 0) rfl) (ag (b9 T.i3 rfl) (ag (pv 1) aC))))))) bL) (aj (cS (br j3 (dw dq (pv 1) bf (λ_ _=>rfl)) i8 (bN _)) (aD (bj (eG (yd T) (hr.mono (by decide)) rfl (ag (pv 0) (ag (aV (pv 0) rfl) (ag (b9 T.ik rfl) (ag (pv 1) aC))))))) bL) (aj (cS (br j3 (dw dq (pv 1) bf (λ_ _=>rfl)) i8 (bN _)) (aD (bj (eG (Ca T) (hr.mono (by decide)) rfl (ag (pv 0) (ag (pv 1) aC))))) bL) (aj (cS (br (t8 hu) (aV (pv 0) rfl) (c9 aC) (bN _)) (aD (bj jq)) bL) (aj (cS (br j3 (dw dq (pv 1) bf (λ_ _=>rfl)) i8 (bN _)) (aD (bj (eG (FK T) (hr.mono (by decide)) rfl (ag (pv 0) (ag (dw dq (aV (pv 0) rfl) (sM pb bf) (λ_ _=>rfl)) (ag (pv 1) aC)))))) bL) (aj (cS (br j3 (dw dq (pv 1) bf (λ_ _=>rfl)) i8 (bN _)) (aD (bj (eG (HK T) (hr.mono (by decide)) rfl (ag (pv 0) (ag (dw dq (aV (pv 0) rfl) (sM pb bf) (λ_ _=>rfl)) (ag (pv 1) aC)))))) bL) (aD (bj jq)))))))),?_⟩;obtain⟨hT,no,hw,rm,df,h49,hq⟩:=h;have q1:=hq.1;have q2:=hq.2;have ho:=hT.ob;obtain⟨ms,BM,UE,hC,hS⟩:=hT.ms;cases ws with
 | nil=>exact absurd rfl rm
 | cons hd r =>
  have i0:nB (cW (hd::r)) 0=some (V.str (stx hd)):=de (j:=0) rfl;have VL:=no.cl;have nsl:=no.sl;push_cast[hw,i0,xl];by_cases hc:hd=bA "clock"
  ·rw[if_pos (decide_eq_true hc)];subst hc;rw[wB]at q1 q2;push_cast[ho,T.cN];refine⟨z.a,z.dx,z.dC,z.lM,lw,_,_,_,ms,N.clocks,4,_,rfl,ho,BM,hC,hw,df,by omega,?_,?_⟩
   ·rintro⟨x,b,e,e2,hn⟩ H' b' Nl Tu k';cases e;cases Nl;unfold newName at hn;rw[aU,aU,jk,decide_eq_true_eq]at hn;have hm:=UE.mp e2;refine q1 _ H' (if_pos ⟨hn.1,by rw[hn.2.1];exact nofun,hm,hn.2.2⟩) (hT.clock hm k' Tu)
   ·intro Qy H';refine q2 ?_ H'
    match r with
    | []=>rfl
    | [a] =>
     refine if_neg λFs=>Qy ⟨_,a,rfl,UE.mpr Fs.2.2.1,?_⟩
     unfold newName;rw[Fs.1,bz.mpr Fs.2.1,decide_eq_true Fs.2.2.2];rfl
    | _::_::_=>rfl
  ·rw[if_neg (by simpa using hc)];by_cases hs:hd=bA "signal"
   ·rw[if_pos (decide_eq_true hs)];subst hs;rw[ud]at q1 q2;push_cast[ho,T.cN];refine⟨z.a,z.dx,z.dS,z.lM,lw,_,_,_,ms,N.signals,8,_,rfl,ho,BM,hS,hw,df,by omega,?_,?_⟩
    ·rintro⟨x,b,e,e2,hn⟩ H' b' Nl Tu k';cases e;cases Nl;unfold newName at hn;rw[aU,aU,jk,decide_eq_true_eq]at hn;have hm:=UE.mp e2;refine q1 _ H' (if_pos ⟨hn.1,by rw[hn.2.1];exact nofun,hm,hn.2.2⟩) (hT.Vm hm k' Tu)
    ·intro Qy H';refine q2 ?_ H'
     match r with
     | []=>rfl
     | [a] =>
      refine if_neg λFs=>Qy ⟨_,a,rfl,UE.mpr Fs.2.2.1,?_⟩
      unfold newName;rw[Fs.1,bz.mpr Fs.2.1,decide_eq_true Fs.2.2.2];rfl
     | _::_::_=>rfl
   ·rw[if_neg (by simpa using hs)];by_cases hm:hd=bA "machine"
    ·rw[if_pos (decide_eq_true hm)];subst hm;exact⟨z,N,lw,r,rfl,hT,no,hw,λw Wa=>df w (ai _ Wa),hq⟩
    ·rw[if_neg (by simpa using hm)];push_cast[ho,T.cN];intro p hp;generalize e1:upd H p _=H1;obtain⟨g1,k1⟩:=al e1 hp;have hT0:=hT;rcases hT0 with⟨e,h⟩|⟨l,h⟩
     ·push_cast[k1.up h.hM,cn,jZ,aE,if_false,if_true];refine q2 ?_ _;have eg:N.machines.getLast?=none:=by rw[e];rfl
      by_cases Nf:hd=bA "place"
      ·rw[Nf,rR,eg];cases r<;>rfl
      ·by_cases he:hd=bA "edge"
       ·rw[he,u7 no,eg]
        match r with
        | []=>rfl
        | [_]=>rfl
        | _::_::_=>rfl
       ·exact rS N r hc hs hm Nf he
     ·have em:((l.mi++[l.x]).map V.ref).isEmpty=false:=by simp
      have el:nB ((l.mi++[l.x]).map V.ref) (-1)=some (V.ref l.x):=by rw[bo];exact yi _ _
      push_cast[k1.up h.c.hM,em,aE,if_false,k1.up hw,i0,xl];by_cases Nf:hd=bA "place"
      ·rw[if_pos (decide_eq_true Nf)];subst Nf;push_cast[k1.up ho,k1.up h.c.hM,el,T.cN];exact⟨z,N,l,lw,r,rfl,h.up k1,no,k1.up hw,df,hq⟩
      ·rw[if_neg (by simpa using Nf)];by_cases he:hd=bA "edge"
       ·rw[if_pos (decide_eq_true he)];subst he;push_cast[k1.up ho,k1.up h.c.hM,el,T.cN];exact⟨z,N,l,lw,r,rfl,h.up k1,no,k1.up hw,df,by simp only[ay]at h49;omega,hq⟩
       ·rw[if_neg (by simpa using he)];exact q2 (rS N r hc hs hm Nf he) _
end
theorem Ol {b:Bytes}(hb:b.length<=4096) (hw:∀c∈b,IG c=true){v:Bytes}(hv:v∈bK 10 b):v.length<=4096/\(bG v).length<=4900/\∀w∈bG v,C2 w:=by
 obtain⟨_,h2⟩:=kL 10 b;obtain⟨h3,h4⟩:=h2 v hv;obtain⟨h5,h6⟩:=kL 32 v;refine⟨by omega,?_,λw Wa=>?_⟩
 ·have:=bS (λw:Bytes=>!w.isEmpty) (bK 32 v);unfold bG;omega
 ·unfold bG at Wa;obtain⟨h7,h8⟩:=dv.mp Wa;obtain⟨h9,h10⟩:=h6 w h7;refine⟨λz=>(by rw[z]at h8;cases h8),by omega,λc hc=>hw c (h4 c (h10 c hc))⟩
section
variable {P:Program}{w:World}{K:aa}{mg:Str->Option Value}{base:Heap}{t:cT}
def Jl (t:cT):Sp:=λvs H Q _=>∃b:Bytes,vs=[.str (stx b)]/\b.length<=4096/\(∀c∈b,IG c=true) /\
 ∀(rd dxr td:Addr) (Kw:Nat) (H':Hp),H' rd=some (.ins t.eP dxr (i4 (.int Kw) (.ref td)))->(∀N,jf b = .ok N->Kw=0/\gE t H' td N)->(∀k,jf b = .error k->Kw=k+1)->Q (.ref rd) H'
set_option maxHeartbeats 1000000 in
theorem HL (T:Txt K mg t):vm P w K mg base 8 "read_text" ["text"] (Jl t):=by
 obtain⟨f,fd,F,M⟩:=T.zR;refine⟨f,fd,F.ok lF (λvs H Q E h=>?_) (λgw A outer s H vs Q E hr h=>?_),M,F.kp,F.binds (λ_ _ _ _ _ _ us hl=>match us,hl with|[_],_=>rfl)⟩
 ·obtain⟨b,rfl,_⟩:=h;rfl
 obtain⟨b,rfl,h⟩:=h;have hu:=cF hr;refine⟨_,(aj (bO (i:=1) lF.nd rfl (aX rfl) (JC (HP T) (hr.mono (by decide)) rfl)) (aj (fU PassesOwn.never rfl (Pg rfl T.kQ (ag (G4 (pv 0) i8) aC)) (yL (n:=2) rfl (iP (cB (i:=2) lF.nd rfl (aX rfl)) (iP (cB (i:=3) lF.nd rfl (aX rfl)) uY))) (aj (bO (i:=4) lF.nd rfl (aX rfl) (eG (B8 T) (hr.mono (by decide)) rfl (ag (pv 3) aC))) (aD (cS (PW.pt (qt (br (Bv hu) (pv 4) (c9 aC) (bN _)) (mU (qu (i7 (eG (HJ T).frame (hr.mono (by decide)) rfl (ag (pv 1) (ag (pv 4) aC)))))))) (aD (bj (vK (pK T) (hr.mono (by decide)) rfl (ag (eF ku (pv 2) bf) (ag (pv 1) aC))))) bL)))) (aj (cS (PW.pt (qN (br (t8 hu) (aV (pv 1) rfl) (c9 aC) (bN _)) (rM (br (Dz hu) (aV (dw dq (aV (pv 1) rfl) (sM pb bf) (λ_ _=>rfl)) rfl) jo (bN _))))) (aD (bj (vK (pK T) (hr.mono (by decide)) rfl (ag bf (ag (pv 1) aC))))) bL) (aD (bj (vK (pK T) (hr.mono (by decide)) rfl (ag bf (ag (pv 1) aC)))))))),?_⟩;obtain⟨hb,Tg,q⟩:=h;push_cast[OL,tY,Qr];intro z0 dz nz nd nn;generalize e1:upd (upd H dz _) z0 _=H1;obtain⟨g1,k1⟩:=N0 e1 nz nd nn;refine⟨z0,dz,rfl,g1,λz H2 hza Y7 k2=>⟨rfl,?_⟩⟩;subst hza;have enl:Str.ofString "\n" = stx [10]:=lg "\n";rw[enl,Dn 10 (by decide),da];obtain⟨ss,sv⟩:=kL 10 b;refine⟨rfl,by rw[gK];simp only[sizeLine];omega,λll Ng=>?_⟩;generalize e3:upd H2 ll _=H3;obtain⟨g3,k3⟩:=al e3 Ng;have g3:H3 ll=some (.lst (cW (bK 10 b))):=g3;refine⟨_,dO.of g3,?_⟩;obtain⟨Pv,tw⟩:∃Pv:Nat->L2.St->Hp->Prop,Pv=λi σ H'=>(∃x y u,σ=[some (V.str (stx b)),some (V.ref z.a),x,y,u])/\H' ll=some (.lst (cW (bK 10 b)))/\∃N,iS t (wo H' [ll]) z N/\NOk N/\jf b=NT (((bK 10 b).map bG).drop i) (i+1) N:=⟨_,rfl⟩
 have mkR:∀(H5:Hp) (Kw:Nat) (x dx:Addr),H5 x=none->H5 dx=none->dx≠x->((∀N,jf b = .ok N->Kw=0/\gE t H5 z.a N)/\(∀k,jf b = .error k->Kw=k+1))->K8 t [V.ref x,V.int (Kw:Nat),V.ref z.a] (upd (upd H5 dx (.own x)) x (.ins t.eP dx [])) (λv H6=>v = .gi/\Q (.ref x) H6) E0:=by
  intro H5 Kw x dx nx F7 SY hh;generalize e6:upd (upd H5 dx _) x _=H6;obtain⟨g6,k6⟩:=N0 e6 nx F7 SY;refine⟨x,dx,_,_,rfl,g6,λH7 g7 k7=>⟨rfl,?_⟩⟩;exact q x dx z.a Kw H7 g7 (λN hN=>⟨(hh.1 N hN).1,(hh.1 N hN).2.up (k6.drop k7 (by simpa using nx))⟩) hh.2
 refine Nr (xs:=cW (bK 10 b)) Pv ?_ (λi σ H' p=>by rw[tw]at p;exact p.2.1) ?_ ?_
 ·rw[tw];refine⟨⟨_,_,_,rfl⟩,g3,_,Y7.up (wc k3 (by simpa using Ng)),VH,?_⟩;rw[fg];rfl
 ·intro i x σ H4 Ta H5 hx p nT gT k5;rw[tw]at p;obtain⟨⟨y1,y2,y3,rfl⟩,YX,N,Wn,no,Fo⟩:=p;obtain⟨v,hv,rfl⟩:=eI hx;obtain⟨w1,w2,w3⟩:=Ol hb Tg (aI hv);have hmw:((bK 10 b).map bG)[i]?=some (bG v):=by rw[aR,hv];rfl
  have Y2:((bK 10 b).map bG).drop i=bG v::((bK 10 b).map bG).drop (i+1):=by
   obtain⟨hi,ei⟩:=aw.mp hmw;rw[dY hi,ei]
  rw[Y2,NT]at Fo;push_cast;refine⟨_,lR.of gT,rfl,?_⟩;push_cast;refine⟨v,rfl,by omega,λlw H6 g6 n6 k6=>?_⟩;push_cast;intro p7 hp7;generalize e7:upd H6 p7 _=H7;obtain⟨g7,k7⟩:=al e7 hp7;have k47:=(k5.trans k6).trans k7;have w7:=k7.up g6;have hl7:=k47.up YX;have Y6:iS t (wo H7 [ll]) z N:=Wn.up (k47.any (M:=[ll])).wo;have nlw:lw≠ll:=λe=>by rw[e,k5.up YX]at n6;cases n6
  have els:(cW (bG v)).isEmpty=(bG v).isEmpty:=by cases bG v<;>rfl
  push_cast[w7,g7,if_true,els];cases hwe:bG v with
  | nil =>
   simp only[jZ,bR,aE,if_false];rw[hwe,PZ]at Fo;rw[tw];exact⟨⟨_,_,_,rfl⟩,hl7,N,Y6,no,Fo⟩
  | cons hd r =>
   simp only[Oh,bH,if_true];rw[hwe]at w2 w3 w7 Fo;refine⟨[ll],λx hx=>?_,z,N,lw,hd::r,rfl,Y6,no,bE.mpr ⟨by simpa using nlw,w7⟩,by simp,w3,w2,λN' H8' kP aaT H8 e8 em=>?_,λkP H8' H8 e8 em=>?_⟩
   ·rw[aL]at hx;rw[hx];exact⟨_,hl7,trivial⟩
   ·subst e8;rw[kP]at Fo;push_cast[bR,aE,if_false];rw[tw];exact⟨⟨_,_,_,rfl⟩,by rw[em ll (by simp)];exact hl7,N',aaT,Fi no kP,Fo⟩
   ·rw[kP]at Fo;push_cast[bH,if_true];intro x dx nx F7 SY;have e1:(((i+1:Nat):Int)+1)=((i+2:Nat):Int):=by omega
    rw[e1];refine mkR H8 (i+2) x dx nx F7 SY ⟨λN2 h2=>?_,λk hk=>?_⟩
    ·rw[Fo]at h2;cases h2
    ·rw[Fo]at hk;cases hk;rfl
 ·intro σ H4 p;rw[tw]at p;obtain⟨⟨y1,y2,y3,rfl⟩,YX,N,Wn,no,Fo⟩:=p;have hlen:(cW (bK 10 b)).length=((bK 10 b).map bG).length:=by simp[cW]
  rw[hlen,sJ,NT]at Fo;have r6:=P4 no;have hT:=Wn.up cG;have ho:=hT.ob;push_cast[ho,T.cN];intro p5 RC;generalize e5:upd H4 p5 _=H5;obtain⟨g5,k5⟩:=al e5 RC;have hT5:=hT.up k5;have Zl:(N.machines=[]\/dQ N=true)->∀H6:Hp,(∀N',jf b = .ok N'->1=0/\gE t H6 z.a N')/\(∀k,jf b = .error k->1=k+1):=λhc H6=>by
   rw[if_pos (r6.mpr hc)]at Fo;rw[Fo];exact⟨λN' h=>(by cases h),λk h=>(by cases h;rfl)⟩
  rcases hT with⟨e,h⟩|⟨l,h⟩
  ·push_cast[k5.up h.hM,cn,jZ,aE,if_false,if_true];intro x dx nx F7 SY;exact mkR H5 1 x dx nx F7 SY (Zl (.inl e) H5)
  ·have em:((l.mi++[l.x]).map V.ref).isEmpty=false:=by simp
   have el:nB ((l.mi++[l.x]).map V.ref) (-1)=some (V.ref l.x):=by rw[bo];exact yi _ _
   push_cast[k5.up h.c.hM,em,el,aE,if_false,k5.up ho,k5.up (cG.up h.lx),T.cN,T.eN];intro p6 hp6;generalize e6:upd H5 p6 _=H6;obtain⟨g6,k6⟩:=al e6 hp6;push_cast[k6.up (k5.up h.hp),g6];have eg:N.machines.getLast?=some l.m:=by rw[h.e];simp
   have ep:(lX (pNames l.m)).isEmpty=l.m.places.isEmpty:=by
    unfold lX pNames;cases l.m.places<;>rfl
   rw[ep];cases Iu:l.m.places.isEmpty with
   | true =>
    simp only[if_true];have hle:dQ N=true:=by unfold dQ;rw[eg];exact Iu
    intro x dx nx F7 SY;exact mkR H6 1 x dx nx F7 SY (Zl (.inr hle) H6)
   | false =>
    simp only[aE,if_false];have hle:dQ N=false:=by unfold dQ;rw[eg];exact Iu
    have hnc:¬(N.machines=[]\/dQ N=true):=by
     rintro(h1|h1)
     ·rw[h.e]at h1;simp at h1
     ·rw[hle]at h1;cases h1
    rw[if_neg (λz=>hnc (r6.mp z))]at Fo;intro x dx nx F7 SY;refine mkR H6 0 x dx nx F7 SY ⟨λN' hN=>?_,λk hk=>?_⟩
    ·rw[Fo]at hN;cases hN;exact⟨rfl,(hT5.up k6).told⟩
    ·rw[Fo]at hk;cases hk
end
theorem D6 {N:Net}:∀{ws:List Bytes}{l:nU}{w:Bytes}{x:Nat×Nat},cJ N ws=some l->nv N w=some x->cJ N (ws++[w])=some (l++[x])
 | [],l,w,x,h,hx=>by
  cases h;show(match nv N w,cJ N []with|some a,some r=>some (a::r)|_,_=>none)=_;rw[hx];rfl
 | v::ws,l,w,x,h,hx=>by
  rw[cJ]at h;cases e:nv N v with
  | none=>rw[e]at h;cases h
  | some y =>
   rw[e]at h;cases e2:cJ N ws with
   | none=>rw[e2]at h;cases h
   | some r =>
    rw[e2]at h;cases h;rw[dy,cJ,e,D6 e2 hx];rfl
theorem D7 {N:Net}:∀{ws:List Bytes}{w:Bytes},w∈ws->nv N w=none->cJ N ws=none
 | v::ws,w,hm,h=>by
  rw[cJ];rcases ah.mp hm with rfl|hm
  ·rw[h]
  ·rw[D7 hm h];cases nv N v<;>rfl
theorem wZ.snoc {H H1 H2:Hp}{la T:Addr}{ask:nU}{x:Nat×Nat}{ts:List Addr}(h:wZ H la ask) (hl:H la=some (.lst (ts.map V.ref))) (k1:Keeps [] H H1) (g1:H1 T=some (.tup [.int (x.1:Nat),.int (x.2:Nat)])) (e:upd H1 la (.lst (ts.map V.ref++[.ref T]))=H2):wZ H2 la (ask++[x]):=by
 obtain⟨ts',h1,h2,h3⟩:=h.ex;have ets:ts=ts':=by
  rw[hl]at h1;injection h1 with h1
  injection h1 with h1
  exact yu (λx y z=>by injection z) |>.mp h1
 subst ets;obtain⟨g2,k2⟩:=wr e;refine⟨ts++[T],by rw[g2];simp,by simp[h2],λi T' y a b=>?_⟩;by_cases hi:i<ts.length
 ·rw[aO hi]at a;rw[aO (by rw[<-h2];exact hi)]at b;have:=k1.up (h3 i T' y a b);exact k2.bM this (aK this (k1.up hl) nofun)
 ·rw[aM (by omega)]at a;rw[aM (by rw[<-h2];omega),<-h2]at b
  match e:i-ts.length,a,b with
  | 0,a,b =>
   cases a;cases b;exact k2.bM g1 (aK g1 (k1.up hl) nofun)
  | m+1,a,_=>simp at a
section
variable {P:Program}{w:World}{K:aa}{mg:Str->Option Value}{base:Heap}{t:cT}
def Jm (t:cT):Sp:=λvs H Q _=>∃(td:Addr) (N:Net) (b:Bytes),vs=[.ref td,.str (stx b)]/\gE t H td N/\NOk N/\b.length<=300/\(∀c∈b,IG c=true) /\
 (∀(ask:nU) (la:Addr) (H':Hp),cJ N (bG b)=some ask->wZ H' la ask->H la=none->Keeps [] H H'->Q (.ref la) H')/\(cJ N (bG b)=none->∀H',Keeps [] H H'->Q .gi H')
set_option maxHeartbeats 1000000 in
theorem HM (T:Txt K mg t):vm P w K mg base 2 "read_asks" ["told", "text"] (Jm t):=by
 obtain⟨f,fd,F,M⟩:=T.zS;refine⟨f,fd,F.ok jD (λvs H Q E h=>?_) (λgw A outer s H vs Q E hr h=>?_),M,F.kp,F.binds (λ_ _ _ _ _ _ us hl=>match us,hl with|[_,_],_=>rfl)⟩
 ·obtain⟨td,N,b,rfl,_⟩:=h;rfl
 obtain⟨td,N,b,rfl,h⟩:=h;have hu:=cF hr;refine⟨_,(aj (bO (i:=2) jD.nd rfl (aX rfl) (c9 aC)) (aj (fU PassesOwn.never rfl (fE (eG (B8 T) (hr.mono (by decide)) rfl (ag (pv 1) aC))) (cB (i:=3) jD.nd rfl (aX rfl)) (aj (bO (i:=4) jD.nd rfl (aX rfl) (xA (pv 3) i8)) (aj (cS (nJ (iJ hu (dw zL (pv 4) bf (λ_ _=>rfl)) (aV (pv 0) rfl))) (aD (bj my)) bL) (aj (bO (i:=5) jD.nd rfl (aX rfl) (lH hu (aV (pv 0) rfl) (dw zL (pv 4) bf (λ_ _=>rfl)) (λ_ _=>rfl))) (aj (bO (i:=6) jD.nd rfl (aX rfl) (aV (dw dq (aV (pv 0) rfl) (pv 5) (λ_ _=>rfl)) rfl)) (aj (cS (nJ (iJ hu (dw zL (pv 4) bf (λ_ _=>rfl)) (pv 6))) (aD (bj my)) bL) (aD (d7 (lI bc bq bp eZ (pv 2) (ag (yM (ag (pv 5) (ag (lH hu (pv 6) (dw zL (pv 4) bf (λ_ _=>rfl)) (λ_ _=>rfl)) aC))) aC)))))))))) (aD (bj (pv 2))))),?_⟩;obtain⟨hT,no,hb,Tg,q1,q2⟩:=h;obtain⟨dx,dC,dS,dN,lM,ms,h1,h2,h3,h4,h5,h6,h7⟩:=id hT;push_cast[OL];intro la hla;generalize e1:upd H la _=H1;obtain⟨g1,k1⟩:=al e1 hla;refine⟨b,rfl,by omega,λlw H2 g2 n2 k2=>?_⟩;push_cast;have Qe:=k1.trans k2;have nlw:lw≠la:=λe=>by rw[e,g1]at n2;cases n2
 have V9:(bG b).length<=301:=by
  have:=(kL 32 b).1;have:=bS (λw:Bytes=>!w.isEmpty) (bK 32 b);unfold bG;omega
 obtain⟨Pv,tw⟩:∃Pv:Nat->L2.St->Hp->Prop,Pv=λi σ H'=>(∃x1 x2 x3 x4,σ=[some (V.ref td),some (V.str (stx b)),some (V.ref la),x1,x2,x3,x4])/\Keeps [la] H2 H'/\∃ask,cJ N ((bG b).take i)=some ask/\wZ H' la ask:=⟨_,rfl⟩
 refine⟨⟨_,dO.of g2⟩,gU (xs:=cW (bG b)) Pv ?_ (λi σ H' _ p=>by rw[tw]at p;exact dO.of (p.2.1.bM g2 nlw)) ?_ ?_⟩
 ·rw[tw];exact⟨⟨_,_,_,_,rfl⟩,Keeps.refl,[],rfl,⟨[],k2.up g1,rfl,λi T x h=>by simp at h⟩⟩
 ·intro i x σ H3 hx p;rw[tw]at p;obtain⟨⟨x1,x2,x3,x4,rfl⟩,k3,ask,ui,hA⟩:=p;obtain⟨wd,N5,rfl⟩:=eI hx;have V1:Keeps [] H H3:=Qe.drop k3 (by simpa using hla);have CS:=aI N5;obtain⟨VG,ok2,ok3⟩:C2 wd:=by
   unfold bG at CS;obtain⟨m1,m2⟩:=dv.mp CS;obtain⟨m3,m4⟩:=(kL 32 b).2 wd m1;exact⟨λz=>(by rw[z]at m2;cases m2),by omega,λc hc=>Tg c (m4 c hc)⟩
  have aaY:Str.ofString "." = stx [46]:=lg ".";push_cast[OL,aaY,part1];refine⟨rfl,by rw[gK];simp only[sizeLine];omega,λp hp=>?_⟩;have J9:=Rl no wd;unfold EV at J9;have fail:nv N wd=none->∀H',Keeps [] H H'->Q .gi H':=λhn H' k=>q2 (D7 CS hn) H' k
  obtain⟨ts,a1,a2,a3⟩:=hA.ex;have tl:ts.length<=301:=by
   have RK:∀(ws:List Bytes) (l:nU),cJ N ws=some l->l.length=ws.length:=by
    intro ws
    induction ws with
    | nil=>intro l h;cases h;rfl
    | cons v ws ih =>
     intro l h;rw[cJ]at h;cases e:nv N v with
     | none=>rw[e]at h;cases h
     | some y =>
      rw[e]at h;cases e2:cJ N ws with
      | none=>rw[e2]at h;cases h
      | some r =>
       rw[e2]at h;cases h;rw[ay,ay,ih r e2]
   rw[a2,RK _ _ ui,cw];omega
  cases hc:tD 46 wd with
  | none =>
   rw[hc]at J9;dsimp only;have i0:nB [V.str (stx wd),V.str (stx []),V.str (stx [])] 0=some (V.str (stx wd)):=de (j:=0) rfl;have i2:nB [V.str (stx wd),V.str (stx []),V.str (stx [])] 2=some (V.str (stx [])):=de (j:=2) rfl;generalize e4:upd H3 p _=H4;obtain⟨g4,k4⟩:=al e4 hp;have vd:=V1.trans k4;push_cast[i0,i2,g4,vd.up h1,vd.up h4,lK,T.cN,if_true];cases Lz:(cA N).contains wd with
   | false =>
    simp only[bH,if_true];exact fail J9 H4 vd
   | true =>
    simp only[bR,aE,if_false];have hv:eQ (lX (cA N)) (fi (stx wd))=some (V.int ((cA N).idxOf wd:Nat)):=by rw[lJ,if_pos Lz]
    have Nh:(cA N).idxOf wd<N.machines.length:=by
     have:=cj (aS.mp Lz);simpa[cA]using this
    obtain⟨xm,UC⟩:∃xm,ms[(cA N).idxOf wd]?=some xm:=⟨_,ae (by omega)⟩;obtain⟨m,hm⟩:∃m,N.machines[(cA N).idxOf wd]?=some m:=⟨_,ae Nh⟩;obtain⟨dxm,dp,lb,le,US,Ob,m1,m2,_⟩:=h7 _ xm m UC hm;have hmi:nB (ms.map V.ref) (((cA N).idxOf wd:Nat):Int)=some (V.ref xm):=de (by rw[aR,UC];rfl);have rm:(pNames m).contains []=false:=by
     rw[bz];intro z;obtain⟨pp,hpp,e⟩:=aH.mp (aS.mp z);have:=(no.mo m (aI hm)).nm pp hpp;rw[e]at this;cases this
    push_cast[i0,i2,hv,vd.up h1,vd.up h4,vd.up h5,hmi,vd.up m1,vd.up m2.pl,lK,rm,g4,T.cN,T.eN,if_true,bH];exact fail J9 H4 vd
  | some pr =>
   obtain⟨x,y⟩:=pr;rw[hc]at J9;dsimp only at J9⊢;have i0:nB [V.str (stx x),V.str (stx [46]),V.str (stx y)] 0=some (V.str (stx x)):=de (j:=0) rfl;have i2:nB [V.str (stx x),V.str (stx [46]),V.str (stx y)] 2=some (V.str (stx y)):=de (j:=2) rfl;generalize e4:upd H3 p _=H4;obtain⟨g4,k4⟩:=al e4 hp;have vd:=V1.trans k4;push_cast[i0,i2,g4,vd.up h1,vd.up h4,lK,T.cN,if_true];cases Lz:(cA N).contains x with
   | false =>
    rw[if_neg (by rw[Lz];exact nofun)]at J9;simp only[bH,if_true];exact fail J9 H4 vd
   | true =>
    rw[if_pos Lz]at J9;simp only[bR,aE,if_false];have hv:eQ (lX (cA N)) (fi (stx x))=some (V.int ((cA N).idxOf x:Nat)):=by rw[lJ,if_pos Lz]
    have Nh:(cA N).idxOf x<N.machines.length:=by
     have:=cj (aS.mp Lz);simpa[cA]using this
    obtain⟨xm,UC⟩:∃xm,ms[(cA N).idxOf x]?=some xm:=⟨_,ae (by omega)⟩;obtain⟨m,hm⟩:∃m,N.machines[(cA N).idxOf x]?=some m:=⟨_,ae Nh⟩;obtain⟨dxm,dp,lb,le,US,Ob,m1,m2,_⟩:=h7 _ xm m UC hm;have hmi:nB (ms.map V.ref) (((cA N).idxOf x:Nat):Int)=some (V.ref xm):=de (by rw[aR,UC];rfl);rw[hm]at J9;dsimp only at J9;push_cast[i0,i2,hv,vd.up h1,vd.up h4,vd.up h5,hmi,vd.up m1,vd.up m2.pl,lK,g4,T.cN,T.eN,if_true];cases hcp:(pNames m).contains y with
    | false =>
     rw[if_neg (by rw[hcp];exact nofun)]at J9;simp only[bH,if_true];exact fail J9 H4 vd
    | true =>
     rw[if_pos hcp]at J9;have hv2:eQ (lX (pNames m)) (fi (stx y))=some (V.int ((pNames m).idxOf y:Nat)):=by rw[lJ,if_pos hcp]
     push_cast[bR,aE,if_false,i2,g4,vd.up m2.pl,hv2,k4.up a1];refine⟨by decide,λpT YO=>?_⟩;generalize e5:upd H4 pT _=H5;obtain⟨g5,k5⟩:=al e5 YO;have Fl:=k4.trans k5;have sl:(ts.map V.ref).length<sizeLine:=by rw[ax];simp only[sizeLine];omega
     push_cast[Fl.up a1,sl];generalize e6:upd H5 la _=H6;rw[tw];refine⟨⟨_,_,_,_,rfl⟩,(k3.trans Fl.any).trans (wr e6).2,ask++[((cA N).idxOf x,(pNames m).idxOf y)],?_,?_⟩
     ·rw[bX N5];exact D6 ui J9
     ·exact hA.snoc (T:=pT) a1 Fl g5 e6
 ·intro σ H3 p;rw[tw]at p;obtain⟨⟨x1,x2,x3,x4,rfl⟩,k3,ask,ui,hA⟩:=p;rw[show(cW (bG b)).length=(bG b).length by simp[cW],bP]at ui;push_cast;exact q1 ask la H3 ui hA hla (Qe.drop k3 (by simpa using hla))
end
structure qk (G:Hp) (u:Addr) (N:Net):Prop where
 ex:∃us,G u=some (.dK (du us))/\(∀q,C9 N q=(us.find? λx=>gn x.1 q).map (·.2))/\(∀x∈us,vp N x.1)/\(us.map (·.1)).Nodup
structure sH (t:cT) (K:aa) (G:Hp) (N:Net) (td:Addr) (z:Sa) (all:List Found) (fs:Int) (vU:V):Prop where
 td:gE t (wo G (z.ks::z.M)) td N
 sd:SDone t K G z N all fs
 un:vU = .gi\/∃u,vU = .ref u/\qk G u N
def Ik (t:cT) (K:aa) (G:Hp) (st:iU) (vT vF vU:V):Prop :=
 (st=none/\vT = .gi/\vF = .gi/\vU = .gi)\/∃N td,st=some N/\mm N/\vT = .ref td/\((vF = .gi/\vU = .gi/\gE t G td N)\/∃z all fs,vF = .ref z.a/\sH t K G N td z all fs vU)
structure eJ (t:cT) (K:aa) (H:Hp) (d eV:Addr) (st:iU):Prop where
 own:H eV=some (.own d)
 ex:∃vT vF vU,H d=some (.ins t.dE eV (fW vT vF vU))/\Ik t K (wo H [d,eV]) st vT vF vU
section
variable {t:cT}{K:aa}{H H' G G':Hp}{d eV:Addr}{st:iU}{N:Net}{td:Addr}{z:Sa}{all:List Found}{fs:Int}{vT vF vU:V}
theorem qk.up (k:Keeps [] G G'){u:Addr}(h:qk G u N):qk G' u N:=by
 obtain⟨us,h1,h2⟩:=h.ex;exact⟨us,k.up h1,h2⟩
theorem SDone.up (k:Keeps [] G G') (h:SDone t K G z N all fs):SDone t K G' z N all fs:=⟨h.s.up k,h.l,h.e⟩
theorem sH.up (k:Keeps [] G G') (h:sH t K G N td z all fs vU):sH t K G' N td z all fs vU:=by
 refine⟨h.td.up (k.any (M:=z.ks::z.M)).wo,h.sd.up k,?_⟩;rcases h.un with q|⟨u,e,q⟩
 ·exact .inl q
 ·exact .inr ⟨u,e,q.up k⟩
theorem Ik.up (k:Keeps [] G G') (h:Ik t K G st vT vF vU):Ik t K G' st vT vF vU:=by
 rcases h with h|⟨N,td,e1,e2,e3,h⟩
 ·exact .inl h
 ·refine .inr ⟨N,td,e1,e2,e3,?_⟩;rcases h with⟨h1,h2,h3⟩|⟨z,all,fs,h1,h2⟩
  ·exact .inl ⟨h1,h2,h3.up k⟩
  ·exact .inr ⟨z,all,fs,h1,h2.up k⟩
theorem eJ.up (k:Keeps [] H H') (h:eJ t K H d eV st):eJ t K H' d eV st:=by
 obtain⟨vT,vF,vU,h1,h2⟩:=h.ex;exact⟨k.up h.own,vT,vF,vU,k.up h1,h2.up (k.any (M:=[d,eV])).wo⟩
theorem eJ.fr (h:eJ t K H d eV st):yn H [d,eV]:=by
 obtain⟨vT,vF,vU,h1,h2⟩:=h.ex;intro x hx;simp only[ah,aF,or_false]at hx;rcases hx with rfl|rfl
 ·exact⟨_,h1,by simp[FO]⟩
 ·exact⟨_,h.own,by simp[FO]⟩
theorem eJ.told (h:eJ t K H d eV (some N)):∃td vF vU,H d=some (.ins t.dE eV (fW (.ref td) vF vU))/\gE t H td N/\mm N:=by
 obtain⟨vT,vF,vU,h1,h2⟩:=h.ex;rcases h2 with⟨e,_⟩|⟨N',td,e1,e2,e3,h2⟩
 ·cases e
 ·cases e1;subst e3;refine⟨td,vF,vU,h1,?_,e2⟩;rcases h2 with⟨_,_,h3⟩|⟨z,all,fs,_,h3⟩
  ·exact h3.up cG
  ·exact h3.td.up (cG.trans cG)
theorem Gi (H:Hp) (A B:List Addr):wo (wo H A) B=wo H (A++B):=by
 funext x
 unfold wo;by_cases h1:x∈A<;>by_cases h2:x∈B<;>simp[h1,h2]
theorem SDone.many (h:SDone t K G z N all fs) (nf:mm N):gZ (dA N)=decide (50000<all.length)/\(all.length<=50000->dA N=all/\fs=Es N all/\(nq N 1 (dH N)=true->∃A,Cl N A)):=by
 rcases h.e with⟨hr,n,hn,rfl,rfl⟩|⟨hr,rfl,rfl⟩
 ·obtain⟨h1,h2⟩:=Jv nf hr hn;refine⟨h1,λhl=>⟨h2 hl,?_,λ_=>?_⟩⟩
  ·have hle:(proc N n).length<=n:=by rcases hn with h|h<;>omega
   rw[bU hle]
  ·have hle:(proc N n).length<=n:=by rcases hn with h|h<;>omega
   exact⟨_,SH nf hle hl⟩
 ·have hs:dA N=[]:=by
   unfold dA;rw[if_neg (by rw[hr];exact nofun)]
  rw[hs];exact⟨rfl,λ_=>⟨rfl,rfl,λh=>by rw[hr]at h;cases h⟩⟩
end
def nR (b:List Nat):List V:=b.map λ(c:Nat)=>V.int c
section
variable {P:Program}{w:World}{K:aa}{mg:Str->Option Value}{base:Heap}{t:cT}
def vC (t:cT) (K:aa):Sp:=λvs H Q _=>∃(d eV ln:Addr) (N:Net) (b:List Nat),vs=[.ref d,.ref ln]/\eJ t K H d eV (some N)/\H ln=some (.lst (nR b))/\b.length<=256/\(∀c∈b,c<256) /\
 (∀(ask:nU) (la:Addr) (H':Hp),cJ N (bG b)=some ask->wZ H' la ask->Keeps [] H H'->Q (.ref la) H')/\(cJ N (bG b)=none->∀H',Keeps [] H H'->Q .gi H')
theorem jX (T:Txt K mg t):yy P w K mg base 3 t.dE "asked_places" ["self", "numbers"] (vC t K):=by
 obtain⟨f,fd,F,M⟩:=T.oe;refine⟨T.iu.cl,f,fd,F.ok tW (λvs H Q E h=>?_) (λgw A outer s H vs Q E hr h=>?_),M,F.binds (λ_ _ _ _ _ _ us hl=>match us,hl with|[_,_],_=>rfl)⟩
 ·obtain⟨d,eV,ln,N,b,rfl,_⟩:=h;rfl
 obtain⟨d,eV,ln,N,b,rfl,h⟩:=h;have hu:=cF hr;refine⟨_,(aD (bj (eG (HM T) (hr.mono (by decide)) rfl (ag (aV (pv 0) rfl) (ag (eG (DW T) (hr.mono (by decide)) rfl (ag (pv 1) aC)) aC))))),?_⟩;obtain⟨hD,hl,hb,yY,q1,q2⟩:=h;obtain⟨td,vF,vU,h1,hT,nf⟩:=hD.told;push_cast[h1,T.iK];refine⟨ln,b,rfl,hl,by omega,yY,λH1 k1=>?_⟩;have ec:cJ N (bG (b.map cl))=cJ N (bG b):=by rw[Dc,T6 nf.toNOk]
 refine⟨td,N,b.map cl,rfl,hT.up k1,nf.toNOk,by rw[ax];omega,λc hc=>?_,λask la H2 ha hA n2 k2=>?_,λha H2 k2=>?_⟩
 ·obtain⟨x,_,rfl⟩:=aH.mp hc;exact Q6 x
 ·exact q1 ask la H2 (by rw[<-ec];exact ha) hA (k1.trans k2)
 ·exact q2 (by rw[<-ec];exact ha) H2 (k1.trans k2)
def EC (t:cT) (K:aa):Sp:=λvs H Q _=>∃(d eV:Addr) (N:Net),vs=[.ref d]/\eJ t K H d eV (some N) /\
 ∀(td:Addr) (z:Sa) (all:List Found) (fs:Int) (vU:V) (H':Hp),H' eV=some (.own d)->H' d=some (.ins t.dE eV (fW (.ref td) (.ref z.a) vU))->sH t K (wo H' [d,eV]) N td z all fs vU->mm N->Keeps [d] H H'->Q (.ref z.a) H'
set_option maxHeartbeats 1000000 in
theorem j9 (T:Txt K mg t):yy P w K mg base 11 t.dE "search" ["self"] (EC t K):=by
 obtain⟨f,fd,F,M⟩:=T.vV;refine⟨T.iu.cl,f,fd,F.ok Bh (λvs H Q E h=>?_) (λgw A outer s H vs Q E hr h=>?_),M,F.binds (λ_ _ _ _ _ _ us hl=>match us,hl with|[_],_=>rfl)⟩
 ·obtain⟨d,eV,N,rfl,_⟩:=h;rfl
 obtain⟨d,eV,N,rfl,h⟩:=h;have hu:=cF hr;refine⟨_,(aj (cS (br E2 (aV (pv 0) rfl) my (bN _)) (aD (bW (pv 0) (vK (C0 T).frame (hr.mono (by decide)) rfl (ag (vK (FQ T).frame (hr.mono (by decide)) rfl (ag (aV (pv 0) rfl) aC)) aC)) rfl)) bL) (aD (bj (aV (pv 0) rfl)))),?_⟩;obtain⟨hD,q⟩:=h;obtain⟨vT,vF,vU,h1,h2⟩:=hD.ex;rcases h2 with⟨e,_⟩|⟨N',td,e1,nf,e3,h2⟩
 ·cases e
 ·cases e1;subst e3;rcases h2 with⟨rfl,rfl,hT⟩|⟨z,all,fs,rfl,hF⟩
  ·push_cast[h1,T.iK,decide_true,if_true];intro wd Zo nw ndw nnw;generalize e1:upd (upd H Zo _) wd _=H1;obtain⟨g1,k1⟩:=N0 e1 nw ndw nnw;have Yz:Keeps [] (wo H [d,eV]) (wo H1 [d,eV]):=(k1.any (M:=[d,eV])).wo;have fresh:∀x,H x=none->x∉[d,eV]:=λx hx=>hD.fr.al hx
   refine⟨[d,eV],(hD.up k1).fr,wd,Zo,td,N,rfl,bE.mpr ⟨fresh wd nw,g1⟩,nf.toNOk,hT.up (wc Yz λx hx=>by rw[aL]at hx;rw[hx];exact iD nw),λks H2' hW nks k2 H2 e2 em=>⟨rfl,?_⟩⟩;subst e2;have kk2:Keeps [wd] H1 H2:=oR (hD.up k1).fr k2 em;have N1:Keeps [] H H2:=k1.drop kk2 (by simpa using nw);obtain⟨bD,Wi,_⟩:=hW.kn.ex;have aaJ:=(bE.mp Wi).1;have Zk:H ks=none:=by
    rw[nH aaJ]at nks;exact k1.gr _ nks
   intro sa XA ns nds nns;generalize e3:upd (upd H2 XA _) sa _=H3;obtain⟨g3,k3⟩:=N0 e3 ns nds nns;have o3:H3 XA=some (.own sa):=by rw[<-e3,cv nns,c0]
   have V1:=N1.trans k3;have fsa:H sa=none:=N1.gr _ ns;have fdx:H XA=none:=N1.gr _ nds;refine⟨[d,eV],(hD.up V1).fr,sa,XA,wd,ks,N,rfl,bE.mpr ⟨fresh sa fsa,g3⟩,bE.mpr ⟨fresh XA fdx,o3⟩,hW.up (wc (k3.any (M:=[d,eV])).wo λx hx=>?_),nf,λz all fs H4' hza hzd hzw hzk hS k4 Xv H4 e4 em4=>⟨rfl,?_⟩⟩
   ·simp only[ah,aF,or_false]at hx;rcases hx with h|h
    ·rw[h];exact iD ns
    ·rw[h];exact iD nds
   ·subst e4;have kk4:Keeps [sa,XA,ks] H3 H4:=oR (hD.up V1).fr k4 em4;have vd:Keeps [] H H4:=V1.drop kk4 λx hx=>by
     simp only[ah,aF,or_false]at hx;rcases hx with h|h|h<;>rw[h]<;>assumption
    have h4:=vd.up h1;push_cast[h4,T.iK];generalize e5:upd H4 d _=H5;obtain⟨g5,k5⟩:=wr e5;have kw5:Keeps [] (wo H4 [d,eV]) (wo H5 [d,eV]):=(k5.mono (M':=[d,eV]) (by simp)).wo;have aap:Keeps [] (wo H [d,eV]) (wo H5 [d,eV]):=((vd.any (M:=[d,eV])).wo).trans kw5;have nd:eV≠d:=aK hD.own h1 nofun
    rw[<-hza]at g5⊢;refine q td z all fs .gi H5 (k5.bM (vd.up hD.own) nd) g5 ⟨hT.up (wc aap λx hx=>?_),hS.up kw5,.inl rfl⟩ nf (vd.any.trans k5);have hx:x=z.ks\/x=z.a\/x=z.dx\/x∈[z.lS,z.dS,z.lB,z.lL,z.dF]:=by
     simp only[Sa.M,ah,aF,or_false]at hx⊢;exact hx
    rcases hx with h|h|h|h
    ·rw[h,hzk];exact iD Zk
    ·rw[h,hza];exact iD fsa
    ·rw[h,hzd];exact iD fdx
    ·by_cases hm:x∈[d,eV]
     ·exact zB hm
     ·have:=Xv x h;rw[nH hm]at this;exact iD (V1.gr _ this)
  ·push_cast[h1,T.iK];rw[if_neg (by simp)];exact q td z all fs vU H hD.own h1 hF nf Keeps.refl
end
def tX (st:iU) (b:List Nat) (most:Int):Int:=match st with
 | none=>-2
 | some N=>if 256<b.length\/most<0\/65536<most then -1 else match cJ N (bG b)with
  | none=>-5
  | some _=>if gZ (dA N)=true then -3 else 0
theorem DT {t:cT}{K:aa}{H:Hp}{d eV td:Addr}{N:Net}{z:Sa}{all:List Found}{fs:Int}{vU:V}(h1:H eV=some (.own d)) (h2:H d=some (.ins t.dE eV (fW (.ref td) (.ref z.a) vU))) (h3:sH t K (wo H [d,eV]) N td z all fs vU) (nf:mm N):eJ t K H d eV (some N) :=
 ⟨h1,_,_,_,h2,.inr ⟨N,td,rfl,nf,rfl,.inr ⟨z,all,fs,rfl,h3⟩⟩⟩
section
variable {P:Program}{w:World}{K:aa}{mg:Str->Option Value}{base:Heap}{t:cT}
def MB (t:cT) (K:aa):Sp:=λvs H Q _=>∃(d eV ln:Addr) (st:iU) (b:List Nat) (most:Int),vs=[.ref d,.int most,.ref ln]/\eJ t K H d eV st/\H ln=some (.lst (nR b))/\(∀c∈b,c<256) /\
 ∀H':Hp,eJ t K H' d eV st->Keeps [d] H H'->Q (.int (tX st b most)) H'
theorem pM (T:Txt K mg t):yy P w K mg base 12 t.dE "refusal" ["self", "most", "numbers"] (MB t K):=by
 obtain⟨f,fd,F,M⟩:=T.uu;refine⟨T.iu.cl,f,fd,F.ok Ar (λvs H Q E h=>?_) (λgw A outer s H vs Q E hr h=>?_),M,F.binds (λ_ _ _ _ _ _ us hl=>match us,hl with|[_,_,_],_=>rfl)⟩
 ·obtain⟨d,eV,ln,st,b,most,rfl,_⟩:=h;rfl
 obtain⟨d,eV,ln,st,b,most,rfl,h⟩:=h;have hu:=cF hr;refine⟨_,(aj (cS (br E2 (aV (pv 0) rfl) my (bN _)) (aD (bj (b9 T.gI rfl))) bL) (aj (cS (PW.pt (qN (br vM (bT cO rfl T.eY dR (ag (pv 2) aC)) (b9 T.ir rfl) (bN _)) (qN (br nZ (pv 1) bf (bN _)) (rM (br vM (pv 1) (b9 T.jJ rfl) (bN _)))))) (aD (bj (b9 T.gq rfl))) bL) (aj (cS (br E2 (gP (jX T) (hr.mono (by decide)) (pv 0) (ag (pv 2) aC)) my (bN _)) (aD (bj (b9 T.kN rfl))) bL) (aj (cS (i7 (nL (mj T) (hr.mono (by decide)) (nL (j9 T) (hr.mono (by decide)) (pv 0)))) (aD (bj (b9 T.fR rfl))) bL) (aD (bj bf)))))),?_⟩;obtain⟨hD,hl,yY,q⟩:=h;obtain⟨vT,vF,vU,h1,h2⟩:=hD.ex;have bl:(nR b).length=b.length:=by simp[nR]
 rcases h2 with⟨rfl,rfl,rfl,rfl⟩|⟨N,td,rfl,nf,rfl,h2⟩
 ·push_cast[h1,T.iK,decide_true,if_true];exact q H hD Keeps.refl
 ·push_cast[h1,T.iK,hl,bl];rw[if_neg (by simp)];unfold tX at q;dsimp only at q;by_cases c1:256<b.length
  ·rw[if_pos (decide_eq_true (by omega)),if_pos trivial];rw[if_pos (.inl c1)]at q;exact q H hD Keeps.refl
  ·rw[if_neg (by simp;omega)];by_cases c2:most<0
   ·rw[if_pos (decide_eq_true c2),if_pos trivial];rw[if_pos (.inr (.inl c2))]at q;exact q H hD Keeps.refl
   ·rw[if_neg (by simpa using c2)];by_cases c3:65536<most
    ·rw[if_pos (decide_eq_true c3)];rw[if_pos (.inr (.inr c3))]at q;exact q H hD Keeps.refl
    ·rw[if_neg (by simpa using c3)];rw[if_neg (by rintro(h|h|h);exact c1 h;exact c2 h;exact c3 h)]at q;refine⟨d,eV,ln,N,b,rfl,hD,hl,by omega,yY,λask la H1 ha hA k1=>?_,λha H1 k1=>?_⟩
     ·rw[ha]at q;dsimp only at q;rw[if_neg (by simp)];push_cast[k1.up h1,T.iK];refine⟨d,eV,N,rfl,hD.up k1,λtd2 z all fs Z6 H2 o2 g2 hF _ k2=>?_⟩;have hS:=hF.sd.s.up cG;obtain⟨m1,_⟩:=hF.sd.many nf;push_cast[hS.ob];refine⟨z,N,all,fs,rfl,hS,?_⟩;rw[<-m1];push_cast;have LB:=DT o2 g2 hF nf;have N1:Keeps [d] H H2:=k1.any.trans k2;by_cases hm:gZ (dA N)=true
      ·rw[if_pos hm];rw[if_pos hm]at q;exact q H2 LB N1
      ·rw[if_neg hm];rw[if_neg hm]at q;exact q H2 LB N1
     ·rw[ha]at q;rw[if_pos (by decide)];exact q H1 (hD.up k1) k1.any
def Ot (most:Int) (ww:Option (List fH)):List Int:=(Ge most ww).value::(Ge most ww).nums
def fC (l:List Int):List V:=l.map V.int
theorem MF (x:fH):(zD x).length=4:=by cases x<;>rfl
def MA (t:cT) (K:aa):Sp:=λvs H Q _=>∃(d eV:Addr) (N:Net) (at_ most:Int) (ww:Option (List fH)),vs=[.ref d,.int at_,.int most]/\eJ t K H d eV (some N)/\gZ (dA N)=false /\
 ((at_<0/\ww=none)\/∃(n:Nat) (x:Found),at_=n/\(dA N)[n]?=some x/\ww=some x.2.reverse)/\most<=65536 /\
 ∀(l:Addr) (H':Hp),H' l=some (.lst (fC (Ot most ww)))->eJ t K H' d eV (some N)->Q (.ref l) H'
theorem sS (T:Txt K mg t):yy P w K mg base 12 t.dE "steps_to" ["self", "at", "most"] (MA t K):=by
 obtain⟨f,fd,F,M⟩:=T.sR;refine⟨T.iu.cl,f,fd,F.ok jF (λvs H Q E h=>?_) (λgw A outer s H vs Q E hr h=>?_),M,F.binds (λ_ _ _ _ _ _ us hl=>match us,hl with|[_,_,_],_=>rfl)⟩
 ·obtain⟨d,eV,N,at_,most,ww,rfl,_⟩:=h;rfl
 obtain⟨d,eV,N,at_,most,ww,rfl,h⟩:=h;have hu:=cF hr;refine⟨_,(aj (cS (br nZ (pv 1) bf (bN _)) (aD (bj (c9 (ag (b9 T.pw rfl) aC)))) bL) (aj (bO (i:=3) jF.nd rfl (aX rfl) (gP (Aw T) (hr.mono (by decide)) (nL (j9 T) (hr.mono (by decide)) (pv 0)) (ag (pv 1) aC))) (aj (cS (br vM (bT cO rfl T.eY dR (ag (pv 3) aC)) (pv 2) (bN _)) (aD (bj (c9 (ag (b9 T.mC rfl) aC)))) bL) (aj (bO (i:=4) jF.nd rfl (aX rfl) (c9 (ag (bT cO rfl T.eY dR (ag (pv 3) aC)) aC))) (aj (fU PassesOwn.never rfl (fE (pv 3)) (cB (i:=5) jF.nd rfl (aX rfl)) (aD (d7 (lI bc qm ql S2 (pv 4) (ag (pv 5) aC))))) (aD (bj (pv 4)))))))),?_⟩;obtain⟨hD,qU,UJ,Ly,q⟩:=h;obtain⟨vT,vF,vU,h1,h2⟩:=hD.ex;push_cast[h1,T.iK];rcases UJ with⟨aaE,rfl⟩|⟨n,x,rfl,hx,rfl⟩
 ·rw[if_pos (decide_eq_true aaE)];refine⟨by decide,λl hl=>?_⟩;generalize e1:upd H l _=H1;obtain⟨g1,k1⟩:=al e1 hl;exact q l H1 g1 (hD.up k1)
 ·rw[if_neg (by simp)];refine⟨d,eV,N,rfl,hD,λtd z all fs Z6 H1 o1 g1 hF nf k1=>?_⟩;have hS:=hF.sd.s.up cG;obtain⟨m1,m2⟩:=hF.sd.many nf;rw[qU]at m1;have RK:all.length<=50000:=by
   have:=of_decide_eq_false m1.symm;omega
  obtain⟨m3,_⟩:=m2 RK;rw[m3]at hx;push_cast[hS.ob];refine⟨z,N,all,fs,n,x,rfl,hS,hx,by simp only[sizeLine];omega,λl yw H2 g2 Xp n2 k2=>?_⟩;have LB:=(DT o1 g1 hF nf).up k2;have hsl:(yw.map V.ref).length=x.2.reverse.length:=by rw[ax,Xp.1]
  push_cast[g2,hsl];by_cases hm:most<(x.2.reverse.length:Int)
  ·rw[if_pos (decide_eq_true hm)];refine⟨by decide,λl3 UG=>?_⟩;generalize e3:upd H2 l3 _=H3;obtain⟨g3,k3⟩:=al e3 UG;refine q l3 H3 ?_ (LB.up k3);rw[g3];unfold Ot Ge;dsimp only;rw[if_pos hm];rfl
  ·rw[if_neg (by simpa using hm)];refine⟨by decide,λl3 UG=>?_⟩;generalize e3:upd H2 l3 _=H3;obtain⟨g3,k3⟩:=al e3 UG;have nl:l≠l3:=a6 g2 UG;have kw:Keeps [] (wo H1 z.M) (wo H2 z.M):=(k2.any (M:=z.M)).wo;have Th:iT K (wo H2 z.M) yw x.2.reverse:=Xp.up kw;generalize x.2.reverse=Ya at Th hsl hm q g3;have aba:Ya.length<=65536:=by omega
   obtain⟨Pv,tw⟩:∃Pv:Nat->L2.St->Hp->Prop,Pv=λi σ H'=>(∃y,σ=[some (V.ref d),some (V.int (n:Nat)),some (V.int most),some (V.ref l),some (V.ref l3),y])/\H' l3=some (.lst (fC (((Ya.length:Nat):Int)::(Ya.take i).flatMap yr)))/\Keeps [l3] H3 H':=⟨_,rfl⟩
   refine⟨⟨_,dO.of (k3.up g2)⟩,gU (xs:=yw.map V.ref) Pv (by rw[tw];exact⟨⟨_,rfl⟩,g3,Keeps.refl⟩) (λi σ H' _ p=>by rw[tw]at p;exact dO.of (p.2.2.bM (k3.up g2) nl)) ?_ ?_⟩
   ·intro i y σ H' hi p;rw[tw]at p;obtain⟨⟨y0,rfl⟩,hg,k⟩:=p;obtain⟨sp,F9,rfl⟩:=eI hi;obtain⟨stp,YJ⟩:∃stp,Ya[i]?=some stp:=⟨_,ae (by rw[<-Th.1];exact(aw.mp F9).1)⟩;have k2':Keeps [] H2 H':=k3.drop k (by simpa using UG);have sq:=lR.up (cG.trans k2') (Th.2 i sp stp F9 YJ);push_cast[hg];have fml:((Ya.take i).flatMap yr).length<=4 * 65536:=by
     have:∀l:List fH,(l.flatMap yr).length=4 * l.length:=by
      intro l
      induction l with
      | nil=>rfl
      | cons a l ih =>
       rw[dI,aJ,ih,ay];have:(yr a).length=4:=by cases a<;>rfl
       omega
     rw[this,cw];omega
    refine⟨_,sq,?_,?_⟩
    ·rw[MF];simp only[fC,ax,ay,sizeLine];omega
    ·rw[tw];refine⟨⟨_,rfl⟩,?_,k.put (by simp)⟩;rw[c0,bX YJ,iy];simp[fC,zD]
   ·intro σ H' p;rw[tw]at p;obtain⟨⟨y0,rfl⟩,hg,k⟩:=p;rw[ax,Th.1,bP]at hg;push_cast;refine q l3 H' ?_ (LB.up (k3.drop k (by simpa using UG)));rw[hg];unfold Ot Ge;dsimp only;rw[if_neg hm]
end
def Cm (a:iU×Md16.Ans):List Int:=a.2.value::a.2.nums
theorem ni (z:Int) (b:Nat):l0 z 0 b=false↔z<0\/(b:Int)<z:=by
 unfold l0;rw[IE];simp only[decide_eq_false_iff_not];omega
theorem Sz (st:iU) (b:List Nat) (most:Int):(tX st b most<0/\Cm (cz st (.way b b.length most))=[tX st b most])\/(tX st b most=0/\∃N ask,st=some N/\b.length<=256/\most<=65536/\cJ N (bG b)=some ask/\gZ (dA N)=false/\Cm (cz st (.way b b.length most))=Ot most (KP (dA N) ask)):=by
 cases st with
 | none=>exact .inl ⟨by simp[tX],rfl⟩
 | some N =>
  unfold tX cz;dsimp only;have Hr:(l0 (b.length:Int) 0 Gg=false\/l0 most 0 Gf=false)↔(256<b.length\/most<0\/65536<most):=by
   rw[ni,ni];simp only[Gg,Gf];omega
  by_cases c:256<b.length\/most<0\/65536<most
  ·rw[if_pos c,if_pos (Hr.mpr c)];exact .inl ⟨by decide,rfl⟩
  ·rw[if_neg c,if_neg (λz=>c (Hr.mp z))];cases ha:cJ N (bG b)with
   | none=>exact .inl ⟨(by decide:(-5:Int)<0),rfl⟩
   | some ask =>
    dsimp only;by_cases hm:gZ (dA N)=true
    ·rw[if_pos hm,if_pos hm];exact .inl ⟨by decide,rfl⟩
    ·rw[if_neg hm,if_neg hm];exact .inr ⟨rfl,N,ask,rfl,by omega,by omega,ha,by simpa using hm,rfl⟩
theorem MJ (st:iU) (b:List Nat):(tX st b 0<0/\Cm (cz st (.least b b.length))=[tX st b 0])\/(tX st b 0=0/\∃N ask,st=some N/\b.length<=256/\cJ N (bG b)=some ask/\gZ (dA N)=false/\Cm (cz st (.least b b.length))=[match C9 N ask with|some t=>(t:Int)|none=>-6]):=by
 cases st with
 | none=>exact .inl ⟨by simp[tX],rfl⟩
 | some N =>
  unfold tX cz;dsimp only;have Hr:(l0 (b.length:Int) 0 Gg=false)↔(256<b.length\/(0:Int)<0\/(65536:Int)<0):=by
   rw[ni];simp only[Gg];omega
  by_cases c:256<b.length\/(0:Int)<0\/(65536:Int)<0
  ·rw[if_pos c,if_pos (Hr.mpr c)];exact .inl ⟨by decide,rfl⟩
  ·rw[if_neg c,if_neg (λz=>c (Hr.mp z))];cases ha:cJ N (bG b)with
   | none=>exact .inl ⟨(by decide:(-5:Int)<0),rfl⟩
   | some ask =>
    dsimp only;by_cases hm:gZ (dA N)=true
    ·rw[if_pos hm,if_pos hm];exact .inl ⟨by decide,rfl⟩
    ·rw[if_neg hm,if_neg hm];exact .inr ⟨rfl,N,ask,rfl,by omega,ha,by simpa using hm,rfl⟩
theorem MH (st:iU) (most:Int):(tX st [] most<0/\Cm (cz st (.stuck most))=[tX st [] most])\/(tX st [] most=0/\∃N,st=some N/\most<=65536/\gZ (dA N)=false/\Cm (cz st (.stuck most))=Ot most (C8 N (dA N))):=by
 cases st with
 | none=>exact .inl ⟨by simp[tX],rfl⟩
 | some N =>
  unfold tX cz;dsimp only;have Hr:(l0 most 0 Gf=false)↔(256<([]:List Nat).length\/most<0\/65536<most):=by
   rw[ni];simp only[Gf,bI];omega
  by_cases c:256<([]:List Nat).length\/most<0\/65536<most
  ·rw[if_pos c,if_pos (Hr.mpr c)];exact .inl ⟨by decide,rfl⟩
  ·rw[if_neg c,if_neg (λz=>c (Hr.mp z))];have ha:cJ N (bG [])=some []:=rfl;rw[ha];dsimp only;by_cases hm:gZ (dA N)=true
   ·rw[if_pos hm,if_pos hm];exact .inl ⟨by decide,rfl⟩
   ·rw[if_neg hm,if_neg hm];exact .inr ⟨rfl,N,rfl,by simp only[bI]at c;omega,by simpa using hm,rfl⟩
theorem zl (st:iU) (b:List Nat) (n most:Int):(cz st (.way b n most)).1=st/\(cz st (.least b n)).1=st/\(cz st (.stuck most)).1=st:=by
 cases st with
 | none=>exact⟨rfl,rfl,rfl⟩
 | some N =>
  refine⟨?_,?_,?_⟩
  ·unfold cz;dsimp only
   split
   ·rfl
   ·split
    ·rfl
    ·split<;>rfl
  ·unfold cz;dsimp only
   split
   ·rfl
   ·split
    ·rfl
    ·split<;>rfl
  ·unfold cz;dsimp only
   split
   ·rfl
   ·split<;>rfl
theorem Rj {N:Net}:∀(ws:List Bytes) (l:nU),cJ N ws=some l->l.length=ws.length:=by
 intro ws
 induction ws with
 | nil=>intro l h;cases h;rfl
 | cons v ws ih =>
  intro l h;rw[cJ]at h;cases e:nv N v with
  | none=>rw[e]at h;cases h
  | some y =>
   rw[e]at h;cases e2:cJ N ws with
   | none=>rw[e2]at h;cases h
   | some r =>
    rw[e2]at h;cases h;rw[ay,ay,ih r e2]
theorem LX {N:Net}{b:List Nat}(hb:b.length<=256){ask:nU}(h:cJ N (bG b)=some ask):ask.length<=300:=by
 rw[Rj _ _ h];have:=(kL 32 b).1;have:=bS (λw:Bytes=>!w.isEmpty) (bK 32 b);unfold bG;omega
theorem Nt (all:List Found) (ask:nU):((match (sL (ie all)).find? λx=>gn x.1 ask with|some x=>(x.2:Int)|none=>-1)<0/\KP all ask=none)\/∃(n:Nat) (x:Found),(match (sL (ie all)).find? λx=>gn x.1 ask with|some x=>(x.2:Int)|none=>-1)=(n:Int)/\all[n]?=some x/\KP all ask=some x.2.reverse:=by
 rw[U1];cases hf:(sL (ie all)).find? λx=>gn x.1 ask with
 | none=>exact .inl ⟨by decide,rfl⟩
 | some y =>
  have hm:=Ed hf;rcases AE (ie all) [] y hm with q|q
  ·cases q
  ·unfold ie at q;obtain⟨x,hx,rfl⟩:=aH.mp q;have:=zipIdx_get hx;refine .inr ⟨x.2,x.1,rfl,this,?_⟩;show(all[x.2]?.map λy=>y.2.reverse)=_;rw[this];rfl
theorem Sg (N:Net) (all:List Found):(Es N all<0/\C8 N all=none)\/∃(n:Nat) (x:Found),Es N all=n/\all[n]?=some x/\C8 N all=some x.2.reverse:=by
 rw[OT];unfold Es;cases hf:all.findIdx? λx=>(eU N x.1).isEmpty with
 | none=>exact .inl ⟨by decide,rfl⟩
 | some i =>
  rw[lW]at hf;obtain⟨hi,_⟩:=hf;refine .inr ⟨i,all[i],rfl,ae hi,?_⟩;show(all[i]?.map λy=>y.2.reverse)=_;rw[ae hi];rfl
section
variable {P:Program}{w:World}{K:aa}{mg:Str->Option Value}{base:Heap}{t:cT}
def Yb (t:cT) (K:aa):Sp:=λvs H Q _=>∃(d eV ln:Addr) (st:iU) (b:List Nat) (most:Int),vs=[.ref d,.int most,.ref ln]/\eJ t K H d eV st/\H ln=some (.lst (nR b))/\(∀c∈b,c<256) /\
 ∀(l:Addr) (H':Hp),H' l=some (.lst (fC (Cm (cz st (.way b b.length most)))))->eJ t K H' d eV st->Q (.ref l) H'
theorem Kt (T:Txt K mg t):yy P w K mg base 13 t.dE "way" ["self", "most", "numbers"] (Yb t K):=by
 obtain⟨f,fd,F,M⟩:=T.BX;refine⟨T.iu.cl,f,fd,F.ok zF (λvs H Q E h=>?_) (λgw A outer s H vs Q E hr h=>?_),M,F.binds (λ_ _ _ _ _ _ us hl=>match us,hl with|[_,_,_],_=>rfl)⟩
 ·obtain⟨d,eV,ln,st,b,most,rfl,_⟩:=h;rfl
 obtain⟨d,eV,ln,st,b,most,rfl,h⟩:=h;have hu:=cF hr;refine⟨_,(aj (bO (i:=3) zF.nd rfl (aX rfl) (gP (pM T) (hr.mono (by decide)) (pv 0) (ag (pv 1) (ag (pv 2) aC)))) (aj (cS (br nZ (pv 3) bf (bN _)) (aD (bj (c9 (ag (pv 3) aC)))) bL) (aD (bj (gP (sS T) (hr.mono (by decide)) (pv 0) (ag (eG (vZ T) (hr.mono (by decide)) rfl (ag (aV (nL (j9 T) (hr.mono (by decide)) (pv 0)) rfl) (ag (gP (jX T) (hr.mono (by decide)) (pv 0) (ag (pv 2) aC)) aC))) (ag (pv 1) aC))))))),?_⟩;obtain⟨hD,hl,yY,q⟩:=h;obtain⟨vT,vF,vU,h1,_⟩:=id hD.ex;have PF:ln≠d:=aK hl h1 nofun
 push_cast[h1,T.iK];refine⟨d,eV,ln,st,b,most,rfl,hD,hl,yY,λH1 LC k1=>?_⟩;have Xt:=k1.bM hl PF;push_cast;rcases Sz st b most with⟨hr,ha⟩|⟨hr,N,ask,rfl,hb,Ly,ui,qU,ha⟩
 ·rw[if_pos (decide_eq_true hr)];refine⟨by decide,λl CT=>?_⟩;generalize e2:upd H1 l _=H2;obtain⟨g2,k2⟩:=al e2 CT;exact q l H2 (by rw[ha];exact g2) (LC.up k2)
 ·rw[hr,if_neg (by decide)];obtain⟨vT1,vF1,Z7,UP,_⟩:=id LC.ex;push_cast[UP,T.iK];refine⟨d,eV,N,rfl,LC,λtd z all fs Z6 H2 o2 g2 hF nf k2=>?_⟩;have hS:=hF.sd.s.up cG;obtain⟨m1,m2⟩:=hF.sd.many nf;rw[qU]at m1;obtain⟨m3,_⟩:=m2 (by have:=of_decide_eq_false m1.symm;omega);have LB:=DT o2 g2 hF nf;have Ga:=k2.bM Xt (aK Xt UP nofun);push_cast[hS.ob,g2,T.cU,T.iK];refine⟨d,eV,ln,N,b,rfl,LB,Ga,hb,yY,λask' la H3 QI hA k3=>?_,λQI=>by rw[ui]at QI;cases QI⟩;rw[ui]at QI;cases QI;refine⟨z.dF,la,N,sL (ie all),ask,rfl,k3.up hS.ls.f,hA,LX hb ui,nf.toNOk,λx hx=>GA hS.ls.ok hx,yK _,λH4 k4=>?_⟩;have hfw:=Nt all ask;rw[<-m3]at hfw;have V0:=k3.trans k4;refine⟨d,eV,N,_,most,KP (dA N) ask,rfl,LB.up V0,qU,?_,Ly,λl H5 g5 UM=>?_⟩
  ·rw[<-m3];exact hfw
  ·exact q l H5 (by rw[ha];exact g5) UM
def Si (t:cT) (K:aa):Sp:=λvs H Q _=>∃(d eV:Addr) (st:iU) (most:Int),vs=[.ref d,.int most]/\eJ t K H d eV st /\
 ∀(l:Addr) (H':Hp),H' l=some (.lst (fC (Cm (cz st (.stuck most)))))->eJ t K H' d eV st->Q (.ref l) H'
theorem FR (T:Txt K mg t):yy P w K mg base 13 t.dE "stuck" ["self", "most"] (Si t K):=by
 obtain⟨f,fd,F,M⟩:=T.xV;refine⟨T.iu.cl,f,fd,F.ok vJ (λvs H Q E h=>?_) (λgw A outer s H vs Q E hr h=>?_),M,F.binds (λ_ _ _ _ _ _ us hl=>match us,hl with|[_,_],_=>rfl)⟩
 ·obtain⟨d,eV,st,most,rfl,_⟩:=h;rfl
 obtain⟨d,eV,st,most,rfl,h⟩:=h;have hu:=cF hr;refine⟨_,(aj (bO (i:=2) vJ.nd rfl (aX rfl) (gP (pM T) (hr.mono (by decide)) (pv 0) (ag (pv 1) (ag (c9 aC) aC)))) (aj (cS (br nZ (pv 2) bf (bN _)) (aD (bj (c9 (ag (pv 2) aC)))) bL) (aD (bj (gP (sS T) (hr.mono (by decide)) (pv 0) (ag (aV (nL (j9 T) (hr.mono (by decide)) (pv 0)) rfl) (ag (pv 1) aC))))))),?_⟩;obtain⟨hD,q⟩:=h;obtain⟨vT,vF,vU,h1,_⟩:=id hD.ex;push_cast[h1,T.iK];intro ln hln;generalize e0:upd H ln _=H0;obtain⟨g0,k0⟩:=al e0 hln;refine⟨d,eV,ln,st,[],most,rfl,hD.up k0,g0,by simp,λH1 LC k1=>?_⟩;push_cast;rcases MH st most with⟨hr,ha⟩|⟨hr,N,rfl,Ly,qU,ha⟩
 ·rw[if_pos (decide_eq_true hr)];refine⟨by decide,λl CT=>?_⟩;generalize e2:upd H1 l _=H2;obtain⟨g2,k2⟩:=al e2 CT;exact q l H2 (by rw[ha];exact g2) (LC.up k2)
 ·rw[hr,if_neg (by decide)];obtain⟨vT1,vF1,Z7,UP,_⟩:=id LC.ex;push_cast[UP,T.iK];refine⟨d,eV,N,rfl,LC,λtd z all fs Z6 H2 o2 g2 hF nf k2=>?_⟩;have hS:=hF.sd.s.up cG;obtain⟨m1,m2⟩:=hF.sd.many nf;rw[qU]at m1;obtain⟨m3,m4,_⟩:=m2 (by have:=of_decide_eq_false m1.symm;omega);have LB:=DT o2 g2 hF nf;push_cast[hS.ob,T.cU];refine⟨d,eV,N,_,most,C8 N (dA N),rfl,LB,qU,?_,Ly,λl H5 g5 UM=>?_⟩
  ·rw[m4,m3];exact Sg N all
  ·exact q l H5 (by rw[ha];exact g5) UM
end
theorem Om {H:Hp}{A B:List Addr}(h:∀x,x∈A↔x∈B):wo H A=wo H B:=by
 funext x
 unfold wo;simp only[h x]
theorem FO.mono {A B:List Addr}(h:∀x∈A,x∈B){o:HO}(f:FO A o):FO B o:=by
 cases o<;>first|exact f|exact h _ f
theorem yn.both {H:Hp}{A B:List Addr}(a:yn H A) (b:yn (wo H A) B):yn H (A++B):=λx hx=>by
 rcases aN.mp hx with h|h
 ·obtain⟨o,h1,h2⟩:=a x h;exact⟨o,h1,h2.mono λy hy=>aN.mpr (.inl hy)⟩
 ·obtain⟨o,h1,h2⟩:=b x h;exact⟨o,(bE.mp h1).2,h2.mono λy hy=>aN.mpr (.inr hy)⟩
theorem sH.call {t:cT}{K:aa}{H2 H3:Hp}{D:List Addr}{N:Net}{td:Addr}{z:Sa}{all:List Found}{fs:Int}{vU vU':V}(h:sH t K (wo H2 D) N td z all fs vU) (hW:fT t K (wo H3 (D++z.M)) z.w z.ks N) (k:Keeps [z.ks] (wo H2 (D++z.M)) (wo H3 (D++z.M))) (em:∀x∈D++z.M,H3 x=H2 x) (hu:vU' = .gi\/∃u,vU' = .ref u/\qk (wo H3 D) u N):sH t K (wo H3 D) N td z all fs vU':=by
 rw[<-Gi,<-Gi]at k;rw[<-Gi]at hW;refine⟨?_,⟨h.sd.s.call k (λx hx=>?_) hW,h.sd.l,h.sd.e⟩,hu⟩
 ·have e:∀G:Hp,wo G (z.ks::z.M)=wo (wo G z.M) [z.ks]:=λG=>by
   rw[Gi];exact Om λx=>by simp only[ah,aN,aF,or_false];exact Or.comm
  have:=h.td;rw[e]at this⊢;exact this.up k.wo
 ·by_cases hd:x∈D
  ·rw[zB hd,zB hd]
  ·rw[nH hd,nH hd];exact em x (aN.mpr (.inr hx))
section
variable {P:Program}{w:World}{K:aa}{mg:Str->Option Value}{base:Heap}{t:cT}
def Sk (t:cT) (K:aa):Sp:=λvs H Q _=>∃(d eV ln:Addr) (st:iU) (b:List Nat),vs=[.ref d,.ref ln]/\eJ t K H d eV st/\H ln=some (.lst (nR b))/\(∀c∈b,c<256) /\
 ∀(l:Addr) (H':Hp),H' l=some (.lst (fC (Cm (cz st (.least b b.length)))))->eJ t K H' d eV st->Q (.ref l) H'
set_option maxHeartbeats 1000000 in
theorem FT (T:Txt K mg t):yy P w K mg base 13 t.dE "least" ["self", "numbers"] (Sk t K):=by
 obtain⟨f,fd,F,M⟩:=T.xW;refine⟨T.iu.cl,f,fd,F.ok qr (λvs H Q E h=>?_) (λgw A outer s H vs Q E hr h=>?_),M,F.binds (λ_ _ _ _ _ _ us hl=>match us,hl with|[_,_],_=>rfl)⟩
 ·obtain⟨d,eV,ln,st,b,rfl,_⟩:=h;rfl
 obtain⟨d,eV,ln,st,b,rfl,h⟩:=h;have hu:=cF hr;refine⟨_,(aj (bO (i:=2) qr.nd rfl (aX rfl) (gP (pM T) (hr.mono (by decide)) (pv 0) (ag bf (ag (pv 1) aC)))) (aj (cS (br nZ (pv 2) bf (bN _)) (aD (bj (c9 (ag (pv 2) aC)))) bL) (aj (cS (br E2 (aV (pv 0) rfl) my (bN _)) (aD (bW (pv 0) (eG (CZ T).frame (hr.mono (by decide)) rfl (ag (aV (nL (j9 T) (hr.mono (by decide)) (pv 0)) rfl) aC)) rfl)) bL) (aj (bO (i:=3) qr.nd rfl (aX rfl) (eG (vZ T) (hr.mono (by decide)) rfl (ag (aV (pv 0) rfl) (ag (gP (jX T) (hr.mono (by decide)) (pv 0) (ag (pv 1) aC)) aC)))) (aD (bj (c9 (ag (xB (br nZ (pv 3) bf (bN _)) (b9 T.pw rfl) (pv 3)) aC)))))))),?_⟩;obtain⟨hD,hl,yY,q⟩:=h;obtain⟨vT,vF,vU,h1,_⟩:=id hD.ex;have PF:ln≠d:=aK hl h1 nofun
 push_cast[h1,T.iK];refine⟨d,eV,ln,st,b,0,rfl,hD,hl,yY,λH1 LC k1=>?_⟩;have Xt:=k1.bM hl PF;push_cast;rcases MJ st b with⟨hr,ha⟩|⟨hr,N,ask,rfl,hb,ui,qU,ha⟩
 ·rw[if_pos (decide_eq_true hr)];refine⟨by decide,λl CT=>?_⟩;generalize e2:upd H1 l _=H2;obtain⟨g2,k2⟩:=al e2 CT;exact q l H2 (by rw[ha];exact g2) (LC.up k2)
 ·rw[hr,if_neg (by decide)];have tail:∀(H5:Hp) (u:Addr),qk H5 u N->eJ t K H5 d eV (some N)->H5 ln=some (.lst (nR b))->mm N->vC t K [V.ref d,V.ref ln] H5 (λx H1=>xo [V.ref u,x] H1 (λx H1=>∃i,x=V.int i/\if decide (i<0)=true then 1<=sizeLine/\∀(p:Addr),H1 p=none->Q (V.ref p) (upd H1 p (HO.lst [V.int (-6)])) else 1<=sizeLine/\∀(p:Addr),H1 p=none->Q (V.ref p) (upd H1 p (HO.lst [x]))) E0) E0:=by
   intro H5 u hU UM hl5 nf;obtain⟨us,d1,d2,d3,d4⟩:=hU.ex;refine⟨d,eV,ln,N,b,rfl,UM,hl5,hb,yY,λask' la H6 QI hA k6=>?_,λQI=>by rw[ui]at QI;cases QI⟩;rw[ui]at QI;cases QI;refine⟨u,la,N,us,ask,rfl,k6.up d1,hA,LX hb ui,nf.toNOk,d3,d4,λH7 k7=>⟨_,rfl,?_⟩⟩;have hD7:=UM.up (k6.trans k7);have hl:=d2 ask;cases hf:us.find? λx=>gn x.1 ask with
   | none =>
    rw[hf]at hl;rw[if_pos (by decide)];refine⟨by decide,λl CT=>?_⟩;generalize e2:upd H7 l _=H8;obtain⟨g8,k8⟩:=al e2 CT;exact q l H8 (by rw[ha,hl];exact g8) (hD7.up k8)
   | some y =>
    rw[hf]at hl;rw[if_neg (by simp)];refine⟨by decide,λl CT=>?_⟩;generalize e2:upd H7 l _=H8;obtain⟨g8,k8⟩:=al e2 CT;exact q l H8 (by rw[ha,hl];exact g8) (hD7.up k8)
  obtain⟨vT1,vF1,Z7,UP,hB1⟩:=id LC.ex;rcases hB1 with⟨e,_⟩|⟨N',td,e1,nf,rfl,hB1⟩
  ·cases e
  ·cases e1;have hv:Z7 = .gi\/∃u,Z7 = .ref u/\qk H1 u N:=by
    rcases hB1 with⟨_,h,_⟩|⟨_,_,_,_,h⟩
    ·exact .inl h
    ·rcases h.un with h|⟨u,h,hU⟩
     ·exact .inl h
     ·exact .inr ⟨u,h,hU.up cG⟩
   rcases hv with rfl|⟨u,rfl,hU⟩
   ·push_cast[UP,T.iK,decide_true,if_true];refine⟨d,eV,N,rfl,LC,λtd2 z all fs Z6 H2 o2 g2 hF _ k2=>?_⟩;have hS:=hF.sd.s.up cG;obtain⟨m1,m2⟩:=hF.sd.many nf;rw[qU]at m1;obtain⟨_,_,m5⟩:=m2 (by have:=of_decide_eq_false m1.symm;omega);have LB:=DT o2 g2 hF nf;have Ga:=k2.bM Xt (aK Xt UP nofun);push_cast[hS.ob,T.cU];have UK:=hF.sd.s.wd;rw[Gi]at UK;have fr2:yn H2 ([d,eV]++z.M):=LB.fr.both hF.sd.s.fr;refine⟨[d,eV]++z.M,fr2,z.w,z.ks,N,rfl,UK,nf,m5,λu us H3' gu hus hu2 hu3 hW3 nu k3 H3 e3 em=>?_⟩;subst e3;obtain⟨bD,Wi,_⟩:=UK.kn.ex;have YA:Keeps [z.ks] H2 H3:=oR fr2 k3 em;have UG:=YA.bM Ga (aK Ga (bE.mp Wi).2 nofun);have g3:H3 d=_:=(em d (by simp)).trans g2;have o3:H3 eV=_:=(em eV (by simp)).trans o2;have hU3:qk (wo H3 [d,eV]) u N:=⟨us,bE.mpr ⟨λz=>(bE.mp gu).1 (aN.mpr (.inl z)),(bE.mp gu).2⟩,hus,hu2,hu3⟩;push_cast[g3,T.iK];generalize e4:upd H3 d _=H4;obtain⟨g4,k4⟩:=wr e4;have kw4:Keeps [] (wo H3 [d,eV]) (wo H4 [d,eV]):=(k4.mono (M':=[d,eV]) (by simp)).wo;have hF4:=(hF.call hW3 k3 em (.inr ⟨u,rfl,hU3⟩)).up kw4;have o4:=k4.bM o3 (aK hD.own h1 nofun);have hD4:=DT o4 g4 hF4 nf;have YX:=k4.bM UG PF;have hU4:=(hU3.up kw4).up cG;exact tail H4 u hU4 hD4 YX nf
   ·push_cast[UP,T.iK];rw[if_neg (by simp)];exact tail H1 u hU LC Xt nf
end
section
variable {P:Program}{w:World}{K:aa}{mg:Str->Option Value}{base:Heap}{t:cT}
def Vj (t:cT) (K:aa):Sp:=λvs H Q _=>∃(d eV ln:Addr) (st:iU) (b:List Nat),vs=[.ref d,.ref ln]/\eJ t K H d eV st/\H ln=some (.lst (nR b))/\(∀c∈b,c<256) /\
 ∀(l:Addr) (H':Hp),H' l=some (.lst (fC (Cm (cz st (.load b b.length)))))->eJ t K H' d eV (cz st (.load b b.length)).1->Q (.ref l) H'
set_option maxHeartbeats 1000000 in
theorem HU (T:Txt K mg t):yy P w K mg base 9 t.dE "load" ["self", "numbers"] (Vj t K):=by
 obtain⟨f,fd,F,M⟩:=T.z3;refine⟨T.iu.cl,f,fd,F.ok xr (λvs H Q E h=>?_) (λgw A outer s H vs Q E hr h=>?_),M,F.binds (λ_ _ _ _ _ _ us hl=>match us,hl with|[_,_],_=>rfl)⟩
 ·obtain⟨d,eV,ln,st,b,rfl,_⟩:=h;rfl
 obtain⟨d,eV,ln,st,b,rfl,h⟩:=h;have hu:=cF hr;refine⟨_,(aj (cS (br vM (bT cO rfl T.eY dR (ag (pv 1) aC)) (b9 T.ip rfl) (bN _)) (aD (bj (c9 (ag (b9 T.gq rfl) aC)))) bL) (aj (bO (i:=2) xr.nd rfl (aX rfl) (eG (HL T).frame (hr.mono (by decide)) rfl (ag (eG (DW T) (hr.mono (by decide)) rfl (ag (pv 1) aC)) aC))) (aj (bW (pv 0) (xB (br j3 (aV (pv 2) rfl) bf (bN _)) (aV (pv 2) rfl) my) rfl) (aj (bW (pv 0) my rfl) (aj (bW (pv 0) my rfl) (aD (bj (c9 (ag (aV (pv 2) rfl) aC))))))))),?_⟩;obtain⟨hD,hl,yY,q⟩:=h;obtain⟨vT,vF,vU,h1,_⟩:=id hD.ex;have bl:(nR b).length=b.length:=by simp[nR]
 push_cast[hl,bl];have hif:(l0 (b.length:Int) 0 Md16.TEXT=false)↔4096<b.length:=by
  rw[ni];simp only[Md16.TEXT];omega
 unfold cz at q;dsimp only at q;by_cases c:4096<b.length
 ·rw[if_pos (hif.mpr c)]at q;rw[if_pos (decide_eq_true (by omega))];refine⟨by decide,λl CT=>?_⟩;generalize e2:upd H l _=H2;obtain⟨g2,k2⟩:=al e2 CT;exact q l H2 g2 (hD.up k2)
 ·rw[if_neg (λz=>c (hif.mp z))]at q;rw[if_neg (by simp;omega)];refine⟨ln,b,rfl,hl,by omega,yY,λH1 k1=>?_⟩;have LC:=hD.up k1;have g1:=k1.up h1;refine⟨[d,eV],LC.fr,b.map cl,rfl,by rw[ax];omega,λc hc=>?_,λrd dxr td Kw H2' gr df Y1 H2 e2 em=>?_⟩
  ·obtain⟨x,_,rfl⟩:=aH.mp hc;exact Q6 x
  ·subst e2;rw[SA]at df Y1;have gd:H2 d=_:=(em d (by simp)).trans g1;have od:H2 eV=_:=(em eV (by simp)).trans (k1.up hD.own);have gr2:=(bE.mp gr).2;have nrd:rd≠d:=λz=>(bE.mp gr).1 (by rw[z];simp)
   push_cast[gr2,gd,T.u6,T.iK];have tail:∀(vT':V) (Cu:iU),Ik t K (wo H2 [d,eV]) Cu vT' .gi .gi->∀(l:Addr) (H3:Hp),H3 d=some (.ins t.dE eV (fW vT' .gi .gi))->Keeps [d] H2 H3->eJ t K H3 d eV Cu:=by
    intro vT' Cu hB l H3 g3 k3;exact⟨k3.bM od (aK hD.own h1 nofun),_,_,_,g3,hB.up (k3.mono (M':=[d,eV]) (by simp)).wo⟩
   cases Hm:jf b with
   | ok N =>
    rw[Hm]at q;obtain⟨ea,hT⟩:=df N Hm;subst ea;rw[if_pos (by decide)];generalize e3:upd H2 d _=H3;obtain⟨g3,k3⟩:=wr e3;have gr3:=k3.bM gr2 nrd;push_cast[gr3,T.u6];refine⟨by decide,λl CT=>?_⟩;generalize e4:upd H3 l _=H4;obtain⟨g4,k4⟩:=al e4 CT;exact q l H4 g4 ((tail _ (some N) (.inr ⟨N,td,rfl,MK Hm,rfl,.inl ⟨rfl,rfl,hT⟩⟩) l H3 g3 k3).up k4)
   | error n =>
    rw[Hm]at q;have ea:=Y1 n Hm;subst ea;rw[if_neg (by simp;omega)];generalize e3:upd H2 d _=H3;obtain⟨g3,k3⟩:=wr e3;have gr3:=k3.bM gr2 nrd;push_cast[gr3,T.u6];refine⟨by decide,λl CT=>?_⟩;generalize e4:upd H3 l _=H4;obtain⟨g4,k4⟩:=al e4 CT;refine q l H4 ?_ ((tail _ none (.inl ⟨rfl,rfl,rfl,rfl⟩) l H3 g3 k3).up k4);rw[g4];simp only[Cm,Md16.only,fC,aP,cn];rw[show(1+(n:Int))=((n+1:Nat):Int) by omega]
end
def FZ (H H':Hp):Prop:=∀b o u,H b=some (.oJ o u)->H' b=some (.oJ o u)
def Zg (sp:Sp):Sp:=λvs H Q E=>sp vs H (λv H'=>FZ H H'->Q v H') E
section
variable {P:Program}{w:World}{K:aa}{mg:Str->Option Value}{base:Heap}
theorem WA {k:Nat}{f:Addr}{fd:FuncData}{ps:List Str}{sp:Sp}(F:pR P w K mg base NR k f fd ps sp):pR P w K mg base NR k f fd ps (Zg sp):=by
 refine⟨λvs H Q E q=>F.len _ _ _ _ q,λA outer s H args us vs Q E hr he hb hv q=>?_⟩;refine codeAny_mono (F.run A outer s H args us vs _ E hr he hb hv q) λr s' hq=>?_
 match r,hq with
 | .ok (.ret u),hq =>
  obtain⟨v,H',os,bare,un,df,r,q⟩:=hq;exact⟨v,H',os,bare,un,df,r,q un.xN⟩
theorem vm.oJ {k:Nat}{x:Str}{ps:List Str}{sp:Sp}(F:vm P w K mg base k x ps sp):vm P w K mg base k x ps (Zg sp):=by
 obtain⟨f,fd,h,r⟩:=F.ex;exact⟨f,fd,WA h,r⟩
end
theorem FZ.of {H H':Hp}(k:Keeps [] H H'):FZ H H':=λb o u h=>k.up h
theorem FZ.trans {H H1 H2:Hp}(a:FZ H H1) (b:FZ H1 H2):FZ H H2:=λx o u h=>b x o u (a x o u h)
theorem dO.ups {K:aa}{H H':Hp}(k:Keeps [] H H'){a:Addr}{xs:List V}(h:dO K H a xs):dO K H' a xs:=by
 rcases h with(h|⟨o,h⟩)|h
 ·exact .inl (.inl (k.up h))
 ·exact .inl (.inr ⟨o,k.up h⟩)
 ·exact .inr h
theorem dO.nB {K:aa}{H H':Hp}{p C dx:Addr}{fs:List (Str×V)}(k:Keeps [p] H H') (hp:H p=some (.ins C dx fs)){a:Addr}{xs:List V}(h:dO K H a xs):dO K H' a xs:=by
 rcases h with(h|⟨o,h⟩)|h
 ·exact .inl (.inl (k.bM h (aK h hp nofun)))
 ·exact .inl (.inr ⟨o,k.bM h (aK h hp nofun)⟩)
 ·exact .inr h
theorem de {α:Type}{xs:List α}{i:Nat}{x:α}(h:xs[i]?=some x):L2.nB xs (i:Int)=some x:=by
 unfold L2.nB;rw[xG (aw.mp h).1];exact h
inductive Cp:C3->Int->Int->List Int->Prop where
 | load (x:List Int):Cp [[1],x] 1 0 x
 | way (m:Int) (x:List Int):Cp [[2,m],x] 2 m x
 | least (x:List Int):Cp [[3],x] 3 0 x
 | stuck (m:Int):Cp [[4,m]] 4 m []
theorem x9 {l:List Int}{at_:Nat}{p:Int}{r:List Int}(h:l.drop at_=p::r):l[at_]?=some p/\l.drop (at_+1)=r:=by
 constructor
 ·have:=congrArg (λz:List Int=>z[0]?) h;simpa using this
 ·rw[<-vw,h];rfl
theorem int_at {l:List Int}{i:Nat}{p:Int}(h:l[i]?=some p):L2.nB (fC l) (i:Int)=some (.int p):=by
 refine de ?_;unfold fC;rw[aR,h];rfl
theorem TZ {l r:List Int}{b n:Nat}(h:l.drop b=r) (hn:n<=r.length):Ny (fC l) (some (b:Int)) (some ((b+n:Nat):Int))=fC (r.take n):=by
 have hl:r.length=l.length-b:=by rw[<-h,cD]
 have e1:HT.EM (fC l).length 0 (some (b:Int))=min b l.length:=by
  unfold HT.EM fC;dsimp only;rw[if_neg (by omega),ax];rfl
 have e2:HT.EM (fC l).length (fC l).length (some ((b+n:Nat):Int))=min (b+n) l.length:=by
  unfold HT.EM fC;dsimp only;rw[if_neg (by omega),ax];rfl
 unfold Ny;rw[e1,e2];by_cases hb:b<=l.length
 ·rw[oW hb,oW (by omega),Nat.add_sub_cancel_left];unfold fC;rw[<-List.map_drop,<-List.map_take,h]
 ·have:r=[]:=kZ.mp (by omega);have hn0:n=0:=by rw[this]at hn;simpa using hn
  subst hn0;rw[j0,Nat.sub_self];rfl
section
variable {P:Program}{w:World}{K:aa}{mg:Str->Option Value}{base:Heap}{t:cT}
def Jr (t:cT) (K:aa):Sp:=λvs H Q _=>∃(a dx la:Addr) (l:List Int) (at_:Nat) (r:List Int) (c:C3) (rest:List Int),vs=[.ref a,.ref la,.int (at_:Nat)]/\H a=some (.ins t.je dx [])/\dO K H la (fC l)/\l.drop at_=r/\wY r c rest /\
 ∀(lr:Addr) (num most:Int) (row:List Int) (behind:Nat) (H':Hp),H' a=some (.ins t.je dx (js (.int num) (.int most) (.ref lr) (.int (behind:Nat))))->H' lr=some (.lst (fC row))->Cp c num most row->l.drop behind=rest->at_<behind->behind<=l.length->H lr=none->Keeps [a] H H'->Q .gi H'
set_option maxHeartbeats 1000000 in
theorem HW (T:Txt K mg t):IA P w K mg base 1 t.je "Call" ["self", "calls", "at"] (Jr t K):=by
 obtain⟨f,fd,F,M,g⟩:=T.z5;refine⟨f,fd,F.ok xt (λvs H Q E h=>?_) (λgw A outer s H vs Q E hr h=>?_),M,g,F.binds (λ_ _ _ _ _ _ us hl=>match us,hl with|[_,_,_],_=>rfl)⟩
 ·obtain⟨a,dx,la,l,at_,r,c,rest,rfl,_⟩:=h;rfl
 obtain⟨a,dx,la,l,at_,r,c,rest,rfl,h⟩:=h;have hu:=cF hr;refine⟨_,(aj (bW (pv 0) (dw AI (pv 1) (pv 2) (λ_ _=>rfl)) rfl) (aj (bW (pv 0) bf rfl) (aj (bW (pv 0) (c9 aC) rfl) (aj (bW (pv 0) (eF ku (pv 2) bf) rfl) (aj (cS (br uZ (aV (pv 0) rfl) (yM (ag (b9 T.zJ rfl) (ag (b9 T.u9 rfl) aC))) (by with_unfolding_all rfl)) (aj (bW (pv 0) (dw AI (pv 1) (aV (pv 0) rfl) (λ_ _=>rfl)) rfl) (aD (Ds (pv 0) bf Qm))) bL) (aD (cS (br uZ (aV (pv 0) rfl) (yM (ag (b9 T.wD rfl) (ag (b9 T.zJ rfl) (ag (b9 T.rX rfl) aC)))) (by with_unfolding_all rfl)) (aj (bO (i:=3) xt.nd rfl (aX rfl) (eF ku (aV (pv 0) rfl) bf)) (aj (bW (pv 0) (eF ku (pv 3) (dw AI (pv 1) (aV (pv 0) rfl) (λ_ _=>rfl))) rfl) (aD (bW (pv 0) (Ph So (pv 1) (Le (pv 3)) (Le (aV (pv 0) rfl))) rfl)))) bL))))))),?_⟩;obtain⟨h1,hs,hd,hc,q⟩:=h;obtain⟨p,r2,rfl⟩:∃p r2,r=p::r2:=by cases hc<;>exact⟨_,_,rfl⟩
 obtain⟨hp,Wl⟩:=x9 hd;push_cast;refine⟨la,_,_,_,rfl,rfl,hs,int_at hp,?_⟩;push_cast[h1,T.kC];intro lr YT;generalize e1:upd H a _=H1 at YT⊢;obtain⟨g1,k1⟩:=wr e1;generalize e2:upd H1 lr _=H2;obtain⟨g2,k2⟩:=al e2 YT;have Ux:lr≠a:=λz=>by rw[z,g1]at YT;cases YT
 have flr:H lr=none:=k1.gr _ YT;push_cast[k2.up g1,T.kC];generalize e3:upd H2 a _=H3;obtain⟨g3,k3⟩:=wr e3;have gl3:=k3.bM g2 Ux;have Hh:Keeps [a] H H3:=(k1.trans k2.any).trans k3;refine⟨by decide,λtp htp=>?_⟩;generalize e4:upd H3 tp _=H4;obtain⟨g4,k4⟩:=al e4 htp;have UB:=Hh.trans k4.any;have RM:=k4.up g3;refine⟨tp,_,rfl,.inr (lR.of g4),rfl,rfl,_,rfl,?_⟩;have O7:∀(G:Hp) (m n j:Int) (bM:Nat) (z:List Int),j=(bM:Nat)->G a=some (.ins t.je dx (js (.int p) (.int m) (.ref lr) (.int j)))->Keeps [a] H G->at_<bM->l.drop bM=n::z->0<=n->n.toNat<=z.length->rest=z.drop n.toNat->Cp c p m (z.take n.toNat) ->
   Yg K (V.ref la) (V.int j) G λy H2=>∃x,y=V.int x/\∃Xc x_2 Z5,H2 a=some (HO.ins Xc x_2 Z5)/\sV K Xc/\cb K Xc (Str.ofString "behind")/\Z5.length<1000/\sV K Xc/\cb K Xc (Str.ofString "behind")/\∃x_4,jS (Str.ofString "behind") (a0 (Str.ofString "behind") (V.int (j+1+x)) Z5)=some x_4/\∃i,x_4=V.int i /\
    Yf K (V.ref la) (some (j+1)) (some i) (upd H2 a (HO.ins Xc x_2 (a0 (Str.ofString "behind") (V.int (j+1+x)) Z5))) λy H1=>∃x x_5 x_6,H1 a=some (HO.ins x x_5 x_6)/\sV K x/\cb K x (Str.ofString "row")/\x_6.length<1000/\Q V.gi (upd H1 a (HO.ins x x_5 (a0 (Str.ofString "row") y x_6))):=by
  intro G m n j bM z hj hG kG hX hdr hn hnx uh hcf;subst hj;obtain⟨ha1,hd2⟩:=x9 hdr;have hlen:z.length=l.length-(bM+1):=by rw[<-hd2,cD]
  have UJ:=(aw.mp ha1).1;refine⟨la,_,_,_,rfl,rfl,dO.nB kG h1 hs,int_at ha1,n,rfl,?_⟩;push_cast[hG,T.kC];generalize e6:upd G a _=H6;obtain⟨g6,k6⟩:=wr e6;refine⟨la,_,rfl,dO.nB (kG.trans k6) h1 hs,λlr2 Tq=>?_⟩;have ej:((bM:Nat):Int)+1=((bM+1:Nat):Int):=by omega
  have ek:((bM:Nat):Int)+1+n=((bM+1+n.toNat:Nat):Int):=by omega
  rw[ek]at g6⊢;rw[ej,TZ hd2 hnx];generalize e7:upd H6 lr2 _=H7;obtain⟨g7,k7⟩:=al e7 Tq;push_cast[k7.up g6,T.kC];generalize e8:upd H7 a _=H8;obtain⟨g8,k8⟩:=wr e8;have kg6:=kG.trans k6;exact q lr2 p m (z.take n.toNat) (bM+1+n.toNat) H8 g8 (k8.bM g7 (λy=>by rw[y,g6]at Tq;cases Tq)) hcf (by rw[<-vw,hd2,uh]) (by omega) (by omega) (kg6.gr _ Tq) ((kg6.trans k7.any).trans k8)
 cases hc with
 | load n x hn hl =>
  rw[if_neg (by decide)];push_cast[RM,T.kC];refine⟨by decide,λtq Wd=>?_⟩;generalize e5:upd H4 tq _=H5;obtain⟨g5,k5⟩:=al e5 Wd;refine⟨tq,_,rfl,.inr (lR.of g5),rfl,rfl,_,rfl,?_⟩;rw[if_pos (by decide)];push_cast[k5.up RM,T.kC];exact O7 H5 0 n _ (at_+1) x (by omega) (k5.up RM) (UB.trans k5.any) (by omega) Wl hn hl rfl (.load _)
 | least n x hn hl =>
  rw[if_neg (by decide)];push_cast[RM,T.kC];refine⟨by decide,λtq Wd=>?_⟩;generalize e5:upd H4 tq _=H5;obtain⟨g5,k5⟩:=al e5 Wd;refine⟨tq,_,rfl,.inr (lR.of g5),rfl,rfl,_,rfl,?_⟩;rw[if_pos (by decide)];push_cast[k5.up RM,T.kC];exact O7 H5 0 n _ (at_+1) x (by omega) (k5.up RM) (UB.trans k5.any) (by omega) Wl hn hl rfl (.least _)
 | way m n x hn hl =>
  rw[if_pos (by decide)];obtain⟨hm,hd2⟩:=x9 Wl;push_cast[RM,T.kC];refine⟨la,_,(at_+1:Nat),_,rfl,(by rw[V.int.injEq];omega),dO.nB UB h1 hs,int_at hm,?_⟩;push_cast[RM,T.kC];refine⟨by decide,?_⟩;generalize e5:upd H4 a _=H5;obtain⟨g5,k5⟩:=wr e5;intro tq Wd;generalize e6:upd H5 tq _=H6;obtain⟨g6,k6⟩:=al e6 Wd;refine⟨tq,_,rfl,.inr (lR.of g6),rfl,rfl,_,rfl,?_⟩;rw[if_pos (by decide)];push_cast[k6.up g5,T.kC];exact O7 H6 m n _ (at_+1+1) x (by omega) (k6.up g5) ((UB.trans k5).trans k6.any) (by omega) hd2 hn hl rfl (.way _ _)
 | stuck m =>
  rw[if_pos (by decide)];obtain⟨hm,hd2⟩:=x9 Wl;push_cast[RM,T.kC];refine⟨la,_,(at_+1:Nat),_,rfl,(by rw[V.int.injEq];omega),dO.nB UB h1 hs,int_at hm,?_⟩;push_cast[RM,T.kC];refine⟨by decide,?_⟩;generalize e5:upd H4 a _=H5;obtain⟨g5,k5⟩:=wr e5;intro tq Wd;generalize e6:upd H5 tq _=H6;obtain⟨g6,k6⟩:=al e6 Wd;refine⟨tq,_,rfl,.inr (lR.of g6),rfl,rfl,_,rfl,?_⟩;rw[if_neg (by decide)];have UJ:=(aw.mp hm).1;have ek:((at_:Nat):Int)+1+1=((at_+2:Nat):Int):=by omega
  rw[ek]at g5;exact q lr 4 m [] (at_+2) H6 (k6.up g5) (k6.up (k5.bM (k4.up gl3) Ux)) (.stuck _) hd2 (by omega) (by omega) flr ((UB.trans k5).trans k6.any)
theorem wU {x:List Int}(h:∀z∈x,0<=z/\z<256):nR (x.map j1)=fC x:=by
 unfold nR fC;rw[da];refine iw λz hz=>?_
 show V.int ((z.toNat:Nat):Int)=V.int z;rw[Int.toNat_of_nonneg (h z hz).1]
theorem zi {x:List Int}(h:∀z∈x,0<=z/\z<256):∀c∈x.map j1,c<256:=λc hc=>by
 obtain⟨z,hz,rfl⟩:=aH.mp hc;have:=h z hz;omega
def Jt (t:cT) (K:aa):Sp:=λvs H Q _=>∃(d eV ca FC lr:Addr) (st:iU) (c:C3) (num most behind:Int) (row:List Int),vs=[.ref d,.ref ca]/\eJ t K (wo H [ca,FC]) d eV st/\H ca=some (.ins t.je FC (js (.int num) (.int most) (.ref lr) (.int behind)))/\H FC=some (.own ca)/\H lr=some (.lst (fC row))/\Cp c num most row/\NM c=true /\
 ∀(l:Addr) (H':Hp),H' l=some (.lst (fC (qL st c).2))->eJ t K (wo H' [ca,FC]) d eV (qL st c).1->H' ca=H ca->Q (.ref l) H'
set_option maxHeartbeats 1000000 in
theorem HN (T:Txt K mg t):vm P w K mg base 14 "answer_of" ["desk", "call"] (Jt t K):=by
 obtain⟨f,fd,F,M⟩:=T.zV;refine⟨f,fd,F.ok EI (λvs H Q E h=>?_) (λgw A outer s H vs Q E hr h=>?_),M,F.kp,F.binds (λ_ _ _ _ _ _ us hl=>match us,hl with|[_,_],_=>rfl)⟩
 ·obtain⟨d,eV,ca,FC,lr,st,c,num,most,behind,row,rfl,_⟩:=h;rfl
 obtain⟨d,eV,ca,FC,lr,st,c,num,most,behind,row,rfl,h⟩:=h;have hu:=cF hr;refine⟨_,(aj (cS (br j3 (aV (pv 1) rfl) (b9 T.wD rfl) (bN _)) (aD (bj (gP (HU T).frame (hr.mono (by decide)) (pv 0) (ag (aV (pv 1) rfl) aC)))) bL) (aj (cS (br j3 (aV (pv 1) rfl) (b9 T.zJ rfl) (bN _)) (aD (bj (gP (Kt T).frame (hr.mono (by decide)) (pv 0) (ag (aV (pv 1) rfl) (ag (aV (pv 1) rfl) aC))))) bL) (aj (cS (br j3 (aV (pv 1) rfl) (b9 T.rX rfl) (bN _)) (aD (bj (gP (FT T).frame (hr.mono (by decide)) (pv 0) (ag (aV (pv 1) rfl) aC)))) bL) (aD (bj (gP (FR T).frame (hr.mono (by decide)) (pv 0) (ag (aV (pv 1) rfl) aC))))))),?_⟩;obtain⟨hD,hc,ho,hl,cf,ha,q⟩:=h;obtain⟨vT,vF,vU,h1,_⟩:=id hD.ex;have CW:=(bE.mp h1).2;push_cast[hc,CW,T.kC];have fr:yn H [ca,FC]:=λx hx=>by
  simp only[ah,aF,or_false]at hx;rcases hx with rfl|rfl
  ·exact⟨_,hc,by simp[FO]⟩
  ·exact⟨_,ho,by simp[FO]⟩
 have Ux:lr∉[ca,FC]:=λhx=>by
  simp only[ah,aF,or_false]at hx;rcases hx with rfl|rfl
  ·rw[hc]at hl;cases hl
  ·rw[ho]at hl;cases hl
 have ml:∀x:List Int,((x.map j1).length:Int)=x.length:=λx=>by rw[ax]
 cases cf with
 | load =>
  rw[if_pos (by decide)];obtain⟨hb,_⟩:=Rk ha;rw[Mx.step_load]at q;refine⟨[ca,FC],fr,d,eV,lr,st,row.map j1,rfl,hD,bE.mpr ⟨Ux,by rw[wU hb];exact hl⟩,zi hb,λl H' gl UN H2 e2 em=>?_⟩;subst e2;rw[ml]at gl UN;exact q l H2 (bE.mp gl).2 UN (em ca (by simp))
 | way =>
  rw[if_neg (by decide),if_pos (by decide)];obtain⟨hb,_⟩:=T7 ha;rw[OW]at q;refine⟨[ca,FC],fr,d,eV,lr,st,row.map j1,most,rfl,hD,bE.mpr ⟨Ux,by rw[wU hb];exact hl⟩,zi hb,λl H' gl UN H2 e2 em=>?_⟩;subst e2;rw[ml]at gl;refine q l H2 (bE.mp gl).2 ?_ (em ca (by simp));rw[show(fin (cz st (.way (row.map j1) row.length most))).1=st from(zl st _ _ most).1];exact UN
 | least =>
  rw[if_neg (by decide),if_neg (by decide),if_pos (by decide)];obtain⟨hb,_⟩:=NL ha;rw[Ja]at q;refine⟨[ca,FC],fr,d,eV,lr,st,row.map j1,rfl,hD,bE.mpr ⟨Ux,by rw[wU hb];exact hl⟩,zi hb,λl H' gl UN H2 e2 em=>?_⟩;subst e2;rw[ml]at gl;refine q l H2 (bE.mp gl).2 ?_ (em ca (by simp));rw[show(fin (cz st (.least (row.map j1) row.length))).1=st from(zl st _ _ 0).2.1];exact UN
 | stuck =>
  rw[if_neg (by decide),if_neg (by decide),if_neg (by decide)];rw[I0]at q;refine⟨[ca,FC],fr,d,eV,st,most,rfl,hD,λl H' gl UN H2 e2 em=>?_⟩;subst e2;refine q l H2 (bE.mp gl).2 ?_ (em ca (by simp));rw[show(fin (cz st (.stuck most))).1=st from(zl st [] 0 most).2.2];exact UN
def yH (K:aa):Sp:=λvs H Q _=>∃(la:Addr) (l:List Int),vs=[.ref la]/\D9 H/\dO K H la (fC l)/\jx l=true /\
 ∀(ln:Addr) (H':Hp),H' ln=some (.lst (fC (lU l)))->Q (.ref ln) H'
set_option maxHeartbeats 1000000 in
theorem NC (T:Txt K mg t):∃f fd,mg "answers" = some (.ref f)/\(∀(s:Shared) (us:List Value),us.length=(["calls"]:List Str).length->BindsTo s fd ⟨us,[]⟩ ((["calls"]:List Str).zip us))/\∀base:Heap,pR P w K mg base NR 15 f fd ["calls"] (yH K):=by
 obtain⟨f,fd,F,M⟩:=T.DS;refine⟨f,fd,M,λs us hu=>?_,λbase=>F.ok kr (λvs H Q E h=>?_) (λgw A outer s H vs Q E hr h=>?_)⟩
 ·obtain⟨oc,od,kV,doc,pm,an,gw,ct,MS,rfl,lk,RJ⟩:=F.ex;exact match us,hu with|[_],_=>.of_eq rfl
 ·obtain⟨la,l,rfl,_⟩:=h;rfl
 obtain⟨la,l,rfl,h⟩:=h;have hu:=cF hr;refine⟨_,(aj (bO (i:=1) kr.nd rfl (aX rfl) (JC (HV T) (hr.mono (by decide)) rfl)) (aj (bO (i:=2) kr.nd rfl (aX rfl) (c9 aC)) (aj (bO (i:=3) kr.nd rfl (aX rfl) bf) (aj (m8 PassesOwn.never (br nZ (pv 3) (bT yc rfl T.eY dR (ag (pv 0) aC)) (bN _)) (aj (bO (i:=4) kr.nd rfl (aX rfl) (vK (HW T) (hr.mono (by decide)) rfl (ag (pv 0) (ag (pv 3) aC)))) (aj (bO (i:=5) kr.nd rfl (aX rfl) (eG (HN T).oJ.frame (hr.mono (by decide)) rfl (ag (pv 1) (ag (pv 4) aC)))) (aj (d7 (lI bc bq bp eZ (pv 2) (ag (bT cO rfl T.eY dR (ag (pv 5) aC)) aC))) (aj (d7 (lI bc qm ql DE (pv 2) (ag (pv 5) aC))) (aD (bO (i:=3) kr.nd rfl (aX rfl) (aV (pv 4) rfl)))))))) (aD (bj (pv 2))))))),?_⟩;obtain⟨hO,hs,ha,q⟩:=h;push_cast;intro d eV nd ndx nn;generalize e1:upd (upd H eV _) d _=H1;obtain⟨g1,k1⟩:=N0 e1 nd ndx nn;have o1:H1 eV=some (.own d):=by rw[<-e1,cv nn,c0]
 refine⟨d,eV,rfl,g1,λH2 g2 k2=>⟨rfl,?_⟩⟩;have o2:=k2.bM o1 nn;intro ln hln;generalize e3:upd H2 ln _=H3;obtain⟨g3,k3⟩:=al e3 hln;have N1:Keeps [] H H2:=k1.drop k2 (by simpa using nd);have LB:eJ t K H2 d eV none:=⟨o2,_,_,_,g2,.inl ⟨rfl,rfl,rfl,rfl⟩⟩;have hD3:eJ t K (wo H3 [ln]) d eV none:=LB.up (wc k3 (by simpa using hln));have sq:∀G:Hp,FZ H G->dO K G la (fC l):=λG fz=>by
  rcases hs with(h|⟨o,h⟩)|h
  ·rcases hO la with z|⟨o,u,z⟩
   ·rw[h]at z;cases z
   ·rw[h]at z;cases z
  ·exact .inl (.inr ⟨o,fz _ _ _ h⟩)
  ·exact .inr h
 have il:(fC l).length=l.length:=by unfold fC;rw[ax]
 have al':=Ic ha;obtain⟨W,hW⟩:∃W:Nat->L2.St->Hp->Prop,W=λm σ H'=>∃(at_:Nat) (st:iU) (nums:List Int),(∃x y,σ=[some (.ref la),some (.ref d),some (.ref ln),some (.int (at_:Nat)),x,y])/\l.length-at_=m/\at_<=l.length/\Go l (l.drop at_) st nums/\H' ln=some (.lst (fC nums))/\eJ t K (wo H' [ln]) d eV st/\FZ H H':=⟨_,rfl⟩
 refine⟨W,⟨l.length,by rw[hW];exact⟨0,none,[],⟨_,_,rfl⟩,rfl,ck _,QQ ha,g3,hD3,FZ.of (N1.trans k3)⟩⟩,?_⟩;intro m σ H' hw;rw[hW]at hw;obtain⟨at_,st,nums,⟨x,y,rfl⟩,rfl,UJ,Xu,hn,hDk,fz⟩:=hw;have sq':=sq H' fz;push_cast;refine⟨_,.inl sq',?_⟩;rw[il];by_cases hX:at_<l.length
 ·rw[if_pos (decide_eq_true (by omega))];refine⟨λfK C4=>∃m',m'<l.length-at_/\W m' fK C4,λ_ _ h=>h,?_⟩;obtain⟨p,r,hpr⟩:∃p r,l.drop at_=p::r:=by
   cases e:l.drop at_ with
   | nil=>have:=KR.mp e;omega
   | cons p r=>exact⟨p,r,rfl⟩
  rw[hpr]at Xu;obtain⟨c,rest,hc,ui,Ts⟩:=TB Xu;push_cast;intro ca FC VM ndc nnc;generalize e4:upd (upd H' FC _) ca _=H4;obtain⟨g4,k4⟩:=N0 e4 VM ndc nnc;have o4:H4 FC=some (.own ca):=by rw[<-e4,cv nnc,c0]
  refine⟨ca,FC,la,l,at_,_,c,rest,rfl,g4,dO.ups k4 sq',hpr,hc,λlr num most row behind H5 g5 gl5 hcf hd5 abc aaG Ux k5=>⟨rfl,?_⟩⟩;have k45:Keeps [] H' H5:=k4.drop k5 (by simpa using VM);have o5:=k5.bM o4 nnc;have hn5:=k45.up hn;have fr5:yn H5 [ln]:=λx hx=>by rw[aL]at hx;subst hx;exact⟨_,hn5,trivial⟩
  have PF:∀x,H' x=none->x∉[ln]:=λx hx z=>by rw[aL]at z;rw[z,hn]at hx;cases hx
  have UM:eJ t K (wo (wo H5 [ln]) [ca,FC]) d eV st:=hDk.up (wc (k45.any (M:=[ln])).wo λx hx=>by
   simp only[ah,aF,or_false]at hx;rcases hx with rfl|rfl
   ·exact iD VM
   ·exact iD ndc)
  refine⟨[ln],fr5,d,eV,ca,FC,lr,st,c,num,most,behind,row,rfl,UM,bE.mpr ⟨PF ca VM,g5⟩,bE.mpr ⟨PF FC ndc,o5⟩,bE.mpr ⟨PF lr (k4.gr _ Ux),gl5⟩,hcf,ui,λl2 H6' gl2 hD6 gca fz6 H6 e6 em=>?_⟩;subst e6;obtain⟨nl2,gl6⟩:=bE.mp gl2;have hn6:H6 ln=_:=(em ln (by simp)).trans hn5;rw[nH (PF ca VM),nH (PF ca VM),g5]at gca;have aaW:FZ H5 H6:=λb o u hb=>by
   have nb:b∉[ln]:=λz=>by rw[aL]at z;rw[z,hn5]at hb;cases hb
   exact(bE.mp (fz6 b o u (bE.mpr ⟨nb,hb⟩))).2
  have Zf:FZ H H6:=(fz.trans (FZ.of k45)).trans aaW;have hDx:eJ t K (wo H6 [ln]) d eV (qL st c).1:=hD6.up cG;obtain⟨f,post,_,_,YM⟩:=Ts.ex;have hlen:=congrArg jT YM;rw[aJ,aJ,ay]at hlen;generalize (qL st c).2=Kw at gl6 Ts hlen;generalize (qL st c).1=Xf at hDx Ts;have aa3:(fC Kw).length=Kw.length:=by unfold fC;rw[ax]
  have Yq:(fC nums).length=nums.length:=by unfold fC;rw[ax]
  have g7:∀o,upd H6 ln o l2=_:=λo=>(cv (by simpa using nl2)).trans gl6
  have gc7:∀o,upd H6 ln o ca=_:=λo=>(cv (by simpa using PF ca VM)).trans gca
  push_cast[gl6,hn6,aa3,g7,gc7,T.kC];generalize e8:upd H6 ln _=H8;obtain⟨g8,k8⟩:=wr e8;refine⟨by rw[Yq];simp only[sizeLine];omega,by rw[aJ,Yq];simp only[sizeLine,ay,bI];omega,l.length-behind,by omega,?_⟩;rw[hW];refine⟨behind,Xf,nums++(Kw.length:Int)::Kw,⟨_,_,rfl⟩,rfl,aaG,by rw[hd5];exact Ts,?_,hDx.up (k8.mono (M':=[ln]) (by simp)).wo,λb o u hb=>k8.bM (Zf b o u hb) λz=>?_⟩
  ·rw[g8];simp[fC]
  ·have:=Zf b o u hb;rw[z,hn6]at this;cases this
 ·rw[if_neg (by simp;omega)];have e:l.drop at_=[]:=KR.mpr (by omega);rw[e]at Xu;rw[Ww Xu]at hn;exact q ln H' hn
end
theorem fS {K:aa}{x qual m:Str}{st:Stmt}{C f:Addr}{oc:Value}{od an:Option Addr}{MS:Array (Option Value)}{kV doc pm gw ct:Value}(a:aq K (.ref C) m=some (some (.ref f))) (i:a9 K (.ref f)=true) (l:K.lookup f=some ⟨oc,od,.func (jy x qual (vf st) (se st) (aY st) .none kV doc pm an gw ct),MS⟩)
  (c:oV K gw qual=true) (k:cp K (.ref f)=true):∃f fd,ez K x qual st f fd/\aq K (.ref C) m=some (some (.ref f))/\a9 K (.ref f)=true:=⟨f,_,QV l c k,a,i⟩
theorem hZ {K:aa}{x qual m:Str}{st:Stmt}{f:Addr}{oc:Value}{od an:Option Addr}{MS:Array (Option Value)}{kV doc pm gw ct:Value}(a:az K mainGlobals m=some (some (.ref f))) (l:K.lookup f=some ⟨oc,od,.func (jy x qual (vf st) (se st) (aY st) .none kV doc pm an gw ct),MS⟩)
  (c:oV K gw qual=true) (k:cp K (.ref f)=true):∃f fd,ez K x qual st f fd/\az K mainGlobals m=some (some (.ref f)):=⟨f,_,QV l c k,a⟩
theorem U3 {K:aa}{h:Heap}{mg:Str->Option Value}{cK fD dD fN fO ju dX eP cu dE je WV WW:Addr}(X:K.In h) (G:h.Ns mainGlobals mg)
  (Co:az K mainGlobals "Bounds" = some (some (.ref cK))) (xD:sV K cK/\aq K (.ref cK) "lows" = some none/\aq K (.ref cK) "highs" = some none) (BE:dj K cK=true) (Bs:cp K (.ref cK)=true)
  (KC:az K mainGlobals "Edge" = some (some (.ref fD))) (E7:sV K fD/\aq K (.ref fD) "machine" = some none/\aq K (.ref fD) "number" = some none/\aq K (.ref fD) "source" = some none/\aq K (.ref fD) "target" = some none/\aq K (.ref fD) "bounds" = some none/\aq K (.ref fD) "sets" = some none/\aq K (.ref fD) "meeting" = some none/\aq K (.ref fD) "signal" = some none) (JY:dj K fD=true) (JJ:cp K (.ref fD)=true)
  (zo:az K mainGlobals "Machine" = some (some (.ref dD))) (u5:sV K dD/\aq K (.ref dD) "places" = some none/\aq K (.ref dD) "place_bounds" = some none/\aq K (.ref dD) "edges" = some none) (yT:dj K dD=true) (yP:cp K (.ref dD)=true)
  (Ky:az K mainGlobals "Told" = some (some (.ref fN))) (E4:sV K fN/\aq K (.ref fN) "clocks" = some none/\aq K (.ref fN) "signals" = some none/\aq K (.ref fN) "numbers" = some none/\aq K (.ref fN) "machines" = some none) (JV:dj K fN=true) (JG:cp K (.ref fN)=true)
  (KA:az K mainGlobals "Move" = some (some (.ref fO))) (E6:sV K fO/\aq K (.ref fO) "step" = some none/\aq K (.ref fO) "edges" = some none/\aq K (.ref fO) "is_time" = some none/\aq K (.ref fO) "target" = some none/\aq K (.ref fO) "place_bounds" = some none/\aq K (.ref fO) "kept" = some none) (JX:dj K fO=true) (JI:cp K (.ref fO)=true)
  (Kz:az K mainGlobals "Spot" = some (some (.ref ju))) (E5:sV K ju/\aq K (.ref ju) "moves" = some none/\aq K (.ref ju) "all_moves" = some none/\aq K (.ref ju) "tables" = some none) (JW:dj K ju=true) (JH:cp K (.ref ju)=true)
  (FY:az K mainGlobals "World" = some (some (.ref dX))) (AG:sV K dX/\aq K (.ref dX) "told" = some none/\aq K (.ref dX) "known_spots" = some none/\aq K (.ref dX) "unit" = some none) (Fg:dj K dX=true) (EY:cp K (.ref dX)=true)
  (zm:az K mainGlobals "Reading" = some (some (.ref eP))) (u4:sV K eP/\aq K (.ref eP) "answer" = some none/\aq K (.ref eP) "told" = some none) (yS:dj K eP=true) (yO:cp K (.ref eP)=true)
  (Cn:az K mainGlobals "Search" = some (some (.ref cu))) (xC:sV K cu/\aq K (.ref cu) "world" = some none/\aq K (.ref cu) "states" = some none/\aq K (.ref cu) "seen" = some none/\aq K (.ref cu) "befores" = some none/\aq K (.ref cu) "last_steps" = some none/\aq K (.ref cu) "firsts" = some none/\aq K (.ref cu) "first_stuck" = some none) (BD:dj K cu=true) (Br:cp K (.ref cu)=true)
  (KD:az K mainGlobals "Desk" = some (some (.ref dE))) (E8:sV K dE/\aq K (.ref dE) "told" = some none/\aq K (.ref dE) "found" = some none/\aq K (.ref dE) "units" = some none) (JZ:dj K dE=true) (JK:cp K (.ref dE)=true)
  (KG:az K mainGlobals "Call" = some (some (.ref je))) (E9:sV K je/\aq K (.ref je) "number" = some none/\aq K (.ref je) "most" = some none/\aq K (.ref je) "row" = some none/\aq K (.ref je) "behind" = some none) (J0:dj K je=true) (JL:cp K (.ref je)=true)
  {Mh:Tok}(j6:az K mainGlobals "BEYOND" = some (some (.int (16) Mh)))
  {OF:Tok}(rZ:az K mainGlobals "ALONE" = some (some (.int (0) OF)))
  {OE:Tok}(rY:az K mainGlobals "GIVES" = some (some (.int (1) OE)))
  {OA:Tok}(rW:az K mainGlobals "TAKES" = some (some (.int (2) OA)))
  {CD:Tok}(gQ:az K mainGlobals "CLOCK_BITS" = some (some (.int (5) CD)))
  {CC:Tok}(iM:az K mainGlobals "CLOCK_MASK" = some (some (.int (31) CC)))
  {CF:Tok}(jM:az K mainGlobals "BEYOND_BIT" = some (some (.int (4) CF)))
  {xk:Tok}(fw:az K mainGlobals "ALL_CLOCK_BITS" = some (some (.int (20) xk)))
  {wk:Tok}(eX:az K mainGlobals "ALL_CLOCKS_MASK" = some (some (.int (1048575) wk)))
  {Cz:Tok}(iL:az K mainGlobals "PLACE_BITS" = some (some (.int (3) Cz)))
  {Cy:Tok}(jI:az K mainGlobals "PLACE_MASK" = some (some (.int (7) Cy)))
  (kO:az K mainGlobals "TIME_STEP" = some (some (.ref WV)))
  {E3:Option Addr}{Ha:Nat}{CM:Array (Option Value)}{Gw Gv Gu Gs:Tok}(kM:K.lookup WV=some ⟨.type "tuple",E3,.seq #[.int (-1) Gw,.int (-1) Gv,.int (-1) Gu,.int (-1) Gs] Ha,CM⟩)
  {OC:Tok}(vc:az K mainGlobals "SIGNS" = some (some (.str "\n .<=>0123456789ABCDEFGHIJKLMNOPQRSTUVWXYZabcdefghijklmnopqrstuvwxyz" OC)))
  {IP:Tok}(oS:az K mainGlobals "STRANGE" = some (some (.str "?" IP)))
  (jL:az K mainGlobals "KEPT_WORDS" = some (some (.ref WW)))
  {CN:Option Addr}{Fd:Nat}{Bt:Array (Option Value)}{Eo En Em El Ek Ej Ei Eh Eg:Tok}(jG:K.lookup WW=some ⟨.type "tuple",CN,.seq #[.str "clock" Eo,.str "signal" En,.str "machine" Em,.str "place" El,.str "edge" Ek,.str "when" Ej,.str "set" Ei,.str "give" Eh,.str "take" Eg] Fd,Bt⟩)
  {Ak:Tok}(iq:az K mainGlobals "LONGEST_NAME" = some (some (.int (15) Ak)))
  {A5:Tok}(i3:az K mainGlobals "MOST_CLOCKS" = some (some (.int (4) A5)))
  {Ai:Tok}(ik:az K mainGlobals "MOST_SIGNALS" = some (some (.int (8) Ai)))
  {yF:Tok}(gJ:az K mainGlobals "MOST_MACHINES" = some (some (.int (3) yF)))
  {A3:Tok}(iY:az K mainGlobals "MOST_PLACES" = some (some (.int (8) A3)))
  {CB:Tok}(jK:az K mainGlobals "MOST_EDGES" = some (some (.int (16) CB)))
  {xj:Tok}(gj:az K mainGlobals "HIGHEST_NUMBER" = some (some (.int (15) xj)))
  {A4:Tok}(iZ:az K mainGlobals "MOST_DIGITS" = some (some (.int (2) A4)))
  {A2:Tok}(iX:az K mainGlobals "MOST_STATES" = some (some (.int (50000) A2)))
  {R0:Tok}(wD:az K mainGlobals "LOAD" = some (some (.int (1) R0)))
  {U5:Tok}(zJ:az K mainGlobals "WAY" = some (some (.int (2) U5)))
  {OD:Tok}(rX:az K mainGlobals "LEAST" = some (some (.int (3) OD)))
  {OB:Tok}(u9:az K mainGlobals "STUCK" = some (some (.int (4) OB)))
  {Aj:Tok}(ip:az K mainGlobals "LONGEST_TEXT" = some (some (.int (4096) Aj)))
  {Al:Tok}(ir:az K mainGlobals "LONGEST_ASKS" = some (some (.int (256) Al)))
  {CA:Tok}(jJ:az K mainGlobals "MOST_STEPS" = some (some (.int (65536) CA)))
  {Ah:Tok}(gq:az K mainGlobals "OUT_OF_RANGE" = some (some (.int (-1) Ah)))
  {yE:Tok}(gI:az K mainGlobals "NOTHING_TAKEN" = some (some (.int (-2) yE)))
  {wj:Tok}(fR:az K mainGlobals "TOO_MANY_STATES" = some (some (.int (-3) wj)))
  {Gq:Tok}(mC:az K mainGlobals "TOO_LONG" = some (some (.int (-4) Gq)))
  {Ef:Tok}(kN:az K mainGlobals "WRONG_ASK" = some (some (.int (-5) Ef)))
  {Mg:Tok}(pw:az K mainGlobals "NO_WAY" = some (some (.int (-6) Mg)))
  (eY:az K mainGlobals "len" = some none)
  (mY:az K mainGlobals "range" = some none)
  (Cj:az K mainGlobals "min" = some none)
  (D3:az K mainGlobals "max" = some none)
  (D2:az K mainGlobals "ord" = some none)
  (D5:az K mainGlobals "all" = some none)
  (D4:az K mainGlobals "int" = some none)
  (wW:az K mainGlobals "list" = some none)
  (Ci:az K mainGlobals "zip" = some none)
  (kQ:az K mainGlobals "enumerate" = some none)
  (kI:az K mainGlobals "reversed" = some none)
  (qC:∃f fd,ez K "__init__" "Bounds.__init__" lD f fd/\aq K (.ref cK) "__init__" = some (some (.ref f))/\a9 K (.ref f)=true)
  (mF:∃f fd,ez K "tighten" "Bounds.tighten" jb f fd/\aq K (.ref cK) "tighten" = some (some (.ref f))/\a9 K (.ref f)=true)
  (qD:∃f fd,ez K "hold" "Bounds.hold" lE f fd/\aq K (.ref cK) "hold" = some (some (.ref f))/\a9 K (.ref f)=true)
  (uI:∃f fd,ez K "__init__" "Edge.__init__" oF f fd/\aq K (.ref fD) "__init__" = some (some (.ref f))/\a9 K (.ref f)=true)
  (pG:∃f fd,ez K "__init__" "Machine.__init__" kj f fd/\aq K (.ref dD) "__init__" = some (some (.ref f))/\a9 K (.ref f)=true)
  (uF:∃f fd,ez K "__init__" "Told.__init__" oB f fd/\aq K (.ref fN) "__init__" = some (some (.ref f))/\a9 K (.ref f)=true)
  (lP:∃f fd,ez K "new_bounds" "Told.new_bounds" iF f fd/\aq K (.ref fN) "new_bounds" = some (some (.ref f))/\a9 K (.ref f)=true)
  (mE:∃f fd,ez K "bounds_of" "Told.bounds_of" ja f fd/\aq K (.ref fN) "bounds_of" = some (some (.ref f))/\a9 K (.ref f)=true)
  (uH:∃f fd,ez K "__init__" "Move.__init__" oE f fd/\aq K (.ref fO) "__init__" = some (some (.ref f))/\a9 K (.ref f)=true)
  (kH:∃f fd,ez K "shown_after" "Move.shown_after" ic f fd/\aq K (.ref fO) "shown_after" = some (some (.ref f))/\a9 K (.ref f)=true)
  (lQ:∃f fd,ez K "allowed_by" "Move.allowed_by" iG f fd/\aq K (.ref fO) "allowed_by" = some (some (.ref f))/\a9 K (.ref f)=true)
  (uG:∃f fd,ez K "__init__" "Spot.__init__" oC f fd/\aq K (.ref ju) "__init__" = some (some (.ref f))/\a9 K (.ref f)=true)
  (jt:∃f fd,ez K "allowed_moves" "Spot.allowed_moves" gv f fd/\aq K (.ref ju) "allowed_moves" = some (some (.ref f))/\a9 K (.ref f)=true)
  (nN:∃f fd,ez K "allowed_table" "allowed_table" jz f fd/\az K mainGlobals "allowed_table" = some (some (.ref f)))
  (sm:∃f fd,ez K "__init__" "World.__init__" mR f fd/\aq K (.ref dX) "__init__" = some (some (.ref f))/\a9 K (.ref f)=true)
  (jV:∃f fd,ez K "start_holds" "World.start_holds" gL f fd/\aq K (.ref dX) "start_holds" = some (some (.ref f))/\a9 K (.ref f)=true)
  (kF:∃f fd,ez K "steps_from" "World.steps_from" ib f fd/\aq K (.ref dX) "steps_from" = some (some (.ref f))/\a9 K (.ref f)=true)
  (lO:∃f fd,ez K "one_later" "World.one_later" iE f fd/\aq K (.ref dX) "one_later" = some (some (.ref f))/\a9 K (.ref f)=true)
  (nO:∃f fd,ez K "spot_at" "World.spot_at" jA f fd/\aq K (.ref dX) "spot_at" = some (some (.ref f))/\a9 K (.ref f)=true)
  (y9:∃f fd,ez K "spot_of" "spot_of" rD f fd/\az K mainGlobals "spot_of" = some (some (.ref f)))
  (wN:∃f fd,ez K "place_at" "place_at" pZ f fd/\az K mainGlobals "place_at" = some (some (.ref f)))
  (uC:∃f fd,ez K "places_of" "places_of" oy f fd/\az K mainGlobals "places_of" = some (some (.ref f)))
  (sj:∃f fd,ez K "moves_from" "moves_from" mP f fd/\az K mainGlobals "moves_from" = some (some (.ref f)))
  (sk:∃f fd,ez K "edges_from" "edges_from" mQ f fd/\az K mainGlobals "edges_from" = some (some (.ref f)))
  (uD:∃f fd,ez K "made_move" "made_move" oz f fd/\az K mainGlobals "made_move" = some (some (.ref f)))
  (y6:∃f fd,ez K "text_of" "text_of" rC f fd/\az K mainGlobals "text_of" = some (some (.ref f)))
  (wM:∃f fd,ez K "words_of" "words_of" pY f fd/\az K mainGlobals "words_of" = some (some (.ref f)))
  (zb:∃f fd,ez K "is_name" "is_name" rE f fd/\az K mainGlobals "is_name" = some (some (.ref f)))
  (pF:∃f fd,ez K "__init__" "Reading.__init__" ki f fd/\aq K (.ref eP) "__init__" = some (some (.ref f))/\a9 K (.ref f)=true)
  (uA:∃f fd,ez K "read_text" "read_text" ow f fd/\az K mainGlobals "read_text" = some (some (.ref f)))
  (uy:∃f fd,ez K "take_line" "take_line" ot f fd/\az K mainGlobals "take_line" = some (some (.ref f)))
  (ux:∃f fd,ez K "take_name" "take_name" oq f fd/\az K mainGlobals "take_name" = some (some (.ref f)))
  (si:∃f fd,ez K "take_ahead" "take_ahead" mO f fd/\az K mainGlobals "take_ahead" = some (some (.ref f)))
  (pD:∃f fd,ez K "take_machine" "take_machine" kg f fd/\az K mainGlobals "take_machine" = some (some (.ref f)))
  (sf:∃f fd,ez K "take_place" "take_place" mM f fd/\az K mainGlobals "take_place" = some (some (.ref f)))
  (uz:∃f fd,ez K "take_edge" "take_edge" ou f fd/\az K mainGlobals "take_edge" = some (some (.ref f)))
  (qv:∃f fd,ez K "take_bounds" "take_bounds" lh f fd/\az K mainGlobals "take_bounds" = some (some (.ref f)))
  (sh:∃f fd,ez K "take_bound" "take_bound" mN f fd/\az K mainGlobals "take_bound" = some (some (.ref f)))
  (uv:∃f fd,ez K "take_when" "take_when" om f fd/\az K mainGlobals "take_when" = some (some (.ref f)))
  (uw:∃f fd,ez K "take_sets" "take_sets" oo f fd/\az K mainGlobals "take_sets" = some (some (.ref f)))
  (pC:∃f fd,ez K "take_meeting" "take_meeting" ke f fd/\az K mainGlobals "take_meeting" = some (some (.ref f)))
  (uB:∃f fd,ez K "read_asks" "read_asks" ox f fd/\az K mainGlobals "read_asks" = some (some (.ref f)))
  (qA:∃f fd,ez K "__init__" "Search.__init__" ly f fd/\aq K (.ref cu) "__init__" = some (some (.ref f))/\a9 K (.ref f)=true)
  (qz:∃f fd,ez K "keep" "Search.keep" lu f fd/\aq K (.ref cu) "keep" = some (some (.ref f))/\a9 K (.ref f)=true)
  (pE:∃f fd,ez K "go_on" "Search.go_on" kh f fd/\aq K (.ref cu) "go_on" = some (some (.ref f))/\a9 K (.ref f)=true)
  (i9:∃f fd,ez K "has_too_many" "Search.has_too_many" f9 f fd/\aq K (.ref cu) "has_too_many" = some (some (.ref f))/\a9 K (.ref f)=true)
  (nP:∃f fd,ez K "way_to" "Search.way_to" jB f fd/\aq K (.ref cu) "way_to" = some (some (.ref f))/\a9 K (.ref f)=true)
  (qw:∃f fd,ez K "least_units" "least_units" lj f fd/\az K mainGlobals "least_units" = some (some (.ref f)))
  (wO:∃f fd,ez K "new_ones" "new_ones" p9 f fd/\az K mainGlobals "new_ones" = some (some (.ref f)))
  (uK:∃f fd,ez K "__init__" "Desk.__init__" oH f fd/\aq K (.ref dE) "__init__" = some (some (.ref f))/\a9 K (.ref f)=true)
  (uJ:∃f fd,ez K "load" "Desk.load" oG f fd/\aq K (.ref dE) "load" = some (some (.ref f))/\a9 K (.ref f)=true)
  (wQ:∃f fd,ez K "way" "Desk.way" qa f fd/\aq K (.ref dE) "way" = some (some (.ref f))/\a9 K (.ref f)=true)
  (su:∃f fd,ez K "least" "Desk.least" mT f fd/\aq K (.ref dE) "least" = some (some (.ref f))/\a9 K (.ref f)=true)
  (sr:∃f fd,ez K "stuck" "Desk.stuck" mS f fd/\aq K (.ref dE) "stuck" = some (some (.ref f))/\a9 K (.ref f)=true)
  (pH:∃f fd,ez K "refusal" "Desk.refusal" km f fd/\aq K (.ref dE) "refusal" = some (some (.ref f))/\a9 K (.ref f)=true)
  (jW:∃f fd,ez K "asked_places" "Desk.asked_places" gO f fd/\aq K (.ref dE) "asked_places" = some (some (.ref f))/\a9 K (.ref f)=true)
  (qB:∃f fd,ez K "search" "Desk.search" lC f fd/\aq K (.ref dE) "search" = some (some (.ref f))/\a9 K (.ref f)=true)
  (nQ:∃f fd,ez K "steps_to" "Desk.steps_to" jC f fd/\aq K (.ref dE) "steps_to" = some (some (.ref f))/\a9 K (.ref f)=true)
  (qy:∃f fd,ez K "first_asked" "first_asked" lq f fd/\az K mainGlobals "first_asked" = some (some (.ref f)))
  (uL:∃f fd,ez K "__init__" "Call.__init__" oI f fd/\aq K (.ref je) "__init__" = some (some (.ref f))/\a9 K (.ref f)=true)
  (zc:∃f fd,ez K "answers" "answers" rF f fd/\az K mainGlobals "answers" = some (some (.ref f)))
  (uE:∃f fd,ez K "answer_of" "answer_of" oA f fd/\az K mainGlobals "answer_of" = some (some (.ref f))):Txt K mg ⟨cK,fD,dD,fN,fO,ju,dX,eP,cu,dE,je,WV,WW⟩ where
 mG:=⟨xD.1,by obtain⟨_,h0,h1⟩:=xD;intro f hf;simp only[ah,aF,or_false]at hf;rcases hf with rfl|rfl<;>assumption⟩
 j8:=⟨E7.1,by obtain⟨_,h0,h1,h2,h3,h4,h5,h6,h7⟩:=E7;intro f hf;simp only[ah,aF,or_false]at hf;rcases hf with rfl|rfl|rfl|rfl|rfl|rfl|rfl|rfl<;>assumption⟩
 nh:=⟨u5.1,by obtain⟨_,h0,h1,h2⟩:=u5;intro f hf;simp only[ah,aF,or_false]at hf;rcases hf with rfl|rfl|rfl<;>assumption⟩
 ng:=⟨E4.1,by obtain⟨_,h0,h1,h2,h3⟩:=E4;intro f hf;simp only[ah,aF,or_false]at hf;rcases hf with rfl|rfl|rfl|rfl<;>assumption⟩
 j7:=⟨E6.1,by obtain⟨_,h0,h1,h2,h3,h4,h5⟩:=E6;intro f hf;simp only[ah,aF,or_false]at hf;rcases hf with rfl|rfl|rfl|rfl|rfl|rfl<;>assumption⟩
 qZ:=⟨E5.1,by obtain⟨_,h0,h1,h2⟩:=E5;intro f hf;simp only[ah,aF,or_false]at hf;rcases hf with rfl|rfl|rfl<;>assumption⟩
 jO:=⟨AG.1,by obtain⟨_,h0,h1,h2⟩:=AG;intro f hf;simp only[ah,aF,or_false]at hf;rcases hf with rfl|rfl|rfl<;>assumption⟩
 qg:=⟨u4.1,by obtain⟨_,h0,h1⟩:=u4;intro f hf;simp only[ah,aF,or_false]at hf;rcases hf with rfl|rfl<;>assumption⟩
 fA:=⟨xC.1,by obtain⟨_,h0,h1,h2,h3,h4,h5,h6⟩:=xC;intro f hf;simp only[ah,aF,or_false]at hf;rcases hf with rfl|rfl|rfl|rfl|rfl|rfl|rfl<;>assumption⟩
 iu:=⟨E8.1,by obtain⟨_,h0,h1,h2⟩:=E8;intro f hf;simp only[ah,aF,or_false]at hf;rcases hf with rfl|rfl|rfl<;>assumption⟩
 q0:=⟨E9.1,by obtain⟨_,h0,h1,h2,h3⟩:=E9;intro f hf;simp only[ah,aF,or_false]at hf;rcases hf with rfl|rfl|rfl|rfl<;>assumption⟩
 j6:=⟨_,aB X G j6,_,rfl⟩
 rZ:=⟨_,aB X G rZ,_,rfl⟩
 rY:=⟨_,aB X G rY,_,rfl⟩
 rW:=⟨_,aB X G rW,_,rfl⟩
 gQ:=⟨_,aB X G gQ,_,rfl⟩
 iM:=⟨_,aB X G iM,_,rfl⟩
 jM:=⟨_,aB X G jM,_,rfl⟩
 fw:=⟨_,aB X G fw,_,rfl⟩
 eX:=⟨_,aB X G eX,_,rfl⟩
 iL:=⟨_,aB X G iL,_,rfl⟩
 jI:=⟨_,aB X G jI,_,rfl⟩
 kO:=⟨_,aB X G kO,rfl⟩
 kM:=λH=>.inr ⟨_,_,_,kM,rfl,rfl,(by simp[sizeLine]),.cons ⟨_,rfl⟩ (.cons ⟨_,rfl⟩ (.cons ⟨_,rfl⟩ (.cons ⟨_,rfl⟩ (.nil))))⟩
 vc:=⟨_,aB X G vc,_,rfl⟩
 oS:=⟨_,aB X G oS,_,rfl⟩
 jL:=⟨_,aB X G jL,rfl⟩
 jG:=λH=>.inr ⟨_,_,_,jG,rfl,rfl,(by simp[sizeLine]),.cons ⟨_,rfl⟩ (.cons ⟨_,rfl⟩ (.cons ⟨_,rfl⟩ (.cons ⟨_,rfl⟩ (.cons ⟨_,rfl⟩ (.cons ⟨_,rfl⟩ (.cons ⟨_,rfl⟩ (.cons ⟨_,rfl⟩ (.cons ⟨_,rfl⟩ (.nil)))))))))⟩
 iq:=⟨_,aB X G iq,_,rfl⟩
 i3:=⟨_,aB X G i3,_,rfl⟩
 ik:=⟨_,aB X G ik,_,rfl⟩
 gJ:=⟨_,aB X G gJ,_,rfl⟩
 iY:=⟨_,aB X G iY,_,rfl⟩
 jK:=⟨_,aB X G jK,_,rfl⟩
 gj:=⟨_,aB X G gj,_,rfl⟩
 iZ:=⟨_,aB X G iZ,_,rfl⟩
 iX:=⟨_,aB X G iX,_,rfl⟩
 wD:=⟨_,aB X G wD,_,rfl⟩
 zJ:=⟨_,aB X G zJ,_,rfl⟩
 rX:=⟨_,aB X G rX,_,rfl⟩
 u9:=⟨_,aB X G u9,_,rfl⟩
 ip:=⟨_,aB X G ip,_,rfl⟩
 ir:=⟨_,aB X G ir,_,rfl⟩
 jJ:=⟨_,aB X G jJ,_,rfl⟩
 gq:=⟨_,aB X G gq,_,rfl⟩
 gI:=⟨_,aB X G gI,_,rfl⟩
 fR:=⟨_,aB X G fR,_,rfl⟩
 mC:=⟨_,aB X G mC,_,rfl⟩
 kN:=⟨_,aB X G kN,_,rfl⟩
 pw:=⟨_,aB X G pw,_,rfl⟩
 eY:=dh X G eY
 mY:=dh X G mY
 Cj:=dh X G Cj
 D3:=dh X G D3
 D2:=dh X G D2
 D5:=dh X G D5
 D4:=dh X G D4
 wW:=dh X G wW
 Ci:=dh X G Ci
 kQ:=dh X G kQ
 kI:=dh X G kI
 vW:=let ⟨f,fd,F,e,i⟩:=qC;⟨f,fd,F,⟨BE,e,i,Bs⟩,aB X G Co⟩
 qX:=let ⟨f,fd,F,e,i⟩:=mF;⟨f,fd,F,⟨e,i,F.kp⟩⟩
 vX:=let ⟨f,fd,F,e,i⟩:=qD;⟨f,fd,F,⟨e,i,F.kp⟩⟩
 zZ:=let ⟨f,fd,F,e,i⟩:=uI;⟨f,fd,F,⟨JY,e,i,JJ⟩,aB X G KC⟩
 ur:=let ⟨f,fd,F,e,i⟩:=pG;⟨f,fd,F,⟨yT,e,i,yP⟩,aB X G zo⟩
 zW:=let ⟨f,fd,F,e,i⟩:=uF;⟨f,fd,F,⟨JV,e,i,JG⟩,aB X G Ky⟩
 qd:=let ⟨f,fd,F,e,i⟩:=lP;⟨f,fd,F,⟨e,i,F.kp⟩⟩
 qW:=let ⟨f,fd,F,e,i⟩:=mE;⟨f,fd,F,⟨e,i,F.kp⟩⟩
 zY:=let ⟨f,fd,F,e,i⟩:=uH;⟨f,fd,F,⟨JX,e,i,JI⟩,aB X G KA⟩
 pB:=let ⟨f,fd,F,e,i⟩:=kH;⟨f,fd,F,⟨e,i,F.kp⟩⟩
 qf:=let ⟨f,fd,F,e,i⟩:=lQ;⟨f,fd,F,⟨e,i,F.kp⟩⟩
 zX:=let ⟨f,fd,F,e,i⟩:=uG;⟨f,fd,F,⟨JW,e,i,JH⟩,aB X G Kz⟩
 m9:=let ⟨f,fd,F,e,i⟩:=jt;⟨f,fd,F,⟨e,i,F.kp⟩⟩
 sO:=let ⟨f,fd,F,e⟩:=nN;⟨f,fd,F,aB X G e⟩
 xU:=let ⟨f,fd,F,e,i⟩:=sm;⟨f,fd,F,⟨Fg,e,i,EY⟩,aB X G FY⟩
 n0:=let ⟨f,fd,F,e,i⟩:=jV;⟨f,fd,F,⟨e,i,F.kp⟩⟩
 pA:=let ⟨f,fd,F,e,i⟩:=kF;⟨f,fd,F,⟨e,i,F.kp⟩⟩
 qc:=let ⟨f,fd,F,e,i⟩:=lO;⟨f,fd,F,⟨e,i,F.kp⟩⟩
 sP:=let ⟨f,fd,F,e,i⟩:=nO;⟨f,fd,F,⟨e,i,F.kp⟩⟩
 DQ:=let ⟨f,fd,F,e⟩:=y9;⟨f,fd,F,aB X G e⟩
 BV:=let ⟨f,fd,F,e⟩:=wN;⟨f,fd,F,aB X G e⟩
 zT:=let ⟨f,fd,F,e⟩:=uC;⟨f,fd,F,aB X G e⟩
 xS:=let ⟨f,fd,F,e⟩:=sj;⟨f,fd,F,aB X G e⟩
 xT:=let ⟨f,fd,F,e⟩:=sk;⟨f,fd,F,aB X G e⟩
 zU:=let ⟨f,fd,F,e⟩:=uD;⟨f,fd,F,aB X G e⟩
 DP:=let ⟨f,fd,F,e⟩:=y6;⟨f,fd,F,aB X G e⟩
 BU:=let ⟨f,fd,F,e⟩:=wM;⟨f,fd,F,aB X G e⟩
 DR:=let ⟨f,fd,F,e⟩:=zb;⟨f,fd,F,aB X G e⟩
 uq:=let ⟨f,fd,F,e,i⟩:=pF;⟨f,fd,F,⟨yS,e,i,yO⟩,aB X G zm⟩
 zR:=let ⟨f,fd,F,e⟩:=uA;⟨f,fd,F,aB X G e⟩
 zP:=let ⟨f,fd,F,e⟩:=uy;⟨f,fd,F,aB X G e⟩
 zO:=let ⟨f,fd,F,e⟩:=ux;⟨f,fd,F,aB X G e⟩
 xR:=let ⟨f,fd,F,e⟩:=si;⟨f,fd,F,aB X G e⟩
 um:=let ⟨f,fd,F,e⟩:=pD;⟨f,fd,F,aB X G e⟩
 xP:=let ⟨f,fd,F,e⟩:=sf;⟨f,fd,F,aB X G e⟩
 zQ:=let ⟨f,fd,F,e⟩:=uz;⟨f,fd,F,aB X G e⟩
 vO:=let ⟨f,fd,F,e⟩:=qv;⟨f,fd,F,aB X G e⟩
 xQ:=let ⟨f,fd,F,e⟩:=sh;⟨f,fd,F,aB X G e⟩
 zM:=let ⟨f,fd,F,e⟩:=uv;⟨f,fd,F,aB X G e⟩
 zN:=let ⟨f,fd,F,e⟩:=uw;⟨f,fd,F,aB X G e⟩
 uk:=let ⟨f,fd,F,e⟩:=pC;⟨f,fd,F,aB X G e⟩
 zS:=let ⟨f,fd,F,e⟩:=uB;⟨f,fd,F,aB X G e⟩
 vS:=let ⟨f,fd,F,e,i⟩:=qA;⟨f,fd,F,⟨BD,e,i,Br⟩,aB X G Cn⟩
 vR:=let ⟨f,fd,F,e,i⟩:=qz;⟨f,fd,F,⟨e,i,F.kp⟩⟩
 uo:=let ⟨f,fd,F,e,i⟩:=pE;⟨f,fd,F,⟨e,i,F.kp⟩⟩
 mh:=let ⟨f,fd,F,e,i⟩:=i9;⟨f,fd,F,⟨e,i,F.kp⟩⟩
 sQ:=let ⟨f,fd,F,e,i⟩:=nP;⟨f,fd,F,⟨e,i,F.kp⟩⟩
 vP:=let ⟨f,fd,F,e⟩:=qw;⟨f,fd,F,aB X G e⟩
 BW:=let ⟨f,fd,F,e⟩:=wO;⟨f,fd,F,aB X G e⟩
 z4:=let ⟨f,fd,F,e,i⟩:=uK;⟨f,fd,F,⟨JZ,e,i,JK⟩,aB X G KD⟩
 z3:=let ⟨f,fd,F,e,i⟩:=uJ;⟨f,fd,F,⟨e,i,F.kp⟩⟩
 BX:=let ⟨f,fd,F,e,i⟩:=wQ;⟨f,fd,F,⟨e,i,F.kp⟩⟩
 xW:=let ⟨f,fd,F,e,i⟩:=su;⟨f,fd,F,⟨e,i,F.kp⟩⟩
 xV:=let ⟨f,fd,F,e,i⟩:=sr;⟨f,fd,F,⟨e,i,F.kp⟩⟩
 uu:=let ⟨f,fd,F,e,i⟩:=pH;⟨f,fd,F,⟨e,i,F.kp⟩⟩
 oe:=let ⟨f,fd,F,e,i⟩:=jW;⟨f,fd,F,⟨e,i,F.kp⟩⟩
 vV:=let ⟨f,fd,F,e,i⟩:=qB;⟨f,fd,F,⟨e,i,F.kp⟩⟩
 sR:=let ⟨f,fd,F,e,i⟩:=nQ;⟨f,fd,F,⟨e,i,F.kp⟩⟩
 vQ:=let ⟨f,fd,F,e⟩:=qy;⟨f,fd,F,aB X G e⟩
 z5:=let ⟨f,fd,F,e,i⟩:=uL;⟨f,fd,F,⟨J0,e,i,JL⟩,aB X G KG⟩
 DS:=let ⟨f,fd,F,e⟩:=zc;⟨f,fd,F,aB X G e⟩
 zV:=let ⟨f,fd,F,e⟩:=uE;⟨f,fd,F,aB X G e⟩
theorem WC {P:Program}{w:World}{K:aa}{mg:Str->Option Value}{t:cT}{fa:Addr}(T:Txt K mg t) (hfa:mg "answers" = some (.ref fa)):∃fd:FuncData,(∀(s:Shared) (us:List Value),us.length=(["calls"]:List Str).length->BindsTo s fd ⟨us,[]⟩ ((["calls"]:List Str).zip us))/\∀base:Heap,K.In base->base.Ns mainGlobals mg->pR P w K mg base NR 15 fa fd ["calls"] (yH K):=by
 obtain⟨f,fd,e,b,F⟩:=NC (P:=P) (w:=w) T;cases hfa.symm.trans e;exact⟨fd,b,λbase _ _=>F base⟩
end Mp
open PySem PySem.W PyProof.Rows
set_option maxRecDepth 100000 in
set_option maxHeartbeats 0 in
theorem PySem.Challenge.cw_meetclocks_s01_answers_holds : PySem.Challenge.rw_meetclocks_s01_answers.Holds := by
 w_on;k_headS;(case hw=>exact⟨[.list [.int 4,.int 0]],by decide +kernel,by decide +kernel⟩)
 k_fillS
 refine L2.IH (r:=PySem.Challenge.rw_meetclocks_s01_answers) (k:=15) (CX:=L2.NR) (ps:=["calls"]) (sp:=Mp.yH) (by decide +kernel) rfl rfl ⟨rfl,by decide,by decide⟩ (λw h Y=>PySem.W.kIn_of Y) ?F ?S (λ_ _ _ _ z=>z)
 case F =>
  intro w mg fa h Y KX G hmg;refine' Mp.WC (Mp.U3 KX G ?Co ?xD ?BE ?Bs ?KC ?E7 ?JY ?JJ ?zo ?u5 ?yT ?yP ?Ky ?E4 ?JV ?JG ?KA ?E6 ?JX ?JI ?Kz ?E5 ?JW ?JH ?FY ?AG ?Fg ?EY ?zm ?u4 ?yS ?yO ?Cn ?xC ?BD ?Br ?KD ?E8 ?JZ ?JK ?KG ?E9 ?J0 ?JL ?j6 ?rZ ?rY ?rW ?gQ ?iM ?jM ?fw ?eX ?iL ?jI ?kO ?kM ?vc ?oS ?jL ?jG ?iq ?i3 ?ik ?gJ ?iY ?jK ?gj ?iZ ?iX ?wD ?zJ ?rX ?u9 ?ip ?ir ?jJ ?gq ?gI ?fR ?mC ?kN ?pw ?eY ?mY ?Cj ?D3 ?D2 ?D5 ?D4 ?wW ?Ci ?kQ ?kI ?qC ?mF ?qD ?uI ?pG ?uF ?lP ?mE ?uH ?kH ?lQ ?uG ?jt ?nN ?sm ?jV ?kF ?lO ?nO ?y9 ?wN ?uC ?sj ?sk ?uD ?y6 ?wM ?zb ?pF ?uA ?uy ?ux ?si ?pD ?sf ?uz ?qv ?sh ?uv ?uw ?pC ?uB ?qA ?qz ?pE ?i9 ?nP ?qw ?wO ?uK ?uJ ?wQ ?su ?sr ?pH ?jW ?qB ?nQ ?qy ?uL ?zc ?uE) hmg
  (case Co=>k_is)
  (case xD=>exact⟨⟨by k_is,by k_is,by k_is,by k_is⟩,by k_is,by k_is⟩)
  (case BE|Bs|KC=>k_is)
  (case E7=>exact⟨⟨by k_is,by k_is,by k_is,by k_is⟩,by k_is,by k_is,by k_is,by k_is,by k_is,by k_is,by k_is,by k_is⟩)
  (case JY|JJ|zo=>k_is)
  (case u5=>exact⟨⟨by k_is,by k_is,by k_is,by k_is⟩,by k_is,by k_is,by k_is⟩)
  (case yT|yP|Ky=>k_is)
  (case E4=>exact⟨⟨by k_is,by k_is,by k_is,by k_is⟩,by k_is,by k_is,by k_is,by k_is⟩)
  (case JV|JG|KA=>k_is)
  (case E6=>exact⟨⟨by k_is,by k_is,by k_is,by k_is⟩,by k_is,by k_is,by k_is,by k_is,by k_is,by k_is⟩)
  (case JX|JI|Kz=>k_is)
  (case E5=>exact⟨⟨by k_is,by k_is,by k_is,by k_is⟩,by k_is,by k_is,by k_is⟩)
  (case JW|JH|FY=>k_is)
  (case AG=>exact⟨⟨by k_is,by k_is,by k_is,by k_is⟩,by k_is,by k_is,by k_is⟩)
  (case Fg|EY|zm=>k_is)
  (case u4=>exact⟨⟨by k_is,by k_is,by k_is,by k_is⟩,by k_is,by k_is⟩)
  (case yS|yO|Cn=>k_is)
  (case xC=>exact⟨⟨by k_is,by k_is,by k_is,by k_is⟩,by k_is,by k_is,by k_is,by k_is,by k_is,by k_is,by k_is⟩)
  (case BD|Br|KD=>k_is)
  (case E8=>exact⟨⟨by k_is,by k_is,by k_is,by k_is⟩,by k_is,by k_is,by k_is⟩)
  (case JZ|JK|KG=>k_is)
  (case E9=>exact⟨⟨by k_is,by k_is,by k_is,by k_is⟩,by k_is,by k_is,by k_is,by k_is⟩)
  (case J0|JL|j6|rZ|rY|rW|gQ|iM|jM|fw|eX|iL|jI|kO|kM|vc|oS|jL|jG|iq|i3|ik|gJ|iY|jK|gj|iZ|iX|wD|zJ|rX|u9|ip|ir|jJ|gq|gI|fR|mC|kN|pw|eY|mY|Cj|D3|D2|D5|D4|wW|Ci|kQ|kI=>k_is)
  (case qC=>refine' Mp.fS (st:=Mp.lD) ?a ?i ?l ?c ?k;case a|i|l|c|k=>k_is)
  (case mF=>refine' Mp.fS (st:=Mp.jb) ?a ?i ?l ?c ?k;case a|i|l|c|k=>k_is)
  (case qD=>refine' Mp.fS (st:=Mp.lE) ?a ?i ?l ?c ?k;case a|i|l|c|k=>k_is)
  (case uI=>refine' Mp.fS (st:=Mp.oF) ?a ?i ?l ?c ?k;case a|i|l|c|k=>k_is)
  (case pG=>refine' Mp.fS (st:=Mp.kj) ?a ?i ?l ?c ?k;case a|i|l|c|k=>k_is)
  (case uF=>refine' Mp.fS (st:=Mp.oB) ?a ?i ?l ?c ?k;case a|i|l|c|k=>k_is)
  (case lP=>refine' Mp.fS (st:=Mp.iF) ?a ?i ?l ?c ?k;case a|i|l|c|k=>k_is)
  (case mE=>refine' Mp.fS (st:=Mp.ja) ?a ?i ?l ?c ?k;case a|i|l|c|k=>k_is)
  (case uH=>refine' Mp.fS (st:=Mp.oE) ?a ?i ?l ?c ?k;case a|i|l|c|k=>k_is)
  (case kH=>refine' Mp.fS (st:=Mp.ic) ?a ?i ?l ?c ?k;case a|i|l|c|k=>k_is)
  (case lQ=>refine' Mp.fS (st:=Mp.iG) ?a ?i ?l ?c ?k;case a|i|l|c|k=>k_is)
  (case uG=>refine' Mp.fS (st:=Mp.oC) ?a ?i ?l ?c ?k;case a|i|l|c|k=>k_is)
  (case jt=>refine' Mp.fS (st:=Mp.gv) ?a ?i ?l ?c ?k;case a|i|l|c|k=>k_is)
  (case nN=>refine' Mp.hZ (st:=Mp.jz) ?a ?l ?c ?k;case a|l|c|k=>k_is)
  (case sm=>refine' Mp.fS (st:=Mp.mR) ?a ?i ?l ?c ?k;case a|i|l|c|k=>k_is)
  (case jV=>refine' Mp.fS (st:=Mp.gL) ?a ?i ?l ?c ?k;case a|i|l|c|k=>k_is)
  (case kF=>refine' Mp.fS (st:=Mp.ib) ?a ?i ?l ?c ?k;case a|i|l|c|k=>k_is)
  (case lO=>refine' Mp.fS (st:=Mp.iE) ?a ?i ?l ?c ?k;case a|i|l|c|k=>k_is)
  (case nO=>refine' Mp.fS (st:=Mp.jA) ?a ?i ?l ?c ?k;case a|i|l|c|k=>k_is)
  (case y9=>refine' Mp.hZ (st:=Mp.rD) ?a ?l ?c ?k;case a|l|c|k=>k_is)
  (case wN=>refine' Mp.hZ (st:=Mp.pZ) ?a ?l ?c ?k;case a|l|c|k=>k_is)
  (case uC=>refine' Mp.hZ (st:=Mp.oy) ?a ?l ?c ?k;case a|l|c|k=>k_is)
  (case sj=>refine' Mp.hZ (st:=Mp.mP) ?a ?l ?c ?k;case a|l|c|k=>k_is)
  (case sk=>refine' Mp.hZ (st:=Mp.mQ) ?a ?l ?c ?k;case a|l|c|k=>k_is)
  (case uD=>refine' Mp.hZ (st:=Mp.oz) ?a ?l ?c ?k;case a|l|c|k=>k_is)
  (case y6=>refine' Mp.hZ (st:=Mp.rC) ?a ?l ?c ?k;case a|l|c|k=>k_is)
  (case wM=>refine' Mp.hZ (st:=Mp.pY) ?a ?l ?c ?k;case a|l|c|k=>k_is)
  (case zb=>refine' Mp.hZ (st:=Mp.rE) ?a ?l ?c ?k;case a|l|c|k=>k_is)
  (case pF=>refine' Mp.fS (st:=Mp.ki) ?a ?i ?l ?c ?k;case a|i|l|c|k=>k_is)
  (case uA=>refine' Mp.hZ (st:=Mp.ow) ?a ?l ?c ?k;case a|l|c|k=>k_is)
  (case uy=>refine' Mp.hZ (st:=Mp.ot) ?a ?l ?c ?k;case a|l|c|k=>k_is)
  (case ux=>refine' Mp.hZ (st:=Mp.oq) ?a ?l ?c ?k;case a|l|c|k=>k_is)
  (case si=>refine' Mp.hZ (st:=Mp.mO) ?a ?l ?c ?k;case a|l|c|k=>k_is)
  (case pD=>refine' Mp.hZ (st:=Mp.kg) ?a ?l ?c ?k;case a|l|c|k=>k_is)
  (case sf=>refine' Mp.hZ (st:=Mp.mM) ?a ?l ?c ?k;case a|l|c|k=>k_is)
  (case uz=>refine' Mp.hZ (st:=Mp.ou) ?a ?l ?c ?k;case a|l|c|k=>k_is)
  (case qv=>refine' Mp.hZ (st:=Mp.lh) ?a ?l ?c ?k;case a|l|c|k=>k_is)
  (case sh=>refine' Mp.hZ (st:=Mp.mN) ?a ?l ?c ?k;case a|l|c|k=>k_is)
  (case uv=>refine' Mp.hZ (st:=Mp.om) ?a ?l ?c ?k;case a|l|c|k=>k_is)
  (case uw=>refine' Mp.hZ (st:=Mp.oo) ?a ?l ?c ?k;case a|l|c|k=>k_is)
  (case pC=>refine' Mp.hZ (st:=Mp.ke) ?a ?l ?c ?k;case a|l|c|k=>k_is)
  (case uB=>refine' Mp.hZ (st:=Mp.ox) ?a ?l ?c ?k;case a|l|c|k=>k_is)
  (case qA=>refine' Mp.fS (st:=Mp.ly) ?a ?i ?l ?c ?k;case a|i|l|c|k=>k_is)
  (case qz=>refine' Mp.fS (st:=Mp.lu) ?a ?i ?l ?c ?k;case a|i|l|c|k=>k_is)
  (case pE=>refine' Mp.fS (st:=Mp.kh) ?a ?i ?l ?c ?k;case a|i|l|c|k=>k_is)
  (case i9=>refine' Mp.fS (st:=Mp.f9) ?a ?i ?l ?c ?k;case a|i|l|c|k=>k_is)
  (case nP=>refine' Mp.fS (st:=Mp.jB) ?a ?i ?l ?c ?k;case a|i|l|c|k=>k_is)
  (case qw=>refine' Mp.hZ (st:=Mp.lj) ?a ?l ?c ?k;case a|l|c|k=>k_is)
  (case wO=>refine' Mp.hZ (st:=Mp.p9) ?a ?l ?c ?k;case a|l|c|k=>k_is)
  (case uK=>refine' Mp.fS (st:=Mp.oH) ?a ?i ?l ?c ?k;case a|i|l|c|k=>k_is)
  (case uJ=>refine' Mp.fS (st:=Mp.oG) ?a ?i ?l ?c ?k;case a|i|l|c|k=>k_is)
  (case wQ=>refine' Mp.fS (st:=Mp.qa) ?a ?i ?l ?c ?k;case a|i|l|c|k=>k_is)
  (case su=>refine' Mp.fS (st:=Mp.mT) ?a ?i ?l ?c ?k;case a|i|l|c|k=>k_is)
  (case sr=>refine' Mp.fS (st:=Mp.mS) ?a ?i ?l ?c ?k;case a|i|l|c|k=>k_is)
  (case pH=>refine' Mp.fS (st:=Mp.km) ?a ?i ?l ?c ?k;case a|i|l|c|k=>k_is)
  (case jW=>refine' Mp.fS (st:=Mp.gO) ?a ?i ?l ?c ?k;case a|i|l|c|k=>k_is)
  (case qB=>refine' Mp.fS (st:=Mp.lC) ?a ?i ?l ?c ?k;case a|i|l|c|k=>k_is)
  (case nQ=>refine' Mp.fS (st:=Mp.jC) ?a ?i ?l ?c ?k;case a|i|l|c|k=>k_is)
  (case qy=>refine' Mp.hZ (st:=Mp.lq) ?a ?l ?c ?k;case a|l|c|k=>k_is)
  (case uL=>refine' Mp.fS (st:=Mp.oI) ?a ?i ?l ?c ?k;case a|i|l|c|k=>k_is)
  (case zc=>refine' Mp.hZ (st:=Mp.rF) ?a ?l ?c ?k;case a|l|c|k=>k_is)
  (case uE=>refine' Mp.hZ (st:=Mp.oA) ?a ?l ?c ?k;case a|l|c|k=>k_is)
 case S =>
  intro K H xs a hO hwi ui hx;cases hx with
  | cons h1 h2 =>
   cases h2;cases h1 with
   | lst hs ha =>
    have e:=L2.Lu a.1 _ ha;subst e;exact⟨_,a.1,rfl,hO,hs,ui,λp H' hp=>.lst (L2.dO.of hp) (L2.LM _)⟩
